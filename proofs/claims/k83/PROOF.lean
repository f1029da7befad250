import PyProof.Rows.All
import Wide.All
import OpenK.AllK
import Wide.FinOn
import Lean
import PyProof.EqAt
import PyProof.EqKinds
import PyProof.TupleCall
import KE.KSortTup
import PyProof.NeKinds
import PyProof.ExcBaseAll.ValueError
import PyProof.ExcArgsOwn
import PyProof.NsDelKeeps
import PyProof.RulesAs
import PyProof.FString
import PyProof.AttrMissSeq
import PyProof.WalksS
import KE.KDictList
import KE.KDictSum
import PyProof.MinMaxWalk
import KE.KMinKey
import PyProof.Rows.CallKwBuiltin
import PyProof.Rows.RuleDivmod
import PyProof.ListMulAny
import PyProof.FactsAll.tuple
import KE.KRevIter
import PyProof.EnumMake
import KE.KMulAny
import PyProof.FactsAll.range
import PyProof.Rows.StrNews
import KE.KIntText
import PyProof.StrWalks
import KE.KLam
import KE.KNestM
import PyProof.ExcInit
import PyProof.InstStoreFacts
import PyProof.StrBlock2
import PyProof.StrBlockI
import PyProof.Rows.StrClose
import PySem.Challenge.RW_holefloor_k83_texts_spoilt_anywhere
open PySem.Str renaming ofString→oS
open List renaming length_map->Waa, getElem?_eq_getElem->Wab, replicate->Wad, size_toArray->Wae, getElem?_map->Waf, length_cons->Wag, getElem?_eq_some_iff->Wah, mem_cons->Wai, getElem?_set_self->Wak, length_append->Wal, getElem?_set_ne->Wan, mem_cons_of_mem->Wap, getD_eq_getElem?_getD->Waq, mem_singleton->Was, mem_cons_self->Wat, map_append->Wau, mem_of_getElem?->Wav, getElem?_append_right->Wax, getElem?_append_left->Waz, mem_append_right->Wa0, mem_append->Wa1, mem_map->Wa2, map_cons->Wa3, all_eq_true->Wa4, length_replicate->Wa5, map_map->Wa8, length->Wbb, not_mem_nil->Wbc, getElem_mem->Wbd, getElem?_replicate->Wbe, append_nil->Wbg, getElem_toArray->Wbh, length_take->Wbj, append_assoc->Wbk, tail->Wbl, map->Wbn, length_singleton->Wbo, mem_range->Wbp, length_drop->Wbq, length_set->Wbs, filter_eq_self->Wbt, filter_append->Wbv, ext_getElem?->Wby, filter_cons->Wbz, eq_nil_of_length_eq_zero->Wb0, cons_append->Wb1, range->Wb2, mem_filter->Wb3, take_of_length_le->Wb4, lookup_cons->Wb5, getElem?_zip_eq_some->Wb6, mem_of_mem_take->Wb7, mem_append_left->Wb8, find?_cons->Wca, length_eq_zero_iff->Wcb, any_cons->Wcc, getElem?_eq_none->Wcf, mem_of_mem_drop->Wcj, mem_iff_getElem->Wck, take_length->Wcm, replicate_succ->Wcn, length_pos_iff->Wco, set_eq_of_length_le->Wcp, nodup_cons->Wcs, find?_cons_of_neg->Wcu, take_add_one->Wcv, length_range->Wcw, getElem?_set->Wcx, length_filter_le->Wcz, all_cons->Wc0, map_congr_left->Wc1, zip_cons_cons->Wc3, mem_or_eq_of_mem_set->Wc4, getLast?_eq_some_iff->Wc5, mem_of_mem_eraseIdx->Wc7, count_append->Wc8, filter_eq_nil_iff->Wdc, of_mem_zip->Wdd, map_set->Wde, map_nil->Wdf, take_succ->Wdh, filterMap_cons->Wdk, sum_cons->Wdn, mem_replicate->Wdo, map_take->Wdp, map_replicate->Wdq, map_drop->Wdr, count_eq_zero->Wds, contains_cons->Wdt, take_sublist->Wdw, eraseIdx_eq_take_drop_succ->Wdx, all_map->Wdy, isEmpty_iff->Wdz
open PySem.Heap renaming get?_push_of_some->Wac, get?_push_size->Wam, lt_size->War, get?_update_other->Wba, get?_update_self->Wbi, size_push->Wbr, get?_none_of_le->Wcl
open Nat renaming le_refl->Waj, le_trans->Way, ne_of_lt->Wa7, lt_of_lt_of_le->Wa9, le_of_lt->Wbm, zero_le->Wbu, add_le_add_right->Wbw, mul_le_mul_right->Wb9, lt_of_le_of_lt->Wcd, lt_irrefl->Wci, ne_of_gt->Wcr, lt_succ_of_lt->Wcy, min_eq_left->Wc2, le_succ->Wdb, add_le_add->Wdj, add_le_add_left->Wdl
open Bool renaming false_ne_true->Wao, and_eq_true->Wa6, eq_iff_iff->Wcg, eq_false_iff->Wch, beq_eq_decide_eq->Wdg, false_and->Wdi, true_and->Wdu, and_self->Wdv
open Option renaming some->Waw, bind_some->Wc9, map_eq_some_iff->Wda, isSome_map->Wdm
open Int renaming toNat_natCast->Wbf, zero_add->Wbx, emod_lt_of_pos->Wce, le_refl->Wcq, emod_nonneg->Wct, natCast_nonneg->Wc6
set_option Elab.async false
set_option linter.all false
set_option maxRecDepth 100000
open PySem renaming wpAny_bind -> Qbn, wpAny_pure -> Qbo, wpAny_mono -> Qbp, wpAny_holding -> Qbq, wpAny_standAt -> Qbr, wpAny_attempt -> Qbs, wpAny_rule -> Qbt, wpAny_call -> Qbu
theorem Qbv {c:Prop}{h:Decidable c}(k:¬c){α:Sort _}{t e:α}:ite c t e=e:=if_neg k
theorem Qbw {c:Prop}{h:Decidable c}(k:c){α:Sort _}{t e:α}:ite c t e=t:=if_pos k
theorem Qbx {p:Prop}{h:Decidable p}(k:p):decide p=true:=decide_eq_true k
theorem Qby {p:Prop}{h:Decidable p}(k:¬p):decide p=false:=decide_eq_false k
open PySem in
abbrev Qbz:=List (Addr × Obj)
open PySem in
abbrev Qb0:=Value->Shared->Prop
abbrev Qb1:=List (Int × Int)
abbrev Qb2:=List (List Int)
namespace L2
open PySem PySem.Spec PyProof.Rows
abbrev Key:=Sum Int Str
def keyIs:Key->Value->Bool
 |.inl k,v=>Value.isInt k v
 |.inr x,v=>Value.isStrOf x v
def keyH (w:World):Key->Int
 |.inl k=>hashInt k
 |.inr x=>hashStr w x
theorem Zbk:∀{k:Key}{v:Value},keyIs k v=true->(∃i t,k=Sum.inl i/\v=Value.int i t)\/(∃x t,k=Sum.inr x/\v=Value.str x t)
 |.inl i,v,h=>by
  obtain⟨t,e⟩:=Value.isInt_shape (k:=i) (v:=v) h;exact .inl ⟨i,t,rfl,e⟩
 |.inr x,v,h=>by
  obtain⟨t,e⟩:=Value.isStrOf_shape (x:=x) (v:=v) h;exact .inr ⟨x,t,rfl,e⟩
theorem Zoc (i:Int) (t:Tok):keyIs (.inl i) (.int i t)=true:=by simp[keyIs,Value.isInt]
theorem Znh (x:Str) (t:Tok):keyIs (.inr x) (.str x t)=true:=by simp[keyIs,Value.isStrOf]
theorem Zwr (a b:Int):decide ((Sum.inl a:Key)=Sum.inl b)=(a == b):=by
 by_cases e:a=b
 ·subst e;simp
 ·have h:¬ (Sum.inl a:Key)=Sum.inl b:=λq=>e (Sum.inl.inj q)
  rw[Qby h];exact(beq_eq_false_iff_ne.mpr e).symm
theorem Zvk (a b:Str):decide ((Sum.inr a:Key)=Sum.inr b)=decide (a=b):=by
 by_cases e:a=b
 ·subst e;simp
 ·have h:¬ (Sum.inr a:Key)=Sum.inr b:=λq=>e (Sum.inr.inj q)
  rw[Qby h,Qby e]
theorem Zwh (a:Int) (b:Str):decide ((Sum.inl a:Key)=Sum.inr b)=false:=Qby λq=>nomatch q
theorem Zwb (a:Str) (b:Int):decide ((Sum.inr a:Key)=Sum.inl b)=false:=Qby λq=>nomatch q
def mixKind (prog:Program) (w:World):PySem.KeyKind prog w Key where
 is:=keyIs
 hash:=keyH w
 inj:=λv a b ha hb=>by
  rcases Zbk ha with ⟨i,t,rfl,rfl⟩|⟨x,t,rfl,rfl⟩
  ·rcases Zbk hb with ⟨j,u,rfl,e⟩|⟨y,u,rfl,e⟩
   ·injection e with e1 _;rw[e1]
   ·exact nomatch e
  ·rcases Zbk hb with ⟨j,u,rfl,e⟩|⟨y,u,rfl,e⟩
   ·exact nomatch e
   ·injection e with e1 _;rw[e1]
 byValue:=λk v h=>by
  rcases Zbk h with ⟨i,t,rfl,rfl⟩|⟨x,t,rfl,rfl⟩ <;> rfl
 pyHash:=λhv h=>by
  rcases Zbk hv with ⟨i,t,rfl,rfl⟩|⟨x,t,rfl,rfl⟩
  ·exact wpAny_pyHash_int h
  ·exact wpAny_pyHash_str h
 eqBool:=λhu hv h=>by
  rcases Zbk hu with ⟨i,t,rfl,rfl⟩|⟨x,t,rfl,rfl⟩
  ·rcases Zbk hv with ⟨j,u,rfl,rfl⟩|⟨y,u,rfl,rfl⟩
   ·rw[Zwr]at h;exact wpAny_eqBool_int h
   ·rw[Zwh]at h;exact SeqAt.EqAt.int_str i t y u _ _ _ _ h
  ·rcases Zbk hv with ⟨j,u,rfl,rfl⟩|⟨y,u,rfl,rfl⟩
   ·rw[Zwb]at h;exact SeqAt.EqAt.str_int x t j u _ _ _ _ h
   ·rw[Zvk]at h;exact wpAny_eqBool_str h
 «strs»:=λk x t v h=>by
  rcases Zbk h with ⟨i,u,rfl,e⟩|⟨y,u,rfl,e⟩
  ·exact nomatch e
  ·injection e with e1 _
   subst e1;cases v <;> rfl
theorem Zjg (prog:Program) (w:World) (i:Int) (t:Tok):(mixKind prog w).is (.inl i) (.int i t)=true:=Zoc i t
theorem Zi7 (prog:Program) (w:World) (x:Str) (t:Tok):(mixKind prog w).is (.inr x) (.str x t)=true:=Znh x t
inductive V where
 |non|bl (b:Bool)|int (i:Int)|str (x:Str)|byt (b:Array UInt8)|flt (b:UInt64)|ref (a:Addr)|ty (n:String)
 deriving DecidableEq
def RelV:V->Value->Prop
 |.non,u=>u=Value.none
 |.bl b,u=>u=Value.bool b
 |.int i,u=>∃t,u=Value.int i t
 |.str x,u=>∃t,u=Value.str x t
 |.byt b,u=>∃t,u=Value.bytes b t
 |.flt b,u=>∃t,u=Value.float b t
 |.ref a,u=>u=Value.ref a
 |.ty n,u=>u=Value.type n
abbrev Vals:List V->List Value->Prop:=Paired RelV
theorem Vals.length {xs:List V}{us:List Value}(r:Vals xs us):xs.length=us.length:=Paired.length r
theorem Vals.get:∀{xs:List V}{us:List Value}{i:Nat}{x:V},Vals xs us->xs[i]?=some x->∃u,us[i]?=some u/\RelV x u
 |_,_,_,_,.nil,e=>by simp at e
 |_,_,0,_,.cons r _,e=>by simp at e;subst e;exact⟨_,rfl,r⟩
 |_,_,i+1,x,.cons _ t,e=>by
  obtain⟨u,h1,h2⟩:=Vals.get (i:=i) (x:=x) t (by simpa using e);exact⟨u,by simpa using h1,h2⟩
theorem Vals.set {x:V}{u:Value}(r:RelV x u):∀{xs:List V}{us:List Value}(i:Nat),Vals xs us->Vals (xs.set i x) (us.set i u)
 |_,_,_,.nil=>.nil
 |_,_,0,.cons _ t=>.cons r t
 |_,_,i+1,.cons q t=>.cons q (Vals.set r i t)
theorem Vals.append:∀{xs ys:List V}{us ws:List Value},Vals xs us->Vals ys ws->Vals (xs++ys) (us++ws)
 |_,_,_,_,.nil,s=>s
 |_,_,_,_,.cons r t,s=>.cons r (Vals.append t s)
theorem Vals.take:∀{xs:List V}{us:List Value}(n:Nat),Vals xs us->Vals (xs.take n) (us.take n)
 |_,_,0,_=>.nil
 |_,_,_+1,.nil=>.nil
 |_,_,n+1,.cons r t=>.cons r (Vals.take n t)
theorem Vals.drop:∀{xs:List V}{us:List Value}(n:Nat),Vals xs us->Vals (xs.drop n) (us.drop n)
 |_,_,0,r=>r
 |_,_,_+1,.nil=>.nil
 |_,_,n+1,.cons _ t=>Vals.drop n t
def RelO:Option V->Option Value->Prop
 |some v,some u=>RelV v u
 |none,none=>True
 |_,_=>False
def KV {κ:Type}:List (κ × V)->List (κ × Value)->Prop:=Paired λ(p:κ × V) (q:κ × Value)=>p.1=q.1/\RelV p.2 q.2
def kV:Key->V
 |.inl i=>.int i
 |.inr x=>.str x
inductive HO where
 /-- a list -/
 |lst (xs:List V)
 /-- a tuple (never changes) -/
 |tup (xs:List V)
 /-- a dict whose keys are ints and texts;one whose keys are tuples of ints and texts (the empty one is both) -/
 |dK (kvs:List (Key × V))|dT (kvs:List (List Key × V))
 /-- a set of ints: its members,its size -/
 |set (S:Int->Bool) (n:Nat)
 /-- an instance of the class at C,its dict at dx,its attributes -/
 |ins (C dx:Addr) (fs:List (Str × V))
 /-- the dict of the instance at x -/
 |own (x:Addr)
 /-- the dict of an exception -/
 |xd (fs:List (Str × V))
 /-- a bound method,f of x -/
 |met (f x:Addr)
 /-- a range object lo,lo+1,.. below hi -/
 |rng (lo hi:Int)
 /-- a thing that is known to the object (the script;a dict while a loop walks it): read,never written while it is so -/
 |frz (o:Obj) (u:HO)
 /-- a code object's table -/
 |tbl (ps:Array Value)
 /-- any other thing,by what is true of its one object (a def of one's own: SetO a S n:=HO.ext λh=>..) -/
 |ext (φ:Heap->Prop)
abbrev Hp:=Addr->Option HO
def upd (H:Hp) (a:Addr) (o:HO):Hp:=λb=>if b=a then some o else H b
theorem Zan {H:Hp}{a:Addr}{o:HO}:upd H a o a=some o:=by unfold upd;rw[Qbw rfl]
theorem Zal {H:Hp}{a b:Addr}{o:HO}(h:b≠a):upd H a o b=H b:=by unfold upd;rw[Qbv h]
theorem Zta {H:Hp}{a:Addr}{o u:HO}:upd (upd H a o) a u=upd H a u:=by
 funext b;unfold upd;split <;> rfl
theorem Zxt {H:Hp}{a b:Addr}{o u:HO}(h:H a=some o) (h':H b=some u) (d:o≠u):a≠b:=by
 intro e;subst e;rw[h]at h';exact d<|Waw.inj h'
theorem Zam {H:Hp}{a b:Addr}{o:HO}(h:H a=some o) (h':H b=none):a≠b:=by
 intro e;subst e;rw[h]at h';cases h'
def IsTupN (h:Heap) (a:Addr) (its:Array Value):Prop:=∃o,h.get? a=some o/\(o.cls=.type "tuple" /\ ∃n,o.data=.seq its n)/\o.dict=none
theorem IsTupN.tup {h:Heap}{a:Addr}{its:Array Value}(x:IsTupN h a its):IsTup h a its:=let ⟨o,e,c,_⟩:=x; ⟨o,e,c⟩
theorem IsTupN.new (h:Heap) (items:Array Value):IsTupN (h.push { cls:=.type "tuple",data:=.seq items }) h.objs.size items:=⟨_,Wam _ rfl,⟨rfl,_,rfl⟩,rfl⟩
section
variable (P:Program) (w:World)
def ObjOk (H:Hp) (h:Heap) (a:Addr):HO->Prop
 |.lst xs=>xs.length<=sizeLine/\∃(its:List Value) (n:Nat),Vals xs its/\h.get? a=some { cls:=.type "list",data:=.seq its.toArray n }
 |.tup xs=>xs.length<=sizeLine/\∃its:List Value,Vals xs its/\IsTupN h a its.toArray
 |.dK kvs=>kvs.length<=sizeLine/\(a == sysModules)=false/\∃vs,KV kvs vs/\h.DictOf (mixKind P w) a vs
 |.dT kvs=>kvs.length<=sizeLine/\(a == sysModules)=false/\∃xs:List (List Key × Addr × Value),
   Paired (λ(p:List Key × V) (q:List Key × Addr × Value)=>p.1=q.1/\H q.2.1=some (.tup<|p.1.map kV)/\RelV p.2 q.2.2) kvs xs /\
   ∃o es ep,h.get? a=some o/\o.ExactDict/\o.data=.dict es ep/\es.toList=xs.map (entryOfKey<|tupleKind<|mixKind P w)/\(xs.map (·.1)).Nodup
 |.set S n=>h.SetOf (intKind P w) a S n
 |.ins C dx fs=>H dx=some (.own a)/\fs.length<=1000/\dx≠a/\h.get? a=some (PySem.W.instObj C dx) /\
   ∃mA,h.Ns1 dx mA/\(∀f,RelO (fs.lookup f) (mA f))/\PySem.Within mA (fs.map (·.1))
 |.own _=>∃o,h.get? a=some o
 |.xd fs=>∃mA,h.Ns1 a mA/\∀f,RelO (fs.lookup f) (mA f)
 |.rng lo hi=>∃t u v,h.get? a=some { cls:=.type "range",data:=.fields #[.int lo t,.int hi u,.int 1 v] }
 |.frz o u=>h.get? a=some o/\ObjOk H h a u
 |.tbl ps=>h.get? a=some { cls:=.none,data:=.fields ps }
 |.met f x=>h.get? a=some (PySem.W.methodObj (.ref f) (.ref x))
 |.ext φ=>φ h/\(∃o,h.get? a=some o)/\∀h1 h2:Heap,φ h1->(∀o,h1.get? a=some o->h2.get? a=some o) -> φ h2
def HOk (H:Hp) (h:Heap):Prop:=∀a o,H a=some o->ObjOk P w H h a o
end
section
variable {P:Program}{w:World}{H H':Hp}{h h':Heap}{a:Addr}{o:HO}
theorem ObjOk.lt (x:ObjOk P w H h a o):a<h.objs.size:=by
 cases o with
 |lst xs=>obtain⟨_,_,_,_,e⟩:=x;exact War e
 |tup xs=>obtain⟨_,_,_,p⟩:=x;exact p.tup.lt
 |dK kvs=>obtain⟨_,_,_,_,o,_,_,e,_⟩:=x;exact War e
 |dT kvs=>obtain⟨_,_,_,_,o,_,_,e,_⟩:=x;exact War e
 |set S n=>obtain⟨o,_,_,_,e,_⟩:=x;exact War e
 |ins C dx fs=>obtain⟨_,_,_,e,_⟩:=x;exact War e
 |own y=>obtain⟨_,e⟩:=x;exact War e
 |xd fs=>obtain⟨_,⟨_,_,_,e,_⟩,_⟩:=x;exact War e
 |rng lo hi=>obtain⟨_,_,_,e⟩:=x;exact War e
 |frz ob u=>obtain⟨e,_⟩:=x;exact War e
 |tbl ps=>exact War (show h.get? a=some _ from x)
 |met f y=>exact War (show h.get? a=some _ from x)
 |ext φ=>obtain⟨_,⟨_,e⟩,_⟩:=x;exact War e
theorem Paired.mapP {α β:Type}{F G:α -> β -> Prop}:∀{l₁:List α}{l₂:List β},Paired F l₁ l₂ -> (∀a b,F a b->G a b)->Paired G l₁ l₂
 |_,_,.nil,_=>.nil
 |_,_,.cons r t,f=>.cons (f _ _ r) (Paired.mapP t f)
theorem ObjOk.stay (x:ObjOk P w H h a o) (k:∀b u,(b=a\/H b=some (.own a))->h.get? b=some u->h'.get? b=some u)
  (ho:∀b,H b=some (.own a)->H' b=some (.own a)) (ht:∀b xs,H b=some (.tup xs)->H' b=some (.tup xs)):ObjOk P w H' h' a o:=by
 induction o with
 |lst xs=>obtain⟨z,its,n,r,e⟩:=x;exact⟨z,its,n,r,k _ _ (.inl rfl) e⟩
 |tup xs=>obtain⟨z,its,r,ob,e,c⟩:=x;exact⟨z,its,r,ob,k _ _ (.inl rfl) e,c⟩
 |dK kvs=>obtain⟨z,y,vs,r,ob,es,ep,e,c⟩:=x;exact⟨z,y,vs,r,ob,es,ep,k _ _ (.inl rfl) e,c⟩
 |dT kvs=>
  obtain⟨z,y,xs,r,ob,es,ep,e,c⟩:=x;exact⟨z,y,xs,Paired.mapP r λp q z=>⟨z.1,ht _ _ z.2.1,z.2.2⟩,ob,es,ep,k _ _ (.inl rfl) e,c⟩
 |set S n=>obtain⟨ob,es,ep,t,e,c⟩:=x;exact⟨ob,es,ep,t,k _ _ (.inl rfl) e,c⟩
 |ins C dx fs=>
  obtain⟨d,z,ne,e,mA,⟨od,es,ep,e2,c⟩,r⟩:=x;exact⟨ho _ d,z,ne,k _ _ (.inl rfl) e,mA,⟨od,es,ep,k _ _ (.inr d) e2,c⟩,r⟩
 |own y=>obtain⟨ob,e⟩:=x;exact⟨ob,k _ _ (.inl rfl) e⟩
 |xd fs=>obtain⟨mA,⟨od,es,ep,e,c⟩,r⟩:=x;exact⟨mA,⟨od,es,ep,k _ _ (.inl rfl) e,c⟩,r⟩
 |rng lo hi=>obtain⟨t,u,v,e⟩:=x;exact⟨t,u,v,k _ _ (.inl rfl) e⟩
 |frz ob u ih=>obtain⟨e,q⟩:=x;exact⟨k _ _ (.inl rfl) e,ih q⟩
 |tbl ps=>
  have e:h.get? a=some { cls:=.none,data:=.fields ps }:=x;show h'.get? a=some { cls:=.none,data:=.fields ps };exact k a _ (.inl rfl) e
 |met f y=>
  have e:h.get? a=some (PySem.W.methodObj (.ref f) (.ref y)):=x;show h'.get? a=some (PySem.W.methodObj (.ref f) (.ref y));exact k a _ (.inl rfl) e
 |ext φ=>obtain⟨p,⟨o,e⟩,st⟩:=x;exact⟨st _ _ p λo q=>k _ _ (.inl rfl) q,⟨o,k _ _ (.inl rfl) e⟩,st⟩
theorem HOk.lt (x:HOk P w H h) (e:H a=some o):a<h.objs.size:=(x a o e).lt
theorem HOk.fresh (x:HOk P w H h) (e:h.objs.size<=a):H a=none:=by
 cases q:H a with
 |none=>rfl
 |some u=>exact absurd (Wa9 (x.lt q) e) (Wci _)
theorem HOk.kept (x:HOk P w H h) (k:∀b u,h.get? b=some u->h'.get? b=some u):HOk P w H h':=λa o e=>
 (x a o e).stay (λb u _ q=>k b u q) (λ_ q=>q) λ_ _ q=>q
theorem HOk.laid (x:HOk P w H h) (k:∀b u,h.get? b=some u->h'.get? b=some u) (hp:h.objs.size<=a) (new:ObjOk P w (upd H a o) h' a o):HOk P w (upd H a o) h':=λb u e=>by
 have hn:=x.fresh hp;by_cases hb:b=a
 ·subst hb;rw[Zan]at e;cases e;exact new
 ·rw[Zal hb]at e
  exact(x b u e).stay (λc v _ q=>k c v q) (λc q=>by rw[Zal (Zam q hn)];exact q) λc xs q=>by rw[Zal (Zam q hn)];exact q
end
def Rd (H:Hp) (a:Addr) (u:HO):Prop:=H a=some u\/∃o,H a=some (.frz o u)
theorem Rd.ok {P:Program}{w:World}{H:Hp}{h:Heap}{a:Addr}{u:HO}(r:Rd H a u) (x:HOk P w H h):ObjOk P w H h a u:=by
 rcases r with r|⟨o,r⟩
 ·exact x a u r
 ·obtain⟨_,q⟩:=x a _ r
  exact q
def Mut:Option HO->Prop
 |some (.lst _)=>True
 |some (.dK _)=>True
 |some (.dT _)=>True
 |some (.set _ _)=>True
 |some (.ins _ _ _)=>True
 |some (.ext _)=>True
 |_=>False
section
variable {P:Program}{w:World}{H:Hp}{h h':Heap}{x e:Addr}{o':HO}
theorem HOk.write (ok:HOk P w H h) (mu:Mut (H x)) (he:e=x\/H e=some (.own x)) (k:∀b u,b≠e->h.get? b=some u->h'.get? b=some u) (heo:∃u,h'.get? e=some u)
  (new:ObjOk P w (upd H x o') h' x o'):HOk P w (upd H x o') h':=λb u q=>by
 have nown:∀c y,H c=some (.own y)->c≠x:=λc y r z=>by subst z;rw[r]at mu;exact mu
 have ntup:∀c xs,H c=some (.tup xs)->c≠x:=λc xs r z=>by subst z;rw[r]at mu;exact mu
 by_cases hb:b=x
 ·subst hb;rw[Zan]at q;cases q;exact new
 ·rw[Zal hb]at q
  by_cases hbe:b=e
  ·have q':H b=some (.own x):=by
    rcases he with z|z
    ·exact absurd (hbe.trans z) hb
    ·rw[hbe];exact z
   rw[q]at q';cases q';obtain⟨v,hv⟩:=heo;exact⟨v,by rw[hbe];exact hv⟩
  ·refine(ok b u q).stay (λc v hc r=>k c v ?_ r) (λc r=>by rw[Zal (nown c b r)];exact r) λc xs r=>by rw[Zal (ntup c xs r)];exact r
   rcases hc with rfl|hc
   ·exact hbe
   ·rintro rfl
    rcases he with z|z
    ·exact nown c b hc z
    ·rw[hc]at z;cases z;exact hb rfl
end
structure Un (fs ex:List Addr) (H H':Hp) (h h':Heap):Prop where
 keep:∀b o,h.get? b=some o->H b=none->b ∉ fs->b ∉ ex->h'.get? b=some o
 slot:∀b o,h.get? b=some o->H b=none->b∈fs->b ∉ ex->∃sl,h'.get? b=some { o with slots:=sl }
 free:∀b o,h.get? b=some o->H b=none->b ∉ ex->H' b=none
 there:∀b o,h.get? b=some o->b ∉ ex->∃o',h'.get? b=some o'
 tups:∀b xs,H b=some (.tup xs)->H' b=some (.tup xs)
 frzs:∀b o u,H b=some (.frz o u)->H' b=some (.frz o u)
 tbls:∀b ps,H b=some (.tbl ps)->∃more,H' b=some (.tbl<|ps++more)
section
variable {fs fs' ex ex':List Addr}{H H1 H2:Hp}{h h1 h2 h':Heap}{a x e:Addr}{o:HO}
theorem Un.any (u:Un fs ex H H1 h h1) {b:Addr}{ob:Obj}(q:h.get? b=some ob) (n:H b=none) (hx:b ∉ ex):∃sl,h1.get? b=some { ob with slots:=sl }:=by
 by_cases hb:b∈fs
 ·exact u.slot b ob q n hb hx
 ·exact⟨ob.slots,u.keep b ob q n hb hx⟩
theorem Un.kept (k:∀b u,h.get? b=some u->h'.get? b=some u):Un fs ex H H h h':=
 ⟨λb ob q _ _ _=>k b ob q,λb ob q _ _ _=>⟨ob.slots,k b ob q⟩,λ_ _ _ n _=>n,λb ob q _=>⟨ob,k b ob q⟩,λ_ _ q=>q,λ_ _ _ q=>q,λ_ ps q=>⟨#[],by rw[q];simp⟩⟩
theorem Un.refl:Un fs ex H H h h:=Un.kept λ_ _ q=>q
theorem Un.laid (k:∀b u,h.get? b=some u->h'.get? b=some u) (hp:h.objs.size<=a) (hn:H a=none):Un fs ex H (upd H a o) h h' where
 keep:=λb u q _ _ _=>k b u q
 slot:=λb u q _ _ _=>⟨u.slots,k b u q⟩
 free:=λb u q n _=>by rw[Zal (Wa7<|Wa9 (War q) hp)];exact n
 there:=λb u q _=>⟨u,k b u q⟩
 tups:=λb xs q=>by rw[Zal (Zam q hn)];exact q
 frzs:=λb u xs q=>by rw[Zal (Zam q hn)];exact q
 tbls:=λb ps q=>⟨#[],by rw[Zal (Zam q hn),q];simp⟩
theorem Un.write (mu:Mut (H x)) (he:e=x\/H e=some (.own x)) (k:∀b u,b≠e->h.get? b=some u->h'.get? b=some u) (heo:∃u,h'.get? e=some u):Un fs ex H (upd H x o) h h':=by
 have hx:∀b,H b=none->b≠x:=λb n z=>by subst z;rw[n]at mu;exact mu
 have hb:∀b,H b=none->b≠e:=λb n z=>by
  subst z;rcases he with r|r
  ·exact hx b n r
  ·rw[n]at r;cases r
 have hm:∀b u,H b=some u->¬ Mut (some u)->b≠x:=λb u q nm z=>by subst z;rw[q]at mu;exact nm mu
 refine⟨λb u q n _ _=>k b u (hb b n) q,λb u q n _ _=>⟨u.slots,k b u (hb b n) q⟩,λb u q n _=>by rw[Zal (hx b n)];exact n,λb u q _=>?_,
  λb xs q=>by rw[Zal (hm b _ q λz=>z)];exact q,λb u xs q=>by rw[Zal (hm b _ q λz=>z)];exact q,λb ps q=>⟨#[],by rw[Zal (hm b _ q λz=>z),q];simp⟩⟩
 by_cases hbe:b=e
 ·subst hbe;exact heo
 ·exact⟨u,k b u hbe q⟩
end
def trk (h:Heap) (H:Hp):List Addr:=(Wb2 h.objs.size).filter λa=>(H a).isSome
def hidT (h:Heap) (H:Hp):Heap:=PySem.W.hideAll h<|trk h H
theorem Zn7 (h:Heap) (H:Hp):(hidT h H).objs.size=h.objs.size:=PySem.W.hideAll_size _ _
theorem Zq1 {h:Heap}{H:Hp}{b:Addr}{o:Obj}(e:h.get? b=some o) (n:H b=none):(hidT h H).get? b=some o:=
 PySem.W.hideAll_get _ e λhm=>by
  have q:(H b).isSome=true:=(Wb3.mp hm).2;rw[n]at q;simp at q
theorem Zt0 {h:Heap}{H:Hp}{b:Addr}{o:Obj}(e:(hidT h H).get? b=some o):h.get? b=some o/\H b=none:=by
 have e':h.get? b=some o:=PySem.W.of_hideAll (trk h H) e;refine⟨e',?_⟩;cases q:H b with
 |none=>rfl
 |some x=>
  have hm:b∈trk h H:=Wb3.mpr ⟨Wbp.mpr<|War e',by simp[q]⟩;have z:(hidT h H).get? b=none:=PySem.W.hideAll_none (trk h H) hm;rw[z]at e;cases e
def allNews (g h:Heap) (L:Addr):Qbz:=(Wb2 h.objs.size).filterMap λa=>if a=L\/(g.get? a).isSome=true then none else (h.get? a).map λo=>(a,o)
def rest (g h:Heap) (L d:Addr):Qbz:=(allNews g h L).filter λp=>decide<|p.1≠d
structure Mod (K:W.Frag) (mg:Str->Option Value) (base:Heap):Prop where
 kin:K.In base
 glob:base.Ns mainGlobals mg
 blt:∃mb,base.Ns builtinsNs mb/\∀x:Str,x ≠ "__name__" -> mb x=bootBuiltins x
 nolimit:base.NoLimit
structure Cx where
 prog:Program
 w:World
 K:W.Frag
 mg:Str->Option Value
 base:Heap
 A:Around
 N:List Str
 s₀:Shared
 H₀:Hp
 env:Env
 outer:List Env
 stack:List Env
 ex:List Addr
 fn:Str->Bool
 calm:Bool
 pn:Qbz
 xe:Value->Shared->Prop
def frs (l:List Env):List Addr:=l.filterMap (·.frame)
abbrev Cx.fs (X:Cx):List Addr:=frs X.outer
def Vis (sc:Scope) (x:Str):Prop:=sc.names.lookup x=some .local\/sc.names.lookup x=some .cell\/sc.names.lookup x=some .free
def Loc (sc:Scope) (x:Str):Prop:=sc.names.lookup x=some .local\/sc.names.lookup x=some .cell
def Look (env:Env) (h:Heap) (m:Str->Option Value) (x:Str) (u:Value):Prop:=
 (env.kindOf x=some .local/\m x=some u)\/((env.kindOf x=some .cell\/env.kindOf x=some .free)/\∃c,env.cells.lookup x=some c/\h.IsCell c (some u))
structure Cx.Ok (X:Cx):Prop where
 mod:Mod X.K X.mg X.base
 kind:X.env.scope.kind=.function
 glob:X.env.globals=mainGlobals
 blt:X.env.builtins=builtinsNs
 above:X.s₀.heap.objs.size<=X.env.locals
 inj:∀x y c,X.env.cells.lookup x=some c->X.env.cells.lookup y=some c->x=y
 has:∀x,(X.env.kindOf x=some .cell\/X.env.kindOf x=some .free)->∃c,X.env.cells.lookup x=some c
 cab:∀x c,X.fn x=true->X.env.cells.lookup x=some c->X.s₀.heap.objs.size<=c
 hd:X.calm=true->X.A.handled=none
 frames:X.A.frames=some X.stack
 stk:X.stack=X.outer\/(X.stack=X.env::X.outer/\X.env.frame=some X.env.locals)
 exf:∀b∈X.ex,b≠X.env.locals/\∀x c,X.env.cells.lookup x=some c->c≠b
 bs:∀b o,X.base.get? b=some o->X.s₀.heap.get? b=some o/\X.H₀ b=none
 bsz:X.base.objs.size<=X.s₀.heap.objs.size
 noex:∀b o,X.base.get? b=some o->b ∉ X.ex
 exfs:∀b∈X.ex,b ∉ X.fs
 funs:X.s₀.heap.FunFrames X.base X.outer
 frf:∀b∈X.fs,X.H₀ b=none
structure Inv (X:Cx) (pins:Qbz) (Z:List (Option V)) (H:Hp) (s:Shared):Prop where
 ok:X.Ok
 os:s.os=X.s₀.os
 bare:AllBare s.gens
 base:Un X.fs X.ex X.H₀ H X.s₀.heap s.heap
 loc:∃m,s.heap.Ns X.env.locals m/\∀(i:Nat) (x:Str) (v:V),X.N[i]?=some x -> Z[i]?=some (some v)->Vis X.env.scope x->∃u,RelV v u/\Look X.env s.heap m x u
 cell:∀x c,X.env.cells.lookup x=some c->∃v,s.heap.IsCell c v
 free:H X.env.locals=none
 freeC:∀x c,X.env.cells.lookup x=some c->H c=none
 pin:∀p∈X.pn++pins,s.heap.get? p.1=some p.2/\H p.1=none/\p.1≠X.env.locals/\p.1 ∉ X.fs/\∀v,p.2.data≠.cell v
 hok:HOk X.prog X.w H s.heap
 len:Z.length=X.N.length
section
variable {X:Cx}{pins:Qbz}{Z:List (Option V)}{H H':Hp}{s:Shared}{h':Heap}
theorem Cx.Ok.nofr (ok:X.Ok) {b:Addr}{o:Obj}(e:X.base.get? b=some o):b ∉ X.fs:=λhb=>by
 have:=(ok.funs.mem hb).1;rw[e]at this;cases this
theorem Inv.bs (I:Inv X pins Z H s):∀b o,X.base.get? b=some o->s.heap.get? b=some o/\H b=none:=λb o e=>
 ⟨I.base.keep b o (I.ok.bs b o e).1 (I.ok.bs b o e).2 (I.ok.nofr e) (I.ok.noex b o e),I.base.free b o (I.ok.bs b o e).1 (I.ok.bs b o e).2 (I.ok.noex b o e)⟩
theorem Inv.bk (I:Inv X pins Z H s):∀b o,X.base.get? b=some o->s.heap.get? b=some o:=λb o e=>(I.bs b o e).1
theorem Inv.mod (I:Inv X pins Z H s):Mod X.K X.mg X.base:=I.ok.mod
theorem Inv.kIn (I:Inv X pins Z H s):X.K.In s.heap:=I.ok.mod.kin.keeps I.bk
theorem Inv.fr (I:Inv X pins Z H s):∃m,Fr X.base X.env.locals s.heap m:=
 let ⟨m,hn,_⟩:=I.loc
 ⟨m,hn,I.bk,Way I.ok.bsz I.ok.above⟩
theorem Inv.lt (I:Inv X pins Z H s):X.env.locals<s.heap.objs.size:=let ⟨_,hn,_⟩:=I.loc;hn.lt
theorem Inv.sz (I:Inv X pins Z H s):X.s₀.heap.objs.size<=s.heap.objs.size:=Way I.ok.above<|Wbm I.lt
theorem Inv.nofs (I:Inv X pins Z H s) {a:Addr}(h:s.heap.objs.size<=a):a ∉ X.fs:=λhb=>by
 obtain⟨_,o,ho,_⟩:=I.ok.funs.mem hb;exact absurd (Wa9 (War ho)<|Way I.sz h)<|Wci _
theorem Inv.cne (I:Inv X pins Z H s):∀x c,X.env.cells.lookup x=some c->c≠X.env.locals:=λx c e z=>by
 obtain⟨v,o,ho,hd⟩:=I.cell x c e;obtain⟨m,⟨o',es,ep,ho',hd',_⟩,_⟩:=I.loc;rw[z,ho']at ho;cases ho;rw[hd']at hd;cases hd
theorem Inv.funs (I:Inv X pins Z H s):s.heap.FunFrames X.base X.outer:=by
 have all:∀(l:List Env),(∀b∈frs l,b∈X.fs)->X.s₀.heap.FunFrames X.base l->s.heap.FunFrames X.base l:=by
  intro l
  induction l with
  |nil=>intro _ _;trivial
  |cons env r ih=>
   intro hs hl;obtain⟨hk,⟨L,o,hf,hn,ho,hd⟩,hr⟩:=hl;have hL:L∈X.fs:=hs L (by unfold frs;rw[Wdk,hf];exact Wat);obtain⟨sl,e⟩:=I.base.slot L o ho (I.ok.frf L hL) hL λz=>I.ok.exfs L z hL;exact⟨hk,⟨L,_,hf,hn,e,hd⟩,ih (λb hb=>hs b (by unfold frs;rw[Wdk,hf];exact Wap _ hb)) hr⟩
 exact all X.outer (λ_ hb=>hb) I.ok.funs
theorem Inv.stack (I:Inv X pins Z H s):s.heap.FunFrames X.base X.stack:=by
 rcases I.ok.stk with e|⟨e,hf⟩
 ·rw[e];exact I.funs
 ·rw[e]
  obtain⟨m,hn,_⟩:=I.loc;refine .cons (by rw[I.ok.kind];decide) hf hn ?_ I.funs;exact Wcl<|Way I.ok.bsz I.ok.above
theorem Inv.stkSub (I:Inv X pins Z H s):∀b∈frs X.stack,b∈X.env.locals::X.fs:=λb hb=>by
 rcases I.ok.stk with e|⟨e,hf⟩
 ·rw[e]at hb;exact Wap _ hb
 ·rw[e]at hb
  unfold frs at hb;rw[Wdk,hf]at hb;exact hb
theorem Inv.stkFree (I:Inv X pins Z H s):∀b∈frs X.stack,H b=none:=λb hb=>by
 rcases Wai.mp (I.stkSub b hb) with e|hb
 ·rw[e];exact I.free
 ·obtain⟨_,o,ho,_⟩:=I.ok.funs.mem hb
  exact I.base.free b o ho (I.ok.frf b hb) λz=>I.ok.exfs b z hb
theorem Inv.step {g':Array GenState}{t':Nat}{d':Drawn}{ch:List Addr}(I:Inv X pins Z H s)
  (hch:∀b∈ch,(b∈X.ex\/X.s₀.heap.objs.size<=b)/\b≠X.env.locals/\(∀x c,X.env.cells.lookup x=some c->c≠b)/\∀p∈X.pn++pins,p.1≠b)
  (keep:∀b o,b≠X.env.locals->b ∉ X.fs->b ∉ ch->s.heap.get? b=some o->H b=none->h'.get? b=some o)
  (slot:∀b o,b≠X.env.locals->b∈X.fs->b ∉ ch->s.heap.get? b=some o->H b=none->∃sl,h'.get? b=some { o with slots:=sl }) (free:∀b o,b ∉ ch->s.heap.get? b=some o->H b=none->H' b=none)
  (there:∀b o,b ∉ ch->s.heap.get? b=some o->∃o',h'.get? b=some o')
  (tups:∀b xs,H b=some (.tup xs)->H' b=some (.tup xs)) (frzs:∀b o u,H b=some (.frz o u)->H' b=some (.frz o u)) (tbls:∀b ps,H b=some (.tbl ps)->∃more,H' b=some (.tbl<|ps++more))
  (ns:∀m,s.heap.Ns X.env.locals m->h'.Ns X.env.locals m) (hok:HOk X.prog X.w H' h') (hg:AllBare g') :
  Inv X pins Z H' { s with heap:=h',gens:=g',drawn:=d',toks:=t' }:=by
 have neL:∀b o,X.s₀.heap.get? b=some o->b≠X.env.locals:=λb o e=>Wa7<|Wa9 (War e) I.ok.above;have neC:∀b o,X.s₀.heap.get? b=some o->b ∉ X.ex->b ∉ ch:=λb o e hx hb=>by
  rcases(hch b hb).1 with z|z
  ·exact hx z
  ·exact absurd (Wa9 (War e) z)<|Wci _
 have cellK:∀x c,X.env.cells.lookup x=some c->∀v,s.heap.IsCell c v->h'.IsCell c v:=λx c e v hq_=>by
  obtain⟨o,ho,hd⟩:=hq_;have nch:c ∉ ch:=λz=>(hch c z).2.2.1 x c e rfl;by_cases hc:c∈X.fs
  ·obtain⟨sl,q⟩:=slot c o (I.cne x c e) hc nch ho (I.freeC x c e)
   exact⟨_,q,hd⟩
  ·exact⟨o,keep c o (I.cne x c e) hc nch ho<|I.freeC x c e,hd⟩
 refine⟨I.ok,I.os,hg,⟨λb o e n hb hx=>?_,λb o e n hb hx=>?_,λb o e n hx=>?_,λb o e hx=>?_,λb xs e=>tups b xs<|I.base.tups b xs e,λb o xs e=>frzs b o xs<|I.base.frzs b o xs e,λb ps e=>?_⟩,?_,λx c e=>?_,?_,λx c e=>?_,λp hp=>?_,hok,I.len⟩
 ·exact keep b o (neL b o e) hb (neC b o e hx) (I.base.keep b o e n hb hx)<|I.base.free b o e n hx
 ·obtain⟨sl,e1⟩:=I.base.slot b o e n hb hx
  obtain⟨sl',e2⟩:=slot b _ (neL b o e) hb (neC b o e hx) e1<|I.base.free b o e n hx;exact⟨sl',e2⟩
 ·obtain⟨o',e1⟩:=I.base.there b o e hx
  exact free b o' (neC b o e hx) e1<|I.base.free b o e n hx
 ·obtain⟨o',e1⟩:=I.base.there b o e hx
  exact there b o' (neC b o e hx) e1
 ·obtain⟨m1,e1⟩:=I.base.tbls b ps e
  obtain⟨m2,e2⟩:=tbls b _ e1;exact⟨m1++m2,by rw[e2,Array.append_assoc]⟩
 ·obtain⟨m,hn,hl⟩:=I.loc
  refine⟨m,ns m hn,λi x v e1 e2 e3=>?_⟩;obtain⟨u,r,l⟩:=hl i x v e1 e2 e3;refine⟨u,r,?_⟩;rcases l with l|⟨k,c,e,z⟩
  ·exact .inl l
  ·exact .inr ⟨k,c,e,cellK x c e _ z⟩
 ·obtain⟨v,z⟩:=I.cell x c e
  exact⟨v,cellK x c e v z⟩
 ·obtain⟨m,⟨o,_,_,ho,_⟩,_⟩:=I.loc
  exact free _ o (λz=>(hch _ z).2.1 rfl) ho I.free
 ·obtain⟨v,o,ho,hd⟩:=I.cell x c e
  exact free c o (λz=>(hch c z).2.2.1 x c e rfl) ho<|I.freeC x c e
 ·obtain⟨e,n,ne,nf,d⟩:=I.pin p hp
  have nch:p.1 ∉ ch:=λz=>(hch p.1 z).2.2.2 p hp rfl;exact⟨keep p.1 p.2 ne nf nch e n,free p.1 p.2 nch e n,ne,nf,d⟩
theorem Inv.un {t':Nat}(I:Inv X pins Z H s) (u:Un X.fs [] H H' s.heap h') (hok:HOk X.prog X.w H' h'):Inv X pins Z H' { s with heap:=h',toks:=t' }:=by
 obtain⟨m,⟨o,es,ep,ho,r⟩,_⟩:=id I.loc;obtain⟨sl,hL⟩:=u.any ho I.free (by simp);exact I.step (g':=s.gens) (d':=s.drawn) (ch:=[]) (λ_ z=>nomatch z) (λb o _ hb _ e n=>u.keep b o e n hb (by simp)) (λb o _ hb _ e n=>u.slot b o e n hb (by simp)) (λb o _ e n=>u.free b o e n (by simp)) (λb o _ e=>u.there b o e (by simp)) u.tups u.frzs u.tbls (λm' hm=>by
  obtain⟨o',es',ep',ho',r'⟩:=hm;rw[ho]at ho';cases ho';exact⟨_,es',ep',hL,r'⟩) hok I.bare
theorem Inv.call {g':Array GenState}{t':Nat}{d':Drawn}{ch:List Addr}(I:Inv X pins Z H s) (u:Un (frs X.stack) ch H H' s.heap h') (hok:HOk X.prog X.w H' h') (hg:AllBare g')
  (hch:∀b∈ch,(b∈X.ex\/X.s₀.heap.objs.size<=b)/\b≠X.env.locals/\(∀x c,X.env.cells.lookup x=some c->c≠b)/\∀p∈X.pn++pins,p.1≠b) :
  Inv X pins Z H' { s with heap:=h',gens:=g',drawn:=d',toks:=t' }:=by
 obtain⟨m,⟨o,es,ep,ho,r⟩,_⟩:=id I.loc;obtain⟨sl,hL⟩:=u.any ho I.free λz=>(hch _ z).2.1 rfl;exact I.step (ch:=ch) hch (λb o hL hb hc e n=>u.keep b o e n (λz=>(Wai.mp (I.stkSub b z)).elim hL hb) hc) (λb o _ _ hc e n=>u.any e n hc) (λb o hc e n=>u.free b o e n hc) (λb o hc e=>u.there b o e hc) u.tups u.frzs u.tbls (λm' hm=>by
  obtain⟨o',es',ep',ho',r'⟩:=hm;rw[ho]at ho';cases ho';exact⟨_,es',ep',hL,r'⟩) hok hg
theorem Inv.turned {t':Nat}{it:Addr}(I:Inv X pins Z H s) (k:∀b o,b≠it->s.heap.get? b=some o->h'.get? b=some o) (hn:H it=none) (hL:it≠X.env.locals)
  (h1:it∈X.ex\/X.s₀.heap.objs.size<=it) (h2:∀x c,X.env.cells.lookup x=some c->c≠it) (h3:∀p∈X.pn++pins,p.1≠it):Inv X pins Z H { s with heap:=h',toks:=t' }:=by
 have nit:∀b u,H b=some u->b≠it:=λb u e z=>by rw[z,hn]at e;cases e
 refine I.step (g':=s.gens) (d':=s.drawn) (ch:=[it]) (λb hb=>?_) (λb o _ _ hc e _=>k b o (λz=>hc (by simp[z])) e) (λb o _ _ hc e _=>⟨o.slots,k b o (λz=>hc (by simp[z])) e⟩) (λ_ _ _ _ n=>n)
  (λb o hc e=>⟨o,k b o (λz=>hc (by simp[z])) e⟩) (λ_ _ e=>e) (λ_ _ _ e=>e) (λb ps e=>⟨#[],by rw[e];simp⟩) (λm hm=>?_) (λb u e=>?_) I.bare
 ·have e:b=it:=by simpa using hb
  subst e;exact⟨h1,hL,h2,h3⟩
 ·obtain⟨o,es,ep,ho,r⟩:=hm
  exact⟨o,es,ep,k _ o (Ne.symm hL) ho,r⟩
 ·refine(I.hok b u e).stay (λc v hc q=>k c v ?_ q) (λ_ q=>q) λ_ _ q=>q
  rcases hc with z|z
  ·rw[z];exact nit b u e
  ·exact nit c _ z
theorem Inv.tok (I:Inv X pins Z H s) (t:Nat):Inv X pins Z H { s with toks:=t }:=I.un (h':=s.heap) (t':=t) Un.refl I.hok
theorem Inv.kept {t':Nat}(I:Inv X pins Z H s) (k:∀b u,s.heap.get? b=some u->h'.get? b=some u):Inv X pins Z H { s with heap:=h',toks:=t' }:=I.un (Un.kept k)<|I.hok.kept k
theorem Inv.laid {a:Addr}{o:HO}{t':Nat}(I:Inv X pins Z H s) (k:∀b u,s.heap.get? b=some u->h'.get? b=some u) (hp:s.heap.objs.size<=a) (new:ObjOk X.prog X.w (upd H a o) h' a o) :
  Inv X pins Z (upd H a o) { s with heap:=h',toks:=t' }:=I.un (Un.laid k hp<|I.hok.fresh hp)<|I.hok.laid k hp new
theorem Inv.write {x e:Addr}{o:HO}{t':Nat}(I:Inv X pins Z H s) (mu:Mut (H x)) (he:e=x\/H e=some (.own x)) (k:∀b u,b≠e->s.heap.get? b=some u->h'.get? b=some u) (heo:∃u,h'.get? e=some u)
  (new:ObjOk X.prog X.w (upd H x o) h' x o):Inv X pins Z (upd H x o) { s with heap:=h',toks:=t' }:=I.un (Un.write mu he k heo)<|I.hok.write mu he k heo new
theorem Inv.weak {Z':List (Option V)}(I:Inv X pins Z H s) (hl:Z'.length = Z.length) (w:∀(i:Nat) v,Z'[i]?=some (some v) -> Z[i]?=some (some v)):Inv X pins Z' H s:=
 ⟨I.ok,I.os,I.bare,I.base,let ⟨m,hn,hl'⟩:=I.loc; ⟨m,hn,λi x v e1 e2 e3=>hl' i x v e1 (w i v e2) e3⟩,I.cell,I.free,I.freeC,I.pin,I.hok,hl.trans I.len⟩
theorem Inv.pins_of {pins':Qbz}(I:Inv X pins Z H s) (h:∀p∈pins',s.heap.get? p.1=some p.2/\H p.1=none/\p.1≠X.env.locals/\p.1 ∉ X.fs/\∀v,p.2.data≠.cell v):Inv X pins' Z H s:=
 ⟨I.ok,I.os,I.bare,I.base,I.loc,I.cell,I.free,I.freeC,λp hp=>(Wa1.mp hp).elim (λz=>I.pin p<|Wb8 _ z) (h p),I.hok,I.len⟩
theorem Zhh {N:List Str}(hN:N.Nodup) {i j:Nat}{x:Str}(a:N[i]?=some x) (b:N[j]?=some x):i=j:=by
 obtain⟨h1,e1⟩:=Wah.mp a;obtain⟨h2,e2⟩:=Wah.mp b;exact(List.getElem_inj hN).mp (e1.trans e2.symm)
theorem Ziy {M:Model}{A:Around}{E:Qb0}{i:Nat}{x:Str}{v:V}{u:Value}{Q:Unit->Shared->Prop}(I:Inv X pins Z H s) (hN:X.N.Nodup) (hi:X.N[i]?=some x) (hx:Loc X.env.scope x) (r:RelV v u)
  (h:∀s',Inv X pins (Z.set i<|some v) H s' -> (∃a,Heap.SameBut a s.heap s'.heap/\(a=X.env.locals\/X.env.cells.lookup x=some a))->Q () s') (hf:X.fn x=true\/X.env.scope.names.lookup x=some .local:=by first|exact .inl rfl|exact .inr rfl|assumption):wpAny M A (storeName X.env x u) Q E s:=by
 obtain⟨m,hn,hl⟩:=id I.loc;have hcls:(X.env.scope.kind == .class || (X.env.scope.kind == .module && X.env.locals != X.env.globals))=false:=by rw[I.ok.kind];rfl
 have hiZ:i < Z.length:=by rw[I.len];exact(Wah.mp hi).1
 have cne:=I.cne;have tracked:∀{a:Addr}{h':Heap},(∃o,s.heap.get? a=some o/\H a=none)->Heap.SameBut a s.heap h' -> HOk X.prog X.w H h':=λ{a h'} ha hs b ob e=>by
  obtain⟨_,_,hfree⟩:=ha;refine(I.hok b ob e).stay (λc w' hc q=>(hs.2 c ?_).trans q) (λ_ q=>q) λ_ _ q=>q;rintro rfl;rcases hc with rfl|hc
  ·rw[hfree]at e;cases e
  ·rw[hfree]at hc;cases hc
 rcases hx with hk|hk
 ·refine wpAny_storeName_local hk hn (λh' hn' hs=>?_) hcls
  obtain⟨oL,_,_,hoL,_⟩:=id hn;refine h _ ⟨I.ok,I.os,I.bare,⟨λb o e n hb hx=>?_,λb o e n hb hx=>?_,I.base.free,λb o e hx=>?_,I.base.tups,I.base.frzs,I.base.tbls⟩,⟨_,hn',λj y v' e1 e2 e3=>?_⟩,λy c e=>?_,I.free,I.freeC,λp hp=>?_,tracked ⟨oL,hoL,I.free⟩ hs,by simpa using I.len⟩ ⟨_,hs,.inl rfl⟩
  ·exact(hs.2 b<|Wa7<|Wa9 (War e) I.ok.above).trans (I.base.keep b o e n hb hx)
  ·obtain⟨sl,e1⟩:=I.base.slot b o e n hb hx
   exact⟨sl,(hs.2 b<|Wa7<|Wa9 (War e) I.ok.above).trans e1⟩
  ·obtain⟨o',e1⟩:=I.base.there b o e hx
   exact⟨o',(hs.2 b<|Wa7<|Wa9 (War e) I.ok.above).trans e1⟩
  ·by_cases hj:j=i
   ·subst hj
    rw[hi]at e1;cases e1;rw[Wak hiZ]at e2;cases e2;exact⟨u,r,.inl ⟨hk,by simp⟩⟩
   ·rw[Wan (Ne.symm hj)]at e2
    obtain⟨u',r',q⟩:=hl j y v' e1 e2 e3;refine⟨u',r',?_⟩;rcases q with ⟨k,e⟩|⟨k,c,e,z⟩
    ·refine .inl ⟨k,?_⟩
     have:y≠x:=λe=>hj<|Zhh hN e1 (e ▸ hi);simp[this,e]
    ·exact .inr ⟨k,c,e,z.sameBut hs<|cne y c e⟩
  ·obtain⟨w',z⟩:=I.cell y c e
   exact⟨w',z.sameBut hs<|cne y c e⟩
  ·obtain⟨e,n,ne,nf,d⟩:=I.pin p hp
   exact⟨(hs.2 p.1 ne).trans e,n,ne,nf,d⟩
 ·have hfn:X.fn x=true:=by
   rcases hf with z|z
   ·exact z
   ·rw[z]at hk;cases hk
  obtain⟨c,hc⟩:=I.ok.has x (.inl hk);obtain⟨w',z⟩:=I.cell x c hc;refine wpAny_storeName_cell I.ok.kind hk hc z λh' hc' hs=>?_;obtain⟨oc,hoc,hocd⟩:=id z;refine h { s with heap:=h' } ⟨I.ok,I.os,I.bare,⟨λb o e n hb hx=>?_,λb o e n hb hx=>?_,I.base.free,λb o e hx=>?_,I.base.tups,I.base.frzs,I.base.tbls⟩,⟨m,hn.sameBut hs<|Ne.symm<|cne x c hc,λj y v' e1 e2 e3=>?_⟩,λy c' e=>?_,I.free,I.freeC,λp hp=>?_,tracked ⟨oc,hoc,I.freeC x c hc⟩ hs,by simpa using I.len⟩ ⟨c,hs,.inr hc⟩
  ·exact(hs.2 b<|Wa7<|Wa9 (War e)<|I.ok.cab x c hfn hc).trans (I.base.keep b o e n hb hx)
  ·obtain⟨sl,e1⟩:=I.base.slot b o e n hb hx
   exact⟨sl,(hs.2 b<|Wa7<|Wa9 (War e)<|I.ok.cab x c hfn hc).trans e1⟩
  ·obtain⟨o',e1⟩:=I.base.there b o e hx
   exact⟨o',(hs.2 b<|Wa7<|Wa9 (War e)<|I.ok.cab x c hfn hc).trans e1⟩
  ·by_cases hj:j=i
   ·subst hj
    rw[hi]at e1;cases e1;rw[Wak hiZ]at e2;cases e2;exact⟨u,r,.inr ⟨.inl hk,c,hc,hc'⟩⟩
   ·rw[Wan (Ne.symm hj)]at e2
    obtain⟨u',r',q⟩:=hl j y v' e1 e2 e3;refine⟨u',r',?_⟩;rcases q with q|⟨k,c',e,z'⟩
    ·exact .inl q
    ·refine .inr ⟨k,c',e,z'.sameBut hs ?_⟩
     rintro rfl;exact hj<|Zhh hN e1 (I.ok.inj _ _ _ e hc ▸ hi)
  ·by_cases hcc:c'=c
   ·subst hcc;exact⟨_,hc'⟩
   ·obtain⟨w2,z2⟩:=I.cell y c' e
    exact⟨w2,z2.sameBut hs hcc⟩
  ·obtain⟨e,n,ne,nf,d⟩:=I.pin p hp
   refine⟨(hs.2 p.1 ?_).trans e,n,ne,nf,d⟩;intro q;rw[q,hoc]at e;have q':oc=p.2:=Waw.inj e;exact d w' (by rw[<- q'];exact hocd)
theorem Zem {M:Model}{A:Around}{E:Qb0}{i:Nat}{x:Str}{v:V}{u:Value}{Q:Unit->Shared->Prop}(I:Inv X pins Z H s) (hN:X.N.Nodup) (hi:X.N[i]?=some x) (hx:Loc X.env.scope x) (r:RelV v u)
  (h:∀s',Inv X pins (Z.set i<|some v) H s' -> Q () s') (hf:X.fn x=true\/X.env.scope.names.lookup x=some .local:=by first|exact .inl rfl|exact .inr rfl|assumption):wpAny M A (storeName X.env x u) Q E s:=
 Ziy I hN hi hx r (λs' I' _=>h s' I') hf
theorem Inv.call' {s':Shared}{ch:List Addr}(I:Inv X pins Z H s) (ho:s'.os=s.os) (u:Un (frs X.stack) ch H H' s.heap s'.heap) (hok:HOk X.prog X.w H' s'.heap) (hg:AllBare s'.gens)
  (hch:∀b∈ch,(b∈X.ex\/X.s₀.heap.objs.size<=b)/\b≠X.env.locals/\(∀x c,X.env.cells.lookup x=some c->c≠b)/\∀p∈X.pn++pins,p.1≠b):Inv X pins Z H' s':=by
 obtain⟨h',g',d',t',o'⟩:=s';have e:o'=s.os:=ho;subst e;exact I.call (g':=g') (t':=t') (d':=d') u hok hg hch
end
abbrev XK:=Value->Option Addr->Hp->Prop
abbrev St:=List<|Option V
abbrev VK:=V->Hp->Prop
abbrev TE:=St->Hp->VK->Prop
abbrev TT:=St->Hp->(Bool->Hp->Prop)->Prop
abbrev TA:=St->Hp->(List V->Hp->Prop)->Prop
structure Ends where
 nx:St->Hp->Prop
 rt:VK
 bk:St->Hp->Prop:=λ_ _=>False
 ct:St->Hp->Prop:=λ_ _=>False
abbrev TS:=Ends->St->Hp->Prop
def EP (X:Cx) (pins:Qbz) (Z:St) (Q:VK) (u:Value) (s':Shared):Prop:=∃v H',Inv X pins Z H' s' /\ RelV v u/\Q v H'
def TP (X:Cx) (pins:Qbz) (Z:St) (Q:Bool->Hp->Prop) (b:Bool) (s':Shared):Prop:=∃H',Inv X pins Z H' s' /\ Q b H'
def AP (X:Cx) (pins:Qbz) (Z:St) (Q:List V->Hp->Prop) (us:List Value) (s':Shared):Prop:=∃vs H',Inv X pins Z H' s' /\ Vals vs us/\Q vs H'
def SP (X:Cx) (pins:Qbz) (D:Ends) (f:Flow) (s':Shared):Prop:=
 match f with
 |.next=>∃Z' H',Inv X pins Z' H' s' /\ D.nx Z' H'
 |.brk=>∃Z' H',Inv X pins Z' H' s' /\ D.bk Z' H'
 |.cont=>∃Z' H',Inv X pins Z' H' s' /\ D.ct Z' H'
 |.ret u=>∃v Z' H',Inv X pins Z' H' s' /\ RelV v u/\D.rt v H'
def PE (X:Cx) (e:Expr) (t:TE):Prop:=
 ∀(pins:Qbz) (s:Shared) (Z:St) (H:Hp) (Q:VK),Inv X pins Z H s->t Z H Q->wpAny (model X.prog X.w) X.A (eval e X.env) (EP X pins Z Q) X.xe s
def PT (X:Cx) (e:Expr) (t:TT):Prop:=
 ∀(pins:Qbz) (s:Shared) (Z:St) (H:Hp) (Q:Bool->Hp->Prop),Inv X pins Z H s->t Z H Q->wpAny (model X.prog X.w) X.A (isTrue e X.env<|eval e X.env) (TP X pins Z Q) X.xe s
def PW (X:Cx) (e:Expr) (t:TT):Prop:=
 ∀(whole:Sem Value) (pins:Qbz) (s:Shared) (Z:St) (H:Hp) (Q:Bool->Hp->Prop),Inv X pins Z H s->t Z H Q->wpAny (model X.prog X.w) X.A (isTrue e X.env whole) (TP X pins Z Q) X.xe s
theorem PW.pt {X:Cx}{e:Expr}{t:TT}(h:PW X e t):PT X e t:=h _
def PA (X:Cx) (es:List Expr) (t:TA):Prop:=
 ∀(pos:Pos) (pins:Qbz) (s:Shared) (Z:St) (H:Hp) (Q:List V->Hp->Prop),Inv X pins Z H s->t Z H Q->wpAny (model X.prog X.w) X.A (spliced<|backTo pos<|starEach es X.env) (AP X pins Z Q) X.xe s
def PS (X:Cx) (st:Stmt) (t:TS):Prop:=
 ∀(pins:Qbz) (s:Shared) (Z:St) (H:Hp) (D:Ends),Inv X pins Z H s->t D Z H->wpAny (model X.prog X.w) X.A (exec st X.env) (SP X pins D) X.xe s
def PSs (X:Cx) (st:List Stmt) (t:TS):Prop:=
 ∀(pins:Qbz) (s:Shared) (Z:St) (H:Hp) (D:Ends),Inv X pins Z H s->t D Z H->wpAny (model X.prog X.w) X.A (execs st X.env) (SP X pins D) X.xe s
theorem thn {α:Type}{t:Sem α}{Q Q':α -> Shared->Prop}{M:Model}{A:Around}{E:Qb0}{s:Shared}(h:wpAny M A t Q E s) (hQ:∀a s,Q a s->Q' a s):wpAny M A t Q' E s:=Qbp h hQ λ_ _ x=>x
section
variable {X:Cx}
def tVar (i:Nat):TE:=λZ H Q=>∃v,Z[i]?=some (some v)/\Q v H
def tC (v:V):TE:=λ_ H Q=>Q v H
theorem Zv1 {i:Nat}{x:Str}{pos:Pos}(hN:X.N[i]?=some x) (hv:Vis X.env.scope x) (hd:(x == ("__debug__":Str))=false:=by decide) (hcd:(x == ("__classdict__":Str))=false:=by decide):PE X (.Name x pos) (tVar i):=by
 intro pins s Z H Q I h;obtain⟨v,e,h⟩:=h;obtain⟨m,hn,hl⟩:=I.loc;obtain⟨u,r,l⟩:=hl i x v hN e hv;have fin:EP X pins Z Q u s:=⟨v,H,I,r,h⟩;rcases l with ⟨hk,hm⟩|⟨hk,c,hc,hcell⟩
 ·exact wpAny_Name (wpAny_loadName_local I.ok.kind hk hn hm fin) hd
 ·rcases hk with hk|hk
  ·exact wpAny_Name (wpAny_loadName_cell I.ok.kind hk hc hcell fin) hd
  ·exact wpAny_Name (wpAny_loadName_free I.ok.kind hk hc hcell fin hcd) hd
theorem Zag {i j pos}:PE X (.Constant (.int i) j pos) (tC (.int i)):=λ_ _ _ H _ I h=>wpAny_Constant_int ⟨.int i,H,I.tok _,⟨_,rfl⟩,h⟩
theorem Zh7 {b j pos}:PE X (.Constant (.bool b) j pos) (tC (.bl b)):=λ_ _ _ H _ I h=>Constant_bool ⟨.bl b,H,I,rfl,h⟩
theorem Zdg {j pos}:PE X (.Constant .none j pos) (tC .non):=λ_ _ _ H _ I h=>Constant_none ⟨.non,H,I,rfl,h⟩
theorem Za1 {x j pos}:PE X (.Constant (.str x) j pos) (tC (.str x)):=λ_ _ _ H _ I h=>Calls.Constant_str ⟨.str x,H,I.tok _,⟨_,rfl⟩,h⟩
def Gl (X:Cx) (x:Str):Prop:=X.env.kindOf x=some .globalImplicit
theorem Zc5 {E:Qb0}{pins:Qbz}{s:Shared}{Z:St}{H:Hp}{x:Str}{u:Value}{pos:Pos}{Q:Qb0}(I:Inv X pins Z H s) (hg:Gl X x) (hm:X.mg x=some u) (h:Q u s)
  (hd:(x == ("__debug__":Str))=false:=by decide):wpAny (model X.prog X.w) X.A (eval (.Name x pos) X.env) Q E s:=
 Calls.Name_function_global I.ok.kind hg (Calls.loadGlobal_global (by rw[I.ok.glob];exact I.mod.glob.keeps I.bk) hm h) hd
theorem Ze0 {E:Qb0}{pins:Qbz}{s:Shared}{Z:St}{H:Hp}{x:Str}{u:Value}{pos:Pos}{Q:Qb0}(I:Inv X pins Z H s) (hg:Gl X x) (hm:X.mg x=none) (hv:bootBuiltins x=some u) (h:Q u s)
  (hn:x ≠ "__name__":=by decide) (hd:(x == ("__debug__":Str))=false:=by decide):wpAny (model X.prog X.w) X.A (eval (.Name x pos) X.env) Q E s:=by
 obtain⟨mb,h1,h2⟩:=I.mod.blt;exact Calls.Name_function_global I.ok.kind hg (Calls.loadGlobal_builtin (by rw[I.ok.glob];exact I.mod.glob.keeps I.bk) hm (by rw[I.ok.blt];exact h1.keeps I.bk) ((h2 x hn).trans hv) h) hd
theorem Zbl {x:Str}{v:V}{u:Value}{pos:Pos}(hg:Gl X x) (hm:X.mg x=some u) (r:RelV v u) (hd:(x == ("__debug__":Str))=false:=by decide):PE X (.Name x pos) (tC v):=
 λ_ _ _ H _ I h=>Zc5 I hg hm ⟨v,H,I,r,h⟩ hd
theorem Zc3 {x:Str}{v:V}{u:Value}{pos:Pos}(hg:Gl X x) (hm:X.mg x=none) (hv:bootBuiltins x=some u) (r:RelV v u) (hn:x ≠ "__name__":=by decide) (hd:(x == ("__debug__":Str))=false:=by decide):PE X (.Name x pos) (tC v):=
 λ_ _ _ H _ I h=>Ze0 I hg hm hv ⟨v,H,I,r,h⟩ hn hd
variable {a b:Expr}{ta tb:TE}{pos:Pos}
variable {tA tB':TT}{rest:List Expr}
def tAnd (t u:TT):TT:=λZ H Q=>t Z H λc H1=>if c=true then u Z H1 Q else Q false H1
def tOr (t u:TT):TT:=λZ H Q=>t Z H λc H1=>if c=true then Q true H1 else u Z H1 Q
def tNot (t:TT):TT:=λZ H Q=>t Z H λc H1=>Q (!c) H1
theorem pw_and1 (ha:PT X a tA):PW X (.BoolOp .And [a] pos) tA:=by
 intro wh pins s Z H Q I h;refine isTrue_and (thn (ha pins s Z H Q I h) λc s1 e=>?_);cases c with
 |true=>exact isTrue_and_nil e
 |false=>exact e
theorem pw_or1 (ha:PT X a tA):PW X (.BoolOp .Or [a] pos) tA:=by
 intro wh pins s Z H Q I h;refine isTrue_or (thn (ha pins s Z H Q I h) λc s1 e=>?_);cases c with
 |false=>exact isTrue_or_nil e
 |true=>exact e
theorem pw_and (ha:PT X a tA) (hb:PW X (.BoolOp .And (b::rest) pos) tB'):PW X (.BoolOp .And (a::b::rest) pos) (tAnd tA tB'):=by
 intro wh pins s Z H Q I h;refine isTrue_and (thn (ha pins s Z H _ I h) λc s1 ⟨H1,I1,q1⟩=>?_);cases c with
 |true=>exact hb wh pins s1 Z H1 Q I1 q1
 |false=>exact⟨H1,I1,q1⟩
theorem pw_or (ha:PT X a tA) (hb:PW X (.BoolOp .Or (b::rest) pos) tB'):PW X (.BoolOp .Or (a::b::rest) pos) (tOr tA tB'):=by
 intro wh pins s Z H Q I h;refine isTrue_or (thn (ha pins s Z H _ I h) λc s1 ⟨H1,I1,q1⟩=>?_);cases c with
 |true=>exact⟨H1,I1,q1⟩
 |false=>exact hb wh pins s1 Z H1 Q I1 q1
theorem Zcl (ha:PT X a tA):PT X (.UnaryOp .Not a pos) (tNot tA):=by
 intro pins s Z H Q I h;exact isTrue_not<|ha pins s Z H (λc H1=>Q (!c) H1) I h
def tAndV (ta tb:TE):TE:=λZ H Q=>ta Z H λx H1=>∃c,x=.bl c/\if c=true then tb Z H1 Q else Q (.bl false) H1
def tOrV (ta tb:TE):TE:=λZ H Q=>ta Z H λx H1=>∃c,x=.bl c/\if c=true then Q (.bl true) H1 else tb Z H1 Q
def tNotV (ta:TE):TE:=λZ H Q=>ta Z H λx H1=>∃c,x=.bl c/\Q (.bl (!c)) H1
theorem Zgs {op} {t:TE}(h:PE X a t):PE X (.BoolOp op [a] pos) t:=λpins s Z H Q I hw=>BoolOp_one<|h pins s Z H Q I hw
theorem Zdp (ha:PE X a ta) (hb:PE X (.BoolOp .And (b::rest) pos) tb):PE X (.BoolOp .And (a::b::rest) pos) (tAndV ta tb):=by
 intro pins s Z H Q I h;refine BoolOp_and (thn (ha pins s Z H _ I h) λv s1 ⟨x,H1,I1,r1,q1⟩=>?_);obtain⟨c,rfl,q1⟩:=q1;cases r1;refine wpAny_truthy_bool ?_;cases c with
 |true=>exact hb pins s1 Z H1 Q I1 q1
 |false=>exact⟨.bl false,H1,I1,rfl,q1⟩
theorem Zr7 (ha:PE X a ta):PE X (.UnaryOp .Not a pos) (tNotV ta):=by
 intro pins s Z H Q I h;refine UnaryOp_ (thn (ha pins s Z H _ I h) λv s1 ⟨x,H1,I1,r1,q1⟩=>?_);obtain⟨c,rfl,q1⟩:=q1;cases r1;exact not_of<|wpAny_truthy_bool ⟨.bl (!c),H1,I1,rfl,q1⟩
def tIf (t:TT) (ta tb:TE):TE:=λZ H Q=>t Z H λc H1=>if c=true then ta Z H1 Q else tb Z H1 Q
theorem Zfj {c:Expr}(hc:PT X c tA) (ha:PE X a ta) (hb:PE X b tb):PE X (.IfExp c a b pos) (tIf tA ta tb):=by
 intro pins s Z H Q I h;refine wpAny_IfExp (thn (hc pins s Z H _ I h) λd s1 ⟨H1,I1,q1⟩=>?_);cases d with
 |true=>exact ha pins s1 Z H1 Q I1 q1
 |false=>exact hb pins s1 Z H1 Q I1 q1
end
def SqL (K:W.Frag) (H:Hp) (a:Addr) (xs:List V):Prop:=
 Rd H a (.lst xs) \/
  ∃(o:Obj) (its:Array Value) (n:Nat),K.lookup a=some o/\o.cls=.type "list" /\ o.dict=none/\o.data=.seq its n/\its.size<=sizeLine/\Vals xs its.toList
def SqT (K:W.Frag) (H:Hp) (a:Addr) (xs:List V):Prop:=
 Rd H a (.tup xs) \/
  ∃(o:Obj) (its:Array Value) (n:Nat),K.lookup a=some o/\o.cls=.type "tuple" /\ o.data=.seq its n/\its.size<=sizeLine/\Vals xs its.toList
def absV:Value->Option V
 |.none=>some .non
 |.bool b=>some (.bl b)
 |.int i _=>some (.int i)
 |.str x _=>some (.str x)
 |.bytes b _=>some (.byt b)
 |.float b _=>some (.flt b)
 |.ref a=>some (.ref a)
 |.type n=>some (.ty n)
 |_=>none
theorem RelV.abs {x:V}{u:Value}(r:RelV x u):absV u=some x:=by
 cases x with
 |non=>cases r;rfl
 |bl _=>cases r;rfl
 |int _=>obtain⟨t,rfl⟩:=r;rfl
 |str _=>obtain⟨t,rfl⟩:=r;rfl
 |byt _=>obtain⟨t,rfl⟩:=r;rfl
 |flt _=>obtain⟨t,rfl⟩:=r;rfl
 |ref _=>cases r;rfl
 |ty _=>cases r;rfl
theorem RelV.inj {x y:V}{u:Value}(r:RelV x u) (q:RelV y u):x=y:=Waw.inj<|r.abs.symm.trans q.abs
theorem Vals.inj:∀{xs ys:List V}{us:List Value},Vals xs us->Vals ys us->xs=ys
 |_,_,_,.nil,.nil=>rfl
 |_,_,_,.cons r t,.cons r' t'=>by rw[r.inj r',Vals.inj t t']
section
variable {X:Cx}{pins:Qbz}{Z:St}{H:Hp}{s:Shared}{a:Addr}{xs ys:List V}
theorem SqL.of {K:W.Frag}(h:H a=some (.lst xs)):SqL K H a xs:=.inl (.inl h)
theorem SqT.of {K:W.Frag}(h:H a=some (.tup xs)):SqT K H a xs:=.inl (.inl h)
theorem Inv.list (I:Inv X pins Z H s) (h:SqL X.K H a xs):∃its:List Value,Vals xs its/\PlainL s.heap a its.toArray/\xs.length<=sizeLine:=by
 rcases h with h|⟨o,its,n,hk,hc,hd,hs,hz,r⟩
 ·obtain⟨z,its,n,r,e⟩:=h.ok I.hok
  exact⟨its,r,⟨_,n,e,rfl,rfl,rfl⟩,z⟩
 ·refine⟨its.toList,r,⟨o,n,I.kIn a o hk,hc,hd,by simpa using hs⟩,?_⟩
  have e:=r.length;simp only[Array.length_toList]at e;omega
theorem Inv.tuple (I:Inv X pins Z H s) (h:SqT X.K H a xs):∃its:List Value,Vals xs its/\IsTup s.heap a its.toArray/\xs.length<=sizeLine:=by
 rcases h with h|⟨o,its,n,hk,hc,hs,hz,r⟩
 ·obtain⟨z,its,r,p⟩:=h.ok I.hok
  exact⟨its,r,p.tup,z⟩
 ·refine⟨its.toList,r,⟨o,I.kIn a o hk,hc,n,by simpa using hs⟩,?_⟩
  have e:=r.length;simp only[Array.length_toList]at e;omega
theorem Inv.list_inj (I:Inv X pins Z H s) (h:SqL X.K H a xs) (h':SqL X.K H a ys):xs=ys:=by
 obtain⟨its,r,⟨o,n,e,_,_,d⟩,_⟩:=I.list h;obtain⟨its',r',⟨o',n',e',_,_,d'⟩,_⟩:=I.list h';rw[e]at e';cases e';rw[d]at d';injection d' with d1 _
 have:its=its':=by simpa using congrArg Array.toList d1
 subst this;exact r.inj r'
theorem Inv.tuple_inj (I:Inv X pins Z H s) (h:SqT X.K H a xs) (h':SqT X.K H a ys):xs=ys:=by
 obtain⟨its,r,⟨o,e,_,n,d⟩,_⟩:=I.tuple h;obtain⟨its',r',⟨o',e',_,n',d'⟩,_⟩:=I.tuple h';rw[e]at e';cases e';rw[d]at d';injection d' with d1 _
 have:its=its':=by simpa using congrArg Array.toList d1
 subst this;exact r.inj r'
end
abbrev Cx.wish (X:Cx) (E:Qb0):Cx:={ X with xe:=E }
abbrev Cx.nox (X:Cx):Cx:=X.wish λ_ _=>False
theorem Cx.Ok.wish {X:Cx}(ok:X.Ok) (E:Qb0):(X.wish E).Ok:=
 ⟨ok.mod,ok.kind,ok.glob,ok.blt,ok.above,ok.inj,ok.has,ok.cab,ok.hd,ok.frames,ok.stk,ok.exf,ok.bs,ok.bsz,ok.noex,ok.exfs,ok.funs,ok.frf⟩
theorem Cx.Ok.unwish {X:Cx}{E:Qb0}(ok:(X.wish E).Ok):X.Ok:=
 ⟨ok.mod,ok.kind,ok.glob,ok.blt,ok.above,ok.inj,ok.has,ok.cab,ok.hd,ok.frames,ok.stk,ok.exf,ok.bs,ok.bsz,ok.noex,ok.exfs,ok.funs,ok.frf⟩
section
variable {X:Cx}{pins:Qbz}{Z:St}{H:Hp}{s:Shared}{E:Qb0}
theorem Inv.wish (I:Inv X pins Z H s) (E:Qb0):Inv (X.wish E) pins Z H s:=⟨I.ok.wish E,I.os,I.bare,I.base,I.loc,I.cell,I.free,I.freeC,I.pin,I.hok,I.len⟩
theorem Inv.unwish (I:Inv (X.wish E) pins Z H s):Inv X pins Z H s:=⟨I.ok.unwish,I.os,I.bare,I.base,I.loc,I.cell,I.free,I.freeC,I.pin,I.hok,I.len⟩
theorem SP.unwish {D:Ends}{f:Flow}{s':Shared}(h:SP (X.wish E) pins D f s'):SP X pins D f s':=by
 cases f with
 |next=>obtain⟨Z',H',I,q⟩:=h;exact⟨Z',H',I.unwish,q⟩
 |brk=>obtain⟨Z',H',I,q⟩:=h;exact⟨Z',H',I.unwish,q⟩
 |cont=>obtain⟨Z',H',I,q⟩:=h;exact⟨Z',H',I.unwish,q⟩
 |ret u=>obtain⟨v,Z',H',I,r,q⟩:=h;exact⟨v,Z',H',I.unwish,r,q⟩
theorem PSs.nox {st:List Stmt}{t:TS}(h:PSs X.nox st t):PSs X st t:=λpins s Z H D I hw=>
 Qbp (h pins s Z H D (I.wish _) hw) (λ_ _ q=>q.unwish) λ_ _ z=>False.elim z
end
section
variable {X:Cx}{st:Stmt}{rest:List Stmt}{t u:TS}{e:Expr}{te:TE}{pos:Pos}
def tNext:TS:=λD Z H=>D.nx Z H
def tSeq (t u:TS):TS:=λD Z H=>t { D with nx:=u D } Z H
theorem Za4:PSs X [] tNext:=λ_ _ Z H _ I h=>wpAny_execs_nil ⟨Z,H,I,h⟩
theorem Zaf (h1:PS X st t) (h2:PSs X rest u):PSs X (st::rest) (tSeq t u):=by
 intro pins s Z H D I h;refine wpAny_execs_cons (thn (h1 pins s Z H { D with nx:=u D } I h) λf s1 q=>?_);cases f with
 |next=>
  obtain⟨Z',H',I',q⟩:=q;exact h2 pins s1 Z' H' D I' q
 |ret v=>exact q
 |brk=>exact q
 |cont=>exact q
theorem Zah (h1:PS X st t):PSs X [st] t:=by
 intro pins s Z H D I h;refine wpAny_execs_cons (thn (h1 pins s Z H D I h) λf s1 q=>?_);cases f with
 |next=>exact wpAny_execs_nil q
 |ret v=>exact q
 |brk=>exact q
 |cont=>exact q
theorem Inv.quiet {pins:Qbz}{Z:St}{H:Hp}{s:Shared}(I:Inv X pins Z H s):interactive X.env=false:=by simp[interactive,I.ok.kind]
def tDrop (te:TE):TS:=λD Z H=>te Z H λ_ H1=>D.nx Z H1
theorem Zc4 (he:PE X e te) (hs:swapsWith e none pos.line X.env=pure false:=by rfl):PS X (.Expr e pos) (tDrop te):=by
 intro pins s Z H D I h;exact wpAny_Expr_any (thn (he pins s Z H _ I h) λv s1 ⟨x,H1,I1,r1,q1⟩=>⟨Z,H1,I1,q1⟩) I.quiet hs
def tRet (te:TE):TS:=λD Z H=>te Z H D.rt
theorem Zaw (he:PE X e te):PS X (.Return (some e) pos) (tRet te):=by
 intro pins s Z H D I h;exact wpAny_Return_some (thn (he pins s Z H _ I h) λv s1 ⟨x,H1,I1,r1,q1⟩=>⟨x,Z,H1,I1,r1,q1⟩)
def tIfS (c:TT) (t u:TS):TS:=λD Z H=>c Z H λb H1=>if b=true then t D Z H1 else u D Z H1
theorem Zbg {c:Expr}{a b:List Stmt}{tc:TT}(hc:PT X c tc) (ha:PSs X a t) (hb:PSs X b u):PS X (.If c a b pos) (tIfS tc t u):=by
 intro pins s Z H D I h;refine wpAny_If (thn (hc pins s Z H _ I h) λd s1 ⟨H1,I1,q1⟩=>?_);cases d with
 |true=>exact ha pins s1 Z H1 D I1 q1
 |false=>exact hb pins s1 Z H1 D I1 q1
end
abbrev TG:=V->St->Hp->(St->Hp->Prop)->Prop
abbrev TGs:=List V->St->Hp->(St->Hp->Prop)->Prop
def PG (X:Cx) (target:Expr) (t:TG):Prop:=
 ∀(pins:Qbz) (s:Shared) (Z:St) (H:Hp) (v:V) (u:Value) (Q:St->Hp->Prop),Inv X pins Z H s->RelV v u->t v Z H Q ->
  wpAny (model X.prog X.w) X.A (assign target X.env u) (λ_ s'=>∃Z' H',Inv X pins Z' H' s' /\ Q Z' H') X.xe s
def PGs (X:Cx) (ts:List Expr) (t:TGs):Prop:=
 ∀(pins:Qbz) (s:Shared) (Z:St) (H:Hp) (vs:List V) (us:List Value) (Q:St->Hp->Prop),Inv X pins Z H s->Vals vs us->t vs Z H Q ->
  wpAny (model X.prog X.w) X.A (assignInOrder ((assignEach ts X.env).map (·.2)) us) (λ_ s'=>∃Z' H',Inv X pins Z' H' s' /\ Q Z' H') X.xe s
abbrev TSet:=V->V->V->Hp->(Hp->Prop)->Prop
def PSet (X:Cx) (t:TSet):Prop:=
 ∀(pins:Qbz) (s:Shared) (Z:St) (H:Hp) (o i v:V) (ov iv u:Value) (Q:Hp->Prop),Inv X pins Z H s->RelV o ov->RelV i iv->RelV v u->t o i v H Q ->
  wpAny (model X.prog X.w) X.A (setItem ov iv u) (λ_ s'=>∃H',Inv X pins Z H' s' /\ Q H') X.xe s
section
variable {X:Cx}{pos:Pos}
def gName (i:Nat):TG:=λv Z H Q=>Q (Z.set i<|some v) H
theorem Za3 {i:Nat}{x:Str}(hN:X.N.Nodup) (hi:X.N[i]?=some x) (hx:Loc X.env.scope x) (hf:X.fn x=true\/X.env.scope.names.lookup x=some .local:=by first|exact .inl rfl|exact .inr rfl|assumption):PG X (.Name x pos) (gName i):=by
 intro pins s Z H v u Q I r h;exact wpAny_assign_Name<|Zem I hN hi hx r (λs' I'=>⟨_,H,I',h⟩) hf
def gNil:TGs:=λvs Z H Q=>vs=[]/\Q Z H
def gCons (t:TG) (u:TGs):TGs:=λvs Z H Q=>∃v r,vs=v::r/\t v Z H λZ' H'=>u r Z' H' Q
theorem Zd9:PGs X [] gNil:=by
 intro pins s Z H vs us Q I r h;obtain⟨e,h⟩:=h;subst e;cases r;exact assignInOrder_nil ⟨Z,H,I,h⟩
theorem Zbn {e:Expr}{es:List Expr}{t:TG}{u:TGs}(h1:PG X e t) (h2:PGs X es u)
  (hs:(assignEach (e::es) X.env).map (·.2)=assign e X.env::(assignEach es X.env).map (·.2):=by rfl):PGs X (e::es) (gCons t u):=by
 intro pins s Z H vs us Q I r h;obtain⟨v,vr,e1,h⟩:=h;subst e1;cases r with
 |cons r rr=>
  rw[hs];refine assignInOrder_cons (thn (h1 pins s Z H _ _ _ I r h) λ_ s1 ⟨Z1,H1,I1,q1⟩=>?_);exact h2 pins s1 Z1 H1 _ _ Q I1 rr q1
def gTup (K:W.Frag) (n:Nat) (t:TGs):TG:=λv Z H Q=>∃a xs,v=.ref a/\SqT K H a xs/\xs.length=n/\t xs Z H Q
theorem Zw0 {es:List Expr}{k:Nat}{t:TGs}{n:Nat}(hc:X.calm=true) (h:PGs X es t)
  (hn:(assignEach es X.env).length=n:=by rfl) (hst:(assignEach es X.env).findIdx? (·.1)=none:=by rfl):PG X (.Tuple es k pos) (gTup X.K n t):=by
 intro pins s Z H v u Q I r hw;obtain⟨a,xs,e1,hq,hl,hw⟩:=hw;subst e1;cases r;obtain⟨its,rv,ht,hz⟩:=I.tuple hq;refine assign_Tuple_tuple (I.ok.hd hc) ht (by simp[hn,<- hl,rv.length]) hst λh' hx=>?_;have I1:Inv X pins Z H { s with heap:=h' }:=I.kept (t':=s.toks) λb o e=>hx b o (Wa7<|War e) e;exact h pins _ Z H xs _ Q I1 (by simpa using rv) hw
def gSub (to ti:TE) (t:TSet):TG:=λv Z H Q=>to Z H λo H1=>ti Z H1 λi H2=>t o i v H2 λH3=>Q Z H3
theorem Zfx {o i:Expr}{to ti:TE}{t:TSet}(ho:PE X o to) (hi:PE X i ti) (hs:PSet X t)
  (ha:∀v,assign (.Subscript o i pos) X.env v=(do
   let ov <- holding [v] (eval o X.env)
   let iv <- holding [v,ov] (eval i X.env)
   standAt pos
   holding [v,ov,iv] (setItem ov iv v)
   release [v,ov,iv] []):=by intro _;rfl):PG X (.Subscript o i pos) (gSub to ti t):=by
 intro pins s Z H v u Q I r h;rw[ha];refine Qbn<|Qbq (thn (ho pins s Z H _ I h) λov s1 ⟨x,H1,I1,r1,q1⟩=>?_);refine Qbn<|Qbq (thn (hi pins s1 Z H1 _ I1 q1) λiv s2 ⟨y,H2,I2,r2,q2⟩=>?_);refine Qbn<|Qbr<|Qbn<|Qbq (thn (hs pins s2 Z H2 x y v ov iv u _ I2 r1 r2 r q2) λ_ s3 ⟨H3,I3,q3⟩=>?_);exact wpAny_release ⟨Z,H3,I3,q3⟩
def tAsg (te:TE) (g:TG):TS:=λD Z H=>te Z H λx H1=>g x Z H1 D.nx
theorem Ze3 {tg e:Expr}{te:TE}{g:TG}(he:PE X e te) (hg:PG X tg g) (hs:swapsWithSole [tg] e pos.line X.env=pure false:=by rfl) (hw:swappedStores [tg] e X.env=pure none:=by rfl)
  (h1:(assignEach [tg] X.env).map (·.2)=[assign tg X.env]:=by rfl):PS X (.Assign [tg] e pos) (tAsg te g):=by
 intro pins s Z H D I h;refine wpAny_Assign_stores (thn (he pins s Z H _ I h) λv s1 ⟨x,H1,I1,r1,q1⟩=>?_) hs hw;rw[h1];exact thn (hg pins s1 Z H1 x v _ I1 r1 q1) λ_ s2 q=>q
theorem Zas {i:Nat}{x:Str}{e:Expr}{te:TE}{pos':Pos}(hN:X.N.Nodup) (hi:X.N[i]?=some x) (hx:Loc X.env.scope x) (he:PE X e te) (hs:swapsWith e (some (.Name x pos')) pos.line X.env=pure false:=by rfl) (hf:X.fn x=true\/X.env.scope.names.lookup x=some .local:=by first|exact .inl rfl|exact .inr rfl|assumption) :
  PS X (.Assign [.Name x pos'] e pos) (tAsg te<|gName i):=by
 intro pins s Z H D I h;refine wpAny_Assign_Name (thn (he pins s Z H _ I h) λv s1 ⟨y,H1,I1,r1,q1⟩=>?_) hs;exact Zem I1 hN hi hx r1 (λs2 I2=>⟨_,H1,I2,q1⟩) hf
def tPar (i j:Nat) (ta:TA):TS:=λD Z H=>ta Z H λvs H1=>∃v w,vs=[v,w]/\D.nx ((Z.set i<|some v).set j (some w)) H1
theorem Zr8 {i j:Nat}{x y:Str}{a b:Expr}{ta:TA}{px py pt:Pos}{kt k2 pt2} (hc:X.calm=true) (hN:X.N.Nodup) (hi:X.N[i]?=some x) (hj:X.N[j]?=some y) (hij:i≠j)
  (hx:X.env.scope.names.lookup x=some .local) (hy:X.env.scope.names.lookup y=some .local) (ha:PA X [a,b] ta)
  (hw:swappedStores [.Tuple [.Name x px,.Name y py] kt pt] (.Tuple [a,b] k2 pt2) X.env=pure (some [x,y]))
  (hs:swapsWithSole [.Tuple [.Name x px,.Name y py] kt pt] (.Tuple [a,b] k2 pt2) pos.line X.env=pure false:=by rfl) :
  PS X (.Assign [.Tuple [.Name x px,.Name y py] kt pt] (.Tuple [a,b] k2 pt2) pos) (tPar i j ta):=by
 intro pins s Z H D I h;rw[exec_Assign_arm];refine Qbn<|Qbr ?_;rw[hs];refine Qbn<|Qbo ?_;rw[Qbv (by decide)];refine Qbn<|Tuple_ (thn (ha _ pins s Z H _ I h) λus s1 ⟨vs,H1,I1,r1,q1⟩=>?_);obtain⟨v,w,e1,q1⟩:=q1;subst e1;obtain⟨u1,u2,rfl,rv,rw'⟩:∃u1 u2,us=[u1,u2]/\RelV v u1/\RelV w u2:=by
  cases r1 with
  |cons p q=>
   cases q with
   |cons p' q'=>
    cases q';exact⟨_,_,rfl,p,p'⟩
 refine wpAny_newObj_type ?_ (by show 2<=sizeLine;decide);have I2:Inv X pins Z H1 { s1 with heap:=s1.heap.push { cls:=.type "tuple",data:=.seq [u1,u2].toArray } }:=I1.kept (t':=s1.toks) λb o e=>Wac _ e;rw[hw];refine Qbn<|Qbo ?_;show wpAny (model X.prog X.w) X.A (do rule "assign.swapped-stores";let items <- unpackItems (.ref s1.heap.objs.size) 2 none;assignInOrder [λv=>bindName X.env y v,λv=>bindName X.env x v] items.reverse;pure Flow.next) _ _ _;refine Qbn<|Qbt<|Qbn (unpackItems_tuple (items:=#[u1,u2]) (I.ok.hd hc) (IsTup.new s1.heap _) λh' hx'=>?_);have I3:=I2.kept (h':=h') (t':=s1.toks) λb o e=>hx' b o (Wa7<|War e) e;show wpAny _ _ (assignInOrder [λv=>bindName X.env y v,λv=>bindName X.env x v] [u2,u1] >>= λ_=>pure Flow.next) _ _ _;refine Qbn<|assignInOrder_cons<|wpAny_bindName<|Zem I3 hN hj (.inl hy) rw' (λs2 I4=>?_) (.inr hy);refine assignInOrder_cons<|wpAny_bindName<|Zem I4 hN hi (.inl hx) rv (λs3 I5=>assignInOrder_nil<|Qbo ?_) (.inr hx);rw[List.set_comm _ _ (Ne.symm hij)]at I5;exact⟨_,H1,I5,q1⟩
end
structure It where
 go:Nat->Hp->Prop
 yld:Nat->Hp->V->Hp->Prop
 stop:Nat->Hp->Prop
def FpOk (X:Cx) (pins:Qbz) (H:Hp) (b:Addr):Prop:=
 H b=none/\b≠X.env.locals/\b ∉ X.fs/\(b∈X.ex\/X.s₀.heap.objs.size<=b)/\(∀x c,X.env.cells.lookup x=some c->c≠b)/\∀p∈X.pn++pins,p.1≠b
theorem Inv.fpOk {X:Cx}{pins:Qbz}{Z:St}{H H':Hp}{s:Shared}{b:Addr}(I:Inv X pins Z H s) (hb:s.heap.objs.size<=b) (hn:H' b=none):FpOk X pins H' b:=by
 refine⟨hn,Wcr<|Wa9 I.lt hb,I.nofs hb,.inr<|Way I.sz hb,λx c e z=>?_,λp hp z=>?_⟩
 ·obtain⟨v,q⟩:=I.cell x c e
  exact absurd (Wa9 q.lt (by rw[z];exact hb))<|Wci _
 ·exact absurd (Wa9 (War (I.pin p hp).1) (by rw[z];exact hb))<|Wci _
structure TurnG (Cm:Cx->Prop) (P:Program) (w:World) (K:W.Frag) (tg:Expr) (J:It) (fp:List Addr) (it:Addr) (tn:Nat->Heap->Prop):Prop where
 mem:it∈fp
 obj:∀i h,tn i h->∀b∈fp,∃o,h.get? b=some o/\∀v,o.data≠.cell v
 keep:∀i h h',tn i h->(∀b∈fp,∀o,h.get? b=some o->h'.get? b=some o)->tn i h'
 item:∀(X:Cx),X.prog=P->X.w=w->X.K=K->Cm X->∀(i:Nat) (pins:Qbz) (s:Shared) (Z:St) (H:Hp) (E:Qb0),Inv X pins Z H s->(∀b∈fp,FpOk X pins H b)->tn i s.heap->J.go i H ->
  wpAny (model P w) X.A (pyNext (.ref it)) (λr s1=>∃u,r=some u /\
   wpAny (model P w) X.A (letOwnedTupleGo tg (.ref it) u) (λ_ s2=>∃x H',Inv X pins Z H' s2/\RelV x u/\J.yld i H x H' /\ tn (i+1) s2.heap/\∀b∈fp,H' b=none) E s1) E s
 done:∀(X:Cx),X.prog=P->X.w=w->X.K=K->Cm X->∀(i:Nat) (pins:Qbz) (s:Shared) (Z:St) (H:Hp) (E:Qb0),Inv X pins Z H s->(∀b∈fp,FpOk X pins H b)->tn i s.heap->J.stop i H ->
  wpAny (model P w) X.A (pyNext (.ref it)) (λr s1=>r=none/\Inv X pins Z H s1) E s
 self:∀(A:Around) (i:Nat) (s:Shared) (Q:Qb0) (E:Qb0),tn i s.heap->Q (.ref it) s->wpAny (model P w) A (pyIter (.ref it)) Q E s
abbrev Turn:=TurnG λX=>X.calm=true
abbrev TI:=St->Hp->(It->Hp->Prop)->Prop
def PIEG (Cm:Cx->Prop) (X:Cx) (pins:Qbz) (Z:St) (tg:Expr) (R:It->Hp->Prop) (itv:Value) (s2:Shared):Prop:=
 ∃(it:Addr) (fp:List Addr) (tn:Nat->Heap->Prop) (J:It) (H':Hp),itv=.ref it/\Inv X pins Z H' s2/\TurnG Cm X.prog X.w X.K tg J fp it tn/\tn 0 s2.heap/\(∀b∈fp,FpOk X pins H' b)/\R J H'
def PIG (Cm:Cx->Prop) (X:Cx) (tg iter:Expr) (wi:TI):Prop:=
 ∀(pins:Qbz) (s:Shared) (Z:St) (H:Hp) (R:It->Hp->Prop),Inv X pins Z H s->wi Z H R ->
  wpAny (model X.prog X.w) X.A (eval iter X.env) (λv s1=>wpAny (model X.prog X.w) X.A (pyIter v) (PIEG Cm X pins Z tg R) X.xe s1) X.xe s
abbrev PIE:=PIEG λX=>X.calm=true
abbrev PI:=PIG λX=>X.calm=true
theorem Znc {M:Model}{A:Around}{E:Qb0}{s:Shared}{tg:Expr}{it:Addr}{u:Value}{o:Obj}{n:String}{vs:Array Value}{Q:Unit->Shared->Prop}(ho:s.heap.get? it=some o) (hc:o.cls=.type n) (hd:o.data=.fields vs)
  (hn:["enumerate","zip","dict_itemiterator","dict_reverseitemiterator","odict_iterator","itertools.zip_longest","itertools.pairwise"].contains n=false) (hQ:Q () s):wpAny M A (letOwnedTupleGo tg (.ref it) u) Q E s:=by
 unfold letOwnedTupleGo;cases tg <;> first
  |exact Qbo hQ
  | (cases u <;> first
      |exact Qbo hQ
      | (refine Qbn (wpAny_load ho ?_)
         rw[hc,hd];show wpAny M A (if (["enumerate","zip","dict_itemiterator","dict_reverseitemiterator","odict_iterator","itertools.zip_longest","itertools.pairwise"].contains n && vs[0]? == some (rawInt _))=true then _ else _) Q E s;rw[Qbv (by intro h;rw[hn,Wdi]at h;cases h)];exact Qbo hQ))
def Itl (K:W.Frag) (a:Addr):It:=
 ⟨λi H=>∃xs x,SqL K H a xs/\xs[i]?=some x,λi H x H'=>H'=H/\∀xs,SqL K H a xs->xs[i]?=some x,λi H=>∃xs,SqL K H a xs/\xs.length<=i⟩
def Itt (K:W.Frag) (a:Addr):It:=
 ⟨λi H=>∃xs x,SqT K H a xs/\xs[i]?=some x,λi H x H'=>H'=H/\∀xs,SqT K H a xs->xs[i]?=some x,λi H=>∃xs,SqT K H a xs/\xs.length<=i⟩
def Itr (lo:Int) (n:Nat):It:=⟨λi _=>i<n,λi H x H'=>H'=H/\x=.int (lo+i),λi _=>n<=i⟩
theorem Zot {P:Program}{w:World}{K:W.Frag}{tg:Expr}(a it:Addr):Turn P w K tg (Itl K a) [it] it (λi h=>h.IsListIter it a i) where
 mem:=by simp
 obj:=λi h st b hb=>by
  have e:b=it:=by simpa using hb
  subst e;obtain⟨o,e,c,d⟩:=st;exact⟨o,e,λv z=>by rw[d]at z;cases z⟩
 keep:=λi h h' st k=>st.at λo e=>k it (by simp) o e
 item:=by
  intro X hP hw hK hc i pins s Z H E I hf st hg;subst hP hw hK;obtain⟨xs,x,hq,hx⟩:=hg;obtain⟨its,rv,p,hz⟩:=I.list hq;obtain⟨u,hu,ru⟩:=rv.get hx;obtain⟨f0,f1,f2,f3,f4,f5⟩:=hf it (by simp);refine wpAny_pyNext_list_item st p.isList (x:=u) (by simpa using hu) λh' st' sb=>?_;have I1:Inv X pins Z H { s with heap:=h' }:=I.turned (t':=s.toks) (λb o hb e=>(sb.2 b hb).trans e) f0 f1 f3 f4 f5;obtain⟨o,e,c,d⟩:=id st';exact⟨u,rfl,Znc (s:={ s with heap:=h' }) e c d (by decide) ⟨x,H,I1,ru,⟨rfl,λys hy=>by rw[I.list_inj hy hq];exact hx⟩,st',λb hb=>(hf b hb).1⟩⟩
 done:=by
  intro X hP hw hK hc i pins s Z H E I hf st hg;subst hP hw hK;obtain⟨xs,hq,hx⟩:=hg;obtain⟨its,rv,p,hz⟩:=I.list hq;obtain⟨f0,f1,f2,f3,f4,f5⟩:=hf it (by simp);have hl:=rv.length;exact wpAny_pyNext_list_end (I.ok.hd hc) st p.isList (by simp;omega) λh' eb=>⟨rfl,I.turned (t':=s.toks) (λb o hb e=>eb b o hb e) f0 f1 f3 f4 f5⟩
 self:=λ_ _ _ _ _ st h=>wpAny_pyIter_listiter st h
theorem Zl2 {P:Program}{w:World}{K:W.Frag}{tg:Expr}(a it:Addr):Turn P w K tg (Itt K a) [it] it (λi h=>h.IsTupleIter it a i) where
 mem:=by simp
 obj:=λi h st b hb=>by
  have e:b=it:=by simpa using hb
  subst e;obtain⟨o,e,c,d⟩:=st;exact⟨o,e,λv z=>by rw[d]at z;cases z⟩
 keep:=λi h h' st k=>st.at λo e=>k it (by simp) o e
 item:=by
  intro X hP hw hK hc i pins s Z H E I hf st hg;subst hP hw hK;obtain⟨xs,x,hq,hx⟩:=hg;obtain⟨its,rv,p,hz⟩:=I.tuple hq;obtain⟨u,hu,ru⟩:=rv.get hx;obtain⟨f0,f1,f2,f3,f4,f5⟩:=hf it (by simp);refine wpAny_pyNext_tuple_item st (show s.heap.IsTuple a its.toArray from p) (x:=u) (by simpa using hu) λh' st' sb=>?_;have I1:Inv X pins Z H { s with heap:=h' }:=I.turned (t':=s.toks) (λb o hb e=>(sb.2 b hb).trans e) f0 f1 f3 f4 f5;obtain⟨o,e,c,d⟩:=id st';exact⟨u,rfl,Znc (s:={ s with heap:=h' }) e c d (by decide) ⟨x,H,I1,ru,⟨rfl,λys hy=>by rw[I.tuple_inj hy hq];exact hx⟩,st',λb hb=>(hf b hb).1⟩⟩
 done:=by
  intro X hP hw hK hc i pins s Z H E I hf st hg;subst hP hw hK;obtain⟨xs,hq,hx⟩:=hg;obtain⟨its,rv,p,hz⟩:=I.tuple hq;obtain⟨f0,f1,f2,f3,f4,f5⟩:=hf it (by simp);have hl:=rv.length;exact wpAny_pyNext_tuple_end (I.ok.hd hc) st (show s.heap.IsTuple a its.toArray from p) (by simp;omega) λh' eb=>⟨rfl,I.turned (t':=s.toks) (λb o hb e=>eb b o hb e) f0 f1 f3 f4 f5⟩
 self:=λ_ _ _ _ _ st h=>wpAny_pyIter_tupleiter st h
theorem Zlh {P:Program}{w:World}{K:W.Frag}{tg:Expr}(it:Addr) (lo:Int) (n:Nat):Turn P w K tg (Itr lo n) [it] it (λi h=>IsRangeIter h it (lo+(i:Nat)*1) ((n:Int)-(i:Nat)) 1) where
 mem:=by simp
 obj:=λi h st b hb=>by
  have e:b=it:=by simpa using hb
  subst e;exact⟨_,st,λv z=>by
   have z':Data.fields _=Data.cell v:=z;cases z'⟩
 keep:=λi h h' st k=>k it (by simp) _ st
 item:=by
  intro X hP hw hK hc i pins s Z H E I hf st hg;subst hP hw hK;obtain⟨f0,f1,f2,f3,f4,f5⟩:=hf it (by simp);have W:=Walks.range (prog:=X.prog) (w:=X.w) (I.ok.hd hc) it lo 1 n;refine W.item i s _ _ hg st λv h' tk hv st' kk=>?_;obtain⟨t,rfl⟩:=hv;have I1:Inv X pins Z H { s with heap:=h',toks:=tk }:=I.turned (λb o hb e=>kk b o (by simpa using hb) e) f0 f1 f3 f4 f5;refine⟨_,rfl,Znc (s:={ s with heap:=h',toks:=tk }) (n:="range_iterator") st' rfl rfl (by decide) ⟨.int<|lo+i,H,I1,⟨t,?_⟩,⟨rfl,rfl⟩,st',λb hb=>(hf b hb).1⟩⟩;rw[Int.mul_one]
 done:=by
  intro X hP hw hK hc i pins s Z H E I hf st hg;subst hP hw hK;obtain⟨f0,f1,f2,f3,f4,f5⟩:=hf it (by simp);exact wpAny_pyNext_range_end (I.ok.hd hc) st (by have:n<=i:=hg;omega) λh' eb=>⟨rfl,I.turned (t':=s.toks) (λb o hb e=>eb b o hb e) f0 f1 f3 f4 f5⟩
 self:=λ_ _ _ _ _ st h=>wpAny_pyIter_rangeiter st h
section
variable {X:Cx}{tg:Expr}
def iList (K:W.Frag) (tl:TE):TI:=λZ H R=>tl Z H λx H1=>∃a,x=.ref a/\(∃xs,SqL K H1 a xs)/\R (Itl K a) H1
def iTup (K:W.Frag) (tl:TE):TI:=λZ H R=>tl Z H λx H1=>∃a,x=.ref a/\(∃xs,SqT K H1 a xs)/\R (Itt K a) H1
theorem Zs1 {l:Expr}{tl:TE}(hl:PE X l tl):PI X tg l (iList X.K tl):=by
 intro pins s Z H R I h;refine thn (hl pins s Z H _ I h) λv s1 ⟨x,H1,I1,r1,q1⟩=>?_;obtain⟨a,e,⟨xs,hq⟩,q⟩:=q1;subst e;cases r1;obtain⟨its,rv,p,hz⟩:=I1.list hq;refine wpAny_pyIter_list p.isList ?_;refine⟨s1.heap.objs.size,[s1.heap.objs.size],_,_,H1,rfl,I1.kept (t':=s1.toks) λb o e=>Wac _ e,Zot a _,⟨_,Wam _ rfl,rfl,rfl⟩,λb hb=>?_,q⟩;have e:b=s1.heap.objs.size:=by simpa using hb
 subst e;exact I1.fpOk (Waj _)<|I1.hok.fresh<|Waj _
theorem Zvq {l:Expr}{tl:TE}(hl:PE X l tl):PI X tg l (iTup X.K tl):=by
 intro pins s Z H R I h;refine thn (hl pins s Z H _ I h) λv s1 ⟨x,H1,I1,r1,q1⟩=>?_;obtain⟨a,e,⟨xs,hq⟩,q⟩:=q1;subst e;cases r1;obtain⟨its,rv,p,hz⟩:=I1.tuple hq;refine wpAny_pyIter_tuple (show s1.heap.IsTuple a its.toArray from p) ?_;refine⟨s1.heap.objs.size,[s1.heap.objs.size],_,_,H1,rfl,I1.kept (t':=s1.toks) λb o e=>Wac _ e,Zl2 a _,⟨_,Wam _ rfl,rfl,rfl⟩,λb hb=>?_,q⟩;have e:b=s1.heap.objs.size:=by simpa using hb
 subst e;exact I1.fpOk (Waj _)<|I1.hok.fresh<|Waj _
theorem range_it {pins:Qbz}{Z:St}{H:Hp}{s:Shared}{R:It->Hp->Prop}{E:Qb0}{lo hi:Int}{t u v:Tok}{tk:Nat}(I:Inv X pins Z H s) (h1:-(2 ^ 62)<=lo) (h2:lo<2 ^ 62) (h3:-(2 ^ 62)<=hi) (h4:hi<2 ^ 62)
  (q:R (Itr lo (hi-lo).toNat) H):wpAny (model X.prog X.w) X.A (pyIter (.ref s.heap.objs.size)) (PIE X pins Z tg R) E { s with heap:=s.heap.push { cls:=.type "range",data:=.fields #[.int lo t,.int hi u,.int 1 v] },toks:=tk }:=by
 refine wpAny_pyIter_range (IsRange.new ..) (small_one h1 h2 h3 h4) ?_;have I1:Inv X pins Z H { s with heap:=s.heap.push { cls:=.type "range",data:=.fields #[.int lo t,.int hi u,.int 1 v] },toks:=tk }:=I.kept λb o e=>Wac _ e;refine⟨(s.heap.push { cls:=.type "range",data:=.fields #[.int lo t,.int hi u,.int 1 v] }).objs.size,[(s.heap.push { cls:=.type "range",data:=.fields #[.int lo t,.int hi u,.int 1 v] }).objs.size],_,_,H,rfl,
  I1.kept (t':=tk) λb o e=>Wac _ e,Zlh _ lo (hi-lo).toNat,?_,λb hb=>?_,q⟩
 ·have e1:lo+((0:Nat):Int)*1=lo:=by simp
  have e2:(((hi-lo).toNat:Nat):Int)-((0:Nat):Int)=Builtin.Range.rangeSize lo hi 1:=by rw[rangeSize_one];split <;> omega
  show IsRangeIter _ _ (lo+((0:Nat):Int)*1) ((((hi-lo).toNat:Nat):Int)-((0:Nat):Int)) 1;rw[e1,e2];exact Wam _ rfl
 ·have e:b=(s.heap.push { cls:=.type "range",data:=.fields #[.int lo t,.int hi u,.int 1 v] }).objs.size:=by simpa using hb
  subst e;exact I1.fpOk (Waj _)<|I1.hok.fresh<|Waj _
def iRng1 (ta:TA):TI:=λZ H R=>ta Z H λvs H1=>∃j:Int,vs=[.int j] /\ -(2 ^ 62)<=j/\j<2 ^ 62/\R (Itr 0 j.toNat) H1
theorem Zbx {a:Expr}{ta:TA}{p pos:Pos}(hg:Gl X "range") (hm:X.mg "range" = none) (ha:PA X [a] ta) (hs:starEach [a] X.env=[(false,eval a X.env)]:=by rfl):PI X tg (.Call (.Name "range" p) [a] [] pos) (iRng1 ta):=by
 intro pins s Z H R I h;refine Call_<|Ze0 I hg hm boot_range<|PyProof.Rows.callWith_type1 (thn (ha pos pins s Z H _ I h) λus s1 ⟨vs,H1,I1,r1,q1⟩=>?_) hs rfl;obtain⟨j,e,q1,q2,q⟩:=q1;subst e;cases r1 with
 |cons r rr=>
  cases rr;obtain⟨t,rfl⟩:=r;exact call_range_1<|range_it I1 (by omega) (by omega) q1 q2 (by simpa using q)
def tFor (wi:TI) (g:TG) (tb:TS):TS:=λD Z H=>wi Z H λJ H1=>∃W:Nat->Nat->St->Hp->Prop,(∃m,W 0 m Z H1)/\∀i m Z H,W i m Z H ->
 (J.stop i H/\D.nx Z H)\/(J.go i H/\∃N:St->Hp->Prop,(∀Z' H',N Z' H' -> ∃m',m'<m/\W (i+1) m' Z' H')/\∀x H',J.yld i H x H' -> g x Z H' λZ2 H2=>tb { D with nx:=N,ct:=N,bk:=D.nx } Z2 H2)
def pinsAt (fp:List Addr) (h:Heap):Qbz:=fp.filterMap λb=>(h.get? b).map λo=>(b,o)
theorem Zco {fp:List Addr}{h:Heap}{b:Addr}{o:Obj}(hb:b∈fp) (e:h.get? b=some o):(b,o)∈pinsAt fp h:=List.mem_filterMap.mpr ⟨b,hb,by rw[e];rfl⟩
theorem Zor {fp:List Addr}{h:Heap}{p:Addr × Obj}(hp:p∈pinsAt fp h):p.1∈fp/\h.get? p.1=some p.2:=by
 obtain⟨b,hb,e⟩:=List.mem_filterMap.mp hp;cases q:h.get? b with
 |none=>rw[q]at e;cases e
 |some o=>
  rw[q]at e;have e':(b,o)=p:=Waw.inj e;subst e';exact⟨hb,q⟩
theorem Inv.pinned {pins:Qbz}{Z:St}{H:Hp}{s:Shared}{fp:List Addr}(I:Inv X pins Z H s) (hf:∀b∈fp,FpOk X pins H b) (ho:∀b∈fp,∃o,s.heap.get? b=some o/\∀v,o.data≠.cell v):Inv X (pins++pinsAt fp s.heap) Z H s:=
 I.pins_of λp hp=>(Wa1.mp hp).elim (λz=>I.pin p<|Wa0 _ z) λz=>by
  obtain⟨hb,e⟩:=Zor z;obtain⟨f0,f1,f2,_⟩:=hf p.1 hb;obtain⟨o,e',d⟩:=ho p.1 hb;rw[e]at e';cases e';exact⟨e,f0,f1,f2,d⟩
theorem Inv.unpinned {pins pl:Qbz}{Z:St}{H:Hp}{s:Shared}(I:Inv X (pins++pl) Z H s):Inv X pins Z H s:=I.pins_of λp hp=>I.pin p<|Wa0 _<|Wb8 _ hp
theorem Zdu {iter:Expr}{body:List Stmt}{wi:TI}{g:TG}{tb:TS}{pos:Pos}(hp:PassesOwn (model X.prog X.w) X.A X.env X.xe) (hc:X.calm=true) (hi:PI X tg iter wi) (hg:PG X tg g) (hb:PSs X body tb)
  (hs:∀x,foldedSetIterable iter X.env x=pure x:=by intro _;rfl):PS X (.For tg iter body [] pos) (tFor wi g tb):=by
 intro pins s Z H D I h;refine wpAny_For (thn (hi pins s Z H _ I h) λv s1 h1=>thn h1 λitv s2 h2=>?_) hs;obtain⟨it,fp,tn,J,H2,e,I2,T,st2,f2,W,⟨m0,w0⟩,turn⟩:=h2;subst e
 -- what stays true of the iterator's objects through the loop
 have stat:∀{H':Hp},(∀b∈fp,H' b=none)->∀b∈fp,FpOk X pins H' b:=λhn b hb=>⟨hn b hb,(f2 b hb).2⟩;refine codeAny_forLoop_any (λn s'=>∃i Z' H',Inv X pins Z' H' s' /\ tn i s'.heap/\(∀b∈fp,H' b=none)/\W i n Z' H') ?_ m0 ⟨0,Z,H2,I2,st2,λb hb=>(f2 b hb).1,w0⟩;rintro n s3 ⟨i,Z3,H3,I3,st3,fr3,w3⟩;rcases turn i n Z3 H3 w3 with ⟨stop,qn⟩|⟨go,N,hN,step⟩
 ·refine wpAny_passesOwn hp (thn (T.done X rfl rfl rfl hc i pins s3 Z3 H3 X.xe I3 (stat fr3) st3 stop) λr s4 ⟨hr,I4⟩=>?_)
  subst hr;exact wpAny_execs_nil ⟨Z3,H3,I4,qn⟩
 ·refine wpAny_passesOwn hp (thn (T.item X rfl rfl rfl hc i pins s3 Z3 H3 X.xe I3 (stat fr3) st3 go) λr s4 ⟨u,hr,h4⟩=>?_)
  subst hr;refine wpAny_passesOwn hp (thn h4 λ_ s5 ⟨x,H5,I5,r5,y5,st5,fr5⟩=>?_);have I5':=I5.pinned (stat fr5)<|T.obj _ _ st5;refine wpAny_passesOwn hp (thn (hg _ s5 Z3 H5 x u _ I5' r5<|step x H5 y5) λ_ s6 ⟨Z6,H6,I6,q6⟩=>?_);refine wpAny_passesOwn hp (thn (hb _ s6 Z6 H6 _ I6 q6) λf s7 q7=>?_);have again:∀{Z7:St}{H7:Hp},Inv X (pins++pinsAt fp s5.heap) Z7 H7 s7->N Z7 H7->∃m,m<n/\∃i Z' H',Inv X pins Z' H' s7/\tn i s7.heap/\(∀b∈fp,H' b=none)/\W i m Z' H':=λ{Z7 H7} I7 n7=>by
   obtain⟨m',hm,w7⟩:=hN Z7 H7 n7;refine⟨m',hm,i+1,Z7,H7,I7.unpinned,T.keep _ _ _ st5 λb hb o e=>(I7.pin (b,o)<|Wa0 _<|Wa0 _<|Zco hb e).1,λb hb=>?_,w7⟩;obtain⟨o,e,d⟩:=T.obj _ _ st5 b hb;exact(I7.pin (b,o)<|Wa0 _<|Wa0 _<|Zco hb e).2.1
  cases f with
  |next=>obtain⟨Z7,H7,I7,n7⟩:=q7;exact again I7 n7
  |cont=>obtain⟨Z7,H7,I7,n7⟩:=q7;exact again I7 n7
  |brk=>obtain⟨Z7,H7,I7,q7⟩:=q7;exact⟨Z7,H7,I7.unpinned,q7⟩
  |ret v=>obtain⟨x7,Z7,H7,I7,r7,q7⟩:=q7;exact⟨x7,Z7,H7,I7.unpinned,r7,q7⟩
end
abbrev R2:=V->V->Hp->VK->Prop
def OpR (X:Cx) (f:Value->Value->Sem Value) (r:R2):Prop:=
 ∀(pins:Qbz) (s:Shared) (Z:St) (H:Hp) (x y:V) (v u:Value) (Q:VK),Inv X pins Z H s->RelV x v->RelV y u->r x y H Q ->
  wpAny (model X.prog X.w) X.A (f v u) (EP X pins Z Q) X.xe s
def UnR (X:Cx) (f:Value->Sem Value) (r:V->Hp->VK->Prop):Prop:=
 ∀(pins:Qbz) (s:Shared) (Z:St) (H:Hp) (x:V) (v:Value) (Q:VK),Inv X pins Z H s->RelV x v->r x H Q ->
  wpAny (model X.prog X.w) X.A (f v) (EP X pins Z Q) X.xe s
def CallR (X:Cx) (f:Value) (r:List V->Hp->VK->Prop):Prop:=
 ∀(pins:Qbz) (s:Shared) (Z:St) (H:Hp) (xs:List V) (us:List Value) (Q:VK),Inv X pins Z H s->Vals xs us->r xs H Q ->
  wpAny (model X.prog X.w) X.A (call f us) (EP X pins Z Q) X.xe s
def TruR (X:Cx) (r:V->Hp->(Bool->Hp->Prop)->Prop):Prop:=
 ∀(pins:Qbz) (s:Shared) (Z:St) (H:Hp) (x:V) (v:Value) (Q:Bool->Hp->Prop),Inv X pins Z H s->RelV x v->r x H Q ->
  wpAny (model X.prog X.w) X.A (truthy v) (TP X pins Z Q) X.xe s
def tOp (r:R2) (ta tb:TE):TE:=λZ H Q=>ta Z H λx H1=>tb Z H1 λy H2=>r x y H2 Q
def tUn (r:V->Hp->VK->Prop) (ta:TE):TE:=λZ H Q=>ta Z H λx H1=>r x H1 Q
def rI (C:Int->Int->Prop) (g:Int->Int->V):R2:=λx y H Q=>∃i j,x=.int i/\y=.int j/\C i j/\Q (g i j) H
def rI0 (g:Int->Int->V):R2:=λx y H Q=>∃i j,x=.int i/\y=.int j/\Q (g i j) H
def rU (g:Int->V):V->Hp->VK->Prop:=λx H Q=>∃i,x=.int i/\Q (g i) H
section
variable {X:Cx}{a b c:Expr}{ta tb tc:TE}{pos:Pos}
theorem binT (ha:PE X a ta) (hb:PE X b tb) {pins:Qbz}{s:Shared}{Z:St}{H:Hp}{R:V->V->Hp->Prop}(I:Inv X pins Z H s)
  (h:ta Z H λx H1=>tb Z H1 λy H2=>R x y H2) {Q:Qb0}{f:Value->Value->Sem Value}
  (hf:∀v u s2 x y H2,Inv X pins Z H2 s2->RelV x v->RelV y u->R x y H2->wpAny (model X.prog X.w) X.A (f v u) Q X.xe s2) :
  wpAny (model X.prog X.w) X.A (eval a X.env) (λv s₁=>wpAny (model X.prog X.w) X.A (eval b X.env) (λu s₂=>wpAny (model X.prog X.w) X.A (f v u) Q X.xe s₂) X.xe s₁) X.xe s:=by
 refine thn (ha pins s Z H _ I h) λv s1 ⟨x,H1,I1,r1,q1⟩=>?_;refine thn (hb pins s1 Z H1 _ I1 q1) λu s2 ⟨y,H2,I2,r2,q2⟩=>?_;exact hf v u s2 x y H2 I2 r1 r2 q2
theorem Zav {op:Operator}{r:R2}(ho:OpR X (binaryOp op) r) (ha:PE X a ta) (hb:PE X b tb):PE X (.BinOp a op b pos) (tOp r ta tb):=by
 intro pins s Z H Q I h;exact wpAny_BinOp (binT ha hb I h λv u s2 x y H2 I2 rx ry q=>ho pins s2 Z H2 x y v u Q I2 rx ry q)
theorem Zq6 {op:UnaryOp}{r:V->Hp->VK->Prop}(ho:UnR X (unaryOp op) r) (ha:PE X a ta):PE X (.UnaryOp op a pos) (tUn r ta):=by
 intro pins s Z H Q I h;exact UnaryOp_ (thn (ha pins s Z H _ I h) λv s1 ⟨x,H1,I1,r1,q1⟩=>ho pins s1 Z H1 x v Q I1 r1 q1)
theorem opI {f:Value->Value->Sem Value}{C:Int->Int->Prop}{g:Int->Int->Int}
  (rule:∀(i j:Int) (t u:Tok) (s:Shared) (Q:Qb0) (E:Qb0),C i j->Q (.int (g i j) s.toks) { s with toks:=s.toks+1 } -> wpAny (model X.prog X.w) X.A (f (.int i t) (.int j u)) Q E s) :
  OpR X f (rI C λi j=>.int<|g i j):=by
 intro pins s Z H x y v u Q I rx ry h;obtain⟨i,j,rfl,rfl,hc,q⟩:=h;obtain⟨t,rfl⟩:=rx;obtain⟨t',rfl⟩:=ry;exact rule i j t t' s _ _ hc ⟨.int<|g i j,H,I.tok _,⟨_,rfl⟩,q⟩
theorem opI0 {f:Value->Value->Sem Value}{g:Int->Int->Int}
  (rule:∀(i j:Int) (t u:Tok) (s:Shared) (Q:Qb0) (E:Qb0),Q (.int (g i j) s.toks) { s with toks:=s.toks+1 } -> wpAny (model X.prog X.w) X.A (f (.int i t) (.int j u)) Q E s) :
  OpR X f (rI0 λi j=>.int<|g i j):=by
 intro pins s Z H x y v u Q I rx ry h;obtain⟨i,j,rfl,rfl,q⟩:=h;obtain⟨t,rfl⟩:=rx;obtain⟨t',rfl⟩:=ry;exact rule i j t t' s _ _ ⟨.int<|g i j,H,I.tok _,⟨_,rfl⟩,q⟩
theorem opB0 {f:Value->Value->Sem Value}{g:Int->Int->Bool}
  (rule:∀(i j:Int) (t u:Tok) (s:Shared) (Q:Qb0) (E:Qb0),Q (.bool<|g i j) s->wpAny (model X.prog X.w) X.A (f (.int i t) (.int j u)) Q E s) :
  OpR X f (rI0 λi j=>.bl<|g i j):=by
 intro pins s Z H x y v u Q I rx ry h;obtain⟨i,j,rfl,rfl,q⟩:=h;obtain⟨t,rfl⟩:=rx;obtain⟨t',rfl⟩:=ry;exact rule i j t t' s _ _ ⟨.bl<|g i j,H,I,rfl,q⟩
def CDiv (i j:Int):Prop:=0<j/\j<1073741824
def CPow (i j:Int):Prop:=0<=j/\j<=1000000/\i.natAbs<2 ^ 64
def CMul (i j:Int):Prop:=(-(2 ^ 64)<i/\i<2 ^ 64)\/(-(2 ^ 64)<j/\j<2 ^ 64)
theorem CMul.ok {i j:Int}(h:CMul i j):IntMulOk i j:=by
 rcases h with ⟨h1,h2⟩|⟨h1,h2⟩
 ·exact .of_left<|intBits_le_64 h1 h2
 ·exact .of_right<|intBits_le_64 h1 h2
theorem Zv9:OpR X (binaryOp .Add) (rI0 λi j=>.int<|i+j):=opI0 λ_ _ _ _ _ _ _ q=>add_int q
theorem Zka:OpR X (binaryOp .Sub) (rI0 λi j=>.int<|i-j):=opI0 λ_ _ _ _ _ _ _ q=>sub_int q
theorem Zd5:OpR X (binaryOp .Mult) (rI CMul λi j=>.int<|i*j):=opI λ_ _ _ _ _ _ _ hc q=>mul_int q hc.ok
theorem Zhr:OpR X (binaryOp .FloorDiv) (rI CDiv λi j=>.int<|i / j):=opI λi j _ _ _ _ _ hc q=>by
 have h1:(0:Int)<j:=hc.1;have h2:j<1073741824:=hc.2;exact floordiv_int (by omega) (by rw[Int.fdiv_eq_ediv_of_nonneg i (by omega)];exact q) (.inl<|PyProof.noPylong_small (by omega))
theorem Zcw:OpR X (binaryOp .Mod) (rI (λ_ j=>0<j) λi j=>.int<|i % j):=opI λi j _ _ _ _ _ hc q=>by
 have h1:(0:Int)<j:=hc;exact mod_int' (by omega) (by rw[Int.fmod_eq_emod_of_nonneg i (by omega)];exact q)
theorem Zws:OpR X (binaryOp .Pow) (rI CPow λi j=>.int<|i ^ j.toNat):=opI λ_ _ _ _ _ _ _ hc q=>pow_int_small hc.1 hc.2.1 hc.2.2 q
theorem unI {f:Value->Sem Value}{g:Int->Int}
  (rule:∀(i:Int) (t:Tok) (s:Shared) (Q:Qb0) (E:Qb0),Q (.int (g i) s.toks) { s with toks:=s.toks+1 } -> wpAny (model X.prog X.w) X.A (f (.int i t)) Q E s) :
  UnR X f (rU λi=>.int<|g i):=by
 intro pins s Z H x v Q I rx h;obtain⟨i,rfl,q⟩:=h;obtain⟨t,rfl⟩:=rx;exact rule i t s _ _ ⟨.int<|g i,H,I.tok _,⟨_,rfl⟩,q⟩
theorem Zkd:UnR X (unaryOp .USub) (rU λi=>.int (-i)):=unI λ_ _ _ _ _ q=>neg_int q
end
def scal:V->V->Bool
 |.non,.non=>true|.non,.int _=>true|.int _,.non=>true|.non,.bl _=>true|.bl _,.non=>true|.non,.str _=>true|.str _,.non=>true
 |.int _,.int _=>true|.bl _,.bl _=>true|.str _,.str _=>true|.byt _,.byt _=>true
 |.int _,.str _=>true|.str _,.int _=>true|.bl _,.str _=>true|.str _,.bl _=>true
 |_,_=>false
def rEq:R2:=λx y H Q=>scal x y=true/\Q (.bl<|decide (x=y)) H
def rNe:R2:=λx y H Q=>scal x y=true/\Q (.bl (!decide (x=y))) H
theorem Zh0 {i j:Int}:decide (V.int i=V.int j)=(i == j):=by
 rw[Wcg];simp
theorem Zrs {i j:Bool}:decide (V.bl i=V.bl j)=(i == j):=by
 rw[Wcg];simp
theorem Zmc {i j:Str}:decide (V.str i=V.str j)=(i == j):=by
 rw[Wcg];simp
theorem Zoh {i j:Array UInt8}:decide (V.byt i=V.byt j)=(i.toList == j.toList):=by
 rw[Wcg];cases i;cases j;simp
section
variable {X:Cx}{a b c:Expr}{ta tb tc:TE}{pos:Pos}
theorem Zbb {pins:Qbz}{Z:St}{H:Hp}{s:Shared}{Q:VK}{k k':Bool}(I:Inv X pins Z H s) (q:Q (.bl k) H) (e:k=k'):EP X pins Z Q (.bool k') s:=by
 subst e;exact⟨.bl k,H,I,rfl,q⟩
theorem Zxv:OpR X (compareOp .Eq) rEq:=by
 intro pins s Z H x y v u Q I rx ry h;obtain⟨hs,q⟩:=h;cases x with
 |non=>
  cases rx;cases y with
  |non=>cases ry;exact PySem.EqNone.eq_none_none (Zbb I q (by simp))
  |bl j=>cases ry;exact PySem.EqNone.eq_none_bool (Zbb I q (by simp))
  |int j=>obtain⟨t',rfl⟩:=ry;exact PySem.EqNone.eq_none_int (Zbb I q (by simp))
  |str j=>obtain⟨t',rfl⟩:=ry;exact PySem.EqNone.eq_none_str (Zbb I q (by simp))
  |_=>exact absurd (show false=true from hs) Wao
 |bl i=>
  cases rx;cases y with
  |non=>cases ry;exact PySem.EqNone.eq_bool_none (Zbb I q (by simp))
  |bl j=>cases ry;exact eq_bool (Zbb I q Zrs)
  |str j=>obtain⟨t',rfl⟩:=ry;exact PySem.EqMixed.eq_bool_str (Zbb I q (by simp))
  |_=>exact absurd (show false=true from hs) Wao
 |int i=>
  obtain⟨t,rfl⟩:=rx;cases y with
  |non=>cases ry;exact PySem.EqNone.eq_int_none (Zbb I q (by simp))
  |int j=>obtain⟨t',rfl⟩:=ry;exact eq_int (Zbb I q Zh0)
  |str j=>obtain⟨t',rfl⟩:=ry;exact PySem.EqMixed.eq_int_str (Zbb I q (by simp))
  |_=>exact absurd (show false=true from hs) Wao
 |str i=>
  obtain⟨t,rfl⟩:=rx;cases y with
  |non=>cases ry;exact PySem.EqNone.eq_str_none (Zbb I q (by simp))
  |bl j=>cases ry;exact PySem.EqMixed.eq_str_bool (Zbb I q (by simp))
  |int j=>obtain⟨t',rfl⟩:=ry;exact PySem.EqMixed.eq_str_int (Zbb I q (by simp))
  |str j=>obtain⟨t',rfl⟩:=ry;exact eq_str (Zbb I q Zmc)
  |_=>exact absurd (show false=true from hs) Wao
 |byt i=>
  obtain⟨t,rfl⟩:=rx;cases y with
  |byt j=>obtain⟨t',rfl⟩:=ry;exact PySem.W.eq_bytes (Zbb I q Zoh)
  |_=>exact absurd (show false=true from hs) Wao
 |_=>cases y <;> exact absurd (show false=true from hs) Wao
theorem Zxu:OpR X (compareOp .NotEq) rNe:=by
 intro pins s Z H x y v u Q I rx ry h;obtain⟨hs,q⟩:=h;cases x with
 |non=>
  cases rx;cases y with
  |non=>cases ry;exact PySem.EqNone.ne_none_none (Zbb I q (by simp))
  |bl j=>cases ry;exact PySem.EqNone.ne_none_bool (Zbb I q (by simp))
  |int j=>obtain⟨t',rfl⟩:=ry;exact PySem.EqNone.ne_none_int (Zbb I q (by simp))
  |str j=>obtain⟨t',rfl⟩:=ry;exact PySem.EqNone.ne_none_str (Zbb I q (by simp))
  |_=>exact absurd (show false=true from hs) Wao
 |bl i=>
  cases rx;cases y with
  |non=>cases ry;exact PySem.EqNone.ne_bool_none (Zbb I q (by simp))
  |bl j=>cases ry;exact ne_bool (Zbb I q (congrArg not Zrs))
  |str j=>obtain⟨t',rfl⟩:=ry;exact PySem.EqMixed.ne_bool_str (Zbb I q (by simp))
  |_=>exact absurd (show false=true from hs) Wao
 |int i=>
  obtain⟨t,rfl⟩:=rx;cases y with
  |non=>cases ry;exact PySem.EqNone.ne_int_none (Zbb I q (by simp))
  |int j=>obtain⟨t',rfl⟩:=ry;exact ne_int (Zbb I q (congrArg not Zh0))
  |str j=>obtain⟨t',rfl⟩:=ry;exact PySem.EqMixed.ne_int_str (Zbb I q (by simp))
  |_=>exact absurd (show false=true from hs) Wao
 |str i=>
  obtain⟨t,rfl⟩:=rx;cases y with
  |non=>cases ry;exact PySem.EqNone.ne_str_none (Zbb I q (by simp))
  |bl j=>cases ry;exact PySem.EqMixed.ne_str_bool (Zbb I q (by simp))
  |int j=>obtain⟨t',rfl⟩:=ry;exact PySem.EqMixed.ne_str_int (Zbb I q (by simp))
  |str j=>obtain⟨t',rfl⟩:=ry;exact ne_str (Zbb I q (congrArg not Zmc))
  |_=>exact absurd (show false=true from hs) Wao
 |byt i=>
  obtain⟨t,rfl⟩:=rx;cases y with
  |byt j=>obtain⟨t',rfl⟩:=ry;exact PySem.W.ne_bytes (Zbb I q (congrArg not Zoh))
  |_=>exact absurd (show false=true from hs) Wao
 |_=>cases y <;> exact absurd (show false=true from hs) Wao
theorem Zhz:OpR X (compareOp .Lt) (rI0 λi j=>.bl<|decide (i<j)):=opB0 λ_ _ _ _ _ _ _ q=>lt_int q
theorem Zji:OpR X (compareOp .LtE) (rI0 λi j=>.bl<|decide (i<=j)):=opB0 λ_ _ _ _ _ _ _ q=>le_int q
theorem Zgo:OpR X (compareOp .Gt) (rI0 λi j=>.bl<|decide (j<i)):=opB0 λ_ _ _ _ _ _ _ q=>gt_int q
theorem Zxz:OpR X (compareOp .GtE) (rI0 λi j=>.bl<|decide (j<=i)):=opB0 λ_ _ _ _ _ _ _ q=>ge_int q
theorem Zme:OpR X (compareOp .In) (λx y H Q=>∃i j,x=.str i/\y=.str j/\Q (.bl (!(Builtin.Str.occurrences j i 0 j.length 1).isEmpty)) H):=by
 intro pins s Z H x y v u Q I rx ry h;obtain⟨i,j,rfl,rfl,q⟩:=h;obtain⟨t,rfl⟩:=rx;obtain⟨t',rfl⟩:=ry;exact in_str<|Zbb I q rfl
theorem Zsb:OpR X (compareOp .Is) (λx y H Q=>y=.non/\Q (.bl<|decide (x=.non)) H):=by
 intro pins s Z H x y v u Q I rx ry h;obtain⟨rfl,q⟩:=h;cases ry;refine is_none_gen<|Zbb I q ?_;cases x <;> first
  | (cases rx;rfl)
  | (obtain⟨t,rfl⟩:=rx;rfl)
theorem Ziv:OpR X (compareOp .NotIn) (λx y H Q=>∃i j,x=.str i/\y=.str j/\Q (.bl (!(!(Builtin.Str.occurrences j i 0 j.length 1).isEmpty))) H):=by
 intro pins s Z H x y v u Q I rx ry h;obtain⟨i,j,rfl,rfl,q⟩:=h;obtain⟨t,rfl⟩:=rx;obtain⟨t',rfl⟩:=ry;exact notIn_str<|Zbb I q rfl
theorem OpR.or {f:Value->Value->Sem Value}{r r':R2}(h:OpR X f r) (h':OpR X f r'):OpR X f (λx y H Q=>r x y H Q\/r' x y H Q):=by
 intro pins s Z H x y v u Q I rx ry q;rcases q with q|q
 ·exact h pins s Z H x y v u Q I rx ry q
 ·exact h' pins s Z H x y v u Q I rx ry q
theorem nomark (b:Expr) {op:CmpOp}(h:op≠.In:=by decide) (h2:op≠.NotIn:=by decide):behindInMarks op b=false:=by
 have e1:(op == CmpOp.In)=false:=by cases op <;> first|rfl|exact absurd rfl h
 have e2:(op == CmpOp.NotIn)=false:=by cases op <;> first|rfl|exact absurd rfl h2
 cases b <;> simp[behindInMarks,e1,e2]
theorem Zb3 {op:CmpOp}{r:R2}(ho:OpR X (compareOp op) r) (ha:PE X a ta) (hb:PE X b tb) (hm:behindInMarks op b=false):PE X (.Compare a [op] [b] pos) (tOp r ta tb):=by
 intro pins s Z H Q I h;exact wpAny_Compare1 (binT ha hb I h λv u s2 x y H2 I2 rx ry q=>ho pins s2 Z H2 x y v u Q I2 rx ry q) hm
def tTest (t:TE):TT:=λZ H Q=>t Z H λx H'=>∃k,x=.bl k/\Q k H'
theorem Zaq {op:CmpOp}{r:R2}(ho:OpR X (compareOp op) r) (ha:PE X a ta) (hb:PE X b tb) (hm:behindInMarks op b=false):PT X (.Compare a [op] [b] pos) (tTest<|tOp r ta tb):=by
 intro pins s Z H Q I h;refine wpAny_isTrue_Compare1 (thn (ha pins s Z H _ I h) λv s1 ⟨x,H1,I1,r1,q1⟩=>thn (hb pins s1 Z H1 _ I1 q1) λu s2 ⟨y,H2,I2,r2,q2⟩=>
  thn (ho pins s2 Z H2 x y v u _ I2 r1 r2 q2) λc s3 ⟨z,H3,I3,r3,k,e,q3⟩=>?_) hm
 subst e;cases r3;exact wpAny_truthy_bool ⟨H3,I3,q3⟩
def tChain (r r':R2) (ta tb tc:TE):TE:=λZ H Q=>ta Z H λx H1=>tb Z H1 λy H2=>r x y H2 λz H3=>∃k,z=.bl k /\
 (if k=true then tc Z H3 λw' H4=>r' y w' H4 Q else Q (.bl false) H3)
theorem Zph {op op':CmpOp}{r r':R2}(ho:OpR X (compareOp op) r) (ho':OpR X (compareOp op') r') (ha:PE X a ta) (hb:PE X b tb) (hc:PE X c tc)
  (hm:lastMarks [op,op'] [b,c]=false:=by with_unfolding_all rfl):PE X (.Compare a [op,op'] [b,c] pos) (tChain r r' ta tb tc):=by
 intro pins s Z H Q I h;refine Compare_chain (thn (ha pins s Z H _ I h) λv s1 ⟨x,H1,I1,r1,q1⟩=>chain_link (thn (hb pins s1 Z H1 _ I1 q1) λu s2 ⟨y,H2,I2,r2,q2⟩=>
  thn (ho pins s2 Z H2 x y v u _ I2 r1 r2 q2) λd s3 ⟨z,H3,I3,r3,k,e,q3⟩=>?_)) hm
 subst e;cases r3;refine wpAny_truthy_bool ?_;cases k with
 |false=>exact ite_ff ⟨.bl false,H3,I3,rfl,q3⟩
 |true=>exact ite_tt (chain_last (thn (hc pins s3 Z H3 _ I3 q3) λw' s4 ⟨z',H4,I4,r4,q4⟩=>ho' pins s4 Z H4 y z' u w' Q I4 r2 r4 q4))
theorem Zhy {op op':CmpOp}{r r':R2}(ho:OpR X (compareOp op) r) (ho':OpR X (compareOp op') r') (ha:PE X a ta) (hb:PE X b tb) (hc:PE X c tc)
  (hm:lastMarks [op,op'] [b,c]=false:=by with_unfolding_all rfl):PT X (.Compare a [op,op'] [b,c] pos) (tTest<|tChain r r' ta tb tc):=by
 intro pins s Z H Q I h;refine isTrue_chain (thn (ha pins s Z H _ I h) λv s1 ⟨x,H1,I1,r1,q1⟩=>test_link (thn (hb pins s1 Z H1 _ I1 q1) λu s2 ⟨y,H2,I2,r2,q2⟩=>
  thn (ho pins s2 Z H2 x y v u _ I2 r1 r2 q2) λd s3 ⟨z,H3,I3,r3,k,e,q3⟩=>?_)) hm
 subst e;cases r3;refine wpAny_truthy_bool ?_;cases k with
 |false=>
  obtain⟨k',e',q'⟩:=q3;cases e';exact ite_ff ⟨H3,I3,q'⟩
 |true=>
  refine ite_tt<|test_last (thn (hc pins s3 Z H3 _ I3 q3) λw' s4 ⟨z',H4,I4,r4,q4⟩=>thn (ho' pins s4 Z H4 y z' u w' _ I4 r2 r4 q4) λd' s5 ⟨z2,H5,I5,r5,k2,e2,q5⟩=>?_);subst e2;cases r5;exact wpAny_truthy_bool ⟨H5,I5,q5⟩
def TruV (K:W.Frag) (x:V) (H:Hp) (k:Bool):Prop:=
 match x with
 |.non=>k=false
 |.bl b=>k=b
 |.int i=>k=(i != 0)
 |.str y=>y.length<=sizeLine/\k=((y.length:Int) != 0)
 |.byt y=>y.size<=sizeLine/\k=((y.size:Int) != 0)
 |.ref p=>(∃xs,SqL K H p xs/\k = !xs.isEmpty)\/(∃xs,SqT K H p xs/\k = !xs.isEmpty)\/∃kvs,H p=some (.dK kvs)/\k = !kvs.isEmpty
 |_=>False
theorem Zls {κ:Type}{kvs:List (κ × V)}{vs:List (κ × Value)}(r:KV kvs vs):(!vs.isEmpty) = !kvs.isEmpty:=by
 cases r <;> rfl
theorem Zgp {xs:List V}{its:List Value}(r:Vals xs its):(!its.toArray.isEmpty) = !xs.isEmpty:=by
 cases r <;> simp
theorem line63:(sizeLine:Nat)<2 ^ 63:=by rw[sizeLine_eq];decide
theorem Zwp:TruR X (λx H Q=>∃k,TruV X.K x H k/\Q k H):=by
 intro pins s Z H x v Q I rx h;obtain⟨k,e,q⟩:=h;have hl:=line63;have hs:sizeLine=16777216:=sizeLine_eq;cases x with
 |non=>
  cases rx;have e':k=false:=e;subst e';exact truthy_none ⟨H,I,q⟩
 |bl b=>
  cases rx;have e':k=b:=e;subst e';exact wpAny_truthy_bool ⟨H,I,q⟩
 |int i=>
  obtain⟨t,rfl⟩:=rx;have e':k=(i != 0):=e;subst e';exact PySem.P.truthy_int ⟨H,I,q⟩
 |str y=>
  obtain⟨t,rfl⟩:=rx;obtain⟨hy,e'⟩:y.length<=sizeLine/\k=((y.length:Int) != 0):=e;subst e';exact PySem.P.truthy_str (by omega) ⟨H,I.tok _,q⟩
 |byt y=>
  obtain⟨t,rfl⟩:=rx;obtain⟨hy,e'⟩:y.size<=sizeLine/\k=((y.size:Int) != 0):=e;subst e';exact PySem.W.truthy_bytes (by omega) ⟨H,I.tok _,q⟩
 |ref p=>
  cases rx;have e':(∃xs,SqL X.K H p xs/\k = !xs.isEmpty)\/(∃xs,SqT X.K H p xs/\k = !xs.isEmpty)\/∃kvs,H p=some (.dK kvs)/\k = !kvs.isEmpty:=e;rcases e' with ⟨xs,hx,e'⟩|⟨xs,hx,e'⟩|⟨kvs,hx,e'⟩
  ·subst e'
   obtain⟨its,r,pl,hz⟩:=I.list hx;have hlen:=r.length;exact wpAny_truthy_list pl.isList (by simp only[Wae];omega) ⟨H,I.tok _,by rw[Zgp r];exact q⟩
  ·subst e'
   obtain⟨its,r,pl,hz⟩:=I.tuple hx;have hlen:=r.length;exact truthy_tuple pl (by simp only[Wae];omega) ⟨H,I.tok _,by rw[Zgp r];exact q⟩
  ·subst e'
   obtain⟨hz,hS,vs,r,m⟩:kvs.length<=sizeLine/\(p == sysModules)=false/\∃vs,KV kvs vs/\s.heap.DictOf (mixKind X.prog X.w) p vs:=I.hok p _ hx;have hlen:kvs.length=vs.length:=Paired.length r;exact wpAny_truthy_dict hS m (by omega) ⟨H,I.tok _,by rw[Zls r];exact q⟩
 |_=>exact(show False from e).elim
theorem Zpl (ha:PE X a ta) (he:∀whole,isTrue a X.env whole=(do let v <- whole;standAt a.pos;holding [v] (truthy v))) :
  PT X a (λZ H Q=>ta Z H λx H'=>∃k,TruV X.K x H' k/\Q k H'):=by
 intro pins s Z H Q I h;exact isTrue_plain (thn (ha pins s Z H _ I h) λv s1 ⟨x,H1,I1,r1,q1⟩=>Zwp pins s1 Z H1 x v Q I1 r1 q1)<|he _
theorem Za6:OpR X (binaryOp .Add) (λx y H Q=>∃i j,x=.str i/\y=.str j/\i.length+j.length<=sizeLine/\Q (.str<|i++j) H):=by
 intro pins s Z H x y v u Q I rx ry h;obtain⟨i,j,rfl,rfl,hz,q⟩:=h;obtain⟨t,rfl⟩:=rx;obtain⟨t',rfl⟩:=ry;exact add_str (λt' tk=>⟨.str<|i++j,H,I.tok _,⟨_,rfl⟩,q⟩) hz
theorem vals1 {x:V}{us:List Value}(r:Vals [x] us):∃u,us=[u]/\RelV x u:=by
 cases r with
 |cons r1 r2=>cases r2;exact⟨_,rfl,r1⟩
theorem vals2 {x y:V}{us:List Value}(r:Vals [x,y] us):∃u w',us=[u,w']/\RelV x u/\RelV y w':=by
 cases r with
 |cons r1 r2=>
  cases r2 with
  |cons r3 r4=>cases r4;exact⟨_,_,rfl,r1,r3⟩
theorem Zg8:CallR X (.builtin "abs") (λxs H Q=>∃i,xs=[.int i]/\Q (.int (if i<0 then -i else i)) H):=by
 intro pins s Z H xs us Q I r h;obtain⟨i,rfl,q⟩:=h;obtain⟨u,rfl,t,rfl⟩:=vals1 r;exact call_abs_int λu tk=>⟨.int (if i<0 then -i else i),H,I.tok _,⟨_,rfl⟩,q⟩
theorem Zgg (hc:X.calm=true):CallR X (.builtin "max") (λxs H Q=>∃i j,xs=[.int i,.int j]/\Q (.int (if j > i then j else i)) H):=by
 intro pins s Z H xs us Q I r h;obtain⟨i,j,rfl,q⟩:=h;obtain⟨u,w',rfl,⟨t,rfl⟩,⟨t',rfl⟩⟩:=vals2 r;refine max_two_ints (I.ok.hd hc) λh' tk k=>⟨_,H,I.kept k,?_,q⟩;by_cases hj:j > i
 ·rw[Qbw hj,Qbw hj];exact⟨_,rfl⟩
 ·rw[Qbv hj,Qbv hj];exact⟨_,rfl⟩
theorem Ziz (hc:X.calm=true):CallR X (.builtin "min") (λxs H Q=>∃i j,xs=[.int i,.int j]/\Q (.int (if j<i then j else i)) H):=by
 intro pins s Z H xs us Q I r h;obtain⟨i,j,rfl,q⟩:=h;obtain⟨u,w',rfl,⟨t,rfl⟩,⟨t',rfl⟩⟩:=vals2 r;refine min_two_ints (I.ok.hd hc) λh' tk k=>⟨_,H,I.kept k,?_,q⟩;by_cases hj:j<i
 ·rw[Qbw hj,Qbw hj];exact⟨_,rfl⟩
 ·rw[Qbv hj,Qbv hj];exact⟨_,rfl⟩
theorem Zns:CallR X (.type "int") (λxs H Q=>(∃i,xs=[.int i]/\Q (.int i) H)\/∃k,xs=[.bl k]/\Q (.int (if k then 1 else 0)) H):=by
 intro pins s Z H xs us Q I r h;rcases h with ⟨i,rfl,q⟩|⟨k,rfl,q⟩
 ·obtain⟨u,rfl,t,rfl⟩:=vals1 r
  exact call_int_int ⟨.int i,H,I,⟨_,rfl⟩,q⟩
 ·obtain⟨u,rfl,r1⟩:=vals1 r
  cases r1;exact call_int_bool ⟨.int (if k then 1 else 0),H,I.tok _,⟨_,rfl⟩,q⟩
end
structure ObjM (h:Heap) (x dx C:Addr) (mA:Str->Option Value):Prop where
 obj:h.get? x=some (PySem.W.instObj C dx)
 ns:h.Ns1 dx mA
 ne:dx≠x
theorem Zh9 {h:Heap}{dx:Addr}{mA:Str->Option Value}(n:h.Ns1 dx mA):∃od,h.get? dx=some od/\∀name,PySem.W.lookIn name od=some (mA name):=by
 obtain⟨o,es,ep,ho,hd,hk,_,hm⟩:=n;refine⟨o,ho,λname=>?_⟩;have e:=hm name;unfold nsFind findBy at e;rw[<- Array.find?_toList]at e;unfold PySem.W.lookIn;rw[hd];dsimp only;split
 ·rename_i y q
  rw[q]at e;exact congrArg some e
 ·rename_i q
  rw[q]at e;have a:es.toList.any (·.refKey)=false:=by
   rw[List.any_eq_false];intro y hy;obtain⟨z,t,hkey⟩:=hk y<|Array.mem_toList_iff.mp hy;simp[DictEntry.refKey,hkey]
  have a':¬ es.toList.any (·.refKey)=true:=by rw[a];exact Wao
  rw[Qbv a'];exact congrArg some e
theorem ObjM.look {h:Heap}{x dx C:Addr}{mA:Str->Option Value}(I:ObjM h x dx C mA):∃od,PySem.W.InstAt h x (PySem.W.instObj C dx) C (some od)/\∀name,PySem.W.lookIn name od=some (mA name):=
 let ⟨od,ho,hl⟩:=Zh9 I.ns
 ⟨od,⟨I.obj,rfl,rfl,ho⟩,hl⟩
theorem RelO.some_of {v:V}{o:Option Value}(r:RelO (some v) o):∃u,o=some u/\RelV v u:=by
 cases o with
 |none=>exact(show False from r).elim
 |some u=>exact⟨u,rfl,r⟩
section
variable {P:Program}{w:World}{H H':Hp}{h h':Heap}{a C dx:Addr}{fs fs':List (Str × V)}
theorem Zt1 (hok:HOk P w H h) (e:H a=some (.ins C dx fs)):∃mA,ObjM h a dx C mA/\(∀f,RelO (fs.lookup f) (mA f))/\PySem.Within mA (fs.map (·.1))/\fs.length<=1000/\H dx=some (.own a):=by
 obtain⟨d,z,ne,ob,mA,n,r,q⟩:=(show ObjOk P w H h a (.ins C dx fs) from hok a _ e);exact⟨mA,⟨ob,n,ne⟩,r,q,z,d⟩
end
structure Cls (K:W.Frag) (C:Addr):Prop where
 pg:PySem.W.plainGet K C Str.empty=true
 hd:PySem.W.hasDictIn K C=true
 po:PySem.W.plainOver K C=true
 sa:PySem.W.findIn K (.ref C) "__setattr__" = some (some (.builtin "object.__setattr__"))
theorem Cls.get {K:W.Frag}{C:Addr}(c:Cls K C) (f:Str):PySem.W.plainGet K C f=true:=c.pg
section
variable {X:Cx}{pins:Qbz}{Z:St}{H:Hp}{s:Shared}{a C dx:Addr}{fs:List (Str × V)}{f:Str}{v:V}{A:Around}{E:Qb0}
theorem Ztp {prog:Program}{w:World}{env:Env}{e:Expr}{f:Str}{pos:Pos}{s:Shared}{Q:Qb0}(hb:attributeBase e f env (eval e env)=eval e env)
  (h:wpAny (model prog w) A (eval e env) (λo s₁=>wpAny (model prog w) A (getAttr o f true) Q E s₁) E s):wpAny (model prog w) A (eval (.Attribute e f pos) env) Q E s:=
 Attribute_any_ h (by rw[arm_eval_Attribute,hb])
end
section
variable {X:Cx}{pins:Qbz}{Z:St}{H:Hp}{s:Shared}{A:Around}{E:Qb0}{Q:Qb0}{c:Value}{b:Bool}
inductive TyOf (K:W.Frag) (H:Hp):V->Value->Prop where
 |non:TyOf K H .non (.type "NoneType")
 |bl (x:Bool):TyOf K H (.bl x) (.type "bool")
 |int (i:Int):TyOf K H (.int i) (.type "int")
 |str (x:Str):TyOf K H (.str x) (.type "str")
 |flt (x:UInt64):TyOf K H (.flt x) (.type "float")
 |lst {a:Addr}{xs:List V}(e:H a=some (.lst xs)):TyOf K H (.ref a) (.type "list")
 |frz {a:Addr}{o:Obj}{xs:List V}(e:H a=some (.frz o (.lst xs))):TyOf K H (.ref a) (.type "list")
 |tup {a:Addr}{xs:List V}(e:H a=some (.tup xs)):TyOf K H (.ref a) (.type "tuple")
 |dK {a:Addr}{kvs:List (Key × V)}(e:H a=some (.dK kvs)):TyOf K H (.ref a) (.type "dict")
 |dT {a:Addr}{kvs:List (List Key × V)}(e:H a=some (.dT kvs)):TyOf K H (.ref a) (.type "dict")
 |ins {a C dx:Addr}{fs:List (Str × V)}(e:H a=some (.ins C dx fs)) (cl:Cls K C) (ha:PySem.W.findIn K (.ref C) "__class__" = some (some (.builtin "object.__class__")))
   (hn:PySem.W.specialIn K (.builtin "object.__class__") "__get__" = some (some (.builtin "getset_descriptor.__get__"))) (htk:PySem.W.takesIn K (.builtin "object.__class__")=some true)
   (hm:PySem.W.mroIn K C (.type "object")=some true):TyOf K H (.ref a) (.ref C)
theorem Zoe {x:V}{u t:Value}(I:Inv X pins Z H s) (rx:RelV x u) (ty:TyOf X.K H x t) (e:PySem.W.kitOne X.K t c=some b) (h:∀tk,Q (.bool b) { s with toks:=tk }) :
  wpAny (model X.prog X.w) A (call (.builtin "isinstance") [u,c]) Q E s:=by
 cases ty with
 |non=>cases (show u=Value.none from rx);exact PySem.W.kia_one PySem.W.kitx_none I.kIn True.intro e (λz=>nomatch z) h
 |bl y=>cases (show u=Value.bool y from rx);exact PySem.W.kia_one PySem.W.kitx_bool I.kIn True.intro e (λz=>nomatch z) h
 |int i=>obtain⟨t,q⟩:=(show ∃t,u=Value.int i t from rx);cases q;exact PySem.W.kia_one PySem.W.kitx_int I.kIn True.intro e (λz=>nomatch z) h
 |str y=>obtain⟨t,q⟩:=(show ∃t,u=Value.str y t from rx);cases q;exact PySem.W.kia_one PySem.W.kitx_str I.kIn True.intro e (λz=>nomatch z) h
 |flt y=>obtain⟨t,q⟩:=(show ∃t,u=Value.float y t from rx);cases q;exact PySem.W.kia_one PySem.W.kitx_float I.kIn True.intro e (λz=>nomatch z) h
 |@lst a xs ea=>
  cases (show u=Value.ref a from rx);obtain⟨_,_,n,_,h1⟩:=(show ObjOk X.prog X.w H s.heap a (.lst xs) from I.hok a _ ea);exact PySem.W.kia_one PySem.W.kitx_list I.kIn ⟨_,h1,rfl⟩ e (λz=>nomatch z) h
 |@frz a ob xs ea=>
  cases (show u=Value.ref a from rx);obtain⟨_,_,_,n,_,h1⟩:=(show ObjOk X.prog X.w H s.heap a (.frz ob (.lst xs)) from I.hok a _ ea);exact PySem.W.kia_one PySem.W.kitx_list I.kIn ⟨_,h1,rfl⟩ e (λz=>nomatch z) h
 |@tup a xs ea=>
  cases (show u=Value.ref a from rx);obtain⟨_,_,_,p⟩:=(show ObjOk X.prog X.w H s.heap a (.tup xs) from I.hok a _ ea);obtain⟨o,h1,⟨h2,_⟩,_⟩:=p;exact PySem.W.kia_one PySem.W.kitx_tuple I.kIn ⟨o,h1,h2⟩ e (λz=>nomatch z) h
 |@dK a kvs ea=>
  cases (show u=Value.ref a from rx);obtain⟨_,_,vs,_,p⟩:=(show ObjOk X.prog X.w H s.heap a (.dK kvs) from I.hok a _ ea);obtain⟨o,es,ep,h1,h2,_⟩:=p;exact PySem.W.kia_one PySem.W.kitx_dict I.kIn ⟨o,h1,h2.1⟩ e (λz=>nomatch z) h
 |@dT a kvs ea=>
  cases (show u=Value.ref a from rx);obtain⟨_,_,xs,_,o,es,ep,h1,h2,_⟩:=(show ObjOk X.prog X.w H s.heap a (.dT kvs) from I.hok a _ ea);exact PySem.W.kia_one PySem.W.kitx_dict I.kIn ⟨o,h1,h2.1⟩ e (λz=>nomatch z) h
 |@ins a C dx fs ea cl ha hn htk hm=>
  cases (show u=Value.ref a from rx);obtain⟨mA,O_,_⟩:=Zt1 I.hok ea;obtain⟨od,J,_⟩:=O_.look;exact PySem.W.kia_one (PySem.W.kitx_own (cl.get _) cl.hd ha hn htk hm) I.kIn J e (λz=>nomatch z) h
end
structure Room (k:Nat) (A:Around):Prop where
 hd:A.handled=none
 dp:A.depth+3*k+5<recursionLimit
 un:A.units+16*k+200<cLine
 gd:A.guards=some []
theorem Room.mono {j k:Nat}{A:Around}(r:Room k A) (h:j<=k):Room j A:=⟨r.hd,by have:=r.dp;omega,by have:=r.un;omega,r.gd⟩
theorem Room.deeper {k:Nat}{A:Around}(r:Room (k+1) A) (env:Env):Room k (A.deeper env):=
 ⟨r.hd,by have:=r.dp;show A.depth+1+3*k+5<_;omega,by have:=r.un;show A.units+3+16*k+200<_;omega,r.gd⟩
theorem Zly {A:Around}{C:Addr}{us:List Value}{kw:List (Str × Value)}:(A.under (.builtin "type.__call__" ⟨.ref C::us,kw⟩)).depth=A.depth+1:=by
 first|rfl|simp[Around.under,Code.weight,Code.isCreation,Code.isGuard,Code.isCaller,Code.frames,Code.isFrame,guardIds]
theorem Zlf {A:Around}{C:Addr}{us:List Value}{kw:List (Str × Value)}:(A.under (.builtin "type.__call__" ⟨.ref C::us,kw⟩)).units=A.units+1:=by
 first|rfl|simp[Around.under,Code.cUnits,Code.frames,Code.isFrame]
theorem Room.make {k:Nat}{A:Around}(r:Room (k+1) A) (C:Addr) (us:List Value) (kw:List (Str × Value)):Room k (A.under (.builtin "type.__call__" ⟨.ref C::us,kw⟩)):=
 ⟨r.hd,by have:=r.dp;rw[Zly];omega,by have:=r.un;rw[Zlf];omega,by first|exact r.gd|(simpa [Around.under,Code.guards,Code.isGuard,pushGuards,guardIds] using r.gd)⟩
theorem Room.depth {k:Nat}{A:Around}(r:Room k A):A.depth<recursionLimit:=by have:=r.dp;omega
theorem Room.units {k:Nat}{A:Around}(r:Room k A):A.units+64<cLine:=by have:=r.un;omega
def tNil:TA:=λ_ H Q=>Q [] H
def tCons (ta:TE) (tr:TA):TA:=λZ H Q=>ta Z H λx H1=>tr Z H1 λxs H2=>Q (x::xs) H2
section
variable {X:Cx}{e:Expr}{es:List Expr}{te:TE}{t:TA}{pos:Pos}
theorem Zad:PA X [] tNil:=λ_ _ _ _ H Q I h=>Calls.spliced_nil ⟨[],H,I,.nil,h⟩
theorem Zaa (ha:PE X e te) (hr:PA X es t) (hs:starEach (e::es) X.env=(false,eval e X.env)::starEach es X.env:=by rfl):PA X (e::es) (tCons te t):=by
 intro pos pins s Z H Q I h;rw[hs];show wpAny _ _ (spliced ((false,eval e X.env)::backTo pos (starEach es X.env))) _ _ s;refine Calls.spliced_cons (thn (ha pins s Z H _ I h) λu s1 ⟨x,H1,I1,r1,q1⟩=>?_);exact thn (hr pos pins s1 Z H1 _ I1 q1) λus s2 ⟨xs,H2,I2,r2,q2⟩=>⟨x::xs,H2,I2,.cons r1 r2,q2⟩
def tTup (t:TA):TE:=λZ H Q=>t Z H λxs H1=>xs.length<=sizeLine/\∀p,H1 p=none->Q (.ref p) (upd H1 p (.tup xs))
def tLst (t:TA):TE:=λZ H Q=>t Z H λxs H1=>xs.length<=sizeLine/\∀p,H1 p=none->Q (.ref p) (upd H1 p (.lst xs))
theorem Zb0 {x1} (h:PA X es t):PE X (.Tuple es x1 pos) (tTup t):=by
 intro pins s Z H Q I hq;refine wpAny_Tuple_spliced (thn (h pos pins s Z H _ I hq) λus s1 ⟨xs,H1,I1,r,z,q⟩=>⟨by rw[<- r.length];exact z,?_⟩);have hf:H1 s1.heap.objs.size=none:=I1.hok.fresh<|Waj _;refine⟨.ref s1.heap.objs.size,upd H1 s1.heap.objs.size (.tup xs),I1.laid (t':=s1.toks) (λb u e=>Wac _ e) (Waj _) ?_,rfl,q _ hf⟩;exact⟨z,us,r,⟨_,Wam _ rfl,⟨rfl,_,rfl⟩,rfl⟩⟩
theorem Zbq (h:PA X es t):PE X (.List es pos) (tLst t):=by
 intro pins s Z H Q I hq;refine wpAny_List_spliced (thn (h pos pins s Z H _ I hq) λus s1 ⟨xs,H1,I1,r,z,q⟩=>⟨by rw[<- r.length];exact z,?_⟩);have hf:H1 s1.heap.objs.size=none:=I1.hok.fresh<|Waj _;refine⟨.ref s1.heap.objs.size,upd H1 s1.heap.objs.size (.lst xs),I1.laid (t':=s1.toks) (λb u e=>Wac _ e) (Waj _) ?_,rfl,q _ hf⟩;exact⟨z,us,0,r,Wam _ rfl⟩
end
abbrev Sp:=List V->Hp->VK->XK->Prop
abbrev CXT:=List Env->Hp->Shared->XK->Value->Shared->Prop
structure Env0 (P:Program) (w:World) (K:W.Frag) (mg:Str->Option Value) (base:Heap) (A:Around) (outer:List Env) (s:Shared) (H:Hp):Prop where
 frames:A.frames=some outer
 mod:Mod K mg base
 bs:∀b o,base.get? b=some o->s.heap.get? b=some o/\H b=none
 bsz:base.objs.size<=s.heap.objs.size
 funs:s.heap.FunFrames base outer
 frf:∀b∈frs outer,H b=none
 hok:HOk P w H s.heap
 bare:AllBare s.gens
def CE (outer:List Env) (P:Program) (w:World) (H:Hp) (s:Shared) (Q:VK) (u:Value) (s':Shared):Prop:=
 ∃v H',s'.os=s.os/\AllBare s'.gens/\Un (frs outer) [] H H' s.heap s'.heap/\HOk P w H' s'.heap/\RelV v u/\Q v H'
def CR (CX:CXT) (outer:List Env) (P:Program) (w:World) (H:Hp) (s:Shared) (Q:VK) (E:XK) (r:Result) (s':Shared):Prop:=
 match r with
 |.ok (.ret u)=>CE outer P w H s Q u s'
 |.ok _=>False
 |.error e=>CX outer H s E e s'
structure FnOk (P:Program) (w:World) (K:W.Frag) (mg:Str->Option Value) (base:Heap) (CX:CXT) (k:Nat) (f:Addr) (fd:FuncData) (ps:List Str) (sp:Sp):Prop where
 len:∀vs H Q E,sp vs H Q E->vs.length=ps.length
 run:∀(A:Around) (outer:List Env) (s:Shared) (H:Hp) (args:Args) (us:List Value) (vs:List V) (Q:VK) (E:XK),Room k A->Env0 P w K mg base A outer s H->BindsTo s fd args (ps.zip us)->Vals vs us->sp vs H Q E ->
  codeAny (model P w) A (.call (.ref f) args) (CR CX outer P w H s Q E) s
theorem FnOk.imp {P:Program}{w:World}{K:W.Frag}{mg:Str->Option Value}{base:Heap}{CX:CXT}{k:Nat}{f:Addr}{fd:FuncData}{ps:List Str}{sp sp':Sp}(F:FnOk P w K mg base CX k f fd ps sp)
  (h:∀vs H Q E,sp' vs H Q E->sp vs H Q E):FnOk P w K mg base CX k f fd ps sp':=
 ⟨λvs H Q E q=>F.len vs H Q E<|h _ _ _ _ q,λA outer s H args us vs Q E hr he hb hv hs=>F.run A outer s H args us vs Q E hr he hb hv<|h _ _ _ _ hs⟩
theorem Env0.make {P:Program}{w:World}{K:W.Frag}{mg:Str->Option Value}{base:Heap}{A:Around}{outer:List Env}{s:Shared}{H:Hp}(e:Env0 P w K mg base A outer s H) (C:Addr) (us:List Value) (kw:List (Str × Value)) :
  Env0 P w K mg base (A.under (.builtin "type.__call__" ⟨.ref C::us,kw⟩)) outer s H:=⟨by first|exact e.frames|(simpa [Around.under,Code.envs,Code.isFrame,pushEnvs] using e.frames),e.mod,e.bs,e.bsz,e.funs,e.frf,e.hok,e.bare⟩
section
variable {X:Cx}{pins:Qbz}{Z:St}{H:Hp}{s s':Shared}
theorem Inv.env0 (I:Inv X pins Z H s):Env0 X.prog X.w X.K X.mg X.base X.A X.stack s H:=
 ⟨I.ok.frames,I.ok.mod,I.bs,Way I.ok.bsz I.sz,I.stack,I.stkFree,I.hok,I.bare⟩
theorem Inv.after {Q:VK}{u:Value}(I:Inv X pins Z H s) (h:CE X.stack X.prog X.w H s Q u s'):EP X pins Z Q u s':=by
 obtain⟨v,H',os,bare,un,hok,r,q⟩:=h;obtain⟨hh,g,d,t,os'⟩:=s';obtain rfl:os'=s.os:=os;exact⟨v,H',I.call (h':=hh) (g':=g) (d':=d) (t':=t) (ch:=[]) un hok bare (λb z=>absurd z<|by simp),r,q⟩
end
def tCall (sp:Sp) (dvs:List V) (E:XK) (t:TA):TE:=λZ H Q=>t Z H λvs H1=>sp (vs++dvs) H1 Q E
def Binds (K:W.Frag) (fd:FuncData) (ps:List Str) (ds:List Value):Prop:=
 ∀(s:Shared) (us:List Value),K.In s.heap->(us++ds).length=ps.length->BindsTo s fd ⟨us,[]⟩ (ps.zip<|us++ds)
theorem Binds.all {K:W.Frag}{fd:FuncData}{ps:List Str}(h:∀us:List Value,us.length=ps.length->bindArgs fd ⟨us,[]⟩=pure (ps.zip us)):Binds K fd ps []:=λs us _ hl=>by
 rw[Wbg]at hl ⊢;exact .of_eq<|h us hl
def Passes (CX:CXT) (X:Cx) (E:XK):Prop:=∀(pins:Qbz) (Z:St) (H:Hp) (s:Shared) (e:Value) (s':Shared),Inv X pins Z H s->CX X.stack H s E e s' -> X.xe e s'
section
variable {X:Cx}{CX:CXT}{k:Nat}{f C:Addr}{fd:FuncData}{ps:List Str}{sp:Sp}{dvs:List V}{ds:List Value}{E:XK}{x m:Str}{p pos apos:Pos}{e o:Expr}{es:List Expr}{ta:TE}{t:TA}
theorem Zsa {pins:Qbz}{Z:St}{H:Hp}{s:Shared}{Q:VK}{us:List Value}{vs:List V}(F:FnOk X.prog X.w X.K X.mg X.base CX k f fd ps sp) (hr:Room k X.A) (hb:Binds X.K fd ps ds) (hd:Vals dvs ds) (hx:Passes CX X E)
  (I:Inv X pins Z H s) (r:Vals vs us) (h:sp (vs++dvs) H Q E):wpAny (model X.prog X.w) X.A (call (.ref f) us) (EP X pins Z Q) X.xe s:=by
 have r2:Vals (vs++dvs) (us++ds):=r.append hd;have hl:(us++ds).length=ps.length:=by rw[<- r2.length];exact F.len _ _ _ _ h
 refine Qbu (codeAny_mono (F.run X.A X.stack s H ⟨us,[]⟩ (us++ds) (vs++dvs) Q E hr I.env0 (hb s us I.kIn hl) r2 h) λr s' hq=>?_);cases r with
 |error e=>exact hx pins Z H s e s' I hq
 |ok fl=>
  cases fl with
  |ret u=>exact I.after hq
  |next=>exact False.elim hq
  |brk=>exact False.elim hq
  |cont=>exact False.elim hq
theorem Znb (F:FnOk X.prog X.w X.K X.mg X.base CX k f fd ps sp) (hr:Room k X.A) (hg:Gl X x) (hm:X.mg x=some (.ref f)) (hk:W.keepIn X.K (.ref f)=true) (hb:Binds X.K fd ps ds) (hd:Vals dvs ds) (hx:Passes CX X E)
  (ha:PA X (e::es) t) (hdb:(x == ("__debug__":Str))=false:=by decide) (he:starEach (e::es) X.env=(false,eval e X.env)::starEach es X.env:=by rfl) (hpl:(backTo pos<|starEach es X.env).any (·.1)=false:=by rfl) :
  PE X (.Call (.Name x p) (e::es) [] pos) (tCall sp dvs E t):=by
 intro pins s Z H Q I h;refine wpAny_Call_Name_kw<|Zc5 I hg hm ?_ hdb;refine PySem.W.callWith_K (h₀:=X.base) I.ok.mod.kin hk (thn (ha pos pins s Z H _ I h) λus s1 ⟨vs,H1,I1,r,q⟩=>⟨I1.kIn,?_⟩) he hpl;exact Zsa F hr hb hd hx I1 r q
theorem Zpw (F:FnOk X.prog X.w X.K X.mg X.base CX k f fd ps sp) (hr:Room k X.A) (hg:Gl X x) (hm:X.mg x=some (.ref f)) (hk:W.keepIn X.K (.ref f)=true) (hb:Binds X.K fd ps ds) (hd:Vals dvs ds) (hx:Passes CX X E)
  (hdb:(x == ("__debug__":Str))=false:=by decide):PE X (.Call (.Name x p) [] [] pos) (tCall sp dvs E tNil):=by
 intro pins s Z H Q I h;refine wpAny_Call_Name_kw<|Zc5 I hg hm ?_ hdb;exact PySem.W.callWith_K0 I.kIn hk<|Zsa (us:=[]) F hr hb hd hx I .nil h
end
def PK (X:Cx) (kws:List Keyword) (t:TA):Prop:=
 ∀(pos:Pos) (pins:Qbz) (s:Shared) (Z:St) (H:Hp) (Q:List V->Hp->Prop),Inv X pins Z H s->t Z H Q->wpAny (model X.prog X.w) X.A (evalAll ((backToKw pos<|keywordEach kws X.env).map (·.2))) (AP X pins Z Q) X.xe s
section
variable {X:Cx}{CX:CXT}{k:Nat}{f C:Addr}{fd:FuncData}{ps ks:List Str}{sp:Sp}{E:XK}{x m:Str}{p pos apos kpos:Pos}{e o:Expr}{es:List Expr}{kws:List Keyword}{te ta:TE}{t tk:TA}{nm:Option Str}
theorem Zw8:PK X [] tNil:=λ_ _ _ _ H Q I h=>wpAny_evalAll_nil ⟨[],H,I,.nil,h⟩
theorem Ztr (ha:PE X e te) (hr:PK X kws t):PK X (⟨nm,e,kpos⟩::kws) (tCons te t):=by
 intro pos pins s Z H Q I h;show wpAny _ _ (evalAll ((do let v <- eval e X.env;standAt pos;pure v)::(backToKw pos<|keywordEach kws X.env).map (·.2))) _ _ s;refine wpAny_evalAll_cons<|Qbn (thn (ha pins s Z H _ I h) λu s1 ⟨x,H1,I1,r1,q1⟩=>Qbn<|Qbr<|Qbo ?_);exact thn (hr pos pins s1 Z H1 _ I1 q1) λus s2 ⟨xs,H2,I2,r2,q2⟩=>⟨x::xs,H2,I2,.cons r1 r2,q2⟩
variable {g:List Value->List Value->List Value}{gV:List V->List V->List V}
end
structure FnScope (N P:List Str) (sc:Scope):Prop where
 kind:sc.kind=.function
 co:sc.isCoroutine=false
 gen:sc.isGenerator=false
 nd:N.Nodup
 pre:N.take P.length=P
 par:∀x∈P,sc.names.lookup x=some .local\/sc.names.lookup x=some .cell
 nofree:∀y∈sc.names,y.2≠.free
theorem Zii {kindOf:Str->Option NameKind}{x:Str}:∀{binds:List (Str × Value)}{m:Str->Option Value},(∀v,(x,v) ∉ binds)->bindL kindOf binds m x=m x
 |[],_,_=>rfl
 | (n,v)::r,m,h=>by
  unfold bindL;rw[Zii λw hw=>h w (Wap _ hw)];split
  ·have:x≠n:=by rintro rfl;exact h v Wat
   simp[this]
  ·rfl
theorem Zia {kindOf:Str->Option NameKind}{x:Str}:∀{binds:List (Str × Value)}{m:Str->Option Value},(∀v,(x,v) ∉ binds)->bindC kindOf binds m x=m x
 |[],_,_=>rfl
 | (n,v)::r,m,h=>by
  unfold bindC;rw[Zia λw hw=>h w (Wap _ hw)];split
  ·rfl
  ·have:x≠n:=by rintro rfl;exact h v Wat
   simp[this]
theorem Zf2 {kindOf:Str->Option NameKind}{x:Str}{v:Value}:∀{P:List Str}{vs:List Value}{i:Nat}{m:Str->Option Value},P.Nodup->P[i]?=some x->vs[i]?=some v->kindOf x=some .local ->
  bindL kindOf (P.zip vs) m x=some v
 |[],_,_,_,_,h,_,_=>by simp at h
 |_::_,[],_,_,_,_,h,_=>by simp at h
 |p::P,w::vs,0,m,nd,h1,h2,hk=>by
  simp at h1 h2;subst h1;subst h2;show bindL kindOf ((p,w)::P.zip vs) m p=_;unfold bindL;rw[Zii λv hv=>(Wcs.mp nd).1 (Wdd hv).1,Qbw hk];simp
 |p::P,w::vs,i+1,m,nd,h1,h2,hk=>by
  show bindL kindOf ((p,w)::P.zip vs) m x=_;unfold bindL;exact Zf2 (i:=i) (Wcs.mp nd).2 (by simpa using h1) (by simpa using h2) hk
theorem Zf7 {kindOf:Str->Option NameKind}{x:Str}{v:Value}:∀{P:List Str}{vs:List Value}{i:Nat}{m:Str->Option Value},P.Nodup->P[i]?=some x->vs[i]?=some v->kindOf x≠some .local ->
  bindC kindOf (P.zip vs) m x=some v
 |[],_,_,_,_,h,_,_=>by simp at h
 |_::_,[],_,_,_,_,h,_=>by simp at h
 |p::P,w::vs,0,m,nd,h1,h2,hk=>by
  simp at h1 h2;subst h1;subst h2;show bindC kindOf ((p,w)::P.zip vs) m p=_;unfold bindC;rw[Zia λv hv=>(Wcs.mp nd).1 (Wdd hv).1,Qbv hk];simp
 |p::P,w::vs,i+1,m,nd,h1,h2,hk=>by
  show bindC kindOf ((p,w)::P.zip vs) m x=_;unfold bindC;exact Zf7 (i:=i) (Wcs.mp nd).2 (by simpa using h1) (by simpa using h2) hk
def start (N:List Str) (vs:List V):St:=vs.map some++Wad (N.length-vs.length) none
def cxOf (CX:CXT) (P:Program) (w:World) (K:W.Frag) (mg:Str->Option Value) (base:Heap) (N:List Str) (qual:Str) (scope:Scope) (f:Addr) (cd:Value) (A:Around) (outer:List Env) (s:Shared) (H:Hp) (E:XK):Cx where
 prog:=P
 w:=w
 K:=K
 mg:=mg
 base:=base
 A:=A.deeper<|envOfC qual scope s.heap.objs.size f cd
 N:=N
 s₀:=s
 H₀:=H
 env:=envOfC qual scope s.heap.objs.size f cd
 outer:=outer
 stack:=envOfC qual scope s.heap.objs.size f cd::outer
 ex:=[]
 calm:=true
 fn:=λ_=>true
 pn:=[]
 xe:=λe s'=>wpAny (model P w) (A.deeper<|envOfC qual scope s.heap.objs.size f cd) (leaving (envOfC qual scope s.heap.objs.size f cd) e) (λ_ s''=>CX outer H s E e s'') (λe' s''=>CX outer H s E e' s'') s'
theorem Zfb {sc:Scope}{n:Nat}{x:Str}(h:sc.names.lookup x=some .cell):∃c,(cellsFrom n sc.names []).lookup x=some c:=by
 have q:=PySem.W.cellsFrom_some sc.names n [] (.inl h);exact Option.isSome_iff_exists.mp q
theorem Znw {CX:CXT}{P:Program}{w:World}{K:W.Frag}{mg:Str->Option Value}{base:Heap}{N ps:List Str}{qual:Str}{scope:Scope}{f:Addr}{cd:Value}{A:Around}{outer:List Env}{s s1:Shared}{H:Hp}{E:XK}{us:List Value}{vs:List V}
  (S:FnScope N ps scope) (hd:A.handled=none) (e0:Env0 P w K mg base A outer s H) (hl:vs.length=ps.length) (r:Vals vs us)
  (x:InCallC s s.heap.objs.size (bindL (envOfC qual scope s.heap.objs.size f cd).kindOf (ps.zip us) λ_=>none) (cellsFrom (s.heap.objs.size+1) scope.names []) (bindC (envOfC qual scope s.heap.objs.size f cd).kindOf (ps.zip us) λ_=>none) s1) :
  Inv (cxOf CX P w K mg base N qual scope f cd A outer s H E) [] (start N vs) H s1:=by
 have hpl:ps.length<=N.length:=by have:=congrArg Wbb S.pre;rw[Wbj]at this;omega
 obtain⟨h1,tk,rfl,hk⟩:=x.done;have noA:∀b:Addr,b ∉ (cxOf CX P w K mg base N qual scope f cd A outer s H E).ex:=λb z=>absurd (show b∈([]:List Addr) from z) (by simp);refine⟨⟨e0.mod,S.kind,rfl,rfl,Waj _,λy z c h1 h2=>?_,λy hy=>?_,λy c _ h=>?_,λ_=>hd,Around.frames_deeper e0.frames,.inr ⟨rfl,rfl⟩,λb z=>absurd z (noA b),e0.bs,e0.bsz,λb _ _=>noA b,λb z=>absurd z (noA b),e0.funs,e0.frf⟩,
  rfl,e0.bare,Un.kept hk,⟨_,x.toInCall.ns,λi y v h1 h2 h3=>?_⟩,λy c h=>⟨_,x.cell y c h⟩,e0.hok.fresh (Waj _),λy c h=>?_,λp hp=>absurd (show p∈([]:Qbz) from hp) (by simp),e0.hok.kept hk,?_⟩
 ·exact name_of_addr x.apart (PySem.mem_of_lookup h1)<|PySem.mem_of_lookup h2
 ·have hy:scope.names.lookup y=some .cell\/scope.names.lookup y=some .free:=hy
  rcases hy with hy|hy
  ·exact Zfb hy
  ·exact absurd rfl<|S.nofree _<|PySem.mem_of_lookup hy
 ·exact Wbm<|x.above y c<|PySem.mem_of_lookup h
 ·have hi:i<vs.length:=by
   unfold start at h2;by_cases hi:i<vs.length
   ·exact hi
   ·rw[Wax (by simpa using hi)]at h2
    rw[Wbe]at h2;split at h2 <;> cases h2
  have ha:vs[i]?=some v:=by
   unfold start at h2;rw[Waz (by simpa using hi),Waf]at h2;cases e:vs[i]? with
   |none=>rw[e]at h2;cases h2
   |some a=>rw[e]at h2;cases h2;rfl
  obtain⟨u,hu,rv⟩:=r.get ha;have hp:ps[i]?=some y:=by
   rw[<- S.pre,List.getElem?_take_of_lt (by omega)];exact h1
  have ndP:ps.Nodup:=by rw[<- S.pre];exact S.nd.sublist<|Wdw _ _
  refine⟨u,rv,?_⟩;rcases S.par y (Wav hp) with k|k
  ·exact .inl ⟨k,Zf2 ndP hp hu k⟩
  ·obtain⟨c,e⟩:=Zfb (n:=s.heap.objs.size+1) k
   refine .inr ⟨.inl k,c,e,?_⟩;have q:=x.cell y c e;rw[Zf7 ndP hp hu (by show scope.names.lookup y≠_;rw[k];decide)]at q;exact q
 ·exact e0.hok.fresh<|Wbm<|x.above y c<|PySem.mem_of_lookup h
 ·unfold start
  show _=N.length;rw[Wal,Waa,Wa5];omega
theorem Zut {CX:CXT}{P:Program}{w:World}{K:W.Frag}{mg:Str->Option Value}{base:Heap}{k:Nat}{f:Addr}{name qual:Str}{params:Arguments}{body:List Stmt}{scope:Scope}{dV kV doc pm cdv ct oc:Value}{an od:Option Addr}
  {osl:Array (Option Value)}{N ps:List Str}{sp:Sp}(lk:K.lookup f=some ⟨oc,od,.func<|W.fnOf name qual params body scope dV kV doc pm an cdv ct,osl⟩) (hcd:W.codeIn K cdv qual=true) (S:FnScope N ps scope)
  (len:∀vs H Q E,sp vs H Q E->vs.length=ps.length)
  (hbody:∀(A:Around) (outer:List Env) (s:Shared) (H:Hp) (vs:List V) (Q:VK) (E:XK),Room k (A.deeper (envOfC qual scope s.heap.objs.size f cdv))->sp vs H Q E ->
   ∃t,PSs (cxOf CX P w K mg base N qual scope f cdv A outer s H E) body t/\t { nx:=λ_ H'=>Q .non H',rt:=Q } (start N vs) H) :
  FnOk P w K mg base CX (k+1) f (W.fnOf name qual params body scope dV kV doc pm an cdv ct) ps sp:=by
 refine⟨len,λA outer s H args us vs Q E hr e0 hb r hsp=>?_⟩;have hl:=len _ _ _ _ hsp;have KX:K.In s.heap:=e0.mod.kin.keeps λb o e=>(e0.bs b o e).1;have lim:s.heap.NoLimit:=e0.mod.nolimit.keeps λb o e=>(e0.bs b o e).1;have hkind:∀y∈ps.zip us,scope.names.lookup y.1=some .local\/(scope.names.lookup y.1=some .cell/\((cellsFrom (s.heap.objs.size+1) scope.names []).lookup y.1).isSome=true):=λ⟨n,v⟩ hy=>by
  rcases S.par n (Wdd hy).1 with q|q
  ·exact .inl q
  ·exact .inr ⟨q,PySem.W.cellsFrom_some _ _ _ (.inl q)⟩
 refine codeAny_call_function hr.depth (KX _ _ lk) rfl S.co S.gen rfl (PySem.W.codeRec_of KX hcd)<|hb _ _ _ _ ?_;refine wpAny_newFunctionEnv_cells S.kind hkind λenv he s1 x=>?_;subst he;refine⟨lim.keeps x.toInCall.keep,codeAny_func ?_⟩;obtain⟨t,ht,hq⟩:=hbody A outer s H vs Q E (hr.deeper _) hsp;have I:Inv (cxOf CX P w K mg base N qual scope f cdv A outer s H E) [] (start N vs) H s1:=Znw S hr.hd e0 hl r x;refine Qbp (ht [] s1 (start N vs) H _ I hq) (λfl s' hs=>?_) λe s' hs=>hs;have fin:∀{Z':St}{H':Hp}{v:V}{u:Value},Inv (cxOf CX P w K mg base N qual scope f cdv A outer s H E) [] Z' H' s' -> RelV v u->Q v H' -> CE outer P w H s Q u s':=
  λ{Z' H' v u} J rv q=>⟨v,H',J.os,J.bare,J.base,J.hok,rv,q⟩
 cases fl with
 |ret u=>
  obtain⟨v,Z',H',J,rv,q⟩:=hs;exact fin J rv q
 |next=>
  obtain⟨Z',H',J,q⟩:=hs;exact fin (v:=V.non) (u:=Value.none) J rfl q
 |brk=>
  obtain⟨_,_,_,q⟩:=hs;exact False.elim q
 |cont=>
  obtain⟨_,_,_,q⟩:=hs;exact False.elim q
section
variable {X:Cx}{x:Str}{p pos:Pos}{e:Expr}{es:List Expr}{t:TA}{id T:String}{r:List V->Hp->VK->Prop}
def tCB (r:List V->Hp->VK->Prop) (t:TA):TE:=λZ H Q=>t Z H λvs H1=>r vs H1 Q
theorem Zai (hc:CallR X (.builtin id) r) (hg:Gl X x) (hm:X.mg x=none) (hv:bootBuiltins x=some (.builtin id)) (ha:PA X (e::es) t) (hn:x ≠ "__name__":=by decide) (hdb:(x == ("__debug__":Str))=false:=by decide)
  (he:starEach (e::es) X.env=(false,eval e X.env)::starEach es X.env:=by rfl) (hpl:(backTo pos<|starEach es X.env).any (·.1)=false:=by rfl):PE X (.Call (.Name x p) (e::es) [] pos) (tCB r t):=by
 intro pins s Z H Q I h;refine wpAny_Call_Name_kw<|Ze0 I hg hm hv ?_ hn hdb;exact PyProof.Rows.callWith_builtin1 (thn (ha pos pins s Z H _ I h) λus s1 ⟨vs,H1,I1,r1,q1⟩=>hc pins s1 Z H1 vs us Q I1 r1 q1) he hpl
theorem Za2 (hc:CallR X (.type T) r) (hg:Gl X x) (hm:X.mg x=none) (hv:bootBuiltins x=some (.type T)) (ha:PA X (e::es) t) (hn:x ≠ "__name__":=by decide) (hdb:(x == ("__debug__":Str))=false:=by decide)
  (he:starEach (e::es) X.env=(false,eval e X.env)::starEach es X.env:=by rfl) (hpl:(backTo pos<|starEach es X.env).any (·.1)=false:=by rfl):PE X (.Call (.Name x p) (e::es) [] pos) (tCB r t):=by
 intro pins s Z H Q I h;refine wpAny_Call_Name_kw<|Ze0 I hg hm hv ?_ hn hdb;exact PyProof.Rows.callWith_type1 (thn (ha pos pins s Z H _ I h) λus s1 ⟨vs,H1,I1,r1,q1⟩=>hc pins s1 Z H1 vs us Q I1 r1 q1) he hpl
end
end L2
namespace HT
open PySem PyProof.Rows
section
open PySem.SeqAt
open PySem.AutoSeq1 (wpAny_loadPart')
open PySem.MeetsSeq PySem.MeetsSeq2 PySem.MeetsSeq3
end
section
variable {prog:Program}{w:World}{A:Around}{E:Qb0}{s:Shared}
theorem cat_tup {t b:Addr}{vs ws:List Value}{Q:Qb0}(ht:IsTup s.heap t vs.toArray) (hb:IsTup s.heap b ws.toArray) (hv:vs≠[])
  (h1:ws=[]->Q (.ref t) s) (h2:ws≠[]->Q (.ref s.heap.objs.size) { s with heap:=s.heap.push { cls:=.type "tuple",data:=.seq (vs++ws).toArray } })
  (hsz:vs.length+ws.length<=sizeLine):wpAny (model prog w) A (binaryOp .Add (.ref t) (.ref b)) Q E s:=by
 obtain⟨⟨cls,dd,data,sl⟩,ho,hc,n,hd⟩:=id ht;obtain⟨⟨cls2,dd2,data2,sl2⟩,ho2,hc2,n2,hd2⟩:=id hb;simp only at hc hd hc2 hd2;subst hc hd hc2 hd2;have e:vs.toArray++ws.toArray=(vs++ws).toArray:=by simp
 by_cases hw:ws=[]
 ·exact concat_meets ⟨_,ho,rfl⟩ ⟨_,ho2,rfl⟩ noFill_tuple_add seq_tuple_add PySem.F.slot_tuple_add PySem.F.entry_tuple_add (PySem.F.args_tuple_add_2 _ _)
   (tuple_addW1 t b vs.toArray ws.toArray n n2 dd dd2 sl sl2 (by simpa using hv) (by simp[hw])) ⟨ho,ho2,h1 hw⟩
 ·refine concat_meets ⟨_,ho,rfl⟩ ⟨_,ho2,rfl⟩ noFill_tuple_add seq_tuple_add PySem.F.slot_tuple_add PySem.F.entry_tuple_add (PySem.F.args_tuple_add_2 _ _)
   (tuple_addW2 t b vs.toArray ws.toArray n n2 dd dd2 sl sl2 (by simpa using hv) (by simpa using hw) (by rw[Wae,Wae];exact hsz)) ⟨ho,ho2,?_⟩
  rw[e];exact h2 hw
def sIx (n d:Nat):Option Int->Nat
 |none=>d
 |some v=>if v<0 then (v+(n:Int)).toNat else min v.toNat n
theorem sIx_none (n d:Nat):sIx n d none=d:=rfl
theorem sIx_nat (n d k:Nat):sIx n d (some (k:Int))=min k n:=by
 show (if (k:Int)<0 then ((k:Int)+(n:Int)).toNat else min (k:Int).toNat n)=min k n;rw[Qbv (by omega),Wbf]
theorem Zvo (n d:Nat) (hd:d<=n) (o:Option Int):sIx n d o<=n:=by
 cases o with
 |none=>exact hd
 |some v=>
  show (if v<0 then (v+(n:Int)).toNat else min v.toNat n)<=n;by_cases hv:v<0
  ·rw[Qbw hv];omega
  ·rw[Qbv hv];exact Nat.min_le_right _ _
theorem Zmg (v:Int) (n d:Nat):(if v<0 then max (v+(n:Int)) 0 else min v (n:Int))=((sIx n d (some v):Nat):Int):=by
 show (if v<0 then max (v+(n:Int)) 0 else min v (n:Int))=(((if v<0 then (v+(n:Int)).toNat else min v.toNat n):Nat):Int);by_cases hv:v<0
 ·simp only[Qbw hv];omega
 ·simp only[Qbv hv];omega
theorem Zln (lo hi:Option Int) (n:Nat):Builtin.Slice.sliceAdjust lo hi 1 (n:Int)=(((sIx n 0 lo:Nat):Int),((sIx n n hi:Nat):Int)):=by
 have h1:¬ ((1:Int)<0):=by omega
 unfold Builtin.Slice.sliceAdjust;simp only[h1,if_false];refine Prod.ext ?_ ?_
 ·cases lo with
  |none=>rfl
  |some v=>exact Zmg v n 0
 ·cases hi with
  |none=>rfl
  |some v=>exact Zmg v n n
theorem Zl3 (i j:Nat):Builtin.Slice.slicePlaces (i:Int) (j:Int) 1=j-i:=by
 unfold Builtin.Slice.slicePlaces;have h1:(1:Int) > 0:=by omega
 simp only[h1,if_true,Int.ediv_one];split <;> omega
theorem Zg5 {v:Value}{o:Option Int}{Q:Option Int->Shared->Prop}(p:IsPart v o) (h:Q o s):wpAny (model prog w) A (Builtin.Slice.slicePartIndex v) Q E s:=by
 cases p with
 |none=>exact slicePart_none h
 |int i t=>exact slicePart_int h
theorem Zdr {sl:Addr}{vl vu:Value}{lo hi:Option Int}{n:Nat}{Q:Int × Int × Nat->Shared->Prop}(hs:s.heap.IsSliceOf sl vl vu .none) (pl:IsPart vl lo) (pu:IsPart vu hi)
  (h:Q (((sIx n 0 lo:Nat):Int),1,sIx n n hi-sIx n 0 lo) s):wpAny (model prog w) A (Builtin.Slice.sliceApplied (.ref sl)<|pure (n:Int)) Q E s:=by
 obtain⟨os,hos,hcs,hds⟩:=id hs;unfold Builtin.Slice.sliceApplied Builtin.Slice.sliceFields;refine Qbn<|Qbn<|wpAny_field hos hds (x:=vl) rfl<|Qbn<|wpAny_field hos hds (x:=vu) rfl<|Qbn<|wpAny_field hos hds (x:=.none) rfl<|Qbo ?_;refine Qbn<|slicePart_none ?_;show wpAny _ _ (if ((1:Int) == 0)=true then _ else _) _ _ s;rw[Qbv (by decide)];refine Qbn<|Zg5 pl<|Qbn<|Zg5 pu<|Qbn<|Qbo ?_;show wpAny _ _ (match Builtin.Slice.sliceAdjust lo hi 1 (n:Int) with|(lo,hi)=>pure (lo,(1:Int),Builtin.Slice.slicePlaces lo hi 1)) _ _ s;rw[Zln lo hi n];show wpAny _ _ (pure (((sIx n 0 lo:Nat):Int),(1:Int),Builtin.Slice.slicePlaces ((sIx n 0 lo:Nat):Int) ((sIx n n hi:Nat):Int) 1)) _ _ s;rw[Zl3];exact Qbo h
theorem Zqp (xs:Array Value) (i k:Nat):((Wb2 k).filterMap λ(m:Nat)=>xs[((i:Int)+(m:Int)*1).toNat]?).toArray=((xs.toList.drop i).take k).toArray:=by
 have e:(λ(m:Nat)=>xs[((i:Int)+(m:Int)*1).toNat]?)=λm=>xs[i+m]?:=by
  funext m
  have:((i:Int)+(m:Int)*1).toNat=i+m:=by omega
  rw[this]
 rw[e];have:=pick_run xs i k;rw[List.filterMap_map]at this;have e2:((λx=>xs[x]?)∘λx=>i+x)=λm=>xs[i+m]?:=rfl;rw[e2]at this;rw[this]
theorem getItem_tuple_cut {t sl:Addr}{items:Array Value}{vl vu:Value}{lo hi:Option Int}{Q:Qb0}(ht:IsTup s.heap t items) (hs:s.heap.IsSliceOf sl vl vu .none) (pl:IsPart vl lo) (pu:IsPart vu hi)
  (hw:¬ (sIx items.size 0 lo=0/\sIx items.size items.size hi=items.size))
  (h:Q (.ref s.heap.objs.size) { s with heap:=s.heap.push { cls:=.type "tuple",data:=.seq ((items.toList.drop<|sIx items.size 0 lo).take (sIx items.size items.size hi-sIx items.size 0 lo)).toArray } })
  (hsz:items.size<=sizeLine):wpAny (model prog w) A (getItem (.ref t) (.ref sl)) Q E s:=by
 have htake:sizeOk (.seq ((items.toList.drop<|sIx items.size 0 lo).take (sIx items.size items.size hi-sIx items.size 0 lo)).toArray):=by
  show ((items.toList.drop<|sIx items.size 0 lo).take (sIx items.size items.size hi-sIx items.size 0 lo)).toArray.size<=sizeLine;rw[Wae,Wbj,Wbq,Array.length_toList];omega
 have hj:sIx items.size items.size hi<=items.size:=Zvo _ _ (Waj _) hi;obtain⟨os,hos,hcs,hds⟩:=id hs;have hTs:s.TypeIs (.ref sl) "slice":=⟨os,hos,hcs⟩;unfold getItem
 try with_reducible refine Qbq ?_
 first|refine Qbn (Qbo ?_)|skip
 refine Qbn (wpAny_sequenceKey ht.typeIs (by decide) ?_);refine Qbn (wpAny_callSpecial?_slot (name:=Str.ofString "__getitem__") ht.typeIs PyProof.Rows.slot_tuple_getitem
  (wpAny_call_entry PyProof.Rows.slot_tuple_getitem ht.typeIs entry_tuple_getitem ?_ (args_tuple_getitem _ _)))
 show wpAny _ _ (Builtin.Tuple.tupleItemsOf (.ref t) >>= _) _ _ s;refine Qbn<|tupleItemsOf_ ht ?_;refine Qbn<|wpAny_typeOf hTs ?_;rw[Qbw (by decide)];refine Qbn<|Zdr hs pl pu ?_;have hno:¬ ((((sIx items.size 0 lo:Nat):Int) == 0 && (1:Int) == 1 && (sIx items.size items.size hi-sIx items.size 0 lo) == items.size)=true):=by
  intro q;rw[Wa6,Wa6]at q;have q1:((sIx items.size 0 lo:Nat):Int)=0:=eq_of_beq q.1.1;have q2:sIx items.size items.size hi-sIx items.size 0 lo=items.size:=eq_of_beq q.2;exact hw ⟨by omega,by omega⟩
 show wpAny _ _ (if (((sIx items.size 0 lo:Nat):Int) == 0 && (1:Int) == 1 && (sIx items.size items.size hi-sIx items.size 0 lo) == items.size)=true then _ else _) _ _ s;rw[Qbv hno,Zqp]
 first
  |exact Qbn (m:=Builtin.Tuple.tupleExact _) (wpAny_newObj_type (Qbo ⟨_,rfl,Qbo h⟩) htake)
  |exact Qbn (m:=Builtin.Tuple.tupleExact _) (wpAny_newObj_type (Qbn (Qbo (Qbo ⟨_,rfl,Qbo h⟩))) htake)
  |exact Qbn (Qbn (m:=Builtin.Tuple.tupleExact _) (wpAny_newObj_type (Qbo (Qbo ⟨_,rfl,Qbo h⟩)) htake))
  |exact Qbn (Qbn (m:=Builtin.Tuple.tupleExact _) (wpAny_newObj_type (Qbo ⟨_,rfl,Qbo h⟩) htake))
end
end HT
namespace L2
open PySem PySem.Spec PyProof.Rows
abbrev TO:=St->Hp->(Option Int->Hp->Prop)->Prop
def PO (X:Cx) (e:Option Expr) (t:TO):Prop:=
 ∀(pins:Qbz) (s:Shared) (Z:St) (H:Hp) (Q:Option Int->Hp->Prop),Inv X pins Z H s->t Z H Q ->
  wpAny (model X.prog X.w) X.A (evalPart e X.env) (λu s'=>∃o H',Inv X pins Z H' s' /\ IsPart u o/\Q o H') X.xe s
def tNoPart:TO:=λ_ H Q=>Q none H
def tPart (t:TE):TO:=λZ H Q=>t Z H λx H1=>∃i,x=.int i/\Q (some i) H1
theorem Zd1 {ns:List Int}:∀{us:List Value},Vals (ns.map V.int) us->IntsAre us ns:=by
 induction ns with
 |nil=>intro us r;rw[Wdf]at r;cases r;exact .nil
 |cons n ns ih=>
  intro us r;rw[Wa3]at r;cases r with
  |cons r1 r2=>
   obtain⟨t,e⟩:=r1;subst e;exact .cons n t<|ih r2
section
variable {X:Cx}{e:Expr}{te:TE}{lo hi:Option Expr}{tl th:TO}{pos p2:Pos}
theorem Zck:PO X none tNoPart:=by
 intro pins s Z H Q I h;rw[evalPart_none];exact Qbo ⟨none,H,I,.none,h⟩
theorem Zb8 (h:PE X e te):PO X (some e) (tPart te):=by
 intro pins s Z H Q I hw;rw[evalPart_some];refine thn (h pins s Z H _ I hw) λu s1 ⟨x,H1,I1,r1,q1⟩=>?_;obtain⟨i,rfl,q⟩:=q1;obtain⟨t,rfl⟩:=r1;exact⟨some i,H1,I1,.int i t,q⟩
def SlR (X:Cx) (r:V->Option Int->Option Int->Hp->VK->Prop):Prop:=
 ∀(pins:Qbz) (s:Shared) (Z:St) (H:Hp) (x:V) (v vl vu:Value) (lo hi:Option Int) (sl:Addr) (Q:VK),Inv X pins Z H s->RelV x v->s.heap.IsSliceOf sl vl vu .none->IsPart vl lo->IsPart vu hi->r x lo hi H Q ->
  ∃T id,typeLookup (.type T) "__getitem__" = pure (some (.builtin id))/\s.TypeIs v T/\wpAny (model X.prog X.w) X.A (getItem v (.ref sl)) (EP X pins Z Q) X.xe s
theorem SlR.or {r r':V->Option Int->Option Int->Hp->VK->Prop}(h:SlR X r) (h':SlR X r'):SlR X (λx lo hi H Q=>r x lo hi H Q\/r' x lo hi H Q):=by
 intro pins s Z H x v vl vu lo hi sl Q I rx hs pl pu q;rcases q with q|q
 ·exact h pins s Z H x v vl vu lo hi sl Q I rx hs pl pu q
 ·exact h' pins s Z H x v vl vu lo hi sl Q I rx hs pl pu q
def tSl (r:V->Option Int->Option Int->Hp->VK->Prop) (te:TE) (tl th:TO):TE:=λZ H Q=>te Z H λx H1=>tl Z H1 λl H2=>th Z H2 λu H3=>r x l u H3 Q
theorem Zbs {r:V->Option Int->Option Int->Hp->VK->Prop}(hr:SlR X r) (he:PE X e te) (hl:PO X lo tl) (hu:PO X hi th):PE X (.Subscript e (.Slice lo hi none p2) pos) (tSl r te tl th):=by
 intro pins s Z H Q I h;refine Subscript_ (thn (he pins s Z H _ I h) λv s1 ⟨x,H1,I1,r1,q1⟩=>?_);refine wpAny_Slice (thn (hl pins s1 Z H1 _ I1 q1) λvl s2 ⟨l,H2,I2,pl,q2⟩=>thn (hu pins s2 Z H2 _ I2 q2) λvu s3 ⟨u,H3,I3,pu,q3⟩=>?_);rw[evalPart_none];refine Qbo ?_;have I4:Inv X pins Z H3 { s3 with heap:=s3.heap.push { cls:=.type "slice",data:=.fields #[vl,vu,.none] } }:=I3.kept (t':=s3.toks) λb ob q=>Wac _ q;obtain⟨T,id,hT,ht,hg⟩:=hr pins { s3 with heap:=s3.heap.push { cls:=.type "slice",data:=.fields #[vl,vu,.none] } } Z H3 x v vl vu l u s3.heap.objs.size Q I4 r1 (Heap.IsSliceOf.new ..) pl pu q3;show wpAny (model X.prog X.w) X.A (subscriptTail e (.Slice lo hi none p2) v (.ref s3.heap.objs.size)) (EP X pins Z Q) X.xe { s3 with heap:=s3.heap.push { cls:=.type "slice",data:=.fields #[vl,vu,.none] } };exact tail_any (ops:=[.ref s3.heap.objs.size,v]) ht hT hg (by with_unfolding_all rfl)
def cutV (xs:List V) (lo hi:Option Int):List V:=(xs.drop<|HT.sIx xs.length 0 lo).take (HT.sIx xs.length xs.length hi-HT.sIx xs.length 0 lo)
theorem Zgb (xs:List V) (lo hi:Option Int):(cutV xs lo hi).length<=xs.length:=by
 unfold cutV;rw[Wbj,Wbq];omega
def rSlT (K:W.Frag):V->Option Int->Option Int->Hp->VK->Prop:=λx lo hi H Q=>∃a xs,x=.ref a/\SqT K H a xs /\
 ¬ (HT.sIx xs.length 0 lo=0/\HT.sIx xs.length xs.length hi=xs.length)/\∀p,H p=none->Q (.ref p) (upd H p (.tup<|cutV xs lo hi))
theorem Zvz:SlR X (rSlT X.K):=by
 intro pins s Z H x v vl vu lo hi sl Q I rx hs pl pu h;obtain⟨a,xs,rfl,hx,hw,q⟩:=h;cases rx;obtain⟨its,r,ht,hz⟩:=I.tuple hx;have hlen:its.toArray.size=xs.length:=by rw[Wae];exact r.length.symm
 refine⟨"tuple",_,PyProof.Rows.slot_tuple_getitem.lookup,ht.typeIs,?_⟩;refine HT.getItem_tuple_cut ht hs pl pu (by rw[hlen];exact hw) ?_ (by rw[hlen];exact hz);rw[hlen];refine⟨.ref s.heap.objs.size,_,I.laid (t':=s.toks) (o:=.tup<|cutV xs lo hi) (λb ob q=>Wac _ q) (Waj _) ?_,rfl,q _<|I.hok.fresh<|Waj _⟩;exact⟨Way (Zgb xs lo hi) hz,_,(r.drop<|HT.sIx xs.length 0 lo).take (HT.sIx xs.length xs.length hi-HT.sIx xs.length 0 lo),IsTupN.new _ _⟩
def rCatT (K:W.Frag):R2:=λx y H Q=>∃a b xs ys,x=.ref a/\y=.ref b/\SqT K H a xs/\SqT K H b ys/\xs≠[]/\xs.length+ys.length<=sizeLine /\
 (ys=[]->Q (.ref a) H)/\(ys≠[]->∀p,H p=none->Q (.ref p) (upd H p (.tup<|xs++ys)))
theorem Vals.nil_iff {xs:List V}{us:List Value}(r:Vals xs us):us=[]↔xs=[]:=by
 cases r with
 |nil=>simp
 |cons _ _=>simp
theorem Zur:OpR X (binaryOp .Add) (rCatT X.K):=by
 intro pins s Z H x y v u Q I rx ry h;obtain⟨a,b,xs,ys,rfl,rfl,ha,hb,hx,hz,q1,q2⟩:=h;cases rx;cases ry;obtain⟨its,r1,p1,_⟩:=I.tuple ha;obtain⟨its2,r2,p2,_⟩:=I.tuple hb;refine HT.cat_tup p1 p2 (λz=>hx<|r1.nil_iff.mp z) (λz=>⟨.ref a,H,I,rfl,q1<|r2.nil_iff.mp z⟩) (λz=>?_) (by rw[<- r1.length,<- r2.length];exact hz);refine⟨.ref s.heap.objs.size,_,I.laid (t':=s.toks) (o:=.tup<|xs++ys) (λb ob q=>Wac _ q) (Waj _) ?_,rfl,q2 (λw=>z<|r2.nil_iff.mpr w) _<|I.hok.fresh<|Waj _⟩;exact⟨by rw[Wal];exact hz,_,r1.append r2,IsTupN.new _ _⟩
end
def ixN (n:Nat) (i:Int):Option Nat:=if 0<=i then (if i<n then some i.toNat else none) else if -(n:Int)<=i then some (i+n).toNat else none
def atI {α:Type}(xs:List α) (i:Int):Option α:=(ixN xs.length i).bind λj=>xs[j]?
theorem Znd {n:Nat}{i:Int}{j:Nat}(h:ixN n i=some j):seqIndex? i n=some j/\j<n /\ -(n:Int)<=i/\i<n:=by
 unfold ixN at h;by_cases h0:0<=i
 ·rw[Qbw h0]at h
  by_cases h1:i<n
  ·rw[Qbw h1]at h
   have e:i.toNat=j:=Waw.inj h;exact⟨by rw[seqIndex_of h0 h1,e],by omega,by omega,h1⟩
  ·rw[Qbv h1]at h;cases h
 ·rw[Qbv h0]at h
  by_cases h1:-(n:Int)<=i
  ·rw[Qbw h1]at h
   have e:(i+n).toNat=j:=Waw.inj h;exact⟨by rw[seqIndex_neg (by omega) h1,e],by omega,h1,by omega⟩
  ·rw[Qbv h1]at h;cases h
theorem Zjq {α:Type}{xs:List α}{i:Int}{v:α}(h:atI xs i=some v):∃j,seqIndex? i xs.length=some j/\xs[j]?=some v/\j<xs.length /\ -(xs.length:Int)<=i/\i<xs.length:=by
 unfold atI at h;cases e:ixN xs.length i with
 |none=>rw[e]at h;cases h
 |some j=>
  rw[e]at h;obtain⟨h1,h2,h3,h4⟩:=Znd e;exact⟨j,h1,h,h2,h3,h4⟩
theorem Zau {α:Type}{xs:List α}{j:Nat}{v:α}(h:xs[j]?=some v):atI xs (j:Int)=some v:=by
 have hj:j<xs.length:=(Wah.mp h).1;have e:ixN xs.length (j:Int)=some j:=by
  unfold ixN;rw[Qbw (by omega),Qbw (by omega)];simp
 unfold atI;rw[e];exact h
theorem Zq9 {α:Type}(xs:List α) (v:α):atI (xs++[v]) (-1)=some v:=by
 have hl:(xs++[v]).length=xs.length+1:=by simp
 have e:ixN (xs++[v]).length (-1)=some xs.length:=by
  unfold ixN;rw[hl,Qbv (by decide),Qbw (by omega)];congr 1;omega
 unfold atI;rw[e];show (xs++[v])[xs.length]?=some v;simp
def PlainIx (b:Expr):Prop:=∀o i,subscripted b false o i=operate [o,i] (getItem o i)
def IxR (X:Cx) (r:R2):Prop:=
 ∀(value slice:Expr) (pins:Qbz) (s:Shared) (Z:St) (H:Hp) (x y:V) (v u:Value) (Q:VK),Inv X pins Z H s->RelV x v->RelV y u->r x y H Q ->
  subscripted slice false v u=operate [v,u] (getItem v u)->wpAny (model X.prog X.w) X.A (subscriptTail value slice v u) (EP X pins Z Q) X.xe s
def MtR (X:Cx) (id:String) (r:V->List V->Hp->VK->Prop):Prop:=
 ∀(pins:Qbz) (s:Shared) (Z:St) (H:Hp) (x:V) (xs:List V) (v:Value) (us:List Value) (Q:VK),Inv X pins Z H s->RelV x v->Vals xs us->r x xs H Q ->
  wpAny (model X.prog X.w) X.A (call (.builtin id) (v::us)) (EP X pins Z Q) X.xe s
section
variable {X:Cx}{a b:Expr}{ta tb:TE}{pos:Pos}
theorem IxR.or {r r':R2}(h:IxR X r) (h':IxR X r'):IxR X (λx y H Q=>r x y H Q\/r' x y H Q):=by
 intro value slice pins s Z H x y v u Q I rx ry q hs;rcases q with q|q
 ·exact h value slice pins s Z H x y v u Q I rx ry q hs
 ·exact h' value slice pins s Z H x y v u Q I rx ry q hs
theorem Za5 {r:R2}(hr:IxR X r) (ha:PE X a ta) (hb:PE X b tb) (hs:PlainIx b):PE X (.Subscript a b pos) (tOp r ta tb):=by
 intro pins s Z H Q I h;exact Subscript_ (binT ha hb I h λv u s2 x y H2 I2 rx ry q=>hr a b pins s2 Z H2 x y v u Q I2 rx ry q<|hs _ _)
def rIxL (K:W.Frag):R2:=λx y H Q=>∃p xs i v,x=.ref p/\y=.int i/\SqL K H p xs/\atI xs i=some v/\Q v H
def rIxT (K:W.Frag):R2:=λx y H Q=>∃p xs i v,x=.ref p/\y=.int i/\SqT K H p xs/\atI xs i=some v/\Q v H
def rIxS:R2:=λx y H Q=>∃z i c,x=.str z/\y=.int i/\z.length<=sizeLine/\atI z.cps.toList i=some c/\Q (.str ⟨#[c]⟩) H
theorem Zs2:IxR X (rIxL X.K):=by
 intro value slice pins s Z H x y v u Q I rx ry h hs;obtain⟨p,xs,i,z,rfl,rfl,hq,he,q⟩:=h;cases rx;obtain⟨t,rfl⟩:=ry;obtain⟨its,r,pl,hz⟩:=I.list hq;obtain⟨j,h1,h2,h3,h4,h5⟩:=Zjq he;obtain⟨w,ew,rw'⟩:=r.get h2;have hl:=r.length;have hn:=line63;have fin:EP X pins Z Q w s:=⟨z,H,I,rw',q⟩;by_cases h0:0<=i
 ·have hj:i.toNat=j:=by
   rw[seqIndex_of h0 h5]at h1;exact Waw.inj h1
  exact item_listR pl.isList h0 (by omega) (by rw[hj];simpa using ew) fin hs
 ·have hj:(i+(its.toArray.size:Int)).toNat=j:=by
   rw[seqIndex_neg (by omega) h4]at h1;rw[Wae,<- hl];exact Waw.inj h1
  exact subscriptTail_builtinR (x:=w) pl.isList.typeIs slot_list_getitem.lookup
   (wpAny_getItem_list_neg (Q:=λr s'=>r=w/\EP X pins Z Q r s') pl.isList (by omega) (by rw[Wae] <;> omega) (by omega) (by rw[hj];simpa using ew) ⟨rfl,fin⟩) hs
theorem Zxb:IxR X (rIxT X.K):=by
 intro value slice pins s Z H x y v u Q I rx ry h hs;obtain⟨p,xs,i,z,rfl,rfl,hq,he,q⟩:=h;cases rx;obtain⟨t,rfl⟩:=ry;obtain⟨its,r,pl,hz⟩:=I.tuple hq;obtain⟨j,h1,h2,h3,h4,h5⟩:=Zjq he;obtain⟨w,ew,rw'⟩:=r.get h2;have hl:=r.length;have hn:=line63;have fin:EP X pins Z Q w s:=⟨z,H,I,rw',q⟩;exact subscriptTail_builtinR (x:=w) pl.typeIs slot_tuple_getitem.lookup
  (getItem_tuple (j:=j) (Q:=λr s'=>r=w/\EP X pins Z Q r s') pl (by omega) (by omega) (by rw[Wae,<- hl];exact h1) (by simpa using ew) ⟨rfl,fin⟩) hs
theorem Zwu:IxR X rIxS:=by
 intro value slice pins s Z H x y v u Q I rx ry h hs;obtain⟨z,i,c,rfl,rfl,hz,he,q⟩:=h;obtain⟨t,rfl⟩:=rx;obtain⟨t',rfl⟩:=ry;obtain⟨j,h1,h2,h3,h4,h5⟩:=Zjq he;have hl:z.cps.toList.length=z.length:=by simp[Str.length]
 rw[hl]at h1 h4 h5;have hn:=line63;exact tail_any (typeIs_str s z t) slot_str_getitem.lookup (getItem_str (c:=c) (by
  have e1:decide (i < -(2 ^ 63:Int))=false:=Qby (by omega);have e2:decide (i >= 2 ^ 63)=false:=Qby (by omega);rw[e1,e2,Bool.or_false]) (by rw[h1];simpa using h2) ⟨.str ⟨#[c]⟩,H,I.tok _,⟨_,rfl⟩,q⟩) hs
def rIx (K:W.Frag):R2:=λx y H Q=>rIxL K x y H Q\/rIxT K x y H Q\/rIxS x y H Q
theorem Zv2:IxR X (rIx X.K):=Zs2.or<|Zxb.or Zwu
theorem Zlw (its:List Value) (n j:Nat) (u:Value):Obj.mapSeq (·.setIfInBounds j u) { cls:=.type "list",data:=.seq its.toArray n } = { cls:=.type "list",data:=.seq (its.set j u).toArray n }:=by
 simp[Obj.mapSeq]
theorem Inv.lst {pins:Qbz}{Z:St}{H:Hp}{s:Shared}{p:Addr}{xs:List V}(I:Inv X pins Z H s) (h:H p=some (.lst xs)) :
  ∃(its:List Value) (n:Nat),Vals xs its/\s.heap.get? p=some { cls:=.type "list",data:=.seq its.toArray n } /\ xs.length<=sizeLine:=by
 obtain⟨z,its,n,r,e⟩:=I.hok p _ h;exact⟨its,n,r,e,z⟩
theorem Inv.lstUpd {pins:Qbz}{Z:St}{H:Hp}{s:Shared}{p:Addr}{xs ys:List V}{its its':List Value}{n n':Nat}{f:Obj->Obj}(I:Inv X pins Z H s) (h:H p=some (.lst xs))
  (ho:s.heap.get? p=some { cls:=.type "list",data:=.seq its.toArray n }) (hf:f { cls:=.type "list",data:=.seq its.toArray n } = { cls:=.type "list",data:=.seq its'.toArray n' }) (r:Vals ys its') (hz:ys.length<=sizeLine) (t:Nat) :
  Inv X pins Z (upd H p (.lst ys)) { s with heap:=s.heap.update p f,toks:=t }:=by
 have e:(s.heap.update p f).get? p=some { cls:=.type "list",data:=.seq its'.toArray n' }:=by
  rw[Wbi f ho (by rw[hf] <;> rfl),hf]
 refine I.write (x:=p) (e:=p) (by rw[h];trivial) (.inl rfl) (λb u hb q=>(Wba _ _<|Ne.symm hb).trans q) ⟨_,e⟩ ?_;exact⟨hz,its',n',r,e⟩
def rSetL:V->V->V->Hp->(Hp->Prop)->Prop:=λo i v H Q=>∃p xs k j,o=.ref p/\i=.int k/\H p=some (.lst xs)/\ixN xs.length k=some j/\Q (upd H p (.lst<|xs.set j v))
theorem Zq0:PSet X rSetL:=by
 intro pins s Z H o i v ov iv u Q I ro ri rv h;obtain⟨p,xs,k,j,rfl,rfl,hp,hj,q⟩:=h;cases ro;obtain⟨t,rfl⟩:=ri;obtain⟨its,n,r,ho,hz⟩:=I.lst hp;obtain⟨h1,h2,h3,h4⟩:=Znd hj;have hl:=r.length;have hn:=line63;have I':Inv X pins Z (upd H p (.lst<|xs.set j v)) { s with heap:=s.heap.update p (Obj.mapSeq (·.setIfInBounds j u)) }:=
  I.lstUpd hp ho (Zlw its n j u) (r.set rv j) (by rw[Wbs];exact hz) s.toks
 by_cases h0:0<=k
 ·have hk:k.toNat=j:=by
   rw[seqIndex_of h0 h4]at h1;exact Waw.inj h1
  exact PySem.W.ki_setAt ho h0 (by omega) (by rw[Wae,<- hl];exact h4) (by rw[hk];exact⟨_,I',q⟩)
 ·have hk:(k+(its.toArray.size:Int)).toNat=j:=by
   rw[seqIndex_neg (by omega) h3]at h1;rw[Wae,<- hl];exact Waw.inj h1
  exact PySem.W.ki_setBack ho (by omega) (by rw[Wae,<- hl];exact h3) (by omega) (by rw[hk];exact⟨_,I',q⟩)
theorem Zih (lo hi:Option Int) (n:Nat):(sliceBounds lo hi none n).1=((HT.sIx n 0 lo:Nat):Int)/\(sliceBounds lo hi none n).2.1=((HT.sIx n n hi:Nat):Int)/\(sliceBounds lo hi none n).2.2=1:=by
 refine⟨?_,?_,rfl⟩
 ·cases lo with
  |none=>simp[sliceBounds,HT.sIx]
  |some i=>
   simp only[sliceBounds,HT.sIx,Option.getD_none,show (1:Int) > 0 by decide,if_true];by_cases h:i<0
   ·simp only[h,if_true] <;> omega
   ·simp only[h,if_false] <;> omega
 ·cases hi with
  |none=>simp[sliceBounds,HT.sIx]
  |some i=>
   simp only[sliceBounds,HT.sIx,Option.getD_none,show (1:Int) > 0 by decide,if_true];by_cases h:i<0
   ·simp only[h,if_true] <;> omega
   ·simp only[h,if_false] <;> omega
theorem Zha (its:List Value) (lo hi:Option Int):slicePick its.toArray lo hi none=((its.drop<|HT.sIx its.length 0 lo).take (HT.sIx its.length its.length hi-HT.sIx its.length 0 lo)).toArray:=by
 obtain⟨h1,h2,h3⟩:=Zih lo hi its.toArray.size;unfold slicePick;rw[h1,h2,h3];simp only[sliceRange_one,pick_run,Wae] <;> rfl
def rSlL (K:W.Frag):V->Option Int->Option Int->Hp->VK->Prop:=λx lo hi H Q=>∃a xs,x=.ref a/\SqL K H a xs/\∀p,H p=none->Q (.ref p) (upd H p (.lst<|cutV xs lo hi))
theorem Zuf:SlR X (rSlL X.K):=by
 intro pins s Z H x v vl vu lo hi sl Q I rx hs pl pu h;obtain⟨a,xs,rfl,hx,q⟩:=h;cases rx;obtain⟨its,r,ht,hz⟩:=I.list hx;have hlen:=r.length;refine⟨"list",_,slot_list_getitem.lookup,ht.isList.typeIs,?_⟩;refine wpAny_getItem_list_slice ht.isList hs pl pu .none (by simp) ?_ (by rw[Wae] <;> omega)
 rw[Zha,<- hlen];refine⟨.ref s.heap.objs.size,_,I.laid (t':=s.toks) (o:=.lst<|cutV xs lo hi) (λb ob q=>Wac _ q) (Waj _) ?_,rfl,q _<|I.hok.fresh<|Waj _⟩;exact⟨Way (Zgb xs lo hi) hz,_,0,(r.drop<|HT.sIx xs.length 0 lo).take (HT.sIx xs.length xs.length hi-HT.sIx xs.length 0 lo),Wam _ rfl⟩
def flatV:V->Bool
 |.non=>true
 |.bl _=>true
 |.int _=>true
 |.str _=>true
 |_=>false
def eqV:V->V->Bool
 |.non,.non=>true
 |.bl a,.bl b=>a == b
 |.bl a,.int b=>(if a then 1 else 0) == b
 |.int a,.bl b=>a == (if b then 1 else 0)
 |.int a,.int b=>a == b
 |.str a,.str b=>a == b
 |_,_=>false
theorem Zxa {A:Around}{s:Shared}{y x:V}{u v:Value}(ry:RelV y u) (rx:RelV x v) (fy:flatV y=true) (fx:flatV x=true):SeqAt.EqAt A s u v (eqV y x):=by
 cases y with
 |non=>
  cases ry;cases x with
  |non=>cases rx;exact SeqAt.EqAt.same _
  |bl b=>cases rx;exact SeqAt.EqAt.none_bool b
  |int b=>obtain⟨t,rfl⟩:=rx;exact SeqAt.EqAt.none_int b t
  |str b=>obtain⟨t,rfl⟩:=rx;exact SeqAt.EqAt.none_str b t
  |_=>exact absurd (show false=true from fx) Wao
 |bl a=>
  cases ry;cases x with
  |non=>cases rx;exact SeqAt.EqAt.bool_none a
  |bl b=>cases rx;exact SeqAt.EqAt.bool_bool a b
  |int b=>obtain⟨t,rfl⟩:=rx;exact SeqAt.EqAt.bool_int a b t
  |str b=>obtain⟨t,rfl⟩:=rx;exact SeqAt.EqAt.bool_str a b t
  |_=>exact absurd (show false=true from fx) Wao
 |int a=>
  obtain⟨t',rfl⟩:=ry;cases x with
  |non=>cases rx;exact SeqAt.EqAt.int_none a t'
  |bl b=>cases rx;exact SeqAt.EqAt.int_bool a t' b
  |int b=>obtain⟨t,rfl⟩:=rx;exact SeqAt.EqAt.int_int a t' b t
  |str b=>obtain⟨t,rfl⟩:=rx;exact SeqAt.EqAt.int_str a t' b t
  |_=>exact absurd (show false=true from fx) Wao
 |str a=>
  obtain⟨t',rfl⟩:=ry;cases x with
  |non=>cases rx;exact SeqAt.EqAt.str_none a t'
  |bl b=>cases rx;exact SeqAt.EqAt.str_bool a t' b
  |int b=>obtain⟨t,rfl⟩:=rx;exact SeqAt.EqAt.str_int a t' b t
  |str b=>obtain⟨t,rfl⟩:=rx;exact SeqAt.EqAt.str_str a t' b t
  |_=>exact absurd (show false=true from fx) Wao
 |_=>exact absurd (show false=true from fy) Wao
def eqU (x:V) (u:Value):Bool:=match u with
 |.none=>eqV .non x
 |.bool b=>eqV (.bl b) x
 |.int i _=>eqV (.int i) x
 |.str z _=>eqV (.str z) x
 |_=>false
theorem Zr6 {x y:V}{u:Value}(r:RelV y u) (f:flatV y=true):eqU x u=eqV y x:=by
 cases y with
 |non=>cases r;rfl
 |bl b=>cases r;rfl
 |int i=>obtain⟨t,rfl⟩:=r;rfl
 |str z=>obtain⟨t,rfl⟩:=r;rfl
 |_=>exact absurd (show false=true from f) Wao
theorem Zfo {x:V}:∀{xs:List V}{us:List Value},Vals xs us->xs.all flatV=true->us.any (eqU x)=xs.any λy=>eqV y x
 |_,_,.nil,_=>rfl
 |y::xs,u::us,.cons r t,f=>by
  rw[Wc0,Wa6]at f;rw[Wcc,Wcc,Zr6 r f.1,Zfo t f.2]
theorem Zei {A:Around}{s:Shared}{x:V}{v:Value}(rx:RelV x v) (fx:flatV x=true):∀{xs:List V}{us:List Value},Vals xs us->xs.all flatV=true->∀u∈us,SeqAt.EqAt A s u v (eqU x u)
 |_,_,.nil,_=>λu hu=>by cases hu
 |y::xs,u::us,.cons r t,f=>λu' hu=>by
  rw[Wc0,Wa6]at f;rcases Wai.mp hu with rfl|hu
  ·rw[Zr6 r f.1];exact Zxa r rx f.1 fx
  ·exact Zei rx fx t f.2 u' hu
def inV (x:V) (xs:List V):Bool:=xs.any λy=>eqV y x
def rIn (K:W.Frag) (neg:Bool):R2:=λx y H Q=>∃p xs,y=.ref p/\(SqL K H p xs\/SqT K H p xs)/\flatV x=true/\xs.all flatV=true/\Q (.bl (if neg then !inV x xs else inV x xs)) H
theorem Zny:OpR X (compareOp .In) (rIn X.K false):=by
 intro pins s Z H x y v u Q I rx ry h;obtain⟨p,xs,rfl,hq,fx,fs,q⟩:=h;cases ry;rcases hq with hq|hq
 ·obtain⟨its,r,pl,hz⟩:=I.list hq
  refine SeqAt.in_listAt (eqU x) pl.isList (λw hw=>Zei rx fx r fs w (by simpa using hw)) ⟨.bl _,H,I,rfl,?_⟩;rw[show its.toArray.any (eqU x)=its.any (eqU x) by simp,Zfo r fs];exact q
 ·obtain⟨its,r,pl,hz⟩:=I.tuple hq
  refine SeqAt.in_tupleAt (eqU x) pl (λw hw=>Zei rx fx r fs w (by simpa using hw)) ⟨.bl _,H,I,rfl,?_⟩;rw[show its.toArray.any (eqU x)=its.any (eqU x) by simp,Zfo r fs];exact q
theorem Zip:OpR X (compareOp .NotIn) (rIn X.K true):=by
 intro pins s Z H x y v u Q I rx ry h;obtain⟨p,xs,rfl,hq,fx,fs,q⟩:=h;cases ry;rcases hq with hq|hq
 ·obtain⟨its,r,pl,hz⟩:=I.list hq
  refine SeqAt.notIn_listAt (eqU x) pl.isList (λw hw=>Zei rx fx r fs w (by simpa using hw)) ⟨.bl _,H,I,rfl,?_⟩;rw[show its.toArray.any (eqU x)=its.any (eqU x) by simp,Zfo r fs];exact q
 ·obtain⟨its,r,pl,hz⟩:=I.tuple hq
  refine SeqAt.notIn_tupleAt (eqU x) pl (λw hw=>Zei rx fx r fs w (by simpa using hw)) ⟨.bl _,H,I,rfl,?_⟩;rw[show its.toArray.any (eqU x)=its.any (eqU x) by simp,Zfo r fs];exact q
theorem Zir:CallR X (.builtin "len") (λxs H Q=>∃p ys,xs=[.ref p]/\(SqL X.K H p ys\/SqT X.K H p ys)/\Q (.int ys.length) H):=by
 intro pins s Z H xs us Q I r h;obtain⟨p,ys,rfl,hq,q⟩:=h;obtain⟨u,rfl,rx⟩:=vals1 r;cases rx;have hn:=line63;rcases hq with hq|hq
 ·obtain⟨its,r',pl,hz⟩:=I.list hq
  have hlen:=r'.length;exact Calls.call_len_list pl.isList (by simp only[Wae] <;> omega) ⟨.int ys.length,H,I.tok _,⟨s.toks+1,by rw[Wae,hlen]⟩,q⟩
 ·obtain⟨its,r',pl,hz⟩:=I.tuple hq
  have hlen:=r'.length;exact len_tuple pl (by simp only[Wae] <;> omega) ⟨.int ys.length,H,I.tok _,⟨s.toks+1,by rw[Wae,hlen]⟩,q⟩
theorem Zc2:CallR X (.builtin "len") (λxs H Q=>∃z,xs=[.str z]/\z.length<=sizeLine/\Q (.int z.length) H):=by
 intro pins s Z H xs us Q I r h;obtain⟨z,rfl,hz,q⟩:=h;obtain⟨u,rfl,t,rfl⟩:=vals1 r;have hn:=line63;exact len_str (by omega) ⟨.int z.length,H,I.tok _,⟨_,rfl⟩,q⟩
theorem CallR.or {f:Value}{r r':List V->Hp->VK->Prop}(h:CallR X f r) (h':CallR X f r'):CallR X f (λxs H Q=>r xs H Q\/r' xs H Q):=by
 intro pins s Z H xs us Q I rs q;rcases q with q|q
 ·exact h pins s Z H xs us Q I rs q
 ·exact h' pins s Z H xs us Q I rs q
theorem Zi3:CallR X (.type "list") (λxs H Q=>∃p ys,xs=[.ref p]/\(SqL X.K H p ys\/SqT X.K H p ys)/\∀l,H l=none->Q (.ref l) (upd H l (.lst ys))):=by
 intro pins s Z H xs us Q I r h;obtain⟨p,ys,rfl,hq,q⟩:=h;obtain⟨u,rfl,rx⟩:=vals1 r;cases rx;have fin:∀(its:List Value),Vals ys its->ys.length<=sizeLine->∀(h':Heap) (c':Nat),(∀b o',s.heap.get? b=some o' -> h'.get? b=some o') ->
   h'.get? s.heap.objs.size=some { cls:=.type "list",dict:=none,data:=.seq its.toArray c',slots:=#[] } -> EP X pins Z Q (.ref s.heap.objs.size) { s with heap:=h' }:=λits r' hz h' c' kp e=>
  ⟨.ref s.heap.objs.size,_,I.laid (t':=s.toks) kp (Waj _) (show ObjOk X.prog X.w _ h' _ (.lst ys) from ⟨hz,its,c',r',e⟩),rfl,q _<|I.hok.fresh<|Waj _⟩
 rcases hq with hq|hq
 ·obtain⟨its,r',pl,hz⟩:=I.list hq
  have hlen:=r'.length;obtain⟨o,ho,hc,n,hd⟩:=pl.isList;exact call_list_seq p (.inl rfl) ho hc hd (λh' c' kp e=>fin its r' hz h' c' kp e) (by simp only[Wae] <;> omega)
 ·obtain⟨its,r',pl,hz⟩:=I.tuple hq
  have hlen:=r'.length;obtain⟨o,ho,hc,n,hd⟩:=pl;exact call_list_seq p (.inr rfl) ho hc hd (λh' c' kp e=>fin its r' hz h' c' kp e) (by simp only[Wae] <;> omega)
theorem Zh5:CallR X (.type "tuple") (λxs H Q=>∃p ys,xs=[.ref p]/\((SqL X.K H p ys/\∀l,H l=none->Q (.ref l) (upd H l (.tup ys)))\/(SqT X.K H p ys/\Q (.ref p) H))):=by
 intro pins s Z H xs us Q I r h;obtain⟨p,ys,rfl,h⟩:=h;obtain⟨u,rfl,rx⟩:=vals1 r;cases rx;rcases h with ⟨hq,q⟩|⟨hq,q⟩
 ·obtain⟨its,r',pl,hz⟩:=I.list hq
  have hlen:=r'.length;refine call_tuple_list pl.isList (λh' kp=>?_) (by simp only[Wae] <;> omega)
  have I1:Inv X pins Z H { s with heap:=h' }:=I.kept (t':=s.toks) kp;have I2:Inv X pins Z (upd H h'.objs.size (.tup ys)) { s with heap:=h'.push { cls:=.type "tuple",data:=.seq its.toArray } }:=
   I1.laid (t':=s.toks) (λb o e=>Wac _ e) (Waj _) (show ObjOk X.prog X.w _ _ _ (.tup ys) from ⟨hz,its,r',IsTupN.new _ _⟩)
  exact⟨.ref h'.objs.size,_,I2,rfl,q _<|I1.hok.fresh<|Waj _⟩
 ·obtain⟨its,r',pl,hz⟩:=I.tuple hq
  exact call_tuple_same pl ⟨.ref p,H,I,rfl,q⟩
def tyV (K:W.Frag) (T:String) (x:V) (H:Hp):Prop:=match x with
 |.str _=>T = "str"
 |.int _=>T = "int"
 |.ref p=>(T = "list" /\ ∃xs,SqL K H p xs)\/(T = "tuple" /\ ((∃o,K.lookup p=some o/\o.cls=.type "tuple" /\ o.dict=none)\/∃xs,H p=some (.tup xs))) \/
   (T = "dict" /\ ((∃kvs,H p=some (.dK kvs))\/∃kvs,H p=some (.dT kvs)))\/(T = "set" /\ ∃S n,H p=some (.set S n))
 |_=>False
theorem Zwj {pins:Qbz}{Z:St}{H:Hp}{s:Shared}{T:String}{x:V}{v:Value}(I:Inv X pins Z H s) (r:RelV x v) (ty:tyV X.K T x H) :
  s.TypeIs v T/\∀a,v=.ref a->∃ob,s.heap.get? a=some ob/\ob.dict=none:=by
 cases x with
 |str z=>
  obtain⟨t,rfl⟩:=r;cases (show T = "str" from ty);exact⟨typeIs_str s z t,λ_ e=>nomatch e⟩
 |int i=>
  obtain⟨t,rfl⟩:=r;cases (show T = "int" from ty);exact⟨typeIs_int s i t,λ_ e=>nomatch e⟩
 |ref p=>
  cases r;rcases ty with ⟨rfl,xs,hq⟩|⟨rfl,(⟨o,hk,hc,hd⟩|⟨xs,hk⟩)⟩|⟨rfl,hk⟩|⟨rfl,S,n,hk⟩
  ·obtain⟨its,_,pl,_⟩:=I.list hq
   refine⟨pl.isList.typeIs,λa e=>?_⟩;cases e;obtain⟨o,n,e,c,hd,_⟩:=pl;exact⟨o,e,hd⟩
  ·refine⟨⟨o,I.kIn p o hk,hc⟩,λa e=>?_⟩
   cases e;exact⟨o,I.kIn _ o hk,hd⟩
  ·obtain⟨_,_,_,o,e,⟨hc,_⟩,hd⟩:=I.hok p _ hk
   refine⟨⟨o,e,hc⟩,λa e2=>?_⟩;cases e2;exact⟨o,e,hd⟩
  ·have z:∃o,s.heap.get? p=some o/\o.ExactDict:=by
    rcases hk with ⟨kvs,hk⟩|⟨kvs,hk⟩
    ·obtain⟨_,_,_,_,o,_,_,e,ex,_⟩:=I.hok p _ hk
     exact⟨o,e,ex⟩
    ·obtain⟨_,_,_,_,o,_,_,e,ex,_⟩:=I.hok p _ hk
     exact⟨o,e,ex⟩
   obtain⟨o,e,ex⟩:=z;refine⟨⟨o,e,ex.1⟩,λa e2=>?_⟩;cases e2;exact⟨o,e,ex.2.1⟩
  ·obtain⟨o,_,_,_,e,ex,_⟩:=I.hok p _ hk
   refine⟨⟨o,e,ex.1⟩,λa e2=>?_⟩;cases e2;exact⟨o,e,ex.2.1⟩
 |_=>exact False.elim ty
def tBM (K:W.Frag) (T:String) (r:V->List V->Hp->VK->Prop) (to:TE) (t:TA):TE:=λZ H Q=>to Z H λx H1=>tyV K T x H1/\t Z H1 λxs H2=>r x xs H2 Q
variable {o e:Expr}{es:List Expr}{to:TE}{t:TA}{name:Str}{apos cpos:Pos}{T id:String}{r:V->List V->Hp->VK->Prop}
theorem Zxq (pa:PlainAttrs T) (slot:Slot T name id) (hty:typeOf (.builtin id)=pure (.type "method_descriptor")) (hm:MtR X id r) (ho:PE X o to) (ha:PA X (e::es) t)
  (hbase:attributeBase o name X.env (eval o X.env)=eval o X.env:=by rfl)
  (hfew:((backTo cpos (starEach (e::es) X.env)).all (λx=>!x.1) && (backToKw cpos (keywordEach [] X.env)).all (λx=>x.1.isSome)
   && decide ((e::es).length+([]:List Keyword).length+(if ([]:List Keyword).isEmpty then 0 else 1)<30))=true:=by rfl)
  (hline:(apos.endLine == cpos.line)=true:=by rfl) (hs:starEach (e::es) X.env=(false,eval e X.env)::starEach es X.env:=by rfl) (hplain:(backTo cpos<|starEach es X.env).any (·.1)=false:=by rfl) :
  PE X (.Call (.Attribute o name apos) (e::es) [] cpos) (tBM X.K T r to t):=by
 intro pins s Z H Q I h;refine wpAny_Call_method_late hbase hfew hline rfl (thn (ho pins s Z H _ I h) λv s1 ⟨x,H1,I1,r1,ty,q1⟩=>?_);obtain⟨h1,h2⟩:=Zwj I1 r1 ty;refine⟨T,id,pa,slot,hty,h1,h2,?_⟩;have hA:=ha cpos pins s1 Z H1 _ I1 q1;rw[hs]at hA ⊢;refine Calls.callWith_builtin (by show (false || (backTo cpos<|starEach es X.env).any (·.1))=false;rw[hplain] <;> rfl)<|Calls.evalArgs_plain ?_
 exact thn hA λus s2 ⟨vs,H2,I2,r2,q2⟩=>hm pins s2 Z H2 x vs v us Q I2 r1 r2 q2
end
def MtM (X:Cx) (id:String) (r:V->List V->Hp->VK->Prop):Prop:=
 ∀(pins:Qbz) (s:Shared) (Z:St) (H:Hp) (x:V) (xs:List V) (v:Value) (us:List Value) (Q:VK),Inv X pins Z H s->RelV x v->Vals xs us->r x xs H Q ->
  wpAny (model X.prog X.w) X.A (call (.builtin id) (v::us)) (EP X pins Z Q) X.xe s
theorem Vals.one:∀{x:V}{us:List Value},Vals [x] us->∃u,us=[u]/\RelV x u:=by
 intro x us h;cases h with|cons r t=>cases t;exact⟨_,rfl,r⟩
theorem Vals.two:∀{x y:V}{us:List Value},Vals [x,y] us->∃u v,us=[u,v]/\RelV x u/\RelV y v:=by
 intro x y us h;cases h with|cons r t=>cases t with|cons q t=>cases t;exact⟨_,_,rfl,r,q⟩
theorem Vals.eraseIdx:∀{xs:List V}{us:List Value}(i:Nat),Vals xs us->Vals (xs.eraseIdx i) (us.eraseIdx i)
 |_,_,_,.nil=>.nil
 |_,_,0,.cons _ t=>t
 |_,_,i+1,.cons r t=>.cons r (Vals.eraseIdx i t)
theorem Zi5 {α:Type}:∀(l:List α) (i:Nat),(l.eraseIdx i).length<=l.length
 |[],_=>Waj _
 |_::_,0=>Wdb _
 |_::r,i+1=>Nat.succ_le_succ (Zi5 r i)
section
variable {X:Cx}{pins:Qbz}{Z:St}{H:Hp}{s:Shared}{l b:Addr}{xs ys zs:List V}
theorem Inv.lset {its its':List Value}{n:Nat}{f:Array Value->Array Value}{t':Nat}(I:Inv X pins Z H s) (hH:H l=some (.lst xs))
  (e:s.heap.get? l=some { cls:=.type "list",data:=.seq its.toArray n }) (hf:f its.toArray=its'.toArray) (hv:Vals ys its') (hz:ys.length<=sizeLine) :
  Inv X pins Z (upd H l (.lst ys)) { s with heap:=s.heap.update l<|Obj.mapSeq f,toks:=t' }:=by
 have q:=PySem.IsL.update e f;rw[hf]at q;refine I.write (x:=l) (e:=l) (by rw[hH];exact trivial) (.inl rfl) (λb' u hb hu=>(Wba s.heap (Obj.mapSeq f)<|Ne.symm hb).trans hu) ⟨_,q⟩ ?_;exact⟨hz,its',_,hv,q⟩
theorem Inv.lnew {its:List Value}{t':Nat}(I:Inv X pins Z H s) (hv:Vals ys its) (hz:ys.length<=sizeLine) :
  Inv X pins Z (upd H s.heap.objs.size (.lst ys)) { s with heap:=s.heap.push { cls:=.type "list",data:=.seq its.toArray },toks:=t' }:=
 I.laid (λ_ _ q=>Wac _ q) (Waj _) ⟨hz,its,0,hv,Wam _ rfl⟩
theorem Inv.fresh (I:Inv X pins Z H s):H s.heap.objs.size=none:=I.hok.fresh<|Waj _
theorem Inv.lstM (I:Inv X pins Z H s) (hH:H l=some (.lst xs)):xs.length<=sizeLine/\∃(its:List Value) (n:Nat),Vals xs its/\xs.length=its.length/\s.heap.get? l=some { cls:=.type "list",data:=.seq its.toArray n }:=by
 obtain⟨z,its,n,r,e⟩:=I.hok l _ hH;exact⟨z,its,n,r,r.length,e⟩
end
section
variable {X:Cx}
def rAppend:V->List V->Hp->VK->Prop:=λx vs H Q=>∃l xs y,x=.ref l/\vs=[y]/\H l=some (.lst xs)/\xs.length<sizeLine/\Q .non (upd H l (.lst<|xs++[y]))
theorem Zce:MtM X "list.append" rAppend:=by
 intro pins s Z H x vs v us Q I rx rv h;obtain⟨l,xs,y,rfl,rfl,hH,hz,q⟩:=h;cases rx;obtain⟨u,rfl,ru⟩:=rv.one;obtain⟨z,its,n,r,hl,e⟩:=I.lstM hH;refine call_meets F.slot_list_append ⟨_,e,rfl⟩ F.entry_list_append (F.args_list_append_2 _ _) (PySem.list_append l its.toArray n u (by rw[Wae];omega)) ⟨e,?_⟩;refine⟨.non,_,I.lset (its':=its++[u]) hH e (by simp) (r.append (.cons ru .nil)) ?_,rfl,q⟩;rw[Wal,Wbo];omega
def rPopAt:V->List V->Hp->VK->Prop:=λx vs H Q=>∃l xs i k y,x=.ref l/\vs=[.int i]/\H l=some (.lst xs) /\ -(2 ^ 63)<=i/\i<2 ^ 63/\seqIndex? i xs.length=some k/\xs[k]?=some y/\Q y (upd H l (.lst<|xs.eraseIdx k))
theorem Zkz:MtM X "list.pop" rPopAt:=by
 intro pins s Z H x vs v us Q I rx rv h;obtain⟨l,xs,i,k,y,rfl,rfl,hH,h1,h2,hk,hy,q⟩:=h;cases rx;obtain⟨u,rfl,ru⟩:=rv.one;obtain⟨t,rfl⟩:=ru;obtain⟨z,its,n,r,hl,e⟩:=I.lstM hH;obtain⟨w,hw,rw'⟩:=r.get hy;refine call_meets F.slot_list_pop ⟨_,e,rfl⟩ F.entry_list_pop (F.args_list_pop_2 _ _)
  (MeetsSeq.list_pop_at l its.toArray n i t k w (fitsIndex_both h1 h2) (by rw[Wae,<- hl];exact hk) (by rw[<- Array.getElem?_toList];exact hw) (by rw[Wae];omega)) ⟨e,?_⟩
 refine⟨y,_,I.lset (its':=its.eraseIdx k) hH e ?_ (r.eraseIdx k) ?_,rw',q⟩
 ·show its.toArray.eraseIdxIfInBounds k=(its.eraseIdx k).toArray
  rw[List.eraseIdxIfInBounds_toArray]
 ·have:=Zi5 xs k
  omega
def rCat:R2:=λx y H Q=>∃l b xs zs,x=.ref l/\y=.ref b/\H l=some (.lst xs)/\H b=some (.lst zs)/\xs.length+zs.length<=sizeLine/\∀p,H p=none->Q (.ref p) (upd H p (.lst<|xs++zs))
theorem Zw2:OpR X (binaryOp .Add) rCat:=by
 intro pins s Z H x y v u Q I rx ry h;obtain⟨l,b,xs,zs,rfl,rfl,hH,hB,hz,q⟩:=h;cases rx;cases ry;obtain⟨z,its,n,r,hl,e⟩:=I.lstM hH;obtain⟨z2,its2,n2,r2,hl2,e2⟩:=I.lstM hB;refine PySem.P.add_list e e2 ?_ (by rw[Wae,Wae];omega);have ea:its.toArray++its2.toArray=(its++its2).toArray:=by simp
 rw[ea];exact⟨.ref _,_,I.lnew (t':=s.toks) (r.append r2) (by rw[Wal];omega),rfl,q _ I.fresh⟩
end
end L2
namespace Att
open PySem PySem.W PySem.Calls PyProof.Rows
theorem Zf4 {P:Params}{h:Heap}:∀(ns:List Int) (vs:List Value),WellAll P h vs (ns.map WData.int)->IntsAre vs ns:=by
 intro ns
 induction ns with
 |nil=>
  intro vs w;rw[Wdf]at w;cases w;exact .nil
 |cons n ns ih=>
  intro vs w;rw[Wa3]at w;cases w with
  |cons a b=>
   cases a;exact .cons _ _<|ih _ b
theorem Zm6 {l:OpenLaw}{n:Nat}(hn:l.most=some n) {P:Params}{h:Heap}{args:List WData}{vals:List Value}
  (hpre:l.row.toRowW.claim.pre args=true) (hwl:WellAll P h vals args) :
  ∃a vs ns,vals=[Value.ref a]/\args=[WData.list (ns.map WData.int)]/\h.get? a=some { cls:=.type "list",data:=.seq vs.toArray } /\ IntsAre vs ns/\ns.length<=n:=by
 have hsh:WShape.hasAll [] args [.list .int]=true:=(pre_splitW hpre).1;have hc:l.pre.holds [] { args:=args } = true:=(pre_splitW hpre).2;obtain⟨d,r,rfl,h1,h2⟩:=hasAllW_cons hsh;obtain rfl:=hasAllW_nil h2;obtain⟨xs,rfl,h3⟩:=hasW_list h1;obtain⟨ns,rfl⟩:=items_int h3;have hlen:ns.length<=n:=by
  unfold OpenLaw.pre at hc;have h4:(WTm.not (.lt (.lit (.int (n:Int))) (.len (.arg 0)))).holds [] { args:=[.list (ns.map .int)] } = true:=by
   have h4:=(holds_andW hc).1;rw[hn]at h4;exact h4
  have h5:=condW_of h4<|w_not<|w_lt w_lit<|w_len_list<|w_arg rfl;rw[Waa]at h5;refine Nat.le_of_not_lt λq=>?_;have q':(n:Int)<((ns.length:Nat):Int):=by omega
  first
   | (rw[Qbx q']at h5;exact absurd h5 (by decide))
   | (simp at h5;omega)
 cases hwl with
 |cons w1 w2=>
  cases w2;cases w1 with
  |list ho hall=>exact⟨_,_,ns,rfl,rfl,ho,Zf4 ns _ hall,hlen⟩
theorem Znj (l:OpenLaw) (args:List WData):l.row.toRowW.claim.post args (.bool true) args=true:=
 postW_of (r:=l.row.toRowW) (X:=(true == true))
  (show WShape.has [] (.bool true) .bool=true by first|rfl|decide|simp[WShape.has,WShape.arms,WShape.armsAll])
  (show (WTm.eq .res (.lit (.bool true))).value [] { args:=args,res:=some (.bool true),after:=args } = some (.bool (true == true)) from w_eq_bool (w_res rfl) w_lit) rfl
theorem attach_call {l:OpenLaw}{n:Nat}{q:Program}{loose:List Str}{XP:(Str->Option Value)->Heap->Prop}{YP:World->Heap->Prop}{d:DefRec}
  (hn:l.most=some n) (hdf:d.params.defaults=[])
  (call:∀(w:World) (s₀ s₁:Shared) (mg mb:Str->Option Value) (fa:Addr) (o:Obj) (pm cd doc:Value) (a:Addr) (vs:List Value) (ns:List Int),
   Ground q loose [] XP w s₀ mg mb s₁.heap->YP w s₁.heap ->
   s₁.heap.get? fa=some o->o.data=.func (docDef d.name d.params d.body d.scope pm cd doc)->s₁.heap.CodeRec cd d.name->mg d.name=some (.ref fa) ->
   s₁.heap.get? a=some { cls:=.type "list",data:=.seq vs.toArray } -> IntsAre vs ns->ns.length<=n->s₁.gens = #[] ->
   codeAny (model l.prog w) callerA (.call (.ref fa) ⟨[.ref a],[]⟩) (λr s'=>r=.ok (.ret (.bool true))/\OldK s₁.heap s'.heap/\s'.os=s₁.os/\AllBare s'.gens) s₁) :
  WalkO q loose XP YP l.row.toRowW d [] (λf vs=>PySem.call f vs):=by
 intro w s₀ s₁ mg mb G Y fa o pm cd doc dV kV ho hd hcd hD hmg hg args vals as hpre hlay hrd hwl hlo;obtain rfl:dV=.none:=Dflts.none hD hdf;obtain rfl:kV=.none:=Dflts.noKw hD;obtain⟨a,vs,ns,rfl,rfl,hobj,hints,hlen⟩:=Zm6 hn hpre hwl;refine enter_call (codeAny_mono (call w s₀ s₁ mg mb fa o pm cd doc a vs ns G Y ho (fd_plain hd) hcd hmg hobj hints hlen hg) λr s' hq=>?_);obtain⟨rfl,h2,h3,h4⟩:=hq;exact⟨.inl ⟨.bool true,.bool true,[],rfl,λ_=>rfl,.bool true,Znj l _,λ_=>⟨List.Pairwise.nil,λ_ hm=>(nomatch hm)⟩⟩,h2,h3,h4⟩
section
variable {prog:Program}{w:World}{A:Around}{E:Qb0}{s:Shared}{K:Frag}
def noObjs (h:Heap):Heap:={ h with objs:=#[] }
end
end Att
namespace L2
open PySem PySem.Spec PyProof.Rows
theorem Zee:∀{vs:List Value}{ns:List Int},IntsAre vs ns->Vals (ns.map V.int) vs
 |_,_,.nil=>.nil
 |_,_,.cons n t h=>.cons ⟨t,rfl⟩ (Zee h)
def Only (H:Hp):Prop:=∀b,H b=none\/∃o xs,H b=some (.frz o (.lst xs))
theorem Zq3 {P:Program}{w:World}{K:W.Frag}{mg mb:Str->Option Value}{CX:CXT}{k:Nat}{fa a:Addr}{fd:FuncData}{x:Str}{sp:Sp}{s₁:Shared}{vs:List Value}{ns:List Int}
  (KX:K.In s₁.heap) (hns:s₁.heap.Ns mainGlobals mg) (hb:s₁.heap.Ns builtinsNs mb) (hbb:∀x:Str,x ≠ "__name__" -> mb x=bootBuiltins x) (hlim:s₁.heap.NoLimit) (hg:s₁.gens = #[])
  (ha:s₁.heap.get? a=some { cls:=.type "list",data:=.seq vs.toArray }) (hi:IntsAre vs ns) (hl:ns.length<=sizeLine) (hr:Room k callerA)
  (F:∀base:Heap,K.In base->base.Ns mainGlobals mg->FnOk P w K mg base CX k fa fd [x] sp) (hbind:∀(s:Shared) (u:Value),BindsTo s fd ⟨[u],[]⟩ [(x,u)])
  (hsp:∀H:Hp,Only H->SqL K H a (ns.map V.int)->sp [.ref a] H (λv _=>v=.bl true) λ_ _ _=>False)
  (hCX:∀H e s',CX [] H s₁ (λ_ _ _=>False) e s' -> False) :
  codeAny (model P w) callerA (.call (.ref fa) ⟨[.ref a],[]⟩) (λr s'=>r=.ok (.ret (.bool true))/\OldK s₁.heap s'.heap/\s'.os=s₁.os/\AllBare s'.gens) s₁:=by
 have rv:=Zee hi;have lenV:=hi.length
 -- from an abstract heap in which nothing but the script may be tracked
 have core:∀H:Hp,Only H->SqL K H a (ns.map V.int)->HOk P w H s₁.heap->(∀b,H b≠none->b=a)->(H a≠none->K.lookup a=none) ->
   codeAny (model P w) callerA (.call (.ref fa) ⟨[.ref a],[]⟩) (λr s'=>r=.ok (.ret (.bool true))/\OldK s₁.heap s'.heap/\s'.os=s₁.os/\AllBare s'.gens) s₁:=by
  intro H hO hS hok hA hK;have base_of:∀{b:Addr}{o:Obj},s₁.heap.get? b=some o->H b=none->(hidT s₁.heap H).get? b=some o:=λe n=>Zq1 e n;have noA:∀{b:Addr}{o:Obj}{es:Array DictEntry}{ep:Nat},s₁.heap.get? b=some o->o.data=.dict es ep->H b=none:=λ{b o es ep} e d=>by
   cases q:H b with
   |none=>rfl
   |some u=>
    have e':b=a:=hA b (by rw[q];simp);subst e';rw[ha]at e;cases e;have d':Data.seq vs.toArray _=Data.dict es ep:=d;cases d'
  have nsK:∀{b:Addr}{m:Str->Option Value},s₁.heap.Ns b m->(hidT s₁.heap H).Ns b m:=λ{b m} ⟨o,es,ep,e,d,r⟩=>⟨o,es,ep,base_of e (noA e d),d,r⟩;have hKb:K.In (hidT s₁.heap H):=λb o e=>base_of (KX b o e) (by
   cases q:H b with
   |none=>rfl
   |some u=>
    have e':b=a:=hA b (by rw[q];simp);subst e';rw[hK (by rw[q];simp)]at e;cases e)
  have hM:Mod K mg (hidT s₁.heap H):=⟨hKb,nsK hns,⟨mb,nsK hb,hbb⟩,let ⟨mc,h1,h2⟩:=hlim; ⟨mc,nsK h1,h2⟩⟩;have e0:Env0 P w K mg (hidT s₁.heap H) callerA [] s₁ H:=⟨rfl,hM,λb o e=>Zt0 e,Nat.le_of_eq<|Zn7 _ _,trivial,λb hb=>absurd (show b∈([]:List Addr) from hb) (by simp),hok,.of_eq hg⟩;refine codeAny_mono ((F _ hKb<|nsK hns).run callerA [] s₁ H ⟨[.ref a],[]⟩ [.ref a] [.ref a] _ _ hr e0 (hbind s₁ (.ref a)) (.cons rfl .nil) (hsp H hO hS)) λr s' h=>?_;cases r with
  |error e=>exact(hCX H e s' h).elim
  |ok fl=>
   cases fl with
   |next=>exact False.elim h
   |brk=>exact False.elim h
   |cont=>exact False.elim h
   |ret u=>
    obtain⟨v,H',os,bare,un,hok',r',q⟩:=h;have q':v=.bl true:=q;subst q';obtain rfl:u=Value.bool true:=r';refine⟨rfl,OldK.of_keep λb o e=>?_,os,bare⟩;cases q:H b with
    |none=>exact un.keep b o e q (by intro z;exact absurd (show b∈([]:List Addr) from z) (by simp)) (by simp)
    |some u=>
     rcases hO b with z|⟨ob,xs,z⟩
     ·rw[q]at z;cases z
     ·have z2:=un.frzs b ob _ z
      obtain⟨e1,_⟩:=hok b _ z;obtain⟨e2,_⟩:=hok' b _ z2;rw[e]at e1;cases e1;exact e2
 cases hk:K.lookup a with
 |some o=>
  -- the script is one of the module's own objects
  have e:=KX a o hk;rw[ha]at e;cases e;refine core (λ_=>none) (λ_=>.inl rfl) (.inr ⟨_,vs.toArray,_,hk,rfl,rfl,rfl,by rw[Wae,lenV];exact hl,by simpa using rv⟩) (λb u z=>by have z':(none:Option HO)=some u:=z;cases z') (λb z=>absurd rfl z) λz=>absurd rfl z
 |none=>
  refine core (λb=>if b=a then some (.frz { cls:=.type "list",data:=.seq vs.toArray } (.lst<|ns.map V.int)) else none) (λb=>?_) (.inl (.inr ⟨{ cls:=.type "list",data:=.seq vs.toArray },Qbw rfl⟩)) (λb u z=>?_) (λb z=>?_) λ_=>hk
  ·by_cases hb:b=a
   ·exact .inr ⟨_,_,Qbw hb⟩
   ·exact .inl<|Qbv hb
  ·by_cases hb:b=a
   ·have z':=(Qbw hb).symm.trans z
    cases z';subst hb;exact⟨ha,by rw[Waa];exact hl,vs,_,rv,ha⟩
   ·have z':=(Qbv hb).symm.trans z
    cases z'
  ·by_cases hb:b=a
   ·exact hb
   ·exact absurd (Qbv hb) z
theorem walk_of {l:PySem.W.OpenLaw}{n k:Nat}{q:Program}{loose:List Str}{XP:(Str->Option Value)->Heap->Prop}{YP:World->Heap->Prop}{d:DefRec}{K:Params->W.Frag}{CX:World->CXT}{sp:World->Sp}{x:Str}
  (hn:l.most=some n) (hn2:n<=sizeLine) (hdf:d.params.defaults=[]) (hr:Room k callerA)
  (hY:∀(w:World) (h:Heap),YP w h->(K w.params).In h)
  (F:∀(w:World) (mg:Str->Option Value) (fa:Addr) (h:Heap),(K w.params).In h->h.Ns mainGlobals mg->mg d.name=some (.ref fa) ->
   ∃fd:FuncData,(∀(s:Shared) (u:Value),BindsTo s fd ⟨[u],[]⟩ [(x,u)]) /\
    ∀base:Heap,(K w.params).In base->base.Ns mainGlobals mg->FnOk l.prog w (K w.params) mg base (CX w) k fa fd [x] (sp w))
  (hsp:∀(w:World) (H:Hp) (a:Addr) (ns:List Int),ns.length<=n->Only H->SqL (K w.params) H a (ns.map V.int)->sp w [.ref a] H (λv _=>v=.bl true) λ_ _ _=>False)
  (hCX:∀(w:World) (H:Hp) (s:Shared) (e:Value) (s':Shared),CX w [] H s (λ_ _ _=>False) e s' -> False) :
  PySem.W.WalkO q loose XP YP l.row.toRowW d [] (λf vs=>PySem.call f vs):=by
 refine Att.attach_call hn hdf λw s₀ s₁ mg mb fa o pm cd doc a vs ns G Y ho hd hcd hmg hobj hints hlen hg=>?_;have KX:=hY w _ Y;obtain⟨fd,hb,hF⟩:=F w mg fa _ KX G.T.g hmg;exact Zq3 KX G.T.g G.T.b G.T.builtins G.T.nolimit hg hobj hints (Way hlen hn2) hr hF hb (λH hO hS=>hsp w H a ns hlen hO hS) λH e s'=>hCX w H s₁ e s'
def defArgs (s:Stmt):Arguments:=match s with
 |.FunctionDef _ a _ _ _ _ _ _ _ _=>a
 |_=>{ posonlyargs:=[],args:=[],vararg:=none,kwonlyargs:=[],kw_defaults:=[],kwarg:=none,defaults:=[] }
def defBody (s:Stmt):List Stmt:=match s with
 |.FunctionDef _ _ b _ _ _ _ _ _ _=>b
 |_=>[]
def defScope (s:Stmt):Scope:=match s with
 |.FunctionDef _ _ _ _ _ _ sc _ _ _=>sc
 |_=>{ kind:=.function,names:=[],isGenerator:=false,isCoroutine:=false }
abbrev CX0:CXT:=λ_ _ _ _ _ _=>False
abbrev E0:XK:=λ_ _ _=>False
theorem pass0 {X:Cx}:Passes CX0 X E0:=λ_ _ _ _ _ _ _ h=>h.elim
structure Fun (K:W.Frag) (x qual:Str) (st:Stmt) (f:Addr) (fd:FuncData):Prop where
 ex:∃(oc:Value) (od:Option Addr) (kV doc pm:Value) (an:Option Addr) (cdv ct:Value) (osl:Array (Option Value)),
  fd=W.fnOf x qual (defArgs st) (defBody st) (defScope st) .none kV doc pm an cdv ct/\K.lookup f=some ⟨oc,od,.func fd,osl⟩ /\ W.codeIn K cdv qual=true
 kp:W.keepIn K (.ref f)=true
section
variable {P:Program}{w:World}{K:W.Frag}{mg:Str->Option Value}{base:Heap}
theorem Fun.ok {x qual:Str}{st:Stmt}{f:Addr}{fd:FuncData}{N ps:List Str}{k:Nat}{sp:Sp}(F:Fun K x qual st f fd) (S:FnScope N ps (defScope st)) (len:∀vs H Q E,sp vs H Q E->vs.length=ps.length)
  (hbody:∀(cdv:Value) (A:Around) (outer:List Env) (s:Shared) (H:Hp) (vs:List V) (Q:VK) (E:XK),Room k (A.deeper (envOfC qual (defScope st) s.heap.objs.size f cdv))->sp vs H Q E ->
   ∃t,PSs (cxOf CX0 P w K mg base N qual (defScope st) f cdv A outer s H E).nox (defBody st) t/\t { nx:=λ_ H'=>Q .non H',rt:=Q } (start N vs) H):FnOk P w K mg base CX0 (k+1) f fd ps sp:=by
 obtain⟨oc,od,kV,doc,pm,an,cdv,ct,osl,rfl,lk,hcd⟩:=F.ex;refine Zut lk hcd S len λA outer s H vs Q E hr hsp=>?_;obtain⟨t,h,q⟩:=hbody cdv A outer s H vs Q E hr hsp;exact⟨t,h.nox,q⟩
theorem Fun.binds {x qual:Str}{st:Stmt}{f:Addr}{fd:FuncData}{ps:List Str}(F:Fun K x qual st f fd)
  (h:∀(kV doc pm:Value) (an:Option Addr) (cdv ct:Value) (us:List Value),us.length=ps.length->bindArgs (W.fnOf x qual (defArgs st) (defBody st) (defScope st) .none kV doc pm an cdv ct) ⟨us,[]⟩=pure (ps.zip us)):Binds K fd ps []:=by
 obtain⟨oc,od,kV,doc,pm,an,cdv,ct,osl,rfl,lk,hcd⟩:=F.ex;exact .all<|h kV doc pm an cdv ct
theorem Zr4 {x qual:Str}{st:Stmt}{f:Addr}{oc:Value}{od an:Option Addr}{osl:Array (Option Value)}{kV doc pm cdv ct:Value}(l:K.lookup f=some ⟨oc,od,.func<|W.fnOf x qual (defArgs st) (defBody st) (defScope st) .none kV doc pm an cdv ct,osl⟩)
  (c:W.codeIn K cdv qual=true) (k:W.keepIn K (.ref f)=true):Fun K x qual st f (W.fnOf x qual (defArgs st) (defBody st) (defScope st) .none kV doc pm an cdv ct):=⟨⟨oc,od,kV,doc,pm,an,cdv,ct,osl,rfl,l,c⟩,k⟩
end
theorem Zb1 {A:Around}{k:Nat}(hr:Room k A):A.units+1<cLine:=Wcd (Wdl (by decide:1<=64) _) hr.units
theorem small1000 {n:Nat}(h:n<=1000):n<sizeLine:=Wcd h (by decide)
section
variable {X:Cx}
theorem pv (i:Nat) {x:Str}{pos:Pos}(hN:X.N[i]?=some x:=by rfl) (hv:Vis X.env.scope x:=by first|exact Or.inl rfl|exact Or.inr (Or.inl rfl)|exact Or.inr<|Or.inr rfl) (hd:(x == ("__debug__":Str))=false:=by decide)
  (hcd:(x == ("__classdict__":Str))=false:=by decide):PE X (.Name x pos) (tVar i):=Zv1 hN hv hd hcd
end
theorem iteF {A B:Prop}(h:B):if false=true then A else B:=by
 rw[Qbv Wao];exact h
theorem iteT {A B:Prop}(h:A):if true=true then A else B:=by
 rw[Qbw rfl];exact h
theorem ite2 {c A B:Prop}[Decidable c] (h1:c->A) (h2:¬ c->B):if c then A else B:=by
 by_cases h:c
 ·rw[Qbw h]
  exact h1 h
 ·rw[Qbv h]
  exact h2 h
def Same (H H':Hp):Prop:=∀b o,H b=some o->H' b=some o
theorem Same.refl (H:Hp):Same H H:=λ_ _ h=>h
theorem Same.trans {H H1 H2:Hp}(a:Same H H1) (b:Same H1 H2):Same H H2:=λc o h=>b c o<|a c o h
theorem Same.seq {K:W.Frag}{H H':Hp}{a:Addr}{xs:List V}(e:Same H H') (h:SqL K H a xs):SqL K H' a xs:=by
 rcases h with (h|⟨o,h⟩)|h
 ·exact .inl (.inl<|e _ _ h)
 ·exact .inl (.inr ⟨o,e _ _ h⟩)
 ·exact .inr h
section
variable {κ:Type}[DecidableEq κ]
def valV (kvs:List (κ × V)) (k:κ):Option V:=(kvs.find? λkv=>decide (kv.1=k)).map (·.2)
def putK (kvs:List (κ × V)) (k:κ) (v:V):List (κ × V):=
 if (kvs.any λkv=>decide (kv.1=k))=true then kvs.map (λkv=>if kv.1=k then (kv.1,v) else kv) else kvs++[(k,v)]
theorem Zff {p:κ × V}{r:List (κ × V)}{k:κ}(e:p.1=k):valV (p::r) k=some p.2:=by simp[valV,Wca,e]
theorem Zfe {p:κ × V}{r:List (κ × V)}{k:κ}(e:¬ p.1=k):valV (p::r) k=valV r k:=by simp[valV,Wca,e]
theorem Zki (k:κ):∀kvs:List (κ × V),(kvs.any λkv=>decide (kv.1=k))=(valV kvs k).isSome
 |[]=>rfl
 |p::r=>by
  rw[Wcc];by_cases e:p.1=k
  ·simp only[Zff e,Qbx e,Bool.true_or,Option.isSome_some]
  ·rw[Zfe e,Qby e,Bool.false_or];exact Zki k r
theorem Zgc (kvs:List (κ × V)) (k:κ) (v:V):(putK kvs k v).length<=kvs.length+1:=by
 unfold putK;split
 ·rw[Waa];omega
 ·rw[Wal,Wag,List.length_nil];omega
theorem RelO.isSome_eq {o:Option V}{u:Option Value}(r:RelO o u):o.isSome=u.isSome:=by
 cases o with
 |none=>cases u with
  |none=>rfl
  |some _=>exact(show False from r).elim
 |some _=>cases u with
  |none=>exact(show False from r).elim
  |some _=>rfl
theorem RelO.getD {o:Option V}{u:Option Value}{d:V}{d':Value}(r:RelO o u) (rd:RelV d d'):RelV (o.getD d) (u.getD d'):=by
 cases o with
 |none=>cases u with
  |none=>exact rd
  |some _=>exact(show False from r).elim
 |some _=>cases u with
  |none=>exact(show False from r).elim
  |some _=>exact r
theorem KV.val {kvs:List (κ × V)}{vs:List (κ × Value)}(r:KV kvs vs) (k:κ):RelO (valV kvs k) (valueAt vs k):=by
 unfold KV at r
 induction r with
 |nil=>exact True.intro
 |@cons p q ps qs h t ih=>
  obtain⟨h1,h2⟩:=h;by_cases e:p.1=k
  ·have e':q.1=k:=h1.symm.trans e
   have b:valueAt (q::qs) k=some q.2:=by simp[valueAt,Wca,e']
   rw[Zff e,b];exact h2
  ·have e':¬ q.1=k:=λz=>e (h1.trans z)
   have b:valueAt (q::qs) k=valueAt qs k:=by simp[valueAt,Wca,e']
   rw[Zfe e,b];exact ih
theorem KV.any {kvs:List (κ × V)}{vs:List (κ × Value)}(r:KV kvs vs) (k:κ):(kvs.any λkv=>decide (kv.1=k))=vs.any λkv=>decide (kv.1=k):=by
 unfold KV at r
 induction r with
 |nil=>rfl
 |cons h t ih=>rw[Wcc,Wcc,ih,h.1]
theorem KV.repl {kvs:List (κ × V)}{vs:List (κ × Value)}(r:KV kvs vs) (k:κ) {y:V}{u:Value}(ry:RelV y u) :
  KV (kvs.map λkv=>if kv.1=k then (kv.1,y) else kv) (vs.map λkv=>if kv.1=k then (kv.1,u) else kv):=by
 unfold KV at r ⊢
 induction r with
 |nil=>exact .nil
 |@cons p q ps qs h t ih=>
  rw[Wa3,Wa3];refine .cons ?_ ih;obtain⟨h1,h2⟩:=h;by_cases e:p.1=k
  ·rw[Qbw e,Qbw (h1.symm.trans e)];exact⟨h1,ry⟩
  ·rw[Qbv e,Qbv (λz=>e<|h1.trans z)];exact⟨h1,h2⟩
theorem KV.put {kvs:List (κ × V)}{vs:List (κ × Value)}(r:KV kvs vs) (k:κ) {y:V}{u:Value}(ry:RelV y u):KV (putK kvs k y) (stored vs k u):=by
 unfold putK stored;rw[r.any k];by_cases e:(vs.any λkv=>decide (kv.1=k))=true
 ·rw[Qbw e,Qbw e];exact r.repl k ry
 ·rw[Qbv e,Qbv e];exact Paired.snoc r ⟨rfl,ry⟩
theorem KV.length {kvs:List (κ × V)}{vs:List (κ × Value)}(r:KV kvs vs):kvs.length=vs.length:=Paired.length r
end
theorem Zlg {P:Program}{w:World}{k:Key}{u:Value}(r:RelV (kV k) u):(mixKind P w).is k u=true:=by
 cases k with
 |inl i=>obtain⟨t,e⟩:=(show ∃t,u=Value.int i t from r);subst e;exact Zjg P w i t
 |inr x=>obtain⟨t,e⟩:=(show ∃t,u=Value.str x t from r);subst e;exact Zi7 P w x t
theorem Zi2 {P:Program}{w:World}:∀{ks:List Key}{us:List Value},Vals (ks.map kV) us->ItemsAre (mixKind P w) ks us
 |[],_,r=>by rw[Wdf]at r;cases r;exact .nil
 |k::ks,_,r=>by
  rw[Wa3]at r;cases r with
  |cons h t=>exact .cons (Zlg h) (Zi2 t)
abbrev KT (H:Hp):List (List Key × V)->List (List Key × Addr × Value)->Prop:=Paired λp q=>p.1=q.1/\H q.2.1=some (.tup<|p.1.map kV)/\RelV p.2 q.2.2
theorem KT.val {H:Hp}{kvs:List (List Key × V)}{xs:List (List Key × Addr × Value)}(r:KT H kvs xs) (k:List Key):RelO (valV kvs k) ((atKey xs k).map (·.2)):=by
 induction r with
 |nil=>exact True.intro
 |@cons p q ps qs h t ih=>
  obtain⟨h1,_,h2⟩:=h;by_cases e:p.1=k
  ·have e':q.1=k:=h1.symm.trans e
   have b:atKey (q::qs) k=some q.2:=by simp[atKey,Wca,e']
   rw[Zff e,b];exact h2
  ·have e':¬ q.1=k:=λz=>e (h1.trans z)
   have b:atKey (q::qs) k=atKey qs k:=by simp[atKey,Wca,e']
   rw[Zfe e,b];exact ih
theorem KT.repl {H:Hp}{kvs:List (List Key × V)}{xs:List (List Key × Addr × Value)}(r:KT H kvs xs) (k:List Key) {y:V}{u:Value}(ry:RelV y u) :
  KT H (kvs.map λkv=>if kv.1=k then (kv.1,y) else kv) (xs.map<|putAt k u):=by
 induction r with
 |nil=>exact .nil
 |@cons p q ps qs h t ih=>
  rw[Wa3,Wa3];refine .cons ?_ ih;obtain⟨h1,h2,h3⟩:=h;unfold putAt;by_cases e:p.1=k
  ·rw[Qbw e,Qbw (h1.symm.trans e)];exact⟨h1,h2,ry⟩
  ·rw[Qbv e,Qbv (λz=>e<|h1.trans z)];exact⟨h1,h2,h3⟩
theorem KT.put {H:Hp}{kvs:List (List Key × V)}{xs:List (List Key × Addr × Value)}(r:KT H kvs xs) (k:List Key) {b:Addr}{y:V}{u:Value}(hb:H b=some (.tup<|k.map kV)) (ry:RelV y u) :
  KT H (putK kvs k y) (storedH xs k b u):=by
 have e:(kvs.any λkv=>decide (kv.1=k))=(atKey xs k).isSome:=by
  rw[Zki,(r.val k).isSome_eq,Wdm]
 unfold putK storedH;rw[e];by_cases q:(atKey xs k).isSome=true
 ·rw[Qbw q,Qbw q];exact r.repl k ry
 ·rw[Qbv q,Qbv q];exact Paired.snoc r ⟨rfl,hb,ry⟩
theorem KT.keeps {H H':Hp}{kvs:List (List Key × V)}{xs:List (List Key × Addr × Value)}(r:KT H kvs xs) (ht:∀b ys,H b=some (.tup ys)->H' b=some (.tup ys)):KT H' kvs xs:=
 Paired.mapP r λ_ _ z=>⟨z.1,ht _ _ z.2.1,z.2.2⟩
section
variable {P:Program}{w:World}{H:Hp}{h:Heap}{a:Addr}
theorem Zvt {u:HO}(ok:HOk P w H h) (e:Rd H a u):ObjOk P w H h a u:=e.ok ok
theorem Zjo {kvs:List (Key × V)}(ok:HOk P w H h) (e:Rd H a (.dK kvs)):kvs.length<=sizeLine/\(a == sysModules)=false/\∃vs,KV kvs vs/\h.DictOf (mixKind P w) a vs:=
 show ObjOk P w H h a (.dK kvs) from Zvt ok e
theorem Zxs {kvs:List (Key × V)}(ok:HOk P w H h) (e:H a=some (.dK kvs)):kvs.length<=sizeLine/\(a == sysModules)=false/\∃vs,KV kvs vs/\h.DictOf (mixKind P w) a vs:=Zjo ok (.inl e)
theorem Zg2 {ks:List Key}(ok:HOk P w H h) (e:H a=some (.tup<|ks.map kV)):(tupleKind<|mixKind P w).is h ks a:=by
 obtain⟨_,its,r,o,h1,⟨h2,n,h3⟩,_⟩:=(show ObjOk P w H h a (.tup<|ks.map kV) from ok a _ e);exact⟨o,its.toArray,n,h1,h2,h3,by simpa using Zi2 r⟩
theorem Zlv {kvs:List (List Key × V)}(ok:HOk P w H h) (e:Rd H a (.dT kvs)):kvs.length<=sizeLine/\(a == sysModules)=false /\
  ∃xs,KT H kvs xs/\h.DictOfH (tupleKind<|mixKind P w) a xs:=by
 obtain⟨z,y,xs,r,o,es,ep,h1,h2,h3,h4,h5⟩:=(show ObjOk P w H h a (.dT kvs) from Zvt ok e);refine⟨z,y,xs,r,o,es,ep,h1,h2,h3,h4,λx hx=>?_,h5⟩;have all:∀{l:List (List Key × V)}{m:List (List Key × Addr × Value)},KT H l m->∀x∈m,(tupleKind<|mixKind P w).is h x.1 x.2.1:=by
  intro l m q
  induction q with
  |nil=>intro x hx;exact nomatch hx
  |@cons p q ps qs hq t ih=>
   intro x hx;rcases Wai.mp hx with e|hx
   ·subst e
    exact Zg2 ok (by rw[<- hq.1];exact hq.2.1)
   ·exact ih x hx
 exact all r x hx
theorem Zxn {kvs:List (List Key × V)}(ok:HOk P w H h) (e:H a=some (.dT kvs)):kvs.length<=sizeLine/\(a == sysModules)=false /\
  ∃xs,KT H kvs xs/\h.DictOfH (tupleKind<|mixKind P w) a xs:=Zlv ok (.inl e)
end
def DGet (H:Hp) (a:Addr) (y:V) (r:Option V):Prop:=
 (∃kvs k,Rd H a (.dK kvs)/\y=kV k/\r=valV kvs k)\/∃kvs k b,Rd H a (.dT kvs)/\y=.ref b/\H b=some (.tup<|k.map kV)/\r=valV kvs k
def DPut (H:Hp) (a:Addr) (y v:V) (H':Hp):Prop:=
 (∃kvs k,H a=some (.dK kvs)/\y=kV k/\kvs.length<sizeLine/\H'=upd H a (.dK<|putK kvs k v)) \/
 ∃kvs k b,H a=some (.dT kvs)/\y=.ref b/\H b=some (.tup<|k.map kV)/\kvs.length<sizeLine/\H'=upd H a (.dT<|putK kvs k v)
theorem DGet.k {H:Hp}{a:Addr}{kvs:List (Key × V)}{k:Key}(e:H a=some (.dK kvs)):DGet H a (kV k) (valV kvs k):=.inl ⟨kvs,k,.inl e,rfl,rfl⟩
theorem DPut.k {H:Hp}{a:Addr}{kvs:List (Key × V)}{k:Key}{v:V}(e:H a=some (.dK kvs)) (hl:kvs.length<sizeLine):DPut H a (kV k) v (upd H a (.dK<|putK kvs k v)):=.inl ⟨kvs,k,e,rfl,hl,rfl⟩
section
variable {X:Cx}{pins:Qbz}{Z:St}{H:Hp}{s:Shared}{a:Addr}{y v:V}{u r:Value}{o:Option V}{A:Around}{E:Qb0}
theorem Inv.big (I:Inv X pins Z H s):sysModules<s.heap.objs.size:=by
 have h:mainGlobals<s.heap.objs.size:=(I.mod.glob.keeps I.bk).lt;exact Nat.lt_trans (by decide) h
theorem Zmi {Q:Qb0}(hu:A.units+1<cLine) (I:Inv X pins Z H s) (g:DGet H a y (some v)) (ry:RelV y u) (h:∀w' s',Inv X pins Z H s' -> RelV v w' -> Q w' s') :
  wpAny (model X.prog X.w) A (getItem (.ref a) u) Q E s:=by
 rcases g with ⟨kvs,k,e,ey,l⟩|⟨kvs,k,b,e,ey,eb,l⟩
 ·subst ey
  obtain⟨z,hd,vs,rel,dd⟩:=Zjo I.hok e;obtain⟨w',hw,rw'⟩:=RelO.some_of (v:=v) (o:=valueAt vs k) (by rw[l];exact rel.val k);exact wpAny_getItem_of (Zlg ry) dd.mapOf hw<|h w' _ (I.tok _) rw'
 ·subst ey
  cases (show u=Value.ref b from ry);obtain⟨z,hd,xs,rel,dd⟩:=Zlv I.hok e;obtain⟨w',hw,rw'⟩:=RelO.some_of (v:=v) (o:=(atKey xs k).map (·.2)) (by rw[l];exact rel.val k);obtain⟨p,hp,hp2⟩:=Wda.mp hw;refine wpAny_getItem_heap (tupleKind_room_in1 hu) (Zg2 I.hok eb) dd hp ?_;rw[hp2];exact h w' _ (I.tok _) rw'
theorem d_in {Q:Qb0}(hu:A.units+1<cLine) (I:Inv X pins Z H s) (g:DGet H a y o) (ry:RelV y u) (h:∀s',Inv X pins Z H s' -> Q (.bool o.isSome) s') :
  wpAny (model X.prog X.w) A (compareOp .In u (.ref a)) Q E s:=by
 rcases g with ⟨kvs,k,e,ey,l⟩|⟨kvs,k,b,e,ey,eb,l⟩
 ·subst ey
  obtain⟨z,hd,vs,rel,dd⟩:=Zjo I.hok e;refine wpAny_in_of (Zlg ry) hd dd.mapOf ?_;rw[<- (rel.val k).isSome_eq,<- l];exact h _<|I.tok _
 ·subst ey
  cases (show u=Value.ref b from ry);obtain⟨z,hd,xs,rel,dd⟩:=Zlv I.hok e;refine wpAny_in_heap (tupleKind_room_in1 hu) (Zg2 I.hok eb) hd dd ?_;have q:=(rel.val k).isSome_eq;rw[Wdm]at q;rw[<- q,<- l];exact h _<|I.tok _
theorem Zu6 {Q:Qb0}(hu:A.units+1<cLine) (I:Inv X pins Z H s) (g:DGet H a y o) (ry:RelV y u) (h:∀s',Inv X pins Z H s' -> Q (.bool (!o.isSome)) s') :
  wpAny (model X.prog X.w) A (compareOp .NotIn u (.ref a)) Q E s:=by
 rcases g with ⟨kvs,k,e,ey,l⟩|⟨kvs,k,b,e,ey,eb,l⟩
 ·subst ey
  obtain⟨z,hd,vs,rel,dd⟩:=Zjo I.hok e;refine wpAny_notIn_of (Zlg ry) hd dd.mapOf ?_;rw[<- (rel.val k).isSome_eq,<- l];exact h _<|I.tok _
 ·subst ey
  cases (show u=Value.ref b from ry);obtain⟨z,hd,xs,rel,dd⟩:=Zlv I.hok e;refine wpAny_notIn_heap (tupleKind_room_in1 hu) (Zg2 I.hok eb) hd dd ?_;have q:=(rel.val k).isSome_eq;rw[Wdm]at q;rw[<- q,<- l];exact h _<|I.tok _
theorem Zoj {h':Heap}{t':Nat}{ob:HO}(I:Inv X pins Z H s) (mu:Mut (H a)) (hs:Heap.SameBut a s.heap h') (he:∃q,h'.get? a=some q) (new:ObjOk X.prog X.w (upd H a ob) h' a ob) :
  Inv X pins Z (upd H a ob) { s with heap:=h',toks:=t' }:=
 I.write (x:=a) (e:=a) mu (.inl rfl) (λb q hb z=>(hs.2 b hb).trans z) he new
theorem Zw4 {P:Program}{w:World}{H':Hp}{h':Heap}{kvs:List (Key × V)}{vs:List (Key × Value)}(z:kvs.length<=sizeLine) (hd:(a == sysModules)=false) (rel:KV kvs vs) (dd:h'.DictOf (mixKind P w) a vs) :
  ObjOk P w H' h' a (.dK kvs):=⟨z,hd,vs,rel,dd⟩
theorem Zmd {H':Hp}{Q:Unit->Shared->Prop}(hu:A.units+1<cLine) (I:Inv X pins Z H s) (g:DPut H a y v H') (ry:RelV y u) (rv:RelV v r) (h:∀s',Inv X pins Z H' s' -> Q () s') :
  wpAny (model X.prog X.w) A (setItem (.ref a) u r) Q E s:=by
 rcases g with ⟨kvs,k,e,ey,l,eH⟩|⟨kvs,k,b,e,ey,eb,l,eH⟩
 ·subst ey eH
  obtain⟨z,hd,vs,rel,dd⟩:=Zxs I.hok e;have hz:vs.length<=sizeLine:=by rw[<- rel.length];exact z
  have hl:(putK kvs k v).length<=sizeLine:=by have:=Zgc kvs k v;omega
  refine wpAny_setItem_pairs (hsz:=hz) (Zlg ry) dd λh' dd' hs=>h _ ?_;have he:∃q,h'.get? a=some q:=let ⟨q,_,_,hq,_⟩:=dd'; ⟨q,hq⟩
  exact Zoj I (by rw[e];exact True.intro) hs he<|Zw4 hl hd (rel.put k rv) dd'
 ·subst ey eH
  cases (show u=Value.ref b from ry);obtain⟨z,hd,xs,rel,dd⟩:=Zxn I.hok e;have hz:xs.length<=sizeLine:=by rw[<- Paired.length rel];exact z
  have hl:(putK kvs k v).length<=sizeLine:=by have:=Zgc kvs k v;omega
  refine wpAny_setItem_heap (hsz:=hz) (tupleKind_room_in1 hu) (Zg2 I.hok eb) dd λh' dd' hs=>h _ ?_;obtain⟨q,es,ep,hq,h2,h3,h4,_,h5⟩:=dd';refine Zoj I (by rw[e];exact True.intro) hs ⟨q,hq⟩ ⟨hl,hd,_,(rel.put k eb rv).keeps λc ys ec=>?_,q,es,ep,hq,h2,h3,h4,h5⟩;rw[Zal (Zxt ec e λz=>nomatch z)];exact ec
end
section
variable {X:Cx}{pins:Qbz}{Z:St}{H:Hp}{s:Shared}{a:Addr}{kvs:List (Key × V)}{k:Key}{u:Value}{A:Around}{E:Qb0}
theorem Zxp {Q:Qb0}(I:Inv X pins Z H s) (e:Rd H a (.dK kvs)) (h:∀t s',Inv X pins Z H s' -> Q (.int kvs.length t) s'):wpAny (model X.prog X.w) A (call (.builtin "len") [.ref a]) Q E s:=by
 obtain⟨z,hd,vs,rel,dd⟩:=Zjo I.hok e;refine call_len_dict hd dd (by rw[<- rel.length];rw[sizeLine_eq]at z;omega) ?_;rw[<- rel.length];exact h _ _<|I.tok _
end
theorem Zjl {X:Cx}{pins:Qbz}{Z:St}{H:Hp}{s:Shared}{a:Addr}{y:V}{o:Option V}(I:Inv X pins Z H s) (g:DGet H a y o):s.TypeIs (.ref a) "dict":=by
 rcases g with ⟨kvs,k,e,_,_⟩|⟨kvs,k,b,e,_,_,_⟩
 ·obtain⟨_,_,vs,_,dd⟩:=Zjo I.hok e
  exact dd.typeIs
 ·obtain⟨_,_,xs,_,dd⟩:=Zlv I.hok e
  exact dd.typeIs
theorem Zq7 {P:Program}{w:World}{H:Hp}(h:Heap) (hb:sysModules<h.objs.size):ObjOk P w H (h.push { cls:=.type "dict",data:=.dict #[] }) h.objs.size (.dK []):=
 ⟨Wbu _,beq_eq_false_iff_ne.mpr<|Ne.symm<|Wa7 hb,[],.nil,Heap.DictOf.new h⟩
def tDNewK:TE:=λ_ H Q=>∀p,H p=none->Q (.ref p) (upd H p (.dK []))
section
variable {X:Cx}{pos:Pos}
theorem Zqy:PE X (.Dict [] [] pos) tDNewK:=λpins s Z H Q I h=>
 wpAny_Dict_empty ⟨.ref s.heap.objs.size,_,I.laid (a:=s.heap.objs.size) (o:=.dK []) (t':=s.toks) (λ_ _ q=>Wac _ q) (Waj _)<|Zq7 s.heap I.big,rfl,h _<|I.hok.fresh<|Waj _⟩
end
section
variable {X:Cx}{pins:Qbz}{Z:St}{H:Hp}{s:Shared}{a:Addr}{y d:V}{u r:Value}{o:Option V}{A:Around}{E:Qb0}
theorem Zv5 {Q:Qb0}(hu:A.units+1<cLine) (I:Inv X pins Z H s) (g:DGet H a y o) (ry:RelV y u) (rd:RelV d r) (h:∀w' s',Inv X pins Z H s' -> RelV (o.getD d) w' -> Q w' s') :
  wpAny (model X.prog X.w) A (call (.builtin "dict.get") [.ref a,u,r]) Q E s:=by
 rcases g with ⟨kvs,k,e,ey,l⟩|⟨kvs,k,b,e,ey,eb,l⟩
 ·subst ey
  obtain⟨z,hd,vs,rel,dd⟩:=Zjo I.hok e;refine call_meetsIn PySem.F.slot_dict_get dd.typeIs PySem.F.entry_dict_get (PySem.F.args_dict_get_3 _ _ _) (meets_dict_get_default (mixKind X.prog X.w) a (Zlg ry) hd r) ⟨_,dd.mapOf,h _ _ (I.tok _) ?_⟩;rw[l];exact(rel.val k).getD rd
 ·subst ey
  cases (show u=Value.ref b from ry);obtain⟨z,hd,xs,rel,dd⟩:=Zlv I.hok e;refine call_meetsIn PySem.F.slot_dict_get dd.typeIs PySem.F.entry_dict_get (PySem.F.args_dict_get_3 _ _ _) (meetsH_dict_get_default (tupleKind<|mixKind X.prog X.w) a b hd r) ⟨tupleKind_room_in1 hu,k,xs,Zg2 I.hok eb,dd,h _ _ (I.tok _) ?_⟩;rw[l];exact(rel.val k).getD rd
end
section
variable {X:Cx}{pins:Qbz}{Z:St}{H:Hp}{s:Shared}{a:Addr}{kvs:List (Key × V)}{A:Around}{E:Qb0}
end
section
variable {X:Cx}
theorem Znv:CallR X (.builtin "len") (λxs H Q=>∃a kvs,xs=[V.ref a]/\H a=some (.dK kvs)/\Q (.int kvs.length) H):=by
 intro pins s Z H xs us Q I r h;obtain⟨a,kvs,rfl,ha,q⟩:=h;obtain⟨u,rfl,ru⟩:=vals1 r;cases ru;exact Zxp I (.inl ha) λt s' I'=>⟨.int kvs.length,H,I',⟨t,rfl⟩,q⟩
end
def clOf (env:Env):List (Str × NameKind)->List (Str × Addr)->List (Str × Addr)
 |[],cs=>cs
 | (n,k)::r,cs=>if k == .free then (match env.cells.lookup n with
     |some a=>clOf env r ((n,a)::cs)
     |none=>clOf env r cs) else clOf env r cs
theorem Zfq {env:Env}:∀(names:List (Str × NameKind)) (cs:List (Str × Addr)),(∀n,(n,NameKind.free)∈names->∃a,env.cells.lookup n=some a) ->
  (forIn names cs λ(x:Str × NameKind) (cs:List (Str × Addr))=>if (x.2 == .free)=true then (do let a <- cellOf env x.1;pure (ForInStep.yield ((x.1,a)::cs))) else pure (ForInStep.yield cs):Sem (List<|Str × Addr))=pure (clOf env names cs)
 |[],cs,_=>rfl
 | (n,k)::r,cs,h=>by
  rw[List.forIn_cons];have hr:∀m,(m,NameKind.free)∈r->∃a,env.cells.lookup m=some a:=λm hm=>h m<|Wap _ hm;cases hk:k == NameKind.free with
  |false=>
   have e:clOf env ((n,k)::r) cs=clOf env r cs:=by simp[clOf,hk]
   rw[e,<- Zfq r cs hr];simp only[hk,Bool.false_eq_true,if_false];rfl
  |true=>
   have hk':k=.free:=by simpa using hk
   subst hk';obtain⟨a,ha⟩:=h n Wat;have e:clOf env ((n,.free)::r) cs=clOf env r ((n,a)::cs):=by simp[clOf,ha]
   have ec:cellOf env n=pure a:=by simp[cellOf,ha]
   rw[e,<- Zfq r ((n,a)::cs) hr];simp only[hk,if_true,ec];rfl
theorem Zb7 {env:Env}{scope:Scope}(h:∀n,(n,NameKind.free)∈scope.names->∃a,env.cells.lookup n=some a):closureFor scope env=pure (clOf env scope.names []):=by
 rw[<- Zfq scope.names [] h];simp only[closureFor];exact Eq.trans (bind_pure _) rfl
theorem Zbr {env:Env}:∀(names:List (Str × NameKind)) (cs:List (Str × Addr)) {x:Str}{c:Addr},(∀y d,cs.lookup y=some d->env.cells.lookup y=some d)->(clOf env names cs).lookup x=some c->env.cells.lookup x=some c
 |[],cs,x,c,h,e=>h x c e
 | (n,k)::r,cs,x,c,h,e=>by
  unfold clOf at e;split at e
  ·split at e
   ·rename_i a ha
    refine Zbr r ((n,a)::cs) (λy d q=>?_) e;rw[Wb5]at q;split at q
    ·rename_i hy
     have hy':y=n:=by simpa using hy
     cases q;rw[hy'];exact ha
    ·exact h y d q
   ·exact Zbr r cs h e
  ·exact Zbr r cs h e
theorem Zek {env:Env}:∀(names:List (Str × NameKind)) (cs:List (Str × Addr)) {x:Str},(∃c,cs.lookup x=some c)->∃c,(clOf env names cs).lookup x=some c
 |[],cs,x,h=>h
 | (n,k)::r,cs,x,h=>by
  have h2:∀a,∃c,((n,a)::cs).lookup x=some c:=λa=>by
   rw[Wb5];split
   ·exact⟨_,rfl⟩
   ·exact h
  unfold clOf;split
  ·split
   ·exact Zek r _<|h2 _
   ·exact Zek r cs h
  ·exact Zek r cs h
theorem Zea {env:Env}:∀(names:List (Str × NameKind)) (cs:List (Str × Addr)) {x:Str},(x,NameKind.free)∈names->(∃a,env.cells.lookup x=some a)->∃c,(clOf env names cs).lookup x=some c
 |[],_,_,h,_=>by simp at h
 | (n,k)::r,cs,x,h,⟨a,ha⟩=>by
  rcases Wai.mp h with e|hm
  ·have e1:n=x:=(congrArg Prod.fst e).symm
   have e2:k=.free:=(congrArg Prod.snd e).symm;subst e1;subst e2;have e:clOf env ((n,.free)::r) cs=clOf env r ((n,a)::cs):=by simp[clOf,ha]
   rw[e];exact Zek r _ ⟨a,by simp⟩
  ·unfold clOf
   split
   ·split
    ·exact Zea r _ hm ⟨a,ha⟩
    ·exact Zea r _ hm ⟨a,ha⟩
   ·exact Zea r _ hm ⟨a,ha⟩
def relab (osc scope:Scope):Scope:=
 { scope with names:=scope.names.map λ(n,k)=>if (k == .free && osc.kind == .function && osc.names.lookup n == some .cell) then (n,.cell) else (n,k) }
theorem Zid {osc scope:Scope}{x:Str}{k:NameKind}(hk:k=.cell\/k=.free) (hc:∀y∈scope.names,y.2≠.cell) (h:(relab osc scope).names.lookup x=some k):(x,NameKind.free)∈scope.names:=by
 have hm:=PySem.mem_of_lookup h;obtain⟨⟨n,j⟩,hy,e⟩:=Wa2.mp hm;dsimp only at e;split at e
 ·rename_i hj
  have e1:n=x:=congrArg Prod.fst e;have hj':j=.free:=by
   simp only[Wa6,beq_iff_eq]at hj;exact hj.1.1
  rw[<- e1,<- hj'];exact hy
 ·have e1:n=x:=congrArg Prod.fst e
  have e2:j=k:=congrArg Prod.snd e;rcases hk with z|z
  ·exact absurd (show ((n,j):Str × NameKind).2=.cell from e2.trans z)<|hc _ hy
  ·rw[<- e1,<- z,<- e2];exact hy
theorem Zgu {osc:Scope}{x:Str}:∀{names:List (Str × NameKind)},names.lookup x=some .free ->
  (names.map λ(n,k)=>if (k == NameKind.free && osc.kind == .function && osc.names.lookup n == some .cell) then (n,NameKind.cell) else (n,k)).lookup x=some .cell \/
  (names.map λ(n,k)=>if (k == NameKind.free && osc.kind == .function && osc.names.lookup n == some .cell) then (n,NameKind.cell) else (n,k)).lookup x=some .free
 |[],h=>by simp at h
 | (n,k)::r,h=>by
  have ih:=@Zgu osc x r;rw[Wa3];cases hx:x == n with
  |true=>
   simp only[Wb5,hx]at h;cases h;dsimp only;split
   ·left;simp[Wb5,hx]
   ·right;simp[Wb5,hx]
  |false=>
   simp only[Wb5,hx]at h;dsimp only;split
   ·simpa only[Wb5,hx] using ih h
   ·simpa only[Wb5,hx] using ih h
structure CompSc (osc:Scope) (oN:List Str) (scope:Scope) (fvs:List Str) (sel:List Nat):Prop where
 kind:scope.kind=.function
 nocell:∀y∈scope.names,y.2≠.cell
 names:∀y∈scope.names,y.2=.local->scope.names.lookup y.1=some .local
 free:∀y∈scope.names,y.2=.free->osc.names.lookup y.1=some .cell\/osc.names.lookup y.1=some .free
 len:fvs.length=sel.length
 fv:∀p∈fvs.zip sel,oN[p.2]?=some p.1/\scope.names.lookup p.1=some .free
def compCx (X:Cx) (scope:Scope) (N:List Str) (C:Addr) (s:Shared) (H:Hp) (ex:List Addr) (pn:Qbz):Cx where
 prog:=X.prog
 w:=X.w
 K:=X.K
 mg:=X.mg
 base:=X.base
 A:=X.A
 N:=N
 s₀:=s
 H₀:=H
 env:=compEnvC scope (clOf X.env scope.names []) C X.env
 outer:=X.stack
 stack:=X.stack
 ex:=ex
 fn:=λ_=>false
 calm:=X.calm
 pn:=pn
 xe:=λ_ _=>False
def compSt (n:Nat) (sel:List Nat) (Z:St):St:=Wad n none++sel.map λi=>(Z[i]?).getD none
section
variable {X:Cx}{pins:Qbz}{Z:St}{H:Hp}{s:Shared}{fp:List Addr}{scope:Scope}{tgs fvs:List Str}{sel:List Nat}
theorem Zdf (S:CompSc X.env.scope X.N scope fvs sel) (ok:X.Ok):∀n,(n,NameKind.free)∈scope.names->∃a,X.env.cells.lookup n=some a:=λn hn=>
 ok.has n (S.free _ hn rfl)
theorem Zsm (S:CompSc X.env.scope X.N scope fvs sel) (N:List Str) (I:Inv X pins Z H s) (hf:∀b∈fp,FpOk X pins H b) (hlt:∀b∈fp,b<s.heap.objs.size):(compCx X scope N s.heap.objs.size s H fp<|X.pn++pins).Ok where
 mod:=I.ok.mod
 kind:=S.kind
 glob:=I.ok.glob
 blt:=I.ok.blt
 above:=Waj _
 inj:=λx y c h1 h2=>I.ok.inj x y c (Zbr _ _ (λ_ _ z=>by simp at z) h1)<|Zbr _ _ (λ_ _ z=>by simp at z) h2
 has:=λx hx=>by
  have hm:(x,NameKind.free)∈scope.names:=by
   rcases hx with z|z
   ·exact Zid (osc:=X.env.scope) (.inl rfl) S.nocell z
   ·exact Zid (osc:=X.env.scope) (.inr rfl) S.nocell z
  exact Zea scope.names [] hm<|Zdf S I.ok x hm
 cab:=λx c h _=>by cases h
 hd:=I.ok.hd
 frames:=I.ok.frames
 stk:=.inl rfl
 exf:=λb hb=>⟨Wa7<|hlt b hb,λx c e=>(hf b hb).2.2.2.2.1 x c (Zbr _ _ (λ_ _ z=>by simp at z) e)⟩
 bs:=I.bs
 bsz:=Way I.ok.bsz I.sz
 noex:=λb o e hb=>by
  rcases(hf b hb).2.2.2.1 with z|z
  ·exact I.ok.noex b o e z
  ·exact absurd (Wa9 (War e)<|Way I.ok.bsz z)<|Wci _
 exfs:=λb hb z=>by
  rcases Wai.mp (I.stkSub b z) with e|z
  ·exact(hf b hb).2.1 e
  ·exact(hf b hb).2.2.1 z
 funs:=I.stack
 frf:=I.stkFree
theorem Zkr (S:CompSc X.env.scope X.N scope fvs sel) (I:Inv X pins Z H s) (hf:∀b∈fp,FpOk X pins H b) (hlt:∀b∈fp,b<s.heap.objs.size) {h':Heap}{tk:Nat}{m:Str->Option Value}
  (hns:h'.Ns s.heap.objs.size m) (old:∀b o,s.heap.get? b=some o->h'.get? b=some o) :
  Inv (compCx X scope (tgs++fvs) s.heap.objs.size s H fp<|X.pn++pins) [] (compSt tgs.length sel Z) H { s with heap:=h',toks:=tk } where
 ok:=Zsm S _ I hf hlt
 os:=rfl
 bare:=I.bare
 base:=Un.kept old
 loc:=by
  refine⟨m,hns,λi x v h1 h2 h3=>?_⟩;have h1:(tgs++fvs)[i]?=some x:=h1;unfold compSt at h2;by_cases hi:i<tgs.length
  ·rw[Waz (by simpa using hi),Wbe,Qbw hi]at h2
   cases h2
  ·have hi':tgs.length<=i:=Nat.le_of_not_lt hi
   rw[Wax (by simpa using hi'),Waf,Wa5]at h2;rw[Wax hi']at h1;cases hj:sel[i-tgs.length]? with
   |none=>rw[hj]at h2;cases h2
   |some j=>
    rw[hj]at h2;have h2:(Z[j]?).getD none=some v:=by simpa using h2
    have hz:(x,j)∈fvs.zip sel:=by
     refine Wav (i:=i-tgs.length) ?_;rw[Wb6];exact⟨h1,hj⟩
    obtain⟨hN,hfr⟩:=S.fv _ hz;have hZ:Z[j]?=some (some v):=by
     cases q:Z[j]? with
     |none=>rw[q]at h2;cases h2
     |some o=>rw[q]at h2;exact congrArg some h2
    have hko:X.env.scope.names.lookup x=some .cell\/X.env.scope.names.lookup x=some .free:=S.free (x,.free) (PySem.mem_of_lookup hfr) rfl;obtain⟨m0,hn0,hl0⟩:=I.loc;obtain⟨u,r,l⟩:=hl0 j x v hN hZ (.inr hko);refine⟨u,r,.inr ⟨Zgu hfr,?_⟩⟩;rcases l with ⟨hk,_⟩|⟨_,c,hc,hcell⟩
    ·have hk:X.env.scope.names.lookup x=some .local:=hk
     rcases hko with z|z <;> (rw[hk]at z;cases z)
    ·obtain⟨c',hc'⟩:=Zea scope.names [] (PySem.mem_of_lookup hfr) ⟨c,hc⟩
     have e:=Zbr scope.names [] (λ_ _ z=>by simp at z) hc';rw[hc]at e;cases e;obtain⟨o,ho,hd⟩:=hcell;exact⟨c,hc',o,old _ _ ho,hd⟩
 cell:=λx c e=>by
  obtain⟨v,o,ho,hd⟩:=I.cell x c<|Zbr _ _ (λ_ _ z=>by simp at z) e;exact⟨v,o,old _ _ ho,hd⟩
 free:=I.hok.fresh<|Waj _
 freeC:=λx c e=>I.freeC x c<|Zbr _ _ (λ_ _ z=>by simp at z) e
 pin:=λp hp=>by
  have hp:p∈(X.pn++pins)++[]:=hp;rw[Wbg]at hp;obtain⟨e,n,ne,nf,d⟩:=I.pin p hp;refine⟨old _ _ e,n,Wa7<|War e,λz=>?_,d⟩;rcases Wai.mp (I.stkSub p.1 z) with q|q
  ·exact ne q
  ·exact nf q
 hok:=I.hok.kept old
 len:=by
  unfold compSt;show _=(tgs++fvs).length;rw[Wal,Wal,Wa5,Waa,S.len]
theorem Zeh {N:List Str}{Z':St}{H':Hp}{s':Shared}{h':Heap}(I:Inv X pins Z H s) (hf:∀b∈fp,FpOk X pins H b)
  (J:Inv (compCx X scope N s.heap.objs.size s H fp<|X.pn++pins) [] Z' H' s') (sb:Heap.SameBut s.heap.objs.size s'.heap h'):Inv X pins Z H' { s' with heap:=h' }:=by
 have B:Un (frs X.stack) fp H H' s.heap s'.heap:=J.base;have ne:∀b o,s.heap.get? b=some o->b≠s.heap.objs.size:=λb o e=>Wa7<|War e;have fr:H' s.heap.objs.size=none:=J.free;refine I.call' (s':={ s' with heap:=h' }) (ch:=fp) J.os ⟨λb o e n h1 h2=>?_,λb o e n h1 h2=>?_,B.free,λb o e h2=>?_,B.tups,B.frzs,B.tbls⟩ (λb ob e=>?_) J.bare λb hb=>?_
 ·exact(sb.2 b<|ne b o e).trans (B.keep b o e n h1 h2)
 ·obtain⟨sl,q⟩:=B.slot b o e n h1 h2
  exact⟨sl,(sb.2 b<|ne b o e).trans q⟩
 ·obtain⟨o',q⟩:=B.there b o e h2
  exact⟨o',(sb.2 b<|ne b o e).trans q⟩
 ·refine(J.hok b ob e).stay (λc w' hc q=>(sb.2 c ?_).trans q) (λ_ q=>q) λ_ _ q=>q
  intro z;rcases hc with hc|hc
  ·rw[<- hc,z,fr]at e;cases e
  ·rw[z,fr]at hc;cases hc
 ·exact⟨(hf b hb).2.2.2.1,(hf b hb).2.1,(hf b hb).2.2.2.2.1,(hf b hb).2.2.2.2.2⟩
end
def PTs (X:Cx) (ifs:List Expr) (t:TT):Prop:=
 ∀(pins:Qbz) (s:Shared) (Z:St) (H:Hp) (Q:Bool->Hp->Prop),Inv X pins Z H s->t Z H Q ->
  wpAny (model X.prog X.w) X.A (forIn ifs true λc r=>if r=true then do let ok <- isTrue c X.env (eval c X.env);pure (ForInStep.yield ok) else pure (ForInStep.yield r)) (TP X pins Z Q) X.xe s
def tTrue:TT:=λ_ H Q=>Q true H
theorem Zcx {X:Cx}:PTs X [] tTrue:=λpins s Z H Q I h=>wpAny_tests_nil ⟨H,I,h⟩
theorem Zhe {X:Cx}{c:Expr}{t:TT}(h:PT X c t):PTs X [c] t:=λpins s Z H Q I hq=>wpAny_tests_one<|h pins s Z H Q I hq
def tComp (n:Nat) (sel:List Nat) (wi:TI) (g:TG) (tc:TT) (te:TE):TE:=λZ H Q=>wi Z H λJ H1=>∀acc,H1 acc=none->∃W:Nat->Nat->St->Hp->Prop,
 (∃m,W 0 m (compSt n sel Z) (upd H1 acc (.lst [])))/\∀i m Z' H',W i m Z' H' ->
  (J.stop i H' /\ Q (.ref acc) H')\/(J.go i H' /\ ∃N:St->Hp->Prop,(∀Z2 H2,N Z2 H2->∃m',m'<m/\W (i+1) m' Z2 H2) /\
   ∀x H2,J.yld i H' x H2->g x Z' H2 λZ2 H3=>tc Z2 H3 λb H4=>if b=true then te Z2 H4 λy H5=>∃ys,H5 acc=some (.lst ys)/\ys.length<sizeLine/\N Z2 (upd H5 acc (.lst (ys++[y]))) else N Z2 H4)
section
variable {X:Cx}
theorem Zft {elt tg iter:Expr}{ifs:List Expr}{scope:Scope}{pos:Pos}{tgs fvs:List Str}{sel:List Nat}{g:TG}{tc:TT}{te:TE}(S:CompSc X.env.scope X.N scope fvs sel) {Cm:Cx->Prop}(hc:∀C s H ex pn,Cm (compCx X scope (tgs++fvs) C s H ex pn))
  (hg:∀C s H ex pn,PG (compCx X scope (tgs++fvs) C s H ex pn) tg g) (ht:∀C s H ex pn,PTs (compCx X scope (tgs++fvs) C s H ex pn) ifs tc) (he:∀C s H ex pn,PE (compCx X scope (tgs++fvs) C s H ex pn) elt te)
  {pins:Qbz}{Z:St}{s:Shared}{itv:Value}{Q:VK}{E:Qb0}{RR:Value->Addr->Result->Shared->Prop}
  (h2:PIEG Cm X pins Z tg (λJ H1=>∀acc,H1 acc=none->∃W:Nat->Nat->St->Hp->Prop,
   (∃m,W 0 m (compSt tgs.length sel Z) (upd H1 acc (.lst [])))/\∀i m Z' H',W i m Z' H' ->
   (J.stop i H' /\ Q (.ref acc) H')\/(J.go i H' /\ ∃N:St->Hp->Prop,(∀Z2 H2,N Z2 H2->∃m',m'<m/\W (i+1) m' Z2 H2) /\
   ∀x H2,J.yld i H' x H2->g x Z' H2 λZ2 H3=>tc Z2 H3 λb H4=>if b=true then te Z2 H4 λy H5=>∃ys,H5 acc=some (.lst ys)/\ys.length<sizeLine/\N Z2 (upd H5 acc (.lst (ys++[y]))) else N Z2 H4)) itv s)
  (fin:∀(s':Shared) (C acc:Addr) (H':Hp) (m:Str->Option Value),s'.heap.Ns C m->FpOk X pins H' C->(∀h',Heap.SameBut C s'.heap h' -> Inv X pins Z H' { s' with heap:=h' })->Q (.ref acc) H' -> RR (.ref acc) C (.ok .next) s') :
  wpAny (model X.prog X.w) X.A (newList []) (λacc s3=>wpAny (model X.prog X.w) X.A (newFunctionEnv scope X.env.globals (clOf X.env scope.names []) [] X.env.qual none .none (some X.env)) (λcenv s4=>
   codeAny (model X.prog X.w) X.A (.compStart (.ListComp elt [⟨tg,iter,ifs,0⟩] scope pos) 0 itv acc { cenv with scope:=relabel scope X.env }) (RR acc cenv.locals) s4) E s3) E s:=by
 obtain⟨it,fp,tn,J,H1,e,I,T,st,f2,h2⟩:=h2;subst e;have hlt:∀b∈fp,b<s.heap.objs.size:=λb hb=>let ⟨o,ho,_⟩:=T.obj 0 _ st b hb; War ho
 refine wpAny_newObj_type<|wpAny_newFunctionEnv S.nocell (by intro y hy;simp at hy) (λh1 hns hsb=>?_) S.kind;dsimp only at hns hsb ⊢;have I3:Inv X pins Z (upd H1 s.heap.objs.size (.lst [])) { s with heap:=s.heap.push { cls:=.type "list",data:=.seq ([]:List Value).toArray },toks:=s.toks }:=I.lnew (its:=[]) .nil (by decide);have hacc:H1 s.heap.objs.size=none:=I.hok.fresh<|Waj _;obtain⟨W,⟨m0,w0⟩,turn⟩:=h2 s.heap.objs.size hacc;generalize hs3:({ s with heap:=s.heap.push { cls:=.type "list",data:=.seq ([]:List Value).toArray },toks:=s.toks }:Shared)=s3 at I3;have hh3:s3.heap=s.heap.push { cls:=.type "list",data:=.seq ([]:List Value).toArray }:=by rw[<- hs3]
 have old3:∀b o,s.heap.get? b=some o->s3.heap.get? b=some o:=λb o q=>by rw[hh3];exact Wac _ q
 have hf3:∀b∈fp,FpOk X pins (upd H1 s.heap.objs.size (.lst [])) b:=λb hb=>⟨by rw[Zal (Wa7<|hlt b hb)];exact(f2 b hb).1,(f2 b hb).2⟩;have hlt3:∀b∈fp,b<s3.heap.objs.size:=λb hb=>by rw[hh3,Wbr];exact Wcy<|hlt b hb
 have tn3:tn 0 s3.heap:=T.keep 0 _ _ st λb hb o q=>old3 b o q;have old4:∀b o,s3.heap.get? b=some o->h1.get? b=some o:=λb o q=>by
  have hb:b≠s3.heap.objs.size:=Wa7<|War q;rw[hh3]at hb q;exact(hsb.2 b hb).trans (Wac _ q)
 have tn4:tn 0 h1:=T.keep 0 _ _ tn3 λb hb o q=>old4 b o q;have hC:(s.heap.push { cls:=.type "list",data:=.seq ([]:List Value).toArray }).objs.size=s3.heap.objs.size:=by rw[hh3]
 rw[hC]at hns;have J0:=Zkr (tgs:=tgs) (tk:=s.toks+([]:List (Str × Value)).length) S I3 hf3 hlt3 hns old4;have es:({ s3 with heap:=h1,toks:=s.toks+([]:List (Str × Value)).length }:Shared) = { s with heap:=h1,toks:=s.toks+([]:List (Str × Value)).length }:=by rw[<- hs3]
 rw[es]at J0;generalize hY:compCx X scope (tgs++fvs) s3.heap.objs.size s3 (upd H1 s.heap.objs.size (.lst [])) fp (X.pn++pins)=Y at J0;have hYp:Y.prog=X.prog:=by rw[<- hY];rfl
 have hYw:Y.w=X.w:=by rw[<- hY];rfl
 have hYK:Y.K=X.K:=by rw[<- hY];rfl
 have hYA:Y.A=X.A:=by rw[<- hY];rfl
 have hYc:Cm Y:=by rw[<- hY];exact hc _ _ _ _ _
 have hYx:Y.xe=λ_ _=>False:=by rw[<- hY];rfl
 have hYe:Y.env=compEnvC scope (clOf X.env scope.names []) s3.heap.objs.size X.env:=by rw[<- hY];rfl
 have stat:∀{H':Hp},(∀b∈fp,H' b=none)->∀b∈fp,FpOk Y [] H' b:=λhn b hb=>by
  rw[<- hY];refine⟨hn b hb,Wa7<|hlt3 b hb,λz=>?_,.inl hb,λx c e=>?_,λp hp z=>?_⟩
  ·rcases Wai.mp (I3.stkSub b z) with q|q
   ·exact(hf3 b hb).2.1 q
   ·exact(hf3 b hb).2.2.1 q
  ·exact(hf3 b hb).2.2.2.2.1 x c (Zbr _ _ (λ_ _ z=>by simp at z) e)
  ·have hp:p∈(X.pn++pins)++[]:=hp
   rw[Wbg]at hp;exact(hf3 b hb).2.2.2.2.2 p hp z
 have loop:codeAny (model X.prog X.w) X.A (.compLoop (.ListComp elt [⟨tg,iter,ifs,0⟩] scope pos) 0 (.ref it) (.ref s.heap.objs.size) Y.env) (RR (.ref s.heap.objs.size) s3.heap.objs.size)
   { s with heap:=h1,toks:=s.toks+([]:List (Str × Value)).length }:=by
  refine codeAny_loop rfl (λn s'=>∃i Z' H',Inv Y [] Z' H' s' /\ tn i s'.heap/\(∀b∈fp,H' b=none)/\W i n Z' H') ?_ m0 ⟨0,_,_,J0,tn4,λb hb=>(hf3 b hb).1,w0⟩;rintro n s5 ⟨i,Z5,H5,I5,st5,fr5,w5⟩;show wpAny _ X.A ((compTurn (.ListComp elt [⟨tg,iter,ifs,0⟩] scope pos) 0 (.ref it) (.ref s.heap.objs.size) Y.env).onRaise (λx=>do noteFrame x Y.env;theTreesLotGoes x)) _ _ s5;refine wpAny_noted (Qbp (E:=λ_ _=>False) ?_ (λ_ _ q=>q) λ_ _ z=>z.elim);rw[compTurn_list];refine Qbn<|Qbr<|Qbn ?_;rcases turn i n Z5 H5 w5 with ⟨stop,qn⟩|⟨go,N,hN,step⟩
  ·have D:=T.done Y hYp hYw hYK hYc i [] s5 Z5 H5 (λ_ _=>False) I5 (stat fr5) st5 stop
   rw[hYA]at D;refine thn D λr s6 ⟨hr,I6⟩=>?_;subst hr;refine Qbo ?_;obtain⟨m6,hn6,_⟩:=I6.loc;rw[hYe]at hn6;refine fin s6 _ _ H5 m6 hn6 (I3.fpOk (Waj _) (by have z:=I6.free;rw[hYe]at z;exact z)) (λh' sb=>?_) qn;have I6':Inv (compCx X scope (tgs++fvs) s3.heap.objs.size s3 (upd H1 s.heap.objs.size (.lst [])) fp<|X.pn++pins) [] Z5 H5 s6:=by rw[hY];exact I6
   exact Zeh I3 hf3 I6' sb
  ·have D:=T.item Y hYp hYw hYK hYc i [] s5 Z5 H5 (λ_ _=>False) I5 (stat fr5) st5 go
   rw[hYA]at D;refine thn D λr s6 ⟨u,hr,h6⟩=>?_;subst hr;refine Qbn (thn h6 λ_ s7 ⟨x,H7,I7,r7,y7,st7,fr7⟩=>?_);have I7':=I7.pinned (stat fr7)<|T.obj _ _ st7;have G:=hg s3.heap.objs.size s3 (upd H1 s.heap.objs.size (.lst [])) fp<|X.pn++pins;have TT:=ht s3.heap.objs.size s3 (upd H1 s.heap.objs.size (.lst [])) fp<|X.pn++pins;have EE:=he s3.heap.objs.size s3 (upd H1 s.heap.objs.size (.lst [])) fp<|X.pn++pins;rw[hY]at G TT EE;have G1:=G _ s7 Z5 H7 x u _ I7' r7<|step x H7 y7;rw[hYp,hYw,hYA,hYx]at G1;refine Qbn (thn G1 λ_ s8 ⟨Z8,H8,I8,q8⟩=>?_);have T1:=TT _ s8 Z8 H8 _ I8 q8;rw[hYp,hYw,hYA,hYx]at T1;refine Qbn (thn T1 λok s9 ⟨H9,I9,q9⟩=>?_);have again:∀{s':Shared}{Z':St}{H':Hp},Inv Y ([]++pinsAt fp s7.heap) Z' H' s' -> N Z' H' -> ∃m,m<n/\∃i Z' H',Inv Y [] Z' H' s' /\ tn i s'.heap/\(∀b∈fp,H' b=none)/\W i m Z' H':=λ{s' Z' H'} K7 n7=>by
    obtain⟨m',hm,w7⟩:=hN Z' H' n7;refine⟨m',hm,i+1,Z',H',K7.unpinned,T.keep _ _ _ st7 λb hb o e=>(K7.pin (b,o)<|Wa0 _<|Wa0 _<|Zco hb e).1,λb hb=>?_,w7⟩;obtain⟨o,e,d⟩:=T.obj _ _ st7 b hb;exact(K7.pin (b,o)<|Wa0 _<|Wa0 _<|Zco hb e).2.1
   cases ok with
   |false=>
    have q9:N Z8 H9:=q9;exact Qbo ⟨by rw[hYe],again I9 q9⟩
   |true=>
    have q9:te Z8 H9 λy H5=>∃ys,H5 s.heap.objs.size=some (.lst ys)/\ys.length<sizeLine/\N Z8 (upd H5 s.heap.objs.size (.lst<|ys++[y])):=q9;have E1:=EE _ s9 Z8 H9 _ I9 q9;rw[hYp,hYw,hYA,hYx]at E1;refine Qbn<|Qbn (thn E1 λv sa ⟨y,Ha,Ia,ra,ys,ea,za,na⟩=>?_);have M:=Zce (X:=Y) _ sa Z8 Ha (.ref s.heap.objs.size) [y] (.ref s.heap.objs.size) [v] (λ_ H=>N Z8 H) Ia rfl (.cons ra .nil) ⟨_,ys,y,rfl,rfl,ea,za,na⟩;rw[hYp,hYw,hYA,hYx]at M;refine Qbn (thn M λ_ sb ⟨_,Hb,Ib,_,nb⟩=>Qbo<|Qbo ⟨by rw[hYe],again Ib nb⟩)
 have hcs:(relabel scope X.env)=(relabel scope X.env):=rfl;have loop':=loop;rw[hYe]at loop';show codeAny (model X.prog X.w) X.A (.compStart (.ListComp elt [⟨tg,iter,ifs,0⟩] scope pos) 0 (.ref it) (.ref s.heap.objs.size)<|compEnvC scope (clOf X.env scope.names []) (s.heap.push { cls:=.type "list",data:=.seq ([]:List Value).toArray }).objs.size X.env) (RR (.ref s.heap.objs.size) (s.heap.push { cls:=.type "list",data:=.seq ([]:List Value).toArray }).objs.size) _;rw[hC];exact codeAny_compStart_list loop'<|T.self _ 0 _ _ _ tn4 loop'
theorem Zcm {elt tg iter:Expr}{ifs:List Expr}{scope:Scope}{pos:Pos}{fvs:List Str}{sel:List Nat}{wi:TI}{g:TG}{tc:TT}{te:TE}(tgs:List Str) (S:CompSc X.env.scope X.N scope fvs sel) (hc:X.calm=true)
  (hi:PI X tg iter wi) (hg:∀C s H ex pn,PG (compCx X scope (tgs++fvs) C s H ex pn) tg g) (ht:∀C s H ex pn,PTs (compCx X scope (tgs++fvs) C s H ex pn) ifs tc) (he:∀C s H ex pn,PE (compCx X scope (tgs++fvs) C s H ex pn) elt te)
  (hs:∀x,foldedSetIterable iter X.env x=pure x:=by intro _;rfl) :
  PE X (.ListComp elt [⟨tg,iter,ifs,0⟩] scope pos) (tComp tgs.length sel wi g tc te):=by
 intro pins s Z H Q I h;rw[eval_ListComp];refine wpAny_comprehension_free (use:=none) rfl hs (Zb7<|Zdf S I.ok) S.kind S.names (thn (hi pins s Z H _ I h) λv s1 h1=>thn h1 λitv s2 h2=>?_);refine Zft (Cm:=λX=>X.calm=true) S (λ_ _ _ _ _=>hc) hg ht he (RR:=λacc C=>compPost (model X.prog X.w) X.A X.xe none (EP X pins Z Q) acc C) (Q:=Q) h2 ?_;intro s' C acc H' m hn _ hI q;exact⟨m,hn,λh' sb=>⟨.ref acc,H',hI h' sb,rfl,q⟩⟩
theorem Zef {elt tg iter:Expr}{ifs:List Expr}{scope:Scope}{pos spos py:Pos}{fvs:List Str}{sel:List Nat}{wi:TI}{g:TG}{tc:TT}{te:TE}{i:Nat}{y:Str}(tgs:List Str) (S:CompSc X.env.scope X.N scope fvs sel) (hc:X.calm=true)
  (hN:X.N.Nodup) (hiy:X.N[i]?=some y) (hx:Loc X.env.scope y)
  (hi:PI X tg iter wi) (hg:∀C s H ex pn,PG (compCx X scope (tgs++fvs) C s H ex pn) tg g) (ht:∀C s H ex pn,PTs (compCx X scope (tgs++fvs) C s H ex pn) ifs tc) (he:∀C s H ex pn,PE (compCx X scope (tgs++fvs) C s H ex pn) elt te)
  (hs:∀x,foldedSetIterable iter X.env x=pure x:=by intro _;rfl) (hsw:swapsWith (.ListComp elt [⟨tg,iter,ifs,0⟩] scope pos) (some (.Name y py)) spos.line X.env=pure true:=by rfl)
  (hf:X.fn y=true\/X.env.scope.names.lookup y=some .local:=by first|exact .inl rfl|exact .inr rfl|assumption) :
  PS X (.Assign [.Name y py] (.ListComp elt [⟨tg,iter,ifs,0⟩] scope pos) spos) (tAsg (tComp tgs.length sel wi g tc te)<|gName i):=by
 intro pins s Z H D I h;rw[exec_Assign_Name_used _ _ _ _ hsw];refine Qbn (Qbr (Qbn ?_));show wpAny _ X.A (do let _ <- comprehension (.ListComp elt [⟨tg,iter,ifs,0⟩] scope pos) scope X.env _ (newList []) false (eval iter X.env) (some (assign (.Name y py) X.env))) _ _ s;refine Qbn (Qbp (wpAny_comprehension_free (use:=some (assign (.Name y py) X.env)) (Q:=λ_ s'=>SP X pins D .next s') rfl hs (Zb7 (Zdf S I.ok)) S.kind S.names
  (thn (hi pins s Z H _ I h) λv s1 h1=>thn h1 λitv s2 h2=>?_)) (λ_ s' hq=>Qbo (Qbo hq)) λ_ _ e=>e)
 refine Zft (Cm:=λX=>X.calm=true) S (λ_ _ _ _ _=>hc) hg ht he (RR:=λacc C=>compPost (model X.prog X.w) X.A X.xe (some<|assign (.Name y py) X.env) (λ_ s'=>SP X pins D .next s') acc C) (Q:=λv H'=>D.nx (Z.set i<|some v) H') h2 ?_;intro s' C acc H' m hn fp hI q;have I0:Inv X pins Z H' s':=hI s'.heap (.refl ..);show wpAny _ X.A (assign (.Name y py) X.env (.ref acc)) _ _ _;refine wpAny_assign_Name<|Ziy (v:=.ref acc) I0 hN hiy hx rfl (λs2 I2 hsb=>?_) hf;obtain⟨a,sb,ha⟩:=hsb;have hCa:C≠a:=by
  rcases ha with z|z
  ·rw[z];exact fp.2.1
  ·exact Ne.symm<|fp.2.2.2.2.1 y a z
 refine⟨m,hn.sameBut sb hCa,λh' sb'=>?_⟩;obtain⟨f0,f1,f2,f3,f4,f5⟩:=fp;exact⟨_,H',I2.turned (t':=s2.toks) (it:=C) (λb o hb e=>(sb'.2 b hb).trans e) f0 f1 f3 f4 f5,q⟩
end
def InsC (a C:Addr) (h:Heap):Prop:=∃ox vs,h.get? a=some ox/\ox.cls=.ref C/\ox.data=.fields vs/\vs[2]?=some .none
def InsR (a C dx:Addr) (h:Heap):Prop:=∃ox vs,h.get? a=some ox/\ox.cls=.ref C/\ox.data=.fields vs/\vs[2]?=some .none/\ox.dict=some dx
inductive D where
 |non|bl (b:Bool)|int (i:Int)|str (x:Str)|ty (n:String)|tup (ds:List D)|lst (ds:List D)|scr (ds:List D)|adr (a:Addr)|dct (ks:List Key) (ds:List D)|exc (a C:Addr)|excR (a C:Addr) (i:Int)
mutual
inductive Rep (K:W.Frag) (G:Hp):V->D->Prop
 |non:Rep K G .non .non
 |bl (b:Bool):Rep K G (.bl b) (.bl b)
 |int (i:Int):Rep K G (.int i) (.int i)
 |str (x:Str):Rep K G (.str x) (.str x)
 |ty (n:String):Rep K G (.ty n) (.ty n)
 |tup {a:Addr}{vs:List V}{ds:List D}:G a=some (.tup vs)->Reps K G vs ds->Rep K G (.ref a) (.tup ds)
 |lst {a:Addr}{vs:List V}{ds:List D}:G a=some (.lst vs)->Reps K G vs ds->Rep K G (.ref a) (.lst ds)
 |scr {a:Addr}{vs:List V}{ds:List D}:SqL K G a vs->Reps K G vs ds->Rep K G (.ref a) (.scr ds)
 |adr (a:Addr):Rep K G (.ref a) (.adr a)
 |dct {a:Addr}{ks:List Key}{vs:List V}{ds:List D}:G a=some (.dK (ks.zip vs))->ks.length=vs.length->Reps K G vs ds->Rep K G (.ref a) (.dct ks ds)
 |exc {a C:Addr}:G a=some (.ext (InsC a C))->Rep K G (.ref a) (.exc a C)
 |excR {a C dx:Addr}{i:Int}:G a=some (.ext (InsR a C dx))->G dx=some (.xd [("row",.int i)])->Rep K G (.ref a) (.excR a C i)
inductive Reps (K:W.Frag) (G:Hp):List V->List D->Prop
 |nil:Reps K G [] []
 |cons {v:V}{d:D}{vs:List V}{ds:List D}:Rep K G v d->Reps K G vs ds->Reps K G (v::vs) (d::ds)
end
def RepI (K:W.Frag) (G:Hp) (v:V):D->Prop
 |.non=>v=.non
 |.bl b=>v=.bl b
 |.int i=>v=.int i
 |.str x=>v=.str x
 |.ty n=>v=.ty n
 |.tup ds=>∃a vs,v=.ref a/\G a=some (.tup vs)/\Reps K G vs ds
 |.lst ds=>∃a vs,v=.ref a/\G a=some (.lst vs)/\Reps K G vs ds
 |.scr ds=>∃a vs,v=.ref a/\SqL K G a vs/\Reps K G vs ds
 |.adr a=>v=.ref a
 |.dct ks ds=>∃a vs,v=.ref a/\G a=some (.dK (ks.zip vs))/\ks.length=vs.length/\Reps K G vs ds
 |.exc a C=>v=.ref a/\G a=some (.ext (InsC a C))
 |.excR a C i=>v=.ref a/\∃dx,G a=some (.ext (InsR a C dx))/\G dx=some (.xd [("row",.int i)])
theorem Rep.inv {K:W.Frag}{G:Hp}{v:V}{d:D}(r:Rep K G v d):RepI K G v d:=by
 cases r with
 |tup h r=>exact⟨_,_,rfl,h,r⟩
 |lst h r=>exact⟨_,_,rfl,h,r⟩
 |scr h r=>exact⟨_,_,rfl,h,r⟩
 |dct h l r=>exact⟨_,_,rfl,h,l,r⟩
 |exc h=>exact⟨rfl,h⟩
 |excR h h2=>exact⟨rfl,_,h,h2⟩
 |_=>rfl
def RepsI (K:W.Frag) (G:Hp) (vs:List V):List D->Prop
 |[]=>vs=[]
 |d::ds=>∃v ws,vs=v::ws/\Rep K G v d/\Reps K G ws ds
theorem Reps.inv {K:W.Frag}{G:Hp}{vs:List V}{ds:List D}(r:Reps K G vs ds):RepsI K G vs ds:=by
 cases r with
 |nil=>rfl
 |cons a b=>exact⟨_,_,rfl,a,b⟩
section
variable {K:W.Frag}{G G' H H':Hp}
mutual
theorem Rep.mono (s:Same G G'):∀{v:V}{d:D},Rep K G v d->Rep K G' v d
 |_,_,.non=>.non
 |_,_,.bl b=>.bl b
 |_,_,.int i=>.int i
 |_,_,.str x=>.str x
 |_,_,.ty n=>.ty n
 |_,_,.tup h r=>.tup (s _ _ h) (Reps.mono s r)
 |_,_,.lst h r=>.lst (s _ _ h) (Reps.mono s r)
 |_,_,.scr h r=>.scr (s.seq h) (Reps.mono s r)
 |_,_,.adr a=>.adr a
 |_,_,.dct h l r=>.dct (s _ _ h) l (Reps.mono s r)
 |_,_,.exc h=>.exc (s _ _ h)
 |_,_,.excR h h2=>.excR (s _ _ h) (s _ _ h2)
theorem Reps.mono (s:Same G G'):∀{vs:List V}{ds:List D},Reps K G vs ds->Reps K G' vs ds
 |_,_,.nil=>.nil
 |_,_,.cons h r=>.cons (Rep.mono s h) (Reps.mono s r)
end
theorem Reps.length:∀{vs:List V}{ds:List D},Reps K G vs ds->vs.length=ds.length
 |_,_,.nil=>rfl
 |_,_,.cons _ r=>by rw[Wag,Wag,r.length]
theorem Reps.get:∀{vs:List V}{ds:List D}{i:Nat}{d:D},Reps K G vs ds->ds[i]?=some d->∃v,vs[i]?=some v/\Rep K G v d
 |_,_,_,_,.nil,e=>by simp at e
 |_,_,0,_,.cons r _,e=>by simp at e;subst e;exact⟨_,rfl,r⟩
 |_,_,i+1,d,.cons _ t,e=>by
  obtain⟨u,h1,h2⟩:=Reps.get (i:=i) (d:=d) t (by simpa using e);exact⟨u,by simpa using h1,h2⟩
theorem Reps.append:∀{vs ws:List V}{ds es:List D},Reps K G vs ds->Reps K G ws es->Reps K G (vs++ws) (ds++es)
 |_,_,_,_,.nil,s=>s
 |_,_,_,_,.cons r t,s=>.cons r (Reps.append t s)
theorem Reps.take:∀{vs:List V}{ds:List D}(n:Nat),Reps K G vs ds->Reps K G (vs.take n) (ds.take n)
 |_,_,0,_=>.nil
 |_,_,_+1,.nil=>.nil
 |_,_,n+1,.cons r t=>.cons r (Reps.take n t)
theorem Reps.drop:∀{vs:List V}{ds:List D}(n:Nat),Reps K G vs ds->Reps K G (vs.drop n) (ds.drop n)
 |_,_,0,r=>r
 |_,_,_+1,.nil=>.nil
 |_,_,n+1,.cons _ t=>Reps.drop n t
theorem Reps.reverse {vs:List V}{ds:List D}(h:Reps K G vs ds):Reps K G vs.reverse ds.reverse:=by
 induction vs generalizing ds with
 |nil=>cases h;exact .nil
 |cons v vs ih=>
  cases h with
  |cons r t=>rw[List.reverse_cons,List.reverse_cons];exact(ih t).append (.cons r .nil)
theorem Reps.set:∀{vs:List V}{ds:List D}{v:V}{d:D}(i:Nat),Reps K G vs ds->Rep K G v d->Reps K G (vs.set i v) (ds.set i d)
 |_,_,_,_,_,.nil,_=>.nil
 |_,_,_,_,0,.cons _ t,q=>.cons q t
 |_,_,_,_,i+1,.cons r t,q=>.cons r (Reps.set i t q)
theorem Reps.eraseIdx:∀{vs:List V}{ds:List D}(i:Nat),Reps K G vs ds->Reps K G (vs.eraseIdx i) (ds.eraseIdx i)
 |_,_,_,.nil=>.nil
 |_,_,0,.cons _ t=>t
 |_,_,i+1,.cons r t=>.cons r (Reps.eraseIdx i t)
theorem Reps.ints {vs:List V}:∀{ns:List Int},Reps K G vs (ns.map D.int)->vs=ns.map V.int:=by
 induction vs with
 |nil=>intro ns h;cases ns with
  |nil=>rfl
  |cons n ns=>cases h
 |cons v vs ih=>intro ns h;cases ns with
  |nil=>cases h
  |cons n ns=>
   cases h with
   |cons r t=>cases r.inv;rw[ih t];rfl
theorem Reps.ofInts:∀(ns:List Int),Reps K G (ns.map V.int) (ns.map D.int)
 |[]=>.nil
 |n::ns=>.cons (.int n) (Reps.ofInts ns)
theorem Zhd {vs:List V}{ds:List D}{i:Int}{d:D}(r:Reps K G vs ds) (h:atI ds i=some d):∃v,atI vs i=some v/\Rep K G v d:=by
 unfold atI at h ⊢;rw[<- r.length]at h;cases e:ixN vs.length i with
 |none=>rw[e]at h;cases h
 |some j=>rw[e]at h;exact r.get h
end
inductive OD where
 |lst (ds:List D)|dct (kvs:List (Key × D))|set (S:Int->Bool) (n:Nat)|dtt (kvs:List (List Key × D))|ext (R:Hp->(Heap->Prop)->Prop)
def OwnRep (K:W.Frag) (G:Hp):HO->OD->Prop
 |.lst vs,.lst ds=>Reps K G vs ds
 |.dK kvs,.dct kds=>Paired (λ(p:Key × V) (q:Key × D)=>p.1=q.1/\Rep K G p.2 q.2) kvs kds
 |.set S n,.set S' n'=>S=S' /\ n=n'
 |.dT kvs,.dtt kds=>Paired (λ(p:List Key × V) (q:List Key × D)=>p.1=q.1/\Rep K G p.2 q.2) kvs kds
 |.ext φ,.ext R=>∃G0,Same G0 G/\R G0 φ
 |_,_=>False
theorem OwnRep.mono {K:W.Frag}{G G':Hp}(s:Same G G') {o:HO}{od:OD}(h:OwnRep K G o od):OwnRep K G' o od:=by
 cases o <;> cases od <;> first
  |exact h.elim
  |exact Reps.mono s h
  |exact Paired.mapP h λ_ _ z=>⟨z.1,z.2.mono s⟩
  |exact(let ⟨g0,s0,r⟩:=h; ⟨g0,s0.trans s,r⟩)
  |exact h
inductive Slot where
 |any|val (d:D)|own (o:OD)|bor (o:OD)|ownA (a:Addr) (o:OD)
abbrev Evt:=List Slot
def Slot.od:Slot->Option OD
 |.own o=>some o
 |.bor o=>some o
 |.ownA _ o=>some o
 |_=>none
structure Gm where
 B:Addr->Prop
 F:Hp
 Hz:Hp
 Xo:Hp
def SlotAt (g:Gm) (x:Slot) (a:Addr):Prop:=match x with
 |.own _=>g.Hz a=none
 |.bor _=>g.B a
 |.ownA b _=>b=a/\g.Hz a=none
 |_=>True
structure Ok (K:W.Frag) (g:Gm) (G H:Hp) (Z:St) (O:Evt):Prop where
 same:∀b o,¬ g.B b->g.Hz b=some o->H b=some o
 lent:∀b,g.B b->H b≠none
 sub:Same g.F G
 frz:∀b o,G b=some o->H b=some o/\(g.Hz b=none\/g.F b=some o)
 ext:∀b o,g.Xo b=some o->H b=some o/\G b=none/\∀(i:Nat) x od,O[i]?=some x->x.od=some od -> Z[i]?≠some (some (.ref b))
 len:O.length = Z.length
 val:∀(i:Nat) d,O[i]?=some (.val d)->∃v,Z[i]?=some (some v)/\Rep K G v d
 own:∀(i:Nat) x od,O[i]?=some x->x.od=some od->∃a o,Z[i]?=some (some (.ref a))/\H a=some o/\OwnRep K G o od/\G a=none/\SlotAt g x a
 dis:∀(i j:Nat) x y od od' a,O[i]?=some x->x.od=some od -> O[j]?=some y->y.od=some od' -> Z[i]?=some (some (.ref a)) -> Z[j]?=some (some (.ref a))->i=j
section
variable {K:W.Frag}{g:Gm}{G H G' H':Hp}{Z:St}{O:Evt}
theorem Ok.live (k:Ok K g G H Z O):Same G H:=λb o e=>(k.frz b o e).1
theorem Ok.there (k:Ok K g G H Z O) {b:Addr}(h:H b=none):g.Hz b=none:=by
 cases e:g.Hz b with
 |none=>rfl
 |some o=>
  by_cases hb:g.B b
  ·exact absurd h<|k.lent b hb
  ·have:=k.same b o hb e
   rw[h]at this;cases this
theorem Ok.grow (k:Ok K g G H Z O) (sg:Same G G') (sh:Same H H') (hg:∀b o,G' b=some o->H' b=some o/\(G b=some o\/H b=none)):Ok K g G' H' Z O where
 same:=λb o hb e=>sh b o<|k.same b o hb e
 lent:=λb hb z=>by
  cases e:H b with
  |none=>exact k.lent b hb e
  |some o=>rw[sh b o e]at z;cases z
 sub:=k.sub.trans sg
 frz:=λb o e=>by
  obtain⟨h1,h2⟩:=hg b o e;refine⟨h1,?_⟩;rcases h2 with z|z
  ·exact(k.frz b o z).2
  ·exact .inl<|k.there z
 ext:=λb o e=>by
  obtain⟨h1,h2,h3⟩:=k.ext b o e;refine⟨sh b o h1,?_,h3⟩;cases q:G' b with
  |none=>rfl
  |some o'=>
   rcases(hg b o' q).2 with z|z
   ·rw[h2]at z;cases z
   ·rw[h1]at z;cases z
 len:=k.len
 val:=λi d e=>by
  obtain⟨v,h1,h2⟩:=k.val i d e;exact⟨v,h1,h2.mono sg⟩
 own:=λi x od e1 e2=>by
  obtain⟨a,o,h1,h2,h3,h4,h5⟩:=k.own i x od e1 e2;refine⟨a,o,h1,sh a o h2,h3.mono sg,?_,h5⟩;cases q:G' a with
  |none=>rfl
  |some o'=>
   rcases(hg a o' q).2 with z|z
   ·rw[h4]at z;cases z
   ·rw[h2]at z;cases z
 dis:=k.dis
theorem Ok.laid (k:Ok K g G H Z O) {p:Addr}(hp:H p=none) (o:HO):Ok K g (upd G p o) (upd H p o) Z O /\ Same G (upd G p o):=by
 have hG:G p=none:=by
  cases e:G p with
  |none=>rfl
  |some u=>rw[k.live p u e]at hp;cases hp
 have sg:Same G (upd G p o):=λb u e=>by rw[Zal (Zam e hG)];exact e
 refine⟨k.grow sg (λb u e=>by rw[Zal (Zam e hp)];exact e) λb u e=>?_,sg⟩;by_cases hb:b=p
 ·subst hb;rw[Zan]at e ⊢;exact⟨e,.inr hp⟩
 ·rw[Zal hb]at e ⊢;exact⟨k.live b u e,.inl e⟩
theorem Ok.lt (k:Ok K g G H Z O) {i:Nat}{x:Slot}(h:O[i]?=some x):i < Z.length:=by
 rw[<- k.len];exact(Wah.mp h).1
def Pend (K:W.Frag) (g:Gm) (G H:Hp) (Z:St) (O:Evt) (a:Addr) (od:OD):Prop:=
 ∃o,H a=some o/\OwnRep K G o od/\G a=none/\g.Hz a=none/\g.Xo a=none/\∀(i:Nat) x od',O[i]?=some x->x.od=some od' -> Z[i]?≠some (some (.ref a))
theorem Ok.setVal (k:Ok K g G H Z O) {v:V}{d:D}{i:Nat}(hi:i < O.length) (r:Rep K G v d):Ok K g G H (Z.set i<|some v) (O.set i (.val d)):=by
 have hs:i < Z.length:=by rw[<- k.len];exact hi
 have old:∀(j:Nat) x od,(O.set i (.val d))[j]?=some x->x.od=some od->j≠i /\ O[j]?=some x/\(Z.set i<|some v)[j]? = Z[j]?:=λj x od e1 e2=>by
  by_cases hj:j=i
  ·subst hj
   rw[Wak hi]at e1;cases e1;cases e2
  ·rw[Wan (Ne.symm hj)]at e1
   exact⟨hj,e1,Wan<|Ne.symm hj⟩
 refine⟨k.same,k.lent,k.sub,k.frz,λb o e=>?_,by simp[k.len],λj e h=>?_,λj x od e1 e2=>?_,λj l x y od od' a e1 e2 e3 e4 e5 e6=>?_⟩
 ·obtain⟨h1,h2,h3⟩:=k.ext b o e
  refine⟨h1,h2,λj x od e1 e2=>?_⟩;obtain⟨_,q1,q2⟩:=old j x od e1 e2;rw[q2];exact h3 j x od q1 e2
 ·by_cases hj:j=i
  ·subst hj
   rw[Wak hi]at h;cases h;exact⟨v,Wak hs,r⟩
  ·rw[Wan (Ne.symm hj)]at h ⊢
   exact k.val j e h
 ·obtain⟨_,q1,q2⟩:=old j x od e1 e2
  rw[q2];exact k.own j x od q1 e2
 ·obtain⟨_,q1,q2⟩:=old j x od e1 e2
  obtain⟨_,q3,q4⟩:=old l y od' e3 e4;rw[q2]at e5;rw[q4]at e6;exact k.dis j l x y od od' a q1 e2 q3 e4 e5 e6
theorem Ok.setOwn (k:Ok K g G H Z O) {a:Addr}{od:OD}{i:Nat}(hi:i < O.length) (p:Pend K g G H Z O a od):Ok K g G H (Z.set i<|some (.ref a)) (O.set i (.own od)):=by
 obtain⟨o,p1,p2,p3,p4,p5,p6⟩:=p;have hs:i < Z.length:=by rw[<- k.len];exact hi
 have old:∀(j:Nat) x,j≠i->(O.set i (.own od))[j]?=some x -> O[j]?=some x/\(Z.set i<|some (.ref a))[j]? = Z[j]?:=λj x hj e1=>by
  rw[Wan (Ne.symm hj)]at e1;exact⟨e1,Wan<|Ne.symm hj⟩
 refine⟨k.same,k.lent,k.sub,k.frz,λb ob e=>?_,by simp[k.len],λj e h=>?_,λj x od' e1 e2=>?_,λj l x y od1 od2 c e1 e2 e3 e4 e5 e6=>?_⟩
 ·obtain⟨h1,h2,h3⟩:=k.ext b ob e
  refine⟨h1,h2,λj x od' e1 e2=>?_⟩;by_cases hj:j=i
  ·subst hj
   rw[Wak hs];intro z;cases z;rw[p5]at e;cases e
  ·obtain⟨q1,q2⟩:=old j x hj e1
   rw[q2];exact h3 j x od' q1 e2
 ·by_cases hj:j=i
  ·subst hj
   rw[Wak hi]at h;cases h
  ·rw[Wan (Ne.symm hj)]at h ⊢
   exact k.val j e h
 ·by_cases hj:j=i
  ·subst hj
   rw[Wak hi]at e1;cases e1;cases e2;exact⟨a,o,Wak hs,p1,p2,p3,p4⟩
  ·obtain⟨q1,q2⟩:=old j x hj e1
   rw[q2];exact k.own j x od' q1 e2
 ·by_cases hj:j=i
  ·by_cases hl:l=i
   ·rw[hj,hl]
   ·obtain⟨q3,q4⟩:=old l y hl e3
    rw[q4]at e6;rw[hj,Wak hs]at e5;cases e5;exact absurd e6<|p6 l y od2 q3 e4
  ·obtain⟨q1,q2⟩:=old j x hj e1
   rw[q2]at e5;by_cases hl:l=i
   ·rw[hl,Wak hs]at e6
    cases e6;exact absurd e5<|p6 j x od1 q1 e2
   ·obtain⟨q3,q4⟩:=old l y hl e3
    rw[q4]at e6;exact k.dis j l x y od1 od2 c q1 e2 q3 e4 e5 e6
def Slot.put:Slot->OD->Slot
 |.own _,o=>.own o
 |.bor _,o=>.bor o
 |.ownA a _,o=>.ownA a o
 |x,_=>x
theorem SlotAt.put {g:Gm}{x:Slot}{a:Addr}{o:OD}(h:SlotAt g x a):SlotAt g (x.put o) a:=by cases x <;> exact h
theorem SlotAt.free {g:Gm}{x:Slot}{a:Addr}{od:OD}(h:SlotAt g x a) (ho:x.od=some od):g.Hz a=none\/g.B a:=by
 cases x with
 |any=>cases ho
 |val d=>cases ho
 |own o=>exact .inl h
 |bor o=>exact .inr h
 |ownA b o=>exact .inl h.2
theorem Slot.put_od {x:Slot}{od o:OD}(h:x.od=some od):(x.put o).od=some o:=by cases x <;> cases h <;> rfl
theorem Ok.write (k:Ok K g G H Z O) {a:Addr}{od od':OD}{x:Slot}{i:Nat}{o':HO}(hx:O[i]?=some x) (hod:x.od=some od) (ha:Z[i]?=some (some (.ref a))) (r:OwnRep K G o' od'):Ok K g G (upd H a o') Z (O.set i<|x.put od'):=by
 obtain⟨a',o,q1,q2,q3,q4,q5⟩:=k.own i x od hx hod;rw[ha]at q1;cases q1;have hi:i < O.length:=(Wah.mp hx).1;have other:∀(j:Nat) y od2,(O.set i<|x.put od')[j]?=some y->y.od=some od2->j≠i -> O[j]?=some y:=λj y od2 e1 e2 hj=>by
  rw[Wan (Ne.symm hj)]at e1;exact e1
 have anyOd:∀(j:Nat) y od2,(O.set i<|x.put od')[j]?=some y->y.od=some od2->∃y' od3,O[j]?=some y' /\ y'.od=some od3:=λj y od2 e1 e2=>by
  by_cases hj:j=i
  ·subst hj;exact⟨x,od,hx,hod⟩
  ·exact⟨y,od2,other j y od2 e1 e2 hj,e2⟩
 refine⟨λb u hb e=>?_,λb hb=>?_,k.sub,λb u e=>?_,λb u e=>?_,by simp[k.len],λj e h=>?_,λj y od2 e1 e2=>?_,λj l y z od1 od2 c e1 e2 e3 e4 e5 e6=>?_⟩
 ·have hba:b≠a:=by
   intro z;subst z;rcases q5.free hod with z|z
   ·rw[z]at e;cases e
   ·exact hb z
  rw[Zal hba];exact k.same b u hb e
 ·by_cases hba:b=a
  ·subst hba;rw[Zan];intro z;cases z
  ·rw[Zal hba];exact k.lent b hb
 ·have hba:b≠a:=by intro z;subst z;rw[q4]at e;cases e
  rw[Zal hba];exact k.frz b u e
 ·obtain⟨h1,h2,h3⟩:=k.ext b u e
  have hba:b≠a:=by intro z;subst z;exact h3 i x od hx hod ha
  rw[Zal hba];refine⟨h1,h2,λj y od2 e1 e2=>?_⟩;obtain⟨y',od3,z1,z2⟩:=anyOd j y od2 e1 e2;exact h3 j y' od3 z1 z2
 ·by_cases hj:j=i
  ·subst hj
   rw[Wak hi]at h;cases x <;> cases hod <;> cases h
  ·rw[Wan (Ne.symm hj)]at h
   exact k.val j e h
 ·by_cases hj:j=i
  ·subst hj
   rw[Wak hi]at e1;cases e1;rw[Slot.put_od hod]at e2;cases e2;exact⟨a,o',ha,Zan,r,q4,q5.put⟩
  ·have e1':=other j y od2 e1 e2 hj
   obtain⟨c,oc,w1,w2,w3,w4,w5⟩:=k.own j y od2 e1' e2;have hca:c≠a:=by
    intro z;subst z;exact hj<|k.dis j i y x od2 od c e1' e2 hx hod w1 ha
   exact⟨c,oc,w1,by rw[Zal hca];exact w2,w3,w4,w5⟩
 ·obtain⟨y',od3,z1,z2⟩:=anyOd j y od1 e1 e2
  obtain⟨y'',od4,z3,z4⟩:=anyOd l z od2 e3 e4;exact k.dis j l y' y'' od3 od4 c z1 z2 z3 z4 e5 e6
theorem Ok.freeze (k:Ok K g G H Z O) {a:Addr}{ds:List D}{vs:List V}(p:Pend K g G H Z O a (.lst ds)) (hv:H a=some (.lst vs)):Ok K g (upd G a (.lst vs)) H Z O /\ Same G (upd G a (.lst vs))/\Rep K (upd G a (.lst vs)) (.ref a) (.lst ds):=by
 obtain⟨o,p1,p2,p3,p4,p5,p6⟩:=p;rw[hv]at p1;cases p1;have p2:Reps K G vs ds:=p2;have sg:Same G (upd G a (.lst vs)):=λb u e=>by rw[Zal (Zam e p3)];exact e
 refine⟨⟨k.same,k.lent,k.sub.trans sg,λb u e=>?_,λb u e=>?_,k.len,λj d h=>?_,λj x od e1 e2=>?_,k.dis⟩,sg,.lst Zan<|p2.mono sg⟩
 ·by_cases hb:b=a
  ·subst hb;rw[Zan]at e;cases e;exact⟨hv,.inl p4⟩
  ·rw[Zal hb]at e;exact k.frz b u e
 ·obtain⟨h1,h2,h3⟩:=k.ext b u e
  have hb:b≠a:=by intro z;subst z;rw[p5]at e;cases e
  exact⟨h1,by rw[Zal hb];exact h2,h3⟩
 ·obtain⟨v,h1,h2⟩:=k.val j d h
  exact⟨v,h1,h2.mono sg⟩
 ·obtain⟨c,o,w1,w2,w3,w4,w5⟩:=k.own j x od e1 e2
  have hc:c≠a:=by intro z;subst z;exact p6 j x od e1 e2 w1
  exact⟨c,o,w1,w2,w3.mono sg,by rw[Zal hc];exact w4,w5⟩
theorem Ok.drop (k:Ok K g G H Z O) (i:Nat):Ok K g G H Z (O.set i .any):=by
 have old:∀(j:Nat) x,(O.set i .any)[j]?=some x->x=.any\/(O[j]?=some x/\j≠i):=λj x e1=>by
  by_cases hj:j=i
  ·subst hj
   rw[Wcx]at e1;simp at e1;exact .inl e1.2.symm
  ·rw[Wan (Ne.symm hj)]at e1
   exact .inr ⟨e1,hj⟩
 have oldO:∀(j:Nat) x od,(O.set i .any)[j]?=some x->x.od=some od -> O[j]?=some x:=λj x od e1 e2=>by
  rcases old j x e1 with z|z
  ·subst z;cases e2
  ·exact z.1
 refine⟨k.same,k.lent,k.sub,k.frz,λb o e=>?_,by simp[k.len],λj e h=>?_,λj x od e1 e2=>k.own j x od (oldO j x od e1 e2) e2,λj l x y od od' a e1 e2 e3 e4=>k.dis j l x y od od' a (oldO j x od e1 e2) e2 (oldO l y od' e3 e4) e4⟩
 ·obtain⟨h1,h2,h3⟩:=k.ext b o e
  exact⟨h1,h2,λj x od e1 e2=>h3 j x od (oldO j x od e1 e2) e2⟩
 ·rcases old j _ h with z|z
  ·cases z
  ·exact k.val j e z.1
theorem Ok.take (k:Ok K g G H Z O) {i:Nat}{od:OD}(h:O[i]?=some (.own od)):∃a,Z[i]?=some (some (.ref a))/\Pend K g G H Z (O.set i .any) a od:=by
 obtain⟨a,o,h1,h2,h3,h4,h5⟩:=k.own i _ od h rfl;have h5:g.Hz a=none:=h5;refine⟨a,h1,o,h2,h3,h4,h5,?_,λj x od' e1 e2 e3=>?_⟩
 ·cases q:g.Xo a with
  |none=>rfl
  |some u=>exact absurd h1 ((k.ext a u q).2.2 i _ od h rfl)
 ·by_cases hj:j=i
  ·subst hj
   rw[Wcx]at e1;simp at e1;obtain⟨_,e1⟩:=e1;subst e1;cases e2
  ·rw[Wan (Ne.symm hj)]at e1
   exact hj<|k.dis j i x _ od' od a e1 e2 h rfl e3 h1
end
def Cont (K:W.Frag) (g:Gm) (G:Hp) (Z:St) (P:D->Evt->Prop) (Q:VK):Prop:=
 ∀v d G' H' O',Ok K g G' H' Z O' -> Same G G' -> Rep K G' v d->P d O' -> Q v H'
def JE (K:W.Frag) (t:TE) (O:Evt) (P:D->Evt->Prop):Prop:=
 ∀g G H Z Q,Ok K g G H Z O -> Cont K g G Z P Q->t Z H Q
def JT (K:W.Frag) (t:TT) (O:Evt) (P:Bool->Evt->Prop):Prop:=
 ∀g G H Z Q,Ok K g G H Z O -> (∀b G' H' O',Ok K g G' H' Z O' -> Same G G' -> P b O' -> Q b H')->t Z H Q
def JA (K:W.Frag) (t:TA) (O:Evt) (P:List D->Evt->Prop):Prop:=
 ∀g G H Z Q,Ok K g G H Z O -> (∀vs ds G' H' O',Ok K g G' H' Z O' -> Same G G' -> Reps K G' vs ds->P ds O' -> Q vs H')->t Z H Q
def JO (K:W.Frag) (t:TE) (O:Evt) (P:OD->Evt->Prop):Prop:=
 ∀g G H Z Q,Ok K g G H Z O -> (∀a od G' H' O',Ok K g G' H' Z O' -> Same G G' -> Pend K g G' H' Z O' a od->P od O' -> Q (.ref a) H')->t Z H Q
def JR2 (K:W.Frag) (r:R2) (d e:D) (O:Evt) (P:D->Evt->Prop):Prop:=
 ∀g G H Z Q x y,Ok K g G H Z O -> Rep K G x d->Rep K G y e->Cont K g G Z P Q->r x y H Q
def JR1 (K:W.Frag) (r:V->Hp->VK->Prop) (d:D) (O:Evt) (P:D->Evt->Prop):Prop:=
 ∀g G H Z Q x,Ok K g G H Z O -> Rep K G x d->Cont K g G Z P Q->r x H Q
def JC (K:W.Frag) (r:List V->Hp->VK->Prop) (ds:List D) (O:Evt) (P:D->Evt->Prop):Prop:=
 ∀g G H Z Q vs,Ok K g G H Z O -> Reps K G vs ds->Cont K g G Z P Q->r vs H Q
structure Pst where
 nx:Evt->Prop
 rt:D->Evt->Prop
 bk:Evt->Prop:=λ_=>False
 ct:Evt->Prop:=λ_=>False
 ro:OD->Evt->Prop:=λ_ _=>False
structure SCont (K:W.Frag) (g:Gm) (P:Pst) (E:Ends):Prop where
 nx:∀Z G H O,Ok K g G H Z O -> P.nx O -> E.nx Z H
 rt:∀v d Z G H O,Ok K g G H Z O -> Rep K G v d->P.rt d O -> E.rt v H
 bk:∀Z G H O,Ok K g G H Z O -> P.bk O -> E.bk Z H
 ct:∀Z G H O,Ok K g G H Z O -> P.ct O -> E.ct Z H
 ro:∀a od Z G H O,Ok K g G H Z O -> Pend K g G H Z O a od->P.ro od O -> E.rt (.ref a) H
def JS (K:W.Frag) (t:TS) (O:Evt) (P:Pst):Prop:=
 ∀g G H Z E,Ok K g G H Z O -> SCont K g P E->t E Z H
def JG (K:W.Frag) (t:TG) (d:D) (O:Evt) (P:Evt->Prop):Prop:=
 ∀g G H Z v (R:St->Hp->Prop),Ok K g G H Z O -> Rep K G v d->(∀Z' G' H' O',Ok K g G' H' Z' O' -> Same G G' -> P O' -> R Z' H')->t v Z H R
def JGs (K:W.Frag) (t:TGs) (ds:List D) (O:Evt) (P:Evt->Prop):Prop:=
 ∀g G H Z vs (R:St->Hp->Prop),Ok K g G H Z O -> Reps K G vs ds->(∀Z' G' H' O',Ok K g G' H' Z' O' -> Same G G' -> P O' -> R Z' H')->t vs Z H R
section
variable {K:W.Frag}{O:Evt}
theorem Cont.up {g:Gm}{G G1:Hp}{Z:St}{P:D->Evt->Prop}{Q:VK}(c:Cont K g G Z P Q) (s:Same G G1):Cont K g G1 Z P Q:=
 λv d G' H' O' k s' r p=>c v d G' H' O' k (s.trans s') r p
theorem JE.mono {t:TE}{P P':D->Evt->Prop}(h:JE K t O P) (hp:∀d O,P d O -> P' d O):JE K t O P':=
 λg G H Z Q k c=>h g G H Z Q k λv d G' H' O' k' s r p=>c v d G' H' O' k' s r<|hp d O' p
theorem JT.mono {t:TT}{P P':Bool->Evt->Prop}(h:JT K t O P) (hp:∀d O,P d O -> P' d O):JT K t O P':=
 λg G H Z Q k c=>h g G H Z Q k λv G' H' O' k' s p=>c v G' H' O' k' s<|hp v O' p
theorem JS.mono {t:TS}{P P':Pst}(h:JS K t O P) (hn:∀O,P.nx O -> P'.nx O) (hr:∀d O,P.rt d O -> P'.rt d O) (hb:∀O,P.bk O -> P'.bk O) (hc:∀O,P.ct O -> P'.ct O) (ho:∀od O,P.ro od O -> P'.ro od O):JS K t O P':=
 λg G H Z E k c=>h g G H Z E k ⟨λZ' G' H' O' k' p=>c.nx Z' G' H' O' k'<|hn _ p,λv d Z' G' H' O' k' r p=>c.rt v d Z' G' H' O' k' r<|hr _ _ p,λZ' G' H' O' k' p=>c.bk Z' G' H' O' k'<|hb _ p,λZ' G' H' O' k' p=>c.ct Z' G' H' O' k'<|hc _ p,λa od Z' G' H' O' k' r p=>c.ro a od Z' G' H' O' k' r<|ho _ _ p⟩
theorem Zac {i:Nat}{d:D}{P:D->Evt->Prop}(h:O[i]?=some (.val d)) (p:P d O):JE K (tVar i) O P:=λg G H Z Q k c=>by
 obtain⟨v,h1,h2⟩:=k.val i d h;exact⟨v,h1,c v d G H O k (Same.refl _) h2 p⟩
theorem Zf3 {i:Nat}{ds:List D}{P:D->Evt->Prop}(h:O[i]?=some (.own (.lst ds))) (p:P (.lst ds) (O.set i (.val (.lst ds)))):JE K (tVar i) O P:=λg G H Z Q k c=>by
 obtain⟨a,h1,pd⟩:=k.take h;obtain⟨o,q1,q2,_⟩:=id pd;cases o with
 |lst vs=>
  obtain⟨k2,sg,r⟩:=(k.drop i).freeze pd q1;have k3:=k2.setVal (i:=i) (by simpa using (Wah.mp h).1) r;have e1:Z.set i (some (.ref a)) = Z:=by
   apply Wby
   intro j;by_cases hj:j=i
   ·subst hj;rw[Wak (k.lt h),h1]
   ·rw[Wan (Ne.symm hj)]
  rw[e1,List.set_set]at k3;exact⟨.ref a,h1,c _ _ _ H _ k3 sg r p⟩
 |_=>exact absurd q2 (λz=>z)
theorem Zaj {i:Int}{P:D->Evt->Prop}(p:P (.int i) O):JE K (tC (.int i)) O P:=λg G H Z Q k c=>c _ _ G H O k (Same.refl _) (.int i) p
theorem Zjm {b:Bool}{P:D->Evt->Prop}(p:P (.bl b) O):JE K (tC (.bl b)) O P:=λg G H Z Q k c=>c _ _ G H O k (Same.refl _) (.bl b) p
theorem Zbz {P:D->Evt->Prop}(p:P .non O):JE K (tC .non) O P:=λg G H Z Q k c=>c _ _ G H O k (Same.refl _) .non p
theorem Zax {x:Str}{P:D->Evt->Prop}(p:P (.str x) O):JE K (tC (.str x)) O P:=λg G H Z Q k c=>c _ _ G H O k (Same.refl _) (.str x) p
theorem Zdn {x:String}{P:D->Evt->Prop}(p:P (.ty x) O):JE K (tC (.ty x)) O P:=λg G H Z Q k c=>c _ _ G H O k (Same.refl _) (.ty x) p
theorem Zak {r:R2}{ta tb:TE}{P:D->Evt->Prop}(h:JE K ta O λd O1=>JE K tb O1 λe O2=>JR2 K r d e O2 P):JE K (tOp r ta tb) O P:=λg G H Z Q k c=>
 h g G H Z _ k λx d G1 H1 O1 k1 s1 r1 p1=>p1 g G1 H1 Z _ k1 λy e G2 H2 O2 k2 s2 r2 p2=>p2 g G2 H2 Z Q x y k2 (r1.mono s2) r2<|c.up<|s1.trans s2
theorem Zp3 {r:V->Hp->VK->Prop}{ta:TE}{P:D->Evt->Prop}(h:JE K ta O λd O1=>JR1 K r d O1 P):JE K (tUn r ta) O P:=λg G H Z Q k c=>
 h g G H Z _ k λx d G1 H1 O1 k1 s1 r1 p1=>p1 g G1 H1 Z Q x k1 r1<|c.up s1
theorem Zae {P:List D->Evt->Prop}(p:P [] O):JA K tNil O P:=λg G H Z Q k c=>c [] [] G H O k (Same.refl _) .nil p
theorem Zab {ta:TE}{tr:TA}{P:List D->Evt->Prop}(h:JE K ta O λd O1=>JA K tr O1 λds O2=>P (d::ds) O2):JA K (tCons ta tr) O P:=λg G H Z Q k c=>
 h g G H Z _ k λx d G1 H1 O1 k1 s1 r1 p1=>p1 g G1 H1 Z _ k1 λvs ds G2 H2 O2 k2 s2 r2 p2=>c _ _ G2 H2 O2 k2 (s1.trans s2) (.cons (r1.mono s2) r2) p2
theorem Zay {r:List V->Hp->VK->Prop}{ta:TA}{P:D->Evt->Prop}(h:JA K ta O λds O1=>JC K r ds O1 P):JE K (tCB r ta) O P:=λg G H Z Q k c=>
 h g G H Z _ k λvs ds G1 H1 O1 k1 s1 r1 p1=>p1 g G1 H1 Z Q vs k1 r1<|c.up s1
theorem Zb9 {ta:TA}{P:D->Evt->Prop}(h:JA K ta O λds O1=>ds.length<=sizeLine/\P (.tup ds) O1):JE K (tTup ta) O P:=λg G H Z Q k c=>
 h g G H Z _ k λvs ds G1 H1 O1 k1 s1 r1 ⟨z,p1⟩=>⟨by rw[r1.length];exact z,λp hp=>by
  obtain⟨k2,sg⟩:=k1.laid hp (.tup vs);exact c _ _ _ _ O1 k2 (s1.trans sg) (.tup Zan (r1.mono sg)) p1⟩
theorem Zcs {ta:TA}{P:D->Evt->Prop}(h:JA K ta O λds O1=>ds.length<=sizeLine/\P (.lst ds) O1):JE K (tLst ta) O P:=λg G H Z Q k c=>
 h g G H Z _ k λvs ds G1 H1 O1 k1 s1 r1 ⟨z,p1⟩=>⟨by rw[r1.length];exact z,λp hp=>by
  obtain⟨k2,sg⟩:=k1.laid hp (.lst vs);exact c _ _ _ _ O1 k2 (s1.trans sg) (.lst Zan (r1.mono sg)) p1⟩
theorem Ok.fresh {g:Gm}{G H:Hp}{Z:St}(k:Ok K g G H Z O) {p:Addr}{o:HO}{od:OD}(hp:H p=none) (r:OwnRep K G o od):Ok K g G (upd H p o) Z O /\ Pend K g G (upd H p o) Z O p od:=by
 have hG:G p=none:=by
  cases e:G p with
  |none=>rfl
  |some u=>rw[k.live p u e]at hp;cases hp
 refine⟨k.grow (Same.refl _) (λb u e=>by rw[Zal (Zam e hp)];exact e) λb u e=>⟨?_,.inl e⟩,o,Zan,r,hG,k.there hp,?_,λj x od' e1 e2 e3=>?_⟩
 ·have hb:b≠p:=by intro z;subst z;rw[hG]at e;cases e
  rw[Zal hb];exact k.live b u e
 ·cases q:g.Xo p with
  |none=>rfl
  |some u=>have z:=(k.ext p u q).1;rw[hp]at z;cases z
 ·obtain⟨a,oo,w1,w2,_⟩:=k.own j x od' e1 e2
  rw[e3]at w1;cases w1;rw[hp]at w2;cases w2
theorem Zgd {ta:TA}{P:OD->Evt->Prop}(h:JA K ta O λds O1=>ds.length<=sizeLine/\P (.lst ds) O1):JO K (tLst ta) O P:=λg G H Z Q k c=>
 h g G H Z _ k λvs ds G1 H1 O1 k1 s1 r1 ⟨z,p1⟩=>⟨by rw[r1.length];exact z,λp hp=>by
  obtain⟨k2,pd⟩:=k1.fresh (od:=.lst ds) hp (show OwnRep K G1 (.lst vs) (.lst ds) from r1);exact c p _ G1 _ O1 k2 s1 pd p1⟩
theorem Zbo {t:TE}{P:D->Evt->Prop}(h:JO K t O λod O1=>∃ds,od=.lst ds/\P (.lst ds) O1):JE K t O P:=λg G H Z Q k c=>
 h g G H Z Q k λa od G1 H1 O1 k1 s1 pd hq_=>by
  obtain⟨ds,e,p1⟩:=hq_;subst e;obtain⟨o,q1,q2,_⟩:=id pd;cases o with
  |lst vs=>
   obtain⟨k2,sg,r⟩:=k1.freeze pd q1;exact c _ _ _ H1 O1 k2 (s1.trans sg) r p1
  |_=>exact absurd q2 (λz=>z)
theorem Zfi {c:TT}{ta tb:TE}{P:D->Evt->Prop}(h:JT K c O λb O1=>if b=true then JE K ta O1 P else JE K tb O1 P):JE K (tIf c ta tb) O P:=λg G H Z Q k q=>
 h g G H Z _ k λb G1 H1 O1 k1 s1 p1=>by
  cases b with
  |true=>exact(show JE K ta O1 P from p1) g G1 H1 Z Q k1 (q.up s1)
  |false=>exact(show JE K tb O1 P from p1) g G1 H1 Z Q k1 (q.up s1)
theorem Zap {t:TE}{P:Bool->Evt->Prop}(h:JE K t O λd O1=>∃b,d=.bl b/\P b O1):JT K (tTest t) O P:=λg G H Z Q k c=>
 h g G H Z _ k λv d G1 H1 O1 k1 s1 r1 hq_=>by obtain⟨b,e,p1⟩:=hq_;subst e;cases r1.inv;exact⟨b,rfl,c b G1 H1 O1 k1 s1 p1⟩
theorem Zc6 {a b:TT}{P:Bool->Evt->Prop}(h:JT K a O λx O1=>if x=true then JT K b O1 P else P false O1):JT K (tAnd a b) O P:=λg G H Z Q k c=>
 h g G H Z _ k λx G1 H1 O1 k1 s1 p1=>by
  cases x with
  |true=>exact(show JT K b O1 P from p1) g G1 H1 Z _ k1 λy G2 H2 O2 k2 s2 p2=>c y G2 H2 O2 k2 (s1.trans s2) p2
  |false=>exact c false G1 H1 O1 k1 s1 p1
theorem Zeq {a b:TT}{P:Bool->Evt->Prop}(h:JT K a O λx O1=>if x=true then P true O1 else JT K b O1 P):JT K (tOr a b) O P:=λg G H Z Q k c=>
 h g G H Z _ k λx G1 H1 O1 k1 s1 p1=>by
  cases x with
  |true=>exact c true G1 H1 O1 k1 s1 p1
  |false=>exact(show JT K b O1 P from p1) g G1 H1 Z _ k1 λy G2 H2 O2 k2 s2 p2=>c y G2 H2 O2 k2 (s1.trans s2) p2
theorem Zb2 {a:TT}{P:Bool->Evt->Prop}(h:JT K a O λx O1=>P (!x) O1):JT K (tNot a) O P:=λg G H Z Q k c=>
 h g G H Z _ k λx G1 H1 O1 k1 s1 p1=>c (!x) G1 H1 O1 k1 s1 p1
theorem Zcy {P:Bool->Evt->Prop}(p:P true O):JT K tTrue O P:=λg G H Z Q k c=>c true G H O k (Same.refl _) p
theorem Zjn {P:Pst}(p:P.nx O):JS K tNext O P:=λg G H Z E k c=>c.nx Z G H O k p
theorem Zsg {t u:TS}{P:Pst}(h:JS K t O { P with nx:=λO1=>JS K u O1 P }):JS K (tSeq t u) O P:=λg G H Z E k c=>
 h g G H Z _ k ⟨λZ1 G1 H1 O1 k1 p1=>p1 g G1 H1 Z1 E k1 c,c.rt,c.bk,c.ct,c.ro⟩
theorem Zvs {te:TE}{P:Pst}(h:JE K te O P.rt):JS K (tRet te) O P:=λg G H Z E k c=>
 h g G H Z _ k λv d G1 H1 O1 k1 s1 r1 p1=>c.rt v d Z G1 H1 O1 k1 r1 p1
theorem Ztu {te:TE}{P:Pst}(h:JO K te O P.ro):JS K (tRet te) O P:=λg G H Z E k c=>
 h g G H Z _ k λa od G1 H1 O1 k1 s1 pd p1=>c.ro a od Z G1 H1 O1 k1 pd p1
theorem Zs7 {te:TE}{P:Pst}(h:JE K te O λ_ O1=>P.nx O1):JS K (tDrop te) O P:=λg G H Z E k c=>
 h g G H Z _ k λv d G1 H1 O1 k1 s1 r1 p1=>c.nx Z G1 H1 O1 k1 p1
theorem Zxk {c:TT}{t u:TS}{P:Pst}(h:JT K c O λb O1=>if b=true then JS K t O1 P else JS K u O1 P):JS K (tIfS c t u) O P:=λg G H Z E k q=>
 h g G H Z _ k λb G1 H1 O1 k1 s1 p1=>by
  cases b with
  |true=>exact(show JS K t O1 P from p1) g G1 H1 Z E k1 q
  |false=>exact(show JS K u O1 P from p1) g G1 H1 Z E k1 q
theorem Zvn {te:TE}{t:TG}{P:Pst}(h:JE K te O λd O1=>JG K t d O1 P.nx):JS K (tAsg te t) O P:=λg G H Z E k c=>
 h g G H Z _ k λv d G1 H1 O1 k1 s1 r1 p1=>p1 g G1 H1 Z v _ k1 r1 λZ2 G2 H2 O2 k2 s2 p2=>c.nx Z2 G2 H2 O2 k2 p2
theorem Zfy {P:Evt->Prop}(p:P O):JGs K gNil [] O P:=λg G H Z vs R k r c=>by cases r;exact⟨rfl,c Z G H O k (Same.refl _) p⟩
theorem Zcd {t:TG}{u:TGs}{d:D}{ds:List D}{P:Evt->Prop}(h:JG K t d O λO1=>JGs K u ds O1 P):JGs K (gCons t u) (d::ds) O P:=λg G H Z vs R k r c=>by
 obtain⟨_,_,rfl,r1,rr⟩:=r.inv
 next=>exact⟨_,_,rfl,h g G H Z _ _ k r1 λZ1 G1 H1 O1 k1 s1 p1=>p1 g G1 H1 Z1 _ R k1 (rr.mono s1) λZ2 G2 H2 O2 k2 s2 p2=>c Z2 G2 H2 O2 k2 (s1.trans s2) p2⟩
theorem Zis {n:Nat}{t:TGs}{ds:List D}{P:Evt->Prop}(hl:ds.length=n) (h:JGs K t ds O P):JG K (gTup K n t) (.tup ds) O P:=λg G H Z v R k r c=>by
 obtain⟨_,_,rfl,ha,rs⟩:=r.inv
 next=>exact⟨_,_,rfl,SqT.of<|k.live _ _ ha,by rw[rs.length];exact hl,h g G H Z _ R k rs c⟩
def ItOk (K:W.Frag) (G:Hp) (J:It) (ds:List D):Prop:=
 ∀G1 H1,Same G G1->Same G1 H1->J.stop ds.length H1/\∀(i:Nat) d,ds[i]?=some d->J.go i H1/\∀x H2,J.yld i H1 x H2->∃G2,Same G1 G2/\Same H1 H2/\(∀b o,G2 b=some o->H2 b=some o/\(G1 b=some o\/H1 b=none))/\Rep K G2 x d
def JI (K:W.Frag) (wi:TI) (O:Evt) (P:List D->Evt->Prop):Prop:=
 ∀g G H Z (R:It->Hp->Prop),Ok K g G H Z O -> (∀J ds G' H' O',Ok K g G' H' Z O' -> Same G G' -> ItOk K G' J ds->P ds O' -> R J H')->wi Z H R
theorem Zwt {tl:TE}{P:List D->Evt->Prop}(h:JE K tl O λd O1=>∃ds,d=.tup ds/\P ds O1):JI K (iTup K tl) O P:=λg G H Z R k c=>
 h g G H Z _ k λv d G1 H1 O1 k1 s1 r1 hq_=>by
  obtain⟨ds,e,p1⟩:=hq_;subst e;obtain⟨a,vs,rfl,ha,rs⟩:=r1.inv
  next=>
   refine⟨a,rfl,⟨vs,SqT.of<|k1.live _ _ ha⟩,c _ ds G1 H1 O1 k1 s1 (λG2 H2 sg sh=>⟨⟨vs,SqT.of<|sh _ _<|sg _ _ ha,by rw[rs.length];exact Waj _⟩,λi d e=>?_⟩) p1⟩;obtain⟨v,hv,rv⟩:=rs.get e;refine⟨⟨vs,v,SqT.of<|sh _ _<|sg _ _ ha,hv⟩,λx H3 ⟨e3,y3⟩=>⟨G2,Same.refl _,by rw[e3];exact Same.refl _,λb o q=>⟨by rw[e3];exact sh b o q,.inl q⟩,?_⟩⟩;have:=y3 vs<|SqT.of<|sh _ _<|sg _ _ ha;rw[hv]at this;cases this;exact rv.mono sg
theorem Ztt {tl:TE}{P:List D->Evt->Prop}(h:JE K tl O λd O1=>∃ds,(d=.lst ds\/d=.scr ds)/\P ds O1):JI K (iList K tl) O P:=λg G H Z R k c=>
 h g G H Z _ k λv d G1 H1 O1 k1 s1 r1 hq_=>by
  obtain⟨ds,e,p1⟩:=hq_;obtain⟨a,vs,ea,hs,rs⟩:∃a vs,v=.ref a/\SqL K G1 a vs/\Reps K G1 vs ds:=by
   rcases e with e|e
   ·subst e;cases r1 with|lst ha rs=>exact⟨_,_,rfl,SqL.of ha,rs⟩
   ·subst e;cases r1 with|scr ha rs=>exact⟨_,_,rfl,ha,rs⟩
  subst ea;refine⟨a,rfl,⟨vs,k1.live.seq hs⟩,c _ ds G1 H1 O1 k1 s1 (λG2 H2 sg sh=>⟨⟨vs,sh.seq<|sg.seq hs,by rw[rs.length];exact Waj _⟩,λi d e=>?_⟩) p1⟩;obtain⟨v,hv,rv⟩:=rs.get e;refine⟨⟨vs,v,sh.seq<|sg.seq hs,hv⟩,λx H3 ⟨e3,y3⟩=>⟨G2,Same.refl _,by rw[e3];exact Same.refl _,λb o q=>⟨by rw[e3];exact sh b o q,.inl q⟩,?_⟩⟩;have:=y3 vs<|sh.seq<|sg.seq hs;rw[hv]at this;cases this;exact rv.mono sg
def rngD (lo:Int) (n:Nat):List D:=(Wb2 n).map λi:Nat=>D.int<|lo+(i:Int)
theorem Zbp (lo:Int) (n:Nat):(rngD lo n).length=n:=by simp[rngD]
theorem Zcb {lo:Int}{n i:Nat}{d:D}(h:(rngD lo n)[i]?=some d):i<n/\d=.int (lo+(i:Int)):=by
 unfold rngD at h;rw[Waf]at h;cases e:(Wb2 n)[i]? with
 |none=>rw[e]at h;cases h
 |some j=>
  rw[e]at h;obtain⟨h1,h2⟩:=Wah.mp e;rw[List.getElem_range]at h2;subst h2;exact⟨by simpa using h1,(Waw.inj h).symm⟩
theorem Zrb {G:Hp}(lo:Int) (n:Nat):ItOk K G (Itr lo n) (rngD lo n):=λG1 H1 sg sh=>by
 refine⟨by show n<=(rngD lo n).length;rw[Zbp];exact Waj _,λi d e=>?_⟩;obtain⟨h1,h2⟩:=Zcb e;subst h2;refine⟨h1,λx H2 ⟨e2,y2⟩=>⟨G1,Same.refl _,by rw[e2];exact Same.refl _,λb o q=>⟨by rw[e2];exact sh b o q,.inl q⟩,?_⟩⟩;subst y2;exact .int _
theorem Zbw {ta:TA}{P:List D->Evt->Prop}(h:JA K ta O λds O1=>∃n:Int,ds=[.int n] /\ -(2 ^ 62)<=n/\n<2 ^ 62/\P (rngD 0 n.toNat) O1):JI K (iRng1 ta) O P:=λg G H Z R k c=>
 h g G H Z _ k λvs ds G1 H1 O1 k1 s1 r1 hq_=>by
  obtain⟨n,e,h1,h2,p1⟩:=hq_;subst e;obtain⟨_,_,rfl,ra,rr⟩:=r1.inv
  next=>
   cases rr.inv;cases ra.inv;exact⟨n,rfl,h1,h2,c _ _ G1 H1 O1 k1 s1 (Zrb 0 _) p1⟩
theorem Zxi {wi:TI}{t:TG}{tb:TS}{P:Pst}(h:JI K wi O λds O1=>∃I:Nat->Evt->Prop,I 0 O1/\(∀i d O2,ds[i]?=some d->I i O2->JG K t d O2 λO3=>JS K tb O3 ⟨I<|i+1,P.rt,P.nx,I<|i+1,P.ro⟩)/\∀O2,I ds.length O2->P.nx O2) :
  JS K (tFor wi t tb) O P:=λg G H Z E k c=>
 h g G H Z _ k λJ ds G1 H1 O1 k1 s1 it hq_=>by
  obtain⟨I,h0,ht,he⟩:=hq_;refine⟨λi m Z H=>m=ds.length-i/\i<=ds.length/\∃G O,Ok K g G H Z O /\ Same G1 G/\I i O,⟨ds.length,by simp,Wbu _,G1,O1,k1,Same.refl _,h0⟩,?_⟩;rintro i m Z2 H2 ⟨rfl,hi,G2,O2,k2,s2,h2⟩;obtain⟨stop,go⟩:=it G2 H2 s2 k2.live;by_cases hlt:i<ds.length
  ·obtain⟨g1,g2⟩:=go i _ (Wab hlt)
   refine .inr ⟨g1,λZ' H'=>i+1<=ds.length/\∃G O,Ok K g G H' Z' O /\ Same G1 G/\I (i+1) O,λZ' H' p'=>⟨ds.length-(i+1),by omega,rfl,p'.1,p'.2⟩,λx H3 y=>?_⟩;obtain⟨G3,a1,a2,a3,a4⟩:=g2 x H3 y;have k3:=k2.grow a1 a2 a3;refine ht i _ O2 (Wab hlt) h2 { g with F:=G3,Xo:=g.Xo } G3 H3 Z2 x _ ?_ a4 λZ4 G4 H4 O4 k4 s4 p4=>?_
   ·exact⟨k3.same,k3.lent,Same.refl _,λb o q=>⟨(k3.frz b o q).1,.inr q⟩,k3.ext,k3.len,k3.val,k3.own,k3.dis⟩
   ·have cv:∀{G5 H5:Hp}{Z5:St}{O5:Evt},Ok K { g with F:=G3,Xo:=g.Xo } G5 H5 Z5 O5->Ok K g G5 H5 Z5 O5/\Same G1 G5:=λ{G5 H5 Z5 O5} k5=>
     ⟨⟨k5.same,k5.lent,k3.sub.trans k5.sub,λb o q=>by
      obtain⟨q1,q2⟩:=k5.frz b o q;refine⟨q1,?_⟩;rcases q2 with z|z
      ·exact .inl z
      ·exact(k3.frz b o z).2,k5.ext,k5.len,k5.val,k5.own,k5.dis⟩,s2.trans (a1.trans k5.sub)⟩
    refine p4 _ G4 H4 Z4 _ k4 ⟨λZ5 G5 H5 O5 k5 p5=>?_,λv d Z5 G5 H5 O5 k5 r5 p5=>?_,λZ5 G5 H5 O5 k5 p5=>?_,λZ5 G5 H5 O5 k5 p5=>?_,λa od Z5 G5 H5 O5 k5 pd5 p5=>?_⟩
    ·exact⟨hlt,G5,O5,(cv k5).1,(cv k5).2,p5⟩
    ·exact c.rt v d Z5 G5 H5 O5 (cv k5).1 r5 p5
    ·exact c.nx Z5 G5 H5 O5 (cv k5).1 p5
    ·exact⟨hlt,G5,O5,(cv k5).1,(cv k5).2,p5⟩
    ·exact c.ro a od Z5 G5 H5 O5 (cv k5).1 pd5 p5
  ·have e:i=ds.length:=by omega
   subst e;exact .inl ⟨stop,c.nx Z2 G2 H2 O2 k2<|he O2 h2⟩
end
section
variable {K:W.Frag}{O:Evt}{P:D->Evt->Prop}
theorem jr_I {C:Int->Int->Prop}{f:Int->Int->Int}{i j:Int}(hc:C i j) (p:P (.int<|f i j) O):JR2 K (rI C λi j=>.int<|f i j) (.int i) (.int j) O P:=λg G H Z Q x y k rx ry c=>by
 cases rx.inv;cases ry.inv;exact⟨i,j,rfl,rfl,hc,c _ _ G H O k (Same.refl _) (.int _) p⟩
theorem Zn6 {f:Int->Int->Int}{i j:Int}(p:P (.int<|f i j) O):JR2 K (rI0 λi j=>.int<|f i j) (.int i) (.int j) O P:=λg G H Z Q x y k rx ry c=>by
 cases rx.inv;cases ry.inv;exact⟨i,j,rfl,rfl,c _ _ G H O k (Same.refl _) (.int _) p⟩
theorem Zcj {f:Int->Int->Bool}{i j:Int}(p:P (.bl<|f i j) O):JR2 K (rI0 λi j=>.bl<|f i j) (.int i) (.int j) O P:=λg G H Z Q x y k rx ry c=>by
 cases rx.inv;cases ry.inv;exact⟨i,j,rfl,rfl,c _ _ G H O k (Same.refl _) (.bl _) p⟩
theorem Zdv {i j:Int}(p:P (.bl<|decide (i=j)) O):JR2 K rEq (.int i) (.int j) O P:=λg G H Z Q x y k rx ry c=>by
 cases rx.inv;cases ry.inv;refine⟨rfl,?_⟩;have e:decide (V.int i=V.int j)=decide (i=j):=by rw[Zh0];exact(Wdg i j)
 rw[e];exact c _ _ G H O k (Same.refl _) (.bl _) p
theorem Zqv {i j:Int}(p:P (.bl (!decide (i=j))) O):JR2 K rNe (.int i) (.int j) O P:=λg G H Z Q x y k rx ry c=>by
 cases rx.inv;cases ry.inv;refine⟨rfl,?_⟩;have e:decide (V.int i=V.int j)=decide (i=j):=by rw[Zh0];exact(Wdg i j)
 rw[e];exact c _ _ G H O k (Same.refl _) (.bl _) p
theorem Zwn {ds:List D}{i:Int}{d:D}(h:atI ds i=some d) (p:P d O):JR2 K (rIxT K) (.tup ds) (.int i) O P:=λg G H Z Q x y k rx ry c=>by
 obtain⟨_,_,rfl,ha,rs⟩:=rx.inv
 next=>
  cases ry.inv;obtain⟨v,h1,h2⟩:=Zhd rs h;exact⟨_,_,i,v,rfl,rfl,SqT.of<|k.live _ _ ha,h1,c v d G H O k (Same.refl _) h2 p⟩
theorem Zvj {ds:List D}{i:Int}{d:D}(h:atI ds i=some d) (p:P d O):JR2 K (rIxL K) (.lst ds) (.int i) O P:=λg G H Z Q x y k rx ry c=>by
 obtain⟨_,_,rfl,ha,rs⟩:=rx.inv
 next=>
  cases ry.inv;obtain⟨v,h1,h2⟩:=Zhd rs h;exact⟨_,_,i,v,rfl,rfl,SqL.of<|k.live _ _ ha,h1,c v d G H O k (Same.refl _) h2 p⟩
theorem Znl {n:Nat}{te:TE}{Pp:Pst}{x:Slot}{od:OD}(hx:O[n]?=some x) (ho:x.od=some od) (hod:∃ds,od=.lst ds)
  (h:JE K te O λd O1=>∃y ds,O1[n]?=some y/\y.od=some (.lst ds)/\ds.length<sizeLine/\Pp.nx (O1.set n<|y.put (.lst<|ds++[d]))) :
  JS K (tDrop<|tBM K "list" rAppend (tVar n)<|tCons te tNil) O Pp:=λg G H Z E k c=>by
 obtain⟨a,o,h1,h2,h3,h4,h5⟩:=k.own n x _ hx ho;obtain⟨ds0,hod⟩:=hod;subst hod;cases o with
 |lst vs0=>
  refine⟨.ref a,h1,.inl ⟨rfl,_,SqL.of h2⟩,h g G H Z _ k λv d G1 H1 O1 k1 s1 r1 ⟨y,ds,q1,q2,q3,p⟩=>?_⟩;obtain⟨a',o',w1,w2,w3,w4,w5⟩:=k1.own n y _ q1 q2;rw[h1]at w1;cases w1;cases o' with
  |lst vs=>
   have w3:Reps K G1 vs ds:=w3;exact⟨a,vs,v,rfl,rfl,w2,by rw[w3.length];exact q3,c.nx Z G1 _ _ (k1.write q1 q2 h1 (show OwnRep K G1 (.lst<|vs++[v]) (.lst<|ds++[d]) from w3.append (.cons r1 .nil))) p⟩
  |_=>exact absurd w3 (λz=>z)
 |_=>exact absurd h3 (λz=>z)
theorem Zvw {ds es:List D}(he:ds=[.lst es]\/ds=[.tup es]) (p:P (.int es.length) O) :
  JC K (λxs H Q=>∃p ys,xs=[.ref p]/\(SqL K H p ys\/SqT K H p ys)/\Q (.int ys.length) H) ds O P:=λg G H Z Q vs k rs c=>by
 rcases he with he|he <;> subst he
 ·obtain⟨_,_,rfl,r,t⟩:=rs.inv
  next=>
   cases t.inv;obtain⟨_,_,rfl,ha,rs⟩:=r.inv
   next=>
    refine⟨_,_,rfl,.inl<|SqL.of<|k.live _ _ ha,?_⟩;rw[rs.length];exact c _ _ G H O k (Same.refl _) (.int _) p
 ·obtain⟨_,_,rfl,r,t⟩:=rs.inv
  next=>
   cases t.inv;obtain⟨_,_,rfl,ha,rs⟩:=r.inv
   next=>
    refine⟨_,_,rfl,.inr<|SqT.of<|k.live _ _ ha,?_⟩;rw[rs.length];exact c _ _ G H O k (Same.refl _) (.int _) p
theorem Zs4 {n:Nat}{x:Slot}{ds:List D}(hx:O[n]?=some x) (ho:x.od=some (.lst ds)) (p:P (.int ds.length) O) :
  JE K (tCB (λxs H Q=>∃p ys,xs=[.ref p]/\(SqL K H p ys\/SqT K H p ys)/\Q (.int ys.length) H)<|tCons (tVar n) tNil) O P:=λg G H Z Q k c=>by
 obtain⟨a,o,h1,h2,h3,h4,h5⟩:=k.own n x _ hx ho;cases o with
 |lst vs=>
  have h3:Reps K G vs ds:=h3;refine⟨.ref a,h1,a,vs,rfl,.inl<|SqL.of h2,?_⟩;rw[h3.length];exact c _ _ G H O k (Same.refl _) (.int _) p
 |_=>exact absurd h3 (λz=>z)
theorem Zvl {i:Int}(p:P (.int (if i<0 then -i else i)) O):JC K (λxs H Q=>∃i,xs=[.int i]/\Q (.int (if i<0 then -i else i)) H) [.int i] O P:=λg G H Z Q vs k rs c=>by
 obtain⟨_,_,rfl,r,t⟩:=rs.inv
 next=>cases t.inv;cases r.inv;exact⟨i,rfl,c _ _ G H O k (Same.refl _) (.int _) p⟩
theorem Zgx {f:Int->Int->Int}{i j:Int}(p:P (.int<|f i j) O):JC K (λxs H Q=>∃i j,xs=[.int i,.int j]/\Q (.int<|f i j) H) [.int i,.int j] O P:=λg G H Z Q vs k rs c=>by
 obtain⟨_,_,rfl,r,t⟩:=rs.inv
 next=>
  obtain⟨_,_,rfl,r',t⟩:=t.inv
  next=>cases t.inv;cases r.inv;cases r'.inv;exact⟨i,j,rfl,c _ _ G H O k (Same.refl _) (.int _) p⟩
theorem Zqz {ds es:List D}(he:ds=[.lst es]\/ds=[.tup es]) (p:P (.tup es) O) :
  JC K (λxs H Q=>∃p ys,xs=[.ref p]/\((SqL K H p ys/\∀l,H l=none->Q (.ref l) (upd H l (.tup ys)))\/(SqT K H p ys/\Q (.ref p) H))) ds O P:=λg G H Z Q vs k rs c=>by
 rcases he with he|he <;> subst he
 ·obtain⟨_,_,rfl,r,t⟩:=rs.inv
  next=>
   cases t.inv;obtain⟨_,_,rfl,ha,rs⟩:=r.inv
   next=>
    refine⟨_,_,rfl,.inl ⟨SqL.of<|k.live _ _ ha,λl hl=>?_⟩⟩;obtain⟨k2,sg⟩:=k.laid hl (.tup _);exact c _ _ _ _ O k2 sg (.tup Zan<|rs.mono sg) p
 ·obtain⟨_,_,rfl,r,t⟩:=rs.inv
  next=>
   cases t.inv;obtain⟨_,_,rfl,ha,rs⟩:=r.inv
   next=>exact⟨_,_,rfl,.inr ⟨SqT.of<|k.live _ _ ha,c _ _ G H O k (Same.refl _) (.tup ha rs) p⟩⟩
def glue (F H H':Hp):Hp:=λb=>match H b with
 |none=>H' b
 |some _=>F b
theorem Zdl {F H H':Hp}{b:Addr}(h:H b=none):glue F H H' b=H' b:=by unfold glue;rw[h]
theorem Zcz {F H H':Hp}{b:Addr}{o:HO}(h:H b=some o):glue F H H' b=F b:=by unfold glue;rw[h]
theorem Zd2 {G H H':Hp}(l:Same G H):Same G (glue G H H'):=λb o e=>by rw[Zcz (l b o e)];exact e
theorem Zes {G H H':Hp}(l:Same G H) (sh:∀b o,G b=some o->H b=some o->H' b=some o):∀b o,glue G H H' b=some o->H' b=some o/\(G b=some o\/H b=none):=λb o e=>by
 cases q:H b with
 |none=>rw[Zdl q]at e;exact⟨e,.inr rfl⟩
 |some u=>rw[Zcz q]at e;exact⟨sh b o e (l b o e),.inl e⟩
abbrev DSp:=List D->(D->Prop)->Prop
def spD (K:W.Frag) (f:DSp):Sp:=λvs H Q _=>∃F ds Post,Same F H/\Reps K F vs ds/\f ds Post/\∀r H' d,Same H H' -> Rep K (glue F H H') r d->Post d->Q r H'
theorem Za8 {f:DSp}{ta:TA}{E:XK}(h:JA K ta O λds O1=>f ds λd=>P d O1):JE K (tCall (spD K f) [] E ta) O P:=λg G H Z Q k c=>
 h g G H Z _ k λvs ds G1 H1 O1 k1 s1 r1 p1=>by
  show spD K f (vs++[]) H1 Q E;rw[Wbg];refine⟨G1,ds,_,k1.live,r1,p1,λr H' d sh rr pd=>?_⟩;have sg:=Zd2 (H':=H') k1.live;exact c r d _ H' O1 (k1.grow sg sh (Zes k1.live λb o _ e=>sh b o e)) (s1.trans sg) rr pd
abbrev BSp:=List D->List D->(D->List D->Prop)->Prop
def spB (K:W.Frag) (f:BSp):Sp:=λvs H Q _=>∃F a us ws ps ds Post,vs=.ref a::ws/\Same F H/\F a=none/\H a=some (.lst us)/\Reps K F us ps/\Reps K F ws ds/\f ps ds Post /\
 ∀r H' us' ps' d,(∀b o,b≠a->H b=some o->H' b=some o)->H' a=some (.lst us')->Reps K (glue F H H') us' ps' -> Rep K (glue F H H') r d->Post d ps' -> Q r H'
theorem Ok.lend {g:Gm}{G H H':Hp}{Z:St}(k:Ok K g G H Z O) {i:Nat}{x:Slot}{ps ps':List D}{us':List V}{a:Addr}(hx:O[i]?=some x) (ho:x.od=some (.lst ps)) (ha:Z[i]?=some (some (.ref a)))
  (sh:∀b o,b≠a->H b=some o->H' b=some o) (hn:H' a=some (.lst us')) (r:Reps K (glue G H H') us' ps'):Ok K g (glue G H H') H' Z (O.set i<|x.put (.lst ps'))/\Same G (glue G H H'):=by
 obtain⟨a',o,h1,h2,h3,h4,h5⟩:=k.own i x _ hx ho;rw[ha]at h1;cases h1;have sg:=Zd2 (H':=H') k.live;have k2:Ok K g (glue G H H') (upd H' a o) Z O:=by
  refine k.grow sg (λb u e=>?_) λb u e=>?_
  ·by_cases hb:b=a
   ·subst hb;rw[Zan,<- h2];exact e
   ·rw[Zal hb];exact sh b u hb e
  ·have hb:b≠a:=by intro z;subst z;rw[Zcz h2,h4]at e;cases e
   rw[Zal hb];exact Zes k.live (λc w e1 e2=>sh c w (λz=>by subst z;rw[h4]at e1;cases e1) e2) b u e
 have k3:=k2.write hx ho ha (show OwnRep K (glue G H H') (.lst us') (.lst ps') from r);rw[Zta]at k3;have e:upd H' a (.lst us')=H':=by
  funext b
  by_cases hb:b=a
  ·subst hb;rw[Zan,hn]
  ·rw[Zal hb]
 rw[e]at k3;exact⟨k3,sg⟩
theorem Zms {f:BSp}{ta:TA}{E:XK}{i:Nat}{x:Slot}{od:OD}(hx:O[i]?=some x) (ho:x.od=some od) (h:JA K ta O λds O1=>∃y ps,O1[i]?=some y/\y.od=some (.lst ps)/\f ps ds λd ps'=>P d (O1.set i<|y.put (.lst ps'))) :
  JE K (tCall (spB K f) [] E<|tCons (tVar i) ta) O P:=λg G H Z Q k c=>by
 obtain⟨a,o,h1,h2,h3,h4,h5⟩:=k.own i x _ hx ho;refine⟨.ref a,h1,h g G H Z _ k λvs ds G1 H1 O1 k1 s1 r1 ⟨y,ps,q1,q2,p1⟩=>?_⟩;show spB K f ((.ref a::vs)++[]) H1 Q E;rw[Wbg];obtain⟨a',o',w1,w2,w3,w4,w5⟩:=k1.own i y _ q1 q2;rw[h1]at w1;cases w1;cases o' with
 |lst us=>
  refine⟨G1,a,us,vs,ps,ds,_,rfl,k1.live,w4,w2,w3,r1,p1,λr H' us' ps' d sh hn rr rd pd=>?_⟩;obtain⟨k2,sg⟩:=k1.lend q1 q2 h1 sh hn rr;exact c r d _ H' _ k2 (s1.trans sg) rd pd
 |_=>exact absurd w3 (λz=>z)
abbrev NSp:=List D->(List D->Prop)->Prop
def spN (K:W.Frag) (f:NSp):Sp:=λvs H Q _=>∃F ds Post,Same F H/\Reps K F vs ds/\f ds Post /\
 ∀a H' us ps,Same H H' -> H a=none->H' a=some (.lst us)->Reps K (λb=>if b=a then none else glue F H H' b) us ps->Post ps->Q (.ref a) H'
theorem Zjv {f:NSp}{ta:TA}{E:XK}{Po:OD->Evt->Prop}(h:JA K ta O λds O1=>f ds λps=>Po (.lst ps) O1):JO K (tCall (spN K f) [] E ta) O Po:=λg G H Z Q k c=>
 h g G H Z _ k λvs ds G1 H1 O1 k1 s1 r1 p1=>by
  show spN K f (vs++[]) H1 Q E;rw[Wbg];refine⟨G1,ds,_,k1.live,r1,p1,λa H' us ps sh ha hn rr pd=>?_⟩;have sg:Same G1 (λb=>if b=a then none else glue G1 H1 H' b):=λb o e=>by
   have hb:b≠a:=by intro z;subst z;rw[k1.live _ _ e]at ha;cases ha
   try dsimp only
   rw[Qbv hb];exact Zd2 k1.live b o e
  have k2:Ok K g (λb=>if b=a then none else glue G1 H1 H' b) H' Z O1:=k1.grow sg sh λb o e=>by
   try dsimp only at e
   by_cases hb:b=a
   ·rw[Qbw hb]at e;cases e
   ·rw[Qbv hb]at e;exact Zes k1.live (λb o _ e=>sh b o e) b o e
  refine c a _ _ H' O1 k2 (s1.trans sg) ⟨.lst us,hn,(show OwnRep K _ (.lst us) (.lst ps) from rr),by simp,k1.there ha,?_,λj x od' e1 e2 e3=>?_⟩ pd
  ·cases q:g.Xo a with
   |none=>rfl
   |some u=>have z:=(k1.ext a u q).1;rw[ha]at z;cases z
  ·obtain⟨b,oo,w1,w2,_⟩:=k1.own j x od' e1 e2
   rw[e3]at w1;cases w1;rw[ha]at w2;cases w2
end
def startD (N:List Str) (ds:List D):Evt:=ds.map .val++Wad (N.length-ds.length) .any
section
variable {K:W.Frag}
theorem Zeg {g:Gm}{G H:Hp}{N:List Str}{vs:List V}{ds:List D}(rs:Reps K G vs ds) (hl:ds.length<=N.length) (same:∀b o,¬ g.B b->g.Hz b=some o->H b=some o) (lent:∀b,g.B b->H b≠none) (sub:Same g.F G)
  (frz:∀b o,G b=some o->H b=some o/\(g.Hz b=none\/g.F b=some o)) (ext:∀b,g.Xo b=none):Ok K g G H (start N vs) (startD N ds):=by
 have noOd:∀(i:Nat) x od,(startD N ds)[i]?=some x->x.od=some od->False:=λi x od e1 e2=>by
  have hm:=Wav e1;rcases Wa1.mp hm with z|z
  ·obtain⟨d,_,rfl⟩:=Wa2.mp z;cases e2
  ·rw[Wdo]at z;rw[z.2]at e2;cases e2
 refine⟨same,lent,sub,frz,λb o e=>(by rw[ext b]at e;cases e),?_,λi d e=>?_,λi x od e1 e2=>(noOd i x od e1 e2).elim,λi j x y od od' a e1 e2=>(noOd i x od e1 e2).elim⟩
 ·unfold start startD
  rw[Wal,Wal,Waa,Waa,Wa5,Wa5,rs.length]
 ·unfold startD at e
  unfold start;by_cases hi:i<ds.length
  ·rw[Waz (by simpa using hi),Waf]at e
   cases q:ds[i]? with
   |none=>rw[q]at e;cases e
   |some d'=>
    rw[q]at e;have e:Slot.val d'=Slot.val d:=by simpa using e
    cases e;obtain⟨v,h1,h2⟩:=rs.get q;refine⟨v,?_,h2⟩;rw[Waz (by rw[Waa,rs.length];exact hi),Waf,h1];rfl
  ·rw[Wax (by simpa using hi),Wbe]at e
   split at e <;> cases e
theorem Zdc {f:DSp}{t:TS}{N:List Str}{vs:List V}{H:Hp}{Q:VK}{E:XK}(ht:∀ds Post,f ds Post->ds.length<=N.length/\JS K t (startD N ds) ⟨λ_=>Post .non,λd _=>Post d,λ_=>False,λ_=>False,λ_ _=>False⟩) (h:spD K f vs H Q E) :
  t { nx:=λ_ H'=>Q .non H',rt:=Q } (start N vs) H:=by
 obtain⟨F,ds,Post,l,rs,hf,q⟩:=h;obtain⟨hl,hj⟩:=ht ds Post hf;have fin:∀{v:V}{d:D}{Z:St}{G H':Hp}{O:Evt},Ok K ⟨λ_=>False,F,H,λ_=>none⟩ G H' Z O -> Rep K G v d->Post d->Q v H':=λ{v d Z G H' O} k r p=>by
  refine q v H' d (λb o e=>k.same b o (λz=>z) e) (r.mono λb o e=>?_) p;obtain⟨e1,e2⟩:=k.frz b o e;rcases e2 with z|z
  ·rw[Zdl z];exact e1
  ·rw[Zcz (l b o z)];exact z
 refine hj ⟨λ_=>False,F,H,λ_=>none⟩ F H (start N vs) _ (Zeg rs hl (λ_ _ _ e=>e) (λ_ z=>z.elim) (Same.refl _) (λb o e=>⟨l b o e,.inr e⟩) λ_=>rfl) ⟨λZ G H' O k p=>fin k .non p,λv d Z G H' O k r p=>fin k r p,λ_ _ _ _ _ z=>z.elim,λ_ _ _ _ _ z=>z.elim,λ_ _ _ _ _ _ _ _ z=>z.elim⟩
theorem Zw6 {f:NSp}{t:TS}{N:List Str}{vs:List V}{H:Hp}{Q:VK}{E:XK}(ht:∀ds Post,f ds Post->ds.length<=N.length/\JS K t (startD N ds) ⟨λ_=>False,λ_ _=>False,λ_=>False,λ_=>False,λod _=>∃ps,od=.lst ps/\Post ps⟩) (h:spN K f vs H Q E) :
  t { nx:=λ_ H'=>Q .non H',rt:=Q } (start N vs) H:=by
 obtain⟨F,ds,Post,l,rs,hf,q⟩:=h;obtain⟨hl,hj⟩:=ht ds Post hf;refine hj ⟨λ_=>False,F,H,λ_=>none⟩ F H (start N vs) _ (Zeg rs hl (λ_ _ _ e=>e) (λ_ z=>z.elim) (Same.refl _) (λb o e=>⟨l b o e,.inr e⟩) λ_=>rfl) ⟨λ_ _ _ _ _ z=>z.elim,λ_ _ _ _ _ _ _ _ z=>z.elim,λ_ _ _ _ _ z=>z.elim,λ_ _ _ _ _ z=>z.elim,λa od Z G H' O k pd ⟨ps,e,p⟩=>?_⟩;subst e;obtain⟨o,h1,h2,h3,h4,h5,h6⟩:=pd;cases o with
 |lst us=>
  refine q a H' us ps (λb o e=>k.same b o (λz=>z) e) h4 h1 (Reps.mono (λb o e=>?_) (show Reps K G us ps from h2)) p;have hb:b≠a:=by intro z;subst z;rw[h3]at e;cases e
  try dsimp only
  rw[Qbv hb];obtain⟨e1,e2⟩:=k.frz b o e;rcases e2 with z|z
  ·rw[Zdl z];exact e1
  ·rw[Zcz (l b o z)];exact z
 |_=>exact absurd h2 (λz=>z)
theorem Zlo {f:BSp}{t:TS}{N:List Str}{vs:List V}{H:Hp}{Q:VK}{E:XK}(ht:∀ps ds Post,f ps ds Post->ds.length+1<=N.length/\JS K t (.bor (.lst ps)::startD N.tail ds) ⟨λO=>∃ps',O[0]?=some (.bor (.lst ps'))/\Post .non ps',λd O=>∃ps',O[0]?=some (.bor (.lst ps'))/\Post d ps',λ_=>False,λ_=>False,λ_ _=>False⟩) (h:spB K f vs H Q E) :
  t { nx:=λ_ H'=>Q .non H',rt:=Q } (start N vs) H:=by
 obtain⟨F,a,us,ws,ps,ds,Post,rfl,l,fa,ha,ru,rs,hf,q⟩:=h;obtain⟨hl,hj⟩:=ht ps ds Post hf;have fin:∀{v:V}{d:D}{Z:St}{G H':Hp}{O:Evt}{ps':List D},Ok K ⟨λb=>b=a,F,H,λ_=>none⟩ G H' Z O -> O[0]?=some (.bor (.lst ps'))->Rep K G v d->Post d ps' -> Q v H':=λ{v d Z G H' O ps'} k e0 r p=>by
  obtain⟨a',o,h1,h2,h3,h4,h5⟩:=k.own 0 _ _ e0 rfl;have ea:a'=a:=h5;subst ea;cases o with
  |lst us'=>
   have up:Same G (glue F H H'):=λb o e=>by
    obtain⟨e1,e2⟩:=k.frz b o e;rcases e2 with z|z
    ·rw[Zdl z];exact e1
    ·rw[Zcz (l b o z)];exact z
   exact q v H' us' ps' d (λb o hb e=>k.same b o hb e) h2 (Reps.mono up (show Reps K G us' ps' from h3)) (r.mono up) p
  |_=>exact absurd h3 (λz=>z)
 cases N with
 |nil=>simp at hl
 |cons n0 N=>
  have hl':ds.length<=N.length:=by simpa using hl
  have k0:=Zeg (K:=K) (H:=H) (g:=⟨λb=>b=a,F,H,λ_=>none⟩) (N:=N) rs hl' (λ_ _ _ e=>e) (λb z=>by subst z;rw[ha];intro w;cases w) (Same.refl _) (λb o e=>⟨l b o e,.inr e⟩) λ_=>rfl;have e1:start (n0::N) (.ref a::ws)=some (.ref a)::start N ws:=by
   unfold start;rw[Wa3,Wag,Wag,Nat.add_sub_add_right];rfl
  rw[e1];have noOd:∀(i:Nat) x od,(startD N ds)[i]?=some x->x.od=some od->False:=λi x od e1 e2=>by
   have hm:=Wav e1;rcases Wa1.mp hm with z|z
   ·obtain⟨d,_,rfl⟩:=Wa2.mp z;cases e2
   ·rw[Wdo]at z;rw[z.2]at e2;cases e2
  have k1:Ok K ⟨λb=>b=a,F,H,λ_=>none⟩ F H (some (.ref a)::start N ws) (.bor (.lst ps)::startD N ds):=by
   refine⟨k0.same,k0.lent,k0.sub,k0.frz,λb o e=>(by cases e),(by rw[Wag,Wag,k0.len]),λi d e=>?_,λi x od e1 e2=>?_,λi j x y od od' c e1 e2 e3 e4 _ _=>?_⟩
   ·cases i with
    |zero=>cases e
    |succ i=>exact k0.val i d e
   ·cases i with
    |zero=>cases e1;cases e2;exact⟨a,.lst us,rfl,ha,ru,fa,rfl⟩
    |succ i=>exact(noOd i x od e1 e2).elim
   ·cases i with
    |zero=>cases j with
     |zero=>rfl
     |succ j=>exact(noOd j y od' e3 e4).elim
    |succ i=>exact(noOd i x od e1 e2).elim
  exact hj _ F H _ _ k1 ⟨λZ G H' O k ⟨ps',e,p⟩=>fin k e .non p,λv d Z G H' O k r ⟨ps',e,p⟩=>fin k e r p,λ_ _ _ _ _ z=>z.elim,λ_ _ _ _ _ z=>z.elim,λ_ _ _ _ _ _ _ _ z=>z.elim⟩
theorem Zbi {f:DSp}{n:Nat}(h:∀ds Post,f ds Post->ds.length=n):∀vs H Q E,spD K f vs H Q E->vs.length=n:=λvs H Q E hq_=>by obtain⟨F,ds,Post,l,rs,hf,q⟩:=hq_;rw[rs.length];exact h ds Post hf
theorem Zo3 {f:NSp}{n:Nat}(h:∀ds Post,f ds Post->ds.length=n):∀vs H Q E,spN K f vs H Q E->vs.length=n:=λvs H Q E hq_=>by obtain⟨F,ds,Post,l,rs,hf,q⟩:=hq_;rw[rs.length];exact h ds Post hf
theorem Zet {f:BSp}{n:Nat}(h:∀ps ds Post,f ps ds Post->ds.length+1=n):∀vs H Q E,spB K f vs H Q E->vs.length=n:=λvs H Q E hq_=>by obtain⟨F,a,us,ws,ps,ds,Post,e,l,fa,ha,ru,rs,hf,q⟩:=hq_;rw[e,Wag,rs.length];exact h ps ds Post hf
end
def JGn (K:W.Frag) (n:Nat) (t:TG) (d:D) (O:Evt) (P:Evt->Prop):Prop:=
 ∀g G H Z v (R:St->Hp->Prop),Ok K g G H Z O -> Rep K G v d->(∀Z' G' H' O',Ok K g G' H' Z' O' -> Same G G' -> (∀j,n<=j -> Z'[j]? = Z[j]?)->P O' -> R Z' H')->t v Z H R
def JGsn (K:W.Frag) (n:Nat) (t:TGs) (ds:List D) (O:Evt) (P:Evt->Prop):Prop:=
 ∀g G H Z vs (R:St->Hp->Prop),Ok K g G H Z O -> Reps K G vs ds->(∀Z' G' H' O',Ok K g G' H' Z' O' -> Same G G' -> (∀j,n<=j -> Z'[j]? = Z[j]?)->P O' -> R Z' H')->t vs Z H R
section
variable {K:W.Frag}{O:Evt}
theorem Zp6 {n:Nat}{P:Evt->Prop}(p:P O):JGsn K n gNil [] O P:=λg G H Z vs R k r c=>by cases r;exact⟨rfl,c Z G H O k (Same.refl _) (λ_ _=>rfl) p⟩
theorem Ziq {n:Nat}{t:TG}{u:TGs}{d:D}{ds:List D}{P:Evt->Prop}(h:JGn K n t d O λO1=>JGsn K n u ds O1 P):JGsn K n (gCons t u) (d::ds) O P:=λg G H Z vs R k r c=>by
 obtain⟨_,_,rfl,r1,rr⟩:=r.inv
 next=>exact⟨_,_,rfl,h g G H Z _ _ k r1 λZ1 G1 H1 O1 k1 s1 e1 p1=>p1 g G1 H1 Z1 _ R k1 (rr.mono s1) λZ2 G2 H2 O2 k2 s2 e2 p2=>c Z2 G2 H2 O2 k2 (s1.trans s2) (λj hj=>(e2 j hj).trans (e1 j hj)) p2⟩
theorem Zus {n m:Nat}{t:TGs}{ds:List D}{P:Evt->Prop}(hl:ds.length=m) (h:JGsn K n t ds O P):JGn K n (gTup K m t) (.tup ds) O P:=λg G H Z v R k r c=>by
 obtain⟨_,_,rfl,ha,rs⟩:=r.inv
 next=>exact⟨_,_,rfl,SqT.of<|k.live _ _ ha,by rw[rs.length];exact hl,h g G H Z _ R k rs c⟩
end
def compD (n:Nat) (sel:List Nat) (O:Evt):Evt:=Wad n .any++sel.map λi=>(O[i]?).getD .any
def backAt (n:Nat) (sel:List Nat) (Oi:Evt) (i:Nat) (x:Slot):Slot:=match x with
 |.val d=>.val d
 |.any=>.any
 |x=>match sel.idxOf? i with
  |none=>x
  |some j=>match Oi[n+j]? with
   |some (.own o)=>.own o
   |some (.bor o)=>.bor o
   |some (.ownA a o)=>.ownA a o
   |_=>.any
def backD (n:Nat) (sel:List Nat) (Oi:Evt):Nat->Evt->Evt
 |_,[]=>[]
 |i,x::r=>backAt n sel Oi i x::backD n sel Oi (i+1) r
theorem Zdb (n:Nat) (sel:List Nat) (Oi:Evt):∀(O:Evt) (k i:Nat),(backD n sel Oi k O)[i]?=(O[i]?).map (backAt n sel Oi<|k+i)
 |[],k,i=>by simp[backD]
 |x::r,k,0=>by simp[backD]
 |x::r,k,i+1=>by
  have:=Zdb n sel Oi r (k+1) i;simp only[backD,List.getElem?_cons_succ];rw[this,show k+1+i=k+(i+1) by omega]
theorem Zig (n:Nat) (sel:List Nat) (Oi:Evt):∀(O:Evt) (k:Nat),(backD n sel Oi k O).length = O.length
 |[],k=>rfl
 |x::r,k=>by simp[backD,Zig n sel Oi r (k+1)]
theorem Zed {sel:List Nat}{i j:Nat}(h:sel.idxOf? i=some j):sel[j]?=some i:=by
 have h2:=List.idxOf?_eq_some_iff.mp h;obtain⟨hj,e,_⟩:=h2;rw[Wab hj,e]
theorem Zoy {n:Nat}{sel:List Nat}{Oi:Evt}{i:Nat}{x y:Slot}{od:OD}(h:backAt n sel Oi i x=y) (ho:y.od=some od) :
  (x=y/\sel.idxOf? i=none)\/∃j,sel[j]?=some i /\ Oi[n+j]?=some y/\∃od',x.od=some od':=by
 unfold backAt at h;cases x with
 |any=>subst h;cases ho
 |val d=>subst h;cases ho
 |own o=>
  dsimp only at h;cases q:sel.idxOf? i with
  |none=>rw[q]at h;exact .inl ⟨h,rfl⟩
  |some j=>
   rw[q]at h;dsimp only at h;refine .inr ⟨j,Zed q,?_,o,rfl⟩;cases e:Oi[n+j]? with
   |none=>rw[e]at h;subst h;cases ho
   |some z=>rw[e]at h;cases z <;> (subst h;first|rfl|cases ho)
 |ownA a o=>
  dsimp only at h;cases q:sel.idxOf? i with
  |none=>rw[q]at h;exact .inl ⟨h,rfl⟩
  |some j=>
   rw[q]at h;dsimp only at h;refine .inr ⟨j,Zed q,?_,o,rfl⟩;cases e:Oi[n+j]? with
   |none=>rw[e]at h;subst h;cases ho
   |some z=>rw[e]at h;cases z <;> (subst h;first|rfl|cases ho)
 |bor o=>
  dsimp only at h;cases q:sel.idxOf? i with
  |none=>rw[q]at h;exact .inl ⟨h,rfl⟩
  |some j=>
   rw[q]at h;dsimp only at h;refine .inr ⟨j,Zed q,?_,o,rfl⟩;cases e:Oi[n+j]? with
   |none=>rw[e]at h;subst h;cases ho
   |some z=>rw[e]at h;cases z <;> (subst h;first|rfl|cases ho)
section
variable {K:W.Frag}{O:Evt}
open Classical in
noncomputable def aside (g:Gm) (sel:List Nat) (Z:St) (O:Evt) (H:Hp) (acc:Addr) (ys:List V):Hp:=λb=>
 if b=acc then some (.lst ys) else if ∃(i:Nat) (x:Slot) (od:OD),O[i]?=some x/\x.od=some od/\i ∉ sel /\ Z[i]?=some (some (.ref b)) then H b else g.Xo b
theorem Zda {n:Nat}{sel:List Nat}{Z:St}{j i:Nat}(h:sel[j]?=some i):(compSt n sel Z)[n+j]?=some ((Z[i]?).getD none):=by
 unfold compSt;rw[Wax (by rw[Wa5];omega),Wa5,Nat.add_sub_cancel_left,Waf,h];rfl
theorem Zb4 {n:Nat}{sel:List Nat}{O:Evt}{k:Nat}{x:Slot}(h:(compD n sel O)[k]?=some x):x=.any\/∃j i,k=n+j/\sel[j]?=some i /\ O[i]?=some x:=by
 unfold compD at h;by_cases hk:k<n
 ·rw[Waz (by simpa using hk),Wbe,Qbw hk]at h
  exact .inl (Waw.inj h).symm
 ·rw[Wax (by simpa using hk),Wa5,Waf]at h
  cases e:sel[k-n]? with
  |none=>rw[e]at h;cases h
  |some i=>
   rw[e]at h;have h:(O[i]?).getD .any=x:=by simpa using h
   cases q:O[i]? with
   |none=>rw[q]at h;exact .inl h.symm
   |some y=>rw[q]at h;cases h;exact .inr ⟨k-n,i,by omega,e,q⟩
theorem Zg0 {g:Gm}{G1 H1:Hp}{Z:St}{O1:Evt}{n:Nat}{sel:List Nat}{acc:Addr}{X0:Hp}(hsel:sel.Nodup) (k1:Ok K g G1 H1 Z O1) (hacc:H1 acc=none)
  (hX:∀b o,X0 b=some o->(b=acc/\o=.lst [])\/(b≠acc/\(((∃(i:Nat) (x:Slot) (od:OD),O1[i]?=some x/\x.od=some od/\i ∉ sel /\ Z[i]?=some (some (.ref b)))/\H1 b=some o)\/g.Xo b=some o))):Ok K ⟨g.B,G1,g.Hz,X0⟩ G1 (upd H1 acc (.lst [])) (compSt n sel Z) (compD n sel O1):=by
 have hsl:∀{j j' i:Nat},sel[j]?=some i->sel[j']?=some i->j=j':=λ{j j' i} a b=>by
  obtain⟨h1,e1⟩:=Wah.mp a;obtain⟨h2,e2⟩:=Wah.mp b;exact(List.getElem_inj hsel).mp (e1.trans e2.symm)
 have hGa:G1 acc=none:=by
  cases e:G1 acc with
  |none=>rfl
  |some u=>rw[k1.live _ _ e]at hacc;cases hacc
 have cs:∀{j i:Nat}{a:Addr},sel[j]?=some i->(compSt n sel Z)[n+j]?=some (some (.ref a)) -> Z[i]?=some (some (.ref a)):=λ{j i a} ej e3=>by
  rw[Zda ej]at e3;cases q:Z[i]? with
  |none=>rw[q]at e3;cases e3
  |some w=>rw[q]at e3;cases e3;rfl
 have oldH:∀b o,H1 b=some o->(upd H1 acc (.lst [])) b=some o:=λb o e=>by rw[Zal (Zam e hacc)];exact e
 refine⟨λb o hb e=>oldH b o<|k1.same b o hb e,λb hb z=>?_,Same.refl _,λb o e=>⟨oldH b o<|k1.live b o e,.inr e⟩,λb o e=>?_,?_,λi d e=>?_,λi x od e1 e2=>?_,λi j x y od od' a e1 e2 e3 e4 e5 e6=>?_⟩
 ·cases q:H1 b with
  |none=>exact k1.lent b hb q
  |some u=>rw[oldH b u q]at z;cases z
 ·rcases hX b o e with ⟨rfl,rfl⟩|⟨hb,⟨⟨i0,x0,od0,f1,f2,f3,f4⟩,e⟩|e⟩
  ·refine⟨Zan,hGa,λi x od e1 e2 e3=>?_⟩
   rcases Zb4 e1 with z|⟨j,i',ei,ej,z⟩
   ·subst z;cases e2
   ·subst ei
    obtain⟨a,o,w1,w2,_⟩:=k1.own i' x od z e2;rw[cs ej e3]at w1;cases w1;rw[hacc]at w2;cases w2
  ·obtain⟨a,oo,w1,w2,w3,w4,w5⟩:=k1.own i0 x0 od0 f1 f2
   rw[f4]at w1;cases w1;refine⟨oldH b o e,w4,λi x od e1 e2 e3=>?_⟩;rcases Zb4 e1 with z|⟨j,i',ei,ej,z⟩
   ·subst z;cases e2
   ·subst ei
    have:=k1.dis i0 i' x0 x od0 od b f1 f2 z e2 f4<|cs ej e3;subst this;exact f3<|Wav ej
  ·obtain⟨w1,w2,w3⟩:=k1.ext b o e
   refine⟨oldH b o w1,w2,λi x od e1 e2 e3=>?_⟩;rcases Zb4 e1 with z|⟨j,i',ei,ej,z⟩
   ·subst z;cases e2
   ·subst ei;exact w3 i' x od z e2<|cs ej e3
 ·unfold compD compSt
  simp
 ·rcases Zb4 e with z|⟨j,i',ei,ej,z⟩
  ·cases z
  ·subst ei
   obtain⟨v,w1,w2⟩:=k1.val i' d z;exact⟨v,by rw[Zda ej,w1];rfl,w2⟩
 ·rcases Zb4 e1 with z|⟨j,i',ei,ej,z⟩
  ·subst z;cases e2
  ·subst ei
   obtain⟨a,o,w1,w2,w3,w4,w5⟩:=k1.own i' x od z e2;exact⟨a,o,by rw[Zda ej,w1];rfl,oldH a o w2,w3,w4,w5⟩
 ·rcases Zb4 e1 with z|⟨j1,i1,ei,ej,z⟩
  ·subst z;cases e2
  ·rcases Zb4 e3 with z'|⟨j2,i2,ei',ej',z'⟩
   ·subst z';cases e4
   ·subst ei;subst ei'
    have:=k1.dis i1 i2 x y od od' a z e2 z' e4 (cs ej e5)<|cs ej' e6;subst this;rw[hsl ej ej']
theorem Zhw {Z Z2:St}{O1 O2:Evt}{n:Nat}{sel:List Nat}(hZ:∀j,n<=j -> Z2[j]?=(compSt n sel Z)[j]?) (i:Nat) (y:Slot) (od:OD) (e1:(backD n sel O2 0 O1)[i]?=some y) (e2:y.od=some od) :
  ∃x od',O1[i]?=some x/\x.od=some od' /\ ((x=y/\i ∉ sel)\/∃j,sel[j]?=some i /\ O2[n+j]?=some y /\ Z2[n+j]?=some ((Z[i]?).getD none)):=by
 rw[Zdb]at e1;cases q:O1[i]? with
 |none=>rw[q]at e1;cases e1
 |some x=>
  rw[q]at e1;have e1:backAt n sel O2 i x=y:=by simpa using e1
  rcases Zoy e1 e2 with ⟨z1,z2⟩|⟨j,z1,z2,od',z3⟩
  ·refine⟨x,od,rfl,by rw[z1];exact e2,.inl ⟨z1,λhm=>?_⟩⟩
   rw[List.idxOf?_eq_none_iff]at z2;exact z2 hm
  ·exact⟨x,od',rfl,z3,.inr ⟨j,z1,z2,by rw[hZ (n+j) (by omega)];exact Zda z1⟩⟩
theorem Zgf {g:Gm}{G1 H1 G2 H2 Xv:Hp}{Z Z2:St}{O1 O2:Evt}{n:Nat}{sel:List Nat}{acc:Addr}(k1:Ok K g G1 H1 Z O1) (hacc:H1 acc=none) (k2:Ok K ⟨g.B,G1,g.Hz,Xv⟩ G2 H2 Z2 O2) (hZ:∀j,n<=j -> Z2[j]?=(compSt n sel Z)[j]?)
  (hX:∀b o,b≠acc->(∃(i:Nat) (x:Slot) (od:OD),O1[i]?=some x/\x.od=some od/\i ∉ sel /\ Z[i]?=some (some (.ref b)))->H1 b=some o->Xv b=some o) (hY:∀b o,b≠acc->¬ (∃(i:Nat) (x:Slot) (od:OD),O1[i]?=some x/\x.od=some od/\i ∉ sel /\ Z[i]?=some (some (.ref b)))->g.Xo b=some o->Xv b=some o):Ok K g G2 H2 Z (backD n sel O2 0 O1):=by
 have s2:Same G1 G2:=k2.sub;have src:=Zhw (O1:=O1) (O2:=O2) hZ;refine⟨k2.same,k2.lent,k1.sub.trans s2,λb o e=>?_,λb o e=>?_,by rw[Zig,k1.len],λi d e=>?_,λi y od e1 e2=>?_,λi j x y od od' a e1 e2 e3 e4 e5 e6=>?_⟩
 ·obtain⟨q1,q2⟩:=k2.frz b o e
  refine⟨q1,?_⟩;rcases q2 with z|z
  ·exact .inl z
  ·exact(k1.frz b o z).2
 ·obtain⟨w1,w2,w3⟩:=k1.ext b o e
  have hne:b≠acc:=by intro z;subst z;rw[hacc]at w1;cases w1
  obtain⟨u1,u2,u3⟩:=k2.ext b o<|hY b o hne (λ⟨i,x,od,f1,f2,f3,f4⟩=>w3 i x od f1 f2 f4) e;refine⟨u1,u2,λi y od e1 e2 e3=>?_⟩;obtain⟨x,od',f1,f2,_⟩:=src i y od e1 e2;exact w3 i x od' f1 f2 e3
 ·rw[Zdb]at e
  cases q:O1[i]? with
  |none=>rw[q]at e;cases e
  |some x=>
   rw[q]at e;have e:backAt n sel O2 (0+i) x=.val d:=by simpa using e
   have ex:x=.val d:=by
    unfold backAt at e;cases x with
    |any=>cases e
    |val d'=>exact e
    |own o=>dsimp only at e;split at e <;> first|cases e|(split at e <;> cases e)
    |bor o=>dsimp only at e;split at e <;> first|cases e|(split at e <;> cases e)
    |ownA a o=>dsimp only at e;split at e <;> first|cases e|(split at e <;> cases e)
   subst ex;obtain⟨v,w1,w2⟩:=k1.val i d q;exact⟨v,w1,w2.mono s2⟩
 ·obtain⟨x,od',f1,f2,f3⟩:=src i y od e1 e2
  rcases f3 with ⟨f3,f4⟩|⟨j,f3,f4,f5⟩
  ·subst f3
   obtain⟨a,o,w1,w2,w3,w4,w5⟩:=k1.own i x od f1 e2;have hne:a≠acc:=by intro z;subst z;rw[hacc]at w2;cases w2
   obtain⟨u1,u2,u3⟩:=k2.ext a o<|hX a o hne ⟨i,x,od,f1,e2,f4,w1⟩ w2;exact⟨a,o,w1,u1,w3.mono s2,u2,w5⟩
  ·obtain⟨a,o,w1,w2,w3,w4,w5⟩:=k2.own (n+j) y od f4 e2
   obtain⟨a0,o0,v1,_⟩:=k1.own i x od' f1 f2;rw[f5,v1]at w1;have ea:a0=a:=by cases w1;rfl
   subst ea;exact⟨a0,o,v1,w2,w3,w4,w5⟩
 ·obtain⟨x',od1,f1,f2,_⟩:=src i x od e1 e2
  obtain⟨y',od2,f3,f4,_⟩:=src j y od' e3 e4;exact k1.dis i j x' y' od1 od2 a f1 f2 f3 f4 e5 e6
theorem Ok.base {g:Gm}{G1 F X G5 H5:Hp}{Z5:St}{O5:Evt}(sF:Same G1 F) (hF:∀b o,F b=some o->(g.Hz b=none\/G1 b=some o)) (k5:Ok K ⟨g.B,F,g.Hz,X⟩ G5 H5 Z5 O5):Ok K ⟨g.B,G1,g.Hz,X⟩ G5 H5 Z5 O5:=
 ⟨k5.same,k5.lent,sF.trans k5.sub,λb o q=>by
  obtain⟨q1,q2⟩:=k5.frz b o q;refine⟨q1,?_⟩;rcases q2 with z|z
  ·exact .inl z
  ·exact hF b o z,k5.ext,k5.len,k5.val,k5.own,k5.dis⟩
theorem Zmj {n:Nat}{sel:List Nat}{wi:TI}{t:TG}{tc:TT}{te:TE}{P:OD->Evt->Prop}(hsel:sel.Nodup)
  (h:JI K wi O λds O1=>ds.length<sizeLine/\∃I:Nat->List D->Evt->Prop,I 0 [] (compD n sel O1) /\
   (∀i d ys O2,ds[i]?=some d->I i ys O2->JGn K n t d O2 λO3=>JT K tc O3 λb O4=>if b=true then JE K te O4 λe O5=>I (i+1) (ys++[e]) O5 else I (i+1) ys O4) /\
   ∀ys O2,I ds.length ys O2->P (.lst ys) (backD n sel O2 0 O1)):JO K (tComp n sel wi t tc te) O P:=λg G H Z Q k c=>
 h g G H Z _ k λJ ds G1 H1 O1 k1 s1 it ⟨hz,I,h0,ht,he⟩ acc hacc=>by
  have nacc:∀(i:Nat) x od,O1[i]?=some x->x.od=some od -> Z[i]?≠some (some (.ref acc)):=λi x od e1 e2 e3=>by
   obtain⟨a,o,w1,w2,_⟩:=k1.own i x od e1 e2;rw[e3]at w1;cases w1;rw[hacc]at w2;cases w2
  -- the word at each turn
  let Wd:Nat->St->Hp->Prop:=λi Z' H'=>i<=ds.length/\(∀j,n<=j -> Z'[j]?=(compSt n sel Z)[j]?)/\∃G ys vs Oi,ys.length<=i/\Reps K G vs ys/\Ok K ⟨g.B,G1,g.Hz,aside g sel Z O1 H1 acc vs⟩ G H' Z' Oi/\I i ys Oi
  refine⟨λi m Z' H'=>m=ds.length-i/\Wd i Z' H',⟨ds.length,by simp,Wbu _,λ_ _=>rfl,G1,[],[],compD n sel O1,Waj _,.nil,?_,h0⟩,?_⟩
  ·refine Zg0 hsel k1 hacc λb o e=>?_
   have e:aside g sel Z O1 H1 acc [] b=some o:=e;unfold aside at e;by_cases hb:b=acc
   ·rw[Qbw hb]at e;cases e;exact .inl ⟨hb,rfl⟩
   ·rw[Qbv hb]at e
    split at e
    case isTrue hx=>exact .inr ⟨hb,.inl ⟨hx,e⟩⟩
    case isFalse hx=>exact .inr ⟨hb,.inr e⟩
  ·rintro i m Z2 H2 ⟨rfl,hi,hZ,G2,ys,vs,O2,hy,ry,k2,h2⟩
   have s2:Same G1 G2:=k2.sub;obtain⟨stop,go⟩:=it G2 H2 s2 k2.live;have hacc2:∀{G' H':Hp}{Z':St}{O':Evt}{vs:List V}{F:Hp},Ok K ⟨g.B,F,g.Hz,aside g sel Z O1 H1 acc vs⟩ G' H' Z' O' -> H' acc=some (.lst vs)/\G' acc=none/\∀(i:Nat) x od,O'[i]?=some x->x.od=some od -> Z'[i]?≠some (some (.ref acc)):=λ{G' H' Z' O' vs F} kk=>
    kk.ext acc (.lst vs) (by show aside g sel Z O1 H1 acc vs acc=_;unfold aside;rw[Qbw rfl])
   by_cases hlt:i<ds.length
   ·obtain⟨g1,g2⟩:=go i _ (Wab hlt)
    refine .inr ⟨g1,λZ' H'=>Wd (i+1) Z' H',λZ' H' p'=>⟨ds.length-(i+1),by omega,rfl,p'⟩,λx H3 y=>?_⟩;obtain⟨G3,a1,a2,a3,a4⟩:=g2 x H3 y;have k3:=k2.grow a1 a2 a3;have hG3:∀b o,G3 b=some o->(g.Hz b=none\/G1 b=some o):=λb o q=>(k3.frz b o q).2;have k3':Ok K ⟨g.B,G3,g.Hz,aside g sel Z O1 H1 acc vs⟩ G3 H3 Z2 O2:=⟨k3.same,k3.lent,Same.refl _,λb o q=>⟨(k3.frz b o q).1,.inr q⟩,k3.ext,k3.len,k3.val,k3.own,k3.dis⟩;have ry3:Reps K G3 vs ys:=ry.mono a1;have s13:Same G1 G3:=s2.trans a1;refine ht i _ ys O2 (Wab hlt) h2 ⟨g.B,G3,g.Hz,aside g sel Z O1 H1 acc vs⟩ G3 H3 Z2 x _ k3' a4 λZ4 G4 H4 O4 k4 s4 e4 p4=>?_;have hZ4:∀j,n<=j -> Z4[j]?=(compSt n sel Z)[j]?:=λj hj=>(e4 j hj).trans (hZ j hj);refine p4 _ G4 H4 Z4 _ k4 λb G5 H5 O5 k5 s5 p5=>?_;cases b with
    |false=>exact⟨hlt,hZ4,G5,ys,vs,O5,by omega,ry3.mono (s4.trans s5),k5.base s13 hG3,p5⟩
    |true=>
     refine(show JE K te O5 _ from p5) _ G5 H5 Z4 _ k5 λv d G6 H6 O6 k6 s6 r6 p6=>?_;have ry6:Reps K G6 vs ys:=ry3.mono<|s4.trans<|s5.trans s6;obtain⟨b1,b2,b3⟩:=hacc2 k6;refine⟨vs,b1,by rw[ry6.length];omega,hlt,hZ4,G6,ys++[d],vs++[v],O6,by rw[Wal,Wbo];omega,ry6.append (.cons r6 .nil),?_,p6⟩;have k7:=k6.base s13 hG3;have oldH:∀b o,b≠acc->H6 b=some o->(upd H6 acc (.lst<|vs++[v])) b=some o:=λb o hb e=>by rw[Zal hb];exact e
     have aNe:∀b o,b≠acc->aside g sel Z O1 H1 acc (vs++[v]) b=some o->aside g sel Z O1 H1 acc vs b=some o:=λb o hb e=>by
      unfold aside at e ⊢;rw[Qbv hb]at e ⊢;exact e
     refine⟨λb o hb e=>?_,λb hb=>?_,k7.sub,λb o e=>?_,λb o e=>?_,k7.len,k7.val,λi x od e1 e2=>?_,k7.dis⟩
     ·have hne:b≠acc:=by
       intro z;subst z;have e:g.Hz b=some o:=e;rw[k1.there hacc]at e;cases e
      exact oldH b o hne<|k7.same b o hb e
     ·by_cases hne:b=acc
      ·subst hne;rw[Zan];intro z;cases z
      ·rw[Zal hne];exact k7.lent b hb
     ·have hne:b≠acc:=by intro z;subst z;rw[b2]at e;cases e
      exact⟨oldH b o hne (k7.frz b o e).1,(k7.frz b o e).2⟩
     ·by_cases hne:b=acc
      ·subst hne
       have e:aside g sel Z O1 H1 b (vs++[v]) b=some o:=e;unfold aside at e;rw[Qbw rfl]at e;cases e;exact⟨Zan,b2,b3⟩
      ·obtain⟨w1,w2,w3⟩:=k7.ext b o (aNe b o hne e)
       exact⟨oldH b o hne w1,w2,w3⟩
     ·obtain⟨a,o,w1,w2,w3,w4,w5⟩:=k7.own i x od e1 e2
      have hne:a≠acc:=by intro z;subst z;exact b3 i x od e1 e2 w1
      exact⟨a,o,w1,oldH a o hne w2,w3,w4,w5⟩
   ·have e:i=ds.length:=by omega
    subst e;refine .inl ⟨stop,?_⟩;obtain⟨b1,b2,b3⟩:=hacc2 k2;have src:=Zhw (O1:=O1) (O2:=O2) hZ;have k9:Ok K g G2 H2 Z (backD n sel O2 0 O1):=Zgf k1 hacc k2 hZ (λb o hb hx e=>by show aside g sel Z O1 H1 acc vs b=_;unfold aside;rw[Qbv hb,Qbw hx];exact e) (λb o hb hx e=>by show aside g sel Z O1 H1 acc vs b=_;unfold aside;rw[Qbv hb,Qbv hx];exact e);refine c acc _ G2 H2 _ k9 (s1.trans s2) ⟨.lst vs,b1,(show OwnRep K G2 (.lst vs) (.lst ys) from ry),b2,k1.there hacc,?_,λi y od e1 e2 e3=>?_⟩<|he ys O2 h2
    ·cases q:g.Xo acc with
     |none=>rfl
     |some u=>have z:=(k1.ext acc u q).1;rw[hacc]at z;cases z
    ·obtain⟨x',od1,f1,f2,_⟩:=src i y od e1 e2
     exact nacc i x' od1 f1 f2 e3
theorem Zs3 {n:Nat}{sel:List Nat}{wi:TI}{t:TG}{tc:TT}{te:TE}{P:D->Evt->Prop}(hsel:sel.Nodup)
  (h:JI K wi O λds O1=>ds.length<sizeLine/\∃I:Nat->List D->Evt->Prop,I 0 [] (compD n sel O1) /\
   (∀i d ys O2,ds[i]?=some d->I i ys O2->JGn K n t d O2 λO3=>JT K tc O3 λb O4=>if b=true then JE K te O4 λe O5=>I (i+1) (ys++[e]) O5 else I (i+1) ys O4) /\
   ∀ys O2,I ds.length ys O2->P (.lst ys) (backD n sel O2 0 O1)):JE K (tComp n sel wi t tc te) O P:=
 Zbo (Zmj hsel λg G H Z R k c=>h g G H Z R k λJ ds G' H' O' k' s' it ⟨z,I,h0,ht,he⟩=>c J ds G' H' O' k' s' it ⟨z,I,h0,ht,λys O2 q=>⟨ys,rfl,he ys O2 q⟩⟩)
theorem Zkm {n:Nat}{sel:List Nat}{wi:TI}{t:TG}{tc:TT}{te:TE}{P:D->Evt->Prop}(hsel:sel.Nodup)
  (h:JI K wi O λds O1=>ds.length<sizeLine/\∃(fix:Evt) (p:D->Bool) (f:D->D),compD n sel O1=Wad n .any++fix /\
   (∀(i:Nat) d (ts:Evt),ds[i]?=some d->ts.length=n->JGn K n t d (ts++fix) λO3=>JT K tc O3 λb O4=>b=p d/\if b=true then JE K te O4 λe O5=>e=f d/\∃ts',ts'.length=n /\ O5=ts'++fix else ∃ts',ts'.length=n /\ O4=ts'++fix) /\
   P (.lst ((ds.filter p).map f)) (backD n sel (Wad n .any++fix) 0 O1)):JE K (tComp n sel wi t tc te) O P:=by
 refine Zs3 hsel λg G H Z R k c=>h g G H Z R k λJ ds G' H' O' k' s' it ⟨z,fix,p,f,e0,ht,he⟩=>c J ds G' H' O' k' s' it ⟨z,λi ys O=>ys=((ds.take i).filter p).map f/\∃ts:Evt,ts.length=n /\ O = ts++fix,?_,?_,?_⟩
 ·exact⟨by simp,_,by simp,e0⟩
 ·rintro i d ys O2 hd ⟨rfl,ts,hts,rfl⟩
  have tk:ds.take (i+1)=ds.take i++[d]:=by
   rw[Wcv,hd];rfl
  intro g G H Z v R k r c;refine ht i d ts hd hts g G H Z v R k r λZ' G' H' O' k' s' e' q=>c Z' G' H' O' k' s' e' λg G H Z Q k c=>q g G H Z Q k λb G' H' O' k' s' ⟨eb,q⟩=>c b G' H' O' k' s' ?_;cases b with
  |true=>
   rw[Qbw rfl]at q ⊢;refine q.mono λe O5 ⟨e1,ts',h1,h2⟩=>⟨?_,ts',h1,h2⟩;rw[tk,Wbv,Wau,Wbz,<- eb,e1];rfl
  |false=>
   rw[Qbv Wao]at q ⊢;obtain⟨ts',h1,h2⟩:=q;refine⟨?_,ts',h1,h2⟩;rw[tk,Wbv,Wau,Wbz,<- eb];simp
 ·rintro ys O2 ⟨rfl,ts,hts,rfl⟩
  rw[Wcm];have e:backD n sel (ts++fix) 0 O'=backD n sel (Wad n .any++fix) 0 O':=by
   apply Wby
   intro i;rw[Zdb,Zdb];congr 1
   funext x
   unfold backAt;have e2:∀j,(ts++fix)[n+j]?=(Wad n Slot.any++fix)[n+j]?:=λj=>by
    rw[Wax (by omega),Wax (by simp),hts,Wa5]
   simp only[e2]
  rw[e];exact he
end
end L2
set_option Elab.async false
set_option linter.all false
set_option maxRecDepth 100000
namespace HT
open PySem PyProof.Rows
section
variable {prog:Program}{w:World}{A:Around}{E:Qb0}{s:Shared}
theorem getItem_tuple_whole {t sl:Addr}{items:Array Value}{vl vu:Value}{lo hi:Option Int}{Q:Qb0}(ht:IsTup s.heap t items) (hs:s.heap.IsSliceOf sl vl vu .none) (pl:IsPart vl lo) (pu:IsPart vu hi)
  (hw:sIx items.size 0 lo=0/\sIx items.size items.size hi=items.size) (h:Q (.ref t) s):wpAny (model prog w) A (getItem (.ref t) (.ref sl)) Q E s:=by
 obtain⟨os,hos,hcs,hds⟩:=id hs;have hTs:s.TypeIs (.ref sl) "slice":=⟨os,hos,hcs⟩;unfold getItem
 try with_reducible refine Qbq ?_
 first|refine Qbn (Qbo ?_)|skip
 refine Qbn (wpAny_sequenceKey ht.typeIs (by decide) ?_);refine Qbn (wpAny_callSpecial?_slot (name:=Str.ofString "__getitem__") ht.typeIs PyProof.Rows.slot_tuple_getitem
  (wpAny_call_entry PyProof.Rows.slot_tuple_getitem ht.typeIs entry_tuple_getitem ?_ (args_tuple_getitem _ _)))
 show wpAny _ _ (Builtin.Tuple.tupleItemsOf (.ref t) >>= _) _ _ s;refine Qbn<|tupleItemsOf_ ht ?_;refine Qbn<|wpAny_typeOf hTs ?_;rw[Qbw (by decide)];refine Qbn<|Zdr hs pl pu ?_;have hyes:(((sIx items.size 0 lo:Nat):Int) == 0 && (1:Int) == 1 && (sIx items.size items.size hi-sIx items.size 0 lo) == items.size)=true:=by
  rw[hw.1,hw.2];simp
 show wpAny _ _ (if (((sIx items.size 0 lo:Nat):Int) == 0 && (1:Int) == 1 && (sIx items.size items.size hi-sIx items.size 0 lo) == items.size)=true then _ else _) _ _ s;rw[Qbw hyes]
 first
  |exact Qbo ⟨_,rfl,Qbo h⟩
  |exact Qbo ⟨_,rfl,h⟩
  |exact Qbn (Qbo (Qbo ⟨_,rfl,Qbo h⟩))
  | (refine Qbn (Qbn (wpAny_typeOf ht.typeIs (Qbo ?_)))
     rw[Qbw (by decide)];exact Qbn (Qbt (Qbo ⟨_,rfl,Qbo h⟩)))
end
end HT
namespace L2
open PySem PySem.Spec PyProof.Rows
section
variable {X:Cx}
def rSlT' (K:W.Frag):V->Option Int->Option Int->Hp->VK->Prop:=λx lo hi H Q=>∃a xs,x=.ref a/\SqT K H a xs /\
 ((HT.sIx xs.length 0 lo=0/\HT.sIx xs.length xs.length hi=xs.length)->Q (.ref a) H) /\
 (¬ (HT.sIx xs.length 0 lo=0/\HT.sIx xs.length xs.length hi=xs.length)->∀p,H p=none->Q (.ref p) (upd H p (.tup<|cutV xs lo hi)))
theorem Ztk:SlR X (rSlT' X.K):=by
 intro pins s Z H x v vl vu lo hi sl Q I rx hs pl pu h;obtain⟨a,xs,rfl,hx,q1,q2⟩:=h;by_cases hw:HT.sIx xs.length 0 lo=0/\HT.sIx xs.length xs.length hi=xs.length
 ·cases rx
  obtain⟨its,r,ht,hz⟩:=I.tuple hx;have hlen:its.toArray.size=xs.length:=by rw[Wae];exact r.length.symm
  exact⟨"tuple",_,PyProof.Rows.slot_tuple_getitem.lookup,ht.typeIs,HT.getItem_tuple_whole ht hs pl pu (by rw[hlen];exact hw) ⟨.ref a,H,I,rfl,q1 hw⟩⟩
 ·exact Zvz pins s Z H (.ref a) v vl vu lo hi sl Q I rx hs pl pu ⟨a,xs,rfl,hx,hw,q2 hw⟩
def rSlU (K:W.Frag):V->Option Int->Option Int->Hp->VK->Prop:=λx lo hi H Q=>rSlL K x lo hi H Q\/rSlT' K x lo hi H Q
theorem slU:SlR X (rSlU X.K):=Zuf.or Ztk
def tSlR (K:W.Frag) (te:TE):TE:=λZ H Q=>te Z H λx H1=>∃a xs,x=.ref a/\SqT K H1 a xs/\∀p,H1 p=none->Q (.ref p) (upd H1 p (.tup xs.reverse))
def rCatT' (K:W.Frag):R2:=λx y H Q=>∃a b xs ys,x=.ref a/\y=.ref b/\SqT K H a xs/\SqT K H b ys/\xs.length+ys.length<=sizeLine /\
 (xs=[]->Q (.ref b) H)/\(xs≠[]->ys=[]->Q (.ref a) H)/\(xs≠[]->ys≠[]->∀p,H p=none->Q (.ref p) (upd H p (.tup<|xs++ys)))
theorem Zpu:OpR X (binaryOp .Add) (rCatT' X.K):=by
 intro pins s Z H x y v u Q I rx ry h;obtain⟨a,b,xs,ys,rfl,rfl,ha,hb,hz,q0,q1,q2⟩:=h;by_cases hx:xs=[]
 ·cases rx
  cases ry;obtain⟨its,r1,p1,_⟩:=I.tuple ha;obtain⟨its2,r2,p2,_⟩:=I.tuple hb;obtain⟨⟨cls,dd,data,sl⟩,ho,hc,n,hd⟩:=id p1;obtain⟨⟨cls2,dd2,data2,sl2⟩,ho2,hc2,n2,hd2⟩:=id p2;simp only at hc hd hc2 hd2;subst hc hd hc2 hd2;exact concat_meets ⟨_,ho,rfl⟩ ⟨_,ho2,rfl⟩ noFill_tuple_add seq_tuple_add PySem.F.slot_tuple_add PySem.F.entry_tuple_add (PySem.F.args_tuple_add_2 _ _)
   (tuple_addW0 a b its.toArray its2.toArray n n2 dd dd2 sl sl2 (by simp[r1.nil_iff.mpr hx])) ⟨ho,ho2,⟨.ref b,H,I,rfl,q0 hx⟩⟩
 ·exact Zur pins s Z H (.ref a) (.ref b) v u Q I rx ry ⟨a,b,xs,ys,rfl,rfl,ha,hb,hx,hz,q1 hx,q2 hx⟩
def rAddU (K:W.Frag):R2:=λx y H Q=>rI0 (λi j=>.int<|i+j) x y H Q\/(rCatT' K x y H Q\/rCat x y H Q)
theorem Zuz:OpR X (binaryOp .Add) (rAddU X.K):=Zv9.or<|Zpu.or Zw2
theorem Zbd:OpR X (compareOp .Eq) rEq:=Zxv
theorem Zkt:OpR X (compareOp .NotEq) rNe:=Zxu
def rIxD:R2:=λx y H Q=>∃a v,x=.ref a/\DGet H a y (some v)/\Q v H
theorem Zso (hu:X.A.units+1<cLine):IxR X rIxD:=by
 intro value slice pins s Z H x y v u Q I rx ry h hs;obtain⟨a,w',rfl,g,q⟩:=h;cases rx;exact tail_any (Zjl I g) PySem.F.slot_dict_getitem.lookup (Zmi hu I g ry λw2 s3 I3 rw'=>⟨w',H,I3,rw',q⟩) hs
def rIxU (K:W.Frag):R2:=λx y H Q=>rIx K x y H Q\/rIxD x y H Q
theorem ixU (hu:X.A.units+1<cLine):IxR X (rIxU X.K):=Zv2.or<|Zso hu
def rSetD:V->V->V->Hp->(Hp->Prop)->Prop:=λo i v H Q=>∃a H',o=.ref a/\DPut H a i v H' /\ Q H'
theorem Zre (hu:X.A.units+1<cLine):PSet X rSetD:=by
 intro pins s Z H o i v ov iv u Q I ro ri rv h;obtain⟨a,H',rfl,g,q⟩:=h;cases ro;exact Zmd hu I g ri rv λs' I'=>⟨H',I',q⟩
theorem PSet.or {t t':TSet}(h:PSet X t) (h':PSet X t'):PSet X (λo i v H Q=>t o i v H Q\/t' o i v H Q):=by
 intro pins s Z H o i v ov iv u Q I ro ri rv q;rcases q with q|q
 ·exact h pins s Z H o i v ov iv u Q I ro ri rv q
 ·exact h' pins s Z H o i v ov iv u Q I ro ri rv q
def rSetU:V->V->V->Hp->(Hp->Prop)->Prop:=λo i v H Q=>rSetL o i v H Q\/rSetD o i v H Q
theorem setU (hu:X.A.units+1<cLine):PSet X rSetU:=Zq0.or<|Zre hu
def rLenU (K:W.Frag):List V->Hp->VK->Prop:=λxs H Q=>(∃p ys,xs=[.ref p]/\(SqL K H p ys\/SqT K H p ys)/\Q (.int ys.length) H)\/∃a kvs,xs=[V.ref a]/\H a=some (.dK kvs)/\Q (.int kvs.length) H
theorem Znk:CallR X (.builtin "len") (rLenU X.K):=Zir.or Znv
def rIsi (K:W.Frag):List V->Hp->VK->Prop:=λxs H Q=>∃x n t b,xs=[x,.ty n]/\TyOf K H x t/\PySem.W.kitOne K t (.type n)=some b/\Q (.bl b) H
theorem Zj0:CallR X (.builtin "isinstance") (rIsi X.K):=by
 intro pins s Z H xs us Q I r h;obtain⟨x,n,t,b,rfl,ty,e,q⟩:=h;obtain⟨u,u',rfl,rx,rn⟩:=vals2 r;cases (show u'=Value.type n from rn);exact Zoe I rx ty e λtk=>⟨.bl b,H,I.tok _,rfl,q⟩
def insI (n:Nat) (i:Int):Nat:=if i<0 then (i+(n:Int)).toNat else min i.toNat n
def rInsert:V->List V->Hp->VK->Prop:=λx vs H Q=>∃l xs i y,x=.ref l/\vs=[.int i,y]/\H l=some (.lst xs)/\xs.length<sizeLine /\ -(2 ^ 62)<=i/\i<2 ^ 62/\Q .non (upd H l (.lst (xs.take (insI xs.length i)++y::xs.drop (insI xs.length i))))
theorem Zfw:MtM X "list.insert" rInsert:=by
 intro pins s Z H x vs v us Q I rx rv h;obtain⟨l,xs,i,y,rfl,rfl,hH,hz,h1,h2,q⟩:=h;cases rx;obtain⟨ui,uy,rfl,⟨t,rfl⟩,ry⟩:=rv.two;obtain⟨z,its,n,r,hl,e⟩:=I.lstM hH;refine call_meets F.slot_list_insert ⟨_,e,rfl⟩ F.entry_list_insert (F.args_list_insert_3 _ _ _) (PySem.AutoSeq1.list_insert_list_int_val_1 l its.toArray n i t uy (by
  have hf:Builtin.List.listFitsIndex i=true:=by
   unfold Builtin.List.listFitsIndex;rw[Qbx (by omega),Qbx (by omega)];rfl
  rw[hf];decide) (by rw[Wae];omega)) ⟨e,?_⟩
 refine⟨.non,_,I.lset (its':=its.take (insI xs.length i)++uy::its.drop (insI xs.length i)) hH e ?_ ((r.take _).append (.cons ry<|r.drop _)) ?_,rfl,q⟩
 ·have e1:(if i<0 then (i+(its.toArray.size:Int)).toNat else min i.toNat its.toArray.size)=insI xs.length i:=by
   unfold insI;rw[Wae,hl]
  dsimp only;rw[e1];apply Array.ext';simp;rw[Wb4 (by rw[Wbq];exact Waj _)]
 ·rw[Wal,Wag,Wbj,Wbq]
  omega
def rIndexT (K:W.Frag):V->List V->Hp->VK->Prop:=λx vs H Q=>∃a xs y j,x=.ref a/\vs=[y]/\SqT K H a xs/\flatV y=true/\xs.all flatV=true/\j<xs.length /\
 (∃z,xs[j]?=some z/\eqV z y=true)/\(∀m z,m<j->xs[m]?=some z->eqV z y=false)/\Q (.int j) H
end
section
variable {X:Cx}
theorem PI.or {tg iter:Expr}{w w':TI}(h:PI X tg iter w) (h':PI X tg iter w'):PI X tg iter (λZ H R=>w Z H R\/w' Z H R):=by
 intro pins s Z H R I q;rcases q with q|q
 ·exact h pins s Z H R I q
 ·exact h' pins s Z H R I q
def iSeq (K:W.Frag) (tl:TE):TI:=λZ H R=>iList K tl Z H R\/iTup K tl Z H R
theorem Zwg {tg l:Expr}{tl:TE}(hl:PE X l tl):PI X tg l (iSeq X.K tl):=(Zs1 hl).or (Zvq hl)
def tTru (K:W.Frag) (ta:TE):TT:=λZ H Q=>ta Z H λx H'=>∃k,TruV K x H' k/\Q k H'
theorem Zwx {a:Expr}{ta:TE}(ha:PE X a ta) (he:∀whole,isTrue a X.env whole=(do let v <- whole;standAt a.pos;holding [v] (truthy v))):PT X a (tTru X.K ta):=Zpl ha he
end
section
variable {K:W.Frag}{O:Evt}{P:D->Evt->Prop}
theorem Zch {i j:Int}(p:P (.int<|i+j) O):JR2 K (rAddU K) (.int i) (.int j) O P:=λg G H Z Q x y k rx ry c=>by
 cases rx.inv;cases ry.inv;exact .inl ⟨i,j,rfl,rfl,c _ _ G H O k (Same.refl _) (.int _) p⟩
theorem Zhc {ds es:List D}(hz:ds.length+es.length<=sizeLine) (p:P (.tup<|ds++es) O):JR2 K (rAddU K) (.tup ds) (.tup es) O P:=λg G H Z Q x y k rx ry c=>by
 cases rx with
 |tup ha ra=>
  cases ry with
  |tup hb rb=>
   refine .inr (.inl ⟨_,_,_,_,rfl,rfl,SqT.of<|k.live _ _ ha,SqT.of<|k.live _ _ hb,by rw[ra.length,rb.length];exact hz,λe=>?_,λ_ e=>?_,λ_ _ q hq=>?_⟩)
   ·subst e;cases ra;exact c _ _ G H O k (Same.refl _) (.tup hb rb) p
   ·subst e;cases rb;rw[Wbg]at p;exact c _ _ G H O k (Same.refl _) (.tup ha ra) p
   ·obtain⟨k2,sg⟩:=k.laid hq (.tup _)
    exact c _ _ _ _ O k2 sg (.tup Zan ((ra.append rb).mono sg)) p
theorem Zd8 {ds es:List D}(hz:ds.length+es.length<=sizeLine) (p:P (.lst<|ds++es) O):JR2 K (rAddU K) (.lst ds) (.lst es) O P:=λg G H Z Q x y k rx ry c=>by
 obtain⟨_,_,rfl,ha,ra⟩:=rx.inv
 next=>
  obtain⟨_,_,rfl,hb,rb⟩:=ry.inv
  next=>
   refine .inr (.inr ⟨_,_,_,_,rfl,rfl,k.live _ _ ha,k.live _ _ hb,by rw[ra.length,rb.length];exact hz,λq hq=>?_⟩);obtain⟨k2,sg⟩:=k.laid hq (.lst _);exact c _ _ _ _ O k2 sg (.lst Zan ((ra.append rb).mono sg)) p
theorem Zbv {ds:List D}{i:Int}{d:D}(h:atI ds i=some d) (p:P d O):JR2 K (rIxU K) (.tup ds) (.int i) O P:=λg G H Z Q x y k rx ry c=>
 .inl (.inr (.inl<|Zwn h p g G H Z Q x y k rx ry c))
theorem Zaz {ds:List D}{i:Int}{d:D}(h:atI ds i=some d) (p:P d O):JR2 K (rIxU K) (.lst ds) (.int i) O P:=λg G H Z Q x y k rx ry c=>
 .inl (.inl<|Zvj h p g G H Z Q x y k rx ry c)
theorem Zey {n:Nat}{tb:TE}{x:Slot}{ds:List D}(hx:O[n]?=some x) (ho:x.od=some (.lst ds)) (h:JE K tb O λe O1=>∃y es i d,O1[n]?=some y/\y.od=some (.lst es)/\e=.int i/\atI es i=some d/\P d O1):JE K (tOp (rIxU K) (tVar n) tb) O P:=λg G H Z Q k c=>by
 obtain⟨a,o,h1,h2,h3,h4,h5⟩:=k.own n x _ hx ho;refine⟨.ref a,h1,h g G H Z _ k λv e G1 H1 O1 k1 s1 r1 ⟨y,es,i,d,q1,q2,q3,q4,p⟩=>?_⟩;subst q3;cases r1.inv;obtain⟨a',o',w1,w2,w3,w4,w5⟩:=k1.own n y _ q1 q2;rw[h1]at w1;cases w1;cases o' with
 |lst vs=>
  obtain⟨u,z1,z2⟩:=Zhd (show Reps K G1 vs es from w3) q4;exact .inl (.inl ⟨a,vs,i,u,rfl,rfl,SqL.of w2,z1,c u d G1 H1 O1 k1 s1 z2 p⟩)
 |_=>exact absurd w3 (λz=>z)
theorem Zmo {n:Nat}{ti te:TE}{Pp:Pst}(h:JE K te O λd O1=>(∃x od,O1[n]?=some x/\x.od=some od)/\JE K ti O1 λe O2=>∃x ds i j,O2[n]?=some x/\x.od=some (.lst ds)/\e=.int i/\ixN ds.length i=some j/\Pp.nx (O2.set n<|x.put (.lst<|ds.set j d))) :
  JS K (tAsg te<|gSub (tVar n) ti rSetU) O Pp:=λg G H Z E k c=>
 h g G H Z _ k λv d G1 H1 O1 k1 s1 r1 hq_=>by
  obtain⟨⟨x,od,hx,ho⟩,p1⟩:=hq_;obtain⟨a,o,h1,h2,h3,h4,h5⟩:=k1.own n x _ hx ho;refine⟨.ref a,h1,p1 g G1 H1 Z _ k1 λu e G2 H2 O2 k2 s2 r2 ⟨y,ds,i,j,q1,q2,q3,q4,p⟩=>?_⟩;subst q3;cases r2.inv;obtain⟨a',o',w1,w2,w3,w4,w5⟩:=k2.own n y _ q1 q2;rw[h1]at w1;cases w1;cases o' with
  |lst vs=>
   have w3:Reps K G2 vs ds:=w3;exact .inl ⟨a,vs,i,j,rfl,rfl,w2,by rw[w3.length];exact q4,c.nx Z G2 _ _ (k2.write q1 q2 h1 (show OwnRep K G2 (.lst<|vs.set j v) (.lst<|ds.set j d) from w3.set j (r1.mono s2))) p⟩
  |_=>exact absurd w3 (λz=>z)
def valD (kvs:List (Key × D)) (k:Key):Option D:=(kvs.find? λkv=>decide (kv.1=k)).map (·.2)
def putD (kvs:List (Key × D)) (k:Key) (v:D):List (Key × D):=if (kvs.any λkv=>decide (kv.1=k))=true then kvs.map (λkv=>if kv.1=k then (kv.1,v) else kv) else kvs++[(k,v)]
theorem Zo5 {G:Hp}{k:Key}{d:D}:∀{kvs:List (Key × V)}{kds:List (Key × D)},Paired (λ(p:Key × V) (q:Key × D)=>p.1=q.1/\Rep K G p.2 q.2) kvs kds->valD kds k=some d->∃v,valV kvs k=some v/\Rep K G v d
 |_,_,.nil,h=>by cases h
 | (k1,v1)::kvs,(k2,d2)::kds,.cons ⟨e,r⟩ t,h=>by
  have e:k1=k2:=e;subst e;by_cases hk:k1=k
  ·subst hk
   have h:some d2=some d:=by simpa [valD,Wca] using h
   cases h;exact⟨v1,Zff rfl,r⟩
  ·have h:valD kds k=some d:=by simpa [valD,Wca,hk] using h
   obtain⟨v,h1,h2⟩:=Zo5 t h;exact⟨v,by rw[Zfe hk];exact h1,h2⟩
theorem Zo6 {G:Hp}{k:Key}:∀{kvs:List (Key × V)}{kds:List (Key × D)},Paired (λ(p:Key × V) (q:Key × D)=>p.1=q.1/\Rep K G p.2 q.2) kvs kds->(kvs.any λkv=>decide (kv.1=k))=(kds.any λkv=>decide (kv.1=k))
 |_,_,.nil=>rfl
 |_::_,_::_,.cons ⟨e,_⟩ t=>by rw[Wcc,Wcc,Zo6 t,e]
theorem Zn1 {G:Hp}{k:Key}{v:V}{d:D}(rv:Rep K G v d):∀{kvs:List (Key × V)}{kds:List (Key × D)},Paired (λ(p:Key × V) (q:Key × D)=>p.1=q.1/\Rep K G p.2 q.2) kvs kds ->
  Paired (λ(p:Key × V) (q:Key × D)=>p.1=q.1/\Rep K G p.2 q.2) (kvs.map λkv=>if kv.1=k then (kv.1,v) else kv) (kds.map λkv=>if kv.1=k then (kv.1,d) else kv)
 |_,_,.nil=>.nil
 | (k1,v1)::kvs,(k2,d2)::kds,.cons ⟨e,r⟩ t=>by
  have e:k1=k2:=e;subst e;rw[Wa3,Wa3];refine .cons ?_<|Zn1 rv t;by_cases hk:k1=k
  ·rw[Qbw hk,Qbw hk];exact⟨rfl,rv⟩
  ·rw[Qbv hk,Qbv hk];exact⟨rfl,r⟩
theorem Zui {G:Hp}{k:Key}{v:V}{d:D}{kvs:List (Key × V)}{kds:List (Key × D)}(rv:Rep K G v d) (h:Paired (λ(p:Key × V) (q:Key × D)=>p.1=q.1/\Rep K G p.2 q.2) kvs kds) :
  Paired (λ(p:Key × V) (q:Key × D)=>p.1=q.1/\Rep K G p.2 q.2) (putK kvs k v) (putD kds k d):=by
 unfold putK putD;rw[Zo6 h];split
 ·exact Zn1 rv h
 ·exact Paired.snoc h ⟨rfl,rv⟩
theorem Zuy {Po:OD->Evt->Prop}(p:Po (.dct []) O):JO K tDNewK O Po:=λg G H Z Q k c q hq=>by
 obtain⟨k2,pd⟩:=k.fresh (od:=.dct []) hq (show OwnRep K G (.dK []) (.dct []) from .nil);exact c q _ G _ O k2 (Same.refl _) pd p
theorem Zuk {n:Nat}{ti te:TE}{Pp:Pst}(h:JE K te O λd O1=>(∃x od,O1[n]?=some x/\x.od=some od)/\JE K ti O1 λe O2=>∃x kvs i,O2[n]?=some x/\x.od=some (.dct kvs)/\e=.int i/\kvs.length<sizeLine/\Pp.nx (O2.set n<|x.put (.dct<|putD kvs (.inl i) d))) :
  JS K (tAsg te<|gSub (tVar n) ti rSetU) O Pp:=λg G H Z E k c=>
 h g G H Z _ k λv d G1 H1 O1 k1 s1 r1 hq_=>by
  obtain⟨⟨x,od,hx,ho⟩,p1⟩:=hq_;obtain⟨a,o,h1,h2,h3,h4,h5⟩:=k1.own n x _ hx ho;refine⟨.ref a,h1,p1 g G1 H1 Z _ k1 λu e G2 H2 O2 k2 s2 r2 ⟨y,kvs,i,q1,q2,q3,q4,p⟩=>?_⟩;subst q3;cases r2.inv;obtain⟨a',o',w1,w2,w3,w4,w5⟩:=k2.own n y _ q1 q2;rw[h1]at w1;cases w1;cases o' with
  |dK vs=>
   have w3':Paired (λ(p:Key × V) (q:Key × D)=>p.1=q.1/\Rep K G2 p.2 q.2) vs kvs:=w3;exact .inr ⟨a,_,rfl,DPut.k (k:=Sum.inl i) w2 (by rw[Paired.length w3'];exact q4),c.nx Z G2 _ _ (k2.write q1 q2 h1 (show OwnRep K G2 (.dK<|putK vs (.inl i) v) (.dct<|putD kvs (.inl i) d) from Zui (r1.mono s2) w3')) p⟩
  |_=>exact absurd w3 (λz=>z)
theorem Zbe {ds es:List D}(he:ds=[.lst es]\/ds=[.tup es]) (p:P (.int es.length) O):JC K (rLenU K) ds O P:=λg G H Z Q vs k rs c=>.inl<|Zvw he p g G H Z Q vs k rs c
theorem Zep {n:Nat}{x:Slot}{ds:List D}(hx:O[n]?=some x) (ho:x.od=some (.lst ds)) (p:P (.int ds.length) O):JE K (tCB (rLenU K)<|tCons (tVar n) tNil) O P:=λg G H Z Q k c=>by
 obtain⟨v,h1,h2⟩:=Zs4 hx ho p g G H Z Q k c;exact⟨v,h1,.inl h2⟩
def cutD (ds:List D) (lo hi:Option Int):List D:=(ds.drop<|HT.sIx ds.length 0 lo).take (HT.sIx ds.length ds.length hi-HT.sIx ds.length 0 lo)
theorem Zmh {α:Type}(xs:List α) (lo hi:Option Int) (h:HT.sIx xs.length 0 lo=0/\HT.sIx xs.length xs.length hi=xs.length):(xs.drop<|HT.sIx xs.length 0 lo).take (HT.sIx xs.length xs.length hi-HT.sIx xs.length 0 lo)=xs:=by
 rw[h.1,h.2];simp
def JO2 (t:TO) (O:Evt) (K:W.Frag) (P:Option Int->Evt->Prop):Prop:=
 ∀g G H Z (Q:Option Int->Hp->Prop),Ok K g G H Z O -> (∀o G' H' O',Ok K g G' H' Z O' -> Same G G' -> P o O' -> Q o H')->t Z H Q
theorem Zcg {P:Option Int->Evt->Prop}(p:P none O):JO2 tNoPart O K P:=λg G H Z Q k c=>c none G H O k (Same.refl _) p
theorem Zca {te:TE}{P:Option Int->Evt->Prop}(h:JE K te O λd O1=>∃i,d=.int i/\P (some i) O1):JO2 (tPart te) O K P:=λg G H Z Q k c=>
 h g G H Z _ k λv d G1 H1 O1 k1 s1 r1 hq_=>by obtain⟨i,e,p⟩:=hq_;subst e;cases r1.inv;exact⟨i,rfl,c (some i) G1 H1 O1 k1 s1 p⟩
def slD (d:D) (lo hi:Option Int):Option D:=match d with
 |.lst ds=>some (.lst (cutD ds lo hi))
 |.scr ds=>some (.lst (cutD ds lo hi))
 |.tup ds=>some (.tup (cutD ds lo hi))
 |_=>none
theorem Zfn {te:TE}{tl th:TO}(h:JE K te O λd O1=>JO2 tl O1 K λlo O2=>JO2 th O2 K λhi O3=>∃e,slD d lo hi=some e/\P e O3):JE K (tSl (rSlU K) te tl th) O P:=λg G H Z Q k c=>
 h g G H Z _ k λv d G1 H1 O1 k1 s1 r1 p1=>p1 g G1 H1 Z _ k1 λlo G2 H2 O2 k2 s2 p2=>p2 g G2 H2 Z _ k2 λhi G3 H3 O3 k3 s3 hq_=>by
  obtain⟨e,he,p⟩:=hq_;have r3:=r1.mono<|s2.trans s3;have cc:=c.up<|s1.trans<|s2.trans s3;cases r3 with
  |lst ha rs=>
   cases he;refine .inl ⟨_,_,rfl,SqL.of<|k3.live _ _ ha,λq hq=>?_⟩;obtain⟨k4,sg⟩:=k3.laid hq (.lst _);refine cc _ _ _ _ O3 k4 sg (.lst Zan<|Reps.mono sg ?_) p;unfold cutV cutD;rw[rs.length];exact(rs.drop _).take _
  |scr ha rs=>
   cases he;refine .inl ⟨_,_,rfl,k3.live.seq ha,λq hq=>?_⟩;obtain⟨k4,sg⟩:=k3.laid hq (.lst _);refine cc _ _ _ _ O3 k4 sg (.lst Zan<|Reps.mono sg ?_) p;unfold cutV cutD;rw[rs.length];exact(rs.drop _).take _
  |tup ha rs=>
   cases he;refine .inr ⟨_,_,rfl,SqT.of<|k3.live _ _ ha,λhw=>?_,λhw q hq=>?_⟩
   ·rw[rs.length]at hw
    refine cc _ _ _ _ O3 k3 (Same.refl _) (.tup ha ?_) p;unfold cutD;rw[Zmh _ _ _ hw];exact rs
   ·obtain⟨k4,sg⟩:=k3.laid hq (.tup _)
    refine cc _ _ _ _ O3 k4 sg (.tup Zan<|Reps.mono sg ?_) p;unfold cutV cutD;rw[rs.length];exact(rs.drop _).take _
  |_=>cases he
theorem Zxc {te:TE}(h:JE K te O λd O1=>∃ds,d=.tup ds/\P (.tup ds.reverse) O1):JE K (tSlR K te) O P:=λg G H Z Q k c=>
 h g G H Z _ k λv d G1 H1 O1 k1 s1 r1 hq_=>by
  obtain⟨ds,e,p⟩:=hq_;subst e;obtain⟨_,_,rfl,ha,rs⟩:=r1.inv
  next=>
   refine⟨_,_,rfl,SqT.of<|k1.live _ _ ha,λq hq=>?_⟩;obtain⟨k4,sg⟩:=k1.laid hq (.tup _);exact c _ _ _ _ O1 k4 (s1.trans sg) (.tup Zan<|rs.reverse.mono sg) p
theorem Zgk {tl:TE}{P:List D->Evt->Prop}(h:JE K tl O λd O1=>∃ds,(d=.lst ds\/d=.scr ds)/\P ds O1):JI K (iSeq K tl) O P:=λg G H Z R k c=>.inl<|Ztt h g G H Z R k c
theorem Zh2 {tl:TE}{P:List D->Evt->Prop}(h:JE K tl O λd O1=>∃ds,d=.tup ds/\P ds O1):JI K (iSeq K tl) O P:=λg G H Z R k c=>.inr<|Zwt h g G H Z R k c
def truD:D->Option Bool
 |.non=>some false
 |.bl b=>some b
 |.int i=>some (i != 0)
 |.lst ds=>some !ds.isEmpty
 |.tup ds=>some !ds.isEmpty
 |_=>none
theorem Reps.isEmpty {G:Hp}{vs:List V}{ds:List D}(r:Reps K G vs ds):vs.isEmpty=ds.isEmpty:=by cases r <;> rfl
theorem Zbh {t:TE}{Pb:Bool->Evt->Prop}(h:JE K t O λd O1=>∃b,truD d=some b/\Pb b O1):JT K (tTru K t) O Pb:=λg G H Z Q k c=>
 h g G H Z _ k λv d G1 H1 O1 k1 s1 r1 hq_=>by
  obtain⟨b,e,p1⟩:=hq_;refine⟨b,?_,c b G1 H1 O1 k1 s1 p1⟩;cases r1 with
  |non=>cases e;rfl
  |bl b=>cases e;rfl
  |int i=>cases e;rfl
  |str x=>cases e
  |ty n=>cases e
  |scr ha rs=>cases e
  |adr a=>cases e
  |dct ha hl rs=>cases e
  |exc ha=>cases e
  |excR ha hb=>cases e
  |lst ha rs=>cases e;exact .inl ⟨_,SqL.of (k1.live _ _ ha),by rw[rs.isEmpty]⟩
  |tup ha rs=>cases e;exact .inr (.inl ⟨_,SqT.of (k1.live _ _ ha),by rw[rs.isEmpty]⟩)
def tyD:D->Option String
 |.non=>some "NoneType"
 |.bl _=>some "bool"
 |.int _=>some "int"
 |.str _=>some "str"
 |.lst _=>some "list"
 |.tup _=>some "tuple"
 |.dct _ _=>some "dict"
 |_=>none
theorem Zvi {d:D}{n T:String}{b:Bool}(ht:tyD d=some T) (e:∀K,PySem.W.kitOne K (.type T) (.type n)=some b) (p:P (.bl b) O):JC K (rIsi K) [d,.ty n] O P:=λg G H Z Q vs k rs c=>by
 obtain⟨_,_,rfl,r,t⟩:=rs.inv
 next=>
  obtain⟨_,_,rfl,r',t⟩:=t.inv
  next=>
   cases t.inv;cases r'.inv;refine⟨_,n,.type T,b,rfl,?_,e K,c _ _ G H O k (Same.refl _) (.bl b) p⟩;cases r with
   |non=>cases ht;exact .non
   |bl b=>cases ht;exact .bl b
   |int i=>cases ht;exact .int i
   |str x=>cases ht;exact .str x
   |ty n=>cases ht
   |scr ha rs=>cases ht
   |adr a=>cases ht
   |dct ha hl rs=>cases ht;exact .dK (k.live _ _ ha)
   |exc ha=>cases ht
   |excR ha hb=>cases ht
   |lst ha rs=>cases ht;exact .lst (k.live _ _ ha)
   |tup ha rs=>cases ht;exact .tup (k.live _ _ ha)
theorem Zcu {ta tb:TE}(h:JE K ta O λd O1=>∃b,d=.bl b/\if b=true then JE K tb O1 P else P (.bl false) O1):JE K (tAndV ta tb) O P:=λg G H Z Q k c=>
 h g G H Z _ k λv d G1 H1 O1 k1 s1 r1 hq_=>by
  obtain⟨b,e,p1⟩:=hq_;subst e;cases r1.inv;refine⟨b,rfl,?_⟩;cases b with
  |true=>exact(show JE K tb O1 P from p1) g G1 H1 Z Q k1 (c.up s1)
  |false=>exact c _ _ G1 H1 O1 k1 s1 (.bl false) p1
theorem Zvh {ta tb:TE}(h:JE K ta O λd O1=>∃b,d=.bl b/\if b=true then P (.bl true) O1 else JE K tb O1 P):JE K (tOrV ta tb) O P:=λg G H Z Q k c=>
 h g G H Z _ k λv d G1 H1 O1 k1 s1 r1 hq_=>by
  obtain⟨b,e,p1⟩:=hq_;subst e;cases r1.inv;refine⟨b,rfl,?_⟩;cases b with
  |false=>exact(show JE K tb O1 P from p1) g G1 H1 Z Q k1 (c.up s1)
  |true=>exact c _ _ G1 H1 O1 k1 s1 (.bl true) p1
theorem Zh3 {ta:TE}(h:JE K ta O λd O1=>∃b,d=.bl b/\P (.bl !b) O1):JE K (tNotV ta) O P:=λg G H Z Q k c=>
 h g G H Z _ k λv d G1 H1 O1 k1 s1 r1 hq_=>by
  obtain⟨b,e,p1⟩:=hq_;subst e;cases r1.inv;exact⟨b,rfl,c _ _ G1 H1 O1 k1 s1 (.bl !b) p1⟩
theorem Zps {to te:TE}(h:JE K to O λd O1=>∃ns:List Int,d=.tup (ns.map D.int)/\JE K te O1 λe O2=>∃i j,e=.int i/\ns[j]?=some i/\(∀m,m<j->ns[m]?≠some i)/\P (.int (j:Nat)) O2) :
  JE K (tBM K "tuple" (rIndexT K) to<|tCons te tNil) O P:=λg G H Z Q k c=>
 h g G H Z _ k λv d G1 H1 O1 k1 s1 r1 hq_=>by
  obtain⟨ns,e,p1⟩:=hq_;subst e;obtain⟨a,vs,rfl,ha,rs⟩:=r1.inv
  next=>
   refine⟨.inr (.inl ⟨rfl,.inr ⟨_,k1.live _ _ ha⟩⟩),p1 g G1 H1 Z _ k1 λu e G2 H2 O2 k2 s2 r2 ⟨i,j,q1,q2,q3,p⟩=>?_⟩;subst q1;cases r2.inv;have ev:vs=ns.map V.int:=rs.ints;subst ev;have hj:j<ns.length:=(Wah.mp q2).1;refine⟨a,_,.int i,j,rfl,rfl,SqT.of<|k2.live _ _<|s2 _ _ ha,rfl,?_,by simpa using hj,⟨.int i,by rw[Waf,q2];rfl,by simp[eqV]⟩,λm z hm hz=>?_,c _ _ G2 H2 O2 k2 (s1.trans s2) (.int _) p⟩
   ·rw[Wdy];exact Wa4.mpr λ_ _=>rfl
   ·rw[Waf]at hz
    cases e:ns[m]? with
    |none=>rw[e]at hz;cases hz
    |some w=>
     rw[e]at hz;have hz:V.int w=z:=by simpa using hz
     subst hz;have hne:w≠i:=λq=>q3 m hm (by rw[e,q]);show (w == i)=false;exact beq_eq_false_iff_ne.mpr hne
end
section
variable {K:W.Frag}{g:Gm}{G H:Hp}{Z:St}{O:Evt}
theorem Ok.setVal' (k:Ok K g G H Z O) {v:V}{d:D}(i:Nat) (r:Rep K G v d):Ok K g G H (Z.set i<|some v) (O.set i (.val d)):=by
 by_cases hi:i < O.length
 ·exact k.setVal hi r
 ·have hl:=k.len
  rw[Wcp (l:=Z) (by omega),Wcp (l:=O) (by omega)];exact k
theorem Ok.setOwn' (k:Ok K g G H Z O) {a:Addr}{od:OD}(i:Nat) (p:Pend K g G H Z O a od):Ok K g G H (Z.set i<|some (.ref a)) (O.set i (.own od)):=by
 by_cases hi:i < O.length
 ·exact k.setOwn hi p
 ·have hl:=k.len
  rw[Wcp (l:=Z) (by omega),Wcp (l:=O) (by omega)];exact k
theorem Zwd {te:TE}{i:Nat}{P:Pst}(h:JE K te O λd O1=>P.nx (O1.set i (.val d))):JS K (tAsg te<|gName i) O P:=λg G H Z E k c=>
 h g G H Z _ k λv d G1 H1 O1 k1 s1 r1 p1=>c.nx _ G1 H1 _ (k1.setVal' i r1) p1
theorem Ztx {te:TE}{i:Nat}{P:Pst}(h:JO K te O λod O1=>P.nx (O1.set i (.own od))):JS K (tAsg te<|gName i) O P:=λg G H Z E k c=>
 h g G H Z _ k λa od G1 H1 O1 k1 s1 pd p1=>c.nx _ G1 H1 _ (k1.setOwn' i pd) p1
theorem Ztv {i j:Nat}{ta:TA}{P:Pst}(h:JA K ta O λds O1=>∃d e,ds=[d,e]/\P.nx ((O1.set i (.val d)).set j (.val e))):JS K (tPar i j ta) O P:=λg G H Z E k c=>
 h g G H Z _ k λvs ds G1 H1 O1 k1 s1 r1 hq_=>by
  obtain⟨d,e,hd,p1⟩:=hq_;subst hd;obtain⟨_,_,rfl,ra,rr⟩:=r1.inv
  next=>
   obtain⟨_,_,rfl,rb,rr⟩:=rr.inv
   next=>
    cases rr.inv;exact⟨_,_,rfl,c.nx _ G1 H1 _ ((k1.setVal' i ra).setVal' j rb) p1⟩
theorem Zb6 {i:Nat}{d:D}{P:Evt->Prop}(p:P (O.set i (.val d))):JG K (gName i) d O P:=λg G H Z v R k r c=>c _ G H _ (k.setVal' i r) (Same.refl _) p
theorem Zga {n i:Nat}{d:D}{P:Evt->Prop}(hn:i<n) (p:P (O.set i (.val d))):JGn K n (gName i) d O P:=λg G H Z v R k r c=>
 c _ G H _ (k.setVal' i r) (Same.refl _) (λj hj=>Wan<|by omega) p
theorem Zvm {n:Nat}{te:TE}{Pp:Pst}{x:Slot}{ds0:List D}(hx:O[n]?=some x) (ho:x.od=some (.lst ds0))
  (h:JE K te O λd O1=>∃y ds,O1[n]?=some y/\y.od=some (.lst ds)/\ds.length<sizeLine/\Pp.nx (O1.set n<|y.put (.lst<|ds++[d]))) :
  JS K (tDrop<|tBM K "list" rAppend (tVar n)<|tCons te tNil) O Pp:=Znl hx ho ⟨_,rfl⟩ h
end
section
variable {K:W.Frag}{O:Evt}{nx bk ct:Evt->Prop}{rt:D->Evt->Prop}{ro:OD->Evt->Prop}
theorem Za7 (p:nx O):JS K tNext O ⟨nx,rt,bk,ct,ro⟩:=Zjn p
theorem Zar {t u:TS}(h:JS K t O ⟨λO1=>JS K u O1 ⟨nx,rt,bk,ct,ro⟩,rt,bk,ct,ro⟩):JS K (tSeq t u) O ⟨nx,rt,bk,ct,ro⟩:=Zsg h
theorem Zbj {t u:TS}(I:Evt->Prop) (h1:JS K t O ⟨I,rt,bk,ct,ro⟩) (h2:∀O1,I O1->JS K u O1 ⟨nx,rt,bk,ct,ro⟩):JS K (tSeq t u) O ⟨nx,rt,bk,ct,ro⟩:=
 Zsg (h1.mono h2 (λ_ _ z=>z) (λ_ z=>z) (λ_ z=>z) λ_ _ z=>z)
theorem Za0 {te:TE}(h:JE K te O rt):JS K (tRet te) O ⟨nx,rt,bk,ct,ro⟩:=Zvs h
theorem Zng {te:TE}(h:JO K te O ro):JS K (tRet te) O ⟨nx,rt,bk,ct,ro⟩:=Ztu h
theorem Zu9 {te:TE}(h:JE K te O λ_ O1=>nx O1):JS K (tDrop te) O ⟨nx,rt,bk,ct,ro⟩:=Zs7 h
theorem Zbc {c:TT}{t u:TS}(h:JT K c O λb O1=>if b=true then JS K t O1 ⟨nx,rt,bk,ct,ro⟩ else JS K u O1 ⟨nx,rt,bk,ct,ro⟩):JS K (tIfS c t u) O ⟨nx,rt,bk,ct,ro⟩:=Zxk h
theorem Zat {te:TE}{i:Nat}(h:JE K te O λd O1=>nx (O1.set i (.val d))):JS K (tAsg te<|gName i) O ⟨nx,rt,bk,ct,ro⟩:=Zwd h
theorem Zdk {te:TE}{i:Nat}(h:JO K te O λod O1=>nx (O1.set i (.own od))):JS K (tAsg te<|gName i) O ⟨nx,rt,bk,ct,ro⟩:=Ztx h
theorem Zjk {i j:Nat}{ta:TA}(h:JA K ta O λds O1=>∃d e,ds=[d,e]/\nx ((O1.set i (.val d)).set j (.val e))):JS K (tPar i j ta) O ⟨nx,rt,bk,ct,ro⟩:=Ztv h
theorem Zm3 {te:TE}{t:TG}(h:JE K te O λd O1=>JG K t d O1 nx):JS K (tAsg te t) O ⟨nx,rt,bk,ct,ro⟩:=Zvn h
theorem Zgw {n:Nat}{te:TE}{x:Slot}{ds0:List D}(hx:O[n]?=some x) (ho:x.od=some (.lst ds0))
  (h:JE K te O λd O1=>∃y ds,O1[n]?=some y/\y.od=some (.lst ds)/\ds.length<sizeLine/\nx (O1.set n<|y.put (.lst<|ds++[d]))) :
  JS K (tDrop<|tBM K "list" rAppend (tVar n)<|tCons te tNil) O ⟨nx,rt,bk,ct,ro⟩:=Zvm hx ho h
theorem Zkk {n:Nat}{ti te:TE}(h:JE K te O λd O1=>(∃x ds,O1[n]?=some x/\x.od=some (.lst ds))/\JE K ti O1 λe O2=>∃x ds i j,O2[n]?=some x/\x.od=some (.lst ds)/\e=.int i/\ixN ds.length i=some j/\nx (O2.set n<|x.put (.lst<|ds.set j d))) :
  JS K (tAsg te<|gSub (tVar n) ti rSetU) O ⟨nx,rt,bk,ct,ro⟩:=Zmo (h.mono λd O1 ⟨⟨x,ds,h1,h2⟩,h3⟩=>⟨⟨x,_,h1,h2⟩,h3⟩)
theorem Ztc {n:Nat}{ti te:TE}(h:JE K te O λd O1=>(∃x kvs,O1[n]?=some x/\x.od=some (.dct kvs))/\JE K ti O1 λe O2=>∃x kvs i,O2[n]?=some x/\x.od=some (.dct kvs)/\e=.int i/\kvs.length<sizeLine/\nx (O2.set n<|x.put (.dct<|putD kvs (.inl i) d))) :
  JS K (tAsg te<|gSub (tVar n) ti rSetU) O ⟨nx,rt,bk,ct,ro⟩:=Zuk (h.mono λd O1 ⟨⟨x,ds,h1,h2⟩,h3⟩=>⟨⟨x,_,h1,h2⟩,h3⟩)
theorem Zel {wi:TI}{t:TG}{tb:TS}(h:JI K wi O λds O1=>∃I:Nat->Evt->Prop,I 0 O1/\(∀i d O2,ds[i]?=some d->I i O2->JG K t d O2 λO3=>JS K tb O3 ⟨I<|i+1,rt,nx,I<|i+1,ro⟩)/\∀O2,I ds.length O2->nx O2) :
  JS K (tFor wi t tb) O ⟨nx,rt,bk,ct,ro⟩:=Zxi h
end
theorem Zpd {α β:Type}{f:α -> β}{xs:List α}{i:Int}(h0:0<=i) (h1:i<(xs.length:Int)):∃c,xs[i.toNat]?=some c/\atI (xs.map f) i=some (f c):=by
 have hk:i.toNat<xs.length:=by omega
 have e:i=((i.toNat:Nat):Int):=by omega
 have q:xs[i.toNat]?=some xs[i.toNat]:=Wab hk;generalize xs[i.toNat]=c at q;refine⟨c,q,?_⟩;have z:atI (xs.map f) ((i.toNat:Nat):Int)=some (f c):=Zau (by rw[Waf,q];rfl);rw[<- e]at z;exact z
theorem Zoa:bootBuiltins "abs" = some (.builtin "abs"):=by decide +kernel
theorem Zba:bootBuiltins "len" = some (.builtin "len"):=by decide +kernel
theorem Zn9:bootBuiltins "min" = some (.builtin "min"):=by decide +kernel
theorem Zkl:bootBuiltins "max" = some (.builtin "max"):=by decide +kernel
theorem Zao:bootBuiltins "isinstance" = some (.builtin "isinstance"):=by decide +kernel
theorem Zmp:bootBuiltins "all" = some (.builtin "all"):=by decide +kernel
theorem Zf5:bootBuiltins "sorted" = some (.builtin "sorted"):=by decide +kernel
theorem Zbt:bootBuiltins "tuple" = some (.type "tuple"):=by decide +kernel
theorem Zoq:bootBuiltins "list" = some (.type "list"):=by decide +kernel
theorem Zgq:bootBuiltins "int" = some (.type "int"):=by decide +kernel
theorem Zmb:bootBuiltins "bool" = some (.type "bool"):=by decide +kernel
theorem Zeb:bootBuiltins "str" = some (.type "str"):=by decide +kernel
theorem Zwa:bootBuiltins "zip" = some (.type "zip"):=by decide +kernel
structure Callee (P:Program) (w:World) (K:W.Frag) (mg:Str->Option Value) (base:Heap) (k:Nat) (x:Str) (ps:List Str) (sp:Sp):Prop where
 ex:∃(f:Addr) (fd:FuncData),FnOk P w K mg base CX0 k f fd ps sp/\Binds K fd ps []/\W.keepIn K (.ref f)=true/\mg x=some (.ref f)
section
variable {X:Cx}{k:Nat}{x:Str}{ps:List Str}{sp:Sp}{e:Expr}{es:List Expr}{t:TA}{p pos:Pos}
theorem Za9 (C:Callee X.prog X.w X.K X.mg X.base k x ps sp) (hr:Room k X.A) (ha:PA X (e::es) t) (hg:Gl X x:=by rfl) (hdb:(x == ("__debug__":Str))=false:=by decide)
  (he:starEach (e::es) X.env=(false,eval e X.env)::starEach es X.env:=by rfl) (hpl:(backTo pos<|starEach es X.env).any (·.1)=false:=by rfl):PE X (.Call (.Name x p) (e::es) [] pos) (tCall sp [] E0 t):=by
 obtain⟨f,fd,F,b,kp,m⟩:=C.ex;exact Znb F hr hg m kp b .nil pass0 ha hdb he hpl
end
def fixD (sel:List Nat) (O:Evt):Evt:=sel.map λi=>(O[i]?).getD .any
theorem Zd0 {n:Nat}{sel:List Nat}{ts O:Evt}(ht:ts.length=n):backD n sel (ts++fixD sel O) 0 O = O:=by
 apply Wby
 intro i;rw[Zdb];cases q:O[i]? with
 |none=>rfl
 |some x=>
  show some (backAt n sel (ts++fixD sel O) (0+i) x)=some x;congr 1;rw[Nat.zero_add];have key:∀j,sel.idxOf? i=some j->(ts++fixD sel O)[n+j]?=some x:=λj hj=>by
   rw[Wax (by omega),ht,Nat.add_sub_cancel_left];unfold fixD;rw[Waf,Zed hj];show some ((O[i]?).getD .any)=_;rw[q];rfl
  unfold backAt;cases x with
  |any=>rfl
  |val d=>rfl
  |own o=>
   dsimp only;cases e:sel.idxOf? i with
   |none=>rfl
   |some j=>dsimp only;rw[key j e]
  |bor o=>
   dsimp only;cases e:sel.idxOf? i with
   |none=>rfl
   |some j=>dsimp only;rw[key j e]
  |ownA a o=>
   dsimp only;cases e:sel.idxOf? i with
   |none=>rfl
   |some j=>dsimp only;rw[key j e]
section
variable {K:W.Frag}{O:Evt}{P:D->Evt->Prop}
theorem Zcc {sel:List Nat}{wi:TI}{tc:TT}{te:TE}(hsel:sel.Nodup)
  (h:JI K wi O λds O1=>ds.length<sizeLine/\∃(p:D->Bool) (f:D->D),
   (∀(i:Nat) d,ds[i]?=some d->JT K tc (.val d::fixD sel O1) λb O4=>b=p d/\if b=true then JE K te O4 λe O5=>e=f d/\∃x,O5=x::fixD sel O1 else ∃x,O4=x::fixD sel O1) /\
   P (.lst ((ds.filter p).map f)) O1):JE K (tComp 1 sel wi (gName 0) tc te) O P:=by
 refine Zkm hsel λg G H Z R k c=>h g G H Z R k λJ ds G' H' O' k' s' it ⟨z,p,f,ht,he⟩=>c J ds G' H' O' k' s' it ⟨z,fixD sel O',p,f,rfl,λi d ts hd hts=>?_,?_⟩
 ·refine Zga (by decide) ?_
  obtain⟨x,rfl⟩:∃x,ts=[x]:=by
   match ts,hts with
   |[x],_=>exact⟨x,rfl⟩
  intro g G H Z Q k c;refine ht i d hd g G H Z Q k λb G1 H1 O1 k1 s1 ⟨e1,q⟩=>c b G1 H1 O1 k1 s1 ⟨e1,?_⟩;cases b with
  |true=>
   rw[Qbw rfl]at q ⊢;exact q.mono λe O5 ⟨e2,x,e3⟩=>⟨e2,[x],rfl,e3⟩
  |false=>
   rw[Qbv Wao]at q ⊢;obtain⟨x,e3⟩:=q;exact⟨[x],rfl,e3⟩
 ·rw[Zd0 (by simp)];exact he
theorem Zkq {sel:List Nat}{wi:TI}{tc:TT}{te:TE}{Po:OD->Evt->Prop}(hsel:sel.Nodup)
  (h:JI K wi O λds O1=>ds.length<sizeLine/\∃(p:D->Bool) (f:D->D),
   (∀(i:Nat) d,ds[i]?=some d->JT K tc (.val d::fixD sel O1) λb O4=>b=p d/\if b=true then JE K te O4 λe O5=>e=f d/\∃x,O5=x::fixD sel O1 else ∃x,O4=x::fixD sel O1) /\
   Po (.lst ((ds.filter p).map f)) O1):JO K (tComp 1 sel wi (gName 0) tc te) O Po:=by
 refine Zmj hsel λg G H Z R k c=>h g G H Z R k λJ ds G' H' O' k' s' it ⟨z,p,f,ht,he⟩=>c J ds G' H' O' k' s' it ⟨z,λi ys O=>ys=((ds.take i).filter p).map f/\∃x,O = x::fixD sel O',⟨by simp,.any,rfl⟩,?_,?_⟩
 ·rintro i d ys O2 hd ⟨rfl,x,rfl⟩
  have tk:ds.take (i+1)=ds.take i++[d]:=by
   rw[Wcv,hd];rfl
  refine Zga (by decide) ?_;intro g G H Z Q k c;refine ht i d hd g G H Z Q k λb G1 H1 O1 k1 s1 ⟨e1,q⟩=>c b G1 H1 O1 k1 s1 ?_;cases b with
  |true=>
   rw[Qbw rfl]at q ⊢;refine q.mono λe O5 ⟨e2,x,e3⟩=>⟨?_,x,e3⟩;rw[tk,Wbv,Wau,Wbz,<- e1,e2];rfl
  |false=>
   rw[Qbv Wao]at q ⊢;obtain⟨x,e3⟩:=q;refine⟨?_,x,e3⟩;rw[tk,Wbv,Wau,Wbz,<- e1];simp
 ·rintro ys O2 ⟨rfl,x,rfl⟩
  rw[Wcm,show (x::fixD sel O')=[x]++fixD sel O' from rfl,Zd0 (by simp)];exact he
theorem Zk1 {sel:List Nat}{wi:TI}{tc:TT}{te:TE}(hsel:sel.Nodup)
  (h:JI K wi O λds O1=>ds.length<sizeLine/\∃(p:D->Bool) (f:D->D),
   (∀(i:Nat) d,ds[i]?=some d->∃a b,d=.tup [a,b]/\JT K tc (.val a::.val b::fixD sel O1) λt O4=>t=p d/\if t=true then JE K te O4 λe O5=>e=f d/\∃x y,O5=x::y::fixD sel O1 else ∃x y,O4=x::y::fixD sel O1) /\
   P (.lst ((ds.filter p).map f)) O1):JE K (tComp 2 sel wi (gTup K 2 (gCons (gName 0) (gCons (gName 1) gNil))) tc te) O P:=by
 refine Zkm hsel λg G H Z R k c=>h g G H Z R k λJ ds G' H' O' k' s' it ⟨z,p,f,ht,he⟩=>c J ds G' H' O' k' s' it ⟨z,fixD sel O',p,f,rfl,λi d ts hd hts=>?_,?_⟩
 ·obtain⟨a,b,rfl,hj⟩:=ht i d hd
  refine Zus rfl<|Ziq<|Zga (by decide)<|Ziq<|Zga (by decide)<|Zp6 ?_;obtain⟨x,y,rfl⟩:∃x y,ts=[x,y]:=by
   match ts,hts with
   |[x,y],_=>exact⟨x,y,rfl⟩
  intro g G H Z Q k c;refine hj g G H Z Q k λb G1 H1 O1 k1 s1 ⟨e1,q⟩=>c b G1 H1 O1 k1 s1 ⟨e1,?_⟩;cases b with
  |true=>
   rw[Qbw rfl]at q ⊢;exact q.mono λe O5 ⟨e2,x,y,e3⟩=>⟨e2,[x,y],rfl,e3⟩
  |false=>
   rw[Qbv Wao]at q ⊢;obtain⟨x,y,e3⟩:=q;exact⟨[x,y],rfl,e3⟩
 ·rw[Zd0 (by simp)];exact he
end
def tGhost (base:Nat) (t:TS):TS:=λE Z H=>t { E with nx:=λZ' H'=>∃Z2:St,Z2.length = Z'.length/\(∀i,i<base -> Z2[i]? = Z'[i]?)/\E.nx Z2 H' } Z H
theorem Zqd {X:Cx}{st:Stmt}{t:TS}(base:Nat) (hv:∀x∈X.N.drop base,X.env.scope.names.lookup x=none) (h:PS X st t):PS X st (tGhost base t):=by
 intro pins s Z H E I hw;refine thn (h pins s Z H _ I hw) λf s1 q=>?_;cases f with
 |next=>
  obtain⟨Z',H',I',Z2,hl,hs,q⟩:=q;refine⟨Z2,H',⟨I'.ok,I'.os,I'.bare,I'.base,?_,I'.cell,I'.free,I'.freeC,I'.pin,I'.hok,hl.trans I'.len⟩,q⟩;obtain⟨m,hn,hl'⟩:=I'.loc;refine⟨m,hn,λi x v e1 e2 e3=>?_⟩;by_cases hi:i<base
  ·rw[hs i hi]at e2;exact hl' i x v e1 e2 e3
  ·have hm:x∈X.N.drop base:=by
    refine Wav (i:=i-base) ?_;rw[List.getElem?_drop,show base+(i-base)=i by omega];exact e1
   have z:=hv x hm;rcases e3 with w|w|w <;> (rw[z]at w;cases w)
 |ret v=>exact q
 |brk=>exact q
 |cont=>exact q
def Nest (K:W.Frag) (g:Gm) (G H:Hp) (Z:St) (O:Evt) (cs:List (Addr × HO)) (ods:List OD):Prop:=
 (cs.map (·.1)).Nodup/\Paired (λ(c:Addr × HO) (od:OD)=>OwnRep K G c.2 od) cs ods/\∀c∈cs,H c.1=some c.2/\G c.1=none/\g.Hz c.1=none/\g.Xo c.1=none/\∀(i:Nat) x od',O[i]?=some x->x.od=some od' -> Z[i]?≠some (some (.ref c.1))
def JN (K:W.Frag) (t:TE) (O:Evt) (P:List OD->Evt->Prop):Prop:=
 ∀g G H Z Q,Ok K g G H Z O -> (∀acc cs ods G' H' O',Ok K g G' H' Z O' -> Same G G' -> Rep K G' (.ref acc) (.lst (cs.map λ(c:Addr × HO)=>D.adr c.1))->g.Hz acc=none->Nest K g G' H' Z O' cs ods->P ods O' -> Q (.ref acc) H')->t Z H Q
section
variable {K:W.Frag}{O:Evt}
def cellAt (cs:List (Addr × HO)) (b:Addr):Option HO:=(cs.find? λc=>decide (c.1=b)).map (·.2)
theorem Zd7 {cs:List (Addr × HO)}{b:Addr}:cellAt cs b=none ↔ ∀c∈cs,c.1≠b:=by
 unfold cellAt;rw[Option.map_eq_none_iff,List.find?_eq_none];constructor
 ·intro h c hc e;exact h c hc<|Qbx e
 ·intro h c hc e;exact h c hc<|of_decide_eq_true e
theorem Zgt {cs:List (Addr × HO)}(nd:(cs.map (·.1)).Nodup) {c:Addr × HO}(hc:c∈cs):cellAt cs c.1=some c.2:=by
 induction cs with
 |nil=>cases hc
 |cons d r ih=>
  rw[Wa3,Wcs]at nd;unfold cellAt;rcases Wai.mp hc with e|hc
  ·subst e;simp
  ·have hne:d.1≠c.1:=λe=>nd.1 (by rw[e];exact Wa2.mpr ⟨c,hc,rfl⟩)
   rw[Wcu (by simpa using hne)];exact ih nd.2 hc
open Classical in
noncomputable def asideN (g:Gm) (sel:List Nat) (Z:St) (O:Evt) (H:Hp) (acc:Addr) (cs:List (Addr × HO)):Hp:=λb=>
 if b=acc then some (.lst (cs.map λc=>V.ref c.1)) else match cellAt cs b with
  |some o=>some o
  |none=>if ∃(i:Nat) (x:Slot) (od:OD),O[i]?=some x/\x.od=some od/\i ∉ sel /\ Z[i]?=some (some (.ref b)) then H b else g.Xo b
theorem Zde {g:Gm}{sel:List Nat}{Z:St}{O:Evt}{H:Hp}{acc:Addr}{cs:List (Addr × HO)}:asideN g sel Z O H acc cs acc=some (.lst (cs.map λc=>V.ref c.1)):=by unfold asideN;rw[Qbw rfl]
theorem Zct {g:Gm}{sel:List Nat}{Z:St}{O:Evt}{H:Hp}{acc b:Addr}{o:HO}{cs:List (Addr × HO)}(hb:b≠acc) (e:cellAt cs b=some o):asideN g sel Z O H acc cs b=some o:=by unfold asideN;rw[Qbv hb,e]
theorem Zc9 {g:Gm}{sel:List Nat}{Z:St}{O:Evt}{H:Hp}{acc b:Addr}{cs:List (Addr × HO)}(hb:b≠acc) (e:cellAt cs b=none) (hx:∃(i:Nat) (x:Slot) (od:OD),O[i]?=some x/\x.od=some od/\i ∉ sel /\ Z[i]?=some (some (.ref b))):asideN g sel Z O H acc cs b=H b:=by
 unfold asideN;rw[Qbv hb,e];exact Qbw hx
theorem Zcr {g:Gm}{sel:List Nat}{Z:St}{O:Evt}{H:Hp}{acc b:Addr}{cs:List (Addr × HO)}(hb:b≠acc) (e:cellAt cs b=none) (hx:¬ ∃(i:Nat) (x:Slot) (od:OD),O[i]?=some x/\x.od=some od/\i ∉ sel /\ Z[i]?=some (some (.ref b))):asideN g sel Z O H acc cs b=g.Xo b:=by
 unfold asideN;rw[Qbv hb,e];exact Qbv hx
theorem Zuc {n:Nat}{sel:List Nat}{wi:TI}{t:TG}{tc:TT}{te:TE}{P:List OD->Evt->Prop}(hsel:sel.Nodup)
  (h:JI K wi O λds O1=>ds.length<sizeLine/\∃I:Nat->List OD->Evt->Prop,I 0 [] (compD n sel O1) /\
   (∀i d ys O2,ds[i]?=some d->I i ys O2->JGn K n t d O2 λO3=>JT K tc O3 λb O4=>if b=true then JO K te O4 λe O5=>I (i+1) (ys++[e]) O5 else I (i+1) ys O4) /\
   ∀ys O2,I ds.length ys O2->P ys (backD n sel O2 0 O1)):JN K (tComp n sel wi t tc te) O P:=λg G H Z Q k c=>
 h g G H Z _ k λJ ds G1 H1 O1 k1 s1 it ⟨hz,I,h0,ht,he⟩ acc hacc=>by
  have nacc:∀(i:Nat) x od,O1[i]?=some x->x.od=some od -> Z[i]?≠some (some (.ref acc)):=λi x od e1 e2 e3=>by
   obtain⟨a,o,w1,w2,_⟩:=k1.own i x od e1 e2;rw[e3]at w1;cases w1;rw[hacc]at w2;cases w2
  let Wd:Nat->St->Hp->Prop:=λi Z' H'=>i<=ds.length/\(∀j,n<=j -> Z'[j]?=(compSt n sel Z)[j]?)/\∃G ys cs Oi,cs.length<=i/\(cs.map (·.1)).Nodup/\(∀c∈cs,c.1≠acc/\g.Hz c.1=none/\g.Xo c.1=none/\∀(i:Nat) x od,O1[i]?=some x->x.od=some od->i ∉ sel -> Z[i]?≠some (some (.ref c.1)))/\Paired (λ(c:Addr × HO) (od:OD)=>OwnRep K G c.2 od) cs ys /\
   Ok K ⟨g.B,G1,g.Hz,asideN g sel Z O1 H1 acc cs⟩ G H' Z' Oi/\I i ys Oi
  refine⟨λi m Z' H'=>m=ds.length-i/\Wd i Z' H',⟨ds.length,by simp,Wbu _,λ_ _=>rfl,G1,[],[],compD n sel O1,Waj _,List.nodup_nil,λc hc=>(nomatch hc),.nil,?_,h0⟩,?_⟩
  ·refine Zg0 hsel k1 hacc λb o e=>?_
   have e:asideN g sel Z O1 H1 acc [] b=some o:=e;by_cases hb:b=acc
   ·subst hb;rw[Zde]at e;cases e;exact .inl ⟨rfl,rfl⟩
   ·by_cases hx:∃(i:Nat) (x:Slot) (od:OD),O1[i]?=some x/\x.od=some od/\i ∉ sel /\ Z[i]?=some (some (.ref b))
    ·rw[Zc9 hb rfl hx]at e;exact .inr ⟨hb,.inl ⟨hx,e⟩⟩
    ·rw[Zcr hb rfl hx]at e;exact .inr ⟨hb,.inr e⟩
  ·rintro i m Z2 H2 ⟨rfl,hi,hZ,G2,ys,cs,O2,hy,nd,hcs,ry,k2,h2⟩
   have s2:Same G1 G2:=k2.sub;obtain⟨stop,go⟩:=it G2 H2 s2 k2.live;by_cases hlt:i<ds.length
   ·obtain⟨g1,g2⟩:=go i _ (Wab hlt)
    refine .inr ⟨g1,λZ' H'=>Wd (i+1) Z' H',λZ' H' p'=>⟨ds.length-(i+1),by omega,rfl,p'⟩,λx H3 y=>?_⟩;obtain⟨G3,a1,a2,a3,a4⟩:=g2 x H3 y;have k3:=k2.grow a1 a2 a3;have hG3:∀b o,G3 b=some o->(g.Hz b=none\/G1 b=some o):=λb o q=>(k3.frz b o q).2;have k3':Ok K ⟨g.B,G3,g.Hz,asideN g sel Z O1 H1 acc cs⟩ G3 H3 Z2 O2:=⟨k3.same,k3.lent,Same.refl _,λb o q=>⟨(k3.frz b o q).1,.inr q⟩,k3.ext,k3.len,k3.val,k3.own,k3.dis⟩;have ry3:Paired (λ(c:Addr × HO) (od:OD)=>OwnRep K G3 c.2 od) cs ys:=Paired.mapP ry λ_ _ z=>z.mono a1;have s13:Same G1 G3:=s2.trans a1;refine ht i _ ys O2 (Wab hlt) h2 ⟨g.B,G3,g.Hz,asideN g sel Z O1 H1 acc cs⟩ G3 H3 Z2 x _ k3' a4 λZ4 G4 H4 O4 k4 s4 e4 p4=>?_;have hZ4:∀j,n<=j -> Z4[j]?=(compSt n sel Z)[j]?:=λj hj=>(e4 j hj).trans (hZ j hj);refine p4 _ G4 H4 Z4 _ k4 λb G5 H5 O5 k5 s5 p5=>?_;cases b with
    |false=>exact⟨hlt,hZ4,G5,ys,cs,O5,by omega,nd,hcs,Paired.mapP ry3 λ_ _ z=>z.mono (s4.trans s5),k5.base s13 hG3,p5⟩
    |true=>
     refine(show JO K te O5 _ from p5) _ G5 H5 Z4 _ k5 λa od G6 H6 O6 k6 s6 pd p6=>?_;have ry6:Paired (λ(c:Addr × HO) (od:OD)=>OwnRep K G6 c.2 od) cs ys:=Paired.mapP ry3 λ_ _ z=>z.mono<|s4.trans<|s5.trans s6;obtain⟨b1,b2,b3⟩:=k6.ext acc _ Zde;obtain⟨oa,d1,d2,d3,d4,d5,d6⟩:=pd;have d5:asideN g sel Z O1 H1 acc cs a=none:=d5;have hane:a≠acc:=by intro z;subst z;rw[Zde]at d5;cases d5
     have hac:cellAt cs a=none:=by
      cases q:cellAt cs a with
      |none=>rfl
      |some o=>rw[Zct hane q]at d5;cases d5
     have hax:∀(i:Nat) x od,O1[i]?=some x->x.od=some od->i ∉ sel -> Z[i]?≠some (some (.ref a)):=λi x od e1 e2 e3 e4=>by
      rw[Zc9 hane hac ⟨i,x,od,e1,e2,e3,e4⟩]at d5;obtain⟨a',o',w1,w2,_⟩:=k1.own i x od e1 e2;rw[e4]at w1;cases w1;rw[d5]at w2;cases w2
     have hagx:g.Xo a=none:=by
      rw[Zcr hane hac (λ⟨i,x,od,e1,e2,e3,e4⟩=>hax i x od e1 e2 e3 e4)]at d5;exact d5
     have hnm:=Zd7.mp hac;refine⟨cs.map λc=>V.ref c.1,b1,by rw[Waa];omega,hlt,hZ4,G6,ys++[od],cs++[(a,oa)],O6,by rw[Wal,Wbo];omega,?_,λc hc=>?_,Paired.snoc ry6 d2,?_,p6⟩
     ·rw[Wau]
      refine List.nodup_append.mpr ⟨nd,by simp,λx hx y hy=>?_⟩;rw[List.map_singleton,Was]at hy;subst hy;obtain⟨c,hc,rfl⟩:=Wa2.mp hx;exact hnm c hc
     ·rcases Wa1.mp hc with hc|hc
      ·exact hcs c hc
      ·rw[Was.mp hc];exact⟨hane,d4,hagx,hax⟩
     ·have k7:=k6.base s13 hG3
      have nd':((cs++[(a,oa)]).map (·.1)).Nodup:=by
       rw[Wau];refine List.nodup_append.mpr ⟨nd,by simp,λx hx y hy=>?_⟩;rw[List.map_singleton,Was]at hy;subst hy;obtain⟨c,hc,rfl⟩:=Wa2.mp hx;exact hnm c hc
      have er:(cs++[(a,oa)]).map (λc=>V.ref c.1)=(cs.map λc=>V.ref c.1)++[V.ref a]:=by simp
      have oldH:∀b o,b≠acc->H6 b=some o->(upd H6 acc (.lst ((cs.map λc=>V.ref c.1)++[V.ref a]))) b=some o:=λb o hb e=>by rw[Zal hb];exact e
      refine⟨λb o hb e=>?_,λb hb=>?_,k7.sub,λb o e=>?_,λb o e=>?_,k7.len,k7.val,λi x od e1 e2=>?_,k7.dis⟩
      ·have hne:b≠acc:=by
        intro z;subst z;have e:g.Hz b=some o:=e;rw[k1.there hacc]at e;cases e
       exact oldH b o hne<|k7.same b o hb e
      ·by_cases hne:b=acc
       ·subst hne;rw[Zan];intro z;cases z
       ·rw[Zal hne];exact k7.lent b hb
      ·have hne:b≠acc:=by intro z;subst z;rw[b2]at e;cases e
       exact⟨oldH b o hne (k7.frz b o e).1,(k7.frz b o e).2⟩
      ·have e:asideN g sel Z O1 H1 acc (cs++[(a,oa)]) b=some o:=e
       by_cases hne:b=acc
       ·subst hne
        rw[Zde,er]at e;cases e;exact⟨Zan,b2,b3⟩
       ·by_cases hba:b=a
        ·subst hba
         rw[Zct hne (Zgt nd' (c:=(b,oa))<|Wa0 _<|Was.mpr rfl)]at e;cases e;exact⟨oldH b _ hne d1,d3,d6⟩
        ·have ec:cellAt (cs++[(a,oa)]) b=cellAt cs b:=by
          unfold cellAt;rw[List.find?_append];cases (cs.find? λc=>decide (c.1=b)) with
          |some c=>rfl
          |none=>
           rw[Wcu (by simpa using Ne.symm hba)];rfl
         have e':asideN g sel Z O1 H1 acc cs b=some o:=by
          cases q:cellAt cs b with
          |some o'=>rw[Zct hne (ec.trans q)]at e;rw[Zct hne q];exact e
          |none=>
           by_cases hx:∃(i:Nat) (x:Slot) (od:OD),O1[i]?=some x/\x.od=some od/\i ∉ sel /\ Z[i]?=some (some (.ref b))
           ·rw[Zc9 hne (ec.trans q) hx]at e;rw[Zc9 hne q hx];exact e
           ·rw[Zcr hne (ec.trans q) hx]at e;rw[Zcr hne q hx];exact e
         obtain⟨w1,w2,w3⟩:=k7.ext b o e';exact⟨oldH b o hne w1,w2,w3⟩
      ·obtain⟨a',o,w1,w2,w3,w4,w5⟩:=k7.own i x od e1 e2
       have hne:a'≠acc:=by intro z;subst z;exact b3 i x od e1 e2 w1
       exact⟨a',o,w1,oldH a' o hne w2,w3,w4,w5⟩
   ·have e:i=ds.length:=by omega
    subst e;refine .inl ⟨stop,?_⟩;obtain⟨b1,b2,b3⟩:=k2.ext acc _ Zde;have src:=Zhw (O1:=O1) (O2:=O2) hZ;have k9:Ok K g G2 H2 Z (backD n sel O2 0 O1):=Zgf k1 hacc k2 hZ (λb o hb hx e=>by
      show asideN g sel Z O1 H1 acc cs b=_;rw[Zc9 hb (Zd7.mpr λc hc z=>?_) hx]
      ·exact e
      ·obtain⟨i0,x0,od0,f1,f2,f3,f4⟩:=hx
       exact(hcs c hc).2.2.2 i0 x0 od0 f1 f2 f3 (by rw[z];exact f4)) (λb o hb hx e=>by
      show asideN g sel Z O1 H1 acc cs b=_;rw[Zcr hb (Zd7.mpr λc hc z=>?_) hx]
      ·exact e
      ·have:=(hcs c hc).2.2.1;rw[z,e]at this;cases this)
    -- the outer list is frozen
    have nslot:∀(i:Nat) y od,(backD n sel O2 0 O1)[i]?=some y->y.od=some od -> Z[i]?≠some (some (.ref acc)):=λi y od e1 e2=>by
     obtain⟨x',od1,f1,f2,_⟩:=src i y od e1 e2;exact nacc i x' od1 f1 f2
    have refs:∀{G:Hp}(l:List (Addr × HO)),Reps K G (l.map λc=>V.ref c.1) (l.map λc=>D.adr c.1):=λ{G} l=>by
     induction l with
     |nil=>exact .nil
     |cons c r ih=>exact .cons (.adr _) ih
    have gX:g.Xo acc=none:=by
     cases q:g.Xo acc with
     |none=>rfl
     |some u=>have z:=(k1.ext acc u q).1;rw[hacc]at z;cases z
    obtain⟨kf,sf,rf⟩:=k9.freeze (a:=acc) (ds:=cs.map λ(c:Addr × HO)=>D.adr c.1) (vs:=cs.map λ(c:Addr × HO)=>V.ref c.1) ⟨_,b1,(show Reps K G2 (cs.map λ(c:Addr × HO)=>V.ref c.1) (cs.map λ(c:Addr × HO)=>D.adr c.1) from refs cs),b2,k1.there hacc,gX,nslot⟩ b1;refine c acc cs ys _ H2 _ kf (s1.trans<|s2.trans sf) rf (k1.there hacc) ⟨nd,Paired.mapP ry λ_ _ z=>z.mono sf,λcc hc=>?_⟩<|he ys O2 h2;obtain⟨f1,f2,f3,f4⟩:=hcs cc hc;obtain⟨u1,u2,u3⟩:=k2.ext cc.1 cc.2<|Zct f1<|Zgt nd hc;refine⟨u1,by rw[Zal f1];exact u2,f2,f3,λi y od e1 e2 e3=>?_⟩;obtain⟨x,od',w1,w2,w3⟩:=src i y od e1 e2;rcases w3 with ⟨w3,w4⟩|⟨j,w3,w4,w5⟩
    ·exact f4 i x od' w1 w2 w4 e3
    ·exact u3 (n+j) y od w4 e2 (by rw[w5,e3];rfl)
def putN:Nat->List (Addr × OD)->Evt->Evt
 |_,[],O=>O
 |b,c::r,O=>putN (b+1) r (O.set b (.ownA c.1 c.2))
def putS:Nat->List Addr->St->St
 |_,[],Z=>Z
 |b,a::r,Z=>putS (b+1) r (Z.set b (some (.ref a)))
theorem Zkv:∀(as:List Addr) (b:Nat) (Z:St),(putS b as Z).length = Z.length
 |[],_,_=>rfl
 |a::r,b,Z=>by rw[putS,Zkv r (b+1),Wbs]
theorem Zgz:∀(as:List Addr) (b:Nat) (Z:St) (i:Nat),i<b->(putS b as Z)[i]? = Z[i]?
 |[],_,_,_,_=>rfl
 |a::r,b,Z,i,h=>by rw[putS,Zgz r (b+1) _ i (by omega),Wan (by omega)]
theorem Ok.setOwnA {g:Gm}{G H:Hp}{Z:St}(k:Ok K g G H Z O) {a:Addr}{od:OD}{i:Nat}(hi:i < O.length) (p:Pend K g G H Z O a od):Ok K g G H (Z.set i<|some (.ref a)) (O.set i (.ownA a od)):=by
 have k1:=k.setOwn hi p;obtain⟨o,p1,p2,p3,p4,p5,p6⟩:=p;have hs:i < Z.length:=by rw[<- k.len];exact hi
 have old:∀(j:Nat) x,j≠i->(O.set i (.ownA a od))[j]?=some x->(O.set i (.own od))[j]?=some x:=λj x hj e=>by
  rw[Wan (Ne.symm hj)]at e ⊢;exact e
 have cv:∀(j:Nat) x od',(O.set i (.ownA a od))[j]?=some x->x.od=some od' -> ∃y,(O.set i (.own od))[j]?=some y/\y.od=some od':=λj x od' e1 e2=>by
  by_cases hj:j=i
  ·subst hj
   rw[Wak hi]at e1;cases e1;cases e2;exact⟨.own od,Wak hi,rfl⟩
  ·exact⟨x,old j x hj e1,e2⟩
 refine⟨k1.same,k1.lent,k1.sub,k1.frz,λb u e=>?_,by simp[k.len],λj d e=>?_,λj x od' e1 e2=>?_,λj l x y od1 od2 c e1 e2 e3 e4 e5 e6=>?_⟩
 ·obtain⟨h1,h2,h3⟩:=k1.ext b u e
  refine⟨h1,h2,λj x od' e1 e2=>?_⟩;obtain⟨y,f1,f2⟩:=cv j x od' e1 e2;exact h3 j y od' f1 f2
 ·by_cases hj:j=i
  ·subst hj
   rw[Wak hi]at e;cases e
  ·exact k1.val j d<|old j _ hj e
 ·by_cases hj:j=i
  ·subst hj
   rw[Wak hi]at e1;cases e1;cases e2;exact⟨a,o,Wak hs,p1,p2,p3,rfl,p4⟩
  ·exact k1.own j x od' (old j x hj e1) e2
 ·obtain⟨x',f1,f2⟩:=cv j x od1 e1 e2
  obtain⟨y',f3,f4⟩:=cv l y od2 e3 e4;exact k1.dis j l x' y' od1 od2 c f1 f2 f3 f4 e5 e6
theorem Ok.putN {g:Gm}{G H:Hp}:∀(cs:List (Addr × HO)) (ods:List OD) (b:Nat) (Z:St) (O:Evt),Ok K g G H Z O -> b+ods.length <= O.length->Nest K g G H Z O cs ods ->
  Ok K g G H (putS b (cs.map (·.1)) Z) (L2.putN b ((cs.map (·.1)).zip ods) O)
 |[],[],_,_,_,k,_,_=>k
 |[],_::_,_,_,_,_,_,n=>by cases n.2.1
 |_::_,[],_,_,_,_,_,n=>by cases n.2.1
 |c::cs,od::ods,b,Z,O,k,hl,⟨nd,pr,al⟩=>by
  cases pr with
  |cons r t=>
   obtain⟨h1,h2,h3,h4,h5⟩:=al c Wat;rw[Wa3,Wcs]at nd;have hb:b < O.length:=by rw[Wag]at hl;omega
   have k1:=k.setOwnA hb ⟨c.2,h1,r,h2,h3,h4,h5⟩;refine Ok.putN cs ods (b+1) _ _ k1 (by rw[Wbs];rw[Wag]at hl;omega) ⟨nd.2,t,λd hd=>?_⟩;obtain⟨f1,f2,f3,f4,f5⟩:=al d<|Wap _ hd;have hne:d.1≠c.1:=λe=>nd.1 (by rw[<- e];exact Wa2.mpr ⟨d,hd,rfl⟩);refine⟨f1,f2,f3,f4,λj x od' e1 e2=>?_⟩;by_cases hj:j=b
   ·subst hj
    rw[Wak (by rw[<- k.len];exact hb)];intro z;have:c.1=d.1:=by
     have z1:=Waw.inj<|Waw.inj z;injection z1
    exact hne this.symm
   ·rw[Wan (Ne.symm hj)]at e1 ⊢
    exact f5 j x od' e1 e2
theorem Znp:∀(l:List (Addr × OD)) (R T:Evt) (m:Nat),l.length<=m->L2.putN R.length l (R++Wad m Slot.any++T)=R++l.map (λc=>Slot.ownA c.1 c.2)++Wad (m-l.length) Slot.any++T
 |[],R,T,m,_=>by simp[L2.putN]
 |c::r,R,T,m,h=>by
  obtain⟨m',rfl⟩:∃m',m=m'+1:=⟨m-1,by rw[Wag]at h;omega⟩;have e:(R++Wad (m'+1) Slot.any++T).set R.length (.ownA c.1 c.2)=(R++[.ownA c.1 c.2])++Wad m' Slot.any++T:=by
   rw[Wcn];simp[List.set_append_right]
  rw[L2.putN,e];have:=Znp r (R++[.ownA c.1 c.2]) T m' (by rw[Wag]at h;omega);rw[Wal,Wbo]at this;rw[this];simp
theorem Zsr {te:TE}{i base:Nat}{nx bk ct:Evt->Prop}{rt:D->Evt->Prop}{ro:OD->Evt->Prop}
  (h:JN K te O λods O1=>i<base/\base+ods.length <= O1.length/\∀as:List Addr,as.length=ods.length->as.Nodup->nx (L2.putN base (as.zip ods) (O1.set i (.val (.lst<|as.map D.adr))))) :
  JS K (tGhost base<|tAsg te<|gName i) O ⟨nx,rt,bk,ct,ro⟩:=λg G H Z E k c=>
 h g G H Z _ k λacc cs ods G1 H1 O1 k1 s1 rr _ nn hq_=>by
  obtain⟨hi,hb,p⟩:=hq_;have hl:cs.length=ods.length:=Paired.length nn.2.1;have e0:(cs.map λc=>D.adr c.1)=(cs.map (·.1)).map D.adr:=by rw[Wa8];rfl
  have k2:=k1.setVal' i rr;have n2:Nest K g G1 H1 (Z.set i<|some (.ref acc)) (O1.set i (.val (.lst (cs.map λc=>D.adr c.1)))) cs ods:=by
   obtain⟨nd,pr,al⟩:=nn;refine⟨nd,pr,λd hd=>?_⟩;obtain⟨f1,f2,f3,f4,f5⟩:=al d hd;refine⟨f1,f2,f3,f4,λj x od' e1 e2=>?_⟩;by_cases hj:j=i
   ·subst hj
    by_cases hlt:j < O1.length
    ·rw[Wak hlt]at e1;cases e1;cases e2
    ·rw[Wcf (by rw[Wbs];omega)]at e1;cases e1
   ·rw[Wan (Ne.symm hj)]at e1 ⊢
    exact f5 j x od' e1 e2
  have k3:=Ok.putN cs ods base _ _ k2 (by rw[Wbs];exact hb) n2;refine⟨putS base (cs.map (·.1)) (Z.set i<|some (.ref acc)),Zkv _ _ _,λj hj=>Zgz _ _ _ j hj,?_⟩;rw[e0]at k3;exact c.nx _ G1 H1 _ k3<|p (cs.map (·.1)) (by rw[Waa,hl]) nn.1
theorem Zn4 {n j:Nat}{a:Addr}{ds:List D}{P:D->Evt->Prop}(hx:O[n]?=some (.val (.adr a))) (hj:O[j]?=some (.ownA a (.lst ds))) (p:P (.int ds.length) O):JE K (tCB (rLenU K)<|tCons (tVar n) tNil) O P:=λg G H Z Q k c=>by
 obtain⟨v,h1,h2⟩:=k.val n _ hx;cases h2;obtain⟨a',o,w1,w2,w3,w4,w5⟩:=k.own j _ _ hj rfl;obtain⟨rfl,_⟩:=w5;cases o with
 |lst vs=>
  have w3:Reps K G vs ds:=w3;refine⟨_,h1,.inl ⟨_,vs,rfl,.inl<|SqL.of w2,?_⟩⟩;rw[w3.length];exact c _ _ G H O k (Same.refl _) (.int _) p
 |_=>exact absurd w3 (λz=>z)
theorem Zsu {n:Nat}{t1 t2:TE}{a:Addr}{j0:Nat}{ds0:List D}{nx bk ct:Evt->Prop}{rt:D->Evt->Prop}{ro:OD->Evt->Prop}(hx:O[n]?=some (.val (.adr a))) (hj0:O[j0]?=some (.ownA a (.lst ds0)))
  (h:JE K t1 O λe1 O1=>JE K t2 O1 λe2 O2=>∃j i ds,e1=.int i /\ O2[j]?=some (.ownA a (.lst ds))/\ds.length<sizeLine /\ -(2 ^ 62)<=i/\i<2 ^ 62/\nx (O2.set j (.ownA a (.lst (ds.take (insI ds.length i)++e2::ds.drop (insI ds.length i)))))) :
  JS K (tDrop<|tBM K "list" rInsert (tVar n)<|tCons t1<|tCons t2 tNil) O ⟨nx,rt,bk,ct,ro⟩:=λg G H Z E k c=>by
 obtain⟨v,h1,h2⟩:=k.val n _ hx;cases h2;obtain⟨a',o,w1,w2,w3,w4,w5⟩:=k.own j0 _ _ hj0 rfl;obtain⟨rfl,_⟩:=w5;cases o with
 |lst vs0=>
  refine⟨_,h1,.inl ⟨rfl,_,SqL.of w2⟩,h g G H Z _ k λv1 e1 G1 H1 O1 k1 s1 r1 p1=>p1 g G1 H1 Z _ k1 λv2 e2 G2 H2 O2 k2 s2 r2 ⟨j,i,ds,q1,q2,q3,q4,q5,p⟩=>?_⟩;subst q1;cases r1.inv;obtain⟨a2,o2,u1,u2,u3,u4,u5⟩:=k2.own j _ _ q2 rfl;obtain⟨rfl,_⟩:=u5;cases o2 with
  |lst vs=>
   have u3:Reps K G2 vs ds:=u3;refine⟨_,vs,i,v2,rfl,rfl,u2,by rw[u3.length];exact q3,q4,q5,?_⟩;have k3:=k2.write q2 rfl u1 (show OwnRep K G2 (.lst (vs.take (insI vs.length i)++v2::vs.drop (insI vs.length i))) (.lst (ds.take (insI ds.length i)++e2::ds.drop (insI ds.length i))) from by
    rw[u3.length];exact(u3.take _).append (.cons r2 (u3.drop _)))
   exact c.nx Z G2 _ _ k3 p
  |_=>exact absurd u3 (λz=>z)
 |_=>exact absurd w3 (λz=>z)
theorem JS.conv {t:TS}{O':Evt}{P:Pst}(hc:∀g G H Z,Ok K g G H Z O -> ∃G',Same G G' /\ Ok K g G' H Z O') (h:JS K t O' P):JS K t O P:=λg G H Z E k c=>by
 obtain⟨G',s,k'⟩:=hc g G H Z k;exact h g G' H Z E k' c
theorem Ok.freezeA {g:Gm}{G H:Hp}{Z:St}(k:Ok K g G H Z O) {i:Nat}{a:Addr}{ds:List D}(h:O[i]?=some (.ownA a (.lst ds))):∃G',Same G G' /\ Ok K g G' H Z (O.set i .any)/\Rep K G' (.ref a) (.lst ds):=by
 obtain⟨a',o,w1,w2,w3,w4,w5⟩:=k.own i _ _ h rfl;obtain⟨rfl,w6⟩:=w5;cases o with
 |lst vs=>
  have pd:Pend K g G H Z (O.set i .any) a (.lst ds):=by
   refine⟨.lst vs,w2,w3,w4,w6,?_,λj x od' e1 e2 e3=>?_⟩
   ·cases q:g.Xo a with
    |none=>rfl
    |some u=>exact absurd w1 ((k.ext a u q).2.2 i _ _ h rfl)
   ·by_cases hj:j=i
    ·subst hj
     rw[Wcx]at e1;simp at e1;obtain⟨_,e1⟩:=e1;subst e1;cases e2
    ·rw[Wan (Ne.symm hj)]at e1
     exact hj<|k.dis j i x _ od' _ a e1 e2 h rfl e3 w1
  obtain⟨k2,sg,r⟩:=(k.drop i).freeze pd w2;exact⟨_,sg,k2,r⟩
 |_=>exact absurd w3 (λz=>z)
theorem Ok.freezeN {g:Gm}{H:Hp}{Z:St}:∀(cs:List (Addr × List D)) (R T:Evt) (G:Hp),Ok K g G H Z (R++cs.map (λc=>Slot.ownA c.1 (.lst c.2))++T) ->
  ∃G',Same G G' /\ Ok K g G' H Z (R++Wad cs.length .any++T)/\∀c∈cs,Rep K G' (.ref c.1) (.lst c.2)
 |[],R,T,G,k=>⟨G,Same.refl _,by simpa using k,λc hc=>nomatch hc⟩
 |c::r,R,T,G,k=>by
  have hi:(R++(c::r).map (λc=>Slot.ownA c.1 (.lst c.2))++T)[R.length]?=some (.ownA c.1 (.lst c.2)):=by simp
  obtain⟨G1,s1,k1,r1⟩:=k.freezeA hi;have e:(R++(c::r).map (λc=>Slot.ownA c.1 (.lst c.2))++T).set R.length .any=(R++[.any])++r.map (λc=>Slot.ownA c.1 (.lst c.2))++T:=by
   simp[List.set_append_right]
  rw[e]at k1;obtain⟨G2,s2,k2,r2⟩:=Ok.freezeN r (R++[.any]) T G1 k1;refine⟨G2,s1.trans s2,?_,λd hd=>?_⟩
  ·have e2:(R++[Slot.any])++Wad r.length Slot.any++T=R++Wad (c::r).length Slot.any++T:=by
    rw[Wag,Wcn];simp
   rw[e2]at k2;exact k2
  ·rcases Wai.mp hd with e|hd
   ·subst e;exact r1.mono s2
   ·exact r2 d hd
theorem Ok.thaw {g:Gm}{G H:Hp}{Z:St}{cs:List (Addr × List D)}{R T:Evt}{i:Nat}(k:Ok K g G H Z (R++cs.map (λc=>Slot.ownA c.1 (.lst c.2))++T)) (hi:R[i]?=some (.val (.lst (cs.map λc=>D.adr c.1)))) :
  ∃G',Same G G' /\ Ok K g G' H Z (R.set i (.val (.lst (cs.map λc=>D.lst c.2)))++Wad cs.length .any++T):=by
 have hlt:i<R.length:=(Wah.mp hi).1;obtain⟨v,h1,h2⟩:=k.val i _ (by rw[Wbk,Waz hlt];exact hi);obtain⟨G1,s1,k1,r1⟩:=Ok.freezeN cs R T G k;refine⟨G1,s1,?_⟩;have rr:Rep K G1 v (.lst (cs.map λc=>D.lst c.2)):=by
  cases h2 with
  |lst ha rs=>
   refine .lst (s1 _ _ ha) ?_;have key:∀(l:List (Addr × List D)) (vs:List V),(∀c∈l,Rep K G1 (.ref c.1) (.lst c.2))->Reps K G vs (l.map λc=>D.adr c.1)->Reps K G1 vs (l.map λc=>D.lst c.2):=by
    intro l
    induction l with
    |nil=>intro vs _ h;cases h;exact .nil
    |cons c r ih=>
     intro vs hc h;cases h with
     |cons h1 h2=>
      cases h1;exact .cons (hc c Wat)<|ih _ (λd hd=>hc d<|Wap _ hd) h2
   exact key cs _ r1 rs
 have k2:=k1.setVal' i rr;have e1:Z.set i (some v) = Z:=by
  apply Wby
  intro j;by_cases hj:j=i
  ·subst hj;rw[Wak (by obtain⟨z,_⟩:=Wah.mp h1;exact z),h1]
  ·rw[Wan (Ne.symm hj)]
 rw[e1]at k2;have e2:(R++Wad cs.length Slot.any++T).set i (.val (.lst (cs.map λc=>D.lst c.2)))=R.set i (.val (.lst (cs.map λc=>D.lst c.2)))++Wad cs.length Slot.any++T:=by
  rw[Wbk,Wbk,List.set_append_left _ _ hlt]
 rw[e2]at k2;exact k2
end
section
variable {X:Cx}(K:W.Frag)
theorem ixK (hu:X.A.units+1<cLine) (hK:X.K=K:=by rfl):IxR X (rIxU K):=hK ▸ ixU hu
theorem slK (hK:X.K=K:=by rfl):SlR X (rSlU K):=hK ▸ slU
theorem addK (hK:X.K=K:=by rfl):OpR X (binaryOp .Add) (rAddU K):=hK ▸ Zuz
theorem lenK (hK:X.K=K:=by rfl):CallR X (.builtin "len") (rLenU K):=hK ▸ Znk
def rTup (K:W.Frag):List V->Hp->VK->Prop:=λxs H Q=>∃p ys,xs=[.ref p]/\((SqL K H p ys/\∀l,H l=none->Q (.ref l) (upd H l (.tup ys)))\/(SqT K H p ys/\Q (.ref p) H))
theorem tupK (hK:X.K=K:=by rfl):CallR X (.type "tuple") (rTup K):=hK ▸ Zh5
def rLst (K:W.Frag):List V->Hp->VK->Prop:=λxs H Q=>∃p ys,xs=[.ref p]/\(SqL K H p ys\/SqT K H p ys)/\∀l,H l=none->Q (.ref l) (upd H l (.lst ys))
theorem lstK (hK:X.K=K:=by rfl):CallR X (.type "list") (rLst K):=hK ▸ Zi3
theorem seqK {tg l:Expr}{tl:TE}(hl:PE X l tl) (hK:X.K=K:=by rfl):PI X tg l (iSeq K tl):=hK ▸ Zwg hl
theorem truK {a:Expr}{ta:TE}(ha:PE X a ta) (he:∀whole,isTrue a X.env whole=(do let v <- whole;standAt a.pos;holding [v] (truthy v))) (hK:X.K=K:=by rfl):PT X a (tTru K ta):=hK ▸ Zwx ha he
theorem gtupK {es:List Expr}{k:Nat}{t:TGs}{n:Nat}{pos:Pos}(hc:X.calm=true) (h:PGs X es t)
  (hn:(assignEach es X.env).length=n:=by rfl) (hst:(assignEach es X.env).findIdx? (·.1)=none:=by rfl) (hK:X.K=K:=by rfl):PG X (.Tuple es k pos) (gTup K n t):=hK ▸ Zw0 hc h hn hst
variable {o e:Expr}{es:List Expr}{to:TE}{t:TA}{name:Str}{apos cpos:Pos}{T id:String}{r:V->List V->Hp->VK->Prop}
theorem bmK (pa:PlainAttrs T) (slot:PySem.Slot T name id) (hty:typeOf (.builtin id)=pure (.type "method_descriptor")) (hm:MtR X id r) (ho:PE X o to) (ha:PA X (e::es) t)
  (hbase:attributeBase o name X.env (eval o X.env)=eval o X.env:=by rfl)
  (hfew:((backTo cpos (starEach (e::es) X.env)).all (λx=>!x.1) && (backToKw cpos (keywordEach [] X.env)).all (λx=>x.1.isSome)
   && decide ((e::es).length+([]:List Keyword).length+(if ([]:List Keyword).isEmpty then 0 else 1)<30))=true:=by rfl)
  (hline:(apos.endLine == cpos.line)=true:=by rfl) (hs:starEach (e::es) X.env=(false,eval e X.env)::starEach es X.env:=by rfl) (hplain:(backTo cpos<|starEach es X.env).any (·.1)=false:=by rfl) (hK:X.K=K:=by rfl) :
  PE X (.Call (.Attribute o name apos) (e::es) [] cpos) (tBM K T r to t):=hK ▸ Zxq pa slot hty hm ho ha hbase hfew hline hs hplain
end
section
variable {K:W.Frag}{O:Evt}{P:D->Evt->Prop}
theorem Zdq {ds es:List D}(he:ds=[.lst es]\/ds=[.tup es]) (p:P (.tup es) O):JC K (rTup K) ds O P:=Zqz he p
theorem Zr5 {ds es:List D}(he:ds=[.lst es]\/ds=[.tup es]) (p:P (.lst es) O):JC K (rLst K) ds O P:=λg G H Z Q vs k rs c=>by
 rcases he with he|he <;> subst he
 ·obtain⟨_,_,rfl,r,t⟩:=rs.inv
  next=>
   cases t.inv;obtain⟨_,_,rfl,ha,rs⟩:=r.inv
   next=>
    refine⟨_,_,rfl,.inl<|SqL.of<|k.live _ _ ha,λl hl=>?_⟩;obtain⟨k2,sg⟩:=k.laid hl (.lst _);exact c _ _ _ _ O k2 sg (.lst Zan<|rs.mono sg) p
 ·obtain⟨_,_,rfl,r,t⟩:=rs.inv
  next=>
   cases t.inv;obtain⟨_,_,rfl,ha,rs⟩:=r.inv
   next=>
    refine⟨_,_,rfl,.inr<|SqT.of<|k.live _ _ ha,λl hl=>?_⟩;obtain⟨k2,sg⟩:=k.laid hl (.lst _);exact c _ _ _ _ O k2 sg (.lst Zan<|rs.mono sg) p
theorem Zrp {sel:List Nat}{wi:TI}{tc:TT}{te:TE}{Po:List OD->Evt->Prop}(hsel:sel.Nodup)
  (h:JI K wi O λds O1=>ds.length<sizeLine/\∃(p:D->Bool) (f:D->OD),
   (∀(i:Nat) d,ds[i]?=some d->JT K tc (.val d::fixD sel O1) λb O4=>b=p d/\if b=true then JO K te O4 λe O5=>e=f d/\∃x,O5=x::fixD sel O1 else ∃x,O4=x::fixD sel O1) /\
   Po ((ds.filter p).map f) O1):JN K (tComp 1 sel wi (gName 0) tc te) O Po:=by
 refine Zuc hsel λg G H Z R k c=>h g G H Z R k λJ ds G' H' O' k' s' it ⟨z,p,f,ht,he⟩=>c J ds G' H' O' k' s' it ⟨z,λi ys O=>ys=((ds.take i).filter p).map f/\∃x,O = x::fixD sel O',⟨by simp,.any,rfl⟩,?_,?_⟩
 ·rintro i d ys O2 hd ⟨rfl,x,rfl⟩
  have tk:ds.take (i+1)=ds.take i++[d]:=by
   rw[Wcv,hd];rfl
  refine Zga (by decide) ?_;intro g G H Z Q k c;refine ht i d hd g G H Z Q k λb G1 H1 O1 k1 s1 ⟨e1,q⟩=>c b G1 H1 O1 k1 s1 ?_;cases b with
  |true=>
   rw[Qbw rfl]at q ⊢;intro g G H Z Q k c;refine q g G H Z Q k λa od G2 H2 O2 k2 s2 pd ⟨e2,x,e3⟩=>c a od G2 H2 O2 k2 s2 pd ⟨?_,x,e3⟩;rw[tk,Wbv,Wau,Wbz,<- e1,e2];rfl
  |false=>
   rw[Qbv Wao]at q ⊢;obtain⟨x,e3⟩:=q;refine⟨?_,x,e3⟩;rw[tk,Wbv,Wau,Wbz,<- e1];simp
 ·rintro ys O2 ⟨rfl,x,rfl⟩
  rw[Wcm,show (x::fixD sel O')=[x]++fixD sel O' from rfl,Zd0 (by simp)];exact he
end
def fLaw:DSp:=λds Post=>∃ns:List Int,ds=[.scr (ns.map .int)]/\ns.length<=63/\Post (.bl true)
def spLaw (K:W.Frag):Sp:=λvs H Q _=>∃(a:Addr) (ns:List Int),vs=[.ref a]/\SqL K H a (ns.map V.int)/\ns.length<=63/\∀H',Q (.bl true) H'
theorem Zqu {K:W.Frag}{vs:List V}{H:Hp}{Q:VK}{E:XK}(h:spLaw K vs H Q E):spD K fLaw vs H Q E:=by
 obtain⟨a,ns,rfl,hs,hl,q⟩:=h;refine⟨H,[.scr (ns.map .int)],λd=>d=.bl true,Same.refl _,.cons (.scr hs<|Reps.ofInts ns) .nil,⟨ns,rfl,hl,rfl⟩,λr H' d sh rr e=>?_⟩;subst e;cases rr.inv;exact q H'
theorem walk_law {l:PySem.W.OpenLaw}{q:Program}{loose:List Str}{XP:(Str->Option Value)->Heap->Prop}{YP:World->Heap->Prop}{d:DefRec}{K:Params->W.Frag}{k:Nat}{x:Str}(hk:Room k callerA) (hn:l.most=some 63) (hdf:d.params.defaults=[])
  (hY:∀(w:World) (h:Heap),YP w h->(K w.params).In h)
  (F:∀(w:World) (mg:Str->Option Value) (fa:Addr) (h:Heap),(K w.params).In h->h.Ns mainGlobals mg->mg d.name=some (.ref fa) ->
   ∃fd:FuncData,(∀(s:Shared) (u:Value),BindsTo s fd ⟨[u],[]⟩ [(x,u)])/\∀base:Heap,(K w.params).In base->base.Ns mainGlobals mg->FnOk l.prog w (K w.params) mg base CX0 k fa fd [x] (spD (K w.params) fLaw)) :
  PySem.W.WalkO q loose XP YP l.row.toRowW d [] (λf vs=>PySem.call f vs):=
 L2.walk_of (n:=63) (k:=k) (x:=x) (CX:=λ_=>CX0) (sp:=λw=>spLaw<|K w.params) hn (by decide) hdf hk hY
  (λw mg fa h h1 h2 h3=>by
   obtain⟨fd,b,f⟩:=F w mg fa h h1 h2 h3;exact⟨fd,b,λbase kb nb=>(f base kb nb).imp λvs H Q E z=>Zqu z⟩)
  (λ_ _ a ns hl _ hS=>⟨a,ns,rfl,hS,hl,λ_=>rfl⟩) λ_ _ _ _ _ z=>z
def SqB (b:Bool) (K:W.Frag) (H:Hp) (a:Addr) (xs:List V):Prop:=match b with|true=>SqT K H a xs|false=>SqL K H a xs
def ItB (b:Bool) (h:Heap) (j a:Addr) (i:Nat):Prop:=match b with|true=>h.IsTupleIter j a i|false=>h.IsListIter j a i
def HsB (b:Bool) (h:Heap) (a:Addr) (ws:Array Value):Prop:=match b with|true=>h.IsTuple a ws|false=>h.IsList a ws
theorem ItB.at {b:Bool}{h h':Heap}{j a:Addr}{i:Nat}(x:ItB b h j a i) (e:∀o,h.get? j=some o->h'.get? j=some o):ItB b h' j a i:=by
 cases b
 ·exact Heap.IsListIter.at (show h.IsListIter j a i from x) e
 ·exact Heap.IsTupleIter.at (show h.IsTupleIter j a i from x) e
theorem ItB.off {b:Bool}{h h':Heap}{j a c:Addr}{i:Nat}(x:ItB b h j a i) (e:Heap.ExtBut c h h') (n:j≠c):ItB b h' j a i:=x.at λo q=>e j o n q
theorem ItB.obj {b:Bool}{h:Heap}{j a:Addr}{i:Nat}(x:ItB b h j a i):∃o,h.get? j=some o/\o.data=.fields #[.ref a,.int i 0]:=by
 cases b <;> (obtain⟨o,e,_,d⟩:=x;exact⟨o,e,d⟩)
theorem HsB.off {b:Bool}{h h':Heap}{a c:Addr}{ws:Array Value}(x:HsB b h a ws) (e:Heap.ExtBut c h h') (n:a≠c):HsB b h' a ws:=by
 cases b <;> (obtain⟨o,q,r⟩:=x;exact⟨o,e a o n q,r⟩)
theorem HsB.lt {b:Bool}{h:Heap}{a:Addr}{ws:Array Value}(x:HsB b h a ws):a<h.objs.size:=by
 cases b <;> (obtain⟨o,q,r⟩:=x;exact War q)
theorem Inv.seqB {X:Cx}{pins:Qbz}{Z:St}{H:Hp}{s:Shared}{b:Bool}{a:Addr}{xs:List V}(I:Inv X pins Z H s) (h:SqB b X.K H a xs):∃its:List Value,Vals xs its/\HsB b s.heap a its.toArray:=by
 cases b
 ·obtain⟨its,r,p,_⟩:=I.list h
  exact⟨its,r,p.isList⟩
 ·obtain⟨its,r,p,_⟩:=I.tuple h
  exact⟨its,r,p⟩
theorem Inv.seqB_inj {X:Cx}{pins:Qbz}{Z:St}{H:Hp}{s:Shared}{b:Bool}{a:Addr}{xs ys:List V}(I:Inv X pins Z H s) (h:SqB b X.K H a xs) (h':SqB b X.K H a ys):xs=ys:=by
 cases b
 ·exact I.list_inj h h'
 ·exact I.tuple_inj h h'
section
variable {prog:Program}{w:World}{A:Around}{E:Qb0}{s:Shared}
theorem Zfu {b:Bool}{j a:Addr}{i:Nat}{ws:Array Value}{x:Value}{Q:Qb0}(g:ItB b s.heap j a i) (l:HsB b s.heap a ws) (e:ws[i]?=some x)
  (q:∀h',ItB b h' j a (i+1)->Heap.SameBut j s.heap h' -> Q x { s with heap:=h' }):wpAny (model prog w) A (Builtin.SmallTypes.nextOf (.ref j)) Q E s:=by
 cases b
 ·exact wpAny_nextOf_list_item g l e q
 ·obtain⟨o,g1,g2,g3⟩:=id g
  obtain⟨u,l1,_,n,l2⟩:=l;have ty:s.TypeIs (.ref j) "tuple_iterator":=⟨o,g1,g2⟩;unfold Builtin.SmallTypes.nextOf;refine Qbn<|wpAny_callSpecial?_slot (name:=Str.ofString "__next__") ty F.slot_tuple_iterator_next<|wpAny_call_entry F.slot_tuple_iterator_next ty F.entry_tuple_iterator_next ?_<|F.args_tuple_iterator_next_1 _;refine(show wpAny _ _ (field (.ref j) 0 >>= _) _ _ s from Qbn (wpAny_field g1 g3 (x:=.ref a) rfl ?_));refine(show wpAny _ _ (if (Value.ref a == Value.none)=true then _ else _) _ _ s from ?_);rw[Qbv (by exact Wao)];refine(show wpAny _ _ (field (.ref j) 1 >>= _) _ _ s from Qbn (wpAny_field g1 g3 (x:=.int i 0) rfl ?_));refine(show wpAny _ _ (seqItems? (.ref a) >>= _) _ _ s from Qbn (wpAny_seqItems l1 l2 ?_));simp only[Wbf,e];refine Qbn<|wpAny_setField g1 g3 (by simp)<|Qbo ⟨x,rfl,Qbo<|q _ ⟨_,Wbi _ g1<|Obj.isFreed_of_fields<|Obj.data_mapFields g3 _,(Obj.cls_mapFields ..).trans g2,?_⟩<|Heap.SameBut.update ..⟩;rw[Obj.data_mapFields g3];simp[rawInt]
theorem Zkx {b:Bool}{j a:Addr}{i:Nat}{ws:Array Value}{Q:Qb0}(hh:A.handled=none) (g:ItB b s.heap j a i) (l:HsB b s.heap a ws) (e:ws[i]?=none)
  (q:∀h' x,Heap.ExtBut j s.heap h' -> (∃o,h'.get? x=some o/\o.cls=.type "StopIteration")->E (.ref x) { s with heap:=h' }):wpAny (model prog w) A (Builtin.SmallTypes.nextOf (.ref j)) Q E s:=by
 cases b
 ·exact wpAny_nextOf_list_end hh g l e q
 ·obtain⟨o,g1,g2,g3⟩:=id g
  obtain⟨u,l1,_,n,l2⟩:=l;have ty:s.TypeIs (.ref j) "tuple_iterator":=⟨o,g1,g2⟩;unfold Builtin.SmallTypes.nextOf;refine Qbn<|wpAny_callSpecial?_slot (name:=Str.ofString "__next__") ty F.slot_tuple_iterator_next<|wpAny_call_entry F.slot_tuple_iterator_next ty F.entry_tuple_iterator_next ?_<|F.args_tuple_iterator_next_1 _;refine(show wpAny _ _ (field (.ref j) 0 >>= _) _ _ s from Qbn (wpAny_field g1 g3 (x:=.ref a) rfl ?_));refine(show wpAny _ _ (if (Value.ref a == Value.none)=true then _ else _) _ _ s from ?_);rw[Qbv (by exact Wao)];refine(show wpAny _ _ (field (.ref j) 1 >>= _) _ _ s from Qbn (wpAny_field g1 g3 (x:=.int i 0) rfl ?_));refine(show wpAny _ _ (seqItems? (.ref a) >>= _) _ _ s from Qbn (wpAny_seqItems l1 l2 ?_));simp only[Wbf,e];refine Qbn<|Qbt<|Qbn<|wpAny_setField g1 g3 (by simp) (show wpAny _ _ (newExc (.type "StopIteration") [] >>= _) _ _ _ from Qbn ?_);simp only[newExc,newTuple];refine Qbn<|wpAny_newObj_type (Qbn (m:=firstArgMember _ _)<|wpAny_of_eq (a:=Value.none) (by first|rfl|(simp only[firstArgMember];rfl))<|wpAny_newObj_type ?_ (by size_fits)) (by size_fits);simp only[raiseNew];refine Qbn<|wpAny_handled ?_
  first|rw[show A.in1.handled=none from hh]|rw[hh]
  exact Qbn<|Qbo<|wpAny_throw<|q _ _ (((Heap.SameBut.update ..).extBut.push _).push _) ⟨_,Wam _ rfl,rfl⟩
theorem Ztz {b c:Bool}{z U O_ j1 j2 a1 a2:Addr}{k1 k2:Nat}{vs us:Array Value}{x y p r:Value}{Q:Option Value->Shared->Prop}(D:ZipApart z U O_ j1 j2 a1 a2)
  (gz:IsZip s.heap z U O_ .none) (gU:IsPair s.heap U (.ref j1) (.ref j2)) (gO:IsPair s.heap O_ p r) (g1:ItB b s.heap j1 a1 k1) (g2:ItB c s.heap j2 a2 k2) (l1:HsB b s.heap a1 vs) (l2:HsB c s.heap a2 us) (ex:vs[k1]?=some x) (ey:us[k2]?=some y)
  (q:∀h',IsZip h' z U O_ (rawInt s.heap.objs.size)->IsPair h' O_ x y->ItB b h' j1 a1 (k1+1)->ItB c h' j2 a2 (k2+1)->IsPair h' s.heap.objs.size x y->h'.objs.size=s.heap.objs.size+1 ->
   (∀d o,d≠z->d≠O_->d≠j1->d≠j2->s.heap.get? d=some o->h'.get? d=some o)->Q (some (.ref s.heap.objs.size)) { s with heap:=h' }):wpAny (model prog w) A (pyNext (.ref z)) Q E s:=by
 have ty:s.TypeIs (.ref z) "zip":=⟨_,gz,rfl⟩;unfold pyNext;refine Qbn<|Qbs<|wpAny_callSpecial?_slot (name:=Str.ofString "__next__") ty F.slot_zip_next<|wpAny_call_entry F.slot_zip_next ty F.entry_zip_next ?_<|F.args_zip_next_1 _;refine(show wpAny _ _ (field (.ref z) 2 >>= _) _ _ _ from Qbn (wpAny_field gz rfl (x:=.bool false) rfl ?_));refine(show wpAny _ _ (field (.ref z) 3 >>= _) _ _ _ from Qbn (wpAny_field gz rfl (x:=.ref U) rfl<|Qbn<|wpAny_seqItems gU rfl ?_));refine(show wpAny _ _ (Builtin.SmallTypes.ownedTupleIsFree (.ref z) >>= _) _ _ _ from Qbn ?_);unfold Builtin.SmallTypes.ownedTupleIsFree;refine Qbn<|wpAny_field gz rfl (x:=.none) rfl<|Qbo ?_;simp only[if_true];refine Qbn<|Qbt<|Qbn<|wpAny_field gz rfl (x:=.ref O_) rfl<|Qbn (wpAny_setField_rec gz (by simp) λh₁ z₁ s₁=>Qbn ?_)
 replace z₁:IsZip h₁ z U O_ .ellipsis:=z₁
 simp only[List.zipIdx_cons,List.zipIdx_nil,List.forIn_cons,List.forIn_nil];refine Qbn<|Qbn<|wpAny_onRaise (show wpAny _ _ (Builtin.SmallTypes.nextOf (.ref j1) >>= _) _ _ _ from Qbn (Zfu (g1.off s₁.extBut D.i1z) (l1.off s₁.extBut D.l1z) ex λh₂ g₂ s₂=>Qbo ?_));have o₂:IsPair h₂ O_ p r:=s₂.extBut _ _ D.TOi1<|s₁.extBut _ _ D.TOz gO;refine Qbn<|wpAny_seqItems o₂ rfl<|Qbn (wpAny_updateSeq_pair o₂ λh₃ o₃ s₃=>Qbn<|wpAny_letGo<|Qbo ?_)
 replace o₃:IsPair h₃ O_ x r:=o₃
 refine Qbn<|Qbn<|wpAny_onRaise (show wpAny _ _ (Builtin.SmallTypes.nextOf (.ref j2) >>= _) _ _ _ from Qbn (Zfu (((g2.off s₁.extBut D.i2z).off s₂.extBut D.i12.symm).off s₃.extBut D.TOi2.symm) (((l2.off s₁.extBut D.l2z).off s₂.extBut D.l2i1).off s₃.extBut D.l2TO) ey λh₄ g₄ s₄=>Qbo ?_));have o₄:IsPair h₄ O_ x r:=s₄.extBut _ _ D.TOi2 o₃;refine Qbn<|wpAny_seqItems o₄ rfl<|Qbn (wpAny_updateSeq_pair o₄ λh₅ o₅ s₅=>Qbn<|wpAny_letGo<|Qbo<|Qbo ?_)
 replace o₅:IsPair h₅ O_ x y:=o₅
 refine Qbn<|wpAny_seqItems o₅ rfl<|Qbn<|wpAny_newTuple ?_;have n5:h₅.objs.size=s.heap.objs.size:=by rw[s₅.1,s₄.1,s₃.1,s₂.1,s₁.1]
 have z₅:IsZip h₅ z U O_ .ellipsis:=s₅.extBut _ _ D.TOz.symm<|s₄.extBut _ _ D.i2z.symm<|s₃.extBut _ _ D.TOz.symm<|s₂.extBut _ _ D.i1z.symm z₁;have old:∀d o,d≠z->d≠O_->d≠j1->d≠j2->s.heap.get? d=some o->h₅.get? d=some o:=λd o c1 c2 c3 c4 e=>s₅.extBut _ _ c2<|s₄.extBut _ _ c4<|s₃.extBut _ _ c2<|s₂.extBut _ _ c3<|s₁.extBut _ _ c1 e;have t1:ItB b h₅ j1 a1 (k1+1):=((g₂.off s₃.extBut D.TOi1.symm).off s₄.extBut D.i12).off s₅.extBut D.TOi1.symm;have t2:ItB c h₅ j2 a2 (k2+1):=g₄.off s₅.extBut D.TOi2.symm;have zl:z<h₅.objs.size:=War z₅;refine(show wpAny _ _ (Builtin.SmallTypes.ownedTupleHandOut (.ref z) (.ref h₅.objs.size) >>= _) _ _ _ from Qbn ?_);unfold Builtin.SmallTypes.ownedTupleHandOut;have z₆:IsZip (h₅.push { cls:=.type "tuple",data:=.seq #[x,y] }) z U O_ .ellipsis:=Wac _ z₅;refine Qbn (wpAny_setField_rec z₆ (by simp) λh₇ z₇ s₇=>?_)
 replace z₇:IsZip h₇ z U O_ (rawInt h₅.objs.size):=z₇
 refine wpAny_setField_rec z₇ (by simp) λh₈ z₈ s₈=>?_
 replace z₈:IsZip h₈ z U O_ (rawInt h₅.objs.size):=z₈
 have up:∀d o,d≠z->h₅.get? d=some o->h₈.get? d=some o:=λd o c1 e=>s₈.extBut _ _ c1<|s₇.extBut _ _ c1<|Wac _ e;have new8:IsPair h₈ h₅.objs.size x y:=s₈.extBut _ _ (Wcr zl)<|s₇.extBut _ _ (Wcr zl)<|Wam _ rfl;have n8:h₈.objs.size=h₅.objs.size+1:=by rw[s₈.1,s₇.1,Wbr]
 rw[n5]at z₈ new8 n8;refine Qbo ⟨_,rfl,Qbo ?_⟩;refine(show Q (some (.ref h₅.objs.size)) _ from ?_);rw[n5];exact q h₈ z₈ (up _ _ D.TOz o₅) (t1.at λo e=>up _ o D.i1z e) (t2.at λo e=>up _ o D.i2z e) new8 n8 λd o c1 c2 c3 c4 e=>up d o c1<|old d o c1 c2 c3 c4 e
theorem Zwi {b c:Bool}{z U O_ j1 j2 a1 a2:Addr}{k1 k2:Nat}{vs us:Array Value}{p r:Value}{Q:Option Value->Shared->Prop}(hh:A.handled=none) (D:ZipApart z U O_ j1 j2 a1 a2)
  (gz:IsZip s.heap z U O_ .none) (gU:IsPair s.heap U (.ref j1) (.ref j2)) (gO:IsPair s.heap O_ p r) (g1:ItB b s.heap j1 a1 k1) (g2:ItB c s.heap j2 a2 k2) (l1:HsB b s.heap a1 vs) (l2:HsB c s.heap a2 us) (e:vs[k1]?=none\/us[k2]?=none)
  (q:∀h',(∀d o,d≠z->d≠O_->d≠j1->d≠j2->s.heap.get? d=some o->h'.get? d=some o)->Q none { s with heap:=h' }):wpAny (model prog w) A (pyNext (.ref z)) Q E s:=by
 have ty:s.TypeIs (.ref z) "zip":=⟨_,gz,rfl⟩;have fin:∀{h':Heap}{x:Addr},(∀d o,d≠z->d≠O_->d≠j1->d≠j2->s.heap.get? d=some o->h'.get? d=some o)->(∃o,h'.get? x=some o/\o.cls=.type "StopIteration")->wpAny (model prog w) A (do if (<- isInstance (.ref x) (.type "StopIteration")) then pure none else throw (.ref x)) Q E { s with heap:=h' }:=λ{h' x} hk ⟨o,ho,hc⟩=>by
  refine Qbn<|wpAny_isInstance (T:="StopIteration") (b:=true) ⟨o,ho,hc⟩ isSubtype_stop ?_;exact Qbo<|q _ hk
 unfold pyNext;refine Qbn<|Qbs<|wpAny_callSpecial?_slot (name:=Str.ofString "__next__") ty F.slot_zip_next<|wpAny_call_entry F.slot_zip_next ty F.entry_zip_next ?_<|F.args_zip_next_1 _;refine(show wpAny _ _ (field (.ref z) 2 >>= _) _ _ _ from Qbn (wpAny_field gz rfl (x:=.bool false) rfl ?_));refine(show wpAny _ _ (field (.ref z) 3 >>= _) _ _ _ from Qbn (wpAny_field gz rfl (x:=.ref U) rfl<|Qbn<|wpAny_seqItems gU rfl ?_));refine(show wpAny _ _ (Builtin.SmallTypes.ownedTupleIsFree (.ref z) >>= _) _ _ _ from Qbn ?_);unfold Builtin.SmallTypes.ownedTupleIsFree;refine Qbn<|wpAny_field gz rfl (x:=.none) rfl<|Qbo ?_;simp only[if_true];refine Qbn<|Qbt<|Qbn<|wpAny_field gz rfl (x:=.ref O_) rfl<|Qbn (wpAny_setField_rec gz (by simp) λh₁ z₁ s₁=>Qbn ?_)
 replace z₁:IsZip h₁ z U O_ .ellipsis:=z₁
 simp only[List.zipIdx_cons,List.zipIdx_nil,List.forIn_cons,List.forIn_nil];refine Qbn<|Qbn<|wpAny_onRaise (show wpAny _ _ (Builtin.SmallTypes.nextOf (.ref j1) >>= _) _ _ _ from ?_);cases ex:vs[k1]? with
 |none=>
  refine Qbn (Zkx hh (g1.off s₁.extBut D.i1z) (l1.off s₁.extBut D.l1z) ex λh₂ y s₂ ⟨u,u1,u2⟩=>?_);have z₂:IsZip h₂ z U O_ .ellipsis:=s₂ _ _ D.i1z.symm z₁;have yz:y≠z:=λx=>by subst x;rw[z₂]at u1;cases u1;simp at u2
  exact wpAny_setField_rec z₂ (by simp) λh₃ _ s₃=>fin (λd o c1 _ c3 _ x=>s₃.extBut _ _ c1<|s₂ _ _ c3<|s₁.extBut _ _ c1 x) ⟨u,s₃.extBut _ _ yz u1,u2⟩
 |some x=>
  have ey:us[k2]?=none:=by rcases e with h|h;rw[ex]at h;cases h;exact h
  refine Qbn (Zfu (g1.off s₁.extBut D.i1z) (l1.off s₁.extBut D.l1z) ex λh₂ g₂ s₂=>Qbo ?_);have o₂:IsPair h₂ O_ p r:=s₂.extBut _ _ D.TOi1<|s₁.extBut _ _ D.TOz gO;refine Qbn<|wpAny_seqItems o₂ rfl<|Qbn (wpAny_updateSeq_pair o₂ λh₃ o₃ s₃=>Qbn<|wpAny_letGo<|Qbo ?_);refine Qbn<|Qbn<|wpAny_onRaise (show wpAny _ _ (Builtin.SmallTypes.nextOf (.ref j2) >>= _) _ _ _ from ?_);refine Qbn (Zkx hh (((g2.off s₁.extBut D.i2z).off s₂.extBut D.i12.symm).off s₃.extBut D.TOi2.symm) (((l2.off s₁.extBut D.l2z).off s₂.extBut D.l2i1).off s₃.extBut D.l2TO) ey λh₄ y s₄ ⟨u,u1,u2⟩=>?_);have z₄:IsZip h₄ z U O_ .ellipsis:=s₄ _ _ D.i2z.symm<|s₃.extBut _ _ D.TOz.symm<|s₂.extBut _ _ D.i1z.symm z₁;have yz:y≠z:=λx=>by subst x;rw[z₄]at u1;cases u1;simp at u2
  exact wpAny_setField_rec z₄ (by simp) λh₅ _ s₅=>fin (λd o c1 c2 c3 c4 x=>s₅.extBut _ _ c1<|s₄ _ _ c4<|s₃.extBut _ _ c2<|s₂.extBut _ _ c3<|s₁.extBut _ _ c1 x) ⟨u,s₅.extBut _ _ yz u1,u2⟩
end
section
abbrev zt1 (h:Heap) (a:Addr):Heap:=h.push ⟨.type "tuple_iterator",none,.fields #[.ref a,.int 0 0],#[]⟩
abbrev zt2 (h:Heap) (a c:Addr):Heap:=(zt1 h a).push ⟨.type "tuple_iterator",none,.fields #[.ref c,.int 0 0],#[]⟩
abbrev zt3 (h:Heap) (a c:Addr):Heap:=(zt2 h a c).push ⟨.type "tuple",none,.seq #[.ref h.objs.size,.ref (zt1 h a).objs.size],#[]⟩
abbrev zt4 (h:Heap) (a c:Addr):Heap:=(zt3 h a c).push ⟨.type "tuple",none,.seq #[.none,.none],#[]⟩
abbrev zt5 (h:Heap) (a c:Addr):Heap:=(zt4 h a c).push ⟨.type "zip",none,.fields #[.none,.bool false,.bool false,.ref (zt2 h a c).objs.size,.ref (zt3 h a c).objs.size],#[]⟩
theorem Zqb (a c:Addr) (vs us:Array Value) :
  Meets (Builtin.«zip.__new__» ⟨[.type "zip",.ref a,.ref c],[]⟩) (λ_ R s=>s.heap.IsTuple a vs/\s.heap.IsTuple c us/\R (.ok (.ret (.ref (zt4 s.heap a c).objs.size))) { s with heap:=zt5 s.heap a c }):=.of_wp λprog w A R s h=>by
 obtain⟨hp,g,d,tk,os⟩:=s;obtain⟨u1,u2,h⟩:=h;have sub0:=sub_zip;have v1:Heap.IsTuple (Shared.heap ⟨hp,g,d,tk,os⟩) a vs:=u1;have v2:Heap.IsTuple (Shared.heap ⟨hp.push { cls:=.type "tuple_iterator",data:=.fields #[.ref a,.int 0 0] },g,d,tk,os⟩) c us:=Heap.IsTuple.push u2 _
 wp_walk using wpAny_pyIter_tuple v1,wpAny_pyIter_tuple v2
 exact⟨_,rfl,h⟩
variable {prog:Program}{w:World}{A:Around}{E:Qb0}{s:Shared}
theorem Zt2 {b:Bool}{a c:Addr}{vs us:Array Value}{Q:Qb0}(l1:HsB b s.heap a vs) (l2:HsB b s.heap c us)
  (q:∀h',IsZip h' (s.heap.objs.size+4) (s.heap.objs.size+2) (s.heap.objs.size+3) .none->IsPair h' (s.heap.objs.size+2) (.ref s.heap.objs.size) (.ref (s.heap.objs.size+1))->IsPair h' (s.heap.objs.size+3) .none .none ->
   ItB b h' s.heap.objs.size a 0->ItB b h' (s.heap.objs.size+1) c 0->(∀d o,s.heap.get? d=some o->h'.get? d=some o)->Q (.ref (s.heap.objs.size+4)) { s with heap:=h' }):wpAny (model prog w) A (call (.type "zip") [.ref a,.ref c]) Q E s:=by
 cases b
 ·exact call_zip_2 l1 l2 λh' b1 b2 b3 b4 b5 b6 hk=>q h' b1 b2 b3 b4 b5 hk
 ·refine callType_new F.called_zip (by decide) (F.typeCall_zip_2 _ _) (F.newCall_zip_2 _ _) (λobj=>F.args_object_init_3 obj _ _) F.entry_zip_new (Zqb a c vs us) ⟨l1,l2,?_⟩
  have z1:(zt1 s.heap a).objs.size=s.heap.objs.size+1:=Wbr ..;have z2:(zt2 s.heap a c).objs.size=s.heap.objs.size+2:=by rw[Wbr,z1]
  have z3:(zt3 s.heap a c).objs.size=s.heap.objs.size+3:=by rw[Wbr,z2]
  have z4:(zt4 s.heap a c).objs.size=s.heap.objs.size+4:=by rw[Wbr,z3]
  have p5:(zt5 s.heap a c).get? (zt4 s.heap a c).objs.size=some _:=Wam _ rfl;have p4:(zt5 s.heap a c).get? (zt3 s.heap a c).objs.size=some _:=Wac _<|Wam _ rfl;have p3:(zt5 s.heap a c).get? (zt2 s.heap a c).objs.size=some _:=Wac _<|Wac _<|Wam _ rfl;have p2:(zt5 s.heap a c).get? (zt1 s.heap a).objs.size=some _:=Wac _<|Wac _<|Wac _<|Wam _ rfl;have p1:(zt5 s.heap a c).get? s.heap.objs.size=some _:=Wac _<|Wac _<|Wac _<|Wac _<|Wam _ rfl;show _/\_;rw[z2,z3,z4]at p5;rw[z1,z2]at p3;rw[z3]at p4;rw[z1]at p2;rw[z4];exact⟨⟨_,p5,rfl⟩,q _ p5 p3 p4 ⟨_,p1,rfl,rfl⟩ ⟨_,p2,rfl,rfl⟩ λd o e=>Wac _<|Wac _<|Wac _<|Wac _<|Wac _ e⟩
end
def Izb (b:Bool) (K:W.Frag) (l1 l2:Addr):It:=
 ⟨λi H=>∃xs ys x y,SqB b K H l1 xs/\SqB b K H l2 ys/\xs[i]?=some x/\ys[i]?=some y,
  λi H v H'=>∃p x y,H p=none/\v=.ref p/\H'=upd H p (.tup [x,y])/\∀xs ys,SqB b K H l1 xs->SqB b K H l2 ys->xs[i]?=some x/\ys[i]?=some y,
  λi H=>∃xs ys,SqB b K H l1 xs/\SqB b K H l2 ys/\(xs.length<=i\/ys.length<=i)⟩
theorem Ztl {b:Bool}{P:Program}{w:World}{K:W.Frag}{es:List Expr}{kk:Nat}{tp:Pos}(l1 l2 z TI TO i1 i2:Addr) (D:ZipApart z TI TO i1 i2 l1 l2):Turn P w K (.Tuple es kk tp) (Izb b K l1 l2) [z,TI,TO,i1,i2] z
  (λi h=>IsZip h z TI TO .none/\IsPair h TI (.ref i1) (.ref i2)/\(∃a b,IsPair h TO a b)/\ItB b h i1 l1 i/\ItB b h i2 l2 i) where
 mem:=by simp
 obj:=λi h st b2 hb=>by
  obtain⟨hz,hTI,⟨a,b',hTO⟩,h1,h2⟩:=st;obtain⟨o1,e1,d1⟩:=h1.obj;obtain⟨o2,e2,d2⟩:=h2.obj;simp only[Wai,Wbc,or_false]at hb;rcases hb with rfl|rfl|rfl|rfl|rfl
  ·exact⟨_,hz,λv q=>by cases q⟩
  ·exact⟨_,hTI,λv q=>by cases q⟩
  ·exact⟨_,hTO,λv q=>by cases q⟩
  ·exact⟨o1,e1,λv q=>by rw[d1]at q;cases q⟩
  ·exact⟨o2,e2,λv q=>by rw[d2]at q;cases q⟩
 keep:=λi h h' st k=>by
  obtain⟨hz,hTI,⟨a,b',hTO⟩,h1,h2⟩:=st;exact⟨k z (by simp) _ hz,k TI (by simp) _ hTI,⟨a,b',k TO (by simp) _ hTO⟩,h1.at λo e=>k i1 (by simp) o e,h2.at λo e=>k i2 (by simp) o e⟩
 item:=by
  intro X hP hw hK hc i pins s Z H E I hf st hg;subst hP hw hK;obtain⟨hz,hTI,⟨a,b',hTO⟩,h1,h2⟩:=st;obtain⟨xs,ys,x,y,hq1,hq2,hx,hy⟩:=hg;obtain⟨its1,r1,p1⟩:=I.seqB hq1;obtain⟨its2,r2,p2⟩:=I.seqB hq2;obtain⟨u1,hu1,ru1⟩:=r1.get hx;obtain⟨u2,hu2,ru2⟩:=r2.get hy;refine Ztz D hz hTI hTO h1 h2 p1 p2 (x:=u1) (y:=u2) (by simpa using hu1) (by simpa using hu2) λh' b1 b2 b3 b4 b5 b6 hk=>?_;refine⟨_,rfl,wpAny_letOwnedTupleGo_zip (s:={ s with heap:=h' }) b1 λh'' hz'' hs''=>?_⟩;have lt:∀{c o},s.heap.get? c=some o->c≠s.heap.objs.size:=λe=>Wa7<|War e;have hTz:s.heap.objs.size≠z:=Ne.symm<|lt hz;have hTfree:H s.heap.objs.size=none:=I.hok.fresh<|Waj _;have kept:∀c o,c ∉ [z,TI,TO,i1,i2]->s.heap.get? c=some o->h''.get? c=some o:=λc o hc e=>by
   simp only[Wai,Wbc,or_false,not_or]at hc;exact hs''.extBut _ _ hc.1<|hk c o hc.1 hc.2.2.1 hc.2.2.2.1 hc.2.2.2.2 e
  have hT:h''.get? s.heap.objs.size=some { cls:=.type "tuple",data:=.seq #[u1,u2] }:=hs''.extBut _ _ hTz b5;have ntr:∀c o,H c=some o->c ∉ [z,TI,TO,i1,i2]:=λc o e hc=>by rw[(hf c hc).1]at e;cases e
  have hok:HOk X.prog X.w (upd H s.heap.objs.size (.tup [x,y])) h'':=λc o e=>by
   by_cases hcT:c=s.heap.objs.size
   ·subst hcT
    rw[Zan]at e;cases e;exact⟨by show 2<=sizeLine;decide,[u1,u2],.cons ru1 (.cons ru2 .nil),_,hT,⟨rfl,_,rfl⟩,rfl⟩
   ·rw[Zal hcT]at e
    refine(I.hok c o e).stay (λd v hd q=>kept d v ?_ q) (λd q=>by rw[Zal (Zam q hTfree)];exact q) λd zs q=>by rw[Zal (Zam q hTfree)];exact q
    rcases hd with hd|hd
    ·rw[hd];exact ntr c o e
    ·exact ntr d _ hd
  have I2:Inv X pins Z (upd H s.heap.objs.size (.tup [x,y])) { s with heap:=h'' }:=by
   refine I.call (g':=s.gens) (t':=s.toks) (d':=s.drawn) (ch:=[z,TI,TO,i1,i2]) ⟨λc o e n hc hx=>kept c o hx e,λc o e n hc hx=>⟨o.slots,kept c o hx e⟩,λc o e n hx=>by rw[Zal (lt e)];exact n,λc o e hx=>⟨o,kept c o hx e⟩,
    λc zs q=>by rw[Zal (Zam q hTfree)];exact q,λc o zs q=>by rw[Zal (Zam q hTfree)];exact q,λc zs q=>⟨#[],by rw[Zal (Zam q hTfree),q];simp⟩⟩ hok I.bare λc hcc=>?_
   obtain⟨f0,f1,f2,f3,f4,f5⟩:=hf c hcc;exact⟨f3,f1,f4,f5⟩
  refine⟨.ref s.heap.objs.size,_,I2,rfl,⟨s.heap.objs.size,x,y,hTfree,rfl,rfl,λxs' ys' q1 q2=>?_⟩,⟨hz'',hs''.extBut _ _ D.TIz<|hk _ _ D.TIz D.TITO D.TIi1 D.TIi2 hTI,⟨_,_,hs''.extBut _ _ D.TOz b2⟩,b3.off hs''.extBut D.i1z,b4.off hs''.extBut D.i2z⟩,λc hcc=>?_⟩
  ·rw[I.seqB_inj q1 hq1,I.seqB_inj q2 hq2];exact⟨hx,hy⟩
  ·have hcl:c≠s.heap.objs.size:=by
    simp only[Wai,Wbc,or_false]at hcc;obtain⟨_,e1,_⟩:=h1.obj;obtain⟨_,e2,_⟩:=h2.obj;rcases hcc with rfl|rfl|rfl|rfl|rfl
    ·exact lt hz
    ·exact lt hTI
    ·exact lt hTO
    ·exact lt e1
    ·exact lt e2
   rw[Zal hcl];exact(hf c hcc).1
 done:=by
  intro X hP hw hK hc i pins s Z H E I hf st hg;subst hP hw hK;obtain⟨hz,hTI,⟨a,b',hTO⟩,h1,h2⟩:=st;obtain⟨xs,ys,hq1,hq2,hend⟩:=hg;obtain⟨its1,r1,p1⟩:=I.seqB hq1;obtain⟨its2,r2,p2⟩:=I.seqB hq2;have l1':=r1.length;have l2':=r2.length;refine Zwi (I.ok.hd hc) D hz hTI hTO h1 h2 p1 p2 ?_ λh' hk=>⟨rfl,?_⟩
  ·rcases hend with q|q
   ·left;simp;omega
   ·right;simp;omega
  ·have kept:∀c o,c ∉ [z,TI,TO,i1,i2]->s.heap.get? c=some o->h'.get? c=some o:=λc o hc e=>by
    simp only[Wai,Wbc,or_false,not_or]at hc;exact hk c o hc.1 hc.2.2.1 hc.2.2.2.1 hc.2.2.2.2 e
   have ntr:∀c o,H c=some o->c ∉ [z,TI,TO,i1,i2]:=λc o e hc=>by rw[(hf c hc).1]at e;cases e
   refine I.call (g':=s.gens) (t':=s.toks) (d':=s.drawn) (ch:=[z,TI,TO,i1,i2]) ⟨λc o e n hc hx=>kept c o hx e,λc o e n hc hx=>⟨o.slots,kept c o hx e⟩,λc o e n hx=>n,λc o e hx=>⟨o,kept c o hx e⟩,
    λc zs q=>q,λc o zs q=>q,λc zs q=>⟨#[],by rw[q];simp⟩⟩ (λc o e=>?_) I.bare λc hcc=>?_
   ·refine(I.hok c o e).stay (λd v hd q=>kept d v ?_ q) (λd q=>q) λd zs q=>q
    rcases hd with hd|hd
    ·rw[hd];exact ntr c o e
    ·exact ntr d _ hd
   ·obtain⟨f0,f1,f2,f3,f4,f5⟩:=hf c hcc
    exact⟨f3,f1,f4,f5⟩
 self:=λ_ _ _ _ _ st h=>wpAny_pyIter_zip st.1 h
section
variable {X:Cx}
def iZip (K:W.Frag) (ta:TA):TI:=λZ H R=>ta Z H λvs H1=>∃b l1 l2,vs=[.ref l1,.ref l2]/\(∃xs,SqB b K H1 l1 xs)/\(∃ys,SqB b K H1 l2 ys)/\R (Izb b K l1 l2) H1
theorem Zxg (K:W.Frag) {es:List Expr}{kk:Nat}{tp:Pos}{a b:Expr}{ta:TA}{p pos:Pos}(hg:Gl X "zip") (hm:X.mg "zip" = none) (ha:PA X [a,b] ta) (hs:starEach [a,b] X.env=[(false,eval a X.env),(false,eval b X.env)]:=by rfl) (hs2:starEach [b] X.env=[(false,eval b X.env)]:=by rfl) (hK:X.K=K:=by rfl) :
  PI X (.Tuple es kk tp) (.Call (.Name "zip" p) [a,b] [] pos) (iZip K ta):=by
 subst hK;intro pins s Z H R I h;refine Call_<|Ze0 I hg hm (Zwa)<|PyProof.Rows.callWith_type1 (thn (ha pos pins s Z H _ I h) λus s1 ⟨vs,H1,I1,r1,q1⟩=>?_) (by rw[hs,hs2]) (by rw[hs2];rfl);obtain⟨b,l1,l2,e,⟨xs,hx⟩,⟨ys,hy⟩,q⟩:=q1;subst e;obtain⟨u1,u2,rfl,q1,q2⟩:=r1.two;cases (show u1=Value.ref l1 from q1);cases (show u2=Value.ref l2 from q2);obtain⟨its1,w1,p1⟩:=I1.seqB hx;obtain⟨its2,w2,p2⟩:=I1.seqB hy;have lt1:l1<s1.heap.objs.size:=p1.lt;have lt2:l2<s1.heap.objs.size:=p2.lt;refine Zt2 p1 p2 λh' b1 b2 b3 b4 b5 hk=>?_;refine wpAny_pyIter_zip b1 ?_;have I2:Inv X pins Z H1 { s1 with heap:=h' }:=I1.kept (t':=s1.toks) hk;refine⟨s1.heap.objs.size+4,[s1.heap.objs.size+4,s1.heap.objs.size+2,s1.heap.objs.size+3,s1.heap.objs.size,s1.heap.objs.size+1],_,_,H1,rfl,I2,Ztl l1 l2 _ _ _ _ _<|zipApart_new lt1 lt2,⟨b1,b2,⟨_,_,b3⟩,b4,b5⟩,λb hb=>?_,q⟩;have hge:s1.heap.objs.size<=b:=by
  simp only[Wai,Wbc,or_false]at hb;rcases hb with rfl|rfl|rfl|rfl|rfl <;> omega
 exact I1.fpOk hge<|I1.hok.fresh hge
def rAll (K:W.Frag):List V->Hp->VK->Prop:=λxs H Q=>∃(p:Addr) (bs:List Bool),xs=[.ref p]/\SqL K H p (bs.map V.bl)/\Q (.bl<|bs.all id) H
theorem allK (K:W.Frag) (hc:X.calm=true) (hK:X.K=K:=by rfl):CallR X (.builtin "all") (rAll K):=by
 subst hK;intro pins s Z H xs us Q I r h;obtain⟨p,bs,rfl,hx,q⟩:=h;obtain⟨u,rfl,ru⟩:=vals1 r;cases (show u=Value.ref p from ru);obtain⟨its,w1,p1,_⟩:=I.list hx;have hlt:p<s.heap.objs.size:=by obtain⟨o,e,_⟩:=p1.isList;exact War e
 have hval:∀(bs:List Bool) (its:List Value),Vals (bs.map V.bl) its->its=bs.map Value.bool:=by
  intro bs
  induction bs with
  |nil=>intro its h;cases h;rfl
  |cons b r ih=>intro its h;cases h with|cons h1 h2=>cases (show _=Value.bool b from h1);rw[ih _ h2];rfl
 have e:=hval bs its w1;subst e;refine call_all_walk<|wpAny_pyIter_list p1.isList ?_;refine⟨s.heap.objs.size,_,_,_,_,_,λi=>bs.getD i false,rfl,Walks.list (prog:=X.prog) (w:=X.w) (A:=X.A.in1) (show X.A.in1.handled=none from I.ok.hd hc) s.heap.objs.size p (Wa7 hlt) (bs.map Value.bool).toArray,⟨⟨_,Wam _ rfl,rfl,rfl⟩,p1.isList.push _⟩,?_,λh' tk hk=>?_⟩
 ·intro i v s0 Q0 E0 hv hq
  have hv:(bs.map Value.bool).toArray[i]?=some v:=hv;have hv:(bs.map Value.bool)[i]?=some v:=by simpa using hv
  rw[Waf]at hv;cases z:bs[i]? with
  |none=>rw[z]at hv;cases hv
  |some b=>
   rw[z]at hv;have hv:Value.bool b=v:=by simpa using hv
   subst hv;have e0:bs.getD i false=b:=by rw[Waq,z];rfl
   have hq:Q0 (bs.getD i false) s0:=hq;rw[e0]at hq;exact wpAny_truthy_bool hq
 ·have e:(Wb2 (bs.map Value.bool).toArray.size).all (λi=>bs.getD i false)=bs.all id:=by
   rw[Wae,Waa];rw[Wcg,Wa4,Wa4];constructor
   ·intro hh b hb
    obtain⟨i,hi,rfl⟩:=Wck.mp hb;have:=hh i<|Wbp.mpr hi;rw[Waq,Wab hi]at this;exact this
   ·intro hh i hi
    rw[Wbp]at hi;rw[Waq,Wab hi];exact hh _<|Wbd hi
  rw[e];have I0:Inv X pins Z H { s with heap:=s.heap.push { cls:=.type "list_iterator",data:=.fields #[.ref p,.int 0 0] },toks:=s.toks }:=I.kept λb o e=>Wac _ e;refine⟨.bl<|bs.all id,H,I0.turned (it:=s.heap.objs.size) (λb o hb e=>hk b o (by simpa using hb) e) (I.hok.fresh<|Waj _) (Wcr I.lt) (.inr I.sz) ?_ ?_,rfl,q⟩
  ·have:=I.fpOk (b:=s.heap.objs.size) (H':=H) (Waj _) (I.hok.fresh<|Waj _)
   exact this.2.2.2.2.1
  ·have:=I.fpOk (b:=s.heap.objs.size) (H':=H) (Waj _) (I.hok.fresh<|Waj _)
   exact this.2.2.2.2.2
def rIsiU (K:W.Frag):List V->Hp->VK->Prop:=λxs H Q=>rIsi K xs H Q\/∃(x:V) (p:Addr) (ns:List String) (T:String) (b:Bool),xs=[x,.ref p]/\H p=some (.tup<|ns.map V.ty)/\TyOf K H x (.type T)/\PySem.W.kitAny K (.type T) (ns.map Value.type)=some b/\Q (.bl b) H
theorem Zlp {pins:Qbz}{Z:St}{H:Hp}{s:Shared}{x:V}{u t:Value}(I:Inv X pins Z H s) (rx:RelV x u) (ty:TyOf X.K H x t) (nt:∃T,t=.type T):∃Hh:Heap->Prop,PySem.W.KitX X.K u t Hh/\Hh s.heap/\u≠.builtin "__main__.__loader__#opaque":=by
 cases ty with
 |non=>cases (show u=Value.none from rx);exact⟨_,PySem.W.kitx_none,True.intro,λz=>nomatch z⟩
 |bl y=>cases (show u=Value.bool y from rx);exact⟨_,PySem.W.kitx_bool,True.intro,λz=>nomatch z⟩
 |int i=>obtain⟨t,q⟩:=(show ∃t,u=Value.int i t from rx);cases q;exact⟨_,PySem.W.kitx_int,True.intro,λz=>nomatch z⟩
 |str y=>obtain⟨t,q⟩:=(show ∃t,u=Value.str y t from rx);cases q;exact⟨_,PySem.W.kitx_str,True.intro,λz=>nomatch z⟩
 |flt y=>obtain⟨t,q⟩:=(show ∃t,u=Value.float y t from rx);cases q;exact⟨_,PySem.W.kitx_float,True.intro,λz=>nomatch z⟩
 |@lst a xs ea=>
  cases (show u=Value.ref a from rx);obtain⟨_,_,n,_,h1⟩:=(show ObjOk X.prog X.w H s.heap a (.lst xs) from I.hok a _ ea);exact⟨_,PySem.W.kitx_list,⟨_,h1,rfl⟩,λz=>nomatch z⟩
 |@frz a ob xs ea=>
  cases (show u=Value.ref a from rx);obtain⟨_,_,_,n,_,h1⟩:=(show ObjOk X.prog X.w H s.heap a (.frz ob (.lst xs)) from I.hok a _ ea);exact⟨_,PySem.W.kitx_list,⟨_,h1,rfl⟩,λz=>nomatch z⟩
 |@tup a xs ea=>
  cases (show u=Value.ref a from rx);obtain⟨_,_,_,p⟩:=(show ObjOk X.prog X.w H s.heap a (.tup xs) from I.hok a _ ea);obtain⟨o,h1,⟨h2,_⟩,_⟩:=p;exact⟨_,PySem.W.kitx_tuple,⟨o,h1,h2⟩,λz=>nomatch z⟩
 |@dK a kvs ea=>
  cases (show u=Value.ref a from rx);obtain⟨_,_,vs,_,p⟩:=(show ObjOk X.prog X.w H s.heap a (.dK kvs) from I.hok a _ ea);obtain⟨o,es,ep,h1,h2,_⟩:=p;exact⟨_,PySem.W.kitx_dict,⟨o,h1,h2.1⟩,λz=>nomatch z⟩
 |@dT a kvs ea=>
  cases (show u=Value.ref a from rx);obtain⟨_,_,xs,_,o,es,ep,h1,h2,_⟩:=(show ObjOk X.prog X.w H s.heap a (.dT kvs) from I.hok a _ ea);exact⟨_,PySem.W.kitx_dict,⟨o,h1,h2.1⟩,λz=>nomatch z⟩
 |@ins a C dx fs ea cl ha hn htk hm=>obtain⟨T,e⟩:=nt;cases e
theorem isiUK (K:W.Frag) (hK:X.K=K:=by rfl):CallR X (.builtin "isinstance") (rIsiU K):=by
 subst hK;refine CallR.or Zj0 ?_;intro pins s Z H xs us Q I r h;obtain⟨x,p,ns,T,b,rfl,hp,ty,e,q⟩:=h;obtain⟨u,u',rfl,rx,rn⟩:=vals2 r;cases (show u'=Value.ref p from rn);obtain⟨Hh,Z_,hz,hne⟩:=Zlp I rx ty ⟨T,rfl⟩;obtain⟨_,its,rv,o,ho,⟨hc,n,hd⟩,hdd⟩:=I.hok p _ hp;have hv:∀(ns:List String) (its:List Value),Vals (ns.map V.ty) its->its=ns.map Value.type:=by
  intro ns
  induction ns with
  |nil=>intro its h;cases h;rfl
  |cons b r ih=>intro its h;cases h with|cons h1 h2=>cases (show _=Value.type b from h1);rw[ih _ h2];rfl
 have e2:=hv ns its rv;subst e2;obtain⟨cls,dd,data,sl⟩:=o;simp only at hc hd hdd;subst hc hd hdd;exact PySem.W.kia_tup Z_ I.kIn hz ho e hne λtk=>⟨.bl b,H,I.tok _,rfl,q⟩
end
section
variable {K:W.Frag}{O:Evt}
theorem Zpo {b:Bool}{G:Hp}{l1 l2:Addr}{xs ys:List V}{ds es:List D}(h1:∀G1 H1,Same G G1->Same G1 H1->SqB b K H1 l1 xs) (h2:∀G1 H1,Same G G1->Same G1 H1->SqB b K H1 l2 ys) (r1:Reps K G xs ds) (r2:Reps K G ys es) (hl:ds.length=es.length) :
  ItOk K G (Izb b K l1 l2) ((ds.zip es).map λp=>D.tup [p.1,p.2]):=λG1 H1 sg sh=>by
 have hl1:=r1.length;have hl2:=r2.length;have e1:=h1 G1 H1 sg sh;have e2:=h2 G1 H1 sg sh;refine⟨⟨xs,ys,e1,e2,.inl (by rw[Waa,List.length_zip];omega)⟩,λi d hd=>?_⟩;rw[Waf]at hd;cases q:(ds.zip es)[i]? with
 |none=>rw[q]at hd;cases hd
 |some pr=>
  rw[q]at hd;have hd:D.tup [pr.1,pr.2]=d:=by simpa using hd
  subst hd;rw[Wb6]at q;obtain⟨u,hu,ru⟩:=r1.get q.1;obtain⟨v,hv,rv⟩:=r2.get q.2;refine⟨⟨xs,ys,u,v,e1,e2,hu,hv⟩,λx H2 ⟨p,a,b',hp,ex,eH,hab⟩=>?_⟩;obtain⟨ha,hb⟩:=hab xs ys e1 e2;rw[hu]at ha;rw[hv]at hb;cases ha;cases hb;subst ex;subst eH;have hG:G1 p=none:=by
   cases z:G1 p with
   |none=>rfl
   |some o=>rw[sh _ _ z]at hp;cases hp
  refine⟨upd G1 p (.tup [u,v]),λc o e=>by rw[Zal (Zam e hG)];exact e,λc o e=>by rw[Zal (Zam e hp)];exact e,λc o e=>?_,?_⟩
  ·by_cases hc:c=p
   ·subst hc;rw[Zan]at e ⊢;exact⟨e,.inr hp⟩
   ·rw[Zal hc]at e ⊢;exact⟨sh c o e,.inl e⟩
  ·have sg2:Same G1 (upd G1 p (.tup [u,v])):=λc o e=>by rw[Zal (Zam e hG)];exact e
   exact .tup Zan (.cons ((ru.mono sg).mono sg2) (.cons ((rv.mono sg).mono sg2) .nil))
theorem Zun {ta:TA}{P:List D->Evt->Prop}(h:JA K ta O λds O1=>∃as bs,ds=[.tup as,.tup bs]/\as.length=bs.length/\P ((as.zip bs).map λp=>D.tup [p.1,p.2]) O1):JI K (iZip K ta) O P:=λg G H Z R k c=>
 h g G H Z _ k λvs ds G1 H1 O1 k1 s1 r1 hq_=>by
  obtain⟨as,bs,e,hl,p1⟩:=hq_;subst e;obtain⟨_,_,rfl,ra,rr⟩:=r1.inv
  next=>
   obtain⟨_,_,rfl,rb,rr⟩:=rr.inv
   next=>
    cases rr.inv;obtain⟨_,_,rfl,ha,rsa⟩:=ra.inv
    next=>
     obtain⟨_,_,rfl,hb,rsb⟩:=rb.inv
     next=>
      exact⟨true,_,_,rfl,⟨_,SqT.of<|k1.live _ _ ha⟩,⟨_,SqT.of<|k1.live _ _ hb⟩,c _ _ G1 H1 O1 k1 s1 (Zpo (λ_ _ sg sh=>SqT.of<|sh _ _<|sg _ _ ha) (λ_ _ sg sh=>SqT.of<|sh _ _<|sg _ _ hb) rsa rsb hl) p1⟩
theorem Zok {bs:List Bool}{P:D->Evt->Prop}(p:P (.bl<|bs.all id) O):JC K (rAll K) [.lst (bs.map D.bl)] O P:=λg G H Z Q vs k rs c=>by
 obtain⟨_,_,rfl,r,t⟩:=rs.inv
 next=>
  cases t.inv;obtain⟨a,ws,rfl,ha,rs⟩:=r.inv
  next=>
   have e:∀(bs:List Bool) (ws:List V),Reps K G ws (bs.map D.bl)->ws=bs.map V.bl:=by
    intro bs
    induction bs with
    |nil=>intro ws h;cases h;rfl
    |cons b r ih=>intro ws h;cases h with|cons h1 h2=>cases h1;rw[ih _ h2];rfl
   have:=e bs ws rs;subst this;exact⟨_,bs,rfl,SqL.of<|k.live _ _ ha,c _ _ G H O k (Same.refl _) (.bl _) p⟩
theorem Zby {d:D}{n T:String}{b:Bool}{P:D->Evt->Prop}(ht:tyD d=some T) (e:∀K,PySem.W.kitOne K (.type T) (.type n)=some b) (p:P (.bl b) O):JC K (rIsiU K) [d,.ty n] O P:=λg G H Z Q vs k rs c=>.inl<|Zvi ht e p g G H Z Q vs k rs c
theorem Zt6 {d:D}{ns:List String}{T:String}{b:Bool}{P:D->Evt->Prop}(ht:tyD d=some T) (e:∀K,PySem.W.kitAny K (.type T) (ns.map Value.type)=some b) (p:P (.bl b) O):JC K (rIsiU K) [d,.tup (ns.map D.ty)] O P:=λg G H Z Q vs k rs c=>by
 obtain⟨_,_,rfl,r,t⟩:=rs.inv
 next=>
  obtain⟨_,_,rfl,r',t⟩:=t.inv
  next=>
   cases t.inv;obtain⟨a,ws,rfl,ha,rs⟩:=r'.inv
   next=>
    have e1:∀(ns:List String) (ws:List V),Reps K G ws (ns.map D.ty)->ws=ns.map V.ty:=by
     intro ns
     induction ns with
     |nil=>intro ws h;cases h;rfl
     |cons b r ih=>intro ws h;cases h with|cons h1 h2=>cases h1;rw[ih _ h2];rfl
    have:=e1 ns ws rs;subst this;refine .inr ⟨_,a,ns,T,b,rfl,k.live _ _ ha,?_,e K,c _ _ G H O k (Same.refl _) (.bl b) p⟩;cases r with
    |non=>cases ht;exact .non
    |bl b=>cases ht;exact .bl b
    |int i=>cases ht;exact .int i
    |str x=>cases ht;exact .str x
    |ty n=>cases ht
    |scr ha rs=>cases ht
    |adr a=>cases ht
    |dct ha hl rs=>cases ht;exact .dK (k.live _ _ ha)
    |exc ha=>cases ht
    |excR ha hb=>cases ht
    |lst ha rs=>cases ht;exact .lst (k.live _ _ ha)
    |tup ha rs=>cases ht;exact .tup (k.live _ _ ha)
end
section
variable {prog:Program}{w:World}{A:Around}{E:Qb0}{s:Shared}
theorem Zsn {b:Bool}{e j a:Addr}{i:Nat}{ws:Array Value}{x old:Value}{Q:Option Value->Shared->Prop}(ge:IsEnum s.heap e j i old) (g:ItB b s.heap j a i) (l:HsB b s.heap a ws) (ex:ws[i]?=some x) (ne:e≠j)
  (q:∀h',IsEnumOut h' e j ((i:Int)+1) x s.heap.objs.size->ItB b h' j a (i+1)->h'.get? s.heap.objs.size=some { cls:=.type "tuple",data:=.seq #[.int i s.toks,x] } ->
   (∀c o,c≠e->c≠j->s.heap.get? c=some o->h'.get? c=some o)->Q (some (.ref s.heap.objs.size)) { s with heap:=h',toks:=s.toks+1 }):wpAny (model prog w) A (pyNext (.ref e)) Q E s:=by
 cases b
 ·exact wpAny_pyNext_enum_item ge g l ex ne λh' b1 b2 b3 _ b4=>q h' b1 b2 b3 b4
 obtain⟨hp,g0,d,tk,os⟩:=s;have ty:Shared.TypeIs ⟨hp,g0,d,tk,os⟩ (.ref e) "enumerate":=⟨_,ge,rfl⟩;unfold pyNext;refine Qbn<|Qbs<|wpAny_callSpecial?_slot (name:=Str.ofString "__next__") ty F.slot_enumerate_next<|wpAny_call_entry F.slot_enumerate_next ty F.entry_enumerate_next ?_<|F.args_enumerate_next_1 _;refine(show wpAny _ _ (field (.ref e) 2 >>= _) _ _ _ from Qbn (wpAny_field ge rfl (x:=.ref j) rfl<|Qbn (Zfu (b:=true) g l ex λh₁ g₁ s₁=>?_)))
 replace s₁:Heap.SameBut j hp h₁:=s₁
 have e₁:IsEnum h₁ e j i old:=(s₁.2 e ne).trans ge;refine(show wpAny _ _ (field (.ref e) 3 >>= _) _ _ ⟨h₁,g0,d,tk,os⟩ from Qbn (wpAny_field e₁ rfl (x:=rawInt i) rfl ?_));refine(show wpAny _ _ (field (.ref e) 4 >>= _) _ _ ⟨h₁,g0,d,tk,os⟩ from Qbn (wpAny_field e₁ rfl (x:=.none) rfl ?_));refine(show wpAny _ _ (mkInt i >>= _) _ _ ⟨h₁,g0,d,tk,os⟩ from Qbn (wpAny_mkInt ?_));refine(show wpAny _ _ (setField (.ref e) 3 (rawInt ((i:Int)+1)) >>= _) _ _ ⟨h₁,g0,d,tk+1,os⟩ from Qbn (wpAny_setField_rec e₁ (by simp) λh₂ e₂ s₂=>?_))
 replace s₂:Heap.SameBut e h₁ h₂:=s₂
 replace e₂:IsEnum h₂ e j ((i:Int)+1) old:=e₂
 refine(show wpAny _ _ (setField (.ref e) 4 .none >>= _) _ _ ⟨h₂,g0,d,tk+1,os⟩ from Qbn (wpAny_setField_rec e₂ (by simp) λh₃ e₃ s₃=>?_))
 replace s₃:Heap.SameBut e h₂ h₃:=s₃
 replace e₃:IsEnum h₃ e j ((i:Int)+1) old:=e₃
 refine(show wpAny _ _ (newTuple [.int i tk,x] >>= _) _ _ ⟨h₃,g0,d,tk+1,os⟩ from Qbn (wpAny_newTuple ?_));have e₄:IsEnum (h₃.push { cls:=.type "tuple",data:=.seq #[.int i tk,x] }) e j ((i:Int)+1) old:=Wac _ e₃;generalize eh₄:h₃.push { cls:=.type "tuple",data:=.seq #[.int i tk,x] } = h₄ at e₄;have n3:h₃.objs.size=hp.objs.size:=by rw[s₃.1,s₂.1,s₁.1]
 have el:e<hp.objs.size:=War ge;have t₄:h₄.get? hp.objs.size=some { cls:=.type "tuple",data:=.seq #[.int i tk,x] }:=by rw[<- eh₄,<- n3];exact Wam _ rfl
 have k₄:∀c o,c≠e->c≠j->hp.get? c=some o->h₄.get? c=some o:=λc o c1 c2 z=>by rw[<- eh₄];exact Wac _<|s₃.extBut c o c1<|s₂.extBut c o c1<|s₁.extBut c o c2 z
 have g₄:ItB true h₄ j a (i+1):=by rw[<- eh₄];exact((g₁.off s₂.extBut<|Ne.symm ne).off s₃.extBut (Ne.symm ne)).at λo z=>Wac _ z
 refine(show wpAny _ _ (Builtin.SmallTypes.ownedTupleIsFree (.ref e) >>= _) _ _ ⟨h₄,g0,d,tk+1,os⟩ from ?_);rw[n3];clear eh₄ e₃ s₃ e₂ s₂ e₁ s₁ g₁ n3 h₃ h₂ h₁;refine Qbn ?_;unfold Builtin.SmallTypes.ownedTupleIsFree;refine Qbn<|wpAny_field e₄ rfl (x:=.none) rfl<|Qbo ?_;simp only[if_true];refine Qbn<|Qbt<|Qbn<|wpAny_field e₄ rfl (x:=old) rfl<|Qbn (wpAny_setField_rec e₄ (by simp) λh₅ e₅ s₅=>?_)
 replace s₅:Heap.SameBut e h₄ h₅:=s₅
 replace e₅:IsEnum h₅ e j ((i:Int)+1) x:=e₅
 refine(show wpAny _ _ (Builtin.SmallTypes.ownedTupleHandOut (.ref e) (.ref hp.objs.size) >>= _) _ _ ⟨h₅,g0,d,tk+1,os⟩ from Qbn ?_);unfold Builtin.SmallTypes.ownedTupleHandOut;refine Qbn (wpAny_setField_rec e₅ (by simp) λh₆ e₆ s₆=>?_)
 replace s₆:Heap.SameBut e h₅ h₆:=s₆
 replace e₆:IsEnumOut h₆ e j ((i:Int)+1) x hp.objs.size:=e₆
 refine wpAny_setField_rec e₆ (by simp) λh₇ e₇ s₇=>?_
 replace s₇:Heap.SameBut e h₆ h₇:=s₇
 replace e₇:IsEnumOut h₇ e j ((i:Int)+1) x hp.objs.size:=e₇
 have up:∀c o,c≠e->h₄.get? c=some o->h₇.get? c=some o:=λc o c1 z=>s₇.extBut c o c1<|s₆.extBut c o c1<|s₅.extBut c o c1 z;exact Qbn<|wpAny_letGo<|Qbo ⟨_,rfl,Qbo (q h₇ e₇ (g₄.at λo z=>up j o (Ne.symm ne) z) (up _ _ (Wcr el) t₄) λc o c1 c2 z=>up c o c1<|k₄ c o c1 c2 z)⟩
theorem Zv0 {b:Bool}{e j a:Addr}{i:Nat}{ws:Array Value}{old:Value}{Q:Option Value->Shared->Prop}(hh:A.handled=none) (ge:IsEnum s.heap e j i old) (g:ItB b s.heap j a i) (l:HsB b s.heap a ws) (ex:ws[i]?=none)
  (q:∀h',Heap.ExtBut j s.heap h' -> Q none { s with heap:=h' }):wpAny (model prog w) A (pyNext (.ref e)) Q E s:=by
 have ty:s.TypeIs (.ref e) "enumerate":=⟨_,ge,rfl⟩;unfold pyNext;refine Qbn<|Qbs<|wpAny_callSpecial?_slot (name:=Str.ofString "__next__") ty F.slot_enumerate_next<|wpAny_call_entry F.slot_enumerate_next ty F.entry_enumerate_next ?_<|F.args_enumerate_next_1 _;refine(show wpAny _ _ (field (.ref e) 2 >>= _) _ _ _ from Qbn (wpAny_field ge rfl (x:=.ref j) rfl<|Qbn (Zkx hh g l ex λh' x e' ⟨o,ho,hc⟩=>?_)));exact Qbn<|wpAny_isInstance (T:="StopIteration") (b:=true) ⟨o,ho,hc⟩ isSubtype_stop<|Qbo<|q _ e'
theorem Zqt (a:Addr) (ws:Array Value) (n:Nat) (dct:Option Addr) (sl:Array (Option Value)) :
  Meets (Builtin.«enumerate.__new__» ⟨[.type "enumerate",.ref a],[]⟩) (λ_ R s=>s.heap.get? a=some ⟨.type "tuple",dct,.seq ws n,sl⟩ /\
   R (.ok (.ret (.ref (zt1 s.heap a).objs.size))) { s with heap:=(zt1 s.heap a).push ⟨.type "enumerate",none,.fields #[.none,.bool false,.ref s.heap.objs.size,rawInt 0,.none,.none],#[]⟩ }):=.of_wp λprog w A R s h=>by
 obtain⟨hp,g,d,tk,os⟩:=s;obtain⟨l,h⟩:=h;have sub0:=sub_enumerate;have t0:Heap.IsTuple (Shared.heap ⟨hp,g,d,tk,os⟩) a ws:=⟨_,l,rfl,n,rfl⟩
 wp_walk using AutoSeq1.wpAny_loadPart' l
 refine wpAny_stack_any λst=>Qbo ?_;split
 ·rename_i c _ _ _ _ _
  cases (c == Value.type "enumerate") <;> (wp_walk using AutoSeq1.wpAny_loadPart' l,wpAny_pyIter_tuple t0;exact⟨_,rfl,h⟩)
 ·wp_walk using AutoSeq1.wpAny_loadPart' l,wpAny_pyIter_tuple t0
  exact⟨_,rfl,h⟩
theorem Zt4 {b:Bool}{a:Addr}{ws:Array Value}{Q:Qb0}(l:HsB b s.heap a ws)
  (q:∀h',IsEnum h' (s.heap.objs.size+1) s.heap.objs.size 0 .none->ItB b h' s.heap.objs.size a 0->(∀c o,s.heap.get? c=some o->h'.get? c=some o)->Q (.ref<|s.heap.objs.size+1) { s with heap:=h' }):wpAny (model prog w) A (call (.type "enumerate") [.ref a]) Q E s:=by
 cases b
 ·exact call_enumerate_list l λh' b1 b2 _ b3=>q h' b1 b2 b3
 ·obtain⟨⟨oc,od,oda,os⟩,l1,hc,n,hd⟩:=l
  dsimp only at hc hd;subst hc hd;refine callType_new F.called_enumerate (by decide) (F.typeCall_enumerate_1 _) (F.newCall_enumerate_1 _) (λobj=>F.args_object_init_2 obj _) F.entry_enumerate_new (Zqt a ws n od os) ⟨l1,?_⟩;have z1:(zt1 s.heap a).objs.size=s.heap.objs.size+1:=Wbr ..;show _/\_;rw[z1];have he:IsEnum ((zt1 s.heap a).push ⟨.type "enumerate",none,.fields #[.none,.bool false,.ref s.heap.objs.size,rawInt 0,.none,.none],#[]⟩) (s.heap.objs.size+1) s.heap.objs.size 0 .none:=by
   rw[<- z1];exact Wam _ rfl
  exact⟨⟨_,he,rfl⟩,q _ he ⟨_,Wac _<|Wam _ rfl,rfl,rfl⟩ λc o z=>Wac _<|Wac _ z⟩
end
def Ieb (b:Bool) (K:W.Frag) (l:Addr):It:=
 ⟨λi H=>∃xs x,SqB b K H l xs/\xs[i]?=some x,
  λi H v H'=>∃p x,H p=none/\v=.ref p/\H'=upd H p (.tup [.int (i:Int),x])/\∀xs,SqB b K H l xs->xs[i]?=some x,
  λi H=>∃xs,SqB b K H l xs/\xs.length<=i⟩
theorem Zt3 {b:Bool}{P:Program}{w:World}{K:W.Frag}{es:List Expr}{kk:Nat}{tp:Pos}(l z j:Addr) (D:z≠j):Turn P w K (.Tuple es kk tp) (Ieb b K l) [z,j] z
  (λi h=>(∃old,IsEnum h z j i old)/\ItB b h j l i) where
 mem:=by simp
 obj:=λi h st b2 hb=>by
  obtain⟨⟨old,hz⟩,h1⟩:=st;obtain⟨o1,e1,d1⟩:=h1.obj;simp only[Wai,Wbc,or_false]at hb;rcases hb with rfl|rfl
  ·exact⟨_,hz,λv q=>by cases q⟩
  ·exact⟨o1,e1,λv q=>by rw[d1]at q;cases q⟩
 keep:=λi h h' st k=>by
  obtain⟨⟨old,hz⟩,h1⟩:=st;exact⟨⟨old,k z (by simp) _ hz⟩,h1.at λo e=>k j (by simp) o e⟩
 item:=by
  intro X hP hw hK hc i pins s Z H E I hf st hg;subst hP hw hK;obtain⟨⟨old,hz⟩,h1⟩:=st;obtain⟨xs,x,hq1,hx⟩:=hg;obtain⟨its1,r1,p1⟩:=I.seqB hq1;obtain⟨u1,hu1,ru1⟩:=r1.get hx;refine Zsn hz h1 p1 (x:=u1) (by simpa using hu1) D λh' b1 b2 b3 hk=>?_;refine⟨_,rfl,wpAny_letOwnedTupleGo_enum (s:={ s with heap:=h',toks:=s.toks+1 }) b1 λh'' hz'' hs''=>?_⟩;have lt:∀{c o},s.heap.get? c=some o->c≠s.heap.objs.size:=λe=>Wa7<|War e;have hTz:s.heap.objs.size≠z:=Ne.symm<|lt hz;have hTfree:H s.heap.objs.size=none:=I.hok.fresh<|Waj _;have kept:∀c o,c ∉ [z,j]->s.heap.get? c=some o->h''.get? c=some o:=λc o hc e=>by
   simp only[Wai,Wbc,or_false,not_or]at hc;exact hs''.extBut _ _ hc.1<|hk c o hc.1 hc.2 e
  have hT:h''.get? s.heap.objs.size=some { cls:=.type "tuple",data:=.seq #[.int i s.toks,u1] }:=hs''.extBut _ _ hTz b3;have ntr:∀c o,H c=some o->c ∉ [z,j]:=λc o e hc=>by rw[(hf c hc).1]at e;cases e
  have hok:HOk X.prog X.w (upd H s.heap.objs.size (.tup [.int (i:Int),x])) h'':=λc o e=>by
   by_cases hcT:c=s.heap.objs.size
   ·subst hcT
    rw[Zan]at e;cases e;exact⟨by show 2<=sizeLine;decide,[.int i s.toks,u1],.cons ⟨_,rfl⟩ (.cons ru1 .nil),_,hT,⟨rfl,_,rfl⟩,rfl⟩
   ·rw[Zal hcT]at e
    refine(I.hok c o e).stay (λd v hd q=>kept d v ?_ q) (λd q=>by rw[Zal (Zam q hTfree)];exact q) λd zs q=>by rw[Zal (Zam q hTfree)];exact q
    rcases hd with hd|hd
    ·rw[hd];exact ntr c o e
    ·exact ntr d _ hd
  have I2:Inv X pins Z (upd H s.heap.objs.size (.tup [.int (i:Int),x])) { s with heap:=h'',toks:=s.toks+1 }:=by
   refine I.call (g':=s.gens) (t':=s.toks+1) (d':=s.drawn) (ch:=[z,j]) ⟨λc o e n hc hx=>kept c o hx e,λc o e n hc hx=>⟨o.slots,kept c o hx e⟩,λc o e n hx=>by rw[Zal (lt e)];exact n,λc o e hx=>⟨o,kept c o hx e⟩,
    λc zs q=>by rw[Zal (Zam q hTfree)];exact q,λc o zs q=>by rw[Zal (Zam q hTfree)];exact q,λc zs q=>⟨#[],by rw[Zal (Zam q hTfree),q];simp⟩⟩ hok I.bare λc hcc=>?_
   obtain⟨f0,f1,f2,f3,f4,f5⟩:=hf c hcc;exact⟨f3,f1,f4,f5⟩
  refine⟨.ref s.heap.objs.size,_,I2,rfl,⟨s.heap.objs.size,x,hTfree,rfl,rfl,λxs' q1=>?_⟩,⟨⟨_,by have:=hz'';push_cast at this ⊢;exact this⟩,b2.off hs''.extBut<|Ne.symm D⟩,λc hcc=>?_⟩
  ·rw[I.seqB_inj q1 hq1];exact hx
  ·have hcl:c≠s.heap.objs.size:=by
    simp only[Wai,Wbc,or_false]at hcc;obtain⟨_,e1,_⟩:=h1.obj;rcases hcc with rfl|rfl
    ·exact lt hz
    ·exact lt e1
   rw[Zal hcl];exact(hf c hcc).1
 done:=by
  intro X hP hw hK hc i pins s Z H E I hf st hg;subst hP hw hK;obtain⟨⟨old,hz⟩,h1⟩:=st;obtain⟨xs,hq1,hend⟩:=hg;obtain⟨its1,r1,p1⟩:=I.seqB hq1;have l1':=r1.length;refine Zv0 (I.ok.hd hc) hz h1 p1 (by simp;omega) λh' hk=>⟨rfl,?_⟩;have kept:∀c o,c ∉ [z,j]->s.heap.get? c=some o->h'.get? c=some o:=λc o hc e=>by
   simp only[Wai,Wbc,or_false,not_or]at hc;exact hk c o hc.2 e
  have ntr:∀c o,H c=some o->c ∉ [z,j]:=λc o e hc=>by rw[(hf c hc).1]at e;cases e
  refine I.call (g':=s.gens) (t':=s.toks) (d':=s.drawn) (ch:=[z,j]) ⟨λc o e n hc hx=>kept c o hx e,λc o e n hc hx=>⟨o.slots,kept c o hx e⟩,λc o e n hx=>n,λc o e hx=>⟨o,kept c o hx e⟩,
   λc zs q=>q,λc o zs q=>q,λc zs q=>⟨#[],by rw[q];simp⟩⟩ (λc o e=>?_) I.bare λc hcc=>?_
  ·refine(I.hok c o e).stay (λd v hd q=>kept d v ?_ q) (λd q=>q) λd zs q=>q
   rcases hd with hd|hd
   ·rw[hd];exact ntr c o e
   ·exact ntr d _ hd
  ·obtain⟨f0,f1,f2,f3,f4,f5⟩:=hf c hcc
   exact⟨f3,f1,f4,f5⟩
 self:=λ_ _ _ _ _ st h=>by
  obtain⟨⟨old,hz⟩,_⟩:=st;exact wpAny_pyIter_enum hz h
theorem Ze2:bootBuiltins "enumerate" = some (.type "enumerate"):=by kernel_rfl
section
variable {X:Cx}
def iEnum (K:W.Frag) (ta:TA):TI:=λZ H R=>ta Z H λvs H1=>∃b l,vs=[.ref l]/\(∃xs,SqB b K H1 l xs)/\R (Ieb b K l) H1
theorem Zi4 (K:W.Frag) {es:List Expr}{kk:Nat}{tp:Pos}{a:Expr}{ta:TA}{p pos:Pos}(hg:Gl X "enumerate") (hm:X.mg "enumerate" = none) (ha:PA X [a] ta) (hs:starEach [a] X.env=[(false,eval a X.env)]:=by rfl) (hs2:starEach [] X.env=[]:=by rfl) (hK:X.K=K:=by rfl) :
  PI X (.Tuple es kk tp) (.Call (.Name "enumerate" p) [a] [] pos) (iEnum K ta):=by
 subst hK;intro pins s Z H R I h;refine Call_<|Ze0 I hg hm (Ze2)<|PyProof.Rows.callWith_type1 (thn (ha pos pins s Z H _ I h) λus s1 ⟨vs,H1,I1,r1,q1⟩=>?_) (by rw[hs,hs2]) (by rw[hs2];rfl);obtain⟨b,l1,e,⟨xs,hx⟩,q⟩:=q1;subst e;obtain⟨u1,rfl,q1⟩:=vals1 r1;cases (show u1=Value.ref l1 from q1);obtain⟨its1,w1,p1⟩:=I1.seqB hx;refine Zt4 p1 λh' b1 b2 hk=>?_;refine wpAny_pyIter_enum b1 ?_;have I2:Inv X pins Z H1 { s1 with heap:=h' }:=I1.kept (t':=s1.toks) hk;refine⟨s1.heap.objs.size+1,[s1.heap.objs.size+1,s1.heap.objs.size],_,_,H1,rfl,I2,Zt3 l1 _ _<|Nat.succ_ne_self _,⟨⟨_,b1⟩,b2⟩,λb hb=>?_,q⟩;have hge:s1.heap.objs.size<=b:=by
  simp only[Wai,Wbc,or_false]at hb;rcases hb with rfl|rfl <;> omega
 exact I1.fpOk hge<|I1.hok.fresh hge
def rMin1 (K:W.Frag):List V->Hp->VK->Prop:=λxs H Q=>∃(b:Bool) (p:Addr) (ns:List Int),xs=[.ref p]/\SqB b K H p (ns.map V.int)/\0<ns.length/\∀m,m∈ns->(∀a∈ns,m<=a)->Q (.int m) H
theorem minK (K:W.Frag) (hc:X.calm=true) (hK:X.K=K:=by rfl):CallR X (.builtin "min") (rMin1 K):=by
 subst hK;intro pins s Z H xs us Q I r h;obtain⟨b,p,ns,rfl,hx,hne,q⟩:=h;obtain⟨u,rfl,ru⟩:=vals1 r;cases (show u=Value.ref p from ru);obtain⟨its,w1,p1⟩:=I.seqB hx;have hlt:=p1.lt;have hl:=w1.length;rw[Waa]at hl;have hv:∀(i:Nat) v,its.toArray[i]?=some v->∃t,v=Value.int (ns.getD i 0) t:=λi v e=>by
  have hi:i<its.length:=by simpa using (Array.getElem?_eq_some_iff.mp e).1
  obtain⟨v',e1,t,e2⟩:=w1.get (i:=i) (x:=.int<|ns.getD i 0) (by rw[Waf,Waq,Wab (by omega)];rfl);rw[List.getElem?_toArray,e1]at e;cases e;exact⟨t,e2⟩
 have fin:∀{h':Heap}{tk:Nat}{v:Value},its.toArray[argBest (λi j=>decide (ns.getD i 0<ns.getD j 0)) (its.toArray.size-1)]?=some v->(∀c o,s.heap.get? c=some o->h'.get? c=some o)->EP X pins Z Q v { s with heap:=h',toks:=tk }:=λ{h' tk v} hP hk=>by
  obtain⟨t,rfl⟩:=hv _ _ hP;obtain⟨h1,h2⟩:=argBest_lt (λi=>ns.getD i 0)<|its.toArray.size-1;have hz:its.toArray.size=ns.length:=by simp[hl]
  rw[hz]at h1 h2 ⊢;refine⟨.int<|ns.getD (argBest (λi j=>decide (ns.getD i 0<ns.getD j 0))<|ns.length-1) 0,H,I.kept hk,⟨_,rfl⟩,q _ ?_ λa ha=>?_⟩
  ·rw[Waq,Wab (by omega)];exact Wbd _
  ·obtain⟨j,hj,rfl⟩:=Wck.mp ha
   have:=h2 j (by omega);rw[Waq (l:=ns) (i:=j),Wab hj]at this;exact this
 have old:∀{o:Obj}{h':Heap},(∀c u,c ∉ [s.heap.objs.size]->(s.heap.push o).get? c=some u->h'.get? c=some u)->∀c u,s.heap.get? c=some u->h'.get? c=some u:=λhk c u e=>hk c u (λhm=>by
  have:c=s.heap.objs.size:=by simpa using hm
  exact absurd (this ▸ War e) (Wci _)) (Wac _ e)
 have fp:∀o:Obj,∀c∈[s.heap.objs.size,p],c<(s.heap.push o).objs.size:=λo c hc=>by
  rw[Wbr];simp only[Wai,Wbc,or_false]at hc;rcases hc with rfl|rfl
  ·exact Nat.lt_succ_self _
  ·exact Wcy hlt
 cases b
 ·refine call_min_walk (wpAny_pyIter_list p1 ?_)
  exact⟨_,_,_,_,_,_,_,rfl,Walks.list (A:=X.A.in1) (I.ok.hd hc) _ p (Wa7 hlt) its.toArray,⟨⟨_,Wam _ rfl,rfl,rfl⟩,Heap.IsList.push p1 _⟩,fp _,by simp;omega,CmpOf.ints_lt (λi=>ns.getD i 0) hv,λv h' tk hP hk=>fin hP<|old hk⟩
 ·refine call_min_walk (wpAny_pyIter_tuple p1 ?_)
  exact⟨_,_,_,_,_,_,_,rfl,Walks.tuple (A:=X.A.in1) (I.ok.hd hc) _ p (Wa7 hlt) its.toArray,⟨⟨_,Wam _ rfl,rfl,rfl⟩,Heap.IsTuple.push p1 _⟩,fp _,by simp;omega,CmpOf.ints_lt (λi=>ns.getD i 0) hv,λv h' tk hP hk=>fin hP<|old hk⟩
end
section
variable {K:W.Frag}{O:Evt}
theorem Zs9 {ns:List Int}{m:Int}{d:D}{P:D->Evt->Prop}(hd:d=.lst (ns.map .int)\/d=.tup (ns.map .int)) (hm:m∈ns) (hle:∀a∈ns,m<=a) (p:P (.int m) O):JC K (rMin1 K) [d] O P:=λg G H Z Q vs k rs c=>by
 have fin:∀m',m'∈ns->(∀a∈ns,m' <= a)->Q (.int m') H:=λm' h1 h2=>by
  have:m'=m:=Int.le_antisymm (h2 m hm)<|hle m' h1;subst this;exact c _ _ G H O k (Same.refl _) (.int _) p
 have pos:0<ns.length:=List.length_pos_of_mem hm;obtain⟨_,_,rfl,r,t⟩:=rs.inv
 next=>
  cases t.inv;rcases hd with hd|hd <;> subst hd
  ·obtain⟨_,_,rfl,ha,rs⟩:=r.inv
   next=>have:=rs.ints;subst this;exact⟨false,_,ns,rfl,SqL.of<|k.live _ _ ha,pos,fin⟩
  ·obtain⟨_,_,rfl,ha,rs⟩:=r.inv
   next=>have:=rs.ints;subst this;exact⟨true,_,ns,rfl,SqT.of<|k.live _ _ ha,pos,fin⟩
def enD (ds:List D):List D:=ds.zipIdx.map λp=>D.tup [.int (p.2:Int),p.1]
theorem Zje (ds:List D):(enD ds).length=ds.length:=by unfold enD;rw[Waa,List.length_zipIdx]
theorem Zjs {ds:List D}{i:Nat}{e:D}(h:(enD ds)[i]?=some e):∃d,ds[i]?=some d/\e=.tup [.int (i:Int),d]:=by
 unfold enD at h;rw[Waf,List.getElem?_zipIdx]at h;cases q:ds[i]? with
 |none=>rw[q]at h;cases h
 |some d=>rw[q]at h;refine⟨d,rfl,?_⟩;simpa using h.symm
theorem Zib {b:Bool}{G:Hp}{l1:Addr}{xs:List V}{ds:List D}(h1:∀G1 H1,Same G G1->Same G1 H1->SqB b K H1 l1 xs) (r1:Reps K G xs ds):ItOk K G (Ieb b K l1) (enD ds):=λG1 H1 sg sh=>by
 have hl1:=r1.length;have e1:=h1 G1 H1 sg sh;refine⟨⟨xs,e1,by rw[Zje];omega⟩,λi d hd=>?_⟩;obtain⟨d0,q,rfl⟩:=Zjs hd;obtain⟨u,hu,ru⟩:=r1.get q;refine⟨⟨xs,u,e1,hu⟩,λx H2 ⟨p,a,hp,ex,eH,hab⟩=>?_⟩;have ha:=hab xs e1;rw[hu]at ha;cases ha;subst ex;subst eH;have hG:G1 p=none:=by
  cases z:G1 p with
  |none=>rfl
  |some o=>rw[sh _ _ z]at hp;cases hp
 refine⟨upd G1 p (.tup [.int (i:Int),u]),λc o e=>by rw[Zal (Zam e hG)];exact e,λc o e=>by rw[Zal (Zam e hp)];exact e,λc o e=>?_,?_⟩
 ·by_cases hc:c=p
  ·subst hc;rw[Zan]at e ⊢;exact⟨e,.inr hp⟩
  ·rw[Zal hc]at e ⊢;exact⟨sh c o e,.inl e⟩
 ·have sg2:Same G1 (upd G1 p (.tup [.int (i:Int),u])):=λc o e=>by rw[Zal (Zam e hG)];exact e
  exact .tup Zan (.cons (.int _) (.cons ((ru.mono sg).mono sg2) .nil))
theorem Zuv {ta:TA}{P:List D->Evt->Prop}(h:JA K ta O λds O1=>∃as,(ds=[.lst as]\/ds=[.tup as])/\P (enD as) O1):JI K (iEnum K ta) O P:=λg G H Z R k c=>
 h g G H Z _ k λvs ds G1 H1 O1 k1 s1 r1 hq_=>by
  obtain⟨as,e,p1⟩:=hq_;rcases e with e|e
  ·subst e
   obtain⟨_,_,rfl,ra,rr⟩:=r1.inv
   next=>
    cases rr.inv;obtain⟨_,_,rfl,ha,rsa⟩:=ra.inv
    next=>exact⟨false,_,rfl,⟨_,SqL.of<|k1.live _ _ ha⟩,c _ _ G1 H1 O1 k1 s1 (Zib (λ_ _ sg sh=>SqL.of<|sh _ _<|sg _ _ ha) rsa) p1⟩
  ·subst e
   obtain⟨_,_,rfl,ra,rr⟩:=r1.inv
   next=>
    cases rr.inv;obtain⟨_,_,rfl,ha,rsa⟩:=ra.inv
    next=>exact⟨true,_,rfl,⟨_,SqT.of<|k1.live _ _ ha⟩,c _ _ G1 H1 O1 k1 s1 (Zib (λ_ _ sg sh=>SqT.of<|sh _ _<|sg _ _ ha) rsa) p1⟩
end
open PySem PySem.Spec PyProof.Rows PySem.SeqAt
section
variable {X:Cx}
def rInU (K:W.Frag) (neg:Bool):R2:=λx y H Q=>rIn K neg x y H Q\/(∃a o,y=.ref a/\DGet H a x o/\Q (.bl (if neg then !o.isSome else o.isSome)) H) \/
 ∃a S n i,y=.ref a/\x=.int i/\H a=some (.set S n)/\Q (.bl (if neg then !S i else S i)) H
theorem inK (K:W.Frag) (hu:X.A.units+1<cLine) (hK:X.K=K:=by rfl):OpR X (compareOp .In) (rInU K false):=by
 subst hK;intro pins s Z H x y v u Q I rx ry h;rcases h with h|⟨a,o,rfl,hd,q⟩|⟨a,S,n,i,rfl,rfl,hs,q⟩
 ·exact Zny pins s Z H x y v u Q I rx ry h
 ·cases ry
  exact d_in hu I hd rx λs' I'=>⟨.bl _,H,I',rfl,q⟩
 ·cases ry
  obtain⟨t,rfl⟩:=rx;exact wpAny_inSet_of (knd:=intKind X.prog X.w) (k:=i) (by simp[intKind,Value.isInt]) rfl (I.hok a _ hs) ⟨.bl _,H,I.tok _,rfl,q⟩
theorem notinK (K:W.Frag) (hu:X.A.units+1<cLine) (hK:X.K=K:=by rfl):OpR X (compareOp .NotIn) (rInU K true):=by
 subst hK;intro pins s Z H x y v u Q I rx ry h;rcases h with h|⟨a,o,rfl,hd,q⟩|⟨a,S,n,i,rfl,rfl,hs,q⟩
 ·exact Zip pins s Z H x y v u Q I rx ry h
 ·cases ry
  exact Zu6 hu I hd rx λs' I'=>⟨.bl _,H,I',rfl,q⟩
 ·cases ry
  obtain⟨t,rfl⟩:=rx;exact wpAny_notInSet_of (knd:=intKind X.prog X.w) (k:=i) (by simp[intKind,Value.isInt]) rfl (I.hok a _ hs) ⟨.bl _,H,I.tok _,rfl,q⟩
end
section
variable {K:W.Frag}{O:Evt}{P:D->Evt->Prop}
theorem Zic {G:Hp}{k:Key}:∀{kvs:List (Key × V)}{kds:List (Key × D)},Paired (λ(p:Key × V) (q:Key × D)=>p.1=q.1/\Rep K G p.2 q.2) kvs kds->(valV kvs k).isSome=(valD kds k).isSome
 |_,_,.nil=>rfl
 | (k1,v1)::kvs,(k2,d2)::kds,.cons ⟨e,r⟩ t=>by
  have e:k1=k2:=e;subst e;have ih:=Zic (k:=k) t;unfold valV valD at ih ⊢;by_cases h:k1=k
  ·rw[List.find?_cons_of_pos (by simpa using h),List.find?_cons_of_pos (by simpa using h)];rfl
  ·rw[Wcu (by simpa using h),Wcu (by simpa using h)];exact ih
theorem Zq4 (i:Int) (ns:List Int):inV (.int i) (ns.map V.int)=decide (i∈ns):=by
 unfold inV;rw[List.any_map]
 induction ns with
 |nil=>rfl
 |cons n ns ih=>
  rw[Wcc,ih];show ((n == i) || decide (i∈ns))=_;by_cases h:n=i
  ·subst h;simp
  ·rw[beq_eq_false_iff_ne.mpr h,Bool.false_or]
   have:(i∈n::ns)↔i∈ns:=by simp[Ne.symm h]
   exact decide_eq_decide.mpr this.symm
theorem Zon (ns:List Int):(ns.map V.int).all flatV=true:=by rw[Wdy];exact Wa4.mpr λ_ _=>rfl
theorem Zob {neg:Bool}{i:Int}{ns:List Int}(p:P (.bl (if neg then !decide (i∈ns) else decide (i∈ns))) O):JR2 K (rInU K neg) (.int i) (.lst<|ns.map .int) O P:=λg G H Z Q x y k rx ry c=>by
 cases rx.inv;obtain⟨_,_,rfl,ha,rs⟩:=ry.inv
 next=>
  have ev:=rs.ints;subst ev;refine .inl ⟨_,_,rfl,.inl<|SqL.of<|k.live _ _ ha,rfl,Zon ns,?_⟩;rw[Zq4];exact c _ _ G H O k (Same.refl _) (.bl _) p
end
theorem Zeo {A:Around}{k:Nat}(hr:Room k A):A.units+8<cLine:=Wcd (Wdl (by decide:8<=64) _) hr.units
open PySem PySem.Spec PyProof.Rows PySem.SeqAt
def flatD:D->Option V
 |.non=>some .non
 |.bl b=>some (.bl b)
 |.int i=>some (.int i)
 |.str x=>some (.str x)
 |_=>none
def eqFlat (d e:D):Bool:=match flatD d,flatD e with
 |some x,some y=>eqV x y
 |_,_=>false
def eqF:Nat->D->D->Bool
 |0,_,_=>false
 |n+1,.tup xs,.tup ys=>xs.length == ys.length && (xs.zip ys).all λp=>eqF n p.1 p.2
 |n+1,.lst xs,.lst ys=>xs.length == ys.length && (xs.zip ys).all λp=>eqF n p.1 p.2
 |_+1,d,e=>eqFlat d e
def Dp:Nat->D->Prop
 |0,_=>False
 |_+1,.int _=>True
 |n+1,.tup xs=>∀d∈xs,Dp n d
 |n+1,.lst xs=>∀d∈xs,Dp n d
 |_,_=>False
theorem Rep.uniq {K:W.Frag}{G:Hp}:∀(n:Nat) {v:V}{d e:D},Rep K G v d->Rep K G v e->Dp n d->Dp n e->d=e
 |0,_,_,_,_,_,h,_=>h.elim
 |n+1,v,d,e,hd,he,pd,pe=>by
  have all:∀{vs:List V}{xs ys:List D},Reps K G vs xs->Reps K G vs ys->(∀d∈xs,Dp n d)->(∀d∈ys,Dp n d)->xs=ys:=by
   intro vs
   induction vs with
   |nil=>intro xs ys h1 h2 _ _;cases h1;cases h2;rfl
   |cons v vs ih=>
    intro xs ys h1 h2 p1 p2;cases h1 with
    |cons a1 b1=>
     cases h2 with
     |cons a2 b2=>
      rw[Rep.uniq n a1 a2 (p1 _ Wat) (p2 _ Wat),ih b1 b2 (λd hd=>p1 d<|Wap _ hd) λd hd=>p2 d (Wap _ hd)]
  cases d with
  |int i=>cases hd;cases he;rfl
  |tup xs=>
   cases hd with
   |tup ha ra=>
    cases e with
    |tup ys=>cases he with|tup hb rb=>rw[ha]at hb;cases hb;rw[all ra rb pd pe]
    |lst ys=>cases he with|lst hb rb=>rw[ha]at hb;cases hb
    |int i=>cases he
    |_=>exact pe.elim
  |lst xs=>
   cases hd with
   |lst ha ra=>
    cases e with
    |lst ys=>cases he with|lst hb rb=>rw[ha]at hb;cases hb;rw[all ra rb pd pe]
    |tup ys=>cases he with|tup hb rb=>rw[ha]at hb;cases hb
    |int i=>cases he
    |_=>exact pe.elim
  |_=>exact pd.elim
theorem Zhn:∀(n:Nat) (d:D),Dp n d->eqF n d d=true
 |0,_,h=>h.elim
 |n+1,.int i,_=>by show (i == i)=true;simp
 |n+1,.tup xs,h=>by
  show (xs.length == xs.length && (xs.zip xs).all λp=>eqF n p.1 p.2)=true;rw[beq_self_eq_true,Wdu,Wa4];intro p hp;obtain⟨i,hi⟩:=List.mem_iff_getElem?.mp hp;rw[Wb6]at hi;have e:p.1=p.2:=Waw.inj<|hi.1.symm.trans hi.2;rw[<- e];exact Zhn n _<|h _<|Wav hi.1
 |n+1,.lst xs,h=>by
  show (xs.length == xs.length && (xs.zip xs).all λp=>eqF n p.1 p.2)=true;rw[beq_self_eq_true,Wdu,Wa4];intro p hp;obtain⟨i,hi⟩:=List.mem_iff_getElem?.mp hp;rw[Wb6]at hi;have e:p.1=p.2:=Waw.inj<|hi.1.symm.trans hi.2;rw[<- e];exact Zhn n _<|h _<|Wav hi.1
 |_+1,.non,h=>h.elim
 |_+1,.bl _,h=>h.elim
 |_+1,.str _,h=>h.elim
 |_+1,.ty _,h=>h.elim
 |_+1,.scr _,h=>h.elim
 |_+1,.adr _,h=>h.elim
 |_+1,.dct _ _,h=>h.elim
 |_+1,.exc _ _,h=>h.elim
 |_+1,.excR _ _ _,h=>h.elim
def atZip (n:Nat) (xs ys:List D) (j:Nat):Bool:=match xs[j]?,ys[j]? with
 |some a,some b=>eqF n a b
 |_,_=>false
theorem Zjr (n:Nat):∀(xs ys:List D),(Wb2<|min xs.length ys.length).all (atZip n xs ys)=(xs.zip ys).all λp=>eqF n p.1 p.2
 |[],ys=>by simp
 |_::_,[]=>by simp
 |x::xs,y::ys=>by
  rw[Wag,Wag,Nat.succ_min_succ,List.range_succ_eq_map,Wc0,Wdy,Wc3,Wc0,<- Zjr n xs ys];rfl
section
variable {X:Cx}
theorem Zrw:∀(n:Nat) {A:Around}{pins:Qbz}{Z:St}{H G:Hp}{s:Shared}{x y:V}{v u:Value}{d e:D},Inv X pins Z H s->Same G H->Rep X.K G x d->Rep X.K G y e->RelV x v->RelV y u->Dp n d->Dp n e->A.units+n<cLine ->
  EqAt A s v u (eqF n d e)/\(∀a b,v=.ref a->u=.ref b->RcAt A s v u (eqF n d e))
 |0,_,_,_,_,_,_,_,_,_,_,_,_,_,_,_,_,_,_,h,_,_=>h.elim
 |n+1,A,pins,Z,H,G,s,x,y,v,u,d,e,I,sg,rx,ry,rv,ru,pd,pe,hu=>by
  have hu0:A.units<cLine:=by omega
  have hu1:A.in1.units+n<cLine:=by show A.units+1+n<cLine;omega
  have items:∀{vs us:List V}{its its2:List Value}{xs ys:List D},Vals vs its->Vals us its2->Reps X.K G vs xs->Reps X.K G us ys->(∀d∈xs,Dp n d)->(∀d∈ys,Dp n d) ->
    ∀j (h1:j<its.toArray.size) (h2:j<its2.toArray.size),EqAt A.in1 s its.toArray[j] its2.toArray[j] (atZip n xs ys j):=by
   intro vs us its its2 xs ys w1 w2 r1 r2 p1 p2 j h1 h2;have l1:=w1.length;have l2:=r1.length;have l3:=w2.length;have l4:=r2.length;have h1':j<its.length:=by simpa using h1
   have h2':j<its2.length:=by simpa using h2
   have hx:j<xs.length:=by omega
   have hy:j<ys.length:=by omega
   obtain⟨a,ha1,ha2⟩:=r1.get<|Wab hx;obtain⟨b,hb1,hb2⟩:=r2.get<|Wab hy;obtain⟨va,hv1,hv2⟩:=w1.get ha1;obtain⟨vb,hw1,hw2⟩:=w2.get hb1;have e1:its.toArray[j]=va:=by
    rw[Wab h1']at hv1;simpa using Waw.inj hv1
   have e2:its2.toArray[j]=vb:=by
    rw[Wab h2']at hw1;simpa using Waw.inj hw1
   have e3:atZip n xs ys j=eqF n xs[j] ys[j]:=by unfold atZip;rw[Wab hx,Wab hy]
   rw[e1,e2,e3];exact(Zrw n I sg ha2 hb2 hv2 hw2 (p1 _<|Wbd hx) (p2 _<|Wbd hy) hu1).1
  have same:∀a,v=.ref a->u=.ref a->eqF (n+1) d e=true:=λa h1 h2=>by
   have hx:x=.ref a:=by cases x <;> simp[RelV,h1]at rv <;> first|(rw[rv])|skip
   have hy:y=.ref a:=by cases y <;> simp[RelV,h2]at ru <;> first|(rw[ru])|skip
   rw[hx]at rx;rw[hy]at ry;rw[Rep.uniq (n+1) rx ry pd pe];exact Zhn (n+1) e pe
  have lift:(∃a,v=.ref a)->(∃b,u=.ref b)->(∀a b,v=.ref a->u=.ref b->RcAt A s v u (eqF (n+1) d e))->EqAt A s v u (eqF (n+1) d e)/\(∀a b,v=.ref a->u=.ref b->RcAt A s v u (eqF (n+1) d e)):=by
   rintro⟨a,rfl⟩ ⟨b,rfl⟩ h;refine⟨?_,h⟩;by_cases hab:a=b
   ·subst hab
    rw[same a rfl rfl];exact EqAt.same _
   ·exact .of_refs hab<|h a b rfl rfl
  cases d with
  |int i=>
   cases rx;obtain⟨t,rfl⟩:=rv;refine⟨?_,λa b z=>nomatch z⟩;cases e with
   |int j=>
    cases ry;obtain⟨t',rfl⟩:=ru;exact EqAt.int_int i t j t'
   |tup ys=>
    cases ry with
    |tup hb rb=>
     cases ru;obtain⟨its,w1,pl,_⟩:=I.tuple<|SqT.of<|sg _ _ hb;exact EqAt.int_tuple i t pl hu0
   |lst ys=>
    cases ry with
    |lst hb rb=>
     cases ru;obtain⟨its,w1,pl,_⟩:=I.list<|SqL.of<|sg _ _ hb;exact EqAt.int_list i t pl.isList hu0
   |_=>exact pe.elim
  |tup xs=>
   cases rx with
   |@tup a vs _ ha ra=>
    cases rv;obtain⟨its,w1,pl,_⟩:=I.tuple<|SqT.of<|sg _ _ ha;cases e with
    |int j=>
     cases ry;obtain⟨t',rfl⟩:=ru;exact⟨EqAt.tuple_int j t' pl hu0,λa b _ z=>nomatch z⟩
    |tup ys=>
     cases ry with
     |@tup b us _ hb rb=>
      cases ru;obtain⟨its2,w2,pl2,_⟩:=I.tuple<|SqT.of<|sg _ _ hb;refine lift ⟨_,rfl⟩ ⟨_,rfl⟩ λ_ _ _ _=>?_;have z:=RcAt.tuples (A:=A) (s:=s) pl pl2 hu0<|items w1 w2 ra rb pd pe;have e1:((Wb2<|min its.toArray.size its2.toArray.size).all (atZip n xs ys) && its.toArray.size == its2.toArray.size)=eqF (n+1) (.tup xs) (.tup ys):=by
       show _=(xs.length == ys.length && (xs.zip ys).all λp=>eqF n p.1 p.2);rw[<- Zjr,Wae,Wae,<- w1.length,<- w2.length,ra.length,rb.length,Bool.and_comm]
      rw[e1]at z;exact z
    |lst ys=>
     cases ry with
     |@lst b us _ hb rb=>
      cases ru;obtain⟨its2,w2,pl2,_⟩:=I.list<|SqL.of<|sg _ _ hb;exact⟨EqAt.tuple_list pl pl2.isList hu0,λ_ _ _ _=>RcAt.tuple_list pl pl2.isList hu0⟩
    |_=>exact pe.elim
  |lst xs=>
   cases rx with
   |@lst a vs _ ha ra=>
    cases rv;obtain⟨its,w1,pl,_⟩:=I.list<|SqL.of<|sg _ _ ha;cases e with
    |int j=>
     cases ry;obtain⟨t',rfl⟩:=ru;exact⟨EqAt.list_int j t' pl.isList hu0,λa b _ z=>nomatch z⟩
    |tup ys=>
     cases ry with
     |@tup b us _ hb rb=>
      cases ru;obtain⟨its2,w2,pl2,_⟩:=I.tuple<|SqT.of<|sg _ _ hb;exact⟨EqAt.list_tuple pl.isList pl2 hu0,λ_ _ _ _=>RcAt.list_tuple pl.isList pl2 hu0⟩
    |lst ys=>
     cases ry with
     |@lst b us _ hb rb=>
      cases ru;obtain⟨its2,w2,pl2,_⟩:=I.list<|SqL.of<|sg _ _ hb;refine lift ⟨_,rfl⟩ ⟨_,rfl⟩ λ_ _ _ _=>?_;have l1:=w1.length;have l2:=w2.length;have l3:=ra.length;have l4:=rb.length;by_cases hl:xs.length=ys.length
      ·have hsz:its.toArray.size=its2.toArray.size:=by rw[Wae,Wae];omega
       have z:=RcAt.lists (A:=A) (s:=s) pl.isList pl2.isList hsz hu0<|items w1 w2 ra rb pd pe;have e1:(Wb2 its.toArray.size).all (atZip n xs ys)=eqF (n+1) (.lst xs) (.lst ys):=by
        show _=(xs.length == ys.length && (xs.zip ys).all λp=>eqF n p.1 p.2);rw[<- Zjr,Wae,hl,beq_self_eq_true,Wdu,Nat.min_self,show its.length=ys.length by omega]
       rw[e1]at z;exact z
      ·have z:=RcAt.lists_lengths (A:=A) (s:=s) pl.isList pl2.isList (by rw[Wae,Wae];simp;omega) hu0
       have e1:eqF (n+1) (.lst xs) (.lst ys)=false:=by
        show (xs.length == ys.length && (xs.zip ys).all λp=>eqF n p.1 p.2)=false;rw[beq_eq_false_iff_ne.mpr hl,Wdi]
       rw[e1];exact z
    |_=>exact pe.elim
  |_=>exact pd.elim
def rEqD (K:W.Frag):R2:=λx y H Q=>∃G d e n,Same G H/\Rep K G x d/\Rep K G y e/\Dp n d/\Dp n e/\n<=5/\(∃a,x=.ref a)/\(∃b,y=.ref b)/\Q (.bl<|eqF n d e) H
theorem eqDK (K:W.Frag) (hv:X.A.units+8<cLine) (hK:X.K=K:=by rfl):OpR X (compareOp .Eq) (rEqD K):=by
 subst hK;intro pins s Z H x y v u Q I rx ry h;obtain⟨G,d,e,n,sg,r1,r2,p1,p2,hn,⟨a,rfl⟩,⟨b,rfl⟩,q⟩:=h;cases rx;cases ry;exact(Zrw n I sg r1 r2 rfl rfl p1 p2 (A:=X.A)<|by omega).2 a b rfl rfl X.prog X.w _ _ ⟨.bl _,H,I,rfl,q⟩
def rSortI (K:W.Frag):List V->Hp->VK->Prop:=λxs H Q=>∃(p:Addr) (ns:List Int),xs=[.ref p]/\SqL K H p (ns.map V.int)/\ns.length<64/\∀(l:Addr) (ms:List Int),ms.Perm ns->ms.Pairwise (· <= ·)->H l=none->Q (.ref l) (upd H l (.lst<|ms.map V.int))
theorem sortIK (K:W.Frag) (hK:X.K=K:=by rfl):CallR X (.builtin "sorted") (rSortI K):=by
 subst hK;intro pins s Z H xs us Q I r h;obtain⟨p,ns,rfl,hx,hl,q⟩:=h;obtain⟨u,rfl,ru⟩:=vals1 r;cases (show u=Value.ref p from ru);obtain⟨its,w1,p1,hz⟩:=I.list hx;have hi:=Zd1 w1;have hlen:=hi.length;refine sorted_ints p1.isList hi (by omega) λout ms o1 o2 o3=>?_;obtain⟨e,he⟩:=sortedAll_at s.heap its out;have hml:=o2.length_eq;refine⟨.ref<|s.heap.objs.size+1,_,I.laid (t':=s.toks) (λ_ _ z=>sortedAll_old z) (Wdb _) (show ObjOk X.prog X.w _ _ _ (.lst<|ms.map V.int) from ⟨?_,out.toList,e,Zee o1,?_⟩),rfl,q _ ms o2 o3<|I.hok.fresh<|Wdb _⟩
 ·rw[Waa];exact Wbm (small1000<|by omega)
 ·rw[Array.toArray_toList];exact he
end
section
variable {K:W.Frag}{O:Evt}{P:D->Evt->Prop}
def isSeqD:D->Bool
 |.tup _=>true
 |.lst _=>true
 |_=>false
theorem Zm2 {G:Hp}{x:V}{d:D}(r:Rep K G x d) (h:isSeqD d=true):∃a,x=.ref a:=by
 cases r with
 |tup _ _=>exact⟨_,rfl⟩
 |lst _ _=>exact⟨_,rfl⟩
 |_=>cases h
theorem Zml {n:Nat}{d e:D}(hn:n<=5) (pd:Dp n d) (pe:Dp n e) (sd:isSeqD d=true) (se:isSeqD e=true) (p:P (.bl<|eqF n d e) O):JR2 K (rEqD K) d e O P:=λg G H Z Q x y k rx ry c=>
 ⟨G,d,e,n,k.live,rx,ry,pd,pe,hn,Zm2 rx sd,Zm2 ry se,c _ _ G H O k (Same.refl _) (.bl _) p⟩
theorem Zq5 {ta:TA}{Po:OD->Evt->Prop}(h:JA K ta O λds O1=>∃ns:List Int,ds=[.lst (ns.map .int)]/\ns.length<64/\∀ms:List Int,ms.Perm ns->ms.Pairwise (· <= ·)->Po (.lst<|ms.map .int) O1):JO K (tCB (rSortI K) ta) O Po:=λg G H Z Q k c=>
 h g G H Z _ k λvs ds G1 H1 O1 k1 s1 r1 hq_=>by
  obtain⟨ns,e,hl,p⟩:=hq_;subst e;obtain⟨_,_,rfl,r,t⟩:=r1.inv
  next=>
   cases t.inv;obtain⟨a,us,rfl,ha,rr⟩:=r.inv
   next=>
    have ev:=rr.ints;subst ev;refine⟨a,ns,rfl,SqL.of<|k1.live _ _ ha,hl,λl ms o1 o2 hl=>?_⟩;obtain⟨k2,pd⟩:=k1.fresh (od:=.lst<|ms.map .int) hl (show OwnRep K G1 (.lst<|ms.map V.int) (.lst<|ms.map .int) from Reps.ofInts ms);exact c l _ G1 _ O1 k2 s1 pd<|p ms o1 o2
theorem Zl4 {n:Nat}{t1 t2:TE}{x:Slot}{ds0:List D}{nx bk ct:Evt->Prop}{rt:D->Evt->Prop}{ro:OD->Evt->Prop}(hx:O[n]?=some x) (ho:x.od=some (.lst ds0))
  (h:JE K t1 O λe1 O1=>JE K t2 O1 λe2 O2=>∃y i ds,e1=.int i /\ O2[n]?=some y/\y.od=some (.lst ds)/\ds.length<sizeLine /\ -(2 ^ 62)<=i/\i<2 ^ 62/\nx (O2.set n<|y.put (.lst (ds.take (insI ds.length i)++e2::ds.drop (insI ds.length i))))) :
  JS K (tDrop<|tBM K "list" rInsert (tVar n)<|tCons t1<|tCons t2 tNil) O ⟨nx,rt,bk,ct,ro⟩:=λg G H Z E k c=>by
 obtain⟨a,o,h1,h2,h3,h4,h5⟩:=k.own n x _ hx ho;cases o with
 |lst vs0=>
  refine⟨.ref a,h1,.inl ⟨rfl,_,SqL.of h2⟩,h g G H Z _ k λv1 e1 G1 H1 O1 k1 s1 r1 p1=>p1 g G1 H1 Z _ k1 λv2 e2 G2 H2 O2 k2 s2 r2 ⟨y,i,ds,q1,q2,q2',q3,q4,q5,p⟩=>?_⟩;subst q1;cases r1.inv;obtain⟨a2,o2,u1,u2,u3,u4,u5⟩:=k2.own n y _ q2 q2';rw[h1]at u1;cases u1;cases o2 with
  |lst vs=>
   have u3:Reps K G2 vs ds:=u3;refine⟨_,vs,i,v2,rfl,rfl,u2,by rw[u3.length];exact q3,q4,q5,?_⟩;have k3:=k2.write q2 q2' h1 (show OwnRep K G2 (.lst (vs.take (insI vs.length i)++v2::vs.drop (insI vs.length i))) (.lst (ds.take (insI ds.length i)++e2::ds.drop (insI ds.length i))) from by
    rw[u3.length];exact(u3.take _).append (.cons r2 (u3.drop _)))
   exact c.nx Z G2 _ _ k3 p
  |_=>exact absurd u3 (λz=>z)
 |_=>exact absurd h3 (λz=>z)
end
open PySem PySem.Spec PyProof.Rows PySem.SeqAt
def Ris (xs:Array Nat):Prop:=∀(i j a b:Nat),i<j->xs[i]?=some a->xs[j]?=some b->a<b
section
variable {prog:Program}{w:World}
end
section
variable {prog:Program}{w:World}{A:Around}{E:Qb0}{s:Shared}
end
end L2
namespace L2
open PySem PySem.Spec PyProof.Rows PySem.SeqAt
section
variable {prog:Program}{w:World}{A:Around}{E:Qb0}{s:Shared}
end
section
variable {K:W.Frag}{O:Evt}
end
section
variable {X:Cx}
end
open PySem PySem.Spec PyProof.Rows PySem.SeqAt
section
variable {X:Cx}
theorem intsAt {its:List Value}{ns:List Int}(hi:IntsAre its ns):∀j (h:j<its.length),∃t,its[j]=.int (ns.getD j 0) t:=by
 induction hi with
 |nil=>intro j h;simp at h
 |cons n t _ ih=>
  intro j h;cases j with
  |zero=>exact⟨t,rfl⟩
  |succ j=>simpa using ih j (by simpa using h)
end
section
variable {K:W.Frag}{O:Evt}{P:D->Evt->Prop}
theorem Ze9 {r r':R2}{ta tb tc:TE}(h:JE K ta O λd O1=>JE K tb O1 λe O2=>JR2 K r d e O2 λz O3=>∃k,z=.bl k/\if k=true then JE K tc O3 λu O4=>JR2 K r' e u O4 P else P (.bl false) O3):JE K (tChain r r' ta tb tc) O P:=λg G H Z Q k c=>
 h g G H Z _ k λx d G1 H1 O1 k1 s1 r1 p1=>p1 g G1 H1 Z _ k1 λy e G2 H2 O2 k2 s2 r2 p2=>p2 g G2 H2 Z _ x y k2 (r1.mono s2) r2 λz dz G3 H3 O3 k3 s3 r3 hq_=>by
  obtain⟨b,eb,p3⟩:=hq_;subst eb;cases r3.inv;refine⟨b,rfl,?_⟩;cases b with
  |true=>
   rw[Qbw rfl]at p3 ⊢;exact p3 g G3 H3 Z _ k3 λu du G4 H4 O4 k4 s4 r4 p4=>p4 g G4 H4 Z Q y u k4 (r2.mono<|s3.trans s4) r4<|c.up<|s1.trans<|s2.trans<|s3.trans s4
  |false=>
   rw[Qbv Wao]at p3 ⊢;exact c _ _ G3 H3 O3 k3 (s1.trans<|s2.trans s3) (.bl false) p3
theorem Zue {b:Bool}(p:P (.int (if b then 1 else 0)) O):JC K (λxs H Q=>(∃i,xs=[.int i]/\Q (.int i) H)\/∃k,xs=[.bl k]/\Q (.int (if k then 1 else 0)) H) [.bl b] O P:=λg G H Z Q vs k rs c=>by
 obtain⟨_,_,rfl,r,t⟩:=rs.inv
 next=>cases t.inv;cases r.inv;exact .inr ⟨b,rfl,c _ _ G H O k (Same.refl _) (.int _) p⟩
end
section
variable {X:Cx}
def rMax1 (K:W.Frag):List V->Hp->VK->Prop:=λxs H Q=>∃(b:Bool) (p:Addr) (ns:List Int),xs=[.ref p]/\SqB b K H p (ns.map V.int)/\0<ns.length/\∀m,m∈ns->(∀a∈ns,a<=m)->Q (.int m) H
theorem maxK (K:W.Frag) (hc:X.calm=true) (hK:X.K=K:=by rfl):CallR X (.builtin "max") (rMax1 K):=by
 subst hK;intro pins s Z H xs us Q I r h;obtain⟨b,p,ns,rfl,hx,hne,q⟩:=h;obtain⟨u,rfl,ru⟩:=vals1 r;cases (show u=Value.ref p from ru);obtain⟨its,w1,p1⟩:=I.seqB hx;have hlt:=p1.lt;have hl:=w1.length;rw[Waa]at hl;have hv:∀(i:Nat) v,its.toArray[i]?=some v->∃t,v=Value.int (ns.getD i 0) t:=λi v e=>by
  have hi:i<its.length:=by simpa using (Array.getElem?_eq_some_iff.mp e).1
  obtain⟨v',e1,t,e2⟩:=w1.get (i:=i) (x:=.int<|ns.getD i 0) (by rw[Waf,Waq,Wab (by omega)];rfl);rw[List.getElem?_toArray,e1]at e;cases e;exact⟨t,e2⟩
 have fin:∀{h':Heap}{tk:Nat}{v:Value},its.toArray[argBest (λi j=>decide (ns.getD i 0 > ns.getD j 0)) (its.toArray.size-1)]?=some v->(∀c o,s.heap.get? c=some o->h'.get? c=some o)->EP X pins Z Q v { s with heap:=h',toks:=tk }:=λ{h' tk v} hP hk=>by
  obtain⟨t,rfl⟩:=hv _ _ hP;obtain⟨h1,h2⟩:=argBest_gt (λi=>ns.getD i 0)<|its.toArray.size-1;have hz:its.toArray.size=ns.length:=by simp[hl]
  rw[hz]at h1 h2 ⊢;refine⟨.int<|ns.getD (argBest (λi j=>decide (ns.getD i 0 > ns.getD j 0))<|ns.length-1) 0,H,I.kept hk,⟨_,rfl⟩,q _ ?_ λa ha=>?_⟩
  ·rw[Waq,Wab (by omega)];exact Wbd _
  ·obtain⟨j,hj,rfl⟩:=Wck.mp ha
   have:=h2 j (by omega);rw[Waq (l:=ns) (i:=j),Wab hj]at this;exact this
 have old:∀{o:Obj}{h':Heap},(∀c u,c ∉ [s.heap.objs.size]->(s.heap.push o).get? c=some u->h'.get? c=some u)->∀c u,s.heap.get? c=some u->h'.get? c=some u:=λhk c u e=>hk c u (λhm=>by
  have:c=s.heap.objs.size:=by simpa using hm
  exact absurd (this ▸ War e) (Wci _)) (Wac _ e)
 have fp:∀o:Obj,∀c∈[s.heap.objs.size,p],c<(s.heap.push o).objs.size:=λo c hc=>by
  rw[Wbr];simp only[Wai,Wbc,or_false]at hc;rcases hc with rfl|rfl
  ·exact Nat.lt_succ_self _
  ·exact Wcy hlt
 cases b
 ·refine call_max_walk (wpAny_pyIter_list p1 ?_)
  exact⟨_,_,_,_,_,_,_,rfl,Walks.list (A:=X.A.in1) (I.ok.hd hc) _ p (Wa7 hlt) its.toArray,⟨⟨_,Wam _ rfl,rfl,rfl⟩,Heap.IsList.push p1 _⟩,fp _,by simp;omega,CmpOf.ints_gt (λi=>ns.getD i 0) hv,λv h' tk hP hk=>fin hP<|old hk⟩
 ·refine call_max_walk (wpAny_pyIter_tuple p1 ?_)
  exact⟨_,_,_,_,_,_,_,rfl,Walks.tuple (A:=X.A.in1) (I.ok.hd hc) _ p (Wa7 hlt) its.toArray,⟨⟨_,Wam _ rfl,rfl,rfl⟩,Heap.IsTuple.push p1 _⟩,fp _,by simp;omega,CmpOf.ints_gt (λi=>ns.getD i 0) hv,λv h' tk hP hk=>fin hP<|old hk⟩
end
section
variable {K:W.Frag}{O:Evt}
theorem Zt5 {ns:List Int}{m:Int}{d:D}{P:D->Evt->Prop}(hd:d=.lst (ns.map .int)\/d=.tup (ns.map .int)) (hm:m∈ns) (hle:∀a∈ns,a<=m) (p:P (.int m) O):JC K (rMax1 K) [d] O P:=λg G H Z Q vs k rs c=>by
 have fin:∀m',m'∈ns->(∀a∈ns,a<=m')->Q (.int m') H:=λm' h1 h2=>by
  have:m'=m:=Int.le_antisymm (hle m' h1)<|h2 m hm;subst this;exact c _ _ G H O k (Same.refl _) (.int _) p
 have pos:0<ns.length:=List.length_pos_of_mem hm;obtain⟨_,_,rfl,r,t⟩:=rs.inv
 next=>
  cases t.inv;rcases hd with hd|hd <;> subst hd
  ·obtain⟨_,_,rfl,ha,rs⟩:=r.inv
   next=>have:=rs.ints;subst this;exact⟨false,_,ns,rfl,SqL.of<|k.live _ _ ha,pos,fin⟩
  ·obtain⟨_,_,rfl,ha,rs⟩:=r.inv
   next=>have:=rs.ints;subst this;exact⟨true,_,ns,rfl,SqT.of<|k.live _ _ ha,pos,fin⟩
theorem Zmw {j n:Nat}(h:j<n):seqIndex? (j:Int) n=some j:=by
 unfold seqIndex?;simp;omega
theorem Zu0 {ta:TA}{Po:OD->Evt->Prop}(h:JA K ta O λds O1=>∃es,(ds=[.tup es]\/ds=[.lst es])/\Po (.lst es) O1):JO K (tCB (rLst K) ta) O Po:=λg G H Z Q k c=>
 h g G H Z _ k λvs ds G1 H1 O1 k1 s1 r1 hq_=>by
  obtain⟨es,e,p⟩:=hq_;rcases e with e|e <;> subst e
  ·obtain⟨_,_,rfl,r,t⟩:=r1.inv
   next=>
    cases t.inv;obtain⟨_,_,rfl,ha,rs⟩:=r.inv
    next=>
     refine⟨_,_,rfl,.inr<|SqT.of<|k1.live _ _ ha,λl hl=>?_⟩;obtain⟨k2,pd⟩:=k1.fresh (od:=.lst es) hl (show OwnRep K G1 (.lst _) (.lst es) from rs);exact c l _ G1 _ O1 k2 s1 pd p
  ·obtain⟨_,_,rfl,r,t⟩:=r1.inv
   next=>
    cases t.inv;obtain⟨_,_,rfl,ha,rs⟩:=r.inv
    next=>
     refine⟨_,_,rfl,.inl<|SqL.of<|k1.live _ _ ha,λl hl=>?_⟩;obtain⟨k2,pd⟩:=k1.fresh (od:=.lst es) hl (show OwnRep K G1 (.lst _) (.lst es) from rs);exact c l _ G1 _ O1 k2 s1 pd p
end
open PySem PySem.Spec PyProof.Rows PySem.SeqAt
section
variable {K:W.Frag}{O:Evt}{P:D->Evt->Prop}
end
section
variable {K:W.Frag}{O:Evt}
end
section
variable {prog:Program}{w:World}{A:Around}{E:Qb0}{s:Shared}
theorem Zjj {l:Addr}{vs:List Value}{Q:List Value->Shared->Prop}(hl:s.heap.IsTuple l vs.toArray)
  (h:Q vs { s with heap:=(s.heap.push<|seqObj "list" #[] 0).update s.heap.objs.size (Obj.mapSeq (· ++ vs.toArray)) }) (hsz:vs.length<=sizeLine) :
  wpAny (model prog w) A (collect (.ref l)) Q E s:=by
 obtain⟨o,ho,hc,n,hd⟩:=id hl;unfold collect;refine Qbn<|wpAny_runValue<|codeAny_builtin entry_proto_collect' ?_;show wpAny _ _ (do again (.builtin "list.__iadd__" ⟨[<- newList [],.ref l],[]⟩)) _ _ s;refine Qbn<|wpAny_newList<|Qbo ⟨Code.quiet_builtin _ (by decide +kernel),codeAny_builtin entry_list_iadd' ?_⟩;show wpAny _ _ (Builtin.List.listExtendWith (.ref s.heap.objs.size) (.ref l) (.ref s.heap.objs.size)) _ _ { s with heap:=s.heap.push (seqObj "list" #[] 0) };unfold Builtin.List.listExtendWith;have ho':(s.heap.push<|seqObj "list" #[] 0).get? l=some o:=Wac _ ho;refine Qbn<|wpAny_typeOf (T:="tuple") ⟨o,ho',hc⟩ ?_;have ht:(Value.type "tuple" == Value.type "tuple")=true:=by rfl
 rw[Qbw (by rw[ht];simp)];refine Qbn (listItems_at ho' hd ?_);refine Qbn (listItems_at (xs:=#[]) (n:=0) (Wam _ rfl) rfl ?_);rw[Qbv (by simp)];refine Qbn (listUpdate_at (xs:=#[]) (n:=0) (Wam _ rfl) rfl ?_ (Wbu _) (by show (#[]++vs.toArray).size<=sizeLine+1;simp only[Array.size_append,Wae,List.length_nil];omega));refine Qbo ?_;show wpAny (model prog w) A (do
   let o <- load s.heap.objs.size
   match o.data with
   |.seq xs _=>pure xs.toList
   |_=>unsupported "internal:collect") Q E { s with heap:=(s.heap.push (seqObj "list" #[] 0)).update s.heap.objs.size (Obj.mapSeq (· ++ vs.toArray)) }
 refine Qbn<|wpAny_load (get?_update_seq (Wam _ rfl) _) ?_;show wpAny _ _ (pure ((#[]:Array Value)++vs.toArray).toList) Q E _;rw[show ((#[]:Array Value)++vs.toArray).toList=vs by simp];exact Qbo h
theorem Zim {l:Addr}{vs:List Value}{ns:List Int}{Q:Qb0}(hl:s.heap.IsTuple l vs.toArray) (hI:IntsAre vs ns) (h64:vs.length<64)
  (h:∀(out:Array Value) (ns':List Int),IntsAre out.toList ns' -> ns'.Perm ns->ns'.Pairwise (· <= ·)->Q (.ref<|s.heap.objs.size+1) { s with heap:=sortedAll s.heap vs out }) :
  wpAny (model prog w) A (call (.builtin "sorted") [.ref l]) Q E s:=by
 refine Calls.call_function_entry kind_sorted plain_sorted entry_sorted (args_sorted1 _) ?_;unfold Builtin.«sorted»;refine Qbn (m:=checkCount "sorted" 1 1 _)<|Qbo ?_;refine Qbn (Zjj hl ?_<|Wbm (small1000<|by omega));refine Qbn<|wpAny_newList ?_;have hsz:((s.heap.push<|seqObj "list" #[] 0).update s.heap.objs.size (Obj.mapSeq (· ++ vs.toArray))).objs.size=s.heap.objs.size+1:=by
  rw[Heap.size_update,size_push']
 have hoL:(((s.heap.push<|seqObj "list" #[] 0).update s.heap.objs.size (Obj.mapSeq (· ++ vs.toArray))).push (seqObj "list" vs.toArray 0)).get? (s.heap.objs.size+1)=some (seqObj "list" vs.toArray 0):=by
  rw[<- hsz];exact Wam _ rfl
 show wpAny _ _ _ _ _ { s with heap:=((s.heap.push<|seqObj "list" #[] 0).update s.heap.objs.size (Obj.mapSeq (· ++ vs.toArray))).push (seqObj "list" vs.toArray 0) };rw[hsz];refine Qbn<|Qbq<|wpAny_call_entry slot_list_sort ⟨_,hoL,rfl⟩ entry_list_sort (list_sort_tree hoL hI h64 λout ns' a1 a2 a3=>⟨_,rfl,?_⟩)<|args_list_sort _;exact Qbo ⟨_,rfl,h out ns' a1 a2 a3⟩
end
section
variable {X:Cx}
def rSortT (K:W.Frag):List V->Hp->VK->Prop:=λxs H Q=>∃(p:Addr) (ns:List Int),xs=[.ref p]/\SqT K H p (ns.map V.int)/\ns.length<64/\∀(l:Addr) (ms:List Int),ms.Perm ns->ms.Pairwise (· <= ·)->H l=none->Q (.ref l) (upd H l (.lst<|ms.map V.int))
theorem sortTK (K:W.Frag) (hK:X.K=K:=by rfl):CallR X (.builtin "sorted") (rSortT K):=by
 subst hK;intro pins s Z H xs us Q I r h;obtain⟨p,ns,rfl,hx,hl,q⟩:=h;obtain⟨u,rfl,ru⟩:=vals1 r;cases (show u=Value.ref p from ru);obtain⟨its,w1,p1⟩:=I.seqB (b:=true) hx;have hi:=Zd1 w1;have hlen:=hi.length;refine Zim p1 hi (by omega) λout ms o1 o2 o3=>?_;obtain⟨e,he⟩:=sortedAll_at s.heap its out;have hml:=o2.length_eq;refine⟨.ref<|s.heap.objs.size+1,_,I.laid (t':=s.toks) (λ_ _ z=>sortedAll_old z) (Wdb _) (show ObjOk X.prog X.w _ _ _ (.lst<|ms.map V.int) from ⟨?_,out.toList,e,Zee o1,?_⟩),rfl,q _ ms o2 o3<|I.hok.fresh<|Wdb _⟩
 ·rw[Waa];exact Wbm (small1000<|by omega)
 ·rw[Array.toArray_toList];exact he
end
section
variable {K:W.Frag}{O:Evt}{P:D->Evt->Prop}
theorem Zj9 {ta:TA}{Po:OD->Evt->Prop}(h:JA K ta O λds O1=>∃ns:List Int,ds=[.tup (ns.map .int)]/\ns.length<64/\∀ms:List Int,ms.Perm ns->ms.Pairwise (· <= ·)->Po (.lst<|ms.map .int) O1):JO K (tCB (rSortT K) ta) O Po:=λg G H Z Q k c=>
 h g G H Z _ k λvs ds G1 H1 O1 k1 s1 r1 hq_=>by
  obtain⟨ns,e,hl,p⟩:=hq_;subst e;obtain⟨_,_,rfl,r,t⟩:=r1.inv
  next=>
   cases t.inv;obtain⟨a,us,rfl,ha,rr⟩:=r.inv
   next=>
    have ev:=rr.ints;subst ev;refine⟨a,ns,rfl,SqT.of<|k1.live _ _ ha,hl,λl ms o1 o2 hl=>?_⟩;obtain⟨k2,pd⟩:=k1.fresh (od:=.lst<|ms.map .int) hl (show OwnRep K G1 (.lst<|ms.map V.int) (.lst<|ms.map .int) from Reps.ofInts ms);exact c l _ G1 _ O1 k2 s1 pd<|p ms o1 o2
theorem Zma {n:Nat}{te:TE}{x:Slot}{ds0:List D}(hx:O[n]?=some x) (ho:x.od=some (.lst ds0))
  (h:JE K te O λe O1=>∃y ds,∃j:Nat,∃d,O1[n]?=some y/\y.od=some (.lst ds)/\e=.int j/\ds[j]?=some d/\ds.length<=1000/\P d (O1.set n<|y.put (.lst<|ds.eraseIdx j))) :
  JE K (tBM K "list" rPopAt (tVar n)<|tCons te tNil) O P:=λg G H Z Q k c=>by
 obtain⟨a,o,h1,h2,h3,h4,h5⟩:=k.own n x _ hx ho;cases o with
 |lst vs0=>
  refine⟨.ref a,h1,.inl ⟨rfl,_,SqL.of h2⟩,h g G H Z _ k λv e G1 H1 O1 k1 s1 r1 ⟨y,ds,j,d,q1,q2,q3,q4,q5,p⟩=>?_⟩;subst q3;cases r1.inv;obtain⟨a',o',w1,w2,w3,w4,w5⟩:=k1.own n y _ q1 q2;rw[h1]at w1;cases w1;cases o' with
  |lst vs=>
   have w3:Reps K G1 vs ds:=w3;obtain⟨u,z1,z2⟩:=w3.get q4;have hj:j<vs.length:=(Wah.mp z1).1;have hl:=w3.length;refine⟨a,vs,j,j,u,rfl,rfl,w2,by omega,by omega,Zmw hj,z1,c u d G1 _ _ (k1.write q1 q2 h1 (show OwnRep K G1 (.lst<|vs.eraseIdx j) (.lst<|ds.eraseIdx j) from w3.eraseIdx j)) s1 z2 p⟩
  |_=>exact absurd w3 (λz=>z)
 |_=>exact absurd h3 (λz=>z)
end
section
variable {X:Cx}
def rStrU:List V->Hp->VK->Prop:=λxs H Q=>(∃i,xs=[.int i]/\i.natAbs.log2<1920/\Q (.str<|toString i) H)\/∃x,xs=[.str x]/\Q (.str x) H
theorem strUK:CallR X (.type "str") rStrU:=by
 intro pins s Z H xs us Q I r h;rcases h with ⟨i,rfl,hz,q⟩|⟨x,rfl,q⟩
 ·obtain⟨u,rfl,t,rfl⟩:=vals1 r
  exact PySem.P.str_of_int hz ⟨.str _,H,I.tok _,⟨_,rfl⟩,q⟩
 ·obtain⟨u,rfl,t,rfl⟩:=vals1 r
  exact PySem.P.str_of_str ⟨.str _,H,I,⟨_,rfl⟩,q⟩
def rJoin (K:W.Frag):V->List V->Hp->VK->Prop:=λx vs H Q=>∃sep p zs,x=.str sep/\vs=[.ref p]/\SqL K H p (zs.map V.str)/\zs.foldl (λn z=>n+z.length+sep.length) 0<=sizeLine/\Q (.str<|Str.join sep zs) H
theorem Znn:∀{zs:List Str}{us:List Value},Vals (zs.map V.str) us->∃l:List (Str × Tok),us=strValues l/\l.map (·.1)=zs
 |[],_,r=>by cases r;exact⟨[],rfl,rfl⟩
 |z::zs,_,r=>by
  cases r with
  |cons r rr=>
   obtain⟨t,rfl⟩:=r;obtain⟨l,rfl,e⟩:=Znn rr;exact⟨(z,t)::l,rfl,by rw[Wa3,e]⟩
theorem Zh6 (k:Nat):∀(zs:List Str) (n:Nat),zs.foldl (λn z=>n+z.length+k) n=n+(zs.map λz=>z.length+k).sum
 |[],n=>by simp
 |z::zs,n=>by rw[List.foldl_cons,Zh6 k zs,Wa3,Wdn];omega
theorem join_len (sep:Str):∀zs:List Str,(Str.join sep zs).length<=(zs.map λz=>z.length+sep.length).sum
 |[]=>by show Str.empty.length<=_;exact Wbu _
 |[x]=>by show x.length<=_;simp only[Wa3,Wdf,Wdn,List.sum_nil];omega
 |x::y::r=>by
  have h:=join_len sep (y::r);show (x++sep++Str.join sep (y::r)).length<=_;rw[Wa3,Wdn,Str.length_append,Str.length_append];omega
theorem joinK (K:W.Frag) (hK:X.K=K:=by rfl):MtM X "str.join" (rJoin K):=by
 subst hK;intro pins s Z H x vs v us Q I rx rv h;obtain⟨sep,p,zs,rfl,rfl,hx,hz,q⟩:=h;obtain⟨t,rfl⟩:=rx;obtain⟨u,rfl,ru⟩:=rv.one;cases (show u=Value.ref p from ru);obtain⟨its,w1,p1,_⟩:=I.list hx;obtain⟨l,rfl,e⟩:=Znn w1;have hT:s.TypeIs (.str sep t) "str":=typeIs_str s sep t;have hlen:Builtin.Str.tooLong ((l.map (·.1)).toArray.foldl (· + ·.length+sep.length) 0)=false:=by
  unfold Builtin.Str.tooLong;rw[e,List.foldl_toArray];exact Qby (by omega)
 refine call_meets PySem.F.slot_str_join hT PySem.F.entry_str_join (PySem.F.args_str_join_2 _ _) (meets_str_join_list sep t p l hlen) ⟨p1.isList,?_⟩;have key:∀(s':Shared) (t':Tok),Inv X pins Z H s' -> EP X pins Z Q (.str (Str.join sep zs) t') s':=λs' t' I'=>⟨.str _,H,I',⟨_,rfl⟩,q⟩;subst e;rcases l with _|⟨a,_|⟨b,r⟩⟩
 ·exact⟨by show Str.empty.length<=_;exact Wbu _,key _ _<|I.tok _⟩
 ·exact key _ _ I
 ·have e2:Builtin.Str.glued sep ((a::b::r).map (·.1))=Str.join sep ((a::b::r).map (·.1)):=StrLaws.glued_eq_join sep _
  have hj:=join_len sep ((a::b::r).map (·.1));rw[Zh6]at hz;rw[<- e2]at key hj;exact⟨by omega,key _ _<|I.tok _⟩
end
section
variable {K:W.Frag}{O:Evt}{P:D->Evt->Prop}
def rAddS:R2:=λx y H Q=>∃i j,x=.str i/\y=.str j/\i.length+j.length<=sizeLine/\Q (.str<|i++j) H
theorem Zbu {x y:Str}(hz:x.length+y.length<=sizeLine) (p:P (.str<|x++y) O):JR2 K rAddS (.str x) (.str y) O P:=λg G H Z Q u v k rx ry c=>by
 cases rx.inv;cases ry.inv;exact⟨x,y,rfl,rfl,hz,c _ _ G H O k (Same.refl _) (.str _) p⟩
theorem Zdt {i:Int}(hz:i.natAbs.log2<1920) (p:P (.str<|toString i) O):JC K rStrU [.int i] O P:=λg G H Z Q vs k rs c=>by
 obtain⟨_,_,rfl,r,t⟩:=rs.inv
 next=>cases t.inv;cases r.inv;exact .inl ⟨i,rfl,hz,c _ _ G H O k (Same.refl _) (.str _) p⟩
theorem Reps.strs {G:Hp}{vs:List V}:∀{zs:List Str},Reps K G vs (zs.map D.str)->vs=zs.map V.str:=by
 induction vs with
 |nil=>intro ns h;cases ns with
  |nil=>rfl
  |cons n ns=>cases h
 |cons v vs ih=>intro ns h;cases ns with
  |nil=>cases h
  |cons n ns=>
   cases h with
   |cons r t=>cases r.inv;rw[ih t];rfl
theorem Zeu {to te:TE}(h:JE K to O λd O1=>∃sep,d=.str sep/\JE K te O1 λe O2=>∃zs:List Str,e=.lst (zs.map D.str)/\zs.foldl (λn z=>n+z.length+sep.length) 0<=sizeLine/\P (.str<|Str.join sep zs) O2) :
  JE K (tBM K "str" (rJoin K) to<|tCons te tNil) O P:=λg G H Z Q k c=>
 h g G H Z _ k λv d G1 H1 O1 k1 s1 r1 hq_=>by
  obtain⟨sep,e,p1⟩:=hq_;subst e;cases r1.inv;refine⟨rfl,p1 g G1 H1 Z _ k1 λu e G2 H2 O2 k2 s2 r2 ⟨zs,e2,hz,p⟩=>?_⟩;subst e2;obtain⟨a,us,rfl,ha,rr⟩:=r2.inv
  next=>
   have ev:=rr.strs;subst ev;exact⟨sep,a,zs,rfl,rfl,SqL.of<|k2.live _ _ ha,hz,c _ _ G2 H2 O2 k2 (s1.trans s2) (.str _) p⟩
end
section
variable {X:Cx}
end
abbrev TB:=St->Hp->(St->Hp->Prop)->Prop
def LoopR (g:TG) (tb:TB) (R:St->Hp->Prop) (Z0:St):It->Hp->Prop:=λJ H1=>∃W:Nat->Nat->St->Hp->Prop,(∃m,W 0 m Z0 H1)/\∀i m Z H,W i m Z H ->
 (J.stop i H/\R Z H)\/(J.go i H/\∃N:St->Hp->Prop,(∀Z' H',N Z' H' -> ∃m',m'<m/\W (i+1) m' Z' H')/\∀x H',J.yld i H x H' -> g x Z H' λZ2 H2=>tb Z2 H2 N)
structure Plain (e:Expr):Prop where
 tu:∀(P:Program) (w:World) (A:Around) (d:Nat) (it acc:Value) (env:Env),A.under (.compLoop e d it acc env)=A/\(model P w).den (.compLoop e d it acc env)=(compTurn e d it acc env).onRaise (λx=>do noteFrame x env;theTreesLotGoes x)
 su:∀(P:Program) (w:World) (A:Around) (d:Nat) (it acc:Value) (env:Env),A.under (.compStart e d it acc env)=A/\(model P w).den (.compStart e d it acc env)=(compStart e d it acc env).onRaise (λx=>do noteFrame x env;standAt theWindowsPlace)
theorem Zld (elt:Expr) (gs:List Comprehension) (sc:Scope) (pos:Pos):Plain (.ListComp elt gs sc pos):=⟨λ_ _ _ _ _ _ _=>⟨rfl,rfl⟩,λ_ _ _ _ _ _ _=>⟨rfl,rfl⟩⟩
theorem Zlm {Y:Cx}{e tg it0:Expr}{ifs:List Expr}{d:Nat}{acc:Value}{pins:Qbz}{Z:St}{s:Shared}{itv:Value}{RR:It->Hp->Prop}{R:Result->Shared->Prop}(hpl:Plain e) (hcl:(clausesOf e)[d]?=some ⟨tg,it0,ifs,0⟩)
  (h:PIE Y pins Z tg RR itv s) (h0:codeAny (model Y.prog Y.w) Y.A (.compLoop e d itv acc Y.env) R s):codeAny (model Y.prog Y.w) Y.A (.compStart e d itv acc Y.env) R s:=by
 obtain⟨it,fp,tn,J,H2,e0,I2,T,st2,f2,_⟩:=h;subst e0;refine codeAny_of_tree ?_;obtain⟨z1,z2⟩:=hpl.su Y.prog Y.w Y.A d (.ref it) acc Y.env;rw[z1,z2];refine wpAny_notedAt ?_;unfold compStart;rw[hcl];show wpAny _ _ (ask >>= _) _ _ s;refine Qbn<|wpAny_askSetting<|wpAny_ite ?_;split
 ·first
   |exact Qbn (Qbo (Qbo (And.intro rfl h0)))
   |exact Qbo (And.intro rfl h0)
 ·refine Qbn (Qbt ?_)
  show wpAny _ _ (standAt it0.pos >>= _) _ _ s;exact Qbn<|Qbr<|Qbn<|T.self _ 0 _ _ _ st2<|Qbo<|And.intro rfl h0
section
variable {K:W.Frag}{O:Evt}
end
section
variable {K:W.Frag}{O:Evt}{P:D->Evt->Prop}
end
theorem ObjOk.has {P:Program}{w:World}{H:Hp}{h:Heap}{a:Addr}{o:HO}(x:ObjOk P w H h a o):∃ob,h.get? a=some ob:=by
 cases o with
 |lst xs=>obtain⟨_,_,_,_,e⟩:=x;exact⟨_,e⟩
 |tup xs=>obtain⟨_,_,_,o,e,_⟩:=x;exact⟨_,e⟩
 |dK kvs=>obtain⟨_,_,_,_,o,_,_,e,_⟩:=x;exact⟨_,e⟩
 |dT kvs=>obtain⟨_,_,_,_,o,_,_,e,_⟩:=x;exact⟨_,e⟩
 |set S n=>obtain⟨o,_,_,_,e,_⟩:=x;exact⟨_,e⟩
 |ins C dx fs=>obtain⟨_,_,_,e,_⟩:=x;exact⟨_,e⟩
 |own y=>exact x
 |xd fs=>obtain⟨_,⟨_,_,_,e,_⟩,_⟩:=x;exact⟨_,e⟩
 |rng lo hi=>obtain⟨_,_,_,e⟩:=x;exact⟨_,e⟩
 |frz ob u=>obtain⟨e,_⟩:=x;exact⟨_,e⟩
 |tbl ps=>exact⟨_,x⟩
 |met f y=>exact⟨_,x⟩
 |ext φ=>exact x.2.1
theorem HOk.noneAt {P:Program}{w:World}{H:Hp}{h:Heap}{a:Addr}(x:HOk P w H h) (e:h.get? a=none):H a=none:=by
 cases q:H a with
 |none=>rfl
 |some o=>obtain⟨ob,z⟩:=(x a o q).has;rw[e]at z;cases z
structure Nw (X:Cx) (pins:Qbz) (H:Hp) (b:Addr):Prop where
 old:X.s₀.heap.get? b=none
 trk:H b=none
 loc:b≠X.env.locals
 cel:∀x c,X.env.cells.lookup x=some c->c≠b
 pin:∀p∈X.pn++pins,p.1≠b
section
variable {X:Cx}{pins:Qbz}{Z:St}{H H':Hp}{s:Shared}{h':Heap}{b:Addr}
theorem Nw.of (I:Inv X pins Z H s) (hex:X.ex=[]) (e:s.heap.get? b=none):Nw X pins H b where
 old:=by
  cases q:X.s₀.heap.get? b with
  |none=>rfl
  |some o=>obtain⟨o',z⟩:=I.base.there b o q (by rw[hex];simp);rw[e]at z;cases z
 trk:=I.hok.noneAt e
 loc:=by rintro rfl;obtain⟨m,⟨o,_,_,ho,_⟩,_⟩:=I.loc;rw[e]at ho;cases ho
 cel:=λx c hc z=>by subst z;obtain⟨v,o,ho,_⟩:=I.cell x c hc;rw[e]at ho;cases ho
 pin:=λp hp z=>by have:=(I.pin p hp).1;rw[z,e]at this;cases this
theorem Nw.at (n:Nw X pins H b) (h:H' b=none):Nw X pins H' b:=⟨n.old,h,n.loc,n.cel,n.pin⟩
theorem Inv.moved {hid:List Addr}(I:Inv X pins Z H s) (hex:X.ex=[]) (new:∀b∈hid,Nw X pins H b) (kp:∀b o,s.heap.get? b=some o->b ∉ hid->b ∉ frs X.stack->h'.get? b=some o) (up:s.heap.UpToSlots h'):Inv X pins Z H { s with heap:=h' }:=by
 have nst:∀b,b≠X.env.locals->b ∉ X.fs->b ∉ frs X.stack:=λb h1 h2 z=>(Wai.mp<|I.stkSub b z).elim h1 h2;have neL:∀b o,X.s₀.heap.get? b=some o->b≠X.env.locals:=λb o e=>Wa7<|Wa9 (War e) I.ok.above;have nhd:∀b o,X.s₀.heap.get? b=some o->b ∉ hid:=λb o e z=>by rw[(new b z).old]at e;cases e
 have nx:∀b,b ∉ X.ex:=λb=>by rw[hex];simp
 have cellK:∀c v,s.heap.IsCell c v->h'.IsCell c v:=λc v hq=>by
  obtain⟨o,ho,hd⟩:=hq;obtain⟨sl,e⟩:=up c o ho (λvs q=>by rw[hd]at q;cases q);exact⟨_,e,hd⟩
 refine⟨I.ok,I.os,I.bare,⟨λb o e n hb hx=>?_,λb o e n hb hx=>?_,I.base.free,λb o e hx=>?_,I.base.tups,I.base.frzs,I.base.tbls⟩,?_,λx c e=>?_,I.free,I.freeC,λp hp=>?_,λb u e=>?_,I.len⟩
 ·exact kp b o (I.base.keep b o e n hb hx) (nhd b o e)<|nst b (neL b o e) hb
 ·obtain⟨sl,e1⟩:=I.base.slot b o e n hb hx
  obtain⟨_,o',ho',hd⟩:=I.funs.mem hb;rw[e1]at ho';cases ho';obtain⟨sl',e2⟩:=up b _ e1 hd;exact⟨sl',e2⟩
 ·obtain⟨o',e1⟩:=I.base.there b o e hx
  by_cases hb:b∈frs X.stack
  ·obtain⟨_,o2,ho',hd⟩:=I.stack.mem hb
   obtain⟨sl',e2⟩:=up b _ ho' hd;exact⟨_,e2⟩
  ·exact⟨o',kp b o' e1 (nhd b o e) hb⟩
 ·obtain⟨m,hn,hl⟩:=I.loc
  refine⟨m,up.ns hn,λi x v e1 e2 e3=>?_⟩;obtain⟨u,r,l⟩:=hl i x v e1 e2 e3;refine⟨u,r,?_⟩;rcases l with l|⟨k,c,e,z⟩
  ·exact .inl l
  ·exact .inr ⟨k,c,e,cellK c _ z⟩
 ·obtain⟨v,z⟩:=I.cell x c e
  exact⟨v,cellK c v z⟩
 ·obtain⟨e,n,ne,nf,d⟩:=I.pin p hp
  exact⟨kp p.1 p.2 e (λz=>(new _ z).pin p hp rfl)<|nst _ ne nf,n,ne,nf,d⟩
 ·refine(I.hok b u e).stay (λc v hc q=>kp c v q (λz=>?_) λz=>?_) (λ_ q=>q) λ_ _ q=>q
  ·have n:=(new c z).trk
   rcases hc with rfl|hc
   ·rw[e]at n;cases n
   ·rw[hc]at n;cases n
  ·have n:=I.stkFree c z
   rcases hc with rfl|hc
   ·rw[e]at n;cases n
   ·rw[hc]at n;cases n
end
def Trc (h:Heap) (a C T:Addr):Prop:=
 ∃oe vs oT ts,h.get? a=some oe/\oe.cls=.ref C/\oe.data=.fields vs/\vs[1]?=some (.ref T)/\vs[2]?=some .none/\T≠a/\h.get? T=some oT/\oT.data=.fields ts/\ts[3]?=some .none
section
variable {M:Model}{A:Around}{E:Qb0}{s:Shared}{Q:Unit->Shared->Prop}{env:Env}{outer:List Env}{base:Heap}{L e:Addr}{oe:Obj}{vs:Array Value}
theorem Zww (hl:s.heap.FunFrames base (env::outer)) (he:s.heap.get? e=some oe) (hd:oe.data=.fields vs):e ∉ frs (env::outer):=λhm=>by
 obtain⟨_,o,ho,hn⟩:=hl.mem hm;rw[he]at ho;exact hn vs (Waw.inj ho ▸ hd)
structure Noted (h h':Heap) (l:List Env) (e:Addr) (oe:Obj) (T:Addr):Prop where
 keep:∀b o,h.get? b=some o->b≠e->b ∉ frs l->h'.get? b=some o
 up:∀b o,h.get? b=some o->b≠e->(∀ws,o.data≠.fields ws)->∃sl,h'.get? b=some { o with slots:=sl }
 new:h.get? T=none
 exc:h'.get? e=some (oe.mapFields (·.setIfInBounds 1 (.ref T)))
 tb:∃oT ts,h'.get? T=some oT/\oT.data=.fields ts/\3<ts.size
theorem entryX {head:Value}{hadNext:Bool}(hfr:A.frames=some (env::outer)) (hl:s.heap.FunFrames base (env::outer)) (hf:env.frame=some L) (he:s.heap.get? e=some oe) (hd:oe.data=.fields vs) (hsz:1<vs.size)
  (h:∀h' T,Noted s.heap h' (env::outer) e oe T->Q () { s with heap:=h' }) :
  wpAny M A (do let a <- frameOf env;let pl <- entryPlaceOf L hadNext;let b <- EntryCells.newEntry head a .none (rawInt L) .none pl;setField (.ref e) 1 b) Q E s:=by
 have hene:=Zww hl he hd;refine Qbn (wpAny_frameOf_fun hfr hl hf λg1 hg=>?_);refine Qbn (wpAny_entryPlaceOf λpl hp=>?_);unfold EntryCells.newEntry newFields;refine Qbn<|wpAny_newObj_type ?_<|hp.sizeOk5 _ _ _ _ _;have he1:g1.get? e=some oe:=(hg.2.1 e hene).trans he;have he2:=Wac (h:=g1) { cls:=.type "traceback",dict:=none,data:=.fields ([head,.ref L,.none,rawInt L,.none]++(if pl.isEmpty then Wad 6 Value.none else pl)).toArray } he1;refine wpAny_setField he2 hd hsz<|h _ g1.objs.size ?_;have nT:g1.objs.size≠e:=Wcr<|War he1;have hd3:=Obj.data_mapFields hd (·.setIfInBounds 1 (Value.ref g1.objs.size));have hT3:=(Wba (g1.push { cls:=.type "traceback",dict:=none,data:=.fields ([head,.ref L,.none,rawInt L,.none]++(if pl.isEmpty then Wad 6 Value.none else pl)).toArray }) (Obj.mapFields (·.setIfInBounds 1 (Value.ref g1.objs.size)))<|Ne.symm nT).trans (Wam g1 rfl);refine⟨λb o hb h1 h2=>?_,λb o hb h1 hn=>?_,?_,?_,⟨_,_,hT3,rfl,?_⟩⟩
 ·rw[Wba _ _ (Ne.symm h1)]
  exact Wac _ ((hg.2.1 b h2).trans hb)
 ·obtain⟨sl,q⟩:=hg.2.2 b o hb
  exact⟨sl,by rw[Wba _ _ (Ne.symm h1)];exact Wac _ q⟩
 ·exact Wcl (by rw[hg.1];exact Waj _)
 ·exact Wbi _ he2<|Obj.isFreed_of_fields hd3
 ·rw[Wae,Wal,Wag,Wag,Wag,Wag]
  omega
theorem noteN (hfr:A.frames=some (env::outer)) (hl:s.heap.FunFrames base (env::outer)) (hf:env.frame=some L) (he:s.heap.get? e=some oe) (hd:oe.data=.fields vs) (h1:vs[1]?=some .none)
  (h:∀h' T,Noted s.heap h' (env::outer) e oe T->Q () { s with heap:=h' }):wpAny M A (noteFrame (.ref e) env) Q E s:=by
 unfold noteFrame;simp only[hf];refine Qbn<|wpAny_field he hd h1 ?_;rw[Qbv (by decide)];exact entryX hfr hl hf he hd (Array.getElem?_eq_some_iff.mp h1).1 h
theorem noteT {T:Addr}{oT:Obj}{ts:Array Value}(hfr:A.frames=some (env::outer)) (hl:s.heap.FunFrames base (env::outer)) (hf:env.frame=some L) (he:s.heap.get? e=some oe) (hd:oe.data=.fields vs) (h1:vs[1]?=some (.ref T)) (hTe:T≠e)
  (hT:s.heap.get? T=some oT) (hdT:oT.data=.fields ts) (h3:ts[3]?=some .none) (h:∀h' T',Noted (s.heap.update T<|Obj.mapFields (·.setIfInBounds 3 .none)) h' (env::outer) e oe T' -> Q () { s with heap:=h' }):wpAny M A (noteFrame (.ref e) env) Q E s:=by
 unfold noteFrame;simp only[hf];refine Qbn<|wpAny_field he hd h1 ?_;rw[Qbw (show (Value.ref T != Value.none)=true from by simp)];refine Qbn<|wpAny_field hT hdT h3 ?_;rw[Qbv (show ¬ ((Value.none == rawInt L)=true) from by simp[rawInt])];refine Qbn<|wpAny_setField hT hdT (Array.getElem?_eq_some_iff.mp h3).1 ?_;have ot:∀b,b≠T->(s.heap.update T<|Obj.mapFields (·.setIfInBounds 3 Value.none)).get? b=s.heap.get? b:=λb hb=>Wba _ _<|Ne.symm hb;refine entryX (s:={ s with heap:=s.heap.update T (Obj.mapFields (·.setIfInBounds 3 .none)) }) hfr (hl.of_keeps λb o hb hn=>⟨o,(ot b λq=>?_).trans hb,rfl⟩) hf ((ot e<|Ne.symm hTe).trans he) hd (Array.getElem?_eq_some_iff.mp h1).1 λh' T' n=>h h' T' n;rw[q,hT]at hb;exact hn ts (Waw.inj hb ▸ hdT)
end
section
variable {X:Cx}{pins:Qbz}{Z:St}{H H':Hp}{s:Shared}{h':Heap}{a C T:Addr}
theorem Inv.noted {h0:Heap}{oe:Obj}{vs:Array Value}{hid:List Addr}{T':Addr}(I:Inv X pins Z H s) (hex:X.ex=[]) (na:Nw X pins H a) (new:∀b∈hid,Nw X pins H b) (he:s.heap.get? a=some oe) (hc:oe.cls=.ref C) (hd:oe.data=.fields vs) (h2:vs[2]?=some .none)
  (k0:∀b,b ∉ hid->h0.get? b=s.heap.get? b) (hf0:∀b∈hid,∀o,s.heap.get? b=some o->∃ws,o.data=.fields ws) (hn0:∀b,h0.get? b=none->s.heap.get? b=none) (n:Noted h0 h' X.stack a oe T') {h3:Heap}(e3:h3=h'.update T' (Obj.mapFields (·.setIfInBounds 3 .none))) :
  Inv X pins Z H { s with heap:=h3 } /\ Trc h3 a C T' /\ Nw X pins H T':=by
 subst e3;have nT:=Nw.of I hex<|hn0 _ n.new;have ot:∀b,b≠T' -> (h'.update T'<|Obj.mapFields (·.setIfInBounds 3 Value.none)).get? b=h'.get? b:=λb hb=>Wba _ _<|Ne.symm hb;have hTa:T'≠a:=by rintro rfl;have z:=hn0 _ n.new;rw[he]at z;cases z
 have ne:∀b o,s.heap.get? b=some o->b≠T':=λb o e z=>by subst z;rw[hn0 _ n.new]at e;cases e
 have fl:∀b,b∈a::hid->∀o,s.heap.get? b=some o->∃ws,o.data=.fields ws:=λb hb o e=>by
  rcases Wai.mp hb with rfl|hb
  ·rw[he]at e;cases e;exact⟨vs,hd⟩
  ·exact hf0 b hb o e
 refine⟨I.moved (hid:=a::hid) hex (λb hb=>(Wai.mp hb).elim (λz=>by subst z;exact na) (new b)) (λb o e h1 h2=>?_) λb o e hnf=>?_,?_,nT⟩
 ·have h1a:b≠a:=λz=>h1 (by simp[z])
  have h1b:b ∉ hid:=λz=>h1<|Wap _ z;rw[ot b (ne b o e)];exact n.keep b o ((k0 b h1b).trans e) h1a h2
 ·have hb:b ∉ a::hid:=λz=>by obtain⟨ws,q⟩:=fl b z o e;exact hnf ws q
  have h1a:b≠a:=λz=>hb (by simp[z]);have h1b:b ∉ hid:=λz=>hb<|Wap _ z;obtain⟨sl,q⟩:=n.up b o ((k0 b h1b).trans e) h1a hnf;exact⟨sl,(ot b<|ne b o e).trans q⟩
 ·obtain⟨oT,ts,t1,t2,t3⟩:=n.tb
  have sz:2<vs.size:=(Array.getElem?_eq_some_iff.mp h2).1;refine⟨_,_,_,_,(ot a<|Ne.symm hTa).trans n.exc,(Obj.cls_mapFields _ _).trans hc,Obj.data_mapFields hd _,?_,?_,hTa,Wbi _ t1<|Obj.isFreed_of_fields<|Obj.data_mapFields t2 _,Obj.data_mapFields t2 _,?_⟩
  ·simp[show 1<vs.size by omega]
  ·rw[Array.getElem?_setIfInBounds_ne (by decide)];exact h2
  ·simp[t3]
variable {M:Model}{E:Qb0}{Q:Unit->Shared->Prop}
theorem Zfk {h h':Heap}{l:List Env}{e T:Addr}{oe:Obj}{vs:Array Value}{A:Around}{s:Shared}(hd:oe.data=.fields vs) (sz:1<vs.size) (n:Noted h h' l e oe T) (h:Q () { s with heap:=h'.update T (Obj.mapFields (·.setIfInBounds 3 .none)) }) :
  wpAny M A (setFlight (.ref e) none) Q E { s with heap:=h' }:=by
 obtain⟨oT,ts,t1,t2,t3⟩:=n.tb;exact wpAny_setFlight_none (s:={ s with heap:=h' }) n.exc (Obj.data_mapFields hd _) (by simp[sz]) t1 t2 t3 h
theorem Zsl (I:Inv X pins Z H s) (hex:X.ex=[]) (hst:X.stack=X.env::X.outer) (hf:X.env.frame=some X.env.locals) (tr:Trc s.heap a C T) (na:Nw X pins H a) (nT:Nw X pins H T)
  (h:∀h' T',Inv X pins Z H { s with heap:=h' } -> Trc h' a C T' -> Nw X pins H T' -> Q () { s with heap:=h' }):wpAny M X.A (noteFrame (.ref a) X.env) (λ_ s2=>wpAny M X.A (setFlight (.ref a) none) Q E s2) E s:=by
 obtain⟨oe,vs,oT,ts,h1,h2,h3,h4,h5,h6,h7,h8,h9⟩:=tr;have hfr:=I.ok.frames;have hl:=I.stack;rw[hst]at hfr hl;have ot:∀b,b≠T->(s.heap.update T (Obj.mapFields (·.setIfInBounds 3 Value.none))).get? b=s.heap.get? b:=λb hb=>Wba _ _ (Ne.symm hb);refine noteT hfr hl hf h1 h3 h4 h6 h7 h8 h9 λh' T' n=>?_;refine Zfk h3 (Array.getElem?_eq_some_iff.mp h4).1 n ?_;rw[<- hst]at n;obtain⟨J,t1,t2⟩:=I.noted (hid:=[T]) hex na (λb hb=>by rcases Wai.mp hb with rfl|hb;exact nT;cases hb) h1 h2 h3 h5 (λb hb=>ot b (by simpa using hb)) (λb hb o e=>by
  have hb:b=T:=by simpa using hb
  subst hb;rw[h7]at e;cases e;exact⟨ts,h8⟩) (λb e=>by
   by_cases hb:b=T
   ·subst hb
    rw[Wbi _ h7 (Obj.isFreed_of_fields<|Obj.data_mapFields h8 _)]at e;cases e
   ·exact(ot b hb).symm.trans e) n rfl
 exact h _ T' J t1 t2
theorem Zn5 {h1:Heap}{args:List Value}(I:Inv X pins Z H s) (hex:X.ex=[]) (hst:X.stack=X.env::X.outer) (hf:X.env.frame=some X.env.locals) (hm:Heap.MadeExcOf s.heap h1 a (.ref C) args)
  (h:∀h' T',Inv X pins Z H { s with heap:=h' } -> Trc h' a C T' -> Nw X pins H a->Nw X pins H T' -> Q () { s with heap:=h' }):wpAny M X.A (leaving X.env (.ref a)) Q E { s with heap:=h1 }:=by
 have J:Inv X pins Z H { s with heap:=h1 }:=I.kept (t':=s.toks) hm.keeps;have na:=Nw.of I hex hm.new;obtain⟨t,he,_,_⟩:=hm.there;have hfr:=J.ok.frames;have hl:=J.stack;rw[hst]at hfr hl;unfold leaving;refine Qbn (noteN (s:={ s with heap:=h1 }) hfr hl hf he rfl rfl λh' T' n=>?_);refine Zfk (vs:=#[.ref t,.none,.none,.none,.bool false,.none]) (s:={ s with heap:=h1 }) rfl (show 1<6 by decide) n ?_;rw[<- hst]at n;obtain⟨J2,t1,t2⟩:=J.noted (hid:=[]) hex na (λb hb=>by cases hb) he rfl rfl rfl (λb _=>rfl) (λb hb=>by cases hb) (λb e=>e) n rfl;exact h _ T' J2 t1 na t2
theorem Zqr {A:Around}(I:Inv X pins Z H s) (hex:X.ex=[]) (tr:Trc s.heap a C T) (na:Nw X pins H a) (nT:Nw X pins H T)
  (h:∀h' T',Inv X pins Z H { s with heap:=h' } -> Trc h' a C T' -> Nw X pins H T' -> Q () { s with heap:=h' }):wpAny M A (setFlight (.ref a) none) Q E s:=by
 obtain⟨oe,vs,oT,ts,h1,h2,h3,h4,h5,h6,h7,h8,h9⟩:=tr;have sz:=(Array.getElem?_eq_some_iff.mp h9).1;have ot:∀b,b≠T->(s.heap.update T<|Obj.mapFields (·.setIfInBounds 3 Value.none)).get? b=s.heap.get? b:=λb hb=>Wba _ _<|Ne.symm hb;refine wpAny_setFlight_none h1 h3 h4 h7 h8 sz<|h _ T ?_ ?_ nT
 ·refine I.moved (hid:=[T]) hex (λb hb=>by rcases Wai.mp hb with rfl|hb;exact nT;cases hb) (λb o e hb _=>(ot b (by simpa using hb)).trans e) (λb o e hnf=>⟨o.slots,(ot b λz=>?_).trans e⟩)
  subst z;rw[h7]at e;cases e;exact hnf ts h8
 ·exact⟨oe,vs,_,_,(ot a<|Ne.symm h6).trans h1,h2,h3,h4,h5,h6,Wbi _ h7<|Obj.isFreed_of_fields<|Obj.data_mapFields h8 _,Obj.data_mapFields h8 _,by simp[sz]⟩
end
def CXE (P:Program) (w:World):CXT:=λouter H s E e s'=>
 ∃(a C T:Addr) (H':Hp),e=.ref a/\s'.os=s.os/\AllBare s'.gens/\Un (frs outer) [] H H' s.heap s'.heap/\HOk P w H' s'.heap/\H' a=none/\s.heap.get? a=none/\H' T=none/\s.heap.get? T=none/\Trc s'.heap a C T/\E (.ref C) none H'
def Throws (X:Cx) (E:XK):Prop:=∀(pins:Qbz) (Z:St) (H:Hp) (s:Shared) (h1:Heap) (a C:Addr) (args:List Value),Inv X pins Z H s->Heap.MadeExcOf s.heap h1 a (.ref C) args->E (.ref C) none H->X.xe (.ref a) { s with heap:=h1 }
section
variable {P:Program}{w:World}{K:W.Frag}{mg:Str->Option Value}{base:Heap}{N:List Str}{qual:Str}{scope:Scope}{f:Addr}{cd:Value}{A:Around}{outer:List Env}{s0:Shared}{H0:Hp}{E:XK}
theorem Zfh:Throws (cxOf (CXE P w) P w K mg base N qual scope f cd A outer s0 H0 E) E:=λpins Z H s h1 a C args I hm hE=>by
 refine Zn5 I rfl rfl rfl hm λh' T' J2 t1 na t2=>?_;exact⟨a,C,T',H,rfl,J2.os,J2.bare,J2.base,J2.hok,na.trk,na.old,t2.trk,t2.old,t1,hE⟩
end
abbrev ExcC (K:W.Frag) (C:Addr):Prop:=PySem.W.excIn K C [.type "ValueError",.type "Exception",.type "BaseException",.type "object"] "ValueError.__new__" = true
def ExcO (h:Heap) (C:Addr) (bm:List Value):Prop:=∃N nm qn bs hd sn sub ab col dd k0 k1 k2 k3 k5 mN,h.get? C=some (excClassObj nm qn C N bs bm hd sn sub ab col dd k0 k1 k2 k3 k5 "ValueError.__new__")/\h.Ns N mN/\mN "__init__" = none/\OwnTail h [.type "ValueError",.type "Exception",.type "BaseException",.type "object"] bm
theorem Zhx {K:W.Frag}{h:Heap}{C:Addr}(X:K.In h) (q:ExcC K C):∃bm,ExcO h C bm/\∀v b,PySem.W.mroIn K C v=some b->(Value.ref C::bm).contains v=b:=by
 unfold ExcC PySem.W.excIn at q;split at q
 next dd cd sl e=>
  split at q
  next C' bm k0 k1 k2 k3 n k5 e1 e2=>
   rw[Wa6,Wa6,Wa6,Wa6,Wa6]at q;obtain⟨⟨⟨⟨⟨q1,q2⟩,q3⟩,q4⟩,q5⟩,q6⟩:=q;have q1:=beq_iff_eq.mp q1;have q2:=beq_iff_eq.mp q2;rw[Bool.not_eq_true']at q3;subst q1;cases cd with
   |mk nm bs mro ns qn hd sn sub ab col del=>
    dsimp only at e1 q3 q5 q6;have q7:=beq_iff_eq.mp q6;subst e1;subst q3;have e3:sl = #[k0,k1,k2,k3,some (.builtin n),k5]:=by
     cases sl with
     |mk l=>exact congrArg Array.mk e2
    subst e3;subst q2;refine⟨bm,⟨ns,nm,qn,bs,hd,sn,sub,ab,col,dd,k0,k1,k2,k3,k5,_,X _ _ e,.of_isNs<|PySem.W.isNs_of_in X q5,PySem.W.nsMap_none_of_in X q5 q7,PySem.W.tail_of_in X q4⟩,λv b hv=>?_⟩;unfold PySem.W.mroIn PySem.W.clsIn at hv;rw[e]at hv;have hv:some ((Value.ref C'::bm).contains v)=some b:=hv;exact Waw.inj hv
  next=>cases q
 next=>cases q
def tRaise (C:Addr) (E:XK) (t:TA):TS:=λ_ Z H=>t Z H λvs H1=>vs.length<=sizeLine/\E (.ref C) none H1
section
variable {X:Cx}{x:Str}{C:Addr}{np cpos pos:Pos}{e:Expr}{es:List Expr}{t:TA}{E:XK}
theorem Zfd (cl:ExcC X.K C) (hg:Gl X x) (hm:X.mg x=some (.ref C)) (hh:X.A.handled=none) (hr:Throws X E) (ha:PA X (e::es) t) (hdb:(x == ("__debug__":Str))=false:=by decide)
  (he:starEach (e::es) X.env=(false,eval e X.env)::starEach es X.env:=by rfl) (hpl:(backTo cpos<|starEach (e::es) X.env).any (·.1)=false:=by rfl):PS X (.Raise (some (.Call (.Name x np) (e::es) [] cpos)) none pos) (tRaise C E t):=by
 intro pins s Z H D I h;obtain⟨bm,⟨N,nm,qn,bs,hd,sn,sub,ab,col,dd,k0,k1,k2,k3,k5,mN,o1,o2,o3,o4⟩,_⟩:=Zhx I.ok.mod.kin cl;refine wpAny_Raise_call_subT (C:=C) (nm:=nm) (q:=qn) (N:=N) (bs:=bs) (bm:=bm) (hdct:=hd) (sn:=sn) (sub:=sub) (ab:=ab) (col:=col) (dd:=dd) (k0:=k0) (k1:=k1) (k2:=k2) (k3:=k3) (k5:=k5) (mN:=mN) F.excBase_ValueError (o4.hasType rfl) hh hpl o3 ?_;refine Zc5 I hg hm ⟨rfl,?_⟩ hdb;have e1:backTo cpos (starEach (e::es) X.env)=(false,eval e X.env)::backTo cpos (starEach es X.env):=by rw[he];rfl
 rw[e1];refine Calls.evalArgs_plain ?_;rw[<- e1];refine thn (ha cpos pins s Z H _ I h) λus s1 ⟨vs,H1,I1,r,z,q⟩=>?_;exact⟨rfl,by rw[<- r.length];exact z,I1.bk _ _ o1,o2.keeps I1.bk,o4.keeps I1.bk,λh' a hm'=>hr pins Z H1 s1 h' a C us I1 hm' q⟩
end
theorem InsC.ty {a C:Addr}{h:Heap}{M:Model}(I:InsC a C h):PySem.W.Looks M h (typeOf (.ref a)) (.ref C):=by
 obtain⟨o,_,h1,h2,_⟩:=I;exact h2 ▸ (PySem.W.Looks.ld h1).andThen .now
section
variable {prog:Program}{w:World}{A:Around}{E:Qb0}{K:W.Frag}{s:Shared}{a C:Addr}
theorem Zlc {R:Result->Shared->Prop}{tp:Value}(X:K.In s.heap) (I:InsC a C s.heap) (hm:PySem.W.mroIn K C (.type "object")=some true) (h:R (.ok (.ret (.ref C))) s) :
  codeAny (model prog w) A (.call (.builtin "getset_descriptor.__get__") ⟨[.builtin "object.__class__",.ref a,tp],[]⟩) R s:=by
 obtain⟨h0,g,d,t,os⟩:=s;have l0:=I.ty (M:=model prog w);have l1:=PySem.W.looks_mroIn (M:=model prog w) X hm;have ht:(⟨h0,g,d,t,os⟩:Shared).TypeIs (.builtin "object.__class__") "getset_descriptor":=PySem.W.KF.type_class;refine codeAny_call_builtin PySem.W.KF.slot_gs.plain PySem.W.KF.entry_gs<|PySem.W.KF.slot_gs.check _ _ _ _ _ _ _ _ ht (PySem.W.KF.args_gs _ _ _) ?_;unfold Builtin.«getset_descriptor.__get__» Builtin.Getset_descriptor.descrGet;rw[PySem.W.dga_obj];refine Qbn (m:=pure _)<|Qbo ?_;unfold Builtin.Getset_descriptor.descrGetter Builtin.Getset_descriptor.descrCheckInstance Builtin.Getset_descriptor.descrNameAndClass isInstance;simp only[PySem.W.KF.owner_class]
 repeat lk
 refine⟨Code.quiet_builtin _ (by decide +kernel),codeAny_builtin PySem.W.KF.entry_class ?_⟩;unfold Builtin.«object.__class__» shownTypeOf
 repeat lk
 exact h
end
theorem Zgn {M:Model}{A:Around}{E:Qb0}{K:W.Frag}{s:Shared}{a C FE:Addr}{Q:Bool->Shared->Prop}(X:K.In s.heap) (cF:ExcC K FE) (cC:ExcC K C) (hm:PySem.W.mroIn K C (.ref FE)=some true) (I:InsC a C s.heap) (hq:Q true s) :
  wpAny M A (excMatches (.ref a) (.ref FE)) Q E s:=by
 obtain⟨h,g,d,t,os⟩:=s;obtain⟨bm,⟨N,nm,qn,bs,hd,sn,sub,ab,col,dd,k0,k1,k2,k3,k5,mN,hC,_⟩,hmro⟩:=Zhx X cC;obtain⟨bm',⟨N',nm',qn',bs',hd',sn',sub',ab',col',dd',k0',k1',k2',k3',k5',mN',hF,_,_,oF⟩,_⟩:=Zhx X cF;have hA:=hmro _ _ hm;have hB:(Value.ref FE::bm').contains (.type "BaseException")=true:=by rw[Wdt,oF.hasType (X:="BaseException") (b:=true) rfl,Bool.or_true]
 obtain⟨ox,_,hx,hc,_⟩:=I;have f:=tc_notTuple;unfold excMatches
 repeat (first|(with_reducible refine wpAny_loadPart_at hx ?_;rw[hc])|with_reducible refine wpAny_loadPart_at hF ?_|(with_reducible refine wpAny_isSubtype_exc hF ?_;rw[hB])|(with_reducible refine wpAny_isSubtype_exc hC ?_;rw[hA])|wp_step)
 exact hq
abbrev XC (X:Cx) (e:Addr):Cx:={ X with A:=X.A.mark<|some (.ref e),calm:=false,xe:=λ_ _=>False }
theorem Cx.Ok.suite {X:Cx}(ok:X.Ok) (e:Addr):(XC X e).Ok:=
 ⟨ok.mod,ok.kind,ok.glob,ok.blt,ok.above,ok.inj,ok.has,ok.cab,(λz=>nomatch z),ok.frames,ok.stk,ok.exf,ok.bs,ok.bsz,ok.noex,ok.exfs,ok.funs,ok.frf⟩
abbrev XT (X:Cx) (pn:Qbz) (xe:Qb0):Cx:={ X with pn:=pn,xe:=xe }
theorem Cx.Ok.try_ {X:Cx}(ok:X.Ok) (pn:Qbz) (xe:Qb0):(XT X pn xe).Ok:=
 ⟨ok.mod,ok.kind,ok.glob,ok.blt,ok.above,ok.inj,ok.has,ok.cab,ok.hd,ok.frames,ok.stk,ok.exf,ok.bs,ok.bsz,ok.noex,ok.exfs,ok.funs,ok.frf⟩
section
variable {X:Cx}{pins:Qbz}{Z:St}{H:Hp}{s:Shared}{a C:Addr}
theorem Inv.suite (I:Inv X pins Z H s) (e:Addr):Inv (XC X e) pins Z H s:=⟨I.ok.suite e,I.os,I.bare,I.base,I.loc,I.cell,I.free,I.freeC,I.pin,I.hok,I.len⟩
theorem Inv.unsuite {e:Addr}(ok:X.Ok) (I:Inv (XC X e) pins Z H s):Inv X pins Z H s:=⟨ok,I.os,I.bare,I.base,I.loc,I.cell,I.free,I.freeC,I.pin,I.hok,I.len⟩
theorem Inv.into {xe:Qb0}(I:Inv X pins Z H s):Inv (XT X (X.pn++pins) xe) [] Z H s:=⟨I.ok.try_ _ _,I.os,I.bare,I.base,I.loc,I.cell,I.free,I.freeC,λp hp=>I.pin p (by simpa using hp),I.hok,I.len⟩
theorem Inv.outof {xe:Qb0}{pins1:Qbz}(ok:X.Ok) (I:Inv (XT X (X.pn++pins) xe) pins1 Z H s):Inv X pins Z H s:=⟨ok,I.os,I.bare,I.base,I.loc,I.cell,I.free,I.freeC,λp hp=>I.pin p<|Wb8 _ hp,I.hok,I.len⟩
theorem Inv.gone {M:Model}{A:Around}{E:Qb0}{i:Nat}{x:Str}{pos:Pos}{Q:Unit->Shared->Prop}(I:Inv X pins Z H s) (hN:X.N.Nodup) (hi:X.N[i]?=some x) (hk:X.env.scope.names.lookup x=some .local)
  (h:∀s',Inv X pins (Z.set i none) H s' -> Q () s'):wpAny M A (do bindName X.env x .none;unbindBehindTheSuite X.env x pos) Q E s:=by
 obtain⟨m,hn,hl⟩:=id I.loc;have hcls:(X.env.scope.kind == .class || (X.env.scope.kind == .module && X.env.locals != X.env.globals))=false:=by rw[I.ok.kind];rfl
 refine wpAny_nameGoes_keeps (show X.env.kindOf x=some .local from hk) hn hcls λh' v hn' hs=>h _ ?_;have cne:=I.cne;obtain⟨oL,_,_,hoL,_⟩:=id hn;have ltL:∀b o,X.s₀.heap.get? b=some o->b≠X.env.locals:=λb o e=>Wa7<|Wa9 (War e) I.ok.above;refine⟨I.ok,I.os,I.bare,⟨λb o e n hb hx=>?_,λb o e n hb hx=>?_,I.base.free,λb o e hx=>?_,I.base.tups,I.base.frzs,I.base.tbls⟩,⟨_,hn',λj y v' e1 e2 e3=>?_⟩,λy c e=>?_,I.free,I.freeC,λp hp=>?_,λb u e=>?_,by simpa using I.len⟩
 ·exact(hs.2 b<|ltL b o e).trans (I.base.keep b o e n hb hx)
 ·obtain⟨sl,e1⟩:=I.base.slot b o e n hb hx
  exact⟨sl,(hs.2 b<|ltL b o e).trans e1⟩
 ·obtain⟨o',e1⟩:=I.base.there b o e hx
  exact⟨o',(hs.2 b<|ltL b o e).trans e1⟩
 ·have hj:j≠i:=by
   intro z;subst z;rw[Wcx]at e2;split at e2
   ·split at e2 <;> cases e2
   ·rename_i z;exact z rfl
  rw[Wan (Ne.symm hj)]at e2;obtain⟨u',r',q⟩:=hl j y v' e1 e2 e3;refine⟨u',r',?_⟩;rcases q with ⟨k,e⟩|⟨k,c,e,z⟩
  ·refine .inl ⟨k,?_⟩
   have hy:y≠x:=λe=>hj<|Zhh hN e1 (e ▸ hi);show (if y=x then v else m y)=_;rw[Qbv hy];exact e
  ·exact .inr ⟨k,c,e,z.sameBut hs<|cne y c e⟩
 ·obtain⟨w',z⟩:=I.cell y c e
  exact⟨w',z.sameBut hs<|cne y c e⟩
 ·obtain⟨e,n,ne,nf,d⟩:=I.pin p hp
  exact⟨(hs.2 p.1 ne).trans e,n,ne,nf,d⟩
 ·refine(I.hok b u e).stay (λc w' hc q=>(hs.2 c ?_).trans q) (λ_ q=>q) λ_ _ q=>q
  rintro rfl;rcases hc with rfl|hc
  ·rw[I.free]at e;cases e
  ·rw[I.free]at hc;cases hc
end
def PF (X:Cx) (e:Expr) (n:Nat):Prop:=
 ∀(pins:Qbz) (s:Shared) (Z:St) (H:Hp) (Q:Qb0),Inv X pins Z H s->(∀(x:Str) (tk:Tok) s',x.length<=n->Inv X pins Z H s' -> Q (.str x tk) s')->wpAny (model X.prog X.w) X.A (eval e X.env) Q X.xe s
def PFs (X:Cx) (es:List Expr) (n:Nat):Prop:=
 ∀(pins:Qbz) (s:Shared) (Z:St) (H:Hp) (acc:Str) (Q:Str->Shared->Prop),Inv X pins Z H s->acc.length+n<=sizeLine->(∀(x:Str) s',x.length<=acc.length+n->Inv X pins Z H s' -> Q x s')->Joins (model X.prog X.w) X.A X.xe (evalEach es X.env) acc Q s
def tSome:TE:=λ_ H Q=>∀x:Str,Q (.str x) H
section
variable {X:Cx}{x:Str}{j:Option Str}{p pos:Pos}{n m:Nat}{e:Expr}{es:List Expr}{v1 v2:Expr}
theorem Zog {j} (h:x.length<=n:=by decide):PF X (.Constant (.str x) j pos) n:=λ_ s Z H Q I q=>Calls.Constant_str<|q x _ _ h<|I.tok _
theorem Zrz {i:Int}{tk:Tok}(hg:Gl X x) (hm:X.mg x=some (.int i tk)) (hz:i.natAbs.log2<1920:=by decide) (hl:(Str.ofString<|toString i).length<=n:=by decide +kernel) (hd:(x == ("__debug__":Str))=false:=by decide):PF X (.FormattedValue (.Name x p) (-1) none pos) n:=λ_ s Z H Q I q=>
 wpAny_FormattedValue_plain (Zc5 I hg hm (wpAny_formatField_int hz<|q _ _ _ hl<|I.tok _) hd)
theorem Zn2:PFs X [] 0:=λ_ s Z H acc Q I z q=>q acc s (Waj _) I
theorem Zec (h:PF X e n) (hs:PFs X es m):PFs X (e::es) (n+m):=λpins s Z H acc Q I z q=>by
 show wpAny _ _ (eval e X.env) _ _ s;refine h pins s Z H _ I λy tk s' hy I'=>⟨y,tk,rfl,?_,hs pins s' Z H _ Q I' ?_ λw s2 hw I2=>q w s2 ?_ I2⟩
 ·rw[Str.length_append];omega
 ·rw[Str.length_append];omega
 ·rw[Str.length_append]at hw;omega
theorem Zo2 (h:PFs X (v1::v2::es) n) (hn:n<=sizeLine:=by decide):PE X (.JoinedStr (v1::v2::es) pos) tSome:=λpins s Z H Q I q=>
 wpAny_JoinedStr (h pins s Z H Str.empty _ I (by show 0+n<=sizeLine;omega) λy s' hy I'=>⟨by have:Str.empty.length=0:=rfl;omega,.str y,H,I'.tok _,⟨_,rfl⟩,q y⟩)
end
structure CalleeX (P:Program) (w:World) (K:W.Frag) (mg:Str->Option Value) (base:Heap) (k:Nat) (x:Str) (ps:List Str) (sp:Sp):Prop where
 ex:∃(f:Addr) (fd:FuncData),FnOk P w K mg base (CXE P w) k f fd ps sp/\Binds K fd ps []/\W.keepIn K (.ref f)=true/\mg x=some (.ref f)
section
variable {X:Cx}{k:Nat}{x:Str}{ps:List Str}{sp:Sp}{e:Expr}{es:List Expr}{t:TA}{p pos:Pos}{E:XK}
theorem Zsd (C:CalleeX X.prog X.w X.K X.mg X.base k x ps sp) (hr:Room k X.A) (hx:Passes (CXE X.prog X.w) X E) (ha:PA X (e::es) t) (hg:Gl X x:=by rfl) (hdb:(x == ("__debug__":Str))=false:=by decide)
  (he:starEach (e::es) X.env=(false,eval e X.env)::starEach es X.env:=by rfl) (hpl:(backTo pos<|starEach es X.env).any (·.1)=false:=by rfl):PE X (.Call (.Name x p) (e::es) [] pos) (tCall sp [] E t):=by
 obtain⟨f,fd,F,b,kp,m⟩:=C.ex;exact Znb F hr hg m kp b .nil hx ha hdb he hpl
end
section
variable {P:Program}{w:World}{K:W.Frag}{mg:Str->Option Value}{base:Heap}
theorem Fun.okX {x qual:Str}{st:Stmt}{f:Addr}{fd:FuncData}{N ps:List Str}{k:Nat}{sp:Sp}(F:Fun K x qual st f fd) (S:FnScope N ps (defScope st)) (len:∀vs H Q E,sp vs H Q E->vs.length=ps.length)
  (hbody:∀(cdv:Value) (A:Around) (outer:List Env) (s:Shared) (H:Hp) (vs:List V) (Q:VK) (E:XK),Room k (A.deeper (envOfC qual (defScope st) s.heap.objs.size f cdv))->sp vs H Q E ->
   ∃t,PSs (cxOf (CXE P w) P w K mg base N qual (defScope st) f cdv A outer s H E) (defBody st) t/\t { nx:=λ_ H'=>Q .non H',rt:=Q } (start N vs) H):FnOk P w K mg base (CXE P w) (k+1) f fd ps sp:=by
 obtain⟨oc,od,kV,doc,pm,an,cdv,ct,osl,rfl,lk,hcd⟩:=F.ex;exact Zut lk hcd S len λA outer s H vs Q E hr hsp=>hbody cdv A outer s H vs Q E hr hsp
end
def EW (E:XK) (Xp:Addr->Prop) (g:Gm):Prop:=∀C H',(∀b o,¬ g.B b->g.Hz b=some o->H' b=some o)->(∀b,g.B b->H' b≠none)->Same g.F H' -> (∀b o,g.Xo b=some o->H' b=some o)->Xp C->E (.ref C) none H'
def JX (K:W.Frag) (E:XK) (Xp:Addr->Prop) (t:TS) (O:Evt) (P:Pst):Prop:=∀g G H Z D,EW E Xp g->Ok K g G H Z O -> SCont K g P D->t D Z H
abbrev XSp:=List D->(D->Prop)->(Addr->Prop)->Prop
def spX (K:W.Frag) (f:XSp):Sp:=λvs H Q E=>∃F ds Post Xp,Same F H/\Reps K F vs ds/\f ds Post Xp/\(∀r H' d,Same H H' -> Rep K (glue F H H') r d->Post d->Q r H')/\∀C H',Same H H' -> Xp C->E (.ref C) none H'
section
variable {K:W.Frag}{O:Evt}{E:XK}{Xp:Addr->Prop}{nx bk ct:Evt->Prop}{rt:D->Evt->Prop}{ro:OD->Evt->Prop}
theorem EW.at {g:Gm}{G H H':Hp}{Z:St}{C:Addr}(w:EW E Xp g) (k:Ok K g G H Z O) (s:Same H H') (x:Xp C):E (.ref C) none H':=
 w C H' (λb o hb e=>s b o (k.same b o hb e)) (λb hb z=>by
  cases q:H b with
  |none=>exact k.lent b hb q
  |some o=>rw[s b o q]at z;cases z) (λb o e=>s b o (k.live b o (k.sub b o e))) (λb o e=>s b o (k.ext b o e).1) x
theorem Zo4 {f:XSp}{n:Nat}(h:∀ds Post Xp,f ds Post Xp->ds.length=n):∀vs H Q E,spX K f vs H Q E->vs.length=n:=λvs H Q E hq=>by
 obtain⟨F,ds,Post,Xp,l,rs,hf,q⟩:=hq;rw[rs.length];exact h ds Post Xp hf
theorem Zv3 {f:XSp}{t:TS}{N:List Str}{vs:List V}{H:Hp}{Q:VK}(ht:∀ds Post Xp,f ds Post Xp->ds.length<=N.length/\JX K E Xp t (startD N ds) ⟨λ_=>Post .non,λd _=>Post d,λ_=>False,λ_=>False,λ_ _=>False⟩) (h:spX K f vs H Q E) :
  t { nx:=λ_ H'=>Q .non H',rt:=Q } (start N vs) H:=by
 obtain⟨F,ds,Post,Xp,l,rs,hf,q,x⟩:=h;obtain⟨hl,hj⟩:=ht ds Post Xp hf;have fin:∀{v:V}{d:D}{Z:St}{G H':Hp}{O:Evt},Ok K ⟨λ_=>False,F,H,λ_=>none⟩ G H' Z O -> Rep K G v d->Post d->Q v H':=λ{v d Z G H' O} k r p=>by
  refine q v H' d (λb o e=>k.same b o (λz=>z) e) (r.mono λb o e=>?_) p;obtain⟨e1,e2⟩:=k.frz b o e;rcases e2 with z|z
  ·rw[Zdl z];exact e1
  ·rw[Zcz (l b o z)];exact z
 refine hj ⟨λ_=>False,F,H,λ_=>none⟩ F H (start N vs) _ (λC H' h1 _ _ _ xc=>x C H' (λb o e=>h1 b o (λz=>z) e) xc) (Zeg rs hl (λ_ _ _ e=>e) (λ_ z=>z.elim) (Same.refl _) (λb o e=>⟨l b o e,.inr e⟩) λ_=>rfl) ⟨λZ G H' O k p=>fin k .non p,λv d Z G H' O k r p=>fin k r p,λ_ _ _ _ _ z=>z.elim,λ_ _ _ _ _ z=>z.elim,λ_ _ _ _ _ _ _ _ z=>z.elim⟩
theorem Zx0 {t:TS}{P:Pst}(h:JS K t O P):JX K E Xp t O P:=λg G H Z D _ k c=>h g G H Z D k c
theorem Zj4 {t u:TS}(h:JX K E Xp t O ⟨λO1=>JX K E Xp u O1 ⟨nx,rt,bk,ct,ro⟩,rt,bk,ct,ro⟩):JX K E Xp (tSeq t u) O ⟨nx,rt,bk,ct,ro⟩:=λg G H Z D w k c=>
 h g G H Z _ w k ⟨λZ1 G1 H1 O1 k1 p1=>p1 g G1 H1 Z1 D w k1 c,c.rt,c.bk,c.ct,c.ro⟩
theorem Zrk {c:TT}{t u:TS}{P:Pst}(h:JT K c O λb O1=>if b=true then JX K E Xp t O1 P else JX K E Xp u O1 P):JX K E Xp (tIfS c t u) O P:=λg G H Z D w k q=>
 h g G H Z _ k λb G1 H1 O1 k1 s1 p1=>by
  cases b with
  |true=>exact(show JX K E Xp t O1 P from p1) g G1 H1 Z D w k1 q
  |false=>exact(show JX K E Xp u O1 P from p1) g G1 H1 Z D w k1 q
theorem Zhf {P:Pst}(p:P.nx O):JX K E Xp tNext O P:=Zx0<|Zjn p
theorem Zdz {C:Addr}{ta:TA}{P:Pst}(h:JA K ta O λds O1=>ds.length<=sizeLine/\Xp C):JX K E Xp (tRaise C E ta) O P:=λg G H Z D w k q=>
 h g G H Z _ k λvs ds G1 H1 O1 k1 s1 r1 ⟨z,x⟩=>⟨by rw[r1.length];exact z,w.at k1 (Same.refl _) x⟩
def JEX (K:W.Frag) (E:XK) (Xp:Addr->Prop) (t:TE) (O:Evt) (P:D->Evt->Prop):Prop:=∀g G H Z Q,EW E Xp g->Ok K g G H Z O -> Cont K g G Z P Q->t Z H Q
theorem Zsh {t:TE}{P:D->Evt->Prop}(h:JE K t O P):JEX K E Xp t O P:=λg G H Z Q _ k c=>h g G H Z Q k c
theorem Zkh {f:XSp}{ta:TA}{P:D->Evt->Prop}(h:JA K ta O λds O1=>f ds (λd=>P d O1) Xp):JEX K E Xp (tCall (spX K f) [] E ta) O P:=λg G H Z Q w k c=>
 h g G H Z _ k λvs ds G1 H1 O1 k1 s1 r1 p1=>by
  show spX K f (vs++[]) H1 Q E;rw[Wbg];refine⟨G1,ds,_,_,k1.live,r1,p1,λr H' d sh rr pd=>?_,λC H' sh x=>w.at k1 sh x⟩;have sg:=Zd2 (H':=H') k1.live;exact c r d _ H' O1 (k1.grow sg sh (Zes k1.live λb o _ e=>sh b o e)) (s1.trans sg) rr pd
theorem Zm8 {te:TE}{P:Pst}(h:JEX K E Xp te O P.rt):JX K E Xp (tRet te) O P:=λg G H Z D w k c=>
 h g G H Z _ w k λv d G1 H1 O1 k1 s1 r1 p1=>c.rt v d Z G1 H1 O1 k1 r1 p1
theorem Znm {P:D->Evt->Prop}(p:∀x:Str,P (.str x) O):JE K tSome O P:=λg G H Z Q k c x=>c _ _ G H O k (Same.refl _) (.str x)<|p x
theorem Ok.unset {g:Gm}{G H:Hp}{Z:St}(k:Ok K g G H Z O) (i:Nat):Ok K g G H (Z.set i none) (O.set i .any):=by
 have ne:∀(j:Nat) x,(O.set i .any)[j]?=some x->x≠.any->j≠i /\ O[j]?=some x/\(Z.set i none)[j]? = Z[j]?:=λj x e h=>by
  by_cases hj:j=i
  ·subst hj
   rw[Wcx]at e;split at e
   ·split at e
    ·cases e;exact absurd rfl h
    ·cases e
   ·rename_i z;exact absurd rfl z
  ·rw[Wan (Ne.symm hj)]at e
   exact⟨hj,e,Wan<|Ne.symm hj⟩
 have od:∀(x:Slot) o,x.od=some o->x≠.any:=λx o e z=>by subst z;cases e
 refine⟨k.same,k.lent,k.sub,k.frz,λb o e=>?_,by simp[k.len],λj d e=>?_,λj x o e1 e2=>?_,λj l x y o o' a e1 e2 e3 e4 e5 e6=>?_⟩
 ·obtain⟨h1,h2,h3⟩:=k.ext b o e
  refine⟨h1,h2,λj x o e1 e2=>?_⟩;obtain⟨_,q1,q2⟩:=ne j x e1<|od x o e2;rw[q2];exact h3 j x o q1 e2
 ·obtain⟨_,q1,q2⟩:=ne j _ e (by intro z;cases z)
  rw[q2];exact k.val j d q1
 ·obtain⟨_,q1,q2⟩:=ne j x e1 (od x o e2)
  rw[q2];exact k.own j x o q1 e2
 ·obtain⟨_,q1,q2⟩:=ne j x e1 (od x o e2)
  obtain⟨_,q3,q4⟩:=ne l y e3<|od y o' e4;rw[q2]at e5;rw[q4]at e6;exact k.dis j l x y o o' a q1 e2 q3 e4 e5 e6
theorem Zwm {a:Addr}{P:D->Evt->Prop}(p:P (.adr a) O):JE K (tC (.ref a)) O P:=λg G H Z Q k c=>c _ _ G H O k (Same.refl _) (.adr a) p
end
theorem Zcq {K:W.Frag}{C c:Addr}{b:Bool}(h1:PySem.W.isClsIn K c=true) (h2:PySem.W.typeIn K (.ref c)=some (.type "type")) (h3:PySem.W.subIn K (.ref C) (.ref c)=some b) (h4:(C == c)=true->b=true):PySem.W.kitOne K (.ref C) (.ref c)=some b:=by
 unfold PySem.W.kitOne PySem.W.kitCls;by_cases e:(Value.ref C == Value.ref c)=true
 ·rw[Qbw e]
  have e':C=c:=Value.ref.inj<|beq_iff_eq.mp e;rw[h4 (by rw[e'];exact beq_self_eq_true c)]
 ·rw[Qbv e]
  have h1:(PySem.W.clsIn K c).isSome=true:=h1;simp only[h1,h2,beq_self_eq_true,Wdv,if_true,h3]
open PySem PySem.Spec PyProof.Rows PySem.SeqAt
theorem Zcf {A:Around}{s:Shared}{x:V}{v u:Value}(h:flatV x=true) (rv:RelV x v) (ru:RelV x u):EqAt A s v u true:=by
 cases x with
 |non=>cases (show v=Value.none from rv);cases (show u=Value.none from ru);exact EqAt.same _
 |bl b=>cases (show v=Value.bool b from rv);cases (show u=Value.bool b from ru);exact EqAt.same _
 |int i=>
  obtain⟨t,rfl⟩:=rv;obtain⟨t',rfl⟩:=ru;have:=EqAt.int_int (A:=A) (s:=s) i t i t'
  rwa [beq_self_eq_true]at this
 |str i=>
  obtain⟨t,rfl⟩:=rv;obtain⟨t',rfl⟩:=ru;have:=EqAt.str_str (A:=A) (s:=s) i t i t'
  rwa [beq_self_eq_true]at this
 |_=>cases h
section
variable {K:W.Frag}{O:Evt}{P:D->Evt->Prop}
def flatE:D->Bool
 |.non=>true
 |.bl _=>true
 |.int _=>true
 |.str _=>true
 |_=>false
end
theorem Zg9:bootBuiltins "ValueError" = some (.type "ValueError"):=by decide +kernel
theorem Zsv {K:W.Frag}{C:Addr}{n:String}{b:Bool}(hm:PySem.W.kitMeta n=true) (h:PySem.W.subIn K (.ref C) (.type n)=some b):PySem.W.kitOne K (.ref C) (.type n)=some b:=by
 unfold PySem.W.kitOne PySem.W.kitCls;have e:¬ (Value.ref C == Value.type n)=true:=λz=>by cases beq_iff_eq.mp z
 rw[Qbv e];simp only[hm,if_true,h]
theorem Zhp:entryFor table "proto.unchain" = some Builtin.«proto.unchain»:=entryFor_of_tree (by kernel_rfl)
section
variable {prog:Program}{w:World}{A:Around}{E:Qb0}{s:Shared}
theorem raiseH {α:Type}{a e:Addr}{oa oe:Obj}{va ve:Array Value}{Q:α -> Shared->Prop}(hh:A.handled=some (.ref a)) (hne:a≠e) (ha:s.heap.get? a=some oa) (hda:oa.data=.fields va) (h2:va[2]?=some .none)
  (he:s.heap.get? e=some oe) (hde:oe.data=.fields ve) (hsz:2<ve.size) (h:E (.ref e) { s with heap:=s.heap.update e (Obj.mapFields (·.setIfInBounds 2 (.ref a))) }):wpAny (model prog w) A (raiseNew (.ref e):Sem α) Q E s:=by
 unfold raiseNew;refine Qbn<|wpAny_handled ?_;rw[hh];dsimp only;have hn:(Value.ref a != Value.ref e)=true:=by
  rw[bne_iff_ne];intro z;exact hne<|Value.ref.inj z
 rw[Qbw hn];refine Qbn<|Qbq<|wpAny_runValue<|codeAny_builtin Zhp ?_;unfold Builtin.«proto.unchain»;dsimp only;refine Qbn<|wpAny_field ha hda h2 ?_;rw[Qbw (show (Value.none == Value.none)=true from rfl)];refine Qbo ?_;show wpAny _ _ (updateField e 2 (.ref a) >>= _) _ _ s;unfold updateField;refine Qbn<|Qbn<|wpAny_load he ?_;rw[hde];dsimp only;rw[Qbw hsz];exact wpAny_update he<|wpAny_throw h
theorem Zl0 {a it:Addr}{oa:Obj}{va:Array Value}{x left step:Int}{Q:Option Value->Shared->Prop}(hh:A.handled=some (.ref a)) (ha:s.heap.get? a=some oa) (hda:oa.data=.fields va) (h2:va[2]?=some .none) (hit:IsRangeIter s.heap it x left step) (hleft:left<=0)
  (hQ:∀h',Heap.ExtBut it s.heap h' -> Q none { s with heap:=h' }):wpAny (model prog w) A (pyNext (.ref it)) Q E s:=by
 have hT:s.TypeIs (.ref it) "range_iterator":=⟨_,hit,rfl⟩;unfold pyNext;refine Qbn<|Qbs<|wpAny_callSpecial?_slot (name:=Str.ofString "__next__") hT F.slot_range_iterator_next<|wpAny_call_entry F.slot_range_iterator_next hT F.entry_range_iterator_next ?_<|F.args_range_iterator_next_1 _;show wpAny _ _ (field (.ref it) 0 >>= _) _ _ s;refine Qbn<|wpAny_field hit rfl (x:=rawInt x) rfl ?_;show wpAny _ _ (field (.ref it) 1 >>= _) _ _ s;refine Qbn<|wpAny_field hit rfl (x:=rawInt left) rfl ?_;show wpAny _ _ (field (.ref it) 2 >>= _) _ _ s;refine Qbn<|wpAny_field hit rfl (x:=rawInt step) rfl ?_;show wpAny _ _ (if left<=0 then _ else _) _ _ s;rw[Qbw hleft];refine Qbn<|Qbt<|Qbn ?_;show wpAny _ _ (newExc (.type "StopIteration") [] >>= _) _ _ _;refine Qbn ?_;simp only[newExc,newTuple];refine Qbn<|wpAny_newObj_type ?_ (by size_fits);refine Qbn (m:=firstArgMember _ _)<|wpAny_of_eq (a:=Value.none) (by first|rfl|(simp only[firstArgMember];rfl))<|wpAny_newObj_type ?_ (by size_fits);have lt:=War ha;have nb:∀b o,s.heap.get? b=some o->s.heap.objs.size+1≠b:=λb o e=>Wcr<|Wcy<|War e;refine raiseH (a:=a) (A:=A.in1) hh (Ne.symm ?_) (Wac _<|Wac _ ha) hda h2 (Wam _ rfl) rfl (by rw[Array.size_append];exact Wa9 (show 2<6 by decide)<|Nat.le_add_right _ _) ?_
 ·rw[Wbr];exact nb a oa ha
 ·refine Qbn (wpAny_isInstance (T:="StopIteration") (b:=true) ⟨_,Wbi _ (Wam _ rfl) rfl,rfl⟩ isSubtype_stop ?_)
  refine Qbo (hQ _ λb o hb e=>?_);rw[Wba _ _ (by rw[Wbr];exact nb b o e)];exact Wac _<|Wac _ e
end
abbrev TurnH (xa:Addr):=TurnG λX=>X.A.handled=some (.ref xa)
abbrev PIEH (xa:Addr):=PIEG λX=>X.A.handled=some (.ref xa)
abbrev PIH (xa:Addr):=PIG λX=>X.A.handled=some (.ref xa)
section
variable {X:Cx}{xa:Addr}{tg:Expr}
theorem Zm1 {elt tg iter:Expr}{ifs:List Expr}{scope:Scope}{pos:Pos}{fvs:List Str}{sel:List Nat}{wi:TI}{g:TG}{tc:TT}{te:TE}(tgs:List Str) (S:CompSc X.env.scope X.N scope fvs sel) (hc:X.A.handled=some (.ref xa))
  (hi:PIH xa X tg iter wi) (hg:∀C s H ex pn,PG (compCx X scope (tgs++fvs) C s H ex pn) tg g) (ht:∀C s H ex pn,PTs (compCx X scope (tgs++fvs) C s H ex pn) ifs tc) (he:∀C s H ex pn,PE (compCx X scope (tgs++fvs) C s H ex pn) elt te)
  (hs:∀x,foldedSetIterable iter X.env x=pure x:=by intro _;rfl) :
  PE X (.ListComp elt [⟨tg,iter,ifs,0⟩] scope pos) (tComp tgs.length sel wi g tc te):=by
 intro pins s Z H Q I h;rw[eval_ListComp];refine wpAny_comprehension_free (use:=none) rfl hs (Zb7<|Zdf S I.ok) S.kind S.names (thn (hi pins s Z H _ I h) λv s1 h1=>thn h1 λitv s2 h2=>?_);refine Zft (Cm:=λX=>X.A.handled=some (.ref xa)) S (λ_ _ _ _ _=>hc) hg ht he (RR:=λacc C=>compPost (model X.prog X.w) X.A X.xe none (EP X pins Z Q) acc C) (Q:=Q) h2 ?_;intro s' C acc H' m hn _ hI q;exact⟨m,hn,λh' sb=>⟨.ref acc,H',hI h' sb,rfl,q⟩⟩
end
section
variable {X:Cx}
def CDivB (i j:Int):Prop:=0<j/\j<=100000000000000000000000000000000000000000000000000000000000
theorem Zhg:OpR X (binaryOp .FloorDiv) (rI CDivB λi j=>.int<|i / j):=opI λi j _ _ _ _ _ hc q=>by
 have h1:(0:Int)<j:=hc.1;have h2:=hc.2;refine floordiv_int (by omega) (by rw[Int.fdiv_eq_ediv_of_nonneg i (by omega)];exact q) (.inl<|PyProof.noPylong_of_log2 ?_);have h3:j.natAbs<=100000000000000000000000000000000000000000000000000000000000:=by omega
 have h4:j.natAbs<2 ^ 200:=Wcd h3 (by decide);exact Nat.lt_trans ((Nat.log2_lt<|by omega).2 h4) (by decide)
end
section
variable {K:W.Frag}{O:Evt}{E:XK}{Xp:Addr->Prop}{P:D->Evt->Prop}
end
def keyPd:Key->PyData
 |.inl i=>.int i
 |.inr x=>.str x
mutual
def D.pd:D->PyData
 |.non=>.none
 |.bl b=>.bool b
 |.int i=>.int i
 |.str x=>.str x
 |.tup ds=>.tuple (D.pds ds)
 |.lst ds=>.list (D.pds ds)
 |.dct ks ds=>.dict ((ks.map keyPd).zip (D.pds ds))
 |_=>.none
def D.pds:List D->List PyData
 |[]=>[]
 |d::ds=>D.pd d::D.pds ds
end
section
variable {X:Cx}
end
def PV (K:W.Frag) (te:TE) (O:Evt) (d:D):Prop:=∀P:D->Evt->Prop,P d O -> JE K te O P
def PVs (K:W.Frag) (ta:TA) (O:Evt) (ds:List D):Prop:=∀P:List D->Evt->Prop,P ds O -> JA K ta O P
def PR2 (K:W.Frag) (r:R2) (d e:D) (O:Evt) (x:D):Prop:=∀P:D->Evt->Prop,P x O -> JR2 K r d e O P
section
variable {K:W.Frag}{O:Evt}
theorem Zlk {te:TE}{d:D}{P:D->Evt->Prop}(h:PV K te O d) (p:P d O):JE K te O P:=h P p
theorem Zxd {ta:TA}{ds:List D}{P:List D->Evt->Prop}(h:PVs K ta O ds) (p:P ds O):JA K ta O P:=h P p
theorem Zdd {i:Nat}{d:D}(h:O[i]?=some (.val d)):PV K (tVar i) O d:=λP p=>Zac h p
theorem Zdy {i:Int}:PV K (tC (.int i)) O (.int i):=λP p=>Zaj p
theorem Zsw:PVs K tNil O []:=λP p=>Zae p
theorem Zke {ta:TE}{tr:TA}{d:D}{ds:List D}(h:PV K ta O d) (t:PVs K tr O ds):PVs K (tCons ta tr) O (d::ds):=λP p=>Zab<|h _<|t _ p
theorem Zd6 {r:R2}{ta tb:TE}{d e x:D}(a:PV K ta O d) (b:PV K tb O e) (h:PR2 K r d e O x):PV K (tOp r ta tb) O x:=λP p=>Zak<|a _<|b _<|h P p
theorem Zw7 {ds:List D}{i:Int}{d:D}(h:atI ds i=some d):PR2 K (rIxU K) (.tup ds) (.int i) O d:=λP p=>Zbv h p
theorem Zvu {ds:List D}{i:Int}{d:D}(h:atI ds i=some d):PR2 K (rIxU K) (.lst ds) (.int i) O d:=λP p=>Zaz h p
theorem Zjc {i j:Int}:PR2 K (rAddU K) (.int i) (.int j) O (.int<|i+j):=λP p=>Zch p
theorem Zxx {f:Int->Int->Int}{i j:Int}:PR2 K (rI0 λi j=>.int<|f i j) (.int i) (.int j) O (.int<|f i j):=λP p=>Zn6 p
theorem pr_I {C:Int->Int->Prop}{f:Int->Int->Int}{i j:Int}(hc:C i j):PR2 K (rI C λi j=>.int<|f i j) (.int i) (.int j) O (.int<|f i j):=λP p=>jr_I hc p
theorem Znr {ta tb:TE}{ds:List D}{i:Int}{d:D}(a:PV K ta O (.tup ds)) (b:PV K tb O (.int i)) (h:atI ds i=some d):PV K (tOp (rIxU K) ta tb) O d:=Zd6 a b<|Zw7 h
theorem Zv8 {ta tb:TE}{ds:List D}{i:Int}{d:D}(a:PV K ta O (.lst ds)) (b:PV K tb O (.int i)) (h:atI ds i=some d):PV K (tOp (rIxU K) ta tb) O d:=Zd6 a b<|Zvu h
theorem Zse {n:Nat}{ds:List D}{i:Int}{d:D}(hx:O[n]?=some (.val (.tup ds))) (h:atI ds i=some d):PV K (tOp (rIxU K) (tVar n)<|tC (.int i)) O d:=Znr (Zdd hx) Zdy h
theorem Zua {ta:TE}{ds:List D}(a:PV K ta O (.tup ds)):PV K (tCB (rLenU K)<|tCons ta tNil) O (.int ds.length):=λP p=>Zay<|Zab<|a _<|Zae<|Zbe (.inr rfl) p
end
open PySem PySem.Spec PyProof.Rows PySem.SeqAt
def Sm:Nat->D->Bool
 |0,d=>flatE d
 |n+1,d=>match d with
  |.lst ds=>ds.all (Sm n)
  |.tup ds=>ds.all (Sm n)
  |d=>flatE d
section
variable {X:Cx}
theorem Zdh:∀(n:Nat) {A:Around}{pins:Qbz}{Z:St}{H G:Hp}{s:Shared}{x y:V}{v u:Value}{d:D},Inv X pins Z H s->Same G H->Rep X.K G x d->Rep X.K G y d->RelV x v->RelV y u->Sm n d=true->A.units+n<cLine->EqAt A s v u true
 |0,A,pins,Z,H,G,s,x,y,v,u,d,I,sg,rx,ry,rv,ru,h,hu=>by
  cases d with
  |non=>cases rx;cases ry;exact Zcf rfl rv ru
  |bl _=>cases rx;cases ry;exact Zcf rfl rv ru
  |int _=>cases rx;cases ry;exact Zcf rfl rv ru
  |str _=>cases rx;cases ry;exact Zcf rfl rv ru
  |_=>exact nomatch h
 |n+1,A,pins,Z,H,G,s,x,y,v,u,d,I,sg,rx,ry,rv,ru,h,hu=>by
  cases d with
  |non=>cases rx;cases ry;exact Zcf rfl rv ru
  |bl _=>cases rx;cases ry;exact Zcf rfl rv ru
  |int _=>cases rx;cases ry;exact Zcf rfl rv ru
  |str _=>cases rx;cases ry;exact Zcf rfl rv ru
  |lst ds=>
   cases rx with
   |@lst a vs _ ha ra=>
    cases ry with
    |@lst b us _ hb rb=>
     cases rv;cases ru;obtain⟨its,w1,pl,_⟩:=I.list<|SqL.of<|sg _ _ ha;obtain⟨its2,w2,pl2,_⟩:=I.list<|SqL.of<|sg _ _ hb;have l1:=w1.length;have l2:=w2.length;have l3:=ra.length;have l4:=rb.length;have h:ds.all (Sm n)=true:=h;by_cases hab:a=b
     ·subst hab;exact EqAt.same _
     ·refine .of_refs hab ?_
      have z:=RcAt.lists (A:=A) (s:=s) (e:=λ_=>true) pl.isList pl2.isList (by rw[Wae,Wae];omega) (by omega) λj h1 h2=>by
       have h1':j<its.length:=by simpa using h1
       have h2':j<its2.length:=by simpa using h2
       have hx:j<ds.length:=by omega
       obtain⟨p,hp1,hp2⟩:=ra.get<|Wab hx;obtain⟨q,hq1,hq2⟩:=rb.get<|Wab hx;obtain⟨va,hv1,hv2⟩:=w1.get hp1;obtain⟨vb,hw1,hw2⟩:=w2.get hq1;rw[Wab h1']at hv1;rw[Wab h2']at hw1;rw[Wbh,Wbh,Waw.inj hv1,Waw.inj hw1];exact Zdh n I sg hp2 hq2 hv2 hw2 (Wa4.mp h _<|Wbd hx) (by show A.units+1+n<cLine;omega)
      rw[Wa4.mpr (λ_ _=>rfl)]at z;exact z
  |tup ds=>
   cases rx with
   |@tup a vs _ ha ra=>
    cases ry with
    |@tup b us _ hb rb=>
     cases rv;cases ru;obtain⟨its,w1,pl,_⟩:=I.tuple<|SqT.of<|sg _ _ ha;obtain⟨its2,w2,pl2,_⟩:=I.tuple<|SqT.of<|sg _ _ hb;have l1:=w1.length;have l2:=w2.length;have l3:=ra.length;have l4:=rb.length;have h:ds.all (Sm n)=true:=h;by_cases hab:a=b
     ·subst hab;exact EqAt.same _
     ·refine .of_refs hab ?_
      have z:=RcAt.tuples (A:=A) (s:=s) (e:=λ_=>true) pl pl2 (by omega) λj h1 h2=>by
       have h1':j<its.length:=by simpa using h1
       have h2':j<its2.length:=by simpa using h2
       have hx:j<ds.length:=by omega
       obtain⟨p,hp1,hp2⟩:=ra.get<|Wab hx;obtain⟨q,hq1,hq2⟩:=rb.get<|Wab hx;obtain⟨va,hv1,hv2⟩:=w1.get hp1;obtain⟨vb,hw1,hw2⟩:=w2.get hq1;rw[Wab h1']at hv1;rw[Wab h2']at hw1;rw[Wbh,Wbh,Waw.inj hv1,Waw.inj hw1];exact Zdh n I sg hp2 hq2 hv2 hw2 (Wa4.mp h _<|Wbd hx) (by show A.units+1+n<cLine;omega)
      rw[Wa4.mpr (λ_ _=>rfl),show (its.toArray.size == its2.toArray.size)=true by rw[Wae,Wae];exact beq_iff_eq.mpr (by omega),Wdv]at z;exact z
  |_=>exact nomatch h
def rNeSm (K:W.Frag):R2:=λx y H Q=>Q (.bl false) H/\∃(G:Hp) (n:Nat) (a b:Addr) (xs ys:List V) (ds:List D),Same G H/\Reps K G xs ds/\Reps K G ys ds/\ds.all (Sm n)=true/\n<=5/\x=.ref a/\y=.ref b/\SqL K H a xs/\SqL K H b ys
theorem neSmK (K:W.Frag) (hv:X.A.units+8<cLine) (hK:X.K=K:=by rfl):OpR X (compareOp .NotEq) (rNeSm K):=by
 subst hK;intro pins s Z H x y v u Q I rx ry h;obtain⟨q,G,n,a,b,xs,ys,ds,sg,ra,rb,hd,hn,rfl,rfl,h1,h2⟩:=h;cases rx;cases ry;obtain⟨its,w1,p1,_⟩:=I.list h1;obtain⟨its2,w2,p2,_⟩:=I.list h2;have l1:=w1.length;have l2:=w2.length;have l3:=ra.length;have l4:=rb.length;refine RcNeAt.lists (A:=X.A) (s:=s) (e:=λ_=>true) p1.isList p2.isList (by rw[Wae,Wae];omega) (by omega) (λj h1 h2=>?_) X.prog X.w _ _ ?_
 ·have h1':j<its.length:=by simpa using h1
  have h2':j<its2.length:=by simpa using h2
  have hx:j<ds.length:=by omega
  obtain⟨p,hp1,hp2⟩:=ra.get<|Wab hx;obtain⟨q,hq1,hq2⟩:=rb.get<|Wab hx;obtain⟨va,hv1,hv2⟩:=w1.get hp1;obtain⟨vb,hw1,hw2⟩:=w2.get hq1;rw[Wab h1']at hv1;rw[Wab h2']at hw1;rw[Wbh,Wbh,Waw.inj hv1,Waw.inj hw1];exact Zdh n I sg hp2 hq2 hv2 hw2 (Wa4.mp hd _<|Wbd hx) (by show X.A.units+1+n<cLine;omega)
 ·rw[Wa4.mpr (λ_ _=>rfl)]
  exact⟨.bl false,H,I,rfl,q⟩
end
def rEqL0 (K:W.Frag):R2:=λx y H Q=>∃(a b:Addr) (xs:List V),x=.ref a/\y=.ref b/\SqL K H a xs/\SqL K H b []/\Q (.bl xs.isEmpty) H
theorem eqL0K {X:Cx}(K:W.Frag) (hu:X.A.units+1<cLine) (hK:X.K=K:=by rfl):OpR X (compareOp .Eq) (rEqL0 K):=by
 subst hK;intro pins s Z H x y v u Q I rx ry h;obtain⟨a,b,xs,rfl,rfl,h1,h2,q⟩:=h;cases rx;cases ry;obtain⟨its,w1,p1,_⟩:=I.list h1;obtain⟨its2,w2,p2,_⟩:=I.list h2;cases w2;cases w1 with
 |nil=>exact RcAt.lists (A:=X.A) (s:=s) (e:=λ_=>true) p1.isList p2.isList rfl (by omega) (λj _ z=>absurd z (by simp)) X.prog X.w _ _ ⟨.bl _,H,I,rfl,q⟩
 |cons r t=>exact RcAt.lists_lengths (A:=X.A) (s:=s) p1.isList p2.isList (by simp) (by omega) X.prog X.w _ _ ⟨.bl _,H,I,rfl,q⟩
theorem Zoo {K:W.Frag}{O:Evt}{P:D->Evt->Prop}{ds:List D}(p:P (.bl ds.isEmpty) O):JR2 K (rEqL0 K) (.lst ds) (.lst []) O P:=λg G H Z Q x y k rx ry c=>by
 obtain⟨_,_,rfl,ha,ra⟩:=rx.inv;obtain⟨_,_,rfl,hb,rb⟩:=ry.inv;cases rb.inv;refine⟨_,_,_,rfl,rfl,SqL.of<|k.live _ _ ha,SqL.of<|k.live _ _ hb,?_⟩;rw[ra.isEmpty];exact c _ _ G H O k (Same.refl _) (.bl _) p
open PySem PySem.Spec PyProof.Rows PySem.SeqAt
section
variable {X:Cx}
def tAppL (te:TE) (D:Addr):TB:=λZ H N=>te Z H λy H1=>∃ys,H1 D=some (.lst ys)/\ys.length<sizeLine/\N Z (upd H1 D (.lst<|ys++[y]))
def tCompG (n:Nat) (sel:List Nat) (wi1:TI) (g1:TG) (ho:HO) (tem:Addr->TB):TE:=λZ H Q=>wi1 Z H λJ H1=>∀acc,H1 acc=none->LoopR g1 (tem acc) (λ_ H'=>Q (.ref acc) H') (compSt n sel Z) J (upd H1 acc ho)
end
section
variable {K:W.Frag}{O:Evt}
def gInO (G H:Hp) (acc:Addr) (o:HO):Gm:=⟨λ_=>False,G,H,λb=>if b=acc then some o else none⟩
theorem Zhl {G H:Hp}{acc:Addr}{u:HO}{G' H':Hp}{Z:St}{O:Evt}(k:Ok K (gInO G H acc u) G' H' Z O):H' acc=some u/\G' acc=none/\∀(i:Nat) x od,O[i]?=some x->x.od=some od -> Z[i]?≠some (some (.ref acc)):=
 k.ext acc u (by show (if acc=acc then _ else _)=_;rw[Qbw rfl])
theorem Zpn {G H:Hp}{acc:Addr}{u u':HO}{G' H':Hp}{Z:St}{O:Evt}(hH:H acc=none) (k:Ok K (gInO G H acc u) G' H' Z O):Ok K (gInO G H acc u') G' (upd H' acc u') Z O:=by
 obtain⟨w1,w2,w3⟩:=Zhl k;have ne:∀{b:Addr}{o:HO},G' b=some o->b≠acc:=λ{b o} e z=>by subst z;rw[w2]at e;cases e
 refine⟨λb o hb e=>?_,λb hb=>hb.elim,k.sub,λb o e=>?_,λb o e=>?_,k.len,k.val,λi x od e1 e2=>?_,k.dis⟩
 ·have hb':b≠acc:=by intro z;subst z;have e:H b=some o:=e;rw[hH]at e;cases e
  rw[Zal hb'];exact k.same b o (λz=>z) e
 ·rw[Zal (ne e)];exact k.frz b o e
 ·have e:(if b=acc then some u' else none)=some o:=e
  by_cases hb:b=acc
  ·rw[Qbw hb]at e;cases e;subst hb
   exact⟨Zan,w2,w3⟩
  ·rw[Qbv hb]at e;cases e
 ·obtain⟨a,o,h1,h2,h3,h4,h5⟩:=k.own i x od e1 e2
  have hb:a≠acc:=by intro z;subst z;exact w3 i x od e1 e2 h1
  exact⟨a,o,h1,by rw[Zal hb];exact h2,h3,h4,h5⟩
end
section
variable {K:W.Frag}{O:Evt}{nx bk ct:Evt->Prop}{rt:D->Evt->Prop}{ro:OD->Evt->Prop}
end
section
variable {K:W.Frag}{O:Evt}{P:D->Evt->Prop}
theorem Zkg {G:Hp}:∀{kvs:List (Key × V)}{kds:List (Key × D)},Paired (λ(p:Key × V) (q:Key × D)=>p.1=q.1/\Rep K G p.2 q.2) kvs kds->(kds.map (·.1)).zip (kvs.map (·.2))=kvs/\Reps K G (kvs.map (·.2)) (kds.map (·.2))
 |_,_,.nil=>⟨rfl,.nil⟩
 | (k1,v1)::kvs,(k2,d2)::kds,.cons ⟨e,r⟩ t=>by
  have e:k1=k2:=e;subst e;obtain⟨h1,h2⟩:=Zkg t;refine⟨?_,.cons r h2⟩;show (k1,v1)::(kds.map (·.1)).zip (kvs.map (·.2))=_;rw[h1]
theorem Zkf {G:Hp}:∀{ks:List Key}{vs:List V}{ds:List D},ks.length=vs.length->Reps K G vs ds->Paired (λ(p:Key × V) (q:Key × D)=>p.1=q.1/\Rep K G p.2 q.2) (ks.zip vs) (ks.zip ds)
 |[],_,_,_,_=>.nil
 |_::_,_,_,l,.nil=>by cases l
 |k::ks,_,_,l,.cons r rs=>.cons ⟨rfl,r⟩ (Zkf (Nat.succ.inj l) rs)
theorem Zpj (kds:List (Key × D)):(kds.map (·.1)).zip (kds.map (·.2))=kds:=by
 induction kds with
 |nil=>rfl
 |cons a t ih=>rw[Wa3,Wa3,Wc3,ih]
theorem Ok.freezeD {g:Gm}{G H:Hp}{Z:St}(k:Ok K g G H Z O) {a:Addr}{kds:List (Key × D)}{kvs:List (Key × V)}(p:Pend K g G H Z O a (.dct kds)) (hv:H a=some (.dK kvs)):Ok K g (upd G a (.dK kvs)) H Z O /\ Same G (upd G a (.dK kvs))/\Rep K (upd G a (.dK kvs)) (.ref a) (.dct (kds.map (·.1))<|kds.map (·.2)):=by
 obtain⟨o,p1,p2,p3,p4,p5,p6⟩:=p;rw[hv]at p1;cases p1;obtain⟨r1,r2⟩:=Zkg (K:=K) p2;have sg:Same G (upd G a (.dK kvs)):=λb u e=>by rw[Zal (Zam e p3)];exact e
 refine⟨⟨k.same,k.lent,k.sub.trans sg,λb u e=>?_,λb u e=>?_,k.len,λj d h=>?_,λj x od e1 e2=>?_,k.dis⟩,sg,.dct (vs:=kvs.map (·.2)) (by rw[r1];exact Zan) (by rw[Waa,Waa];exact(Paired.length p2).symm)<|r2.mono sg⟩
 ·by_cases hb:b=a
  ·subst hb;rw[Zan]at e;cases e;exact⟨hv,.inl p4⟩
  ·rw[Zal hb]at e;exact k.frz b u e
 ·obtain⟨h1,h2,h3⟩:=k.ext b u e
  have hb:b≠a:=by intro z;subst z;rw[p5]at e;cases e
  exact⟨h1,by rw[Zal hb];exact h2,h3⟩
 ·obtain⟨v,h1,h2⟩:=k.val j d h
  exact⟨v,h1,h2.mono sg⟩
 ·obtain⟨c,o,w1,w2,w3,w4,w5⟩:=k.own j x od e1 e2
  have hc:c≠a:=by intro z;subst z;exact p6 j x od e1 e2 w1
  exact⟨c,o,w1,w2,w3.mono sg,by rw[Zal hc];exact w4,w5⟩
def dctD (kds:List (Key × D)):D:=.dct (kds.map (·.1))<|kds.map (·.2)
end
end L2
set_option Elab.async false
set_option linter.all false
set_option maxRecDepth 100000
namespace HT
open PySem PyProof.Rows
end HT
namespace L2
open PySem PySem.Spec PyProof.Rows
section
variable {K:W.Frag}{O:Evt}{P:D->Evt->Prop}
end
section
variable {prog:Program}{w:World}{A:Around}{R:Result->Shared->Prop}{I:Addr}{fp wr:List Addr}{G:Array GenState->Array GenState->Prop}{n:Nat}{P:Nat->Value->Prop}{St:Nat->Shared->Prop}{K:Type}[DecidableEq K] {knd:KeyKind prog w K}
end
section
variable {X:Cx}
end
section
variable {prog:Program}{w:World}{A:Around}{E:Qb0}{s:Shared}
end
section
variable {K:W.Frag}{O:Evt}{P:D->Evt->Prop}
def onlyV:Slot->Slot
 |.val d=>.val d
 |_=>.any
theorem Zfa {x:Slot}:(onlyV x).od=none:=by cases x <;> rfl
theorem Ok.peek {g:Gm}{G H:Hp}{Z:St}(k:Ok K g G H Z O) {i:Nat}{x:Slot}{ds:List D}(h:O[i]?=some x) (ho:x.od=some (.lst ds)) :
  ∃(g':Gm) (G':Hp),Ok K g' G' H Z ((O.map onlyV).set i (.val (.lst ds)))/\Same G G' /\ ∀G2 H2 O2,Ok K g' G2 H2 Z O2->Ok K g G H2 Z O:=by
 obtain⟨a,o,w1,w2,w3,w4,w5⟩:=k.own i x _ h ho;cases o with
 |lst vs=>
  have sg:Same G (upd G a (.lst vs)):=λb u e=>by rw[Zal (Zam e w4)];exact e
  have hlt:i<(O.map onlyV).length:=by rw[Waa];exact(Wah.mp h).1
  refine⟨⟨λ_=>False,upd G a (.lst vs),H,λ_=>none⟩,upd G a (.lst vs),⟨λb o _ e=>e,λb z=>z.elim,λb o e=>e,λb o e=>?_,λb o e=>(by cases e),?_,λj d e=>?_,λj y od e1 e2=>?_,λj l y z od od' b e1 e2 e3 e4=>?_⟩,sg,λG2 H2 O2 k2=>?_⟩
  ·refine⟨?_,.inr e⟩
   by_cases hb:b=a
   ·subst hb;rw[Zan]at e;cases e;exact w2
   ·rw[Zal hb]at e;exact k.live b o e
  ·rw[Wbs,Waa];exact k.len
  ·by_cases hj:j=i
   ·subst hj
    rw[Wak hlt]at e;cases e;exact⟨.ref a,w1,.lst Zan<|Reps.mono sg w3⟩
   ·rw[Wan (Ne.symm hj),Waf]at e
    cases z:O[j]? with
    |none=>rw[z]at e;cases e
    |some y=>
     rw[z]at e;cases y with
     |val d'=>
      have e:Slot.val d'=Slot.val d:=Waw.inj e;cases e;obtain⟨v,q1,q2⟩:=k.val j d z;exact⟨v,q1,q2.mono sg⟩
     |_=>cases e
  ·exfalso
   by_cases hj:j=i
   ·subst hj
    rw[Wak hlt]at e1;cases e1;cases e2
   ·rw[Wan (Ne.symm hj),Waf]at e1
    cases z:O[j]? with
    |none=>rw[z]at e1;cases e1
    |some y=>
     rw[z]at e1;have e1:onlyV y=_:=Waw.inj e1;rw[<- e1,Zfa]at e2;cases e2
  ·exfalso
   by_cases hj:j=i
   ·subst hj
    rw[Wak hlt]at e1;cases e1;cases e2
   ·rw[Wan (Ne.symm hj),Waf]at e1
    cases z:O[j]? with
    |none=>rw[z]at e1;cases e1
    |some y=>
     rw[z]at e1;have e1:onlyV y=_:=Waw.inj e1;rw[<- e1,Zfa]at e2;cases e2
  ·have kp:∀b o,H b=some o->H2 b=some o:=λb o e=>k2.same b o (λz=>z) e
   refine⟨λb o n e=>kp b o<|k.same b o n e,λb n z=>?_,k.sub,λb o e=>⟨kp b o (k.frz b o e).1,(k.frz b o e).2⟩,λb o e=>?_,k.len,k.val,λj y od e1 e2=>?_,k.dis⟩
   ·cases e:H b with
    |none=>exact k.lent b n e
    |some o=>rw[kp b o e]at z;cases z
   ·obtain⟨q1,q2,q3⟩:=k.ext b o e
    exact⟨kp b o q1,q2,q3⟩
   ·obtain⟨b,o,q1,q2,q3⟩:=k.own j y od e1 e2
    exact⟨b,o,q1,kp b o q2,q3⟩
 |_=>exact absurd w3 (λz=>z)
def plnD:D->Prop
 |.int _=>True
 |.bl _=>True
 |.non=>True
 |.str _=>True
 |_=>False
theorem Zna {G G':Hp}{v:V}{d:D}(h:plnD d) (r:Rep K G v d):Rep K G' v d:=by
 cases d with
 |int i=>cases r.inv;exact .int i
 |bl b=>cases r.inv;exact .bl b
 |non=>cases r.inv;exact .non
 |str x=>cases r.inv;exact .str x
 |_=>exact h.elim
theorem Ztm {i:Nat}{x:Slot}{ds:List D}{t:TT}{Pb:Bool->Evt->Prop}(h:O[i]?=some x) (ho:x.od=some (.lst ds)) (p:JT K t ((O.map onlyV).set i (.val (.lst ds))) λb _=>Pb b O):JT K t O Pb:=λg G H Z Q k c=>by
 obtain⟨g',G',k',_,back⟩:=k.peek h ho;exact p g' G' H Z Q k' λb G2 H2 O2 k2 _ q=>c b G H2 O (back G2 H2 O2 k2) (Same.refl _) q
theorem Zuq {i:Nat}{x:Slot}{ds:List D}{t:TE}(h:O[i]?=some x) (ho:x.od=some (.lst ds)) (p:JE K t ((O.map onlyV).set i (.val (.lst ds))) λd _=>plnD d/\P d O):JE K t O P:=λg G H Z Q k c=>by
 obtain⟨g',G',k',_,back⟩:=k.peek h ho;exact p g' G' H Z Q k' λv d G2 H2 O2 k2 _ r q=>c v d G H2 O (back G2 H2 O2 k2) (Same.refl _) (Zna q.1 r) q.2
end
def rNeL0 (K:W.Frag):R2:=λx y H Q=>∃(a b:Addr) (xs:List V),x=.ref a/\y=.ref b/\SqL K H a xs/\SqL K H b []/\Q (.bl (!xs.isEmpty)) H
theorem neL0K {X:Cx}(K:W.Frag) (hu:X.A.units+1<cLine) (hK:X.K=K:=by rfl):OpR X (compareOp .NotEq) (rNeL0 K):=by
 subst hK;intro pins s Z H x y v u Q I rx ry h;obtain⟨a,b,xs,rfl,rfl,h1,h2,q⟩:=h;cases rx;cases ry;obtain⟨its,w1,p1,_⟩:=I.list h1;obtain⟨its2,w2,p2,_⟩:=I.list h2;cases w2;cases w1 with
 |nil=>exact PySem.SeqAt.RcNeAt.lists (A:=X.A) (s:=s) (e:=λ_=>true) p1.isList p2.isList rfl (by omega) (λj _ z=>absurd z (by simp)) X.prog X.w _ _ ⟨.bl _,H,I,rfl,q⟩
 |cons r t=>exact PySem.SeqAt.RcNeAt.lists_lengths (A:=X.A) (s:=s) p1.isList p2.isList (by simp) (by omega) X.prog X.w _ _ ⟨.bl _,H,I,rfl,q⟩
section
variable {K:W.Frag}{O:Evt}{P:D->Evt->Prop}
theorem Zth {ds:List D}(p:P (.bl (!ds.isEmpty)) O):JR2 K (rNeL0 K) (.lst ds) (.lst []) O P:=λg G H Z Q x y k rx ry c=>by
 obtain⟨_,_,rfl,ha,ra⟩:=rx.inv;obtain⟨_,_,rfl,hb,rb⟩:=ry.inv;cases rb.inv;refine⟨_,_,_,rfl,rfl,SqL.of<|k.live _ _ ha,SqL.of<|k.live _ _ hb,?_⟩;rw[ra.isEmpty];exact c _ _ G H O k (Same.refl _) (.bl _) p
end
open PySem PySem.Spec PyProof.Rows PySem.SeqAt
section
variable {prog:Program}{w:World}{A:Around}{E:Qb0}{s:Shared}
end
section
variable {K:W.Frag}{O:Evt}
end
open PySem PySem.Spec PyProof.Rows PySem.SeqAt
section
open PySem.AutoSeq1 (wpAny_loadPart')
open PySem.MeetsSeq PySem.MeetsSeq2 PySem.MeetsSeq3
end
section
variable {prog:Program}{w:World}{A:Around}{R:Result->Shared->Prop}{I:Addr}{fp wr:List Addr}{n:Nat}{P:Nat->Value->Prop}{St:Nat->Heap->Prop}
end
end L2
namespace L2
open PySem PySem.Spec PyProof.Rows PySem.SeqAt
section
variable {K:W.Frag}{O:Evt}{P:D->Evt->Prop}
end
open PySem PySem.Spec PyProof.Rows PySem.SeqAt
section
variable {K:W.Frag}{O:Evt}{P:D->Evt->Prop}
theorem Zsj (p:P (.bl true) O):JR2 K (λx y H Q=>y=.non/\Q (.bl<|decide (x=.non)) H) .non .non O P:=λg G H Z Q u v k rx ry c=>by
 cases rx.inv;cases ry.inv;refine⟨rfl,?_⟩;rw[Qbx rfl];exact c _ _ G H O k (Same.refl _) (.bl true) p
theorem Zo9 {ds:List D}(p:P (.bl false) O):JR2 K (λx y H Q=>y=.non/\Q (.bl<|decide (x=.non)) H) (.tup ds) .non O P:=λg G H Z Q u v k rx ry c=>by
 obtain⟨a,vs,rfl,_,_⟩:=rx.inv;cases ry.inv;refine⟨rfl,?_⟩;rw[Qby (by intro z;cases z)];exact c _ _ G H O k (Same.refl _) (.bl _) p
end
open PySem PySem.Spec PyProof.Rows PySem.SeqAt
section
variable {X:Cx}
theorem Ze5:fillsNumberSlot (.type "tuple") "mul" = pure false:=
 PySem.fillsNumberSlot_seq (id:="tuple.__mul__") (r:=some (.builtin "tuple.__rmul__")) F.slot_tuple_mul.lookup (by decide +kernel) F.slot_tuple_rmul.lookup (by decide +kernel)
theorem Zil:seqRepeat? (.type "tuple")=pure (some (.builtin "tuple.__mul__")):=by
 unfold seqRepeat?;rw[PySem.seqSlot_of (T:="tuple") (name:="__mul__") (id:="tuple.__mul__") F.slot_tuple_mul.lookup (by decide +kernel),PySem.seqSlot_of (T:="tuple") (name:="__rmul__") (id:="tuple.__rmul__") F.slot_tuple_rmul.lookup (by decide +kernel)];rfl
theorem Zev (a:Int) (t:Tok) (l:Addr) (items:Array Value) (n:Nat) (d:Option Addr) (sl:Array (Option Value)) :
  Meets (Builtin.«int.__rmul__» ⟨[.int a t,.ref l],[]⟩) (λ_ R s=>s.heap.get? l=some { cls:=.type "tuple",dict:=d,data:=.seq items n,slots:=sl } /\ R (.ok (.ret Value.notImplemented)) s):=
 .of_wp λprog w A R s h=>by obtain⟨hp,g,d,tk,os⟩:=s;obtain⟨hl,h⟩:=h;wp_walk;exact⟨_,rfl,h⟩
end
open PySem PySem.Spec PyProof.Rows PySem.SeqAt
open PySem PySem.Spec PyProof.Rows PySem.SeqAt
section
variable {X:Cx}
end
section
variable {prog:Program}{w:World}{A:Around}{E:Qb0}{s:Shared}
end
section
variable {X:Cx}
theorem Zkc {u:V}{v:Value}(r:RelV u v):∀n,Vals (Wad n u) (Wad n v)
 |0=>.nil
 |n+1=>.cons r (Zkc r n)
end
section
variable {K:W.Frag}{O:Evt}{P:D->Evt->Prop}
theorem Zk2 {G:Hp}{v:V}{d:D}(r:Rep K G v d):∀n,Reps K G (Wad n v) (Wad n d)
 |0=>.nil
 |n+1=>.cons r (Zk2 r n)
theorem Zof {i:Nat}{ds:List D}{t:TS}{P:Pst}(h:O[i]?=some (.own (.lst ds))) (p:JS K t (O.set i (.val (.lst ds))) P):JS K t O P:=
 JS.conv (λg G H Z k=>by
  obtain⟨a,h1,pd⟩:=k.take h;obtain⟨o,q1,q2,_⟩:=id pd;cases o with
  |lst vs=>
   obtain⟨k2,sg,r⟩:=(k.drop i).freeze pd q1;have k3:=k2.setVal (i:=i) (by simpa using (Wah.mp h).1) r;have e1:Z.set i (some (.ref a)) = Z:=by
    apply Wby
    intro j;by_cases hj:j=i
    ·subst hj;rw[Wak (k.lt h),h1]
    ·rw[Wan (Ne.symm hj)]
   rw[e1,List.set_set]at k3;exact⟨_,sg,k3⟩
  |_=>exact absurd q2 (λz=>z)) p
end
open PySem PySem.Spec PyProof.Rows PySem.SeqAt
section
variable {prog:Program}{w:World}{A:Around}{E:Qb0}{s:Shared}
end
section
variable {K:W.Frag}{O:Evt}
end
section
variable {K:W.Frag}{O:Evt}{P:D->Evt->Prop}
end
section
variable {X:Cx}
end
def advM (m:Nat) (p:SetTable.Probe):SetTable.Probe:=
 if p.more > 0 then { p with j:=p.j+1,more:=p.more-1 } else
 let (i,perturb):=SetTable.leap m p.i p.perturb
 { p with j:=i,more:=SetTable.runEnd m i-i,i,perturb }
def prb (m:Nat) (h:Int):Nat->SetTable.Probe
 |0=>{ j:=SetTable.bits h % (m+1),more:=SetTable.runEnd m (SetTable.bits h % (m+1))-SetTable.bits h % (m+1),i:=SetTable.bits h % (m+1),perturb:=SetTable.bits h,dummy:=none }
 |n+1=>advM m (prb m h n)
def stp (m:Nat):Nat->Nat->Nat
 |0,i=>i
 |k+1,i=>(stp m k i*5+1) % (m+1)
def Cyc (m:Nat):Prop:=∀i j,i<=m->j<=m->∃k,k<=m/\stp m k i=j
def Rch (m:Nat) (pl:Nat->Prop) (h:Int) (j:Nat):Prop:=∃n,n<10*(m+15)/\(prb m h n).j=j/\∀n',n'<n->pl (prb m h n').j
structure STb (t:SetTable) (hs:List Int):Prop where
 dm:t.dummies = #[]
 cy:Cyc t.mask
 rs:Ris t.place
 sz:t.place.size=hs.length
 le:∀(i j:Nat),t.place[i]?=some j->j<=t.mask
 rc:∀(i j:Nat) (h:Int),t.place[i]?=some j->hs[i]?=some h->Rch t.mask (λx=>∃y:Nat,t.place[y]?=some x) h j
 ro:t.place.size<t.mask
def hashP (k:Int × Int):Int:=reduceHash<|Builtin.Tuple.tupleHashOf [hashInt k.1,hashInt k.2]
def SmP (k:Int × Int):Prop:=0<=k.1/\k.1<64/\0<=k.2/\k.2<2
def entP (hf:Int × Int->Int) (x:(Int × Int) × Addr):Int × Value:=(hf x.1,.ref x.2)
structure StG (hf:Int × Int->Int) (h:Heap) (a:Addr) (o:Obj) (es:Array (Int × Value)) (ep:Nat) (t:SetTable) (xs:List ((Int × Int) × Addr)):Prop where
 ob:h.get? a=some o
 ex:o.ExactSet
 da:o.data=.set es ep t
 el:es.toList.Perm (xs.map<|entP hf)
 tb:STb t (es.toList.map (·.1))
 nf:es.size*5<t.mask*3
 mks:t.mask=7\/t.mask=31\/t.mask=127\/t.mask=511
def PSt (hf:Int × Int->Int) (a:Addr) (xs:List ((Int × Int) × Addr)) (h:Heap):Prop:=∃o es ep t,StG hf h a o es ep t xs
section
variable {prog:Program}{w:World}{A:Around}{E:Qb0}{s:Shared}
variable {hf:Int × Int->Int}(hfi:∀{a b:Int × Int},SmP a->SmP b->hf a=hf b->a=b)
include hfi
end
def MemT (H:Hp) (xs:List ((Int × Int) × Addr)):Prop:=(xs.map (·.1)).Nodup/\∀x∈xs,SmP x.1/\H x.2=some (.tup [.int x.1.1,.int x.1.2])
section
variable {X:Cx}
variable {o e:Expr}{es:List Expr}{to:TE}{t:TA}{name:Str}{apos cpos:Pos}{id:String}{r:V->List V->Hp->VK->Prop}
end
def stR (ks:Qb1):Hp->(Heap->Prop)->Prop:=λG φ=>∃a xs,φ = PSt hashP a xs/\xs.map (·.1)=ks/\MemT G xs
def stO (ks:Qb1):OD:=.ext<|stR ks
end L2
namespace L2
open PySem PySem.Spec PyProof.Rows
open PySem PySem.Spec PyProof.Rows PySem.SeqAt
section
variable {X:Cx}
end
section
variable {K:W.Frag}{O:Evt}
theorem Zci {x y:Str}{P:D->Evt->Prop}(p:P (.bl<|decide (x=y)) O):JR2 K rEq (.str x) (.str y) O P:=λg G H Z Q v u k rx ry c=>by
 cases rx.inv;cases ry.inv;refine⟨rfl,?_⟩;rw[show decide (V.str x=V.str y)=decide (x=y) from decide_eq_decide.mpr ⟨λe=>V.str.inj e,λe=>by rw[e]⟩];exact c _ _ G H O k (Same.refl _) (.bl _) p
theorem Zuw {x y:Str}{P:D->Evt->Prop}(p:P (.bl (!decide (x=y))) O):JR2 K rNe (.str x) (.str y) O P:=λg G H Z Q v u k rx ry c=>by
 cases rx.inv;cases ry.inv;refine⟨rfl,?_⟩;rw[show decide (V.str x=V.str y)=decide (x=y) from decide_eq_decide.mpr ⟨λe=>V.str.inj e,λe=>by rw[e]⟩];exact c _ _ G H O k (Same.refl _) (.bl _) p
end
open PySem PySem.Spec PyProof.Rows PySem.SeqAt
section
variable {X:Cx}
def rSmT (K:W.Frag) (r:Bool):R2:=λx y H Q=>Q (.bl r) H/\∃(G:Hp) (n:Nat) (a b:Addr) (xs ys:List V) (ds:List D),Same G H/\Reps K G xs ds/\Reps K G ys ds/\ds.all (Sm n)=true/\n<=5/\x=.ref a/\y=.ref b/\SqT K H a xs/\SqT K H b ys
theorem eqSmTK (K:W.Frag) (hv:X.A.units+8<cLine) (hK:X.K=K:=by rfl):OpR X (compareOp .Eq) (rSmT K true):=by
 subst hK;intro pins s Z H x y v u Q I rx ry h;obtain⟨q,G,n,a,b,xs,ys,ds,sg,ra,rb,hd,hn,rfl,rfl,h1,h2⟩:=h;cases rx;cases ry;obtain⟨its,w1,p1,_⟩:=I.tuple h1;obtain⟨its2,w2,p2,_⟩:=I.tuple h2;have l1:=w1.length;have l2:=w2.length;have l3:=ra.length;have l4:=rb.length;have z:=RcAt.tuples (A:=X.A) (s:=s) (e:=λ_=>true) p1 p2 (by omega) λj h1 h2=>by
  have h1':j<its.length:=by simpa using h1
  have h2':j<its2.length:=by simpa using h2
  have hx:j<ds.length:=by omega
  obtain⟨p,hp1,hp2⟩:=ra.get<|Wab hx;obtain⟨q,hq1,hq2⟩:=rb.get<|Wab hx;obtain⟨va,hv1,hv2⟩:=w1.get hp1;obtain⟨vb,hw1,hw2⟩:=w2.get hq1;rw[Wab h1']at hv1;rw[Wab h2']at hw1;rw[Wbh,Wbh,Waw.inj hv1,Waw.inj hw1];exact Zdh n I sg hp2 hq2 hv2 hw2 (Wa4.mp hd _<|Wbd hx) (by show X.A.units+1+n<cLine;omega)
 rw[Wa4.mpr (λ_ _=>rfl),show (its.toArray.size == its2.toArray.size)=true by rw[Wae,Wae];exact beq_iff_eq.mpr (by omega),Wdv]at z;exact z X.prog X.w _ _ ⟨.bl _,H,I,rfl,q⟩
theorem neSmTK (K:W.Frag) (hv:X.A.units+8<cLine) (hK:X.K=K:=by rfl):OpR X (compareOp .NotEq) (rSmT K false):=by
 subst hK;intro pins s Z H x y v u Q I rx ry h;obtain⟨q,G,n,a,b,xs,ys,ds,sg,ra,rb,hd,hn,rfl,rfl,h1,h2⟩:=h;cases rx;cases ry;obtain⟨its,w1,p1,_⟩:=I.tuple h1;obtain⟨its2,w2,p2,_⟩:=I.tuple h2;have l1:=w1.length;have l2:=w2.length;have l3:=ra.length;have l4:=rb.length;have z:=RcNeAt.tuples (A:=X.A) (s:=s) (e:=λ_=>true) p1 p2 (by omega) λj h1 h2=>by
  have h1':j<its.length:=by simpa using h1
  have h2':j<its2.length:=by simpa using h2
  have hx:j<ds.length:=by omega
  obtain⟨p,hp1,hp2⟩:=ra.get<|Wab hx;obtain⟨q,hq1,hq2⟩:=rb.get<|Wab hx;obtain⟨va,hv1,hv2⟩:=w1.get hp1;obtain⟨vb,hw1,hw2⟩:=w2.get hq1;rw[Wab h1']at hv1;rw[Wab h2']at hw1;rw[Wbh,Wbh,Waw.inj hv1,Waw.inj hw1];exact Zdh n I sg hp2 hq2 hv2 hw2 (Wa4.mp hd _<|Wbd hx) (by show X.A.units+1+n<cLine;omega)
 rw[Wa4.mpr (λ_ _=>rfl),show (its.toArray.size == its2.toArray.size)=true by rw[Wae,Wae];exact beq_iff_eq.mpr (by omega),Wdv]at z;exact z X.prog X.w _ _ ⟨.bl _,H,I,rfl,q⟩
end
open PySem PySem.Spec PyProof.Rows PySem.SeqAt
section
variable {K:W.Frag}{O:Evt}{P:D->Evt->Prop}
end
open PySem PySem.Spec PyProof.Rows PySem.Builtin PySem.Builtin.Str
section
variable {X:Cx}
theorem Zin:∀l:List (PySem.Str × Tok),Vals ((l.map (·.1)).map V.str) (strValues l)
 |[]=>.nil
 |p::r=>.cons ⟨p.2,rfl⟩ (Zin r)
theorem Zli {x y:PySem.Str}(h:(y.length == 0)=false):(Txt.split x y).length<=x.length+2:=by
 unfold Txt.split;split
 ·show 1<=_;omega
 ·split
  ·show 1<=_;omega
  ·rw[length_partsBetween]
   have e1:=StrLaws.occ_length_le x y 0 x.length<|x.length+1;omega
def rSplit (K:W.Frag):V->List V->Hp->VK->Prop:=λx vs H Q=>∃z y,x=.str z/\vs=[.str y]/\(y.length == 0)=false/\z.length+2<=sizeLine/\∀l,H l=none->Q (.ref l) (upd H l (.lst ((Txt.split z y).map V.str)))
theorem splitK (K:W.Frag) (hK:X.K=K:=by rfl):MtM X "str.split" (rSplit K):=by
 subst hK;intro pins s Z H v vs w us Q I rx rv h;obtain⟨x,y,rfl,rfl,hy,hsz,q⟩:=h;obtain⟨t,rfl⟩:=rx;obtain⟨u0,rfl,u,rfl⟩:=rv.one;have hm:=Zli (x:=x) hy;have fin:∀(l:List (PySem.Str × Tok)) (k:Nat),l.map (·.1)=Txt.split x y->EP X pins Z Q (.ref s.heap.objs.size) { s with heap:=s.heap.push { cls:=.type "list",data:=.seq (strValues l).toArray },toks:=k }:=λl k e=>by
  have hv:=Zin l;rw[e]at hv;exact⟨.ref s.heap.objs.size,_,I.lnew hv (by rw[Waa];omega),rfl,q _ I.fresh⟩
 have hn:(partsBetween x (occurrences x y 0 x.length<|x.length+1) y.length).length<=sizeLine:=by
  have e1:=StrLaws.occ_length_le x y 0 x.length<|x.length+1;rw[length_partsBetween];omega
 cases h1:(decide (x.length<y.length) || decide (strKind x<strKind y))
 ·cases hf:(occurrences x y 0 x.length<|x.length+1).isEmpty
  ·refine call_meets F.slot_str_split (typeIs_str _ _ _) F.entry_str_split (F.args_str_split_2 _ _) (meets_str_split_sep x y t u h1 hy hf (by omega) hn) ?_
   show wants _ _ _ { s with toks:=_,heap:=s.heap.push { cls:=.type "list",data:=.seq (strsFrom s.toks<|partsBetween x (occurrences x y 0 x.length<|x.length+1) y.length).toArray } };rw[strsFrom_eq];exact fin (numbered s.toks _) _ ((numbered_texts _ _).trans ((Qbv<|ne_true_of_eq_false h1).trans (Qbv<|ne_true_of_eq_false hf)).symm)
  ·exact call_meets F.slot_str_split (typeIs_str _ _ _) F.entry_str_split (F.args_str_split_2 _ _) (meets_str_split_not_found x y t u h1 hy hf)<|fin [(x,t)] s.toks ((Qbv<|ne_true_of_eq_false h1).trans (Qbw hf)).symm
 ·exact call_meets F.slot_str_split (typeIs_str _ _ _) F.entry_str_split (F.args_str_split_2 _ _) (meets_str_split_cannot_occur x y t u h1)<|fin [(x,t)] s.toks (Qbw h1).symm
end
section
variable {K:W.Frag}{O:Evt}
theorem Reps.ofStrs {G:Hp}:∀zs:List PySem.Str,Reps K G (zs.map V.str) (zs.map D.str)
 |[]=>.nil
 |z::zs=>.cons (.str z) (Reps.ofStrs zs)
theorem Zc0 {to te:TE}{Po:OD->Evt->Prop}(h:JE K to O λd O1=>∃z,d=.str z/\JE K te O1 λe O2=>∃y,e=.str y/\(y.length == 0)=false/\z.length+2<=sizeLine/\Po (.lst ((Txt.split z y).map D.str)) O2) :
  JO K (tBM K "str" (rSplit K) to<|tCons te tNil) O Po:=λg G H Z Q k c=>
 h g G H Z _ k λv d G1 H1 O1 k1 s1 r1 hq_=>by
  obtain⟨z,e,p1⟩:=hq_;subst e;cases r1.inv;refine⟨rfl,p1 g G1 H1 Z _ k1 λu e G2 H2 O2 k2 s2 r2 ⟨y,e2,hy,hz,p⟩=>?_⟩;subst e2;cases r2.inv;refine⟨z,y,rfl,rfl,hy,hz,λl hl=>?_⟩;obtain⟨k3,pd⟩:=k2.fresh (od:=.lst ((Txt.split z y).map D.str)) hl (show OwnRep K G2 (.lst ((Txt.split z y).map V.str)) (.lst ((Txt.split z y).map D.str)) from Reps.ofStrs _);exact c l _ G2 _ O2 k3 (s1.trans s2) pd p
end
section
variable {K:W.Frag}{O:Evt}{P:D->Evt->Prop}
theorem Zvy {i j:PySem.Str}(p:P (.bl (!(Builtin.Str.occurrences j i 0 j.length 1).isEmpty)) O):JR2 K (λx y H Q=>∃i j,x=.str i/\y=.str j/\Q (.bl (!(Builtin.Str.occurrences j i 0 j.length 1).isEmpty)) H) (.str i) (.str j) O P:=λg G H Z Q v u k rx ry c=>by
 cases rx.inv;cases ry.inv;exact⟨i,j,rfl,rfl,c _ _ G H O k (Same.refl _) (.bl _) p⟩
end
section
variable {X:Cx}{tg:Expr}
def sgn (c:Nat):PySem.Str:=⟨#[c]⟩
def Its (x:PySem.Str):It:=⟨λi _=>i<x.cps.size,λi H v H'=>H'=H/\∃c,x.cps[i]?=some c/\v=.str (sgn c),λi _=>x.cps.size<=i⟩
theorem Zqs {P:Program}{w:World}{K:W.Frag}{tg:Expr}(it:Addr) (x:PySem.Str) (t:Tok):Turn P w K tg (Its x) [it] it (λi h=>h.IsStrIter it "str_ascii_iterator" x t i) where
 mem:=by simp
 obj:=λi h st b hb=>by
  have e:b=it:=by simpa using hb
  subst e;obtain⟨o,e,c,d⟩:=st;exact⟨o,e,λv z=>by rw[d]at z;cases z⟩
 keep:=λi h h' st k=>by
  obtain⟨o,e,r⟩:=st;exact⟨o,k it (by simp) o e,r⟩
 item:=by
  intro X hP hw hK hc i pins s Z H E I hf st hg;subst hP hw hK;obtain⟨f0,f1,f2,f3,f4,f5⟩:=hf it (by simp);have W:=Walks.strAscii (prog:=X.prog) (w:=X.w) (I.ok.hd hc) it x t;refine W.item i s _ _ hg st λv h' tk hv st' kk=>?_;obtain⟨c,u,hx,rfl⟩:=hv;have I1:Inv X pins Z H { s with heap:=h',toks:=tk }:=I.turned (λb o hb e=>kk b o (by simpa using hb) e) f0 f1 f3 f4 f5;obtain⟨o,e1,e2,e3⟩:=id st';exact⟨_,rfl,Znc (s:={ s with heap:=h',toks:=tk }) e1 e2 e3 (by decide) ⟨.str<|sgn c,H,I1,⟨u,rfl⟩,⟨rfl,c,hx,rfl⟩,st',λb hb=>(hf b hb).1⟩⟩
 done:=by
  intro X hP hw hK hc i pins s Z H E I hf st hg;subst hP hw hK;obtain⟨f0,f1,f2,f3,f4,f5⟩:=hf it (by simp);exact wpAny_pyNext_ascii_end (I.ok.hd hc) st (by have:x.cps.size<=i:=hg;simpa using this) λh' eb=>⟨rfl,I.turned (t':=s.toks) (λb o hb e=>eb b o hb e) f0 f1 f3 f4 f5⟩
 self:=λ_ _ _ _ _ st h=>wpAny_pyIter_striter_ascii st h
def iStr (tl:TE):TI:=λZ H R=>tl Z H λv H1=>∃x:PySem.Str,v=.str x/\x.cps.all (· < 128)=true/\R (Its x) H1
theorem Zr9 {l:Expr}{tl:TE}(hl:PE X l tl):PI X tg l (iStr tl):=by
 intro pins s Z H R I h;refine thn (hl pins s Z H _ I h) λv s1 ⟨y,H1,I1,r1,q1⟩=>?_;obtain⟨x,rfl,ha,q⟩:=q1;obtain⟨t,rfl⟩:=r1;refine wpAny_pyIter_ascii ha ?_;refine⟨s1.heap.objs.size,[s1.heap.objs.size],_,_,H1,rfl,I1.kept (t':=s1.toks) λb o e=>Wac _ e,Zqs _ x t,⟨_,Wam _ rfl,rfl,rfl⟩,λb hb=>?_,q⟩;have e:b=s1.heap.objs.size:=by simpa using hb
 subst e;exact I1.fpOk (Waj _)<|I1.hok.fresh<|Waj _
end
section
variable {K:W.Frag}{O:Evt}
theorem Zsi {tl:TE}{P:List D->Evt->Prop}(h:JE K tl O λd O1=>∃x:PySem.Str,d=.str x/\x.cps.all (· < 128)=true/\P (x.cps.toList.map λc=>D.str<|sgn c) O1):JI K (iStr tl) O P:=λg G H Z R k c=>
 h g G H Z _ k λv d G1 H1 O1 k1 s1 r1 hq_=>by
  obtain⟨x,e,ha,p1⟩:=hq_;subst e;cases r1.inv;refine⟨x,rfl,ha,c _ _ G1 H1 O1 k1 s1 (λG2 H2 sg sh=>⟨by show x.cps.size<=_;rw[Waa,Array.length_toList];exact Waj _,λi d e=>?_⟩) p1⟩;rw[Waf]at e;cases z:x.cps.toList[i]? with
  |none=>rw[z]at e;cases e
  |some cc=>
   rw[z]at e;have e:D.str (sgn cc)=d:=by simpa using e
   subst e;have hz:x.cps[i]?=some cc:=by rw[<- Array.getElem?_toList];exact z
   have hi:i<x.cps.size:=(Array.getElem?_eq_some_iff.mp hz).1;refine⟨hi,λy H3 ⟨e3,c3,h3,e4⟩=>⟨G2,Same.refl _,by rw[e3];exact Same.refl _,λb o q=>⟨by rw[e3];exact sh b o q,.inl q⟩,?_⟩⟩;rw[hz]at h3;cases h3;rw[e4];exact .str _
end
section
variable {K:W.Frag}{O:Evt}{P:D->Evt->Prop}
theorem Zhu {z:PySem.Str}(hz:z.length<=sizeLine) (p:P (.int z.length) O):JC K (λxs H Q=>∃z,xs=[.str z]/\z.length<=sizeLine/\Q (.int z.length) H) [.str z] O P:=λg G H Z Q vs k rs c=>by
 obtain⟨_,_,rfl,r,t⟩:=rs.inv;cases t.inv;cases r.inv;exact⟨z,rfl,hz,c _ _ G H O k (Same.refl _) (.int _) p⟩
theorem Zjw {z:PySem.Str}{i:Int}{c:Nat}(hz:z.length<=sizeLine) (h:atI z.cps.toList i=some c) (p:P (.str<|sgn c) O):JR2 K (rIxU K) (.str z) (.int i) O P:=λg G H Z Q x y k rx ry cc=>by
 cases rx.inv;cases ry.inv;exact .inl (.inr (.inr ⟨z,i,c,rfl,rfl,hz,h,cc _ _ G H O k (Same.refl _) (.str _) p⟩))
end
theorem Zj6 {α:Type}(v:α):∀(m:Nat) (acc:Array α),(Wad m #[v]).foldl (· ++ ·) acc=acc++(Wad m v).toArray
 |0,acc=>by simp
 |m+1,acc=>by
  rw[Wcn,List.foldl_cons,Zj6 v m,Wcn];apply Array.toList_inj.mp;simp
theorem Zhb (l:Addr) (v:Value) (k:Nat) (d:Option Addr) (sl:Array (Option Value)) (x:Int) (u:Tok) (h0:2<=x) (h1:x<=1000) :
  Meets (Builtin.«tuple.__mul__» ⟨[.ref l,.int x u],[]⟩) (λ_ R s=>s.heap.get? l=some { cls:=.type "tuple",dict:=d,data:=.seq #[v] k,slots:=sl } /\ R (.ok (.ret<|Value.ref s.heap.objs.size)) { s with heap:=s.heap.push { cls:=Value.type "tuple",data:=Data.seq (Wad x.toNat v).toArray } }):=
 .of_wp λprog w A R s h=>by
  obtain⟨hp,g,d,tk,os⟩:=s;obtain⟨hl,h⟩:=h;have e1:(decide (x < -(2 ^ 63:Int)) || decide (x >= 2 ^ 63))=false:=by rw[Bool.or_eq_false_iff];exact⟨Qby (by omega),Qby<|by omega⟩
  have e2:(x == 1)=false:=beq_eq_false_iff_ne.mpr (by omega);have e3:(decide (x<=0))=false:=Qby (by omega);have e4:((#[v]:Array Value).isEmpty || x == 1)=false:=by rw[e2];rfl
  have e5:(decide (x<=0) || (#[v]:Array Value).isEmpty)=false:=by rw[e3];rfl
  have e6:¬ ((#[v]:Array Value).size:Int)*x > (2 ^ 63-1) / 8:=by
   show ¬ ((1:Nat):Int)*x > (2 ^ 63-1) / 8;omega
  have e7:Builtin.Tuple.tupleTooMany (((#[v]:Array Value).size:Int)*x)=false:=by
   unfold Builtin.Tuple.tupleTooMany;show decide _=false;exact Qby (by show ¬ ((1:Nat):Int)*x > _;have:=sizeLine_eq;omega)
  wp_walk
  simp only[e1,Bool.false_eq_true,if_false]
  wp_walk
  rw[Qbv e6,e7,Qbv Wao,Zj6,Array.empty_append];have e8:¬ (Wad x.toNat v).toArray.size > sizeLine:=by
   rw[Wae,Wa5];have:=sizeLine_eq;omega
  wp_walk
  rw[Qbv e8]
  wp_walk
  exact⟨_,rfl,h⟩
theorem Ze6 (l:Addr) (v:Value) (n:Nat) (d:Option Addr) (sl:Array (Option Value)) (u:Tok) :
  Meets (Builtin.«tuple.__mul__» ⟨[.ref l,.int 1 u],[]⟩) (λ_ R s=>s.heap.get? l=some { cls:=.type "tuple",dict:=d,data:=.seq #[v] n,slots:=sl } /\ R (.ok (.ret<|Value.ref l)) s):=
 .of_wp λprog w A R s h=>by
  obtain⟨hp,g,d,tk,os⟩:=s;obtain⟨hl,h⟩:=h
  wp_walk
  exact⟨_,rfl,h⟩
theorem Ze7 (l:Addr) (v:Value) (n:Nat) (d:Option Addr) (sl:Array (Option Value)) (u:Tok) :
  Meets (Builtin.«tuple.__mul__» ⟨[.ref l,.int 0 u],[]⟩) (λ_ R s=>s.heap.get? l=some { cls:=.type "tuple",dict:=d,data:=.seq #[v] n,slots:=sl } /\ R (.ok (.ret<|Value.ref s.heap.objs.size)) { s with heap:=s.heap.push { cls:=Value.type "tuple",data:=Data.seq #[] } }):=
 .of_wp λprog w A R s h=>by
  obtain⟨hp,g,d,tk,os⟩:=s;obtain⟨hl,h⟩:=h
  wp_walk
  exact⟨_,rfl,h⟩
section
variable {X:Cx}
def rMulT (K:W.Frag):R2:=λx y H Q=>∃(a:Addr) (u:V) (n:Int),x=.ref a/\y=.int n/\0<=n/\n<=1000/\SqT K H a [u]/\(n=1->Q (.ref a) H)/\(n≠1->∀l,H l=none->Q (.ref l) (upd H l (.tup<|Wad n.toNat u)))
theorem Zm5 (K:W.Frag) (hK:X.K=K:=by rfl):OpR X (binaryOp .Mult) (rMulT K):=by
 subst hK;intro pins s Z H x y v u Q I rx ry h;obtain⟨a,z,m,rfl,rfl,h2,h3,ha,q1,q⟩:=h;cases rx;obtain⟨t,rfl⟩:=ry;obtain⟨its,r1,p1,_⟩:=I.tuple ha;obtain⟨⟨cls,dd,data,sl⟩,ho,hc,n,hd⟩:=id p1;simp only at hc hd;subst hc hd;obtain⟨v,rfl,rv⟩:=r1.one;refine wpAny_binaryOp_repeat_ref (T:="tuple") (U:="int") (by decide) ⟨_,ho,rfl⟩ (λs'=>typeIs_int s' m t) Ze5 F.fills_int_mul F.slot_int_rmul Zil F.slot_int_index.lookup
  (call_meets F.slot_int_rmul (typeIs_int s m t) F.entry_int_rmul (F.args_int_rmul_2 _ _) (Zev m t a [v].toArray n dd sl)
   ⟨ho,rfl,⟨_,ho,rfl⟩,?_⟩)
 by_cases e1:m=1
 ·subst e1
  exact call_meets F.slot_tuple_mul ⟨_,ho,rfl⟩ F.entry_tuple_mul (F.args_tuple_mul_2 _ _) (Ze6 a v n dd sl t) ⟨ho,⟨.ref a,H,I,rfl,q1 rfl⟩⟩
 have q:=q e1;have fin:EP X pins Z Q (.ref s.heap.objs.size) { s with heap:=s.heap.push { cls:=Value.type "tuple",data:=Data.seq (Wad m.toNat v).toArray } }:=by
  refine⟨.ref s.heap.objs.size,_,I.laid (t':=s.toks) (o:=.tup<|Wad m.toNat z) (λb ob q=>Wac _ q) (Waj _) ?_,rfl,q _<|I.hok.fresh<|Waj _⟩;exact⟨by rw[Wa5];have:=sizeLine_eq;omega,Wad m.toNat v,Zkc rv _,IsTupN.new _ _⟩
 by_cases e0:m=0
 ·subst e0
  exact call_meets F.slot_tuple_mul ⟨_,ho,rfl⟩ F.entry_tuple_mul (F.args_tuple_mul_2 _ _) (Ze7 a v n dd sl t) ⟨ho,fin⟩
 ·exact call_meets F.slot_tuple_mul ⟨_,ho,rfl⟩ F.entry_tuple_mul (F.args_tuple_mul_2 _ _) (Zhb a v n dd sl m t (by omega) h3) ⟨ho,fin⟩
end
section
variable {K:W.Frag}{O:Evt}{P:D->Evt->Prop}
theorem Zol {d:D}{n:Int}(h2:0<=n) (h3:n<=1000) (p:P (.tup<|Wad n.toNat d) O):JR2 K (rMulT K) (.tup [d]) (.int n) O P:=λg G H Z Q x y k rx ry c=>by
 cases ry.inv;obtain⟨a,us,rfl,ha,rs⟩:=rx.inv;obtain⟨u,t,rfl,r,tt⟩:=rs.inv;cases tt.inv;refine⟨a,u,n,rfl,rfl,h2,h3,SqT.of<|k.live _ _ ha,λe=>?_,λe l hl=>?_⟩
 ·subst e;exact c _ _ G H O k (Same.refl _) (.tup ha (.cons r .nil)) p
 obtain⟨k2,sg⟩:=k.laid hl (.tup<|Wad n.toNat u);exact c _ _ _ _ O k2 sg (.tup Zan<|Zk2 (r.mono sg) _) p
end
section
variable {prog:Program}{w:World}{A:Around}{E:Qb0}{s:Shared}
theorem Zqe {b:Bool}{e j a:Addr}{i:Nat}{m:Int}{ws:Array Value}{x old:Value}{Q:Option Value->Shared->Prop}(ge:IsEnum s.heap e j m old) (g:ItB b s.heap j a i) (l:HsB b s.heap a ws) (ex:ws[i]?=some x) (ne:e≠j)
  (q:∀h',IsEnumOut h' e j (m+1) x s.heap.objs.size->ItB b h' j a (i+1)->h'.get? s.heap.objs.size=some { cls:=.type "tuple",data:=.seq #[.int m s.toks,x] } ->
   (∀c o,c≠e->c≠j->s.heap.get? c=some o->h'.get? c=some o)->Q (some (.ref s.heap.objs.size)) { s with heap:=h',toks:=s.toks+1 }):wpAny (model prog w) A (pyNext (.ref e)) Q E s:=by
 obtain⟨hp,g0,d,tk,os⟩:=s;have ty:Shared.TypeIs ⟨hp,g0,d,tk,os⟩ (.ref e) "enumerate":=⟨_,ge,rfl⟩;unfold pyNext;refine Qbn<|Qbs<|wpAny_callSpecial?_slot (name:=Str.ofString "__next__") ty F.slot_enumerate_next<|wpAny_call_entry F.slot_enumerate_next ty F.entry_enumerate_next ?_<|F.args_enumerate_next_1 _;refine(show wpAny _ _ (field (.ref e) 2 >>= _) _ _ _ from Qbn (wpAny_field ge rfl (x:=.ref j) rfl<|Qbn (Zfu (b:=b) g l ex λh₁ g₁ s₁=>?_)))
 replace s₁:Heap.SameBut j hp h₁:=s₁
 have e₁:IsEnum h₁ e j m old:=(s₁.2 e ne).trans ge;refine(show wpAny _ _ (field (.ref e) 3 >>= _) _ _ ⟨h₁,g0,d,tk,os⟩ from Qbn (wpAny_field e₁ rfl (x:=rawInt m) rfl ?_));refine(show wpAny _ _ (field (.ref e) 4 >>= _) _ _ ⟨h₁,g0,d,tk,os⟩ from Qbn (wpAny_field e₁ rfl (x:=.none) rfl ?_));refine(show wpAny _ _ (mkInt m >>= _) _ _ ⟨h₁,g0,d,tk,os⟩ from Qbn (wpAny_mkInt ?_));refine(show wpAny _ _ (setField (.ref e) 3 (rawInt<|m+1) >>= _) _ _ ⟨h₁,g0,d,tk+1,os⟩ from Qbn (wpAny_setField_rec e₁ (by simp) λh₂ e₂ s₂=>?_))
 replace s₂:Heap.SameBut e h₁ h₂:=s₂
 replace e₂:IsEnum h₂ e j (m+1) old:=e₂
 refine(show wpAny _ _ (setField (.ref e) 4 .none >>= _) _ _ ⟨h₂,g0,d,tk+1,os⟩ from Qbn (wpAny_setField_rec e₂ (by simp) λh₃ e₃ s₃=>?_))
 replace s₃:Heap.SameBut e h₂ h₃:=s₃
 replace e₃:IsEnum h₃ e j (m+1) old:=e₃
 refine(show wpAny _ _ (newTuple [.int m tk,x] >>= _) _ _ ⟨h₃,g0,d,tk+1,os⟩ from Qbn (wpAny_newTuple ?_));have e₄:IsEnum (h₃.push { cls:=.type "tuple",data:=.seq #[.int m tk,x] }) e j (m+1) old:=Wac _ e₃;generalize eh₄:h₃.push { cls:=.type "tuple",data:=.seq #[.int m tk,x] } = h₄ at e₄;have n3:h₃.objs.size=hp.objs.size:=by rw[s₃.1,s₂.1,s₁.1]
 have el:e<hp.objs.size:=War ge;have t₄:h₄.get? hp.objs.size=some { cls:=.type "tuple",data:=.seq #[.int m tk,x] }:=by rw[<- eh₄,<- n3];exact Wam _ rfl
 have k₄:∀c o,c≠e->c≠j->hp.get? c=some o->h₄.get? c=some o:=λc o c1 c2 z=>by rw[<- eh₄];exact Wac _<|s₃.extBut c o c1<|s₂.extBut c o c1<|s₁.extBut c o c2 z
 have g₄:ItB b h₄ j a (i+1):=by rw[<- eh₄];exact((g₁.off s₂.extBut<|Ne.symm ne).off s₃.extBut (Ne.symm ne)).at λo z=>Wac _ z
 refine(show wpAny _ _ (Builtin.SmallTypes.ownedTupleIsFree (.ref e) >>= _) _ _ ⟨h₄,g0,d,tk+1,os⟩ from ?_);rw[n3];clear eh₄ e₃ s₃ e₂ s₂ e₁ s₁ g₁ n3 h₃ h₂ h₁;refine Qbn ?_;unfold Builtin.SmallTypes.ownedTupleIsFree;refine Qbn<|wpAny_field e₄ rfl (x:=.none) rfl<|Qbo ?_;simp only[if_true];refine Qbn<|Qbt<|Qbn<|wpAny_field e₄ rfl (x:=old) rfl<|Qbn (wpAny_setField_rec e₄ (by simp) λh₅ e₅ s₅=>?_)
 replace s₅:Heap.SameBut e h₄ h₅:=s₅
 replace e₅:IsEnum h₅ e j (m+1) x:=e₅
 refine(show wpAny _ _ (Builtin.SmallTypes.ownedTupleHandOut (.ref e) (.ref hp.objs.size) >>= _) _ _ ⟨h₅,g0,d,tk+1,os⟩ from Qbn ?_);unfold Builtin.SmallTypes.ownedTupleHandOut;refine Qbn (wpAny_setField_rec e₅ (by simp) λh₆ e₆ s₆=>?_)
 replace s₆:Heap.SameBut e h₅ h₆:=s₆
 replace e₆:IsEnumOut h₆ e j (m+1) x hp.objs.size:=e₆
 refine wpAny_setField_rec e₆ (by simp) λh₇ e₇ s₇=>?_
 replace s₇:Heap.SameBut e h₆ h₇:=s₇
 replace e₇:IsEnumOut h₇ e j (m+1) x hp.objs.size:=e₇
 have up:∀c o,c≠e->h₄.get? c=some o->h₇.get? c=some o:=λc o c1 z=>s₇.extBut c o c1<|s₆.extBut c o c1<|s₅.extBut c o c1 z;exact Qbn<|wpAny_letGo<|Qbo ⟨_,rfl,Qbo (q h₇ e₇ (g₄.at λo z=>up j o (Ne.symm ne) z) (up _ _ (Wcr el) t₄) λc o c1 c2 z=>up c o c1<|k₄ c o c1 c2 z)⟩
theorem Zup {b:Bool}{e j a:Addr}{i:Nat}{m:Int}{ws:Array Value}{old:Value}{Q:Option Value->Shared->Prop}(hh:A.handled=none) (ge:IsEnum s.heap e j m old) (g:ItB b s.heap j a i) (l:HsB b s.heap a ws) (ex:ws[i]?=none)
  (q:∀h',Heap.ExtBut j s.heap h' -> Q none { s with heap:=h' }):wpAny (model prog w) A (pyNext (.ref e)) Q E s:=by
 have ty:s.TypeIs (.ref e) "enumerate":=⟨_,ge,rfl⟩;unfold pyNext;refine Qbn<|Qbs<|wpAny_callSpecial?_slot (name:=Str.ofString "__next__") ty F.slot_enumerate_next<|wpAny_call_entry F.slot_enumerate_next ty F.entry_enumerate_next ?_<|F.args_enumerate_next_1 _;refine(show wpAny _ _ (field (.ref e) 2 >>= _) _ _ _ from Qbn (wpAny_field ge rfl (x:=.ref j) rfl<|Qbn (Zkx hh g l ex λh' x e' ⟨o,ho,hc⟩=>?_)));exact Qbn<|wpAny_isInstance (T:="StopIteration") (b:=true) ⟨o,ho,hc⟩ isSubtype_stop<|Qbo<|q _ e'
end
def IebS (m:Int) (b:Bool) (K:W.Frag) (l:Addr):It:=
 ⟨λi H=>∃xs x,SqB b K H l xs/\xs[i]?=some x,
  λi H v H'=>∃p x,H p=none/\v=.ref p/\H'=upd H p (.tup [.int (m+(i:Int)),x])/\∀xs,SqB b K H l xs->xs[i]?=some x,
  λi H=>∃xs,SqB b K H l xs/\xs.length<=i⟩
theorem Zpi {m:Int}{b:Bool}{P:Program}{w:World}{K:W.Frag}{es:List Expr}{kk:Nat}{tp:Pos}(l z j:Addr) (D:z≠j):Turn P w K (.Tuple es kk tp) (IebS m b K l) [z,j] z
  (λi h=>(∃old,IsEnum h z j (m+(i:Int)) old)/\ItB b h j l i) where
 mem:=by simp
 obj:=λi h st b2 hb=>by
  obtain⟨⟨old,hz⟩,h1⟩:=st;obtain⟨o1,e1,d1⟩:=h1.obj;simp only[Wai,Wbc,or_false]at hb;rcases hb with rfl|rfl
  ·exact⟨_,hz,λv q=>by cases q⟩
  ·exact⟨o1,e1,λv q=>by rw[d1]at q;cases q⟩
 keep:=λi h h' st k=>by
  obtain⟨⟨old,hz⟩,h1⟩:=st;exact⟨⟨old,k z (by simp) _ hz⟩,h1.at λo e=>k j (by simp) o e⟩
 item:=by
  intro X hP hw hK hc i pins s Z H E I hf st hg;subst hP hw hK;obtain⟨⟨old,hz⟩,h1⟩:=st;obtain⟨xs,x,hq1,hx⟩:=hg;obtain⟨its1,r1,p1⟩:=I.seqB hq1;obtain⟨u1,hu1,ru1⟩:=r1.get hx;refine Zqe hz h1 p1 (x:=u1) (by simpa using hu1) D λh' b1 b2 b3 hk=>?_;refine⟨_,rfl,wpAny_letOwnedTupleGo_enum (s:={ s with heap:=h',toks:=s.toks+1 }) b1 λh'' hz'' hs''=>?_⟩;have lt:∀{c o},s.heap.get? c=some o->c≠s.heap.objs.size:=λe=>Wa7<|War e;have hTz:s.heap.objs.size≠z:=Ne.symm<|lt hz;have hTfree:H s.heap.objs.size=none:=I.hok.fresh<|Waj _;have kept:∀c o,c ∉ [z,j]->s.heap.get? c=some o->h''.get? c=some o:=λc o hc e=>by
   simp only[Wai,Wbc,or_false,not_or]at hc;exact hs''.extBut _ _ hc.1<|hk c o hc.1 hc.2 e
  have hT:h''.get? s.heap.objs.size=some { cls:=.type "tuple",data:=.seq #[.int (m+(i:Int)) s.toks,u1] }:=hs''.extBut _ _ hTz b3;have ntr:∀c o,H c=some o->c ∉ [z,j]:=λc o e hc=>by rw[(hf c hc).1]at e;cases e
  have hok:HOk X.prog X.w (upd H s.heap.objs.size (.tup [.int (m+(i:Int)),x])) h'':=λc o e=>by
   by_cases hcT:c=s.heap.objs.size
   ·subst hcT
    rw[Zan]at e;cases e;exact⟨by show 2<=sizeLine;decide,[.int (m+(i:Int)) s.toks,u1],.cons ⟨_,rfl⟩ (.cons ru1 .nil),_,hT,⟨rfl,_,rfl⟩,rfl⟩
   ·rw[Zal hcT]at e
    refine(I.hok c o e).stay (λd v hd q=>kept d v ?_ q) (λd q=>by rw[Zal (Zam q hTfree)];exact q) λd zs q=>by rw[Zal (Zam q hTfree)];exact q
    rcases hd with hd|hd
    ·rw[hd];exact ntr c o e
    ·exact ntr d _ hd
  have I2:Inv X pins Z (upd H s.heap.objs.size (.tup [.int (m+(i:Int)),x])) { s with heap:=h'',toks:=s.toks+1 }:=by
   refine I.call (g':=s.gens) (t':=s.toks+1) (d':=s.drawn) (ch:=[z,j]) ⟨λc o e n hc hx=>kept c o hx e,λc o e n hc hx=>⟨o.slots,kept c o hx e⟩,λc o e n hx=>by rw[Zal (lt e)];exact n,λc o e hx=>⟨o,kept c o hx e⟩,
    λc zs q=>by rw[Zal (Zam q hTfree)];exact q,λc o zs q=>by rw[Zal (Zam q hTfree)];exact q,λc zs q=>⟨#[],by rw[Zal (Zam q hTfree),q];simp⟩⟩ hok I.bare λc hcc=>?_
   obtain⟨f0,f1,f2,f3,f4,f5⟩:=hf c hcc;exact⟨f3,f1,f4,f5⟩
  refine⟨.ref s.heap.objs.size,_,I2,rfl,⟨s.heap.objs.size,x,hTfree,rfl,rfl,λxs' q1=>?_⟩,⟨⟨_,by have:=hz'';push_cast at this ⊢;rw[<- Int.add_assoc];exact this⟩,b2.off hs''.extBut<|Ne.symm D⟩,λc hcc=>?_⟩
  ·rw[I.seqB_inj q1 hq1];exact hx
  ·have hcl:c≠s.heap.objs.size:=by
    simp only[Wai,Wbc,or_false]at hcc;obtain⟨_,e1,_⟩:=h1.obj;rcases hcc with rfl|rfl
    ·exact lt hz
    ·exact lt e1
   rw[Zal hcl];exact(hf c hcc).1
 done:=by
  intro X hP hw hK hc i pins s Z H E I hf st hg;subst hP hw hK;obtain⟨⟨old,hz⟩,h1⟩:=st;obtain⟨xs,hq1,hend⟩:=hg;obtain⟨its1,r1,p1⟩:=I.seqB hq1;have l1':=r1.length;refine Zup (I.ok.hd hc) hz h1 p1 (by simp;omega) λh' hk=>⟨rfl,?_⟩;have kept:∀c o,c ∉ [z,j]->s.heap.get? c=some o->h'.get? c=some o:=λc o hc e=>by
   simp only[Wai,Wbc,or_false,not_or]at hc;exact hk c o hc.2 e
  have ntr:∀c o,H c=some o->c ∉ [z,j]:=λc o e hc=>by rw[(hf c hc).1]at e;cases e
  refine I.call (g':=s.gens) (t':=s.toks) (d':=s.drawn) (ch:=[z,j]) ⟨λc o e n hc hx=>kept c o hx e,λc o e n hc hx=>⟨o.slots,kept c o hx e⟩,λc o e n hx=>n,λc o e hx=>⟨o,kept c o hx e⟩,
   λc zs q=>q,λc o zs q=>q,λc zs q=>⟨#[],by rw[q];simp⟩⟩ (λc o e=>?_) I.bare λc hcc=>?_
  ·refine(I.hok c o e).stay (λd v hd q=>kept d v ?_ q) (λd q=>q) λd zs q=>q
   rcases hd with hd|hd
   ·rw[hd];exact ntr c o e
   ·exact ntr d _ hd
  ·obtain⟨f0,f1,f2,f3,f4,f5⟩:=hf c hcc
   exact⟨f3,f1,f4,f5⟩
 self:=λ_ _ _ _ _ st h=>by
  obtain⟨⟨old,hz⟩,_⟩:=st;exact wpAny_pyIter_enum hz h
section
variable {K:W.Frag}{O:Evt}
def enS (m:Int) (ds:List D):List D:=ds.zipIdx.map λp=>D.tup [.int (m+(p.2:Int)),p.1]
theorem Zpc (m:Int) (ds:List D):(enS m ds).length=ds.length:=by unfold enS;rw[Waa,List.length_zipIdx]
theorem Zo8 {m:Int}{ds:List D}{i:Nat}{e:D}(h:(enS m ds)[i]?=some e):∃d,ds[i]?=some d/\e=.tup [.int (m+(i:Int)),d]:=by
 unfold enS at h;rw[Waf,List.getElem?_zipIdx]at h;cases q:ds[i]? with
 |none=>rw[q]at h;cases h
 |some d=>rw[q]at h;refine⟨d,rfl,?_⟩;simpa using h.symm
theorem Zk7 {m:Int}{b:Bool}{G:Hp}{l1:Addr}{xs:List V}{ds:List D}(h1:∀G1 H1,Same G G1->Same G1 H1->SqB b K H1 l1 xs) (r1:Reps K G xs ds):ItOk K G (IebS m b K l1) (enS m ds):=λG1 H1 sg sh=>by
 have hl1:=r1.length;have e1:=h1 G1 H1 sg sh;refine⟨⟨xs,e1,by rw[Zpc];omega⟩,λi d hd=>?_⟩;obtain⟨d0,q,rfl⟩:=Zo8 hd;obtain⟨u,hu,ru⟩:=r1.get q;refine⟨⟨xs,u,e1,hu⟩,λx H2 ⟨p,a,hp,ex,eH,hab⟩=>?_⟩;have ha:=hab xs e1;rw[hu]at ha;cases ha;subst ex;subst eH;have hG:G1 p=none:=by
  cases z:G1 p with
  |none=>rfl
  |some o=>rw[sh _ _ z]at hp;cases hp
 refine⟨upd G1 p (.tup [.int (m+(i:Int)),u]),λc o e=>by rw[Zal (Zam e hG)];exact e,λc o e=>by rw[Zal (Zam e hp)];exact e,λc o e=>?_,?_⟩
 ·by_cases hc:c=p
  ·subst hc;rw[Zan]at e ⊢;exact⟨e,.inr hp⟩
  ·rw[Zal hc]at e ⊢;exact⟨sh c o e,.inl e⟩
 ·have sg2:Same G1 (upd G1 p (.tup [.int (m+(i:Int)),u])):=λc o e=>by rw[Zal (Zam e hG)];exact e
  exact .tup Zan (.cons (.int _) (.cons ((ru.mono sg).mono sg2) .nil))
end
section
variable {prog:Program}{w:World}{A:Around}{E:Qb0}{s:Shared}
set_option maxHeartbeats 2000000 in
theorem Zpf (a:Addr) (ws:Array Value) (n:Nat) (dct:Option Addr) (sl:Array (Option Value)) (t:Tok) :
  Meets (Builtin.«enumerate.__new__» ⟨[.type "enumerate",.ref a],[("start",.int 1 t)]⟩) (λ_ R s=>s.heap.get? a=some ⟨.type "list",dct,.seq ws n,sl⟩ /\
   R (.ok (.ret (.ref (s.heap.push { cls:=.type "list_iterator",data:=.fields #[.ref a,.int 0 0] }).objs.size))) { s with heap:=(s.heap.push { cls:=.type "list_iterator",data:=.fields #[.ref a,.int 0 0] }).push ⟨.type "enumerate",none,.fields #[.none,.bool false,.ref s.heap.objs.size,rawInt 1,.none,.none],#[]⟩ }):=.of_wp λprog w A R s h=>by
 obtain⟨hp,g,d,tk,os⟩:=s;obtain⟨l,h⟩:=h;have sub0:=sub_enumerate;have t0:Heap.IsList (Shared.heap ⟨hp,g,d,tk,os⟩) a ws:=⟨_,l,rfl,n,rfl⟩
 wp_walk using AutoSeq1.wpAny_loadPart' l
 refine wpAny_stack_any λst=>Qbo ?_;split
 ·rename_i c _ _ _ _ _
  cases (c == Value.type "enumerate") <;> (wp_walk using AutoSeq1.wpAny_loadPart' l,wpAny_pyIter_list t0;exact⟨_,rfl,h⟩)
 ·wp_walk using AutoSeq1.wpAny_loadPart' l,wpAny_pyIter_list t0
  exact⟨_,rfl,h⟩
theorem Zxr (a:Value) (t:Tok):checkTypeCall "enumerate" ⟨[a],[("start",.int 1 t)]⟩=pure ():=by kernel_rfl
theorem Zx1 (a:Value) (t:Tok):checkBuiltinCall "enumerate.__new__" ⟨[.type "enumerate",a],[("start",.int 1 t)]⟩=pure ():=by kernel_rfl
theorem Zxy (a b:Value) (t:Tok):argsOk "object.__init__" ⟨[a,b],[("start",.int 1 t)]⟩:=by
 unfold argsOk;rw[signature?_of (id:="object.__init__") (n:=['_','_','t','i','n','i','_','_']) (o:=['t','c','e','j','b','o']) (by kernel_rfl) F.owner_object];kernel_rfl
theorem Zxm (self b:Value) (t:Tok):Meets (Builtin.«object.__init__» ⟨[self,b],[("start",.int 1 t)]⟩) (λ_ R s=>s.TypeIs self "enumerate" /\ R (.ok (.ret .none)) s):=by
 have hl:=F.called_enumerate.init.lookup;have hm:=F.called_enumerate.made;refine Meets.of_wp λprog w A R s hs=>?_;obtain⟨hT,hq⟩:=hs
 repeat (any_goals (first|assumption|wp_step))
 exact⟨_,rfl,hq⟩
theorem Zuj {a:Addr}{ws:Array Value}{t:Tok}{Q:Qb0}(l:s.heap.IsList a ws)
  (q:∀h',IsEnum h' (s.heap.objs.size+1) s.heap.objs.size 1 .none->ItB false h' s.heap.objs.size a 0->(∀c o,s.heap.get? c=some o->h'.get? c=some o)->Q (.ref<|s.heap.objs.size+1) { s with heap:=h' }):wpAny (model prog w) A (call (.type "enumerate") [.ref a] [("start",.int 1 t)]) Q E s:=by
 obtain⟨⟨oc,od,oda,os⟩,l1,hc,n,hd⟩:=l;dsimp only at hc hd;subst hc hd;have ft:=F.called_enumerate;obtain⟨c,tl,hmro⟩:=ft.mro;have hmade:=ft.made;have hsub:=ft.sub;have z1:(s.heap.push { cls:=.type "list_iterator",data:=.fields #[.ref a,.int 0 0] }).objs.size=s.heap.objs.size+1:=Wbr ..;have he:IsEnum ((s.heap.push { cls:=.type "list_iterator",data:=.fields #[.ref a,.int 0 0] }).push ⟨.type "enumerate",none,.fields #[.none,.bool false,.ref s.heap.objs.size,rawInt 1,.none,.none],#[]⟩) (s.heap.objs.size+1) s.heap.objs.size 1 .none:=by
  rw[<- z1];exact Wam _ rfl
 have fin:=q _ he ⟨_,Wac _<|Wam _ rfl,rfl,rfl⟩ λc o z=>Wac _<|Wac _ z;refine Qbu<|codeAny_of_tree ?_;show wpAny _ _ (callAny (.type "enumerate") _) _ _ _;refine Qbo ⟨Code.quiet_builtin _ (by decide +kernel),codeAny_builtin F.entry_type_call ?_⟩;rw[Around.under_plain (weight_type_call_type "enumerate" [.ref a] [("start",.int 1 t)]) (units_type_call_type "enumerate" [.ref a] [("start",.int 1 t)])];have h1:=ft.notType;have h2:=ft.canCreate;have hct:=Zxr (.ref a) t
 repeat (any_goals (first|assumption|wp_step))
 refine codeAny_mono (codeAny_call_builtin ft.plain F.entry_enumerate_new<|wpAny_of_eq (Zx1 (.ref a) t)<|Zpf a ws n od os t prog w A.in1 (wants (λobj s₁=>s₁.TypeIs obj "enumerate" /\ Q obj s₁) E) s ⟨l1,?_⟩) λr s₁ hr=>?_
 ·show _/\_
  rw[z1];exact⟨⟨_,he,rfl⟩,fin⟩
 cases r with
 |error e=>exact hr
 |ok fl=>
  cases fl with
  |ret obj=>
   obtain⟨hT,hq⟩:=hr;have hli:=ft.init.lookup;have hbi:=ft.init.bind obj
   repeat (any_goals (first|assumption|wp_step))
   refine codeAny_mono (codeAny_call_builtin ft.init.plain F.entry_object_init<|ft.init.check _ _ _ _ _ _ _ _ hT (Zxy obj (.ref a) t)<|Zxm obj (.ref a) t prog w A.in1 (wants (λr s₂=>r=.none/\Q obj s₂) E) s₁ ⟨hT,rfl,hq⟩) λr₂ s₂ hr₂=>?_;cases r₂ with
   |error e=>exact hr₂
   |ok fl₂=>
    cases fl₂ with
    |ret r=>
     obtain⟨rfl,hq⟩:=hr₂
     repeat (any_goals (first|assumption|wp_step))
    |_=>exact hr₂.elim
  |_=>exact hr.elim
end
def iEnumS (K:W.Frag) (ta:TA):TI:=λZ H R=>ta Z H λvs H1=>∃l,vs=[.ref l]/\(∃xs,SqB false K H1 l xs)/\R (IebS 1 false K l) H1
section
variable {X:Cx}
theorem Zi0 {M:Model}{A:Around}{E:Qb0}{s:Shared}{env:Env}{pos:Pos}{T:String}{e:Expr}{rest:List Expr}{kws:List Keyword}{Q:Qb0}
  (h:wpAny M A (spliced (backTo pos (starEach (e::rest) env))) (λvs s₁=>wpAny M A (evalAll ((backToKw pos (keywordEach kws env)).map (·.2)))
   (λkvs s₂=>wpAny M A (call (.type T) vs (((backToKw pos (keywordEach kws env)).filterMap (·.1)).zip kvs)) Q E s₂) E s₁) E s)
  (he:backTo pos (starEach (e::rest) env)=(false,eval e env)::backTo pos (starEach rest env))
  (hplain:(backTo pos<|starEach (e::rest) env).any (·.1)=false)
  (hall:(backToKw pos<|keywordEach kws env).all (·.1.isSome)=true)
  (hkw:(backToKw pos<|keywordEach kws env).any (·.1.isNone)=false) :
  wpAny M A (callWith pos (.type T) [] (backTo pos<|starEach (e::rest) env)<|backToKw pos<|keywordEach kws env) Q E s:=by
 have h2:wpAny M A (evalArgs (.type T) true (backTo pos<|starEach (e::rest) env)<|backToKw pos<|keywordEach kws env) (λa s₁=>wpAny M A (call (.type T) ([]++a.pos) a.kw) Q E s₁) E s:=by
  rw[he]at h ⊢;exact evalArgs_kwB hall h
 unfold callWith;refine Qbn<|Qbq (thn h2 λa s₁ h₁=>Qbn<|Qbr ?_);simp only[hplain,hkw,Bool.or_false];refine Qbn<|Qbo ?_;exact Qbn (thn h₁ λr s₂ hr=>Qbn<|Qbq<|wpAny_point<|Qbo hr)
theorem Zpt (K:W.Frag) {es:List Expr}{kk k2:Nat}{tp:Pos}{a:Expr}{ta:TA}{p pos kp cp:Pos}(hg:Gl X "enumerate") (hm:X.mg "enumerate" = none) (ha:PA X [a] ta) (hs:starEach [a] X.env=[(false,eval a X.env)]:=by rfl) (hK:X.K=K:=by rfl) :
  PI X (.Tuple es kk tp) (.Call (.Name "enumerate" p) [a] [⟨some "start",.Constant (.int 1) k2 cp,kp⟩] pos) (iEnumS K ta):=by
 subst hK;intro pins s Z H R I h;refine wpAny_Call_Name_kw<|Ze0 I hg hm (Ze2)<|Zi0 (thn (ha pos pins s Z H _ I h) λus s1 ⟨vs,H1,I1,r1,q1⟩=>?_) (by rw[hs];rfl) (by rw[hs];rfl) rfl rfl;refine thn ((Ztr (Zag (i:=1)) Zw8) pos pins s1 Z H1 (λzs H2=>zs=[.int 1]/\H2=H1) I1 ⟨rfl,rfl⟩) λws s2 ⟨zs,H2,I2,rz,q2⟩=>?_;obtain⟨rfl,rfl⟩:=q2;obtain⟨l1,e,⟨xs,hx⟩,q⟩:=q1;subst e;obtain⟨u1,rfl,q1⟩:=vals1 r1;cases (show u1=Value.ref l1 from q1);obtain⟨u2,rfl,t,e2⟩:=vals1 rz;cases e2;obtain⟨its1,w1,p1⟩:=I2.seqB hx;refine Zuj p1 λh' b1 b2 hk=>?_;refine wpAny_pyIter_enum b1 ?_;have I3:Inv X pins Z H2 { s2 with heap:=h' }:=I2.kept (t':=s2.toks) hk;refine⟨s2.heap.objs.size+1,[s2.heap.objs.size+1,s2.heap.objs.size],_,_,H2,rfl,I3,Zpi l1 _ _<|Nat.succ_ne_self _,⟨⟨_,b1⟩,b2⟩,λb hb=>?_,q⟩;have hge:s2.heap.objs.size<=b:=by
  simp only[Wai,Wbc,or_false]at hb;rcases hb with rfl|rfl <;> omega
 exact I2.fpOk hge<|I2.hok.fresh hge
end
section
variable {K:W.Frag}{O:Evt}
theorem Zra {ta:TA}{P:List D->Evt->Prop}(h:JA K ta O λds O1=>∃as,ds=[.lst as]/\P (enS 1 as) O1):JI K (iEnumS K ta) O P:=λg G H Z R k c=>
 h g G H Z _ k λvs ds G1 H1 O1 k1 s1 r1 hq_=>by
  obtain⟨as,e,p1⟩:=hq_;subst e;obtain⟨_,_,rfl,ra,rr⟩:=r1.inv
  next=>
   cases rr.inv;obtain⟨_,_,rfl,ha,rsa⟩:=ra.inv
   next=>exact⟨_,rfl,⟨_,SqL.of<|k1.live _ _ ha⟩,c _ _ G1 H1 O1 k1 s1 (Zk7 (λ_ _ sg sh=>SqL.of<|sh _ _<|sg _ _ ha) rsa) p1⟩
end
section
variable {X:Cx}
def rGetI:V->List V->Hp->VK->Prop:=λx vs H Q=>∃a z kvs i,x=.ref a/\vs=[.int i,z]/\H a=some (.dK kvs)/\Q ((valV kvs<|Sum.inl i).getD z) H
theorem Zto (hu:X.A.units+1<cLine):MtM X "dict.get" rGetI:=by
 intro pins s Z H x vs v us Q I rx rv h;obtain⟨a,z,kvs,i,rfl,rfl,hH,q⟩:=h;cases rx;obtain⟨u1,u2,rfl,r1,ru⟩:=rv.two;exact Zv5 hu I (DGet.k (k:=Sum.inl i) hH) r1 ru λw' s3 I3 rw'=>⟨_,H,I3,rw',q⟩
end
section
variable {K:W.Frag}{O:Evt}{P:D->Evt->Prop}
theorem Zpq {G:Hp}{kvs:List (Key × V)}{kds:List (Key × D)}(pr:Paired (λ(p:Key × V) (q:Key × D)=>p.1=q.1/\Rep K G p.2 q.2) kvs kds) (k:Key) {z:V}{dz:D}(rz:Rep K G z dz):Rep K G ((valV kvs k).getD z) ((valD kds k).getD dz):=by
 cases h:valD kds k with
 |some d=>
  obtain⟨u,z1,z2⟩:=Zo5 pr h;rw[z1];exact z2
 |none=>
  have:=Zic (K:=K) (k:=k) pr;rw[h]at this;rw[Option.isSome_eq_false_iff.mp this |> Option.isNone_iff_eq_none.mp];exact rz
theorem Zvd {n:Nat}{te tx:TE}{kds:List (Key × D)}(hx:O[n]?=some (.val<|dctD kds)) (h:JE K te O λe O1=>JE K tx O1 λz O2=>∃i,e=.int i/\P ((valD kds (.inl i)).getD z) O2) :
  JE K (tBM K "dict" rGetI (tVar n)<|tCons te<|tCons tx tNil) O P:=λg G H Z Q k c=>by
 obtain⟨v0,w1,w2⟩:=k.val n _ hx;obtain⟨a,vs,rfl,ha,hl,rs⟩:=w2.inv;refine⟨.ref a,w1,.inr (.inr (.inl ⟨rfl,.inl ⟨_,k.live _ _ ha⟩⟩)),h g G H Z _ k λv e G1 H1 O1 k1 s1 r1 p1=>p1 g G1 H1 Z _ k1 λz dz G2 H2 O2 k2 s2 r2 ⟨i,q3,p⟩=>?_⟩;subst q3;cases r1.inv;have ha2:=s2 _ _<|s1 _ _ ha;have pr:=Zkf hl ((rs.mono s1).mono s2);rw[Zpj]at pr;exact⟨a,z,_,i,rfl,rfl,k2.live _ _ ha2,c _ _ G2 H2 O2 k2 (s1.trans s2) (Zpq pr (.inl i) r2) p⟩
end
section
variable {X:Cx}
end
section
variable {K:W.Frag}{O:Evt}{P:D->Evt->Prop}
end
open PySem PySem.Spec PyProof.Rows PySem.SeqAt
section
variable {X:Cx}
end
open PySem PySem.Spec PyProof.Rows PySem.SeqAt
section
variable {K:W.Frag}{O:Evt}
end
section
variable {X:Cx}
end
open PySem PySem.Spec PyProof.Rows PySem.W
open PySem PySem.Spec PyProof.Rows PySem.W
def CodO (c:Addr) (q:Str) (h:Heap):Prop:=h.CodeRec (.ref c) q
def del (H:Hp) (c:Addr):Hp:=λb=>if b=c then none else H b
theorem Ze1 {H:Hp}{b c:Addr}(h:b≠c):del H c b=H b:=Qbv h
section
variable {X:Cx}{pins:Qbz}{Z:St}{H:Hp}{s:Shared}{k:Nat}{f l c' T c:Addr}{fd:FuncData}{qual:Str}{params:Arguments}{body:Expr}{scope:Scope}{pm ctv:Value}{fvs:List Str}{sel:List Nat}{cs:List V}{E:XK}{Q:VK}{sp:List V->Hp->VK->XK->Prop}
end
open PySem PySem.Spec PyProof.Rows PySem.W
def fill (o:Obj) (h:Heap):Nat->Heap
 |0=>Att.noObjs h
 |n+1=>(fill o h n).push o
theorem Zge (o:Obj) (h:Heap):∀n,(fill o h n).objs.size=n
 |0=>rfl
 |n+1=>by show ((fill o h n).push o).objs.size=_;rw[Wbr,Zge o h n]
theorem Zwy {c C:Addr}{q:Str}{h0:Heap}:CodO c q≠InsC c C:=λe=>by
 have g:((fill { cls:=.none,data:=.fields #[.none,.str q 0] } h0 c).push { cls:=.none,data:=.fields #[.none,.str q 0] }).get? c=some { cls:=.none,data:=.fields #[.none,.str q 0] }:=by
  have z:=Wam (o:={ cls:=.none,data:=.fields #[.none,.str q 0] }) (fill { cls:=.none,data:=.fields #[.none,.str q 0] } h0 c) rfl;rw[Zge]at z;exact z
 have h1:CodO c q ((fill { cls:=.none,data:=.fields #[.none,.str q 0] } h0 c).push { cls:=.none,data:=.fields #[.none,.str q 0] }):=⟨c,_,_,0,rfl,g,rfl,rfl⟩;rw[e]at h1;obtain⟨ox,vs,g1,g2,_⟩:=h1;rw[g]at g1;cases g1;cases g2
theorem Zu7 {c C dx:Addr}{q:Str}{h0:Heap}:CodO c q≠InsR c C dx:=λe=>by
 have g:((fill { cls:=.none,data:=.fields #[.none,.str q 0] } h0 c).push { cls:=.none,data:=.fields #[.none,.str q 0] }).get? c=some { cls:=.none,data:=.fields #[.none,.str q 0] }:=by
  have z:=Wam (o:={ cls:=.none,data:=.fields #[.none,.str q 0] }) (fill { cls:=.none,data:=.fields #[.none,.str q 0] } h0 c) rfl;rw[Zge]at z;exact z
 have h1:CodO c q ((fill { cls:=.none,data:=.fields #[.none,.str q 0] } h0 c).push { cls:=.none,data:=.fields #[.none,.str q 0] }):=⟨c,_,_,0,rfl,g,rfl,rfl⟩;rw[e]at h1;obtain⟨ox,vs,g1,g2,_⟩:=h1;rw[g]at g1;cases g1;cases g2
section
variable {K:W.Frag}{G H:Hp}{c:Addr}{q:Str}
mutual
theorem Rep.del (hc:G c=some (.ext<|CodO c q)) (h0:Heap):∀{v:V}{d:D},Rep K G v d->Rep K (del G c) v d
 |_,_,.non=>.non
 |_,_,.bl b=>.bl b
 |_,_,.int i=>.int i
 |_,_,.str x=>.str x
 |_,_,.ty n=>.ty n
 |_,_,.adr a=>.adr a
 |_,_,.tup e r=>.tup (by rw[Ze1 λz=>by rw[z,hc]at e;cases e];exact e) (Reps.del hc h0 r)
 |_,_,.lst e r=>.lst (by rw[Ze1 λz=>by rw[z,hc]at e;cases e];exact e) (Reps.del hc h0 r)
 |_,_,.dct e l r=>.dct (by rw[Ze1 λz=>by rw[z,hc]at e;cases e];exact e) l (Reps.del hc h0 r)
 |_,_,.exc (a:=a) (C:=C) e=>.exc (by
   rw[Ze1 λz=>by
    rw[z,hc]at e;have e2:CodO c q=InsC c C:=by injection (Waw.inj e)
    exact Zwy (h0:=h0) e2]
   exact e)
 |_,_,.excR (a:=a) (C:=C) (dx:=dx) e e2=>.excR (dx:=dx) (by
   rw[Ze1 λz=>by
    rw[z,hc]at e;have e3:CodO c q=InsR c C dx:=by injection (Waw.inj e)
    exact Zu7 (h0:=h0) e3]
   exact e) (by rw[Ze1 λz=>by rw[z,hc]at e2;cases e2];exact e2)
 |_,_,.scr e r=>.scr (by
   rcases e with e|e
   ·refine .inl ?_
    rcases e with e|⟨o,e⟩
    ·exact .inl (by rw[Ze1 λz=>by rw[z,hc]at e;cases e];exact e)
    ·exact .inr ⟨o,by rw[Ze1 λz=>by rw[z,hc]at e;cases e];exact e⟩
   ·exact .inr e) (Reps.del hc h0 r)
theorem Reps.del (hc:G c=some (.ext<|CodO c q)) (h0:Heap):∀{vs:List V}{ds:List D},Reps K G vs ds->Reps K (del G c) vs ds
 |_,_,.nil=>.nil
 |_,_,.cons a b=>.cons (Rep.del hc h0 a) (Reps.del hc h0 b)
end
end
section
variable {X:Cx}{tg:Expr}{K:W.Frag}
end
section
variable {prog:Program}{w:World}{A:Around}{E:Qb0}{s:Shared}
end
section
variable {K:W.Frag}{O:Evt}
end
structure RoomH (xa:Addr) (k:Nat) (A:Around):Prop where
 hd:A.handled=some (.ref xa)
 dp:A.depth+3*k+5<recursionLimit
 un:A.units+16*k+200<cLine
 gd:A.guards=some []
theorem RoomH.deeper {xa:Addr}{k:Nat}{A:Around}(r:RoomH xa (k+1) A) (env:Env):RoomH xa k (A.deeper env):=⟨r.hd,by have:=r.dp;show A.depth+1+3*k+5<_;omega,by have:=r.un;show A.units+3+16*k+200<_;omega,r.gd⟩
theorem RoomH.depth {xa:Addr}{k:Nat}{A:Around}(r:RoomH xa k A):A.depth<recursionLimit:=by have:=r.dp;omega
theorem RoomH.units {xa:Addr}{k:Nat}{A:Around}(r:RoomH xa k A):A.units+64<cLine:=by have:=r.un;omega
theorem Room.mark {k:Nat}{A:Around}(r:Room k A) (xa:Addr):RoomH xa k (A.mark<|some (.ref xa)):=⟨rfl,r.dp,r.un,r.gd⟩
structure FnOkH (xa:Addr) (P:Program) (w:World) (K:W.Frag) (mg:Str->Option Value) (base:Heap) (CX:CXT) (k:Nat) (f:Addr) (fd:FuncData) (ps:List Str) (sp:Sp):Prop where
 len:∀vs H Q E,sp vs H Q E->vs.length=ps.length
 run:∀(A:Around) (outer:List Env) (s:Shared) (H:Hp) (args:Args) (us:List Value) (vs:List V) (Q:VK) (E:XK),RoomH xa k A->Env0 P w K mg base A outer s H->BindsTo s fd args (ps.zip us)->Vals vs us->sp vs H Q E ->
  codeAny (model P w) A (.call (.ref f) args) (CR CX outer P w H s Q E) s
def cxH (CX:CXT) (P:Program) (w:World) (K:W.Frag) (mg:Str->Option Value) (base:Heap) (N:List Str) (qual:Str) (scope:Scope) (f:Addr) (cd:Value) (A:Around) (outer:List Env) (s:Shared) (H:Hp) (E:XK):Cx where
 prog:=P
 w:=w
 K:=K
 mg:=mg
 base:=base
 A:=A.deeper<|envOfC qual scope s.heap.objs.size f cd
 N:=N
 s₀:=s
 H₀:=H
 env:=envOfC qual scope s.heap.objs.size f cd
 outer:=outer
 stack:=envOfC qual scope s.heap.objs.size f cd::outer
 ex:=[]
 calm:=false
 fn:=λ_=>true
 pn:=[]
 xe:=λe s'=>wpAny (model P w) (A.deeper<|envOfC qual scope s.heap.objs.size f cd) (leaving (envOfC qual scope s.heap.objs.size f cd) e) (λ_ s''=>CX outer H s E e s'') (λe' s''=>CX outer H s E e' s'') s'
theorem Zk8 {CX:CXT}{P:Program}{w:World}{K:W.Frag}{mg:Str->Option Value}{base:Heap}{N ps:List Str}{qual:Str}{scope:Scope}{f:Addr}{cd:Value}{A:Around}{outer:List Env}{s s1:Shared}{H:Hp}{E:XK}{us:List Value}{vs:List V}
  (S:FnScope N ps scope) (e0:Env0 P w K mg base A outer s H) (hl:vs.length=ps.length) (r:Vals vs us)
  (x:InCallC s s.heap.objs.size (bindL (envOfC qual scope s.heap.objs.size f cd).kindOf (ps.zip us) λ_=>none) (cellsFrom (s.heap.objs.size+1) scope.names []) (bindC (envOfC qual scope s.heap.objs.size f cd).kindOf (ps.zip us) λ_=>none) s1) :
  Inv (cxH CX P w K mg base N qual scope f cd A outer s H E) [] (start N vs) H s1:=by
 have hpl:ps.length<=N.length:=by have:=congrArg Wbb S.pre;rw[Wbj]at this;omega
 obtain⟨h1,tk,rfl,hk⟩:=x.done;have noA:∀b:Addr,b ∉ (cxH CX P w K mg base N qual scope f cd A outer s H E).ex:=λb z=>absurd (show b∈([]:List Addr) from z) (by simp);refine⟨⟨e0.mod,S.kind,rfl,rfl,Waj _,λy z c h1 h2=>?_,λy hy=>?_,λy c _ h=>?_,λz=>(by cases z),Around.frames_deeper e0.frames,.inr ⟨rfl,rfl⟩,λb z=>absurd z (noA b),e0.bs,e0.bsz,λb _ _=>noA b,λb z=>absurd z (noA b),e0.funs,e0.frf⟩,
  rfl,e0.bare,Un.kept hk,⟨_,x.toInCall.ns,λi y v h1 h2 h3=>?_⟩,λy c h=>⟨_,x.cell y c h⟩,e0.hok.fresh (Waj _),λy c h=>?_,λp hp=>absurd (show p∈([]:Qbz) from hp) (by simp),e0.hok.kept hk,?_⟩
 ·exact name_of_addr x.apart (PySem.mem_of_lookup h1)<|PySem.mem_of_lookup h2
 ·have hy:scope.names.lookup y=some .cell\/scope.names.lookup y=some .free:=hy
  rcases hy with hy|hy
  ·exact Zfb hy
  ·exact absurd rfl<|S.nofree _<|PySem.mem_of_lookup hy
 ·exact Wbm<|x.above y c<|PySem.mem_of_lookup h
 ·have hi:i<vs.length:=by
   unfold start at h2;by_cases hi:i<vs.length
   ·exact hi
   ·rw[Wax (by simpa using hi)]at h2
    rw[Wbe]at h2;split at h2 <;> cases h2
  have ha:vs[i]?=some v:=by
   unfold start at h2;rw[Waz (by simpa using hi),Waf]at h2;cases e:vs[i]? with
   |none=>rw[e]at h2;cases h2
   |some a=>rw[e]at h2;cases h2;rfl
  obtain⟨u,hu,rv⟩:=r.get ha;have hp:ps[i]?=some y:=by
   rw[<- S.pre,List.getElem?_take_of_lt (by omega)];exact h1
  have ndP:ps.Nodup:=by rw[<- S.pre];exact S.nd.sublist<|Wdw _ _
  refine⟨u,rv,?_⟩;rcases S.par y (Wav hp) with k|k
  ·exact .inl ⟨k,Zf2 ndP hp hu k⟩
  ·obtain⟨c,e⟩:=Zfb (n:=s.heap.objs.size+1) k
   refine .inr ⟨.inl k,c,e,?_⟩;have q:=x.cell y c e;rw[Zf7 ndP hp hu (by show scope.names.lookup y≠_;rw[k];decide)]at q;exact q
 ·exact e0.hok.fresh<|Wbm<|x.above y c<|PySem.mem_of_lookup h
 ·unfold start
  show _=N.length;rw[Wal,Waa,Wa5];omega
theorem Zxh {xa:Addr}{CX:CXT}{P:Program}{w:World}{K:W.Frag}{mg:Str->Option Value}{base:Heap}{k:Nat}{f:Addr}{name qual:Str}{params:Arguments}{body:List Stmt}{scope:Scope}{dV kV doc pm cdv ct oc:Value}{an od:Option Addr}
  {osl:Array (Option Value)}{N ps:List Str}{sp:Sp}(lk:K.lookup f=some ⟨oc,od,.func<|W.fnOf name qual params body scope dV kV doc pm an cdv ct,osl⟩) (hcd:W.codeIn K cdv qual=true) (S:FnScope N ps scope)
  (len:∀vs H Q E,sp vs H Q E->vs.length=ps.length)
  (hbody:∀(A:Around) (outer:List Env) (s:Shared) (H:Hp) (vs:List V) (Q:VK) (E:XK),RoomH xa k (A.deeper (envOfC qual scope s.heap.objs.size f cdv))->sp vs H Q E ->
   ∃t,PSs (cxH CX P w K mg base N qual scope f cdv A outer s H E) body t/\t { nx:=λ_ H'=>Q .non H',rt:=Q } (start N vs) H) :
  FnOkH xa P w K mg base CX (k+1) f (W.fnOf name qual params body scope dV kV doc pm an cdv ct) ps sp:=by
 refine⟨len,λA outer s H args us vs Q E hr e0 hb r hsp=>?_⟩;have hl:=len _ _ _ _ hsp;have KX:K.In s.heap:=e0.mod.kin.keeps λb o e=>(e0.bs b o e).1;have lim:s.heap.NoLimit:=e0.mod.nolimit.keeps λb o e=>(e0.bs b o e).1;have hkind:∀y∈ps.zip us,scope.names.lookup y.1=some .local\/(scope.names.lookup y.1=some .cell/\((cellsFrom (s.heap.objs.size+1) scope.names []).lookup y.1).isSome=true):=λ⟨n,v⟩ hy=>by
  rcases S.par n (Wdd hy).1 with q|q
  ·exact .inl q
  ·exact .inr ⟨q,PySem.W.cellsFrom_some _ _ _ (.inl q)⟩
 refine codeAny_call_function hr.depth (KX _ _ lk) rfl S.co S.gen rfl (PySem.W.codeRec_of KX hcd)<|hb _ _ _ _ ?_;refine wpAny_newFunctionEnv_cells S.kind hkind λenv he s1 x=>?_;subst he;refine⟨lim.keeps x.toInCall.keep,codeAny_func ?_⟩;obtain⟨t,ht,hq⟩:=hbody A outer s H vs Q E (hr.deeper _) hsp;have I:Inv (cxH CX P w K mg base N qual scope f cdv A outer s H E) [] (start N vs) H s1:=Zk8 S e0 hl r x;refine Qbp (ht [] s1 (start N vs) H _ I hq) (λfl s' hs=>?_) λe s' hs=>hs;have fin:∀{Z':St}{H':Hp}{v:V}{u:Value},Inv (cxH CX P w K mg base N qual scope f cdv A outer s H E) [] Z' H' s' -> RelV v u->Q v H' -> CE outer P w H s Q u s':=
  λ{Z' H' v u} J rv q=>⟨v,H',J.os,J.bare,J.base,J.hok,rv,q⟩
 cases fl with
 |ret u=>
  obtain⟨v,Z',H',J,rv,q⟩:=hs;exact fin J rv q
 |next=>
  obtain⟨Z',H',J,q⟩:=hs;exact fin (v:=V.non) (u:=Value.none) J rfl q
 |brk=>
  obtain⟨_,_,_,q⟩:=hs;exact False.elim q
 |cont=>
  obtain⟨_,_,_,q⟩:=hs;exact False.elim q
section
variable {X:Cx}{CX:CXT}{xa:Addr}{k:Nat}{f C:Addr}{fd:FuncData}{ps:List Str}{sp:Sp}{dvs:List V}{ds:List Value}{E:XK}{x m:Str}{p pos apos:Pos}{e o:Expr}{es:List Expr}{ta:TE}{t:TA}
theorem Zu2 {pins:Qbz}{Z:St}{H:Hp}{s:Shared}{Q:VK}{us:List Value}{vs:List V}(F:FnOkH xa X.prog X.w X.K X.mg X.base CX k f fd ps sp) (hr:RoomH xa k X.A) (hb:Binds X.K fd ps ds) (hd:Vals dvs ds) (hx:Passes CX X E)
  (I:Inv X pins Z H s) (r:Vals vs us) (h:sp (vs++dvs) H Q E):wpAny (model X.prog X.w) X.A (call (.ref f) us) (EP X pins Z Q) X.xe s:=by
 have r2:Vals (vs++dvs) (us++ds):=r.append hd;have hl:(us++ds).length=ps.length:=by rw[<- r2.length];exact F.len _ _ _ _ h
 refine Qbu (codeAny_mono (F.run X.A X.stack s H ⟨us,[]⟩ (us++ds) (vs++dvs) Q E hr I.env0 (hb s us I.kIn hl) r2 h) λr s' hq=>?_);cases r with
 |error e=>exact hx pins Z H s e s' I hq
 |ok fl=>
  cases fl with
  |ret u=>exact I.after hq
  |next=>exact False.elim hq
  |brk=>exact False.elim hq
  |cont=>exact False.elim hq
theorem Zpg (F:FnOkH xa X.prog X.w X.K X.mg X.base CX k f fd ps sp) (hr:RoomH xa k X.A) (hg:Gl X x) (hm:X.mg x=some (.ref f)) (hk:W.keepIn X.K (.ref f)=true) (hb:Binds X.K fd ps ds) (hd:Vals dvs ds) (hx:Passes CX X E)
  (ha:PA X (e::es) t) (hdb:(x == ("__debug__":Str))=false:=by decide) (he:starEach (e::es) X.env=(false,eval e X.env)::starEach es X.env:=by rfl) (hpl:(backTo pos<|starEach es X.env).any (·.1)=false:=by rfl) :
  PE X (.Call (.Name x p) (e::es) [] pos) (tCall sp dvs E t):=by
 intro pins s Z H Q I h;refine wpAny_Call_Name_kw<|Zc5 I hg hm ?_ hdb;refine PySem.W.callWith_K (h₀:=X.base) I.ok.mod.kin hk (thn (ha pos pins s Z H _ I h) λus s1 ⟨vs,H1,I1,r,q⟩=>⟨I1.kIn,?_⟩) he hpl;exact Zu2 F hr hb hd hx I1 r q
end
structure CalleeH (P:Program) (w:World) (K:W.Frag) (mg:Str->Option Value) (base:Heap) (k:Nat) (x:Str) (ps:List Str) (sp:Addr->Sp):Prop where
 ex:∃(f:Addr) (fd:FuncData),(∀xa,FnOkH xa P w K mg base CX0 k f fd ps (sp xa))/\Binds K fd ps []/\W.keepIn K (.ref f)=true/\mg x=some (.ref f)
section
variable {X:Cx}{xa:Addr}{k:Nat}{x:Str}{ps:List Str}{sp:Addr->Sp}{e:Expr}{es:List Expr}{t:TA}{p pos:Pos}
theorem Zxe (C:CalleeH X.prog X.w X.K X.mg X.base k x ps sp) (hr:RoomH xa k X.A) (ha:PA X (e::es) t) (hg:Gl X x:=by rfl) (hdb:(x == ("__debug__":Str))=false:=by decide)
  (he:starEach (e::es) X.env=(false,eval e X.env)::starEach es X.env:=by rfl) (hpl:(backTo pos<|starEach es X.env).any (·.1)=false:=by rfl):PE X (.Call (.Name x p) (e::es) [] pos) (tCall (sp xa) [] E0 t):=by
 obtain⟨f,fd,F,b,kp,m⟩:=C.ex;exact Zpg (F xa) hr hg m kp b .nil pass0 ha hdb he hpl
end
section
variable {P:Program}{w:World}{K:W.Frag}{mg:Str->Option Value}{base:Heap}
theorem Fun.okH {xa:Addr}{x qual:Str}{st:Stmt}{f:Addr}{fd:FuncData}{N ps:List Str}{k:Nat}{sp:Sp}(F:Fun K x qual st f fd) (S:FnScope N ps (defScope st)) (len:∀vs H Q E,sp vs H Q E->vs.length=ps.length)
  (hbody:∀(cdv:Value) (A:Around) (outer:List Env) (s:Shared) (H:Hp) (vs:List V) (Q:VK) (E:XK),RoomH xa k (A.deeper (envOfC qual (defScope st) s.heap.objs.size f cdv))->sp vs H Q E ->
   ∃t,PSs (cxH CX0 P w K mg base N qual (defScope st) f cdv A outer s H E).nox (defBody st) t/\t { nx:=λ_ H'=>Q .non H',rt:=Q } (start N vs) H):FnOkH xa P w K mg base CX0 (k+1) f fd ps sp:=by
 obtain⟨oc,od,kV,doc,pm,an,cdv,ct,osl,rfl,lk,hcd⟩:=F.ex;refine Zxh lk hcd S len λA outer s H vs Q E hr hsp=>?_;obtain⟨t,h,q⟩:=hbody cdv A outer s H vs Q E hr hsp;exact⟨t,h.nox,q⟩
end
open PySem PySem.Spec PyProof.Rows PySem.W
section
variable {X:Cx}{k i:Nat}{l:Addr}{fd:FuncData}{x:Str}{sp:Hp->VK->XK->Prop}{p pos:Pos}{E:XK}
end
open PySem PySem.Spec PyProof.Rows PySem.W
section
variable {P:Program}{w:World}{K:W.Frag}{mg:Str->Option Value}{base:Heap}
end
open PySem PySem.Spec PyProof.Rows PySem.W
open PySem PySem.Spec PyProof.Rows PySem.SeqAt
def TrcV (h:Heap) (a C T:Addr) (v:Value):Prop:=
 ∃oe vs oT ts,h.get? a=some oe/\oe.cls=.ref C/\oe.data=.fields vs/\vs[1]?=some (.ref T)/\vs[2]?=some .none/\T≠a/\h.get? T=some oT/\oT.data=.fields ts/\ts[3]?=some v
theorem Zpv {e:Value}{env env':Env}(h:env.frame=env'.frame):noteFrame e env=noteFrame e env':=by
 unfold noteFrame PySem.frameOf;rw[h]
section
variable {X:Cx}{pins:Qbz}{Z:St}{H H':Hp}{s:Shared}{h':Heap}{a C T:Addr}{v:Value}
theorem Inv.notedA {h0:Heap}{oe:Obj}{vs:Array Value}{hid:List Addr}{T':Addr}(I:Inv X pins Z H s) (hex:X.ex=[]) (na:Nw X pins H a) (new:∀b∈hid,Nw X pins H b) (he:s.heap.get? a=some oe) (hc:oe.cls=.ref C) (hd:oe.data=.fields vs) (h2:vs[2]?=some .none)
  (k0:∀b,b ∉ hid->h0.get? b=s.heap.get? b) (hf0:∀b∈hid,∀o,s.heap.get? b=some o->∃ws,o.data=.fields ws) (hn0:∀b,h0.get? b=none->s.heap.get? b=none) (n:Noted h0 h' X.stack a oe T') :
  Inv X pins Z H { s with heap:=h' } /\ (∃v,TrcV h' a C T' v)/\Nw X pins H T' /\ s.heap.UpToSlots h':=by
 have nT:=Nw.of I hex<|hn0 _ n.new;have hTa:T'≠a:=by rintro rfl;have z:=hn0 _ n.new;rw[he]at z;cases z
 have fl:∀b,b∈a::hid->∀o,s.heap.get? b=some o->∃ws,o.data=.fields ws:=λb hb o e=>by
  rcases Wai.mp hb with rfl|hb
  ·rw[he]at e;cases e;exact⟨vs,hd⟩
  ·exact hf0 b hb o e
 have up:s.heap.UpToSlots h':=λb o e hnf=>by
  have hb:b ∉ a::hid:=λz=>by obtain⟨ws,q⟩:=fl b z o e;exact hnf ws q
  have h1a:b≠a:=λz=>hb (by simp[z]);have h1b:b ∉ hid:=λz=>hb<|Wap _ z;exact n.up b o ((k0 b h1b).trans e) h1a hnf
 refine⟨I.moved (hid:=a::hid) hex (λb hb=>(Wai.mp hb).elim (λz=>by subst z;exact na) (new b)) (λb o e h1 h2=>?_) up,?_,nT,up⟩
 ·have h1a:b≠a:=λz=>h1 (by simp[z])
  have h1b:b ∉ hid:=λz=>h1<|Wap _ z;exact n.keep b o ((k0 b h1b).trans e) h1a h2
 ·obtain⟨oT,ts,t1,t2,t3⟩:=n.tb
  have sz:2<vs.size:=(Array.getElem?_eq_some_iff.mp h2).1;refine⟨_,_,_,_,_,n.exc,(Obj.cls_mapFields _ _).trans hc,Obj.data_mapFields hd _,?_,?_,hTa,t1,t2,Array.getElem?_eq_getElem t3⟩
  ·simp[show 1<vs.size by omega]
  ·rw[Array.getElem?_setIfInBounds_ne (by decide)];exact h2
variable {M:Model}{E:Qb0}{Q:Unit->Shared->Prop}
theorem Zko (I:Inv X pins Z H s) (hex:X.ex=[]) (hst:X.stack=X.env::X.outer) (hf:X.env.frame=some X.env.locals) (tr:TrcV s.heap a C T v) (na:Nw X pins H a) (nT:Nw X pins H T)
  (h:∀h' T' v',Inv X pins Z H { s with heap:=h' } -> TrcV h' a C T' v' -> Nw X pins H T' -> s.heap.UpToSlots h' -> Q () { s with heap:=h' }):wpAny M X.A (noteFrame (.ref a) X.env) Q E s:=by
 have tr0:=tr;obtain⟨oe,vs,oT,ts,h1,h2,h3,h4,h5,h6,h7,h8,h9⟩:=tr;have hfr:=I.ok.frames;have hl:=I.stack;rw[hst]at hfr hl;have ot:∀b,b≠T->(s.heap.update T<|Obj.mapFields (·.setIfInBounds 3 Value.none)).get? b=s.heap.get? b:=λb hb=>Wba _ _<|Ne.symm hb;unfold noteFrame;simp only[hf];refine Qbn<|wpAny_field h1 h3 h4 ?_;rw[Qbw (show (Value.ref T != Value.none)=true from by simp)];refine Qbn<|wpAny_field h7 h8 h9 ?_;by_cases hv:(v == rawInt X.env.locals)=true
 ·rw[Qbw hv]
  exact Qbo (h s.heap T v I tr0 nT λb o e _=>⟨o.slots,e⟩)
 ·rw[Qbv hv]
  refine Qbn<|wpAny_setField h7 h8 (Array.getElem?_eq_some_iff.mp h9).1 ?_;refine entryX (s:={ s with heap:=s.heap.update T (Obj.mapFields (·.setIfInBounds 3 .none)) }) hfr (hl.of_keeps λb o hb hn=>⟨o,(ot b λq=>?_).trans hb,rfl⟩) hf ((ot a<|Ne.symm h6).trans h1) h3 (Array.getElem?_eq_some_iff.mp h4).1 λh' T' n=>?_
  ·rw[q,h7]at hb
   exact hn ts (Waw.inj hb ▸ h8)
  ·rw[<- hst]at n
   obtain⟨J,⟨v',t1⟩,t2,up⟩:=I.notedA (hid:=[T]) hex na (λb hb=>by rcases Wai.mp hb with rfl|hb;exact nT;cases hb) h1 h2 h3 h5 (λb hb=>ot b (by simpa using hb)) (λb hb o e=>by
    have hb:b=T:=by simpa using hb
    subst hb;rw[h7]at e;cases e;exact⟨ts,h8⟩) (λb e=>by
     by_cases hb:b=T
     ·subst hb
      rw[Wbi _ h7 (Obj.isFreed_of_fields<|Obj.data_mapFields h8 _)]at e;cases e
     ·exact(ot b hb).symm.trans e) n
   exact h _ T' v' J t1 t2 up
theorem Zmf {A:Around}(fr:Option Addr) (I:Inv X pins Z H s) (hex:X.ex=[]) (tr:TrcV s.heap a C T v) (nT:Nw X pins H T)
  (h:∀h',Inv X pins Z H { s with heap:=h' } -> TrcV h' a C T (fr.elim .none λf=>rawInt f)->Q () { s with heap:=h' }):wpAny M A (setFlight (.ref a) fr) Q E s:=by
 obtain⟨oe,vs,oT,ts,h1,h2,h3,h4,h5,h6,h7,h8,h9⟩:=tr;have sz:=(Array.getElem?_eq_some_iff.mp h9).1;have ot:∀b,b≠T->(s.heap.update T<|Obj.mapFields (·.setIfInBounds 3 (fr.elim Value.none λf=>rawInt f))).get? b=s.heap.get? b:=λb hb=>Wba _ _<|Ne.symm hb;unfold setFlight;refine Qbn<|wpAny_field h1 h3 h4 ?_;rw[Qbw (show (Value.ref T != Value.none)=true from by simp)];refine wpAny_setField h7 h8 sz<|h _ ?_ ?_
 ·refine I.moved (hid:=[T]) hex (λb hb=>by rcases Wai.mp hb with rfl|hb;exact nT;cases hb) (λb o e hb _=>(ot b (by simpa using hb)).trans e) (λb o e hnf=>⟨o.slots,(ot b λz=>?_).trans e⟩)
  subst z;rw[h7]at e;cases e;exact hnf ts h8
 ·exact⟨oe,vs,_,_,(ot a<|Ne.symm h6).trans h1,h2,h3,h4,h5,h6,Wbi _ h7<|Obj.isFreed_of_fields<|Obj.data_mapFields h8 _,Obj.data_mapFields h8 _,by simp[sz]⟩
end
def PassA (X:Cx) (E:XK):Prop:=∀(pins:Qbz) (Z:St) (H:Hp) (s:Shared) (a C T:Addr) (v:Value),Inv X pins Z H s->Nw X pins H a->Nw X pins H T->TrcV s.heap a C T v->E (.ref C) none H->X.xe (.ref a) s
section
variable {P:Program}{w:World}{K:W.Frag}{mg:Str->Option Value}{base:Heap}{N:List Str}{qual:Str}{scope:Scope}{f:Addr}{cd:Value}{A:Around}{outer:List Env}{s0:Shared}{H0:Hp}{E:XK}
theorem Zvb:PassA (cxOf (CXE P w) P w K mg base N qual scope f cd A outer s0 H0 E) E:=λpins Z H s a C T v I na nT tr hE=>by
 show wpAny _ _ (leaving _ (.ref a)) _ _ s;unfold leaving;refine Qbn (Zko I rfl rfl rfl tr na nT λh' T' v' J t1 t2 _=>?_);refine Zmf none J rfl t1 t2 λh2 J2 t3=>?_;exact⟨a,C,T',H,rfl,J2.os,J2.bare,J2.base,J2.hok,na.trk,na.old,t2.trk,t2.old,t3,hE⟩
end
def compCxX (X:Cx) (scope:Scope) (N:List Str) (C:Addr) (s:Shared) (H:Hp) (ex:List Addr) (pn:Qbz) (xe:Qb0):Cx:={ compCx X scope N C s H ex pn with xe:=xe }
theorem Inv.withX {Y:Cx}{xe:Qb0}{pins:Qbz}{Z:St}{H:Hp}{s:Shared}(I:Inv Y pins Z H s):Inv { Y with xe:=xe } pins Z H s:=
 ⟨⟨I.ok.mod,I.ok.kind,I.ok.glob,I.ok.blt,I.ok.above,I.ok.inj,I.ok.has,I.ok.cab,I.ok.hd,I.ok.frames,I.ok.stk,I.ok.exf,I.ok.bs,I.ok.bsz,I.ok.noex,I.ok.exfs,I.ok.funs,I.ok.frf⟩,I.os,I.bare,I.base,I.loc,I.cell,I.free,I.freeC,I.pin,I.hok,I.len⟩
theorem Inv.noX {Y:Cx}{xe:Qb0}{pins:Qbz}{Z:St}{H:Hp}{s:Shared}(I:Inv { Y with xe:=xe } pins Z H s):Inv Y pins Z H s:=
 ⟨⟨I.ok.mod,I.ok.kind,I.ok.glob,I.ok.blt,I.ok.above,I.ok.inj,I.ok.has,I.ok.cab,I.ok.hd,I.ok.frames,I.ok.stk,I.ok.exf,I.ok.bs,I.ok.bsz,I.ok.noex,I.ok.exfs,I.ok.funs,I.ok.frf⟩,I.os,I.bare,I.base,I.loc,I.cell,I.free,I.freeC,I.pin,I.hok,I.len⟩
def XEc (X:Cx) (pins:Qbz) (Z:St) (E:XK) (n:Addr):Value->Shared->Prop:=λx s'=>∃a C T v H',x=.ref a/\Inv X pins Z H' s' /\ Nw X pins H' a/\Nw X pins H' T/\TrcV s'.heap a C T v/\E (.ref C) none H' /\ (∃m,s'.heap.Ns n m)/\H' n=none
section
variable {X:Cx}{pins:Qbz}{Z:St}{H:Hp}{s:Shared}{fp:List Addr}{scope:Scope}{N:List Str}{E:XK}
theorem Zmu (I:Inv X pins Z H s) (hex:X.ex=[]) (hf:∀b∈fp,FpOk X pins H b):Passes (CXE X.prog X.w) (compCxX X scope N s.heap.objs.size s H fp (X.pn++pins)<|XEc X pins Z E s.heap.objs.size) E:=λpinsY ZY Hh ss e s' IY hq=>by
 obtain⟨a,C,T,H',rfl,os,bare,un,hok,ha,hsa,hT,hsT,tr,hE⟩:=hq;have I0:Inv (compCx X scope N s.heap.objs.size s H fp<|X.pn++pins) [] ZY Hh ss:=Inv.unpinned (pl:=pinsY)<|Inv.noX IY;have J0:Inv X pins Z Hh ss:=Zeh I hf I0 (.refl ..);have J1:Inv (compCx X scope N s.heap.objs.size s H fp<|X.pn++pins) [] ZY H' s':=I0.call' (ch:=[]) os un hok bare (λb z=>absurd z<|by simp);have J2:Inv X pins Z H' s':=Zeh I hf J1 (.refl ..);obtain⟨m,hn,_⟩:=J1.loc;exact⟨a,C,T,.none,H',rfl,J2,(Nw.of J0 hex hsa).at ha,(Nw.of J0 hex hsT).at hT,tr,hE,⟨m,hn⟩,J1.free⟩
end
def PBX (Y:Cx) (rest:Sem Fin) (c:Code) (tb:TB):Prop:=∀(pins:Qbz) (s:Shared) (Z:St) (H:Hp) (N:St->Hp->Prop),Inv Y pins Z H s->tb Z H N ->
 wpAny (model Y.prog Y.w) Y.A rest (λf s'=>f=.again c/\∃Z' H',Inv Y pins Z' H' s' /\ N Z' H') Y.xe s
theorem Zle {Y:Cx}{e tg:Expr}{d:Nat}{p:Pos}{acc:Value}{rest:Value->Sem Fin}{g:TG}{tb:TB}(hpl:Plain e) (hc:Y.calm=true)
  (hct:∀it,compTurn e d it acc Y.env=(do
   standAt p
   match <- pyNext it with
   |none=>pure (.done .next)
   |some v=>
    letOwnedTupleGo tg it v
    assign tg Y.env v
    rest it))
  (hg:PG Y tg g) (hb:∀it,PBX Y (rest it) (.compLoop e d it acc Y.env) tb) {pins:Qbz}{Z:St}{s:Shared}{itv:Value}{R:St->Hp->Prop}{RX:Qb0}
  (hn:∀x s',Y.xe x s' -> wpAny (model Y.prog Y.w) Y.A (noteFrame x Y.env) (λ_ s''=>RX x s'') RX s') (h:PIE Y pins Z tg (LoopR g tb R Z) itv s) :
  codeAny (model Y.prog Y.w) Y.A (.compLoop e d itv acc Y.env) (λr s'=>(r=.ok .next/\∃Z' H',Inv Y pins Z' H' s' /\ R Z' H')\/∃x,r=.error x/\RX x s') s:=by
 obtain⟨it,fp,tn,J,H2,e0,I2,T,st2,f2,W,⟨m0,w0⟩,turn⟩:=h;subst e0;have stat:∀{H':Hp},(∀b∈fp,H' b=none)->∀b∈fp,FpOk Y pins H' b:=λhn b hb=>⟨hn b hb,(f2 b hb).2⟩;refine codeAny_loop rfl (λn s'=>∃i Z' H',Inv Y pins Z' H' s' /\ tn i s'.heap/\(∀b∈fp,H' b=none)/\W i n Z' H') ?_ m0 ⟨0,Z,H2,I2,st2,λb hb=>(f2 b hb).1,w0⟩;rintro n s3 ⟨i,Z3,H3,I3,st3,fr3,w3⟩;obtain⟨z1,z2⟩:=hpl.tu Y.prog Y.w Y.A d (.ref it) acc Y.env;rw[z1,z2];refine wpAny_noted (Qbp (E:=Y.xe) ?_ (λ_ _ q=>q) λx s' z=>Qbp (hn x s' z) (λ_ _ q=>.inr ⟨x,rfl,q⟩) λy _ q=>.inr ⟨y,rfl,q⟩);rw[hct];refine Qbn<|Qbr<|Qbn ?_;rcases turn i n Z3 H3 w3 with ⟨stop,qn⟩|⟨go,N,hN,step⟩
 ·refine thn (T.done Y rfl rfl rfl hc i pins s3 Z3 H3 Y.xe I3 (stat fr3) st3 stop) λr s4 ⟨hr,I4⟩=>?_
  subst hr;exact Qbo (.inl ⟨rfl,Z3,H3,I4,qn⟩)
 ·refine thn (T.item Y rfl rfl rfl hc i pins s3 Z3 H3 Y.xe I3 (stat fr3) st3 go) λr s4 ⟨u,hr,h4⟩=>?_
  subst hr;refine Qbn (thn h4 λ_ s5 ⟨x,H5,I5,r5,y5,st5,fr5⟩=>?_);have I5':=I5.pinned (stat fr5)<|T.obj _ _ st5;have G1:=hg _ s5 Z3 H5 x u _ I5' r5<|step x H5 y5;refine Qbn (thn G1 λ_ s6 ⟨Z6,H6,I6,q6⟩=>?_);refine thn (hb _ _ s6 Z6 H6 N I6 q6) λfn s7 ⟨hfn,Z7,H7,I7,n7⟩=>?_;subst hfn;refine⟨rfl,?_⟩;obtain⟨m',hm,w7⟩:=hN Z7 H7 n7;refine⟨m',hm,i+1,Z7,H7,I7.unpinned,T.keep _ _ _ st5 λb hb o e=>(I7.pin (b,o)<|Wa0 _<|Wa0 _<|Zco hb e).1,λb hb=>?_,w7⟩;obtain⟨o,e,_⟩:=T.obj _ _ st5 b hb;exact(I7.pin (b,o)<|Wa0 _<|Wa0 _<|Zco hb e).2.1
section
variable {X:Cx}
theorem Zk6 {e tg1 it1:Expr}{scope:Scope}{tgs fvs:List Str}{sel:List Nat}{g1:TG}{ob:Obj}{ho:HO}{newAcc:Sem Value}{rest:Addr->Env->Value->Sem Fin}{tem:Addr->TB}{EX:XK}(hpl:Plain e) (hcls:(clausesOf e)[0]?=some ⟨tg1,it1,[],0⟩)
  (hct0:∀(D:Addr) (env:Env) (it:Value),compTurn e 0 it (.ref D) env=(do
   standAt it1.pos
   match <- pyNext it with
   |none=>pure (.done .next)
   |some v=>
    letOwnedTupleGo tg1 it v
    assign tg1 env v
    rest D env it))
  (hnew:∀(s:Shared) (Q:Qb0) (E:Qb0),Q (.ref s.heap.objs.size) { s with heap:=s.heap.push ob } -> wpAny (model X.prog X.w) X.A newAcc Q E s)
  (hok:∀(pins:Qbz) (Z:St) (H:Hp) (s:Shared),Inv X pins Z H s->Inv X pins Z (upd H s.heap.objs.size ho) { s with heap:=s.heap.push ob,toks:=s.toks })
  (S:CompSc X.env.scope X.N scope fvs sel) (hc:X.calm=true) (hex:X.ex=[]) (hst:X.stack=X.env::X.outer) (hf:X.env.frame=some X.env.locals) (hF:PassA X EX)
  (hg1:∀C s H ex pn xe,PG (compCxX X scope (tgs++fvs) C s H ex pn xe) tg1 g1)
  (hb:∀C s H ex pn xe D it,Passes (CXE X.prog X.w) (compCxX X scope (tgs++fvs) C s H ex pn xe) EX->PBX (compCxX X scope (tgs++fvs) C s H ex pn xe) (rest D (compCxX X scope (tgs++fvs) C s H ex pn xe).env it) (.compLoop e 0 it (.ref D) (compCxX X scope (tgs++fvs) C s H ex pn xe).env) (tem D))
  {pins:Qbz}{Z:St}{s:Shared}{itv:Value}{Q:VK}
  (h2:PIE X pins Z tg1 (λJ H1=>∀acc,H1 acc=none->LoopR g1 (tem acc) (λ_ H'=>Q (.ref acc) H') (compSt tgs.length sel Z) J (upd H1 acc ho)) itv s) :
  wpAny (model X.prog X.w) X.A newAcc (λacc s3=>wpAny (model X.prog X.w) X.A (newFunctionEnv scope X.env.globals (clOf X.env scope.names []) [] X.env.qual none .none (some X.env)) (λcenv s4=>
   codeAny (model X.prog X.w) X.A (.compStart e 0 itv acc { cenv with scope:=relabel scope X.env }) (compPost (model X.prog X.w) X.A X.xe none (EP X pins Z Q) acc cenv.locals) s4) X.xe s3) X.xe s:=by
 obtain⟨it,fp,tn,J,H1,e0,I,T,st,f2,h2⟩:=h2;subst e0;have hlt:∀b∈fp,b<s.heap.objs.size:=λb hb=>let ⟨o,ho,_⟩:=T.obj 0 _ st b hb; War ho
 refine hnew s _ _<|wpAny_newFunctionEnv S.nocell (by intro y hy;simp at hy) (λh1 hns hsb=>?_) S.kind;dsimp only at hns hsb ⊢;have I3:=hok pins Z H1 s I;have hacc:H1 s.heap.objs.size=none:=I.hok.fresh<|Waj _;have h2:=h2 s.heap.objs.size hacc;generalize hs3:({ s with heap:=s.heap.push ob,toks:=s.toks }:Shared)=s3 at I3;have hh3:s3.heap=s.heap.push ob:=by rw[<- hs3]
 have old3:∀b o,s.heap.get? b=some o->s3.heap.get? b=some o:=λb o q=>by rw[hh3];exact Wac _ q
 have hf3:∀b∈fp,FpOk X pins (upd H1 s.heap.objs.size ho) b:=λb hb=>⟨by rw[Zal (Wa7<|hlt b hb)];exact(f2 b hb).1,(f2 b hb).2⟩;have hlt3:∀b∈fp,b<s3.heap.objs.size:=λb hb=>by rw[hh3,Wbr];exact Wcy<|hlt b hb
 have tn3:tn 0 s3.heap:=T.keep 0 _ _ st λb hb o q=>old3 b o q;have old4:∀b o,s3.heap.get? b=some o->h1.get? b=some o:=λb o q=>by
  have hb:b≠s3.heap.objs.size:=Wa7<|War q;rw[hh3]at hb q;exact(hsb.2 b hb).trans (Wac _ q)
 have tn4:tn 0 h1:=T.keep 0 _ _ tn3 λb hb o q=>old4 b o q;have hC:(s.heap.push ob).objs.size=s3.heap.objs.size:=by rw[hh3]
 rw[hC]at hns;have J0:=Zkr (tgs:=tgs) (tk:=s.toks+([]:List (Str × Value)).length) S I3 hf3 hlt3 hns old4;have es:({ s3 with heap:=h1,toks:=s.toks+([]:List (Str × Value)).length }:Shared) = { s with heap:=h1,toks:=s.toks+([]:List (Str × Value)).length }:=by rw[<- hs3]
 rw[es]at J0;have J0:Inv (compCxX X scope (tgs++fvs) s3.heap.objs.size s3 (upd H1 s.heap.objs.size ho) fp (X.pn++pins)<|XEc X pins Z EX s3.heap.objs.size) [] (compSt tgs.length sel Z) (upd H1 s.heap.objs.size ho) { s with heap:=h1,toks:=s.toks+([]:List (Str × Value)).length }:=Inv.withX (xe:=XEc X pins Z EX s3.heap.objs.size) J0;have G1:=hg1 s3.heap.objs.size s3 (upd H1 s.heap.objs.size ho) fp (X.pn++pins)<|XEc X pins Z EX s3.heap.objs.size;have EM:=λit=>hb s3.heap.objs.size s3 (upd H1 s.heap.objs.size ho) fp (X.pn++pins) (XEc X pins Z EX s3.heap.objs.size) s.heap.objs.size it<|Zmu I3 hex hf3;have stat:∀{H':Hp},(∀b∈fp,H' b=none)->∀b∈fp,FpOk (compCxX X scope (tgs++fvs) s3.heap.objs.size s3 (upd H1 s.heap.objs.size ho) fp (X.pn++pins)<|XEc X pins Z EX s3.heap.objs.size) [] H' b:=λhn b hb=>by
  refine⟨hn b hb,Wa7<|hlt3 b hb,λz=>?_,.inl hb,λx c e=>?_,λp hp z=>?_⟩
  ·rcases Wai.mp (I3.stkSub b z) with q|q
   ·exact(hf3 b hb).2.1 q
   ·exact(hf3 b hb).2.2.1 q
  ·exact(hf3 b hb).2.2.2.2.1 x c (Zbr _ _ (λ_ _ z=>by simp at z) e)
  ·have hp:p∈(X.pn++pins)++[]:=hp
   rw[Wbg]at hp;exact(hf3 b hb).2.2.2.2.2 p hp z
 generalize hY:compCxX X scope (tgs++fvs) s3.heap.objs.size s3 (upd H1 s.heap.objs.size ho) fp (X.pn++pins) (XEc X pins Z EX s3.heap.objs.size)=Y at J0 G1 EM stat;have hYp:Y.prog=X.prog:=by rw[<- hY];rfl
 have hYw:Y.w=X.w:=by rw[<- hY];rfl
 have hYK:Y.K=X.K:=by rw[<- hY];rfl
 have hYA:Y.A=X.A:=by rw[<- hY];rfl
 have hYc:Y.calm=true:=by rw[<- hY];exact hc
 have hYx:Y.xe=XEc X pins Z EX s3.heap.objs.size:=by rw[<- hY];rfl
 have hYe:Y.env=compEnvC scope (clOf X.env scope.names []) s3.heap.objs.size X.env:=by rw[<- hY];rfl
 have T':Turn Y.prog Y.w Y.K tg1 J fp it tn:=by rw[hYp,hYw,hYK];exact T
 have PP:PIE Y [] (compSt tgs.length sel Z) tg1 (LoopR g1 (tem s.heap.objs.size) (λ_ H'=>Q (.ref s.heap.objs.size) H')<|compSt tgs.length sel Z) (.ref it) { s with heap:=h1,toks:=s.toks+([]:List (Str × Value)).length }:=
  ⟨it,fp,tn,J,_,rfl,J0,T',tn4,stat λb hb=>(hf3 b hb).1,h2⟩
 have L:=Zle (Y:=Y) (e:=e) (d:=0) (acc:=.ref s.heap.objs.size) (RX:=XEc X pins Z EX s3.heap.objs.size) hpl hYc (hct0 s.heap.objs.size Y.env) G1 (λit=>EM it) (λx s' hx=>by
  rw[hYx]at hx;obtain⟨a,C,T0,v,H',rfl,K2,na,nT,tr,hE,⟨m,hm⟩,fr⟩:=hx;rw[hYp,hYw,hYA,hYe,Zpv (env:=compEnvC scope (clOf X.env scope.names []) s3.heap.objs.size X.env) (env':=X.env) rfl];refine Zko K2 hex hst hf tr na nT λh' T' v' K3 t1 t2 up=>⟨a,C,T',v',H',rfl,K3,na,t2,t1,hE,⟨m,up.ns hm⟩,fr⟩) PP
 have ST:=Zlm (d:=0) hpl hcls PP L;rw[hYp,hYw,hYA,hYe]at ST;show codeAny (model X.prog X.w) X.A (.compStart e 0 (.ref it) (.ref s.heap.objs.size)<|compEnvC scope (clOf X.env scope.names []) (s.heap.push ob).objs.size X.env) (compPost (model X.prog X.w) X.A X.xe none (EP X pins Z Q) (.ref s.heap.objs.size) (s.heap.push ob).objs.size) _;rw[hC];refine codeAny_mono ST λr s6 hr=>?_;rcases hr with ⟨hr,Z5,H5,I6,qn⟩|⟨x,hr,hx⟩
 ·subst hr
  obtain⟨m6,hn6,_⟩:=I6.loc;rw[hYe]at hn6;have I6':Inv (compCx X scope (tgs++fvs) s3.heap.objs.size s3 (upd H1 s.heap.objs.size ho) fp<|X.pn++pins) [] Z5 H5 s6:=Inv.noX (xe:=XEc X pins Z EX s3.heap.objs.size) (by rw[<- hY]at I6;exact I6);exact⟨m6,hn6,λh' sb=>⟨.ref s.heap.objs.size,H5,Zeh I3 hf3 I6' sb,rfl,qn⟩⟩
 ·subst hr
  obtain⟨a,C,T0,v,H',rfl,K2,na,nT,tr,hE,⟨m,hm⟩,fr⟩:=hx;refine⟨m,hm,λh' sb cenv hl=>?_⟩;obtain⟨f0,f1,f2,f3,f4,f5⟩:=I3.fpOk (Waj _) fr;have K3:Inv X pins Z H' { s6 with heap:=h' }:=K2.turned (t':=s6.toks) (it:=s3.heap.objs.size) (λb o hb e=>(sb.2 b hb).trans e) f0 f1 f3 f4 f5;obtain⟨oe,vs,oT,ts,h1,h2,h3,h4,h5,h6,h7,h8,h9⟩:=tr;obtain⟨om,es,ep,hm1,hm2,_⟩:=hm;have nea:a≠s3.heap.objs.size:=λz=>by rw[z,hm1]at h1;cases h1;rw[hm2]at h3;cases h3
  have neT:T0≠s3.heap.objs.size:=λz=>by rw[z,hm1]at h7;cases h7;rw[hm2]at h8;cases h8
  have tr':TrcV h' a C T0 v:=⟨oe,vs,oT,ts,(sb.2 a nea).trans h1,h2,h3,h4,h5,h6,(sb.2 T0 neT).trans h7,h8,h9⟩;unfold PySem.passOn;refine Qbn<|wpAny_field (s:={ s6 with heap:=h' }) ((sb.2 a nea).trans h1) h3 h4 ?_;rw[Qbv (show ¬ ((Value.ref T0 == Value.none)=true) from by simp)];refine Qbn (Zmf cenv.frame K3 hex tr' nT λh2 K4 t4=>?_);exact wpAny_throw<|hF _ _ _ _ _ _ _ _ K4 na nT t4 hE
theorem Ztn {Y:Cx}{ex:Expr}{te:TE}{c:Code}(he:PE Y ex te) (D:Addr):PBX Y (do
   (do let _ <- call (.builtin "list.append") [.ref D,<- eval ex Y.env])
   again c) c (tAppL te D):=λpins s Z H N I h=>by
 refine Qbn<|Qbn (thn (he pins s Z H _ I h) λu s1 ⟨y,H1,I1,ry,ys,ea,za,na⟩=>?_);have M:=Zce (X:=Y) _ s1 Z H1 (.ref D) [y] (.ref D) [u] (λ_ H=>N Z H) I1 rfl (.cons ry .nil) ⟨_,ys,y,rfl,rfl,ea,za,na⟩;exact Qbn (thn M λ_ sb ⟨_,Hb,Ib,_,nb⟩=>Qbo<|Qbo ⟨rfl,Z,Hb,Ib,nb⟩)
theorem Zmz {ex tg1 it1:Expr}{scope:Scope}{pos:Pos}{fvs:List Str}{sel:List Nat}{wi1:TI}{g1:TG}{te:TE}{EX:XK}(tgs:List Str) (S:CompSc X.env.scope X.N scope fvs sel) (hc:X.calm=true) (hex:X.ex=[]) (hst:X.stack=X.env::X.outer) (hf:X.env.frame=some X.env.locals) (hF:PassA X EX)
  (hi1:PI X tg1 it1 wi1) (hg1:∀C s H ex pn xe,PG (compCxX X scope (tgs++fvs) C s H ex pn xe) tg1 g1)
  (he:∀C s H ex' pn xe,Passes (CXE X.prog X.w) (compCxX X scope (tgs++fvs) C s H ex' pn xe) EX->PE (compCxX X scope (tgs++fvs) C s H ex' pn xe) ex te)
  (hs1:∀x,foldedSetIterable it1 X.env x=pure x:=by intro _;rfl) :
  PE X (.ListComp ex [⟨tg1,it1,[],0⟩] scope pos) (tCompG tgs.length sel wi1 g1 (.lst [])<|tAppL te):=by
 intro pins s Z H Q I h;rw[eval_ListComp];refine wpAny_comprehension_free (use:=none) rfl hs1 (Zb7<|Zdf S I.ok) S.kind S.names (thn (hi1 pins s Z H _ I h) λv s1 h1=>thn h1 λitv s2 h2=>?_);exact Zk6 (tgs:=tgs) (ob:={ cls:=.type "list",data:=.seq ([]:List Value).toArray }) (ho:=.lst []) (Zld _ _ _ _) rfl (λD env it=>rfl) (λs Q E q=>wpAny_newObj_type q) (λpins Z H s I=>I.lnew (its:=[]) .nil<|by decide) S hc hex hst hf hF hg1 (tem:=tAppL te) (λC s H ex pn xe D it hp=>Ztn (he C s H ex pn xe hp) D) h2
end
section
variable {K:W.Frag}{O:Evt}{E:XK}{Xp:Addr->Prop}
def JAX (K:W.Frag) (E:XK) (Xp:Addr->Prop) (t:TA) (O:Evt) (P:List D->Evt->Prop):Prop:=
 ∀g G H Z Q,EW E Xp g->Ok K g G H Z O -> (∀vs ds G' H' O',Ok K g G' H' Z O' -> Same G G' -> Reps K G' vs ds->P ds O' -> Q vs H')->t Z H Q
theorem Znf {t:TA}{P:List D->Evt->Prop}(h:JA K t O P):JAX K E Xp t O P:=λg G H Z Q _ k c=>h g G H Z Q k c
theorem Ze8 {ta:TE}{tr:TA}{P:List D->Evt->Prop}(h:JEX K E Xp ta O λd O1=>JAX K E Xp tr O1 λds O2=>P (d::ds) O2):JAX K E Xp (tCons ta tr) O P:=λg G H Z Q w k c=>
 h g G H Z _ w k λx d G1 H1 O1 k1 s1 r1 p1=>p1 g G1 H1 Z _ w k1 λvs ds G2 H2 O2 k2 s2 r2 p2=>c _ _ G2 H2 O2 k2 (s1.trans s2) (.cons (r1.mono s2) r2) p2
theorem Zw9 {r:List V->Hp->VK->Prop}{ta:TA}{P:D->Evt->Prop}(h:JAX K E Xp ta O λds O1=>JC K r ds O1 P):JEX K E Xp (tCB r ta) O P:=λg G H Z Q w k c=>
 h g G H Z _ w k λvs ds G1 H1 O1 k1 s1 r1 p1=>p1 g G1 H1 Z Q vs k1 r1<|c.up s1
theorem Zmk {ta:TA}{P:D->Evt->Prop}(h:JAX K E Xp ta O λds O1=>ds.length<=sizeLine/\P (.tup ds) O1):JEX K E Xp (tTup ta) O P:=λg G H Z Q w k c=>
 h g G H Z _ w k λvs ds G1 H1 O1 k1 s1 r1 ⟨z,p1⟩=>⟨by rw[r1.length];exact z,λp hp=>by
  obtain⟨k2,sg⟩:=k1.laid hp (.tup vs);exact c _ _ _ _ O1 k2 (s1.trans sg) (.tup Zan (r1.mono sg)) p1⟩
theorem Zqc {n:Nat}{sel:List Nat}{wi1:TI}{g1:TG}{te:TE}{P:D->Evt->Prop}
  (h:JI K wi1 O λds O1=>(∀i∈sel,∃d,O1[i]?=some (.val d))/\∃I:Nat->List D->Evt->Prop,I 0 [] (compD n sel O1) /\
   (∀i d l O2,ds[i]?=some d->I i l O2->JG K g1 d O2 λO3=>JEX K E Xp te O3 λe O4=>l.length<sizeLine/\I (i+1) (l++[e]) O4) /\
   ∀l O2,I ds.length l O2->P (.lst l) O1):JEX K E Xp (tCompG n sel wi1 g1 (.lst []) (tAppL te)) O P:=λg G H Z Q w k c=>
 h g G H Z _ k λJ ds G1 H1 O1 k1 s1 it ⟨hval,I,h0,ht,he⟩ acc hacc=>by
  have hGa:G1 acc=none:=by
   cases e:G1 acc with
   |none=>rfl
   |some u=>rw[k1.live _ _ e]at hacc;cases hacc
  have noOd:∀(i:Nat) x od,(compD n sel O1)[i]?=some x->x.od=some od->False:=λi x od e1 e2=>by
   rcases Zb4 e1 with z|⟨j,i',ei,ej,z⟩
   ·subst z;cases e2
   ·obtain⟨d,hd⟩:=hval i' (Wav ej)
    rw[hd]at z;cases z;cases e2
  have wg:∀o,EW E Xp (gInO G1 H1 acc o):=λo C H' h1 h2 h3 h4 x=>w.at k1 (λb o e=>h1 b o (λz=>z) e) x;refine⟨λi m Z' H'=>m=ds.length-i/\i<=ds.length/\∃G2 vs2 l2 O2,Reps K G2 vs2 l2/\Ok K (gInO G1 H1 acc (.lst vs2)) G2 H' Z' O2/\Same G1 G2/\I i l2 O2,⟨ds.length,by simp,Wbu _,G1,[],[],_,.nil,?_,Same.refl _,h0⟩,?_⟩
  ·refine⟨λb o hb e=>?_,λb hb=>hb.elim,Same.refl _,λb o e=>⟨?_,.inr e⟩,λb o e=>?_,?_,λi d e=>?_,λi x od e1 e2=>(noOd i x od e1 e2).elim,λi j x y od od' a e1 e2=>(noOd i x od e1 e2).elim⟩
   ·have e:H1 b=some o:=e
    rw[Zal (Zam e hacc)];exact e
   ·rw[Zal (Zam e hGa)];exact k1.live b o e
   ·have e:(if b=acc then some (HO.lst []) else none)=some o:=e
    by_cases hb:b=acc
    ·rw[Qbw hb]at e;cases e;subst hb
     exact⟨Zan,hGa,λi x od e1 e2=>(noOd i x od e1 e2).elim⟩
    ·rw[Qbv hb]at e;cases e
   ·unfold compD compSt;simp
   ·rcases Zb4 e with z|⟨j,i',ei,ej,z⟩
    ·cases z
    ·subst ei
     obtain⟨v,w1,w2⟩:=k1.val i' d z;exact⟨v,by rw[Zda ej,w1];rfl,w2⟩
  ·rintro i m Z2 H2 ⟨rfl,hi,G2,vs2,l2,O2,r2,k2,s2,h2⟩
   obtain⟨stop,go⟩:=it G2 H2 s2 k2.live;by_cases hlt:i<ds.length
   ·obtain⟨a1,a2⟩:=go i _ (Wab hlt)
    refine .inr ⟨a1,λZ' H'=>∃G3 vs3 l3 O3,Reps K G3 vs3 l3/\Ok K (gInO G1 H1 acc (.lst vs3)) G3 H' Z' O3/\Same G1 G3/\I (i+1) l3 O3,λZ' H' p'=>⟨ds.length-(i+1),by omega,rfl,hlt,p'⟩,λx H3 y=>?_⟩;obtain⟨G3,b1,b2,b3,b4⟩:=a2 x H3 y;have k3:=k2.grow b1 b2 b3;refine ht i _ l2 O2 (Wab hlt) h2 _ G3 H3 Z2 x _ k3 b4 λZ4 G4 H4 O4 k4 s4 p4=>?_;refine p4 _ G4 H4 Z4 _ (wg _) k4 λy d Ga Ha Oa ka sa r ⟨hl,p⟩=>?_;have ra':Reps K Ga vs2 l2:=r2.mono<|b1.trans<|s4.trans sa;obtain⟨w1,w2,w3⟩:=Zhl ka;exact⟨vs2,w1,by rw[ra'.length];exact hl,Ga,vs2++[y],l2++[d],Oa,Reps.append ra' (.cons r .nil),Zpn hacc ka,s2.trans<|b1.trans<|s4.trans sa,p⟩
   ·have e:i=ds.length:=by omega
    subst e;obtain⟨w1,w2,w3⟩:=Zhl k2;refine .inl ⟨stop,?_⟩;have k9:Ok K g G2 H2 Z O1:=k1.grow s2 (λb o e=>k2.same b o (λz=>z) e) λb o e=>by
     obtain⟨f1,f2⟩:=k2.frz b o e;exact⟨f1,f2.symm⟩
    have pd:Pend K g G2 H2 Z O1 acc (.lst l2):=⟨.lst vs2,w1,r2,w2,k1.there hacc,(by
     cases q:g.Xo acc with
     |none=>rfl
     |some u=>have z:=(k1.ext acc u q).1;rw[hacc]at z;cases z),λi x od e1 e2 e3=>by
     obtain⟨a,oo,v1,v2,_⟩:=k1.own i x od e1 e2;rw[e3]at v1;cases v1;rw[hacc]at v2;cases v2⟩
    obtain⟨k10,sg,r10⟩:=k9.freeze pd w1;exact c _ _ _ H2 O1 k10 (s1.trans<|s2.trans sg) r10<|he l2 O2 h2
theorem Zv6 {wi:TI}{t:TG}{tb:TS}{nx bk ct:Evt->Prop}{rt:D->Evt->Prop}{ro:OD->Evt->Prop}(h:JI K wi O λds O1=>∃I:Nat->Evt->Prop,I 0 O1/\(∀i d O2,ds[i]?=some d->I i O2->JG K t d O2 λO3=>JX K E Xp tb O3 ⟨I<|i+1,rt,nx,I<|i+1,ro⟩)/\∀O2,I ds.length O2->nx O2) :
  JX K E Xp (tFor wi t tb) O ⟨nx,rt,bk,ct,ro⟩:=λg G H Z D w k c=>
 h g G H Z _ k λJ ds G1 H1 O1 k1 s1 it hq_=>by
  obtain⟨I,h0,ht,he⟩:=hq_;refine⟨λi m Z H=>m=ds.length-i/\i<=ds.length/\∃G O,Ok K g G H Z O /\ Same G1 G/\I i O,⟨ds.length,by simp,Wbu _,G1,O1,k1,Same.refl _,h0⟩,?_⟩;rintro i m Z2 H2 ⟨rfl,hi,G2,O2,k2,s2,h2⟩;obtain⟨stop,go⟩:=it G2 H2 s2 k2.live;by_cases hlt:i<ds.length
  ·obtain⟨g1,g2⟩:=go i _ (Wab hlt)
   refine .inr ⟨g1,λZ' H'=>i+1<=ds.length/\∃G O,Ok K g G H' Z' O /\ Same G1 G/\I (i+1) O,λZ' H' p'=>⟨ds.length-(i+1),by omega,rfl,p'.1,p'.2⟩,λx H3 y=>?_⟩;obtain⟨G3,a1,a2,a3,a4⟩:=g2 x H3 y;have k3:=k2.grow a1 a2 a3;have w3:EW E Xp { g with F:=G3,Xo:=g.Xo }:=λC H' h1 h2 h3 h4 x=>w C H' h1 h2 (λb o e=>h3 b o<|k3.sub b o e) h4 x;refine ht i _ O2 (Wab hlt) h2 { g with F:=G3,Xo:=g.Xo } G3 H3 Z2 x _ ?_ a4 λZ4 G4 H4 O4 k4 s4 p4=>?_
   ·exact⟨k3.same,k3.lent,Same.refl _,λb o q=>⟨(k3.frz b o q).1,.inr q⟩,k3.ext,k3.len,k3.val,k3.own,k3.dis⟩
   ·have cv:∀{G5 H5:Hp}{Z5:St}{O5:Evt},Ok K { g with F:=G3,Xo:=g.Xo } G5 H5 Z5 O5->Ok K g G5 H5 Z5 O5/\Same G1 G5:=λ{G5 H5 Z5 O5} k5=>
     ⟨⟨k5.same,k5.lent,k3.sub.trans k5.sub,λb o q=>by
      obtain⟨q1,q2⟩:=k5.frz b o q;refine⟨q1,?_⟩;rcases q2 with z|z
      ·exact .inl z
      ·exact(k3.frz b o z).2,k5.ext,k5.len,k5.val,k5.own,k5.dis⟩,s2.trans (a1.trans k5.sub)⟩
    refine p4 _ G4 H4 Z4 _ w3 k4 ⟨λZ5 G5 H5 O5 k5 p5=>?_,λv d Z5 G5 H5 O5 k5 r5 p5=>?_,λZ5 G5 H5 O5 k5 p5=>?_,λZ5 G5 H5 O5 k5 p5=>?_,λa od Z5 G5 H5 O5 k5 pd5 p5=>?_⟩
    ·exact⟨hlt,G5,O5,(cv k5).1,(cv k5).2,p5⟩
    ·exact c.rt v d Z5 G5 H5 O5 (cv k5).1 r5 p5
    ·exact c.nx Z5 G5 H5 O5 (cv k5).1 p5
    ·exact⟨hlt,G5,O5,(cv k5).1,(cv k5).2,p5⟩
    ·exact c.ro a od Z5 G5 H5 O5 (cv k5).1 pd5 p5
  ·have e:i=ds.length:=by omega
   subst e;exact .inl ⟨stop,c.nx Z2 G2 H2 O2 k2<|he O2 h2⟩
end
section
variable {K:W.Frag}{O:Evt}
end
section
variable {K:W.Frag}{O:Evt}{P:D->Evt->Prop}
end
open PySem PySem.Spec PyProof.Rows PySem.SeqAt
def rNeIL (K:W.Frag):R2:=λx y H Q=>∃(a b:Addr) (ns ms:List Int),x=.ref a/\y=.ref b/\SqL K H a (ns.map V.int)/\SqL K H b (ms.map V.int)/\Q (.bl (!decide (ns=ms))) H
theorem Zp5 {ns ms:List Int}(h:ns.length=ms.length):((Wb2 ns.length).all λj=>ns.getD j 0 == ms.getD j 0)=decide (ns=ms):=by
 rw[Wcg,Wa4,decide_eq_true_eq];constructor
 ·intro z
  refine List.ext_getElem h λi h1 h2=>?_;have:=z i<|Wbp.mpr h1;rw[Waq,Waq,Wab h1,Wab h2]at this;exact eq_of_beq this
 ·rintro rfl j _
  exact beq_self_eq_true _
section
variable {X:Cx}
theorem neILK (K:W.Frag) (hv:X.A.units+8<cLine) (hK:X.K=K:=by rfl):OpR X (compareOp .NotEq) (rNeIL K):=by
 subst hK;intro pins s Z H x y v u Q I rx ry h;obtain⟨a,b,ns,ms,rfl,rfl,ha,hb,q⟩:=h;cases rx;cases ry;obtain⟨its,w1,p1,_⟩:=I.list ha;obtain⟨its2,w2,p2,_⟩:=I.list hb;have i1:=Zd1 w1;have i2:=Zd1 w2;have l1:=i1.length;have l2:=i2.length;by_cases hl:ns.length=ms.length
 ·have hsz:its.toArray.size=its2.toArray.size:=by rw[Wae,Wae];omega
  refine RcNeAt.lists (A:=X.A) (s:=s) (e:=λj=>ns.getD j 0 == ms.getD j 0) p1.isList p2.isList hsz (by omega) (λj h1 h2=>?_) X.prog X.w _ _ ?_
  ·rw[Wae]at h1 h2
   obtain⟨t1,e1⟩:=intsAt i1 j h1;obtain⟨t2,e2⟩:=intsAt i2 j h2;rw[Wbh,Wbh,e1,e2];exact EqAt.int_int (A:=X.A.in1) (s:=s) (ns.getD j 0) t1 (ms.getD j 0) t2
  ·rw[Wae,show its.length=ns.length by omega,Zp5 hl]
   exact⟨.bl _,H,I,rfl,q⟩
 ·have hne:(its.toArray.size != its2.toArray.size)=true:=by
   rw[Wae,Wae,bne_iff_ne];omega
  refine RcNeAt.lists_lengths (A:=X.A) (s:=s) p1.isList p2.isList hne (by omega) X.prog X.w _ _ ?_;rw[Qby (λz=>hl<|by rw[z])]at q;exact⟨.bl _,H,I,rfl,q⟩
end
section
variable {K:W.Frag}{O:Evt}
theorem Zsx {P:D->Evt->Prop}{ns ms:List Int}(p:P (.bl (!decide (ns=ms))) O):JR2 K (rNeIL K) (.lst<|ns.map .int) (.lst<|ms.map .int) O P:=λg G H Z Q x y k rx ry c=>by
 obtain⟨a,vs,rfl,ha,rs⟩:=rx.inv;obtain⟨b,us,rfl,hb,rt⟩:=ry.inv;have e1:=rs.ints;have e2:=rt.ints;subst e1 e2;exact⟨a,b,ns,ms,rfl,rfl,SqL.of<|k.live _ _ ha,SqL.of<|k.live _ _ hb,c _ _ G H O k (Same.refl _) (.bl _) p⟩
theorem Zkw {n:Nat}{ti:TE}{d:D}{P:Evt->Prop}(hx:∃x od,O[n]?=some x/\x.od=some od) (h:JE K ti O λe O2=>∃x ds i j,O2[n]?=some x/\x.od=some (.lst ds)/\e=.int i/\ixN ds.length i=some j/\P (O2.set n<|x.put (.lst<|ds.set j d))) :
  JG K (gSub (tVar n) ti rSetU) d O P:=λg G H Z v R k r c=>by
 obtain⟨x,od,hx,ho⟩:=hx;obtain⟨a,o,h1,h2,h3,h4,h5⟩:=k.own n x _ hx ho;refine⟨.ref a,h1,h g G H Z _ k λu e G2 H2 O2 k2 s2 r2 ⟨y,ds,i,j,q1,q2,q3,q4,p⟩=>?_⟩;subst q3;cases r2.inv;obtain⟨a',o',w1,w2,w3,w4,w5⟩:=k2.own n y _ q1 q2;rw[h1]at w1;cases w1;cases o' with
 |lst vs=>
  have w3:Reps K G2 vs ds:=w3;exact .inl ⟨a,vs,i,j,rfl,rfl,w2,by rw[w3.length];exact q4,c Z G2 _ _ (k2.write q1 q2 h1 (show OwnRep K G2 (.lst<|vs.set j v) (.lst<|ds.set j d) from w3.set j (r.mono s2))) s2 p⟩
 |_=>exact absurd w3 (λz=>z)
end
open PySem PySem.Spec PyProof.Rows PySem.SeqAt
def rSmL (K:W.Frag) (r:Bool):R2:=λx y H Q=>Q (.bl r) H/\∃(G:Hp) (n:Nat) (a b:Addr) (xs ys:List V) (ds:List D),Same G H/\Reps K G xs ds/\Reps K G ys ds/\ds.all (Sm n)=true/\n<=5/\x=.ref a/\y=.ref b/\SqL K H a xs/\SqL K H b ys
def rSmA (K:W.Frag) (r:Bool):R2:=λx y H Q=>rSmT K r x y H Q\/rSmL K r x y H Q
section
variable {X:Cx}
theorem eqSmLK (K:W.Frag) (hv:X.A.units+8<cLine) (hK:X.K=K:=by rfl):OpR X (compareOp .Eq) (rSmL K true):=by
 subst hK;intro pins s Z H x y v u Q I rx ry h;obtain⟨q,G,n,a,b,xs,ys,ds,sg,ra,rb,hd,hn,rfl,rfl,h1,h2⟩:=h;cases rx;cases ry;obtain⟨its,w1,p1,_⟩:=I.list h1;obtain⟨its2,w2,p2,_⟩:=I.list h2;have l1:=w1.length;have l2:=w2.length;have l3:=ra.length;have l4:=rb.length;have z:=RcAt.lists (A:=X.A) (s:=s) (e:=λ_=>true) p1.isList p2.isList (by rw[Wae,Wae];omega) (by omega) λj h1 h2=>by
  have h1':j<its.length:=by simpa using h1
  have h2':j<its2.length:=by simpa using h2
  have hx:j<ds.length:=by omega
  obtain⟨p,hp1,hp2⟩:=ra.get<|Wab hx;obtain⟨q,hq1,hq2⟩:=rb.get<|Wab hx;obtain⟨va,hv1,hv2⟩:=w1.get hp1;obtain⟨vb,hw1,hw2⟩:=w2.get hq1;rw[Wab h1']at hv1;rw[Wab h2']at hw1;rw[Wbh,Wbh,Waw.inj hv1,Waw.inj hw1];exact Zdh n I sg hp2 hq2 hv2 hw2 (Wa4.mp hd _<|Wbd hx) (by show X.A.units+1+n<cLine;omega)
 rw[Wa4.mpr (λ_ _=>rfl)]at z;exact z X.prog X.w _ _ ⟨.bl _,H,I,rfl,q⟩
theorem eqAK (K:W.Frag) (hv:X.A.units+8<cLine) (hK:X.K=K:=by rfl):OpR X (compareOp .Eq) (rSmA K true):=by
 intro pins s Z H x y v u Q I rx ry h;rcases h with h|h
 ·exact eqSmTK K hv hK pins s Z H x y v u Q I rx ry h
 ·exact eqSmLK K hv hK pins s Z H x y v u Q I rx ry h
theorem neAK (K:W.Frag) (hv:X.A.units+8<cLine) (hK:X.K=K:=by rfl):OpR X (compareOp .NotEq) (rSmA K false):=by
 intro pins s Z H x y v u Q I rx ry h;rcases h with h|h
 ·exact neSmTK K hv hK pins s Z H x y v u Q I rx ry h
 ·exact neSmK K hv hK pins s Z H x y v u Q I rx ry h
end
theorem Znu {K:W.Frag}{O:Evt}{r:Bool}{P:D->Evt->Prop}{n:Nat}{ds:List D}(hn:n<=5) (h:ds.all (Sm n)=true) (p:P (.bl r) O):JR2 K (rSmA K r) (.lst ds) (.lst ds) O P:=λg G H Z Q x y k rx ry c=>by
 obtain⟨_,_,rfl,ha,ra⟩:=rx.inv;obtain⟨_,_,rfl,hb,rb⟩:=ry.inv;exact .inr ⟨c _ _ G H O k (Same.refl _) (.bl r) p,G,n,_,_,_,_,ds,k.live,ra,rb,h,hn,rfl,rfl,SqL.of<|k.live _ _ ha,SqL.of<|k.live _ _ hb⟩
section
variable {prog:Program}{w:World}{A:Around}{E:Qb0}{h:Heap}{g:Array GenState}{d:Drawn}{t:Nat}{os:OsState}
variable {nm q:Str}{C N:Addr}{bs bm bmB:List Value}{hdct:Bool}{sn:List Str}{sub:List Value}{ab:Bool}{col:Option Bool}{dd:Option Addr}{k0 k1 k2 k3 k5:Option Value}{B newId initId:String}
theorem Zfr (F:ExcBaseFacts B newId initId bmB) (T:OwnTail h bmB bm) {mN:Str->Option Value}{rest:List Value}{fI:Addr}{oI:Obj}{Q:Fin->Shared->Prop}
  (hC:h.get? C=some (excClassObj nm q C N bs bm hdct sn sub ab col dd k0 k1 k2 k3 k5 newId)) (hn:h.Ns N mN) (hi:mN "__init__" = some (.ref fI))
  (hfI:h.get? fI=some oI) (hfc:oI.cls=.type "function")
  (hq:∀h' e,Heap.MadeExcOf h h' e (.ref C) rest ->
   wpAny (model prog w) A (call (.ref fI) (.ref e::rest)) (λr s'=>r=.none/\Q (.done (.ret (.ref e))) s') E ⟨h',g,d,t,os⟩) (hrest:rest.length<=sizeLine) :
  wpAny (model prog w) A (Builtin.«type.__call__» ⟨.ref C::rest,[]⟩) Q E ⟨h,g,d,t,os⟩:=by
 repeat (first|with_reducible refine wpAny_loadPart_at hC ?_|with_reducible refine wpAny_madeBy_exc hC ?_|wp_step)
 refine codeAny_call_builtin_code (Code.quiet_builtin _ F.quiet)<|wpAny_check_new_subT F T hC ?_;refine codeAny_exc_new_subT F T hC ?_ hrest;show wpAny _ _ _ _ _ _;have hC₁:=Wac { cls:=.ref C,data:=.fields #[.ref h.objs.size,.none,.none,.none,.bool false,.none] }
  (Wac { cls:=.type "tuple",data:=.seq rest.toArray } hC)
 have hfI₁:=Wac { cls:=.ref C,data:=.fields #[.ref h.objs.size,.none,.none,.none,.bool false,.none] }
  (Wac { cls:=.type "tuple",data:=.seq rest.toArray } hfI)
 have hn₁:((h.push { cls:=.type "tuple",data:=.seq rest.toArray }).push { cls:=.ref C,data:=.fields #[.ref h.objs.size,.none,.none,.none,.bool false,.none] }).Ns N mN:=
  let ⟨o,es,ep,e,r⟩:=hn; ⟨o,es,ep,Wac _<|Wac _ e,r⟩
 have hget:((h.push { cls:=.type "tuple",data:=.seq rest.toArray }).push
   { cls:=.ref C,data:=.fields #[.ref h.objs.size,.none,.none,.none,.bool false,.none] }).get? (h.objs.size+1)=some
   { cls:=.ref C,data:=.fields #[.ref h.objs.size,.none,.none,.none,.bool false,.none] }:=by heap_get
 have hcC:(Value.ref C::bm).contains (.ref C)=true:=by simp
 have T₁:=T.keeps (h':=(h.push { cls:=.type "tuple",data:=.seq rest.toArray }).push { cls:=.ref C,data:=.fields #[.ref h.objs.size,.none,.none,.none,.bool false,.none] })
  λb o e=>Wac _<|Wac _ e
 unfold isInstance
 repeat (first|with_reducible refine wpAny_loadPart_at hget ?_|(with_reducible refine wpAny_isSubtype_exc hC₁ ?_;rw[hcC])|wp_step)
 show wpAny _ _ (typeLookup (.ref C) _) _ _ _;refine wpAny_typeLookup_tail hC₁ hn₁ T₁ F.mroIs F.init.lookup ?_;rw[hi];refine Qbq<|Qbn ?_;unfold bindSpecial;refine Qbn<|wpAny_typeOf (T:="function") ⟨_,hfI₁,hfc⟩ ?_;rw[Qbw (by decide)];refine Qbo<|Qbn (Qbp (hq _ (h.objs.size+1) ⟨λb o hb=>Wac _<|Wac _ hb,Wcl<|Wdb _,h.objs.size,hget,Wcl<|Waj _,?_⟩) (λr s' hr=>?_) λ_ _ x=>x)
 ·exact Wac _<|Heap.get?_push_at rfl rfl
 ·obtain⟨rfl,hQ⟩:=hr
  wp_walk
  exact hQ
theorem Zlq (F:ExcBaseFacts B newId initId bmB) (T:OwnTail h bmB bm) {mN:Str->Option Value}{rest:List Value}{fI:Addr}{oI:Obj}{Q:Qb0}
  (hC:h.get? C=some (excClassObj nm q C N bs bm hdct sn sub ab col dd k0 k1 k2 k3 k5 newId)) (hn:h.Ns N mN) (hi:mN "__init__" = some (.ref fI))
  (hfI:h.get? fI=some oI) (hfc:oI.cls=.type "function")
  (hq:∀h' e,Heap.MadeExcOf h h' e (.ref C) rest ->
   wpAny (model prog w) (A.under (.builtin "type.__call__" ⟨.ref C::rest,[]⟩)) (call (.ref fI) (.ref e::rest)) (λr s'=>r=.none/\Q (.ref e) s') E ⟨h',g,d,t,os⟩) (hrest:rest.length<=sizeLine) :
  wpAny (model prog w) A (call (.ref C) rest) Q E ⟨h,g,d,t,os⟩:=by
 have f1:=tc_lookup;have f2:=tc_bind (.ref C);have hT:(⟨h,g,d,t,os⟩:Shared).TypeIs (.ref C) "type":=⟨_,hC,rfl⟩;refine Qbu<|codeAny_of_tree ?_;show wpAny _ _ (callAny (.ref C) _) _ _ _
 repeat (any_goals (first|assumption|with_reducible refine wpAny_loadPart_at hC ?_|wp_step))
 refine⟨rfl,?_⟩;refine codeAny_call_builtin_at (Code.quiet_builtin _ (by decide +kernel)) entry_typeCall<|wpAny_check_type_call_sub hC (Zfr (hrest:=hrest) F T hC hn hi hfI hfc λh' e hm=>?_);exact hq h' e hm
end
def excInI (K:W.Frag) (C f:Addr):Bool:=match K.lookup C with
 |some ⟨.type "type",_,.cls cd,sl⟩=>(match cd.mro,sl.toList with
  |.ref C'::bm,[_,_,_,_,some (.builtin n),_]=>C' == C && n == "ValueError.__new__" && !cd.hasDel && PySem.W.tailIn K [.type "ValueError",.type "Exception",.type "BaseException",.type "object"] bm && PySem.W.nsOkIn K cd.ns && W.nsIn K cd.ns "__init__" == some (some (.ref f))
  |_,_=>false)
 |_=>false
def ExcOI (h:Heap) (C f:Addr) (bm:List Value):Prop:=∃N nm qn bs hd sn sub ab col dd k0 k1 k2 k3 k5 mN,h.get? C=some (excClassObj nm qn C N bs bm hd sn sub ab col dd k0 k1 k2 k3 k5 "ValueError.__new__")/\h.Ns N mN/\mN "__init__" = some (.ref f)/\OwnTail h [.type "ValueError",.type "Exception",.type "BaseException",.type "object"] bm
theorem Zlt {K:W.Frag}{h:Heap}{N:Addr}{mg:Str->Option Value}{n:Str}{v:Value}(X:K.In h) (G:h.Ns N mg) (e:W.nsIn K N n=some (some v)):mg n=some v:=by
 obtain⟨o,es,ep,ho,hd,_,hf⟩:=G;unfold W.nsIn at e;split at e
 ·rename_i c d es' n' sl q
  have:=X _ _ q;rw[ho]at this;cases this;cases hd;split at e
  ·rename_i en he
   cases e;rw[<- hf];unfold nsFind findBy;rw[<- Array.find?_toList,he];rfl
  ·split at e <;> cases e
 ·cases e
theorem Zdi {K:W.Frag}{h:Heap}{C f:Addr}(X:K.In h) (q:excInI K C f=true):∃bm,ExcOI h C f bm/\(∀v b,PySem.W.mroIn K C v=some b->(Value.ref C::bm).contains v=b)/\∃cd,PySem.W.clsIn K C=some cd/\cd.mro=.ref C::bm:=by
 unfold excInI at q;split at q
 next dd cd sl e=>
  split at q
  next C' bm k0 k1 k2 k3 n k5 e1 e2=>
   rw[Wa6,Wa6,Wa6,Wa6,Wa6]at q;obtain⟨⟨⟨⟨⟨q1,q2⟩,q3⟩,q4⟩,q5⟩,q6⟩:=q;have q1:=beq_iff_eq.mp q1;have q2:=beq_iff_eq.mp q2;rw[Bool.not_eq_true']at q3;subst q1;cases cd with
   |mk nm bs mro ns qn hd sn sub ab col del=>
    dsimp only at e1 q3 q5 q6;have q7:=beq_iff_eq.mp q6;subst e1;subst q3;have e3:sl = #[k0,k1,k2,k3,some (.builtin n),k5]:=by
     cases sl with
     |mk l=>exact congrArg Array.mk e2
    subst e3;subst q2;have G:h.Ns ns (h.nsMap ns):=.of_isNs<|PySem.W.isNs_of_in X q5;refine⟨bm,⟨ns,nm,qn,bs,hd,sn,sub,ab,col,dd,k0,k1,k2,k3,k5,_,X _ _ e,G,Zlt X G q7,PySem.W.tail_of_in X q4⟩,λv b hv=>?_,_,by unfold PySem.W.clsIn;rw[e],rfl⟩;unfold PySem.W.mroIn PySem.W.clsIn at hv;rw[e]at hv;have hv:some ((Value.ref C'::bm).contains v)=some b:=hv;exact Waw.inj hv
  next=>cases q
 next=>cases q
theorem Zjf (self:Value) {h:Heap}:∀{l:List Value},OwnTail h [.type "ValueError",.type "Exception",.type "BaseException",.type "object"] l->refuseLoop self "__setattr__" l=pure ():=λT=>by
 induction T with
 |base=>exact PySem.F.store_ValueError.passes self
 |own _ _ _ _ ih=>rw[refuseLoop_ref];exact ih
section
variable {prog:Program}{w:World}{A:Around}{K:W.Frag}{s:Shared}{x C f:Addr}
open PySem.W in
theorem Zpa {ox:Obj}{od:Option Obj}{name:Str}{tk:Tok}{v:Value}{R:Result->Shared->Prop}(X:K.In s.heap) (I:PySem.W.InstAt s.heap x ox C od) (hc0:excInI K C f=true) (hob:PySem.W.mroIn K C (.type "object")=some true) (ht:PySem.W.takerIn K C name=some none)
  (h:∀b,wpAny (model prog w) A.in1 (Builtin.ObjectAttr.storeInOwnDict (.ref x) (.ref C) (.str name tk) name v b)
   (λfin s'=>match fin with|.done f=>R (.ok f) s'|.again c'=>c'.quiet=true/\codeAny (model prog w) A c' R s') (λe s'=>R (.error e) s') s) :
  codeAny (model prog w) A (.call (.builtin "object.__setattr__") ⟨[.ref x,.str name tk,v],[]⟩) R s:=by
 have SF:=PySem.F.store_object;obtain⟨bm,⟨_,_,_,_,_,_,_,_,_,_,_,_,_,_,_,_,_,_,_,T⟩,hmro,cd,hc,hm0⟩:=Zdi X hc0;have sub:Looks (model prog w) s.heap (isInstance (.ref x) (.type "object")) true:=I.type.andThen<|looks_mroIn X hob;refine codeAny_call_builtin SF.slot.plain SF.entry (@check_slot (model prog w) _ _ s "object.__setattr__" "object" "__setattr__" (.ref x) [.str name tk,v] [] _ SF.kind SF.split sub (SF.args (.ref x) (.str name tk) v) ?_);obtain⟨attr,ha,hr⟩:=Option.bind_eq_some_iff.mp ht;have hm:Looks (model prog w) s.heap (mroOf (.ref C)) (.ref C::bm):=by rw[<- hm0];exact(looks_clsIn X hc).andThen .now
 have L3:Looks (model prog w) s.heap (Builtin.ObjectAttr.storeTaker? attr) none:=by
  cases attr with
  |none=>cases hr;exact .now
  |some a=>
   obtain⟨b,hb,e⟩:=Wda.mp hr;refine(looks_takesIn X hb).andThen ?_;cases b with
   |true=>cases e
   |false=>exact .now
 rw[osa_eq,refuse_eq];refine Qbn<|Qbn<|I.type.here<|Qbn<|hm.here ?_;rw[refuseLoop_ref,Zjf _ T];refine Qbo<|Qbn<|I.type.here<|Qbn ((looks_findIn X ha).here (Qbn<|L3.here ?_));exact h _
theorem Zug {ox:Obj}{vs:Array Value}{name:Str}{v:Value}{E:Qb0}{Q:Unit->Shared->Prop}(X:K.In s.heap) (hx:s.heap.get? x=some ox) (hcl:ox.cls=.ref C) (hdn:ox.dict=none) (hdat:ox.data=.fields vs)
  (hc0:excInI K C f=true) (hob:PySem.W.mroIn K C (.type "object")=some true) (hs:PySem.W.findIn K (.ref C) "__setattr__" = some (some (.builtin "object.__setattr__"))) (ht:PySem.W.takerIn K C name=some none) (hh:PySem.W.hasDictIn K C=true)
  (h:∀h' dx tk',h'.Ns1 dx (λy=>if y=name then some v else none)->dx≠x->s.heap.get? dx=none->h'.get? x=some { ox with dict:=some dx } -> (∀b o,b≠x->s.heap.get? b=some o->h'.get? b=some o)->Q () { s with heap:=h',toks:=tk' }) :
  wpAny (model prog w) A (setAttr (.ref x) name v) Q E s:=by
 have I:PySem.W.InstAt s.heap x ox C none:=⟨hx,hcl,by unfold PySem.W.notCls;rw[hdat],by rw[hdn];trivial⟩;refine PySem.W.set_plain X I hs (Zpa (s:={ s with toks:=s.toks+1 }) (f:=f) X I hc0 hob ht λb=>?_);obtain⟨cd,hc,hd'⟩:=PySem.W.any_some hh;obtain⟨oc,odi,oda,osl⟩:=ox;dsimp only at hcl hdn hdat;subst hcl hdn hdat;refine Qbn<|Qbo<|Qbn<|Qbn<|wpAny_loadPart hx<|Qbn<|PySem.W.Looks.here (s:={ s with toks:=s.toks+1 }) (PySem.W.looks_clsIn X hc) ?_;rw[hd'];rw[Qbv (by decide)];show wpAny _ _ (if (!true || !typeHasDict (Value.ref C))=true then _ else _) _ _ _;rw[Qbv (by simp[typeHasDict])];have hx₁:(s.heap.push { cls:=.type "dict",data:=.dict #[] }).get? x=some { cls:=.ref C,dict:=none,data:=.fields vs,slots:=osl }:=Wac _ hx;have hxs:x≠s.heap.objs.size:=Wa7<|War hx;refine Qbn<|wpAny_alloc' ?_;refine Qbn<|wpAny_update' hx₁ ?_;refine Qbo ?_;have hgd:((s.heap.push { cls:=.type "dict",data:=.dict #[] }).update x λo=>{ cls:=o.cls,dict:=some s.heap.objs.size,data:=o.data,slots:=o.slots }).get? s.heap.objs.size
   = some { cls:=.type "dict",data:=.dict #[] }:=
  (Heap.get?_update_ne _ _ _ _ hxs.symm).trans (Heap.get?_push_at rfl rfl)
 have hnd:((s.heap.push { cls:=.type "dict",data:=.dict #[] }).update x λo=>{ cls:=o.cls,dict:=some s.heap.objs.size,data:=o.data,slots:=o.slots }).Ns s.heap.objs.size (λ_=>none):=
  ⟨_,#[],_,hgd,rfl,λe he=>absurd he (by simp),λ_=>rfl⟩
 show wpAny _ _ (Builtin.ObjectAttr.storeInDict s.heap.objs.size (.str name s.toks) name v) _ _ _;unfold Builtin.ObjectAttr.storeInDict Builtin.ObjectAttr.newKeyGuard;refine Qbn<|Qbo<|Qbn (wpAny_nsSet1 (Heap.Ns1.of_empty hnd) λh' hn' hs=>?_);obtain⟨oD,esD,epD,hoD,hdD,hcD⟩:=hn'.count<|PySem.Within.cons name v PySem.Within.nil;refine Qbn<|wpAny_lookBehind hoD (by rw[hdD];exact pastItsLine_dict<|Way hcD (by rw[Wag,List.length_nil,sizeLine_eq];omega)) ?_;refine Qbo ?_;have hx':h'.get? x=some { cls:=.ref C,dict:=some s.heap.objs.size,data:=.fields vs,slots:=osl }:=(hs.2 x hxs).trans (Wbi _ hx₁ rfl);exact h h' s.heap.objs.size _ hn' hxs.symm (Wcl<|Waj _) hx' λb o hb e=>(hs.2 b<|Wa7<|War e).trans ((Heap.get?_update_ne _ _ _ _ hb).trans (Wac _ e))
end
def InsN (a C:Addr) (h:Heap):Prop:=∃t,h.get? a=some { cls:=.ref C,data:=.fields #[.ref t,.none,.none,.none,.bool false,.none] }
def InsW (a C dx:Addr) (h:Heap):Prop:=∃t,h.get? a=some { cls:=.ref C,dict:=some dx,data:=.fields #[.ref t,.none,.none,.none,.bool false,.none] }
structure ExcS (K:W.Frag) (C g:Addr) (f:Str):Prop where
 cl:excInI K C g=true
 ob:PySem.W.mroIn K C (.type "object")=some true
 sa:PySem.W.findIn K (.ref C) "__setattr__" = some (some (.builtin "object.__setattr__"))
 tk:PySem.W.takerIn K C f=some none
 hd:PySem.W.hasDictIn K C=true
def cutH (H:Hp) (a:Addr):Hp:=λb=>if b=a then none else H b
theorem Zh4 {H:Hp}{a:Addr}:cutH H a a=none:=by unfold cutH;rw[Qbw rfl]
theorem Ze4 {H:Hp}{a b:Addr}(h:b≠a):cutH H a b=H b:=by unfold cutH;rw[Qbv h]
section
variable {X:Cx}{pins:Qbz}{Z:St}{H:Hp}{s:Shared}{a:Addr}{o:HO}
theorem Inv.trackN (I:Inv X pins Z H s) (n:Nw X pins H a) (ok:ObjOk X.prog X.w (upd H a o) s.heap a o):Inv X pins Z (upd H a o) s:=by
 have keep:∀b,b≠a->upd H a o b=H b:=λb hb=>Zal hb;have nn:∀b u,H b=some u->b≠a:=λb u e z=>by subst z;rw[n.trk]at e;cases e
 refine⟨I.ok,I.os,I.bare,⟨I.base.keep,I.base.slot,λb o e q hx=>?_,I.base.there,λb xs e=>?_,λb o u e=>?_,λb ps e=>?_⟩,I.loc,I.cell,?_,λx c e=>?_,λp hp=>?_,λb u e=>?_,I.len⟩
 ·rw[keep b (λz=>by subst z;rw[n.old]at e;cases e)];exact I.base.free b o e q hx
 ·have q:=I.base.tups b xs e
  rw[keep b (nn b _ q)];exact q
 ·have q:=I.base.frzs b o u e
  rw[keep b (nn b _ q)];exact q
 ·obtain⟨m,q⟩:=I.base.tbls b ps e
  exact⟨m,by rw[keep b (nn b _ q)];exact q⟩
 ·rw[keep _ (Ne.symm n.loc)];exact I.free
 ·rw[keep _ (n.cel x c e)];exact I.freeC x c e
 ·obtain⟨e,q,r⟩:=I.pin p hp
  exact⟨e,by rw[keep _ (n.pin p hp)];exact q,r⟩
 ·by_cases hb:b=a
  ·subst hb
   rw[Zan]at e;cases e;exact ok
  ·rw[keep b hb]at e
   refine(I.hok b u e).stay (λc v _ q=>q) (λc q=>?_) λc xs q=>?_
   ·rw[keep c (nn c _ q)];exact q
   ·rw[keep c (nn c _ q)];exact q
theorem Inv.untrackE (I:Inv X pins Z H s) (he:∃ φ,H a=some (.ext φ)):Inv X pins Z (cutH H a) s:=by
 obtain⟨φ,he⟩:=he;have nn:∀b u,H b=some u->(∀ φ,u≠.ext φ)->b≠a:=λb u e z q=>by subst q;rw[he]at e;exact z _ (Waw.inj e).symm
 have nf:∀b,H b=none->cutH H a b=none:=λb e=>by
  by_cases q:b=a
  ·subst q;exact Zh4
  ·rw[Ze4 q];exact e
 refine⟨I.ok,I.os,I.bare,⟨I.base.keep,I.base.slot,λb o e q hx=>nf _<|I.base.free b o e q hx,I.base.there,λb xs e=>?_,λb o u e=>?_,λb ps e=>?_⟩,I.loc,I.cell,nf _ I.free,λx c e=>nf _<|I.freeC x c e,λp hp=>?_,λb u e=>?_,I.len⟩
 ·have q:=I.base.tups b xs e
  rw[Ze4 (nn b _ q λ_ z=>by cases z)];exact q
 ·have q:=I.base.frzs b o u e
  rw[Ze4 (nn b _ q λ_ z=>by cases z)];exact q
 ·obtain⟨m,q⟩:=I.base.tbls b ps e
  exact⟨m,by rw[Ze4 (nn b _ q λ_ z=>by cases z)];exact q⟩
 ·obtain⟨e,q,r⟩:=I.pin p hp
  exact⟨e,nf _ q,r⟩
 ·by_cases hb:b=a
  ·subst hb;rw[Zh4]at e;cases e
  ·rw[Ze4 hb]at e
   refine(I.hok b u e).stay (λc v _ q=>q) (λc q=>?_) λc xs q=>?_
   ·rw[Ze4 (nn c _ q λ_ z=>by cases z)];exact q
   ·rw[Ze4 (nn c _ q λ_ z=>by cases z)];exact q
end
def sRow (K:W.Frag) (ta tv:TE) (f:Str):TS:=λD Z H=>tv Z H λy H1=>ta Z H1 λx H2=>∃a C g,x=.ref a/\H2 a=some (.ext<|InsN a C)/\ExcS K C g f/\∀dx,dx≠a->H2 dx=none->D.nx Z (upd (upd H2 a (.ext<|InsW a C dx)) dx (.xd [(f,y)]))
section
variable {X:Cx}{o value:Expr}{f:Str}{pos pos':Pos}{ta tv:TE}
theorem Zwk (hex:X.ex=[]) (ha:PE X o ta) (hv:PE X value tv) (hs:swapsWith value (some (.Attribute o f pos')) pos.line X.env=pure false):PS X (.Assign [.Attribute o f pos'] value pos) (sRow X.K ta tv f):=by
 intro pins s Z H D I h;refine plainObj_wpAny_Assign_Attribute (thn (hv pins s Z H _ I h) λu s1 ⟨y,H1,I1,ry,q⟩=>thn (ha pins s1 Z H1 _ I1 q) λov s2 ⟨x,H2,I2,rx,a,C,g,ex,ea,z,q2⟩=>?_) hs;subst ex;obtain rfl:ov=Value.ref a:=rx;obtain⟨⟨t,h1⟩,_,_⟩:=I2.hok a _ ea;refine Zug I2.kIn h1 rfl rfl rfl z.cl z.ob z.sa z.tk z.hd λh' dx tk' e1 e2 e3 e4 e5=>?_;have nd:=Nw.of I2 hex e3;have W:InsW a C dx h':=⟨t,e4⟩;have I3:=I2.write (x:=a) (e:=a) (o:=.ext<|InsW a C dx) (h':=h') (t':=tk') (by rw[ea];exact True.intro) (.inl rfl) e5 ⟨_,e4⟩
  ⟨W,⟨_,e4⟩,λh1' h2' ⟨t,z1⟩ k=>⟨t,k _ z1⟩⟩
 have nd2:Nw X pins (upd H2 a (.ext (InsW a C dx))) dx:=nd.at (by rw[Zal e2];exact nd.trk);have I4:=I3.trackN (a:=dx) (o:=.xd [(f,y)]) nd2 ⟨_,e1,λg=>by
  show RelO (List.lookup g [(f,y)]) (if g=f then some u else none);unfold List.lookup;by_cases hg:g=f
  ·subst hg;rw[Qbw rfl,beq_self_eq_true];exact ry
  ·rw[Qbv hg,beq_eq_false_iff_ne.mpr hg];exact True.intro⟩
 exact⟨Z,_,I4,q2 dx e2 nd.trk⟩
end
section
variable {M:Model}{A:Around}{E:Qb0}{env:Env}
variable {nm q:Str}{C N:Addr}{bs bm:List Value}{hdct:Bool}{sn:List Str}{sub:List Value}{ab:Bool}{col:Option Bool}{dd:Option Addr}{k0 k1 k2 k3 k5:Option Value}{newId:String}
theorem Zcp {s:Shared}{x:Sem Value}{Q:Flow->Shared->Prop}(hbase:bm.contains (.type "BaseException")=true) (hh:A.handled=none)
  (h:wpAny M A x (λv s₁=>∃e dx,v=.ref e/\s₁.heap.get? C=some (excClassObj nm q C N bs bm hdct sn sub ab col dd k0 k1 k2 k3 k5 newId)/\InsW e C dx s₁.heap/\E (.ref e) s₁) E s) :
  wpAny M A (raiseStmt env (some x) none) Q E s:=by
 have hcB:(Value.ref C::bm).contains (.type "BaseException")=true:=by rw[Wdt,hbase,Bool.or_true]
 unfold raiseStmt;refine Qbn (Qbp h (λv s₁ h₁=>?_) λ_ _ x=>x);obtain⟨e,dx,rfl,hC,⟨t,he⟩,hE⟩:=h₁;obtain⟨hp,g,d,tk,os⟩:=s₁
 repeat (first|with_reducible refine wpAny_loadPart_at he ?_|with_reducible refine wpAny_loadPart_at hC ?_|(with_reducible refine wpAny_isSubtype_exc hC ?_;rw[hcB])|wp_step)
 exact wpAny_raiseNew_none hh hE
end
def spI (K:W.Frag) (f:Str):Sp:=λvs H Q _=>∃a C g y,vs=[.ref a,y]/\H a=some (.ext<|InsN a C)/\ExcS K C g f/\∀dx,dx≠a->H dx=none->Q .non (upd (upd H a (.ext<|InsW a C dx)) dx (.xd [(f,y)]))
section
variable {X:Cx}{C f:Addr}{fd:FuncData}{k:Nat}{ps:List Str}{nm:Str}
theorem Zmr {pins:Qbz}{Z:St}{H:Hp}{s:Shared}{u:Value}{y:V}{R:Qb0}(z:ExcS X.K C f nm) (hfn:PySem.W.typeIn X.K (.ref f)=some (.type "function")) (F:FnOk X.prog X.w X.K X.mg X.base CX0 k f fd ps (spI X.K nm)) (hr:Room (k+1) X.A) (hb:Binds X.K fd ps []) (hps:ps.length=2) (hex:X.ex=[])
  (I:Inv X pins Z H s) (r:RelV y u)
  (h:∀a dx s',Inv X pins Z (upd H dx (.xd [(nm,y)])) s' -> InsW a C dx s'.heap->Nw X pins (upd H dx (.xd [(nm,y)])) a->s.heap.get? a=none->H dx=none->dx≠a->R (.ref a) s') :
  wpAny (model X.prog X.w) X.A (call (.ref C) [u]) R X.xe s:=by
 obtain⟨bm,⟨N,nm1,qn,bs,hd,sn,sub,ab,col,dd,k0,k1,k2,k3,k5,mN,o1,o2,o3,o4⟩,_⟩:=Zdi I.kIn z.cl;obtain⟨oI,hl,hc⟩:=Wda.mp hfn;obtain⟨h0,g0,d0,t0,os0⟩:=s;refine Zlq (rest:=[u]) PySem.F.excBase_ValueError o4 o1 o2 o3 (I.kIn _ _ hl) hc (λh' e hm=>?_) (show 1<=sizeLine by decide);have J:Inv X pins Z H ⟨h',g0,d0,t0,os0⟩:=I.kept (t':=t0) hm.keeps;have na:=Nw.of I hex hm.new;obtain⟨t,he,_,_⟩:=hm.there;have I2:=J.trackN (a:=e) (o:=.ext<|InsN e C) ⟨na.old,na.trk,na.loc,na.cel,na.pin⟩ ⟨⟨t,he⟩,⟨_,he⟩,λh1' h2' ⟨t,z1⟩ k=>⟨t,k _ z1⟩⟩;have hq:spI X.K nm [.ref e,y] (upd H e (.ext<|InsN e C)) (λv H2=>v=.non/\∃dx,dx≠e/\H dx=none/\H2=upd (upd (upd H e (.ext<|InsN e C)) e (.ext<|InsW e C dx)) dx (.xd [(nm,y)])) E0:=by
  refine⟨e,C,f,y,rfl,Zan,z,λdx n1 n2=>⟨rfl,dx,n1,?_,rfl⟩⟩;rw[Zal n1]at n2;exact n2
 have hlen:([Value.ref e,u]++[]).length=ps.length:=by rw[hps];rfl
 refine Qbu (codeAny_mono (F.run _ X.stack _ _ ⟨[.ref e,u],[]⟩ [.ref e,u] [.ref e,y] _ E0 (hr.make C [u] []) (I2.env0.make C [u] []) (hb _ [.ref e,u] I2.kIn hlen) (.cons rfl (.cons r .nil)) hq) λr s' hq'=>?_);cases r with
 |error e=>exact hq'.elim
 |ok fl=>
  cases fl with
  |ret v=>
   obtain⟨v,H',I3,rv,ev,dx,n1,n2,rfl⟩:=I2.after hq';subst ev;refine⟨rv,?_⟩;have e1:(upd (upd (upd H e (.ext<|InsN e C)) e (.ext<|InsW e C dx)) dx (.xd [(nm,y)])) e=some (.ext<|InsW e C dx):=by rw[Zal (Ne.symm n1),Zan]
   have e2:cutH (upd (upd (upd H e (.ext<|InsN e C)) e (.ext<|InsW e C dx)) dx (.xd [(nm,y)])) e=upd H dx (.xd [(nm,y)]):=by
    funext b
    by_cases hb:b=e
    ·subst hb;rw[Zh4,Zal (Ne.symm n1),na.trk]
    ·rw[Ze4 hb]
     by_cases hd:b=dx
     ·subst hd;rw[Zan,Zan]
     ·rw[Zal hd,Zal hd,Zal hb,Zal hb]
   have I4:=I3.untrackE ⟨_,e1⟩;rw[e2]at I4;exact h e dx s' I4 (I3.hok e _ e1).1 ⟨na.old,by rw[Zal (Ne.symm n1)];exact na.trk,na.loc,na.cel,na.pin⟩ hm.new n2 n1
  |next=>exact False.elim hq'
  |brk=>exact False.elim hq'
  |cont=>exact False.elim hq'
end
theorem Zgm (o:Obj) (g:Array Value->Array Value):(o.mapFields g).dict=o.dict:=by
 obtain⟨c,d,data,sl⟩:=o;cases data <;> rfl
def TrcD (dd:Option Addr) (h:Heap) (a C T:Addr):Prop:=
 ∃oe vs oT ts,h.get? a=some oe/\oe.cls=.ref C/\oe.data=.fields vs/\vs[1]?=some (.ref T)/\vs[2]?=some .none/\T≠a/\h.get? T=some oT/\oT.data=.fields ts/\ts[3]?=some .none/\oe.dict=dd
section
variable {X:Cx}{pins:Qbz}{Z:St}{H H':Hp}{s:Shared}{h':Heap}{a C T:Addr}
theorem Inv.notedD {dd:Option Addr}{h0:Heap}{oe:Obj}{vs:Array Value}{hid:List Addr}{T':Addr}(I:Inv X pins Z H s) (hex:X.ex=[]) (na:Nw X pins H a) (new:∀b∈hid,Nw X pins H b) (he:s.heap.get? a=some oe) (hc:oe.cls=.ref C) (hd:oe.data=.fields vs) (h2:vs[2]?=some .none) (hdd:oe.dict=dd)
  (k0:∀b,b ∉ hid->h0.get? b=s.heap.get? b) (hf0:∀b∈hid,∀o,s.heap.get? b=some o->∃ws,o.data=.fields ws) (hn0:∀b,h0.get? b=none->s.heap.get? b=none) (n:Noted h0 h' X.stack a oe T') {h3:Heap}(e3:h3=h'.update T' (Obj.mapFields (·.setIfInBounds 3 .none))) :
  Inv X pins Z H { s with heap:=h3 } /\ TrcD dd h3 a C T' /\ Nw X pins H T':=by
 subst e3;have nT:=Nw.of I hex<|hn0 _ n.new;have ot:∀b,b≠T' -> (h'.update T'<|Obj.mapFields (·.setIfInBounds 3 Value.none)).get? b=h'.get? b:=λb hb=>Wba _ _<|Ne.symm hb;have hTa:T'≠a:=by rintro rfl;have z:=hn0 _ n.new;rw[he]at z;cases z
 have ne:∀b o,s.heap.get? b=some o->b≠T':=λb o e z=>by subst z;rw[hn0 _ n.new]at e;cases e
 have fl:∀b,b∈a::hid->∀o,s.heap.get? b=some o->∃ws,o.data=.fields ws:=λb hb o e=>by
  rcases Wai.mp hb with rfl|hb
  ·rw[he]at e;cases e;exact⟨vs,hd⟩
  ·exact hf0 b hb o e
 refine⟨I.moved (hid:=a::hid) hex (λb hb=>(Wai.mp hb).elim (λz=>by subst z;exact na) (new b)) (λb o e h1 h2=>?_) λb o e hnf=>?_,?_,nT⟩
 ·have h1a:b≠a:=λz=>h1 (by simp[z])
  have h1b:b ∉ hid:=λz=>h1<|Wap _ z;rw[ot b (ne b o e)];exact n.keep b o ((k0 b h1b).trans e) h1a h2
 ·have hb:b ∉ a::hid:=λz=>by obtain⟨ws,q⟩:=fl b z o e;exact hnf ws q
  have h1a:b≠a:=λz=>hb (by simp[z]);have h1b:b ∉ hid:=λz=>hb<|Wap _ z;obtain⟨sl,q⟩:=n.up b o ((k0 b h1b).trans e) h1a hnf;exact⟨sl,(ot b<|ne b o e).trans q⟩
 ·obtain⟨oT,ts,t1,t2,t3⟩:=n.tb
  have sz:2<vs.size:=(Array.getElem?_eq_some_iff.mp h2).1;refine⟨_,_,_,_,(ot a<|Ne.symm hTa).trans n.exc,(Obj.cls_mapFields _ _).trans hc,Obj.data_mapFields hd _,?_,?_,hTa,Wbi _ t1<|Obj.isFreed_of_fields<|Obj.data_mapFields t2 _,Obj.data_mapFields t2 _,?_,(Zgm _ _).trans hdd⟩
  ·simp[show 1<vs.size by omega]
  ·rw[Array.getElem?_setIfInBounds_ne (by decide)];exact h2
  ·simp[t3]
variable {M:Model}{E:Qb0}{Q:Unit->Shared->Prop}
theorem Zqf {dd:Option Addr}(I:Inv X pins Z H s) (hex:X.ex=[]) (hst:X.stack=X.env::X.outer) (hf:X.env.frame=some X.env.locals) (tr:TrcD dd s.heap a C T) (na:Nw X pins H a) (nT:Nw X pins H T)
  (h:∀h' T',Inv X pins Z H { s with heap:=h' } -> TrcD dd h' a C T' -> Nw X pins H T' -> Q () { s with heap:=h' }):wpAny M X.A (noteFrame (.ref a) X.env) (λ_ s2=>wpAny M X.A (setFlight (.ref a) none) Q E s2) E s:=by
 obtain⟨oe,vs,oT,ts,h1,h2,h3,h4,h5,h6,h7,h8,h9,h10⟩:=tr;have hfr:=I.ok.frames;have hl:=I.stack;rw[hst]at hfr hl;have ot:∀b,b≠T->(s.heap.update T (Obj.mapFields (·.setIfInBounds 3 Value.none))).get? b=s.heap.get? b:=λb hb=>Wba _ _ (Ne.symm hb);refine noteT hfr hl hf h1 h3 h4 h6 h7 h8 h9 λh' T' n=>?_;refine Zfk h3 (Array.getElem?_eq_some_iff.mp h4).1 n ?_;rw[<- hst]at n;obtain⟨J,t1,t2⟩:=I.notedD (hid:=[T]) hex na (λb hb=>by rcases Wai.mp hb with rfl|hb;exact nT;cases hb) h1 h2 h3 h5 h10 (λb hb=>ot b (by simpa using hb)) (λb hb o e=>by
  have hb:b=T:=by simpa using hb
  subst hb;rw[h7]at e;cases e;exact⟨ts,h8⟩) (λb e=>by
   by_cases hb:b=T
   ·subst hb
    rw[Wbi _ h7 (Obj.isFreed_of_fields<|Obj.data_mapFields h8 _)]at e;cases e
   ·exact(ot b hb).symm.trans e) n rfl
 exact h _ T' J t1 t2
theorem Zl1 {dx:Addr}(I:Inv X pins Z H s) (hex:X.ex=[]) (hst:X.stack=X.env::X.outer) (hf:X.env.frame=some X.env.locals) (W:InsW a C dx s.heap) (na:Nw X pins H a)
  (h:∀h' T',Inv X pins Z H { s with heap:=h' } -> TrcD (some dx) h' a C T' -> Nw X pins H a->Nw X pins H T' -> Q () { s with heap:=h' }):wpAny M X.A (leaving X.env (.ref a)) Q E s:=by
 obtain⟨t,he⟩:=W;have hfr:=I.ok.frames;have hl:=I.stack;rw[hst]at hfr hl;unfold leaving;refine Qbn (noteN hfr hl hf he rfl rfl λh' T' n=>?_);refine Zfk (vs:=#[.ref t,.none,.none,.none,.bool false,.none]) rfl (show 1<6 by decide) n ?_;rw[<- hst]at n;obtain⟨J2,t1,t2⟩:=I.notedD (hid:=[]) hex na (λb hb=>by cases hb) he rfl rfl rfl rfl (λb _=>rfl) (λb hb=>by cases hb) (λb e=>e) n rfl;exact h _ T' J2 t1 na t2
theorem Zl5 {dd:Option Addr}{A:Around}(I:Inv X pins Z H s) (hex:X.ex=[]) (tr:TrcD dd s.heap a C T) (na:Nw X pins H a) (nT:Nw X pins H T)
  (h:∀h' T',Inv X pins Z H { s with heap:=h' } -> TrcD dd h' a C T' -> Nw X pins H T' -> Q () { s with heap:=h' }):wpAny M A (setFlight (.ref a) none) Q E s:=by
 obtain⟨oe,vs,oT,ts,h1,h2,h3,h4,h5,h6,h7,h8,h9,h10⟩:=tr;have sz:=(Array.getElem?_eq_some_iff.mp h9).1;have ot:∀b,b≠T->(s.heap.update T<|Obj.mapFields (·.setIfInBounds 3 Value.none)).get? b=s.heap.get? b:=λb hb=>Wba _ _<|Ne.symm hb;refine wpAny_setFlight_none h1 h3 h4 h7 h8 sz<|h _ T ?_ ?_ nT
 ·refine I.moved (hid:=[T]) hex (λb hb=>by rcases Wai.mp hb with rfl|hb;exact nT;cases hb) (λb o e hb _=>(ot b (by simpa using hb)).trans e) (λb o e hnf=>⟨o.slots,(ot b λz=>?_).trans e⟩)
  subst z;rw[h7]at e;cases e;exact hnf ts h8
 ·exact⟨oe,vs,_,_,(ot a<|Ne.symm h6).trans h1,h2,h3,h4,h5,h6,Wbi _ h7<|Obj.isFreed_of_fields<|Obj.data_mapFields h8 _,Obj.data_mapFields h8 _,by simp[sz],h10⟩
end
def CXR (P:Program) (w:World):CXT:=λouter H s E e s'=>
 ∃(a C T dx:Addr) (H':Hp),e=.ref a/\s'.os=s.os/\AllBare s'.gens/\Un (frs outer) [] H H' s.heap s'.heap/\HOk P w H' s'.heap/\H' a=none/\s.heap.get? a=none/\H' T=none/\s.heap.get? T=none/\TrcD (some dx) s'.heap a C T/\E (.ref C) (some dx) H'
def ThrowsR (X:Cx) (E:XK):Prop:=∀(pins:Qbz) (Z:St) (H:Hp) (s:Shared) (a C dx:Addr),Inv X pins Z H s->InsW a C dx s.heap->Nw X pins H a->E (.ref C) (some dx) H->X.xe (.ref a) s
section
variable {P:Program}{w:World}{K:W.Frag}{mg:Str->Option Value}{base:Heap}{N:List Str}{qual:Str}{scope:Scope}{f:Addr}{cd:Value}{A:Around}{outer:List Env}{s0:Shared}{H0:Hp}{E:XK}
theorem Zhs:ThrowsR (cxOf (CXR P w) P w K mg base N qual scope f cd A outer s0 H0 E) E:=λpins Z H s a C dx I W na hE=>by
 refine Zl1 I rfl rfl rfl W na λh' T' J2 t1 na t2=>?_;exact⟨a,C,T',dx,H,rfl,J2.os,J2.bare,J2.base,J2.hok,na.trk,na.old,t2.trk,t2.old,t1,hE⟩
end
section
variable {prog:Program}{w:World}{A:Around}{E:Qb0}{s:Shared}{env:Env}
variable {nm q:Str}{C N:Addr}{bs bm:List Value}{hdct:Bool}{sn:List Str}{sub:List Value}{ab:Bool}{col:Option Bool}{dd:Option Addr}{k0 k1 k2 k3 k5:Option Value}{newId:String}
theorem Zjy {x:Str}{np cpos pos:Pos}{args:List Expr}{Q:Flow->Shared->Prop}
  (hbase:bm.contains (.type "BaseException")=true) (hh:A.handled=none) (hplain:(backTo cpos<|starEach args env).any (·.1)=false)
  (h:wpAny (model prog w) A (eval (.Name x np) env) (λf s₁=>f=.ref C/\wpAny (model prog w) A (evalArgs (.ref C) true (backTo cpos (starEach args env)) [])
   (λa s₂=>a.kw=[]/\s₂.heap.get? C=some (excClassObj nm q C N bs bm hdct sn sub ab col dd k0 k1 k2 k3 k5 newId) /\
    wpAny (model prog w) A (call (.ref C) a.pos) (λv s₃=>∃e dx,v=.ref e/\s₃.heap.get? C=some (excClassObj nm q C N bs bm hdct sn sub ab col dd k0 k1 k2 k3 k5 newId)/\InsW e C dx s₃.heap/\E (.ref e) s₃) E s₂) E s₁) E s) :
  wpAny (model prog w) A (exec (.Raise (some (.Call (.Name x np) args [] cpos)) none pos) env) Q E s:=by
 rw[arm_exec_Raise]
 first
  |refine Qbn (Qbr (Zcp (C:=C) (nm:=nm) (q:=q) (N:=N) (bs:=bs) (bm:=bm) (hdct:=hdct) (sn:=sn) (sub:=sub) (ab:=ab) (col:=col) (dd:=dd) (k0:=k0) (k1:=k1) (k2:=k2) (k3:=k3) (k5:=k5) (newId:=newId) hbase hh (Qbn (Qbp (wpAny_Call_ofName (Qbp h (λf s₁ h₁=>?_) λ_ _ x=>x)) (λv s₃ h₃=>Qbn (Qbr (Qbo h₃))) λ_ _ x=>x))))
  | (simp only[evalOpt,Option.map];refine Qbn (Qbr (Zcp (C:=C) (nm:=nm) (q:=q) (N:=N) (bs:=bs) (bm:=bm) (hdct:=hdct) (sn:=sn) (sub:=sub) (ab:=ab) (col:=col) (dd:=dd) (k0:=k0) (k1:=k1) (k2:=k2) (k3:=k3) (k5:=k5) (newId:=newId) hbase hh (Qbn (Qbp (wpAny_Call_ofName (Qbp h (λf s₁ h₁=>?_) λ_ _ x=>x)) (λv s₃ h₃=>Qbn (Qbr (Qbo h₃))) λ_ _ x=>x)))))
  | (refine Qbn (Qbr (Zcp (C:=C) (nm:=nm) (q:=q) (N:=N) (bs:=bs) (bm:=bm) (hdct:=hdct) (sn:=sn) (sub:=sub) (ab:=ab) (col:=col) (dd:=dd) (k0:=k0) (k1:=k1) (k2:=k2) (k3:=k3) (k5:=k5) (newId:=newId) hbase hh ?_));refine Qbn (Qbp (wpAny_Call_ofName (Qbp h (λf s₁ h₁=>?_) λ_ _ x=>x)) (λv s₃ h₃=>Qbn (Qbr (Qbo h₃))) λ_ _ x=>x))
 obtain⟨rfl,h₁⟩:=h₁;unfold callWith;refine Qbn<|Qbq (Qbp h₁ (λa s₂ h₂=>Qbn<|Qbr ?_) λ_ _ x=>x);obtain⟨apos,akw⟩:=a;obtain⟨hkw,hC,h₂⟩:=h₂;obtain rfl:akw=[]:=hkw;obtain⟨hp,g,d,tk,os⟩:=s₂;simp only[hplain];refine Qbn<|wpAny_keeperOf_exc hC ?_;exact Qbn (Qbp h₂ (λv s₃ h₃=>Qbn<|Qbq<|wpAny_point<|Qbo h₃) λ_ _ x=>x)
end
def tRaiseR (C:Addr) (nm:Str) (E:XK) (t:TA):TS:=λ_ Z H=>t Z H λvs H1=>∃y,vs=[y]/\∀dx,H1 dx=none->E (.ref C) (some dx) (upd H1 dx (.xd [(nm,y)]))
section
variable {X:Cx}{x:Str}{C f:Addr}{fd:FuncData}{k:Nat}{ps:List Str}{nm:Str}{np cpos pos:Pos}{e:Expr}{t:TA}{E:XK}
theorem Zl9 (z:ExcS X.K C f nm) (hfn:PySem.W.typeIn X.K (.ref f)=some (.type "function")) (be:PySem.W.mroIn X.K C (.type "BaseException")=some true) (F:FnOk X.prog X.w X.K X.mg X.base CX0 k f fd ps (spI X.K nm)) (hr:Room (k+1) X.A) (hb:Binds X.K fd ps []) (hps:ps.length=2) (hex:X.ex=[])
  (hg:Gl X x) (hm:X.mg x=some (.ref C)) (hh:X.A.handled=none) (ht:ThrowsR X E) (ha:PA X [e] t) (hdb:(x == ("__debug__":Str))=false:=by decide)
  (he:starEach [e] X.env=(false,eval e X.env)::starEach [] X.env:=by rfl) (hpl:(backTo cpos<|starEach [e] X.env).any (·.1)=false:=by rfl):PS X (.Raise (some (.Call (.Name x np) [e] [] cpos)) none pos) (tRaiseR C nm E t):=by
 intro pins s Z H D I h;obtain⟨bm,⟨N,nm1,qn,bs,hd,sn,sub,ab,col,dd,k0,k1,k2,k3,k5,mN,o1,o2,o3,o4⟩,_⟩:=Zdi I.ok.mod.kin z.cl;refine Zjy (C:=C) (nm:=nm1) (q:=qn) (N:=N) (bs:=bs) (bm:=bm) (hdct:=hd) (sn:=sn) (sub:=sub) (ab:=ab) (col:=col) (dd:=dd) (k0:=k0) (k1:=k1) (k2:=k2) (k3:=k3) (k5:=k5) (newId:="ValueError.__new__") (o4.hasType rfl) hh hpl ?_;refine Zc5 I hg hm ⟨rfl,?_⟩ hdb;have e1:backTo cpos (starEach [e] X.env)=(false,eval e X.env)::backTo cpos (starEach [] X.env):=by rw[he];rfl
 rw[e1];refine Calls.evalArgs_plain ?_;rw[<- e1];refine thn (ha cpos pins s Z H _ I h) λus s1 ⟨vs,H1,I1,r,y,ev,q⟩=>?_;subst ev;obtain⟨u,rfl,ru⟩:=r.one;refine⟨rfl,I1.bk _ _ o1,?_⟩;refine Zmr z hfn F hr hb hps hex I1 ru λa dx s' I2 W na hf hn hne=>?_;exact⟨a,dx,rfl,I2.bk _ _ o1,W,ht pins Z _ s' a C dx I2 W na<|q dx hn⟩
end
theorem InsR.c {a C dx:Addr}{h:Heap}(I:InsR a C dx h):InsC a C h:=let ⟨ox,vs,h1,h2,h3,h4,_⟩:=I; ⟨ox,vs,h1,h2,h3,h4⟩
theorem InsR.ok {a C dx:Addr}{P:Program}{w:World}{H:Hp}{h:Heap}(I:InsR a C dx h):ObjOk P w H h a (.ext<|InsR a C dx):=by
 obtain⟨ox,vs,h1,h2,h3,h4,h5⟩:=I;exact⟨⟨ox,vs,h1,h2,h3,h4,h5⟩,⟨_,h1⟩,λh1' h2' ⟨o,ws,z1,z2⟩ k=>⟨o,ws,k _ z1,z2⟩⟩
theorem Zgi {M:Model}{A:Around}{E:Qb0}{K:W.Frag}{s:Shared}{a C FE f:Addr}{Q:Bool->Shared->Prop}(X:K.In s.heap) (cF:ExcC K FE) (cC:excInI K C f=true) (hm:PySem.W.mroIn K C (.ref FE)=some true) (I:InsC a C s.heap) (hq:Q true s) :
  wpAny M A (excMatches (.ref a) (.ref FE)) Q E s:=by
 obtain⟨h,g,d,t,os⟩:=s;obtain⟨bm,⟨N,nm,qn,bs,hd,sn,sub,ab,col,dd,k0,k1,k2,k3,k5,mN,hC,_⟩,hmro,_⟩:=Zdi X cC;obtain⟨bm',⟨N',nm',qn',bs',hd',sn',sub',ab',col',dd',k0',k1',k2',k3',k5',mN',hF,_,_,oF⟩,_⟩:=Zhx X cF;have hA:=hmro _ _ hm;have hB:(Value.ref FE::bm').contains (.type "BaseException")=true:=by rw[Wdt,oF.hasType (X:="BaseException") (b:=true) rfl,Bool.or_true]
 obtain⟨ox,_,hx,hc,_⟩:=I;have f:=tc_notTuple;unfold excMatches
 repeat (first|(with_reducible refine wpAny_loadPart_at hx ?_;rw[hc])|with_reducible refine wpAny_loadPart_at hF ?_|(with_reducible refine wpAny_isSubtype_exc hF ?_;rw[hB])|(with_reducible refine wpAny_isSubtype_exc hC ?_;rw[hA])|wp_step)
 exact hq
structure CalleeR (P:Program) (w:World) (K:W.Frag) (mg:Str->Option Value) (base:Heap) (k:Nat) (x:Str) (ps:List Str) (sp:Sp):Prop where
 ex:∃f fd,FnOk P w K mg base (CXR P w) k f fd ps sp/\Binds K fd ps []/\W.keepIn K (.ref f)=true/\mg x=some (.ref f)
def tTryR (K:W.Frag) (FE:Addr) (i:Nat) (sp:Sp) (ta:TA) (th:Addr->TS):TS:=λD Z H=>ta Z H λvs H0=>∃E:XK,sp vs H0 (λv H'=>D.rt v H') E/\∀C dx H1,E (.ref C) (some dx) H1->((∃f,excInI K C f=true)/\PySem.W.mroIn K C (.ref FE)=some true) /\
 ∀a,H1 a=none->th a ⟨λZ' H'=>D.nx (Z'.set i none) H',D.rt,λZ' H'=>D.bk (Z'.set i none) H',λZ' H'=>D.ct (Z'.set i none) H'⟩ (Z.set i<|some (.ref a)) (upd H1 a (.ext<|InsR a C dx))
section
variable {X:Cx}{x y fx:Str}{FE:Addr}{np hpos pos p cp sps:Pos}{b0:Stmt}{hb:List Stmt}{i k:Nat}{ps:List Str}{sp:Sp}{e:Expr}{es:List Expr}{t:TA}{th:Addr->TS}
theorem Zs8 (nd:X.N.Nodup) (hi:X.N[i]?=some y) (hk:X.env.scope.names.lookup y=some .local) (hex:X.ex=[]) (hst:X.stack=X.env::X.outer) (hf:X.env.frame=some X.env.locals) (hg:Gl X x) (hm:X.mg x=some (.ref FE)) (cF:ExcC X.K FE)
  (C:CalleeR X.prog X.w X.K X.mg X.base k fx ps sp) (hr:Room k X.A) (ha:∀(pn:Qbz) (xe:Qb0),PA (XT X pn xe) (e::es) t) (hh:∀a,PSs (XC X a) (b0::hb) (th a))
  (hgf:Gl X fx:=by rfl) (hfn:X.fn y=true\/X.env.scope.names.lookup y=some .local:=by exact .inr rfl)
  (hdb:(x == ("__debug__":Str))=false:=by decide) (hdf:(fx == ("__debug__":Str))=false:=by decide) (he:starEach (e::es) X.env=(false,eval e X.env)::starEach es X.env:=by rfl) (hpl:(backTo cp<|starEach es X.env).any (·.1)=false:=by rfl) :
  PS X (.Try [.Return (some (.Call (.Name fx p) (e::es) [] cp)) sps] [.ExceptHandler (some (.Name x np)) (some y) (b0::hb) hpos] [] [] pos) (tTryR X.K FE i sp t th):=by
 intro pins s Z H D I h;obtain⟨fa,fd,F,b,kp,m⟩:=C.ex;refine wpAny_Try_except ?_
 -- what an exception meets
 let xe:Value->Shared->Prop:=λe s1=>wpAny (model X.prog X.w) X.A (noteFrame e X.env) (λ_ s2=>wpAny (model X.prog X.w) X.A (setFlight e none) (λ_ s3=>wpAny (model X.prog X.w) X.A (handleBy e X.env [.ExceptHandler (some (.Name x np)) (some y) (b0::hb) hpos]) (SP X pins D) X.xe s3) X.xe s2) X.xe s1
 have J0:Inv (XT X (X.pn++pins) xe) [] Z H s:=I.into;have body:wpAny (model X.prog X.w) X.A (execs [.Return (some (.Call (.Name fx p) (e::es) [] cp)) sps] X.env) (SP X pins D) xe s:=by
  refine wpAny_execs_cons ?_;have st:wpAny (model X.prog X.w) X.A (exec (.Return (some (.Call (.Name fx p) (e::es) [] cp)) sps) X.env) (SP X pins D) xe s:=by
   refine wpAny_Return_some ?_;refine wpAny_Call_Name_kw<|Zc5 (X:=XT X (X.pn++pins) xe) J0 hgf m ?_ hdf;refine PySem.W.callWith_K (h₀:=X.base) I.ok.mod.kin kp (thn (ha (X.pn++pins) xe cp [] s Z H _ J0 h) λus s1 ⟨vs,H1,I1,r,E,q,hE⟩=>⟨I1.kIn,?_⟩) he hpl;have hl:us.length=ps.length:=by rw[<- r.length];exact F.len _ _ _ _ q
   have bd:=b s1 us I1.kIn (by rw[Wbg];exact hl);rw[Wbg]at bd;refine Qbu (codeAny_mono (F.run X.A X.stack s1 H1 ⟨us,[]⟩ us vs _ E hr I1.env0 bd r q) λr s2 hq=>?_);cases r with
   |ok fl=>
    cases fl with
    |ret u=>
     obtain⟨v,H2,I2,r2,q2⟩:=I1.after hq;exact⟨v,Z,H2,Inv.outof I.ok I2,r2,q2⟩
    |next=>exact False.elim hq
    |brk=>exact False.elim hq
    |cont=>exact False.elim hq
   |error ev=>
    obtain⟨a,C,T,dx,H2,rfl,os,bare,un,hok,ha2,hsa,hT,hsT,tr,hE'⟩:=hq;have J1:Inv X pins Z H1 s1:=Inv.outof I.ok I1;have J2:Inv X pins Z H2 s2:=J1.call' (ch:=[]) os un hok bare (λb z=>absurd z<|by simp);have na:=(Nw.of J1 hex hsa).at ha2;have nT:=(Nw.of J1 hex hsT).at hT;obtain⟨⟨⟨fI,cC⟩,mC⟩,hth⟩:=hE C dx H2 hE';refine Zqf J2 hex hst hf tr na nT λh3 T3 K3 t3 n3=>?_;have inR:∀{h:Heap}{T:Addr},TrcD (some dx) h a C T->InsR a C dx h:=λq=>by
     obtain⟨oe,vs,oT,ts,q1,q2,q3,_,q4,_,_,_,_,q5⟩:=q;exact⟨oe,vs,q1,q2,q3,q4,q5⟩
    refine wpAny_handleBy_cons (codeAny_handlers_test ?_) (by intro q;cases q);refine Zc5 (X:=XC X a) (K3.suite a) hg hm ?_ hdb;refine Zgi (K:=X.K) K3.kIn cF cC mC (inR t3).c ?_;refine codeAny_handlers_suite_as ?_;refine Zl5 K3 hex t3 na n3 λh4 T4 K4 t4 n4=>?_;have K5:=(K4.trackN (a:=a) (o:=.ext<|InsR a C dx) na (inR t4).ok).suite a;refine Zem (X:=XC X a) (v:=.ref a) K5 nd hi (.inl hk) rfl (λs5 K7=>?_) hfn;refine Qbp (hh a pins s5 _ _ _ K7<|hth a ha2) (λf s6 q=>?_) λ_ _ z=>z.elim;cases f with
    |next=>
     obtain⟨Z',H',K8,q⟩:=q;exact Inv.gone (K8.unsuite I.ok) nd hi hk λs7 K9=>⟨_,H',K9,q⟩
    |brk=>
     obtain⟨Z',H',K8,q⟩:=q;exact Inv.gone (K8.unsuite I.ok) nd hi hk λs7 K9=>⟨_,H',K9,q⟩
    |cont=>
     obtain⟨Z',H',K8,q⟩:=q;exact Inv.gone (K8.unsuite I.ok) nd hi hk λs7 K9=>⟨_,H',K9,q⟩
    |ret u=>
     obtain⟨v,Z',H',K8,r,q⟩:=q;exact Inv.gone (K8.unsuite I.ok) nd hi hk λs7 K9=>⟨v,_,H',K9,r,q⟩
  refine thn st λf s1 q=>?_;cases f with
  |next=>exact wpAny_execs_nil q
  |ret v=>exact q
  |brk=>exact q
  |cont=>exact q
 refine Qbp body (λf s1 hq=>?_) λ_ _ z=>z;cases f with
 |next=>exact wpAny_execs_nil hq
 |brk=>exact hq
 |cont=>exact hq
 |ret u=>exact hq
end
structure ExcIR (K:W.Frag) (C f:Addr):Prop where
 cl:excInI K C f=true
 ga:PySem.W.findIn K (.ref C) "__getattribute__" = some (some (.builtin "BaseException.__getattribute__"))
 gt:PySem.W.findIn K (.ref C) "__getattr__" = some none
 ca:PySem.W.findIn K (.ref C) "__class__" = some (some (.builtin "object.__class__"))
 gs:PySem.W.specialIn K (.builtin "object.__class__") "__get__" = some (some (.builtin "getset_descriptor.__get__"))
 tk:PySem.W.takesIn K (.builtin "object.__class__")=some true
 ob:PySem.W.mroIn K C (.type "object")=some true
 be:PySem.W.mroIn K C (.type "BaseException")=some true
section
variable {prog:Program}{w:World}{A:Around}{E:Qb0}{K:W.Frag}{s:Shared}{a C f:Addr}
theorem Zg1 {M:Model}{nameV:Value}{Q:Unit->Shared->Prop}(X:K.In s.heap) (Z_:ExcIR K C f) (I:InsC a C s.heap) (hq:Q () s):wpAny M A (checkBuiltinCall "BaseException.__getattribute__" ⟨[.ref a,nameV],[]⟩) Q E s:=by
 obtain⟨h,g,d,t,os⟩:=s;have hk:builtinKind "BaseException.__getattribute__" = some .slot:=by decide +kernel
 have hs:splitId "BaseException.__getattribute__" = some ("BaseException","__getattribute__"):=by decide +kernel
 obtain⟨bm,⟨N,nm,qn,bs,hd,sn,sub,ab,col,dd,k0,k1,k2,k3,k5,mN,hC,o2,o3,o4⟩,hmro,_⟩:=Zdi X Z_.cl;have hB:=hmro _ _ Z_.be;obtain⟨ox,_,hx,hc,_⟩:=I;have ha:=F.args_bexc_ga (.ref a) nameV;simp only[checkBuiltinCall,hk,hs];refine Qbn ?_;unfold isInstance
 repeat (first|(with_reducible refine wpAny_loadPart_at hx ?_;rw[hc])|(with_reducible refine wpAny_isSubtype_exc hC ?_;rw[hB])|wp_step)
 exact hq
theorem Zll {Q:Option Value->Shared->Prop}(X:K.In s.heap) (Z_:ExcIR K C f) (I:InsC a C s.heap) (h:Q (some (.ref C)) { s with toks:=s.toks+1 }):wpAny (model prog w) A (getAttr? (.ref a) "__class__") Q E s:=by
 obtain⟨hh,g,d,t,os⟩:=s;have L0:=I.ty (M:=model prog w);have L1:=PySem.W.looks_findIn (M:=model prog w) X Z_.ga;have L2:=PySem.W.looks_findIn (M:=model prog w) X Z_.gt;have L3:PySem.W.Looks (model prog w) hh (Builtin.ObjectAttr.find (.ref a) (.ref C) "__class__") (.bind (.builtin "getset_descriptor.__get__") (.builtin "object.__class__")):=by
  unfold Builtin.ObjectAttr.find;refine(PySem.W.looks_findIn X Z_.ca).andThen ((show PySem.W.Looks (model prog w) hh (Builtin.ObjectAttr.getOf<|some (.builtin "object.__class__")) _ from PySem.W.looks_specialIn X Z_.gs).andThen ?_);have q:PySem.W.Looks (model prog w) hh (Builtin.ObjectAttr.dataDescriptor? (some (.builtin "object.__class__"))<|some (.builtin "getset_descriptor.__get__")) (some (.builtin "getset_descriptor.__get__",.builtin "object.__class__")):=(PySem.W.looks_takesIn X Z_.tk).andThen .now;exact q.andThen<|PySem.W.Looks.tag .now
 have f3:=F.excAttr_ValueError.ga.bind (.ref a);have hx2:(Value.builtin "BaseException.__getattribute__" == Value.builtin "object.__getattribute__")=false:=by decide +kernel
 have hx1:(onTheHeap (Value.ref C) && Value.builtin "BaseException.__getattribute__" == Value.builtin "object.__getattribute__")=false:=by rw[hx2];rfl
 unfold getAttr? getAttrBy? getAttrBy;refine Qbn<|wpAny_mkText<|Qbn<|Qbs<|Qbq<|Qbn<|L0.at<|Qbn<|L1.at ?_;dsimp only;rw[hx1];rw[Qbv Wao];unfold getAttrByItsOwn hookBefore;rw[Qbw (show onTheHeap (Value.ref C)=true from rfl)];refine Qbn<|L2.at<|Qbn<|Qbs<|Qbq ?_;unfold callGetattribute;rw[Wdi,Qbv Wao];unfold boundAndCalled;refine Qbn<|wpAny_of_eq f3 ?_;refine Qbu<|codeAny_call_builtin F.excAttr_ValueError.ga.plain F.entry_bexc_ga<|Zg1 X Z_ I ?_;unfold Builtin.«object.__getattribute__»;refine Qbn (m:=slotArgs _ _ _)<|Qbo ?_;dsimp only;refine Qbn (m:=Builtin.ObjectAttr.attrName _)<|Qbo ?_;refine Qbn<|L0.at<|Qbn<|L3.at ?_;dsimp only;unfold Builtin.ObjectAttr.bindTo;dsimp only;refine Qbn<|Qbq<|Qbu<|Zlc (s:=⟨hh,g,d,t+1,os⟩) X I Z_.ob<|Qbo ?_;exact PySem.W.handed_on rfl<|Qbo h
theorem Zfv (Z_:ExcIR K C f):PySem.W.KitX K (.ref a) (.ref C) (InsC a C) where
 ty:=λ_ _ _ I=>I.ty
 it:=λ_ h X _=>by
  obtain⟨bm,⟨N,nm,qn,bs,hd,sn,sub,ab,col,dd,k0,k1,k2,k3,k5,mN,hC,_⟩,_⟩:=Zdi X Z_.cl;intro A' Q' E' s' k q;unfold isType loadHead;exact Qbn<|wpAny_loadPart (k _ _ hC)<|Qbo q
 ne:=λh tp dd its n sl X htp=>by
  obtain⟨bm,⟨N,nm,qn,bs,hd,sn,sub,ab,col,dd',k0,k1,k2,k3,k5,mN,hC,_⟩,_⟩:=Zdi X Z_.cl;refine Wch.mpr λq=>?_;have e:C=tp:=Value.ref.inj<|beq_iff_eq.mp q;subst e;rw[hC]at htp;exact absurd (congrArg Obj.cls<|Waw.inj htp) (by intro z;injection z with z;exact absurd z<|by decide)
 ca:=λX I k=>Zll X Z_ I k
theorem Zpk {nm:Str}{v:Value}{Q:Qb0}{dx:Addr}{mA:Str->Option Value}(X:K.In s.heap) (Z_:ExcIR K C f) (hd:PySem.W.hasDictIn K C=true) (na:PySem.W.findIn K (.ref C) nm=some none) (I:InsR a C dx s.heap) (D:s.heap.Ns1 dx mA) (hm:mA nm=some v) (hv:PySem.W.handedIn v=true) (h:Q v { s with toks:=s.toks+1 }):wpAny (model prog w) A (getAttr (.ref a) nm true) Q E s:=by
 obtain⟨hh,g,d,t,os⟩:=s;have L0:=I.c.ty (M:=model prog w);have L1:=PySem.W.looks_findIn (M:=model prog w) X Z_.ga;have L2:=PySem.W.looks_findIn (M:=model prog w) X Z_.gt;obtain⟨ox,vs,h1,h2,h3,h4,h5⟩:=I;obtain⟨od,e1,e2⟩:=Zh9 D;have Ia:PySem.W.InstAt hh a ox C (some od):=⟨h1,h2,by unfold PySem.W.notCls;rw[h3],by rw[h5];exact e1⟩;obtain⟨cd,hc,hd'⟩:=PySem.W.any_some hd;have L3:PySem.W.Looks (model prog w) hh (Builtin.ObjectAttr.find (.ref a) (.ref C) nm) (.value v):=by
  refine PySem.W.looks_find X Ia ?_;unfold PySem.W.findObj PySem.W.ownOf;rw[hc,Wc9,na,Wc9];dsimp only;rw[Wc9,Wc9];dsimp only;rw[Qbw hd',e2,hm];rfl
 have f3:=F.excAttr_ValueError.ga.bind (.ref a);have hx2:(Value.builtin "BaseException.__getattribute__" == Value.builtin "object.__getattribute__")=false:=by decide +kernel
 have hx1:(onTheHeap (Value.ref C) && Value.builtin "BaseException.__getattribute__" == Value.builtin "object.__getattribute__")=false:=by rw[hx2];rfl
 unfold getAttr getAttrBy;refine Qbn<|wpAny_mkText<|Qbq<|Qbn<|L0.at<|Qbn<|L1.at ?_;dsimp only;rw[hx1];rw[Qbv Wao];unfold getAttrByItsOwn hookBefore;rw[Qbw (show onTheHeap (Value.ref C)=true from rfl)];refine Qbn<|L2.at<|Qbn<|Qbs<|Qbq ?_;unfold callGetattribute;rw[show (true && onTheHeap (Value.builtin "BaseException.__getattribute__"))=false from rfl,Qbv Wao];unfold boundAndCalled;refine Qbn<|wpAny_of_eq f3 ?_;refine Qbu<|codeAny_call_builtin F.excAttr_ValueError.ga.plain F.entry_bexc_ga<|Zg1 X Z_ ⟨ox,vs,h1,h2,h3,h4⟩ ?_;unfold Builtin.«object.__getattribute__»;refine Qbn (m:=slotArgs _ _ _)<|Qbo ?_;dsimp only;refine Qbn (m:=Builtin.ObjectAttr.attrName _)<|Qbo ?_;refine Qbn<|L0.at<|Qbn<|L3.at ?_;dsimp only;refine Qbo ?_;exact PySem.W.handed_on hv h
end
def rIsiR (K:W.Frag):List V->Hp->VK->Prop:=λxs H Q=>∃a C b φ f,H a=some (.ext φ)/\(∀h,φ h->InsC a C h)/\ExcIR K C f/\Q (.bl b) H /\
 ((∃c,xs=[.ref a,.ref c]/\PySem.W.kitOne K (.ref C) (.ref c)=some b)\/(∃t,xs=[.ref a,.ty t]/\PySem.W.kitOne K (.ref C) (.type t)=some b) \/
  ∃(p:Addr) (cs:List Addr),xs=[.ref a,.ref p]/\H p=some (.tup (cs.map V.ref))/\PySem.W.kitAny K (.ref C) (cs.map Value.ref)=some b)
section
variable {X:Cx}
theorem isiRK (K:W.Frag) (hK:X.K=K:=by rfl):CallR X (.builtin "isinstance") (rIsiR K):=by
 subst hK;intro pins s Z H xs us Q I r h;obtain⟨a,C,b,φ,f,ha,hφ,Z_,q,h⟩:=h;have hi:=hφ _ (I.hok a _ ha).1;rcases h with ⟨c,rfl,e⟩|⟨t,rfl,e⟩|⟨p,cs,rfl,hp,e⟩
 ·obtain⟨u,u',rfl,rx,rn⟩:=vals2 r
  cases (show u=Value.ref a from rx);cases (show u'=Value.ref c from rn);exact PySem.W.kia_one (Zfv Z_) I.kIn hi e (λz=>nomatch z) λtk=>⟨.bl b,H,I.tok _,rfl,q⟩
 ·obtain⟨u,u',rfl,rx,rn⟩:=vals2 r
  cases (show u=Value.ref a from rx);cases (show u'=Value.type t from rn);exact PySem.W.kia_one (Zfv Z_) I.kIn hi e (λz=>nomatch z) λtk=>⟨.bl b,H,I.tok _,rfl,q⟩
 ·obtain⟨u,u',rfl,rx,rn⟩:=vals2 r
  cases (show u=Value.ref a from rx);cases (show u'=Value.ref p from rn);obtain⟨_,its,rv,o,ho,⟨hc,n,hd⟩,hdd⟩:=I.hok p _ hp;have hv:∀(ns:List Addr) (its:List Value),Vals (ns.map V.ref) its->its=ns.map Value.ref:=by
   intro ns
   induction ns with
   |nil=>intro its h;cases h;rfl
   |cons b r ih=>intro its h;cases h with|cons h1 h2=>cases (show _=Value.ref b from h1);rw[ih _ h2];rfl
  have e2:=hv cs its rv;subst e2;obtain⟨cls,dd,data,sl⟩:=o;simp only at hc hd hdd;subst hc hd hdd;exact PySem.W.kia_tup (Zfv Z_) I.kIn hi ho e (λz=>nomatch z) λtk=>⟨.bl b,H,I.tok _,rfl,q⟩
end
section
variable {K:W.Frag}{O:Evt}
theorem Zte {a C c f:Addr}{i:Int}{b:Bool}{P:D->Evt->Prop}(Z_:ExcIR K C f) (e:PySem.W.kitOne K (.ref C) (.ref c)=some b) (p:P (.bl b) O):JC K (rIsiR K) [.excR a C i,.adr c] O P:=λg G H Z Q vs k rs q=>by
 obtain⟨_,_,rfl,r,t⟩:=rs.inv
 next=>
  obtain⟨_,_,rfl,r',t⟩:=t.inv
  next=>
   cases t.inv;obtain⟨rfl,dx,ha,hb⟩:=r.inv
   next=>
    cases r'.inv;exact⟨_,C,b,_,f,k.live _ _ ha,λ_ h=>h.c,Z_,q _ _ G H O k (Same.refl _) (.bl b) p,.inl ⟨c,rfl,e⟩⟩
theorem Zqx {a C f:Addr}{i:Int}{n:String}{b:Bool}{P:D->Evt->Prop}(Z_:ExcIR K C f) (e:PySem.W.kitOne K (.ref C) (.type n)=some b) (p:P (.bl b) O):JC K (rIsiR K) [.excR a C i,.ty n] O P:=λg G H Z Q vs k rs q=>by
 obtain⟨_,_,rfl,r,t⟩:=rs.inv
 next=>
  obtain⟨_,_,rfl,r',t⟩:=t.inv
  next=>
   cases t.inv;obtain⟨rfl,dx,ha,hb⟩:=r.inv
   next=>
    cases r'.inv;exact⟨_,C,b,_,f,k.live _ _ ha,λ_ h=>h.c,Z_,q _ _ G H O k (Same.refl _) (.bl b) p,.inr (.inl ⟨n,rfl,e⟩)⟩
end
def EWR (E:XK) (Xp:Addr->Int->Prop) (g:Gm):Prop:=∀C i dx H',(∀b o,¬ g.B b->g.Hz b=some o->H' b=some o)->(∀b,g.B b->H' b≠none)->Same g.F H' -> (∀b o,g.Xo b=some o->H' b=some o)->g.Hz dx=none->H' dx=some (.xd [("row",.int i)])->Xp C i->E (.ref C) (some dx) H'
def JXR (K:W.Frag) (E:XK) (Xp:Addr->Int->Prop) (t:TS) (O:Evt) (P:Pst):Prop:=∀g G H Z D,EWR E Xp g->Ok K g G H Z O -> SCont K g P D->t D Z H
abbrev XRSp:=List D->(D->Prop)->(Addr->Int->Prop)->Prop
def spXR (K:W.Frag) (f:XRSp):Sp:=λvs H Q E=>∃F ds Post Xp,Same F H/\Reps K F vs ds/\f ds Post Xp/\(∀r H' d,Same H H' -> Rep K (glue F H H') r d->Post d->Q r H')/\∀C i dx H',Same H H' -> H dx=none->H' dx=some (.xd [("row",.int i)])->Xp C i->E (.ref C) (some dx) H'
section
variable {K:W.Frag}{O:Evt}{E:XK}{Xp:Addr->Int->Prop}{nx bk ct:Evt->Prop}{rt:D->Evt->Prop}{ro:OD->Evt->Prop}
theorem EWR.at {g:Gm}{G H H':Hp}{Z:St}{C dx:Addr}{i:Int}(w:EWR E Xp g) (k:Ok K g G H Z O) (s:Same H H') (hn:H dx=none) (hd:H' dx=some (.xd [("row",.int i)])) (x:Xp C i):E (.ref C) (some dx) H':=
 w C i dx H' (λb o hb e=>s b o (k.same b o hb e)) (λb hb z=>by
  cases q:H b with
  |none=>exact k.lent b hb q
  |some o=>rw[s b o q]at z;cases z) (λb o e=>s b o (k.live b o (k.sub b o e))) (λb o e=>s b o (k.ext b o e).1) (by
  cases q:g.Hz dx with
  |none=>rfl
  |some o=>
   by_cases hb:g.B dx
   ·exact absurd hn<|k.lent dx hb
   ·rw[k.same dx o hb q]at hn;cases hn) hd x
theorem Zqn {f:XRSp}{n:Nat}(h:∀ds Post Xp,f ds Post Xp->ds.length=n):∀vs H Q E,spXR K f vs H Q E->vs.length=n:=λvs H Q E hq=>by
 obtain⟨F,ds,Post,Xp,l,rs,hf,q⟩:=hq;rw[rs.length];exact h ds Post Xp hf
theorem Zw5 {f:XRSp}{t:TS}{N:List Str}{vs:List V}{H:Hp}{Q:VK}(ht:∀ds Post Xp,f ds Post Xp->ds.length<=N.length/\JXR K E Xp t (startD N ds) ⟨λ_=>Post .non,λd _=>Post d,λ_=>False,λ_=>False,λ_ _=>False⟩) (h:spXR K f vs H Q E) :
  t { nx:=λ_ H'=>Q .non H',rt:=Q } (start N vs) H:=by
 obtain⟨F,ds,Post,Xp,l,rs,hf,q,x⟩:=h;obtain⟨hl,hj⟩:=ht ds Post Xp hf;have fin:∀{v:V}{d:D}{Z:St}{G H':Hp}{O:Evt},Ok K ⟨λ_=>False,F,H,λ_=>none⟩ G H' Z O -> Rep K G v d->Post d->Q v H':=λ{v d Z G H' O} k r p=>by
  refine q v H' d (λb o e=>k.same b o (λz=>z) e) (r.mono λb o e=>?_) p;obtain⟨e1,e2⟩:=k.frz b o e;rcases e2 with z|z
  ·rw[Zdl z];exact e1
  ·rw[Zcz (l b o z)];exact z
 refine hj ⟨λ_=>False,F,H,λ_=>none⟩ F H (start N vs) _ (λC i dx H' h1 _ _ _ hz hd xc=>x C i dx H' (λb o e=>h1 b o (λz=>z) e) hz hd xc) (Zeg rs hl (λ_ _ _ e=>e) (λ_ z=>z.elim) (Same.refl _) (λb o e=>⟨l b o e,.inr e⟩) λ_=>rfl) ⟨λZ G H' O k p=>fin k .non p,λv d Z G H' O k r p=>fin k r p,λ_ _ _ _ _ z=>z.elim,λ_ _ _ _ _ z=>z.elim,λ_ _ _ _ _ _ _ _ z=>z.elim⟩
theorem Znz {t:TS}{P:Pst}(h:JS K t O P):JXR K E Xp t O P:=λg G H Z D _ k c=>h g G H Z D k c
theorem Zhj {t u:TS}(h:JXR K E Xp t O ⟨λO1=>JXR K E Xp u O1 ⟨nx,rt,bk,ct,ro⟩,rt,bk,ct,ro⟩):JXR K E Xp (tSeq t u) O ⟨nx,rt,bk,ct,ro⟩:=λg G H Z D w k c=>
 h g G H Z _ w k ⟨λZ1 G1 H1 O1 k1 p1=>p1 g G1 H1 Z1 D w k1 c,c.rt,c.bk,c.ct,c.ro⟩
theorem Zej {t u:TS}(h:JS K t O ⟨λO1=>JXR K E Xp u O1 ⟨nx,rt,bk,ct,ro⟩,rt,bk,ct,ro⟩):JXR K E Xp (tSeq t u) O ⟨nx,rt,bk,ct,ro⟩:=Zhj<|Znz h
theorem Zku {c:TT}{t u:TS}{P:Pst}(h:JT K c O λb O1=>if b=true then JXR K E Xp t O1 P else JXR K E Xp u O1 P):JXR K E Xp (tIfS c t u) O P:=λg G H Z D w k q=>
 h g G H Z _ k λb G1 H1 O1 k1 s1 p1=>by
  cases b with
  |true=>exact(show JXR K E Xp t O1 P from p1) g G1 H1 Z D w k1 q
  |false=>exact(show JXR K E Xp u O1 P from p1) g G1 H1 Z D w k1 q
theorem Zh1 {P:Pst}(p:P.nx O):JXR K E Xp tNext O P:=Znz<|Zjn p
theorem Zit {C:Addr}{ta:TA}{P:Pst}(h:JA K ta O λds O1=>∃i,ds=[.int i]/\Xp C i):JXR K E Xp (tRaiseR C "row" E ta) O P:=λg G H Z D w k q=>
 h g G H Z _ k λvs ds G1 H1 O1 k1 s1 r1 ⟨i,e,x⟩=>by
  subst e;obtain⟨v,_,rfl,rv,t⟩:=r1.inv;cases t.inv;cases rv.inv;exact⟨.int i,rfl,λdx hn=>w.at k1 (λb o e=>by rw[Zal (Zam e hn)];exact e) hn Zan x⟩
theorem Zs0 {wi:TI}{t:TG}{tb:TS}{nx bk ct:Evt->Prop}{rt:D->Evt->Prop}{ro:OD->Evt->Prop}(h:JI K wi O λds O1=>∃I:Nat->Evt->Prop,I 0 O1/\(∀i d O2,ds[i]?=some d->I i O2->JG K t d O2 λO3=>JXR K E Xp tb O3 ⟨I<|i+1,rt,nx,I<|i+1,ro⟩)/\∀O2,I ds.length O2->nx O2) :
  JXR K E Xp (tFor wi t tb) O ⟨nx,rt,bk,ct,ro⟩:=λg G H Z D w k c=>
 h g G H Z _ k λJ ds G1 H1 O1 k1 s1 it hq_=>by
  obtain⟨I,h0,ht,he⟩:=hq_;refine⟨λi m Z H=>m=ds.length-i/\i<=ds.length/\∃G O,Ok K g G H Z O /\ Same G1 G/\I i O,⟨ds.length,by simp,Wbu _,G1,O1,k1,Same.refl _,h0⟩,?_⟩;rintro i m Z2 H2 ⟨rfl,hi,G2,O2,k2,s2,h2⟩;obtain⟨stop,go⟩:=it G2 H2 s2 k2.live;by_cases hlt:i<ds.length
  ·obtain⟨g1,g2⟩:=go i _ (Wab hlt)
   refine .inr ⟨g1,λZ' H'=>i+1<=ds.length/\∃G O,Ok K g G H' Z' O /\ Same G1 G/\I (i+1) O,λZ' H' p'=>⟨ds.length-(i+1),by omega,rfl,p'.1,p'.2⟩,λx H3 y=>?_⟩;obtain⟨G3,a1,a2,a3,a4⟩:=g2 x H3 y;have k3:=k2.grow a1 a2 a3;have w3:EWR E Xp { g with F:=G3,Xo:=g.Xo }:=λC i dx H' h1 h2 h3 h4 h5 h6 x=>w C i dx H' h1 h2 (λb o e=>h3 b o<|k3.sub b o e) h4 h5 h6 x;refine ht i _ O2 (Wab hlt) h2 { g with F:=G3,Xo:=g.Xo } G3 H3 Z2 x _ ?_ a4 λZ4 G4 H4 O4 k4 s4 p4=>?_
   ·exact⟨k3.same,k3.lent,Same.refl _,λb o q=>⟨(k3.frz b o q).1,.inr q⟩,k3.ext,k3.len,k3.val,k3.own,k3.dis⟩
   ·have cv:∀{G5 H5:Hp}{Z5:St}{O5:Evt},Ok K { g with F:=G3,Xo:=g.Xo } G5 H5 Z5 O5->Ok K g G5 H5 Z5 O5/\Same G1 G5:=λ{G5 H5 Z5 O5} k5=>
     ⟨⟨k5.same,k5.lent,k3.sub.trans k5.sub,λb o q=>by
      obtain⟨q1,q2⟩:=k5.frz b o q;refine⟨q1,?_⟩;rcases q2 with z|z
      ·exact .inl z
      ·exact(k3.frz b o z).2,k5.ext,k5.len,k5.val,k5.own,k5.dis⟩,s2.trans (a1.trans k5.sub)⟩
    refine p4 _ G4 H4 Z4 _ w3 k4 ⟨λZ5 G5 H5 O5 k5 p5=>?_,λv d Z5 G5 H5 O5 k5 r5 p5=>?_,λZ5 G5 H5 O5 k5 p5=>?_,λZ5 G5 H5 O5 k5 p5=>?_,λa od Z5 G5 H5 O5 k5 pd5 p5=>?_⟩
    ·exact⟨hlt,G5,O5,(cv k5).1,(cv k5).2,p5⟩
    ·exact c.rt v d Z5 G5 H5 O5 (cv k5).1 r5 p5
    ·exact c.nx Z5 G5 H5 O5 (cv k5).1 p5
    ·exact⟨hlt,G5,O5,(cv k5).1,(cv k5).2,p5⟩
    ·exact c.ro a od Z5 G5 H5 O5 (cv k5).1 pd5 p5
  ·have e:i=ds.length:=by omega
   subst e;exact .inl ⟨stop,c.nx Z2 G2 H2 O2 k2<|he O2 h2⟩
end
section
variable {K:W.Frag}{O:Evt}{nx bk ct:Evt->Prop}{rt:D->Evt->Prop}{ro:OD->Evt->Prop}
theorem Zs6 {FE:Addr}{i:Nat}{f:XRSp}{ta:TA}{th:Addr->TS}(h:JA K ta O λds O1=>i < O1.length/\f ds (λd=>rt d O1) λC r=>((∃fI,excInI K C fI=true)/\PySem.W.mroIn K C (.ref FE)=some true)/\∀a,JS K (th a) (O1.set i (.val (.excR a C r))) ⟨λO2=>nx (O2.set i .any),rt,λO2=>bk (O2.set i .any),λO2=>ct (O2.set i .any),ro⟩) :
  JS K (tTryR K FE i (spXR K f) ta th) O ⟨nx,rt,bk,ct,ro⟩:=λg G H Z D k c=>
 h g G H Z _ k λvs ds G1 H1 O1 k1 s1 r1 ⟨hi,hf⟩=>by
  refine⟨λv dd H'=>∃C dx r,v=.ref C/\dd=some dx/\H1 dx=none/\H' dx=some (.xd [("row",.int r)])/\Same H1 H' /\ ((∃fI,excInI K C fI=true)/\PySem.W.mroIn K C (.ref FE)=some true)/\∀a,JS K (th a) (O1.set i (.val (.excR a C r))) ⟨λO2=>nx (O2.set i .any),rt,λO2=>bk (O2.set i .any),λO2=>ct (O2.set i .any),ro⟩,⟨G1,ds,_,_,k1.live,r1,hf,λr H' d sh rr pd=>?_,λC r dx H' sh hn hd x=>⟨C,dx,r,rfl,rfl,hn,hd,sh,x⟩⟩,?_⟩
  ·have sg:=Zd2 (H':=H') k1.live
   exact c.rt _ d _ _ H' O1 (k1.grow sg sh (Zes k1.live λb o _ e=>sh b o e)) rr pd
  ·rintro C dx H2 ⟨C',dx',r,e,e',hn,hd,sh,hx,hth⟩
   cases e;cases e';refine⟨hx,λa ha=>?_⟩;have sg:=Zd2 (H':=H2) k1.live;have k2:=k1.grow sg sh (Zes k1.live λb o _ e=>sh b o e);have g2:glue G1 H1 H2 dx=some (.xd [("row",.int r)]):=by rw[Zdl hn];exact hd
   obtain⟨k3,sg3⟩:=k2.laid ha (.ext<|InsR a C dx);have k4:=k3.setVal (i:=i) hi (.excR Zan<|sg3 _ _ g2);exact hth a g _ _ _ _ k4 ⟨λZ' G' H' O' k' p=>c.nx _ G' H' _ (k'.unset i) p,c.rt,λZ' G' H' O' k' p=>c.bk _ G' H' _ (k'.unset i) p,λZ' G' H' O' k' p=>c.ct _ G' H' _ (k'.unset i) p,c.ro⟩
end
def tRowR (K:W.Frag) (ta:TE) (nm:Str):TE:=λZ H Q=>ta Z H λx H1=>∃a C f dx i,x=.ref a/\H1 a=some (.ext<|InsR a C dx)/\H1 dx=some (.xd [(nm,.int i)])/\ExcIR K C f/\PySem.W.hasDictIn K C=true/\PySem.W.findIn K (.ref C) nm=some none/\Q (.int i) H1
theorem Ztb {X:Cx}{e:Expr}{f:Str}{pos:Pos}{ta:TE}(he:PE X e ta) (hb:attributeBase e f X.env (eval e X.env)=eval e X.env):PE X (.Attribute e f pos) (tRowR X.K ta f):=by
 intro pins s Z H Q I h;refine Ztp hb (thn (he pins s Z H _ I h) λu s1 ⟨x,H1,I1,rx,a,C,fI,dx,i,ex,ea,ed,Z_,hd,na,q⟩=>?_);subst ex;obtain rfl:u=Value.ref a:=rx;obtain⟨mA,D,r⟩:=I1.hok dx _ ed;have hr:=r f;rw[List.lookup_cons_self]at hr;cases hm:mA f with
 |none=>rw[hm]at hr;exact hr.elim
 |some u'=>
  rw[hm]at hr;obtain⟨tk,rfl⟩:=(show ∃t,u'=Value.int i t from hr);exact Zpk I1.kIn Z_ hd na (I1.hok a _ ea).1 D hm rfl ⟨.int i,H1,I1.tok _,⟨_,rfl⟩,q⟩
theorem Zsq {K:W.Frag}{O:Evt}{P:D->Evt->Prop}{te:TE}(h:JE K te O λd O1=>∃a C i f,d=.excR a C i/\ExcIR K C f/\PySem.W.hasDictIn K C=true/\PySem.W.findIn K (.ref C) "row" = some none/\P (.int i) O1):JE K (tRowR K te "row") O P:=λg G H Z Q k c=>
 h g G H Z _ k λv d G1 H1 O1 k1 s1 r1 ⟨a,C,i,f,e,Z_,hd,na,p⟩=>by
  subst e;obtain⟨rfl,dx,ha,hb⟩:=r1.inv;exact⟨a,C,f,dx,i,rfl,k1.live _ _ ha,k1.live _ _ hb,Z_,hd,na,c _ _ G1 H1 O1 k1 s1 (.int i) p⟩
section
variable {P:Program}{w:World}{K:W.Frag}{mg:Str->Option Value}{base:Heap}
theorem Fun.okR {x qual:Str}{st:Stmt}{f:Addr}{fd:FuncData}{N ps:List Str}{k:Nat}{sp:Sp}(F:Fun K x qual st f fd) (S:FnScope N ps (defScope st)) (len:∀vs H Q E,sp vs H Q E->vs.length=ps.length)
  (hbody:∀(cdv:Value) (A:Around) (outer:List Env) (s:Shared) (H:Hp) (vs:List V) (Q:VK) (E:XK),Room k (A.deeper (envOfC qual (defScope st) s.heap.objs.size f cdv))->sp vs H Q E ->
   ∃t,PSs (cxOf (CXR P w) P w K mg base N qual (defScope st) f cdv A outer s H E) (defBody st) t/\t { nx:=λ_ H'=>Q .non H',rt:=Q } (start N vs) H):FnOk P w K mg base (CXR P w) (k+1) f fd ps sp:=by
 obtain⟨oc,od,kV,doc,pm,an,cdv,ct,osl,rfl,lk,hcd⟩:=F.ex;exact Zut lk hcd S len λA outer s H vs Q E hr hsp=>hbody cdv A outer s H vs Q E hr hsp
structure NoTx (P:Program) (w:World) (K:W.Frag) (mg:Str->Option Value) (base:Heap) (x:Str) (C f:Addr):Prop where
 nm:mg x=some (.ref C)
 z:ExcS K C f "row"
 fn:PySem.W.typeIn K (.ref f)=some (.type "function")
 be:PySem.W.mroIn K C (.type "BaseException")=some true
 kp:W.keepIn K (.ref C)=true
 fd:∃fd ps,FnOk P w K mg base CX0 1 f fd ps (spI K "row")/\Binds K fd ps []/\ps.length=2
end
section
variable {X:Cx}{x:Str}{C f:Addr}{np cpos pos:Pos}{e:Expr}{t:TA}{E:XK}
theorem Zfz (n:NoTx X.prog X.w X.K X.mg X.base x C f) (hr:Room 2 X.A) (hex:X.ex=[]) (hg:Gl X x) (hh:X.A.handled=none) (ht:ThrowsR X E) (ha:PA X [e] t) (hdb:(x == ("__debug__":Str))=false:=by decide)
  (he:starEach [e] X.env=(false,eval e X.env)::starEach [] X.env:=by rfl) (hpl:(backTo cpos<|starEach [e] X.env).any (·.1)=false:=by rfl):PS X (.Raise (some (.Call (.Name x np) [e] [] cpos)) none pos) (tRaiseR C "row" E t):=by
 obtain⟨fd,ps,F,hb,hps⟩:=n.fd;exact Zl9 n.z n.fn n.be F hr hb hps hex hg n.nm hh ht ha hdb he hpl
end
def ItrR (xa:Addr) (lo:Int) (n:Nat):It:=⟨λi _=>i<n,λi H x H'=>H'=H/\x=.int (lo+i),λi H=>n<=i/\∃C dx,H xa=some (.ext<|InsR xa C dx)⟩
def iRngR (xa:Addr) (ta:TA):TI:=λZ H R=>ta Z H λvs H1=>∃j:Int,vs=[.int j] /\ -(2 ^ 62)<=j/\j<2 ^ 62/\R (ItrR xa 0 j.toNat) H1
theorem Zi9 {P:Program}{w:World}{K:W.Frag}{tg:Expr}(xa it:Addr) (lo:Int) (n:Nat):TurnH xa P w K tg (ItrR xa lo n) [it] it (λi h=>IsRangeIter h it (lo+(i:Nat)*1) ((n:Int)-(i:Nat)) 1) where
 mem:=by simp
 obj:=λi h st b hb=>by
  have e:b=it:=by simpa using hb
  subst e;exact⟨_,st,λv z=>by
   have z':Data.fields _=Data.cell v:=z;cases z'⟩
 keep:=λi h h' st k=>k it (by simp) _ st
 item:=by
  intro X hP hw hK hc i pins s Z H E I hf st hg;subst hP hw hK;obtain⟨f0,f1,f2,f3,f4,f5⟩:=hf it (by simp);have hg:i<n:=hg;refine wpAny_pyNext_range_item st (by omega) λh' st' sb=>?_;have I1:Inv X pins Z H { s with heap:=h',toks:=s.toks+1 }:=I.turned (λb o hb e=>(sb.2 b hb).trans e) f0 f1 f3 f4 f5;have e1:lo+((i+1:Nat):Int)*1=lo+(i:Int)*1+1:=by omega
  have e2:(n:Int)-((i+1:Nat):Int)=(n:Int)-(i:Int)-1:=by omega
  refine⟨_,rfl,Znc (s:={ s with heap:=h',toks:=s.toks+1 }) (n:="range_iterator") st' rfl rfl (by decide) ⟨.int<|lo+i,H,I1,⟨_,by rw[Int.mul_one]⟩,⟨rfl,rfl⟩,by rw[e1,e2];exact st',λb hb=>(hf b hb).1⟩⟩
 done:=by
  intro X hP hw hK hc i pins s Z H E I hf st hg;subst hP hw hK;obtain⟨f0,f1,f2,f3,f4,f5⟩:=hf it (by simp);obtain⟨hg,C,dx,hC⟩:=hg;obtain⟨⟨ox,vs,q1,q2,q3,q4,_⟩,_⟩:=I.hok xa _ hC;exact Zl0 hc q1 q3 q4 st (by omega) λh' eb=>⟨rfl,I.turned (t':=s.toks) (λb o hb e=>eb b o hb e) f0 f1 f3 f4 f5⟩
 self:=λ_ _ _ _ _ st h=>wpAny_pyIter_rangeiter st h
section
variable {X:Cx}{xa:Addr}{tg:Expr}
theorem Zl6 {pins:Qbz}{Z:St}{H:Hp}{s:Shared}{R:It->Hp->Prop}{E:Qb0}{lo hi:Int}{t u v:Tok}{tk:Nat}(I:Inv X pins Z H s) (h1:-(2 ^ 62)<=lo) (h2:lo<2 ^ 62) (h3:-(2 ^ 62)<=hi) (h4:hi<2 ^ 62)
  (q:R (ItrR xa lo (hi-lo).toNat) H):wpAny (model X.prog X.w) X.A (pyIter (.ref s.heap.objs.size)) (PIEH xa X pins Z tg R) E { s with heap:=s.heap.push { cls:=.type "range",data:=.fields #[.int lo t,.int hi u,.int 1 v] },toks:=tk }:=by
 refine wpAny_pyIter_range (IsRange.new ..) (small_one h1 h2 h3 h4) ?_;have I1:Inv X pins Z H { s with heap:=s.heap.push { cls:=.type "range",data:=.fields #[.int lo t,.int hi u,.int 1 v] },toks:=tk }:=I.kept λb o e=>Wac _ e;refine⟨(s.heap.push { cls:=.type "range",data:=.fields #[.int lo t,.int hi u,.int 1 v] }).objs.size,[(s.heap.push { cls:=.type "range",data:=.fields #[.int lo t,.int hi u,.int 1 v] }).objs.size],_,_,H,rfl,
  I1.kept (t':=tk) λb o e=>Wac _ e,Zi9 xa _ lo (hi-lo).toNat,?_,λb hb=>?_,q⟩
 ·have e1:lo+((0:Nat):Int)*1=lo:=by simp
  have e2:(((hi-lo).toNat:Nat):Int)-((0:Nat):Int)=Builtin.Range.rangeSize lo hi 1:=by rw[rangeSize_one];split <;> omega
  show IsRangeIter _ _ (lo+((0:Nat):Int)*1) ((((hi-lo).toNat:Nat):Int)-((0:Nat):Int)) 1;rw[e1,e2];exact Wam _ rfl
 ·have e:b=(s.heap.push { cls:=.type "range",data:=.fields #[.int lo t,.int hi u,.int 1 v] }).objs.size:=by simpa using hb
  subst e;exact I1.fpOk (Waj _)<|I1.hok.fresh<|Waj _
theorem Zlb {a:Expr}{ta:TA}{p pos:Pos}(hg:Gl X "range") (hm:X.mg "range" = none) (ha:PA X [a] ta) (hs:starEach [a] X.env=[(false,eval a X.env)]:=by rfl):PIH xa X tg (.Call (.Name "range" p) [a] [] pos) (iRngR xa ta):=by
 intro pins s Z H R I h;refine Call_<|Ze0 I hg hm boot_range<|PyProof.Rows.callWith_type1 (thn (ha pos pins s Z H _ I h) λus s1 ⟨vs,H1,I1,r1,q1⟩=>?_) hs rfl;obtain⟨j,e,q1,q2,q⟩:=q1;subst e;cases r1 with
 |cons r rr=>
  cases rr;obtain⟨t,rfl⟩:=r;exact call_range_1<|Zl6 I1 (by omega) (by omega) q1 q2 (by simpa using q)
end
section
variable {K:W.Frag}{O:Evt}
theorem Zmx {G:Hp}{xa C dx:Addr}(hC:G xa=some (.ext<|InsR xa C dx)) (lo:Int) (n:Nat):ItOk K G (ItrR xa lo n) (rngD lo n):=λG1 H1 sg sh=>by
 refine⟨⟨by rw[Zbp];exact Waj _,C,dx,sh _ _<|sg _ _ hC⟩,λi d e=>?_⟩;obtain⟨h1,h2⟩:=Zcb e;subst h2;refine⟨h1,λx H2 ⟨e2,y2⟩=>⟨G1,Same.refl _,by rw[e2];exact Same.refl _,λb o q=>⟨by rw[e2];exact sh b o q,.inl q⟩,?_⟩⟩;subst y2;exact .int _
theorem Zov {i:Nat}{xa C:Addr}{r:Int}{ta:TA}{P:List D->Evt->Prop}(h:JA K ta O λds O1=>O1[i]?=some (.val (.excR xa C r))/\∃n:Int,ds=[.int n] /\ -(2 ^ 62)<=n/\n<2 ^ 62/\P (rngD 0 n.toNat) O1):JI K (iRngR xa ta) O P:=λg G H Z R k c=>
 h g G H Z _ k λvs ds G1 H1 O1 k1 s1 r1 hq=>by
  obtain⟨hx,n,e,h1,h2,p1⟩:=hq;subst e;obtain⟨v,q1,q2⟩:=k1.val i _ hx;obtain⟨rfl,dx,hC,_⟩:=q2.inv;obtain⟨v2,_,rfl,ra,rr⟩:=r1.inv;cases rr.inv;cases ra.inv;exact⟨n,rfl,h1,h2,c _ _ G1 H1 O1 k1 s1 (Zmx hC 0 _) p1⟩
end
section
variable {K:W.Frag}{O:Evt}{P:D->Evt->Prop}
end
section
variable {X:Cx}
def rIntT:List V->Hp->VK->Prop:=λxs H Q=>∃(z:PySem.Str) (n:Int),xs=[.str z]/\PySem.intText? z=some n/\z.length<=640/\Q (.int n) H
theorem Zf0:CallR X (.type "int") rIntT:=by
 intro pins s Z H xs us Q I r h;obtain⟨z,n,rfl,h0,h1,q⟩:=h;obtain⟨u,rfl,t,rfl⟩:=vals1 r;exact PySem.W.KIN.call_text h0 h1 ⟨.int n,H,I.tok _,⟨_,rfl⟩,q⟩
end
section
variable {K:W.Frag}{O:Evt}{P:D->Evt->Prop}
theorem Zjp {z:PySem.Str}{n:Int}(h0:PySem.intText? z=some n) (h1:z.length<=640) (p:P (.int n) O):JC K rIntT [.str z] O P:=λg G H Z Q vs k rs c=>by
 obtain⟨_,_,rfl,r,t⟩:=rs.inv;cases t.inv;cases r.inv;exact⟨z,n,rfl,h0,h1,c _ _ G H O k (Same.refl _) (.int _) p⟩
theorem Zt7 {i j:PySem.Str}(p:P (.bl (!(!(Builtin.Str.occurrences j i 0 j.length 1).isEmpty))) O):JR2 K (λx y H Q=>∃i j,x=.str i/\y=.str j/\Q (.bl (!(!(Builtin.Str.occurrences j i 0 j.length 1).isEmpty))) H) (.str i) (.str j) O P:=λg G H Z Q v u k rx ry c=>by
 cases rx.inv;cases ry.inv;exact⟨i,j,rfl,rfl,c _ _ G H O k (Same.refl _) (.bl _) p⟩
def nnD:Option Nat->D
 |some n=>.int n
 |none=>.non
def nnV:Option Nat->V
 |some n=>.int n
 |none=>.non
theorem Zmm {G:Hp}:∀{ns:List (Option Nat)}{vs:List V},Reps K G vs (ns.map nnD)->vs=ns.map nnV
 |[],_,r=>by cases r;rfl
 |n::ns,_,r=>by
  obtain⟨_,_,rfl,r,t⟩:=r.inv;rw[Zmm t];cases n with
  |none=>cases r.inv;rfl
  |some n=>cases r.inv;rfl
theorem Zr2:∀ns:List (Option Nat),inV .non (ns.map nnV)=decide (none∈ns)
 |[]=>rfl
 |n::ns=>by
  have:=Zr2 ns;unfold inV at this ⊢;rw[Wa3,Wcc,this];cases n with
  |none=>simp;exact .inl rfl
  |some n=>simp;exact λz=>absurd (show false=true from z) (by decide)
theorem Zpb:∀ns:List (Option Nat),(ns.map nnV).all flatV=true
 |[]=>rfl
 |n::ns=>by rw[Wa3,Wc0,Zpb ns];cases n <;> rfl
theorem Zul {ns:List (Option Nat)}(p:P (.bl<|decide<|none∈ns) O):JR2 K (rInU K false) .non (.lst<|ns.map nnD) O P:=λg G H Z Q x y k rx ry c=>by
 cases rx.inv;obtain⟨a,vs,rfl,ha,rs⟩:=ry.inv;have ev:=Zmm rs;subst ev;refine .inl ⟨a,_,rfl,.inl<|SqL.of<|k.live _ _ ha,rfl,Zpb ns,?_⟩;rw[Zr2];exact c _ _ G H O k (Same.refl _) (.bl _) p
theorem Ok.peekH {g:Gm}{G H:Hp}{Z:St}(k:Ok K g G H Z O) {i:Nat}{x:Slot}{ds:List D}(h:O[i]?=some x) (ho:x.od=some (.lst ds)) :
  ∃(g':Gm) (G':Hp),(∀b o,H b=some o->g'.Hz b=some o)/\Ok K g' G' H Z ((O.map onlyV).set i (.val (.lst ds)))/\Same G G' /\ ∀G2 H2 O2,Ok K g' G2 H2 Z O2->Ok K g G H2 Z O:=by
 obtain⟨a,o,w1,w2,w3,w4,w5⟩:=k.own i x _ h ho;cases o with
 |lst vs=>
  have sg:Same G (upd G a (.lst vs)):=λb u e=>by rw[Zal (Zam e w4)];exact e
  have hlt:i<(O.map onlyV).length:=by rw[Waa];exact(Wah.mp h).1
  refine⟨⟨λ_=>False,upd G a (.lst vs),H,λ_=>none⟩,upd G a (.lst vs),λb o e=>e,⟨λb o _ e=>e,λb z=>z.elim,λb o e=>e,λb o e=>?_,λb o e=>(by cases e),?_,λj d e=>?_,λj y od e1 e2=>?_,λj l y z od od' b e1 e2 e3 e4=>?_⟩,sg,λG2 H2 O2 k2=>?_⟩
  ·refine⟨?_,.inr e⟩
   by_cases hb:b=a
   ·subst hb;rw[Zan]at e;cases e;exact w2
   ·rw[Zal hb]at e;exact k.live b o e
  ·rw[Wbs,Waa];exact k.len
  ·by_cases hj:j=i
   ·subst hj
    rw[Wak hlt]at e;cases e;exact⟨.ref a,w1,.lst Zan<|Reps.mono sg w3⟩
   ·rw[Wan (Ne.symm hj),Waf]at e
    cases z:O[j]? with
    |none=>rw[z]at e;cases e
    |some y=>
     rw[z]at e;cases y with
     |val d'=>
      have e:Slot.val d'=Slot.val d:=Waw.inj e;cases e;obtain⟨v,q1,q2⟩:=k.val j d z;exact⟨v,q1,q2.mono sg⟩
     |_=>cases e
  ·exfalso
   by_cases hj:j=i
   ·subst hj
    rw[Wak hlt]at e1;cases e1;cases e2
   ·rw[Wan (Ne.symm hj),Waf]at e1
    cases z:O[j]? with
    |none=>rw[z]at e1;cases e1
    |some y=>
     rw[z]at e1;have e1:onlyV y=_:=Waw.inj e1;rw[<- e1,Zfa]at e2;cases e2
  ·exfalso
   by_cases hj:j=i
   ·subst hj
    rw[Wak hlt]at e1;cases e1;cases e2
   ·rw[Wan (Ne.symm hj),Waf]at e1
    cases z:O[j]? with
    |none=>rw[z]at e1;cases e1
    |some y=>
     rw[z]at e1;have e1:onlyV y=_:=Waw.inj e1;rw[<- e1,Zfa]at e2;cases e2
  ·have kp:∀b o,H b=some o->H2 b=some o:=λb o e=>k2.same b o (λz=>z) e
   refine⟨λb o n e=>kp b o<|k.same b o n e,λb n z=>?_,k.sub,λb o e=>⟨kp b o (k.frz b o e).1,(k.frz b o e).2⟩,λb o e=>?_,k.len,k.val,λj y od e1 e2=>?_,k.dis⟩
   ·cases e:H b with
    |none=>exact k.lent b n e
    |some o=>rw[kp b o e]at z;cases z
   ·obtain⟨q1,q2,q3⟩:=k.ext b o e
    exact⟨kp b o q1,q2,q3⟩
   ·obtain⟨b,o,q1,q2,q3⟩:=k.own j y od e1 e2
    exact⟨b,o,q1,kp b o q2,q3⟩
 |_=>exact absurd w3 (λz=>z)
theorem Zks {G G':Hp}:∀{es:List D}{vs:List V},(∀e∈es,plnD e)->Reps K G vs es->Reps K G' vs es
 |[],_,_,r=>by cases r;exact .nil
 |e::es,_,h,r=>by
  obtain⟨_,_,rfl,r,t⟩:=r.inv;exact .cons (Zna (h e Wat) r)<|Zks (λz hz=>h z<|Wap _ hz) t
theorem Ztd {i:Nat}{x:Slot}{ds:List D}{t:TE}{Po:OD->Evt->Prop}(h:O[i]?=some x) (ho:x.od=some (.lst ds)) (p:JO K t ((O.map onlyV).set i (.val (.lst ds))) λod _=>(∃es,od=.lst es/\∀e∈es,plnD e)/\Po od O):JO K t O Po:=λg G H Z Q k c=>by
 obtain⟨g',G',hh,k',sg,back⟩:=k.peekH h ho;have hz:∀b,g'.Hz b=none->H b=none:=λb e=>by
  cases q:H b with
  |none=>rfl
  |some o=>rw[hh b o q]at e;cases e
 exact p g' G' H Z Q k' λa od G2 H2 O2 k2 s2 pd ⟨⟨es,e1,e2⟩,q⟩=>by
  subst e1;obtain⟨o,q1,q2,q3,q4,q5,q6⟩:=pd;cases o with
  |lst vs=>
   have ha:H a=none:=hz a q4;have kb:=back G2 H2 O2 k2;refine c a _ G H2 O kb (Same.refl _) ⟨.lst vs,q1,?_,?_,k.there ha,?_,λj y od' f1 f2 f3=>?_⟩ q
   ·exact Zks e2 q2
   ·cases z:G a with
    |none=>rfl
    |some u=>rw[k.live _ _ z]at ha;cases ha
   ·cases z:g.Xo a with
    |none=>rfl
    |some u=>rw[(k.ext _ _ z).1]at ha;cases ha
   ·obtain⟨b,o,g1,g2,_⟩:=k.own j y od' f1 f2
    rw[f3]at g1;cases g1;rw[ha]at g2;cases g2
  |_=>exact absurd q2 (λz=>z)
end
def tTryQ (K:W.Frag) (FE:Addr) (n:Nat) (tb:XK->TS) (th:TS):TS:=λD Z H=>∃E:XK,tb E D Z H/\∀C H1,E (.ref C) none H1->(ExcC K C/\PySem.W.mroIn K C (.ref FE)=some true)/\th D (Wad n none) H1
section
variable {X:Cx}{x:Str}{FE:Addr}{np hpos pos:Pos}{b0:Stmt}{body hb:List Stmt}{n:Nat}{tb:XK->TS}{th:TS}
theorem Zsz (hn:X.N.length=n) (hex:X.ex=[]) (hst:X.stack=X.env::X.outer) (hf:X.env.frame=some X.env.locals) (hg:Gl X x) (hm:X.mg x=some (.ref FE)) (cF:ExcC X.K FE)
  (hbd:∀(E:XK) (pn:Qbz) (xe:Qb0),Passes (CXE X.prog X.w) (XT X pn xe) E->PSs (XT X pn xe) body (tb E)) (hh:∀a,PSs (XC X a) (b0::hb) th) (hdb:(x == ("__debug__":Str))=false:=by decide) :
  PS X (.Try body [.ExceptHandler (some (.Name x np)) none (b0::hb) hpos] [] [] pos) (tTryQ X.K FE n tb th):=by
 intro pins s Z H D I h;obtain⟨E,hB,hE⟩:=h;refine wpAny_Try_except ?_;refine Qbp (hbd E (X.pn++pins) (λe s1=>wpAny (model X.prog X.w) X.A (noteFrame e X.env) (λ_ s2=>wpAny (model X.prog X.w) X.A (setFlight e none) (λ_ s3=>wpAny (model X.prog X.w) X.A (handleBy e X.env [.ExceptHandler (some (.Name x np)) none (b0::hb) hpos]) (SP X pins D) X.xe s3) X.xe s2) X.xe s1) ?_ [] s Z H D I.into hB) (λf s1 hq=>?_) λ_ _ z=>z
 ·intro pins1 Z1 H1 s1 e s2 J hq
  obtain⟨a,C,T,H2,rfl,os,bare,un,hok,ha,hsa,hT,hsT,tr,hE'⟩:=hq;have J1:Inv X pins Z1 H1 s1:=Inv.outof I.ok J;have J2:Inv X pins Z1 H2 s2:=J1.call' (ch:=[]) os un hok bare (λb z=>absurd z<|by simp);have na:=(Nw.of J1 hex hsa).at ha;have nT:=(Nw.of J1 hex hsT).at hT;obtain⟨⟨cC,mC⟩,hth⟩:=hE C H2 hE';refine Zsl J2 hex hst hf tr na nT λh3 T3 K3 t3 n3=>?_;have inC:∀{h:Heap}{T:Addr},Trc h a C T->InsC a C h:=λq=>by
   obtain⟨oe,vs,oT,ts,q1,q2,q3,_,q4,_⟩:=q;exact⟨oe,vs,q1,q2,q3,q4⟩
  refine wpAny_handleBy_cons (codeAny_handlers_test ?_) (by intro q;cases q);refine Zc5 (X:=XC X a) (K3.suite a) hg hm ?_ hdb;refine Zgn (K:=X.K) K3.kIn cF cC mC (inC t3) ?_;refine codeAny_handlers_suite ?_;refine Zqr K3 hex t3 na n3 λh4 T4 K4 t4 n4=>?_;have K5:=K4.suite a;have K6:=K5.weak (Z':=Wad n none) (by rw[Wa5,<- hn];exact K5.len.symm) (λj v z=>by
   rw[Wbe]at z;split at z <;> cases z)
  refine Qbp (hh a pins _ _ _ _ K6 hth) (λf s6 q=>?_) λ_ _ z=>z.elim;cases f with
  |next=>
   obtain⟨Z',H',K8,q⟩:=q;exact⟨Z',H',K8.unsuite I.ok,q⟩
  |brk=>
   obtain⟨Z',H',K8,q⟩:=q;exact⟨Z',H',K8.unsuite I.ok,q⟩
  |cont=>
   obtain⟨Z',H',K8,q⟩:=q;exact⟨Z',H',K8.unsuite I.ok,q⟩
  |ret u=>
   obtain⟨v,Z',H',K8,r,q⟩:=q;exact⟨v,Z',H',K8.unsuite I.ok,r,q⟩
 ·cases f with
  |next=>
   obtain⟨Z',H',J,q⟩:=hq;exact wpAny_execs_nil ⟨Z',H',Inv.outof I.ok J,q⟩
  |brk=>
   obtain⟨Z',H',J,q⟩:=hq;exact⟨Z',H',Inv.outof I.ok J,q⟩
  |cont=>
   obtain⟨Z',H',J,q⟩:=hq;exact⟨Z',H',Inv.outof I.ok J,q⟩
  |ret u=>
   obtain⟨v,Z',H',J,r,q⟩:=hq;exact⟨v,Z',H',Inv.outof I.ok J,r,q⟩
end
section
variable {K:W.Frag}{O:Evt}{nx bk ct:Evt->Prop}{rt:D->Evt->Prop}{ro:OD->Evt->Prop}
theorem Zsp {FE:Addr}{n:Nat}{tb:XK->TS}{th:TS}(Xp:Addr->Prop) (hn:O.length=n) (hb:∀E,JX K E Xp (tb E) O ⟨nx,rt,bk,ct,ro⟩)
  (hh:∀C,Xp C->(ExcC K C/\PySem.W.mroIn K C (.ref FE)=some true)/\JS K th (Wad n .any) ⟨nx,rt,bk,ct,ro⟩) :
  JS K (tTryQ K FE n tb th) O ⟨nx,rt,bk,ct,ro⟩:=λg G H Z D k c=>by
 refine⟨λv _ H'=>∃C,v=.ref C/\Xp C/\(∀b o,¬ g.B b->g.Hz b=some o->H' b=some o)/\(∀b,g.B b->H' b≠none)/\Same g.F H' /\ (∀b o,g.Xo b=some o->H' b=some o),?_,λC H1 hq=>?_⟩
 ·exact hb _ g G H Z D (λC H' h1 h2 h3 h4 x=>⟨C,rfl,x,h1,h2,h3,h4⟩) k c
 ·obtain⟨C',e,x,h1,h2,h3,h4⟩:=hq
  cases e;obtain⟨hx,hj⟩:=hh C x;refine⟨hx,?_⟩;have noOd:∀(j:Nat) (z:Slot) o,(Wad n Slot.any)[j]?=some z->z.od=some o->False:=λj z o e1 e2=>by
   rw[Wbe]at e1;split at e1
   ·cases e1;cases e2
   ·cases e1
  have k0:Ok K g g.F H1 (Wad n none) (Wad n .any):=by
   refine⟨h1,h2,Same.refl _,λb o e=>⟨h3 b o e,.inr e⟩,λb o e=>⟨h4 b o e,?_,λj z o' e1 e2=>(noOd j z o' e1 e2).elim⟩,by simp,λj d e=>?_,λj z o' e1 e2=>(noOd j z o' e1 e2).elim,λj l z y o o' b e1 e2=>(noOd j z o e1 e2).elim⟩
   ·cases q:g.F b with
    |none=>rfl
    |some u=>have z:=(k.ext b o e).2.1;rw[k.sub b u q]at z;cases z
   ·rw[Wbe]at e
    split at e <;> cases e
  exact hj g _ _ _ _ k0 c
end
section
variable {X:Cx}
def rSlS:V->Option Int->Option Int->Hp->VK->Prop:=λx lo hi H Q=>∃z,x=.str z/\z.length<=sizeLine/\Q (.str<|Txt.slice z lo hi) H
theorem Zsk:SlR X rSlS:=by
 intro pins s Z H x v vl vu lo hi sl Q I rx hs pl pu h;obtain⟨z,rfl,hz,q⟩:=h;obtain⟨t,rfl⟩:=rx;have fin:∀(t':Tok) (k:Nat),EP X pins Z Q (.str (Txt.slice z lo hi) t') { s with toks:=k }:=λt' k=>⟨.str _,H,I.tok k,⟨t',rfl⟩,q⟩;have hl:=Way (Txt.slice_le z lo hi) hz;refine⟨"str",_,PySem.F.slot_str_getitem.lookup,typeIs_str _ _ _,?_⟩;cases pl with
 |none=>
  cases pu with
  |none=>exact wpAny_getItem_str_slice (l:=none) (u:=none) (st:=none) hs rfl (post_val_or_str ⟨hl,fin⟩)
  |int j uj=>exact wpAny_getItem_str_slice (l:=none) (u:=some (j,uj)) (st:=none) hs rfl (post_val_or_str ⟨hl,fin⟩)
 |int i ui=>
  cases pu with
  |none=>exact wpAny_getItem_str_slice (l:=some (i,ui)) (u:=none) (st:=none) hs rfl (post_val_or_str ⟨hl,fin⟩)
  |int j uj=>exact wpAny_getItem_str_slice (l:=some (i,ui)) (u:=some (j,uj)) (st:=none) hs rfl (post_val_or_str ⟨hl,fin⟩)
def rMulS:R2:=λx y H Q=>∃z n,x=.str z/\y=.int n/\MulOk z n/\Q (.str<|Txt.mul z n) H
theorem Zm7:OpR X (binaryOp .Mult) rMulS:=by
 intro pins s Z H x y v u Q I rx ry h;obtain⟨z,n,rfl,rfl,hm,q⟩:=h;obtain⟨t,rfl⟩:=rx;obtain⟨t2,rfl⟩:=ry;exact PySem.SB.mul hm λt' k=>⟨.str _,H,I.tok k,⟨t',rfl⟩,q⟩
end
section
variable {K:W.Frag}{O:Evt}{P:D->Evt->Prop}
theorem Zru {te:TE}{tl th:TO}(h:JE K te O λd O1=>JO2 tl O1 K λlo O2=>JO2 th O2 K λhi O3=>∃z,d=.str z/\z.length<=sizeLine/\P (.str<|Txt.slice z lo hi) O3):JE K (tSl rSlS te tl th) O P:=λg G H Z Q k c=>
 h g G H Z _ k λv d G1 H1 O1 k1 s1 r1 p1=>p1 g G1 H1 Z _ k1 λlo G2 H2 O2 k2 s2 p2=>p2 g G2 H2 Z _ k2 λhi G3 H3 O3 k3 s3 hq_=>by
  obtain⟨z,e,hz,p⟩:=hq_;subst e;cases r1.inv;exact⟨z,rfl,hz,c _ _ G3 H3 O3 k3 (s1.trans<|s2.trans s3) (.str _) p⟩
theorem Znq {z:PySem.Str}{n:Int}(hm:MulOk z n) (p:P (.str<|Txt.mul z n) O):JR2 K rMulS (.str z) (.int n) O P:=λg G H Z Q x y k rx ry c=>by
 cases rx.inv;cases ry.inv;exact⟨z,n,rfl,rfl,hm,c _ _ G H O k (Same.refl _) (.str _) p⟩
end
end L2
set_option Elab.async false
set_option linter.all false
set_option maxRecDepth 100000
set_option maxHeartbeats 4000000
namespace Lw
open PySem L2
def top (i:Nat):Stmt:=PySem.Challenge.pw_holefloor_k83_texts_spoilt_anywhere.main.body.getD i (.Pass ⟨0,0,0,0⟩)
abbrev Ya2:Stmt:=top 18
abbrev Ya3:Stmt:=top 19
abbrev Yas:Stmt:=top 23
abbrev Ya4:Stmt:=top 24
abbrev Yat:Stmt:=top 25
abbrev Ya5:Stmt:=top 26
abbrev Yau:Stmt:=top 30
abbrev Yav:Stmt:=top 31
abbrev Yaw:Stmt:=top 32
abbrev Ya6:Stmt:=top 33
abbrev Ya7:Stmt:=top 34
abbrev Ya8:Stmt:=top 35
abbrev Ya9:Stmt:=top 36
abbrev Yax:Stmt:=top 38
abbrev Yba:Stmt:=top 39
abbrev Ybb:Stmt:=top 40
abbrev Yag:Stmt:=top 41
abbrev Ybc:Stmt:=top 42
abbrev Yah:Stmt:=top 43
abbrev Yay:Stmt:=top 44
abbrev Ybd:Stmt:=top 45
abbrev Yai:Stmt:=top 46
abbrev Yan:Stmt:=top 47
abbrev Ybe:Stmt:=top 48
abbrev Ybf:Stmt:=top 49
abbrev Yao:Stmt:=top 50
abbrev Ybg:Stmt:=top 51
abbrev Ybh:Stmt:=top 52
abbrev Ybi:Stmt:=top 53
abbrev Ybj:Stmt:=top 54
abbrev Yaj:Stmt:=top 55
local macro_rules | `(tactic| walk_at "sc")=>`(tactic| exact ⟨rfl,rfl,rfl,by decide +kernel,rfl,by decide +kernel,by decide +kernel⟩)
theorem Ybp:FnScope ["thing"] ["thing"] (defScope Ya2):=by walk_at "sc"
theorem Ybq:FnScope ["thing"] ["thing"] (defScope Ya3):=by walk_at "sc"
theorem Ybr:FnScope ["many","ties"] ["many","ties"] (defScope Yas):=by walk_at "sc"
theorem Ybl:FnScope ["many","tie","place"] ["many","tie"] (defScope Ya4):=by walk_at "sc"
theorem Ybs:FnScope ["web","place"] ["web","place"] (defScope Yat):=by walk_at "sc"
theorem Ybt:FnScope ["web","end"] ["web","end"] (defScope Ya5):=by walk_at "sc"
theorem Yac:FnScope ["text","rows","floor","at","row","web","standing","order"] ["text"] (defScope Yau):=by walk_at "sc"
theorem Yap:FnScope ["floor","row","words","numbers","web","standing"] ["floor","row"] (defScope Yav):=by walk_at "sc"
theorem Ybu:FnScope ["word"] ["word"] (defScope Yaw):=by walk_at "sc"
theorem Ybv:FnScope ["numbers"] ["numbers"] (defScope Ya6):=by walk_at "sc"
theorem Ybw:FnScope ["web","numbers"] ["web","numbers"] (defScope Ya7):=by walk_at "sc"
theorem Ybx:FnScope ["many","ties"] ["many","ties"] (defScope Ya8):=by walk_at "sc"
theorem Ybk:FnScope ["web","standing","numbers","place","ends"] ["web","standing","numbers"] (defScope Ya9):=by walk_at "sc"
theorem Yby:FnScope ["_law_script"] ["_law_script"] (defScope Yax):=by walk_at "sc"
theorem Yaf:FnScope ["_law_pen_here","_law_many","_law_digit","_law_at","_law_cell","_law_number"] ["_law_pen_here","_law_many"] (defScope Yba):=by walk_at "sc"
theorem Yab:FnScope ["_law_pen_here","_law_places","_law_ties","_law_many","_law_way","_law_count","_law_found","_law_k","_law_a","_law_b"] ["_law_pen_here","_law_places","_law_ties"] (defScope Ybb):=by walk_at "sc"
theorem Yaz:FnScope ["_law_pen_here","_law_web_here","_law_rows","_law_k","_law_row","!0","!1","!2","!3","!4","!5","!6","!7","!8","!9","!10","!11","!12","!13","!14","!15","!16","!17","!18","!19","!20","!21","!22","!23","!24"] ["_law_pen_here","_law_web_here"] (defScope Yag):=by walk_at "sc"
theorem Ybz:FnScope ["_law_found"] ["_law_found"] (defScope Ybc):=by walk_at "sc"
theorem Yb0:FnScope ["_law_found","_law_due"] ["_law_found","_law_due"] (defScope Yah):=by walk_at "sc"
theorem Yaq:FnScope ["_law_web_here","_law_order_here","_law_lines","_law_a","_law_b","_law_place"] ["_law_web_here","_law_order_here"] (defScope Yay):=by walk_at "sc"
theorem Ybm:FnScope ["_law_word","_law_sign"] ["_law_word"] (defScope Ybd):=by walk_at "sc"
theorem Yaa:FnScope ["_law_text_here","_law_many","_law_ties","_law_seen_rows","_law_lines","_law_k","_law_words","_law_numbers","_law_good","_law_due","_law_left"] ["_law_text_here"] (defScope Yai):=by walk_at "sc"
theorem Yar:FnScope ["_law_e","_law_found"] ["_law_e"] (defScope Yan):=by walk_at "sc"
theorem Ybn:FnScope ["_law_found"] [] (defScope Ybe):=by walk_at "sc"
theorem Ybo:FnScope ["_law_text_here","_law_e"] ["_law_text_here"] (defScope Ybf):=by walk_at "sc"
theorem Yad:FnScope ["_law_text_here","_law_many","_law_ties","_law_rows","_law_line","_law_words","_law_numbers"] ["_law_text_here"] (defScope Yao):=by walk_at "sc"
theorem Ya0:FnScope ["_law_text_here","_law_bad","_law_again","_law_found"] ["_law_text_here"] (defScope Ybg):=by walk_at "sc"
theorem Yak:FnScope ["_law_pen_here","_law_things","_law_at","_law_to","_law_way","_law_thing"] ["_law_pen_here","_law_things"] (defScope Ybh):=by walk_at "sc"
theorem Ya1:FnScope ["_law_pen_here","_law_word","_law_number","_law_some"] ["_law_pen_here","_law_word"] (defScope Ybi):=by walk_at "sc"
theorem Yal:FnScope ["_law_pen_here","_law_line","_law_words","_law_at","_law_way","_law_sign"] ["_law_pen_here","_law_line"] (defScope Ybj):=by walk_at "sc"
theorem Yae:FnScope ["_law_script","_law_pen_here","_law_web_here","_law_text_here","_law_k","_law_lines","_law_at"] ["_law_script"] (defScope Yaj):=by walk_at "sc"
def Mb (mg:Str->Option Value):Prop:=∀x∈["ValueError","abs","all","bool","enumerate","int","isinstance","len","list","max","min","range","sorted","str","tuple","zip"],mg x=none
def clsBody (s:Stmt):Stmt:=match s with
 |.ClassDef _ _ _ b _ _ _ _ _ _ _=>b.getD 0 (.Pass ⟨0,0,0,0⟩)
 |_=>.Pass ⟨0,0,0,0⟩
abbrev Yam:Stmt:=clsBody<|top 14
theorem Yb1:FnScope ["self","row"] ["self","row"] (defScope Yam):=by walk_at "sc"
structure Cl (K:W.Frag) (mg:Str->Option Value) (fI c_FloorError c_NoWeb c_NoOrder c_NoNumber c_NoEnd c_NoTie c_NoPlace c_NoTable c_NoRing c_NoPaper c_Apart c_TooMany c_TooGreat c_NoText c_NoName c_NoRow:Addr):Prop where
 n_FloorError:mg "FloorError" = some (.ref c_FloorError)
 n_NoWeb:mg "NoWeb" = some (.ref c_NoWeb)
 n_NoOrder:mg "NoOrder" = some (.ref c_NoOrder)
 n_NoNumber:mg "NoNumber" = some (.ref c_NoNumber)
 n_NoEnd:mg "NoEnd" = some (.ref c_NoEnd)
 n_NoTie:mg "NoTie" = some (.ref c_NoTie)
 n_NoPlace:mg "NoPlace" = some (.ref c_NoPlace)
 n_NoTable:mg "NoTable" = some (.ref c_NoTable)
 n_NoRing:mg "NoRing" = some (.ref c_NoRing)
 n_NoPaper:mg "NoPaper" = some (.ref c_NoPaper)
 n_Apart:mg "Apart" = some (.ref c_Apart)
 n_TooMany:mg "TooMany" = some (.ref c_TooMany)
 n_TooGreat:mg "TooGreat" = some (.ref c_TooGreat)
 n_NoText:mg "NoText" = some (.ref c_NoText)
 n_NoName:mg "NoName" = some (.ref c_NoName)
 n_NoRow:mg "NoRow" = some (.ref c_NoRow)
 e_FloorError:ExcC K c_FloorError
 e_NoWeb:ExcC K c_NoWeb
 mm_NoWeb:PySem.W.mroIn K c_NoWeb (.ref c_NoWeb)=some true
 z_T:ExcS K c_NoText fI "row"
 f_T:PySem.W.typeIn K (.ref fI)=some (.type "function")
 kp_T:W.keepIn K (.ref c_NoText)=true
 i_T:ExcIR K c_NoText fI
 m_T:PySem.W.mroIn K c_NoText (.ref c_FloorError)=some true
 r_T:PySem.W.findIn K (.ref c_NoText) "row" = some none
 t_T:PySem.W.kitOne K (.ref c_NoText) (.type "ValueError")=some true
 k_T_NoWeb:PySem.W.kitOne K (.ref c_NoText) (.ref c_NoWeb)=some false
 k_T_NoOrder:PySem.W.kitOne K (.ref c_NoText) (.ref c_NoOrder)=some false
 k_T_NoNumber:PySem.W.kitOne K (.ref c_NoText) (.ref c_NoNumber)=some false
 k_T_NoEnd:PySem.W.kitOne K (.ref c_NoText) (.ref c_NoEnd)=some false
 k_T_NoTie:PySem.W.kitOne K (.ref c_NoText) (.ref c_NoTie)=some false
 k_T_NoPlace:PySem.W.kitOne K (.ref c_NoText) (.ref c_NoPlace)=some false
 k_T_NoTable:PySem.W.kitOne K (.ref c_NoText) (.ref c_NoTable)=some false
 k_T_NoRing:PySem.W.kitOne K (.ref c_NoText) (.ref c_NoRing)=some false
 k_T_NoPaper:PySem.W.kitOne K (.ref c_NoText) (.ref c_NoPaper)=some false
 k_T_Apart:PySem.W.kitOne K (.ref c_NoText) (.ref c_Apart)=some false
 k_T_TooMany:PySem.W.kitOne K (.ref c_NoText) (.ref c_TooMany)=some false
 k_T_TooGreat:PySem.W.kitOne K (.ref c_NoText) (.ref c_TooGreat)=some false
 k_T_NoText:PySem.W.kitOne K (.ref c_NoText) (.ref c_NoText)=some true
 k_T_NoName:PySem.W.kitOne K (.ref c_NoText) (.ref c_NoName)=some false
 k_T_NoRow:PySem.W.kitOne K (.ref c_NoText) (.ref c_NoRow)=some false
local macro_rules | `(tactic| walk_at "js")=>`(tactic| first
 |with_reducible refine Zar (t:=tAsg _ _) ?_
 |with_reducible refine Zar (t:=tPar _ _ _) ?_
 |with_reducible refine Zar (t:=tDrop _) ?_
 |with_reducible refine iteF ?_
 |with_reducible refine iteT ?_
 |with_reducible refine Za7 ?_
 |with_reducible refine Za0 ?_
 |with_reducible refine Zbc ?_
 |with_reducible refine Zjk ?_
 |with_reducible refine Zat ?_
 |refine Zey rfl rfl ?_
 |refine Zep rfl rfl ?_
 |with_reducible refine Zak ?_
 |with_reducible refine Zp3 ?_
 |with_reducible refine Zaj ?_
 |with_reducible refine Zjm ?_
 |with_reducible refine Zbz ?_
 |with_reducible refine Zdn ?_
 |with_reducible refine Zay ?_
 |with_reducible refine Za8 ?_
 |refine Zc8 rfl rfl ?_
 |refine Zms rfl rfl ?_
 |with_reducible refine Zb9 ?_
 |with_reducible refine Zcu ?_
 |with_reducible refine Zvh ?_
 |with_reducible refine Zh3 ?_
 |with_reducible refine Zfn ?_
 |with_reducible refine Zxc ?_
 |with_reducible refine Zps ?_
 |with_reducible refine Zcg ?_
 |with_reducible refine Zca ?_
 |with_reducible refine Zae ?_
 |with_reducible refine Zab ?_
 |with_reducible refine Zap ?_
 |with_reducible refine Zc6 ?_
 |with_reducible refine Zeq ?_
 |with_reducible refine Zb2 ?_
 |with_reducible refine Zbh ?_
 |with_reducible refine Zcy ?_
 |with_reducible refine Zch ?_
 |with_reducible refine Zn6 ?_
 |with_reducible refine Zcj ?_
 |with_reducible refine Zdv ?_
 |with_reducible refine Zqv ?_
 |with_reducible refine Zvl ?_
 |with_reducible refine Zgx ?_
 |with_reducible refine Zb6 ?_
 |refine Zac rfl ?_
 |refine Zbv rfl ?_
 |refine Zaz rfl ?_
 |refine Zbe (Or.inl rfl) ?_
 |refine Zbe (Or.inr rfl) ?_
 |refine Zdq (Or.inl rfl) ?_
 |refine Zdq (Or.inr rfl) ?_
 |refine Zr5 (Or.inl rfl) ?_
 |refine Zr5 (Or.inr rfl) ?_
 |refine Zkk ?_
 |refine⟨⟨_,_,rfl,rfl⟩,?_⟩
 |refine⟨_,_,_,_,rfl,rfl,rfl,rfl,?_⟩
 |refine⟨_,rfl,?_⟩
 |refine jr_I (by first|(show (0:Int)<_;omega)|exact⟨by omega,by omega⟩|exact Or.inl ⟨by omega,by omega⟩|exact Or.inr ⟨by omega,by omega⟩|exact⟨by decide,by decide,by decide⟩) ?_)
local macro_rules | `(tactic| walk_at "draw")=>`(tactic| first|refine Zb5 rfl rfl (by assumption) (by omega) (by omega) λ_ _ _ _ _=>?_|refine⟨_,_,rfl,rfl,by assumption,_,rfl,by omega,by omega,λ_ _ _ _ _=>?_⟩)
def Pen (ps:List D):Prop:=∃(cs:List Int) (at_ num:Int),ps=[.lst (cs.map .int),.int at_,.int num]/\0<=at_/\0<=num/\cs.length<=63
def Qa0:BSp:=λps ds Post=>Pen ps/\∃m:Int,ds=[.int m]/\1<=m/\m<=100000000000000000000000000000000000000000000000000000000000/\∀r ps',Pen ps' -> 0<=r->r<m->Post (.int r) ps'
abbrev LendQ (f:BSp) (i:Nat) (P:D->Evt->Prop):List D->Evt->Prop:=λds O1=>∃y ps,O1[i]?=some y/\y.od=some (.lst ps)/\f ps ds λd ps'=>P d (O1.set i<|y.put (.lst ps'))
theorem Zc8 {K:W.Frag}{O:Evt}{P:D->Evt->Prop}{f:BSp}{ta:TA}{E:XK}{i:Nat}{x:Slot}{od:OD}(hx:O[i]?=some x) (ho:x.od=some od) (h:JA K ta O (LendQ f i P)):JE K (tCall (spB K f) [] E<|tCons (tVar i) ta) O P:=Zms hx ho h
theorem Zb5 {O1:Evt}{i:Nat}{y:Slot}{ps:List D}{m:Int}{P:D->Evt->Prop}(hx:O1[i]?=some y) (ho:y.od=some (.lst ps)) (hp:Pen ps) (h1:1<=m) (h2:m<=100000000000000000000000000000000000000000000000000000000000) (h:∀r ps',Pen ps' -> 0<=r->r<m->P (.int r) (O1.set i<|y.put (.lst ps'))) :
  LendQ Qa0 i P [.int m] O1:=⟨y,ps,hx,ho,hp,m,rfl,h1,h2,h⟩
theorem Ziu {K:W.Frag}{O:Evt}{E:XK}{i:Nat}{y:Slot}{ps:List D}{m:Int}{P:D->Evt->Prop}(hx:O[i]?=some y) (ho:y.od=some (.lst ps)) (hp:Pen ps) (h1:1<=m) (h2:m<=100000000000000000000000000000000000000000000000000000000000) (h:∀r ps',Pen ps' -> 0<=r->r<m->P (.int r) (O.set i<|y.put (.lst ps'))) :
  JE K (tCall (spB K Qa0) [] E<|tCons (tVar i)<|tCons (tC (.int m)) tNil) O P:=Zc8 hx ho<|Zab<|Zaj<|Zae<|Zb5 hx ho hp h1 h2 h
theorem Zwl {K:W.Frag}{O:Evt}{te:TE}{Q:D->Evt->Prop}(P:D->Evt->Prop) (h:JE K te O P) (f:∀d O1,P d O1->Q d O1):JE K te O Q:=λg G H Z R k c=>h g G H Z R k λv d G' H' O' k' s' r p=>c v d G' H' O' k' s' r<|f _ _ p
section
variable {P:Program}{w:World}{K:W.Frag}{mg:Str->Option Value}{base:Heap}{f:Addr}{fd:FuncData}
theorem Zud (mb:Mb mg) (F:Fun K "_law_draw" "_law_draw" Yba f fd):FnOk P w K mg base CX0 1 f fd ["_law_pen_here","_law_many"] (spB K Qa0):=by
 refine F.ok Yaf (Zet λps ds Post h=>by obtain⟨_,m,rfl,_⟩:=h;rfl) λcdv A outer s H vs Q E hr h=>?_;have hu:=Zb1 hr;refine⟨_,(Zaf (Zbg (Zaq Zgo (Za5 (ixK K hu) (pv 0) Zag λ_ _=>rfl) Zag<|nomark _) (Zaf (Zas (i:=2) Yaf.nd rfl (Or.inl rfl)<|Zav Zcw (Za5 (ixK K hu) (pv 0) Zag λ_ _=>rfl)<|pv 1)<|Zaf (Ze3 (Zav Zhg (Za5 (ixK K hu) (pv 0) Zag λ_ _=>rfl)<|pv 1)<|Zfx (pv 0) Zag<|setU hu)<|Zah<|Zaw<|pv 2) Za4)<|Zaf (Zas (i:=3) Yaf.nd rfl (Or.inl rfl)<|Za5 (ixK K hu) (pv 0) Zag λ_ _=>rfl)<|Zaf (Ze3 (Zav (addK K) (pv 3) Zag)<|Zfx (pv 0) Zag<|setU hu)<|Zaf (Zas (i:=4) Yaf.nd rfl (Or.inl rfl) Zag)<|Zaf (Zbg (Zaq Zgo (Zai (lenK K) rfl (mb "len"<|by decide) Zba<|Zaa (Za5 (ixK K hu) (pv 0) Zag λ_ _=>rfl) Zad) Zag<|nomark _) (Zah<|Zas (i:=4) Yaf.nd rfl (Or.inl rfl)<|Za5 (ixK K hu) (Za5 (ixK K hu) (pv 0) Zag λ_ _=>rfl) (Zav Zcw (pv 3)<|Zai (lenK K) rfl (mb "len"<|by decide) Zba<|Zaa (Za5 (ixK K hu) (pv 0) Zag λ_ _=>rfl) Zad) λ_ _=>rfl) Za4)<|Zaf (Zbg (PW.pt<|pw_and (Zaq Zhz (pv 3) (Zai (lenK K) rfl (mb "len"<|by decide) Zba<|Zaa (Za5 (ixK K hu) (pv 0) Zag λ_ _=>rfl) Zad)<|nomark _)<|pw_and1<|Zaq Zxz (Zai Zg8 rfl (mb "abs"<|by decide) Zoa<|Zaa (pv 4) Zad) (Zav Zws Zag Zag)<|nomark _) (Zaf (Ze3 (Zav Zhg (Zai Zg8 rfl (mb "abs"<|by decide) Zoa<|Zaa (pv 4) Zad)<|pv 1)<|Zfx (pv 0) Zag<|setU hu)<|Zah<|Zaw<|Zav Zcw (Zai Zg8 rfl (mb "abs"<|by decide) Zoa<|Zaa (pv 4) Zad)<|pv 1) Za4)<|Zaf (Zas (i:=5) Yaf.nd rfl (Or.inl rfl)<|Zav Zcw (Zav Zd5 (Zav (addK K) (Zav (addK K) (Zav Zcw (pv 4) Zag)<|Zav Zd5 Zag<|pv 3) Zag) Zag) Zag)<|Zaf (Zas (i:=5) Yaf.nd rfl (Or.inl rfl)<|Zav Zcw (Zav (addK K) (Zav (addK K) (Zav Zd5 (pv 5)<|pv 5)<|Zav Zd5 Zag<|pv 5)<|pv 3) Zag)<|Zah<|Zaw<|Zav Zcw (Zav Zhg (Zav Zcw (Zav Zd5 (pv 5) Zag) Zag) Zag)<|pv 1),Zlo (λps ds Post hf=>?_) h⟩;obtain⟨⟨cs,at_,num,rfl,h1,h2,h3⟩,m,rfl,h4,h5,q⟩:=hf;refine⟨by simp,?_⟩;dsimp only[cxOf,startD,Wbl,Wbn,Wbb,Wad];refine Zbj (λO=>¬ 0<num /\ O = [.bor (.lst [.lst (cs.map .int),.int at_,.int num]),.val (.int m),.any,.any,.any,.any]) ?_ ?_
 ·repeat walk_at "js"
  refine ite2 (λc=>?_) λc=>?_
  ·have c:=of_decide_eq_true c
   repeat walk_at "js"
   exact q _ _ ⟨cs,at_,num / m,rfl,h1,Int.ediv_nonneg h2 (by omega),h3⟩ (Wct _<|by omega) (Wce _<|by omega)
  ·repeat walk_at "js"
   exact⟨of_decide_eq_false<|Wch.mpr c,rfl⟩
 rintro O1 ⟨hn,rfl⟩
 repeat walk_at "js"
 refine Zbj (λO=>∃c:Int,O = [.bor (.lst [.lst (cs.map .int),.int (at_+1),.int num]),.val (.int m),.any,.val (.int at_),.val (.int c),.any]) ?_ ?_
 ·repeat walk_at "js"
  refine ite2 (λc=>?_) λc=>?_
  ·have c:=of_decide_eq_true c
   rw[Waa]at c
   repeat walk_at "js"
   rw[Waa]
   repeat walk_at "js"
   obtain⟨cell,_,hc⟩:=Zpd (f:=D.int) (xs:=cs) (i:=at_ % (cs.length:Int)) (Wct _<|by omega) (Wce _<|by omega);refine Zaz hc ?_;exact⟨cell,rfl⟩
  ·repeat walk_at "js"
   exact⟨11,rfl⟩
 rintro O1 ⟨cell,rfl⟩;refine Zbj (λO=>O = [.bor (.lst [.lst (cs.map .int),.int (at_+1),.int num]),.val (.int m),.any,.val (.int at_),.val (.int cell),.any]) ?_ ?_
 ·repeat walk_at "js"
  refine ite2 (λc=>?_) λc=>?_
  ·repeat walk_at "js"
   refine ite2 (λc=>?_) λc=>?_
   ·repeat walk_at "js"
    have ha:0<=(if cell<0 then -cell else cell):=by split <;> omega
    exact q _ _ ⟨cs,at_+1,_,rfl,by omega,Int.ediv_nonneg ha (by omega),h3⟩ (Wct _<|by omega) (Wce _<|by omega)
   ·repeat walk_at "js"
    rfl
  ·repeat walk_at "js"
   rfl
 rintro O1 rfl
 repeat walk_at "js"
 exact q _ _ ⟨cs,at_+1,num,rfl,by omega,h2,h3⟩ (Wct _<|by omega) (Wce _<|by omega)
end
def fPen:NSp:=λds Post=>∃ns:List Int,ds=[.scr (ns.map .int)]/\ns.length<=63/\∀ps,Pen ps->Post ps
section
variable {P:Program}{w:World}{K:W.Frag}{mg:Str->Option Value}{base:Heap}{f:Addr}{fd:FuncData}
theorem Zwo (mb:Mb mg) (F:Fun K "_law_pen" "_law_pen" Yax f fd):FnOk P w K mg base CX0 1 f fd ["_law_script"] (spN K fPen):=by
 refine F.ok Yby (Zo3 λds Post h=>by obtain⟨ns,rfl,_⟩:=h;rfl) λcdv A outer s H vs Q E hr h=>?_;have hu:=Zb1 hr;refine⟨_,(Zah<|Zaw<|Zbq<|Zaa (Zcm ["_law_cell"] (show CompSc (defScope Yax) ["_law_script"] _ [] [] from ⟨rfl,by decide +kernel,by decide +kernel,by decide +kernel,rfl,by decide +kernel⟩) rfl (seqK K<|Zbs (slK K) (pv 0) Zck<|Zb8 Zag) (λ_ _ _ _ _=>(Za3 (i:=0) (show List.Nodup (["_law_cell"]:List Str) from by decide) rfl<|Or.inl rfl)) (λ_ _ _ _ _=>Zcx) λ_ _ _ _ _=>(pv 0))<|Zaa Zag<|Zaa Zag Zad),Zw6 (λds Post hf=>?_) h⟩;obtain⟨ns,rfl,h1,q⟩:=hf;refine⟨by simp,?_⟩;dsimp only[cxOf,startD,Wbl,Wbn,Wbb,Wad];refine Zng<|Zgd<|Zab<|Zcc (by decide)<|Zgk ?_
 repeat walk_at "js"
 have e:cutD (ns.map D.int) none (some 63)=ns.map D.int:=by
  unfold cutD;have e1:HT.sIx (ns.map D.int).length 0 none=0:=rfl;have e2:HT.sIx (ns.map D.int).length (ns.map D.int).length (some 63)=ns.length:=by
   rw[Waa];show min (Int.toNat 63) ns.length=_;omega
  rw[e1,e2,List.drop_zero,Nat.sub_zero,Wb4 (by simp)]
 rw[e];refine⟨_,Or.inl rfl,by rw[Waa];exact Wcd h1 (by decide),λ_=>true,λd=>d,λi d hd=>?_,?_⟩
 ·repeat walk_at "js"
  exact⟨rfl,Zac rfl ⟨rfl,_,rfl⟩⟩
 ·repeat walk_at "js"
  refine⟨by show 3<=sizeLine;decide,_,rfl,q _ ⟨ns,0,0,?_,by decide,by decide,h1⟩⟩;simp
end
def Qak (t:Int × Int):D:=.tup [.int t.1,.int t.2]
def Qah (n:Int) (ts:Qb1):D:=.tup [.int n,.tup (ts.map Qak)]
structure Qau (n:Int) (ts:Qb1):Prop where
 lo:1<=n
 hi:n<=25
 len:ts.length<=24
 tie:∀t∈ts,0<=t.1/\t.1<n/\0<=t.2/\t.2<n
def fWeb:BSp:=λps ds Post=>Pen ps/\∃a b:Int,ds=[.int a,.int b]/\1<=a/\a<=25/\0<=b/\b<=24/\∀n ts ps',Pen ps' -> Qau n ts->n<=a->(ts.length:Int)<=b->Post (Qah n ts) ps'
theorem Zxj {O1:Evt}{i:Nat}{y:Slot}{ps:List D}{a b:Int}{P:D->Evt->Prop}(hx:O1[i]?=some y) (ho:y.od=some (.lst ps)) (hp:Pen ps) (h1:1<=a) (h2:a<=25) (h3:0<=b) (h4:b<=24) (h:∀n ts ps',Pen ps' -> Qau n ts->n<=a->(ts.length:Int)<=b->P (Qah n ts) (O1.set i<|y.put (.lst ps'))) :
  LendQ fWeb i P [.int a,.int b] O1:=⟨y,ps,hx,ho,hp,a,b,rfl,h1,h2,h3,h4,h⟩
theorem Zod:2<=sizeLine:=by decide
theorem Zik {K:W.Frag}{O:Evt}{i:Nat}{v c:Int}{P:Bool->Evt->Prop}(hx:O[i]?=some (.val (.int v))) (h1:v=c->P true O) (h2:¬ v=c->P false O):JT K (tTest<|tOp rEq (tVar i)<|tC (.int c)) O P:=
 Zap (Zak (Zac hx (Zaj (Zdv ⟨_,rfl,by
  by_cases h:v=c
  ·rw[Qbx h];exact h1 h
  ·rw[Qby h];exact h2 h⟩))))
def wSt (py:List D) (a b n way k:Int) (fs:List D) (i u v:Int):Evt:=[.bor (.lst py),.val (.int a),.val (.int b),.val (.int n),.val (.int way),.val (.int k),.own (.lst fs),.val (.int i),.val (.int u),.val (.int v)]
def wQ (py:List D) (a b n way k:Int) (fs:List D) (i:Int):Evt->Prop:=λO=>∃u v:Int,0<=u/\u<n/\0<=v/\v<n /\ O = wSt py a b n way k fs i u v
def wR (py:List D) (a b n way k:Int) (fs:List D) (i:Int):Evt->Prop:=λO=>∃u v:Int,0<=u/\u<n/\0<=v /\ O = wSt py a b n way k fs i u v
def wL (a b n way k:Int) (i:Nat):Evt->Prop:=λO=>∃(ps:List D) (ts:Qb1) (x7 x8 x9:Slot),Pen ps/\ts.length=i/\(∀t∈ts,0<=t.1/\t.1<n/\0<=t.2/\t.2<n) /\ O = [.bor (.lst ps),.val (.int a),.val (.int b),.val (.int n),.val (.int way),.val (.int k),.own (.lst<|ts.map Qak),x7,x8,x9]
section
variable {P:Program}{w:World}{K:W.Frag}{mg:Str->Option Value}{base:Heap}{f:Addr}{fd:FuncData}
theorem Zvr (mb:Mb mg) (C32:Callee P w K mg base 1 "_law_draw" ["_law_pen_here","_law_many"] (spB K Qa0)) (F:Fun K "_law_web" "_law_web" Ybb f fd):FnOk P w K mg base CX0 2 f fd ["_law_pen_here","_law_places","_law_ties"] (spB K fWeb):=by
 refine F.ok Yab (Zet λps ds Post h=>by obtain⟨_,a,b,rfl,_⟩:=h;rfl) λcdv A outer s H vs Q E hr h=>?_;have hu:=Zb1 hr;refine⟨_,(Zaf (Zas (i:=3) Yab.nd rfl (Or.inl rfl)<|Zav (addK K) Zag<|Za9 C32 (hr.mono<|by decide)<|Zaa (pv 0)<|Zaa (pv 1) Zad)<|Zaf (Zas (i:=4) Yab.nd rfl (Or.inl rfl)<|Za9 C32 (hr.mono<|by decide)<|Zaa (pv 0)<|Zaa Zag Zad)<|Zaf (Zas (i:=5) Yab.nd rfl (Or.inl rfl)<|Za9 C32 (hr.mono<|by decide)<|Zaa (pv 0)<|Zaa (Zav (addK K) (pv 2) Zag) Zad)<|Zaf (Zbg (Zaq Zbd (pv 4) Zag<|nomark _) (Zaf (Zas (i:=3) Yab.nd rfl (Or.inl rfl)<|pv 1)<|Zah<|Zas (i:=5) Yab.nd rfl (Or.inl rfl)<|pv 2) Za4)<|Zaf (Zas (i:=6) Yab.nd rfl (Or.inl rfl)<|Zbq Zad)<|Zaf (Zdu PassesOwn.never rfl (Zbx rfl (mb "range"<|by decide)<|Zaa (pv 5) Zad) (Za3 (i:=7) Yab.nd rfl<|Or.inl rfl)<|Zaf (Zr8 (i:=8) (j:=9) rfl Yab.nd rfl rfl (by decide) rfl rfl (Zaa (Za9 C32 (hr.mono<|by decide)<|Zaa (pv 0)<|Zaa (pv 3) Zad)<|Zaa (Za9 C32 (hr.mono<|by decide)<|Zaa (pv 0)<|Zaa (pv 3) Zad) Zad) rfl)<|Zaf (Zbg (Zaq Zbd (pv 4) Zag<|nomark _) (Zah<|Zr8 (i:=8) (j:=9) rfl Yab.nd rfl rfl (by decide) rfl rfl (Zaa (Zav Zcw (pv 7)<|pv 3)<|Zaa (Zav Zcw (Zav (addK K) (pv 7) Zag)<|pv 3) Zad) rfl) Za4)<|Zaf (Zbg (Zaq Zbd (pv 4) Zag<|nomark _) (Zah<|Zas (i:=8) Yab.nd rfl (Or.inl rfl) Zag) Za4)<|Zaf (Zbg (Zaq Zbd (pv 4) Zag<|nomark _) (Zah<|Zas (i:=9) Yab.nd rfl (Or.inl rfl)<|Zav (addK K) (Zav Zcw (pv 8) Zag)<|Zav Zd5 (Zav Zhr (pv 9) Zag) Zag) Za4)<|Zaf (Zbg (PW.pt<|pw_and (Zaq Zbd (pv 4) Zag<|nomark _)<|pw_and1<|Zaq Zbd (Zav Zcw (pv 9) Zag) Zag<|nomark _) (Zah<|Zas (i:=9) Yab.nd rfl (Or.inl rfl)<|pv 8) Za4)<|Zah<|Zc4<|bmK K PySem.F.plainAttrs_list PySem.F.slot_list_append PySem.F.type_list_append Zce (pv 6)<|Zaa (Zb0<|Zaa (pv 8)<|Zaa (Zai (Ziz rfl) rfl (mb "min"<|by decide) Zn9<|Zaa (pv 9)<|Zaa (Zav Zka (pv 3) Zag) Zad) Zad) Zad)<|Zah<|Zaw<|Zb0<|Zaa (pv 3)<|Zaa (Za2 (tupK K) rfl (mb "tuple"<|by decide) Zbt<|Zaa (pv 6) Zad) Zad),Zlo (λps ds Post hf=>?_) h⟩;obtain⟨hp,a,b,rfl,h1,h2,h3,h4,q⟩:=hf;refine⟨by simp,?_⟩;dsimp only[cxOf,startD,Wbl,Wbn,Wbb,Wad];refine Zar<|Zat<|Zak<|Zaj<|Zc8 rfl rfl<|Zab<|Zac rfl<|Zae (Zb5 (m:=a) rfl rfl hp h1 (Int.le_trans h2<|by decide) λr0 ps0 hp0 hr0 hs0=>Zch ?_);refine Zar<|Zat (Ziu rfl rfl hp0 (by decide) (by decide) λway ps1 hp1 hw0 hw1=>?_);refine Zar<|Zat<|Zc8 rfl rfl<|Zab<|Zlk (Zd6 (Zdd rfl) Zdy Zjc)<|Zae (Zb5 (m:=b+1) rfl rfl hp1 (Int.add_le_add h3<|Wcq 1) (Int.le_trans (Int.add_le_add h4<|Wcq 1)<|by decide) λcnt ps2 hp2 hc0 hc1=>?_);refine Zbj (λO=>∃n k:Int,1<=n/\n<=a/\0<=k/\k<=b /\ O = [.bor (.lst ps2),.val (.int a),.val (.int b),.val (.int n),.val (.int way),.val (.int k),.any,.any,.any,.any]) ?_ ?_
 ·refine Zbc (Zik rfl (λc=>iteT ?_) λc=>iteF<|Za7 ⟨1+r0,cnt,Int.le_add_of_nonneg_right hr0,by omega,hc0,Int.le_of_lt_add_one hc1,rfl⟩)
  exact Zar<|Zat<|Zac rfl<|Zat<|Zac rfl ⟨a,b,h1,Wcq _,h3,Wcq _,rfl⟩
 rintro O1 ⟨n,k,hn0,hn1,hk0,hk1,rfl⟩;have hn2:0<n:=Int.lt_of_lt_of_le (by decide) hn0;have hn3:n≠0:=Int.ne_of_gt hn2;refine Zar<|Zdk<|Zgd<|Zae ⟨by decide,?_⟩;refine Zbj (wL a b n way k k.toNat) ?_ ?_
 ·refine Zel (Zbw<|Zab<|Zac rfl<|Zae ⟨_,rfl,by omega,by omega,?_⟩)
  refine⟨wL a b n way k,⟨ps2,[],.any,.any,.any,hp2,rfl,λ_ h=>(nomatch h),rfl⟩,?_,λO2 h=>by rw[Zbp]at h;exact h⟩;rintro i d O2 hd ⟨ps,ts,x7,x8,x9,hp',hl,ht,rfl⟩;obtain⟨hi,rfl⟩:=Zcb hd;generalize (0+(i:Int))=I;refine Zb6<|Zar<|Zjk<|Zab<|Zc8 rfl rfl<|Zab<|Zac rfl<|Zae (Zb5 (m:=n) rfl rfl hp' hn0 (by omega) λx px hpx hx0 hx1=>?_);refine Zab<|Zc8 rfl rfl<|Zab<|Zac rfl<|Zae (Zb5 (m:=n) rfl rfl hpx hn0 (by omega) λy py hpy hy0 hy1=>Zae ⟨_,_,rfl,?_⟩);refine Zbj (wQ py a b n way k (ts.map Qak) I) ?_ ?_
  ·refine Zbc (Zik rfl (λc=>iteT ?_) λc=>iteF<|Za7 ⟨x,y,hx0,hx1,hy0,hy1,rfl⟩)
   exact Zjk<|Zxd (Zke (Zd6 (Zdd rfl) (Zdd rfl)<|pr_I hn2)<|Zke (Zd6 (Zd6 (Zdd rfl) Zdy Zjc) (Zdd rfl)<|pr_I hn2) Zsw) ⟨_,_,rfl,_,_,Wct _ hn3,Wce _ hn2,Wct _ hn3,Wce _ hn2,rfl⟩
  rintro O3 ⟨u,v,hu0,hu1,hv0,hv1,rfl⟩;refine Zbj (wQ py a b n way k (ts.map Qak) I) ?_ ?_
  ·exact Zbc<|Zik rfl (λc=>iteT<|Zat<|Zaj ⟨0,v,Wcq _,hn2,hv0,hv1,rfl⟩) λc=>iteF<|Za7 ⟨u,v,hu0,hu1,hv0,hv1,rfl⟩
  rintro O3 ⟨u,v,hu0,hu1,hv0,hv1,rfl⟩;refine Zbj (wR py a b n way k (ts.map Qak) I) ?_ ?_
  ·refine Zbc (Zik rfl (λc=>iteT ?_) λc=>iteF<|Za7 ⟨u,v,hu0,hu1,hv0,rfl⟩)
   exact Zat<|Zlk (Zd6 (Zd6 (Zdd rfl) Zdy<|pr_I (show (0:Int)<2 by decide)) (Zd6 (Zd6 (Zdd rfl) Zdy<|pr_I ⟨by decide,by decide⟩) Zdy<|pr_I<|Or.inr ⟨by decide,by decide⟩) Zjc) ⟨u,_,hu0,hu1,by omega,rfl⟩
  rintro O3 ⟨u,v,hu0,hu1,hv0,rfl⟩;refine Zbj (wR py a b n way k (ts.map Qak) I) ?_ ?_
  ·refine Zbc (Zc6<|Zik rfl (λc=>iteT ?_) λc=>iteF<|iteF<|Za7 ⟨u,v,hu0,hu1,hv0,rfl⟩)
   refine Zap<|Zak<|Zlk (Zd6 (Zdd rfl) Zdy<|pr_I (show (0:Int)<2 by decide))<|Zaj<|Zdv ⟨_,rfl,ite2 (λc=>?_) λc=>Za7 ⟨u,v,hu0,hu1,hv0,rfl⟩⟩;exact Zat<|Zac rfl ⟨u,u,hu0,hu1,hu0,rfl⟩
  rintro O3 ⟨u,v,hu0,hu1,hv0,rfl⟩;refine Zgw rfl rfl<|Zb9<|Zab<|Zac rfl<|Zab<|Zay<|Zab<|Zac rfl<|Zab<|Zlk (Zd6 (Zdd rfl) Zdy Zxx)<|Zae<|Zgx<|Zae ?_;refine⟨Zod,_,_,rfl,rfl,?_,py,ts++[(u,if n-1<v then n-1 else v)],.val (.int I),.val (.int u),.val (.int v),hpy,by rw[Wal,hl];rfl,λt h=>?_,?_⟩
  ·rw[Waa];exact small1000 (by omega)
  ·rcases Wa1.mp h with h|h
   ·exact ht t h
   ·rw[Was.mp h]
    refine⟨hu0,hu1,?_,?_⟩
    ·show 0<=(if n-1<v then n-1 else v);split <;> omega
    ·show (if n-1<v then n-1 else v)<n;split <;> omega
  ·rw[Wau];rfl
 rintro O1 ⟨ps3,ts,x7,x8,x9,hp3,hl,ht,rfl⟩;refine Za0<|Zb9<|Zab<|Zac rfl<|Zab<|Zay<|Zab<|Zf3 rfl<|Zae<|Zdq (Or.inl rfl)<|Zae ⟨Zod,?_⟩;exact⟨_,rfl,q n ts _ hp3 ⟨hn0,by omega,by omega,ht⟩ hn1<|by omega⟩
end
def Qac (ts:Qb1) (e:Nat):Int:=match ts[e / 2]? with
 |some t=>if e % 2=0 then t.1 else t.2
 |none=>-1
def Qae (r:List Int):D:=.tup<|r.map .int
def Qan (o:Qb2):D:=.tup<|o.map Qae
def Qaa (ts:Qb1) (m:Nat) (p:Int):List Int:=((Wb2 m).filter λe=>decide (Qac ts e=p)).map λe:Nat=>(e:Int)
structure Qam (ts:Qb1) (m:Nat) (p:Int) (r:List Int):Prop where
 perm:r.Perm (Qaa ts m p)
 first:r.head?=(Qaa ts m p).head?
structure Qbj (n:Int) (ts:Qb1) (o:Qb2):Prop where
 len:(o.length:Int)=n
 row:∀(p:Nat) r,o[p]?=some r->Qam ts (2*ts.length) (p:Int) r
theorem Zd3 (ts:Qb1) (k:Nat) (p:Int):Qaa ts (k+1) p=Qaa ts k p++(if Qac ts k=p then [(k:Int)] else []):=by
 unfold Qaa;rw[List.range_succ,Wbv,Wau];congr 1;by_cases h:Qac ts k=p
 ·simp[Wbz,h]
 ·simp[Wbz,h]
theorem Zhq (ts:Qb1) (m:Nat) (p:Int):(Qaa ts m p).length<=m:=by
 unfold Qaa;rw[Waa];exact Way (Wcz _ _) (by rw[Wcw];exact Waj _)
theorem Qam.len {ts:Qb1}{m:Nat}{p:Int}{r:List Int}(h:Qam ts m p r):r.length<=m:=by rw[h.perm.length_eq];exact Zhq ts m p
theorem Qam.stay {ts:Qb1}{k:Nat}{p:Int}{r:List Int}(h:Qam ts k p r) (hp:Qac ts k≠p):Qam ts (k+1) p r:=by
 have e:=Zd3 ts k p;rw[Qbv hp,Wbg]at e;exact⟨by rw[e];exact h.perm,by rw[e];exact h.first⟩
theorem Qam.put {ts:Qb1}{k j:Nat}{p:Int}{r:List Int}(h:Qam ts k p r) (hp:Qac ts k=p) (hj:j<=r.length) (h1:r≠[]->1<=j):Qam ts (k+1) p (r.take j++(k:Int)::r.drop j):=by
 have e:=Zd3 ts k p;rw[Qbw hp]at e;refine⟨?_,?_⟩
 ·rw[e]
  refine List.perm_middle.trans ?_;rw[List.take_append_drop];exact(List.Perm.cons _ h.perm).trans (List.perm_append_singleton _ _).symm
 ·rw[e]
  cases r with
  |nil=>
   have z:Qaa ts k p=[]:=List.Perm.eq_nil h.perm.symm;rw[z];have:j=0:=by simpa using hj
   subst this;rfl
  |cons x r'=>
   have h2:=h1 (by simp);obtain⟨j',rfl⟩:∃j',j=j'+1:=⟨j-1,by omega⟩;have h3:=h.first;show some x=_;cases q:Qaa ts k p with
   |nil=>rw[q]at h3;cases h3
   |cons y l=>rw[q]at h3;exact h3
theorem Zrx {ts:Qb1}{k:Nat}(h:k<2*ts.length):∃t,ts[k / 2]?=some t/\atI (ts.map Qak) ((0+(k:Int)) / 2)=some (Qak t)/\atI [D.int t.1,D.int t.2] ((0+(k:Int)) % 2)=some (.int<|Qac ts k):=by
 have hk:k / 2<ts.length:=by omega
 refine⟨ts[k / 2],Wab hk,?_,?_⟩
 ·have e:(0+(k:Int)) / 2=((k / 2:Nat):Int):=by omega
  rw[e];exact Zau (by rw[Waf,Wab hk];rfl)
 ·have e2:Qac ts k=if k % 2=0 then ts[k / 2].1 else ts[k / 2].2:=by
   unfold Qac;rw[Wab hk]
  rw[e2];have e:(0+(k:Int)) % 2=((k % 2:Nat):Int):=by omega
  rw[e];by_cases h0:k % 2=0
  ·rw[Qbw h0,h0];exact Zau rfl
  ·have h1:k % 2=1:=by omega
   rw[Qbv h0,h1];exact Zau rfl
theorem Zqo {n:Int}{ts:Qb1}(hW:Qau n ts) {k:Nat}(h:k<2*ts.length):0<=Qac ts k/\Qac ts k<n:=by
 have hk:k / 2<ts.length:=by omega
 have:=hW.tie _<|Wbd hk;unfold Qac;rw[Wab hk];dsimp only;split <;> omega
def Qbh:BSp:=λps ds Post=>Pen ps/\∃n ts,ds=[Qah n ts]/\Qau n ts/\∀o ps',Pen ps' -> Qbj n ts o->Post (Qan o) ps'
theorem Zrc {O1:Evt}{i:Nat}{y:L2.Slot}{ps:List D}{n:Int}{ts:Qb1}{P:D->Evt->Prop}(hx:O1[i]?=some y) (ho:y.od=some (.lst ps)) (hp:Pen ps) (hW:Qau n ts) (h:∀o ps',Pen ps' -> Qbj n ts o->P (Qan o) (O1.set i<|y.put (.lst ps'))) :
  LendQ Qbh i P [Qah n ts] O1:=⟨y,ps,hx,ho,hp,n,ts,rfl,hW,h⟩
def oSt (ps:List D) (n:Int) (ts:Qb1) (cs:List (Addr × List Int)) (x3 x4:L2.Slot):Evt:=.bor (.lst ps)::.val (Qah n ts)::.val (.lst (cs.map λc=>D.adr c.1))::x3::x4::(cs.map (λc=>L2.Slot.ownA c.1 (.lst<|c.2.map D.int))++Wad (25-n.toNat) .any)
def oP (n:Int) (ts:Qb1) (k:Nat):Evt->Prop:=λO=>∃(ps:List D) (cs:List (Addr × List Int)) (x3 x4:L2.Slot),Pen ps/\cs.length=n.toNat/\(∀(p:Nat) c,cs[p]?=some c->Qam ts k (p:Int) c.2) /\ O = oSt ps n ts cs x3 x4
theorem Zl7 {n:Int}{ts:Qb1}{ps:List D}{as:List Addr}(hn2:n<=25) (hal:as.length=(Wbn (λ_=>OD.lst []) ((rngD 0 n.toNat).filter λ_=>true)).length):∃cs:List (Addr × List Int),cs.length=n.toNat/\(∀(p:Nat) c,cs[p]?=some c->c.2=[]) /\
  L2.putN 5 (as.zip<|Wbn (λ_=>OD.lst []) ((rngD 0 n.toNat).filter λ_=>true)) ([.bor (.lst ps),.val (Qah n ts),.val (.lst<|as.map D.adr),.any,.any]++Wad 25 .any)=oSt ps n ts cs .any .any:=by
 have eR:(rngD 0 n.toNat).filter (λ_=>true)=rngD 0 n.toNat:=by simp
 rw[eR,Waa,Zbp]at hal;have eO:(rngD 0 n.toNat).map (λ_=>OD.lst [])=Wad n.toNat (OD.lst []):=by
  rw[List.map_const',Zbp]
 rw[eR,eO];generalize hcs:as.map (λa=>((a,[]):Addr × List Int))=cs;have hcl:cs.length=n.toNat:=by rw[<- hcs,Waa,hal]
 have e1:as.map D.adr=cs.map λc=>D.adr c.1:=by rw[<- hcs,Wa8];rfl
 have e2:as.zip (Wad n.toNat<|OD.lst [])=cs.map λc=>(c.1,OD.lst (c.2.map D.int)):=by
  rw[<- hcs,Wa8,<- hal];clear e1 hcl hcs hal
  induction as with
  |nil=>rfl
  |cons a r ih=>rw[Wag,Wcn,Wc3,ih];rfl
 have e3:=Znp (cs.map λc=>(c.1,OD.lst (c.2.map D.int))) [.bor (.lst ps),.val (Qah n ts),.val (.lst (cs.map λc=>D.adr c.1)),.any,.any] [] 25 (by rw[Waa];omega);rw[Wbg,Wbg,Wa8,Waa,hcl]at e3;refine⟨cs,hcl,λp c hc=>?_,by rw[e1,e2];exact e3⟩;rw[<- hcs,Waf]at hc;cases q:as[p]? with
 |none=>rw[q]at hc;cases hc
 |some a=>rw[q]at hc;cases hc;rfl
theorem Zvf {ps:List D}{n:Int}{ts:Qb1}{cs:List (Addr × List Int)}{x3 x4:L2.Slot}{p:Nat}{c:Addr × List Int}(h:cs[p]?=some c):(oSt ps n ts cs x3 x4)[p+5]?=some (.ownA c.1 (.lst<|c.2.map D.int)):=by
 show (cs.map (λc=>L2.Slot.ownA c.1 (.lst<|c.2.map D.int))++Wad (25-n.toNat) .any)[p]?=_;rw[Waz (by rw[Waa];exact(Wah.mp h).1),Waf,h];rfl
theorem Zst {ps ps':List D}{n:Int}{ts:Qb1}{cs:List (Addr × List Int)}{x3 x4:L2.Slot}{p:Nat}{c:Addr × List Int}{r:List Int}{v:L2.Slot}(h:cs[p]?=some c) (hv:v=.ownA c.1 (.lst<|r.map D.int)):(oSt ps n ts cs x3 x4).set (p+5) v=oSt ps n ts (cs.set p (c.1,r)) x3 x4:=by
 have hp:=(Wah.mp h).1;have ea:(cs.set p (c.1,r)).map (λc=>D.adr c.1)=cs.map λc=>D.adr c.1:=by
  rw[Wde];apply Wby
  intro i;by_cases hii:i=p
  ·subst hii
   rw[Wak (by rw[Waa];exact hp),Waf,h];rfl
  ·rw[Wan (Ne.symm hii)]
 unfold oSt;rw[ea,Wde,hv,<- List.set_append_left _ _ (by rw[Waa];exact hp)];rfl
section
variable {P:Program}{w:World}{K:W.Frag}{mg:Str->Option Value}{base:Heap}{f:Addr}{fd:FuncData}
theorem Zpy (mb:Mb mg) (C32:Callee P w K mg base 1 "_law_draw" ["_law_pen_here","_law_many"] (spB K Qa0)) (F:Fun K "_law_order" "_law_order" Yag f fd):FnOk P w K mg base CX0 2 f fd ["_law_pen_here","_law_web_here"] (spB K Qbh):=by
 refine F.ok Yaz (Zet λps ds Post h=>by obtain⟨_,n,ts,rfl,_⟩:=h;rfl) λcdv A outer s H vs Q E hr h=>?_;have hu:=Zb1 hr;refine⟨_,(Zaf (Zqd 5 (show ∀x∈(["_law_pen_here","_law_web_here","_law_rows","_law_k","_law_row","!0","!1","!2","!3","!4","!5","!6","!7","!8","!9","!10","!11","!12","!13","!14","!15","!16","!17","!18","!19","!20","!21","!22","!23","!24"]:List Str).drop 5,(defScope Yag).names.lookup x=none from by decide +kernel)<|Zef (i:=2) ["_law_place"] (show CompSc (defScope Yag) ["_law_pen_here","_law_web_here","_law_rows","_law_k","_law_row","!0","!1","!2","!3","!4","!5","!6","!7","!8","!9","!10","!11","!12","!13","!14","!15","!16","!17","!18","!19","!20","!21","!22","!23","!24"] _ [] [] from ⟨rfl,by decide +kernel,by decide +kernel,by decide +kernel,rfl,by decide +kernel⟩) rfl Yaz.nd rfl (Or.inl rfl) (Zbx rfl (mb "range"<|by decide)<|Zaa (Za5 (ixK K hu) (pv 1) Zag λ_ _=>rfl) Zad) (λ_ _ _ _ _=>(Za3 (i:=0) (show List.Nodup (["_law_place"]:List Str) from by decide) rfl<|Or.inl rfl)) (λ_ _ _ _ _=>Zcx) λ_ _ _ _ _=>(Zbq Zad))<|Zaf (Zdu PassesOwn.never rfl (Zbx rfl (mb "range"<|by decide)<|Zaa (Zav Zd5 Zag<|Zai (lenK K) rfl (mb "len"<|by decide) Zba<|Zaa (Za5 (ixK K hu) (pv 1) Zag λ_ _=>rfl) Zad) Zad) (Za3 (i:=3) Yaz.nd rfl<|Or.inl rfl)<|Zaf (Zas (i:=4) Yaz.nd rfl (Or.inl rfl)<|Za5 (ixK K hu) (pv 2) (Za5 (ixK K hu) (Za5 (ixK K hu) (Za5 (ixK K hu) (pv 1) Zag λ_ _=>rfl) (Zav Zhr (pv 3) Zag) λ_ _=>rfl) (Zav Zcw (pv 3) Zag) λ_ _=>rfl) λ_ _=>rfl)<|Zah<|Zc4<|bmK K PySem.F.plainAttrs_list PySem.F.slot_list_insert PySem.F.type_list_insert Zfw (pv 4)<|Zaa (Zai (Ziz rfl) rfl (mb "min"<|by decide) Zn9<|Zaa (Zai (lenK K) rfl (mb "len"<|by decide) Zba<|Zaa (pv 4) Zad)<|Zaa (Zav (addK K) Zag<|Za9 C32 (hr.mono<|by decide)<|Zaa (pv 0)<|Zaa (Zai (Zgg rfl) rfl (mb "max"<|by decide) Zkl<|Zaa Zag<|Zaa (Zai (lenK K) rfl (mb "len"<|by decide) Zba<|Zaa (pv 4) Zad) Zad) Zad) Zad)<|Zaa (pv 3) Zad)<|Zah<|Zaw<|Za2 (tupK K) rfl (mb "tuple"<|by decide) Zbt<|Zaa (Zcm ["_law_row"] (show CompSc (defScope Yag) ["_law_pen_here","_law_web_here","_law_rows","_law_k","_law_row","!0","!1","!2","!3","!4","!5","!6","!7","!8","!9","!10","!11","!12","!13","!14","!15","!16","!17","!18","!19","!20","!21","!22","!23","!24"] _ [] [] from ⟨rfl,by decide +kernel,by decide +kernel,by decide +kernel,rfl,by decide +kernel⟩) rfl (seqK K<|pv 2) (λ_ _ _ _ _=>(Za3 (i:=0) (show List.Nodup (["_law_row"]:List Str) from by decide) rfl<|Or.inl rfl)) (λ_ _ _ _ _=>Zcx) λ_ _ _ _ _=>(Za2 (tupK K) rfl (mb "tuple"<|by decide) Zbt<|Zaa (pv 0) Zad)) Zad),Zlo (λps ds Post hf=>?_) h⟩;obtain⟨hp,n,ts,rfl,hW,q⟩:=hf;refine⟨by simp,?_⟩;dsimp only[cxOf,startD,Wbl,Wbn,Wbb];have hn:=hW.lo;have hn2:=hW.hi;have hts:=hW.len
 -- the rows
 refine Zar<|Zsr<|Zrp (by decide)<|Zbw ?_;refine Zab<|Zak<|Zac rfl<|Zaj<|Zbv (d:=.int n) rfl<|Zae ⟨n,rfl,by omega,by omega,?_⟩;refine⟨by rw[Zbp];exact small1000 (by omega),λ_=>true,λ_=>.lst [],λi d hd=>?_,by decide,?_,λas hal hnd=>?_⟩
 ·exact Zcy ⟨rfl,Zgd<|Zae ⟨by decide,rfl,_,rfl⟩⟩
 ·rw[Waa]
  have e:((rngD 0 n.toNat).filter λ_=>true).length<=25:=Way (Wcz _ _) (by rw[Zbp];omega);show 5+_<=30;omega
 obtain⟨cs,hcl,hce,e⟩:=Zl7 (ps:=ps) (ts:=ts) hn2 hal;refine Eq.mpr (congrArg (λO=>JS K _ O _) e) ?_
 -- the loop
 refine Zbj (oP n ts (2*ts.length)) ?_ ?_
 ·refine Zel (Zbw<|Zab<|Zlk (Zd6 Zdy (Zua<|Zse (ds:=[.int n,.tup (ts.map Qak)]) rfl rfl)<|pr_I<|Or.inl ⟨by decide,by decide⟩)<|Zae ⟨_,rfl,?_,?_,?_⟩)
  ·rw[Waa];omega
  ·rw[Waa];omega
  have eL:((2:Int)*((ts.map Qak).length:Int)).toNat=2*ts.length:=by rw[Waa];omega
  refine⟨oP n ts,⟨ps,cs,.any,.any,hp,hcl,λp c hc=>by rw[hce p c hc];exact⟨List.Perm.refl _,rfl⟩,rfl⟩,?_,λO h=>by rw[Zbp,eL]at h;exact h⟩
  ·rintro k d O2 hd ⟨ps,cs,x3,x4,hp,hcl,hrow,rfl⟩
   rw[eL]at hd;obtain⟨hk,rfl⟩:=Zcb hd;obtain⟨t,ht1,ht2,ht3⟩:=Zrx hk;obtain⟨pl0,pl1⟩:=Zqo hW hk;obtain⟨c,hc1,hc2⟩:=Zpd (f:=λc:Addr × List Int=>D.adr c.1) (xs:=cs) (i:=Qac ts k) pl0 (by omega);have hR:=hrow _ c hc1;have hRl:=hR.len;have ep:((Qac ts k).toNat:Int)=Qac ts k:=Int.toNat_of_nonneg pl0;have hsl:∀(ps:List D) (x3 x4:L2.Slot),(oSt ps n ts cs x3 x4)[(Qac ts k).toNat+5]?=some (.ownA c.1 (.lst<|c.2.map D.int)):=λps x3 x4=>Zvf hc1;have hlen:(c.2.map D.int).length=c.2.length:=Waa _;refine Zb6<|Zar<|Zat<|Zlk (Zv8 (d:=.adr c.1) (Zdd rfl) (Znr (Znr (Zse (d:=.tup<|ts.map Qak) rfl rfl) (Zd6 (Zdd rfl) Zdy<|pr_I ⟨by decide,by decide⟩) ht2) (Zd6 (Zdd rfl) Zdy<|pr_I (by show (0:Int)<2;decide)) ht3) hc2) ?_;refine Zsu (a:=c.1) rfl (hsl ps _ _) ?_;refine Zay<|Zab<|Zn4 rfl (hsl ps _ _)<|Zab<|Zak<|Zaj<|Zc8 rfl rfl<|Zab<|Zay<|Zab<|Zaj<|Zab<|Zn4 rfl (hsl ps _ _)<|Zae<|Zgx<|Zae ?_;refine Zb5 rfl rfl hp (by split <;> omega) (by split <;> omega) λr ps' hp' hr0 hr1=>?_
   refine Zch<|Zae<|Zgx<|Zac rfl ⟨_,_,_,rfl,hsl ps' _ _,by rw[hlen];exact small1000 (by omega),by split <;> omega,by split <;> omega,?_⟩
   generalize hi:insI (c.2.map D.int).length (if 1+r<((c.2.map D.int).length:Int) then 1+r else ((c.2.map D.int).length:Int))=j;have hj:j<=c.2.length/\(c.2≠[]->1<=j):=by
    rw[<- hi,hlen];unfold insI;refine⟨?_,λh=>?_⟩
    ·split <;> split <;> omega
    ·have:=Wco.mpr h
     split <;> split <;> omega
   refine⟨ps',cs.set (Qac ts k).toNat (c.1,c.2.take j++(k:Int)::c.2.drop j),.val (.int (0+(k:Int))),.val (.adr c.1),hp',by rw[Wbs];exact hcl,λp c' hc'=>?_,Zst (ps:=ps') (ps':=ps') hc1 ?_⟩
   ·by_cases hpp:p=(Qac ts k).toNat
    ·subst hpp
     rw[Wak (by omega)]at hc';cases hc';exact hR.put (by omega) hj.1 hj.2
    ·rw[Wan (Ne.symm hpp)]at hc'
     exact(hrow p c' hc').stay (by omega)
   ·rw[Wau,Wdp,Wa3,Wdr,Wbx]
 -- the end
 rintro O1 ⟨ps3,cs3,x3,x4,hp3,hcl3,hrow3,rfl⟩;refine JS.conv (O':=.bor (.lst ps3)::.val (Qah n ts)::.val (.lst (cs3.map λc=>D.lst<|c.2.map D.int))::x3::x4::(Wad cs3.length .any++Wad (25-n.toNat) .any)) (λg G H Z k=>?_) ?_
 ·have:=Ok.thaw (cs:=cs3.map λc=>(c.1,c.2.map D.int)) (R:=[.bor (.lst ps3),.val (Qah n ts),.val (.lst (cs3.map λc=>D.adr c.1)),x3,x4]) (T:=Wad (25-n.toNat) .any) (i:=2) (g:=g) (G:=G) (H:=H) (Z:=Z) (K:=K) (by rw[Wa8];exact k) (by rw[Wa8];rfl)
  rw[Wa8,Waa]at this;exact this
 refine Za0<|Zay<|Zab<|Zcc (by decide)<|Zgk<|Zac rfl ⟨_,Or.inl rfl,?_,λ_=>true,λd=>match d with|.lst ds=>.tup ds|d=>d,λi d hd=>?_,?_⟩
 ·rw[Waa];exact small1000 (by omega)
 ·rw[Waf]at hd
  cases q:cs3[i]? with
  |none=>rw[q]at hd;cases hd
  |some c=>
   rw[q]at hd;have hd:D.lst (c.2.map D.int)=d:=by simpa using hd
   subst hd;exact Zcy ⟨rfl,Zay<|Zab<|Zac rfl<|Zae<|Zdq (Or.inl rfl) ⟨rfl,_,rfl⟩⟩
 ·refine Zae (Zdq (Or.inl rfl) ⟨ps3,rfl,?_⟩)
  have e:((cs3.map λc=>D.lst<|c.2.map D.int).filter λ_=>true).map (λd=>match d with|.lst ds=>D.tup ds|d=>d)=(cs3.map (·.2)).map Qae:=by
   rw[Wbt.mpr (by simp),Wa8,Wa8];rfl
  rw[e];exact q _ _ hp3 ⟨by rw[Waa];omega,λp r hr=>by
   rw[Waf]at hr;cases z:cs3[p]? with
   |none=>rw[z]at hr;cases hr
   |some c=>rw[z]at hr;cases hr;exact hrow3 p c z⟩
end
theorem Zhk {ts:Qb1}{m:Nat}{p x:Int}:x∈Qaa ts m p ↔ ∃e:Nat,e<m/\Qac ts e=p/\(e:Int)=x:=by
 unfold Qaa;rw[Wa2];constructor
 ·rintro⟨e,he,rfl⟩
  rw[Wb3,Wbp]at he;exact⟨e,he.1,of_decide_eq_true he.2,rfl⟩
 ·rintro⟨e,h1,h2,rfl⟩
  exact⟨e,by rw[Wb3,Wbp];exact⟨h1,Qbx h2⟩,rfl⟩
theorem Qam.mem {ts:Qb1}{m:Nat}{p x:Int}{r:List Int}(h:Qam ts m p r):x∈r ↔ ∃e:Nat,e<m/\Qac ts e=p/\(e:Int)=x:=h.perm.mem_iff.trans Zhk
theorem Zc1 (ts:Qb1) (m:Nat) (p:Int):(Qaa ts m p).Pairwise (· < ·):=by
 unfold Qaa;refine List.Pairwise.map _ (λa b h=>?_)<|List.Pairwise.filter _ List.pairwise_lt_range;omega
theorem Zkn:∀(l:List Int),l≠[]->∃m,m∈l/\∀a∈l,m<=a
 |[],h=>absurd rfl h
 |[x],_=>⟨x,Wat,λa ha=>by rw[Was.mp ha];exact Wcq _⟩
 |x::y::l,_=>by
  obtain⟨m,h1,h2⟩:=Zkn (y::l) (by simp);by_cases h:x<=m
  ·refine⟨x,Wat,λa ha=>?_⟩
   rcases Wai.mp ha with z|z
   ·omega
   ·have:=h2 a z;omega
  ·refine⟨m,Wap _ h1,λa ha=>?_⟩
   rcases Wai.mp ha with z|z
   ·omega
   ·exact h2 a z
theorem Zdm (ds:List D) {j:Nat}(h:j<=ds.length):cutD ds (some (j:Int)) none=ds.drop j:=by
 unfold cutD;rw[HT.sIx_nat,HT.sIx_none,Wc2 h,Wb4 (by rw[Wbq];exact Waj _)]
theorem Zr3 (ds:List D) {j:Nat}(h:j<=ds.length):cutD ds none (some (j:Int))=ds.take j:=by
 unfold cutD;rw[HT.sIx_nat,HT.sIx_none,Wc2 h,List.drop_zero,Nat.sub_zero]
section
variable {P:Program}{w:World}{K:W.Frag}{mg:Str->Option Value}{base:Heap}{f:Addr}{fd:FuncData}
def Qa4:DSp:=λds Post=>∃e:Int,ds=[.int e]/\Post (.bl true)
theorem Zdw:2<=sizeLine:=by decide
def isIntX:D->Bool
 |.int _=>true
 |_=>false
def fIsWX:DSp:=λds Post=>∃d T,ds=[d]/\tyD d=some T/\Post (.bl<|isIntX d)
theorem Zva (mb:Mb mg) (F:Fun K "is_whole" "is_whole" Ya2 f fd):FnOk P w K mg base CX0 1 f fd ["thing"] (spD K fIsWX):=by
 refine F.ok Ybp (Zbi λds Post h=>by obtain⟨_,_,rfl,_⟩:=h;rfl) λcdv A outer s H vs Q E hr h=>?_;have hu:=Zb1 hr;refine⟨_,(Zah<|Zaw<|Zdp (Zai (isiUK K) rfl (mb "isinstance"<|by decide) Zao<|Zaa (pv 0)<|Zaa (Zc3 rfl (mb "int"<|by decide) Zgq (show RelV (.ty "int") _ from rfl)) Zad)<|Zgs<|Zr7<|Zai (isiUK K) rfl (mb "isinstance"<|by decide) Zao<|Zaa (pv 0)<|Zaa (Zc3 rfl (mb "bool"<|by decide) Zmb (show RelV (.ty "bool") _ from rfl)) Zad),Zdc (λds Post hf=>?_) h⟩;obtain⟨d,T,rfl,hT,q⟩:=hf;refine⟨by simp,?_⟩;dsimp only[startD,Wbl,Wbn,Wbb];cases d with
 |int i=>
  refine Za0<|Zcu<|Zay<|Zab<|Zac rfl<|Zab<|Zdn<|Zae<|Zby (T:="int") (b:=true) rfl (λ_=>by rfl) ⟨_,rfl,?_⟩;rw[Qbw rfl];exact Zh3<|Zay<|Zab<|Zac rfl<|Zab<|Zdn<|Zae<|Zby (T:="int") (b:=false) rfl (λ_=>by rfl) ⟨_,rfl,q⟩
 |bl b=>
  refine Za0<|Zcu<|Zay<|Zab<|Zac rfl<|Zab<|Zdn<|Zae<|Zby (T:="bool") (b:=true) rfl (λ_=>by rfl) ⟨_,rfl,?_⟩;rw[Qbw rfl];exact Zh3<|Zay<|Zab<|Zac rfl<|Zab<|Zdn<|Zae<|Zby (T:="bool") (b:=true) rfl (λ_=>by rfl) ⟨_,rfl,q⟩
 |non=>exact Za0 (Zcu (Zay (Zab (Zac rfl (Zab (Zdn (Zae (Zby (T:="NoneType") (b:=false) rfl (λ_=>by rfl) ⟨_,rfl,iteF q⟩))))))))
 |str x=>exact Za0 (Zcu (Zay (Zab (Zac rfl (Zab (Zdn (Zae (Zby (T:="str") (b:=false) rfl (λ_=>by rfl) ⟨_,rfl,iteF q⟩))))))))
 |tup l=>exact Za0 (Zcu (Zay (Zab (Zac rfl (Zab (Zdn (Zae (Zby (T:="tuple") (b:=false) rfl (λ_=>by rfl) ⟨_,rfl,iteF q⟩))))))))
 |lst l=>exact Za0 (Zcu (Zay (Zab (Zac rfl (Zab (Zdn (Zae (Zby (T:="list") (b:=false) rfl (λ_=>by rfl) ⟨_,rfl,iteF q⟩))))))))
 |dct k l=>exact Za0 (Zcu (Zay (Zab (Zac rfl (Zab (Zdn (Zae (Zby (T:="dict") (b:=false) rfl (λ_=>by rfl) ⟨_,rfl,iteF q⟩))))))))
 |_=>cases hT
def rowD:D->Option (List D)
 |.lst ds=>some ds
 |.tup ds=>some ds
 |_=>none
def Qa9:DSp:=λds Post=>∃d T,ds=[d]/\tyD d=some T/\Post (.bl (rowD d).isSome)
theorem Zk0:1<=sizeLine:=by decide
theorem Zo7 (mb:Mb mg) (F:Fun K "is_row" "is_row" Ya3 f fd):FnOk P w K mg base CX0 1 f fd ["thing"] (spD K Qa9):=by
 refine F.ok Ybq (Zbi λds Post h=>by obtain⟨_,_,rfl,_⟩:=h;rfl) λcdv A outer s H vs Q E hr h=>?_;have hu:=Zb1 hr;refine⟨_,(Zah<|Zaw<|Zai (isiUK K) rfl (mb "isinstance"<|by decide) Zao<|Zaa (pv 0)<|Zaa (Zb0<|Zaa (Zc3 rfl (mb "list"<|by decide) Zoq (show RelV (.ty "list") _ from rfl))<|Zaa (Zc3 rfl (mb "tuple"<|by decide) Zbt (show RelV (.ty "tuple") _ from rfl)) Zad) Zad),Zdc (λds Post hf=>?_) h⟩;obtain⟨d,T,rfl,hT,q⟩:=hf;refine⟨by simp,?_⟩;dsimp only[startD,Wbl,Wbn,Wbb];refine Za0<|Zay<|Zab<|Zac rfl<|Zab<|Zb9<|Zab<|Zdn<|Zab<|Zdn<|Zae ⟨Zdw,?_⟩;have key:∀T',tyD d=some T' -> (∀K,PySem.W.kitAny K (.type T') (["list","tuple"].map Value.type)=some (rowD d).isSome)->JA K tNil [Slot.val d] λds O1=>JC K (rIsiU K) (d::D.tup [D.ty "list",D.ty "tuple"]::ds) O1 λd _=>Post d:=λT' h1 h2=>Zae<|Zt6 (ns:=["list","tuple"]) h1 h2 q;cases d with
 |non=>exact key "NoneType" rfl (λ_=>by rfl)
 |bl b=>exact key "bool" rfl (λ_=>by rfl)
 |int i=>exact key "int" rfl (λ_=>by rfl)
 |str x=>exact key "str" rfl (λ_=>by rfl)
 |lst ds=>exact key "list" rfl (λ_=>by rfl)
 |tup ds=>exact key "tuple" rfl (λ_=>by rfl)
 |dct ks ds=>exact key "dict" rfl (λ_=>by rfl)
 |_=>cases hT
def figS:PySem.Str:=oS "0123456789"
def figB (c:Nat):Bool:=!(Builtin.Str.occurrences figS (sgn c) 0 figS.length 1).isEmpty
end
theorem Zkp {c:Nat}:∀{a b R S:List Nat},c ∉ a->c ∉ b->(R=[]\/∃r,R=c::r)->(S=[]\/∃s,S=c::s)->a++R=b++S->a=b/\R=S
 |[],[],R,S,_,_,_,_,e=>⟨rfl,e⟩
 |[],y::b,R,S,_,hb,hR,_,e=>by
  rcases hR with rfl|⟨r,rfl⟩
  ·simp at e
  ·rw[List.nil_append,Wb1]at e
   injection e with e1 e2
   exact absurd (by rw[e1];exact Wat) hb
 |x::a,[],R,S,ha,_,_,hS,e=>by
  rcases hS with rfl|⟨s,rfl⟩
  ·simp at e
  ·rw[List.nil_append,Wb1]at e
   injection e with e1 e2
   exact absurd (by rw[<- e1];exact Wat) ha
 |x::a,y::b,R,S,ha,hb,hR,hS,e=>by
  rw[Wb1,Wb1]at e;injection e with e1 e2
  obtain⟨h1,h2⟩:=Zkp (λz=>ha<|Wap _ z) (λz=>hb<|Wap _ z) hR hS e2;exact⟨by rw[e1,h1],h2⟩
theorem Zer {x y:PySem.Str}(h:x.cps.toList=y.cps.toList):x=y:=by
 cases x;cases y;congr 1;exact Array.toList_inj.mp h
def Qbf (c:Nat):List PySem.Str->List Nat
 |[]=>[]
 |z::zs=>c::(Str.join ⟨#[c]⟩ (z::zs)).cps.toList
theorem Zbm (c:Nat) (z:PySem.Str) (zs:List PySem.Str):(Str.join ⟨#[c]⟩ (z::zs)).cps.toList=z.cps.toList++Qbf c zs:=by
 cases zs with
 |nil=>show z.cps.toList=_++[];rw[Wbg]
 |cons y r=>
  show (z++⟨#[c]⟩++Str.join ⟨#[c]⟩ (y::r)).cps.toList=_;have ap:∀a b:PySem.Str,(a++b).cps.toList=a.cps.toList++b.cps.toList:=λa b=>by
   show (a.cps++b.cps).toList=_;exact Array.toList_append
  rw[ap,ap,Wbk];rfl
theorem Zij (c:Nat) (zs:List PySem.Str):Qbf c zs=[]\/∃r,Qbf c zs=c::r:=by
 cases zs with
 |nil=>exact .inl rfl
 |cons z r=>exact .inr ⟨_,rfl⟩
theorem Zio {c:Nat}:∀{zs ws:List PySem.Str},zs≠[]->ws≠[]->(∀z∈zs,c ∉ z.cps.toList)->(∀z∈ws,c ∉ z.cps.toList)->Str.join ⟨#[c]⟩ zs=Str.join ⟨#[c]⟩ ws->zs=ws
 |[],_,h,_,_,_,_=>absurd rfl h
 |_::_,[],_,h,_,_,_=>absurd rfl h
 |z::zs,w::ws,_,_,hz,hw,e=>by
  have e':=congrArg (λs:PySem.Str=>s.cps.toList) e;have e':(Str.join ⟨#[c]⟩ (z::zs)).cps.toList=(Str.join ⟨#[c]⟩ (w::ws)).cps.toList:=e';rw[Zbm,Zbm]at e';obtain⟨h1,h2⟩:=Zkp (hz z Wat) (hw w Wat) (Zij c zs) (Zij c ws) e';have hzw:=Zer h1;subst hzw;cases zs with
  |nil=>
   cases ws with
   |nil=>rfl
   |cons w2 ws=>cases h2
  |cons z2 zs=>
   cases ws with
   |nil=>cases h2
   |cons w2 ws=>
    injection h2 with _ h3
    rw[Zio (by simp) (by simp) (λy hy=>hz y<|Wap _ hy) (λy hy=>hw y<|Wap _ hy) (Zer h3)]
theorem Zez {c:Nat}{zs:List PySem.Str}(h0:zs≠[]) (h:∀z∈zs,c ∉ z.cps.toList):Txt.split (Str.join ⟨#[c]⟩ zs) ⟨#[c]⟩=zs:=by
 refine Zio (c:=c) ?_ h0 (StrLaws.split_free _ c) h<|StrLaws.join_split _ _;have:=PyProof.Rows.split_pos (Str.join ⟨#[c]⟩ zs) ⟨#[c]⟩;intro z;rw[z]at this;exact absurd this (by decide)
section
variable {P:Program}{w:World}{K:W.Frag}{mg:Str->Option Value}{base:Heap}{f:Addr}{fd:FuncData}
theorem Zmt {ts:Qb1}{m:Nat}{p:Int}{r ms:List Int}(h:Qam ts m p r) (h1:ms.Perm r) (h2:ms.Pairwise (· <= ·)):ms=Qaa ts m p:=
 List.Perm.eq_of_pairwise (le:=λa b=>a<=b) (λa b _ _ h1 h2=>by omega) h2 ((Zc1 ts m p).imp λh=>Int.le_of_lt h) (h1.trans h.perm)
theorem Zn3 {ts:Qb1}{m:Nat}{p x:Int}{r:List Int}(h:Qam ts m p (x::r)):∀a∈x::r,x<=a:=by
 have h1:=h.first;have h2:=Zc1 ts m p;intro a ha;have h3:=h.perm.mem_iff.mp ha;cases e:Qaa ts m p with
 |nil=>rw[e]at h3;exact nomatch h3
 |cons y l=>
  rw[e]at h1 h2 h3;simp only[List.head?_cons,Waw.injEq]at h1;subst h1;rcases Wai.mp h3 with z|z
  ·omega
  ·exact Int.le_of_lt ((List.pairwise_cons.mp h2).1 a z)
def fEnds:NSp:=λds Post=>∃n ts,∃p:Int,ds=[Qah n ts,.int p]/\ts.length<=24/\Post ((Qaa ts (2*ts.length) p).map .int)
end
def fPlace:DSp:=λds Post=>∃n ts,∃e:Nat,ds=[Qah n ts,.int e]/\e<2*ts.length/\Post (.int<|Qac ts e)
theorem Zgj (ts:Qb1) (m:Nat) (p:Int) (q:D->Bool) (hq:∀k:Nat,q (.int (0+(k:Int)))=decide (Qac ts k=p)):(rngD 0 m).filter q=(Qaa ts m p).map .int:=by
 unfold rngD Qaa;rw[List.filter_map,Wa8];have e:(q∘λi:Nat=>D.int (0+(i:Int)))=λe=>decide (Qac ts e=p):=by
  funext k;exact hq k
 rw[e];apply Wc1;intro k _;show D.int (0+(k:Int))=D.int (k:Int);rw[Wbx]
section
variable {P:Program}{w:World}{K:W.Frag}{mg:Str->Option Value}{base:Heap}{f:Addr}{fd:FuncData}
theorem Zpp (mb:Mb mg) (F:Fun K "place_of" "place_of" Ya5 f fd):FnOk P w K mg base CX0 1 f fd ["web","end"] (spD K fPlace):=by
 refine F.ok Ybt (Zbi λds Post h=>by obtain⟨_,_,_,rfl,_⟩:=h;rfl) λcdv A outer s H vs Q E hr h=>?_;have hu:=Zb1 hr;refine⟨_,(Zah<|Zaw<|Za5 (ixK K hu) (Za5 (ixK K hu) (Za5 (ixK K hu) (pv 0) Zag λ_ _=>rfl) (Zav Zhr (pv 1) Zag) λ_ _=>rfl) (Zav Zcw (pv 1) Zag) λ_ _=>rfl),Zdc (λds Post hf=>?_) h⟩;obtain⟨n,ts,e,rfl,he,q⟩:=hf;refine⟨by simp,?_⟩;dsimp only[startD,Wbl,Wbn,Wbb];obtain⟨t,h1,h2,h3⟩:=Zrx he;rw[Wbx]at h2 h3;refine Za0<|Zak<|Zak<|Zak<|Zac rfl<|Zaj<|Zbv (d:=.tup<|ts.map Qak) rfl ?_;refine Zak<|Zac rfl<|Zaj<|jr_I ⟨by omega,by omega⟩<|Zbv h2 ?_;exact Zak<|Zac rfl<|Zaj<|jr_I (by show (0:Int)<2;omega)<|Zbv h3 q
theorem Zlz (mb:Mb mg) (C53:Callee P w K mg base 1 "place_of" ["web","end"] (spD K fPlace)) (F:Fun K "ends_at" "ends_at" Yat f fd):FnOk P w K mg base CX0 2 f fd ["web","place"] (spN K fEnds):=by
 refine F.ok Ybs (Zo3 λds Post h=>by obtain⟨_,_,_,rfl,_⟩:=h;rfl) λcdv A outer s H vs Q E hr h=>?_;have hu:=Zb1 hr;refine⟨_,(Zah<|Zaw<|Zcm ["end"] (show CompSc (defScope Yat) ["web","place"] _ ["web","place"] [0,1] from ⟨rfl,by decide +kernel,by decide +kernel,by decide +kernel,rfl,by decide +kernel⟩) rfl (Zbx rfl (mb "range"<|by decide)<|Zaa (Zav Zd5 Zag<|Zai (lenK K) rfl (mb "len"<|by decide) Zba<|Zaa (Za5 (ixK K hu) (pv 0) Zag λ_ _=>rfl) Zad) Zad) (λ_ _ _ _ _=>(Za3 (i:=0) (show List.Nodup (["end","web","place"]:List Str) from by decide) rfl<|Or.inl rfl)) (λ_ _ _ _ _=>(Zhe<|Zaq Zbd (Za9 C53 (hr.mono<|by decide)<|Zaa (pv 1)<|Zaa (pv 0) Zad) (pv 2)<|nomark _)) λ_ _ _ _ _=>(pv 0)),Zw6 (λds Post hf=>?_) h⟩;obtain⟨n,ts,p,rfl,hl,q⟩:=hf;refine⟨by simp,?_⟩;dsimp only[startD,Wbl,Wbn,Wbb];refine Zng<|Zkq (by decide)<|Zbw ?_;refine Zab<|Zak<|Zaj<|Zay ?_;refine Zab<|Zak<|Zac rfl<|Zaj<|Zbv (d:=.tup<|ts.map Qak) rfl ?_;refine Zae<|Zbe (Or.inr rfl) ?_;rw[Waa];refine jr_I (Or.inl ⟨by omega,by omega⟩)<|Zae ⟨_,rfl,by omega,by omega,?_⟩;have eL:((2:Int)*(ts.length:Int)).toNat=2*ts.length:=by omega
 rw[eL];refine⟨by rw[Zbp];exact small1000 (by omega),λd=>match d with|.int e=>decide (Qac ts e.toNat=p)|_=>false,λd=>d,λi d hd=>?_,?_⟩
 ·obtain⟨hi,rfl⟩:=Zcb hd
  refine Zap<|Zak<|Za8<|Zab<|Zac rfl<|Zab<|Zac rfl<|Zae ⟨n,ts,i,by rw[Wbx],hi,?_⟩;refine Zac rfl<|Zdv ⟨_,rfl,?_,?_⟩
  ·show _=decide (Qac ts (0+(i:Int)).toNat=p)
   rw[Wbx,Wbf]
  ·by_cases hp:Qac ts i=p
   ·rw[Qbx hp,Qbw rfl];exact Zac rfl ⟨rfl,_,rfl⟩
   ·rw[Qby hp,Qbv Wao];exact⟨_,rfl⟩
 ·rw[List.map_id',Zgj ts _ p _ λk=>by show decide (Qac ts (0+(k:Int)).toNat=p)=_;rw[Wbx,Wbf]]
  exact⟨_,rfl,q⟩
theorem Zju {K:W.Frag}{O:Evt}{Pd:D->Evt->Prop}{i:Int}(p:Pd (.int (-i)) O):JR1 K (rU λi=>.int (-i)) (.int i) O Pd:=λg G H Z Q x k r c=>by
 cases r;exact⟨i,rfl,c _ _ G H O k (Same.refl _) (.int _) p⟩
end
instance (cs:List Nat):Decidable (PySem.NumText.AllDigits cs):=inferInstanceAs<|Decidable (∀c∈cs,48<=c/\c<=57)
def wOk (x:PySem.Str):Prop:=1<=x.length/\x.length<=60/\PySem.NumText.AllDigits x.cps.toList/\(x.cps.toList.head?=some 48->x.length=1)
instance (x:PySem.Str):Decidable (wOk x):=inferInstanceAs<|Decidable<|_/\_/\_/\_
def wnum (x:PySem.Str):Option Nat:=if wOk x then some (PySem.NumText.digitsVal x.cps.toList) else none
theorem Zht {x:PySem.Str}(h:wOk x):wnum x=some (PySem.NumText.digitsVal x.cps.toList):=Qbw h
theorem Zhi {x:PySem.Str}(h:¬ wOk x):wnum x=none:=Qbv h
theorem Zjd {x:PySem.Str}(h:wOk x):PySem.intText? x=some ((PySem.NumText.digitsVal x.cps.toList:Nat):Int):=by
 obtain⟨h1,h2,h3,h4⟩:=h;refine PySem.intText_digits h3 (λe=>?_) (by omega);have:x.cps.toList.length=x.length:=by simp[Str.length]
 rw[e]at this;simp at this;omega
def Qad (r:PySem.Str):List PySem.Str:=Txt.split r<|oS " "
def Qaf (t:PySem.Str):List PySem.Str:=Txt.split t<|oS "\n"
structure St84 where
 n:Int
 ts:Qb1
 o:Qb2
def stD (s:St84):D:=.tup [Qah s.n s.ts,Qan s.o]
def stO:Option St84->D
 |none=>.non
 |some s=>stD s
def Qab (ns:List Nat):List Int:=ns.map λe:Nat=>(e:Int)
noncomputable def Qaq (ns:List Nat):Option St84:=open Classical in
 match ns with
 |[n]=>if 1<=n/\n<=25 then some ⟨(n:Int),[],[]⟩ else none
 |_=>none
noncomputable def tieF (s:St84) (ns:List Nat):Option St84:=open Classical in
 match ns with
 |[a,b]=>if s.ts.length<24/\(a:Int)<s.n/\(b:Int)<s.n then some ⟨s.n,s.ts++[((a:Int),(b:Int))],[]⟩ else none
 |_=>none
noncomputable def Qa3 (s:St84) (ns:List Nat):Option St84:=open Classical in
 match ns with
 |p::r=>if r≠[]/\s.o.length<=p/\Qam s.ts (2*s.ts.length) (p:Int) (Qab r) then some ⟨s.n,s.ts,s.o++Wad (p-s.o.length) []++[Qab r]⟩ else none
 |_=>none
noncomputable def rowF (st:Option St84) (w:PySem.Str) (ns:List Nat):Option St84:=open Classical in
 match st with
 |none=>if w=oS "places" then Qaq ns else none
 |some s=>if w=oS "tie" /\ s.o=[] then tieF s ns else if w=oS "at" then Qa3 s ns else none
def Qag (ws:List PySem.Str):List Nat:=ws.map λx=>(wnum x).getD 0
noncomputable def Qao (st:Option St84) (r:PySem.Str):Option St84:=open Classical in
 match Qad r with
 |[]=>none
 |w::ws=>if none∈ws.map wnum then none else rowF st w (Qag ws)
theorem Zcn {st:Option St84}{r w:PySem.Str}{ws:List PySem.Str}(e:Qad r=w::ws):Qao st r=if none∈ws.map wnum then none else rowF st w (Qag ws):=by
 unfold Qao;rw[e]
theorem Zos {ws:List PySem.Str}(h:none ∉ ws.map wnum):ws.map wnum=(Qag ws).map some:=by
 unfold Qag;rw[Wa8];apply Wc1;intro x hx;cases e:wnum x with
 |none=>exact absurd (Wa2.mpr ⟨x,hx,e⟩) h
 |some n=>show some n=some ((wnum x).getD 0);rw[e];rfl
structure StOk (s:St84):Prop where
 web:Qau s.n s.ts
 ol:(s.o.length:Int)<=s.n
 row:∀(p:Nat) r,s.o[p]?=some r->r=[]\/Qam s.ts (2*s.ts.length) (p:Int) r
 last:∀r,s.o.getLast?=some r->r≠[]
def StO (st:Option St84):Prop:=∀s,st=some s->StOk s
theorem Zg4 {ts:Qb1}{m:Nat}{p e:Int}(h:e∈Qaa ts m p):∃k:Nat,e=(k:Int)/\k<m/\Qac ts k=p:=by
 unfold Qaa at h;obtain⟨k,hk,rfl⟩:=Wa2.mp h;obtain⟨h1,h2⟩:=Wb3.mp hk;exact⟨k,rfl,Wbp.mp h1,of_decide_eq_true h2⟩
theorem Zqa {n:Int}{ts:Qb1}(hW:∀t∈ts,0<=t.1/\t.1<n/\0<=t.2/\t.2<n) {k:Nat}(hk:k<2*ts.length):0<=Qac ts k/\Qac ts k<n:=by
 unfold Qac;rw[Wab (by omega)];obtain⟨a,b,c,d⟩:=hW _<|Wbd (show k / 2<ts.length by omega);dsimp only;split
 ·exact⟨a,b⟩
 ·exact⟨c,d⟩
theorem Zfm {n:Int}{ts:Qb1}(hW:∀t∈ts,0<=t.1/\t.1<n/\0<=t.2/\t.2<n) {p:Int}{r:List Int}(hR:Qam ts (2*ts.length) p r) (h0:r≠[]):p<n:=by
 cases r with
 |nil=>exact absurd rfl h0
 |cons x r=>
  obtain⟨k,_,h2,h3⟩:=Zg4<|hR.perm.mem_iff.mp Wat;rw[<- h3];exact(Zqa hW h2).2
theorem Zub {st:Option St84}{w:PySem.Str}{ns:List Nat}(h:StO st):StO (rowF st w ns):=by
 intro s e;unfold rowF at e;cases st with
 |none=>
  dsimp only at e;split at e
  ·unfold Qaq at e
   split at e
   ·rename_i n
    split at e
    ·rename_i hn
     cases e;exact⟨⟨by show (1:Int)<=n;omega,by show (n:Int)<=25;omega,Wbu _,λt ht=>nomatch ht⟩,by show (0:Int)<=n;omega,λp r e=>by simp at e,λr e=>by simp at e⟩
    ·cases e
   ·cases e
  ·cases e
 |some z=>
  have hz:=h z rfl;have hw:=hz.web;dsimp only at e;split at e
  ·rename_i h1
   unfold tieF at e;split at e
   ·rename_i a b
    split at e
    ·rename_i hn
     cases e;refine⟨⟨hw.lo,hw.hi,by show (z.ts++[_]).length<=24;simp;omega,λt ht=>?_⟩,by show ((0:Nat):Int)<=z.n;have:=hw.lo;omega,λp r e=>by simp at e,λr e=>by simp at e⟩;rcases Wa1.mp ht with ht|ht
     ·exact hw.tie t ht
     ·rw[Was.mp ht];exact⟨Wc6 _,hn.2.1,Wc6 _,hn.2.2⟩
    ·cases e
   ·cases e
  ·split at e
   ·unfold Qa3 at e
    split at e
    ·rename_i p r
     split at e
     ·rename_i hn
      cases e;obtain⟨n1,n2,n3⟩:=hn;have n0:Qab r≠[]:=by unfold Qab;simpa using n1
      have hp:=Zfm hw.tie n3 n0;refine⟨hw,?_,λq x e=>?_,λx e=>?_⟩
      ·show ((z.o++Wad (p-z.o.length) []++[Qab r]).length:Int)<=z.n
       simp;omega
      ·have e:(z.o++Wad (p-z.o.length) []++[Qab r])[q]?=some x:=e
       by_cases hq:q<z.o.length
       ·rw[Wbk,Waz hq]at e
        exact hz.row q x e
       ·rw[Wbk,Wax (by omega)]at e
        by_cases hq2:q<p
        ·rw[Waz (by simp;omega),Wbe]at e
         split at e
         ·cases e;exact .inl rfl
         ·cases e
        ·rw[Wax (by simp;omega)]at e
         have hl:q-z.o.length-(Wad (p-z.o.length) ([]:List Int)).length=q-p:=by simp;omega
         rw[hl]at e;cases hqp:q-p with
         |zero=>
          rw[hqp]at e;cases e;rw[show q=p by omega];exact .inr n3
         |succ m=>rw[hqp]at e;simp at e
      ·have e:(z.o++Wad (p-z.o.length) []++[Qab r]).getLast?=some x:=e
       rw[List.getLast?_append]at e;simp at e;rw[<- e];exact n0
     ·cases e
    ·cases e
   ·cases e
theorem Zj5 {st:Option St84}{r:PySem.Str}(h:StO st):StO (Qao st r):=by
 intro s e;cases hw:Qad r with
 |nil=>unfold Qao at e;rw[hw]at e;cases e
 |cons w ws=>
  rw[Zcn hw]at e;split at e
  ·cases e
  ·exact Zub h s e
noncomputable def Qas:Option St84->Nat->List PySem.Str->Nat × Option St84
 |st,_,[]=>(0,st)
 |st,k,r::rs=>match Qao st r with
  |none=>(k+1,none)
  |some s=>Qas (some s) (k+1) rs
theorem Zj1 {st:Option St84}{k:Nat}{r:PySem.Str}{rs:List PySem.Str}(e:Qao st r=none):Qas st k (r::rs)=(k+1,none):=by
 unfold Qas;rw[e]
theorem Zkj {st:Option St84}{s:St84}{k:Nat}{r:PySem.Str}{rs:List PySem.Str}(e:Qao st r=some s):Qas st k (r::rs)=Qas (some s) (k+1) rs:=by
 conv=>lhs;unfold Qas
 rw[e]
def Qal (s:St84):Qb2:=s.o++Wad (s.n.toNat-s.o.length) []
def Qaz (s:St84):Prop:=∀(p:Nat) r,(Qal s)[p]?=some r->Qam s.ts (2*s.ts.length) (p:Int) r
noncomputable def Qaj (rows:List PySem.Str):Nat:=open Classical in
 match Qas none 0 rows with
 | (0,some s)=>if Qaz s then 0 else rows.length+1
 | (0,none)=>rows.length+1
 | (k+1,_)=>k+1
def At84 (rows:List PySem.Str) (i:Nat) (st:Option St84):Prop:=Qas none 0 rows=Qas st i (rows.drop i)/\(i=0↔st=none)/\StO st
theorem Zm0 (rows:List PySem.Str):At84 rows 0 none:=⟨rfl,by simp,λs e=>nomatch e⟩
theorem Zi8 {rows:List PySem.Str}{i:Nat}{st:Option St84}{r:PySem.Str}{s:St84}(h:At84 rows i st) (hr:rows[i]?=some r) (e:Qao st r=some s):At84 rows (i+1) (some s):=by
 obtain⟨h1,_,h3⟩:=h;have hd:rows.drop i=r::rows.drop (i+1):=by
  obtain⟨hi,e⟩:=Wah.mp hr;rw[List.drop_eq_getElem_cons hi,e]
 refine⟨by rw[h1,hd,Zkj e],by simp,λz e2=>?_⟩;have:=Zj5 (r:=r) h3;rw[e]at this;exact this z e2
theorem Zjz {rows:List PySem.Str}{i:Nat}{st:Option St84}{r:PySem.Str}(h:At84 rows i st) (hr:rows[i]?=some r) (e:Qao st r=none):Qaj rows=i+1:=by
 obtain⟨h1,_,h3⟩:=h;have hd:rows.drop i=r::rows.drop (i+1):=by
  obtain⟨hi,e⟩:=Wah.mp hr;rw[List.drop_eq_getElem_cons hi,e]
 unfold Qaj;rw[h1,hd,Zj1 e]
theorem Zg7 {rows:List PySem.Str}{st:Option St84}(h:At84 rows rows.length st) (h0:rows≠[]):∃s,st=some s/\StOk s/\(Qaz s->Qaj rows=0)/\(¬ Qaz s->Qaj rows=rows.length+1):=by
 obtain⟨h1,h2,h3⟩:=h;cases st with
 |none=>exact absurd (Wcb.mp (h2.mpr rfl)) h0
 |some s=>
  have e:Qas none 0 rows=(0,some s):=by rw[h1,List.drop_length];rfl
  refine⟨s,rfl,h3 s rfl,λh=>?_,λh=>?_⟩
  ·unfold Qaj;rw[e];simp only;rw[Qbw h]
  ·unfold Qaj;rw[e];simp only;rw[Qbv h]
def Qai (o:Qb2):List Int:=((Wb2 o.length).filter λp=>decide<|o[p]?≠some []).map λp:Nat=>(p:Int)
theorem Zen {o:Qb2}{p:Int}:p∈Qai o ↔ ∃(k:Nat) (r:List Int),p=(k:Int)/\o[k]?=some r/\r≠[]:=by
 unfold Qai;constructor
 ·intro h
  obtain⟨k,hk,rfl⟩:=Wa2.mp h;obtain⟨h1,h2⟩:=Wb3.mp hk;have h1:=Wbp.mp h1;have h2:=of_decide_eq_true h2;refine⟨k,o[k],rfl,Wab h1,λe=>h2 ?_⟩;rw[Wab h1,e]
 ·rintro⟨k,r,rfl,h1,h2⟩
  refine Wa2.mpr ⟨k,Wb3.mpr ⟨Wbp.mpr (Wah.mp h1).1,Qbx ?_⟩,rfl⟩;rw[h1];intro e;exact h2<|Waw.inj e
theorem Zfc (o:Qb2) (k:Nat) {r:List Int}(h:r≠[]):Qai (o++Wad k []++[r])=Qai o++[((o.length+k:Nat):Int)]:=by
 have hl:(o++Wad k []++[r]).length=o.length+(k+1):=by simp
 unfold Qai;rw[hl,List.range_add,Wbv,Wau];congr 1
 ·congr 1
  apply List.filter_congr;intro p hp;have hp:=Wbp.mp hp;rw[Wbk,Waz hp]
 ·rw[List.range_succ,Wau,Wbv,Wau]
  have z:((Wb2 k).map λx=>o.length+x).filter (λp=>decide ((o++Wad k []++[r])[p]?≠some []))=[]:=by
   rw[Wdc];intro p hp;obtain⟨j,hj,rfl⟩:=Wa2.mp hp;have hj:=Wbp.mp hj;rw[Wbk,Wax (by omega),Waz (by simp;omega),Wbe];rw[Qbw (by omega)];simp
  rw[z];have y:(o++Wad k []++[r])[o.length+k]?=some r:=by
   rw[Wax (by simp)];simp
  simp only[Wdf,List.nil_append,Wa3];rw[Wbz,Qbw (by rw[y];simpa using h)];rfl
theorem Zk5 {o:Qb2}(h:∀r,o.getLast?=some r->r≠[]):Qai o=[]↔o=[]:=by
 constructor
 ·intro e
  cases hl:o.getLast? with
  |none=>exact List.getLast?_eq_none_iff.mp hl
  |some r=>
   obtain⟨ys,rfl⟩:=Wc5.mp hl;have:=Zfc ys 0<|h r hl;rw[List.replicate_zero,Wbg,e]at this;exact absurd this.symm (by simp)
 ·rintro rfl;rfl
theorem Zno {o:Qb2}{r:List Int}(hl:o.getLast?=some r) (h:r≠[]):(Qai o).getLast?=some ((o.length:Int)-1):=by
 obtain⟨ys,rfl⟩:=Wc5.mp hl;have:=Zfc ys 0 h;rw[List.replicate_zero,Wbg]at this;rw[this,List.getLast?_append];simp
theorem Zuu {ts:Qb1}{p:Int}(h:Qam ts (2*ts.length) p []):Qaa ts (2*ts.length) p=[]:=h.perm.nil_eq.symm
theorem Zjh {ts:Qb1}{i:Nat}(h:i<ts.length):((2*i:Nat):Int)∈Qaa ts (2*ts.length) ts[i].1/\((2*i+1:Nat):Int)∈Qaa ts (2*ts.length) ts[i].2:=by
 unfold Qaa;refine⟨Wa2.mpr ⟨2*i,Wb3.mpr ⟨Wbp.mpr (by omega),Qbx ?_⟩,rfl⟩,Wa2.mpr ⟨2*i+1,Wb3.mpr ⟨Wbp.mpr (by omega),Qbx ?_⟩,rfl⟩⟩
 ·unfold Qac
  rw[show 2*i / 2=i by omega,Wab h];dsimp only;rw[Qbw (by omega)]
 ·unfold Qac
  rw[show (2*i+1) / 2=i by omega,Wab h];dsimp only;rw[Qbv (by omega)]
theorem Zpe {s:St84}(h:StOk s):Qaz s ↔ ∀t∈s.ts,t.1∈Qai s.o/\t.2∈Qai s.o:=by
 have hw:=h.web;have ol:=h.ol;have n1:=hw.lo;have fl:(Qal s).length=s.n.toNat:=by unfold Qal;simp;omega
 have full_at:∀(p:Nat) r,s.o[p]?=some r->(Qal s)[p]?=some r:=λp r e=>by
  unfold Qal;rw[Waz (Wah.mp e).1];exact e
 have back:∀(p:Nat) r,(Qal s)[p]?=some r->r≠[]->s.o[p]?=some r:=λp r e h0=>by
  unfold Qal at e;by_cases hp:p<s.o.length
  ·rwa [Waz hp]at e
  ·rw[Wax (by omega),Wbe]at e
   split at e
   ·cases e;exact absurd rfl h0
   ·cases e
 constructor
 ·intro hf t ht
  obtain⟨i,hi,rfl⟩:=List.getElem_of_mem ht;obtain⟨t1,t2,t3,t4⟩:=hw.tie _ ht;obtain⟨e1,e2⟩:=Zjh hi;have key:∀(x:Int) (e:Int),0<=x->x<s.n->e∈Qaa s.ts (2*s.ts.length) x->x∈Qai s.o:=λx e x0 x1 he=>by
   obtain⟨k,rfl⟩:∃k:Nat,x=(k:Int):=⟨x.toNat,by omega⟩;have hk:k<(Qal s).length:=by omega
   have hR:=hf k _<|Wab hk;have hn:(Qal s)[k]≠[]:=λz=>by
    rw[z]at hR;rw[Zuu hR]at he;exact nomatch he
   exact Zen.mpr ⟨k,_,rfl,back k _ (Wab hk) hn,hn⟩
  exact⟨key _ _ t1 t2 e1,key _ _ t3 t4 e2⟩
 ·intro ht p r e
  by_cases h0:r=[]
  ·subst h0
   have z:Qaa s.ts (2*s.ts.length) (p:Int)=[]:=by
    cases q:Qaa s.ts (2*s.ts.length) (p:Int) with
    |nil=>rfl
    |cons x l=>
     exfalso
     obtain⟨k,_,hk,hp⟩:=Zg4 (ts:=s.ts) (m:=2*s.ts.length) (p:=(p:Int)) (e:=x) (by rw[q];exact Wat);have hi:k / 2<s.ts.length:=by omega
     obtain⟨a,b⟩:=ht _<|Wbd hi;have hs:(p:Int)∈Qai s.o:=by
      rw[<- hp];unfold Qac;rw[Wab hi];dsimp only;split
      ·exact a
      ·exact b
     obtain⟨k2,r2,e2,e3,e4⟩:=Zen.mp hs;have e2:p=k2:=by omega
     subst e2;rw[full_at _ _ e3]at e;cases e;exact e4 rfl
   exact⟨by rw[z],by rw[z]⟩
  ·rcases h.row p r (back p r e h0) with z|z
   ·exact absurd z h0
   ·exact z
def Qar (n:Int) (r:List Int):Prop:=r.length=2/\∀z∈r,0<=z/\z<n
def Qat (n:Int) (ts:Qb2):Prop:=1<=n/\n<=25/\ts.length<=24/\∀r∈ts,Qar n r
def fTie84 (c:Addr):XSp:=λds Post Xp=>∃(n:Int) (r:List Int),ds=[.int n,Qae r]/\r.length<=100/\(Qar n r->Post (Qae r))/\(¬ Qar n r->Xp c)
def fWeb84 (c:Addr):XSp:=λds Post Xp=>∃(n:Int) (ts:Qb2),ds=[.int n,.tup (ts.map Qae)]/\ts.length<=30/\(∀r∈ts,r.length<=100)/\(Qat n ts->Post (.tup [.int n,.tup (ts.map Qae)]))/\(¬ Qat n ts->Xp c)
noncomputable def Qay (n:Int) (ts:Qb2):D:=open Classical in if Qat n ts then .tup [.tup [.int n,.tup (ts.map Qae)],.tup []] else .non
def fWW84:DSp:=λds Post=>∃(n:Int) (ts:Qb2),ds=[.int n,.tup (ts.map Qae)]/\ts.length<=30/\(∀r∈ts,r.length<=100)/\Post (Qay n ts)
section
variable {P:Program}{w:World}{K:W.Frag}{mg:Str->Option Value}{base:Heap}{f fI:Addr}{fd:FuncData}{c0 c1 c2 c3 c4 c5 c6 c7 c8 c9 c10 c11 c12 c13 c14 c15:Addr}
theorem Zrg (mb:Mb mg) (cl:Cl K mg fI c0 c1 c2 c3 c4 c5 c6 c7 c8 c9 c10 c11 c12 c13 c14 c15) (C50:Callee P w K mg base 1 "is_row" ["thing"] (spD K Qa9)) (C51:Callee P w K mg base 1 "is_whole" ["thing"] (spD K fIsWX)) (F:Fun K "tie_of" "tie_of" Ya4 f fd):FnOk P w K mg base (CXE P w) 2 f fd ["many","tie"] (spX K<|fTie84 c1):=by
 refine F.okX Ybl (Zo4 λds Post Xp h=>by obtain⟨_,_,rfl,_⟩:=h;rfl) λcdv A outer s H vs Q E hr h=>?_;have hu:=Zb1 hr;refine⟨_,(Zaf (Zbg (PW.pt<|pw_or (Zcl<|truK K (Za9 C50 (hr.mono<|by decide)<|Zaa (pv 1) Zad) λ_=>rfl)<|pw_or1<|Zaq Zkt (Zai (lenK K) rfl (mb "len"<|by decide) Zba<|Zaa (pv 1) Zad) Zag<|nomark _) (Zah<|Zfd cl.e_NoWeb rfl cl.n_NoWeb hr.hd Zfh<|Zaa Za1 Zad) Za4)<|Zaf (Zdu PassesOwn.leaving rfl (seqK K<|pv 1) (Za3 (i:=2) Ybl.nd rfl<|Or.inl rfl)<|Zah<|Zbg (PW.pt<|pw_or (Zcl<|truK K (Za9 C51 (hr.mono<|by decide)<|Zaa (pv 2) Zad) λ_=>rfl)<|pw_or1<|Zcl<|Zhy Zji Zhz Zag (pv 2)<|pv 0) (Zah<|Zfd cl.e_NoWeb rfl cl.n_NoWeb hr.hd Zfh<|Zaa Za1 Zad) Za4)<|Zah<|Zaw<|Za2 (tupK K) rfl (mb "tuple"<|by decide) Zbt<|Zaa (pv 1) Zad),Zv3 (λds Post Xp hf=>?_) h⟩;obtain⟨n,r,rfl,hl,hG,hX⟩:=hf;refine⟨by simp,?_⟩;dsimp only[startD,Wbl,Wbn,Wbb,Wad];have rz:∀{O:Evt},¬ Qar n r->JA K (tCons tSome tNil) O λds _=>ds.length<=sizeLine/\Xp c1:=λ{O} h=>Zab (Znm λx=>Zae ⟨Zk0,hX h⟩);have rs:∀{O:Evt}{x:PySem.Str},¬ Qar n r->JA K (tCons (tC (.str x)) tNil) O λds _=>ds.length<=sizeLine/\Xp c1:=λ{O} {x} h=>Zab<|Zax<|Zae ⟨Zk0,hX h⟩;refine Zj4<|Zrk<|Zeq<|Zb2<|Zbh<|Za8<|Zab<|Zac rfl<|Zae ⟨Qae r,_,rfl,rfl,_,rfl,?_⟩;refine iteF<|Zap<|Zak<|Zay<|Zab<|Zac rfl<|Zae<|Zbe (Or.inr rfl)<|Zaj<|Zqv ⟨_,rfl,?_⟩;rw[Waa];by_cases h2:r.length=2
 case neg=>
  rw[Qby (show ¬ ((r.length:Nat):Int)=2 by omega)];exact iteT<|Zdz (rs λg=>h2 g.1)
 rw[Qbx (show ((r.length:Nat):Int)=2 by omega)];refine iteF<|Zhf ?_;refine Zj4<|Zv6<|Zh2<|Zac rfl ⟨_,rfl,λi O=>(∀z∈r.take i,0<=z/\z<n)/\∃x,O = [.val (.int n),.val (Qae r),x],⟨λe he=>(by simp at he),_,rfl⟩,?_,?_⟩
 ·rintro i e O2 hd ⟨hI,x,rfl⟩
  rw[Waf]at hd;cases hz:r[i]? with
  |none=>rw[hz]at hd;exact nomatch hd
  |some z=>
  rw[hz]at hd;cases hd;have mem:=Wav hz;refine Zb6<|Zrk<|Zeq<|Zb2<|Zbh<|Za8<|Zab<|Zac rfl<|Zae ⟨.int z,_,rfl,rfl,_,rfl,?_⟩;refine iteF<|Zb2<|Zap<|Ze9<|Zaj<|Zac rfl<|Zcj ⟨_,rfl,?_⟩;by_cases h0:0<=z
  case neg=>
   rw[Qbv (by simp[h0])];exact⟨_,rfl,iteT<|Zdz (rs λg=>h0 (g.2 z mem).1)⟩
  rw[Qbw (Qbx h0)];refine Zac rfl<|Zcj ⟨_,rfl,?_⟩;by_cases h1:z<n
  case neg=>
   rw[Qby h1];exact iteT<|Zdz (rs λg=>h1 (g.2 z mem).2)
  rw[Qbx h1];refine iteF<|Zhf ⟨λy hy=>?_,_,rfl⟩;rw[Wdh,hz]at hy;rcases Wa1.mp hy with h|h
  ·exact hI y h
  ·rw[Was.mp h];exact⟨h0,h1⟩
 ·rintro O2 ⟨hI,x,rfl⟩
  rw[Waa,Wcm]at hI;exact Zm8<|Zsh<|Zay<|Zab<|Zac rfl<|Zae<|Zdq (Or.inr rfl)<|hG ⟨h2,hI⟩
theorem Zqw (mb:Mb mg) (cl:Cl K mg fI c0 c1 c2 c3 c4 c5 c6 c7 c8 c9 c10 c11 c12 c13 c14 c15) (C51:Callee P w K mg base 1 "is_whole" ["thing"] (spD K fIsWX)) (C50:Callee P w K mg base 1 "is_row" ["thing"] (spD K Qa9)) (C55:CalleeX P w K mg base 2 "tie_of" ["many","tie"] (spX K<|fTie84 c1)) {tk tk2:Tok}(g_MOST_PLACES:mg "MOST_PLACES" = some (.int 25 tk)) (g_MOST_TIES:mg "MOST_TIES" = some (.int 24 tk2)) (F:Fun K "web_of" "web_of" Yas f fd):FnOk P w K mg base (CXE P w) 3 f fd ["many","ties"] (spX K<|fWeb84 c1):=by
 refine F.okX Ybr (Zo4 λds Post Xp h=>by obtain⟨_,_,rfl,_⟩:=h;rfl) λcdv A outer s H vs Q E hr h=>?_;have hu:=Zb1 hr;have hv:=Zeo hr;refine⟨_,(Zaf (Zbg (PW.pt<|pw_or (Zcl<|truK K (Za9 C51 (hr.mono<|by decide)<|Zaa (pv 0) Zad) λ_=>rfl)<|pw_or1<|Zcl<|Zhy Zji Zji Zag (pv 0)<|Zbl rfl g_MOST_PLACES (show RelV (.int 25) _ from ⟨_,rfl⟩)) (Zah<|Zfd cl.e_NoWeb rfl cl.n_NoWeb hr.hd Zfh<|Zaa (Zo2<|Zec (Zog (n:=200))<|Zec (Zrz (n:=200) rfl g_MOST_PLACES)<|Zec (Zog (n:=200)) Zn2) Zad) Za4)<|Zaf (Zbg (PW.pt<|pw_or (Zcl<|truK K (Za9 C50 (hr.mono<|by decide)<|Zaa (pv 1) Zad) λ_=>rfl)<|pw_or1<|Zaq Zgo (Zai (lenK K) rfl (mb "len"<|by decide) Zba<|Zaa (pv 1) Zad) (Zbl rfl g_MOST_TIES (show RelV (.int 24) _ from ⟨_,rfl⟩))<|nomark _) (Zah<|Zfd cl.e_NoWeb rfl cl.n_NoWeb hr.hd Zfh<|Zaa (Zo2<|Zec (Zog (n:=200))<|Zec (Zrz (n:=200) rfl g_MOST_TIES) Zn2) Zad) Za4)<|Zah<|Zaw<|Zb0<|Zaa (pv 0)<|Zaa (Za2 (tupK K) rfl (mb "tuple"<|by decide) Zbt<|Zaa (Zmz ["tie"] (show CompSc (defScope Yas) ["many","ties"] _ ["many"] [0] from ⟨rfl,by decide +kernel,by decide +kernel,by decide +kernel,rfl,by decide +kernel⟩) rfl rfl rfl rfl Zvb (seqK K<|pv 1) (λ_ _ _ _ _ _=>(Za3 (i:=0) (show List.Nodup (["tie","many"]:List Str) from by decide) rfl<|Or.inl rfl)) λ_ _ _ _ _ _ hx=>(Zsd C55 (hr.mono<|by decide) hx<|Zaa (pv 1)<|Zaa (pv 0) Zad)) Zad) Zad),Zv3 (λds Post Xp hf=>?_) h⟩;obtain⟨N,ts,rfl,hl,hrl,hG,hX⟩:=hf;refine⟨by simp,?_⟩;dsimp only[startD,Wbl,Wbn,Wbb,Wad];have rz:∀{O:Evt},¬ Qat N ts->JA K (tCons tSome tNil) O λds _=>ds.length<=sizeLine/\Xp c1:=λ{O} h=>Zab (Znm λx=>Zae ⟨Zk0,hX h⟩);refine Zj4<|Zrk<|Zeq<|Zb2<|Zbh<|Za8<|Zab<|Zac rfl<|Zae ⟨.int N,_,rfl,rfl,_,rfl,?_⟩;refine iteF<|Zb2<|Zap<|Ze9<|Zaj<|Zac rfl<|Zcj ⟨_,rfl,?_⟩;by_cases h0:1<=N
 case neg=>
  rw[Qbv (by simp[h0])];exact⟨_,rfl,iteT<|Zdz (rz λg=>h0 g.1)⟩
 rw[Qbw (Qbx h0)];refine Zaj<|Zcj ⟨_,rfl,?_⟩;by_cases h1:N<=25
 case neg=>
  rw[Qby h1];exact iteT<|Zdz (rz λg=>h1 g.2.1)
 rw[Qbx h1];refine iteF<|Zhf ?_;refine Zj4<|Zrk<|Zeq<|Zb2<|Zbh<|Za8<|Zab<|Zac rfl<|Zae ⟨.tup<|ts.map Qae,_,rfl,rfl,_,rfl,?_⟩;refine iteF<|Zap<|Zak<|Zay<|Zab<|Zac rfl<|Zae<|Zbe (Or.inr rfl)<|Zaj<|Zcj ⟨_,rfl,?_⟩;rw[Waa];by_cases h2:ts.length<=24
 case neg=>
  rw[Qbx (show (24:Int)<((ts.length:Nat):Int) by omega)];exact iteT<|Zdz (rz λg=>h2 g.2.2.1)
 rw[Qby (show ¬ (24:Int)<((ts.length:Nat):Int) by omega)];refine iteF<|Zhf ?_;refine Zm8<|Zmk<|Ze8<|Zsh<|Zac rfl<|Ze8<|Zw9<|Ze8<|Zqc<|Zh2<|Zac rfl ⟨_,rfl,λi hi=>?_,λi l O=>(∀r∈ts.take i,Qar N r)/\l=(ts.take i).map Qae/\∃x,O = [x,.val (.int N)],⟨λe he=>(by simp at he),rfl,_,rfl⟩,?_,?_⟩
 ·rw[Was.mp hi];exact⟨_,rfl⟩
 ·rintro i e l O2 hd ⟨hI,hll,x,rfl⟩
  rw[Waf]at hd;cases hz:ts[i]? with
  |none=>rw[hz]at hd;exact nomatch hd
  |some r=>
  rw[hz]at hd;cases hd;have mem:=Wav hz;have hi:=(Wah.mp hz).1;refine Zb6<|Zkh<|Zab<|Zac rfl<|Zab<|Zac rfl<|Zae ⟨N,r,rfl,hrl r mem,λhg=>?_,λhn=>hX λg=>hn<|g.2.2.2 r mem⟩;refine⟨small1000 (by rw[hll,Waa,Wbj];omega),λy hy=>?_,?_,_,rfl⟩
  ·rw[Wdh,hz]at hy
   rcases Wa1.mp hy with h|h
   ·exact hI y h
   ·rw[Was.mp h];exact hg
  ·rw[Wdh,hz,Wau,hll];rfl
 ·rintro l O2 ⟨hI,hll,_⟩
  rw[Waa,Wcm]at hI hll;subst hll;exact Znf<|Zae<|Zdq (Or.inl rfl)<|Znf<|Zae ⟨Zdw,hG ⟨h0,h1,h2,hI⟩⟩
theorem Zty (mb:Mb mg) (cl:Cl K mg fI c0 c1 c2 c3 c4 c5 c6 c7 c8 c9 c10 c11 c12 c13 c14 c15) (C56:CalleeX P w K mg base 3 "web_of" ["many","ties"] (spX K<|fWeb84 c1)) (F:Fun K "with_web" "with_web" Ya8 f fd):FnOk P w K mg base CX0 4 f fd ["many","ties"] (spD K fWW84):=by
 refine F.ok Ybx (Zbi λds Post h=>by obtain⟨_,_,rfl,_⟩:=h;rfl) λcdv A outer s H vs Q E hr h=>?_;have hu:=Zb1 hr;refine⟨_,(Zah<|Zsz (n:=2) rfl rfl rfl rfl rfl cl.n_NoWeb cl.e_NoWeb (λE pn xe hx=>(Zah<|Zaw<|Zb0<|Zaa (Zsd C56 (hr.mono<|by decide) hx<|Zaa (pv 0)<|Zaa (pv 1) Zad)<|Zaa (Zb0 Zad) Zad)) λa=>(Zah<|Zaw Zdg)),Zdc (λds Post hf=>?_) h⟩;obtain⟨n,ts,rfl,h1,h2,q⟩:=hf;refine⟨by simp,?_⟩;dsimp only[startD,Wbl,Wbn,Wbb,Wad];refine Zsp (λC=>C=c1/\¬ Qat n ts) rfl (λE=>?_) λC hC=>?_
 ·refine Zm8 (Zmk<|Ze8<|Zkh<|Zab<|Zac rfl<|Zab<|Zac rfl<|Zae ⟨n,ts,rfl,h1,h2,λhg=>?_,λhg=>⟨rfl,hg⟩⟩)
  refine Znf<|Zab<|Zb9<|Zae ⟨by decide,Zae ⟨Zdw,?_⟩⟩;unfold Qay at q;rw[Qbw hg]at q;exact q
 ·obtain⟨rfl,hn⟩:=hC
  refine⟨⟨cl.e_NoWeb,cl.mm_NoWeb⟩,Za0<|Zbz ?_⟩;unfold Qay at q;rw[Qbv hn]at q;exact q
end
theorem Qbl:∀c,c<128->figB c=decide (48<=c/\c<=57):=by decide +kernel
theorem Zsf (c e:Nat):decide (sgn c=sgn e)=decide (c=e):=by
 by_cases h:c=e
 ·rw[h,Qbx rfl,Qbx rfl]
 ·rw[Qby h,Qby]
  intro z;have:(sgn c).cps.toList=(sgn e).cps.toList:=by rw[z]
  exact h (by simpa [sgn] using this)
theorem str0:oS "0" = sgn 48:=by decide +kernel
theorem Zbf (x:PySem.Str):x.cps.toList.length=x.length:=by simp[Str.length]
def signB:D->D
 |.str z=>.bl (figB (z.cps.toList.headD 0))
 |d=>d
theorem Zss (cs:List Nat):((cs.map λc=>D.str<|sgn c).filter λ_=>true).map signB=(cs.map figB).map D.bl:=by
 rw[Wbt.mpr (by simp),Wa8,Wa8];rfl
theorem Zrq {cs:List Nat}(h:∀c∈cs,c<128):(cs.map figB).all id=decide (PySem.NumText.AllDigits cs):=by
 rw[Wdy];by_cases a:PySem.NumText.AllDigits cs
 ·rw[Qbx a,Wa4]
  intro c hc;show figB c=true;rw[Qbl c (h c hc)];exact Qbx<|a c hc
 ·rw[Qby a,List.all_eq_false]
  apply Classical.byContradiction;intro hn;refine a λc hc=>Classical.byContradiction λhb=>hn ⟨c,hc,?_⟩;show ¬ figB c=true;rw[Qbl c (h c hc),Qby hb];exact Wao
theorem Qbm {x:PySem.Str}(h:x.cps.all (· < 128)=true):∀c∈x.cps.toList,c<128:=λc hc=>by
 rw[Array.all_eq_true]at h;obtain⟨i,hi,e⟩:=List.getElem_of_mem hc;have:=h i (by simpa using hi);rw[<- e];simpa using this
theorem Ztf {x:PySem.Str}(h:x.cps.toList.head?=some 48):decide (x=oS "0")=decide (x.length=1):=by
 by_cases a:x.length=1
 ·rw[Qbx a]
  refine Qbx<|Zer ?_;rw[str0];cases e:x.cps.toList with
  |nil=>rw[e]at h;exact nomatch h
  |cons c cs=>
   rw[e]at h;have l:=Zbf x;rw[e,Wag]at l;have:cs=[]:=Wcb.mp (by omega);subst this;cases h;rfl
 ·rw[Qby a]
  refine Qby λz=>a ?_;rw[z];decide +kernel
theorem Zf6 {K:W.Frag}{O:Evt}{a b:TT}{x y:Bool}{P:Bool->Evt->Prop}(ha:JT K a O λz O1=>z=x /\ O1 = O) (hb:JT K b O λz O1=>z=y /\ O1 = O) (p:P (x && y) O):JT K (tAnd a b) O P:=
 Zc6 (ha.mono λz O1 ⟨e1,e2⟩=>by
  subst e1 e2;cases z with
  |false=>exact p
  |true=>exact hb.mono λu O3 ⟨e3,e4⟩=>by subst e3 e4;exact p)
def nmI (o:Option Nat):Int:=match o with|some n=>(n:Int)|none=>-1
def fNum84:DSp:=λds Post=>∃x:PySem.Str,ds=[.str x]/\x.cps.all (· < 128)=true/\x.length<=1000/\Post (nnD<|wnum x)
def Qa7:DSp:=λds Post=>∃x:PySem.Str,ds=[.str x]/\x.cps.all (· < 128)=true/\x.length<=1000/\Post (.int<|nmI<|wnum x)
section
variable {P:Program}{w:World}{K:W.Frag}{mg:Str->Option Value}{base:Heap}{f:Addr}{fd:FuncData}
theorem Zrd (mb:Mb mg) {tk tk2:Tok}(g_FIGURES:mg "FIGURES" = some (.str "0123456789" tk)) (g_MOST_FIGURES:mg "MOST_FIGURES" = some (.int 60 tk2)) (F:Fun K "number_written" "number_written" Yaw f fd):FnOk P w K mg base CX0 1 f fd ["word"] (spD K fNum84):=by
 refine F.ok Ybu (Zbi λds Post h=>by obtain⟨_,rfl,_⟩:=h;rfl) λcdv A outer s H vs Q E hr h=>?_;have hu:=Zb1 hr;have hv:=Zeo hr;refine⟨_,(Zaf (Zbg (PW.pt<|pw_or (Zcl<|Zhy Zji Zji Zag (Zai Zc2 rfl (mb "len"<|by decide) Zba<|Zaa (pv 0) Zad)<|Zbl rfl g_MOST_FIGURES (show RelV (.int 60) _ from ⟨_,rfl⟩))<|pw_or1<|Zcl<|truK K (Zai (allK K rfl) rfl (mb "all"<|by decide) Zmp<|Zaa (Zcm ["sign"] (show CompSc (defScope Yaw) ["word"] _ [] [] from ⟨rfl,by decide +kernel,by decide +kernel,by decide +kernel,rfl,by decide +kernel⟩) rfl (Zr9<|pv 0) (λ_ _ _ _ _=>(Za3 (i:=0) (show List.Nodup (["sign"]:List Str) from by decide) rfl<|Or.inl rfl)) (λ_ _ _ _ _=>Zcx) λ_ _ _ _ _=>(Zb3 Zme (pv 0) (Zbl rfl g_FIGURES (show RelV (.str "0123456789") _ from ⟨_,rfl⟩)) rfl)) Zad) λ_=>rfl) (Zah<|Zaw Zdg) Za4)<|Zah<|Zaw<|Zfj (PW.pt<|pw_and (Zaq Zbd (Za5 (ixK K hu) (pv 0) Zag λ_ _=>rfl) Za1<|nomark _)<|pw_and1<|Zaq Zkt (pv 0) Za1<|nomark _) Zdg<|Za2 Zf0 rfl (mb "int"<|by decide) Zgq<|Zaa (pv 0) Zad),Zdc (λds Post hf=>?_) h⟩;obtain⟨x,rfl,hA,hL,q⟩:=hf;refine⟨by simp,?_⟩;dsimp only[startD,Wbl,Wbn,Wbb,Wad];have hsz:x.length<=sizeLine:=Wbm<|small1000 hL;have hll:=Zbf x;have no:¬ wOk x->Post .non:=λh=>by rw[Zhi h]at q;exact q
 refine Zar<|Zbc<|Zeq<|Zb2<|Zap<|Ze9<|Zaj<|Zay<|Zab<|Zac rfl<|Zae<|Zhu hsz<|Zcj ⟨_,rfl,?_⟩;by_cases a1:1<=x.length
 case neg=>
  rw[Qbv (by rw[decide_eq_true_iff];omega)];exact⟨_,rfl,iteT<|Za0<|Zbz (no λh=>a1 h.1)⟩
 rw[Qbw (Qbx<|by omega)];refine Zaj<|Zcj ⟨_,rfl,?_⟩;by_cases a2:x.length<=60
 case neg=>
  rw[Qby (by omega)];exact iteT<|Za0<|Zbz (no λh=>a2 h.2.1)
 rw[Qbx (by omega)];refine iteF<|Zb2<|Zbh<|Zay<|Zab<|Zcc (by decide)<|Zsi<|Zac rfl ⟨_,rfl,hA,?_,λ_=>true,signB,λi d hd=>?_,?_⟩
 ·rw[Waa,hll];exact small1000 hL
 ·rw[Waf]at hd
  cases z:x.cps.toList[i]? with
  |none=>rw[z]at hd;exact nomatch hd
  |some c=>
   rw[z]at hd;cases hd;exact Zcy ⟨rfl,Zak<|Zac rfl<|Zax<|Zvy ⟨rfl,_,rfl⟩⟩
 rw[Zss];refine Zae<|Zok ?_;rw[Zrq (Qbm hA)];refine⟨_,rfl,?_⟩;by_cases a3:PySem.NumText.AllDigits x.cps.toList
 case neg=>
  rw[Qby a3];exact iteT<|Za0<|Zbz (no λh=>a3 h.2.2.1)
 rw[Qbx a3];refine iteF<|Za7 ?_;cases hh:x.cps.toList with
 |nil=>rw[hh]at hll;simp at hll;omega
 |cons c cs=>
  have fin:∀{O:Evt}{Po:D->Evt->Prop},wOk x->Po (nnD<|wnum x) O -> JC K rIntT [.str x] O Po:=λ{O Po} ok p=>by
   rw[Zht ok]at p;exact Zjp (Zjd ok) (by omega) p
  refine Za0<|Zfi<|Zc6<|Zap<|Zak<|Zak<|Zac rfl<|Zaj<|Zjw (c:=c) hsz (by rw[hh];exact Zau (j:=0) rfl)<|Zax<|Zci ⟨_,rfl,?_⟩;have e0:decide (sgn c=oS "0")=decide (c=48):=by rw[str0,Zsf]
  rw[e0];by_cases e:c=48
  ·rw[Qbx e]
   refine iteT<|Zap<|Zak<|Zac rfl<|Zax<|Zuw ⟨_,rfl,?_⟩;have hz:x.cps.toList.head?=some 48:=by rw[hh,e];rfl
   rw[Ztf hz];by_cases a4:x.length=1
   ·rw[Qbx a4]
    exact iteF<|Zay<|Zab<|Zac rfl<|Zae<|fin ⟨a1,a2,a3,λ_=>a4⟩ q
   ·rw[Qby a4]
    exact iteT<|Zbz (no λh=>a4<|h.2.2.2 hz)
  ·rw[Qby e]
   refine iteF<|iteF<|Zay<|Zab<|Zac rfl<|Zae<|fin ⟨a1,a2,a3,λh=>?_⟩ q;rw[hh]at h;cases h;exact absurd rfl e
theorem Zom (mb:Mb mg) (F:Fun K "_law_number_in" "_law_number_in" Ybd f fd):FnOk P w K mg base CX0 1 f fd ["_law_word"] (spD K Qa7):=by
 refine F.ok Ybm (Zbi λds Post h=>by obtain⟨_,rfl,_⟩:=h;rfl) λcdv A outer s H vs Q E hr h=>?_;have hu:=Zb1 hr;have hv:=Zeo hr;refine⟨_,(Zaf (Zbg (PW.pt<|pw_or (Zaq Zbd (pv 0) Za1<|nomark _)<|pw_or (Zaq Zgo (Zai Zc2 rfl (mb "len"<|by decide) Zba<|Zaa (pv 0) Zad) Zag<|nomark _)<|pw_or1<|PW.pt<|pw_and (Zaq Zbd (Za5 (ixK K hu) (pv 0) Zag λ_ _=>rfl) Za1<|nomark _)<|pw_and1<|Zaq Zgo (Zai Zc2 rfl (mb "len"<|by decide) Zba<|Zaa (pv 0) Zad) Zag<|nomark _) (Zah<|Zaw<|Zq6 Zkd Zag) Za4)<|Zaf (Zdu PassesOwn.never rfl (Zr9<|pv 0) (Za3 (i:=1) Ybm.nd rfl<|Or.inl rfl)<|Zah<|Zbg (Zaq Ziv (pv 1) Za1 rfl) (Zah<|Zaw<|Zq6 Zkd Zag) Za4)<|Zah<|Zaw<|Za2 Zf0 rfl (mb "int"<|by decide) Zgq<|Zaa (pv 0) Zad),Zdc (λds Post hf=>?_) h⟩;obtain⟨x,rfl,hA,hL,q⟩:=hf;refine⟨by simp,?_⟩;dsimp only[startD,Wbl,Wbn,Wbb,Wad];have hsz:x.length<=sizeLine:=Wbm<|small1000 hL;have hll:=Zbf x;have no:∀{O:Evt}{nx bk ct:Evt->Prop}{ro:OD->Evt->Prop},¬ wOk x->JS K (tRet<|tUn (rU λi=>.int (-i))<|tC (.int 1)) O ⟨nx,λd _=>Post d,bk,ct,ro⟩:=λ{O _ _ _ _} h=>Za0<|Zp3<|Zaj<|Zju (by rw[Zhi h]at q;exact q);have e00:decide (x=oS "")=decide (x.length=0):=by
  by_cases a:x.length=0
  ·rw[Qbx a]
   refine Qbx<|Zer ?_;rw[Wcb.mp (hll.trans a)];decide +kernel
  ·rw[Qby a]
   refine Qby λz=>a ?_;rw[z];decide +kernel
 refine Zar<|Zbc<|Zeq<|Zap<|Zak<|Zac rfl<|Zax<|Zci ⟨_,rfl,?_⟩;rw[e00];by_cases a1:x.length=0
 ·rw[Qbx a1]
  exact iteT (no λh=>by have:=h.1;omega)
 rw[Qby a1];refine iteF<|Zeq<|Zap<|Zak<|Zay<|Zab<|Zac rfl<|Zae<|Zhu hsz<|Zaj<|Zcj ⟨_,rfl,?_⟩;by_cases a2:x.length<=60
 case neg=>
  rw[Qbx (by omega)];exact iteT (no λh=>a2 h.2.1)
 rw[Qby (by omega)];refine iteF ?_;cases hh:x.cps.toList with
 |nil=>rw[hh]at hll;simp at hll;omega
 |cons c cs=>
 have e0:decide (sgn c=oS "0")=decide (c=48):=by rw[str0,Zsf]
 refine Zf6 (x:=decide (c=48)) (y:=decide (1<x.length)) (Zap<|Zak<|Zak<|Zac rfl<|Zaj<|Zjw (c:=c) hsz (by rw[hh];exact Zau (j:=0) rfl)<|Zax<|Zci ⟨_,rfl,?_,rfl⟩) (Zap<|Zak<|Zay<|Zab<|Zac rfl<|Zae<|Zhu hsz<|Zaj<|Zcj ⟨_,rfl,?_,rfl⟩) ?_
 ·exact e0
 ·exact decide_eq_decide.mpr (by omega)
 have bad:c=48/\1<x.length->¬ wOk x:=λh g=>by
  have:=g.2.2.2 (by rw[hh,h.1];rfl);omega
 by_cases k:c=48/\1<x.length
 ·rw[Qbx k.1,Qbx k.2]
  exact iteT<|no<|bad k
 have kk:(decide (c=48) && decide (1<x.length))=false:=by
  rw[<- Bool.decide_and];exact Qby k
 rw[kk];refine iteF (Za7 ?_);have ok:PySem.NumText.AllDigits x.cps.toList->wOk x:=λg=>⟨by omega,a2,g,λh=>by
  rw[hh]at h;cases h;exact Classical.byContradiction λz=>k ⟨rfl,by omega⟩⟩
 refine Zar<|Zel<|Zsi<|Zac rfl ⟨_,rfl,hA,λi O=>(∀c∈x.cps.toList.take i,48<=c/\c<=57)/\∃y,O = [.val (.str x),y],⟨λe he=>(by simp at he),_,rfl⟩,?_,?_⟩
 ·rintro i d O2 hd ⟨hI,y,rfl⟩
  rw[Waf]at hd;cases hz:x.cps.toList[i]? with
  |none=>rw[hz]at hd;exact nomatch hd
  |some e=>
  rw[hz]at hd;cases hd;have hf:=Qbl e<|Qbm hA e<|Wav hz;refine Zb6<|Zbc<|Zap<|Zak<|Zac rfl<|Zax<|Zt7 ⟨_,rfl,?_⟩;show if (!figB e)=true then _ else _
  rw[hf];by_cases a5:48<=e/\e<=57
  ·rw[Qbx a5]
   refine iteF<|Za7 ⟨λz hz2=>?_,_,rfl⟩;rw[Wdh,hz]at hz2;rcases Wa1.mp hz2 with h|h
   ·exact hI z h
   ·rw[Was.mp h];exact a5
  ·rw[Qby a5]
   exact iteT (no λh=>a5<|h.2.2.1 e<|Wav hz)
 ·rintro O2 ⟨hI,y,rfl⟩
  rw[Waa,Wcm]at hI;have o:=ok hI;rw[Zht o]at q;exact Za0<|Zay<|Zab<|Zac rfl<|Zae<|Zjp (Zjd o) (by omega) q
end
def Qbk (t:Int × Int):List Int:=[t.1,t.2]
theorem Zkb (ts:Qb1):ts.map Qak=(ts.map Qbk).map Qae:=by rw[Wa8];rfl
theorem Zh8 {s:St84}{p:Nat}{r:List Nat}(h:r≠[]/\s.o.length<=p/\Qam s.ts (2*s.ts.length) (p:Int) (Qab r)):Qa3 s (p::r)=some ⟨s.n,s.ts,s.o++Wad (p-s.o.length) []++[Qab r]⟩:=by
 unfold Qa3;exact Qbw h
theorem Zfg {s:St84}{p:Nat}{r:List Nat}(h:¬ (r≠[]/\s.o.length<=p/\Qam s.ts (2*s.ts.length) (p:Int) (Qab r))):Qa3 s (p::r)=none:=by
 unfold Qa3;exact Qbv h
def fPl84:DSp:=λds Post=>∃ns:List Nat,ds=[.lst ((Qab ns).map .int)]/\Post (stO<|Qaq ns)
def fWT84:DSp:=λds Post=>∃(s:St84) (ns:List Nat),ds=[Qah s.n s.ts,.lst ((Qab ns).map .int)]/\StOk s/\ns.length<=60/\Post (stO<|tieF s ns)
def fWE84:DSp:=λds Post=>∃(s:St84) (ns:List Nat),ds=[Qah s.n s.ts,Qan s.o,.lst ((Qab ns).map .int)]/\StOk s/\ns.length<=60/\Post (stO<|Qa3 s ns)
theorem place84 (ns:List Nat):stO (Qaq ns)=if ns.length=1 then Qay ((ns.headD 0:Nat):Int) [] else .non:=by
 unfold Qaq Qay
 match ns with
 |[]=>rfl
 |[n]=>
  dsimp only;rw[Qbw (show [n].length=1 from rfl)];by_cases h:1<=n/\n<=25
  ·rw[Qbw h,Qbw ⟨by show (1:Int)<=(n:Int);omega,by show (n:Int)<=25;omega,Wbu _,λr hr=>nomatch hr⟩];rfl
  ·rw[Qbv h,Qbv λg=>h ⟨by have:(1:Int)<=(n:Int):=g.1;omega,by have:(n:Int)<=25:=g.2.1;omega⟩];rfl
 |a::b::r=>
  dsimp only;rw[Qbv (show ¬ (a::b::r).length=1 by simp)];rfl
theorem tie84 {s:St84}(h:StOk s) (ns:List Nat):stO (tieF s ns)=Qay s.n (s.ts.map Qbk++[Qab ns]):=by
 have hw:=h.web;have old:∀r∈s.ts.map Qbk,Qar s.n r:=λr hr=>by
  obtain⟨t,ht,rfl⟩:=Wa2.mp hr;obtain⟨a,b,c,d⟩:=hw.tie t ht;refine⟨rfl,λz hz=>?_⟩;rcases Wai.mp hz with rfl|hz
  ·exact⟨a,b⟩
  ·rw[Was.mp hz];exact⟨c,d⟩
 have no:(¬ ∃a b:Nat,ns=[a,b]/\s.ts.length<24/\(a:Int)<s.n/\(b:Int)<s.n)->¬ Qat s.n (s.ts.map Qbk++[Qab ns]):=λhn g=>by
  obtain⟨g1,g2,g3,g4⟩:=g;obtain⟨h1,h2⟩:=g4 (Qab ns)<|Wa0 _ Wat;unfold Qab at h1 h2;rw[Waa]at h1;rw[Wal,Waa,Wbo]at g3
  match ns,h1 with
  |[a,b],_=>exact hn ⟨a,b,rfl,by omega,(h2 (a:Int) (by simp)).2,(h2 (b:Int) (by simp)).2⟩
 unfold tieF;split
 ·rename_i a b
  by_cases hc:s.ts.length<24/\(a:Int)<s.n/\(b:Int)<s.n
  ·rw[Qbw hc]
   unfold Qay;rw[Qbw]
   ·show stD ⟨s.n,s.ts++[((a:Int),(b:Int))],[]⟩=_
    unfold stD Qah Qan;dsimp only;rw[Zkb,Wau];rfl
   ·refine⟨hw.lo,hw.hi,by rw[Wal,Waa,Wbo];omega,λr hr=>?_⟩
    rcases Wa1.mp hr with hr|hr
    ·exact old r hr
    ·rw[Was.mp hr]
     refine⟨rfl,λz hz=>?_⟩;rcases Wai.mp hz with rfl|hz
     ·exact⟨Wc6 _,hc.2.1⟩
     ·rw[Was.mp hz];exact⟨Wc6 _,hc.2.2⟩
  ·rw[Qbv hc]
   unfold Qay;rw[Qbv (no λ⟨x,y,e,z⟩=>by cases e;exact hc z)];rfl
 ·rename_i hn
  unfold Qay;rw[Qbv (no λ⟨x,y,e,z⟩=>hn x y e)];rfl
theorem Zn8 {ts:Qb1}{m:Nat}{p x y:Int}{r ms:List Int}(h1:ms.Perm (x::r)) (h2:ms.Pairwise (· <= ·)) (hy:y∈x::r) (hm:∀a∈x::r,y<=a):Qam ts m p (x::r)↔ms=Qaa ts m p/\x=y:=by
 constructor
 ·intro h
  refine⟨Zmt h h1 h2,?_⟩;have:=Zn3 h y hy;have:=hm x Wat;omega
 ·rintro⟨e,rfl⟩
  refine⟨by rw[<- e];exact h1.symm,?_⟩;rw[<- e];cases ms with
  |nil=>exact absurd h1.length_eq (by simp)
  |cons z l=>
   show some x=some z;have a:=hm z<|h1.mem_iff.mp Wat;have b:z<=x:=by
    rcases Wai.mp (h1.mem_iff.mpr hy) with rfl|hx
    ·exact Wcq _
    ·exact(List.pairwise_cons.mp h2).1 x hx
   congr 1;omega
section
variable {P:Program}{w:World}{K:W.Frag}{mg:Str->Option Value}{base:Heap}{f:Addr}{fd:FuncData}
theorem Zti (mb:Mb mg) (C60:Callee P w K mg base 4 "with_web" ["many","ties"] (spD K fWW84)) (F:Fun K "with_places" "with_places" Ya6 f fd):FnOk P w K mg base CX0 5 f fd ["numbers"] (spD K fPl84):=by
 refine F.ok Ybv (Zbi λds Post h=>by obtain⟨_,rfl,_⟩:=h;rfl) λcdv A outer s H vs Q E hr h=>?_;have hu:=Zb1 hr;refine⟨_,(Zah<|Zaw<|Zfj (Zaq Zbd (Zai (lenK K) rfl (mb "len"<|by decide) Zba<|Zaa (pv 0) Zad) Zag<|nomark _) (Za9 C60 (hr.mono<|by decide)<|Zaa (Za5 (ixK K hu) (pv 0) Zag λ_ _=>rfl)<|Zaa (Zb0 Zad) Zad) Zdg),Zdc (λds Post hf=>?_) h⟩;obtain⟨ns,rfl,q⟩:=hf;refine⟨by simp,?_⟩;dsimp only[startD,Wbl,Wbn,Wbb,Wad];rw[place84]at q;refine Za0<|Zfi<|Zap<|Zak<|Zay<|Zab<|Zac rfl<|Zae<|Zbe (Or.inl rfl)<|Zaj<|Zdv ⟨_,rfl,?_⟩;have hl:((Qab ns).map D.int).length=ns.length:=by unfold Qab;rw[Waa,Waa]
 rw[hl];by_cases h1:ns.length=1
 case neg=>
  rw[Qby (by omega)];rw[Qbv h1]at q;exact iteF<|Zbz q
 rw[Qbx (by omega)];rw[Qbw h1]at q;refine iteT ?_
 match ns,h1 with
 |[n],_=>exact Za8 (Zab (Zak (Zac rfl (Zaj (Zaz (d:=.int (n:Int)) rfl (Zab (Zb9 (Zae ⟨by decide,Zae ⟨(n:Int),[],rfl,by decide,λr h=>(nomatch h),q⟩⟩))))))))
theorem Zux (mb:Mb mg) (C60:Callee P w K mg base 4 "with_web" ["many","ties"] (spD K fWW84)) (F:Fun K "with_tie" "with_tie" Ya7 f fd):FnOk P w K mg base CX0 5 f fd ["web","numbers"] (spD K fWT84):=by
 refine F.ok Ybw (Zbi λds Post h=>by obtain⟨_,_,rfl,_⟩:=h;rfl) λcdv A outer s H vs Q E hr h=>?_;have hu:=Zb1 hr;refine⟨_,(Zah<|Zaw<|Za9 C60 (hr.mono<|by decide)<|Zaa (Za5 (ixK K hu) (pv 0) Zag λ_ _=>rfl)<|Zaa (Zav (addK K) (Za5 (ixK K hu) (pv 0) Zag λ_ _=>rfl)<|Zb0<|Zaa (Za2 (tupK K) rfl (mb "tuple"<|by decide) Zbt<|Zaa (pv 1) Zad) Zad) Zad),Zdc (λds Post hf=>?_) h⟩;obtain⟨s,ns,rfl,hS,hl,q⟩:=hf;refine⟨by simp,?_⟩;dsimp only[startD,Wbl,Wbn,Wbb,Wad];have h3:=hS.web.len;rw[tie84 hS]at q;refine Za0<|Za8<|Zab<|Zak<|Zac rfl<|Zaj<|Zbv (d:=.int s.n) rfl<|Zab<|Zak<|Zak<|Zac rfl<|Zaj<|Zbv (d:=.tup<|s.ts.map Qak) rfl<|Zb9<|Zab<|Zay<|Zab<|Zac rfl<|Zae<|Zdq (Or.inl rfl)<|Zae ⟨by show 1<=sizeLine;decide,Zhc ?_<|Zae ⟨s.n,s.ts.map Qbk++[Qab ns],?_,?_,λr hr=>?_,q⟩⟩
 ·rw[Waa];exact Wbm<|small1000 (by simp;omega)
 ·rw[Wau,Zkb];rfl
 ·rw[Wal,Waa,Wbo];omega
 ·rcases Wa1.mp hr with hr|hr
  ·obtain⟨t,_,rfl⟩:=Wa2.mp hr
   show 2<=100;decide
  ·rw[Was.mp hr];unfold Qab;rw[Waa];omega
theorem Zuo (mb:Mb mg) (C48:Callee P w K mg base 2 "ends_at" ["web","place"] (spN K fEnds)) (F:Fun K "with_ends" "with_ends" Ya9 f fd):FnOk P w K mg base CX0 3 f fd ["web","standing","numbers"] (spD K fWE84):=by
 refine F.ok Ybk (Zbi λds Post h=>by obtain⟨_,_,rfl,_⟩:=h;rfl) λcdv A outer s H vs Q E hr h=>?_;have hu:=Zb1 hr;have hv:=Zeo hr;refine⟨_,(Zaf (Zbg (PW.pt<|pw_or (Zaq Zhz (Zai (lenK K) rfl (mb "len"<|by decide) Zba<|Zaa (pv 2) Zad) Zag<|nomark _)<|pw_or1<|Zaq Zhz (Za5 (ixK K hu) (pv 2) Zag λ_ _=>rfl) (Zai (lenK K) rfl (mb "len"<|by decide) Zba<|Zaa (pv 1) Zad)<|nomark _) (Zah<|Zaw Zdg) Za4)<|Zaf (Zas (i:=3) Ybk.nd rfl (Or.inl rfl)<|Za5 (ixK K hu) (pv 2) Zag λ_ _=>rfl)<|Zaf (Zas (i:=4) Ybk.nd rfl (Or.inl rfl)<|Za2 (tupK K) rfl (mb "tuple"<|by decide) Zbt<|Zaa (Zbs (slK K) (pv 2) (Zb8 Zag) Zck) Zad)<|Zaf (Zbg (PW.pt<|pw_or (Zaq (neILK K hv) (Zai (sortTK K) rfl (mb "sorted"<|by decide) Zf5<|Zaa (pv 4) Zad) (Za9 C48 (hr.mono<|by decide)<|Zaa (pv 0)<|Zaa (pv 3) Zad)<|nomark _)<|pw_or1<|Zaq Zkt (Za5 (ixK K hu) (pv 4) Zag λ_ _=>rfl) (Zai (minK K rfl) rfl (mb "min"<|by decide) Zn9<|Zaa (pv 4) Zad)<|nomark _) (Zah<|Zaw Zdg) Za4)<|Zah<|Zaw<|Zb0<|Zaa (pv 0)<|Zaa (Zav (addK K) (Zav (addK K) (pv 1)<|Zav (Zm5 K) (Zb0<|Zaa (Zb0 Zad) Zad)<|Zav Zka (pv 3)<|Zai (lenK K) rfl (mb "len"<|by decide) Zba<|Zaa (pv 1) Zad)<|Zb0<|Zaa (pv 4) Zad) Zad),Zdc (λds Post hf=>?_) h⟩;obtain⟨s,ns,rfl,hS,hl,q⟩:=hf;refine⟨by simp,?_⟩;dsimp only[startD,Wbl,Wbn,Wbb,Wad];have h3:=hS.web.len;have hw:=hS.web;have ol:=hS.ol;have n2:=hw.hi;have el:((Qab ns).map D.int).length=ns.length:=by unfold Qab;rw[Waa,Waa]
 refine Zar<|Zbc<|Zeq<|Zap<|Zak<|Zay<|Zab<|Zac rfl<|Zae<|Zbe (Or.inl rfl)<|Zaj<|Zcj ⟨_,rfl,?_⟩;rw[el];by_cases h2:ns.length<2
 ·rw[Qbx (by omega)]
  refine iteT<|Za0<|Zbz ?_
  match ns,h2 with
  |[],_=>exact q
  |[p],_=>
   rw[Zfg (λg=>g.1 rfl)]at q;exact q
 rw[Qby (by omega)]
 match ns,h2 with
 |[],h=>exact absurd h (by simp)
 |[_],h=>exact absurd h (by simp)
 |p::a::r,_=>
 rw[Wag,Wag]at hl;refine iteF<|Zap<|Zak<|Zak<|Zac rfl<|Zaj<|Zaz (d:=.int (p:Int)) (Zau (j:=0) rfl)<|Zay<|Zab<|Zac rfl<|Zae<|Zbe (Or.inr rfl)<|Zcj ⟨_,rfl,?_⟩;rw[Waa];by_cases h4:p<s.o.length
 ·rw[Qbx (by omega)]
  refine iteT<|Za0<|Zbz ?_;rw[Zfg (λg=>by have:=g.2.1;omega)]at q;exact q
 rw[Qby (by omega)];refine iteF<|Za7 ?_;refine Zar<|Zat<|Zak<|Zac rfl<|Zaj<|Zaz (d:=.int (p:Int)) (Zau (j:=0) rfl) ?_;have c1:cutD ((Qab (p::a::r)).map D.int) (some 1) none=(Qab (a::r)).map D.int:=(Zdm _ (j:=1) (by simp[Qab])).trans rfl;refine Zar<|Zat<|Zay<|Zab<|Zfn<|Zac rfl<|Zca<|Zaj ⟨_,rfl,Zcg ⟨.lst ((Qab (a::r)).map D.int),by show some (D.lst _)=_;rw[<- c1],Zae<|Zdq (Or.inl rfl) ?_⟩⟩;have il:(Qab (a::r)).length=r.length+1:=by unfold Qab;rw[Waa,Wag]
 obtain⟨y,hy,hm⟩:=Zkn (Qab (a::r)) (by unfold Qab;simp);refine Zar<|Zbc<|Zeq<|Zap<|Zak<|Zbo<|Zj9<|Zab<|Zac rfl<|Zae ⟨Qab (a::r),rfl,by omega,λms m1 m2=>⟨_,rfl,?_⟩⟩;have key:Qam s.ts (2*s.ts.length) (p:Int) (Qab (a::r))↔ms=Qaa s.ts (2*s.ts.length) (p:Int)/\(a:Int)=y:=Zn8 (r:=Qab r) m1 m2 hy hm;have no:¬ Qam s.ts (2*s.ts.length) (p:Int) (Qab (a::r))->Post .non:=λhn=>by
  rw[Zfg (λg=>hn g.2.2)]at q;exact q
 refine Zbo<|Zjv<|Zab<|Zac rfl<|Zab<|Zac rfl<|Zae ⟨s.n,s.ts,_,rfl,h3,_,rfl,Zsx ⟨_,rfl,?_⟩⟩;by_cases h5:ms=Qaa s.ts (2*s.ts.length) (p:Int)
 case neg=>
  rw[Qby h5];exact iteT<|Za0<|Zbz (no λg=>h5 (key.mp g).1)
 rw[Qbx h5];refine iteF<|Zap<|Zak<|Zak<|Zac rfl<|Zaj<|Zbv (d:=.int (a:Int)) (Zau (j:=0) rfl)<|Zay<|Zab<|Zac rfl<|Zae<|Zs9 (ns:=Qab (a::r)) (m:=y) (Or.inr rfl) hy hm<|Zqv ⟨_,rfl,?_⟩;by_cases h6:(a:Int)=y
 case neg=>
  rw[Qby h6];exact iteT<|Za0<|Zbz (no λg=>h6 (key.mp g).2)
 rw[Qbx h6];refine iteF<|Za7 ?_;have hR:=key.mpr ⟨h5,h6⟩;have hp:(p:Int)<s.n:=Zfm hw.tie hR (by unfold Qab;simp);rw[Zh8 ⟨by simp,by omega,hR⟩]at q;refine Za0<|Zb9<|Zab<|Zac rfl<|Zab<|Zak<|Zak<|Zac rfl<|Zak<|Zb9<|Zab<|Zb9<|Zae ⟨by decide,Zae ⟨by show 1<=sizeLine;decide,?_⟩⟩;refine Zak<|Zac rfl<|Zay<|Zab<|Zac rfl<|Zae<|Zbe (Or.inr rfl)<|Zn6<|Zol ?_ ?_<|Zhc ?_<|Zb9<|Zab<|Zac rfl<|Zae ⟨by show 1<=sizeLine;decide,Zhc ?_<|Zae ⟨Zdw,?_⟩⟩
 all_goals rw[Waa]
 ·omega
 ·omega
 ·rw[Wa5];exact Wbm (small1000<|by omega)
 ·rw[Wal,Waa,Wa5];exact Wbm<|small1000 (by rw[Wbo];omega)
 ·have e:((p:Int)-(s.o.length:Int)).toNat=p-s.o.length:=by omega
  rw[e];unfold stO stD Qan at q;dsimp only at q;rw[Wau,Wau,Wdq]at q;exact q
end
theorem sp32:oS " " = ⟨#[32]⟩:=by decide +kernel
theorem nl10:oS "\n" = ⟨#[10]⟩:=by decide +kernel
theorem Zfl (r:PySem.Str):Qad r≠[]:=by
 have:=PyProof.Rows.split_pos r<|oS " ";intro z;unfold Qad at z;rw[z]at this;exact absurd this (by decide)
theorem Zho (r:PySem.Str):Qaf r≠[]:=by
 have:=PyProof.Rows.split_pos r<|oS "\n";intro z;unfold Qaf at z;rw[z]at this;exact absurd this (by decide)
theorem Zox {c x:Nat}:∀{zs:List PySem.Str}{z:PySem.Str},z∈zs->x∈z.cps.toList->x∈(Str.join ⟨#[c]⟩ zs).cps.toList
 |[],_,h,_=>nomatch h
 |y::zs,z,h,hx=>by
  rw[Zbm];rcases Wai.mp h with rfl|h
  ·exact Wb8 _ hx
  ·refine Wa0 _ ?_
   cases zs with
   |nil=>exact nomatch h
   |cons a r=>exact Wap _ (Zox h hx)
theorem Znx {c:Nat}:∀{zs:List PySem.Str}{z:PySem.Str},z∈zs->z.length<=(Str.join ⟨#[c]⟩ zs).length
 |[],_,h=>nomatch h
 |y::zs,z,h=>by
  have l:=Zbf<|Str.join ⟨#[c]⟩ (y::zs);rw[Zbm,Wal,Zbf]at l;rcases Wai.mp h with rfl|h
  ·omega
  ·cases zs with
   |nil=>exact nomatch h
   |cons a r=>
    have:=Znx (c:=c) h;have l2:(Qbf c (a::r)).length=(Str.join ⟨#[c]⟩ (a::r)).length+1:=by show (c::_).length=_;rw[Wag,Zbf]
    omega
theorem Ztq {r z:PySem.Str}(h:z∈Qad r) {x:Nat}(hx:x∈z.cps.toList):x∈r.cps.toList:=by
 have e:Str.join ⟨#[32]⟩ (Qad r)=r:=by unfold Qad;rw[sp32];exact StrLaws.join_split _ _
 have:=Zox (c:=32) h hx
 rwa [e]at this
theorem Zs5 {r z:PySem.Str}(h:z∈Qad r):z.length<=r.length:=by
 have e:Str.join ⟨#[32]⟩ (Qad r)=r:=by unfold Qad;rw[sp32];exact StrLaws.join_split _ _
 have:=Znx (c:=32) h
 rwa [e]at this
theorem Zwe {x y:PySem.Str}(h:y.cps.all (· < 128)=true) (hs:∀c∈x.cps.toList,c∈y.cps.toList):x.cps.all (· < 128)=true:=by
 rw[Array.all_eq_true];intro i hi;exact Qbx (Qbm h _<|hs _ (by simp))
structure RowB (r:PySem.Str):Prop where
 asc:r.cps.all (· < 128)=true
 len:r.length<=1000
 wds:(Qad r).length<=60
theorem RowB.word {r z:PySem.Str}(h:RowB r) (hz:z∈Qad r):z.cps.all (· < 128)=true/\z.length<=1000:=⟨Zwe h.asc λ_ hc=>Ztq hz hc,Way (Zs5 hz) h.len⟩
def numD84:D->D
 |.str z=>nnD (wnum z)
 |d=>d
theorem Zve (ws:List PySem.Str):((ws.map D.str).filter λ_=>true).map numD84=(ws.map wnum).map nnD:=by
 rw[Wbt.mpr (by simp),Wa8,Wa8];rfl
theorem Zv7 (ns:List Nat):(ns.map some).map nnD=(Qab ns).map D.int:=by
 unfold Qab;rw[Wa8,Wa8];rfl
theorem Zgy (w:PySem.Str) (ns:List Nat):rowF none w ns=if w=oS "places" then Qaq ns else none:=by
 unfold rowF;dsimp only
theorem Zf8 (s:St84) (w:PySem.Str) (ns:List Nat):rowF (some s) w ns=if w=oS "tie" /\ s.o=[] then tieF s ns else if w=oS "at" then Qa3 s ns else none:=by
 unfold rowF;dsimp only
def Qbe:DSp:=λds Post=>∃(st:Option St84) (r:PySem.Str),ds=[stO st,.str r]/\StO st/\RowB r/\Post (stO<|Qao st r)
section
variable {P:Program}{w:World}{K:W.Frag}{mg:Str->Option Value}{base:Heap}{f:Addr}{fd:FuncData}
theorem Zlx (mb:Mb mg) (C52:Callee P w K mg base 1 "number_written" ["word"] (spD K fNum84)) (C58:Callee P w K mg base 5 "with_places" ["numbers"] (spD K fPl84)) (C59:Callee P w K mg base 5 "with_tie" ["web","numbers"] (spD K fWT84)) (C57:Callee P w K mg base 3 "with_ends" ["web","standing","numbers"] (spD K fWE84)) (F:Fun K "floor_with" "floor_with" Yav f fd):FnOk P w K mg base CX0 6 f fd ["floor","row"] (spD K Qbe):=by
 refine F.ok Yap (Zbi λds Post h=>by obtain⟨_,_,rfl,_⟩:=h;rfl) λcdv A outer s H vs Q E hr h=>?_;have hu:=Zb1 hr;have hv:=Zeo hr;refine⟨_,(Zaf (Zas (i:=2) Yap.nd rfl (Or.inl rfl)<|bmK K PySem.F.plainAttrs_str PySem.F.slot_str_split PySem.F.type_str_split (splitK K) (pv 1)<|Zaa Za1 Zad)<|Zaf (Zef (i:=3) ["word"] (show CompSc (defScope Yav) ["floor","row","words","numbers","web","standing"] _ [] [] from ⟨rfl,by decide +kernel,by decide +kernel,by decide +kernel,rfl,by decide +kernel⟩) rfl Yap.nd rfl (Or.inl rfl) (seqK K<|Zbs (slK K) (pv 2) (Zb8 Zag) Zck) (λ_ _ _ _ _=>(Za3 (i:=0) (show List.Nodup (["word"]:List Str) from by decide) rfl<|Or.inl rfl)) (λ_ _ _ _ _=>Zcx) λ_ _ _ _ _=>(Za9 C52 (hr.mono<|by decide)<|Zaa (pv 0) Zad))<|Zaf (Zbg (Zaq (inK K hu) Zdg (pv 3) rfl) (Zah<|Zaw Zdg) Za4)<|Zaf (Zbg (Zaq Zsb (pv 0) Zdg<|nomark _) (Zah<|Zaw<|Zfj (Zaq Zbd (Za5 (ixK K hu) (pv 2) Zag λ_ _=>rfl) Za1<|nomark _) (Za9 C58 (hr.mono<|by decide)<|Zaa (pv 3) Zad) Zdg) Za4)<|Zaf (Ze3 (pv 0)<|gtupK (n:=2) K rfl<|Zbn (Za3 (i:=4) Yap.nd rfl<|Or.inl rfl)<|Zbn (Za3 (i:=5) Yap.nd rfl<|Or.inl rfl) Zd9)<|Zaf (Zbg (PW.pt<|pw_and (Zaq Zbd (Za5 (ixK K hu) (pv 2) Zag λ_ _=>rfl) Za1<|nomark _)<|pw_and1<|Zcl<|truK K (pv 5) λ_=>rfl) (Zah<|Zaw<|Za9 C59 (hr.mono<|by decide)<|Zaa (pv 4)<|Zaa (pv 3) Zad) Za4)<|Zah<|Zaw<|Zfj (Zaq Zbd (Za5 (ixK K hu) (pv 2) Zag λ_ _=>rfl) Za1<|nomark _) (Za9 C57 (hr.mono<|by decide)<|Zaa (pv 4)<|Zaa (pv 5)<|Zaa (pv 3) Zad) Zdg),Zdc (λds Post hf=>?_) h⟩;obtain⟨st,r,rfl,hS,hB,q⟩:=hf;refine⟨by simp,?_⟩;dsimp only[startD,Wbl,Wbn,Wbb,Wad];have hz2:r.length+2<=sizeLine:=Way (Wbw hB.len 2) (by decide);have hwl:=hB.wds;have hwd:∀z∈Qad r,z.cps.all (· < 128)=true/\z.length<=1000:=λz hz=>hB.word hz;refine Zar<|Zat<|Zbo<|Zc0<|Zac rfl ⟨_,rfl,Zax ⟨_,rfl,by decide,hz2,_,rfl,?_⟩⟩;show JS K _ (_::_::Slot.val (.lst ((Qad r).map D.str))::_) _;have hne:=Zfl r;cases hw:Qad r with
 |nil=>exact absurd hw hne
 |cons wd ws=>
 rw[hw]at hwl hwd;rw[Wag]at hwl;rw[Zcn hw]at q;have c1:cutD ((wd::ws).map D.str) (some 1) none=ws.map D.str:=(Zdm _ (j:=1)<|by simp).trans rfl;refine Zar<|Zat<|Zcc (by decide)<|Zgk<|Zfn<|Zac rfl<|Zca<|Zaj ⟨_,rfl,Zcg ⟨.lst<|ws.map D.str,by show some (D.lst _)=_;rw[c1],_,Or.inl rfl,?_,λ_=>true,numD84,λi d hd=>?_,?_⟩⟩
 ·rw[Waa];exact small1000 (by omega)
 ·rw[Waf]at hd
  cases z:ws[i]? with
  |none=>rw[z]at hd;exact nomatch hd
  |some m=>
   rw[z]at hd;cases hd;obtain⟨a,b⟩:=hwd m<|Wap _<|Wav z;exact Zcy ⟨rfl,Za8<|Zab<|Zac rfl<|Zae ⟨m,rfl,a,b,rfl,_,rfl⟩⟩
 rw[Zve];refine Zar<|Zbc<|Zap<|Zak<|Zbz<|Zac rfl<|Zul ⟨_,rfl,?_⟩;by_cases hN:none∈ws.map wnum
 ·rw[Qbx hN]
  rw[Qbw hN]at q;exact iteT<|Za0<|Zbz q
 rw[Qby hN];rw[Qbv hN]at q;refine iteF<|Za7 ?_;rw[Zos hN,Zv7];have nl:(Qag ws).length<=60:=by unfold Qag;rw[Waa];omega
 generalize Qag ws=ns at q nl ⊢;cases st with
 |none=>
  rw[Zgy]at q;refine Zar<|Zbc<|Zap<|Zak<|Zac rfl<|Zbz<|Zsj ⟨_,rfl,iteT ?_⟩;refine Za0<|Zfi<|Zap<|Zak<|Zak<|Zac rfl<|Zaj<|Zaz (d:=.str wd) (Zau (j:=0) rfl)<|Zax<|Zci ⟨_,rfl,?_⟩;by_cases h1:wd=oS "places"
  ·rw[Qbx h1]
   rw[Qbw h1]at q;exact iteT<|Za8<|Zab<|Zac rfl<|Zae ⟨ns,rfl,q⟩
  ·rw[Qby h1]
   rw[Qbv h1]at q;exact iteF<|Zbz q
 |some s=>
  have hs:=hS s rfl;rw[Zf8]at q;refine Zar<|Zbc<|Zap<|Zak<|Zac rfl<|Zbz<|Zo9 ⟨_,rfl,iteF<|Za7 ?_⟩;refine Zar<|Zm3<|Zac rfl<|Zis rfl<|Zcd<|Zb6<|Zcd<|Zb6<|Zfy ?_;have ht:truD (Qan s.o)=some (!decide (s.o=[])):=by
   show some (!(s.o.map Qae).isEmpty)=_;cases s.o <;> rfl
  refine Zar<|Zbc<|Zf6 (x:=decide (wd=oS "tie")) (y:=decide (s.o=[])) (Zap<|Zak<|Zak<|Zac rfl<|Zaj<|Zaz (d:=.str wd) (Zau (j:=0) rfl)<|Zax<|Zci ⟨_,rfl,rfl,rfl⟩) (Zb2<|Zbh<|Zac rfl ⟨_,ht,Bool.not_not _,rfl⟩) ?_;by_cases h1:wd=oS "tie" /\ s.o=[]
  ·rw[Qbx h1.1,Qbx h1.2]
   rw[Qbw h1]at q;exact iteT<|Za0<|Za8<|Zab<|Zac rfl<|Zab<|Zac rfl<|Zae ⟨s,ns,rfl,hs,nl,q⟩
  ·have kk:(decide (wd=oS "tie") && decide (s.o=[]))=false:=by
    rw[<- Bool.decide_and];exact Qby h1
   rw[kk];rw[Qbv h1]at q;refine iteF<|Za7 ?_;refine Za0<|Zfi<|Zap<|Zak<|Zak<|Zac rfl<|Zaj<|Zaz (d:=.str wd) (Zau (j:=0) rfl)<|Zax<|Zci ⟨_,rfl,?_⟩;by_cases h2:wd=oS "at"
   ·rw[Qbx h2]
    rw[Qbw h2]at q;exact iteT<|Za8<|Zab<|Zac rfl<|Zab<|Zac rfl<|Zab<|Zac rfl<|Zae ⟨s,ns,rfl,hs,nl,q⟩
   ·rw[Qby h2]
    rw[Qbv h2]at q;exact iteF<|Zbz q
def lstI (r:List Int):D:=.lst<|r.map .int
theorem eqL {α:Type}[DecidableEq α] (f:α -> D) (n:Nat) (h:∀x y,eqF n (f x) (f y)=decide (x=y)):∀a b:List α,((a.map f).length == (b.map f).length && ((a.map f).zip (b.map f)).all λp=>eqF n p.1 p.2)=decide (a=b)
 |[],[]=>rfl
 |[],y::b=>by rw[Qby (by simp)];rfl
 |x::a,[]=>by rw[Qby (by simp)];rfl
 |x::a,y::b=>by
  have ih:=eqL f n h a b;rw[Wa3,Wa3,Wag,Wag,Wc3,Wc0,h];have e:((a.map f).length+1 == (b.map f).length+1)=((a.map f).length == (b.map f).length):=by
   rw[Wcg,beq_iff_eq,beq_iff_eq];omega
  rw[e];by_cases c:x=y
  ·rw[Qbx c,Wdu,ih]
   by_cases c2:a=b
   ·rw[Qbx c2,Qbx (by rw[c,c2])]
   ·rw[Qby c2,Qby (λz=>c2 (List.cons.inj z).2)]
  ·rw[Qby c,Wdi,Bool.and_false,Qby (λz=>c (List.cons.inj z).1)]
theorem Zhv (a b:List Int):eqF 2 (lstI a) (lstI b)=decide (a=b):=eqL D.int 1 (λx y=>by show (x == y)=_;exact Wdg x y) a b
theorem Zew (a:List Int):Dp 2 (lstI a):=λd hd=>by
 obtain⟨x,_,rfl⟩:=Wa2.mp hd
 trivial
end
def Qbg (c xa:Addr):DSp:=λds Post=>∃i:Int,ds=[.excR xa c i]/\Post (.lst [.int 12])
theorem Zhm:1<=sizeLine:=by decide
theorem Zcv {K:W.Frag}{O:Evt}{Pd:List D->Evt->Prop}{j:Nat}{a C c fI:Addr}{i:Int}{b:Bool}{tr:TA}(hx:O[j]?=some (.val (.excR a C i))) (Z_:ExcIR K C fI) (e:PySem.W.kitOne K (.ref C) (.ref c)=some b) (h:JA K tr O λds O2=>Pd (.bl b::ds) O2) :
  JA K (tCons (tCB (rIsiR K)<|tCons (tVar j)<|tCons (tC (.ref c)) tNil) tr) O Pd:=Zab<|Zay<|Zab<|Zac hx<|Zab<|Zwm<|Zae<|Zte Z_ e h
def fnd85:List D:=[.bl false,.bl false,.bl false,.bl false,.bl false,.bl false,.bl false,.bl false,.bl false,.bl false,.bl false,.bl false,.bl true,.bl false,.bl false]
def is12:D->Bool
 |.int i=>decide (i=12)
 |_=>false
theorem Zvx {j:Nat}(h:j<15):atI fnd85 (0+(j:Int))=some (.bl<|is12 (.int (0+(j:Int)))):=by
 have:j=0\/j=1\/j=2\/j=3\/j=4\/j=5\/j=6\/j=7\/j=8\/j=9\/j=10\/j=11\/j=12\/j=13\/j=14:=by omega
 rcases this with rfl|rfl|rfl|rfl|rfl|rfl|rfl|rfl|rfl|rfl|rfl|rfl|rfl|rfl|rfl <;> rfl
section
variable {P:Program}{w:World}{K:W.Frag}{mg:Str->Option Value}{base:Heap}{f fI:Addr}{fd:FuncData}{c0 c1 c2 c3 c4 c5 c6 c7 c8 c9 c10 c11 c12 c13 c14 c15:Addr}
theorem Zt8 (mb:Mb mg) (F:Fun K "__init__" "NoText.__init__" Yam f fd):FnOk P w K mg base CX0 1 f fd ["self","row"] (spI K "row"):=by
 refine F.ok Yb1 (λvs H Q E h=>by obtain⟨_,_,_,_,rfl,_⟩:=h;rfl) λcdv A outer s H vs Q E hr h=>?_;refine⟨_,Zah<|Zwk rfl (pv 0) (pv 1) rfl,?_⟩;obtain⟨a,C,g,y,rfl,ha,z,q⟩:=h;exact⟨y,rfl,.ref a,rfl,a,C,g,rfl,ha,z,q⟩
theorem Zn0 (mb:Mb mg) (cl:Cl K mg fI c0 c1 c2 c3 c4 c5 c6 c7 c8 c9 c10 c11 c12 c13 c14 c15) (F:Fun K "_law_kinds" "_law_kinds" Yan f fd) (xa:Addr):FnOkH xa P w K mg base CX0 1 f fd ["_law_e"] (spD K<|Qbg c13 xa):=by
 refine F.okH Yar (Zbi λds Post h=>by obtain⟨_,rfl,_⟩:=h;rfl) λcdv A outer s H vs Q E hr h=>?_;have hu:(A.deeper<|PyProof.Rows.envOfC "_law_kinds" (defScope Yan) s.heap.objs.size f cdv).units+1<cLine:=Wcd (Wdl (by decide:1<=64) _) hr.units;refine⟨_,(Zaf (Zas (i:=1) Yar.nd rfl (Or.inr rfl)<|Zbq<|Zaa (Zai (isiRK K) rfl (mb "isinstance"<|by decide) Zao<|Zaa (pv 0)<|Zaa (Zbl rfl cl.n_NoWeb (show RelV (.ref _) _ from rfl)) Zad)<|Zaa (Zai (isiRK K) rfl (mb "isinstance"<|by decide) Zao<|Zaa (pv 0)<|Zaa (Zbl rfl cl.n_NoOrder (show RelV (.ref _) _ from rfl)) Zad)<|Zaa (Zai (isiRK K) rfl (mb "isinstance"<|by decide) Zao<|Zaa (pv 0)<|Zaa (Zbl rfl cl.n_NoNumber (show RelV (.ref _) _ from rfl)) Zad)<|Zaa (Zai (isiRK K) rfl (mb "isinstance"<|by decide) Zao<|Zaa (pv 0)<|Zaa (Zbl rfl cl.n_NoEnd (show RelV (.ref _) _ from rfl)) Zad) Zad)<|Zaf (Zas (i:=1) Yar.nd rfl (Or.inr rfl)<|Zav (addK K) (pv 1)<|Zbq<|Zaa (Zai (isiRK K) rfl (mb "isinstance"<|by decide) Zao<|Zaa (pv 0)<|Zaa (Zbl rfl cl.n_NoTie (show RelV (.ref _) _ from rfl)) Zad)<|Zaa (Zai (isiRK K) rfl (mb "isinstance"<|by decide) Zao<|Zaa (pv 0)<|Zaa (Zbl rfl cl.n_NoPlace (show RelV (.ref _) _ from rfl)) Zad)<|Zaa (Zai (isiRK K) rfl (mb "isinstance"<|by decide) Zao<|Zaa (pv 0)<|Zaa (Zbl rfl cl.n_NoTable (show RelV (.ref _) _ from rfl)) Zad)<|Zaa (Zai (isiRK K) rfl (mb "isinstance"<|by decide) Zao<|Zaa (pv 0)<|Zaa (Zbl rfl cl.n_NoRing (show RelV (.ref _) _ from rfl)) Zad) Zad)<|Zaf (Zas (i:=1) Yar.nd rfl (Or.inr rfl)<|Zav (addK K) (pv 1)<|Zbq<|Zaa (Zai (isiRK K) rfl (mb "isinstance"<|by decide) Zao<|Zaa (pv 0)<|Zaa (Zbl rfl cl.n_NoPaper (show RelV (.ref _) _ from rfl)) Zad)<|Zaa (Zai (isiRK K) rfl (mb "isinstance"<|by decide) Zao<|Zaa (pv 0)<|Zaa (Zbl rfl cl.n_Apart (show RelV (.ref _) _ from rfl)) Zad)<|Zaa (Zai (isiRK K) rfl (mb "isinstance"<|by decide) Zao<|Zaa (pv 0)<|Zaa (Zbl rfl cl.n_TooMany (show RelV (.ref _) _ from rfl)) Zad)<|Zaa (Zai (isiRK K) rfl (mb "isinstance"<|by decide) Zao<|Zaa (pv 0)<|Zaa (Zbl rfl cl.n_TooGreat (show RelV (.ref _) _ from rfl)) Zad) Zad)<|Zaf (Zas (i:=1) Yar.nd rfl (Or.inr rfl)<|Zav (addK K) (pv 1)<|Zbq<|Zaa (Zai (isiRK K) rfl (mb "isinstance"<|by decide) Zao<|Zaa (pv 0)<|Zaa (Zbl rfl cl.n_NoText (show RelV (.ref _) _ from rfl)) Zad)<|Zaa (Zai (isiRK K) rfl (mb "isinstance"<|by decide) Zao<|Zaa (pv 0)<|Zaa (Zbl rfl cl.n_NoName (show RelV (.ref _) _ from rfl)) Zad)<|Zaa (Zai (isiRK K) rfl (mb "isinstance"<|by decide) Zao<|Zaa (pv 0)<|Zaa (Zbl rfl cl.n_NoRow (show RelV (.ref _) _ from rfl)) Zad) Zad)<|Zah<|Zaw<|Zm1 ["_law_k"] (show CompSc (defScope Yan) ["_law_e","_law_found"] _ ["_law_e","_law_found"] [0,1] from ⟨rfl,by decide +kernel,by decide +kernel,by decide +kernel,rfl,by decide +kernel⟩) hr.hd (Zlb rfl (mb "range"<|by decide)<|Zaa Zag Zad) (λ_ _ _ _ _=>(Za3 (i:=0) (show List.Nodup (["_law_k","_law_e","_law_found"]:List Str) from by decide) rfl<|Or.inl rfl)) (λ_ _ _ _ _=>(Zhe<|PW.pt<|pw_and (truK K (Za5 (ixK K hu) (pv 2) (pv 0) λ_ _=>rfl) λ_=>rfl)<|pw_and1<|truK K (Zai (isiRK K) rfl (mb "isinstance"<|by decide) Zao<|Zaa (pv 1)<|Zaa (Zc3 rfl (mb "ValueError"<|by decide) Zg9 (show RelV (.ty "ValueError") _ from rfl)) Zad) λ_=>rfl)) λ_ _ _ _ _=>(pv 0)),Zdc (λds Post hf=>?_) h⟩;obtain⟨i,rfl,q⟩:=hf;refine⟨by simp,?_⟩;dsimp only[startD,Wbl,Wbn,Wbb,Wad];refine Zar<|Zat<|Zcs ?_;refine Zcv rfl cl.i_T cl.k_T_NoWeb ?_;refine Zcv rfl cl.i_T cl.k_T_NoOrder ?_;refine Zcv rfl cl.i_T cl.k_T_NoNumber ?_;refine Zcv rfl cl.i_T cl.k_T_NoEnd ?_;refine Zae ⟨by decide,?_⟩;refine Zar<|Zat<|Zak<|Zac rfl<|Zcs ?_;refine Zcv rfl cl.i_T cl.k_T_NoTie ?_;refine Zcv rfl cl.i_T cl.k_T_NoPlace ?_;refine Zcv rfl cl.i_T cl.k_T_NoTable ?_;refine Zcv rfl cl.i_T cl.k_T_NoRing ?_;refine Zae ⟨by decide,Zd8 (by decide) ?_⟩;refine Zar<|Zat<|Zak<|Zac rfl<|Zcs ?_;refine Zcv rfl cl.i_T cl.k_T_NoPaper ?_;refine Zcv rfl cl.i_T cl.k_T_Apart ?_
 refine Zcv rfl cl.i_T cl.k_T_TooMany ?_;refine Zcv rfl cl.i_T cl.k_T_TooGreat ?_;refine Zae ⟨by decide,Zd8 (by decide) ?_⟩;refine Zar<|Zat<|Zak<|Zac rfl<|Zcs ?_;refine Zcv rfl cl.i_T cl.k_T_NoText ?_;refine Zcv rfl cl.i_T cl.k_T_NoName ?_;refine Zcv rfl cl.i_T cl.k_T_NoRow ?_;refine Zae ⟨by decide,Zd8 (by decide) ?_⟩;show JS K _ [.val (.excR xa c13 i),.val (.lst fnd85)] _;refine Za0<|Zcc (by decide)<|Zov (i:=0)<|Zab<|Zaj<|Zae ⟨rfl,15,rfl,by decide,by decide,by rw[Zbp];exact small1000 (by decide),is12,λd=>d,λj d hd=>?_,?_⟩
 ·obtain⟨hi,rfl⟩:=Zcb hd
  refine Zc6<|Zbh<|Zak<|Zac rfl<|Zac rfl<|Zaz (Zvx hi) ⟨_,rfl,ite2 (λe=>?_) λe=>?_⟩
  ·refine Zbh (Zay<|Zab<|Zac rfl<|Zab<|Zdn<|Zae<|Zqx cl.i_T cl.t_T ⟨true,rfl,?_⟩)
   exact⟨e.symm,iteT<|Zac rfl ⟨rfl,_,rfl⟩⟩
  ·exact⟨(Wch.mpr e).symm,_,rfl⟩
 ·exact q
end
structure Qaw (x:PySem.Str):Prop where
 len:x.length<=100000
 rows:(Qaf x).length<=900
 row:∀r∈Qaf x,RowB r
noncomputable def outD (rows:List PySem.Str):D:=match (Qas none 0 rows).2 with
 |some s=>.tup [Qah s.n s.ts,Qan (Qal s)]
 |none=>.non
theorem Zne {rows:List PySem.Str}{s:St84}(h:At84 rows rows.length (some s)):outD rows=.tup [Qah s.n s.ts,Qan (Qal s)]:=by
 have e:Qas none 0 rows=(0,some s):=by rw[h.1,List.drop_length];rfl
 unfold outD;rw[e]
def Qbi (c:Addr):XRSp:=λds Post Xp=>∃x:PySem.Str,ds=[.str x]/\Qaw x/\(Qaj (Qaf x)=0->Post (outD<|Qaf x))/\(Qaj (Qaf x)≠0->Xp c ((Qaj (Qaf x):Nat):Int))
def Qav (s:St84) (p:Nat):Bool:=decide (((Qal s).getD p []).Perm (Qaa s.ts (2*s.ts.length) (p:Int)))
def finD (s:St84):D->D
 |.tup [.int i,_]=>.bl (Qav s i.toNat)
 |d=>d
theorem Zj3 {s:St84}(h:StOk s) {p:Nat}{r:List Int}(e:(Qal s)[p]?=some r):r=[]\/Qam s.ts (2*s.ts.length) (p:Int) r:=by
 unfold Qal at e;by_cases hp:p<s.o.length
 ·rw[Waz hp]at e;exact h.row p r e
 ·rw[Wax (by omega),Wbe]at e
  split at e
  ·cases e;exact .inl rfl
  ·cases e
theorem Zg6 {s:St84}(h:StOk s):((Qal s).length:Int)=s.n:=by
 have:=h.ol;unfold Qal;rw[Wal,Wa5];omega
theorem Zk3 {s:St84}(h:StOk s):((Wb2 (Qal s).length).map (Qav s)).all id=true↔Qaz s:=by
 rw[Wa4];constructor
 ·intro ha p r e
  have hp:=(Wah.mp e).1;have:=ha _<|Wa2.mpr ⟨p,Wbp.mpr hp,rfl⟩;have hq:r.Perm (Qaa s.ts (2*s.ts.length) (p:Int)):=by
   have q:Qav s p=true:=this;unfold Qav at q;rw[Waq,e]at q;exact of_decide_eq_true q
  rcases Zj3 h e with rfl|z
  ·exact⟨hq,by rw[List.perm_nil.mp hq.symm]⟩
  ·exact z
 ·intro hf b hb
  obtain⟨p,hp,rfl⟩:=Wa2.mp hb;have hp:=Wbp.mp hp;have:=hf p _<|Wab hp;show Qav s p=true;unfold Qav;rw[Waq,Wab hp];exact Qbx this.perm
theorem Zxl (s:St84):((enD ((Qal s).map Qae)).filter λ_=>true).map (finD s)=((Wb2 (Qal s).length).map (Qav s)).map D.bl:=by
 rw[Wbt.mpr (by simp)];apply Wby
 intro i;rw[Waf,Wa8,Waf];cases z:(enD ((Qal s).map Qae))[i]? with
 |none=>
  have:=List.getElem?_eq_none_iff.mp z;rw[Zje,Waa]at this;rw[Wcf (by rw[Wcw];exact this)];rfl
 |some dd=>
  obtain⟨e,he,rfl⟩:=Zjs z;have hi:=(Wah.mp he).1;rw[Waa]at hi;rw[List.getElem?_range hi];show some (D.bl<|Qav s (i:Int).toNat)=some (D.bl<|Qav s i);rw[Wbf]
theorem Zgh {a b ms:List Int}(h1:ms.Perm a) (h2:ms.Pairwise (· <= ·)) (hb:b.Pairwise (· < ·)):decide (ms=b)=decide (a.Perm b):=by
 by_cases h:a.Perm b
 ·rw[Qbx h]
  refine Qbx<|List.Perm.eq_of_pairwise (le:=λa b=>a<=b) (λa b _ _ h1 h2=>by omega) h2 (hb.imp λh=>Int.le_of_lt h)<|h1.trans h
 ·rw[Qby h]
  exact Qby λe=>h (by rw[<- e];exact h1.symm)
section
variable {P:Program}{w:World}{K:W.Frag}{mg:Str->Option Value}{base:Heap}{f fI:Addr}{fd:FuncData}{c0 c1 c2 c3 c4 c5 c6 c7 c8 c9 c10 c11 c12 c13 c14 c15:Addr}
theorem Zow (mb:Mb mg) (cl:Cl K mg fI c0 c1 c2 c3 c4 c5 c6 c7 c8 c9 c10 c11 c12 c13 c14 c15) (nt:NoTx P w K mg base "NoText" c13 fI) (C49:Callee P w K mg base 6 "floor_with" ["floor","row"] (spD K Qbe)) (C48:Callee P w K mg base 2 "ends_at" ["web","place"] (spN K fEnds)) (F:Fun K "read" "read" Yau f fd):FnOk P w K mg base (CXR P w) 7 f fd ["text"] (spXR K<|Qbi c13):=by
 refine F.okR Yac (Zqn λds Post Xp h=>by obtain⟨_,rfl,_⟩:=h;rfl) λcdv A outer s H vs Q E hr h=>?_;have hu:=Zb1 hr;have hv:=Zeo hr;refine⟨_,(Zaf (Zbg (Zcl<|truK K (Zai (isiUK K) rfl (mb "isinstance"<|by decide) Zao<|Zaa (pv 0)<|Zaa (Zc3 rfl (mb "str"<|by decide) Zeb (show RelV (.ty "str") _ from rfl)) Zad) λ_=>rfl) (Zah<|Zfz nt (hr.mono<|by decide) rfl rfl hr.hd Zhs<|Zaa Zag Zad) Za4)<|Zaf (Zas (i:=1) Yac.nd rfl (Or.inl rfl)<|bmK K PySem.F.plainAttrs_str PySem.F.slot_str_split PySem.F.type_str_split (splitK K) (pv 0)<|Zaa Za1 Zad)<|Zaf (Zas (i:=2) Yac.nd rfl (Or.inl rfl) Zdg)<|Zaf (Zdu PassesOwn.leaving rfl (Zpt K rfl (mb "enumerate"<|by decide)<|Zaa (pv 1) Zad) (gtupK (n:=2) K rfl<|Zbn (Za3 (i:=3) Yac.nd rfl<|Or.inl rfl)<|Zbn (Za3 (i:=4) Yac.nd rfl<|Or.inl rfl) Zd9)<|Zaf (Zas (i:=2) Yac.nd rfl (Or.inl rfl)<|Za9 C49 (hr.mono<|by decide)<|Zaa (pv 2)<|Zaa (pv 4) Zad)<|Zah<|Zbg (Zaq Zsb (pv 2) Zdg<|nomark _) (Zah<|Zfz nt (hr.mono<|by decide) rfl rfl hr.hd Zhs<|Zaa (pv 3) Zad) Za4)<|Zaf (Ze3 (pv 2)<|gtupK (n:=2) K rfl<|Zbn (Za3 (i:=5) Yac.nd rfl<|Or.inr rfl)<|Zbn (Za3 (i:=6) Yac.nd rfl<|Or.inl rfl) Zd9)<|Zaf (Zas (i:=7) Yac.nd rfl (Or.inl rfl)<|Zav (addK K) (pv 6)<|Zav (Zm5 K) (Zb0<|Zaa (Zb0 Zad) Zad)<|Zav Zka (Za5 (ixK K hu) (pv 5) Zag λ_ _=>rfl)<|Zai (lenK K) rfl (mb "len"<|by decide) Zba<|Zaa (pv 6) Zad)<|Zaf (Zbg (Zcl<|truK K (Zai (allK K rfl) rfl (mb "all"<|by decide) Zmp<|Zaa (Zcm ["place","ends"] (show CompSc (defScope Yau) ["text","rows","floor","at","row","web","standing","order"] _ ["web"] [5] from ⟨rfl,by decide +kernel,by decide +kernel,by decide +kernel,rfl,by decide +kernel⟩) rfl (Zi4 K rfl (mb "enumerate"<|by decide)<|Zaa (pv 7) Zad) (λ_ _ _ _ _=>(gtupK (n:=2) K rfl<|Zbn (Za3 (i:=0) (show List.Nodup (["place","ends","web"]:List Str) from by decide) rfl<|Or.inl rfl)<|Zbn (Za3 (i:=1) (show List.Nodup (["place","ends","web"]:List Str) from by decide) rfl<|Or.inl rfl) Zd9)) (λ_ _ _ _ _=>Zcx) λ_ _ _ _ _=>(Zb3 (eqDK K hv) (Zai (sortTK K) rfl (mb "sorted"<|by decide) Zf5<|Zaa (pv 1) Zad) (Za9 C48 (hr.mono<|by decide)<|Zaa (pv 2)<|Zaa (pv 0) Zad)<|nomark _)) Zad) λ_=>rfl) (Zah<|Zfz nt (hr.mono<|by decide) rfl rfl hr.hd Zhs<|Zaa (Zav (addK K) (Zai (lenK K) rfl (mb "len"<|by decide) Zba<|Zaa (pv 1) Zad) Zag) Zad) Za4)<|Zah<|Zaw<|Zb0<|Zaa (pv 5)<|Zaa (pv 7) Zad),Zw5 (λds Post Xp hf=>?_) h⟩;obtain⟨x,rfl,⟨hxl,hrl,hrow⟩,hG,hX⟩:=hf;refine⟨by simp,?_⟩;dsimp only[startD,Wbl,Wbn,Wbb,Wad];have hz2:x.length+2<=sizeLine:=Way (Wbw hxl 2) (by decide);refine Zhj<|Zku<|Zb2<|Zbh<|Zay<|Zab<|Zac rfl<|Zab<|Zdn<|Zae<|Zby (T:="str") (b:=true) rfl (λ_=>by rfl) ⟨_,rfl,iteF<|Zh1 ?_⟩;refine Zej<|Zat<|Zbo<|Zc0<|Zac rfl ⟨_,rfl,Zax ⟨_,rfl,by decide,hz2,_,rfl,?_⟩⟩;show JXR K _ _ _ (_::Slot.val (.lst ((Qaf x).map D.str))::_) _;have hne:=Zho x;generalize Qaf x=L at hrl hrow hG hX hne ⊢;have hlt:=small1000 (show L.length<=1000 by omega);refine Zej<|Zat<|Zbz ?_;refine Zhj<|Zs0<|Zra<|Zab<|Zac rfl<|Zae ⟨_,rfl,λi O=>∃st x3 x4,At84 L i st /\ O = [.val (.str x),.val (.lst<|L.map D.str),.val (stO st),x3,x4,.any,.any,.any],⟨none,_,_,Zm0 L,rfl⟩,λi d O hd hI=>?_,λO hI=>?_⟩
 ·obtain⟨st,x3,x4,hA,rfl⟩:=hI
  obtain⟨d0,hd0,rfl⟩:=Zo8 hd;rw[Waf]at hd0;cases hz:L[i]? with
  |none=>rw[hz]at hd0;exact nomatch hd0
  |some z=>
  rw[hz]at hd0;cases hd0;refine Zis rfl<|Zcd<|Zb6<|Zcd<|Zb6<|Zfy ?_;refine Zej<|Zat<|Za8<|Zab<|Zac rfl<|Zab<|Zac rfl<|Zae ⟨st,z,rfl,hA.2.2,hrow z<|Wav hz,?_⟩;cases e:Qao st z with
  |none=>
   refine Zku<|Zap<|Zak<|Zac rfl<|Zbz<|Zsj ⟨_,rfl,iteT ?_⟩;have hb:=Zjz hA hz e;have hx:=hX (by omega);rw[hb]at hx;refine Zit<|Zab<|Zac rfl<|Zae ⟨_,rfl,?_⟩;have e1:(1:Int)+(i:Int)=((i+1:Nat):Int):=by omega
   rw[e1];exact hx
  |some s=>
   exact Zku<|Zap<|Zak<|Zac rfl<|Zbz<|Zo9 ⟨_,rfl,iteF<|Zh1 ⟨some s,_,_,Zi8 hA hz e,rfl⟩⟩
 obtain⟨st,x3,x4,hA,rfl⟩:=hI;rw[Zpc,Waa]at hA;obtain⟨s,rfl,hS,g1,g2⟩:=Zg7 hA hne;have hw:=hS.web;have l1:=hw.lo;have l2:=hw.hi;have l3:=hw.len;have ol:=hS.ol;refine Zej<|Zm3<|Zac rfl<|Zis rfl<|Zcd<|Zb6<|Zcd<|Zb6<|Zfy ?_;refine Zej<|Zat<|Zak<|Zac rfl<|Zak<|Zb9<|Zab<|Zb9<|Zae ⟨by decide,Zae ⟨by show 1<=sizeLine;decide,?_⟩⟩;refine Zak<|Zak<|Zac rfl<|Zaj<|Zbv (d:=.int s.n) rfl<|Zay<|Zab<|Zac rfl<|Zae<|Zbe (Or.inr rfl)<|Zn6<|Zol ?_ ?_<|Zhc ?_ ?_
 all_goals try rw[Waa]
 ·omega
 ·omega
 ·rw[Wa5];exact Wbm (small1000<|by omega)
 have eo:Wbn Qae s.o++Wad (s.n-((s.o.length:Nat):Int)).toNat (D.tup [])=(Qal s).map Qae:=by
  have e1:(s.n-((s.o.length:Nat):Int)).toNat=s.n.toNat-s.o.length:=by omega
  rw[e1];unfold Qal;rw[Wau,Wdq];rfl
 rw[eo];have fl:=Zg6 hS;refine Zhj<|Zku<|Zb2<|Zbh<|Zay<|Zab<|Zk1 (by decide)<|Zuv<|Zab<|Zac rfl<|Zae ⟨_,Or.inr rfl,?_,λ_=>true,finD s,λi d hd=>?_,?_⟩
 ·rw[Zje,Waa];exact small1000 (by omega)
 ·obtain⟨d0,hd0,rfl⟩:=Zjs hd
  rw[Waf]at hd0;cases hz:(Qal s)[i]? with
  |none=>rw[hz]at hd0;exact nomatch hd0
  |some r=>
   rw[hz]at hd0;cases hd0;have hrl:r.length<64:=by
    rcases Zj3 hS hz with rfl|z
    ·decide
    ·have:=z.len;omega
   refine⟨_,_,rfl,Zcy ⟨rfl,Zak<|Zbo<|Zj9<|Zab<|Zac rfl<|Zae ⟨r,rfl,hrl,λms m1 m2=>⟨_,rfl,?_⟩⟩⟩⟩;refine Zbo<|Zjv<|Zab<|Zac rfl<|Zab<|Zac rfl<|Zae ⟨s.n,s.ts,_,rfl,l3,_,rfl,Zml (n:=2) (by decide) (Zew _) (Zew _) rfl rfl ⟨?_,_,_,rfl⟩⟩;show D.bl (eqF 2 (lstI ms)<|lstI _)=D.bl (Qav s (i:Int).toNat);rw[Zhv,Zgh m1 m2 (Zc1 _ _ _)];unfold Qav;rw[Wbf,Waq,hz];rfl
 rw[Zxl];refine Zae<|Zok ⟨_,rfl,?_⟩;by_cases hF:Qaz s
 ·rw[(Zk3 hS).mpr hF]
  refine iteF<|Zh1 ?_;have hp:=hG<|g1 hF;rw[Zne hA]at hp;exact Znz<|Za0<|Zb9<|Zab<|Zac rfl<|Zab<|Zac rfl<|Zae ⟨Zdw,hp⟩
 ·rw[Wch.mpr λe=>hF ((Zk3 hS).mp e)]
  have hb:=g2 hF;have hx:=hX (by omega);rw[hb]at hx;refine iteT<|Zit<|Zab<|Zak<|Zay<|Zab<|Zac rfl<|Zae<|Zbe (Or.inl rfl)<|Zaj<|Zch<|Zae ⟨_,rfl,?_⟩;rw[Waa];exact hx
end
theorem Zdj {K:W.Frag}{O:Evt}{ta tb:TE}{x y:Bool}{P:D->Evt->Prop}(ha:JE K ta O λd O1=>d=.bl x /\ O1 = O) (hb:x=true->JE K tb O λd O1=>d=.bl y /\ O1 = O) (p:P (.bl<|x && y) O):JE K (tAndV ta tb) O P:=
 Zcu (ha.mono λd O1 ⟨e1,e2⟩=>by
  subst e1 e2;refine⟨x,rfl,?_⟩;cases x with
  |false=>exact p
  |true=>exact(hb rfl).mono λd O3 ⟨e3,e4⟩=>by subst e3 e4;exact p)
def manyS:Option St84->Int
 |none=>0
 |some s=>s.n
def Qa5:Option St84->Qb1
 |none=>[]
 |some s=>s.ts
def ordS:Option St84->Qb2
 |none=>[]
 |some s=>s.o
def lstP (t:Int × Int):D:=.lst [.int t.1,.int t.2]
def bSt (x:PySem.Str) (L:List PySem.Str) (st:Option St84) (x5 x6 x7 x8 x9 x10:L2.Slot):Evt:=[.val (.str x),.val (.int<|manyS st),.own (.lst ((Qa5 st).map lstP)),.own (.lst ((Qai<|ordS st).map .int)),.val (.lst<|L.map .str),x5,x6,x7,x8,x9,x10]
def fBad84:DSp:=λds Post=>∃x:PySem.Str,ds=[.str x]/\Qaw x/\Post (.int ((Qaj (Qaf x):Nat):Int))
def lnumD:D->D
 |.str z=>.int (nmI (wnum z))
 |d=>d
theorem Zt9 (ws:List PySem.Str):((ws.map D.str).filter λ_=>true).map lnumD=(ws.map λz=>nmI<|wnum z).map D.int:=by
 rw[Wbt.mpr (by simp),Wa8,Wa8];rfl
theorem Zu1 (ws:List PySem.Str):(-1:Int)∈(ws.map λz=>nmI<|wnum z)↔none∈ws.map wnum:=by
 rw[Wa2,Wa2];constructor
 ·rintro⟨z,hz,e⟩
  refine⟨z,hz,?_⟩;cases q:wnum z with
  |none=>rfl
  |some n=>rw[q]at e;have e:(n:Int) = -1:=e;omega
 ·rintro⟨z,hz,e⟩
  exact⟨z,hz,by rw[e];rfl⟩
theorem Zqj {ws:List PySem.Str}(h:none ∉ ws.map wnum):(ws.map λz=>nmI<|wnum z)=Qab (Qag ws):=by
 unfold Qab Qag;rw[Wa8];apply Wc1;intro z hz;cases q:wnum z with
 |none=>exact absurd (Wa2.mpr ⟨z,hz,q⟩) h
 |some n=>show nmI (some n)=(((wnum z).getD 0:Nat):Int);rw[q];rfl
section
variable {st:Option St84}{r w:PySem.Str}{ws:List PySem.Str}(hw:Qad r=w::ws)
include hw
theorem Zmv (hp:w=oS "places") (hN:none ∉ ws.map wnum) (hs:st=none) {n:Nat}(hn:Qag ws=[n]) (h1:1<=n/\n<=25):Qao st r=some ⟨(n:Int),[],[]⟩:=by
 rw[Zcn hw,Qbv hN,hs,Zgy,Qbw hp,hn];unfold Qaq;exact Qbw h1
theorem Zry (hp:w=oS "places") (h:¬ (none ∉ ws.map wnum/\st=none/\∃n,Qag ws=[n]/\1<=n/\n<=25)):Qao st r=none:=by
 rw[Zcn hw];by_cases hN:none∈ws.map wnum
 ·rw[Qbw hN]
 rw[Qbv hN];cases st with
 |none=>
  rw[Zgy,Qbw hp];unfold Qaq;split
  ·rename_i n e
   rw[Qbv λg=>h ⟨hN,rfl,n,e,g⟩]
  ·rfl
 |some s=>
  have a1:oS "places" ≠ oS "tie":=by decide +kernel
  have a2:oS "places" ≠ oS "at":=by decide +kernel
  rw[Zf8,Qbv λg=>a1 (hp ▸ g.1),Qbv λg=>a2 (hp ▸ g)]
theorem Zo1 (hp:w=oS "tie") (hN:none ∉ ws.map wnum) {s:St84}(hs:st=some s) (ho:s.o=[]) {a b:Nat}(hn:Qag ws=[a,b]) (h1:s.ts.length<24/\(a:Int)<s.n/\(b:Int)<s.n):Qao st r=some ⟨s.n,s.ts++[((a:Int),(b:Int))],[]⟩:=by
 rw[Zcn hw,Qbv hN,hs,Zf8,Qbw ⟨hp,ho⟩,hn];unfold tieF;exact Qbw h1
theorem Zm9 (hp:w=oS "tie") (h:¬ (none ∉ ws.map wnum/\∃s,st=some s/\s.o=[]/\∃a b:Nat,Qag ws=[a,b]/\s.ts.length<24/\(a:Int)<s.n/\(b:Int)<s.n)):Qao st r=none:=by
 rw[Zcn hw];by_cases hN:none∈ws.map wnum
 ·rw[Qbw hN]
 rw[Qbv hN];have a1:oS "tie" ≠ oS "places":=by decide +kernel
 have a2:oS "tie" ≠ oS "at":=by decide +kernel
 cases st with
 |none=>rw[Zgy,Qbv λg=>a1 (hp ▸ g)]
 |some s=>
  rw[Zf8];by_cases ho:s.o=[]
  ·rw[Qbw ⟨hp,ho⟩]
   unfold tieF;split
   ·rename_i a b e
    rw[Qbv λg=>h ⟨hN,s,rfl,ho,a,b,e,g⟩]
   ·rfl
  ·rw[Qbv λg=>ho g.2,Qbv λg=>a2 (hp ▸ g)]
theorem Zmy (hp:w=oS "at") (hN:none ∉ ws.map wnum) {s:St84}(hs:st=some s) {p:Nat}{l:List Nat}(hn:Qag ws=p::l) (h1:l≠[]/\s.o.length<=p/\Qam s.ts (2*s.ts.length) (p:Int) (Qab l)):Qao st r=some ⟨s.n,s.ts,s.o++Wad (p-s.o.length) []++[Qab l]⟩:=by
 have a2:oS "at" ≠ oS "tie":=by decide +kernel
 rw[Zcn hw,Qbv hN,hs,Zf8,Qbv λg=>a2 (hp ▸ g.1),Qbw hp,hn];exact Zh8 h1
theorem Zj2 (hp:w=oS "at") (h:¬ (none ∉ ws.map wnum/\∃s,st=some s/\∃(p:Nat) (l:List Nat),Qag ws=p::l/\l≠[]/\s.o.length<=p/\Qam s.ts (2*s.ts.length) (p:Int) (Qab l))):Qao st r=none:=by
 rw[Zcn hw];by_cases hN:none∈ws.map wnum
 ·rw[Qbw hN]
 rw[Qbv hN];have a1:oS "at" ≠ oS "places":=by decide +kernel
 have a2:oS "at" ≠ oS "tie":=by decide +kernel
 cases st with
 |none=>rw[Zgy,Qbv λg=>a1 (hp ▸ g)]
 |some s=>
  rw[Zf8,Qbv λg=>a2 (hp ▸ g.1),Qbw hp];cases e:Qag ws with
  |nil=>rfl
  |cons p l=>exact Zfg λg=>h ⟨hN,s,rfl,p,l,e,g⟩
theorem Zrv (h1:w≠oS "places") (h2:w≠oS "tie") (h3:w≠oS "at"):Qao st r=none:=by
 rw[Zcn hw];by_cases hN:none∈ws.map wnum
 ·rw[Qbw hN]
 rw[Qbv hN];cases st with
 |none=>rw[Zgy,Qbv h1]
 |some s=>rw[Zf8,Qbv λg=>h2 g.1,Qbv h3]
end
theorem Zr1:∀(l:List Int),l≠[]->∃m,m∈l/\∀a∈l,a<=m
 |[],h=>absurd rfl h
 |[x],_=>⟨x,Wat,λa ha=>by rw[Was.mp ha];exact Wcq _⟩
 |x::y::l,_=>by
  obtain⟨m,h1,h2⟩:=Zr1 (y::l) (by simp);by_cases hx:m<=x
  ·exact⟨x,Wat,λa ha=>by
    rcases Wai.mp ha with rfl|ha
    ·exact Wcq _
    ·have:=h2 a ha;omega⟩
  ·exact⟨m,Wap _ h1,λa ha=>by
    rcases Wai.mp ha with rfl|ha
    ·omega
    ·exact h2 a ha⟩
theorem Ztw {s:St84}(h:StOk s) (h0:Qai s.o≠[]):atI ((Qai s.o).map D.int) (-1)=some (.int ((s.o.length:Int)-1)):=by
 have h1:s.o≠[]:=λe=>h0 (by rw[e];rfl);cases hl:s.o.getLast? with
 |none=>exact absurd (List.getLast?_eq_none_iff.mp hl) h1
 |some r=>
  have:=Zno hl<|h.last r hl;obtain⟨ys,e⟩:=Wc5.mp this;rw[e,Wau];exact Zq9 _ _
theorem Zxw {ts:Qb1}{e:Nat}(he:e<2*ts.length):∃t:Int × Int,atI (ts.map lstP) ((0+(e:Int)) / 2)=some (lstP t)/\atI [D.int t.1,D.int t.2] ((0+(e:Int)) % 2)=some (.int<|Qac ts e):=by
 have hk:e / 2<ts.length:=by omega
 refine⟨ts[e / 2],?_,?_⟩
 ·rw[show (0+(e:Int)) / 2=((e / 2:Nat):Int) by omega]
  exact Zau (by rw[Waf,Wab hk];rfl)
 ·have e1:Qac ts e=if e % 2=0 then ts[e / 2].1 else ts[e / 2].2:=by
   unfold Qac;rw[Wab hk]
  rw[e1];by_cases h:e % 2=0
  ·rw[Qbw h,show (0+(e:Int)) % 2=((0:Nat):Int) by omega];exact Zau rfl
  ·rw[Qbv h,show (0+(e:Int)) % 2=((1:Nat):Int) by omega];exact Zau rfl
def bS2 (x:PySem.Str) (L:List PySem.Str) (st:Option St84) (i:Nat) (wd:PySem.Str) (ws:List PySem.Str) (Ns:List Int) (b:Bool) (x9 x10:L2.Slot):Evt:=bSt x L st (.val (.int (i:Int))) (.val (.lst ((wd::ws).map D.str))) (.val (.lst<|Ns.map D.int)) (.val (.bl b)) x9 x10
def bCut (x:PySem.Str) (L:List PySem.Str) (st:Option St84) (i:Nat) (wd:PySem.Str) (ws:List PySem.Str) (Ns:List Int) (z:PySem.Str) (x10:L2.Slot):Evt->Prop:=λO=>(∃s' x9,Qao st z=some s' /\ O = bS2 x L (some s') i wd ws Ns true x9 x10)\/(Qao st z=none/\∃x9,O = bS2 x L st i wd ws Ns false x9 x10)
def leftB (S:List Int):D->Bool
 |.lst [.int a,.int b]=>!decide (a∈S) || !decide (b∈S)
 |_=>false
theorem Zro {ts:Qb1}{S:List Int}:(((ts.map lstP).filter (leftB S)).map λd=>d).isEmpty=decide (∀t∈ts,t.1∈S/\t.2∈S):=by
 rw[List.map_id',List.filter_map,List.isEmpty_map];by_cases h:∀t∈ts,t.1∈S/\t.2∈S
 ·rw[Qbx h,Wdz,Wdc]
  intro t ht;obtain⟨a,b⟩:=h t ht;show ¬ (!decide (t.1∈S) || !decide (t.2∈S))=true;rw[Qbx a,Qbx b];decide
 ·rw[Qby h]
  refine Wch.mpr λe=>h λt ht=>?_;rw[Wdz,Wdc]at e;have:=e t ht;have:¬ (!decide (t.1∈S) || !decide (t.2∈S))=true:=this;by_cases a:t.1∈S
  ·by_cases b:t.2∈S
   ·exact⟨a,b⟩
   ·rw[Qby b]at this;simp at this
  ·rw[Qby a]at this;simp at this
section
variable {P:Program}{w:World}{K:W.Frag}{mg:Str->Option Value}{base:Heap}{f:Addr}{fd:FuncData}
theorem Zrj (mb:Mb mg) (C37:Callee P w K mg base 1 "_law_number_in" ["_law_word"] (spD K Qa7)) (F:Fun K "_law_bad_row" "_law_bad_row" Yai f fd):FnOk P w K mg base CX0 2 f fd ["_law_text_here"] (spD K fBad84):=by
 refine F.ok Yaa (Zbi λds Post h=>by obtain⟨_,rfl,_⟩:=h;rfl) λcdv A outer s H vs Q E hr h=>?_;have hu:=Zb1 hr;have hv:=Zeo hr;refine⟨_,(Zaf (Zas (i:=1) Yaa.nd rfl (Or.inl rfl) Zag)<|Zaf (Zas (i:=2) Yaa.nd rfl (Or.inr rfl)<|Zbq Zad)<|Zaf (Zas (i:=3) Yaa.nd rfl (Or.inr rfl)<|Zbq Zad)<|Zaf (Zas (i:=4) Yaa.nd rfl (Or.inl rfl)<|bmK K PySem.F.plainAttrs_str PySem.F.slot_str_split PySem.F.type_str_split (splitK K) (pv 0)<|Zaa Za1 Zad)<|Zaf (Zdu PassesOwn.never rfl (Zbx rfl (mb "range"<|by decide)<|Zaa (Zai (lenK K) rfl (mb "len"<|by decide) Zba<|Zaa (pv 4) Zad) Zad) (Za3 (i:=5) Yaa.nd rfl<|Or.inl rfl)<|Zaf (Zas (i:=6) Yaa.nd rfl (Or.inl rfl)<|bmK K PySem.F.plainAttrs_str PySem.F.slot_str_split PySem.F.type_str_split (splitK K) (Za5 (ixK K hu) (pv 4) (pv 5) λ_ _=>rfl)<|Zaa Za1 Zad)<|Zaf (Zas (i:=7) Yaa.nd rfl (Or.inr rfl)<|Zcm ["_law_word"] (show CompSc (defScope Yai) ["_law_text_here","_law_many","_law_ties","_law_seen_rows","_law_lines","_law_k","_law_words","_law_numbers","_law_good","_law_due","_law_left"] _ [] [] from ⟨rfl,by decide +kernel,by decide +kernel,by decide +kernel,rfl,by decide +kernel⟩) rfl (seqK K<|Zbs (slK K) (pv 6) (Zb8 Zag) Zck) (λ_ _ _ _ _=>(Za3 (i:=0) (show List.Nodup (["_law_word"]:List Str) from by decide) rfl<|Or.inl rfl)) (λ_ _ _ _ _=>Zcx) λ_ _ _ _ _=>(Za9 C37 (hr.mono<|by decide)<|Zaa (pv 0) Zad))<|Zaf (Zas (i:=8) Yaa.nd rfl (Or.inl rfl)<|Zb3 (notinK K hu) (Zq6 Zkd Zag) (pv 7) rfl)<|Zaf (Zbg (Zaq Zbd (Za5 (ixK K hu) (pv 6) Zag λ_ _=>rfl) Za1<|nomark _) (Zaf (Zas (i:=8) Yaa.nd rfl (Or.inl rfl)<|Zdp (pv 8)<|Zdp (Zb3 Zbd (pv 5) Zag<|nomark _)<|Zdp (Zb3 Zbd (Zai (lenK K) rfl (mb "len"<|by decide) Zba<|Zaa (pv 7) Zad) Zag<|nomark _)<|Zgs<|Zph Zji Zji Zag (Za5 (ixK K hu) (pv 7) Zag λ_ _=>rfl) Zag)<|Zah<|Zbg (truK K (pv 8) λ_=>rfl) (Zah<|Zas (i:=1) Yaa.nd rfl (Or.inl rfl)<|Za5 (ixK K hu) (pv 7) Zag λ_ _=>rfl) Za4)<|Zah<|Zbg (Zaq Zbd (Za5 (ixK K hu) (pv 6) Zag λ_ _=>rfl) Za1<|nomark _) (Zaf (Zas (i:=8) Yaa.nd rfl (Or.inl rfl)<|Zdp (pv 8)<|Zdp (Zb3 Zgo (pv 5) Zag<|nomark _)<|Zdp (Zb3 (eqL0K K hu) (pv 3) (Zbq Zad)<|nomark _)<|Zdp (Zb3 Zbd (Zai (lenK K) rfl (mb "len"<|by decide) Zba<|Zaa (pv 7) Zad) Zag<|nomark _)<|Zgs<|Zb3 Zhz (Zai (lenK K) rfl (mb "len"<|by decide) Zba<|Zaa (pv 2) Zad) Zag<|nomark _)<|Zah<|Zbg (PW.pt<|pw_and (truK K (pv 8) λ_=>rfl)<|pw_and1<|Zaq Zhz (Zai (maxK K rfl) rfl (mb "max"<|by decide) Zkl<|Zaa (pv 7) Zad) (pv 1)<|nomark _) (Zah<|Zc4<|bmK K PySem.F.plainAttrs_list PySem.F.slot_list_append PySem.F.type_list_append Zce (pv 2)<|Zaa (pv 7) Zad)<|Zah<|Zas (i:=8) Yaa.nd rfl (Or.inl rfl) Zh7)<|Zah<|Zbg (PW.pt<|pw_and (Zaq Zbd (Za5 (ixK K hu) (pv 6) Zag λ_ _=>rfl) Za1<|nomark _)<|pw_and (truK K (pv 8) λ_=>rfl)<|pw_and (Zaq Zgo (pv 5) Zag<|nomark _)<|pw_and1<|Zaq Zgo (Zai (lenK K) rfl (mb "len"<|by decide) Zba<|Zaa (pv 7) Zad) Zag<|nomark _) (Zaf (Zef (i:=9) ["_law_end"] (show CompSc (defScope Yai) ["_law_text_here","_law_many","_law_ties","_law_seen_rows","_law_lines","_law_k","_law_words","_law_numbers","_law_good","_law_due","_law_left"] _ ["_law_ties","_law_numbers"] [2,7] from ⟨rfl,by decide +kernel,by decide +kernel,by decide +kernel,rfl,by decide +kernel⟩) rfl Yaa.nd rfl (Or.inl rfl) (Zbx rfl (mb "range"<|by decide)<|Zaa (Zav Zd5 Zag<|Zai (lenK K) rfl (mb "len"<|by decide) Zba<|Zaa (pv 2) Zad) Zad) (λ_ _ _ _ _=>(Za3 (i:=0) (show List.Nodup (["_law_end","_law_ties","_law_numbers"]:List Str) from by decide) rfl<|Or.inl rfl)) (λ_ _ _ _ _=>(Zhe<|Zaq Zbd (Za5 (ixK K hu) (Za5 (ixK K hu) (pv 1) (Zav Zhr (pv 0) Zag) λ_ _=>rfl) (Zav Zcw (pv 0) Zag) λ_ _=>rfl) (Za5 (ixK K hu) (pv 2) Zag λ_ _=>rfl)<|nomark _)) λ_ _ _ _ _=>(pv 0))<|Zaf (Zas (i:=8) Yaa.nd rfl (Or.inl rfl)<|Zdp (Zb3 Zhz (Za5 (ixK K hu) (pv 7) Zag λ_ _=>rfl) (pv 1)<|nomark _)<|Zdp (Zb3 (eqDK K hv) (Zai (sortIK K) rfl (mb "sorted"<|by decide) Zf5<|Zaa (Zbs (slK K) (pv 7) (Zb8 Zag) Zck) Zad) (pv 9)<|nomark _)<|Zgs<|Zb3 (eqDK K hv) (Zbs (slK K) (pv 7) (Zb8 Zag)<|Zb8 Zag) (Zbs (slK K) (pv 9) Zck<|Zb8 Zag)<|nomark _)<|Zah<|Zbg (PW.pt<|pw_and (truK K (pv 8) λ_=>rfl)<|pw_and1<|PW.pt<|pw_or (Zaq (eqL0K K hu) (pv 3) (Zbq Zad)<|nomark _)<|pw_or1<|Zaq Zhz (Za5 (ixK K hu) (pv 3) (Zq6 Zkd Zag) λ_ _=>rfl) (Za5 (ixK K hu) (pv 7) Zag λ_ _=>rfl)<|nomark _) (Zah<|Zc4<|bmK K PySem.F.plainAttrs_list PySem.F.slot_list_append PySem.F.type_list_append Zce (pv 3)<|Zaa (Za5 (ixK K hu) (pv 7) Zag λ_ _=>rfl) Zad)<|Zah<|Zas (i:=8) Yaa.nd rfl (Or.inl rfl) Zh7)<|Zah<|Zas (i:=8) Yaa.nd rfl (Or.inl rfl) Zh7)<|Zah<|Zbg (Zcl<|truK K (pv 8) λ_=>rfl) (Zah<|Zaw<|Zav (addK K) (pv 5) Zag) Za4)<|Zaf (Zef (i:=10) ["_law_tie"] (show CompSc (defScope Yai) ["_law_text_here","_law_many","_law_ties","_law_seen_rows","_law_lines","_law_k","_law_words","_law_numbers","_law_good","_law_due","_law_left"] _ ["_law_seen_rows"] [3] from ⟨rfl,by decide +kernel,by decide +kernel,by decide +kernel,rfl,by decide +kernel⟩) rfl Yaa.nd rfl (Or.inl rfl) (seqK K<|pv 2) (λ_ _ _ _ _=>(Za3 (i:=0) (show List.Nodup (["_law_tie","_law_seen_rows"]:List Str) from by decide) rfl<|Or.inl rfl)) (λ_ _ _ _ _=>(Zhe<|PW.pt<|pw_or (Zaq (notinK K hu) (Za5 (ixK K hu) (pv 0) Zag λ_ _=>rfl) (pv 1) rfl)<|pw_or1<|Zaq (notinK K hu) (Za5 (ixK K hu) (pv 0) Zag λ_ _=>rfl) (pv 1) rfl)) λ_ _ _ _ _=>(pv 0))<|Zah<|Zaw<|Zav Zd5 (Zav (addK K) (Zai (lenK K) rfl (mb "len"<|by decide) Zba<|Zaa (pv 4) Zad) Zag)<|Za2 Zns rfl (mb "int"<|by decide) Zgq<|Zaa (Zb3 (neL0K K hu) (pv 10) (Zbq Zad)<|nomark _) Zad),Zdc (λds Post hf=>?_) h⟩
 obtain⟨x,rfl,⟨hxl,hrl,hrow⟩,q⟩:=hf;refine⟨by simp,?_⟩;dsimp only[startD,Wbl,Wbn,Wbb,Wad];have hz2:x.length+2<=sizeLine:=Way (Wbw hxl 2) (by decide);refine Zar<|Zat<|Zaj ?_;refine Zar<|Zdk<|Zgd<|Zae ⟨by decide,?_⟩;refine Zar<|Zdk<|Zgd<|Zae ⟨by decide,?_⟩;refine Zar<|Zat<|Zbo<|Zc0<|Zac rfl ⟨_,rfl,Zax ⟨_,rfl,by decide,hz2,_,rfl,?_⟩⟩;show JS K _ (bSt x (Qaf x) none .any .any .any .any .any .any) _;have hne:=Zho x;generalize Qaf x=L at hrl hrow q hne ⊢;refine Zbj (λO=>∃st x5 x6 x7 x8 x9 x10,At84 L L.length st /\ O = bSt x L st x5 x6 x7 x8 x9 x10) ?_ ?_
 ·refine Zel (Zbw<|Zab<|Zay<|Zab<|Zac rfl<|Zae<|Zbe (Or.inl rfl)<|Zae ⟨_,rfl,by omega,by rw[Waa];omega,λi O=>∃st x5 x6 x7 x8 x9 x10,At84 L i st /\ O = bSt x L st x5 x6 x7 x8 x9 x10,⟨none,_,_,_,_,_,_,Zm0 L,rfl⟩,?_,λO hI=>?_⟩)
  case refine_2=>
   rw[Zbp,Waa,Wbf]at hI;exact hI
  rintro i d O hd ⟨st,x5,x6,x7,x8,x9,x10,hA,rfl⟩;rw[Waa,Wbf]at hd;obtain⟨hi,rfl⟩:=Zcb hd;rw[Wbx];have hz:=Wab hi;generalize L[i]=z at hz;have hB:=hrow z<|Wav hz;have hz3:z.length+2<=sizeLine:=Way (Wbw hB.len 2) (by decide);have hwl:=hB.wds;have hwd:∀y∈Qad z,y.cps.all (· < 128)=true/\y.length<=1000:=λy hy=>hB.word hy;refine Zb6<|Zar<|Zat<|Zbo<|Zc0<|Zak<|Zac rfl<|Zac rfl<|Zaz (d:=.str z) (Zau (by rw[Waf,hz];rfl)) ⟨_,rfl,Zax ⟨_,rfl,by decide,hz3,_,rfl,?_⟩⟩;show JS K _ (bSt x L st (.val (.int (i:Int))) (.val (.lst ((Qad z).map D.str))) x7 x8 x9 x10) _;cases hw:Qad z with
  |nil=>exact absurd hw (Zfl z)
  |cons wd ws=>
  rw[hw]at hwl hwd;rw[Wag]at hwl;have c1:cutD ((wd::ws).map D.str) (some 1) none=ws.map D.str:=(Zdm _ (j:=1)<|by simp).trans rfl;refine Zar<|Zat<|Zcc (by decide)<|Zgk<|Zfn<|Zac rfl<|Zca<|Zaj ⟨_,rfl,Zcg ⟨.lst<|ws.map D.str,by show some (D.lst _)=_;rw[c1],_,Or.inl rfl,?_,λ_=>true,lnumD,λi d hd=>?_,?_⟩⟩
  ·rw[Waa];exact small1000 (by omega)
  ·rw[Waf]at hd
   cases e:ws[i]? with
   |none=>rw[e]at hd;exact nomatch hd
   |some m=>
    rw[e]at hd;cases hd;obtain⟨a,b⟩:=hwd m<|Wap _<|Wav e;exact Zcy ⟨rfl,Za8<|Zab<|Zac rfl<|Zae ⟨m,rfl,a,b,rfl,_,rfl⟩⟩
  rw[Zt9];generalize hNs:(ws.map λz=>nmI<|wnum z)=Ns;have nl:Ns.length=ws.length:=by rw[<- hNs,Waa]
  have hg0:decide ((-1:Int)∈Ns)=decide (none∈ws.map wnum):=by rw[<- hNs];exact decide_eq_decide.mpr<|Zu1 ws
  have hNg:none ∉ ws.map wnum->Ns=Qab (Qag ws):=λh=>by rw[<- hNs];exact Zqj h
  refine Zar<|Zat<|Zak<|Zp3<|Zaj<|Zju<|Zac rfl<|Zob (neg:=true) ?_;rw[Qbw rfl,hg0];show JS K _ (bS2 x L st i wd ws Ns (!decide (none∈ws.map wnum)) x9 x10) _;refine Zbj (bCut x L st i wd ws Ns z x10) ?_ ?_
  case refine_2=>
   rintro O1 (⟨s',y9,e,rfl⟩|⟨e,y9,rfl⟩)
   ·exact Zbc<|Zb2<|Zbh<|Zac rfl ⟨true,rfl,iteF<|Za7 ⟨some s',_,_,_,_,_,_,Zi8 hA hz e,rfl⟩⟩
   ·refine Zbc (Zb2<|Zbh<|Zac rfl ⟨false,rfl,iteT<|Za0<|Zak<|Zac rfl<|Zaj<|Zch ?_⟩)
    rw[Zjz hA hz e]at q;exact q
  have ll:(Ns.map D.int).length=Ns.length:=Waa _;obtain⟨g,hgd⟩:∃g,g = !decide (none∈ws.map wnum):=⟨_,rfl⟩;rw[<- hgd];have hgt:g=true->none ∉ ws.map wnum:=λe h=>by rw[hgd,Qbx h]at e;cases e
  have hNl:g=true->Ns=Qab (Qag ws):=λe=>hNg<|hgt e;refine Zbc<|Zap<|Zak<|Zak<|Zac rfl<|Zaj<|Zaz (d:=.str wd) (Zau (j:=0) rfl)<|Zax<|Zci ⟨_,rfl,?_⟩;by_cases w1:wd=oS "places"
  ·rw[Qbx w1]
   refine iteT ?_;refine Zar<|Zat<|Zdj (x:=g) (y:=decide ((i:Int)=0) && (decide ((((Ns.map D.int).length:Nat):Int)=1) && (decide (1<=Ns.headD 0) && decide (Ns.headD 0<=25)))) (Zac rfl ⟨rfl,rfl⟩) (λhg=>Zdj (x:=decide ((i:Int)=0)) (Zak<|Zac rfl<|Zaj<|Zdv ⟨rfl,rfl⟩) (λ_=>Zdj (x:=decide ((((Ns.map D.int).length:Nat):Int)=1)) (Zak<|Zay<|Zab<|Zac rfl<|Zae<|Zbe (Or.inl rfl)<|Zaj<|Zdv ⟨rfl,rfl⟩) (λhl=>?_) ⟨rfl,rfl⟩) ⟨rfl,rfl⟩) ?_
   ·have hl:=of_decide_eq_true hl
    rw[ll]at hl
    match Ns,hl with
    |[],h=>exact absurd h (by simp)
    |_::_::_,h=>exact absurd h (by simp only[Wag];omega)
    |[v],_=>
     show JE K _ _ λd O1=>d=.bl (decide (1<=v) && decide (v<=25)) /\ O1=_;refine Ze9<|Zaj<|Zak<|Zac rfl<|Zaj<|Zaz (d:=.int v) (Zau (j:=0) rfl)<|Zcj ⟨_,rfl,?_⟩;by_cases a:1<=v
     ·rw[Qbw (Qbx a),Qbx a]
      exact Zaj<|Zcj ⟨rfl,rfl⟩
     ·rw[Qbv (by simp[a]),Qby a]
      exact⟨rfl,rfl⟩
   generalize hP:(g && (decide ((i:Int)=0) && (decide ((((Ns.map D.int).length:Nat):Int)=1) && (decide (1<=Ns.headD 0) && decide (Ns.headD 0<=25)))))=P1;cases P1 with
   |false=>
    refine Zbc<|Zbh<|Zac rfl ⟨false,rfl,iteF<|Za7 (.inr ⟨Zry hw w1 ?_,_,rfl⟩)⟩;rintro⟨h1,h2,n,h3,h4,h5⟩;have hg:g=true:=by rw[hgd,Qby h1];rfl
    have e1:(i:Int)=0:=by have:=hA.2.1.mpr h2;omega
    have e2:=hNl hg;rw[h3]at e2;rw[hg,Qbx e1,e2]at hP;have hP:(decide (1<=(n:Int)) && decide ((n:Int)<=25))=false:=hP;rw[Qbx (by omega),Qbx (by omega)]at hP;cases hP
   |true=>
    simp only[Wa6,decide_eq_true_eq]at hP;obtain⟨hg,h1,h2,h3,h4⟩:=hP;have hs:st=none:=hA.2.1.mp (by omega);have e2:=hNl hg;rw[ll,e2]at h2;have h2:(((Qab<|Qag ws).length:Nat):Int)=1:=h2;unfold Qab at h2;rw[Waa]at h2;have hex:∃n,Qag ws=[n]:=by
     match Qag ws,h2 with
     |[n],_=>exact⟨n,rfl⟩
     |[],h=>exact absurd h (by simp)
     |_::_::_,h=>exact absurd h (by simp only[Wag];omega)
    obtain⟨n,hn⟩:=hex;rw[hn]at e2;subst hs;subst e2;have h3:(1:Int)<=(n:Int):=h3;have h4:(n:Int)<=25:=h4;refine Zbc<|Zbh<|Zac rfl ⟨true,rfl,iteT ?_⟩;exact Zat<|Zak<|Zac rfl<|Zaj<|Zaz (d:=.int (n:Int)) (Zau (j:=0) rfl) (.inl ⟨_,_,Zmv hw w1 (hgt hg) rfl hn ⟨by omega,by omega⟩,rfl⟩)
  rw[Qby w1];refine iteF ?_;refine Zbc<|Zap<|Zak<|Zak<|Zac rfl<|Zaj<|Zaz (d:=.str wd) (Zau (j:=0) rfl)<|Zax<|Zci ⟨_,rfl,?_⟩;by_cases w2:wd=oS "tie"
  ·rw[Qbx w2]
   refine iteT ?_;refine Zar<|Zat<|Zdj (x:=g) (y:=decide ((i:Int) > 0) && (((Qai<|ordS st).map D.int).isEmpty && (decide ((((Ns.map D.int).length:Nat):Int)=2) && decide (((((Qa5 st).map lstP).length:Nat):Int)<24)))) (Zac rfl ⟨rfl,rfl⟩) (λhg=>Zdj (x:=decide ((i:Int) > 0)) (Zak<|Zac rfl<|Zaj<|Zcj ⟨rfl,rfl⟩) (λ_=>Zdj (x:=((Qai<|ordS st).map D.int).isEmpty) (Zuq (i:=3) rfl rfl<|Zak<|Zac rfl<|Zcs<|Zae ⟨by decide,Zoo ⟨trivial,rfl,rfl⟩⟩) (λ_=>Zdj (x:=decide ((((Ns.map D.int).length:Nat):Int)=2)) (Zak<|Zay<|Zab<|Zac rfl<|Zae<|Zbe (Or.inl rfl)<|Zaj<|Zdv ⟨rfl,rfl⟩) (λhl=>Zak<|Zep rfl rfl<|Zaj<|Zcj ⟨rfl,rfl⟩) ⟨rfl,rfl⟩) ⟨rfl,rfl⟩) ⟨rfl,rfl⟩) ?_;generalize hP:(g && (decide ((i:Int) > 0) && (((Qai<|ordS st).map D.int).isEmpty && (decide ((((Ns.map D.int).length:Nat):Int)=2) && decide (((((Qa5 st).map lstP).length:Nat):Int)<24)))))=P1;cases P1 with
   |false=>
    refine Zbc<|Zc6<|Zbh<|Zac rfl ⟨false,rfl,iteF<|iteF<|Zat<|Zjm (.inr ⟨Zm9 hw w2 ?_,_,rfl⟩)⟩;rintro⟨h1,s,rfl,ho,a,b,h3,h4,h5,h6⟩;have hg:g=true:=by rw[hgd,Qby h1];rfl
    have e1:(i:Int) > 0:=by
     have:i≠0:=λe=>nomatch hA.2.1.mp e;omega
    have e2:=hNl hg;rw[h3]at e2;rw[hg,Qbx e1,e2]at hP;have hP:(((Qai s.o).map D.int).isEmpty && decide ((((s.ts.map lstP).length:Nat):Int)<24))=false:=hP;rw[ho,Waa,Qbx (by omega)]at hP;cases hP
   |true=>
    simp only[Wa6,decide_eq_true_eq]at hP;obtain⟨hg,h1,h2,h3,h4⟩:=hP;cases st with
    |none=>exact absurd (hA.2.1.mpr rfl) (by omega)
    |some s=>
    have hS:=hA.2.2 s rfl;have ho:s.o=[]:=by
     refine(Zk5 hS.last).mp ?_;rw[Wdz,List.map_eq_nil_iff]at h2;exact h2
    rw[Waa]at h4;have h4:((s.ts.length:Nat):Int)<24:=h4;have e2:=hNl hg;rw[ll,e2]at h3;unfold Qab at h3;rw[Waa]at h3;have hex:∃a b,Qag ws=[a,b]:=by
     match Qag ws,h3 with
     |[a,b],_=>exact⟨a,b,rfl⟩
     |[],h=>exact absurd h (by simp)
     |[_],h=>exact absurd h (by simp)
     |_::_::_::_,h=>exact absurd h (by simp only[Wag];omega)
    obtain⟨a,b,hn⟩:=hex;rw[hn]at e2;subst e2;obtain⟨m,hm,hle⟩:=Zr1 (Qab [a,b]) (by simp[Qab]);have la:=hle (a:Int) (by simp[Qab]);have lb:=hle (b:Int) (by simp[Qab]);refine Zbc<|Zc6<|Zbh<|Zac rfl ⟨true,rfl,iteT<|Zap<|Zak<|Zay<|Zab<|Zac rfl<|Zae<|Zt5 (ns:=Qab [a,b]) (m:=m) (Or.inl rfl) hm hle<|Zac rfl<|Zcj ⟨_,rfl,?_⟩⟩;by_cases hmn:m<s.n
    ·rw[Qbx (show m<manyS (some s) from hmn)]
     refine iteT<|Zgw rfl rfl<|Zac rfl ⟨_,_,rfl,rfl,?_,.inl ⟨⟨s.n,s.ts++[((a:Int),(b:Int))],[]⟩,x9,Zo1 hw w2 (hgt hg) rfl ho hn ⟨by omega,by omega,by omega⟩,?_⟩⟩
     ·rw[Waa];exact small1000 (by show s.ts.length<=1000;omega)
     ·unfold bS2 bSt ordS Qa5
      dsimp only;rw[Wau,ho];rfl
    ·rw[Qby (show ¬ m<manyS (some s) from hmn)]
     refine iteF<|Zat<|Zjm (.inr ⟨Zm9 hw w2 ?_,_,rfl⟩);rintro⟨_,s',e,_,a',b',h3',_,h5,h6⟩;cases e;rw[hn]at h3';cases h3';have:m=(a:Int)\/m=(b:Int):=by simpa [Qab] using hm
     omega
  rw[Qby w2];refine iteF ?_;refine Zbc<|Zf6 (x:=decide (wd=oS "at")) (y:=g && (decide ((i:Int) > 0) && decide ((((Ns.map D.int).length:Nat):Int) > 1))) (Zap<|Zak<|Zak<|Zac rfl<|Zaj<|Zaz (d:=.str wd) (Zau (j:=0) rfl)<|Zax<|Zci ⟨_,rfl,rfl,rfl⟩) (Zf6 (x:=g) (Zbh<|Zac rfl ⟨_,rfl,rfl,rfl⟩) (Zf6 (x:=decide ((i:Int) > 0)) (Zap<|Zak<|Zac rfl<|Zaj<|Zcj ⟨_,rfl,rfl,rfl⟩) (Zap<|Zak<|Zay<|Zab<|Zac rfl<|Zae<|Zbe (Or.inl rfl)<|Zaj<|Zcj ⟨_,rfl,rfl,rfl⟩) ⟨rfl,rfl⟩) ⟨rfl,rfl⟩) ?_;generalize hP:(decide (wd=oS "at") && (g && (decide ((i:Int) > 0) && decide ((((Ns.map D.int).length:Nat):Int) > 1))))=P1;cases P1 with
  |false=>
   refine iteF<|Zat<|Zjm (.inr ⟨?_,_,rfl⟩);by_cases w3:wd=oS "at"
   case neg=>exact Zrv hw w1 w2 w3
   refine Zj2 hw w3 ?_;rintro⟨h1,s,rfl,p,l,h3,h4,h5,h6⟩;have hg:g=true:=by rw[hgd,Qby h1];rfl
   have e1:(i:Int) > 0:=by
    have:i≠0:=λe=>nomatch hA.2.1.mp e;omega
   have e2:=hNl hg;rw[h3]at e2;rw[Qbx w3,hg,Qbx e1,e2]at hP;have hP:decide ((((Qab (p::l)).map D.int).length:Int) > 1)=false:=hP;have:=of_decide_eq_false hP;unfold Qab at this;rw[Waa,Waa,Wag]at this;have:l.length=0:=by omega
   exact h4 (Wcb.mp this)
  |true=>
   simp only[Wa6,decide_eq_true_eq]at hP;obtain⟨w3,hg,h1,h2⟩:=hP;cases st with
   |none=>exact absurd (hA.2.1.mpr rfl) (by omega)
   |some s=>
   have hS:=hA.2.2 s rfl;have hW:=hS.web;have wl:=hW.len;have ol:=hS.ol;have n2:=hW.hi;have e2:=hNl hg;rw[ll,e2]at h2;unfold Qab at h2;rw[Waa]at h2;have hex:∃p a r,Qag ws=p::a::r:=by
    match Qag ws,h2 with
    |p::a::r,_=>exact⟨p,a,r,rfl⟩
    |[],h=>exact absurd h (by simp)
    |[_],h=>exact absurd h (by simp)
   obtain⟨p,a,r,hn⟩:=hex;rw[hn]at e2;subst e2;have rl:r.length<=60:=by
    have:(Qag ws).length=ws.length:=by unfold Qag;rw[Waa]
    rw[hn,Wag,Wag]at this;omega
   refine iteT ?_;show JS K _ (bS2 x L (some s) i wd ws (Qab (p::a::r)) g x9 x10) _;refine Zar<|Zat<|Zbo<|Ztd (i:=2) rfl rfl<|Zkq (by decide)<|Zbw<|Zab<|Zak<|Zaj<|Zay<|Zab<|Zac rfl<|Zae<|Zbe (Or.inl rfl)<|jr_I ?_<|Zae ⟨_,rfl,?_,?_,?_,λd=>match d with|.int e=>decide (Qac s.ts e.toNat=(p:Int))|_=>false,λd=>d,λj d hd=>?_,?_⟩
   ·exact .inl ⟨by omega,by omega⟩
   ·rw[Waa];omega
   ·rw[Waa];show 2*((s.ts.length:Nat):Int)<_;omega
   ·rw[Zbp,Waa];exact small1000 (by show (2*((s.ts.length:Nat):Int)).toNat<=1000;omega)
   ·rw[Waa]at hd
    obtain⟨hj,rfl⟩:=Zcb hd;have hj:j<(2*((s.ts.length:Nat):Int)).toNat:=hj;obtain⟨t,h1,h2⟩:=Zxw (ts:=s.ts) (e:=j) (by omega);refine Zap<|Zak<|Zak<|Zak<|Zac rfl<|Zak<|Zac rfl<|Zaj<|jr_I ⟨by omega,by omega⟩<|Zaz h1<|Zak<|Zac rfl<|Zaj<|jr_I (by show (0:Int)<2;omega)<|Zaz h2<|Zak<|Zac rfl<|Zaj<|Zaz (d:=.int (p:Int)) (Zau (j:=0) rfl)<|Zdv ⟨_,rfl,?_⟩;by_cases hp:Qac s.ts j=(p:Int)
    ·refine⟨?_,?_⟩
     ·show decide (Qac s.ts j=(p:Int))=decide (Qac s.ts (0+(j:Int)).toNat=(p:Int))
      rw[Wbx,Wbf]
     ·rw[Qbx hp];exact iteT<|Zac rfl ⟨rfl,_,rfl⟩
    ·refine⟨?_,?_⟩
     ·show decide (Qac s.ts j=(p:Int))=decide (Qac s.ts (0+(j:Int)).toNat=(p:Int))
      rw[Wbx,Wbf]
     ·rw[Qby hp];exact iteF ⟨_,rfl⟩
   have em:(2*(((((Qa5<|some s).map lstP).length:Nat):Int))).toNat=2*s.ts.length:=by rw[Waa];show (2*((s.ts.length:Nat):Int)).toNat=_;omega
   rw[em,List.map_id',Zgj s.ts _ (p:Int) _ λk=>by show decide (Qac s.ts (0+(k:Int)).toNat=(p:Int))=_;rw[Wbx,Wbf]];generalize hdue:Qaa s.ts (2*s.ts.length) (p:Int)=due;refine⟨⟨_,rfl,λe he=>?_⟩,_,rfl,?_⟩
   ·obtain⟨v,_,rfl⟩:=Wa2.mp he;trivial
   show JS K _ (bS2 x L (some s) i wd ws (Qab (p::a::r)) g (.val (.lst<|due.map D.int)) x10) _;have il:(Qab (a::r)).length=r.length+1:=by unfold Qab;rw[Waa,Wag]
   have c2:cutD ((Qab (p::a::r)).map D.int) (some 1) none=(Qab (a::r)).map D.int:=(Zdm _ (j:=1) (by simp[Qab])).trans rfl;have c3:cutD ((Qab (p::a::r)).map D.int) (some 1) (some 2)=[(a:Int)].map D.int:=by
    unfold cutD Qab;rw[show (some (1:Int))=some ((1:Nat):Int) from rfl,show (some (2:Int))=some ((2:Nat):Int) from rfl,HT.sIx_nat,HT.sIx_nat,Waa,Waa,Wag,Wag,Wc2 (by omega),Wc2 (by omega)];rfl
   have c4:cutD (due.map D.int) none (some 1)=(due.take 1).map D.int:=by
    cases due with
    |nil=>rfl
    |cons y l=>exact Zr3 ((y::l).map D.int) (j:=1) (by simp)
   have dlt:due.Pairwise (· < ·):=by rw[<- hdue];exact Zc1 _ _ _
   refine Zar<|Zat<|Zdj (x:=decide ((p:Int)<s.n)) (y:=decide ((Qab (a::r)).Perm due) && decide ([(a:Int)]=due.take 1)) (Zak<|Zak<|Zac rfl<|Zaj<|Zaz (d:=.int (p:Int)) (Zau (j:=0) rfl)<|Zac rfl<|Zcj ⟨rfl,rfl⟩) (λ_=>Zdj (x:=decide ((Qab (a::r)).Perm due)) ?_ (λ_=>?_) ⟨rfl,rfl⟩) ?_
   ·refine Zak (Zbo<|Zq5<|Zab<|Zfn<|Zac rfl<|Zca<|Zaj ⟨_,rfl,Zcg ⟨.lst ((Qab (a::r)).map D.int),?_,Zae ⟨Qab (a::r),rfl,by omega,λms m1 m2=>⟨_,rfl,?_⟩⟩⟩⟩)
    ·show some (D.lst _)=_;rw[<- c2]
    ·refine Zac rfl (Zml (n:=2) (by decide) (Zew _) (Zew _) rfl rfl ⟨?_,rfl⟩)
     show D.bl (eqF 2 (lstI ms)<|lstI due)=_;rw[Zhv,Zgh m1 m2 dlt]
   ·refine Zak (Zfn<|Zac rfl<|Zca<|Zaj ⟨_,rfl,Zca<|Zaj ⟨_,rfl,.lst ([(a:Int)].map D.int),?_,Zfn<|Zac rfl<|Zcg<|Zca<|Zaj ⟨_,rfl,.lst ((due.take 1).map D.int),?_,?_⟩⟩⟩)
    ·show some (D.lst _)=_;rw[<- c3]
    ·show some (D.lst _)=_;rw[<- c4]
    ·refine Zml (n:=2) (by decide) (Zew _) (Zew _) rfl rfl ⟨?_,rfl⟩
     show D.bl (eqF 2 (lstI [(a:Int)])<|lstI<|due.take 1)=_;rw[Zhv]
   generalize hP:(decide ((p:Int)<s.n) && (decide ((Qab (a::r)).Perm due) && decide ([(a:Int)]=due.take 1)))=P1;have iff1:Qam s.ts (2*s.ts.length) (p:Int) (Qab (a::r))↔(Qab (a::r)).Perm due /\ [(a:Int)]=due.take 1:=by
    rw[<- hdue];constructor
    ·intro h
     refine⟨h.perm,?_⟩;have:=h.first;cases e:Qaa s.ts (2*s.ts.length) (p:Int) with
     |nil=>rw[e]at this;exact nomatch this
     |cons y l=>rw[e]at this;cases this;rfl
    ·rintro⟨h1,h2⟩
     refine⟨h1,?_⟩;cases e:Qaa s.ts (2*s.ts.length) (p:Int) with
     |nil=>rw[e]at h2;exact nomatch h2
     |cons y l=>rw[e]at h2;cases h2;rfl
   cases P1 with
   |false=>
    refine Zbc<|Zc6<|Zbh<|Zac rfl ⟨false,rfl,iteF<|iteF<|Zat<|Zjm (.inr ⟨Zj2 hw w3 ?_,_,rfl⟩)⟩;rintro⟨_,s',e,p',l',h3,h4,h5,h6⟩;cases e;rw[hn]at h3;cases h3;obtain⟨b1,b2⟩:=iff1.mp h6;have b0:=Zfm hW.tie h6 (by simp[Qab]);rw[Qbx b0,Qbx b1,Qbx b2]at hP;cases hP
   |true=>
    simp only[Wa6,decide_eq_true_eq]at hP;obtain⟨b0,b1,b2⟩:=hP;have hR:=iff1.mpr ⟨b1,b2⟩;have fine:∀{bk ct:Evt->Prop}{ro:OD->Evt->Prop},s.o.length<=p->JS K (tDrop<|tBM K "list" rAppend (tVar 3)<|tCons (tOp (rIxU K) (tVar 7)<|tC (.int 0)) tNil) (bS2 x L (some s) i wd ws (Qab (p::a::r)) true (.val (.lst<|due.map D.int)) x10) ⟨bCut x L (some s) i wd ws (Qab (p::a::r)) z x10,λd _=>Post d,bk,ct,ro⟩:=λ{_ _ _} hp=>by
     have es:=Zfc s.o (p-s.o.length) (r:=Qab (a::r)) (by simp[Qab]);rw[show s.o.length+(p-s.o.length)=p by omega]at es;refine Zgw rfl rfl<|Zak<|Zac rfl<|Zaj<|Zaz (d:=.int (p:Int)) (Zau (j:=0) rfl) ⟨_,_,rfl,rfl,?_,.inl ⟨⟨s.n,s.ts,s.o++Wad (p-s.o.length) []++[Qab (a::r)]⟩,.val (.lst<|due.map D.int),Zmy hw w3 (hgt hg) rfl hn ⟨by simp,hp,hR⟩,?_⟩⟩
     ·rw[Waa]
      refine small1000 (Way (m:=s.o.length) ?_<|by omega);show (Qai s.o).length<=s.o.length;unfold Qai;rw[Waa];exact Way (Wcz _ _) (by rw[Wcw];exact Waj _)
     ·unfold bS2 bSt ordS Qa5
      dsimp only;rw[es,Wau];rfl
    refine Zbc<|Zc6<|Zbh<|Zac rfl ⟨true,rfl,iteT<|Zeq<|Ztm (i:=3) rfl rfl<|Zap<|Zak<|Zac rfl<|Zcs<|Zae ⟨by decide,Zoo ⟨_,rfl,?_⟩⟩⟩;by_cases h0:Qai s.o=[]
    ·have ho:=(Zk5 hS.last).mp h0
     have eb:((Qai s.o).map D.int).isEmpty=true:=by rw[h0];rfl
     rw[show ((Qai<|ordS<|some s).map D.int).isEmpty=true from eb];exact iteT<|iteT<|fine (by rw[ho];exact Wbu _)
    ·have eb:((Qai s.o).map D.int).isEmpty=false:=by
      cases e:Qai s.o with
      |nil=>exact absurd e h0
      |cons y l=>rfl
     rw[show ((Qai<|ordS<|some s).map D.int).isEmpty=false from eb];refine iteF<|Zap<|Zak<|Zey rfl rfl<|Zp3<|Zaj<|Zju ⟨_,_,_,_,rfl,rfl,rfl,Ztw hS h0,Zak<|Zac rfl<|Zaj<|Zaz (d:=.int (p:Int)) (Zau (j:=0) rfl)<|Zcj ⟨_,rfl,?_⟩⟩;by_cases hp:s.o.length<=p
     ·rw[Qbx (by omega)]
      exact iteT<|fine hp
     ·rw[Qby (by omega)]
      refine iteF<|Zat<|Zjm (.inr ⟨Zj2 hw w3 ?_,_,rfl⟩);rintro⟨_,s',e,p',l',h3,h4,h5,h6⟩;cases e;rw[hn]at h3;cases h3;exact hp h5
 rintro O1 ⟨st,x5,x6,x7,x8,x9,x10,hA,rfl⟩;obtain⟨s,rfl,hS,g1,g2⟩:=Zg7 hA hne;show JS K _ [.val (.str x),.val (.int s.n),.own (.lst<|s.ts.map lstP),.own (.lst ((Qai s.o).map .int)),.val (.lst<|L.map .str),x5,x6,x7,x8,x9,x10] _;refine Zof (i:=2) rfl<|Zof (i:=3) rfl ?_;refine Zar<|Zat<|Zcc (by decide)<|Zgk<|Zac rfl ⟨_,Or.inl rfl,?_,leftB<|Qai s.o,λd=>d,λi d hd=>?_,?_⟩
 ·rw[Waa];have:=hS.web.len;exact small1000 (by show s.ts.length<=1000;omega)
 ·rw[Waf]at hd
  cases e:s.ts[i]? with
  |none=>rw[e]at hd;exact nomatch hd
  |some t=>
   rw[e]at hd;cases hd;refine Zeq<|Zap<|Zak<|Zak<|Zac rfl<|Zaj<|Zaz (d:=.int t.1) (Zau (j:=0) rfl)<|Zac rfl<|Zob (neg:=true) ⟨_,rfl,?_⟩;rw[Qbw rfl];by_cases a:t.1∈Qai s.o
   ·rw[Qbx a]
    refine iteF<|Zap<|Zak<|Zak<|Zac rfl<|Zaj<|Zaz (d:=.int t.2) (Zau (j:=1) rfl)<|Zac rfl<|Zob (neg:=true) ⟨_,rfl,?_⟩;rw[Qbw rfl];have e0:leftB (Qai s.o) (lstP t) = !decide (t.2∈Qai s.o):=by
     show (!decide (t.1∈Qai s.o) || !decide (t.2∈Qai s.o))=_;rw[Qbx a];rfl
    refine⟨e0.symm,?_⟩;by_cases b:t.2∈Qai s.o
    ·rw[Qbx b];exact iteF ⟨_,rfl⟩
    ·rw[Qby b];exact iteT<|Zac rfl ⟨rfl,_,rfl⟩
   ·rw[Qby a]
    have e0:leftB (Qai s.o) (lstP t)=true:=by
     show (!decide (t.1∈Qai s.o) || !decide (t.2∈Qai s.o))=_;rw[Qby a];rfl
    exact iteT ⟨e0.symm,iteT<|Zac rfl ⟨rfl,_,rfl⟩⟩
 have hE:=Zro (ts:=s.ts) (S:=Qai s.o);refine Za0<|Zak<|Zak<|Zay<|Zab<|Zac rfl<|Zae<|Zbe (Or.inl rfl)<|Zaj<|Zch<|Zay<|Zab<|Zak<|Zac rfl<|Zcs<|Zae ⟨by decide,Zth<|Zae<|Zue ?_⟩;rw[hE,Waa];by_cases hF:Qaz s
 ·rw[Qbx ((Zpe hS).mp hF)]
  rw[g1 hF]at q;refine jr_I ?_ ?_
  ·exact .inl ⟨by omega,by omega⟩
  ·rw[show (((L.length:Nat):Int)+1)*(if (!true)=true then 1 else 0)=((0:Nat):Int) by simp];exact q
 ·rw[Qby λg=>hF ((Zpe hS).mpr g)]
  rw[g2 hF]at q;refine jr_I ?_ ?_
  ·exact .inl ⟨by omega,by omega⟩
  ·rw[show (((L.length:Nat):Int)+1)*(if (!false)=true then 1 else 0)=((L.length+1:Nat):Int) by simp];exact q
end
theorem Zu3 {K:W.Frag}{O:Evt}{i:Nat}{kds:List (Key × D)}{t:TS}{P:Pst}(h:O[i]?=some (.own (.dct kds))) (p:JS K t (O.set i (.val<|dctD kds)) P):JS K t O P:=
 JS.conv (λg G H Z k=>by
  obtain⟨a,h1,pd⟩:=k.take h;obtain⟨o,q1,q2,_⟩:=id pd;cases o with
  |dK vs=>
   obtain⟨k2,sg,r⟩:=(k.drop i).freezeD pd q1;have k3:=k2.setVal (i:=i) (by simpa using (Wah.mp h).1) r;have e1:Z.set i (some (.ref a)) = Z:=by
    apply Wby
    intro j;by_cases hj:j=i
    ·subst hj;rw[Wak (k.lt h),h1]
    ·rw[Wan (Ne.symm hj)]
   rw[e1,List.set_set]at k3;exact⟨_,sg,k3⟩
  |_=>exact absurd q2 (λz=>z)) p
def kvO (o:Qb2):List (Key × D):=(Qai o).map λp=>(.inl p,Qae (o.getD p.toNat []))
theorem Zvc {o:Qb2}{k:Nat}{r:List Int}(h:r≠[]):putD (kvO o) (.inl ((o.length+k:Nat):Int)) (Qae r)=kvO (o++Wad k []++[r]):=by
 have hn:((kvO o).any λkv=>decide (kv.1=Sum.inl ((o.length+k:Nat):Int)))=false:=by
  rw[List.any_eq_false];intro kv hkv;obtain⟨p,hp,rfl⟩:=Wa2.mp hkv;obtain⟨j,r',rfl,hj,_⟩:=Zen.mp hp;have hj:=(Wah.mp hj).1;intro z;have z:=of_decide_eq_true z;have z:(j:Int)=((o.length+k:Nat):Int):=Sum.inl.inj z;omega
 unfold putD;rw[hn,Qbv Wao];unfold kvO;rw[Zfc o k h,Wau];congr 1
 ·apply Wc1
  intro p hp;obtain⟨j,r',rfl,hj,_⟩:=Zen.mp hp;have hj:=(Wah.mp hj).1;rw[Wbf,Waq,Waq,Wbk,Waz hj]
 ·show [(Sum.inl ((o.length+k:Nat):Int),Qae r)]=[(Sum.inl ((o.length+k:Nat):Int),Qae ((o++Wad k []++[r]).getD ((o.length+k:Nat):Int).toNat []))]
  rw[Wbf,Waq,Wax (by simp)];simp
theorem Zsy {o:Qb2}(p:Nat):(valD (kvO o) (.inl (p:Int))).getD (.tup [])=Qae (o.getD p []):=by
 unfold valD;cases e:(kvO o).find? λkv=>decide (kv.1=Sum.inl (p:Int)) with
 |none=>
  rw[List.find?_eq_none]at e;have:o.getD p []=[]:=by
   rw[Waq];cases q:o[p]? with
   |none=>rfl
   |some r=>
    by_cases hr:r=[]
    ·rw[hr];rfl
    ·exact absurd (Qbx rfl)<|e (.inl (p:Int),Qae (o.getD (p:Int).toNat []))<|Wa2.mpr ⟨(p:Int),Zen.mpr ⟨p,r,rfl,q,hr⟩,rfl⟩
  rw[this];rfl
 |some kv=>
  have h0:(λkv:Key × D=>decide (kv.1=Sum.inl (p:Int))) kv=true:=List.find?_some (p:=λkv:Key × D=>decide (kv.1=Sum.inl (p:Int))) e;have h1:=of_decide_eq_true h0;obtain⟨x,hx,rfl⟩:=Wa2.mp<|List.mem_of_find?_eq_some e;have h1:x=(p:Int):=Sum.inl.inj h1;subst h1;show Qae (o.getD (p:Int).toNat [])=_;rw[Wbf]
theorem Zu5 (o:Qb2):(kvO o).length<=o.length:=by
 unfold kvO Qai;rw[Waa,Waa];exact Way (Wcz _ _) (by rw[Wcw];exact Waj _)
theorem Zri {s:St84}(p:Nat):(Qal s).getD p []=s.o.getD p []:=by
 unfold Qal;rw[Waq,Waq];by_cases h:p<s.o.length
 ·rw[Waz h]
 ·rw[Wax (by omega),Wcf (by omega:s.o.length<=p),Wbe]
  split <;> rfl
theorem Zp4 {st:Option St84}{r w:PySem.Str}{ws:List PySem.Str}{s':St84}(hw:Qad r=w::ws) (e:Qao st r=some s'):none ∉ ws.map wnum /\
  ((w=oS "places" /\ st=none/\∃n,Qag ws=[n]/\s'=⟨(n:Int),[],[]⟩) \/
   (w=oS "tie" /\ ∃s,st=some s/\s.o=[]/\∃a b,Qag ws=[a,b]/\s.ts.length<24/\s'=⟨s.n,s.ts++[((a:Int),(b:Int))],[]⟩) \/
   (w=oS "at" /\ ∃s,st=some s/\∃(p:Nat) (l:List Nat),Qag ws=p::l/\l≠[]/\s.o.length<=p/\s'=⟨s.n,s.ts,s.o++Wad (p-s.o.length) []++[Qab l]⟩)):=by
 have ne:Qao st r≠none:=by rw[e];simp
 by_cases w1:w=oS "places"
 ·have h:=Classical.byContradiction λh=>ne (Zry hw w1 h)
  obtain⟨h1,h2,n,h3,h4⟩:=h;have e2:=Zmv hw w1 h1 h2 h3 h4;rw[e]at e2;exact⟨h1,.inl ⟨w1,h2,n,h3,Waw.inj e2⟩⟩
 by_cases w2:w=oS "tie"
 ·have h:=Classical.byContradiction λh=>ne (Zm9 hw w2 h)
  obtain⟨h1,s,h2,ho,a,b,h3,h4⟩:=h;have e2:=Zo1 hw w2 h1 h2 ho h3 h4;rw[e]at e2;exact⟨h1,.inr (.inl ⟨w2,s,h2,ho,a,b,h3,h4.1,Waw.inj e2⟩)⟩
 by_cases w3:w=oS "at"
 ·have h:=Classical.byContradiction λh=>ne (Zj2 hw w3 h)
  obtain⟨h1,s,h2,p,l,h3,h4⟩:=h;have e2:=Zmy hw w3 h1 h2 h3 h4;rw[e]at e2;exact⟨h1,.inr (.inr ⟨w3,s,h2,p,l,h3,h4.1,h4.2.1,Waw.inj e2⟩)⟩
 exact absurd (Zrv hw w1 w2 w3) ne
def iSt (x:PySem.Str) (st:Option St84) (x4 x5 x6:L2.Slot):Evt:=[.val (.str x),.val (.int<|manyS st),.own (.lst ((Qa5 st).map Qak)),.own (.dct<|kvO<|ordS st),x4,x5,x6]
def fFin84:DSp:=λds Post=>∃x:PySem.Str,ds=[.str x]/\Qaw x/\Qaj (Qaf x)=0/\Post (outD<|Qaf x)
noncomputable def Qba (rows:List PySem.Str):D:=if Qaj rows=0 then outD rows else .lst [.int ((Qaj rows:Nat):Int)]
def Qbc:DSp:=λds Post=>∃x:PySem.Str,ds=[.str x]/\Qaw x/\Post (Qba<|Qaf x)
def Qa1:DSp:=λds Post=>∃x:PySem.Str,ds=[.str x]/\Qaw x/\Post (.bl true)
def intD84:D->D
 |.str z=>.int (((wnum z).getD 0:Nat):Int)
 |d=>d
theorem Zp7 (ws:List PySem.Str):((ws.map D.str).filter λ_=>true).map intD84=(Qab<|Qag ws).map D.int:=by
 unfold Qab Qag;rw[Wbt.mpr (by simp),Wa8,Wa8,Wa8];rfl
section
variable {P:Program}{w:World}{K:W.Frag}{mg:Str->Option Value}{base:Heap}{f fI:Addr}{fd:FuncData}{c0 c1 c2 c3 c4 c5 c6 c7 c8 c9 c10 c11 c12 c13 c14 c15:Addr}
theorem Zp2 (mb:Mb mg) (F:Fun K "_law_floor_in" "_law_floor_in" Yao f fd):FnOk P w K mg base CX0 1 f fd ["_law_text_here"] (spD K fFin84):=by
 refine F.ok Yad (Zbi λds Post h=>by obtain⟨_,rfl,_⟩:=h;rfl) λcdv A outer s H vs Q E hr h=>?_;have hu:=Zb1 hr;have hv:=Zeo hr;refine⟨_,(Zaf (Zas (i:=1) Yad.nd rfl (Or.inl rfl) Zag)<|Zaf (Zas (i:=2) Yad.nd rfl (Or.inl rfl)<|Zbq Zad)<|Zaf (Zas (i:=3) Yad.nd rfl (Or.inr rfl) Zqy)<|Zaf (Zdu PassesOwn.never rfl (seqK K<|bmK K PySem.F.plainAttrs_str PySem.F.slot_str_split PySem.F.type_str_split (splitK K) (pv 0)<|Zaa Za1 Zad) (Za3 (i:=4) Yad.nd rfl<|Or.inl rfl)<|Zaf (Zas (i:=5) Yad.nd rfl (Or.inl rfl)<|bmK K PySem.F.plainAttrs_str PySem.F.slot_str_split PySem.F.type_str_split (splitK K) (pv 4)<|Zaa Za1 Zad)<|Zaf (Zef (i:=6) ["_law_word"] (show CompSc (defScope Yao) ["_law_text_here","_law_many","_law_ties","_law_rows","_law_line","_law_words","_law_numbers"] _ [] [] from ⟨rfl,by decide +kernel,by decide +kernel,by decide +kernel,rfl,by decide +kernel⟩) rfl Yad.nd rfl (Or.inl rfl) (seqK K<|Zbs (slK K) (pv 5) (Zb8 Zag) Zck) (λ_ _ _ _ _=>(Za3 (i:=0) (show List.Nodup (["_law_word"]:List Str) from by decide) rfl<|Or.inl rfl)) (λ_ _ _ _ _=>Zcx) λ_ _ _ _ _=>(Za2 Zf0 rfl (mb "int"<|by decide) Zgq<|Zaa (pv 0) Zad))<|Zah<|Zbg (Zaq Zbd (Za5 (ixK K hu) (pv 5) Zag λ_ _=>rfl) Za1<|nomark _) (Zah<|Zas (i:=1) Yad.nd rfl (Or.inl rfl)<|Za5 (ixK K hu) (pv 6) Zag λ_ _=>rfl)<|Zah<|Zbg (Zaq Zbd (Za5 (ixK K hu) (pv 5) Zag λ_ _=>rfl) Za1<|nomark _) (Zah<|Zc4<|bmK K PySem.F.plainAttrs_list PySem.F.slot_list_append PySem.F.type_list_append Zce (pv 2)<|Zaa (Zb0<|Zaa (Za5 (ixK K hu) (pv 6) Zag λ_ _=>rfl)<|Zaa (Za5 (ixK K hu) (pv 6) Zag λ_ _=>rfl) Zad) Zad)<|Zah<|Ze3 (Za2 (tupK K) rfl (mb "tuple"<|by decide) Zbt<|Zaa (Zbs (slK K) (pv 6) (Zb8 Zag) Zck) Zad)<|Zfx (pv 3) (Za5 (ixK K hu) (pv 6) Zag λ_ _=>rfl)<|setU hu)<|Zah<|Zaw<|Zb0<|Zaa (Zb0<|Zaa (pv 1)<|Zaa (Za2 (tupK K) rfl (mb "tuple"<|by decide) Zbt<|Zaa (pv 2) Zad) Zad)<|Zaa (Za2 (tupK K) rfl (mb "tuple"<|by decide) Zbt<|Zaa (Zcm ["_law_place"] (show CompSc (defScope Yao) ["_law_text_here","_law_many","_law_ties","_law_rows","_law_line","_law_words","_law_numbers"] _ ["_law_rows"] [3] from ⟨rfl,by decide +kernel,by decide +kernel,by decide +kernel,rfl,by decide +kernel⟩) rfl (Zbx rfl (mb "range"<|by decide)<|Zaa (pv 1) Zad) (λ_ _ _ _ _=>(Za3 (i:=0) (show List.Nodup (["_law_place","_law_rows"]:List Str) from by decide) rfl<|Or.inl rfl)) (λ_ _ _ _ _=>Zcx) λ_ _ _ _ _=>(bmK K PySem.F.plainAttrs_dict PySem.F.slot_dict_get PySem.F.type_dict_get (Zto hu) (pv 1)<|Zaa (pv 0)<|Zaa (Zb0 Zad) Zad)) Zad) Zad),Zdc (λds Post hf=>?_) h⟩;obtain⟨x,rfl,⟨hxl,hrl,hrow⟩,hbad,q⟩:=hf;refine⟨by simp,?_⟩;dsimp only[startD,Wbl,Wbn,Wbb,Wad];have hz2:x.length+2<=sizeLine:=Way (Wbw hxl 2) (by decide);refine Zar<|Zat<|Zaj ?_;refine Zar<|Zdk<|Zgd<|Zae ⟨by decide,?_⟩;refine Zar<|Zdk<|Zuy ?_;show JS K _ (iSt x none .any .any .any) _;have hne:=Zho x;refine Zbj (λO=>∃st x4 x5 x6,At84 (Qaf x) (Qaf x).length st /\ O = iSt x st x4 x5 x6) ?_ ?_
 ·refine Zel (Zgk<|Zbo<|Zc0<|Zac rfl ⟨_,rfl,Zax ⟨_,rfl,by decide,hz2,_,rfl,_,Or.inl rfl,λi O=>∃st x4 x5 x6,At84 (Qaf x) i st /\ O = iSt x st x4 x5 x6,⟨none,_,_,_,Zm0 _,rfl⟩,?_,λO hI=>?_⟩⟩)
  case refine_2=>
   rw[Waa]at hI;exact hI
  rintro i d O hd ⟨st,x4,x5,x6,hA,rfl⟩;have hd:((Qaf x).map D.str)[i]?=some d:=hd;generalize Qaf x=L at hrl hrow hbad q hne hA hd ⊢;rw[Waf]at hd;cases hz:L[i]? with
  |none=>rw[hz]at hd;exact nomatch hd
  |some z=>
  rw[hz]at hd;cases hd;have hB:=hrow z<|Wav hz;have hz3:z.length+2<=sizeLine:=Way (Wbw hB.len 2) (by decide);have hwl:=hB.wds;have hwd:∀y∈Qad z,y.cps.all (· < 128)=true/\y.length<=1000:=λy hy=>hB.word hy;refine Zb6<|Zar<|Zat<|Zbo<|Zc0<|Zac rfl ⟨_,rfl,Zax ⟨_,rfl,by decide,hz3,_,rfl,?_⟩⟩;show JS K _ (iSt x st (.val (.str z)) (.val (.lst ((Qad z).map D.str))) x6) _;cases hw:Qad z with
  |nil=>exact absurd hw (Zfl z)
  |cons wd ws=>
  rw[hw]at hwl hwd;rw[Wag]at hwl;cases hstep:Qao st z with
  |none=>have:=Zjz hA hz hstep;omega
  |some s'=>
  obtain⟨hN,hcase⟩:=Zp4 hw hstep;have hA':=Zi8 hA hz hstep;have c1:cutD ((wd::ws).map D.str) (some 1) none=ws.map D.str:=(Zdm _ (j:=1)<|by simp).trans rfl;refine Zar<|Zat<|Zcc (by decide)<|Zgk<|Zfn<|Zac rfl<|Zca<|Zaj ⟨_,rfl,Zcg ⟨.lst<|ws.map D.str,by show some (D.lst _)=_;rw[c1],_,Or.inl rfl,?_,λ_=>true,intD84,λi d hd=>?_,?_⟩⟩
  ·rw[Waa];exact small1000 (by omega)
  ·rw[Waf]at hd
   cases e:ws[i]? with
   |none=>rw[e]at hd;exact nomatch hd
   |some m=>
    rw[e]at hd;cases hd;have hok:wOk m:=Classical.byContradiction λhn=>hN<|Wa2.mpr ⟨m,Wav e,Zhi hn⟩;refine Zcy ⟨rfl,Zay<|Zab<|Zac rfl<|Zae<|Zjp (Zjd hok) (by have:=hok.2.1;omega) ⟨?_,_,rfl⟩⟩;show D.int _=D.int (((wnum m).getD 0:Nat):Int);rw[Zht hok];rfl
  rw[Zp7];generalize Qag ws=ns at hcase;refine Zbc<|Zap<|Zak<|Zak<|Zac rfl<|Zaj<|Zaz (d:=.str wd) (Zau (j:=0) rfl)<|Zax<|Zci ⟨_,rfl,?_⟩;rcases hcase with ⟨w1,rfl,n,rfl,rfl⟩|⟨w2,s,rfl,ho,a,b,rfl,hl,rfl⟩|⟨w3,s,rfl,p,l,rfl,hl,hp,rfl⟩
  ·rw[Qbx w1]
   exact iteT<|Zat<|Zak<|Zac rfl<|Zaj<|Zaz (d:=.int (n:Int)) (Zau (j:=0) rfl) ⟨_,_,_,_,hA',rfl⟩
  ·have w1:wd≠oS "places":=by rw[w2];decide +kernel
   rw[Qby w1];refine iteF<|Zbc<|Zap<|Zak<|Zak<|Zac rfl<|Zaj<|Zaz (d:=.str wd) (Zau (j:=0) rfl)<|Zax<|Zci ⟨_,rfl,?_⟩;rw[Qbx w2];refine iteT<|Zgw rfl rfl<|Zb9<|Zab<|Zak<|Zac rfl<|Zaj<|Zaz (d:=.int (a:Int)) (Zau (j:=0) rfl)<|Zab<|Zak<|Zac rfl<|Zaj<|Zaz (d:=.int (b:Int)) (Zau (j:=1) rfl)<|Zae ⟨Zdw,_,_,rfl,rfl,?_,_,.val (.str z),.val (.lst ((wd::ws).map D.str)),.val (.lst ((Qab [a,b]).map D.int)),hA',?_⟩
   ·rw[Waa];exact small1000 (by show s.ts.length<=1000;omega)
   ·unfold iSt ordS Qa5
    dsimp only;rw[Wau,ho];rfl
  ·have w1:wd≠oS "places":=by rw[w3];decide +kernel
   have w2:wd≠oS "tie":=by rw[w3];decide +kernel
   rw[Qby w1];refine iteF<|Zbc<|Zap<|Zak<|Zak<|Zac rfl<|Zaj<|Zaz (d:=.str wd) (Zau (j:=0) rfl)<|Zax<|Zci ⟨_,rfl,?_⟩;rw[Qby w2];have c2:cutD ((Qab (p::l)).map D.int) (some 1) none=(Qab l).map D.int:=(Zdm _ (j:=1) (by simp[Qab])).trans rfl;have hS:=hA.2.2 s rfl;have ol:=hS.ol;have n2:=hS.web.hi;have kl:=Zu5 s.o;have ek:=Zvc (o:=s.o) (k:=p-s.o.length) (r:=Qab l) (by simpa [Qab] using hl);rw[show s.o.length+(p-s.o.length)=p by omega]at ek;refine iteF<|Ztc<|Zay<|Zab<|Zfn<|Zac rfl<|Zca<|Zaj ⟨_,rfl,Zcg ⟨.lst ((Qab l).map D.int),?_,Zae<|Zdq (Or.inl rfl) ⟨⟨_,_,rfl,rfl⟩,Zak<|Zac rfl<|Zaj<|Zaz (d:=.int (p:Int)) (Zau (j:=0) rfl) ⟨_,_,_,rfl,rfl,rfl,?_,_,.val (.str z),.val (.lst ((wd::ws).map D.str)),.val (.lst ((Qab (p::l)).map D.int)),hA',?_⟩⟩⟩⟩
   ·show some (D.lst _)=_;rw[<- c2]
   ·exact small1000 (by show (kvO s.o).length<=1000;omega)
   ·unfold iSt ordS
    dsimp only;rw[<- ek];rfl
 rintro O1 ⟨st,x4,x5,x6,hA,rfl⟩;obtain⟨s,rfl,hS,g1,g2⟩:=Zg7 hA hne;rw[Zne hA]at q;show JS K _ [.val (.str x),.val (.int s.n),.own (.lst<|s.ts.map Qak),.own (.dct<|kvO s.o),x4,x5,x6] _;have hW:=hS.web;have n1:=hW.lo;have n2:=hW.hi;have fl:=Zg6 hS;refine Zof (i:=2) rfl<|Zu3 (i:=3) rfl ?_;refine Za0<|Zb9<|Zab<|Zb9<|Zab<|Zac rfl<|Zab<|Zay<|Zab<|Zac rfl<|Zae<|Zdq (Or.inl rfl)<|Zae ⟨Zdw,Zab<|Zay<|Zab<|Zcc (by decide)<|Zbw<|Zab<|Zac rfl<|Zae ⟨s.n,rfl,by omega,by omega,by rw[Zbp];exact small1000 (by omega),λ_=>true,λd=>match d with|.int i=>Qae (s.o.getD i.toNat [])|d=>d,λi d hd=>?_,?_⟩⟩
 ·obtain⟨hi,rfl⟩:=Zcb hd
  rw[Wbx];refine Zcy ⟨rfl,Zvd rfl<|Zac rfl<|Zb9<|Zae ⟨by decide,(i:Int),rfl,?_,_,rfl⟩⟩;rw[Zsy];show Qae (s.o.getD i [])=Qae (s.o.getD (i:Int).toNat []);rw[Wbf]
 ·have e:((rngD 0 s.n.toNat).filter λ_=>true).map (λd=>match d with|.int i=>Qae (s.o.getD i.toNat [])|d=>d)=(Qal s).map Qae:=by
   rw[Wbt.mpr (by simp)];unfold rngD;rw[Wa8];apply Wby
   intro i;rw[Waf,Waf];by_cases hi:i<s.n.toNat
   ·rw[List.getElem?_range hi,Wab (by omega:i<(Qal s).length)]
    show some (Qae<|s.o.getD (0+(i:Int)).toNat [])=some (Qae (Qal s)[i]);rw[Wbx,Wbf,<- Zri,Waq,Wab (by omega:i<(Qal s).length)];rfl
   ·rw[Wcf (by rw[Wcw];omega),Wcf (by omega)];rfl
  rw[e];exact Zae<|Zdq (Or.inl rfl)<|Zae ⟨Zdw,q⟩
end
section
variable {P:Program}{w:World}{K:W.Frag}{mg:Str->Option Value}{base:Heap}{f:Addr}{fd:FuncData}
theorem Zrm (mb:Mb mg) (F:Fun K "_law_whole" "_law_whole" Ybc f fd):FnOk P w K mg base CX0 1 f fd ["_law_found"] (spD K Qa4):=by
 refine F.ok Ybz (Zbi λds Post h=>by obtain⟨_,rfl,_⟩:=h;rfl) λcdv A outer s H vs Q E hr h=>?_;have hu:=Zb1 hr;refine⟨_,(Zah<|Zaw<|Zdp (Zai (isiUK K) rfl (mb "isinstance"<|by decide) Zao<|Zaa (pv 0)<|Zaa (Zc3 rfl (mb "int"<|by decide) Zgq (show RelV (.ty "int") _ from rfl)) Zad)<|Zgs<|Zr7<|Zai (isiUK K) rfl (mb "isinstance"<|by decide) Zao<|Zaa (pv 0)<|Zaa (Zc3 rfl (mb "bool"<|by decide) Zmb (show RelV (.ty "bool") _ from rfl)) Zad),Zdc (λds Post hf=>?_) h⟩;obtain⟨e,rfl,q⟩:=hf;refine⟨by simp,?_⟩;dsimp only[startD,Wbl,Wbn,Wbb];refine Za0<|Zcu<|Zay<|Zab<|Zac rfl<|Zab<|Zdn<|Zae<|Zby (T:="int") (b:=true) rfl (λ_=>by rfl) ⟨_,rfl,?_⟩;rw[Qbw rfl];refine Zh3<|Zay<|Zab<|Zac rfl<|Zab<|Zdn<|Zae<|Zby (T:="int") (b:=false) rfl (λ_=>by rfl) ⟨_,rfl,?_⟩;exact q
end
def Lv:Nat->D->Prop
 |0,_=>False
 |_+1,.int _=>True
 |m+1,.tup ds=>ds.length<=1000/\∀d∈ds,Lv m d
 |_,_=>False
def Qa6 (m:Nat):DSp:=λds Post=>∃d,ds=[d,d]/\Lv m d/\Post (.bl true)
section
variable {P:Program}{w:World}{K:W.Frag}{mg:Str->Option Value}{base:Heap}{f:Addr}{fd:FuncData}
theorem Zrh (ds:List D):(((ds.zip ds).map λp=>D.tup [p.1,p.2]).filter λ_=>true).map (λ_=>D.bl true)=(Wad ds.length true).map D.bl:=by
 rw[Wbt.mpr (by simp),List.map_const',Wdq,Waa,List.length_zip,Nat.min_self]
theorem Zpm (n:Nat):(Wad n true).all id=true:=by
 rw[Wa4];intro x hx;rw[(Wdo.mp hx).2];rfl
theorem Zm4 {ds:List D}{i:Nat}{d:D}(hd':((ds.zip ds).map λp=>D.tup [p.1,p.2])[i]?=some d):∃e,e∈ds/\d=.tup [e,e]:=by
 rw[Waf]at hd';cases z:(ds.zip ds)[i]? with
 |none=>rw[z]at hd';cases hd'
 |some pr=>
  rw[z]at hd';have hd':D.tup [pr.1,pr.2]=d:=by simpa using hd'
  rw[Wb6]at z;have e:pr.1=pr.2:=Waw.inj<|z.1.symm.trans z.2;exact⟨pr.1,Wav z.1,by rw[<- hd',<- e]⟩
theorem Zrn {m:Nat}(mb:Mb mg) (C47:Callee P w K mg base 1 "_law_whole" ["_law_found"] (spD K Qa4)) (C42:Callee P w K mg base (m+1) "_law_same" ["_law_found","_law_due"] (spD K<|Qa6 m)) (F:Fun K "_law_same" "_law_same" Yah f fd):FnOk P w K mg base CX0 (m+2) f fd ["_law_found","_law_due"] (spD K<|Qa6<|m+1):=by
 refine F.ok Yb0 (Zbi λds Post h=>by obtain⟨_,rfl,_⟩:=h;rfl) λcdv A outer s H vs Q E hr h=>?_;have hu:=Zb1 hr;refine⟨_,(Zaf (Zbg (truK K (Zai (isiUK K) rfl (mb "isinstance"<|by decide) Zao<|Zaa (pv 1)<|Zaa (Zc3 rfl (mb "tuple"<|by decide) Zbt (show RelV (.ty "tuple") _ from rfl)) Zad) λ_=>rfl) (Zaf (Zbg (PW.pt<|pw_or (Zcl<|truK K (Zai (isiUK K) rfl (mb "isinstance"<|by decide) Zao<|Zaa (pv 0)<|Zaa (Zc3 rfl (mb "tuple"<|by decide) Zbt (show RelV (.ty "tuple") _ from rfl)) Zad) λ_=>rfl)<|pw_or1<|Zaq Zkt (Zai (lenK K) rfl (mb "len"<|by decide) Zba<|Zaa (pv 0) Zad) (Zai (lenK K) rfl (mb "len"<|by decide) Zba<|Zaa (pv 1) Zad)<|nomark _) (Zah<|Zaw Zh7) Za4)<|Zah<|Zaw<|Zai (allK K rfl) rfl (mb "all"<|by decide) Zmp<|Zaa (Zcm ["_law_one","_law_other"] (show CompSc (defScope Yah) ["_law_found","_law_due"] _ [] [] from ⟨rfl,by decide +kernel,by decide +kernel,by decide +kernel,rfl,by decide +kernel⟩) rfl (Zxg K rfl (mb "zip"<|by decide)<|Zaa (pv 0)<|Zaa (pv 1) Zad) (λ_ _ _ _ _=>(gtupK (n:=2) K rfl<|Zbn (Za3 (i:=0) (show List.Nodup (["_law_one","_law_other"]:List Str) from by decide) rfl<|Or.inl rfl)<|Zbn (Za3 (i:=1) (show List.Nodup (["_law_one","_law_other"]:List Str) from by decide) rfl<|Or.inl rfl) Zd9)) (λ_ _ _ _ _=>Zcx) λ_ _ _ _ _=>(Za9 C42 (hr.mono (by first|decide|omega))<|Zaa (pv 0)<|Zaa (pv 1) Zad)) Zad) Za4)<|Zah<|Zaw<|Zdp (Za9 C47 (hr.mono (by first|decide|omega))<|Zaa (pv 0) Zad)<|Zgs<|Zb3 Zbd (pv 0) (pv 1)<|nomark _),Zdc (λds Post hf=>?_) h⟩;obtain⟨d,rfl,hd,q⟩:=hf;refine⟨by simp,?_⟩;dsimp only[startD,Wbl,Wbn,Wbb];cases d with
 |int i=>
  refine Zar<|Zbc<|Zbh<|Zay<|Zab<|Zac rfl<|Zab<|Zdn<|Zae<|Zby (T:="int") (b:=false) rfl (λ_=>by rfl) ⟨_,rfl,iteF<|Za7 ?_⟩;refine Za0<|Zcu<|Za8<|Zab<|Zac rfl<|Zae ⟨_,rfl,_,rfl,?_⟩;refine iteT<|Zak<|Zac rfl<|Zac rfl<|Zdv ?_;rw[Qbx rfl];exact q
 |tup ds=>
  obtain⟨hl,hd⟩:=hd;refine Zar<|Zbc<|Zbh<|Zay<|Zab<|Zac rfl<|Zab<|Zdn<|Zae<|Zby (T:="tuple") (b:=true) rfl (λ_=>by rfl) ⟨_,rfl,iteT ?_⟩;refine Zar<|Zbc<|Zeq<|Zb2<|Zbh<|Zay<|Zab<|Zac rfl<|Zab<|Zdn<|Zae<|Zby (T:="tuple") (b:=true) rfl (λ_=>by rfl) ⟨_,rfl,iteF ?_⟩;refine Zap<|Zak<|Zay<|Zab<|Zac rfl<|Zae<|Zbe (Or.inr rfl)<|Zay<|Zab<|Zac rfl<|Zae<|Zbe (Or.inr rfl)<|Zqv ⟨_,rfl,?_⟩;rw[Qbx rfl];refine iteF<|Za7 ?_;refine Za0<|Zay<|Zab<|Zk1 (by decide)<|Zun<|Zab<|Zac rfl<|Zab<|Zac rfl<|Zae ⟨ds,ds,rfl,rfl,?_,λ_=>true,λ_=>.bl true,λi d hd'=>?_,?_⟩
  ·rw[Waa,List.length_zip];exact small1000 (by omega)
  ·obtain⟨e,he,rfl⟩:=Zm4 hd'
   exact⟨_,_,rfl,Zcy ⟨rfl,Za8<|Zab<|Zac rfl<|Zab<|Zac rfl<|Zae ⟨e,rfl,hd _ he,rfl,_,_,rfl⟩⟩⟩
  ·refine Zae ?_
   rw[Zrh];refine Zok ?_;rw[Zpm];exact q
 |lst ds=>exact hd.elim
 |_=>exact hd.elim
theorem Zl8 (mb:Mb mg) (C47:Callee P w K mg base 1 "_law_whole" ["_law_found"] (spD K Qa4)) (F:Fun K "_law_same" "_law_same" Yah f fd) (b:Binds K fd ["_law_found","_law_due"] []) (kp:W.keepIn K (.ref f)=true) (hm:mg "_law_same" = some (.ref f)):∀m:Nat,FnOk P w K mg base CX0 (m+1) f fd ["_law_found","_law_due"] (spD K<|Qa6 m)
 |0=>by
  have no:∀vs H Q E,¬ spD K (Qa6 0) vs H Q E:=λvs H Q E ⟨_,_,_,_,_,⟨_,_,hd,_⟩,_⟩=>hd;exact⟨λvs H Q E h=>absurd h<|no vs H Q E,λA outer s H args us vs Q E _ _ _ _ h=>absurd h<|no vs H Q E⟩
 |m+1=>Zrn mb C47 ⟨⟨f,fd,Zl8 mb C47 F b kp hm m,b,kp,hm⟩⟩ F
theorem Zpx (mb:Mb mg) (C47:Callee P w K mg base 1 "_law_whole" ["_law_found"] (spD K Qa4)) (F:Fun K "_law_same" "_law_same" Yah f fd) (b:Binds K fd ["_law_found","_law_due"] []) (kp:W.keepIn K (.ref f)=true) (hm:mg "_law_same" = some (.ref f)):∀m:Nat,FnOk P w K mg base CX0 m f fd ["_law_found","_law_due"] (spD K<|Qa6<|m-1)
 |0=>by
  have no:∀vs H Q E,¬ spD K (Qa6 0) vs H Q E:=λvs H Q E ⟨_,_,_,_,_,⟨_,_,hd,_⟩,_⟩=>hd;exact⟨λvs H Q E h=>absurd h<|no vs H Q E,λA outer s H args us vs Q E _ _ _ _ h=>absurd h<|no vs H Q E⟩
 |m+1=>Zl8 mb C47 F b kp hm m
theorem Zwf {m:Nat}{r:List Int}(h:r.length<=1000):Lv (m+2) (Qae r):=by
 refine⟨by rw[Waa];exact h,λd hd=>?_⟩;obtain⟨x,_,rfl⟩:=Wa2.mp hd
 trivial
theorem Zw1 {m:Nat}{n:Int}{ts:Qb1}{o:Qb2}(hW:Qau n ts) (hO:Qbj n ts o):Lv (m+3) (Qan o):=by
 have h1:=hO.len;have h2:=hW.hi;have h3:=hW.len;refine⟨by rw[Waa];omega,λd hd=>?_⟩;obtain⟨r,hr,rfl⟩:=Wa2.mp hd;obtain⟨p,hp,e⟩:=Wck.mp hr;have:=(hO.row p r<|by rw[Wab hp,e]).len;exact Zwf (by omega)
theorem Zwq {m:Nat}{n:Int}{ts:Qb1}(hW:Qau n ts):Lv (m+4) (Qah n ts):=by
 refine⟨by show 2<=1000;omega,λd hd=>?_⟩;rcases Wai.mp hd with z|z
 ·subst z;trivial
 ·rw[Was]at z;subst z
  refine⟨by rw[Waa];have:=hW.len;omega,λd hd=>?_⟩;obtain⟨t,_,rfl⟩:=Wa2.mp hd;refine⟨by show 2<=1000;omega,λd hd=>?_⟩;rcases Wai.mp hd with z|z
  ·subst z;trivial
  ·rw[Was]at z;subst z;trivial
def floorD (n:Int) (ts:Qb1) (o:Qb2):D:=.tup [Qah n ts,Qan o]
theorem Zp8 {n:Int}{ts:Qb1}{o:Qb2}(hW:Qau n ts) (hO:Qbj n ts o):Lv 5 (floorD n ts o):=by
 refine⟨by show 2<=1000;omega,λd hd=>?_⟩;rcases Wai.mp hd with z|z
 ·subst z;exact Zwq hW
 ·rw[Was]at z;subst z;exact Zw1 hW hO
end
theorem Zky:∀(rows:List PySem.Str) (st:Option St84) (k:Nat) (s:St84),StO st->Qas st k rows=(0,some s)->StOk s
 |[],st,k,s,h,e=>by
  have e:(0,st)=((0:Nat),some s):=e;exact h s (Prod.mk.inj e).2
 |r::rs,st,k,s,h,e=>by
  cases q:Qao st r with
  |none=>rw[Zj1 q]at e;exact nomatch (Prod.mk.inj e).2
  |some z=>
   rw[Zkj q]at e;exact Zky rs (some z) (k+1) s (λy hy=>Zj5 (r:=r) h y<|q.trans hy) e
theorem Zp9 {rows:List PySem.Str}(h:Qaj rows=0):∃s,Qas none 0 rows=(0,some s)/\StOk s/\Qaz s:=by
 unfold Qaj at h;split at h
 ·rename_i s e
  by_cases hF:Qaz s
  ·exact⟨s,e,Zky rows none 0 s (λy hy=>nomatch hy) e,hF⟩
  ·rw[Qbv hF]at h;exact absurd h (by simp)
 ·exact absurd h (by simp)
 ·exact absurd h (by simp)
theorem Zts {rows:List PySem.Str}(h:Qaj rows=0):Lv 5 (outD rows):=by
 obtain⟨s,e,hS,hF⟩:=Zp9 h;unfold outD;rw[e];exact Zp8 hS.web ⟨Zg6 hS,hF⟩
section
variable {P:Program}{w:World}{K:W.Frag}{mg:Str->Option Value}{base:Heap}{f fI:Addr}{fd:FuncData}{c0 c1 c2 c3 c4 c5 c6 c7 c8 c9 c10 c11 c12 c13 c14 c15:Addr}
theorem Zk9 (mb:Mb mg) (cl:Cl K mg fI c0 c1 c2 c3 c4 c5 c6 c7 c8 c9 c10 c11 c12 c13 c14 c15) (C54:CalleeR P w K mg base 7 "read" ["text"] (spXR K<|Qbi c13)) (C35:CalleeH P w K mg base 1 "_law_kinds" ["_law_e"] (λxa=>spD K<|Qbg c13 xa)) (F:Fun K "_law_read" "_law_read" Ybf f fd):FnOk P w K mg base CX0 8 f fd ["_law_text_here"] (spD K Qbc):=by
 refine F.ok Ybo (Zbi λds Post h=>by obtain⟨_,rfl,_⟩:=h;rfl) λcdv A outer s H vs Q E hr h=>?_;have hu:=Zb1 hr;have hv:=Zeo hr;refine⟨_,(Zaf (Zs8 (i:=1) Ybo.nd rfl rfl rfl rfl rfl rfl cl.n_FloorError cl.e_FloorError C54 (hr.mono<|by decide) (λpn xe=>(Zaa (pv 0) Zad)) λa=>(Zah<|Zbg (Zaq (eqAK K hv) (Zxe C35 (Room.mark (hr.mono<|by decide) a)<|Zaa (pv 1) Zad) (Zbq<|Zaa Zag Zad)<|nomark _) (Zah<|Zaw<|Zbq<|Zaa (Ztb (pv 1) rfl) Zad) Za4))<|Zah<|Zaw<|Zbq Zad),Zdc (λds Post hf=>?_) h⟩;obtain⟨x,rfl,hB,q⟩:=hf;refine⟨by simp,?_⟩;dsimp only[startD,Wbl,Wbn,Wbb,Wad];unfold Qba at q;refine Zar<|Zs6<|Zab<|Zac rfl<|Zae ⟨by show 1<2;decide,x,rfl,hB,λh0=>?_,λhn=>⟨⟨⟨fI,cl.i_T.cl⟩,cl.m_T⟩,λa=>?_⟩⟩
 ·rw[Qbw h0]at q
  exact q
 ·rw[Qbv hn]at q
  refine Zbc<|Zap<|Zak<|Za8<|Zab<|Zac rfl<|Zae ⟨_,rfl,?_⟩;refine Zcs<|Zab<|Zaj<|Zae ⟨Zhm,Znu (n:=1) (by decide) rfl ⟨true,rfl,iteT ?_⟩⟩;exact Za0<|Zcs<|Zab<|Zsq<|Zac rfl ⟨a,c13,_,fI,rfl,cl.i_T,cl.z_T.hd,cl.r_T,Zae ⟨Zhm,q⟩⟩
theorem Zja (mb:Mb mg) (C31:Callee P w K mg base 2 "_law_bad_row" ["_law_text_here"] (spD K fBad84)) (C41:Callee P w K mg base 8 "_law_read" ["_law_text_here"] (spD K Qbc)) (C47:Callee P w K mg base 1 "_law_whole" ["_law_found"] (spD K Qa4)) (C42:Callee P w K mg base 6 "_law_same" ["_law_found","_law_due"] (spD K<|Qa6 5)) (C33:Callee P w K mg base 1 "_law_floor_in" ["_law_text_here"] (spD K fFin84)) (F:Fun K "_law_is_read" "_law_is_read" Ybg f fd):FnOk P w K mg base CX0 9 f fd ["_law_text_here"] (spD K Qa1):=by
 refine F.ok Ya0 (Zbi λds Post h=>by obtain⟨_,rfl,_⟩:=h;rfl) λcdv A outer s H vs Q E hr h=>?_;have hu:=Zb1 hr;have hv:=Zeo hr;refine⟨_,(Zaf (Zas (i:=1) Ya0.nd rfl (Or.inl rfl)<|Za9 C31 (hr.mono<|by decide)<|Zaa (pv 0) Zad)<|Zaf (Zdu PassesOwn.never rfl (Zbx rfl (mb "range"<|by decide)<|Zaa Zag Zad) (Za3 (i:=2) Ya0.nd rfl<|Or.inl rfl)<|Zaf (Zas (i:=3) Ya0.nd rfl (Or.inl rfl)<|Za9 C41 (hr.mono<|by decide)<|Zaa (pv 0) Zad)<|Zaf (Zbg (PW.pt<|pw_and (Zaq Zgo (pv 1) Zag<|nomark _)<|pw_and1<|PW.pt<|pw_or (Zaq (neAK K hv) (pv 3) (Zbq<|Zaa (pv 1) Zad)<|nomark _)<|pw_or1<|Zcl<|truK K (Za9 C47 (hr.mono<|by decide)<|Zaa (Za5 (ixK K hu) (pv 3) Zag λ_ _=>rfl) Zad) λ_=>rfl) (Zah<|Zaw Zh7) Za4)<|Zah<|Zbg (PW.pt<|pw_and (Zaq Zbd (pv 1) Zag<|nomark _)<|pw_and1<|Zcl<|truK K (Za9 C42 (hr.mono<|by decide)<|Zaa (pv 3)<|Zaa (Za9 C33 (hr.mono<|by decide)<|Zaa (pv 0) Zad) Zad) λ_=>rfl) (Zah<|Zaw Zh7) Za4)<|Zah<|Zaw Zh7),Zdc (λds Post hf=>?_) h⟩;obtain⟨x,rfl,hB,q⟩:=hf;refine⟨by simp,?_⟩;dsimp only[startD,Wbl,Wbn,Wbb,Wad];refine Zar<|Zat<|Za8<|Zab<|Zac rfl<|Zae ⟨x,rfl,hB,?_⟩;have hlv:=Zts (rows:=Qaf x);refine Zbj (λO=>∃x2 x3,O = [.val (.str x),.val (.int ((Qaj (Qaf x):Nat):Int)),x2,x3]) ?_ ?_
 ·refine Zel (Zbw<|Zab<|Zaj<|Zae ⟨2,rfl,by decide,by decide,λ_ O=>∃x2 x3,O = [.val (.str x),.val (.int ((Qaj (Qaf x):Nat):Int)),x2,x3],⟨_,_,rfl⟩,?_,λO hI=>hI⟩)
  rintro i d O hd ⟨x2,x3,rfl⟩;refine Zb6<|Zar<|Zat<|Za8<|Zab<|Zac rfl<|Zae ⟨x,rfl,hB,?_⟩;by_cases h0:Qaj (Qaf x)=0
  ·have ef:Qba (Qaf x)=outD (Qaf x):=Qbw h0
   rw[ef];refine Zar<|Zbc<|Zc6<|Zap<|Zak<|Zac rfl<|Zaj<|Zcj ⟨_,rfl,?_⟩;rw[Qby (by omega)];refine iteF<|iteF<|Za7 ?_;refine Zbc<|Zc6<|Zap<|Zak<|Zac rfl<|Zaj<|Zdv ⟨_,rfl,?_⟩;rw[Qbx (by omega)];refine iteT<|Zb2<|Zbh<|Za8<|Zab<|Zac rfl<|Zab<|Za8<|Zab<|Zac rfl<|Zae ⟨x,rfl,hB,h0,Zae ⟨_,rfl,hlv h0,true,rfl,iteF<|Za7 ⟨_,_,rfl⟩⟩⟩
  ·have ef:Qba (Qaf x)=.lst [.int ((Qaj (Qaf x):Nat):Int)]:=Qbv h0
   rw[ef];refine Zar<|Zbc<|Zc6<|Zap<|Zak<|Zac rfl<|Zaj<|Zcj ⟨_,rfl,?_⟩;rw[Qbx (by omega)];refine iteT<|Zeq<|Zap<|Zak<|Zac rfl<|Zcs<|Zab<|Zac rfl<|Zae ⟨Zhm,Znu (n:=1) (by decide) rfl ⟨false,rfl,iteF ?_⟩⟩;refine Zb2<|Zbh<|Za8<|Zab<|Zak<|Zac rfl<|Zaj<|Zaz (d:=.int ((Qaj (Qaf x):Nat):Int)) rfl<|Zae ⟨_,rfl,true,rfl,iteF<|Za7 ?_⟩;refine Zbc<|Zc6<|Zap<|Zak<|Zac rfl<|Zaj<|Zdv ⟨_,rfl,?_⟩;rw[Qby (by omega)];exact iteF<|iteF<|Za7 ⟨_,_,rfl⟩
 rintro O1 ⟨x2,x3,rfl⟩;exact Za0<|Zjm q
end
section
variable {P:Program}{w:World}{K:W.Frag}{mg:Str->Option Value}{base:Heap}{f:Addr}{fd:FuncData}
theorem Zw3 (n:Int) (ts:Qb1):atI [D.int n,D.tup (ts.map Qak)] 1=some (.tup<|ts.map Qak):=rfl
end
def sI (i:Int):Str:=toString i
def wd:D->Str
 |.int i=>sI i
 |.str x=>x
 |_=>Str.empty
def rowT (ds:List D):Str:=Str.join " "<|ds.map wd
def linP (n:Int):Str:="places " ++ sI n
def linT (t:Int × Int):Str:="tie " ++ sI t.1 ++ " " ++ sI t.2
def linA (p:Int) (r:List Int):Str:="at " ++ sI p++Str.join "" (r.map λe=>(" ":Str)++sI e)
def Qap:Nat->Qb2->List Str
 |_,[]=>[]
 |p,r::o=>(if r=[] then [] else [linA p r])++Qap (p+1) o
def lins (n:Int) (ts:Qb1) (o:Qb2):List Str:=linP n::ts.map linT++Qap 0 o
def txt (n:Int) (ts:Qb1) (o:Qb2):Str:=Str.join "\n"<|lins n ts o
theorem join0:∀(x:Str) (xs:List Str),Str.join "" (x::xs)=x++Str.join "" xs
 |x,[]=>(Str.append_empty x).symm
 |x,y::r=>by
  show x++("":Str)++Str.join "" (y::r)=_;rw[show (x++("":Str))=x from Str.append_empty x]
theorem Zop:∀(p:Str) (es:List Str),Str.join " " (p::es)=p++Str.join "" (es.map λe=>(" ":Str)++e)
 |p,[]=>(Str.append_empty p).symm
 |p,e::es=>by
  show p++(" ":Str)++Str.join " " (e::es)=_;rw[Zop e es,Wa3,join0,Str.append_assoc,Str.append_assoc]
theorem Zv4 (n:Int):rowT [.str "places",.int n]=linP n:=by
 show ("places":Str)++(" ":Str)++sI n=_;rfl
theorem Zxf (t:Int × Int):rowT [.str "tie",.int t.1,.int t.2]=linT t:=by
 show ("tie":Str)++(" ":Str)++(sI t.1++(" ":Str)++sI t.2)=_;unfold linT;rw[show ("tie":Str)++(" ":Str)=("tie ":Str) from rfl,Str.append_assoc,Str.append_assoc,Str.append_assoc]
theorem Zwz (p:Int) (r:List Int):rowT (.str "at" :: .int p::r.map D.int)=linA p r:=by
 have e:(.str "at" :: .int p::r.map D.int:List D).map wd=("at":Str)::sI p::r.map sI:=by
  rw[Wa3,Wa3,Wa8];rfl
 unfold rowT linA;rw[e];show ("at":Str)++(" ":Str)++Str.join " " (sI p::r.map sI)=_;rw[Zop,Wa8,show ("at":Str)++(" ":Str)=("at ":Str) from rfl,Str.append_assoc];rfl
theorem Zd4 {i:Int}(h0:0<=i) (h1:i<=63):(sI i).length<=2:=by
 obtain⟨k,rfl⟩:∃k:Nat,i=(k:Int):=⟨i.toNat,by omega⟩;have:∀k:Fin 64,(sI ((k:Nat):Int)).length<=2:=by decide +kernel
 exact this ⟨k,by omega⟩
theorem Zc7 {i:Int}(h0:0<=i) (h1:i<=63):i.natAbs.log2<1920:=by
 by_cases hz:i.natAbs=0
 ·rw[hz];decide
 ·have h:=(Nat.log2_lt hz (k:=6)).mpr (by omega)
  omega
theorem Zie (k B:Nat):∀(zs:List Str),(∀z∈zs,z.length<=B)->(zs.map λz=>z.length+k).sum<=zs.length*(B+k)
 |[],_=>by simp
 |z::zs,h=>by
  have:=Zie k B zs λy hy=>h y<|Wap _ hy;have:=h z Wat;rw[Wa3,Wdn,Wag,Nat.succ_mul];omega
theorem Zf1 {zs:List Str}{k B N:Nat}(h:∀z∈zs,z.length<=B) (hn:zs.length<=N) (hb:N*(B+k)<=1000000):zs.foldl (λn z=>n+z.length+k) 0<=sizeLine:=by
 rw[Zh6];have h1:=Zie k B zs h;have h2:=Wb9 (B+k) hn;have h3:1000000<=sizeLine:=by decide
 omega
theorem Ziw {r:List Int}(h:∀e∈r,0<=e/\e<=63):(Str.join "" (r.map λe=>(" ":Str)++sI e)).length<=r.length*3:=by
 have h1:=join_len "" (r.map λe=>(" ":Str)++sI e);have h2:=Zie 0 3 (r.map λe=>(" ":Str)++sI e) λz hz=>by
  obtain⟨e,he,rfl⟩:=Wa2.mp hz;rw[Str.length_append];have:=Zd4 (h e he).1 (h e he).2;have e1:(" ":Str).length=1:=rfl;omega
 rw[Waa]at h2;have e0:("":Str).length=0:=rfl;rw[e0]at h1;omega
structure FlOk (n:Int) (ts:Qb1) (o:Qb2):Prop where
 n0:0<=n
 n1:n<=25
 tl:ts.length<=24
 te:∀t∈ts,(0<=t.1/\t.1<=25)/\(0<=t.2/\t.2<=25)
 ol:(o.length:Int)=n
 oe:∀r∈o,r.length<=48/\∀e∈r,0<=e/\e<=63
theorem Zvv {n:Int}{ts:Qb1}{o:Qb2}(hW:Qau n ts) (hO:Qbj n ts o):FlOk n ts o:=by
 have h1:=hW.lo;have h2:=hW.hi;have h3:=hW.len;refine⟨by omega,h2,h3,λt ht=>?_,hO.len,λr hr=>?_⟩
 ·have:=hW.tie t ht;omega
 ·obtain⟨p,hp,e⟩:=Wck.mp hr
  have R:=hO.row p r (by rw[Wab hp,e]);refine⟨by have:=R.len;omega,λx hx=>?_⟩;obtain⟨k,hk,_,rfl⟩:=R.mem.mp hx;omega
theorem Zf9:∀(o:Qb2) (p:Nat),(Qap p o).length<=o.length
 |[],p=>by simp[Qap]
 |r::o,p=>by
  have:=Zf9 o<|p+1;unfold Qap;rw[Wal,Wag];split <;> simp <;> omega
theorem Zpz {p:Int}{r:List Int}(h0:0<=p) (h1:p<=63) (hr:r.length<=48/\∀e∈r,0<=e/\e<=63):(linA p r).length<=200:=by
 unfold linA;have a:=Ziw hr.2;have b:=Zd4 h0 h1;rw[Str.length_append,Str.length_append];have e1:("at ":Str).length=3:=rfl;omega
theorem Zp0 {t:Int × Int}(h:(0<=t.1/\t.1<=25)/\(0<=t.2/\t.2<=25)):(linT t).length<=200:=by
 have a:=Zd4 h.1.1 (by omega);have b:=Zd4 h.2.1 (by omega);unfold linT;rw[Str.length_append,Str.length_append,Str.length_append];have e1:("tie ":Str).length=4:=rfl;have e2:(" ":Str).length=1:=rfl;omega
theorem Zqg {n:Int}(h0:0<=n) (h1:n<=25):(linP n).length<=200:=by
 have a:=Zd4 h0 (by omega);unfold linP;rw[Str.length_append];have e1:("places ":Str).length=7:=rfl;omega
theorem Zfp:∀(o:Qb2) (p:Nat),p+o.length<=63->(∀r∈o,r.length<=48/\∀e∈r,0<=e/\e<=63)->∀z∈Qap p o,z.length<=200
 |[],p,_,_,z,hz=>by simp[Qap]at hz
 |r::o,p,hp,h,z,hz=>by
  unfold Qap at hz;rw[Wag]at hp;rcases Wa1.mp hz with y|y
  ·split at y
   ·cases y
   ·rw[Was]at y;subst y
    exact Zpz (by omega) (by omega)<|h r Wat
  ·exact Zfp o (p+1) (by omega) (λr hr=>h r<|Wap _ hr) z y
theorem Zg3 {n:Int}{ts:Qb1}{o:Qb2}(h:FlOk n ts o):(lins n ts o).length<=50/\∀z∈lins n ts o,z.length<=200:=by
 have h1:=h.ol;have h2:=h.n1;have h3:=h.tl;have h4:=Zf9 o 0;unfold lins;refine⟨by rw[Wal,Wag,Waa];omega,λz hz=>?_⟩;rcases Wa1.mp hz with y|y
 ·rcases Wai.mp y with y|y
  ·subst y;exact Zqg h.n0 h.n1
  ·obtain⟨t,ht,rfl⟩:=Wa2.mp y
   exact Zp0<|h.te t ht
 ·exact Zfp o 0 (by omega) h.oe z y
theorem Zif:∀(a b:Qb2) (p:Nat),Qap p (a++b)=Qap p a++Qap (p+a.length) b
 |[],b,p=>by simp[Qap]
 |r::a,b,p=>by
  rw[Wb1];show (if r=[] then [] else [linA p r])++Qap (p+1) (a++b)=((if r=[] then [] else [linA p r])++Qap (p+1) a)++_;rw[Zif a b (p+1),Wbk,Wag,show p+1+a.length=p+(a.length+1) by omega]
theorem Zgv {o:Qb2}{i:Nat}{r:List Int}(h:o[i]?=some r):Qap 0 (o.take<|i+1)=Qap 0 (o.take i)++(if r=[] then [] else [linA i r]):=by
 have hi:=(Wah.mp h).1;rw[Wcv,h,Zif];show _++((if r=[] then [] else [linA _ r])++[])=_;rw[Wbg,Wbj,Nat.zero_add,Wc2 (by omega)]
section
variable {P:Program}{w:World}{K:W.Frag}{mg:Str->Option Value}{base:Heap}{f:Addr}{fd:FuncData}
theorem join_len (c B:Nat):∀(zs:List PySem.Str),(∀z∈zs,z.length<=B)->(Str.join ⟨#[c]⟩ zs).cps.toList.length<=zs.length*(B+1)
 |[],_=>Wbu _
 |z::zs,h=>by
  have hz:z.cps.toList.length<=B:=by simpa [Str.length] using h z (Wat ..)
  rw[Zbm,Wal,Wag,Nat.add_mul,Nat.one_mul];cases zs with
  |nil=>show _+0<=_;omega
  |cons y r=>
   have:=join_len c B (y::r) λa ha=>h a<|Wap _ ha;show _+(_+1)<=_;omega
end
structure Tx (n k:Nat) (z:PySem.Str):Prop where
 asc:∀c∈z.cps.toList,c<128/\c≠10
 sp:z.cps.toList.count 32<=n
 len:z.length<=k
def txB (n k:Nat) (z:PySem.Str):Bool:=(z.cps.toList.all λc=>decide (c<128) && decide (c≠10)) && decide (z.cps.toList.count 32<=n) && decide (z.length<=k)
theorem Zds {n k:Nat}{z:PySem.Str}(h:txB n k z=true):Tx n k z:=by
 unfold txB at h;rw[Wa6,Wa6]at h;obtain⟨⟨h1,h2⟩,h3⟩:=h;refine⟨λc hc=>?_,of_decide_eq_true h2,of_decide_eq_true h3⟩;have:=Wa4.mp h1 c hc;rw[Wa6]at this;exact⟨of_decide_eq_true this.1,of_decide_eq_true this.2⟩
theorem Tx.up {n k n' k':Nat}{z:PySem.Str}(h:Tx n k z) (hn:n<=n') (hk:k<=k'):Tx n' k' z:=⟨h.asc,Way h.sp hn,Way h.len hk⟩
theorem Zdx (a b:PySem.Str):(a++b).cps.toList=a.cps.toList++b.cps.toList:=by
 show (a.cps++b.cps).toList=_;exact Array.toList_append
theorem Zgl {n k m l:Nat}{x y:PySem.Str}(h:Tx n k x) (g:Tx m l y):Tx (n+m) (k+l) (x++y):=by
 refine⟨λc hc=>?_,?_,?_⟩
 ·rw[Zdx]at hc
  rcases Wa1.mp hc with hc|hc
  ·exact h.asc c hc
  ·exact g.asc c hc
 ·rw[Zdx,Wc8];exact Wdj h.sp g.sp
 ·rw[Str.length_append];exact Wdj h.len g.len
theorem Zpr {k:Nat}:∀{zs:List PySem.Str},(∀z∈zs,Tx 0 k z)->Tx zs.length (zs.length*(k+1)) (Str.join (oS " ") zs)
 |[],_=>(show Tx 0 0 (Str.join (oS " ") []) from Zds (by decide +kernel)).up (Wbu _) (Wbu _)
 |[z],h=>(h z Wat).up (Wbu _) (by simp)
 |z::y::r,h=>by
  have ih:=Zpr (zs:=y::r) λx hx=>h x<|Wap _ hx;show Tx _ _ (z++oS " " ++ Str.join (oS " ") (y::r));have t1:Tx 1 1 (oS " "):=Zds (by decide +kernel);refine(Zgl (Zgl (h z Wat) t1) ih).up ?_ ?_
  ·simp only[Wag];omega
  ·simp only[Wag]
   rw[Nat.add_mul (r.length+1) 1];omega
theorem Zsc {i:Int}(h0:0<=i) (h1:i<=63):Tx 0 2 (sI i):=by
 obtain⟨k,rfl⟩:∃k:Nat,i=(k:Int):=⟨i.toNat,by omega⟩;have:∀k:Fin 64,txB 0 2 (sI ((k:Nat):Int))=true:=by decide +kernel
 exact Zds (this ⟨k,by omega⟩)
abbrev Ln (z:PySem.Str):Prop:=Tx 58 1000 z
theorem Zgr {c:Nat}:∀{zs:List PySem.Str},(∀z∈zs,c ∉ z.cps.toList)->(Str.join ⟨#[c]⟩ zs).cps.toList.count c=zs.length-1
 |[],_=>rfl
 |z::zs,h=>by
  rw[Zbm,Wc8,Wds.mpr (h z Wat)];cases zs with
  |nil=>rfl
  |cons y r=>
   show 0+(c::(Str.join ⟨#[c]⟩ (y::r)).cps.toList).count c=_;rw[List.count_cons,Zgr λx hx=>h x (Wap _ hx)];simp
theorem Zjx (r:PySem.Str):(Qad r).length=r.cps.toList.count 32+1:=by
 have e:Str.join ⟨#[32]⟩ (Qad r)=r:=by unfold Qad;rw[sp32];exact StrLaws.join_split _ _
 have h:∀z∈Qad r,32 ∉ z.cps.toList:=by
  unfold Qad;rw[sp32];exact StrLaws.split_free _ 32
 have:=Zgr h;rw[e]at this;have h0:=Zfl r;have:0<(Qad r).length:=Wco.mpr h0;omega
theorem Zou {z:PySem.Str}(h:∀c∈z.cps.toList,c<128):z.cps.all (· < 128)=true:=by
 rw[Array.all_eq_true];intro i hi;exact Qbx (h _<|by simp)
theorem Zr0 {z:PySem.Str}(h:Ln z):RowB z:=⟨Zou λc hc=>(h.asc c hc).1,h.len,by rw[Zjx];have:=h.sp;omega⟩
theorem Zrl:RowB (oS ""):=Zr0<|Zds (by decide +kernel)
theorem Zj7:Qaf (oS "")=[oS ""]:=by decide +kernel
theorem Znt:Qaw (oS ""):=⟨by decide +kernel,by rw[Zj7];decide,λr hr=>by rw[Zj7]at hr;rw[Was.mp hr];exact Zrl⟩
theorem Zex {ls:List PySem.Str}(hl:ls.length<=90) (h:∀z∈ls,Ln z):Qaw (Str.join (oS "\n") ls):=by
 by_cases h0:ls=[]
 ·subst h0;exact Znt
 have e:Qaf (Str.join (oS "\n") ls)=ls:=by
  unfold Qaf;rw[nl10];exact Zez h0 λz hz hc=>((h z hz).asc 10 hc).2 rfl
 refine⟨?_,by rw[e];omega,λr hr=>by rw[e]at hr;exact Zr0<|h r hr⟩;have:=join_len 10 1000 ls λz hz=>(h z hz).len;rw[Zbf,<- nl10]at this;have h2:=Wb9 (1000+1) hl;omega
theorem Ztg {ls:List PySem.Str}(hl:ls.length<=60) (h:∀z∈ls,Tx 0 60 z):ls.foldl (λn z=>n+z.length+(oS " ").length) 0<=sizeLine:=
 Zf1 (B:=60) (N:=60) (λz hz=>(h z hz).len) hl (by decide +kernel)
theorem Zu8 {xs:List D}{z:Int}(h0:0<=z) (h1:z<(xs.length:Int)):∃x,atI xs z=some x/\x∈xs:=by
 have hz:z.toNat<xs.length:=by omega
 refine⟨xs[z.toNat],?_,Wbd hz⟩;have:=Zau (xs:=xs) (j:=z.toNat) (v:=xs[z.toNat])<|Wab hz
 rwa [show ((z.toNat:Nat):Int)=z by omega]at this
theorem Zu4 {zs:List PySem.Str}{d:D}(h:d∈zs.map D.str):∃z,z∈zs/\d=.str z:=by
 obtain⟨z,hz,rfl⟩:=Wa2.mp h;exact⟨z,hz,rfl⟩
def fTxt:DSp:=λds Post=>∃n ts o,ds=[Qah n ts,Qan o]/\FlOk n ts o/\Post (.str<|txt n ts o)
section
variable {P:Program}{w:World}{K:W.Frag}{mg:Str->Option Value}{base:Heap}{f:Addr}{fd:FuncData}
theorem Zq8 (mb:Mb mg) (F:Fun K "_law_text" "_law_text" Yay f fd):FnOk P w K mg base CX0 1 f fd ["_law_web_here","_law_order_here"] (spD K fTxt):=by
 refine F.ok Yaq (Zbi λds Post h=>by obtain⟨_,_,_,rfl,_⟩:=h;rfl) λcdv A outer s H vs Q E hr h=>?_;have hu:=Zb1 hr;refine⟨_,(Zaf (Zas (i:=2) Yaq.nd rfl (Or.inl rfl)<|Zbq<|Zaa (Zav (show OpR _ _ rAddS from Za6) Za1<|Za2 strUK rfl (mb "str"<|by decide) Zeb<|Zaa (Za5 (ixK K hu) (pv 0) Zag λ_ _=>rfl) Zad) Zad)<|Zaf (Zdu PassesOwn.never rfl (seqK K<|Za5 (ixK K hu) (pv 0) Zag λ_ _=>rfl) (gtupK (n:=2) K rfl<|Zbn (Za3 (i:=3) Yaq.nd rfl<|Or.inl rfl)<|Zbn (Za3 (i:=4) Yaq.nd rfl<|Or.inl rfl) Zd9)<|Zah<|Zc4<|bmK K PySem.F.plainAttrs_list PySem.F.slot_list_append PySem.F.type_list_append Zce (pv 2)<|Zaa (Zav (show OpR _ _ rAddS from Za6) (Zav (show OpR _ _ rAddS from Za6) (Zav (show OpR _ _ rAddS from Za6) Za1<|Za2 strUK rfl (mb "str"<|by decide) Zeb<|Zaa (pv 3) Zad) Za1)<|Za2 strUK rfl (mb "str"<|by decide) Zeb<|Zaa (pv 4) Zad) Zad)<|Zaf (Zdu PassesOwn.never rfl (Zbx rfl (mb "range"<|by decide)<|Zaa (Za5 (ixK K hu) (pv 0) Zag λ_ _=>rfl) Zad) (Za3 (i:=5) Yaq.nd rfl<|Or.inl rfl)<|Zah<|Zbg (Zaq Zgo (Zai (lenK K) rfl (mb "len"<|by decide) Zba<|Zaa (Za5 (ixK K hu) (pv 1) (pv 5) λ_ _=>rfl) Zad) Zag<|nomark _) (Zah<|Zc4<|bmK K PySem.F.plainAttrs_list PySem.F.slot_list_append PySem.F.type_list_append Zce (pv 2)<|Zaa (Zav (show OpR _ _ rAddS from Za6) (Zav (show OpR _ _ rAddS from Za6) Za1<|Za2 strUK rfl (mb "str"<|by decide) Zeb<|Zaa (pv 5) Zad)<|bmK K PySem.F.plainAttrs_str PySem.F.slot_str_join PySem.F.type_str_join (joinK K) Za1<|Zaa (Zcm ["_law_end"] (show CompSc (defScope Yay) ["_law_web_here","_law_order_here","_law_lines","_law_a","_law_b","_law_place"] _ [] [] from ⟨rfl,by decide +kernel,by decide +kernel,by decide +kernel,rfl,by decide +kernel⟩) rfl (seqK K<|Za5 (ixK K hu) (pv 1) (pv 5) λ_ _=>rfl) (λ_ _ _ _ _=>(Za3 (i:=0) (show List.Nodup (["_law_end"]:List Str) from by decide) rfl<|Or.inl rfl)) (λ_ _ _ _ _=>Zcx) λ_ _ _ _ _=>(Zav (show OpR _ _ rAddS from Za6) Za1<|Za2 strUK rfl (mb "str"<|by decide) Zeb<|Zaa (pv 0) Zad)) Zad) Zad) Za4)<|Zah<|Zaw<|bmK K PySem.F.plainAttrs_str PySem.F.slot_str_join PySem.F.type_str_join (joinK K) Za1<|Zaa (pv 2) Zad),Zdc (λds Post hf=>?_) h⟩;obtain⟨n,ts,o,rfl,hF,q⟩:=hf;refine⟨by simp,?_⟩;dsimp only[startD,Wbl,Wbn,Wbb,Wad];have h1:=hF.ol;have h2:=hF.n1;have h3:=hF.tl;have h4:=hF.n0;have sz:∀{x y:Str},x.length<=300->y.length<=300->x.length+y.length<=sizeLine:=λ{x y} a b=>Wbm (small1000<|by omega);have sI2:∀{i:Int},0<=i->i<=63->(sI i).length<=300:=λa b=>by have:=Zd4 a b;omega
 refine Zar<|Zdk<|Zgd<|Zab<|Zak<|Zax<|Zay<|Zab<|Zak<|Zac rfl<|Zaj<|Zbv (d:=.int n) rfl<|Zae<|Zdt (Zc7 h4<|by omega)<|Zbu (sz (by decide)<|sI2 h4 (by omega))<|Zae ⟨(show 1<=sizeLine from by decide),?_⟩;refine Zbj (λO=>∃x1 x2 x3:L2.Slot,O = [.val (Qah n ts),.val (Qan o),.own (.lst ((linP n::ts.map linT).map D.str)),x1,x2,x3]) ?_ ?_
 ·refine Zel (Zh2<|Zak<|Zac rfl<|Zaj<|Zbv (Zw3 n ts) ⟨_,rfl,λi O=>∃x1 x2 x3:L2.Slot,O = [.val (Qah n ts),.val (Qan o),.own (.lst ((linP n::(ts.take i).map linT).map D.str)),x1,x2,x3],⟨_,_,_,rfl⟩,?_,?_⟩)
  ·rintro i d O2 hd ⟨x1,x2,x3,rfl⟩
   rw[Waf]at hd;cases z:ts[i]? with
   |none=>rw[z]at hd;cases hd
   |some t=>
    rw[z]at hd;cases hd;have ht:=hF.te t<|Wav z;have hi:=(Wah.mp z).1;have a1:(Str.ofString<|toString t.1).length<=2:=Zd4 ht.1.1 (by omega);have a2:(Str.ofString<|toString t.2).length<=2:=Zd4 ht.2.1 (by omega);have e4:("tie ":Str).length=4:=rfl;have e1:(" ":Str).length=1:=rfl;refine Zis rfl<|Zcd<|Zb6<|Zcd<|Zb6<|Zfy ?_;refine Zgw rfl rfl<|Zak<|Zak<|Zak<|Zax<|Zay<|Zab<|Zac rfl<|Zae<|Zdt (Zc7 ht.1.1<|by omega)<|Zbu (sz (by decide)<|sI2 ht.1.1 (by omega)) ?_;refine Zax<|Zbu (sz (by rw[Str.length_append];omega)<|by decide) ?_;refine Zay<|Zab<|Zac rfl<|Zae<|Zdt (Zc7 ht.2.1<|by omega)<|Zbu (sz (by rw[Str.length_append,Str.length_append];omega)<|by omega) ⟨_,_,rfl,rfl,?_,.val (.int t.1),.val (.int t.2),x3,?_⟩
    ·rw[Waa,Wag,Waa,Wbj];exact small1000 (by omega)
    ·rw[Wcv,z,Wau,<- Wb1,Wau]
     rfl
  ·rintro O2 ⟨x1,x2,x3,rfl⟩
   rw[Waa,Wb4 (Waj _)];exact⟨_,_,_,rfl⟩
 rintro O1 ⟨x1,x2,x3,rfl⟩;refine Zbj (λO=>∃x1 x2 x3:L2.Slot,O = [.val (Qah n ts),.val (Qan o),.own (.lst ((lins n ts o).map D.str)),x1,x2,x3]) ?_ ?_
 ·refine Zel (Zbw<|Zab<|Zak<|Zac rfl<|Zaj<|Zbv (d:=.int n) rfl<|Zae ⟨_,rfl,by omega,by omega,λi O=>∃x1 x2 x3:L2.Slot,O = [.val (Qah n ts),.val (Qan o),.own (.lst ((linP n::ts.map linT++Qap 0 (o.take i)).map D.str)),x1,x2,x3],⟨x1,x2,x3,?_⟩,?_,?_⟩)
  ·rw[List.take_zero]
   show _=[_,_,L2.Slot.own (.lst ((linP n::ts.map linT++[]).map D.str)),_,_,_];rw[Wbg]
  ·rintro i d O2 hd ⟨x1,x2,x3,rfl⟩
   obtain⟨hi,rfl⟩:=Zcb hd;have hi':i<o.length:=by omega
   have z:o[i]?=some o[i]:=Wab hi';generalize o[i]=r at z;obtain⟨r1,r2⟩:=hF.oe r<|Wav z;have aI:atI (o.map Qae) (0+(i:Int))=some (Qae r):=by rw[Wbx];exact Zau (by rw[Waf,z];rfl)
   refine Zb6<|Zbc<|Zap<|Zak<|Zay<|Zab<|Zak<|Zac rfl<|Zac rfl<|Zbv aI<|Zae<|Zbe (Or.inr rfl)<|Zaj<|Zcj ⟨_,rfl,?_⟩;rw[Waa];refine ite2 (λy=>?_) λy=>?_
   ·have y:(r.length:Int) > 0:=of_decide_eq_true y
    have jl:=Ziw r2;have s1:(Str.ofString<|toString (0+(i:Int))).length<=2:=Zd4 (show (0:Int)<=0+(i:Int) by omega) (by omega);have e3:("at ":Str).length=3:=rfl;refine Zgw rfl rfl<|Zak<|Zak<|Zax<|Zay<|Zab<|Zac rfl<|Zae<|Zdt (Zc7 (by omega)<|by omega)<|Zbu (sz (by decide)<|sI2 (by omega) (by omega)) ?_;refine Zeu<|Zax ⟨_,rfl,Zcc (by decide)<|Zh2<|Zak<|Zac rfl<|Zac rfl<|Zbv aI ⟨_,rfl,?_,λ_=>true,λd=>match d with|.int e=>.str ((" ":Str)++sI e)|d=>d,λj d hd=>?_,?_⟩⟩
    ·rw[Waa];exact small1000 (by omega)
    ·rw[Waf]at hd
     cases y2:r[j]? with
     |none=>rw[y2]at hd;cases hd
     |some e=>
      rw[y2]at hd;cases hd;have:=r2 e<|Wav y2;exact Zcy ⟨rfl,Zak<|Zax<|Zay<|Zab<|Zac rfl<|Zae<|Zdt (Zc7 this.1 this.2)<|Zbu (sz (by decide)<|sI2 this.1 this.2) ⟨rfl,_,rfl⟩⟩
    ·refine⟨r.map λe=>(" ":Str)++sI e,?_,Zf1 (B:=3) (N:=50) (λw hw=>?_) (by rw[Waa];omega) (by decide),Zbu (sz (by rw[Str.length_append];omega)<|by omega) ⟨_,_,rfl,rfl,?_,x1,x2,.val (.int (0+(i:Int))),?_⟩⟩
     ·rw[Wbt.mpr (by simp),Wa8,Wa8];rfl
     ·obtain⟨e,he,rfl⟩:=Wa2.mp hw
      rw[Str.length_append];have:=r2 e he;have:=Zd4 this.1 this.2;have e1:(" ":Str).length=1:=rfl;omega
     ·rw[Waa,Wal,Wag,Waa]
      have:=Zf9 (o.take i) 0;rw[Wbj]at this;exact small1000 (by omega)
     ·have e:((linP n::ts.map linT++Qap 0 (o.take i))++[linA i r]).map D.str=(linP n::ts.map linT++Qap 0 (o.take i)).map D.str++[D.str (linA i r)]:=by rw[Wau];rfl
      rw[Zgv z,Qbv (by intro e;subst e;simp at y),<- Wbk,e];unfold linA;rw[Wbx];rfl
   ·have y:¬ ((r.length:Int) > 0):=of_decide_eq_false (Wch.mpr y)
    have hr0:r=[]:=Wb0 (by omega);refine Za7 ⟨x1,x2,.val (.int (0+(i:Int))),?_⟩;rw[Zgv z,Qbw hr0,Wbg];rfl
  ·rintro O2 ⟨x1,x2,x3,rfl⟩
   rw[Zbp,Wb4 (by omega)];exact⟨_,_,_,rfl⟩
 rintro O1 ⟨x1,x2,x3,rfl⟩;obtain⟨l1,l2⟩:=Zg3 hF;exact Za0<|Zeu<|Zax ⟨_,rfl,Zf3 rfl ⟨lins n ts o,rfl,Zf1 (B:=200) (N:=50) l2 l1 (by decide),q⟩⟩
theorem Zix:∀(o:Qb2) (k:Nat) {z:Str},z∈Qap k o->∃(p:Nat) (r:List Int),o[p]?=some r/\z=linA ((k+p:Nat):Int) r
 |[],k,z,h=>by exact nomatch h
 |r::o,k,z,h=>by
  rcases Wa1.mp (show z∈(if r=[] then [] else [linA (k:Int) r])++Qap (k+1) o from h) with h|h
  ·by_cases e:r=[]
   ·rw[Qbw e]at h;exact nomatch h
   ·rw[Qbv e]at h;exact⟨0,r,rfl,Was.mp h⟩
  ·obtain⟨p,s,a,b⟩:=Zix o (k+1) h
   exact⟨p+1,s,by simpa using a,by rw[b];congr 2;omega⟩
end
def GL (z:PySem.Str):Prop:=∃zs:List PySem.Str,zs≠[]/\zs.length<=50/\(∀y∈zs,Tx 0 6 y)/\z=Str.join (oS " ") zs
theorem Zxo {k:Nat}{z:PySem.Str}(h:Tx 0 k z):32 ∉ z.cps.toList:=Wds.mp (by have:=h.sp;omega)
theorem Zrr {zs:List PySem.Str}{k:Nat}(h0:zs≠[]) (h:∀y∈zs,Tx 0 k y):Qad (Str.join (oS " ") zs)=zs:=by
 unfold Qad;rw[sp32];exact Zez h0 λz hz=>Zxo<|h z hz
theorem GL.tx {z:PySem.Str}(h:GL z):Tx 50 350 z:=by
 obtain⟨zs,h0,h1,h2,rfl⟩:=h;exact(Zpr h2).up h1 (Way (Wb9 _ h1)<|by decide)
theorem GL.ln {z:PySem.Str}(h:GL z):Ln z:=h.tx.up (by decide) (by decide)
theorem tx6 {i:Int}(h0:0<=i) (h1:i<=63):Tx 0 6 (sI i):=(Zsc h0 h1).up (Waj _) (by decide)
theorem Zo0 {n:Int}{ts:Qb1}{o:Qb2}(h:FlOk n ts o):∀z∈lins n ts o,GL z:=by
 intro z hz;have n0:=h.n0;have n1:=h.n1;rcases Wa1.mp (show z∈(linP n::ts.map linT)++Qap 0 o from hz) with hz|hz
 ·rcases Wai.mp hz with rfl|hz
  ·refine⟨[oS "places",sI n],by simp,by simp,λy hy=>?_,(Zv4 n).symm⟩
   rcases Wai.mp hy with rfl|hy
   ·exact Zds (by decide +kernel)
   ·rw[Was.mp hy];exact tx6 n0 (by omega)
  ·obtain⟨t,ht,rfl⟩:=Wa2.mp hz
   obtain⟨⟨a,b⟩,c,d⟩:=h.te t ht;refine⟨[oS "tie",sI t.1,sI t.2],by simp,by simp,λy hy=>?_,(Zxf t).symm⟩;rcases Wai.mp hy with rfl|hy
   ·exact Zds (by decide +kernel)
   rcases Wai.mp hy with rfl|hy
   ·exact tx6 a (by omega)
   ·rw[Was.mp hy];exact tx6 c (by omega)
 ·obtain⟨p,r,h1,rfl⟩:=Zix o 0 hz
  have hp:=(Wah.mp h1).1;have ol:=h.ol;obtain⟨z1,z2⟩:=h.oe r<|Wav h1;have e:(.str (oS "at")::.int ((0+p:Nat):Int)::r.map D.int:List D).map wd=oS "at" :: sI ((0+p:Nat):Int)::r.map sI:=by
   rw[Wa3,Wa3,Wa8];rfl
  refine⟨oS "at" :: sI ((0+p:Nat):Int)::r.map sI,by simp,by rw[Wag,Wag,Waa];omega,λy hy=>?_,?_⟩
  ·rcases Wai.mp hy with rfl|hy
   ·exact Zds (by decide +kernel)
   rcases Wai.mp hy with rfl|hy
   ·exact tx6 (by omega) (by omega)
   ·obtain⟨x,hx,rfl⟩:=Wa2.mp hy
    exact tx6 (z2 x hx).1 (z2 x hx).2
  ·rw[<- e]
   exact(Zwz _ r).symm
theorem Zq2 {n:Int}{ts:Qb1}{o:Qb2}(h:FlOk n ts o):Qaf (txt n ts o)=lins n ts o:=by
 unfold Qaf txt;have e:("\n":PySem.Str)=⟨#[10]⟩:=nl10;rw[e];exact Zez (List.cons_ne_nil _ _) λz hz hc=>((Zo0 h z hz).tx.asc 10 hc).2 rfl
theorem Zvg:∀(cs:List Nat) (a:Nat),PySem.NumText.AllDigits cs->cs.foldl (λacc c=>acc*10+(c-48)) a<(a+1)*10 ^ cs.length
 |[],a,_=>by simp
 |c::cs,a,h=>by
  have hc:=h c Wat;have ih:=Zvg cs (a*10+(c-48)) λd hd=>h d<|Wap _ hd;rw[List.foldl_cons,Wag,Nat.pow_succ];refine Wa9 ih ?_;have:(a*10+(c-48)+1)<=(a+1)*10:=by omega
  calc (a*10+(c-48)+1)*10 ^ cs.length<=(a+1)*10*10 ^ cs.length:=Wb9 _ this
   _=(a+1)*(10 ^ cs.length*10):=by rw[Nat.mul_assoc,Nat.mul_comm 10]
theorem Ztj {z:PySem.Str}(h:Tx 0 6 z):nmI (wnum z)<1000000:=by
 by_cases hw:wOk z
 ·rw[Zht hw]
  have h1:=Zvg z.cps.toList 0 hw.2.2.1;have h2:z.cps.toList.length<=6:=by rw[Zbf];exact h.len
  have h3:10 ^ z.cps.toList.length<=10 ^ 6:=Nat.pow_le_pow_right (by decide) h2;show ((PySem.NumText.digitsVal z.cps.toList:Nat):Int)<1000000;have h4:PySem.NumText.digitsVal z.cps.toList<(0+1)*10 ^ z.cps.toList.length:=h1;omega
 ·rw[Zhi hw];decide
theorem Zrt {i:Int}(h0:0<=i) (h1:i<10 ^ 10):Tx 0 10 (sI i):=by
 have hl:=PySem.W.KT.len_num h0 h1;obtain⟨m,rfl⟩:=Int.eq_ofNat_of_zero_le h0;have hd:∀c∈(sI (m:Int)).cps.toList,48<=c/\c<=57:=λc hc=>by
  have hc:c∈(oS<|toString (m:Int)).cps.toList:=hc;rw[PySem.W.KIN.signs_num m]at hc;obtain⟨ch,hch,e⟩:=Wa2.mp hc;have r:=PyProof.Rows.digit_range<|Nat.isDigit_of_mem_toDigits (by decide) (by decide) hch;rw[<- e];exact r
 refine⟨λc hc=>by have:=hd c hc;omega,?_,hl⟩;rw[Wds.mpr λhc=>by have:=hd 32 hc;omega];exact Waj _
theorem Zoz {i:Int}(h0:0<=i) (h1:i<10 ^ 10):i.natAbs.log2<1920:=by
 by_cases hz:i.natAbs=0
 ·rw[hz];decide
 ·have h:=(Nat.log2_lt hz (k:=40)).mpr (by omega)
  omega
def Ln2 (y:PySem.Str):Prop:=∃zs:List PySem.Str,zs≠[]/\zs.length<=2/\(∀x∈zs,Ln x)/\y=Str.join (oS "\n") zs
theorem Zmn {y:PySem.Str}(h:Ln y):Ln2 y:=⟨[y],by simp,by simp,λx hx=>by rw[Was.mp hx];exact h,rfl⟩
theorem Zi1 {c:Nat}:∀(zs post:List PySem.Str),zs≠[]->Str.join ⟨#[c]⟩ (Str.join ⟨#[c]⟩ zs::post)=Str.join ⟨#[c]⟩ (zs++post)
 |[],_,h=>absurd rfl h
 |[z],post,_=>rfl
 |z::y::r,post,_=>by
  have ih:=Zi1 (c:=c) (y::r) post (by simp);refine Zer ?_;have e1:=Zbm c (Str.join ⟨#[c]⟩ (z::y::r)) post;have e2:=Zbm c z (y::r);have e3:=Zbm c z (y::r++post);have e4:=Zbm c (Str.join ⟨#[c]⟩ (y::r)) post;rw[ih]at e4;rw[e1,e2];show _=(Str.join ⟨#[c]⟩ (z::(y::r++post))).cps.toList;rw[e3];show z.cps.toList++(c::(Str.join ⟨#[c]⟩ (y::r)).cps.toList)++Qbf c post=z.cps.toList++(c::(Str.join ⟨#[c]⟩ (y::r++post)).cps.toList);rw[e4,Wbk,Wb1]
theorem Zj8 {c:Nat}:∀(pre zs post:List PySem.Str),zs≠[]->Str.join ⟨#[c]⟩ (pre++Str.join ⟨#[c]⟩ zs::post)=Str.join ⟨#[c]⟩ (pre++(zs++post))
 |[],zs,post,h=>Zi1 zs post h
 |p::ps,zs,post,h=>by
  have ih:=Zj8 (c:=c) ps zs post h;refine Zer ?_;rw[Wb1,Wb1,Zbm,Zbm];have t:∀l:List PySem.Str,l≠[]->Qbf c l=c::(Str.join ⟨#[c]⟩ l).cps.toList:=λl hl=>by
   cases l with
   |nil=>exact absurd rfl hl
   |cons a b=>rfl
  rw[t _ (by simp),t _ (by simp[h]),ih]
theorem Zmq {ls:List PySem.Str}{y:PySem.Str}{j:Nat}(hj:j<ls.length) (hl:ls.length<=60) (h:∀z∈ls,Ln z) (hy:Ln2 y):Qaw (Str.join (oS "\n")<|ls.set j y):=by
 obtain⟨zs,h0,h1,h2,rfl⟩:=hy;rw[List.set_eq_take_append_cons_drop,Qbw hj,nl10,Zj8 _ _ _ h0,<- nl10];refine Zex ?_ λz hz=>?_
 ·rw[Wal,Wal,Wbj,Wbq];omega
 ·rcases Wa1.mp hz with hz|hz
  ·exact h z<|Wb7 hz
  rcases Wa1.mp hz with hz|hz
  ·exact h2 z hz
  ·exact h z<|Wcj hz
theorem Zk4 {ls:List PySem.Str}(hl:ls.length<=60) (h:∀z∈ls,z.length<=3000):ls.foldl (λn z=>n+z.length+(oS "\n").length) 0<=sizeLine:=
 Zf1 (B:=3000) (N:=60) h hl (by decide +kernel)
theorem Zum {y:PySem.Str}(h:Ln2 y):y.length<=3000:=by
 obtain⟨zs,h0,h1,h2,rfl⟩:=h;have:=join_len 10 1000 zs λz hz=>(h2 z hz).len;rw[Zbf,<- nl10]at this;have h3:=Wb9 (1000+1) h1;omega
theorem Zqq {z:PySem.Str}{j:Nat}(h:j<=z.length):(Txt.slice z none<|some (j:Int)).cps.toList=z.cps.toList.take j:=by
 have e:Txt.slice z none (some (j:Int))=_:=PySem.StrLaws.sliceText_to (x:=z) (j:=(j:Int)) ⟨by omega,by rw[Zbf];omega⟩;rw[e];show ((z.cps.toList.drop 0).take ((j:Int)-0).toNat).toArray.toList=_;rw[List.toList_toArray,List.drop_zero];congr 1
theorem Zla {z:PySem.Str}{j:Nat}(h:j<=z.length):(Txt.slice z (some (j:Int)) none).cps.toList=z.cps.toList.drop j:=by
 have e:Txt.slice z (some (j:Int)) none=_:=PySem.StrLaws.sliceText_from (x:=z) (i:=(j:Int)) ⟨by omega,by rw[Zbf];omega⟩;rw[e];show ((z.cps.toList.drop (j:Int).toNat).take ((z.cps.toList.length:Int)-j).toNat).toArray.toList=_;rw[List.toList_toArray,Wbf,Wb4 (by rw[Wbq];omega)]
theorem Zlr {z:PySem.Str}:(Txt.slice z (some ((z.length+1:Nat):Int)) none).cps.toList=[]:=by
 have hn:Builtin.Str.strSliceIndices (some ((z.length+1:Nat):Int)) none 1 z.length=[]:=by
  unfold Builtin.Str.strSliceIndices sliceRange;simp only[show ((1:Int) > 0) by decide,if_true];rw[Qbv (by omega),Qbv (by omega)];rfl
 unfold Txt.slice;rw[hn];split
 ·rename_i h
  have:z.length=0:=by
   have h:(((1:Int) == 1) && (([]:List Nat).length == z.length))=true:=h;rw[Wa6]at h;exact(eq_of_beq h.2).symm
  exact Wcb.mp ((Zbf z).trans this)
 ·rfl
theorem Zi6 {z:PySem.Str}{j:Nat}(h:j<=z.length+1):(Txt.slice z (some (j:Int)) none).cps.toList=z.cps.toList.drop j:=by
 by_cases h1:j<=z.length
 ·exact Zla h1
 ·have e:j=z.length+1:=by omega
  subst e;rw[Zlr,List.drop_eq_nil_of_le (by rw[Zbf];omega)]
theorem Zoi {n k j:Nat}{z y:PySem.Str}(h:Tx n k z) (e:y.cps.toList=z.cps.toList.take j):Tx n k y:=by
 refine⟨λc hc=>h.asc c<|Wb7 (e ▸ hc),?_,?_⟩
 ·rw[e];exact Way ((Wdw _ _).count_le _) h.sp
 ·rw[<- Zbf,e,Wbj,Zbf];exact Way (Nat.min_le_right _ _) h.len
theorem Zqi {n k i j:Nat}{z x y:PySem.Str}(h:Tx n k z) (hij:i<=j) (e1:x.cps.toList=z.cps.toList.take i) (e2:y.cps.toList=z.cps.toList.drop j):Tx n k (x++y):=by
 have hs:(z.cps.toList.take i++z.cps.toList.drop j).Sublist z.cps.toList:=by
  have a:(z.cps.toList.drop j).Sublist (z.cps.toList.drop i):=by
   rw[show j=(j-i)+i by omega,<- List.drop_drop];rw[List.drop_drop,Nat.add_comm,<- List.drop_drop];exact List.drop_sublist _ _
  have b:=(List.Sublist.refl<|z.cps.toList.take i).append a
  rwa [List.take_append_drop]at b
 have e:(x++y).cps.toList=z.cps.toList.take i++z.cps.toList.drop j:=by rw[Zdx,e1,e2]
 refine⟨λc hc=>h.asc c<|hs.subset (e ▸ hc),?_,?_⟩
 ·rw[e];exact Way (hs.count_le _) h.sp
 ·rw[<- Zbf,e];exact Way hs.length_le (by rw[Zbf];exact h.len)
theorem Zwc {n k m l:Nat}{x s y:PySem.Str}(h1:∀c∈s.cps.toList,c<128/\c≠10) (h2:s.length<=l) (hc:s.cps.toList.count 32<=m) (h:Tx n k (x++y)):Tx (n+m) (k+l) (x++s++y):=by
 have hp:((x++s++y).cps.toList).Perm ((x++y).cps.toList++s.cps.toList):=by
  rw[Zdx,Zdx,Zdx,Wbk,Wbk];exact List.Perm.append_left _ List.perm_append_comm
 refine⟨λc hc=>?_,?_,?_⟩
 ·rcases Wa1.mp (hp.mem_iff.mp hc) with hc|hc
  ·exact h.asc c hc
  ·exact h1 c hc
 ·rw[hp.count_eq,Wc8];exact Wdj h.sp hc
 ·rw[<- Zbf,hp.length_eq,Wal,Zbf,Zbf];exact Wdj h.len h2
section
variable {P:Program}{w:World}{K:W.Frag}{mg:Str->Option Value}{base:Heap}{f:Addr}{fd:FuncData}
theorem Zjt {j n:Nat}(h:j<n):ixN n (j:Int)=some j:=by
 unfold ixN;rw[Qbw (by omega),Qbw (by omega)];rfl
end
def Qa8:BSp:=λps ds Post=>Pen ps/\∃zs:List PySem.Str,ds=[.lst (zs.map .str)]/\zs≠[]/\zs.length<=60/\∀(ys:List PySem.Str) ps',Pen ps' -> ys.length<=zs.length+1->(∀y∈ys,y∈zs)->Post (.lst<|ys.map .str) ps'
def Qa2:BSp:=λps ds Post=>Pen ps/\∃w:PySem.Str,ds=[.str w]/\Tx 0 6 w/\∀z ps',Pen ps' -> Tx 0 70 z->Post (.str z) ps'
def Qax:PySem.Str:=oS " !\"#$&'()*+,-./0123456789:;<=>?@ABCDEFGHIJKLMNOPQRSTUVWXYZ" ++ oS "[\\]^_`abcdefghijklmnopqrstuvwxyz{|}~"
def Qbb:DSp:=λds Post=>ds=[]/\Post (.str Qax)
def Qbd:BSp:=λps ds Post=>Pen ps/\∃z:PySem.Str,ds=[.str z]/\GL z/\∀y ps',Pen ps' -> Ln2 y->Post (.str y) ps'
theorem Zdo (zs:List PySem.Str) (j:Nat):(zs.map D.str).eraseIdx j=(zs.eraseIdx j).map D.str:=by
 rw[Wdx,Wdx,Wau,Wdp,Wdr]
theorem Zfs (zs:List PySem.Str) (z:PySem.Str) (i:Nat):(zs.map D.str).take i++D.str z::(zs.map D.str).drop i=(zs.take i++z::zs.drop i).map D.str:=by
 rw[Wau,Wa3,Wdp,Wdr]
theorem mulOk60:MulOk (oS "0") 60:=⟨by decide,λ_ _=>by decide +kernel,λ_ _=>by decide +kernel⟩
theorem mulOk59:MulOk (oS "0") 59:=⟨by decide,λ_ _=>by decide +kernel,λ_ _=>by decide +kernel⟩
theorem mul60:txB 0 60 (Txt.mul (oS "0") 60)=true:=by decide +kernel
theorem mul59:txB 0 60 (Txt.mul (oS "0") 59)=true:=by decide +kernel
theorem Zqm:((Qax++oS "\n").cps.toList.all λc=>decide (c<128))=true/\(Qax++oS "\n").length=95:=by decide +kernel
section
variable {P:Program}{w:World}{K:W.Frag}{mg:Str->Option Value}{base:Heap}{f:Addr}{fd:FuncData}
theorem Zlj (mb:Mb mg) (F:Fun K "_law_signs" "_law_signs" Ybe f fd):FnOk P w K mg base CX0 1 f fd [] (spD K Qbb):=by
 refine F.ok Ybn (Zbi λds Post h=>by obtain⟨rfl,_⟩:=h;rfl) λcdv A outer s H vs Q E hr h=>?_;have hu:=Zb1 hr;refine⟨_,(Zaf (Zas (i:=0) Ybn.nd rfl (Or.inl rfl) Za1)<|Zah<|Zaw<|Zav (show OpR _ _ rAddS from Za6) (pv 0) Za1),Zdc (λds Post hf=>?_) h⟩;obtain⟨rfl,q⟩:=hf;refine⟨by simp,?_⟩;dsimp only[startD,Wbl,Wbn,Wbb,Wad];exact Zar<|Zat<|Zax<|Za0<|Zak<|Zac rfl<|Zax<|Zbu (by decide +kernel) q
theorem Zni (mb:Mb mg) (C32:Callee P w K mg base 1 "_law_draw" ["_law_pen_here","_law_many"] (spB K Qa0)) (F:Fun K "_law_swapped" "_law_swapped" Ybh f fd):FnOk P w K mg base CX0 2 f fd ["_law_pen_here","_law_things"] (spB K Qa8):=by
 refine F.ok Yak (Zet λps ds Post h=>by obtain⟨_,_,rfl,_⟩:=h;rfl) λcdv A outer s H vs Q E hr h=>?_;have hu:=Zb1 hr;have hv:=Zeo hr;refine⟨_,(Zaf (Zas (i:=1) Yak.nd rfl (Or.inl rfl)<|Za2 (lstK K) rfl (mb "list"<|by decide) Zoq<|Zaa (pv 1) Zad)<|Zaf (Zas (i:=2) Yak.nd rfl (Or.inl rfl)<|Za9 C32 (hr.mono<|by decide)<|Zaa (pv 0)<|Zaa (Zai (lenK K) rfl (mb "len"<|by decide) Zba<|Zaa (pv 1) Zad) Zad)<|Zaf (Zas (i:=3) Yak.nd rfl (Or.inl rfl)<|Za9 C32 (hr.mono<|by decide)<|Zaa (pv 0)<|Zaa (Zai (lenK K) rfl (mb "len"<|by decide) Zba<|Zaa (pv 1) Zad) Zad)<|Zaf (Zas (i:=4) Yak.nd rfl (Or.inl rfl)<|Za9 C32 (hr.mono<|by decide)<|Zaa (pv 0)<|Zaa Zag Zad)<|Zaf (Zbg (Zaq Zbd (pv 4) Zag<|nomark _) (Zah<|Zc4<|bmK K PySem.F.plainAttrs_list PySem.F.slot_list_pop PySem.F.type_list_pop Zkz (pv 1)<|Zaa (pv 2) Zad)<|Zah<|Zbg (Zaq Zbd (pv 4) Zag<|nomark _) (Zah<|Zc4<|bmK K PySem.F.plainAttrs_list PySem.F.slot_list_insert PySem.F.type_list_insert Zfw (pv 1)<|Zaa (pv 3)<|Zaa (Za5 (ixK K hu) (pv 1) (pv 2) λ_ _=>rfl) Zad)<|Zah<|Zbg (Zaq Zbd (pv 4) Zag<|nomark _) (Zah<|Ze3 (Zb0<|Zaa (Za5 (ixK K hu) (pv 1) (pv 3) λ_ _=>rfl)<|Zaa (Za5 (ixK K hu) (pv 1) (pv 2) λ_ _=>rfl) Zad)<|gtupK (n:=2) K rfl<|Zbn (Zfx (pv 1) (pv 2)<|setU hu)<|Zbn (Zfx (pv 1) (pv 3)<|setU hu) Zd9)<|Zaf (Zas (i:=5) Yak.nd rfl (Or.inl rfl)<|bmK K PySem.F.plainAttrs_list PySem.F.slot_list_pop PySem.F.type_list_pop Zkz (pv 1)<|Zaa (pv 2) Zad)<|Zah<|Zc4<|bmK K PySem.F.plainAttrs_list PySem.F.slot_list_insert PySem.F.type_list_insert Zfw (pv 1)<|Zaa (pv 3)<|Zaa (pv 5) Zad)<|Zah<|Zaw<|pv 1),Zlo (λps ds Post hf=>?_) h⟩;obtain⟨hp,zs,rfl,h0,hl,q⟩:=hf;refine⟨by simp,?_⟩;dsimp only[cxOf,startD,Wbl,Wbn,Wbb,Wad];have hpos:1<=zs.length:=Wco.mpr h0;have ml:((zs.map D.str).length:Int)=(zs.length:Int):=by rw[Waa]
 refine Zar<|Zdk<|Zu0<|Zab<|Zac rfl<|Zae ⟨_,Or.inr rfl,?_⟩;refine Zar<|Zat<|Zc8 rfl rfl<|Zab<|Zep rfl rfl<|Zae (Zb5 (m:=(((zs.map D.str).length:Nat):Int)) rfl rfl hp (by omega) (by omega) λa ps1 hp1 a0 a1=>?_);refine Zar<|Zat<|Zc8 rfl rfl<|Zab<|Zep rfl rfl<|Zae (Zb5 (m:=(((zs.map D.str).length:Nat):Int)) rfl rfl hp1 (by omega) (by omega) λb ps2 hp2 b0 b1=>?_);refine Zar<|Zat (Ziu rfl rfl hp2 (by decide) (by decide) λm ps3 hp3 m0 m1=>?_);rw[ml]at a1 b1;obtain⟨i,rfl⟩:∃i:Nat,a=(i:Int):=⟨a.toNat,by omega⟩;obtain⟨j,rfl⟩:∃j:Nat,b=(j:Int):=⟨b.toNat,by omega⟩;have hi:i<zs.length:=by omega
 have hj:j<zs.length:=by omega
 have gi:(zs.map D.str)[i]?=some (.str zs[i]):=by rw[Waf,Wab hi];rfl
 have gj:(zs.map D.str)[j]?=some (.str zs[j]):=by rw[Waf,Wab hj];rfl
 have mi:zs[i]∈zs:=Wbd hi;have mj:zs[j]∈zs:=Wbd hj;refine Zbj (λO=>∃(ys:List PySem.Str) (x2 x3 x4 x5:L2.Slot),ys.length<=zs.length+1/\(∀y∈ys,y∈zs) /\ O = [.bor (.lst ps3),.own (.lst<|ys.map .str),x2,x3,x4,x5]) ?_ ?_
 ·refine Zbc (Zap<|Zak<|Zac rfl<|Zaj<|Zdv ⟨_,rfl,ite2 (λc=>?_) λc=>?_⟩)
  ·refine Zu9 (Zma rfl rfl<|Zac rfl ⟨_,_,i,_,rfl,rfl,rfl,gi,by rw[Waa];omega,zs.eraseIdx i,.val (.int (i:Int)),.val (.int (j:Int)),.val (.int m),.any,?_,λy hy=>Wc7 hy,?_⟩)
   ·exact Way (List.length_eraseIdx_le _ _) (by omega)
   ·rw[Zdo];rfl
  refine Zbc<|Zap<|Zak<|Zac rfl<|Zaj<|Zdv ⟨_,rfl,ite2 (λc=>?_) λc=>?_⟩
  ·refine Zl4 rfl rfl (Zac rfl<|Zey rfl rfl<|Zac rfl ⟨_,_,_,_,rfl,rfl,rfl,Zau gi,_,(j:Int),_,rfl,rfl,rfl,?_,by omega,by omega,zs.take (insI (zs.map D.str).length (j:Int))++zs[i]::zs.drop (insI (zs.map D.str).length (j:Int)),.val (.int (i:Int)),.val (.int (j:Int)),.val (.int m),.any,?_,λy hy=>?_,?_⟩)
   ·rw[Waa];exact small1000 (by omega)
   ·rw[Wal,Wag,Wbj,Wbq];omega
   ·rcases Wa1.mp hy with h|h
    ·exact Wb7 h
    ·rcases Wai.mp h with rfl|h
     ·exact mi
     ·exact Wcj h
   ·rw[<- Zfs];rfl
  refine Zbc<|Zap<|Zak<|Zac rfl<|Zaj<|Zdv ⟨_,rfl,ite2 (λc=>?_) λc=>?_⟩
  ·refine Zm3 (Zb9<|Zab<|Zey rfl rfl<|Zac rfl ⟨_,_,_,_,rfl,rfl,rfl,Zau gj,Zab<|Zey rfl rfl<|Zac rfl ⟨_,_,_,_,rfl,rfl,rfl,Zau gi,Zae ⟨Zdw,?_⟩⟩⟩)
   refine Zis rfl<|Zcd<|Zkw ⟨_,_,rfl,rfl⟩<|Zac rfl ⟨_,_,_,i,rfl,rfl,rfl,Zjt (by rw[Waa];exact hi),Zcd<|Zkw ⟨_,_,rfl,rfl⟩<|Zac rfl ⟨_,_,_,j,rfl,rfl,rfl,Zjt (by rw[Wbs,Waa];exact hj),Zfy ?_⟩⟩;refine⟨(zs.set i zs[j]).set j zs[i],.val (.int (i:Int)),.val (.int (j:Int)),.val (.int m),.any,by rw[Wbs,Wbs];omega,λy hy=>?_,?_⟩
   ·rcases Wc4 hy with h|h
    ·rcases Wc4 h with h|h
     ·exact h
     ·rw[h];exact mj
    ·rw[h];exact mi
   ·rw[Wde,Wde];rfl
  ·refine Zar (Zat<|Zma rfl rfl<|Zac rfl ⟨_,_,i,_,rfl,rfl,rfl,gi,by rw[Waa];omega,?_⟩)
   rw[Zdo];have el:(zs.eraseIdx i).length<=zs.length:=List.length_eraseIdx_le _ _;refine Zl4 rfl rfl<|Zac rfl<|Zac rfl ⟨_,(j:Int),_,rfl,rfl,rfl,?_,by omega,by omega,(zs.eraseIdx i).take (insI ((zs.eraseIdx i).map D.str).length (j:Int))++zs[i]::(zs.eraseIdx i).drop (insI ((zs.eraseIdx i).map D.str).length (j:Int)),.val (.int (i:Int)),.val (.int (j:Int)),.val (.int m),.val (.str zs[i]),?_,λy hy=>?_,?_⟩
   ·rw[Waa];exact small1000 (by omega)
   ·rw[Wal,Wag,Wbj,Wbq];omega
   ·rcases Wa1.mp hy with h|h
    ·exact Wc7<|Wb7 h
    ·rcases Wai.mp h with rfl|h
     ·exact mi
     ·exact Wc7<|Wcj h
   ·rw[<- Zfs];rfl
 rintro O1 ⟨ys,x2,x3,x4,x5,h1,h2,rfl⟩;exact Za0<|Zf3 rfl ⟨ps3,rfl,q ys ps3 hp3 h1 h2⟩
theorem Zjb (mb:Mb mg) (C32:Callee P w K mg base 1 "_law_draw" ["_law_pen_here","_law_many"] (spB K Qa0)) (C37:Callee P w K mg base 1 "_law_number_in" ["_law_word"] (spD K Qa7)) (F:Fun K "_law_number_for" "_law_number_for" Ybi f fd):FnOk P w K mg base CX0 2 f fd ["_law_pen_here","_law_word"] (spB K Qa2):=by
 refine F.ok Ya1 (Zet λps ds Post h=>by obtain⟨_,_,rfl,_⟩:=h;rfl) λcdv A outer s H vs Q E hr h=>?_;have hu:=Zb1 hr;have hv:=Zeo hr;refine⟨_,(Zaf (Zas (i:=2) Ya1.nd rfl (Or.inl rfl)<|Zai (Zgg rfl) rfl (mb "max"<|by decide) Zkl<|Zaa Zag<|Zaa (Za9 C37 (hr.mono<|by decide)<|Zaa (pv 1) Zad) Zad)<|Zaf (Zas (i:=3) Ya1.nd rfl (Or.inl rfl)<|Zbq<|Zaa (Za2 strUK rfl (mb "str"<|by decide) Zeb<|Zaa (Zav (addK K) (pv 2) Zag) Zad)<|Zaa (Za2 strUK rfl (mb "str"<|by decide) Zeb<|Zaa (Zai (Zgg rfl) rfl (mb "max"<|by decide) Zkl<|Zaa Zag<|Zaa (Zav Zka (pv 2) Zag) Zad) Zad)<|Zaa (Zav (show OpR _ _ rAddS from Za6) Za1<|pv 1)<|Zaa (Zav (show OpR _ _ rAddS from Za6) Za1<|pv 1)<|Zaa (Za2 strUK rfl (mb "str"<|by decide) Zeb<|Zaa (Za9 C32 (hr.mono<|by decide)<|Zaa (pv 0)<|Zaa Zag Zad) Zad)<|Zaa Za1<|Zaa Za1 Zad)<|Zaf (Zas (i:=3) Ya1.nd rfl (Or.inl rfl)<|Zav (addK K) (pv 3)<|Zbq<|Zaa (Zav (show OpR _ _ rAddS from Za6) (pv 1) Za1)<|Zaa (Zav (show OpR _ _ rAddS from Za6) Za1<|Zav Zm7 Za1 Zag) Zad)<|Zah<|Zaw<|Za5 (ixK K hu) (Zav (addK K) (pv 3)<|Zbq<|Zaa (Zav (show OpR _ _ rAddS from Za6) Za1<|Zav Zm7 Za1 Zag)<|Zaa Za1<|Zaa Za1 Zad) (Za9 C32 (hr.mono<|by decide)<|Zaa (pv 0)<|Zaa Zag Zad) λ_ _=>rfl),Zlo (λps ds Post hf=>?_) h⟩;obtain⟨hp,wd,rfl,hw,q⟩:=hf;refine⟨by simp,?_⟩;dsimp only[cxOf,startD,Wbl,Wbn,Wbb,Wad];have hlt:=Ztj hw;have wl:=hw.len;have t1:∀s:String,txB 0 10 (oS s)=true->Tx 0 10 (oS s):=λs h=>Zds h;have sz:∀{x y:PySem.Str}{n k n2 k2:Nat},Tx n k x->Tx n2 k2 y->k<=100->k2<=100->x.length+y.length<=sizeLine:=λ{x y n k n2 k2} h g h1 h2=>by
  have a:=h.len;have b:=g.len;exact Wbm (small1000<|by omega)
 refine Zbj (λO=>∃v:Int,0<=v/\v<1000000 /\ O = [.bor (.lst ps),.val (.str wd),.val (.int v),.any]) ?_ ?_
 ·refine Zat (Zay<|Zab<|Zaj<|Zab<|Za8<|Zab<|Zac rfl<|Zae ⟨wd,rfl,Zou λc hc=>(hw.asc c hc).1,by omega,Zae<|Zgx ⟨_,?_,?_,rfl⟩⟩)
  ·split <;> omega
  ·split <;> omega
 rintro O1 ⟨v,v0,v1,rfl⟩;have tz:Tx 0 1 (oS "0"):=Zds (by decide +kernel);have tm:Tx 0 1 (oS "-"):=Zds (by decide +kernel);have tp:Tx 0 1 (oS "."):=Zds (by decide +kernel);have to:Tx 0 1 (oS "1"):=Zds (by decide +kernel);have te:Tx 0 70 (oS ""):=Zds (by decide +kernel);have tx:Tx 0 70 (oS "x"):=Zds (by decide +kernel);have t25:Tx 0 70 (oS "25"):=Zds (by decide +kernel);have t24:Tx 0 70 (oS "24"):=Zds (by decide +kernel);have z6:=Zds mul60;have z5:=Zds mul59;refine Zbj (λO=>∃(ps1:List D) (zs:List PySem.Str),Pen ps1/\zs.length=7/\(∀z∈zs,Tx 0 70 z) /\ O = [.bor (.lst ps1),.val (.str wd),.val (.int v),.val (.lst<|zs.map .str)]) ?_ ?_
 ·have b1:=Zrt (i:=v+1) (by omega) (by omega)
  have b2:=Zrt (i:=if v-1 > 0 then v-1 else 0) (by split <;> omega) (by split <;> omega)
  refine Zat<|Zcs<|Zab<|Zay<|Zab<|Zak<|Zac rfl<|Zaj<|Zch<|Zae<|Zdt (Zoz (by omega)<|by omega) ?_;refine Zab<|Zay<|Zab<|Zay<|Zab<|Zaj<|Zab<|Zak<|Zac rfl<|Zaj<|Zn6<|Zae<|Zgx<|Zae<|Zdt (Zoz (by split <;> omega) (by split <;> omega)) ?_
  refine Zab<|Zak<|Zax<|Zac rfl<|Zbu (sz tz hw (by decide)<|by decide) ?_;refine Zab<|Zak<|Zax<|Zac rfl<|Zbu (sz tm hw (by decide)<|by decide) ?_;refine Zab<|Zay<|Zab (Ziu rfl rfl hp (by decide) (by decide) λr ps1 hp1 r0 r1=>Zae<|Zdt (Zc7 r0<|by omega) ?_);refine Zab<|Zax<|Zab<|Zax<|Zae ⟨by show 7<=sizeLine;decide,ps1,[sI (v+1),sI (if v-1 > 0 then v-1 else 0),oS "0" ++ wd,oS "-" ++ wd,sI r,oS "",oS "x"],hp1,rfl,λz hz=>?_,rfl⟩;simp only[Wai,Wbc,or_false]at hz;rcases hz with rfl|rfl|rfl|rfl|rfl|rfl|rfl
  ·exact b1.up (Waj _) (by decide)
  ·exact b2.up (Waj _) (by decide)
  ·exact(Zgl tz hw).up (by decide) (by decide)
  ·exact(Zgl tm hw).up (by decide) (by decide)
  ·exact(Zsc r0<|by omega).up (Waj _) (by decide)
  ·exact te
  ·exact tx
 rintro O1 ⟨ps1,zs,hp1,zl,hz,rfl⟩;refine Zbj (λO=>∃zs:List PySem.Str,zs.length=9/\(∀z∈zs,Tx 0 70 z) /\ O = [.bor (.lst ps1),.val (.str wd),.val (.int v),.val (.lst<|zs.map .str)]) ?_ ?_
 ·refine Zat (Zak<|Zac rfl<|Zcs<|Zab<|Zak<|Zac rfl<|Zax<|Zbu (sz hw tp (by decide)<|by decide) ?_)
  refine Zab<|Zak<|Zax<|Zak<|Zax<|Zaj<|Znq mulOk60<|Zbu (sz to z6 (by decide)<|by decide)<|Zae ⟨Zdw,Zd8 ?_ ?_⟩
  ·rw[Waa,zl];show 7+2<=sizeLine;decide
  ·refine⟨zs++[wd++oS ".",oS "1" ++ Txt.mul (oS "0") 60],by rw[Wal,zl];rfl,λz h=>?_,by rw[Wau];rfl⟩
   rcases Wa1.mp h with h|h
   ·exact hz z h
   ·rcases Wai.mp h with rfl|h
    ·exact(Zgl hw tp).up (by decide) (by decide)
    ·rw[Was.mp h];exact(Zgl to z6).up (by decide) (by decide)
 rintro O1 ⟨zs,zl,hz,rfl⟩;refine Za0<|Zak<|Zak<|Zac rfl<|Zcs<|Zab<|Zak<|Zax<|Zak<|Zax<|Zaj<|Znq mulOk59<|Zbu (sz to z5 (by decide)<|by decide) ?_;refine Zab<|Zax<|Zab<|Zax<|Zae ⟨by show 3<=sizeLine;decide,Zd8 ?_ ?_⟩
 ·rw[Waa,zl];show 9+3<=sizeLine;decide
 have em:zs.map D.str++[D.str (oS "1" ++ Txt.mul (oS "0") 59),D.str (oS "25"),D.str (oS "24")]=(zs++[oS "1" ++ Txt.mul (oS "0") 59,oS "25",oS "24"]).map D.str:=by rw[Wau];rfl
 rw[em];refine Ziu rfl rfl hp1 (by decide) (by decide) λr ps2 hp2 r0 r1=>?_;obtain⟨d,hd,hm⟩:=Zu8 (xs:=(zs++[oS "1" ++ Txt.mul (oS "0") 59,oS "25",oS "24"]).map D.str) r0 (by rw[Waa,Wal,zl];show r<12;omega);obtain⟨y,hy,rfl⟩:=Zu4 hm;refine Zaz hd ⟨ps2,rfl,q y ps2 hp2 ?_⟩;rcases Wa1.mp hy with h|h
 ·exact hz y h
 ·simp only[Wai,Wbc,or_false]at h
  rcases h with rfl|rfl|rfl
  ·exact(Zgl to z5).up (by decide) (by decide)
  ·exact t25
  ·exact t24
end
theorem Zwv {X:Cx}{k:Nat}{x:PySem.Str}{ps:List PySem.Str}{sp:Sp}{p pos:Pos}(C:L2.Callee X.prog X.w X.K X.mg X.base k x ps sp) (hr:Room k X.A) (hg:Gl X x:=by rfl) (hdb:(x == ("__debug__":PySem.Str))=false:=by decide):PE X (.Call (.Name x p) [] [] pos) (tCall sp [] E0 tNil):=by
 obtain⟨f,fd,F,b,kp,m⟩:=C.ex;exact Zpw F hr hg m kp b .nil pass0 hdb
theorem Zvp {pre post:List PySem.Str}{y:PySem.Str}(h1:∀z∈pre++post,Tx 0 6 z) (h2:Tx 0 70 y) (hl:(pre++post).length<=50):Tx 51 430 (Str.join (oS " ")<|pre++[y]++post):=by
 rw[Wal]at hl;have a:∀z∈pre++[y]++post,Tx 0 70 z:=λz hz=>by
  rcases Wa1.mp hz with hz|hz
  ·rcases Wa1.mp hz with hz|hz
   ·exact(h1 z<|Wb8 _ hz).up (Waj _) (by decide)
   ·rw[Was.mp hz];exact h2
  ·exact(h1 z<|Wa0 _ hz).up (Waj _) (by decide)
 have b:=Zpr a;have c:=L2.join_len (oS " ")<|pre++[y]++post;have d1:=Zie (oS " ").length 6 pre λz hz=>(h1 z<|Wb8 _ hz).len;have d2:=Zie (oS " ").length 6 post λz hz=>(h1 z<|Wa0 _ hz).len;have e1:(oS " ").length=1:=by decide +kernel
 rw[Wau,Wau,List.sum_append,List.sum_append]at c;rw[e1]at c d1 d2;have e2:([y].map λz=>z.length+1).sum=y.length+1:=by simp
 rw[e2]at c;have e3:=h2.len;refine⟨b.asc,Way b.sp (by rw[Wal,Wal,Wbo];omega),by omega⟩
theorem Zrf {ls:List PySem.Str}(hl:ls.length<=60) (h:∀z∈ls,Tx 0 70 z):ls.foldl (λn z=>n+z.length+(oS " ").length) 0<=sizeLine:=
 Zf1 (B:=70) (N:=60) (λz hz=>(h z hz).len) hl (by decide +kernel)
section
variable {P:Program}{w:World}{K:W.Frag}{mg:Str->Option Value}{base:Heap}{f:Addr}{fd:FuncData}
theorem Zlu (mb:Mb mg) (C32:Callee P w K mg base 1 "_law_draw" ["_law_pen_here","_law_many"] (spB K Qa0)) (C44:Callee P w K mg base 2 "_law_swapped" ["_law_pen_here","_law_things"] (spB K Qa8)) (C36:Callee P w K mg base 2 "_law_number_for" ["_law_pen_here","_law_word"] (spB K Qa2)) (C43:Callee P w K mg base 1 "_law_signs" [] (spD K Qbb)) (F:Fun K "_law_other_line" "_law_other_line" Ybj f fd):FnOk P w K mg base CX0 3 f fd ["_law_pen_here","_law_line"] (spB K Qbd):=by
 refine F.ok Yal (Zet λps ds Post h=>by obtain⟨_,_,rfl,_⟩:=h;rfl) λcdv A outer s H vs Q E hr h=>?_;have hu:=Zb1 hr;have hv:=Zeo hr;refine⟨_,(Zaf (Zas (i:=2) Yal.nd rfl (Or.inl rfl)<|bmK K PySem.F.plainAttrs_str PySem.F.slot_str_split PySem.F.type_str_split (splitK K) (pv 1)<|Zaa Za1 Zad)<|Zaf (Zas (i:=3) Yal.nd rfl (Or.inl rfl)<|Za9 C32 (hr.mono<|by decide)<|Zaa (pv 0)<|Zaa (Zai (lenK K) rfl (mb "len"<|by decide) Zba<|Zaa (pv 2) Zad) Zad)<|Zaf (Zas (i:=4) Yal.nd rfl (Or.inl rfl)<|Za9 C32 (hr.mono<|by decide)<|Zaa (pv 0)<|Zaa Zag Zad)<|Zaf (Zbg (Zaq Zbd (pv 4) Zag<|nomark _) (Zah<|Zaw<|bmK K PySem.F.plainAttrs_str PySem.F.slot_str_join PySem.F.type_str_join (joinK K) Za1<|Zaa (Za9 C44 (hr.mono<|by decide)<|Zaa (pv 0)<|Zaa (pv 2) Zad) Zad) Za4)<|Zaf (Zbg (Zaq Zhz (pv 4) Zag<|nomark _) (Zah<|Zaw<|bmK K PySem.F.plainAttrs_str PySem.F.slot_str_join PySem.F.type_str_join (joinK K) Za1<|Zaa (Zav (addK K) (Zav (addK K) (Zbs (slK K) (pv 2) Zck<|Zb8<|pv 3)<|Zbq<|Zaa (Za9 C36 (hr.mono<|by decide)<|Zaa (pv 0)<|Zaa (Za5 (ixK K hu) (pv 2) (pv 3) λ_ _=>rfl) Zad) Zad)<|Zbs (slK K) (pv 2) (Zb8<|Zav (addK K) (pv 3) Zag) Zck) Zad) Za4)<|Zaf (Zas (i:=5) Yal.nd rfl (Or.inl rfl)<|Za5 (ixK K hu) (Zav (show OpR _ _ rAddS from Za6) (Zwv C43<|hr.mono (by decide)) Za1) (Za9 C32 (hr.mono<|by decide)<|Zaa (pv 0)<|Zaa Zag Zad) λ_ _=>rfl)<|Zaf (Zas (i:=3) Yal.nd rfl (Or.inl rfl)<|Za9 C32 (hr.mono<|by decide)<|Zaa (pv 0)<|Zaa (Zav (addK K) (Zai Zc2 rfl (mb "len"<|by decide) Zba<|Zaa (pv 1) Zad) Zag) Zad)<|Zah<|Zaw<|Zav (show OpR _ _ rAddS from Za6) (Zav (show OpR _ _ rAddS from Za6) (Zbs Zsk (pv 1) Zck<|Zb8<|pv 3)<|Za5 (ixK K hu) (Zbq<|Zaa (pv 5)<|Zaa Za1 Zad) (Za9 C32 (hr.mono<|by decide)<|Zaa (pv 0)<|Zaa Zag Zad) λ_ _=>rfl)<|Zbs Zsk (pv 1) (Zb8<|Zav (addK K) (pv 3)<|Za9 C32 (hr.mono<|by decide)<|Zaa (pv 0)<|Zaa Zag Zad) Zck),Zlo (λps ds Post hf=>?_) h⟩;obtain⟨hp,z,rfl,⟨zs,h0,hl,hz,ez⟩,q⟩:=hf;refine⟨by simp,?_⟩;dsimp only[cxOf,startD,Wbl,Wbn,Wbb,Wad];have hg:GL z:=⟨zs,h0,hl,hz,ez⟩;have gt:=hg.tx;have zlen:=gt.len;have hpos:1<=zs.length:=Wco.mpr h0;have hz2:z.length+2<=sizeLine:=Way (Wbw zlen 2) (by decide);have hzl:z.length<=sizeLine:=by omega
 have hwz:Qad z=zs:=by rw[ez];exact Zrr h0 hz
 refine Zar<|Zat<|Zbo<|Zc0<|Zac rfl ⟨_,rfl,Zax ⟨_,rfl,by decide,hz2,_,rfl,?_⟩⟩;show JS K _ (_::_::Slot.val (.lst ((Qad z).map D.str))::_) _;rw[hwz];refine Zar<|Zat<|Zc8 rfl rfl<|Zab<|Zay<|Zab<|Zac rfl<|Zae<|Zbe (Or.inl rfl)<|Zae (Zb5 (m:=(((zs.map D.str).length:Nat):Int)) rfl rfl hp (by rw[Waa];omega) (by rw[Waa];omega) λa ps1 hp1 a0 a1=>?_);rw[Waa]at a1;refine Zar<|Zat (Ziu rfl rfl hp1 (by decide) (by decide) λm ps2 hp2 m0 m1=>?_);obtain⟨i,rfl⟩:∃i:Nat,a=(i:Int):=⟨a.toNat,by omega⟩;have hi:i<zs.length:=by omega
 have gi:(zs.map D.str)[i]?=some (.str zs[i]):=by rw[Waf,Wab hi];rfl
 have mi:zs[i]∈zs:=Wbd hi;have w60:∀y∈zs,Tx 0 60 y:=λy hy=>(hz y hy).up (Waj _) (by decide);refine Zar<|Zbc<|Zap<|Zak<|Zac rfl<|Zaj<|Zdv ⟨_,rfl,ite2 (λc=>?_) λc=>Za7 ?_⟩
 ·refine Za0 (Zeu<|Zax ⟨_,rfl,Zc8 rfl rfl<|Zab<|Zac rfl<|Zae ⟨_,_,rfl,rfl,hp2,zs,rfl,h0,by omega,λys ps3 hp3 yl hy=>⟨ys,rfl,Ztg (by omega) λy h=>w60 y<|hy y h,ps3,rfl,q _ ps3 hp3<|Zmn ?_⟩⟩⟩)
  exact(Zpr λy h=>hz y<|hy y h).up (by omega) (Way (Wb9 _ (show ys.length<=51 by omega))<|by decide)
 refine Zar<|Zbc<|Zap<|Zak<|Zac rfl<|Zaj<|Zcj ⟨_,rfl,ite2 (λc=>?_) λc=>Za7 ?_⟩
 ·have e1:cutD (zs.map D.str) none (some (i:Int))=(zs.take i).map D.str:=by rw[Zr3 _ (by rw[Waa];omega),Wdp]
  have e2:cutD (zs.map D.str) (some ((i:Int)+1)) none=(zs.drop<|i+1).map D.str:=by
   rw[show (i:Int)+1=((i+1:Nat):Int) by omega,Zdm _ (by rw[Waa];omega),Wdr]
  refine Za0<|Zeu<|Zax ⟨_,rfl,Zak<|Zak<|Zfn<|Zac rfl<|Zcg<|Zca<|Zac rfl ⟨_,rfl,.lst ((zs.take i).map D.str),?_,Zcs<|Zab<|Zc8 rfl rfl<|Zab<|Zak<|Zac rfl<|Zac rfl<|Zaz (Zau gi)<|Zae ⟨_,_,rfl,rfl,hp2,zs[i],rfl,hz _ mi,λy ps3 hp3 ty=>Zae ⟨Zk0,Zd8 ?_<|Zfn<|Zac rfl<|Zca<|Zak<|Zac rfl<|Zaj<|Zch ⟨_,rfl,Zcg ⟨.lst ((zs.drop<|i+1).map D.str),?_,Zd8 ?_ ⟨zs.take i++[y]++zs.drop (i+1),?_,?_,ps3,rfl,q _ ps3 hp3<|Zmn ?_⟩⟩⟩⟩⟩⟩⟩
  ·show some (D.lst _)=_;rw[e1]
  ·rw[Waa,Wbj];exact Wbm<|small1000 (by show min i zs.length+1<=1000;omega)
  ·show some (D.lst _)=_;rw[e2]
  ·rw[Wal,Waa,Waa,Wbj,Wbq];exact Wbm<|small1000 (by show min i zs.length+1+(zs.length-(i+1))<=1000;omega)
  ·rw[Wau,Wau];rfl
  ·refine Zrf (by rw[Wal,Wal,Wbj,Wbq,Wbo];omega) λx hx=>?_
   rcases Wa1.mp hx with hx|hx
   ·rcases Wa1.mp hx with hx|hx
    ·exact(hz x<|Wb7 hx).up (Waj _) (by decide)
    ·rw[Was.mp hx];exact ty
   ·exact(hz x<|Wcj hx).up (Waj _) (by decide)
  ·refine(Zvp (λx hx=>?_) ty ?_).up (by decide) (by decide)
   ·rcases Wa1.mp hx with hx|hx
    ·exact hz x<|Wb7 hx
    ·exact hz x<|Wcj hx
   ·rw[Wal,Wbj,Wbq];omega
 have so:=Zqm;refine Zbj (λO=>∃(ps3:List D) (c:Nat),Pen ps3/\c<128 /\ O = [.bor (.lst ps3),.val (.str z),.val (.lst<|zs.map .str),.val (.int (i:Int)),.val (.int m),.val (.str<|sgn c)]) ?_ ?_
 ·refine Zat (Zak<|Zak<|Za8<|Zae ⟨rfl,Zax<|Zbu (by decide +kernel) (Ziu rfl rfl hp2 (by decide) (by decide) λr ps3 hp3 r0 r1=>?_)⟩)
  have hr:r.toNat<(Qax++oS "\n").cps.toList.length:=by rw[Zbf,so.2];omega
  have hc:=Wa4.mp so.1 _<|Wbd hr;have hat:atI (Qax++oS "\n").cps.toList r=some ((Qax++oS "\n").cps.toList[r.toNat]):=by
   have:=Zau<|Wab hr
   rwa [show ((r.toNat:Nat):Int)=r by omega]at this
  exact Zjw (by rw[so.2];decide) hat ⟨ps3,_,hp3,of_decide_eq_true hc,rfl⟩
 rintro O1 ⟨ps3,c,hp3,hc,rfl⟩;refine Zbj (λO=>∃(ps3:List D) (j:Nat),Pen ps3/\j<=z.length /\ O = [.bor (.lst ps3),.val (.str z),.val (.lst<|zs.map .str),.val (.int (j:Int)),.val (.int m),.val (.str<|sgn c)]) ?_ ?_
 ·refine Zat (Zc8 rfl rfl<|Zab<|Zak<|Zay<|Zab<|Zac rfl<|Zae<|Zhu hzl<|Zaj<|Zch<|Zae (Zb5 (m:=((z.length:Nat):Int)+1) rfl rfl hp3 (by omega) (by omega) λr ps4 hp4 r0 r1=>?_))
  refine⟨ps4,r.toNat,hp4,by omega,?_⟩;rw[show ((r.toNat:Nat):Int)=r by omega];rfl
 rintro O1 ⟨ps4,j,hp4,hj,rfl⟩;have sa:(Txt.slice z none<|some (j:Int)).length<=350:=Way (Txt.slice_le _ _ _) zlen;refine Za0<|Zak<|Zak<|Zru<|Zac rfl<|Zcg<|Zca<|Zac rfl ⟨_,rfl,z,rfl,hzl,?_⟩;refine Zwl (λd O=>∃(s:PySem.Str) (ps5:List D),Pen ps5/\(s=sgn c\/s=oS "")/\d=.str s /\ O = [.bor (.lst ps5),.val (.str z),.val (.lst<|zs.map .str),.val (.int (j:Int)),.val (.int m),.val (.str<|sgn c)]) ?_ ?_
 ·refine Zak (Zcs<|Zab<|Zac rfl<|Zab<|Zax<|Zae ⟨Zdw,Ziu rfl rfl hp4 (by decide) (by decide) λr ps5 hp5 r0 r1=>?_⟩)
  have:r=0\/r=1:=by omega
  rcases this with rfl|rfl
  ·exact Zaz (d:=.str<|sgn c) (Zau (j:=0) rfl) ⟨_,ps5,hp5,.inl rfl,rfl,rfl⟩
  ·exact Zaz (d:=.str<|oS "") (Zau (j:=1) rfl) ⟨_,ps5,hp5,.inr rfl,rfl,rfl⟩
 rintro d O ⟨s,ps5,hp5,hs,rfl,rfl⟩;have sl:s.length<=1:=by
  rcases hs with rfl|rfl
  ·exact Waj 1
  ·decide +kernel
 refine Zbu ?_<|Zru<|Zac rfl<|Zca<|Zak<|Zac rfl (Ziu rfl rfl hp5 (by decide) (by decide) λr ps6 hp6 r0 r1=>Zch ⟨_,rfl,Zcg ⟨z,rfl,hzl,Zbu ?_ ⟨ps6,rfl,q _ ps6 hp6 ?_⟩⟩⟩)
 ·exact Wbm (small1000<|by omega)
 ·have sb:=Way (Txt.slice_le z (some ((j:Int)+r)) none) zlen
  rw[Str.length_append];exact Wbm (small1000<|by omega)
 obtain⟨k,hk,ek⟩:∃k:Nat,k<=1/\(j:Int)+r=((j+k:Nat):Int):=⟨r.toNat,by omega,by omega⟩;rw[ek];have e1:=Zqq (z:=z) (j:=j) hj;have e2:=Zi6 (z:=z) (j:=j+k) (by omega);have tp:=Zqi gt (Nat.le_add_right j k) e1 e2;have na:∀c'∈(Txt.slice z none<|some (j:Int)).cps.toList,c'<128/\c'≠10:=(Zoi gt e1).asc;by_cases hnl:s=oS "\n"
 ·have tb:Tx 50 350 (Txt.slice z (some ((j+k:Nat):Int)) none):=by
   refine⟨λc hc=>tp.asc c (by rw[Zdx];exact Wa0 _ hc),?_,Way (Txt.slice_le _ _ _) zlen⟩;have:=tp.sp;rw[Zdx,Wc8]at this;omega
  refine⟨[Txt.slice z none (some (j:Int)),Txt.slice z (some ((j+k:Nat):Int)) none],by simp,by simp,λx hx=>?_,by rw[hnl];rfl⟩;rcases Wai.mp hx with rfl|hx
  ·exact(Zoi gt e1).up (by decide) (by decide)
  ·rw[Was.mp hx];exact tb.up (by decide) (by decide)
 ·refine Zmn ((Zwc (m:=1) (l:=1) (λc' hc'=>?_) sl ?_ tp).up (by decide) (by decide))
  ·rcases hs with rfl|rfl
   ·have:c'=c:=by simpa [sgn] using hc'
    subst this;refine⟨hc,λe=>hnl ?_⟩;rw[e];decide +kernel
   ·exact absurd hc' (by decide +kernel +revert)
  ·exact Way List.count_le_length (by rw[Zbf];exact sl)
theorem ok_law (mb:Mb mg) (C40:Callee P w K mg base 1 "_law_pen" ["_law_script"] (spN K fPen)) (C32:Callee P w K mg base 1 "_law_draw" ["_law_pen_here","_law_many"] (spB K Qa0)) (C46:Callee P w K mg base 2 "_law_web" ["_law_pen_here","_law_places","_law_ties"] (spB K fWeb)) (C38:Callee P w K mg base 2 "_law_order" ["_law_pen_here","_law_web_here"] (spB K Qbh))
  (C45:Callee P w K mg base 1 "_law_text" ["_law_web_here","_law_order_here"] (spD K fTxt)) (C44:Callee P w K mg base 2 "_law_swapped" ["_law_pen_here","_law_things"] (spB K Qa8)) (C39:Callee P w K mg base 3 "_law_other_line" ["_law_pen_here","_law_line"] (spB K Qbd)) (C34:Callee P w K mg base 9 "_law_is_read" ["_law_text_here"] (spD K Qa1)) (F:Fun K "law" "law" Yaj f fd):FnOk P w K mg base CX0 10 f fd ["_law_script"] (spD K fLaw):=by
 refine F.ok Yae (Zbi λds Post h=>by obtain⟨_,rfl,_⟩:=h;rfl) λcdv A outer s H vs Q E hr h=>?_;have hu:=Zb1 hr;have hv:=Zeo hr;refine⟨_,(Zaf (Zas (i:=1) Yae.nd rfl (Or.inl rfl)<|Za9 C40 (hr.mono<|by decide)<|Zaa (pv 0) Zad)<|Zaf (Zas (i:=2) Yae.nd rfl (Or.inl rfl)<|Za9 C46 (hr.mono<|by decide)<|Zaa (pv 1)<|Zaa Zag<|Zaa Zag Zad)<|Zaf (Zas (i:=3) Yae.nd rfl (Or.inl rfl)<|Za9 C45 (hr.mono<|by decide)<|Zaa (pv 2)<|Zaa (Za9 C38 (hr.mono<|by decide)<|Zaa (pv 1)<|Zaa (pv 2) Zad) Zad)<|Zaf (Zdu PassesOwn.never rfl (Zbx rfl (mb "range"<|by decide)<|Zaa (Zav (addK K) Zag<|Za9 C32 (hr.mono<|by decide)<|Zaa (pv 1)<|Zaa Zag Zad) Zad) (Za3 (i:=4) Yae.nd rfl<|Or.inl rfl)<|Zaf (Zas (i:=5) Yae.nd rfl (Or.inl rfl)<|bmK K PySem.F.plainAttrs_str PySem.F.slot_str_split PySem.F.type_str_split (splitK K) (pv 3)<|Zaa Za1 Zad)<|Zaf (Zbg (Zaq Zbd (Za9 C32 (hr.mono<|by decide)<|Zaa (pv 1)<|Zaa Zag Zad) Zag<|nomark _) (Zah<|Zas (i:=5) Yae.nd rfl (Or.inl rfl)<|Za9 C44 (hr.mono<|by decide)<|Zaa (pv 1)<|Zaa (pv 5) Zad)<|Zaf (Zas (i:=6) Yae.nd rfl (Or.inl rfl)<|Za9 C32 (hr.mono<|by decide)<|Zaa (pv 1)<|Zaa (Zai (lenK K) rfl (mb "len"<|by decide) Zba<|Zaa (pv 5) Zad) Zad)<|Zah<|Ze3 (Za9 C39 (hr.mono<|by decide)<|Zaa (pv 1)<|Zaa (Za5 (ixK K hu) (pv 5) (pv 6) λ_ _=>rfl) Zad)<|Zfx (pv 5) (pv 6)<|setU hu)<|Zah<|Zbg (Zcl<|truK K (Za9 C34 (hr.mono<|by decide)<|Zaa (bmK K PySem.F.plainAttrs_str PySem.F.slot_str_join PySem.F.type_str_join (joinK K) Za1<|Zaa (pv 5) Zad) Zad) λ_=>rfl) (Zah<|Zaw Zh7) Za4)<|Zah<|Zaw<|Za9 C34 (hr.mono<|by decide)<|Zaa (pv 3) Zad),Zdc (λds Post hf=>?_) h⟩;obtain⟨ns,rfl,hl,q⟩:=hf;refine⟨by simp,?_⟩;dsimp only[cxOf,startD,Wbl,Wbn,Wbb,Wad];refine Zar<|Zdk<|Zjv<|Zab<|Zac rfl<|Zae ⟨ns,rfl,hl,λps hp=>?_⟩;refine Zbj (λO=>∃(ps1:List D) (n:Int) (ts:Qb1),Pen ps1/\Qau n ts /\ O = [.val (.scr<|ns.map .int),.own (.lst ps1),.val (Qah n ts),.any,.any,.any,.any]) ?_ ?_
 ·exact Zat<|Zc8 rfl rfl<|Zab<|Zaj<|Zab<|Zaj<|Zae (Zxj rfl rfl hp (by decide) (by decide) (by decide) (by decide) λn ts ps1 hp1 hW _ _=>⟨ps1,n,ts,hp1,hW,rfl⟩)
 rintro O1 ⟨ps1,n,ts,hp1,hW,rfl⟩;refine Zbj (λO=>∃(ps2:List D) (o:Qb2),Pen ps2/\FlOk n ts o /\ O = [.val (.scr<|ns.map .int),.own (.lst ps2),.val (Qah n ts),.val (.str<|txt n ts o),.any,.any,.any]) ?_ ?_
 ·exact Zat<|Za8<|Zab<|Zac rfl<|Zab<|Zc8 rfl rfl<|Zab<|Zac rfl<|Zae (Zrc rfl rfl hp1 hW λo ps2 hp2 hO=>Zae ⟨n,ts,o,rfl,Zvv hW hO,ps2,o,hp2,Zvv hW hO,rfl⟩)
 rintro O1 ⟨ps2,o,hp2,FL,rfl⟩;have hgl:=Zo0 FL;have hln:∀z∈lins n ts o,Ln z:=λz hz=>(hgl z hz).ln;obtain⟨ll,_⟩:=Zg3 FL;have et:txt n ts o=Str.join (oS "\n") (lins n ts o):=rfl;have hT:Qaw (txt n ts o):=by rw[et];exact Zex (by omega) hln
 have hz2:(txt n ts o).length+2<=sizeLine:=Way (Wbw hT.len 2) (by decide);have er:Txt.split (txt n ts o) (oS "\n")=lins n ts o:=Zq2 FL;generalize lins n ts o=L at hgl hln ll er;have lne:L≠[]:=by rw[<- er];exact Zho _
 have lpos:1<=L.length:=Wco.mpr lne;clear et;generalize txt n ts o=T at hT hz2 er ⊢;refine Zbj (λO=>∃(ps3:List D) (x4 x5 x6:L2.Slot),Pen ps3 /\ O = [.val (.scr<|ns.map .int),.own (.lst ps3),.val (Qah n ts),.val (.str T),x4,x5,x6]) ?_ ?_
 ·refine Zel (Zbw<|Zab<|Zak<|Zaj<|Zc8 rfl rfl<|Zab<|Zaj<|Zae (Zb5 rfl rfl hp2 (by decide) (by decide) λm ps3 hp3 m0 m1=>Zch ?_))
  refine Zae ⟨_,rfl,by omega,by omega,λ_ O=>∃(ps3:List D) (x4 x5 x6:L2.Slot),Pen ps3 /\ O = [.val (.scr<|ns.map .int),.own (.lst ps3),.val (Qah n ts),.val (.str T),x4,x5,x6],⟨_,_,_,_,hp3,rfl⟩,?_,λO hI=>hI⟩;rintro i d O hd ⟨ps3,x4,x5,x6,hp3,rfl⟩;refine Zb6<|Zar<|Zdk<|Zc0<|Zac rfl ⟨_,rfl,Zax ⟨_,rfl,by decide,hz2,?_⟩⟩;rw[er];refine Zbj (λO=>∃(ps4:List D) (ys:List PySem.Str) (x5 x6:L2.Slot),Pen ps4/\Qaw (Str.join (oS "\n") ys)/\ys.length<=60/\(∀y∈ys,y.length<=3000)/\(x5=.val (.lst<|ys.map .str)\/x5=.own (.lst<|ys.map .str)) /\ O = [.val (.scr<|ns.map .int),.own (.lst ps4),.val (Qah n ts),.val (.str T),.val d,x5,x6]) ?_ ?_
  ·refine Zbc (Zap<|Zak<|Zc8 rfl rfl<|Zab<|Zaj<|Zae (Zb5 rfl rfl hp3 (by decide) (by decide) λr ps4 hp4 r0 r1=>Zaj<|Zdv ⟨_,rfl,ite2 (λc=>?_) λc=>?_⟩))
   ·refine Zat<|Zc8 rfl rfl<|Zab<|Zf3 rfl<|Zae ⟨_,_,rfl,rfl,hp4,L,rfl,lne,by omega,λys ps5 hp5 yl hy=>⟨ps5,ys,_,_,hp5,Zex (by omega) λy h=>hln y<|hy y h,by omega,λy h=>Way (hln y<|hy y h).len (by decide),.inl rfl,rfl⟩⟩
   ·refine Zar (Zat<|Zc8 rfl rfl<|Zab<|Zep rfl rfl<|Zae (Zb5 (m:=(((L.map D.str).length:Nat):Int)) rfl rfl hp4 (by rw[Waa];omega) (by rw[Waa];omega) λa ps5 hp5 a0 a1=>?_))
    rw[Waa]at a1;obtain⟨j,rfl⟩:∃j:Nat,a=(j:Int):=⟨a.toNat,by omega⟩;have hj:j<L.length:=by omega
    have gj:(L.map D.str)[j]?=some (.str L[j]):=by rw[Waf,Wab hj];rfl
    refine Zkk<|Zc8 rfl rfl<|Zab<|Zey rfl rfl<|Zac rfl ⟨_,_,_,_,rfl,rfl,rfl,Zau gj,Zae ⟨_,_,rfl,rfl,hp5,L[j],rfl,hgl _<|Wbd hj,λy ps6 hp6 hy=>⟨⟨_,_,rfl,rfl⟩,Zac rfl ⟨_,_,_,j,rfl,rfl,rfl,Zjt (by rw[Waa];exact hj),ps6,L.set j y,_,.val (.int (j:Int)),hp6,Zmq hj (by omega) hln hy,by rw[Wbs];omega,λx hx=>?_,.inr rfl,?_⟩⟩⟩⟩
    ·rcases Wc4 hx with h|h
     ·exact Way (hln x h).len (by decide)
     ·rw[h];exact Zum hy
    ·rw[Wde];rfl
  rintro O1 ⟨ps4,ys,x5,x6,hp4,hTB,yl,yb,hx,rfl⟩;rcases hx with rfl|rfl
  ·exact Zbc<|Zb2<|Zbh<|Za8<|Zab<|Zeu<|Zax ⟨_,rfl,Zac rfl ⟨ys,rfl,Zk4 yl yb,Zae ⟨_,rfl,hTB,true,rfl,iteF<|Za7 ⟨_,_,_,_,hp4,rfl⟩⟩⟩⟩
  ·exact Zbc<|Zb2<|Zbh<|Za8<|Zab<|Zeu<|Zax ⟨_,rfl,Zf3 rfl ⟨ys,rfl,Zk4 yl yb,Zae ⟨_,rfl,hTB,true,rfl,iteF<|Za7 ⟨_,_,_,_,hp4,rfl⟩⟩⟩⟩
 rintro O1 ⟨ps3,x4,x5,x6,hp3,rfl⟩;exact Za0<|Za8<|Zab<|Zac rfl<|Zae ⟨_,rfl,hT,q⟩
end
theorem lenS {us:List Value}{n:Nat}(h:us.length=n+1):∃a t,us=a::t/\t.length=n:=by
 cases us with
 |nil=>exact absurd h.symm (Nat.succ_ne_zero n)
 |cons a t=>exact⟨a,t,rfl,Nat.succ.inj h⟩
theorem bK0 {α:Type _}{g r:List Value -> α}(h:g []=r []) (us:List Value) (l:us.length=0):g us=r us:=by
 obtain rfl:=Wb0 l;exact h
theorem bK1 {α:Type _}{g r:List Value -> α}(h:∀a0,g [a0]=r [a0]) (us:List Value) (l:us.length=1):g us=r us:=by
 obtain⟨a0,u0,rfl,h0⟩:=lenS l;obtain rfl:=Wb0 h0;exact h a0
theorem bK2 {α:Type _}{g r:List Value -> α}(h:∀a0 a1,g [a0,a1]=r [a0,a1]) (us:List Value) (l:us.length=2):g us=r us:=by
 obtain⟨a0,u0,rfl,h0⟩:=lenS l;obtain⟨a1,u1,rfl,h1⟩:=lenS h0;obtain rfl:=Wb0 h1;exact h a0 a1
theorem bK3 {α:Type _}{g r:List Value -> α}(h:∀a0 a1 a2,g [a0,a1,a2]=r [a0,a1,a2]) (us:List Value) (l:us.length=3):g us=r us:=by
 obtain⟨a0,u0,rfl,h0⟩:=lenS l;obtain⟨a1,u1,rfl,h1⟩:=lenS h0;obtain⟨a2,u2,rfl,h2⟩:=lenS h1;obtain rfl:=Wb0 h2;exact h a0 a1 a2
def FnE (K:W.Frag) (x:Str) (st:Stmt):Prop:=∃(f:Addr) (fd:FuncData),W.nsIn K mainGlobals x=some (some (.ref f))/\Fun K x x st f fd
theorem fnE {K:W.Frag}{x:Str}{st:Stmt}{f:Addr}{oc kV doc pm cdv ct:Value}{od an:Option Addr}{sl:Array (Option Value)}(a:W.nsIn K mainGlobals x=some (some (.ref f))) (l:K.lookup f=some ⟨oc,od,.func<|W.fnOf x x (defArgs st) (defBody st) (defScope st) .none kV doc pm an cdv ct,sl⟩) (c:W.codeIn K cdv x=true) (k:W.keepIn K (.ref f)=true):FnE K x st:=⟨f,_,a,Zr4 l c k⟩
theorem Zuh {P:Program}{w:World}{K:W.Frag}{mg:Str->Option Value}{base h:Heap}(X:K.In h) (G:h.Ns mainGlobals mg) {x:Str}{st:Stmt}{ps:List Str}{lv:Nat}{sp:Sp}(e:FnE K x st) (ok:∀{f:Addr}{fd:FuncData},Fun K x x st f fd->FnOk P w K mg base CX0 lv f fd ps sp) (hb:∀(kV doc pm:Value) (an:Option Addr) (cdv ct:Value) (us:List Value),us.length=ps.length->bindArgs (W.fnOf x x (defArgs st) (defBody st) (defScope st) .none kV doc pm an cdv ct) ⟨us,[]⟩=pure (ps.zip us)):Callee P w K mg base lv x ps sp:=by
 obtain⟨f,fd,a,F⟩:=e;exact⟨⟨f,fd,ok F,F.binds hb,F.kp,W.mg_of X G a⟩⟩
theorem Zqk {P:Program}{w:World}{K:W.Frag}{mg:Str->Option Value}{base h:Heap}(X:K.In h) (G:h.Ns mainGlobals mg) {x:Str}{st:Stmt}{ps:List Str}{lv:Nat}{sp:Addr->Sp}(e:FnE K x st) (ok:∀{f:Addr}{fd:FuncData},Fun K x x st f fd->∀xa,FnOkH xa P w K mg base CX0 lv f fd ps (sp xa)) (hb:∀(kV doc pm:Value) (an:Option Addr) (cdv ct:Value) (us:List Value),us.length=ps.length->bindArgs (W.fnOf x x (defArgs st) (defBody st) (defScope st) .none kV doc pm an cdv ct) ⟨us,[]⟩=pure (ps.zip us)):CalleeH P w K mg base lv x ps sp:=by
 obtain⟨f,fd,a,F⟩:=e;exact⟨⟨f,fd,ok F,F.binds hb,F.kp,W.mg_of X G a⟩⟩
theorem Zqh {P:Program}{w:World}{K:W.Frag}{mg:Str->Option Value}{base h:Heap}(X:K.In h) (G:h.Ns mainGlobals mg) {x:Str}{st:Stmt}{ps:List Str}{lv:Nat}{sp:Sp}(e:FnE K x st) (ok:∀{f:Addr}{fd:FuncData},Fun K x x st f fd->FnOk P w K mg base (CXR P w) lv f fd ps sp) (hb:∀(kV doc pm:Value) (an:Option Addr) (cdv ct:Value) (us:List Value),us.length=ps.length->bindArgs (W.fnOf x x (defArgs st) (defBody st) (defScope st) .none kV doc pm an cdv ct) ⟨us,[]⟩=pure (ps.zip us)):CalleeR P w K mg base lv x ps sp:=by
 obtain⟨f,fd,a,F⟩:=e;exact⟨⟨f,fd,ok F,F.binds hb,F.kp,W.mg_of X G a⟩⟩
theorem Zql {P:Program}{w:World}{K:W.Frag}{mg:Str->Option Value}{base h:Heap}(X:K.In h) (G:h.Ns mainGlobals mg) {x:Str}{st:Stmt}{ps:List Str}{lv:Nat}{sp:Sp}(e:FnE K x st) (ok:∀{f:Addr}{fd:FuncData},Fun K x x st f fd->Binds K fd ps []->W.keepIn K (.ref f)=true->mg x=some (.ref f)->FnOk P w K mg base CX0 lv f fd ps sp) (hb:∀(kV doc pm:Value) (an:Option Addr) (cdv ct:Value) (us:List Value),us.length=ps.length->bindArgs (W.fnOf x x (defArgs st) (defBody st) (defScope st) .none kV doc pm an cdv ct) ⟨us,[]⟩=pure (ps.zip us)):Callee P w K mg base lv x ps sp:=by
 obtain⟨f,fd,a,F⟩:=e;exact⟨⟨f,fd,ok F (F.binds hb) F.kp<|W.mg_of X G a,F.binds hb,F.kp,W.mg_of X G a⟩⟩
theorem Zp1 {P:Program}{w:World}{K:W.Frag}{mg:Str->Option Value}{base h:Heap}(X:K.In h) (G:h.Ns mainGlobals mg) {x:Str}{st:Stmt}{ps:List Str}{lv:Nat}{sp:Sp}(e:FnE K x st) (ok:∀{f:Addr}{fd:FuncData},Fun K x x st f fd->FnOk P w K mg base (CXE P w) lv f fd ps sp) (hb:∀(kV doc pm:Value) (an:Option Addr) (cdv ct:Value) (us:List Value),us.length=ps.length->bindArgs (W.fnOf x x (defArgs st) (defBody st) (defScope st) .none kV doc pm an cdv ct) ⟨us,[]⟩=pure (ps.zip us)):CalleeX P w K mg base lv x ps sp:=by
 obtain⟨f,fd,a,F⟩:=e;exact⟨⟨f,fd,ok F,F.binds hb,F.kp,W.mg_of X G a⟩⟩
theorem all_mk {l:PySem.W.OpenLaw}{w:World}{K:W.Frag}{h:Heap}{mg:Str->Option Value}{fa:Addr}(X:K.In h) (G:h.Ns mainGlobals mg) (hfa:mg "law" = some (.ref fa))
  (e1:FnE K "_law_draw" Yba)
  (e2:FnE K "_law_pen" Yax)
  (e3:FnE K "_law_web" Ybb)
  (e4:FnE K "_law_order" Yag)
  (e5:FnE K "_law_text" Yay)
  (e6:FnE K "is_whole" Ya2)
  (e7:FnE K "is_row" Ya3)
  (e8:FnE K "tie_of" Ya4)
  (e9:FnE K "web_of" Yas)
  (e10:FnE K "with_web" Ya8)
  (e11:FnE K "with_places" Ya6)
  (e12:FnE K "with_tie" Ya7)
  (e13:FnE K "place_of" Ya5)
  (e14:FnE K "ends_at" Yat)
  (e15:FnE K "with_ends" Ya9)
  (e16:FnE K "number_written" Yaw)
  (e17:FnE K "floor_with" Yav)
  (e18:FnE K "read" Yau)
  (e19:FnE K "_law_kinds" Yan)
  (e20:FnE K "_law_read" Ybf)
  (e21:FnE K "_law_whole" Ybc)
  (e22:FnE K "_law_same" Yah)
  (e23:FnE K "_law_number_in" Ybd)
  (e24:FnE K "_law_bad_row" Yai)
  (e25:FnE K "_law_floor_in" Yao)
  (e26:FnE K "_law_is_read" Ybg)
  (e27:FnE K "_law_signs" Ybe)
  (e28:FnE K "_law_swapped" Ybh)
  (e29:FnE K "_law_number_for" Ybi)
  (e30:FnE K "_law_other_line" Ybj)
  (e31:FnE K "law" Yaj)
  {tk_FIGURES:Tok}(y_FIGURES:W.nsIn K mainGlobals "FIGURES" = some (some (.str "0123456789" tk_FIGURES)))
  {tk_MOST_FIGURES:Tok}(y_MOST_FIGURES:W.nsIn K mainGlobals "MOST_FIGURES" = some (some (.int 60 tk_MOST_FIGURES)))
  {tk_MOST_PLACES:Tok}(y_MOST_PLACES:W.nsIn K mainGlobals "MOST_PLACES" = some (some (.int 25 tk_MOST_PLACES)))
  {tk_MOST_TIES:Tok}(y_MOST_TIES:W.nsIn K mainGlobals "MOST_TIES" = some (some (.int 24 tk_MOST_TIES)))
  (z0:W.nsIn K mainGlobals "ValueError" = some none)
  (z1:W.nsIn K mainGlobals "abs" = some none)
  (z2:W.nsIn K mainGlobals "all" = some none)
  (z3:W.nsIn K mainGlobals "bool" = some none)
  (z4:W.nsIn K mainGlobals "enumerate" = some none)
  (z5:W.nsIn K mainGlobals "int" = some none)
  (z6:W.nsIn K mainGlobals "isinstance" = some none)
  (z7:W.nsIn K mainGlobals "len" = some none)
  (z8:W.nsIn K mainGlobals "list" = some none)
  (z9:W.nsIn K mainGlobals "max" = some none)
  (z10:W.nsIn K mainGlobals "min" = some none)
  (z11:W.nsIn K mainGlobals "range" = some none)
  (z12:W.nsIn K mainGlobals "sorted" = some none)
  (z13:W.nsIn K mainGlobals "str" = some none)
  (z14:W.nsIn K mainGlobals "tuple" = some none)
  (z15:W.nsIn K mainGlobals "zip" = some none)
  {fI c_FloorError c_NoWeb c_NoOrder c_NoNumber c_NoEnd c_NoTie c_NoPlace c_NoTable c_NoRing c_NoPaper c_Apart c_TooMany c_TooGreat c_NoText c_NoName c_NoRow:Addr}
  (n_FloorError:W.nsIn K mainGlobals "FloorError" = some (some (.ref c_FloorError)))
  (n_NoWeb:W.nsIn K mainGlobals "NoWeb" = some (some (.ref c_NoWeb)))
  (n_NoOrder:W.nsIn K mainGlobals "NoOrder" = some (some (.ref c_NoOrder)))
  (n_NoNumber:W.nsIn K mainGlobals "NoNumber" = some (some (.ref c_NoNumber)))
  (n_NoEnd:W.nsIn K mainGlobals "NoEnd" = some (some (.ref c_NoEnd)))
  (n_NoTie:W.nsIn K mainGlobals "NoTie" = some (some (.ref c_NoTie)))
  (n_NoPlace:W.nsIn K mainGlobals "NoPlace" = some (some (.ref c_NoPlace)))
  (n_NoTable:W.nsIn K mainGlobals "NoTable" = some (some (.ref c_NoTable)))
  (n_NoRing:W.nsIn K mainGlobals "NoRing" = some (some (.ref c_NoRing)))
  (n_NoPaper:W.nsIn K mainGlobals "NoPaper" = some (some (.ref c_NoPaper)))
  (n_Apart:W.nsIn K mainGlobals "Apart" = some (some (.ref c_Apart)))
  (n_TooMany:W.nsIn K mainGlobals "TooMany" = some (some (.ref c_TooMany)))
  (n_TooGreat:W.nsIn K mainGlobals "TooGreat" = some (some (.ref c_TooGreat)))
  (n_NoText:W.nsIn K mainGlobals "NoText" = some (some (.ref c_NoText)))
  (n_NoName:W.nsIn K mainGlobals "NoName" = some (some (.ref c_NoName)))
  (n_NoRow:W.nsIn K mainGlobals "NoRow" = some (some (.ref c_NoRow)))
  (e_FloorError:PySem.W.excIn K c_FloorError [.type "ValueError",.type "Exception",.type "BaseException",.type "object"] "ValueError.__new__" = true)
  (e_NoWeb:PySem.W.excIn K c_NoWeb [.type "ValueError",.type "Exception",.type "BaseException",.type "object"] "ValueError.__new__" = true)
  (mm_NoWeb:PySem.W.mroIn K c_NoWeb (.ref c_NoWeb)=some true)
  (fi:PySem.W.findIn K (.ref c_NoText) "__init__" = some (some (.ref fI)))
  (zc:excInI K c_NoText fI=true)
  (ob:PySem.W.mroIn K c_NoText (.type "object")=some true)
  (sa:PySem.W.findIn K (.ref c_NoText) "__setattr__" = some (some (.builtin "object.__setattr__")))
  (tr:PySem.W.takerIn K c_NoText "row" = some none)
  (hd:PySem.W.hasDictIn K c_NoText=true)
  (ft:PySem.W.typeIn K (.ref fI)=some (.type "function"))
  (kc:W.keepIn K (.ref c_NoText)=true)
  (gsx:PySem.W.specialIn K (.builtin "object.__class__") "__get__" = some (some (.builtin "getset_descriptor.__get__")))
  (tkx:PySem.W.takesIn K (.builtin "object.__class__")=some true)
  (ga:PySem.W.findIn K (.ref c_NoText) "__getattribute__" = some (some (.builtin "BaseException.__getattribute__")))
  (gt:PySem.W.findIn K (.ref c_NoText) "__getattr__" = some none)
  (ca:PySem.W.findIn K (.ref c_NoText) "__class__" = some (some (.builtin "object.__class__")))
  (be:PySem.W.mroIn K c_NoText (.type "BaseException")=some true)
  (ve:PySem.W.subIn K (.ref c_NoText) (.type "ValueError")=some true)
  (mT:PySem.W.mroIn K c_NoText (.ref c_FloorError)=some true)
  (rT:PySem.W.findIn K (.ref c_NoText) "row" = some none)
  (ic_NoWeb:PySem.W.isClsIn K c_NoWeb=true)
  (ty_NoWeb:PySem.W.typeIn K (.ref c_NoWeb)=some (.type "type"))
  (s_NoWeb:PySem.W.subIn K (.ref c_NoText) (.ref c_NoWeb)=some false)
  (d_NoWeb:(c_NoText == c_NoWeb)=false)
  (ic_NoOrder:PySem.W.isClsIn K c_NoOrder=true)
  (ty_NoOrder:PySem.W.typeIn K (.ref c_NoOrder)=some (.type "type"))
  (s_NoOrder:PySem.W.subIn K (.ref c_NoText) (.ref c_NoOrder)=some false)
  (d_NoOrder:(c_NoText == c_NoOrder)=false)
  (ic_NoNumber:PySem.W.isClsIn K c_NoNumber=true)
  (ty_NoNumber:PySem.W.typeIn K (.ref c_NoNumber)=some (.type "type"))
  (s_NoNumber:PySem.W.subIn K (.ref c_NoText) (.ref c_NoNumber)=some false)
  (d_NoNumber:(c_NoText == c_NoNumber)=false)
  (ic_NoEnd:PySem.W.isClsIn K c_NoEnd=true)
  (ty_NoEnd:PySem.W.typeIn K (.ref c_NoEnd)=some (.type "type"))
  (s_NoEnd:PySem.W.subIn K (.ref c_NoText) (.ref c_NoEnd)=some false)
  (d_NoEnd:(c_NoText == c_NoEnd)=false)
  (ic_NoTie:PySem.W.isClsIn K c_NoTie=true)
  (ty_NoTie:PySem.W.typeIn K (.ref c_NoTie)=some (.type "type"))
  (s_NoTie:PySem.W.subIn K (.ref c_NoText) (.ref c_NoTie)=some false)
  (d_NoTie:(c_NoText == c_NoTie)=false)
  (ic_NoPlace:PySem.W.isClsIn K c_NoPlace=true)
  (ty_NoPlace:PySem.W.typeIn K (.ref c_NoPlace)=some (.type "type"))
  (s_NoPlace:PySem.W.subIn K (.ref c_NoText) (.ref c_NoPlace)=some false)
  (d_NoPlace:(c_NoText == c_NoPlace)=false)
  (ic_NoTable:PySem.W.isClsIn K c_NoTable=true)
  (ty_NoTable:PySem.W.typeIn K (.ref c_NoTable)=some (.type "type"))
  (s_NoTable:PySem.W.subIn K (.ref c_NoText) (.ref c_NoTable)=some false)
  (d_NoTable:(c_NoText == c_NoTable)=false)
  (ic_NoRing:PySem.W.isClsIn K c_NoRing=true)
  (ty_NoRing:PySem.W.typeIn K (.ref c_NoRing)=some (.type "type"))
  (s_NoRing:PySem.W.subIn K (.ref c_NoText) (.ref c_NoRing)=some false)
  (d_NoRing:(c_NoText == c_NoRing)=false)
  (ic_NoPaper:PySem.W.isClsIn K c_NoPaper=true)
  (ty_NoPaper:PySem.W.typeIn K (.ref c_NoPaper)=some (.type "type"))
  (s_NoPaper:PySem.W.subIn K (.ref c_NoText) (.ref c_NoPaper)=some false)
  (d_NoPaper:(c_NoText == c_NoPaper)=false)
  (ic_Apart:PySem.W.isClsIn K c_Apart=true)
  (ty_Apart:PySem.W.typeIn K (.ref c_Apart)=some (.type "type"))
  (s_Apart:PySem.W.subIn K (.ref c_NoText) (.ref c_Apart)=some false)
  (d_Apart:(c_NoText == c_Apart)=false)
  (ic_TooMany:PySem.W.isClsIn K c_TooMany=true)
  (ty_TooMany:PySem.W.typeIn K (.ref c_TooMany)=some (.type "type"))
  (s_TooMany:PySem.W.subIn K (.ref c_NoText) (.ref c_TooMany)=some false)
  (d_TooMany:(c_NoText == c_TooMany)=false)
  (ic_TooGreat:PySem.W.isClsIn K c_TooGreat=true)
  (ty_TooGreat:PySem.W.typeIn K (.ref c_TooGreat)=some (.type "type"))
  (s_TooGreat:PySem.W.subIn K (.ref c_NoText) (.ref c_TooGreat)=some false)
  (d_TooGreat:(c_NoText == c_TooGreat)=false)
  (ic_NoText:PySem.W.isClsIn K c_NoText=true)
  (ty_NoText:PySem.W.typeIn K (.ref c_NoText)=some (.type "type"))
  (s_NoText:PySem.W.subIn K (.ref c_NoText) (.ref c_NoText)=some true)
  (ic_NoName:PySem.W.isClsIn K c_NoName=true)
  (ty_NoName:PySem.W.typeIn K (.ref c_NoName)=some (.type "type"))
  (s_NoName:PySem.W.subIn K (.ref c_NoText) (.ref c_NoName)=some false)
  (d_NoName:(c_NoText == c_NoName)=false)
  (ic_NoRow:PySem.W.isClsIn K c_NoRow=true)
  (ty_NoRow:PySem.W.typeIn K (.ref c_NoRow)=some (.type "type"))
  (s_NoRow:PySem.W.subIn K (.ref c_NoText) (.ref c_NoRow)=some false)
  (d_NoRow:(c_NoText == c_NoRow)=false)
  {oci kVi dci pmi cdi cti:Value}{odi ani:Option Addr}{sli:Array (Option Value)}(li:K.lookup fI=some ⟨oci,odi,.func<|W.fnOf "__init__" "NoText.__init__" (defArgs Yam) (defBody Yam) (defScope Yam) .none kVi dci pmi ani cdi cti,sli⟩) (ci:W.codeIn K cdi "NoText.__init__" = true) (ki:W.keepIn K (.ref fI)=true) :
  ∃fd:FuncData,(∀(s:Shared) (v:Value),BindsTo s fd ⟨[v],[]⟩ [("_law_script",v)])/\∀base:Heap,K.In base->base.Ns mainGlobals mg->FnOk l.prog w K mg base CX0 10 fa fd ["_law_script"] (spD K fLaw):=by
 obtain⟨f,fd,a,F⟩:=e31;have e:=hfa.symm.trans<|W.mg_of X G a;cases e;have mb:Mb mg:=by
  intro x hx;simp only[Wai,Wbc,or_false]at hx;rcases hx with rfl|rfl|rfl|rfl|rfl|rfl|rfl|rfl|rfl|rfl|rfl|rfl|rfl|rfl|rfl|rfl
  ·exact W.mg_none_of X G z0
  ·exact W.mg_none_of X G z1
  ·exact W.mg_none_of X G z2
  ·exact W.mg_none_of X G z3
  ·exact W.mg_none_of X G z4
  ·exact W.mg_none_of X G z5
  ·exact W.mg_none_of X G z6
  ·exact W.mg_none_of X G z7
  ·exact W.mg_none_of X G z8
  ·exact W.mg_none_of X G z9
  ·exact W.mg_none_of X G z10
  ·exact W.mg_none_of X G z11
  ·exact W.mg_none_of X G z12
  ·exact W.mg_none_of X G z13
  ·exact W.mg_none_of X G z14
  ·exact W.mg_none_of X G z15
 obtain⟨oc,od,kV,doc,pm,an,cdv,ct,osl,rfl,lk,hcd⟩:=F.ex;refine⟨W.fnOf "law" "law" (defArgs Yaj) (defBody Yaj) (defScope Yaj) .none kV doc pm an cdv ct,λs v=>.of_eq rfl,λbase _ _=>?_⟩;have M:=@Zuh l.prog w K mg base h X G;have MH:=@Zqk l.prog w K mg base h X G;have MQ:=@Zqh l.prog w K mg base h X G;have MR:=@Zql l.prog w K mg base h X G;have MX:=@Zp1 l.prog w K mg base h X G;have cl:Cl K mg fI c_FloorError c_NoWeb c_NoOrder c_NoNumber c_NoEnd c_NoTie c_NoPlace c_NoTable c_NoRing c_NoPaper c_Apart c_TooMany c_TooGreat c_NoText c_NoName c_NoRow:=⟨W.mg_of X G n_FloorError,W.mg_of X G n_NoWeb,W.mg_of X G n_NoOrder,W.mg_of X G n_NoNumber,W.mg_of X G n_NoEnd,W.mg_of X G n_NoTie,W.mg_of X G n_NoPlace,W.mg_of X G n_NoTable,W.mg_of X G n_NoRing,W.mg_of X G n_NoPaper,W.mg_of X G n_Apart,W.mg_of X G n_TooMany,W.mg_of X G n_TooGreat,W.mg_of X G n_NoText,W.mg_of X G n_NoName,W.mg_of X G n_NoRow,e_FloorError,e_NoWeb,mm_NoWeb,⟨zc,ob,sa,tr,hd⟩,ft,kc,⟨zc,ga,gt,ca,gsx,tkx,ob,be⟩,mT,rT,Zsv (by decide +kernel) ve,Zcq ic_NoWeb ty_NoWeb s_NoWeb λz=>(by rw[d_NoWeb]at z;exact z),Zcq ic_NoOrder ty_NoOrder s_NoOrder λz=>(by rw[d_NoOrder]at z;exact z),Zcq ic_NoNumber ty_NoNumber s_NoNumber λz=>(by rw[d_NoNumber]at z;exact z),Zcq ic_NoEnd ty_NoEnd s_NoEnd λz=>(by rw[d_NoEnd]at z;exact z),Zcq ic_NoTie ty_NoTie s_NoTie λz=>(by rw[d_NoTie]at z;exact z),Zcq ic_NoPlace ty_NoPlace s_NoPlace λz=>(by rw[d_NoPlace]at z;exact z),Zcq ic_NoTable ty_NoTable s_NoTable λz=>(by rw[d_NoTable]at z;exact z),Zcq ic_NoRing ty_NoRing s_NoRing λz=>(by rw[d_NoRing]at z;exact z),Zcq ic_NoPaper ty_NoPaper s_NoPaper λz=>(by rw[d_NoPaper]at z;exact z),Zcq ic_Apart ty_Apart s_Apart λz=>(by rw[d_Apart]at z;exact z),Zcq ic_TooMany ty_TooMany s_TooMany λz=>(by rw[d_TooMany]at z;exact z),Zcq ic_TooGreat ty_TooGreat s_TooGreat λz=>(by rw[d_TooGreat]at z;exact z),Zcq ic_NoText ty_NoText s_NoText λ_=>rfl,Zcq ic_NoName ty_NoName s_NoName λz=>(by rw[d_NoName]at z;exact z),Zcq ic_NoRow ty_NoRow s_NoRow λz=>(by rw[d_NoRow]at z;exact z)⟩;have FI:=Zr4 (st:=Yam) li ci ki;have nt:NoTx l.prog w K mg base "NoText" c_NoText fI:=⟨cl.n_NoText,cl.z_T,cl.f_T,cl.i_T.be,cl.kp_T,⟨_,["self","row"],Zt8 mb FI,FI.binds λ_ _ _ _ _ _=>bK2 λ_ _=>rfl,rfl⟩⟩;have C1:=M e1 (Zud mb) λ_ _ _ _ _ _=>bK2 λ_ _=>rfl;have C2:=M e2 (Zwo mb) λ_ _ _ _ _ _=>bK1 λ_=>rfl;have C3:=M e3 (Zvr mb C1) λ_ _ _ _ _ _=>bK3 λ_ _ _=>rfl;have C4:=M e4 (Zpy mb C1) λ_ _ _ _ _ _=>bK2 λ_ _=>rfl;have C5:=M e5 (Zq8 mb) λ_ _ _ _ _ _=>bK2 λ_ _=>rfl;have C6:=M e6 (Zva mb) λ_ _ _ _ _ _=>bK1 λ_=>rfl;have C7:=M e7 (Zo7 mb) λ_ _ _ _ _ _=>bK1 λ_=>rfl;have C8:=MX e8 (Zrg mb cl C7 C6) λ_ _ _ _ _ _=>bK2 λ_ _=>rfl;have C9:=MX e9 (Zqw mb cl C6 C7 C8 (W.mg_of X G y_MOST_PLACES)<|W.mg_of X G y_MOST_TIES) λ_ _ _ _ _ _=>bK2 λ_ _=>rfl;have C10:=M e10 (Zty mb cl C9) λ_ _ _ _ _ _=>bK2 λ_ _=>rfl;have C11:=M e11 (Zti mb C10) λ_ _ _ _ _ _=>bK1 λ_=>rfl;have C12:=M e12 (Zux mb C10) λ_ _ _ _ _ _=>bK2 λ_ _=>rfl;have C13:=M e13 (Zpp mb) λ_ _ _ _ _ _=>bK2 λ_ _=>rfl;have C14:=M e14 (Zlz mb C13) λ_ _ _ _ _ _=>bK2 λ_ _=>rfl;have C15:=M e15 (Zuo mb C14) λ_ _ _ _ _ _=>bK3 λ_ _ _=>rfl;have C16:=M e16 (Zrd mb (W.mg_of X G y_FIGURES)<|W.mg_of X G y_MOST_FIGURES) λ_ _ _ _ _ _=>bK1 λ_=>rfl;have C17:=M e17 (Zlx mb C16 C11 C12 C15) λ_ _ _ _ _ _=>bK2 λ_ _=>rfl;have C18:=MQ e18 (Zow mb cl nt C17 C14) λ_ _ _ _ _ _=>bK1 λ_=>rfl;have C19:=MH e19 (Zn0 mb cl) λ_ _ _ _ _ _=>bK1 λ_=>rfl;have C20:=M e20 (Zk9 mb cl C18 C19) λ_ _ _ _ _ _=>bK1 λ_=>rfl;have C21:=M e21 (Zrm mb) λ_ _ _ _ _ _=>bK1 λ_=>rfl;have C22:=MR e22 (λF b k m=>Zpx mb C21 F b k m 6) λ_ _ _ _ _ _=>bK2 λ_ _=>rfl;have C23:=M e23 (Zom mb) λ_ _ _ _ _ _=>bK1 λ_=>rfl;have C24:=M e24 (Zrj mb C23) λ_ _ _ _ _ _=>bK1 λ_=>rfl;have C25:=M e25 (Zp2 mb) λ_ _ _ _ _ _=>bK1 λ_=>rfl;have C26:=M e26 (Zja mb C24 C20 C21 C22 C25) λ_ _ _ _ _ _=>bK1 λ_=>rfl;have C27:=M e27 (Zlj mb) λ_ _ _ _ _ _=>bK0 rfl;have C28:=M e28 (Zni mb C1) λ_ _ _ _ _ _=>bK2 λ_ _=>rfl;have C29:=M e29 (Zjb mb C1 C23) λ_ _ _ _ _ _=>bK2 λ_ _=>rfl;have C30:=M e30 (Zlu mb C1 C28 C29 C27) λ_ _ _ _ _ _=>bK2 λ_ _=>rfl
 exact ok_law mb C2 C1 C3 C4 C5 C28 C30 C26 F
end Lw
open PySem PySem.W PyProof.Rows
namespace PySem.W.Fast
theorem te15054713246233259347:True:=trivial
def tw6834886814142852704:PySem.Program:=PySem.Challenge.pw_holefloor_k83_texts_spoilt_anywhere
theorem te6834886814142852704:PySem.Challenge.pw_holefloor_k83_texts_spoilt_anywhere=tw6834886814142852704:=rfl
def tw16017284443236742851:Unit:=()
def tw17593568747951920774:Unit:=()
def tw3280440429688521726:Unit:=()
def tw11675933037978376366:Unit:=()
def tw5751332362115190536:Unit:=()
def tw5570273698049164999:Unit:=()
def tw15607541940817478947:Unit:=()
def tw969151075442621895:Unit:=()
def tw3831794166397722561:Unit:=()
def tw10289265456437168041:Unit:=()
def tw11367194490309999368:Unit:=()
def tw15499717782843120478:Unit:=()
def tw12608600142722243784:Unit:=()
def tw12880828073929292976:Unit:=()
def tw11759315203283976977:Unit:=()
def tw16229832121888831255:Unit:=()
def tw7749628792352427147:Unit:=()
def tw13336355056016483325:Unit:=()
def tw16359902837827629283:Unit:=()
def tw14060295602483512197:Unit:=()
def tw9015126795472166947:Unit:=()
def tw10549457027090488080:Unit:=()
def tw12205358032272284793:Unit:=()
def tw123811826447551409:Unit:=()
def tw10238747760530166185:Unit:=()
def tw4683127526769766545:Unit:=()
def tw10389911474927415937:Unit:=()
def tw8630058372979889452:Unit:=()
def tw13807590669270276562:Unit:=()
def tw6111623953371198990:Unit:=()
def tw2000198321415540798:Unit:=()
def tw13063975592561477429:Unit:=()
def tw8898784348575157464:Unit:=()
def tw15667772187412170003:Unit:=()
def tw9755999383588370636:Unit:=()
def tw7251280864783679934:Unit:=()
def tw10914251804132152541:Unit:=()
def tw5832811305933197428:Unit:=()
def tw4738539992403669039:Unit:=()
def tw4561449601043704464:Unit:=()
def tw6627363272080968487:Unit:=()
def tw10260068114830480170:Unit:=()
def tw4051276505331677131:Unit:=()
end PySem.W.Fast
set_option maxRecDepth 100000 in
set_option maxHeartbeats 0 in
theorem PySem.Challenge.cw_holefloor_k83_texts_spoilt_anywhere_holds : PySem.Challenge.rw_holefloor_k83_texts_spoilt_anywhere.Holds := by
 w_on;o_law;k_head; (case hw=>w_witness2)
 k_fill
 refine L2.walk_law (k:=10) (x:="_law_script") (l:=PySem.Challenge.rw_holefloor_k83_texts_spoilt_anywhere) ⟨rfl,by decide,by decide,rfl⟩ rfl rfl (λw h Y=>PySem.W.kIn_of Y) ?F
 case F=>
  intro w mg fa h KX G hmg;refine' Lw.all_mk KX G hmg ?e1 ?e2 ?e3 ?e4 ?e5 ?e6 ?e7 ?e8 ?e9 ?e10 ?e11 ?e12 ?e13 ?e14 ?e15 ?e16 ?e17 ?e18 ?e19 ?e20 ?e21 ?e22 ?e23 ?e24 ?e25 ?e26 ?e27 ?e28 ?e29 ?e30 ?e31 ?y_FIGURES ?y_MOST_FIGURES ?y_MOST_PLACES ?y_MOST_TIES ?z0 ?z1 ?z2 ?z3 ?z4 ?z5 ?z6 ?z7 ?z8 ?z9 ?z10 ?z11 ?z12 ?z13 ?z14 ?z15 ?n_FloorError ?n_NoWeb ?n_NoOrder ?n_NoNumber ?n_NoEnd ?n_NoTie ?n_NoPlace ?n_NoTable ?n_NoRing ?n_NoPaper ?n_Apart ?n_TooMany ?n_TooGreat ?n_NoText ?n_NoName ?n_NoRow ?e_FloorError ?e_NoWeb ?mm_NoWeb ?fi ?zc ?ob ?sa ?tr ?hd ?ft ?kc ?gsx ?tkx ?ga ?gt ?ca ?be ?ve ?mT ?rT ?ic_NoWeb ?ty_NoWeb ?s_NoWeb ?d_NoWeb ?ic_NoOrder ?ty_NoOrder ?s_NoOrder ?d_NoOrder ?ic_NoNumber ?ty_NoNumber ?s_NoNumber ?d_NoNumber ?ic_NoEnd ?ty_NoEnd ?s_NoEnd ?d_NoEnd ?ic_NoTie ?ty_NoTie ?s_NoTie ?d_NoTie ?ic_NoPlace ?ty_NoPlace ?s_NoPlace ?d_NoPlace ?ic_NoTable ?ty_NoTable ?s_NoTable ?d_NoTable ?ic_NoRing ?ty_NoRing ?s_NoRing ?d_NoRing ?ic_NoPaper ?ty_NoPaper ?s_NoPaper ?d_NoPaper ?ic_Apart ?ty_Apart ?s_Apart ?d_Apart ?ic_TooMany ?ty_TooMany ?s_TooMany ?d_TooMany ?ic_TooGreat ?ty_TooGreat ?s_TooGreat ?d_TooGreat ?ic_NoText ?ty_NoText ?s_NoText ?ic_NoName ?ty_NoName ?s_NoName ?d_NoName ?ic_NoRow ?ty_NoRow ?s_NoRow ?d_NoRow ?li ?ci ?ki
  (case y_FIGURES=>k_is)
  (case y_MOST_FIGURES=>k_is)
  (case y_MOST_PLACES=>k_is)
  (case y_MOST_TIES=>k_is)
  (case n_FloorError=>k_is)
  (case n_NoWeb=>k_is)
  (case n_NoOrder=>k_is)
  (case n_NoNumber=>k_is)
  (case n_NoEnd=>k_is)
  (case n_NoTie=>k_is)
  (case n_NoPlace=>k_is)
  (case n_NoTable=>k_is)
  (case n_NoRing=>k_is)
  (case n_NoPaper=>k_is)
  (case n_Apart=>k_is)
  (case n_TooMany=>k_is)
  (case n_TooGreat=>k_is)
  (case n_NoText=>k_is)
  (case n_NoName=>k_is)
  (case n_NoRow=>k_is)
  (case e_FloorError=>k_exc)
  (case e_NoWeb=>k_exc)
  (case mm_NoWeb=>k_is)
  (case fi=>k_is)
  (case zc=>kernel_rfl)
  (case ob=>k_is)
  (case sa=>k_is)
  (case tr=>k_is)
  (case hd=>k_is)
  (case ft=>k_is)
  (case kc=>k_is)
  (case gsx=>k_is)
  (case tkx=>k_is)
  (case ga=>k_is)
  (case gt=>k_is)
  (case ca=>k_is)
  (case be=>k_is)
  (case ve=>k_is)
  (case mT=>k_is)
  (case rT=>k_is)
  (case ic_NoWeb=>k_is)
  (case ty_NoWeb=>k_is)
  (case s_NoWeb=>k_is)
  (case d_NoWeb=>rfl)
  (case ic_NoOrder=>k_is)
  (case ty_NoOrder=>k_is)
  (case s_NoOrder=>k_is)
  (case d_NoOrder=>rfl)
  (case ic_NoNumber=>k_is)
  (case ty_NoNumber=>k_is)
  (case s_NoNumber=>k_is)
  (case d_NoNumber=>rfl)
  (case ic_NoEnd=>k_is)
  (case ty_NoEnd=>k_is)
  (case s_NoEnd=>k_is)
  (case d_NoEnd=>rfl)
  (case ic_NoTie=>k_is)
  (case ty_NoTie=>k_is)
  (case s_NoTie=>k_is)
  (case d_NoTie=>rfl)
  (case ic_NoPlace=>k_is)
  (case ty_NoPlace=>k_is)
  (case s_NoPlace=>k_is)
  (case d_NoPlace=>rfl)
  (case ic_NoTable=>k_is)
  (case ty_NoTable=>k_is)
  (case s_NoTable=>k_is)
  (case d_NoTable=>rfl)
  (case ic_NoRing=>k_is)
  (case ty_NoRing=>k_is)
  (case s_NoRing=>k_is)
  (case d_NoRing=>rfl)
  (case ic_NoPaper=>k_is)
  (case ty_NoPaper=>k_is)
  (case s_NoPaper=>k_is)
  (case d_NoPaper=>rfl)
  (case ic_Apart=>k_is)
  (case ty_Apart=>k_is)
  (case s_Apart=>k_is)
  (case d_Apart=>rfl)
  (case ic_TooMany=>k_is)
  (case ty_TooMany=>k_is)
  (case s_TooMany=>k_is)
  (case d_TooMany=>rfl)
  (case ic_TooGreat=>k_is)
  (case ty_TooGreat=>k_is)
  (case s_TooGreat=>k_is)
  (case d_TooGreat=>rfl)
  (case ic_NoText=>k_is)
  (case ty_NoText=>k_is)
  (case s_NoText=>k_is)
  (case ic_NoName=>k_is)
  (case ty_NoName=>k_is)
  (case s_NoName=>k_is)
  (case d_NoName=>rfl)
  (case ic_NoRow=>k_is)
  (case ty_NoRow=>k_is)
  (case s_NoRow=>k_is)
  (case d_NoRow=>rfl)
  (case li=>k_is)
  (case ci=>k_is)
  (case ki=>k_is)
  all_goals first|(refine' Lw.fnE ?a ?l ?c ?k; (case a=>k_is); (case l=>k_is); (case c=>k_is); (case k=>k_is))|k_is

