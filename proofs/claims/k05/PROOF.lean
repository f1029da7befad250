import PyProof.Rows.All
import Wide.All
import OpenK.AllK
import Wide.FinOn
import Lean
import PyProof.EqAt
import PyProof.EqKinds
import PyProof.TupleCall
import KE.KSortTup
import PyProof.NeKinds
import PyProof.ExcBaseAll.ValueError
import PyProof.ExcArgsOwn
import PyProof.NsDelKeeps
import PyProof.RulesAs
import PyProof.FString
import PyProof.AttrMissSeq
import PyProof.WalksS
import KE.KDictList
import KE.KDictSum
import PyProof.MinMaxWalk
import KE.KMinKey
import PyProof.Rows.CallKwBuiltin
import PyProof.Rows.RuleDivmod
import PyProof.ListMulAny
import PyProof.FactsAll.tuple
import KE.KRevIter
import PyProof.EnumMake
import KE.KMulAny
import PyProof.FactsAll.range
import PyProof.Rows.StrNews
import KE.KIntText
import PyProof.StrWalks
import KE.KLam
import KE.KNestM
import PySem.Challenge.RW_holefloor_k05_orders_made
open List renaming length_map→Waa, getElem?_eq_getElem→Wab, getElem?_set_self→Wad, getElem?_set_ne→Wae, size_toArray→Waf, length_append→Wag, getElem?_eq_some_iff→Wah, replicate→Wai, getElem?_map→Waj, mem_cons→Wam, mem_of_getElem?→Wap, mem_cons_of_mem→Waq, mem_cons_self→War, mem_map→Was, mem_append_right→Waw, length_cons→Wax, getElem?_append_right→Waz, mem_append→Wa0, length_set→Wa1, getD_eq_getElem?_getD→Wa2, length_replicate→Wa3, map_cons→Wa4, not_mem_nil→Wa5, mem_singleton→Wa8, map_map→Wa9, all_eq_true→Wba, getElem?_append_left→Wbb, getElem_mem→Wbc, map_append→Wbd, length→Wbe, append_nil→Wbf, getElem?_zip_eq_some→Wbg, length_take→Wbi, length_drop→Wbj, getElem_toArray→Wbk, cons_append→Wbo, ext_getElem?→Wbp, tail→Wbq, map→Wbs, eq_nil_of_length_eq_zero→Wbu, getElem?_replicate→Wbw, range→Wbx, filter_eq_self→Wby, lookup_cons→Wbz, filter_cons→Wb0, filter_append→Wb1, mem_append_left→Wb3, getElem?_of_mem→Wb4, mem_filter→Wb5, length_singleton→Wb7, append_assoc→Wb8, mem_range→Wb9, mem_or_eq_of_mem_set→Wca, set_eq_of_length_le→Wcb, nodup_cons→Wcd, mem_replicate→Wce, length_zip→Wcf, find?_cons→Wcg, take_of_length_le→Wcj, getElem?_set→Wck, drop_zero→Wcm, take_append_drop→Wcn, length_filter_le→Wco, getElem?_eq_none→Wcp, map_take→Wcq, map_drop→Wcr, filterMap_cons→Wcs, set_append_right→Wcx, of_mem_zip→Wcy, set_append_left→Wc1, mem_iff_getElem→Wc2, replicate_succ→Wc3, zip_cons_cons→Wc6, take_add_one→Wc9, length_range→Wda, map_set→Wdc, map_nil→Wdd, take_length→Wdg, getElem_inj→Wdh
open PySem.Heap renaming get?_push_of_some→Wac, get?_push_size→Wal, lt_size→Wao, get?_update_other→Wa7, get?_update_self→Wbh, size_push→Wbm
open Nat renaming le_refl→Wak, le_trans→Wat, lt_of_lt_of_le→Wav, ne_of_lt→Way, lt_of_le_of_lt→Wbl, le_of_lt→Wbr, zero_le→Wbt, lt_irrefl→Wb2, ne_of_gt→Wcc, add_sub_cancel_left→Wci, lt_succ_of_lt→Wcl, add_le_add_left→Wct, le_max_right→Wcw, min_self→Wcz, le_max_left→Wc0, le_succ→Wc4, max→Wdb, sub_zero→Wde, lt_trans→Wdf
open Bool renaming false_ne_true→Wan, and_eq_true→Wa6, eq_iff_iff→Wch, true_and→Wc7, false_eq_true→Wc8
open Option renaming some→Wau
open Int renaming toNat_natCast→Wbn, emod_lt_of_pos→Wbv, emod_nonneg→Wb6, zero_add→Wcu, le_refl→Wcv, toNat_of_nonneg→Wc5
set_option Elab.async false
set_option linter.all false
set_option maxRecDepth 100000
namespace L2
open PySem PySem.Spec PyProof.Rows
abbrev Key:=Sum Int Str
def keyIs:Key->Value->Bool
 |.inl k,v=>Value.isInt k v
 |.inr x,v=>Value.isStrOf x v
def keyH (w:World):Key->Int
 |.inl k=>hashInt k
 |.inr x=>hashStr w x
theorem Zbp:∀{k:Key}{v:Value},keyIs k v=true->(∃i t,k=Sum.inl i/\v=Value.int i t)\/(∃x t,k=Sum.inr x/\v=Value.str x t)
 |.inl i,v,h=>by
  obtain⟨t,e⟩:=Value.isInt_shape (k:=i) (v:=v) h;exact .inl ⟨i,t,rfl,e⟩
 |.inr x,v,h=>by
  obtain⟨t,e⟩:=Value.isStrOf_shape (x:=x) (v:=v) h;exact .inr ⟨x,t,rfl,e⟩
theorem Zmk (i:Int) (t:Tok):keyIs (.inl i) (.int i t)=true:=by simp[keyIs,Value.isInt]
theorem Zlp (x:Str) (t:Tok):keyIs (.inr x) (.str x t)=true:=by simp[keyIs,Value.isStrOf]
theorem Zr7 (a b:Int):decide ((Sum.inl a:Key)=Sum.inl b)=(a == b):=by
 by_cases e:a=b
 ·subst e;simp
 ·have h:¬ (Sum.inl a:Key)=Sum.inl b:=λq=>e (Sum.inl.inj q)
  rw[decide_eq_false h];exact(beq_eq_false_iff_ne.mpr e).symm
theorem Zsc (a b:Str):decide ((Sum.inr a:Key)=Sum.inr b)=decide (a=b):=by
 by_cases e:a=b
 ·subst e;simp
 ·have h:¬ (Sum.inr a:Key)=Sum.inr b:=λq=>e (Sum.inr.inj q)
  rw[decide_eq_false h,decide_eq_false e]
theorem Zsi (a:Int) (b:Str):decide ((Sum.inl a:Key)=Sum.inr b)=false:=decide_eq_false (λq=>nomatch q)
theorem Zsf (a:Str) (b:Int):decide ((Sum.inr a:Key)=Sum.inl b)=false:=decide_eq_false (λq=>nomatch q)
def mixKind (prog:Program) (w:World):PySem.KeyKind prog w Key where
 is:=keyIs
 hash:=keyH w
 inj:=λv a b ha hb=>by
  rcases Zbp ha with ⟨i,t,rfl,rfl⟩|⟨x,t,rfl,rfl⟩
  ·rcases Zbp hb with ⟨j,u,rfl,e⟩|⟨y,u,rfl,e⟩
   ·injection e with e1 _;rw[e1]
   ·exact nomatch e
  ·rcases Zbp hb with ⟨j,u,rfl,e⟩|⟨y,u,rfl,e⟩
   ·exact nomatch e
   ·injection e with e1 _;rw[e1]
 byValue:=λk v h=>by
  rcases Zbp h with ⟨i,t,rfl,rfl⟩|⟨x,t,rfl,rfl⟩ <;> rfl
 pyHash:=λhv h=>by
  rcases Zbp hv with ⟨i,t,rfl,rfl⟩|⟨x,t,rfl,rfl⟩
  ·exact wpAny_pyHash_int h
  ·exact wpAny_pyHash_str h
 eqBool:=λhu hv h=>by
  rcases Zbp hu with ⟨i,t,rfl,rfl⟩|⟨x,t,rfl,rfl⟩
  ·rcases Zbp hv with ⟨j,u,rfl,rfl⟩|⟨y,u,rfl,rfl⟩
   ·rw[Zr7]at h;exact wpAny_eqBool_int h
   ·rw[Zsi]at h;exact SeqAt.EqAt.int_str i t y u _ _ _ _ h
  ·rcases Zbp hv with ⟨j,u,rfl,rfl⟩|⟨y,u,rfl,rfl⟩
   ·rw[Zsf]at h;exact SeqAt.EqAt.str_int x t j u _ _ _ _ h
   ·rw[Zsc]at h;exact wpAny_eqBool_str h
 «strs»:=λk x t v h=>by
  rcases Zbp h with ⟨i,u,rfl,e⟩|⟨y,u,rfl,e⟩
  ·exact nomatch e
  ·injection e with e1 _
   subst e1;cases v <;> rfl
theorem Zic (prog:Program) (w:World) (i:Int) (t:Tok):(mixKind prog w).is (.inl i) (.int i t)=true:=Zmk i t
theorem Zin (prog:Program) (w:World) (x:Str) (t:Tok):(mixKind prog w).is (.inr x) (.str x t)=true:=Zlp x t
end L2
namespace L2
open PySem PySem.Spec PyProof.Rows
inductive V where
 |non|bl (b:Bool)|int (i:Int)|str (x:Str)|byt (b:Array UInt8)|flt (b:UInt64)|ref (a:Addr)|ty (n:String)
 deriving DecidableEq
def RelV:V->Value->Prop
 |.non,u=>u=Value.none
 |.bl b,u=>u=Value.bool b
 |.int i,u=>∃t,u=Value.int i t
 |.str x,u=>∃t,u=Value.str x t
 |.byt b,u=>∃t,u=Value.bytes b t
 |.flt b,u=>∃t,u=Value.float b t
 |.ref a,u=>u=Value.ref a
 |.ty n,u=>u=Value.type n
abbrev Vals:List V->List Value->Prop:=Paired RelV
theorem Vals.length {xs:List V}{us:List Value}(r:Vals xs us):xs.length=us.length:=Paired.length r
theorem Vals.get:∀{xs:List V}{us:List Value}{i:Nat}{x:V},Vals xs us->xs[i]?=some x->∃u,us[i]?=some u/\RelV x u
 |_,_,_,_,.nil,e=>by simp at e
 |_,_,0,_,.cons r _,e=>by simp at e;subst e;exact⟨_,rfl,r⟩
 |_,_,i+1,x,.cons _ t,e=>by
  obtain⟨u,h1,h2⟩:=Vals.get (i:=i) (x:=x) t (by simpa using e);exact⟨u,by simpa using h1,h2⟩
theorem Vals.set {x:V}{u:Value}(r:RelV x u):∀{xs:List V}{us:List Value}(i:Nat),Vals xs us->Vals (xs.set i x) (us.set i u)
 |_,_,_,.nil=>.nil
 |_,_,0,.cons _ t=>.cons r t
 |_,_,i+1,.cons q t=>.cons q (Vals.set r i t)
theorem Vals.append:∀{xs ys:List V}{us ws:List Value},Vals xs us->Vals ys ws->Vals (xs++ys) (us++ws)
 |_,_,_,_,.nil,s=>s
 |_,_,_,_,.cons r t,s=>.cons r (Vals.append t s)
theorem Vals.take:∀{xs:List V}{us:List Value}(n:Nat),Vals xs us->Vals (xs.take n) (us.take n)
 |_,_,0,_=>.nil
 |_,_,_+1,.nil=>.nil
 |_,_,n+1,.cons r t=>.cons r (Vals.take n t)
theorem Vals.drop:∀{xs:List V}{us:List Value}(n:Nat),Vals xs us->Vals (xs.drop n) (us.drop n)
 |_,_,0,r=>r
 |_,_,_+1,.nil=>.nil
 |_,_,n+1,.cons _ t=>Vals.drop n t
def RelO:Option V->Option Value->Prop
 |some v,some u=>RelV v u
 |none,none=>True
 |_,_=>False
def KV {κ:Type}:List (κ × V)->List (κ × Value)->Prop:=Paired λ(p:κ × V) (q:κ × Value)=>p.1=q.1/\RelV p.2 q.2
def kV:Key->V
 |.inl i=>.int i
 |.inr x=>.str x
inductive HO where
 /-- a list -/
 |lst (xs:List V)
 /-- a tuple (never changes) -/
 |tup (xs:List V)
 /-- a dict whose keys are ints and texts;one whose keys are tuples of ints and texts (the empty one is both) -/
 |dK (kvs:List (Key × V))|dT (kvs:List (List Key × V))
 /-- a set of ints: its members,its size -/
 |set (S:Int->Bool) (n:Nat)
 /-- an instance of the class at C,its dict at dx,its attributes -/
 |ins (C dx:Addr) (fs:List (Str × V))
 /-- the dict of the instance at x -/
 |own (x:Addr)
 /-- the dict of an exception -/
 |xd (fs:List (Str × V))
 /-- a bound method,f of x -/
 |met (f x:Addr)
 /-- a range object lo,lo+1,.. below hi -/
 |rng (lo hi:Int)
 /-- a thing that is known to the object (the script;a dict while a loop walks it): read,never written while it is so -/
 |frz (o:Obj) (u:HO)
 /-- a code object's table -/
 |tbl (ps:Array Value)
 /-- any other thing,by what is true of its one object (a def of one's own: SetO a S n:=HO.ext λh=>..) -/
 |ext (φ:Heap->Prop)
abbrev Hp:=Addr->Option HO
def upd (H:Hp) (a:Addr) (o:HO):Hp:=λb=>if b=a then some o else H b
theorem Zan {H:Hp}{a:Addr}{o:HO}:upd H a o a=some o:=by unfold upd;rw[if_pos rfl]
theorem Zal {H:Hp}{a b:Addr}{o:HO}(h:b≠a):upd H a o b=H b:=by unfold upd;rw[if_neg h]
theorem Zmv {H:Hp}{a:Addr}{o u:HO}:upd (upd H a o) a u=upd H a u:=by
 funext b;unfold upd;split <;> rfl
theorem Ztz {H:Hp}{a b:Addr}{o u:HO}(h:H a=some o) (h':H b=some u) (d:o≠u):a≠b:=by
 intro e;subst e;rw[h]at h';exact d (Wau.inj h')
theorem Zao {H:Hp}{a b:Addr}{o:HO}(h:H a=some o) (h':H b=none):a≠b:=by
 intro e;subst e;rw[h]at h';cases h'
def IsTupN (h:Heap) (a:Addr) (its:Array Value):Prop:=∃o,h.get? a=some o/\(o.cls=.type "tuple" /\ ∃n,o.data=.seq its n)/\o.dict=none
theorem IsTupN.tup {h:Heap}{a:Addr}{its:Array Value}(x:IsTupN h a its):IsTup h a its:=let ⟨o,e,c,_⟩:=x; ⟨o,e,c⟩
theorem IsTupN.new (h:Heap) (items:Array Value):IsTupN (h.push { cls:=.type "tuple",data:=.seq items }) h.objs.size items:=⟨_,Wal _ rfl,⟨rfl,_,rfl⟩,rfl⟩
section
variable (P:Program) (w:World)
def ObjOk (H:Hp) (h:Heap) (a:Addr):HO->Prop
 |.lst xs=>xs.length<=sizeLine/\∃(its:List Value) (n:Nat),Vals xs its/\h.get? a=some { cls:=.type "list",data:=.seq its.toArray n }
 |.tup xs=>xs.length<=sizeLine/\∃its:List Value,Vals xs its/\IsTupN h a its.toArray
 |.dK kvs=>kvs.length<=sizeLine/\(a == sysModules)=false/\∃vs,KV kvs vs/\h.DictOf (mixKind P w) a vs
 |.dT kvs=>kvs.length<=sizeLine/\(a == sysModules)=false/\∃xs:List (List Key × Addr × Value),
   Paired (λ(p:List Key × V) (q:List Key × Addr × Value)=>p.1=q.1/\H q.2.1=some (.tup (p.1.map kV))/\RelV p.2 q.2.2) kvs xs ∧
   ∃o es ep,h.get? a=some o/\o.ExactDict/\o.data=.dict es ep/\es.toList=xs.map (entryOfKey (tupleKind (mixKind P w)))/\(xs.map (·.1)).Nodup
 |.set S n=>h.SetOf (intKind P w) a S n
 |.ins C dx fs=>H dx=some (.own a)/\fs.length<=1000/\dx≠a/\h.get? a=some (PySem.W.instObj C dx) ∧
   ∃mA,h.Ns1 dx mA/\(∀f,RelO (fs.lookup f) (mA f))/\PySem.Within mA (fs.map (·.1))
 |.own _=>∃o,h.get? a=some o
 |.xd fs=>∃mA,h.Ns1 a mA/\∀f,RelO (fs.lookup f) (mA f)
 |.rng lo hi=>∃t u v,h.get? a=some { cls:=.type "range",data:=.fields #[.int lo t,.int hi u,.int 1 v] }
 |.frz o u=>h.get? a=some o/\ObjOk H h a u
 |.tbl ps=>h.get? a=some { cls:=.none,data:=.fields ps }
 |.met f x=>h.get? a=some (PySem.W.methodObj (.ref f) (.ref x))
 |.ext φ=>φ h/\(∃o,h.get? a=some o)/\∀h1 h2:Heap,φ h1->(∀o,h1.get? a=some o->h2.get? a=some o) -> φ h2
def HOk (H:Hp) (h:Heap):Prop:=∀a o,H a=some o->ObjOk P w H h a o
end
section
variable {P:Program}{w:World}{H H':Hp}{h h':Heap}{a:Addr}{o:HO}
theorem ObjOk.lt (x:ObjOk P w H h a o):a<h.objs.size:=by
 cases o with
 |lst xs=>obtain⟨_,_,_,_,e⟩:=x;exact Wao e
 |tup xs=>obtain⟨_,_,_,p⟩:=x;exact p.tup.lt
 |dK kvs=>obtain⟨_,_,_,_,o,_,_,e,_⟩:=x;exact Wao e
 |dT kvs=>obtain⟨_,_,_,_,o,_,_,e,_⟩:=x;exact Wao e
 |set S n=>obtain⟨o,_,_,_,e,_⟩:=x;exact Wao e
 |ins C dx fs=>obtain⟨_,_,_,e,_⟩:=x;exact Wao e
 |own y=>obtain⟨_,e⟩:=x;exact Wao e
 |xd fs=>obtain⟨_,⟨_,_,_,e,_⟩,_⟩:=x;exact Wao e
 |rng lo hi=>obtain⟨_,_,_,e⟩:=x;exact Wao e
 |frz ob u=>obtain⟨e,_⟩:=x;exact Wao e
 |tbl ps=>exact Wao (show h.get? a=some _ from x)
 |met f y=>exact Wao (show h.get? a=some _ from x)
 |ext φ=>obtain⟨_,⟨_,e⟩,_⟩:=x;exact Wao e
theorem Paired.mapP {α β:Type}{F G:α -> β -> Prop}:∀{l₁:List α}{l₂:List β},Paired F l₁ l₂ -> (∀a b,F a b->G a b)->Paired G l₁ l₂
 |_,_,.nil,_=>.nil
 |_,_,.cons r t,f=>.cons (f _ _ r) (Paired.mapP t f)
theorem ObjOk.stay (x:ObjOk P w H h a o) (k:∀b u,(b=a\/H b=some (.own a))->h.get? b=some u->h'.get? b=some u)
  (ho:∀b,H b=some (.own a)->H' b=some (.own a)) (ht:∀b xs,H b=some (.tup xs)->H' b=some (.tup xs)):ObjOk P w H' h' a o:=by
 induction o with
 |lst xs=>obtain⟨z,its,n,r,e⟩:=x;exact⟨z,its,n,r,k _ _ (.inl rfl) e⟩
 |tup xs=>obtain⟨z,its,r,ob,e,c⟩:=x;exact⟨z,its,r,ob,k _ _ (.inl rfl) e,c⟩
 |dK kvs=>obtain⟨z,y,vs,r,ob,es,ep,e,c⟩:=x;exact⟨z,y,vs,r,ob,es,ep,k _ _ (.inl rfl) e,c⟩
 |dT kvs=>
  obtain⟨z,y,xs,r,ob,es,ep,e,c⟩:=x;exact⟨z,y,xs,Paired.mapP r λp q z=>⟨z.1,ht _ _ z.2.1,z.2.2⟩,ob,es,ep,k _ _ (.inl rfl) e,c⟩
 |set S n=>obtain⟨ob,es,ep,t,e,c⟩:=x;exact⟨ob,es,ep,t,k _ _ (.inl rfl) e,c⟩
 |ins C dx fs=>
  obtain⟨d,z,ne,e,mA,⟨od,es,ep,e2,c⟩,r⟩:=x;exact⟨ho _ d,z,ne,k _ _ (.inl rfl) e,mA,⟨od,es,ep,k _ _ (.inr d) e2,c⟩,r⟩
 |own y=>obtain⟨ob,e⟩:=x;exact⟨ob,k _ _ (.inl rfl) e⟩
 |xd fs=>obtain⟨mA,⟨od,es,ep,e,c⟩,r⟩:=x;exact⟨mA,⟨od,es,ep,k _ _ (.inl rfl) e,c⟩,r⟩
 |rng lo hi=>obtain⟨t,u,v,e⟩:=x;exact⟨t,u,v,k _ _ (.inl rfl) e⟩
 |frz ob u ih=>obtain⟨e,q⟩:=x;exact⟨k _ _ (.inl rfl) e,ih q⟩
 |tbl ps=>
  have e:h.get? a=some { cls:=.none,data:=.fields ps }:=x;show h'.get? a=some { cls:=.none,data:=.fields ps };exact k a _ (.inl rfl) e
 |met f y=>
  have e:h.get? a=some (PySem.W.methodObj (.ref f) (.ref y)):=x;show h'.get? a=some (PySem.W.methodObj (.ref f) (.ref y));exact k a _ (.inl rfl) e
 |ext φ=>obtain⟨p,⟨o,e⟩,st⟩:=x;exact⟨st _ _ p λo q=>k _ _ (.inl rfl) q,⟨o,k _ _ (.inl rfl) e⟩,st⟩
theorem HOk.lt (x:HOk P w H h) (e:H a=some o):a<h.objs.size:=(x a o e).lt
theorem HOk.fresh (x:HOk P w H h) (e:h.objs.size<=a):H a=none:=by
 cases q:H a with
 |none=>rfl
 |some u=>exact absurd (Wav (x.lt q) e) (Wb2 _)
theorem HOk.kept (x:HOk P w H h) (k:∀b u,h.get? b=some u->h'.get? b=some u):HOk P w H h':=λa o e=>
 (x a o e).stay (λb u _ q=>k b u q) (λ_ q=>q) λ_ _ q=>q
theorem HOk.laid (x:HOk P w H h) (k:∀b u,h.get? b=some u->h'.get? b=some u) (hp:h.objs.size<=a) (new:ObjOk P w (upd H a o) h' a o):HOk P w (upd H a o) h':=λb u e=>by
 have hn:=x.fresh hp;by_cases hb:b=a
 ·subst hb;rw[Zan]at e;cases e;exact new
 ·rw[Zal hb]at e
  exact(x b u e).stay (λc v _ q=>k c v q) (λc q=>by rw[Zal (Zao q hn)];exact q) λc xs q=>by rw[Zal (Zao q hn)];exact q
end
def Rd (H:Hp) (a:Addr) (u:HO):Prop:=H a=some u\/∃o,H a=some (.frz o u)
theorem Rd.ok {P:Program}{w:World}{H:Hp}{h:Heap}{a:Addr}{u:HO}(r:Rd H a u) (x:HOk P w H h):ObjOk P w H h a u:=by
 rcases r with r|⟨o,r⟩
 ·exact x a u r
 ·obtain⟨_,q⟩:=x a _ r
  exact q
def Mut:Option HO->Prop
 |some (.lst _)=>True
 |some (.dK _)=>True
 |some (.dT _)=>True
 |some (.set _ _)=>True
 |some (.ins _ _ _)=>True
 |some (.ext _)=>True
 |_=>False
section
variable {P:Program}{w:World}{H:Hp}{h h':Heap}{x e:Addr}{o':HO}
theorem HOk.write (ok:HOk P w H h) (mu:Mut (H x)) (he:e=x\/H e=some (.own x)) (k:∀b u,b≠e->h.get? b=some u->h'.get? b=some u) (heo:∃u,h'.get? e=some u)
  (new:ObjOk P w (upd H x o') h' x o'):HOk P w (upd H x o') h':=λb u q=>by
 have nown:∀c y,H c=some (.own y)->c≠x:=λc y r z=>by subst z;rw[r]at mu;exact mu
 have ntup:∀c xs,H c=some (.tup xs)->c≠x:=λc xs r z=>by subst z;rw[r]at mu;exact mu
 by_cases hb:b=x
 ·subst hb;rw[Zan]at q;cases q;exact new
 ·rw[Zal hb]at q
  by_cases hbe:b=e
  ·have q':H b=some (.own x):=by
    rcases he with z|z
    ·exact absurd (hbe.trans z) hb
    ·rw[hbe];exact z
   rw[q]at q';cases q';obtain⟨v,hv⟩:=heo;exact⟨v,by rw[hbe];exact hv⟩
  ·refine(ok b u q).stay (λc v hc r=>k c v ?_ r) (λc r=>by rw[Zal (nown c b r)];exact r) λc xs r=>by rw[Zal (ntup c xs r)];exact r
   rcases hc with rfl|hc
   ·exact hbe
   ·rintro rfl
    rcases he with z|z
    ·exact nown c b hc z
    ·rw[hc]at z;cases z;exact hb rfl
end
structure Un (fs ex:List Addr) (H H':Hp) (h h':Heap):Prop where
 keep:∀b o,h.get? b=some o->H b=none->b ∉ fs->b ∉ ex->h'.get? b=some o
 slot:∀b o,h.get? b=some o->H b=none->b∈fs->b ∉ ex->∃sl,h'.get? b=some { o with slots:=sl }
 free:∀b o,h.get? b=some o->H b=none->b ∉ ex->H' b=none
 there:∀b o,h.get? b=some o->b ∉ ex->∃o',h'.get? b=some o'
 tups:∀b xs,H b=some (.tup xs)->H' b=some (.tup xs)
 frzs:∀b o u,H b=some (.frz o u)->H' b=some (.frz o u)
 tbls:∀b ps,H b=some (.tbl ps)->∃more,H' b=some (.tbl (ps++more))
section
variable {fs fs' ex ex':List Addr}{H H1 H2:Hp}{h h1 h2 h':Heap}{a x e:Addr}{o:HO}
theorem Un.any (u:Un fs ex H H1 h h1) {b:Addr}{ob:Obj}(q:h.get? b=some ob) (n:H b=none) (hx:b ∉ ex):∃sl,h1.get? b=some { ob with slots:=sl }:=by
 by_cases hb:b∈fs
 ·exact u.slot b ob q n hb hx
 ·exact⟨ob.slots,u.keep b ob q n hb hx⟩
theorem Un.kept (k:∀b u,h.get? b=some u->h'.get? b=some u):Un fs ex H H h h':=
 ⟨λb ob q _ _ _=>k b ob q,λb ob q _ _ _=>⟨ob.slots,k b ob q⟩,λ_ _ _ n _=>n,λb ob q _=>⟨ob,k b ob q⟩,λ_ _ q=>q,λ_ _ _ q=>q,λ_ ps q=>⟨#[],by rw[q];simp⟩⟩
theorem Un.refl:Un fs ex H H h h:=Un.kept λ_ _ q=>q
theorem Un.laid (k:∀b u,h.get? b=some u->h'.get? b=some u) (hp:h.objs.size<=a) (hn:H a=none):Un fs ex H (upd H a o) h h' where
 keep:=λb u q _ _ _=>k b u q
 slot:=λb u q _ _ _=>⟨u.slots,k b u q⟩
 free:=λb u q n _=>by rw[Zal (Way (Wav (Wao q) hp))];exact n
 there:=λb u q _=>⟨u,k b u q⟩
 tups:=λb xs q=>by rw[Zal (Zao q hn)];exact q
 frzs:=λb u xs q=>by rw[Zal (Zao q hn)];exact q
 tbls:=λb ps q=>⟨#[],by rw[Zal (Zao q hn),q];simp⟩
theorem Un.write (mu:Mut (H x)) (he:e=x\/H e=some (.own x)) (k:∀b u,b≠e->h.get? b=some u->h'.get? b=some u) (heo:∃u,h'.get? e=some u):Un fs ex H (upd H x o) h h':=by
 have hx:∀b,H b=none->b≠x:=λb n z=>by subst z;rw[n]at mu;exact mu
 have hb:∀b,H b=none->b≠e:=λb n z=>by
  subst z;rcases he with r|r
  ·exact hx b n r
  ·rw[n]at r;cases r
 have hm:∀b u,H b=some u->¬ Mut (some u)->b≠x:=λb u q nm z=>by subst z;rw[q]at mu;exact nm mu
 refine⟨λb u q n _ _=>k b u (hb b n) q,λb u q n _ _=>⟨u.slots,k b u (hb b n) q⟩,λb u q n _=>by rw[Zal (hx b n)];exact n,λb u q _=>?_,
  λb xs q=>by rw[Zal (hm b _ q λz=>z)];exact q,λb u xs q=>by rw[Zal (hm b _ q λz=>z)];exact q,λb ps q=>⟨#[],by rw[Zal (hm b _ q λz=>z),q];simp⟩⟩
 by_cases hbe:b=e
 ·subst hbe;exact heo
 ·exact⟨u,k b u hbe q⟩
end
def trk (h:Heap) (H:Hp):List Addr:=(Wbx h.objs.size).filter λa=>(H a).isSome
def hidT (h:Heap) (H:Hp):Heap:=PySem.W.hideAll h (trk h H)
theorem Zll (h:Heap) (H:Hp):(hidT h H).objs.size=h.objs.size:=PySem.W.hideAll_size _ _
theorem Zgt {h:Heap}{H:Hp}{b:Addr}{o:Obj}(e:h.get? b=some o) (n:H b=none):(hidT h H).get? b=some o:=
 PySem.W.hideAll_get _ e λhm=>by
  have q:(H b).isSome=true:=(Wb5.mp hm).2;rw[n]at q;simp at q
theorem Zp8 {h:Heap}{H:Hp}{b:Addr}{o:Obj}(e:(hidT h H).get? b=some o):h.get? b=some o/\H b=none:=by
 have e':h.get? b=some o:=PySem.W.of_hideAll (trk h H) e;refine⟨e',?_⟩;cases q:H b with
 |none=>rfl
 |some x=>
  have hm:b∈trk h H:=Wb5.mpr ⟨Wb9.mpr (Wao e'),by simp[q]⟩;have z:(hidT h H).get? b=none:=PySem.W.hideAll_none (trk h H) hm;rw[z]at e;cases e
def allNews (g h:Heap) (L:Addr):List (Addr × Obj):=(Wbx h.objs.size).filterMap λa=>if a=L\/(g.get? a).isSome=true then none else (h.get? a).map λo=>(a,o)
def rest (g h:Heap) (L d:Addr):List (Addr × Obj):=(allNews g h L).filter λp=>decide (p.1≠d)
end L2
namespace L2
open PySem PySem.Spec PyProof.Rows
structure Mod (K:W.Frag) (mg:Str->Option Value) (base:Heap):Prop where
 kin:K.In base
 glob:base.Ns mainGlobals mg
 blt:∃mb,base.Ns builtinsNs mb/\∀x:Str,x ≠ "__name__" -> mb x=bootBuiltins x
 nolimit:base.NoLimit
structure Cx where
 prog:Program
 w:World
 K:W.Frag
 mg:Str->Option Value
 base:Heap
 A:Around
 N:List Str
 s₀:Shared
 H₀:Hp
 env:Env
 outer:List Env
 stack:List Env
 ex:List Addr
 fn:Str->Bool
 calm:Bool
 pn:List (Addr × Obj)
 xe:Value->Shared->Prop
def frs (l:List Env):List Addr:=l.filterMap (·.frame)
abbrev Cx.fs (X:Cx):List Addr:=frs X.outer
def Vis (sc:Scope) (x:Str):Prop:=sc.names.lookup x=some .local\/sc.names.lookup x=some .cell\/sc.names.lookup x=some .free
def Loc (sc:Scope) (x:Str):Prop:=sc.names.lookup x=some .local\/sc.names.lookup x=some .cell
def Look (env:Env) (h:Heap) (m:Str->Option Value) (x:Str) (u:Value):Prop:=
 (env.kindOf x=some .local/\m x=some u)\/((env.kindOf x=some .cell\/env.kindOf x=some .free)/\∃c,env.cells.lookup x=some c/\h.IsCell c (some u))
structure Cx.Ok (X:Cx):Prop where
 mod:Mod X.K X.mg X.base
 kind:X.env.scope.kind=.function
 glob:X.env.globals=mainGlobals
 blt:X.env.builtins=builtinsNs
 above:X.s₀.heap.objs.size<=X.env.locals
 inj:∀x y c,X.env.cells.lookup x=some c->X.env.cells.lookup y=some c->x=y
 has:∀x,(X.env.kindOf x=some .cell\/X.env.kindOf x=some .free)->∃c,X.env.cells.lookup x=some c
 cab:∀x c,X.fn x=true->X.env.cells.lookup x=some c->X.s₀.heap.objs.size<=c
 hd:X.calm=true->X.A.handled=none
 frames:X.A.frames=some X.stack
 stk:X.stack=X.outer\/(X.stack=X.env::X.outer/\X.env.frame=some X.env.locals)
 exf:∀b∈X.ex,b≠X.env.locals/\∀x c,X.env.cells.lookup x=some c->c≠b
 bs:∀b o,X.base.get? b=some o->X.s₀.heap.get? b=some o/\X.H₀ b=none
 bsz:X.base.objs.size<=X.s₀.heap.objs.size
 noex:∀b o,X.base.get? b=some o->b ∉ X.ex
 exfs:∀b∈X.ex,b ∉ X.fs
 funs:X.s₀.heap.FunFrames X.base X.outer
 frf:∀b∈X.fs,X.H₀ b=none
structure Inv (X:Cx) (pins:List (Addr × Obj)) (σ:List (Option V)) (H:Hp) (s:Shared):Prop where
 ok:X.Ok
 os:s.os=X.s₀.os
 bare:AllBare s.gens
 base:Un X.fs X.ex X.H₀ H X.s₀.heap s.heap
 loc:∃m,s.heap.Ns X.env.locals m/\∀(i:Nat) (x:Str) (v:V),X.N[i]?=some x -> σ[i]?=some (some v)->Vis X.env.scope x->∃u,RelV v u/\Look X.env s.heap m x u
 cell:∀x c,X.env.cells.lookup x=some c->∃v,s.heap.IsCell c v
 free:H X.env.locals=none
 freeC:∀x c,X.env.cells.lookup x=some c->H c=none
 pin:∀p∈X.pn++pins,s.heap.get? p.1=some p.2/\H p.1=none/\p.1≠X.env.locals/\p.1 ∉ X.fs/\∀v,p.2.data≠.cell v
 hok:HOk X.prog X.w H s.heap
 len:σ.length=X.N.length
section
variable {X:Cx}{pins:List (Addr × Obj)}{σ:List (Option V)}{H H':Hp}{s:Shared}{h':Heap}
theorem Cx.Ok.nofr (ok:X.Ok) {b:Addr}{o:Obj}(e:X.base.get? b=some o):b ∉ X.fs:=λhb=>by
 have:=(ok.funs.mem hb).1;rw[e]at this;cases this
theorem Inv.bs (I:Inv X pins σ H s):∀b o,X.base.get? b=some o->s.heap.get? b=some o/\H b=none:=λb o e=>
 ⟨I.base.keep b o (I.ok.bs b o e).1 (I.ok.bs b o e).2 (I.ok.nofr e) (I.ok.noex b o e),I.base.free b o (I.ok.bs b o e).1 (I.ok.bs b o e).2 (I.ok.noex b o e)⟩
theorem Inv.bk (I:Inv X pins σ H s):∀b o,X.base.get? b=some o->s.heap.get? b=some o:=λb o e=>(I.bs b o e).1
theorem Inv.mod (I:Inv X pins σ H s):Mod X.K X.mg X.base:=I.ok.mod
theorem Inv.kIn (I:Inv X pins σ H s):X.K.In s.heap:=I.ok.mod.kin.keeps I.bk
theorem Inv.fr (I:Inv X pins σ H s):∃m,Fr X.base X.env.locals s.heap m:=
 let ⟨m,hn,_⟩:=I.loc
 ⟨m,hn,I.bk,Wat I.ok.bsz I.ok.above⟩
theorem Inv.lt (I:Inv X pins σ H s):X.env.locals<s.heap.objs.size:=let ⟨_,hn,_⟩:=I.loc;hn.lt
theorem Inv.sz (I:Inv X pins σ H s):X.s₀.heap.objs.size<=s.heap.objs.size:=Wat I.ok.above (Wbr I.lt)
theorem Inv.nofs (I:Inv X pins σ H s) {a:Addr}(h:s.heap.objs.size<=a):a ∉ X.fs:=λhb=>by
 obtain⟨_,o,ho,_⟩:=I.ok.funs.mem hb;exact absurd (Wav (Wao ho) (Wat I.sz h)) (Wb2 _)
theorem Inv.cne (I:Inv X pins σ H s):∀x c,X.env.cells.lookup x=some c->c≠X.env.locals:=λx c e z=>by
 obtain⟨v,o,ho,hd⟩:=I.cell x c e;obtain⟨m,⟨o',es,ep,ho',hd',_⟩,_⟩:=I.loc;rw[z,ho']at ho;cases ho;rw[hd']at hd;cases hd
theorem Inv.funs (I:Inv X pins σ H s):s.heap.FunFrames X.base X.outer:=by
 have all:∀(l:List Env),(∀b∈frs l,b∈X.fs)->X.s₀.heap.FunFrames X.base l->s.heap.FunFrames X.base l:=by
  intro l
  induction l with
  |nil=>intro _ _;trivial
  |cons env r ih=>
   intro hs hl;obtain⟨hk,⟨L,o,hf,hn,ho,hd⟩,hr⟩:=hl;have hL:L∈X.fs:=hs L (by unfold frs;rw[Wcs,hf];exact War);obtain⟨sl,e⟩:=I.base.slot L o ho (I.ok.frf L hL) hL λz=>I.ok.exfs L z hL;exact⟨hk,⟨L,_,hf,hn,e,hd⟩,ih (λb hb=>hs b (by unfold frs;rw[Wcs,hf];exact Waq _ hb)) hr⟩
 exact all X.outer (λ_ hb=>hb) I.ok.funs
theorem Inv.stack (I:Inv X pins σ H s):s.heap.FunFrames X.base X.stack:=by
 rcases I.ok.stk with e|⟨e,hf⟩
 ·rw[e];exact I.funs
 ·rw[e]
  obtain⟨m,hn,_⟩:=I.loc;refine .cons (by rw[I.ok.kind];decide) hf hn ?_ I.funs;exact Heap.get?_none_of_le (Wat I.ok.bsz I.ok.above)
theorem Inv.stkSub (I:Inv X pins σ H s):∀b∈frs X.stack,b∈X.env.locals::X.fs:=λb hb=>by
 rcases I.ok.stk with e|⟨e,hf⟩
 ·rw[e]at hb;exact Waq _ hb
 ·rw[e]at hb
  unfold frs at hb;rw[Wcs,hf]at hb;exact hb
theorem Inv.stkFree (I:Inv X pins σ H s):∀b∈frs X.stack,H b=none:=λb hb=>by
 rcases Wam.mp (I.stkSub b hb) with e|hb
 ·rw[e];exact I.free
 ·obtain⟨_,o,ho,_⟩:=I.ok.funs.mem hb
  exact I.base.free b o ho (I.ok.frf b hb) λz=>I.ok.exfs b z hb
theorem Inv.step {g':Array GenState}{t':Nat}{d':Drawn}{ch:List Addr}(I:Inv X pins σ H s)
  (hch:∀b∈ch,(b∈X.ex\/X.s₀.heap.objs.size<=b)/\b≠X.env.locals/\(∀x c,X.env.cells.lookup x=some c->c≠b)/\∀p∈X.pn++pins,p.1≠b)
  (keep:∀b o,b≠X.env.locals->b ∉ X.fs->b ∉ ch->s.heap.get? b=some o->H b=none->h'.get? b=some o)
  (slot:∀b o,b≠X.env.locals->b∈X.fs->b ∉ ch->s.heap.get? b=some o->H b=none->∃sl,h'.get? b=some { o with slots:=sl }) (free:∀b o,b ∉ ch->s.heap.get? b=some o->H b=none->H' b=none)
  (there:∀b o,b ∉ ch->s.heap.get? b=some o->∃o',h'.get? b=some o')
  (tups:∀b xs,H b=some (.tup xs)->H' b=some (.tup xs)) (frzs:∀b o u,H b=some (.frz o u)->H' b=some (.frz o u)) (tbls:∀b ps,H b=some (.tbl ps)->∃more,H' b=some (.tbl (ps++more)))
  (ns:∀m,s.heap.Ns X.env.locals m->h'.Ns X.env.locals m) (hok:HOk X.prog X.w H' h') (hg:AllBare g') :
  Inv X pins σ H' { s with heap:=h',gens:=g',drawn:=d',toks:=t' }:=by
 have neL:∀b o,X.s₀.heap.get? b=some o->b≠X.env.locals:=λb o e=>Way (Wav (Wao e) I.ok.above);have neC:∀b o,X.s₀.heap.get? b=some o->b ∉ X.ex->b ∉ ch:=λb o e hx hb=>by
  rcases(hch b hb).1 with z|z
  ·exact hx z
  ·exact absurd (Wav (Wao e) z) (Wb2 _)
 have cellK:∀x c,X.env.cells.lookup x=some c->∀v,s.heap.IsCell c v->h'.IsCell c v:=λx c e v hq_=>by
  obtain⟨o,ho,hd⟩:=hq_;have nch:c ∉ ch:=λz=>(hch c z).2.2.1 x c e rfl;by_cases hc:c∈X.fs
  ·obtain⟨sl,q⟩:=slot c o (I.cne x c e) hc nch ho (I.freeC x c e)
   exact⟨_,q,hd⟩
  ·exact⟨o,keep c o (I.cne x c e) hc nch ho (I.freeC x c e),hd⟩
 refine⟨I.ok,I.os,hg,⟨λb o e n hb hx=>?_,λb o e n hb hx=>?_,λb o e n hx=>?_,λb o e hx=>?_,λb xs e=>tups b xs (I.base.tups b xs e),λb o xs e=>frzs b o xs (I.base.frzs b o xs e),λb ps e=>?_⟩,?_,λx c e=>?_,?_,λx c e=>?_,λp hp=>?_,hok,I.len⟩
 ·exact keep b o (neL b o e) hb (neC b o e hx) (I.base.keep b o e n hb hx) (I.base.free b o e n hx)
 ·obtain⟨sl,e1⟩:=I.base.slot b o e n hb hx
  obtain⟨sl',e2⟩:=slot b _ (neL b o e) hb (neC b o e hx) e1 (I.base.free b o e n hx);exact⟨sl',e2⟩
 ·obtain⟨o',e1⟩:=I.base.there b o e hx
  exact free b o' (neC b o e hx) e1 (I.base.free b o e n hx)
 ·obtain⟨o',e1⟩:=I.base.there b o e hx
  exact there b o' (neC b o e hx) e1
 ·obtain⟨m1,e1⟩:=I.base.tbls b ps e
  obtain⟨m2,e2⟩:=tbls b _ e1;exact⟨m1++m2,by rw[e2,Array.append_assoc]⟩
 ·obtain⟨m,hn,hl⟩:=I.loc
  refine⟨m,ns m hn,λi x v e1 e2 e3=>?_⟩;obtain⟨u,r,l⟩:=hl i x v e1 e2 e3;refine⟨u,r,?_⟩;rcases l with l|⟨k,c,e,z⟩
  ·exact .inl l
  ·exact .inr ⟨k,c,e,cellK x c e _ z⟩
 ·obtain⟨v,z⟩:=I.cell x c e
  exact⟨v,cellK x c e v z⟩
 ·obtain⟨m,⟨o,_,_,ho,_⟩,_⟩:=I.loc
  exact free _ o (λz=>(hch _ z).2.1 rfl) ho I.free
 ·obtain⟨v,o,ho,hd⟩:=I.cell x c e
  exact free c o (λz=>(hch c z).2.2.1 x c e rfl) ho (I.freeC x c e)
 ·obtain⟨e,n,ne,nf,d⟩:=I.pin p hp
  have nch:p.1 ∉ ch:=λz=>(hch p.1 z).2.2.2 p hp rfl;exact⟨keep p.1 p.2 ne nf nch e n,free p.1 p.2 nch e n,ne,nf,d⟩
theorem Inv.un {t':Nat}(I:Inv X pins σ H s) (u:Un X.fs [] H H' s.heap h') (hok:HOk X.prog X.w H' h'):Inv X pins σ H' { s with heap:=h',toks:=t' }:=by
 obtain⟨m,⟨o,es,ep,ho,r⟩,_⟩:=id I.loc;obtain⟨sl,hL⟩:=u.any ho I.free (by simp);exact I.step (g':=s.gens) (d':=s.drawn) (ch:=[]) (λ_ z=>nomatch z) (λb o _ hb _ e n=>u.keep b o e n hb (by simp)) (λb o _ hb _ e n=>u.slot b o e n hb (by simp)) (λb o _ e n=>u.free b o e n (by simp)) (λb o _ e=>u.there b o e (by simp)) u.tups u.frzs u.tbls (λm' hm=>by
  obtain⟨o',es',ep',ho',r'⟩:=hm;rw[ho]at ho';cases ho';exact⟨_,es',ep',hL,r'⟩) hok I.bare
theorem Inv.call {g':Array GenState}{t':Nat}{d':Drawn}{ch:List Addr}(I:Inv X pins σ H s) (u:Un (frs X.stack) ch H H' s.heap h') (hok:HOk X.prog X.w H' h') (hg:AllBare g')
  (hch:∀b∈ch,(b∈X.ex\/X.s₀.heap.objs.size<=b)/\b≠X.env.locals/\(∀x c,X.env.cells.lookup x=some c->c≠b)/\∀p∈X.pn++pins,p.1≠b) :
  Inv X pins σ H' { s with heap:=h',gens:=g',drawn:=d',toks:=t' }:=by
 obtain⟨m,⟨o,es,ep,ho,r⟩,_⟩:=id I.loc;obtain⟨sl,hL⟩:=u.any ho I.free λz=>(hch _ z).2.1 rfl;exact I.step (ch:=ch) hch (λb o hL hb hc e n=>u.keep b o e n (λz=>(Wam.mp (I.stkSub b z)).elim hL hb) hc) (λb o _ _ hc e n=>u.any e n hc) (λb o hc e n=>u.free b o e n hc) (λb o hc e=>u.there b o e hc) u.tups u.frzs u.tbls (λm' hm=>by
  obtain⟨o',es',ep',ho',r'⟩:=hm;rw[ho]at ho';cases ho';exact⟨_,es',ep',hL,r'⟩) hok hg
theorem Inv.turned {t':Nat}{it:Addr}(I:Inv X pins σ H s) (k:∀b o,b≠it->s.heap.get? b=some o->h'.get? b=some o) (hn:H it=none) (hL:it≠X.env.locals)
  (h1:it∈X.ex\/X.s₀.heap.objs.size<=it) (h2:∀x c,X.env.cells.lookup x=some c->c≠it) (h3:∀p∈X.pn++pins,p.1≠it):Inv X pins σ H { s with heap:=h',toks:=t' }:=by
 have nit:∀b u,H b=some u->b≠it:=λb u e z=>by rw[z,hn]at e;cases e
 refine I.step (g':=s.gens) (d':=s.drawn) (ch:=[it]) (λb hb=>?_) (λb o _ _ hc e _=>k b o (λz=>hc (by simp[z])) e) (λb o _ _ hc e _=>⟨o.slots,k b o (λz=>hc (by simp[z])) e⟩) (λ_ _ _ _ n=>n)
  (λb o hc e=>⟨o,k b o (λz=>hc (by simp[z])) e⟩) (λ_ _ e=>e) (λ_ _ _ e=>e) (λb ps e=>⟨#[],by rw[e];simp⟩) (λm hm=>?_) (λb u e=>?_) I.bare
 ·have e:b=it:=by simpa using hb
  subst e;exact⟨h1,hL,h2,h3⟩
 ·obtain⟨o,es,ep,ho,r⟩:=hm
  exact⟨o,es,ep,k _ o (Ne.symm hL) ho,r⟩
 ·refine(I.hok b u e).stay (λc v hc q=>k c v ?_ q) (λ_ q=>q) λ_ _ q=>q
  rcases hc with z|z
  ·rw[z];exact nit b u e
  ·exact nit c _ z
theorem Inv.tok (I:Inv X pins σ H s) (t:Nat):Inv X pins σ H { s with toks:=t }:=I.un (h':=s.heap) (t':=t) Un.refl I.hok
theorem Inv.kept {t':Nat}(I:Inv X pins σ H s) (k:∀b u,s.heap.get? b=some u->h'.get? b=some u):Inv X pins σ H { s with heap:=h',toks:=t' }:=I.un (Un.kept k) (I.hok.kept k)
theorem Inv.laid {a:Addr}{o:HO}{t':Nat}(I:Inv X pins σ H s) (k:∀b u,s.heap.get? b=some u->h'.get? b=some u) (hp:s.heap.objs.size<=a) (new:ObjOk X.prog X.w (upd H a o) h' a o) :
  Inv X pins σ (upd H a o) { s with heap:=h',toks:=t' }:=I.un (Un.laid k hp (I.hok.fresh hp)) (I.hok.laid k hp new)
theorem Inv.write {x e:Addr}{o:HO}{t':Nat}(I:Inv X pins σ H s) (mu:Mut (H x)) (he:e=x\/H e=some (.own x)) (k:∀b u,b≠e->s.heap.get? b=some u->h'.get? b=some u) (heo:∃u,h'.get? e=some u)
  (new:ObjOk X.prog X.w (upd H x o) h' x o):Inv X pins σ (upd H x o) { s with heap:=h',toks:=t' }:=I.un (Un.write mu he k heo) (I.hok.write mu he k heo new)
theorem Inv.weak {σ':List (Option V)}(I:Inv X pins σ H s) (hl:σ'.length = σ.length) (w:∀(i:Nat) v,σ'[i]?=some (some v) -> σ[i]?=some (some v)):Inv X pins σ' H s:=
 ⟨I.ok,I.os,I.bare,I.base,let ⟨m,hn,hl'⟩:=I.loc; ⟨m,hn,λi x v e1 e2 e3=>hl' i x v e1 (w i v e2) e3⟩,I.cell,I.free,I.freeC,I.pin,I.hok,hl.trans I.len⟩
theorem Inv.pins_of {pins':List (Addr × Obj)}(I:Inv X pins σ H s) (h:∀p∈pins',s.heap.get? p.1=some p.2/\H p.1=none/\p.1≠X.env.locals/\p.1 ∉ X.fs/\∀v,p.2.data≠.cell v):Inv X pins' σ H s:=
 ⟨I.ok,I.os,I.bare,I.base,I.loc,I.cell,I.free,I.freeC,λp hp=>(Wa0.mp hp).elim (λz=>I.pin p (Wb3 _ z)) (h p),I.hok,I.len⟩
theorem Zgw {N:List Str}(hN:N.Nodup) {i j:Nat}{x:Str}(a:N[i]?=some x) (b:N[j]?=some x):i=j:=by
 obtain⟨h1,e1⟩:=Wah.mp a;obtain⟨h2,e2⟩:=Wah.mp b;exact(Wdh hN).mp (e1.trans e2.symm)
theorem Zfe {M:Model}{A:Around}{E:Value->Shared->Prop}{i:Nat}{x:Str}{v:V}{u:Value}{Q:Unit->Shared->Prop}(I:Inv X pins σ H s) (hN:X.N.Nodup) (hi:X.N[i]?=some x) (hx:Loc X.env.scope x) (r:RelV v u)
  (h:∀s',Inv X pins (σ.set i (some v)) H s' -> (∃a,Heap.SameBut a s.heap s'.heap/\(a=X.env.locals\/X.env.cells.lookup x=some a))->Q () s') (hf:X.fn x=true\/X.env.scope.names.lookup x=some .local:=by first|exact .inl rfl|exact .inr rfl|assumption):wpAny M A (storeName X.env x u) Q E s:=by
 obtain⟨m,hn,hl⟩:=id I.loc;have hcls:(X.env.scope.kind == .class || (X.env.scope.kind == .module && X.env.locals != X.env.globals))=false:=by rw[I.ok.kind];rfl
 have hiσ:i < σ.length:=by rw[I.len];exact(Wah.mp hi).1
 have cne:=I.cne;have tracked:∀{a:Addr}{h':Heap},(∃o,s.heap.get? a=some o/\H a=none)->Heap.SameBut a s.heap h' -> HOk X.prog X.w H h':=λ{a h'} ha hs b ob e=>by
  obtain⟨_,_,hfree⟩:=ha;refine(I.hok b ob e).stay (λc w' hc q=>(hs.2 c ?_).trans q) (λ_ q=>q) λ_ _ q=>q;rintro rfl;rcases hc with rfl|hc
  ·rw[hfree]at e;cases e
  ·rw[hfree]at hc;cases hc
 rcases hx with hk|hk
 ·refine wpAny_storeName_local hk hn (λh' hn' hs=>?_) hcls
  obtain⟨oL,_,_,hoL,_⟩:=id hn;refine h _ ⟨I.ok,I.os,I.bare,⟨λb o e n hb hx=>?_,λb o e n hb hx=>?_,I.base.free,λb o e hx=>?_,I.base.tups,I.base.frzs,I.base.tbls⟩,⟨_,hn',λj y v' e1 e2 e3=>?_⟩,λy c e=>?_,I.free,I.freeC,λp hp=>?_,tracked ⟨oL,hoL,I.free⟩ hs,by simpa using I.len⟩ ⟨_,hs,.inl rfl⟩
  ·exact(hs.2 b (Way (Wav (Wao e) I.ok.above))).trans (I.base.keep b o e n hb hx)
  ·obtain⟨sl,e1⟩:=I.base.slot b o e n hb hx
   exact⟨sl,(hs.2 b (Way (Wav (Wao e) I.ok.above))).trans e1⟩
  ·obtain⟨o',e1⟩:=I.base.there b o e hx
   exact⟨o',(hs.2 b (Way (Wav (Wao e) I.ok.above))).trans e1⟩
  ·by_cases hj:j=i
   ·subst hj
    rw[hi]at e1;cases e1;rw[Wad hiσ]at e2;cases e2;exact⟨u,r,.inl ⟨hk,by simp⟩⟩
   ·rw[Wae (Ne.symm hj)]at e2
    obtain⟨u',r',q⟩:=hl j y v' e1 e2 e3;refine⟨u',r',?_⟩;rcases q with ⟨k,e⟩|⟨k,c,e,z⟩
    ·refine .inl ⟨k,?_⟩
     have:y≠x:=λe=>hj (Zgw hN e1 (e ▸ hi));simp[this,e]
    ·exact .inr ⟨k,c,e,z.sameBut hs (cne y c e)⟩
  ·obtain⟨w',z⟩:=I.cell y c e
   exact⟨w',z.sameBut hs (cne y c e)⟩
  ·obtain⟨e,n,ne,nf,d⟩:=I.pin p hp
   exact⟨(hs.2 p.1 ne).trans e,n,ne,nf,d⟩
 ·have hfn:X.fn x=true:=by
   rcases hf with z|z
   ·exact z
   ·rw[z]at hk;cases hk
  obtain⟨c,hc⟩:=I.ok.has x (.inl hk);obtain⟨w',z⟩:=I.cell x c hc;refine wpAny_storeName_cell I.ok.kind hk hc z (λh' hc' hs=>?_);obtain⟨oc,hoc,hocd⟩:=id z;refine h { s with heap:=h' } ⟨I.ok,I.os,I.bare,⟨λb o e n hb hx=>?_,λb o e n hb hx=>?_,I.base.free,λb o e hx=>?_,I.base.tups,I.base.frzs,I.base.tbls⟩,⟨m,hn.sameBut hs (Ne.symm (cne x c hc)),λj y v' e1 e2 e3=>?_⟩,λy c' e=>?_,I.free,I.freeC,λp hp=>?_,tracked ⟨oc,hoc,I.freeC x c hc⟩ hs,by simpa using I.len⟩ ⟨c,hs,.inr hc⟩
  ·exact(hs.2 b (Way (Wav (Wao e) (I.ok.cab x c hfn hc)))).trans (I.base.keep b o e n hb hx)
  ·obtain⟨sl,e1⟩:=I.base.slot b o e n hb hx
   exact⟨sl,(hs.2 b (Way (Wav (Wao e) (I.ok.cab x c hfn hc)))).trans e1⟩
  ·obtain⟨o',e1⟩:=I.base.there b o e hx
   exact⟨o',(hs.2 b (Way (Wav (Wao e) (I.ok.cab x c hfn hc)))).trans e1⟩
  ·by_cases hj:j=i
   ·subst hj
    rw[hi]at e1;cases e1;rw[Wad hiσ]at e2;cases e2;exact⟨u,r,.inr ⟨.inl hk,c,hc,hc'⟩⟩
   ·rw[Wae (Ne.symm hj)]at e2
    obtain⟨u',r',q⟩:=hl j y v' e1 e2 e3;refine⟨u',r',?_⟩;rcases q with q|⟨k,c',e,z'⟩
    ·exact .inl q
    ·refine .inr ⟨k,c',e,z'.sameBut hs ?_⟩
     rintro rfl;exact hj (Zgw hN e1 (I.ok.inj _ _ _ e hc ▸ hi))
  ·by_cases hcc:c'=c
   ·subst hcc;exact⟨_,hc'⟩
   ·obtain⟨w2,z2⟩:=I.cell y c' e
    exact⟨w2,z2.sameBut hs hcc⟩
  ·obtain⟨e,n,ne,nf,d⟩:=I.pin p hp
   refine⟨(hs.2 p.1 ?_).trans e,n,ne,nf,d⟩;intro q;rw[q,hoc]at e;have q':oc=p.2:=Wau.inj e;exact d w' (by rw[<- q'];exact hocd)
theorem Zd3 {M:Model}{A:Around}{E:Value->Shared->Prop}{i:Nat}{x:Str}{v:V}{u:Value}{Q:Unit->Shared->Prop}(I:Inv X pins σ H s) (hN:X.N.Nodup) (hi:X.N[i]?=some x) (hx:Loc X.env.scope x) (r:RelV v u)
  (h:∀s',Inv X pins (σ.set i (some v)) H s' -> Q () s') (hf:X.fn x=true\/X.env.scope.names.lookup x=some .local:=by first|exact .inl rfl|exact .inr rfl|assumption):wpAny M A (storeName X.env x u) Q E s:=
 Zfe I hN hi hx r (λs' I' _=>h s' I') hf
theorem Inv.call' {s':Shared}{ch:List Addr}(I:Inv X pins σ H s) (ho:s'.os=s.os) (u:Un (frs X.stack) ch H H' s.heap s'.heap) (hok:HOk X.prog X.w H' s'.heap) (hg:AllBare s'.gens)
  (hch:∀b∈ch,(b∈X.ex\/X.s₀.heap.objs.size<=b)/\b≠X.env.locals/\(∀x c,X.env.cells.lookup x=some c->c≠b)/\∀p∈X.pn++pins,p.1≠b):Inv X pins σ H' s':=by
 obtain⟨h',g',d',t',o'⟩:=s';have e:o'=s.os:=ho;subst e;exact I.call (g':=g') (t':=t') (d':=d') u hok hg hch
end
abbrev XK:=Value->Option Addr->Hp->Prop
abbrev St:=List (Option V)
abbrev VK:=V->Hp->Prop
abbrev TE:=St->Hp->VK->Prop
abbrev TT:=St->Hp->(Bool->Hp->Prop)->Prop
abbrev TA:=St->Hp->(List V->Hp->Prop)->Prop
structure Ends where
 nx:St->Hp->Prop
 rt:VK
 bk:St->Hp->Prop:=λ_ _=>False
 ct:St->Hp->Prop:=λ_ _=>False
abbrev TS:=Ends->St->Hp->Prop
def EP (X:Cx) (pins:List (Addr × Obj)) (σ:St) (Q:VK) (u:Value) (s':Shared):Prop:=∃v H',Inv X pins σ H' s' /\ RelV v u/\Q v H'
def TP (X:Cx) (pins:List (Addr × Obj)) (σ:St) (Q:Bool->Hp->Prop) (b:Bool) (s':Shared):Prop:=∃H',Inv X pins σ H' s' /\ Q b H'
def AP (X:Cx) (pins:List (Addr × Obj)) (σ:St) (Q:List V->Hp->Prop) (us:List Value) (s':Shared):Prop:=∃vs H',Inv X pins σ H' s' /\ Vals vs us/\Q vs H'
def SP (X:Cx) (pins:List (Addr × Obj)) (D:Ends) (f:Flow) (s':Shared):Prop:=
 match f with
 |.next=>∃σ' H',Inv X pins σ' H' s' /\ D.nx σ' H'
 |.brk=>∃σ' H',Inv X pins σ' H' s' /\ D.bk σ' H'
 |.cont=>∃σ' H',Inv X pins σ' H' s' /\ D.ct σ' H'
 |.ret u=>∃v σ' H',Inv X pins σ' H' s' /\ RelV v u/\D.rt v H'
def PE (X:Cx) (e:Expr) (t:TE):Prop:=
 ∀(pins:List (Addr × Obj)) (s:Shared) (σ:St) (H:Hp) (Q:VK),Inv X pins σ H s->t σ H Q->wpAny (model X.prog X.w) X.A (eval e X.env) (EP X pins σ Q) X.xe s
def PT (X:Cx) (e:Expr) (t:TT):Prop:=
 ∀(pins:List (Addr × Obj)) (s:Shared) (σ:St) (H:Hp) (Q:Bool->Hp->Prop),Inv X pins σ H s->t σ H Q->wpAny (model X.prog X.w) X.A (isTrue e X.env (eval e X.env)) (TP X pins σ Q) X.xe s
def PW (X:Cx) (e:Expr) (t:TT):Prop:=
 ∀(whole:Sem Value) (pins:List (Addr × Obj)) (s:Shared) (σ:St) (H:Hp) (Q:Bool->Hp->Prop),Inv X pins σ H s->t σ H Q->wpAny (model X.prog X.w) X.A (isTrue e X.env whole) (TP X pins σ Q) X.xe s
theorem PW.pt {X:Cx}{e:Expr}{t:TT}(h:PW X e t):PT X e t:=h _
def PA (X:Cx) (es:List Expr) (t:TA):Prop:=
 ∀(pos:Pos) (pins:List (Addr × Obj)) (s:Shared) (σ:St) (H:Hp) (Q:List V->Hp->Prop),Inv X pins σ H s->t σ H Q->wpAny (model X.prog X.w) X.A (spliced (backTo pos (starEach es X.env))) (AP X pins σ Q) X.xe s
def PS (X:Cx) (st:Stmt) (t:TS):Prop:=
 ∀(pins:List (Addr × Obj)) (s:Shared) (σ:St) (H:Hp) (D:Ends),Inv X pins σ H s->t D σ H->wpAny (model X.prog X.w) X.A (exec st X.env) (SP X pins D) X.xe s
def PSs (X:Cx) (st:List Stmt) (t:TS):Prop:=
 ∀(pins:List (Addr × Obj)) (s:Shared) (σ:St) (H:Hp) (D:Ends),Inv X pins σ H s->t D σ H->wpAny (model X.prog X.w) X.A (execs st X.env) (SP X pins D) X.xe s
theorem thn {α:Type}{t:Sem α}{Q Q':α -> Shared->Prop}{M:Model}{A:Around}{E:Value->Shared->Prop}{s:Shared}(h:wpAny M A t Q E s) (hQ:∀a s,Q a s->Q' a s):wpAny M A t Q' E s:=wpAny_mono h hQ λ_ _ x=>x
end L2
namespace L2
open PySem PySem.Spec PyProof.Rows
section
variable {X:Cx}
def tVar (i:Nat):TE:=λσ H Q=>∃v,σ[i]?=some (some v)/\Q v H
def tC (v:V):TE:=λ_ H Q=>Q v H
theorem Zpg {i:Nat}{x:Str}{pos:Pos}(hN:X.N[i]?=some x) (hv:Vis X.env.scope x) (hd:(x == ("__debug__":Str))=false:=by decide) (hcd:(x == ("__classdict__":Str))=false:=by decide):PE X (.Name x pos) (tVar i):=by
 intro pins s σ H Q I h;obtain⟨v,e,h⟩:=h;obtain⟨m,hn,hl⟩:=I.loc;obtain⟨u,r,l⟩:=hl i x v hN e hv;have fin:EP X pins σ Q u s:=⟨v,H,I,r,h⟩;rcases l with ⟨hk,hm⟩|⟨hk,c,hc,hcell⟩
 ·exact wpAny_Name (wpAny_loadName_local I.ok.kind hk hn hm fin) hd
 ·rcases hk with hk|hk
  ·exact wpAny_Name (wpAny_loadName_cell I.ok.kind hk hc hcell fin) hd
  ·exact wpAny_Name (wpAny_loadName_free I.ok.kind hk hc hcell fin hcd) hd
theorem Zai {i j pos}:PE X (.Constant (.int i) j pos) (tC (.int i)):=λ_ _ _ H _ I h=>wpAny_Constant_int ⟨.int i,H,I.tok _,⟨_,rfl⟩,h⟩
theorem Zgn {b j pos}:PE X (.Constant (.bool b) j pos) (tC (.bl b)):=λ_ _ _ H _ I h=>Constant_bool ⟨.bl b,H,I,rfl,h⟩
theorem Zi5 {j pos}:PE X (.Constant .none j pos) (tC .non):=λ_ _ _ H _ I h=>Constant_none ⟨.non,H,I,rfl,h⟩
theorem Zbk {x j pos}:PE X (.Constant (.str x) j pos) (tC (.str x)):=λ_ _ _ H _ I h=>Calls.Constant_str ⟨.str x,H,I.tok _,⟨_,rfl⟩,h⟩
def Gl (X:Cx) (x:Str):Prop:=X.env.kindOf x=some .globalImplicit
theorem Zep {E:Value->Shared->Prop}{pins:List (Addr × Obj)}{s:Shared}{σ:St}{H:Hp}{x:Str}{u:Value}{pos:Pos}{Q:Value->Shared->Prop}(I:Inv X pins σ H s) (hg:Gl X x) (hm:X.mg x=some u) (h:Q u s)
  (hd:(x == ("__debug__":Str))=false:=by decide):wpAny (model X.prog X.w) X.A (eval (.Name x pos) X.env) Q E s:=
 Calls.Name_function_global I.ok.kind hg (Calls.loadGlobal_global (by rw[I.ok.glob];exact I.mod.glob.keeps I.bk) hm h) hd
theorem Zf0 {E:Value->Shared->Prop}{pins:List (Addr × Obj)}{s:Shared}{σ:St}{H:Hp}{x:Str}{u:Value}{pos:Pos}{Q:Value->Shared->Prop}(I:Inv X pins σ H s) (hg:Gl X x) (hm:X.mg x=none) (hv:bootBuiltins x=some u) (h:Q u s)
  (hn:x ≠ "__name__":=by decide) (hd:(x == ("__debug__":Str))=false:=by decide):wpAny (model X.prog X.w) X.A (eval (.Name x pos) X.env) Q E s:=by
 obtain⟨mb,h1,h2⟩:=I.mod.blt;exact Calls.Name_function_global I.ok.kind hg (Calls.loadGlobal_builtin (by rw[I.ok.glob];exact I.mod.glob.keeps I.bk) hm (by rw[I.ok.blt];exact h1.keeps I.bk) ((h2 x hn).trans hv) h) hd
theorem Zb4 {x:Str}{v:V}{u:Value}{pos:Pos}(hg:Gl X x) (hm:X.mg x=some u) (r:RelV v u) (hd:(x == ("__debug__":Str))=false:=by decide):PE X (.Name x pos) (tC v):=
 λ_ _ _ H _ I h=>Zep I hg hm ⟨v,H,I,r,h⟩ hd
theorem Zbt {x:Str}{v:V}{u:Value}{pos:Pos}(hg:Gl X x) (hm:X.mg x=none) (hv:bootBuiltins x=some u) (r:RelV v u) (hn:x ≠ "__name__":=by decide) (hd:(x == ("__debug__":Str))=false:=by decide):PE X (.Name x pos) (tC v):=
 λ_ _ _ H _ I h=>Zf0 I hg hm hv ⟨v,H,I,r,h⟩ hn hd
variable {a b:Expr}{ta tb:TE}{pos:Pos}
variable {tA tB':TT}{rest:List Expr}
def tAnd (t u:TT):TT:=λσ H Q=>t σ H λc H1=>if c=true then u σ H1 Q else Q false H1
def tOr (t u:TT):TT:=λσ H Q=>t σ H λc H1=>if c=true then Q true H1 else u σ H1 Q
def tNot (t:TT):TT:=λσ H Q=>t σ H λc H1=>Q (!c) H1
theorem pw_and1 (ha:PT X a tA):PW X (.BoolOp .And [a] pos) tA:=by
 intro wh pins s σ H Q I h;refine isTrue_and (thn (ha pins s σ H Q I h) λc s1 e=>?_);cases c with
 |true=>exact isTrue_and_nil e
 |false=>exact e
theorem pw_or1 (ha:PT X a tA):PW X (.BoolOp .Or [a] pos) tA:=by
 intro wh pins s σ H Q I h;refine isTrue_or (thn (ha pins s σ H Q I h) λc s1 e=>?_);cases c with
 |false=>exact isTrue_or_nil e
 |true=>exact e
theorem pw_and (ha:PT X a tA) (hb:PW X (.BoolOp .And (b::rest) pos) tB'):PW X (.BoolOp .And (a::b::rest) pos) (tAnd tA tB'):=by
 intro wh pins s σ H Q I h;refine isTrue_and (thn (ha pins s σ H _ I h) λc s1 ⟨H1,I1,q1⟩=>?_);cases c with
 |true=>exact hb wh pins s1 σ H1 Q I1 q1
 |false=>exact⟨H1,I1,q1⟩
theorem pw_or (ha:PT X a tA) (hb:PW X (.BoolOp .Or (b::rest) pos) tB'):PW X (.BoolOp .Or (a::b::rest) pos) (tOr tA tB'):=by
 intro wh pins s σ H Q I h;refine isTrue_or (thn (ha pins s σ H _ I h) λc s1 ⟨H1,I1,q1⟩=>?_);cases c with
 |true=>exact⟨H1,I1,q1⟩
 |false=>exact hb wh pins s1 σ H1 Q I1 q1
theorem Zdr (ha:PT X a tA):PT X (.UnaryOp .Not a pos) (tNot tA):=by
 intro pins s σ H Q I h;exact isTrue_not (ha pins s σ H (λc H1=>Q (!c) H1) I h)
def tAndV (ta tb:TE):TE:=λσ H Q=>ta σ H λx H1=>∃c,x=.bl c/\if c=true then tb σ H1 Q else Q (.bl false) H1
def tOrV (ta tb:TE):TE:=λσ H Q=>ta σ H λx H1=>∃c,x=.bl c/\if c=true then Q (.bl true) H1 else tb σ H1 Q
def tNotV (ta:TE):TE:=λσ H Q=>ta σ H λx H1=>∃c,x=.bl c/\Q (.bl (!c)) H1
theorem Zmy {op} {t:TE}(h:PE X a t):PE X (.BoolOp op [a] pos) t:=λpins s σ H Q I hw=>BoolOp_one (h pins s σ H Q I hw)
theorem Zmo (ha:PE X a ta) (hb:PE X (.BoolOp .And (b::rest) pos) tb):PE X (.BoolOp .And (a::b::rest) pos) (tAndV ta tb):=by
 intro pins s σ H Q I h;refine BoolOp_and (thn (ha pins s σ H _ I h) λv s1 ⟨x,H1,I1,r1,q1⟩=>?_);obtain⟨c,rfl,q1⟩:=q1;cases r1;refine wpAny_truthy_bool ?_;cases c with
 |true=>exact hb pins s1 σ H1 Q I1 q1
 |false=>exact⟨.bl false,H1,I1,rfl,q1⟩
theorem Zs2 (ha:PE X a ta):PE X (.UnaryOp .Not a pos) (tNotV ta):=by
 intro pins s σ H Q I h;refine UnaryOp_ (thn (ha pins s σ H _ I h) λv s1 ⟨x,H1,I1,r1,q1⟩=>?_);obtain⟨c,rfl,q1⟩:=q1;cases r1;exact not_of (wpAny_truthy_bool ⟨.bl (!c),H1,I1,rfl,q1⟩)
end
end L2
namespace L2
open PySem PySem.Spec PyProof.Rows
def SqL (K:W.Frag) (H:Hp) (a:Addr) (xs:List V):Prop:=
 Rd H a (.lst xs) ∨
  ∃(o:Obj) (its:Array Value) (n:Nat),K.lookup a=some o/\o.cls=.type "list" /\ o.dict=none/\o.data=.seq its n/\its.size<=sizeLine/\Vals xs its.toList
def SqT (K:W.Frag) (H:Hp) (a:Addr) (xs:List V):Prop:=
 Rd H a (.tup xs) ∨
  ∃(o:Obj) (its:Array Value) (n:Nat),K.lookup a=some o/\o.cls=.type "tuple" /\ o.data=.seq its n/\its.size<=sizeLine/\Vals xs its.toList
def absV:Value->Option V
 |.none=>some .non
 |.bool b=>some (.bl b)
 |.int i _=>some (.int i)
 |.str x _=>some (.str x)
 |.bytes b _=>some (.byt b)
 |.float b _=>some (.flt b)
 |.ref a=>some (.ref a)
 |.type n=>some (.ty n)
 |_=>none
theorem RelV.abs {x:V}{u:Value}(r:RelV x u):absV u=some x:=by
 cases x with
 |non=>cases r;rfl
 |bl _=>cases r;rfl
 |int _=>obtain⟨t,rfl⟩:=r;rfl
 |str _=>obtain⟨t,rfl⟩:=r;rfl
 |byt _=>obtain⟨t,rfl⟩:=r;rfl
 |flt _=>obtain⟨t,rfl⟩:=r;rfl
 |ref _=>cases r;rfl
 |ty _=>cases r;rfl
theorem RelV.inj {x y:V}{u:Value}(r:RelV x u) (q:RelV y u):x=y:=Wau.inj (r.abs.symm.trans q.abs)
theorem Vals.inj:∀{xs ys:List V}{us:List Value},Vals xs us->Vals ys us->xs=ys
 |_,_,_,.nil,.nil=>rfl
 |_,_,_,.cons r t,.cons r' t'=>by rw[r.inj r',Vals.inj t t']
section
variable {X:Cx}{pins:List (Addr × Obj)}{σ:St}{H:Hp}{s:Shared}{a:Addr}{xs ys:List V}
theorem SqL.of {K:W.Frag}(h:H a=some (.lst xs)):SqL K H a xs:=.inl (.inl h)
theorem SqT.of {K:W.Frag}(h:H a=some (.tup xs)):SqT K H a xs:=.inl (.inl h)
theorem Inv.list (I:Inv X pins σ H s) (h:SqL X.K H a xs):∃its:List Value,Vals xs its/\PlainL s.heap a its.toArray/\xs.length<=sizeLine:=by
 rcases h with h|⟨o,its,n,hk,hc,hd,hs,hz,r⟩
 ·obtain⟨z,its,n,r,e⟩:=h.ok I.hok
  exact⟨its,r,⟨_,n,e,rfl,rfl,rfl⟩,z⟩
 ·refine⟨its.toList,r,⟨o,n,I.kIn a o hk,hc,hd,by simpa using hs⟩,?_⟩
  have e:=r.length;simp only[Array.length_toList]at e;omega
theorem Inv.tuple (I:Inv X pins σ H s) (h:SqT X.K H a xs):∃its:List Value,Vals xs its/\IsTup s.heap a its.toArray/\xs.length<=sizeLine:=by
 rcases h with h|⟨o,its,n,hk,hc,hs,hz,r⟩
 ·obtain⟨z,its,r,p⟩:=h.ok I.hok
  exact⟨its,r,p.tup,z⟩
 ·refine⟨its.toList,r,⟨o,I.kIn a o hk,hc,n,by simpa using hs⟩,?_⟩
  have e:=r.length;simp only[Array.length_toList]at e;omega
theorem Inv.list_inj (I:Inv X pins σ H s) (h:SqL X.K H a xs) (h':SqL X.K H a ys):xs=ys:=by
 obtain⟨its,r,⟨o,n,e,_,_,d⟩,_⟩:=I.list h;obtain⟨its',r',⟨o',n',e',_,_,d'⟩,_⟩:=I.list h';rw[e]at e';cases e';rw[d]at d';injection d' with d1 _
 have:its=its':=by simpa using congrArg Array.toList d1
 subst this;exact r.inj r'
theorem Inv.tuple_inj (I:Inv X pins σ H s) (h:SqT X.K H a xs) (h':SqT X.K H a ys):xs=ys:=by
 obtain⟨its,r,⟨o,e,_,n,d⟩,_⟩:=I.tuple h;obtain⟨its',r',⟨o',e',_,n',d'⟩,_⟩:=I.tuple h';rw[e]at e';cases e';rw[d]at d';injection d' with d1 _
 have:its=its':=by simpa using congrArg Array.toList d1
 subst this;exact r.inj r'
end
abbrev Cx.wish (X:Cx) (E:Value->Shared->Prop):Cx:={ X with xe:=E }
abbrev Cx.nox (X:Cx):Cx:=X.wish λ_ _=>False
theorem Cx.Ok.wish {X:Cx}(ok:X.Ok) (E:Value->Shared->Prop):(X.wish E).Ok:=
 ⟨ok.mod,ok.kind,ok.glob,ok.blt,ok.above,ok.inj,ok.has,ok.cab,ok.hd,ok.frames,ok.stk,ok.exf,ok.bs,ok.bsz,ok.noex,ok.exfs,ok.funs,ok.frf⟩
theorem Cx.Ok.unwish {X:Cx}{E:Value->Shared->Prop}(ok:(X.wish E).Ok):X.Ok:=
 ⟨ok.mod,ok.kind,ok.glob,ok.blt,ok.above,ok.inj,ok.has,ok.cab,ok.hd,ok.frames,ok.stk,ok.exf,ok.bs,ok.bsz,ok.noex,ok.exfs,ok.funs,ok.frf⟩
section
variable {X:Cx}{pins:List (Addr × Obj)}{σ:St}{H:Hp}{s:Shared}{E:Value->Shared->Prop}
theorem Inv.wish (I:Inv X pins σ H s) (E:Value->Shared->Prop):Inv (X.wish E) pins σ H s:=⟨I.ok.wish E,I.os,I.bare,I.base,I.loc,I.cell,I.free,I.freeC,I.pin,I.hok,I.len⟩
theorem Inv.unwish (I:Inv (X.wish E) pins σ H s):Inv X pins σ H s:=⟨I.ok.unwish,I.os,I.bare,I.base,I.loc,I.cell,I.free,I.freeC,I.pin,I.hok,I.len⟩
theorem SP.unwish {D:Ends}{f:Flow}{s':Shared}(h:SP (X.wish E) pins D f s'):SP X pins D f s':=by
 cases f with
 |next=>obtain⟨σ',H',I,q⟩:=h;exact⟨σ',H',I.unwish,q⟩
 |brk=>obtain⟨σ',H',I,q⟩:=h;exact⟨σ',H',I.unwish,q⟩
 |cont=>obtain⟨σ',H',I,q⟩:=h;exact⟨σ',H',I.unwish,q⟩
 |ret u=>obtain⟨v,σ',H',I,r,q⟩:=h;exact⟨v,σ',H',I.unwish,r,q⟩
theorem PSs.nox {st:List Stmt}{t:TS}(h:PSs X.nox st t):PSs X st t:=λpins s σ H D I hw=>
 wpAny_mono (h pins s σ H D (I.wish _) hw) (λ_ _ q=>q.unwish) λ_ _ z=>False.elim z
end
section
variable {X:Cx}{st:Stmt}{rest:List Stmt}{t u:TS}{e:Expr}{te:TE}{pos:Pos}
def tNext:TS:=λD σ H=>D.nx σ H
def tSeq (t u:TS):TS:=λD σ H=>t { D with nx:=u D } σ H
theorem Za2:PSs X [] tNext:=λ_ _ σ H _ I h=>wpAny_execs_nil ⟨σ,H,I,h⟩
theorem Zaf (h1:PS X st t) (h2:PSs X rest u):PSs X (st::rest) (tSeq t u):=by
 intro pins s σ H D I h;refine wpAny_execs_cons (thn (h1 pins s σ H { D with nx:=u D } I h) λf s1 q=>?_);cases f with
 |next=>
  obtain⟨σ',H',I',q⟩:=q;exact h2 pins s1 σ' H' D I' q
 |ret v=>exact q
 |brk=>exact q
 |cont=>exact q
theorem Zap (h1:PS X st t):PSs X [st] t:=by
 intro pins s σ H D I h;refine wpAny_execs_cons (thn (h1 pins s σ H D I h) λf s1 q=>?_);cases f with
 |next=>exact wpAny_execs_nil q
 |ret v=>exact q
 |brk=>exact q
 |cont=>exact q
theorem Inv.quiet {pins:List (Addr × Obj)}{σ:St}{H:Hp}{s:Shared}(I:Inv X pins σ H s):interactive X.env=false:=by simp[interactive,I.ok.kind]
def tDrop (te:TE):TS:=λD σ H=>te σ H λ_ H1=>D.nx σ H1
theorem Zdx (he:PE X e te) (hs:swapsWith e none pos.line X.env=pure false:=by rfl):PS X (.Expr e pos) (tDrop te):=by
 intro pins s σ H D I h;exact wpAny_Expr_any (thn (he pins s σ H _ I h) λv s1 ⟨x,H1,I1,r1,q1⟩=>⟨σ,H1,I1,q1⟩) I.quiet hs
def tRet (te:TE):TS:=λD σ H=>te σ H D.rt
theorem Zba (he:PE X e te):PS X (.Return (some e) pos) (tRet te):=by
 intro pins s σ H D I h;exact wpAny_Return_some (thn (he pins s σ H _ I h) λv s1 ⟨x,H1,I1,r1,q1⟩=>⟨x,σ,H1,I1,r1,q1⟩)
def tIfS (c:TT) (t u:TS):TS:=λD σ H=>c σ H λb H1=>if b=true then t D σ H1 else u D σ H1
theorem Zb6 {c:Expr}{a b:List Stmt}{tc:TT}(hc:PT X c tc) (ha:PSs X a t) (hb:PSs X b u):PS X (.If c a b pos) (tIfS tc t u):=by
 intro pins s σ H D I h;refine wpAny_If (thn (hc pins s σ H _ I h) λd s1 ⟨H1,I1,q1⟩=>?_);cases d with
 |true=>exact ha pins s1 σ H1 D I1 q1
 |false=>exact hb pins s1 σ H1 D I1 q1
def tNever:TS:=λ_ _ _=>False
theorem Zfp {sts:List Stmt}:PSs X sts tNever:=λ_ _ _ _ _ _ h=>h.elim
end
abbrev TG:=V->St->Hp->(St->Hp->Prop)->Prop
abbrev TGs:=List V->St->Hp->(St->Hp->Prop)->Prop
def PG (X:Cx) (target:Expr) (t:TG):Prop:=
 ∀(pins:List (Addr × Obj)) (s:Shared) (σ:St) (H:Hp) (v:V) (u:Value) (Q:St->Hp->Prop),Inv X pins σ H s->RelV v u->t v σ H Q →
  wpAny (model X.prog X.w) X.A (assign target X.env u) (λ_ s'=>∃σ' H',Inv X pins σ' H' s' /\ Q σ' H') X.xe s
def PGs (X:Cx) (ts:List Expr) (t:TGs):Prop:=
 ∀(pins:List (Addr × Obj)) (s:Shared) (σ:St) (H:Hp) (vs:List V) (us:List Value) (Q:St->Hp->Prop),Inv X pins σ H s->Vals vs us->t vs σ H Q →
  wpAny (model X.prog X.w) X.A (assignInOrder ((assignEach ts X.env).map (·.2)) us) (λ_ s'=>∃σ' H',Inv X pins σ' H' s' /\ Q σ' H') X.xe s
abbrev TSet:=V->V->V->Hp->(Hp->Prop)->Prop
def PSet (X:Cx) (t:TSet):Prop:=
 ∀(pins:List (Addr × Obj)) (s:Shared) (σ:St) (H:Hp) (o i v:V) (ov iv u:Value) (Q:Hp->Prop),Inv X pins σ H s->RelV o ov->RelV i iv->RelV v u->t o i v H Q →
  wpAny (model X.prog X.w) X.A (setItem ov iv u) (λ_ s'=>∃H',Inv X pins σ H' s' /\ Q H') X.xe s
section
variable {X:Cx}{pos:Pos}
def gName (i:Nat):TG:=λv σ H Q=>Q (σ.set i (some v)) H
theorem Zbh {i:Nat}{x:Str}(hN:X.N.Nodup) (hi:X.N[i]?=some x) (hx:Loc X.env.scope x) (hf:X.fn x=true\/X.env.scope.names.lookup x=some .local:=by first|exact .inl rfl|exact .inr rfl|assumption):PG X (.Name x pos) (gName i):=by
 intro pins s σ H v u Q I r h;exact wpAny_assign_Name (Zd3 I hN hi hx r (λs' I'=>⟨_,H,I',h⟩) hf)
def gNil:TGs:=λvs σ H Q=>vs=[]/\Q σ H
def gCons (t:TG) (u:TGs):TGs:=λvs σ H Q=>∃v r,vs=v::r/\t v σ H λσ' H'=>u r σ' H' Q
theorem Zen:PGs X [] gNil:=by
 intro pins s σ H vs us Q I r h;obtain⟨e,h⟩:=h;subst e;cases r;exact assignInOrder_nil ⟨σ,H,I,h⟩
theorem Zb0 {e:Expr}{es:List Expr}{t:TG}{u:TGs}(h1:PG X e t) (h2:PGs X es u)
  (hs:(assignEach (e::es) X.env).map (·.2)=assign e X.env::(assignEach es X.env).map (·.2):=by rfl):PGs X (e::es) (gCons t u):=by
 intro pins s σ H vs us Q I r h;obtain⟨v,vr,e1,h⟩:=h;subst e1;cases r with
 |cons r rr=>
  rw[hs];refine assignInOrder_cons (thn (h1 pins s σ H _ _ _ I r h) λ_ s1 ⟨σ1,H1,I1,q1⟩=>?_);exact h2 pins s1 σ1 H1 _ _ Q I1 rr q1
def gTup (K:W.Frag) (n:Nat) (t:TGs):TG:=λv σ H Q=>∃a xs,v=.ref a/\SqT K H a xs/\xs.length=n/\t xs σ H Q
theorem Zrw {es:List Expr}{k:Nat}{t:TGs}{n:Nat}(hc:X.calm=true) (h:PGs X es t)
  (hn:(assignEach es X.env).length=n:=by rfl) (hst:(assignEach es X.env).findIdx? (·.1)=none:=by rfl):PG X (.Tuple es k pos) (gTup X.K n t):=by
 intro pins s σ H v u Q I r hw;obtain⟨a,xs,e1,hq,hl,hw⟩:=hw;subst e1;cases r;obtain⟨its,rv,ht,hz⟩:=I.tuple hq;refine assign_Tuple_tuple (I.ok.hd hc) ht (by simp[hn,<- hl,rv.length]) hst λh' hx=>?_;have I1:Inv X pins σ H { s with heap:=h' }:=I.kept (t':=s.toks) λb o e=>hx b o (Way (Wao e)) e;exact h pins _ σ H xs _ Q I1 (by simpa using rv) hw
def gSub (to ti:TE) (t:TSet):TG:=λv σ H Q=>to σ H λo H1=>ti σ H1 λi H2=>t o i v H2 λH3=>Q σ H3
theorem Zfj {o i:Expr}{to ti:TE}{t:TSet}(ho:PE X o to) (hi:PE X i ti) (hs:PSet X t)
  (ha:∀v,assign (.Subscript o i pos) X.env v=(do
   let ov ← holding [v] (eval o X.env)
   let iv ← holding [v,ov] (eval i X.env)
   standAt pos
   holding [v,ov,iv] (setItem ov iv v)
   release [v,ov,iv] []):=by intro _;rfl):PG X (.Subscript o i pos) (gSub to ti t):=by
 intro pins s σ H v u Q I r h;rw[ha];refine wpAny_bind (wpAny_holding (thn (ho pins s σ H _ I h) λov s1 ⟨x,H1,I1,r1,q1⟩=>?_));refine wpAny_bind (wpAny_holding (thn (hi pins s1 σ H1 _ I1 q1) λiv s2 ⟨y,H2,I2,r2,q2⟩=>?_));refine wpAny_bind (wpAny_standAt (wpAny_bind (wpAny_holding (thn (hs pins s2 σ H2 x y v ov iv u _ I2 r1 r2 r q2) λ_ s3 ⟨H3,I3,q3⟩=>?_))));exact wpAny_release ⟨σ,H3,I3,q3⟩
def tAsg (te:TE) (g:TG):TS:=λD σ H=>te σ H λx H1=>g x σ H1 D.nx
theorem Zf5 {tg e:Expr}{te:TE}{g:TG}(he:PE X e te) (hg:PG X tg g) (hs:swapsWithSole [tg] e pos.line X.env=pure false:=by rfl) (hw:swappedStores [tg] e X.env=pure none:=by rfl)
  (h1:(assignEach [tg] X.env).map (·.2)=[assign tg X.env]:=by rfl):PS X (.Assign [tg] e pos) (tAsg te g):=by
 intro pins s σ H D I h;refine wpAny_Assign_stores (thn (he pins s σ H _ I h) λv s1 ⟨x,H1,I1,r1,q1⟩=>?_) hs hw;rw[h1];exact thn (hg pins s1 σ H1 x v _ I1 r1 q1) λ_ s2 q=>q
theorem Zat {i:Nat}{x:Str}{e:Expr}{te:TE}{pos':Pos}(hN:X.N.Nodup) (hi:X.N[i]?=some x) (hx:Loc X.env.scope x) (he:PE X e te) (hs:swapsWith e (some (.Name x pos')) pos.line X.env=pure false:=by rfl) (hf:X.fn x=true\/X.env.scope.names.lookup x=some .local:=by first|exact .inl rfl|exact .inr rfl|assumption) :
  PS X (.Assign [.Name x pos'] e pos) (tAsg te (gName i)):=by
 intro pins s σ H D I h;refine wpAny_Assign_Name (thn (he pins s σ H _ I h) λv s1 ⟨y,H1,I1,r1,q1⟩=>?_) hs;exact Zd3 I1 hN hi hx r1 (λs2 I2=>⟨_,H1,I2,q1⟩) hf
def tPar (i j:Nat) (ta:TA):TS:=λD σ H=>ta σ H λvs H1=>∃v w,vs=[v,w]/\D.nx ((σ.set i (some v)).set j (some w)) H1
theorem Zpd {i j:Nat}{x y:Str}{a b:Expr}{ta:TA}{px py pt:Pos}{kt k2 pt2} (hc:X.calm=true) (hN:X.N.Nodup) (hi:X.N[i]?=some x) (hj:X.N[j]?=some y) (hij:i≠j)
  (hx:X.env.scope.names.lookup x=some .local) (hy:X.env.scope.names.lookup y=some .local) (ha:PA X [a,b] ta)
  (hw:swappedStores [.Tuple [.Name x px,.Name y py] kt pt] (.Tuple [a,b] k2 pt2) X.env=pure (some [x,y]))
  (hs:swapsWithSole [.Tuple [.Name x px,.Name y py] kt pt] (.Tuple [a,b] k2 pt2) pos.line X.env=pure false:=by rfl) :
  PS X (.Assign [.Tuple [.Name x px,.Name y py] kt pt] (.Tuple [a,b] k2 pt2) pos) (tPar i j ta):=by
 intro pins s σ H D I h;rw[exec_Assign_arm];refine wpAny_bind (wpAny_standAt ?_);rw[hs];refine wpAny_bind (wpAny_pure ?_);rw[if_neg (by decide)];refine wpAny_bind (Tuple_ (thn (ha _ pins s σ H _ I h) λus s1 ⟨vs,H1,I1,r1,q1⟩=>?_));obtain⟨v,w,e1,q1⟩:=q1;subst e1;obtain⟨u1,u2,rfl,rv,rw'⟩:∃u1 u2,us=[u1,u2]/\RelV v u1/\RelV w u2:=by
  cases r1 with
  |cons p q=>
   cases q with
   |cons p' q'=>
    cases q';exact⟨_,_,rfl,p,p'⟩
 refine wpAny_newObj_type ?_ (by show 2<=sizeLine;decide);have I2:Inv X pins σ H1 { s1 with heap:=s1.heap.push { cls:=.type "tuple",data:=.seq [u1,u2].toArray } }:=I1.kept (t':=s1.toks) λb o e=>Wac _ e;rw[hw];refine wpAny_bind (wpAny_pure ?_);show wpAny (model X.prog X.w) X.A (do rule "assign.swapped-stores";let items ← unpackItems (.ref s1.heap.objs.size) 2 none;assignInOrder [λv=>bindName X.env y v,λv=>bindName X.env x v] items.reverse;pure Flow.next) _ _ _;refine wpAny_bind (wpAny_rule (wpAny_bind (unpackItems_tuple (items:=#[u1,u2]) (I.ok.hd hc) (IsTup.new s1.heap _) λh' hx'=>?_)));have I3:=I2.kept (h':=h') (t':=s1.toks) λb o e=>hx' b o (Way (Wao e)) e;show wpAny _ _ (assignInOrder [λv=>bindName X.env y v,λv=>bindName X.env x v] [u2,u1] >>= λ_=>pure Flow.next) _ _ _;refine wpAny_bind (assignInOrder_cons (wpAny_bindName (Zd3 I3 hN hj (.inl hy) rw' (λs2 I4=>?_) (.inr hy))));refine assignInOrder_cons (wpAny_bindName (Zd3 I4 hN hi (.inl hx) rv (λs3 I5=>assignInOrder_nil (wpAny_pure ?_)) (.inr hx)));rw[List.set_comm _ _ (Ne.symm hij)]at I5;exact⟨_,H1,I5,q1⟩
end
structure It where
 go:Nat->Hp->Prop
 yld:Nat->Hp->V->Hp->Prop
 stop:Nat->Hp->Prop
def FpOk (X:Cx) (pins:List (Addr × Obj)) (H:Hp) (b:Addr):Prop:=
 H b=none/\b≠X.env.locals/\b ∉ X.fs/\(b∈X.ex\/X.s₀.heap.objs.size<=b)/\(∀x c,X.env.cells.lookup x=some c->c≠b)/\∀p∈X.pn++pins,p.1≠b
theorem Inv.fpOk {X:Cx}{pins:List (Addr × Obj)}{σ:St}{H H':Hp}{s:Shared}{b:Addr}(I:Inv X pins σ H s) (hb:s.heap.objs.size<=b) (hn:H' b=none):FpOk X pins H' b:=by
 refine⟨hn,Wcc (Wav I.lt hb),I.nofs hb,.inr (Wat I.sz hb),λx c e z=>?_,λp hp z=>?_⟩
 ·obtain⟨v,q⟩:=I.cell x c e
  exact absurd (Wav q.lt (by rw[z];exact hb)) (Wb2 _)
 ·exact absurd (Wav (Wao (I.pin p hp).1) (by rw[z];exact hb)) (Wb2 _)
structure TurnG (Cm:Cx->Prop) (P:Program) (w:World) (K:W.Frag) (tg:Expr) (J:It) (fp:List Addr) (it:Addr) (tn:Nat->Heap->Prop):Prop where
 mem:it∈fp
 obj:∀i h,tn i h->∀b∈fp,∃o,h.get? b=some o/\∀v,o.data≠.cell v
 keep:∀i h h',tn i h->(∀b∈fp,∀o,h.get? b=some o->h'.get? b=some o)->tn i h'
 item:∀(X:Cx),X.prog=P->X.w=w->X.K=K->Cm X->∀(i:Nat) (pins:List (Addr × Obj)) (s:Shared) (σ:St) (H:Hp) (E:Value->Shared->Prop),Inv X pins σ H s->(∀b∈fp,FpOk X pins H b)->tn i s.heap->J.go i H →
  wpAny (model P w) X.A (pyNext (.ref it)) (λr s1=>∃u,r=some u ∧
   wpAny (model P w) X.A (letOwnedTupleGo tg (.ref it) u) (λ_ s2=>∃x H',Inv X pins σ H' s2/\RelV x u/\J.yld i H x H' /\ tn (i+1) s2.heap/\∀b∈fp,H' b=none) E s1) E s
 done:∀(X:Cx),X.prog=P->X.w=w->X.K=K->Cm X->∀(i:Nat) (pins:List (Addr × Obj)) (s:Shared) (σ:St) (H:Hp) (E:Value->Shared->Prop),Inv X pins σ H s->(∀b∈fp,FpOk X pins H b)->tn i s.heap->J.stop i H →
  wpAny (model P w) X.A (pyNext (.ref it)) (λr s1=>r=none/\Inv X pins σ H s1) E s
 self:∀(A:Around) (i:Nat) (s:Shared) (Q:Value->Shared->Prop) (E:Value->Shared->Prop),tn i s.heap->Q (.ref it) s->wpAny (model P w) A (pyIter (.ref it)) Q E s
abbrev Turn:=TurnG λX=>X.calm=true
abbrev TI:=St->Hp->(It->Hp->Prop)->Prop
def PIEG (Cm:Cx->Prop) (X:Cx) (pins:List (Addr × Obj)) (σ:St) (tg:Expr) (R:It->Hp->Prop) (itv:Value) (s2:Shared):Prop:=
 ∃(it:Addr) (fp:List Addr) (tn:Nat->Heap->Prop) (J:It) (H':Hp),itv=.ref it/\Inv X pins σ H' s2/\TurnG Cm X.prog X.w X.K tg J fp it tn/\tn 0 s2.heap/\(∀b∈fp,FpOk X pins H' b)/\R J H'
def PIG (Cm:Cx->Prop) (X:Cx) (tg iter:Expr) (wi:TI):Prop:=
 ∀(pins:List (Addr × Obj)) (s:Shared) (σ:St) (H:Hp) (R:It->Hp->Prop),Inv X pins σ H s->wi σ H R →
  wpAny (model X.prog X.w) X.A (eval iter X.env) (λv s1=>wpAny (model X.prog X.w) X.A (pyIter v) (PIEG Cm X pins σ tg R) X.xe s1) X.xe s
abbrev PIE:=PIEG λX=>X.calm=true
abbrev PI:=PIG λX=>X.calm=true
theorem Znk {M:Model}{A:Around}{E:Value->Shared->Prop}{s:Shared}{tg:Expr}{it:Addr}{u:Value}{o:Obj}{n:String}{vs:Array Value}{Q:Unit->Shared->Prop}(ho:s.heap.get? it=some o) (hc:o.cls=.type n) (hd:o.data=.fields vs)
  (hn:["enumerate","zip","dict_itemiterator","dict_reverseitemiterator","odict_iterator","itertools.zip_longest","itertools.pairwise"].contains n=false) (hQ:Q () s):wpAny M A (letOwnedTupleGo tg (.ref it) u) Q E s:=by
 unfold letOwnedTupleGo;cases tg <;> first
  |exact wpAny_pure hQ
  | (cases u <;> first
      |exact wpAny_pure hQ
      | (refine wpAny_bind (wpAny_load ho ?_)
         rw[hc,hd];show wpAny M A (if (["enumerate","zip","dict_itemiterator","dict_reverseitemiterator","odict_iterator","itertools.zip_longest","itertools.pairwise"].contains n && vs[0]? == some (rawInt _))=true then _ else _) Q E s;rw[if_neg (by intro h;rw[hn,Bool.false_and]at h;cases h)];exact wpAny_pure hQ))
def Itl (K:W.Frag) (a:Addr):It:=
 ⟨λi H=>∃xs x,SqL K H a xs/\xs[i]?=some x,λi H x H'=>H'=H/\∀xs,SqL K H a xs->xs[i]?=some x,λi H=>∃xs,SqL K H a xs/\xs.length<=i⟩
def Itt (K:W.Frag) (a:Addr):It:=
 ⟨λi H=>∃xs x,SqT K H a xs/\xs[i]?=some x,λi H x H'=>H'=H/\∀xs,SqT K H a xs->xs[i]?=some x,λi H=>∃xs,SqT K H a xs/\xs.length<=i⟩
def Itr (lo:Int) (n:Nat):It:=⟨λi _=>i<n,λi H x H'=>H'=H/\x=.int (lo+i),λi _=>n<=i⟩
theorem Zd8 {P:Program}{w:World}{K:W.Frag}{tg:Expr}(a it:Addr):Turn P w K tg (Itl K a) [it] it (λi h=>h.IsListIter it a i) where
 mem:=by simp
 obj:=λi h st b hb=>by
  have e:b=it:=by simpa using hb
  subst e;obtain⟨o,e,c,d⟩:=st;exact⟨o,e,λv z=>by rw[d]at z;cases z⟩
 keep:=λi h h' st k=>st.at λo e=>k it (by simp) o e
 item:=by
  intro X hP hw hK hc i pins s σ H E I hf st hg;subst hP hw hK;obtain⟨xs,x,hq,hx⟩:=hg;obtain⟨its,rv,p,hz⟩:=I.list hq;obtain⟨u,hu,ru⟩:=rv.get hx;obtain⟨f0,f1,f2,f3,f4,f5⟩:=hf it (by simp);refine wpAny_pyNext_list_item st p.isList (x:=u) (by simpa using hu) λh' st' sb=>?_;have I1:Inv X pins σ H { s with heap:=h' }:=I.turned (t':=s.toks) (λb o hb e=>(sb.2 b hb).trans e) f0 f1 f3 f4 f5;obtain⟨o,e,c,d⟩:=id st';exact⟨u,rfl,Znk (s:={ s with heap:=h' }) e c d (by decide) ⟨x,H,I1,ru,⟨rfl,λys hy=>by rw[I.list_inj hy hq];exact hx⟩,st',λb hb=>(hf b hb).1⟩⟩
 done:=by
  intro X hP hw hK hc i pins s σ H E I hf st hg;subst hP hw hK;obtain⟨xs,hq,hx⟩:=hg;obtain⟨its,rv,p,hz⟩:=I.list hq;obtain⟨f0,f1,f2,f3,f4,f5⟩:=hf it (by simp);have hl:=rv.length;exact wpAny_pyNext_list_end (I.ok.hd hc) st p.isList (by simp;omega) λh' eb=>⟨rfl,I.turned (t':=s.toks) (λb o hb e=>eb b o hb e) f0 f1 f3 f4 f5⟩
 self:=λ_ _ _ _ _ st h=>wpAny_pyIter_listiter st h
theorem Zka {P:Program}{w:World}{K:W.Frag}{tg:Expr}(a it:Addr):Turn P w K tg (Itt K a) [it] it (λi h=>h.IsTupleIter it a i) where
 mem:=by simp
 obj:=λi h st b hb=>by
  have e:b=it:=by simpa using hb
  subst e;obtain⟨o,e,c,d⟩:=st;exact⟨o,e,λv z=>by rw[d]at z;cases z⟩
 keep:=λi h h' st k=>st.at λo e=>k it (by simp) o e
 item:=by
  intro X hP hw hK hc i pins s σ H E I hf st hg;subst hP hw hK;obtain⟨xs,x,hq,hx⟩:=hg;obtain⟨its,rv,p,hz⟩:=I.tuple hq;obtain⟨u,hu,ru⟩:=rv.get hx;obtain⟨f0,f1,f2,f3,f4,f5⟩:=hf it (by simp);refine wpAny_pyNext_tuple_item st (show s.heap.IsTuple a its.toArray from p) (x:=u) (by simpa using hu) λh' st' sb=>?_;have I1:Inv X pins σ H { s with heap:=h' }:=I.turned (t':=s.toks) (λb o hb e=>(sb.2 b hb).trans e) f0 f1 f3 f4 f5;obtain⟨o,e,c,d⟩:=id st';exact⟨u,rfl,Znk (s:={ s with heap:=h' }) e c d (by decide) ⟨x,H,I1,ru,⟨rfl,λys hy=>by rw[I.tuple_inj hy hq];exact hx⟩,st',λb hb=>(hf b hb).1⟩⟩
 done:=by
  intro X hP hw hK hc i pins s σ H E I hf st hg;subst hP hw hK;obtain⟨xs,hq,hx⟩:=hg;obtain⟨its,rv,p,hz⟩:=I.tuple hq;obtain⟨f0,f1,f2,f3,f4,f5⟩:=hf it (by simp);have hl:=rv.length;exact wpAny_pyNext_tuple_end (I.ok.hd hc) st (show s.heap.IsTuple a its.toArray from p) (by simp;omega) λh' eb=>⟨rfl,I.turned (t':=s.toks) (λb o hb e=>eb b o hb e) f0 f1 f3 f4 f5⟩
 self:=λ_ _ _ _ _ st h=>wpAny_pyIter_tupleiter st h
theorem Zj8 {P:Program}{w:World}{K:W.Frag}{tg:Expr}(it:Addr) (lo:Int) (n:Nat):Turn P w K tg (Itr lo n) [it] it (λi h=>IsRangeIter h it (lo+(i:Nat)*1) ((n:Int)-(i:Nat)) 1) where
 mem:=by simp
 obj:=λi h st b hb=>by
  have e:b=it:=by simpa using hb
  subst e;exact⟨_,st,λv z=>by
   have z':Data.fields _=Data.cell v:=z;cases z'⟩
 keep:=λi h h' st k=>k it (by simp) _ st
 item:=by
  intro X hP hw hK hc i pins s σ H E I hf st hg;subst hP hw hK;obtain⟨f0,f1,f2,f3,f4,f5⟩:=hf it (by simp);have W:=Walks.range (prog:=X.prog) (w:=X.w) (I.ok.hd hc) it lo 1 n;refine W.item i s _ _ hg st λv h' tk hv st' kk=>?_;obtain⟨t,rfl⟩:=hv;have I1:Inv X pins σ H { s with heap:=h',toks:=tk }:=I.turned (λb o hb e=>kk b o (by simpa using hb) e) f0 f1 f3 f4 f5;refine⟨_,rfl,Znk (s:={ s with heap:=h',toks:=tk }) (n:="range_iterator") st' rfl rfl (by decide) ⟨.int (lo+i),H,I1,⟨t,?_⟩,⟨rfl,rfl⟩,st',λb hb=>(hf b hb).1⟩⟩;rw[Int.mul_one]
 done:=by
  intro X hP hw hK hc i pins s σ H E I hf st hg;subst hP hw hK;obtain⟨f0,f1,f2,f3,f4,f5⟩:=hf it (by simp);exact wpAny_pyNext_range_end (I.ok.hd hc) st (by have:n<=i:=hg;omega) λh' eb=>⟨rfl,I.turned (t':=s.toks) (λb o hb e=>eb b o hb e) f0 f1 f3 f4 f5⟩
 self:=λ_ _ _ _ _ st h=>wpAny_pyIter_rangeiter st h
end L2
namespace L2
open PySem PySem.Spec PyProof.Rows
section
variable {X:Cx}{tg:Expr}
def iList (K:W.Frag) (tl:TE):TI:=λσ H R=>tl σ H λx H1=>∃a,x=.ref a/\(∃xs,SqL K H1 a xs)/\R (Itl K a) H1
def iTup (K:W.Frag) (tl:TE):TI:=λσ H R=>tl σ H λx H1=>∃a,x=.ref a/\(∃xs,SqT K H1 a xs)/\R (Itt K a) H1
theorem Zp6 {l:Expr}{tl:TE}(hl:PE X l tl):PI X tg l (iList X.K tl):=by
 intro pins s σ H R I h;refine thn (hl pins s σ H _ I h) λv s1 ⟨x,H1,I1,r1,q1⟩=>?_;obtain⟨a,e,⟨xs,hq⟩,q⟩:=q1;subst e;cases r1;obtain⟨its,rv,p,hz⟩:=I1.list hq;refine wpAny_pyIter_list p.isList ?_;refine⟨s1.heap.objs.size,[s1.heap.objs.size],_,_,H1,rfl,I1.kept (t':=s1.toks) λb o e=>Wac _ e,Zd8 a _,⟨_,Wal _ rfl,rfl,rfl⟩,λb hb=>?_,q⟩;have e:b=s1.heap.objs.size:=by simpa using hb
 subst e;exact I1.fpOk (Wak _) (I1.hok.fresh (Wak _))
theorem Zs8 {l:Expr}{tl:TE}(hl:PE X l tl):PI X tg l (iTup X.K tl):=by
 intro pins s σ H R I h;refine thn (hl pins s σ H _ I h) λv s1 ⟨x,H1,I1,r1,q1⟩=>?_;obtain⟨a,e,⟨xs,hq⟩,q⟩:=q1;subst e;cases r1;obtain⟨its,rv,p,hz⟩:=I1.tuple hq;refine wpAny_pyIter_tuple (show s1.heap.IsTuple a its.toArray from p) ?_;refine⟨s1.heap.objs.size,[s1.heap.objs.size],_,_,H1,rfl,I1.kept (t':=s1.toks) λb o e=>Wac _ e,Zka a _,⟨_,Wal _ rfl,rfl,rfl⟩,λb hb=>?_,q⟩;have e:b=s1.heap.objs.size:=by simpa using hb
 subst e;exact I1.fpOk (Wak _) (I1.hok.fresh (Wak _))
theorem range_it {pins:List (Addr × Obj)}{σ:St}{H:Hp}{s:Shared}{R:It->Hp->Prop}{E:Value->Shared->Prop}{lo hi:Int}{t u v:Tok}{tk:Nat}(I:Inv X pins σ H s) (h1:-(2 ^ 62)<=lo) (h2:lo<2 ^ 62) (h3:-(2 ^ 62)<=hi) (h4:hi<2 ^ 62)
  (q:R (Itr lo (hi-lo).toNat) H):wpAny (model X.prog X.w) X.A (pyIter (.ref s.heap.objs.size)) (PIE X pins σ tg R) E { s with heap:=s.heap.push { cls:=.type "range",data:=.fields #[.int lo t,.int hi u,.int 1 v] },toks:=tk }:=by
 refine wpAny_pyIter_range (IsRange.new ..) (small_one h1 h2 h3 h4) ?_;have I1:Inv X pins σ H { s with heap:=s.heap.push { cls:=.type "range",data:=.fields #[.int lo t,.int hi u,.int 1 v] },toks:=tk }:=I.kept λb o e=>Wac _ e;refine⟨(s.heap.push { cls:=.type "range",data:=.fields #[.int lo t,.int hi u,.int 1 v] }).objs.size,[(s.heap.push { cls:=.type "range",data:=.fields #[.int lo t,.int hi u,.int 1 v] }).objs.size],_,_,H,rfl,
  I1.kept (t':=tk) λb o e=>Wac _ e,Zj8 _ lo (hi-lo).toNat,?_,λb hb=>?_,q⟩
 ·have e1:lo+((0:Nat):Int)*1=lo:=by simp
  have e2:(((hi-lo).toNat:Nat):Int)-((0:Nat):Int)=Builtin.Range.rangeSize lo hi 1:=by rw[rangeSize_one];split <;> omega
  show IsRangeIter _ _ (lo+((0:Nat):Int)*1) ((((hi-lo).toNat:Nat):Int)-((0:Nat):Int)) 1;rw[e1,e2];exact Wal _ rfl
 ·have e:b=(s.heap.push { cls:=.type "range",data:=.fields #[.int lo t,.int hi u,.int 1 v] }).objs.size:=by simpa using hb
  subst e;exact I1.fpOk (Wak _) (I1.hok.fresh (Wak _))
def iRng1 (ta:TA):TI:=λσ H R=>ta σ H λvs H1=>∃j:Int,vs=[.int j] /\ -(2 ^ 62)<=j/\j<2 ^ 62/\R (Itr 0 j.toNat) H1
theorem Zdm {a:Expr}{ta:TA}{p pos:Pos}(hg:Gl X "range") (hm:X.mg "range" = none) (ha:PA X [a] ta) (hs:starEach [a] X.env=[(false,eval a X.env)]:=by rfl):PI X tg (.Call (.Name "range" p) [a] [] pos) (iRng1 ta):=by
 intro pins s σ H R I h;refine Call_ (Zf0 I hg hm boot_range (PyProof.Rows.callWith_type1 (thn (ha pos pins s σ H _ I h) λus s1 ⟨vs,H1,I1,r1,q1⟩=>?_) hs rfl));obtain⟨j,e,q1,q2,q⟩:=q1;subst e;cases r1 with
 |cons r rr=>
  cases rr;obtain⟨t,rfl⟩:=r;exact call_range_1 (range_it I1 (by omega) (by omega) q1 q2 (by simpa using q))
def tFor (wi:TI) (g:TG) (tb:TS):TS:=λD σ H=>wi σ H λJ H1=>∃W:Nat->Nat->St->Hp->Prop,(∃m,W 0 m σ H1)/\∀i m σ H,W i m σ H →
 (J.stop i H/\D.nx σ H)\/(J.go i H/\∃N:St->Hp->Prop,(∀σ' H',N σ' H' -> ∃m',m'<m/\W (i+1) m' σ' H')/\∀x H',J.yld i H x H' -> g x σ H' λσ2 H2=>tb { D with nx:=N,ct:=N,bk:=D.nx } σ2 H2)
def pinsAt (fp:List Addr) (h:Heap):List (Addr × Obj):=fp.filterMap λb=>(h.get? b).map λo=>(b,o)
theorem Zck {fp:List Addr}{h:Heap}{b:Addr}{o:Obj}(hb:b∈fp) (e:h.get? b=some o):(b,o)∈pinsAt fp h:=List.mem_filterMap.mpr ⟨b,hb,by rw[e];rfl⟩
theorem Zm3 {fp:List Addr}{h:Heap}{p:Addr × Obj}(hp:p∈pinsAt fp h):p.1∈fp/\h.get? p.1=some p.2:=by
 obtain⟨b,hb,e⟩:=List.mem_filterMap.mp hp;cases q:h.get? b with
 |none=>rw[q]at e;cases e
 |some o=>
  rw[q]at e;have e':(b,o)=p:=Wau.inj e;subst e';exact⟨hb,q⟩
theorem Inv.pinned {pins:List (Addr × Obj)}{σ:St}{H:Hp}{s:Shared}{fp:List Addr}(I:Inv X pins σ H s) (hf:∀b∈fp,FpOk X pins H b) (ho:∀b∈fp,∃o,s.heap.get? b=some o/\∀v,o.data≠.cell v):Inv X (pins++pinsAt fp s.heap) σ H s:=
 I.pins_of λp hp=>(Wa0.mp hp).elim (λz=>I.pin p (Waw _ z)) λz=>by
  obtain⟨hb,e⟩:=Zm3 z;obtain⟨f0,f1,f2,_⟩:=hf p.1 hb;obtain⟨o,e',d⟩:=ho p.1 hb;rw[e]at e';cases e';exact⟨e,f0,f1,f2,d⟩
theorem Inv.unpinned {pins pl:List (Addr × Obj)}{σ:St}{H:Hp}{s:Shared}(I:Inv X (pins++pl) σ H s):Inv X pins σ H s:=I.pins_of λp hp=>I.pin p (Waw _ (Wb3 _ hp))
theorem Zh2 {iter:Expr}{body:List Stmt}{wi:TI}{g:TG}{tb:TS}{pos:Pos}(hp:PassesOwn (model X.prog X.w) X.A X.env X.xe) (hc:X.calm=true) (hi:PI X tg iter wi) (hg:PG X tg g) (hb:PSs X body tb)
  (hs:∀x,foldedSetIterable iter X.env x=pure x:=by intro _;rfl):PS X (.For tg iter body [] pos) (tFor wi g tb):=by
 intro pins s σ H D I h;refine wpAny_For (thn (hi pins s σ H _ I h) λv s1 h1=>thn h1 λitv s2 h2=>?_) hs;obtain⟨it,fp,tn,J,H2,e,I2,T,st2,f2,W,⟨m0,w0⟩,turn⟩:=h2;subst e
 -- what stays true of the iterator's objects through the loop
 have stat:∀{H':Hp},(∀b∈fp,H' b=none)->∀b∈fp,FpOk X pins H' b:=λhn b hb=>⟨hn b hb,(f2 b hb).2⟩;refine codeAny_forLoop_any (λn s'=>∃i σ' H',Inv X pins σ' H' s' /\ tn i s'.heap/\(∀b∈fp,H' b=none)/\W i n σ' H') ?_ m0 ⟨0,σ,H2,I2,st2,λb hb=>(f2 b hb).1,w0⟩;rintro n s3 ⟨i,σ3,H3,I3,st3,fr3,w3⟩;rcases turn i n σ3 H3 w3 with ⟨stop,qn⟩|⟨go,N,hN,step⟩
 ·refine wpAny_passesOwn hp (thn (T.done X rfl rfl rfl hc i pins s3 σ3 H3 X.xe I3 (stat fr3) st3 stop) λr s4 ⟨hr,I4⟩=>?_)
  subst hr;exact wpAny_execs_nil ⟨σ3,H3,I4,qn⟩
 ·refine wpAny_passesOwn hp (thn (T.item X rfl rfl rfl hc i pins s3 σ3 H3 X.xe I3 (stat fr3) st3 go) λr s4 ⟨u,hr,h4⟩=>?_)
  subst hr;refine wpAny_passesOwn hp (thn h4 λ_ s5 ⟨x,H5,I5,r5,y5,st5,fr5⟩=>?_);have I5':=I5.pinned (stat fr5) (T.obj _ _ st5);refine wpAny_passesOwn hp (thn (hg _ s5 σ3 H5 x u _ I5' r5 (step x H5 y5)) λ_ s6 ⟨σ6,H6,I6,q6⟩=>?_);refine wpAny_passesOwn hp (thn (hb _ s6 σ6 H6 _ I6 q6) λf s7 q7=>?_);have again:∀{σ7:St}{H7:Hp},Inv X (pins++pinsAt fp s5.heap) σ7 H7 s7->N σ7 H7->∃m,m<n/\∃i σ' H',Inv X pins σ' H' s7/\tn i s7.heap/\(∀b∈fp,H' b=none)/\W i m σ' H':=λ{σ7 H7} I7 n7=>by
   obtain⟨m',hm,w7⟩:=hN σ7 H7 n7;refine⟨m',hm,i+1,σ7,H7,I7.unpinned,T.keep _ _ _ st5 λb hb o e=>(I7.pin (b,o) (Waw _ (Waw _ (Zck hb e)))).1,λb hb=>?_,w7⟩;obtain⟨o,e,d⟩:=T.obj _ _ st5 b hb;exact(I7.pin (b,o) (Waw _ (Waw _ (Zck hb e)))).2.1
  cases f with
  |next=>obtain⟨σ7,H7,I7,n7⟩:=q7;exact again I7 n7
  |cont=>obtain⟨σ7,H7,I7,n7⟩:=q7;exact again I7 n7
  |brk=>obtain⟨σ7,H7,I7,q7⟩:=q7;exact⟨σ7,H7,I7.unpinned,q7⟩
  |ret v=>obtain⟨x7,σ7,H7,I7,r7,q7⟩:=q7;exact⟨x7,σ7,H7,I7.unpinned,r7,q7⟩
end
end L2
namespace L2
open PySem PySem.Spec PyProof.Rows
abbrev R2:=V->V->Hp->VK->Prop
def OpR (X:Cx) (f:Value->Value->Sem Value) (r:R2):Prop:=
 ∀(pins:List (Addr × Obj)) (s:Shared) (σ:St) (H:Hp) (x y:V) (v u:Value) (Q:VK),Inv X pins σ H s->RelV x v->RelV y u->r x y H Q →
  wpAny (model X.prog X.w) X.A (f v u) (EP X pins σ Q) X.xe s
def UnR (X:Cx) (f:Value->Sem Value) (r:V->Hp->VK->Prop):Prop:=
 ∀(pins:List (Addr × Obj)) (s:Shared) (σ:St) (H:Hp) (x:V) (v:Value) (Q:VK),Inv X pins σ H s->RelV x v->r x H Q →
  wpAny (model X.prog X.w) X.A (f v) (EP X pins σ Q) X.xe s
def CallR (X:Cx) (f:Value) (r:List V->Hp->VK->Prop):Prop:=
 ∀(pins:List (Addr × Obj)) (s:Shared) (σ:St) (H:Hp) (xs:List V) (us:List Value) (Q:VK),Inv X pins σ H s->Vals xs us->r xs H Q →
  wpAny (model X.prog X.w) X.A (call f us) (EP X pins σ Q) X.xe s
def TruR (X:Cx) (r:V->Hp->(Bool->Hp->Prop)->Prop):Prop:=
 ∀(pins:List (Addr × Obj)) (s:Shared) (σ:St) (H:Hp) (x:V) (v:Value) (Q:Bool->Hp->Prop),Inv X pins σ H s->RelV x v->r x H Q →
  wpAny (model X.prog X.w) X.A (truthy v) (TP X pins σ Q) X.xe s
def tOp (r:R2) (ta tb:TE):TE:=λσ H Q=>ta σ H λx H1=>tb σ H1 λy H2=>r x y H2 Q
def tUn (r:V->Hp->VK->Prop) (ta:TE):TE:=λσ H Q=>ta σ H λx H1=>r x H1 Q
def rI (C:Int->Int->Prop) (g:Int->Int->V):R2:=λx y H Q=>∃i j,x=.int i/\y=.int j/\C i j/\Q (g i j) H
def rI0 (g:Int->Int->V):R2:=λx y H Q=>∃i j,x=.int i/\y=.int j/\Q (g i j) H
def rU (g:Int->V):V->Hp->VK->Prop:=λx H Q=>∃i,x=.int i/\Q (g i) H
section
variable {X:Cx}{a b c:Expr}{ta tb tc:TE}{pos:Pos}
theorem binT (ha:PE X a ta) (hb:PE X b tb) {pins:List (Addr × Obj)}{s:Shared}{σ:St}{H:Hp}{R:V->V->Hp->Prop}(I:Inv X pins σ H s)
  (h:ta σ H λx H1=>tb σ H1 λy H2=>R x y H2) {Q:Value->Shared->Prop}{f:Value->Value->Sem Value}
  (hf:∀v u s2 x y H2,Inv X pins σ H2 s2->RelV x v->RelV y u->R x y H2->wpAny (model X.prog X.w) X.A (f v u) Q X.xe s2) :
  wpAny (model X.prog X.w) X.A (eval a X.env) (λv s₁=>wpAny (model X.prog X.w) X.A (eval b X.env) (λu s₂=>wpAny (model X.prog X.w) X.A (f v u) Q X.xe s₂) X.xe s₁) X.xe s:=by
 refine thn (ha pins s σ H _ I h) λv s1 ⟨x,H1,I1,r1,q1⟩=>?_;refine thn (hb pins s1 σ H1 _ I1 q1) λu s2 ⟨y,H2,I2,r2,q2⟩=>?_;exact hf v u s2 x y H2 I2 r1 r2 q2
theorem Zaq {op:Operator}{r:R2}(ho:OpR X (binaryOp op) r) (ha:PE X a ta) (hb:PE X b tb):PE X (.BinOp a op b pos) (tOp r ta tb):=by
 intro pins s σ H Q I h;exact wpAny_BinOp (binT ha hb I h λv u s2 x y H2 I2 rx ry q=>ho pins s2 σ H2 x y v u Q I2 rx ry q)
theorem Ztv {op:UnaryOp}{r:V->Hp->VK->Prop}(ho:UnR X (unaryOp op) r) (ha:PE X a ta):PE X (.UnaryOp op a pos) (tUn r ta):=by
 intro pins s σ H Q I h;exact UnaryOp_ (thn (ha pins s σ H _ I h) λv s1 ⟨x,H1,I1,r1,q1⟩=>ho pins s1 σ H1 x v Q I1 r1 q1)
theorem opI {f:Value->Value->Sem Value}{C:Int->Int->Prop}{g:Int->Int->Int}
  (rule:∀(i j:Int) (t u:Tok) (s:Shared) (Q:Value->Shared->Prop) (E:Value->Shared->Prop),C i j->Q (.int (g i j) s.toks) { s with toks:=s.toks+1 } -> wpAny (model X.prog X.w) X.A (f (.int i t) (.int j u)) Q E s) :
  OpR X f (rI C λi j=>.int (g i j)):=by
 intro pins s σ H x y v u Q I rx ry h;obtain⟨i,j,rfl,rfl,hc,q⟩:=h;obtain⟨t,rfl⟩:=rx;obtain⟨t',rfl⟩:=ry;exact rule i j t t' s _ _ hc ⟨.int (g i j),H,I.tok _,⟨_,rfl⟩,q⟩
theorem opI0 {f:Value->Value->Sem Value}{g:Int->Int->Int}
  (rule:∀(i j:Int) (t u:Tok) (s:Shared) (Q:Value->Shared->Prop) (E:Value->Shared->Prop),Q (.int (g i j) s.toks) { s with toks:=s.toks+1 } -> wpAny (model X.prog X.w) X.A (f (.int i t) (.int j u)) Q E s) :
  OpR X f (rI0 λi j=>.int (g i j)):=by
 intro pins s σ H x y v u Q I rx ry h;obtain⟨i,j,rfl,rfl,q⟩:=h;obtain⟨t,rfl⟩:=rx;obtain⟨t',rfl⟩:=ry;exact rule i j t t' s _ _ ⟨.int (g i j),H,I.tok _,⟨_,rfl⟩,q⟩
theorem opB0 {f:Value->Value->Sem Value}{g:Int->Int->Bool}
  (rule:∀(i j:Int) (t u:Tok) (s:Shared) (Q:Value->Shared->Prop) (E:Value->Shared->Prop),Q (.bool (g i j)) s->wpAny (model X.prog X.w) X.A (f (.int i t) (.int j u)) Q E s) :
  OpR X f (rI0 λi j=>.bl (g i j)):=by
 intro pins s σ H x y v u Q I rx ry h;obtain⟨i,j,rfl,rfl,q⟩:=h;obtain⟨t,rfl⟩:=rx;obtain⟨t',rfl⟩:=ry;exact rule i j t t' s _ _ ⟨.bl (g i j),H,I,rfl,q⟩
def CDiv (i j:Int):Prop:=0<j/\j<1073741824
def CPow (i j:Int):Prop:=0<=j/\j<=1000000/\i.natAbs<2 ^ 64
def CMul (i j:Int):Prop:=(-(2 ^ 64)<i/\i<2 ^ 64)\/(-(2 ^ 64)<j/\j<2 ^ 64)
theorem CMul.ok {i j:Int}(h:CMul i j):IntMulOk i j:=by
 rcases h with ⟨h1,h2⟩|⟨h1,h2⟩
 ·exact .of_left (intBits_le_64 h1 h2)
 ·exact .of_right (intBits_le_64 h1 h2)
theorem Zsm:OpR X (binaryOp .Add) (rI0 λi j=>.int (i+j)):=opI0 λ_ _ _ _ _ _ _ q=>add_int q
theorem Zf6:OpR X (binaryOp .Sub) (rI0 λi j=>.int (i-j)):=opI0 λ_ _ _ _ _ _ _ q=>sub_int q
theorem Zd6:OpR X (binaryOp .Mult) (rI CMul λi j=>.int (i*j)):=opI λ_ _ _ _ _ _ _ hc q=>mul_int q hc.ok
theorem Zi0:OpR X (binaryOp .FloorDiv) (rI CDiv λi j=>.int (i / j)):=opI λi j _ _ _ _ _ hc q=>by
 have h1:(0:Int)<j:=hc.1;have h2:j<1073741824:=hc.2;exact floordiv_int (by omega) (by rw[Int.fdiv_eq_ediv_of_nonneg i (by omega)];exact q) (.inl (PyProof.noPylong_small (by omega)))
theorem Zcj:OpR X (binaryOp .Mod) (rI (λ_ j=>0<j) λi j=>.int (i % j)):=opI λi j _ _ _ _ _ hc q=>by
 have h1:(0:Int)<j:=hc;exact mod_int' (by omega) (by rw[Int.fmod_eq_emod_of_nonneg i (by omega)];exact q)
theorem Zma:OpR X (binaryOp .Pow) (rI CPow λi j=>.int (i ^ j.toNat)):=opI λ_ _ _ _ _ _ _ hc q=>pow_int_small hc.1 hc.2.1 hc.2.2 q
theorem unI {f:Value->Sem Value}{g:Int->Int}
  (rule:∀(i:Int) (t:Tok) (s:Shared) (Q:Value->Shared->Prop) (E:Value->Shared->Prop),Q (.int (g i) s.toks) { s with toks:=s.toks+1 } -> wpAny (model X.prog X.w) X.A (f (.int i t)) Q E s) :
  UnR X f (rU λi=>.int (g i)):=by
 intro pins s σ H x v Q I rx h;obtain⟨i,rfl,q⟩:=h;obtain⟨t,rfl⟩:=rx;exact rule i t s _ _ ⟨.int (g i),H,I.tok _,⟨_,rfl⟩,q⟩
theorem Zrg:UnR X (unaryOp .USub) (rU λi=>.int (-i)):=unI λ_ _ _ _ _ q=>neg_int q
end
def scal:V->V->Bool
 |.non,.non=>true|.non,.int _=>true|.int _,.non=>true|.non,.bl _=>true|.bl _,.non=>true|.non,.str _=>true|.str _,.non=>true
 |.int _,.int _=>true|.bl _,.bl _=>true|.str _,.str _=>true|.byt _,.byt _=>true
 |.int _,.str _=>true|.str _,.int _=>true|.bl _,.str _=>true|.str _,.bl _=>true
 |_,_=>false
def rEq:R2:=λx y H Q=>scal x y=true/\Q (.bl (decide (x=y))) H
def rNe:R2:=λx y H Q=>scal x y=true/\Q (.bl (!decide (x=y))) H
theorem Zgq {i j:Int}:decide (V.int i=V.int j)=(i == j):=by
 rw[Wch];simp
theorem Zpa {i j:Bool}:decide (V.bl i=V.bl j)=(i == j):=by
 rw[Wch];simp
theorem Zld {i j:Str}:decide (V.str i=V.str j)=(i == j):=by
 rw[Wch];simp
theorem Zm2 {i j:Array UInt8}:decide (V.byt i=V.byt j)=(i.toList == j.toList):=by
 rw[Wch];cases i;cases j;simp
section
variable {X:Cx}{a b c:Expr}{ta tb tc:TE}{pos:Pos}
theorem Zbi {pins:List (Addr × Obj)}{σ:St}{H:Hp}{s:Shared}{Q:VK}{k k':Bool}(I:Inv X pins σ H s) (q:Q (.bl k) H) (e:k=k'):EP X pins σ Q (.bool k') s:=by
 subst e;exact⟨.bl k,H,I,rfl,q⟩
theorem Ztt:OpR X (compareOp .Eq) rEq:=by
 intro pins s σ H x y v u Q I rx ry h;obtain⟨hs,q⟩:=h;cases x with
 |non=>
  cases rx;cases y with
  |non=>cases ry;exact PySem.EqNone.eq_none_none (Zbi I q (by simp))
  |bl j=>cases ry;exact PySem.EqNone.eq_none_bool (Zbi I q (by simp))
  |int j=>obtain⟨t',rfl⟩:=ry;exact PySem.EqNone.eq_none_int (Zbi I q (by simp))
  |str j=>obtain⟨t',rfl⟩:=ry;exact PySem.EqNone.eq_none_str (Zbi I q (by simp))
  |_=>exact absurd (show false=true from hs) Wan
 |bl i=>
  cases rx;cases y with
  |non=>cases ry;exact PySem.EqNone.eq_bool_none (Zbi I q (by simp))
  |bl j=>cases ry;exact eq_bool (Zbi I q Zpa)
  |str j=>obtain⟨t',rfl⟩:=ry;exact PySem.EqMixed.eq_bool_str (Zbi I q (by simp))
  |_=>exact absurd (show false=true from hs) Wan
 |int i=>
  obtain⟨t,rfl⟩:=rx;cases y with
  |non=>cases ry;exact PySem.EqNone.eq_int_none (Zbi I q (by simp))
  |int j=>obtain⟨t',rfl⟩:=ry;exact eq_int (Zbi I q Zgq)
  |str j=>obtain⟨t',rfl⟩:=ry;exact PySem.EqMixed.eq_int_str (Zbi I q (by simp))
  |_=>exact absurd (show false=true from hs) Wan
 |str i=>
  obtain⟨t,rfl⟩:=rx;cases y with
  |non=>cases ry;exact PySem.EqNone.eq_str_none (Zbi I q (by simp))
  |bl j=>cases ry;exact PySem.EqMixed.eq_str_bool (Zbi I q (by simp))
  |int j=>obtain⟨t',rfl⟩:=ry;exact PySem.EqMixed.eq_str_int (Zbi I q (by simp))
  |str j=>obtain⟨t',rfl⟩:=ry;exact eq_str (Zbi I q Zld)
  |_=>exact absurd (show false=true from hs) Wan
 |byt i=>
  obtain⟨t,rfl⟩:=rx;cases y with
  |byt j=>obtain⟨t',rfl⟩:=ry;exact PySem.W.eq_bytes (Zbi I q Zm2)
  |_=>exact absurd (show false=true from hs) Wan
 |_=>cases y <;> exact absurd (show false=true from hs) Wan
theorem Zt0:OpR X (compareOp .NotEq) rNe:=by
 intro pins s σ H x y v u Q I rx ry h;obtain⟨hs,q⟩:=h;cases x with
 |non=>
  cases rx;cases y with
  |non=>cases ry;exact PySem.EqNone.ne_none_none (Zbi I q (by simp))
  |bl j=>cases ry;exact PySem.EqNone.ne_none_bool (Zbi I q (by simp))
  |int j=>obtain⟨t',rfl⟩:=ry;exact PySem.EqNone.ne_none_int (Zbi I q (by simp))
  |str j=>obtain⟨t',rfl⟩:=ry;exact PySem.EqNone.ne_none_str (Zbi I q (by simp))
  |_=>exact absurd (show false=true from hs) Wan
 |bl i=>
  cases rx;cases y with
  |non=>cases ry;exact PySem.EqNone.ne_bool_none (Zbi I q (by simp))
  |bl j=>cases ry;exact ne_bool (Zbi I q (congrArg not Zpa))
  |str j=>obtain⟨t',rfl⟩:=ry;exact PySem.EqMixed.ne_bool_str (Zbi I q (by simp))
  |_=>exact absurd (show false=true from hs) Wan
 |int i=>
  obtain⟨t,rfl⟩:=rx;cases y with
  |non=>cases ry;exact PySem.EqNone.ne_int_none (Zbi I q (by simp))
  |int j=>obtain⟨t',rfl⟩:=ry;exact ne_int (Zbi I q (congrArg not Zgq))
  |str j=>obtain⟨t',rfl⟩:=ry;exact PySem.EqMixed.ne_int_str (Zbi I q (by simp))
  |_=>exact absurd (show false=true from hs) Wan
 |str i=>
  obtain⟨t,rfl⟩:=rx;cases y with
  |non=>cases ry;exact PySem.EqNone.ne_str_none (Zbi I q (by simp))
  |bl j=>cases ry;exact PySem.EqMixed.ne_str_bool (Zbi I q (by simp))
  |int j=>obtain⟨t',rfl⟩:=ry;exact PySem.EqMixed.ne_str_int (Zbi I q (by simp))
  |str j=>obtain⟨t',rfl⟩:=ry;exact ne_str (Zbi I q (congrArg not Zld))
  |_=>exact absurd (show false=true from hs) Wan
 |byt i=>
  obtain⟨t,rfl⟩:=rx;cases y with
  |byt j=>obtain⟨t',rfl⟩:=ry;exact PySem.W.ne_bytes (Zbi I q (congrArg not Zm2))
  |_=>exact absurd (show false=true from hs) Wan
 |_=>cases y <;> exact absurd (show false=true from hs) Wan
theorem Zqx:OpR X (compareOp .Lt) (rI0 λi j=>.bl (decide (i<j))):=opB0 λ_ _ _ _ _ _ _ q=>lt_int q
theorem Zm8:OpR X (compareOp .Gt) (rI0 λi j=>.bl (decide (j<i))):=opB0 λ_ _ _ _ _ _ _ q=>gt_int q
theorem Zty:OpR X (compareOp .GtE) (rI0 λi j=>.bl (decide (j<=i))):=opB0 λ_ _ _ _ _ _ _ q=>ge_int q
theorem OpR.or {f:Value->Value->Sem Value}{r r':R2}(h:OpR X f r) (h':OpR X f r'):OpR X f (λx y H Q=>r x y H Q\/r' x y H Q):=by
 intro pins s σ H x y v u Q I rx ry q;rcases q with q|q
 ·exact h pins s σ H x y v u Q I rx ry q
 ·exact h' pins s σ H x y v u Q I rx ry q
theorem nomark (b:Expr) {op:CmpOp}(h:op≠.In:=by decide) (h2:op≠.NotIn:=by decide):behindInMarks op b=false:=by
 have e1:(op == CmpOp.In)=false:=by cases op <;> first|rfl|exact absurd rfl h
 have e2:(op == CmpOp.NotIn)=false:=by cases op <;> first|rfl|exact absurd rfl h2
 cases b <;> simp[behindInMarks,e1,e2]
theorem Zia {op:CmpOp}{r:R2}(ho:OpR X (compareOp op) r) (ha:PE X a ta) (hb:PE X b tb) (hm:behindInMarks op b=false):PE X (.Compare a [op] [b] pos) (tOp r ta tb):=by
 intro pins s σ H Q I h;exact wpAny_Compare1 (binT ha hb I h λv u s2 x y H2 I2 rx ry q=>ho pins s2 σ H2 x y v u Q I2 rx ry q) hm
def tTest (t:TE):TT:=λσ H Q=>t σ H λx H'=>∃k,x=.bl k/\Q k H'
theorem Zaz {op:CmpOp}{r:R2}(ho:OpR X (compareOp op) r) (ha:PE X a ta) (hb:PE X b tb) (hm:behindInMarks op b=false):PT X (.Compare a [op] [b] pos) (tTest (tOp r ta tb)):=by
 intro pins s σ H Q I h;refine wpAny_isTrue_Compare1 (thn (ha pins s σ H _ I h) λv s1 ⟨x,H1,I1,r1,q1⟩=>thn (hb pins s1 σ H1 _ I1 q1) λu s2 ⟨y,H2,I2,r2,q2⟩=>
  thn (ho pins s2 σ H2 x y v u _ I2 r1 r2 q2) λc s3 ⟨z,H3,I3,r3,k,e,q3⟩=>?_) hm
 subst e;cases r3;exact wpAny_truthy_bool ⟨H3,I3,q3⟩
def TruV (K:W.Frag) (x:V) (H:Hp) (k:Bool):Prop:=
 match x with
 |.non=>k=false
 |.bl b=>k=b
 |.int i=>k=(i != 0)
 |.str y=>y.length<=sizeLine/\k=((y.length:Int) != 0)
 |.byt y=>y.size<=sizeLine/\k=((y.size:Int) != 0)
 |.ref p=>(∃xs,SqL K H p xs/\k = !xs.isEmpty)\/(∃xs,SqT K H p xs/\k = !xs.isEmpty)\/∃kvs,H p=some (.dK kvs)/\k = !kvs.isEmpty
 |_=>False
theorem Zj4 {κ:Type}{kvs:List (κ × V)}{vs:List (κ × Value)}(r:KV kvs vs):(!vs.isEmpty) = !kvs.isEmpty:=by
 cases r <;> rfl
theorem Zfw {xs:List V}{its:List Value}(r:Vals xs its):(!its.toArray.isEmpty) = !xs.isEmpty:=by
 cases r <;> simp
theorem line63:(sizeLine:Nat)<2 ^ 63:=by rw[sizeLine_eq];decide
theorem Zs7:TruR X (λx H Q=>∃k,TruV X.K x H k/\Q k H):=by
 intro pins s σ H x v Q I rx h;obtain⟨k,e,q⟩:=h;have hl:=line63;have hs:sizeLine=16777216:=sizeLine_eq;cases x with
 |non=>
  cases rx;have e':k=false:=e;subst e';exact truthy_none ⟨H,I,q⟩
 |bl b=>
  cases rx;have e':k=b:=e;subst e';exact wpAny_truthy_bool ⟨H,I,q⟩
 |int i=>
  obtain⟨t,rfl⟩:=rx;have e':k=(i != 0):=e;subst e';exact PySem.P.truthy_int ⟨H,I,q⟩
 |str y=>
  obtain⟨t,rfl⟩:=rx;obtain⟨hy,e'⟩:y.length<=sizeLine/\k=((y.length:Int) != 0):=e;subst e';exact PySem.P.truthy_str (by omega) ⟨H,I.tok _,q⟩
 |byt y=>
  obtain⟨t,rfl⟩:=rx;obtain⟨hy,e'⟩:y.size<=sizeLine/\k=((y.size:Int) != 0):=e;subst e';exact PySem.W.truthy_bytes (by omega) ⟨H,I.tok _,q⟩
 |ref p=>
  cases rx;have e':(∃xs,SqL X.K H p xs/\k = !xs.isEmpty)\/(∃xs,SqT X.K H p xs/\k = !xs.isEmpty)\/∃kvs,H p=some (.dK kvs)/\k = !kvs.isEmpty:=e;rcases e' with ⟨xs,hx,e'⟩|⟨xs,hx,e'⟩|⟨kvs,hx,e'⟩
  ·subst e'
   obtain⟨its,r,pl,hz⟩:=I.list hx;have hlen:=r.length;exact wpAny_truthy_list pl.isList (by simp only[Waf];omega) ⟨H,I.tok _,by rw[Zfw r];exact q⟩
  ·subst e'
   obtain⟨its,r,pl,hz⟩:=I.tuple hx;have hlen:=r.length;exact truthy_tuple pl (by simp only[Waf];omega) ⟨H,I.tok _,by rw[Zfw r];exact q⟩
  ·subst e'
   obtain⟨hz,hS,vs,r,m⟩:kvs.length<=sizeLine/\(p == sysModules)=false/\∃vs,KV kvs vs/\s.heap.DictOf (mixKind X.prog X.w) p vs:=I.hok p _ hx;have hlen:kvs.length=vs.length:=Paired.length r;exact wpAny_truthy_dict hS m (by omega) ⟨H,I.tok _,by rw[Zj4 r];exact q⟩
 |_=>exact(show False from e).elim
theorem Zno (ha:PE X a ta) (he:∀whole,isTrue a X.env whole=(do let v ← whole;standAt a.pos;holding [v] (truthy v))) :
  PT X a (λσ H Q=>ta σ H λx H'=>∃k,TruV X.K x H' k/\Q k H'):=by
 intro pins s σ H Q I h;exact isTrue_plain (thn (ha pins s σ H _ I h) λv s1 ⟨x,H1,I1,r1,q1⟩=>Zs7 pins s1 σ H1 x v Q I1 r1 q1) (he _)
theorem vals1 {x:V}{us:List Value}(r:Vals [x] us):∃u,us=[u]/\RelV x u:=by
 cases r with
 |cons r1 r2=>cases r2;exact⟨_,rfl,r1⟩
theorem vals2 {x y:V}{us:List Value}(r:Vals [x,y] us):∃u w',us=[u,w']/\RelV x u/\RelV y w':=by
 cases r with
 |cons r1 r2=>
  cases r2 with
  |cons r3 r4=>cases r4;exact⟨_,_,rfl,r1,r3⟩
theorem Zgf:CallR X (.builtin "abs") (λxs H Q=>∃i,xs=[.int i]/\Q (.int (if i<0 then -i else i)) H):=by
 intro pins s σ H xs us Q I r h;obtain⟨i,rfl,q⟩:=h;obtain⟨u,rfl,t,rfl⟩:=vals1 r;exact call_abs_int λu tk=>⟨.int (if i<0 then -i else i),H,I.tok _,⟨_,rfl⟩,q⟩
theorem Zhm (hc:X.calm=true):CallR X (.builtin "max") (λxs H Q=>∃i j,xs=[.int i,.int j]/\Q (.int (if j > i then j else i)) H):=by
 intro pins s σ H xs us Q I r h;obtain⟨i,j,rfl,q⟩:=h;obtain⟨u,w',rfl,⟨t,rfl⟩,⟨t',rfl⟩⟩:=vals2 r;refine max_two_ints (I.ok.hd hc) λh' tk k=>⟨_,H,I.kept k,?_,q⟩;by_cases hj:j > i
 ·rw[if_pos hj,if_pos hj];exact⟨_,rfl⟩
 ·rw[if_neg hj,if_neg hj];exact⟨_,rfl⟩
theorem Zhe (hc:X.calm=true):CallR X (.builtin "min") (λxs H Q=>∃i j,xs=[.int i,.int j]/\Q (.int (if j<i then j else i)) H):=by
 intro pins s σ H xs us Q I r h;obtain⟨i,j,rfl,q⟩:=h;obtain⟨u,w',rfl,⟨t,rfl⟩,⟨t',rfl⟩⟩:=vals2 r;refine min_two_ints (I.ok.hd hc) λh' tk k=>⟨_,H,I.kept k,?_,q⟩;by_cases hj:j<i
 ·rw[if_pos hj,if_pos hj];exact⟨_,rfl⟩
 ·rw[if_neg hj,if_neg hj];exact⟨_,rfl⟩
end
end L2
namespace L2
open PySem PySem.Spec PyProof.Rows
structure ObjM (h:Heap) (x dx C:Addr) (mA:Str->Option Value):Prop where
 obj:h.get? x=some (PySem.W.instObj C dx)
 ns:h.Ns1 dx mA
 ne:dx≠x
theorem Zlm {h:Heap}{dx:Addr}{mA:Str->Option Value}(n:h.Ns1 dx mA):∃od,h.get? dx=some od/\∀name,PySem.W.lookIn name od=some (mA name):=by
 obtain⟨o,es,ep,ho,hd,hk,_,hm⟩:=n;refine⟨o,ho,λname=>?_⟩;have e:=hm name;unfold nsFind findBy at e;rw[<- Array.find?_toList]at e;unfold PySem.W.lookIn;rw[hd];dsimp only;split
 ·rename_i y q
  rw[q]at e;exact congrArg some e
 ·rename_i q
  rw[q]at e;have a:es.toList.any (·.refKey)=false:=by
   rw[List.any_eq_false];intro y hy;obtain⟨z,t,hkey⟩:=hk y (Array.mem_toList_iff.mp hy);simp[DictEntry.refKey,hkey]
  have a':¬ es.toList.any (·.refKey)=true:=by rw[a];exact Wan
  rw[if_neg a'];exact congrArg some e
theorem ObjM.look {h:Heap}{x dx C:Addr}{mA:Str->Option Value}(I:ObjM h x dx C mA):∃od,PySem.W.InstAt h x (PySem.W.instObj C dx) C (some od)/\∀name,PySem.W.lookIn name od=some (mA name):=
 let ⟨od,ho,hl⟩:=Zlm I.ns
 ⟨od,⟨I.obj,rfl,rfl,ho⟩,hl⟩
theorem RelO.some_of {v:V}{o:Option Value}(r:RelO (some v) o):∃u,o=some u/\RelV v u:=by
 cases o with
 |none=>exact(show False from r).elim
 |some u=>exact⟨u,rfl,r⟩
section
variable {P:Program}{w:World}{H H':Hp}{h h':Heap}{a C dx:Addr}{fs fs':List (Str × V)}
theorem Zpr (hok:HOk P w H h) (e:H a=some (.ins C dx fs)):∃mA,ObjM h a dx C mA/\(∀f,RelO (fs.lookup f) (mA f))/\PySem.Within mA (fs.map (·.1))/\fs.length<=1000/\H dx=some (.own a):=by
 obtain⟨d,z,ne,ob,mA,n,r,q⟩:=(show ObjOk P w H h a (.ins C dx fs) from hok a _ e);exact⟨mA,⟨ob,n,ne⟩,r,q,z,d⟩
end
structure Cls (K:W.Frag) (C:Addr):Prop where
 pg:PySem.W.plainGet K C Str.empty=true
 hd:PySem.W.hasDictIn K C=true
 po:PySem.W.plainOver K C=true
 sa:PySem.W.findIn K (.ref C) "__setattr__" = some (some (.builtin "object.__setattr__"))
theorem Cls.get {K:W.Frag}{C:Addr}(c:Cls K C) (f:Str):PySem.W.plainGet K C f=true:=c.pg
section
variable {X:Cx}{pins:List (Addr × Obj)}{σ:St}{H:Hp}{s:Shared}{a C dx:Addr}{fs:List (Str × V)}{f:Str}{v:V}{A:Around}{E:Value->Shared->Prop}
end
section
variable {X:Cx}{pins:List (Addr × Obj)}{σ:St}{H:Hp}{s:Shared}{A:Around}{E:Value->Shared->Prop}{Q:Value->Shared->Prop}{c:Value}{b:Bool}
inductive TyOf (K:W.Frag) (H:Hp):V->Value->Prop where
 |non:TyOf K H .non (.type "NoneType")
 |bl (x:Bool):TyOf K H (.bl x) (.type "bool")
 |int (i:Int):TyOf K H (.int i) (.type "int")
 |str (x:Str):TyOf K H (.str x) (.type "str")
 |flt (x:UInt64):TyOf K H (.flt x) (.type "float")
 |lst {a:Addr}{xs:List V}(e:H a=some (.lst xs)):TyOf K H (.ref a) (.type "list")
 |frz {a:Addr}{o:Obj}{xs:List V}(e:H a=some (.frz o (.lst xs))):TyOf K H (.ref a) (.type "list")
 |tup {a:Addr}{xs:List V}(e:H a=some (.tup xs)):TyOf K H (.ref a) (.type "tuple")
 |dK {a:Addr}{kvs:List (Key × V)}(e:H a=some (.dK kvs)):TyOf K H (.ref a) (.type "dict")
 |dT {a:Addr}{kvs:List (List Key × V)}(e:H a=some (.dT kvs)):TyOf K H (.ref a) (.type "dict")
 |ins {a C dx:Addr}{fs:List (Str × V)}(e:H a=some (.ins C dx fs)) (cl:Cls K C) (ha:PySem.W.findIn K (.ref C) "__class__" = some (some (.builtin "object.__class__")))
   (hn:PySem.W.specialIn K (.builtin "object.__class__") "__get__" = some (some (.builtin "getset_descriptor.__get__"))) (htk:PySem.W.takesIn K (.builtin "object.__class__")=some true)
   (hm:PySem.W.mroIn K C (.type "object")=some true):TyOf K H (.ref a) (.ref C)
theorem Zky {x:V}{u t:Value}(I:Inv X pins σ H s) (rx:RelV x u) (ty:TyOf X.K H x t) (e:PySem.W.kitOne X.K t c=some b) (h:∀tk,Q (.bool b) { s with toks:=tk }) :
  wpAny (model X.prog X.w) A (call (.builtin "isinstance") [u,c]) Q E s:=by
 cases ty with
 |non=>cases (show u=Value.none from rx);exact PySem.W.kia_one PySem.W.kitx_none I.kIn True.intro e (λz=>nomatch z) h
 |bl y=>cases (show u=Value.bool y from rx);exact PySem.W.kia_one PySem.W.kitx_bool I.kIn True.intro e (λz=>nomatch z) h
 |int i=>obtain⟨t,q⟩:=(show ∃t,u=Value.int i t from rx);cases q;exact PySem.W.kia_one PySem.W.kitx_int I.kIn True.intro e (λz=>nomatch z) h
 |str y=>obtain⟨t,q⟩:=(show ∃t,u=Value.str y t from rx);cases q;exact PySem.W.kia_one PySem.W.kitx_str I.kIn True.intro e (λz=>nomatch z) h
 |flt y=>obtain⟨t,q⟩:=(show ∃t,u=Value.float y t from rx);cases q;exact PySem.W.kia_one PySem.W.kitx_float I.kIn True.intro e (λz=>nomatch z) h
 |@lst a xs ea=>
  cases (show u=Value.ref a from rx);obtain⟨_,_,n,_,h1⟩:=(show ObjOk X.prog X.w H s.heap a (.lst xs) from I.hok a _ ea);exact PySem.W.kia_one PySem.W.kitx_list I.kIn ⟨_,h1,rfl⟩ e (λz=>nomatch z) h
 |@frz a ob xs ea=>
  cases (show u=Value.ref a from rx);obtain⟨_,_,_,n,_,h1⟩:=(show ObjOk X.prog X.w H s.heap a (.frz ob (.lst xs)) from I.hok a _ ea);exact PySem.W.kia_one PySem.W.kitx_list I.kIn ⟨_,h1,rfl⟩ e (λz=>nomatch z) h
 |@tup a xs ea=>
  cases (show u=Value.ref a from rx);obtain⟨_,_,_,p⟩:=(show ObjOk X.prog X.w H s.heap a (.tup xs) from I.hok a _ ea);obtain⟨o,h1,⟨h2,_⟩,_⟩:=p;exact PySem.W.kia_one PySem.W.kitx_tuple I.kIn ⟨o,h1,h2⟩ e (λz=>nomatch z) h
 |@dK a kvs ea=>
  cases (show u=Value.ref a from rx);obtain⟨_,_,vs,_,p⟩:=(show ObjOk X.prog X.w H s.heap a (.dK kvs) from I.hok a _ ea);obtain⟨o,es,ep,h1,h2,_⟩:=p;exact PySem.W.kia_one PySem.W.kitx_dict I.kIn ⟨o,h1,h2.1⟩ e (λz=>nomatch z) h
 |@dT a kvs ea=>
  cases (show u=Value.ref a from rx);obtain⟨_,_,xs,_,o,es,ep,h1,h2,_⟩:=(show ObjOk X.prog X.w H s.heap a (.dT kvs) from I.hok a _ ea);exact PySem.W.kia_one PySem.W.kitx_dict I.kIn ⟨o,h1,h2.1⟩ e (λz=>nomatch z) h
 |@ins a C dx fs ea cl ha hn htk hm=>
  cases (show u=Value.ref a from rx);obtain⟨mA,O,_⟩:=Zpr I.hok ea;obtain⟨od,J,_⟩:=O.look;exact PySem.W.kia_one (PySem.W.kitx_own (cl.get _) cl.hd ha hn htk hm) I.kIn J e (λz=>nomatch z) h
end
end L2
namespace L2
open PySem PySem.Spec PyProof.Rows
structure Room (k:Nat) (A:Around):Prop where
 hd:A.handled=none
 dp:A.depth+3*k+5<recursionLimit
 un:A.units+16*k+200<cLine
 gd:A.guards=some []
theorem Room.mono {j k:Nat}{A:Around}(r:Room k A) (h:j<=k):Room j A:=⟨r.hd,by have:=r.dp;omega,by have:=r.un;omega,r.gd⟩
theorem Room.deeper {k:Nat}{A:Around}(r:Room (k+1) A) (env:Env):Room k (A.deeper env):=
 ⟨r.hd,by have:=r.dp;show A.depth+1+3*k+5<_;omega,by have:=r.un;show A.units+3+16*k+200<_;omega,r.gd⟩
theorem Room.depth {k:Nat}{A:Around}(r:Room k A):A.depth<recursionLimit:=by have:=r.dp;omega
theorem Room.units {k:Nat}{A:Around}(r:Room k A):A.units+64<cLine:=by have:=r.un;omega
def tNil:TA:=λ_ H Q=>Q [] H
def tCons (ta:TE) (tr:TA):TA:=λσ H Q=>ta σ H λx H1=>tr σ H1 λxs H2=>Q (x::xs) H2
section
variable {X:Cx}{e:Expr}{es:List Expr}{te:TE}{t:TA}{pos:Pos}
theorem Zac:PA X [] tNil:=λ_ _ _ _ H Q I h=>Calls.spliced_nil ⟨[],H,I,.nil,h⟩
theorem Zaa (ha:PE X e te) (hr:PA X es t) (hs:starEach (e::es) X.env=(false,eval e X.env)::starEach es X.env:=by rfl):PA X (e::es) (tCons te t):=by
 intro pos pins s σ H Q I h;rw[hs];show wpAny _ _ (spliced ((false,eval e X.env)::backTo pos (starEach es X.env))) _ _ s;refine Calls.spliced_cons (thn (ha pins s σ H _ I h) λu s1 ⟨x,H1,I1,r1,q1⟩=>?_);exact thn (hr pos pins s1 σ H1 _ I1 q1) λus s2 ⟨xs,H2,I2,r2,q2⟩=>⟨x::xs,H2,I2,.cons r1 r2,q2⟩
def tTup (t:TA):TE:=λσ H Q=>t σ H λxs H1=>xs.length<=sizeLine/\∀p,H1 p=none->Q (.ref p) (upd H1 p (.tup xs))
def tLst (t:TA):TE:=λσ H Q=>t σ H λxs H1=>xs.length<=sizeLine/\∀p,H1 p=none->Q (.ref p) (upd H1 p (.lst xs))
theorem Zax {x1} (h:PA X es t):PE X (.Tuple es x1 pos) (tTup t):=by
 intro pins s σ H Q I hq;refine wpAny_Tuple_spliced (thn (h pos pins s σ H _ I hq) λus s1 ⟨xs,H1,I1,r,z,q⟩=>⟨by rw[<- r.length];exact z,?_⟩);have hf:H1 s1.heap.objs.size=none:=I1.hok.fresh (Wak _);refine⟨.ref s1.heap.objs.size,upd H1 s1.heap.objs.size (.tup xs),I1.laid (t':=s1.toks) (λb u e=>Wac _ e) (Wak _) ?_,rfl,q _ hf⟩;exact⟨z,us,r,⟨_,Wal _ rfl,⟨rfl,_,rfl⟩,rfl⟩⟩
theorem Zbr (h:PA X es t):PE X (.List es pos) (tLst t):=by
 intro pins s σ H Q I hq;refine wpAny_List_spliced (thn (h pos pins s σ H _ I hq) λus s1 ⟨xs,H1,I1,r,z,q⟩=>⟨by rw[<- r.length];exact z,?_⟩);have hf:H1 s1.heap.objs.size=none:=I1.hok.fresh (Wak _);refine⟨.ref s1.heap.objs.size,upd H1 s1.heap.objs.size (.lst xs),I1.laid (t':=s1.toks) (λb u e=>Wac _ e) (Wak _) ?_,rfl,q _ hf⟩;exact⟨z,us,0,r,Wal _ rfl⟩
end
abbrev Sp:=List V->Hp->VK->XK->Prop
abbrev CXT:=List Env->Hp->Shared->XK->Value->Shared->Prop
structure Env0 (P:Program) (w:World) (K:W.Frag) (mg:Str->Option Value) (base:Heap) (A:Around) (outer:List Env) (s:Shared) (H:Hp):Prop where
 frames:A.frames=some outer
 mod:Mod K mg base
 bs:∀b o,base.get? b=some o->s.heap.get? b=some o/\H b=none
 bsz:base.objs.size<=s.heap.objs.size
 funs:s.heap.FunFrames base outer
 frf:∀b∈frs outer,H b=none
 hok:HOk P w H s.heap
 bare:AllBare s.gens
def CE (outer:List Env) (P:Program) (w:World) (H:Hp) (s:Shared) (Q:VK) (u:Value) (s':Shared):Prop:=
 ∃v H',s'.os=s.os/\AllBare s'.gens/\Un (frs outer) [] H H' s.heap s'.heap/\HOk P w H' s'.heap/\RelV v u/\Q v H'
def CR (CX:CXT) (outer:List Env) (P:Program) (w:World) (H:Hp) (s:Shared) (Q:VK) (E:XK) (r:Result) (s':Shared):Prop:=
 match r with
 |.ok (.ret u)=>CE outer P w H s Q u s'
 |.ok _=>False
 |.error e=>CX outer H s E e s'
structure FnOk (P:Program) (w:World) (K:W.Frag) (mg:Str->Option Value) (base:Heap) (CX:CXT) (k:Nat) (f:Addr) (fd:FuncData) (ps:List Str) (sp:Sp):Prop where
 len:∀vs H Q E,sp vs H Q E->vs.length=ps.length
 run:∀(A:Around) (outer:List Env) (s:Shared) (H:Hp) (args:Args) (us:List Value) (vs:List V) (Q:VK) (E:XK),Room k A->Env0 P w K mg base A outer s H->BindsTo s fd args (ps.zip us)->Vals vs us->sp vs H Q E →
  codeAny (model P w) A (.call (.ref f) args) (CR CX outer P w H s Q E) s
section
variable {X:Cx}{pins:List (Addr × Obj)}{σ:St}{H:Hp}{s s':Shared}
theorem Inv.env0 (I:Inv X pins σ H s):Env0 X.prog X.w X.K X.mg X.base X.A X.stack s H:=
 ⟨I.ok.frames,I.ok.mod,I.bs,Wat I.ok.bsz I.sz,I.stack,I.stkFree,I.hok,I.bare⟩
theorem Inv.after {Q:VK}{u:Value}(I:Inv X pins σ H s) (h:CE X.stack X.prog X.w H s Q u s'):EP X pins σ Q u s':=by
 obtain⟨v,H',os,bare,un,hok,r,q⟩:=h;obtain⟨hh,g,d,t,os'⟩:=s';obtain rfl:os'=s.os:=os;exact⟨v,H',I.call (h':=hh) (g':=g) (d':=d) (t':=t) (ch:=[]) un hok bare (λb z=>absurd z (by simp)),r,q⟩
end
def tCall (sp:Sp) (dvs:List V) (E:XK) (t:TA):TE:=λσ H Q=>t σ H λvs H1=>sp (vs++dvs) H1 Q E
def Binds (K:W.Frag) (fd:FuncData) (ps:List Str) (ds:List Value):Prop:=
 ∀(s:Shared) (us:List Value),K.In s.heap->(us++ds).length=ps.length->BindsTo s fd ⟨us,[]⟩ (ps.zip (us++ds))
theorem Binds.all {K:W.Frag}{fd:FuncData}{ps:List Str}(h:∀us:List Value,us.length=ps.length->bindArgs fd ⟨us,[]⟩=pure (ps.zip us)):Binds K fd ps []:=λs us _ hl=>by
 rw[Wbf]at hl ⊢;exact .of_eq (h us hl)
def Passes (CX:CXT) (X:Cx) (E:XK):Prop:=∀(pins:List (Addr × Obj)) (σ:St) (H:Hp) (s:Shared) (e:Value) (s':Shared),Inv X pins σ H s->CX X.stack H s E e s' -> X.xe e s'
section
variable {X:Cx}{CX:CXT}{k:Nat}{f C:Addr}{fd:FuncData}{ps:List Str}{sp:Sp}{dvs:List V}{ds:List Value}{E:XK}{x m:Str}{p pos apos:Pos}{e o:Expr}{es:List Expr}{ta:TE}{t:TA}
theorem Zsl {pins:List (Addr × Obj)}{σ:St}{H:Hp}{s:Shared}{Q:VK}{us:List Value}{vs:List V}(F:FnOk X.prog X.w X.K X.mg X.base CX k f fd ps sp) (hr:Room k X.A) (hb:Binds X.K fd ps ds) (hd:Vals dvs ds) (hx:Passes CX X E)
  (I:Inv X pins σ H s) (r:Vals vs us) (h:sp (vs++dvs) H Q E):wpAny (model X.prog X.w) X.A (call (.ref f) us) (EP X pins σ Q) X.xe s:=by
 have r2:Vals (vs++dvs) (us++ds):=r.append hd;have hl:(us++ds).length=ps.length:=by rw[<- r2.length];exact F.len _ _ _ _ h
 refine wpAny_call (codeAny_mono (F.run X.A X.stack s H ⟨us,[]⟩ (us++ds) (vs++dvs) Q E hr I.env0 (hb s us I.kIn hl) r2 h) λr s' hq=>?_);cases r with
 |error e=>exact hx pins σ H s e s' I hq
 |ok fl=>
  cases fl with
  |ret u=>exact I.after hq
  |next=>exact False.elim hq
  |brk=>exact False.elim hq
  |cont=>exact False.elim hq
theorem Zkp (F:FnOk X.prog X.w X.K X.mg X.base CX k f fd ps sp) (hr:Room k X.A) (hg:Gl X x) (hm:X.mg x=some (.ref f)) (hk:W.keepIn X.K (.ref f)=true) (hb:Binds X.K fd ps ds) (hd:Vals dvs ds) (hx:Passes CX X E)
  (ha:PA X (e::es) t) (hdb:(x == ("__debug__":Str))=false:=by decide) (he:starEach (e::es) X.env=(false,eval e X.env)::starEach es X.env:=by rfl) (hpl:(backTo pos (starEach es X.env)).any (·.1)=false:=by rfl) :
  PE X (.Call (.Name x p) (e::es) [] pos) (tCall sp dvs E t):=by
 intro pins s σ H Q I h;refine wpAny_Call_Name_kw (Zep I hg hm ?_ hdb);refine PySem.W.callWith_K (h₀:=X.base) I.ok.mod.kin hk (thn (ha pos pins s σ H _ I h) λus s1 ⟨vs,H1,I1,r,q⟩=>⟨I1.kIn,?_⟩) he hpl;exact Zsl F hr hb hd hx I1 r q
end
section
variable {X:Cx}{CX:CXT}{k:Nat}{f C:Addr}{fd:FuncData}{ps ks:List Str}{sp:Sp}{E:XK}{x m:Str}{p pos apos kpos:Pos}{e o:Expr}{es:List Expr}{kws:List Keyword}{te ta:TE}{t tk:TA}{nm:Option Str}
variable {g:List Value->List Value->List Value}{gV:List V->List V->List V}
end
structure FnScope (N P:List Str) (sc:Scope):Prop where
 kind:sc.kind=.function
 co:sc.isCoroutine=false
 gen:sc.isGenerator=false
 nd:N.Nodup
 pre:N.take P.length=P
 par:∀x∈P,sc.names.lookup x=some .local\/sc.names.lookup x=some .cell
 nofree:∀y∈sc.names,y.2≠.free
theorem Zhc {kindOf:Str->Option NameKind}{x:Str}:∀{binds:List (Str × Value)}{m:Str->Option Value},(∀v,(x,v) ∉ binds)->bindL kindOf binds m x=m x
 |[],_,_=>rfl
 | (n,v)::r,m,h=>by
  unfold bindL;rw[Zhc λw hw=>h w (Waq _ hw)];split
  ·have:x≠n:=by rintro rfl;exact h v War
   simp[this]
  ·rfl
theorem Zha {kindOf:Str->Option NameKind}{x:Str}:∀{binds:List (Str × Value)}{m:Str->Option Value},(∀v,(x,v) ∉ binds)->bindC kindOf binds m x=m x
 |[],_,_=>rfl
 | (n,v)::r,m,h=>by
  unfold bindC;rw[Zha λw hw=>h w (Waq _ hw)];split
  ·rfl
  ·have:x≠n:=by rintro rfl;exact h v War
   simp[this]
theorem Zfb {kindOf:Str->Option NameKind}{x:Str}{v:Value}:∀{P:List Str}{vs:List Value}{i:Nat}{m:Str->Option Value},P.Nodup->P[i]?=some x->vs[i]?=some v->kindOf x=some .local →
  bindL kindOf (P.zip vs) m x=some v
 |[],_,_,_,_,h,_,_=>by simp at h
 |_::_,[],_,_,_,_,h,_=>by simp at h
 |p::P,w::vs,0,m,nd,h1,h2,hk=>by
  simp at h1 h2;subst h1;subst h2;show bindL kindOf ((p,w)::P.zip vs) m p=_;unfold bindL;rw[Zhc λv hv=>(Wcd.mp nd).1 (Wcy hv).1,if_pos hk];simp
 |p::P,w::vs,i+1,m,nd,h1,h2,hk=>by
  show bindL kindOf ((p,w)::P.zip vs) m x=_;unfold bindL;exact Zfb (i:=i) (Wcd.mp nd).2 (by simpa using h1) (by simpa using h2) hk
theorem Zfc {kindOf:Str->Option NameKind}{x:Str}{v:Value}:∀{P:List Str}{vs:List Value}{i:Nat}{m:Str->Option Value},P.Nodup->P[i]?=some x->vs[i]?=some v->kindOf x≠some .local →
  bindC kindOf (P.zip vs) m x=some v
 |[],_,_,_,_,h,_,_=>by simp at h
 |_::_,[],_,_,_,_,h,_=>by simp at h
 |p::P,w::vs,0,m,nd,h1,h2,hk=>by
  simp at h1 h2;subst h1;subst h2;show bindC kindOf ((p,w)::P.zip vs) m p=_;unfold bindC;rw[Zha λv hv=>(Wcd.mp nd).1 (Wcy hv).1,if_neg hk];simp
 |p::P,w::vs,i+1,m,nd,h1,h2,hk=>by
  show bindC kindOf ((p,w)::P.zip vs) m x=_;unfold bindC;exact Zfc (i:=i) (Wcd.mp nd).2 (by simpa using h1) (by simpa using h2) hk
def start (N:List Str) (vs:List V):St:=vs.map some++Wai (N.length-vs.length) none
def cxOf (CX:CXT) (P:Program) (w:World) (K:W.Frag) (mg:Str->Option Value) (base:Heap) (N:List Str) (qual:Str) (scope:Scope) (f:Addr) (cd:Value) (A:Around) (outer:List Env) (s:Shared) (H:Hp) (E:XK):Cx where
 prog:=P
 w:=w
 K:=K
 mg:=mg
 base:=base
 A:=A.deeper (envOfC qual scope s.heap.objs.size f cd)
 N:=N
 s₀:=s
 H₀:=H
 env:=envOfC qual scope s.heap.objs.size f cd
 outer:=outer
 stack:=envOfC qual scope s.heap.objs.size f cd::outer
 ex:=[]
 calm:=true
 fn:=λ_=>true
 pn:=[]
 xe:=λe s'=>wpAny (model P w) (A.deeper (envOfC qual scope s.heap.objs.size f cd)) (leaving (envOfC qual scope s.heap.objs.size f cd) e) (λ_ s''=>CX outer H s E e s'') (λe' s''=>CX outer H s E e' s'') s'
theorem Ze3 {sc:Scope}{n:Nat}{x:Str}(h:sc.names.lookup x=some .cell):∃c,(cellsFrom n sc.names []).lookup x=some c:=by
 have q:=PySem.W.cellsFrom_some sc.names n [] (.inl h);exact Option.isSome_iff_exists.mp q
theorem Zmr {CX:CXT}{P:Program}{w:World}{K:W.Frag}{mg:Str->Option Value}{base:Heap}{N ps:List Str}{qual:Str}{scope:Scope}{f:Addr}{cd:Value}{A:Around}{outer:List Env}{s s1:Shared}{H:Hp}{E:XK}{us:List Value}{vs:List V}
  (S:FnScope N ps scope) (hd:A.handled=none) (e0:Env0 P w K mg base A outer s H) (hl:vs.length=ps.length) (r:Vals vs us)
  (x:InCallC s s.heap.objs.size (bindL (envOfC qual scope s.heap.objs.size f cd).kindOf (ps.zip us) λ_=>none) (cellsFrom (s.heap.objs.size+1) scope.names []) (bindC (envOfC qual scope s.heap.objs.size f cd).kindOf (ps.zip us) λ_=>none) s1) :
  Inv (cxOf CX P w K mg base N qual scope f cd A outer s H E) [] (start N vs) H s1:=by
 have hpl:ps.length<=N.length:=by have:=congrArg Wbe S.pre;rw[Wbi]at this;omega
 obtain⟨h1,tk,rfl,hk⟩:=x.done;have noA:∀b:Addr,b ∉ (cxOf CX P w K mg base N qual scope f cd A outer s H E).ex:=λb z=>absurd (show b∈([]:List Addr) from z) (by simp);refine⟨⟨e0.mod,S.kind,rfl,rfl,Wak _,λy z c h1 h2=>?_,λy hy=>?_,λy c _ h=>?_,λ_=>hd,Around.frames_deeper e0.frames,.inr ⟨rfl,rfl⟩,λb z=>absurd z (noA b),e0.bs,e0.bsz,λb _ _=>noA b,λb z=>absurd z (noA b),e0.funs,e0.frf⟩,
  rfl,e0.bare,Un.kept hk,⟨_,x.toInCall.ns,λi y v h1 h2 h3=>?_⟩,λy c h=>⟨_,x.cell y c h⟩,e0.hok.fresh (Wak _),λy c h=>?_,λp hp=>absurd (show p∈([]:List (Addr × Obj)) from hp) (by simp),e0.hok.kept hk,?_⟩
 ·exact name_of_addr x.apart (PySem.mem_of_lookup h1) (PySem.mem_of_lookup h2)
 ·have hy:scope.names.lookup y=some .cell\/scope.names.lookup y=some .free:=hy
  rcases hy with hy|hy
  ·exact Ze3 hy
  ·exact absurd rfl (S.nofree _ (PySem.mem_of_lookup hy))
 ·exact Wbr (x.above y c (PySem.mem_of_lookup h))
 ·have hi:i<vs.length:=by
   unfold start at h2;by_cases hi:i<vs.length
   ·exact hi
   ·rw[Waz (by simpa using hi)]at h2
    rw[Wbw]at h2;split at h2 <;> cases h2
  have ha:vs[i]?=some v:=by
   unfold start at h2;rw[Wbb (by simpa using hi),Waj]at h2;cases e:vs[i]? with
   |none=>rw[e]at h2;cases h2
   |some a=>rw[e]at h2;cases h2;rfl
  obtain⟨u,hu,rv⟩:=r.get ha;have hp:ps[i]?=some y:=by
   rw[<- S.pre,List.getElem?_take_of_lt (by omega)];exact h1
  have ndP:ps.Nodup:=by rw[<- S.pre];exact S.nd.sublist (List.take_sublist _ _)
  refine⟨u,rv,?_⟩;rcases S.par y (Wap hp) with k|k
  ·exact .inl ⟨k,Zfb ndP hp hu k⟩
  ·obtain⟨c,e⟩:=Ze3 (n:=s.heap.objs.size+1) k
   refine .inr ⟨.inl k,c,e,?_⟩;have q:=x.cell y c e;rw[Zfc ndP hp hu (by show scope.names.lookup y≠_;rw[k];decide)]at q;exact q
 ·exact e0.hok.fresh (Wbr (x.above y c (PySem.mem_of_lookup h)))
 ·unfold start
  show _=N.length;rw[Wag,Waa,Wa3];omega
theorem Zqj {CX:CXT}{P:Program}{w:World}{K:W.Frag}{mg:Str->Option Value}{base:Heap}{k:Nat}{f:Addr}{name qual:Str}{params:Arguments}{body:List Stmt}{scope:Scope}{dV kV doc pm cdv ct oc:Value}{an od:Option Addr}
  {osl:Array (Option Value)}{N ps:List Str}{sp:Sp}(lk:K.lookup f=some ⟨oc,od,.func (W.fnOf name qual params body scope dV kV doc pm an cdv ct),osl⟩) (hcd:W.codeIn K cdv qual=true) (S:FnScope N ps scope)
  (len:∀vs H Q E,sp vs H Q E->vs.length=ps.length)
  (hbody:∀(A:Around) (outer:List Env) (s:Shared) (H:Hp) (vs:List V) (Q:VK) (E:XK),Room k (A.deeper (envOfC qual scope s.heap.objs.size f cdv))->sp vs H Q E →
   ∃t,PSs (cxOf CX P w K mg base N qual scope f cdv A outer s H E) body t/\t { nx:=λ_ H'=>Q .non H',rt:=Q } (start N vs) H) :
  FnOk P w K mg base CX (k+1) f (W.fnOf name qual params body scope dV kV doc pm an cdv ct) ps sp:=by
 refine⟨len,λA outer s H args us vs Q E hr e0 hb r hsp=>?_⟩;have hl:=len _ _ _ _ hsp;have KX:K.In s.heap:=e0.mod.kin.keeps λb o e=>(e0.bs b o e).1;have lim:s.heap.NoLimit:=e0.mod.nolimit.keeps λb o e=>(e0.bs b o e).1;have hkind:∀y∈ps.zip us,scope.names.lookup y.1=some .local\/(scope.names.lookup y.1=some .cell/\((cellsFrom (s.heap.objs.size+1) scope.names []).lookup y.1).isSome=true):=λ⟨n,v⟩ hy=>by
  rcases S.par n (Wcy hy).1 with q|q
  ·exact .inl q
  ·exact .inr ⟨q,PySem.W.cellsFrom_some _ _ _ (.inl q)⟩
 refine codeAny_call_function hr.depth (KX _ _ lk) rfl S.co S.gen rfl (PySem.W.codeRec_of KX hcd) (hb _ _ _ _ ?_);refine wpAny_newFunctionEnv_cells S.kind hkind λenv he s1 x=>?_;subst he;refine⟨lim.keeps x.toInCall.keep,codeAny_func ?_⟩;obtain⟨t,ht,hq⟩:=hbody A outer s H vs Q E (hr.deeper _) hsp;have I:Inv (cxOf CX P w K mg base N qual scope f cdv A outer s H E) [] (start N vs) H s1:=Zmr S hr.hd e0 hl r x;refine wpAny_mono (ht [] s1 (start N vs) H _ I hq) (λfl s' hs=>?_) λe s' hs=>hs;have fin:∀{σ':St}{H':Hp}{v:V}{u:Value},Inv (cxOf CX P w K mg base N qual scope f cdv A outer s H E) [] σ' H' s' -> RelV v u->Q v H' -> CE outer P w H s Q u s':=
  λ{σ' H' v u} J rv q=>⟨v,H',J.os,J.bare,J.base,J.hok,rv,q⟩
 cases fl with
 |ret u=>
  obtain⟨v,σ',H',J,rv,q⟩:=hs;exact fin J rv q
 |next=>
  obtain⟨σ',H',J,q⟩:=hs;exact fin (v:=V.non) (u:=Value.none) J rfl q
 |brk=>
  obtain⟨_,_,_,q⟩:=hs;exact False.elim q
 |cont=>
  obtain⟨_,_,_,q⟩:=hs;exact False.elim q
end L2
namespace L2
open PySem PySem.Spec PyProof.Rows
section
variable {X:Cx}{x:Str}{p pos:Pos}{e:Expr}{es:List Expr}{t:TA}{id T:String}{r:List V->Hp->VK->Prop}
def tCB (r:List V->Hp->VK->Prop) (t:TA):TE:=λσ H Q=>t σ H λvs H1=>r vs H1 Q
theorem Zah (hc:CallR X (.builtin id) r) (hg:Gl X x) (hm:X.mg x=none) (hv:bootBuiltins x=some (.builtin id)) (ha:PA X (e::es) t) (hn:x ≠ "__name__":=by decide) (hdb:(x == ("__debug__":Str))=false:=by decide)
  (he:starEach (e::es) X.env=(false,eval e X.env)::starEach es X.env:=by rfl) (hpl:(backTo pos (starEach es X.env)).any (·.1)=false:=by rfl):PE X (.Call (.Name x p) (e::es) [] pos) (tCB r t):=by
 intro pins s σ H Q I h;refine wpAny_Call_Name_kw (Zf0 I hg hm hv ?_ hn hdb);exact PyProof.Rows.callWith_builtin1 (thn (ha pos pins s σ H _ I h) λus s1 ⟨vs,H1,I1,r1,q1⟩=>hc pins s1 σ H1 vs us Q I1 r1 q1) he hpl
theorem Za4 (hc:CallR X (.type T) r) (hg:Gl X x) (hm:X.mg x=none) (hv:bootBuiltins x=some (.type T)) (ha:PA X (e::es) t) (hn:x ≠ "__name__":=by decide) (hdb:(x == ("__debug__":Str))=false:=by decide)
  (he:starEach (e::es) X.env=(false,eval e X.env)::starEach es X.env:=by rfl) (hpl:(backTo pos (starEach es X.env)).any (·.1)=false:=by rfl):PE X (.Call (.Name x p) (e::es) [] pos) (tCB r t):=by
 intro pins s σ H Q I h;refine wpAny_Call_Name_kw (Zf0 I hg hm hv ?_ hn hdb);exact PyProof.Rows.callWith_type1 (thn (ha pos pins s σ H _ I h) λus s1 ⟨vs,H1,I1,r1,q1⟩=>hc pins s1 σ H1 vs us Q I1 r1 q1) he hpl
end
end L2
namespace HT
open PySem PyProof.Rows
section
open PySem.SeqAt
open PySem.AutoSeq1 (wpAny_loadPart')
open PySem.MeetsSeq PySem.MeetsSeq2 PySem.MeetsSeq3
end
section
variable {prog:Program}{w:World}{A:Around}{E:Value->Shared->Prop}{s:Shared}
theorem cat_tup {t b:Addr}{vs ws:List Value}{Q:Value->Shared->Prop}(ht:IsTup s.heap t vs.toArray) (hb:IsTup s.heap b ws.toArray) (hv:vs≠[])
  (h1:ws=[]->Q (.ref t) s) (h2:ws≠[]->Q (.ref s.heap.objs.size) { s with heap:=s.heap.push { cls:=.type "tuple",data:=.seq (vs++ws).toArray } })
  (hsz:vs.length+ws.length<=sizeLine):wpAny (model prog w) A (binaryOp .Add (.ref t) (.ref b)) Q E s:=by
 obtain⟨⟨cls,dd,data,sl⟩,ho,hc,n,hd⟩:=id ht;obtain⟨⟨cls2,dd2,data2,sl2⟩,ho2,hc2,n2,hd2⟩:=id hb;simp only at hc hd hc2 hd2;subst hc hd hc2 hd2;have e:vs.toArray++ws.toArray=(vs++ws).toArray:=by simp
 by_cases hw:ws=[]
 ·exact concat_meets ⟨_,ho,rfl⟩ ⟨_,ho2,rfl⟩ noFill_tuple_add seq_tuple_add PySem.F.slot_tuple_add PySem.F.entry_tuple_add (PySem.F.args_tuple_add_2 _ _)
   (tuple_addW1 t b vs.toArray ws.toArray n n2 dd dd2 sl sl2 (by simpa using hv) (by simp[hw])) ⟨ho,ho2,h1 hw⟩
 ·refine concat_meets ⟨_,ho,rfl⟩ ⟨_,ho2,rfl⟩ noFill_tuple_add seq_tuple_add PySem.F.slot_tuple_add PySem.F.entry_tuple_add (PySem.F.args_tuple_add_2 _ _)
   (tuple_addW2 t b vs.toArray ws.toArray n n2 dd dd2 sl sl2 (by simpa using hv) (by simpa using hw) (by rw[Waf,Waf];exact hsz)) ⟨ho,ho2,?_⟩
  rw[e];exact h2 hw
def sIx (n d:Nat):Option Int->Nat
 |none=>d
 |some v=>if v<0 then (v+(n:Int)).toNat else min v.toNat n
theorem sIx_none (n d:Nat):sIx n d none=d:=rfl
theorem sIx_nat (n d k:Nat):sIx n d (some (k:Int))=min k n:=by
 show (if (k:Int)<0 then ((k:Int)+(n:Int)).toNat else min (k:Int).toNat n)=min k n;rw[if_neg (by omega),Wbn]
theorem Zsz (n d:Nat) (hd:d<=n) (o:Option Int):sIx n d o<=n:=by
 cases o with
 |none=>exact hd
 |some v=>
  show (if v<0 then (v+(n:Int)).toNat else min v.toNat n)<=n;by_cases hv:v<0
  ·rw[if_pos hv];omega
  ·rw[if_neg hv];exact Nat.min_le_right _ _
theorem Zmj (v:Int) (n d:Nat):(if v<0 then max (v+(n:Int)) 0 else min v (n:Int))=((sIx n d (some v):Nat):Int):=by
 show (if v<0 then max (v+(n:Int)) 0 else min v (n:Int))=(((if v<0 then (v+(n:Int)).toNat else min v.toNat n):Nat):Int);by_cases hv:v<0
 ·simp only[if_pos hv];omega
 ·simp only[if_neg hv];omega
theorem Zkl (lo hi:Option Int) (n:Nat):Builtin.Slice.sliceAdjust lo hi 1 (n:Int)=(((sIx n 0 lo:Nat):Int),((sIx n n hi:Nat):Int)):=by
 have h1:¬ ((1:Int)<0):=by omega
 unfold Builtin.Slice.sliceAdjust;simp only[h1,if_false];refine Prod.ext ?_ ?_
 ·cases lo with
  |none=>rfl
  |some v=>exact Zmj v n 0
 ·cases hi with
  |none=>rfl
  |some v=>exact Zmj v n n
theorem Zkg (i j:Nat):Builtin.Slice.slicePlaces (i:Int) (j:Int) 1=j-i:=by
 unfold Builtin.Slice.slicePlaces;have h1:(1:Int) > 0:=by omega
 simp only[h1,if_true,Int.ediv_one];split <;> omega
theorem Zfv {v:Value}{o:Option Int}{Q:Option Int->Shared->Prop}(p:IsPart v o) (h:Q o s):wpAny (model prog w) A (Builtin.Slice.slicePartIndex v) Q E s:=by
 cases p with
 |none=>exact slicePart_none h
 |int i t=>exact slicePart_int h
theorem Zdd {sl:Addr}{vl vu:Value}{lo hi:Option Int}{n:Nat}{Q:Int × Int × Nat->Shared->Prop}(hs:s.heap.IsSliceOf sl vl vu .none) (pl:IsPart vl lo) (pu:IsPart vu hi)
  (h:Q (((sIx n 0 lo:Nat):Int),1,sIx n n hi-sIx n 0 lo) s):wpAny (model prog w) A (Builtin.Slice.sliceApplied (.ref sl) (pure (n:Int))) Q E s:=by
 obtain⟨os,hos,hcs,hds⟩:=id hs;unfold Builtin.Slice.sliceApplied Builtin.Slice.sliceFields;refine wpAny_bind (wpAny_bind (wpAny_field hos hds (x:=vl) rfl (wpAny_bind (wpAny_field hos hds (x:=vu) rfl (wpAny_bind (wpAny_field hos hds (x:=.none) rfl (wpAny_pure ?_)))))));refine wpAny_bind (slicePart_none ?_);show wpAny _ _ (if ((1:Int) == 0)=true then _ else _) _ _ s;rw[if_neg (by decide)];refine wpAny_bind (Zfv pl (wpAny_bind (Zfv pu (wpAny_bind (wpAny_pure ?_)))));show wpAny _ _ (match Builtin.Slice.sliceAdjust lo hi 1 (n:Int) with|(lo,hi)=>pure (lo,(1:Int),Builtin.Slice.slicePlaces lo hi 1)) _ _ s;rw[Zkl lo hi n];show wpAny _ _ (pure (((sIx n 0 lo:Nat):Int),(1:Int),Builtin.Slice.slicePlaces ((sIx n 0 lo:Nat):Int) ((sIx n n hi:Nat):Int) 1)) _ _ s;rw[Zkg];exact wpAny_pure h
theorem Zod (xs:Array Value) (i k:Nat):((Wbx k).filterMap λ(m:Nat)=>xs[((i:Int)+(m:Int)*1).toNat]?).toArray=((xs.toList.drop i).take k).toArray:=by
 have e:(λ(m:Nat)=>xs[((i:Int)+(m:Int)*1).toNat]?)=λm=>xs[i+m]?:=by
  funext m
  have:((i:Int)+(m:Int)*1).toNat=i+m:=by omega
  rw[this]
 rw[e];have:=pick_run xs i k;rw[List.filterMap_map]at this;have e2:((λx=>xs[x]?)∘λx=>i+x)=λm=>xs[i+m]?:=rfl;rw[e2]at this;rw[this]
theorem getItem_tuple_cut {t sl:Addr}{items:Array Value}{vl vu:Value}{lo hi:Option Int}{Q:Value->Shared->Prop}(ht:IsTup s.heap t items) (hs:s.heap.IsSliceOf sl vl vu .none) (pl:IsPart vl lo) (pu:IsPart vu hi)
  (hw:¬ (sIx items.size 0 lo=0/\sIx items.size items.size hi=items.size))
  (h:Q (.ref s.heap.objs.size) { s with heap:=s.heap.push { cls:=.type "tuple",data:=.seq ((items.toList.drop (sIx items.size 0 lo)).take (sIx items.size items.size hi-sIx items.size 0 lo)).toArray } })
  (hsz:items.size<=sizeLine):wpAny (model prog w) A (getItem (.ref t) (.ref sl)) Q E s:=by
 have htake:sizeOk (.seq ((items.toList.drop (sIx items.size 0 lo)).take (sIx items.size items.size hi-sIx items.size 0 lo)).toArray):=by
  show ((items.toList.drop (sIx items.size 0 lo)).take (sIx items.size items.size hi-sIx items.size 0 lo)).toArray.size<=sizeLine;rw[Waf,Wbi,Wbj,Array.length_toList];omega
 have hj:sIx items.size items.size hi<=items.size:=Zsz _ _ (Wak _) hi;obtain⟨os,hos,hcs,hds⟩:=id hs;have hTs:s.TypeIs (.ref sl) "slice":=⟨os,hos,hcs⟩;unfold getItem
 try with_reducible refine wpAny_holding ?_
 first|refine wpAny_bind (wpAny_pure ?_)|skip
 refine wpAny_bind (wpAny_sequenceKey ht.typeIs (by decide) ?_);refine wpAny_bind (wpAny_callSpecial?_slot (name:=Str.ofString "__getitem__") ht.typeIs PyProof.Rows.slot_tuple_getitem
  (wpAny_call_entry PyProof.Rows.slot_tuple_getitem ht.typeIs entry_tuple_getitem ?_ (args_tuple_getitem _ _)))
 show wpAny _ _ (Builtin.Tuple.tupleItemsOf (.ref t) >>= _) _ _ s;refine wpAny_bind (tupleItemsOf_ ht ?_);refine wpAny_bind (wpAny_typeOf hTs ?_);rw[if_pos (by decide)];refine wpAny_bind (Zdd hs pl pu ?_);have hno:¬ ((((sIx items.size 0 lo:Nat):Int) == 0 && (1:Int) == 1 && (sIx items.size items.size hi-sIx items.size 0 lo) == items.size)=true):=by
  intro q;rw[Wa6,Wa6]at q;have q1:((sIx items.size 0 lo:Nat):Int)=0:=eq_of_beq q.1.1;have q2:sIx items.size items.size hi-sIx items.size 0 lo=items.size:=eq_of_beq q.2;exact hw ⟨by omega,by omega⟩
 show wpAny _ _ (if (((sIx items.size 0 lo:Nat):Int) == 0 && (1:Int) == 1 && (sIx items.size items.size hi-sIx items.size 0 lo) == items.size)=true then _ else _) _ _ s;rw[if_neg hno,Zod]
 first
  |exact wpAny_bind (m:=Builtin.Tuple.tupleExact _) (wpAny_newObj_type (wpAny_pure ⟨_,rfl,wpAny_pure h⟩) htake)
  |exact wpAny_bind (m:=Builtin.Tuple.tupleExact _) (wpAny_newObj_type (wpAny_bind (wpAny_pure (wpAny_pure ⟨_,rfl,wpAny_pure h⟩))) htake)
  |exact wpAny_bind (wpAny_bind (m:=Builtin.Tuple.tupleExact _) (wpAny_newObj_type (wpAny_pure (wpAny_pure ⟨_,rfl,wpAny_pure h⟩)) htake))
  |exact wpAny_bind (wpAny_bind (m:=Builtin.Tuple.tupleExact _) (wpAny_newObj_type (wpAny_pure ⟨_,rfl,wpAny_pure h⟩) htake))
end
end HT
namespace L2
open PySem PySem.Spec PyProof.Rows
abbrev TO:=St->Hp->(Option Int->Hp->Prop)->Prop
def PO (X:Cx) (e:Option Expr) (t:TO):Prop:=
 ∀(pins:List (Addr × Obj)) (s:Shared) (σ:St) (H:Hp) (Q:Option Int->Hp->Prop),Inv X pins σ H s->t σ H Q →
  wpAny (model X.prog X.w) X.A (evalPart e X.env) (λu s'=>∃o H',Inv X pins σ H' s' /\ IsPart u o/\Q o H') X.xe s
def tNoPart:TO:=λ_ H Q=>Q none H
def tPart (t:TE):TO:=λσ H Q=>t σ H λx H1=>∃i,x=.int i/\Q (some i) H1
theorem Zc2 {ns:List Int}:∀{us:List Value},Vals (ns.map V.int) us->IntsAre us ns:=by
 induction ns with
 |nil=>intro us r;rw[Wdd]at r;cases r;exact .nil
 |cons n ns ih=>
  intro us r;rw[Wa4]at r;cases r with
  |cons r1 r2=>
   obtain⟨t,e⟩:=r1;subst e;exact .cons n t (ih r2)
section
variable {X:Cx}{e:Expr}{te:TE}{lo hi:Option Expr}{tl th:TO}{pos p2:Pos}
theorem Zbd:PO X none tNoPart:=by
 intro pins s σ H Q I h;rw[evalPart_none];exact wpAny_pure ⟨none,H,I,.none,h⟩
theorem Za5 (h:PE X e te):PO X (some e) (tPart te):=by
 intro pins s σ H Q I hw;rw[evalPart_some];refine thn (h pins s σ H _ I hw) λu s1 ⟨x,H1,I1,r1,q1⟩=>?_;obtain⟨i,rfl,q⟩:=q1;obtain⟨t,rfl⟩:=r1;exact⟨some i,H1,I1,.int i t,q⟩
def SlR (X:Cx) (r:V->Option Int->Option Int->Hp->VK->Prop):Prop:=
 ∀(pins:List (Addr × Obj)) (s:Shared) (σ:St) (H:Hp) (x:V) (v vl vu:Value) (lo hi:Option Int) (sl:Addr) (Q:VK),Inv X pins σ H s->RelV x v->s.heap.IsSliceOf sl vl vu .none->IsPart vl lo->IsPart vu hi->r x lo hi H Q →
  ∃T id,typeLookup (.type T) "__getitem__" = pure (some (.builtin id))/\s.TypeIs v T/\wpAny (model X.prog X.w) X.A (getItem v (.ref sl)) (EP X pins σ Q) X.xe s
theorem SlR.or {r r':V->Option Int->Option Int->Hp->VK->Prop}(h:SlR X r) (h':SlR X r'):SlR X (λx lo hi H Q=>r x lo hi H Q\/r' x lo hi H Q):=by
 intro pins s σ H x v vl vu lo hi sl Q I rx hs pl pu q;rcases q with q|q
 ·exact h pins s σ H x v vl vu lo hi sl Q I rx hs pl pu q
 ·exact h' pins s σ H x v vl vu lo hi sl Q I rx hs pl pu q
def tSl (r:V->Option Int->Option Int->Hp->VK->Prop) (te:TE) (tl th:TO):TE:=λσ H Q=>te σ H λx H1=>tl σ H1 λl H2=>th σ H2 λu H3=>r x l u H3 Q
theorem Zaw {r:V->Option Int->Option Int->Hp->VK->Prop}(hr:SlR X r) (he:PE X e te) (hl:PO X lo tl) (hu:PO X hi th):PE X (.Subscript e (.Slice lo hi none p2) pos) (tSl r te tl th):=by
 intro pins s σ H Q I h;refine Subscript_ (thn (he pins s σ H _ I h) λv s1 ⟨x,H1,I1,r1,q1⟩=>?_);refine wpAny_Slice (thn (hl pins s1 σ H1 _ I1 q1) λvl s2 ⟨l,H2,I2,pl,q2⟩=>thn (hu pins s2 σ H2 _ I2 q2) λvu s3 ⟨u,H3,I3,pu,q3⟩=>?_);rw[evalPart_none];refine wpAny_pure ?_;have I4:Inv X pins σ H3 { s3 with heap:=s3.heap.push { cls:=.type "slice",data:=.fields #[vl,vu,.none] } }:=I3.kept (t':=s3.toks) λb ob q=>Wac _ q;obtain⟨T,id,hT,ht,hg⟩:=hr pins { s3 with heap:=s3.heap.push { cls:=.type "slice",data:=.fields #[vl,vu,.none] } } σ H3 x v vl vu l u s3.heap.objs.size Q I4 r1 (Heap.IsSliceOf.new ..) pl pu q3;show wpAny (model X.prog X.w) X.A (subscriptTail e (.Slice lo hi none p2) v (.ref s3.heap.objs.size)) (EP X pins σ Q) X.xe { s3 with heap:=s3.heap.push { cls:=.type "slice",data:=.fields #[vl,vu,.none] } };exact tail_any (ops:=[.ref s3.heap.objs.size,v]) ht hT hg (by with_unfolding_all rfl)
def cutV (xs:List V) (lo hi:Option Int):List V:=(xs.drop (HT.sIx xs.length 0 lo)).take (HT.sIx xs.length xs.length hi-HT.sIx xs.length 0 lo)
theorem Zfo (xs:List V) (lo hi:Option Int):(cutV xs lo hi).length<=xs.length:=by
 unfold cutV;rw[Wbi,Wbj];omega
def rSlT (K:W.Frag):V->Option Int->Option Int->Hp->VK->Prop:=λx lo hi H Q=>∃a xs,x=.ref a/\SqT K H a xs ∧
 ¬ (HT.sIx xs.length 0 lo=0/\HT.sIx xs.length xs.length hi=xs.length)/\∀p,H p=none->Q (.ref p) (upd H p (.tup (cutV xs lo hi)))
theorem Zsh:SlR X (rSlT X.K):=by
 intro pins s σ H x v vl vu lo hi sl Q I rx hs pl pu h;obtain⟨a,xs,rfl,hx,hw,q⟩:=h;cases rx;obtain⟨its,r,ht,hz⟩:=I.tuple hx;have hlen:its.toArray.size=xs.length:=by rw[Waf];exact r.length.symm
 refine⟨"tuple",_,PyProof.Rows.slot_tuple_getitem.lookup,ht.typeIs,?_⟩;refine HT.getItem_tuple_cut ht hs pl pu (by rw[hlen];exact hw) ?_ (by rw[hlen];exact hz);rw[hlen];refine⟨.ref s.heap.objs.size,_,I.laid (t':=s.toks) (o:=.tup (cutV xs lo hi)) (λb ob q=>Wac _ q) (Wak _) ?_,rfl,q _ (I.hok.fresh (Wak _))⟩;exact⟨Wat (Zfo xs lo hi) hz,_,(r.drop (HT.sIx xs.length 0 lo)).take (HT.sIx xs.length xs.length hi-HT.sIx xs.length 0 lo),IsTupN.new _ _⟩
def rCatT (K:W.Frag):R2:=λx y H Q=>∃a b xs ys,x=.ref a/\y=.ref b/\SqT K H a xs/\SqT K H b ys/\xs≠[]/\xs.length+ys.length<=sizeLine ∧
 (ys=[]->Q (.ref a) H)/\(ys≠[]->∀p,H p=none->Q (.ref p) (upd H p (.tup (xs++ys))))
theorem Vals.nil_iff {xs:List V}{us:List Value}(r:Vals xs us):us=[]↔xs=[]:=by
 cases r with
 |nil=>simp
 |cons _ _=>simp
theorem Zpn:OpR X (binaryOp .Add) (rCatT X.K):=by
 intro pins s σ H x y v u Q I rx ry h;obtain⟨a,b,xs,ys,rfl,rfl,ha,hb,hx,hz,q1,q2⟩:=h;cases rx;cases ry;obtain⟨its,r1,p1,_⟩:=I.tuple ha;obtain⟨its2,r2,p2,_⟩:=I.tuple hb;refine HT.cat_tup p1 p2 (λz=>hx (r1.nil_iff.mp z)) (λz=>⟨.ref a,H,I,rfl,q1 (r2.nil_iff.mp z)⟩) (λz=>?_) (by rw[<- r1.length,<- r2.length];exact hz);refine⟨.ref s.heap.objs.size,_,I.laid (t':=s.toks) (o:=.tup (xs++ys)) (λb ob q=>Wac _ q) (Wak _) ?_,rfl,q2 (λw=>z (r2.nil_iff.mpr w)) _ (I.hok.fresh (Wak _))⟩;exact⟨by rw[Wag];exact hz,_,r1.append r2,IsTupN.new _ _⟩
end
end L2
namespace L2
open PySem PySem.Spec PyProof.Rows
def ixN (n:Nat) (i:Int):Option Nat:=if 0<=i then (if i<n then some i.toNat else none) else if -(n:Int)<=i then some (i+n).toNat else none
def atI {α:Type}(xs:List α) (i:Int):Option α:=(ixN xs.length i).bind λj=>xs[j]?
theorem Zkv {n:Nat}{i:Int}{j:Nat}(h:ixN n i=some j):seqIndex? i n=some j/\j<n /\ -(n:Int)<=i/\i<n:=by
 unfold ixN at h;by_cases h0:0<=i
 ·rw[if_pos h0]at h
  by_cases h1:i<n
  ·rw[if_pos h1]at h
   have e:i.toNat=j:=Wau.inj h;exact⟨by rw[seqIndex_of h0 h1,e],by omega,by omega,h1⟩
  ·rw[if_neg h1]at h;cases h
 ·rw[if_neg h0]at h
  by_cases h1:-(n:Int)<=i
  ·rw[if_pos h1]at h
   have e:(i+n).toNat=j:=Wau.inj h;exact⟨by rw[seqIndex_neg (by omega) h1,e],by omega,h1,by omega⟩
  ·rw[if_neg h1]at h;cases h
theorem Ziv {α:Type}{xs:List α}{i:Int}{v:α}(h:atI xs i=some v):∃j,seqIndex? i xs.length=some j/\xs[j]?=some v/\j<xs.length /\ -(xs.length:Int)<=i/\i<xs.length:=by
 unfold atI at h;cases e:ixN xs.length i with
 |none=>rw[e]at h;cases h
 |some j=>
  rw[e]at h;obtain⟨h1,h2,h3,h4⟩:=Zkv e;exact⟨j,h1,h,h2,h3,h4⟩
theorem Zdh {α:Type}{xs:List α}{j:Nat}{v:α}(h:xs[j]?=some v):atI xs (j:Int)=some v:=by
 have hj:j<xs.length:=(Wah.mp h).1;have e:ixN xs.length (j:Int)=some j:=by
  unfold ixN;rw[if_pos (by omega),if_pos (by omega)];simp
 unfold atI;rw[e];exact h
theorem Zn4 {α:Type}(xs:List α) (v:α):atI (xs++[v]) (-1)=some v:=by
 have hl:(xs++[v]).length=xs.length+1:=by simp
 have e:ixN (xs++[v]).length (-1)=some xs.length:=by
  unfold ixN;rw[hl,if_neg (by decide),if_pos (by omega)];congr 1;omega
 unfold atI;rw[e];show (xs++[v])[xs.length]?=some v;simp
def PlainIx (b:Expr):Prop:=∀o i,subscripted b false o i=operate [o,i] (getItem o i)
def IxR (X:Cx) (r:R2):Prop:=
 ∀(value slice:Expr) (pins:List (Addr × Obj)) (s:Shared) (σ:St) (H:Hp) (x y:V) (v u:Value) (Q:VK),Inv X pins σ H s->RelV x v->RelV y u->r x y H Q →
  subscripted slice false v u=operate [v,u] (getItem v u)->wpAny (model X.prog X.w) X.A (subscriptTail value slice v u) (EP X pins σ Q) X.xe s
def MtR (X:Cx) (id:String) (r:V->List V->Hp->VK->Prop):Prop:=
 ∀(pins:List (Addr × Obj)) (s:Shared) (σ:St) (H:Hp) (x:V) (xs:List V) (v:Value) (us:List Value) (Q:VK),Inv X pins σ H s->RelV x v->Vals xs us->r x xs H Q →
  wpAny (model X.prog X.w) X.A (call (.builtin id) (v::us)) (EP X pins σ Q) X.xe s
section
variable {X:Cx}{a b:Expr}{ta tb:TE}{pos:Pos}
theorem IxR.or {r r':R2}(h:IxR X r) (h':IxR X r'):IxR X (λx y H Q=>r x y H Q\/r' x y H Q):=by
 intro value slice pins s σ H x y v u Q I rx ry q hs;rcases q with q|q
 ·exact h value slice pins s σ H x y v u Q I rx ry q hs
 ·exact h' value slice pins s σ H x y v u Q I rx ry q hs
theorem Zbg {r:R2}(hr:IxR X r) (ha:PE X a ta) (hb:PE X b tb) (hs:PlainIx b):PE X (.Subscript a b pos) (tOp r ta tb):=by
 intro pins s σ H Q I h;exact Subscript_ (binT ha hb I h λv u s2 x y H2 I2 rx ry q=>hr a b pins s2 σ H2 x y v u Q I2 rx ry q (hs _ _))
def rIxL (K:W.Frag):R2:=λx y H Q=>∃p xs i v,x=.ref p/\y=.int i/\SqL K H p xs/\atI xs i=some v/\Q v H
def rIxT (K:W.Frag):R2:=λx y H Q=>∃p xs i v,x=.ref p/\y=.int i/\SqT K H p xs/\atI xs i=some v/\Q v H
def rIxS:R2:=λx y H Q=>∃z i c,x=.str z/\y=.int i/\z.length<=sizeLine/\atI z.cps.toList i=some c/\Q (.str ⟨#[c]⟩) H
theorem Zqh:IxR X (rIxL X.K):=by
 intro value slice pins s σ H x y v u Q I rx ry h hs;obtain⟨p,xs,i,z,rfl,rfl,hq,he,q⟩:=h;cases rx;obtain⟨t,rfl⟩:=ry;obtain⟨its,r,pl,hz⟩:=I.list hq;obtain⟨j,h1,h2,h3,h4,h5⟩:=Ziv he;obtain⟨w,ew,rw'⟩:=r.get h2;have hl:=r.length;have hn:=line63;have fin:EP X pins σ Q w s:=⟨z,H,I,rw',q⟩;by_cases h0:0<=i
 ·have hj:i.toNat=j:=by
   rw[seqIndex_of h0 h5]at h1;exact Wau.inj h1
  exact item_listR pl.isList h0 (by omega) (by rw[hj];simpa using ew) fin hs
 ·have hj:(i+(its.toArray.size:Int)).toNat=j:=by
   rw[seqIndex_neg (by omega) h4]at h1;rw[Waf,<- hl];exact Wau.inj h1
  exact subscriptTail_builtinR (x:=w) pl.isList.typeIs slot_list_getitem.lookup
   (wpAny_getItem_list_neg (Q:=λr s'=>r=w/\EP X pins σ Q r s') pl.isList (by omega) (by rw[Waf] <;> omega) (by omega) (by rw[hj];simpa using ew) ⟨rfl,fin⟩) hs
theorem Ztr:IxR X (rIxT X.K):=by
 intro value slice pins s σ H x y v u Q I rx ry h hs;obtain⟨p,xs,i,z,rfl,rfl,hq,he,q⟩:=h;cases rx;obtain⟨t,rfl⟩:=ry;obtain⟨its,r,pl,hz⟩:=I.tuple hq;obtain⟨j,h1,h2,h3,h4,h5⟩:=Ziv he;obtain⟨w,ew,rw'⟩:=r.get h2;have hl:=r.length;have hn:=line63;have fin:EP X pins σ Q w s:=⟨z,H,I,rw',q⟩;exact subscriptTail_builtinR (x:=w) pl.typeIs slot_tuple_getitem.lookup
  (getItem_tuple (j:=j) (Q:=λr s'=>r=w/\EP X pins σ Q r s') pl (by omega) (by omega) (by rw[Waf,<- hl];exact h1) (by simpa using ew) ⟨rfl,fin⟩) hs
theorem Zr0:IxR X rIxS:=by
 intro value slice pins s σ H x y v u Q I rx ry h hs;obtain⟨z,i,c,rfl,rfl,hz,he,q⟩:=h;obtain⟨t,rfl⟩:=rx;obtain⟨t',rfl⟩:=ry;obtain⟨j,h1,h2,h3,h4,h5⟩:=Ziv he;have hl:z.cps.toList.length=z.length:=by simp[Str.length]
 rw[hl]at h1 h4 h5;have hn:=line63;exact tail_any (typeIs_str s z t) slot_str_getitem.lookup (getItem_str (c:=c) (by
  have e1:decide (i < -(2 ^ 63:Int))=false:=decide_eq_false (by omega);have e2:decide (i ≥ 2 ^ 63)=false:=decide_eq_false (by omega);rw[e1,e2,Bool.or_false]) (by rw[h1];simpa using h2) ⟨.str ⟨#[c]⟩,H,I.tok _,⟨_,rfl⟩,q⟩) hs
def rIx (K:W.Frag):R2:=λx y H Q=>rIxL K x y H Q\/rIxT K x y H Q\/rIxS x y H Q
theorem Ztk:IxR X (rIx X.K):=Zqh.or (Ztr.or Zr0)
theorem Zj2 (its:List Value) (n j:Nat) (u:Value):Obj.mapSeq (·.setIfInBounds j u) { cls:=.type "list",data:=.seq its.toArray n } = { cls:=.type "list",data:=.seq (its.set j u).toArray n }:=by
 simp[Obj.mapSeq]
theorem Inv.lst {pins:List (Addr × Obj)}{σ:St}{H:Hp}{s:Shared}{p:Addr}{xs:List V}(I:Inv X pins σ H s) (h:H p=some (.lst xs)) :
  ∃(its:List Value) (n:Nat),Vals xs its/\s.heap.get? p=some { cls:=.type "list",data:=.seq its.toArray n } /\ xs.length<=sizeLine:=by
 obtain⟨z,its,n,r,e⟩:=I.hok p _ h;exact⟨its,n,r,e,z⟩
theorem Inv.lstUpd {pins:List (Addr × Obj)}{σ:St}{H:Hp}{s:Shared}{p:Addr}{xs ys:List V}{its its':List Value}{n n':Nat}{f:Obj->Obj}(I:Inv X pins σ H s) (h:H p=some (.lst xs))
  (ho:s.heap.get? p=some { cls:=.type "list",data:=.seq its.toArray n }) (hf:f { cls:=.type "list",data:=.seq its.toArray n } = { cls:=.type "list",data:=.seq its'.toArray n' }) (r:Vals ys its') (hz:ys.length<=sizeLine) (t:Nat) :
  Inv X pins σ (upd H p (.lst ys)) { s with heap:=s.heap.update p f,toks:=t }:=by
 have e:(s.heap.update p f).get? p=some { cls:=.type "list",data:=.seq its'.toArray n' }:=by
  rw[Wbh f ho (by rw[hf] <;> rfl),hf]
 refine I.write (x:=p) (e:=p) (by rw[h];trivial) (.inl rfl) (λb u hb q=>(Wa7 _ _ (Ne.symm hb)).trans q) ⟨_,e⟩ ?_;exact⟨hz,its',n',r,e⟩
def rSetL:V->V->V->Hp->(Hp->Prop)->Prop:=λo i v H Q=>∃p xs k j,o=.ref p/\i=.int k/\H p=some (.lst xs)/\ixN xs.length k=some j/\Q (upd H p (.lst (xs.set j v)))
theorem Zn6:PSet X rSetL:=by
 intro pins s σ H o i v ov iv u Q I ro ri rv h;obtain⟨p,xs,k,j,rfl,rfl,hp,hj,q⟩:=h;cases ro;obtain⟨t,rfl⟩:=ri;obtain⟨its,n,r,ho,hz⟩:=I.lst hp;obtain⟨h1,h2,h3,h4⟩:=Zkv hj;have hl:=r.length;have hn:=line63;have I':Inv X pins σ (upd H p (.lst (xs.set j v))) { s with heap:=s.heap.update p (Obj.mapSeq (·.setIfInBounds j u)) }:=
  I.lstUpd hp ho (Zj2 its n j u) (r.set rv j) (by rw[Wa1];exact hz) s.toks
 by_cases h0:0<=k
 ·have hk:k.toNat=j:=by
   rw[seqIndex_of h0 h4]at h1;exact Wau.inj h1
  exact PySem.W.ki_setAt ho h0 (by omega) (by rw[Waf,<- hl];exact h4) (by rw[hk];exact⟨_,I',q⟩)
 ·have hk:(k+(its.toArray.size:Int)).toNat=j:=by
   rw[seqIndex_neg (by omega) h3]at h1;rw[Waf,<- hl];exact Wau.inj h1
  exact PySem.W.ki_setBack ho (by omega) (by rw[Waf,<- hl];exact h3) (by omega) (by rw[hk];exact⟨_,I',q⟩)
theorem Zhu (lo hi:Option Int) (n:Nat):(sliceBounds lo hi none n).1=((HT.sIx n 0 lo:Nat):Int)/\(sliceBounds lo hi none n).2.1=((HT.sIx n n hi:Nat):Int)/\(sliceBounds lo hi none n).2.2=1:=by
 refine⟨?_,?_,rfl⟩
 ·cases lo with
  |none=>simp[sliceBounds,HT.sIx]
  |some i=>
   simp only[sliceBounds,HT.sIx,Option.getD_none,show (1:Int) > 0 by decide,if_true];by_cases h:i<0
   ·simp only[h,if_true] <;> omega
   ·simp only[h,if_false] <;> omega
 ·cases hi with
  |none=>simp[sliceBounds,HT.sIx]
  |some i=>
   simp only[sliceBounds,HT.sIx,Option.getD_none,show (1:Int) > 0 by decide,if_true];by_cases h:i<0
   ·simp only[h,if_true] <;> omega
   ·simp only[h,if_false] <;> omega
theorem Zgh (its:List Value) (lo hi:Option Int):slicePick its.toArray lo hi none=((its.drop (HT.sIx its.length 0 lo)).take (HT.sIx its.length its.length hi-HT.sIx its.length 0 lo)).toArray:=by
 obtain⟨h1,h2,h3⟩:=Zhu lo hi its.toArray.size;unfold slicePick;rw[h1,h2,h3];simp only[sliceRange_one,pick_run,Waf] <;> rfl
def rSlL (K:W.Frag):V->Option Int->Option Int->Hp->VK->Prop:=λx lo hi H Q=>∃a xs,x=.ref a/\SqL K H a xs/\∀p,H p=none->Q (.ref p) (upd H p (.lst (cutV xs lo hi)))
theorem Zrb:SlR X (rSlL X.K):=by
 intro pins s σ H x v vl vu lo hi sl Q I rx hs pl pu h;obtain⟨a,xs,rfl,hx,q⟩:=h;cases rx;obtain⟨its,r,ht,hz⟩:=I.list hx;have hlen:=r.length;refine⟨"list",_,slot_list_getitem.lookup,ht.isList.typeIs,?_⟩;refine wpAny_getItem_list_slice ht.isList hs pl pu .none (by simp) ?_ (by rw[Waf] <;> omega)
 rw[Zgh,<- hlen];refine⟨.ref s.heap.objs.size,_,I.laid (t':=s.toks) (o:=.lst (cutV xs lo hi)) (λb ob q=>Wac _ q) (Wak _) ?_,rfl,q _ (I.hok.fresh (Wak _))⟩;exact⟨Wat (Zfo xs lo hi) hz,_,0,(r.drop (HT.sIx xs.length 0 lo)).take (HT.sIx xs.length xs.length hi-HT.sIx xs.length 0 lo),Wal _ rfl⟩
def flatV:V->Bool
 |.non=>true
 |.bl _=>true
 |.int _=>true
 |.str _=>true
 |_=>false
def eqV:V->V->Bool
 |.non,.non=>true
 |.bl a,.bl b=>a == b
 |.bl a,.int b=>(if a then 1 else 0) == b
 |.int a,.bl b=>a == (if b then 1 else 0)
 |.int a,.int b=>a == b
 |.str a,.str b=>a == b
 |_,_=>false
theorem Ztp {A:Around}{s:Shared}{y x:V}{u v:Value}(ry:RelV y u) (rx:RelV x v) (fy:flatV y=true) (fx:flatV x=true):SeqAt.EqAt A s u v (eqV y x):=by
 cases y with
 |non=>
  cases ry;cases x with
  |non=>cases rx;exact SeqAt.EqAt.same _
  |bl b=>cases rx;exact SeqAt.EqAt.none_bool b
  |int b=>obtain⟨t,rfl⟩:=rx;exact SeqAt.EqAt.none_int b t
  |str b=>obtain⟨t,rfl⟩:=rx;exact SeqAt.EqAt.none_str b t
  |_=>exact absurd (show false=true from fx) Wan
 |bl a=>
  cases ry;cases x with
  |non=>cases rx;exact SeqAt.EqAt.bool_none a
  |bl b=>cases rx;exact SeqAt.EqAt.bool_bool a b
  |int b=>obtain⟨t,rfl⟩:=rx;exact SeqAt.EqAt.bool_int a b t
  |str b=>obtain⟨t,rfl⟩:=rx;exact SeqAt.EqAt.bool_str a b t
  |_=>exact absurd (show false=true from fx) Wan
 |int a=>
  obtain⟨t',rfl⟩:=ry;cases x with
  |non=>cases rx;exact SeqAt.EqAt.int_none a t'
  |bl b=>cases rx;exact SeqAt.EqAt.int_bool a t' b
  |int b=>obtain⟨t,rfl⟩:=rx;exact SeqAt.EqAt.int_int a t' b t
  |str b=>obtain⟨t,rfl⟩:=rx;exact SeqAt.EqAt.int_str a t' b t
  |_=>exact absurd (show false=true from fx) Wan
 |str a=>
  obtain⟨t',rfl⟩:=ry;cases x with
  |non=>cases rx;exact SeqAt.EqAt.str_none a t'
  |bl b=>cases rx;exact SeqAt.EqAt.str_bool a t' b
  |int b=>obtain⟨t,rfl⟩:=rx;exact SeqAt.EqAt.str_int a t' b t
  |str b=>obtain⟨t,rfl⟩:=rx;exact SeqAt.EqAt.str_str a t' b t
  |_=>exact absurd (show false=true from fx) Wan
 |_=>exact absurd (show false=true from fy) Wan
def eqU (x:V) (u:Value):Bool:=match u with
 |.none=>eqV .non x
 |.bool b=>eqV (.bl b) x
 |.int i _=>eqV (.int i) x
 |.str z _=>eqV (.str z) x
 |_=>false
theorem Zoz {x y:V}{u:Value}(r:RelV y u) (f:flatV y=true):eqU x u=eqV y x:=by
 cases y with
 |non=>cases r;rfl
 |bl b=>cases r;rfl
 |int i=>obtain⟨t,rfl⟩:=r;rfl
 |str z=>obtain⟨t,rfl⟩:=r;rfl
 |_=>exact absurd (show false=true from f) Wan
theorem Zh3:CallR X (.builtin "len") (λxs H Q=>∃p ys,xs=[.ref p]/\(SqL X.K H p ys\/SqT X.K H p ys)/\Q (.int ys.length) H):=by
 intro pins s σ H xs us Q I r h;obtain⟨p,ys,rfl,hq,q⟩:=h;obtain⟨u,rfl,rx⟩:=vals1 r;cases rx;have hn:=line63;rcases hq with hq|hq
 ·obtain⟨its,r',pl,hz⟩:=I.list hq
  have hlen:=r'.length;exact Calls.call_len_list pl.isList (by simp only[Waf] <;> omega) ⟨.int ys.length,H,I.tok _,⟨s.toks+1,by rw[Waf,hlen]⟩,q⟩
 ·obtain⟨its,r',pl,hz⟩:=I.tuple hq
  have hlen:=r'.length;exact len_tuple pl (by simp only[Waf] <;> omega) ⟨.int ys.length,H,I.tok _,⟨s.toks+1,by rw[Waf,hlen]⟩,q⟩
theorem CallR.or {f:Value}{r r':List V->Hp->VK->Prop}(h:CallR X f r) (h':CallR X f r'):CallR X f (λxs H Q=>r xs H Q\/r' xs H Q):=by
 intro pins s σ H xs us Q I rs q;rcases q with q|q
 ·exact h pins s σ H xs us Q I rs q
 ·exact h' pins s σ H xs us Q I rs q
theorem Zht:CallR X (.type "list") (λxs H Q=>∃p ys,xs=[.ref p]/\(SqL X.K H p ys\/SqT X.K H p ys)/\∀l,H l=none->Q (.ref l) (upd H l (.lst ys))):=by
 intro pins s σ H xs us Q I r h;obtain⟨p,ys,rfl,hq,q⟩:=h;obtain⟨u,rfl,rx⟩:=vals1 r;cases rx;have fin:∀(its:List Value),Vals ys its->ys.length<=sizeLine->∀(h':Heap) (c':Nat),(∀b o',s.heap.get? b=some o' -> h'.get? b=some o') →
   h'.get? s.heap.objs.size=some { cls:=.type "list",dict:=none,data:=.seq its.toArray c',slots:=#[] } -> EP X pins σ Q (.ref s.heap.objs.size) { s with heap:=h' }:=λits r' hz h' c' kp e=>
  ⟨.ref s.heap.objs.size,_,I.laid (t':=s.toks) kp (Wak _) (show ObjOk X.prog X.w _ h' _ (.lst ys) from ⟨hz,its,c',r',e⟩),rfl,q _ (I.hok.fresh (Wak _))⟩
 rcases hq with hq|hq
 ·obtain⟨its,r',pl,hz⟩:=I.list hq
  have hlen:=r'.length;obtain⟨o,ho,hc,n,hd⟩:=pl.isList;exact call_list_seq p (.inl rfl) ho hc hd (λh' c' kp e=>fin its r' hz h' c' kp e) (by simp only[Waf] <;> omega)
 ·obtain⟨its,r',pl,hz⟩:=I.tuple hq
  have hlen:=r'.length;obtain⟨o,ho,hc,n,hd⟩:=pl;exact call_list_seq p (.inr rfl) ho hc hd (λh' c' kp e=>fin its r' hz h' c' kp e) (by simp only[Waf] <;> omega)
theorem Zg4:CallR X (.type "tuple") (λxs H Q=>∃p ys,xs=[.ref p]/\((SqL X.K H p ys/\∀l,H l=none->Q (.ref l) (upd H l (.tup ys)))\/(SqT X.K H p ys/\Q (.ref p) H))):=by
 intro pins s σ H xs us Q I r h;obtain⟨p,ys,rfl,h⟩:=h;obtain⟨u,rfl,rx⟩:=vals1 r;cases rx;rcases h with ⟨hq,q⟩|⟨hq,q⟩
 ·obtain⟨its,r',pl,hz⟩:=I.list hq
  have hlen:=r'.length;refine call_tuple_list pl.isList (λh' kp=>?_) (by simp only[Waf] <;> omega)
  have I1:Inv X pins σ H { s with heap:=h' }:=I.kept (t':=s.toks) kp;have I2:Inv X pins σ (upd H h'.objs.size (.tup ys)) { s with heap:=h'.push { cls:=.type "tuple",data:=.seq its.toArray } }:=
   I1.laid (t':=s.toks) (λb o e=>Wac _ e) (Wak _) (show ObjOk X.prog X.w _ _ _ (.tup ys) from ⟨hz,its,r',IsTupN.new _ _⟩)
  exact⟨.ref h'.objs.size,_,I2,rfl,q _ (I1.hok.fresh (Wak _))⟩
 ·obtain⟨its,r',pl,hz⟩:=I.tuple hq
  exact call_tuple_same pl ⟨.ref p,H,I,rfl,q⟩
def tyV (K:W.Frag) (T:String) (x:V) (H:Hp):Prop:=match x with
 |.str _=>T = "str"
 |.int _=>T = "int"
 |.ref p=>(T = "list" /\ ∃xs,SqL K H p xs)\/(T = "tuple" /\ ((∃o,K.lookup p=some o/\o.cls=.type "tuple" /\ o.dict=none)\/∃xs,H p=some (.tup xs))) ∨
   (T = "dict" /\ ((∃kvs,H p=some (.dK kvs))\/∃kvs,H p=some (.dT kvs)))\/(T = "set" /\ ∃S n,H p=some (.set S n))
 |_=>False
theorem Zov {pins:List (Addr × Obj)}{σ:St}{H:Hp}{s:Shared}{T:String}{x:V}{v:Value}(I:Inv X pins σ H s) (r:RelV x v) (ty:tyV X.K T x H) :
  s.TypeIs v T/\∀a,v=.ref a->∃ob,s.heap.get? a=some ob/\ob.dict=none:=by
 cases x with
 |str z=>
  obtain⟨t,rfl⟩:=r;cases (show T = "str" from ty);exact⟨typeIs_str s z t,λ_ e=>nomatch e⟩
 |int i=>
  obtain⟨t,rfl⟩:=r;cases (show T = "int" from ty);exact⟨typeIs_int s i t,λ_ e=>nomatch e⟩
 |ref p=>
  cases r;rcases ty with ⟨rfl,xs,hq⟩|⟨rfl,(⟨o,hk,hc,hd⟩|⟨xs,hk⟩)⟩|⟨rfl,hk⟩|⟨rfl,S,n,hk⟩
  ·obtain⟨its,_,pl,_⟩:=I.list hq
   refine⟨pl.isList.typeIs,λa e=>?_⟩;cases e;obtain⟨o,n,e,c,hd,_⟩:=pl;exact⟨o,e,hd⟩
  ·refine⟨⟨o,I.kIn p o hk,hc⟩,λa e=>?_⟩
   cases e;exact⟨o,I.kIn _ o hk,hd⟩
  ·obtain⟨_,_,_,o,e,⟨hc,_⟩,hd⟩:=I.hok p _ hk
   refine⟨⟨o,e,hc⟩,λa e2=>?_⟩;cases e2;exact⟨o,e,hd⟩
  ·have z:∃o,s.heap.get? p=some o/\o.ExactDict:=by
    rcases hk with ⟨kvs,hk⟩|⟨kvs,hk⟩
    ·obtain⟨_,_,_,_,o,_,_,e,ex,_⟩:=I.hok p _ hk
     exact⟨o,e,ex⟩
    ·obtain⟨_,_,_,_,o,_,_,e,ex,_⟩:=I.hok p _ hk
     exact⟨o,e,ex⟩
   obtain⟨o,e,ex⟩:=z;refine⟨⟨o,e,ex.1⟩,λa e2=>?_⟩;cases e2;exact⟨o,e,ex.2.1⟩
  ·obtain⟨o,_,_,_,e,ex,_⟩:=I.hok p _ hk
   refine⟨⟨o,e,ex.1⟩,λa e2=>?_⟩;cases e2;exact⟨o,e,ex.2.1⟩
 |_=>exact False.elim ty
def tBM0 (K:W.Frag) (T:String) (r:V->List V->Hp->VK->Prop) (to:TE):TE:=λσ H Q=>to σ H λx H1=>tyV K T x H1/\r x [] H1 Q
def tBM (K:W.Frag) (T:String) (r:V->List V->Hp->VK->Prop) (to:TE) (t:TA):TE:=λσ H Q=>to σ H λx H1=>tyV K T x H1/\t σ H1 λxs H2=>r x xs H2 Q
variable {o e:Expr}{es:List Expr}{to:TE}{t:TA}{name:Str}{apos cpos:Pos}{T id:String}{r:V->List V->Hp->VK->Prop}
theorem Zrz (pa:PlainAttrs T) (slot:Slot T name id) (hty:typeOf (.builtin id)=pure (.type "method_descriptor")) (hm:MtR X id r) (ho:PE X o to)
  (hbase:attributeBase o name X.env (eval o X.env)=eval o X.env:=by rfl) (hline:(apos.endLine == cpos.line)=true:=by rfl):PE X (.Call (.Attribute o name apos) [] [] cpos) (tBM0 X.K T r to):=by
 intro pins s σ H Q I h;refine wpAny_Call_method0_late hbase hline (thn (ho pins s σ H _ I h) λv s1 ⟨x,H1,I1,r1,ty,q1⟩=>?_);obtain⟨h1,h2⟩:=Zov I1 r1 ty;exact⟨T,id,pa,slot,hty,h1,h2,Calls.callWith_builtin rfl (PySem.evalArgs_none (hm pins s1 σ H1 x [] v [] Q I1 r1 .nil q1))⟩
theorem Zt3 (pa:PlainAttrs T) (slot:Slot T name id) (hty:typeOf (.builtin id)=pure (.type "method_descriptor")) (hm:MtR X id r) (ho:PE X o to) (ha:PA X (e::es) t)
  (hbase:attributeBase o name X.env (eval o X.env)=eval o X.env:=by rfl)
  (hfew:((backTo cpos (starEach (e::es) X.env)).all (λx=>!x.1) && (backToKw cpos (keywordEach [] X.env)).all (λx=>x.1.isSome)
   && decide ((e::es).length+([]:List Keyword).length+(if ([]:List Keyword).isEmpty then 0 else 1)<30))=true:=by rfl)
  (hline:(apos.endLine == cpos.line)=true:=by rfl) (hs:starEach (e::es) X.env=(false,eval e X.env)::starEach es X.env:=by rfl) (hplain:(backTo cpos (starEach es X.env)).any (·.1)=false:=by rfl) :
  PE X (.Call (.Attribute o name apos) (e::es) [] cpos) (tBM X.K T r to t):=by
 intro pins s σ H Q I h;refine wpAny_Call_method_late hbase hfew hline rfl (thn (ho pins s σ H _ I h) λv s1 ⟨x,H1,I1,r1,ty,q1⟩=>?_);obtain⟨h1,h2⟩:=Zov I1 r1 ty;refine⟨T,id,pa,slot,hty,h1,h2,?_⟩;have hA:=ha cpos pins s1 σ H1 _ I1 q1;rw[hs]at hA ⊢;refine Calls.callWith_builtin (by show (false || (backTo cpos (starEach es X.env)).any (·.1))=false;rw[hplain] <;> rfl) (Calls.evalArgs_plain ?_)
 exact thn hA λus s2 ⟨vs,H2,I2,r2,q2⟩=>hm pins s2 σ H2 x vs v us Q I2 r1 r2 q2
end
end L2
namespace L2
open PySem PySem.Spec PyProof.Rows
def MtM (X:Cx) (id:String) (r:V->List V->Hp->VK->Prop):Prop:=
 ∀(pins:List (Addr × Obj)) (s:Shared) (σ:St) (H:Hp) (x:V) (xs:List V) (v:Value) (us:List Value) (Q:VK),Inv X pins σ H s->RelV x v->Vals xs us->r x xs H Q →
  wpAny (model X.prog X.w) X.A (call (.builtin id) (v::us)) (EP X pins σ Q) X.xe s
theorem Vals.one:∀{x:V}{us:List Value},Vals [x] us->∃u,us=[u]/\RelV x u:=by
 intro x us h;cases h with|cons r t=>cases t;exact⟨_,rfl,r⟩
theorem Vals.two:∀{x y:V}{us:List Value},Vals [x,y] us->∃u v,us=[u,v]/\RelV x u/\RelV y v:=by
 intro x y us h;cases h with|cons r t=>cases t with|cons q t=>cases t;exact⟨_,_,rfl,r,q⟩
theorem Vals.zero:∀{us:List Value},Vals [] us->us=[]
 |_,.nil=>rfl
theorem Vals.eraseIdx:∀{xs:List V}{us:List Value}(i:Nat),Vals xs us->Vals (xs.eraseIdx i) (us.eraseIdx i)
 |_,_,_,.nil=>.nil
 |_,_,0,.cons _ t=>t
 |_,_,i+1,.cons r t=>.cons r (Vals.eraseIdx i t)
theorem Zhi {α:Type}:∀(l:List α) (i:Nat),(l.eraseIdx i).length<=l.length
 |[],_=>Wak _
 |_::_,0=>Wc4 _
 |_::r,i+1=>Nat.succ_le_succ (Zhi r i)
section
variable {X:Cx}{pins:List (Addr × Obj)}{σ:St}{H:Hp}{s:Shared}{l b:Addr}{xs ys zs:List V}
theorem Inv.lset {its its':List Value}{n:Nat}{f:Array Value->Array Value}{t':Nat}(I:Inv X pins σ H s) (hH:H l=some (.lst xs))
  (e:s.heap.get? l=some { cls:=.type "list",data:=.seq its.toArray n }) (hf:f its.toArray=its'.toArray) (hv:Vals ys its') (hz:ys.length<=sizeLine) :
  Inv X pins σ (upd H l (.lst ys)) { s with heap:=s.heap.update l (Obj.mapSeq f),toks:=t' }:=by
 have q:=PySem.IsL.update e f;rw[hf]at q;refine I.write (x:=l) (e:=l) (by rw[hH];exact trivial) (.inl rfl) (λb' u hb hu=>(Wa7 s.heap (Obj.mapSeq f) (Ne.symm hb)).trans hu) ⟨_,q⟩ ?_;exact⟨hz,its',_,hv,q⟩
theorem Inv.lnew {its:List Value}{t':Nat}(I:Inv X pins σ H s) (hv:Vals ys its) (hz:ys.length<=sizeLine) :
  Inv X pins σ (upd H s.heap.objs.size (.lst ys)) { s with heap:=s.heap.push { cls:=.type "list",data:=.seq its.toArray },toks:=t' }:=
 I.laid (λ_ _ q=>Wac _ q) (Wak _) ⟨hz,its,0,hv,Wal _ rfl⟩
theorem Inv.fresh (I:Inv X pins σ H s):H s.heap.objs.size=none:=I.hok.fresh (Wak _)
theorem Inv.lstM (I:Inv X pins σ H s) (hH:H l=some (.lst xs)):xs.length<=sizeLine/\∃(its:List Value) (n:Nat),Vals xs its/\xs.length=its.length/\s.heap.get? l=some { cls:=.type "list",data:=.seq its.toArray n }:=by
 obtain⟨z,its,n,r,e⟩:=I.hok l _ hH;exact⟨z,its,n,r,r.length,e⟩
end
section
variable {X:Cx}
def rAppend:V->List V->Hp->VK->Prop:=λx vs H Q=>∃l xs y,x=.ref l/\vs=[y]/\H l=some (.lst xs)/\xs.length<sizeLine/\Q .non (upd H l (.lst (xs++[y])))
theorem Zdj:MtM X "list.append" rAppend:=by
 intro pins s σ H x vs v us Q I rx rv h;obtain⟨l,xs,y,rfl,rfl,hH,hz,q⟩:=h;cases rx;obtain⟨u,rfl,ru⟩:=rv.one;obtain⟨z,its,n,r,hl,e⟩:=I.lstM hH;refine call_meets F.slot_list_append ⟨_,e,rfl⟩ F.entry_list_append (F.args_list_append_2 _ _) (PySem.list_append l its.toArray n u (by rw[Waf];omega)) ⟨e,?_⟩;refine⟨.non,_,I.lset (its':=its++[u]) hH e (by simp) (r.append (.cons ru .nil)) ?_,rfl,q⟩;rw[Wag,Wb7];omega
def rPopAt:V->List V->Hp->VK->Prop:=λx vs H Q=>∃l xs i k y,x=.ref l/\vs=[.int i]/\H l=some (.lst xs) /\ -(2 ^ 63)<=i/\i<2 ^ 63/\seqIndex? i xs.length=some k/\xs[k]?=some y/\Q y (upd H l (.lst (xs.eraseIdx k)))
theorem Zjc:MtM X "list.pop" rPopAt:=by
 intro pins s σ H x vs v us Q I rx rv h;obtain⟨l,xs,i,k,y,rfl,rfl,hH,h1,h2,hk,hy,q⟩:=h;cases rx;obtain⟨u,rfl,ru⟩:=rv.one;obtain⟨t,rfl⟩:=ru;obtain⟨z,its,n,r,hl,e⟩:=I.lstM hH;obtain⟨w,hw,rw'⟩:=r.get hy;refine call_meets F.slot_list_pop ⟨_,e,rfl⟩ F.entry_list_pop (F.args_list_pop_2 _ _)
  (MeetsSeq.list_pop_at l its.toArray n i t k w (fitsIndex_both h1 h2) (by rw[Waf,<- hl];exact hk) (by rw[<- Array.getElem?_toList];exact hw) (by rw[Waf];omega)) ⟨e,?_⟩
 refine⟨y,_,I.lset (its':=its.eraseIdx k) hH e ?_ (r.eraseIdx k) ?_,rw',q⟩
 ·show its.toArray.eraseIdxIfInBounds k=(its.eraseIdx k).toArray
  rw[List.eraseIdxIfInBounds_toArray]
 ·have:=Zhi xs k
  omega
def rClear:V->List V->Hp->VK->Prop:=λx vs H Q=>∃l xs,x=.ref l/\vs=[]/\H l=some (.lst xs)/\Q .non (upd H l (.lst []))
theorem Zoe:MtM X "list.clear" rClear:=by
 intro pins s σ H x vs v us Q I rx rv h;obtain⟨l,xs,rfl,rfl,hH,q⟩:=h;cases rx;have hus:=rv.zero;subst hus;obtain⟨z,its,n,r,hl,e⟩:=I.lstM hH;refine call_meets F.slot_list_clear ⟨_,e,rfl⟩ F.entry_list_clear (F.args_list_clear_1 _) (AutoSeq1.list_clear_list_0 l its.toArray n (by rw[Waf];omega)) ⟨e,?_⟩;exact⟨.non,_,I.lset (its':=[]) (ys:=[]) hH e rfl .nil (Wbt _),rfl,q⟩
def rCat:R2:=λx y H Q=>∃l b xs zs,x=.ref l/\y=.ref b/\H l=some (.lst xs)/\H b=some (.lst zs)/\xs.length+zs.length<=sizeLine/\∀p,H p=none->Q (.ref p) (upd H p (.lst (xs++zs)))
theorem Ztq:OpR X (binaryOp .Add) rCat:=by
 intro pins s σ H x y v u Q I rx ry h;obtain⟨l,b,xs,zs,rfl,rfl,hH,hB,hz,q⟩:=h;cases rx;cases ry;obtain⟨z,its,n,r,hl,e⟩:=I.lstM hH;obtain⟨z2,its2,n2,r2,hl2,e2⟩:=I.lstM hB;refine PySem.P.add_list e e2 ?_ (by rw[Waf,Waf];omega);have ea:its.toArray++its2.toArray=(its++its2).toArray:=by simp
 rw[ea];exact⟨.ref _,_,I.lnew (t':=s.toks) (r.append r2) (by rw[Wag];omega),rfl,q _ I.fresh⟩
end
end L2
namespace Att
open PySem PySem.W PySem.Calls PyProof.Rows
theorem Zfd {P:Params}{h:Heap}:∀(ns:List Int) (vs:List Value),WellAll P h vs (ns.map WData.int)->IntsAre vs ns:=by
 intro ns
 induction ns with
 |nil=>
  intro vs w;rw[Wdd]at w;cases w;exact .nil
 |cons n ns ih=>
  intro vs w;rw[Wa4]at w;cases w with
  |cons a b=>
   cases a;exact .cons _ _ (ih _ b)
theorem Zlq {l:OpenLaw}{n:Nat}(hn:l.most=some n) {P:Params}{h:Heap}{args:List WData}{vals:List Value}
  (hpre:l.row.toRowW.claim.pre args=true) (hwl:WellAll P h vals args) :
  ∃a vs ns,vals=[Value.ref a]/\args=[WData.list (ns.map WData.int)]/\h.get? a=some { cls:=.type "list",data:=.seq vs.toArray } /\ IntsAre vs ns/\ns.length<=n:=by
 have hsh:WShape.hasAll [] args [.list .int]=true:=(pre_splitW hpre).1;have hc:l.pre.holds [] { args:=args } = true:=(pre_splitW hpre).2;obtain⟨d,r,rfl,h1,h2⟩:=hasAllW_cons hsh;obtain rfl:=hasAllW_nil h2;obtain⟨xs,rfl,h3⟩:=hasW_list h1;obtain⟨ns,rfl⟩:=items_int h3;have hlen:ns.length<=n:=by
  unfold OpenLaw.pre at hc;have h4:(WTm.not (.lt (.lit (.int (n:Int))) (.len (.arg 0)))).holds [] { args:=[.list (ns.map .int)] } = true:=by
   have h4:=(holds_andW hc).1;rw[hn]at h4;exact h4
  have h5:=condW_of h4 (w_not (w_lt w_lit (w_len_list (w_arg rfl))));rw[Waa]at h5;refine Nat.le_of_not_lt λq=>?_;have q':(n:Int)<((ns.length:Nat):Int):=by omega
  first
   | (rw[decide_eq_true q']at h5;exact absurd h5 (by decide))
   | (simp at h5;omega)
 cases hwl with
 |cons w1 w2=>
  cases w2;cases w1 with
  |list ho hall=>exact⟨_,_,ns,rfl,rfl,ho,Zfd ns _ hall,hlen⟩
theorem Zmx (l:OpenLaw) (args:List WData):l.row.toRowW.claim.post args (.bool true) args=true:=
 postW_of (r:=l.row.toRowW) (X:=(true == true))
  (show WShape.has [] (.bool true) .bool=true by first|rfl|decide|simp[WShape.has,WShape.arms,WShape.armsAll])
  (show (WTm.eq .res (.lit (.bool true))).value [] { args:=args,res:=some (.bool true),after:=args } = some (.bool (true == true)) from w_eq_bool (w_res rfl) w_lit) rfl
theorem attach_call {l:OpenLaw}{n:Nat}{q:Program}{loose:List Str}{XP:(Str->Option Value)->Heap->Prop}{YP:World->Heap->Prop}{d:DefRec}
  (hn:l.most=some n) (hdf:d.params.defaults=[])
  (call:∀(w:World) (s₀ s₁:Shared) (mg mb:Str->Option Value) (fa:Addr) (o:Obj) (pm cd doc:Value) (a:Addr) (vs:List Value) (ns:List Int),
   Ground q loose [] XP w s₀ mg mb s₁.heap->YP w s₁.heap →
   s₁.heap.get? fa=some o->o.data=.func (docDef d.name d.params d.body d.scope pm cd doc)->s₁.heap.CodeRec cd d.name->mg d.name=some (.ref fa) →
   s₁.heap.get? a=some { cls:=.type "list",data:=.seq vs.toArray } -> IntsAre vs ns->ns.length<=n->s₁.gens = #[] →
   codeAny (model l.prog w) callerA (.call (.ref fa) ⟨[.ref a],[]⟩) (λr s'=>r=.ok (.ret (.bool true))/\OldK s₁.heap s'.heap/\s'.os=s₁.os/\AllBare s'.gens) s₁) :
  WalkO q loose XP YP l.row.toRowW d [] (λf vs=>PySem.call f vs):=by
 intro w s₀ s₁ mg mb G Y fa o pm cd doc dV kV ho hd hcd hD hmg hg args vals as hpre hlay hrd hwl hlo;obtain rfl:dV=.none:=Dflts.none hD hdf;obtain rfl:kV=.none:=Dflts.noKw hD;obtain⟨a,vs,ns,rfl,rfl,hobj,hints,hlen⟩:=Zlq hn hpre hwl;refine enter_call (codeAny_mono (call w s₀ s₁ mg mb fa o pm cd doc a vs ns G Y ho (fd_plain hd) hcd hmg hobj hints hlen hg) λr s' hq=>?_);obtain⟨rfl,h2,h3,h4⟩:=hq;exact⟨.inl ⟨.bool true,.bool true,[],rfl,λ_=>rfl,.bool true,Zmx l _,λ_=>⟨List.Pairwise.nil,λ_ hm=>(nomatch hm)⟩⟩,h2,h3,h4⟩
section
variable {prog:Program}{w:World}{A:Around}{E:Value->Shared->Prop}{s:Shared}{K:Frag}
def noObjs (h:Heap):Heap:={ h with objs:=#[] }
end
end Att
namespace L2
open PySem PySem.Spec PyProof.Rows
theorem Zej:∀{vs:List Value}{ns:List Int},IntsAre vs ns->Vals (ns.map V.int) vs
 |_,_,.nil=>.nil
 |_,_,.cons n t h=>.cons ⟨t,rfl⟩ (Zej h)
end L2
namespace L2
open PySem PySem.Spec PyProof.Rows
end L2
namespace L2
open PySem PySem.Spec PyProof.Rows
def defArgs (s:Stmt):Arguments:=match s with
 |.FunctionDef _ a _ _ _ _ _ _ _ _=>a
 |_=>{ posonlyargs:=[],args:=[],vararg:=none,kwonlyargs:=[],kw_defaults:=[],kwarg:=none,defaults:=[] }
def defBody (s:Stmt):List Stmt:=match s with
 |.FunctionDef _ _ b _ _ _ _ _ _ _=>b
 |_=>[]
def defScope (s:Stmt):Scope:=match s with
 |.FunctionDef _ _ _ _ _ _ sc _ _ _=>sc
 |_=>{ kind:=.function,names:=[],isGenerator:=false,isCoroutine:=false }
abbrev CX0:CXT:=λ_ _ _ _ _ _=>False
abbrev E0:XK:=λ_ _ _=>False
theorem pass0 {X:Cx}:Passes CX0 X E0:=λ_ _ _ _ _ _ _ h=>h.elim
structure Fun (K:W.Frag) (x qual:Str) (st:Stmt) (f:Addr) (fd:FuncData):Prop where
 ex:∃(oc:Value) (od:Option Addr) (kV doc pm:Value) (an:Option Addr) (cdv ct:Value) (osl:Array (Option Value)),
  fd=W.fnOf x qual (defArgs st) (defBody st) (defScope st) .none kV doc pm an cdv ct/\K.lookup f=some ⟨oc,od,.func fd,osl⟩ /\ W.codeIn K cdv qual=true
 kp:W.keepIn K (.ref f)=true
section
variable {P:Program}{w:World}{K:W.Frag}{mg:Str->Option Value}{base:Heap}
theorem Fun.ok {x qual:Str}{st:Stmt}{f:Addr}{fd:FuncData}{N ps:List Str}{k:Nat}{sp:Sp}(F:Fun K x qual st f fd) (S:FnScope N ps (defScope st)) (len:∀vs H Q E,sp vs H Q E->vs.length=ps.length)
  (hbody:∀(cdv:Value) (A:Around) (outer:List Env) (s:Shared) (H:Hp) (vs:List V) (Q:VK) (E:XK),Room k (A.deeper (envOfC qual (defScope st) s.heap.objs.size f cdv))->sp vs H Q E →
   ∃t,PSs (cxOf CX0 P w K mg base N qual (defScope st) f cdv A outer s H E).nox (defBody st) t/\t { nx:=λ_ H'=>Q .non H',rt:=Q } (start N vs) H):FnOk P w K mg base CX0 (k+1) f fd ps sp:=by
 obtain⟨oc,od,kV,doc,pm,an,cdv,ct,osl,rfl,lk,hcd⟩:=F.ex;refine Zqj lk hcd S len λA outer s H vs Q E hr hsp=>?_;obtain⟨t,h,q⟩:=hbody cdv A outer s H vs Q E hr hsp;exact⟨t,h.nox,q⟩
theorem Fun.binds {x qual:Str}{st:Stmt}{f:Addr}{fd:FuncData}{ps:List Str}(F:Fun K x qual st f fd)
  (h:∀(kV doc pm:Value) (an:Option Addr) (cdv ct:Value) (us:List Value),us.length=ps.length->bindArgs (W.fnOf x qual (defArgs st) (defBody st) (defScope st) .none kV doc pm an cdv ct) ⟨us,[]⟩=pure (ps.zip us)):Binds K fd ps []:=by
 obtain⟨oc,od,kV,doc,pm,an,cdv,ct,osl,rfl,lk,hcd⟩:=F.ex;exact .all (h kV doc pm an cdv ct)
theorem Zso {x qual:Str}{st:Stmt}{f:Addr}{oc:Value}{od an:Option Addr}{osl:Array (Option Value)}{kV doc pm cdv ct:Value}(l:K.lookup f=some ⟨oc,od,.func (W.fnOf x qual (defArgs st) (defBody st) (defScope st) .none kV doc pm an cdv ct),osl⟩)
  (c:W.codeIn K cdv qual=true) (k:W.keepIn K (.ref f)=true):Fun K x qual st f (W.fnOf x qual (defArgs st) (defBody st) (defScope st) .none kV doc pm an cdv ct):=⟨⟨oc,od,kV,doc,pm,an,cdv,ct,osl,rfl,l,c⟩,k⟩
end
theorem Zcy {A:Around}{k:Nat}(hr:Room k A):A.units+1<cLine:=Wbl (Wct (by decide:1<=64) _) hr.units
theorem small1000 {n:Nat}(h:n<=1000):n<sizeLine:=Wbl h (by decide)
section
variable {X:Cx}
theorem pv (i:Nat) {x:Str}{pos:Pos}(hN:X.N[i]?=some x:=by rfl) (hv:Vis X.env.scope x:=by first|exact Or.inl rfl|exact Or.inr (Or.inl rfl)|exact Or.inr (Or.inr rfl)) (hd:(x == ("__debug__":Str))=false:=by decide)
  (hcd:(x == ("__classdict__":Str))=false:=by decide):PE X (.Name x pos) (tVar i):=Zpg hN hv hd hcd
end
theorem iteF {A B:Prop}(h:B):if false=true then A else B:=by
 rw[if_neg Wan];exact h
theorem iteT {A B:Prop}(h:A):if true=true then A else B:=by
 rw[if_pos rfl];exact h
theorem ite2 {c A B:Prop}[Decidable c] (h1:c->A) (h2:¬ c->B):if c then A else B:=by
 by_cases h:c
 ·rw[if_pos h]
  exact h1 h
 ·rw[if_neg h]
  exact h2 h
def Same (H H':Hp):Prop:=∀b o,H b=some o->H' b=some o
theorem Same.refl (H:Hp):Same H H:=λ_ _ h=>h
theorem Same.trans {H H1 H2:Hp}(a:Same H H1) (b:Same H1 H2):Same H H2:=λc o h=>b c o (a c o h)
theorem Same.seq {K:W.Frag}{H H':Hp}{a:Addr}{xs:List V}(e:Same H H') (h:SqL K H a xs):SqL K H' a xs:=by
 rcases h with (h|⟨o,h⟩)|h
 ·exact .inl (.inl (e _ _ h))
 ·exact .inl (.inr ⟨o,e _ _ h⟩)
 ·exact .inr h
end L2
namespace L2
open PySem PySem.Spec PyProof.Rows
section
variable {κ:Type}[DecidableEq κ]
def valV (kvs:List (κ × V)) (k:κ):Option V:=(kvs.find? λkv=>decide (kv.1=k)).map (·.2)
def putK (kvs:List (κ × V)) (k:κ) (v:V):List (κ × V):=
 if (kvs.any λkv=>decide (kv.1=k))=true then kvs.map (λkv=>if kv.1=k then (kv.1,v) else kv) else kvs++[(k,v)]
theorem Zg8 {p:κ × V}{r:List (κ × V)}{k:κ}(e:p.1=k):valV (p::r) k=some p.2:=by simp[valV,Wcg,e]
theorem Zgv {p:κ × V}{r:List (κ × V)}{k:κ}(e:¬ p.1=k):valV (p::r) k=valV r k:=by simp[valV,Wcg,e]
theorem Zi8 (k:κ):∀kvs:List (κ × V),(kvs.any λkv=>decide (kv.1=k))=(valV kvs k).isSome
 |[]=>rfl
 |p::r=>by
  rw[List.any_cons];by_cases e:p.1=k
  ·simp only[Zg8 e,decide_eq_true e,Bool.true_or,Option.isSome_some]
  ·rw[Zgv e,decide_eq_false e,Bool.false_or];exact Zi8 k r
theorem Zdy (kvs:List (κ × V)) (k:κ) (v:V):(putK kvs k v).length<=kvs.length+1:=by
 unfold putK;split
 ·rw[Waa];omega
 ·rw[Wag,Wax,List.length_nil];omega
theorem RelO.isSome_eq {o:Option V}{u:Option Value}(r:RelO o u):o.isSome=u.isSome:=by
 cases o with
 |none=>cases u with
  |none=>rfl
  |some _=>exact(show False from r).elim
 |some _=>cases u with
  |none=>exact(show False from r).elim
  |some _=>rfl
theorem KV.val {kvs:List (κ × V)}{vs:List (κ × Value)}(r:KV kvs vs) (k:κ):RelO (valV kvs k) (valueAt vs k):=by
 unfold KV at r
 induction r with
 |nil=>exact True.intro
 |@cons p q ps qs h t ih=>
  obtain⟨h1,h2⟩:=h;by_cases e:p.1=k
  ·have e':q.1=k:=h1.symm.trans e
   have b:valueAt (q::qs) k=some q.2:=by simp[valueAt,Wcg,e']
   rw[Zg8 e,b];exact h2
  ·have e':¬ q.1=k:=λz=>e (h1.trans z)
   have b:valueAt (q::qs) k=valueAt qs k:=by simp[valueAt,Wcg,e']
   rw[Zgv e,b];exact ih
theorem KV.any {kvs:List (κ × V)}{vs:List (κ × Value)}(r:KV kvs vs) (k:κ):(kvs.any λkv=>decide (kv.1=k))=vs.any λkv=>decide (kv.1=k):=by
 unfold KV at r
 induction r with
 |nil=>rfl
 |cons h t ih=>rw[List.any_cons,List.any_cons,ih,h.1]
theorem KV.repl {kvs:List (κ × V)}{vs:List (κ × Value)}(r:KV kvs vs) (k:κ) {y:V}{u:Value}(ry:RelV y u) :
  KV (kvs.map λkv=>if kv.1=k then (kv.1,y) else kv) (vs.map λkv=>if kv.1=k then (kv.1,u) else kv):=by
 unfold KV at r ⊢
 induction r with
 |nil=>exact .nil
 |@cons p q ps qs h t ih=>
  rw[Wa4,Wa4];refine .cons ?_ ih;obtain⟨h1,h2⟩:=h;by_cases e:p.1=k
  ·rw[if_pos e,if_pos (h1.symm.trans e)];exact⟨h1,ry⟩
  ·rw[if_neg e,if_neg (λz=>e (h1.trans z))];exact⟨h1,h2⟩
theorem KV.put {kvs:List (κ × V)}{vs:List (κ × Value)}(r:KV kvs vs) (k:κ) {y:V}{u:Value}(ry:RelV y u):KV (putK kvs k y) (stored vs k u):=by
 unfold putK stored;rw[r.any k];by_cases e:(vs.any λkv=>decide (kv.1=k))=true
 ·rw[if_pos e,if_pos e];exact r.repl k ry
 ·rw[if_neg e,if_neg e];exact Paired.snoc r ⟨rfl,ry⟩
theorem KV.length {kvs:List (κ × V)}{vs:List (κ × Value)}(r:KV kvs vs):kvs.length=vs.length:=Paired.length r
end
theorem Zng {P:Program}{w:World}{k:Key}{u:Value}(r:RelV (kV k) u):(mixKind P w).is k u=true:=by
 cases k with
 |inl i=>obtain⟨t,e⟩:=(show ∃t,u=Value.int i t from r);subst e;exact Zic P w i t
 |inr x=>obtain⟨t,e⟩:=(show ∃t,u=Value.str x t from r);subst e;exact Zin P w x t
theorem Zh8 {P:Program}{w:World}:∀{ks:List Key}{us:List Value},Vals (ks.map kV) us->ItemsAre (mixKind P w) ks us
 |[],_,r=>by rw[Wdd]at r;cases r;exact .nil
 |k::ks,_,r=>by
  rw[Wa4]at r;cases r with
  |cons h t=>exact .cons (Zng h) (Zh8 t)
abbrev KT (H:Hp):List (List Key × V)->List (List Key × Addr × Value)->Prop:=Paired λp q=>p.1=q.1/\H q.2.1=some (.tup (p.1.map kV))/\RelV p.2 q.2.2
theorem KT.val {H:Hp}{kvs:List (List Key × V)}{xs:List (List Key × Addr × Value)}(r:KT H kvs xs) (k:List Key):RelO (valV kvs k) ((atKey xs k).map (·.2)):=by
 induction r with
 |nil=>exact True.intro
 |@cons p q ps qs h t ih=>
  obtain⟨h1,_,h2⟩:=h;by_cases e:p.1=k
  ·have e':q.1=k:=h1.symm.trans e
   have b:atKey (q::qs) k=some q.2:=by simp[atKey,Wcg,e']
   rw[Zg8 e,b];exact h2
  ·have e':¬ q.1=k:=λz=>e (h1.trans z)
   have b:atKey (q::qs) k=atKey qs k:=by simp[atKey,Wcg,e']
   rw[Zgv e,b];exact ih
theorem KT.repl {H:Hp}{kvs:List (List Key × V)}{xs:List (List Key × Addr × Value)}(r:KT H kvs xs) (k:List Key) {y:V}{u:Value}(ry:RelV y u) :
  KT H (kvs.map λkv=>if kv.1=k then (kv.1,y) else kv) (xs.map (putAt k u)):=by
 induction r with
 |nil=>exact .nil
 |@cons p q ps qs h t ih=>
  rw[Wa4,Wa4];refine .cons ?_ ih;obtain⟨h1,h2,h3⟩:=h;unfold putAt;by_cases e:p.1=k
  ·rw[if_pos e,if_pos (h1.symm.trans e)];exact⟨h1,h2,ry⟩
  ·rw[if_neg e,if_neg (λz=>e (h1.trans z))];exact⟨h1,h2,h3⟩
theorem KT.put {H:Hp}{kvs:List (List Key × V)}{xs:List (List Key × Addr × Value)}(r:KT H kvs xs) (k:List Key) {b:Addr}{y:V}{u:Value}(hb:H b=some (.tup (k.map kV))) (ry:RelV y u) :
  KT H (putK kvs k y) (storedH xs k b u):=by
 have e:(kvs.any λkv=>decide (kv.1=k))=(atKey xs k).isSome:=by
  rw[Zi8,(r.val k).isSome_eq,Option.isSome_map]
 unfold putK storedH;rw[e];by_cases q:(atKey xs k).isSome=true
 ·rw[if_pos q,if_pos q];exact r.repl k ry
 ·rw[if_neg q,if_neg q];exact Paired.snoc r ⟨rfl,hb,ry⟩
theorem KT.keeps {H H':Hp}{kvs:List (List Key × V)}{xs:List (List Key × Addr × Value)}(r:KT H kvs xs) (ht:∀b ys,H b=some (.tup ys)->H' b=some (.tup ys)):KT H' kvs xs:=
 Paired.mapP r λ_ _ z=>⟨z.1,ht _ _ z.2.1,z.2.2⟩
section
variable {P:Program}{w:World}{H:Hp}{h:Heap}{a:Addr}
theorem Zse {u:HO}(ok:HOk P w H h) (e:Rd H a u):ObjOk P w H h a u:=e.ok ok
theorem Zny {kvs:List (Key × V)}(ok:HOk P w H h) (e:Rd H a (.dK kvs)):kvs.length<=sizeLine/\(a == sysModules)=false/\∃vs,KV kvs vs/\h.DictOf (mixKind P w) a vs:=
 show ObjOk P w H h a (.dK kvs) from Zse ok e
theorem Zk4 {kvs:List (Key × V)}(ok:HOk P w H h) (e:H a=some (.dK kvs)):kvs.length<=sizeLine/\(a == sysModules)=false/\∃vs,KV kvs vs/\h.DictOf (mixKind P w) a vs:=Zny ok (.inl e)
theorem Zmw {ks:List Key}(ok:HOk P w H h) (e:H a=some (.tup (ks.map kV))):(tupleKind (mixKind P w)).is h ks a:=by
 obtain⟨_,its,r,o,h1,⟨h2,n,h3⟩,_⟩:=(show ObjOk P w H h a (.tup (ks.map kV)) from ok a _ e);exact⟨o,its.toArray,n,h1,h2,h3,by simpa using Zh8 r⟩
theorem Zp1 {kvs:List (List Key × V)}(ok:HOk P w H h) (e:Rd H a (.dT kvs)):kvs.length<=sizeLine/\(a == sysModules)=false ∧
  ∃xs,KT H kvs xs/\h.DictOfH (tupleKind (mixKind P w)) a xs:=by
 obtain⟨z,y,xs,r,o,es,ep,h1,h2,h3,h4,h5⟩:=(show ObjOk P w H h a (.dT kvs) from Zse ok e);refine⟨z,y,xs,r,o,es,ep,h1,h2,h3,h4,λx hx=>?_,h5⟩;have all:∀{l:List (List Key × V)}{m:List (List Key × Addr × Value)},KT H l m->∀x∈m,(tupleKind (mixKind P w)).is h x.1 x.2.1:=by
  intro l m q
  induction q with
  |nil=>intro x hx;exact nomatch hx
  |@cons p q ps qs hq t ih=>
   intro x hx;rcases Wam.mp hx with e|hx
   ·subst e
    exact Zmw ok (by rw[<- hq.1];exact hq.2.1)
   ·exact ih x hx
 exact all r x hx
theorem Zt4 {kvs:List (List Key × V)}(ok:HOk P w H h) (e:H a=some (.dT kvs)):kvs.length<=sizeLine/\(a == sysModules)=false ∧
  ∃xs,KT H kvs xs/\h.DictOfH (tupleKind (mixKind P w)) a xs:=Zp1 ok (.inl e)
end
def DGet (H:Hp) (a:Addr) (y:V) (r:Option V):Prop:=
 (∃kvs k,Rd H a (.dK kvs)/\y=kV k/\r=valV kvs k)\/∃kvs k b,Rd H a (.dT kvs)/\y=.ref b/\H b=some (.tup (k.map kV))/\r=valV kvs k
def DPut (H:Hp) (a:Addr) (y v:V) (H':Hp):Prop:=
 (∃kvs k,H a=some (.dK kvs)/\y=kV k/\kvs.length<sizeLine/\H'=upd H a (.dK (putK kvs k v))) ∨
 ∃kvs k b,H a=some (.dT kvs)/\y=.ref b/\H b=some (.tup (k.map kV))/\kvs.length<sizeLine/\H'=upd H a (.dT (putK kvs k v))
section
variable {X:Cx}{pins:List (Addr × Obj)}{σ:St}{H:Hp}{s:Shared}{a:Addr}{y v:V}{u r:Value}{o:Option V}{A:Around}{E:Value->Shared->Prop}
theorem Inv.big (I:Inv X pins σ H s):sysModules<s.heap.objs.size:=by
 have h:mainGlobals<s.heap.objs.size:=(I.mod.glob.keeps I.bk).lt;exact Wdf (by decide) h
theorem Zkn {Q:Value->Shared->Prop}(hu:A.units+1<cLine) (I:Inv X pins σ H s) (g:DGet H a y (some v)) (ry:RelV y u) (h:∀w' s',Inv X pins σ H s' -> RelV v w' -> Q w' s') :
  wpAny (model X.prog X.w) A (getItem (.ref a) u) Q E s:=by
 rcases g with ⟨kvs,k,e,ey,l⟩|⟨kvs,k,b,e,ey,eb,l⟩
 ·subst ey
  obtain⟨z,hd,vs,rel,dd⟩:=Zny I.hok e;obtain⟨w',hw,rw'⟩:=RelO.some_of (v:=v) (o:=valueAt vs k) (by rw[l];exact rel.val k);exact wpAny_getItem_of (Zng ry) dd.mapOf hw (h w' _ (I.tok _) rw')
 ·subst ey
  cases (show u=Value.ref b from ry);obtain⟨z,hd,xs,rel,dd⟩:=Zp1 I.hok e;obtain⟨w',hw,rw'⟩:=RelO.some_of (v:=v) (o:=(atKey xs k).map (·.2)) (by rw[l];exact rel.val k);obtain⟨p,hp,hp2⟩:=Option.map_eq_some_iff.mp hw;refine wpAny_getItem_heap (tupleKind_room_in1 hu) (Zmw I.hok eb) dd hp ?_;rw[hp2];exact h w' _ (I.tok _) rw'
theorem Zif {h':Heap}{t':Nat}{ob:HO}(I:Inv X pins σ H s) (mu:Mut (H a)) (hs:Heap.SameBut a s.heap h') (he:∃q,h'.get? a=some q) (new:ObjOk X.prog X.w (upd H a ob) h' a ob) :
  Inv X pins σ (upd H a ob) { s with heap:=h',toks:=t' }:=
 I.write (x:=a) (e:=a) mu (.inl rfl) (λb q hb z=>(hs.2 b hb).trans z) he new
theorem Zpi {P:Program}{w:World}{H':Hp}{h':Heap}{kvs:List (Key × V)}{vs:List (Key × Value)}(z:kvs.length<=sizeLine) (hd:(a == sysModules)=false) (rel:KV kvs vs) (dd:h'.DictOf (mixKind P w) a vs) :
  ObjOk P w H' h' a (.dK kvs):=⟨z,hd,vs,rel,dd⟩
theorem Zls {H':Hp}{Q:Unit->Shared->Prop}(hu:A.units+1<cLine) (I:Inv X pins σ H s) (g:DPut H a y v H') (ry:RelV y u) (rv:RelV v r) (h:∀s',Inv X pins σ H' s' -> Q () s') :
  wpAny (model X.prog X.w) A (setItem (.ref a) u r) Q E s:=by
 rcases g with ⟨kvs,k,e,ey,l,eH⟩|⟨kvs,k,b,e,ey,eb,l,eH⟩
 ·subst ey eH
  obtain⟨z,hd,vs,rel,dd⟩:=Zk4 I.hok e;have hz:vs.length<=sizeLine:=by rw[<- rel.length];exact z
  have hl:(putK kvs k v).length<=sizeLine:=by have:=Zdy kvs k v;omega
  refine wpAny_setItem_pairs (hsz:=hz) (Zng ry) dd λh' dd' hs=>h _ ?_;have he:∃q,h'.get? a=some q:=let ⟨q,_,_,hq,_⟩:=dd'; ⟨q,hq⟩
  exact Zif I (by rw[e];exact True.intro) hs he (Zpi hl hd (rel.put k rv) dd')
 ·subst ey eH
  cases (show u=Value.ref b from ry);obtain⟨z,hd,xs,rel,dd⟩:=Zt4 I.hok e;have hz:xs.length<=sizeLine:=by rw[<- Paired.length rel];exact z
  have hl:(putK kvs k v).length<=sizeLine:=by have:=Zdy kvs k v;omega
  refine wpAny_setItem_heap (hsz:=hz) (tupleKind_room_in1 hu) (Zmw I.hok eb) dd λh' dd' hs=>h _ ?_;obtain⟨q,es,ep,hq,h2,h3,h4,_,h5⟩:=dd';refine Zif I (by rw[e];exact True.intro) hs ⟨q,hq⟩ ⟨hl,hd,_,(rel.put k eb rv).keeps λc ys ec=>?_,q,es,ep,hq,h2,h3,h4,h5⟩;rw[Zal (Ztz ec e (λz=>nomatch z))];exact ec
end
section
variable {X:Cx}{pins:List (Addr × Obj)}{σ:St}{H:Hp}{s:Shared}{a:Addr}{kvs:List (Key × V)}{k:Key}{u:Value}{A:Around}{E:Value->Shared->Prop}
theorem Zts {Q:Value->Shared->Prop}(I:Inv X pins σ H s) (e:Rd H a (.dK kvs)) (h:∀t s',Inv X pins σ H s' -> Q (.int kvs.length t) s'):wpAny (model X.prog X.w) A (call (.builtin "len") [.ref a]) Q E s:=by
 obtain⟨z,hd,vs,rel,dd⟩:=Zny I.hok e;refine call_len_dict hd dd (by rw[<- rel.length];rw[sizeLine_eq]at z;omega) ?_;rw[<- rel.length];exact h _ _ (I.tok _)
end
theorem Ziq {X:Cx}{pins:List (Addr × Obj)}{σ:St}{H:Hp}{s:Shared}{a:Addr}{y:V}{o:Option V}(I:Inv X pins σ H s) (g:DGet H a y o):s.TypeIs (.ref a) "dict":=by
 rcases g with ⟨kvs,k,e,_,_⟩|⟨kvs,k,b,e,_,_,_⟩
 ·obtain⟨_,_,vs,_,dd⟩:=Zny I.hok e
  exact dd.typeIs
 ·obtain⟨_,_,xs,_,dd⟩:=Zp1 I.hok e
  exact dd.typeIs
theorem Zj1 {P:Program}{w:World}{H:Hp}(h:Heap) (hb:sysModules<h.objs.size):ObjOk P w H (h.push { cls:=.type "dict",data:=.dict #[] }) h.objs.size (.dK []):=
 ⟨Wbt _,beq_eq_false_iff_ne.mpr (Ne.symm (Way hb)),[],.nil,Heap.DictOf.new h⟩
def tDNewK:TE:=λ_ H Q=>∀p,H p=none->Q (.ref p) (upd H p (.dK []))
section
variable {X:Cx}{pos:Pos}
theorem Zjq:PE X (.Dict [] [] pos) tDNewK:=λpins s σ H Q I h=>
 wpAny_Dict_empty ⟨.ref s.heap.objs.size,_,I.laid (a:=s.heap.objs.size) (o:=.dK []) (t':=s.toks) (λ_ _ q=>Wac _ q) (Wak _) (Zj1 s.heap I.big),rfl,h _ (I.hok.fresh (Wak _))⟩
end
def tPairs:List (TE × TE)->St->Hp->(List (V × V)->Hp->Prop)->Prop
 |[],_,H,Q=>Q [] H
 | (tk,tv)::r,σ,H,Q=>tk σ H λx H1=>tv σ H1 λy H2=>tPairs r σ H2 λps H3=>Q ((x,y)::ps) H3
abbrev VV:List (V × V)->List (Value × Value)->Prop:=Paired λp q=>RelV p.1 q.1/\RelV p.2 q.2
def PPs (X:Cx) (pos:Pos) (keys:List (Option Expr)) (values:List Expr) (trs:List (TE × TE)):Prop:=
 ∀(pins:List (Addr × Obj)) (s:Shared) (σ:St) (H:Hp) (Q:List (V × V)->Hp->Prop),Inv X pins σ H s->tPairs trs σ H Q →
  wpAny (model X.prog X.w) X.A (evalPairs (pairTrees keys values X.env pos)) (λvs s'=>∃ps H',Inv X pins σ H' s' /\ VV ps vs/\Q ps H') X.xe s
theorem Zk3 {X:Cx}{pos:Pos}:PPs X pos [] [] []:=λpins s σ H Q I h=>pairTrees_nil_walk ⟨[],H,I,.nil,h⟩
theorem Zjj {X:Cx}{pos:Pos}{k v:Expr}{ks:List (Option Expr)}{vs:List Expr}{tk tv:TE}{trs:List (TE × TE)}(hk:PE X k tk) (hv:PE X v tv) (hr:PPs X pos ks vs trs) :
  PPs X pos (some k::ks) (v::vs) ((tk,tv)::trs):=λpins s σ H Q I h=>
 pairTrees_cons_walk (thn (hk pins s σ H _ I h) λu s1 ⟨x,H1,I1,rx,q1⟩=>thn (hv pins s1 σ H1 _ I1 q1) λw2 s2 ⟨y,H2,I2,ry,q2⟩=>
  thn (hr pins s2 σ H2 _ I2 q2) λws s3 ⟨ps,H3,I3,rel,q3⟩=>⟨(x,y)::ps,H3,I3,.cons ⟨rx,ry⟩ rel,q3⟩)
def mergeK (kvs more:List (Key × V)):List (Key × V):=more.foldl (λacc kv=>putK acc kv.1 kv.2) kvs
theorem KV.merge:∀{more:List (Key × V)}{rs:List (Key × Value)}{kvs:List (Key × V)}{vs:List (Key × Value)},KV more rs->KV kvs vs->KV (mergeK kvs more) (merged vs rs):=by
 intro more rs kvs vs r;unfold KV at r
 induction r generalizing kvs vs with
 |nil=>intro q;exact q
 |@cons p q ps qs h t ih=>
  intro r0;have e:KV (putK kvs p.1 p.2) (stored vs q.1 q.2):=by
   have:=r0.put p.1 h.2;rw[<- h.1];exact this
  exact ih e
theorem Zd5:∀(more kvs:List (Key × V)),(mergeK kvs more).length<=kvs.length+more.length
 |[],kvs=>by show kvs.length<=kvs.length+0;omega
 |p::r,kvs=>by
  have h1:=Zd5 r (putK kvs p.1 p.2);have h2:=Zdy kvs p.1 p.2;show (mergeK (putK kvs p.1 p.2) r).length<=_;rw[Wax];omega
theorem Zf2 {P:Program}{w:World}:∀{kvs:List (Key × V)}{ws:List (Value × Value)},VV (kvs.map λkv=>(kV kv.1,kv.2)) ws->∃rs,Carries (mixKind P w) ws rs/\KV kvs rs
 |[],_,r=>by rw[Wdd]at r;cases r;exact⟨[],True.intro,.nil⟩
 |p::kvs,_,r=>by
  rw[Wa4]at r;cases r with
  |@cons a b as bs h t=>
   obtain⟨rs,c,q⟩:=Zf2 (P:=P) (w:=w) t;obtain⟨b1,b2⟩:=b;exact⟨(p.1,b2)::rs,⟨Zng h.1,rfl,c⟩,.cons ⟨rfl,h.2⟩ q⟩
def tDisp (trs:List (TE × TE)):TE:=λσ H Q=>∀p,H p=none->tPairs trs σ (upd H p (.dK [])) λps H2=>H2 p=some (.dK [])/\∃kvs:List (Key × V),ps=kvs.map (λkv=>(kV kv.1,kv.2))/\kvs.length<=15/\Q (.ref p) (upd H2 p (.dK (mergeK [] kvs)))
theorem Zlz {X:Cx}{pos:Pos}{keys:List (Option Expr)}{values:List Expr}{trs:List (TE × TE)}(h:PPs X pos keys values trs) (hall:keys.all (·.isSome)=true) (hl:keys.length=values.length) (h0:keys≠[])
  (h15:keys.length<=15):PE X (.Dict keys values pos) (tDisp trs):=by
 intro pins s σ H Q I q;have hn:=I.hok.fresh (Wak s.heap.objs.size);have I1:=I.laid (a:=s.heap.objs.size) (o:=.dK []) (h':=s.heap.push { cls:=.type "dict",data:=.dict #[] }) (t':=s.toks) (λ_ _ q=>Wac _ q) (Wak _) (Zj1 s.heap I.big);refine wpAny_Dict_walk (knd:=mixKind X.prog X.w) hall hl h0 h15 (thn (h pins _ σ _ _ I1 (q _ hn)) λws s2 ⟨ps,H2,I2,rel,e,kvs,ep,lk,q2⟩=>?_);subst ep;obtain⟨rs,c,rk⟩:=Zf2 (P:=X.prog) (w:=X.w) rel;obtain⟨z,hd,vs0,r0,dd⟩:=Zk4 I2.hok e;cases r0;refine⟨rs,c,dd,λh' dd' hs=>⟨.ref s.heap.objs.size,_,?_,rfl,q2⟩⟩;have hz:(mergeK [] kvs).length<=sizeLine:=by
  have h1:=Zd5 kvs [];rw[List.length_nil]at h1;rw[sizeLine_eq];omega
 have he:∃q,h'.get? s.heap.objs.size=some q:=let ⟨q,_,_,hq,_⟩:=dd'; ⟨q,hq⟩
 exact Zif I2 (by rw[e];exact True.intro) hs he (Zpi hz hd (rk.merge .nil) dd')
section
variable {X:Cx}{o e f:Expr}{apos cpos:Pos}{td ty tx:TE}
end
section
variable {X:Cx}{pins:List (Addr × Obj)}{σ:St}{H:Hp}{s:Shared}{a:Addr}{y:V}{u:Value}{A:Around}{E:Value->Shared->Prop}
end
end L2
namespace L2
open PySem PySem.Spec PyProof.Rows
section
variable {X:Cx}
theorem Zk0:CallR X (.builtin "len") (λxs H Q=>∃a kvs,xs=[V.ref a]/\H a=some (.dK kvs)/\Q (.int kvs.length) H):=by
 intro pins s σ H xs us Q I r h;obtain⟨a,kvs,rfl,ha,q⟩:=h;obtain⟨u,rfl,ru⟩:=vals1 r;cases ru;exact Zts I (.inl ha) λt s' I'=>⟨.int kvs.length,H,I',⟨t,rfl⟩,q⟩
end
def clOf (env:Env):List (Str × NameKind)->List (Str × Addr)->List (Str × Addr)
 |[],cs=>cs
 | (n,k)::r,cs=>if k == .free then (match env.cells.lookup n with
     |some a=>clOf env r ((n,a)::cs)
     |none=>clOf env r cs) else clOf env r cs
theorem Ze6 {env:Env}:∀(names:List (Str × NameKind)) (cs:List (Str × Addr)),(∀n,(n,NameKind.free)∈names->∃a,env.cells.lookup n=some a) →
  (forIn names cs λ(x:Str × NameKind) (cs:List (Str × Addr))=>if (x.2 == .free)=true then (do let a ← cellOf env x.1;pure (ForInStep.yield ((x.1,a)::cs))) else pure (ForInStep.yield cs):Sem (List (Str × Addr)))=pure (clOf env names cs)
 |[],cs,_=>rfl
 | (n,k)::r,cs,h=>by
  rw[List.forIn_cons];have hr:∀m,(m,NameKind.free)∈r->∃a,env.cells.lookup m=some a:=λm hm=>h m (Waq _ hm);cases hk:k == NameKind.free with
  |false=>
   have e:clOf env ((n,k)::r) cs=clOf env r cs:=by simp[clOf,hk]
   rw[e,<- Ze6 r cs hr];simp only[hk,Wc8,if_false];rfl
  |true=>
   have hk':k=.free:=by simpa using hk
   subst hk';obtain⟨a,ha⟩:=h n War;have e:clOf env ((n,.free)::r) cs=clOf env r ((n,a)::cs):=by simp[clOf,ha]
   have ec:cellOf env n=pure a:=by simp[cellOf,ha]
   rw[e,<- Ze6 r ((n,a)::cs) hr];simp only[hk,if_true,ec];rfl
theorem Zbv {env:Env}{scope:Scope}(h:∀n,(n,NameKind.free)∈scope.names->∃a,env.cells.lookup n=some a):closureFor scope env=pure (clOf env scope.names []):=by
 rw[<- Ze6 scope.names [] h];simp only[closureFor];exact Eq.trans (bind_pure _) rfl
theorem Zbs {env:Env}:∀(names:List (Str × NameKind)) (cs:List (Str × Addr)) {x:Str}{c:Addr},(∀y d,cs.lookup y=some d->env.cells.lookup y=some d)->(clOf env names cs).lookup x=some c->env.cells.lookup x=some c
 |[],cs,x,c,h,e=>h x c e
 | (n,k)::r,cs,x,c,h,e=>by
  unfold clOf at e;split at e
  ·split at e
   ·rename_i a ha
    refine Zbs r ((n,a)::cs) (λy d q=>?_) e;rw[Wbz]at q;split at q
    ·rename_i hy
     have hy':y=n:=by simpa using hy
     cases q;rw[hy'];exact ha
    ·exact h y d q
   ·exact Zbs r cs h e
  ·exact Zbs r cs h e
theorem Zei {env:Env}:∀(names:List (Str × NameKind)) (cs:List (Str × Addr)) {x:Str},(∃c,cs.lookup x=some c)->∃c,(clOf env names cs).lookup x=some c
 |[],cs,x,h=>h
 | (n,k)::r,cs,x,h=>by
  have h2:∀a,∃c,((n,a)::cs).lookup x=some c:=λa=>by
   rw[Wbz];split
   ·exact⟨_,rfl⟩
   ·exact h
  unfold clOf;split
  ·split
   ·exact Zei r _ (h2 _)
   ·exact Zei r cs h
  ·exact Zei r cs h
theorem Zc9 {env:Env}:∀(names:List (Str × NameKind)) (cs:List (Str × Addr)) {x:Str},(x,NameKind.free)∈names->(∃a,env.cells.lookup x=some a)->∃c,(clOf env names cs).lookup x=some c
 |[],_,_,h,_=>by simp at h
 | (n,k)::r,cs,x,h,⟨a,ha⟩=>by
  rcases Wam.mp h with e|hm
  ·have e1:n=x:=(congrArg Prod.fst e).symm
   have e2:k=.free:=(congrArg Prod.snd e).symm;subst e1;subst e2;have e:clOf env ((n,.free)::r) cs=clOf env r ((n,a)::cs):=by simp[clOf,ha]
   rw[e];exact Zei r _ ⟨a,by simp⟩
  ·unfold clOf
   split
   ·split
    ·exact Zc9 r _ hm ⟨a,ha⟩
    ·exact Zc9 r _ hm ⟨a,ha⟩
   ·exact Zc9 r _ hm ⟨a,ha⟩
def relab (osc scope:Scope):Scope:=
 { scope with names:=scope.names.map λ(n,k)=>if (k == .free && osc.kind == .function && osc.names.lookup n == some .cell) then (n,.cell) else (n,k) }
theorem Zhr {osc scope:Scope}{x:Str}{k:NameKind}(hk:k=.cell\/k=.free) (hc:∀y∈scope.names,y.2≠.cell) (h:(relab osc scope).names.lookup x=some k):(x,NameKind.free)∈scope.names:=by
 have hm:=PySem.mem_of_lookup h;obtain⟨⟨n,j⟩,hy,e⟩:=Was.mp hm;dsimp only at e;split at e
 ·rename_i hj
  have e1:n=x:=congrArg Prod.fst e;have hj':j=.free:=by
   simp only[Wa6,beq_iff_eq]at hj;exact hj.1.1
  rw[<- e1,<- hj'];exact hy
 ·have e1:n=x:=congrArg Prod.fst e
  have e2:j=k:=congrArg Prod.snd e;rcases hk with z|z
  ·exact absurd (show ((n,j):Str × NameKind).2=.cell from e2.trans z) (hc _ hy)
  ·rw[<- e1,<- z,<- e2];exact hy
theorem Zf3 {osc:Scope}{x:Str}:∀{names:List (Str × NameKind)},names.lookup x=some .free →
  (names.map λ(n,k)=>if (k == NameKind.free && osc.kind == .function && osc.names.lookup n == some .cell) then (n,NameKind.cell) else (n,k)).lookup x=some .cell ∨
  (names.map λ(n,k)=>if (k == NameKind.free && osc.kind == .function && osc.names.lookup n == some .cell) then (n,NameKind.cell) else (n,k)).lookup x=some .free
 |[],h=>by simp at h
 | (n,k)::r,h=>by
  have ih:=@Zf3 osc x r;rw[Wa4];cases hx:x == n with
  |true=>
   simp only[Wbz,hx]at h;cases h;dsimp only;split
   ·left;simp[Wbz,hx]
   ·right;simp[Wbz,hx]
  |false=>
   simp only[Wbz,hx]at h;dsimp only;split
   ·simpa only[Wbz,hx] using ih h
   ·simpa only[Wbz,hx] using ih h
structure CompSc (osc:Scope) (oN:List Str) (scope:Scope) (fvs:List Str) (sel:List Nat):Prop where
 kind:scope.kind=.function
 nocell:∀y∈scope.names,y.2≠.cell
 names:∀y∈scope.names,y.2=.local->scope.names.lookup y.1=some .local
 free:∀y∈scope.names,y.2=.free->osc.names.lookup y.1=some .cell\/osc.names.lookup y.1=some .free
 len:fvs.length=sel.length
 fv:∀p∈fvs.zip sel,oN[p.2]?=some p.1/\scope.names.lookup p.1=some .free
def compCx (X:Cx) (scope:Scope) (N:List Str) (C:Addr) (s:Shared) (H:Hp) (ex:List Addr) (pn:List (Addr × Obj)):Cx where
 prog:=X.prog
 w:=X.w
 K:=X.K
 mg:=X.mg
 base:=X.base
 A:=X.A
 N:=N
 s₀:=s
 H₀:=H
 env:=compEnvC scope (clOf X.env scope.names []) C X.env
 outer:=X.stack
 stack:=X.stack
 ex:=ex
 fn:=λ_=>false
 calm:=X.calm
 pn:=pn
 xe:=λ_ _=>False
def compSt (n:Nat) (sel:List Nat) (σ:St):St:=Wai n none++sel.map λi=>(σ[i]?).getD none
section
variable {X:Cx}{pins:List (Addr × Obj)}{σ:St}{H:Hp}{s:Shared}{fp:List Addr}{scope:Scope}{tgs fvs:List Str}{sel:List Nat}
theorem Zc5 (S:CompSc X.env.scope X.N scope fvs sel) (ok:X.Ok):∀n,(n,NameKind.free)∈scope.names->∃a,X.env.cells.lookup n=some a:=λn hn=>
 ok.has n (S.free _ hn rfl)
theorem Zq0 (S:CompSc X.env.scope X.N scope fvs sel) (N:List Str) (I:Inv X pins σ H s) (hf:∀b∈fp,FpOk X pins H b) (hlt:∀b∈fp,b<s.heap.objs.size):(compCx X scope N s.heap.objs.size s H fp (X.pn++pins)).Ok where
 mod:=I.ok.mod
 kind:=S.kind
 glob:=I.ok.glob
 blt:=I.ok.blt
 above:=Wak _
 inj:=λx y c h1 h2=>I.ok.inj x y c (Zbs _ _ (λ_ _ z=>by simp at z) h1) (Zbs _ _ (λ_ _ z=>by simp at z) h2)
 has:=λx hx=>by
  have hm:(x,NameKind.free)∈scope.names:=by
   rcases hx with z|z
   ·exact Zhr (osc:=X.env.scope) (.inl rfl) S.nocell z
   ·exact Zhr (osc:=X.env.scope) (.inr rfl) S.nocell z
  exact Zc9 scope.names [] hm (Zc5 S I.ok x hm)
 cab:=λx c h _=>by cases h
 hd:=I.ok.hd
 frames:=I.ok.frames
 stk:=.inl rfl
 exf:=λb hb=>⟨Way (hlt b hb),λx c e=>(hf b hb).2.2.2.2.1 x c (Zbs _ _ (λ_ _ z=>by simp at z) e)⟩
 bs:=I.bs
 bsz:=Wat I.ok.bsz I.sz
 noex:=λb o e hb=>by
  rcases(hf b hb).2.2.2.1 with z|z
  ·exact I.ok.noex b o e z
  ·exact absurd (Wav (Wao e) (Wat I.ok.bsz z)) (Wb2 _)
 exfs:=λb hb z=>by
  rcases Wam.mp (I.stkSub b z) with e|z
  ·exact(hf b hb).2.1 e
  ·exact(hf b hb).2.2.1 z
 funs:=I.stack
 frf:=I.stkFree
theorem Zju (S:CompSc X.env.scope X.N scope fvs sel) (I:Inv X pins σ H s) (hf:∀b∈fp,FpOk X pins H b) (hlt:∀b∈fp,b<s.heap.objs.size) {h':Heap}{tk:Nat}{m:Str->Option Value}
  (hns:h'.Ns s.heap.objs.size m) (old:∀b o,s.heap.get? b=some o->h'.get? b=some o) :
  Inv (compCx X scope (tgs++fvs) s.heap.objs.size s H fp (X.pn++pins)) [] (compSt tgs.length sel σ) H { s with heap:=h',toks:=tk } where
 ok:=Zq0 S _ I hf hlt
 os:=rfl
 bare:=I.bare
 base:=Un.kept old
 loc:=by
  refine⟨m,hns,λi x v h1 h2 h3=>?_⟩;have h1:(tgs++fvs)[i]?=some x:=h1;unfold compSt at h2;by_cases hi:i<tgs.length
  ·rw[Wbb (by simpa using hi),Wbw,if_pos hi]at h2
   cases h2
  ·have hi':tgs.length<=i:=Nat.le_of_not_lt hi
   rw[Waz (by simpa using hi'),Waj,Wa3]at h2;rw[Waz hi']at h1;cases hj:sel[i-tgs.length]? with
   |none=>rw[hj]at h2;cases h2
   |some j=>
    rw[hj]at h2;have h2:(σ[j]?).getD none=some v:=by simpa using h2
    have hz:(x,j)∈fvs.zip sel:=by
     refine Wap (i:=i-tgs.length) ?_;rw[Wbg];exact⟨h1,hj⟩
    obtain⟨hN,hfr⟩:=S.fv _ hz;have hσ:σ[j]?=some (some v):=by
     cases q:σ[j]? with
     |none=>rw[q]at h2;cases h2
     |some o=>rw[q]at h2;exact congrArg some h2
    have hko:X.env.scope.names.lookup x=some .cell\/X.env.scope.names.lookup x=some .free:=S.free (x,.free) (PySem.mem_of_lookup hfr) rfl;obtain⟨m0,hn0,hl0⟩:=I.loc;obtain⟨u,r,l⟩:=hl0 j x v hN hσ (.inr hko);refine⟨u,r,.inr ⟨Zf3 hfr,?_⟩⟩;rcases l with ⟨hk,_⟩|⟨_,c,hc,hcell⟩
    ·have hk:X.env.scope.names.lookup x=some .local:=hk
     rcases hko with z|z <;> (rw[hk]at z;cases z)
    ·obtain⟨c',hc'⟩:=Zc9 scope.names [] (PySem.mem_of_lookup hfr) ⟨c,hc⟩
     have e:=Zbs scope.names [] (λ_ _ z=>by simp at z) hc';rw[hc]at e;cases e;obtain⟨o,ho,hd⟩:=hcell;exact⟨c,hc',o,old _ _ ho,hd⟩
 cell:=λx c e=>by
  obtain⟨v,o,ho,hd⟩:=I.cell x c (Zbs _ _ (λ_ _ z=>by simp at z) e);exact⟨v,o,old _ _ ho,hd⟩
 free:=I.hok.fresh (Wak _)
 freeC:=λx c e=>I.freeC x c (Zbs _ _ (λ_ _ z=>by simp at z) e)
 pin:=λp hp=>by
  have hp:p∈(X.pn++pins)++[]:=hp;rw[Wbf]at hp;obtain⟨e,n,ne,nf,d⟩:=I.pin p hp;refine⟨old _ _ e,n,Way (Wao e),λz=>?_,d⟩;rcases Wam.mp (I.stkSub p.1 z) with q|q
  ·exact ne q
  ·exact nf q
 hok:=I.hok.kept old
 len:=by
  unfold compSt;show _=(tgs++fvs).length;rw[Wag,Wag,Wa3,Waa,S.len]
theorem Zec {N:List Str}{σ':St}{H':Hp}{s':Shared}{h':Heap}(I:Inv X pins σ H s) (hf:∀b∈fp,FpOk X pins H b)
  (J:Inv (compCx X scope N s.heap.objs.size s H fp (X.pn++pins)) [] σ' H' s') (sb:Heap.SameBut s.heap.objs.size s'.heap h'):Inv X pins σ H' { s' with heap:=h' }:=by
 have B:Un (frs X.stack) fp H H' s.heap s'.heap:=J.base;have ne:∀b o,s.heap.get? b=some o->b≠s.heap.objs.size:=λb o e=>Way (Wao e);have fr:H' s.heap.objs.size=none:=J.free;refine I.call' (s':={ s' with heap:=h' }) (ch:=fp) J.os ⟨λb o e n h1 h2=>?_,λb o e n h1 h2=>?_,B.free,λb o e h2=>?_,B.tups,B.frzs,B.tbls⟩ (λb ob e=>?_) J.bare λb hb=>?_
 ·exact(sb.2 b (ne b o e)).trans (B.keep b o e n h1 h2)
 ·obtain⟨sl,q⟩:=B.slot b o e n h1 h2
  exact⟨sl,(sb.2 b (ne b o e)).trans q⟩
 ·obtain⟨o',q⟩:=B.there b o e h2
  exact⟨o',(sb.2 b (ne b o e)).trans q⟩
 ·refine(J.hok b ob e).stay (λc w' hc q=>(sb.2 c ?_).trans q) (λ_ q=>q) λ_ _ q=>q
  intro z;rcases hc with hc|hc
  ·rw[<- hc,z,fr]at e;cases e
  ·rw[z,fr]at hc;cases hc
 ·exact⟨(hf b hb).2.2.2.1,(hf b hb).2.1,(hf b hb).2.2.2.2.1,(hf b hb).2.2.2.2.2⟩
end
def PTs (X:Cx) (ifs:List Expr) (t:TT):Prop:=
 ∀(pins:List (Addr × Obj)) (s:Shared) (σ:St) (H:Hp) (Q:Bool->Hp->Prop),Inv X pins σ H s->t σ H Q →
  wpAny (model X.prog X.w) X.A (forIn ifs true λc r=>if r=true then do let ok ← isTrue c X.env (eval c X.env);pure (ForInStep.yield ok) else pure (ForInStep.yield r)) (TP X pins σ Q) X.xe s
def tTrue:TT:=λ_ H Q=>Q true H
theorem Zcx {X:Cx}:PTs X [] tTrue:=λpins s σ H Q I h=>wpAny_tests_nil ⟨H,I,h⟩
theorem Ziu {X:Cx}{c:Expr}{t:TT}(h:PT X c t):PTs X [c] t:=λpins s σ H Q I hq=>wpAny_tests_one (h pins s σ H Q I hq)
def tComp (n:Nat) (sel:List Nat) (wi:TI) (g:TG) (tc:TT) (te:TE):TE:=λσ H Q=>wi σ H λJ H1=>∀acc,H1 acc=none->∃W:Nat->Nat->St->Hp->Prop,
 (∃m,W 0 m (compSt n sel σ) (upd H1 acc (.lst [])))/\∀i m σ' H',W i m σ' H' →
  (J.stop i H' /\ Q (.ref acc) H')\/(J.go i H' /\ ∃N:St->Hp->Prop,(∀σ2 H2,N σ2 H2->∃m',m'<m/\W (i+1) m' σ2 H2) ∧
   ∀x H2,J.yld i H' x H2->g x σ' H2 λσ2 H3=>tc σ2 H3 λb H4=>if b=true then te σ2 H4 λy H5=>∃ys,H5 acc=some (.lst ys)/\ys.length<sizeLine/\N σ2 (upd H5 acc (.lst (ys++[y]))) else N σ2 H4)
section
variable {X:Cx}
theorem Zff {elt tg iter:Expr}{ifs:List Expr}{scope:Scope}{pos:Pos}{tgs fvs:List Str}{sel:List Nat}{g:TG}{tc:TT}{te:TE}(S:CompSc X.env.scope X.N scope fvs sel) {Cm:Cx->Prop}(hc:∀C s H ex pn,Cm (compCx X scope (tgs++fvs) C s H ex pn))
  (hg:∀C s H ex pn,PG (compCx X scope (tgs++fvs) C s H ex pn) tg g) (ht:∀C s H ex pn,PTs (compCx X scope (tgs++fvs) C s H ex pn) ifs tc) (he:∀C s H ex pn,PE (compCx X scope (tgs++fvs) C s H ex pn) elt te)
  {pins:List (Addr × Obj)}{σ:St}{s:Shared}{itv:Value}{Q:VK}{E:Value->Shared->Prop}{RR:Value->Addr->Result->Shared->Prop}
  (h2:PIEG Cm X pins σ tg (λJ H1=>∀acc,H1 acc=none->∃W:Nat->Nat->St->Hp->Prop,
   (∃m,W 0 m (compSt tgs.length sel σ) (upd H1 acc (.lst [])))/\∀i m σ' H',W i m σ' H' →
   (J.stop i H' /\ Q (.ref acc) H')\/(J.go i H' /\ ∃N:St->Hp->Prop,(∀σ2 H2,N σ2 H2->∃m',m'<m/\W (i+1) m' σ2 H2) ∧
   ∀x H2,J.yld i H' x H2->g x σ' H2 λσ2 H3=>tc σ2 H3 λb H4=>if b=true then te σ2 H4 λy H5=>∃ys,H5 acc=some (.lst ys)/\ys.length<sizeLine/\N σ2 (upd H5 acc (.lst (ys++[y]))) else N σ2 H4)) itv s)
  (fin:∀(s':Shared) (C acc:Addr) (H':Hp) (m:Str->Option Value),s'.heap.Ns C m->FpOk X pins H' C->(∀h',Heap.SameBut C s'.heap h' -> Inv X pins σ H' { s' with heap:=h' })->Q (.ref acc) H' -> RR (.ref acc) C (.ok .next) s') :
  wpAny (model X.prog X.w) X.A (newList []) (λacc s3=>wpAny (model X.prog X.w) X.A (newFunctionEnv scope X.env.globals (clOf X.env scope.names []) [] X.env.qual none .none (some X.env)) (λcenv s4=>
   codeAny (model X.prog X.w) X.A (.compStart (.ListComp elt [⟨tg,iter,ifs,0⟩] scope pos) 0 itv acc { cenv with scope:=relabel scope X.env }) (RR acc cenv.locals) s4) E s3) E s:=by
 obtain⟨it,fp,tn,J,H1,e,I,T,st,f2,h2⟩:=h2;subst e;have hlt:∀b∈fp,b<s.heap.objs.size:=λb hb=>let ⟨o,ho,_⟩:=T.obj 0 _ st b hb; Wao ho
 refine wpAny_newObj_type (wpAny_newFunctionEnv S.nocell (by intro y hy;simp at hy) (λh1 hns hsb=>?_) S.kind);dsimp only at hns hsb ⊢;have I3:Inv X pins σ (upd H1 s.heap.objs.size (.lst [])) { s with heap:=s.heap.push { cls:=.type "list",data:=.seq ([]:List Value).toArray },toks:=s.toks }:=I.lnew (its:=[]) .nil (by decide);have hacc:H1 s.heap.objs.size=none:=I.hok.fresh (Wak _);obtain⟨W,⟨m0,w0⟩,turn⟩:=h2 s.heap.objs.size hacc;generalize hs3:({ s with heap:=s.heap.push { cls:=.type "list",data:=.seq ([]:List Value).toArray },toks:=s.toks }:Shared)=s3 at I3;have hh3:s3.heap=s.heap.push { cls:=.type "list",data:=.seq ([]:List Value).toArray }:=by rw[<- hs3]
 have old3:∀b o,s.heap.get? b=some o->s3.heap.get? b=some o:=λb o q=>by rw[hh3];exact Wac _ q
 have hf3:∀b∈fp,FpOk X pins (upd H1 s.heap.objs.size (.lst [])) b:=λb hb=>⟨by rw[Zal (Way (hlt b hb))];exact(f2 b hb).1,(f2 b hb).2⟩;have hlt3:∀b∈fp,b<s3.heap.objs.size:=λb hb=>by rw[hh3,Wbm];exact Wcl (hlt b hb)
 have tn3:tn 0 s3.heap:=T.keep 0 _ _ st λb hb o q=>old3 b o q;have old4:∀b o,s3.heap.get? b=some o->h1.get? b=some o:=λb o q=>by
  have hb:b≠s3.heap.objs.size:=Way (Wao q);rw[hh3]at hb q;exact(hsb.2 b hb).trans (Wac _ q)
 have tn4:tn 0 h1:=T.keep 0 _ _ tn3 λb hb o q=>old4 b o q;have hC:(s.heap.push { cls:=.type "list",data:=.seq ([]:List Value).toArray }).objs.size=s3.heap.objs.size:=by rw[hh3]
 rw[hC]at hns;have J0:=Zju (tgs:=tgs) (tk:=s.toks+([]:List (Str × Value)).length) S I3 hf3 hlt3 hns old4;have es:({ s3 with heap:=h1,toks:=s.toks+([]:List (Str × Value)).length }:Shared) = { s with heap:=h1,toks:=s.toks+([]:List (Str × Value)).length }:=by rw[<- hs3]
 rw[es]at J0;generalize hY:compCx X scope (tgs++fvs) s3.heap.objs.size s3 (upd H1 s.heap.objs.size (.lst [])) fp (X.pn++pins)=Y at J0;have hYp:Y.prog=X.prog:=by rw[<- hY];rfl
 have hYw:Y.w=X.w:=by rw[<- hY];rfl
 have hYK:Y.K=X.K:=by rw[<- hY];rfl
 have hYA:Y.A=X.A:=by rw[<- hY];rfl
 have hYc:Cm Y:=by rw[<- hY];exact hc _ _ _ _ _
 have hYx:Y.xe=λ_ _=>False:=by rw[<- hY];rfl
 have hYe:Y.env=compEnvC scope (clOf X.env scope.names []) s3.heap.objs.size X.env:=by rw[<- hY];rfl
 have stat:∀{H':Hp},(∀b∈fp,H' b=none)->∀b∈fp,FpOk Y [] H' b:=λhn b hb=>by
  rw[<- hY];refine⟨hn b hb,Way (hlt3 b hb),λz=>?_,.inl hb,λx c e=>?_,λp hp z=>?_⟩
  ·rcases Wam.mp (I3.stkSub b z) with q|q
   ·exact(hf3 b hb).2.1 q
   ·exact(hf3 b hb).2.2.1 q
  ·exact(hf3 b hb).2.2.2.2.1 x c (Zbs _ _ (λ_ _ z=>by simp at z) e)
  ·have hp:p∈(X.pn++pins)++[]:=hp
   rw[Wbf]at hp;exact(hf3 b hb).2.2.2.2.2 p hp z
 have loop:codeAny (model X.prog X.w) X.A (.compLoop (.ListComp elt [⟨tg,iter,ifs,0⟩] scope pos) 0 (.ref it) (.ref s.heap.objs.size) Y.env) (RR (.ref s.heap.objs.size) s3.heap.objs.size)
   { s with heap:=h1,toks:=s.toks+([]:List (Str × Value)).length }:=by
  refine codeAny_loop rfl (λn s'=>∃i σ' H',Inv Y [] σ' H' s' /\ tn i s'.heap/\(∀b∈fp,H' b=none)/\W i n σ' H') ?_ m0 ⟨0,_,_,J0,tn4,λb hb=>(hf3 b hb).1,w0⟩;rintro n s5 ⟨i,σ5,H5,I5,st5,fr5,w5⟩;show wpAny _ X.A ((compTurn (.ListComp elt [⟨tg,iter,ifs,0⟩] scope pos) 0 (.ref it) (.ref s.heap.objs.size) Y.env).onRaise (λx=>do noteFrame x Y.env;theTreesLotGoes x)) _ _ s5;refine wpAny_noted (wpAny_mono (E:=λ_ _=>False) ?_ (λ_ _ q=>q) λ_ _ z=>z.elim);rw[compTurn_list];refine wpAny_bind (wpAny_standAt (wpAny_bind ?_));rcases turn i n σ5 H5 w5 with ⟨stop,qn⟩|⟨go,N,hN,step⟩
  ·have D:=T.done Y hYp hYw hYK hYc i [] s5 σ5 H5 (λ_ _=>False) I5 (stat fr5) st5 stop
   rw[hYA]at D;refine thn D λr s6 ⟨hr,I6⟩=>?_;subst hr;refine wpAny_pure ?_;obtain⟨m6,hn6,_⟩:=I6.loc;rw[hYe]at hn6;refine fin s6 _ _ H5 m6 hn6 (I3.fpOk (Wak _) (by have z:=I6.free;rw[hYe]at z;exact z)) (λh' sb=>?_) qn;have I6':Inv (compCx X scope (tgs++fvs) s3.heap.objs.size s3 (upd H1 s.heap.objs.size (.lst [])) fp (X.pn++pins)) [] σ5 H5 s6:=by rw[hY];exact I6
   exact Zec I3 hf3 I6' sb
  ·have D:=T.item Y hYp hYw hYK hYc i [] s5 σ5 H5 (λ_ _=>False) I5 (stat fr5) st5 go
   rw[hYA]at D;refine thn D λr s6 ⟨u,hr,h6⟩=>?_;subst hr;refine wpAny_bind (thn h6 λ_ s7 ⟨x,H7,I7,r7,y7,st7,fr7⟩=>?_);have I7':=I7.pinned (stat fr7) (T.obj _ _ st7);have G:=hg s3.heap.objs.size s3 (upd H1 s.heap.objs.size (.lst [])) fp (X.pn++pins);have TT:=ht s3.heap.objs.size s3 (upd H1 s.heap.objs.size (.lst [])) fp (X.pn++pins);have EE:=he s3.heap.objs.size s3 (upd H1 s.heap.objs.size (.lst [])) fp (X.pn++pins);rw[hY]at G TT EE;have G1:=G _ s7 σ5 H7 x u _ I7' r7 (step x H7 y7);rw[hYp,hYw,hYA,hYx]at G1;refine wpAny_bind (thn G1 λ_ s8 ⟨σ8,H8,I8,q8⟩=>?_);have T1:=TT _ s8 σ8 H8 _ I8 q8;rw[hYp,hYw,hYA,hYx]at T1;refine wpAny_bind (thn T1 λok s9 ⟨H9,I9,q9⟩=>?_);have again:∀{s':Shared}{σ':St}{H':Hp},Inv Y ([]++pinsAt fp s7.heap) σ' H' s' -> N σ' H' -> ∃m,m<n/\∃i σ' H',Inv Y [] σ' H' s' /\ tn i s'.heap/\(∀b∈fp,H' b=none)/\W i m σ' H':=λ{s' σ' H'} K7 n7=>by
    obtain⟨m',hm,w7⟩:=hN σ' H' n7;refine⟨m',hm,i+1,σ',H',K7.unpinned,T.keep _ _ _ st7 λb hb o e=>(K7.pin (b,o) (Waw _ (Waw _ (Zck hb e)))).1,λb hb=>?_,w7⟩;obtain⟨o,e,d⟩:=T.obj _ _ st7 b hb;exact(K7.pin (b,o) (Waw _ (Waw _ (Zck hb e)))).2.1
   cases ok with
   |false=>
    have q9:N σ8 H9:=q9;exact wpAny_pure ⟨by rw[hYe],again I9 q9⟩
   |true=>
    have q9:te σ8 H9 λy H5=>∃ys,H5 s.heap.objs.size=some (.lst ys)/\ys.length<sizeLine/\N σ8 (upd H5 s.heap.objs.size (.lst (ys++[y]))):=q9;have E1:=EE _ s9 σ8 H9 _ I9 q9;rw[hYp,hYw,hYA,hYx]at E1;refine wpAny_bind (wpAny_bind (thn E1 λv sa ⟨y,Ha,Ia,ra,ys,ea,za,na⟩=>?_));have M:=Zdj (X:=Y) _ sa σ8 Ha (.ref s.heap.objs.size) [y] (.ref s.heap.objs.size) [v] (λ_ H=>N σ8 H) Ia rfl (.cons ra .nil) ⟨_,ys,y,rfl,rfl,ea,za,na⟩;rw[hYp,hYw,hYA,hYx]at M;refine wpAny_bind (thn M λ_ sb ⟨_,Hb,Ib,_,nb⟩=>wpAny_pure (wpAny_pure ⟨by rw[hYe],again Ib nb⟩))
 have hcs:(relabel scope X.env)=(relabel scope X.env):=rfl;have loop':=loop;rw[hYe]at loop';show codeAny (model X.prog X.w) X.A (.compStart (.ListComp elt [⟨tg,iter,ifs,0⟩] scope pos) 0 (.ref it) (.ref s.heap.objs.size) (compEnvC scope (clOf X.env scope.names []) (s.heap.push { cls:=.type "list",data:=.seq ([]:List Value).toArray }).objs.size X.env)) (RR (.ref s.heap.objs.size) (s.heap.push { cls:=.type "list",data:=.seq ([]:List Value).toArray }).objs.size) _;rw[hC];exact codeAny_compStart_list loop' (T.self _ 0 _ _ _ tn4 loop')
theorem Zcs {elt tg iter:Expr}{ifs:List Expr}{scope:Scope}{pos:Pos}{fvs:List Str}{sel:List Nat}{wi:TI}{g:TG}{tc:TT}{te:TE}(tgs:List Str) (S:CompSc X.env.scope X.N scope fvs sel) (hc:X.calm=true)
  (hi:PI X tg iter wi) (hg:∀C s H ex pn,PG (compCx X scope (tgs++fvs) C s H ex pn) tg g) (ht:∀C s H ex pn,PTs (compCx X scope (tgs++fvs) C s H ex pn) ifs tc) (he:∀C s H ex pn,PE (compCx X scope (tgs++fvs) C s H ex pn) elt te)
  (hs:∀x,foldedSetIterable iter X.env x=pure x:=by intro _;rfl) :
  PE X (.ListComp elt [⟨tg,iter,ifs,0⟩] scope pos) (tComp tgs.length sel wi g tc te):=by
 intro pins s σ H Q I h;rw[eval_ListComp];refine wpAny_comprehension_free (use:=none) rfl hs (Zbv (Zc5 S I.ok)) S.kind S.names (thn (hi pins s σ H _ I h) λv s1 h1=>thn h1 λitv s2 h2=>?_);refine Zff (Cm:=λX=>X.calm=true) S (λ_ _ _ _ _=>hc) hg ht he (RR:=λacc C=>compPost (model X.prog X.w) X.A X.xe none (EP X pins σ Q) acc C) (Q:=Q) h2 ?_;intro s' C acc H' m hn _ hI q;exact⟨m,hn,λh' sb=>⟨.ref acc,H',hI h' sb,rfl,q⟩⟩
theorem Ze4 {elt tg iter:Expr}{ifs:List Expr}{scope:Scope}{pos spos py:Pos}{fvs:List Str}{sel:List Nat}{wi:TI}{g:TG}{tc:TT}{te:TE}{i:Nat}{y:Str}(tgs:List Str) (S:CompSc X.env.scope X.N scope fvs sel) (hc:X.calm=true)
  (hN:X.N.Nodup) (hiy:X.N[i]?=some y) (hx:Loc X.env.scope y)
  (hi:PI X tg iter wi) (hg:∀C s H ex pn,PG (compCx X scope (tgs++fvs) C s H ex pn) tg g) (ht:∀C s H ex pn,PTs (compCx X scope (tgs++fvs) C s H ex pn) ifs tc) (he:∀C s H ex pn,PE (compCx X scope (tgs++fvs) C s H ex pn) elt te)
  (hs:∀x,foldedSetIterable iter X.env x=pure x:=by intro _;rfl) (hsw:swapsWith (.ListComp elt [⟨tg,iter,ifs,0⟩] scope pos) (some (.Name y py)) spos.line X.env=pure true:=by rfl)
  (hf:X.fn y=true\/X.env.scope.names.lookup y=some .local:=by first|exact .inl rfl|exact .inr rfl|assumption) :
  PS X (.Assign [.Name y py] (.ListComp elt [⟨tg,iter,ifs,0⟩] scope pos) spos) (tAsg (tComp tgs.length sel wi g tc te) (gName i)):=by
 intro pins s σ H D I h;rw[exec_Assign_Name_used _ _ _ _ hsw];refine wpAny_bind (wpAny_standAt (wpAny_bind ?_));show wpAny _ X.A (do let _ ← comprehension (.ListComp elt [⟨tg,iter,ifs,0⟩] scope pos) scope X.env _ (newList []) false (eval iter X.env) (some (assign (.Name y py) X.env))) _ _ s;refine wpAny_bind (wpAny_mono (wpAny_comprehension_free (use:=some (assign (.Name y py) X.env)) (Q:=λ_ s'=>SP X pins D .next s') rfl hs (Zbv (Zc5 S I.ok)) S.kind S.names
  (thn (hi pins s σ H _ I h) λv s1 h1=>thn h1 λitv s2 h2=>?_)) (λ_ s' hq=>wpAny_pure (wpAny_pure hq)) λ_ _ e=>e)
 refine Zff (Cm:=λX=>X.calm=true) S (λ_ _ _ _ _=>hc) hg ht he (RR:=λacc C=>compPost (model X.prog X.w) X.A X.xe (some (assign (.Name y py) X.env)) (λ_ s'=>SP X pins D .next s') acc C) (Q:=λv H'=>D.nx (σ.set i (some v)) H') h2 ?_;intro s' C acc H' m hn fp hI q;have I0:Inv X pins σ H' s':=hI s'.heap (.refl ..);show wpAny _ X.A (assign (.Name y py) X.env (.ref acc)) _ _ _;refine wpAny_assign_Name (Zfe (v:=.ref acc) I0 hN hiy hx rfl (λs2 I2 hsb=>?_) hf);obtain⟨a,sb,ha⟩:=hsb;have hCa:C≠a:=by
  rcases ha with z|z
  ·rw[z];exact fp.2.1
  ·exact Ne.symm (fp.2.2.2.2.1 y a z)
 refine⟨m,hn.sameBut sb hCa,λh' sb'=>?_⟩;obtain⟨f0,f1,f2,f3,f4,f5⟩:=fp;exact⟨_,H',I2.turned (t':=s2.toks) (it:=C) (λb o hb e=>(sb'.2 b hb).trans e) f0 f1 f3 f4 f5,q⟩
end
def InsC (a C:Addr) (h:Heap):Prop:=∃ox vs,h.get? a=some ox/\ox.cls=.ref C/\ox.data=.fields vs/\vs[2]?=some .none
inductive D where
 |non|bl (b:Bool)|int (i:Int)|str (x:Str)|ty (n:String)|tup (ds:List D)|lst (ds:List D)|scr (ds:List D)|adr (a:Addr)|dct (ks:List Key) (ds:List D)|exc (a C:Addr)
mutual
inductive Rep (K:W.Frag) (G:Hp):V->D->Prop
 |non:Rep K G .non .non
 |bl (b:Bool):Rep K G (.bl b) (.bl b)
 |int (i:Int):Rep K G (.int i) (.int i)
 |str (x:Str):Rep K G (.str x) (.str x)
 |ty (n:String):Rep K G (.ty n) (.ty n)
 |tup {a:Addr}{vs:List V}{ds:List D}:G a=some (.tup vs)->Reps K G vs ds->Rep K G (.ref a) (.tup ds)
 |lst {a:Addr}{vs:List V}{ds:List D}:G a=some (.lst vs)->Reps K G vs ds->Rep K G (.ref a) (.lst ds)
 |scr {a:Addr}{vs:List V}{ds:List D}:SqL K G a vs->Reps K G vs ds->Rep K G (.ref a) (.scr ds)
 |adr (a:Addr):Rep K G (.ref a) (.adr a)
 |dct {a:Addr}{ks:List Key}{vs:List V}{ds:List D}:G a=some (.dK (ks.zip vs))->ks.length=vs.length->Reps K G vs ds->Rep K G (.ref a) (.dct ks ds)
 |exc {a C:Addr}:G a=some (.ext (InsC a C))->Rep K G (.ref a) (.exc a C)
inductive Reps (K:W.Frag) (G:Hp):List V->List D->Prop
 |nil:Reps K G [] []
 |cons {v:V}{d:D}{vs:List V}{ds:List D}:Rep K G v d->Reps K G vs ds->Reps K G (v::vs) (d::ds)
end
def RepI (K:W.Frag) (G:Hp) (v:V):D->Prop
 |.non=>v=.non
 |.bl b=>v=.bl b
 |.int i=>v=.int i
 |.str x=>v=.str x
 |.ty n=>v=.ty n
 |.tup ds=>∃a vs,v=.ref a/\G a=some (.tup vs)/\Reps K G vs ds
 |.lst ds=>∃a vs,v=.ref a/\G a=some (.lst vs)/\Reps K G vs ds
 |.scr ds=>∃a vs,v=.ref a/\SqL K G a vs/\Reps K G vs ds
 |.adr a=>v=.ref a
 |.dct ks ds=>∃a vs,v=.ref a/\G a=some (.dK (ks.zip vs))/\ks.length=vs.length/\Reps K G vs ds
 |.exc a C=>v=.ref a/\G a=some (.ext (InsC a C))
theorem Rep.inv {K:W.Frag}{G:Hp}{v:V}{d:D}(r:Rep K G v d):RepI K G v d:=by
 cases r with
 |tup h r=>exact⟨_,_,rfl,h,r⟩
 |lst h r=>exact⟨_,_,rfl,h,r⟩
 |scr h r=>exact⟨_,_,rfl,h,r⟩
 |dct h l r=>exact⟨_,_,rfl,h,l,r⟩
 |exc h=>exact⟨rfl,h⟩
 |_=>rfl
def RepsI (K:W.Frag) (G:Hp) (vs:List V):List D->Prop
 |[]=>vs=[]
 |d::ds=>∃v ws,vs=v::ws/\Rep K G v d/\Reps K G ws ds
theorem Reps.inv {K:W.Frag}{G:Hp}{vs:List V}{ds:List D}(r:Reps K G vs ds):RepsI K G vs ds:=by
 cases r with
 |nil=>rfl
 |cons a b=>exact⟨_,_,rfl,a,b⟩
section
variable {K:W.Frag}{G G' H H':Hp}
mutual
theorem Rep.mono (s:Same G G'):∀{v:V}{d:D},Rep K G v d->Rep K G' v d
 |_,_,.non=>.non
 |_,_,.bl b=>.bl b
 |_,_,.int i=>.int i
 |_,_,.str x=>.str x
 |_,_,.ty n=>.ty n
 |_,_,.tup h r=>.tup (s _ _ h) (Reps.mono s r)
 |_,_,.lst h r=>.lst (s _ _ h) (Reps.mono s r)
 |_,_,.scr h r=>.scr (s.seq h) (Reps.mono s r)
 |_,_,.adr a=>.adr a
 |_,_,.dct h l r=>.dct (s _ _ h) l (Reps.mono s r)
 |_,_,.exc h=>.exc (s _ _ h)
theorem Reps.mono (s:Same G G'):∀{vs:List V}{ds:List D},Reps K G vs ds->Reps K G' vs ds
 |_,_,.nil=>.nil
 |_,_,.cons h r=>.cons (Rep.mono s h) (Reps.mono s r)
end
theorem Reps.length:∀{vs:List V}{ds:List D},Reps K G vs ds->vs.length=ds.length
 |_,_,.nil=>rfl
 |_,_,.cons _ r=>by rw[Wax,Wax,r.length]
theorem Reps.get:∀{vs:List V}{ds:List D}{i:Nat}{d:D},Reps K G vs ds->ds[i]?=some d->∃v,vs[i]?=some v/\Rep K G v d
 |_,_,_,_,.nil,e=>by simp at e
 |_,_,0,_,.cons r _,e=>by simp at e;subst e;exact⟨_,rfl,r⟩
 |_,_,i+1,d,.cons _ t,e=>by
  obtain⟨u,h1,h2⟩:=Reps.get (i:=i) (d:=d) t (by simpa using e);exact⟨u,by simpa using h1,h2⟩
theorem Reps.append:∀{vs ws:List V}{ds es:List D},Reps K G vs ds->Reps K G ws es->Reps K G (vs++ws) (ds++es)
 |_,_,_,_,.nil,s=>s
 |_,_,_,_,.cons r t,s=>.cons r (Reps.append t s)
theorem Reps.take:∀{vs:List V}{ds:List D}(n:Nat),Reps K G vs ds->Reps K G (vs.take n) (ds.take n)
 |_,_,0,_=>.nil
 |_,_,_+1,.nil=>.nil
 |_,_,n+1,.cons r t=>.cons r (Reps.take n t)
theorem Reps.drop:∀{vs:List V}{ds:List D}(n:Nat),Reps K G vs ds->Reps K G (vs.drop n) (ds.drop n)
 |_,_,0,r=>r
 |_,_,_+1,.nil=>.nil
 |_,_,n+1,.cons _ t=>Reps.drop n t
theorem Reps.reverse {vs:List V}{ds:List D}(h:Reps K G vs ds):Reps K G vs.reverse ds.reverse:=by
 induction vs generalizing ds with
 |nil=>cases h;exact .nil
 |cons v vs ih=>
  cases h with
  |cons r t=>rw[List.reverse_cons,List.reverse_cons];exact(ih t).append (.cons r .nil)
theorem Reps.set:∀{vs:List V}{ds:List D}{v:V}{d:D}(i:Nat),Reps K G vs ds->Rep K G v d->Reps K G (vs.set i v) (ds.set i d)
 |_,_,_,_,_,.nil,_=>.nil
 |_,_,_,_,0,.cons _ t,q=>.cons q t
 |_,_,_,_,i+1,.cons r t,q=>.cons r (Reps.set i t q)
theorem Reps.eraseIdx:∀{vs:List V}{ds:List D}(i:Nat),Reps K G vs ds->Reps K G (vs.eraseIdx i) (ds.eraseIdx i)
 |_,_,_,.nil=>.nil
 |_,_,0,.cons _ t=>t
 |_,_,i+1,.cons r t=>.cons r (Reps.eraseIdx i t)
theorem Reps.ints {vs:List V}:∀{ns:List Int},Reps K G vs (ns.map D.int)->vs=ns.map V.int:=by
 induction vs with
 |nil=>intro ns h;cases ns with
  |nil=>rfl
  |cons n ns=>cases h
 |cons v vs ih=>intro ns h;cases ns with
  |nil=>cases h
  |cons n ns=>
   cases h with
   |cons r t=>cases r.inv;rw[ih t];rfl
theorem Reps.ofInts:∀(ns:List Int),Reps K G (ns.map V.int) (ns.map D.int)
 |[]=>.nil
 |n::ns=>.cons (.int n) (Reps.ofInts ns)
theorem Zgk {vs:List V}{ds:List D}{i:Int}{d:D}(r:Reps K G vs ds) (h:atI ds i=some d):∃v,atI vs i=some v/\Rep K G v d:=by
 unfold atI at h ⊢;rw[<- r.length]at h;cases e:ixN vs.length i with
 |none=>rw[e]at h;cases h
 |some j=>rw[e]at h;exact r.get h
end
inductive OD where
 |lst (ds:List D)|dct (kvs:List (Key × D))|set (S:Int->Bool) (n:Nat)|dtt (kvs:List (List Key × D))|ext (R:Hp->(Heap->Prop)->Prop)
def OwnRep (K:W.Frag) (G:Hp):HO->OD->Prop
 |.lst vs,.lst ds=>Reps K G vs ds
 |.dK kvs,.dct kds=>Paired (λ(p:Key × V) (q:Key × D)=>p.1=q.1/\Rep K G p.2 q.2) kvs kds
 |.set S n,.set S' n'=>S=S' /\ n=n'
 |.dT kvs,.dtt kds=>Paired (λ(p:List Key × V) (q:List Key × D)=>p.1=q.1/\Rep K G p.2 q.2) kvs kds
 |.ext φ,.ext R=>∃G0,Same G0 G/\R G0 φ
 |_,_=>False
theorem OwnRep.mono {K:W.Frag}{G G':Hp}(s:Same G G') {o:HO}{od:OD}(h:OwnRep K G o od):OwnRep K G' o od:=by
 cases o <;> cases od <;> first
  |exact h.elim
  |exact Reps.mono s h
  |exact Paired.mapP h λ_ _ z=>⟨z.1,z.2.mono s⟩
  |exact(let ⟨g0,s0,r⟩:=h; ⟨g0,s0.trans s,r⟩)
  |exact h
inductive Slot where
 |any|val (d:D)|own (o:OD)|bor (o:OD)|ownA (a:Addr) (o:OD)
abbrev Evt:=List Slot
def Slot.od:Slot->Option OD
 |.own o=>some o
 |.bor o=>some o
 |.ownA _ o=>some o
 |_=>none
structure Gm where
 B:Addr->Prop
 F:Hp
 Hz:Hp
 Xo:Hp
def SlotAt (g:Gm) (x:Slot) (a:Addr):Prop:=match x with
 |.own _=>g.Hz a=none
 |.bor _=>g.B a
 |.ownA b _=>b=a/\g.Hz a=none
 |_=>True
structure Ok (K:W.Frag) (g:Gm) (G H:Hp) (σ:St) (Δ:Evt):Prop where
 same:∀b o,¬ g.B b->g.Hz b=some o->H b=some o
 lent:∀b,g.B b->H b≠none
 sub:Same g.F G
 frz:∀b o,G b=some o->H b=some o/\(g.Hz b=none\/g.F b=some o)
 ext:∀b o,g.Xo b=some o->H b=some o/\G b=none/\∀(i:Nat) x od,Δ[i]?=some x->x.od=some od -> σ[i]?≠some (some (.ref b))
 len:Δ.length = σ.length
 val:∀(i:Nat) d,Δ[i]?=some (.val d)->∃v,σ[i]?=some (some v)/\Rep K G v d
 own:∀(i:Nat) x od,Δ[i]?=some x->x.od=some od->∃a o,σ[i]?=some (some (.ref a))/\H a=some o/\OwnRep K G o od/\G a=none/\SlotAt g x a
 dis:∀(i j:Nat) x y od od' a,Δ[i]?=some x->x.od=some od -> Δ[j]?=some y->y.od=some od' -> σ[i]?=some (some (.ref a)) -> σ[j]?=some (some (.ref a))->i=j
section
variable {K:W.Frag}{g:Gm}{G H G' H':Hp}{σ:St}{Δ:Evt}
theorem Ok.live (k:Ok K g G H σ Δ):Same G H:=λb o e=>(k.frz b o e).1
theorem Ok.there (k:Ok K g G H σ Δ) {b:Addr}(h:H b=none):g.Hz b=none:=by
 cases e:g.Hz b with
 |none=>rfl
 |some o=>
  by_cases hb:g.B b
  ·exact absurd h (k.lent b hb)
  ·have:=k.same b o hb e
   rw[h]at this;cases this
theorem Ok.grow (k:Ok K g G H σ Δ) (sg:Same G G') (sh:Same H H') (hg:∀b o,G' b=some o->H' b=some o/\(G b=some o\/H b=none)):Ok K g G' H' σ Δ where
 same:=λb o hb e=>sh b o (k.same b o hb e)
 lent:=λb hb z=>by
  cases e:H b with
  |none=>exact k.lent b hb e
  |some o=>rw[sh b o e]at z;cases z
 sub:=k.sub.trans sg
 frz:=λb o e=>by
  obtain⟨h1,h2⟩:=hg b o e;refine⟨h1,?_⟩;rcases h2 with z|z
  ·exact(k.frz b o z).2
  ·exact .inl (k.there z)
 ext:=λb o e=>by
  obtain⟨h1,h2,h3⟩:=k.ext b o e;refine⟨sh b o h1,?_,h3⟩;cases q:G' b with
  |none=>rfl
  |some o'=>
   rcases(hg b o' q).2 with z|z
   ·rw[h2]at z;cases z
   ·rw[h1]at z;cases z
 len:=k.len
 val:=λi d e=>by
  obtain⟨v,h1,h2⟩:=k.val i d e;exact⟨v,h1,h2.mono sg⟩
 own:=λi x od e1 e2=>by
  obtain⟨a,o,h1,h2,h3,h4,h5⟩:=k.own i x od e1 e2;refine⟨a,o,h1,sh a o h2,h3.mono sg,?_,h5⟩;cases q:G' a with
  |none=>rfl
  |some o'=>
   rcases(hg a o' q).2 with z|z
   ·rw[h4]at z;cases z
   ·rw[h2]at z;cases z
 dis:=k.dis
theorem Ok.laid (k:Ok K g G H σ Δ) {p:Addr}(hp:H p=none) (o:HO):Ok K g (upd G p o) (upd H p o) σ Δ /\ Same G (upd G p o):=by
 have hG:G p=none:=by
  cases e:G p with
  |none=>rfl
  |some u=>rw[k.live p u e]at hp;cases hp
 have sg:Same G (upd G p o):=λb u e=>by rw[Zal (Zao e hG)];exact e
 refine⟨k.grow sg (λb u e=>by rw[Zal (Zao e hp)];exact e) λb u e=>?_,sg⟩;by_cases hb:b=p
 ·subst hb;rw[Zan]at e ⊢;exact⟨e,.inr hp⟩
 ·rw[Zal hb]at e ⊢;exact⟨k.live b u e,.inl e⟩
theorem Ok.lt (k:Ok K g G H σ Δ) {i:Nat}{x:Slot}(h:Δ[i]?=some x):i < σ.length:=by
 rw[<- k.len];exact(Wah.mp h).1
def Pend (K:W.Frag) (g:Gm) (G H:Hp) (σ:St) (Δ:Evt) (a:Addr) (od:OD):Prop:=
 ∃o,H a=some o/\OwnRep K G o od/\G a=none/\g.Hz a=none/\g.Xo a=none/\∀(i:Nat) x od',Δ[i]?=some x->x.od=some od' -> σ[i]?≠some (some (.ref a))
theorem Ok.setVal (k:Ok K g G H σ Δ) {v:V}{d:D}{i:Nat}(hi:i < Δ.length) (r:Rep K G v d):Ok K g G H (σ.set i (some v)) (Δ.set i (.val d)):=by
 have hs:i < σ.length:=by rw[<- k.len];exact hi
 have old:∀(j:Nat) x od,(Δ.set i (.val d))[j]?=some x->x.od=some od->j≠i /\ Δ[j]?=some x/\(σ.set i (some v))[j]? = σ[j]?:=λj x od e1 e2=>by
  by_cases hj:j=i
  ·subst hj
   rw[Wad hi]at e1;cases e1;cases e2
  ·rw[Wae (Ne.symm hj)]at e1
   exact⟨hj,e1,Wae (Ne.symm hj)⟩
 refine⟨k.same,k.lent,k.sub,k.frz,λb o e=>?_,by simp[k.len],λj e h=>?_,λj x od e1 e2=>?_,λj l x y od od' a e1 e2 e3 e4 e5 e6=>?_⟩
 ·obtain⟨h1,h2,h3⟩:=k.ext b o e
  refine⟨h1,h2,λj x od e1 e2=>?_⟩;obtain⟨_,q1,q2⟩:=old j x od e1 e2;rw[q2];exact h3 j x od q1 e2
 ·by_cases hj:j=i
  ·subst hj
   rw[Wad hi]at h;cases h;exact⟨v,Wad hs,r⟩
  ·rw[Wae (Ne.symm hj)]at h ⊢
   exact k.val j e h
 ·obtain⟨_,q1,q2⟩:=old j x od e1 e2
  rw[q2];exact k.own j x od q1 e2
 ·obtain⟨_,q1,q2⟩:=old j x od e1 e2
  obtain⟨_,q3,q4⟩:=old l y od' e3 e4;rw[q2]at e5;rw[q4]at e6;exact k.dis j l x y od od' a q1 e2 q3 e4 e5 e6
theorem Ok.setOwn (k:Ok K g G H σ Δ) {a:Addr}{od:OD}{i:Nat}(hi:i < Δ.length) (p:Pend K g G H σ Δ a od):Ok K g G H (σ.set i (some (.ref a))) (Δ.set i (.own od)):=by
 obtain⟨o,p1,p2,p3,p4,p5,p6⟩:=p;have hs:i < σ.length:=by rw[<- k.len];exact hi
 have old:∀(j:Nat) x,j≠i->(Δ.set i (.own od))[j]?=some x -> Δ[j]?=some x/\(σ.set i (some (.ref a)))[j]? = σ[j]?:=λj x hj e1=>by
  rw[Wae (Ne.symm hj)]at e1;exact⟨e1,Wae (Ne.symm hj)⟩
 refine⟨k.same,k.lent,k.sub,k.frz,λb ob e=>?_,by simp[k.len],λj e h=>?_,λj x od' e1 e2=>?_,λj l x y od1 od2 c e1 e2 e3 e4 e5 e6=>?_⟩
 ·obtain⟨h1,h2,h3⟩:=k.ext b ob e
  refine⟨h1,h2,λj x od' e1 e2=>?_⟩;by_cases hj:j=i
  ·subst hj
   rw[Wad hs];intro z;cases z;rw[p5]at e;cases e
  ·obtain⟨q1,q2⟩:=old j x hj e1
   rw[q2];exact h3 j x od' q1 e2
 ·by_cases hj:j=i
  ·subst hj
   rw[Wad hi]at h;cases h
  ·rw[Wae (Ne.symm hj)]at h ⊢
   exact k.val j e h
 ·by_cases hj:j=i
  ·subst hj
   rw[Wad hi]at e1;cases e1;cases e2;exact⟨a,o,Wad hs,p1,p2,p3,p4⟩
  ·obtain⟨q1,q2⟩:=old j x hj e1
   rw[q2];exact k.own j x od' q1 e2
 ·by_cases hj:j=i
  ·by_cases hl:l=i
   ·rw[hj,hl]
   ·obtain⟨q3,q4⟩:=old l y hl e3
    rw[q4]at e6;rw[hj,Wad hs]at e5;cases e5;exact absurd e6 (p6 l y od2 q3 e4)
  ·obtain⟨q1,q2⟩:=old j x hj e1
   rw[q2]at e5;by_cases hl:l=i
   ·rw[hl,Wad hs]at e6
    cases e6;exact absurd e5 (p6 j x od1 q1 e2)
   ·obtain⟨q3,q4⟩:=old l y hl e3
    rw[q4]at e6;exact k.dis j l x y od1 od2 c q1 e2 q3 e4 e5 e6
def Slot.put:Slot->OD->Slot
 |.own _,o=>.own o
 |.bor _,o=>.bor o
 |.ownA a _,o=>.ownA a o
 |x,_=>x
theorem SlotAt.put {g:Gm}{x:Slot}{a:Addr}{o:OD}(h:SlotAt g x a):SlotAt g (x.put o) a:=by cases x <;> exact h
theorem SlotAt.free {g:Gm}{x:Slot}{a:Addr}{od:OD}(h:SlotAt g x a) (ho:x.od=some od):g.Hz a=none\/g.B a:=by
 cases x with
 |any=>cases ho
 |val d=>cases ho
 |own o=>exact .inl h
 |bor o=>exact .inr h
 |ownA b o=>exact .inl h.2
theorem Slot.put_od {x:Slot}{od o:OD}(h:x.od=some od):(x.put o).od=some o:=by cases x <;> cases h <;> rfl
theorem Ok.write (k:Ok K g G H σ Δ) {a:Addr}{od od':OD}{x:Slot}{i:Nat}{o':HO}(hx:Δ[i]?=some x) (hod:x.od=some od) (ha:σ[i]?=some (some (.ref a))) (r:OwnRep K G o' od'):Ok K g G (upd H a o') σ (Δ.set i (x.put od')):=by
 obtain⟨a',o,q1,q2,q3,q4,q5⟩:=k.own i x od hx hod;rw[ha]at q1;cases q1;have hi:i < Δ.length:=(Wah.mp hx).1;have other:∀(j:Nat) y od2,(Δ.set i (x.put od'))[j]?=some y->y.od=some od2->j≠i -> Δ[j]?=some y:=λj y od2 e1 e2 hj=>by
  rw[Wae (Ne.symm hj)]at e1;exact e1
 have anyOd:∀(j:Nat) y od2,(Δ.set i (x.put od'))[j]?=some y->y.od=some od2->∃y' od3,Δ[j]?=some y' /\ y'.od=some od3:=λj y od2 e1 e2=>by
  by_cases hj:j=i
  ·subst hj;exact⟨x,od,hx,hod⟩
  ·exact⟨y,od2,other j y od2 e1 e2 hj,e2⟩
 refine⟨λb u hb e=>?_,λb hb=>?_,k.sub,λb u e=>?_,λb u e=>?_,by simp[k.len],λj e h=>?_,λj y od2 e1 e2=>?_,λj l y z od1 od2 c e1 e2 e3 e4 e5 e6=>?_⟩
 ·have hba:b≠a:=by
   intro z;subst z;rcases q5.free hod with z|z
   ·rw[z]at e;cases e
   ·exact hb z
  rw[Zal hba];exact k.same b u hb e
 ·by_cases hba:b=a
  ·subst hba;rw[Zan];intro z;cases z
  ·rw[Zal hba];exact k.lent b hb
 ·have hba:b≠a:=by intro z;subst z;rw[q4]at e;cases e
  rw[Zal hba];exact k.frz b u e
 ·obtain⟨h1,h2,h3⟩:=k.ext b u e
  have hba:b≠a:=by intro z;subst z;exact h3 i x od hx hod ha
  rw[Zal hba];refine⟨h1,h2,λj y od2 e1 e2=>?_⟩;obtain⟨y',od3,z1,z2⟩:=anyOd j y od2 e1 e2;exact h3 j y' od3 z1 z2
 ·by_cases hj:j=i
  ·subst hj
   rw[Wad hi]at h;cases x <;> cases hod <;> cases h
  ·rw[Wae (Ne.symm hj)]at h
   exact k.val j e h
 ·by_cases hj:j=i
  ·subst hj
   rw[Wad hi]at e1;cases e1;rw[Slot.put_od hod]at e2;cases e2;exact⟨a,o',ha,Zan,r,q4,q5.put⟩
  ·have e1':=other j y od2 e1 e2 hj
   obtain⟨c,oc,w1,w2,w3,w4,w5⟩:=k.own j y od2 e1' e2;have hca:c≠a:=by
    intro z;subst z;exact hj (k.dis j i y x od2 od c e1' e2 hx hod w1 ha)
   exact⟨c,oc,w1,by rw[Zal hca];exact w2,w3,w4,w5⟩
 ·obtain⟨y',od3,z1,z2⟩:=anyOd j y od1 e1 e2
  obtain⟨y'',od4,z3,z4⟩:=anyOd l z od2 e3 e4;exact k.dis j l y' y'' od3 od4 c z1 z2 z3 z4 e5 e6
theorem Ok.freeze (k:Ok K g G H σ Δ) {a:Addr}{ds:List D}{vs:List V}(p:Pend K g G H σ Δ a (.lst ds)) (hv:H a=some (.lst vs)):Ok K g (upd G a (.lst vs)) H σ Δ /\ Same G (upd G a (.lst vs))/\Rep K (upd G a (.lst vs)) (.ref a) (.lst ds):=by
 obtain⟨o,p1,p2,p3,p4,p5,p6⟩:=p;rw[hv]at p1;cases p1;have p2:Reps K G vs ds:=p2;have sg:Same G (upd G a (.lst vs)):=λb u e=>by rw[Zal (Zao e p3)];exact e
 refine⟨⟨k.same,k.lent,k.sub.trans sg,λb u e=>?_,λb u e=>?_,k.len,λj d h=>?_,λj x od e1 e2=>?_,k.dis⟩,sg,.lst Zan (p2.mono sg)⟩
 ·by_cases hb:b=a
  ·subst hb;rw[Zan]at e;cases e;exact⟨hv,.inl p4⟩
  ·rw[Zal hb]at e;exact k.frz b u e
 ·obtain⟨h1,h2,h3⟩:=k.ext b u e
  have hb:b≠a:=by intro z;subst z;rw[p5]at e;cases e
  exact⟨h1,by rw[Zal hb];exact h2,h3⟩
 ·obtain⟨v,h1,h2⟩:=k.val j d h
  exact⟨v,h1,h2.mono sg⟩
 ·obtain⟨c,o,w1,w2,w3,w4,w5⟩:=k.own j x od e1 e2
  have hc:c≠a:=by intro z;subst z;exact p6 j x od e1 e2 w1
  exact⟨c,o,w1,w2,w3.mono sg,by rw[Zal hc];exact w4,w5⟩
theorem Ok.drop (k:Ok K g G H σ Δ) (i:Nat):Ok K g G H σ (Δ.set i .any):=by
 have old:∀(j:Nat) x,(Δ.set i .any)[j]?=some x->x=.any\/(Δ[j]?=some x/\j≠i):=λj x e1=>by
  by_cases hj:j=i
  ·subst hj
   rw[Wck]at e1;simp at e1;exact .inl e1.2.symm
  ·rw[Wae (Ne.symm hj)]at e1
   exact .inr ⟨e1,hj⟩
 have oldO:∀(j:Nat) x od,(Δ.set i .any)[j]?=some x->x.od=some od -> Δ[j]?=some x:=λj x od e1 e2=>by
  rcases old j x e1 with z|z
  ·subst z;cases e2
  ·exact z.1
 refine⟨k.same,k.lent,k.sub,k.frz,λb o e=>?_,by simp[k.len],λj e h=>?_,λj x od e1 e2=>k.own j x od (oldO j x od e1 e2) e2,λj l x y od od' a e1 e2 e3 e4=>k.dis j l x y od od' a (oldO j x od e1 e2) e2 (oldO l y od' e3 e4) e4⟩
 ·obtain⟨h1,h2,h3⟩:=k.ext b o e
  exact⟨h1,h2,λj x od e1 e2=>h3 j x od (oldO j x od e1 e2) e2⟩
 ·rcases old j _ h with z|z
  ·cases z
  ·exact k.val j e z.1
theorem Ok.take (k:Ok K g G H σ Δ) {i:Nat}{od:OD}(h:Δ[i]?=some (.own od)):∃a,σ[i]?=some (some (.ref a))/\Pend K g G H σ (Δ.set i .any) a od:=by
 obtain⟨a,o,h1,h2,h3,h4,h5⟩:=k.own i _ od h rfl;have h5:g.Hz a=none:=h5;refine⟨a,h1,o,h2,h3,h4,h5,?_,λj x od' e1 e2 e3=>?_⟩
 ·cases q:g.Xo a with
  |none=>rfl
  |some u=>exact absurd h1 ((k.ext a u q).2.2 i _ od h rfl)
 ·by_cases hj:j=i
  ·subst hj
   rw[Wck]at e1;simp at e1;obtain⟨_,e1⟩:=e1;subst e1;cases e2
  ·rw[Wae (Ne.symm hj)]at e1
   exact hj (k.dis j i x _ od' od a e1 e2 h rfl e3 h1)
end
def Cont (K:W.Frag) (g:Gm) (G:Hp) (σ:St) (P:D->Evt->Prop) (Q:VK):Prop:=
 ∀v d G' H' Δ',Ok K g G' H' σ Δ' -> Same G G' -> Rep K G' v d->P d Δ' -> Q v H'
def JE (K:W.Frag) (t:TE) (Δ:Evt) (P:D->Evt->Prop):Prop:=
 ∀g G H σ Q,Ok K g G H σ Δ -> Cont K g G σ P Q->t σ H Q
def JT (K:W.Frag) (t:TT) (Δ:Evt) (P:Bool->Evt->Prop):Prop:=
 ∀g G H σ Q,Ok K g G H σ Δ -> (∀b G' H' Δ',Ok K g G' H' σ Δ' -> Same G G' -> P b Δ' -> Q b H')->t σ H Q
def JA (K:W.Frag) (t:TA) (Δ:Evt) (P:List D->Evt->Prop):Prop:=
 ∀g G H σ Q,Ok K g G H σ Δ -> (∀vs ds G' H' Δ',Ok K g G' H' σ Δ' -> Same G G' -> Reps K G' vs ds->P ds Δ' -> Q vs H')->t σ H Q
def JO (K:W.Frag) (t:TE) (Δ:Evt) (P:OD->Evt->Prop):Prop:=
 ∀g G H σ Q,Ok K g G H σ Δ -> (∀a od G' H' Δ',Ok K g G' H' σ Δ' -> Same G G' -> Pend K g G' H' σ Δ' a od->P od Δ' -> Q (.ref a) H')->t σ H Q
def JR2 (K:W.Frag) (r:R2) (d e:D) (Δ:Evt) (P:D->Evt->Prop):Prop:=
 ∀g G H σ Q x y,Ok K g G H σ Δ -> Rep K G x d->Rep K G y e->Cont K g G σ P Q->r x y H Q
def JR1 (K:W.Frag) (r:V->Hp->VK->Prop) (d:D) (Δ:Evt) (P:D->Evt->Prop):Prop:=
 ∀g G H σ Q x,Ok K g G H σ Δ -> Rep K G x d->Cont K g G σ P Q->r x H Q
def JC (K:W.Frag) (r:List V->Hp->VK->Prop) (ds:List D) (Δ:Evt) (P:D->Evt->Prop):Prop:=
 ∀g G H σ Q vs,Ok K g G H σ Δ -> Reps K G vs ds->Cont K g G σ P Q->r vs H Q
structure Pst where
 nx:Evt->Prop
 rt:D->Evt->Prop
 bk:Evt->Prop:=λ_=>False
 ct:Evt->Prop:=λ_=>False
 ro:OD->Evt->Prop:=λ_ _=>False
structure SCont (K:W.Frag) (g:Gm) (P:Pst) (E:Ends):Prop where
 nx:∀σ G H Δ,Ok K g G H σ Δ -> P.nx Δ -> E.nx σ H
 rt:∀v d σ G H Δ,Ok K g G H σ Δ -> Rep K G v d->P.rt d Δ -> E.rt v H
 bk:∀σ G H Δ,Ok K g G H σ Δ -> P.bk Δ -> E.bk σ H
 ct:∀σ G H Δ,Ok K g G H σ Δ -> P.ct Δ -> E.ct σ H
 ro:∀a od σ G H Δ,Ok K g G H σ Δ -> Pend K g G H σ Δ a od->P.ro od Δ -> E.rt (.ref a) H
def JS (K:W.Frag) (t:TS) (Δ:Evt) (P:Pst):Prop:=
 ∀g G H σ E,Ok K g G H σ Δ -> SCont K g P E->t E σ H
def JG (K:W.Frag) (t:TG) (d:D) (Δ:Evt) (P:Evt->Prop):Prop:=
 ∀g G H σ v (R:St->Hp->Prop),Ok K g G H σ Δ -> Rep K G v d->(∀σ' G' H' Δ',Ok K g G' H' σ' Δ' -> Same G G' -> P Δ' -> R σ' H')->t v σ H R
def JGs (K:W.Frag) (t:TGs) (ds:List D) (Δ:Evt) (P:Evt->Prop):Prop:=
 ∀g G H σ vs (R:St->Hp->Prop),Ok K g G H σ Δ -> Reps K G vs ds->(∀σ' G' H' Δ',Ok K g G' H' σ' Δ' -> Same G G' -> P Δ' -> R σ' H')->t vs σ H R
section
variable {K:W.Frag}{Δ:Evt}
theorem Cont.up {g:Gm}{G G1:Hp}{σ:St}{P:D->Evt->Prop}{Q:VK}(c:Cont K g G σ P Q) (s:Same G G1):Cont K g G1 σ P Q:=
 λv d G' H' Δ' k s' r p=>c v d G' H' Δ' k (s.trans s') r p
theorem JE.mono {t:TE}{P P':D->Evt->Prop}(h:JE K t Δ P) (hp:∀d Δ,P d Δ -> P' d Δ):JE K t Δ P':=
 λg G H σ Q k c=>h g G H σ Q k λv d G' H' Δ' k' s r p=>c v d G' H' Δ' k' s r (hp d Δ' p)
theorem JT.mono {t:TT}{P P':Bool->Evt->Prop}(h:JT K t Δ P) (hp:∀d Δ,P d Δ -> P' d Δ):JT K t Δ P':=
 λg G H σ Q k c=>h g G H σ Q k λv G' H' Δ' k' s p=>c v G' H' Δ' k' s (hp v Δ' p)
theorem JS.mono {t:TS}{P P':Pst}(h:JS K t Δ P) (hn:∀Δ,P.nx Δ -> P'.nx Δ) (hr:∀d Δ,P.rt d Δ -> P'.rt d Δ) (hb:∀Δ,P.bk Δ -> P'.bk Δ) (hc:∀Δ,P.ct Δ -> P'.ct Δ) (ho:∀od Δ,P.ro od Δ -> P'.ro od Δ):JS K t Δ P':=
 λg G H σ E k c=>h g G H σ E k ⟨λσ' G' H' Δ' k' p=>c.nx σ' G' H' Δ' k' (hn _ p),λv d σ' G' H' Δ' k' r p=>c.rt v d σ' G' H' Δ' k' r (hr _ _ p),λσ' G' H' Δ' k' p=>c.bk σ' G' H' Δ' k' (hb _ p),λσ' G' H' Δ' k' p=>c.ct σ' G' H' Δ' k' (hc _ p),λa od σ' G' H' Δ' k' r p=>c.ro a od σ' G' H' Δ' k' r (ho _ _ p)⟩
theorem Zad {i:Nat}{d:D}{P:D->Evt->Prop}(h:Δ[i]?=some (.val d)) (p:P d Δ):JE K (tVar i) Δ P:=λg G H σ Q k c=>by
 obtain⟨v,h1,h2⟩:=k.val i d h;exact⟨v,h1,c v d G H Δ k (Same.refl _) h2 p⟩
theorem Zp2 {i:Nat}{ds:List D}{P:D->Evt->Prop}(h:Δ[i]?=some (.own (.lst ds))) (p:P (.lst ds) (Δ.set i (.val (.lst ds)))):JE K (tVar i) Δ P:=λg G H σ Q k c=>by
 obtain⟨a,h1,pd⟩:=k.take h;obtain⟨o,q1,q2,_⟩:=id pd;cases o with
 |lst vs=>
  obtain⟨k2,sg,r⟩:=(k.drop i).freeze pd q1;have k3:=k2.setVal (i:=i) (by simpa using (Wah.mp h).1) r;have e1:σ.set i (some (.ref a)) = σ:=by
   apply Wbp;intro j;by_cases hj:j=i
   ·subst hj;rw[Wad (k.lt h),h1]
   ·rw[Wae (Ne.symm hj)]
  rw[e1,List.set_set]at k3;exact⟨.ref a,h1,c _ _ _ H _ k3 sg r p⟩
 |_=>exact absurd q2 (λz=>z)
theorem Za8 {i:Int}{P:D->Evt->Prop}(p:P (.int i) Δ):JE K (tC (.int i)) Δ P:=λg G H σ Q k c=>c _ _ G H Δ k (Same.refl _) (.int i) p
theorem Zrf {b:Bool}{P:D->Evt->Prop}(p:P (.bl b) Δ):JE K (tC (.bl b)) Δ P:=λg G H σ Q k c=>c _ _ G H Δ k (Same.refl _) (.bl b) p
theorem Zo0 {P:D->Evt->Prop}(p:P .non Δ):JE K (tC .non) Δ P:=λg G H σ Q k c=>c _ _ G H Δ k (Same.refl _) .non p
theorem Zdu {x:Str}{P:D->Evt->Prop}(p:P (.str x) Δ):JE K (tC (.str x)) Δ P:=λg G H σ Q k c=>c _ _ G H Δ k (Same.refl _) (.str x) p
theorem Zbx {x:String}{P:D->Evt->Prop}(p:P (.ty x) Δ):JE K (tC (.ty x)) Δ P:=λg G H σ Q k c=>c _ _ G H Δ k (Same.refl _) (.ty x) p
theorem Zay {r:R2}{ta tb:TE}{P:D->Evt->Prop}(h:JE K ta Δ λd Δ1=>JE K tb Δ1 λe Δ2=>JR2 K r d e Δ2 P):JE K (tOp r ta tb) Δ P:=λg G H σ Q k c=>
 h g G H σ _ k λx d G1 H1 Δ1 k1 s1 r1 p1=>p1 g G1 H1 σ _ k1 λy e G2 H2 Δ2 k2 s2 r2 p2=>p2 g G2 H2 σ Q x y k2 (r1.mono s2) r2 (c.up (s1.trans s2))
theorem Zsw {r:V->Hp->VK->Prop}{ta:TE}{P:D->Evt->Prop}(h:JE K ta Δ λd Δ1=>JR1 K r d Δ1 P):JE K (tUn r ta) Δ P:=λg G H σ Q k c=>
 h g G H σ _ k λx d G1 H1 Δ1 k1 s1 r1 p1=>p1 g G1 H1 σ Q x k1 r1 (c.up s1)
theorem Zag {P:List D->Evt->Prop}(p:P [] Δ):JA K tNil Δ P:=λg G H σ Q k c=>c [] [] G H Δ k (Same.refl _) .nil p
theorem Zab {ta:TE}{tr:TA}{P:List D->Evt->Prop}(h:JE K ta Δ λd Δ1=>JA K tr Δ1 λds Δ2=>P (d::ds) Δ2):JA K (tCons ta tr) Δ P:=λg G H σ Q k c=>
 h g G H σ _ k λx d G1 H1 Δ1 k1 s1 r1 p1=>p1 g G1 H1 σ _ k1 λvs ds G2 H2 Δ2 k2 s2 r2 p2=>c _ _ G2 H2 Δ2 k2 (s1.trans s2) (.cons (r1.mono s2) r2) p2
theorem Za1 {r:List V->Hp->VK->Prop}{ta:TA}{P:D->Evt->Prop}(h:JA K ta Δ λds Δ1=>JC K r ds Δ1 P):JE K (tCB r ta) Δ P:=λg G H σ Q k c=>
 h g G H σ _ k λvs ds G1 H1 Δ1 k1 s1 r1 p1=>p1 g G1 H1 σ Q vs k1 r1 (c.up s1)
theorem Zcd {ta:TA}{P:D->Evt->Prop}(h:JA K ta Δ λds Δ1=>ds.length<=sizeLine/\P (.tup ds) Δ1):JE K (tTup ta) Δ P:=λg G H σ Q k c=>
 h g G H σ _ k λvs ds G1 H1 Δ1 k1 s1 r1 ⟨z,p1⟩=>⟨by rw[r1.length];exact z,λp hp=>by
  obtain⟨k2,sg⟩:=k1.laid hp (.tup vs);exact c _ _ _ _ Δ1 k2 (s1.trans sg) (.tup Zan (r1.mono sg)) p1⟩
theorem Zey {ta:TA}{P:D->Evt->Prop}(h:JA K ta Δ λds Δ1=>ds.length<=sizeLine/\P (.lst ds) Δ1):JE K (tLst ta) Δ P:=λg G H σ Q k c=>
 h g G H σ _ k λvs ds G1 H1 Δ1 k1 s1 r1 ⟨z,p1⟩=>⟨by rw[r1.length];exact z,λp hp=>by
  obtain⟨k2,sg⟩:=k1.laid hp (.lst vs);exact c _ _ _ _ Δ1 k2 (s1.trans sg) (.lst Zan (r1.mono sg)) p1⟩
theorem Ok.fresh {g:Gm}{G H:Hp}{σ:St}(k:Ok K g G H σ Δ) {p:Addr}{o:HO}{od:OD}(hp:H p=none) (r:OwnRep K G o od):Ok K g G (upd H p o) σ Δ /\ Pend K g G (upd H p o) σ Δ p od:=by
 have hG:G p=none:=by
  cases e:G p with
  |none=>rfl
  |some u=>rw[k.live p u e]at hp;cases hp
 refine⟨k.grow (Same.refl _) (λb u e=>by rw[Zal (Zao e hp)];exact e) λb u e=>⟨?_,.inl e⟩,o,Zan,r,hG,k.there hp,?_,λj x od' e1 e2 e3=>?_⟩
 ·have hb:b≠p:=by intro z;subst z;rw[hG]at e;cases e
  rw[Zal hb];exact k.live b u e
 ·cases q:g.Xo p with
  |none=>rfl
  |some u=>have z:=(k.ext p u q).1;rw[hp]at z;cases z
 ·obtain⟨a,oo,w1,w2,_⟩:=k.own j x od' e1 e2
  rw[e3]at w1;cases w1;rw[hp]at w2;cases w2
theorem Zi9 {ta:TA}{P:OD->Evt->Prop}(h:JA K ta Δ λds Δ1=>ds.length<=sizeLine/\P (.lst ds) Δ1):JO K (tLst ta) Δ P:=λg G H σ Q k c=>
 h g G H σ _ k λvs ds G1 H1 Δ1 k1 s1 r1 ⟨z,p1⟩=>⟨by rw[r1.length];exact z,λp hp=>by
  obtain⟨k2,pd⟩:=k1.fresh (od:=.lst ds) hp (show OwnRep K G1 (.lst vs) (.lst ds) from r1);exact c p _ G1 _ Δ1 k2 s1 pd p1⟩
theorem Zea {t:TE}{P:D->Evt->Prop}(h:JO K t Δ λod Δ1=>∃ds,od=.lst ds/\P (.lst ds) Δ1):JE K t Δ P:=λg G H σ Q k c=>
 h g G H σ Q k λa od G1 H1 Δ1 k1 s1 pd hq_=>by
  obtain⟨ds,e,p1⟩:=hq_;subst e;obtain⟨o,q1,q2,_⟩:=id pd;cases o with
  |lst vs=>
   obtain⟨k2,sg,r⟩:=k1.freeze pd q1;exact c _ _ _ H1 Δ1 k2 (s1.trans sg) r p1
  |_=>exact absurd q2 (λz=>z)
theorem Za7 {t:TE}{P:Bool->Evt->Prop}(h:JE K t Δ λd Δ1=>∃b,d=.bl b/\P b Δ1):JT K (tTest t) Δ P:=λg G H σ Q k c=>
 h g G H σ _ k λv d G1 H1 Δ1 k1 s1 r1 hq_=>by obtain⟨b,e,p1⟩:=hq_;subst e;cases r1.inv;exact⟨b,rfl,c b G1 H1 Δ1 k1 s1 p1⟩
theorem Zfy {a b:TT}{P:Bool->Evt->Prop}(h:JT K a Δ λx Δ1=>if x=true then JT K b Δ1 P else P false Δ1):JT K (tAnd a b) Δ P:=λg G H σ Q k c=>
 h g G H σ _ k λx G1 H1 Δ1 k1 s1 p1=>by
  cases x with
  |true=>exact(show JT K b Δ1 P from p1) g G1 H1 σ _ k1 λy G2 H2 Δ2 k2 s2 p2=>c y G2 H2 Δ2 k2 (s1.trans s2) p2
  |false=>exact c false G1 H1 Δ1 k1 s1 p1
theorem Zfq {a b:TT}{P:Bool->Evt->Prop}(h:JT K a Δ λx Δ1=>if x=true then P true Δ1 else JT K b Δ1 P):JT K (tOr a b) Δ P:=λg G H σ Q k c=>
 h g G H σ _ k λx G1 H1 Δ1 k1 s1 p1=>by
  cases x with
  |true=>exact c true G1 H1 Δ1 k1 s1 p1
  |false=>exact(show JT K b Δ1 P from p1) g G1 H1 σ _ k1 λy G2 H2 Δ2 k2 s2 p2=>c y G2 H2 Δ2 k2 (s1.trans s2) p2
theorem Zct {a:TT}{P:Bool->Evt->Prop}(h:JT K a Δ λx Δ1=>P (!x) Δ1):JT K (tNot a) Δ P:=λg G H σ Q k c=>
 h g G H σ _ k λx G1 H1 Δ1 k1 s1 p1=>c (!x) G1 H1 Δ1 k1 s1 p1
theorem Zcp {P:Bool->Evt->Prop}(p:P true Δ):JT K tTrue Δ P:=λg G H σ Q k c=>c true G H Δ k (Same.refl _) p
theorem Zl4 {P:Pst}(p:P.nx Δ):JS K tNext Δ P:=λg G H σ E k c=>c.nx σ G H Δ k p
theorem Zo7 {t u:TS}{P:Pst}(h:JS K t Δ { P with nx:=λΔ1=>JS K u Δ1 P }):JS K (tSeq t u) Δ P:=λg G H σ E k c=>
 h g G H σ _ k ⟨λσ1 G1 H1 Δ1 k1 p1=>p1 g G1 H1 σ1 E k1 c,c.rt,c.bk,c.ct,c.ro⟩
theorem Zrl {te:TE}{P:Pst}(h:JE K te Δ P.rt):JS K (tRet te) Δ P:=λg G H σ E k c=>
 h g G H σ _ k λv d G1 H1 Δ1 k1 s1 r1 p1=>c.rt v d σ G1 H1 Δ1 k1 r1 p1
theorem Zq5 {te:TE}{P:Pst}(h:JO K te Δ P.ro):JS K (tRet te) Δ P:=λg G H σ E k c=>
 h g G H σ _ k λa od G1 H1 Δ1 k1 s1 pd p1=>c.ro a od σ G1 H1 Δ1 k1 pd p1
theorem Zt5 {c:TT}{t u:TS}{P:Pst}(h:JT K c Δ λb Δ1=>if b=true then JS K t Δ1 P else JS K u Δ1 P):JS K (tIfS c t u) Δ P:=λg G H σ E k q=>
 h g G H σ _ k λb G1 H1 Δ1 k1 s1 p1=>by
  cases b with
  |true=>exact(show JS K t Δ1 P from p1) g G1 H1 σ E k1 q
  |false=>exact(show JS K u Δ1 P from p1) g G1 H1 σ E k1 q
theorem Zru {te:TE}{t:TG}{P:Pst}(h:JE K te Δ λd Δ1=>JG K t d Δ1 P.nx):JS K (tAsg te t) Δ P:=λg G H σ E k c=>
 h g G H σ _ k λv d G1 H1 Δ1 k1 s1 r1 p1=>p1 g G1 H1 σ v _ k1 r1 λσ2 G2 H2 Δ2 k2 s2 p2=>c.nx σ2 G2 H2 Δ2 k2 p2
theorem Zk7 {P:Evt->Prop}(p:P Δ):JGs K gNil [] Δ P:=λg G H σ vs R k r c=>by cases r;exact⟨rfl,c σ G H Δ k (Same.refl _) p⟩
theorem Ze2 {t:TG}{u:TGs}{d:D}{ds:List D}{P:Evt->Prop}(h:JG K t d Δ λΔ1=>JGs K u ds Δ1 P):JGs K (gCons t u) (d::ds) Δ P:=λg G H σ vs R k r c=>by
 obtain⟨_,_,rfl,r1,rr⟩:=r.inv
 next=>exact⟨_,_,rfl,h g G H σ _ _ k r1 λσ1 G1 H1 Δ1 k1 s1 p1=>p1 g G1 H1 σ1 _ R k1 (rr.mono s1) λσ2 G2 H2 Δ2 k2 s2 p2=>c σ2 G2 H2 Δ2 k2 (s1.trans s2) p2⟩
theorem Zo6 {n:Nat}{t:TGs}{ds:List D}{P:Evt->Prop}(hl:ds.length=n) (h:JGs K t ds Δ P):JG K (gTup K n t) (.tup ds) Δ P:=λg G H σ v R k r c=>by
 obtain⟨_,_,rfl,ha,rs⟩:=r.inv
 next=>exact⟨_,_,rfl,SqT.of (k.live _ _ ha),by rw[rs.length];exact hl,h g G H σ _ R k rs c⟩
def ItOk (K:W.Frag) (G:Hp) (J:It) (ds:List D):Prop:=
 ∀G1 H1,Same G G1->Same G1 H1->J.stop ds.length H1/\∀(i:Nat) d,ds[i]?=some d->J.go i H1/\∀x H2,J.yld i H1 x H2->∃G2,Same G1 G2/\Same H1 H2/\(∀b o,G2 b=some o->H2 b=some o/\(G1 b=some o\/H1 b=none))/\Rep K G2 x d
def JI (K:W.Frag) (wi:TI) (Δ:Evt) (P:List D->Evt->Prop):Prop:=
 ∀g G H σ (R:It->Hp->Prop),Ok K g G H σ Δ -> (∀J ds G' H' Δ',Ok K g G' H' σ Δ' -> Same G G' -> ItOk K G' J ds->P ds Δ' -> R J H')->wi σ H R
theorem Zrh {tl:TE}{P:List D->Evt->Prop}(h:JE K tl Δ λd Δ1=>∃ds,d=.tup ds/\P ds Δ1):JI K (iTup K tl) Δ P:=λg G H σ R k c=>
 h g G H σ _ k λv d G1 H1 Δ1 k1 s1 r1 hq_=>by
  obtain⟨ds,e,p1⟩:=hq_;subst e;obtain⟨a,vs,rfl,ha,rs⟩:=r1.inv
  next=>
   refine⟨a,rfl,⟨vs,SqT.of (k1.live _ _ ha)⟩,c _ ds G1 H1 Δ1 k1 s1 (λG2 H2 sg sh=>⟨⟨vs,SqT.of (sh _ _ (sg _ _ ha)),by rw[rs.length];exact Wak _⟩,λi d e=>?_⟩) p1⟩;obtain⟨v,hv,rv⟩:=rs.get e;refine⟨⟨vs,v,SqT.of (sh _ _ (sg _ _ ha)),hv⟩,λx H3 ⟨e3,y3⟩=>⟨G2,Same.refl _,by rw[e3];exact Same.refl _,λb o q=>⟨by rw[e3];exact sh b o q,.inl q⟩,?_⟩⟩;have:=y3 vs (SqT.of (sh _ _ (sg _ _ ha)));rw[hv]at this;cases this;exact rv.mono sg
theorem Zpm {tl:TE}{P:List D->Evt->Prop}(h:JE K tl Δ λd Δ1=>∃ds,(d=.lst ds\/d=.scr ds)/\P ds Δ1):JI K (iList K tl) Δ P:=λg G H σ R k c=>
 h g G H σ _ k λv d G1 H1 Δ1 k1 s1 r1 hq_=>by
  obtain⟨ds,e,p1⟩:=hq_;obtain⟨a,vs,ea,hs,rs⟩:∃a vs,v=.ref a/\SqL K G1 a vs/\Reps K G1 vs ds:=by
   rcases e with e|e
   ·subst e;cases r1 with|lst ha rs=>exact⟨_,_,rfl,SqL.of ha,rs⟩
   ·subst e;cases r1 with|scr ha rs=>exact⟨_,_,rfl,ha,rs⟩
  subst ea;refine⟨a,rfl,⟨vs,k1.live.seq hs⟩,c _ ds G1 H1 Δ1 k1 s1 (λG2 H2 sg sh=>⟨⟨vs,sh.seq (sg.seq hs),by rw[rs.length];exact Wak _⟩,λi d e=>?_⟩) p1⟩;obtain⟨v,hv,rv⟩:=rs.get e;refine⟨⟨vs,v,sh.seq (sg.seq hs),hv⟩,λx H3 ⟨e3,y3⟩=>⟨G2,Same.refl _,by rw[e3];exact Same.refl _,λb o q=>⟨by rw[e3];exact sh b o q,.inl q⟩,?_⟩⟩;have:=y3 vs (sh.seq (sg.seq hs));rw[hv]at this;cases this;exact rv.mono sg
def rngD (lo:Int) (n:Nat):List D:=(Wbx n).map λi:Nat=>D.int (lo+(i:Int))
theorem Zcv (lo:Int) (n:Nat):(rngD lo n).length=n:=by simp[rngD]
theorem Ze0 {lo:Int}{n i:Nat}{d:D}(h:(rngD lo n)[i]?=some d):i<n/\d=.int (lo+(i:Int)):=by
 unfold rngD at h;rw[Waj]at h;cases e:(Wbx n)[i]? with
 |none=>rw[e]at h;cases h
 |some j=>
  rw[e]at h;obtain⟨h1,h2⟩:=Wah.mp e;rw[List.getElem_range]at h2;subst h2;exact⟨by simpa using h1,(Wau.inj h).symm⟩
theorem Zn7 {G:Hp}(lo:Int) (n:Nat):ItOk K G (Itr lo n) (rngD lo n):=λG1 H1 sg sh=>by
 refine⟨by show n<=(rngD lo n).length;rw[Zcv];exact Wak _,λi d e=>?_⟩;obtain⟨h1,h2⟩:=Ze0 e;subst h2;refine⟨h1,λx H2 ⟨e2,y2⟩=>⟨G1,Same.refl _,by rw[e2];exact Same.refl _,λb o q=>⟨by rw[e2];exact sh b o q,.inl q⟩,?_⟩⟩;subst y2;exact .int _
theorem Zdk {ta:TA}{P:List D->Evt->Prop}(h:JA K ta Δ λds Δ1=>∃n:Int,ds=[.int n] /\ -(2 ^ 62)<=n/\n<2 ^ 62/\P (rngD 0 n.toNat) Δ1):JI K (iRng1 ta) Δ P:=λg G H σ R k c=>
 h g G H σ _ k λvs ds G1 H1 Δ1 k1 s1 r1 hq_=>by
  obtain⟨n,e,h1,h2,p1⟩:=hq_;subst e;obtain⟨_,_,rfl,ra,rr⟩:=r1.inv
  next=>
   cases rr.inv;cases ra.inv;exact⟨n,rfl,h1,h2,c _ _ G1 H1 Δ1 k1 s1 (Zn7 0 _) p1⟩
theorem Zr2 {wi:TI}{t:TG}{tb:TS}{P:Pst}(h:JI K wi Δ λds Δ1=>∃I:Nat->Evt->Prop,I 0 Δ1/\(∀i d Δ2,ds[i]?=some d->I i Δ2->JG K t d Δ2 λΔ3=>JS K tb Δ3 ⟨I (i+1),P.rt,P.nx,I (i+1),P.ro⟩)/\∀Δ2,I ds.length Δ2->P.nx Δ2) :
  JS K (tFor wi t tb) Δ P:=λg G H σ E k c=>
 h g G H σ _ k λJ ds G1 H1 Δ1 k1 s1 it hq_=>by
  obtain⟨I,h0,ht,he⟩:=hq_;refine⟨λi m σ H=>m=ds.length-i/\i<=ds.length/\∃G Δ,Ok K g G H σ Δ /\ Same G1 G/\I i Δ,⟨ds.length,by simp,Wbt _,G1,Δ1,k1,Same.refl _,h0⟩,?_⟩;rintro i m σ2 H2 ⟨rfl,hi,G2,Δ2,k2,s2,h2⟩;obtain⟨stop,go⟩:=it G2 H2 s2 k2.live;by_cases hlt:i<ds.length
  ·obtain⟨g1,g2⟩:=go i _ (Wab hlt)
   refine .inr ⟨g1,λσ' H'=>i+1<=ds.length/\∃G Δ,Ok K g G H' σ' Δ /\ Same G1 G/\I (i+1) Δ,λσ' H' p'=>⟨ds.length-(i+1),by omega,rfl,p'.1,p'.2⟩,λx H3 y=>?_⟩;obtain⟨G3,a1,a2,a3,a4⟩:=g2 x H3 y;have k3:=k2.grow a1 a2 a3;refine ht i _ Δ2 (Wab hlt) h2 { g with F:=G3,Xo:=g.Xo } G3 H3 σ2 x _ ?_ a4 λσ4 G4 H4 Δ4 k4 s4 p4=>?_
   ·exact⟨k3.same,k3.lent,Same.refl _,λb o q=>⟨(k3.frz b o q).1,.inr q⟩,k3.ext,k3.len,k3.val,k3.own,k3.dis⟩
   ·have cv:∀{G5 H5:Hp}{σ5:St}{Δ5:Evt},Ok K { g with F:=G3,Xo:=g.Xo } G5 H5 σ5 Δ5->Ok K g G5 H5 σ5 Δ5/\Same G1 G5:=λ{G5 H5 σ5 Δ5} k5=>
     ⟨⟨k5.same,k5.lent,k3.sub.trans k5.sub,λb o q=>by
      obtain⟨q1,q2⟩:=k5.frz b o q;refine⟨q1,?_⟩;rcases q2 with z|z
      ·exact .inl z
      ·exact(k3.frz b o z).2,k5.ext,k5.len,k5.val,k5.own,k5.dis⟩,s2.trans (a1.trans k5.sub)⟩
    refine p4 _ G4 H4 σ4 _ k4 ⟨λσ5 G5 H5 Δ5 k5 p5=>?_,λv d σ5 G5 H5 Δ5 k5 r5 p5=>?_,λσ5 G5 H5 Δ5 k5 p5=>?_,λσ5 G5 H5 Δ5 k5 p5=>?_,λa od σ5 G5 H5 Δ5 k5 pd5 p5=>?_⟩
    ·exact⟨hlt,G5,Δ5,(cv k5).1,(cv k5).2,p5⟩
    ·exact c.rt v d σ5 G5 H5 Δ5 (cv k5).1 r5 p5
    ·exact c.nx σ5 G5 H5 Δ5 (cv k5).1 p5
    ·exact⟨hlt,G5,Δ5,(cv k5).1,(cv k5).2,p5⟩
    ·exact c.ro a od σ5 G5 H5 Δ5 (cv k5).1 pd5 p5
  ·have e:i=ds.length:=by omega
   subst e;exact .inl ⟨stop,c.nx σ2 G2 H2 Δ2 k2 (he Δ2 h2)⟩
end
section
variable {K:W.Frag}{Δ:Evt}{P:D->Evt->Prop}
theorem jr_I {C:Int->Int->Prop}{f:Int->Int->Int}{i j:Int}(hc:C i j) (p:P (.int (f i j)) Δ):JR2 K (rI C λi j=>.int (f i j)) (.int i) (.int j) Δ P:=λg G H σ Q x y k rx ry c=>by
 cases rx.inv;cases ry.inv;exact⟨i,j,rfl,rfl,hc,c _ _ G H Δ k (Same.refl _) (.int _) p⟩
theorem Znc {f:Int->Int->Int}{i j:Int}(p:P (.int (f i j)) Δ):JR2 K (rI0 λi j=>.int (f i j)) (.int i) (.int j) Δ P:=λg G H σ Q x y k rx ry c=>by
 cases rx.inv;cases ry.inv;exact⟨i,j,rfl,rfl,c _ _ G H Δ k (Same.refl _) (.int _) p⟩
theorem Zm4 {f:Int->Int->Bool}{i j:Int}(p:P (.bl (f i j)) Δ):JR2 K (rI0 λi j=>.bl (f i j)) (.int i) (.int j) Δ P:=λg G H σ Q x y k rx ry c=>by
 cases rx.inv;cases ry.inv;exact⟨i,j,rfl,rfl,c _ _ G H Δ k (Same.refl _) (.bl _) p⟩
theorem Zfs {i j:Int}(p:P (.bl (decide (i=j))) Δ):JR2 K rEq (.int i) (.int j) Δ P:=λg G H σ Q x y k rx ry c=>by
 cases rx.inv;cases ry.inv;refine⟨rfl,?_⟩;have e:decide (V.int i=V.int j)=decide (i=j):=by rw[Zgq];exact(Bool.beq_eq_decide_eq i j)
 rw[e];exact c _ _ G H Δ k (Same.refl _) (.bl _) p
theorem Zl6 {i j:Int}(p:P (.bl (!decide (i=j))) Δ):JR2 K rNe (.int i) (.int j) Δ P:=λg G H σ Q x y k rx ry c=>by
 cases rx.inv;cases ry.inv;refine⟨rfl,?_⟩;have e:decide (V.int i=V.int j)=decide (i=j):=by rw[Zgq];exact(Bool.beq_eq_decide_eq i j)
 rw[e];exact c _ _ G H Δ k (Same.refl _) (.bl _) p
theorem Zr1 {i j:Bool}(p:P (.bl (decide (i=j))) Δ):JR2 K rEq (.bl i) (.bl j) Δ P:=λg G H σ Q x y k rx ry c=>by
 cases rx.inv;cases ry.inv;refine⟨rfl,?_⟩;have e:decide (V.bl i=V.bl j)=decide (i=j):=by cases i <;> cases j <;> rfl
 rw[e];exact c _ _ G H Δ k (Same.refl _) (.bl _) p
theorem Zi2 {i j:Bool}(p:P (.bl (!decide (i=j))) Δ):JR2 K rNe (.bl i) (.bl j) Δ P:=λg G H σ Q x y k rx ry c=>by
 cases rx.inv;cases ry.inv;refine⟨rfl,?_⟩;have e:decide (V.bl i=V.bl j)=decide (i=j):=by cases i <;> cases j <;> rfl
 rw[e];exact c _ _ G H Δ k (Same.refl _) (.bl _) p
theorem Zrc {ds:List D}{i:Int}{d:D}(h:atI ds i=some d) (p:P d Δ):JR2 K (rIxT K) (.tup ds) (.int i) Δ P:=λg G H σ Q x y k rx ry c=>by
 obtain⟨_,_,rfl,ha,rs⟩:=rx.inv
 next=>
  cases ry.inv;obtain⟨v,h1,h2⟩:=Zgk rs h;exact⟨_,_,i,v,rfl,rfl,SqT.of (k.live _ _ ha),h1,c v d G H Δ k (Same.refl _) h2 p⟩
theorem Zta {ds:List D}{i:Int}{d:D}(h:atI ds i=some d) (p:P d Δ):JR2 K (rIxL K) (.lst ds) (.int i) Δ P:=λg G H σ Q x y k rx ry c=>by
 obtain⟨_,_,rfl,ha,rs⟩:=rx.inv
 next=>
  cases ry.inv;obtain⟨v,h1,h2⟩:=Zgk rs h;exact⟨_,_,i,v,rfl,rfl,SqL.of (k.live _ _ ha),h1,c v d G H Δ k (Same.refl _) h2 p⟩
theorem Zl7 {n:Nat}{te:TE}{Pp:Pst}{x:Slot}{od:OD}(hx:Δ[n]?=some x) (ho:x.od=some od) (hod:∃ds,od=.lst ds)
  (h:JE K te Δ λd Δ1=>∃y ds,Δ1[n]?=some y/\y.od=some (.lst ds)/\ds.length<sizeLine/\Pp.nx (Δ1.set n (y.put (.lst (ds++[d]))))) :
  JS K (tDrop (tBM K "list" rAppend (tVar n) (tCons te tNil))) Δ Pp:=λg G H σ E k c=>by
 obtain⟨a,o,h1,h2,h3,h4,h5⟩:=k.own n x _ hx ho;obtain⟨ds0,hod⟩:=hod;subst hod;cases o with
 |lst vs0=>
  refine⟨.ref a,h1,.inl ⟨rfl,_,SqL.of h2⟩,h g G H σ _ k λv d G1 H1 Δ1 k1 s1 r1 ⟨y,ds,q1,q2,q3,p⟩=>?_⟩;obtain⟨a',o',w1,w2,w3,w4,w5⟩:=k1.own n y _ q1 q2;rw[h1]at w1;cases w1;cases o' with
  |lst vs=>
   have w3:Reps K G1 vs ds:=w3;exact⟨a,vs,v,rfl,rfl,w2,by rw[w3.length];exact q3,c.nx σ G1 _ _ (k1.write q1 q2 h1 (show OwnRep K G1 (.lst (vs++[v])) (.lst (ds++[d])) from w3.append (.cons r1 .nil))) p⟩
  |_=>exact absurd w3 (λz=>z)
 |_=>exact absurd h3 (λz=>z)
theorem Zsr {ds es:List D}(he:ds=[.lst es]\/ds=[.tup es]) (p:P (.int es.length) Δ) :
  JC K (λxs H Q=>∃p ys,xs=[.ref p]/\(SqL K H p ys\/SqT K H p ys)/\Q (.int ys.length) H) ds Δ P:=λg G H σ Q vs k rs c=>by
 rcases he with he|he <;> subst he
 ·obtain⟨_,_,rfl,r,t⟩:=rs.inv
  next=>
   cases t.inv;obtain⟨_,_,rfl,ha,rs⟩:=r.inv
   next=>
    refine⟨_,_,rfl,.inl (SqL.of (k.live _ _ ha)),?_⟩;rw[rs.length];exact c _ _ G H Δ k (Same.refl _) (.int _) p
 ·obtain⟨_,_,rfl,r,t⟩:=rs.inv
  next=>
   cases t.inv;obtain⟨_,_,rfl,ha,rs⟩:=r.inv
   next=>
    refine⟨_,_,rfl,.inr (SqT.of (k.live _ _ ha)),?_⟩;rw[rs.length];exact c _ _ G H Δ k (Same.refl _) (.int _) p
theorem Zpw {n:Nat}{x:Slot}{ds:List D}(hx:Δ[n]?=some x) (ho:x.od=some (.lst ds)) (p:P (.int ds.length) Δ) :
  JE K (tCB (λxs H Q=>∃p ys,xs=[.ref p]/\(SqL K H p ys\/SqT K H p ys)/\Q (.int ys.length) H) (tCons (tVar n) tNil)) Δ P:=λg G H σ Q k c=>by
 obtain⟨a,o,h1,h2,h3,h4,h5⟩:=k.own n x _ hx ho;cases o with
 |lst vs=>
  have h3:Reps K G vs ds:=h3;refine⟨.ref a,h1,a,vs,rfl,.inl (SqL.of h2),?_⟩;rw[h3.length];exact c _ _ G H Δ k (Same.refl _) (.int _) p
 |_=>exact absurd h3 (λz=>z)
theorem Zst {i:Int}(p:P (.int (if i<0 then -i else i)) Δ):JC K (λxs H Q=>∃i,xs=[.int i]/\Q (.int (if i<0 then -i else i)) H) [.int i] Δ P:=λg G H σ Q vs k rs c=>by
 obtain⟨_,_,rfl,r,t⟩:=rs.inv
 next=>cases t.inv;cases r.inv;exact⟨i,rfl,c _ _ G H Δ k (Same.refl _) (.int _) p⟩
theorem Zhz {f:Int->Int->Int}{i j:Int}(p:P (.int (f i j)) Δ):JC K (λxs H Q=>∃i j,xs=[.int i,.int j]/\Q (.int (f i j)) H) [.int i,.int j] Δ P:=λg G H σ Q vs k rs c=>by
 obtain⟨_,_,rfl,r,t⟩:=rs.inv
 next=>
  obtain⟨_,_,rfl,r',t⟩:=t.inv
  next=>cases t.inv;cases r.inv;cases r'.inv;exact⟨i,j,rfl,c _ _ G H Δ k (Same.refl _) (.int _) p⟩
theorem Zn9 {ds es:List D}(he:ds=[.lst es]\/ds=[.tup es]) (p:P (.tup es) Δ) :
  JC K (λxs H Q=>∃p ys,xs=[.ref p]/\((SqL K H p ys/\∀l,H l=none->Q (.ref l) (upd H l (.tup ys)))\/(SqT K H p ys/\Q (.ref p) H))) ds Δ P:=λg G H σ Q vs k rs c=>by
 rcases he with he|he <;> subst he
 ·obtain⟨_,_,rfl,r,t⟩:=rs.inv
  next=>
   cases t.inv;obtain⟨_,_,rfl,ha,rs⟩:=r.inv
   next=>
    refine⟨_,_,rfl,.inl ⟨SqL.of (k.live _ _ ha),λl hl=>?_⟩⟩;obtain⟨k2,sg⟩:=k.laid hl (.tup _);exact c _ _ _ _ Δ k2 sg (.tup Zan (rs.mono sg)) p
 ·obtain⟨_,_,rfl,r,t⟩:=rs.inv
  next=>
   cases t.inv;obtain⟨_,_,rfl,ha,rs⟩:=r.inv
   next=>exact⟨_,_,rfl,.inr ⟨SqT.of (k.live _ _ ha),c _ _ G H Δ k (Same.refl _) (.tup ha rs) p⟩⟩
def glue (F H H':Hp):Hp:=λb=>match H b with
 |none=>H' b
 |some _=>F b
theorem Zcb {F H H':Hp}{b:Addr}(h:H b=none):glue F H H' b=H' b:=by unfold glue;rw[h]
theorem Zb1 {F H H':Hp}{b:Addr}{o:HO}(h:H b=some o):glue F H H' b=F b:=by unfold glue;rw[h]
theorem Zdn {G H H':Hp}(l:Same G H):Same G (glue G H H'):=λb o e=>by rw[Zb1 (l b o e)];exact e
theorem Zd2 {G H H':Hp}(l:Same G H) (sh:∀b o,G b=some o->H b=some o->H' b=some o):∀b o,glue G H H' b=some o->H' b=some o/\(G b=some o\/H b=none):=λb o e=>by
 cases q:H b with
 |none=>rw[Zcb q]at e;exact⟨e,.inr rfl⟩
 |some u=>rw[Zb1 q]at e;exact⟨sh b o e (l b o e),.inl e⟩
abbrev DSp:=List D->(D->Prop)->Prop
def spD (K:W.Frag) (f:DSp):Sp:=λvs H Q _=>∃F ds Post,Same F H/\Reps K F vs ds/\f ds Post/\∀r H' d,Same H H' -> Rep K (glue F H H') r d->Post d->Q r H'
theorem Zbn {f:DSp}{ta:TA}{E:XK}(h:JA K ta Δ λds Δ1=>f ds λd=>P d Δ1):JE K (tCall (spD K f) [] E ta) Δ P:=λg G H σ Q k c=>
 h g G H σ _ k λvs ds G1 H1 Δ1 k1 s1 r1 p1=>by
  show spD K f (vs++[]) H1 Q E;rw[Wbf];refine⟨G1,ds,_,k1.live,r1,p1,λr H' d sh rr pd=>?_⟩;have sg:=Zdn (H':=H') k1.live;exact c r d _ H' Δ1 (k1.grow sg sh (Zd2 k1.live λb o _ e=>sh b o e)) (s1.trans sg) rr pd
abbrev BSp:=List D->List D->(D->List D->Prop)->Prop
def spB (K:W.Frag) (f:BSp):Sp:=λvs H Q _=>∃F a us ws ps ds Post,vs=.ref a::ws/\Same F H/\F a=none/\H a=some (.lst us)/\Reps K F us ps/\Reps K F ws ds/\f ps ds Post ∧
 ∀r H' us' ps' d,(∀b o,b≠a->H b=some o->H' b=some o)->H' a=some (.lst us')->Reps K (glue F H H') us' ps' -> Rep K (glue F H H') r d->Post d ps' -> Q r H'
theorem Ok.lend {g:Gm}{G H H':Hp}{σ:St}(k:Ok K g G H σ Δ) {i:Nat}{x:Slot}{ps ps':List D}{us':List V}{a:Addr}(hx:Δ[i]?=some x) (ho:x.od=some (.lst ps)) (ha:σ[i]?=some (some (.ref a)))
  (sh:∀b o,b≠a->H b=some o->H' b=some o) (hn:H' a=some (.lst us')) (r:Reps K (glue G H H') us' ps'):Ok K g (glue G H H') H' σ (Δ.set i (x.put (.lst ps')))/\Same G (glue G H H'):=by
 obtain⟨a',o,h1,h2,h3,h4,h5⟩:=k.own i x _ hx ho;rw[ha]at h1;cases h1;have sg:=Zdn (H':=H') k.live;have k2:Ok K g (glue G H H') (upd H' a o) σ Δ:=by
  refine k.grow sg (λb u e=>?_) λb u e=>?_
  ·by_cases hb:b=a
   ·subst hb;rw[Zan,<- h2];exact e
   ·rw[Zal hb];exact sh b u hb e
  ·have hb:b≠a:=by intro z;subst z;rw[Zb1 h2,h4]at e;cases e
   rw[Zal hb];exact Zd2 k.live (λc w e1 e2=>sh c w (λz=>by subst z;rw[h4]at e1;cases e1) e2) b u e
 have k3:=k2.write hx ho ha (show OwnRep K (glue G H H') (.lst us') (.lst ps') from r);rw[Zmv]at k3;have e:upd H' a (.lst us')=H':=by
  funext b
  by_cases hb:b=a
  ·subst hb;rw[Zan,hn]
  ·rw[Zal hb]
 rw[e]at k3;exact⟨k3,sg⟩
theorem Zla {f:BSp}{ta:TA}{E:XK}{i:Nat}{x:Slot}{od:OD}(hx:Δ[i]?=some x) (ho:x.od=some od) (h:JA K ta Δ λds Δ1=>∃y ps,Δ1[i]?=some y/\y.od=some (.lst ps)/\f ps ds λd ps'=>P d (Δ1.set i (y.put (.lst ps')))) :
  JE K (tCall (spB K f) [] E (tCons (tVar i) ta)) Δ P:=λg G H σ Q k c=>by
 obtain⟨a,o,h1,h2,h3,h4,h5⟩:=k.own i x _ hx ho;refine⟨.ref a,h1,h g G H σ _ k λvs ds G1 H1 Δ1 k1 s1 r1 ⟨y,ps,q1,q2,p1⟩=>?_⟩;show spB K f ((.ref a::vs)++[]) H1 Q E;rw[Wbf];obtain⟨a',o',w1,w2,w3,w4,w5⟩:=k1.own i y _ q1 q2;rw[h1]at w1;cases w1;cases o' with
 |lst us=>
  refine⟨G1,a,us,vs,ps,ds,_,rfl,k1.live,w4,w2,w3,r1,p1,λr H' us' ps' d sh hn rr rd pd=>?_⟩;obtain⟨k2,sg⟩:=k1.lend q1 q2 h1 sh hn rr;exact c r d _ H' _ k2 (s1.trans sg) rd pd
 |_=>exact absurd w3 (λz=>z)
abbrev NSp:=List D->(List D->Prop)->Prop
def spN (K:W.Frag) (f:NSp):Sp:=λvs H Q _=>∃F ds Post,Same F H/\Reps K F vs ds/\f ds Post ∧
 ∀a H' us ps,Same H H' -> H a=none->H' a=some (.lst us)->Reps K (λb=>if b=a then none else glue F H H' b) us ps->Post ps->Q (.ref a) H'
theorem Zid {f:NSp}{ta:TA}{E:XK}{Po:OD->Evt->Prop}(h:JA K ta Δ λds Δ1=>f ds λps=>Po (.lst ps) Δ1):JO K (tCall (spN K f) [] E ta) Δ Po:=λg G H σ Q k c=>
 h g G H σ _ k λvs ds G1 H1 Δ1 k1 s1 r1 p1=>by
  show spN K f (vs++[]) H1 Q E;rw[Wbf];refine⟨G1,ds,_,k1.live,r1,p1,λa H' us ps sh ha hn rr pd=>?_⟩;have sg:Same G1 (λb=>if b=a then none else glue G1 H1 H' b):=λb o e=>by
   have hb:b≠a:=by intro z;subst z;rw[k1.live _ _ e]at ha;cases ha
   try dsimp only
   rw[if_neg hb];exact Zdn k1.live b o e
  have k2:Ok K g (λb=>if b=a then none else glue G1 H1 H' b) H' σ Δ1:=k1.grow sg sh λb o e=>by
   try dsimp only at e
   by_cases hb:b=a
   ·rw[if_pos hb]at e;cases e
   ·rw[if_neg hb]at e;exact Zd2 k1.live (λb o _ e=>sh b o e) b o e
  refine c a _ _ H' Δ1 k2 (s1.trans sg) ⟨.lst us,hn,(show OwnRep K _ (.lst us) (.lst ps) from rr),by simp,k1.there ha,?_,λj x od' e1 e2 e3=>?_⟩ pd
  ·cases q:g.Xo a with
   |none=>rfl
   |some u=>have z:=(k1.ext a u q).1;rw[ha]at z;cases z
  ·obtain⟨b,oo,w1,w2,_⟩:=k1.own j x od' e1 e2
   rw[e3]at w1;cases w1;rw[ha]at w2;cases w2
end
def startD (N:List Str) (ds:List D):Evt:=ds.map .val++Wai (N.length-ds.length) .any
section
variable {K:W.Frag}
theorem Zc7 {g:Gm}{G H:Hp}{N:List Str}{vs:List V}{ds:List D}(rs:Reps K G vs ds) (hl:ds.length<=N.length) (same:∀b o,¬ g.B b->g.Hz b=some o->H b=some o) (lent:∀b,g.B b->H b≠none) (sub:Same g.F G)
  (frz:∀b o,G b=some o->H b=some o/\(g.Hz b=none\/g.F b=some o)) (ext:∀b,g.Xo b=none):Ok K g G H (start N vs) (startD N ds):=by
 have noOd:∀(i:Nat) x od,(startD N ds)[i]?=some x->x.od=some od->False:=λi x od e1 e2=>by
  have hm:=Wap e1;rcases Wa0.mp hm with z|z
  ·obtain⟨d,_,rfl⟩:=Was.mp z;cases e2
  ·rw[Wce]at z;rw[z.2]at e2;cases e2
 refine⟨same,lent,sub,frz,λb o e=>(by rw[ext b]at e;cases e),?_,λi d e=>?_,λi x od e1 e2=>(noOd i x od e1 e2).elim,λi j x y od od' a e1 e2=>(noOd i x od e1 e2).elim⟩
 ·unfold start startD
  rw[Wag,Wag,Waa,Waa,Wa3,Wa3,rs.length]
 ·unfold startD at e
  unfold start;by_cases hi:i<ds.length
  ·rw[Wbb (by simpa using hi),Waj]at e
   cases q:ds[i]? with
   |none=>rw[q]at e;cases e
   |some d'=>
    rw[q]at e;have e:Slot.val d'=Slot.val d:=by simpa using e
    cases e;obtain⟨v,h1,h2⟩:=rs.get q;refine⟨v,?_,h2⟩;rw[Wbb (by rw[Waa,rs.length];exact hi),Waj,h1];rfl
  ·rw[Waz (by simpa using hi),Wbw]at e
   split at e <;> cases e
theorem Zga {f:DSp}{t:TS}{N:List Str}{vs:List V}{H:Hp}{Q:VK}{E:XK}(ht:∀ds Post,f ds Post->ds.length<=N.length/\JS K t (startD N ds) ⟨λ_=>Post .non,λd _=>Post d,λ_=>False,λ_=>False,λ_ _=>False⟩) (h:spD K f vs H Q E) :
  t { nx:=λ_ H'=>Q .non H',rt:=Q } (start N vs) H:=by
 obtain⟨F,ds,Post,l,rs,hf,q⟩:=h;obtain⟨hl,hj⟩:=ht ds Post hf;have fin:∀{v:V}{d:D}{σ:St}{G H':Hp}{Δ:Evt},Ok K ⟨λ_=>False,F,H,λ_=>none⟩ G H' σ Δ -> Rep K G v d->Post d->Q v H':=λ{v d σ G H' Δ} k r p=>by
  refine q v H' d (λb o e=>k.same b o (λz=>z) e) (r.mono λb o e=>?_) p;obtain⟨e1,e2⟩:=k.frz b o e;rcases e2 with z|z
  ·rw[Zcb z];exact e1
  ·rw[Zb1 (l b o z)];exact z
 refine hj ⟨λ_=>False,F,H,λ_=>none⟩ F H (start N vs) _ (Zc7 rs hl (λ_ _ _ e=>e) (λ_ z=>z.elim) (Same.refl _) (λb o e=>⟨l b o e,.inr e⟩) λ_=>rfl) ⟨λσ G H' Δ k p=>fin k .non p,λv d σ G H' Δ k r p=>fin k r p,λ_ _ _ _ _ z=>z.elim,λ_ _ _ _ _ z=>z.elim,λ_ _ _ _ _ _ _ _ z=>z.elim⟩
theorem Zrs {f:NSp}{t:TS}{N:List Str}{vs:List V}{H:Hp}{Q:VK}{E:XK}(ht:∀ds Post,f ds Post->ds.length<=N.length/\JS K t (startD N ds) ⟨λ_=>False,λ_ _=>False,λ_=>False,λ_=>False,λod _=>∃ps,od=.lst ps/\Post ps⟩) (h:spN K f vs H Q E) :
  t { nx:=λ_ H'=>Q .non H',rt:=Q } (start N vs) H:=by
 obtain⟨F,ds,Post,l,rs,hf,q⟩:=h;obtain⟨hl,hj⟩:=ht ds Post hf;refine hj ⟨λ_=>False,F,H,λ_=>none⟩ F H (start N vs) _ (Zc7 rs hl (λ_ _ _ e=>e) (λ_ z=>z.elim) (Same.refl _) (λb o e=>⟨l b o e,.inr e⟩) λ_=>rfl) ⟨λ_ _ _ _ _ z=>z.elim,λ_ _ _ _ _ _ _ _ z=>z.elim,λ_ _ _ _ _ z=>z.elim,λ_ _ _ _ _ z=>z.elim,λa od σ G H' Δ k pd ⟨ps,e,p⟩=>?_⟩;subst e;obtain⟨o,h1,h2,h3,h4,h5,h6⟩:=pd;cases o with
 |lst us=>
  refine q a H' us ps (λb o e=>k.same b o (λz=>z) e) h4 h1 (Reps.mono (λb o e=>?_) (show Reps K G us ps from h2)) p;have hb:b≠a:=by intro z;subst z;rw[h3]at e;cases e
  try dsimp only
  rw[if_neg hb];obtain⟨e1,e2⟩:=k.frz b o e;rcases e2 with z|z
  ·rw[Zcb z];exact e1
  ·rw[Zb1 (l b o z)];exact z
 |_=>exact absurd h2 (λz=>z)
theorem Zip {f:BSp}{t:TS}{N:List Str}{vs:List V}{H:Hp}{Q:VK}{E:XK}(ht:∀ps ds Post,f ps ds Post->ds.length+1<=N.length/\JS K t (.bor (.lst ps)::startD N.tail ds) ⟨λΔ=>∃ps',Δ[0]?=some (.bor (.lst ps'))/\Post .non ps',λd Δ=>∃ps',Δ[0]?=some (.bor (.lst ps'))/\Post d ps',λ_=>False,λ_=>False,λ_ _=>False⟩) (h:spB K f vs H Q E) :
  t { nx:=λ_ H'=>Q .non H',rt:=Q } (start N vs) H:=by
 obtain⟨F,a,us,ws,ps,ds,Post,rfl,l,fa,ha,ru,rs,hf,q⟩:=h;obtain⟨hl,hj⟩:=ht ps ds Post hf;have fin:∀{v:V}{d:D}{σ:St}{G H':Hp}{Δ:Evt}{ps':List D},Ok K ⟨λb=>b=a,F,H,λ_=>none⟩ G H' σ Δ -> Δ[0]?=some (.bor (.lst ps'))->Rep K G v d->Post d ps' -> Q v H':=λ{v d σ G H' Δ ps'} k e0 r p=>by
  obtain⟨a',o,h1,h2,h3,h4,h5⟩:=k.own 0 _ _ e0 rfl;have ea:a'=a:=h5;subst ea;cases o with
  |lst us'=>
   have up:Same G (glue F H H'):=λb o e=>by
    obtain⟨e1,e2⟩:=k.frz b o e;rcases e2 with z|z
    ·rw[Zcb z];exact e1
    ·rw[Zb1 (l b o z)];exact z
   exact q v H' us' ps' d (λb o hb e=>k.same b o hb e) h2 (Reps.mono up (show Reps K G us' ps' from h3)) (r.mono up) p
  |_=>exact absurd h3 (λz=>z)
 cases N with
 |nil=>simp at hl
 |cons n0 N=>
  have hl':ds.length<=N.length:=by simpa using hl
  have k0:=Zc7 (K:=K) (H:=H) (g:=⟨λb=>b=a,F,H,λ_=>none⟩) (N:=N) rs hl' (λ_ _ _ e=>e) (λb z=>by subst z;rw[ha];intro w;cases w) (Same.refl _) (λb o e=>⟨l b o e,.inr e⟩) λ_=>rfl;have e1:start (n0::N) (.ref a::ws)=some (.ref a)::start N ws:=by
   unfold start;rw[Wa4,Wax,Wax,Nat.add_sub_add_right];rfl
  rw[e1];have noOd:∀(i:Nat) x od,(startD N ds)[i]?=some x->x.od=some od->False:=λi x od e1 e2=>by
   have hm:=Wap e1;rcases Wa0.mp hm with z|z
   ·obtain⟨d,_,rfl⟩:=Was.mp z;cases e2
   ·rw[Wce]at z;rw[z.2]at e2;cases e2
  have k1:Ok K ⟨λb=>b=a,F,H,λ_=>none⟩ F H (some (.ref a)::start N ws) (.bor (.lst ps)::startD N ds):=by
   refine⟨k0.same,k0.lent,k0.sub,k0.frz,λb o e=>(by cases e),(by rw[Wax,Wax,k0.len]),λi d e=>?_,λi x od e1 e2=>?_,λi j x y od od' c e1 e2 e3 e4 _ _=>?_⟩
   ·cases i with
    |zero=>cases e
    |succ i=>exact k0.val i d e
   ·cases i with
    |zero=>cases e1;cases e2;exact⟨a,.lst us,rfl,ha,ru,fa,rfl⟩
    |succ i=>exact(noOd i x od e1 e2).elim
   ·cases i with
    |zero=>cases j with
     |zero=>rfl
     |succ j=>exact(noOd j y od' e3 e4).elim
    |succ i=>exact(noOd i x od e1 e2).elim
  exact hj _ F H _ _ k1 ⟨λσ G H' Δ k ⟨ps',e,p⟩=>fin k e .non p,λv d σ G H' Δ k r ⟨ps',e,p⟩=>fin k e r p,λ_ _ _ _ _ z=>z.elim,λ_ _ _ _ _ z=>z.elim,λ_ _ _ _ _ _ _ _ z=>z.elim⟩
theorem Zc8 {f:DSp}{n:Nat}(h:∀ds Post,f ds Post->ds.length=n):∀vs H Q E,spD K f vs H Q E->vs.length=n:=λvs H Q E hq_=>by obtain⟨F,ds,Post,l,rs,hf,q⟩:=hq_;rw[rs.length];exact h ds Post hf
theorem Zmd {f:NSp}{n:Nat}(h:∀ds Post,f ds Post->ds.length=n):∀vs H Q E,spN K f vs H Q E->vs.length=n:=λvs H Q E hq_=>by obtain⟨F,ds,Post,l,rs,hf,q⟩:=hq_;rw[rs.length];exact h ds Post hf
theorem Zd1 {f:BSp}{n:Nat}(h:∀ps ds Post,f ps ds Post->ds.length+1=n):∀vs H Q E,spB K f vs H Q E->vs.length=n:=λvs H Q E hq_=>by obtain⟨F,a,us,ws,ps,ds,Post,e,l,fa,ha,ru,rs,hf,q⟩:=hq_;rw[e,Wax,rs.length];exact h ps ds Post hf
end
def JGn (K:W.Frag) (n:Nat) (t:TG) (d:D) (Δ:Evt) (P:Evt->Prop):Prop:=
 ∀g G H σ v (R:St->Hp->Prop),Ok K g G H σ Δ -> Rep K G v d->(∀σ' G' H' Δ',Ok K g G' H' σ' Δ' -> Same G G' -> (∀j,n<=j -> σ'[j]? = σ[j]?)->P Δ' -> R σ' H')->t v σ H R
def JGsn (K:W.Frag) (n:Nat) (t:TGs) (ds:List D) (Δ:Evt) (P:Evt->Prop):Prop:=
 ∀g G H σ vs (R:St->Hp->Prop),Ok K g G H σ Δ -> Reps K G vs ds->(∀σ' G' H' Δ',Ok K g G' H' σ' Δ' -> Same G G' -> (∀j,n<=j -> σ'[j]? = σ[j]?)->P Δ' -> R σ' H')->t vs σ H R
section
variable {K:W.Frag}{Δ:Evt}
theorem Zne {n:Nat}{P:Evt->Prop}(p:P Δ):JGsn K n gNil [] Δ P:=λg G H σ vs R k r c=>by cases r;exact⟨rfl,c σ G H Δ k (Same.refl _) (λ_ _=>rfl) p⟩
theorem Zhf {n:Nat}{t:TG}{u:TGs}{d:D}{ds:List D}{P:Evt->Prop}(h:JGn K n t d Δ λΔ1=>JGsn K n u ds Δ1 P):JGsn K n (gCons t u) (d::ds) Δ P:=λg G H σ vs R k r c=>by
 obtain⟨_,_,rfl,r1,rr⟩:=r.inv
 next=>exact⟨_,_,rfl,h g G H σ _ _ k r1 λσ1 G1 H1 Δ1 k1 s1 e1 p1=>p1 g G1 H1 σ1 _ R k1 (rr.mono s1) λσ2 G2 H2 Δ2 k2 s2 e2 p2=>c σ2 G2 H2 Δ2 k2 (s1.trans s2) (λj hj=>(e2 j hj).trans (e1 j hj)) p2⟩
theorem Zp3 {n m:Nat}{t:TGs}{ds:List D}{P:Evt->Prop}(hl:ds.length=m) (h:JGsn K n t ds Δ P):JGn K n (gTup K m t) (.tup ds) Δ P:=λg G H σ v R k r c=>by
 obtain⟨_,_,rfl,ha,rs⟩:=r.inv
 next=>exact⟨_,_,rfl,SqT.of (k.live _ _ ha),by rw[rs.length];exact hl,h g G H σ _ R k rs c⟩
end
def compD (n:Nat) (sel:List Nat) (Δ:Evt):Evt:=Wai n .any++sel.map λi=>(Δ[i]?).getD .any
def backAt (n:Nat) (sel:List Nat) (Δi:Evt) (i:Nat) (x:Slot):Slot:=match x with
 |.val d=>.val d
 |.any=>.any
 |x=>match sel.idxOf? i with
  |none=>x
  |some j=>match Δi[n+j]? with
   |some (.own o)=>.own o
   |some (.bor o)=>.bor o
   |some (.ownA a o)=>.ownA a o
   |_=>.any
def backD (n:Nat) (sel:List Nat) (Δi:Evt):Nat->Evt->Evt
 |_,[]=>[]
 |i,x::r=>backAt n sel Δi i x::backD n sel Δi (i+1) r
theorem Zc0 (n:Nat) (sel:List Nat) (Δi:Evt):∀(Δ:Evt) (k i:Nat),(backD n sel Δi k Δ)[i]?=(Δ[i]?).map (backAt n sel Δi (k+i))
 |[],k,i=>by simp[backD]
 |x::r,k,0=>by simp[backD]
 |x::r,k,i+1=>by
  have:=Zc0 n sel Δi r (k+1) i;simp only[backD,List.getElem?_cons_succ];rw[this,show k+1+i=k+(i+1) by omega]
theorem Zhx (n:Nat) (sel:List Nat) (Δi:Evt):∀(Δ:Evt) (k:Nat),(backD n sel Δi k Δ).length = Δ.length
 |[],k=>rfl
 |x::r,k=>by simp[backD,Zhx n sel Δi r (k+1)]
theorem Zeg {sel:List Nat}{i j:Nat}(h:sel.idxOf? i=some j):sel[j]?=some i:=by
 have h2:=List.idxOf?_eq_some_iff.mp h;obtain⟨hj,e,_⟩:=h2;rw[Wab hj,e]
theorem Zlv {n:Nat}{sel:List Nat}{Δi:Evt}{i:Nat}{x y:Slot}{od:OD}(h:backAt n sel Δi i x=y) (ho:y.od=some od) :
  (x=y/\sel.idxOf? i=none)\/∃j,sel[j]?=some i /\ Δi[n+j]?=some y/\∃od',x.od=some od':=by
 unfold backAt at h;cases x with
 |any=>subst h;cases ho
 |val d=>subst h;cases ho
 |own o=>
  dsimp only at h;cases q:sel.idxOf? i with
  |none=>rw[q]at h;exact .inl ⟨h,rfl⟩
  |some j=>
   rw[q]at h;dsimp only at h;refine .inr ⟨j,Zeg q,?_,o,rfl⟩;cases e:Δi[n+j]? with
   |none=>rw[e]at h;subst h;cases ho
   |some z=>rw[e]at h;cases z <;> (subst h;first|rfl|cases ho)
 |ownA a o=>
  dsimp only at h;cases q:sel.idxOf? i with
  |none=>rw[q]at h;exact .inl ⟨h,rfl⟩
  |some j=>
   rw[q]at h;dsimp only at h;refine .inr ⟨j,Zeg q,?_,o,rfl⟩;cases e:Δi[n+j]? with
   |none=>rw[e]at h;subst h;cases ho
   |some z=>rw[e]at h;cases z <;> (subst h;first|rfl|cases ho)
 |bor o=>
  dsimp only at h;cases q:sel.idxOf? i with
  |none=>rw[q]at h;exact .inl ⟨h,rfl⟩
  |some j=>
   rw[q]at h;dsimp only at h;refine .inr ⟨j,Zeg q,?_,o,rfl⟩;cases e:Δi[n+j]? with
   |none=>rw[e]at h;subst h;cases ho
   |some z=>rw[e]at h;cases z <;> (subst h;first|rfl|cases ho)
section
variable {K:W.Frag}{Δ:Evt}
open Classical in
noncomputable def aside (g:Gm) (sel:List Nat) (σ:St) (Δ:Evt) (H:Hp) (acc:Addr) (ys:List V):Hp:=λb=>
 if b=acc then some (.lst ys) else if ∃(i:Nat) (x:Slot) (od:OD),Δ[i]?=some x/\x.od=some od/\i ∉ sel /\ σ[i]?=some (some (.ref b)) then H b else g.Xo b
theorem Zc4 {n:Nat}{sel:List Nat}{σ:St}{j i:Nat}(h:sel[j]?=some i):(compSt n sel σ)[n+j]?=some ((σ[i]?).getD none):=by
 unfold compSt;rw[Waz (by rw[Wa3];omega),Wa3,Wci,Waj,h];rfl
theorem Zb7 {n:Nat}{sel:List Nat}{Δ:Evt}{k:Nat}{x:Slot}(h:(compD n sel Δ)[k]?=some x):x=.any\/∃j i,k=n+j/\sel[j]?=some i /\ Δ[i]?=some x:=by
 unfold compD at h;by_cases hk:k<n
 ·rw[Wbb (by simpa using hk),Wbw,if_pos hk]at h
  exact .inl (Wau.inj h).symm
 ·rw[Waz (by simpa using hk),Wa3,Waj]at h
  cases e:sel[k-n]? with
  |none=>rw[e]at h;cases h
  |some i=>
   rw[e]at h;have h:(Δ[i]?).getD .any=x:=by simpa using h
   cases q:Δ[i]? with
   |none=>rw[q]at h;exact .inl h.symm
   |some y=>rw[q]at h;cases h;exact .inr ⟨k-n,i,by omega,e,q⟩
theorem Zfz {g:Gm}{G1 H1:Hp}{σ:St}{Δ1:Evt}{n:Nat}{sel:List Nat}{acc:Addr}{X0:Hp}(hsel:sel.Nodup) (k1:Ok K g G1 H1 σ Δ1) (hacc:H1 acc=none)
  (hX:∀b o,X0 b=some o->(b=acc/\o=.lst [])\/(b≠acc/\(((∃(i:Nat) (x:Slot) (od:OD),Δ1[i]?=some x/\x.od=some od/\i ∉ sel /\ σ[i]?=some (some (.ref b)))/\H1 b=some o)\/g.Xo b=some o))):Ok K ⟨g.B,G1,g.Hz,X0⟩ G1 (upd H1 acc (.lst [])) (compSt n sel σ) (compD n sel Δ1):=by
 have hsl:∀{j j' i:Nat},sel[j]?=some i->sel[j']?=some i->j=j':=λ{j j' i} a b=>by
  obtain⟨h1,e1⟩:=Wah.mp a;obtain⟨h2,e2⟩:=Wah.mp b;exact(Wdh hsel).mp (e1.trans e2.symm)
 have hGa:G1 acc=none:=by
  cases e:G1 acc with
  |none=>rfl
  |some u=>rw[k1.live _ _ e]at hacc;cases hacc
 have cs:∀{j i:Nat}{a:Addr},sel[j]?=some i->(compSt n sel σ)[n+j]?=some (some (.ref a)) -> σ[i]?=some (some (.ref a)):=λ{j i a} ej e3=>by
  rw[Zc4 ej]at e3;cases q:σ[i]? with
  |none=>rw[q]at e3;cases e3
  |some w=>rw[q]at e3;cases e3;rfl
 have oldH:∀b o,H1 b=some o->(upd H1 acc (.lst [])) b=some o:=λb o e=>by rw[Zal (Zao e hacc)];exact e
 refine⟨λb o hb e=>oldH b o (k1.same b o hb e),λb hb z=>?_,Same.refl _,λb o e=>⟨oldH b o (k1.live b o e),.inr e⟩,λb o e=>?_,?_,λi d e=>?_,λi x od e1 e2=>?_,λi j x y od od' a e1 e2 e3 e4 e5 e6=>?_⟩
 ·cases q:H1 b with
  |none=>exact k1.lent b hb q
  |some u=>rw[oldH b u q]at z;cases z
 ·rcases hX b o e with ⟨rfl,rfl⟩|⟨hb,⟨⟨i0,x0,od0,f1,f2,f3,f4⟩,e⟩|e⟩
  ·refine⟨Zan,hGa,λi x od e1 e2 e3=>?_⟩
   rcases Zb7 e1 with z|⟨j,i',ei,ej,z⟩
   ·subst z;cases e2
   ·subst ei
    obtain⟨a,o,w1,w2,_⟩:=k1.own i' x od z e2;rw[cs ej e3]at w1;cases w1;rw[hacc]at w2;cases w2
  ·obtain⟨a,oo,w1,w2,w3,w4,w5⟩:=k1.own i0 x0 od0 f1 f2
   rw[f4]at w1;cases w1;refine⟨oldH b o e,w4,λi x od e1 e2 e3=>?_⟩;rcases Zb7 e1 with z|⟨j,i',ei,ej,z⟩
   ·subst z;cases e2
   ·subst ei
    have:=k1.dis i0 i' x0 x od0 od b f1 f2 z e2 f4 (cs ej e3);subst this;exact f3 (Wap ej)
  ·obtain⟨w1,w2,w3⟩:=k1.ext b o e
   refine⟨oldH b o w1,w2,λi x od e1 e2 e3=>?_⟩;rcases Zb7 e1 with z|⟨j,i',ei,ej,z⟩
   ·subst z;cases e2
   ·subst ei;exact w3 i' x od z e2 (cs ej e3)
 ·unfold compD compSt
  simp
 ·rcases Zb7 e with z|⟨j,i',ei,ej,z⟩
  ·cases z
  ·subst ei
   obtain⟨v,w1,w2⟩:=k1.val i' d z;exact⟨v,by rw[Zc4 ej,w1];rfl,w2⟩
 ·rcases Zb7 e1 with z|⟨j,i',ei,ej,z⟩
  ·subst z;cases e2
  ·subst ei
   obtain⟨a,o,w1,w2,w3,w4,w5⟩:=k1.own i' x od z e2;exact⟨a,o,by rw[Zc4 ej,w1];rfl,oldH a o w2,w3,w4,w5⟩
 ·rcases Zb7 e1 with z|⟨j1,i1,ei,ej,z⟩
  ·subst z;cases e2
  ·rcases Zb7 e3 with z'|⟨j2,i2,ei',ej',z'⟩
   ·subst z';cases e4
   ·subst ei;subst ei'
    have:=k1.dis i1 i2 x y od od' a z e2 z' e4 (cs ej e5) (cs ej' e6);subst this;rw[hsl ej ej']
theorem Zg7 {σ σ2:St}{Δ1 Δ2:Evt}{n:Nat}{sel:List Nat}(hσ:∀j,n<=j -> σ2[j]?=(compSt n sel σ)[j]?) (i:Nat) (y:Slot) (od:OD) (e1:(backD n sel Δ2 0 Δ1)[i]?=some y) (e2:y.od=some od) :
  ∃x od',Δ1[i]?=some x/\x.od=some od' /\ ((x=y/\i ∉ sel)\/∃j,sel[j]?=some i /\ Δ2[n+j]?=some y /\ σ2[n+j]?=some ((σ[i]?).getD none)):=by
 rw[Zc0]at e1;cases q:Δ1[i]? with
 |none=>rw[q]at e1;cases e1
 |some x=>
  rw[q]at e1;have e1:backAt n sel Δ2 i x=y:=by simpa using e1
  rcases Zlv e1 e2 with ⟨z1,z2⟩|⟨j,z1,z2,od',z3⟩
  ·refine⟨x,od,rfl,by rw[z1];exact e2,.inl ⟨z1,λhm=>?_⟩⟩
   rw[List.idxOf?_eq_none_iff]at z2;exact z2 hm
  ·exact⟨x,od',rfl,z3,.inr ⟨j,z1,z2,by rw[hσ (n+j) (by omega)];exact Zc4 z1⟩⟩
theorem Zfl {g:Gm}{G1 H1 G2 H2 Xv:Hp}{σ σ2:St}{Δ1 Δ2:Evt}{n:Nat}{sel:List Nat}{acc:Addr}(k1:Ok K g G1 H1 σ Δ1) (hacc:H1 acc=none) (k2:Ok K ⟨g.B,G1,g.Hz,Xv⟩ G2 H2 σ2 Δ2) (hσ:∀j,n<=j -> σ2[j]?=(compSt n sel σ)[j]?)
  (hX:∀b o,b≠acc->(∃(i:Nat) (x:Slot) (od:OD),Δ1[i]?=some x/\x.od=some od/\i ∉ sel /\ σ[i]?=some (some (.ref b)))->H1 b=some o->Xv b=some o) (hY:∀b o,b≠acc->¬ (∃(i:Nat) (x:Slot) (od:OD),Δ1[i]?=some x/\x.od=some od/\i ∉ sel /\ σ[i]?=some (some (.ref b)))->g.Xo b=some o->Xv b=some o):Ok K g G2 H2 σ (backD n sel Δ2 0 Δ1):=by
 have s2:Same G1 G2:=k2.sub;have src:=Zg7 (Δ1:=Δ1) (Δ2:=Δ2) hσ;refine⟨k2.same,k2.lent,k1.sub.trans s2,λb o e=>?_,λb o e=>?_,by rw[Zhx,k1.len],λi d e=>?_,λi y od e1 e2=>?_,λi j x y od od' a e1 e2 e3 e4 e5 e6=>?_⟩
 ·obtain⟨q1,q2⟩:=k2.frz b o e
  refine⟨q1,?_⟩;rcases q2 with z|z
  ·exact .inl z
  ·exact(k1.frz b o z).2
 ·obtain⟨w1,w2,w3⟩:=k1.ext b o e
  have hne:b≠acc:=by intro z;subst z;rw[hacc]at w1;cases w1
  obtain⟨u1,u2,u3⟩:=k2.ext b o (hY b o hne (λ⟨i,x,od,f1,f2,f3,f4⟩=>w3 i x od f1 f2 f4) e);refine⟨u1,u2,λi y od e1 e2 e3=>?_⟩;obtain⟨x,od',f1,f2,_⟩:=src i y od e1 e2;exact w3 i x od' f1 f2 e3
 ·rw[Zc0]at e
  cases q:Δ1[i]? with
  |none=>rw[q]at e;cases e
  |some x=>
   rw[q]at e;have e:backAt n sel Δ2 (0+i) x=.val d:=by simpa using e
   have ex:x=.val d:=by
    unfold backAt at e;cases x with
    |any=>cases e
    |val d'=>exact e
    |own o=>dsimp only at e;split at e <;> first|cases e|(split at e <;> cases e)
    |bor o=>dsimp only at e;split at e <;> first|cases e|(split at e <;> cases e)
    |ownA a o=>dsimp only at e;split at e <;> first|cases e|(split at e <;> cases e)
   subst ex;obtain⟨v,w1,w2⟩:=k1.val i d q;exact⟨v,w1,w2.mono s2⟩
 ·obtain⟨x,od',f1,f2,f3⟩:=src i y od e1 e2
  rcases f3 with ⟨f3,f4⟩|⟨j,f3,f4,f5⟩
  ·subst f3
   obtain⟨a,o,w1,w2,w3,w4,w5⟩:=k1.own i x od f1 e2;have hne:a≠acc:=by intro z;subst z;rw[hacc]at w2;cases w2
   obtain⟨u1,u2,u3⟩:=k2.ext a o (hX a o hne ⟨i,x,od,f1,e2,f4,w1⟩ w2);exact⟨a,o,w1,u1,w3.mono s2,u2,w5⟩
  ·obtain⟨a,o,w1,w2,w3,w4,w5⟩:=k2.own (n+j) y od f4 e2
   obtain⟨a0,o0,v1,_⟩:=k1.own i x od' f1 f2;rw[f5,v1]at w1;have ea:a0=a:=by cases w1;rfl
   subst ea;exact⟨a0,o,v1,w2,w3,w4,w5⟩
 ·obtain⟨x',od1,f1,f2,_⟩:=src i x od e1 e2
  obtain⟨y',od2,f3,f4,_⟩:=src j y od' e3 e4;exact k1.dis i j x' y' od1 od2 a f1 f2 f3 f4 e5 e6
theorem Ok.base {g:Gm}{G1 F X G5 H5:Hp}{σ5:St}{Δ5:Evt}(sF:Same G1 F) (hF:∀b o,F b=some o->(g.Hz b=none\/G1 b=some o)) (k5:Ok K ⟨g.B,F,g.Hz,X⟩ G5 H5 σ5 Δ5):Ok K ⟨g.B,G1,g.Hz,X⟩ G5 H5 σ5 Δ5:=
 ⟨k5.same,k5.lent,sF.trans k5.sub,λb o q=>by
  obtain⟨q1,q2⟩:=k5.frz b o q;refine⟨q1,?_⟩;rcases q2 with z|z
  ·exact .inl z
  ·exact hF b o z,k5.ext,k5.len,k5.val,k5.own,k5.dis⟩
theorem Zly {n:Nat}{sel:List Nat}{wi:TI}{t:TG}{tc:TT}{te:TE}{P:OD->Evt->Prop}(hsel:sel.Nodup)
  (h:JI K wi Δ λds Δ1=>ds.length<sizeLine/\∃I:Nat->List D->Evt->Prop,I 0 [] (compD n sel Δ1) ∧
   (∀i d ys Δ2,ds[i]?=some d->I i ys Δ2->JGn K n t d Δ2 λΔ3=>JT K tc Δ3 λb Δ4=>if b=true then JE K te Δ4 λe Δ5=>I (i+1) (ys++[e]) Δ5 else I (i+1) ys Δ4) ∧
   ∀ys Δ2,I ds.length ys Δ2->P (.lst ys) (backD n sel Δ2 0 Δ1)):JO K (tComp n sel wi t tc te) Δ P:=λg G H σ Q k c=>
 h g G H σ _ k λJ ds G1 H1 Δ1 k1 s1 it ⟨hz,I,h0,ht,he⟩ acc hacc=>by
  have nacc:∀(i:Nat) x od,Δ1[i]?=some x->x.od=some od -> σ[i]?≠some (some (.ref acc)):=λi x od e1 e2 e3=>by
   obtain⟨a,o,w1,w2,_⟩:=k1.own i x od e1 e2;rw[e3]at w1;cases w1;rw[hacc]at w2;cases w2
  -- the word at each turn
  let Wd:Nat->St->Hp->Prop:=λi σ' H'=>i<=ds.length/\(∀j,n<=j -> σ'[j]?=(compSt n sel σ)[j]?)/\∃G ys vs Δi,ys.length<=i/\Reps K G vs ys/\Ok K ⟨g.B,G1,g.Hz,aside g sel σ Δ1 H1 acc vs⟩ G H' σ' Δi/\I i ys Δi
  refine⟨λi m σ' H'=>m=ds.length-i/\Wd i σ' H',⟨ds.length,by simp,Wbt _,λ_ _=>rfl,G1,[],[],compD n sel Δ1,Wak _,.nil,?_,h0⟩,?_⟩
  ·refine Zfz hsel k1 hacc λb o e=>?_
   have e:aside g sel σ Δ1 H1 acc [] b=some o:=e;unfold aside at e;by_cases hb:b=acc
   ·rw[if_pos hb]at e;cases e;exact .inl ⟨hb,rfl⟩
   ·rw[if_neg hb]at e
    split at e
    case isTrue hx=>exact .inr ⟨hb,.inl ⟨hx,e⟩⟩
    case isFalse hx=>exact .inr ⟨hb,.inr e⟩
  ·rintro i m σ2 H2 ⟨rfl,hi,hσ,G2,ys,vs,Δ2,hy,ry,k2,h2⟩
   have s2:Same G1 G2:=k2.sub;obtain⟨stop,go⟩:=it G2 H2 s2 k2.live;have hacc2:∀{G' H':Hp}{σ':St}{Δ':Evt}{vs:List V}{F:Hp},Ok K ⟨g.B,F,g.Hz,aside g sel σ Δ1 H1 acc vs⟩ G' H' σ' Δ' -> H' acc=some (.lst vs)/\G' acc=none/\∀(i:Nat) x od,Δ'[i]?=some x->x.od=some od -> σ'[i]?≠some (some (.ref acc)):=λ{G' H' σ' Δ' vs F} kk=>
    kk.ext acc (.lst vs) (by show aside g sel σ Δ1 H1 acc vs acc=_;unfold aside;rw[if_pos rfl])
   by_cases hlt:i<ds.length
   ·obtain⟨g1,g2⟩:=go i _ (Wab hlt)
    refine .inr ⟨g1,λσ' H'=>Wd (i+1) σ' H',λσ' H' p'=>⟨ds.length-(i+1),by omega,rfl,p'⟩,λx H3 y=>?_⟩;obtain⟨G3,a1,a2,a3,a4⟩:=g2 x H3 y;have k3:=k2.grow a1 a2 a3;have hG3:∀b o,G3 b=some o->(g.Hz b=none\/G1 b=some o):=λb o q=>(k3.frz b o q).2;have k3':Ok K ⟨g.B,G3,g.Hz,aside g sel σ Δ1 H1 acc vs⟩ G3 H3 σ2 Δ2:=⟨k3.same,k3.lent,Same.refl _,λb o q=>⟨(k3.frz b o q).1,.inr q⟩,k3.ext,k3.len,k3.val,k3.own,k3.dis⟩;have ry3:Reps K G3 vs ys:=ry.mono a1;have s13:Same G1 G3:=s2.trans a1;refine ht i _ ys Δ2 (Wab hlt) h2 ⟨g.B,G3,g.Hz,aside g sel σ Δ1 H1 acc vs⟩ G3 H3 σ2 x _ k3' a4 λσ4 G4 H4 Δ4 k4 s4 e4 p4=>?_;have hσ4:∀j,n<=j -> σ4[j]?=(compSt n sel σ)[j]?:=λj hj=>(e4 j hj).trans (hσ j hj);refine p4 _ G4 H4 σ4 _ k4 λb G5 H5 Δ5 k5 s5 p5=>?_;cases b with
    |false=>exact⟨hlt,hσ4,G5,ys,vs,Δ5,by omega,ry3.mono (s4.trans s5),k5.base s13 hG3,p5⟩
    |true=>
     refine(show JE K te Δ5 _ from p5) _ G5 H5 σ4 _ k5 λv d G6 H6 Δ6 k6 s6 r6 p6=>?_;have ry6:Reps K G6 vs ys:=ry3.mono (s4.trans (s5.trans s6));obtain⟨b1,b2,b3⟩:=hacc2 k6;refine⟨vs,b1,by rw[ry6.length];omega,hlt,hσ4,G6,ys++[d],vs++[v],Δ6,by rw[Wag,Wb7];omega,ry6.append (.cons r6 .nil),?_,p6⟩;have k7:=k6.base s13 hG3;have oldH:∀b o,b≠acc->H6 b=some o->(upd H6 acc (.lst (vs++[v]))) b=some o:=λb o hb e=>by rw[Zal hb];exact e
     have aNe:∀b o,b≠acc->aside g sel σ Δ1 H1 acc (vs++[v]) b=some o->aside g sel σ Δ1 H1 acc vs b=some o:=λb o hb e=>by
      unfold aside at e ⊢;rw[if_neg hb]at e ⊢;exact e
     refine⟨λb o hb e=>?_,λb hb=>?_,k7.sub,λb o e=>?_,λb o e=>?_,k7.len,k7.val,λi x od e1 e2=>?_,k7.dis⟩
     ·have hne:b≠acc:=by
       intro z;subst z;have e:g.Hz b=some o:=e;rw[k1.there hacc]at e;cases e
      exact oldH b o hne (k7.same b o hb e)
     ·by_cases hne:b=acc
      ·subst hne;rw[Zan];intro z;cases z
      ·rw[Zal hne];exact k7.lent b hb
     ·have hne:b≠acc:=by intro z;subst z;rw[b2]at e;cases e
      exact⟨oldH b o hne (k7.frz b o e).1,(k7.frz b o e).2⟩
     ·by_cases hne:b=acc
      ·subst hne
       have e:aside g sel σ Δ1 H1 b (vs++[v]) b=some o:=e;unfold aside at e;rw[if_pos rfl]at e;cases e;exact⟨Zan,b2,b3⟩
      ·obtain⟨w1,w2,w3⟩:=k7.ext b o (aNe b o hne e)
       exact⟨oldH b o hne w1,w2,w3⟩
     ·obtain⟨a,o,w1,w2,w3,w4,w5⟩:=k7.own i x od e1 e2
      have hne:a≠acc:=by intro z;subst z;exact b3 i x od e1 e2 w1
      exact⟨a,o,w1,oldH a o hne w2,w3,w4,w5⟩
   ·have e:i=ds.length:=by omega
    subst e;refine .inl ⟨stop,?_⟩;obtain⟨b1,b2,b3⟩:=hacc2 k2;have src:=Zg7 (Δ1:=Δ1) (Δ2:=Δ2) hσ;have k9:Ok K g G2 H2 σ (backD n sel Δ2 0 Δ1):=Zfl k1 hacc k2 hσ (λb o hb hx e=>by show aside g sel σ Δ1 H1 acc vs b=_;unfold aside;rw[if_neg hb,if_pos hx];exact e) (λb o hb hx e=>by show aside g sel σ Δ1 H1 acc vs b=_;unfold aside;rw[if_neg hb,if_neg hx];exact e);refine c acc _ G2 H2 _ k9 (s1.trans s2) ⟨.lst vs,b1,(show OwnRep K G2 (.lst vs) (.lst ys) from ry),b2,k1.there hacc,?_,λi y od e1 e2 e3=>?_⟩ (he ys Δ2 h2)
    ·cases q:g.Xo acc with
     |none=>rfl
     |some u=>have z:=(k1.ext acc u q).1;rw[hacc]at z;cases z
    ·obtain⟨x',od1,f1,f2,_⟩:=src i y od e1 e2
     exact nacc i x' od1 f1 f2 e3
theorem Zqi {n:Nat}{sel:List Nat}{wi:TI}{t:TG}{tc:TT}{te:TE}{P:D->Evt->Prop}(hsel:sel.Nodup)
  (h:JI K wi Δ λds Δ1=>ds.length<sizeLine/\∃I:Nat->List D->Evt->Prop,I 0 [] (compD n sel Δ1) ∧
   (∀i d ys Δ2,ds[i]?=some d->I i ys Δ2->JGn K n t d Δ2 λΔ3=>JT K tc Δ3 λb Δ4=>if b=true then JE K te Δ4 λe Δ5=>I (i+1) (ys++[e]) Δ5 else I (i+1) ys Δ4) ∧
   ∀ys Δ2,I ds.length ys Δ2->P (.lst ys) (backD n sel Δ2 0 Δ1)):JE K (tComp n sel wi t tc te) Δ P:=
 Zea (Zly hsel λg G H σ R k c=>h g G H σ R k λJ ds G' H' Δ' k' s' it ⟨z,I,h0,ht,he⟩=>c J ds G' H' Δ' k' s' it ⟨z,I,h0,ht,λys Δ2 q=>⟨ys,rfl,he ys Δ2 q⟩⟩)
theorem Zjk {n:Nat}{sel:List Nat}{wi:TI}{t:TG}{tc:TT}{te:TE}{P:D->Evt->Prop}(hsel:sel.Nodup)
  (h:JI K wi Δ λds Δ1=>ds.length<sizeLine/\∃(fix:Evt) (p:D->Bool) (f:D->D),compD n sel Δ1=Wai n .any++fix ∧
   (∀(i:Nat) d (ts:Evt),ds[i]?=some d->ts.length=n->JGn K n t d (ts++fix) λΔ3=>JT K tc Δ3 λb Δ4=>b=p d/\if b=true then JE K te Δ4 λe Δ5=>e=f d/\∃ts',ts'.length=n /\ Δ5=ts'++fix else ∃ts',ts'.length=n /\ Δ4=ts'++fix) ∧
   P (.lst ((ds.filter p).map f)) (backD n sel (Wai n .any++fix) 0 Δ1)):JE K (tComp n sel wi t tc te) Δ P:=by
 refine Zqi hsel λg G H σ R k c=>h g G H σ R k λJ ds G' H' Δ' k' s' it ⟨z,fix,p,f,e0,ht,he⟩=>c J ds G' H' Δ' k' s' it ⟨z,λi ys Δ=>ys=((ds.take i).filter p).map f/\∃ts:Evt,ts.length=n /\ Δ = ts++fix,?_,?_,?_⟩
 ·exact⟨by simp,_,by simp,e0⟩
 ·rintro i d ys Δ2 hd ⟨rfl,ts,hts,rfl⟩
  have tk:ds.take (i+1)=ds.take i++[d]:=by
   rw[Wc9,hd];rfl
  intro g G H σ v R k r c;refine ht i d ts hd hts g G H σ v R k r λσ' G' H' Δ' k' s' e' q=>c σ' G' H' Δ' k' s' e' λg G H σ Q k c=>q g G H σ Q k λb G' H' Δ' k' s' ⟨eb,q⟩=>c b G' H' Δ' k' s' ?_;cases b with
  |true=>
   rw[if_pos rfl]at q ⊢;refine q.mono λe Δ5 ⟨e1,ts',h1,h2⟩=>⟨?_,ts',h1,h2⟩;rw[tk,Wb1,Wbd,Wb0,<- eb,e1];rfl
  |false=>
   rw[if_neg Wan]at q ⊢;obtain⟨ts',h1,h2⟩:=q;refine⟨?_,ts',h1,h2⟩;rw[tk,Wb1,Wbd,Wb0,<- eb];simp
 ·rintro ys Δ2 ⟨rfl,ts,hts,rfl⟩
  rw[Wdg];have e:backD n sel (ts++fix) 0 Δ'=backD n sel (Wai n .any++fix) 0 Δ':=by
   apply Wbp;intro i;rw[Zc0,Zc0];congr 1
   funext x
   unfold backAt;have e2:∀j,(ts++fix)[n+j]?=(Wai n Slot.any++fix)[n+j]?:=λj=>by
    rw[Waz (by omega),Waz (by simp),hts,Wa3]
   simp only[e2]
  rw[e];exact he
end
end L2
set_option Elab.async false
set_option linter.all false
set_option maxRecDepth 100000
namespace HT
open PySem PyProof.Rows
section
variable {prog:Program}{w:World}{A:Around}{E:Value->Shared->Prop}{s:Shared}
theorem getItem_tuple_whole {t sl:Addr}{items:Array Value}{vl vu:Value}{lo hi:Option Int}{Q:Value->Shared->Prop}(ht:IsTup s.heap t items) (hs:s.heap.IsSliceOf sl vl vu .none) (pl:IsPart vl lo) (pu:IsPart vu hi)
  (hw:sIx items.size 0 lo=0/\sIx items.size items.size hi=items.size) (h:Q (.ref t) s):wpAny (model prog w) A (getItem (.ref t) (.ref sl)) Q E s:=by
 obtain⟨os,hos,hcs,hds⟩:=id hs;have hTs:s.TypeIs (.ref sl) "slice":=⟨os,hos,hcs⟩;unfold getItem
 try with_reducible refine wpAny_holding ?_
 first|refine wpAny_bind (wpAny_pure ?_)|skip
 refine wpAny_bind (wpAny_sequenceKey ht.typeIs (by decide) ?_);refine wpAny_bind (wpAny_callSpecial?_slot (name:=Str.ofString "__getitem__") ht.typeIs PyProof.Rows.slot_tuple_getitem
  (wpAny_call_entry PyProof.Rows.slot_tuple_getitem ht.typeIs entry_tuple_getitem ?_ (args_tuple_getitem _ _)))
 show wpAny _ _ (Builtin.Tuple.tupleItemsOf (.ref t) >>= _) _ _ s;refine wpAny_bind (tupleItemsOf_ ht ?_);refine wpAny_bind (wpAny_typeOf hTs ?_);rw[if_pos (by decide)];refine wpAny_bind (Zdd hs pl pu ?_);have hyes:(((sIx items.size 0 lo:Nat):Int) == 0 && (1:Int) == 1 && (sIx items.size items.size hi-sIx items.size 0 lo) == items.size)=true:=by
  rw[hw.1,hw.2];simp
 show wpAny _ _ (if (((sIx items.size 0 lo:Nat):Int) == 0 && (1:Int) == 1 && (sIx items.size items.size hi-sIx items.size 0 lo) == items.size)=true then _ else _) _ _ s;rw[if_pos hyes]
 first
  |exact wpAny_pure ⟨_,rfl,wpAny_pure h⟩
  |exact wpAny_pure ⟨_,rfl,h⟩
  |exact wpAny_bind (wpAny_pure (wpAny_pure ⟨_,rfl,wpAny_pure h⟩))
  | (refine wpAny_bind (wpAny_bind (wpAny_typeOf ht.typeIs (wpAny_pure ?_)))
     rw[if_pos (by decide)];exact wpAny_bind (wpAny_rule (wpAny_pure ⟨_,rfl,wpAny_pure h⟩)))
theorem tuple_index {t:Addr}{items:Array Value}{x:Value}{e:Value->Bool}{j:Nat}{Q:Value->Shared->Prop}(ht:IsTup s.heap t items) (he:∀y∈items,PySem.SeqAt.EqAt A.in1 s y x (e y)) (hj:j<items.size)
  (hit:e items[j]=true) (hno:∀m (hm:m<items.size),m<j->e items[m]=false) (h:Q (.int j s.toks) { s with toks:=s.toks+1 }) :
  wpAny (model prog w) A (call (.builtin "tuple.index") [.ref t,x]) Q E s:=by
 refine wpAny_call_entry PySem.F.slot_tuple_index ht.typeIs PySem.F.entry_tuple_index ?_ (PySem.F.args_tuple_index_2 _ _);show wpAny _ _ (Builtin.Tuple.tupleItemsOf (.ref t) >>= _) _ _ s;refine wpAny_bind (tupleItemsOf_ ht ?_);refine wpAny_bind (wpAny_pure (wpAny_bind (wpAny_pure (wpAny_bind ?_))));rw[Wcz];simp only[Std.Legacy.Range.forIn_eq_forIn_range',Std.Legacy.Range.size,Wde,Nat.add_sub_cancel,Nat.div_one];refine wpAny_mono (Q:=λb s'=>s' = { s with toks:=s.toks+1 } /\ b.1=some (Fin.done (.ret (.int j s.toks)))) ?_ (λb s' hb=>?_) λ_ _ z=>z;refine wpAny_forIn_list _ (λl b s'=>s'=s/\∃i,l=List.range' i (items.size-i)/\i<=j) _ ?_ ?_ _ _ ⟨rfl,0,rfl,Wbt _⟩
 ·rintro i rest b s' ⟨rfl,k,hl,hk⟩
  have hk2:items.size-k=(items.size-k-1)+1:=by omega
  rw[hk2,List.range'_succ]at hl;injection hl with hl1 hl2
  subst hl1;have hi:i<items.size:=by omega
  rw[Array.getElem?_eq_getElem hi];refine wpAny_bind (he _ (Array.getElem_mem hi) prog w _ _ ?_);by_cases hij:i=j
  ·subst hij
   rw[hit,if_pos rfl];exact wpAny_bind (wpAny_bind (wpAny_mkInt (wpAny_pure (wpAny_pure ⟨rfl,rfl⟩))))
  ·rw[hno i hi (by omega),if_neg Wan]
   exact wpAny_pure ⟨rfl,i+1,by rw[hl2,show items.size-i-1=items.size-(i+1) by omega],by omega⟩
 ·rintro b s' ⟨rfl,k,hl,hk⟩
  have:=congrArg Wbe hl;simp at this;omega
 ·obtain⟨rfl,e1⟩:=hb
  obtain⟨b1,b2⟩:=b;dsimp only at e1;subst e1;exact wpAny_pure ⟨_,rfl,h⟩
end
end HT
namespace L2
open PySem PySem.Spec PyProof.Rows
section
variable {X:Cx}
def rSlT' (K:W.Frag):V->Option Int->Option Int->Hp->VK->Prop:=λx lo hi H Q=>∃a xs,x=.ref a/\SqT K H a xs ∧
 ((HT.sIx xs.length 0 lo=0/\HT.sIx xs.length xs.length hi=xs.length)->Q (.ref a) H) ∧
 (¬ (HT.sIx xs.length 0 lo=0/\HT.sIx xs.length xs.length hi=xs.length)->∀p,H p=none->Q (.ref p) (upd H p (.tup (cutV xs lo hi))))
theorem Zqd:SlR X (rSlT' X.K):=by
 intro pins s σ H x v vl vu lo hi sl Q I rx hs pl pu h;obtain⟨a,xs,rfl,hx,q1,q2⟩:=h;by_cases hw:HT.sIx xs.length 0 lo=0/\HT.sIx xs.length xs.length hi=xs.length
 ·cases rx
  obtain⟨its,r,ht,hz⟩:=I.tuple hx;have hlen:its.toArray.size=xs.length:=by rw[Waf];exact r.length.symm
  exact⟨"tuple",_,PyProof.Rows.slot_tuple_getitem.lookup,ht.typeIs,HT.getItem_tuple_whole ht hs pl pu (by rw[hlen];exact hw) ⟨.ref a,H,I,rfl,q1 hw⟩⟩
 ·exact Zsh pins s σ H (.ref a) v vl vu lo hi sl Q I rx hs pl pu ⟨a,xs,rfl,hx,hw,q2 hw⟩
def rSlU (K:W.Frag):V->Option Int->Option Int->Hp->VK->Prop:=λx lo hi H Q=>rSlL K x lo hi H Q\/rSlT' K x lo hi H Q
theorem slU:SlR X (rSlU X.K):=Zrb.or Zqd
def tSlR (K:W.Frag) (te:TE):TE:=λσ H Q=>te σ H λx H1=>∃a xs,x=.ref a/\SqT K H1 a xs/\∀p,H1 p=none->Q (.ref p) (upd H1 p (.tup xs.reverse))
def rCatT' (K:W.Frag):R2:=λx y H Q=>∃a b xs ys,x=.ref a/\y=.ref b/\SqT K H a xs/\SqT K H b ys/\xs.length+ys.length<=sizeLine ∧
 (xs=[]->Q (.ref b) H)/\(xs≠[]->ys=[]->Q (.ref a) H)/\(xs≠[]->ys≠[]->∀p,H p=none->Q (.ref p) (upd H p (.tup (xs++ys))))
theorem Znj:OpR X (binaryOp .Add) (rCatT' X.K):=by
 intro pins s σ H x y v u Q I rx ry h;obtain⟨a,b,xs,ys,rfl,rfl,ha,hb,hz,q0,q1,q2⟩:=h;by_cases hx:xs=[]
 ·cases rx
  cases ry;obtain⟨its,r1,p1,_⟩:=I.tuple ha;obtain⟨its2,r2,p2,_⟩:=I.tuple hb;obtain⟨⟨cls,dd,data,sl⟩,ho,hc,n,hd⟩:=id p1;obtain⟨⟨cls2,dd2,data2,sl2⟩,ho2,hc2,n2,hd2⟩:=id p2;simp only at hc hd hc2 hd2;subst hc hd hc2 hd2;exact concat_meets ⟨_,ho,rfl⟩ ⟨_,ho2,rfl⟩ noFill_tuple_add seq_tuple_add PySem.F.slot_tuple_add PySem.F.entry_tuple_add (PySem.F.args_tuple_add_2 _ _)
   (tuple_addW0 a b its.toArray its2.toArray n n2 dd dd2 sl sl2 (by simp[r1.nil_iff.mpr hx])) ⟨ho,ho2,⟨.ref b,H,I,rfl,q0 hx⟩⟩
 ·exact Zpn pins s σ H (.ref a) (.ref b) v u Q I rx ry ⟨a,b,xs,ys,rfl,rfl,ha,hb,hx,hz,q1 hx,q2 hx⟩
def rAddU (K:W.Frag):R2:=λx y H Q=>rI0 (λi j=>.int (i+j)) x y H Q\/(rCatT' K x y H Q\/rCat x y H Q)
theorem Zp0:OpR X (binaryOp .Add) (rAddU X.K):=Zsm.or (Znj.or Ztq)
theorem Zcw:OpR X (compareOp .Eq) rEq:=Ztt
theorem Zez:OpR X (compareOp .NotEq) rNe:=Zt0
def rIxD:R2:=λx y H Q=>∃a v,x=.ref a/\DGet H a y (some v)/\Q v H
theorem Zpt (hu:X.A.units+1<cLine):IxR X rIxD:=by
 intro value slice pins s σ H x y v u Q I rx ry h hs;obtain⟨a,w',rfl,g,q⟩:=h;cases rx;exact tail_any (Ziq I g) PySem.F.slot_dict_getitem.lookup (Zkn hu I g ry λw2 s3 I3 rw'=>⟨w',H,I3,rw',q⟩) hs
def rIxU (K:W.Frag):R2:=λx y H Q=>rIx K x y H Q\/rIxD x y H Q
theorem ixU (hu:X.A.units+1<cLine):IxR X (rIxU X.K):=Ztk.or (Zpt hu)
def rSetD:V->V->V->Hp->(Hp->Prop)->Prop:=λo i v H Q=>∃a H',o=.ref a/\DPut H a i v H' /\ Q H'
theorem Znf (hu:X.A.units+1<cLine):PSet X rSetD:=by
 intro pins s σ H o i v ov iv u Q I ro ri rv h;obtain⟨a,H',rfl,g,q⟩:=h;cases ro;exact Zls hu I g ri rv λs' I'=>⟨H',I',q⟩
theorem PSet.or {t t':TSet}(h:PSet X t) (h':PSet X t'):PSet X (λo i v H Q=>t o i v H Q\/t' o i v H Q):=by
 intro pins s σ H o i v ov iv u Q I ro ri rv q;rcases q with q|q
 ·exact h pins s σ H o i v ov iv u Q I ro ri rv q
 ·exact h' pins s σ H o i v ov iv u Q I ro ri rv q
def rSetU:V->V->V->Hp->(Hp->Prop)->Prop:=λo i v H Q=>rSetL o i v H Q\/rSetD o i v H Q
theorem setU (hu:X.A.units+1<cLine):PSet X rSetU:=Zn6.or (Znf hu)
def rLenU (K:W.Frag):List V->Hp->VK->Prop:=λxs H Q=>(∃p ys,xs=[.ref p]/\(SqL K H p ys\/SqT K H p ys)/\Q (.int ys.length) H)\/∃a kvs,xs=[V.ref a]/\H a=some (.dK kvs)/\Q (.int kvs.length) H
theorem Zlr:CallR X (.builtin "len") (rLenU X.K):=Zh3.or Zk0
def rIsi (K:W.Frag):List V->Hp->VK->Prop:=λxs H Q=>∃x n t b,xs=[x,.ty n]/\TyOf K H x t/\PySem.W.kitOne K t (.type n)=some b/\Q (.bl b) H
theorem Zie:CallR X (.builtin "isinstance") (rIsi X.K):=by
 intro pins s σ H xs us Q I r h;obtain⟨x,n,t,b,rfl,ty,e,q⟩:=h;obtain⟨u,u',rfl,rx,rn⟩:=vals2 r;cases (show u'=Value.type n from rn);exact Zky I rx ty e λtk=>⟨.bl b,H,I.tok _,rfl,q⟩
def insI (n:Nat) (i:Int):Nat:=if i<0 then (i+(n:Int)).toNat else min i.toNat n
def rInsert:V->List V->Hp->VK->Prop:=λx vs H Q=>∃l xs i y,x=.ref l/\vs=[.int i,y]/\H l=some (.lst xs)/\xs.length<sizeLine /\ -(2 ^ 62)<=i/\i<2 ^ 62/\Q .non (upd H l (.lst (xs.take (insI xs.length i)++y::xs.drop (insI xs.length i))))
theorem Zfa:MtM X "list.insert" rInsert:=by
 intro pins s σ H x vs v us Q I rx rv h;obtain⟨l,xs,i,y,rfl,rfl,hH,hz,h1,h2,q⟩:=h;cases rx;obtain⟨ui,uy,rfl,⟨t,rfl⟩,ry⟩:=rv.two;obtain⟨z,its,n,r,hl,e⟩:=I.lstM hH;refine call_meets F.slot_list_insert ⟨_,e,rfl⟩ F.entry_list_insert (F.args_list_insert_3 _ _ _) (PySem.AutoSeq1.list_insert_list_int_val_1 l its.toArray n i t uy (by
  have hf:Builtin.List.listFitsIndex i=true:=by
   unfold Builtin.List.listFitsIndex;rw[decide_eq_true (by omega),decide_eq_true (by omega)];rfl
  rw[hf];decide) (by rw[Waf];omega)) ⟨e,?_⟩
 refine⟨.non,_,I.lset (its':=its.take (insI xs.length i)++uy::its.drop (insI xs.length i)) hH e ?_ ((r.take _).append (.cons ry (r.drop _))) ?_,rfl,q⟩
 ·have e1:(if i<0 then (i+(its.toArray.size:Int)).toNat else min i.toNat its.toArray.size)=insI xs.length i:=by
   unfold insI;rw[Waf,hl]
  dsimp only;rw[e1];apply Array.ext';simp;rw[Wcj (by rw[Wbj];exact Wak _)]
 ·rw[Wag,Wax,Wbi,Wbj]
  omega
def rIndexT (K:W.Frag):V->List V->Hp->VK->Prop:=λx vs H Q=>∃a xs y j,x=.ref a/\vs=[y]/\SqT K H a xs/\flatV y=true/\xs.all flatV=true/\j<xs.length ∧
 (∃z,xs[j]?=some z/\eqV z y=true)/\(∀m z,m<j->xs[m]?=some z->eqV z y=false)/\Q (.int j) H
theorem Zfr:MtM X "tuple.index" (rIndexT X.K):=by
 intro pins s σ H x vs v us Q I rx rv h;obtain⟨a,xs,y,j,rfl,rfl,hx,fy,fx,hj,⟨z,hz1,hz2⟩,hno,q⟩:=h;cases rx;obtain⟨u,rfl,ru⟩:=rv.one;obtain⟨its,r,ht,hz⟩:=I.tuple hx;have hl:its.length=xs.length:=r.length.symm;have key:∀w∈its.toArray,SeqAt.EqAt X.A.in1 s w u (eqU y w):=λw hw=>by
  have hw:w∈its:=by simpa using hw
  obtain⟨k,hk,e⟩:=Wc2.mp hw;have hk':k<xs.length:=by omega
  obtain⟨w',hw',rw'⟩:=r.get (Wab hk');have ew:w'=w:=by
   rw[Wab hk]at hw';exact(Wau.inj hw').symm.trans e
  subst ew;have fk:flatV xs[k]=true:=Wba.mp fx _ (Wbc hk');rw[Zoz rw' fk];exact Ztp rw' ru fk fy
 have at_:∀(k:Nat) (hk:k<its.toArray.size) (z:V),xs[k]?=some z->eqU y its.toArray[k]=eqV z y:=λk hk z e=>by
  obtain⟨w',hw',rw'⟩:=r.get e;have hk2:k<its.length:=by simpa using hk
  rw[Wab hk2]at hw';have ew:its.toArray[k]=w':=by simpa using Wau.inj hw'
  rw[ew];exact Zoz rw' (Wba.mp fx _ (Wap e))
 have hj':j<its.toArray.size:=by simpa [hl] using hj
 refine HT.tuple_index ht key hj' (by rw[at_ j hj' z hz1];exact hz2) (λm hm hmj=>?_) ⟨.int j,H,I.tok _,⟨_,rfl⟩,q⟩;have hm2:m<xs.length:=by simpa [hl] using hm
 rw[at_ m hm _ (Wab hm2)];exact hno m _ hmj (Wab hm2)
end
end L2
namespace L2
open PySem PySem.Spec PyProof.Rows
section
variable {X:Cx}
theorem PI.or {tg iter:Expr}{w w':TI}(h:PI X tg iter w) (h':PI X tg iter w'):PI X tg iter (λσ H R=>w σ H R\/w' σ H R):=by
 intro pins s σ H R I q;rcases q with q|q
 ·exact h pins s σ H R I q
 ·exact h' pins s σ H R I q
def iSeq (K:W.Frag) (tl:TE):TI:=λσ H R=>iList K tl σ H R\/iTup K tl σ H R
theorem Zr8 {tg l:Expr}{tl:TE}(hl:PE X l tl):PI X tg l (iSeq X.K tl):=(Zp6 hl).or (Zs8 hl)
def tTru (K:W.Frag) (ta:TE):TT:=λσ H Q=>ta σ H λx H'=>∃k,TruV K x H' k/\Q k H'
theorem Zsa {a:Expr}{ta:TE}(ha:PE X a ta) (he:∀whole,isTrue a X.env whole=(do let v ← whole;standAt a.pos;holding [v] (truthy v))):PT X a (tTru X.K ta):=Zno ha he
end
section
variable {K:W.Frag}{Δ:Evt}{P:D->Evt->Prop}
theorem Zdl {i j:Int}(p:P (.int (i+j)) Δ):JR2 K (rAddU K) (.int i) (.int j) Δ P:=λg G H σ Q x y k rx ry c=>by
 cases rx.inv;cases ry.inv;exact .inl ⟨i,j,rfl,rfl,c _ _ G H Δ k (Same.refl _) (.int _) p⟩
theorem Zm5 {ds es:List D}(hz:ds.length+es.length<=sizeLine) (p:P (.tup (ds++es)) Δ):JR2 K (rAddU K) (.tup ds) (.tup es) Δ P:=λg G H σ Q x y k rx ry c=>by
 cases rx with
 |tup ha ra=>
  cases ry with
  |tup hb rb=>
   refine .inr (.inl ⟨_,_,_,_,rfl,rfl,SqT.of (k.live _ _ ha),SqT.of (k.live _ _ hb),by rw[ra.length,rb.length];exact hz,λe=>?_,λ_ e=>?_,λ_ _ q hq=>?_⟩)
   ·subst e;cases ra;exact c _ _ G H Δ k (Same.refl _) (.tup hb rb) p
   ·subst e;cases rb;rw[Wbf]at p;exact c _ _ G H Δ k (Same.refl _) (.tup ha ra) p
   ·obtain⟨k2,sg⟩:=k.laid hq (.tup _)
    exact c _ _ _ _ Δ k2 sg (.tup Zan ((ra.append rb).mono sg)) p
theorem Zdw {ds es:List D}(hz:ds.length+es.length<=sizeLine) (p:P (.lst (ds++es)) Δ):JR2 K (rAddU K) (.lst ds) (.lst es) Δ P:=λg G H σ Q x y k rx ry c=>by
 obtain⟨_,_,rfl,ha,ra⟩:=rx.inv
 next=>
  obtain⟨_,_,rfl,hb,rb⟩:=ry.inv
  next=>
   refine .inr (.inr ⟨_,_,_,_,rfl,rfl,k.live _ _ ha,k.live _ _ hb,by rw[ra.length,rb.length];exact hz,λq hq=>?_⟩);obtain⟨k2,sg⟩:=k.laid hq (.lst _);exact c _ _ _ _ Δ k2 sg (.lst Zan ((ra.append rb).mono sg)) p
theorem Zdb {ds:List D}{i:Int}{d:D}(h:atI ds i=some d) (p:P d Δ):JR2 K (rIxU K) (.tup ds) (.int i) Δ P:=λg G H σ Q x y k rx ry c=>
 .inl (.inr (.inl (Zrc h p g G H σ Q x y k rx ry c)))
theorem Zca {ds:List D}{i:Int}{d:D}(h:atI ds i=some d) (p:P d Δ):JR2 K (rIxU K) (.lst ds) (.int i) Δ P:=λg G H σ Q x y k rx ry c=>
 .inl (.inl (Zta h p g G H σ Q x y k rx ry c))
theorem Ze8 {n:Nat}{tb:TE}{x:Slot}{ds:List D}(hx:Δ[n]?=some x) (ho:x.od=some (.lst ds)) (h:JE K tb Δ λe Δ1=>∃y es i d,Δ1[n]?=some y/\y.od=some (.lst es)/\e=.int i/\atI es i=some d/\P d Δ1):JE K (tOp (rIxU K) (tVar n) tb) Δ P:=λg G H σ Q k c=>by
 obtain⟨a,o,h1,h2,h3,h4,h5⟩:=k.own n x _ hx ho;refine⟨.ref a,h1,h g G H σ _ k λv e G1 H1 Δ1 k1 s1 r1 ⟨y,es,i,d,q1,q2,q3,q4,p⟩=>?_⟩;subst q3;cases r1.inv;obtain⟨a',o',w1,w2,w3,w4,w5⟩:=k1.own n y _ q1 q2;rw[h1]at w1;cases w1;cases o' with
 |lst vs=>
  obtain⟨u,z1,z2⟩:=Zgk (show Reps K G1 vs es from w3) q4;exact .inl (.inl ⟨a,vs,i,u,rfl,rfl,SqL.of w2,z1,c u d G1 H1 Δ1 k1 s1 z2 p⟩)
 |_=>exact absurd w3 (λz=>z)
theorem Zln {n:Nat}{ti te:TE}{Pp:Pst}(h:JE K te Δ λd Δ1=>(∃x od,Δ1[n]?=some x/\x.od=some od)/\JE K ti Δ1 λe Δ2=>∃x ds i j,Δ2[n]?=some x/\x.od=some (.lst ds)/\e=.int i/\ixN ds.length i=some j/\Pp.nx (Δ2.set n (x.put (.lst (ds.set j d))))) :
  JS K (tAsg te (gSub (tVar n) ti rSetU)) Δ Pp:=λg G H σ E k c=>
 h g G H σ _ k λv d G1 H1 Δ1 k1 s1 r1 hq_=>by
  obtain⟨⟨x,od,hx,ho⟩,p1⟩:=hq_;obtain⟨a,o,h1,h2,h3,h4,h5⟩:=k1.own n x _ hx ho;refine⟨.ref a,h1,p1 g G1 H1 σ _ k1 λu e G2 H2 Δ2 k2 s2 r2 ⟨y,ds,i,j,q1,q2,q3,q4,p⟩=>?_⟩;subst q3;cases r2.inv;obtain⟨a',o',w1,w2,w3,w4,w5⟩:=k2.own n y _ q1 q2;rw[h1]at w1;cases w1;cases o' with
  |lst vs=>
   have w3:Reps K G2 vs ds:=w3;exact .inl ⟨a,vs,i,j,rfl,rfl,w2,by rw[w3.length];exact q4,c.nx σ G2 _ _ (k2.write q1 q2 h1 (show OwnRep K G2 (.lst (vs.set j v)) (.lst (ds.set j d)) from w3.set j (r1.mono s2))) p⟩
  |_=>exact absurd w3 (λz=>z)
theorem Zch {ds es:List D}(he:ds=[.lst es]\/ds=[.tup es]) (p:P (.int es.length) Δ):JC K (rLenU K) ds Δ P:=λg G H σ Q vs k rs c=>.inl (Zsr he p g G H σ Q vs k rs c)
theorem Znd {n:Nat}{x:Slot}{ds:List D}(hx:Δ[n]?=some x) (ho:x.od=some (.lst ds)) (p:P (.int ds.length) Δ):JE K (tCB (rLenU K) (tCons (tVar n) tNil)) Δ P:=λg G H σ Q k c=>by
 obtain⟨v,h1,h2⟩:=Zpw hx ho p g G H σ Q k c;exact⟨v,h1,.inl h2⟩
def cutD (ds:List D) (lo hi:Option Int):List D:=(ds.drop (HT.sIx ds.length 0 lo)).take (HT.sIx ds.length ds.length hi-HT.sIx ds.length 0 lo)
theorem Zmn {α:Type}(xs:List α) (lo hi:Option Int) (h:HT.sIx xs.length 0 lo=0/\HT.sIx xs.length xs.length hi=xs.length):(xs.drop (HT.sIx xs.length 0 lo)).take (HT.sIx xs.length xs.length hi-HT.sIx xs.length 0 lo)=xs:=by
 rw[h.1,h.2];simp
def JO2 (t:TO) (Δ:Evt) (K:W.Frag) (P:Option Int->Evt->Prop):Prop:=
 ∀g G H σ (Q:Option Int->Hp->Prop),Ok K g G H σ Δ -> (∀o G' H' Δ',Ok K g G' H' σ Δ' -> Same G G' -> P o Δ' -> Q o H')->t σ H Q
theorem Zew {P:Option Int->Evt->Prop}(p:P none Δ):JO2 tNoPart Δ K P:=λg G H σ Q k c=>c none G H Δ k (Same.refl _) p
theorem Zem {te:TE}{P:Option Int->Evt->Prop}(h:JE K te Δ λd Δ1=>∃i,d=.int i/\P (some i) Δ1):JO2 (tPart te) Δ K P:=λg G H σ Q k c=>
 h g G H σ _ k λv d G1 H1 Δ1 k1 s1 r1 hq_=>by obtain⟨i,e,p⟩:=hq_;subst e;cases r1.inv;exact⟨i,rfl,c (some i) G1 H1 Δ1 k1 s1 p⟩
def slD (d:D) (lo hi:Option Int):Option D:=match d with
 |.lst ds=>some (.lst (cutD ds lo hi))
 |.scr ds=>some (.lst (cutD ds lo hi))
 |.tup ds=>some (.tup (cutD ds lo hi))
 |_=>none
theorem Zj3 {te:TE}{tl th:TO}(h:JE K te Δ λd Δ1=>JO2 tl Δ1 K λlo Δ2=>JO2 th Δ2 K λhi Δ3=>∃e,slD d lo hi=some e/\P e Δ3):JE K (tSl (rSlU K) te tl th) Δ P:=λg G H σ Q k c=>
 h g G H σ _ k λv d G1 H1 Δ1 k1 s1 r1 p1=>p1 g G1 H1 σ _ k1 λlo G2 H2 Δ2 k2 s2 p2=>p2 g G2 H2 σ _ k2 λhi G3 H3 Δ3 k3 s3 hq_=>by
  obtain⟨e,he,p⟩:=hq_;have r3:=r1.mono (s2.trans s3);have cc:=c.up (s1.trans (s2.trans s3));cases r3 with
  |lst ha rs=>
   cases he;refine .inl ⟨_,_,rfl,SqL.of (k3.live _ _ ha),λq hq=>?_⟩;obtain⟨k4,sg⟩:=k3.laid hq (.lst _);refine cc _ _ _ _ Δ3 k4 sg (.lst Zan (Reps.mono sg ?_)) p;unfold cutV cutD;rw[rs.length];exact(rs.drop _).take _
  |scr ha rs=>
   cases he;refine .inl ⟨_,_,rfl,k3.live.seq ha,λq hq=>?_⟩;obtain⟨k4,sg⟩:=k3.laid hq (.lst _);refine cc _ _ _ _ Δ3 k4 sg (.lst Zan (Reps.mono sg ?_)) p;unfold cutV cutD;rw[rs.length];exact(rs.drop _).take _
  |tup ha rs=>
   cases he;refine .inr ⟨_,_,rfl,SqT.of (k3.live _ _ ha),λhw=>?_,λhw q hq=>?_⟩
   ·rw[rs.length]at hw
    refine cc _ _ _ _ Δ3 k3 (Same.refl _) (.tup ha ?_) p;unfold cutD;rw[Zmn _ _ _ hw];exact rs
   ·obtain⟨k4,sg⟩:=k3.laid hq (.tup _)
    refine cc _ _ _ _ Δ3 k4 sg (.tup Zan (Reps.mono sg ?_)) p;unfold cutV cutD;rw[rs.length];exact(rs.drop _).take _
  |_=>cases he
theorem Zsn {te:TE}(h:JE K te Δ λd Δ1=>∃ds,d=.tup ds/\P (.tup ds.reverse) Δ1):JE K (tSlR K te) Δ P:=λg G H σ Q k c=>
 h g G H σ _ k λv d G1 H1 Δ1 k1 s1 r1 hq_=>by
  obtain⟨ds,e,p⟩:=hq_;subst e;obtain⟨_,_,rfl,ha,rs⟩:=r1.inv
  next=>
   refine⟨_,_,rfl,SqT.of (k1.live _ _ ha),λq hq=>?_⟩;obtain⟨k4,sg⟩:=k1.laid hq (.tup _);exact c _ _ _ _ Δ1 k4 (s1.trans sg) (.tup Zan (rs.reverse.mono sg)) p
theorem Zi6 {tl:TE}{P:List D->Evt->Prop}(h:JE K tl Δ λd Δ1=>∃ds,(d=.lst ds\/d=.scr ds)/\P ds Δ1):JI K (iSeq K tl) Δ P:=λg G H σ R k c=>.inl (Zpm h g G H σ R k c)
theorem Zf8 {tl:TE}{P:List D->Evt->Prop}(h:JE K tl Δ λd Δ1=>∃ds,d=.tup ds/\P ds Δ1):JI K (iSeq K tl) Δ P:=λg G H σ R k c=>.inr (Zrh h g G H σ R k c)
def truD:D->Option Bool
 |.non=>some false
 |.bl b=>some b
 |.int i=>some (i != 0)
 |.lst ds=>some !ds.isEmpty
 |.tup ds=>some !ds.isEmpty
 |_=>none
theorem Reps.isEmpty {G:Hp}{vs:List V}{ds:List D}(r:Reps K G vs ds):vs.isEmpty=ds.isEmpty:=by cases r <;> rfl
theorem Zbz {t:TE}{Pb:Bool->Evt->Prop}(h:JE K t Δ λd Δ1=>∃b,truD d=some b/\Pb b Δ1):JT K (tTru K t) Δ Pb:=λg G H σ Q k c=>
 h g G H σ _ k λv d G1 H1 Δ1 k1 s1 r1 hq_=>by
  obtain⟨b,e,p1⟩:=hq_;refine⟨b,?_,c b G1 H1 Δ1 k1 s1 p1⟩;cases r1 with
  |non=>cases e;rfl
  |bl b=>cases e;rfl
  |int i=>cases e;rfl
  |str x=>cases e
  |ty n=>cases e
  |scr ha rs=>cases e
  |adr a=>cases e
  |dct ha hl rs=>cases e
  |exc ha=>cases e
  |lst ha rs=>cases e;exact .inl ⟨_,SqL.of (k1.live _ _ ha),by rw[rs.isEmpty]⟩
  |tup ha rs=>cases e;exact .inr (.inl ⟨_,SqT.of (k1.live _ _ ha),by rw[rs.isEmpty]⟩)
def tyD:D->Option String
 |.non=>some "NoneType"
 |.bl _=>some "bool"
 |.int _=>some "int"
 |.str _=>some "str"
 |.lst _=>some "list"
 |.tup _=>some "tuple"
 |.dct _ _=>some "dict"
 |_=>none
theorem Zrd {d:D}{n T:String}{b:Bool}(ht:tyD d=some T) (e:∀K,PySem.W.kitOne K (.type T) (.type n)=some b) (p:P (.bl b) Δ):JC K (rIsi K) [d,.ty n] Δ P:=λg G H σ Q vs k rs c=>by
 obtain⟨_,_,rfl,r,t⟩:=rs.inv
 next=>
  obtain⟨_,_,rfl,r',t⟩:=t.inv
  next=>
   cases t.inv;cases r'.inv;refine⟨_,n,.type T,b,rfl,?_,e K,c _ _ G H Δ k (Same.refl _) (.bl b) p⟩;cases r with
   |non=>cases ht;exact .non
   |bl b=>cases ht;exact .bl b
   |int i=>cases ht;exact .int i
   |str x=>cases ht;exact .str x
   |ty n=>cases ht
   |scr ha rs=>cases ht
   |adr a=>cases ht
   |dct ha hl rs=>cases ht;exact .dK (k.live _ _ ha)
   |exc ha=>cases ht
   |lst ha rs=>cases ht;exact .lst (k.live _ _ ha)
   |tup ha rs=>cases ht;exact .tup (k.live _ _ ha)
theorem Zcz {ta tb:TE}(h:JE K ta Δ λd Δ1=>∃b,d=.bl b/\if b=true then JE K tb Δ1 P else P (.bl false) Δ1):JE K (tAndV ta tb) Δ P:=λg G H σ Q k c=>
 h g G H σ _ k λv d G1 H1 Δ1 k1 s1 r1 hq_=>by
  obtain⟨b,e,p1⟩:=hq_;subst e;cases r1.inv;refine⟨b,rfl,?_⟩;cases b with
  |true=>exact(show JE K tb Δ1 P from p1) g G1 H1 σ Q k1 (c.up s1)
  |false=>exact c _ _ G1 H1 Δ1 k1 s1 (.bl false) p1
theorem Zs9 {ta tb:TE}(h:JE K ta Δ λd Δ1=>∃b,d=.bl b/\if b=true then P (.bl true) Δ1 else JE K tb Δ1 P):JE K (tOrV ta tb) Δ P:=λg G H σ Q k c=>
 h g G H σ _ k λv d G1 H1 Δ1 k1 s1 r1 hq_=>by
  obtain⟨b,e,p1⟩:=hq_;subst e;cases r1.inv;refine⟨b,rfl,?_⟩;cases b with
  |false=>exact(show JE K tb Δ1 P from p1) g G1 H1 σ Q k1 (c.up s1)
  |true=>exact c _ _ G1 H1 Δ1 k1 s1 (.bl true) p1
theorem Zix {ta:TE}(h:JE K ta Δ λd Δ1=>∃b,d=.bl b/\P (.bl !b) Δ1):JE K (tNotV ta) Δ P:=λg G H σ Q k c=>
 h g G H σ _ k λv d G1 H1 Δ1 k1 s1 r1 hq_=>by
  obtain⟨b,e,p1⟩:=hq_;subst e;cases r1.inv;exact⟨b,rfl,c _ _ G1 H1 Δ1 k1 s1 (.bl !b) p1⟩
theorem Zjl {to te:TE}(h:JE K to Δ λd Δ1=>∃ns:List Int,d=.tup (ns.map D.int)/\JE K te Δ1 λe Δ2=>∃i j,e=.int i/\ns[j]?=some i/\(∀m,m<j->ns[m]?≠some i)/\P (.int (j:Nat)) Δ2) :
  JE K (tBM K "tuple" (rIndexT K) to (tCons te tNil)) Δ P:=λg G H σ Q k c=>
 h g G H σ _ k λv d G1 H1 Δ1 k1 s1 r1 hq_=>by
  obtain⟨ns,e,p1⟩:=hq_;subst e;obtain⟨a,vs,rfl,ha,rs⟩:=r1.inv
  next=>
   refine⟨.inr (.inl ⟨rfl,.inr ⟨_,k1.live _ _ ha⟩⟩),p1 g G1 H1 σ _ k1 λu e G2 H2 Δ2 k2 s2 r2 ⟨i,j,q1,q2,q3,p⟩=>?_⟩;subst q1;cases r2.inv;have ev:vs=ns.map V.int:=rs.ints;subst ev;have hj:j<ns.length:=(Wah.mp q2).1;refine⟨a,_,.int i,j,rfl,rfl,SqT.of (k2.live _ _ (s2 _ _ ha)),rfl,?_,by simpa using hj,⟨.int i,by rw[Waj,q2];rfl,by simp[eqV]⟩,λm z hm hz=>?_,c _ _ G2 H2 Δ2 k2 (s1.trans s2) (.int _) p⟩
   ·rw[List.all_map];exact Wba.mpr λ_ _=>rfl
   ·rw[Waj]at hz
    cases e:ns[m]? with
    |none=>rw[e]at hz;cases hz
    |some w=>
     rw[e]at hz;have hz:V.int w=z:=by simpa using hz
     subst hz;have hne:w≠i:=λq=>q3 m hm (by rw[e,q]);show (w == i)=false;exact beq_eq_false_iff_ne.mpr hne
end
section
variable {K:W.Frag}{g:Gm}{G H:Hp}{σ:St}{Δ:Evt}
theorem Ok.setVal' (k:Ok K g G H σ Δ) {v:V}{d:D}(i:Nat) (r:Rep K G v d):Ok K g G H (σ.set i (some v)) (Δ.set i (.val d)):=by
 by_cases hi:i < Δ.length
 ·exact k.setVal hi r
 ·have hl:=k.len
  rw[Wcb (l:=σ) (by omega),Wcb (l:=Δ) (by omega)];exact k
theorem Ok.setOwn' (k:Ok K g G H σ Δ) {a:Addr}{od:OD}(i:Nat) (p:Pend K g G H σ Δ a od):Ok K g G H (σ.set i (some (.ref a))) (Δ.set i (.own od)):=by
 by_cases hi:i < Δ.length
 ·exact k.setOwn hi p
 ·have hl:=k.len
  rw[Wcb (l:=σ) (by omega),Wcb (l:=Δ) (by omega)];exact k
theorem Zr6 {te:TE}{i:Nat}{P:Pst}(h:JE K te Δ λd Δ1=>P.nx (Δ1.set i (.val d))):JS K (tAsg te (gName i)) Δ P:=λg G H σ E k c=>
 h g G H σ _ k λv d G1 H1 Δ1 k1 s1 r1 p1=>c.nx _ G1 H1 _ (k1.setVal' i r1) p1
theorem Zqw {te:TE}{i:Nat}{P:Pst}(h:JO K te Δ λod Δ1=>P.nx (Δ1.set i (.own od))):JS K (tAsg te (gName i)) Δ P:=λg G H σ E k c=>
 h g G H σ _ k λa od G1 H1 Δ1 k1 s1 pd p1=>c.nx _ G1 H1 _ (k1.setOwn' i pd) p1
theorem Zqa {i j:Nat}{ta:TA}{P:Pst}(h:JA K ta Δ λds Δ1=>∃d e,ds=[d,e]/\P.nx ((Δ1.set i (.val d)).set j (.val e))):JS K (tPar i j ta) Δ P:=λg G H σ E k c=>
 h g G H σ _ k λvs ds G1 H1 Δ1 k1 s1 r1 hq_=>by
  obtain⟨d,e,hd,p1⟩:=hq_;subst hd;obtain⟨_,_,rfl,ra,rr⟩:=r1.inv
  next=>
   obtain⟨_,_,rfl,rb,rr⟩:=rr.inv
   next=>
    cases rr.inv;exact⟨_,_,rfl,c.nx _ G1 H1 _ ((k1.setVal' i ra).setVal' j rb) p1⟩
theorem Zfg {i:Nat}{d:D}{P:Evt->Prop}(p:P (Δ.set i (.val d))):JG K (gName i) d Δ P:=λg G H σ v R k r c=>c _ G H _ (k.setVal' i r) (Same.refl _) p
theorem Ze7 {n i:Nat}{d:D}{P:Evt->Prop}(hn:i<n) (p:P (Δ.set i (.val d))):JGn K n (gName i) d Δ P:=λg G H σ v R k r c=>
 c _ G H _ (k.setVal' i r) (Same.refl _) (λj hj=>Wae (by omega)) p
theorem Zrq {n:Nat}{te:TE}{Pp:Pst}{x:Slot}{ds0:List D}(hx:Δ[n]?=some x) (ho:x.od=some (.lst ds0))
  (h:JE K te Δ λd Δ1=>∃y ds,Δ1[n]?=some y/\y.od=some (.lst ds)/\ds.length<sizeLine/\Pp.nx (Δ1.set n (y.put (.lst (ds++[d]))))) :
  JS K (tDrop (tBM K "list" rAppend (tVar n) (tCons te tNil))) Δ Pp:=Zl7 hx ho ⟨_,rfl⟩ h
end
section
variable {K:W.Frag}{Δ:Evt}{nx bk ct:Evt->Prop}{rt:D->Evt->Prop}{ro:OD->Evt->Prop}
theorem Za6 (p:nx Δ):JS K tNext Δ ⟨nx,rt,bk,ct,ro⟩:=Zl4 p
theorem Zas {t u:TS}(h:JS K t Δ ⟨λΔ1=>JS K u Δ1 ⟨nx,rt,bk,ct,ro⟩,rt,bk,ct,ro⟩):JS K (tSeq t u) Δ ⟨nx,rt,bk,ct,ro⟩:=Zo7 h
theorem Zbl {t u:TS}(I:Evt->Prop) (h1:JS K t Δ ⟨I,rt,bk,ct,ro⟩) (h2:∀Δ1,I Δ1->JS K u Δ1 ⟨nx,rt,bk,ct,ro⟩):JS K (tSeq t u) Δ ⟨nx,rt,bk,ct,ro⟩:=
 Zo7 (h1.mono h2 (λ_ _ z=>z) (λ_ z=>z) (λ_ z=>z) λ_ _ z=>z)
theorem Zbj {te:TE}(h:JE K te Δ rt):JS K (tRet te) Δ ⟨nx,rt,bk,ct,ro⟩:=Zrl h
theorem Zk2 {te:TE}(h:JO K te Δ ro):JS K (tRet te) Δ ⟨nx,rt,bk,ct,ro⟩:=Zq5 h
theorem Zb2 {c:TT}{t u:TS}(h:JT K c Δ λb Δ1=>if b=true then JS K t Δ1 ⟨nx,rt,bk,ct,ro⟩ else JS K u Δ1 ⟨nx,rt,bk,ct,ro⟩):JS K (tIfS c t u) Δ ⟨nx,rt,bk,ct,ro⟩:=Zt5 h
theorem Zav {te:TE}{i:Nat}(h:JE K te Δ λd Δ1=>nx (Δ1.set i (.val d))):JS K (tAsg te (gName i)) Δ ⟨nx,rt,bk,ct,ro⟩:=Zr6 h
theorem Zgx {te:TE}{i:Nat}(h:JO K te Δ λod Δ1=>nx (Δ1.set i (.own od))):JS K (tAsg te (gName i)) Δ ⟨nx,rt,bk,ct,ro⟩:=Zqw h
theorem Zil {i j:Nat}{ta:TA}(h:JA K ta Δ λds Δ1=>∃d e,ds=[d,e]/\nx ((Δ1.set i (.val d)).set j (.val e))):JS K (tPar i j ta) Δ ⟨nx,rt,bk,ct,ro⟩:=Zqa h
theorem Zrj {te:TE}{t:TG}(h:JE K te Δ λd Δ1=>JG K t d Δ1 nx):JS K (tAsg te t) Δ ⟨nx,rt,bk,ct,ro⟩:=Zru h
theorem Zo4 {n:Nat}{te:TE}{x:Slot}{ds0:List D}(hx:Δ[n]?=some x) (ho:x.od=some (.lst ds0))
  (h:JE K te Δ λd Δ1=>∃y ds,Δ1[n]?=some y/\y.od=some (.lst ds)/\ds.length<sizeLine/\nx (Δ1.set n (y.put (.lst (ds++[d]))))) :
  JS K (tDrop (tBM K "list" rAppend (tVar n) (tCons te tNil))) Δ ⟨nx,rt,bk,ct,ro⟩:=Zrq hx ho h
theorem Zg9 {n:Nat}{ti te:TE}(h:JE K te Δ λd Δ1=>(∃x ds,Δ1[n]?=some x/\x.od=some (.lst ds))/\JE K ti Δ1 λe Δ2=>∃x ds i j,Δ2[n]?=some x/\x.od=some (.lst ds)/\e=.int i/\ixN ds.length i=some j/\nx (Δ2.set n (x.put (.lst (ds.set j d))))) :
  JS K (tAsg te (gSub (tVar n) ti rSetU)) Δ ⟨nx,rt,bk,ct,ro⟩:=Zln (h.mono λd Δ1 ⟨⟨x,ds,h1,h2⟩,h3⟩=>⟨⟨x,_,h1,h2⟩,h3⟩)
theorem Zjd {wi:TI}{t:TG}{tb:TS}(h:JI K wi Δ λds Δ1=>∃I:Nat->Evt->Prop,I 0 Δ1/\(∀i d Δ2,ds[i]?=some d->I i Δ2->JG K t d Δ2 λΔ3=>JS K tb Δ3 ⟨I (i+1),rt,nx,I (i+1),ro⟩)/\∀Δ2,I ds.length Δ2->nx Δ2) :
  JS K (tFor wi t tb) Δ ⟨nx,rt,bk,ct,ro⟩:=Zr2 h
end
theorem Zdg {α β:Type}{f:α -> β}{xs:List α}{i:Int}(h0:0<=i) (h1:i<(xs.length:Int)):∃c,xs[i.toNat]?=some c/\atI (xs.map f) i=some (f c):=by
 have hk:i.toNat<xs.length:=by omega
 have e:i=((i.toNat:Nat):Int):=by omega
 have q:xs[i.toNat]?=some xs[i.toNat]:=Wab hk;generalize xs[i.toNat]=c at q;refine⟨c,q,?_⟩;have z:atI (xs.map f) ((i.toNat:Nat):Int)=some (f c):=Zdh (by rw[Waj,q];rfl);rw[<- e]at z;exact z
theorem Zlw:bootBuiltins "abs" = some (.builtin "abs"):=by decide +kernel
theorem Zbm:bootBuiltins "len" = some (.builtin "len"):=by decide +kernel
theorem Zjt:bootBuiltins "min" = some (.builtin "min"):=by decide +kernel
theorem Zoy:bootBuiltins "max" = some (.builtin "max"):=by decide +kernel
theorem Zam:bootBuiltins "isinstance" = some (.builtin "isinstance"):=by decide +kernel
theorem Zkq:bootBuiltins "all" = some (.builtin "all"):=by decide +kernel
theorem Zh6:bootBuiltins "sorted" = some (.builtin "sorted"):=by decide +kernel
theorem Zbo:bootBuiltins "tuple" = some (.type "tuple"):=by decide +kernel
theorem Zci:bootBuiltins "list" = some (.type "list"):=by decide +kernel
theorem Zl2:bootBuiltins "int" = some (.type "int"):=by decide +kernel
theorem Zik:bootBuiltins "bool" = some (.type "bool"):=by decide +kernel
theorem Zlx:bootBuiltins "str" = some (.type "str"):=by decide +kernel
theorem Ztc:bootBuiltins "zip" = some (.type "zip"):=by decide +kernel
structure Callee (P:Program) (w:World) (K:W.Frag) (mg:Str->Option Value) (base:Heap) (k:Nat) (x:Str) (ps:List Str) (sp:Sp):Prop where
 ex:∃(f:Addr) (fd:FuncData),FnOk P w K mg base CX0 k f fd ps sp/\Binds K fd ps []/\W.keepIn K (.ref f)=true/\mg x=some (.ref f)
section
variable {X:Cx}{k:Nat}{x:Str}{ps:List Str}{sp:Sp}{e:Expr}{es:List Expr}{t:TA}{p pos:Pos}
theorem Zbe (C:Callee X.prog X.w X.K X.mg X.base k x ps sp) (hr:Room k X.A) (ha:PA X (e::es) t) (hg:Gl X x:=by rfl) (hdb:(x == ("__debug__":Str))=false:=by decide)
  (he:starEach (e::es) X.env=(false,eval e X.env)::starEach es X.env:=by rfl) (hpl:(backTo pos (starEach es X.env)).any (·.1)=false:=by rfl):PE X (.Call (.Name x p) (e::es) [] pos) (tCall sp [] E0 t):=by
 obtain⟨f,fd,F,b,kp,m⟩:=C.ex;exact Zkp F hr hg m kp b .nil pass0 ha hdb he hpl
end
def fixD (sel:List Nat) (Δ:Evt):Evt:=sel.map λi=>(Δ[i]?).getD .any
theorem Zdp {n:Nat}{sel:List Nat}{ts Δ:Evt}(ht:ts.length=n):backD n sel (ts++fixD sel Δ) 0 Δ = Δ:=by
 apply Wbp;intro i;rw[Zc0];cases q:Δ[i]? with
 |none=>rfl
 |some x=>
  show some (backAt n sel (ts++fixD sel Δ) (0+i) x)=some x;congr 1;rw[Nat.zero_add];have key:∀j,sel.idxOf? i=some j->(ts++fixD sel Δ)[n+j]?=some x:=λj hj=>by
   rw[Waz (by omega),ht,Wci];unfold fixD;rw[Waj,Zeg hj];show some ((Δ[i]?).getD .any)=_;rw[q];rfl
  unfold backAt;cases x with
  |any=>rfl
  |val d=>rfl
  |own o=>
   dsimp only;cases e:sel.idxOf? i with
   |none=>rfl
   |some j=>dsimp only;rw[key j e]
  |bor o=>
   dsimp only;cases e:sel.idxOf? i with
   |none=>rfl
   |some j=>dsimp only;rw[key j e]
  |ownA a o=>
   dsimp only;cases e:sel.idxOf? i with
   |none=>rfl
   |some j=>dsimp only;rw[key j e]
section
variable {K:W.Frag}{Δ:Evt}{P:D->Evt->Prop}
theorem Zee {sel:List Nat}{wi:TI}{tc:TT}{te:TE}(hsel:sel.Nodup)
  (h:JI K wi Δ λds Δ1=>ds.length<sizeLine/\∃(p:D->Bool) (f:D->D),
   (∀(i:Nat) d,ds[i]?=some d->JT K tc (.val d::fixD sel Δ1) λb Δ4=>b=p d/\if b=true then JE K te Δ4 λe Δ5=>e=f d/\∃x,Δ5=x::fixD sel Δ1 else ∃x,Δ4=x::fixD sel Δ1) ∧
   P (.lst ((ds.filter p).map f)) Δ1):JE K (tComp 1 sel wi (gName 0) tc te) Δ P:=by
 refine Zjk hsel λg G H σ R k c=>h g G H σ R k λJ ds G' H' Δ' k' s' it ⟨z,p,f,ht,he⟩=>c J ds G' H' Δ' k' s' it ⟨z,fixD sel Δ',p,f,rfl,λi d ts hd hts=>?_,?_⟩
 ·refine Ze7 (by decide) ?_
  obtain⟨x,rfl⟩:∃x,ts=[x]:=by
   match ts,hts with
   |[x],_=>exact⟨x,rfl⟩
  intro g G H σ Q k c;refine ht i d hd g G H σ Q k λb G1 H1 Δ1 k1 s1 ⟨e1,q⟩=>c b G1 H1 Δ1 k1 s1 ⟨e1,?_⟩;cases b with
  |true=>
   rw[if_pos rfl]at q ⊢;exact q.mono λe Δ5 ⟨e2,x,e3⟩=>⟨e2,[x],rfl,e3⟩
  |false=>
   rw[if_neg Wan]at q ⊢;obtain⟨x,e3⟩:=q;exact⟨[x],rfl,e3⟩
 ·rw[Zdp (by simp)];exact he
theorem Znp {sel:List Nat}{wi:TI}{tc:TT}{te:TE}{Po:OD->Evt->Prop}(hsel:sel.Nodup)
  (h:JI K wi Δ λds Δ1=>ds.length<sizeLine/\∃(p:D->Bool) (f:D->D),
   (∀(i:Nat) d,ds[i]?=some d->JT K tc (.val d::fixD sel Δ1) λb Δ4=>b=p d/\if b=true then JE K te Δ4 λe Δ5=>e=f d/\∃x,Δ5=x::fixD sel Δ1 else ∃x,Δ4=x::fixD sel Δ1) ∧
   Po (.lst ((ds.filter p).map f)) Δ1):JO K (tComp 1 sel wi (gName 0) tc te) Δ Po:=by
 refine Zly hsel λg G H σ R k c=>h g G H σ R k λJ ds G' H' Δ' k' s' it ⟨z,p,f,ht,he⟩=>c J ds G' H' Δ' k' s' it ⟨z,λi ys Δ=>ys=((ds.take i).filter p).map f/\∃x,Δ = x::fixD sel Δ',⟨by simp,.any,rfl⟩,?_,?_⟩
 ·rintro i d ys Δ2 hd ⟨rfl,x,rfl⟩
  have tk:ds.take (i+1)=ds.take i++[d]:=by
   rw[Wc9,hd];rfl
  refine Ze7 (by decide) ?_;intro g G H σ Q k c;refine ht i d hd g G H σ Q k λb G1 H1 Δ1 k1 s1 ⟨e1,q⟩=>c b G1 H1 Δ1 k1 s1 ?_;cases b with
  |true=>
   rw[if_pos rfl]at q ⊢;refine q.mono λe Δ5 ⟨e2,x,e3⟩=>⟨?_,x,e3⟩;rw[tk,Wb1,Wbd,Wb0,<- e1,e2];rfl
  |false=>
   rw[if_neg Wan]at q ⊢;obtain⟨x,e3⟩:=q;refine⟨?_,x,e3⟩;rw[tk,Wb1,Wbd,Wb0,<- e1];simp
 ·rintro ys Δ2 ⟨rfl,x,rfl⟩
  rw[Wdg,show (x::fixD sel Δ')=[x]++fixD sel Δ' from rfl,Zdp (by simp)];exact he
theorem Zeb {sel:List Nat}{wi:TI}{tc:TT}{te:TE}(hsel:sel.Nodup)
  (h:JI K wi Δ λds Δ1=>ds.length<sizeLine/\∃(p:D->Bool) (f:D->D),
   (∀(i:Nat) d,ds[i]?=some d->∃a b,d=.tup [a,b]/\JT K tc (.val a::.val b::fixD sel Δ1) λt Δ4=>t=p d/\if t=true then JE K te Δ4 λe Δ5=>e=f d/\∃x y,Δ5=x::y::fixD sel Δ1 else ∃x y,Δ4=x::y::fixD sel Δ1) ∧
   P (.lst ((ds.filter p).map f)) Δ1):JE K (tComp 2 sel wi (gTup K 2 (gCons (gName 0) (gCons (gName 1) gNil))) tc te) Δ P:=by
 refine Zjk hsel λg G H σ R k c=>h g G H σ R k λJ ds G' H' Δ' k' s' it ⟨z,p,f,ht,he⟩=>c J ds G' H' Δ' k' s' it ⟨z,fixD sel Δ',p,f,rfl,λi d ts hd hts=>?_,?_⟩
 ·obtain⟨a,b,rfl,hj⟩:=ht i d hd
  refine Zp3 rfl (Zhf (Ze7 (by decide) (Zhf (Ze7 (by decide) (Zne ?_)))));obtain⟨x,y,rfl⟩:∃x y,ts=[x,y]:=by
   match ts,hts with
   |[x,y],_=>exact⟨x,y,rfl⟩
  intro g G H σ Q k c;refine hj g G H σ Q k λb G1 H1 Δ1 k1 s1 ⟨e1,q⟩=>c b G1 H1 Δ1 k1 s1 ⟨e1,?_⟩;cases b with
  |true=>
   rw[if_pos rfl]at q ⊢;exact q.mono λe Δ5 ⟨e2,x,y,e3⟩=>⟨e2,[x,y],rfl,e3⟩
  |false=>
   rw[if_neg Wan]at q ⊢;obtain⟨x,y,e3⟩:=q;exact⟨[x,y],rfl,e3⟩
 ·rw[Zdp (by simp)];exact he
end
def tGhost (base:Nat) (t:TS):TS:=λE σ H=>t { E with nx:=λσ' H'=>∃σ2:St,σ2.length = σ'.length/\(∀i,i<base -> σ2[i]? = σ'[i]?)/\E.nx σ2 H' } σ H
theorem Zi7 {X:Cx}{st:Stmt}{t:TS}(base:Nat) (hv:∀x∈X.N.drop base,X.env.scope.names.lookup x=none) (h:PS X st t):PS X st (tGhost base t):=by
 intro pins s σ H E I hw;refine thn (h pins s σ H _ I hw) λf s1 q=>?_;cases f with
 |next=>
  obtain⟨σ',H',I',σ2,hl,hs,q⟩:=q;refine⟨σ2,H',⟨I'.ok,I'.os,I'.bare,I'.base,?_,I'.cell,I'.free,I'.freeC,I'.pin,I'.hok,hl.trans I'.len⟩,q⟩;obtain⟨m,hn,hl'⟩:=I'.loc;refine⟨m,hn,λi x v e1 e2 e3=>?_⟩;by_cases hi:i<base
  ·rw[hs i hi]at e2;exact hl' i x v e1 e2 e3
  ·have hm:x∈X.N.drop base:=by
    refine Wap (i:=i-base) ?_;rw[List.getElem?_drop,show base+(i-base)=i by omega];exact e1
   have z:=hv x hm;rcases e3 with w|w|w <;> (rw[z]at w;cases w)
 |ret v=>exact q
 |brk=>exact q
 |cont=>exact q
def Nest (K:W.Frag) (g:Gm) (G H:Hp) (σ:St) (Δ:Evt) (cs:List (Addr × HO)) (ods:List OD):Prop:=
 (cs.map (·.1)).Nodup/\Paired (λ(c:Addr × HO) (od:OD)=>OwnRep K G c.2 od) cs ods/\∀c∈cs,H c.1=some c.2/\G c.1=none/\g.Hz c.1=none/\g.Xo c.1=none/\∀(i:Nat) x od',Δ[i]?=some x->x.od=some od' -> σ[i]?≠some (some (.ref c.1))
def JN (K:W.Frag) (t:TE) (Δ:Evt) (P:List OD->Evt->Prop):Prop:=
 ∀g G H σ Q,Ok K g G H σ Δ -> (∀acc cs ods G' H' Δ',Ok K g G' H' σ Δ' -> Same G G' -> Rep K G' (.ref acc) (.lst (cs.map λ(c:Addr × HO)=>D.adr c.1))->g.Hz acc=none->Nest K g G' H' σ Δ' cs ods->P ods Δ' -> Q (.ref acc) H')->t σ H Q
section
variable {K:W.Frag}{Δ:Evt}
def cellAt (cs:List (Addr × HO)) (b:Addr):Option HO:=(cs.find? λc=>decide (c.1=b)).map (·.2)
theorem Zdz {cs:List (Addr × HO)}{b:Addr}:cellAt cs b=none ↔ ∀c∈cs,c.1≠b:=by
 unfold cellAt;rw[Option.map_eq_none_iff,List.find?_eq_none];constructor
 ·intro h c hc e;exact h c hc (decide_eq_true e)
 ·intro h c hc e;exact h c hc (of_decide_eq_true e)
theorem Zfx {cs:List (Addr × HO)}(nd:(cs.map (·.1)).Nodup) {c:Addr × HO}(hc:c∈cs):cellAt cs c.1=some c.2:=by
 induction cs with
 |nil=>cases hc
 |cons d r ih=>
  rw[Wa4,Wcd]at nd;unfold cellAt;rcases Wam.mp hc with e|hc
  ·subst e;simp
  ·have hne:d.1≠c.1:=λe=>nd.1 (by rw[e];exact Was.mpr ⟨c,hc,rfl⟩)
   rw[List.find?_cons_of_neg (by simpa using hne)];exact ih nd.2 hc
open Classical in
noncomputable def asideN (g:Gm) (sel:List Nat) (σ:St) (Δ:Evt) (H:Hp) (acc:Addr) (cs:List (Addr × HO)):Hp:=λb=>
 if b=acc then some (.lst (cs.map λc=>V.ref c.1)) else match cellAt cs b with
  |some o=>some o
  |none=>if ∃(i:Nat) (x:Slot) (od:OD),Δ[i]?=some x/\x.od=some od/\i ∉ sel /\ σ[i]?=some (some (.ref b)) then H b else g.Xo b
theorem Zc3 {g:Gm}{sel:List Nat}{σ:St}{Δ:Evt}{H:Hp}{acc:Addr}{cs:List (Addr × HO)}:asideN g sel σ Δ H acc cs acc=some (.lst (cs.map λc=>V.ref c.1)):=by unfold asideN;rw[if_pos rfl]
theorem Zcq {g:Gm}{sel:List Nat}{σ:St}{Δ:Evt}{H:Hp}{acc b:Addr}{o:HO}{cs:List (Addr × HO)}(hb:b≠acc) (e:cellAt cs b=some o):asideN g sel σ Δ H acc cs b=some o:=by unfold asideN;rw[if_neg hb,e]
theorem Zc1 {g:Gm}{sel:List Nat}{σ:St}{Δ:Evt}{H:Hp}{acc b:Addr}{cs:List (Addr × HO)}(hb:b≠acc) (e:cellAt cs b=none) (hx:∃(i:Nat) (x:Slot) (od:OD),Δ[i]?=some x/\x.od=some od/\i ∉ sel /\ σ[i]?=some (some (.ref b))):asideN g sel σ Δ H acc cs b=H b:=by
 unfold asideN;rw[if_neg hb,e];exact if_pos hx
theorem Zcn {g:Gm}{sel:List Nat}{σ:St}{Δ:Evt}{H:Hp}{acc b:Addr}{cs:List (Addr × HO)}(hb:b≠acc) (e:cellAt cs b=none) (hx:¬ ∃(i:Nat) (x:Slot) (od:OD),Δ[i]?=some x/\x.od=some od/\i ∉ sel /\ σ[i]?=some (some (.ref b))):asideN g sel σ Δ H acc cs b=g.Xo b:=by
 unfold asideN;rw[if_neg hb,e];exact if_neg hx
theorem Zq2 {n:Nat}{sel:List Nat}{wi:TI}{t:TG}{tc:TT}{te:TE}{P:List OD->Evt->Prop}(hsel:sel.Nodup)
  (h:JI K wi Δ λds Δ1=>ds.length<sizeLine/\∃I:Nat->List OD->Evt->Prop,I 0 [] (compD n sel Δ1) ∧
   (∀i d ys Δ2,ds[i]?=some d->I i ys Δ2->JGn K n t d Δ2 λΔ3=>JT K tc Δ3 λb Δ4=>if b=true then JO K te Δ4 λe Δ5=>I (i+1) (ys++[e]) Δ5 else I (i+1) ys Δ4) ∧
   ∀ys Δ2,I ds.length ys Δ2->P ys (backD n sel Δ2 0 Δ1)):JN K (tComp n sel wi t tc te) Δ P:=λg G H σ Q k c=>
 h g G H σ _ k λJ ds G1 H1 Δ1 k1 s1 it ⟨hz,I,h0,ht,he⟩ acc hacc=>by
  have nacc:∀(i:Nat) x od,Δ1[i]?=some x->x.od=some od -> σ[i]?≠some (some (.ref acc)):=λi x od e1 e2 e3=>by
   obtain⟨a,o,w1,w2,_⟩:=k1.own i x od e1 e2;rw[e3]at w1;cases w1;rw[hacc]at w2;cases w2
  let Wd:Nat->St->Hp->Prop:=λi σ' H'=>i<=ds.length/\(∀j,n<=j -> σ'[j]?=(compSt n sel σ)[j]?)/\∃G ys cs Δi,cs.length<=i/\(cs.map (·.1)).Nodup/\(∀c∈cs,c.1≠acc/\g.Hz c.1=none/\g.Xo c.1=none/\∀(i:Nat) x od,Δ1[i]?=some x->x.od=some od->i ∉ sel -> σ[i]?≠some (some (.ref c.1)))/\Paired (λ(c:Addr × HO) (od:OD)=>OwnRep K G c.2 od) cs ys ∧
   Ok K ⟨g.B,G1,g.Hz,asideN g sel σ Δ1 H1 acc cs⟩ G H' σ' Δi/\I i ys Δi
  refine⟨λi m σ' H'=>m=ds.length-i/\Wd i σ' H',⟨ds.length,by simp,Wbt _,λ_ _=>rfl,G1,[],[],compD n sel Δ1,Wak _,List.nodup_nil,λc hc=>(nomatch hc),.nil,?_,h0⟩,?_⟩
  ·refine Zfz hsel k1 hacc λb o e=>?_
   have e:asideN g sel σ Δ1 H1 acc [] b=some o:=e;by_cases hb:b=acc
   ·subst hb;rw[Zc3]at e;cases e;exact .inl ⟨rfl,rfl⟩
   ·by_cases hx:∃(i:Nat) (x:Slot) (od:OD),Δ1[i]?=some x/\x.od=some od/\i ∉ sel /\ σ[i]?=some (some (.ref b))
    ·rw[Zc1 hb rfl hx]at e;exact .inr ⟨hb,.inl ⟨hx,e⟩⟩
    ·rw[Zcn hb rfl hx]at e;exact .inr ⟨hb,.inr e⟩
  ·rintro i m σ2 H2 ⟨rfl,hi,hσ,G2,ys,cs,Δ2,hy,nd,hcs,ry,k2,h2⟩
   have s2:Same G1 G2:=k2.sub;obtain⟨stop,go⟩:=it G2 H2 s2 k2.live;by_cases hlt:i<ds.length
   ·obtain⟨g1,g2⟩:=go i _ (Wab hlt)
    refine .inr ⟨g1,λσ' H'=>Wd (i+1) σ' H',λσ' H' p'=>⟨ds.length-(i+1),by omega,rfl,p'⟩,λx H3 y=>?_⟩;obtain⟨G3,a1,a2,a3,a4⟩:=g2 x H3 y;have k3:=k2.grow a1 a2 a3;have hG3:∀b o,G3 b=some o->(g.Hz b=none\/G1 b=some o):=λb o q=>(k3.frz b o q).2;have k3':Ok K ⟨g.B,G3,g.Hz,asideN g sel σ Δ1 H1 acc cs⟩ G3 H3 σ2 Δ2:=⟨k3.same,k3.lent,Same.refl _,λb o q=>⟨(k3.frz b o q).1,.inr q⟩,k3.ext,k3.len,k3.val,k3.own,k3.dis⟩;have ry3:Paired (λ(c:Addr × HO) (od:OD)=>OwnRep K G3 c.2 od) cs ys:=Paired.mapP ry λ_ _ z=>z.mono a1;have s13:Same G1 G3:=s2.trans a1;refine ht i _ ys Δ2 (Wab hlt) h2 ⟨g.B,G3,g.Hz,asideN g sel σ Δ1 H1 acc cs⟩ G3 H3 σ2 x _ k3' a4 λσ4 G4 H4 Δ4 k4 s4 e4 p4=>?_;have hσ4:∀j,n<=j -> σ4[j]?=(compSt n sel σ)[j]?:=λj hj=>(e4 j hj).trans (hσ j hj);refine p4 _ G4 H4 σ4 _ k4 λb G5 H5 Δ5 k5 s5 p5=>?_;cases b with
    |false=>exact⟨hlt,hσ4,G5,ys,cs,Δ5,by omega,nd,hcs,Paired.mapP ry3 λ_ _ z=>z.mono (s4.trans s5),k5.base s13 hG3,p5⟩
    |true=>
     refine(show JO K te Δ5 _ from p5) _ G5 H5 σ4 _ k5 λa od G6 H6 Δ6 k6 s6 pd p6=>?_;have ry6:Paired (λ(c:Addr × HO) (od:OD)=>OwnRep K G6 c.2 od) cs ys:=Paired.mapP ry3 λ_ _ z=>z.mono (s4.trans (s5.trans s6));obtain⟨b1,b2,b3⟩:=k6.ext acc _ Zc3;obtain⟨oa,d1,d2,d3,d4,d5,d6⟩:=pd;have d5:asideN g sel σ Δ1 H1 acc cs a=none:=d5;have hane:a≠acc:=by intro z;subst z;rw[Zc3]at d5;cases d5
     have hac:cellAt cs a=none:=by
      cases q:cellAt cs a with
      |none=>rfl
      |some o=>rw[Zcq hane q]at d5;cases d5
     have hax:∀(i:Nat) x od,Δ1[i]?=some x->x.od=some od->i ∉ sel -> σ[i]?≠some (some (.ref a)):=λi x od e1 e2 e3 e4=>by
      rw[Zc1 hane hac ⟨i,x,od,e1,e2,e3,e4⟩]at d5;obtain⟨a',o',w1,w2,_⟩:=k1.own i x od e1 e2;rw[e4]at w1;cases w1;rw[d5]at w2;cases w2
     have hagx:g.Xo a=none:=by
      rw[Zcn hane hac (λ⟨i,x,od,e1,e2,e3,e4⟩=>hax i x od e1 e2 e3 e4)]at d5;exact d5
     have hnm:=Zdz.mp hac;refine⟨cs.map λc=>V.ref c.1,b1,by rw[Waa];omega,hlt,hσ4,G6,ys++[od],cs++[(a,oa)],Δ6,by rw[Wag,Wb7];omega,?_,λc hc=>?_,Paired.snoc ry6 d2,?_,p6⟩
     ·rw[Wbd]
      refine List.nodup_append.mpr ⟨nd,by simp,λx hx y hy=>?_⟩;rw[List.map_singleton,Wa8]at hy;subst hy;obtain⟨c,hc,rfl⟩:=Was.mp hx;exact hnm c hc
     ·rcases Wa0.mp hc with hc|hc
      ·exact hcs c hc
      ·rw[Wa8.mp hc];exact⟨hane,d4,hagx,hax⟩
     ·have k7:=k6.base s13 hG3
      have nd':((cs++[(a,oa)]).map (·.1)).Nodup:=by
       rw[Wbd];refine List.nodup_append.mpr ⟨nd,by simp,λx hx y hy=>?_⟩;rw[List.map_singleton,Wa8]at hy;subst hy;obtain⟨c,hc,rfl⟩:=Was.mp hx;exact hnm c hc
      have er:(cs++[(a,oa)]).map (λc=>V.ref c.1)=(cs.map λc=>V.ref c.1)++[V.ref a]:=by simp
      have oldH:∀b o,b≠acc->H6 b=some o->(upd H6 acc (.lst ((cs.map λc=>V.ref c.1)++[V.ref a]))) b=some o:=λb o hb e=>by rw[Zal hb];exact e
      refine⟨λb o hb e=>?_,λb hb=>?_,k7.sub,λb o e=>?_,λb o e=>?_,k7.len,k7.val,λi x od e1 e2=>?_,k7.dis⟩
      ·have hne:b≠acc:=by
        intro z;subst z;have e:g.Hz b=some o:=e;rw[k1.there hacc]at e;cases e
       exact oldH b o hne (k7.same b o hb e)
      ·by_cases hne:b=acc
       ·subst hne;rw[Zan];intro z;cases z
       ·rw[Zal hne];exact k7.lent b hb
      ·have hne:b≠acc:=by intro z;subst z;rw[b2]at e;cases e
       exact⟨oldH b o hne (k7.frz b o e).1,(k7.frz b o e).2⟩
      ·have e:asideN g sel σ Δ1 H1 acc (cs++[(a,oa)]) b=some o:=e
       by_cases hne:b=acc
       ·subst hne
        rw[Zc3,er]at e;cases e;exact⟨Zan,b2,b3⟩
       ·by_cases hba:b=a
        ·subst hba
         rw[Zcq hne (Zfx nd' (c:=(b,oa)) (Waw _ (Wa8.mpr rfl)))]at e;cases e;exact⟨oldH b _ hne d1,d3,d6⟩
        ·have ec:cellAt (cs++[(a,oa)]) b=cellAt cs b:=by
          unfold cellAt;rw[List.find?_append];cases (cs.find? λc=>decide (c.1=b)) with
          |some c=>rfl
          |none=>
           rw[List.find?_cons_of_neg (by simpa using Ne.symm hba)];rfl
         have e':asideN g sel σ Δ1 H1 acc cs b=some o:=by
          cases q:cellAt cs b with
          |some o'=>rw[Zcq hne (ec.trans q)]at e;rw[Zcq hne q];exact e
          |none=>
           by_cases hx:∃(i:Nat) (x:Slot) (od:OD),Δ1[i]?=some x/\x.od=some od/\i ∉ sel /\ σ[i]?=some (some (.ref b))
           ·rw[Zc1 hne (ec.trans q) hx]at e;rw[Zc1 hne q hx];exact e
           ·rw[Zcn hne (ec.trans q) hx]at e;rw[Zcn hne q hx];exact e
         obtain⟨w1,w2,w3⟩:=k7.ext b o e';exact⟨oldH b o hne w1,w2,w3⟩
      ·obtain⟨a',o,w1,w2,w3,w4,w5⟩:=k7.own i x od e1 e2
       have hne:a'≠acc:=by intro z;subst z;exact b3 i x od e1 e2 w1
       exact⟨a',o,w1,oldH a' o hne w2,w3,w4,w5⟩
   ·have e:i=ds.length:=by omega
    subst e;refine .inl ⟨stop,?_⟩;obtain⟨b1,b2,b3⟩:=k2.ext acc _ Zc3;have src:=Zg7 (Δ1:=Δ1) (Δ2:=Δ2) hσ;have k9:Ok K g G2 H2 σ (backD n sel Δ2 0 Δ1):=Zfl k1 hacc k2 hσ (λb o hb hx e=>by
      show asideN g sel σ Δ1 H1 acc cs b=_;rw[Zc1 hb (Zdz.mpr λc hc z=>?_) hx]
      ·exact e
      ·obtain⟨i0,x0,od0,f1,f2,f3,f4⟩:=hx
       exact(hcs c hc).2.2.2 i0 x0 od0 f1 f2 f3 (by rw[z];exact f4)) (λb o hb hx e=>by
      show asideN g sel σ Δ1 H1 acc cs b=_;rw[Zcn hb (Zdz.mpr λc hc z=>?_) hx]
      ·exact e
      ·have:=(hcs c hc).2.2.1;rw[z,e]at this;cases this)
    -- the outer list is frozen
    have nslot:∀(i:Nat) y od,(backD n sel Δ2 0 Δ1)[i]?=some y->y.od=some od -> σ[i]?≠some (some (.ref acc)):=λi y od e1 e2=>by
     obtain⟨x',od1,f1,f2,_⟩:=src i y od e1 e2;exact nacc i x' od1 f1 f2
    have refs:∀{G:Hp}(l:List (Addr × HO)),Reps K G (l.map λc=>V.ref c.1) (l.map λc=>D.adr c.1):=λ{G} l=>by
     induction l with
     |nil=>exact .nil
     |cons c r ih=>exact .cons (.adr _) ih
    have gX:g.Xo acc=none:=by
     cases q:g.Xo acc with
     |none=>rfl
     |some u=>have z:=(k1.ext acc u q).1;rw[hacc]at z;cases z
    obtain⟨kf,sf,rf⟩:=k9.freeze (a:=acc) (ds:=cs.map λ(c:Addr × HO)=>D.adr c.1) (vs:=cs.map λ(c:Addr × HO)=>V.ref c.1) ⟨_,b1,(show Reps K G2 (cs.map λ(c:Addr × HO)=>V.ref c.1) (cs.map λ(c:Addr × HO)=>D.adr c.1) from refs cs),b2,k1.there hacc,gX,nslot⟩ b1;refine c acc cs ys _ H2 _ kf (s1.trans (s2.trans sf)) rf (k1.there hacc) ⟨nd,Paired.mapP ry λ_ _ z=>z.mono sf,λcc hc=>?_⟩ (he ys Δ2 h2);obtain⟨f1,f2,f3,f4⟩:=hcs cc hc;obtain⟨u1,u2,u3⟩:=k2.ext cc.1 cc.2 (Zcq f1 (Zfx nd hc));refine⟨u1,by rw[Zal f1];exact u2,f2,f3,λi y od e1 e2 e3=>?_⟩;obtain⟨x,od',w1,w2,w3⟩:=src i y od e1 e2;rcases w3 with ⟨w3,w4⟩|⟨j,w3,w4,w5⟩
    ·exact f4 i x od' w1 w2 w4 e3
    ·exact u3 (n+j) y od w4 e2 (by rw[w5,e3];rfl)
def putN:Nat->List (Addr × OD)->Evt->Evt
 |_,[],Δ=>Δ
 |b,c::r,Δ=>putN (b+1) r (Δ.set b (.ownA c.1 c.2))
def putS:Nat->List Addr->St->St
 |_,[],σ=>σ
 |b,a::r,σ=>putS (b+1) r (σ.set b (some (.ref a)))
theorem Zi3:∀(as:List Addr) (b:Nat) (σ:St),(putS b as σ).length = σ.length
 |[],_,_=>rfl
 |a::r,b,σ=>by rw[putS,Zi3 r (b+1),Wa1]
theorem Zf4:∀(as:List Addr) (b:Nat) (σ:St) (i:Nat),i<b->(putS b as σ)[i]? = σ[i]?
 |[],_,_,_,_=>rfl
 |a::r,b,σ,i,h=>by rw[putS,Zf4 r (b+1) _ i (by omega),Wae (by omega)]
theorem Ok.setOwnA {g:Gm}{G H:Hp}{σ:St}(k:Ok K g G H σ Δ) {a:Addr}{od:OD}{i:Nat}(hi:i < Δ.length) (p:Pend K g G H σ Δ a od):Ok K g G H (σ.set i (some (.ref a))) (Δ.set i (.ownA a od)):=by
 have k1:=k.setOwn hi p;obtain⟨o,p1,p2,p3,p4,p5,p6⟩:=p;have hs:i < σ.length:=by rw[<- k.len];exact hi
 have old:∀(j:Nat) x,j≠i->(Δ.set i (.ownA a od))[j]?=some x->(Δ.set i (.own od))[j]?=some x:=λj x hj e=>by
  rw[Wae (Ne.symm hj)]at e ⊢;exact e
 have cv:∀(j:Nat) x od',(Δ.set i (.ownA a od))[j]?=some x->x.od=some od' -> ∃y,(Δ.set i (.own od))[j]?=some y/\y.od=some od':=λj x od' e1 e2=>by
  by_cases hj:j=i
  ·subst hj
   rw[Wad hi]at e1;cases e1;cases e2;exact⟨.own od,Wad hi,rfl⟩
  ·exact⟨x,old j x hj e1,e2⟩
 refine⟨k1.same,k1.lent,k1.sub,k1.frz,λb u e=>?_,by simp[k.len],λj d e=>?_,λj x od' e1 e2=>?_,λj l x y od1 od2 c e1 e2 e3 e4 e5 e6=>?_⟩
 ·obtain⟨h1,h2,h3⟩:=k1.ext b u e
  refine⟨h1,h2,λj x od' e1 e2=>?_⟩;obtain⟨y,f1,f2⟩:=cv j x od' e1 e2;exact h3 j y od' f1 f2
 ·by_cases hj:j=i
  ·subst hj
   rw[Wad hi]at e;cases e
  ·exact k1.val j d (old j _ hj e)
 ·by_cases hj:j=i
  ·subst hj
   rw[Wad hi]at e1;cases e1;cases e2;exact⟨a,o,Wad hs,p1,p2,p3,rfl,p4⟩
  ·exact k1.own j x od' (old j x hj e1) e2
 ·obtain⟨x',f1,f2⟩:=cv j x od1 e1 e2
  obtain⟨y',f3,f4⟩:=cv l y od2 e3 e4;exact k1.dis j l x' y' od1 od2 c f1 f2 f3 f4 e5 e6
theorem Ok.putN {g:Gm}{G H:Hp}:∀(cs:List (Addr × HO)) (ods:List OD) (b:Nat) (σ:St) (Δ:Evt),Ok K g G H σ Δ -> b+ods.length <= Δ.length->Nest K g G H σ Δ cs ods →
  Ok K g G H (putS b (cs.map (·.1)) σ) (L2.putN b ((cs.map (·.1)).zip ods) Δ)
 |[],[],_,_,_,k,_,_=>k
 |[],_::_,_,_,_,_,_,n=>by cases n.2.1
 |_::_,[],_,_,_,_,_,n=>by cases n.2.1
 |c::cs,od::ods,b,σ,Δ,k,hl,⟨nd,pr,al⟩=>by
  cases pr with
  |cons r t=>
   obtain⟨h1,h2,h3,h4,h5⟩:=al c War;rw[Wa4,Wcd]at nd;have hb:b < Δ.length:=by rw[Wax]at hl;omega
   have k1:=k.setOwnA hb ⟨c.2,h1,r,h2,h3,h4,h5⟩;refine Ok.putN cs ods (b+1) _ _ k1 (by rw[Wa1];rw[Wax]at hl;omega) ⟨nd.2,t,λd hd=>?_⟩;obtain⟨f1,f2,f3,f4,f5⟩:=al d (Waq _ hd);have hne:d.1≠c.1:=λe=>nd.1 (by rw[<- e];exact Was.mpr ⟨d,hd,rfl⟩);refine⟨f1,f2,f3,f4,λj x od' e1 e2=>?_⟩;by_cases hj:j=b
   ·subst hj
    rw[Wad (by rw[<- k.len];exact hb)];intro z;have:c.1=d.1:=by
     have z1:=Wau.inj (Wau.inj z);injection z1
    exact hne this.symm
   ·rw[Wae (Ne.symm hj)]at e1 ⊢
    exact f5 j x od' e1 e2
theorem Ziz:∀(l:List (Addr × OD)) (R T:Evt) (m:Nat),l.length<=m->L2.putN R.length l (R++Wai m Slot.any++T)=R++l.map (λc=>Slot.ownA c.1 c.2)++Wai (m-l.length) Slot.any++T
 |[],R,T,m,_=>by simp[L2.putN]
 |c::r,R,T,m,h=>by
  obtain⟨m',rfl⟩:∃m',m=m'+1:=⟨m-1,by rw[Wax]at h;omega⟩;have e:(R++Wai (m'+1) Slot.any++T).set R.length (.ownA c.1 c.2)=(R++[.ownA c.1 c.2])++Wai m' Slot.any++T:=by
   rw[Wc3];simp[Wcx]
  rw[L2.putN,e];have:=Ziz r (R++[.ownA c.1 c.2]) T m' (by rw[Wax]at h;omega);rw[Wag,Wb7]at this;rw[this];simp
theorem Zl0 {te:TE}{i base:Nat}{nx bk ct:Evt->Prop}{rt:D->Evt->Prop}{ro:OD->Evt->Prop}
  (h:JN K te Δ λods Δ1=>i<base/\base+ods.length <= Δ1.length/\∀as:List Addr,as.length=ods.length->as.Nodup->nx (L2.putN base (as.zip ods) (Δ1.set i (.val (.lst (as.map D.adr)))))) :
  JS K (tGhost base (tAsg te (gName i))) Δ ⟨nx,rt,bk,ct,ro⟩:=λg G H σ E k c=>
 h g G H σ _ k λacc cs ods G1 H1 Δ1 k1 s1 rr _ nn hq_=>by
  obtain⟨hi,hb,p⟩:=hq_;have hl:cs.length=ods.length:=Paired.length nn.2.1;have e0:(cs.map λc=>D.adr c.1)=(cs.map (·.1)).map D.adr:=by rw[Wa9];rfl
  have k2:=k1.setVal' i rr;have n2:Nest K g G1 H1 (σ.set i (some (.ref acc))) (Δ1.set i (.val (.lst (cs.map λc=>D.adr c.1)))) cs ods:=by
   obtain⟨nd,pr,al⟩:=nn;refine⟨nd,pr,λd hd=>?_⟩;obtain⟨f1,f2,f3,f4,f5⟩:=al d hd;refine⟨f1,f2,f3,f4,λj x od' e1 e2=>?_⟩;by_cases hj:j=i
   ·subst hj
    by_cases hlt:j < Δ1.length
    ·rw[Wad hlt]at e1;cases e1;cases e2
    ·rw[Wcp (by rw[Wa1];omega)]at e1;cases e1
   ·rw[Wae (Ne.symm hj)]at e1 ⊢
    exact f5 j x od' e1 e2
  have k3:=Ok.putN cs ods base _ _ k2 (by rw[Wa1];exact hb) n2;refine⟨putS base (cs.map (·.1)) (σ.set i (some (.ref acc))),Zi3 _ _ _,λj hj=>Zf4 _ _ _ j hj,?_⟩;rw[e0]at k3;exact c.nx _ G1 H1 _ k3 (p (cs.map (·.1)) (by rw[Waa,hl]) nn.1)
theorem Zel {n j:Nat}{a:Addr}{ds:List D}{P:D->Evt->Prop}(hx:Δ[n]?=some (.val (.adr a))) (hj:Δ[j]?=some (.ownA a (.lst ds))) (p:P (.int ds.length) Δ):JE K (tCB (rLenU K) (tCons (tVar n) tNil)) Δ P:=λg G H σ Q k c=>by
 obtain⟨v,h1,h2⟩:=k.val n _ hx;cases h2;obtain⟨a',o,w1,w2,w3,w4,w5⟩:=k.own j _ _ hj rfl;obtain⟨rfl,_⟩:=w5;cases o with
 |lst vs=>
  have w3:Reps K G vs ds:=w3;refine⟨_,h1,.inl ⟨_,vs,rfl,.inl (SqL.of w2),?_⟩⟩;rw[w3.length];exact c _ _ G H Δ k (Same.refl _) (.int _) p
 |_=>exact absurd w3 (λz=>z)
theorem Zig {n:Nat}{t1 t2:TE}{a:Addr}{j0:Nat}{ds0:List D}{nx bk ct:Evt->Prop}{rt:D->Evt->Prop}{ro:OD->Evt->Prop}(hx:Δ[n]?=some (.val (.adr a))) (hj0:Δ[j0]?=some (.ownA a (.lst ds0)))
  (h:JE K t1 Δ λe1 Δ1=>JE K t2 Δ1 λe2 Δ2=>∃j i ds,e1=.int i /\ Δ2[j]?=some (.ownA a (.lst ds))/\ds.length<sizeLine /\ -(2 ^ 62)<=i/\i<2 ^ 62/\nx (Δ2.set j (.ownA a (.lst (ds.take (insI ds.length i)++e2::ds.drop (insI ds.length i)))))) :
  JS K (tDrop (tBM K "list" rInsert (tVar n) (tCons t1 (tCons t2 tNil)))) Δ ⟨nx,rt,bk,ct,ro⟩:=λg G H σ E k c=>by
 obtain⟨v,h1,h2⟩:=k.val n _ hx;cases h2;obtain⟨a',o,w1,w2,w3,w4,w5⟩:=k.own j0 _ _ hj0 rfl;obtain⟨rfl,_⟩:=w5;cases o with
 |lst vs0=>
  refine⟨_,h1,.inl ⟨rfl,_,SqL.of w2⟩,h g G H σ _ k λv1 e1 G1 H1 Δ1 k1 s1 r1 p1=>p1 g G1 H1 σ _ k1 λv2 e2 G2 H2 Δ2 k2 s2 r2 ⟨j,i,ds,q1,q2,q3,q4,q5,p⟩=>?_⟩;subst q1;cases r1.inv;obtain⟨a2,o2,u1,u2,u3,u4,u5⟩:=k2.own j _ _ q2 rfl;obtain⟨rfl,_⟩:=u5;cases o2 with
  |lst vs=>
   have u3:Reps K G2 vs ds:=u3;refine⟨_,vs,i,v2,rfl,rfl,u2,by rw[u3.length];exact q3,q4,q5,?_⟩;have k3:=k2.write q2 rfl u1 (show OwnRep K G2 (.lst (vs.take (insI vs.length i)++v2::vs.drop (insI vs.length i))) (.lst (ds.take (insI ds.length i)++e2::ds.drop (insI ds.length i))) from by
    rw[u3.length];exact(u3.take _).append (.cons r2 (u3.drop _)))
   exact c.nx σ G2 _ _ k3 p
  |_=>exact absurd u3 (λz=>z)
 |_=>exact absurd w3 (λz=>z)
theorem JS.conv {t:TS}{Δ':Evt}{P:Pst}(hc:∀g G H σ,Ok K g G H σ Δ -> ∃G',Same G G' /\ Ok K g G' H σ Δ') (h:JS K t Δ' P):JS K t Δ P:=λg G H σ E k c=>by
 obtain⟨G',s,k'⟩:=hc g G H σ k;exact h g G' H σ E k' c
theorem Ok.freezeA {g:Gm}{G H:Hp}{σ:St}(k:Ok K g G H σ Δ) {i:Nat}{a:Addr}{ds:List D}(h:Δ[i]?=some (.ownA a (.lst ds))):∃G',Same G G' /\ Ok K g G' H σ (Δ.set i .any)/\Rep K G' (.ref a) (.lst ds):=by
 obtain⟨a',o,w1,w2,w3,w4,w5⟩:=k.own i _ _ h rfl;obtain⟨rfl,w6⟩:=w5;cases o with
 |lst vs=>
  have pd:Pend K g G H σ (Δ.set i .any) a (.lst ds):=by
   refine⟨.lst vs,w2,w3,w4,w6,?_,λj x od' e1 e2 e3=>?_⟩
   ·cases q:g.Xo a with
    |none=>rfl
    |some u=>exact absurd w1 ((k.ext a u q).2.2 i _ _ h rfl)
   ·by_cases hj:j=i
    ·subst hj
     rw[Wck]at e1;simp at e1;obtain⟨_,e1⟩:=e1;subst e1;cases e2
    ·rw[Wae (Ne.symm hj)]at e1
     exact hj (k.dis j i x _ od' _ a e1 e2 h rfl e3 w1)
  obtain⟨k2,sg,r⟩:=(k.drop i).freeze pd w2;exact⟨_,sg,k2,r⟩
 |_=>exact absurd w3 (λz=>z)
theorem Ok.freezeN {g:Gm}{H:Hp}{σ:St}:∀(cs:List (Addr × List D)) (R T:Evt) (G:Hp),Ok K g G H σ (R++cs.map (λc=>Slot.ownA c.1 (.lst c.2))++T) →
  ∃G',Same G G' /\ Ok K g G' H σ (R++Wai cs.length .any++T)/\∀c∈cs,Rep K G' (.ref c.1) (.lst c.2)
 |[],R,T,G,k=>⟨G,Same.refl _,by simpa using k,λc hc=>nomatch hc⟩
 |c::r,R,T,G,k=>by
  have hi:(R++(c::r).map (λc=>Slot.ownA c.1 (.lst c.2))++T)[R.length]?=some (.ownA c.1 (.lst c.2)):=by simp
  obtain⟨G1,s1,k1,r1⟩:=k.freezeA hi;have e:(R++(c::r).map (λc=>Slot.ownA c.1 (.lst c.2))++T).set R.length .any=(R++[.any])++r.map (λc=>Slot.ownA c.1 (.lst c.2))++T:=by
   simp[Wcx]
  rw[e]at k1;obtain⟨G2,s2,k2,r2⟩:=Ok.freezeN r (R++[.any]) T G1 k1;refine⟨G2,s1.trans s2,?_,λd hd=>?_⟩
  ·have e2:(R++[Slot.any])++Wai r.length Slot.any++T=R++Wai (c::r).length Slot.any++T:=by
    rw[Wax,Wc3];simp
   rw[e2]at k2;exact k2
  ·rcases Wam.mp hd with e|hd
   ·subst e;exact r1.mono s2
   ·exact r2 d hd
theorem Ok.thaw {g:Gm}{G H:Hp}{σ:St}{cs:List (Addr × List D)}{R T:Evt}{i:Nat}(k:Ok K g G H σ (R++cs.map (λc=>Slot.ownA c.1 (.lst c.2))++T)) (hi:R[i]?=some (.val (.lst (cs.map λc=>D.adr c.1)))) :
  ∃G',Same G G' /\ Ok K g G' H σ (R.set i (.val (.lst (cs.map λc=>D.lst c.2)))++Wai cs.length .any++T):=by
 have hlt:i<R.length:=(Wah.mp hi).1;obtain⟨v,h1,h2⟩:=k.val i _ (by rw[Wb8,Wbb hlt];exact hi);obtain⟨G1,s1,k1,r1⟩:=Ok.freezeN cs R T G k;refine⟨G1,s1,?_⟩;have rr:Rep K G1 v (.lst (cs.map λc=>D.lst c.2)):=by
  cases h2 with
  |lst ha rs=>
   refine .lst (s1 _ _ ha) ?_;have key:∀(l:List (Addr × List D)) (vs:List V),(∀c∈l,Rep K G1 (.ref c.1) (.lst c.2))->Reps K G vs (l.map λc=>D.adr c.1)->Reps K G1 vs (l.map λc=>D.lst c.2):=by
    intro l
    induction l with
    |nil=>intro vs _ h;cases h;exact .nil
    |cons c r ih=>
     intro vs hc h;cases h with
     |cons h1 h2=>
      cases h1;exact .cons (hc c War) (ih _ (λd hd=>hc d (Waq _ hd)) h2)
   exact key cs _ r1 rs
 have k2:=k1.setVal' i rr;have e1:σ.set i (some v) = σ:=by
  apply Wbp;intro j;by_cases hj:j=i
  ·subst hj;rw[Wad (by obtain⟨z,_⟩:=Wah.mp h1;exact z),h1]
  ·rw[Wae (Ne.symm hj)]
 rw[e1]at k2;have e2:(R++Wai cs.length Slot.any++T).set i (.val (.lst (cs.map λc=>D.lst c.2)))=R.set i (.val (.lst (cs.map λc=>D.lst c.2)))++Wai cs.length Slot.any++T:=by
  rw[Wb8,Wb8,Wc1 _ _ hlt]
 rw[e2]at k2;exact k2
end
section
variable {X:Cx}(K:W.Frag)
theorem ixK (hu:X.A.units+1<cLine) (hK:X.K=K:=by rfl):IxR X (rIxU K):=hK ▸ ixU hu
theorem slK (hK:X.K=K:=by rfl):SlR X (rSlU K):=hK ▸ slU
theorem addK (hK:X.K=K:=by rfl):OpR X (binaryOp .Add) (rAddU K):=hK ▸ Zp0
theorem lenK (hK:X.K=K:=by rfl):CallR X (.builtin "len") (rLenU K):=hK ▸ Zlr
def rTup (K:W.Frag):List V->Hp->VK->Prop:=λxs H Q=>∃p ys,xs=[.ref p]/\((SqL K H p ys/\∀l,H l=none->Q (.ref l) (upd H l (.tup ys)))\/(SqT K H p ys/\Q (.ref p) H))
theorem tupK (hK:X.K=K:=by rfl):CallR X (.type "tuple") (rTup K):=hK ▸ Zg4
def rLst (K:W.Frag):List V->Hp->VK->Prop:=λxs H Q=>∃p ys,xs=[.ref p]/\(SqL K H p ys\/SqT K H p ys)/\∀l,H l=none->Q (.ref l) (upd H l (.lst ys))
theorem lstK (hK:X.K=K:=by rfl):CallR X (.type "list") (rLst K):=hK ▸ Zht
theorem idxK (hK:X.K=K:=by rfl):MtM X "tuple.index" (rIndexT K):=hK ▸ Zfr
theorem seqK {tg l:Expr}{tl:TE}(hl:PE X l tl) (hK:X.K=K:=by rfl):PI X tg l (iSeq K tl):=hK ▸ Zr8 hl
theorem truK {a:Expr}{ta:TE}(ha:PE X a ta) (he:∀whole,isTrue a X.env whole=(do let v ← whole;standAt a.pos;holding [v] (truthy v))) (hK:X.K=K:=by rfl):PT X a (tTru K ta):=hK ▸ Zsa ha he
theorem gtupK {es:List Expr}{k:Nat}{t:TGs}{n:Nat}{pos:Pos}(hc:X.calm=true) (h:PGs X es t)
  (hn:(assignEach es X.env).length=n:=by rfl) (hst:(assignEach es X.env).findIdx? (·.1)=none:=by rfl) (hK:X.K=K:=by rfl):PG X (.Tuple es k pos) (gTup K n t):=hK ▸ Zrw hc h hn hst
variable {o e:Expr}{es:List Expr}{to:TE}{t:TA}{name:Str}{apos cpos:Pos}{T id:String}{r:V->List V->Hp->VK->Prop}
theorem bm0K (pa:PlainAttrs T) (slot:PySem.Slot T name id) (hty:typeOf (.builtin id)=pure (.type "method_descriptor")) (hm:MtR X id r) (ho:PE X o to)
  (hbase:attributeBase o name X.env (eval o X.env)=eval o X.env:=by rfl) (hline:(apos.endLine == cpos.line)=true:=by rfl) (hK:X.K=K:=by rfl):PE X (.Call (.Attribute o name apos) [] [] cpos) (tBM0 K T r to):=hK ▸ Zrz pa slot hty hm ho hbase hline
theorem bmK (pa:PlainAttrs T) (slot:PySem.Slot T name id) (hty:typeOf (.builtin id)=pure (.type "method_descriptor")) (hm:MtR X id r) (ho:PE X o to) (ha:PA X (e::es) t)
  (hbase:attributeBase o name X.env (eval o X.env)=eval o X.env:=by rfl)
  (hfew:((backTo cpos (starEach (e::es) X.env)).all (λx=>!x.1) && (backToKw cpos (keywordEach [] X.env)).all (λx=>x.1.isSome)
   && decide ((e::es).length+([]:List Keyword).length+(if ([]:List Keyword).isEmpty then 0 else 1)<30))=true:=by rfl)
  (hline:(apos.endLine == cpos.line)=true:=by rfl) (hs:starEach (e::es) X.env=(false,eval e X.env)::starEach es X.env:=by rfl) (hplain:(backTo cpos (starEach es X.env)).any (·.1)=false:=by rfl) (hK:X.K=K:=by rfl) :
  PE X (.Call (.Attribute o name apos) (e::es) [] cpos) (tBM K T r to t):=hK ▸ Zt3 pa slot hty hm ho ha hbase hfew hline hs hplain
end
section
variable {K:W.Frag}{Δ:Evt}{P:D->Evt->Prop}
theorem Zdc {ds es:List D}(he:ds=[.lst es]\/ds=[.tup es]) (p:P (.tup es) Δ):JC K (rTup K) ds Δ P:=Zn9 he p
theorem Zfu {ds es:List D}(he:ds=[.lst es]\/ds=[.tup es]) (p:P (.lst es) Δ):JC K (rLst K) ds Δ P:=λg G H σ Q vs k rs c=>by
 rcases he with he|he <;> subst he
 ·obtain⟨_,_,rfl,r,t⟩:=rs.inv
  next=>
   cases t.inv;obtain⟨_,_,rfl,ha,rs⟩:=r.inv
   next=>
    refine⟨_,_,rfl,.inl (SqL.of (k.live _ _ ha)),λl hl=>?_⟩;obtain⟨k2,sg⟩:=k.laid hl (.lst _);exact c _ _ _ _ Δ k2 sg (.lst Zan (rs.mono sg)) p
 ·obtain⟨_,_,rfl,r,t⟩:=rs.inv
  next=>
   cases t.inv;obtain⟨_,_,rfl,ha,rs⟩:=r.inv
   next=>
    refine⟨_,_,rfl,.inr (SqT.of (k.live _ _ ha)),λl hl=>?_⟩;obtain⟨k2,sg⟩:=k.laid hl (.lst _);exact c _ _ _ _ Δ k2 sg (.lst Zan (rs.mono sg)) p
theorem Zgd {sel:List Nat}{wi:TI}{tc:TT}{te:TE}{Po:List OD->Evt->Prop}(hsel:sel.Nodup)
  (h:JI K wi Δ λds Δ1=>ds.length<sizeLine/\∃(p:D->Bool) (f:D->OD),
   (∀(i:Nat) d,ds[i]?=some d->JT K tc (.val d::fixD sel Δ1) λb Δ4=>b=p d/\if b=true then JO K te Δ4 λe Δ5=>e=f d/\∃x,Δ5=x::fixD sel Δ1 else ∃x,Δ4=x::fixD sel Δ1) ∧
   Po ((ds.filter p).map f) Δ1):JN K (tComp 1 sel wi (gName 0) tc te) Δ Po:=by
 refine Zq2 hsel λg G H σ R k c=>h g G H σ R k λJ ds G' H' Δ' k' s' it ⟨z,p,f,ht,he⟩=>c J ds G' H' Δ' k' s' it ⟨z,λi ys Δ=>ys=((ds.take i).filter p).map f/\∃x,Δ = x::fixD sel Δ',⟨by simp,.any,rfl⟩,?_,?_⟩
 ·rintro i d ys Δ2 hd ⟨rfl,x,rfl⟩
  have tk:ds.take (i+1)=ds.take i++[d]:=by
   rw[Wc9,hd];rfl
  refine Ze7 (by decide) ?_;intro g G H σ Q k c;refine ht i d hd g G H σ Q k λb G1 H1 Δ1 k1 s1 ⟨e1,q⟩=>c b G1 H1 Δ1 k1 s1 ?_;cases b with
  |true=>
   rw[if_pos rfl]at q ⊢;intro g G H σ Q k c;refine q g G H σ Q k λa od G2 H2 Δ2 k2 s2 pd ⟨e2,x,e3⟩=>c a od G2 H2 Δ2 k2 s2 pd ⟨?_,x,e3⟩;rw[tk,Wb1,Wbd,Wb0,<- e1,e2];rfl
  |false=>
   rw[if_neg Wan]at q ⊢;obtain⟨x,e3⟩:=q;refine⟨?_,x,e3⟩;rw[tk,Wb1,Wbd,Wb0,<- e1];simp
 ·rintro ys Δ2 ⟨rfl,x,rfl⟩
  rw[Wdg,show (x::fixD sel Δ')=[x]++fixD sel Δ' from rfl,Zdp (by simp)];exact he
end
def fLaw:DSp:=λds Post=>∃ns:List Int,ds=[.scr (ns.map .int)]/\ns.length<=63/\Post (.bl true)
def SqB (b:Bool) (K:W.Frag) (H:Hp) (a:Addr) (xs:List V):Prop:=match b with|true=>SqT K H a xs|false=>SqL K H a xs
def ItB (b:Bool) (h:Heap) (j a:Addr) (i:Nat):Prop:=match b with|true=>h.IsTupleIter j a i|false=>h.IsListIter j a i
def HsB (b:Bool) (h:Heap) (a:Addr) (ws:Array Value):Prop:=match b with|true=>h.IsTuple a ws|false=>h.IsList a ws
theorem ItB.at {b:Bool}{h h':Heap}{j a:Addr}{i:Nat}(x:ItB b h j a i) (e:∀o,h.get? j=some o->h'.get? j=some o):ItB b h' j a i:=by
 cases b
 ·exact Heap.IsListIter.at (show h.IsListIter j a i from x) e
 ·exact Heap.IsTupleIter.at (show h.IsTupleIter j a i from x) e
theorem ItB.off {b:Bool}{h h':Heap}{j a c:Addr}{i:Nat}(x:ItB b h j a i) (e:Heap.ExtBut c h h') (n:j≠c):ItB b h' j a i:=x.at λo q=>e j o n q
theorem ItB.obj {b:Bool}{h:Heap}{j a:Addr}{i:Nat}(x:ItB b h j a i):∃o,h.get? j=some o/\o.data=.fields #[.ref a,.int i 0]:=by
 cases b <;> (obtain⟨o,e,_,d⟩:=x;exact⟨o,e,d⟩)
theorem HsB.off {b:Bool}{h h':Heap}{a c:Addr}{ws:Array Value}(x:HsB b h a ws) (e:Heap.ExtBut c h h') (n:a≠c):HsB b h' a ws:=by
 cases b <;> (obtain⟨o,q,r⟩:=x;exact⟨o,e a o n q,r⟩)
theorem HsB.lt {b:Bool}{h:Heap}{a:Addr}{ws:Array Value}(x:HsB b h a ws):a<h.objs.size:=by
 cases b <;> (obtain⟨o,q,r⟩:=x;exact Wao q)
theorem Inv.seqB {X:Cx}{pins:List (Addr × Obj)}{σ:St}{H:Hp}{s:Shared}{b:Bool}{a:Addr}{xs:List V}(I:Inv X pins σ H s) (h:SqB b X.K H a xs):∃its:List Value,Vals xs its/\HsB b s.heap a its.toArray:=by
 cases b
 ·obtain⟨its,r,p,_⟩:=I.list h
  exact⟨its,r,p.isList⟩
 ·obtain⟨its,r,p,_⟩:=I.tuple h
  exact⟨its,r,p⟩
theorem Inv.seqB_inj {X:Cx}{pins:List (Addr × Obj)}{σ:St}{H:Hp}{s:Shared}{b:Bool}{a:Addr}{xs ys:List V}(I:Inv X pins σ H s) (h:SqB b X.K H a xs) (h':SqB b X.K H a ys):xs=ys:=by
 cases b
 ·exact I.list_inj h h'
 ·exact I.tuple_inj h h'
section
variable {prog:Program}{w:World}{A:Around}{E:Value->Shared->Prop}{s:Shared}
theorem Zf7 {b:Bool}{j a:Addr}{i:Nat}{ws:Array Value}{x:Value}{Q:Value->Shared->Prop}(g:ItB b s.heap j a i) (l:HsB b s.heap a ws) (e:ws[i]?=some x)
  (q:∀h',ItB b h' j a (i+1)->Heap.SameBut j s.heap h' -> Q x { s with heap:=h' }):wpAny (model prog w) A (Builtin.SmallTypes.nextOf (.ref j)) Q E s:=by
 cases b
 ·exact wpAny_nextOf_list_item g l e q
 ·obtain⟨o,g1,g2,g3⟩:=id g
  obtain⟨u,l1,_,n,l2⟩:=l;have ty:s.TypeIs (.ref j) "tuple_iterator":=⟨o,g1,g2⟩;unfold Builtin.SmallTypes.nextOf;refine wpAny_bind (wpAny_callSpecial?_slot (name:=Str.ofString "__next__") ty F.slot_tuple_iterator_next (wpAny_call_entry F.slot_tuple_iterator_next ty F.entry_tuple_iterator_next ?_ (F.args_tuple_iterator_next_1 _)));refine(show wpAny _ _ (field (.ref j) 0 >>= _) _ _ s from wpAny_bind (wpAny_field g1 g3 (x:=.ref a) rfl ?_));refine(show wpAny _ _ (if (Value.ref a == Value.none)=true then _ else _) _ _ s from ?_);rw[if_neg (by exact Wan)];refine(show wpAny _ _ (field (.ref j) 1 >>= _) _ _ s from wpAny_bind (wpAny_field g1 g3 (x:=.int i 0) rfl ?_));refine(show wpAny _ _ (seqItems? (.ref a) >>= _) _ _ s from wpAny_bind (wpAny_seqItems l1 l2 ?_));simp only[Wbn,e];refine wpAny_bind (wpAny_setField g1 g3 (by simp) (wpAny_pure ⟨x,rfl,wpAny_pure (q _ ⟨_,Wbh _ g1 (Obj.isFreed_of_fields (Obj.data_mapFields g3 _)),(Obj.cls_mapFields ..).trans g2,?_⟩ (Heap.SameBut.update ..))⟩));rw[Obj.data_mapFields g3];simp[rawInt]
theorem Zmp {b:Bool}{j a:Addr}{i:Nat}{ws:Array Value}{Q:Value->Shared->Prop}(hh:A.handled=none) (g:ItB b s.heap j a i) (l:HsB b s.heap a ws) (e:ws[i]?=none)
  (q:∀h' x,Heap.ExtBut j s.heap h' -> (∃o,h'.get? x=some o/\o.cls=.type "StopIteration")->E (.ref x) { s with heap:=h' }):wpAny (model prog w) A (Builtin.SmallTypes.nextOf (.ref j)) Q E s:=by
 cases b
 ·exact wpAny_nextOf_list_end hh g l e q
 ·obtain⟨o,g1,g2,g3⟩:=id g
  obtain⟨u,l1,_,n,l2⟩:=l;have ty:s.TypeIs (.ref j) "tuple_iterator":=⟨o,g1,g2⟩;unfold Builtin.SmallTypes.nextOf;refine wpAny_bind (wpAny_callSpecial?_slot (name:=Str.ofString "__next__") ty F.slot_tuple_iterator_next (wpAny_call_entry F.slot_tuple_iterator_next ty F.entry_tuple_iterator_next ?_ (F.args_tuple_iterator_next_1 _)));refine(show wpAny _ _ (field (.ref j) 0 >>= _) _ _ s from wpAny_bind (wpAny_field g1 g3 (x:=.ref a) rfl ?_));refine(show wpAny _ _ (if (Value.ref a == Value.none)=true then _ else _) _ _ s from ?_);rw[if_neg (by exact Wan)];refine(show wpAny _ _ (field (.ref j) 1 >>= _) _ _ s from wpAny_bind (wpAny_field g1 g3 (x:=.int i 0) rfl ?_));refine(show wpAny _ _ (seqItems? (.ref a) >>= _) _ _ s from wpAny_bind (wpAny_seqItems l1 l2 ?_));simp only[Wbn,e];refine wpAny_bind (wpAny_rule (wpAny_bind (wpAny_setField g1 g3 (by simp) (show wpAny _ _ (newExc (.type "StopIteration") [] >>= _) _ _ _ from wpAny_bind ?_))));simp only[newExc,newTuple];refine wpAny_bind (wpAny_newObj_type (wpAny_bind (m:=firstArgMember _ _) (wpAny_of_eq (a:=Value.none) (by first|rfl|(simp only[firstArgMember];rfl)) (wpAny_newObj_type ?_ (by size_fits)))) (by size_fits));simp only[raiseNew];refine wpAny_bind (wpAny_handled ?_)
  first|rw[show A.in1.handled=none from hh]|rw[hh]
  exact wpAny_bind (wpAny_pure (wpAny_throw (q _ _ (((Heap.SameBut.update ..).extBut.push _).push _) ⟨_,Wal _ rfl,rfl⟩)))
theorem Zpy {b c:Bool}{z U O j1 j2 a1 a2:Addr}{k1 k2:Nat}{vs us:Array Value}{x y p r:Value}{Q:Option Value->Shared->Prop}(D:ZipApart z U O j1 j2 a1 a2)
  (gz:IsZip s.heap z U O .none) (gU:IsPair s.heap U (.ref j1) (.ref j2)) (gO:IsPair s.heap O p r) (g1:ItB b s.heap j1 a1 k1) (g2:ItB c s.heap j2 a2 k2) (l1:HsB b s.heap a1 vs) (l2:HsB c s.heap a2 us) (ex:vs[k1]?=some x) (ey:us[k2]?=some y)
  (q:∀h',IsZip h' z U O (rawInt s.heap.objs.size)->IsPair h' O x y->ItB b h' j1 a1 (k1+1)->ItB c h' j2 a2 (k2+1)->IsPair h' s.heap.objs.size x y->h'.objs.size=s.heap.objs.size+1 →
   (∀d o,d≠z->d≠O->d≠j1->d≠j2->s.heap.get? d=some o->h'.get? d=some o)->Q (some (.ref s.heap.objs.size)) { s with heap:=h' }):wpAny (model prog w) A (pyNext (.ref z)) Q E s:=by
 have ty:s.TypeIs (.ref z) "zip":=⟨_,gz,rfl⟩;unfold pyNext;refine wpAny_bind (wpAny_attempt (wpAny_callSpecial?_slot (name:=Str.ofString "__next__") ty F.slot_zip_next (wpAny_call_entry F.slot_zip_next ty F.entry_zip_next ?_ (F.args_zip_next_1 _))));refine(show wpAny _ _ (field (.ref z) 2 >>= _) _ _ _ from wpAny_bind (wpAny_field gz rfl (x:=.bool false) rfl ?_));refine(show wpAny _ _ (field (.ref z) 3 >>= _) _ _ _ from wpAny_bind (wpAny_field gz rfl (x:=.ref U) rfl (wpAny_bind (wpAny_seqItems gU rfl ?_))));refine(show wpAny _ _ (Builtin.SmallTypes.ownedTupleIsFree (.ref z) >>= _) _ _ _ from wpAny_bind ?_);unfold Builtin.SmallTypes.ownedTupleIsFree;refine wpAny_bind (wpAny_field gz rfl (x:=.none) rfl (wpAny_pure ?_));simp only[if_true];refine wpAny_bind (wpAny_rule (wpAny_bind (wpAny_field gz rfl (x:=.ref O) rfl (wpAny_bind (wpAny_setField_rec gz (by simp) λh₁ z₁ s₁=>wpAny_bind ?_)))))
 replace z₁:IsZip h₁ z U O .ellipsis:=z₁
 simp only[List.zipIdx_cons,List.zipIdx_nil,List.forIn_cons,List.forIn_nil];refine wpAny_bind (wpAny_bind (wpAny_onRaise (show wpAny _ _ (Builtin.SmallTypes.nextOf (.ref j1) >>= _) _ _ _ from wpAny_bind (Zf7 (g1.off s₁.extBut D.i1z) (l1.off s₁.extBut D.l1z) ex λh₂ g₂ s₂=>wpAny_pure ?_))));have o₂:IsPair h₂ O p r:=s₂.extBut _ _ D.TOi1 (s₁.extBut _ _ D.TOz gO);refine wpAny_bind (wpAny_seqItems o₂ rfl (wpAny_bind (wpAny_updateSeq_pair o₂ λh₃ o₃ s₃=>wpAny_bind (wpAny_letGo (wpAny_pure ?_)))))
 replace o₃:IsPair h₃ O x r:=o₃
 refine wpAny_bind (wpAny_bind (wpAny_onRaise (show wpAny _ _ (Builtin.SmallTypes.nextOf (.ref j2) >>= _) _ _ _ from wpAny_bind (Zf7 (((g2.off s₁.extBut D.i2z).off s₂.extBut D.i12.symm).off s₃.extBut D.TOi2.symm) (((l2.off s₁.extBut D.l2z).off s₂.extBut D.l2i1).off s₃.extBut D.l2TO) ey λh₄ g₄ s₄=>wpAny_pure ?_))));have o₄:IsPair h₄ O x r:=s₄.extBut _ _ D.TOi2 o₃;refine wpAny_bind (wpAny_seqItems o₄ rfl (wpAny_bind (wpAny_updateSeq_pair o₄ λh₅ o₅ s₅=>wpAny_bind (wpAny_letGo (wpAny_pure (wpAny_pure ?_))))))
 replace o₅:IsPair h₅ O x y:=o₅
 refine wpAny_bind (wpAny_seqItems o₅ rfl (wpAny_bind (wpAny_newTuple ?_)));have n5:h₅.objs.size=s.heap.objs.size:=by rw[s₅.1,s₄.1,s₃.1,s₂.1,s₁.1]
 have z₅:IsZip h₅ z U O .ellipsis:=s₅.extBut _ _ D.TOz.symm (s₄.extBut _ _ D.i2z.symm (s₃.extBut _ _ D.TOz.symm (s₂.extBut _ _ D.i1z.symm z₁)));have old:∀d o,d≠z->d≠O->d≠j1->d≠j2->s.heap.get? d=some o->h₅.get? d=some o:=λd o c1 c2 c3 c4 e=>s₅.extBut _ _ c2 (s₄.extBut _ _ c4 (s₃.extBut _ _ c2 (s₂.extBut _ _ c3 (s₁.extBut _ _ c1 e))));have t1:ItB b h₅ j1 a1 (k1+1):=((g₂.off s₃.extBut D.TOi1.symm).off s₄.extBut D.i12).off s₅.extBut D.TOi1.symm;have t2:ItB c h₅ j2 a2 (k2+1):=g₄.off s₅.extBut D.TOi2.symm;have zl:z<h₅.objs.size:=Wao z₅;refine(show wpAny _ _ (Builtin.SmallTypes.ownedTupleHandOut (.ref z) (.ref h₅.objs.size) >>= _) _ _ _ from wpAny_bind ?_);unfold Builtin.SmallTypes.ownedTupleHandOut;have z₆:IsZip (h₅.push { cls:=.type "tuple",data:=.seq #[x,y] }) z U O .ellipsis:=Wac _ z₅;refine wpAny_bind (wpAny_setField_rec z₆ (by simp) λh₇ z₇ s₇=>?_)
 replace z₇:IsZip h₇ z U O (rawInt h₅.objs.size):=z₇
 refine wpAny_setField_rec z₇ (by simp) λh₈ z₈ s₈=>?_
 replace z₈:IsZip h₈ z U O (rawInt h₅.objs.size):=z₈
 have up:∀d o,d≠z->h₅.get? d=some o->h₈.get? d=some o:=λd o c1 e=>s₈.extBut _ _ c1 (s₇.extBut _ _ c1 (Wac _ e));have new8:IsPair h₈ h₅.objs.size x y:=s₈.extBut _ _ (Wcc zl) (s₇.extBut _ _ (Wcc zl) (Wal _ rfl));have n8:h₈.objs.size=h₅.objs.size+1:=by rw[s₈.1,s₇.1,Wbm]
 rw[n5]at z₈ new8 n8;refine wpAny_pure ⟨_,rfl,wpAny_pure ?_⟩;refine(show Q (some (.ref h₅.objs.size)) _ from ?_);rw[n5];exact q h₈ z₈ (up _ _ D.TOz o₅) (t1.at λo e=>up _ o D.i1z e) (t2.at λo e=>up _ o D.i2z e) new8 n8 λd o c1 c2 c3 c4 e=>up d o c1 (old d o c1 c2 c3 c4 e)
theorem Ztj {b c:Bool}{z U O j1 j2 a1 a2:Addr}{k1 k2:Nat}{vs us:Array Value}{p r:Value}{Q:Option Value->Shared->Prop}(hh:A.handled=none) (D:ZipApart z U O j1 j2 a1 a2)
  (gz:IsZip s.heap z U O .none) (gU:IsPair s.heap U (.ref j1) (.ref j2)) (gO:IsPair s.heap O p r) (g1:ItB b s.heap j1 a1 k1) (g2:ItB c s.heap j2 a2 k2) (l1:HsB b s.heap a1 vs) (l2:HsB c s.heap a2 us) (e:vs[k1]?=none\/us[k2]?=none)
  (q:∀h',(∀d o,d≠z->d≠O->d≠j1->d≠j2->s.heap.get? d=some o->h'.get? d=some o)->Q none { s with heap:=h' }):wpAny (model prog w) A (pyNext (.ref z)) Q E s:=by
 have ty:s.TypeIs (.ref z) "zip":=⟨_,gz,rfl⟩;have fin:∀{h':Heap}{x:Addr},(∀d o,d≠z->d≠O->d≠j1->d≠j2->s.heap.get? d=some o->h'.get? d=some o)->(∃o,h'.get? x=some o/\o.cls=.type "StopIteration")->wpAny (model prog w) A (do if (← isInstance (.ref x) (.type "StopIteration")) then pure none else throw (.ref x)) Q E { s with heap:=h' }:=λ{h' x} hk ⟨o,ho,hc⟩=>by
  refine wpAny_bind (wpAny_isInstance (T:="StopIteration") (b:=true) ⟨o,ho,hc⟩ isSubtype_stop ?_);exact wpAny_pure (q _ hk)
 unfold pyNext;refine wpAny_bind (wpAny_attempt (wpAny_callSpecial?_slot (name:=Str.ofString "__next__") ty F.slot_zip_next (wpAny_call_entry F.slot_zip_next ty F.entry_zip_next ?_ (F.args_zip_next_1 _))));refine(show wpAny _ _ (field (.ref z) 2 >>= _) _ _ _ from wpAny_bind (wpAny_field gz rfl (x:=.bool false) rfl ?_));refine(show wpAny _ _ (field (.ref z) 3 >>= _) _ _ _ from wpAny_bind (wpAny_field gz rfl (x:=.ref U) rfl (wpAny_bind (wpAny_seqItems gU rfl ?_))));refine(show wpAny _ _ (Builtin.SmallTypes.ownedTupleIsFree (.ref z) >>= _) _ _ _ from wpAny_bind ?_);unfold Builtin.SmallTypes.ownedTupleIsFree;refine wpAny_bind (wpAny_field gz rfl (x:=.none) rfl (wpAny_pure ?_));simp only[if_true];refine wpAny_bind (wpAny_rule (wpAny_bind (wpAny_field gz rfl (x:=.ref O) rfl (wpAny_bind (wpAny_setField_rec gz (by simp) λh₁ z₁ s₁=>wpAny_bind ?_)))))
 replace z₁:IsZip h₁ z U O .ellipsis:=z₁
 simp only[List.zipIdx_cons,List.zipIdx_nil,List.forIn_cons,List.forIn_nil];refine wpAny_bind (wpAny_bind (wpAny_onRaise (show wpAny _ _ (Builtin.SmallTypes.nextOf (.ref j1) >>= _) _ _ _ from ?_)));cases ex:vs[k1]? with
 |none=>
  refine wpAny_bind (Zmp hh (g1.off s₁.extBut D.i1z) (l1.off s₁.extBut D.l1z) ex λh₂ y s₂ ⟨u,u1,u2⟩=>?_);have z₂:IsZip h₂ z U O .ellipsis:=s₂ _ _ D.i1z.symm z₁;have yz:y≠z:=λx=>by subst x;rw[z₂]at u1;cases u1;simp at u2
  exact wpAny_setField_rec z₂ (by simp) λh₃ _ s₃=>fin (λd o c1 _ c3 _ x=>s₃.extBut _ _ c1 (s₂ _ _ c3 (s₁.extBut _ _ c1 x))) ⟨u,s₃.extBut _ _ yz u1,u2⟩
 |some x=>
  have ey:us[k2]?=none:=by rcases e with h|h;rw[ex]at h;cases h;exact h
  refine wpAny_bind (Zf7 (g1.off s₁.extBut D.i1z) (l1.off s₁.extBut D.l1z) ex λh₂ g₂ s₂=>wpAny_pure ?_);have o₂:IsPair h₂ O p r:=s₂.extBut _ _ D.TOi1 (s₁.extBut _ _ D.TOz gO);refine wpAny_bind (wpAny_seqItems o₂ rfl (wpAny_bind (wpAny_updateSeq_pair o₂ λh₃ o₃ s₃=>wpAny_bind (wpAny_letGo (wpAny_pure ?_)))));refine wpAny_bind (wpAny_bind (wpAny_onRaise (show wpAny _ _ (Builtin.SmallTypes.nextOf (.ref j2) >>= _) _ _ _ from ?_)));refine wpAny_bind (Zmp hh (((g2.off s₁.extBut D.i2z).off s₂.extBut D.i12.symm).off s₃.extBut D.TOi2.symm) (((l2.off s₁.extBut D.l2z).off s₂.extBut D.l2i1).off s₃.extBut D.l2TO) ey λh₄ y s₄ ⟨u,u1,u2⟩=>?_);have z₄:IsZip h₄ z U O .ellipsis:=s₄ _ _ D.i2z.symm (s₃.extBut _ _ D.TOz.symm (s₂.extBut _ _ D.i1z.symm z₁));have yz:y≠z:=λx=>by subst x;rw[z₄]at u1;cases u1;simp at u2
  exact wpAny_setField_rec z₄ (by simp) λh₅ _ s₅=>fin (λd o c1 c2 c3 c4 x=>s₅.extBut _ _ c1 (s₄ _ _ c4 (s₃.extBut _ _ c2 (s₂.extBut _ _ c3 (s₁.extBut _ _ c1 x))))) ⟨u,s₅.extBut _ _ yz u1,u2⟩
end
section
abbrev zt1 (h:Heap) (a:Addr):Heap:=h.push ⟨.type "tuple_iterator",none,.fields #[.ref a,.int 0 0],#[]⟩
abbrev zt2 (h:Heap) (a c:Addr):Heap:=(zt1 h a).push ⟨.type "tuple_iterator",none,.fields #[.ref c,.int 0 0],#[]⟩
abbrev zt3 (h:Heap) (a c:Addr):Heap:=(zt2 h a c).push ⟨.type "tuple",none,.seq #[.ref h.objs.size,.ref (zt1 h a).objs.size],#[]⟩
abbrev zt4 (h:Heap) (a c:Addr):Heap:=(zt3 h a c).push ⟨.type "tuple",none,.seq #[.none,.none],#[]⟩
abbrev zt5 (h:Heap) (a c:Addr):Heap:=(zt4 h a c).push ⟨.type "zip",none,.fields #[.none,.bool false,.bool false,.ref (zt2 h a c).objs.size,.ref (zt3 h a c).objs.size],#[]⟩
theorem Zoq (a c:Addr) (vs us:Array Value) :
  Meets (Builtin.«zip.__new__» ⟨[.type "zip",.ref a,.ref c],[]⟩) (λ_ R s=>s.heap.IsTuple a vs/\s.heap.IsTuple c us/\R (.ok (.ret (.ref (zt4 s.heap a c).objs.size))) { s with heap:=zt5 s.heap a c }):=.of_wp λprog w A R s h=>by
 obtain⟨hp,g,d,tk,os⟩:=s;obtain⟨u1,u2,h⟩:=h;have sub0:=sub_zip;have v1:Heap.IsTuple (Shared.heap ⟨hp,g,d,tk,os⟩) a vs:=u1;have v2:Heap.IsTuple (Shared.heap ⟨hp.push { cls:=.type "tuple_iterator",data:=.fields #[.ref a,.int 0 0] },g,d,tk,os⟩) c us:=Heap.IsTuple.push u2 _
 wp_walk using wpAny_pyIter_tuple v1,wpAny_pyIter_tuple v2
 exact⟨_,rfl,h⟩
variable {prog:Program}{w:World}{A:Around}{E:Value->Shared->Prop}{s:Shared}
theorem Zq9 {b:Bool}{a c:Addr}{vs us:Array Value}{Q:Value->Shared->Prop}(l1:HsB b s.heap a vs) (l2:HsB b s.heap c us)
  (q:∀h',IsZip h' (s.heap.objs.size+4) (s.heap.objs.size+2) (s.heap.objs.size+3) .none->IsPair h' (s.heap.objs.size+2) (.ref s.heap.objs.size) (.ref (s.heap.objs.size+1))->IsPair h' (s.heap.objs.size+3) .none .none →
   ItB b h' s.heap.objs.size a 0->ItB b h' (s.heap.objs.size+1) c 0->(∀d o,s.heap.get? d=some o->h'.get? d=some o)->Q (.ref (s.heap.objs.size+4)) { s with heap:=h' }):wpAny (model prog w) A (call (.type "zip") [.ref a,.ref c]) Q E s:=by
 cases b
 ·exact call_zip_2 l1 l2 λh' b1 b2 b3 b4 b5 b6 hk=>q h' b1 b2 b3 b4 b5 hk
 ·refine callType_new F.called_zip (by decide) (F.typeCall_zip_2 _ _) (F.newCall_zip_2 _ _) (λobj=>F.args_object_init_3 obj _ _) F.entry_zip_new (Zoq a c vs us) ⟨l1,l2,?_⟩
  have z1:(zt1 s.heap a).objs.size=s.heap.objs.size+1:=Wbm ..;have z2:(zt2 s.heap a c).objs.size=s.heap.objs.size+2:=by rw[Wbm,z1]
  have z3:(zt3 s.heap a c).objs.size=s.heap.objs.size+3:=by rw[Wbm,z2]
  have z4:(zt4 s.heap a c).objs.size=s.heap.objs.size+4:=by rw[Wbm,z3]
  have p5:(zt5 s.heap a c).get? (zt4 s.heap a c).objs.size=some _:=Wal _ rfl;have p4:(zt5 s.heap a c).get? (zt3 s.heap a c).objs.size=some _:=Wac _ (Wal _ rfl);have p3:(zt5 s.heap a c).get? (zt2 s.heap a c).objs.size=some _:=Wac _ (Wac _ (Wal _ rfl));have p2:(zt5 s.heap a c).get? (zt1 s.heap a).objs.size=some _:=Wac _ (Wac _ (Wac _ (Wal _ rfl)));have p1:(zt5 s.heap a c).get? s.heap.objs.size=some _:=Wac _ (Wac _ (Wac _ (Wac _ (Wal _ rfl))));show _/\_;rw[z2,z3,z4]at p5;rw[z1,z2]at p3;rw[z3]at p4;rw[z1]at p2;rw[z4];exact⟨⟨_,p5,rfl⟩,q _ p5 p3 p4 ⟨_,p1,rfl,rfl⟩ ⟨_,p2,rfl,rfl⟩ λd o e=>Wac _ (Wac _ (Wac _ (Wac _ (Wac _ e))))⟩
end
def Izb (b:Bool) (K:W.Frag) (l1 l2:Addr):It:=
 ⟨λi H=>∃xs ys x y,SqB b K H l1 xs/\SqB b K H l2 ys/\xs[i]?=some x/\ys[i]?=some y,
  λi H v H'=>∃p x y,H p=none/\v=.ref p/\H'=upd H p (.tup [x,y])/\∀xs ys,SqB b K H l1 xs->SqB b K H l2 ys->xs[i]?=some x/\ys[i]?=some y,
  λi H=>∃xs ys,SqB b K H l1 xs/\SqB b K H l2 ys/\(xs.length<=i\/ys.length<=i)⟩
theorem Zq3 {b:Bool}{P:Program}{w:World}{K:W.Frag}{es:List Expr}{kk:Nat}{tp:Pos}(l1 l2 z TI TO i1 i2:Addr) (D:ZipApart z TI TO i1 i2 l1 l2):Turn P w K (.Tuple es kk tp) (Izb b K l1 l2) [z,TI,TO,i1,i2] z
  (λi h=>IsZip h z TI TO .none/\IsPair h TI (.ref i1) (.ref i2)/\(∃a b,IsPair h TO a b)/\ItB b h i1 l1 i/\ItB b h i2 l2 i) where
 mem:=by simp
 obj:=λi h st b2 hb=>by
  obtain⟨hz,hTI,⟨a,b',hTO⟩,h1,h2⟩:=st;obtain⟨o1,e1,d1⟩:=h1.obj;obtain⟨o2,e2,d2⟩:=h2.obj;simp only[Wam,Wa5,or_false]at hb;rcases hb with rfl|rfl|rfl|rfl|rfl
  ·exact⟨_,hz,λv q=>by cases q⟩
  ·exact⟨_,hTI,λv q=>by cases q⟩
  ·exact⟨_,hTO,λv q=>by cases q⟩
  ·exact⟨o1,e1,λv q=>by rw[d1]at q;cases q⟩
  ·exact⟨o2,e2,λv q=>by rw[d2]at q;cases q⟩
 keep:=λi h h' st k=>by
  obtain⟨hz,hTI,⟨a,b',hTO⟩,h1,h2⟩:=st;exact⟨k z (by simp) _ hz,k TI (by simp) _ hTI,⟨a,b',k TO (by simp) _ hTO⟩,h1.at λo e=>k i1 (by simp) o e,h2.at λo e=>k i2 (by simp) o e⟩
 item:=by
  intro X hP hw hK hc i pins s σ H E I hf st hg;subst hP hw hK;obtain⟨hz,hTI,⟨a,b',hTO⟩,h1,h2⟩:=st;obtain⟨xs,ys,x,y,hq1,hq2,hx,hy⟩:=hg;obtain⟨its1,r1,p1⟩:=I.seqB hq1;obtain⟨its2,r2,p2⟩:=I.seqB hq2;obtain⟨u1,hu1,ru1⟩:=r1.get hx;obtain⟨u2,hu2,ru2⟩:=r2.get hy;refine Zpy D hz hTI hTO h1 h2 p1 p2 (x:=u1) (y:=u2) (by simpa using hu1) (by simpa using hu2) λh' b1 b2 b3 b4 b5 b6 hk=>?_;refine⟨_,rfl,wpAny_letOwnedTupleGo_zip (s:={ s with heap:=h' }) b1 λh'' hz'' hs''=>?_⟩;have lt:∀{c o},s.heap.get? c=some o->c≠s.heap.objs.size:=λe=>Way (Wao e);have hTz:s.heap.objs.size≠z:=Ne.symm (lt hz);have hTfree:H s.heap.objs.size=none:=I.hok.fresh (Wak _);have kept:∀c o,c ∉ [z,TI,TO,i1,i2]->s.heap.get? c=some o->h''.get? c=some o:=λc o hc e=>by
   simp only[Wam,Wa5,or_false,not_or]at hc;exact hs''.extBut _ _ hc.1 (hk c o hc.1 hc.2.2.1 hc.2.2.2.1 hc.2.2.2.2 e)
  have hT:h''.get? s.heap.objs.size=some { cls:=.type "tuple",data:=.seq #[u1,u2] }:=hs''.extBut _ _ hTz b5;have ntr:∀c o,H c=some o->c ∉ [z,TI,TO,i1,i2]:=λc o e hc=>by rw[(hf c hc).1]at e;cases e
  have hok:HOk X.prog X.w (upd H s.heap.objs.size (.tup [x,y])) h'':=λc o e=>by
   by_cases hcT:c=s.heap.objs.size
   ·subst hcT
    rw[Zan]at e;cases e;exact⟨by show 2<=sizeLine;decide,[u1,u2],.cons ru1 (.cons ru2 .nil),_,hT,⟨rfl,_,rfl⟩,rfl⟩
   ·rw[Zal hcT]at e
    refine(I.hok c o e).stay (λd v hd q=>kept d v ?_ q) (λd q=>by rw[Zal (Zao q hTfree)];exact q) λd zs q=>by rw[Zal (Zao q hTfree)];exact q
    rcases hd with hd|hd
    ·rw[hd];exact ntr c o e
    ·exact ntr d _ hd
  have I2:Inv X pins σ (upd H s.heap.objs.size (.tup [x,y])) { s with heap:=h'' }:=by
   refine I.call (g':=s.gens) (t':=s.toks) (d':=s.drawn) (ch:=[z,TI,TO,i1,i2]) ⟨λc o e n hc hx=>kept c o hx e,λc o e n hc hx=>⟨o.slots,kept c o hx e⟩,λc o e n hx=>by rw[Zal (lt e)];exact n,λc o e hx=>⟨o,kept c o hx e⟩,
    λc zs q=>by rw[Zal (Zao q hTfree)];exact q,λc o zs q=>by rw[Zal (Zao q hTfree)];exact q,λc zs q=>⟨#[],by rw[Zal (Zao q hTfree),q];simp⟩⟩ hok I.bare λc hcc=>?_
   obtain⟨f0,f1,f2,f3,f4,f5⟩:=hf c hcc;exact⟨f3,f1,f4,f5⟩
  refine⟨.ref s.heap.objs.size,_,I2,rfl,⟨s.heap.objs.size,x,y,hTfree,rfl,rfl,λxs' ys' q1 q2=>?_⟩,⟨hz'',hs''.extBut _ _ D.TIz (hk _ _ D.TIz D.TITO D.TIi1 D.TIi2 hTI),⟨_,_,hs''.extBut _ _ D.TOz b2⟩,b3.off hs''.extBut D.i1z,b4.off hs''.extBut D.i2z⟩,λc hcc=>?_⟩
  ·rw[I.seqB_inj q1 hq1,I.seqB_inj q2 hq2];exact⟨hx,hy⟩
  ·have hcl:c≠s.heap.objs.size:=by
    simp only[Wam,Wa5,or_false]at hcc;obtain⟨_,e1,_⟩:=h1.obj;obtain⟨_,e2,_⟩:=h2.obj;rcases hcc with rfl|rfl|rfl|rfl|rfl
    ·exact lt hz
    ·exact lt hTI
    ·exact lt hTO
    ·exact lt e1
    ·exact lt e2
   rw[Zal hcl];exact(hf c hcc).1
 done:=by
  intro X hP hw hK hc i pins s σ H E I hf st hg;subst hP hw hK;obtain⟨hz,hTI,⟨a,b',hTO⟩,h1,h2⟩:=st;obtain⟨xs,ys,hq1,hq2,hend⟩:=hg;obtain⟨its1,r1,p1⟩:=I.seqB hq1;obtain⟨its2,r2,p2⟩:=I.seqB hq2;have l1':=r1.length;have l2':=r2.length;refine Ztj (I.ok.hd hc) D hz hTI hTO h1 h2 p1 p2 ?_ λh' hk=>⟨rfl,?_⟩
  ·rcases hend with q|q
   ·left;simp;omega
   ·right;simp;omega
  ·have kept:∀c o,c ∉ [z,TI,TO,i1,i2]->s.heap.get? c=some o->h'.get? c=some o:=λc o hc e=>by
    simp only[Wam,Wa5,or_false,not_or]at hc;exact hk c o hc.1 hc.2.2.1 hc.2.2.2.1 hc.2.2.2.2 e
   have ntr:∀c o,H c=some o->c ∉ [z,TI,TO,i1,i2]:=λc o e hc=>by rw[(hf c hc).1]at e;cases e
   refine I.call (g':=s.gens) (t':=s.toks) (d':=s.drawn) (ch:=[z,TI,TO,i1,i2]) ⟨λc o e n hc hx=>kept c o hx e,λc o e n hc hx=>⟨o.slots,kept c o hx e⟩,λc o e n hx=>n,λc o e hx=>⟨o,kept c o hx e⟩,
    λc zs q=>q,λc o zs q=>q,λc zs q=>⟨#[],by rw[q];simp⟩⟩ (λc o e=>?_) I.bare λc hcc=>?_
   ·refine(I.hok c o e).stay (λd v hd q=>kept d v ?_ q) (λd q=>q) λd zs q=>q
    rcases hd with hd|hd
    ·rw[hd];exact ntr c o e
    ·exact ntr d _ hd
   ·obtain⟨f0,f1,f2,f3,f4,f5⟩:=hf c hcc
    exact⟨f3,f1,f4,f5⟩
 self:=λ_ _ _ _ _ st h=>wpAny_pyIter_zip st.1 h
section
variable {X:Cx}
def iZip (K:W.Frag) (ta:TA):TI:=λσ H R=>ta σ H λvs H1=>∃b l1 l2,vs=[.ref l1,.ref l2]/\(∃xs,SqB b K H1 l1 xs)/\(∃ys,SqB b K H1 l2 ys)/\R (Izb b K l1 l2) H1
theorem Zro (K:W.Frag) {es:List Expr}{kk:Nat}{tp:Pos}{a b:Expr}{ta:TA}{p pos:Pos}(hg:Gl X "zip") (hm:X.mg "zip" = none) (ha:PA X [a,b] ta) (hs:starEach [a,b] X.env=[(false,eval a X.env),(false,eval b X.env)]:=by rfl) (hs2:starEach [b] X.env=[(false,eval b X.env)]:=by rfl) (hK:X.K=K:=by rfl) :
  PI X (.Tuple es kk tp) (.Call (.Name "zip" p) [a,b] [] pos) (iZip K ta):=by
 subst hK;intro pins s σ H R I h;refine Call_ (Zf0 I hg hm (Ztc) (PyProof.Rows.callWith_type1 (thn (ha pos pins s σ H _ I h) λus s1 ⟨vs,H1,I1,r1,q1⟩=>?_) (by rw[hs,hs2]) (by rw[hs2];rfl)));obtain⟨b,l1,l2,e,⟨xs,hx⟩,⟨ys,hy⟩,q⟩:=q1;subst e;obtain⟨u1,u2,rfl,q1,q2⟩:=r1.two;cases (show u1=Value.ref l1 from q1);cases (show u2=Value.ref l2 from q2);obtain⟨its1,w1,p1⟩:=I1.seqB hx;obtain⟨its2,w2,p2⟩:=I1.seqB hy;have lt1:l1<s1.heap.objs.size:=p1.lt;have lt2:l2<s1.heap.objs.size:=p2.lt;refine Zq9 p1 p2 λh' b1 b2 b3 b4 b5 hk=>?_;refine wpAny_pyIter_zip b1 ?_;have I2:Inv X pins σ H1 { s1 with heap:=h' }:=I1.kept (t':=s1.toks) hk;refine⟨s1.heap.objs.size+4,[s1.heap.objs.size+4,s1.heap.objs.size+2,s1.heap.objs.size+3,s1.heap.objs.size,s1.heap.objs.size+1],_,_,H1,rfl,I2,Zq3 l1 l2 _ _ _ _ _ (zipApart_new lt1 lt2),⟨b1,b2,⟨_,_,b3⟩,b4,b5⟩,λb hb=>?_,q⟩;have hge:s1.heap.objs.size<=b:=by
  simp only[Wam,Wa5,or_false]at hb;rcases hb with rfl|rfl|rfl|rfl|rfl <;> omega
 exact I1.fpOk hge (I1.hok.fresh hge)
def rAll (K:W.Frag):List V->Hp->VK->Prop:=λxs H Q=>∃(p:Addr) (bs:List Bool),xs=[.ref p]/\SqL K H p (bs.map V.bl)/\Q (.bl (bs.all id)) H
theorem allK (K:W.Frag) (hc:X.calm=true) (hK:X.K=K:=by rfl):CallR X (.builtin "all") (rAll K):=by
 subst hK;intro pins s σ H xs us Q I r h;obtain⟨p,bs,rfl,hx,q⟩:=h;obtain⟨u,rfl,ru⟩:=vals1 r;cases (show u=Value.ref p from ru);obtain⟨its,w1,p1,_⟩:=I.list hx;have hlt:p<s.heap.objs.size:=by obtain⟨o,e,_⟩:=p1.isList;exact Wao e
 have hval:∀(bs:List Bool) (its:List Value),Vals (bs.map V.bl) its->its=bs.map Value.bool:=by
  intro bs
  induction bs with
  |nil=>intro its h;cases h;rfl
  |cons b r ih=>intro its h;cases h with|cons h1 h2=>cases (show _=Value.bool b from h1);rw[ih _ h2];rfl
 have e:=hval bs its w1;subst e;refine call_all_walk (wpAny_pyIter_list p1.isList ?_);refine⟨s.heap.objs.size,_,_,_,_,_,λi=>bs.getD i false,rfl,Walks.list (prog:=X.prog) (w:=X.w) (A:=X.A.in1) (show X.A.in1.handled=none from I.ok.hd hc) s.heap.objs.size p (Way hlt) (bs.map Value.bool).toArray,⟨⟨_,Wal _ rfl,rfl,rfl⟩,p1.isList.push _⟩,?_,λh' tk hk=>?_⟩
 ·intro i v s0 Q0 E0 hv hq
  have hv:(bs.map Value.bool).toArray[i]?=some v:=hv;have hv:(bs.map Value.bool)[i]?=some v:=by simpa using hv
  rw[Waj]at hv;cases z:bs[i]? with
  |none=>rw[z]at hv;cases hv
  |some b=>
   rw[z]at hv;have hv:Value.bool b=v:=by simpa using hv
   subst hv;have e0:bs.getD i false=b:=by rw[Wa2,z];rfl
   have hq:Q0 (bs.getD i false) s0:=hq;rw[e0]at hq;exact wpAny_truthy_bool hq
 ·have e:(Wbx (bs.map Value.bool).toArray.size).all (λi=>bs.getD i false)=bs.all id:=by
   rw[Waf,Waa];rw[Wch,Wba,Wba];constructor
   ·intro hh b hb
    obtain⟨i,hi,rfl⟩:=Wc2.mp hb;have:=hh i (Wb9.mpr hi);rw[Wa2,Wab hi]at this;exact this
   ·intro hh i hi
    rw[Wb9]at hi;rw[Wa2,Wab hi];exact hh _ (Wbc hi)
  rw[e];have I0:Inv X pins σ H { s with heap:=s.heap.push { cls:=.type "list_iterator",data:=.fields #[.ref p,.int 0 0] },toks:=s.toks }:=I.kept λb o e=>Wac _ e;refine⟨.bl (bs.all id),H,I0.turned (it:=s.heap.objs.size) (λb o hb e=>hk b o (by simpa using hb) e) (I.hok.fresh (Wak _)) (Wcc I.lt) (.inr I.sz) ?_ ?_,rfl,q⟩
  ·have:=I.fpOk (b:=s.heap.objs.size) (H':=H) (Wak _) (I.hok.fresh (Wak _))
   exact this.2.2.2.2.1
  ·have:=I.fpOk (b:=s.heap.objs.size) (H':=H) (Wak _) (I.hok.fresh (Wak _))
   exact this.2.2.2.2.2
def rIsiU (K:W.Frag):List V->Hp->VK->Prop:=λxs H Q=>rIsi K xs H Q\/∃(x:V) (p:Addr) (ns:List String) (T:String) (b:Bool),xs=[x,.ref p]/\H p=some (.tup (ns.map V.ty))/\TyOf K H x (.type T)/\PySem.W.kitAny K (.type T) (ns.map Value.type)=some b/\Q (.bl b) H
theorem Zkh {pins:List (Addr × Obj)}{σ:St}{H:Hp}{s:Shared}{x:V}{u t:Value}(I:Inv X pins σ H s) (rx:RelV x u) (ty:TyOf X.K H x t) (nt:∃T,t=.type T):∃Hh:Heap->Prop,PySem.W.KitX X.K u t Hh/\Hh s.heap/\u≠.builtin "__main__.__loader__#opaque":=by
 cases ty with
 |non=>cases (show u=Value.none from rx);exact⟨_,PySem.W.kitx_none,True.intro,λz=>nomatch z⟩
 |bl y=>cases (show u=Value.bool y from rx);exact⟨_,PySem.W.kitx_bool,True.intro,λz=>nomatch z⟩
 |int i=>obtain⟨t,q⟩:=(show ∃t,u=Value.int i t from rx);cases q;exact⟨_,PySem.W.kitx_int,True.intro,λz=>nomatch z⟩
 |str y=>obtain⟨t,q⟩:=(show ∃t,u=Value.str y t from rx);cases q;exact⟨_,PySem.W.kitx_str,True.intro,λz=>nomatch z⟩
 |flt y=>obtain⟨t,q⟩:=(show ∃t,u=Value.float y t from rx);cases q;exact⟨_,PySem.W.kitx_float,True.intro,λz=>nomatch z⟩
 |@lst a xs ea=>
  cases (show u=Value.ref a from rx);obtain⟨_,_,n,_,h1⟩:=(show ObjOk X.prog X.w H s.heap a (.lst xs) from I.hok a _ ea);exact⟨_,PySem.W.kitx_list,⟨_,h1,rfl⟩,λz=>nomatch z⟩
 |@frz a ob xs ea=>
  cases (show u=Value.ref a from rx);obtain⟨_,_,_,n,_,h1⟩:=(show ObjOk X.prog X.w H s.heap a (.frz ob (.lst xs)) from I.hok a _ ea);exact⟨_,PySem.W.kitx_list,⟨_,h1,rfl⟩,λz=>nomatch z⟩
 |@tup a xs ea=>
  cases (show u=Value.ref a from rx);obtain⟨_,_,_,p⟩:=(show ObjOk X.prog X.w H s.heap a (.tup xs) from I.hok a _ ea);obtain⟨o,h1,⟨h2,_⟩,_⟩:=p;exact⟨_,PySem.W.kitx_tuple,⟨o,h1,h2⟩,λz=>nomatch z⟩
 |@dK a kvs ea=>
  cases (show u=Value.ref a from rx);obtain⟨_,_,vs,_,p⟩:=(show ObjOk X.prog X.w H s.heap a (.dK kvs) from I.hok a _ ea);obtain⟨o,es,ep,h1,h2,_⟩:=p;exact⟨_,PySem.W.kitx_dict,⟨o,h1,h2.1⟩,λz=>nomatch z⟩
 |@dT a kvs ea=>
  cases (show u=Value.ref a from rx);obtain⟨_,_,xs,_,o,es,ep,h1,h2,_⟩:=(show ObjOk X.prog X.w H s.heap a (.dT kvs) from I.hok a _ ea);exact⟨_,PySem.W.kitx_dict,⟨o,h1,h2.1⟩,λz=>nomatch z⟩
 |@ins a C dx fs ea cl ha hn htk hm=>obtain⟨T,e⟩:=nt;cases e
theorem isiUK (K:W.Frag) (hK:X.K=K:=by rfl):CallR X (.builtin "isinstance") (rIsiU K):=by
 subst hK;refine CallR.or Zie ?_;intro pins s σ H xs us Q I r h;obtain⟨x,p,ns,T,b,rfl,hp,ty,e,q⟩:=h;obtain⟨u,u',rfl,rx,rn⟩:=vals2 r;cases (show u'=Value.ref p from rn);obtain⟨Hh,Z,hz,hne⟩:=Zkh I rx ty ⟨T,rfl⟩;obtain⟨_,its,rv,o,ho,⟨hc,n,hd⟩,hdd⟩:=I.hok p _ hp;have hv:∀(ns:List String) (its:List Value),Vals (ns.map V.ty) its->its=ns.map Value.type:=by
  intro ns
  induction ns with
  |nil=>intro its h;cases h;rfl
  |cons b r ih=>intro its h;cases h with|cons h1 h2=>cases (show _=Value.type b from h1);rw[ih _ h2];rfl
 have e2:=hv ns its rv;subst e2;obtain⟨cls,dd,data,sl⟩:=o;simp only at hc hd hdd;subst hc hd hdd;exact PySem.W.kia_tup Z I.kIn hz ho e hne λtk=>⟨.bl b,H,I.tok _,rfl,q⟩
end
section
variable {K:W.Frag}{Δ:Evt}
theorem Zje {b:Bool}{G:Hp}{l1 l2:Addr}{xs ys:List V}{ds es:List D}(h1:∀G1 H1,Same G G1->Same G1 H1->SqB b K H1 l1 xs) (h2:∀G1 H1,Same G G1->Same G1 H1->SqB b K H1 l2 ys) (r1:Reps K G xs ds) (r2:Reps K G ys es) (hl:ds.length=es.length) :
  ItOk K G (Izb b K l1 l2) ((ds.zip es).map λp=>D.tup [p.1,p.2]):=λG1 H1 sg sh=>by
 have hl1:=r1.length;have hl2:=r2.length;have e1:=h1 G1 H1 sg sh;have e2:=h2 G1 H1 sg sh;refine⟨⟨xs,ys,e1,e2,.inl (by rw[Waa,Wcf];omega)⟩,λi d hd=>?_⟩;rw[Waj]at hd;cases q:(ds.zip es)[i]? with
 |none=>rw[q]at hd;cases hd
 |some pr=>
  rw[q]at hd;have hd:D.tup [pr.1,pr.2]=d:=by simpa using hd
  subst hd;rw[Wbg]at q;obtain⟨u,hu,ru⟩:=r1.get q.1;obtain⟨v,hv,rv⟩:=r2.get q.2;refine⟨⟨xs,ys,u,v,e1,e2,hu,hv⟩,λx H2 ⟨p,a,b',hp,ex,eH,hab⟩=>?_⟩;obtain⟨ha,hb⟩:=hab xs ys e1 e2;rw[hu]at ha;rw[hv]at hb;cases ha;cases hb;subst ex;subst eH;have hG:G1 p=none:=by
   cases z:G1 p with
   |none=>rfl
   |some o=>rw[sh _ _ z]at hp;cases hp
  refine⟨upd G1 p (.tup [u,v]),λc o e=>by rw[Zal (Zao e hG)];exact e,λc o e=>by rw[Zal (Zao e hp)];exact e,λc o e=>?_,?_⟩
  ·by_cases hc:c=p
   ·subst hc;rw[Zan]at e ⊢;exact⟨e,.inr hp⟩
   ·rw[Zal hc]at e ⊢;exact⟨sh c o e,.inl e⟩
  ·have sg2:Same G1 (upd G1 p (.tup [u,v])):=λc o e=>by rw[Zal (Zao e hG)];exact e
   exact .tup Zan (.cons ((ru.mono sg).mono sg2) (.cons ((rv.mono sg).mono sg2) .nil))
theorem Zs5 {ta:TA}{P:List D->Evt->Prop}(h:JA K ta Δ λds Δ1=>∃as bs,ds=[.lst as,.lst bs]/\as.length=bs.length/\P ((as.zip bs).map λp=>D.tup [p.1,p.2]) Δ1):JI K (iZip K ta) Δ P:=λg G H σ R k c=>
 h g G H σ _ k λvs ds G1 H1 Δ1 k1 s1 r1 hq_=>by
  obtain⟨as,bs,e,hl,p1⟩:=hq_;subst e;obtain⟨_,_,rfl,ra,rr⟩:=r1.inv
  next=>
   obtain⟨_,_,rfl,rb,rr⟩:=rr.inv
   next=>
    cases rr.inv;obtain⟨_,_,rfl,ha,rsa⟩:=ra.inv
    next=>
     obtain⟨_,_,rfl,hb,rsb⟩:=rb.inv
     next=>
      exact⟨false,_,_,rfl,⟨_,SqL.of (k1.live _ _ ha)⟩,⟨_,SqL.of (k1.live _ _ hb)⟩,c _ _ G1 H1 Δ1 k1 s1 (Zje (λ_ _ sg sh=>SqL.of (sh _ _ (sg _ _ ha))) (λ_ _ sg sh=>SqL.of (sh _ _ (sg _ _ hb))) rsa rsb hl) p1⟩
theorem Zqp {ta:TA}{P:List D->Evt->Prop}(h:JA K ta Δ λds Δ1=>∃as bs,ds=[.tup as,.tup bs]/\as.length=bs.length/\P ((as.zip bs).map λp=>D.tup [p.1,p.2]) Δ1):JI K (iZip K ta) Δ P:=λg G H σ R k c=>
 h g G H σ _ k λvs ds G1 H1 Δ1 k1 s1 r1 hq_=>by
  obtain⟨as,bs,e,hl,p1⟩:=hq_;subst e;obtain⟨_,_,rfl,ra,rr⟩:=r1.inv
  next=>
   obtain⟨_,_,rfl,rb,rr⟩:=rr.inv
   next=>
    cases rr.inv;obtain⟨_,_,rfl,ha,rsa⟩:=ra.inv
    next=>
     obtain⟨_,_,rfl,hb,rsb⟩:=rb.inv
     next=>
      exact⟨true,_,_,rfl,⟨_,SqT.of (k1.live _ _ ha)⟩,⟨_,SqT.of (k1.live _ _ hb)⟩,c _ _ G1 H1 Δ1 k1 s1 (Zje (λ_ _ sg sh=>SqT.of (sh _ _ (sg _ _ ha))) (λ_ _ sg sh=>SqT.of (sh _ _ (sg _ _ hb))) rsa rsb hl) p1⟩
theorem Zjg {bs:List Bool}{P:D->Evt->Prop}(p:P (.bl (bs.all id)) Δ):JC K (rAll K) [.lst (bs.map D.bl)] Δ P:=λg G H σ Q vs k rs c=>by
 obtain⟨_,_,rfl,r,t⟩:=rs.inv
 next=>
  cases t.inv;obtain⟨a,ws,rfl,ha,rs⟩:=r.inv
  next=>
   have e:∀(bs:List Bool) (ws:List V),Reps K G ws (bs.map D.bl)->ws=bs.map V.bl:=by
    intro bs
    induction bs with
    |nil=>intro ws h;cases h;rfl
    |cons b r ih=>intro ws h;cases h with|cons h1 h2=>cases h1;rw[ih _ h2];rfl
   have:=e bs ws rs;subst this;exact⟨_,bs,rfl,SqL.of (k.live _ _ ha),c _ _ G H Δ k (Same.refl _) (.bl _) p⟩
theorem Zbc {d:D}{n T:String}{b:Bool}{P:D->Evt->Prop}(ht:tyD d=some T) (e:∀K,PySem.W.kitOne K (.type T) (.type n)=some b) (p:P (.bl b) Δ):JC K (rIsiU K) [d,.ty n] Δ P:=λg G H σ Q vs k rs c=>.inl (Zrd ht e p g G H σ Q vs k rs c)
theorem Zet {d:D}{ns:List String}{T:String}{b:Bool}{P:D->Evt->Prop}(ht:tyD d=some T) (e:∀K,PySem.W.kitAny K (.type T) (ns.map Value.type)=some b) (p:P (.bl b) Δ):JC K (rIsiU K) [d,.tup (ns.map D.ty)] Δ P:=λg G H σ Q vs k rs c=>by
 obtain⟨_,_,rfl,r,t⟩:=rs.inv
 next=>
  obtain⟨_,_,rfl,r',t⟩:=t.inv
  next=>
   cases t.inv;obtain⟨a,ws,rfl,ha,rs⟩:=r'.inv
   next=>
    have e1:∀(ns:List String) (ws:List V),Reps K G ws (ns.map D.ty)->ws=ns.map V.ty:=by
     intro ns
     induction ns with
     |nil=>intro ws h;cases h;rfl
     |cons b r ih=>intro ws h;cases h with|cons h1 h2=>cases h1;rw[ih _ h2];rfl
    have:=e1 ns ws rs;subst this;refine .inr ⟨_,a,ns,T,b,rfl,k.live _ _ ha,?_,e K,c _ _ G H Δ k (Same.refl _) (.bl b) p⟩;cases r with
    |non=>cases ht;exact .non
    |bl b=>cases ht;exact .bl b
    |int i=>cases ht;exact .int i
    |str x=>cases ht;exact .str x
    |ty n=>cases ht
    |scr ha rs=>cases ht
    |adr a=>cases ht
    |dct ha hl rs=>cases ht;exact .dK (k.live _ _ ha)
    |exc ha=>cases ht
    |lst ha rs=>cases ht;exact .lst (k.live _ _ ha)
    |tup ha rs=>cases ht;exact .tup (k.live _ _ ha)
end
section
variable {prog:Program}{w:World}{A:Around}{E:Value->Shared->Prop}{s:Shared}
theorem Zpk {b:Bool}{e j a:Addr}{i:Nat}{ws:Array Value}{x old:Value}{Q:Option Value->Shared->Prop}(ge:IsEnum s.heap e j i old) (g:ItB b s.heap j a i) (l:HsB b s.heap a ws) (ex:ws[i]?=some x) (ne:e≠j)
  (q:∀h',IsEnumOut h' e j ((i:Int)+1) x s.heap.objs.size->ItB b h' j a (i+1)->h'.get? s.heap.objs.size=some { cls:=.type "tuple",data:=.seq #[.int i s.toks,x] } →
   (∀c o,c≠e->c≠j->s.heap.get? c=some o->h'.get? c=some o)->Q (some (.ref s.heap.objs.size)) { s with heap:=h',toks:=s.toks+1 }):wpAny (model prog w) A (pyNext (.ref e)) Q E s:=by
 cases b
 ·exact wpAny_pyNext_enum_item ge g l ex ne λh' b1 b2 b3 _ b4=>q h' b1 b2 b3 b4
 obtain⟨hp,g0,d,tk,os⟩:=s;have ty:Shared.TypeIs ⟨hp,g0,d,tk,os⟩ (.ref e) "enumerate":=⟨_,ge,rfl⟩;unfold pyNext;refine wpAny_bind (wpAny_attempt (wpAny_callSpecial?_slot (name:=Str.ofString "__next__") ty F.slot_enumerate_next (wpAny_call_entry F.slot_enumerate_next ty F.entry_enumerate_next ?_ (F.args_enumerate_next_1 _))));refine(show wpAny _ _ (field (.ref e) 2 >>= _) _ _ _ from wpAny_bind (wpAny_field ge rfl (x:=.ref j) rfl (wpAny_bind (Zf7 (b:=true) g l ex λh₁ g₁ s₁=>?_))))
 replace s₁:Heap.SameBut j hp h₁:=s₁
 have e₁:IsEnum h₁ e j i old:=(s₁.2 e ne).trans ge;refine(show wpAny _ _ (field (.ref e) 3 >>= _) _ _ ⟨h₁,g0,d,tk,os⟩ from wpAny_bind (wpAny_field e₁ rfl (x:=rawInt i) rfl ?_));refine(show wpAny _ _ (field (.ref e) 4 >>= _) _ _ ⟨h₁,g0,d,tk,os⟩ from wpAny_bind (wpAny_field e₁ rfl (x:=.none) rfl ?_));refine(show wpAny _ _ (mkInt i >>= _) _ _ ⟨h₁,g0,d,tk,os⟩ from wpAny_bind (wpAny_mkInt ?_));refine(show wpAny _ _ (setField (.ref e) 3 (rawInt ((i:Int)+1)) >>= _) _ _ ⟨h₁,g0,d,tk+1,os⟩ from wpAny_bind (wpAny_setField_rec e₁ (by simp) λh₂ e₂ s₂=>?_))
 replace s₂:Heap.SameBut e h₁ h₂:=s₂
 replace e₂:IsEnum h₂ e j ((i:Int)+1) old:=e₂
 refine(show wpAny _ _ (setField (.ref e) 4 .none >>= _) _ _ ⟨h₂,g0,d,tk+1,os⟩ from wpAny_bind (wpAny_setField_rec e₂ (by simp) λh₃ e₃ s₃=>?_))
 replace s₃:Heap.SameBut e h₂ h₃:=s₃
 replace e₃:IsEnum h₃ e j ((i:Int)+1) old:=e₃
 refine(show wpAny _ _ (newTuple [.int i tk,x] >>= _) _ _ ⟨h₃,g0,d,tk+1,os⟩ from wpAny_bind (wpAny_newTuple ?_));have e₄:IsEnum (h₃.push { cls:=.type "tuple",data:=.seq #[.int i tk,x] }) e j ((i:Int)+1) old:=Wac _ e₃;generalize eh₄:h₃.push { cls:=.type "tuple",data:=.seq #[.int i tk,x] } = h₄ at e₄;have n3:h₃.objs.size=hp.objs.size:=by rw[s₃.1,s₂.1,s₁.1]
 have el:e<hp.objs.size:=Wao ge;have t₄:h₄.get? hp.objs.size=some { cls:=.type "tuple",data:=.seq #[.int i tk,x] }:=by rw[<- eh₄,<- n3];exact Wal _ rfl
 have k₄:∀c o,c≠e->c≠j->hp.get? c=some o->h₄.get? c=some o:=λc o c1 c2 z=>by rw[<- eh₄];exact Wac _ (s₃.extBut c o c1 (s₂.extBut c o c1 (s₁.extBut c o c2 z)))
 have g₄:ItB true h₄ j a (i+1):=by rw[<- eh₄];exact((g₁.off s₂.extBut (Ne.symm ne)).off s₃.extBut (Ne.symm ne)).at λo z=>Wac _ z
 refine(show wpAny _ _ (Builtin.SmallTypes.ownedTupleIsFree (.ref e) >>= _) _ _ ⟨h₄,g0,d,tk+1,os⟩ from ?_);rw[n3];clear eh₄ e₃ s₃ e₂ s₂ e₁ s₁ g₁ n3 h₃ h₂ h₁;refine wpAny_bind ?_;unfold Builtin.SmallTypes.ownedTupleIsFree;refine wpAny_bind (wpAny_field e₄ rfl (x:=.none) rfl (wpAny_pure ?_));simp only[if_true];refine wpAny_bind (wpAny_rule (wpAny_bind (wpAny_field e₄ rfl (x:=old) rfl (wpAny_bind (wpAny_setField_rec e₄ (by simp) λh₅ e₅ s₅=>?_)))))
 replace s₅:Heap.SameBut e h₄ h₅:=s₅
 replace e₅:IsEnum h₅ e j ((i:Int)+1) x:=e₅
 refine(show wpAny _ _ (Builtin.SmallTypes.ownedTupleHandOut (.ref e) (.ref hp.objs.size) >>= _) _ _ ⟨h₅,g0,d,tk+1,os⟩ from wpAny_bind ?_);unfold Builtin.SmallTypes.ownedTupleHandOut;refine wpAny_bind (wpAny_setField_rec e₅ (by simp) λh₆ e₆ s₆=>?_)
 replace s₆:Heap.SameBut e h₅ h₆:=s₆
 replace e₆:IsEnumOut h₆ e j ((i:Int)+1) x hp.objs.size:=e₆
 refine wpAny_setField_rec e₆ (by simp) λh₇ e₇ s₇=>?_
 replace s₇:Heap.SameBut e h₆ h₇:=s₇
 replace e₇:IsEnumOut h₇ e j ((i:Int)+1) x hp.objs.size:=e₇
 have up:∀c o,c≠e->h₄.get? c=some o->h₇.get? c=some o:=λc o c1 z=>s₇.extBut c o c1 (s₆.extBut c o c1 (s₅.extBut c o c1 z));exact wpAny_bind (wpAny_letGo (wpAny_pure ⟨_,rfl,wpAny_pure (q h₇ e₇ (g₄.at λo z=>up j o (Ne.symm ne) z) (up _ _ (Wcc el) t₄) λc o c1 c2 z=>up c o c1 (k₄ c o c1 c2 z))⟩))
theorem Zrp {b:Bool}{e j a:Addr}{i:Nat}{ws:Array Value}{old:Value}{Q:Option Value->Shared->Prop}(hh:A.handled=none) (ge:IsEnum s.heap e j i old) (g:ItB b s.heap j a i) (l:HsB b s.heap a ws) (ex:ws[i]?=none)
  (q:∀h',Heap.ExtBut j s.heap h' -> Q none { s with heap:=h' }):wpAny (model prog w) A (pyNext (.ref e)) Q E s:=by
 have ty:s.TypeIs (.ref e) "enumerate":=⟨_,ge,rfl⟩;unfold pyNext;refine wpAny_bind (wpAny_attempt (wpAny_callSpecial?_slot (name:=Str.ofString "__next__") ty F.slot_enumerate_next (wpAny_call_entry F.slot_enumerate_next ty F.entry_enumerate_next ?_ (F.args_enumerate_next_1 _))));refine(show wpAny _ _ (field (.ref e) 2 >>= _) _ _ _ from wpAny_bind (wpAny_field ge rfl (x:=.ref j) rfl (wpAny_bind (Zmp hh g l ex λh' x e' ⟨o,ho,hc⟩=>?_))));exact wpAny_bind (wpAny_isInstance (T:="StopIteration") (b:=true) ⟨o,ho,hc⟩ isSubtype_stop (wpAny_pure (q _ e')))
theorem Znr (a:Addr) (ws:Array Value) (n:Nat) (dct:Option Addr) (sl:Array (Option Value)) :
  Meets (Builtin.«enumerate.__new__» ⟨[.type "enumerate",.ref a],[]⟩) (λ_ R s=>s.heap.get? a=some ⟨.type "tuple",dct,.seq ws n,sl⟩ ∧
   R (.ok (.ret (.ref (zt1 s.heap a).objs.size))) { s with heap:=(zt1 s.heap a).push ⟨.type "enumerate",none,.fields #[.none,.bool false,.ref s.heap.objs.size,rawInt 0,.none,.none],#[]⟩ }):=.of_wp λprog w A R s h=>by
 obtain⟨hp,g,d,tk,os⟩:=s;obtain⟨l,h⟩:=h;have sub0:=sub_enumerate;have t0:Heap.IsTuple (Shared.heap ⟨hp,g,d,tk,os⟩) a ws:=⟨_,l,rfl,n,rfl⟩
 wp_walk using AutoSeq1.wpAny_loadPart' l
 refine wpAny_stack_any λst=>wpAny_pure ?_;split
 ·rename_i c _ _ _ _ _
  cases (c == Value.type "enumerate") <;> (wp_walk using AutoSeq1.wpAny_loadPart' l,wpAny_pyIter_tuple t0;exact⟨_,rfl,h⟩)
 ·wp_walk using AutoSeq1.wpAny_loadPart' l,wpAny_pyIter_tuple t0
  exact⟨_,rfl,h⟩
theorem Zp9 {b:Bool}{a:Addr}{ws:Array Value}{Q:Value->Shared->Prop}(l:HsB b s.heap a ws)
  (q:∀h',IsEnum h' (s.heap.objs.size+1) s.heap.objs.size 0 .none->ItB b h' s.heap.objs.size a 0->(∀c o,s.heap.get? c=some o->h'.get? c=some o)->Q (.ref (s.heap.objs.size+1)) { s with heap:=h' }):wpAny (model prog w) A (call (.type "enumerate") [.ref a]) Q E s:=by
 cases b
 ·exact call_enumerate_list l λh' b1 b2 _ b3=>q h' b1 b2 b3
 ·obtain⟨⟨oc,od,oda,os⟩,l1,hc,n,hd⟩:=l
  dsimp only at hc hd;subst hc hd;refine callType_new F.called_enumerate (by decide) (F.typeCall_enumerate_1 _) (F.newCall_enumerate_1 _) (λobj=>F.args_object_init_2 obj _) F.entry_enumerate_new (Znr a ws n od os) ⟨l1,?_⟩;have z1:(zt1 s.heap a).objs.size=s.heap.objs.size+1:=Wbm ..;show _/\_;rw[z1];have he:IsEnum ((zt1 s.heap a).push ⟨.type "enumerate",none,.fields #[.none,.bool false,.ref s.heap.objs.size,rawInt 0,.none,.none],#[]⟩) (s.heap.objs.size+1) s.heap.objs.size 0 .none:=by
   rw[<- z1];exact Wal _ rfl
  exact⟨⟨_,he,rfl⟩,q _ he ⟨_,Wac _ (Wal _ rfl),rfl,rfl⟩ λc o z=>Wac _ (Wac _ z)⟩
end
def Ieb (b:Bool) (K:W.Frag) (l:Addr):It:=
 ⟨λi H=>∃xs x,SqB b K H l xs/\xs[i]?=some x,
  λi H v H'=>∃p x,H p=none/\v=.ref p/\H'=upd H p (.tup [.int (i:Int),x])/\∀xs,SqB b K H l xs->xs[i]?=some x,
  λi H=>∃xs,SqB b K H l xs/\xs.length<=i⟩
theorem Zqo {b:Bool}{P:Program}{w:World}{K:W.Frag}{es:List Expr}{kk:Nat}{tp:Pos}(l z j:Addr) (D:z≠j):Turn P w K (.Tuple es kk tp) (Ieb b K l) [z,j] z
  (λi h=>(∃old,IsEnum h z j i old)/\ItB b h j l i) where
 mem:=by simp
 obj:=λi h st b2 hb=>by
  obtain⟨⟨old,hz⟩,h1⟩:=st;obtain⟨o1,e1,d1⟩:=h1.obj;simp only[Wam,Wa5,or_false]at hb;rcases hb with rfl|rfl
  ·exact⟨_,hz,λv q=>by cases q⟩
  ·exact⟨o1,e1,λv q=>by rw[d1]at q;cases q⟩
 keep:=λi h h' st k=>by
  obtain⟨⟨old,hz⟩,h1⟩:=st;exact⟨⟨old,k z (by simp) _ hz⟩,h1.at λo e=>k j (by simp) o e⟩
 item:=by
  intro X hP hw hK hc i pins s σ H E I hf st hg;subst hP hw hK;obtain⟨⟨old,hz⟩,h1⟩:=st;obtain⟨xs,x,hq1,hx⟩:=hg;obtain⟨its1,r1,p1⟩:=I.seqB hq1;obtain⟨u1,hu1,ru1⟩:=r1.get hx;refine Zpk hz h1 p1 (x:=u1) (by simpa using hu1) D λh' b1 b2 b3 hk=>?_;refine⟨_,rfl,wpAny_letOwnedTupleGo_enum (s:={ s with heap:=h',toks:=s.toks+1 }) b1 λh'' hz'' hs''=>?_⟩;have lt:∀{c o},s.heap.get? c=some o->c≠s.heap.objs.size:=λe=>Way (Wao e);have hTz:s.heap.objs.size≠z:=Ne.symm (lt hz);have hTfree:H s.heap.objs.size=none:=I.hok.fresh (Wak _);have kept:∀c o,c ∉ [z,j]->s.heap.get? c=some o->h''.get? c=some o:=λc o hc e=>by
   simp only[Wam,Wa5,or_false,not_or]at hc;exact hs''.extBut _ _ hc.1 (hk c o hc.1 hc.2 e)
  have hT:h''.get? s.heap.objs.size=some { cls:=.type "tuple",data:=.seq #[.int i s.toks,u1] }:=hs''.extBut _ _ hTz b3;have ntr:∀c o,H c=some o->c ∉ [z,j]:=λc o e hc=>by rw[(hf c hc).1]at e;cases e
  have hok:HOk X.prog X.w (upd H s.heap.objs.size (.tup [.int (i:Int),x])) h'':=λc o e=>by
   by_cases hcT:c=s.heap.objs.size
   ·subst hcT
    rw[Zan]at e;cases e;exact⟨by show 2<=sizeLine;decide,[.int i s.toks,u1],.cons ⟨_,rfl⟩ (.cons ru1 .nil),_,hT,⟨rfl,_,rfl⟩,rfl⟩
   ·rw[Zal hcT]at e
    refine(I.hok c o e).stay (λd v hd q=>kept d v ?_ q) (λd q=>by rw[Zal (Zao q hTfree)];exact q) λd zs q=>by rw[Zal (Zao q hTfree)];exact q
    rcases hd with hd|hd
    ·rw[hd];exact ntr c o e
    ·exact ntr d _ hd
  have I2:Inv X pins σ (upd H s.heap.objs.size (.tup [.int (i:Int),x])) { s with heap:=h'',toks:=s.toks+1 }:=by
   refine I.call (g':=s.gens) (t':=s.toks+1) (d':=s.drawn) (ch:=[z,j]) ⟨λc o e n hc hx=>kept c o hx e,λc o e n hc hx=>⟨o.slots,kept c o hx e⟩,λc o e n hx=>by rw[Zal (lt e)];exact n,λc o e hx=>⟨o,kept c o hx e⟩,
    λc zs q=>by rw[Zal (Zao q hTfree)];exact q,λc o zs q=>by rw[Zal (Zao q hTfree)];exact q,λc zs q=>⟨#[],by rw[Zal (Zao q hTfree),q];simp⟩⟩ hok I.bare λc hcc=>?_
   obtain⟨f0,f1,f2,f3,f4,f5⟩:=hf c hcc;exact⟨f3,f1,f4,f5⟩
  refine⟨.ref s.heap.objs.size,_,I2,rfl,⟨s.heap.objs.size,x,hTfree,rfl,rfl,λxs' q1=>?_⟩,⟨⟨_,by have:=hz'';push_cast at this ⊢;exact this⟩,b2.off hs''.extBut (Ne.symm D)⟩,λc hcc=>?_⟩
  ·rw[I.seqB_inj q1 hq1];exact hx
  ·have hcl:c≠s.heap.objs.size:=by
    simp only[Wam,Wa5,or_false]at hcc;obtain⟨_,e1,_⟩:=h1.obj;rcases hcc with rfl|rfl
    ·exact lt hz
    ·exact lt e1
   rw[Zal hcl];exact(hf c hcc).1
 done:=by
  intro X hP hw hK hc i pins s σ H E I hf st hg;subst hP hw hK;obtain⟨⟨old,hz⟩,h1⟩:=st;obtain⟨xs,hq1,hend⟩:=hg;obtain⟨its1,r1,p1⟩:=I.seqB hq1;have l1':=r1.length;refine Zrp (I.ok.hd hc) hz h1 p1 (by simp;omega) λh' hk=>⟨rfl,?_⟩;have kept:∀c o,c ∉ [z,j]->s.heap.get? c=some o->h'.get? c=some o:=λc o hc e=>by
   simp only[Wam,Wa5,or_false,not_or]at hc;exact hk c o hc.2 e
  have ntr:∀c o,H c=some o->c ∉ [z,j]:=λc o e hc=>by rw[(hf c hc).1]at e;cases e
  refine I.call (g':=s.gens) (t':=s.toks) (d':=s.drawn) (ch:=[z,j]) ⟨λc o e n hc hx=>kept c o hx e,λc o e n hc hx=>⟨o.slots,kept c o hx e⟩,λc o e n hx=>n,λc o e hx=>⟨o,kept c o hx e⟩,
   λc zs q=>q,λc o zs q=>q,λc zs q=>⟨#[],by rw[q];simp⟩⟩ (λc o e=>?_) I.bare λc hcc=>?_
  ·refine(I.hok c o e).stay (λd v hd q=>kept d v ?_ q) (λd q=>q) λd zs q=>q
   rcases hd with hd|hd
   ·rw[hd];exact ntr c o e
   ·exact ntr d _ hd
  ·obtain⟨f0,f1,f2,f3,f4,f5⟩:=hf c hcc
   exact⟨f3,f1,f4,f5⟩
 self:=λ_ _ _ _ _ st h=>by
  obtain⟨⟨old,hz⟩,_⟩:=st;exact wpAny_pyIter_enum hz h
theorem Zho:bootBuiltins "enumerate" = some (.type "enumerate"):=by kernel_rfl
section
variable {X:Cx}
def iEnum (K:W.Frag) (ta:TA):TI:=λσ H R=>ta σ H λvs H1=>∃b l,vs=[.ref l]/\(∃xs,SqB b K H1 l xs)/\R (Ieb b K l) H1
theorem Zdi (K:W.Frag) {es:List Expr}{kk:Nat}{tp:Pos}{a:Expr}{ta:TA}{p pos:Pos}(hg:Gl X "enumerate") (hm:X.mg "enumerate" = none) (ha:PA X [a] ta) (hs:starEach [a] X.env=[(false,eval a X.env)]:=by rfl) (hs2:starEach [] X.env=[]:=by rfl) (hK:X.K=K:=by rfl) :
  PI X (.Tuple es kk tp) (.Call (.Name "enumerate" p) [a] [] pos) (iEnum K ta):=by
 subst hK;intro pins s σ H R I h;refine Call_ (Zf0 I hg hm (Zho) (PyProof.Rows.callWith_type1 (thn (ha pos pins s σ H _ I h) λus s1 ⟨vs,H1,I1,r1,q1⟩=>?_) (by rw[hs,hs2]) (by rw[hs2];rfl)));obtain⟨b,l1,e,⟨xs,hx⟩,q⟩:=q1;subst e;obtain⟨u1,rfl,q1⟩:=vals1 r1;cases (show u1=Value.ref l1 from q1);obtain⟨its1,w1,p1⟩:=I1.seqB hx;refine Zp9 p1 λh' b1 b2 hk=>?_;refine wpAny_pyIter_enum b1 ?_;have I2:Inv X pins σ H1 { s1 with heap:=h' }:=I1.kept (t':=s1.toks) hk;refine⟨s1.heap.objs.size+1,[s1.heap.objs.size+1,s1.heap.objs.size],_,_,H1,rfl,I2,Zqo l1 _ _ (Nat.succ_ne_self _),⟨⟨_,b1⟩,b2⟩,λb hb=>?_,q⟩;have hge:s1.heap.objs.size<=b:=by
  simp only[Wam,Wa5,or_false]at hb;rcases hb with rfl|rfl <;> omega
 exact I1.fpOk hge (I1.hok.fresh hge)
def rMin1 (K:W.Frag):List V->Hp->VK->Prop:=λxs H Q=>∃(b:Bool) (p:Addr) (ns:List Int),xs=[.ref p]/\SqB b K H p (ns.map V.int)/\0<ns.length/\∀m,m∈ns->(∀a∈ns,m<=a)->Q (.int m) H
theorem minK (K:W.Frag) (hc:X.calm=true) (hK:X.K=K:=by rfl):CallR X (.builtin "min") (rMin1 K):=by
 subst hK;intro pins s σ H xs us Q I r h;obtain⟨b,p,ns,rfl,hx,hne,q⟩:=h;obtain⟨u,rfl,ru⟩:=vals1 r;cases (show u=Value.ref p from ru);obtain⟨its,w1,p1⟩:=I.seqB hx;have hlt:=p1.lt;have hl:=w1.length;rw[Waa]at hl;have hv:∀(i:Nat) v,its.toArray[i]?=some v->∃t,v=Value.int (ns.getD i 0) t:=λi v e=>by
  have hi:i<its.length:=by simpa using (Array.getElem?_eq_some_iff.mp e).1
  obtain⟨v',e1,t,e2⟩:=w1.get (i:=i) (x:=.int (ns.getD i 0)) (by rw[Waj,Wa2,Wab (by omega)];rfl);rw[List.getElem?_toArray,e1]at e;cases e;exact⟨t,e2⟩
 have fin:∀{h':Heap}{tk:Nat}{v:Value},its.toArray[argBest (λi j=>decide (ns.getD i 0<ns.getD j 0)) (its.toArray.size-1)]?=some v->(∀c o,s.heap.get? c=some o->h'.get? c=some o)->EP X pins σ Q v { s with heap:=h',toks:=tk }:=λ{h' tk v} hP hk=>by
  obtain⟨t,rfl⟩:=hv _ _ hP;obtain⟨h1,h2⟩:=argBest_lt (λi=>ns.getD i 0) (its.toArray.size-1);have hz:its.toArray.size=ns.length:=by simp[hl]
  rw[hz]at h1 h2 ⊢;refine⟨.int (ns.getD (argBest (λi j=>decide (ns.getD i 0<ns.getD j 0)) (ns.length-1)) 0),H,I.kept hk,⟨_,rfl⟩,q _ ?_ λa ha=>?_⟩
  ·rw[Wa2,Wab (by omega)];exact Wbc _
  ·obtain⟨j,hj,rfl⟩:=Wc2.mp ha
   have:=h2 j (by omega);rw[Wa2 (l:=ns) (i:=j),Wab hj]at this;exact this
 have old:∀{o:Obj}{h':Heap},(∀c u,c ∉ [s.heap.objs.size]->(s.heap.push o).get? c=some u->h'.get? c=some u)->∀c u,s.heap.get? c=some u->h'.get? c=some u:=λhk c u e=>hk c u (λhm=>by
  have:c=s.heap.objs.size:=by simpa using hm
  exact absurd (this ▸ Wao e) (Wb2 _)) (Wac _ e)
 have fp:∀o:Obj,∀c∈[s.heap.objs.size,p],c<(s.heap.push o).objs.size:=λo c hc=>by
  rw[Wbm];simp only[Wam,Wa5,or_false]at hc;rcases hc with rfl|rfl
  ·exact Nat.lt_succ_self _
  ·exact Wcl hlt
 cases b
 ·refine call_min_walk (wpAny_pyIter_list p1 ?_)
  exact⟨_,_,_,_,_,_,_,rfl,Walks.list (A:=X.A.in1) (I.ok.hd hc) _ p (Way hlt) its.toArray,⟨⟨_,Wal _ rfl,rfl,rfl⟩,Heap.IsList.push p1 _⟩,fp _,by simp;omega,CmpOf.ints_lt (λi=>ns.getD i 0) hv,λv h' tk hP hk=>fin hP (old hk)⟩
 ·refine call_min_walk (wpAny_pyIter_tuple p1 ?_)
  exact⟨_,_,_,_,_,_,_,rfl,Walks.tuple (A:=X.A.in1) (I.ok.hd hc) _ p (Way hlt) its.toArray,⟨⟨_,Wal _ rfl,rfl,rfl⟩,Heap.IsTuple.push p1 _⟩,fp _,by simp;omega,CmpOf.ints_lt (λi=>ns.getD i 0) hv,λv h' tk hP hk=>fin hP (old hk)⟩
end
section
variable {K:W.Frag}{Δ:Evt}
theorem Zkz {ns:List Int}{m:Int}{d:D}{P:D->Evt->Prop}(hd:d=.lst (ns.map .int)\/d=.tup (ns.map .int)) (hm:m∈ns) (hle:∀a∈ns,m<=a) (p:P (.int m) Δ):JC K (rMin1 K) [d] Δ P:=λg G H σ Q vs k rs c=>by
 have fin:∀m',m'∈ns->(∀a∈ns,m' <= a)->Q (.int m') H:=λm' h1 h2=>by
  have:m'=m:=Int.le_antisymm (h2 m hm) (hle m' h1);subst this;exact c _ _ G H Δ k (Same.refl _) (.int _) p
 have pos:0<ns.length:=List.length_pos_of_mem hm;obtain⟨_,_,rfl,r,t⟩:=rs.inv
 next=>
  cases t.inv;rcases hd with hd|hd <;> subst hd
  ·obtain⟨_,_,rfl,ha,rs⟩:=r.inv
   next=>have:=rs.ints;subst this;exact⟨false,_,ns,rfl,SqL.of (k.live _ _ ha),pos,fin⟩
  ·obtain⟨_,_,rfl,ha,rs⟩:=r.inv
   next=>have:=rs.ints;subst this;exact⟨true,_,ns,rfl,SqT.of (k.live _ _ ha),pos,fin⟩
def enD (ds:List D):List D:=ds.zipIdx.map λp=>D.tup [.int (p.2:Int),p.1]
theorem Zev (ds:List D):(enD ds).length=ds.length:=by unfold enD;rw[Waa,List.length_zipIdx]
theorem Zek {ds:List D}{i:Nat}{e:D}(h:(enD ds)[i]?=some e):∃d,ds[i]?=some d/\e=.tup [.int (i:Int),d]:=by
 unfold enD at h;rw[Waj,List.getElem?_zipIdx]at h;cases q:ds[i]? with
 |none=>rw[q]at h;cases h
 |some d=>rw[q]at h;refine⟨d,rfl,?_⟩;simpa using h.symm
theorem Zhn {b:Bool}{G:Hp}{l1:Addr}{xs:List V}{ds:List D}(h1:∀G1 H1,Same G G1->Same G1 H1->SqB b K H1 l1 xs) (r1:Reps K G xs ds):ItOk K G (Ieb b K l1) (enD ds):=λG1 H1 sg sh=>by
 have hl1:=r1.length;have e1:=h1 G1 H1 sg sh;refine⟨⟨xs,e1,by rw[Zev];omega⟩,λi d hd=>?_⟩;obtain⟨d0,q,rfl⟩:=Zek hd;obtain⟨u,hu,ru⟩:=r1.get q;refine⟨⟨xs,u,e1,hu⟩,λx H2 ⟨p,a,hp,ex,eH,hab⟩=>?_⟩;have ha:=hab xs e1;rw[hu]at ha;cases ha;subst ex;subst eH;have hG:G1 p=none:=by
  cases z:G1 p with
  |none=>rfl
  |some o=>rw[sh _ _ z]at hp;cases hp
 refine⟨upd G1 p (.tup [.int (i:Int),u]),λc o e=>by rw[Zal (Zao e hG)];exact e,λc o e=>by rw[Zal (Zao e hp)];exact e,λc o e=>?_,?_⟩
 ·by_cases hc:c=p
  ·subst hc;rw[Zan]at e ⊢;exact⟨e,.inr hp⟩
  ·rw[Zal hc]at e ⊢;exact⟨sh c o e,.inl e⟩
 ·have sg2:Same G1 (upd G1 p (.tup [.int (i:Int),u])):=λc o e=>by rw[Zal (Zao e hG)];exact e
  exact .tup Zan (.cons (.int _) (.cons ((ru.mono sg).mono sg2) .nil))
theorem Zij {ta:TA}{P:List D->Evt->Prop}(h:JA K ta Δ λds Δ1=>∃as,(ds=[.lst as]\/ds=[.tup as])/\P (enD as) Δ1):JI K (iEnum K ta) Δ P:=λg G H σ R k c=>
 h g G H σ _ k λvs ds G1 H1 Δ1 k1 s1 r1 hq_=>by
  obtain⟨as,e,p1⟩:=hq_;rcases e with e|e
  ·subst e
   obtain⟨_,_,rfl,ra,rr⟩:=r1.inv
   next=>
    cases rr.inv;obtain⟨_,_,rfl,ha,rsa⟩:=ra.inv
    next=>exact⟨false,_,rfl,⟨_,SqL.of (k1.live _ _ ha)⟩,c _ _ G1 H1 Δ1 k1 s1 (Zhn (λ_ _ sg sh=>SqL.of (sh _ _ (sg _ _ ha))) rsa) p1⟩
  ·subst e
   obtain⟨_,_,rfl,ra,rr⟩:=r1.inv
   next=>
    cases rr.inv;obtain⟨_,_,rfl,ha,rsa⟩:=ra.inv
    next=>exact⟨true,_,rfl,⟨_,SqT.of (k1.live _ _ ha)⟩,c _ _ G1 H1 Δ1 k1 s1 (Zhn (λ_ _ sg sh=>SqT.of (sh _ _ (sg _ _ ha))) rsa) p1⟩
end
open PySem PySem.Spec PyProof.Rows PySem.SeqAt
section
variable {X:Cx}
def rIndexL (K:W.Frag):V->List V->Hp->VK->Prop:=λx vs H Q=>∃(a:Addr) (ns:List Int) (i:Int),x=.ref a/\vs=[.int i]/\SqL K H a (ns.map V.int)/\ns.length<=1000/\i∈ns/\Q (.int (ns.idxOf i:Nat)) H
theorem idxLK (K:W.Frag) (hK:X.K=K:=by rfl):MtM X "list.index" (rIndexL K):=by
 subst hK;intro pins s σ H x vs v us Q I rx rv h;obtain⟨a,ns,i,rfl,rfl,hx,hl,hm,q⟩:=h;cases rx;obtain⟨u,rfl,ru⟩:=rv.one;obtain⟨t,rfl⟩:=ru;obtain⟨its,r,pl,hz⟩:=I.list hx;have hi:=Zc2 r;have hlen:=hi.length;obtain⟨⟨cls,dd,data,sl⟩,ho,hc,n,hd⟩:=pl.isList;simp only at hc hd;subst hc hd;have hj:ns.idxOf i<ns.length:=List.idxOf_lt_length_iff.mpr hm;refine call_meets PySem.F.slot_list_index ⟨_,ho,rfl⟩ PySem.F.entry_list_index (PySem.F.args_list_index_2 _ _)
  (list_indexAt a its.toArray n dd sl (.int i t) (isInt i) (ns.idxOf i) (by simpa [hlen] using hj) (by omega) ?_ ?_) ⟨ho,λy hy=>(eq_isInt i t hi y (by simpa using hy)).at _ _,⟨.int _,H,I.tok _,⟨_,rfl⟩,q⟩⟩
 ·show isInt i its[ns.idxOf i]=true
  rw[isInt_at i hi _ (by omega) hj];simpa using List.getElem_idxOf hj
 ·intro j hjs hlt
  show isInt i its[j]=false;rw[isInt_at i hi j (by simpa using hjs) (by omega)];exact ne_of_lt_idxOf hlt _
end
section
variable {K:W.Frag}{Δ:Evt}{P:D->Evt->Prop}
theorem Zl8 {to te:TE}(h:JE K to Δ λd Δ1=>∃ns:List Int,d=.lst (ns.map D.int)/\ns.length<=1000/\JE K te Δ1 λe Δ2=>∃i,e=.int i/\i∈ns/\P (.int (ns.idxOf i:Nat)) Δ2) :
  JE K (tBM K "list" (rIndexL K) to (tCons te tNil)) Δ P:=λg G H σ Q k c=>
 h g G H σ _ k λv d G1 H1 Δ1 k1 s1 r1 hq_=>by
  obtain⟨ns,e,hl,p1⟩:=hq_;subst e;obtain⟨a,vs,rfl,ha,rs⟩:=r1.inv
  next=>
   refine⟨.inl ⟨rfl,_,SqL.of (k1.live _ _ ha)⟩,p1 g G1 H1 σ _ k1 λu e G2 H2 Δ2 k2 s2 r2 ⟨i,q1,q2,p⟩=>?_⟩;subst q1;cases r2.inv;have ev:vs=ns.map V.int:=rs.ints;subst ev;exact⟨a,ns,i,rfl,rfl,SqL.of (k2.live _ _ (s2 _ _ ha)),hl,q2,c _ _ G2 H2 Δ2 k2 (s1.trans s2) (.int _) p⟩
end
theorem Zim {A:Around}{k:Nat}(hr:Room k A):A.units+8<cLine:=Wbl (Wct (by decide:8<=64) _) hr.units
open PySem PySem.Spec PyProof.Rows PySem.SeqAt
def flatD:D->Option V
 |.non=>some .non
 |.bl b=>some (.bl b)
 |.int i=>some (.int i)
 |.str x=>some (.str x)
 |_=>none
def eqFlat (d e:D):Bool:=match flatD d,flatD e with
 |some x,some y=>eqV x y
 |_,_=>false
def eqF:Nat->D->D->Bool
 |0,_,_=>false
 |n+1,.tup xs,.tup ys=>xs.length == ys.length && (xs.zip ys).all λp=>eqF n p.1 p.2
 |n+1,.lst xs,.lst ys=>xs.length == ys.length && (xs.zip ys).all λp=>eqF n p.1 p.2
 |_+1,d,e=>eqFlat d e
def Dp:Nat->D->Prop
 |0,_=>False
 |_+1,.int _=>True
 |n+1,.tup xs=>∀d∈xs,Dp n d
 |n+1,.lst xs=>∀d∈xs,Dp n d
 |_,_=>False
theorem Rep.uniq {K:W.Frag}{G:Hp}:∀(n:Nat) {v:V}{d e:D},Rep K G v d->Rep K G v e->Dp n d->Dp n e->d=e
 |0,_,_,_,_,_,h,_=>h.elim
 |n+1,v,d,e,hd,he,pd,pe=>by
  have all:∀{vs:List V}{xs ys:List D},Reps K G vs xs->Reps K G vs ys->(∀d∈xs,Dp n d)->(∀d∈ys,Dp n d)->xs=ys:=by
   intro vs
   induction vs with
   |nil=>intro xs ys h1 h2 _ _;cases h1;cases h2;rfl
   |cons v vs ih=>
    intro xs ys h1 h2 p1 p2;cases h1 with
    |cons a1 b1=>
     cases h2 with
     |cons a2 b2=>
      rw[Rep.uniq n a1 a2 (p1 _ War) (p2 _ War),ih b1 b2 (λd hd=>p1 d (Waq _ hd)) λd hd=>p2 d (Waq _ hd)]
  cases d with
  |int i=>cases hd;cases he;rfl
  |tup xs=>
   cases hd with
   |tup ha ra=>
    cases e with
    |tup ys=>cases he with|tup hb rb=>rw[ha]at hb;cases hb;rw[all ra rb pd pe]
    |lst ys=>cases he with|lst hb rb=>rw[ha]at hb;cases hb
    |int i=>cases he
    |_=>exact pe.elim
  |lst xs=>
   cases hd with
   |lst ha ra=>
    cases e with
    |lst ys=>cases he with|lst hb rb=>rw[ha]at hb;cases hb;rw[all ra rb pd pe]
    |tup ys=>cases he with|tup hb rb=>rw[ha]at hb;cases hb
    |int i=>cases he
    |_=>exact pe.elim
  |_=>exact pd.elim
theorem Zgs:∀(n:Nat) (d:D),Dp n d->eqF n d d=true
 |0,_,h=>h.elim
 |n+1,.int i,_=>by show (i == i)=true;simp
 |n+1,.tup xs,h=>by
  show (xs.length == xs.length && (xs.zip xs).all λp=>eqF n p.1 p.2)=true;rw[beq_self_eq_true,Wc7,Wba];intro p hp;obtain⟨i,hi⟩:=List.mem_iff_getElem?.mp hp;rw[Wbg]at hi;have e:p.1=p.2:=Wau.inj (hi.1.symm.trans hi.2);rw[<- e];exact Zgs n _ (h _ (Wap hi.1))
 |n+1,.lst xs,h=>by
  show (xs.length == xs.length && (xs.zip xs).all λp=>eqF n p.1 p.2)=true;rw[beq_self_eq_true,Wc7,Wba];intro p hp;obtain⟨i,hi⟩:=List.mem_iff_getElem?.mp hp;rw[Wbg]at hi;have e:p.1=p.2:=Wau.inj (hi.1.symm.trans hi.2);rw[<- e];exact Zgs n _ (h _ (Wap hi.1))
 |_+1,.non,h=>h.elim
 |_+1,.bl _,h=>h.elim
 |_+1,.str _,h=>h.elim
 |_+1,.ty _,h=>h.elim
 |_+1,.scr _,h=>h.elim
 |_+1,.adr _,h=>h.elim
 |_+1,.dct _ _,h=>h.elim
 |_+1,.exc _ _,h=>h.elim
def atZip (n:Nat) (xs ys:List D) (j:Nat):Bool:=match xs[j]?,ys[j]? with
 |some a,some b=>eqF n a b
 |_,_=>false
theorem Zgi (n:Nat):∀(xs ys:List D),(Wbx (min xs.length ys.length)).all (atZip n xs ys)=(xs.zip ys).all λp=>eqF n p.1 p.2
 |[],ys=>by simp
 |_::_,[]=>by simp
 |x::xs,y::ys=>by
  rw[Wax,Wax,Nat.succ_min_succ,List.range_succ_eq_map,List.all_cons,List.all_map,Wc6,List.all_cons,<- Zgi n xs ys];rfl
section
variable {X:Cx}
theorem Zow:∀(n:Nat) {A:Around}{pins:List (Addr × Obj)}{σ:St}{H G:Hp}{s:Shared}{x y:V}{v u:Value}{d e:D},Inv X pins σ H s->Same G H->Rep X.K G x d->Rep X.K G y e->RelV x v->RelV y u->Dp n d->Dp n e->A.units+n<cLine →
  EqAt A s v u (eqF n d e)/\(∀a b,v=.ref a->u=.ref b->RcAt A s v u (eqF n d e))
 |0,_,_,_,_,_,_,_,_,_,_,_,_,_,_,_,_,_,_,h,_,_=>h.elim
 |n+1,A,pins,σ,H,G,s,x,y,v,u,d,e,I,sg,rx,ry,rv,ru,pd,pe,hu=>by
  have hu0:A.units<cLine:=by omega
  have hu1:A.in1.units+n<cLine:=by show A.units+1+n<cLine;omega
  have items:∀{vs us:List V}{its its2:List Value}{xs ys:List D},Vals vs its->Vals us its2->Reps X.K G vs xs->Reps X.K G us ys->(∀d∈xs,Dp n d)->(∀d∈ys,Dp n d) →
    ∀j (h1:j<its.toArray.size) (h2:j<its2.toArray.size),EqAt A.in1 s its.toArray[j] its2.toArray[j] (atZip n xs ys j):=by
   intro vs us its its2 xs ys w1 w2 r1 r2 p1 p2 j h1 h2;have l1:=w1.length;have l2:=r1.length;have l3:=w2.length;have l4:=r2.length;have h1':j<its.length:=by simpa using h1
   have h2':j<its2.length:=by simpa using h2
   have hx:j<xs.length:=by omega
   have hy:j<ys.length:=by omega
   obtain⟨a,ha1,ha2⟩:=r1.get (Wab hx);obtain⟨b,hb1,hb2⟩:=r2.get (Wab hy);obtain⟨va,hv1,hv2⟩:=w1.get ha1;obtain⟨vb,hw1,hw2⟩:=w2.get hb1;have e1:its.toArray[j]=va:=by
    rw[Wab h1']at hv1;simpa using Wau.inj hv1
   have e2:its2.toArray[j]=vb:=by
    rw[Wab h2']at hw1;simpa using Wau.inj hw1
   have e3:atZip n xs ys j=eqF n xs[j] ys[j]:=by unfold atZip;rw[Wab hx,Wab hy]
   rw[e1,e2,e3];exact(Zow n I sg ha2 hb2 hv2 hw2 (p1 _ (Wbc hx)) (p2 _ (Wbc hy)) hu1).1
  have same:∀a,v=.ref a->u=.ref a->eqF (n+1) d e=true:=λa h1 h2=>by
   have hx:x=.ref a:=by cases x <;> simp[RelV,h1]at rv <;> first|(rw[rv])|skip
   have hy:y=.ref a:=by cases y <;> simp[RelV,h2]at ru <;> first|(rw[ru])|skip
   rw[hx]at rx;rw[hy]at ry;rw[Rep.uniq (n+1) rx ry pd pe];exact Zgs (n+1) e pe
  have lift:(∃a,v=.ref a)->(∃b,u=.ref b)->(∀a b,v=.ref a->u=.ref b->RcAt A s v u (eqF (n+1) d e))->EqAt A s v u (eqF (n+1) d e)/\(∀a b,v=.ref a->u=.ref b->RcAt A s v u (eqF (n+1) d e)):=by
   rintro⟨a,rfl⟩ ⟨b,rfl⟩ h;refine⟨?_,h⟩;by_cases hab:a=b
   ·subst hab
    rw[same a rfl rfl];exact EqAt.same _
   ·exact .of_refs hab (h a b rfl rfl)
  cases d with
  |int i=>
   cases rx;obtain⟨t,rfl⟩:=rv;refine⟨?_,λa b z=>nomatch z⟩;cases e with
   |int j=>
    cases ry;obtain⟨t',rfl⟩:=ru;exact EqAt.int_int i t j t'
   |tup ys=>
    cases ry with
    |tup hb rb=>
     cases ru;obtain⟨its,w1,pl,_⟩:=I.tuple (SqT.of (sg _ _ hb));exact EqAt.int_tuple i t pl hu0
   |lst ys=>
    cases ry with
    |lst hb rb=>
     cases ru;obtain⟨its,w1,pl,_⟩:=I.list (SqL.of (sg _ _ hb));exact EqAt.int_list i t pl.isList hu0
   |_=>exact pe.elim
  |tup xs=>
   cases rx with
   |@tup a vs _ ha ra=>
    cases rv;obtain⟨its,w1,pl,_⟩:=I.tuple (SqT.of (sg _ _ ha));cases e with
    |int j=>
     cases ry;obtain⟨t',rfl⟩:=ru;exact⟨EqAt.tuple_int j t' pl hu0,λa b _ z=>nomatch z⟩
    |tup ys=>
     cases ry with
     |@tup b us _ hb rb=>
      cases ru;obtain⟨its2,w2,pl2,_⟩:=I.tuple (SqT.of (sg _ _ hb));refine lift ⟨_,rfl⟩ ⟨_,rfl⟩ λ_ _ _ _=>?_;have z:=RcAt.tuples (A:=A) (s:=s) pl pl2 hu0 (items w1 w2 ra rb pd pe);have e1:((Wbx (min its.toArray.size its2.toArray.size)).all (atZip n xs ys) && its.toArray.size == its2.toArray.size)=eqF (n+1) (.tup xs) (.tup ys):=by
       show _=(xs.length == ys.length && (xs.zip ys).all λp=>eqF n p.1 p.2);rw[<- Zgi,Waf,Waf,<- w1.length,<- w2.length,ra.length,rb.length,Bool.and_comm]
      rw[e1]at z;exact z
    |lst ys=>
     cases ry with
     |@lst b us _ hb rb=>
      cases ru;obtain⟨its2,w2,pl2,_⟩:=I.list (SqL.of (sg _ _ hb));exact⟨EqAt.tuple_list pl pl2.isList hu0,λ_ _ _ _=>RcAt.tuple_list pl pl2.isList hu0⟩
    |_=>exact pe.elim
  |lst xs=>
   cases rx with
   |@lst a vs _ ha ra=>
    cases rv;obtain⟨its,w1,pl,_⟩:=I.list (SqL.of (sg _ _ ha));cases e with
    |int j=>
     cases ry;obtain⟨t',rfl⟩:=ru;exact⟨EqAt.list_int j t' pl.isList hu0,λa b _ z=>nomatch z⟩
    |tup ys=>
     cases ry with
     |@tup b us _ hb rb=>
      cases ru;obtain⟨its2,w2,pl2,_⟩:=I.tuple (SqT.of (sg _ _ hb));exact⟨EqAt.list_tuple pl.isList pl2 hu0,λ_ _ _ _=>RcAt.list_tuple pl.isList pl2 hu0⟩
    |lst ys=>
     cases ry with
     |@lst b us _ hb rb=>
      cases ru;obtain⟨its2,w2,pl2,_⟩:=I.list (SqL.of (sg _ _ hb));refine lift ⟨_,rfl⟩ ⟨_,rfl⟩ λ_ _ _ _=>?_;have l1:=w1.length;have l2:=w2.length;have l3:=ra.length;have l4:=rb.length;by_cases hl:xs.length=ys.length
      ·have hsz:its.toArray.size=its2.toArray.size:=by rw[Waf,Waf];omega
       have z:=RcAt.lists (A:=A) (s:=s) pl.isList pl2.isList hsz hu0 (items w1 w2 ra rb pd pe);have e1:(Wbx its.toArray.size).all (atZip n xs ys)=eqF (n+1) (.lst xs) (.lst ys):=by
        show _=(xs.length == ys.length && (xs.zip ys).all λp=>eqF n p.1 p.2);rw[<- Zgi,Waf,hl,beq_self_eq_true,Wc7,Wcz,show its.length=ys.length by omega]
       rw[e1]at z;exact z
      ·have z:=RcAt.lists_lengths (A:=A) (s:=s) pl.isList pl2.isList (by rw[Waf,Waf];simp;omega) hu0
       have e1:eqF (n+1) (.lst xs) (.lst ys)=false:=by
        show (xs.length == ys.length && (xs.zip ys).all λp=>eqF n p.1 p.2)=false;rw[beq_eq_false_iff_ne.mpr hl,Bool.false_and]
       rw[e1];exact z
    |_=>exact pe.elim
  |_=>exact pd.elim
def rSortI (K:W.Frag):List V->Hp->VK->Prop:=λxs H Q=>∃(p:Addr) (ns:List Int),xs=[.ref p]/\SqL K H p (ns.map V.int)/\ns.length<64/\∀(l:Addr) (ms:List Int),ms.Perm ns->ms.Pairwise (· <= ·)->H l=none->Q (.ref l) (upd H l (.lst (ms.map V.int)))
theorem sortIK (K:W.Frag) (hK:X.K=K:=by rfl):CallR X (.builtin "sorted") (rSortI K):=by
 subst hK;intro pins s σ H xs us Q I r h;obtain⟨p,ns,rfl,hx,hl,q⟩:=h;obtain⟨u,rfl,ru⟩:=vals1 r;cases (show u=Value.ref p from ru);obtain⟨its,w1,p1,hz⟩:=I.list hx;have hi:=Zc2 w1;have hlen:=hi.length;refine sorted_ints p1.isList hi (by omega) λout ms o1 o2 o3=>?_;obtain⟨e,he⟩:=sortedAll_at s.heap its out;have hml:=o2.length_eq;refine⟨.ref (s.heap.objs.size+1),_,I.laid (t':=s.toks) (λ_ _ z=>sortedAll_old z) (Wc4 _) (show ObjOk X.prog X.w _ _ _ (.lst (ms.map V.int)) from ⟨?_,out.toList,e,Zej o1,?_⟩),rfl,q _ ms o2 o3 (I.hok.fresh (Wc4 _))⟩
 ·rw[Waa];exact Wbr (small1000 (by omega))
 ·rw[Array.toArray_toList];exact he
end
open PySem PySem.Spec PyProof.Rows PySem.SeqAt
section
variable {prog:Program}{w:World}
end
section
variable {prog:Program}{w:World}{A:Around}{E:Value->Shared->Prop}{s:Shared}
end
end L2
namespace L2
open PySem PySem.Spec PyProof.Rows PySem.SeqAt
end L2
namespace L2
open PySem PySem.Spec PyProof.Rows PySem.SeqAt
section
variable {prog:Program}{w:World}{A:Around}{E:Value->Shared->Prop}{s:Shared}
end
end L2
namespace L2
open PySem PySem.Spec PyProof.Rows PySem.SeqAt
end L2
namespace L2
open PySem PySem.Spec PyProof.Rows PySem.SeqAt
end L2
namespace L2
open PySem PySem.Spec PyProof.Rows PySem.SeqAt
section
variable {K:W.Frag}{Δ:Evt}
end
section
variable {X:Cx}
end
open PySem PySem.Spec PyProof.Rows PySem.SeqAt
section
variable {X:Cx}
theorem intsAt {its:List Value}{ns:List Int}(hi:IntsAre its ns):∀j (h:j<its.length),∃t,its[j]=.int (ns.getD j 0) t:=by
 induction hi with
 |nil=>intro j h;simp at h
 |cons n t _ ih=>
  intro j h;cases j with
  |zero=>exact⟨t,rfl⟩
  |succ j=>simpa using ih j (by simpa using h)
end
section
variable {K:W.Frag}{Δ:Evt}
theorem Zms {j n:Nat}(h:j<n):seqIndex? (j:Int) n=some j:=by
 unfold seqIndex?;simp;omega
theorem Zit {ta:TA}{Po:OD->Evt->Prop}(h:JA K ta Δ λds Δ1=>∃es,(ds=[.tup es]\/ds=[.lst es])/\Po (.lst es) Δ1):JO K (tCB (rLst K) ta) Δ Po:=λg G H σ Q k c=>
 h g G H σ _ k λvs ds G1 H1 Δ1 k1 s1 r1 hq_=>by
  obtain⟨es,e,p⟩:=hq_;rcases e with e|e <;> subst e
  ·obtain⟨_,_,rfl,r,t⟩:=r1.inv
   next=>
    cases t.inv;obtain⟨_,_,rfl,ha,rs⟩:=r.inv
    next=>
     refine⟨_,_,rfl,.inr (SqT.of (k1.live _ _ ha)),λl hl=>?_⟩;obtain⟨k2,pd⟩:=k1.fresh (od:=.lst es) hl (show OwnRep K G1 (.lst _) (.lst es) from rs);exact c l _ G1 _ Δ1 k2 s1 pd p
  ·obtain⟨_,_,rfl,r,t⟩:=r1.inv
   next=>
    cases t.inv;obtain⟨_,_,rfl,ha,rs⟩:=r.inv
    next=>
     refine⟨_,_,rfl,.inl (SqL.of (k1.live _ _ ha)),λl hl=>?_⟩;obtain⟨k2,pd⟩:=k1.fresh (od:=.lst es) hl (show OwnRep K G1 (.lst _) (.lst es) from rs);exact c l _ G1 _ Δ1 k2 s1 pd p
end
open PySem PySem.Spec PyProof.Rows PySem.SeqAt
section
variable {K:W.Frag}{Δ:Evt}{P:D->Evt->Prop}
end
section
variable {K:W.Frag}{Δ:Evt}
def lstZ (r:List Int):D:=.lst (r.map .int)
def shown (G H':Hp) (acc:Addr) (cs:List (Addr × List Int)):Hp:=λb=>if b=acc\/b∈cs.map (·.1) then H' b else G b
theorem Zkt {G H':Hp}{acc:Addr}{cs:List (Addr × List Int)}(h1:H' acc=some (.lst (cs.map λc=>V.ref c.1))) (h2:∀c∈cs,H' c.1=some (.lst (c.2.map V.int))):Rep K (shown G H' acc cs) (.ref acc) (.lst ((cs.map (·.2)).map lstZ)):=by
 refine .lst (by unfold shown;rw[if_pos (.inl rfl)];exact h1) ?_;have key:∀l:List (Addr × List Int),(∀c∈l,c∈cs)->Reps K (shown G H' acc cs) (l.map λc=>V.ref c.1) ((l.map (·.2)).map lstZ):=by
  intro l
  induction l with
  |nil=>intro _;exact .nil
  |cons c r ih=>
   intro hl;refine .cons (.lst (vs:=c.2.map V.int) ?_ (Reps.ofInts _)) (ih λd hd=>hl d (Waq _ hd));unfold shown;rw[if_pos (.inr (Was.mpr ⟨c,hl c War,rfl⟩))];exact h2 c (hl c War)
 exact key cs λ_ h=>h
end
section
variable {prog:Program}{w:World}{A:Around}{E:Value->Shared->Prop}{s:Shared}
theorem Zih {l:Addr}{vs:List Value}{Q:List Value->Shared->Prop}(hl:s.heap.IsTuple l vs.toArray)
  (h:Q vs { s with heap:=(s.heap.push (seqObj "list" #[] 0)).update s.heap.objs.size (Obj.mapSeq (· ++ vs.toArray)) }) (hsz:vs.length<=sizeLine) :
  wpAny (model prog w) A (collect (.ref l)) Q E s:=by
 obtain⟨o,ho,hc,n,hd⟩:=id hl;unfold collect;refine wpAny_bind (wpAny_runValue (codeAny_builtin entry_proto_collect' ?_));show wpAny _ _ (do again (.builtin "list.__iadd__" ⟨[← newList [],.ref l],[]⟩)) _ _ s;refine wpAny_bind (wpAny_newList (wpAny_pure ⟨Code.quiet_builtin _ (by decide +kernel),codeAny_builtin entry_list_iadd' ?_⟩));show wpAny _ _ (Builtin.List.listExtendWith (.ref s.heap.objs.size) (.ref l) (.ref s.heap.objs.size)) _ _ { s with heap:=s.heap.push (seqObj "list" #[] 0) };unfold Builtin.List.listExtendWith;have ho':(s.heap.push (seqObj "list" #[] 0)).get? l=some o:=Wac _ ho;refine wpAny_bind (wpAny_typeOf (T:="tuple") ⟨o,ho',hc⟩ ?_);have ht:(Value.type "tuple" == Value.type "tuple")=true:=by rfl
 rw[if_pos (by rw[ht];simp)];refine wpAny_bind (listItems_at ho' hd ?_);refine wpAny_bind (listItems_at (xs:=#[]) (n:=0) (Wal _ rfl) rfl ?_);rw[if_neg (by simp)];refine wpAny_bind (listUpdate_at (xs:=#[]) (n:=0) (Wal _ rfl) rfl ?_ (Wbt _) (by show (#[]++vs.toArray).size<=sizeLine+1;simp only[Array.size_append,Waf,List.length_nil];omega));refine wpAny_pure ?_;show wpAny (model prog w) A (do
   let o ← load s.heap.objs.size
   match o.data with
   |.seq xs _=>pure xs.toList
   |_=>unsupported "internal:collect") Q E { s with heap:=(s.heap.push (seqObj "list" #[] 0)).update s.heap.objs.size (Obj.mapSeq (· ++ vs.toArray)) }
 refine wpAny_bind (wpAny_load (get?_update_seq (Wal _ rfl) _) ?_);show wpAny _ _ (pure ((#[]:Array Value)++vs.toArray).toList) Q E _;rw[show ((#[]:Array Value)++vs.toArray).toList=vs by simp];exact wpAny_pure h
theorem Zhb {l:Addr}{vs:List Value}{ns:List Int}{Q:Value->Shared->Prop}(hl:s.heap.IsTuple l vs.toArray) (hI:IntsAre vs ns) (h64:vs.length<64)
  (h:∀(out:Array Value) (ns':List Int),IntsAre out.toList ns' -> ns'.Perm ns->ns'.Pairwise (· <= ·)->Q (.ref (s.heap.objs.size+1)) { s with heap:=sortedAll s.heap vs out }) :
  wpAny (model prog w) A (call (.builtin "sorted") [.ref l]) Q E s:=by
 refine Calls.call_function_entry kind_sorted plain_sorted entry_sorted (args_sorted1 _) ?_;unfold Builtin.«sorted»;refine wpAny_bind (m:=checkCount "sorted" 1 1 _) (wpAny_pure ?_);refine wpAny_bind (Zih hl ?_ (Wbr (small1000 (by omega))));refine wpAny_bind (wpAny_newList ?_);have hsz:((s.heap.push (seqObj "list" #[] 0)).update s.heap.objs.size (Obj.mapSeq (· ++ vs.toArray))).objs.size=s.heap.objs.size+1:=by
  rw[Heap.size_update,size_push']
 have hoL:(((s.heap.push (seqObj "list" #[] 0)).update s.heap.objs.size (Obj.mapSeq (· ++ vs.toArray))).push (seqObj "list" vs.toArray 0)).get? (s.heap.objs.size+1)=some (seqObj "list" vs.toArray 0):=by
  rw[<- hsz];exact Wal _ rfl
 show wpAny _ _ _ _ _ { s with heap:=((s.heap.push (seqObj "list" #[] 0)).update s.heap.objs.size (Obj.mapSeq (· ++ vs.toArray))).push (seqObj "list" vs.toArray 0) };rw[hsz];refine wpAny_bind (wpAny_holding (wpAny_call_entry slot_list_sort ⟨_,hoL,rfl⟩ entry_list_sort (list_sort_tree hoL hI h64 λout ns' a1 a2 a3=>⟨_,rfl,?_⟩) (args_list_sort _)));exact wpAny_pure ⟨_,rfl,h out ns' a1 a2 a3⟩
end
section
variable {X:Cx}
def rSortT (K:W.Frag):List V->Hp->VK->Prop:=λxs H Q=>∃(p:Addr) (ns:List Int),xs=[.ref p]/\SqT K H p (ns.map V.int)/\ns.length<64/\∀(l:Addr) (ms:List Int),ms.Perm ns->ms.Pairwise (· <= ·)->H l=none->Q (.ref l) (upd H l (.lst (ms.map V.int)))
theorem sortTK (K:W.Frag) (hK:X.K=K:=by rfl):CallR X (.builtin "sorted") (rSortT K):=by
 subst hK;intro pins s σ H xs us Q I r h;obtain⟨p,ns,rfl,hx,hl,q⟩:=h;obtain⟨u,rfl,ru⟩:=vals1 r;cases (show u=Value.ref p from ru);obtain⟨its,w1,p1⟩:=I.seqB (b:=true) hx;have hi:=Zc2 w1;have hlen:=hi.length;refine Zhb p1 hi (by omega) λout ms o1 o2 o3=>?_;obtain⟨e,he⟩:=sortedAll_at s.heap its out;have hml:=o2.length_eq;refine⟨.ref (s.heap.objs.size+1),_,I.laid (t':=s.toks) (λ_ _ z=>sortedAll_old z) (Wc4 _) (show ObjOk X.prog X.w _ _ _ (.lst (ms.map V.int)) from ⟨?_,out.toList,e,Zej o1,?_⟩),rfl,q _ ms o2 o3 (I.hok.fresh (Wc4 _))⟩
 ·rw[Waa];exact Wbr (small1000 (by omega))
 ·rw[Array.toArray_toList];exact he
def rStrU:List V->Hp->VK->Prop:=λxs H Q=>(∃i,xs=[.int i]/\i.natAbs.log2<1920/\Q (.str (toString i)) H)\/∃x,xs=[.str x]/\Q (.str x) H
theorem strUK:CallR X (.type "str") rStrU:=by
 intro pins s σ H xs us Q I r h;rcases h with ⟨i,rfl,hz,q⟩|⟨x,rfl,q⟩
 ·obtain⟨u,rfl,t,rfl⟩:=vals1 r
  exact PySem.P.str_of_int hz ⟨.str _,H,I.tok _,⟨_,rfl⟩,q⟩
 ·obtain⟨u,rfl,t,rfl⟩:=vals1 r
  exact PySem.P.str_of_str ⟨.str _,H,I,⟨_,rfl⟩,q⟩
end
section
variable {K:W.Frag}{Δ:Evt}{P:D->Evt->Prop}
theorem Zpe {x:Str}(p:P (.bl false) Δ):JR2 K rNe (.str x) (.str x) Δ P:=λg G H σ Q u v k rx ry c=>by
 cases rx.inv;cases ry.inv;refine⟨rfl,?_⟩;rw[decide_eq_true rfl];exact c _ _ G H Δ k (Same.refl _) (.bl _) p
theorem Zpq {i:Int}(hz:i.natAbs.log2<1920) (p:P (.str (toString i)) Δ):JC K rStrU [.int i] Δ P:=λg G H σ Q vs k rs c=>by
 obtain⟨_,_,rfl,r,t⟩:=rs.inv
 next=>cases t.inv;cases r.inv;exact .inl ⟨i,rfl,hz,c _ _ G H Δ k (Same.refl _) (.str _) p⟩
end
section
variable {X:Cx}
end
abbrev TB:=St->Hp->(St->Hp->Prop)->Prop
def LoopR (g:TG) (tb:TB) (R:St->Hp->Prop) (σ0:St):It->Hp->Prop:=λJ H1=>∃W:Nat->Nat->St->Hp->Prop,(∃m,W 0 m σ0 H1)/\∀i m σ H,W i m σ H →
 (J.stop i H/\R σ H)\/(J.go i H/\∃N:St->Hp->Prop,(∀σ' H',N σ' H' -> ∃m',m'<m/\W (i+1) m' σ' H')/\∀x H',J.yld i H x H' -> g x σ H' λσ2 H2=>tb σ2 H2 N)
structure Plain (e:Expr):Prop where
 tu:∀(P:Program) (w:World) (A:Around) (d:Nat) (it acc:Value) (env:Env),A.under (.compLoop e d it acc env)=A/\(model P w).den (.compLoop e d it acc env)=(compTurn e d it acc env).onRaise (λx=>do noteFrame x env;theTreesLotGoes x)
 su:∀(P:Program) (w:World) (A:Around) (d:Nat) (it acc:Value) (env:Env),A.under (.compStart e d it acc env)=A/\(model P w).den (.compStart e d it acc env)=(compStart e d it acc env).onRaise (λx=>do noteFrame x env;standAt theWindowsPlace)
theorem Zkc (elt:Expr) (gs:List Comprehension) (sc:Scope) (pos:Pos):Plain (.ListComp elt gs sc pos):=⟨λ_ _ _ _ _ _ _=>⟨rfl,rfl⟩,λ_ _ _ _ _ _ _=>⟨rfl,rfl⟩⟩
theorem Zki {Y:Cx}{e tg it0:Expr}{ifs:List Expr}{d:Nat}{acc:Value}{pins:List (Addr × Obj)}{σ:St}{s:Shared}{itv:Value}{RR:It->Hp->Prop}{R:Result->Shared->Prop}(hpl:Plain e) (hcl:(clausesOf e)[d]?=some ⟨tg,it0,ifs,0⟩)
  (h:PIE Y pins σ tg RR itv s) (h0:codeAny (model Y.prog Y.w) Y.A (.compLoop e d itv acc Y.env) R s):codeAny (model Y.prog Y.w) Y.A (.compStart e d itv acc Y.env) R s:=by
 obtain⟨it,fp,tn,J,H2,e0,I2,T,st2,f2,_⟩:=h;subst e0;refine codeAny_of_tree ?_;obtain⟨z1,z2⟩:=hpl.su Y.prog Y.w Y.A d (.ref it) acc Y.env;rw[z1,z2];refine wpAny_notedAt ?_;unfold compStart;rw[hcl];show wpAny _ _ (ask >>= _) _ _ s;refine wpAny_bind (wpAny_askSetting (wpAny_ite ?_));split
 ·first
   |exact wpAny_bind (wpAny_pure (wpAny_pure (And.intro rfl h0)))
   |exact wpAny_pure (And.intro rfl h0)
 ·refine wpAny_bind (wpAny_rule ?_)
  show wpAny _ _ (standAt it0.pos >>= _) _ _ s;exact wpAny_bind (wpAny_standAt (wpAny_bind (T.self _ 0 _ _ _ st2 (wpAny_pure (And.intro rfl h0)))))
section
variable {K:W.Frag}{Δ:Evt}
end
section
variable {K:W.Frag}{Δ:Evt}{P:D->Evt->Prop}
end
theorem ObjOk.has {P:Program}{w:World}{H:Hp}{h:Heap}{a:Addr}{o:HO}(x:ObjOk P w H h a o):∃ob,h.get? a=some ob:=by
 cases o with
 |lst xs=>obtain⟨_,_,_,_,e⟩:=x;exact⟨_,e⟩
 |tup xs=>obtain⟨_,_,_,o,e,_⟩:=x;exact⟨_,e⟩
 |dK kvs=>obtain⟨_,_,_,_,o,_,_,e,_⟩:=x;exact⟨_,e⟩
 |dT kvs=>obtain⟨_,_,_,_,o,_,_,e,_⟩:=x;exact⟨_,e⟩
 |set S n=>obtain⟨o,_,_,_,e,_⟩:=x;exact⟨_,e⟩
 |ins C dx fs=>obtain⟨_,_,_,e,_⟩:=x;exact⟨_,e⟩
 |own y=>exact x
 |xd fs=>obtain⟨_,⟨_,_,_,e,_⟩,_⟩:=x;exact⟨_,e⟩
 |rng lo hi=>obtain⟨_,_,_,e⟩:=x;exact⟨_,e⟩
 |frz ob u=>obtain⟨e,_⟩:=x;exact⟨_,e⟩
 |tbl ps=>exact⟨_,x⟩
 |met f y=>exact⟨_,x⟩
 |ext φ=>exact x.2.1
theorem HOk.noneAt {P:Program}{w:World}{H:Hp}{h:Heap}{a:Addr}(x:HOk P w H h) (e:h.get? a=none):H a=none:=by
 cases q:H a with
 |none=>rfl
 |some o=>obtain⟨ob,z⟩:=(x a o q).has;rw[e]at z;cases z
structure Nw (X:Cx) (pins:List (Addr × Obj)) (H:Hp) (b:Addr):Prop where
 old:X.s₀.heap.get? b=none
 trk:H b=none
 loc:b≠X.env.locals
 cel:∀x c,X.env.cells.lookup x=some c->c≠b
 pin:∀p∈X.pn++pins,p.1≠b
section
variable {X:Cx}{pins:List (Addr × Obj)}{σ:St}{H H':Hp}{s:Shared}{h':Heap}{b:Addr}
theorem Nw.of (I:Inv X pins σ H s) (hex:X.ex=[]) (e:s.heap.get? b=none):Nw X pins H b where
 old:=by
  cases q:X.s₀.heap.get? b with
  |none=>rfl
  |some o=>obtain⟨o',z⟩:=I.base.there b o q (by rw[hex];simp);rw[e]at z;cases z
 trk:=I.hok.noneAt e
 loc:=by rintro rfl;obtain⟨m,⟨o,_,_,ho,_⟩,_⟩:=I.loc;rw[e]at ho;cases ho
 cel:=λx c hc z=>by subst z;obtain⟨v,o,ho,_⟩:=I.cell x c hc;rw[e]at ho;cases ho
 pin:=λp hp z=>by have:=(I.pin p hp).1;rw[z,e]at this;cases this
theorem Nw.at (n:Nw X pins H b) (h:H' b=none):Nw X pins H' b:=⟨n.old,h,n.loc,n.cel,n.pin⟩
theorem Inv.moved {hid:List Addr}(I:Inv X pins σ H s) (hex:X.ex=[]) (new:∀b∈hid,Nw X pins H b) (kp:∀b o,s.heap.get? b=some o->b ∉ hid->b ∉ frs X.stack->h'.get? b=some o) (up:s.heap.UpToSlots h'):Inv X pins σ H { s with heap:=h' }:=by
 have nst:∀b,b≠X.env.locals->b ∉ X.fs->b ∉ frs X.stack:=λb h1 h2 z=>(Wam.mp (I.stkSub b z)).elim h1 h2;have neL:∀b o,X.s₀.heap.get? b=some o->b≠X.env.locals:=λb o e=>Way (Wav (Wao e) I.ok.above);have nhd:∀b o,X.s₀.heap.get? b=some o->b ∉ hid:=λb o e z=>by rw[(new b z).old]at e;cases e
 have nx:∀b,b ∉ X.ex:=λb=>by rw[hex];simp
 have cellK:∀c v,s.heap.IsCell c v->h'.IsCell c v:=λc v hq=>by
  obtain⟨o,ho,hd⟩:=hq;obtain⟨sl,e⟩:=up c o ho (λvs q=>by rw[hd]at q;cases q);exact⟨_,e,hd⟩
 refine⟨I.ok,I.os,I.bare,⟨λb o e n hb hx=>?_,λb o e n hb hx=>?_,I.base.free,λb o e hx=>?_,I.base.tups,I.base.frzs,I.base.tbls⟩,?_,λx c e=>?_,I.free,I.freeC,λp hp=>?_,λb u e=>?_,I.len⟩
 ·exact kp b o (I.base.keep b o e n hb hx) (nhd b o e) (nst b (neL b o e) hb)
 ·obtain⟨sl,e1⟩:=I.base.slot b o e n hb hx
  obtain⟨_,o',ho',hd⟩:=I.funs.mem hb;rw[e1]at ho';cases ho';obtain⟨sl',e2⟩:=up b _ e1 hd;exact⟨sl',e2⟩
 ·obtain⟨o',e1⟩:=I.base.there b o e hx
  by_cases hb:b∈frs X.stack
  ·obtain⟨_,o2,ho',hd⟩:=I.stack.mem hb
   obtain⟨sl',e2⟩:=up b _ ho' hd;exact⟨_,e2⟩
  ·exact⟨o',kp b o' e1 (nhd b o e) hb⟩
 ·obtain⟨m,hn,hl⟩:=I.loc
  refine⟨m,up.ns hn,λi x v e1 e2 e3=>?_⟩;obtain⟨u,r,l⟩:=hl i x v e1 e2 e3;refine⟨u,r,?_⟩;rcases l with l|⟨k,c,e,z⟩
  ·exact .inl l
  ·exact .inr ⟨k,c,e,cellK c _ z⟩
 ·obtain⟨v,z⟩:=I.cell x c e
  exact⟨v,cellK c v z⟩
 ·obtain⟨e,n,ne,nf,d⟩:=I.pin p hp
  exact⟨kp p.1 p.2 e (λz=>(new _ z).pin p hp rfl) (nst _ ne nf),n,ne,nf,d⟩
 ·refine(I.hok b u e).stay (λc v hc q=>kp c v q (λz=>?_) λz=>?_) (λ_ q=>q) λ_ _ q=>q
  ·have n:=(new c z).trk
   rcases hc with rfl|hc
   ·rw[e]at n;cases n
   ·rw[hc]at n;cases n
  ·have n:=I.stkFree c z
   rcases hc with rfl|hc
   ·rw[e]at n;cases n
   ·rw[hc]at n;cases n
end
def Trc (h:Heap) (a C T:Addr):Prop:=
 ∃oe vs oT ts,h.get? a=some oe/\oe.cls=.ref C/\oe.data=.fields vs/\vs[1]?=some (.ref T)/\vs[2]?=some .none/\T≠a/\h.get? T=some oT/\oT.data=.fields ts/\ts[3]?=some .none
section
variable {M:Model}{A:Around}{E:Value->Shared->Prop}{s:Shared}{Q:Unit->Shared->Prop}{env:Env}{outer:List Env}{base:Heap}{L e:Addr}{oe:Obj}{vs:Array Value}
theorem Zs4 (hl:s.heap.FunFrames base (env::outer)) (he:s.heap.get? e=some oe) (hd:oe.data=.fields vs):e ∉ frs (env::outer):=λhm=>by
 obtain⟨_,o,ho,hn⟩:=hl.mem hm;rw[he]at ho;exact hn vs (Wau.inj ho ▸ hd)
structure Noted (h h':Heap) (l:List Env) (e:Addr) (oe:Obj) (T:Addr):Prop where
 keep:∀b o,h.get? b=some o->b≠e->b ∉ frs l->h'.get? b=some o
 up:∀b o,h.get? b=some o->b≠e->(∀ws,o.data≠.fields ws)->∃sl,h'.get? b=some { o with slots:=sl }
 new:h.get? T=none
 exc:h'.get? e=some (oe.mapFields (·.setIfInBounds 1 (.ref T)))
 tb:∃oT ts,h'.get? T=some oT/\oT.data=.fields ts/\3<ts.size
theorem entryX {head:Value}{hadNext:Bool}(hfr:A.frames=some (env::outer)) (hl:s.heap.FunFrames base (env::outer)) (hf:env.frame=some L) (he:s.heap.get? e=some oe) (hd:oe.data=.fields vs) (hsz:1<vs.size)
  (h:∀h' T,Noted s.heap h' (env::outer) e oe T->Q () { s with heap:=h' }) :
  wpAny M A (do let a ← frameOf env;let pl ← entryPlaceOf L hadNext;let b ← EntryCells.newEntry head a .none (rawInt L) .none pl;setField (.ref e) 1 b) Q E s:=by
 have hene:=Zs4 hl he hd;refine wpAny_bind (wpAny_frameOf_fun hfr hl hf λg1 hg=>?_);refine wpAny_bind (wpAny_entryPlaceOf λpl hp=>?_);unfold EntryCells.newEntry newFields;refine wpAny_bind (wpAny_newObj_type ?_ (hp.sizeOk5 _ _ _ _ _));have he1:g1.get? e=some oe:=(hg.2.1 e hene).trans he;have he2:=Wac (h:=g1) { cls:=.type "traceback",dict:=none,data:=.fields ([head,.ref L,.none,rawInt L,.none]++(if pl.isEmpty then Wai 6 Value.none else pl)).toArray } he1;refine wpAny_setField he2 hd hsz (h _ g1.objs.size ?_);have nT:g1.objs.size≠e:=Wcc (Wao he1);have hd3:=Obj.data_mapFields hd (·.setIfInBounds 1 (Value.ref g1.objs.size));have hT3:=(Wa7 (g1.push { cls:=.type "traceback",dict:=none,data:=.fields ([head,.ref L,.none,rawInt L,.none]++(if pl.isEmpty then Wai 6 Value.none else pl)).toArray }) (Obj.mapFields (·.setIfInBounds 1 (Value.ref g1.objs.size))) (Ne.symm nT)).trans (Wal g1 rfl);refine⟨λb o hb h1 h2=>?_,λb o hb h1 hn=>?_,?_,?_,⟨_,_,hT3,rfl,?_⟩⟩
 ·rw[Wa7 _ _ (Ne.symm h1)]
  exact Wac _ ((hg.2.1 b h2).trans hb)
 ·obtain⟨sl,q⟩:=hg.2.2 b o hb
  exact⟨sl,by rw[Wa7 _ _ (Ne.symm h1)];exact Wac _ q⟩
 ·exact Heap.get?_none_of_le (by rw[hg.1];exact Wak _)
 ·exact Wbh _ he2 (Obj.isFreed_of_fields hd3)
 ·rw[Waf,Wag,Wax,Wax,Wax,Wax]
  omega
theorem noteN (hfr:A.frames=some (env::outer)) (hl:s.heap.FunFrames base (env::outer)) (hf:env.frame=some L) (he:s.heap.get? e=some oe) (hd:oe.data=.fields vs) (h1:vs[1]?=some .none)
  (h:∀h' T,Noted s.heap h' (env::outer) e oe T->Q () { s with heap:=h' }):wpAny M A (noteFrame (.ref e) env) Q E s:=by
 unfold noteFrame;simp only[hf];refine wpAny_bind (wpAny_field he hd h1 ?_);rw[if_neg (by decide)];exact entryX hfr hl hf he hd (Array.getElem?_eq_some_iff.mp h1).1 h
theorem noteT {T:Addr}{oT:Obj}{ts:Array Value}(hfr:A.frames=some (env::outer)) (hl:s.heap.FunFrames base (env::outer)) (hf:env.frame=some L) (he:s.heap.get? e=some oe) (hd:oe.data=.fields vs) (h1:vs[1]?=some (.ref T)) (hTe:T≠e)
  (hT:s.heap.get? T=some oT) (hdT:oT.data=.fields ts) (h3:ts[3]?=some .none) (h:∀h' T',Noted (s.heap.update T (Obj.mapFields (·.setIfInBounds 3 .none))) h' (env::outer) e oe T' -> Q () { s with heap:=h' }):wpAny M A (noteFrame (.ref e) env) Q E s:=by
 unfold noteFrame;simp only[hf];refine wpAny_bind (wpAny_field he hd h1 ?_);rw[if_pos (show (Value.ref T != Value.none)=true from by simp)];refine wpAny_bind (wpAny_field hT hdT h3 ?_);rw[if_neg (show ¬ ((Value.none == rawInt L)=true) from by simp[rawInt])];refine wpAny_bind (wpAny_setField hT hdT (Array.getElem?_eq_some_iff.mp h3).1 ?_);have ot:∀b,b≠T->(s.heap.update T (Obj.mapFields (·.setIfInBounds 3 Value.none))).get? b=s.heap.get? b:=λb hb=>Wa7 _ _ (Ne.symm hb);refine entryX (s:={ s with heap:=s.heap.update T (Obj.mapFields (·.setIfInBounds 3 .none)) }) hfr (hl.of_keeps λb o hb hn=>⟨o,(ot b λq=>?_).trans hb,rfl⟩) hf ((ot e (Ne.symm hTe)).trans he) hd (Array.getElem?_eq_some_iff.mp h1).1 λh' T' n=>h h' T' n;rw[q,hT]at hb;exact hn ts (Wau.inj hb ▸ hdT)
end
section
variable {X:Cx}{pins:List (Addr × Obj)}{σ:St}{H H':Hp}{s:Shared}{h':Heap}{a C T:Addr}
theorem Inv.noted {h0:Heap}{oe:Obj}{vs:Array Value}{hid:List Addr}{T':Addr}(I:Inv X pins σ H s) (hex:X.ex=[]) (na:Nw X pins H a) (new:∀b∈hid,Nw X pins H b) (he:s.heap.get? a=some oe) (hc:oe.cls=.ref C) (hd:oe.data=.fields vs) (h2:vs[2]?=some .none)
  (k0:∀b,b ∉ hid->h0.get? b=s.heap.get? b) (hf0:∀b∈hid,∀o,s.heap.get? b=some o->∃ws,o.data=.fields ws) (hn0:∀b,h0.get? b=none->s.heap.get? b=none) (n:Noted h0 h' X.stack a oe T') {h3:Heap}(e3:h3=h'.update T' (Obj.mapFields (·.setIfInBounds 3 .none))) :
  Inv X pins σ H { s with heap:=h3 } /\ Trc h3 a C T' /\ Nw X pins H T':=by
 subst e3;have nT:=Nw.of I hex (hn0 _ n.new);have ot:∀b,b≠T' -> (h'.update T' (Obj.mapFields (·.setIfInBounds 3 Value.none))).get? b=h'.get? b:=λb hb=>Wa7 _ _ (Ne.symm hb);have hTa:T'≠a:=by rintro rfl;have z:=hn0 _ n.new;rw[he]at z;cases z
 have ne:∀b o,s.heap.get? b=some o->b≠T':=λb o e z=>by subst z;rw[hn0 _ n.new]at e;cases e
 have fl:∀b,b∈a::hid->∀o,s.heap.get? b=some o->∃ws,o.data=.fields ws:=λb hb o e=>by
  rcases Wam.mp hb with rfl|hb
  ·rw[he]at e;cases e;exact⟨vs,hd⟩
  ·exact hf0 b hb o e
 refine⟨I.moved (hid:=a::hid) hex (λb hb=>(Wam.mp hb).elim (λz=>by subst z;exact na) (new b)) (λb o e h1 h2=>?_) (λb o e hnf=>?_),?_,nT⟩
 ·have h1a:b≠a:=λz=>h1 (by simp[z])
  have h1b:b ∉ hid:=λz=>h1 (Waq _ z);rw[ot b (ne b o e)];exact n.keep b o ((k0 b h1b).trans e) h1a h2
 ·have hb:b ∉ a::hid:=λz=>by obtain⟨ws,q⟩:=fl b z o e;exact hnf ws q
  have h1a:b≠a:=λz=>hb (by simp[z]);have h1b:b ∉ hid:=λz=>hb (Waq _ z);obtain⟨sl,q⟩:=n.up b o ((k0 b h1b).trans e) h1a hnf;exact⟨sl,(ot b (ne b o e)).trans q⟩
 ·obtain⟨oT,ts,t1,t2,t3⟩:=n.tb
  have sz:2<vs.size:=(Array.getElem?_eq_some_iff.mp h2).1;refine⟨_,_,_,_,(ot a (Ne.symm hTa)).trans n.exc,(Obj.cls_mapFields _ _).trans hc,Obj.data_mapFields hd _,?_,?_,hTa,Wbh _ t1 (Obj.isFreed_of_fields (Obj.data_mapFields t2 _)),Obj.data_mapFields t2 _,?_⟩
  ·simp[show 1<vs.size by omega]
  ·rw[Array.getElem?_setIfInBounds_ne (by decide)];exact h2
  ·simp[t3]
variable {M:Model}{E:Value->Shared->Prop}{Q:Unit->Shared->Prop}
theorem Zjx {h h':Heap}{l:List Env}{e T:Addr}{oe:Obj}{vs:Array Value}{A:Around}{s:Shared}(hd:oe.data=.fields vs) (sz:1<vs.size) (n:Noted h h' l e oe T) (h:Q () { s with heap:=h'.update T (Obj.mapFields (·.setIfInBounds 3 .none)) }) :
  wpAny M A (setFlight (.ref e) none) Q E { s with heap:=h' }:=by
 obtain⟨oT,ts,t1,t2,t3⟩:=n.tb;exact wpAny_setFlight_none (s:={ s with heap:=h' }) n.exc (Obj.data_mapFields hd _) (by simp[sz]) t1 t2 t3 h
theorem Zl5 (I:Inv X pins σ H s) (hex:X.ex=[]) (hst:X.stack=X.env::X.outer) (hf:X.env.frame=some X.env.locals) (tr:Trc s.heap a C T) (na:Nw X pins H a) (nT:Nw X pins H T)
  (h:∀h' T',Inv X pins σ H { s with heap:=h' } -> Trc h' a C T' -> Nw X pins H T' -> Q () { s with heap:=h' }):wpAny M X.A (noteFrame (.ref a) X.env) (λ_ s2=>wpAny M X.A (setFlight (.ref a) none) Q E s2) E s:=by
 obtain⟨oe,vs,oT,ts,h1,h2,h3,h4,h5,h6,h7,h8,h9⟩:=tr;have hfr:=I.ok.frames;have hl:=I.stack;rw[hst]at hfr hl;have ot:∀b,b≠T->(s.heap.update T (Obj.mapFields (·.setIfInBounds 3 Value.none))).get? b=s.heap.get? b:=λb hb=>Wa7 _ _ (Ne.symm hb);refine noteT hfr hl hf h1 h3 h4 h6 h7 h8 h9 λh' T' n=>?_;refine Zjx h3 (Array.getElem?_eq_some_iff.mp h4).1 n ?_;rw[<- hst]at n;obtain⟨J,t1,t2⟩:=I.noted (hid:=[T]) hex na (λb hb=>by rcases Wam.mp hb with rfl|hb;exact nT;cases hb) h1 h2 h3 h5 (λb hb=>ot b (by simpa using hb)) (λb hb o e=>by
  have hb:b=T:=by simpa using hb
  subst hb;rw[h7]at e;cases e;exact⟨ts,h8⟩) (λb e=>by
   by_cases hb:b=T
   ·subst hb
    rw[Wbh _ h7 (Obj.isFreed_of_fields (Obj.data_mapFields h8 _))]at e;cases e
   ·exact(ot b hb).symm.trans e) n rfl
 exact h _ T' J t1 t2
theorem Zna (I:Inv X pins σ H s) (hex:X.ex=[]) (hst:X.stack=X.env::X.outer) (hf:X.env.frame=some X.env.locals) (tr:Trc s.heap a C T) (na:Nw X pins H a) (nT:Nw X pins H T)
  (h:∀h' T',Inv X pins σ H { s with heap:=h' } -> Trc h' a C T' -> Nw X pins H T' -> Q () { s with heap:=h' }):wpAny M X.A (leaving X.env (.ref a)) Q E s:=by
 unfold leaving;exact wpAny_bind (Zl5 I hex hst hf tr na nT h)
theorem Zkw {h1:Heap}{args:List Value}(I:Inv X pins σ H s) (hex:X.ex=[]) (hst:X.stack=X.env::X.outer) (hf:X.env.frame=some X.env.locals) (hm:Heap.MadeExcOf s.heap h1 a (.ref C) args)
  (h:∀h' T',Inv X pins σ H { s with heap:=h' } -> Trc h' a C T' -> Nw X pins H a->Nw X pins H T' -> Q () { s with heap:=h' }):wpAny M X.A (leaving X.env (.ref a)) Q E { s with heap:=h1 }:=by
 have J:Inv X pins σ H { s with heap:=h1 }:=I.kept (t':=s.toks) hm.keeps;have na:=Nw.of I hex hm.new;obtain⟨t,he,_,_⟩:=hm.there;have hfr:=J.ok.frames;have hl:=J.stack;rw[hst]at hfr hl;unfold leaving;refine wpAny_bind (noteN (s:={ s with heap:=h1 }) hfr hl hf he rfl rfl λh' T' n=>?_);refine Zjx (vs:=#[.ref t,.none,.none,.none,.bool false,.none]) (s:={ s with heap:=h1 }) rfl (show 1<6 by decide) n ?_;rw[<- hst]at n;obtain⟨J2,t1,t2⟩:=J.noted (hid:=[]) hex na (λb hb=>by cases hb) he rfl rfl rfl (λb _=>rfl) (λb hb=>by cases hb) (λb e=>e) n rfl;exact h _ T' J2 t1 na t2
theorem Zoc {A:Around}(I:Inv X pins σ H s) (hex:X.ex=[]) (tr:Trc s.heap a C T) (na:Nw X pins H a) (nT:Nw X pins H T)
  (h:∀h' T',Inv X pins σ H { s with heap:=h' } -> Trc h' a C T' -> Nw X pins H T' -> Q () { s with heap:=h' }):wpAny M A (setFlight (.ref a) none) Q E s:=by
 obtain⟨oe,vs,oT,ts,h1,h2,h3,h4,h5,h6,h7,h8,h9⟩:=tr;have sz:=(Array.getElem?_eq_some_iff.mp h9).1;have ot:∀b,b≠T->(s.heap.update T (Obj.mapFields (·.setIfInBounds 3 Value.none))).get? b=s.heap.get? b:=λb hb=>Wa7 _ _ (Ne.symm hb);refine wpAny_setFlight_none h1 h3 h4 h7 h8 sz (h _ T ?_ ?_ nT)
 ·refine I.moved (hid:=[T]) hex (λb hb=>by rcases Wam.mp hb with rfl|hb;exact nT;cases hb) (λb o e hb _=>(ot b (by simpa using hb)).trans e) (λb o e hnf=>⟨o.slots,(ot b λz=>?_).trans e⟩)
  subst z;rw[h7]at e;cases e;exact hnf ts h8
 ·exact⟨oe,vs,_,_,(ot a (Ne.symm h6)).trans h1,h2,h3,h4,h5,h6,Wbh _ h7 (Obj.isFreed_of_fields (Obj.data_mapFields h8 _)),Obj.data_mapFields h8 _,by simp[sz]⟩
end
def CXE (P:Program) (w:World):CXT:=λouter H s E e s'=>
 ∃(a C T:Addr) (H':Hp),e=.ref a/\s'.os=s.os/\AllBare s'.gens/\Un (frs outer) [] H H' s.heap s'.heap/\HOk P w H' s'.heap/\H' a=none/\s.heap.get? a=none/\H' T=none/\s.heap.get? T=none/\Trc s'.heap a C T/\E (.ref C) none H'
def Throws (X:Cx) (E:XK):Prop:=∀(pins:List (Addr × Obj)) (σ:St) (H:Hp) (s:Shared) (h1:Heap) (a C:Addr) (args:List Value),Inv X pins σ H s->Heap.MadeExcOf s.heap h1 a (.ref C) args->E (.ref C) none H->X.xe (.ref a) { s with heap:=h1 }
section
variable {P:Program}{w:World}{K:W.Frag}{mg:Str->Option Value}{base:Heap}{N:List Str}{qual:Str}{scope:Scope}{f:Addr}{cd:Value}{A:Around}{outer:List Env}{s0:Shared}{H0:Hp}{E:XK}
theorem Zgb:Throws (cxOf (CXE P w) P w K mg base N qual scope f cd A outer s0 H0 E) E:=λpins σ H s h1 a C args I hm hE=>by
 refine Zkw I rfl rfl rfl hm λh' T' J2 t1 na t2=>?_;exact⟨a,C,T',H,rfl,J2.os,J2.bare,J2.base,J2.hok,na.trk,na.old,t2.trk,t2.old,t1,hE⟩
end
abbrev ExcC (K:W.Frag) (C:Addr):Prop:=PySem.W.excIn K C [.type "ValueError",.type "Exception",.type "BaseException",.type "object"] "ValueError.__new__" = true
def ExcO (h:Heap) (C:Addr) (bm:List Value):Prop:=∃N nm qn bs hd sn sub ab col dd k0 k1 k2 k3 k5 mN,h.get? C=some (excClassObj nm qn C N bs bm hd sn sub ab col dd k0 k1 k2 k3 k5 "ValueError.__new__")/\h.Ns N mN/\mN "__init__" = none/\OwnTail h [.type "ValueError",.type "Exception",.type "BaseException",.type "object"] bm
theorem Zeq {K:W.Frag}{h:Heap}{C:Addr}(X:K.In h) (q:ExcC K C):∃bm,ExcO h C bm/\∀v b,PySem.W.mroIn K C v=some b->(Value.ref C::bm).contains v=b:=by
 unfold ExcC PySem.W.excIn at q;split at q
 next dd cd sl e=>
  split at q
  next C' bm k0 k1 k2 k3 n k5 e1 e2=>
   rw[Wa6,Wa6,Wa6,Wa6,Wa6]at q;obtain⟨⟨⟨⟨⟨q1,q2⟩,q3⟩,q4⟩,q5⟩,q6⟩:=q;have q1:=beq_iff_eq.mp q1;have q2:=beq_iff_eq.mp q2;rw[Bool.not_eq_true']at q3;subst q1;cases cd with
   |mk nm bs mro ns qn hd sn sub ab col del=>
    dsimp only at e1 q3 q5 q6;have q7:=beq_iff_eq.mp q6;subst e1;subst q3;have e3:sl = #[k0,k1,k2,k3,some (.builtin n),k5]:=by
     cases sl with
     |mk l=>exact congrArg Array.mk e2
    subst e3;subst q2;refine⟨bm,⟨ns,nm,qn,bs,hd,sn,sub,ab,col,dd,k0,k1,k2,k3,k5,_,X _ _ e,.of_isNs (PySem.W.isNs_of_in X q5),PySem.W.nsMap_none_of_in X q5 q7,PySem.W.tail_of_in X q4⟩,λv b hv=>?_⟩;unfold PySem.W.mroIn PySem.W.clsIn at hv;rw[e]at hv;have hv:some ((Value.ref C'::bm).contains v)=some b:=hv;exact Wau.inj hv
  next=>cases q
 next=>cases q
def tRaise (C:Addr) (E:XK) (t:TA):TS:=λ_ σ H=>t σ H λvs H1=>vs.length<=sizeLine/\E (.ref C) none H1
section
variable {X:Cx}{x:Str}{C:Addr}{np cpos pos:Pos}{e:Expr}{es:List Expr}{t:TA}{E:XK}
theorem Zgl (cl:ExcC X.K C) (hg:Gl X x) (hm:X.mg x=some (.ref C)) (hh:X.A.handled=none) (hr:Throws X E) (ha:PA X (e::es) t) (hdb:(x == ("__debug__":Str))=false:=by decide)
  (he:starEach (e::es) X.env=(false,eval e X.env)::starEach es X.env:=by rfl) (hpl:(backTo cpos (starEach (e::es) X.env)).any (·.1)=false:=by rfl):PS X (.Raise (some (.Call (.Name x np) (e::es) [] cpos)) none pos) (tRaise C E t):=by
 intro pins s σ H D I h;obtain⟨bm,⟨N,nm,qn,bs,hd,sn,sub,ab,col,dd,k0,k1,k2,k3,k5,mN,o1,o2,o3,o4⟩,_⟩:=Zeq I.ok.mod.kin cl;refine wpAny_Raise_call_subT (C:=C) (nm:=nm) (q:=qn) (N:=N) (bs:=bs) (bm:=bm) (hdct:=hd) (sn:=sn) (sub:=sub) (ab:=ab) (col:=col) (dd:=dd) (k0:=k0) (k1:=k1) (k2:=k2) (k3:=k3) (k5:=k5) (mN:=mN) F.excBase_ValueError (o4.hasType rfl) hh hpl o3 ?_;refine Zep I hg hm ⟨rfl,?_⟩ hdb;have e1:backTo cpos (starEach (e::es) X.env)=(false,eval e X.env)::backTo cpos (starEach es X.env):=by rw[he];rfl
 rw[e1];refine Calls.evalArgs_plain ?_;rw[<- e1];refine thn (ha cpos pins s σ H _ I h) λus s1 ⟨vs,H1,I1,r,z,q⟩=>?_;exact⟨rfl,by rw[<- r.length];exact z,I1.bk _ _ o1,o2.keeps I1.bk,o4.keeps I1.bk,λh' a hm'=>hr pins σ H1 s1 h' a C us I1 hm' q⟩
end
structure ExcI (K:W.Frag) (C:Addr):Prop where
 cl:ExcC K C
 ga:PySem.W.findIn K (.ref C) "__getattribute__" = some (some (.builtin "BaseException.__getattribute__"))
 gt:PySem.W.findIn K (.ref C) "__getattr__" = some none
 ca:PySem.W.findIn K (.ref C) "__class__" = some (some (.builtin "object.__class__"))
 gs:PySem.W.specialIn K (.builtin "object.__class__") "__get__" = some (some (.builtin "getset_descriptor.__get__"))
 tk:PySem.W.takesIn K (.builtin "object.__class__")=some true
 ob:PySem.W.mroIn K C (.type "object")=some true
 be:PySem.W.mroIn K C (.type "BaseException")=some true
theorem InsC.ty {a C:Addr}{h:Heap}{M:Model}(I:InsC a C h):PySem.W.Looks M h (typeOf (.ref a)) (.ref C):=by
 obtain⟨o,_,h1,h2,_⟩:=I;exact h2 ▸ (PySem.W.Looks.ld h1).andThen .now
section
variable {prog:Program}{w:World}{A:Around}{E:Value->Shared->Prop}{K:W.Frag}{s:Shared}{a C:Addr}
theorem Zlo {M:Model}{nameV:Value}{Q:Unit->Shared->Prop}(X:K.In s.heap) (Z:ExcI K C) (I:InsC a C s.heap) (hq:Q () s):wpAny M A (checkBuiltinCall "BaseException.__getattribute__" ⟨[.ref a,nameV],[]⟩) Q E s:=by
 obtain⟨h,g,d,t,os⟩:=s;have hk:builtinKind "BaseException.__getattribute__" = some .slot:=by decide +kernel
 have hs:splitId "BaseException.__getattribute__" = some ("BaseException","__getattribute__"):=by decide +kernel
 obtain⟨bm,⟨N,nm,qn,bs,hd,sn,sub,ab,col,dd,k0,k1,k2,k3,k5,mN,hC,o2,o3,o4⟩,hmro⟩:=Zeq X Z.cl;have hB:=hmro _ _ Z.be;obtain⟨ox,_,hx,hc,_⟩:=I;have ha:=F.args_bexc_ga (.ref a) nameV;simp only[checkBuiltinCall,hk,hs];refine wpAny_bind ?_;unfold isInstance
 repeat (first|(with_reducible refine wpAny_loadPart_at hx ?_;rw[hc])|(with_reducible refine wpAny_isSubtype_exc hC ?_;rw[hB])|wp_step)
 exact hq
theorem Zj9 {R:Result->Shared->Prop}{tp:Value}(X:K.In s.heap) (I:InsC a C s.heap) (hm:PySem.W.mroIn K C (.type "object")=some true) (h:R (.ok (.ret (.ref C))) s) :
  codeAny (model prog w) A (.call (.builtin "getset_descriptor.__get__") ⟨[.builtin "object.__class__",.ref a,tp],[]⟩) R s:=by
 obtain⟨h0,g,d,t,os⟩:=s;have l0:=I.ty (M:=model prog w);have l1:=PySem.W.looks_mroIn (M:=model prog w) X hm;have ht:(⟨h0,g,d,t,os⟩:Shared).TypeIs (.builtin "object.__class__") "getset_descriptor":=PySem.W.KF.type_class;refine codeAny_call_builtin PySem.W.KF.slot_gs.plain PySem.W.KF.entry_gs (PySem.W.KF.slot_gs.check _ _ _ _ _ _ _ _ ht (PySem.W.KF.args_gs _ _ _) ?_);unfold Builtin.«getset_descriptor.__get__» Builtin.Getset_descriptor.descrGet;rw[PySem.W.dga_obj];refine wpAny_bind (m:=pure _) (wpAny_pure ?_);unfold Builtin.Getset_descriptor.descrGetter Builtin.Getset_descriptor.descrCheckInstance Builtin.Getset_descriptor.descrNameAndClass isInstance;simp only[PySem.W.KF.owner_class]
 repeat lk
 refine⟨Code.quiet_builtin _ (by decide +kernel),codeAny_builtin PySem.W.KF.entry_class ?_⟩;unfold Builtin.«object.__class__» shownTypeOf
 repeat lk
 exact h
theorem Zli {Q:Option Value->Shared->Prop}(X:K.In s.heap) (Z:ExcI K C) (I:InsC a C s.heap) (h:Q (some (.ref C)) { s with toks:=s.toks+1 }):wpAny (model prog w) A (getAttr? (.ref a) "__class__") Q E s:=by
 obtain⟨hh,g,d,t,os⟩:=s;have L0:=I.ty (M:=model prog w);have L1:=PySem.W.looks_findIn (M:=model prog w) X Z.ga;have L2:=PySem.W.looks_findIn (M:=model prog w) X Z.gt;have L3:PySem.W.Looks (model prog w) hh (Builtin.ObjectAttr.find (.ref a) (.ref C) "__class__") (.bind (.builtin "getset_descriptor.__get__") (.builtin "object.__class__")):=by
  unfold Builtin.ObjectAttr.find;refine(PySem.W.looks_findIn X Z.ca).andThen ((show PySem.W.Looks (model prog w) hh (Builtin.ObjectAttr.getOf (some (.builtin "object.__class__"))) _ from PySem.W.looks_specialIn X Z.gs).andThen ?_);have q:PySem.W.Looks (model prog w) hh (Builtin.ObjectAttr.dataDescriptor? (some (.builtin "object.__class__")) (some (.builtin "getset_descriptor.__get__"))) (some (.builtin "getset_descriptor.__get__",.builtin "object.__class__")):=(PySem.W.looks_takesIn X Z.tk).andThen .now;exact q.andThen (PySem.W.Looks.tag .now)
 have f3:=F.excAttr_ValueError.ga.bind (.ref a);have hx2:(Value.builtin "BaseException.__getattribute__" == Value.builtin "object.__getattribute__")=false:=by decide +kernel
 have hx1:(onTheHeap (Value.ref C) && Value.builtin "BaseException.__getattribute__" == Value.builtin "object.__getattribute__")=false:=by rw[hx2];rfl
 unfold getAttr? getAttrBy? getAttrBy;refine wpAny_bind (wpAny_mkText (wpAny_bind (wpAny_attempt (wpAny_holding (wpAny_bind (L0.at (wpAny_bind (L1.at ?_))))))));dsimp only;rw[hx1];rw[if_neg Wan];unfold getAttrByItsOwn hookBefore;rw[if_pos (show onTheHeap (Value.ref C)=true from rfl)];refine wpAny_bind (L2.at (wpAny_bind (wpAny_attempt (wpAny_holding ?_))));unfold callGetattribute;rw[Bool.false_and,if_neg Wan];unfold boundAndCalled;refine wpAny_bind (wpAny_of_eq f3 ?_);refine wpAny_call (codeAny_call_builtin F.excAttr_ValueError.ga.plain F.entry_bexc_ga (Zlo X Z I ?_));unfold Builtin.«object.__getattribute__»;refine wpAny_bind (m:=slotArgs _ _ _) (wpAny_pure ?_);dsimp only;refine wpAny_bind (m:=Builtin.ObjectAttr.attrName _) (wpAny_pure ?_);refine wpAny_bind (L0.at (wpAny_bind (L3.at ?_)));dsimp only;unfold Builtin.ObjectAttr.bindTo;dsimp only;refine wpAny_bind (wpAny_holding (wpAny_call (Zj9 (s:=⟨hh,g,d,t+1,os⟩) X I Z.ob (wpAny_pure ?_))));exact PySem.W.handed_on rfl (wpAny_pure h)
theorem Zgj (Z:ExcI K C):PySem.W.KitX K (.ref a) (.ref C) (InsC a C) where
 ty:=λ_ _ _ I=>I.ty
 it:=λ_ h X _=>by
  obtain⟨bm,⟨N,nm,qn,bs,hd,sn,sub,ab,col,dd,k0,k1,k2,k3,k5,mN,hC,_⟩,_⟩:=Zeq X Z.cl;intro A' Q' E' s' k q;unfold isType loadHead;exact wpAny_bind (wpAny_loadPart (k _ _ hC) (wpAny_pure q))
 ne:=λh tp dd its n sl X htp=>by
  obtain⟨bm,⟨N,nm,qn,bs,hd,sn,sub,ab,col,dd',k0,k1,k2,k3,k5,mN,hC,_⟩,_⟩:=Zeq X Z.cl;refine Bool.eq_false_iff.mpr λq=>?_;have e:C=tp:=Value.ref.inj (beq_iff_eq.mp q);subst e;rw[hC]at htp;exact absurd (congrArg Obj.cls (Wau.inj htp)) (by intro z;injection z with z;exact absurd z (by decide))
 ca:=λX I k=>Zli X Z I k
end
theorem Zft {M:Model}{A:Around}{E:Value->Shared->Prop}{K:W.Frag}{s:Shared}{a C FE:Addr}{Q:Bool->Shared->Prop}(X:K.In s.heap) (cF:ExcC K FE) (cC:ExcC K C) (hm:PySem.W.mroIn K C (.ref FE)=some true) (I:InsC a C s.heap) (hq:Q true s) :
  wpAny M A (excMatches (.ref a) (.ref FE)) Q E s:=by
 obtain⟨h,g,d,t,os⟩:=s;obtain⟨bm,⟨N,nm,qn,bs,hd,sn,sub,ab,col,dd,k0,k1,k2,k3,k5,mN,hC,_⟩,hmro⟩:=Zeq X cC;obtain⟨bm',⟨N',nm',qn',bs',hd',sn',sub',ab',col',dd',k0',k1',k2',k3',k5',mN',hF,_,_,oF⟩,_⟩:=Zeq X cF;have hA:=hmro _ _ hm;have hB:(Value.ref FE::bm').contains (.type "BaseException")=true:=by rw[List.contains_cons,oF.hasType (X:="BaseException") (b:=true) rfl,Bool.or_true]
 obtain⟨ox,_,hx,hc,_⟩:=I;have f:=tc_notTuple;unfold excMatches
 repeat (first|(with_reducible refine wpAny_loadPart_at hx ?_;rw[hc])|with_reducible refine wpAny_loadPart_at hF ?_|(with_reducible refine wpAny_isSubtype_exc hF ?_;rw[hB])|(with_reducible refine wpAny_isSubtype_exc hC ?_;rw[hA])|wp_step)
 exact hq
abbrev XC (X:Cx) (e:Addr):Cx:={ X with A:=X.A.mark (some (.ref e)),calm:=false,xe:=λ_ _=>False }
theorem Cx.Ok.suite {X:Cx}(ok:X.Ok) (e:Addr):(XC X e).Ok:=
 ⟨ok.mod,ok.kind,ok.glob,ok.blt,ok.above,ok.inj,ok.has,ok.cab,(λz=>nomatch z),ok.frames,ok.stk,ok.exf,ok.bs,ok.bsz,ok.noex,ok.exfs,ok.funs,ok.frf⟩
abbrev XT (X:Cx) (pn:List (Addr × Obj)) (xe:Value->Shared->Prop):Cx:={ X with pn:=pn,xe:=xe }
theorem Cx.Ok.try_ {X:Cx}(ok:X.Ok) (pn:List (Addr × Obj)) (xe:Value->Shared->Prop):(XT X pn xe).Ok:=
 ⟨ok.mod,ok.kind,ok.glob,ok.blt,ok.above,ok.inj,ok.has,ok.cab,ok.hd,ok.frames,ok.stk,ok.exf,ok.bs,ok.bsz,ok.noex,ok.exfs,ok.funs,ok.frf⟩
section
variable {X:Cx}{pins:List (Addr × Obj)}{σ:St}{H:Hp}{s:Shared}{a C:Addr}
theorem Inv.suite (I:Inv X pins σ H s) (e:Addr):Inv (XC X e) pins σ H s:=⟨I.ok.suite e,I.os,I.bare,I.base,I.loc,I.cell,I.free,I.freeC,I.pin,I.hok,I.len⟩
theorem Inv.unsuite {e:Addr}(ok:X.Ok) (I:Inv (XC X e) pins σ H s):Inv X pins σ H s:=⟨ok,I.os,I.bare,I.base,I.loc,I.cell,I.free,I.freeC,I.pin,I.hok,I.len⟩
theorem Inv.into {xe:Value->Shared->Prop}(I:Inv X pins σ H s):Inv (XT X (X.pn++pins) xe) [] σ H s:=⟨I.ok.try_ _ _,I.os,I.bare,I.base,I.loc,I.cell,I.free,I.freeC,λp hp=>I.pin p (by simpa using hp),I.hok,I.len⟩
theorem Inv.outof {xe:Value->Shared->Prop}{pins1:List (Addr × Obj)}(ok:X.Ok) (I:Inv (XT X (X.pn++pins) xe) pins1 σ H s):Inv X pins σ H s:=⟨ok,I.os,I.bare,I.base,I.loc,I.cell,I.free,I.freeC,λp hp=>I.pin p (Wb3 _ hp),I.hok,I.len⟩
theorem Inv.held (I:Inv X pins σ H s) (n:Nw X pins H a) (hi:InsC a C s.heap):Inv X pins σ (upd H a (.ext (InsC a C))) s:=by
 have keep:∀b,b≠a->upd H a (.ext (InsC a C)) b=H b:=λb hb=>Zal hb;have nn:∀b u,H b=some u->b≠a:=λb u e z=>by subst z;rw[n.trk]at e;cases e
 refine⟨I.ok,I.os,I.bare,⟨I.base.keep,I.base.slot,λb o e q hx=>?_,I.base.there,λb xs e=>?_,λb o u e=>?_,λb ps e=>?_⟩,I.loc,I.cell,?_,λx c e=>?_,λp hp=>?_,λb u e=>?_,I.len⟩
 ·rw[keep b (λz=>by subst z;rw[n.old]at e;cases e)];exact I.base.free b o e q hx
 ·have q:=I.base.tups b xs e
  rw[keep b (nn b _ q)];exact q
 ·have q:=I.base.frzs b o u e
  rw[keep b (nn b _ q)];exact q
 ·obtain⟨m,q⟩:=I.base.tbls b ps e
  exact⟨m,by rw[keep b (nn b _ q)];exact q⟩
 ·rw[keep _ (Ne.symm n.loc)];exact I.free
 ·rw[keep _ (n.cel x c e)];exact I.freeC x c e
 ·obtain⟨e,q,r⟩:=I.pin p hp
  exact⟨e,by rw[keep _ (n.pin p hp)];exact q,r⟩
 ·by_cases hb:b=a
  ·subst hb
   rw[Zan]at e;cases e;obtain⟨ox,vs,h1,h2⟩:=hi;exact⟨⟨ox,vs,h1,h2⟩,⟨ox,h1⟩,λh1' h2' ⟨o,ws,z1,z2⟩ k=>⟨o,ws,k o z1,z2⟩⟩
  ·rw[keep b hb]at e
   refine(I.hok b u e).stay (λc v _ q=>q) (λc q=>?_) λc xs q=>?_
   ·rw[keep c (nn c _ q)];exact q
   ·rw[keep c (nn c _ q)];exact q
theorem Inv.gone {M:Model}{A:Around}{E:Value->Shared->Prop}{i:Nat}{x:Str}{pos:Pos}{Q:Unit->Shared->Prop}(I:Inv X pins σ H s) (hN:X.N.Nodup) (hi:X.N[i]?=some x) (hk:X.env.scope.names.lookup x=some .local)
  (h:∀s',Inv X pins (σ.set i none) H s' -> Q () s'):wpAny M A (do bindName X.env x .none;unbindBehindTheSuite X.env x pos) Q E s:=by
 obtain⟨m,hn,hl⟩:=id I.loc;have hcls:(X.env.scope.kind == .class || (X.env.scope.kind == .module && X.env.locals != X.env.globals))=false:=by rw[I.ok.kind];rfl
 refine wpAny_nameGoes_keeps (show X.env.kindOf x=some .local from hk) hn hcls λh' v hn' hs=>h _ ?_;have cne:=I.cne;obtain⟨oL,_,_,hoL,_⟩:=id hn;have ltL:∀b o,X.s₀.heap.get? b=some o->b≠X.env.locals:=λb o e=>Way (Wav (Wao e) I.ok.above);refine⟨I.ok,I.os,I.bare,⟨λb o e n hb hx=>?_,λb o e n hb hx=>?_,I.base.free,λb o e hx=>?_,I.base.tups,I.base.frzs,I.base.tbls⟩,⟨_,hn',λj y v' e1 e2 e3=>?_⟩,λy c e=>?_,I.free,I.freeC,λp hp=>?_,λb u e=>?_,by simpa using I.len⟩
 ·exact(hs.2 b (ltL b o e)).trans (I.base.keep b o e n hb hx)
 ·obtain⟨sl,e1⟩:=I.base.slot b o e n hb hx
  exact⟨sl,(hs.2 b (ltL b o e)).trans e1⟩
 ·obtain⟨o',e1⟩:=I.base.there b o e hx
  exact⟨o',(hs.2 b (ltL b o e)).trans e1⟩
 ·have hj:j≠i:=by
   intro z;subst z;rw[Wck]at e2;split at e2
   ·split at e2 <;> cases e2
   ·rename_i z;exact z rfl
  rw[Wae (Ne.symm hj)]at e2;obtain⟨u',r',q⟩:=hl j y v' e1 e2 e3;refine⟨u',r',?_⟩;rcases q with ⟨k,e⟩|⟨k,c,e,z⟩
  ·refine .inl ⟨k,?_⟩
   have hy:y≠x:=λe=>hj (Zgw hN e1 (e ▸ hi));show (if y=x then v else m y)=_;rw[if_neg hy];exact e
  ·exact .inr ⟨k,c,e,z.sameBut hs (cne y c e)⟩
 ·obtain⟨w',z⟩:=I.cell y c e
  exact⟨w',z.sameBut hs (cne y c e)⟩
 ·obtain⟨e,n,ne,nf,d⟩:=I.pin p hp
  exact⟨(hs.2 p.1 ne).trans e,n,ne,nf,d⟩
 ·refine(I.hok b u e).stay (λc w' hc q=>(hs.2 c ?_).trans q) (λ_ q=>q) λ_ _ q=>q
  rintro rfl;rcases hc with rfl|hc
  ·rw[I.free]at e;cases e
  ·rw[I.free]at hc;cases hc
end
def tTry (K:W.Frag) (FE:Addr) (i n:Nat) (tb:XK->TS) (th:Addr->TS):TS:=λD σ H=>∃E:XK,tb E D σ H/\∀C H1,E (.ref C) none H1->(ExcC K C/\PySem.W.mroIn K C (.ref FE)=some true) ∧
 ∀a,H1 a=none->th a ⟨λσ' H'=>D.nx (σ'.set i none) H',D.rt,λσ' H'=>D.bk (σ'.set i none) H',λσ' H'=>D.ct (σ'.set i none) H'⟩ ((Wai n none).set i (some (.ref a))) (upd H1 a (.ext (InsC a C)))
section
variable {X:Cx}{x y:Str}{FE:Addr}{np hpos pos:Pos}{b0:Stmt}{body hb:List Stmt}{i n:Nat}{tb:XK->TS}{th:Addr->TS}
theorem Zsu (nd:X.N.Nodup) (hi:X.N[i]?=some y) (hk:X.env.scope.names.lookup y=some .local) (hn:X.N.length=n) (hex:X.ex=[]) (hst:X.stack=X.env::X.outer) (hf:X.env.frame=some X.env.locals) (hg:Gl X x) (hm:X.mg x=some (.ref FE)) (cF:ExcC X.K FE)
  (hbd:∀(E:XK) (pn:List (Addr × Obj)) (xe:Value->Shared->Prop),Passes (CXE X.prog X.w) (XT X pn xe) E->PSs (XT X pn xe) body (tb E)) (hh:∀a,PSs (XC X a) (b0::hb) (th a)) (hfn:X.fn y=true\/X.env.scope.names.lookup y=some .local:=by exact .inr rfl) (hdb:(x == ("__debug__":Str))=false:=by decide) :
  PS X (.Try body [.ExceptHandler (some (.Name x np)) (some y) (b0::hb) hpos] [] [] pos) (tTry X.K FE i n tb th):=by
 intro pins s σ H D I h;obtain⟨E,hB,hE⟩:=h;refine wpAny_Try_except ?_;refine wpAny_mono (hbd E (X.pn++pins) (λe s1=>wpAny (model X.prog X.w) X.A (noteFrame e X.env) (λ_ s2=>wpAny (model X.prog X.w) X.A (setFlight e none) (λ_ s3=>wpAny (model X.prog X.w) X.A (handleBy e X.env [.ExceptHandler (some (.Name x np)) (some y) (b0::hb) hpos]) (SP X pins D) X.xe s3) X.xe s2) X.xe s1) ?_ [] s σ H D I.into hB) (λf s1 hq=>?_) (λ_ _ z=>z)
 ·intro pins1 σ1 H1 s1 e s2 J hq
  obtain⟨a,C,T,H2,rfl,os,bare,un,hok,ha,hsa,hT,hsT,tr,hE'⟩:=hq;have J1:Inv X pins σ1 H1 s1:=Inv.outof I.ok J;have J2:Inv X pins σ1 H2 s2:=J1.call' (ch:=[]) os un hok bare (λb z=>absurd z (by simp));have na:=(Nw.of J1 hex hsa).at ha;have nT:=(Nw.of J1 hex hsT).at hT;obtain⟨⟨cC,mC⟩,hth⟩:=hE C H2 hE';refine Zl5 J2 hex hst hf tr na nT λh3 T3 K3 t3 n3=>?_;have inC:∀{h:Heap}{T:Addr},Trc h a C T->InsC a C h:=λq=>by
   obtain⟨oe,vs,oT,ts,q1,q2,q3,_,q4,_⟩:=q;exact⟨oe,vs,q1,q2,q3,q4⟩
  refine wpAny_handleBy_cons (codeAny_handlers_test ?_) (by intro q;cases q);refine Zep (X:=XC X a) (K3.suite a) hg hm ?_ hdb;refine Zft (K:=X.K) K3.kIn cF cC mC (inC t3) ?_;refine codeAny_handlers_suite_as ?_;refine Zoc K3 hex t3 na n3 λh4 T4 K4 t4 n4=>?_;have K5:=(K4.held na (inC t4)).suite a;have K6:=K5.weak (σ':=Wai n none) (by rw[Wa3,<- hn];exact K5.len.symm) (λj v z=>by
   rw[Wbw]at z;split at z <;> cases z)
  refine Zd3 (X:=XC X a) (v:=.ref a) K6 nd hi (.inl hk) rfl (λs5 K7=>?_) hfn;refine wpAny_mono (hh a pins s5 _ _ _ K7 (hth a ha)) (λf s6 q=>?_) (λ_ _ z=>z.elim);cases f with
  |next=>
   obtain⟨σ',H',K8,q⟩:=q;exact Inv.gone (K8.unsuite I.ok) nd hi hk λs7 K9=>⟨_,H',K9,q⟩
  |brk=>
   obtain⟨σ',H',K8,q⟩:=q;exact Inv.gone (K8.unsuite I.ok) nd hi hk λs7 K9=>⟨_,H',K9,q⟩
  |cont=>
   obtain⟨σ',H',K8,q⟩:=q;exact Inv.gone (K8.unsuite I.ok) nd hi hk λs7 K9=>⟨_,H',K9,q⟩
  |ret u=>
   obtain⟨v,σ',H',K8,r,q⟩:=q;exact Inv.gone (K8.unsuite I.ok) nd hi hk λs7 K9=>⟨v,_,H',K9,r,q⟩
 ·cases f with
  |next=>
   obtain⟨σ',H',J,q⟩:=hq;exact wpAny_execs_nil ⟨σ',H',Inv.outof I.ok J,q⟩
  |brk=>
   obtain⟨σ',H',J,q⟩:=hq;exact⟨σ',H',Inv.outof I.ok J,q⟩
  |cont=>
   obtain⟨σ',H',J,q⟩:=hq;exact⟨σ',H',Inv.outof I.ok J,q⟩
  |ret u=>
   obtain⟨v,σ',H',J,r,q⟩:=hq;exact⟨v,σ',H',Inv.outof I.ok J,r,q⟩
end
def rIsiE (K:W.Frag):List V->Hp->VK->Prop:=λxs H Q=>∃a C b,H a=some (.ext (InsC a C))/\ExcI K C/\Q (.bl b) H ∧
 ((∃c,xs=[.ref a,.ref c]/\PySem.W.kitOne K (.ref C) (.ref c)=some b)\/(∃t,xs=[.ref a,.ty t]/\PySem.W.kitOne K (.ref C) (.type t)=some b) ∨
  ∃(p:Addr) (cs:List Addr),xs=[.ref a,.ref p]/\H p=some (.tup (cs.map V.ref))/\PySem.W.kitAny K (.ref C) (cs.map Value.ref)=some b)
section
variable {X:Cx}
theorem isiEK (K:W.Frag) (hK:X.K=K:=by rfl):CallR X (.builtin "isinstance") (rIsiE K):=by
 subst hK;intro pins s σ H xs us Q I r h;obtain⟨a,C,b,ha,Z,q,h⟩:=h;obtain⟨hi,_⟩:=I.hok a _ ha;rcases h with ⟨c,rfl,e⟩|⟨t,rfl,e⟩|⟨p,cs,rfl,hp,e⟩
 ·obtain⟨u,u',rfl,rx,rn⟩:=vals2 r
  cases (show u=Value.ref a from rx);cases (show u'=Value.ref c from rn);exact PySem.W.kia_one (Zgj Z) I.kIn hi e (λz=>nomatch z) λtk=>⟨.bl b,H,I.tok _,rfl,q⟩
 ·obtain⟨u,u',rfl,rx,rn⟩:=vals2 r
  cases (show u=Value.ref a from rx);cases (show u'=Value.type t from rn);exact PySem.W.kia_one (Zgj Z) I.kIn hi e (λz=>nomatch z) λtk=>⟨.bl b,H,I.tok _,rfl,q⟩
 ·obtain⟨u,u',rfl,rx,rn⟩:=vals2 r
  cases (show u=Value.ref a from rx);cases (show u'=Value.ref p from rn);obtain⟨_,its,rv,o,ho,⟨hc,n,hd⟩,hdd⟩:=I.hok p _ hp;have hv:∀(ns:List Addr) (its:List Value),Vals (ns.map V.ref) its->its=ns.map Value.ref:=by
   intro ns
   induction ns with
   |nil=>intro its h;cases h;rfl
   |cons b r ih=>intro its h;cases h with|cons h1 h2=>cases (show _=Value.ref b from h1);rw[ih _ h2];rfl
  have e2:=hv cs its rv;subst e2;obtain⟨cls,dd,data,sl⟩:=o;simp only at hc hd hdd;subst hc hd hdd;exact PySem.W.kia_tup (Zgj Z) I.kIn hi ho e (λz=>nomatch z) λtk=>⟨.bl b,H,I.tok _,rfl,q⟩
end
structure CalleeX (P:Program) (w:World) (K:W.Frag) (mg:Str->Option Value) (base:Heap) (k:Nat) (x:Str) (ps:List Str) (sp:Sp):Prop where
 ex:∃(f:Addr) (fd:FuncData),FnOk P w K mg base (CXE P w) k f fd ps sp/\Binds K fd ps []/\W.keepIn K (.ref f)=true/\mg x=some (.ref f)
section
variable {X:Cx}{k:Nat}{x:Str}{ps:List Str}{sp:Sp}{e:Expr}{es:List Expr}{t:TA}{p pos:Pos}{E:XK}
theorem Zpj (C:CalleeX X.prog X.w X.K X.mg X.base k x ps sp) (hr:Room k X.A) (hx:Passes (CXE X.prog X.w) X E) (ha:PA X (e::es) t) (hg:Gl X x:=by rfl) (hdb:(x == ("__debug__":Str))=false:=by decide)
  (he:starEach (e::es) X.env=(false,eval e X.env)::starEach es X.env:=by rfl) (hpl:(backTo pos (starEach es X.env)).any (·.1)=false:=by rfl):PE X (.Call (.Name x p) (e::es) [] pos) (tCall sp [] E t):=by
 obtain⟨f,fd,F,b,kp,m⟩:=C.ex;exact Zkp F hr hg m kp b .nil hx ha hdb he hpl
end
section
variable {P:Program}{w:World}{K:W.Frag}{mg:Str->Option Value}{base:Heap}
theorem Fun.okX {x qual:Str}{st:Stmt}{f:Addr}{fd:FuncData}{N ps:List Str}{k:Nat}{sp:Sp}(F:Fun K x qual st f fd) (S:FnScope N ps (defScope st)) (len:∀vs H Q E,sp vs H Q E->vs.length=ps.length)
  (hbody:∀(cdv:Value) (A:Around) (outer:List Env) (s:Shared) (H:Hp) (vs:List V) (Q:VK) (E:XK),Room k (A.deeper (envOfC qual (defScope st) s.heap.objs.size f cdv))->sp vs H Q E →
   ∃t,PSs (cxOf (CXE P w) P w K mg base N qual (defScope st) f cdv A outer s H E) (defBody st) t/\t { nx:=λ_ H'=>Q .non H',rt:=Q } (start N vs) H):FnOk P w K mg base (CXE P w) (k+1) f fd ps sp:=by
 obtain⟨oc,od,kV,doc,pm,an,cdv,ct,osl,rfl,lk,hcd⟩:=F.ex;exact Zqj lk hcd S len λA outer s H vs Q E hr hsp=>hbody cdv A outer s H vs Q E hr hsp
end
def EW (E:XK) (Xp:Addr->Prop) (g:Gm):Prop:=∀C H',(∀b o,¬ g.B b->g.Hz b=some o->H' b=some o)->(∀b,g.B b->H' b≠none)->Same g.F H' -> (∀b o,g.Xo b=some o->H' b=some o)->Xp C->E (.ref C) none H'
def JX (K:W.Frag) (E:XK) (Xp:Addr->Prop) (t:TS) (Δ:Evt) (P:Pst):Prop:=∀g G H σ D,EW E Xp g->Ok K g G H σ Δ -> SCont K g P D->t D σ H
abbrev XSp:=List D->(D->Prop)->(Addr->Prop)->Prop
def spX (K:W.Frag) (f:XSp):Sp:=λvs H Q E=>∃F ds Post Xp,Same F H/\Reps K F vs ds/\f ds Post Xp/\(∀r H' d,Same H H' -> Rep K (glue F H H') r d->Post d->Q r H')/\∀C H',Same H H' -> Xp C->E (.ref C) none H'
section
variable {K:W.Frag}{Δ:Evt}{E:XK}{Xp:Addr->Prop}{nx bk ct:Evt->Prop}{rt:D->Evt->Prop}{ro:OD->Evt->Prop}
theorem EW.at {g:Gm}{G H H':Hp}{σ:St}{C:Addr}(w:EW E Xp g) (k:Ok K g G H σ Δ) (s:Same H H') (x:Xp C):E (.ref C) none H':=
 w C H' (λb o hb e=>s b o (k.same b o hb e)) (λb hb z=>by
  cases q:H b with
  |none=>exact k.lent b hb q
  |some o=>rw[s b o q]at z;cases z) (λb o e=>s b o (k.live b o (k.sub b o e))) (λb o e=>s b o (k.ext b o e).1) x
theorem Zlc {f:XSp}{n:Nat}(h:∀ds Post Xp,f ds Post Xp->ds.length=n):∀vs H Q E,spX K f vs H Q E->vs.length=n:=λvs H Q E hq=>by
 obtain⟨F,ds,Post,Xp,l,rs,hf,q⟩:=hq;rw[rs.length];exact h ds Post Xp hf
theorem Ztm {f:XSp}{t:TS}{N:List Str}{vs:List V}{H:Hp}{Q:VK}(ht:∀ds Post Xp,f ds Post Xp->ds.length<=N.length/\JX K E Xp t (startD N ds) ⟨λ_=>Post .non,λd _=>Post d,λ_=>False,λ_=>False,λ_ _=>False⟩) (h:spX K f vs H Q E) :
  t { nx:=λ_ H'=>Q .non H',rt:=Q } (start N vs) H:=by
 obtain⟨F,ds,Post,Xp,l,rs,hf,q,x⟩:=h;obtain⟨hl,hj⟩:=ht ds Post Xp hf;have fin:∀{v:V}{d:D}{σ:St}{G H':Hp}{Δ:Evt},Ok K ⟨λ_=>False,F,H,λ_=>none⟩ G H' σ Δ -> Rep K G v d->Post d->Q v H':=λ{v d σ G H' Δ} k r p=>by
  refine q v H' d (λb o e=>k.same b o (λz=>z) e) (r.mono λb o e=>?_) p;obtain⟨e1,e2⟩:=k.frz b o e;rcases e2 with z|z
  ·rw[Zcb z];exact e1
  ·rw[Zb1 (l b o z)];exact z
 refine hj ⟨λ_=>False,F,H,λ_=>none⟩ F H (start N vs) _ (λC H' h1 _ _ _ xc=>x C H' (λb o e=>h1 b o (λz=>z) e) xc) (Zc7 rs hl (λ_ _ _ e=>e) (λ_ z=>z.elim) (Same.refl _) (λb o e=>⟨l b o e,.inr e⟩) λ_=>rfl) ⟨λσ G H' Δ k p=>fin k .non p,λv d σ G H' Δ k r p=>fin k r p,λ_ _ _ _ _ z=>z.elim,λ_ _ _ _ _ z=>z.elim,λ_ _ _ _ _ _ _ _ z=>z.elim⟩
theorem Zt1 {t:TS}{P:Pst}(h:JS K t Δ P):JX K E Xp t Δ P:=λg G H σ D _ k c=>h g G H σ D k c
theorem Zlh {t u:TS}(h:JX K E Xp t Δ ⟨λΔ1=>JX K E Xp u Δ1 ⟨nx,rt,bk,ct,ro⟩,rt,bk,ct,ro⟩):JX K E Xp (tSeq t u) Δ ⟨nx,rt,bk,ct,ro⟩:=λg G H σ D w k c=>
 h g G H σ _ w k ⟨λσ1 G1 H1 Δ1 k1 p1=>p1 g G1 H1 σ1 D w k1 c,c.rt,c.bk,c.ct,c.ro⟩
theorem Zqv {c:TT}{t u:TS}{P:Pst}(h:JT K c Δ λb Δ1=>if b=true then JX K E Xp t Δ1 P else JX K E Xp u Δ1 P):JX K E Xp (tIfS c t u) Δ P:=λg G H σ D w k q=>
 h g G H σ _ k λb G1 H1 Δ1 k1 s1 p1=>by
  cases b with
  |true=>exact(show JX K E Xp t Δ1 P from p1) g G1 H1 σ D w k1 q
  |false=>exact(show JX K E Xp u Δ1 P from p1) g G1 H1 σ D w k1 q
theorem Zir {P:Pst}(p:P.nx Δ):JX K E Xp tNext Δ P:=Zt1 (Zl4 p)
theorem Zd7 {C:Addr}{ta:TA}{P:Pst}(h:JA K ta Δ λds Δ1=>ds.length<=sizeLine/\Xp C):JX K E Xp (tRaise C E ta) Δ P:=λg G H σ D w k q=>
 h g G H σ _ k λvs ds G1 H1 Δ1 k1 s1 r1 ⟨z,x⟩=>⟨by rw[r1.length];exact z,w.at k1 (Same.refl _) x⟩
def JEX (K:W.Frag) (E:XK) (Xp:Addr->Prop) (t:TE) (Δ:Evt) (P:D->Evt->Prop):Prop:=∀g G H σ Q,EW E Xp g->Ok K g G H σ Δ -> Cont K g G σ P Q->t σ H Q
theorem Zsq {t:TE}{P:D->Evt->Prop}(h:JE K t Δ P):JEX K E Xp t Δ P:=λg G H σ Q _ k c=>h g G H σ Q k c
theorem Zoi {f:XSp}{ta:TA}{P:D->Evt->Prop}(h:JA K ta Δ λds Δ1=>f ds (λd=>P d Δ1) Xp):JEX K E Xp (tCall (spX K f) [] E ta) Δ P:=λg G H σ Q w k c=>
 h g G H σ _ k λvs ds G1 H1 Δ1 k1 s1 r1 p1=>by
  show spX K f (vs++[]) H1 Q E;rw[Wbf];refine⟨G1,ds,_,_,k1.live,r1,p1,λr H' d sh rr pd=>?_,λC H' sh x=>w.at k1 sh x⟩;have sg:=Zdn (H':=H') k1.live;exact c r d _ H' Δ1 (k1.grow sg sh (Zd2 k1.live λb o _ e=>sh b o e)) (s1.trans sg) rr pd
theorem Zox {te:TE}{P:Pst}(h:JEX K E Xp te Δ P.rt):JX K E Xp (tRet te) Δ P:=λg G H σ D w k c=>
 h g G H σ _ w k λv d G1 H1 Δ1 k1 s1 r1 p1=>c.rt v d σ G1 H1 Δ1 k1 r1 p1
theorem Ok.unset {g:Gm}{G H:Hp}{σ:St}(k:Ok K g G H σ Δ) (i:Nat):Ok K g G H (σ.set i none) (Δ.set i .any):=by
 have ne:∀(j:Nat) x,(Δ.set i .any)[j]?=some x->x≠.any->j≠i /\ Δ[j]?=some x/\(σ.set i none)[j]? = σ[j]?:=λj x e h=>by
  by_cases hj:j=i
  ·subst hj
   rw[Wck]at e;split at e
   ·split at e
    ·cases e;exact absurd rfl h
    ·cases e
   ·rename_i z;exact absurd rfl z
  ·rw[Wae (Ne.symm hj)]at e
   exact⟨hj,e,Wae (Ne.symm hj)⟩
 have od:∀(x:Slot) o,x.od=some o->x≠.any:=λx o e z=>by subst z;cases e
 refine⟨k.same,k.lent,k.sub,k.frz,λb o e=>?_,by simp[k.len],λj d e=>?_,λj x o e1 e2=>?_,λj l x y o o' a e1 e2 e3 e4 e5 e6=>?_⟩
 ·obtain⟨h1,h2,h3⟩:=k.ext b o e
  refine⟨h1,h2,λj x o e1 e2=>?_⟩;obtain⟨_,q1,q2⟩:=ne j x e1 (od x o e2);rw[q2];exact h3 j x o q1 e2
 ·obtain⟨_,q1,q2⟩:=ne j _ e (by intro z;cases z)
  rw[q2];exact k.val j d q1
 ·obtain⟨_,q1,q2⟩:=ne j x e1 (od x o e2)
  rw[q2];exact k.own j x o q1 e2
 ·obtain⟨_,q1,q2⟩:=ne j x e1 (od x o e2)
  obtain⟨_,q3,q4⟩:=ne l y e3 (od y o' e4);rw[q2]at e5;rw[q4]at e6;exact k.dis j l x y o o' a q1 e2 q3 e4 e5 e6
theorem Zqe {a C c:Addr}{b:Bool}{P:D->Evt->Prop}(Z:ExcI K C) (e:PySem.W.kitOne K (.ref C) (.ref c)=some b) (p:P (.bl b) Δ):JC K (rIsiE K) [.exc a C,.adr c] Δ P:=λg G H σ Q vs k rs q=>by
 obtain⟨_,_,rfl,r,t⟩:=rs.inv
 next=>
  obtain⟨_,_,rfl,r',t⟩:=t.inv
  next=>
   cases t.inv;obtain⟨rfl,ha⟩:=r.inv
   next=>
    cases r'.inv;exact⟨_,C,b,k.live _ _ ha,Z,q _ _ G H Δ k (Same.refl _) (.bl b) p,.inl ⟨c,rfl,e⟩⟩
theorem Znb {a C:Addr}{n:String}{b:Bool}{P:D->Evt->Prop}(Z:ExcI K C) (e:PySem.W.kitOne K (.ref C) (.type n)=some b) (p:P (.bl b) Δ):JC K (rIsiE K) [.exc a C,.ty n] Δ P:=λg G H σ Q vs k rs q=>by
 obtain⟨_,_,rfl,r,t⟩:=rs.inv
 next=>
  obtain⟨_,_,rfl,r',t⟩:=t.inv
  next=>
   cases t.inv;obtain⟨rfl,ha⟩:=r.inv
   next=>
    cases r'.inv;exact⟨_,C,b,k.live _ _ ha,Z,q _ _ G H Δ k (Same.refl _) (.bl b) p,.inr (.inl ⟨n,rfl,e⟩)⟩
theorem Zjb {G:Hp}:∀{cs:List Addr}{vs:List V},Reps K G vs (cs.map D.adr)->vs=cs.map V.ref
 |[],_,r=>by cases r;rfl
 |c::cs,_,r=>by
  obtain⟨_,_,rfl,r,t⟩:=r.inv
  next=>cases r.inv;rw[Zjb t];rfl
theorem Zth {a:Addr}{P:D->Evt->Prop}(p:P (.adr a) Δ):JE K (tC (.ref a)) Δ P:=λg G H σ Q k c=>c _ _ G H Δ k (Same.refl _) (.adr a) p
end
theorem Zco {K:W.Frag}{C c:Addr}{b:Bool}(h1:PySem.W.isClsIn K c=true) (h2:PySem.W.typeIn K (.ref c)=some (.type "type")) (h3:PySem.W.subIn K (.ref C) (.ref c)=some b) (h4:(C == c)=true->b=true):PySem.W.kitOne K (.ref C) (.ref c)=some b:=by
 unfold PySem.W.kitOne PySem.W.kitCls;by_cases e:(Value.ref C == Value.ref c)=true
 ·rw[if_pos e]
  have e':C=c:=Value.ref.inj (beq_iff_eq.mp e);rw[h4 (by rw[e'];exact beq_self_eq_true c)]
 ·rw[if_neg e]
  have h1:(PySem.W.clsIn K c).isSome=true:=h1;simp only[h1,h2,beq_self_eq_true,Bool.and_self,if_true,h3]
open PySem PySem.Spec PyProof.Rows PySem.SeqAt
theorem Zcg {A:Around}{s:Shared}{x:V}{v u:Value}(h:flatV x=true) (rv:RelV x v) (ru:RelV x u):EqAt A s v u true:=by
 cases x with
 |non=>cases (show v=Value.none from rv);cases (show u=Value.none from ru);exact EqAt.same _
 |bl b=>cases (show v=Value.bool b from rv);cases (show u=Value.bool b from ru);exact EqAt.same _
 |int i=>
  obtain⟨t,rfl⟩:=rv;obtain⟨t',rfl⟩:=ru;have:=EqAt.int_int (A:=A) (s:=s) i t i t'
  rwa [beq_self_eq_true]at this
 |str i=>
  obtain⟨t,rfl⟩:=rv;obtain⟨t',rfl⟩:=ru;have:=EqAt.str_str (A:=A) (s:=s) i t i t'
  rwa [beq_self_eq_true]at this
 |_=>cases h
section
variable {K:W.Frag}{Δ:Evt}{P:D->Evt->Prop}
def flatE:D->Bool
 |.non=>true
 |.bl _=>true
 |.int _=>true
 |.str _=>true
 |_=>false
end
theorem Zg2:bootBuiltins "ValueError" = some (.type "ValueError"):=by decide +kernel
theorem Zqr {K:W.Frag}{C:Addr}{n:String}{b:Bool}(hm:PySem.W.kitMeta n=true) (h:PySem.W.subIn K (.ref C) (.type n)=some b):PySem.W.kitOne K (.ref C) (.type n)=some b:=by
 unfold PySem.W.kitOne PySem.W.kitCls;have e:¬ (Value.ref C == Value.type n)=true:=λz=>by cases beq_iff_eq.mp z
 rw[if_neg e];simp only[hm,if_true,h]
theorem Zgy:entryFor table "proto.unchain" = some Builtin.«proto.unchain»:=entryFor_of_tree (by kernel_rfl)
section
variable {prog:Program}{w:World}{A:Around}{E:Value->Shared->Prop}{s:Shared}
theorem raiseH {α:Type}{a e:Addr}{oa oe:Obj}{va ve:Array Value}{Q:α -> Shared->Prop}(hh:A.handled=some (.ref a)) (hne:a≠e) (ha:s.heap.get? a=some oa) (hda:oa.data=.fields va) (h2:va[2]?=some .none)
  (he:s.heap.get? e=some oe) (hde:oe.data=.fields ve) (hsz:2<ve.size) (h:E (.ref e) { s with heap:=s.heap.update e (Obj.mapFields (·.setIfInBounds 2 (.ref a))) }):wpAny (model prog w) A (raiseNew (.ref e):Sem α) Q E s:=by
 unfold raiseNew;refine wpAny_bind (wpAny_handled ?_);rw[hh];dsimp only;have hn:(Value.ref a != Value.ref e)=true:=by
  rw[bne_iff_ne];intro z;exact hne (Value.ref.inj z)
 rw[if_pos hn];refine wpAny_bind (wpAny_holding (wpAny_runValue (codeAny_builtin Zgy ?_)));unfold Builtin.«proto.unchain»;dsimp only;refine wpAny_bind (wpAny_field ha hda h2 ?_);rw[if_pos (show (Value.none == Value.none)=true from rfl)];refine wpAny_pure ?_;show wpAny _ _ (updateField e 2 (.ref a) >>= _) _ _ s;unfold updateField;refine wpAny_bind (wpAny_bind (wpAny_load he ?_));rw[hde];dsimp only;rw[if_pos hsz];exact wpAny_update he (wpAny_throw h)
end
abbrev TurnH (xa:Addr):=TurnG λX=>X.A.handled=some (.ref xa)
abbrev PIH (xa:Addr):=PIG λX=>X.A.handled=some (.ref xa)
section
variable {K:W.Frag}{Δ:Evt}
end
section
variable {X:Cx}
def CDivB (i j:Int):Prop:=0<j/\j<=100000000000000000000000000000000000000000000000000000000000
theorem Zg5:OpR X (binaryOp .FloorDiv) (rI CDivB λi j=>.int (i / j)):=opI λi j _ _ _ _ _ hc q=>by
 have h1:(0:Int)<j:=hc.1;have h2:=hc.2;refine floordiv_int (by omega) (by rw[Int.fdiv_eq_ediv_of_nonneg i (by omega)];exact q) (.inl (PyProof.noPylong_of_log2 ?_));have h3:j.natAbs<=100000000000000000000000000000000000000000000000000000000000:=by omega
 have h4:j.natAbs<2 ^ 200:=Wbl h3 (by decide);exact Wdf ((Nat.log2_lt (by omega)).2 h4) (by decide)
end
section
variable {K:W.Frag}{Δ:Evt}{E:XK}{Xp:Addr->Prop}{P:D->Evt->Prop}
theorem Zqz (p:P (.dct [] []) Δ):JE K tDNewK Δ P:=λg G H σ Q k c q hq=>by
 obtain⟨k2,sg⟩:=k.laid hq (.dK []);exact c _ _ _ _ Δ k2 sg (.dct (vs:=[]) Zan rfl .nil) p
theorem Zql {i j:Int}(p:P (.dct [.inl i] [.int j]) Δ):JE K (tDisp [(tC (.int i),tC (.int j))]) Δ P:=λg G H σ Q k c q hq=>by
 refine⟨Zan,[(.inl i,.int j)],rfl,by simp,?_⟩;obtain⟨k2,sg⟩:=k.laid hq (.dK [(.inl i,.int j)]);rw[Zmv];exact c _ _ _ _ Δ k2 sg (.dct (vs:=[.int j]) Zan rfl (.cons (.int j) .nil)) p
end
theorem Zed {ks:List (Option Expr)}{vs:List Expr}{p:Pos}{es:List Expr}{env:Env}:starEach (Expr.Dict ks vs p::es) env=(false,eval (Expr.Dict ks vs p) env)::starEach es env:=rfl
theorem Zh1 {vs:List Expr}{p:Pos}{es:List Expr}{env:Env}:starEach (Expr.List vs p::es) env=(false,eval (Expr.List vs p) env)::starEach es env:=rfl
theorem Zeh {vs:List Expr}{c} {p:Pos}{es:List Expr}{env:Env}:starEach (Expr.Tuple vs c p::es) env=(false,eval (Expr.Tuple vs c p) env)::starEach es env:=rfl
theorem Zt2 {X:Cx}{i j:Int}{a b} {p q pos:Pos}:PE X (Expr.Dict [some (Expr.Constant (Const.int i) a p)] [Expr.Constant (Const.int j) b q] pos) (tDisp [(tC (.int i),tC (.int j))]):=Zlz (Zjj Zai Zai Zk3) rfl rfl (List.cons_ne_nil _ _) (by show 1<=15;decide)
def keyPd:Key->PyData
 |.inl i=>.int i
 |.inr x=>.str x
mutual
def D.pd:D->PyData
 |.non=>.none
 |.bl b=>.bool b
 |.int i=>.int i
 |.str x=>.str x
 |.tup ds=>.tuple (D.pds ds)
 |.lst ds=>.list (D.pds ds)
 |.dct ks ds=>.dict ((ks.map keyPd).zip (D.pds ds))
 |_=>.none
def D.pds:List D->List PyData
 |[]=>[]
 |d::ds=>D.pd d::D.pds ds
end
mutual
def D.shw:D->Bool
 |.non=>true
 |.bl _=>true
 |.str _=>true
 |.int i=>decide (i.natAbs.log2<1920)
 |.tup ds=>D.shws ds
 |.lst ds=>D.shws ds
 |_=>false
def D.shws:List D->Bool
 |[]=>true
 |d::ds=>D.shw d && D.shws ds
end
def D.shT (d:D):Prop:=d.shw=true\/∃ks ns:List Int,d=.dct (ks.map .inl) (ns.map .int)/\(∀k∈ks,k.natAbs.log2<1920)/\∀n∈ns,n.natAbs.log2<1920
mutual
theorem Zk1:∀d:D,d.shw=true->d.pd.showable=true/\d.pd.hasDict=false
 |.non,_=>⟨rfl,rfl⟩
 |.bl _,_=>⟨rfl,rfl⟩
 |.int i,h=>⟨h,rfl⟩
 |.str _,_=>⟨rfl,rfl⟩
 |.tup ds,h=>Zis ds h
 |.lst ds,h=>Zis ds h
 |.ty _,h=>by cases h
 |.scr _,h=>by cases h
 |.adr _,h=>by cases h
 |.dct _ _,h=>by cases h
 |.exc _ _,h=>by cases h
theorem Zis:∀ds:List D,D.shws ds=true->PyData.showableAll (D.pds ds)=true/\PyData.hasDictAll (D.pds ds)=false
 |[],_=>⟨rfl,rfl⟩
 |d::ds,h=>by
  have h:(d.shw && D.shws ds)=true:=h;rw[Wa6]at h;obtain⟨a1,a2⟩:=Zk1 d h.1;obtain⟨b1,b2⟩:=Zis ds h.2;show (d.pd.showable && PyData.showableAll (D.pds ds))=true/\(d.pd.hasDict || PyData.hasDictAll (D.pds ds))=false;rw[a1,a2,b1,b2];exact⟨rfl,rfl⟩
end
section
variable {P:Program}{w:World}{K:W.Frag}{G H:Hp}{h:Heap}
mutual
theorem Zgo (ok:HOk P w H h) (sg:Same G H):∀{v:V}{d:D}{u:Value},Rep K G v d->d.shw=true->RelV v u->∃as,Reads h u d.pd as
 |_,_,_,.non,_,r=>by cases r;exact⟨_,.none⟩
 |_,_,_,.bl b,_,r=>by cases r;exact⟨_,.bool b⟩
 |_,_,_,.int i,_,r=>by obtain⟨t,rfl⟩:=r;exact⟨_,.int i t⟩
 |_,_,_,.str x,_,r=>by obtain⟨t,rfl⟩:=r;exact⟨_,.str x t⟩
 |_,_,_,.ty _,z,_=>by cases z
 |_,_,_,.tup e rs,z,r=>by
  cases r;obtain⟨_,its,rv,o,ho,⟨hc,n,hd⟩,_⟩:=ok _ _ (sg _ _ e);obtain⟨as,ra⟩:=Zdv ok sg rs z rv;exact⟨_,.tuple ho hc hd ra⟩
 |_,_,_,.lst e rs,z,r=>by
  cases r;obtain⟨_,its,n,rv,ho⟩:=ok _ _ (sg _ _ e);obtain⟨as,ra⟩:=Zdv ok sg rs z rv;exact⟨_,.list ho rfl rfl ra⟩
 |_,_,_,.scr _ _,z,_=>by cases z
 |_,_,_,.adr _,z,_=>by cases z
 |_,_,_,.dct _ _ _,z,_=>by cases z
 |_,_,_,.exc _,z,_=>by cases z
theorem Zdv (ok:HOk P w H h) (sg:Same G H):∀{vs:List V}{ds:List D}{us:List Value},Reps K G vs ds->D.shws ds=true->Vals vs us->∃as,ReadsAll h us (D.pds ds) as
 |_,_,_,.nil,_,r=>by cases r;exact⟨_,.nil⟩
 |_,_,_,.cons (d:=d) (ds:=ds) a b,z,r=>by
  have z:(d.shw && D.shws ds)=true:=z;rw[Wa6]at z;cases r with
  |cons ra rb=>
   obtain⟨as,ha⟩:=Zgo ok sg a z.1 ra;obtain⟨bs,hb⟩:=Zdv ok sg b z.2 rb;exact⟨_,.cons ha hb⟩
end
theorem Zeo:∀{ks ns:List Int}{kvs:List (Key × Value)}{es:List DictEntry},ks.length=ns.length->KV ((ks.map (Sum.inl:Int->Key)).zip (ns.map V.int)) kvs->Pairs (mixKind P w) es kvs →
  ReadsAll h (es.map (·.key)) (ks.map PyData.int) []/\ReadsAll h (es.map (·.val)) (ns.map PyData.int) []
 |[],[],_,_,_,r,p=>by cases r;cases p;exact⟨.nil,.nil⟩
 |k::ks,n::ns,_,_,l,r,p=>by
  cases r with
  |@cons a b as bs h1 h2=>
   cases p with
   |@cons e kv es kvs q1 q2 q3=>
    obtain⟨i1,i2⟩:=Zeo (ks:=ks) (ns:=ns) (by simpa using l) h2 q3;obtain⟨hk,hv⟩:=h1;obtain⟨t,hv⟩:=hv;have q1:keyIs b.1 e.key=true:=q1;rw[<- hk]at q1;have hk2:∃t,e.key=.int k t:=Value.isInt_shape (k:=k) (v:=e.key) q1;obtain⟨t2,hk2⟩:=hk2;refine⟨?_,?_⟩
    ·rw[Wa4,Wa4,hk2];exact .cons (as:=[]) (.int k t2) i1
    ·rw[Wa4,Wa4,q2,hv];exact .cons (as:=[]) (.int n t) i2
 |[],_::_,_,_,l,_,_=>by cases l
 |_::_,[],_,_,l,_,_=>by cases l
end
theorem Zi1:∀{ks ns:List Int},ks.length=ns.length->(((ks.map Sum.inl).map keyPd).zip (D.pds (ns.map D.int))).map (·.1)=ks.map PyData.int/\(((ks.map Sum.inl).map keyPd).zip (D.pds (ns.map D.int))).map (·.2)=ns.map PyData.int
 |[],[],_=>⟨rfl,rfl⟩
 |k::ks,n::ns,l=>by
  obtain⟨h1,h2⟩:=Zi1 (ks:=ks) (ns:=ns) (by simpa using l);simp only[Wa4,D.pds,Wc6];rw[h1,h2];exact⟨rfl,rfl⟩
 |[],_::_,l=>by cases l
 |_::_,[],l=>by cases l
theorem shkv:∀{ks ns:List Int},(∀k∈ks,k.natAbs.log2<1920)->(∀n∈ns,n.natAbs.log2<1920)->PyData.showableKv (((ks.map Sum.inl).map keyPd).zip (D.pds (ns.map D.int)))=true
 |[],_,_,_=>rfl
 |_::_,[],_,_=>rfl
 |k::ks,n::ns,h1,h2=>by
  have i:=shkv (ks:=ks) (ns:=ns) (λa ha=>h1 a (Waq _ ha)) (λa ha=>h2 a (Waq _ ha));show (decide (k.natAbs.log2<1920) && decide (n.natAbs.log2<1920) && PyData.showableKv _)=true;rw[Wa6,Wa6];exact⟨⟨decide_eq_true (h1 k (War ..)),decide_eq_true (h2 n (War ..))⟩,i⟩
def rRepr (K:W.Frag):List V->Hp->VK->Prop:=λxs H Q=>∃(G:Hp) (v:V) (d:D),xs=[v]/\Same G H/\Rep K G v d/\d.shT/\d.pd.depth<=20/\d.pd.shown.length<=sizeLine/\Q (.str d.pd.shown) H
section
variable {X:Cx}
theorem reprK (K:W.Frag) (hg:X.A.guards=some []) (hu:X.A.units+30<cLine) (hK:X.K=K:=by rfl):CallR X (.builtin "repr") (rRepr K):=by
 subst hK;intro pins s σ H xs us Q I r h;obtain⟨G,v,d,rfl,sg,rep,sh,dp,sz,q⟩:=h;obtain⟨u,rfl,ru⟩:=vals1 r;have fin:∀(a:Addr),u=.ref a->(∃as,Reads s.heap (.ref a) d.pd as/\d.pd.showable=true/\(d.pd.hasDict=true->sysModules ∉ as))->wpAny (model X.prog X.w) X.A (call (.builtin "repr") [u]) (EP X pins σ Q) X.xe s:=λa e ⟨as,h1,h2,h3⟩=>by
  subst e;exact repr_of_reads' h1 h2 h3 hg (by omega) (λ_ _ e=>e) (λh' t tk hk=>⟨.str _,H,I.kept hk,⟨_,rfl⟩,q⟩) sz
 rcases sh with z|⟨ks,ns,rfl,z1,z2⟩
 ·obtain⟨as,h1⟩:=Zgo I.hok sg rep z ru
  obtain⟨h2,h3⟩:=Zk1 d z;have big:∀a,u=.ref a->wpAny (model X.prog X.w) X.A (call (.builtin "repr") [u]) (EP X pins σ Q) X.xe s:=λa e=>fin a e ⟨as,e ▸ h1,h2,λh4=>by rw[h3]at h4;cases h4⟩;cases rep with
  |non=>cases ru;exact PySem.P.repr_of_none ⟨.str _,H,I.tok _,⟨_,rfl⟩,q⟩
  |bl b=>cases ru;exact PySem.P.repr_of_bool ⟨.str _,H,I.tok _,⟨_,rfl⟩,q⟩
  |int i=>obtain⟨t,rfl⟩:=ru;exact PySem.P.repr_of_int (of_decide_eq_true z) ⟨.str _,H,I.tok _,⟨_,rfl⟩,q⟩
  |str x=>obtain⟨t,rfl⟩:=ru;exact PySem.P.repr_of_str ⟨.str _,H,I.tok _,⟨_,rfl⟩,q⟩ sz
  |tup e rs=>exact big _ ru
  |lst e rs=>exact big _ ru
  |_=>cases z
 ·cases rep with
  |@dct a _ vs _ e l rs=>
   cases (show u=Value.ref a from ru);have ev:=Reps.ints rs;subst ev;have l2:ks.length=ns.length:=by simpa using l
   obtain⟨_,hS,kvs,rk,o,es,ep,ho,hc,hd,_,hp,_⟩:=Zk4 I.hok (sg _ _ e);obtain⟨r1,r2⟩:=Zeo (h:=s.heap) l2 rk hp;obtain⟨e1,e2⟩:=Zi1 l2;rw[<- e1]at r1;rw[<- e2]at r2;have rd:Reads s.heap (.ref a) (D.pd (.dct (ks.map Sum.inl) (ns.map D.int))) (a::[]++[]):=.dict ho hc.1 hd r1 r2;refine fin a rfl ⟨_,rd,shkv z1 z2,λ_ hm=>?_⟩
   ·have hm:sysModules=a:=by simpa using hm
    subst hm;exact absurd hS (by rw[beq_self_eq_true];decide)
end
section
variable {K:W.Frag}{Δ:Evt}{P:D->Evt->Prop}
theorem Zg3:bootBuiltins "repr" = some (.builtin "repr"):=by decide +kernel
theorem Zog {A:Around}{k:Nat}(hr:Room k A):A.units+30<cLine:=Wbl (Wct (by decide:30<=64) _) hr.units
theorem Zm6 {i:Int}(h1:-1000000000000000000000000000000000000000000000000000000000000<=i) (h2:i<=1000000000000000000000000000000000000000000000000000000000000):i.natAbs.log2<1920:=by
 by_cases z:i.natAbs=0
 ·rw[z];decide
 ·have h4:i.natAbs<2 ^ 200:=Wbl (m:=1000000000000000000000000000000000000000000000000000000000000) (by omega) (by decide)
  exact Wdf ((Nat.log2_lt z).2 h4) (by decide)
theorem Zqm {d:D}(h1:d.shT) (h2:d.pd.depth<=20) (h3:d.pd.shown.length<=sizeLine) (p:P (.str d.pd.shown) Δ):JC K (rRepr K) [d] Δ P:=λg G H σ Q vs k rs c=>by
 obtain⟨_,_,rfl,r,t⟩:=rs.inv
 next=>cases t.inv;exact⟨G,_,d,rfl,k.live,r,h1,h2,h3,c _ _ G H Δ k (Same.refl _) (.str _) p⟩
end
section
variable {P:Program}{w:World}{K:W.Frag}{G H:Hp}{h:Heap}
theorem Zpb (ok:HOk P w H h) (sg:Same G H) {v:V}{d:D}{u:Value}(rep:Rep K G v d) (sh:d.shT) (ru:RelV v u):∃as,Reads h u d.pd as/\d.pd.showable=true/\(d.pd.hasDict=true->sysModules ∉ as):=by
 rcases sh with z|⟨ks,ns,rfl,z1,z2⟩
 ·obtain⟨as,h1⟩:=Zgo ok sg rep z ru
  obtain⟨h2,h3⟩:=Zk1 d z;exact⟨as,h1,h2,λh4=>by rw[h3]at h4;cases h4⟩
 ·cases rep with
  |@dct a _ vs _ e l rs=>
   cases (show u=Value.ref a from ru);have ev:=Reps.ints rs;subst ev;have l2:ks.length=ns.length:=by simpa using l
   obtain⟨_,hS,kvs,rk,o,es,ep,ho,hc,hd,_,hp,_⟩:=Zk4 ok (sg _ _ e);obtain⟨r1,r2⟩:=Zeo (h:=h) l2 rk hp;obtain⟨e1,e2⟩:=Zi1 l2;rw[<- e1]at r1;rw[<- e2]at r2;have rd:Reads h (.ref a) (D.pd (.dct (ks.map Sum.inl) (ns.map D.int))) (a::[]++[]):=.dict ho hc.1 hd r1 r2;refine⟨_,rd,shkv z1 z2,λ_ hm=>?_⟩;have hm:sysModules=a:=by simpa using hm
   subst hm;exact absurd hS (by rw[beq_self_eq_true];decide)
def D.shU (d:D):Prop:=d.shT\/∃x:Str,d=.tup [.str x,.dct [] []]
theorem Zsk (ok:HOk P w H h) (sg:Same G H) {v:V}{d:D}{u:Value}(rep:Rep K G v d) (sh:d.shU) (ru:RelV v u):∃as,Reads h u d.pd as/\d.pd.showable=true/\(d.pd.hasDict=true->sysModules ∉ as):=by
 rcases sh with z|⟨x,rfl⟩
 ·exact Zpb ok sg rep z ru
 ·cases rep with
  |tup e rs=>
   cases ru;obtain⟨_,its,rv,o,ho,⟨hc,n,hd⟩,_⟩:=ok _ _ (sg _ _ e);cases rs with
   |cons r1 rs=>
    cases rs with
    |cons r2 rs=>
     cases rs;cases rv with
     |cons v1 rv=>
      cases rv with
      |cons v2 rv=>
       cases rv;cases r1;obtain⟨t,rfl⟩:=v1;obtain⟨as,h1,h2,h3⟩:=Zpb ok sg r2 (.inr ⟨[],[],rfl,by simp,by simp⟩) v2;exact⟨_,.tuple ho hc hd (.cons (.str x t) (.cons h1 .nil)),rfl,λ_=>by rw[List.nil_append,Wbf];exact h3 rfl⟩
end
section
variable {K:W.Frag}{Δ:Evt}{P:D->Evt->Prop}
end
def rNeT0 (K:W.Frag):R2:=λx y H Q=>∃(a b:Addr) (xs:List V),x=.ref a/\y=.ref b/\SqT K H a xs/\SqT K H b []/\Q (.bl (!xs.isEmpty)) H
theorem neT0K {X:Cx}(K:W.Frag) (hu:X.A.units+1<cLine) (hK:X.K=K:=by rfl):OpR X (compareOp .NotEq) (rNeT0 K):=by
 subst hK;intro pins s σ H x y v u Q I rx ry h;obtain⟨a,b,xs,rfl,rfl,h1,h2,q⟩:=h;cases rx;cases ry;obtain⟨its,w1,p1,_⟩:=I.tuple h1;obtain⟨its2,w2,p2,_⟩:=I.tuple h2;cases w2;refine PySem.SeqAt.RcNeAt.tuples (A:=X.A) (s:=s) (e:=λ_=>true) p1 p2 (by omega) (λj _ z=>absurd z (by simp)) X.prog X.w _ _ ?_;have e:(!((Wbx (min its.toArray.size ([]:List Value).toArray.size)).all (λ_=>true) && its.toArray.size == ([]:List Value).toArray.size)) = !xs.isEmpty:=by
  cases w1 with
  |nil=>rfl
  |cons _ _=>simp
 rw[e];exact⟨.bl _,H,I,rfl,q⟩
theorem Zqb {K:W.Frag}{Δ:Evt}{P:D->Evt->Prop}{ds:List D}(p:P (.bl (!ds.isEmpty)) Δ):JR2 K (rNeT0 K) (.tup ds) (.tup []) Δ P:=λg G H σ Q x y k rx ry c=>by
 obtain⟨_,_,rfl,ha,ra⟩:=rx.inv
 next=>
  obtain⟨_,_,rfl,hb,rb⟩:=ry.inv
  next=>
   cases rb.inv;refine⟨_,_,_,rfl,rfl,SqT.of (k.live _ _ ha),SqT.of (k.live _ _ hb),?_⟩;rw[ra.isEmpty];exact c _ _ G H Δ k (Same.refl _) (.bl _) p
section
variable {K:W.Frag}{Δ:Evt}{P:D->Evt->Prop}
end
def PV (K:W.Frag) (te:TE) (Δ:Evt) (d:D):Prop:=∀P:D->Evt->Prop,P d Δ -> JE K te Δ P
def PVs (K:W.Frag) (ta:TA) (Δ:Evt) (ds:List D):Prop:=∀P:List D->Evt->Prop,P ds Δ -> JA K ta Δ P
def PR2 (K:W.Frag) (r:R2) (d e:D) (Δ:Evt) (x:D):Prop:=∀P:D->Evt->Prop,P x Δ -> JR2 K r d e Δ P
section
variable {K:W.Frag}{Δ:Evt}
theorem Zbw {te:TE}{d:D}{P:D->Evt->Prop}(h:PV K te Δ d) (p:P d Δ):JE K te Δ P:=h P p
theorem Ztd {ta:TA}{ds:List D}{P:List D->Evt->Prop}(h:PVs K ta Δ ds) (p:P ds Δ):JA K ta Δ P:=h P p
theorem Zaj {i:Nat}{d:D}(h:Δ[i]?=some (.val d)):PV K (tVar i) Δ d:=λP p=>Zad h p
theorem Zbb {i:Int}:PV K (tC (.int i)) Δ (.int i):=λP p=>Za8 p
theorem Zni {b:Bool}:PV K (tC (.bl b)) Δ (.bl b):=λP p=>Zrf p
theorem Zmq:PV K (tC .non) Δ .non:=λP p=>Zo0 p
theorem Zhv {x:Str}:PV K (tC (.str x)) Δ (.str x):=λP p=>Zdu p
theorem Zmc:PV K tDNewK Δ (.dct [] []):=λP p=>Zqz p
theorem Zqu {i j:Int}:PV K (tDisp [(tC (.int i),tC (.int j))]) Δ (.dct [.inl i] [.int j]):=λP p=>Zql p
theorem Zau:PVs K tNil Δ []:=λP p=>Zag p
theorem Zak {ta:TE}{tr:TA}{d:D}{ds:List D}(h:PV K ta Δ d) (t:PVs K tr Δ ds):PVs K (tCons ta tr) Δ (d::ds):=λP p=>Zab (h _ (t _ p))
theorem Zb8 {ta:TA}{ds:List D}(h:PVs K ta Δ ds) (z:ds.length<=sizeLine):PV K (tTup ta) Δ (.tup ds):=λP p=>Zcd (h _ ⟨z,p⟩)
theorem Zcu {ta:TA}{ds:List D}(h:PVs K ta Δ ds) (z:ds.length<=sizeLine):PV K (tLst ta) Δ (.lst ds):=λP p=>Zey (h _ ⟨z,p⟩)
theorem Za0 {r:R2}{ta tb:TE}{d e x:D}(a:PV K ta Δ d) (b:PV K tb Δ e) (h:PR2 K r d e Δ x):PV K (tOp r ta tb) Δ x:=λP p=>Zay (a _ (b _ (h P p)))
theorem Zs0 {ds:List D}{i:Int}{d:D}(h:atI ds i=some d):PR2 K (rIxU K) (.tup ds) (.int i) Δ d:=λP p=>Zdb h p
theorem Zrm {ds:List D}{i:Int}{d:D}(h:atI ds i=some d):PR2 K (rIxU K) (.lst ds) (.int i) Δ d:=λP p=>Zca h p
theorem Zeu {ds es:List D}(hz:ds.length+es.length<=sizeLine):PR2 K (rAddU K) (.lst ds) (.lst es) Δ (.lst (ds++es)):=λP p=>Zdw hz p
theorem Zb9 {i j:Int}:PR2 K (rAddU K) (.int i) (.int j) Δ (.int (i+j)):=λP p=>Zdl p
theorem Zom {f:Int->Int->Int}{i j:Int}:PR2 K (rI0 λi j=>.int (f i j)) (.int i) (.int j) Δ (.int (f i j)):=λP p=>Znc p
theorem pr_I {C:Int->Int->Prop}{f:Int->Int->Int}{i j:Int}(hc:C i j):PR2 K (rI C λi j=>.int (f i j)) (.int i) (.int j) Δ (.int (f i j)):=λP p=>jr_I hc p
theorem Zcm {ta tb:TE}{ds:List D}{i:Int}{d:D}(a:PV K ta Δ (.tup ds)) (b:PV K tb Δ (.int i)) (h:atI ds i=some d):PV K (tOp (rIxU K) ta tb) Δ d:=Za0 a b (Zs0 h)
theorem Zmi {ta tb:TE}{ds:List D}{i:Int}{d:D}(a:PV K ta Δ (.lst ds)) (b:PV K tb Δ (.int i)) (h:atI ds i=some d):PV K (tOp (rIxU K) ta tb) Δ d:=Za0 a b (Zrm h)
theorem Zo1 {n:Nat}{ds:List D}{i:Int}{d:D}(hx:Δ[n]?=some (.val (.tup ds))) (h:atI ds i=some d):PV K (tOp (rIxU K) (tVar n) (tC (.int i))) Δ d:=Zcm (Zaj hx) Zbb h
theorem Ztg {n:Nat}{ds:List D}{i:Int}{d:D}(hx:Δ[n]?=some (.val (.lst ds))) (h:atI ds i=some d):PV K (tOp (rIxU K) (tVar n) (tC (.int i))) Δ d:=Zmi (Zaj hx) Zbb h
theorem Zes {ta:TE}{ds:List D}(a:PV K ta Δ (.tup ds)):PV K (tCB (rLenU K) (tCons ta tNil)) Δ (.int ds.length):=λP p=>Za1 (Zab (a _ (Zag (Zch (.inr rfl) p))))
theorem Zfk {ta:TE}{ds:List D}(a:PV K ta Δ (.lst ds)):PV K (tCB (rLenU K) (tCons ta tNil)) Δ (.int ds.length):=λP p=>Za1 (Zab (a _ (Zag (Zch (.inl rfl) p))))
end
open PySem PySem.Spec PyProof.Rows PySem.SeqAt
def Sm:Nat->D->Bool
 |0,d=>flatE d
 |n+1,d=>match d with
  |.lst ds=>ds.all (Sm n)
  |.tup ds=>ds.all (Sm n)
  |d=>flatE d
section
variable {X:Cx}
theorem Ze9:∀(n:Nat) {A:Around}{pins:List (Addr × Obj)}{σ:St}{H G:Hp}{s:Shared}{x y:V}{v u:Value}{d:D},Inv X pins σ H s->Same G H->Rep X.K G x d->Rep X.K G y d->RelV x v->RelV y u->Sm n d=true->A.units+n<cLine->EqAt A s v u true
 |0,A,pins,σ,H,G,s,x,y,v,u,d,I,sg,rx,ry,rv,ru,h,hu=>by
  cases d with
  |non=>cases rx;cases ry;exact Zcg rfl rv ru
  |bl _=>cases rx;cases ry;exact Zcg rfl rv ru
  |int _=>cases rx;cases ry;exact Zcg rfl rv ru
  |str _=>cases rx;cases ry;exact Zcg rfl rv ru
  |_=>exact nomatch h
 |n+1,A,pins,σ,H,G,s,x,y,v,u,d,I,sg,rx,ry,rv,ru,h,hu=>by
  cases d with
  |non=>cases rx;cases ry;exact Zcg rfl rv ru
  |bl _=>cases rx;cases ry;exact Zcg rfl rv ru
  |int _=>cases rx;cases ry;exact Zcg rfl rv ru
  |str _=>cases rx;cases ry;exact Zcg rfl rv ru
  |lst ds=>
   cases rx with
   |@lst a vs _ ha ra=>
    cases ry with
    |@lst b us _ hb rb=>
     cases rv;cases ru;obtain⟨its,w1,pl,_⟩:=I.list (SqL.of (sg _ _ ha));obtain⟨its2,w2,pl2,_⟩:=I.list (SqL.of (sg _ _ hb));have l1:=w1.length;have l2:=w2.length;have l3:=ra.length;have l4:=rb.length;have h:ds.all (Sm n)=true:=h;by_cases hab:a=b
     ·subst hab;exact EqAt.same _
     ·refine .of_refs hab ?_
      have z:=RcAt.lists (A:=A) (s:=s) (e:=λ_=>true) pl.isList pl2.isList (by rw[Waf,Waf];omega) (by omega) λj h1 h2=>by
       have h1':j<its.length:=by simpa using h1
       have h2':j<its2.length:=by simpa using h2
       have hx:j<ds.length:=by omega
       obtain⟨p,hp1,hp2⟩:=ra.get (Wab hx);obtain⟨q,hq1,hq2⟩:=rb.get (Wab hx);obtain⟨va,hv1,hv2⟩:=w1.get hp1;obtain⟨vb,hw1,hw2⟩:=w2.get hq1;rw[Wab h1']at hv1;rw[Wab h2']at hw1;rw[Wbk,Wbk,Wau.inj hv1,Wau.inj hw1];exact Ze9 n I sg hp2 hq2 hv2 hw2 (Wba.mp h _ (Wbc hx)) (by show A.units+1+n<cLine;omega)
      rw[Wba.mpr (λ_ _=>rfl)]at z;exact z
  |tup ds=>
   cases rx with
   |@tup a vs _ ha ra=>
    cases ry with
    |@tup b us _ hb rb=>
     cases rv;cases ru;obtain⟨its,w1,pl,_⟩:=I.tuple (SqT.of (sg _ _ ha));obtain⟨its2,w2,pl2,_⟩:=I.tuple (SqT.of (sg _ _ hb));have l1:=w1.length;have l2:=w2.length;have l3:=ra.length;have l4:=rb.length;have h:ds.all (Sm n)=true:=h;by_cases hab:a=b
     ·subst hab;exact EqAt.same _
     ·refine .of_refs hab ?_
      have z:=RcAt.tuples (A:=A) (s:=s) (e:=λ_=>true) pl pl2 (by omega) λj h1 h2=>by
       have h1':j<its.length:=by simpa using h1
       have h2':j<its2.length:=by simpa using h2
       have hx:j<ds.length:=by omega
       obtain⟨p,hp1,hp2⟩:=ra.get (Wab hx);obtain⟨q,hq1,hq2⟩:=rb.get (Wab hx);obtain⟨va,hv1,hv2⟩:=w1.get hp1;obtain⟨vb,hw1,hw2⟩:=w2.get hq1;rw[Wab h1']at hv1;rw[Wab h2']at hw1;rw[Wbk,Wbk,Wau.inj hv1,Wau.inj hw1];exact Ze9 n I sg hp2 hq2 hv2 hw2 (Wba.mp h _ (Wbc hx)) (by show A.units+1+n<cLine;omega)
      rw[Wba.mpr (λ_ _=>rfl),show (its.toArray.size == its2.toArray.size)=true by rw[Waf,Waf];exact beq_iff_eq.mpr (by omega),Bool.and_self]at z;exact z
  |_=>exact nomatch h
end
open PySem PySem.Spec PyProof.Rows PySem.SeqAt
section
variable {X:Cx}
def tAppL (te:TE) (D:Addr):TB:=λσ H N=>te σ H λy H1=>∃ys,H1 D=some (.lst ys)/\ys.length<sizeLine/\N σ (upd H1 D (.lst (ys++[y])))
def tCompG (n:Nat) (sel:List Nat) (wi1:TI) (g1:TG) (ho:HO) (tem:Addr->TB):TE:=λσ H Q=>wi1 σ H λJ H1=>∀acc,H1 acc=none->LoopR g1 (tem acc) (λ_ H'=>Q (.ref acc) H') (compSt n sel σ) J (upd H1 acc ho)
end
section
variable {K:W.Frag}{Δ:Evt}
def gInO (G H:Hp) (acc:Addr) (o:HO):Gm:=⟨λ_=>False,G,H,λb=>if b=acc then some o else none⟩
theorem Zge {G H:Hp}{acc:Addr}{u:HO}{G' H':Hp}{σ:St}{Δ:Evt}(k:Ok K (gInO G H acc u) G' H' σ Δ):H' acc=some u/\G' acc=none/\∀(i:Nat) x od,Δ[i]?=some x->x.od=some od -> σ[i]?≠some (some (.ref acc)):=
 k.ext acc u (by show (if acc=acc then _ else _)=_;rw[if_pos rfl])
theorem Znn {G H:Hp}{acc:Addr}{u u':HO}{G' H':Hp}{σ:St}{Δ:Evt}(hH:H acc=none) (k:Ok K (gInO G H acc u) G' H' σ Δ):Ok K (gInO G H acc u') G' (upd H' acc u') σ Δ:=by
 obtain⟨w1,w2,w3⟩:=Zge k;have ne:∀{b:Addr}{o:HO},G' b=some o->b≠acc:=λ{b o} e z=>by subst z;rw[w2]at e;cases e
 refine⟨λb o hb e=>?_,λb hb=>hb.elim,k.sub,λb o e=>?_,λb o e=>?_,k.len,k.val,λi x od e1 e2=>?_,k.dis⟩
 ·have hb':b≠acc:=by intro z;subst z;have e:H b=some o:=e;rw[hH]at e;cases e
  rw[Zal hb'];exact k.same b o (λz=>z) e
 ·rw[Zal (ne e)];exact k.frz b o e
 ·have e:(if b=acc then some u' else none)=some o:=e
  by_cases hb:b=acc
  ·rw[if_pos hb]at e;cases e;subst hb
   exact⟨Zan,w2,w3⟩
  ·rw[if_neg hb]at e;cases e
 ·obtain⟨a,o,h1,h2,h3,h4,h5⟩:=k.own i x od e1 e2
  have hb:a≠acc:=by intro z;subst z;exact w3 i x od e1 e2 h1
  exact⟨a,o,h1,by rw[Zal hb];exact h2,h3,h4,h5⟩
end
section
variable {K:W.Frag}{Δ:Evt}{nx bk ct:Evt->Prop}{rt:D->Evt->Prop}{ro:OD->Evt->Prop}
end
section
variable {K:W.Frag}{Δ:Evt}{P:D->Evt->Prop}
theorem Zjh {G:Hp}:∀{kvs:List (Key × V)}{kds:List (Key × D)},Paired (λ(p:Key × V) (q:Key × D)=>p.1=q.1/\Rep K G p.2 q.2) kvs kds->(kds.map (·.1)).zip (kvs.map (·.2))=kvs/\Reps K G (kvs.map (·.2)) (kds.map (·.2))
 |_,_,.nil=>⟨rfl,.nil⟩
 | (k1,v1)::kvs,(k2,d2)::kds,.cons ⟨e,r⟩ t=>by
  have e:k1=k2:=e;subst e;obtain⟨h1,h2⟩:=Zjh t;refine⟨?_,.cons r h2⟩;show (k1,v1)::(kds.map (·.1)).zip (kvs.map (·.2))=_;rw[h1]
theorem Ok.freezeD {g:Gm}{G H:Hp}{σ:St}(k:Ok K g G H σ Δ) {a:Addr}{kds:List (Key × D)}{kvs:List (Key × V)}(p:Pend K g G H σ Δ a (.dct kds)) (hv:H a=some (.dK kvs)):Ok K g (upd G a (.dK kvs)) H σ Δ /\ Same G (upd G a (.dK kvs))/\Rep K (upd G a (.dK kvs)) (.ref a) (.dct (kds.map (·.1)) (kds.map (·.2))):=by
 obtain⟨o,p1,p2,p3,p4,p5,p6⟩:=p;rw[hv]at p1;cases p1;obtain⟨r1,r2⟩:=Zjh (K:=K) p2;have sg:Same G (upd G a (.dK kvs)):=λb u e=>by rw[Zal (Zao e p3)];exact e
 refine⟨⟨k.same,k.lent,k.sub.trans sg,λb u e=>?_,λb u e=>?_,k.len,λj d h=>?_,λj x od e1 e2=>?_,k.dis⟩,sg,.dct (vs:=kvs.map (·.2)) (by rw[r1];exact Zan) (by rw[Waa,Waa];exact(Paired.length p2).symm) (r2.mono sg)⟩
 ·by_cases hb:b=a
  ·subst hb;rw[Zan]at e;cases e;exact⟨hv,.inl p4⟩
  ·rw[Zal hb]at e;exact k.frz b u e
 ·obtain⟨h1,h2,h3⟩:=k.ext b u e
  have hb:b≠a:=by intro z;subst z;rw[p5]at e;cases e
  exact⟨h1,by rw[Zal hb];exact h2,h3⟩
 ·obtain⟨v,h1,h2⟩:=k.val j d h
  exact⟨v,h1,h2.mono sg⟩
 ·obtain⟨c,o,w1,w2,w3,w4,w5⟩:=k.own j x od e1 e2
  have hc:c≠a:=by intro z;subst z;exact p6 j x od e1 e2 w1
  exact⟨c,o,w1,w2,w3.mono sg,by rw[Zal hc];exact w4,w5⟩
def dctD (kds:List (Key × D)):D:=.dct (kds.map (·.1)) (kds.map (·.2))
theorem Zmf {t:TE}(h:JO K t Δ λod Δ1=>∃kds,od=.dct kds/\P (dctD kds) Δ1):JE K t Δ P:=λg G H σ Q k c=>
 h g G H σ Q k λa od G1 H1 Δ1 k1 s1 pd hq_=>by
  obtain⟨kds,e,p1⟩:=hq_;subst e;obtain⟨o,q1,q2,_⟩:=id pd;cases o with
  |dK kvs=>
   obtain⟨k2,sg,r⟩:=k1.freezeD pd q1;exact c _ _ _ H1 Δ1 k2 (s1.trans sg) r p1
  |_=>exact absurd q2 (λz=>z)
end
end L2
set_option Elab.async false
set_option linter.all false
set_option maxRecDepth 100000
namespace HT
open PySem PyProof.Rows
end HT
namespace L2
open PySem PySem.Spec PyProof.Rows
section
variable {K:W.Frag}{Δ:Evt}{P:D->Evt->Prop}
end
section
variable {prog:Program}{w:World}{A:Around}{R:Result->Shared->Prop}{I:Addr}{fp wr:List Addr}{G:Array GenState->Array GenState->Prop}{n:Nat}{P:Nat->Value->Prop}{St:Nat->Shared->Prop}{K:Type}[DecidableEq K] {knd:KeyKind prog w K}
end
section
variable {X:Cx}
end
end L2
namespace L2
open PySem PySem.Spec PyProof.Rows
section
variable {prog:Program}{w:World}{A:Around}{E:Value->Shared->Prop}{s:Shared}
end
section
variable {K:W.Frag}{Δ:Evt}{P:D->Evt->Prop}
def onlyV:Slot->Slot
 |.val d=>.val d
 |_=>.any
end
end L2
namespace L2
open PySem PySem.Spec PyProof.Rows
open PySem PySem.Spec PyProof.Rows PySem.SeqAt
section
variable {prog:Program}{w:World}{A:Around}{E:Value->Shared->Prop}{s:Shared}
end
section
variable {K:W.Frag}{Δ:Evt}
end
open PySem PySem.Spec PyProof.Rows PySem.SeqAt
section
open PySem.AutoSeq1 (wpAny_loadPart')
open PySem.MeetsSeq PySem.MeetsSeq2 PySem.MeetsSeq3
end
section
variable {prog:Program}{w:World}{A:Around}{R:Result->Shared->Prop}{I:Addr}{fp wr:List Addr}{n:Nat}{P:Nat->Value->Prop}{St:Nat->Heap->Prop}
end
end L2
namespace L2
open PySem PySem.Spec PyProof.Rows PySem.SeqAt
section
variable {K:W.Frag}{Δ:Evt}{P:D->Evt->Prop}
end
open PySem PySem.Spec PyProof.Rows PySem.SeqAt
def rNeT (K:W.Frag):R2:=λx y H Q=>∃(G:Hp) (n:Nat) (xs ys:List D) (a b:Addr) (vs ws:List V),Same G H/\SqT K H a vs/\SqT K H b ws/\Reps K G vs xs/\Reps K G ws ys/\(∀d∈xs,Dp n d)/\(∀d∈ys,Dp n d)/\n<=5/\x=.ref a/\y=.ref b/\Q (.bl (!(eqF (n+1) (.tup xs) (.tup ys)))) H
section
variable {X:Cx}
theorem neTK (K:W.Frag) (hv:X.A.units+8<cLine) (hK:X.K=K:=by rfl):OpR X (compareOp .NotEq) (rNeT K):=by
 subst hK;intro pins s σ H x y v u Q I rx ry h;obtain⟨G,n,xs,ys,a,b,vs,ws,sg,h1,h2,ra,rb,pd,pe,hn,rfl,rfl,q⟩:=h;cases rx;cases ry;obtain⟨its,w1,p1,_⟩:=I.tuple h1;obtain⟨its2,w2,p2,_⟩:=I.tuple h2;have l1:=w1.length;have l2:=w2.length;have l3:=ra.length;have l4:=rb.length;have z:=RcNeAt.tuples (A:=X.A) (s:=s) (e:=atZip n xs ys) p1 p2 (by omega) λj g1 g2=>by
  have g1':j<its.length:=by simpa using g1
  have g2':j<its2.length:=by simpa using g2
  have hx:j<xs.length:=by omega
  have hy:j<ys.length:=by omega
  obtain⟨p,hp1,hp2⟩:=ra.get (Wab hx);obtain⟨q,hq1,hq2⟩:=rb.get (Wab hy);obtain⟨va,hv1,hv2⟩:=w1.get hp1;obtain⟨vb,hw1,hw2⟩:=w2.get hq1;rw[Wab g1']at hv1;rw[Wab g2']at hw1;rw[Wbk,Wbk,Wau.inj hv1,Wau.inj hw1];have:=(Zow n (A:=X.A.in1) I sg hp2 hq2 hv2 hw2 (pd _ (Wbc hx)) (pe _ (Wbc hy)) (by show X.A.units+1+n<cLine;omega)).1;unfold atZip;rw[Wab hx,Wab hy];exact this
 have e1:(!((Wbx (min its.toArray.size its2.toArray.size)).all (atZip n xs ys) && its.toArray.size == its2.toArray.size)) = !(eqF (n+1) (.tup xs) (.tup ys)):=by
  show _ = !(xs.length == ys.length && (xs.zip ys).all λp=>eqF n p.1 p.2);rw[<- Zgi,Waf,Waf,<- l1,<- l2,l3,l4,Bool.and_comm]
 rw[e1]at z;exact z X.prog X.w _ _ ⟨.bl _,H,I,rfl,q⟩
end
section
variable {K:W.Frag}{Δ:Evt}{P:D->Evt->Prop}
theorem Zrt {n:Nat}{xs ys:List D}(hn:n<=5) (pd:∀d∈xs,Dp n d) (pe:∀d∈ys,Dp n d) (p:P (.bl (!(eqF (n+1) (.tup xs) (.tup ys)))) Δ):JR2 K (rNeT K) (.tup xs) (.tup ys) Δ P:=λg G H σ Q x y k rx ry c=>by
 obtain⟨a,vs,rfl,ha,rs⟩:=rx.inv;obtain⟨b,ws,rfl,hb,rt⟩:=ry.inv;exact⟨G,n,xs,ys,a,b,vs,ws,k.live,SqT.of (k.live _ _ ha),SqT.of (k.live _ _ hb),rs,rt,pd,pe,hn,rfl,rfl,c _ _ G H Δ k (Same.refl _) (.bl _) p⟩
end
open PySem PySem.Spec PyProof.Rows PySem.SeqAt
open PySem in
theorem Zbu {v} {j} {p:Pos}{es:List Expr}{env:Env}:starEach (Expr.Constant v j p::es) env=(false,eval (Expr.Constant v j p) env)::starEach es env:=rfl
open PySem in
theorem Zbf {a b:Expr}{op:Operator}{p:Pos}{es:List Expr}{env:Env}:starEach (Expr.BinOp a op b p::es) env=(false,eval (Expr.BinOp a op b p) env)::starEach es env:=rfl
section
variable {K:W.Frag}{Δ:Evt}{P:D->Evt->Prop}
end
open PySem PySem.Spec PyProof.Rows PySem.SeqAt
open PySem PySem.Spec PyProof.Rows PySem.SeqAt
section
variable {X:Cx}
end
section
variable {prog:Program}{w:World}{A:Around}{E:Value->Shared->Prop}{s:Shared}
theorem Znh {l:Addr}{vs:List Value}{k:Nat}{d:Option Addr}{sl:Array (Option Value)}{x:Int}{u:Tok}{Q:Value->Shared->Prop}(ho:s.heap.get? l=some { cls:=.type "list",dict:=d,data:=.seq vs.toArray k,slots:=sl }) (hlo:-(2 ^ 63:Int)<=x) (hhi:x<2 ^ 63) (hsz:vs.length*x.toNat<=2 ^ 24)
  (h:Q (.ref s.heap.objs.size) { s with heap:=s.heap.push { cls:=.type "list",data:=.seq (Wai x.toNat vs).flatten.toArray } }):wpAny (model prog w) A (binaryOp .Mult (.ref l) (.int x u)) Q E s:=by
 have hsz':vs.toArray.size*x.toNat<=2 ^ 24:=by simpa using hsz
 refine wpAny_binaryOp_repeat_ref (T:="list") (U:="int") (by decide) ⟨_,ho,rfl⟩ (λs'=>typeIs_int s' x u) noFill_list_mul F.fills_int_mul F.slot_int_rmul repeat_list F.slot_int_index.lookup
  (call_meets F.slot_int_rmul (typeIs_int s x u) F.entry_int_rmul (F.args_int_rmul_2 _ _) (lm_int_rmul_list_any x u l vs.toArray k d sl)
   ⟨ho,rfl,⟨_,ho,rfl⟩,call_meets F.slot_list_mul ⟨_,ho,rfl⟩ F.entry_list_mul (F.args_list_mul_2 _ _)
    (lm_list_mul_any l vs.toArray k d sl x u (by simp[Builtin.List.listFitsIndex];omega) (by omega) (by simp[Builtin.List.listTooLong,sizeLine];omega))
    ⟨ho,?_⟩⟩)
 rw[listMul_foldl_if];exact h
end
section
variable {X:Cx}
def rMulL (K:W.Frag):R2:=λx y H Q=>∃(a:Addr) (u:V) (n:Nat),x=.ref a/\y=.int (n:Int)/\SqL K H a [u]/\n<=1000/\∀l,H l=none->Q (.ref l) (upd H l (.lst (Wai n u)))
theorem Zjv {u:V}{v:Value}(r:RelV u v):∀n,Vals (Wai n u) (Wai n v)
 |0=>.nil
 |n+1=>.cons r (Zjv r n)
theorem Zqk (K:W.Frag) (hK:X.K=K:=by rfl):OpR X (binaryOp .Mult) (rMulL K):=by
 subst hK;intro pins s σ H x y v u Q I rx ry h;obtain⟨a,z,n,rfl,rfl,ha,hn,q⟩:=h;cases rx;obtain⟨t,rfl⟩:=ry;obtain⟨its,r1,p1,_⟩:=I.list ha;obtain⟨⟨cls,dd,data,sl⟩,ho,hc,k,hd⟩:=p1.isList;simp only at hc hd;subst hc hd;have hl1:its.length=1:=r1.length.symm;refine Znh ho (by omega) (by omega) (by rw[hl1,Wbn];omega) ?_;rw[Wbn];obtain⟨v,rfl,rv⟩:=r1.one;rw[List.flatten_replicate_singleton];refine⟨.ref s.heap.objs.size,_,I.laid (t':=s.toks) (o:=.lst (Wai n z)) (λb ob q=>Wac _ q) (Wak _) ?_,rfl,q _ (I.hok.fresh (Wak _))⟩;have hz:(Wai n z).length<=sizeLine:=by rw[Wa3];exact Wat hn (show 1000<=sizeLine by decide)
 exact⟨hz,Wai n v,0,Zjv rv n,Wal _ rfl⟩
end
section
variable {K:W.Frag}{Δ:Evt}{P:D->Evt->Prop}
theorem Zjr {G:Hp}{v:V}{d:D}(r:Rep K G v d):∀n,Reps K G (Wai n v) (Wai n d)
 |0=>.nil
 |n+1=>.cons r (Zjr r n)
theorem Zq1 {d:D}{n:Nat}(hn:n<=1000) (p:P (.lst (Wai n d)) Δ):JR2 K (rMulL K) (.lst [d]) (.int (n:Int)) Δ P:=λg G H σ Q x y k rx ry c=>by
 cases ry.inv;obtain⟨a,us,rfl,ha,rs⟩:=rx.inv;obtain⟨u,t,rfl,r,tt⟩:=rs.inv;cases tt.inv;refine⟨a,u,n,rfl,rfl,SqL.of (k.live _ _ ha),hn,λl hl=>?_⟩;obtain⟨k2,sg⟩:=k.laid hl (.lst (Wai n u));exact c _ _ _ _ Δ k2 sg (.lst Zan (Zjr (r.mono sg) n)) p
theorem Zo2 {i:Nat}{ds:List D}{t:TS}{P:Pst}(h:Δ[i]?=some (.own (.lst ds))) (p:JS K t (Δ.set i (.val (.lst ds))) P):JS K t Δ P:=
 JS.conv (λg G H σ k=>by
  obtain⟨a,h1,pd⟩:=k.take h;obtain⟨o,q1,q2,_⟩:=id pd;cases o with
  |lst vs=>
   obtain⟨k2,sg,r⟩:=(k.drop i).freeze pd q1;have k3:=k2.setVal (i:=i) (by simpa using (Wah.mp h).1) r;have e1:σ.set i (some (.ref a)) = σ:=by
    apply Wbp;intro j;by_cases hj:j=i
    ·subst hj;rw[Wad (k.lt h),h1]
    ·rw[Wae (Ne.symm hj)]
   rw[e1,List.set_set]at k3;exact⟨_,sg,k3⟩
  |_=>exact absurd q2 (λz=>z)) p
end
open PySem PySem.Spec PyProof.Rows PySem.SeqAt
section
variable {prog:Program}{w:World}{A:Around}{E:Value->Shared->Prop}{s:Shared}
end
section
variable {K:W.Frag}{Δ:Evt}
end
section
variable {K:W.Frag}{Δ:Evt}{P:D->Evt->Prop}
end
section
variable {X:Cx}
end
def SmP (k:Int × Int):Prop:=0<=k.1/\k.1<64/\0<=k.2/\k.2<2
section
variable {prog:Program}{w:World}{A:Around}{E:Value->Shared->Prop}{s:Shared}
variable {hf:Int × Int->Int}(hfi:∀{a b:Int × Int},SmP a->SmP b->hf a=hf b->a=b)
include hfi
end
section
variable {X:Cx}
variable {o e:Expr}{es:List Expr}{to:TE}{t:TA}{name:Str}{apos cpos:Pos}{id:String}{r:V->List V->Hp->VK->Prop}
end
end L2
namespace L2
open PySem PySem.Spec PyProof.Rows
end L2
namespace L2
open PySem PySem.Spec PyProof.Rows
open PySem PySem.Spec PyProof.Rows PySem.SeqAt
section
variable {X:Cx}
end
section
variable {K:W.Frag}{Δ:Evt}
end
open PySem PySem.Spec PyProof.Rows PySem.SeqAt
section
variable {X:Cx}
def rSmT (K:W.Frag) (r:Bool):R2:=λx y H Q=>Q (.bl r) H/\∃(G:Hp) (n:Nat) (a b:Addr) (xs ys:List V) (ds:List D),Same G H/\Reps K G xs ds/\Reps K G ys ds/\ds.all (Sm n)=true/\n<=5/\x=.ref a/\y=.ref b/\SqT K H a xs/\SqT K H b ys
theorem neSmTK (K:W.Frag) (hv:X.A.units+8<cLine) (hK:X.K=K:=by rfl):OpR X (compareOp .NotEq) (rSmT K false):=by
 subst hK;intro pins s σ H x y v u Q I rx ry h;obtain⟨q,G,n,a,b,xs,ys,ds,sg,ra,rb,hd,hn,rfl,rfl,h1,h2⟩:=h;cases rx;cases ry;obtain⟨its,w1,p1,_⟩:=I.tuple h1;obtain⟨its2,w2,p2,_⟩:=I.tuple h2;have l1:=w1.length;have l2:=w2.length;have l3:=ra.length;have l4:=rb.length;have z:=RcNeAt.tuples (A:=X.A) (s:=s) (e:=λ_=>true) p1 p2 (by omega) λj h1 h2=>by
  have h1':j<its.length:=by simpa using h1
  have h2':j<its2.length:=by simpa using h2
  have hx:j<ds.length:=by omega
  obtain⟨p,hp1,hp2⟩:=ra.get (Wab hx);obtain⟨q,hq1,hq2⟩:=rb.get (Wab hx);obtain⟨va,hv1,hv2⟩:=w1.get hp1;obtain⟨vb,hw1,hw2⟩:=w2.get hq1;rw[Wab h1']at hv1;rw[Wab h2']at hw1;rw[Wbk,Wbk,Wau.inj hv1,Wau.inj hw1];exact Ze9 n I sg hp2 hq2 hv2 hw2 (Wba.mp hd _ (Wbc hx)) (by show X.A.units+1+n<cLine;omega)
 rw[Wba.mpr (λ_ _=>rfl),show (its.toArray.size == its2.toArray.size)=true by rw[Waf,Waf];exact beq_iff_eq.mpr (by omega),Bool.and_self]at z;exact z X.prog X.w _ _ ⟨.bl _,H,I,rfl,q⟩
end
section
variable {K:W.Frag}{Δ:Evt}
theorem Zsp {r:Bool}{P:D->Evt->Prop}{n:Nat}{ds:List D}(hn:n<=5) (h:ds.all (Sm n)=true) (p:P (.bl r) Δ):JR2 K (rSmT K r) (.tup ds) (.tup ds) Δ P:=λg G H σ Q x y k rx ry c=>by
 obtain⟨_,_,rfl,ha,ra⟩:=rx.inv
 next=>
  obtain⟨_,_,rfl,hb,rb⟩:=ry.inv
  next=>exact⟨c _ _ G H Δ k (Same.refl _) (.bl r) p,G,n,_,_,_,_,ds,k.live,ra,rb,h,hn,rfl,rfl,SqT.of (k.live _ _ ha),SqT.of (k.live _ _ hb)⟩
end
open PySem PySem.Spec PyProof.Rows PySem.SeqAt
section
variable {K:W.Frag}{Δ:Evt}{P:D->Evt->Prop}
end
open PySem PySem.Spec PyProof.Rows PySem.Builtin PySem.Builtin.Str
section
variable {K:W.Frag}{Δ:Evt}
end
section
variable {K:W.Frag}{Δ:Evt}{P:D->Evt->Prop}
end
section
variable {K:W.Frag}{Δ:Evt}
end
section
variable {K:W.Frag}{Δ:Evt}{P:D->Evt->Prop}
end
section
variable {K:W.Frag}{Δ:Evt}
end
section
variable {X:Cx}
end
section
variable {K:W.Frag}{Δ:Evt}{P:D->Evt->Prop}
end
section
variable {X:Cx}
end
section
variable {K:W.Frag}{Δ:Evt}{P:D->Evt->Prop}
end
open PySem PySem.Spec PyProof.Rows PySem.SeqAt
section
variable {X:Cx}
end
open PySem PySem.Spec PyProof.Rows PySem.SeqAt
section
variable {K:W.Frag}{Δ:Evt}
def PVO (K:W.Frag) (tl:TO) (Δ:Evt) (o:Option Int):Prop:=∀P:Option Int->Evt->Prop,P o Δ -> JO2 tl Δ K P
theorem Za9:PVO K tNoPart Δ none:=λP p=>Zew p
theorem Za3 {te:TE}{i:Int}(h:PV K te Δ (.int i)):PVO K (tPart te) Δ (some i):=λP p=>Zem (h _ ⟨i,rfl,p⟩)
theorem Zcr {te:TE}{tl th:TO}{ds:List D}{lo hi:Option Int}(a:PV K te Δ (.tup ds)) (b:PVO K tl Δ lo) (c:PVO K th Δ hi):PV K (tSl (rSlU K) te tl th) Δ (.tup (cutD ds lo hi)):=λP p=>Zj3 (a _ (b _ (c _ ⟨_,rfl,p⟩)))
theorem Zlk {ds es:List D}(hz:ds.length+es.length<=sizeLine):PR2 K (rAddU K) (.tup ds) (.tup es) Δ (.tup (ds++es)):=λP p=>Zm5 hz p
theorem Zj6 {r:List V->Hp->VK->Prop}{ta:TA}{ds:List D}{d:D}(a:PVs K ta Δ ds) (h:∀P:D->Evt->Prop,P d Δ -> JC K r ds Δ P):PV K (tCB r ta) Δ d:=λP p=>Za1 (a _ (h P p))
theorem Zkr {ds:List D}{lo hi:Option Int}{x:D}(h:x∈cutD ds lo hi):x∈ds:=List.mem_of_mem_drop (List.mem_of_mem_take h)
theorem Zib (ds:List D) (lo hi:Option Int):(cutD ds lo hi).length<=ds.length:=by
 unfold cutD;rw[Wbi,Wbj];omega
end
def shD:Nat->D->Prop
 |0,d=>d.shU
 |n+1,d=>d.shU\/∃ds,(d=.tup ds\/d=.lst ds)/\∀x∈ds,shD n x
theorem Zo9:∀{n:Nat}{d:D},shD n d->shD (n+1) d
 |0,_,h=>.inl h
 |n+1,d,h=>by
  rcases h with h|⟨ds,e,h⟩
  ·exact .inl h
  ·exact .inr ⟨ds,e,λx hx=>Zo9 (h x hx)⟩
section
variable {P:Program}{w:World}{K:W.Frag}{G H:Hp}{h:Heap}
theorem Zfn {n:Nat}(it:∀{v:V}{d:D}{u:Value},Rep K G v d->shD n d->RelV v u->d.pd.shown.length<=sizeLine->(∃as,Reads h u d.pd as)/\∃bs,ReadAtMost h d.pd.depth bs/\ReprK P w bs h d.pd.depth u d.pd.shown):∀{vs:List V}{ds:List D}{us:List Value},Reps K G vs ds->(∀x∈ds,shD n x)->Vals vs us->(∀t∈PyData.shownAll (D.pds ds),t.length<=sizeLine) →
  (∃as,ReadsAll h us (D.pds ds) as)/\∃bs,ReadAtMost h (PyData.depthAll (D.pds ds)) bs/\ReprAllK P w bs h (PyData.depthAll (D.pds ds)) us (PyData.shownAll (D.pds ds))
 |_,_,_,.nil,_,r,_=>by cases r;exact⟨⟨_,.nil⟩,[],(λ_ h=>nomatch h),.nil⟩
 |_,_,_,.cons (d:=d) (ds:=ds) a b,z,r,hz=>by
  cases r with
  |cons ra rb=>
   obtain⟨⟨as,h1⟩,b1,hb1,k1⟩:=it a (z _ (War ..)) ra (hz _ (War ..));obtain⟨⟨as2,h4⟩,b2,hb2,k2⟩:=Zfn it b (λx hx=>z x (Waq _ hx)) rb (λt ht=>hz t (Waq _ ht));refine⟨⟨_,.cons h1 h4⟩,b1++b2,λb hm=>?_,.cons ((k1.more λb hb=>Wb3 _ hb).level_le (Wc0 _ _)) (k2.more_le (λb hb=>Waw _ hb) (Wcw _ _))⟩;rcases Wa0.mp hm with hm|hm
   ·obtain⟨d',as',r',hd'⟩:=hb1 b hm
    exact⟨d',as',r',Wat hd' (Wc0 _ _)⟩
   ·obtain⟨d',as',r',hd'⟩:=hb2 b hm
    exact⟨d',as',r',Wat hd' (Wcw _ _)⟩
theorem Ziw (ok:HOk P w H h) (sg:Same G H) {v:V}{d:D}{u:Value}(rep:Rep K G v d) (sh:d.shU) (ru:RelV v u) (sz:d.pd.shown.length<=sizeLine):(∃as,Reads h u d.pd as)/\∃bs,ReadAtMost h d.pd.depth bs/\ReprK P w bs h d.pd.depth u d.pd.shown:=by
 obtain⟨as,h1,h2,h3⟩:=Zsk ok sg rep sh ru;exact⟨⟨as,h1⟩,ReprK.of_reads (prog:=P) (w:=w) h1 h2 h3 sz⟩
theorem Zjn (ok:HOk P w H h) (sg:Same G H):∀{n:Nat}{v:V}{d:D}{u:Value},Rep K G v d->shD n d->RelV v u->d.pd.shown.length<=sizeLine->(∃as,Reads h u d.pd as)/\∃bs,ReadAtMost h d.pd.depth bs/\ReprK P w bs h d.pd.depth u d.pd.shown
 |0,_,_,_,rep,sh,ru,sz=>Ziw ok sg rep sh ru sz
 |n+1,v,d,u,rep,sh,ru,sz=>by
  rcases sh with z|⟨ds,rfl|rfl,z⟩
  ·exact Ziw ok sg rep z ru sz
  ·cases rep with
   |tup e rs=>
    rename_i a vs
    cases (show u=Value.ref a from ru);obtain⟨_,its,rv,o,ho,⟨hc,k,hd⟩,hdd⟩:=ok _ _ (sg _ _ e);have sz':(tupleText (PyData.shownAll (D.pds ds))).length<=sizeLine:=sz;obtain⟨⟨as,ra⟩,bs,hb,hk⟩:=Zfn (n:=n) (λr s q z=>Zjn ok sg r s q z) rs z rv (λt ht=>Wat (tupleText_mem_le ht) sz');have r:Reads h (.ref a) (.tuple (D.pds ds)) _:=.tuple ho hc hd ra;have hna:a ∉ bs:=not_mem_of_deeper r (by show _<PyData.depthAll (D.pds ds)+1;omega) hb;refine⟨⟨_,r⟩,a::bs,λb hm=>?_,ReprK.tuple ho hc hd hna hk⟩;rcases Wam.mp hm with rfl|hm
    ·exact⟨_,_,r,Wak _⟩
    ·obtain⟨d',as',r',hd'⟩:=hb b hm
     exact⟨d',as',r',Nat.le_succ_of_le hd'⟩
  ·cases rep with
   |lst e rs=>
    rename_i a vs
    cases (show u=Value.ref a from ru);obtain⟨_,its,k,rv,ho⟩:=ok _ _ (sg _ _ e);have sz':(listText (PyData.shownAll (D.pds ds))).length<=sizeLine:=sz;obtain⟨⟨as,ra⟩,bs,hb,hk⟩:=Zfn (n:=n) (λr s q z=>Zjn ok sg r s q z) rs z rv (λt ht=>Wat (listText_mem_le ht) sz');have r:Reads h (.ref a) (.list (D.pds ds)) _:=.list ho rfl rfl ra;have hna:a ∉ bs:=not_mem_of_deeper r (by show _<PyData.depthAll (D.pds ds)+1;omega) hb;have mm:ReadAtMost h (PyData.depthAll (D.pds ds)+1) (a::bs):=λb hm=>by
     rcases Wam.mp hm with rfl|hm
     ·exact⟨_,_,r,Wak _⟩
     ·obtain⟨d',as',r',hd'⟩:=hb b hm
      exact⟨d',as',r',Nat.le_succ_of_le hd'⟩
    cases its with
    |nil=>cases rv;cases rs;exact⟨⟨_,r⟩,a::bs,mm,ReprK.listEmpty ho rfl rfl⟩
    |cons x l=>exact⟨⟨_,r⟩,a::bs,mm,ReprK.list ho rfl rfl hna (by simpa using hk.length_eq) (λi y e=>hk.item i y (by simpa using e))⟩
end
def rReprLV (K:W.Frag):List V->Hp->VK->Prop:=λxs H Q=>∃(G:Hp) (a:Addr) (d:D) (ds:List D) (n:Nat),xs=[.ref a]/\Same G H/\Rep K G (.ref a) (.lst (d::ds))/\(∀x∈d::ds,shD n x)/\(D.pd (.lst (d::ds))).depth<=20/\(D.pd (.lst (d::ds))).shown.length<=sizeLine/\Q (.str (D.pd (.lst (d::ds))).shown) H
def rReprTV (K:W.Frag):List V->Hp->VK->Prop:=λxs H Q=>∃(G:Hp) (a:Addr) (ds:List D) (n:Nat),xs=[.ref a]/\Same G H/\Rep K G (.ref a) (.tup ds)/\(∀x∈ds,shD n x)/\(D.pd (.tup ds)).depth<=20/\(D.pd (.tup ds)).shown.length<=sizeLine/\Q (.str (D.pd (.tup ds)).shown) H
section
variable {X:Cx}
theorem reprLVK (K:W.Frag) (hg:X.A.guards=some []) (hu:X.A.units+30<cLine) (hK:X.K=K:=by rfl):CallR X (.builtin "repr") (rReprLV K):=by
 subst hK;intro pins s σ H xs us Q I r h;obtain⟨G,a,d,ds,n,rfl,sg,rep,sh,dp,sz,q⟩:=h;obtain⟨u,rfl,ru⟩:=vals1 r;cases (show u=Value.ref a from ru);cases rep with
 |lst e rs=>
  obtain⟨_,its,k,rv,ho⟩:=I.hok _ _ (sg _ _ e);have sz':(listText (PyData.shownAll (D.pds (d::ds)))).length<=sizeLine:=sz;obtain⟨⟨as,ra⟩,bs,hb,hk⟩:=Zfn (n:=n) (λr s q z=>Zjn I.hok sg r s q z) rs sh rv (λt ht=>Wat (listText_mem_le ht) sz');have dp':PyData.depthAll (D.pds (d::ds))+1<=20:=dp;cases its with
  |nil=>cases rv;cases rs
  |cons x l=>
   have r:Reads s.heap (.ref a) (.list (D.pds (d::ds))) _:=.list ho rfl rfl ra;have hna:a ∉ bs:=not_mem_of_deeper r (by show _<PyData.depthAll (D.pds (d::ds))+1;omega) hb;refine call_repr_slot (by omega) ⟨_,ho,rfl⟩ F.slot_list_repr.toG ?_;refine call_list_reprK ho rfl rfl hna (by simpa using hk.length_eq) (λi y e=>hk.item i y (by simpa using e)) (g:=[]) hg (λb _=>Clear.nil b) (by show X.A.units+1+_<cLine;omega) (λ_ _ e=>e) (λh' t tk hk2=>⟨_,_,rfl,.str _,H,I.kept hk2,⟨_,rfl⟩,q⟩) sz'
theorem reprTVK (K:W.Frag) (hg:X.A.guards=some []) (hu:X.A.units+30<cLine) (hK:X.K=K:=by rfl):CallR X (.builtin "repr") (rReprTV K):=by
 subst hK;intro pins s σ H xs us Q I r h;obtain⟨G,a,ds,n,rfl,sg,rep,sh,dp,sz,q⟩:=h;obtain⟨u,rfl,ru⟩:=vals1 r;cases (show u=Value.ref a from ru);cases rep with
 |tup e rs=>
  obtain⟨_,its,rv,o,ho,⟨hc,k,hd⟩,hdd⟩:=I.hok _ _ (sg _ _ e);have sz':(tupleText (PyData.shownAll (D.pds ds))).length<=sizeLine:=sz;obtain⟨⟨as,ra⟩,bs,hb,hk⟩:=Zfn (n:=n) (λr s q z=>Zjn I.hok sg r s q z) rs sh rv (λt ht=>Wat (tupleText_mem_le ht) sz');have dp':PyData.depthAll (D.pds ds)+1<=20:=dp;have r:Reads s.heap (.ref a) (.tuple (D.pds ds)) _:=.tuple ho hc hd ra;have hna:a ∉ bs:=not_mem_of_deeper r (by show _<PyData.depthAll (D.pds ds)+1;omega) hb;refine call_repr_slot (by omega) ⟨o,ho,hc⟩ F.slot_tuple_repr ?_;exact call_tuple_reprK ho hc hd hna hk (g:=[]) hg (λb _=>Clear.nil b) (by show X.A.units+1+_<cLine;omega) (λ_ _ e=>e) (λh' t tk hk2=>⟨_,_,rfl,.str _,H,I.kept hk2,⟨_,rfl⟩,q⟩) sz'
theorem reprVK (K:W.Frag) (hg:X.A.guards=some []) (hu:X.A.units+30<cLine) (hK:X.K=K:=by rfl):CallR X (.builtin "repr") (λxs H Q=>rRepr K xs H Q\/rReprLV K xs H Q\/rReprTV K xs H Q):=CallR.or (reprK K hg hu hK) (CallR.or (reprLVK K hg hu hK) (reprTVK K hg hu hK))
end
section
variable {K:W.Frag}{Δ:Evt}{P:D->Evt->Prop}
structure RepV (d:D):Prop where
 kind:d.shT\/∃n,(∃e es,d=.lst (e::es)/\∀x∈e::es,shD n x)\/∃ds,d=.tup ds/\∀x∈ds,shD n x
 deep:d.pd.depth<=20
 size:d.pd.shown.length<=sizeLine
theorem Zot {d:D}(h:RepV d) (p:P (.str d.pd.shown) Δ):JC K (λxs H Q=>rRepr K xs H Q\/rReprLV K xs H Q\/rReprTV K xs H Q) [d] Δ P:=λg G H σ Q vs k rs c=>by
 rcases h.kind with z|⟨n,⟨e,es,rfl,z⟩|⟨ds,rfl,z⟩⟩
 ·exact .inl (Zqm z h.deep h.size p g G H σ Q vs k rs c)
 ·obtain⟨_,_,rfl,r,t⟩:=rs.inv
  cases t.inv;obtain⟨a,us,rfl,ha,rr⟩:=r.inv;exact .inr (.inl ⟨G,_,e,es,n,rfl,k.live,.lst ha rr,z,h.deep,h.size,c _ _ G H Δ k (Same.refl _) (.str _) p⟩)
 ·obtain⟨_,_,rfl,r,t⟩:=rs.inv
  cases t.inv;obtain⟨a,us,rfl,ha,rr⟩:=r.inv;exact .inr (.inr ⟨G,_,ds,n,rfl,k.live,.tup ha rr,z,h.deep,h.size,c _ _ G H Δ k (Same.refl _) (.str _) p⟩)
end
open PySem PySem.Spec PyProof.Rows PySem.W
structure LamSc (osc:Scope) (oN:List Str) (scope:Scope) (fvs:List Str) (sel:List Nat):Prop where
 kind:scope.kind=.function
 co:scope.isCoroutine=false
 gen:scope.isGenerator=false
 nocell:∀x∈scope.names,x.2≠.cell
 free:∀x∈scope.names,x.2=.free->osc.names.lookup x.1=some .cell\/osc.names.lookup x.1=some .free
 len:fvs.length=sel.length
 fv:∀p∈fvs.zip sel,oN[p.2]?=some p.1/\scope.names.lookup p.1=some .free
structure LamAt (base:Heap) (l:Addr) (qual:Str) (params:Arguments) (body:Expr) (scope:Scope) (clos:List (Str × Addr)) (pm:Value) (c':Addr) (ctv:Value) (fvs:List Str) (cs:List V):Prop where
 kind:scope.kind=.function
 co:scope.isCoroutine=false
 gen:scope.isGenerator=false
 nocell:∀x∈scope.names,x.2≠.cell
 obj:base.get? l=some (kla_obj "<lambda>" qual params body scope clos pm c' ctv)
 code:base.CodeRec (.ref c') qual
 cell:∀x c,clos.lookup x=some c->∃v,base.IsCell c v
 inj:∀x y c,clos.lookup x=some c->clos.lookup y=some c->x=y
 has:∀x,scope.names.lookup x=some .free->∃c,clos.lookup x=some c
 len:fvs.length=cs.length
 val:∀(i:Nat) x v,fvs[i]?=some x->cs[i]?=some v->scope.names.lookup x=some .free/\∃c u,clos.lookup x=some c/\base.IsCell c (some u)/\RelV v u
def lamCx (CX:CXT) (P:Program) (w:World) (K:W.Frag) (mg:Str->Option Value) (base:Heap) (N:List Str) (qual:Str) (scope:Scope) (l:Addr) (cd:Value) (clos:List (Str × Addr)) (A:Around) (outer:List Env) (s:Shared) (H:Hp) (E:XK):Cx where
 prog:=P
 w:=w
 K:=K
 mg:=mg
 base:=base
 A:=A.deeper (envX qual scope s.heap.objs.size l cd clos)
 N:=N
 s₀:=s
 H₀:=H
 env:=envX qual scope s.heap.objs.size l cd clos
 outer:=outer
 stack:=envX qual scope s.heap.objs.size l cd clos::outer
 ex:=[]
 calm:=true
 fn:=λ_=>false
 pn:=[]
 xe:=λe s'=>wpAny (model P w) (A.deeper (envX qual scope s.heap.objs.size l cd clos)) (leaving (envX qual scope s.heap.objs.size l cd clos) e) (λ_ s''=>CX outer H s E e s'') (λe' s''=>CX outer H s E e' s'') s'
section
variable {CX:CXT}{P:Program}{w:World}{K:W.Frag}{mg:Str->Option Value}{base:Heap}{k:Nat}{l c':Addr}{qual:Str}{params:Arguments}{body:Expr}{scope:Scope}{clos:List (Str × Addr)}{pm ctv:Value}{fvs:List Str}{cs:List V}
theorem Zpl (L:LamAt base l qual params body scope clos pm c' ctv fvs cs) {A:Around}{outer:List Env}{s:Shared}{H:Hp}{E:XK}(hd:A.handled=none) (e0:Env0 P w K mg base A outer s H) {h₁:Heap}{tk:Nat}{m:Str->Option Value}
  (hns:h₁.Ns s.heap.objs.size m) (old:∀b o,s.heap.get? b=some o->h₁.get? b=some o) :
  Inv (lamCx CX P w K mg base fvs qual scope l (.ref c') clos A outer s H E) [] (cs.map some) H { s with heap:=h₁,toks:=tk }:=by
 have noA:∀b:Addr,b ∉ (lamCx CX P w K mg base fvs qual scope l (.ref c') clos A outer s H E).ex:=λb z=>absurd (show b∈([]:List Addr) from z) (by simp);have keepB:∀b o,base.get? b=some o->h₁.get? b=some o:=λb o e=>old b o (e0.bs b o e).1;refine⟨⟨e0.mod,L.kind,rfl,rfl,Wak _,L.inj,λx hx=>?_,λx c h _=>(by cases h),λ_=>hd,Around.frames_deeper e0.frames,.inr ⟨rfl,rfl⟩,λb z=>absurd z (noA b),e0.bs,e0.bsz,λb _ _=>noA b,λb z=>absurd z (noA b),e0.funs,e0.frf⟩,
  rfl,e0.bare,Un.kept old,⟨m,hns,λi x v h1 h2 h3=>?_⟩,λx c h=>?_,e0.hok.fresh (Wak _),λx c h=>?_,λp hp=>absurd (show p∈([]:List (Addr × Obj)) from hp) (by simp),e0.hok.kept old,?_⟩
 ·have hx:scope.names.lookup x=some .cell\/scope.names.lookup x=some .free:=hx
  rcases hx with hx|hx
  ·exact absurd rfl (L.nocell _ (PySem.mem_of_lookup hx))
  ·exact L.has x hx
 ·have h1:fvs[i]?=some x:=h1
  rw[Waj]at h2;cases z:cs[i]? with
  |none=>rw[z]at h2;cases h2
  |some v'=>
   rw[z]at h2;have h2:v'=v:=by simpa using h2
   subst h2;obtain⟨hf,c,u,e1,⟨o,ho,hod⟩,r⟩:=L.val i x v' h1 z;exact⟨u,r,.inr ⟨.inr hf,c,e1,o,keepB _ _ ho,hod⟩⟩
 ·obtain⟨v,o,ho,hod⟩:=L.cell x c h
  exact⟨v,o,keepB _ _ ho,hod⟩
 ·obtain⟨v,o,ho,_⟩:=L.cell x c h
  exact(e0.bs c o ho).2
 ·rw[Waa];exact L.len.symm
theorem Zrv {sp:Hp->VK->XK->Prop}(L:LamAt base l qual params body scope clos pm c' ctv fvs cs)
  (hbody:∀(A:Around) (outer:List Env) (s:Shared) (H:Hp) (Q:VK) (E:XK),Room k (A.deeper (envX qual scope s.heap.objs.size l (.ref c') clos))->sp H Q E →
   ∃t,PE (lamCx CX P w K mg base fvs qual scope l (.ref c') clos A outer s H E) body t/\t (cs.map some) H Q) :
  FnOk P w K mg base CX (k+1) l (kla_fn "<lambda>" qual params body scope clos pm (.ref c') ctv) [] (λvs H Q E=>vs=[]/\sp H Q E):=by
 refine⟨λvs H Q E h=>by rw[h.1];rfl,λA outer s H args us vs Q E hr e0 hb r hsp=>?_⟩;have lim:s.heap.NoLimit:=e0.mod.nolimit.keeps λb o e=>(e0.bs b o e).1;obtain⟨c,oc,vsc,tq,hc,hoc,hdc,hq⟩:=L.code;refine kla_callFunE hr.depth (e0.bs _ _ L.obj).1 rfl L.co L.gen rfl ⟨c,oc,vsc,tq,hc,(e0.bs _ _ hoc).1,hdc,hq⟩ (hb _ _ _ _ ?_);refine wpAny_newFunctionEnv L.nocell (λx hx=>absurd (show x∈([]:List (Str × Value)) from hx) (by simp)) (λh₁ hns hsb=>?_) L.kind;have old:∀b o,s.heap.get? b=some o->h₁.get? b=some o:=λb o e=>hsb.extBut b o (Way (Wao e)) (Wac _ e);refine⟨lim.keeps old,?_⟩;show codeAny _ _ (.expr body (envX qual scope s.heap.objs.size l (.ref c') clos)) _ _;obtain⟨t,ht,hq⟩:=hbody A outer s H Q E (hr.deeper _) hsp.2;have I:=Zpl (CX:=CX) (E:=E) L hr.hd e0 (tk:=s.toks+0) hns old;refine kla_codeExpr (wpAny_mono (ht [] _ (cs.map some) H Q I hq) (λu s' hs=>?_) λe s' hs=>hs);obtain⟨v,H',J,rv,q⟩:=hs;exact⟨v,H',J.os,J.bare,J.base,J.hok,rv,q⟩
end
open PySem PySem.Spec PyProof.Rows PySem.W
def TabO (T:Addr) (ps:Array Value) (h:Heap):Prop:=h.get? T=some (tabObj ps)
def CodO (c:Addr) (q:Str) (h:Heap):Prop:=h.CodeRec (.ref c) q
theorem Zg0 {c:Addr}{q:Str}{h:Heap}(x:CodO c q h):∃o vs,h.get? c=some o/\o.data=.fields vs:=by
 obtain⟨c2,oc,vs,tq,hc,hoc,hd,_⟩:=x;cases hc;exact⟨oc,vs,hoc,hd⟩
theorem Zdf {c:Addr}{q:Str}{h1 h2:Heap}(x:CodO c q h1) (k:∀o,h1.get? c=some o->h2.get? c=some o):CodO c q h2:=by
 obtain⟨c2,oc,vs,tq,hc,hoc,hd,hq⟩:=x;cases hc;exact⟨c,oc,vs,tq,rfl,k _ hoc,hd,hq⟩
section
variable {P:Program}{w:World}{H:Hp}{h:Heap}{a T c:Addr}{ps:Array Value}{q:Str}
theorem Zme (e:h.get? T=some (tabObj ps)):ObjOk P w H h T (.ext (TabO T ps)):=⟨e,⟨_,e⟩,λ_ _ z k=>k _ z⟩
theorem Ztb (x:CodO c q h):ObjOk P w H h c (.ext (CodO c q)):=⟨x,(let ⟨o,_,e,_⟩:=Zg0 x; ⟨o,e⟩),λ_ _ z k=>Zdf z k⟩
theorem Zs3 (x:ObjOk P w H h a (.ext (TabO T ps))):a=T:=by
 obtain⟨p,_,st⟩:=x;by_cases e:a=T
 ·exact e
 ·have:=st h (hideAll h [T]) p λo z=>hideAll_get [T] z (by simp[e])
  have n:=hideAll_none [T] (h:=h) (b:=T) (by simp);rw[show (hideAll h [T]).get? T=some (tabObj ps) from this]at n;cases n
end
def del (H:Hp) (c:Addr):Hp:=λb=>if b=c then none else H b
theorem Zef {H:Hp}{c:Addr}:del H c c=none:=if_pos rfl
theorem Zb5 {H:Hp}{b c:Addr}(h:b≠c):del H c b=H b:=if_neg h
theorem Zg6 {H:Hp}{b c:Addr}{o:HO}(h:del H c b=some o):b≠c/\H b=some o:=by
 by_cases e:b=c
 ·rw[e,Zef]at h;cases h
 ·rw[Zb5 e]at h;exact⟨e,h⟩
theorem Zd9 {H:Hp}{b c:Addr}(h:H b=none):del H c b=none:=by
 by_cases e:b=c
 ·rw[e,Zef]
 ·rw[Zb5 e];exact h
section
variable {X:Cx}{pins:List (Addr × Obj)}{σ:St}{H H':Hp}{s s':Shared}{c:Addr}{φ:Heap->Prop}
theorem Inv.untrack (I:Inv X pins σ H s) (hc:H c=some (.ext φ)):Inv X pins σ (del H c) s where
 ok:=I.ok
 os:=I.os
 bare:=I.bare
 base:=⟨I.base.keep,I.base.slot,λb o e n hx=>Zd9 (I.base.free b o e n hx),I.base.there,
  λb xs e=>by
   have z:=I.base.tups b xs e;rw[Zb5 λq=>by rw[q,hc]at z;cases z];exact z,
  λb o u e=>by
   have z:=I.base.frzs b o u e;rw[Zb5 λq=>by rw[q,hc]at z;cases z];exact z,
  λb ps e=>by
   obtain⟨more,z⟩:=I.base.tbls b ps e;exact⟨more,by rw[Zb5 λq=>by rw[q,hc]at z;cases z];exact z⟩⟩
 loc:=I.loc
 cell:=I.cell
 free:=Zd9 I.free
 freeC:=λx c e=>Zd9 (I.freeC x c e)
 pin:=λp hp=>let ⟨a,b,r⟩:=I.pin p hp; ⟨a,Zd9 b,r⟩
 hok:=λb u e=>by
  obtain⟨ne,e⟩:=Zg6 e;refine(I.hok b u e).stay (λ_ _ _ q=>q) (λd q=>?_) λd xs q=>?_
  ·rw[Zb5 λz=>by rw[z,hc]at q;cases q];exact q
  ·rw[Zb5 λz=>by rw[z,hc]at q;cases q];exact q
 len:=I.len
theorem Inv.track (I:Inv X pins σ H s) {o:Obj}{vs:Array Value}(hc:H c=none) (ho:s.heap.get? c=some o) (hd:o.data=.fields vs) (new:∀H2:Hp,ObjOk X.prog X.w H2 s.heap c (.ext φ))
  (hp:∀p∈X.pn++pins,p.1≠c) (h0:∀o,X.s₀.heap.get? c=some o->X.H₀ c=none->c ∉ X.ex->False):Inv X pins σ (upd H c (.ext φ)) s where
 ok:=I.ok
 os:=I.os
 bare:=I.bare
 base:=⟨I.base.keep,I.base.slot,λb o e n hx=>by
   have ne:b≠c:=λz=>by subst z;exact h0 o e n hx
   rw[Zal ne];exact I.base.free b o e n hx,I.base.there,
  λb xs e=>by
   have z:=I.base.tups b xs e;rw[Zal (Zao z hc)];exact z,
  λb o u e=>by
   have z:=I.base.frzs b o u e;rw[Zal (Zao z hc)];exact z,
  λb ps e=>by
   obtain⟨more,z⟩:=I.base.tbls b ps e;exact⟨more,by rw[Zal (Zao z hc)];exact z⟩⟩
 loc:=I.loc
 cell:=I.cell
 free:=by
  obtain⟨m,⟨o',es,ep,ho',hd',_⟩,_⟩:=I.loc;rw[Zal λz=>by rw[z,ho]at ho';cases ho';rw[hd]at hd';cases hd'];exact I.free
 freeC:=λx d e=>by
  obtain⟨v,o',ho',hd'⟩:=I.cell x d e;rw[Zal λz=>by rw[z,ho]at ho';cases ho';rw[hd]at hd';cases hd'];exact I.freeC x d e
 pin:=λp hq=>let ⟨a,b,r⟩:=I.pin p hq; ⟨a,by rw[Zal (hp p hq)];exact b,r⟩
 hok:=λb u e=>by
  by_cases z:b=c
  ·subst z;rw[Zan]at e;cases e;exact new _
  ·rw[Zal z]at e
   refine(I.hok b u e).stay (λ_ _ _ q=>q) (λd q=>?_) λd xs q=>?_
   ·rw[Zal (Zao q hc)];exact q
   ·rw[Zal (Zao q hc)];exact q
 len:=I.len
theorem Zhh {h b1 b2:Heap}:∀{l:List Env},(∀L∈frs l,b2.get? L=none)->h.FunFrames b1 l->h.FunFrames b2 l
 |[],_,_=>trivial
 |env::r,hn,hl=>by
  obtain⟨hk,⟨L,o,hf,_,ho,hd⟩,hr⟩:=hl;have e:frs (env::r)=L::frs r:=by unfold frs;rw[Wcs,hf]
  rw[e]at hn;exact⟨hk,⟨L,o,hf,hn L War,ho,hd⟩,Zhh (λb hb=>hn b (Waq _ hb)) hr⟩
theorem Inv.envT (I:Inv X pins σ H s):∃base',Env0 X.prog X.w X.K X.mg base' X.A X.stack s H/\∀b o,s.heap.get? b=some o->H b=none->b ∉ frs X.stack->base'.get? b=some o:=by
 refine⟨hideAll s.heap (trk s.heap H++frs X.stack),?_,?_⟩
 rotate_left
 ·intro b o e n hb
  refine hideAll_get _ e λhm=>?_;rcases Wa0.mp hm with hm|hm
  ·have:=(Wb5.mp hm).2
   rw[n]at this;cases this
  ·exact hb hm
 have keep:∀b o,X.base.get? b=some o->(hideAll s.heap (trk s.heap H++frs X.stack)).get? b=some o:=λb o e=>by
  refine hideAll_get _ (I.bs b o e).1 λhm=>?_;rcases Wa0.mp hm with hm|hm
  ·have:=(Wb5.mp hm).2
   rw[(I.bs b o e).2]at this;cases this
  ·have:=(I.stack.mem hm).1
   rw[e]at this;cases this
 have M:=I.ok.mod;refine⟨I.ok.frames,⟨M.kin.keeps keep,M.glob.keeps keep,(let ⟨mb,h1,h2⟩:=M.blt; ⟨mb,h1.keeps keep,h2⟩),M.nolimit.keeps keep⟩,λb o e=>?_,Nat.le_of_eq (hideAll_size _ _),Zhh (λL hL=>hideAll_none _ (Waw _ hL)) I.stack,I.stkFree,I.hok,I.bare⟩;have e2:s.heap.get? b=some o:=of_hideAll _ e;refine⟨e2,?_⟩;cases z:H b with
 |none=>rfl
 |some u=>
  have hm:b∈trk s.heap H++frs X.stack:=Wb3 _ (Wb5.mpr ⟨Wb9.mpr (Wao e2),by rw[z];rfl⟩);have n:=hideAll_none (trk s.heap H++frs X.stack) (h:=s.heap) hm;rw[e]at n;cases n
end
section
variable {X:Cx}{pins:List (Addr × Obj)}{σ:St}{H:Hp}{s:Shared}{k:Nat}{f l c' T c:Addr}{fd:FuncData}{qual:Str}{params:Arguments}{body:Expr}{scope:Scope}{pm ctv:Value}{fvs:List Str}{sel:List Nat}{cs:List V}{E:XK}{Q:VK}{sp:List V->Hp->VK->XK->Prop}
theorem Zti (S:LamSc X.env.scope X.N scope fvs sel) (hfn:∀x,X.fn x=true) (I:Inv X pins σ H s) (hcs:sel.map (λj=>σ[j]?)=cs.map λv=>some (some v)) {base':Heap}(hb:∀b o,s.heap.get? b=some o->H b=none->b ∉ frs X.stack->base'.get? b=some o)
  (ol:s.heap.get? l=some (kla_obj "<lambda>" qual params body scope (clOf X.env scope.names []) pm c' ctv)) (nl:H l=none) (fl:l ∉ frs X.stack) (oc:CodO c' qual s.heap) (nc:H c'=none):LamAt base' l qual params body scope (clOf X.env scope.names []) pm c' ctv fvs cs:=by
 have cs':∀{x d},(clOf X.env scope.names []).lookup x=some d->X.env.cells.lookup x=some d:=λ{x d} h=>Zbs _ _ (λ_ _ z=>by simp at z) h;have cellb:∀{x d v},X.env.cells.lookup x=some d->s.heap.IsCell d v->base'.IsCell d v:=λ{x d v} e ⟨o,ho,hd⟩=>by
  refine⟨o,hb d o ho (I.freeC x d e) λhm=>?_,hd⟩;rcases Wam.mp (I.stkSub d hm) with z|z
  ·exact I.cne x d e z
  ·obtain⟨_,o',ho',_⟩:=I.ok.funs.mem z
   exact absurd (Wav (Wao ho') (I.ok.cab x d (hfn x) e)) (Wb2 _)
 have hasc:∀x,(x,NameKind.free)∈scope.names->∃d,X.env.cells.lookup x=some d:=λx hx=>I.ok.has x (S.free _ hx rfl);refine⟨S.kind,S.co,S.gen,S.nocell,hb l _ ol nl fl,?_,λx d e=>?_,λx y d h1 h2=>I.ok.inj x y d (cs' h1) (cs' h2),λx hx=>Zc9 scope.names [] (PySem.mem_of_lookup hx) (hasc x (PySem.mem_of_lookup hx)),?_,λi x v h1 h2=>?_⟩
 ·refine Zdf oc λo e=>hb c' o e nc λhm=>?_
  obtain⟨_,o',ho',hd'⟩:=I.stack.mem hm;obtain⟨o2,vs,e2,hd2⟩:=Zg0 oc;rw[e2]at ho';cases ho';exact hd' vs hd2
 ·obtain⟨v,z⟩:=I.cell x d (cs' e)
  exact⟨v,cellb (cs' e) z⟩
 ·have:=congrArg Wbe hcs
  rw[Waa,Waa]at this;rw[S.len,this]
 ·have hj:∃j,sel[i]?=some j /\ σ[j]?=some (some v):=by
   have:=congrArg (λz=>z[i]?) hcs;simp only[Waj,h2]at this;cases z:sel[i]? with
   |none=>rw[z]at this;cases this
   |some j=>rw[z]at this;exact⟨j,rfl,by simpa using this⟩
  obtain⟨j,e1,e2⟩:=hj;have hz:(x,j)∈fvs.zip sel:=Wap (i:=i) (by rw[Wbg];exact⟨h1,e1⟩);obtain⟨hN,hfr⟩:=S.fv _ hz;have hko:=S.free (x,.free) (PySem.mem_of_lookup hfr) rfl;obtain⟨m,hn,hl⟩:=I.loc;obtain⟨u,r,lk⟩:=hl j x v hN e2 (.inr hko);refine⟨hfr,?_⟩;rcases lk with ⟨hk,_⟩|⟨_,d,hd,hcell⟩
  ·have hk:X.env.scope.names.lookup x=some .local:=hk
   rcases hko with z|z <;> (rw[hk]at z;cases z)
  ·obtain⟨d',hd'⟩:=Zc9 scope.names [] (PySem.mem_of_lookup hfr) ⟨d,hd⟩
   have e:=cs' hd';rw[hd]at e;cases e;exact⟨d,u,hd',cellb hd hcell,r⟩
theorem Zi4 (S:LamSc X.env.scope X.N scope fvs sel) (hfn:∀x,X.fn x=true) (hr:Room k X.A) (hb:Binds X.K fd ["_law_asked"] [])
  (F:∀base' l clos pm c' ctv cs,LamAt base' l qual params body scope clos pm c' ctv fvs cs->FnOk X.prog X.w X.K X.mg base' CX0 k f fd ["_law_asked"] (λvs H Q E=>vs=[.ref l]/\sp cs H Q E))
  (I:Inv X pins σ H s) (hcs:sel.map (λj=>σ[j]?)=cs.map λv=>some (some v))
  (ol:s.heap.get? l=some (kla_obj "<lambda>" qual params body scope (clOf X.env scope.names []) pm c' ctv)) (nl:H l=none) (fl:l ∉ frs X.stack) (oc:CodO c' qual s.heap) (nc:H c'=none)
  (hp:∀p∈X.pn++pins,p.1≠c') (h0:∀o,X.s₀.heap.get? c'=some o->X.H₀ c'=none->c' ∉ X.ex->False)
  (h:sp cs H (λv H'=>H' c'=none->Q v (upd H' c' (.ext (CodO c' qual)))) E):wpAny (model X.prog X.w) X.A (call (.ref f) [.ref l]) (EP X pins σ Q) X.xe s:=by
 obtain⟨base',e0,hbase⟩:=I.envT;have L:=Zti S hfn I hcs hbase ol nl fl oc nc;have FF:=F base' l _ pm c' ctv cs L;have hbd:=hb s [.ref l] I.kIn rfl;refine wpAny_call (codeAny_mono (FF.run X.A X.stack s H ⟨[.ref l],[]⟩ [.ref l] [.ref l] _ E hr e0 hbd (.cons rfl .nil) ⟨rfl,h⟩) λr s' hq=>?_);cases r with
 |error e=>exact hq.elim
 |ok fl'=>
  cases fl' with
  |ret u=>
   obtain⟨v,H',os,bare,un,hok,rv,q⟩:=hq;have I':=I.call' os un hok bare (λb z=>absurd z (by simp));obtain⟨o,vs,ho,hd⟩:=Zg0 oc;have nfr:c' ∉ frs X.stack:=λhm=>by
    obtain⟨_,o',ho',hd'⟩:=I.stack.mem hm;rw[ho]at ho';cases ho';exact hd' vs hd
   have ho':=un.keep c' o ho nc nfr (by simp);have nc':=un.free c' o ho nc (by simp);have oc':CodO c' qual s'.heap:=Zdf oc λo2 e2=>by rw[ho]at e2;cases e2;exact ho'
   exact⟨v,_,I'.track nc' ho' hd (λH2=>Ztb oc') hp h0,rv,q nc'⟩
  |next=>exact False.elim hq
  |brk=>exact False.elim hq
  |cont=>exact False.elim hq
def tLamC (i:Nat) (pos:Pos) (qual:Str) (T:Addr) (sel:List Nat) (sp:List V->Hp->VK->XK->Prop) (E:XK):TE:=λσ H Q=>
 ∃a ps cs,σ[i]?=some (some (.ref a))/\H a=some (.ext (TabO T ps))/\TriplesOk ps.toList/\sel.map (λj=>σ[j]?)=cs.map (λv=>some (some v)) ∧
  ((codeAmong pos ps.toList=none/\∀c',H c'=none->c'≠a->sp cs (upd H a (.ext (TabO T (ps ++ #[rawInt pos.line,rawInt pos.col,.ref c'])))) (λv H'=>H' c'=none->Q v (upd H' c' (.ext (CodO c' qual)))) E) ∨
   ∃c',codeAmong pos ps.toList=some (.ref c')/\H c'=some (.ext (CodO c' qual))/\sp cs (del H c') (λv H'=>H' c'=none->Q v (upd H' c' (.ext (CodO c' qual)))) E)
theorem Zsy {x:Str}{i:Nat}{p pos pos2:Pos}(S:LamSc X.env.scope X.N scope fvs sel) (hfn:∀x,X.fn x=true) (hr:Room k X.A) (hb:Binds X.K fd ["_law_asked"] [])
  (F:∀base' l clos pm c' ctv cs,LamAt base' l qual params body scope clos pm c' ctv fvs cs->FnOk X.prog X.w X.K X.mg base' CX0 k f fd ["_law_asked"] (λvs H Q E=>vs=[.ref l]/\sp cs H Q E))
  (hm:X.mg x=some (.ref f)) (hk:W.keepIn X.K (.ref f)=true) (hcode:X.env.code=.ref c) (C:CodeHd X.base c T) (hB:X.base.BuiltinsAt X.mg T) (hq:X.env.qual ++ "<lambda>" = qual) (hdef:defaultsOf params X.env=([],[]):=by rfl)
  (hg:Gl X x:=by rfl) (hdb:(x == ("__debug__":Str))=false:=by decide)
  (he:starEach [Expr.Lambda params body scope pos] X.env=(false,eval (Expr.Lambda params body scope pos) X.env)::starEach [] X.env:=by rfl) (hpl:(backTo pos2 (starEach [] X.env)).any (·.1)=false:=by rfl) :
  PE X (.Call (.Name x p) [.Lambda params body scope pos] [] pos2) (tLamC i pos qual T sel sp E):=by
 intro pins s σ H Q I h;obtain⟨a,ps,cs,h1,h2,ht,hcs,h3⟩:=h;have ea:a=T:=Zs3 (I.hok a _ h2);subst ea;have hP:s.heap.get? a=some (tabObj ps):=(I.hok a _ h2).1;refine wpAny_Call_Name_kw (Zep I hg hm ?_ hdb);refine PySem.W.callWith_K (h₀:=X.base) I.ok.mod.kin hk ?_ he hpl;rw[he];show wpAny _ _ (spliced ((false,eval (Expr.Lambda params body scope pos) X.env)::backTo pos2 (starEach [] X.env))) _ _ s;refine Calls.spliced_cons (kla_eval hdef ?_);have hcl:closureFor scope X.env=pure (clOf X.env scope.names []):=Zbv λn hn=>I.ok.has n (S.free _ hn rfl);have hgs:=I.mod.glob.keeps I.bk;have hgP:mainGlobals≠a:=λq=>by
  obtain⟨o,es,ep,e,hd,_⟩:=hgs;rw[q,hP]at e;cases e;cases hd
 have hBs:s.heap.BuiltinsAt X.mg a:=let ⟨bm,ob,b1,b2,b3,b4,b5,b6⟩:=hB; ⟨bm,ob,b1,b2,b3,b4,I.bk _ _ b5,b6⟩
 have big:∀{h':Heap},s.heap.objs.size<=h'.objs.size->H h'.objs.size=none/\h'.objs.size ∉ frs X.stack:=λ{h'} hz=>⟨I.hok.fresh hz,λhm=>by
  obtain⟨_,o,ho,_⟩:=I.stack.mem hm;exact absurd (Wav (Wao ho) hz) (Wb2 _)⟩
 rw[hq];rcases h3 with ⟨hnf,h3⟩|⟨c',hf,h4,h3⟩
 ·refine kla_makeFunction (mg:=X.mg) hcl I.ok.glob hgs hcode (C.keeps I.bk) hP ht hnf hgP hBs λc' ctv h' tk hx hge hlt hrec htb=>?_
  have hcz:H c'=none:=I.hok.fresh hge;have hca:c'≠a:=λz=>by rw[z,h2]at hcz;cases hcz
  have hsz:s.heap.objs.size<=h'.objs.size:=Wbr (Wbl hge hlt);obtain⟨bg1,bg2⟩:=big hsz;have neA:h'.objs.size≠a:=λz=>by rw[z,h2]at bg1;cases bg1
  have I1:=I.write (x:=a) (e:=a) (o:=.ext (TabO a (ps ++ #[rawInt pos.line,rawInt pos.col,.ref c']))) (t':=tk) (h':=h'.push (kla_obj "<lambda>" qual params body scope (clOf X.env scope.names []) ((X.mg "__name__").getD .none) c' ctv)) (by rw[h2];trivial) (.inl rfl)
   (λb u hb e=>Wac _ (hx b u hb e)) ⟨_,Wac _ htb⟩ (Zme (Wac _ htb))
  refine Calls.spliced_nil ⟨I1.kIn,?_⟩;refine Zi4 (c':=c') S hfn hr hb F I1 hcs (Wal _ rfl) (by rw[Zal neA];exact bg1) bg2 (Zdf hrec λo e=>Wac _ e) (by rw[Zal hca];exact hcz) (λq hq'=>?_) (λo e _ _=>?_) (h3 c' hcz hca)
  ·have:=(I.pin q hq').1
   exact Way (Wav (Wao this) hge)
  ·exact absurd (Wav (Wao e) (Wat I.sz hge)) (Wb2 _)
 ·refine kla_makeFunctionHit (mg:=X.mg) hcl I.ok.glob hgs hcode (C.keeps I.bk) hP ht hf hBs λctv h' tk hk' hsz=>?_
  obtain⟨bg1,bg2⟩:=big hsz;have I1:=(I.kept (t':=tk) (h':=h'.push { cls:=.type "function",data:=.func (kla_fn "<lambda>" qual params body scope (clOf X.env scope.names []) ((X.mg "__name__").getD .none) (.ref c') ctv) }) (λb u e=>Wac _ (hk' b u e))).untrack h4;refine Calls.spliced_nil ⟨I1.kIn,?_⟩;refine Zi4 (c':=c') S hfn hr hb F I1 hcs (Wal _ rfl) (Zd9 bg1) bg2 (Zdf (I.hok c' _ h4).1 λo e=>Wac _ (hk' _ _ e)) Zef (λq hq' z=>?_) (λo e n hx=>?_) h3
  ·have:=(I.pin q hq').2.1
   rw[z,h4]at this;cases this
  ·have:=I.base.free c' o e n hx
   rw[h4]at this;cases this
end
open PySem PySem.Spec PyProof.Rows PySem.W
theorem Zkj {pos:Pos}{v:Value}{r:List Value}:∀{l:List Value},codeAmong pos l=some v->codeAmong pos (l++r)=some v:=λ{l} h=>by
 fun_induction codeAmong pos l with
 |case1 line t col u c rest hc=>rw[Wbo,Wbo,Wbo];unfold codeAmong;rw[if_pos hc];exact h
 |case2 line t col u c rest hc ih=>rw[Wbo,Wbo,Wbo];unfold codeAmong;rw[if_neg hc];exact ih h
 |case3=>cases h
theorem Zkm {pos:Pos}{r:List Value}:∀{l:List Value},TriplesOk l->codeAmong pos l=none->codeAmong pos (l++r)=codeAmong pos r:=λ{l} ht h=>by
 fun_induction TriplesOk l with
 |case1=>rfl
 |case2 a t b u x rest ih=>
  rw[Wbo,Wbo,Wbo];have e:∀z:List Value,codeAmong pos (.int a t::.int b u::x::z)=if (a == (pos.line:Int) && b == (pos.col:Int))=true then some x else codeAmong pos z:=λz=>rfl
  rw[e]at h ⊢;split at h
  ·cases h
  ·rename_i hc
   rw[if_neg hc];exact ih ht h
 |case3=>exact ht.elim
def TabR (T:Addr) (pl:List (Pos × Str)) (G0:Hp) (φ:Heap->Prop):Prop:=∃ps,φ = TabO T ps/\TriplesOk ps.toList/\∀p∈pl,codeAmong p.1 ps.toList=none\/∃c',codeAmong p.1 ps.toList=some (.ref c')/\G0 c'=some (.ext (CodO c' p.2))
theorem TabR.start {T:Addr}{pl:List (Pos × Str)}{G0:Hp}:TabR T pl G0 (TabO T #[]):=⟨#[],rfl,trivial,λp _=>.inl rfl⟩
theorem TabR.more {T:Addr}{pl:List (Pos × Str)}{G G2:Hp}{ps:Array Value}{pos:Pos}{q:Str}{c':Addr}(ht:TriplesOk ps.toList) (h:∀p∈pl,codeAmong p.1 ps.toList=none\/∃c',codeAmong p.1 ps.toList=some (.ref c')/\G c'=some (.ext (CodO c' p.2)))
  (hu:∀p∈pl,p.1.line=pos.line->p.1.col=pos.col->p.2=q) (sg:Same G G2) (hc:G2 c'=some (.ext (CodO c' q))):TabR T pl G2 (TabO T (ps ++ #[rawInt pos.line,rawInt pos.col,.ref c'])):=by
 refine⟨_,rfl,?_,λp hp=>?_⟩
 ·rw[Array.toList_append];exact TriplesOk_snoc _ _ _ _ ht
 ·rw[Array.toList_append]
  rcases h p hp with e|⟨d,e1,e2⟩
  ·rw[Zkm ht e]
   show codeAmong p.1 [rawInt pos.line,rawInt pos.col,.ref c']=none\/_;unfold rawInt codeAmong;by_cases z:((pos.line:Int) == (p.1.line:Int) && (pos.col:Int) == (p.1.col:Int))=true
   ·right
    simp only[Wa6,beq_iff_eq]at z;refine⟨c',?_,by rw[hu p hp (by omega) (by omega)];exact hc⟩;show codeAmong p.1 [.int pos.line 0,.int pos.col 0,.ref c']=_;unfold codeAmong;rw[if_pos (by simp only[Wa6,beq_iff_eq];exact z)]
   ·left
    rw[if_neg z];rfl
  ·exact .inr ⟨d,Zkj e1,sg _ _ e2⟩
def fill (o:Obj) (h:Heap):Nat->Heap
 |0=>Att.noObjs h
 |n+1=>(fill o h n).push o
theorem Zh4 (o:Obj) (h:Heap):∀n,(fill o h n).objs.size=n
 |0=>rfl
 |n+1=>by show ((fill o h n).push o).objs.size=_;rw[Wbm,Zh4 o h n]
theorem Zto {c C:Addr}{q:Str}{h0:Heap}:CodO c q≠InsC c C:=λe=>by
 have g:((fill { cls:=.none,data:=.fields #[.none,.str q 0] } h0 c).push { cls:=.none,data:=.fields #[.none,.str q 0] }).get? c=some { cls:=.none,data:=.fields #[.none,.str q 0] }:=by
  have z:=Wal (o:={ cls:=.none,data:=.fields #[.none,.str q 0] }) (fill { cls:=.none,data:=.fields #[.none,.str q 0] } h0 c) rfl;rw[Zh4]at z;exact z
 have h1:CodO c q ((fill { cls:=.none,data:=.fields #[.none,.str q 0] } h0 c).push { cls:=.none,data:=.fields #[.none,.str q 0] }):=⟨c,_,_,0,rfl,g,rfl,rfl⟩;rw[e]at h1;obtain⟨ox,vs,g1,g2,_⟩:=h1;rw[g]at g1;cases g1;cases g2
section
variable {K:W.Frag}{G H:Hp}{c:Addr}{q:Str}
mutual
theorem Rep.del (hc:G c=some (.ext (CodO c q))) (h0:Heap):∀{v:V}{d:D},Rep K G v d->Rep K (del G c) v d
 |_,_,.non=>.non
 |_,_,.bl b=>.bl b
 |_,_,.int i=>.int i
 |_,_,.str x=>.str x
 |_,_,.ty n=>.ty n
 |_,_,.adr a=>.adr a
 |_,_,.tup e r=>.tup (by rw[Zb5 λz=>by rw[z,hc]at e;cases e];exact e) (Reps.del hc h0 r)
 |_,_,.lst e r=>.lst (by rw[Zb5 λz=>by rw[z,hc]at e;cases e];exact e) (Reps.del hc h0 r)
 |_,_,.dct e l r=>.dct (by rw[Zb5 λz=>by rw[z,hc]at e;cases e];exact e) l (Reps.del hc h0 r)
 |_,_,.exc (a:=a) (C:=C) e=>.exc (by
   rw[Zb5 λz=>by
    rw[z,hc]at e;have e2:CodO c q=InsC c C:=by injection (Wau.inj e)
    exact Zto (h0:=h0) e2]
   exact e)
 |_,_,.scr e r=>.scr (by
   rcases e with e|e
   ·refine .inl ?_
    rcases e with e|⟨o,e⟩
    ·exact .inl (by rw[Zb5 λz=>by rw[z,hc]at e;cases e];exact e)
    ·exact .inr ⟨o,by rw[Zb5 λz=>by rw[z,hc]at e;cases e];exact e⟩
   ·exact .inr e) (Reps.del hc h0 r)
theorem Reps.del (hc:G c=some (.ext (CodO c q))) (h0:Heap):∀{vs:List V}{ds:List D},Reps K G vs ds->Reps K (del G c) vs ds
 |_,_,.nil=>.nil
 |_,_,.cons a b=>.cons (Rep.del hc h0 a) (Reps.del hc h0 b)
end
end
section
variable {K:W.Frag}{g:Gm}{G G2 H H2:Hp}{σ:St}{Δ:Evt}
theorem Ok.swap (k:Ok K g G H σ Δ) {i:Nat}{x:Slot}{R:Hp->(Heap->Prop)->Prop}{a:Addr}{φ2:Heap->Prop}(hx:Δ[i]?=some x) (ho:x.od=some (.ext R)) (ha:σ[i]?=some (some (.ref a))) (sg:Same G G2) (sh:∀b o,b≠a->H b=some o->H2 b=some o)
  (h2:H2 a=some (.ext φ2)) (g2:G2 a=none) (r:OwnRep K G2 (.ext φ2) (.ext R)) (hg:∀b o,G2 b=some o->H2 b=some o/\(G b=some o\/H b=none)):Ok K g G2 H2 σ Δ:=by
 obtain⟨a',o0,q1,q2,q3,q4,q5⟩:=k.own i x _ hx ho;rw[ha]at q1;cases q1;have nos:∀b o,¬ g.B b->g.Hz b=some o->b≠a:=λb o hb e z=>by
  subst z;cases x with
  |own _=>have q5:g.Hz b=none:=q5;rw[q5]at e;cases e
  |bor _=>exact hb q5
  |ownA c _=>have q5:c=b/\g.Hz b=none:=q5;rw[q5.2]at e;cases e
  |_=>cases ho
 have no2:∀b o,H b=some o->G b=none->G2 b=none:=λb o e n=>by
  cases z:G2 b with
  |none=>rfl
  |some u=>
   rcases(hg b u z).2 with y|y
   ·rw[n]at y;cases y
   ·rw[e]at y;cases y
 refine⟨λb o hb e=>sh b o (nos b o hb e) (k.same b o hb e),λb hb z=>?_,k.sub.trans sg,λb o e=>?_,λb o e=>?_,k.len,λj d e=>?_,λj y od e1 e2=>?_,k.dis⟩
 ·by_cases e:b=a
  ·subst e;rw[h2]at z;cases z
  ·cases y:H b with
   |none=>exact k.lent b hb y
   |some o=>rw[sh b o e y]at z;cases z
 ·obtain⟨h1,h3⟩:=hg b o e
  refine⟨h1,?_⟩;rcases h3 with z|z
  ·exact(k.frz b o z).2
  ·exact .inl (k.there z)
 ·obtain⟨h1,h3,h4⟩:=k.ext b o e
  have ne:b≠a:=λz=>h4 i x _ hx ho (by rw[z];exact ha);exact⟨sh b o ne h1,no2 b o h1 h3,h4⟩
 ·obtain⟨v,e1,e2⟩:=k.val j d e
  exact⟨v,e1,e2.mono sg⟩
 ·obtain⟨b,o,w1,w2,w3,w4,w5⟩:=k.own j y od e1 e2
  by_cases e:b=a
  ·subst e
   have ej:=k.dis j i y x od _ b e1 e2 hx ho w1 ha;subst ej;rw[hx]at e1;cases e1;rw[ho]at e2;cases e2;exact⟨b,_,w1,h2,r,g2,w5⟩
  ·exact⟨b,o,w1,sh b o e w2,w3.mono sg,no2 b o w2 w4,w5⟩
theorem caught (k:Ok K g G H σ Δ):∀{sel:List Nat}{ds:List D},sel.map (λj=>Δ[j]?)=ds.map (λd=>some (.val d))->∃cs,sel.map (λj=>σ[j]?)=cs.map (λv=>some (some v))/\Reps K G cs ds
 |[],[],_=>⟨[],rfl,.nil⟩
 |[],_::_,h=>by cases h
 |_::_,[],h=>by cases h
 |j::sel,d::ds,h=>by
  have h1:Δ[j]?=some (.val d):=by injection h
  have h2:sel.map (λj=>Δ[j]?)=ds.map (λd=>some (.val d)):=by injection h
  obtain⟨cs,e,r⟩:=caught k h2;obtain⟨v,e1,e2⟩:=k.val j d h1;exact⟨v::cs,by rw[Wa4,Wa4,e1,e],.cons e2 r⟩
theorem Zr5 {f:DSp}{E:XK}{i:Nat}{T:Addr}{pl:List (Pos × Str)}{pos:Pos}{qual:Str}{sel:List Nat}{ds:List D}{P:D->Evt->Prop}(h0:Heap) (hi:Δ[i]?=some (.bor (.ext (TabR T pl)))) (hp:(pos,qual)∈pl) (hu:∀p∈pl,p.1.line=pos.line->p.1.col=pos.col->p.2=qual)
  (hs:sel.map (λj=>Δ[j]?)=ds.map (λd=>some (.val d))) (h:f ds λd=>P d Δ):JE K (tLamC i pos qual T sel (spD K f) E) Δ P:=λg G H σ Q k c=>by
 obtain⟨a,o,h1,h2,h3,h4,h5⟩:=k.own i _ _ hi rfl;obtain⟨cs,hcs,rcs⟩:=caught k hs;cases o with
 |ext φ=>
  obtain⟨G0,s0,ps,rfl,ht,hpl⟩:=h3;have hpl:∀p∈pl,codeAmong p.1 ps.toList=none\/∃c',codeAmong p.1 ps.toList=some (.ref c')/\G c'=some (.ext (CodO c' p.2)):=λp hp=>(hpl p hp).imp_right λ⟨c',e1,e2⟩=>⟨c',e1,s0 _ _ e2⟩;refine⟨a,ps,cs,h1,h2,ht,hcs,?_⟩;rcases hpl _ hp with hn|⟨c',hf,hc'⟩
  ·refine .inl ⟨hn,λc' nc ne=>?_⟩
   have Gc:G c'=none:=by
    cases z:G c' with
    |none=>rfl
    |some u=>rw[k.live _ _ z]at nc;cases nc
   generalize hφ:TabO T (ps ++ #[rawInt pos.line,rawInt pos.col,.ref c']) = φ2;have lv:Same G (upd H a (.ext φ2)):=λb o e=>by
    rw[Zal λz=>by rw[z,h4]at e;cases e];exact k.live b o e
   refine⟨G,ds,_,lv,rcs,h,λr H' d sh rr pd nc'=>?_⟩;have Hc1:upd H a (.ext φ2) c'=none:=by rw[Zal ne];exact nc
   have Gg:glue G (upd H a (.ext φ2)) H' c'=none:=by rw[Zcb Hc1];exact nc'
   have sg1:Same (glue G (upd H a (.ext φ2)) H') (upd (glue G (upd H a (.ext φ2)) H') c' (.ext (CodO c' qual))):=λb o e=>by rw[Zal λz=>by rw[z,Gg]at e;cases e];exact e
   have sg:Same G (upd (glue G (upd H a (.ext φ2)) H') c' (.ext (CodO c' qual))):=(Zdn lv).trans sg1;refine c r d (upd (glue G (upd H a (.ext φ2)) H') c' (.ext (CodO c' qual))) _ Δ (k.swap hi rfl h1 sg (λb o hb e=>?_) (φ2:=φ2) ?_ ?_ ⟨_,Same.refl _,?_⟩ λb o e=>?_) sg (rr.mono sg1) pd
   ·rw[Zal (Zao e nc)]
    exact sh b o (by rw[Zal hb];exact e)
   ·rw[Zal (Ne.symm ne)]
    exact sh a _ Zan
   ·rw[Zal (Ne.symm ne),Zb1 Zan];exact h4
   ·have:=TabR.more (T:=T) ht hpl hu sg Zan
    rw[hφ]at this;exact this
   ·by_cases z:b=c'
    ·subst z
     rw[Zan]at e ⊢;exact⟨e,.inr nc⟩
    ·rw[Zal z]at e ⊢
     obtain⟨e1,e2⟩:=Zd2 lv (λb o _ e=>sh b o e) b o e;refine⟨e1,e2.imp_right λy=>?_⟩;by_cases z2:b=a
     ·subst z2;rw[Zan]at y;cases y
     ·rw[Zal z2]at y;exact y
  ·have Hc:H c'=some (.ext (CodO c' qual)):=k.live _ _ hc'
   refine .inr ⟨c',hf,Hc,?_⟩;have lv:Same (del G c') (del H c'):=λb o e=>by
    obtain⟨ne,e⟩:=Zg6 e;rw[Zb5 ne];exact k.live b o e
   refine⟨del G c',ds,_,lv,Reps.del hc' h0 rcs,h,λr H' d sh rr pd nc'=>?_⟩;have Gg:glue (del G c') (del H c') H' c'=none:=by rw[Zcb Zef];exact nc'
   have sg1:Same (glue (del G c') (del H c') H') (upd (glue (del G c') (del H c') H') c' (.ext (CodO c' qual))):=λb o e=>by rw[Zal λz=>by rw[z,Gg]at e;cases e];exact e
   have sg:Same G (upd (glue (del G c') (del H c') H') c' (.ext (CodO c' qual))):=λb o e=>by
    by_cases z:b=c'
    ·subst z;rw[hc']at e;cases e;exact Zan
    ·rw[Zal z]
     have e2:del G c' b=some o:=by rw[Zb5 z];exact e
     rw[Zb1 (lv b o e2)];exact e2
   refine c r d _ _ Δ (k.grow sg (λb o e=>?_) λb o e=>?_) sg (rr.mono sg1) pd
   ·by_cases z:b=c'
    ·subst z;rw[Hc]at e;cases e;exact Zan
    ·rw[Zal z];exact sh b o (by rw[Zb5 z];exact e)
   ·by_cases z:b=c'
    ·subst z
     rw[Zan]at e ⊢;cases e;exact⟨rfl,.inl hc'⟩
    ·rw[Zal z]at e ⊢
     obtain⟨e1,e2⟩:=Zd2 lv (λb o _ e=>sh b o e) b o e;refine⟨e1,?_⟩;rcases e2 with y|y
     ·exact .inl (by rw[Zb5 z]at y;exact y)
     ·exact .inr (by rw[Zb5 z]at y;exact y)
 |_=>exact h3.elim
end
section
variable {prog:Program}{w:World}{A:Around}{E:Value->Shared->Prop}{s:Shared}
theorem Zle {a it l:Addr}{oa:Obj}{va:Array Value}{i:Nat}{items:Array Value}{Q:Option Value->Shared->Prop}(hh:A.handled=some (.ref a)) (ha:s.heap.get? a=some oa) (hda:oa.data=.fields va) (h2:va[2]?=some .none) (hne:a≠it)
  (hit:s.heap.IsListIter it l i) (hl:s.heap.IsList l items) (hx:items[i]?=none) (hQ:∀h',Heap.ExtBut it s.heap h' -> Q none { s with heap:=h' }):wpAny (model prog w) A (pyNext (.ref it)) Q E s:=by
 obtain⟨o,ho,hc,hd⟩:=id hit;obtain⟨ol,hol,_,nl,hdl⟩:=hl;unfold pyNext;refine wpAny_bind (wpAny_attempt (wpAny_callSpecial?_slot (name:=Str.ofString "__next__") hit.typeIs slot_listiter_next (wpAny_call_entry slot_listiter_next hit.typeIs entry_listiter_next ?_ (args_listiter_next _))));show wpAny _ _ (field (.ref it) 0 >>= _) _ _ s;refine wpAny_bind (wpAny_field ho hd (x:=.ref l) rfl ?_);show wpAny _ _ (if (Value.ref l == Value.none)=true then _ else _) _ _ s;rw[if_neg (show ¬ ((Value.ref l == Value.none)=true) from Wan)];show wpAny _ _ (field (.ref it) 1 >>= _) _ _ s;refine wpAny_bind (wpAny_field ho hd (x:=.int i 0) rfl ?_);show wpAny _ _ (seqItems? (.ref l) >>= _) _ _ s;refine wpAny_bind (wpAny_seqItems hol hdl ?_);simp only[Wbn,hx];refine wpAny_bind (wpAny_rule (wpAny_bind (wpAny_setField ho hd (by simp) ?_)));show wpAny _ _ (newExc (.type "StopIteration") [] >>= _) _ _ _;refine wpAny_bind ?_;simp only[newExc,newTuple];refine wpAny_bind (wpAny_newObj_type ?_ (by size_fits));refine wpAny_bind (m:=firstArgMember _ _) (wpAny_of_eq (a:=Value.none) (by first|rfl|(simp only[firstArgMember];rfl)) (wpAny_newObj_type ?_ (by size_fits)));have sb:Heap.SameBut it s.heap (s.heap.update it (Obj.mapFields (·.setIfInBounds 0 Value.none))):=Heap.SameBut.update ..;have sz:=sb.1;have up:∀b o,b≠it->s.heap.get? b=some o->(s.heap.update it (Obj.mapFields (·.setIfInBounds 0 Value.none))).get? b=some o:=λb o hb e=>(sb.2 b hb).trans e;have nb:∀b o,s.heap.get? b=some o->(s.heap.update it (Obj.mapFields (·.setIfInBounds 0 Value.none))).objs.size+1≠b:=λb o e=>by
  rw[sz];exact Wcc (Wcl (Wao e))
 refine raiseH (a:=a) (A:=A.in1) hh (Ne.symm ?_) (Wac _ (Wac _ (up a oa hne ha))) hda h2 (Wal _ rfl) rfl (by rw[Array.size_append];exact Wav (show 2<6 by decide) (Nat.le_add_right _ _)) ?_
 ·rw[Wbm];exact nb a oa ha
 ·refine wpAny_bind (wpAny_isInstance (T:="StopIteration") (b:=true) ⟨_,Wbh _ (Wal _ rfl) rfl,rfl⟩ isSubtype_stop ?_)
  refine wpAny_pure (hQ _ λb o hb e=>?_);rw[Wa7 _ _ (by rw[Wbm];exact nb b o e)];exact Wac _ (Wac _ (up b o hb e))
end
def ItlH (xa:Addr) (K:W.Frag) (a:Addr):It:=
 ⟨λi H=>(∃xs x,SqL K H a xs/\xs[i]?=some x)/\∃C,H xa=some (.ext (InsC xa C)),λi H x H'=>H'=H/\(∀xs,SqL K H a xs->xs[i]?=some x)/\∃C,H xa=some (.ext (InsC xa C)),λi H=>(∃xs,SqL K H a xs/\xs.length<=i)/\∃C,H xa=some (.ext (InsC xa C))⟩
theorem Zj5 {P:Program}{w:World}{K:W.Frag}{tg:Expr}(xa a it:Addr):TurnH xa P w K tg (ItlH xa K a) [it] it (λi h=>h.IsListIter it a i) where
 mem:=(Zd8 (P:=P) (w:=w) (K:=K) (tg:=tg) a it).mem
 obj:=(Zd8 (P:=P) (w:=w) (K:=K) (tg:=tg) a it).obj
 keep:=(Zd8 (P:=P) (w:=w) (K:=K) (tg:=tg) a it).keep
 item:=by
  intro X hP hw hK hc i pins s σ H E I hf st hg;subst hP hw hK;obtain⟨⟨xs,x,hq,hx⟩,hC⟩:=hg;obtain⟨its,rv,p,hz⟩:=I.list hq;obtain⟨u,hu,ru⟩:=rv.get hx;obtain⟨f0,f1,f2,f3,f4,f5⟩:=hf it (by simp);refine wpAny_pyNext_list_item st p.isList (x:=u) (by simpa using hu) λh' st' sb=>?_;have I1:Inv X pins σ H { s with heap:=h' }:=I.turned (t':=s.toks) (λb o hb e=>(sb.2 b hb).trans e) f0 f1 f3 f4 f5;obtain⟨o,e,c,d⟩:=id st';exact⟨u,rfl,Znk (s:={ s with heap:=h' }) e c d (by decide) ⟨x,H,I1,ru,⟨rfl,λys hy=>by rw[I.list_inj hy hq];exact hx,hC⟩,st',λb hb=>(hf b hb).1⟩⟩
 done:=by
  intro X hP hw hK hc i pins s σ H E I hf st hg;subst hP hw hK;obtain⟨⟨xs,hq,hx⟩,C,hC⟩:=hg;obtain⟨its,rv,p,hz⟩:=I.list hq;obtain⟨f0,f1,f2,f3,f4,f5⟩:=hf it (by simp);have hl:=rv.length;obtain⟨⟨ox,vs,q1,q2,q3,q4⟩,_⟩:=I.hok xa _ hC;exact Zle hc q1 q3 q4 (Zao hC f0) st p.isList (by simp;omega) λh' eb=>⟨rfl,I.turned (t':=s.toks) (λb o hb e=>eb b o hb e) f0 f1 f3 f4 f5⟩
 self:=λ_ _ _ _ _ st h=>wpAny_pyIter_listiter st h
def iListH (xa:Addr) (K:W.Frag) (tl:TE):TI:=λσ H R=>tl σ H λx H1=>∃a,x=.ref a/\(∃xs,SqL K H1 a xs)/\R (ItlH xa K a) H1
section
variable {X:Cx}{tg:Expr}{K:W.Frag}
theorem Znw {xa:Addr}{l:Expr}{tl:TE}(hl:PE X l tl) (hK:X.K=K:=by rfl):PIH xa X tg l (iListH xa K tl):=by
 subst hK;intro pins s σ H R I h;refine thn (hl pins s σ H _ I h) λv s1 ⟨x,H1,I1,r1,q1⟩=>?_;obtain⟨a,e,⟨xs,hq⟩,q⟩:=q1;subst e;cases r1;obtain⟨its,rv,p,hz⟩:=I1.list hq;refine wpAny_pyIter_list p.isList ?_;refine⟨s1.heap.objs.size,[s1.heap.objs.size],_,_,H1,rfl,I1.kept (t':=s1.toks) λb o e=>Wac _ e,Zj5 xa a _,⟨_,Wal _ rfl,rfl,rfl⟩,λb hb=>?_,q⟩;have e:b=s1.heap.objs.size:=by simpa using hb
 subst e;exact I1.fpOk (Wak _) (I1.hok.fresh (Wak _))
end
section
variable {K:W.Frag}{Δ:Evt}
theorem Zob {xa C:Addr}{n:Nat}{tl:TE}{P:List D->Evt->Prop}(h:JE K tl Δ λd Δ1=>Δ1[n]?=some (.val (.exc xa C))/\∃ds,d=.lst ds/\P ds Δ1):JI K (iListH xa K tl) Δ P:=λg G H σ R k c=>
 h g G H σ _ k λv d G1 H1 Δ1 k1 s1 r1 hq_=>by
  obtain⟨hx,ds,e,p1⟩:=hq_;obtain⟨v2,q1,q2⟩:=k1.val n _ hx;cases q2 with
  |exc hC=>
  subst e;cases r1 with
  |lst ha rs=>
  have hs:=SqL.of (K:=K) ha;refine⟨_,rfl,⟨_,k1.live.seq hs⟩,c _ ds G1 H1 Δ1 k1 s1 (λG2 H2 sg sh=>⟨⟨⟨_,sh.seq (sg.seq hs),by rw[rs.length];exact Wak _⟩,C,sh _ _ (sg _ _ hC)⟩,λi d e=>?_⟩) p1⟩;obtain⟨v,hv,rv⟩:=rs.get e;refine⟨⟨⟨_,v,sh.seq (sg.seq hs),hv⟩,C,sh _ _ (sg _ _ hC)⟩,λx H3 ⟨e3,y3,_⟩=>⟨G2,Same.refl _,by rw[e3];exact Same.refl _,λb o q=>⟨by rw[e3];exact sh b o q,.inl q⟩,?_⟩⟩;have:=y3 _ (sh.seq (sg.seq hs));rw[hv]at this;cases this;exact rv.mono sg
end
section
variable {prog:Program}{w:World}{A:Around}{E:Value->Shared->Prop}{s:Shared}
theorem Zn1 {a it l:Addr}{oa:Obj}{va:Array Value}{i:Nat}{items:Array Value}{Q:Option Value->Shared->Prop}(hh:A.handled=some (.ref a)) (ha:s.heap.get? a=some oa) (hda:oa.data=.fields va) (h2:va[2]?=some .none) (hne:a≠it)
  (hit:IsTupIter s.heap it l i) (hl:IsTup s.heap l items) (hx:items[i]?=none) (hQ:∀h',Heap.ExtBut it s.heap h' -> Q none { s with heap:=h' }):wpAny (model prog w) A (pyNext (.ref it)) Q E s:=by
 obtain⟨o,ho,hc,hd⟩:=id hit;obtain⟨ol,hol,_,nl,hdl⟩:=hl;unfold pyNext;refine wpAny_bind (wpAny_attempt (wpAny_callSpecial?_slot (name:=Str.ofString "__next__") hit.typeIs slot_tupleiter_next (wpAny_call_entry slot_tupleiter_next hit.typeIs entry_tupleiter_next ?_ (args_tupleiter_next _))));show wpAny _ _ (field (.ref it) 0 >>= _) _ _ s;refine wpAny_bind (wpAny_field ho hd (x:=.ref l) rfl ?_);show wpAny _ _ (if (Value.ref l == Value.none)=true then _ else _) _ _ s;rw[if_neg (show ¬ ((Value.ref l == Value.none)=true) from Wan)];show wpAny _ _ (field (.ref it) 1 >>= _) _ _ s;refine wpAny_bind (wpAny_field ho hd (x:=.int i 0) rfl ?_);show wpAny _ _ (seqItems? (.ref l) >>= _) _ _ s;refine wpAny_bind (wpAny_seqItems hol hdl ?_);simp only[Wbn,hx];refine wpAny_bind (wpAny_rule (wpAny_bind (wpAny_setField ho hd (by simp) ?_)));show wpAny _ _ (newExc (.type "StopIteration") [] >>= _) _ _ _;refine wpAny_bind ?_;simp only[newExc,newTuple];refine wpAny_bind (wpAny_newObj_type ?_ (by size_fits));refine wpAny_bind (m:=firstArgMember _ _) (wpAny_of_eq (a:=Value.none) (by first|rfl|(simp only[firstArgMember];rfl)) (wpAny_newObj_type ?_ (by size_fits)));have sb:Heap.SameBut it s.heap (s.heap.update it (Obj.mapFields (·.setIfInBounds 0 Value.none))):=Heap.SameBut.update ..;have sz:=sb.1;have up:∀b o,b≠it->s.heap.get? b=some o->(s.heap.update it (Obj.mapFields (·.setIfInBounds 0 Value.none))).get? b=some o:=λb o hb e=>(sb.2 b hb).trans e;have nb:∀b o,s.heap.get? b=some o->(s.heap.update it (Obj.mapFields (·.setIfInBounds 0 Value.none))).objs.size+1≠b:=λb o e=>by
  rw[sz];exact Wcc (Wcl (Wao e))
 refine raiseH (a:=a) (A:=A.in1) hh (Ne.symm ?_) (Wac _ (Wac _ (up a oa hne ha))) hda h2 (Wal _ rfl) rfl (by rw[Array.size_append];exact Wav (show 2<6 by decide) (Nat.le_add_right _ _)) ?_
 ·rw[Wbm];exact nb a oa ha
 ·refine wpAny_bind (wpAny_isInstance (T:="StopIteration") (b:=true) ⟨_,Wbh _ (Wal _ rfl) rfl,rfl⟩ isSubtype_stop ?_)
  refine wpAny_pure (hQ _ λb o hb e=>?_);rw[Wa7 _ _ (by rw[Wbm];exact nb b o e)];exact Wac _ (Wac _ (up b o hb e))
theorem unpackH {a t:Addr}{oa:Obj}{va:Array Value}{items:Array Value}{Q:List Value->Shared->Prop}(hh:A.handled=some (.ref a)) (ha:s.heap.get? a=some oa) (hda:oa.data=.fields va) (h2:va[2]?=some .none) (ht:IsTup s.heap t items)
  (hQ:∀h',Heap.ExtBut s.heap.objs.size s.heap h' -> Q items.toList { s with heap:=h' }):wpAny (model prog w) A (unpackItems (.ref t) items.size none) Q E s:=by
 have hlt:t≠s.heap.objs.size:=by obtain⟨o,ho,_⟩:=ht;exact Way (Wao ho)
 unfold unpackItems;refine wpAny_bind ?_;unfold notIterableAtAll;refine wpAny_bind (wpAny_specialOf ht.typeIs slot_tuple_iter.lookup ?_);refine wpAny_pure ?_;simp only[Wc8,if_false];refine wpAny_bind (wpAny_holding (iter_tuple ht ?_));refine wpAny_bind (wpAny_holding (draw_tuple hlt items.size 0 _ _ ⟨_,Wal _ rfl,rfl,rfl⟩ (ht.push _) (by omega) λh₁ hit₁ hs₁=>?_));have hall:List.take items.size (List.drop 0 items.toList)=items.toList:=by
  rw[Wcm];exact Wcj (by simp)
 rw[hall];rw[if_neg (by simp)];have ht₁:IsTup h₁ t items:=(ht.push _).extBut hs₁.extBut hlt;have na:a≠s.heap.objs.size:=Way (Wao ha);have ha₁:h₁.get? a=some oa:=hs₁.extBut a oa na (Wac _ ha);refine wpAny_bind (wpAny_holding (Zn1 hh ha₁ hda h2 na hit₁ ht₁ (by simp) λh₂ he₂=>?_));simp only[Option.isSome_none,Wc8,if_false];exact wpAny_pure (hQ h₂ λb o hb e=>he₂ b o hb (hs₁.extBut b o hb (Wac _ e)))
end
def gTupH (xa:Addr) (K:W.Frag) (n:Nat) (t:TGs):TG:=λv σ H Q=>(∃C,H xa=some (.ext (InsC xa C)))/\gTup K n t v σ H Q
section
variable {X:Cx}
theorem gtupH {xa:Addr}{K:W.Frag}{es:List Expr}{k:Nat}{t:TGs}{n:Nat}{pos:Pos}(hc:X.A.handled=some (.ref xa)) (h:PGs X es t)
  (hn:(assignEach es X.env).length=n:=by rfl) (hst:(assignEach es X.env).findIdx? (·.1)=none:=by rfl) (hK:X.K=K:=by rfl):PG X (.Tuple es k pos) (gTupH xa K n t):=by
 subst hK;intro pins s σ H v u Q I r hw;obtain⟨⟨C,hC⟩,a,xs,e1,hq,hl,hw⟩:=hw;subst e1;cases r;obtain⟨its,rv,ht,hz⟩:=I.tuple hq;obtain⟨⟨ox,vs,q1,q2,q3,q4⟩,_⟩:=I.hok xa _ hC;have hln:(assignEach es X.env).length=its.toArray.size:=by simp[hn,<- hl,rv.length]
 rw[assign_Tuple];refine wpAny_bind (wpAny_standAt ?_);unfold unpack;rw[hln,hst];refine wpAny_bind (wpAny_holding (unpackH hc q1 q3 q4 ht λh' hx=>?_));have I1:Inv X pins σ H { s with heap:=h' }:=I.kept (t':=s.toks) λb o e=>hx b o (Way (Wao e)) e;exact h pins _ σ H xs _ Q I1 (by simpa using rv) hw
end
section
variable {K:W.Frag}{Δ:Evt}
theorem Zon {xa:Addr}{n m j:Nat}{sel:List Nat}{t:TGs}{tc:TT}{te:TE}{P:D->Evt->Prop}(h:JE K (tComp n sel (iListH xa K (tVar j)) (gTup K m t) tc te) Δ P):JE K (tComp n sel (iListH xa K (tVar j)) (gTupH xa K m t) tc te) Δ P:=λg G H σ Q k c=>by
 obtain⟨v,e,a,ev,hx,r⟩:=h g G H σ Q k c;refine⟨v,e,a,ev,hx,λacc hacc=>?_⟩;obtain⟨W,h0,hs⟩:=r acc hacc;refine⟨W,h0,λi mm σ' H' hw=>?_⟩;rcases hs i mm σ' H' hw with z|⟨hg,N,h1,h2⟩
 ·exact .inl z
 ·exact .inr ⟨hg,N,h1,λx H2 hy=>⟨(by obtain⟨e1,_,C,hC⟩:=hy;exact⟨C,by rw[e1];exact hC⟩),h2 x H2 hy⟩⟩
end
structure RoomH (xa:Addr) (k:Nat) (A:Around):Prop where
 hd:A.handled=some (.ref xa)
 dp:A.depth+3*k+5<recursionLimit
 un:A.units+16*k+200<cLine
 gd:A.guards=some []
theorem RoomH.deeper {xa:Addr}{k:Nat}{A:Around}(r:RoomH xa (k+1) A) (env:Env):RoomH xa k (A.deeper env):=⟨r.hd,by have:=r.dp;show A.depth+1+3*k+5<_;omega,by have:=r.un;show A.units+3+16*k+200<_;omega,r.gd⟩
theorem RoomH.depth {xa:Addr}{k:Nat}{A:Around}(r:RoomH xa k A):A.depth<recursionLimit:=by have:=r.dp;omega
theorem RoomH.units {xa:Addr}{k:Nat}{A:Around}(r:RoomH xa k A):A.units+64<cLine:=by have:=r.un;omega
theorem Room.mark {k:Nat}{A:Around}(r:Room k A) (xa:Addr):RoomH xa k (A.mark (some (.ref xa))):=⟨rfl,r.dp,r.un,r.gd⟩
structure FnOkH (xa:Addr) (P:Program) (w:World) (K:W.Frag) (mg:Str->Option Value) (base:Heap) (CX:CXT) (k:Nat) (f:Addr) (fd:FuncData) (ps:List Str) (sp:Sp):Prop where
 len:∀vs H Q E,sp vs H Q E->vs.length=ps.length
 run:∀(A:Around) (outer:List Env) (s:Shared) (H:Hp) (args:Args) (us:List Value) (vs:List V) (Q:VK) (E:XK),RoomH xa k A->Env0 P w K mg base A outer s H->BindsTo s fd args (ps.zip us)->Vals vs us->sp vs H Q E →
  codeAny (model P w) A (.call (.ref f) args) (CR CX outer P w H s Q E) s
def cxH (CX:CXT) (P:Program) (w:World) (K:W.Frag) (mg:Str->Option Value) (base:Heap) (N:List Str) (qual:Str) (scope:Scope) (f:Addr) (cd:Value) (A:Around) (outer:List Env) (s:Shared) (H:Hp) (E:XK):Cx where
 prog:=P
 w:=w
 K:=K
 mg:=mg
 base:=base
 A:=A.deeper (envOfC qual scope s.heap.objs.size f cd)
 N:=N
 s₀:=s
 H₀:=H
 env:=envOfC qual scope s.heap.objs.size f cd
 outer:=outer
 stack:=envOfC qual scope s.heap.objs.size f cd::outer
 ex:=[]
 calm:=false
 fn:=λ_=>true
 pn:=[]
 xe:=λe s'=>wpAny (model P w) (A.deeper (envOfC qual scope s.heap.objs.size f cd)) (leaving (envOfC qual scope s.heap.objs.size f cd) e) (λ_ s''=>CX outer H s E e s'') (λe' s''=>CX outer H s E e' s'') s'
theorem Zkk {CX:CXT}{P:Program}{w:World}{K:W.Frag}{mg:Str->Option Value}{base:Heap}{N ps:List Str}{qual:Str}{scope:Scope}{f:Addr}{cd:Value}{A:Around}{outer:List Env}{s s1:Shared}{H:Hp}{E:XK}{us:List Value}{vs:List V}
  (S:FnScope N ps scope) (e0:Env0 P w K mg base A outer s H) (hl:vs.length=ps.length) (r:Vals vs us)
  (x:InCallC s s.heap.objs.size (bindL (envOfC qual scope s.heap.objs.size f cd).kindOf (ps.zip us) λ_=>none) (cellsFrom (s.heap.objs.size+1) scope.names []) (bindC (envOfC qual scope s.heap.objs.size f cd).kindOf (ps.zip us) λ_=>none) s1) :
  Inv (cxH CX P w K mg base N qual scope f cd A outer s H E) [] (start N vs) H s1:=by
 have hpl:ps.length<=N.length:=by have:=congrArg Wbe S.pre;rw[Wbi]at this;omega
 obtain⟨h1,tk,rfl,hk⟩:=x.done;have noA:∀b:Addr,b ∉ (cxH CX P w K mg base N qual scope f cd A outer s H E).ex:=λb z=>absurd (show b∈([]:List Addr) from z) (by simp);refine⟨⟨e0.mod,S.kind,rfl,rfl,Wak _,λy z c h1 h2=>?_,λy hy=>?_,λy c _ h=>?_,λz=>(by cases z),Around.frames_deeper e0.frames,.inr ⟨rfl,rfl⟩,λb z=>absurd z (noA b),e0.bs,e0.bsz,λb _ _=>noA b,λb z=>absurd z (noA b),e0.funs,e0.frf⟩,
  rfl,e0.bare,Un.kept hk,⟨_,x.toInCall.ns,λi y v h1 h2 h3=>?_⟩,λy c h=>⟨_,x.cell y c h⟩,e0.hok.fresh (Wak _),λy c h=>?_,λp hp=>absurd (show p∈([]:List (Addr × Obj)) from hp) (by simp),e0.hok.kept hk,?_⟩
 ·exact name_of_addr x.apart (PySem.mem_of_lookup h1) (PySem.mem_of_lookup h2)
 ·have hy:scope.names.lookup y=some .cell\/scope.names.lookup y=some .free:=hy
  rcases hy with hy|hy
  ·exact Ze3 hy
  ·exact absurd rfl (S.nofree _ (PySem.mem_of_lookup hy))
 ·exact Wbr (x.above y c (PySem.mem_of_lookup h))
 ·have hi:i<vs.length:=by
   unfold start at h2;by_cases hi:i<vs.length
   ·exact hi
   ·rw[Waz (by simpa using hi)]at h2
    rw[Wbw]at h2;split at h2 <;> cases h2
  have ha:vs[i]?=some v:=by
   unfold start at h2;rw[Wbb (by simpa using hi),Waj]at h2;cases e:vs[i]? with
   |none=>rw[e]at h2;cases h2
   |some a=>rw[e]at h2;cases h2;rfl
  obtain⟨u,hu,rv⟩:=r.get ha;have hp:ps[i]?=some y:=by
   rw[<- S.pre,List.getElem?_take_of_lt (by omega)];exact h1
  have ndP:ps.Nodup:=by rw[<- S.pre];exact S.nd.sublist (List.take_sublist _ _)
  refine⟨u,rv,?_⟩;rcases S.par y (Wap hp) with k|k
  ·exact .inl ⟨k,Zfb ndP hp hu k⟩
  ·obtain⟨c,e⟩:=Ze3 (n:=s.heap.objs.size+1) k
   refine .inr ⟨.inl k,c,e,?_⟩;have q:=x.cell y c e;rw[Zfc ndP hp hu (by show scope.names.lookup y≠_;rw[k];decide)]at q;exact q
 ·exact e0.hok.fresh (Wbr (x.above y c (PySem.mem_of_lookup h)))
 ·unfold start
  show _=N.length;rw[Wag,Waa,Wa3];omega
theorem Zsv {xa:Addr}{CX:CXT}{P:Program}{w:World}{K:W.Frag}{mg:Str->Option Value}{base:Heap}{k:Nat}{f:Addr}{name qual:Str}{params:Arguments}{body:List Stmt}{scope:Scope}{dV kV doc pm cdv ct oc:Value}{an od:Option Addr}
  {osl:Array (Option Value)}{N ps:List Str}{sp:Sp}(lk:K.lookup f=some ⟨oc,od,.func (W.fnOf name qual params body scope dV kV doc pm an cdv ct),osl⟩) (hcd:W.codeIn K cdv qual=true) (S:FnScope N ps scope)
  (len:∀vs H Q E,sp vs H Q E->vs.length=ps.length)
  (hbody:∀(A:Around) (outer:List Env) (s:Shared) (H:Hp) (vs:List V) (Q:VK) (E:XK),RoomH xa k (A.deeper (envOfC qual scope s.heap.objs.size f cdv))->sp vs H Q E →
   ∃t,PSs (cxH CX P w K mg base N qual scope f cdv A outer s H E) body t/\t { nx:=λ_ H'=>Q .non H',rt:=Q } (start N vs) H) :
  FnOkH xa P w K mg base CX (k+1) f (W.fnOf name qual params body scope dV kV doc pm an cdv ct) ps sp:=by
 refine⟨len,λA outer s H args us vs Q E hr e0 hb r hsp=>?_⟩;have hl:=len _ _ _ _ hsp;have KX:K.In s.heap:=e0.mod.kin.keeps λb o e=>(e0.bs b o e).1;have lim:s.heap.NoLimit:=e0.mod.nolimit.keeps λb o e=>(e0.bs b o e).1;have hkind:∀y∈ps.zip us,scope.names.lookup y.1=some .local\/(scope.names.lookup y.1=some .cell/\((cellsFrom (s.heap.objs.size+1) scope.names []).lookup y.1).isSome=true):=λ⟨n,v⟩ hy=>by
  rcases S.par n (Wcy hy).1 with q|q
  ·exact .inl q
  ·exact .inr ⟨q,PySem.W.cellsFrom_some _ _ _ (.inl q)⟩
 refine codeAny_call_function hr.depth (KX _ _ lk) rfl S.co S.gen rfl (PySem.W.codeRec_of KX hcd) (hb _ _ _ _ ?_);refine wpAny_newFunctionEnv_cells S.kind hkind λenv he s1 x=>?_;subst he;refine⟨lim.keeps x.toInCall.keep,codeAny_func ?_⟩;obtain⟨t,ht,hq⟩:=hbody A outer s H vs Q E (hr.deeper _) hsp;have I:Inv (cxH CX P w K mg base N qual scope f cdv A outer s H E) [] (start N vs) H s1:=Zkk S e0 hl r x;refine wpAny_mono (ht [] s1 (start N vs) H _ I hq) (λfl s' hs=>?_) λe s' hs=>hs;have fin:∀{σ':St}{H':Hp}{v:V}{u:Value},Inv (cxH CX P w K mg base N qual scope f cdv A outer s H E) [] σ' H' s' -> RelV v u->Q v H' -> CE outer P w H s Q u s':=
  λ{σ' H' v u} J rv q=>⟨v,H',J.os,J.bare,J.base,J.hok,rv,q⟩
 cases fl with
 |ret u=>
  obtain⟨v,σ',H',J,rv,q⟩:=hs;exact fin J rv q
 |next=>
  obtain⟨σ',H',J,q⟩:=hs;exact fin (v:=V.non) (u:=Value.none) J rfl q
 |brk=>
  obtain⟨_,_,_,q⟩:=hs;exact False.elim q
 |cont=>
  obtain⟨_,_,_,q⟩:=hs;exact False.elim q
section
variable {X:Cx}{CX:CXT}{xa:Addr}{k:Nat}{f C:Addr}{fd:FuncData}{ps:List Str}{sp:Sp}{dvs:List V}{ds:List Value}{E:XK}{x m:Str}{p pos apos:Pos}{e o:Expr}{es:List Expr}{ta:TE}{t:TA}
theorem Zp7 {pins:List (Addr × Obj)}{σ:St}{H:Hp}{s:Shared}{Q:VK}{us:List Value}{vs:List V}(F:FnOkH xa X.prog X.w X.K X.mg X.base CX k f fd ps sp) (hr:RoomH xa k X.A) (hb:Binds X.K fd ps ds) (hd:Vals dvs ds) (hx:Passes CX X E)
  (I:Inv X pins σ H s) (r:Vals vs us) (h:sp (vs++dvs) H Q E):wpAny (model X.prog X.w) X.A (call (.ref f) us) (EP X pins σ Q) X.xe s:=by
 have r2:Vals (vs++dvs) (us++ds):=r.append hd;have hl:(us++ds).length=ps.length:=by rw[<- r2.length];exact F.len _ _ _ _ h
 refine wpAny_call (codeAny_mono (F.run X.A X.stack s H ⟨us,[]⟩ (us++ds) (vs++dvs) Q E hr I.env0 (hb s us I.kIn hl) r2 h) λr s' hq=>?_);cases r with
 |error e=>exact hx pins σ H s e s' I hq
 |ok fl=>
  cases fl with
  |ret u=>exact I.after hq
  |next=>exact False.elim hq
  |brk=>exact False.elim hq
  |cont=>exact False.elim hq
theorem Zop (F:FnOkH xa X.prog X.w X.K X.mg X.base CX k f fd ps sp) (hr:RoomH xa k X.A) (hg:Gl X x) (hm:X.mg x=some (.ref f)) (hk:W.keepIn X.K (.ref f)=true) (hb:Binds X.K fd ps ds) (hd:Vals dvs ds) (hx:Passes CX X E)
  (ha:PA X (e::es) t) (hdb:(x == ("__debug__":Str))=false:=by decide) (he:starEach (e::es) X.env=(false,eval e X.env)::starEach es X.env:=by rfl) (hpl:(backTo pos (starEach es X.env)).any (·.1)=false:=by rfl) :
  PE X (.Call (.Name x p) (e::es) [] pos) (tCall sp dvs E t):=by
 intro pins s σ H Q I h;refine wpAny_Call_Name_kw (Zep I hg hm ?_ hdb);refine PySem.W.callWith_K (h₀:=X.base) I.ok.mod.kin hk (thn (ha pos pins s σ H _ I h) λus s1 ⟨vs,H1,I1,r,q⟩=>⟨I1.kIn,?_⟩) he hpl;exact Zp7 F hr hb hd hx I1 r q
end
theorem Zk6 {X:Cx}{xa:Addr}{elt tg iter:Expr}{ifs:List Expr}{scope:Scope}{pos spos py:Pos}{fvs:List Str}{sel:List Nat}{wi:TI}{g:TG}{tc:TT}{te:TE}{i:Nat}{y:Str}(tgs:List Str) (S:CompSc X.env.scope X.N scope fvs sel) (hc:X.A.handled=some (.ref xa))
  (hN:X.N.Nodup) (hiy:X.N[i]?=some y) (hx:Loc X.env.scope y)
  (hi:PIH xa X tg iter wi) (hg:∀C s H ex pn,PG (compCx X scope (tgs++fvs) C s H ex pn) tg g) (ht:∀C s H ex pn,PTs (compCx X scope (tgs++fvs) C s H ex pn) ifs tc) (he:∀C s H ex pn,PE (compCx X scope (tgs++fvs) C s H ex pn) elt te)
  (hs:∀x,foldedSetIterable iter X.env x=pure x:=by intro _;rfl) (hsw:swapsWith (.ListComp elt [⟨tg,iter,ifs,0⟩] scope pos) (some (.Name y py)) spos.line X.env=pure true:=by rfl)
  (hf:X.fn y=true\/X.env.scope.names.lookup y=some .local:=by first|exact .inl rfl|exact .inr rfl|assumption) :
  PS X (.Assign [.Name y py] (.ListComp elt [⟨tg,iter,ifs,0⟩] scope pos) spos) (tAsg (tComp tgs.length sel wi g tc te) (gName i)):=by
 intro pins s σ H D I h;rw[exec_Assign_Name_used _ _ _ _ hsw];refine wpAny_bind (wpAny_standAt (wpAny_bind ?_));show wpAny _ X.A (do let _ ← comprehension (.ListComp elt [⟨tg,iter,ifs,0⟩] scope pos) scope X.env _ (newList []) false (eval iter X.env) (some (assign (.Name y py) X.env))) _ _ s;refine wpAny_bind (wpAny_mono (wpAny_comprehension_free (use:=some (assign (.Name y py) X.env)) (Q:=λ_ s'=>SP X pins D .next s') rfl hs (Zbv (Zc5 S I.ok)) S.kind S.names
  (thn (hi pins s σ H _ I h) λv s1 h1=>thn h1 λitv s2 h2=>?_)) (λ_ s' hq=>wpAny_pure (wpAny_pure hq)) λ_ _ e=>e)
 refine Zff (Cm:=λX=>X.A.handled=some (.ref xa)) S (λ_ _ _ _ _=>hc) hg ht he (RR:=λacc C=>compPost (model X.prog X.w) X.A X.xe (some (assign (.Name y py) X.env)) (λ_ s'=>SP X pins D .next s') acc C) (Q:=λv H'=>D.nx (σ.set i (some v)) H') h2 ?_;intro s' C acc H' m hn fp hI q;have I0:Inv X pins σ H' s':=hI s'.heap (.refl ..);show wpAny _ X.A (assign (.Name y py) X.env (.ref acc)) _ _ _;refine wpAny_assign_Name (Zfe (v:=.ref acc) I0 hN hiy hx rfl (λs2 I2 hsb=>?_) hf);obtain⟨a,sb,ha⟩:=hsb;have hCa:C≠a:=by
  rcases ha with z|z
  ·rw[z];exact fp.2.1
  ·exact Ne.symm (fp.2.2.2.2.1 y a z)
 refine⟨m,hn.sameBut sb hCa,λh' sb'=>?_⟩;obtain⟨f0,f1,f2,f3,f4,f5⟩:=fp;exact⟨_,H',I2.turned (t':=s2.toks) (it:=C) (λb o hb e=>(sb'.2 b hb).trans e) f0 f1 f3 f4 f5,q⟩
structure CalleeH (P:Program) (w:World) (K:W.Frag) (mg:Str->Option Value) (base:Heap) (k:Nat) (x:Str) (ps:List Str) (sp:Addr->Sp):Prop where
 ex:∃(f:Addr) (fd:FuncData),(∀xa,FnOkH xa P w K mg base CX0 k f fd ps (sp xa))/\Binds K fd ps []/\W.keepIn K (.ref f)=true/\mg x=some (.ref f)
section
variable {X:Cx}{xa:Addr}{k:Nat}{x:Str}{ps:List Str}{sp:Addr->Sp}{e:Expr}{es:List Expr}{t:TA}{p pos:Pos}
theorem Zsd (C:CalleeH X.prog X.w X.K X.mg X.base k x ps sp) (hr:RoomH xa k X.A) (ha:PA X (e::es) t) (hg:Gl X x:=by rfl) (hdb:(x == ("__debug__":Str))=false:=by decide)
  (he:starEach (e::es) X.env=(false,eval e X.env)::starEach es X.env:=by rfl) (hpl:(backTo pos (starEach es X.env)).any (·.1)=false:=by rfl):PE X (.Call (.Name x p) (e::es) [] pos) (tCall (sp xa) [] E0 t):=by
 obtain⟨f,fd,F,b,kp,m⟩:=C.ex;exact Zop (F xa) hr hg m kp b .nil pass0 ha hdb he hpl
end
section
variable {P:Program}{w:World}{K:W.Frag}{mg:Str->Option Value}{base:Heap}
theorem Fun.okH {xa:Addr}{x qual:Str}{st:Stmt}{f:Addr}{fd:FuncData}{N ps:List Str}{k:Nat}{sp:Sp}(F:Fun K x qual st f fd) (S:FnScope N ps (defScope st)) (len:∀vs H Q E,sp vs H Q E->vs.length=ps.length)
  (hbody:∀(cdv:Value) (A:Around) (outer:List Env) (s:Shared) (H:Hp) (vs:List V) (Q:VK) (E:XK),RoomH xa k (A.deeper (envOfC qual (defScope st) s.heap.objs.size f cdv))->sp vs H Q E →
   ∃t,PSs (cxH CX0 P w K mg base N qual (defScope st) f cdv A outer s H E).nox (defBody st) t/\t { nx:=λ_ H'=>Q .non H',rt:=Q } (start N vs) H):FnOkH xa P w K mg base CX0 (k+1) f fd ps sp:=by
 obtain⟨oc,od,kV,doc,pm,an,cdv,ct,osl,rfl,lk,hcd⟩:=F.ex;refine Zsv lk hcd S len λA outer s H vs Q E hr hsp=>?_;obtain⟨t,h,q⟩:=hbody cdv A outer s H vs Q E hr hsp;exact⟨t,h.nox,q⟩
end
open PySem PySem.Spec PyProof.Rows PySem.W
def tRe (σ0 σ':St) (t:TS):TS:=λD σ H=>σ = σ0/\t D σ' H
section
variable {X:Cx}
theorem Inv.re {pins:List (Addr × Obj)}{σ σ':St}{H:Hp}{s:Shared}(I:Inv X pins σ H s) (hl:σ'.length = σ.length) (w:∀(i:Nat) x v,X.N[i]?=some x->Vis X.env.scope x -> σ'[i]?=some (some v) -> σ[i]?=some (some v)):Inv X pins σ' H s:=
 ⟨I.ok,I.os,I.bare,I.base,let ⟨m,hn,hl'⟩:=I.loc; ⟨m,hn,λi x v e1 e2 e3=>hl' i x v e1 (w i x v e1 e3 e2) e3⟩,I.cell,I.free,I.freeC,I.pin,I.hok,hl.trans I.len⟩
theorem Zte {body:List Stmt}{t:TS}{σ0 σ':St}(h:PSs X body t) (hl:σ'.length = σ0.length) (w:∀(i:Nat) x v,X.N[i]?=some x->Vis X.env.scope x -> σ'[i]?=some (some v) -> σ0[i]?=some (some v)):PSs X body (tRe σ0 σ' t):=by
 intro pins s σ H D I hq;obtain⟨rfl,hq⟩:=hq;exact h pins s σ' H D (I.re hl w) hq
end
theorem Zml {N:List Str}{vs:List V}(h:vs.length<=N.length):(start N vs).length=N.length:=by
 unfold start;rw[Wag,Waa,Wa3];omega
def tAsk (i:Nat) (l:Addr) (sp:Hp->VK->XK->Prop) (E:XK):TE:=λσ H Q=>σ[i]?=some (some (.ref l))/\sp H Q E
section
variable {X:Cx}{k i:Nat}{l:Addr}{fd:FuncData}{x:Str}{sp:Hp->VK->XK->Prop}{p pos:Pos}{E:XK}
theorem Zri (F:FnOk X.prog X.w X.K X.mg X.base (CXE X.prog X.w) k l fd [] (λvs H Q E=>vs=[]/\sp H Q E)) (hl:FnAt l X.base) (hb:∀s,BindsTo s fd ⟨[],[]⟩ []) (hr:Room k X.A) (hx:Passes (CXE X.prog X.w) X E) (hN:X.N[i]?=some x) (hv:Vis X.env.scope x)
  (hdb:(x == ("__debug__":Str))=false:=by decide) (hcd:(x == ("__classdict__":Str))=false:=by decide):PE X (.Call (.Name x p) [] [] pos) (tAsk i l sp E):=by
 intro pins s σ H Q I h;obtain⟨h1,h2⟩:=h;refine wpAny_Call_Name_kw (thn (Zpg (i:=i) (pos:=p) hN hv hdb hcd pins s σ H (λv H1=>v=.ref l/\H1=H) I ⟨_,h1,rfl,rfl⟩) λu s1 ⟨v,H1,I1,r1,e1,e2⟩=>?_);subst e1;subst e2;cases (show u=Value.ref l from r1);obtain⟨oc,od,fd',sl,ho⟩:=hl;refine callWith_F0 (first:=[]) ⟨oc,od,fd',sl,I1.bk _ _ ho⟩ ?_;refine wpAny_call (codeAny_mono (F.run X.A X.stack s1 _ ⟨[],[]⟩ [] [] Q E hr I1.env0 (hb s1) .nil ⟨rfl,h2⟩) λr s' hq=>?_);cases r with
 |error e=>exact hx pins σ _ s1 e s' I1 hq
 |ok fl=>
  cases fl with
  |ret u=>exact I1.after hq
  |next=>exact False.elim hq
  |brk=>exact False.elim hq
  |cont=>exact False.elim hq
end
section
variable {P:Program}{w:World}{K:W.Frag}{mg:Str->Option Value}{base:Heap}{N:List Str}{qual:Str}{scope:Scope}{f:Addr}{cd:Value}{clos:List (Str × Addr)}{A:Around}{outer:List Env}{s0:Shared}{H0:Hp}{E:XK}
theorem Znu:Passes (CXE P w) (lamCx (CXE P w) P w K mg base N qual scope f cd clos A outer s0 H0 E) E:=λpins σ H s e s' I hq=>by
 obtain⟨a,C,T,H',rfl,os,bare,un,hok,ha,hsa,hT,hsT,tr,hE⟩:=hq;have J:=I.call' (ch:=[]) os un hok bare (λb z=>absurd z (by simp));have na:=(Nw.of I rfl hsa).at ha;have nT:=(Nw.of I rfl hsT).at hT;refine Zna J rfl rfl rfl tr na nT λh' T' J2 t1 t2=>?_;exact⟨a,C,T',H',rfl,J2.os,J2.bare,J2.base,J2.hok,ha,na.old,t2.trk,t2.old,t1,hE⟩
end
def fTold (fL:XSp) (Kn:Addr->Prop) (wd:Addr->Str):DSp:=λds Post=>∃Xp,fL ds (λd=>Post (.tup [.str "told",d])) Xp/\∀C,Xp C->Kn C/\Post (.tup [.str "refused",.str (wd C)])
theorem Zn5:2<=sizeLine:=by decide
theorem Zn2 {K:W.Frag}{fL:XSp}{Kn:Addr->Prop}{wd:Addr->Str}{l FE:Addr}{cs:List V}{H:Hp}{Q:VK}{E0:XK}{th:Addr->TS}(h:spD K (fTold fL Kn wd) cs H Q E0)
  (hh:∀C,Kn C->(ExcC K C/\PySem.W.mroIn K C (.ref FE)=some true)/\∀a (Post:D->Prop),Post (.tup [.str "refused",.str (wd C)])->JS K (th a) [.any,.any,.val (.exc a C)] ⟨λΔ1=>∃d y z,Δ1=[y,.val d,z]/\Post d,λ_ _=>False,λ_=>False,λ_=>False,λ_ _=>False⟩) :
  tSeq (tAsg (tC .non) (gName 1)) (tSeq (tTry K FE 2 3 (λE=>tAsg (tTup (tCons (tC (.str "told")) (tCons (tAsk 0 l (spX K fL cs) E) tNil))) (gName 1)) th) (tRet (tVar 1))) { nx:=λ_ H'=>Q .non H',rt:=Q } [some (.ref l),none,none] H:=by
 obtain⟨F,ds,Post,l1,rs,⟨Xp,hf,hX⟩,q⟩:=h;have k0:Ok K ⟨λ_=>False,F,H,λ_=>none⟩ F H (start ["_law_asked","_law_found","_law_e"] [.ref l]) (startD ["_law_asked","_law_found","_law_e"] [.adr l]):=Zc7 (.cons (.adr l) .nil) (by simp) (λ_ _ _ e=>e) (λ_ z=>z.elim) (Same.refl _) (λb o e=>⟨l1 b o e,.inr e⟩) λ_=>rfl;have k1:Ok K ⟨λ_=>False,F,H,λ_=>none⟩ F H [some (.ref l),some .non,none] [.val (.adr l),.val .non,.any]:=k0.setVal (i:=1) (by simp[startD]) .non;have fin:∀{v:V}{d:D}{σ:St}{G H':Hp}{Δ:Evt},Ok K ⟨λ_=>False,F,H,λ_=>none⟩ G H' σ Δ -> Rep K G v d->Post d->Q v H':=λ{v d σ G H' Δ} k r p=>by
  refine q v H' d (λb o e=>k.same b o (λz=>z) e) (r.mono λb o e=>?_) p;obtain⟨e1,e2⟩:=k.frz b o e;rcases e2 with z|z
  ·rw[Zcb z];exact e1
  ·rw[Zb1 (l1 b o z)];exact z
 have last:∀σ G H' Δ,Ok K ⟨λ_=>False,F,H,λ_=>none⟩ G H' σ Δ -> (∃d y z,Δ = [y,.val d,z]/\Post d)->tRet (tVar 1) { nx:=λ_ H'=>Q .non H',rt:=Q } σ H':=λσ G H' Δ k hz=>by
  obtain⟨d,y,z,rfl,p⟩:=hz;obtain⟨v,e1,e2⟩:=k.val 1 d rfl;exact⟨v,e1,fin k e2 p⟩
 show tSeq (tTry K FE 2 3 _ th) (tRet (tVar 1)) _ [some (.ref l),some .non,none] H;refine⟨λv _ H'=>∃C,v=.ref C/\Xp C/\Same H H',?_,λC H1 hq=>?_⟩
 ·show tAsk 0 l (spX K fL cs) _ _ H λx H2=>_
  refine⟨rfl,F,ds,_,Xp,l1,rs,hf,λr H' d sh rr pd=>⟨Zn5,λp hp=>?_⟩,λC H' sh x=>⟨C,rfl,x,sh⟩⟩;have sg:=Zdn (H':=H') l1;have k2:=k1.grow sg sh (Zd2 l1 λb o _ e=>sh b o e);obtain⟨k3,s3⟩:=k2.laid hp (.tup [.str "told",r]);have k4:=k3.setVal (i:=1) (by simp) (.tup Zan (.cons (.str _) (.cons (rr.mono s3) .nil)));exact last _ _ _ _ k4 ⟨_,_,_,rfl,pd⟩
 ·obtain⟨C',e,x,sh⟩:=hq
  cases e;obtain⟨hk,hp⟩:=hX C x;obtain⟨h1,h2⟩:=hh C hk;refine⟨h1,λa ha=>?_⟩;have k5:Ok K ⟨λ_=>False,F,H,λ_=>none⟩ F H1 (start ["","",""] []) (startD ["","",""] []):=Zc7 .nil (by simp) (λb o _ e=>sh b o e) (λ_ z=>z.elim) (Same.refl _) (λb o e=>⟨sh b o (l1 b o e),.inr e⟩) λ_=>rfl;obtain⟨k6,_⟩:=k5.laid ha (.ext (InsC a C));have k7:=k6.setVal (i:=2) (by simp[startD]) (.exc Zan);refine h2 a Post hp ⟨λ_=>False,F,H,λ_=>none⟩ _ _ _ _ k7 ⟨λσ' G' H' Δ' k' hz=>?_,λ_ _ _ _ _ _ _ _ z=>z.elim,λ_ _ _ _ _ z=>z.elim,λ_ _ _ _ _ z=>z.elim,λ_ _ _ _ _ _ _ _ z=>z.elim⟩;obtain⟨d,y,z,rfl,p⟩:=hz;exact last _ _ _ _ (k'.unset 2) ⟨d,y,.any,rfl,p⟩
open PySem PySem.Spec PyProof.Rows PySem.W
def spLT (K:W.Frag) (T:Addr) (f:DSp):Sp:=λvs H Q _=>∃F ds Post,Same F H/\F T=none/\H T=some (.ext (TabO T #[]))/\Reps K F vs ds/\f ds Post ∧
 ∀r H' d ps,(∀b o,b≠T->H b=some o->H' b=some o)->H' T=some (.ext (TabO T ps))->Rep K (glue F H H') r d->Post d->Q r H'
section
variable {K:W.Frag}{T:Addr}{pl:List (Pos × Str)}
theorem Znq {f:DSp}{n:Nat}(h:∀ds Post,f ds Post->ds.length=n):∀vs H Q E,spLT K T f vs H Q E->vs.length=n:=λvs H Q E hq=>by
 obtain⟨F,ds,Post,_,_,_,rs,hf,_⟩:=hq;rw[rs.length];exact h ds Post hf
theorem Ztf {f:DSp}{t:TS}{N:List Str}{vs:List V}{H:Hp}{Q:VK}{E:XK}{i:Nat}(ht:∀ds Post,f ds Post->ds.length<=i/\i<N.length/\JS K t ((startD N ds).set i (.bor (.ext (TabR T pl)))) ⟨λ_=>False,λd Δ=>Δ[i]?=some (.bor (.ext (TabR T pl)))/\Post d,λ_=>False,λ_=>False,λ_ _=>False⟩)
  (h:spLT K T f vs H Q E):tRe (start N vs) ((start N vs).set i (some (.ref T))) t { nx:=λ_ H'=>Q .non H',rt:=Q } (start N vs) H:=by
 obtain⟨F,ds,Post,l,fT,hT,rs,hf,q⟩:=h;obtain⟨hl,hN,hj⟩:=ht ds Post hf;refine⟨rfl,?_⟩;have fin:∀{v:V}{d:D}{σ:St}{G H':Hp}{Δ:Evt},Ok K ⟨λb=>b=T,F,H,λ_=>none⟩ G H' σ Δ -> Δ[i]?=some (.bor (.ext (TabR T pl)))->Rep K G v d->Post d->Q v H':=λ{v d σ G H' Δ} k e0 r p=>by
  obtain⟨a',o,h1,h2,h3,h4,h5⟩:=k.own i _ _ e0 rfl;have ea:a'=T:=h5;subst ea;cases o with
  |ext φ=>
   obtain⟨G0,s0,ps,rfl,_⟩:=h3;refine q v H' d ps (λb o hb e=>k.same b o hb e) h2 (r.mono λb o e=>?_) p;obtain⟨e1,e2⟩:=k.frz b o e;rcases e2 with z|z
   ·rw[Zcb z];exact e1
   ·rw[Zb1 (l b o z)];exact z
  |_=>exact h3.elim
 have hlen:(start N vs).length=N.length:=Zml (by rw[rs.length];omega);have k0:=Zc7 (K:=K) (H:=H) (g:=⟨λb=>b=T,F,H,λ_=>none⟩) (N:=N) rs (by omega) (λ_ _ _ e=>e) (λb z=>by subst z;rw[hT];intro w;cases w) (Same.refl _) (λb o e=>⟨l b o e,.inr e⟩) λ_=>rfl;have noOd:∀(j:Nat) x od,(startD N ds)[j]?=some x->x.od=some od->False:=λj x od e1 e2=>by
  have hm:=Wap e1;rcases Wa0.mp hm with z|z
  ·obtain⟨d,_,rfl⟩:=Was.mp z;cases e2
  ·rw[Wce]at z;rw[z.2]at e2;cases e2
 have hD:(startD N ds).length=N.length:=by rw[k0.len,hlen]
 have one:∀(j:Nat) x od,((startD N ds).set i (.bor (.ext (TabR T pl))))[j]?=some x->x.od=some od->j=i/\x=.bor (.ext (TabR T pl)):=λj x od e1 e2=>by
  by_cases e:j=i
  ·subst e
   rw[Wad (by rw[hD];exact hN)]at e1;exact⟨rfl,(Wau.inj e1).symm⟩
  ·rw[Wae (Ne.symm e)]at e1
   exact(noOd j x od e1 e2).elim
 have k1:Ok K ⟨λb=>b=T,F,H,λ_=>none⟩ F H ((start N vs).set i (some (.ref T))) ((startD N ds).set i (.bor (.ext (TabR T pl)))):=by
  refine⟨k0.same,k0.lent,k0.sub,k0.frz,λb o e=>(by cases e),by rw[Wa1,Wa1,k0.len],λj d e=>?_,λj x od e1 e2=>?_,λj m x y od od' c e1 e2 e3 e4 _ _=>?_⟩
  ·by_cases z:j=i
   ·subst z
    rw[Wad (by rw[hD];exact hN)]at e;cases e
   ·rw[Wae (Ne.symm z)]at e ⊢
    exact k0.val j d e
  ·obtain⟨rfl,rfl⟩:=one j x od e1 e2
   cases e2;exact⟨T,.ext (TabO T #[]),Wad (by rw[hlen];exact hN),hT,⟨F,Same.refl _,TabR.start⟩,fT,rfl⟩
  ·rw[(one j x od e1 e2).1,(one m y od' e3 e4).1]
 exact hj _ F H _ _ k1 ⟨λ_ _ _ _ _ z=>z.elim,λv d σ G H' Δ k r ⟨e,p⟩=>fin k e r p,λ_ _ _ _ _ z=>z.elim,λ_ _ _ _ _ z=>z.elim,λ_ _ _ _ _ _ _ _ z=>z.elim⟩
theorem Zr3 {X:Cx}{N:List Str}{body:List Stmt}{t:TS}{vs:List V}{i:Nat}{v:V}(hN:X.N=N) (hv:∀x,N[i]?=some x->¬ Vis X.env.scope x) (h:PSs X body t):PSs X body (tRe (start N vs) ((start N vs).set i (some v)) t):=by
 refine Zte h (by rw[Wa1]) λj x u e1 e3 e2=>?_;rw[hN]at e1;by_cases z:j=i
 ·subst z;exact absurd e3 (hv x e1)
 ·rw[Wae (Ne.symm z)]at e2;exact e2
end
def codeOfF (K:W.Frag) (f c T:Addr):Bool:=match K.lookup f with
 |some ⟨_,_,.func fd,_⟩=>(match fd.code with|.ref c'=>c' == c|_=>false) && codeHdIn K c T
 |_=>false
section
variable {P:Program}{w:World}{K:W.Frag}{mg:Str->Option Value}{base:Heap}
theorem Fun.okT {x qual:Str}{st:Stmt}{f c T:Addr}{fd:FuncData}{N ps:List Str}{k:Nat}{sp:Sp}(F:Fun K x qual st f fd) (hC:codeOfF K f c T=true) (S:FnScope N ps (defScope st)) (len:∀vs H Q E,sp vs H Q E->vs.length=ps.length)
  (hbody:∀(A:Around) (outer:List Env) (s:Shared) (H:Hp) (vs:List V) (Q:VK) (E:XK),Room k (A.deeper (envOfC qual (defScope st) s.heap.objs.size f (.ref c)))->codeHdIn K c T=true->sp vs H Q E →
   ∃t,PSs (cxOf CX0 P w K mg base N qual (defScope st) f (.ref c) A outer s H E).nox (defBody st) t/\t { nx:=λ_ H'=>Q .non H',rt:=Q } (start N vs) H):FnOk P w K mg base CX0 (k+1) f fd ps sp:=by
 obtain⟨oc,od,kV,doc,pm,an,cdv,ct,osl,rfl,lk,hcd⟩:=F.ex;unfold codeOfF at hC;rw[lk]at hC;simp only[Wa6]at hC;obtain⟨hC1,hC2⟩:=hC;have ec:cdv=.ref c:=by
  clear F lk hcd hC2;cases cdv with
  |ref c'=>exact congrArg Value.ref (eq_of_beq hC1)
  |_=>cases hC1
 subst ec;refine Zqj lk hcd S len λA outer s H vs Q E hr hsp=>?_;obtain⟨t,h,q⟩:=hbody A outer s H vs Q E hr hC2 hsp;exact⟨t,h.nox,q⟩
end
structure ToldL (P:Program) (w:World) (K:W.Frag) (mg:Str->Option Value) (k:Nat) (x qual:Str) (params:Arguments) (body:Expr) (scope:Scope) (fvs:List Str) (sp:List V->Hp->VK->XK->Prop):Prop where
 ex:∃(f:Addr) (fd:FuncData),Binds K fd ["_law_asked"] []/\W.keepIn K (.ref f)=true/\mg x=some (.ref f) ∧
  ∀base' l clos pm c' ctv cs,LamAt base' l qual params body scope clos pm c' ctv fvs cs->FnOk P w K mg base' CX0 k f fd ["_law_asked"] (λvs H Q E=>vs=[.ref l]/\sp cs H Q E)
theorem Zqn {X:Cx}{k i:Nat}{c T:Addr}{x qual:Str}{params:Arguments}{body:Expr}{scope:Scope}{fvs:List Str}{sel:List Nat}{sp:List V->Hp->VK->XK->Prop}{p pos pos2:Pos}(C:ToldL X.prog X.w X.K X.mg k x qual params body scope fvs sp)
  (S:LamSc X.env.scope X.N scope fvs sel) (hr:Room k X.A) (hcode:X.env.code=.ref c) (CH:CodeHd X.base c T) (hB:X.base.BuiltinsAt X.mg T) (hfn:∀x,X.fn x=true:=by intro _;rfl) (hq:X.env.qual ++ "<lambda>" = qual:=by rfl) (hdef:defaultsOf params X.env=([],[]):=by rfl)
  (hg:Gl X x:=by rfl) (hdb:(x == ("__debug__":Str))=false:=by decide)
  (he:starEach [Expr.Lambda params body scope pos] X.env=(false,eval (Expr.Lambda params body scope pos) X.env)::starEach [] X.env:=by rfl) (hpl:(backTo pos2 (starEach [] X.env)).any (·.1)=false:=by rfl) :
  PE X (.Call (.Name x p) [.Lambda params body scope pos] [] pos2) (tLamC i pos qual T sel sp E0):=by
 obtain⟨f,fd,hb,hk,hm,F⟩:=C.ex;exact Zsy S hfn hr hb F hm hk hcode CH hB hq hdef hg hdb he hpl
def lamOf (e:Expr):Arguments × Expr × Scope × Pos:=match e with
 |.Lambda a b s p=>(a,b,s,p)
 |_=>(defArgs (.Pass ⟨0,0,0,0⟩),.Name "" ⟨0,0,0,0⟩,defScope (.Pass ⟨0,0,0,0⟩),⟨0,0,0,0⟩)
def forBody (s:Stmt):List Stmt:=match s with
 |.For _ _ b _ _=>b
 |_=>[]
def ifTest (s:Stmt):Expr:=match s with
 |.If c _ _ _=>c
 |_=>.Name "" ⟨0,0,0,0⟩
def cmpLeft (e:Expr):Expr:=match e with
 |.Compare l _ _ _=>l
 |e=>e
def boolFst (e:Expr):Expr:=match e with
 |.BoolOp _ (x::_) _=>x
 |e=>e
def callArg (e:Expr):Expr:=match e with
 |.Call _ (x::_) _ _=>x
 |e=>e
open PySem PySem.Spec PyProof.Rows PySem.W
def OnlyB (T:Addr) (H:Hp):Prop:=∀b,H b=none\/(∃o xs,H b=some (.frz o (.lst xs)))\/(b=T/\H b=some (.ext (TabO T #[])))
theorem Zmh {P:Program}{w:World}{K:W.Frag}{mg mb:Str->Option Value}{CX:CXT}{k:Nat}{fa a c T:Addr}{fd:FuncData}{x:Str}{sp:Sp}{s₁:Shared}{vs:List Value}{ns:List Int}
  (KX:K.In s₁.heap) (hns:s₁.heap.Ns mainGlobals mg) (hb:s₁.heap.Ns builtinsNs mb) (hbb:∀x:Str,x ≠ "__name__" -> mb x=bootBuiltins x) (hlim:s₁.heap.NoLimit) (hg:s₁.gens = #[])
  (ha:s₁.heap.get? a=some { cls:=.type "list",data:=.seq vs.toArray }) (hi:IntsAre vs ns) (hl:ns.length<=sizeLine) (hr:Room k callerA) (hT:s₁.heap.get? T=some (tabObj #[])) (hTK:K.lookup T=none) (hC:codeHdIn K c T=true)
  (hBM:s₁.heap.BuiltinsAt mg T) (F:∀base:Heap,K.In base->base.Ns mainGlobals mg->base.BuiltinsAt mg T->FnOk P w K mg base CX k fa fd [x] sp) (hbind:∀(s:Shared) (u:Value),BindsTo s fd ⟨[u],[]⟩ [(x,u)])
  (hsp:∀H:Hp,OnlyB T H->H T=some (.ext (TabO T #[]))->a≠T->SqL K H a (ns.map V.int)->sp [.ref a] H (λv H'=>v=.bl true/\∃ps,H' T=some (.ext (TabO T ps))) λ_ _ _=>False)
  (hCX:∀H e s',CX [] H s₁ (λ_ _ _=>False) e s' -> False) :
  codeAny (model P w) callerA (.call (.ref fa) ⟨[.ref a],[]⟩) (λr s'=>r=.ok (.ret (.bool true))/\OldK s₁.heap s'.heap/\s'.os=s₁.os/\AllBare s'.gens) s₁:=by
 have rv:=Zej hi;have lenV:=hi.length;have naT:a≠T:=λz=>by rw[z,hT]at ha;cases ha
 have core:∀H:Hp,OnlyB T H->H T=some (.ext (TabO T #[]))->SqL K H a (ns.map V.int)->HOk P w H s₁.heap->(∀b,H b≠none->b=a\/b=T)->(H a≠none->K.lookup a=none) →
   codeAny (model P w) callerA (.call (.ref fa) ⟨[.ref a],[]⟩) (λr s'=>r=.ok (.ret (.bool true))/\OldK s₁.heap s'.heap/\s'.os=s₁.os/\AllBare s'.gens) s₁:=by
  intro H hO hHT hS hok hA hK;have noA:∀{b:Addr}{o:Obj}{es:Array DictEntry}{ep:Nat},s₁.heap.get? b=some o->o.data=.dict es ep->H b=none:=λ{b o es ep} e d=>by
   cases q:H b with
   |none=>rfl
   |some u=>
    rcases hA b (by rw[q];simp) with e'|e'
    ·subst e'
     rw[ha]at e;cases e;have d':Data.seq vs.toArray _=Data.dict es ep:=d;cases d'
    ·subst e'
     rw[hT]at e;cases e;cases d
  have nsK:∀{b:Addr}{m:Str->Option Value},s₁.heap.Ns b m->(hidT s₁.heap H).Ns b m:=λ{b m} ⟨o,es,ep,e,d,r⟩=>⟨o,es,ep,Zgt e (noA e d),d,r⟩;have hKb:K.In (hidT s₁.heap H):=λb o e=>Zgt (KX b o e) (by
   cases q:H b with
   |none=>rfl
   |some u=>
    rcases hA b (by rw[q];simp) with e'|e'
    ·subst e'
     rw[hK (by rw[q];simp)]at e;cases e
    ·subst e'
     rw[hTK]at e;cases e)
  have hM:Mod K mg (hidT s₁.heap H):=⟨hKb,nsK hns,⟨mb,nsK hb,hbb⟩,let ⟨mc,h1,h2⟩:=hlim; ⟨mc,nsK h1,h2⟩⟩;have e0:Env0 P w K mg (hidT s₁.heap H) callerA [] s₁ H:=⟨rfl,hM,λb o e=>Zp8 e,Nat.le_of_eq (Zll _ _),trivial,λb hb=>absurd (show b∈([]:List Addr) from hb) (by simp),hok,.of_eq hg⟩;have hBb:(hidT s₁.heap H).BuiltinsAt mg T:=by
   obtain⟨bm,ob,b1,b2,b3,b4,b5,b6,b7,b8⟩:=hBM;refine⟨bm,ob,b1,b2,b3,b4,Zgt b5 ?_,b6,b7,b8⟩;cases q:H bm with
   |none=>rfl
   |some u=>
    rcases hA bm (by rw[q];simp) with e'|e'
    ·rw[e',ha]at b5;cases b5;exact absurd (show Value.type "list" = Value.type "module" from b6) (by decide)
    ·exact absurd e' b4
  refine codeAny_mono ((F _ hKb (nsK hns) hBb).run callerA [] s₁ H ⟨[.ref a],[]⟩ [.ref a] [.ref a] _ _ hr e0 (hbind s₁ (.ref a)) (.cons rfl .nil) (hsp H hO hHT naT hS)) λr s' h=>?_;cases r with
  |error e=>exact(hCX H e s' h).elim
  |ok fl=>
   cases fl with
   |next=>exact False.elim h
   |brk=>exact False.elim h
   |cont=>exact False.elim h
   |ret u=>
    obtain⟨v,H',os,bare,un,hok',r',q,ps,hps⟩:=h;subst q;obtain rfl:u=Value.bool true:=r';have old:∀b o,b≠T->s₁.heap.get? b=some o->s'.heap.get? b=some o:=λb o nb e=>by
     cases q:H b with
     |none=>exact un.keep b o e q (by intro z;exact absurd (show b∈([]:List Addr) from z) (by simp)) (by simp)
     |some u=>
      rcases hO b with z|⟨ob,xs,z⟩|⟨z,_⟩
      ·rw[q]at z;cases z
      ·have z2:=un.frzs b ob _ z
       obtain⟨e1,_⟩:=hok b _ z;obtain⟨e2,_⟩:=hok' b _ z2;rw[e]at e1;cases e1;exact e2
      ·exact absurd z nb
    have tab':s'.heap.get? T=some (tabObj ps):=(hok' T _ hps).1;have CH:=codeHd_of_K KX hC;have isT:isCodeTable s₁.heap T:=(CH.tab hT).isCodeTable;refine⟨rfl,⟨λb o e=>?_,λb o e=>?_⟩,os,bare⟩
    ·by_cases nb:b=T
     ·subst nb
      rw[hT]at e;cases e;exact .inr (.inl ⟨isT,rfl,#[],ps,rfl,by rw[Array.empty_append];exact tab'⟩)
     ·exact .inl (old b o nb e)
    ·by_cases nb:b=T
     ·subst nb;exact⟨_,tab'⟩
     ·exact⟨o,old b o nb e⟩
 cases hk:K.lookup a with
 |some o=>
  have e:=KX a o hk;rw[ha]at e;cases e;refine core (λb=>if b=T then some (.ext (TabO T #[])) else none) (λb=>?_) (if_pos rfl) (.inr ⟨_,vs.toArray,_,hk,rfl,rfl,rfl,by rw[Waf,lenV];exact hl,by simpa using rv⟩) (λb u z=>?_) (λb z=>?_) λz=>absurd (if_neg naT) z
  ·by_cases hb:b=T
   ·exact .inr (.inr ⟨hb,if_pos hb⟩)
   ·exact .inl (if_neg hb)
  ·by_cases hb:b=T
   ·have z':=(if_pos hb).symm.trans z
    cases z';subst hb;exact Zme hT
   ·have z':=(if_neg hb).symm.trans z
    cases z'
  ·by_cases hb:b=T
   ·exact .inr hb
   ·exact absurd (if_neg hb) z
 |none=>
  refine core (λb=>if b=T then some (.ext (TabO T #[])) else if b=a then some (.frz { cls:=.type "list",data:=.seq vs.toArray } (.lst (ns.map V.int))) else none) (λb=>?_) (if_pos rfl) (.inl (.inr ⟨{ cls:=.type "list",data:=.seq vs.toArray },(if_neg naT).trans (if_pos rfl)⟩)) (λb u z=>?_) (λb z=>?_) λ_=>hk
  ·by_cases hb:b=T
   ·exact .inr (.inr ⟨hb,if_pos hb⟩)
   ·by_cases hc:b=a
    ·exact .inr (.inl ⟨_,_,(if_neg hb).trans (if_pos hc)⟩)
    ·exact .inl ((if_neg hb).trans (if_neg hc))
  ·by_cases hb:b=T
   ·have z':=(if_pos hb).symm.trans z
    cases z';subst hb;exact Zme hT
   ·have z:=(if_neg hb).symm.trans z
    by_cases hc:b=a
    ·have z':=(if_pos hc).symm.trans z
     cases z';subst hc;exact⟨ha,by rw[Waa];exact hl,vs,_,rv,ha⟩
    ·have z':=(if_neg hc).symm.trans z
     cases z'
  ·by_cases hb:b=T
   ·exact .inr hb
   ·by_cases hc:b=a
    ·exact .inl hc
    ·exact absurd ((if_neg hb).trans (if_neg hc)) z
theorem Zqy {K:W.Frag}{T:Addr}{H:Hp}{a:Addr}{ns:List Int}(hl:ns.length<=63) (hT:H T=some (.ext (TabO T #[]))) (hne:a≠T) (hS:SqL K H a (ns.map V.int)) :
  spLT K T fLaw [.ref a] H (λv H'=>v=.bl true/\∃ps,H' T=some (.ext (TabO T ps))) λ_ _ _=>False:=by
 refine⟨del H T,[.scr (ns.map .int)],λd=>d=.bl true,λb o e=>(Zg6 e).2,Zef,hT,.cons (.scr (vs:=ns.map V.int) ?_ (Reps.ofInts ns)) .nil,⟨ns,rfl,hl,rfl⟩,λr H' d ps _ h2 rr pd=>?_⟩
 ·rcases hS with e|e
  ·refine .inl ?_
   rcases e with e|⟨o,e⟩
   ·exact .inl (by rw[Zb5 hne];exact e)
   ·exact .inr ⟨o,by rw[Zb5 hne];exact e⟩
  ·exact .inr e
 ·subst pd
  cases rr;exact⟨rfl,ps,h2⟩
theorem walk_lawT {l:PySem.W.OpenLaw}{q:Program}{loose:List Str}{XP:(Str->Option Value)->Heap->Prop}{YP:World->Heap->Prop}{d:DefRec}{K:Params->W.Frag}{k:Nat}{x:Str}{T:Addr}(hr:Room k callerA) (hn:l.most=some 63) (hdf:d.params.defaults=[])
  (hY:∀(w:World) (h:Heap),YP w h->(K w.params).In h) (hT:∀(w:World) (h:Heap),YP w h->h.get? T=some (tabObj #[]))
  (F:∀(w:World) (mg:Str->Option Value) (fa:Addr) (h:Heap),(K w.params).In h->h.Ns mainGlobals mg->mg d.name=some (.ref fa) →
   (K w.params).lookup T=none/\(∃c,codeHdIn (K w.params) c T=true)/\∃fd:FuncData,(∀(s:Shared) (u:Value),BindsTo s fd ⟨[u],[]⟩ [(x,u)]) ∧
    ∀base:Heap,(K w.params).In base->base.Ns mainGlobals mg->base.BuiltinsAt mg T->FnOk l.prog w (K w.params) mg base CX0 k fa fd [x] (spLT (K w.params) T fLaw)) :
  PySem.W.WalkO q loose XP YP l.row.toRowW d [] (λf vs=>PySem.call f vs):=by
 refine Att.attach_call hn hdf λw s₀ s₁ mg mb fa o pm cd doc a vs ns G Y ho hd hcd hmg hobj hints hlen hg=>?_;have KX:=hY w _ Y;obtain⟨hTK,⟨c,hC⟩,fd,hb,hF⟩:=F w mg fa _ KX G.T.g hmg;have hTt:=hT w _ Y;have hBM:s₁.heap.BuiltinsAt mg T:=by
  obtain⟨bm,ob,b1,b2,b3,b4,b5,b6⟩:=G.T.bmain;refine⟨bm,ob,b1,b2,λq=>?_,λq=>?_,b3,b4,b5,b6⟩
  ·obtain⟨o,es,ep,e,hd,_⟩:=G.T.g
   rw[q,e]at b3;cases b3;rw[hd]at b6;cases b6
  ·rw[q,hTt]at b3;cases b3;cases b4
 exact Zmh KX G.T.g G.T.b G.T.builtins G.T.nolimit hg hobj hints (Wat hlen (by decide)) hr hTt hTK hC hBM hF hb (λH _ h1 h2 hS=>Zqy hlen h1 h2 hS) λH e s'=>λz=>z
open PySem PySem.Spec PyProof.Rows PySem.SeqAt
def TrcV (h:Heap) (a C T:Addr) (v:Value):Prop:=
 ∃oe vs oT ts,h.get? a=some oe/\oe.cls=.ref C/\oe.data=.fields vs/\vs[1]?=some (.ref T)/\vs[2]?=some .none/\T≠a/\h.get? T=some oT/\oT.data=.fields ts/\ts[3]?=some v
theorem Zos {e:Value}{env env':Env}(h:env.frame=env'.frame):noteFrame e env=noteFrame e env':=by
 unfold noteFrame PySem.frameOf;rw[h]
section
variable {X:Cx}{pins:List (Addr × Obj)}{σ:St}{H H':Hp}{s:Shared}{h':Heap}{a C T:Addr}{v:Value}
theorem Inv.notedA {h0:Heap}{oe:Obj}{vs:Array Value}{hid:List Addr}{T':Addr}(I:Inv X pins σ H s) (hex:X.ex=[]) (na:Nw X pins H a) (new:∀b∈hid,Nw X pins H b) (he:s.heap.get? a=some oe) (hc:oe.cls=.ref C) (hd:oe.data=.fields vs) (h2:vs[2]?=some .none)
  (k0:∀b,b ∉ hid->h0.get? b=s.heap.get? b) (hf0:∀b∈hid,∀o,s.heap.get? b=some o->∃ws,o.data=.fields ws) (hn0:∀b,h0.get? b=none->s.heap.get? b=none) (n:Noted h0 h' X.stack a oe T') :
  Inv X pins σ H { s with heap:=h' } /\ (∃v,TrcV h' a C T' v)/\Nw X pins H T' /\ s.heap.UpToSlots h':=by
 have nT:=Nw.of I hex (hn0 _ n.new);have hTa:T'≠a:=by rintro rfl;have z:=hn0 _ n.new;rw[he]at z;cases z
 have fl:∀b,b∈a::hid->∀o,s.heap.get? b=some o->∃ws,o.data=.fields ws:=λb hb o e=>by
  rcases Wam.mp hb with rfl|hb
  ·rw[he]at e;cases e;exact⟨vs,hd⟩
  ·exact hf0 b hb o e
 have up:s.heap.UpToSlots h':=λb o e hnf=>by
  have hb:b ∉ a::hid:=λz=>by obtain⟨ws,q⟩:=fl b z o e;exact hnf ws q
  have h1a:b≠a:=λz=>hb (by simp[z]);have h1b:b ∉ hid:=λz=>hb (Waq _ z);exact n.up b o ((k0 b h1b).trans e) h1a hnf
 refine⟨I.moved (hid:=a::hid) hex (λb hb=>(Wam.mp hb).elim (λz=>by subst z;exact na) (new b)) (λb o e h1 h2=>?_) up,?_,nT,up⟩
 ·have h1a:b≠a:=λz=>h1 (by simp[z])
  have h1b:b ∉ hid:=λz=>h1 (Waq _ z);exact n.keep b o ((k0 b h1b).trans e) h1a h2
 ·obtain⟨oT,ts,t1,t2,t3⟩:=n.tb
  have sz:2<vs.size:=(Array.getElem?_eq_some_iff.mp h2).1;refine⟨_,_,_,_,_,n.exc,(Obj.cls_mapFields _ _).trans hc,Obj.data_mapFields hd _,?_,?_,hTa,t1,t2,Array.getElem?_eq_getElem t3⟩
  ·simp[show 1<vs.size by omega]
  ·rw[Array.getElem?_setIfInBounds_ne (by decide)];exact h2
variable {M:Model}{E:Value->Shared->Prop}{Q:Unit->Shared->Prop}
theorem Zja (I:Inv X pins σ H s) (hex:X.ex=[]) (hst:X.stack=X.env::X.outer) (hf:X.env.frame=some X.env.locals) (tr:TrcV s.heap a C T v) (na:Nw X pins H a) (nT:Nw X pins H T)
  (h:∀h' T' v',Inv X pins σ H { s with heap:=h' } -> TrcV h' a C T' v' -> Nw X pins H T' -> s.heap.UpToSlots h' -> Q () { s with heap:=h' }):wpAny M X.A (noteFrame (.ref a) X.env) Q E s:=by
 have tr0:=tr;obtain⟨oe,vs,oT,ts,h1,h2,h3,h4,h5,h6,h7,h8,h9⟩:=tr;have hfr:=I.ok.frames;have hl:=I.stack;rw[hst]at hfr hl;have ot:∀b,b≠T->(s.heap.update T (Obj.mapFields (·.setIfInBounds 3 Value.none))).get? b=s.heap.get? b:=λb hb=>Wa7 _ _ (Ne.symm hb);unfold noteFrame;simp only[hf];refine wpAny_bind (wpAny_field h1 h3 h4 ?_);rw[if_pos (show (Value.ref T != Value.none)=true from by simp)];refine wpAny_bind (wpAny_field h7 h8 h9 ?_);by_cases hv:(v == rawInt X.env.locals)=true
 ·rw[if_pos hv]
  exact wpAny_pure (h s.heap T v I tr0 nT λb o e _=>⟨o.slots,e⟩)
 ·rw[if_neg hv]
  refine wpAny_bind (wpAny_setField h7 h8 (Array.getElem?_eq_some_iff.mp h9).1 ?_);refine entryX (s:={ s with heap:=s.heap.update T (Obj.mapFields (·.setIfInBounds 3 .none)) }) hfr (hl.of_keeps λb o hb hn=>⟨o,(ot b λq=>?_).trans hb,rfl⟩) hf ((ot a (Ne.symm h6)).trans h1) h3 (Array.getElem?_eq_some_iff.mp h4).1 λh' T' n=>?_
  ·rw[q,h7]at hb
   exact hn ts (Wau.inj hb ▸ h8)
  ·rw[<- hst]at n
   obtain⟨J,⟨v',t1⟩,t2,up⟩:=I.notedA (hid:=[T]) hex na (λb hb=>by rcases Wam.mp hb with rfl|hb;exact nT;cases hb) h1 h2 h3 h5 (λb hb=>ot b (by simpa using hb)) (λb hb o e=>by
    have hb:b=T:=by simpa using hb
    subst hb;rw[h7]at e;cases e;exact⟨ts,h8⟩) (λb e=>by
     by_cases hb:b=T
     ·subst hb
      rw[Wbh _ h7 (Obj.isFreed_of_fields (Obj.data_mapFields h8 _))]at e;cases e
     ·exact(ot b hb).symm.trans e) n
   exact h _ T' v' J t1 t2 up
theorem Zmt {A:Around}(fr:Option Addr) (I:Inv X pins σ H s) (hex:X.ex=[]) (tr:TrcV s.heap a C T v) (nT:Nw X pins H T)
  (h:∀h',Inv X pins σ H { s with heap:=h' } -> TrcV h' a C T (fr.elim .none λf=>rawInt f)->Q () { s with heap:=h' }):wpAny M A (setFlight (.ref a) fr) Q E s:=by
 obtain⟨oe,vs,oT,ts,h1,h2,h3,h4,h5,h6,h7,h8,h9⟩:=tr;have sz:=(Array.getElem?_eq_some_iff.mp h9).1;have ot:∀b,b≠T->(s.heap.update T (Obj.mapFields (·.setIfInBounds 3 (fr.elim Value.none λf=>rawInt f)))).get? b=s.heap.get? b:=λb hb=>Wa7 _ _ (Ne.symm hb);unfold setFlight;refine wpAny_bind (wpAny_field h1 h3 h4 ?_);rw[if_pos (show (Value.ref T != Value.none)=true from by simp)];refine wpAny_setField h7 h8 sz (h _ ?_ ?_)
 ·refine I.moved (hid:=[T]) hex (λb hb=>by rcases Wam.mp hb with rfl|hb;exact nT;cases hb) (λb o e hb _=>(ot b (by simpa using hb)).trans e) (λb o e hnf=>⟨o.slots,(ot b λz=>?_).trans e⟩)
  subst z;rw[h7]at e;cases e;exact hnf ts h8
 ·exact⟨oe,vs,_,_,(ot a (Ne.symm h6)).trans h1,h2,h3,h4,h5,h6,Wbh _ h7 (Obj.isFreed_of_fields (Obj.data_mapFields h8 _)),Obj.data_mapFields h8 _,by simp[sz]⟩
end
def PassA (X:Cx) (E:XK):Prop:=∀(pins:List (Addr × Obj)) (σ:St) (H:Hp) (s:Shared) (a C T:Addr) (v:Value),Inv X pins σ H s->Nw X pins H a->Nw X pins H T->TrcV s.heap a C T v->E (.ref C) none H->X.xe (.ref a) s
section
variable {P:Program}{w:World}{K:W.Frag}{mg:Str->Option Value}{base:Heap}{N:List Str}{qual:Str}{scope:Scope}{f:Addr}{cd:Value}{A:Around}{outer:List Env}{s0:Shared}{H0:Hp}{E:XK}
theorem Zqq:PassA (cxOf (CXE P w) P w K mg base N qual scope f cd A outer s0 H0 E) E:=λpins σ H s a C T v I na nT tr hE=>by
 show wpAny _ _ (leaving _ (.ref a)) _ _ s;unfold leaving;refine wpAny_bind (Zja I rfl rfl rfl tr na nT λh' T' v' J t1 t2 _=>?_);refine Zmt none J rfl t1 t2 λh2 J2 t3=>?_;exact⟨a,C,T',H,rfl,J2.os,J2.bare,J2.base,J2.hok,na.trk,na.old,t2.trk,t2.old,t3,hE⟩
end
def compCxX (X:Cx) (scope:Scope) (N:List Str) (C:Addr) (s:Shared) (H:Hp) (ex:List Addr) (pn:List (Addr × Obj)) (xe:Value->Shared->Prop):Cx:={ compCx X scope N C s H ex pn with xe:=xe }
theorem Inv.withX {Y:Cx}{xe:Value->Shared->Prop}{pins:List (Addr × Obj)}{σ:St}{H:Hp}{s:Shared}(I:Inv Y pins σ H s):Inv { Y with xe:=xe } pins σ H s:=
 ⟨⟨I.ok.mod,I.ok.kind,I.ok.glob,I.ok.blt,I.ok.above,I.ok.inj,I.ok.has,I.ok.cab,I.ok.hd,I.ok.frames,I.ok.stk,I.ok.exf,I.ok.bs,I.ok.bsz,I.ok.noex,I.ok.exfs,I.ok.funs,I.ok.frf⟩,I.os,I.bare,I.base,I.loc,I.cell,I.free,I.freeC,I.pin,I.hok,I.len⟩
theorem Inv.noX {Y:Cx}{xe:Value->Shared->Prop}{pins:List (Addr × Obj)}{σ:St}{H:Hp}{s:Shared}(I:Inv { Y with xe:=xe } pins σ H s):Inv Y pins σ H s:=
 ⟨⟨I.ok.mod,I.ok.kind,I.ok.glob,I.ok.blt,I.ok.above,I.ok.inj,I.ok.has,I.ok.cab,I.ok.hd,I.ok.frames,I.ok.stk,I.ok.exf,I.ok.bs,I.ok.bsz,I.ok.noex,I.ok.exfs,I.ok.funs,I.ok.frf⟩,I.os,I.bare,I.base,I.loc,I.cell,I.free,I.freeC,I.pin,I.hok,I.len⟩
def XEc (X:Cx) (pins:List (Addr × Obj)) (σ:St) (E:XK) (n:Addr):Value->Shared->Prop:=λx s'=>∃a C T v H',x=.ref a/\Inv X pins σ H' s' /\ Nw X pins H' a/\Nw X pins H' T/\TrcV s'.heap a C T v/\E (.ref C) none H' /\ (∃m,s'.heap.Ns n m)/\H' n=none
section
variable {X:Cx}{pins:List (Addr × Obj)}{σ:St}{H:Hp}{s:Shared}{fp:List Addr}{scope:Scope}{N:List Str}{E:XK}
theorem Zmz (I:Inv X pins σ H s) (hex:X.ex=[]) (hf:∀b∈fp,FpOk X pins H b):Passes (CXE X.prog X.w) (compCxX X scope N s.heap.objs.size s H fp (X.pn++pins) (XEc X pins σ E s.heap.objs.size)) E:=λpinsY σY Hh ss e s' IY hq=>by
 obtain⟨a,C,T,H',rfl,os,bare,un,hok,ha,hsa,hT,hsT,tr,hE⟩:=hq;have I0:Inv (compCx X scope N s.heap.objs.size s H fp (X.pn++pins)) [] σY Hh ss:=Inv.unpinned (pl:=pinsY) (Inv.noX IY);have J0:Inv X pins σ Hh ss:=Zec I hf I0 (.refl ..);have J1:Inv (compCx X scope N s.heap.objs.size s H fp (X.pn++pins)) [] σY H' s':=I0.call' (ch:=[]) os un hok bare (λb z=>absurd z (by simp));have J2:Inv X pins σ H' s':=Zec I hf J1 (.refl ..);obtain⟨m,hn,_⟩:=J1.loc;exact⟨a,C,T,.none,H',rfl,J2,(Nw.of J0 hex hsa).at ha,(Nw.of J0 hex hsT).at hT,tr,hE,⟨m,hn⟩,J1.free⟩
end
def PBX (Y:Cx) (rest:Sem Fin) (c:Code) (tb:TB):Prop:=∀(pins:List (Addr × Obj)) (s:Shared) (σ:St) (H:Hp) (N:St->Hp->Prop),Inv Y pins σ H s->tb σ H N →
 wpAny (model Y.prog Y.w) Y.A rest (λf s'=>f=.again c/\∃σ' H',Inv Y pins σ' H' s' /\ N σ' H') Y.xe s
theorem Zkd {Y:Cx}{e tg:Expr}{d:Nat}{p:Pos}{acc:Value}{rest:Value->Sem Fin}{g:TG}{tb:TB}(hpl:Plain e) (hc:Y.calm=true)
  (hct:∀it,compTurn e d it acc Y.env=(do
   standAt p
   match ← pyNext it with
   |none=>pure (.done .next)
   |some v=>
    letOwnedTupleGo tg it v
    assign tg Y.env v
    rest it))
  (hg:PG Y tg g) (hb:∀it,PBX Y (rest it) (.compLoop e d it acc Y.env) tb) {pins:List (Addr × Obj)}{σ:St}{s:Shared}{itv:Value}{R:St->Hp->Prop}{RX:Value->Shared->Prop}
  (hn:∀x s',Y.xe x s' -> wpAny (model Y.prog Y.w) Y.A (noteFrame x Y.env) (λ_ s''=>RX x s'') RX s') (h:PIE Y pins σ tg (LoopR g tb R σ) itv s) :
  codeAny (model Y.prog Y.w) Y.A (.compLoop e d itv acc Y.env) (λr s'=>(r=.ok .next/\∃σ' H',Inv Y pins σ' H' s' /\ R σ' H')\/∃x,r=.error x/\RX x s') s:=by
 obtain⟨it,fp,tn,J,H2,e0,I2,T,st2,f2,W,⟨m0,w0⟩,turn⟩:=h;subst e0;have stat:∀{H':Hp},(∀b∈fp,H' b=none)->∀b∈fp,FpOk Y pins H' b:=λhn b hb=>⟨hn b hb,(f2 b hb).2⟩;refine codeAny_loop rfl (λn s'=>∃i σ' H',Inv Y pins σ' H' s' /\ tn i s'.heap/\(∀b∈fp,H' b=none)/\W i n σ' H') ?_ m0 ⟨0,σ,H2,I2,st2,λb hb=>(f2 b hb).1,w0⟩;rintro n s3 ⟨i,σ3,H3,I3,st3,fr3,w3⟩;obtain⟨z1,z2⟩:=hpl.tu Y.prog Y.w Y.A d (.ref it) acc Y.env;rw[z1,z2];refine wpAny_noted (wpAny_mono (E:=Y.xe) ?_ (λ_ _ q=>q) λx s' z=>wpAny_mono (hn x s' z) (λ_ _ q=>.inr ⟨x,rfl,q⟩) λy _ q=>.inr ⟨y,rfl,q⟩);rw[hct];refine wpAny_bind (wpAny_standAt (wpAny_bind ?_));rcases turn i n σ3 H3 w3 with ⟨stop,qn⟩|⟨go,N,hN,step⟩
 ·refine thn (T.done Y rfl rfl rfl hc i pins s3 σ3 H3 Y.xe I3 (stat fr3) st3 stop) λr s4 ⟨hr,I4⟩=>?_
  subst hr;exact wpAny_pure (.inl ⟨rfl,σ3,H3,I4,qn⟩)
 ·refine thn (T.item Y rfl rfl rfl hc i pins s3 σ3 H3 Y.xe I3 (stat fr3) st3 go) λr s4 ⟨u,hr,h4⟩=>?_
  subst hr;refine wpAny_bind (thn h4 λ_ s5 ⟨x,H5,I5,r5,y5,st5,fr5⟩=>?_);have I5':=I5.pinned (stat fr5) (T.obj _ _ st5);have G1:=hg _ s5 σ3 H5 x u _ I5' r5 (step x H5 y5);refine wpAny_bind (thn G1 λ_ s6 ⟨σ6,H6,I6,q6⟩=>?_);refine thn (hb _ _ s6 σ6 H6 N I6 q6) λfn s7 ⟨hfn,σ7,H7,I7,n7⟩=>?_;subst hfn;refine⟨rfl,?_⟩;obtain⟨m',hm,w7⟩:=hN σ7 H7 n7;refine⟨m',hm,i+1,σ7,H7,I7.unpinned,T.keep _ _ _ st5 λb hb o e=>(I7.pin (b,o) (Waw _ (Waw _ (Zck hb e)))).1,λb hb=>?_,w7⟩;obtain⟨o,e,_⟩:=T.obj _ _ st5 b hb;exact(I7.pin (b,o) (Waw _ (Waw _ (Zck hb e)))).2.1
section
variable {X:Cx}
theorem Zkf {e tg1 it1:Expr}{scope:Scope}{tgs fvs:List Str}{sel:List Nat}{g1:TG}{ob:Obj}{ho:HO}{newAcc:Sem Value}{rest:Addr->Env->Value->Sem Fin}{tem:Addr->TB}{EX:XK}(hpl:Plain e) (hcls:(clausesOf e)[0]?=some ⟨tg1,it1,[],0⟩)
  (hct0:∀(D:Addr) (env:Env) (it:Value),compTurn e 0 it (.ref D) env=(do
   standAt it1.pos
   match ← pyNext it with
   |none=>pure (.done .next)
   |some v=>
    letOwnedTupleGo tg1 it v
    assign tg1 env v
    rest D env it))
  (hnew:∀(s:Shared) (Q:Value->Shared->Prop) (E:Value->Shared->Prop),Q (.ref s.heap.objs.size) { s with heap:=s.heap.push ob } -> wpAny (model X.prog X.w) X.A newAcc Q E s)
  (hok:∀(pins:List (Addr × Obj)) (σ:St) (H:Hp) (s:Shared),Inv X pins σ H s->Inv X pins σ (upd H s.heap.objs.size ho) { s with heap:=s.heap.push ob,toks:=s.toks })
  (S:CompSc X.env.scope X.N scope fvs sel) (hc:X.calm=true) (hex:X.ex=[]) (hst:X.stack=X.env::X.outer) (hf:X.env.frame=some X.env.locals) (hF:PassA X EX)
  (hg1:∀C s H ex pn xe,PG (compCxX X scope (tgs++fvs) C s H ex pn xe) tg1 g1)
  (hb:∀C s H ex pn xe D it,Passes (CXE X.prog X.w) (compCxX X scope (tgs++fvs) C s H ex pn xe) EX->PBX (compCxX X scope (tgs++fvs) C s H ex pn xe) (rest D (compCxX X scope (tgs++fvs) C s H ex pn xe).env it) (.compLoop e 0 it (.ref D) (compCxX X scope (tgs++fvs) C s H ex pn xe).env) (tem D))
  {pins:List (Addr × Obj)}{σ:St}{s:Shared}{itv:Value}{Q:VK}
  (h2:PIE X pins σ tg1 (λJ H1=>∀acc,H1 acc=none->LoopR g1 (tem acc) (λ_ H'=>Q (.ref acc) H') (compSt tgs.length sel σ) J (upd H1 acc ho)) itv s) :
  wpAny (model X.prog X.w) X.A newAcc (λacc s3=>wpAny (model X.prog X.w) X.A (newFunctionEnv scope X.env.globals (clOf X.env scope.names []) [] X.env.qual none .none (some X.env)) (λcenv s4=>
   codeAny (model X.prog X.w) X.A (.compStart e 0 itv acc { cenv with scope:=relabel scope X.env }) (compPost (model X.prog X.w) X.A X.xe none (EP X pins σ Q) acc cenv.locals) s4) X.xe s3) X.xe s:=by
 obtain⟨it,fp,tn,J,H1,e0,I,T,st,f2,h2⟩:=h2;subst e0;have hlt:∀b∈fp,b<s.heap.objs.size:=λb hb=>let ⟨o,ho,_⟩:=T.obj 0 _ st b hb; Wao ho
 refine hnew s _ _ (wpAny_newFunctionEnv S.nocell (by intro y hy;simp at hy) (λh1 hns hsb=>?_) S.kind);dsimp only at hns hsb ⊢;have I3:=hok pins σ H1 s I;have hacc:H1 s.heap.objs.size=none:=I.hok.fresh (Wak _);have h2:=h2 s.heap.objs.size hacc;generalize hs3:({ s with heap:=s.heap.push ob,toks:=s.toks }:Shared)=s3 at I3;have hh3:s3.heap=s.heap.push ob:=by rw[<- hs3]
 have old3:∀b o,s.heap.get? b=some o->s3.heap.get? b=some o:=λb o q=>by rw[hh3];exact Wac _ q
 have hf3:∀b∈fp,FpOk X pins (upd H1 s.heap.objs.size ho) b:=λb hb=>⟨by rw[Zal (Way (hlt b hb))];exact(f2 b hb).1,(f2 b hb).2⟩;have hlt3:∀b∈fp,b<s3.heap.objs.size:=λb hb=>by rw[hh3,Wbm];exact Wcl (hlt b hb)
 have tn3:tn 0 s3.heap:=T.keep 0 _ _ st λb hb o q=>old3 b o q;have old4:∀b o,s3.heap.get? b=some o->h1.get? b=some o:=λb o q=>by
  have hb:b≠s3.heap.objs.size:=Way (Wao q);rw[hh3]at hb q;exact(hsb.2 b hb).trans (Wac _ q)
 have tn4:tn 0 h1:=T.keep 0 _ _ tn3 λb hb o q=>old4 b o q;have hC:(s.heap.push ob).objs.size=s3.heap.objs.size:=by rw[hh3]
 rw[hC]at hns;have J0:=Zju (tgs:=tgs) (tk:=s.toks+([]:List (Str × Value)).length) S I3 hf3 hlt3 hns old4;have es:({ s3 with heap:=h1,toks:=s.toks+([]:List (Str × Value)).length }:Shared) = { s with heap:=h1,toks:=s.toks+([]:List (Str × Value)).length }:=by rw[<- hs3]
 rw[es]at J0;have J0:Inv (compCxX X scope (tgs++fvs) s3.heap.objs.size s3 (upd H1 s.heap.objs.size ho) fp (X.pn++pins) (XEc X pins σ EX s3.heap.objs.size)) [] (compSt tgs.length sel σ) (upd H1 s.heap.objs.size ho) { s with heap:=h1,toks:=s.toks+([]:List (Str × Value)).length }:=Inv.withX (xe:=XEc X pins σ EX s3.heap.objs.size) J0;have G1:=hg1 s3.heap.objs.size s3 (upd H1 s.heap.objs.size ho) fp (X.pn++pins) (XEc X pins σ EX s3.heap.objs.size);have EM:=λit=>hb s3.heap.objs.size s3 (upd H1 s.heap.objs.size ho) fp (X.pn++pins) (XEc X pins σ EX s3.heap.objs.size) s.heap.objs.size it (Zmz I3 hex hf3);have stat:∀{H':Hp},(∀b∈fp,H' b=none)->∀b∈fp,FpOk (compCxX X scope (tgs++fvs) s3.heap.objs.size s3 (upd H1 s.heap.objs.size ho) fp (X.pn++pins) (XEc X pins σ EX s3.heap.objs.size)) [] H' b:=λhn b hb=>by
  refine⟨hn b hb,Way (hlt3 b hb),λz=>?_,.inl hb,λx c e=>?_,λp hp z=>?_⟩
  ·rcases Wam.mp (I3.stkSub b z) with q|q
   ·exact(hf3 b hb).2.1 q
   ·exact(hf3 b hb).2.2.1 q
  ·exact(hf3 b hb).2.2.2.2.1 x c (Zbs _ _ (λ_ _ z=>by simp at z) e)
  ·have hp:p∈(X.pn++pins)++[]:=hp
   rw[Wbf]at hp;exact(hf3 b hb).2.2.2.2.2 p hp z
 generalize hY:compCxX X scope (tgs++fvs) s3.heap.objs.size s3 (upd H1 s.heap.objs.size ho) fp (X.pn++pins) (XEc X pins σ EX s3.heap.objs.size)=Y at J0 G1 EM stat;have hYp:Y.prog=X.prog:=by rw[<- hY];rfl
 have hYw:Y.w=X.w:=by rw[<- hY];rfl
 have hYK:Y.K=X.K:=by rw[<- hY];rfl
 have hYA:Y.A=X.A:=by rw[<- hY];rfl
 have hYc:Y.calm=true:=by rw[<- hY];exact hc
 have hYx:Y.xe=XEc X pins σ EX s3.heap.objs.size:=by rw[<- hY];rfl
 have hYe:Y.env=compEnvC scope (clOf X.env scope.names []) s3.heap.objs.size X.env:=by rw[<- hY];rfl
 have T':Turn Y.prog Y.w Y.K tg1 J fp it tn:=by rw[hYp,hYw,hYK];exact T
 have PP:PIE Y [] (compSt tgs.length sel σ) tg1 (LoopR g1 (tem s.heap.objs.size) (λ_ H'=>Q (.ref s.heap.objs.size) H') (compSt tgs.length sel σ)) (.ref it) { s with heap:=h1,toks:=s.toks+([]:List (Str × Value)).length }:=
  ⟨it,fp,tn,J,_,rfl,J0,T',tn4,stat λb hb=>(hf3 b hb).1,h2⟩
 have L:=Zkd (Y:=Y) (e:=e) (d:=0) (acc:=.ref s.heap.objs.size) (RX:=XEc X pins σ EX s3.heap.objs.size) hpl hYc (hct0 s.heap.objs.size Y.env) G1 (λit=>EM it) (λx s' hx=>by
  rw[hYx]at hx;obtain⟨a,C,T0,v,H',rfl,K2,na,nT,tr,hE,⟨m,hm⟩,fr⟩:=hx;rw[hYp,hYw,hYA,hYe,Zos (env:=compEnvC scope (clOf X.env scope.names []) s3.heap.objs.size X.env) (env':=X.env) rfl];refine Zja K2 hex hst hf tr na nT λh' T' v' K3 t1 t2 up=>⟨a,C,T',v',H',rfl,K3,na,t2,t1,hE,⟨m,up.ns hm⟩,fr⟩) PP
 have ST:=Zki (d:=0) hpl hcls PP L;rw[hYp,hYw,hYA,hYe]at ST;show codeAny (model X.prog X.w) X.A (.compStart e 0 (.ref it) (.ref s.heap.objs.size) (compEnvC scope (clOf X.env scope.names []) (s.heap.push ob).objs.size X.env)) (compPost (model X.prog X.w) X.A X.xe none (EP X pins σ Q) (.ref s.heap.objs.size) (s.heap.push ob).objs.size) _;rw[hC];refine codeAny_mono ST λr s6 hr=>?_;rcases hr with ⟨hr,σ5,H5,I6,qn⟩|⟨x,hr,hx⟩
 ·subst hr
  obtain⟨m6,hn6,_⟩:=I6.loc;rw[hYe]at hn6;have I6':Inv (compCx X scope (tgs++fvs) s3.heap.objs.size s3 (upd H1 s.heap.objs.size ho) fp (X.pn++pins)) [] σ5 H5 s6:=Inv.noX (xe:=XEc X pins σ EX s3.heap.objs.size) (by rw[<- hY]at I6;exact I6);exact⟨m6,hn6,λh' sb=>⟨.ref s.heap.objs.size,H5,Zec I3 hf3 I6' sb,rfl,qn⟩⟩
 ·subst hr
  obtain⟨a,C,T0,v,H',rfl,K2,na,nT,tr,hE,⟨m,hm⟩,fr⟩:=hx;refine⟨m,hm,λh' sb cenv hl=>?_⟩;obtain⟨f0,f1,f2,f3,f4,f5⟩:=I3.fpOk (Wak _) fr;have K3:Inv X pins σ H' { s6 with heap:=h' }:=K2.turned (t':=s6.toks) (it:=s3.heap.objs.size) (λb o hb e=>(sb.2 b hb).trans e) f0 f1 f3 f4 f5;obtain⟨oe,vs,oT,ts,h1,h2,h3,h4,h5,h6,h7,h8,h9⟩:=tr;obtain⟨om,es,ep,hm1,hm2,_⟩:=hm;have nea:a≠s3.heap.objs.size:=λz=>by rw[z,hm1]at h1;cases h1;rw[hm2]at h3;cases h3
  have neT:T0≠s3.heap.objs.size:=λz=>by rw[z,hm1]at h7;cases h7;rw[hm2]at h8;cases h8
  have tr':TrcV h' a C T0 v:=⟨oe,vs,oT,ts,(sb.2 a nea).trans h1,h2,h3,h4,h5,h6,(sb.2 T0 neT).trans h7,h8,h9⟩;unfold PySem.passOn;refine wpAny_bind (wpAny_field (s:={ s6 with heap:=h' }) ((sb.2 a nea).trans h1) h3 h4 ?_);rw[if_neg (show ¬ ((Value.ref T0 == Value.none)=true) from by simp)];refine wpAny_bind (Zmt cenv.frame K3 hex tr' nT λh2 K4 t4=>?_);exact wpAny_throw (hF _ _ _ _ _ _ _ _ K4 na nT t4 hE)
theorem Zq7 {Y:Cx}{ex:Expr}{te:TE}{c:Code}(he:PE Y ex te) (D:Addr):PBX Y (do
   (do let _ ← call (.builtin "list.append") [.ref D,<- eval ex Y.env])
   again c) c (tAppL te D):=λpins s σ H N I h=>by
 refine wpAny_bind (wpAny_bind (thn (he pins s σ H _ I h) λu s1 ⟨y,H1,I1,ry,ys,ea,za,na⟩=>?_));have M:=Zdj (X:=Y) _ s1 σ H1 (.ref D) [y] (.ref D) [u] (λ_ H=>N σ H) I1 rfl (.cons ry .nil) ⟨_,ys,y,rfl,rfl,ea,za,na⟩;exact wpAny_bind (thn M λ_ sb ⟨_,Hb,Ib,_,nb⟩=>wpAny_pure (wpAny_pure ⟨rfl,σ,Hb,Ib,nb⟩))
theorem Zk5 {ex tg1 it1:Expr}{scope:Scope}{pos:Pos}{fvs:List Str}{sel:List Nat}{wi1:TI}{g1:TG}{te:TE}{EX:XK}(tgs:List Str) (S:CompSc X.env.scope X.N scope fvs sel) (hc:X.calm=true) (hex:X.ex=[]) (hst:X.stack=X.env::X.outer) (hf:X.env.frame=some X.env.locals) (hF:PassA X EX)
  (hi1:PI X tg1 it1 wi1) (hg1:∀C s H ex pn xe,PG (compCxX X scope (tgs++fvs) C s H ex pn xe) tg1 g1)
  (he:∀C s H ex' pn xe,Passes (CXE X.prog X.w) (compCxX X scope (tgs++fvs) C s H ex' pn xe) EX->PE (compCxX X scope (tgs++fvs) C s H ex' pn xe) ex te)
  (hs1:∀x,foldedSetIterable it1 X.env x=pure x:=by intro _;rfl) :
  PE X (.ListComp ex [⟨tg1,it1,[],0⟩] scope pos) (tCompG tgs.length sel wi1 g1 (.lst []) (tAppL te)):=by
 intro pins s σ H Q I h;rw[eval_ListComp];refine wpAny_comprehension_free (use:=none) rfl hs1 (Zbv (Zc5 S I.ok)) S.kind S.names (thn (hi1 pins s σ H _ I h) λv s1 h1=>thn h1 λitv s2 h2=>?_);exact Zkf (tgs:=tgs) (ob:={ cls:=.type "list",data:=.seq ([]:List Value).toArray }) (ho:=.lst []) (Zkc _ _ _ _) rfl (λD env it=>rfl) (λs Q E q=>wpAny_newObj_type q) (λpins σ H s I=>I.lnew (its:=[]) .nil (by decide)) S hc hex hst hf hF hg1 (tem:=tAppL te) (λC s H ex pn xe D it hp=>Zq7 (he C s H ex pn xe hp) D) h2
end
section
variable {K:W.Frag}{Δ:Evt}{E:XK}{Xp:Addr->Prop}
def JAX (K:W.Frag) (E:XK) (Xp:Addr->Prop) (t:TA) (Δ:Evt) (P:List D->Evt->Prop):Prop:=
 ∀g G H σ Q,EW E Xp g->Ok K g G H σ Δ -> (∀vs ds G' H' Δ',Ok K g G' H' σ Δ' -> Same G G' -> Reps K G' vs ds->P ds Δ' -> Q vs H')->t σ H Q
theorem Znx {ta:TE}{tr:TA}{P:List D->Evt->Prop}(h:JEX K E Xp ta Δ λd Δ1=>JAX K E Xp tr Δ1 λds Δ2=>P (d::ds) Δ2):JAX K E Xp (tCons ta tr) Δ P:=λg G H σ Q w k c=>
 h g G H σ _ w k λx d G1 H1 Δ1 k1 s1 r1 p1=>p1 g G1 H1 σ _ w k1 λvs ds G2 H2 Δ2 k2 s2 r2 p2=>c _ _ G2 H2 Δ2 k2 (s1.trans s2) (.cons (r1.mono s2) r2) p2
theorem Zs1 {r:List V->Hp->VK->Prop}{ta:TA}{P:D->Evt->Prop}(h:JAX K E Xp ta Δ λds Δ1=>JC K r ds Δ1 P):JEX K E Xp (tCB r ta) Δ P:=λg G H σ Q w k c=>
 h g G H σ _ w k λvs ds G1 H1 Δ1 k1 s1 r1 p1=>p1 g G1 H1 σ Q vs k1 r1 (c.up s1)
theorem Zor {n:Nat}{sel:List Nat}{wi1:TI}{g1:TG}{te:TE}{P:D->Evt->Prop}
  (h:JI K wi1 Δ λds Δ1=>(∀i∈sel,∃d,Δ1[i]?=some (.val d))/\∃I:Nat->List D->Evt->Prop,I 0 [] (compD n sel Δ1) ∧
   (∀i d l Δ2,ds[i]?=some d->I i l Δ2->JG K g1 d Δ2 λΔ3=>JEX K E Xp te Δ3 λe Δ4=>l.length<sizeLine/\I (i+1) (l++[e]) Δ4) ∧
   ∀l Δ2,I ds.length l Δ2->P (.lst l) Δ1):JEX K E Xp (tCompG n sel wi1 g1 (.lst []) (tAppL te)) Δ P:=λg G H σ Q w k c=>
 h g G H σ _ k λJ ds G1 H1 Δ1 k1 s1 it ⟨hval,I,h0,ht,he⟩ acc hacc=>by
  have hGa:G1 acc=none:=by
   cases e:G1 acc with
   |none=>rfl
   |some u=>rw[k1.live _ _ e]at hacc;cases hacc
  have noOd:∀(i:Nat) x od,(compD n sel Δ1)[i]?=some x->x.od=some od->False:=λi x od e1 e2=>by
   rcases Zb7 e1 with z|⟨j,i',ei,ej,z⟩
   ·subst z;cases e2
   ·obtain⟨d,hd⟩:=hval i' (Wap ej)
    rw[hd]at z;cases z;cases e2
  have wg:∀o,EW E Xp (gInO G1 H1 acc o):=λo C H' h1 h2 h3 h4 x=>w.at k1 (λb o e=>h1 b o (λz=>z) e) x;refine⟨λi m σ' H'=>m=ds.length-i/\i<=ds.length/\∃G2 vs2 l2 Δ2,Reps K G2 vs2 l2/\Ok K (gInO G1 H1 acc (.lst vs2)) G2 H' σ' Δ2/\Same G1 G2/\I i l2 Δ2,⟨ds.length,by simp,Wbt _,G1,[],[],_,.nil,?_,Same.refl _,h0⟩,?_⟩
  ·refine⟨λb o hb e=>?_,λb hb=>hb.elim,Same.refl _,λb o e=>⟨?_,.inr e⟩,λb o e=>?_,?_,λi d e=>?_,λi x od e1 e2=>(noOd i x od e1 e2).elim,λi j x y od od' a e1 e2=>(noOd i x od e1 e2).elim⟩
   ·have e:H1 b=some o:=e
    rw[Zal (Zao e hacc)];exact e
   ·rw[Zal (Zao e hGa)];exact k1.live b o e
   ·have e:(if b=acc then some (HO.lst []) else none)=some o:=e
    by_cases hb:b=acc
    ·rw[if_pos hb]at e;cases e;subst hb
     exact⟨Zan,hGa,λi x od e1 e2=>(noOd i x od e1 e2).elim⟩
    ·rw[if_neg hb]at e;cases e
   ·unfold compD compSt;simp
   ·rcases Zb7 e with z|⟨j,i',ei,ej,z⟩
    ·cases z
    ·subst ei
     obtain⟨v,w1,w2⟩:=k1.val i' d z;exact⟨v,by rw[Zc4 ej,w1];rfl,w2⟩
  ·rintro i m σ2 H2 ⟨rfl,hi,G2,vs2,l2,Δ2,r2,k2,s2,h2⟩
   obtain⟨stop,go⟩:=it G2 H2 s2 k2.live;by_cases hlt:i<ds.length
   ·obtain⟨a1,a2⟩:=go i _ (Wab hlt)
    refine .inr ⟨a1,λσ' H'=>∃G3 vs3 l3 Δ3,Reps K G3 vs3 l3/\Ok K (gInO G1 H1 acc (.lst vs3)) G3 H' σ' Δ3/\Same G1 G3/\I (i+1) l3 Δ3,λσ' H' p'=>⟨ds.length-(i+1),by omega,rfl,hlt,p'⟩,λx H3 y=>?_⟩;obtain⟨G3,b1,b2,b3,b4⟩:=a2 x H3 y;have k3:=k2.grow b1 b2 b3;refine ht i _ l2 Δ2 (Wab hlt) h2 _ G3 H3 σ2 x _ k3 b4 λσ4 G4 H4 Δ4 k4 s4 p4=>?_;refine p4 _ G4 H4 σ4 _ (wg _) k4 λy d Ga Ha Δa ka sa r ⟨hl,p⟩=>?_;have ra':Reps K Ga vs2 l2:=r2.mono (b1.trans (s4.trans sa));obtain⟨w1,w2,w3⟩:=Zge ka;exact⟨vs2,w1,by rw[ra'.length];exact hl,Ga,vs2++[y],l2++[d],Δa,Reps.append ra' (.cons r .nil),Znn hacc ka,s2.trans (b1.trans (s4.trans sa)),p⟩
   ·have e:i=ds.length:=by omega
    subst e;obtain⟨w1,w2,w3⟩:=Zge k2;refine .inl ⟨stop,?_⟩;have k9:Ok K g G2 H2 σ Δ1:=k1.grow s2 (λb o e=>k2.same b o (λz=>z) e) λb o e=>by
     obtain⟨f1,f2⟩:=k2.frz b o e;exact⟨f1,f2.symm⟩
    have pd:Pend K g G2 H2 σ Δ1 acc (.lst l2):=⟨.lst vs2,w1,r2,w2,k1.there hacc,(by
     cases q:g.Xo acc with
     |none=>rfl
     |some u=>have z:=(k1.ext acc u q).1;rw[hacc]at z;cases z),λi x od e1 e2 e3=>by
     obtain⟨a,oo,v1,v2,_⟩:=k1.own i x od e1 e2;rw[e3]at v1;cases v1;rw[hacc]at v2;cases v2⟩
    obtain⟨k10,sg,r10⟩:=k9.freeze pd w1;exact c _ _ _ H2 Δ1 k10 (s1.trans (s2.trans sg)) r10 (he l2 Δ2 h2)
end
mutual
def tOnly:D->Bool
 |.tup ds=>tOnlys ds
 |.lst _=>false
 |.scr _=>false
 |.dct _ _=>false
 |.exc _ _=>false
 |_=>true
def tOnlys:List D->Bool
 |[]=>true
 |d::ds=>tOnly d && tOnlys ds
end
section
variable {K:W.Frag}{G G2:Hp}
mutual
theorem Rep.tonly (s:∀b vs,G b=some (.tup vs)->G2 b=some (.tup vs)):∀{v:V}{d:D},Rep K G v d->tOnly d=true->Rep K G2 v d
 |_,_,.non,_=>.non
 |_,_,.bl b,_=>.bl b
 |_,_,.int i,_=>.int i
 |_,_,.str x,_=>.str x
 |_,_,.ty n,_=>.ty n
 |_,_,.adr a,_=>.adr a
 |_,_,.tup e r,h=>.tup (s _ _ e) (Reps.tonly s r h)
 |_,_,.lst e r,h=>nomatch (show false=true from h)
 |_,_,.dct e l r,h=>nomatch (show false=true from h)
 |_,_,.exc e,h=>nomatch (show false=true from h)
 |_,_,.scr e r,h=>nomatch (show false=true from h)
theorem Reps.tonly (s:∀b vs,G b=some (.tup vs)->G2 b=some (.tup vs)):∀{vs:List V}{ds:List D},Reps K G vs ds->tOnlys ds=true->Reps K G2 vs ds
 |_,_,.nil,_=>.nil
 |_,_,.cons a b,h=>by
  have h:(tOnly _ && tOnlys _)=true:=h;rw[Wa6]at h;exact .cons (Rep.tonly s a h.1) (Reps.tonly s b h.2)
end
end
section
variable {K:W.Frag}{Δ:Evt}
theorem Zgz {i:Nat}{x:Slot}{od:OD}(h:(Δ.map onlyV)[i]?=some x) (ho:x.od=some od):False:=by
 rw[Waj]at h;cases e:Δ[i]? with
 |none=>rw[e]at h;cases h
 |some y=>rw[e]at h;cases h;cases y <;> cases ho
theorem Zhd {i:Nat}{d:D}(h:(Δ.map onlyV)[i]?=some (.val d)):Δ[i]?=some (.val d):=by
 rw[Waj]at h;cases e:Δ[i]? with
 |none=>rw[e]at h;cases h
 |some y=>rw[e]at h;cases y <;> cases h;rfl
theorem Ok.look {g:Gm}{G H:Hp}{σ:St}(k:Ok K g G H σ Δ):Ok K ⟨λ_=>False,G,H,λ_=>none⟩ G H σ (Δ.map onlyV):=
 ⟨λb o _ e=>e,λb h=>h.elim,Same.refl _,λb o e=>⟨k.live b o e,.inr e⟩,λb o e=>(nomatch (show (none:Option HO)=some o from e)),by rw[Waa];exact k.len,λi d e=>k.val i d (Zhd e),λi x od e1 e2=>(Zgz e1 e2).elim,λi j x y od od' a e1 e2=>(Zgz e1 e2).elim⟩
theorem Zhy {G:Hp}:∀{cs:List (Addr × HO)}{rows:List (List Int)},Paired (λ(c:Addr × HO) (od:OD)=>OwnRep K G c.2 od) cs (rows.map λr=>OD.lst (r.map .int)) →
  ∃cs':List (Addr × List Int),cs'.map (·.2)=rows/\cs'.map (·.1)=cs.map (·.1)/\∀c∈cs',(c.1,HO.lst (c.2.map V.int))∈cs
 |[],[],_=>⟨[],rfl,rfl,λc hc=>nomatch hc⟩
 |[],_::_,h=>nomatch h
 |_::_,[],h=>nomatch h
 | (a,o)::cs,r::rows,.cons h t=>by
  obtain⟨cs',e1,e2,e3⟩:=Zhy t;have h:OwnRep K G o (.lst (r.map .int)):=h;cases o with
  |lst vs=>
   have h:Reps K G vs (r.map .int):=h;have e:=h.ints;subst e;refine⟨(a,r)::cs',by rw[Wa4,e1],by rw[Wa4,Wa4,e2],λc hc=>?_⟩;rcases Wam.mp hc with rfl|hc
   ·exact War
   ·exact Waq _ (e3 c hc)
  |_=>exact h.elim
theorem Znz {f:DSp}{E1:XK}{tn ta:TE}{rest:TS}{P:Pst}{d0 dr:D}{rows:List (List Int)}{i j l:Nat}(hij:i≠j) (hil:i≠l) (hjl:j≠l) (hi:i < Δ.length) (hj:j < Δ.length) (hl:l < Δ.length) (hz:∀r∈rows,r.length+rows.length<sizeLine)
  (hn:JN K tn (Δ.map onlyV) λods _=>ods=rows.map λr=>OD.lst (r.map .int)) (hta:JE K ta ((Δ.map onlyV).set i .any) λd _=>d=d0) (hf:f [d0,.lst (rows.map lstZ)] λd=>d=dr) (ht:tOnly dr=true)
  (h:JS K rest (((Δ.set i .any).set j (.val dr)).set l .any) P) :
  JS K (tSeq (tAsg tn (gName i)) (tSeq (tAsg (tCall (spD K f) [] E1 (tCons ta (tCons (tVar i) tNil))) (gName j)) (tSeq (tFor (iSeq K (tVar i)) (gName l) (tDrop (tBM K "list" rAppend (tVar l) (tCons (tC (.int 0)) tNil)))) (tSeq (tDrop (tBM0 K "list" rClear (tVar i))) rest)))) Δ P:=λg G H σ Dd k c=>by
 refine hn _ G H σ _ k.look λacc cs ods G1 H1 Δ1 k1 s1 rep hacc nest e=>?_;subst e;have sh1:Same H H1:=λb o e=>k1.same b o (λz=>z) e;have hacc:H acc=none:=hacc;obtain⟨nd,pr,hcs⟩:=nest;obtain⟨cs',e1,e2,e3⟩:=Zhy pr;obtain⟨_,vs,ev,ga,rs⟩:=rep.inv;cases ev;have ea:vs=cs'.map λc=>V.ref c.1:=by
  have:cs.map (λc=>D.adr c.1)=(cs.map (·.1)).map D.adr:=by rw[Wa9];rfl
  rw[this]at rs;rw[Zjb rs,<- e2,Wa9];rfl
 subst ea;have ha1:H1 acc=some (.lst (cs'.map λc=>V.ref c.1)):=k1.live _ _ ga;have hc1:∀c∈cs',H1 c.1=some (.lst (c.2.map V.int))/\H c.1=none/\c.1≠acc:=λc hc=>by
  obtain⟨q1,q2,q3,_⟩:=hcs _ (e3 c hc);exact⟨q1,q3,λz=>by have q2:G1 c.1=none:=q2;rw[z,ga]at q2;cases q2⟩
 have hsl:σ.length = Δ.length:=k.len.symm
 -- the first argument
 have kk:Ok K ⟨λ_=>False,G,H1,λ_=>none⟩ G H1 (σ.set i (some (.ref acc))) ((Δ.map onlyV).set i .any):=by
  have no:∀(q:Nat) x od,((Δ.map onlyV).set i .any)[q]?=some x->x.od=some od->False:=λq x od f1 f2=>by
   by_cases hq:q=i
   ·subst hq
    rw[Wad (by rw[Waa];exact hi)]at f1;cases f1;cases f2
   ·rw[Wae (Ne.symm hq)]at f1;exact Zgz f1 f2
  refine⟨λb o _ e=>e,λb h=>h.elim,Same.refl _,λb o e=>⟨sh1 b o (k.live b o e),.inr e⟩,λb o e=>(nomatch (show (none:Option HO)=some o from e)),by rw[Wa1,Wa1,Waa];exact k.len,λq d f1=>?_,λq x od f1 f2=>(no q x od f1 f2).elim,λq q' x y od od' a f1 f2=>(no q x od f1 f2).elim⟩;by_cases hq:q=i
  ·subst hq
   rw[Wad (by rw[Waa];exact hi)]at f1;cases f1
  ·rw[Wae (Ne.symm hq)]at f1
   obtain⟨v,w1,w2⟩:=k.val q d (Zhd f1);exact⟨v,by rw[Wae (Ne.symm hq)];exact w1,w2⟩
 refine hta _ G H1 _ _ kk λv0 d G2 H2 Δ2 k2 s2 r0 ed=>?_;obtain rfl:=ed.symm;have sh2:Same H1 H2:=λb o e=>k2.same b o (λz=>z) e;have i2:i<(σ.set i (some (V.ref acc))).length:=by rw[Wa1,hsl];exact hi
 have si:(σ.set i (some (V.ref acc)))[i]?=some (some (.ref acc)):=Wad (by rw[hsl];exact hi);have ha2:=sh2 _ _ ha1;have g2n:∀b,H b=none->H1 b≠none->G2 b=none:=λb q1 q2=>by
  cases e:G2 b with
  |none=>rfl
  |some u=>
   rcases(k2.frz b u e).2 with z|z
   ·exact absurd z q2
   ·rw[k.live b u z]at q1;cases q1
 refine⟨.ref acc,si,shown G2 H2 acc cs',[d0,.lst (rows.map lstZ)],_,λb o e=>?_,.cons (r0.mono λb o e=>?_) (.cons ?_ .nil),hf,λr H3 d sh3 rr ed=>?_⟩
 ·unfold shown at e
  by_cases hb:b=acc\/b∈cs'.map (·.1)
  ·rw[if_pos hb]at e;exact e
  ·rw[if_neg hb]at e;exact k2.live b o e
 ·unfold shown
  rw[if_neg]
  ·exact e
  ·intro hb
   have:G2 b=none:=by
    rcases hb with z|z
    ·subst z;exact g2n b hacc (by rw[ha1];simp)
    ·obtain⟨c,hc,rfl⟩:=Was.mp z
     exact g2n _ (hc1 c hc).2.1 (by rw[(hc1 c hc).1];simp)
   rw[this]at e;cases e
 ·have:=Zkt (K:=K) (G:=G2) ha2 (λc hc=>sh2 _ _ (hc1 c hc).1)
  rw[e1]at this;exact this
 obtain rfl:=ed.symm;have ha3:=sh3 _ _ ha2;have hc3:∀c∈cs',H3 c.1=some (.lst (c.2.map V.int)):=λc hc=>sh3 _ _ (sh2 _ _ (hc1 c hc).1);have sh:Same H H3:=sh1.trans (sh2.trans sh3);have si3:((σ.set i (some (V.ref acc))).set j (some r))[i]?=some (some (.ref acc)):=by rw[Wae (Ne.symm hij)];exact si
 have len3:((σ.set i (some (V.ref acc))).set j (some r)).length = Δ.length:=by rw[Wa1,Wa1,hsl]
 -- the loop
 refine .inl ⟨.ref acc,si3,acc,rfl,⟨_,SqL.of ha3⟩,λq m σ' H'=>m=cs'.length-q/\q<=cs'.length/\(∀b,b ∉ cs'.map (·.1)->H' b=H3 b)/\(∀c∈cs',∃ys,H' c.1=some (.lst ys)/\ys.length<=c.2.length+q) /\ σ'.length = Δ.length/\∀q,q≠l -> σ'[q]?=((σ.set i (some (V.ref acc))).set j (some r))[q]?,⟨_,rfl,Wbt _,λb _=>rfl,λc hc=>⟨_,hc3 c hc,by rw[Waa];exact Wak _⟩,len3,λq _=>rfl⟩,?_⟩;rintro q m σ' H' ⟨rfl,hq,off,on,ln,sl⟩;have nac:acc ∉ cs'.map (·.1):=λz=>by
  obtain⟨c,hc,e⟩:=Was.mp z;exact(hc1 c hc).2.2 e
 have ha':H' acc=some (.lst (cs'.map λc=>V.ref c.1)):=(off acc nac).trans ha3;by_cases hlt:q<cs'.length
 ·refine .inr ⟨⟨_,.ref (cs'[q]).1,SqL.of ha',by rw[Waj,Wab hlt];rfl⟩,λσ2 H2'=>q+1<=cs'.length/\(∀b,b ∉ cs'.map (·.1)->H2' b=H3 b)/\(∀c∈cs',∃ys,H2' c.1=some (.lst ys)/\ys.length<=c.2.length+(q+1)) /\ σ2.length = Δ.length/\∀q,q≠l -> σ2[q]?=((σ.set i (some (V.ref acc))).set j (some r))[q]?,λσ2 H2' hh=>⟨_,by omega,rfl,hh⟩,λx Hx hx=>?_⟩
  obtain⟨eH,hx⟩:=hx;subst eH;have ex:=hx _ (SqL.of ha');rw[Waj,Wab hlt]at ex;cases ex;have mc:cs'[q]∈cs':=Wbc hlt;obtain⟨ys,hy,hyl⟩:=on _ mc;have zl:=hz (cs'[q]).2 (by rw[<- e1];exact Was.mpr ⟨_,mc,rfl⟩);have rl:rows.length=cs'.length:=by rw[<- e1,Waa]
  refine⟨.ref (cs'[q]).1,Wad (by rw[ln];exact hl),.inl ⟨rfl,_,SqL.of hy⟩,(cs'[q]).1,ys,.int 0,rfl,rfl,hy,by omega,hlt,λb hb=>?_,λc hc=>?_,by rw[Wa1];exact ln,λq' hq'=>by rw[Wae (Ne.symm hq')];exact sl q' hq'⟩
  ·rw[Zal λz=>hb (by rw[z];exact Was.mpr ⟨_,mc,rfl⟩)];exact off b hb
  ·by_cases hcc:c.1=(cs'[q]).1
   ·rw[hcc,Zan]
    refine⟨_,rfl,?_⟩;obtain⟨ys2,hy2,hyl2⟩:=on c hc;rw[hcc,hy]at hy2;cases hy2;rw[Wag,Wb7];omega
   ·rw[Zal hcc]
    obtain⟨ys2,hy2,hyl2⟩:=on c hc;exact⟨ys2,hy2,by omega⟩
 ·refine .inl ⟨⟨_,SqL.of ha',by rw[Waa];omega⟩,?_⟩
  refine⟨.ref acc,(sl i hil).trans si3,.inl ⟨rfl,_,SqL.of ha'⟩,acc,_,rfl,rfl,ha',?_⟩
  -- the state behind
  refine h g (λb=>match H b with|some _=>G b|none=>match H3 b with|some (.tup vs)=>some (.tup vs)|_=>none) _ σ' Dd ?_ c;have Hf:∀b o,H b=some o->upd H' acc (.lst []) b=some o:=λb o e=>by
   have nb:b ∉ cs'.map (·.1):=λz=>by
    obtain⟨c,hc,rfl⟩:=Was.mp z;rw[(hc1 c hc).2.1]at e;cases e
   rw[Zal (Zao e hacc),off b nb];exact sh b o e
  have Gs:Same G (λb=>match H b with|some _=>G b|none=>match H3 b with|some (.tup vs)=>some (.tup vs)|_=>none):=λb o e=>by
   show (match H b with|some _=>G b|none=>_)=_;rw[k.live b o e];exact e
  have Go:∀b o,H b=some o->(match H b with|some _=>G b|none=>match H3 b with|some (.tup vs)=>some (.tup vs)|_=>none)=G b:=λb o e=>by rw[e]
  have old:∀(q:Nat) x,(((Δ.set i .any).set j (.val dr)).set l .any)[q]?=some x->x≠.any->x≠.val dr -> Δ[q]?=some x /\ σ'[q]? = σ[q]?:=λq x e n1 n2=>by
   have ql:q≠l:=λz=>by
    subst z;rw[Wad (by simpa using hl)]at e;cases e;exact n1 rfl
   rw[Wae (Ne.symm ql)]at e;have qj:q≠j:=λz=>by
    subst z;rw[Wad (by simpa using hj)]at e;cases e;exact n2 rfl
   rw[Wae (Ne.symm qj)]at e;have qi:q≠i:=λz=>by
    subst z;rw[Wad hi]at e;cases e;exact n1 rfl
   rw[Wae (Ne.symm qi)]at e;exact⟨e,by rw[sl q ql,Wae (Ne.symm qj),Wae (Ne.symm qi)]⟩
  have od1:∀(x:Slot) o,x.od=some o->x≠.any/\x≠.val dr:=λx o e=>⟨λz=>(by subst z;cases e),λz=>(by subst z;cases e)⟩;refine⟨λb o hb e=>Hf b o (k.same b o hb e),λb hb z=>?_,k.sub.trans Gs,λb o e=>?_,λb o e=>?_,by simp[ln],λq d e=>?_,λq x od f1 f2=>?_,λq q' x y od od' a f1 f2 f3 f4 f5 f6=>?_⟩
  ·cases e:H b with
   |none=>exact k.lent b hb e
   |some o=>rw[Hf b o e]at z;cases z
  ·cases eb:H b with
   |some u=>
    have e:G b=some o:=(Go b u eb).symm.trans e;obtain⟨w1,w2⟩:=k.frz b o e;exact⟨Hf b o w1,w2⟩
   |none=>
    have e:(match H b with|some _=>G b|none=>match H3 b with|some (.tup vs)=>some (.tup vs)|_=>none)=some o:=e;rw[eb]at e;dsimp only at e;split at e
    ·rename_i vs e4
     cases e;refine⟨?_,.inl (k.there eb)⟩;have nb:b ∉ cs'.map (·.1):=λz=>by
      obtain⟨c,hc,rfl⟩:=Was.mp z;rw[hc3 c hc]at e4;cases e4
     rw[Zal (λz=>by rw[z,ha3]at e4;cases e4),off b nb];exact e4
    ·cases e
  ·obtain⟨w1,w2,w3⟩:=k.ext b o e
   refine⟨Hf b o w1,(Go b o w1).trans w2,λq x od f1 f2=>?_⟩;obtain⟨o1,o2⟩:=old q x f1 (od1 x od f2).1 (od1 x od f2).2;rw[o2];exact w3 q x od o1 f2
  ·by_cases qj:q=j
   ·subst qj
    rw[Wae (Ne.symm hjl),Wad (by simpa using hj)]at e;cases e;refine⟨r,by rw[sl q hjl,Wad (by rw[Wa1,hsl];exact hj)],rr.tonly (λb vs e=>?_) ht⟩;show (match H b with|some _=>G b|none=>match H3 b with|some (.tup vs)=>some (.tup vs)|_=>none)=_;cases e4:H2 b with
    |none=>
     rw[Zcb e4]at e;have:H b=none:=by
      cases z:H b with
      |none=>rfl
      |some u=>have:=sh2 _ _ (sh1 _ _ z);rw[e4]at this;cases this
     rw[this,e]
    |some u=>
     rw[Zb1 e4]at e;unfold shown at e;by_cases hb:b=acc\/b∈cs'.map (·.1)
     ·rw[if_pos hb]at e
      rcases hb with z|z
      ·rw[z,ha2]at e;cases e
      ·obtain⟨c,hc,rfl⟩:=Was.mp z
       rw[sh2 _ _ (hc1 c hc).1]at e;cases e
     ·rw[if_neg hb]at e
      obtain⟨w1,w2⟩:=k2.frz b _ e;rcases w2 with z|z
      ·have:H b=none:=by
        cases z2:H b with
        |none=>rfl
        |some u=>have z:H1 b=none:=z;rw[sh1 _ _ z2]at z;cases z
       rw[this,sh3 _ _ w1]
      ·have z:G b=some (.tup vs):=z
       rw[k.live _ _ z];exact z
   ·obtain⟨o1,o2⟩:Δ[q]?=some (.val d) /\ σ'[q]? = σ[q]?:=by
     have ql:q≠l:=λz=>by
      subst z;rw[Wad (by simpa using hl)]at e;cases e
     rw[Wae (Ne.symm ql),Wae (Ne.symm qj)]at e;have qi:q≠i:=λz=>by
      subst z;rw[Wad hi]at e;cases e
     rw[Wae (Ne.symm qi)]at e;exact⟨e,by rw[sl q ql,Wae (Ne.symm qj),Wae (Ne.symm qi)]⟩
    obtain⟨v,w1,w2⟩:=k.val q d o1;exact⟨v,o2.trans w1,w2.mono Gs⟩
  ·obtain⟨o1,o2⟩:=old q x f1 (od1 x od f2).1 (od1 x od f2).2
   obtain⟨a,o,w1,w2,w3,w4,w5⟩:=k.own q x od o1 f2;exact⟨a,o,o2.trans w1,Hf a o w2,w3.mono Gs,(Go a o w2).trans w4,w5⟩
  ·obtain⟨o1,o2⟩:=old q x f1 (od1 x od f2).1 (od1 x od f2).2
   obtain⟨o3,o4⟩:=old q' y f3 (od1 y od' f4).1 (od1 y od' f4).2;exact k.dis q q' x y od od' a o1 f2 o3 f4 (o2.symm.trans f5) (o4.symm.trans f6)
end
def d1T (k:Int) (ns:List Int):D:=.dct [.inl k] [.tup (ns.map .int)]
def rReprD (K:W.Frag):List V->Hp->VK->Prop:=λxs H Q=>∃(G:Hp) (a:Addr) (k:Int) (ns:List Int),xs=[.ref a]/\Same G H/\Rep K G (.ref a) (d1T k ns)/\k.natAbs.log2<1920/\D.shws (ns.map .int)=true/\(d1T k ns).pd.depth<=20/\(d1T k ns).pd.shown.length<=sizeLine/\Q (.str (d1T k ns).pd.shown) H
theorem Zlg (x y:Str):x.length<=(dictText [x ++ ": " ++ y]).length/\y.length<=(dictText [x ++ ": " ++ y]).length:=by
 have e:dictText [x ++ ": " ++ y]=("{":Str)++(x ++ ": " ++ y) ++ "}":=rfl;rw[e,strLen_append,strLen_append,strLen_append,strLen_append];omega
section
variable {X:Cx}
theorem reprDK (K:W.Frag) (hg:X.A.guards=some []) (hu:X.A.units+30<cLine) (hK:X.K=K:=by rfl):CallR X (.builtin "repr") (rReprD K):=by
 subst hK;intro pins s σ H xs us Q I r h;obtain⟨G,a,k,ns,rfl,sg,rep,hk,hns,dp,sz,q⟩:=h;obtain⟨u,rfl,ru⟩:=vals1 r;cases (show u=Value.ref a from ru);cases rep with
 |@dct _ _ vs _ e l rs=>
  obtain⟨v,vs',rfl,rv,rt⟩:=rs.inv;cases rt.inv;obtain⟨_,hS,kvs,rk,o,es,ep,ho,hc,hd,_,hp,_⟩:=Zk4 I.hok (sg _ _ e);cases rk with
  |@cons _ kv _ _ h1 h2=>
   cases h2;obtain⟨hk1,hv1⟩:=h1;generalize hes:es.toList=esl at hp;cases hp with
   |@cons en _ _ _ q1 q2 q3=>
    cases q3;have q1:keyIs kv.1 en.key=true:=q1;rw[<- hk1]at q1;obtain⟨t2,hk2⟩:∃t,en.key=.int k t:=Value.isInt_shape (k:=k) (v:=en.key) q1;have szk:=Zlg (PyData.int k).shown (D.pd (.tup (ns.map .int))).shown;have sz':(dictText [(PyData.int k).shown ++ ": " ++ (D.pd (.tup (ns.map .int))).shown]).length<=sizeLine:=sz;have rK:Reads s.heap en.key (.int k) []:=by rw[hk2];exact .int k t2
    obtain⟨b1,hb1,k1⟩:=ReprK.of_reads (prog:=X.prog) (w:=X.w) rK (decide_eq_true hk) (λz=>nomatch (show false=true from z)) (Wat szk.1 sz');obtain⟨⟨as2,r2⟩,b2,hb2,k2⟩:=Ziw (P:=X.prog) (w:=X.w) (K:=X.K) I.hok sg rv (.inl (.inl (show D.shw (.tup (ns.map .int))=true from hns))) (show RelV v en.val by rw[q2];exact hv1) (Wat szk.2 sz');have rd:Reads s.heap (.ref a) (d1T k ns).pd _:=.dict ho hc.1 hd (by rw[hes];exact .cons rK .nil) (by rw[hes];exact .cons r2 .nil);have hd1:(PyData.int k).depth<=(D.pd (.tup (ns.map .int))).depth:=Wbt _;have hna:a ∉ b1++b2:=not_mem_of_deeper (n:=(D.pd (.tup (ns.map .int))).depth) rd (by
     show _<Wdb (Wdb (PyData.int k).depth (D.pd (.tup (ns.map .int))).depth) 0+1;have:(D.pd (.tup (ns.map .int))).depth<=Wdb (Wdb (PyData.int k).depth (D.pd (.tup (ns.map .int))).depth) 0:=Wat (Wcw _ _) (Wc0 _ _);omega) λb hm=>by
     rcases Wa0.mp hm with hm|hm
     ·obtain⟨d',as',r',hd'⟩:=hb1 b hm
      exact⟨d',as',r',Wat hd' hd1⟩
     ·exact hb2 b hm
    have ent:ReprEntriesK X.prog X.w (b1++b2) s.heap (D.pd (.tup (ns.map .int))).depth es.toList [(PyData.int k).shown ++ ": " ++ (D.pd (.tup (ns.map .int))).shown]:=by
     rw[hes];exact .cons ((k1.more λb hb=>Wb3 _ hb).level_le hd1) (k2.more λb hb=>Waw _ hb) .nil
    have hs2:(a == sysModules)=false:=by
     cases z:a == sysModules with
     |false=>rfl
     |true=>rw[z]at hS;exact absurd hS (by decide)
    have dp2:(D.pd (.tup (ns.map .int))).depth<=19:=by
     have:(D.pd (.tup (ns.map .int))).depth<=Wdb (Wdb (PyData.int k).depth (D.pd (.tup (ns.map .int))).depth) 0:=Wat (Wcw _ _) (Wc0 _ _);have dp:Wdb (Wdb (PyData.int k).depth (D.pd (.tup (ns.map .int))).depth) 0+1<=20:=dp;omega
    refine call_repr_slot (by omega) ⟨o,ho,hc.1⟩ F.slot_dict_repr ?_;exact call_dict_reprK ho hc.1 hd hs2 hna ent (g:=[]) hg (λb _=>Clear.nil b) (by show X.A.units+1+_<cLine;omega) (λ_ _ e=>e) (λh' t tk hk2=>⟨_,_,rfl,.str _,H,I.kept hk2,⟨_,rfl⟩,q⟩) sz'
theorem reprWK (K:W.Frag) (hg:X.A.guards=some []) (hu:X.A.units+30<cLine) (hK:X.K=K:=by rfl):CallR X (.builtin "repr") (λxs H Q=>(rRepr K xs H Q\/rReprLV K xs H Q\/rReprTV K xs H Q)\/rReprD K xs H Q):=CallR.or (reprVK K hg hu hK) (reprDK K hg hu hK)
end
section
variable {K:W.Frag}{Δ:Evt}{P:D->Evt->Prop}
def RepW (d:D):Prop:=RepV d\/∃k ns,d=d1T k ns/\k.natAbs.log2<1920/\D.shws (ns.map .int)=true/\d.pd.depth<=20/\d.pd.shown.length<=sizeLine
theorem Ze5 {d:D}(h:RepW d) (p:P (.str d.pd.shown) Δ):JC K (λxs H Q=>(rRepr K xs H Q\/rReprLV K xs H Q\/rReprTV K xs H Q)\/rReprD K xs H Q) [d] Δ P:=λg G H σ Q vs k rs c=>by
 rcases h with h|⟨i,ns,rfl,h1,h2,h3,h4⟩
 ·exact .inl (Zot h p g G H σ Q vs k rs c)
 ·obtain⟨_,_,rfl,r,t⟩:=rs.inv
  cases t.inv;have r2:=r;obtain⟨a,us,rfl,ha,_⟩:=r2.inv;exact .inr ⟨G,_,i,ns,rfl,k.live,r,h1,h2,h3,h4,c _ _ G H Δ k (Same.refl _) (.str _) p⟩
end
theorem Ztx {X:Cx}{i:Int}{a} {p pos:Pos}{e:Expr}{te:TE}(h:PE X e te):PE X (Expr.Dict [some (Expr.Constant (Const.int i) a p)] [e] pos) (tDisp [(tC (.int i),te)]):=Zlz (Zjj Zai h Zk3) rfl rfl (List.cons_ne_nil _ _) (by show 1<=15;decide)
section
variable {K:W.Frag}{Δ:Evt}{P:D->Evt->Prop}
theorem Zt7 {te:TE}{i:Int}{Po:OD->Evt->Prop}(h:JE K te Δ λd Δ1=>Po (.dct [(.inl i,d)]) Δ1):JO K (tDisp [(tC (.int i),te)]) Δ Po:=λg G H σ Q k c p hp=>by
 obtain⟨k2,pd⟩:=k.fresh (od:=.dct []) hp (show OwnRep K G (.dK []) (.dct []) from .nil);obtain⟨o,p1,p2,p3,p4,p5,p6⟩:=pd;have k3:Ok K ⟨g.B,g.F,g.Hz,λb=>if b=p then some (.dK []) else g.Xo b⟩ G (upd H p (.dK [])) σ Δ:=⟨k2.same,k2.lent,k2.sub,k2.frz,λb u e=>by
  have e:(if b=p then some (HO.dK []) else g.Xo b)=some u:=e;by_cases hb:b=p
  ·rw[if_pos hb]at e;cases e;subst hb;exact⟨Zan,p3,p6⟩
  ·rw[if_neg hb]at e;exact k2.ext b u e,k2.len,k2.val,k2.own,k2.dis⟩
 refine h _ G _ σ _ k3 λv d G1 H1 Δ1 k4 s1 r1 q=>?_;obtain⟨x1,x2,x3⟩:=k4.ext p (.dK []) (by show (if p=p then _ else _)=_;rw[if_pos rfl]);have nz:∀{b:Addr}{u:HO},G1 b=some u->b≠p:=λ{b u} e z=>by subst z;rw[x2]at e;cases e
 have k5:Ok K g G1 (upd H1 p (.dK [(.inl i,v)])) σ Δ1:=by
  refine⟨λb u hb e=>?_,λb hb=>?_,k4.sub,λb u e=>?_,λb u e=>?_,k4.len,k4.val,λa x od e1 e2=>?_,k4.dis⟩
  ·have:b≠p:=λz=>by subst z;rw[p4]at e;cases e
   rw[Zal this];exact k4.same b u hb e
  ·by_cases z:b=p
   ·subst z;rw[Zan];exact λy=>nomatch y
   ·rw[Zal z];exact k4.lent b hb
  ·rw[Zal (nz e)];exact k4.frz b u e
  ·have:b≠p:=λz=>by subst z;rw[p5]at e;cases e
   rw[Zal this];exact k4.ext b u (by show (if b=p then _ else _)=_;rw[if_neg this];exact e)
  ·obtain⟨c1,o1,w1,w2,w3,w4,w5⟩:=k4.own a x od e1 e2
   have:c1≠p:=λz=>by subst z;exact x3 a x od e1 e2 w1
   exact⟨c1,o1,w1,by rw[Zal this];exact w2,w3,w4,w5⟩
 refine⟨x1,[(.inl i,v)],rfl,by show 1<=15;decide,?_⟩;exact c p _ G1 _ Δ1 k5 s1 ⟨_,Zan,show OwnRep K G1 (.dK [(.inl i,v)]) (.dct [(.inl i,d)]) from .cons ⟨rfl,r1⟩ .nil,x2,p4,p5,x3⟩ q
theorem Zt6 {te:TE}{i:Int}{d:D}(h:PV K te Δ d):PV K (tDisp [(tC (.int i),te)]) Δ (.dct [.inl i] [d]):=λP p=>Zmf (Zt7 (h _ ⟨[(.inl i,d)],rfl,p⟩))
end
theorem Zhk {f:Expr}{as:List Expr}{ks:List Keyword}{p:Pos}{es:List Expr}{env:Env}:starEach (Expr.Call f as ks p::es) env=(false,eval (Expr.Call f as ks p) env)::starEach es env:=rfl
theorem Zhq {x:Str}{p:Pos}{es:List Expr}{env:Env}:starEach (Expr.Name x p::es) env=(false,eval (Expr.Name x p) env)::starEach es env:=rfl
theorem Ze1 {a b:Expr}{p:Pos}{es:List Expr}{env:Env}:starEach (Expr.Subscript a b p::es) env=(false,eval (Expr.Subscript a b p) env)::starEach es env:=rfl
section
variable {K:W.Frag}{Δ:Evt}{P:D->Evt->Prop}
end
open PySem PySem.Spec PyProof.Rows PySem.SeqAt
def rNeIL (K:W.Frag):R2:=λx y H Q=>∃(a b:Addr) (ns ms:List Int),x=.ref a/\y=.ref b/\SqL K H a (ns.map V.int)/\SqL K H b (ms.map V.int)/\Q (.bl (!decide (ns=ms))) H
theorem Zn8 {ns ms:List Int}(h:ns.length=ms.length):((Wbx ns.length).all λj=>ns.getD j 0 == ms.getD j 0)=decide (ns=ms):=by
 rw[Wch,Wba,decide_eq_true_eq];constructor
 ·intro z
  refine List.ext_getElem h λi h1 h2=>?_;have:=z i (Wb9.mpr h1);rw[Wa2,Wa2,Wab h1,Wab h2]at this;exact eq_of_beq this
 ·rintro rfl j _
  exact beq_self_eq_true _
section
variable {X:Cx}
theorem neILK (K:W.Frag) (hv:X.A.units+8<cLine) (hK:X.K=K:=by rfl):OpR X (compareOp .NotEq) (rNeIL K):=by
 subst hK;intro pins s σ H x y v u Q I rx ry h;obtain⟨a,b,ns,ms,rfl,rfl,ha,hb,q⟩:=h;cases rx;cases ry;obtain⟨its,w1,p1,_⟩:=I.list ha;obtain⟨its2,w2,p2,_⟩:=I.list hb;have i1:=Zc2 w1;have i2:=Zc2 w2;have l1:=i1.length;have l2:=i2.length;by_cases hl:ns.length=ms.length
 ·have hsz:its.toArray.size=its2.toArray.size:=by rw[Waf,Waf];omega
  refine RcNeAt.lists (A:=X.A) (s:=s) (e:=λj=>ns.getD j 0 == ms.getD j 0) p1.isList p2.isList hsz (by omega) (λj h1 h2=>?_) X.prog X.w _ _ ?_
  ·rw[Waf]at h1 h2
   obtain⟨t1,e1⟩:=intsAt i1 j h1;obtain⟨t2,e2⟩:=intsAt i2 j h2;rw[Wbk,Wbk,e1,e2];exact EqAt.int_int (A:=X.A.in1) (s:=s) (ns.getD j 0) t1 (ms.getD j 0) t2
  ·rw[Waf,show its.length=ns.length by omega,Zn8 hl]
   exact⟨.bl _,H,I,rfl,q⟩
 ·have hne:(its.toArray.size != its2.toArray.size)=true:=by
   rw[Waf,Waf,bne_iff_ne];omega
  refine RcNeAt.lists_lengths (A:=X.A) (s:=s) p1.isList p2.isList hne (by omega) X.prog X.w _ _ ?_;rw[decide_eq_false (λz=>hl (by rw[z]))]at q;exact⟨.bl _,H,I,rfl,q⟩
theorem sortUK (K:W.Frag) (hK:X.K=K:=by rfl):CallR X (.builtin "sorted") (λxs H Q=>rSortI K xs H Q\/rSortT K xs H Q):=CallR.or (sortIK K hK) (sortTK K hK)
end
section
variable {K:W.Frag}{Δ:Evt}
theorem Zmg {P:D->Evt->Prop}{ns ms:List Int}(p:P (.bl (!decide (ns=ms))) Δ):JR2 K (rNeIL K) (.lst (ns.map .int)) (.lst (ms.map .int)) Δ P:=λg G H σ Q x y k rx ry c=>by
 obtain⟨a,vs,rfl,ha,rs⟩:=rx.inv;obtain⟨b,us,rfl,hb,rt⟩:=ry.inv;have e1:=rs.ints;have e2:=rt.ints;subst e1 e2;exact⟨a,b,ns,ms,rfl,rfl,SqL.of (k.live _ _ ha),SqL.of (k.live _ _ hb),c _ _ G H Δ k (Same.refl _) (.bl _) p⟩
theorem Zji {ta:TA}{Po:OD->Evt->Prop}(h:JA K ta Δ λds Δ1=>∃ns:List Int,(ds=[.lst (ns.map .int)]\/ds=[.tup (ns.map .int)])/\ns.length<64/\∀ms:List Int,ms.Perm ns->ms.Pairwise (· <= ·)->Po (.lst (ms.map .int)) Δ1):JO K (tCB (λxs H Q=>rSortI K xs H Q\/rSortT K xs H Q) ta) Δ Po:=λg G H σ Q k c=>
 h g G H σ _ k λvs ds G1 H1 Δ1 k1 s1 r1 hq_=>by
  obtain⟨ns,e,hl,p⟩:=hq_;have fin:∀(l:Addr) (ms:List Int),ms.Perm ns->ms.Pairwise (· <= ·)->H1 l=none->Q (.ref l) (upd H1 l (.lst (ms.map V.int))):=λl ms o1 o2 hl=>by
   obtain⟨k2,pd⟩:=k1.fresh (od:=.lst (ms.map .int)) hl (show OwnRep K G1 (.lst (ms.map V.int)) (.lst (ms.map .int)) from Reps.ofInts ms);exact c l _ G1 _ Δ1 k2 s1 pd (p ms o1 o2)
  rcases e with e|e
  ·subst e
   obtain⟨_,_,rfl,r,t⟩:=r1.inv;cases t.inv;obtain⟨a,us,rfl,ha,rr⟩:=r.inv;have ev:=rr.ints;subst ev;exact .inl ⟨a,ns,rfl,SqL.of (k1.live _ _ ha),hl,fin⟩
  ·subst e
   obtain⟨_,_,rfl,r,t⟩:=r1.inv;cases t.inv;obtain⟨a,us,rfl,ha,rr⟩:=r.inv;have ev:=rr.ints;subst ev;exact .inr ⟨a,ns,rfl,SqT.of (k1.live _ _ ha),hl,fin⟩
theorem Zjo {n j0:Nat}{a:Addr}{te:TE}{ds0:List D}{P:D->Evt->Prop}(hx:Δ[n]?=some (.val (.adr a))) (hj0:Δ[j0]?=some (.ownA a (.lst ds0)))
  (h:JE K te Δ λe Δ1=>∃j ds,∃m:Nat,∃d,Δ1[j]?=some (.ownA a (.lst ds))/\e=.int m/\ds[m]?=some d/\ds.length<=1000/\P d (Δ1.set j (.ownA a (.lst (ds.eraseIdx m))))) :
  JE K (tBM K "list" rPopAt (tVar n) (tCons te tNil)) Δ P:=λg G H σ Q k c=>by
 obtain⟨v,h1,h2⟩:=k.val n _ hx;cases h2;obtain⟨a',o,w1,w2,w3,w4,w5⟩:=k.own j0 _ _ hj0 rfl;obtain⟨rfl,_⟩:=w5;cases o with
 |lst vs0=>
  refine⟨_,h1,.inl ⟨rfl,_,SqL.of w2⟩,h g G H σ _ k λv e G1 H1 Δ1 k1 s1 r1 ⟨j,ds,m,d,q1,q3,q4,q5,p⟩=>?_⟩;subst q3;cases r1.inv;obtain⟨a2,o2,u1,u2,u3,u4,u5⟩:=k1.own j _ _ q1 rfl;obtain⟨rfl,_⟩:=u5;cases o2 with
  |lst vs=>
   have u3:Reps K G1 vs ds:=u3;obtain⟨u,z1,z2⟩:=u3.get q4;have hj:m<vs.length:=(Wah.mp z1).1;have hl:=u3.length;exact⟨_,vs,m,m,u,rfl,rfl,u2,by omega,by omega,Zms hj,z1,c u d G1 _ _ (k1.write q1 rfl u1 (show OwnRep K G1 (.lst (vs.eraseIdx m)) (.lst (ds.eraseIdx m)) from u3.eraseIdx m)) s1 z2 p⟩
  |_=>exact absurd u3 (λz=>z)
 |_=>exact absurd w3 (λz=>z)
theorem Zj0 {n:Nat}{ti:TE}{d:D}{P:Evt->Prop}(hx:∃x od,Δ[n]?=some x/\x.od=some od) (h:JE K ti Δ λe Δ2=>∃x ds i j,Δ2[n]?=some x/\x.od=some (.lst ds)/\e=.int i/\ixN ds.length i=some j/\P (Δ2.set n (x.put (.lst (ds.set j d))))) :
  JG K (gSub (tVar n) ti rSetU) d Δ P:=λg G H σ v R k r c=>by
 obtain⟨x,od,hx,ho⟩:=hx;obtain⟨a,o,h1,h2,h3,h4,h5⟩:=k.own n x _ hx ho;refine⟨.ref a,h1,h g G H σ _ k λu e G2 H2 Δ2 k2 s2 r2 ⟨y,ds,i,j,q1,q2,q3,q4,p⟩=>?_⟩;subst q3;cases r2.inv;obtain⟨a',o',w1,w2,w3,w4,w5⟩:=k2.own n y _ q1 q2;rw[h1]at w1;cases w1;cases o' with
 |lst vs=>
  have w3:Reps K G2 vs ds:=w3;exact .inl ⟨a,vs,i,j,rfl,rfl,w2,by rw[w3.length];exact q4,c σ G2 _ _ (k2.write q1 q2 h1 (show OwnRep K G2 (.lst (vs.set j v)) (.lst (ds.set j d)) from w3.set j (r.mono s2))) s2 p⟩
 |_=>exact absurd w3 (λz=>z)
end
end L2
set_option Elab.async false
set_option linter.all false
set_option maxRecDepth 100000
set_option maxHeartbeats 4000000
namespace Lw
open PySem L2
def top (i:Nat):Stmt:=PySem.Challenge.pw_holefloor_k05_orders_made.main.body.getD i (.Pass ⟨0,0,0,0⟩)
abbrev s_is_whole:Stmt:=top 18
abbrev s_is_row:Stmt:=top 19
abbrev s_ends_at:Stmt:=top 21
abbrev s_place_of:Stmt:=top 22
abbrev s_order_of:Stmt:=top 24
abbrev s_row_of:Stmt:=top 25
abbrev s_least_first:Stmt:=top 26
abbrev s_law_pen:Stmt:=top 28
abbrev s_law_draw:Stmt:=top 29
abbrev s_law_web:Stmt:=top 30
abbrev s_law_order:Stmt:=top 31
abbrev s_law_word:Stmt:=top 32
abbrev s_law_told:Stmt:=top 33
abbrev s_law_same:Stmt:=top 34
abbrev s_law_turned:Stmt:=top 35
abbrev s_law_wrong:Stmt:=top 36
abbrev s_law_mixed:Stmt:=top 37
abbrev s_law_spoiled:Stmt:=top 38
abbrev s_law:Stmt:=top 39
theorem sc_is_whole:FnScope ["thing"] ["thing"] (defScope s_is_whole):=⟨rfl,rfl,rfl,by decide +kernel,rfl,by decide +kernel,by decide +kernel⟩
theorem sc_is_row:FnScope ["thing"] ["thing"] (defScope s_is_row):=⟨rfl,rfl,rfl,by decide +kernel,rfl,by decide +kernel,by decide +kernel⟩
theorem sc_ends_at:FnScope ["web","place"] ["web","place"] (defScope s_ends_at):=⟨rfl,rfl,rfl,by decide +kernel,rfl,by decide +kernel,by decide +kernel⟩
theorem sc_place_of:FnScope ["web","end"] ["web","end"] (defScope s_place_of):=⟨rfl,rfl,rfl,by decide +kernel,rfl,by decide +kernel,by decide +kernel⟩
theorem sc_order_of:FnScope ["web","rows"] ["web","rows"] (defScope s_order_of):=⟨rfl,rfl,rfl,by decide +kernel,rfl,by decide +kernel,by decide +kernel⟩
theorem sc_row_of:FnScope ["ends","row"] ["ends","row"] (defScope s_row_of):=⟨rfl,rfl,rfl,by decide +kernel,rfl,by decide +kernel,by decide +kernel⟩
theorem sc_least_first:FnScope ["ends","at"] ["ends"] (defScope s_least_first):=⟨rfl,rfl,rfl,by decide +kernel,rfl,by decide +kernel,by decide +kernel⟩
theorem sc_law_pen:FnScope ["_law_script"] ["_law_script"] (defScope s_law_pen):=⟨rfl,rfl,rfl,by decide +kernel,rfl,by decide +kernel,by decide +kernel⟩
theorem sc_law_draw:FnScope ["_law_pen_here","_law_many","_law_digit","_law_at","_law_cell","_law_number"] ["_law_pen_here","_law_many"] (defScope s_law_draw):=⟨rfl,rfl,rfl,by decide +kernel,rfl,by decide +kernel,by decide +kernel⟩
theorem sc_law_web:FnScope ["_law_pen_here","_law_places","_law_ties","_law_many","_law_way","_law_count","_law_found","_law_k","_law_a","_law_b"] ["_law_pen_here","_law_places","_law_ties"] (defScope s_law_web):=⟨rfl,rfl,rfl,by decide +kernel,rfl,by decide +kernel,by decide +kernel⟩
theorem sc_law_order:FnScope ["_law_pen_here","_law_web_here","_law_rows","_law_k","_law_row","!0","!1","!2","!3","!4","!5","!6","!7","!8","!9","!10","!11","!12","!13","!14","!15","!16","!17","!18","!19","!20","!21","!22","!23","!24"] ["_law_pen_here","_law_web_here"] (defScope s_law_order):=⟨rfl,rfl,rfl,by decide +kernel,rfl,by decide +kernel,by decide +kernel⟩
theorem sc_law_word:FnScope ["_law_e","_law_some","_law_found"] ["_law_e"] (defScope s_law_word):=⟨rfl,rfl,rfl,by decide +kernel,rfl,by decide +kernel,by decide +kernel⟩
theorem sc_law_told:FnScope ["_law_asked","_law_found","_law_e"] ["_law_asked"] (defScope s_law_told):=⟨rfl,rfl,rfl,by decide +kernel,rfl,by decide +kernel,by decide +kernel⟩
theorem sc_law_same:FnScope ["_law_found","_law_due"] ["_law_found","_law_due"] (defScope s_law_same):=⟨rfl,rfl,rfl,by decide +kernel,rfl,by decide +kernel,by decide +kernel⟩
theorem sc_law_turned:FnScope ["_law_pen_here","_law_order_here","_law_rows","_law_row","_law_at"] ["_law_pen_here","_law_order_here"] (defScope s_law_turned):=⟨rfl,rfl,rfl,by decide +kernel,rfl,by decide +kernel,by decide +kernel⟩
theorem sc_law_wrong:FnScope ["_law_pen_here","_law_web_here","_law_row","_law_end","_law_far","_law_at","_law_some"] ["_law_pen_here","_law_web_here","_law_row"] (defScope s_law_wrong):=⟨rfl,rfl,rfl,by decide +kernel,rfl,by decide +kernel,by decide +kernel⟩
theorem sc_law_mixed:FnScope ("_law_pen_here" :: "_law_order_here" :: "_law_full" :: "_law_both" :: "_law_rows" :: "_law_k" :: "_law_one" :: "_law_other" :: "_law_end" :: "!0" :: "!1" :: "!2" :: "!3" :: "!4" :: "!5" :: "!6" :: "!7" :: "!8" :: "!9" :: "!10" :: "!11" :: "!12" :: "!13" :: "!14" :: "!15" :: "!16" :: "!17" :: "!18" :: "!19" :: "!20" :: "!21" :: "!22" :: "!23" :: "!24" :: []) ["_law_pen_here","_law_order_here","_law_full","_law_both"] (defScope s_law_mixed):=⟨rfl,rfl,rfl,by decide +kernel,rfl,by decide +kernel,by decide +kernel⟩
theorem sc_law_spoiled:FnScope ["_law_pen_here","_law_web_here","_law_order_here","_law_far","_law_whole","_law_way","_law_full","_law_at","_law_other","_law_rows"] ["_law_pen_here","_law_web_here","_law_order_here"] (defScope s_law_spoiled):=⟨rfl,rfl,rfl,by decide +kernel,rfl,by decide +kernel,by decide +kernel⟩
theorem sc_law:FnScope ["_law_script","_law_pen_here","_law_web_here","_law_order_here","_law_turned_here","_law_kept","_law_k","_law_spoiled_here","_law_again","_law_found","_law_row","!0"] ["_law_script"] (defScope s_law):=⟨rfl,rfl,rfl,by decide +kernel,rfl,by decide +kernel,by decide +kernel⟩
abbrev Zar (P:Program) (w:World) (K:W.Frag) (mg:Str->Option Value) (base:Heap) (f:Addr) (cdv:Value) (A:Around) (outer:List Env) (s:Shared) (H:Hp) (E:XK):Cx:=(cxOf CX0 P w K mg base ["_law_pen_here","_law_web_here","_law_order_here","_law_far","_law_whole","_law_way","_law_full","_law_at","_law_other","_law_rows"] "_law_spoiled" (defScope s_law_spoiled) f cdv A outer s H E).nox
abbrev Zae (P:Program) (w:World) (K:W.Frag) (mg:Str->Option Value) (base:Heap) (f:Addr) (cdv:Value) (A:Around) (outer:List Env) (s:Shared) (H:Hp) (E:XK):Cx:=(cxOf CX0 P w K mg base ["_law_pen_here","_law_web_here","_law_row","_law_end","_law_far","_law_at","_law_some"] "_law_wrong" (defScope s_law_wrong) f cdv A outer s H E).nox
def Mb (mg:Str->Option Value):Prop:=∀x∈["ValueError","abs","all","bool","enumerate","int","isinstance","len","list","max","min","range","repr","sorted","str","tuple","zip"],mg x=none
structure Cl (K:W.Frag) (mg:Str->Option Value) (c_FloorError c_NoWeb c_NoOrder c_NoNumber c_NoEnd c_NoTie c_NoPlace c_NoTable c_NoRing c_NoPaper c_Apart c_TooMany c_TooGreat c_NoText c_NoName c_NoRow:Addr):Prop where
 n_FloorError:mg "FloorError" = some (.ref c_FloorError)
 e_FloorError:ExcC K c_FloorError
 n_NoWeb:mg "NoWeb" = some (.ref c_NoWeb)
 n_NoOrder:mg "NoOrder" = some (.ref c_NoOrder)
 e_NoOrder:ExcC K c_NoOrder
 n_NoNumber:mg "NoNumber" = some (.ref c_NoNumber)
 n_NoEnd:mg "NoEnd" = some (.ref c_NoEnd)
 n_NoTie:mg "NoTie" = some (.ref c_NoTie)
 n_NoPlace:mg "NoPlace" = some (.ref c_NoPlace)
 n_NoTable:mg "NoTable" = some (.ref c_NoTable)
 n_NoRing:mg "NoRing" = some (.ref c_NoRing)
 n_NoPaper:mg "NoPaper" = some (.ref c_NoPaper)
 n_Apart:mg "Apart" = some (.ref c_Apart)
 n_TooMany:mg "TooMany" = some (.ref c_TooMany)
 n_TooGreat:mg "TooGreat" = some (.ref c_TooGreat)
 n_NoText:mg "NoText" = some (.ref c_NoText)
 n_NoName:mg "NoName" = some (.ref c_NoName)
 n_NoRow:mg "NoRow" = some (.ref c_NoRow)
 i_NoOrder:ExcI K c_NoOrder
 m_NoOrder:PySem.W.mroIn K c_NoOrder (.ref c_FloorError)=some true
 t_NoOrder:PySem.W.kitOne K (.ref c_NoOrder) (.type "ValueError")=some true
 k_NoOrder_Apart:PySem.W.kitOne K (.ref c_NoOrder) (.ref c_Apart)=some false
 k_NoOrder_NoEnd:PySem.W.kitOne K (.ref c_NoOrder) (.ref c_NoEnd)=some false
 k_NoOrder_NoName:PySem.W.kitOne K (.ref c_NoOrder) (.ref c_NoName)=some false
 k_NoOrder_NoNumber:PySem.W.kitOne K (.ref c_NoOrder) (.ref c_NoNumber)=some false
 k_NoOrder_NoOrder:PySem.W.kitOne K (.ref c_NoOrder) (.ref c_NoOrder)=some true
 k_NoOrder_NoPaper:PySem.W.kitOne K (.ref c_NoOrder) (.ref c_NoPaper)=some false
 k_NoOrder_NoPlace:PySem.W.kitOne K (.ref c_NoOrder) (.ref c_NoPlace)=some false
 k_NoOrder_NoRing:PySem.W.kitOne K (.ref c_NoOrder) (.ref c_NoRing)=some false
 k_NoOrder_NoRow:PySem.W.kitOne K (.ref c_NoOrder) (.ref c_NoRow)=some false
 k_NoOrder_NoTable:PySem.W.kitOne K (.ref c_NoOrder) (.ref c_NoTable)=some false
 k_NoOrder_NoText:PySem.W.kitOne K (.ref c_NoOrder) (.ref c_NoText)=some false
 k_NoOrder_NoTie:PySem.W.kitOne K (.ref c_NoOrder) (.ref c_NoTie)=some false
 k_NoOrder_NoWeb:PySem.W.kitOne K (.ref c_NoOrder) (.ref c_NoWeb)=some false
 k_NoOrder_TooGreat:PySem.W.kitOne K (.ref c_NoOrder) (.ref c_TooGreat)=some false
 k_NoOrder_TooMany:PySem.W.kitOne K (.ref c_NoOrder) (.ref c_TooMany)=some false
local macro_rules | `(tactic| walk_at "js")=>`(tactic| first
 |with_reducible refine Zas (t:=tAsg _ _) ?_
 |with_reducible refine Zas (t:=tPar _ _ _) ?_
 |with_reducible refine Zas (t:=tDrop _) ?_
 |with_reducible refine iteF ?_
 |with_reducible refine iteT ?_
 |with_reducible refine Za6 ?_
 |with_reducible refine Zbj ?_
 |with_reducible refine Zb2 ?_
 |with_reducible refine Zil ?_
 |with_reducible refine Zav ?_
 |refine Ze8 rfl rfl ?_
 |refine Znd rfl rfl ?_
 |with_reducible refine Zay ?_
 |with_reducible refine Zsw ?_
 |with_reducible refine Za8 ?_
 |with_reducible refine Zrf ?_
 |with_reducible refine Zo0 ?_
 |with_reducible refine Zbx ?_
 |with_reducible refine Za1 ?_
 |with_reducible refine Zbn ?_
 |refine Zcc rfl rfl ?_
 |refine Zla rfl rfl ?_
 |with_reducible refine Zcd ?_
 |with_reducible refine Zcz ?_
 |with_reducible refine Zs9 ?_
 |with_reducible refine Zix ?_
 |with_reducible refine Zj3 ?_
 |with_reducible refine Zsn ?_
 |with_reducible refine Zjl ?_
 |with_reducible refine Zew ?_
 |with_reducible refine Zem ?_
 |with_reducible refine Zag ?_
 |with_reducible refine Zab ?_
 |with_reducible refine Za7 ?_
 |with_reducible refine Zfy ?_
 |with_reducible refine Zfq ?_
 |with_reducible refine Zct ?_
 |with_reducible refine Zbz ?_
 |with_reducible refine Zcp ?_
 |with_reducible refine Zdl ?_
 |with_reducible refine Znc ?_
 |with_reducible refine Zm4 ?_
 |with_reducible refine Zfs ?_
 |with_reducible refine Zl6 ?_
 |with_reducible refine Zst ?_
 |with_reducible refine Zhz ?_
 |with_reducible refine Zfg ?_
 |refine Zad rfl ?_
 |refine Zdb rfl ?_
 |refine Zca rfl ?_
 |refine Zch (Or.inl rfl) ?_
 |refine Zch (Or.inr rfl) ?_
 |refine Zdc (Or.inl rfl) ?_
 |refine Zdc (Or.inr rfl) ?_
 |refine Zfu (Or.inl rfl) ?_
 |refine Zfu (Or.inr rfl) ?_
 |refine Zg9 ?_
 |refine⟨⟨_,_,rfl,rfl⟩,?_⟩
 |refine⟨_,_,_,_,rfl,rfl,rfl,rfl,?_⟩
 |refine⟨_,rfl,?_⟩
 |refine jr_I (by first|(show (0:Int)<_;omega)|exact⟨by omega,by omega⟩|exact Or.inl ⟨by omega,by omega⟩|exact Or.inr ⟨by omega,by omega⟩|exact⟨by decide,by decide,by decide⟩) ?_)
local macro_rules | `(tactic| walk_at "draw")=>`(tactic| first|refine Zbq rfl rfl (by assumption) (by omega) (by omega) λ_ _ _ _ _=>?_|refine⟨_,_,rfl,rfl,by assumption,_,rfl,by omega,by omega,λ_ _ _ _ _=>?_⟩)
def Pen (ps:List D):Prop:=∃(cs:List Int) (at_ num:Int),ps=[.lst (cs.map .int),.int at_,.int num]/\0<=at_/\0<=num/\cs.length<=63
def fDraw:BSp:=λps ds Post=>Pen ps/\∃m:Int,ds=[.int m]/\1<=m/\m<=100000000000000000000000000000000000000000000000000000000000/\∀r ps',Pen ps' -> 0<=r->r<m->Post (.int r) ps'
abbrev LendQ (f:BSp) (i:Nat) (P:D->Evt->Prop):List D->Evt->Prop:=λds Δ1=>∃y ps,Δ1[i]?=some y/\y.od=some (.lst ps)/\f ps ds λd ps'=>P d (Δ1.set i (y.put (.lst ps')))
theorem Zcc {K:W.Frag}{Δ:Evt}{P:D->Evt->Prop}{f:BSp}{ta:TA}{E:XK}{i:Nat}{x:Slot}{od:OD}(hx:Δ[i]?=some x) (ho:x.od=some od) (h:JA K ta Δ (LendQ f i P)):JE K (tCall (spB K f) [] E (tCons (tVar i) ta)) Δ P:=Zla hx ho h
theorem Zbq {Δ1:Evt}{i:Nat}{y:Slot}{ps:List D}{m:Int}{P:D->Evt->Prop}(hx:Δ1[i]?=some y) (ho:y.od=some (.lst ps)) (hp:Pen ps) (h1:1<=m) (h2:m<=100000000000000000000000000000000000000000000000000000000000) (h:∀r ps',Pen ps' -> 0<=r->r<m->P (.int r) (Δ1.set i (y.put (.lst ps')))) :
  LendQ fDraw i P [.int m] Δ1:=⟨y,ps,hx,ho,hp,m,rfl,h1,h2,h⟩
theorem Zgc {K:W.Frag}{Δ:Evt}{E:XK}{i:Nat}{y:Slot}{ps:List D}{m:Int}{P:D->Evt->Prop}(hx:Δ[i]?=some y) (ho:y.od=some (.lst ps)) (hp:Pen ps) (h1:1<=m) (h2:m<=100000000000000000000000000000000000000000000000000000000000) (h:∀r ps',Pen ps' -> 0<=r->r<m->P (.int r) (Δ.set i (y.put (.lst ps')))) :
  JE K (tCall (spB K fDraw) [] E (tCons (tVar i) (tCons (tC (.int m)) tNil))) Δ P:=Zcc hx ho (Zab (Za8 (Zag (Zbq hx ho hp h1 h2 h))))
section
variable {P:Program}{w:World}{K:W.Frag}{mg:Str->Option Value}{base:Heap}{f:Addr}{fd:FuncData}
theorem Zqg (mb:Mb mg) (F:Fun K "_law_draw" "_law_draw" s_law_draw f fd):FnOk P w K mg base CX0 1 f fd ["_law_pen_here","_law_many"] (spB K fDraw):=by
 refine F.ok sc_law_draw (Zd1 λps ds Post h=>by obtain⟨_,m,rfl,_⟩:=h;rfl) (λcdv A outer s H vs Q E hr h=>?_);have hu:=Zcy hr;refine⟨_,(Zaf (Zb6 (Zaz Zm8 (Zbg (ixK K hu) (pv 0) Zai (λ_ _=>rfl)) Zai (nomark _)) (Zaf (Zat (i:=2) sc_law_draw.nd rfl (Or.inl rfl) (Zaq Zcj (Zbg (ixK K hu) (pv 0) Zai (λ_ _=>rfl)) (pv 1))) (Zaf (Zf5 (Zaq Zg5 (Zbg (ixK K hu) (pv 0) Zai (λ_ _=>rfl)) (pv 1)) (Zfj (pv 0) Zai (setU hu))) (Zap (Zba (pv 2))))) Za2) (Zaf (Zat (i:=3) sc_law_draw.nd rfl (Or.inl rfl) (Zbg (ixK K hu) (pv 0) Zai (λ_ _=>rfl))) (Zaf (Zf5 (Zaq (addK K) (pv 3) Zai) (Zfj (pv 0) Zai (setU hu))) (Zaf (Zat (i:=4) sc_law_draw.nd rfl (Or.inl rfl) Zai) (Zaf (Zb6 (Zaz Zm8 (Zah (lenK K) rfl (mb "len" (by decide)) Zbm (Zaa (Zbg (ixK K hu) (pv 0) Zai (λ_ _=>rfl)) Zac)) Zai (nomark _)) (Zap (Zat (i:=4) sc_law_draw.nd rfl (Or.inl rfl) (Zbg (ixK K hu) (Zbg (ixK K hu) (pv 0) Zai (λ_ _=>rfl)) (Zaq Zcj (pv 3) (Zah (lenK K) rfl (mb "len" (by decide)) Zbm (Zaa (Zbg (ixK K hu) (pv 0) Zai (λ_ _=>rfl)) Zac))) (λ_ _=>rfl)))) Za2) (Zaf (Zb6 (PW.pt (pw_and (Zaz Zqx (pv 3) (Zah (lenK K) rfl (mb "len" (by decide)) Zbm (Zaa (Zbg (ixK K hu) (pv 0) Zai (λ_ _=>rfl)) Zac)) (nomark _)) (pw_and1 (Zaz Zty (Zah Zgf rfl (mb "abs" (by decide)) Zlw (Zaa (pv 4) Zac)) (Zaq Zma Zai Zai) (nomark _))))) (Zaf (Zf5 (Zaq Zg5 (Zah Zgf rfl (mb "abs" (by decide)) Zlw (Zaa (pv 4) Zac)) (pv 1)) (Zfj (pv 0) Zai (setU hu))) (Zap (Zba (Zaq Zcj (Zah Zgf rfl (mb "abs" (by decide)) Zlw (Zaa (pv 4) Zac)) (pv 1))))) Za2) (Zaf (Zat (i:=5) sc_law_draw.nd rfl (Or.inl rfl) (Zaq Zcj (Zaq Zd6 (Zaq (addK K) (Zaq (addK K) (Zaq Zcj (pv 4) Zai) (Zaq Zd6 Zai (pv 3))) Zai) Zai) Zai)) (Zaf (Zat (i:=5) sc_law_draw.nd rfl (Or.inl rfl) (Zaq Zcj (Zaq (addK K) (Zaq (addK K) (Zaq Zd6 (pv 5) (pv 5)) (Zaq Zd6 Zai (pv 5))) (pv 3)) Zai)) (Zap (Zba (Zaq Zcj (Zaq Zg5 (Zaq Zcj (Zaq Zd6 (pv 5) Zai) Zai) Zai) (pv 1)))))))))))),Zip (λps ds Post hf=>?_) h⟩;obtain⟨⟨cs,at_,num,rfl,h1,h2,h3⟩,m,rfl,h4,h5,q⟩:=hf;refine⟨by simp,?_⟩;dsimp only[cxOf,startD,Wbq,Wbs,Wbe,Wai];refine Zbl (λΔ=>¬ 0<num /\ Δ = [.bor (.lst [.lst (cs.map .int),.int at_,.int num]),.val (.int m),.any,.any,.any,.any]) ?_ ?_
 ·repeat walk_at "js"
  refine ite2 (λc=>?_) (λc=>?_)
  ·have c:=of_decide_eq_true c
   repeat walk_at "js"
   exact q _ _ ⟨cs,at_,num / m,rfl,h1,Int.ediv_nonneg h2 (by omega),h3⟩ (Wb6 _ (by omega)) (Wbv _ (by omega))
  ·repeat walk_at "js"
   exact⟨of_decide_eq_false (Bool.eq_false_iff.mpr c),rfl⟩
 rintro Δ1 ⟨hn,rfl⟩
 repeat walk_at "js"
 refine Zbl (λΔ=>∃c:Int,Δ = [.bor (.lst [.lst (cs.map .int),.int (at_+1),.int num]),.val (.int m),.any,.val (.int at_),.val (.int c),.any]) ?_ ?_
 ·repeat walk_at "js"
  refine ite2 (λc=>?_) (λc=>?_)
  ·have c:=of_decide_eq_true c
   rw[Waa]at c
   repeat walk_at "js"
   rw[Waa]
   repeat walk_at "js"
   obtain⟨cell,_,hc⟩:=Zdg (f:=D.int) (xs:=cs) (i:=at_ % (cs.length:Int)) (Wb6 _ (by omega)) (Wbv _ (by omega));refine Zca hc ?_;exact⟨cell,rfl⟩
  ·repeat walk_at "js"
   exact⟨11,rfl⟩
 rintro Δ1 ⟨cell,rfl⟩;refine Zbl (λΔ=>Δ = [.bor (.lst [.lst (cs.map .int),.int (at_+1),.int num]),.val (.int m),.any,.val (.int at_),.val (.int cell),.any]) ?_ ?_
 ·repeat walk_at "js"
  refine ite2 (λc=>?_) (λc=>?_)
  ·repeat walk_at "js"
   refine ite2 (λc=>?_) (λc=>?_)
   ·repeat walk_at "js"
    have ha:0<=(if cell<0 then -cell else cell):=by split <;> omega
    exact q _ _ ⟨cs,at_+1,_,rfl,by omega,Int.ediv_nonneg ha (by omega),h3⟩ (Wb6 _ (by omega)) (Wbv _ (by omega))
   ·repeat walk_at "js"
    rfl
  ·repeat walk_at "js"
   rfl
 rintro Δ1 rfl
 repeat walk_at "js"
 exact q _ _ ⟨cs,at_+1,num,rfl,by omega,h2,h3⟩ (Wb6 _ (by omega)) (Wbv _ (by omega))
end
def fPen:NSp:=λds Post=>∃ns:List Int,ds=[.scr (ns.map .int)]/\ns.length<=63/\∀ps,Pen ps->Post ps
section
variable {P:Program}{w:World}{K:W.Frag}{mg:Str->Option Value}{base:Heap}{f:Addr}{fd:FuncData}
theorem Zry (mb:Mb mg) (F:Fun K "_law_pen" "_law_pen" s_law_pen f fd):FnOk P w K mg base CX0 1 f fd ["_law_script"] (spN K fPen):=by
 refine F.ok sc_law_pen (Zmd λds Post h=>by obtain⟨ns,rfl,_⟩:=h;rfl) (λcdv A outer s H vs Q E hr h=>?_);have hu:=Zcy hr;refine⟨_,(Zap (Zba (Zbr (Zaa (Zcs ["_law_cell"] (show CompSc (defScope s_law_pen) ["_law_script"] _ [] [] from ⟨rfl,by decide +kernel,by decide +kernel,by decide +kernel,rfl,by decide +kernel⟩) rfl (seqK K (Zaw (slK K) (pv 0) Zbd (Za5 Zai))) (λ_ _ _ _ _=>(Zbh (i:=0) (show List.Nodup (["_law_cell"]:List Str) from by decide) rfl (Or.inl rfl))) (λ_ _ _ _ _=>Zcx) (λ_ _ _ _ _=>(pv 0))) (Zaa Zai (Zaa Zai Zac)))))),Zrs (λds Post hf=>?_) h⟩;obtain⟨ns,rfl,h1,q⟩:=hf;refine⟨by simp,?_⟩;dsimp only[cxOf,startD,Wbq,Wbs,Wbe,Wai];refine Zk2 (Zi9 (Zab (Zee (by decide) (Zi6 ?_))))
 repeat walk_at "js"
 have e:cutD (ns.map D.int) none (some 63)=ns.map D.int:=by
  unfold cutD;have e1:HT.sIx (ns.map D.int).length 0 none=0:=rfl;have e2:HT.sIx (ns.map D.int).length (ns.map D.int).length (some 63)=ns.length:=by
   rw[Waa];show min (Int.toNat 63) ns.length=_;omega
  rw[e1,e2,Wcm,Wde,Wcj (by simp)]
 rw[e];refine⟨_,Or.inl rfl,by rw[Waa];exact Wbl h1 (by decide),λ_=>true,λd=>d,λi d hd=>?_,?_⟩
 ·repeat walk_at "js"
  exact⟨rfl,Zad rfl ⟨rfl,_,rfl⟩⟩
 ·repeat walk_at "js"
  refine⟨by show 3<=sizeLine;decide,_,rfl,q _ ⟨ns,0,0,?_,by decide,by decide,h1⟩⟩;simp
end
def encTie (t:Int × Int):D:=.tup [.int t.1,.int t.2]
def encWeb (n:Int) (ts:List (Int × Int)):D:=.tup [.int n,.tup (ts.map encTie)]
structure WebOk (n:Int) (ts:List (Int × Int)):Prop where
 lo:1<=n
 hi:n<=25
 len:ts.length<=24
 tie:∀t∈ts,0<=t.1/\t.1<n/\0<=t.2/\t.2<n
def fWeb:BSp:=λps ds Post=>Pen ps/\∃a b:Int,ds=[.int a,.int b]/\1<=a/\a<=25/\0<=b/\b<=24/\∀n ts ps',Pen ps' -> WebOk n ts->n<=a->(ts.length:Int)<=b->Post (encWeb n ts) ps'
theorem Zr9 {Δ1:Evt}{i:Nat}{y:Slot}{ps:List D}{a b:Int}{P:D->Evt->Prop}(hx:Δ1[i]?=some y) (ho:y.od=some (.lst ps)) (hp:Pen ps) (h1:1<=a) (h2:a<=25) (h3:0<=b) (h4:b<=24) (h:∀n ts ps',Pen ps' -> WebOk n ts->n<=a->(ts.length:Int)<=b->P (encWeb n ts) (Δ1.set i (y.put (.lst ps')))) :
  LendQ fWeb i P [.int a,.int b] Δ1:=⟨y,ps,hx,ho,hp,a,b,rfl,h1,h2,h3,h4,h⟩
theorem Zlt:2<=sizeLine:=by decide
theorem Zhw {K:W.Frag}{Δ:Evt}{i:Nat}{v c:Int}{P:Bool->Evt->Prop}(hx:Δ[i]?=some (.val (.int v))) (h1:v=c->P true Δ) (h2:¬ v=c->P false Δ):JT K (tTest (tOp rEq (tVar i) (tC (.int c)))) Δ P:=
 Za7 (Zay (Zad hx (Za8 (Zfs ⟨_,rfl,by
  by_cases h:v=c
  ·rw[decide_eq_true h];exact h1 h
  ·rw[decide_eq_false h];exact h2 h⟩))))
def wSt (py:List D) (a b n way k:Int) (fs:List D) (i u v:Int):Evt:=[.bor (.lst py),.val (.int a),.val (.int b),.val (.int n),.val (.int way),.val (.int k),.own (.lst fs),.val (.int i),.val (.int u),.val (.int v)]
def wQ (py:List D) (a b n way k:Int) (fs:List D) (i:Int):Evt->Prop:=λΔ=>∃u v:Int,0<=u/\u<n/\0<=v/\v<n /\ Δ = wSt py a b n way k fs i u v
def wR (py:List D) (a b n way k:Int) (fs:List D) (i:Int):Evt->Prop:=λΔ=>∃u v:Int,0<=u/\u<n/\0<=v /\ Δ = wSt py a b n way k fs i u v
def wL (a b n way k:Int) (i:Nat):Evt->Prop:=λΔ=>∃(ps:List D) (ts:List (Int × Int)) (x7 x8 x9:Slot),Pen ps/\ts.length=i/\(∀t∈ts,0<=t.1/\t.1<n/\0<=t.2/\t.2<n) /\ Δ = [.bor (.lst ps),.val (.int a),.val (.int b),.val (.int n),.val (.int way),.val (.int k),.own (.lst (ts.map encTie)),x7,x8,x9]
section
variable {P:Program}{w:World}{K:W.Frag}{mg:Str->Option Value}{base:Heap}{f:Addr}{fd:FuncData}
theorem Zrx (mb:Mb mg) (C20:Callee P w K mg base 1 "_law_draw" ["_law_pen_here","_law_many"] (spB K fDraw)) (F:Fun K "_law_web" "_law_web" s_law_web f fd):FnOk P w K mg base CX0 2 f fd ["_law_pen_here","_law_places","_law_ties"] (spB K fWeb):=by
 refine F.ok sc_law_web (Zd1 λps ds Post h=>by obtain⟨_,a,b,rfl,_⟩:=h;rfl) (λcdv A outer s H vs Q E hr h=>?_);have hu:=Zcy hr;refine⟨_,(Zaf (Zat (i:=3) sc_law_web.nd rfl (Or.inl rfl) (Zaq (addK K) Zai (Zbe C20 (hr.mono (by decide)) (Zaa (pv 0) (Zaa (pv 1) Zac))))) (Zaf (Zat (i:=4) sc_law_web.nd rfl (Or.inl rfl) (Zbe C20 (hr.mono (by decide)) (Zaa (pv 0) (Zaa Zai Zac)))) (Zaf (Zat (i:=5) sc_law_web.nd rfl (Or.inl rfl) (Zbe C20 (hr.mono (by decide)) (Zaa (pv 0) (Zaa (Zaq (addK K) (pv 2) Zai) Zac)))) (Zaf (Zb6 (Zaz Zcw (pv 4) Zai (nomark _)) (Zaf (Zat (i:=3) sc_law_web.nd rfl (Or.inl rfl) (pv 1)) (Zap (Zat (i:=5) sc_law_web.nd rfl (Or.inl rfl) (pv 2)))) Za2) (Zaf (Zat (i:=6) sc_law_web.nd rfl (Or.inl rfl) (Zbr Zac)) (Zaf (Zh2 PassesOwn.never rfl (Zdm rfl (mb "range" (by decide)) (Zaa (pv 5) Zac)) (Zbh (i:=7) sc_law_web.nd rfl (Or.inl rfl)) (Zaf (Zpd (i:=8) (j:=9) rfl sc_law_web.nd rfl rfl (by decide) rfl rfl (Zaa (Zbe C20 (hr.mono (by decide)) (Zaa (pv 0) (Zaa (pv 3) Zac))) (Zaa (Zbe C20 (hr.mono (by decide)) (Zaa (pv 0) (Zaa (pv 3) Zac))) Zac)) rfl) (Zaf (Zb6 (Zaz Zcw (pv 4) Zai (nomark _)) (Zap (Zpd (i:=8) (j:=9) rfl sc_law_web.nd rfl rfl (by decide) rfl rfl (Zaa (Zaq Zcj (pv 7) (pv 3)) (Zaa (Zaq Zcj (Zaq (addK K) (pv 7) Zai) (pv 3)) Zac)) rfl)) Za2) (Zaf (Zb6 (Zaz Zcw (pv 4) Zai (nomark _)) (Zap (Zat (i:=8) sc_law_web.nd rfl (Or.inl rfl) Zai)) Za2) (Zaf (Zb6 (Zaz Zcw (pv 4) Zai (nomark _)) (Zap (Zat (i:=9) sc_law_web.nd rfl (Or.inl rfl) (Zaq (addK K) (Zaq Zcj (pv 8) Zai) (Zaq Zd6 (Zaq Zi0 (pv 9) Zai) Zai)))) Za2) (Zaf (Zb6 (PW.pt (pw_and (Zaz Zcw (pv 4) Zai (nomark _)) (pw_and1 (Zaz Zcw (Zaq Zcj (pv 9) Zai) Zai (nomark _))))) (Zap (Zat (i:=9) sc_law_web.nd rfl (Or.inl rfl) (pv 8))) Za2) (Zap (Zdx (bmK K PySem.F.plainAttrs_list PySem.F.slot_list_append PySem.F.type_list_append Zdj (pv 6) (Zaa (Zax (Zaa (pv 8) (Zaa (Zah (Zhe rfl) rfl (mb "min" (by decide)) Zjt (Zaa (pv 9) (Zaa (Zaq Zf6 (pv 3) Zai) Zac))) Zac))) Zac)))))))))) (Zap (Zba (Zax (Zaa (pv 3) (Zaa (Za4 (tupK K) rfl (mb "tuple" (by decide)) Zbo (Zaa (pv 6) Zac)) Zac))))))))))),Zip (λps ds Post hf=>?_) h⟩;obtain⟨hp,a,b,rfl,h1,h2,h3,h4,q⟩:=hf;refine⟨by simp,?_⟩;dsimp only[cxOf,startD,Wbq,Wbs,Wbe,Wai];refine Zas (Zav (Zay (Za8 (Zcc rfl rfl (Zab (Zad rfl (Zag (Zbq (m:=a) rfl rfl hp h1 (Int.le_trans h2 (by decide)) λr0 ps0 hp0 hr0 hs0=>Zdl ?_))))))));refine Zas (Zav (Zgc rfl rfl hp0 (by decide) (by decide) λway ps1 hp1 hw0 hw1=>?_));refine Zas (Zav (Zcc rfl rfl (Zab (Zbw (Za0 (Zaj rfl) Zbb Zb9) (Zag (Zbq (m:=b+1) rfl rfl hp1 (Int.add_le_add h3 (Wcv 1)) (Int.le_trans (Int.add_le_add h4 (Wcv 1)) (by decide)) λcnt ps2 hp2 hc0 hc1=>?_))))));refine Zbl (λΔ=>∃n k:Int,1<=n/\n<=a/\0<=k/\k<=b /\ Δ = [.bor (.lst ps2),.val (.int a),.val (.int b),.val (.int n),.val (.int way),.val (.int k),.any,.any,.any,.any]) ?_ ?_
 ·refine Zb2 (Zhw rfl (λc=>iteT ?_) (λc=>iteF (Za6 ⟨1+r0,cnt,Int.le_add_of_nonneg_right hr0,by omega,hc0,Int.le_of_lt_add_one hc1,rfl⟩)))
  exact Zas (Zav (Zad rfl (Zav (Zad rfl ⟨a,b,h1,Wcv _,h3,Wcv _,rfl⟩))))
 rintro Δ1 ⟨n,k,hn0,hn1,hk0,hk1,rfl⟩;have hn2:0<n:=Int.lt_of_lt_of_le (by decide) hn0;have hn3:n≠0:=Int.ne_of_gt hn2;refine Zas (Zgx (Zi9 (Zag ⟨by decide,?_⟩)));refine Zbl (wL a b n way k k.toNat) ?_ ?_
 ·refine Zjd (Zdk (Zab (Zad rfl (Zag ⟨_,rfl,by omega,by omega,?_⟩))))
  refine⟨wL a b n way k,⟨ps2,[],.any,.any,.any,hp2,rfl,λ_ h=>(nomatch h),rfl⟩,?_,λΔ2 h=>by rw[Zcv]at h;exact h⟩;rintro i d Δ2 hd ⟨ps,ts,x7,x8,x9,hp',hl,ht,rfl⟩;obtain⟨hi,rfl⟩:=Ze0 hd;generalize (0+(i:Int))=I;refine Zfg (Zas (Zil (Zab (Zcc rfl rfl (Zab (Zad rfl (Zag (Zbq (m:=n) rfl rfl hp' hn0 (by omega) λx px hpx hx0 hx1=>?_))))))));refine Zab (Zcc rfl rfl (Zab (Zad rfl (Zag (Zbq (m:=n) rfl rfl hpx hn0 (by omega) λy py hpy hy0 hy1=>Zag ⟨_,_,rfl,?_⟩)))));refine Zbl (wQ py a b n way k (ts.map encTie) I) ?_ ?_
  ·refine Zb2 (Zhw rfl (λc=>iteT ?_) (λc=>iteF (Za6 ⟨x,y,hx0,hx1,hy0,hy1,rfl⟩)))
   exact Zil (Ztd (Zak (Za0 (Zaj rfl) (Zaj rfl) (pr_I hn2)) (Zak (Za0 (Za0 (Zaj rfl) Zbb Zb9) (Zaj rfl) (pr_I hn2)) Zau)) ⟨_,_,rfl,_,_,Wb6 _ hn3,Wbv _ hn2,Wb6 _ hn3,Wbv _ hn2,rfl⟩)
  rintro Δ3 ⟨u,v,hu0,hu1,hv0,hv1,rfl⟩;refine Zbl (wQ py a b n way k (ts.map encTie) I) ?_ ?_
  ·exact Zb2 (Zhw rfl (λc=>iteT (Zav (Za8 ⟨0,v,Wcv _,hn2,hv0,hv1,rfl⟩))) (λc=>iteF (Za6 ⟨u,v,hu0,hu1,hv0,hv1,rfl⟩)))
  rintro Δ3 ⟨u,v,hu0,hu1,hv0,hv1,rfl⟩;refine Zbl (wR py a b n way k (ts.map encTie) I) ?_ ?_
  ·refine Zb2 (Zhw rfl (λc=>iteT ?_) (λc=>iteF (Za6 ⟨u,v,hu0,hu1,hv0,rfl⟩)))
   exact Zav (Zbw (Za0 (Za0 (Zaj rfl) Zbb (pr_I (show (0:Int)<2 by decide))) (Za0 (Za0 (Zaj rfl) Zbb (pr_I ⟨by decide,by decide⟩)) Zbb (pr_I (Or.inr ⟨by decide,by decide⟩))) Zb9) ⟨u,_,hu0,hu1,by omega,rfl⟩)
  rintro Δ3 ⟨u,v,hu0,hu1,hv0,rfl⟩;refine Zbl (wR py a b n way k (ts.map encTie) I) ?_ ?_
  ·refine Zb2 (Zfy (Zhw rfl (λc=>iteT ?_) (λc=>iteF (iteF (Za6 ⟨u,v,hu0,hu1,hv0,rfl⟩)))))
   refine Za7 (Zay (Zbw (Za0 (Zaj rfl) Zbb (pr_I (show (0:Int)<2 by decide))) (Za8 (Zfs ⟨_,rfl,ite2 (λc=>?_) (λc=>Za6 ⟨u,v,hu0,hu1,hv0,rfl⟩)⟩))));exact Zav (Zad rfl ⟨u,u,hu0,hu1,hu0,rfl⟩)
  rintro Δ3 ⟨u,v,hu0,hu1,hv0,rfl⟩;refine Zo4 rfl rfl (Zcd (Zab (Zad rfl (Zab (Za1 (Zab (Zad rfl (Zab (Zbw (Za0 (Zaj rfl) Zbb Zom) (Zag (Zhz (Zag ?_))))))))))));refine⟨Zlt,_,_,rfl,rfl,?_,py,ts++[(u,if n-1<v then n-1 else v)],.val (.int I),.val (.int u),.val (.int v),hpy,by rw[Wag,hl];rfl,λt h=>?_,?_⟩
  ·rw[Waa];exact small1000 (by omega)
  ·rcases Wa0.mp h with h|h
   ·exact ht t h
   ·rw[Wa8.mp h]
    refine⟨hu0,hu1,?_,?_⟩
    ·show 0<=(if n-1<v then n-1 else v);split <;> omega
    ·show (if n-1<v then n-1 else v)<n;split <;> omega
  ·rw[Wbd];rfl
 rintro Δ1 ⟨ps3,ts,x7,x8,x9,hp3,hl,ht,rfl⟩;refine Zbj (Zcd (Zab (Zad rfl (Zab (Za1 (Zab (Zp2 rfl (Zag (Zdc (Or.inl rfl) (Zag ⟨Zlt,?_⟩))))))))));exact⟨_,rfl,q n ts _ hp3 ⟨hn0,by omega,by omega,ht⟩ hn1 (by omega)⟩
end
def placeAt (ts:List (Int × Int)) (e:Nat):Int:=match ts[e / 2]? with
 |some t=>if e % 2=0 then t.1 else t.2
 |none=>-1
def encRow (r:List Int):D:=.tup (r.map .int)
def encOrd (o:List (List Int)):D:=.tup (o.map encRow)
def endsBelow (ts:List (Int × Int)) (m:Nat) (p:Int):List Int:=((Wbx m).filter λe=>decide (placeAt ts e=p)).map λe:Nat=>(e:Int)
structure RowOk (ts:List (Int × Int)) (m:Nat) (p:Int) (r:List Int):Prop where
 perm:r.Perm (endsBelow ts m p)
 first:r.head?=(endsBelow ts m p).head?
structure OrdOk (n:Int) (ts:List (Int × Int)) (o:List (List Int)):Prop where
 len:(o.length:Int)=n
 row:∀(p:Nat) r,o[p]?=some r->RowOk ts (2*ts.length) (p:Int) r
theorem Zdt (ts:List (Int × Int)) (k:Nat) (p:Int):endsBelow ts (k+1) p=endsBelow ts k p++(if placeAt ts k=p then [(k:Int)] else []):=by
 unfold endsBelow;rw[List.range_succ,Wb1,Wbd];congr 1;by_cases h:placeAt ts k=p
 ·simp[Wb0,h]
 ·simp[Wb0,h]
theorem Zgr (ts:List (Int × Int)) (m:Nat) (p:Int):(endsBelow ts m p).length<=m:=by
 unfold endsBelow;rw[Waa];exact Wat (Wco _ _) (by rw[Wda];exact Wak _)
theorem RowOk.len {ts:List (Int × Int)}{m:Nat}{p:Int}{r:List Int}(h:RowOk ts m p r):r.length<=m:=by rw[h.perm.length_eq];exact Zgr ts m p
theorem RowOk.stay {ts:List (Int × Int)}{k:Nat}{p:Int}{r:List Int}(h:RowOk ts k p r) (hp:placeAt ts k≠p):RowOk ts (k+1) p r:=by
 have e:=Zdt ts k p;rw[if_neg hp,Wbf]at e;exact⟨by rw[e];exact h.perm,by rw[e];exact h.first⟩
theorem RowOk.put {ts:List (Int × Int)}{k j:Nat}{p:Int}{r:List Int}(h:RowOk ts k p r) (hp:placeAt ts k=p) (hj:j<=r.length) (h1:r≠[]->1<=j):RowOk ts (k+1) p (r.take j++(k:Int)::r.drop j):=by
 have e:=Zdt ts k p;rw[if_pos hp]at e;refine⟨?_,?_⟩
 ·rw[e]
  refine List.perm_middle.trans ?_;rw[Wcn];exact(List.Perm.cons _ h.perm).trans (List.perm_append_singleton _ _).symm
 ·rw[e]
  cases r with
  |nil=>
   have z:endsBelow ts k p=[]:=List.Perm.eq_nil h.perm.symm;rw[z];have:j=0:=by simpa using hj
   subst this;rfl
  |cons x r'=>
   have h2:=h1 (by simp);obtain⟨j',rfl⟩:∃j',j=j'+1:=⟨j-1,by omega⟩;have h3:=h.first;show some x=_;cases q:endsBelow ts k p with
   |nil=>rw[q]at h3;cases h3
   |cons y l=>rw[q]at h3;exact h3
theorem Zpc {ts:List (Int × Int)}{k:Nat}(h:k<2*ts.length):∃t,ts[k / 2]?=some t/\atI (ts.map encTie) ((0+(k:Int)) / 2)=some (encTie t)/\atI [D.int t.1,D.int t.2] ((0+(k:Int)) % 2)=some (.int (placeAt ts k)):=by
 have hk:k / 2<ts.length:=by omega
 refine⟨ts[k / 2],Wab hk,?_,?_⟩
 ·have e:(0+(k:Int)) / 2=((k / 2:Nat):Int):=by omega
  rw[e];exact Zdh (by rw[Waj,Wab hk];rfl)
 ·have e2:placeAt ts k=if k % 2=0 then ts[k / 2].1 else ts[k / 2].2:=by
   unfold placeAt;rw[Wab hk]
  rw[e2];have e:(0+(k:Int)) % 2=((k % 2:Nat):Int):=by omega
  rw[e];by_cases h0:k % 2=0
  ·rw[if_pos h0,h0];exact Zdh rfl
  ·have h1:k % 2=1:=by omega
   rw[if_neg h0,h1];exact Zdh rfl
theorem Zoo {n:Int}{ts:List (Int × Int)}(hW:WebOk n ts) {k:Nat}(h:k<2*ts.length):0<=placeAt ts k/\placeAt ts k<n:=by
 have hk:k / 2<ts.length:=by omega
 have:=hW.tie _ (Wbc hk);unfold placeAt;rw[Wab hk];dsimp only;split <;> omega
def fOrder:BSp:=λps ds Post=>Pen ps/\∃n ts,ds=[encWeb n ts]/\WebOk n ts/\∀o ps',Pen ps' -> OrdOk n ts o->Post (encOrd o) ps'
theorem Zoj {Δ1:Evt}{i:Nat}{y:L2.Slot}{ps:List D}{n:Int}{ts:List (Int × Int)}{P:D->Evt->Prop}(hx:Δ1[i]?=some y) (ho:y.od=some (.lst ps)) (hp:Pen ps) (hW:WebOk n ts) (h:∀o ps',Pen ps' -> OrdOk n ts o->P (encOrd o) (Δ1.set i (y.put (.lst ps')))) :
  LendQ fOrder i P [encWeb n ts] Δ1:=⟨y,ps,hx,ho,hp,n,ts,rfl,hW,h⟩
def oSt (ps:List D) (n:Int) (ts:List (Int × Int)) (cs:List (Addr × List Int)) (x3 x4:L2.Slot):Evt:=.bor (.lst ps)::.val (encWeb n ts)::.val (.lst (cs.map λc=>D.adr c.1))::x3::x4::(cs.map (λc=>L2.Slot.ownA c.1 (.lst (c.2.map D.int)))++Wai (25-n.toNat) .any)
def oP (n:Int) (ts:List (Int × Int)) (k:Nat):Evt->Prop:=λΔ=>∃(ps:List D) (cs:List (Addr × List Int)) (x3 x4:L2.Slot),Pen ps/\cs.length=n.toNat/\(∀(p:Nat) c,cs[p]?=some c->RowOk ts k (p:Int) c.2) /\ Δ = oSt ps n ts cs x3 x4
theorem Zkx {n:Int}{ts:List (Int × Int)}{ps:List D}{as:List Addr}(hn2:n<=25) (hal:as.length=(Wbs (λ_=>OD.lst []) ((rngD 0 n.toNat).filter λ_=>true)).length):∃cs:List (Addr × List Int),cs.length=n.toNat/\(∀(p:Nat) c,cs[p]?=some c->c.2=[]) ∧
  L2.putN 5 (as.zip (Wbs (λ_=>OD.lst []) ((rngD 0 n.toNat).filter λ_=>true))) ([.bor (.lst ps),.val (encWeb n ts),.val (.lst (as.map D.adr)),.any,.any]++Wai 25 .any)=oSt ps n ts cs .any .any:=by
 have eR:(rngD 0 n.toNat).filter (λ_=>true)=rngD 0 n.toNat:=by simp
 rw[eR,Waa,Zcv]at hal;have eO:(rngD 0 n.toNat).map (λ_=>OD.lst [])=Wai n.toNat (OD.lst []):=by
  rw[List.map_const',Zcv]
 rw[eR,eO];generalize hcs:as.map (λa=>((a,[]):Addr × List Int))=cs;have hcl:cs.length=n.toNat:=by rw[<- hcs,Waa,hal]
 have e1:as.map D.adr=cs.map λc=>D.adr c.1:=by rw[<- hcs,Wa9];rfl
 have e2:as.zip (Wai n.toNat (OD.lst []))=cs.map λc=>(c.1,OD.lst (c.2.map D.int)):=by
  rw[<- hcs,Wa9,<- hal];clear e1 hcl hcs hal
  induction as with
  |nil=>rfl
  |cons a r ih=>rw[Wax,Wc3,Wc6,ih];rfl
 have e3:=Ziz (cs.map λc=>(c.1,OD.lst (c.2.map D.int))) [.bor (.lst ps),.val (encWeb n ts),.val (.lst (cs.map λc=>D.adr c.1)),.any,.any] [] 25 (by rw[Waa];omega);rw[Wbf,Wbf,Wa9,Waa,hcl]at e3;refine⟨cs,hcl,λp c hc=>?_,by rw[e1,e2];exact e3⟩;rw[<- hcs,Waj]at hc;cases q:as[p]? with
 |none=>rw[q]at hc;cases hc
 |some a=>rw[q]at hc;cases hc;rfl
theorem Zsx {ps:List D}{n:Int}{ts:List (Int × Int)}{cs:List (Addr × List Int)}{x3 x4:L2.Slot}{p:Nat}{c:Addr × List Int}(h:cs[p]?=some c):(oSt ps n ts cs x3 x4)[p+5]?=some (.ownA c.1 (.lst (c.2.map D.int))):=by
 show (cs.map (λc=>L2.Slot.ownA c.1 (.lst (c.2.map D.int)))++Wai (25-n.toNat) .any)[p]?=_;rw[Wbb (by rw[Waa];exact(Wah.mp h).1),Waj,h];rfl
theorem Zq4 {ps ps':List D}{n:Int}{ts:List (Int × Int)}{cs:List (Addr × List Int)}{x3 x4:L2.Slot}{p:Nat}{c:Addr × List Int}{r:List Int}{v:L2.Slot}(h:cs[p]?=some c) (hv:v=.ownA c.1 (.lst (r.map D.int))):(oSt ps n ts cs x3 x4).set (p+5) v=oSt ps n ts (cs.set p (c.1,r)) x3 x4:=by
 have hp:=(Wah.mp h).1;have ea:(cs.set p (c.1,r)).map (λc=>D.adr c.1)=cs.map λc=>D.adr c.1:=by
  rw[Wdc];apply Wbp;intro i;by_cases hii:i=p
  ·subst hii
   rw[Wad (by rw[Waa];exact hp),Waj,h];rfl
  ·rw[Wae (Ne.symm hii)]
 unfold oSt;rw[ea,Wdc,hv,<- Wc1 _ _ (by rw[Waa];exact hp)];rfl
section
variable {P:Program}{w:World}{K:W.Frag}{mg:Str->Option Value}{base:Heap}{f:Addr}{fd:FuncData}
theorem Zn0 (mb:Mb mg) (C20:Callee P w K mg base 1 "_law_draw" ["_law_pen_here","_law_many"] (spB K fDraw)) (F:Fun K "_law_order" "_law_order" s_law_order f fd):FnOk P w K mg base CX0 2 f fd ["_law_pen_here","_law_web_here"] (spB K fOrder):=by
 refine F.ok sc_law_order (Zd1 λps ds Post h=>by obtain⟨_,n,ts,rfl,_⟩:=h;rfl) (λcdv A outer s H vs Q E hr h=>?_);have hu:=Zcy hr;refine⟨_,(Zaf (Zi7 5 (show ∀x∈(["_law_pen_here","_law_web_here","_law_rows","_law_k","_law_row","!0","!1","!2","!3","!4","!5","!6","!7","!8","!9","!10","!11","!12","!13","!14","!15","!16","!17","!18","!19","!20","!21","!22","!23","!24"]:List Str).drop 5,(defScope s_law_order).names.lookup x=none from by decide +kernel) (Ze4 (i:=2) ["_law_place"] (show CompSc (defScope s_law_order) ["_law_pen_here","_law_web_here","_law_rows","_law_k","_law_row","!0","!1","!2","!3","!4","!5","!6","!7","!8","!9","!10","!11","!12","!13","!14","!15","!16","!17","!18","!19","!20","!21","!22","!23","!24"] _ [] [] from ⟨rfl,by decide +kernel,by decide +kernel,by decide +kernel,rfl,by decide +kernel⟩) rfl sc_law_order.nd rfl (Or.inl rfl) (Zdm rfl (mb "range" (by decide)) (Zaa (Zbg (ixK K hu) (pv 1) Zai (λ_ _=>rfl)) Zac)) (λ_ _ _ _ _=>(Zbh (i:=0) (show List.Nodup (["_law_place"]:List Str) from by decide) rfl (Or.inl rfl))) (λ_ _ _ _ _=>Zcx) (λ_ _ _ _ _=>(Zbr Zac)))) (Zaf (Zh2 PassesOwn.never rfl (Zdm rfl (mb "range" (by decide)) (Zaa (Zaq Zd6 Zai (Zah (lenK K) rfl (mb "len" (by decide)) Zbm (Zaa (Zbg (ixK K hu) (pv 1) Zai (λ_ _=>rfl)) Zac))) Zac)) (Zbh (i:=3) sc_law_order.nd rfl (Or.inl rfl)) (Zaf (Zat (i:=4) sc_law_order.nd rfl (Or.inl rfl) (Zbg (ixK K hu) (pv 2) (Zbg (ixK K hu) (Zbg (ixK K hu) (Zbg (ixK K hu) (pv 1) Zai (λ_ _=>rfl)) (Zaq Zi0 (pv 3) Zai) (λ_ _=>rfl)) (Zaq Zcj (pv 3) Zai) (λ_ _=>rfl)) (λ_ _=>rfl))) (Zap (Zdx (bmK K PySem.F.plainAttrs_list PySem.F.slot_list_insert PySem.F.type_list_insert Zfa (pv 4) (Zaa (Zah (Zhe rfl) rfl (mb "min" (by decide)) Zjt (Zaa (Zah (lenK K) rfl (mb "len" (by decide)) Zbm (Zaa (pv 4) Zac)) (Zaa (Zaq (addK K) Zai (Zbe C20 (hr.mono (by decide)) (Zaa (pv 0) (Zaa (Zah (Zhm rfl) rfl (mb "max" (by decide)) Zoy (Zaa Zai (Zaa (Zah (lenK K) rfl (mb "len" (by decide)) Zbm (Zaa (pv 4) Zac)) Zac))) Zac)))) Zac))) (Zaa (pv 3) Zac))))))) (Zap (Zba (Za4 (tupK K) rfl (mb "tuple" (by decide)) Zbo (Zaa (Zcs ["_law_row"] (show CompSc (defScope s_law_order) ["_law_pen_here","_law_web_here","_law_rows","_law_k","_law_row","!0","!1","!2","!3","!4","!5","!6","!7","!8","!9","!10","!11","!12","!13","!14","!15","!16","!17","!18","!19","!20","!21","!22","!23","!24"] _ [] [] from ⟨rfl,by decide +kernel,by decide +kernel,by decide +kernel,rfl,by decide +kernel⟩) rfl (seqK K (pv 2)) (λ_ _ _ _ _=>(Zbh (i:=0) (show List.Nodup (["_law_row"]:List Str) from by decide) rfl (Or.inl rfl))) (λ_ _ _ _ _=>Zcx) (λ_ _ _ _ _=>(Za4 (tupK K) rfl (mb "tuple" (by decide)) Zbo (Zaa (pv 0) Zac)))) Zac)))))),Zip (λps ds Post hf=>?_) h⟩;obtain⟨hp,n,ts,rfl,hW,q⟩:=hf;refine⟨by simp,?_⟩;dsimp only[cxOf,startD,Wbq,Wbs,Wbe];have hn:=hW.lo;have hn2:=hW.hi;have hts:=hW.len
 -- the rows
 refine Zas (Zl0 (Zgd (by decide) (Zdk ?_)));refine Zab (Zay (Zad rfl (Za8 (Zdb (d:=.int n) rfl (Zag ⟨n,rfl,by omega,by omega,?_⟩)))));refine⟨by rw[Zcv];exact small1000 (by omega),λ_=>true,λ_=>.lst [],λi d hd=>?_,by decide,?_,λas hal hnd=>?_⟩
 ·exact Zcp ⟨rfl,Zi9 (Zag ⟨by decide,rfl,_,rfl⟩)⟩
 ·rw[Waa]
  have e:((rngD 0 n.toNat).filter λ_=>true).length<=25:=Wat (Wco _ _) (by rw[Zcv];omega);show 5+_<=30;omega
 obtain⟨cs,hcl,hce,e⟩:=Zkx (ps:=ps) (ts:=ts) hn2 hal;refine Eq.mpr (congrArg (λΔ=>JS K _ Δ _) e) ?_
 -- the loop
 refine Zbl (oP n ts (2*ts.length)) ?_ ?_
 ·refine Zjd (Zdk (Zab (Zbw (Za0 Zbb (Zes (Zo1 (ds:=[.int n,.tup (ts.map encTie)]) rfl rfl)) (pr_I (Or.inl ⟨by decide,by decide⟩))) (Zag ⟨_,rfl,?_,?_,?_⟩))))
  ·rw[Waa];omega
  ·rw[Waa];omega
  have eL:((2:Int)*((ts.map encTie).length:Int)).toNat=2*ts.length:=by rw[Waa];omega
  refine⟨oP n ts,⟨ps,cs,.any,.any,hp,hcl,λp c hc=>by rw[hce p c hc];exact⟨List.Perm.refl _,rfl⟩,rfl⟩,?_,λΔ h=>by rw[Zcv,eL]at h;exact h⟩
  ·rintro k d Δ2 hd ⟨ps,cs,x3,x4,hp,hcl,hrow,rfl⟩
   rw[eL]at hd;obtain⟨hk,rfl⟩:=Ze0 hd;obtain⟨t,ht1,ht2,ht3⟩:=Zpc hk;obtain⟨pl0,pl1⟩:=Zoo hW hk;obtain⟨c,hc1,hc2⟩:=Zdg (f:=λc:Addr × List Int=>D.adr c.1) (xs:=cs) (i:=placeAt ts k) pl0 (by omega);have hR:=hrow _ c hc1;have hRl:=hR.len;have ep:((placeAt ts k).toNat:Int)=placeAt ts k:=Wc5 pl0;have hsl:∀(ps:List D) (x3 x4:L2.Slot),(oSt ps n ts cs x3 x4)[(placeAt ts k).toNat+5]?=some (.ownA c.1 (.lst (c.2.map D.int))):=λps x3 x4=>Zsx hc1;have hlen:(c.2.map D.int).length=c.2.length:=Waa _;refine Zfg (Zas (Zav (Zbw (Zmi (d:=.adr c.1) (Zaj rfl) (Zcm (Zcm (Zo1 (d:=.tup (ts.map encTie)) rfl rfl) (Za0 (Zaj rfl) Zbb (pr_I ⟨by decide,by decide⟩)) ht2) (Za0 (Zaj rfl) Zbb (pr_I (by show (0:Int)<2;decide))) ht3) hc2) ?_)));refine Zig (a:=c.1) rfl (hsl ps _ _) ?_;refine Za1 (Zab (Zel rfl (hsl ps _ _) (Zab (Zay (Za8 (Zcc rfl rfl (Zab (Za1 (Zab (Za8 (Zab (Zel rfl (hsl ps _ _) (Zag (Zhz (Zag ?_)))))))))))))));refine Zbq rfl rfl hp (by split <;> omega) (by split <;> omega) λr ps' hp' hr0 hr1=>?_
   refine Zdl (Zag (Zhz (Zad rfl ⟨_,_,_,rfl,hsl ps' _ _,by rw[hlen];exact small1000 (by omega),by split <;> omega,by split <;> omega,?_⟩)))
   generalize hi:insI (c.2.map D.int).length (if 1+r<((c.2.map D.int).length:Int) then 1+r else ((c.2.map D.int).length:Int))=j;have hj:j<=c.2.length/\(c.2≠[]->1<=j):=by
    rw[<- hi,hlen];unfold insI;refine⟨?_,λh=>?_⟩
    ·split <;> split <;> omega
    ·have:=List.length_pos_iff.mpr h
     split <;> split <;> omega
   refine⟨ps',cs.set (placeAt ts k).toNat (c.1,c.2.take j++(k:Int)::c.2.drop j),.val (.int (0+(k:Int))),.val (.adr c.1),hp',by rw[Wa1];exact hcl,λp c' hc'=>?_,Zq4 (ps:=ps') (ps':=ps') hc1 ?_⟩
   ·by_cases hpp:p=(placeAt ts k).toNat
    ·subst hpp
     rw[Wad (by omega)]at hc';cases hc';exact hR.put (by omega) hj.1 hj.2
    ·rw[Wae (Ne.symm hpp)]at hc'
     exact(hrow p c' hc').stay (by omega)
   ·rw[Wbd,Wcq,Wa4,Wcr,Wcu]
 -- the end
 rintro Δ1 ⟨ps3,cs3,x3,x4,hp3,hcl3,hrow3,rfl⟩;refine JS.conv (Δ':=.bor (.lst ps3)::.val (encWeb n ts)::.val (.lst (cs3.map λc=>D.lst (c.2.map D.int)))::x3::x4::(Wai cs3.length .any++Wai (25-n.toNat) .any)) (λg G H σ k=>?_) ?_
 ·have:=Ok.thaw (cs:=cs3.map λc=>(c.1,c.2.map D.int)) (R:=[.bor (.lst ps3),.val (encWeb n ts),.val (.lst (cs3.map λc=>D.adr c.1)),x3,x4]) (T:=Wai (25-n.toNat) .any) (i:=2) (g:=g) (G:=G) (H:=H) (σ:=σ) (K:=K) (by rw[Wa9];exact k) (by rw[Wa9];rfl)
  rw[Wa9,Waa]at this;exact this
 refine Zbj (Za1 (Zab (Zee (by decide) (Zi6 (Zad rfl ⟨_,Or.inl rfl,?_,λ_=>true,λd=>match d with|.lst ds=>.tup ds|d=>d,λi d hd=>?_,?_⟩)))))
 ·rw[Waa];exact small1000 (by omega)
 ·rw[Waj]at hd
  cases q:cs3[i]? with
  |none=>rw[q]at hd;cases hd
  |some c=>
   rw[q]at hd;have hd:D.lst (c.2.map D.int)=d:=by simpa using hd
   subst hd;exact Zcp ⟨rfl,Za1 (Zab (Zad rfl (Zag (Zdc (Or.inl rfl) ⟨rfl,_,rfl⟩))))⟩
 ·refine Zag (Zdc (Or.inl rfl) ⟨ps3,rfl,?_⟩)
  have e:((cs3.map λc=>D.lst (c.2.map D.int)).filter λ_=>true).map (λd=>match d with|.lst ds=>D.tup ds|d=>d)=(cs3.map (·.2)).map encRow:=by
   rw[Wby.mpr (by simp),Wa9,Wa9];rfl
  rw[e];exact q _ _ hp3 ⟨by rw[Waa];omega,λp r hr=>by
   rw[Waj]at hr;cases z:cs3[p]? with
   |none=>rw[z]at hr;cases hr
   |some c=>rw[z]at hr;cases hr;exact hrow3 p c z⟩
end
theorem Zg1 {r:List Int}{x:Int}(h:x∈r):r.idxOf x<r.length/\r[r.idxOf x]?=some x/\∀m,m<r.idxOf x->r[m]?≠some x:=by
 have hl:=List.idxOf_lt_length_of_mem h;refine⟨hl,?_,λm hm e=>?_⟩
 ·rw[Wab hl,List.getElem_idxOf hl]
 ·obtain⟨h1,h2⟩:=Wah.mp e
  have:=List.not_of_lt_findIdx (p:=(· == x)) (xs:=r) hm;rw[h2]at this;simp at this
theorem Zcf (ts:List (Int × Int)) (m:Nat) (p:Int):(endsBelow ts m p).Pairwise (· < ·):=by
 unfold endsBelow;refine List.Pairwise.map _ (λa b h=>?_) (List.Pairwise.filter _ List.pairwise_lt_range);omega
theorem RowOk.least {ts:List (Int × Int)}{m:Nat}{p x:Int}{r:List Int}(h:RowOk ts m p (x::r)):∀a∈r,x<=a:=by
 intro a ha;have h1:=h.first;have h2:=Zcf ts m p;have h3:a∈endsBelow ts m p:=h.perm.mem_iff.mp (Waq _ ha);cases q:endsBelow ts m p with
 |nil=>rw[q]at h1;cases h1
 |cons y l=>
  rw[q]at h1 h2 h3;have e:x=y:=Wau.inj h1;subst e;rcases Wam.mp h3 with z|z
  ·omega
  ·have:=(List.pairwise_cons.mp h2).1 a z;omega
def rotAt (l:List Int) (j:Nat):List Int:=l.drop j++l.take j
theorem Zdq:∀(l:List Int),l≠[]->∃m,m∈l/\∀a∈l,m<=a
 |[],h=>absurd rfl h
 |[x],_=>⟨x,War,λa ha=>by rw[Wa8.mp ha];exact Wcv _⟩
 |x::y::l,_=>by
  obtain⟨m,h1,h2⟩:=Zdq (y::l) (by simp);by_cases h:x<=m
  ·refine⟨x,War,λa ha=>?_⟩
   rcases Wam.mp ha with z|z
   ·omega
   ·have:=h2 a z;omega
  ·refine⟨m,Waq _ h1,λa ha=>?_⟩
   rcases Wam.mp ha with z|z
   ·omega
   ·exact h2 a z
theorem Zr4 {l:List Int}(nd:l.Nodup) {j:Nat}{x:Int}(h:l[j]?=some x):l.idxOf x=j:=by
 obtain⟨h1,h2⟩:=Wah.mp h;obtain⟨i1,i2,_⟩:=Zg1 (r:=l) (x:=x) (by rw[<- h2];exact Wbc h1);obtain⟨i3,i4⟩:=Wah.mp i2;exact(Wdh nd).mp (i4.trans h2.symm)
theorem Zdo (ds:List D) {j:Nat}(h:j<=ds.length):cutD ds (some (j:Int)) none=ds.drop j:=by
 unfold cutD;rw[HT.sIx_nat,HT.sIx_none,Nat.min_eq_left h,Wcj (by rw[Wbj];exact Wak _)]
theorem Zhj (ds:List D) {j:Nat}(h:j<=ds.length):cutD ds none (some (j:Int))=ds.take j:=by
 unfold cutD;rw[HT.sIx_nat,HT.sIx_none,Nat.min_eq_left h,Wcm,Wde]
section
variable {P:Program}{w:World}{K:W.Frag}{mg:Str->Option Value}{base:Heap}{f:Addr}{fd:FuncData}
def fPlace:DSp:=λds Post=>∃n ts,∃e:Nat,ds=[encWeb n ts,.int e]/\e<2*ts.length/\Post (.int (placeAt ts e))
theorem Zjy (mb:Mb mg) (F:Fun K "place_of" "place_of" s_place_of f fd):FnOk P w K mg base CX0 1 f fd ["web","end"] (spD K fPlace):=by
 refine F.ok sc_place_of (Zc8 λds Post h=>by obtain⟨_,_,_,rfl,_⟩:=h;rfl) (λcdv A outer s H vs Q E hr h=>?_);have hu:=Zcy hr;refine⟨_,(Zap (Zba (Zbg (ixK K hu) (Zbg (ixK K hu) (Zbg (ixK K hu) (pv 0) Zai (λ_ _=>rfl)) (Zaq Zi0 (pv 1) Zai) (λ_ _=>rfl)) (Zaq Zcj (pv 1) Zai) (λ_ _=>rfl)))),Zga (λds Post hf=>?_) h⟩;obtain⟨n,ts,e,rfl,he,q⟩:=hf;refine⟨by simp,?_⟩;dsimp only[startD,Wbq,Wbs,Wbe];obtain⟨t,h1,h2,h3⟩:=Zpc he;rw[Wcu]at h2 h3;refine Zbj (Zay (Zay (Zay (Zad rfl (Za8 (Zdb (d:=.tup (ts.map encTie)) rfl ?_))))));refine Zay (Zad rfl (Za8 (jr_I ⟨by omega,by omega⟩ (Zdb h2 ?_))));exact Zay (Zad rfl (Za8 (jr_I (by show (0:Int)<2;omega) (Zdb h3 q))))
def Lv:Nat->D->Prop
 |0,_=>False
 |_+1,.int _=>True
 |m+1,.lst ds=>ds.length<=1000/\∀d∈ds,Lv m d
 |m+1,.tup ds=>ds.length<=1000/\∀d∈ds,Lv m d
 |_,_=>False
def fSame (m:Nat):DSp:=λds Post=>∃d,ds=[d,d]/\Lv m d/\Post (.bl true)
theorem Zce:2<=sizeLine:=by decide
theorem Zjz (ds:List D):(((ds.zip ds).map λp=>D.tup [p.1,p.2]).filter λ_=>true).map (λ_=>D.bl true)=(Wai ds.length true).map D.bl:=by
 rw[Wby.mpr (by simp),List.map_const',List.map_replicate,Waa,Wcf,Wcz]
theorem Zjf (n:Nat):(Wai n true).all id=true:=by
 rw[Wba];intro x hx;rw[(Wce.mp hx).2];rfl
theorem Zh7 {ds:List D}{i:Nat}{d:D}(hd':((ds.zip ds).map λp=>D.tup [p.1,p.2])[i]?=some d):∃e,e∈ds/\d=.tup [e,e]:=by
 rw[Waj]at hd';cases z:(ds.zip ds)[i]? with
 |none=>rw[z]at hd';cases hd'
 |some pr=>
  rw[z]at hd';have hd':D.tup [pr.1,pr.2]=d:=by simpa using hd'
  rw[Wbg]at z;have e:pr.1=pr.2:=Wau.inj (z.1.symm.trans z.2);exact⟨pr.1,Wap z.1,by rw[<- hd',<- e]⟩
theorem Zm9 {m:Nat}(mb:Mb mg) (C24:Callee P w K mg base m "_law_same" ["_law_found","_law_due"] (spD K (fSame m))) (F:Fun K "_law_same" "_law_same" s_law_same f fd):FnOk P w K mg base CX0 (m+1) f fd ["_law_found","_law_due"] (spD K (fSame (m+1))):=by
 refine F.ok sc_law_same (Zc8 λds Post h=>by obtain⟨_,rfl,_⟩:=h;rfl) (λcdv A outer s H vs Q E hr h=>?_);have hu:=Zcy hr;refine⟨_,(Zaf (Zb6 (truK K (Zah (isiUK K) rfl (mb "isinstance" (by decide)) Zam (Zaa (pv 1) (Zaa (Zax (Zaa (Zbt rfl (mb "list" (by decide)) Zci (show RelV (.ty "list") _ from rfl)) (Zaa (Zbt rfl (mb "tuple" (by decide)) Zbo (show RelV (.ty "tuple") _ from rfl)) Zac))) Zac))) (λ_=>rfl)) (Zaf (Zb6 (PW.pt (pw_or (Zdr (truK K (Zah (isiUK K) rfl (mb "isinstance" (by decide)) Zam (Zaa (pv 0) (Zaa (Zax (Zaa (Zbt rfl (mb "list" (by decide)) Zci (show RelV (.ty "list") _ from rfl)) (Zaa (Zbt rfl (mb "tuple" (by decide)) Zbo (show RelV (.ty "tuple") _ from rfl)) Zac))) Zac))) (λ_=>rfl))) (pw_or1 (Zaz Zez (Zah (isiUK K) rfl (mb "isinstance" (by decide)) Zam (Zaa (pv 0) (Zaa (Zbt rfl (mb "list" (by decide)) Zci (show RelV (.ty "list") _ from rfl)) Zac))) (Zah (isiUK K) rfl (mb "isinstance" (by decide)) Zam (Zaa (pv 1) (Zaa (Zbt rfl (mb "list" (by decide)) Zci (show RelV (.ty "list") _ from rfl)) Zac))) (nomark _))))) (Zap (Zba Zgn)) Za2) (Zaf (Zb6 (Zaz Zez (Zah (lenK K) rfl (mb "len" (by decide)) Zbm (Zaa (pv 0) Zac)) (Zah (lenK K) rfl (mb "len" (by decide)) Zbm (Zaa (pv 1) Zac)) (nomark _)) (Zap (Zba Zgn)) Za2) (Zap (Zba (Zah (allK K rfl) rfl (mb "all" (by decide)) Zkq (Zaa (Zcs ["_law_one","_law_other"] (show CompSc (defScope s_law_same) ["_law_found","_law_due"] _ [] [] from ⟨rfl,by decide +kernel,by decide +kernel,by decide +kernel,rfl,by decide +kernel⟩) rfl (Zro K rfl (mb "zip" (by decide)) (Zaa (pv 0) (Zaa (pv 1) Zac))) (λ_ _ _ _ _=>(gtupK (n:=2) K rfl (Zb0 (Zbh (i:=0) (show List.Nodup (["_law_one","_law_other"]:List Str) from by decide) rfl (Or.inl rfl)) (Zb0 (Zbh (i:=1) (show List.Nodup (["_law_one","_law_other"]:List Str) from by decide) rfl (Or.inl rfl)) Zen)))) (λ_ _ _ _ _=>Zcx) (λ_ _ _ _ _=>(Zbe C24 (hr.mono (by first|decide|omega)) (Zaa (pv 0) (Zaa (pv 1) Zac))))) Zac)))))) Za2) (Zaf (Zb6 (PW.pt (pw_or (Zaz Zez (Zah (isiUK K) rfl (mb "isinstance" (by decide)) Zam (Zaa (pv 0) (Zaa (Zbt rfl (mb "bool" (by decide)) Zik (show RelV (.ty "bool") _ from rfl)) Zac))) (Zah (isiUK K) rfl (mb "isinstance" (by decide)) Zam (Zaa (pv 1) (Zaa (Zbt rfl (mb "bool" (by decide)) Zik (show RelV (.ty "bool") _ from rfl)) Zac))) (nomark _)) (pw_or1 (Zaz Zez (Zah (isiUK K) rfl (mb "isinstance" (by decide)) Zam (Zaa (pv 0) (Zaa (Zbt rfl (mb "str" (by decide)) Zlx (show RelV (.ty "str") _ from rfl)) Zac))) (Zah (isiUK K) rfl (mb "isinstance" (by decide)) Zam (Zaa (pv 1) (Zaa (Zbt rfl (mb "str" (by decide)) Zlx (show RelV (.ty "str") _ from rfl)) Zac))) (nomark _))))) (Zap (Zba Zgn)) Za2) (Zap (Zba (Zmo (Zia Zcw (Zah (isiUK K) rfl (mb "isinstance" (by decide)) Zam (Zaa (pv 0) (Zaa (Zbt rfl (mb "int" (by decide)) Zl2 (show RelV (.ty "int") _ from rfl)) Zac))) (Zah (isiUK K) rfl (mb "isinstance" (by decide)) Zam (Zaa (pv 1) (Zaa (Zbt rfl (mb "int" (by decide)) Zl2 (show RelV (.ty "int") _ from rfl)) Zac))) (nomark _)) (Zmy (Zia Zcw (pv 0) (pv 1) (nomark _)))))))),Zga (λds Post hf=>?_) h⟩;obtain⟨d,rfl,hd,q⟩:=hf;refine⟨by simp,?_⟩;dsimp only[startD,Wbq,Wbs,Wbe];cases d with
 |int i=>
  refine Zas (Zb2 (Zbz (Za1 (Zab (Zad rfl (Zab (Zcd (Zab (Zbx (Zab (Zbx (Zag ⟨Zce,?_⟩))))))))))));refine Zag (Zet (ns:=["list","tuple"]) (T:="int") (b:=false) rfl (λ_=>by rfl) ⟨_,rfl,iteF (Za6 ?_)⟩);refine Zas (Zb2 (Zfq (Za7 (Zay (Za1 (Zab (Zad rfl (Zab (Zbx (Zag (Zbc (T:="int") (b:=false) rfl (λ_=>by rfl) ?_)))))))))));refine Za1 (Zab (Zad rfl (Zab (Zbx (Zag (Zbc (T:="int") (b:=false) rfl (λ_=>by rfl) (Zi2 ⟨_,rfl,iteF ?_⟩)))))));refine Za7 (Zay (Za1 (Zab (Zad rfl (Zab (Zbx (Zag (Zbc (T:="int") (b:=false) rfl (λ_=>by rfl) ?_))))))));refine Za1 (Zab (Zad rfl (Zab (Zbx (Zag (Zbc (T:="int") (b:=false) rfl (λ_=>by rfl) (Zi2 ⟨_,rfl,iteF (Za6 ?_)⟩)))))));refine Zbj (Zcz (Zay (Za1 (Zab (Zad rfl (Zab (Zbx (Zag (Zbc (T:="int") (b:=true) rfl (λ_=>by rfl) ?_)))))))));refine Za1 (Zab (Zad rfl (Zab (Zbx (Zag (Zbc (T:="int") (b:=true) rfl (λ_=>by rfl) (Zr1 ⟨_,rfl,iteT ?_⟩)))))));refine Zay (Zad rfl (Zad rfl (Zfs ?_)));rw[decide_eq_true rfl];exact q
 |lst ds=>
  obtain⟨hl,hd⟩:=hd;refine Zas (Zb2 (Zbz (Za1 (Zab (Zad rfl (Zab (Zcd (Zab (Zbx (Zab (Zbx (Zag ⟨Zce,?_⟩))))))))))));refine Zag (Zet (ns:=["list","tuple"]) (T:="list") (b:=true) rfl (λ_=>by rfl) ⟨_,rfl,iteT ?_⟩);refine Zas (Zb2 (Zfq (Zct (Zbz (Za1 (Zab (Zad rfl (Zab (Zcd (Zab (Zbx (Zab (Zbx (Zag ⟨Zce,?_⟩))))))))))))));refine Zag (Zet (ns:=["list","tuple"]) (T:="list") (b:=true) rfl (λ_=>by rfl) ⟨_,rfl,iteF ?_⟩);refine Za7 (Zay (Za1 (Zab (Zad rfl (Zab (Zbx (Zag (Zbc (T:="list") (b:=true) rfl (λ_=>by rfl) ?_))))))));refine Za1 (Zab (Zad rfl (Zab (Zbx (Zag (Zbc (T:="list") (b:=true) rfl (λ_=>by rfl) (Zi2 ⟨_,rfl,iteF (Za6 ?_)⟩)))))));refine Zas (Zb2 (Za7 (Zay (Za1 (Zab (Zad rfl (Zag (Zch (Or.inl rfl) (Za1 (Zab (Zad rfl (Zag (Zch (Or.inl rfl) (Zl6 ⟨_,rfl,?_⟩))))))))))))));rw[decide_eq_true rfl];refine iteF (Za6 (Zbj (Za1 (Zab (Zeb (by decide) (Zs5 (Zab (Zad rfl (Zab (Zad rfl (Zag ⟨ds,ds,rfl,rfl,?_,λ_=>true,λ_=>.bl true,λi d hd'=>?_,?_⟩)))))))))))
  ·rw[Waa,Wcf];exact small1000 (by omega)
  ·obtain⟨e,he,rfl⟩:=Zh7 hd'
   exact⟨_,_,rfl,Zcp ⟨rfl,Zbn (Zab (Zad rfl (Zab (Zad rfl (Zag ⟨e,rfl,hd _ he,rfl,_,_,rfl⟩)))))⟩⟩
  ·refine Zag ?_
   rw[Zjz];refine Zjg ?_;rw[Zjf];exact q
 |tup ds=>
  obtain⟨hl,hd⟩:=hd;refine Zas (Zb2 (Zbz (Za1 (Zab (Zad rfl (Zab (Zcd (Zab (Zbx (Zab (Zbx (Zag ⟨Zce,?_⟩))))))))))));refine Zag (Zet (ns:=["list","tuple"]) (T:="tuple") (b:=true) rfl (λ_=>by rfl) ⟨_,rfl,iteT ?_⟩);refine Zas (Zb2 (Zfq (Zct (Zbz (Za1 (Zab (Zad rfl (Zab (Zcd (Zab (Zbx (Zab (Zbx (Zag ⟨Zce,?_⟩))))))))))))));refine Zag (Zet (ns:=["list","tuple"]) (T:="tuple") (b:=true) rfl (λ_=>by rfl) ⟨_,rfl,iteF ?_⟩);refine Za7 (Zay (Za1 (Zab (Zad rfl (Zab (Zbx (Zag (Zbc (T:="tuple") (b:=false) rfl (λ_=>by rfl) ?_))))))));refine Za1 (Zab (Zad rfl (Zab (Zbx (Zag (Zbc (T:="tuple") (b:=false) rfl (λ_=>by rfl) (Zi2 ⟨_,rfl,iteF (Za6 ?_)⟩)))))));refine Zas (Zb2 (Za7 (Zay (Za1 (Zab (Zad rfl (Zag (Zch (Or.inr rfl) (Za1 (Zab (Zad rfl (Zag (Zch (Or.inr rfl) (Zl6 ⟨_,rfl,?_⟩))))))))))))));rw[decide_eq_true rfl];refine iteF (Za6 (Zbj (Za1 (Zab (Zeb (by decide) (Zqp (Zab (Zad rfl (Zab (Zad rfl (Zag ⟨ds,ds,rfl,rfl,?_,λ_=>true,λ_=>.bl true,λi d hd'=>?_,?_⟩)))))))))))
  ·rw[Waa,Wcf];exact small1000 (by omega)
  ·obtain⟨e,he,rfl⟩:=Zh7 hd'
   exact⟨_,_,rfl,Zcp ⟨rfl,Zbn (Zab (Zad rfl (Zab (Zad rfl (Zag ⟨e,rfl,hd _ he,rfl,_,_,rfl⟩)))))⟩⟩
  ·refine Zag ?_
   rw[Zjz];refine Zjg ?_;rw[Zjf];exact q
 |_=>exact hd.elim
theorem Zm1 (mb:Mb mg) (F:Fun K "_law_same" "_law_same" s_law_same f fd) (b:Binds K fd ["_law_found","_law_due"] []) (kp:W.keepIn K (.ref f)=true) (hm:mg "_law_same" = some (.ref f)):∀m:Nat,FnOk P w K mg base CX0 m f fd ["_law_found","_law_due"] (spD K (fSame m))
 |0=>by
  have no:∀vs H Q E,¬ spD K (fSame 0) vs H Q E:=λvs H Q E ⟨_,_,_,_,_,⟨_,_,hd,_⟩,_⟩=>hd;exact⟨λvs H Q E h=>absurd h (no vs H Q E),λA outer s H args us vs Q E _ _ _ _ h=>absurd h (no vs H Q E)⟩
 |m+1=>Zm9 mb ⟨⟨f,fd,Zm1 mb F b kp hm m,b,kp,hm⟩⟩ F
def isIntX:D->Bool
 |.int _=>true
 |_=>false
def fIsWX:DSp:=λds Post=>∃d T,ds=[d]/\tyD d=some T/\Post (.bl (isIntX d))
theorem Zku (mb:Mb mg) (F:Fun K "is_whole" "is_whole" s_is_whole f fd):FnOk P w K mg base CX0 1 f fd ["thing"] (spD K fIsWX):=by
 refine F.ok sc_is_whole (Zc8 λds Post h=>by obtain⟨_,_,rfl,_⟩:=h;rfl) (λcdv A outer s H vs Q E hr h=>?_);have hu:=Zcy hr;refine⟨_,(Zap (Zba (Zmo (Zah (isiUK K) rfl (mb "isinstance" (by decide)) Zam (Zaa (pv 0) (Zaa (Zbt rfl (mb "int" (by decide)) Zl2 (show RelV (.ty "int") _ from rfl)) Zac))) (Zmy (Zs2 (Zah (isiUK K) rfl (mb "isinstance" (by decide)) Zam (Zaa (pv 0) (Zaa (Zbt rfl (mb "bool" (by decide)) Zik (show RelV (.ty "bool") _ from rfl)) Zac)))))))),Zga (λds Post hf=>?_) h⟩;obtain⟨d,T,rfl,hT,q⟩:=hf;refine⟨by simp,?_⟩;dsimp only[startD,Wbq,Wbs,Wbe];cases d with
 |int i=>
  refine Zbj (Zcz (Za1 (Zab (Zad rfl (Zab (Zbx (Zag (Zbc (T:="int") (b:=true) rfl (λ_=>by rfl) ⟨_,rfl,?_⟩))))))));rw[if_pos rfl];exact Zix (Za1 (Zab (Zad rfl (Zab (Zbx (Zag (Zbc (T:="int") (b:=false) rfl (λ_=>by rfl) ⟨_,rfl,q⟩)))))))
 |bl b=>
  refine Zbj (Zcz (Za1 (Zab (Zad rfl (Zab (Zbx (Zag (Zbc (T:="bool") (b:=true) rfl (λ_=>by rfl) ⟨_,rfl,?_⟩))))))));rw[if_pos rfl];exact Zix (Za1 (Zab (Zad rfl (Zab (Zbx (Zag (Zbc (T:="bool") (b:=true) rfl (λ_=>by rfl) ⟨_,rfl,q⟩)))))))
 |non=>exact Zbj (Zcz (Za1 (Zab (Zad rfl (Zab (Zbx (Zag (Zbc (T:="NoneType") (b:=false) rfl (λ_=>by rfl) ⟨_,rfl,iteF q⟩))))))))
 |str x=>exact Zbj (Zcz (Za1 (Zab (Zad rfl (Zab (Zbx (Zag (Zbc (T:="str") (b:=false) rfl (λ_=>by rfl) ⟨_,rfl,iteF q⟩))))))))
 |tup l=>exact Zbj (Zcz (Za1 (Zab (Zad rfl (Zab (Zbx (Zag (Zbc (T:="tuple") (b:=false) rfl (λ_=>by rfl) ⟨_,rfl,iteF q⟩))))))))
 |lst l=>exact Zbj (Zcz (Za1 (Zab (Zad rfl (Zab (Zbx (Zag (Zbc (T:="list") (b:=false) rfl (λ_=>by rfl) ⟨_,rfl,iteF q⟩))))))))
 |dct k l=>exact Zbj (Zcz (Za1 (Zab (Zad rfl (Zab (Zbx (Zag (Zbc (T:="dict") (b:=false) rfl (λ_=>by rfl) ⟨_,rfl,iteF q⟩))))))))
 |_=>cases hT
def fEnds:NSp:=λds Post=>∃n ts,∃p:Int,ds=[encWeb n ts,.int p]/\ts.length<=24/\Post ((endsBelow ts (2*ts.length) p).map .int)
theorem Zio (ts:List (Int × Int)) (m:Nat) (p:Int) (q:D->Bool) (hq:∀k:Nat,q (.int (0+(k:Int)))=decide (placeAt ts k=p)):(rngD 0 m).filter q=(endsBelow ts m p).map .int:=by
 unfold rngD endsBelow;rw[List.filter_map,Wa9];have e:(q∘λi:Nat=>D.int (0+(i:Int)))=λe=>decide (placeAt ts e=p):=by
  funext k;exact hq k
 rw[e];apply List.map_congr_left;intro k _;show D.int (0+(k:Int))=D.int (k:Int);rw[Wcu]
theorem Zf1 (mb:Mb mg) (C35:Callee P w K mg base 1 "place_of" ["web","end"] (spD K fPlace)) (F:Fun K "ends_at" "ends_at" s_ends_at f fd):FnOk P w K mg base CX0 2 f fd ["web","place"] (spN K fEnds):=by
 refine F.ok sc_ends_at (Zmd λds Post h=>by obtain⟨_,_,_,rfl,_⟩:=h;rfl) (λcdv A outer s H vs Q E hr h=>?_);have hu:=Zcy hr;refine⟨_,(Zap (Zba (Zcs ["end"] (show CompSc (defScope s_ends_at) ["web","place"] _ ["web","place"] [0,1] from ⟨rfl,by decide +kernel,by decide +kernel,by decide +kernel,rfl,by decide +kernel⟩) rfl (Zdm rfl (mb "range" (by decide)) (Zaa (Zaq Zd6 Zai (Zah (lenK K) rfl (mb "len" (by decide)) Zbm (Zaa (Zbg (ixK K hu) (pv 0) Zai (λ_ _=>rfl)) Zac))) Zac)) (λ_ _ _ _ _=>(Zbh (i:=0) (show List.Nodup (["end","web","place"]:List Str) from by decide) rfl (Or.inl rfl))) (λ_ _ _ _ _=>(Ziu (Zaz Zcw (Zbe C35 (hr.mono (by decide)) (Zaa (pv 1) (Zaa (pv 0) Zac))) (pv 2) (nomark _)))) (λ_ _ _ _ _=>(pv 0))))),Zrs (λds Post hf=>?_) h⟩;obtain⟨n,ts,p,rfl,hl,q⟩:=hf;refine⟨by simp,?_⟩;dsimp only[startD,Wbq,Wbs,Wbe];refine Zk2 (Znp (by decide) (Zdk ?_));refine Zab (Zay (Za8 (Za1 ?_)));refine Zab (Zay (Zad rfl (Za8 (Zdb (d:=.tup (ts.map encTie)) rfl ?_))));refine Zag (Zch (Or.inr rfl) ?_);rw[Waa];refine jr_I (Or.inl ⟨by omega,by omega⟩) (Zag ⟨_,rfl,by omega,by omega,?_⟩);have eL:((2:Int)*(ts.length:Int)).toNat=2*ts.length:=by omega
 rw[eL];refine⟨by rw[Zcv];exact small1000 (by omega),λd=>match d with|.int e=>decide (placeAt ts e.toNat=p)|_=>false,λd=>d,λi d hd=>?_,?_⟩
 ·obtain⟨hi,rfl⟩:=Ze0 hd
  refine Za7 (Zay (Zbn (Zab (Zad rfl (Zab (Zad rfl (Zag ⟨n,ts,i,by rw[Wcu],hi,?_⟩)))))));refine Zad rfl (Zfs ⟨_,rfl,?_,?_⟩)
  ·show _=decide (placeAt ts (0+(i:Int)).toNat=p)
   rw[Wcu,Wbn]
  ·by_cases hp:placeAt ts i=p
   ·rw[decide_eq_true hp,if_pos rfl];exact Zad rfl ⟨rfl,_,rfl⟩
   ·rw[decide_eq_false hp,if_neg Wan];exact⟨_,rfl⟩
 ·rw[List.map_id',Zio ts _ p _ λk=>by show decide (placeAt ts (0+(k:Int)).toNat=p)=_;rw[Wcu,Wbn]]
  exact⟨_,rfl,q⟩
end
noncomputable def lf (l:List Int):List Int:=if h:l=[] then [] else rotAt l (l.idxOf (Classical.choose (Zdq l h)))
theorem Zjw:lf []=[]:=by unfold lf;rw[dif_pos rfl]
theorem Znm {l:List Int}{m:Int}(hm:m∈l) (hle:∀a∈l,m<=a):lf l=rotAt l (l.idxOf m):=by
 have h:l≠[]:=List.ne_nil_of_mem hm;unfold lf;rw[dif_neg h];obtain⟨c1,c2⟩:=Classical.choose_spec (Zdq l h);have e:Classical.choose (Zdq l h)=m:=by
  have:=c2 m hm;have:=hle _ c1;omega
 rw[e]
theorem Zjp (l:List Int) (j:Nat):(rotAt l j).Perm l:=by
 unfold rotAt;refine List.perm_append_comm.trans ?_;rw[Wcn]
theorem Zre {ts:List (Int × Int)}{m:Nat}{p:Int}{r:List Int}(h:RowOk ts m p r):lf r=r:=by
 cases r with
 |nil=>exact Zjw
 |cons x r=>
  have hle:=h.least;rw[Znm (m:=x) War (λa ha=>by rcases Wam.mp ha with z|z;exact(by omega);exact hle a z),List.idxOf_cons_self];unfold rotAt;rw[Wcm,List.take_zero,Wbf]
section
variable {P:Program}{w:World}{K:W.Frag}{mg:Str->Option Value}{base:Heap}{f:Addr}{fd:FuncData}
def fLeastE:DSp:=λds Post=>∃ns:List Int,ds=[.lst (ns.map .int)]/\ns.length<=100/\Post (encRow (lf ns))
theorem Zlb (mb:Mb mg) (F:Fun K "least_first" "least_first" s_least_first f fd):FnOk P w K mg base CX0 1 f fd ["ends"] (spD K fLeastE):=by
 refine F.ok sc_least_first (Zc8 λds Post h=>by obtain⟨_,rfl,_⟩:=h;rfl) (λcdv A outer s H vs Q E hr h=>?_);have hu:=Zcy hr;refine⟨_,(Zaf (Zb6 (Zdr (truK K (pv 0) (λ_=>rfl))) (Zap (Zba (Zax Zac))) Za2) (Zaf (Zat (i:=1) sc_least_first.nd rfl (Or.inl rfl) (bmK K PySem.F.plainAttrs_list PySem.F.slot_list_index PySem.F.type_list_index (idxLK K) (pv 0) (Zaa (Zah (minK K rfl) rfl (mb "min" (by decide)) Zjt (Zaa (pv 0) Zac)) Zac))) (Zap (Zba (Za4 (tupK K) rfl (mb "tuple" (by decide)) Zbo (Zaa (Zaq (addK K) (Zaw (slK K) (pv 0) (Za5 (pv 1)) Zbd) (Zaw (slK K) (pv 0) Zbd (Za5 (pv 1)))) Zac)))))),Zga (λds Post hf=>?_) h⟩;obtain⟨ns,rfl,hl,q⟩:=hf;refine⟨by simp,?_⟩;dsimp only[startD,Wbq,Wbs,Wbe];by_cases hn:ns=[]
 ·subst hn
  refine Zas (Zb2 (Zct (Zbz (Zad rfl ⟨false,rfl,?_⟩))));refine iteT (Zbj (Zcd (Zag ⟨by decide,?_⟩)));rw[Zjw]at q;exact q
 ·obtain⟨m,hm,hle⟩:=Zdq ns hn
  obtain⟨i1,i2,i3⟩:=Zg1 hm;refine Zas (Zb2 (Zct (Zbz (Zad rfl ⟨true,?_,?_⟩))))
  ·cases ns with
   |nil=>exact absurd rfl hn
   |cons x t=>rfl
  refine iteF (Za6 ?_);refine Zas (Zav (Zl8 (Zad rfl ⟨ns,rfl,by omega,Za1 (Zab (Zad rfl (Zag (Zkz (Or.inl rfl) hm hle ⟨m,rfl,hm,?_⟩))))⟩)));have hj:ns.idxOf m<=(ns.map D.int).length:=by rw[Waa];omega
  refine Zbj (Za1 (Zab (Zay (Zj3 (Zad rfl (Zem (Zad rfl ⟨_,rfl,Zew ⟨.lst ((ns.map D.int).drop (ns.idxOf m)),?_,?_⟩⟩)))))))
  ·show some (D.lst (cutD (ns.map D.int) (some ((ns.idxOf m:Nat):Int)) none))=_
   rw[Zdo _ hj]
  refine Zj3 (Zad rfl (Zew (Zem (Zad rfl ⟨_,rfl,.lst ((ns.map D.int).take (ns.idxOf m)),?_,?_⟩))))
  ·show some (D.lst (cutD (ns.map D.int) none (some ((ns.idxOf m:Nat):Int))))=_
   rw[Zhj _ hj]
  refine Zdw ?_ (Zag (Zdc (Or.inl rfl) ?_))
  ·rw[Wbj,Wbi,Waa]
   exact Wbr (small1000 (by omega))
  rw[Znm hm hle]at q;unfold encRow rotAt at q;rw[Wbd,Wcr,Wcq]at q;exact q
def seqD:Bool->List D->D
 |true,ds=>.lst ds
 |false,ds=>.tup ds
def fLeastU:DSp:=λds Post=>∃(b:Bool) (ns:List Int),ds=[seqD b (ns.map .int)]/\ns.length<=100/\Post (encRow (lf ns))
def fLeastT:DSp:=λds Post=>∃ns:List Int,ds=[.tup (ns.map .int)]/\ns.length<=100/\Post (encRow (lf ns))
theorem Zlu (mb:Mb mg) (F:Fun K "least_first" "least_first" s_least_first f fd):FnOk P w K mg base CX0 1 f fd ["ends"] (spD K fLeastT):=by
 refine F.ok sc_least_first (Zc8 λds Post h=>by obtain⟨_,rfl,_⟩:=h;rfl) (λcdv A outer s H vs Q E hr h=>?_);have hu:=Zcy hr;refine⟨_,(Zaf (Zb6 (Zdr (truK K (pv 0) (λ_=>rfl))) (Zap (Zba (Zax Zac))) Za2) (Zaf (Zat (i:=1) sc_least_first.nd rfl (Or.inl rfl) (bmK K PySem.F.plainAttrs_tuple PySem.F.slot_tuple_index PySem.F.type_tuple_index (idxK K) (pv 0) (Zaa (Zah (minK K rfl) rfl (mb "min" (by decide)) Zjt (Zaa (pv 0) Zac)) Zac))) (Zap (Zba (Za4 (tupK K) rfl (mb "tuple" (by decide)) Zbo (Zaa (Zaq (addK K) (Zaw (slK K) (pv 0) (Za5 (pv 1)) Zbd) (Zaw (slK K) (pv 0) Zbd (Za5 (pv 1)))) Zac)))))),Zga (λds Post hf=>?_) h⟩;obtain⟨ns,rfl,hl,q⟩:=hf;refine⟨by simp,?_⟩;dsimp only[startD,Wbq,Wbs,Wbe];by_cases hn:ns=[]
 ·subst hn
  refine Zas (Zb2 (Zct (Zbz (Zad rfl ⟨false,rfl,?_⟩))));refine iteT (Zbj (Zcd (Zag ⟨by decide,?_⟩)));rw[Zjw]at q;exact q
 ·obtain⟨m,hm,hle⟩:=Zdq ns hn
  obtain⟨i1,i2,i3⟩:=Zg1 hm;refine Zas (Zb2 (Zct (Zbz (Zad rfl ⟨true,?_,?_⟩))))
  ·cases ns with
   |nil=>exact absurd rfl hn
   |cons x t=>rfl
  refine iteF (Za6 ?_);refine Zas (Zav (Zjl (Zad rfl ⟨ns,rfl,Za1 (Zab (Zad rfl (Zag (Zkz (Or.inr rfl) hm hle ⟨m,ns.idxOf m,rfl,i2,i3,?_⟩))))⟩)));have hj:ns.idxOf m<=(ns.map D.int).length:=by rw[Waa];omega
  refine Zbj (Za1 (Zab (Zay (Zj3 (Zad rfl (Zem (Zad rfl ⟨_,rfl,Zew ⟨.tup ((ns.map D.int).drop (ns.idxOf m)),?_,?_⟩⟩)))))))
  ·show some (D.tup (cutD (ns.map D.int) (some ((ns.idxOf m:Nat):Int)) none))=_
   rw[Zdo _ hj]
  refine Zj3 (Zad rfl (Zew (Zem (Zad rfl ⟨_,rfl,.tup ((ns.map D.int).take (ns.idxOf m)),?_,?_⟩))))
  ·show some (D.tup (cutD (ns.map D.int) none (some ((ns.idxOf m:Nat):Int))))=_
   rw[Zhj _ hj]
  refine Zm5 ?_ (Zag (Zdc (Or.inr rfl) ?_))
  ·rw[Wbj,Wbi,Waa]
   exact Wbr (small1000 (by omega))
  rw[Znm hm hle]at q;unfold encRow rotAt at q;rw[Wbd,Wcr,Wcq]at q;exact q
theorem Zhg (mb:Mb mg) (F:Fun K "least_first" "least_first" s_least_first f fd):FnOk P w K mg base CX0 1 f fd ["ends"] (spD K fLeastU):=by
 have A:=Zlb (P:=P) (w:=w) (base:=base) mb F;have B:=Zlu (P:=P) (w:=w) (base:=base) mb F;refine⟨λvs H Q E h=>?_,λA' outer s H args us vs Q E hr e0 bd rv h=>?_⟩
 ·obtain⟨F',ds,Post,s1,r1,⟨b,ns,rfl,hl,q⟩,c⟩:=h
  rw[r1.length];rfl
 ·obtain⟨F',ds,Post,s1,r1,⟨b,ns,rfl,hl,q⟩,c⟩:=h
  cases b with
  |true=>exact A.run A' outer s H args us vs Q E hr e0 bd rv ⟨F',_,Post,s1,r1,⟨ns,rfl,hl,q⟩,c⟩
  |false=>exact B.run A' outer s H args us vs Q E hr e0 bd rv ⟨F',_,Post,s1,r1,⟨ns,rfl,hl,q⟩,c⟩
def rowD:D->Option (List D)
 |.lst ds=>some ds
 |.tup ds=>some ds
 |_=>none
theorem Zcl {d:D}{es:List D}(h:rowD d=some es):d=.lst es\/d=.tup es:=by
 cases d with
 |lst ds=>cases h;exact .inl rfl
 |tup ds=>cases h;exact .inr rfl
 |_=>cases h
theorem Zex {d:D}{es:List D}(h:rowD d=some es):[d]=[.lst es] \/ [d]=[.tup es]:=(Zcl h).imp (λe=>by rw[e]) (λe=>by rw[e])
def TyT (d:D):Prop:=∃T,tyD d=some T
def fIsRowX:DSp:=λds Post=>∃d T,ds=[d]/\tyD d=some T/\Post (.bl (rowD d).isSome)
theorem Zl1 {K:W.Frag}{Δ:Evt}{i:Nat}{d:D}{ds:List D}{P:List D->Evt->Prop}(hx:Δ[i]?=some (.val d)) (hor:d=.lst ds\/d=.tup ds) (p:P ds Δ):JI K (iSeq K (tVar i)) Δ P:=by
 rcases hor with rfl|rfl
 ·exact Zi6 (Zad hx ⟨_,Or.inl rfl,p⟩)
 ·exact Zf8 (Zad hx ⟨_,rfl,p⟩)
theorem Zby:1<=sizeLine:=by decide
theorem Zh0 (mb:Mb mg) (F:Fun K "is_row" "is_row" s_is_row f fd):FnOk P w K mg base CX0 1 f fd ["thing"] (spD K fIsRowX):=by
 refine F.ok sc_is_row (Zc8 λds Post h=>by obtain⟨_,_,rfl,_⟩:=h;rfl) (λcdv A outer s H vs Q E hr h=>?_);have hu:=Zcy hr;refine⟨_,(Zap (Zba (Zah (isiUK K) rfl (mb "isinstance" (by decide)) Zam (Zaa (pv 0) (Zaa (Zax (Zaa (Zbt rfl (mb "list" (by decide)) Zci (show RelV (.ty "list") _ from rfl)) (Zaa (Zbt rfl (mb "tuple" (by decide)) Zbo (show RelV (.ty "tuple") _ from rfl)) Zac))) Zac))))),Zga (λds Post hf=>?_) h⟩;obtain⟨d,T,rfl,hT,q⟩:=hf;refine⟨by simp,?_⟩;dsimp only[startD,Wbq,Wbs,Wbe];refine Zbj (Za1 (Zab (Zad rfl (Zab (Zcd (Zab (Zbx (Zab (Zbx (Zag ⟨Zce,?_⟩))))))))));have key:∀T',tyD d=some T' -> (∀K,PySem.W.kitAny K (.type T') (["list","tuple"].map Value.type)=some (rowD d).isSome)->JA K tNil [Slot.val d] λds Δ1=>JC K (rIsiU K) (d::D.tup [D.ty "list",D.ty "tuple"]::ds) Δ1 λd _=>Post d:=λT' h1 h2=>Zag (Zet (ns:=["list","tuple"]) h1 h2 q);cases d with
 |non=>exact key "NoneType" rfl (λ_=>by rfl)
 |bl b=>exact key "bool" rfl (λ_=>by rfl)
 |int i=>exact key "int" rfl (λ_=>by rfl)
 |str x=>exact key "str" rfl (λ_=>by rfl)
 |lst ds=>exact key "list" rfl (λ_=>by rfl)
 |tup ds=>exact key "tuple" rfl (λ_=>by rfl)
 |dct ks ds=>exact key "dict" rfl (λ_=>by rfl)
 |_=>cases hT
theorem Zmm (l:List D) (fb:D->Bool):(l.filter λ_=>true).map (λd=>D.bl (fb d))=(l.map fb).map D.bl:=by
 rw[Wby.mpr (by simp),Wa9];rfl
theorem Ziy {r s:List Int}(h:r.map D.int=s.map D.int):r=s:=by
 refine Wbp λi=>?_;have:=congrArg (λl:List D=>l[i]?) h;simp only[Waj]at this;cases a:r[i]? <;> cases b:s[i]? <;> rw[a,b]at this
 ·cases this
 ·cases this
 ·injection this with this;injection this with this;rw[this]
end
def TyU:Nat->D->Prop
 |0,d=>TyT d
 |n+1,d=>TyT d/\∀es,rowD d=some es->es.length<=60/\∀x∈es,TyU n x
def RowP (es:List Int) (d:D):Prop:=∃r:List Int,rowD d=some (r.map .int)/\r.Perm es
def goodO (n:Int) (ts:List (Int × Int)) (d:D):Prop:=∃es,rowD d=some es/\(es.length:Int)=n/\∀(i:Nat) e,es[i]?=some e->RowP (endsBelow ts (2*ts.length) (i:Int)) e
def fRowX (c:Addr):XSp:=λds Post Xp=>∃(es:List Int) (d:D),ds=[.lst (es.map .int),d]/\es.Pairwise (· <= ·)/\TyU 1 d/\(∀r:List Int,rowD d=some (r.map .int)->r.Perm es->Post (encRow (lf r)))/\(¬ RowP es d->Xp c)
def fOrdX (c:Addr):XSp:=λds Post Xp=>∃n ts d,ds=[encWeb n ts,d]/\WebOk n ts/\TyU 2 d/\¬ goodO n ts d/\Xp c
def fRowD:DSp:=λds Post=>∃(es r:List Int) (d:D),ds=[.lst (es.map .int),d]/\rowD d=some (r.map .int)/\r.Perm es/\es.Pairwise (· <= ·)/\r.length<=48/\Post (encRow (lf r))
def fOrdD:DSp:=λds Post=>∃(n:Int) (ts:List (Int × Int)) (o:List (List Int)) (d:D) (es:List D),ds=[encWeb n ts,d]/\WebOk n ts/\OrdOk n ts o/\rowD d=some es/\es.length=o.length/\(∀(i:Nat) e r,es[i]?=some e->o[i]?=some r->∃r':List Int,rowD e=some (r'.map .int)/\r'.Perm r/\lf r'=r)/\Post (encOrd o)
theorem Zo5 {d:D}{fs:List D}(h:rowD d=some fs):∃b,d=seqD b fs:=by
 rcases Zcl h with rfl|rfl
 ·exact⟨true,rfl⟩
 ·exact⟨false,rfl⟩
theorem Znv {fs:List D}(h:(fs.map isIntX).all id=true):∃r:List Int,fs=r.map .int:=by
 induction fs with
 |nil=>exact⟨[],rfl⟩
 |cons x fs ih=>
  have h':(isIntX x && (fs.map isIntX).all id)=true:=h;rw[Wa6]at h';obtain⟨r,rfl⟩:=ih h'.2;cases x with
  |int z=>exact⟨z::r,rfl⟩
  |_=>cases h'.1
theorem Zjs (r:List Int):((r.map D.int).map isIntX).all id=true:=by
 rw[Wa9,Wba];intro x hx;obtain⟨i,_,rfl⟩:=Was.mp hx;rfl
theorem Zlj {ms r es:List Int}(m1:ms.Perm r) (m2:ms.Pairwise (· <= ·)) (hs:es.Pairwise (· <= ·)) (hp:r.Perm es):ms=es:=List.Perm.eq_of_pairwise (le:=λa b=>a<=b) (λa b _ _ h1 h2=>by omega) m2 hs (m1.trans hp)
section
variable {P:Program}{w:World}{K:W.Frag}{mg:Str->Option Value}{base:Heap}{f:Addr}{fd:FuncData}{c0 c1 c2 c3 c4 c5 c6 c7 c8 c9 c10 c11 c12 c13 c14 c15:Addr}
theorem Zqt (mb:Mb mg) (cl:Cl K mg c0 c1 c2 c3 c4 c5 c6 c7 c8 c9 c10 c11 c12 c13 c14 c15) (C31:Callee P w K mg base 1 "is_row" ["thing"] (spD K fIsRowX)) (C32:Callee P w K mg base 1 "is_whole" ["thing"] (spD K fIsWX)) (C33:Callee P w K mg base 1 "least_first" ["ends"] (spD K fLeastU)) (F:Fun K "row_of" "row_of" s_row_of f fd):FnOk P w K mg base (CXE P w) 2 f fd ["ends","row"] (spX K (fRowX c2)):=by
 refine F.okX sc_row_of (Zlc λds Post Xp h=>by obtain⟨_,_,rfl,_⟩:=h;rfl) (λcdv A outer s H vs Q E hr h=>?_);have hu:=Zcy hr;have hv:=Zim hr;refine⟨_,(Zaf (Zb6 (PW.pt (pw_or (Zdr (truK K (Zbe C31 (hr.mono (by decide)) (Zaa (pv 1) Zac)) (λ_=>rfl))) (pw_or1 (Zdr (truK K (Zah (allK K rfl) rfl (mb "all" (by decide)) Zkq (Zaa (Zcs ["end"] (show CompSc (defScope s_row_of) ["ends","row"] _ [] [] from ⟨rfl,by decide +kernel,by decide +kernel,by decide +kernel,rfl,by decide +kernel⟩) rfl (seqK K (pv 1)) (λ_ _ _ _ _=>(Zbh (i:=0) (show List.Nodup (["end"]:List Str) from by decide) rfl (Or.inl rfl))) (λ_ _ _ _ _=>Zcx) (λ_ _ _ _ _=>(Zbe C32 (hr.mono (by decide)) (Zaa (pv 0) Zac)))) Zac)) (λ_=>rfl)))))) (Zap (Zgl cl.e_NoOrder rfl cl.n_NoOrder hr.hd Zgb (Zaa Zbk Zac))) Za2) (Zaf (Zb6 (Zaz (neILK K hv) (Zah (sortUK K) rfl (mb "sorted" (by decide)) Zh6 (Zaa (pv 1) Zac)) (pv 0) (nomark _)) (Zap (Zgl cl.e_NoOrder rfl cl.n_NoOrder hr.hd Zgb (Zaa Zbk Zac))) Za2) (Zap (Zba (Zbe C33 (hr.mono (by decide)) (Zaa (pv 1) Zac)))))),Ztm (λds Post Xp hf=>?_) h⟩;obtain⟨es,d,rfl,hs,⟨⟨T,hT⟩,hrow⟩,hG,hX⟩:=hf;refine⟨by simp,?_⟩;dsimp only[startD,Wbq,Wbs,Wbe,Wai];refine Zlh (Zqv (Zfq (Zct (Zbz (Zbn (Zab (Zad rfl (Zag ⟨d,T,rfl,hT,_,rfl,?_⟩))))))));cases er:rowD d with
 |none=>
  refine iteT (Zd7 (Zab (Zdu (Zag ⟨Zby,hX ?_⟩))));rintro⟨r,e,_⟩;rw[er]at e;cases e
 |some fs=>
 obtain⟨hl,hfs⟩:=hrow fs er;refine iteF (Zct (Zbz (Za1 (Zab (Zee (by decide) (Zl1 rfl (Zcl er) ⟨small1000 (by omega),λ_=>true,λd=>.bl (isIntX d),λj e he=>?_,?_⟩))))))
 ·obtain⟨Te,hTe⟩:=hfs e (Wap he)
  exact Zcp ⟨rfl,Zbn (Zab (Zad rfl (Zag ⟨e,Te,rfl,hTe,rfl,_,rfl⟩)))⟩
 refine Zag ?_;rw[Zmm];refine Zjg ⟨_,rfl,?_⟩;cases ha:(fs.map isIntX).all id with
 |false=>
  refine iteT (Zd7 (Zab (Zdu (Zag ⟨Zby,hX ?_⟩))));rintro⟨r,e,_⟩;rw[er]at e;cases e;rw[Zjs]at ha;cases ha
 |true=>
 obtain⟨r,rfl⟩:=Znv ha;rw[Waa]at hl;refine iteF (Zir ?_);refine Zlh (Zqv (Za7 (Zay (Zea (Zji (Zab (Zad rfl (Zag ⟨r,Zex er,by omega,λms m1 m2=>⟨_,rfl,Zad rfl (Zmg ⟨_,rfl,?_⟩)⟩⟩))))))));by_cases em:ms=es
 ·rw[decide_eq_true em]
  refine iteF (Zir ?_);obtain⟨b,eb⟩:=Zo5 er;exact Zox (Zsq (Zbn (Zab (Zad rfl (Zag ⟨b,r,by rw[eb],by omega,hG r er (by rw[<- em];exact m1.symm)⟩)))))
 ·rw[decide_eq_false em]
  refine iteT (Zd7 (Zab (Zdu (Zag ⟨Zby,hX ?_⟩))));rintro⟨r',e,hp⟩;rw[er]at e;have e:=Ziy (Wau.inj e);subst e;exact em (Zlj m1 m2 hs hp)
theorem Zp5 (mb:Mb mg) (cl:Cl K mg c0 c1 c2 c3 c4 c5 c6 c7 c8 c9 c10 c11 c12 c13 c14 c15) (C31:Callee P w K mg base 1 "is_row" ["thing"] (spD K fIsRowX)) (C30:Callee P w K mg base 2 "ends_at" ["web","place"] (spN K fEnds)) (C36:CalleeX P w K mg base 2 "row_of" ["ends","row"] (spX K (fRowX c2))) (F:Fun K "order_of" "order_of" s_order_of f fd):FnOk P w K mg base (CXE P w) 3 f fd ["web","rows"] (spX K (fOrdX c2)):=by
 refine F.okX sc_order_of (Zlc λds Post Xp h=>by obtain⟨_,_,_,rfl,_⟩:=h;rfl) (λcdv A outer s H vs Q E hr h=>?_);have hu:=Zcy hr;have hv:=Zim hr;refine⟨_,(Zaf (Zb6 (PW.pt (pw_or (Zdr (truK K (Zbe C31 (hr.mono (by decide)) (Zaa (pv 1) Zac)) (λ_=>rfl))) (pw_or1 (Zaz Zez (Zah (lenK K) rfl (mb "len" (by decide)) Zbm (Zaa (pv 1) Zac)) (Zbg (ixK K hu) (pv 0) Zai (λ_ _=>rfl)) (nomark _))))) (Zap (Zgl cl.e_NoOrder rfl cl.n_NoOrder hr.hd Zgb (Zaa Zbk Zac))) Za2) (Zap (Zba (Za4 (tupK K) rfl (mb "tuple" (by decide)) Zbo (Zaa (Zk5 ["place","row"] (show CompSc (defScope s_order_of) ["web","rows"] _ ["web"] [0] from ⟨rfl,by decide +kernel,by decide +kernel,by decide +kernel,rfl,by decide +kernel⟩) rfl rfl rfl rfl Zqq (Zdi K rfl (mb "enumerate" (by decide)) (Zaa (pv 1) Zac)) (λ_ _ _ _ _ _=>(gtupK (n:=2) K rfl (Zb0 (Zbh (i:=0) (show List.Nodup (["place","row","web"]:List Str) from by decide) rfl (Or.inl rfl)) (Zb0 (Zbh (i:=1) (show List.Nodup (["place","row","web"]:List Str) from by decide) rfl (Or.inl rfl)) Zen)))) (λ_ _ _ _ _ _ hx=>(Zpj C36 (hr.mono (by decide)) hx (Zaa (Zbe C30 (hr.mono (by decide)) (Zaa (pv 2) (Zaa (pv 0) Zac))) (Zaa (pv 1) Zac))))) Zac))))),Ztm (λds Post Xp hf=>?_) h⟩;obtain⟨n,ts,d,rfl,hW,⟨⟨T,hT⟩,hrow⟩,hng,hX⟩:=hf;refine⟨by simp,?_⟩;dsimp only[startD,Wbq,Wbs,Wbe,Wai];have hlen:=hW.len;refine Zlh (Zqv (Zfq (Zct (Zbz (Zbn (Zab (Zad rfl (Zag ⟨d,T,rfl,hT,_,rfl,?_⟩))))))));cases er:rowD d with
 |none=>exact iteT (Zd7 (Zab (Zdu (Zag ⟨Zby,hX⟩))))
 |some es=>
 obtain⟨hl,hes⟩:=hrow es er;refine iteF (Za7 (Zay (Za1 (Zab (Zad rfl (Zag (Zch (Zex er) (Zay (Zad rfl (Za8 (Zdb (d:=.int n) rfl (Zl6 ⟨_,rfl,?_⟩))))))))))));by_cases h2:(es.length:Int)=n
 case neg=>
  rw[decide_eq_false h2];exact iteT (Zd7 (Zab (Zdu (Zag ⟨Zby,hX⟩))))
 rw[decide_eq_true h2];refine iteF (Zir ?_);refine Zox (Zs1 (Znx (Zor (Zij (Zab (Zad rfl (Zag ⟨es,Zex er,λi hi=>?_,λi l Δ=>(∀(j:Nat) e,j<i->es[j]?=some e->RowP (endsBelow ts (2*ts.length) (j:Int)) e)/\l.length=i/\∃x y,Δ = [x,y,.val (encWeb n ts)],⟨λj e hj=>(by omega),rfl,_,_,rfl⟩,?_,?_⟩)))))))
 ·rw[Wa8.mp hi];exact⟨_,rfl⟩
 ·rintro i e l Δ2 hd ⟨hI,hll,x,y,rfl⟩
  obtain⟨e,he,rfl⟩:=Zek hd;have hi:=(Wah.mp he).1;refine Zo6 rfl (Ze2 (Zfg (Ze2 (Zfg (Zk7 ?_)))));refine Zoi (Zab (Zea (Zid (Zab (Zad rfl (Zab (Zad rfl (Zag ⟨n,ts,(i:Int),rfl,hlen,_,rfl,Zab (Zad rfl (Zag ⟨_,e,rfl,(Zcf _ _ _).imp λh=>Int.le_of_lt h,hes e (Wap he),λr hr hp=>?_,λ_=>hX⟩))⟩))))))));refine⟨small1000 (by omega),λj e' hj he'=>?_,by rw[Wag,hll];rfl,_,_,rfl⟩;by_cases hji:j=i
  ·subst hji
   rw[he]at he';cases he';exact⟨r,hr,hp⟩
  ·exact hI j e' (by omega) he'
 ·rintro l Δ2 ⟨hI,_⟩
  refine absurd ⟨es,er,h2,λi e he=>hI i e ?_ he⟩ hng;rw[Zev];exact(Wah.mp he).1
end
section
variable {P:Program}{w:World}{K:W.Frag}{mg:Str->Option Value}{base:Heap}{f:Addr}{fd:FuncData}
theorem Zqs (mb:Mb mg) (C31:Callee P w K mg base 1 "is_row" ["thing"] (spD K fIsRowX)) (C32:Callee P w K mg base 1 "is_whole" ["thing"] (spD K fIsWX)) (C33:Callee P w K mg base 1 "least_first" ["ends"] (spD K fLeastU)) (F:Fun K "row_of" "row_of" s_row_of f fd):FnOk P w K mg base CX0 2 f fd ["ends","row"] (spD K fRowD):=by
 refine F.ok sc_row_of (Zc8 λds Post h=>by obtain⟨_,_,_,rfl,_⟩:=h;rfl) (λcdv A outer s H vs Q E hr h=>?_);have hu:=Zcy hr;have hv:=Zim hr;refine⟨_,(Zaf (Zb6 (PW.pt (pw_or (Zdr (truK K (Zbe C31 (hr.mono (by decide)) (Zaa (pv 1) Zac)) (λ_=>rfl))) (pw_or1 (Zdr (truK K (Zah (allK K rfl) rfl (mb "all" (by decide)) Zkq (Zaa (Zcs ["end"] (show CompSc (defScope s_row_of) ["ends","row"] _ [] [] from ⟨rfl,by decide +kernel,by decide +kernel,by decide +kernel,rfl,by decide +kernel⟩) rfl (seqK K (pv 1)) (λ_ _ _ _ _=>(Zbh (i:=0) (show List.Nodup (["end"]:List Str) from by decide) rfl (Or.inl rfl))) (λ_ _ _ _ _=>Zcx) (λ_ _ _ _ _=>(Zbe C32 (hr.mono (by decide)) (Zaa (pv 0) Zac)))) Zac)) (λ_=>rfl)))))) Zfp Za2) (Zaf (Zb6 (Zaz (neILK K hv) (Zah (sortUK K) rfl (mb "sorted" (by decide)) Zh6 (Zaa (pv 1) Zac)) (pv 0) (nomark _)) Zfp Za2) (Zap (Zba (Zbe C33 (hr.mono (by decide)) (Zaa (pv 1) Zac)))))),Zga (λds Post hf=>?_) h⟩;obtain⟨es,r,d,rfl,er,hp,hs,hl,q⟩:=hf;refine⟨by simp,?_⟩;dsimp only[startD,Wbq,Wbs,Wbe,Wai];obtain⟨T,hT⟩:TyT d:=by rcases Zcl er with rfl|rfl <;> exact⟨_,rfl⟩
 refine Zas (Zb2 (Zfq (Zct (Zbz (Zbn (Zab (Zad rfl (Zag ⟨d,T,rfl,hT,_,rfl,?_⟩))))))));rw[er];refine iteF (Zct (Zbz (Za1 (Zab (Zee (by decide) (Zl1 rfl (Zcl er) ⟨?_,λ_=>true,λd=>.bl (isIntX d),λj e he=>?_,?_⟩))))))
 ·rw[Waa];exact small1000 (by omega)
 ·obtain⟨x,_,rfl⟩:=Was.mp (Wap he)
  exact Zcp ⟨rfl,Zbn (Zab (Zad rfl (Zag ⟨_,_,rfl,rfl,rfl,_,rfl⟩)))⟩
 refine Zag ?_;rw[Zmm];refine Zjg ⟨_,rfl,?_⟩;rw[Zjs];refine iteF (Za6 ?_);refine Zas (Zb2 (Za7 (Zay (Zea (Zji (Zab (Zad rfl (Zag ⟨r,Zex er,by omega,λms m1 m2=>⟨_,rfl,Zad rfl (Zmg ⟨_,rfl,?_⟩)⟩⟩))))))));rw[decide_eq_true (Zlj m1 m2 hs hp)];refine iteF (Za6 ?_);obtain⟨b,eb⟩:=Zo5 er;exact Zbj (Zbn (Zab (Zad rfl (Zag ⟨b,r,by rw[eb],by omega,q⟩))))
theorem Zpv (mb:Mb mg) (C31:Callee P w K mg base 1 "is_row" ["thing"] (spD K fIsRowX)) (C30:Callee P w K mg base 2 "ends_at" ["web","place"] (spN K fEnds)) (C36:Callee P w K mg base 2 "row_of" ["ends","row"] (spD K fRowD)) (F:Fun K "order_of" "order_of" s_order_of f fd):FnOk P w K mg base CX0 3 f fd ["web","rows"] (spD K fOrdD):=by
 refine F.ok sc_order_of (Zc8 λds Post h=>by obtain⟨_,_,_,_,_,rfl,_⟩:=h;rfl) (λcdv A outer s H vs Q E hr h=>?_);have hu:=Zcy hr;have hv:=Zim hr;refine⟨_,(Zaf (Zb6 (PW.pt (pw_or (Zdr (truK K (Zbe C31 (hr.mono (by decide)) (Zaa (pv 1) Zac)) (λ_=>rfl))) (pw_or1 (Zaz Zez (Zah (lenK K) rfl (mb "len" (by decide)) Zbm (Zaa (pv 1) Zac)) (Zbg (ixK K hu) (pv 0) Zai (λ_ _=>rfl)) (nomark _))))) Zfp Za2) (Zap (Zba (Za4 (tupK K) rfl (mb "tuple" (by decide)) Zbo (Zaa (Zcs ["place","row"] (show CompSc (defScope s_order_of) ["web","rows"] _ ["web"] [0] from ⟨rfl,by decide +kernel,by decide +kernel,by decide +kernel,rfl,by decide +kernel⟩) rfl (Zdi K rfl (mb "enumerate" (by decide)) (Zaa (pv 1) Zac)) (λ_ _ _ _ _=>(gtupK (n:=2) K rfl (Zb0 (Zbh (i:=0) (show List.Nodup (["place","row","web"]:List Str) from by decide) rfl (Or.inl rfl)) (Zb0 (Zbh (i:=1) (show List.Nodup (["place","row","web"]:List Str) from by decide) rfl (Or.inl rfl)) Zen)))) (λ_ _ _ _ _=>Zcx) (λ_ _ _ _ _=>(Zbe C36 (hr.mono (by decide)) (Zaa (Zbe C30 (hr.mono (by decide)) (Zaa (pv 2) (Zaa (pv 0) Zac))) (Zaa (pv 1) Zac))))) Zac))))),Zga (λds Post hf=>?_) h⟩;obtain⟨n,ts,o,d,es,rfl,hW,hO,er,hl,hes,q⟩:=hf;refine⟨by simp,?_⟩;dsimp only[startD,Wbq,Wbs,Wbe,Wai];have ho:=hO.len;have hn:=hW.hi;have hlen:=hW.len;obtain⟨T,hT⟩:TyT d:=by rcases Zcl er with rfl|rfl <;> exact⟨_,rfl⟩
 refine Zas (Zb2 (Zfq (Zct (Zbz (Zbn (Zab (Zad rfl (Zag ⟨d,T,rfl,hT,_,rfl,?_⟩))))))));rw[er];refine iteF (Za7 (Zay (Za1 (Zab (Zad rfl (Zag (Zch (Zex er) (Zay (Zad rfl (Za8 (Zdb (d:=.int n) rfl (Zl6 ⟨_,rfl,?_⟩))))))))))));rw[decide_eq_true (by omega)];refine iteF (Za6 ?_);refine Zbj (Za1 (Zab (Zeb (by decide) (Zij (Zab (Zad rfl (Zag ⟨es,Zex er,?_,λ_=>true,λd=>match d with|.tup [.int i,_]=>encRow (o.getD i.toNat [])|d=>d,λi d hd=>?_,?_⟩)))))))
 ·rw[Zev];exact small1000 (by omega)
 ·obtain⟨e,he,rfl⟩:=Zek hd
  have hi:=(Wah.mp he).1;have hi2:i<o.length:=by omega
  have hr:=Wab hi2;obtain⟨r',e1,e2,e3⟩:=hes i e _ he hr;have R:=hO.row i _ hr;have rl:=R.len;have pl:=e2.length_eq;refine⟨_,_,rfl,Zcp ⟨rfl,Zbn (Zab (Zea (Zid (Zab (Zad rfl (Zab (Zad rfl (Zag ⟨n,ts,(i:Int),rfl,hlen,_,rfl,Zab (Zad rfl (Zag ⟨_,r',e,rfl,e1,e2.trans R.perm,(Zcf _ _ _).imp λh=>Int.le_of_lt h,by omega,?_,_,_,rfl⟩))⟩))))))))⟩⟩;show encRow (lf r')=encRow (o.getD (i:Int).toNat []);rw[e3,Wbn,Wa2,hr];rfl
 have e1:((enD es).filter λ_=>true).map (λd=>match d with|.tup [.int i,_]=>encRow (o.getD i.toNat [])|d=>d)=o.map encRow:=by
  rw[Wby.mpr (by simp)];apply Wbp;intro i;rw[Waj,Waj];cases z:(enD es)[i]? with
  |none=>
   have:=List.getElem?_eq_none_iff.mp z;rw[Zev]at this;rw[Wcp (by omega)];rfl
  |some dd=>
   obtain⟨e,he,rfl⟩:=Zek z;have hi:=(Wah.mp he).1;rw[Wab (by omega:i<o.length)];show some (encRow (o.getD (i:Int).toNat []))=_;rw[Wbn,Wa2,Wab (by omega:i<o.length)];rfl
 rw[e1];exact Zag (Zdc (Or.inl rfl) q)
theorem Zqf {r:List Int}(nd:r.Nodup) (hl:∀x t,r=x::t->∀a∈t,x<=a) (j:Nat):lf (rotAt r j)=r:=by
 cases r with
 |nil=>unfold rotAt;rw[List.drop_nil,List.take_nil];exact Zjw
 |cons x t=>
  have hl:=hl x t rfl;have hp:=Zjp (x::t) j;have hm:x∈rotAt (x::t) j:=hp.mem_iff.mpr War;rw[Znm hm λa ha=>by
   rcases Wam.mp (hp.mem_iff.mp ha) with z|z
   ·omega
   ·exact hl a z]
  cases j with
  |zero=>
   have e:rotAt (x::t) 0=x::t:=by unfold rotAt;rw[Wcm,List.take_zero,Wbf]
   rw[e,List.idxOf_cons_self];exact e
  |succ j=>
   have e:rotAt (x::t) (j+1)=t.drop j++x::t.take j:=rfl;have ei:(rotAt (x::t) (j+1)).idxOf x=(t.drop j).length:=by
    refine Zr4 (hp.nodup_iff.mpr nd) ?_;rw[e,Waz (Wak _),Nat.sub_self];rfl
   rw[ei,e];unfold rotAt;rw[List.drop_left,List.take_left,Wbo,Wcn]
end
def Trn (o:List (List Int)) (d:D):Prop:=∃es,rowD d=some es/\es.length=o.length/\∀(i:Nat) e r,es[i]?=some e->o[i]?=some r->∃r':List Int,rowD e=some (r'.map .int)/\r'.Perm r/\lf r'=r
def fTrn:BSp:=λps ds Post=>Pen ps/\∃n ts o,ds=[encOrd o]/\WebOk n ts/\OrdOk n ts o/\∀d ps',Pen ps' -> Trn o d->Post d ps'
theorem Zss {ts:List (Int × Int)}{m:Nat}{p:Int}{r:List Int}(h:RowOk ts m p r):r.Nodup:=h.perm.nodup_iff.mpr ((Zcf _ _ _).imp λh=>by omega)
theorem Zoh {ts:List (Int × Int)}{m:Nat}{p:Int}{r:List Int}(h:RowOk ts m p r) (j:Nat):lf (rotAt r j)=r:=by
 refine Zqf (Zss h) (λx t e a ha=>?_) j;have hs:=Zcf ts m p;have hf:=h.first;have hm:a∈endsBelow ts m p:=h.perm.mem_iff.mp (by rw[e];exact Waq _ ha);cases hE:endsBelow ts m p with
 |nil=>rw[hE]at hm;cases hm
 |cons y s=>
  rw[hE]at hs hm;rw[hE,e]at hf;have hf:x=y:=Wau.inj hf;subst hf;rcases Wam.mp hm with z|z
  ·omega
  ·exact Int.le_of_lt (List.rel_of_pairwise_cons hs z)
theorem Zh5 {a b:D}{z:Int}(h0:0<=z) (h1:z<2):∃x,atI [a,b] z=some x/\(x=a\/x=b):=by
 rcases(show z=0\/z=1 by omega) with rfl|rfl
 ·exact⟨a,rfl,.inl rfl⟩
 ·exact⟨b,rfl,.inr rfl⟩
theorem Zoa {α:Type}{l:List α}{x y:α}{j:Nat}(h:(l++[x])[j]?=some y):(j<l.length/\l[j]?=some y)\/(j=l.length/\y=x):=by
 rcases Nat.lt_or_ge j l.length with hj|hj
 ·rw[Wbb hj]at h;exact .inl ⟨hj,h⟩
 ·rw[Waz hj]at h
  have hj2:j-l.length=0:=by
   rcases Nat.eq_zero_or_pos (j-l.length) with z|z
   ·exact z
   ·rw[Wcp (by show 1<=j-l.length;exact z)]at h;cases h
  rw[hj2]at h;cases h;exact .inr ⟨by omega,rfl⟩
section
variable {P:Program}{w:World}{K:W.Frag}{mg:Str->Option Value}{base:Heap}{f:Addr}{fd:FuncData}
theorem Zsg (mb:Mb mg) (C20:Callee P w K mg base 1 "_law_draw" ["_law_pen_here","_law_many"] (spB K fDraw)) (F:Fun K "_law_turned" "_law_turned" s_law_turned f fd):FnOk P w K mg base CX0 2 f fd ["_law_pen_here","_law_order_here"] (spB K fTrn):=by
 refine F.ok sc_law_turned (Zd1 λps ds Post h=>by obtain⟨_,_,_,_,rfl,_⟩:=h;rfl) (λcdv A outer s H vs Q E hr h=>?_);have hu:=Zcy hr;have hv:=Zim hr;refine⟨_,(Zaf (Zat (i:=2) sc_law_turned.nd rfl (Or.inl rfl) (Zbr Zac)) (Zaf (Zh2 PassesOwn.never rfl (seqK K (pv 1)) (Zbh (i:=3) sc_law_turned.nd rfl (Or.inl rfl)) (Zaf (Zat (i:=4) sc_law_turned.nd rfl (Or.inl rfl) (Zbe C20 (hr.mono (by decide)) (Zaa (pv 0) (Zaa (Zah (Zhm rfl) rfl (mb "max" (by decide)) Zoy (Zaa Zai (Zaa (Zah (lenK K) rfl (mb "len" (by decide)) Zbm (Zaa (pv 3) Zac)) Zac))) Zac)))) (Zap (Zdx (bmK K PySem.F.plainAttrs_list PySem.F.slot_list_append PySem.F.type_list_append Zdj (pv 2) (Zaa (Zbg (ixK K hu) (Zbr (Zaa (Za4 (lstK K) rfl (mb "list" (by decide)) Zci (Zaa (Zaq (addK K) (Zaw (slK K) (pv 3) (Za5 (pv 4)) Zbd) (Zaw (slK K) (pv 3) Zbd (Za5 (pv 4)))) Zac)) (Zaa (Zaq (addK K) (Zaw (slK K) (pv 3) (Za5 (pv 4)) Zbd) (Zaw (slK K) (pv 3) Zbd (Za5 (pv 4)))) Zac))) (Zbe C20 (hr.mono (by decide)) (Zaa (pv 0) (Zaa Zai Zac))) (λ_ _=>rfl)) Zac)))))) (Zap (Zba (Zbg (ixK K hu) (Zbr (Zaa (pv 2) (Zaa (Za4 (tupK K) rfl (mb "tuple" (by decide)) Zbo (Zaa (pv 2) Zac)) Zac))) (Zbe C20 (hr.mono (by decide)) (Zaa (pv 0) (Zaa Zai Zac))) (λ_ _=>rfl)))))),Zip (λps ds Post hf=>?_) h⟩;obtain⟨hp,n,ts,o,rfl,hW,hO,q⟩:=hf;refine⟨by simp,?_⟩;dsimp only[cxOf,startD,Wbq,Wbs,Wbe,Wai];have ho:=hO.len;have hn:=hW.hi;have hlen:=hW.len;refine Zas (Zgx (Zi9 (Zag ⟨by decide,?_⟩)));refine Zbl (λΔ=>∃(psx es:List D) (x3 x4:L2.Slot),Pen psx/\Trn o (.lst es) /\ Δ = [.bor (.lst psx),.val (encOrd o),.own (.lst es),x3,x4]) ?_ ?_
 ·refine Zjd (Zf8 (Zad rfl ⟨_,rfl,λi Δ=>∃(psx es:List D) (x3 x4:L2.Slot),Pen psx/\es.length=i/\(∀(i:Nat) e r,es[i]?=some e->o[i]?=some r->∃r':List Int,rowD e=some (r'.map .int)/\r'.Perm r/\lf r'=r) /\ Δ = [.bor (.lst psx),.val (encOrd o),.own (.lst es),x3,x4],⟨ps,[],_,_,hp,rfl,λi e r h=>(nomatch h),rfl⟩,?_,?_⟩))
  ·rintro i d Δ2 hd ⟨psx,es,x3,x4,hpx,hl,hI,rfl⟩
   rw[Waj]at hd;cases z:o[i]? with
   |none=>rw[z]at hd;cases hd
   |some r=>
    rw[z]at hd;have hd:encRow r=d:=by simpa using hd
    subst hd;have R:=hO.row i r z;have rl:=R.len;have hi:=(Wah.mp z).1;refine Zfg (Zas (Zav (Zcc rfl rfl (Zab (Za1 (Zab (Za8 (Zab (Zbw (Zes (Zaj rfl)) ?_)))))))));rw[Waa];refine Zag (Zhz (Zag ⟨_,_,rfl,rfl,hpx,_,rfl,by split <;> omega,by split <;> omega,λa ps2 hp2 a0 a1=>?_⟩))
    obtain⟨j,rfl⟩:∃j:Nat,a=(j:Int):=⟨a.toNat,by omega⟩;have hj:j<=(r.map D.int).length:=by rw[Waa];split at a1 <;> omega
    have er:cutD (r.map D.int) (some (j:Int)) none++cutD (r.map D.int) none (some (j:Int))=(rotAt r j).map D.int:=by
     rw[Zdo _ hj,Zhj _ hj];unfold rotAt;rw[Wbd,Wcr,Wcq]
    have ad:∀{Δ:Evt},PR2 K (rAddU K) (.tup (cutD (r.map D.int) (some (j:Int)) none)) (.tup (cutD (r.map D.int) none (some (j:Int)))) Δ (.tup ((rotAt r j).map D.int)):=λ{Δ}=>by
     rw[<- er];refine Zlk (Wbr (small1000 ?_));have h1:=Zib (r.map D.int) (some (j:Int)) none;have h2:=Zib (r.map D.int) none (some (j:Int));rw[Waa]at h1 h2;omega
    refine Zo4 rfl rfl (Zay (Zbw (Zcu (Zak (Zj6 (Zak (Za0 (Zcr (Zaj rfl) (Za3 (Zaj rfl)) Za9) (Zcr (Zaj rfl) Za9 (Za3 (Zaj rfl))) ad) Zau) λP p=>Zfu (Or.inr rfl) p) (Zak (Za0 (Zcr (Zaj rfl) (Za3 (Zaj rfl)) Za9) (Zcr (Zaj rfl) Za9 (Za3 (Zaj rfl))) ad) Zau)) Zce) (Zgc rfl rfl hp2 (by decide) (by decide) λz2 p3 hp3 z20 z21=>?_)));obtain⟨y,ey,hy⟩:=Zh5 (a:=.lst ((rotAt r j).map D.int)) (b:=.tup ((rotAt r j).map D.int)) z20 z21;have yr:rowD y=some ((rotAt r j).map D.int):=by rcases hy with rfl|rfl <;> rfl
    refine Zca ey ⟨_,_,rfl,rfl,small1000 (by omega),p3,es++[y],_,_,hp3,by rw[Wag,hl];rfl,λk e r2 he hr2=>?_,rfl⟩;rcases Zoa he with ⟨_,h1⟩|⟨h1,rfl⟩
    ·exact hI k e r2 h1 hr2
    ·rw[h1,hl,z]at hr2
     cases hr2;exact⟨rotAt r j,yr,Zjp r j,Zoh R j⟩
  ·rintro Δ2 ⟨psx,es,x3,x4,hpx,hl,hI,rfl⟩
   rw[Waa]at hl;exact⟨psx,es,x3,x4,hpx,⟨es,rfl,hl,hI⟩,rfl⟩
 rintro Δ1 ⟨psx,es,x3,x4,hpx,hT,rfl⟩;refine Zo2 (i:=2) rfl ?_;refine Zbj (Zay (Zbw (Zcu (Zak (Zaj rfl) (Zak (Zj6 (Zak (Zaj rfl) Zau) λP p=>Zdc (Or.inl rfl) p) Zau)) Zce) (Zgc rfl rfl hpx (by decide) (by decide) λr ps' hp' r0 r1=>?_)));obtain⟨e,ee,he⟩:=Zh5 (a:=.lst es) (b:=.tup es) r0 r1;refine Zca ee ⟨_,rfl,q e ps' hp' ?_⟩;obtain⟨es',e1,e2,e3⟩:=hT;cases e1;rcases he with rfl|rfl
 ·exact⟨es,rfl,e2,e3⟩
 ·exact⟨es,rfl,e2,e3⟩
theorem Zks:∀(l:List Nat) (b:Nat),(∀x∈l,x<=b)->l.sum<=l.length*b
 |[],_,_=>by simp
 |x::l,b,h=>by
  have:=Zks l b λy hy=>h y (Waq _ hy);have:=h x War;rw[List.sum_cons,Wax,Nat.succ_mul];omega
theorem Zl9 {i:Int}(h1:0<=i) (h2:i<=100):(D.pd (.int i)).shown.length<=13:=PyData.shown_int_le2 (by omega) (by omega)
theorem Zf9:∀ds:List D,D.pds ds=ds.map D.pd
 |[]=>rfl
 |d::ds=>by show D.pd d::D.pds ds=_;rw[Zf9 ds];rfl
theorem Zfm:∀xs:List PyData,PyData.shownAll xs=xs.map PyData.shown
 |[]=>rfl
 |x::xs=>by show x.shown::PyData.shownAll xs=_;rw[Zfm xs];rfl
theorem Zk9 {xs:List PyData}{b:Nat}(h:∀x∈xs,x.shown.length<=b):(PyData.list xs).shown.length<=xs.length*b+2*xs.length+3:=by
 show (listText (PyData.shownAll xs)).length<=_;have h1:=listText_len_le (PyData.shownAll xs);rw[Zfm]at h1 ⊢;rw[Wa9,Waa]at h1;have h2:=Zks (xs.map ((λs:Str=>s.length)∘PyData.shown)) b λy hy=>by
  obtain⟨x,hx,rfl⟩:=Was.mp hy;exact h x hx
 rw[Waa]at h2;omega
theorem Zmb {xs:List PyData}{b:Nat}(h:∀x∈xs,x.shown.length<=b):(PyData.tuple xs).shown.length<=xs.length*b+2*xs.length+3:=by
 show (tupleText (PyData.shownAll xs)).length<=_;have h1:=tupleText_len_le (PyData.shownAll xs);rw[Zfm]at h1 ⊢;rw[Wa9,Waa]at h1;have h2:=Zks (xs.map ((λs:Str=>s.length)∘PyData.shown)) b λy hy=>by
  obtain⟨x,hx,rfl⟩:=Was.mp hy;exact h x hx
 rw[Waa]at h2;omega
theorem Zmu:∀{ds:List D},(∀d∈ds,d.shw=true)->D.shws ds=true
 |[],_=>rfl
 |d::ds,h=>by
  show (d.shw && D.shws ds)=true;rw[h d War,Zmu λe he=>h e (Waq _ he)];rfl
theorem Zjm:∀{xs:List PyData}{k:Nat},(∀x∈xs,x.depth<=k)->PyData.depthAll xs<=k
 |[],_,_=>Wbt _
 |x::xs,k,h=>by
  have h1:=h x War;have h2:=Zjm (xs:=xs) (k:=k) λy hy=>h y (Waq _ hy);simp only[PyData.depthAll];omega
structure El (x:D):Prop where
 ty:∃T,tyD x=some T
 sh:x.shU
 dp:x.pd.depth<=10
 sz:x.pd.shown.length<=400
theorem Zd4 {i:Int}(h1:-1000000000000000000000000000000000000000000000000000000000000<=i) (h2:i<=1000000000000000000000000000000000000000000000000000000000000):El (.int i):=⟨⟨_,rfl⟩,.inl (.inl (decide_eq_true (Zm6 h1 h2))),by show 0<=10;decide,by
 show (Str.ofString (toString i)).length<=400;have e:=int_text_length_le10 (k:=61) (by decide) (a:=i) (Wbl (show i.natAbs<=1000000000000000000000000000000000000000000000000000000000000 by omega) (by decide));rw[ofString_length];omega⟩
def shB' (x:D):Bool:=x.shw && (decide (x.pd.depth<=10) && decide (x.pd.shown.length<=400))
theorem el_b {x:D}(T:String) (h:tyD x=some T) (s:shB' x=true):El x:=by
 unfold shB' at s;simp only[Wa6,decide_eq_true_eq]at s;exact⟨⟨T,h⟩,.inl (.inl s.1),s.2.1,s.2.2⟩
theorem Zo8:El (.dct [] []):=⟨⟨_,rfl⟩,.inl (.inr ⟨[],[],rfl,λ_ h=>(nomatch h),λ_ h=>(nomatch h)⟩),by decide,by decide⟩
theorem Zko {j n:Nat}(h:j<n):ixN n (j:Int)=some j:=by
 unfold ixN;rw[if_pos (by omega),if_pos (by omega)];rfl
end
structure Tz (n B:Nat) (x:D):Prop where
 sh:shD n x
 dp:x.pd.depth<=10+n
 sz:x.pd.shown.length<=B
theorem Zs6 {x:D}(h:x.shU):∀n,shD n x
 |0=>h
 |_+1=>.inl h
theorem Zpx {x:D}{n:Nat}(h:El x):Tz n 400 x:=⟨Zs6 h.sh n,Wat h.dp (Nat.le_add_right _ _),h.sz⟩
theorem Tz.up {n B B':Nat}{x:D}(h:Tz n B x) (hb:B<=B'):Tz n B' x:=⟨h.sh,h.dp,Wat h.sz hb⟩
theorem Zk8 {n B:Nat}{ds:List D}(h:∀x∈ds,Tz n B x):PyData.depthAll (D.pds ds)<=10+n:=Zjm λx hx=>by
 rw[Zf9]at hx;obtain⟨d,hd,rfl⟩:=Was.mp hx;exact(h d hd).dp
theorem Zii {n B m:Nat}{ds:List D}(hl:ds.length<=m) (h:∀x∈ds,Tz n B x):(PyData.tuple (D.pds ds)).shown.length<=m*B+2*m+3/\(PyData.list (D.pds ds)).shown.length<=m*B+2*m+3:=by
 have hb:∀x∈D.pds ds,x.shown.length<=B:=λx hx=>by
  rw[Zf9]at hx;obtain⟨d,hd,rfl⟩:=Was.mp hx;exact(h d hd).sz
 have h1:=Zmb hb;have h2:=Zk9 hb;have e:(D.pds ds).length=ds.length:=by rw[Zf9,Waa]
 rw[e]at h1 h2;have:=Nat.mul_le_mul_right B hl;omega
theorem Zfh {n B B' m:Nat}{d:D}{ds:List D}(hd:d=.lst ds\/d=.tup ds) (hl:ds.length<=m) (h:∀x∈ds,Tz n B x) (hb:m*B+2*m+3<=B'):Tz (n+1) B' d:=by
 rcases hd with rfl|rfl
 ·exact⟨.inr ⟨ds,.inr rfl,λx hx=>(h x hx).sh⟩,by show PyData.depthAll (D.pds ds)+1<=_;have:=Zk8 h;omega,Wat (Zii hl h).2 hb⟩
 ·exact⟨.inr ⟨ds,.inl rfl,λx hx=>(h x hx).sh⟩,by show PyData.depthAll (D.pds ds)+1<=_;have:=Zk8 h;omega,Wat (Zii hl h).1 hb⟩
theorem Zhl {n B:Nat}{d:D}(h:Tz n B d) (hn:n<=10) (hB:B<=16777216):RepV d where
 kind:=by
  have hu:d.shU->d.shT\/∃n,(∃e es,d=.lst (e::es)/\∀x∈e::es,shD n x)\/∃ds,d=.tup ds/\∀x∈ds,shD n x:=λh=>by
   rcases h with h|⟨x,rfl⟩
   ·exact .inl h
   ·refine .inr ⟨0,.inr ⟨_,rfl,λy hy=>?_⟩⟩
    rcases Wam.mp hy with rfl|hy
    ·exact .inl (.inl rfl)
    ·rw[Wa8.mp hy]
     exact .inl (.inr ⟨[],[],rfl,λ_ h=>(nomatch h),λ_ h=>(nomatch h)⟩)
  cases n with
  |zero=>exact hu h.sh
  |succ n=>
   rcases h.sh with z|⟨ds,rfl|rfl,z⟩
   ·exact hu z
   ·exact .inr ⟨n,.inr ⟨ds,rfl,z⟩⟩
   ·cases ds with
    |nil=>exact .inl (.inl rfl)
    |cons e es=>exact .inr ⟨n,.inl ⟨e,es,rfl,z⟩⟩
 deep:=Wat h.dp (by omega)
 size:=Wat h.sz (by rw[sizeLine_eq];exact hB)
theorem Zo3 {n:Nat}{i:Int}(h0:0<=i) (h1:i<=100):Tz n 13 (.int i):=⟨Zs6 (Zd4 (by omega) (by omega)).sh n,Wbt _,Zl9 h0 h1⟩
theorem Zrr {xs:List D}{z:Int}(h0:0<=z) (h1:z<(xs.length:Int)):∃x,atI xs z=some x/\x∈xs:=by
 obtain⟨j,rfl⟩:∃j:Nat,z=(j:Int):=⟨z.toNat,by omega⟩;have hj:j<xs.length:=by omega
 exact⟨xs[j],Zdh (Wab hj),Wbc hj⟩
theorem mulL' {K:W.Frag}{Δ:Evt}{d:D}{i:Int}{n:Nat}(h:i=(n:Int)) (hn:n<=1000):PR2 K (rMulL K) (.lst [d]) (.int i) Δ (.lst (Wai n d)):=by
 subst h;exact λP p=>Zq1 hn p
section
variable {P:Program}{w:World}{K:W.Frag}{mg:Str->Option Value}{base:Heap}{f:Addr}{fd:FuncData}
theorem addT60 {K:W.Frag}{Δ:Evt}{ds es:List D}(a b:Nat) (h1:ds.length<=a) (h2:es.length<=b) (h:a+b<=1000):PR2 K (rAddU K) (.tup ds) (.tup es) Δ (.tup (ds++es)):=Zlk (Wbr (small1000 (by omega)))
theorem Zda {ds es:List D}{a b:Nat}(h1:ds.length<=a) (h2:es.length<=b):(ds++es).length<=a+b:=by rw[Wag];omega
theorem Zde {ds es:List D}(h1:∀x∈ds,El x) (h2:∀x∈es,El x):∀x∈ds++es,El x:=λx hx=>(Wa0.mp hx).elim (h1 x) (h2 x)
def Sg (x:PySem.Str):Prop:=∀c∈x.cps.toList,c<16 ^ 8
theorem Ztu (s:String):Sg (PySem.Str.ofString s):=by
 intro c hc;rw[PySem.Str.ofString_eq_toList]at hc;have hc:c∈s.toList.map Char.toNat:=by simpa using hc
 obtain⟨a,_,rfl⟩:=Was.mp hc;have h:a.toNat<1114112:=by
  have:=a.valid;unfold UInt32.isValidChar Nat.isValidChar at this;have e:a.toNat=a.val.toNat:=rfl;omega
 exact Wdf h (by decide)
theorem Zsj {i:Int}(h0:0<=i) (h1:i<=100):El (.str (toString i:String)):=⟨⟨_,rfl⟩,.inl (.inl rfl),Wbt _,by
 show (reprText _).length<=400;have:=StrLaws.reprText_len (PySem.Str.ofString (toString i)) (Ztu _);have e:=int_text_length_le10 (k:=3) (by decide) (a:=i) (Wbl (show i.natAbs<=100 by omega) (by decide));have e2:(PySem.Str.ofString (toString i)).length<=5:=by rw[ofString_length];omega
 omega⟩
theorem Ztw (ds:List D) (k:Int) (h0:0<=k) (h1:k<=(ds.length:Int)):(cutD ds none (some k)).length+(cutD ds (some (k+1)) none).length<=ds.length/\(cutD ds none (some k)).length+(cutD ds (some k) none).length<=ds.length:=by
 obtain⟨j,rfl⟩:∃j:Nat,k=(j:Int):=⟨k.toNat,by omega⟩;have hj:j<=ds.length:=by omega
 rw[Zhj _ hj,Zdo _ hj,Wbi,Wbj];have:(cutD ds (some ((j:Int)+1)) none).length<=ds.length-j:=by
  unfold cutD;rw[show (j:Int)+1=((j+1:Nat):Int) by omega,HT.sIx_nat,Wbi,Wbj];omega
 omega
end
structure Wr (E:List Int) (d:D):Prop where
 typ:TyT d
 row:∀fs,rowD d=some fs->fs.length<=60/\∀x∈fs,El x
 no:¬ RowP E d
 tz:Tz 1 24200 d
theorem Wr.ty {E:List Int}{d:D}(h:Wr E d):TyU 1 d:=⟨h.typ,λes e=>⟨(h.row es e).1,λx hx=>((h.row es e).2 x hx).ty⟩⟩
theorem Zds {E:List Int}{d:D}{fs:List D}(hd:rowD d=some fs) (hl:fs.length<=60) (he:∀x∈fs,El x) (hn:∀r:List Int,fs=r.map D.int->¬ r.Perm E):Wr E d:=by
 refine⟨by rcases Zcl hd with rfl|rfl <;> exact⟨_,rfl⟩,λes e=>?_,?_,Zfh (m:=60) (B:=400) (Zcl hd) hl (λx hx=>Zpx (he x hx)) (by decide)⟩
 ·rw[hd]at e;cases e
  exact⟨hl,he⟩
 ·rintro⟨r,e,hp⟩
  rw[hd]at e;cases e;exact hn r rfl hp
theorem wr_o {E:List Int}{d:D}(h:El d) (hr:rowD d=none):Wr E d:=
 ⟨h.ty,λes e=>(by rw[hr]at e;cases e),λ⟨r,e,_⟩=>(by rw[hr]at e;cases e),(Zpx h).up (by decide)⟩
theorem Wr.lst {E:List Int}{fs:List D}(h:Wr E (.tup fs)):Wr E (.lst fs):=
 Zds rfl (h.row fs rfl).1 (h.row fs rfl).2 λr e hp=>h.no ⟨r,by rw[e];rfl,hp⟩
theorem np_l {E:List Int}{fs:List D}(h:fs.length≠E.length):∀r:List Int,fs=r.map D.int->¬ r.Perm E:=λr e hp=>h (by rw[e,Waa,hp.length_eq])
theorem np_x {E:List Int}{fs:List D}{x:D}(hx:x∈fs) (h:isIntX x=false):∀r:List Int,fs=r.map D.int->¬ r.Perm E:=λr e _=>by
 rw[e]at hx;obtain⟨i,_,rfl⟩:=Was.mp hx;cases h
theorem np_z {E:List Int}{fs:List D}{z:Int}(hx:D.int z∈fs) (h:z ∉ E):∀r:List Int,fs=r.map D.int->¬ r.Perm E:=λr e hp=>by
 rw[e]at hx;obtain⟨i,hi,e2⟩:=Was.mp hx;cases e2;exact h (hp.mem_iff.mp hi)
theorem Zou (ds:List D) (k:Int) (h0:0<=k) (h1:k<=(ds.length:Int)):(cutD ds none (some k)).length=k.toNat/\(cutD ds (some k) none).length=ds.length-k.toNat:=by
 obtain⟨j,rfl⟩:∃j:Nat,k=(j:Int):=⟨k.toNat,by omega⟩;have hj:j<=ds.length:=by omega
 rw[Zhj _ hj,Zdo _ hj,Wbi,Wbj];omega
theorem Zsb (ds:List D) (k:Int) (h0:0<=k) (h1:k<(ds.length:Int)):(cutD ds (some (k+1)) none).length=ds.length-k.toNat-1/\(cutD ds (some k) (some (k+1))).length=1:=by
 obtain⟨j,rfl⟩:∃j:Nat,k=(j:Int):=⟨k.toNat,by omega⟩;have e:=Zdo ds (j:=j+1) (by omega);rw[show (((j+1:Nat)):Int)=(j:Int)+1 by omega]at e;rw[e,Wbj];refine⟨by omega,?_⟩;unfold cutD;rw[show (j:Int)+1=((j+1:Nat):Int) by omega,HT.sIx_nat,HT.sIx_nat,Wbi,Wbj];omega
theorem Ztn {i:Int}(h0:0<=i) (h1:i<=100):El (.tup [.int i]):=by
 have hs:D.shws [D.int i]=true:=Zmu λd hd=>by
  rw[Wa8.mp hd];exact decide_eq_true (Zm6 (i:=i) (by omega) (by omega))
 have ht:∀x∈[D.int i],Tz 0 13 x:=λx hx=>by rw[Wa8.mp hx];exact Zo3 h0 h1
 have sz:=Zii (m:=1) (ds:=[.int i]) (Wak _) ht;exact⟨⟨_,rfl⟩,.inl (.inl hs),by show 0+1<=10;decide,Wat sz.1 (by decide)⟩
def fWrong:BSp:=λps ds Post=>Pen ps/\∃n ts p r,ds=[encWeb n ts,encRow r]/\WebOk n ts/\RowOk ts (2*ts.length) p r/\∀d ps',Pen ps' -> Wr (endsBelow ts (2*ts.length) p) d->Post d ps'
theorem Zkb {x:D}(h:El x):∀y∈[x],El y:=λy hy=>by rw[Wa8.mp hy];exact h
theorem Zfi {ts:List (Int × Int)}{m:Nat}{p z:Int}(h:z∈endsBelow ts m p):0<=z/\z<(m:Int):=by
 unfold endsBelow at h;obtain⟨e,he,rfl⟩:=Was.mp h;have:=Wb9.mp (Wb5.mp he).1;omega
theorem Zer {α:Type}{l r:List α}{x:α}:x∈l++[x]++r:=Wa0.mpr (.inl (Wa0.mpr (.inr War)))
section
variable {P:Program}{w:World}{K:W.Frag}{mg:Str->Option Value}{base:Heap}{f:Addr}{fd:FuncData}
theorem Zok (mb:Mb mg) (C20:Callee P w K mg base 1 "_law_draw" ["_law_pen_here","_law_many"] (spB K fDraw)) (F:Fun K "_law_wrong" "_law_wrong" s_law_wrong f fd):FnOk P w K mg base CX0 2 f fd ["_law_pen_here","_law_web_here","_law_row"] (spB K fWrong):=by
 refine F.ok sc_law_wrong (Zd1 λps ds Post h=>by obtain⟨_,_,_,_,_,rfl,_⟩:=h;rfl) (λcdv A outer s H vs Q E hr h=>?_);have hu:=Zcy hr;refine⟨_,(by (refine' Zaf ?s ?r); (case s=>exact(Zat (i:=3) sc_law_wrong.nd rfl (Or.inl rfl) (Zaq Zd6 Zai (Zah (lenK K) rfl (mb "len" (by decide)) Zbm (Zaa (Zbg (ixK K hu) (pv 1) Zai (λ_ _=>rfl)) Zac))))); (case r=>exact(by (refine' Zaf ?s ?r); (case s=>exact(Zat (i:=4) sc_law_wrong.nd rfl (Or.inl rfl) (Zbe C20 (hr.mono (by decide)) (Zaa (pv 0) (Zaa (Zaq Zma Zai Zai) Zac))))); (case r=>exact(by (refine' Zaf ?s ?r); (case s=>exact(Zat (i:=5) sc_law_wrong.nd rfl (Or.inl rfl) (Zbe C20 (hr.mono (by decide)) (Zaa (pv 0) (Zaa (Zaq (addK K) (Zah (lenK K) rfl (mb "len" (by decide)) Zbm (Zaa (pv 2) Zac)) Zai) Zac))))); (case r=>exact(by (refine' Zaf ?s ?r); (case s=>exact(by (refine' @Zat _ _ 6 _ _ _ _ sc_law_wrong.nd rfl (Or.inl rfl) ?e1 rfl (by first|exact .inl rfl|exact .inr rfl|assumption)); (case e1=>exact(@Zbr (Zae P w K mg base f cdv A outer s H E) _ _ _  (@Zaa (Zae P w K mg base f cdv A outer s H E) _ _ _ _ Zi5 (@Zaa (Zae P w K mg base f cdv A outer s H E) _ _ _ _ Zgn (@Zaa (Zae P w K mg base f cdv A outer s H E) _ _ _ _ Zai (@Zaa (Zae P w K mg base f cdv A outer s H E) _ _ _ _ Zbk (@Zaa (Zae P w K mg base f cdv A outer s H E) _ _ _ _ Zbk (@Zaa (Zae P w K mg base f cdv A outer s H E) _ _ _ _ Zjq (@Zaa (Zae P w K mg base f cdv A outer s H E) _ _ _ _ (@Zt2 _ _ _ _ _ _ _ _) (@Zaa (Zae P w K mg base f cdv A outer s H E) _ _ _ _ (Zaq (addK K) (pv 2) (@Zax (Zae P w K mg base f cdv A outer s H E) _ _ _ _ (@Zaa (Zae P w K mg base f cdv A outer s H E) _ _ _ _ (pv 3) Zac (@Zhq _ _ _ _)))) (@Zaa (Zae P w K mg base f cdv A outer s H E) _ _ _ _ (Zaq (addK K) (Zaq (addK K) (Zaw (slK K) (pv 2) Zbd (Za5 (pv 5))) (@Zax (Zae P w K mg base f cdv A outer s H E) _ _ _ _ (@Zaa (Zae P w K mg base f cdv A outer s H E) _ _ _ _ (Zaq Zf6 Zai Zai) Zac (@Zbf _ _ _ _ _ _)))) (Zaw (slK K) (pv 2) (Za5 (Zaq (addK K) (pv 5) Zai)) Zbd)) Zac (@Zbf _ _ _ _ _ _)) (@Zbf _ _ _ _ _ _)) (@Zed _ _ _ _ _)) (@Zed _ _ _ _ _)) (@Zbu _ _ _ _ _)) (@Zbu _ _ _ _ _)) (@Zbu _ _ _ _ _)) (@Zbu _ _ _ _ _)) (@Zbu _ _ _ _ _)))))); (case r=>exact(by (refine' Zaf ?s ?r); (case s=>exact(by (refine' @Zat _ _ 6 _ _ _ _ sc_law_wrong.nd rfl (Or.inl rfl) ?e2 rfl (by first|exact .inl rfl|exact .inr rfl|assumption)); (case e2=>exact(Zaq (addK K) (pv 6) (@Zbr (Zae P w K mg base f cdv A outer s H E) _ _ _  (@Zaa (Zae P w K mg base f cdv A outer s H E) _ _ _ _ (Zaq (addK K) (Zaq (addK K) (Zaw (slK K) (pv 2) Zbd (Za5 (pv 5))) (@Zax (Zae P w K mg base f cdv A outer s H E) _ _ _ _ (@Zaa (Zae P w K mg base f cdv A outer s H E) _ _ _ _ (Zaq (addK K) (pv 3) (pv 4)) Zac (@Zbf _ _ _ _ _ _)))) (Zaw (slK K) (pv 2) (Za5 (pv 5)) Zbd)) (@Zaa (Zae P w K mg base f cdv A outer s H E) _ _ _ _ (Zaq (addK K) (pv 2) (@Zax (Zae P w K mg base f cdv A outer s H E) _ _ _ _ (@Zaa (Zae P w K mg base f cdv A outer s H E) _ _ _ _ Zi5 Zac (@Zbu _ _ _ _ _)))) (@Zaa (Zae P w K mg base f cdv A outer s H E) _ _ _ _ (Zaq (addK K) (pv 2) (@Zax (Zae P w K mg base f cdv A outer s H E) _ _ _ _ (@Zaa (Zae P w K mg base f cdv A outer s H E) _ _ _ _ Zbk Zac (@Zbu _ _ _ _ _)))) (@Zaa (Zae P w K mg base f cdv A outer s H E) _ _ _ _ (Zaq (addK K) (pv 2) (@Zax (Zae P w K mg base f cdv A outer s H E) _ _ _ _ (@Zaa (Zae P w K mg base f cdv A outer s H E) _ _ _ _ (@Zax (Zae P w K mg base f cdv A outer s H E) _ _ _ _ (@Zaa (Zae P w K mg base f cdv A outer s H E) _ _ _ _ Zai Zac (@Zbu _ _ _ _ _))) Zac (@Zeh _ _ _ _ _)))) (@Zaa (Zae P w K mg base f cdv A outer s H E) _ _ _ _ (Zaq (addK K) (pv 2) (@Zax (Zae P w K mg base f cdv A outer s H E) _ _ _ _ (@Zaa (Zae P w K mg base f cdv A outer s H E) _ _ _ _ (Zbr Zac) Zac (@Zh1 _ _ _ _)))) Zac (@Zbf _ _ _ _ _ _)) (@Zbf _ _ _ _ _ _)) (@Zbf _ _ _ _ _ _)) (@Zbf _ _ _ _ _ _)) (@Zbf _ _ _ _ _ _))))))); (case r=>exact(by (refine' Zaf ?s ?r); (case s=>exact(Zb6 (Zaz Zm8 (Zah (lenK K) rfl (mb "len" (by decide)) Zbm (Zaa (pv 2) Zac)) Zai (nomark _)) (Zaf (Zat (i:=5) sc_law_wrong.nd rfl (Or.inl rfl) (Zaq Zcj (pv 5) (Zah (lenK K) rfl (mb "len" (by decide)) Zbm (Zaa (pv 2) Zac)))) (Zaf (by (refine' @Zat _ _ 6 _ _ _ _ sc_law_wrong.nd rfl (Or.inl rfl) ?e3 rfl (by first|exact .inl rfl|exact .inr rfl|assumption)); (case e3=>exact(Zaq (addK K) (pv 6) (@Zbr (Zae P w K mg base f cdv A outer s H E) _ _ _  (@Zaa (Zae P w K mg base f cdv A outer s H E) _ _ _ _ (Zaq (addK K) (Zaw (slK K) (pv 2) Zbd (Za5 (pv 5))) (Zaw (slK K) (pv 2) (Za5 (Zaq (addK K) (pv 5) Zai)) Zbd)) (@Zaa (Zae P w K mg base f cdv A outer s H E) _ _ _ _ (Zaq (addK K) (pv 2) (Zaw (slK K) (pv 2) (Za5 (pv 5)) (Za5 (Zaq (addK K) (pv 5) Zai)))) (@Zaa (Zae P w K mg base f cdv A outer s H E) _ _ _ _ (Zaq (addK K) (Zaq (addK K) (Zaw (slK K) (pv 2) Zbd (Za5 (pv 5))) (@Zax (Zae P w K mg base f cdv A outer s H E) _ _ _ _ (@Zaa (Zae P w K mg base f cdv A outer s H E) _ _ _ _ (Zbg (ixK K hu) (pv 2) (Zaq Zf6 (pv 5) Zai) (λ_ _=>rfl)) Zac (@Ze1 _ _ _ _ _)))) (Zaw (slK K) (pv 2) (Za5 (pv 5)) Zbd)) Zac (@Zbf _ _ _ _ _ _)) (@Zbf _ _ _ _ _ _)) (@Zbf _ _ _ _ _ _)))))) (Zaf (by (refine' @Zat _ _ 6 _ _ _ _ sc_law_wrong.nd rfl (Or.inl rfl) ?e4 rfl (by first|exact .inl rfl|exact .inr rfl|assumption)); (case e4=>exact(Zaq (addK K) (pv 6) (@Zbr (Zae P w K mg base f cdv A outer s H E) _ _ _  (@Zaa (Zae P w K mg base f cdv A outer s H E) _ _ _ _ (Zaq (addK K) (Zaq (addK K) (Zaw (slK K) (pv 2) Zbd (Za5 (pv 5))) (@Zax (Zae P w K mg base f cdv A outer s H E) _ _ _ _ (@Zaa (Zae P w K mg base f cdv A outer s H E) _ _ _ _ (Za4 strUK (by rfl) (mb "str" (by decide)) Zlx (Zaa (Zbg (ixK K hu) (pv 2) (pv 5) (λ_ _=>rfl)) Zac)) Zac (@Zhk _ _ _ _ _ _)))) (Zaw (slK K) (pv 2) (Za5 (Zaq (addK K) (pv 5) Zai)) Zbd)) (@Zaa (Zae P w K mg base f cdv A outer s H E) _ _ _ _ (Zaq (addK K) (Zaq (addK K) (Zaw (slK K) (pv 2) Zbd (Za5 (pv 5))) (@Zax (Zae P w K mg base f cdv A outer s H E) _ _ _ _ (@Zaa (Zae P w K mg base f cdv A outer s H E) _ _ _ _ (Zaq (addK K) (Zbg (ixK K hu) (pv 2) (pv 5) (λ_ _=>rfl)) (pv 3)) Zac (@Zbf _ _ _ _ _ _)))) (Zaw (slK K) (pv 2) (Za5 (Zaq (addK K) (pv 5) Zai)) Zbd)) Zac (@Zbf _ _ _ _ _ _)) (@Zbf _ _ _ _ _ _)))))) (Zaf (by (refine' @Zat _ _ 6 _ _ _ _ sc_law_wrong.nd rfl (Or.inl rfl) ?e5 rfl (by first|exact .inl rfl|exact .inr rfl|assumption)); (case e5=>exact(Zaq (addK K) (pv 6) (@Zbr (Zae P w K mg base f cdv A outer s H E) _ _ _  (@Zaa (Zae P w K mg base f cdv A outer s H E) _ _ _ _ (Zaq (addK K) (Zaq (addK K) (Zaw (slK K) (pv 2) Zbd (Za5 (pv 5))) (@Zax (Zae P w K mg base f cdv A outer s H E) _ _ _ _ (@Zaa (Zae P w K mg base f cdv A outer s H E) _ _ _ _ (@Zax (Zae P w K mg base f cdv A outer s H E) _ _ _ _ (@Zaa (Zae P w K mg base f cdv A outer s H E) _ _ _ _ (Zbg (ixK K hu) (pv 2) (pv 5) (λ_ _=>rfl)) Zac (@Ze1 _ _ _ _ _))) Zac (@Zeh _ _ _ _ _)))) (Zaw (slK K) (pv 2) (Za5 (Zaq (addK K) (pv 5) Zai)) Zbd)) (@Zaa (Zae P w K mg base f cdv A outer s H E) _ _ _ _ (Zax Zac) Zac (@Zeh _ _ _ _ _)) (@Zbf _ _ _ _ _ _)))))) (Zap (Zb6 (Zaz Zqx (Zbg (ixK K hu) (pv 2) (pv 5) (λ_ _=>rfl)) Zai (nomark _)) (Zap (by (refine' @Zat _ _ 6 _ _ _ _ sc_law_wrong.nd rfl (Or.inl rfl) ?e6 rfl (by first|exact .inl rfl|exact .inr rfl|assumption)); (case e6=>exact(Zaq (addK K) (pv 6) (Zaq (Zqk K) (@Zbr (Zae P w K mg base f cdv A outer s H E) _ _ _  (@Zaa (Zae P w K mg base f cdv A outer s H E) _ _ _ _ (Zaq (addK K) (Zaq (addK K) (Zaw (slK K) (pv 2) Zbd (Za5 (pv 5))) (@Zax (Zae P w K mg base f cdv A outer s H E) _ _ _ _ (@Zaa (Zae P w K mg base f cdv A outer s H E) _ _ _ _ (Zbg (ixK K hu) (@Zbr (Zae P w K mg base f cdv A outer s H E) _ _ _  (@Zaa (Zae P w K mg base f cdv A outer s H E) _ _ _ _ Zgn (@Zaa (Zae P w K mg base f cdv A outer s H E) _ _ _ _ Zgn Zac (@Zbu _ _ _ _ _)) (@Zbu _ _ _ _ _))) (Zbg (ixK K hu) (pv 2) (pv 5) (λ_ _=>rfl)) (λ_ _=>rfl)) Zac (@Ze1 _ _ _ _ _)))) (Zaw (slK K) (pv 2) (Za5 (Zaq (addK K) (pv 5) Zai)) Zbd)) Zac (@Zbf _ _ _ _ _ _))) Zai))))) Za2)))))) Za2)); (case r=>exact(Zap (Zba (Zbg (ixK K hu) (pv 6) (Zbe C20 (hr.mono (by decide)) (Zaa (pv 0) (Zaa (Zah (lenK K) rfl (mb "len" (by decide)) Zbm (Zaa (pv 6) Zac)) Zac))) (λ_ _=>rfl)))))))))))))))),Zip (λps ds Post hf=>?_) h⟩
 obtain⟨hp,n,ts,p,ns,rfl,hW,hR,q⟩:=hf;refine⟨by simp,?_⟩;dsimp only[cxOf,startD,Wbq,Wbs,Wbe,Wai];have hlen:=hW.len;have rl:=hR.len;have pl:=hR.perm.length_eq;have rb:∀i∈ns,0<=i/\i<2*(ts.length:Int):=λi hi=>by
  have:=Zfi (hR.perm.mem_iff.mp hi);omega
 have nl:(ns.map D.int).length=ns.length:=Waa _;have nl48:(ns.map D.int).length<=48:=by omega
 have out:∀z:Int,z<0\/2*(ts.length:Int)<=z->z ∉ endsBelow ts (2*ts.length) p:=λz hz hm=>by
  have:=Zfi hm;omega
 generalize endsBelow ts (2*ts.length) p=EE at pl out q;have ei:∀x∈ns.map D.int,El x:=λx hx=>by
  obtain⟨i,hi,rfl⟩:=Was.mp hx;have:=rb i hi;exact Zd4 (by omega) (by omega)
 have ec:∀(lo hi:Option Int),∀x∈cutD (ns.map D.int) lo hi,El x:=λlo hi x hx=>ei x (Zkr hx);have cl:∀lo hi,(cutD (ns.map D.int) lo hi).length<=48:=λlo hi=>Wat (Zib _ _ _) nl48;unfold encRow at *;refine Zas (Zav (Zbw (Za0 Zbb (Zes (Zcm (d:=.tup (ts.map encTie)) (Zaj rfl) Zbb rfl)) (pr_I (Or.inl ⟨by omega,by omega⟩))) ?_));rw[show (ts.map encTie).length=ts.length from Waa _];refine Zas (Zav (Zcc rfl rfl (Zab (Zbw (Za0 Zbb Zbb (pr_I ⟨by decide,by decide,by decide⟩)) (Zag (Zbq (m:=10 ^ (30:Int).toNat) rfl rfl hp (by decide) (by decide) λfar p1 hp1 f0 f1=>?_))))));have f1:far<1000000000000000000000000000000:=f1;refine Zas (Zav (Zcc rfl rfl (Zab (Zbw (Za0 (Zes (Zaj rfl)) Zbb Zb9) (Zag (Zbq (m:=((ns.map D.int).length:Int)+1) rfl rfl hp1 (by omega) (by omega) λat_ p2 hp2 a0 a1=>?_))))));obtain⟨c1,c2⟩:=Zou (ns.map D.int) at_ a0 (by omega);have l1:∀x:D,[x].length<=1:=λ_=>Wak _;refine Zbl (λΔ=>∃zs:List D,zs.length=9/\(∀y∈zs,Wr EE y) /\ Δ = [.bor (.lst p2),.val (encWeb n ts),.val (.tup (ns.map D.int)),.val (.int (2*(ts.length:Int))),.val (.int far),.val (.int at_),.val (.lst zs)]) ?_ ?_
 ·refine Zav (Zbw (Zcu (Zak Zmq (Zak Zni (Zak Zbb (Zak Zhv (Zak Zhv (Zak Zmc (Zak Zqu (Zak (Za0 (Zaj rfl) (Zb8 (Zak (Zaj rfl) Zau) Zby) (addT60 48 1 nl48 (l1 _) (by decide))) (Zak (Za0 (Za0 (Zcr (Zaj rfl) Za9 (Za3 (Zaj rfl))) (Zb8 (Zak (Za0 Zbb Zbb Zom) Zau) Zby) (addT60 48 1 (cl _ _) (l1 _) (by decide))) (Zcr (Zaj rfl) (Za3 (Za0 (Zaj rfl) Zbb Zb9)) Za9) (addT60 49 48 (Zda (cl _ _) (l1 _)) (cl _ _) (by decide))) Zau))))))))) (by show 9<=sizeLine;decide)) ⟨_,rfl,?_,rfl⟩)
  intro y hy;simp only[Wam,Wa5,or_false]at hy;rcases hy with rfl|rfl|rfl|rfl|rfl|rfl|rfl|rfl|rfl
  ·exact wr_o (el_b "NoneType" rfl (by decide +kernel)) rfl
  ·exact wr_o (el_b "bool" rfl (by decide +kernel)) rfl
  ·exact wr_o (Zd4 (by decide) (by decide)) rfl
  ·exact wr_o (el_b "str" rfl (by decide +kernel)) rfl
  ·exact wr_o (el_b "str" rfl (by decide +kernel)) rfl
  ·exact wr_o Zo8 rfl
  ·exact wr_o ⟨⟨_,rfl⟩,.inl (.inr ⟨[0],[1],rfl,by decide,by decide⟩),by decide,by decide +kernel⟩ rfl
  ·exact Zds rfl (Wat (Zda nl48 (l1 _)) (by decide)) (Zde ei (Zkb (Zd4 (by omega) (by omega)))) (np_l (by rw[Wag];show _+1≠_;omega))
  ·refine Zds rfl ?_ (Zde (Zde (ec _ _) (Zkb (Zd4 (by decide) (by decide)))) (ec _ _)) (np_z Zer (out _ (.inl (by decide))))
   have:=(Ztw (ns.map D.int) at_ a0 (by omega)).1;rw[Wag,Wag];show _+1+_<=60;omega
 rintro Δ1 ⟨zs,hzl,hzs,rfl⟩;refine Zbl (λΔ=>∃zs:List D,zs.length=14/\(∀y∈zs,Wr EE y) /\ Δ = [.bor (.lst p2),.val (encWeb n ts),.val (.tup (ns.map D.int)),.val (.int (2*(ts.length:Int))),.val (.int far),.val (.int at_),.val (.lst zs)]) ?_ ?_
 ·refine Zav (Zbw (Za0 (Zaj rfl) (Zcu (Zak (Za0 (Za0 (Zcr (Zaj rfl) Za9 (Za3 (Zaj rfl))) (Zb8 (Zak (Za0 (Zaj rfl) (Zaj rfl) Zb9) Zau) Zby) (addT60 48 1 (cl _ _) (l1 _) (by decide))) (Zcr (Zaj rfl) (Za3 (Zaj rfl)) Za9) (addT60 49 48 (Zda (cl _ _) (l1 _)) (cl _ _) (by decide))) (Zak (Za0 (Zaj rfl) (Zb8 (Zak Zmq Zau) Zby) (addT60 48 1 nl48 (l1 _) (by decide))) (Zak (Za0 (Zaj rfl) (Zb8 (Zak Zhv Zau) Zby) (addT60 48 1 nl48 (l1 _) (by decide))) (Zak (Za0 (Zaj rfl) (Zb8 (Zak (Zb8 (Zak Zbb Zau) Zby) Zau) Zby) (addT60 48 1 nl48 (l1 _) (by decide))) (Zak (Za0 (Zaj rfl) (Zb8 (Zak (Zcu Zau (by decide)) Zau) Zby) (addT60 48 1 nl48 (l1 _) (by decide))) Zau))))) (by show 5<=sizeLine;decide)) (Zeu (by rw[hzl];show 9+5<=sizeLine;decide))) ⟨_,by rw[Wag,hzl];rfl,?_,rfl⟩)
  have ap:∀x:D,El x->Wr EE (.tup (ns.map D.int++[x])):=λx hx=>Zds rfl (Wat (Zda nl48 (l1 _)) (by decide)) (Zde ei (Zkb hx)) (np_l (by rw[Wag];show _+1≠_;omega));intro y hy;rcases Wa0.mp hy with hy|hy
  ·exact hzs y hy
  simp only[Wam,Wa5,or_false]at hy;rcases hy with rfl|rfl|rfl|rfl|rfl
  ·refine Zds rfl ?_ (Zde (Zde (ec _ _) (Zkb (Zd4 (by omega) (by omega)))) (ec _ _)) (np_l ?_)
   ·rw[Wag,Wag,c1,c2]
    show _+1+_<=60;omega
   ·rw[Wag,Wag,c1,c2]
    show _+1+_≠_;omega
  ·exact ap _ (el_b "NoneType" rfl (by decide +kernel))
  ·exact ap _ (el_b "str" rfl (by decide +kernel))
  ·exact ap _ (el_b "tuple" rfl (by decide +kernel))
  ·exact ap _ (el_b "list" rfl (by decide +kernel))
 rintro Δ1 ⟨zs2,hzl2,hzs2,rfl⟩;refine Zbl (λΔ=>∃(zs:List D) (at_:Int),14<=zs.length/\zs.length<=30/\(∀y∈zs,Wr EE y) /\ Δ = [.bor (.lst p2),.val (encWeb n ts),.val (.tup (ns.map D.int)),.val (.int (2*(ts.length:Int))),.val (.int far),.val (.int at_),.val (.lst zs)]) ?_ ?_
 rotate_left
 ·rintro Δ1 ⟨zs3,at3,z1,z2,hzs3,rfl⟩
  refine Zbj (Zay (Zad rfl (Zcc rfl rfl (Zab (Zbw (Zfk (Zaj rfl)) (Zag (Zbq (m:=(zs3.length:Int)) rfl rfl hp2 (by omega) (by omega) λz p4 hp4 z0 z1=>?_)))))));obtain⟨y,ey,hy⟩:=Zrr (xs:=zs3) (z:=z) z0 z1;exact Zca ey ⟨_,rfl,q y _ hp4 (hzs3 y hy)⟩
 refine Zb2 (Za7 (Zay (Zbw (Zes (Zaj rfl)) (Za8 (Zm4 ⟨_,rfl,?_⟩)))));by_cases hz:(0:Int)<((ns.map D.int).length:Int)
 rotate_left
 ·rw[decide_eq_false hz]
  exact iteF (Za6 ⟨zs2,at_,by omega,by omega,hzs2,rfl⟩)
 rw[decide_eq_true hz];refine iteT (Zas (Zav (Zbw (Za0 (Zaj rfl) (Zes (Zaj rfl)) (pr_I hz)) ?_)));have b0:0<=at_ % ((ns.map D.int).length:Int):=Wb6 _ (by omega);have b1:at_ % ((ns.map D.int).length:Int)<((ns.map D.int).length:Int):=Wbv _ hz;clear c1 c2;generalize at_ % ((ns.map D.int).length:Int)=k at b0 b1;obtain⟨c1,c2⟩:=Zou (ns.map D.int) k b0 (by omega);obtain⟨c3,c4⟩:=Zsb (ns.map D.int) k b0 b1;obtain⟨c,hc,hat⟩:=Zdg (f:=D.int) b0 (by rw[nl]at b1;exact b1);have cr:=rb c (Wap hc);obtain⟨c',ec',hc'⟩:∃c':Int,atI (ns.map D.int) (k-1)=some (.int c')/\c'∈ns:=by
  rcases(show k=0\/1<=k by omega) with rfl|hk
  ·have e:ns=ns.dropLast++[ns.getLast (by rintro rfl;exact absurd hz (by decide))]:=(List.dropLast_concat_getLast _).symm
   refine⟨ns.getLast (by rintro rfl;exact absurd hz (by decide)),?_,List.getLast_mem _⟩;have z:=Zn4 (ns.dropLast.map D.int) (.int (ns.getLast (by rintro rfl;exact absurd hz (by decide))));have z2:ns.dropLast.map D.int++[D.int (ns.getLast (by rintro rfl;exact absurd hz (by decide)))]=ns.map D.int:=by
    conv=>rhs;rw[e,Wbd]
    rfl
   rw[z2]at z;exact z
  ·obtain⟨c',h1,h2⟩:=Zdg (f:=D.int) (xs:=ns) (i:=k-1) (by omega) (by omega)
   exact⟨c',h2,Wap h1⟩
 have cr':=rb c' hc';have mid:∀x:D,El x->(∀r:List Int,cutD (ns.map D.int) none (some k)++[x]++cutD (ns.map D.int) (some (k+1)) none=r.map D.int->¬ r.Perm EE)->Wr EE (.tup (cutD (ns.map D.int) none (some k)++[x]++cutD (ns.map D.int) (some (k+1)) none)):=λx hx hn=>by
  refine Zds rfl ?_ (Zde (Zde (ec _ _) (Zkb hx)) (ec _ _)) hn;rw[Wag,Wag,c1,c3];show _+1+_<=60;omega
 refine Zbl (λΔ=>∃zs:List D,zs.length=17/\(∀y∈zs,Wr EE y) /\ Δ = [.bor (.lst p2),.val (encWeb n ts),.val (.tup (ns.map D.int)),.val (.int (2*(ts.length:Int))),.val (.int far),.val (.int k),.val (.lst zs)]) ?_ ?_
 ·refine Zav (Zbw (Za0 (Zaj rfl) (Zcu (Zak (Za0 (Zcr (Zaj rfl) Za9 (Za3 (Zaj rfl))) (Zcr (Zaj rfl) (Za3 (Za0 (Zaj rfl) Zbb Zb9)) Za9) (addT60 48 48 (cl _ _) (cl _ _) (by decide))) (Zak (Za0 (Zaj rfl) (Zcr (Zaj rfl) (Za3 (Zaj rfl)) (Za3 (Za0 (Zaj rfl) Zbb Zb9))) (addT60 48 48 nl48 (cl _ _) (by decide))) (Zak (Za0 (Za0 (Zcr (Zaj rfl) Za9 (Za3 (Zaj rfl))) (Zb8 (Zak (Zcm (Zaj rfl) (Za0 (Zaj rfl) Zbb Zom) ec') Zau) Zby) (addT60 48 1 (cl _ _) (l1 _) (by decide))) (Zcr (Zaj rfl) (Za3 (Zaj rfl)) Za9) (addT60 49 48 (Zda (cl _ _) (l1 _)) (cl _ _) (by decide))) Zau))) (by show 3<=sizeLine;decide)) (Zeu (by rw[hzl2];show 14+3<=sizeLine;decide))) ⟨_,by rw[Wag,hzl2];rfl,?_,rfl⟩)
  intro y hy;rcases Wa0.mp hy with hy|hy
  ·exact hzs2 y hy
  simp only[Wam,Wa5,or_false]at hy;rcases hy with rfl|rfl|rfl
  ·exact Zds rfl (by rw[Wag,c1,c3];omega) (Zde (ec _ _) (ec _ _)) (np_l (by rw[Wag,c1,c3];omega))
  ·exact Zds rfl (by rw[Wag,c4];omega) (Zde ei (ec _ _)) (np_l (by rw[Wag,c4];omega))
  ·refine Zds rfl ?_ (Zde (Zde (ec _ _) (Zkb (Zd4 (by omega) (by omega)))) (ec _ _)) (np_l ?_)
   ·rw[Wag,Wag,c1,c2]
    show _+1+_<=60;omega
   ·rw[Wag,Wag,c1,c2]
    show _+1+_≠_;omega
 rintro Δ1 ⟨zs3,hzl3,hzs3,rfl⟩;refine Zbl (λΔ=>∃zs:List D,zs.length=19/\(∀y∈zs,Wr EE y) /\ Δ = [.bor (.lst p2),.val (encWeb n ts),.val (.tup (ns.map D.int)),.val (.int (2*(ts.length:Int))),.val (.int far),.val (.int k),.val (.lst zs)]) ?_ ?_
 ·refine Zav (Zbw (Za0 (Zaj rfl) (Zcu (Zak (Za0 (Za0 (Zcr (Zaj rfl) Za9 (Za3 (Zaj rfl))) (Zb8 (Zak (Zj6 (Zak (Zcm (Zaj rfl) (Zaj rfl) hat) Zau) λP p=>Zpq (Zm6 (by omega) (by omega)) p) Zau) Zby) (addT60 48 1 (cl _ _) (l1 _) (by decide))) (Zcr (Zaj rfl) (Za3 (Za0 (Zaj rfl) Zbb Zb9)) Za9) (addT60 49 48 (Zda (cl _ _) (l1 _)) (cl _ _) (by decide))) (Zak (Za0 (Za0 (Zcr (Zaj rfl) Za9 (Za3 (Zaj rfl))) (Zb8 (Zak (Za0 (Zcm (Zaj rfl) (Zaj rfl) hat) (Zaj rfl) Zb9) Zau) Zby) (addT60 48 1 (cl _ _) (l1 _) (by decide))) (Zcr (Zaj rfl) (Za3 (Za0 (Zaj rfl) Zbb Zb9)) Za9) (addT60 49 48 (Zda (cl _ _) (l1 _)) (cl _ _) (by decide))) Zau)) Zce) (Zeu (by rw[hzl3];show 17+2<=sizeLine;decide))) ⟨_,by rw[Wag,hzl3];rfl,?_,rfl⟩)
  intro y hy;rcases Wa0.mp hy with hy|hy
  ·exact hzs3 y hy
  simp only[Wam,Wa5,or_false]at hy;rcases hy with rfl|rfl
  ·exact mid _ (Zsj cr.1 (by omega)) (np_x Zer rfl)
  ·exact mid _ (Zd4 (by omega) (by omega)) (np_z Zer (out _ (.inr (by omega))))
 rintro Δ1 ⟨zs4,hzl4,hzs4,rfl⟩;refine Zbl (λΔ=>∃zs:List D,zs.length=21/\(∀y∈zs,Wr EE y) /\ Δ = [.bor (.lst p2),.val (encWeb n ts),.val (.tup (ns.map D.int)),.val (.int (2*(ts.length:Int))),.val (.int far),.val (.int k),.val (.lst zs)]) ?_ ?_
 ·refine Zav (Zbw (Za0 (Zaj rfl) (Zcu (Zak (Za0 (Za0 (Zcr (Zaj rfl) Za9 (Za3 (Zaj rfl))) (Zb8 (Zak (Zb8 (Zak (Zcm (Zaj rfl) (Zaj rfl) hat) Zau) Zby) Zau) Zby) (addT60 48 1 (cl _ _) (l1 _) (by decide))) (Zcr (Zaj rfl) (Za3 (Za0 (Zaj rfl) Zbb Zb9)) Za9) (addT60 49 48 (Zda (cl _ _) (l1 _)) (cl _ _) (by decide))) (Zak (Zb8 Zau (by show 0<=sizeLine;decide)) Zau)) Zce) (Zeu (by rw[hzl4];show 19+2<=sizeLine;decide))) ⟨_,by rw[Wag,hzl4];rfl,?_,rfl⟩)
  intro y hy;rcases Wa0.mp hy with hy|hy
  ·exact hzs4 y hy
  simp only[Wam,Wa5,or_false]at hy;rcases hy with rfl|rfl
  ·exact mid _ (Ztn cr.1 (by omega)) (np_x Zer rfl)
  ·exact Zds (fs:=[]) rfl (by decide) (λ_ h=>nomatch h) (np_l (by show 0≠_;omega))
 rintro Δ1 ⟨zs5,hzl5,hzs5,rfl⟩;refine Zb2 (Za7 (Zay (Zbw (Zcm (Zaj rfl) (Zaj rfl) hat) (Za8 (Zm4 ⟨_,rfl,?_⟩)))));by_cases hc2:c<2
 rotate_left
 ·rw[decide_eq_false hc2]
  exact iteF (Za6 ⟨zs5,k,by omega,by omega,hzs5,rfl⟩)
 rw[decide_eq_true hc2];obtain⟨bb,eb,hbb⟩:=Zh5 (a:=.bl false) (b:=.bl true) cr.1 hc2;refine iteT (Zav (Zbw (Za0 (Zaj rfl) (Za0 (Zcu (Zak (Za0 (Za0 (Zcr (Zaj rfl) Za9 (Za3 (Zaj rfl))) (Zb8 (Zak (Zmi (Zcu (Zak Zni (Zak Zni Zau)) Zce) (Zcm (Zaj rfl) (Zaj rfl) hat) eb) Zau) Zby) (addT60 48 1 (cl _ _) (l1 _) (by decide))) (Zcr (Zaj rfl) (Za3 (Za0 (Zaj rfl) Zbb Zb9)) Za9) (addT60 49 48 (Zda (cl _ _) (l1 _)) (cl _ _) (by decide))) Zau) Zby) Zbb (mulL' (n:=9) rfl (by decide))) (Zeu (by rw[hzl5,Wa3];show 21+9<=sizeLine;decide))) ⟨_,k,by rw[Wag];omega,by rw[Wag,Wa3];omega,?_,rfl⟩));intro y hy;rcases Wa0.mp hy with hy|hy
 ·exact hzs5 y hy
 ·rw[(Wce.mp hy).2]
  rcases hbb with rfl|rfl
  ·exact mid _ (el_b "bool" rfl (by decide +kernel)) (np_x Zer rfl)
  ·exact mid _ (el_b "bool" rfl (by decide +kernel)) (np_x Zer rfl)
end
def nSt (R:Evt) (cs:List (Addr × List Int)) (m:Nat):Evt:=R++(cs.map (λc=>L2.Slot.ownA c.1 (.lst (c.2.map D.int)))++Wai m .any)
theorem Zke {R:Evt}{as:List Addr}{rows:List (List Int)}{T:Nat}(hl:as.length=rows.length) (hT:rows.length<=T):L2.putN R.length (as.zip (rows.map λr=>OD.lst (r.map D.int))) (R++Wai T .any)=nSt R (as.zip rows) (T-rows.length):=by
 have e:as.zip (rows.map λr=>OD.lst (r.map D.int))=(as.zip rows).map λc=>(c.1,OD.lst (c.2.map D.int)):=by
  rw[List.zip_map_right];rfl
 have zl:(as.zip rows).length=rows.length:=by rw[Wcf,hl,Wcz]
 have:=Ziz ((as.zip rows).map λc=>(c.1,OD.lst (c.2.map D.int))) R [] T (by rw[Waa];omega);rw[Wbf,Wbf,Wa9,Waa,zl]at this;rw[e,this];unfold nSt;rw[Wb8];rfl
theorem Zhp {R:Evt}{cs:List (Addr × List Int)}{m p n:Nat}{c:Addr × List Int}(hn:n=R.length) (h:cs[p]?=some c):(nSt R cs m)[n+p]?=some (.ownA c.1 (.lst (c.2.map D.int))):=by
 subst hn;unfold nSt;rw[Waz (by omega),Wci,Wbb (by rw[Waa];exact(Wah.mp h).1),Waj,h];rfl
theorem Zgg {R:Evt}{cs:List (Addr × List Int)}{m p n:Nat}{a:Addr}{r:List Int}(hn:n=R.length) (h:p<cs.length):(nSt R cs m).set (n+p) (.ownA a (.lst (r.map D.int)))=nSt R (cs.set p (a,r)) m:=by
 subst hn;unfold nSt;rw[Wcx _ _ (by omega),Wci,Wc1 _ _ (by rw[Waa];exact h),Wdc]
theorem Zpo {α β:Type}{as:List α}{bs:List β}(h:as.length=bs.length):(as.zip bs).map (·.1)=as:=List.map_fst_zip (by omega)
theorem Zps {cs:List (Addr × List Int)}{p:Nat}{c:Addr × List Int}(h:cs[p]?=some c) (r:List Int):(cs.set p (c.1,r)).map (·.1)=cs.map (·.1):=by
 rw[Wdc];apply Wbp;intro i;have hp:=(Wah.mp h).1;by_cases hi:i=p
 ·subst hi
  rw[Wad (by rw[Waa];exact hp),Waj,h];rfl
 ·rw[Wae (Ne.symm hi)]
section
variable {K:W.Frag}
theorem Zm0 {t:TS}{R:Evt}{cs:List (Addr × List Int)}{m i:Nat}{P:L2.Pst}(hi:R[i]?=some (.val (.lst ((cs.map (·.1)).map D.adr)))) (h:JS K t (R.set i (.val (.lst (cs.map λc=>D.lst (c.2.map D.int))))++(Wai cs.length .any++Wai m .any)) P):JS K t (nSt R cs m) P:=by
 refine JS.conv (Δ':=R.set i (.val (.lst (cs.map λc=>D.lst (c.2.map D.int))))++(Wai cs.length .any++Wai m .any)) (λg G H σ k=>?_) h;have:=Ok.thaw (cs:=cs.map λc=>(c.1,c.2.map D.int)) (R:=R) (T:=Wai m .any) (i:=i) (g:=g) (G:=G) (H:=H) (σ:=σ) (K:=K) (by rw[Wa9,Wb8];exact k) (by rw[hi,Wa9,Wa9];rfl);rw[Wa9,Waa,Wb8]at this;exact this
end
structure Bad (n:Int) (ts:List (Int × Int)) (d:D):Prop where
 ty:TyU 2 d
 no:¬ goodO n ts d
 rep:RepW d
theorem Zgp {ts:List (Int × Int)}{m:Nat}{p z:Int}(h:z∈endsBelow ts m p):placeAt ts z.toNat=p:=by
 unfold endsBelow at h;obtain⟨e,he,rfl⟩:=Was.mp h;exact of_decide_eq_true (Wb5.mp he).2
theorem Zgm {n:Int}{ts:List (Int × Int)}{d:D}{es:List D}{i:Nat}{e:D}(hd:rowD d=some es) (hl:es.length<=60) (h:∀x∈es,TyU 1 x/\Tz 1 24200 x) (hi:es[i]?=some e) (hn:¬ RowP (endsBelow ts (2*ts.length) (i:Int)) e):Bad n ts d:=by
 refine⟨⟨by rcases Zcl hd with rfl|rfl <;> exact⟨_,rfl⟩,λes' e'=>?_⟩,?_,.inl (Zhl (n:=2) (Zfh (m:=60) (Zcl hd) hl (λx hx=>(h x hx).2) (Wak _)) (by decide) (by decide))⟩
 ·rw[hd]at e';cases e'
  exact⟨hl,λx hx=>(h x hx).1⟩
 ·rintro⟨es',e',_,hg⟩
  rw[hd]at e';cases e';exact hn (hg i e hi)
def IntsB (l:List Int):Prop:=l.length<=50/\∀x∈l,0<=x/\x<=100
theorem Zd0 {d:D}{l:List Int}(hd:rowD d=some (l.map .int)) (h:IntsB l):TyU 1 d/\Tz 1 24200 d:=by
 refine⟨⟨by rcases Zcl hd with rfl|rfl <;> exact⟨_,rfl⟩,λes' e'=>?_⟩,Zfh (m:=60) (B:=400) (Zcl hd) (by rw[Waa];have:=h.1;omega) (λx hx=>?_) (by decide)⟩
 ·rw[hd]at e';cases e'
  refine⟨by rw[Waa];have:=h.1;omega,λx hx=>?_⟩;obtain⟨i,_,rfl⟩:=Was.mp hx;exact⟨_,rfl⟩
 ·obtain⟨i,hi,rfl⟩:=Was.mp hx
  have:=h.2 i hi;exact(Zo3 this.1 this.2).up (by decide)
structure MixI (o:List (List Int)) (as:List Addr) (cs:List (Addr × List Int)):Prop where
 as:cs.map (·.1)=as
 len:cs.length=o.length
 row:∀c∈cs,IntsB c.2
theorem MixI.put {o:List (List Int)}{as:List Addr}{cs:List (Addr × List Int)}(h:MixI o as cs) {p:Nat}{c:Addr × List Int}(hc:cs[p]?=some c) {l:List Int}(hl:IntsB l):MixI o as (cs.set p (c.1,l)):=
 ⟨(Zps hc l).trans h.as,by rw[Wa1];exact h.len,λc' hc'=>by
  rcases Wca hc' with z|z
  ·exact h.row c' z
  ·rw[z];exact hl⟩
theorem Znt {α:Type}(l:List α) (j:Nat) (x:α):(l.take j++x::l.drop j).Perm (l++[x]):=by
 refine List.perm_middle.trans ?_;rw[Wcn];exact(List.perm_append_singleton _ _).symm
theorem Zpf {l:List Int}{x:Int}{j:Nat}(h:l.length<=49) (hb:∀x∈l,0<=x/\x<=100) (h0:0<=x) (h1:x<=100):IntsB (l.take j++x::l.drop j):=by
 have p:=Znt l j x;refine⟨by rw[p.length_eq,Wag];show _+1<=50;omega,λy hy=>?_⟩;rcases Wa0.mp (p.mem_iff.mp hy) with z|z
 ·exact hb y z
 ·rw[Wa8.mp z];exact⟨h0,h1⟩
theorem Ztl {l:List Int}{j:Nat}(h:IntsB l):IntsB (l.eraseIdx j):=⟨Wat (List.length_eraseIdx_le _ _) h.1,λx hx=>h.2 x (List.mem_of_mem_eraseIdx hx)⟩
theorem Zph (l:List Int) (j:Nat):(l.map D.int).eraseIdx j=(l.eraseIdx j).map D.int:=by
 induction l generalizing j with
 |nil=>rfl
 |cons x l ih=>
  cases j with
  |zero=>rfl
  |succ j=>show D.int x::(l.map D.int).eraseIdx j=_;rw[ih];rfl
def fMix5:BSp:=λps ds Post=>Pen ps/\∃n ts o,∃full:List Int,∃b:Bool,ds=[encOrd o,.lst (full.map .int),.bl b]/\WebOk n ts/\OrdOk n ts o/\2<=full.length/\full.length<=25/\full.Nodup/\(∀x∈full,∃(q:Nat) (r:List Int),x=(q:Int)/\o[q]?=some r/\r≠[])/\∀d ps',Pen ps' -> Bad n ts d->Post d ps'
def mR (ps:List D) (o:List (List Int)) (full:List Int) (b:Bool) (as:List Addr) (x5 x6 x7 x8:L2.Slot):Evt:=[.bor (.lst ps),.val (encOrd o),.val (.lst (full.map .int)),.val (.bl b),.val (.lst (as.map D.adr)),x5,x6,x7,x8]
section
variable {P:Program}{w:World}{K:W.Frag}{mg:Str->Option Value}{base:Heap}{f:Addr}{fd:FuncData}
theorem Zp4 (mb:Mb mg) (C20:Callee P w K mg base 1 "_law_draw" ["_law_pen_here","_law_many"] (spB K fDraw)) (F:Fun K "_law_mixed" "_law_mixed" s_law_mixed f fd):FnOk P w K mg base CX0 2 f fd ["_law_pen_here","_law_order_here","_law_full","_law_both"] (spB K fMix5):=by
 refine F.ok sc_law_mixed (Zd1 λps ds Post h=>by obtain⟨_,_,_,_,_,_,rfl,_⟩:=h;rfl) (λcdv A outer s H vs Q E hr h=>?_);have hu:=Zcy hr;refine⟨_,(Zaf (Zi7 9 (show ∀x∈(("_law_pen_here" :: "_law_order_here" :: "_law_full" :: "_law_both" :: "_law_rows" :: "_law_k" :: "_law_one" :: "_law_other" :: "_law_end" :: "!0" :: "!1" :: "!2" :: "!3" :: "!4" :: "!5" :: "!6" :: "!7" :: "!8" :: "!9" :: "!10" :: "!11" :: "!12" :: "!13" :: "!14" :: "!15" :: "!16" :: "!17" :: "!18" :: "!19" :: "!20" :: "!21" :: "!22" :: "!23" :: "!24" :: []):List Str).drop 9,(defScope s_law_mixed).names.lookup x=none from by decide +kernel) (Ze4 (i:=4) ["_law_row"] (show CompSc (defScope s_law_mixed) ("_law_pen_here" :: "_law_order_here" :: "_law_full" :: "_law_both" :: "_law_rows" :: "_law_k" :: "_law_one" :: "_law_other" :: "_law_end" :: "!0" :: "!1" :: "!2" :: "!3" :: "!4" :: "!5" :: "!6" :: "!7" :: "!8" :: "!9" :: "!10" :: "!11" :: "!12" :: "!13" :: "!14" :: "!15" :: "!16" :: "!17" :: "!18" :: "!19" :: "!20" :: "!21" :: "!22" :: "!23" :: "!24" :: []) _ [] [] from ⟨rfl,by decide +kernel,by decide +kernel,by decide +kernel,rfl,by decide +kernel⟩) rfl sc_law_mixed.nd rfl (Or.inl rfl) (seqK K (pv 1)) (λ_ _ _ _ _=>(Zbh (i:=0) (show List.Nodup (["_law_row"]:List Str) from by decide) rfl (Or.inl rfl))) (λ_ _ _ _ _=>Zcx) (λ_ _ _ _ _=>(Za4 (lstK K) rfl (mb "list" (by decide)) Zci (Zaa (pv 0) Zac))))) (Zaf (Zat (i:=5) sc_law_mixed.nd rfl (Or.inl rfl) (Zbe C20 (hr.mono (by decide)) (Zaa (pv 0) (Zaa (Zah (lenK K) rfl (mb "len" (by decide)) Zbm (Zaa (pv 2) Zac)) Zac)))) (Zaf (Zat (i:=6) sc_law_mixed.nd rfl (Or.inl rfl) (Zbg (ixK K hu) (pv 4) (Zbg (ixK K hu) (pv 2) (pv 5) (λ_ _=>rfl)) (λ_ _=>rfl))) (Zaf (Zat (i:=7) sc_law_mixed.nd rfl (Or.inl rfl) (Zbg (ixK K hu) (pv 4) (Zbg (ixK K hu) (pv 2) (Zaq Zcj (Zaq (addK K) (Zaq (addK K) (pv 5) Zai) (Zbe C20 (hr.mono (by decide)) (Zaa (pv 0) (Zaa (Zaq Zf6 (Zah (lenK K) rfl (mb "len" (by decide)) Zbm (Zaa (pv 2) Zac)) Zai) Zac)))) (Zah (lenK K) rfl (mb "len" (by decide)) Zbm (Zaa (pv 2) Zac))) (λ_ _=>rfl)) (λ_ _=>rfl))) (Zaf (Zat (i:=8) sc_law_mixed.nd rfl (Or.inl rfl) (bmK K PySem.F.plainAttrs_list PySem.F.slot_list_pop PySem.F.type_list_pop Zjc (pv 6) (Zaa (Zbe C20 (hr.mono (by decide)) (Zaa (pv 0) (Zaa (Zah (lenK K) rfl (mb "len" (by decide)) Zbm (Zaa (pv 6) Zac)) Zac))) Zac))) (Zaf (Zb6 (truK K (pv 3) (λ_=>rfl)) (Zap (Zdx (bmK K PySem.F.plainAttrs_list PySem.F.slot_list_insert PySem.F.type_list_insert Zfa (pv 6) (Zaa (Zbe C20 (hr.mono (by decide)) (Zaa (pv 0) (Zaa (Zaq (addK K) (Zah (lenK K) rfl (mb "len" (by decide)) Zbm (Zaa (pv 6) Zac)) Zai) Zac))) (Zaa (bmK K PySem.F.plainAttrs_list PySem.F.slot_list_pop PySem.F.type_list_pop Zjc (pv 7) (Zaa (Zbe C20 (hr.mono (by decide)) (Zaa (pv 0) (Zaa (Zah (lenK K) rfl (mb "len" (by decide)) Zbm (Zaa (pv 7) Zac)) Zac))) Zac)) Zac))))) Za2) (Zaf (Zdx (bmK K PySem.F.plainAttrs_list PySem.F.slot_list_insert PySem.F.type_list_insert Zfa (pv 7) (Zaa (Zbe C20 (hr.mono (by decide)) (Zaa (pv 0) (Zaa (Zaq (addK K) (Zah (lenK K) rfl (mb "len" (by decide)) Zbm (Zaa (pv 7) Zac)) Zai) Zac))) (Zaa (pv 8) Zac)))) (Zap (Zba (Zbg (ixK K hu) (Zbr (Zaa (pv 4) (Zaa (Za4 (tupK K) rfl (mb "tuple" (by decide)) Zbo (Zaa (Zcs ["_law_row"] (show CompSc (defScope s_law_mixed) ("_law_pen_here" :: "_law_order_here" :: "_law_full" :: "_law_both" :: "_law_rows" :: "_law_k" :: "_law_one" :: "_law_other" :: "_law_end" :: "!0" :: "!1" :: "!2" :: "!3" :: "!4" :: "!5" :: "!6" :: "!7" :: "!8" :: "!9" :: "!10" :: "!11" :: "!12" :: "!13" :: "!14" :: "!15" :: "!16" :: "!17" :: "!18" :: "!19" :: "!20" :: "!21" :: "!22" :: "!23" :: "!24" :: []) _ [] [] from ⟨rfl,by decide +kernel,by decide +kernel,by decide +kernel,rfl,by decide +kernel⟩) rfl (seqK K (pv 4)) (λ_ _ _ _ _=>(Zbh (i:=0) (show List.Nodup (["_law_row"]:List Str) from by decide) rfl (Or.inl rfl))) (λ_ _ _ _ _=>Zcx) (λ_ _ _ _ _=>(Za4 (tupK K) rfl (mb "tuple" (by decide)) Zbo (Zaa (pv 0) Zac)))) Zac)) Zac))) (Zbe C20 (hr.mono (by decide)) (Zaa (pv 0) (Zaa Zai Zac))) (λ_ _=>rfl))))))))))),Zip (λps ds Post hf=>?_) h⟩
 obtain⟨hp,n,ts,o,full,b,rfl,hW,hO,fl,fl2,fnd,hfull,q⟩:=hf;refine⟨by simp,?_⟩;dsimp only[cxOf,startD,Wbq,Wbs,Wbe];have hn2:=hW.hi;have hts:=hW.len;have hol:=hO.len;have rowb:∀(i:Nat) r,o[i]?=some r->r.length<=48/\∀x∈r,0<=x/\x<=100:=λi r hr=>by
  have R:=hO.row i r hr;have:=R.len;refine⟨by omega,λx hx=>?_⟩;have:=Zfi (R.perm.mem_iff.mp hx);omega
 refine Zas (Zl0 (Zgd (by decide) (Zf8 (Zad rfl ⟨_,rfl,by rw[Waa];exact small1000 (by omega),λ_=>true,λd=>match d with|.tup ds=>.lst ds|_=>.lst [],λi d hd=>?_,by decide,?_,λas hal hnd=>?_⟩))))
 ·rw[Waj]at hd
  cases z:o[i]? with
  |none=>rw[z]at hd;cases hd
  |some r=>
   rw[z]at hd;have hd:encRow r=d:=by simpa using hd
   subst hd;exact Zcp ⟨rfl,Zit (Zab (Zad rfl (Zag ⟨_,Or.inl rfl,rfl,_,rfl⟩)))⟩
 ·rw[Waa]
  have e:((o.map encRow).filter λ_=>true).length<=25:=Wat (Wco _ _) (by rw[Waa];omega);show 9+_<=34;omega
 have eO:Wbs (λd=>match d with|.tup ds=>OD.lst ds|_=>OD.lst []) ((o.map encRow).filter λ_=>true)=o.map λr=>OD.lst (r.map D.int):=by
  rw[Wby.mpr (by simp),Wa9];rfl
 have hal2:as.length=o.length:=by rw[hal,eO,Waa]
 have e:=Zke (R:=mR ps o full b as .any .any .any .any) (as:=as) (rows:=o) (T:=25) hal2 (by omega);rw[<- eO]at e;refine Eq.mpr (congrArg (λΔ=>JS K _ Δ _) e) ?_;clear e;have i0:MixI o as (as.zip o):=⟨Zpo hal2,by rw[Wcf,hal2,Wcz],λc hc=>by
  obtain⟨i,hi⟩:=Wb4 hc;have:=rowb i c.2 (Wbg.mp hi).2;exact⟨by omega,this.2⟩⟩
 have c0:∀(p:Nat) r,o[p]?=some r->∃a,as[p]?=some a/\(as.zip o)[p]?=some (a,r):=λp r hr=>by
  have hp2:p<as.length:=by rw[hal2];exact(Wah.mp hr).1
  exact⟨as[p],Wab hp2,Wbg.mpr ⟨Wab hp2,hr⟩⟩
 have L:(full.map D.int).length=full.length:=Waa _;refine Zas (Zav (Zcc rfl rfl (Zab (Zbw (Zfk (Zaj rfl)) (Zag (Zbq (m:=((full.map D.int).length:Int)) rfl rfl hp (by omega) (by omega) λk p1 hp1 k0 k1=>?_))))));rw[L]at k1;obtain⟨x,hx,hk⟩:=Zdg (f:=D.int) k0 k1;obtain⟨q1,r1,rfl,h1,hr1⟩:=hfull x (Wap hx);obtain⟨a1,ha1,z1⟩:=c0 q1 r1 h1;have at1:atI (as.map D.adr) (q1:Int)=some (.adr a1):=Zdh (by rw[Waj,ha1];rfl);refine Zas (Zav (Zay (Zad rfl (Zay (Zad rfl (Zad rfl (Zca hk (Zca at1 ?_))))))));refine Zbl (λΔ=>∃(p2:List D) (q2:Nat) (a2:Addr) (r2:List Int),Pen p2/\q1≠q2/\o[q2]?=some r2/\r2≠[]/\(as.zip o)[q2]?=some (a2,r2) /\ Δ = nSt (mR p2 o full b as (.val (.int k)) (.val (.adr a1)) (.val (.adr a2)) .any) (as.zip o) (25-o.length)) ?_ ?_
 ·refine Zav (Zay (Zad rfl (Zay (Zad rfl (Zay (Zay (Zay (Zad rfl (Za8 (Zdl (Zcc rfl rfl (Zab (Zbw (Za0 (Zfk (Zaj rfl)) Zbb Zom) (Zag (Zbq (m:=((full.map D.int).length:Int)-1) rfl rfl hp1 (by omega) (by omega) λg p2 hp2 g0 g1=>Zdl (Zbw (Zfk (Zaj rfl)) (jr_I (by show (0:Int)<((full.map D.int).length:Int);omega) ?_)))))))))))))))))
  rw[L]at g1 ⊢;have m0:0<=(k+1+g) % (full.length:Int):=Wb6 _ (by omega);have m1:(k+1+g) % (full.length:Int)<(full.length:Int):=Wbv _ (by omega);have mk:(k+1+g) % (full.length:Int)≠k:=by
   rcases Int.lt_or_le (k+1+g) (full.length:Int) with z|z
   ·rw[Int.emod_eq_of_lt (by omega) z];omega
   ·have e:=Int.add_emod_right (k+1+g-(full.length:Int)) (full.length:Int)
    rw[show k+1+g-(full.length:Int)+(full.length:Int)=k+1+g by omega,Int.emod_eq_of_lt (a:=k+1+g-(full.length:Int)) (by omega) (by omega)]at e;rw[e];omega
  obtain⟨y,hy,hk2⟩:=Zdg (f:=D.int) m0 m1;obtain⟨q2,r2,rfl,h2,hr2⟩:=hfull y (Wap hy);obtain⟨a2,ha2,z2⟩:=c0 q2 r2 h2;have at2:atI (as.map D.adr) (q2:Int)=some (.adr a2):=Zdh (by rw[Waj,ha2];rfl);refine Zca hk2 (Zca at2 ⟨p2,q2,a2,r2,hp2,λeq=>?_,h2,hr2,z2,rfl⟩);subst eq;have:=(List.getElem?_inj (by omega) fnd).mp (hx.trans hy.symm);omega
 rintro Δ1 ⟨p2,q2,a2,r2,hp2,hq,h2,hr2,z2,rfl⟩;obtain⟨b1,b1x⟩:=rowb q1 r1 h1;obtain⟨b2,b2x⟩:=rowb q2 r2 h2;have R1:=(hO.row q1 r1 h1).perm;have R2:=(hO.row q2 r2 h2).perm;have n1:1<=r1.length:=by
  cases r1 with
  |nil=>exact absurd rfl hr1
  |cons _ _=>exact Nat.succ_le_succ (Wbt _)
 have n2:1<=r2.length:=by
  cases r2 with
  |nil=>exact absurd rfl hr2
  |cons _ _=>exact Nat.succ_le_succ (Wbt _)
 have lt1:=(Wah.mp z1).1;refine Zbl (λΔ=>∃(p3:List D) (g:Nat) (e:Int),Pen p3/\g<r1.length/\0<=e/\e<=100 /\ Δ = nSt (mR p3 o full b as (.val (.int k)) (.val (.adr a1)) (.val (.adr a2)) (.val (.int e))) ((as.zip o).set q1 (a1,r1.eraseIdx g)) (25-o.length)) ?_ ?_
 ·have sl:∀(psx:List D),(nSt (mR psx o full b as (.val (.int k)) (.val (.adr a1)) (.val (.adr a2)) .any) (as.zip o) (25-o.length))[9+q1]?=some (.ownA a1 (.lst (r1.map D.int))):=λpsx=>Zhp rfl z1
  refine Zav (Zjo (a:=a1) rfl (sl p2) (Zcc rfl rfl (Zab (Zel rfl (sl p2) (Zag (Zbq rfl rfl hp2 (by rw[Waa];omega) (by rw[Waa];omega) λg p3 hp3 g0 g1=>?_))))));rw[Waa]at g1;have hg:g.toNat<r1.length:=by omega
  have he:=Wab hg;have eb:=b1x _ (Wbc hg);generalize r1[g.toNat]=e at he eb;refine⟨9+q1,r1.map D.int,g.toNat,.int e,sl p3,by rw[Wc5 g0],by rw[Waj,he];rfl,by rw[Waa];omega,p3,g.toNat,e,hp3,hg,eb.1,eb.2,?_⟩;have:=Zgg (R:=mR p3 o full b as (.val (.int k)) (.val (.adr a1)) (.val (.adr a2)) .any) (cs:=as.zip o) (m:=25-o.length) (a:=a1) (r:=r1.eraseIdx g.toNat) (n:=9) (p:=q1) rfl lt1;show ((nSt (mR p3 o full b as (.val (.int k)) (.val (.adr a1)) (.val (.adr a2)) .any) (as.zip o) (25-o.length)).set (9+q1) (.ownA a1 (.lst ((r1.map D.int).eraseIdx g.toNat)))).set 8 (.val (.int e))=_;rw[Zph,this];rfl
 rintro Δ1 ⟨p3,g,e,hp3,hg,e0,e1,rfl⟩;have i1:MixI o as ((as.zip o).set q1 (a1,r1.eraseIdx g)):=i0.put z1 (Ztl ⟨by omega,b1x⟩);have y1:((as.zip o).set q1 (a1,r1.eraseIdx g))[q1]?=some (a1,r1.eraseIdx g):=Wad lt1;have y2:((as.zip o).set q1 (a1,r1.eraseIdx g))[q2]?=some (a2,r2):=by rw[Wae hq];exact z2
 generalize (as.zip o).set q1 (a1,r1.eraseIdx g)=cs1 at i1 y1 y2;have le1:(r1.eraseIdx g).length=r1.length-1:=by rw[List.length_eraseIdx,if_pos hg]
 have lq2:=(Wah.mp y2).1;have lq1:=(Wah.mp y1).1;refine Zbl (λΔ=>∃(p4:List D) (cs2:List (Addr × List Int)) (l l2:List Int),Pen p4/\MixI o as cs2/\cs2[q1]?=some (a1,l)/\¬ l.Perm (endsBelow ts (2*ts.length) (q1:Int))/\cs2[q2]?=some (a2,l2)/\l2.length<=48 /\ Δ = nSt (mR p4 o full b as (.val (.int k)) (.val (.adr a1)) (.val (.adr a2)) (.val (.int e))) cs2 (25-o.length)) ?_ ?_
 ·refine Zb2 (Zbz (Zad rfl ⟨b,rfl,?_⟩))
  cases b with
  |false=>
   refine iteF (Za6 ⟨p3,cs1,r1.eraseIdx g,r2,hp3,i1,y1,λhp=>?_,y2,b2,rfl⟩);have h1:=hp.length_eq;have h2:=R1.length_eq;omega
  |true=>
   have sl1:∀(psx:List D),(nSt (mR psx o full true as (.val (.int k)) (.val (.adr a1)) (.val (.adr a2)) (.val (.int e))) cs1 (25-o.length))[9+q1]?=some (.ownA a1 (.lst ((r1.eraseIdx g).map D.int))):=λpsx=>Zhp rfl y1;refine iteT (Zig (a:=a1) rfl (sl1 p3) (Zcc rfl rfl (Zab (Zay (Zel rfl (sl1 p3) (Za8 (Zdl (Zag (Zbq rfl rfl hp3 (by rw[Waa];omega) (by rw[Waa];omega) λg2 p4 hp4 g20 g21=>?_)))))))));rw[Waa]at g21;have sl2:∀(psx:List D),(nSt (mR psx o full true as (.val (.int k)) (.val (.adr a1)) (.val (.adr a2)) (.val (.int e))) cs1 (25-o.length))[9+q2]?=some (.ownA a2 (.lst (r2.map D.int))):=λpsx=>Zhp rfl y2;refine Zjo (a:=a2) rfl (sl2 p4) (Zcc rfl rfl (Zab (Zel rfl (sl2 p4) (Zag (Zbq rfl rfl hp4 (by rw[Waa];omega) (by rw[Waa];omega) λg3 p5 hp5 g30 g31=>?_)))));rw[Waa]at g31;have hg3:g3.toNat<r2.length:=by omega
   have he:=Wab hg3;have fm:=Wbc hg3;generalize r2[g3.toNat]=ff at he fm;have fb:=b2x ff fm;have y3:(cs1.set q2 (a2,r2.eraseIdx g3.toNat))[q1]?=some (a1,r1.eraseIdx g):=by rw[Wae hq.symm];exact y1
   have y4:(cs1.set q2 (a2,r2.eraseIdx g3.toNat))[q2]?=some (a2,r2.eraseIdx g3.toNat):=Wad lq2;have i2:MixI o as (cs1.set q2 (a2,r2.eraseIdx g3.toNat)):=i1.put y2 (Ztl ⟨by omega,b2x⟩);have lq3:q1<(cs1.set q2 (a2,r2.eraseIdx g3.toNat)).length:=by rw[Wa1];exact lq1
   have e5:(nSt (mR p5 o full true as (.val (.int k)) (.val (.adr a1)) (.val (.adr a2)) (.val (.int e))) cs1 (25-o.length)).set (9+q2) (.ownA a2 (.lst ((r2.map D.int).eraseIdx g3.toNat)))=nSt (mR p5 o full true as (.val (.int k)) (.val (.adr a1)) (.val (.adr a2)) (.val (.int e))) (cs1.set q2 (a2,r2.eraseIdx g3.toNat)) (25-o.length):=by
    rw[Zph];exact Zgg rfl lq2
   have le3:(r2.eraseIdx g3.toNat).length<=48:=Wat (List.length_eraseIdx_le _ _) b2;refine⟨9+q2,r2.map D.int,g3.toNat,.int ff,sl2 p5,by rw[Wc5 g30],by rw[Waj,he];rfl,by rw[Waa];omega,9+q1,g2,(r1.eraseIdx g).map D.int,rfl,(congrArg (λΔ:Evt=>Δ[9+q1]?) e5).trans (Zhp rfl y3),by rw[Waa];exact small1000 (by omega),by omega,by omega,p5,(cs1.set q2 (a2,r2.eraseIdx g3.toNat)).set q1 (a1,(r1.eraseIdx g).take (insI ((r1.eraseIdx g).map D.int).length g2)++ff::(r1.eraseIdx g).drop (insI ((r1.eraseIdx g).map D.int).length g2)),_,r2.eraseIdx g3.toNat,hp5,i2.put y3 (Zpf (by omega) (λx hx=>b1x x (List.mem_of_mem_eraseIdx hx)) fb.1 fb.2),Wad lq3,λhp=>?_,by rw[Wae hq];exact y4,le3,?_⟩
   ·have f1:ff∈endsBelow ts (2*ts.length) (q1:Int):=hp.mem_iff.mp (Wa0.mpr (.inr War))
    have f2:=Zgp (R2.mem_iff.mp fm);rw[Zgp f1]at f2;omega
   ·have:=Zgg (R:=mR p5 o full true as (.val (.int k)) (.val (.adr a1)) (.val (.adr a2)) (.val (.int e))) (cs:=cs1.set q2 (a2,r2.eraseIdx g3.toNat)) (m:=25-o.length) (a:=a1) (r:=(r1.eraseIdx g).take (insI ((r1.eraseIdx g).map D.int).length g2)++ff::(r1.eraseIdx g).drop (insI ((r1.eraseIdx g).map D.int).length g2)) (n:=9) (p:=q1) rfl lq3
    rw[<- this,<- e5,Wbd,Wcq,Wa4,Wcr];rfl
 rintro Δ1 ⟨p4,cs2,l,l2,hp4,i2,w1,hnp,w2,l2l,rfl⟩;have lw2:=(Wah.mp w2).1;have l2b:=(i2.row _ (Wap w2)).2;refine Zbl (λΔ=>∃(p5:List D) (cs3:List (Addr × List Int)),Pen p5/\MixI o as cs3/\cs3[q1]?=some (a1,l) /\ Δ = nSt (mR p5 o full b as (.val (.int k)) (.val (.adr a1)) (.val (.adr a2)) (.val (.int e))) cs3 (25-o.length)) ?_ ?_
 ·have sl2:∀(psx:List D),(nSt (mR psx o full b as (.val (.int k)) (.val (.adr a1)) (.val (.adr a2)) (.val (.int e))) cs2 (25-o.length))[9+q2]?=some (.ownA a2 (.lst (l2.map D.int))):=λpsx=>Zhp rfl w2
  refine Zig (a:=a2) rfl (sl2 p4) (Zcc rfl rfl (Zab (Zay (Zel rfl (sl2 p4) (Za8 (Zdl (Zag (Zbq rfl rfl hp4 (by rw[Waa];omega) (by rw[Waa];omega) λg4 p5 hp5 g40 g41=>?_))))))));rw[Waa]at g41;refine Zad rfl ⟨9+q2,g4,l2.map D.int,rfl,sl2 p5,by rw[Waa];exact small1000 (by omega),by omega,by omega,p5,cs2.set q2 (a2,l2.take (insI (l2.map D.int).length g4)++e::l2.drop (insI (l2.map D.int).length g4)),hp5,i2.put w2 (Zpf (by omega) l2b e0 e1),by rw[Wae hq.symm];exact w1,?_⟩;have:=Zgg (R:=mR p5 o full b as (.val (.int k)) (.val (.adr a1)) (.val (.adr a2)) (.val (.int e))) (cs:=cs2) (m:=25-o.length) (a:=a2) (r:=l2.take (insI (l2.map D.int).length g4)++e::l2.drop (insI (l2.map D.int).length g4)) (n:=9) (p:=q2) rfl lw2;rw[<- this,Wbd,Wcq,Wa4,Wcr];rfl
 rintro Δ1 ⟨p5,cs3,hp5,i3,w3,rfl⟩;refine Zm0 (i:=4) (by rw[i3.as];rfl) ?_;refine Zbj (Zay (Zey (Zab (Zad rfl (Zab (Za1 (Zab (Zee (by decide) (Zi6 (Zad rfl ⟨_,Or.inl rfl,?_,λ_=>true,λd=>match d with|.lst ds=>.tup ds|d=>d,λi d hd=>?_,?_⟩))))))))))
 ·rw[Waa,i3.len];exact small1000 (by omega)
 ·rw[Waj]at hd
  cases z:cs3[i]? with
  |none=>rw[z]at hd;cases hd
  |some c4=>
   rw[z]at hd;have hd:D.lst (c4.2.map D.int)=d:=by simpa using hd
   subst hd;exact Zcp ⟨rfl,Za1 (Zab (Zad rfl (Zag (Zdc (Or.inl rfl) ⟨rfl,_,rfl⟩))))⟩
 have e4:((cs3.map λc=>D.lst (c.2.map D.int)).filter λ_=>true).map (λd=>match d with|.lst ds=>D.tup ds|d=>d)=cs3.map λc=>D.tup (c.2.map D.int):=by
  rw[Wby.mpr (by simp),Wa9];rfl
 rw[e4];refine Zag (Zdc (Or.inl rfl) (Zag ⟨Zce,Zgc rfl rfl hp5 (by decide) (by decide) λz p6 hp6 z0 z1=>?_⟩));obtain⟨y,ey,hy⟩:=Zh5 (a:=.lst (cs3.map λc=>D.lst (c.2.map D.int))) (b:=.tup (cs3.map λc=>D.tup (c.2.map D.int))) z0 z1;refine Zca ey ⟨_,rfl,q y _ hp6 ?_⟩;have li:=i3.len;have nr:∀{d:D},rowD d=some (l.map .int)->¬ RowP (endsBelow ts (2*ts.length) (q1:Int)) d:=λhd ⟨r,e,hp⟩=>by
  rw[hd]at e;have e:=Ziy (Wau.inj e);subst e;exact hnp hp
 rcases hy with rfl|rfl
 ·refine Zgm (i:=q1) (e:=.lst (l.map .int)) rfl (by rw[Waa];omega) (λx hx=>?_) (by rw[Waj,w3];rfl) (nr rfl)
  obtain⟨c,hc,rfl⟩:=Was.mp hx;exact Zd0 rfl (i3.row c hc)
 ·refine Zgm (i:=q1) (e:=.tup (l.map .int)) rfl (by rw[Waa];omega) (λx hx=>?_) (by rw[Waj,w3];rfl) (nr rfl)
  obtain⟨c,hc,rfl⟩:=Was.mp hx;exact Zd0 rfl (i3.row c hc)
theorem Zqc {K:W.Frag}{Δ:Evt}{Pd:D->Evt->Prop}{i:Int}(p:Pd (.int (-i)) Δ):JR1 K (rU λi=>.int (-i)) (.int i) Δ Pd:=λg G H σ Q x k r c=>by
 cases r;exact⟨i,rfl,c _ _ G H Δ k (Same.refl _) (.int _) p⟩
theorem neg60 {K:W.Frag}{Δ:Evt}{i:Int}:PV K (tUn (rU λi=>.int (-i)) (tC (.int i))) Δ (.int (-i)):=λP p=>Zsw (Za8 (Zqc p))
theorem Zof (ds:List D) (j:Nat) (h:ds.length=j+1):cutD ds none (some (-1))=ds.take j:=by
 unfold cutD;rw[show HT.sIx ds.length 0 none=0 from rfl,Wcm,Wde];congr 1;rw[h];show HT.sIx (j+1) (j+1) (some (-1))=j;unfold HT.sIx;simp
 try omega
def isTup:D->Bool
 |.tup _=>true
 |_=>false
theorem Znl {d:D}(h:isTup d=true):∃ds,d=.tup ds:=by
 cases d with
 |tup ds=>exact⟨ds,rfl⟩
 |_=>cases h
theorem Zrn {Δ:Evt}{Pd:D->Evt->Prop}{d:D}{T:String}(hT:tyD d=some T) (p:Pd (.bl (isTup d)) Δ):JC K (rIsiU K) [d,.ty "tuple"] Δ Pd:=by
 cases d with
 |int i=>exact Zbc (T:="int") (b:=false) rfl (λ_=>by rfl) p
 |bl b=>exact Zbc (T:="bool") (b:=false) rfl (λ_=>by rfl) p
 |non=>exact Zbc (T:="NoneType") (b:=false) rfl (λ_=>by rfl) p
 |str x=>exact Zbc (T:="str") (b:=false) rfl (λ_=>by rfl) p
 |tup l=>exact Zbc (T:="tuple") (b:=true) rfl (λ_=>by rfl) p
 |lst l=>exact Zbc (T:="list") (b:=false) rfl (λ_=>by rfl) p
 |dct k l=>exact Zbc (T:="dict") (b:=false) rfl (λ_=>by rfl) p
 |_=>cases hT
end
theorem Zgu {n:Int}{ts:List (Int × Int)}{d:D}{es:List D}(hd:rowD d=some es) (hl:es.length<=60) (h:∀x∈es,TyU 1 x/\Tz 2 24200 x) (hn:(es.length:Int)≠n):Bad n ts d:=by
 refine⟨⟨by rcases Zcl hd with rfl|rfl <;> exact⟨_,rfl⟩,λes' e'=>?_⟩,?_,.inl (Zhl (n:=3) (Zfh (m:=60) (Zcl hd) hl (λx hx=>(h x hx).2) (Wak _)) (by decide) (by decide))⟩
 ·rw[hd]at e';cases e'
  exact⟨hl,λx hx=>(h x hx).1⟩
 ·rintro⟨es',e',hg,_⟩
  rw[hd]at e';cases e';exact hn hg
theorem Zc6 {n:Int}{ts:List (Int × Int)}{d:D}(h:TyT d) (hr:rowD d=none) (rep:RepW d):Bad n ts d:=
 ⟨⟨h,λes e=>(by rw[hr]at e;cases e)⟩,λ⟨es,e,_⟩=>(by rw[hr]at e;cases e),rep⟩
theorem el_w {b:D}(h:El b):RepW b:=.inl (Zhl (n:=0) (Zpx h) (by decide) (by decide))
theorem Tz.succ {n B:Nat}{x:D}(h:Tz n B x):Tz (n+1) B x:=⟨Zo9 h.sh,Wat h.dp (by omega),h.sz⟩
theorem Zq6 (o:List (List Int)):∃full:List Int,((enD (o.map encRow)).filter λd=>match d with|.tup [_,.tup ds]=>!ds.isEmpty|_=>false).map (λd=>match d with|.tup [i,_]=>i|d=>d)=full.map D.int/\full.length<=o.length/\full.Nodup/\∀x∈full,∃(q:Nat) (r:List Int),x=(q:Int)/\o[q]?=some r/\r≠[]:=by
 have e:enD (o.map encRow)=(Wbx o.length).map λi:Nat=>D.tup [.int (i:Int),encRow (o.getD i [])]:=by
  apply Wbp;intro i;rw[Waj];cases z:(enD (o.map encRow))[i]? with
  |none=>
   have:=List.getElem?_eq_none_iff.mp z;rw[Zev,Waa]at this;rw[Wcp (by rw[Wda];exact this)];rfl
  |some dd=>
   obtain⟨e,he,rfl⟩:=Zek z;rw[Waj]at he;cases hr:o[i]? with
   |none=>rw[hr]at he;cases he
   |some r=>
    rw[hr]at he;cases he;rw[List.getElem?_range (Wah.mp hr).1];show _=some (D.tup [.int (i:Int),encRow (o.getD i [])]);rw[Wa2,hr];rfl
 refine⟨((Wbx o.length).filter λi=>!((o.getD i []).map D.int).isEmpty).map λi:Nat=>(i:Int),?_,?_,?_,λx hx=>?_⟩
 ·rw[e,List.filter_map,Wa9,Wa9];rfl
 ·rw[Waa]
  exact Wat (Wco _ _) (by rw[Wda];exact Wak _)
 ·refine List.pairwise_map.mpr ((List.nodup_range.filter _).imp λh=>?_)
  omega
 ·obtain⟨i,hi,rfl⟩:=Was.mp hx
  obtain⟨h1,h2⟩:=Wb5.mp hi;have h1:=Wb9.mp h1;refine⟨i,o[i],rfl,Wab h1,λz=>?_⟩;rw[Wa2,Wab h1]at h2;have h2:(!(o[i].map D.int).isEmpty)=true:=h2;rw[z]at h2;cases h2
def fSpoil5:BSp:=λps ds Post=>Pen ps/\∃n ts o,ds=[encWeb n ts,encOrd o]/\WebOk n ts/\OrdOk n ts o/\∀d ps',Pen ps' -> Bad n ts d->Post d ps'
section
variable {P:Program}{w:World}{K:W.Frag}{mg:Str->Option Value}{base:Heap}{f:Addr}{fd:FuncData}
theorem Zlf (mb:Mb mg) (C20:Callee P w K mg base 1 "_law_draw" ["_law_pen_here","_law_many"] (spB K fDraw)) (C21:Callee P w K mg base 2 "_law_mixed" ["_law_pen_here","_law_order_here","_law_full","_law_both"] (spB K fMix5)) (C29:Callee P w K mg base 2 "_law_wrong" ["_law_pen_here","_law_web_here","_law_row"] (spB K fWrong)) (F:Fun K "_law_spoiled" "_law_spoiled" s_law_spoiled f fd):FnOk P w K mg base CX0 3 f fd ["_law_pen_here","_law_web_here","_law_order_here"] (spB K fSpoil5):=by
 refine F.ok sc_law_spoiled (Zd1 λps ds Post h=>by obtain⟨_,_,_,_,rfl,_⟩:=h;rfl) (λcdv A outer s H vs Q E hr h=>?_);have hu:=Zcy hr;have hv:=Zim hr;refine⟨_,(by (refine' Zaf ?s ?r); (case s=>exact(Zat (i:=3) sc_law_spoiled.nd rfl (Or.inl rfl) (Zaq Zf6 (Zaq Zf6 Zai Zai) (Zbe C20 (hr.mono (by decide)) (Zaa (pv 0) (Zaa (Zaq Zma Zai Zai) Zac)))))); (case r=>exact(by (refine' Zaf ?s ?r); (case s=>exact(by (refine' @Zat _ _ 4 _ _ _ _ sc_law_spoiled.nd rfl (Or.inl rfl) ?e7 rfl (by first|exact .inl rfl|exact .inr rfl|assumption)); (case e7=>exact(@Zbr (Zar P w K mg base f cdv A outer s H E) _ _ _  (@Zaa (Zar P w K mg base f cdv A outer s H E) _ _ _ _ Zi5 (@Zaa (Zar P w K mg base f cdv A outer s H E) _ _ _ _ Zgn (@Zaa (Zar P w K mg base f cdv A outer s H E) _ _ _ _ (pv 3) (@Zaa (Zar P w K mg base f cdv A outer s H E) _ _ _ _ Zbk (@Zaa (Zar P w K mg base f cdv A outer s H E) _ _ _ _ Zbk (@Zaa (Zar P w K mg base f cdv A outer s H E) _ _ _ _ Zjq (@Zaa (Zar P w K mg base f cdv A outer s H E) _ _ _ _ (Zaq (addK K) (Za4 (lstK K) (by rfl) (mb "list" (by decide)) Zci (Zaa (pv 2) Zac)) (@Zbr (Zar P w K mg base f cdv A outer s H E) _ _ _  (@Zaa (Zar P w K mg base f cdv A outer s H E) _ _ _ _ (Zax Zac) Zac (@Zeh _ _ _ _ _)))) (@Zaa (Zar P w K mg base f cdv A outer s H E) _ _ _ _ (Zaw (slK K) (pv 2) Zbd (Za5 (Ztv Zrg Zai))) (@Zaa (Zar P w K mg base f cdv A outer s H E) _ _ _ _ (Zaq (addK K) (pv 2) (pv 2)) (@Zaa (Zar P w K mg base f cdv A outer s H E) _ _ _ _ (@Zbr (Zar P w K mg base f cdv A outer s H E) _ _ _  (@Zaa (Zar P w K mg base f cdv A outer s H E) _ _ _ _ (Za4 (lstK K) (by rfl) (mb "list" (by decide)) Zci (Zaa (pv 2) Zac)) Zac (@Zhk _ _ _ _ _ _))) (@Zaa (Zar P w K mg base f cdv A outer s H E) _ _ _ _ (@Ztx (Zar P w K mg base f cdv A outer s H E) _ _ _ _ _ _ (Zax Zac)) (@Zaa (Zar P w K mg base f cdv A outer s H E) _ _ _ _ (Zax Zac) Zac (@Zeh _ _ _ _ _)) (@Zed _ _ _ _ _)) (@Zh1 _ _ _ _)) (@Zbf _ _ _ _ _ _)) (@Ze1 _ _ _ _ _)) (@Zbf _ _ _ _ _ _)) (@Zed _ _ _ _ _)) (@Zbu _ _ _ _ _)) (@Zbu _ _ _ _ _)) (@Zhq _ _ _ _)) (@Zbu _ _ _ _ _)) (@Zbu _ _ _ _ _)))))); (case r=>exact(by (refine' Zaf ?s ?r); (case s=>exact(Zat (i:=5) sc_law_spoiled.nd rfl (Or.inl rfl) (Zbe C20 (hr.mono (by decide)) (Zaa (pv 0) (Zaa Zai Zac))))); (case r=>exact(by (refine' Zaf ?s ?r); (case s=>exact(Zb6 (Zaz Zcw (pv 5) Zai (nomark _)) (Zap (Zba (Zbg (ixK K hu) (pv 4) (Zbe C20 (hr.mono (by decide)) (Zaa (pv 0) (Zaa Zai Zac))) (λ_ _=>rfl)))) Za2)); (case r=>exact(by (refine' Zaf ?s ?r); (case s=>exact(Ze4 (i:=6) ["_law_place","_law_row"] (show CompSc (defScope s_law_spoiled) ["_law_pen_here","_law_web_here","_law_order_here","_law_far","_law_whole","_law_way","_law_full","_law_at","_law_other","_law_rows"] _ [] [] from ⟨rfl,by decide +kernel,by decide +kernel,by decide +kernel,rfl,by decide +kernel⟩) rfl sc_law_spoiled.nd rfl (Or.inl rfl) (Zdi K rfl (mb "enumerate" (by decide)) (Zaa (pv 2) Zac)) (λ_ _ _ _ _=>(gtupK (n:=2) K rfl (Zb0 (Zbh (i:=0) (show List.Nodup (["_law_place","_law_row"]:List Str) from by decide) rfl (Or.inl rfl)) (Zb0 (Zbh (i:=1) (show List.Nodup (["_law_place","_law_row"]:List Str) from by decide) rfl (Or.inl rfl)) Zen)))) (λ_ _ _ _ _=>(Ziu (Zaz (neT0K K hu) (pv 1) (Zax Zac) (nomark _)))) (λ_ _ _ _ _=>(pv 0)))); (case r=>exact(by (refine' Zaf ?s ?r); (case s=>exact(Zb6 (PW.pt (pw_and (Zaz Zqx (pv 5) Zai (nomark _)) (pw_and1 (Zaz Zm8 (Zah (lenK K) rfl (mb "len" (by decide)) Zbm (Zaa (pv 6) Zac)) Zai (nomark _))))) (Zap (Zba (Zbe C21 (hr.mono (by decide)) (Zaa (pv 0) (Zaa (pv 2) (Zaa (pv 6) (Zaa (Zia Zcw (pv 5) Zai (nomark _)) Zac))))))) Za2)); (case r=>exact(by (refine' Zaf ?s ?r); (case s=>exact(Zat (i:=7) sc_law_spoiled.nd rfl (Or.inl rfl) (Zbe C20 (hr.mono (by decide)) (Zaa (pv 0) (Zaa (Zbg (ixK K hu) (pv 1) Zai (λ_ _=>rfl)) Zac))))); (case r=>exact(by (refine' Zaf ?s ?r); (case s=>exact(Zat (i:=8) sc_law_spoiled.nd rfl (Or.inl rfl) (Zbe C20 (hr.mono (by decide)) (Zaa (pv 0) (Zaa (Zbg (ixK K hu) (pv 1) Zai (λ_ _=>rfl)) Zac))))); (case r=>exact(by (refine' Zaf ?s ?r); (case s=>exact(Zat (i:=9) sc_law_spoiled.nd rfl (Or.inl rfl) (Za4 (lstK K) rfl (mb "list" (by decide)) Zci (Zaa (pv 2) Zac)))); (case r=>exact(by (refine' Zaf ?s ?r); (case s=>exact(Zb6 (PW.pt (pw_and (Zaz Zcw (Zbe C20 (hr.mono (by decide)) (Zaa (pv 0) (Zaa Zai Zac))) Zai (nomark _)) (pw_and1 (Zaz (neTK K hv) (Zbg (ixK K hu) (pv 2) (pv 7) (λ_ _=>rfl)) (Zbg (ixK K hu) (pv 2) (pv 8) (λ_ _=>rfl)) (nomark _))))) (Zap (Zf5 (Zax (Zaa (Zbg (ixK K hu) (pv 9) (pv 8) (λ_ _=>rfl)) (Zaa (Zbg (ixK K hu) (pv 9) (pv 7) (λ_ _=>rfl)) Zac))) (gtupK (n:=2) K rfl (Zb0 (Zfj (pv 9) (pv 7) (setU hu)) (Zb0 (Zfj (pv 9) (pv 8) (setU hu)) Zen))))) (Zaf (Zf5 (Zbe C29 (hr.mono (by decide)) (Zaa (pv 0) (Zaa (pv 1) (Zaa (Zbg (ixK K hu) (pv 2) (pv 7) (λ_ _=>rfl)) Zac)))) (Zfj (pv 9) (pv 7) (setU hu))) (Zap (Zb6 (PW.pt (pw_and (truK K (Zah (isiUK K) rfl (mb "isinstance" (by decide)) Zam (Zaa (Zbg (ixK K hu) (pv 9) (pv 7) (λ_ _=>rfl)) (Zaa (Zbt rfl (mb "tuple" (by decide)) Zbo (show RelV (.ty "tuple") _ from rfl)) Zac))) (λ_=>rfl)) (pw_and1 (Zaz Zcw (Zbe C20 (hr.mono (by decide)) (Zaa (pv 0) (Zaa Zai Zac))) Zai (nomark _))))) (Zap (Zf5 (Za4 (lstK K) rfl (mb "list" (by decide)) Zci (Zaa (Zbg (ixK K hu) (pv 9) (pv 7) (λ_ _=>rfl)) Zac)) (Zfj (pv 9) (pv 7) (setU hu)))) Za2))))); (case r=>exact(Zap (Zba (Zbg (ixK K hu) (Zbr (Zaa (pv 9) (Zaa (Za4 (tupK K) rfl (mb "tuple" (by decide)) Zbo (Zaa (pv 9) Zac)) Zac))) (Zbe C20 (hr.mono (by decide)) (Zaa (pv 0) (Zaa Zai Zac))) (λ_ _=>rfl)))))))))))))))))))))))),Zip (λps ds Post hf=>?_) h⟩
 obtain⟨hp,n,ts,o,rfl,hW,hO,q⟩:=hf;refine⟨by simp,?_⟩;dsimp only[cxOf,startD,Wbq,Wbs,Wbe,Wai];have hn1:=hW.lo;have hn2:=hW.hi;have hts:=hW.len;have hol:=hO.len;have ol:(o.map encRow).length=o.length:=Waa _;have rowb:∀(i:Nat) r,o[i]?=some r->IntsB r:=λi r hr=>by
  have R:=hO.row i r hr;have:=R.len;refine⟨by omega,λx hx=>?_⟩;have:=Zfi (R.perm.mem_iff.mp hx);omega
 have rk:∀x∈o.map encRow,TyU 1 x/\Tz 1 24200 x:=λx hx=>by
  obtain⟨r,hr,rfl⟩:=Was.mp hx;obtain⟨i,hi⟩:=Wb4 hr;exact Zd0 rfl (rowb i r hi)
 have rk2:∀x∈o.map encRow,TyU 1 x/\Tz 2 24200 x:=λx hx=>⟨(rk x hx).1,(rk x hx).2.succ⟩;refine Zas (Zav (Zay (Zay (Za8 (Za8 (Znc (Zcc rfl rfl (Zab (Zbw (Za0 Zbb Zbb (pr_I ⟨by decide,by decide,by decide⟩)) (Zag (Zbq (m:=10 ^ (30:Int).toNat) rfl rfl hp (by decide) (by decide) λfar p1 hp1 f0 f1=>Znc ?_)))))))))));have f1:far<1000000000000000000000000000000:=f1;unfold encOrd at *;refine Zbl (λΔ=>∃zs:List D,zs.length=12/\(∀y∈zs,Bad n ts y) /\ Δ = [.bor (.lst p1),.val (encWeb n ts),.val (.tup (o.map encRow)),.val (.int (0-1-far)),.val (.lst zs),.any,.any,.any,.any,.any]) ?_ ?_
 ·refine Zav (Zbw (Zcu (Zak Zmq (Zak Zni (Zak (Zaj rfl) (Zak Zhv (Zak Zhv (Zak Zmc (Zak (Za0 (Zj6 (Zak (Zaj rfl) Zau) λP p=>Zfu (Or.inr rfl) p) (Zcu (Zak (Zb8 Zau (by show 0<=sizeLine;decide)) Zau) Zby) (Zeu (by rw[ol];exact Wbr (small1000 (by show o.length+1<=1000;omega))))) (Zak (Zcr (Zaj rfl) Za9 (Za3 neg60)) (Zak (Za0 (Zaj rfl) (Zaj rfl) (addT60 25 25 (by omega) (by omega) (by decide))) (Zak (Zcu (Zak (Zj6 (Zak (Zaj rfl) Zau) λP p=>Zfu (Or.inr rfl) p) Zau) Zby) (Zak (Zt6 (Zb8 Zau (by show 0<=sizeLine;decide))) (Zak (Zb8 Zau (by show 0<=sizeLine;decide)) Zau)))))))))))) (by show 12<=sizeLine;decide)) ⟨_,rfl,?_,rfl⟩)
  have nil2:TyU 1 (D.tup [])/\Tz 2 24200 (D.tup []):=(Zd0 (d:=.tup []) (l:=[]) rfl ⟨by decide,λ_ h=>nomatch h⟩).imp id Tz.succ;intro y hy;simp only[Wam,Wa5,or_false]at hy;rcases hy with rfl|rfl|rfl|rfl|rfl|rfl|rfl|rfl|rfl|rfl|rfl|rfl
  ·exact Zc6 ⟨_,rfl⟩ rfl (el_w (el_b "NoneType" rfl (by decide +kernel)))
  ·exact Zc6 ⟨_,rfl⟩ rfl (el_w (el_b "bool" rfl (by decide +kernel)))
  ·exact Zc6 ⟨_,rfl⟩ rfl (el_w (Zd4 (by omega) (by omega)))
  ·exact Zc6 ⟨_,rfl⟩ rfl (el_w (el_b "str" rfl (by decide +kernel)))
  ·exact Zc6 ⟨_,rfl⟩ rfl (el_w (el_b "str" rfl (by decide +kernel)))
  ·exact Zc6 ⟨_,rfl⟩ rfl (el_w Zo8)
  ·refine Zgu rfl (by rw[Wag,ol];show _+1<=60;omega) (λx hx=>?_) (by rw[Wag,ol];show ((o.length+1:Nat):Int)≠n;omega)
   rcases Wa0.mp hx with hx|hx
   ·exact rk2 x hx
   ·rw[Wa8.mp hx];exact nil2
  ·have ec:(cutD (o.map encRow) none (some (-1))).length=o.length-1:=by
    rw[Zof (o.map encRow) (o.length-1) (by omega),Wbi,ol];omega
   refine Zgu rfl (by rw[ec];omega) (λx hx=>rk2 x (Zkr hx)) (by rw[ec];omega)
  ·exact Zgu rfl (by rw[Wag,ol];omega) (λx hx=>(Wa0.mp hx).elim (rk2 x) (rk2 x)) (by rw[Wag,ol];omega)
  ·have T2:Tz 2 1500000 (D.lst (o.map encRow)):=Zfh (m:=60) (.inl rfl) (by omega) (λx hx=>(rk x hx).2) (by decide)
   refine⟨⟨⟨_,rfl⟩,λes e=>?_⟩,?_,.inl (Zhl (n:=3) (Zfh (m:=1) (.inl rfl) (Wak _) (λx hx=>by rw[Wa8.mp hx];exact T2) (Wak _)) (by decide) (by decide))⟩
   ·cases e
    refine⟨by show 1<=60;decide,λx hx=>?_⟩;rw[Wa8.mp hx];exact⟨⟨_,rfl⟩,λfs e=>by cases e;exact⟨by omega,λy hy=>(rk y hy).1.1⟩⟩
   ·rintro⟨es,e,e1,hg⟩
    cases e;have e1:((1:Nat):Int)=n:=e1;obtain⟨r,er,_⟩:=hg 0 _ rfl;have er:o.map encRow=r.map D.int:=Wau.inj er;cases o with
    |nil=>simp at hol;omega
    |cons x o=>cases r with
     |nil=>cases er
     |cons y r=>
      have:=(List.cons.inj er).1;cases this
  ·exact Zc6 ⟨_,rfl⟩ rfl (.inr ⟨0,[],rfl,by decide,by decide,by decide,by rw[sizeLine_eq];decide +kernel⟩)
  ·exact Zgu (es:=[]) rfl (by decide) (λ_ h=>nomatch h) (by show ((0:Nat):Int)≠n;omega)
 rintro Δ1 ⟨zs,hzl,hzs,rfl⟩;refine Zas (Zav (Zgc rfl rfl hp1 (by decide) (by decide) λway p2 hp2 w0 w1=>?_));refine Zas (Zb2 (Za7 (Zay (Zad rfl (Za8 (Zfs ⟨_,rfl,?_⟩))))));refine ite2 (λ_=>?_) (λ_=>Za6 ?_)
 ·refine Zbj (Zay (Zad rfl (Zgc rfl rfl hp2 (by decide) (by decide) λz p3 hp3 z0 z1=>?_)))
  obtain⟨y,ey,hy⟩:=Zrr (xs:=zs) (z:=z) z0 (by omega);exact Zca ey ⟨_,rfl,q y _ hp3 (hzs y hy)⟩
 obtain⟨full,ef,f1,f2,f3⟩:=Zq6 o;refine Zbl (λΔ=>Δ = [.bor (.lst p2),.val (encWeb n ts),.val (.tup (o.map encRow)),.val (.int (0-1-far)),.val (.lst zs),.val (.int way),.val (.lst (full.map .int)),.any,.any,.any]) ?_ ?_
 ·refine Zav (Zeb (by decide) (Zij (Zab (Zad rfl (Zag ⟨_,Or.inr rfl,?_,(λd=>match d with|.tup [_,.tup ds]=>!ds.isEmpty|_=>false),(λd=>match d with|.tup [i,_]=>i|d=>d),λi d hd=>?_,?_⟩)))))
  ·rw[Zev,ol];exact small1000 (by omega)
  ·obtain⟨e,he,rfl⟩:=Zek hd
   obtain⟨r,_,rfl⟩:=Was.mp (Wap he);refine⟨_,_,rfl,Za7 (Zay (Zad rfl (Zcd (Zag ⟨by decide,Zqb ⟨_,rfl,rfl,?_⟩⟩))))⟩;exact ite2 (λ_=>Zad rfl ⟨rfl,_,_,rfl⟩) (λ_=>⟨_,_,rfl⟩)
  ·rw[ef];rfl
 rintro Δ1 rfl;refine Zbl (λΔ=>Δ = [.bor (.lst p2),.val (encWeb n ts),.val (.tup (o.map encRow)),.val (.int (0-1-far)),.val (.lst zs),.val (.int way),.val (.lst (full.map .int)),.any,.any,.any]) ?_ ?_
 ·refine Zb2 (Zfy (Za7 (Zay (Zad rfl (Za8 (Zm4 ⟨_,rfl,?_⟩))))))
  by_cases c1:way<3
  ·rw[decide_eq_true c1]
   refine iteT (Za7 (Zay (Zbw (Zfk (Zaj rfl)) (Za8 (Zm4 ⟨_,rfl,?_⟩)))));rw[Waa];by_cases c2:(1:Int)<(full.length:Int)
   ·rw[decide_eq_true c2]
    exact iteT (Zbj (Zcc rfl rfl (Zab (Zad rfl (Zab (Zad rfl (Zab (Zay (Zad rfl (Za8 (Zfs (Zag ⟨_,_,rfl,rfl,hp2,n,ts,o,full,_,rfl,hW,hO,by omega,by omega,f2,f3,λd p3 hp3 hd=>⟨_,rfl,q d _ hp3 hd⟩⟩))))))))))))
   ·rw[decide_eq_false c2]
    exact iteF (Za6 rfl)
  ·rw[decide_eq_false c1]
   exact iteF (iteF (Za6 rfl))
 rintro Δ1 rfl;refine Zas (Zav (Zcc rfl rfl (Zab (Zbw (Zcm (d:=.int n) (Zaj rfl) Zbb rfl) (Zag (Zbq (m:=n) rfl rfl hp2 (by omega) (by omega) λat_ p3 hp3 a0 a1=>?_))))));refine Zas (Zav (Zcc rfl rfl (Zab (Zbw (Zcm (d:=.int n) (Zaj rfl) Zbb rfl) (Zag (Zbq (m:=n) rfl rfl hp3 (by omega) (by omega) λot p4 hp4 o0 o1=>?_))))));refine Zas (Zgx (Zit (Zab (Zad rfl (Zag ⟨_,Or.inl rfl,?_⟩)))));obtain⟨r1,h1,hat⟩:=Zdg (f:=encRow) (xs:=o) (i:=at_) a0 (by omega);obtain⟨r2,h2,hot⟩:=Zdg (f:=encRow) (xs:=o) (i:=ot) o0 (by omega);have ja:at_.toNat<(o.map encRow).length:=by omega
 have jo:ot.toNat<(o.map encRow).length:=by omega
 have ia:ixN (o.map encRow).length at_=some at_.toNat:=by
  have:=Zko ja;rw[show ((at_.toNat:Nat):Int)=at_ by omega]at this;exact this
 have io:ixN (o.map encRow).length ot=some ot.toNat:=by
  have:=Zko jo;rw[show ((ot.toNat:Nat):Int)=ot by omega]at this;exact this
 have n12:r1≠r2->¬ RowP (endsBelow ts (2*ts.length) ((at_.toNat:Nat):Int)) (encRow r2):=λhne ⟨r,er,hp⟩=>by
  have e:=Ziy (Wau.inj er);subst e;have R1:=(hO.row _ r1 h1).perm;have R2:=(hO.row _ r2 h2).perm;cases r2 with
  |nil=>
   have z1:=hp.length_eq;have z2:=R1.length_eq;exact hne (Wbu (by rw[z2,<- z1];rfl))
  |cons x l=>
   have e1:=Zgp (hp.mem_iff.mp War);have e2:=Zgp (R2.mem_iff.mp War);rw[e1]at e2;have:at_.toNat=ot.toNat:=by omega
   rw[this,h2]at h1;exact hne (Wau.inj h1).symm
 refine Zbl (λΔ=>∃(p5 es:List D) (i:Nat) (e:D),Pen p5/\es.length=o.length/\(∀x∈es,TyU 1 x/\Tz 1 24200 x)/\es[i]?=some e/\¬ RowP (endsBelow ts (2*ts.length) (i:Int)) e /\ Δ = [.bor (.lst p5),.val (encWeb n ts),.val (.tup (o.map encRow)),.val (.int (0-1-far)),.val (.lst zs),.val (.int way),.val (.lst (full.map .int)),.val (.int at_),.val (.int ot),.own (.lst es)]) ?_ ?_
 rotate_left
 ·rintro Δ1 ⟨p5,es,i,e,hp5,hel,hes,hi,hnr,rfl⟩
  refine Zo2 (i:=9) rfl ?_;refine Zbj (Zay (Zbw (Zcu (Zak (Zaj rfl) (Zak (Zj6 (Zak (Zaj rfl) Zau) λP p=>Zdc (Or.inl rfl) p) Zau)) Zce) (Zgc rfl rfl hp5 (by decide) (by decide) λz p6 hp6 z0 z1=>?_)));obtain⟨y,ey,hy⟩:=Zh5 (a:=.lst es) (b:=.tup es) z0 z1;refine Zca ey ⟨_,rfl,q y _ hp6 ?_⟩;exact Zgm (es:=es) (by rcases hy with rfl|rfl <;> rfl) (by omega) hes hi hnr
 refine Zb2 (JT.mono (P:=λb Δ=>∃p5:List D,Pen p5/\(b=true->r1≠r2) /\ Δ = [.bor (.lst p5),.val (encWeb n ts),.val (.tup (o.map encRow)),.val (.int (0-1-far)),.val (.lst zs),.val (.int way),.val (.lst (full.map .int)),.val (.int at_),.val (.int ot),.own (.lst (o.map encRow))]) ?_ ?_)
 ·refine Zfy (Za7 (Zay (Zgc rfl rfl hp4 (by decide) (by decide) λz p5 hp5 z0 z1=>Za8 (Zfs ⟨_,rfl,?_⟩))))
  by_cases hz:z=0
  ·rw[decide_eq_true hz]
   refine iteT (Za7 (Zay (Zbw (Zcm (Zaj rfl) (Zaj rfl) hat) (Zbw (Zcm (Zaj rfl) (Zaj rfl) hot) (Zrt (n:=1) (by decide) (λd hd=>?_) (λd hd=>?_) ⟨_,rfl,p5,hp5,λhb e=>?_,rfl⟩)))))
   ·obtain⟨i,_,rfl⟩:=Was.mp hd;trivial
   ·obtain⟨i,_,rfl⟩:=Was.mp hd;trivial
   ·subst e
    have:eqF (1+1) (.tup (r1.map D.int)) (.tup (r1.map D.int))=true:=by
     show ((r1.map D.int).length == (r1.map D.int).length && ((r1.map D.int).zip (r1.map D.int)).all λp=>eqF 1 p.1 p.2)=true;rw[beq_self_eq_true,Wc7,Wba];rintro⟨u,v⟩ huv;obtain⟨i,hi⟩:=Wb4 huv;obtain⟨g1,g2⟩:=Wbg.mp hi;have:u=v:=Wau.inj (g1.symm.trans g2);subst this;obtain⟨j,_,rfl⟩:=Was.mp (Wap g1);show decide _=true;exact decide_eq_true rfl
    rw[this]at hb;cases hb
  ·rw[decide_eq_false hz]
   exact iteF ⟨p5,hp5,λh=>(by cases h),rfl⟩
 rintro b Δ ⟨p5,hp5,hb,rfl⟩;cases b with
 |true=>
  refine iteT (Zrj (Zcd (Zab (Ze8 rfl rfl (Zad rfl ⟨_,_,_,_,rfl,rfl,rfl,hot,Zab (Ze8 rfl rfl (Zad rfl ⟨_,_,_,_,rfl,rfl,rfl,hat,Zag ⟨Zce,?_⟩⟩))⟩)))));refine Zo6 rfl (Ze2 (Zj0 ⟨_,_,rfl,rfl⟩ (Zad rfl ⟨_,_,_,_,rfl,rfl,rfl,ia,Ze2 (Zj0 ⟨_,_,rfl,rfl⟩ (Zad rfl ⟨_,_,_,ot.toNat,rfl,rfl,rfl,by rw[Wa1];exact io,Zk7 ?_⟩))⟩)));have hne:=hb rfl;have ne:ot.toNat≠at_.toNat:=λz=>by rw[z,h1]at h2;exact hne (Wau.inj h2)
  refine⟨p5,((o.map encRow).set at_.toNat (encRow r2)).set ot.toNat (encRow r1),at_.toNat,encRow r2,hp5,by rw[Wa1,Wa1,ol],λx hx=>?_,by rw[Wae ne,Wad ja],n12 hne,rfl⟩;rcases Wca hx with z|z
  ·rcases Wca z with z|z
   ·exact rk x z
   ·rw[z];exact Zd0 rfl (rowb _ r2 h2)
  ·rw[z];exact Zd0 rfl (rowb _ r1 h1)
 |false=>
  refine iteF ?_;refine Zas (Zg9 (Zcc rfl rfl (Zab (Zad rfl (Zab (Zbw (Zcm (Zaj rfl) (Zaj rfl) hat) (Zag ⟨_,_,rfl,rfl,hp5,n,ts,((at_.toNat:Nat):Int),r1,rfl,hW,hO.row _ r1 h1,λd p6 hp6 hd=>⟨⟨_,_,rfl,rfl⟩,Zad rfl ⟨_,_,_,at_.toNat,rfl,rfl,rfl,ia,?_⟩⟩⟩)))))));have fin:∀(d:D) (p7:List D),Pen p7->Wr (endsBelow ts (2*ts.length) ((at_.toNat:Nat):Int)) d->∃(p5 es:List D) (i:Nat) (e:D),Pen p5/\es.length=o.length/\(∀x∈es,TyU 1 x/\Tz 1 24200 x)/\es[i]?=some e/\¬ RowP (endsBelow ts (2*ts.length) (i:Int)) e/\([.bor (.lst p7),.val (encWeb n ts),.val (.tup (o.map encRow)),.val (.int (0-1-far)),.val (.lst zs),.val (.int way),.val (.lst (full.map .int)),.val (.int at_),.val (.int ot),.own (.lst ((o.map encRow).set at_.toNat d))]:Evt)=[.bor (.lst p5),.val (encWeb n ts),.val (.tup (o.map encRow)),.val (.int (0-1-far)),.val (.lst zs),.val (.int way),.val (.lst (full.map .int)),.val (.int at_),.val (.int ot),.own (.lst es)]:=λd p7 hp7 hd=>
   ⟨p7,(o.map encRow).set at_.toNat d,at_.toNat,d,hp7,by rw[Wa1,ol],λx hx=>by
    rcases Wca hx with z|z
    ·exact rk x z
    ·rw[z];exact⟨hd.ty,hd.tz⟩,Wad ja,hd.no,rfl⟩
  have hd2:atI ((o.map encRow).set at_.toNat d) at_=some d:=by
   have:=Zdh (xs:=(o.map encRow).set at_.toNat d) (j:=at_.toNat) (Wad ja);rw[show ((at_.toNat:Nat):Int)=at_ by omega]at this;exact this
  obtain⟨T,hT⟩:=hd.typ;refine Zb2 (Zfy (Zbz (Za1 (Zab (Ze8 rfl rfl (Zad rfl ⟨_,_,_,_,rfl,rfl,rfl,hd2,Zab (Zbx (Zag (Zrn hT ⟨_,rfl,?_⟩)))⟩))))));cases hI:isTup d with
  |false=>exact iteF (iteF (Za6 (fin d p6 hp6 hd)))
  |true=>
   obtain⟨fs,rfl⟩:=Znl hI;refine iteT (Za7 (Zay (Zgc rfl rfl hp6 (by decide) (by decide) λz p7 hp7 z0 z1=>Za8 (Zfs ⟨_,rfl,?_⟩))));refine ite2 (λ_=>?_) (λ_=>Za6 (fin _ p7 hp7 hd));refine Zg9 (Za1 (Zab (Ze8 rfl rfl (Zad rfl ⟨_,_,_,_,rfl,rfl,rfl,hd2,Zag (Zfu (Or.inr rfl) ⟨⟨_,_,rfl,rfl⟩,Zad rfl ⟨_,_,_,at_.toNat,rfl,rfl,rfl,by rw[Wa1];exact ia,?_⟩⟩)⟩))));have:=fin (.lst fs) p7 hp7 hd.lst;rw[<- List.set_set (a:=D.tup fs)]at this;exact this
end
def fWd (c:Addr) (xa:Addr):DSp:=λds Post=>ds=[.exc xa c]/\Post (.str "order")
theorem Zb3 {K:W.Frag}{Δ:Evt}{Pd:List D->Evt->Prop}{x:Str}{a C c:Addr}{b:Bool}{tr:TA}(hx:Δ[0]?=some (.val (.exc a C))) (Z:ExcI K C) (e:PySem.W.kitOne K (.ref C) (.ref c)=some b) (h:JA K tr Δ λds Δ2=>Pd (.tup [.str x,.bl b]::ds) Δ2) :
  JA K (tCons (tTup (tCons (tC (.str x)) (tCons (tCB (rIsiE K) (tCons (tVar 0) (tCons (tC (.ref c)) tNil))) tNil))) tr) Δ Pd:=Zab (Zcd (Zab (Zdu (Zab (Za1 (Zab (Zad hx (Zab (Zth (Zag (Zqe Z e (Zag ⟨Zce,h⟩))))))))))))
def sndB:D->Bool
 |.tup [_,.bl b]=>b
 |_=>false
def fstD:D->D
 |.tup [a,_]=>a
 |d=>d
section
variable {P:Program}{w:World}{K:W.Frag}{mg:Str->Option Value}{base:Heap}{f:Addr}{fd:FuncData}{c0 c1 c2 c3 c4 c5 c6 c7 c8 c9 c10 c11 c12 c13 c14 c15:Addr}
theorem Zpz (mb:Mb mg) (cl:Cl K mg c0 c1 c2 c3 c4 c5 c6 c7 c8 c9 c10 c11 c12 c13 c14 c15) (F:Fun K "_law_word" "_law_word" s_law_word f fd) (xa:Addr):FnOkH xa P w K mg base CX0 1 f fd ["_law_e"] (spD K (fWd c2 xa)):=by
 refine F.okH sc_law_word (Zc8 λds Post h=>by obtain⟨rfl,_⟩:=h;rfl) (λcdv A outer s H vs Q E hr h=>?_);have hu:(A.deeper (PyProof.Rows.envOfC "_law_word" (defScope s_law_word) s.heap.objs.size f cdv)).units+1<cLine:=Wbl (Wct (by decide:1<=64) _) hr.units;refine⟨_,(Zaf (Zat (i:=1) sc_law_word.nd rfl (Or.inl rfl) (Zbr (Zaa (Zax (Zaa Zbk (Zaa (Zah (isiEK K) rfl (mb "isinstance" (by decide)) Zam (Zaa (pv 0) (Zaa (Zb4 rfl cl.n_Apart (show RelV (.ref _) _ from rfl)) Zac))) Zac))) (Zaa (Zax (Zaa Zbk (Zaa (Zah (isiEK K) rfl (mb "isinstance" (by decide)) Zam (Zaa (pv 0) (Zaa (Zb4 rfl cl.n_NoEnd (show RelV (.ref _) _ from rfl)) Zac))) Zac))) (Zaa (Zax (Zaa Zbk (Zaa (Zah (isiEK K) rfl (mb "isinstance" (by decide)) Zam (Zaa (pv 0) (Zaa (Zb4 rfl cl.n_NoName (show RelV (.ref _) _ from rfl)) Zac))) Zac))) Zac))))) (Zaf (Zat (i:=1) sc_law_word.nd rfl (Or.inl rfl) (Zaq (addK K) (pv 1) (Zbr (Zaa (Zax (Zaa Zbk (Zaa (Zah (isiEK K) rfl (mb "isinstance" (by decide)) Zam (Zaa (pv 0) (Zaa (Zb4 rfl cl.n_NoNumber (show RelV (.ref _) _ from rfl)) Zac))) Zac))) (Zaa (Zax (Zaa Zbk (Zaa (Zah (isiEK K) rfl (mb "isinstance" (by decide)) Zam (Zaa (pv 0) (Zaa (Zb4 rfl cl.n_NoOrder (show RelV (.ref _) _ from rfl)) Zac))) Zac))) Zac))))) (Zaf (Zat (i:=1) sc_law_word.nd rfl (Or.inl rfl) (Zaq (addK K) (pv 1) (Zbr (Zaa (Zax (Zaa Zbk (Zaa (Zah (isiEK K) rfl (mb "isinstance" (by decide)) Zam (Zaa (pv 0) (Zaa (Zb4 rfl cl.n_NoPaper (show RelV (.ref _) _ from rfl)) Zac))) Zac))) (Zaa (Zax (Zaa Zbk (Zaa (Zah (isiEK K) rfl (mb "isinstance" (by decide)) Zam (Zaa (pv 0) (Zaa (Zb4 rfl cl.n_NoPlace (show RelV (.ref _) _ from rfl)) Zac))) Zac))) Zac))))) (Zaf (Zat (i:=1) sc_law_word.nd rfl (Or.inl rfl) (Zaq (addK K) (pv 1) (Zbr (Zaa (Zax (Zaa Zbk (Zaa (Zah (isiEK K) rfl (mb "isinstance" (by decide)) Zam (Zaa (pv 0) (Zaa (Zb4 rfl cl.n_NoRing (show RelV (.ref _) _ from rfl)) Zac))) Zac))) (Zaa (Zax (Zaa Zbk (Zaa (Zah (isiEK K) rfl (mb "isinstance" (by decide)) Zam (Zaa (pv 0) (Zaa (Zb4 rfl cl.n_NoRow (show RelV (.ref _) _ from rfl)) Zac))) Zac))) (Zaa (Zax (Zaa Zbk (Zaa (Zah (isiEK K) rfl (mb "isinstance" (by decide)) Zam (Zaa (pv 0) (Zaa (Zb4 rfl cl.n_NoTable (show RelV (.ref _) _ from rfl)) Zac))) Zac))) Zac)))))) (Zaf (Zat (i:=1) sc_law_word.nd rfl (Or.inl rfl) (Zaq (addK K) (pv 1) (Zbr (Zaa (Zax (Zaa Zbk (Zaa (Zah (isiEK K) rfl (mb "isinstance" (by decide)) Zam (Zaa (pv 0) (Zaa (Zb4 rfl cl.n_NoText (show RelV (.ref _) _ from rfl)) Zac))) Zac))) (Zaa (Zax (Zaa Zbk (Zaa (Zah (isiEK K) rfl (mb "isinstance" (by decide)) Zam (Zaa (pv 0) (Zaa (Zb4 rfl cl.n_NoTie (show RelV (.ref _) _ from rfl)) Zac))) Zac))) (Zaa (Zax (Zaa Zbk (Zaa (Zah (isiEK K) rfl (mb "isinstance" (by decide)) Zam (Zaa (pv 0) (Zaa (Zb4 rfl cl.n_NoWeb (show RelV (.ref _) _ from rfl)) Zac))) Zac))) Zac)))))) (Zaf (Zat (i:=1) sc_law_word.nd rfl (Or.inl rfl) (Zaq (addK K) (pv 1) (Zbr (Zaa (Zax (Zaa Zbk (Zaa (Zah (isiEK K) rfl (mb "isinstance" (by decide)) Zam (Zaa (pv 0) (Zaa (Zb4 rfl cl.n_TooGreat (show RelV (.ref _) _ from rfl)) Zac))) Zac))) (Zaa (Zax (Zaa Zbk (Zaa (Zah (isiEK K) rfl (mb "isinstance" (by decide)) Zam (Zaa (pv 0) (Zaa (Zb4 rfl cl.n_TooMany (show RelV (.ref _) _ from rfl)) Zac))) Zac))) Zac))))) (Zaf (Zk6 (i:=2) ["_law_word_here","_law_one"] (show CompSc (defScope s_law_word) ["_law_e","_law_some","_law_found"] _ [] [] from ⟨rfl,by decide +kernel,by decide +kernel,by decide +kernel,rfl,by decide +kernel⟩) hr.hd sc_law_word.nd rfl (Or.inl rfl) (Znw (pv 1)) (λ_ _ _ _ _=>(gtupH (n:=2) hr.hd (Zb0 (Zbh (i:=0) (show List.Nodup (["_law_word_here","_law_one"]:List Str) from by decide) rfl (Or.inl rfl)) (Zb0 (Zbh (i:=1) (show List.Nodup (["_law_word_here","_law_one"]:List Str) from by decide) rfl (Or.inl rfl)) Zen)))) (λ_ _ _ _ _=>(Ziu (truK K (pv 1) (λ_=>rfl)))) (λ_ _ _ _ _=>(pv 0))) (Zaf (Zb6 (PW.pt (pw_and (Zaz Zcw (Zah (lenK K) rfl (mb "len" (by decide)) Zbm (Zaa (pv 2) Zac)) Zai (nomark _)) (pw_and1 (truK K (Zah (isiEK K) rfl (mb "isinstance" (by decide)) Zam (Zaa (pv 0) (Zaa (Zbt rfl (mb "ValueError" (by decide)) Zg2 (show RelV (.ty "ValueError") _ from rfl)) Zac))) (λ_=>rfl))))) (Zap (Zba (Zbg (ixK K hu) (pv 2) Zai (λ_ _=>rfl)))) Za2) (Zap (Zba Zbk)))))))))),Zga (λds Post hf=>?_) h⟩
 obtain⟨rfl,q⟩:=hf;refine⟨by simp,?_⟩;dsimp only[startD,Wbq,Wbs,Wbe,Wai];refine Zas (Zav (Zey ?_));refine Zb3 rfl cl.i_NoOrder cl.k_NoOrder_Apart ?_;refine Zb3 rfl cl.i_NoOrder cl.k_NoOrder_NoEnd ?_;refine Zb3 rfl cl.i_NoOrder cl.k_NoOrder_NoName ?_;refine Zag ⟨by decide,?_⟩;refine Zas (Zav (Zay (Zad rfl (Zey ?_))));refine Zb3 rfl cl.i_NoOrder cl.k_NoOrder_NoNumber ?_;refine Zb3 rfl cl.i_NoOrder cl.k_NoOrder_NoOrder ?_;refine Zag ⟨by decide,Zdw (by decide) ?_⟩;refine Zas (Zav (Zay (Zad rfl (Zey ?_))));refine Zb3 rfl cl.i_NoOrder cl.k_NoOrder_NoPaper ?_;refine Zb3 rfl cl.i_NoOrder cl.k_NoOrder_NoPlace ?_;refine Zag ⟨by decide,Zdw (by decide) ?_⟩;refine Zas (Zav (Zay (Zad rfl (Zey ?_))));refine Zb3 rfl cl.i_NoOrder cl.k_NoOrder_NoRing ?_;refine Zb3 rfl cl.i_NoOrder cl.k_NoOrder_NoRow ?_;refine Zb3 rfl cl.i_NoOrder cl.k_NoOrder_NoTable ?_;refine Zag ⟨by decide,Zdw (by decide) ?_⟩;refine Zas (Zav (Zay (Zad rfl (Zey ?_))));refine Zb3 rfl cl.i_NoOrder cl.k_NoOrder_NoText ?_;refine Zb3 rfl cl.i_NoOrder cl.k_NoOrder_NoTie ?_;refine Zb3 rfl cl.i_NoOrder cl.k_NoOrder_NoWeb ?_;refine Zag ⟨by decide,Zdw (by decide) ?_⟩;refine Zas (Zav (Zay (Zad rfl (Zey ?_))));refine Zb3 rfl cl.i_NoOrder cl.k_NoOrder_TooGreat ?_;refine Zb3 rfl cl.i_NoOrder cl.k_NoOrder_TooMany ?_;refine Zag ⟨by decide,Zdw (by decide) ?_⟩;refine Zas (Zav (Zon (Zeb (by decide) (Zob (n:=0) (Zad rfl ⟨rfl,_,rfl,small1000 (by decide),sndB,fstD,λi d hd=>?_,?_⟩)))))
 ·have hm:=Wap hd
  obtain⟨x,b,rfl⟩:∃x b,d=.tup [.str x,.bl b]:=by
   simp only[Wbo,List.nil_append,Wam,Wa5,or_false]at hm;rcases hm with rfl|rfl|rfl|rfl|rfl|rfl|rfl|rfl|rfl|rfl|rfl|rfl|rfl|rfl|rfl <;> exact⟨_,_,rfl⟩
  refine⟨_,_,rfl,Zbz (Zad rfl ⟨b,rfl,rfl,?_⟩)⟩;exact ite2 (λ_=>Zad rfl ⟨rfl,_,_,rfl⟩) (λ_=>⟨_,_,rfl⟩)
 refine Zas (Zb2 (Zfy (Za7 (Zay (Za1 (Zab (Zad rfl (Zag (Zch (Or.inl rfl) (Za8 (Zfs ⟨true,rfl,iteT ?_⟩)))))))))));refine Zbz (Za1 (Zab (Zad rfl (Zab (Zbx (Zag (Znb cl.i_NoOrder cl.t_NoOrder ⟨true,rfl,iteT ?_⟩)))))));exact Zbj (Zbw (Ztg rfl rfl) q)
end
def lam1:Expr:=callArg (cmpLeft (boolFst (ifTest ((forBody ((defBody s_law).getD 6 (.Pass ⟨0,0,0,0⟩))).getD 2 (.Pass ⟨0,0,0,0⟩)))))
abbrev qual1:Str:=(Str.ofString "law" ++ ".<locals>.") ++ "<lambda>"
abbrev fT1 (c:Addr):DSp:=fTold (fOrdX c) (λC=>C=c) λ_=>"order"
section
variable {P:Program}{w:World}{K:W.Frag}{mg:Str->Option Value}{base:Heap}{f:Addr}{fd:FuncData}{c0 c1 c2 c3 c4 c5 c6 c7 c8 c9 c10 c11 c12 c13 c14 c15:Addr}
theorem Zrk {l:Addr}{clos:List (Str × Addr)}{pm:Value}{c':Addr}{ctv:Value}{cs:List V}(C34:CalleeX P w K mg base 3 "order_of" ["web","rows"] (spX K (fOrdX c2))) (L:LamAt base l qual1 (lamOf lam1).1 (lamOf lam1).2.1 (lamOf lam1).2.2.1 clos pm c' ctv ["_law_web_here","_law_spoiled_here"] cs) :
  FnOk P w K mg base (CXE P w) 4 l (PySem.W.kla_fn "<lambda>" qual1 (lamOf lam1).1 (lamOf lam1).2.1 (lamOf lam1).2.2.1 clos pm (.ref c') ctv) [] (λvs H Q E=>vs=[]/\spX K (fOrdX c2) cs H Q E):=by
 refine Zrv L λA outer s H Q E hr h=>⟨_,Zpj C34 (hr.mono (by decide)) Znu (Zaa (pv 0) (Zaa (pv 1) Zac)),?_⟩;have hl:=L.len
 match cs,hl,h with
 |[v0,v1],_,h=>exact⟨v0,rfl,v1,rfl,h⟩
theorem Zra {l:Addr}{cs:List V}{fdl:FuncData}(mb:Mb mg) (cl:Cl K mg c0 c1 c2 c3 c4 c5 c6 c7 c8 c9 c10 c11 c12 c13 c14 c15) (C28:CalleeH P w K mg base 1 "_law_word" ["_law_e"] (λxa=>spD K (fWd c2 xa))) (FL:FnOk P w K mg base (CXE P w) 4 l fdl [] (λvs H Q E=>vs=[]/\spX K (fOrdX c2) cs H Q E)) (hl:PySem.W.FnAt l base) (hb:∀s,BindsTo s fdl ⟨[],[]⟩ [])
  (F:Fun K "_law_told" "_law_told" s_law_told f fd):FnOk P w K mg base CX0 5 f fd ["_law_asked"] (λvs H Q E=>vs=[.ref l]/\spD K (fT1 c2) cs H Q E):=by
 refine F.ok sc_law_told (λvs H Q E h=>by rw[h.1];rfl) (λcdv A outer s H vs Q E hr h=>?_);obtain⟨rfl,h⟩:=h;have hu:=Zcy hr;refine⟨_,(Zaf (Zat (i:=1) sc_law_told.nd rfl (Or.inl rfl) Zi5) (Zaf (Zsu (i:=2) (n:=3) sc_law_told.nd rfl rfl rfl rfl rfl rfl rfl cl.n_FloorError cl.e_FloorError (λE pn xe hx=>(Zap (Zat (i:=1) sc_law_told.nd rfl (Or.inl rfl) (Zax (Zaa Zbk (Zaa (Zri FL hl hb (hr.mono (by decide)) hx (i:=0) rfl (Or.inl rfl)) Zac)))))) (λa=>(Zap (Zat (i:=1) sc_law_told.nd rfl (Or.inl rfl) (Zax (Zaa Zbk (Zaa (Zsd C28 (Room.mark (hr.mono (by decide)) a) (Zaa (pv 2) Zac)) Zac))))))) (Zap (Zba (pv 1))))),Zn2 h (λC hC=>?_)⟩;subst hC;exact⟨⟨cl.e_NoOrder,cl.m_NoOrder⟩,λa Post hp=>Zav (Zcd (Zab (Zdu (Zab (Zbn (Zab (Zad rfl (Zag ⟨rfl,Zag ⟨Zce,_,_,_,rfl,hp⟩⟩))))))))⟩
end
theorem Zpu {P:Program}{w:World}{K:W.Frag}{mg:Str->Option Value}{h:Heap}{c0 c1 c2 c3 c4 c5 c6 c7 c8 c9 c10 c11 c12 c13 c14 c15:Addr}(mb:Mb mg) (cl:Cl K mg c0 c1 c2 c3 c4 c5 c6 c7 c8 c9 c10 c11 c12 c13 c14 c15) {f:Addr}{fd:FuncData}(F:Fun K "_law_told" "_law_told" s_law_told f fd) (hm:mg "_law_told" = some (.ref f))
  (CO:∀base,CalleeX P w K mg base 3 "order_of" ["web","rows"] (spX K (fOrdX c2))) (CW:∀base,CalleeH P w K mg base 1 "_law_word" ["_law_e"] (λxa=>spD K (fWd c2 xa))) :
  ToldL P w K mg 5 "_law_told" qual1 (lamOf lam1).1 (lamOf lam1).2.1 (lamOf lam1).2.2.1 ["_law_web_here","_law_spoiled_here"] (spD K (fT1 c2)):=
 ⟨⟨f,fd,F.binds λ_ _ _ _ _ _ us hl=>(match us,hl with | [_],_=>rfl),F.kp,hm,λbase' l clos pm c' ctv cs L=>Zra mb cl (CW base') (Zrk (CO base') L) ⟨_,_,_,_,L.obj⟩ (λs=>.of_eq rfl) F⟩⟩
abbrev pl1:List (Pos × Str):=[((lamOf lam1).2.2.2,qual1)]
theorem Zm7:(defScope s_law).names.lookup (Str.ofString "!0")=none:=by decide +kernel
theorem Zhs:∀r:List Int,tOnlys (r.map D.int)=true
 |[]=>rfl
 |x::r=>by
  show (true && tOnlys (r.map D.int))=true;rw[Zhs r];rfl
theorem Zh9:∀o:List (List Int),tOnlys (o.map encRow)=true
 |[]=>rfl
 |r::o=>by
  show (tOnlys (r.map D.int) && tOnlys (o.map encRow))=true;rw[Zhs r,Zh9 o];rfl
theorem Zpp {n:Int}{ts:List (Int × Int)}{o:List (List Int)}(hW:WebOk n ts) (hO:OrdOk n ts o):Lv 4 (encOrd o):=by
 have h1:=hO.len;have h2:=hW.hi;have h3:=hW.len;refine⟨by rw[Waa];omega,λd hd=>?_⟩;obtain⟨r,hr,rfl⟩:=Was.mp hd;obtain⟨i,hi⟩:=Wb4 hr;have rl:=(hO.row i r hi).len;refine⟨by rw[Waa];omega,λd hd=>?_⟩;obtain⟨x,_,rfl⟩:=Was.mp hd
 trivial
theorem Zq8 {n:Int}{ts:List (Int × Int)}{o:List (List Int)}{d:D}(hW:WebOk n ts) (hO:OrdOk n ts o) (h:Trn o d):RepW d:=by
 obtain⟨es,er,el,hes⟩:=h;have h1:=hO.len;have h2:=hW.hi;have h3:=hW.len;refine .inl (Zhl (n:=2) (Zfh (m:=60) (B:=24200) (Zcl er) (by omega) (λx hx=>?_) (Wak _)) (by decide) (by decide));obtain⟨i,hi⟩:=Wb4 hx;have hlt:i<o.length:=by rw[<- el];exact(Wah.mp hi).1
 have hr:=Wab hlt;obtain⟨r',e1,e2,_⟩:=hes i x _ hi hr;have R:=hO.row i _ hr;have rl:=R.len;refine(Zd0 e1 ⟨by rw[e2.length_eq];omega,λy hy=>?_⟩).2;have:=Zfi (R.perm.mem_iff.mp (e2.mem_iff.mp hy));omega
section
variable {P:Program}{w:World}{K:W.Frag}{mg:Str->Option Value}{base:Heap}{f c T:Addr}{fd:FuncData}{c0 c1 c2 c3 c4 c5 c6 c7 c8 c9 c10 c11 c12 c13 c14 c15:Addr}
theorem ok_law (mb:Mb mg) (KB:K.In base) (NB:base.Ns mainGlobals mg) (hC:codeOfF K f c T=true) (HB:base.BuiltinsAt mg T) (CT0:ToldL P w K mg 5 "_law_told" qual1 (lamOf lam1).1 (lamOf lam1).2.1 (lamOf lam1).2.2.1 ["_law_web_here","_law_spoiled_here"] (spD K (fT1 c2)))
  (C23:Callee P w K mg base 1 "_law_pen" ["_law_script"] (spN K fPen)) (C27:Callee P w K mg base 2 "_law_web" ["_law_pen_here","_law_places","_law_ties"] (spB K fWeb)) (C22:Callee P w K mg base 2 "_law_order" ["_law_pen_here","_law_web_here"] (spB K fOrder)) (C26:Callee P w K mg base 2 "_law_turned" ["_law_pen_here","_law_order_here"] (spB K fTrn)) (C34:Callee P w K mg base 3 "order_of" ["web","rows"] (spD K fOrdD)) (C24:Callee P w K mg base 4 "_law_same" ["_law_found","_law_due"] (spD K (fSame 4))) (C25:Callee P w K mg base 3 "_law_spoiled" ["_law_pen_here","_law_web_here","_law_order_here"] (spB K fSpoil5))
  (F:Fun K "law" "law" s_law f fd):FnOk P w K mg base CX0 6 f fd ["_law_script"] (spLT K T fLaw):=by
 refine F.okT hC sc_law (Znq λds Post h=>by obtain⟨_,rfl,_⟩:=h;rfl) (λA outer s H vs Q E hr hCh h=>?_);have hu:=Zcy hr;have hv:=Zim hr;have CH:=PySem.W.codeHd_of_K KB hCh;refine⟨_,Zr3 (i:=11) rfl (λx hx=>?_) (by (refine' Zaf ?s ?r); (case s=>exact(Zat (i:=1) sc_law.nd rfl (Or.inl rfl) (Zbe C23 (hr.mono (by decide)) (Zaa (pv 0) Zac)))); (case r=>exact(by (refine' Zaf ?s ?r); (case s=>exact(Zat (i:=2) sc_law.nd rfl (Or.inr rfl) (Zbe C27 (hr.mono (by decide)) (Zaa (pv 1) (Zaa Zai (Zaa Zai Zac)))))); (case r=>exact(by (refine' Zaf ?s ?r); (case s=>exact(Zat (i:=3) sc_law.nd rfl (Or.inl rfl) (Zbe C22 (hr.mono (by decide)) (Zaa (pv 1) (Zaa (pv 2) Zac))))); (case r=>exact(by (refine' Zaf ?s ?r); (case s=>exact(Zat (i:=4) sc_law.nd rfl (Or.inl rfl) (Zbe C26 (hr.mono (by decide)) (Zaa (pv 1) (Zaa (pv 3) Zac))))); (case r=>exact(by (refine' Zaf ?s ?r); (case s=>exact(Zat (i:=5) sc_law.nd rfl (Or.inl rfl) (Zah (reprWK K hr.gd (Zog hr)) rfl (mb "repr" (by decide)) Zg3 (Zaa (pv 4) Zac)))); (case r=>exact(by (refine' Zaf ?s ?r); (case s=>exact(Zb6 (PW.pt (pw_or (Zdr (truK K (Zbe C24 (hr.mono (by decide)) (Zaa (Zbe C34 (hr.mono (by decide)) (Zaa (pv 2) (Zaa (pv 4) Zac))) (Zaa (pv 3) Zac))) (λ_=>rfl))) (pw_or1 (Zaz Zez (Zah (reprWK K hr.gd (Zog hr)) rfl (mb "repr" (by decide)) Zg3 (Zaa (pv 4) Zac)) (pv 5) (nomark _))))) (Zap (Zba Zgn)) Za2)); (case r=>exact(by (refine' Zaf ?s ?r); (case s=>exact(Zh2 PassesOwn.never rfl (Zdm rfl (mb "range" (by decide)) (Zaa Zai Zac)) (Zbh (i:=6) sc_law.nd rfl (Or.inl rfl)) (Zaf (Zat (i:=7) sc_law.nd rfl (Or.inr rfl) (Zbe C25 (hr.mono (by decide)) (Zaa (pv 1) (Zaa (pv 2) (Zaa (pv 3) Zac))))) (Zaf (Zat (i:=5) sc_law.nd rfl (Or.inl rfl) (Zah (reprWK K hr.gd (Zog hr)) rfl (mb "repr" (by decide)) Zg3 (Zaa (pv 7) Zac))) (Zap (Zb6 (PW.pt (pw_or (Zaz (neSmTK K hv) (Zqn (i:=11) CT0 (show LamSc (defScope s_law) ["_law_script","_law_pen_here","_law_web_here","_law_order_here","_law_turned_here","_law_kept","_law_k","_law_spoiled_here","_law_again","_law_found","_law_row","!0"] _ ["_law_web_here","_law_spoiled_here"] [2,7] from ⟨rfl,rfl,rfl,by decide +kernel,by decide +kernel,rfl,by decide +kernel⟩) (hr.mono (by decide)) rfl CH HB) (Zax (Zaa Zbk (Zaa Zbk Zac))) (nomark _)) (pw_or1 (Zaz Zez (Zah (reprWK K hr.gd (Zog hr)) rfl (mb "repr" (by decide)) Zg3 (Zaa (pv 7) Zac)) (pv 5) (nomark _))))) (Zap (Zba Zgn)) Za2)))))); (case r=>exact(by (refine' Zaf ?s ?r); (case s=>exact(Ze4 (i:=8) ["_law_row"] (show CompSc (defScope s_law) ["_law_script","_law_pen_here","_law_web_here","_law_order_here","_law_turned_here","_law_kept","_law_k","_law_spoiled_here","_law_again","_law_found","_law_row","!0"] _ [] [] from ⟨rfl,by decide +kernel,by decide +kernel,by decide +kernel,rfl,by decide +kernel⟩) rfl sc_law.nd rfl (Or.inl rfl) (seqK K (pv 3)) (λ_ _ _ _ _=>(Zbh (i:=0) (show List.Nodup (["_law_row"]:List Str) from by decide) rfl (Or.inl rfl))) (λ_ _ _ _ _=>Zcx) (λ_ _ _ _ _=>(Za4 (lstK K) rfl (mb "list" (by decide)) Zci (Zaa (pv 0) Zac))))); (case r=>exact(by (refine' Zaf ?s ?r); (case s=>exact(Zat (i:=9) sc_law.nd rfl (Or.inl rfl) (Zbe C34 (hr.mono (by decide)) (Zaa (pv 2) (Zaa (pv 8) Zac))))); (case r=>exact(by (refine' Zaf ?s ?r); (case s=>exact(Zh2 PassesOwn.never rfl (seqK K (pv 8)) (Zbh (i:=10) sc_law.nd rfl (Or.inl rfl)) (Zap (Zdx (bmK K PySem.F.plainAttrs_list PySem.F.slot_list_append PySem.F.type_list_append Zdj (pv 10) (Zaa Zai Zac)))))); (case r=>exact(by (refine' Zaf ?s ?r); (case s=>exact(Zdx (bm0K K PySem.F.plainAttrs_list PySem.F.slot_list_clear PySem.F.type_list_clear Zoe (pv 8)))); (case r=>exact(Zap (Zba (Zmo (Zbe C24 (hr.mono (by decide)) (Zaa (pv 9) (Zaa (pv 3) Zac))) (Zmy (Zbe C24 (hr.mono (by decide)) (Zaa (Zbe C34 (hr.mono (by decide)) (Zaa (pv 2) (Zaa (pv 3) Zac))) (Zaa (pv 3) Zac))))))))))))))))))))))))))))),Ztf (pl:=pl1) (λds Post hf=>?_) h⟩
 ·cases hx
  rintro(z|z|z) <;> (have z:(defScope s_law).names.lookup (Str.ofString "!0")=_:=z;rw[Zm7]at z;cases z)
 obtain⟨ns,rfl,hl,q⟩:=hf;refine⟨by show 1<=11;decide,by show 11<12;decide,?_⟩;dsimp only[startD,Wbq,Wbs,Wbe,Wai];refine Zas (Zgx (Zid (Zab (Zad rfl (Zag ⟨ns,rfl,hl,λps hp=>?_⟩)))));refine Zas (Zav (Zcc rfl rfl (Zab (Za8 (Zab (Za8 (Zag (Zr9 rfl rfl hp (by decide) (by decide) (by decide) (by decide) λn ts p1 hp1 hW _ _=>?_))))))));refine Zas (Zav (Zcc rfl rfl (Zab (Zad rfl (Zag (Zoj rfl rfl hp1 hW λo p2 hp2 hO=>?_))))));have L:=Zpp hW hO;have hw:=hW.len;have hn:=hW.hi;have hol:=hO.len;refine Zas (Zav (Zcc rfl rfl (Zab (Zad rfl (Zag ⟨_,_,rfl,rfl,hp2,n,ts,o,rfl,hW,hO,λd p3 hp3 hd=>?_⟩)))));have hrep:=Zq8 hW hO hd;obtain⟨es,er,hl2,hes⟩:=hd;refine Zas (Zav (Za1 (Zab (Zad rfl (Zag (Ze5 hrep ?_))))));refine Zas (Zb2 (Zfq (Zct (Zbz (Zbn (Zab (Zbn (Zab (Zad rfl (Zab (Zad rfl (Zag ⟨n,ts,o,d,es,rfl,hW,hO,er,hl2,hes,Zab (Zad rfl (Zag ⟨_,rfl,L,_,rfl,iteF ?_⟩))⟩))))))))))));refine Za7 (Zay (Za1 (Zab (Zad rfl (Zag (Ze5 hrep (Zad rfl (Zpe ⟨_,rfl,iteF (Za6 ?_)⟩))))))));refine Zbl (λΔ=>∃(p3:List D) (x5 x6 x7:L2.Slot),Pen p3 /\ Δ = [.val (.scr (ns.map .int)),.own (.lst p3),.val (encWeb n ts),.val (encOrd o),.val d,x5,x6,x7,.any,.any,.any,.bor (.ext (TabR T pl1))]) ?_ ?_
 ·refine Zjd (Zdk (Zab (Za8 (Zag ⟨9,rfl,by decide,by decide,λ_ Δ=>∃(p3:List D) (x5 x6 x7:L2.Slot),Pen p3 /\ Δ = [.val (.scr (ns.map .int)),.own (.lst p3),.val (encWeb n ts),.val (encOrd o),.val d,x5,x6,x7,.any,.any,.any,.bor (.ext (TabR T pl1))],⟨_,_,_,_,hp3,rfl⟩,?_,λΔ2 h=>h⟩))))
  rintro i dk Δ2 _ ⟨p3,x5,x6,x7,hp3,rfl⟩;refine Zfg (Zas (Zav (Zcc rfl rfl (Zab (Zad rfl (Zab (Zad rfl (Zag ⟨_,_,rfl,rfl,hp3,n,ts,o,rfl,hW,hO,λb p4 hp4 hb=>?_⟩))))))));refine Zas (Zav (Za1 (Zab (Zad rfl (Zag (Ze5 hb.rep ?_))))));refine Zb2 (Zfq (Za7 (Zay (Zr5 (ds:=[encWeb n ts,b]) base rfl War (λp hp _ _=>by rw[Wa8.mp hp]) rfl ⟨λC=>C=c2,⟨n,ts,b,rfl,hW,hb.ty,hb.no,rfl⟩,λC hC=>⟨hC,?_⟩⟩))));refine Zcd (Zab (Zdu (Zab (Zdu (Zag ⟨Zce,Zsp (n:=1) (by decide) rfl ⟨_,rfl,iteF ?_⟩⟩)))));exact Za7 (Zay (Za1 (Zab (Zad rfl (Zag (Ze5 hb.rep (Zad rfl (Zpe ⟨_,rfl,iteF (Za6 ⟨_,_,_,_,hp4,rfl⟩)⟩))))))))
 rintro Δ1 ⟨p3,x5,x6,x7,hp3,rfl⟩;have self:∀(i:Nat) (e:D) (r:List Int),(∃r2,o[i]?=some r2/\rowD e=some (r2.map D.int))->o[i]?=some r->∃r':List Int,rowD e=some (r'.map .int)/\r'.Perm r/\lf r'=r:=λi e r ⟨r2,h1,h2⟩ h3=>by
  rw[h1]at h3;cases h3;exact⟨r,h2,List.Perm.refl _,Zre (hO.row i r h1)⟩
 refine Znz (rows:=o) (d0:=encWeb n ts) (dr:=encOrd o) (i:=8) (j:=9) (l:=10) (by decide) (by decide) (by decide) (by show 8<12;decide) (by show 9<12;decide) (by show 10<12;decide) (λr hr=>?_) ?_ ?_ ?_ (Zh9 o) ?_
 ·obtain⟨i,hi⟩:=Wb4 hr
  have rl:=(hO.row i r hi).len;exact small1000 (by omega)
 ·refine Zgd (by decide) (Zf8 (Zad rfl ⟨_,rfl,?_,λ_=>true,λd=>match d with|.tup ds=>.lst ds|_=>.lst [],λi e he=>?_,?_⟩))
  ·rw[Waa];exact small1000 (by omega)
  ·obtain⟨r,_,rfl⟩:=Was.mp (Wap he)
   exact Zcp ⟨rfl,Zit (Zab (Zad rfl (Zag ⟨_,Or.inl rfl,rfl,_,rfl⟩)))⟩
  ·rw[Wby.mpr (by simp),Wa9];rfl
 ·exact Zad rfl rfl
 ·refine⟨n,ts,o,_,o.map lstZ,rfl,hW,hO,rfl,Waa _,λi e r he hr=>self i e r ⟨r,hr,?_⟩ hr,rfl⟩
  rw[Waj,hr]at he;cases he;rfl
 refine Zbj (Zcz (Zbn (Zab (Zad rfl (Zab (Zad rfl (Zag ⟨_,rfl,L,_,rfl,iteT ?_⟩)))))));refine Zbn (Zab (Zbn (Zab (Zad rfl (Zab (Zad rfl (Zag ⟨n,ts,o,_,o.map encRow,rfl,hW,hO,rfl,Waa _,λi e r he hr=>self i e r ⟨r,hr,?_⟩ hr,Zab (Zad rfl (Zag ⟨_,rfl,L,rfl,q⟩))⟩)))))));rw[Waj,hr]at he;cases he;rfl
end
theorem lenS {us:List Value}{n:Nat}(h:us.length=n+1):∃a t,us=a::t/\t.length=n:=by
 cases us with
 |nil=>exact absurd h.symm (Nat.succ_ne_zero n)
 |cons a t=>exact⟨a,t,rfl,Nat.succ.inj h⟩
theorem bK1 {α:Type _}{g r:List Value -> α}(h:∀a0,g [a0]=r [a0]) (us:List Value) (l:us.length=1):g us=r us:=by
 obtain⟨a0,u0,rfl,h0⟩:=lenS l;obtain rfl:=Wbu h0;exact h a0
theorem bK2 {α:Type _}{g r:List Value -> α}(h:∀a0 a1,g [a0,a1]=r [a0,a1]) (us:List Value) (l:us.length=2):g us=r us:=by
 obtain⟨a0,u0,rfl,h0⟩:=lenS l;obtain⟨a1,u1,rfl,h1⟩:=lenS h0;obtain rfl:=Wbu h1;exact h a0 a1
theorem bK3 {α:Type _}{g r:List Value -> α}(h:∀a0 a1 a2,g [a0,a1,a2]=r [a0,a1,a2]) (us:List Value) (l:us.length=3):g us=r us:=by
 obtain⟨a0,u0,rfl,h0⟩:=lenS l;obtain⟨a1,u1,rfl,h1⟩:=lenS h0;obtain⟨a2,u2,rfl,h2⟩:=lenS h1;obtain rfl:=Wbu h2;exact h a0 a1 a2
theorem bK4 {α:Type _}{g r:List Value -> α}(h:∀a0 a1 a2 a3,g [a0,a1,a2,a3]=r [a0,a1,a2,a3]) (us:List Value) (l:us.length=4):g us=r us:=by
 obtain⟨a0,u0,rfl,h0⟩:=lenS l;obtain⟨a1,u1,rfl,h1⟩:=lenS h0;obtain⟨a2,u2,rfl,h2⟩:=lenS h1;obtain⟨a3,u3,rfl,h3⟩:=lenS h2;obtain rfl:=Wbu h3;exact h a0 a1 a2 a3
def FnE (K:W.Frag) (x:Str) (st:Stmt):Prop:=∃(f:Addr) (fd:FuncData),W.nsIn K mainGlobals x=some (some (.ref f))/\Fun K x x st f fd
theorem fnE {K:W.Frag}{x:Str}{st:Stmt}{f:Addr}{oc kV doc pm cdv ct:Value}{od an:Option Addr}{sl:Array (Option Value)}(a:W.nsIn K mainGlobals x=some (some (.ref f))) (l:K.lookup f=some ⟨oc,od,.func (W.fnOf x x (defArgs st) (defBody st) (defScope st) .none kV doc pm an cdv ct),sl⟩) (c:W.codeIn K cdv x=true) (k:W.keepIn K (.ref f)=true):FnE K x st:=⟨f,_,a,Zso l c k⟩
theorem Zl3 {P:Program}{w:World}{K:W.Frag}{mg:Str->Option Value}{base h:Heap}(X:K.In h) (G:h.Ns mainGlobals mg) {x:Str}{st:Stmt}{ps:List Str}{lv:Nat}{sp:Sp}(e:FnE K x st) (ok:∀{f:Addr}{fd:FuncData},Fun K x x st f fd->FnOk P w K mg base CX0 lv f fd ps sp) (hb:∀(kV doc pm:Value) (an:Option Addr) (cdv ct:Value) (us:List Value),us.length=ps.length->bindArgs (W.fnOf x x (defArgs st) (defBody st) (defScope st) .none kV doc pm an cdv ct) ⟨us,[]⟩=pure (ps.zip us)):Callee P w K mg base lv x ps sp:=by
 obtain⟨f,fd,a,F⟩:=e;exact⟨⟨f,fd,ok F,F.binds hb,F.kp,W.mg_of X G a⟩⟩
theorem Zns {P:Program}{w:World}{K:W.Frag}{mg:Str->Option Value}{base h:Heap}(X:K.In h) (G:h.Ns mainGlobals mg) {x:Str}{st:Stmt}{ps:List Str}{lv:Nat}{sp:Addr->Sp}(e:FnE K x st) (ok:∀{f:Addr}{fd:FuncData},Fun K x x st f fd->∀xa,FnOkH xa P w K mg base CX0 lv f fd ps (sp xa)) (hb:∀(kV doc pm:Value) (an:Option Addr) (cdv ct:Value) (us:List Value),us.length=ps.length->bindArgs (W.fnOf x x (defArgs st) (defBody st) (defScope st) .none kV doc pm an cdv ct) ⟨us,[]⟩=pure (ps.zip us)):CalleeH P w K mg base lv x ps sp:=by
 obtain⟨f,fd,a,F⟩:=e;exact⟨⟨f,fd,ok F,F.binds hb,F.kp,W.mg_of X G a⟩⟩
theorem Zn3 {P:Program}{w:World}{K:W.Frag}{mg:Str->Option Value}{base h:Heap}(X:K.In h) (G:h.Ns mainGlobals mg) {x:Str}{st:Stmt}{ps:List Str}{lv:Nat}{sp:Sp}(e:FnE K x st) (ok:∀{f:Addr}{fd:FuncData},Fun K x x st f fd->Binds K fd ps []->W.keepIn K (.ref f)=true->mg x=some (.ref f)->FnOk P w K mg base CX0 lv f fd ps sp) (hb:∀(kV doc pm:Value) (an:Option Addr) (cdv ct:Value) (us:List Value),us.length=ps.length->bindArgs (W.fnOf x x (defArgs st) (defBody st) (defScope st) .none kV doc pm an cdv ct) ⟨us,[]⟩=pure (ps.zip us)):Callee P w K mg base lv x ps sp:=by
 obtain⟨f,fd,a,F⟩:=e;exact⟨⟨f,fd,ok F (F.binds hb) F.kp (W.mg_of X G a),F.binds hb,F.kp,W.mg_of X G a⟩⟩
theorem Zol {P:Program}{w:World}{K:W.Frag}{mg:Str->Option Value}{base h:Heap}(X:K.In h) (G:h.Ns mainGlobals mg) {x:Str}{st:Stmt}{ps:List Str}{lv:Nat}{sp:Sp}(e:FnE K x st) (ok:∀{f:Addr}{fd:FuncData},Fun K x x st f fd->FnOk P w K mg base (CXE P w) lv f fd ps sp) (hb:∀(kV doc pm:Value) (an:Option Addr) (cdv ct:Value) (us:List Value),us.length=ps.length->bindArgs (W.fnOf x x (defArgs st) (defBody st) (defScope st) .none kV doc pm an cdv ct) ⟨us,[]⟩=pure (ps.zip us)):CalleeX P w K mg base lv x ps sp:=by
 obtain⟨f,fd,a,F⟩:=e;exact⟨⟨f,fd,ok F,F.binds hb,F.kp,W.mg_of X G a⟩⟩
theorem Zj7 {K:W.Frag}{f c T:Addr}(h:codeOfF K f c T=true):PySem.W.codeHdIn K c T=true:=by
 unfold codeOfF at h;split at h
 ·rw[Wa6]at h;exact h.2
 ·cases h
theorem all_mk {l:PySem.W.OpenLaw}{w:World}{K:W.Frag}{h:Heap}{mg:Str->Option Value}{fa:Addr}(X:K.In h) (G:h.Ns mainGlobals mg) (hfa:mg "law" = some (.ref fa))
  (e1:FnE K "_law_draw" s_law_draw)
  (e2:FnE K "_law_pen" s_law_pen)
  (e3:FnE K "_law_web" s_law_web)
  (e4:FnE K "_law_order" s_law_order)
  (e5:FnE K "is_whole" s_is_whole)
  (e6:FnE K "is_row" s_is_row)
  (e7:FnE K "place_of" s_place_of)
  (e8:FnE K "ends_at" s_ends_at)
  (e9:FnE K "least_first" s_least_first)
  (e10:FnE K "row_of" s_row_of)
  (e11:FnE K "order_of" s_order_of)
  (e12:FnE K "_law_same" s_law_same)
  (e13:FnE K "_law_turned" s_law_turned)
  (e14:FnE K "_law_wrong" s_law_wrong)
  (e15:FnE K "_law_mixed" s_law_mixed)
  (e16:FnE K "_law_spoiled" s_law_spoiled)
  (e17:FnE K "_law_word" s_law_word)
  (e18:FnE K "_law_told" s_law_told)
  (e19:FnE K "law" s_law)
  (z0:W.nsIn K mainGlobals "ValueError" = some none)
  (z1:W.nsIn K mainGlobals "abs" = some none)
  (z2:W.nsIn K mainGlobals "all" = some none)
  (z3:W.nsIn K mainGlobals "bool" = some none)
  (z4:W.nsIn K mainGlobals "enumerate" = some none)
  (z5:W.nsIn K mainGlobals "int" = some none)
  (z6:W.nsIn K mainGlobals "isinstance" = some none)
  (z7:W.nsIn K mainGlobals "len" = some none)
  (z8:W.nsIn K mainGlobals "list" = some none)
  (z9:W.nsIn K mainGlobals "max" = some none)
  (z10:W.nsIn K mainGlobals "min" = some none)
  (z11:W.nsIn K mainGlobals "range" = some none)
  (z12:W.nsIn K mainGlobals "repr" = some none)
  (z13:W.nsIn K mainGlobals "sorted" = some none)
  (z14:W.nsIn K mainGlobals "str" = some none)
  (z15:W.nsIn K mainGlobals "tuple" = some none)
  (z16:W.nsIn K mainGlobals "zip" = some none)
  {c_FloorError c_NoWeb c_NoOrder c_NoNumber c_NoEnd c_NoTie c_NoPlace c_NoTable c_NoRing c_NoPaper c_Apart c_TooMany c_TooGreat c_NoText c_NoName c_NoRow:Addr}
  (n_FloorError:W.nsIn K mainGlobals "FloorError" = some (some (.ref c_FloorError)))
  (e_FloorError:PySem.W.excIn K c_FloorError [.type "ValueError",.type "Exception",.type "BaseException",.type "object"] "ValueError.__new__" = true)
  (n_NoWeb:W.nsIn K mainGlobals "NoWeb" = some (some (.ref c_NoWeb)))
  (n_NoOrder:W.nsIn K mainGlobals "NoOrder" = some (some (.ref c_NoOrder)))
  (e_NoOrder:PySem.W.excIn K c_NoOrder [.type "ValueError",.type "Exception",.type "BaseException",.type "object"] "ValueError.__new__" = true)
  (n_NoNumber:W.nsIn K mainGlobals "NoNumber" = some (some (.ref c_NoNumber)))
  (n_NoEnd:W.nsIn K mainGlobals "NoEnd" = some (some (.ref c_NoEnd)))
  (n_NoTie:W.nsIn K mainGlobals "NoTie" = some (some (.ref c_NoTie)))
  (n_NoPlace:W.nsIn K mainGlobals "NoPlace" = some (some (.ref c_NoPlace)))
  (n_NoTable:W.nsIn K mainGlobals "NoTable" = some (some (.ref c_NoTable)))
  (n_NoRing:W.nsIn K mainGlobals "NoRing" = some (some (.ref c_NoRing)))
  (n_NoPaper:W.nsIn K mainGlobals "NoPaper" = some (some (.ref c_NoPaper)))
  (n_Apart:W.nsIn K mainGlobals "Apart" = some (some (.ref c_Apart)))
  (n_TooMany:W.nsIn K mainGlobals "TooMany" = some (some (.ref c_TooMany)))
  (n_TooGreat:W.nsIn K mainGlobals "TooGreat" = some (some (.ref c_TooGreat)))
  (n_NoText:W.nsIn K mainGlobals "NoText" = some (some (.ref c_NoText)))
  (n_NoName:W.nsIn K mainGlobals "NoName" = some (some (.ref c_NoName)))
  (n_NoRow:W.nsIn K mainGlobals "NoRow" = some (some (.ref c_NoRow)))
  (gsx:PySem.W.specialIn K (.builtin "object.__class__") "__get__" = some (some (.builtin "getset_descriptor.__get__")))
  (tkx:PySem.W.takesIn K (.builtin "object.__class__")=some true)
  (ic_Apart:PySem.W.isClsIn K c_Apart=true)
  (ty_Apart:PySem.W.typeIn K (.ref c_Apart)=some (.type "type"))
  (ic_NoEnd:PySem.W.isClsIn K c_NoEnd=true)
  (ty_NoEnd:PySem.W.typeIn K (.ref c_NoEnd)=some (.type "type"))
  (ic_NoName:PySem.W.isClsIn K c_NoName=true)
  (ty_NoName:PySem.W.typeIn K (.ref c_NoName)=some (.type "type"))
  (ic_NoNumber:PySem.W.isClsIn K c_NoNumber=true)
  (ty_NoNumber:PySem.W.typeIn K (.ref c_NoNumber)=some (.type "type"))
  (ic_NoOrder:PySem.W.isClsIn K c_NoOrder=true)
  (ty_NoOrder:PySem.W.typeIn K (.ref c_NoOrder)=some (.type "type"))
  (ic_NoPaper:PySem.W.isClsIn K c_NoPaper=true)
  (ty_NoPaper:PySem.W.typeIn K (.ref c_NoPaper)=some (.type "type"))
  (ic_NoPlace:PySem.W.isClsIn K c_NoPlace=true)
  (ty_NoPlace:PySem.W.typeIn K (.ref c_NoPlace)=some (.type "type"))
  (ic_NoRing:PySem.W.isClsIn K c_NoRing=true)
  (ty_NoRing:PySem.W.typeIn K (.ref c_NoRing)=some (.type "type"))
  (ic_NoRow:PySem.W.isClsIn K c_NoRow=true)
  (ty_NoRow:PySem.W.typeIn K (.ref c_NoRow)=some (.type "type"))
  (ic_NoTable:PySem.W.isClsIn K c_NoTable=true)
  (ty_NoTable:PySem.W.typeIn K (.ref c_NoTable)=some (.type "type"))
  (ic_NoText:PySem.W.isClsIn K c_NoText=true)
  (ty_NoText:PySem.W.typeIn K (.ref c_NoText)=some (.type "type"))
  (ic_NoTie:PySem.W.isClsIn K c_NoTie=true)
  (ty_NoTie:PySem.W.typeIn K (.ref c_NoTie)=some (.type "type"))
  (ic_NoWeb:PySem.W.isClsIn K c_NoWeb=true)
  (ty_NoWeb:PySem.W.typeIn K (.ref c_NoWeb)=some (.type "type"))
  (ic_TooGreat:PySem.W.isClsIn K c_TooGreat=true)
  (ty_TooGreat:PySem.W.typeIn K (.ref c_TooGreat)=some (.type "type"))
  (ic_TooMany:PySem.W.isClsIn K c_TooMany=true)
  (ty_TooMany:PySem.W.typeIn K (.ref c_TooMany)=some (.type "type"))
  (ga_NoOrder:PySem.W.findIn K (.ref c_NoOrder) "__getattribute__" = some (some (.builtin "BaseException.__getattribute__")))
  (gt_NoOrder:PySem.W.findIn K (.ref c_NoOrder) "__getattr__" = some none)
  (ca_NoOrder:PySem.W.findIn K (.ref c_NoOrder) "__class__" = some (some (.builtin "object.__class__")))
  (ob_NoOrder:PySem.W.mroIn K c_NoOrder (.type "object")=some true)
  (be_NoOrder:PySem.W.mroIn K c_NoOrder (.type "BaseException")=some true)
  (ve_NoOrder:PySem.W.subIn K (.ref c_NoOrder) (.type "ValueError")=some true)
  (m_NoOrder:PySem.W.mroIn K c_NoOrder (.ref c_FloorError)=some true)
  (s_NoOrder_Apart:PySem.W.subIn K (.ref c_NoOrder) (.ref c_Apart)=some false)
  (d_NoOrder_Apart:(c_NoOrder == c_Apart)=false)
  (s_NoOrder_NoEnd:PySem.W.subIn K (.ref c_NoOrder) (.ref c_NoEnd)=some false)
  (d_NoOrder_NoEnd:(c_NoOrder == c_NoEnd)=false)
  (s_NoOrder_NoName:PySem.W.subIn K (.ref c_NoOrder) (.ref c_NoName)=some false)
  (d_NoOrder_NoName:(c_NoOrder == c_NoName)=false)
  (s_NoOrder_NoNumber:PySem.W.subIn K (.ref c_NoOrder) (.ref c_NoNumber)=some false)
  (d_NoOrder_NoNumber:(c_NoOrder == c_NoNumber)=false)
  (s_NoOrder_NoOrder:PySem.W.subIn K (.ref c_NoOrder) (.ref c_NoOrder)=some true)
  (s_NoOrder_NoPaper:PySem.W.subIn K (.ref c_NoOrder) (.ref c_NoPaper)=some false)
  (d_NoOrder_NoPaper:(c_NoOrder == c_NoPaper)=false)
  (s_NoOrder_NoPlace:PySem.W.subIn K (.ref c_NoOrder) (.ref c_NoPlace)=some false)
  (d_NoOrder_NoPlace:(c_NoOrder == c_NoPlace)=false)
  (s_NoOrder_NoRing:PySem.W.subIn K (.ref c_NoOrder) (.ref c_NoRing)=some false)
  (d_NoOrder_NoRing:(c_NoOrder == c_NoRing)=false)
  (s_NoOrder_NoRow:PySem.W.subIn K (.ref c_NoOrder) (.ref c_NoRow)=some false)
  (d_NoOrder_NoRow:(c_NoOrder == c_NoRow)=false)
  (s_NoOrder_NoTable:PySem.W.subIn K (.ref c_NoOrder) (.ref c_NoTable)=some false)
  (d_NoOrder_NoTable:(c_NoOrder == c_NoTable)=false)
  (s_NoOrder_NoText:PySem.W.subIn K (.ref c_NoOrder) (.ref c_NoText)=some false)
  (d_NoOrder_NoText:(c_NoOrder == c_NoText)=false)
  (s_NoOrder_NoTie:PySem.W.subIn K (.ref c_NoOrder) (.ref c_NoTie)=some false)
  (d_NoOrder_NoTie:(c_NoOrder == c_NoTie)=false)
  (s_NoOrder_NoWeb:PySem.W.subIn K (.ref c_NoOrder) (.ref c_NoWeb)=some false)
  (d_NoOrder_NoWeb:(c_NoOrder == c_NoWeb)=false)
  (s_NoOrder_TooGreat:PySem.W.subIn K (.ref c_NoOrder) (.ref c_TooGreat)=some false)
  (d_NoOrder_TooGreat:(c_NoOrder == c_TooGreat)=false)
  (s_NoOrder_TooMany:PySem.W.subIn K (.ref c_NoOrder) (.ref c_TooMany)=some false)
  (d_NoOrder_TooMany:(c_NoOrder == c_TooMany)=false)
  {T fl c:Addr}{oc kV doc pm ct:Value}{od an:Option Addr}{sl:Array (Option Value)}(t1:K.lookup T=none) (ta:W.nsIn K mainGlobals "law" = some (some (.ref fl))) (tl:K.lookup fl=some ⟨oc,od,.func (W.fnOf "law" "law" (defArgs s_law) (defBody s_law) (defScope s_law) .none kV doc pm an (.ref c) ct),sl⟩) (tc:codeOfF K fl c T=true) :
  K.lookup T=none/\(∃c,PySem.W.codeHdIn K c T=true)/\∃fd:FuncData,(∀(s:Shared) (v:Value),BindsTo s fd ⟨[v],[]⟩ [("_law_script",v)])/\∀base:Heap,K.In base->base.Ns mainGlobals mg->base.BuiltinsAt mg T->FnOk l.prog w K mg base CX0 6 fa fd ["_law_script"] (spLT K T fLaw):=by
 obtain⟨f,fd,a,F⟩:=e19;have e:=hfa.symm.trans (W.mg_of X G a);cases e;have e2:=a.symm.trans ta;cases e2;have mb:Mb mg:=by
  intro x hx;simp only[Wam,Wa5,or_false]at hx;rcases hx with rfl|rfl|rfl|rfl|rfl|rfl|rfl|rfl|rfl|rfl|rfl|rfl|rfl|rfl|rfl|rfl|rfl
  ·exact W.mg_none_of X G z0
  ·exact W.mg_none_of X G z1
  ·exact W.mg_none_of X G z2
  ·exact W.mg_none_of X G z3
  ·exact W.mg_none_of X G z4
  ·exact W.mg_none_of X G z5
  ·exact W.mg_none_of X G z6
  ·exact W.mg_none_of X G z7
  ·exact W.mg_none_of X G z8
  ·exact W.mg_none_of X G z9
  ·exact W.mg_none_of X G z10
  ·exact W.mg_none_of X G z11
  ·exact W.mg_none_of X G z12
  ·exact W.mg_none_of X G z13
  ·exact W.mg_none_of X G z14
  ·exact W.mg_none_of X G z15
  ·exact W.mg_none_of X G z16
 have cl:Cl K mg c_FloorError c_NoWeb c_NoOrder c_NoNumber c_NoEnd c_NoTie c_NoPlace c_NoTable c_NoRing c_NoPaper c_Apart c_TooMany c_TooGreat c_NoText c_NoName c_NoRow:=⟨W.mg_of X G n_FloorError,e_FloorError,W.mg_of X G n_NoWeb,W.mg_of X G n_NoOrder,e_NoOrder,W.mg_of X G n_NoNumber,W.mg_of X G n_NoEnd,W.mg_of X G n_NoTie,W.mg_of X G n_NoPlace,W.mg_of X G n_NoTable,W.mg_of X G n_NoRing,W.mg_of X G n_NoPaper,W.mg_of X G n_Apart,W.mg_of X G n_TooMany,W.mg_of X G n_TooGreat,W.mg_of X G n_NoText,W.mg_of X G n_NoName,W.mg_of X G n_NoRow,⟨e_NoOrder,ga_NoOrder,gt_NoOrder,ca_NoOrder,gsx,tkx,ob_NoOrder,be_NoOrder⟩,m_NoOrder,Zqr (by decide +kernel) ve_NoOrder,Zco ic_Apart ty_Apart s_NoOrder_Apart λz=>(by rw[d_NoOrder_Apart]at z;exact z),Zco ic_NoEnd ty_NoEnd s_NoOrder_NoEnd λz=>(by rw[d_NoOrder_NoEnd]at z;exact z),Zco ic_NoName ty_NoName s_NoOrder_NoName λz=>(by rw[d_NoOrder_NoName]at z;exact z),Zco ic_NoNumber ty_NoNumber s_NoOrder_NoNumber λz=>(by rw[d_NoOrder_NoNumber]at z;exact z),Zco ic_NoOrder ty_NoOrder s_NoOrder_NoOrder λ_=>rfl,Zco ic_NoPaper ty_NoPaper s_NoOrder_NoPaper λz=>(by rw[d_NoOrder_NoPaper]at z;exact z),Zco ic_NoPlace ty_NoPlace s_NoOrder_NoPlace λz=>(by rw[d_NoOrder_NoPlace]at z;exact z),Zco ic_NoRing ty_NoRing s_NoOrder_NoRing λz=>(by rw[d_NoOrder_NoRing]at z;exact z),Zco ic_NoRow ty_NoRow s_NoOrder_NoRow λz=>(by rw[d_NoOrder_NoRow]at z;exact z),Zco ic_NoTable ty_NoTable s_NoOrder_NoTable λz=>(by rw[d_NoOrder_NoTable]at z;exact z),Zco ic_NoText ty_NoText s_NoOrder_NoText λz=>(by rw[d_NoOrder_NoText]at z;exact z),Zco ic_NoTie ty_NoTie s_NoOrder_NoTie λz=>(by rw[d_NoOrder_NoTie]at z;exact z),Zco ic_NoWeb ty_NoWeb s_NoOrder_NoWeb λz=>(by rw[d_NoOrder_NoWeb]at z;exact z),Zco ic_TooGreat ty_TooGreat s_NoOrder_TooGreat λz=>(by rw[d_NoOrder_TooGreat]at z;exact z),Zco ic_TooMany ty_TooMany s_NoOrder_TooMany λz=>(by rw[d_NoOrder_TooMany]at z;exact z)⟩;have AL:∀base:Heap,(CalleeX l.prog w K mg base 3 "order_of" ["web","rows"] (spX K (fOrdX c_NoOrder)))/\(CalleeH l.prog w K mg base 1 "_law_word" ["_law_e"] (λxa=>spD K (fWd c_NoOrder xa))):=λbase=>by
  have M:=@Zl3 l.prog w K mg base h X G;have MH:=@Zns l.prog w K mg base h X G;have MX:=@Zol l.prog w K mg base h X G;have C5:=M e5 (Zku mb) λ_ _ _ _ _ _=>bK1 λ_=>rfl;have C6:=M e6 (Zh0 mb) λ_ _ _ _ _ _=>bK1 λ_=>rfl;have C7:=M e7 (Zjy mb) λ_ _ _ _ _ _=>bK2 λ_ _=>rfl;have C8:=M e8 (Zf1 mb C7) λ_ _ _ _ _ _=>bK2 λ_ _=>rfl;have C9:=M e9 (Zhg mb) λ_ _ _ _ _ _=>bK1 λ_=>rfl;have C10:=MX e10 (Zqt mb cl C6 C5 C9) λ_ _ _ _ _ _=>bK2 λ_ _=>rfl;have C12:=MX e11 (Zp5 mb cl C6 C8 C10) λ_ _ _ _ _ _=>bK2 λ_ _=>rfl;have C19:=MH e17 (Zpz mb cl) λ_ _ _ _ _ _=>bK1 λ_=>rfl;exact⟨C12,C19⟩
 obtain⟨ft,fdt,att,Ft⟩:=e18;have CT0:=Zpu (P:=l.prog) (w:=w) (h:=h) mb cl Ft (W.mg_of X G att) (λbase=>(AL base).1) (λbase=>(AL base).2);have F2:=F;obtain⟨oc2,od2,kV2,doc2,pm2,an2,cdv2,ct2,osl2,rfl,lk,hcd⟩:=F2.ex;refine⟨t1,⟨_,Zj7 tc⟩,W.fnOf "law" "law" (defArgs s_law) (defBody s_law) (defScope s_law) .none kV2 doc2 pm2 an2 cdv2 ct2,λs v=>.of_eq rfl,λbase KB NB HB=>?_⟩;have M:=@Zl3 l.prog w K mg base h X G;have MR:=@Zn3 l.prog w K mg base h X G;have C1:=M e1 (Zqg mb) λ_ _ _ _ _ _=>bK2 λ_ _=>rfl;have C2:=M e2 (Zry mb) λ_ _ _ _ _ _=>bK1 λ_=>rfl;have C3:=M e3 (Zrx mb C1) λ_ _ _ _ _ _=>bK3 λ_ _ _=>rfl;have C4:=M e4 (Zn0 mb C1) λ_ _ _ _ _ _=>bK2 λ_ _=>rfl;have C5:=M e5 (Zku mb) λ_ _ _ _ _ _=>bK1 λ_=>rfl;have C6:=M e6 (Zh0 mb) λ_ _ _ _ _ _=>bK1 λ_=>rfl;have C7:=M e7 (Zjy mb) λ_ _ _ _ _ _=>bK2 λ_ _=>rfl;have C8:=M e8 (Zf1 mb C7) λ_ _ _ _ _ _=>bK2 λ_ _=>rfl;have C9:=M e9 (Zhg mb) λ_ _ _ _ _ _=>bK1 λ_=>rfl;have C11:=M e10 (Zqs mb C6 C5 C9) λ_ _ _ _ _ _=>bK2 λ_ _=>rfl;have C13:=M e11 (Zpv mb C6 C8 C11) λ_ _ _ _ _ _=>bK2 λ_ _=>rfl;have C14:=MR e12 (λF b k m=>Zm1 mb F b k m 4) λ_ _ _ _ _ _=>bK2 λ_ _=>rfl;have C15:=M e13 (Zsg mb C1) λ_ _ _ _ _ _=>bK2 λ_ _=>rfl;have C16:=M e14 (Zok mb C1) λ_ _ _ _ _ _=>bK3 λ_ _ _=>rfl;have C17:=M e15 (Zp4 mb C1) λ_ _ _ _ _ _=>bK4 λ_ _ _ _=>rfl;have C18:=M e16 (Zlf mb C1 C17 C16) λ_ _ _ _ _ _=>bK3 λ_ _ _=>rfl;exact ok_law mb KB NB tc HB CT0 C2 C3 C4 C15 C13 C14 C18 F
end Lw
open PySem PySem.W PyProof.Rows
namespace PySem.W.Fast
theorem te7107413562575577097:True:=trivial
def tw16733031359315965526:PySem.Program:=PySem.Challenge.pw_holefloor_k05_orders_made
theorem te16733031359315965526:PySem.Challenge.pw_holefloor_k05_orders_made=tw16733031359315965526:=rfl
def tw7725664487001717963:Unit:=()
def tw6619666375386142509:Unit:=()
def tw11127485982992641186:Unit:=()
def tw7415428220035384030:Unit:=()
def tw13396117230313496961:Unit:=()
def tw4278911619327773083:Unit:=()
def tw8934373682170941572:Unit:=()
def tw2706581556703459715:Unit:=()
def tw9150573415943039524:Unit:=()
def tw14797234636812154762:Unit:=()
def tw9428422094519066507:Unit:=()
def tw8125115926683416008:Unit:=()
def tw8557078604708231614:Unit:=()
def tw10589822972442304947:Unit:=()
def tw10569318979227875277:Unit:=()
def tw578478036891083581:Unit:=()
def tw4113175362801820953:Unit:=()
def tw6645582137640153554:Unit:=()
def tw10207880986855808704:Unit:=()
def tw14432573120148769151:Unit:=()
def tw12335239130115805431:Unit:=()
def tw14393951857418202080:Unit:=()
def tw11078245259286801571:Unit:=()
def tw1244208431820286231:Unit:=()
def tw11059380490612162806:Unit:=()
def tw4981410386653552206:Unit:=()
def tw17937381998512433946:Unit:=()
def tw9712107605968052600:Unit:=()
def tw6919498601415462354:Unit:=()
def tw7299892465416848847:Unit:=()
def tw1702673365389228941:Unit:=()
def tw3326137640307616585:Unit:=()
def tw6023932588450577113:Unit:=()
def tw17561254247720593804:Unit:=()
def tw1668692452071613619:Unit:=()
def tw13654938800695963907:Unit:=()
end PySem.W.Fast
set_option maxRecDepth 100000 in
set_option maxHeartbeats 0 in
theorem PySem.Challenge.cw_holefloor_k05_orders_made_holds : PySem.Challenge.rw_holefloor_k05_orders_made.Holds := by
 w_on;o_law;k_head; (case hw=>w_witness2)
 k_fill
 refine L2.walk_lawT (k:=6) (x:="_law_script") (l:=PySem.Challenge.rw_holefloor_k05_orders_made) ⟨rfl,by decide,by decide,rfl⟩ rfl rfl (λw h Y=>PySem.W.km_in_of Y) (λw h Y=>PySem.W.km_tabs_of Y _ War) ?F
 case F=>
  intro w mg fa h KX G hmg;refine' Lw.all_mk KX G hmg ?e1 ?e2 ?e3 ?e4 ?e5 ?e6 ?e7 ?e8 ?e9 ?e10 ?e11 ?e12 ?e13 ?e14 ?e15 ?e16 ?e17 ?e18 ?e19 ?z0 ?z1 ?z2 ?z3 ?z4 ?z5 ?z6 ?z7 ?z8 ?z9 ?z10 ?z11 ?z12 ?z13 ?z14 ?z15 ?z16 ?n_FloorError ?e_FloorError ?n_NoWeb ?n_NoOrder ?e_NoOrder ?n_NoNumber ?n_NoEnd ?n_NoTie ?n_NoPlace ?n_NoTable ?n_NoRing ?n_NoPaper ?n_Apart ?n_TooMany ?n_TooGreat ?n_NoText ?n_NoName ?n_NoRow ?gsx ?tkx ?ic_Apart ?ty_Apart ?ic_NoEnd ?ty_NoEnd ?ic_NoName ?ty_NoName ?ic_NoNumber ?ty_NoNumber ?ic_NoOrder ?ty_NoOrder ?ic_NoPaper ?ty_NoPaper ?ic_NoPlace ?ty_NoPlace ?ic_NoRing ?ty_NoRing ?ic_NoRow ?ty_NoRow ?ic_NoTable ?ty_NoTable ?ic_NoText ?ty_NoText ?ic_NoTie ?ty_NoTie ?ic_NoWeb ?ty_NoWeb ?ic_TooGreat ?ty_TooGreat ?ic_TooMany ?ty_TooMany ?ga_NoOrder ?gt_NoOrder ?ca_NoOrder ?ob_NoOrder ?be_NoOrder ?ve_NoOrder ?m_NoOrder ?s_NoOrder_Apart ?d_NoOrder_Apart ?s_NoOrder_NoEnd ?d_NoOrder_NoEnd ?s_NoOrder_NoName ?d_NoOrder_NoName ?s_NoOrder_NoNumber ?d_NoOrder_NoNumber ?s_NoOrder_NoOrder ?s_NoOrder_NoPaper ?d_NoOrder_NoPaper ?s_NoOrder_NoPlace ?d_NoOrder_NoPlace ?s_NoOrder_NoRing ?d_NoOrder_NoRing ?s_NoOrder_NoRow ?d_NoOrder_NoRow ?s_NoOrder_NoTable ?d_NoOrder_NoTable ?s_NoOrder_NoText ?d_NoOrder_NoText ?s_NoOrder_NoTie ?d_NoOrder_NoTie ?s_NoOrder_NoWeb ?d_NoOrder_NoWeb ?s_NoOrder_TooGreat ?d_NoOrder_TooGreat ?s_NoOrder_TooMany ?d_NoOrder_TooMany ?t1 ?ta ?tl ?tc
  (case n_FloorError=>k_is)
  (case e_FloorError=>k_exc)
  (case n_NoWeb=>k_is)
  (case n_NoOrder=>k_is)
  (case e_NoOrder=>k_exc)
  (case n_NoNumber=>k_is)
  (case n_NoEnd=>k_is)
  (case n_NoTie=>k_is)
  (case n_NoPlace=>k_is)
  (case n_NoTable=>k_is)
  (case n_NoRing=>k_is)
  (case n_NoPaper=>k_is)
  (case n_Apart=>k_is)
  (case n_TooMany=>k_is)
  (case n_TooGreat=>k_is)
  (case n_NoText=>k_is)
  (case n_NoName=>k_is)
  (case n_NoRow=>k_is)
  (case gsx=>k_is)
  (case tkx=>k_is)
  (case ic_Apart=>k_is)
  (case ty_Apart=>k_is)
  (case ic_NoEnd=>k_is)
  (case ty_NoEnd=>k_is)
  (case ic_NoName=>k_is)
  (case ty_NoName=>k_is)
  (case ic_NoNumber=>k_is)
  (case ty_NoNumber=>k_is)
  (case ic_NoOrder=>k_is)
  (case ty_NoOrder=>k_is)
  (case ic_NoPaper=>k_is)
  (case ty_NoPaper=>k_is)
  (case ic_NoPlace=>k_is)
  (case ty_NoPlace=>k_is)
  (case ic_NoRing=>k_is)
  (case ty_NoRing=>k_is)
  (case ic_NoRow=>k_is)
  (case ty_NoRow=>k_is)
  (case ic_NoTable=>k_is)
  (case ty_NoTable=>k_is)
  (case ic_NoText=>k_is)
  (case ty_NoText=>k_is)
  (case ic_NoTie=>k_is)
  (case ty_NoTie=>k_is)
  (case ic_NoWeb=>k_is)
  (case ty_NoWeb=>k_is)
  (case ic_TooGreat=>k_is)
  (case ty_TooGreat=>k_is)
  (case ic_TooMany=>k_is)
  (case ty_TooMany=>k_is)
  (case ga_NoOrder=>k_is)
  (case gt_NoOrder=>k_is)
  (case ca_NoOrder=>k_is)
  (case ob_NoOrder=>k_is)
  (case be_NoOrder=>k_is)
  (case ve_NoOrder=>k_is)
  (case m_NoOrder=>k_is)
  (case s_NoOrder_Apart=>k_is)
  (case d_NoOrder_Apart=>rfl)
  (case s_NoOrder_NoEnd=>k_is)
  (case d_NoOrder_NoEnd=>rfl)
  (case s_NoOrder_NoName=>k_is)
  (case d_NoOrder_NoName=>rfl)
  (case s_NoOrder_NoNumber=>k_is)
  (case d_NoOrder_NoNumber=>rfl)
  (case s_NoOrder_NoOrder=>k_is)
  (case s_NoOrder_NoPaper=>k_is)
  (case d_NoOrder_NoPaper=>rfl)
  (case s_NoOrder_NoPlace=>k_is)
  (case d_NoOrder_NoPlace=>rfl)
  (case s_NoOrder_NoRing=>k_is)
  (case d_NoOrder_NoRing=>rfl)
  (case s_NoOrder_NoRow=>k_is)
  (case d_NoOrder_NoRow=>rfl)
  (case s_NoOrder_NoTable=>k_is)
  (case d_NoOrder_NoTable=>rfl)
  (case s_NoOrder_NoText=>k_is)
  (case d_NoOrder_NoText=>rfl)
  (case s_NoOrder_NoTie=>k_is)
  (case d_NoOrder_NoTie=>rfl)
  (case s_NoOrder_NoWeb=>k_is)
  (case d_NoOrder_NoWeb=>rfl)
  (case s_NoOrder_TooGreat=>k_is)
  (case d_NoOrder_TooGreat=>rfl)
  (case s_NoOrder_TooMany=>k_is)
  (case d_NoOrder_TooMany=>rfl)
  (case ta=>k_is)
  (case tl=>k_is)
  (case t1=>kernel_rfl)
  (case tc=>kernel_rfl)
  all_goals first|(refine' Lw.fnE ?a ?l ?c ?k; (case a=>k_is); (case l=>k_is); (case c=>k_is); (case k=>k_is))|k_is

