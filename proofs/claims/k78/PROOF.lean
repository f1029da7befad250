import PyProof.Rows.All
import Wide.All
import OpenK.AllK
import Wide.FinOn
import Lean
import PyProof.EqAt
import PyProof.EqKinds
import PyProof.TupleCall
import KE.KSortTup
import PyProof.NeKinds
import PyProof.ExcBaseAll.ValueError
import PyProof.ExcArgsOwn
import PyProof.NsDelKeeps
import PyProof.RulesAs
import PyProof.FString
import PyProof.AttrMissSeq
import PyProof.WalksS
import KE.KDictList
import KE.KDictSum
import PyProof.MinMaxWalk
import KE.KMinKey
import PyProof.Rows.CallKwBuiltin
import PySem.Challenge.RW_holefloor_k78_whole_alike_by_codes
open List renaming getElem?_eq_getElem→Waa, length_map→Wab, getD_eq_getElem?_getD→Wac, getElem?_map→Wad, getElem?_eq_some_iff→Waf, size_toArray→Wag, getElem?_set_self→Wai, replicate→Waj, map_map→Wal, mem_of_getElem?→Wan, length_cons→Wao, getElem?_set_ne→Wap, mem_cons→Wat, range→Wau, mem_cons_of_mem→Wav, length_append→Waw, getElem?_append_right→Wax, mem_cons_self→Way, mem_append_right→Waz, map_congr_left→Wa0, length_replicate→Wa1, filter_eq_self→Wa2, mem_singleton→Wa3, map_append→Wa4, mem_range→Wa5, getElem_mem→Wa6, getElem?_append_left→Wa8, mem_map→Wa9, nodup_iff_pairwise_ne→Wbc, length→Wbd, map_cons→Wbe, append_nil→Wbf, getElem?_zip_eq_some→Wbg, length_range→Wbh, mem_iff_getElem?→Wbi, mem_filter→Wbn, lookup_cons→Wbo, eq_nil_of_length_eq_zero→Wbp, map→Wbq, mem_append→Wbr, length_set→Wbs, length_take→Wbt, length_drop→Wbu, filter_cons→Wbv, tail→Wbw, length_singleton→Wby, length_nil→Wbz, zip_cons_cons→Wb1, filter_append→Wb2, take_length→Wb3, all_eq_true→Wb4, pairwise_map→Wb5, ext_getElem?→Wb6, append_assoc→Wb7, nodup_cons→Wb8, pairwise_lt_range→Wb9, getElem?_replicate→Wcd, filterMap_cons→Wce, take_append_drop→Wch, length_filter_le→Wci, mem_iff_getElem→Wcl, mem_append_left→Wcm, pairwise_iff_getElem→Wcn, not_mem_nil→Wco, length_reverse→Wcp, getElem?_range→Wcq, set_eq_of_length_le→Wcr, find?_cons→Wcs, take_of_length_le→Wcu, length_pos_of_mem→Wcv, take_add_one→Wcw, getElem?_toArray→Wcx, getElem?_eq_none→Wcy, getElem_toArray→Wc1, map_take→Wc2, map_drop→Wc3, any_cons→Wc4, length_pos_iff→Wc5, mem_filterMap→Wc6, map_set→Wc7, reverse_cons→Wc9, nodup_append→Wda, all_cons→Wdd, map_snd_zip→Wde, set_append_right→Wdg, set_append_left→Wdk, replicate_succ→Wdn, map_id→Wdo, zip_nil_right→Wdp, mem_replicate→Wdq, map_inj_right→Wdr, zip_nil_left→Wdt, mapM_toArray→Wdu, getElem?_set→Wdv, all_map→Wdx, map_fst_zip→Wdz, getElem_inj→Wd0
open PySem.Heap renaming get?_push_of_some→Wae, lt_size→Wam, get?_push_size→Waq, get?_update_other→Wbk, get?_update_self→Wcc, get?_push_ne→Wdb, size_update→Wdf, size_push→Wdl
open Int renaming toNat_natCast→Wah, zero_add→Wbj, toNat_of_nonneg→Wca, emod_lt_of_pos→Wc8, emod_nonneg→Wdj
open Nat renaming le_refl→Wak, ne_of_lt→Was, lt_of_lt_of_le→Wbb, le_trans→Wbl, lt_succ_of_lt→Wbm, zero_le→Wbx, le_of_lt→Wb0, le_succ→Wcf, lt_of_le_of_lt→Wcg, lt_irrefl→Wck, add_sub_cancel_left→Wct, ne_of_gt→Wcz, min_self→Wc0, lt_or_ge→Wdi, mod_lt→Wdw, sub_zero→Wdy
open Bool renaming false_ne_true→War, false_eq_true→Wba, and_eq_true→Wcb, eq_iff_iff→Wcj, eq_false_iff→Wdc, beq_eq_decide_eq→Wdh, false_and→Wdm, true_and→Wds
open Option renaming some→Wa7
set_option Elab.async false
set_option linter.all false
set_option maxRecDepth 100000
namespace L2
open PySem PySem.Spec PyProof.Rows
abbrev Key:=Sum Int Str
def keyIs:Key->Value->Bool
 |.inl k,v=>Value.isInt k v
 |.inr x,v=>Value.isStrOf x v
def keyH (w:World):Key->Int
 |.inl k=>hashInt k
 |.inr x=>hashStr w x
theorem Zbe:∀{k:Key}{v:Value},keyIs k v=true->(∃i t,k=Sum.inl i/\v=Value.int i t)\/(∃x t,k=Sum.inr x/\v=Value.str x t)
 |.inl i,v,h=>by
  obtain⟨t,e⟩:=Value.isInt_shape (k:=i) (v:=v) h;exact .inl ⟨i,t,rfl,e⟩
 |.inr x,v,h=>by
  obtain⟨t,e⟩:=Value.isStrOf_shape (x:=x) (v:=v) h;exact .inr ⟨x,t,rfl,e⟩
theorem Zmc (i:Int) (t:Tok):keyIs (.inl i) (.int i t)=true:=by simp[keyIs,Value.isInt]
theorem Zlr (x:Str) (t:Tok):keyIs (.inr x) (.str x t)=true:=by simp[keyIs,Value.isStrOf]
theorem Zs2 (a b:Int):decide ((Sum.inl a:Key)=Sum.inl b)=(a == b):=by
 by_cases e:a=b
 ·subst e;simp
 ·have h:¬ (Sum.inl a:Key)=Sum.inl b:=λq=>e (Sum.inl.inj q)
  rw[decide_eq_false h];exact(beq_eq_false_iff_ne.mpr e).symm
theorem Zri (a b:Str):decide ((Sum.inr a:Key)=Sum.inr b)=decide (a=b):=by
 by_cases e:a=b
 ·subst e;simp
 ·have h:¬ (Sum.inr a:Key)=Sum.inr b:=λq=>e (Sum.inr.inj q)
  rw[decide_eq_false h,decide_eq_false e]
theorem Zti (a:Int) (b:Str):decide ((Sum.inl a:Key)=Sum.inr b)=false:=decide_eq_false (λq=>nomatch q)
theorem Zsf (a:Str) (b:Int):decide ((Sum.inr a:Key)=Sum.inl b)=false:=decide_eq_false (λq=>nomatch q)
def mixKind (prog:Program) (w:World):PySem.KeyKind prog w Key where
 is:=keyIs
 hash:=keyH w
 inj:=λv a b ha hb=>by
  rcases Zbe ha with ⟨i,t,rfl,rfl⟩|⟨x,t,rfl,rfl⟩
  ·rcases Zbe hb with ⟨j,u,rfl,e⟩|⟨y,u,rfl,e⟩
   ·injection e with e1 _;rw[e1]
   ·exact nomatch e
  ·rcases Zbe hb with ⟨j,u,rfl,e⟩|⟨y,u,rfl,e⟩
   ·exact nomatch e
   ·injection e with e1 _;rw[e1]
 byValue:=λk v h=>by
  rcases Zbe h with ⟨i,t,rfl,rfl⟩|⟨x,t,rfl,rfl⟩ <;> rfl
 pyHash:=λhv h=>by
  rcases Zbe hv with ⟨i,t,rfl,rfl⟩|⟨x,t,rfl,rfl⟩
  ·exact wpAny_pyHash_int h
  ·exact wpAny_pyHash_str h
 eqBool:=λhu hv h=>by
  rcases Zbe hu with ⟨i,t,rfl,rfl⟩|⟨x,t,rfl,rfl⟩
  ·rcases Zbe hv with ⟨j,u,rfl,rfl⟩|⟨y,u,rfl,rfl⟩
   ·rw[Zs2]at h;exact wpAny_eqBool_int h
   ·rw[Zti]at h;exact SeqAt.EqAt.int_str i t y u _ _ _ _ h
  ·rcases Zbe hv with ⟨j,u,rfl,rfl⟩|⟨y,u,rfl,rfl⟩
   ·rw[Zsf]at h;exact SeqAt.EqAt.str_int x t j u _ _ _ _ h
   ·rw[Zri]at h;exact wpAny_eqBool_str h
 «strs»:=λk x t v h=>by
  rcases Zbe h with ⟨i,u,rfl,e⟩|⟨y,u,rfl,e⟩
  ·exact nomatch e
  ·injection e with e1 _
   subst e1;cases v <;> rfl
theorem Zie (prog:Program) (w:World) (i:Int) (t:Tok):(mixKind prog w).is (.inl i) (.int i t)=true:=Zmc i t
theorem Zij (prog:Program) (w:World) (x:Str) (t:Tok):(mixKind prog w).is (.inr x) (.str x t)=true:=Zlr x t
end L2
namespace L2
open PySem PySem.Spec PyProof.Rows
inductive V where
 |non|bl (b:Bool)|int (i:Int)|str (x:Str)|byt (b:Array UInt8)|flt (b:UInt64)|ref (a:Addr)|ty (n:String)
 deriving DecidableEq
def RelV:V->Value->Prop
 |.non,u=>u=Value.none
 |.bl b,u=>u=Value.bool b
 |.int i,u=>∃t,u=Value.int i t
 |.str x,u=>∃t,u=Value.str x t
 |.byt b,u=>∃t,u=Value.bytes b t
 |.flt b,u=>∃t,u=Value.float b t
 |.ref a,u=>u=Value.ref a
 |.ty n,u=>u=Value.type n
abbrev Vals:List V->List Value->Prop:=Paired RelV
theorem Vals.length {xs:List V}{us:List Value}(r:Vals xs us):xs.length=us.length:=Paired.length r
theorem Vals.get:∀{xs:List V}{us:List Value}{i:Nat}{x:V},Vals xs us->xs[i]?=some x->∃u,us[i]?=some u/\RelV x u
 |_,_,_,_,.nil,e=>by simp at e
 |_,_,0,_,.cons r _,e=>by simp at e;subst e;exact⟨_,rfl,r⟩
 |_,_,i+1,x,.cons _ t,e=>by
  obtain⟨u,h1,h2⟩:=Vals.get (i:=i) (x:=x) t (by simpa using e);exact⟨u,by simpa using h1,h2⟩
theorem Vals.set {x:V}{u:Value}(r:RelV x u):∀{xs:List V}{us:List Value}(i:Nat),Vals xs us->Vals (xs.set i x) (us.set i u)
 |_,_,_,.nil=>.nil
 |_,_,0,.cons _ t=>.cons r t
 |_,_,i+1,.cons q t=>.cons q (Vals.set r i t)
theorem Vals.append:∀{xs ys:List V}{us ws:List Value},Vals xs us->Vals ys ws->Vals (xs++ys) (us++ws)
 |_,_,_,_,.nil,s=>s
 |_,_,_,_,.cons r t,s=>.cons r (Vals.append t s)
theorem Vals.take:∀{xs:List V}{us:List Value}(n:Nat),Vals xs us->Vals (xs.take n) (us.take n)
 |_,_,0,_=>.nil
 |_,_,_+1,.nil=>.nil
 |_,_,n+1,.cons r t=>.cons r (Vals.take n t)
theorem Vals.drop:∀{xs:List V}{us:List Value}(n:Nat),Vals xs us->Vals (xs.drop n) (us.drop n)
 |_,_,0,r=>r
 |_,_,_+1,.nil=>.nil
 |_,_,n+1,.cons _ t=>Vals.drop n t
def RelO:Option V->Option Value->Prop
 |some v,some u=>RelV v u
 |none,none=>True
 |_,_=>False
def KV {κ:Type}:List (κ × V)->List (κ × Value)->Prop:=Paired λ(p:κ × V) (q:κ × Value)=>p.1=q.1/\RelV p.2 q.2
def kV:Key->V
 |.inl i=>.int i
 |.inr x=>.str x
inductive HO where
 /-- a list -/
 |lst (xs:List V)
 /-- a tuple (never changes) -/
 |tup (xs:List V)
 /-- a dict whose keys are ints and texts;one whose keys are tuples of ints and texts (the empty one is both) -/
 |dK (kvs:List (Key × V))|dT (kvs:List (List Key × V))
 /-- a set of ints: its members,its size -/
 |set (S:Int->Bool) (n:Nat)
 /-- an instance of the class at C,its dict at dx,its attributes -/
 |ins (C dx:Addr) (fs:List (Str × V))
 /-- the dict of the instance at x -/
 |own (x:Addr)
 /-- the dict of an exception -/
 |xd (fs:List (Str × V))
 /-- a bound method,f of x -/
 |met (f x:Addr)
 /-- a range object lo,lo+1,.. below hi -/
 |rng (lo hi:Int)
 /-- a thing that is known to the object (the script;a dict while a loop walks it): read,never written while it is so -/
 |frz (o:Obj) (u:HO)
 /-- a code object's table -/
 |tbl (ps:Array Value)
 /-- any other thing,by what is true of its one object (a def of one's own: SetO a S n:=HO.ext λh=>..) -/
 |ext (φ:Heap->Prop)
abbrev Hp:=Addr->Option HO
def upd (H:Hp) (a:Addr) (o:HO):Hp:=λb=>if b=a then some o else H b
theorem Zaq {H:Hp}{a:Addr}{o:HO}:upd H a o a=some o:=by unfold upd;rw[if_pos rfl]
theorem Zas {H:Hp}{a b:Addr}{o:HO}(h:b≠a):upd H a o b=H b:=by unfold upd;rw[if_neg h]
theorem Zq6 {H:Hp}{a:Addr}{o u:HO}:upd (upd H a o) a u=upd H a u:=by
 funext b;unfold upd;split <;> rfl
theorem Ztl {H:Hp}{a b:Addr}{o u:HO}(h:H a=some o) (h':H b=some u) (d:o≠u):a≠b:=by
 intro e;subst e;rw[h]at h';exact d (Wa7.inj h')
theorem Zbg {H:Hp}{a b:Addr}{o:HO}(h:H a=some o) (h':H b=none):a≠b:=by
 intro e;subst e;rw[h]at h';cases h'
def IsTupN (h:Heap) (a:Addr) (its:Array Value):Prop:=∃o,h.get? a=some o/\(o.cls=.type "tuple" /\ ∃n,o.data=.seq its n)/\o.dict=none
theorem IsTupN.tup {h:Heap}{a:Addr}{its:Array Value}(x:IsTupN h a its):IsTup h a its:=let ⟨o,e,c,_⟩:=x; ⟨o,e,c⟩
theorem IsTupN.new (h:Heap) (items:Array Value):IsTupN (h.push { cls:=.type "tuple",data:=.seq items }) h.objs.size items:=⟨_,Waq _ rfl,⟨rfl,_,rfl⟩,rfl⟩
section
variable (P:Program) (w:World)
def ObjOk (H:Hp) (h:Heap) (a:Addr):HO->Prop
 |.lst xs=>xs.length<=sizeLine/\∃(its:List Value) (n:Nat),Vals xs its/\h.get? a=some { cls:=.type "list",data:=.seq its.toArray n }
 |.tup xs=>xs.length<=sizeLine/\∃its:List Value,Vals xs its/\IsTupN h a its.toArray
 |.dK kvs=>kvs.length<=sizeLine/\(a == sysModules)=false/\∃vs,KV kvs vs/\h.DictOf (mixKind P w) a vs
 |.dT kvs=>kvs.length<=sizeLine/\(a == sysModules)=false/\∃xs:List (List Key × Addr × Value),
   Paired (λ(p:List Key × V) (q:List Key × Addr × Value)=>p.1=q.1/\H q.2.1=some (.tup (p.1.map kV))/\RelV p.2 q.2.2) kvs xs ∧
   ∃o es ep,h.get? a=some o/\o.ExactDict/\o.data=.dict es ep/\es.toList=xs.map (entryOfKey (tupleKind (mixKind P w)))/\(xs.map (·.1)).Nodup
 |.set S n=>h.SetOf (intKind P w) a S n
 |.ins C dx fs=>H dx=some (.own a)/\fs.length<=1000/\dx≠a/\h.get? a=some (PySem.W.instObj C dx) ∧
   ∃mA,h.Ns1 dx mA/\(∀f,RelO (fs.lookup f) (mA f))/\PySem.Within mA (fs.map (·.1))
 |.own _=>∃o,h.get? a=some o
 |.xd fs=>∃mA,h.Ns1 a mA/\∀f,RelO (fs.lookup f) (mA f)
 |.rng lo hi=>∃t u v,h.get? a=some { cls:=.type "range",data:=.fields #[.int lo t,.int hi u,.int 1 v] }
 |.frz o u=>h.get? a=some o/\ObjOk H h a u
 |.tbl ps=>h.get? a=some { cls:=.none,data:=.fields ps }
 |.met f x=>h.get? a=some (PySem.W.methodObj (.ref f) (.ref x))
 |.ext φ=>φ h/\(∃o,h.get? a=some o)/\∀h1 h2:Heap,φ h1->(∀o,h1.get? a=some o->h2.get? a=some o) -> φ h2
def HOk (H:Hp) (h:Heap):Prop:=∀a o,H a=some o->ObjOk P w H h a o
end
section
variable {P:Program}{w:World}{H H':Hp}{h h':Heap}{a:Addr}{o:HO}
theorem ObjOk.lt (x:ObjOk P w H h a o):a<h.objs.size:=by
 cases o with
 |lst xs=>obtain⟨_,_,_,_,e⟩:=x;exact Wam e
 |tup xs=>obtain⟨_,_,_,p⟩:=x;exact p.tup.lt
 |dK kvs=>obtain⟨_,_,_,_,o,_,_,e,_⟩:=x;exact Wam e
 |dT kvs=>obtain⟨_,_,_,_,o,_,_,e,_⟩:=x;exact Wam e
 |set S n=>obtain⟨o,_,_,_,e,_⟩:=x;exact Wam e
 |ins C dx fs=>obtain⟨_,_,_,e,_⟩:=x;exact Wam e
 |own y=>obtain⟨_,e⟩:=x;exact Wam e
 |xd fs=>obtain⟨_,⟨_,_,_,e,_⟩,_⟩:=x;exact Wam e
 |rng lo hi=>obtain⟨_,_,_,e⟩:=x;exact Wam e
 |frz ob u=>obtain⟨e,_⟩:=x;exact Wam e
 |tbl ps=>exact Wam (show h.get? a=some _ from x)
 |met f y=>exact Wam (show h.get? a=some _ from x)
 |ext φ=>obtain⟨_,⟨_,e⟩,_⟩:=x;exact Wam e
theorem Paired.mapP {α β:Type}{F G:α -> β -> Prop}:∀{l₁:List α}{l₂:List β},Paired F l₁ l₂ -> (∀a b,F a b->G a b)->Paired G l₁ l₂
 |_,_,.nil,_=>.nil
 |_,_,.cons r t,f=>.cons (f _ _ r) (Paired.mapP t f)
theorem ObjOk.stay (x:ObjOk P w H h a o) (k:∀b u,(b=a\/H b=some (.own a))->h.get? b=some u->h'.get? b=some u)
  (ho:∀b,H b=some (.own a)->H' b=some (.own a)) (ht:∀b xs,H b=some (.tup xs)->H' b=some (.tup xs)):ObjOk P w H' h' a o:=by
 induction o with
 |lst xs=>obtain⟨z,its,n,r,e⟩:=x;exact⟨z,its,n,r,k _ _ (.inl rfl) e⟩
 |tup xs=>obtain⟨z,its,r,ob,e,c⟩:=x;exact⟨z,its,r,ob,k _ _ (.inl rfl) e,c⟩
 |dK kvs=>obtain⟨z,y,vs,r,ob,es,ep,e,c⟩:=x;exact⟨z,y,vs,r,ob,es,ep,k _ _ (.inl rfl) e,c⟩
 |dT kvs=>
  obtain⟨z,y,xs,r,ob,es,ep,e,c⟩:=x;exact⟨z,y,xs,Paired.mapP r λp q z=>⟨z.1,ht _ _ z.2.1,z.2.2⟩,ob,es,ep,k _ _ (.inl rfl) e,c⟩
 |set S n=>obtain⟨ob,es,ep,t,e,c⟩:=x;exact⟨ob,es,ep,t,k _ _ (.inl rfl) e,c⟩
 |ins C dx fs=>
  obtain⟨d,z,ne,e,mA,⟨od,es,ep,e2,c⟩,r⟩:=x;exact⟨ho _ d,z,ne,k _ _ (.inl rfl) e,mA,⟨od,es,ep,k _ _ (.inr d) e2,c⟩,r⟩
 |own y=>obtain⟨ob,e⟩:=x;exact⟨ob,k _ _ (.inl rfl) e⟩
 |xd fs=>obtain⟨mA,⟨od,es,ep,e,c⟩,r⟩:=x;exact⟨mA,⟨od,es,ep,k _ _ (.inl rfl) e,c⟩,r⟩
 |rng lo hi=>obtain⟨t,u,v,e⟩:=x;exact⟨t,u,v,k _ _ (.inl rfl) e⟩
 |frz ob u ih=>obtain⟨e,q⟩:=x;exact⟨k _ _ (.inl rfl) e,ih q⟩
 |tbl ps=>
  have e:h.get? a=some { cls:=.none,data:=.fields ps }:=x;show h'.get? a=some { cls:=.none,data:=.fields ps };exact k a _ (.inl rfl) e
 |met f y=>
  have e:h.get? a=some (PySem.W.methodObj (.ref f) (.ref y)):=x;show h'.get? a=some (PySem.W.methodObj (.ref f) (.ref y));exact k a _ (.inl rfl) e
 |ext φ=>obtain⟨p,⟨o,e⟩,st⟩:=x;exact⟨st _ _ p λo q=>k _ _ (.inl rfl) q,⟨o,k _ _ (.inl rfl) e⟩,st⟩
theorem HOk.lt (x:HOk P w H h) (e:H a=some o):a<h.objs.size:=(x a o e).lt
theorem HOk.fresh (x:HOk P w H h) (e:h.objs.size<=a):H a=none:=by
 cases q:H a with
 |none=>rfl
 |some u=>exact absurd (Wbb (x.lt q) e) (Wck _)
theorem HOk.kept (x:HOk P w H h) (k:∀b u,h.get? b=some u->h'.get? b=some u):HOk P w H h':=λa o e=>
 (x a o e).stay (λb u _ q=>k b u q) (λ_ q=>q) λ_ _ q=>q
theorem HOk.laid (x:HOk P w H h) (k:∀b u,h.get? b=some u->h'.get? b=some u) (hp:h.objs.size<=a) (new:ObjOk P w (upd H a o) h' a o):HOk P w (upd H a o) h':=λb u e=>by
 have hn:=x.fresh hp;by_cases hb:b=a
 ·subst hb;rw[Zaq]at e;cases e;exact new
 ·rw[Zas hb]at e
  exact(x b u e).stay (λc v _ q=>k c v q) (λc q=>by rw[Zas (Zbg q hn)];exact q) λc xs q=>by rw[Zas (Zbg q hn)];exact q
end
def Rd (H:Hp) (a:Addr) (u:HO):Prop:=H a=some u\/∃o,H a=some (.frz o u)
theorem Rd.ok {P:Program}{w:World}{H:Hp}{h:Heap}{a:Addr}{u:HO}(r:Rd H a u) (x:HOk P w H h):ObjOk P w H h a u:=by
 rcases r with r|⟨o,r⟩
 ·exact x a u r
 ·obtain⟨_,q⟩:=x a _ r
  exact q
def Mut:Option HO->Prop
 |some (.lst _)=>True
 |some (.dK _)=>True
 |some (.dT _)=>True
 |some (.set _ _)=>True
 |some (.ins _ _ _)=>True
 |some (.ext _)=>True
 |_=>False
section
variable {P:Program}{w:World}{H:Hp}{h h':Heap}{x e:Addr}{o':HO}
theorem HOk.write (ok:HOk P w H h) (mu:Mut (H x)) (he:e=x\/H e=some (.own x)) (k:∀b u,b≠e->h.get? b=some u->h'.get? b=some u) (heo:∃u,h'.get? e=some u)
  (new:ObjOk P w (upd H x o') h' x o'):HOk P w (upd H x o') h':=λb u q=>by
 have nown:∀c y,H c=some (.own y)->c≠x:=λc y r z=>by subst z;rw[r]at mu;exact mu
 have ntup:∀c xs,H c=some (.tup xs)->c≠x:=λc xs r z=>by subst z;rw[r]at mu;exact mu
 by_cases hb:b=x
 ·subst hb;rw[Zaq]at q;cases q;exact new
 ·rw[Zas hb]at q
  by_cases hbe:b=e
  ·have q':H b=some (.own x):=by
    rcases he with z|z
    ·exact absurd (hbe.trans z) hb
    ·rw[hbe];exact z
   rw[q]at q';cases q';obtain⟨v,hv⟩:=heo;exact⟨v,by rw[hbe];exact hv⟩
  ·refine(ok b u q).stay (λc v hc r=>k c v ?_ r) (λc r=>by rw[Zas (nown c b r)];exact r) λc xs r=>by rw[Zas (ntup c xs r)];exact r
   rcases hc with rfl|hc
   ·exact hbe
   ·rintro rfl
    rcases he with z|z
    ·exact nown c b hc z
    ·rw[hc]at z;cases z;exact hb rfl
end
structure Un (fs ex:List Addr) (H H':Hp) (h h':Heap):Prop where
 keep:∀b o,h.get? b=some o->H b=none->b ∉ fs->b ∉ ex->h'.get? b=some o
 slot:∀b o,h.get? b=some o->H b=none->b∈fs->b ∉ ex->∃sl,h'.get? b=some { o with slots:=sl }
 free:∀b o,h.get? b=some o->H b=none->b ∉ ex->H' b=none
 there:∀b o,h.get? b=some o->b ∉ ex->∃o',h'.get? b=some o'
 tups:∀b xs,H b=some (.tup xs)->H' b=some (.tup xs)
 frzs:∀b o u,H b=some (.frz o u)->H' b=some (.frz o u)
 tbls:∀b ps,H b=some (.tbl ps)->∃more,H' b=some (.tbl (ps++more))
section
variable {fs fs' ex ex':List Addr}{H H1 H2:Hp}{h h1 h2 h':Heap}{a x e:Addr}{o:HO}
theorem Un.any (u:Un fs ex H H1 h h1) {b:Addr}{ob:Obj}(q:h.get? b=some ob) (n:H b=none) (hx:b ∉ ex):∃sl,h1.get? b=some { ob with slots:=sl }:=by
 by_cases hb:b∈fs
 ·exact u.slot b ob q n hb hx
 ·exact⟨ob.slots,u.keep b ob q n hb hx⟩
theorem Un.kept (k:∀b u,h.get? b=some u->h'.get? b=some u):Un fs ex H H h h':=
 ⟨λb ob q _ _ _=>k b ob q,λb ob q _ _ _=>⟨ob.slots,k b ob q⟩,λ_ _ _ n _=>n,λb ob q _=>⟨ob,k b ob q⟩,λ_ _ q=>q,λ_ _ _ q=>q,λ_ ps q=>⟨#[],by rw[q];simp⟩⟩
theorem Un.refl:Un fs ex H H h h:=Un.kept λ_ _ q=>q
theorem Un.laid (k:∀b u,h.get? b=some u->h'.get? b=some u) (hp:h.objs.size<=a) (hn:H a=none):Un fs ex H (upd H a o) h h' where
 keep:=λb u q _ _ _=>k b u q
 slot:=λb u q _ _ _=>⟨u.slots,k b u q⟩
 free:=λb u q n _=>by rw[Zas (Was (Wbb (Wam q) hp))];exact n
 there:=λb u q _=>⟨u,k b u q⟩
 tups:=λb xs q=>by rw[Zas (Zbg q hn)];exact q
 frzs:=λb u xs q=>by rw[Zas (Zbg q hn)];exact q
 tbls:=λb ps q=>⟨#[],by rw[Zas (Zbg q hn),q];simp⟩
theorem Un.write (mu:Mut (H x)) (he:e=x\/H e=some (.own x)) (k:∀b u,b≠e->h.get? b=some u->h'.get? b=some u) (heo:∃u,h'.get? e=some u):Un fs ex H (upd H x o) h h':=by
 have hx:∀b,H b=none->b≠x:=λb n z=>by subst z;rw[n]at mu;exact mu
 have hb:∀b,H b=none->b≠e:=λb n z=>by
  subst z;rcases he with r|r
  ·exact hx b n r
  ·rw[n]at r;cases r
 have hm:∀b u,H b=some u->¬ Mut (some u)->b≠x:=λb u q nm z=>by subst z;rw[q]at mu;exact nm mu
 refine⟨λb u q n _ _=>k b u (hb b n) q,λb u q n _ _=>⟨u.slots,k b u (hb b n) q⟩,λb u q n _=>by rw[Zas (hx b n)];exact n,λb u q _=>?_,
  λb xs q=>by rw[Zas (hm b _ q λz=>z)];exact q,λb u xs q=>by rw[Zas (hm b _ q λz=>z)];exact q,λb ps q=>⟨#[],by rw[Zas (hm b _ q λz=>z),q];simp⟩⟩
 by_cases hbe:b=e
 ·subst hbe;exact heo
 ·exact⟨u,k b u hbe q⟩
end
def trk (h:Heap) (H:Hp):List Addr:=(Wau h.objs.size).filter λa=>(H a).isSome
def hidT (h:Heap) (H:Hp):Heap:=PySem.W.hideAll h (trk h H)
theorem Zkz (h:Heap) (H:Hp):(hidT h H).objs.size=h.objs.size:=PySem.W.hideAll_size _ _
theorem Zne {h:Heap}{H:Hp}{b:Addr}{o:Obj}(e:h.get? b=some o) (n:H b=none):(hidT h H).get? b=some o:=
 PySem.W.hideAll_get _ e λhm=>by
  have q:(H b).isSome=true:=(Wbn.mp hm).2;rw[n]at q;simp at q
theorem Zqi {h:Heap}{H:Hp}{b:Addr}{o:Obj}(e:(hidT h H).get? b=some o):h.get? b=some o/\H b=none:=by
 have e':h.get? b=some o:=PySem.W.of_hideAll (trk h H) e;refine⟨e',?_⟩;cases q:H b with
 |none=>rfl
 |some x=>
  have hm:b∈trk h H:=Wbn.mpr ⟨Wa5.mpr (Wam e'),by simp[q]⟩;have z:(hidT h H).get? b=none:=PySem.W.hideAll_none (trk h H) hm;rw[z]at e;cases e
def allNews (g h:Heap) (L:Addr):List (Addr × Obj):=(Wau h.objs.size).filterMap λa=>if a=L\/(g.get? a).isSome=true then none else (h.get? a).map λo=>(a,o)
def rest (g h:Heap) (L d:Addr):List (Addr × Obj):=(allNews g h L).filter λp=>decide (p.1≠d)
end L2
namespace L2
open PySem PySem.Spec PyProof.Rows
structure Mod (K:W.Frag) (mg:Str->Option Value) (base:Heap):Prop where
 kin:K.In base
 glob:base.Ns mainGlobals mg
 blt:∃mb,base.Ns builtinsNs mb/\∀x:Str,x ≠ "__name__" -> mb x=bootBuiltins x
 nolimit:base.NoLimit
structure Cx where
 prog:Program
 w:World
 K:W.Frag
 mg:Str->Option Value
 base:Heap
 A:Around
 N:List Str
 s₀:Shared
 H₀:Hp
 env:Env
 outer:List Env
 stack:List Env
 ex:List Addr
 fn:Str->Bool
 calm:Bool
 pn:List (Addr × Obj)
 xe:Value->Shared->Prop
def frs (l:List Env):List Addr:=l.filterMap (·.frame)
abbrev Cx.fs (X:Cx):List Addr:=frs X.outer
def Vis (sc:Scope) (x:Str):Prop:=sc.names.lookup x=some .local\/sc.names.lookup x=some .cell\/sc.names.lookup x=some .free
def Loc (sc:Scope) (x:Str):Prop:=sc.names.lookup x=some .local\/sc.names.lookup x=some .cell
def Look (env:Env) (h:Heap) (m:Str->Option Value) (x:Str) (u:Value):Prop:=
 (env.kindOf x=some .local/\m x=some u)\/((env.kindOf x=some .cell\/env.kindOf x=some .free)/\∃c,env.cells.lookup x=some c/\h.IsCell c (some u))
structure Cx.Ok (X:Cx):Prop where
 mod:Mod X.K X.mg X.base
 kind:X.env.scope.kind=.function
 glob:X.env.globals=mainGlobals
 blt:X.env.builtins=builtinsNs
 above:X.s₀.heap.objs.size<=X.env.locals
 inj:∀x y c,X.env.cells.lookup x=some c->X.env.cells.lookup y=some c->x=y
 has:∀x,(X.env.kindOf x=some .cell\/X.env.kindOf x=some .free)->∃c,X.env.cells.lookup x=some c
 cab:∀x c,X.fn x=true->X.env.cells.lookup x=some c->X.s₀.heap.objs.size<=c
 hd:X.calm=true->X.A.handled=none
 frames:X.A.frames=some X.stack
 stk:X.stack=X.outer\/(X.stack=X.env::X.outer/\X.env.frame=some X.env.locals)
 exf:∀b∈X.ex,b≠X.env.locals/\∀x c,X.env.cells.lookup x=some c->c≠b
 bs:∀b o,X.base.get? b=some o->X.s₀.heap.get? b=some o/\X.H₀ b=none
 bsz:X.base.objs.size<=X.s₀.heap.objs.size
 noex:∀b o,X.base.get? b=some o->b ∉ X.ex
 exfs:∀b∈X.ex,b ∉ X.fs
 funs:X.s₀.heap.FunFrames X.base X.outer
 frf:∀b∈X.fs,X.H₀ b=none
structure Inv (X:Cx) (pins:List (Addr × Obj)) (σ:List (Option V)) (H:Hp) (s:Shared):Prop where
 ok:X.Ok
 os:s.os=X.s₀.os
 bare:AllBare s.gens
 base:Un X.fs X.ex X.H₀ H X.s₀.heap s.heap
 loc:∃m,s.heap.Ns X.env.locals m/\∀(i:Nat) (x:Str) (v:V),X.N[i]?=some x -> σ[i]?=some (some v)->Vis X.env.scope x->∃u,RelV v u/\Look X.env s.heap m x u
 cell:∀x c,X.env.cells.lookup x=some c->∃v,s.heap.IsCell c v
 free:H X.env.locals=none
 freeC:∀x c,X.env.cells.lookup x=some c->H c=none
 pin:∀p∈X.pn++pins,s.heap.get? p.1=some p.2/\H p.1=none/\p.1≠X.env.locals/\p.1 ∉ X.fs/\∀v,p.2.data≠.cell v
 hok:HOk X.prog X.w H s.heap
 len:σ.length=X.N.length
section
variable {X:Cx}{pins:List (Addr × Obj)}{σ:List (Option V)}{H H':Hp}{s:Shared}{h':Heap}
theorem Cx.Ok.nofr (ok:X.Ok) {b:Addr}{o:Obj}(e:X.base.get? b=some o):b ∉ X.fs:=λhb=>by
 have:=(ok.funs.mem hb).1;rw[e]at this;cases this
theorem Inv.bs (I:Inv X pins σ H s):∀b o,X.base.get? b=some o->s.heap.get? b=some o/\H b=none:=λb o e=>
 ⟨I.base.keep b o (I.ok.bs b o e).1 (I.ok.bs b o e).2 (I.ok.nofr e) (I.ok.noex b o e),I.base.free b o (I.ok.bs b o e).1 (I.ok.bs b o e).2 (I.ok.noex b o e)⟩
theorem Inv.bk (I:Inv X pins σ H s):∀b o,X.base.get? b=some o->s.heap.get? b=some o:=λb o e=>(I.bs b o e).1
theorem Inv.mod (I:Inv X pins σ H s):Mod X.K X.mg X.base:=I.ok.mod
theorem Inv.kIn (I:Inv X pins σ H s):X.K.In s.heap:=I.ok.mod.kin.keeps I.bk
theorem Inv.lt (I:Inv X pins σ H s):X.env.locals<s.heap.objs.size:=let ⟨_,hn,_⟩:=I.loc;hn.lt
theorem Inv.sz (I:Inv X pins σ H s):X.s₀.heap.objs.size<=s.heap.objs.size:=Wbl I.ok.above (Wb0 I.lt)
theorem Inv.nofs (I:Inv X pins σ H s) {a:Addr}(h:s.heap.objs.size<=a):a ∉ X.fs:=λhb=>by
 obtain⟨_,o,ho,_⟩:=I.ok.funs.mem hb;exact absurd (Wbb (Wam ho) (Wbl I.sz h)) (Wck _)
theorem Inv.cne (I:Inv X pins σ H s):∀x c,X.env.cells.lookup x=some c->c≠X.env.locals:=λx c e z=>by
 obtain⟨v,o,ho,hd⟩:=I.cell x c e;obtain⟨m,⟨o',es,ep,ho',hd',_⟩,_⟩:=I.loc;rw[z,ho']at ho;cases ho;rw[hd']at hd;cases hd
theorem Inv.funs (I:Inv X pins σ H s):s.heap.FunFrames X.base X.outer:=by
 have all:∀(l:List Env),(∀b∈frs l,b∈X.fs)->X.s₀.heap.FunFrames X.base l->s.heap.FunFrames X.base l:=by
  intro l
  induction l with
  |nil=>intro _ _;trivial
  |cons env r ih=>
   intro hs hl;obtain⟨hk,⟨L,o,hf,hn,ho,hd⟩,hr⟩:=hl;have hL:L∈X.fs:=hs L (by unfold frs;rw[Wce,hf];exact Way);obtain⟨sl,e⟩:=I.base.slot L o ho (I.ok.frf L hL) hL λz=>I.ok.exfs L z hL;exact⟨hk,⟨L,_,hf,hn,e,hd⟩,ih (λb hb=>hs b (by unfold frs;rw[Wce,hf];exact Wav _ hb)) hr⟩
 exact all X.outer (λ_ hb=>hb) I.ok.funs
theorem Inv.stack (I:Inv X pins σ H s):s.heap.FunFrames X.base X.stack:=by
 rcases I.ok.stk with e|⟨e,hf⟩
 ·rw[e];exact I.funs
 ·rw[e]
  obtain⟨m,hn,_⟩:=I.loc;refine .cons (by rw[I.ok.kind];decide) hf hn ?_ I.funs;exact Heap.get?_none_of_le (Wbl I.ok.bsz I.ok.above)
theorem Inv.stkSub (I:Inv X pins σ H s):∀b∈frs X.stack,b∈X.env.locals::X.fs:=λb hb=>by
 rcases I.ok.stk with e|⟨e,hf⟩
 ·rw[e]at hb;exact Wav _ hb
 ·rw[e]at hb
  unfold frs at hb;rw[Wce,hf]at hb;exact hb
theorem Inv.stkFree (I:Inv X pins σ H s):∀b∈frs X.stack,H b=none:=λb hb=>by
 rcases Wat.mp (I.stkSub b hb) with e|hb
 ·rw[e];exact I.free
 ·obtain⟨_,o,ho,_⟩:=I.ok.funs.mem hb
  exact I.base.free b o ho (I.ok.frf b hb) λz=>I.ok.exfs b z hb
theorem Inv.step {g':Array GenState}{t':Nat}{d':Drawn}{ch:List Addr}(I:Inv X pins σ H s)
  (hch:∀b∈ch,(b∈X.ex\/X.s₀.heap.objs.size<=b)/\b≠X.env.locals/\(∀x c,X.env.cells.lookup x=some c->c≠b)/\∀p∈X.pn++pins,p.1≠b)
  (keep:∀b o,b≠X.env.locals->b ∉ X.fs->b ∉ ch->s.heap.get? b=some o->H b=none->h'.get? b=some o)
  (slot:∀b o,b≠X.env.locals->b∈X.fs->b ∉ ch->s.heap.get? b=some o->H b=none->∃sl,h'.get? b=some { o with slots:=sl }) (free:∀b o,b ∉ ch->s.heap.get? b=some o->H b=none->H' b=none)
  (there:∀b o,b ∉ ch->s.heap.get? b=some o->∃o',h'.get? b=some o')
  (tups:∀b xs,H b=some (.tup xs)->H' b=some (.tup xs)) (frzs:∀b o u,H b=some (.frz o u)->H' b=some (.frz o u)) (tbls:∀b ps,H b=some (.tbl ps)->∃more,H' b=some (.tbl (ps++more)))
  (ns:∀m,s.heap.Ns X.env.locals m->h'.Ns X.env.locals m) (hok:HOk X.prog X.w H' h') (hg:AllBare g') :
  Inv X pins σ H' { s with heap:=h',gens:=g',drawn:=d',toks:=t' }:=by
 have neL:∀b o,X.s₀.heap.get? b=some o->b≠X.env.locals:=λb o e=>Was (Wbb (Wam e) I.ok.above);have neC:∀b o,X.s₀.heap.get? b=some o->b ∉ X.ex->b ∉ ch:=λb o e hx hb=>by
  rcases(hch b hb).1 with z|z
  ·exact hx z
  ·exact absurd (Wbb (Wam e) z) (Wck _)
 have cellK:∀x c,X.env.cells.lookup x=some c->∀v,s.heap.IsCell c v->h'.IsCell c v:=λx c e v hq_=>by
  obtain⟨o,ho,hd⟩:=hq_;have nch:c ∉ ch:=λz=>(hch c z).2.2.1 x c e rfl;by_cases hc:c∈X.fs
  ·obtain⟨sl,q⟩:=slot c o (I.cne x c e) hc nch ho (I.freeC x c e)
   exact⟨_,q,hd⟩
  ·exact⟨o,keep c o (I.cne x c e) hc nch ho (I.freeC x c e),hd⟩
 refine⟨I.ok,I.os,hg,⟨λb o e n hb hx=>?_,λb o e n hb hx=>?_,λb o e n hx=>?_,λb o e hx=>?_,λb xs e=>tups b xs (I.base.tups b xs e),λb o xs e=>frzs b o xs (I.base.frzs b o xs e),λb ps e=>?_⟩,?_,λx c e=>?_,?_,λx c e=>?_,λp hp=>?_,hok,I.len⟩
 ·exact keep b o (neL b o e) hb (neC b o e hx) (I.base.keep b o e n hb hx) (I.base.free b o e n hx)
 ·obtain⟨sl,e1⟩:=I.base.slot b o e n hb hx
  obtain⟨sl',e2⟩:=slot b _ (neL b o e) hb (neC b o e hx) e1 (I.base.free b o e n hx);exact⟨sl',e2⟩
 ·obtain⟨o',e1⟩:=I.base.there b o e hx
  exact free b o' (neC b o e hx) e1 (I.base.free b o e n hx)
 ·obtain⟨o',e1⟩:=I.base.there b o e hx
  exact there b o' (neC b o e hx) e1
 ·obtain⟨m1,e1⟩:=I.base.tbls b ps e
  obtain⟨m2,e2⟩:=tbls b _ e1;exact⟨m1++m2,by rw[e2,Array.append_assoc]⟩
 ·obtain⟨m,hn,hl⟩:=I.loc
  refine⟨m,ns m hn,λi x v e1 e2 e3=>?_⟩;obtain⟨u,r,l⟩:=hl i x v e1 e2 e3;refine⟨u,r,?_⟩;rcases l with l|⟨k,c,e,z⟩
  ·exact .inl l
  ·exact .inr ⟨k,c,e,cellK x c e _ z⟩
 ·obtain⟨v,z⟩:=I.cell x c e
  exact⟨v,cellK x c e v z⟩
 ·obtain⟨m,⟨o,_,_,ho,_⟩,_⟩:=I.loc
  exact free _ o (λz=>(hch _ z).2.1 rfl) ho I.free
 ·obtain⟨v,o,ho,hd⟩:=I.cell x c e
  exact free c o (λz=>(hch c z).2.2.1 x c e rfl) ho (I.freeC x c e)
 ·obtain⟨e,n,ne,nf,d⟩:=I.pin p hp
  have nch:p.1 ∉ ch:=λz=>(hch p.1 z).2.2.2 p hp rfl;exact⟨keep p.1 p.2 ne nf nch e n,free p.1 p.2 nch e n,ne,nf,d⟩
theorem Inv.un {t':Nat}(I:Inv X pins σ H s) (u:Un X.fs [] H H' s.heap h') (hok:HOk X.prog X.w H' h'):Inv X pins σ H' { s with heap:=h',toks:=t' }:=by
 obtain⟨m,⟨o,es,ep,ho,r⟩,_⟩:=id I.loc;obtain⟨sl,hL⟩:=u.any ho I.free (by simp);exact I.step (g':=s.gens) (d':=s.drawn) (ch:=[]) (λ_ z=>nomatch z) (λb o _ hb _ e n=>u.keep b o e n hb (by simp)) (λb o _ hb _ e n=>u.slot b o e n hb (by simp)) (λb o _ e n=>u.free b o e n (by simp)) (λb o _ e=>u.there b o e (by simp)) u.tups u.frzs u.tbls (λm' hm=>by
  obtain⟨o',es',ep',ho',r'⟩:=hm;rw[ho]at ho';cases ho';exact⟨_,es',ep',hL,r'⟩) hok I.bare
theorem Inv.call {g':Array GenState}{t':Nat}{d':Drawn}{ch:List Addr}(I:Inv X pins σ H s) (u:Un (frs X.stack) ch H H' s.heap h') (hok:HOk X.prog X.w H' h') (hg:AllBare g')
  (hch:∀b∈ch,(b∈X.ex\/X.s₀.heap.objs.size<=b)/\b≠X.env.locals/\(∀x c,X.env.cells.lookup x=some c->c≠b)/\∀p∈X.pn++pins,p.1≠b) :
  Inv X pins σ H' { s with heap:=h',gens:=g',drawn:=d',toks:=t' }:=by
 obtain⟨m,⟨o,es,ep,ho,r⟩,_⟩:=id I.loc;obtain⟨sl,hL⟩:=u.any ho I.free λz=>(hch _ z).2.1 rfl;exact I.step (ch:=ch) hch (λb o hL hb hc e n=>u.keep b o e n (λz=>(Wat.mp (I.stkSub b z)).elim hL hb) hc) (λb o _ _ hc e n=>u.any e n hc) (λb o hc e n=>u.free b o e n hc) (λb o hc e=>u.there b o e hc) u.tups u.frzs u.tbls (λm' hm=>by
  obtain⟨o',es',ep',ho',r'⟩:=hm;rw[ho]at ho';cases ho';exact⟨_,es',ep',hL,r'⟩) hok hg
theorem Inv.turned {t':Nat}{it:Addr}(I:Inv X pins σ H s) (k:∀b o,b≠it->s.heap.get? b=some o->h'.get? b=some o) (hn:H it=none) (hL:it≠X.env.locals)
  (h1:it∈X.ex\/X.s₀.heap.objs.size<=it) (h2:∀x c,X.env.cells.lookup x=some c->c≠it) (h3:∀p∈X.pn++pins,p.1≠it):Inv X pins σ H { s with heap:=h',toks:=t' }:=by
 have nit:∀b u,H b=some u->b≠it:=λb u e z=>by rw[z,hn]at e;cases e
 refine I.step (g':=s.gens) (d':=s.drawn) (ch:=[it]) (λb hb=>?_) (λb o _ _ hc e _=>k b o (λz=>hc (by simp[z])) e) (λb o _ _ hc e _=>⟨o.slots,k b o (λz=>hc (by simp[z])) e⟩) (λ_ _ _ _ n=>n)
  (λb o hc e=>⟨o,k b o (λz=>hc (by simp[z])) e⟩) (λ_ _ e=>e) (λ_ _ _ e=>e) (λb ps e=>⟨#[],by rw[e];simp⟩) (λm hm=>?_) (λb u e=>?_) I.bare
 ·have e:b=it:=by simpa using hb
  subst e;exact⟨h1,hL,h2,h3⟩
 ·obtain⟨o,es,ep,ho,r⟩:=hm
  exact⟨o,es,ep,k _ o (Ne.symm hL) ho,r⟩
 ·refine(I.hok b u e).stay (λc v hc q=>k c v ?_ q) (λ_ q=>q) λ_ _ q=>q
  rcases hc with z|z
  ·rw[z];exact nit b u e
  ·exact nit c _ z
theorem Inv.tok (I:Inv X pins σ H s) (t:Nat):Inv X pins σ H { s with toks:=t }:=I.un (h':=s.heap) (t':=t) Un.refl I.hok
theorem Inv.kept {t':Nat}(I:Inv X pins σ H s) (k:∀b u,s.heap.get? b=some u->h'.get? b=some u):Inv X pins σ H { s with heap:=h',toks:=t' }:=I.un (Un.kept k) (I.hok.kept k)
theorem Inv.laid {a:Addr}{o:HO}{t':Nat}(I:Inv X pins σ H s) (k:∀b u,s.heap.get? b=some u->h'.get? b=some u) (hp:s.heap.objs.size<=a) (new:ObjOk X.prog X.w (upd H a o) h' a o) :
  Inv X pins σ (upd H a o) { s with heap:=h',toks:=t' }:=I.un (Un.laid k hp (I.hok.fresh hp)) (I.hok.laid k hp new)
theorem Inv.write {x e:Addr}{o:HO}{t':Nat}(I:Inv X pins σ H s) (mu:Mut (H x)) (he:e=x\/H e=some (.own x)) (k:∀b u,b≠e->s.heap.get? b=some u->h'.get? b=some u) (heo:∃u,h'.get? e=some u)
  (new:ObjOk X.prog X.w (upd H x o) h' x o):Inv X pins σ (upd H x o) { s with heap:=h',toks:=t' }:=I.un (Un.write mu he k heo) (I.hok.write mu he k heo new)
theorem Inv.pins_of {pins':List (Addr × Obj)}(I:Inv X pins σ H s) (h:∀p∈pins',s.heap.get? p.1=some p.2/\H p.1=none/\p.1≠X.env.locals/\p.1 ∉ X.fs/\∀v,p.2.data≠.cell v):Inv X pins' σ H s:=
 ⟨I.ok,I.os,I.bare,I.base,I.loc,I.cell,I.free,I.freeC,λp hp=>(Wbr.mp hp).elim (λz=>I.pin p (Wcm _ z)) (h p),I.hok,I.len⟩
theorem Zjj {N:List Str}(hN:N.Nodup) {i j:Nat}{x:Str}(a:N[i]?=some x) (b:N[j]?=some x):i=j:=by
 obtain⟨h1,e1⟩:=Waf.mp a;obtain⟨h2,e2⟩:=Waf.mp b;exact(Wd0 hN).mp (e1.trans e2.symm)
theorem Zib {M:Model}{A:Around}{E:Value->Shared->Prop}{i:Nat}{x:Str}{v:V}{u:Value}{Q:Unit->Shared->Prop}(I:Inv X pins σ H s) (hN:X.N.Nodup) (hi:X.N[i]?=some x) (hx:Loc X.env.scope x) (r:RelV v u)
  (h:∀s',Inv X pins (σ.set i (some v)) H s' -> (∃a,Heap.SameBut a s.heap s'.heap/\(a=X.env.locals\/X.env.cells.lookup x=some a))->Q () s') (hf:X.fn x=true\/X.env.scope.names.lookup x=some .local:=by first|exact .inl rfl|exact .inr rfl|assumption):wpAny M A (storeName X.env x u) Q E s:=by
 obtain⟨m,hn,hl⟩:=id I.loc;have hcls:(X.env.scope.kind == .class || (X.env.scope.kind == .module && X.env.locals != X.env.globals))=false:=by rw[I.ok.kind];rfl
 have hiσ:i < σ.length:=by rw[I.len];exact(Waf.mp hi).1
 have cne:=I.cne;have tracked:∀{a:Addr}{h':Heap},(∃o,s.heap.get? a=some o/\H a=none)->Heap.SameBut a s.heap h' -> HOk X.prog X.w H h':=λ{a h'} ha hs b ob e=>by
  obtain⟨_,_,hfree⟩:=ha;refine(I.hok b ob e).stay (λc w' hc q=>(hs.2 c ?_).trans q) (λ_ q=>q) λ_ _ q=>q;rintro rfl;rcases hc with rfl|hc
  ·rw[hfree]at e;cases e
  ·rw[hfree]at hc;cases hc
 rcases hx with hk|hk
 ·refine wpAny_storeName_local hk hn (λh' hn' hs=>?_) hcls
  obtain⟨oL,_,_,hoL,_⟩:=id hn;refine h _ ⟨I.ok,I.os,I.bare,⟨λb o e n hb hx=>?_,λb o e n hb hx=>?_,I.base.free,λb o e hx=>?_,I.base.tups,I.base.frzs,I.base.tbls⟩,⟨_,hn',λj y v' e1 e2 e3=>?_⟩,λy c e=>?_,I.free,I.freeC,λp hp=>?_,tracked ⟨oL,hoL,I.free⟩ hs,by simpa using I.len⟩ ⟨_,hs,.inl rfl⟩
  ·exact(hs.2 b (Was (Wbb (Wam e) I.ok.above))).trans (I.base.keep b o e n hb hx)
  ·obtain⟨sl,e1⟩:=I.base.slot b o e n hb hx
   exact⟨sl,(hs.2 b (Was (Wbb (Wam e) I.ok.above))).trans e1⟩
  ·obtain⟨o',e1⟩:=I.base.there b o e hx
   exact⟨o',(hs.2 b (Was (Wbb (Wam e) I.ok.above))).trans e1⟩
  ·by_cases hj:j=i
   ·subst hj
    rw[hi]at e1;cases e1;rw[Wai hiσ]at e2;cases e2;exact⟨u,r,.inl ⟨hk,by simp⟩⟩
   ·rw[Wap (Ne.symm hj)]at e2
    obtain⟨u',r',q⟩:=hl j y v' e1 e2 e3;refine⟨u',r',?_⟩;rcases q with ⟨k,e⟩|⟨k,c,e,z⟩
    ·refine .inl ⟨k,?_⟩
     have:y≠x:=λe=>hj (Zjj hN e1 (e ▸ hi));simp[this,e]
    ·exact .inr ⟨k,c,e,z.sameBut hs (cne y c e)⟩
  ·obtain⟨w',z⟩:=I.cell y c e
   exact⟨w',z.sameBut hs (cne y c e)⟩
  ·obtain⟨e,n,ne,nf,d⟩:=I.pin p hp
   exact⟨(hs.2 p.1 ne).trans e,n,ne,nf,d⟩
 ·have hfn:X.fn x=true:=by
   rcases hf with z|z
   ·exact z
   ·rw[z]at hk;cases hk
  obtain⟨c,hc⟩:=I.ok.has x (.inl hk);obtain⟨w',z⟩:=I.cell x c hc;refine wpAny_storeName_cell I.ok.kind hk hc z (λh' hc' hs=>?_);obtain⟨oc,hoc,hocd⟩:=id z;refine h { s with heap:=h' } ⟨I.ok,I.os,I.bare,⟨λb o e n hb hx=>?_,λb o e n hb hx=>?_,I.base.free,λb o e hx=>?_,I.base.tups,I.base.frzs,I.base.tbls⟩,⟨m,hn.sameBut hs (Ne.symm (cne x c hc)),λj y v' e1 e2 e3=>?_⟩,λy c' e=>?_,I.free,I.freeC,λp hp=>?_,tracked ⟨oc,hoc,I.freeC x c hc⟩ hs,by simpa using I.len⟩ ⟨c,hs,.inr hc⟩
  ·exact(hs.2 b (Was (Wbb (Wam e) (I.ok.cab x c hfn hc)))).trans (I.base.keep b o e n hb hx)
  ·obtain⟨sl,e1⟩:=I.base.slot b o e n hb hx
   exact⟨sl,(hs.2 b (Was (Wbb (Wam e) (I.ok.cab x c hfn hc)))).trans e1⟩
  ·obtain⟨o',e1⟩:=I.base.there b o e hx
   exact⟨o',(hs.2 b (Was (Wbb (Wam e) (I.ok.cab x c hfn hc)))).trans e1⟩
  ·by_cases hj:j=i
   ·subst hj
    rw[hi]at e1;cases e1;rw[Wai hiσ]at e2;cases e2;exact⟨u,r,.inr ⟨.inl hk,c,hc,hc'⟩⟩
   ·rw[Wap (Ne.symm hj)]at e2
    obtain⟨u',r',q⟩:=hl j y v' e1 e2 e3;refine⟨u',r',?_⟩;rcases q with q|⟨k,c',e,z'⟩
    ·exact .inl q
    ·refine .inr ⟨k,c',e,z'.sameBut hs ?_⟩
     rintro rfl;exact hj (Zjj hN e1 (I.ok.inj _ _ _ e hc ▸ hi))
  ·by_cases hcc:c'=c
   ·subst hcc;exact⟨_,hc'⟩
   ·obtain⟨w2,z2⟩:=I.cell y c' e
    exact⟨w2,z2.sameBut hs hcc⟩
  ·obtain⟨e,n,ne,nf,d⟩:=I.pin p hp
   refine⟨(hs.2 p.1 ?_).trans e,n,ne,nf,d⟩;intro q;rw[q,hoc]at e;have q':oc=p.2:=Wa7.inj e;exact d w' (by rw[<- q'];exact hocd)
theorem Zdw {M:Model}{A:Around}{E:Value->Shared->Prop}{i:Nat}{x:Str}{v:V}{u:Value}{Q:Unit->Shared->Prop}(I:Inv X pins σ H s) (hN:X.N.Nodup) (hi:X.N[i]?=some x) (hx:Loc X.env.scope x) (r:RelV v u)
  (h:∀s',Inv X pins (σ.set i (some v)) H s' -> Q () s') (hf:X.fn x=true\/X.env.scope.names.lookup x=some .local:=by first|exact .inl rfl|exact .inr rfl|assumption):wpAny M A (storeName X.env x u) Q E s:=
 Zib I hN hi hx r (λs' I' _=>h s' I') hf
theorem Inv.call' {s':Shared}{ch:List Addr}(I:Inv X pins σ H s) (ho:s'.os=s.os) (u:Un (frs X.stack) ch H H' s.heap s'.heap) (hok:HOk X.prog X.w H' s'.heap) (hg:AllBare s'.gens)
  (hch:∀b∈ch,(b∈X.ex\/X.s₀.heap.objs.size<=b)/\b≠X.env.locals/\(∀x c,X.env.cells.lookup x=some c->c≠b)/\∀p∈X.pn++pins,p.1≠b):Inv X pins σ H' s':=by
 obtain⟨h',g',d',t',o'⟩:=s';have e:o'=s.os:=ho;subst e;exact I.call (g':=g') (t':=t') (d':=d') u hok hg hch
end
abbrev XK:=Value->Option Addr->Hp->Prop
abbrev St:=List (Option V)
abbrev VK:=V->Hp->Prop
abbrev TE:=St->Hp->VK->Prop
abbrev TT:=St->Hp->(Bool->Hp->Prop)->Prop
abbrev TA:=St->Hp->(List V->Hp->Prop)->Prop
structure Ends where
 nx:St->Hp->Prop
 rt:VK
 bk:St->Hp->Prop:=λ_ _=>False
 ct:St->Hp->Prop:=λ_ _=>False
abbrev TS:=Ends->St->Hp->Prop
def EP (X:Cx) (pins:List (Addr × Obj)) (σ:St) (Q:VK) (u:Value) (s':Shared):Prop:=∃v H',Inv X pins σ H' s' /\ RelV v u/\Q v H'
def TP (X:Cx) (pins:List (Addr × Obj)) (σ:St) (Q:Bool->Hp->Prop) (b:Bool) (s':Shared):Prop:=∃H',Inv X pins σ H' s' /\ Q b H'
def AP (X:Cx) (pins:List (Addr × Obj)) (σ:St) (Q:List V->Hp->Prop) (us:List Value) (s':Shared):Prop:=∃vs H',Inv X pins σ H' s' /\ Vals vs us/\Q vs H'
def SP (X:Cx) (pins:List (Addr × Obj)) (D:Ends) (f:Flow) (s':Shared):Prop:=
 match f with
 |.next=>∃σ' H',Inv X pins σ' H' s' /\ D.nx σ' H'
 |.brk=>∃σ' H',Inv X pins σ' H' s' /\ D.bk σ' H'
 |.cont=>∃σ' H',Inv X pins σ' H' s' /\ D.ct σ' H'
 |.ret u=>∃v σ' H',Inv X pins σ' H' s' /\ RelV v u/\D.rt v H'
def PE (X:Cx) (e:Expr) (t:TE):Prop:=
 ∀(pins:List (Addr × Obj)) (s:Shared) (σ:St) (H:Hp) (Q:VK),Inv X pins σ H s->t σ H Q->wpAny (model X.prog X.w) X.A (eval e X.env) (EP X pins σ Q) X.xe s
def PT (X:Cx) (e:Expr) (t:TT):Prop:=
 ∀(pins:List (Addr × Obj)) (s:Shared) (σ:St) (H:Hp) (Q:Bool->Hp->Prop),Inv X pins σ H s->t σ H Q->wpAny (model X.prog X.w) X.A (isTrue e X.env (eval e X.env)) (TP X pins σ Q) X.xe s
def PW (X:Cx) (e:Expr) (t:TT):Prop:=
 ∀(whole:Sem Value) (pins:List (Addr × Obj)) (s:Shared) (σ:St) (H:Hp) (Q:Bool->Hp->Prop),Inv X pins σ H s->t σ H Q->wpAny (model X.prog X.w) X.A (isTrue e X.env whole) (TP X pins σ Q) X.xe s
theorem PW.pt {X:Cx}{e:Expr}{t:TT}(h:PW X e t):PT X e t:=h _
def PA (X:Cx) (es:List Expr) (t:TA):Prop:=
 ∀(pos:Pos) (pins:List (Addr × Obj)) (s:Shared) (σ:St) (H:Hp) (Q:List V->Hp->Prop),Inv X pins σ H s->t σ H Q->wpAny (model X.prog X.w) X.A (spliced (backTo pos (starEach es X.env))) (AP X pins σ Q) X.xe s
def PS (X:Cx) (st:Stmt) (t:TS):Prop:=
 ∀(pins:List (Addr × Obj)) (s:Shared) (σ:St) (H:Hp) (D:Ends),Inv X pins σ H s->t D σ H->wpAny (model X.prog X.w) X.A (exec st X.env) (SP X pins D) X.xe s
def PSs (X:Cx) (st:List Stmt) (t:TS):Prop:=
 ∀(pins:List (Addr × Obj)) (s:Shared) (σ:St) (H:Hp) (D:Ends),Inv X pins σ H s->t D σ H->wpAny (model X.prog X.w) X.A (execs st X.env) (SP X pins D) X.xe s
theorem thn {α:Type}{t:Sem α}{Q Q':α -> Shared->Prop}{M:Model}{A:Around}{E:Value->Shared->Prop}{s:Shared}(h:wpAny M A t Q E s) (hQ:∀a s,Q a s->Q' a s):wpAny M A t Q' E s:=wpAny_mono h hQ λ_ _ x=>x
end L2
namespace L2
open PySem PySem.Spec PyProof.Rows
section
variable {X:Cx}
def tVar (i:Nat):TE:=λσ H Q=>∃v,σ[i]?=some (some v)/\Q v H
def tC (v:V):TE:=λ_ H Q=>Q v H
theorem Zte {i:Nat}{x:Str}{pos:Pos}(hN:X.N[i]?=some x) (hv:Vis X.env.scope x) (hd:(x == ("__debug__":Str))=false:=by decide) (hcd:(x == ("__classdict__":Str))=false:=by decide):PE X (.Name x pos) (tVar i):=by
 intro pins s σ H Q I h;obtain⟨v,e,h⟩:=h;obtain⟨m,hn,hl⟩:=I.loc;obtain⟨u,r,l⟩:=hl i x v hN e hv;have fin:EP X pins σ Q u s:=⟨v,H,I,r,h⟩;rcases l with ⟨hk,hm⟩|⟨hk,c,hc,hcell⟩
 ·exact wpAny_Name (wpAny_loadName_local I.ok.kind hk hn hm fin) hd
 ·rcases hk with hk|hk
  ·exact wpAny_Name (wpAny_loadName_cell I.ok.kind hk hc hcell fin) hd
  ·exact wpAny_Name (wpAny_loadName_free I.ok.kind hk hc hcell fin hcd) hd
theorem Zaf {i j pos}:PE X (.Constant (.int i) j pos) (tC (.int i)):=λ_ _ _ H _ I h=>wpAny_Constant_int ⟨.int i,H,I.tok _,⟨_,rfl⟩,h⟩
theorem Zrl {b j pos}:PE X (.Constant (.bool b) j pos) (tC (.bl b)):=λ_ _ _ H _ I h=>Constant_bool ⟨.bl b,H,I,rfl,h⟩
theorem Zlp {j pos}:PE X (.Constant .none j pos) (tC .non):=λ_ _ _ H _ I h=>Constant_none ⟨.non,H,I,rfl,h⟩
def Gl (X:Cx) (x:Str):Prop:=X.env.kindOf x=some .globalImplicit
theorem Zp8 {E:Value->Shared->Prop}{pins:List (Addr × Obj)}{s:Shared}{σ:St}{H:Hp}{x:Str}{u:Value}{pos:Pos}{Q:Value->Shared->Prop}(I:Inv X pins σ H s) (hg:Gl X x) (hm:X.mg x=some u) (h:Q u s)
  (hd:(x == ("__debug__":Str))=false:=by decide):wpAny (model X.prog X.w) X.A (eval (.Name x pos) X.env) Q E s:=
 Calls.Name_function_global I.ok.kind hg (Calls.loadGlobal_global (by rw[I.ok.glob];exact I.mod.glob.keeps I.bk) hm h) hd
theorem Zej {E:Value->Shared->Prop}{pins:List (Addr × Obj)}{s:Shared}{σ:St}{H:Hp}{x:Str}{u:Value}{pos:Pos}{Q:Value->Shared->Prop}(I:Inv X pins σ H s) (hg:Gl X x) (hm:X.mg x=none) (hv:bootBuiltins x=some u) (h:Q u s)
  (hn:x ≠ "__name__":=by decide) (hd:(x == ("__debug__":Str))=false:=by decide):wpAny (model X.prog X.w) X.A (eval (.Name x pos) X.env) Q E s:=by
 obtain⟨mb,h1,h2⟩:=I.mod.blt;exact Calls.Name_function_global I.ok.kind hg (Calls.loadGlobal_builtin (by rw[I.ok.glob];exact I.mod.glob.keeps I.bk) hm (by rw[I.ok.blt];exact h1.keeps I.bk) ((h2 x hn).trans hv) h) hd
variable {a b:Expr}{ta tb:TE}{pos:Pos}
variable {tA tB':TT}{rest:List Expr}
def tAnd (t u:TT):TT:=λσ H Q=>t σ H λc H1=>if c=true then u σ H1 Q else Q false H1
def tOr (t u:TT):TT:=λσ H Q=>t σ H λc H1=>if c=true then Q true H1 else u σ H1 Q
def tNot (t:TT):TT:=λσ H Q=>t σ H λc H1=>Q (!c) H1
theorem pw_and1 (ha:PT X a tA):PW X (.BoolOp .And [a] pos) tA:=by
 intro wh pins s σ H Q I h;refine isTrue_and (thn (ha pins s σ H Q I h) λc s1 e=>?_);cases c with
 |true=>exact isTrue_and_nil e
 |false=>exact e
theorem pw_or1 (ha:PT X a tA):PW X (.BoolOp .Or [a] pos) tA:=by
 intro wh pins s σ H Q I h;refine isTrue_or (thn (ha pins s σ H Q I h) λc s1 e=>?_);cases c with
 |false=>exact isTrue_or_nil e
 |true=>exact e
theorem pw_and (ha:PT X a tA) (hb:PW X (.BoolOp .And (b::rest) pos) tB'):PW X (.BoolOp .And (a::b::rest) pos) (tAnd tA tB'):=by
 intro wh pins s σ H Q I h;refine isTrue_and (thn (ha pins s σ H _ I h) λc s1 ⟨H1,I1,q1⟩=>?_);cases c with
 |true=>exact hb wh pins s1 σ H1 Q I1 q1
 |false=>exact⟨H1,I1,q1⟩
theorem pw_or (ha:PT X a tA) (hb:PW X (.BoolOp .Or (b::rest) pos) tB'):PW X (.BoolOp .Or (a::b::rest) pos) (tOr tA tB'):=by
 intro wh pins s σ H Q I h;refine isTrue_or (thn (ha pins s σ H _ I h) λc s1 ⟨H1,I1,q1⟩=>?_);cases c with
 |true=>exact⟨H1,I1,q1⟩
 |false=>exact hb wh pins s1 σ H1 Q I1 q1
theorem Zsl (ha:PT X a tA):PT X (.UnaryOp .Not a pos) (tNot tA):=by
 intro pins s σ H Q I h;exact isTrue_not (ha pins s σ H (λc H1=>Q (!c) H1) I h)
def tAndV (ta tb:TE):TE:=λσ H Q=>ta σ H λx H1=>∃c,x=.bl c/\if c=true then tb σ H1 Q else Q (.bl false) H1
def tOrV (ta tb:TE):TE:=λσ H Q=>ta σ H λx H1=>∃c,x=.bl c/\if c=true then Q (.bl true) H1 else tb σ H1 Q
def tNotV (ta:TE):TE:=λσ H Q=>ta σ H λx H1=>∃c,x=.bl c/\Q (.bl (!c)) H1
def tIf (t:TT) (ta tb:TE):TE:=λσ H Q=>t σ H λc H1=>if c=true then ta σ H1 Q else tb σ H1 Q
theorem Zhe {c:Expr}(hc:PT X c tA) (ha:PE X a ta) (hb:PE X b tb):PE X (.IfExp c a b pos) (tIf tA ta tb):=by
 intro pins s σ H Q I h;refine wpAny_IfExp (thn (hc pins s σ H _ I h) λd s1 ⟨H1,I1,q1⟩=>?_);cases d with
 |true=>exact ha pins s1 σ H1 Q I1 q1
 |false=>exact hb pins s1 σ H1 Q I1 q1
end
end L2
namespace L2
open PySem PySem.Spec PyProof.Rows
def SqL (K:W.Frag) (H:Hp) (a:Addr) (xs:List V):Prop:=
 Rd H a (.lst xs) ∨
  ∃(o:Obj) (its:Array Value) (n:Nat),K.lookup a=some o/\o.cls=.type "list" /\ o.dict=none/\o.data=.seq its n/\its.size<=sizeLine/\Vals xs its.toList
def SqT (K:W.Frag) (H:Hp) (a:Addr) (xs:List V):Prop:=
 Rd H a (.tup xs) ∨
  ∃(o:Obj) (its:Array Value) (n:Nat),K.lookup a=some o/\o.cls=.type "tuple" /\ o.data=.seq its n/\its.size<=sizeLine/\Vals xs its.toList
def absV:Value->Option V
 |.none=>some .non
 |.bool b=>some (.bl b)
 |.int i _=>some (.int i)
 |.str x _=>some (.str x)
 |.bytes b _=>some (.byt b)
 |.float b _=>some (.flt b)
 |.ref a=>some (.ref a)
 |.type n=>some (.ty n)
 |_=>none
theorem RelV.abs {x:V}{u:Value}(r:RelV x u):absV u=some x:=by
 cases x with
 |non=>cases r;rfl
 |bl _=>cases r;rfl
 |int _=>obtain⟨t,rfl⟩:=r;rfl
 |str _=>obtain⟨t,rfl⟩:=r;rfl
 |byt _=>obtain⟨t,rfl⟩:=r;rfl
 |flt _=>obtain⟨t,rfl⟩:=r;rfl
 |ref _=>cases r;rfl
 |ty _=>cases r;rfl
theorem RelV.inj {x y:V}{u:Value}(r:RelV x u) (q:RelV y u):x=y:=Wa7.inj (r.abs.symm.trans q.abs)
theorem Vals.inj:∀{xs ys:List V}{us:List Value},Vals xs us->Vals ys us->xs=ys
 |_,_,_,.nil,.nil=>rfl
 |_,_,_,.cons r t,.cons r' t'=>by rw[r.inj r',Vals.inj t t']
section
variable {X:Cx}{pins:List (Addr × Obj)}{σ:St}{H:Hp}{s:Shared}{a:Addr}{xs ys:List V}
theorem SqL.of {K:W.Frag}(h:H a=some (.lst xs)):SqL K H a xs:=.inl (.inl h)
theorem SqT.of {K:W.Frag}(h:H a=some (.tup xs)):SqT K H a xs:=.inl (.inl h)
theorem Inv.list (I:Inv X pins σ H s) (h:SqL X.K H a xs):∃its:List Value,Vals xs its/\PlainL s.heap a its.toArray/\xs.length<=sizeLine:=by
 rcases h with h|⟨o,its,n,hk,hc,hd,hs,hz,r⟩
 ·obtain⟨z,its,n,r,e⟩:=h.ok I.hok
  exact⟨its,r,⟨_,n,e,rfl,rfl,rfl⟩,z⟩
 ·refine⟨its.toList,r,⟨o,n,I.kIn a o hk,hc,hd,by simpa using hs⟩,?_⟩
  have e:=r.length;simp only[Array.length_toList]at e;omega
theorem Inv.tuple (I:Inv X pins σ H s) (h:SqT X.K H a xs):∃its:List Value,Vals xs its/\IsTup s.heap a its.toArray/\xs.length<=sizeLine:=by
 rcases h with h|⟨o,its,n,hk,hc,hs,hz,r⟩
 ·obtain⟨z,its,r,p⟩:=h.ok I.hok
  exact⟨its,r,p.tup,z⟩
 ·refine⟨its.toList,r,⟨o,I.kIn a o hk,hc,n,by simpa using hs⟩,?_⟩
  have e:=r.length;simp only[Array.length_toList]at e;omega
theorem Inv.list_inj (I:Inv X pins σ H s) (h:SqL X.K H a xs) (h':SqL X.K H a ys):xs=ys:=by
 obtain⟨its,r,⟨o,n,e,_,_,d⟩,_⟩:=I.list h;obtain⟨its',r',⟨o',n',e',_,_,d'⟩,_⟩:=I.list h';rw[e]at e';cases e';rw[d]at d';injection d' with d1 _
 have:its=its':=by simpa using congrArg Array.toList d1
 subst this;exact r.inj r'
theorem Inv.tuple_inj (I:Inv X pins σ H s) (h:SqT X.K H a xs) (h':SqT X.K H a ys):xs=ys:=by
 obtain⟨its,r,⟨o,e,_,n,d⟩,_⟩:=I.tuple h;obtain⟨its',r',⟨o',e',_,n',d'⟩,_⟩:=I.tuple h';rw[e]at e';cases e';rw[d]at d';injection d' with d1 _
 have:its=its':=by simpa using congrArg Array.toList d1
 subst this;exact r.inj r'
end
abbrev Cx.wish (X:Cx) (E:Value->Shared->Prop):Cx:={ X with xe:=E }
abbrev Cx.nox (X:Cx):Cx:=X.wish λ_ _=>False
theorem Cx.Ok.wish {X:Cx}(ok:X.Ok) (E:Value->Shared->Prop):(X.wish E).Ok:=
 ⟨ok.mod,ok.kind,ok.glob,ok.blt,ok.above,ok.inj,ok.has,ok.cab,ok.hd,ok.frames,ok.stk,ok.exf,ok.bs,ok.bsz,ok.noex,ok.exfs,ok.funs,ok.frf⟩
theorem Cx.Ok.unwish {X:Cx}{E:Value->Shared->Prop}(ok:(X.wish E).Ok):X.Ok:=
 ⟨ok.mod,ok.kind,ok.glob,ok.blt,ok.above,ok.inj,ok.has,ok.cab,ok.hd,ok.frames,ok.stk,ok.exf,ok.bs,ok.bsz,ok.noex,ok.exfs,ok.funs,ok.frf⟩
section
variable {X:Cx}{pins:List (Addr × Obj)}{σ:St}{H:Hp}{s:Shared}{E:Value->Shared->Prop}
theorem Inv.wish (I:Inv X pins σ H s) (E:Value->Shared->Prop):Inv (X.wish E) pins σ H s:=⟨I.ok.wish E,I.os,I.bare,I.base,I.loc,I.cell,I.free,I.freeC,I.pin,I.hok,I.len⟩
theorem Inv.unwish (I:Inv (X.wish E) pins σ H s):Inv X pins σ H s:=⟨I.ok.unwish,I.os,I.bare,I.base,I.loc,I.cell,I.free,I.freeC,I.pin,I.hok,I.len⟩
theorem SP.unwish {D:Ends}{f:Flow}{s':Shared}(h:SP (X.wish E) pins D f s'):SP X pins D f s':=by
 cases f with
 |next=>obtain⟨σ',H',I,q⟩:=h;exact⟨σ',H',I.unwish,q⟩
 |brk=>obtain⟨σ',H',I,q⟩:=h;exact⟨σ',H',I.unwish,q⟩
 |cont=>obtain⟨σ',H',I,q⟩:=h;exact⟨σ',H',I.unwish,q⟩
 |ret u=>obtain⟨v,σ',H',I,r,q⟩:=h;exact⟨v,σ',H',I.unwish,r,q⟩
theorem PSs.nox {st:List Stmt}{t:TS}(h:PSs X.nox st t):PSs X st t:=λpins s σ H D I hw=>
 wpAny_mono (h pins s σ H D (I.wish _) hw) (λ_ _ q=>q.unwish) λ_ _ z=>False.elim z
end
section
variable {X:Cx}{st:Stmt}{rest:List Stmt}{t u:TS}{e:Expr}{te:TE}{pos:Pos}
def tNext:TS:=λD σ H=>D.nx σ H
def tSeq (t u:TS):TS:=λD σ H=>t { D with nx:=u D } σ H
theorem Zbd:PSs X [] tNext:=λ_ _ σ H _ I h=>wpAny_execs_nil ⟨σ,H,I,h⟩
theorem Zad (h1:PS X st t) (h2:PSs X rest u):PSs X (st::rest) (tSeq t u):=by
 intro pins s σ H D I h;refine wpAny_execs_cons (thn (h1 pins s σ H { D with nx:=u D } I h) λf s1 q=>?_);cases f with
 |next=>
  obtain⟨σ',H',I',q⟩:=q;exact h2 pins s1 σ' H' D I' q
 |ret v=>exact q
 |brk=>exact q
 |cont=>exact q
theorem Zai (h1:PS X st t):PSs X [st] t:=by
 intro pins s σ H D I h;refine wpAny_execs_cons (thn (h1 pins s σ H D I h) λf s1 q=>?_);cases f with
 |next=>exact wpAny_execs_nil q
 |ret v=>exact q
 |brk=>exact q
 |cont=>exact q
theorem Inv.quiet {pins:List (Addr × Obj)}{σ:St}{H:Hp}{s:Shared}(I:Inv X pins σ H s):interactive X.env=false:=by simp[interactive,I.ok.kind]
def tDrop (te:TE):TS:=λD σ H=>te σ H λ_ H1=>D.nx σ H1
theorem Zb4 (he:PE X e te) (hs:swapsWith e none pos.line X.env=pure false:=by rfl):PS X (.Expr e pos) (tDrop te):=by
 intro pins s σ H D I h;exact wpAny_Expr_any (thn (he pins s σ H _ I h) λv s1 ⟨x,H1,I1,r1,q1⟩=>⟨σ,H1,I1,q1⟩) I.quiet hs
def tRet (te:TE):TS:=λD σ H=>te σ H D.rt
theorem Zba (he:PE X e te):PS X (.Return (some e) pos) (tRet te):=by
 intro pins s σ H D I h;exact wpAny_Return_some (thn (he pins s σ H _ I h) λv s1 ⟨x,H1,I1,r1,q1⟩=>⟨x,σ,H1,I1,r1,q1⟩)
def tIfS (c:TT) (t u:TS):TS:=λD σ H=>c σ H λb H1=>if b=true then t D σ H1 else u D σ H1
theorem Zcj {c:Expr}{a b:List Stmt}{tc:TT}(hc:PT X c tc) (ha:PSs X a t) (hb:PSs X b u):PS X (.If c a b pos) (tIfS tc t u):=by
 intro pins s σ H D I h;refine wpAny_If (thn (hc pins s σ H _ I h) λd s1 ⟨H1,I1,q1⟩=>?_);cases d with
 |true=>exact ha pins s1 σ H1 D I1 q1
 |false=>exact hb pins s1 σ H1 D I1 q1
def tNever:TS:=λ_ _ _=>False
theorem Zm3 {sts:List Stmt}:PSs X sts tNever:=λ_ _ _ _ _ _ h=>h.elim
end
abbrev TG:=V->St->Hp->(St->Hp->Prop)->Prop
abbrev TGs:=List V->St->Hp->(St->Hp->Prop)->Prop
def PG (X:Cx) (target:Expr) (t:TG):Prop:=
 ∀(pins:List (Addr × Obj)) (s:Shared) (σ:St) (H:Hp) (v:V) (u:Value) (Q:St->Hp->Prop),Inv X pins σ H s->RelV v u->t v σ H Q →
  wpAny (model X.prog X.w) X.A (assign target X.env u) (λ_ s'=>∃σ' H',Inv X pins σ' H' s' /\ Q σ' H') X.xe s
def PGs (X:Cx) (ts:List Expr) (t:TGs):Prop:=
 ∀(pins:List (Addr × Obj)) (s:Shared) (σ:St) (H:Hp) (vs:List V) (us:List Value) (Q:St->Hp->Prop),Inv X pins σ H s->Vals vs us->t vs σ H Q →
  wpAny (model X.prog X.w) X.A (assignInOrder ((assignEach ts X.env).map (·.2)) us) (λ_ s'=>∃σ' H',Inv X pins σ' H' s' /\ Q σ' H') X.xe s
abbrev TSet:=V->V->V->Hp->(Hp->Prop)->Prop
def PSet (X:Cx) (t:TSet):Prop:=
 ∀(pins:List (Addr × Obj)) (s:Shared) (σ:St) (H:Hp) (o i v:V) (ov iv u:Value) (Q:Hp->Prop),Inv X pins σ H s->RelV o ov->RelV i iv->RelV v u->t o i v H Q →
  wpAny (model X.prog X.w) X.A (setItem ov iv u) (λ_ s'=>∃H',Inv X pins σ H' s' /\ Q H') X.xe s
abbrev TIp:=V->V->Hp->VK->Prop
def PIp (X:Cx) (op:Operator) (t:TIp):Prop:=
 ∀(pins:List (Addr × Obj)) (s:Shared) (σ:St) (H:Hp) (x y:V) (v u:Value) (Q:VK),Inv X pins σ H s->RelV x v->RelV y u->t x y H Q →
  wpAny (model X.prog X.w) X.A (inplaceOp op v u) (EP X pins σ Q) X.xe s
section
variable {X:Cx}{pos:Pos}
def gName (i:Nat):TG:=λv σ H Q=>Q (σ.set i (some v)) H
theorem Zak {i:Nat}{x:Str}(hN:X.N.Nodup) (hi:X.N[i]?=some x) (hx:Loc X.env.scope x) (hf:X.fn x=true\/X.env.scope.names.lookup x=some .local:=by first|exact .inl rfl|exact .inr rfl|assumption):PG X (.Name x pos) (gName i):=by
 intro pins s σ H v u Q I r h;exact wpAny_assign_Name (Zdw I hN hi hx r (λs' I'=>⟨_,H,I',h⟩) hf)
def gNil:TGs:=λvs σ H Q=>vs=[]/\Q σ H
def gCons (t:TG) (u:TGs):TGs:=λvs σ H Q=>∃v r,vs=v::r/\t v σ H λσ' H'=>u r σ' H' Q
theorem Ziq:PGs X [] gNil:=by
 intro pins s σ H vs us Q I r h;obtain⟨e,h⟩:=h;subst e;cases r;exact assignInOrder_nil ⟨σ,H,I,h⟩
theorem Zda {e:Expr}{es:List Expr}{t:TG}{u:TGs}(h1:PG X e t) (h2:PGs X es u)
  (hs:(assignEach (e::es) X.env).map (·.2)=assign e X.env::(assignEach es X.env).map (·.2):=by rfl):PGs X (e::es) (gCons t u):=by
 intro pins s σ H vs us Q I r h;obtain⟨v,vr,e1,h⟩:=h;subst e1;cases r with
 |cons r rr=>
  rw[hs];refine assignInOrder_cons (thn (h1 pins s σ H _ _ _ I r h) λ_ s1 ⟨σ1,H1,I1,q1⟩=>?_);exact h2 pins s1 σ1 H1 _ _ Q I1 rr q1
def gTup (K:W.Frag) (n:Nat) (t:TGs):TG:=λv σ H Q=>∃a xs,v=.ref a/\SqT K H a xs/\xs.length=n/\t xs σ H Q
theorem Zrj {es:List Expr}{k:Nat}{t:TGs}{n:Nat}(hc:X.calm=true) (h:PGs X es t)
  (hn:(assignEach es X.env).length=n:=by rfl) (hst:(assignEach es X.env).findIdx? (·.1)=none:=by rfl):PG X (.Tuple es k pos) (gTup X.K n t):=by
 intro pins s σ H v u Q I r hw;obtain⟨a,xs,e1,hq,hl,hw⟩:=hw;subst e1;cases r;obtain⟨its,rv,ht,hz⟩:=I.tuple hq;refine assign_Tuple_tuple (I.ok.hd hc) ht (by simp[hn,<- hl,rv.length]) hst λh' hx=>?_;have I1:Inv X pins σ H { s with heap:=h' }:=I.kept (t':=s.toks) λb o e=>hx b o (Was (Wam e)) e;exact h pins _ σ H xs _ Q I1 (by simpa using rv) hw
def gSub (to ti:TE) (t:TSet):TG:=λv σ H Q=>to σ H λo H1=>ti σ H1 λi H2=>t o i v H2 λH3=>Q σ H3
theorem Zia {o i:Expr}{to ti:TE}{t:TSet}(ho:PE X o to) (hi:PE X i ti) (hs:PSet X t)
  (ha:∀v,assign (.Subscript o i pos) X.env v=(do
   let ov ← holding [v] (eval o X.env)
   let iv ← holding [v,ov] (eval i X.env)
   standAt pos
   holding [v,ov,iv] (setItem ov iv v)
   release [v,ov,iv] []):=by intro _;rfl):PG X (.Subscript o i pos) (gSub to ti t):=by
 intro pins s σ H v u Q I r h;rw[ha];refine wpAny_bind (wpAny_holding (thn (ho pins s σ H _ I h) λov s1 ⟨x,H1,I1,r1,q1⟩=>?_));refine wpAny_bind (wpAny_holding (thn (hi pins s1 σ H1 _ I1 q1) λiv s2 ⟨y,H2,I2,r2,q2⟩=>?_));refine wpAny_bind (wpAny_standAt (wpAny_bind (wpAny_holding (thn (hs pins s2 σ H2 x y v ov iv u _ I2 r1 r2 r q2) λ_ s3 ⟨H3,I3,q3⟩=>?_))));exact wpAny_release ⟨σ,H3,I3,q3⟩
def tAsg (te:TE) (g:TG):TS:=λD σ H=>te σ H λx H1=>g x σ H1 D.nx
theorem Zf5 {tg e:Expr}{te:TE}{g:TG}(he:PE X e te) (hg:PG X tg g) (hs:swapsWithSole [tg] e pos.line X.env=pure false:=by rfl) (hw:swappedStores [tg] e X.env=pure none:=by rfl)
  (h1:(assignEach [tg] X.env).map (·.2)=[assign tg X.env]:=by rfl):PS X (.Assign [tg] e pos) (tAsg te g):=by
 intro pins s σ H D I h;refine wpAny_Assign_stores (thn (he pins s σ H _ I h) λv s1 ⟨x,H1,I1,r1,q1⟩=>?_) hs hw;rw[h1];exact thn (hg pins s1 σ H1 x v _ I1 r1 q1) λ_ s2 q=>q
theorem Zap {i:Nat}{x:Str}{e:Expr}{te:TE}{pos':Pos}(hN:X.N.Nodup) (hi:X.N[i]?=some x) (hx:Loc X.env.scope x) (he:PE X e te) (hs:swapsWith e (some (.Name x pos')) pos.line X.env=pure false:=by rfl) (hf:X.fn x=true\/X.env.scope.names.lookup x=some .local:=by first|exact .inl rfl|exact .inr rfl|assumption) :
  PS X (.Assign [.Name x pos'] e pos) (tAsg te (gName i)):=by
 intro pins s σ H D I h;refine wpAny_Assign_Name (thn (he pins s σ H _ I h) λv s1 ⟨y,H1,I1,r1,q1⟩=>?_) hs;exact Zdw I1 hN hi hx r1 (λs2 I2=>⟨_,H1,I2,q1⟩) hf
def tPar (i j:Nat) (ta:TA):TS:=λD σ H=>ta σ H λvs H1=>∃v w,vs=[v,w]/\D.nx ((σ.set i (some v)).set j (some w)) H1
theorem Zjy {i j:Nat}{x y:Str}{a b:Expr}{ta:TA}{px py pt:Pos}{kt k2 pt2} (hc:X.calm=true) (hN:X.N.Nodup) (hi:X.N[i]?=some x) (hj:X.N[j]?=some y) (hij:i≠j)
  (hx:X.env.scope.names.lookup x=some .local) (hy:X.env.scope.names.lookup y=some .local) (ha:PA X [a,b] ta)
  (hw:swappedStores [.Tuple [.Name x px,.Name y py] kt pt] (.Tuple [a,b] k2 pt2) X.env=pure (some [x,y]))
  (hs:swapsWithSole [.Tuple [.Name x px,.Name y py] kt pt] (.Tuple [a,b] k2 pt2) pos.line X.env=pure false:=by rfl) :
  PS X (.Assign [.Tuple [.Name x px,.Name y py] kt pt] (.Tuple [a,b] k2 pt2) pos) (tPar i j ta):=by
 intro pins s σ H D I h;rw[exec_Assign_arm];refine wpAny_bind (wpAny_standAt ?_);rw[hs];refine wpAny_bind (wpAny_pure ?_);rw[if_neg (by decide)];refine wpAny_bind (Tuple_ (thn (ha _ pins s σ H _ I h) λus s1 ⟨vs,H1,I1,r1,q1⟩=>?_));obtain⟨v,w,e1,q1⟩:=q1;subst e1;obtain⟨u1,u2,rfl,rv,rw'⟩:∃u1 u2,us=[u1,u2]/\RelV v u1/\RelV w u2:=by
  cases r1 with
  |cons p q=>
   cases q with
   |cons p' q'=>
    cases q';exact⟨_,_,rfl,p,p'⟩
 refine wpAny_newObj_type ?_ (by show 2<=sizeLine;decide);have I2:Inv X pins σ H1 { s1 with heap:=s1.heap.push { cls:=.type "tuple",data:=.seq [u1,u2].toArray } }:=I1.kept (t':=s1.toks) λb o e=>Wae _ e;rw[hw];refine wpAny_bind (wpAny_pure ?_);show wpAny (model X.prog X.w) X.A (do rule "assign.swapped-stores";let items ← unpackItems (.ref s1.heap.objs.size) 2 none;assignInOrder [λv=>bindName X.env y v,λv=>bindName X.env x v] items.reverse;pure Flow.next) _ _ _;refine wpAny_bind (wpAny_rule (wpAny_bind (unpackItems_tuple (items:=#[u1,u2]) (I.ok.hd hc) (IsTup.new s1.heap _) λh' hx'=>?_)));have I3:=I2.kept (h':=h') (t':=s1.toks) λb o e=>hx' b o (Was (Wam e)) e;show wpAny _ _ (assignInOrder [λv=>bindName X.env y v,λv=>bindName X.env x v] [u2,u1] >>= λ_=>pure Flow.next) _ _ _;refine wpAny_bind (assignInOrder_cons (wpAny_bindName (Zdw I3 hN hj (.inl hy) rw' (λs2 I4=>?_) (.inr hy))));refine assignInOrder_cons (wpAny_bindName (Zdw I4 hN hi (.inl hx) rv (λs3 I5=>assignInOrder_nil (wpAny_pure ?_)) (.inr hx)));rw[List.set_comm _ _ (Ne.symm hij)]at I5;exact⟨_,H1,I5,q1⟩
def tAug (i:Nat) (te:TE) (ti:TIp):TS:=λD σ H=>∃x,σ[i]?=some (some x)/\te σ H λy H1=>ti x y H1 λz H2=>D.nx (σ.set i (some z)) H2
theorem Zta {i:Nat}{x:Str}{e:Expr}{te:TE}{op:Operator}{ti:TIp}{pos':Pos}(hN:X.N.Nodup) (hi:X.N[i]?=some x) (hx:Loc X.env.scope x) (he:PE X e te) (ho:PIp X op ti) (hf:X.fn x=true\/X.env.scope.names.lookup x=some .local:=by first|exact .inl rfl|exact .inr rfl|assumption) :
  PS X (.AugAssign (.Name x pos') op e pos) (tAug i te ti):=by
 intro pins s σ H D I h;obtain⟨v,e1,h⟩:=h;obtain⟨m,hn,hl⟩:=I.loc;have vis:Vis X.env.scope x:=by rcases hx with k|k;exact .inl k;exact .inr (.inl k)
 obtain⟨u,r,l⟩:=hl i x v hi e1 vis;refine wpAny_AugAssign_Name ?_;have go:wpAny (model X.prog X.w) X.A (eval e X.env) (λw s₂=>wpAny (model X.prog X.w) X.A (inplaceOp op u w) (λr s₃=>wpAny (model X.prog X.w) X.A (storeName X.env x r) (λ_=>SP X pins D .next) X.xe s₃) X.xe s₂) X.xe s:=by
  refine thn (he pins s σ H _ I h) λw s1 ⟨y,H1,I1,r1,q1⟩=>?_;refine thn (ho pins s1 σ H1 v y u w _ I1 r r1 q1) λz s2 ⟨zv,H2,I2,r2,q2⟩=>?_;exact Zdw I2 hN hi hx r2 (λs3 I3=>⟨_,H2,I3,q2⟩) hf
 rcases l with ⟨hk,hm⟩|⟨hk,c,hc,hcell⟩
 ·exact wpAny_loadName_local I.ok.kind hk hn hm go
 ·rcases hk with hk|hk
  ·exact wpAny_loadName_cell I.ok.kind hk hc hcell go
  ·rcases hx with k|k
   ·have:X.env.scope.names.lookup x=some .free:=hk
    rw[k]at this;cases this
   ·have:X.env.scope.names.lookup x=some .free:=hk
    rw[k]at this;cases this
def ipI (f:Int->Int->Int):TIp:=λx y H Q=>∃i j,x=.int i/\y=.int j/\Q (.int (f i j)) H
theorem Zs5:PIp X .Add (ipI λi j=>i+j):=by
 intro pins s σ H x y v u Q I r1 r2 h;obtain⟨i,j,e1,e2,q⟩:=h;subst e1;subst e2;obtain⟨t,rfl⟩:=r1;obtain⟨t',rfl⟩:=r2;exact iadd_int ⟨.int _,H,I.tok _,⟨_,rfl⟩,q⟩
def tWhile (c:TT) (tb:TS):TS:=λD σ H=>∃W:Nat->St->Hp->Prop,(∃m,W m σ H)/\∀m σ H,W m σ H →
 c σ H λb H1=>if b=true then ∃N:St->Hp->Prop,(∀σ' H',N σ' H' -> ∃m',m'<m/\W m' σ' H')/\tb { D with nx:=N,ct:=N,bk:=D.nx } σ H1 else D.nx σ H1
theorem Zot {c:Expr}{body:List Stmt}{tc:TT}{tb:TS}(hp:PassesOwn (model X.prog X.w) X.A X.env X.xe) (hc:PT X c tc) (hb:PSs X body tb):PS X (.While c body [] pos) (tWhile tc tb):=by
 intro pins s σ H D I h;obtain⟨W,⟨m0,w0⟩,turn⟩:=h;refine wpAny_While (codeAny_whileLoop (λn s'=>∃σ' H',Inv X pins σ' H' s' /\ W n σ' H') ?_ m0 ⟨σ,H,I,w0⟩);rintro n s1 ⟨σ1,H1,I1,w1⟩;refine wpAny_passesOwn hp (thn (hc pins s1 σ1 H1 _ I1 (turn n σ1 H1 w1)) λb s2 ⟨H2,I2,q2⟩=>?_);cases b with
 |true=>
  obtain⟨N,hN,q2⟩:=q2;rw[if_pos rfl];refine wpAny_passesOwn hp (thn (hb pins s2 σ1 H2 _ I2 q2) λf s3 q3=>?_);cases f with
  |next=>
   obtain⟨σ3,H3,I3,n3⟩:=q3;obtain⟨m',hm,w3⟩:=hN σ3 H3 n3;exact⟨m',hm,σ3,H3,I3,w3⟩
  |cont=>
   obtain⟨σ3,H3,I3,n3⟩:=q3;obtain⟨m',hm,w3⟩:=hN σ3 H3 n3;exact⟨m',hm,σ3,H3,I3,w3⟩
  |brk=>exact q3
  |ret v=>exact q3
 |false=>
  rw[if_neg War];exact wpAny_execs_nil ⟨σ1,H2,I2,q2⟩
end
structure It where
 go:Nat->Hp->Prop
 yld:Nat->Hp->V->Hp->Prop
 stop:Nat->Hp->Prop
def FpOk (X:Cx) (pins:List (Addr × Obj)) (H:Hp) (b:Addr):Prop:=
 H b=none/\b≠X.env.locals/\b ∉ X.fs/\(b∈X.ex\/X.s₀.heap.objs.size<=b)/\(∀x c,X.env.cells.lookup x=some c->c≠b)/\∀p∈X.pn++pins,p.1≠b
theorem Inv.fpOk {X:Cx}{pins:List (Addr × Obj)}{σ:St}{H H':Hp}{s:Shared}{b:Addr}(I:Inv X pins σ H s) (hb:s.heap.objs.size<=b) (hn:H' b=none):FpOk X pins H' b:=by
 refine⟨hn,Wcz (Wbb I.lt hb),I.nofs hb,.inr (Wbl I.sz hb),λx c e z=>?_,λp hp z=>?_⟩
 ·obtain⟨v,q⟩:=I.cell x c e
  exact absurd (Wbb q.lt (by rw[z];exact hb)) (Wck _)
 ·exact absurd (Wbb (Wam (I.pin p hp).1) (by rw[z];exact hb)) (Wck _)
structure TurnG (Cm:Cx->Prop) (P:Program) (w:World) (K:W.Frag) (tg:Expr) (J:It) (fp:List Addr) (it:Addr) (tn:Nat->Heap->Prop):Prop where
 mem:it∈fp
 obj:∀i h,tn i h->∀b∈fp,∃o,h.get? b=some o/\∀v,o.data≠.cell v
 keep:∀i h h',tn i h->(∀b∈fp,∀o,h.get? b=some o->h'.get? b=some o)->tn i h'
 item:∀(X:Cx),X.prog=P->X.w=w->X.K=K->Cm X->∀(i:Nat) (pins:List (Addr × Obj)) (s:Shared) (σ:St) (H:Hp) (E:Value->Shared->Prop),Inv X pins σ H s->(∀b∈fp,FpOk X pins H b)->tn i s.heap->J.go i H →
  wpAny (model P w) X.A (pyNext (.ref it)) (λr s1=>∃u,r=some u ∧
   wpAny (model P w) X.A (letOwnedTupleGo tg (.ref it) u) (λ_ s2=>∃x H',Inv X pins σ H' s2/\RelV x u/\J.yld i H x H' /\ tn (i+1) s2.heap/\∀b∈fp,H' b=none) E s1) E s
 done:∀(X:Cx),X.prog=P->X.w=w->X.K=K->Cm X->∀(i:Nat) (pins:List (Addr × Obj)) (s:Shared) (σ:St) (H:Hp) (E:Value->Shared->Prop),Inv X pins σ H s->(∀b∈fp,FpOk X pins H b)->tn i s.heap->J.stop i H →
  wpAny (model P w) X.A (pyNext (.ref it)) (λr s1=>r=none/\Inv X pins σ H s1) E s
 self:∀(A:Around) (i:Nat) (s:Shared) (Q:Value->Shared->Prop) (E:Value->Shared->Prop),tn i s.heap->Q (.ref it) s->wpAny (model P w) A (pyIter (.ref it)) Q E s
abbrev Turn:=TurnG λX=>X.calm=true
abbrev TI:=St->Hp->(It->Hp->Prop)->Prop
def PIEG (Cm:Cx->Prop) (X:Cx) (pins:List (Addr × Obj)) (σ:St) (tg:Expr) (R:It->Hp->Prop) (itv:Value) (s2:Shared):Prop:=
 ∃(it:Addr) (fp:List Addr) (tn:Nat->Heap->Prop) (J:It) (H':Hp),itv=.ref it/\Inv X pins σ H' s2/\TurnG Cm X.prog X.w X.K tg J fp it tn/\tn 0 s2.heap/\(∀b∈fp,FpOk X pins H' b)/\R J H'
def PIG (Cm:Cx->Prop) (X:Cx) (tg iter:Expr) (wi:TI):Prop:=
 ∀(pins:List (Addr × Obj)) (s:Shared) (σ:St) (H:Hp) (R:It->Hp->Prop),Inv X pins σ H s->wi σ H R →
  wpAny (model X.prog X.w) X.A (eval iter X.env) (λv s1=>wpAny (model X.prog X.w) X.A (pyIter v) (PIEG Cm X pins σ tg R) X.xe s1) X.xe s
abbrev PIE:=PIEG λX=>X.calm=true
abbrev PI:=PIG λX=>X.calm=true
theorem Zrb {M:Model}{A:Around}{E:Value->Shared->Prop}{s:Shared}{tg:Expr}{it:Addr}{u:Value}{o:Obj}{n:String}{vs:Array Value}{Q:Unit->Shared->Prop}(ho:s.heap.get? it=some o) (hc:o.cls=.type n) (hd:o.data=.fields vs)
  (hn:["enumerate","zip","dict_itemiterator","dict_reverseitemiterator","odict_iterator","itertools.zip_longest","itertools.pairwise"].contains n=false) (hQ:Q () s):wpAny M A (letOwnedTupleGo tg (.ref it) u) Q E s:=by
 unfold letOwnedTupleGo;cases tg <;> first
  |exact wpAny_pure hQ
  | (cases u <;> first
      |exact wpAny_pure hQ
      | (refine wpAny_bind (wpAny_load ho ?_)
         rw[hc,hd];show wpAny M A (if (["enumerate","zip","dict_itemiterator","dict_reverseitemiterator","odict_iterator","itertools.zip_longest","itertools.pairwise"].contains n && vs[0]? == some (rawInt _))=true then _ else _) Q E s;rw[if_neg (by intro h;rw[hn,Wdm]at h;cases h)];exact wpAny_pure hQ))
def Itl (K:W.Frag) (a:Addr):It:=
 ⟨λi H=>∃xs x,SqL K H a xs/\xs[i]?=some x,λi H x H'=>H'=H/\∀xs,SqL K H a xs->xs[i]?=some x,λi H=>∃xs,SqL K H a xs/\xs.length<=i⟩
def Itt (K:W.Frag) (a:Addr):It:=
 ⟨λi H=>∃xs x,SqT K H a xs/\xs[i]?=some x,λi H x H'=>H'=H/\∀xs,SqT K H a xs->xs[i]?=some x,λi H=>∃xs,SqT K H a xs/\xs.length<=i⟩
def Itr (lo:Int) (n:Nat):It:=⟨λi _=>i<n,λi H x H'=>H'=H/\x=.int (lo+i),λi _=>n<=i⟩
theorem Zmu {P:Program}{w:World}{K:W.Frag}{tg:Expr}(a it:Addr):Turn P w K tg (Itl K a) [it] it (λi h=>h.IsListIter it a i) where
 mem:=by simp
 obj:=λi h st b hb=>by
  have e:b=it:=by simpa using hb
  subst e;obtain⟨o,e,c,d⟩:=st;exact⟨o,e,λv z=>by rw[d]at z;cases z⟩
 keep:=λi h h' st k=>st.at λo e=>k it (by simp) o e
 item:=by
  intro X hP hw hK hc i pins s σ H E I hf st hg;subst hP hw hK;obtain⟨xs,x,hq,hx⟩:=hg;obtain⟨its,rv,p,hz⟩:=I.list hq;obtain⟨u,hu,ru⟩:=rv.get hx;obtain⟨f0,f1,f2,f3,f4,f5⟩:=hf it (by simp);refine wpAny_pyNext_list_item st p.isList (x:=u) (by simpa using hu) λh' st' sb=>?_;have I1:Inv X pins σ H { s with heap:=h' }:=I.turned (t':=s.toks) (λb o hb e=>(sb.2 b hb).trans e) f0 f1 f3 f4 f5;obtain⟨o,e,c,d⟩:=id st';exact⟨u,rfl,Zrb (s:={ s with heap:=h' }) e c d (by decide) ⟨x,H,I1,ru,⟨rfl,λys hy=>by rw[I.list_inj hy hq];exact hx⟩,st',λb hb=>(hf b hb).1⟩⟩
 done:=by
  intro X hP hw hK hc i pins s σ H E I hf st hg;subst hP hw hK;obtain⟨xs,hq,hx⟩:=hg;obtain⟨its,rv,p,hz⟩:=I.list hq;obtain⟨f0,f1,f2,f3,f4,f5⟩:=hf it (by simp);have hl:=rv.length;exact wpAny_pyNext_list_end (I.ok.hd hc) st p.isList (by simp;omega) λh' eb=>⟨rfl,I.turned (t':=s.toks) (λb o hb e=>eb b o hb e) f0 f1 f3 f4 f5⟩
 self:=λ_ _ _ _ _ st h=>wpAny_pyIter_listiter st h
theorem Zki {P:Program}{w:World}{K:W.Frag}{tg:Expr}(a it:Addr):Turn P w K tg (Itt K a) [it] it (λi h=>h.IsTupleIter it a i) where
 mem:=by simp
 obj:=λi h st b hb=>by
  have e:b=it:=by simpa using hb
  subst e;obtain⟨o,e,c,d⟩:=st;exact⟨o,e,λv z=>by rw[d]at z;cases z⟩
 keep:=λi h h' st k=>st.at λo e=>k it (by simp) o e
 item:=by
  intro X hP hw hK hc i pins s σ H E I hf st hg;subst hP hw hK;obtain⟨xs,x,hq,hx⟩:=hg;obtain⟨its,rv,p,hz⟩:=I.tuple hq;obtain⟨u,hu,ru⟩:=rv.get hx;obtain⟨f0,f1,f2,f3,f4,f5⟩:=hf it (by simp);refine wpAny_pyNext_tuple_item st (show s.heap.IsTuple a its.toArray from p) (x:=u) (by simpa using hu) λh' st' sb=>?_;have I1:Inv X pins σ H { s with heap:=h' }:=I.turned (t':=s.toks) (λb o hb e=>(sb.2 b hb).trans e) f0 f1 f3 f4 f5;obtain⟨o,e,c,d⟩:=id st';exact⟨u,rfl,Zrb (s:={ s with heap:=h' }) e c d (by decide) ⟨x,H,I1,ru,⟨rfl,λys hy=>by rw[I.tuple_inj hy hq];exact hx⟩,st',λb hb=>(hf b hb).1⟩⟩
 done:=by
  intro X hP hw hK hc i pins s σ H E I hf st hg;subst hP hw hK;obtain⟨xs,hq,hx⟩:=hg;obtain⟨its,rv,p,hz⟩:=I.tuple hq;obtain⟨f0,f1,f2,f3,f4,f5⟩:=hf it (by simp);have hl:=rv.length;exact wpAny_pyNext_tuple_end (I.ok.hd hc) st (show s.heap.IsTuple a its.toArray from p) (by simp;omega) λh' eb=>⟨rfl,I.turned (t':=s.toks) (λb o hb e=>eb b o hb e) f0 f1 f3 f4 f5⟩
 self:=λ_ _ _ _ _ st h=>wpAny_pyIter_tupleiter st h
theorem Zkj {P:Program}{w:World}{K:W.Frag}{tg:Expr}(it:Addr) (lo:Int) (n:Nat):Turn P w K tg (Itr lo n) [it] it (λi h=>IsRangeIter h it (lo+(i:Nat)*1) ((n:Int)-(i:Nat)) 1) where
 mem:=by simp
 obj:=λi h st b hb=>by
  have e:b=it:=by simpa using hb
  subst e;exact⟨_,st,λv z=>by
   have z':Data.fields _=Data.cell v:=z;cases z'⟩
 keep:=λi h h' st k=>k it (by simp) _ st
 item:=by
  intro X hP hw hK hc i pins s σ H E I hf st hg;subst hP hw hK;obtain⟨f0,f1,f2,f3,f4,f5⟩:=hf it (by simp);have W:=Walks.range (prog:=X.prog) (w:=X.w) (I.ok.hd hc) it lo 1 n;refine W.item i s _ _ hg st λv h' tk hv st' kk=>?_;obtain⟨t,rfl⟩:=hv;have I1:Inv X pins σ H { s with heap:=h',toks:=tk }:=I.turned (λb o hb e=>kk b o (by simpa using hb) e) f0 f1 f3 f4 f5;refine⟨_,rfl,Zrb (s:={ s with heap:=h',toks:=tk }) (n:="range_iterator") st' rfl rfl (by decide) ⟨.int (lo+i),H,I1,⟨t,?_⟩,⟨rfl,rfl⟩,st',λb hb=>(hf b hb).1⟩⟩;rw[Int.mul_one]
 done:=by
  intro X hP hw hK hc i pins s σ H E I hf st hg;subst hP hw hK;obtain⟨f0,f1,f2,f3,f4,f5⟩:=hf it (by simp);exact wpAny_pyNext_range_end (I.ok.hd hc) st (by have:n<=i:=hg;omega) λh' eb=>⟨rfl,I.turned (t':=s.toks) (λb o hb e=>eb b o hb e) f0 f1 f3 f4 f5⟩
 self:=λ_ _ _ _ _ st h=>wpAny_pyIter_rangeiter st h
end L2
namespace L2
open PySem PySem.Spec PyProof.Rows
section
variable {X:Cx}{tg:Expr}
def iList (K:W.Frag) (tl:TE):TI:=λσ H R=>tl σ H λx H1=>∃a,x=.ref a/\(∃xs,SqL K H1 a xs)/\R (Itl K a) H1
def iTup (K:W.Frag) (tl:TE):TI:=λσ H R=>tl σ H λx H1=>∃a,x=.ref a/\(∃xs,SqT K H1 a xs)/\R (Itt K a) H1
theorem Zqy {l:Expr}{tl:TE}(hl:PE X l tl):PI X tg l (iList X.K tl):=by
 intro pins s σ H R I h;refine thn (hl pins s σ H _ I h) λv s1 ⟨x,H1,I1,r1,q1⟩=>?_;obtain⟨a,e,⟨xs,hq⟩,q⟩:=q1;subst e;cases r1;obtain⟨its,rv,p,hz⟩:=I1.list hq;refine wpAny_pyIter_list p.isList ?_;refine⟨s1.heap.objs.size,[s1.heap.objs.size],_,_,H1,rfl,I1.kept (t':=s1.toks) λb o e=>Wae _ e,Zmu a _,⟨_,Waq _ rfl,rfl,rfl⟩,λb hb=>?_,q⟩;have e:b=s1.heap.objs.size:=by simpa using hb
 subst e;exact I1.fpOk (Wak _) (I1.hok.fresh (Wak _))
theorem Zrn {l:Expr}{tl:TE}(hl:PE X l tl):PI X tg l (iTup X.K tl):=by
 intro pins s σ H R I h;refine thn (hl pins s σ H _ I h) λv s1 ⟨x,H1,I1,r1,q1⟩=>?_;obtain⟨a,e,⟨xs,hq⟩,q⟩:=q1;subst e;cases r1;obtain⟨its,rv,p,hz⟩:=I1.tuple hq;refine wpAny_pyIter_tuple (show s1.heap.IsTuple a its.toArray from p) ?_;refine⟨s1.heap.objs.size,[s1.heap.objs.size],_,_,H1,rfl,I1.kept (t':=s1.toks) λb o e=>Wae _ e,Zki a _,⟨_,Waq _ rfl,rfl,rfl⟩,λb hb=>?_,q⟩;have e:b=s1.heap.objs.size:=by simpa using hb
 subst e;exact I1.fpOk (Wak _) (I1.hok.fresh (Wak _))
theorem range_it {pins:List (Addr × Obj)}{σ:St}{H:Hp}{s:Shared}{R:It->Hp->Prop}{E:Value->Shared->Prop}{lo hi:Int}{t u v:Tok}{tk:Nat}(I:Inv X pins σ H s) (h1:-(2 ^ 62)<=lo) (h2:lo<2 ^ 62) (h3:-(2 ^ 62)<=hi) (h4:hi<2 ^ 62)
  (q:R (Itr lo (hi-lo).toNat) H):wpAny (model X.prog X.w) X.A (pyIter (.ref s.heap.objs.size)) (PIE X pins σ tg R) E { s with heap:=s.heap.push { cls:=.type "range",data:=.fields #[.int lo t,.int hi u,.int 1 v] },toks:=tk }:=by
 refine wpAny_pyIter_range (IsRange.new ..) (small_one h1 h2 h3 h4) ?_;have I1:Inv X pins σ H { s with heap:=s.heap.push { cls:=.type "range",data:=.fields #[.int lo t,.int hi u,.int 1 v] },toks:=tk }:=I.kept λb o e=>Wae _ e;refine⟨(s.heap.push { cls:=.type "range",data:=.fields #[.int lo t,.int hi u,.int 1 v] }).objs.size,[(s.heap.push { cls:=.type "range",data:=.fields #[.int lo t,.int hi u,.int 1 v] }).objs.size],_,_,H,rfl,
  I1.kept (t':=tk) λb o e=>Wae _ e,Zkj _ lo (hi-lo).toNat,?_,λb hb=>?_,q⟩
 ·have e1:lo+((0:Nat):Int)*1=lo:=by simp
  have e2:(((hi-lo).toNat:Nat):Int)-((0:Nat):Int)=Builtin.Range.rangeSize lo hi 1:=by rw[rangeSize_one];split <;> omega
  show IsRangeIter _ _ (lo+((0:Nat):Int)*1) ((((hi-lo).toNat:Nat):Int)-((0:Nat):Int)) 1;rw[e1,e2];exact Waq _ rfl
 ·have e:b=(s.heap.push { cls:=.type "range",data:=.fields #[.int lo t,.int hi u,.int 1 v] }).objs.size:=by simpa using hb
  subst e;exact I1.fpOk (Wak _) (I1.hok.fresh (Wak _))
def iRng1 (ta:TA):TI:=λσ H R=>ta σ H λvs H1=>∃j:Int,vs=[.int j] /\ -(2 ^ 62)<=j/\j<2 ^ 62/\R (Itr 0 j.toNat) H1
theorem Za2 {a:Expr}{ta:TA}{p pos:Pos}(hg:Gl X "range") (hm:X.mg "range" = none) (ha:PA X [a] ta) (hs:starEach [a] X.env=[(false,eval a X.env)]:=by rfl):PI X tg (.Call (.Name "range" p) [a] [] pos) (iRng1 ta):=by
 intro pins s σ H R I h;refine Call_ (Zej I hg hm boot_range (PyProof.Rows.callWith_type1 (thn (ha pos pins s σ H _ I h) λus s1 ⟨vs,H1,I1,r1,q1⟩=>?_) hs rfl));obtain⟨j,e,q1,q2,q⟩:=q1;subst e;cases r1 with
 |cons r rr=>
  cases rr;obtain⟨t,rfl⟩:=r;exact call_range_1 (range_it I1 (by omega) (by omega) q1 q2 (by simpa using q))
def tFor (wi:TI) (g:TG) (tb:TS):TS:=λD σ H=>wi σ H λJ H1=>∃W:Nat->Nat->St->Hp->Prop,(∃m,W 0 m σ H1)/\∀i m σ H,W i m σ H →
 (J.stop i H/\D.nx σ H)\/(J.go i H/\∃N:St->Hp->Prop,(∀σ' H',N σ' H' -> ∃m',m'<m/\W (i+1) m' σ' H')/\∀x H',J.yld i H x H' -> g x σ H' λσ2 H2=>tb { D with nx:=N,ct:=N,bk:=D.nx } σ2 H2)
def pinsAt (fp:List Addr) (h:Heap):List (Addr × Obj):=fp.filterMap λb=>(h.get? b).map λo=>(b,o)
theorem Zb3 {fp:List Addr}{h:Heap}{b:Addr}{o:Obj}(hb:b∈fp) (e:h.get? b=some o):(b,o)∈pinsAt fp h:=Wc6.mpr ⟨b,hb,by rw[e];rfl⟩
theorem Zle {fp:List Addr}{h:Heap}{p:Addr × Obj}(hp:p∈pinsAt fp h):p.1∈fp/\h.get? p.1=some p.2:=by
 obtain⟨b,hb,e⟩:=Wc6.mp hp;cases q:h.get? b with
 |none=>rw[q]at e;cases e
 |some o=>
  rw[q]at e;have e':(b,o)=p:=Wa7.inj e;subst e';exact⟨hb,q⟩
theorem Inv.pinned {pins:List (Addr × Obj)}{σ:St}{H:Hp}{s:Shared}{fp:List Addr}(I:Inv X pins σ H s) (hf:∀b∈fp,FpOk X pins H b) (ho:∀b∈fp,∃o,s.heap.get? b=some o/\∀v,o.data≠.cell v):Inv X (pins++pinsAt fp s.heap) σ H s:=
 I.pins_of λp hp=>(Wbr.mp hp).elim (λz=>I.pin p (Waz _ z)) λz=>by
  obtain⟨hb,e⟩:=Zle z;obtain⟨f0,f1,f2,_⟩:=hf p.1 hb;obtain⟨o,e',d⟩:=ho p.1 hb;rw[e]at e';cases e';exact⟨e,f0,f1,f2,d⟩
theorem Inv.unpinned {pins pl:List (Addr × Obj)}{σ:St}{H:Hp}{s:Shared}(I:Inv X (pins++pl) σ H s):Inv X pins σ H s:=I.pins_of λp hp=>I.pin p (Waz _ (Wcm _ hp))
theorem Zcx {iter:Expr}{body:List Stmt}{wi:TI}{g:TG}{tb:TS}{pos:Pos}(hp:PassesOwn (model X.prog X.w) X.A X.env X.xe) (hc:X.calm=true) (hi:PI X tg iter wi) (hg:PG X tg g) (hb:PSs X body tb)
  (hs:∀x,foldedSetIterable iter X.env x=pure x:=by intro _;rfl):PS X (.For tg iter body [] pos) (tFor wi g tb):=by
 intro pins s σ H D I h;refine wpAny_For (thn (hi pins s σ H _ I h) λv s1 h1=>thn h1 λitv s2 h2=>?_) hs;obtain⟨it,fp,tn,J,H2,e,I2,T,st2,f2,W,⟨m0,w0⟩,turn⟩:=h2;subst e
 -- what stays true of the iterator's objects through the loop
 have stat:∀{H':Hp},(∀b∈fp,H' b=none)->∀b∈fp,FpOk X pins H' b:=λhn b hb=>⟨hn b hb,(f2 b hb).2⟩;refine codeAny_forLoop_any (λn s'=>∃i σ' H',Inv X pins σ' H' s' /\ tn i s'.heap/\(∀b∈fp,H' b=none)/\W i n σ' H') ?_ m0 ⟨0,σ,H2,I2,st2,λb hb=>(f2 b hb).1,w0⟩;rintro n s3 ⟨i,σ3,H3,I3,st3,fr3,w3⟩;rcases turn i n σ3 H3 w3 with ⟨stop,qn⟩|⟨go,N,hN,step⟩
 ·refine wpAny_passesOwn hp (thn (T.done X rfl rfl rfl hc i pins s3 σ3 H3 X.xe I3 (stat fr3) st3 stop) λr s4 ⟨hr,I4⟩=>?_)
  subst hr;exact wpAny_execs_nil ⟨σ3,H3,I4,qn⟩
 ·refine wpAny_passesOwn hp (thn (T.item X rfl rfl rfl hc i pins s3 σ3 H3 X.xe I3 (stat fr3) st3 go) λr s4 ⟨u,hr,h4⟩=>?_)
  subst hr;refine wpAny_passesOwn hp (thn h4 λ_ s5 ⟨x,H5,I5,r5,y5,st5,fr5⟩=>?_);have I5':=I5.pinned (stat fr5) (T.obj _ _ st5);refine wpAny_passesOwn hp (thn (hg _ s5 σ3 H5 x u _ I5' r5 (step x H5 y5)) λ_ s6 ⟨σ6,H6,I6,q6⟩=>?_);refine wpAny_passesOwn hp (thn (hb _ s6 σ6 H6 _ I6 q6) λf s7 q7=>?_);have again:∀{σ7:St}{H7:Hp},Inv X (pins++pinsAt fp s5.heap) σ7 H7 s7->N σ7 H7->∃m,m<n/\∃i σ' H',Inv X pins σ' H' s7/\tn i s7.heap/\(∀b∈fp,H' b=none)/\W i m σ' H':=λ{σ7 H7} I7 n7=>by
   obtain⟨m',hm,w7⟩:=hN σ7 H7 n7;refine⟨m',hm,i+1,σ7,H7,I7.unpinned,T.keep _ _ _ st5 λb hb o e=>(I7.pin (b,o) (Waz _ (Waz _ (Zb3 hb e)))).1,λb hb=>?_,w7⟩;obtain⟨o,e,d⟩:=T.obj _ _ st5 b hb;exact(I7.pin (b,o) (Waz _ (Waz _ (Zb3 hb e)))).2.1
  cases f with
  |next=>obtain⟨σ7,H7,I7,n7⟩:=q7;exact again I7 n7
  |cont=>obtain⟨σ7,H7,I7,n7⟩:=q7;exact again I7 n7
  |brk=>obtain⟨σ7,H7,I7,q7⟩:=q7;exact⟨σ7,H7,I7.unpinned,q7⟩
  |ret v=>obtain⟨x7,σ7,H7,I7,r7,q7⟩:=q7;exact⟨x7,σ7,H7,I7.unpinned,r7,q7⟩
end
end L2
namespace L2
open PySem PySem.Spec PyProof.Rows
abbrev R2:=V->V->Hp->VK->Prop
def OpR (X:Cx) (f:Value->Value->Sem Value) (r:R2):Prop:=
 ∀(pins:List (Addr × Obj)) (s:Shared) (σ:St) (H:Hp) (x y:V) (v u:Value) (Q:VK),Inv X pins σ H s->RelV x v->RelV y u->r x y H Q →
  wpAny (model X.prog X.w) X.A (f v u) (EP X pins σ Q) X.xe s
def UnR (X:Cx) (f:Value->Sem Value) (r:V->Hp->VK->Prop):Prop:=
 ∀(pins:List (Addr × Obj)) (s:Shared) (σ:St) (H:Hp) (x:V) (v:Value) (Q:VK),Inv X pins σ H s->RelV x v->r x H Q →
  wpAny (model X.prog X.w) X.A (f v) (EP X pins σ Q) X.xe s
def CallR (X:Cx) (f:Value) (r:List V->Hp->VK->Prop):Prop:=
 ∀(pins:List (Addr × Obj)) (s:Shared) (σ:St) (H:Hp) (xs:List V) (us:List Value) (Q:VK),Inv X pins σ H s->Vals xs us->r xs H Q →
  wpAny (model X.prog X.w) X.A (call f us) (EP X pins σ Q) X.xe s
def TruR (X:Cx) (r:V->Hp->(Bool->Hp->Prop)->Prop):Prop:=
 ∀(pins:List (Addr × Obj)) (s:Shared) (σ:St) (H:Hp) (x:V) (v:Value) (Q:Bool->Hp->Prop),Inv X pins σ H s->RelV x v->r x H Q →
  wpAny (model X.prog X.w) X.A (truthy v) (TP X pins σ Q) X.xe s
def tOp (r:R2) (ta tb:TE):TE:=λσ H Q=>ta σ H λx H1=>tb σ H1 λy H2=>r x y H2 Q
def tUn (r:V->Hp->VK->Prop) (ta:TE):TE:=λσ H Q=>ta σ H λx H1=>r x H1 Q
def rI (C:Int->Int->Prop) (g:Int->Int->V):R2:=λx y H Q=>∃i j,x=.int i/\y=.int j/\C i j/\Q (g i j) H
def rI0 (g:Int->Int->V):R2:=λx y H Q=>∃i j,x=.int i/\y=.int j/\Q (g i j) H
def rU (g:Int->V):V->Hp->VK->Prop:=λx H Q=>∃i,x=.int i/\Q (g i) H
section
variable {X:Cx}{a b c:Expr}{ta tb tc:TE}{pos:Pos}
theorem binT (ha:PE X a ta) (hb:PE X b tb) {pins:List (Addr × Obj)}{s:Shared}{σ:St}{H:Hp}{R:V->V->Hp->Prop}(I:Inv X pins σ H s)
  (h:ta σ H λx H1=>tb σ H1 λy H2=>R x y H2) {Q:Value->Shared->Prop}{f:Value->Value->Sem Value}
  (hf:∀v u s2 x y H2,Inv X pins σ H2 s2->RelV x v->RelV y u->R x y H2->wpAny (model X.prog X.w) X.A (f v u) Q X.xe s2) :
  wpAny (model X.prog X.w) X.A (eval a X.env) (λv s₁=>wpAny (model X.prog X.w) X.A (eval b X.env) (λu s₂=>wpAny (model X.prog X.w) X.A (f v u) Q X.xe s₂) X.xe s₁) X.xe s:=by
 refine thn (ha pins s σ H _ I h) λv s1 ⟨x,H1,I1,r1,q1⟩=>?_;refine thn (hb pins s1 σ H1 _ I1 q1) λu s2 ⟨y,H2,I2,r2,q2⟩=>?_;exact hf v u s2 x y H2 I2 r1 r2 q2
theorem Zar {op:Operator}{r:R2}(ho:OpR X (binaryOp op) r) (ha:PE X a ta) (hb:PE X b tb):PE X (.BinOp a op b pos) (tOp r ta tb):=by
 intro pins s σ H Q I h;exact wpAny_BinOp (binT ha hb I h λv u s2 x y H2 I2 rx ry q=>ho pins s2 σ H2 x y v u Q I2 rx ry q)
theorem Zt3 {op:UnaryOp}{r:V->Hp->VK->Prop}(ho:UnR X (unaryOp op) r) (ha:PE X a ta):PE X (.UnaryOp op a pos) (tUn r ta):=by
 intro pins s σ H Q I h;exact UnaryOp_ (thn (ha pins s σ H _ I h) λv s1 ⟨x,H1,I1,r1,q1⟩=>ho pins s1 σ H1 x v Q I1 r1 q1)
theorem opI {f:Value->Value->Sem Value}{C:Int->Int->Prop}{g:Int->Int->Int}
  (rule:∀(i j:Int) (t u:Tok) (s:Shared) (Q:Value->Shared->Prop) (E:Value->Shared->Prop),C i j->Q (.int (g i j) s.toks) { s with toks:=s.toks+1 } -> wpAny (model X.prog X.w) X.A (f (.int i t) (.int j u)) Q E s) :
  OpR X f (rI C λi j=>.int (g i j)):=by
 intro pins s σ H x y v u Q I rx ry h;obtain⟨i,j,rfl,rfl,hc,q⟩:=h;obtain⟨t,rfl⟩:=rx;obtain⟨t',rfl⟩:=ry;exact rule i j t t' s _ _ hc ⟨.int (g i j),H,I.tok _,⟨_,rfl⟩,q⟩
theorem opI0 {f:Value->Value->Sem Value}{g:Int->Int->Int}
  (rule:∀(i j:Int) (t u:Tok) (s:Shared) (Q:Value->Shared->Prop) (E:Value->Shared->Prop),Q (.int (g i j) s.toks) { s with toks:=s.toks+1 } -> wpAny (model X.prog X.w) X.A (f (.int i t) (.int j u)) Q E s) :
  OpR X f (rI0 λi j=>.int (g i j)):=by
 intro pins s σ H x y v u Q I rx ry h;obtain⟨i,j,rfl,rfl,q⟩:=h;obtain⟨t,rfl⟩:=rx;obtain⟨t',rfl⟩:=ry;exact rule i j t t' s _ _ ⟨.int (g i j),H,I.tok _,⟨_,rfl⟩,q⟩
theorem opB0 {f:Value->Value->Sem Value}{g:Int->Int->Bool}
  (rule:∀(i j:Int) (t u:Tok) (s:Shared) (Q:Value->Shared->Prop) (E:Value->Shared->Prop),Q (.bool (g i j)) s->wpAny (model X.prog X.w) X.A (f (.int i t) (.int j u)) Q E s) :
  OpR X f (rI0 λi j=>.bl (g i j)):=by
 intro pins s σ H x y v u Q I rx ry h;obtain⟨i,j,rfl,rfl,q⟩:=h;obtain⟨t,rfl⟩:=rx;obtain⟨t',rfl⟩:=ry;exact rule i j t t' s _ _ ⟨.bl (g i j),H,I,rfl,q⟩
def CDiv (i j:Int):Prop:=0<j/\j<1073741824
def CPow (i j:Int):Prop:=0<=j/\j<=1000000/\i.natAbs<2 ^ 64
def CMul (i j:Int):Prop:=(-(2 ^ 64)<i/\i<2 ^ 64)\/(-(2 ^ 64)<j/\j<2 ^ 64)
theorem CMul.ok {i j:Int}(h:CMul i j):IntMulOk i j:=by
 rcases h with ⟨h1,h2⟩|⟨h1,h2⟩
 ·exact .of_left (intBits_le_64 h1 h2)
 ·exact .of_right (intBits_le_64 h1 h2)
theorem Zs0:OpR X (binaryOp .Add) (rI0 λi j=>.int (i+j)):=opI0 λ_ _ _ _ _ _ _ q=>add_int q
theorem Zrs:OpR X (binaryOp .Sub) (rI0 λi j=>.int (i-j)):=opI0 λ_ _ _ _ _ _ _ q=>sub_int q
theorem Zc8:OpR X (binaryOp .Mult) (rI CMul λi j=>.int (i*j)):=opI λ_ _ _ _ _ _ _ hc q=>mul_int q hc.ok
theorem Zd9:OpR X (binaryOp .FloorDiv) (rI CDiv λi j=>.int (i / j)):=opI λi j _ _ _ _ _ hc q=>by
 have h1:(0:Int)<j:=hc.1;have h2:j<1073741824:=hc.2;exact floordiv_int (by omega) (by rw[Int.fdiv_eq_ediv_of_nonneg i (by omega)];exact q) (.inl (PyProof.noPylong_small (by omega)))
theorem Zb7:OpR X (binaryOp .Mod) (rI (λ_ j=>0<j) λi j=>.int (i % j)):=opI λi j _ _ _ _ _ hc q=>by
 have h1:(0:Int)<j:=hc;exact mod_int' (by omega) (by rw[Int.fmod_eq_emod_of_nonneg i (by omega)];exact q)
theorem Zrx:OpR X (binaryOp .Pow) (rI CPow λi j=>.int (i ^ j.toNat)):=opI λ_ _ _ _ _ _ _ hc q=>pow_int_small hc.1 hc.2.1 hc.2.2 q
theorem Zo8:OpR X (binaryOp .BitXor) (rI0 λi j=>.int (Builtin.bitXor i j)):=opI0 λ_ _ _ _ _ _ _ q=>xor_int q
theorem unI {f:Value->Sem Value}{g:Int->Int}
  (rule:∀(i:Int) (t:Tok) (s:Shared) (Q:Value->Shared->Prop) (E:Value->Shared->Prop),Q (.int (g i) s.toks) { s with toks:=s.toks+1 } -> wpAny (model X.prog X.w) X.A (f (.int i t)) Q E s) :
  UnR X f (rU λi=>.int (g i)):=by
 intro pins s σ H x v Q I rx h;obtain⟨i,rfl,q⟩:=h;obtain⟨t,rfl⟩:=rx;exact rule i t s _ _ ⟨.int (g i),H,I.tok _,⟨_,rfl⟩,q⟩
theorem Zsh:UnR X (unaryOp .USub) (rU λi=>.int (-i)):=unI λ_ _ _ _ _ q=>neg_int q
end
def scal:V->V->Bool
 |.non,.non=>true|.non,.int _=>true|.int _,.non=>true|.non,.bl _=>true|.bl _,.non=>true|.non,.str _=>true|.str _,.non=>true
 |.int _,.int _=>true|.bl _,.bl _=>true|.str _,.str _=>true|.byt _,.byt _=>true
 |.int _,.str _=>true|.str _,.int _=>true|.bl _,.str _=>true|.str _,.bl _=>true
 |_,_=>false
def rEq:R2:=λx y H Q=>scal x y=true/\Q (.bl (decide (x=y))) H
def rNe:R2:=λx y H Q=>scal x y=true/\Q (.bl (!decide (x=y))) H
theorem Zg8 {i j:Int}:decide (V.int i=V.int j)=(i == j):=by
 rw[Wcj];simp
theorem Zpa {i j:Bool}:decide (V.bl i=V.bl j)=(i == j):=by
 rw[Wcj];simp
theorem Zlc {i j:Str}:decide (V.str i=V.str j)=(i == j):=by
 rw[Wcj];simp
theorem Zl3 {i j:Array UInt8}:decide (V.byt i=V.byt j)=(i.toList == j.toList):=by
 rw[Wcj];cases i;cases j;simp
section
variable {X:Cx}{a b c:Expr}{ta tb tc:TE}{pos:Pos}
theorem Za5 {pins:List (Addr × Obj)}{σ:St}{H:Hp}{s:Shared}{Q:VK}{k k':Bool}(I:Inv X pins σ H s) (q:Q (.bl k) H) (e:k=k'):EP X pins σ Q (.bool k') s:=by
 subst e;exact⟨.bl k,H,I,rfl,q⟩
theorem Zts:OpR X (compareOp .Eq) rEq:=by
 intro pins s σ H x y v u Q I rx ry h;obtain⟨hs,q⟩:=h;cases x with
 |non=>
  cases rx;cases y with
  |non=>cases ry;exact PySem.EqNone.eq_none_none (Za5 I q (by simp))
  |bl j=>cases ry;exact PySem.EqNone.eq_none_bool (Za5 I q (by simp))
  |int j=>obtain⟨t',rfl⟩:=ry;exact PySem.EqNone.eq_none_int (Za5 I q (by simp))
  |str j=>obtain⟨t',rfl⟩:=ry;exact PySem.EqNone.eq_none_str (Za5 I q (by simp))
  |_=>exact absurd (show false=true from hs) War
 |bl i=>
  cases rx;cases y with
  |non=>cases ry;exact PySem.EqNone.eq_bool_none (Za5 I q (by simp))
  |bl j=>cases ry;exact eq_bool (Za5 I q Zpa)
  |str j=>obtain⟨t',rfl⟩:=ry;exact PySem.EqMixed.eq_bool_str (Za5 I q (by simp))
  |_=>exact absurd (show false=true from hs) War
 |int i=>
  obtain⟨t,rfl⟩:=rx;cases y with
  |non=>cases ry;exact PySem.EqNone.eq_int_none (Za5 I q (by simp))
  |int j=>obtain⟨t',rfl⟩:=ry;exact eq_int (Za5 I q Zg8)
  |str j=>obtain⟨t',rfl⟩:=ry;exact PySem.EqMixed.eq_int_str (Za5 I q (by simp))
  |_=>exact absurd (show false=true from hs) War
 |str i=>
  obtain⟨t,rfl⟩:=rx;cases y with
  |non=>cases ry;exact PySem.EqNone.eq_str_none (Za5 I q (by simp))
  |bl j=>cases ry;exact PySem.EqMixed.eq_str_bool (Za5 I q (by simp))
  |int j=>obtain⟨t',rfl⟩:=ry;exact PySem.EqMixed.eq_str_int (Za5 I q (by simp))
  |str j=>obtain⟨t',rfl⟩:=ry;exact eq_str (Za5 I q Zlc)
  |_=>exact absurd (show false=true from hs) War
 |byt i=>
  obtain⟨t,rfl⟩:=rx;cases y with
  |byt j=>obtain⟨t',rfl⟩:=ry;exact PySem.W.eq_bytes (Za5 I q Zl3)
  |_=>exact absurd (show false=true from hs) War
 |_=>cases y <;> exact absurd (show false=true from hs) War
theorem Ztt:OpR X (compareOp .NotEq) rNe:=by
 intro pins s σ H x y v u Q I rx ry h;obtain⟨hs,q⟩:=h;cases x with
 |non=>
  cases rx;cases y with
  |non=>cases ry;exact PySem.EqNone.ne_none_none (Za5 I q (by simp))
  |bl j=>cases ry;exact PySem.EqNone.ne_none_bool (Za5 I q (by simp))
  |int j=>obtain⟨t',rfl⟩:=ry;exact PySem.EqNone.ne_none_int (Za5 I q (by simp))
  |str j=>obtain⟨t',rfl⟩:=ry;exact PySem.EqNone.ne_none_str (Za5 I q (by simp))
  |_=>exact absurd (show false=true from hs) War
 |bl i=>
  cases rx;cases y with
  |non=>cases ry;exact PySem.EqNone.ne_bool_none (Za5 I q (by simp))
  |bl j=>cases ry;exact ne_bool (Za5 I q (congrArg not Zpa))
  |str j=>obtain⟨t',rfl⟩:=ry;exact PySem.EqMixed.ne_bool_str (Za5 I q (by simp))
  |_=>exact absurd (show false=true from hs) War
 |int i=>
  obtain⟨t,rfl⟩:=rx;cases y with
  |non=>cases ry;exact PySem.EqNone.ne_int_none (Za5 I q (by simp))
  |int j=>obtain⟨t',rfl⟩:=ry;exact ne_int (Za5 I q (congrArg not Zg8))
  |str j=>obtain⟨t',rfl⟩:=ry;exact PySem.EqMixed.ne_int_str (Za5 I q (by simp))
  |_=>exact absurd (show false=true from hs) War
 |str i=>
  obtain⟨t,rfl⟩:=rx;cases y with
  |non=>cases ry;exact PySem.EqNone.ne_str_none (Za5 I q (by simp))
  |bl j=>cases ry;exact PySem.EqMixed.ne_str_bool (Za5 I q (by simp))
  |int j=>obtain⟨t',rfl⟩:=ry;exact PySem.EqMixed.ne_str_int (Za5 I q (by simp))
  |str j=>obtain⟨t',rfl⟩:=ry;exact ne_str (Za5 I q (congrArg not Zlc))
  |_=>exact absurd (show false=true from hs) War
 |byt i=>
  obtain⟨t,rfl⟩:=rx;cases y with
  |byt j=>obtain⟨t',rfl⟩:=ry;exact PySem.W.ne_bytes (Za5 I q (congrArg not Zl3))
  |_=>exact absurd (show false=true from hs) War
 |_=>cases y <;> exact absurd (show false=true from hs) War
theorem Zrc:OpR X (compareOp .Lt) (rI0 λi j=>.bl (decide (i<j))):=opB0 λ_ _ _ _ _ _ _ q=>lt_int q
theorem Zng:OpR X (compareOp .Gt) (rI0 λi j=>.bl (decide (j<i))):=opB0 λ_ _ _ _ _ _ _ q=>gt_int q
theorem Ztv:OpR X (compareOp .GtE) (rI0 λi j=>.bl (decide (j<=i))):=opB0 λ_ _ _ _ _ _ _ q=>ge_int q
theorem Zo9:OpR X (compareOp .Is) (λx y H Q=>y=.non/\Q (.bl (decide (x=.non))) H):=by
 intro pins s σ H x y v u Q I rx ry h;obtain⟨rfl,q⟩:=h;cases ry;refine is_none_gen (Za5 I q ?_);cases x <;> first
  | (cases rx;rfl)
  | (obtain⟨t,rfl⟩:=rx;rfl)
theorem OpR.or {f:Value->Value->Sem Value}{r r':R2}(h:OpR X f r) (h':OpR X f r'):OpR X f (λx y H Q=>r x y H Q\/r' x y H Q):=by
 intro pins s σ H x y v u Q I rx ry q;rcases q with q|q
 ·exact h pins s σ H x y v u Q I rx ry q
 ·exact h' pins s σ H x y v u Q I rx ry q
theorem nomark (b:Expr) {op:CmpOp}(h:op≠.In:=by decide) (h2:op≠.NotIn:=by decide):behindInMarks op b=false:=by
 have e1:(op == CmpOp.In)=false:=by cases op <;> first|rfl|exact absurd rfl h
 have e2:(op == CmpOp.NotIn)=false:=by cases op <;> first|rfl|exact absurd rfl h2
 cases b <;> simp[behindInMarks,e1,e2]
theorem Ziu {op:CmpOp}{r:R2}(ho:OpR X (compareOp op) r) (ha:PE X a ta) (hb:PE X b tb) (hm:behindInMarks op b=false):PE X (.Compare a [op] [b] pos) (tOp r ta tb):=by
 intro pins s σ H Q I h;exact wpAny_Compare1 (binT ha hb I h λv u s2 x y H2 I2 rx ry q=>ho pins s2 σ H2 x y v u Q I2 rx ry q) hm
def tTest (t:TE):TT:=λσ H Q=>t σ H λx H'=>∃k,x=.bl k/\Q k H'
theorem Zax {op:CmpOp}{r:R2}(ho:OpR X (compareOp op) r) (ha:PE X a ta) (hb:PE X b tb) (hm:behindInMarks op b=false):PT X (.Compare a [op] [b] pos) (tTest (tOp r ta tb)):=by
 intro pins s σ H Q I h;refine wpAny_isTrue_Compare1 (thn (ha pins s σ H _ I h) λv s1 ⟨x,H1,I1,r1,q1⟩=>thn (hb pins s1 σ H1 _ I1 q1) λu s2 ⟨y,H2,I2,r2,q2⟩=>
  thn (ho pins s2 σ H2 x y v u _ I2 r1 r2 q2) λc s3 ⟨z,H3,I3,r3,k,e,q3⟩=>?_) hm
 subst e;cases r3;exact wpAny_truthy_bool ⟨H3,I3,q3⟩
def TruV (K:W.Frag) (x:V) (H:Hp) (k:Bool):Prop:=
 match x with
 |.non=>k=false
 |.bl b=>k=b
 |.int i=>k=(i != 0)
 |.str y=>y.length<=sizeLine/\k=((y.length:Int) != 0)
 |.byt y=>y.size<=sizeLine/\k=((y.size:Int) != 0)
 |.ref p=>(∃xs,SqL K H p xs/\k = !xs.isEmpty)\/(∃xs,SqT K H p xs/\k = !xs.isEmpty)\/∃kvs,H p=some (.dK kvs)/\k = !kvs.isEmpty
 |_=>False
theorem Zkd {κ:Type}{kvs:List (κ × V)}{vs:List (κ × Value)}(r:KV kvs vs):(!vs.isEmpty) = !kvs.isEmpty:=by
 cases r <;> rfl
theorem Zf1 {xs:List V}{its:List Value}(r:Vals xs its):(!its.toArray.isEmpty) = !xs.isEmpty:=by
 cases r <;> simp
theorem line63:(sizeLine:Nat)<2 ^ 63:=by rw[sizeLine_eq];decide
theorem Zs8:TruR X (λx H Q=>∃k,TruV X.K x H k/\Q k H):=by
 intro pins s σ H x v Q I rx h;obtain⟨k,e,q⟩:=h;have hl:=line63;have hs:sizeLine=16777216:=sizeLine_eq;cases x with
 |non=>
  cases rx;have e':k=false:=e;subst e';exact truthy_none ⟨H,I,q⟩
 |bl b=>
  cases rx;have e':k=b:=e;subst e';exact wpAny_truthy_bool ⟨H,I,q⟩
 |int i=>
  obtain⟨t,rfl⟩:=rx;have e':k=(i != 0):=e;subst e';exact PySem.P.truthy_int ⟨H,I,q⟩
 |str y=>
  obtain⟨t,rfl⟩:=rx;obtain⟨hy,e'⟩:y.length<=sizeLine/\k=((y.length:Int) != 0):=e;subst e';exact PySem.P.truthy_str (by omega) ⟨H,I.tok _,q⟩
 |byt y=>
  obtain⟨t,rfl⟩:=rx;obtain⟨hy,e'⟩:y.size<=sizeLine/\k=((y.size:Int) != 0):=e;subst e';exact PySem.W.truthy_bytes (by omega) ⟨H,I.tok _,q⟩
 |ref p=>
  cases rx;have e':(∃xs,SqL X.K H p xs/\k = !xs.isEmpty)\/(∃xs,SqT X.K H p xs/\k = !xs.isEmpty)\/∃kvs,H p=some (.dK kvs)/\k = !kvs.isEmpty:=e;rcases e' with ⟨xs,hx,e'⟩|⟨xs,hx,e'⟩|⟨kvs,hx,e'⟩
  ·subst e'
   obtain⟨its,r,pl,hz⟩:=I.list hx;have hlen:=r.length;exact wpAny_truthy_list pl.isList (by simp only[Wag];omega) ⟨H,I.tok _,by rw[Zf1 r];exact q⟩
  ·subst e'
   obtain⟨its,r,pl,hz⟩:=I.tuple hx;have hlen:=r.length;exact truthy_tuple pl (by simp only[Wag];omega) ⟨H,I.tok _,by rw[Zf1 r];exact q⟩
  ·subst e'
   obtain⟨hz,hS,vs,r,m⟩:kvs.length<=sizeLine/\(p == sysModules)=false/\∃vs,KV kvs vs/\s.heap.DictOf (mixKind X.prog X.w) p vs:=I.hok p _ hx;have hlen:kvs.length=vs.length:=Paired.length r;exact wpAny_truthy_dict hS m (by omega) ⟨H,I.tok _,by rw[Zkd r];exact q⟩
 |_=>exact(show False from e).elim
theorem Zno (ha:PE X a ta) (he:∀whole,isTrue a X.env whole=(do let v ← whole;standAt a.pos;holding [v] (truthy v))) :
  PT X a (λσ H Q=>ta σ H λx H'=>∃k,TruV X.K x H' k/\Q k H'):=by
 intro pins s σ H Q I h;exact isTrue_plain (thn (ha pins s σ H _ I h) λv s1 ⟨x,H1,I1,r1,q1⟩=>Zs8 pins s1 σ H1 x v Q I1 r1 q1) (he _)
theorem vals1 {x:V}{us:List Value}(r:Vals [x] us):∃u,us=[u]/\RelV x u:=by
 cases r with
 |cons r1 r2=>cases r2;exact⟨_,rfl,r1⟩
theorem vals2 {x y:V}{us:List Value}(r:Vals [x,y] us):∃u w',us=[u,w']/\RelV x u/\RelV y w':=by
 cases r with
 |cons r1 r2=>
  cases r2 with
  |cons r3 r4=>cases r4;exact⟨_,_,rfl,r1,r3⟩
theorem Zf7:CallR X (.builtin "abs") (λxs H Q=>∃i,xs=[.int i]/\Q (.int (if i<0 then -i else i)) H):=by
 intro pins s σ H xs us Q I r h;obtain⟨i,rfl,q⟩:=h;obtain⟨u,rfl,t,rfl⟩:=vals1 r;exact call_abs_int λu tk=>⟨.int (if i<0 then -i else i),H,I.tok _,⟨_,rfl⟩,q⟩
theorem Ze2 (hc:X.calm=true):CallR X (.builtin "max") (λxs H Q=>∃i j,xs=[.int i,.int j]/\Q (.int (if j > i then j else i)) H):=by
 intro pins s σ H xs us Q I r h;obtain⟨i,j,rfl,q⟩:=h;obtain⟨u,w',rfl,⟨t,rfl⟩,⟨t',rfl⟩⟩:=vals2 r;refine max_two_ints (I.ok.hd hc) λh' tk k=>⟨_,H,I.kept k,?_,q⟩;by_cases hj:j > i
 ·rw[if_pos hj,if_pos hj];exact⟨_,rfl⟩
 ·rw[if_neg hj,if_neg hj];exact⟨_,rfl⟩
theorem Zfa (hc:X.calm=true):CallR X (.builtin "min") (λxs H Q=>∃i j,xs=[.int i,.int j]/\Q (.int (if j<i then j else i)) H):=by
 intro pins s σ H xs us Q I r h;obtain⟨i,j,rfl,q⟩:=h;obtain⟨u,w',rfl,⟨t,rfl⟩,⟨t',rfl⟩⟩:=vals2 r;refine min_two_ints (I.ok.hd hc) λh' tk k=>⟨_,H,I.kept k,?_,q⟩;by_cases hj:j<i
 ·rw[if_pos hj,if_pos hj];exact⟨_,rfl⟩
 ·rw[if_neg hj,if_neg hj];exact⟨_,rfl⟩
theorem Zlb:CallR X (.type "int") (λxs H Q=>(∃i,xs=[.int i]/\Q (.int i) H)\/∃k,xs=[.bl k]/\Q (.int (if k then 1 else 0)) H):=by
 intro pins s σ H xs us Q I r h;rcases h with ⟨i,rfl,q⟩|⟨k,rfl,q⟩
 ·obtain⟨u,rfl,t,rfl⟩:=vals1 r
  exact call_int_int ⟨.int i,H,I,⟨_,rfl⟩,q⟩
 ·obtain⟨u,rfl,r1⟩:=vals1 r
  cases r1;exact call_int_bool ⟨.int (if k then 1 else 0),H,I.tok _,⟨_,rfl⟩,q⟩
end
end L2
namespace L2
open PySem PySem.Spec PyProof.Rows
theorem RelO.some_of {v:V}{o:Option Value}(r:RelO (some v) o):∃u,o=some u/\RelV v u:=by
 cases o with
 |none=>exact(show False from r).elim
 |some u=>exact⟨u,rfl,r⟩
section
variable {X:Cx}{pins:List (Addr × Obj)}{σ:St}{H:Hp}{s:Shared}{a C dx:Addr}{fs:List (Str × V)}{f:Str}{v:V}{A:Around}{E:Value->Shared->Prop}
end
section
variable {X:Cx}{pins:List (Addr × Obj)}{σ:St}{H:Hp}{s:Shared}{A:Around}{E:Value->Shared->Prop}{Q:Value->Shared->Prop}{c:Value}{b:Bool}
end
end L2
namespace L2
open PySem PySem.Spec PyProof.Rows
structure Room (k:Nat) (A:Around):Prop where
 hd:A.handled=none
 dp:A.depth+3*k+5<recursionLimit
 un:A.units+16*k+200<cLine
 gd:A.guards=some []
theorem Room.mono {j k:Nat}{A:Around}(r:Room k A) (h:j<=k):Room j A:=⟨r.hd,by have:=r.dp;omega,by have:=r.un;omega,r.gd⟩
theorem Room.deeper {k:Nat}{A:Around}(r:Room (k+1) A) (env:Env):Room k (A.deeper env):=
 ⟨r.hd,by have:=r.dp;show A.depth+1+3*k+5<_;omega,by have:=r.un;show A.units+3+16*k+200<_;omega,r.gd⟩
theorem Room.depth {k:Nat}{A:Around}(r:Room k A):A.depth<recursionLimit:=by have:=r.dp;omega
theorem Room.units {k:Nat}{A:Around}(r:Room k A):A.units+64<cLine:=by have:=r.un;omega
def tNil:TA:=λ_ H Q=>Q [] H
def tCons (ta:TE) (tr:TA):TA:=λσ H Q=>ta σ H λx H1=>tr σ H1 λxs H2=>Q (x::xs) H2
section
variable {X:Cx}{e:Expr}{es:List Expr}{te:TE}{t:TA}{pos:Pos}
theorem Zac:PA X [] tNil:=λ_ _ _ _ H Q I h=>Calls.spliced_nil ⟨[],H,I,.nil,h⟩
theorem Zaa (ha:PE X e te) (hr:PA X es t) (hs:starEach (e::es) X.env=(false,eval e X.env)::starEach es X.env:=by rfl):PA X (e::es) (tCons te t):=by
 intro pos pins s σ H Q I h;rw[hs];show wpAny _ _ (spliced ((false,eval e X.env)::backTo pos (starEach es X.env))) _ _ s;refine Calls.spliced_cons (thn (ha pins s σ H _ I h) λu s1 ⟨x,H1,I1,r1,q1⟩=>?_);exact thn (hr pos pins s1 σ H1 _ I1 q1) λus s2 ⟨xs,H2,I2,r2,q2⟩=>⟨x::xs,H2,I2,.cons r1 r2,q2⟩
def tTup (t:TA):TE:=λσ H Q=>t σ H λxs H1=>xs.length<=sizeLine/\∀p,H1 p=none->Q (.ref p) (upd H1 p (.tup xs))
def tLst (t:TA):TE:=λσ H Q=>t σ H λxs H1=>xs.length<=sizeLine/\∀p,H1 p=none->Q (.ref p) (upd H1 p (.lst xs))
theorem Zby {x1} (h:PA X es t):PE X (.Tuple es x1 pos) (tTup t):=by
 intro pins s σ H Q I hq;refine wpAny_Tuple_spliced (thn (h pos pins s σ H _ I hq) λus s1 ⟨xs,H1,I1,r,z,q⟩=>⟨by rw[<- r.length];exact z,?_⟩);have hf:H1 s1.heap.objs.size=none:=I1.hok.fresh (Wak _);refine⟨.ref s1.heap.objs.size,upd H1 s1.heap.objs.size (.tup xs),I1.laid (t':=s1.toks) (λb u e=>Wae _ e) (Wak _) ?_,rfl,q _ hf⟩;exact⟨z,us,r,⟨_,Waq _ rfl,⟨rfl,_,rfl⟩,rfl⟩⟩
theorem Zcc (h:PA X es t):PE X (.List es pos) (tLst t):=by
 intro pins s σ H Q I hq;refine wpAny_List_spliced (thn (h pos pins s σ H _ I hq) λus s1 ⟨xs,H1,I1,r,z,q⟩=>⟨by rw[<- r.length];exact z,?_⟩);have hf:H1 s1.heap.objs.size=none:=I1.hok.fresh (Wak _);refine⟨.ref s1.heap.objs.size,upd H1 s1.heap.objs.size (.lst xs),I1.laid (t':=s1.toks) (λb u e=>Wae _ e) (Wak _) ?_,rfl,q _ hf⟩;exact⟨z,us,0,r,Waq _ rfl⟩
end
abbrev Sp:=List V->Hp->VK->XK->Prop
abbrev CXT:=List Env->Hp->Shared->XK->Value->Shared->Prop
structure Env0 (P:Program) (w:World) (K:W.Frag) (mg:Str->Option Value) (base:Heap) (A:Around) (outer:List Env) (s:Shared) (H:Hp):Prop where
 frames:A.frames=some outer
 mod:Mod K mg base
 bs:∀b o,base.get? b=some o->s.heap.get? b=some o/\H b=none
 bsz:base.objs.size<=s.heap.objs.size
 funs:s.heap.FunFrames base outer
 frf:∀b∈frs outer,H b=none
 hok:HOk P w H s.heap
 bare:AllBare s.gens
def CE (outer:List Env) (P:Program) (w:World) (H:Hp) (s:Shared) (Q:VK) (u:Value) (s':Shared):Prop:=
 ∃v H',s'.os=s.os/\AllBare s'.gens/\Un (frs outer) [] H H' s.heap s'.heap/\HOk P w H' s'.heap/\RelV v u/\Q v H'
def CR (CX:CXT) (outer:List Env) (P:Program) (w:World) (H:Hp) (s:Shared) (Q:VK) (E:XK) (r:Result) (s':Shared):Prop:=
 match r with
 |.ok (.ret u)=>CE outer P w H s Q u s'
 |.ok _=>False
 |.error e=>CX outer H s E e s'
structure FnOk (P:Program) (w:World) (K:W.Frag) (mg:Str->Option Value) (base:Heap) (CX:CXT) (k:Nat) (f:Addr) (fd:FuncData) (ps:List Str) (sp:Sp):Prop where
 len:∀vs H Q E,sp vs H Q E->vs.length=ps.length
 run:∀(A:Around) (outer:List Env) (s:Shared) (H:Hp) (args:Args) (us:List Value) (vs:List V) (Q:VK) (E:XK),Room k A->Env0 P w K mg base A outer s H->BindsTo s fd args (ps.zip us)->Vals vs us->sp vs H Q E →
  codeAny (model P w) A (.call (.ref f) args) (CR CX outer P w H s Q E) s
theorem FnOk.imp {P:Program}{w:World}{K:W.Frag}{mg:Str->Option Value}{base:Heap}{CX:CXT}{k:Nat}{f:Addr}{fd:FuncData}{ps:List Str}{sp sp':Sp}(F:FnOk P w K mg base CX k f fd ps sp)
  (h:∀vs H Q E,sp' vs H Q E->sp vs H Q E):FnOk P w K mg base CX k f fd ps sp':=
 ⟨λvs H Q E q=>F.len vs H Q E (h _ _ _ _ q),λA outer s H args us vs Q E hr he hb hv hs=>F.run A outer s H args us vs Q E hr he hb hv (h _ _ _ _ hs)⟩
section
variable {X:Cx}{pins:List (Addr × Obj)}{σ:St}{H:Hp}{s s':Shared}
theorem Inv.env0 (I:Inv X pins σ H s):Env0 X.prog X.w X.K X.mg X.base X.A X.stack s H:=
 ⟨I.ok.frames,I.ok.mod,I.bs,Wbl I.ok.bsz I.sz,I.stack,I.stkFree,I.hok,I.bare⟩
theorem Inv.after {Q:VK}{u:Value}(I:Inv X pins σ H s) (h:CE X.stack X.prog X.w H s Q u s'):EP X pins σ Q u s':=by
 obtain⟨v,H',os,bare,un,hok,r,q⟩:=h;obtain⟨hh,g,d,t,os'⟩:=s';obtain rfl:os'=s.os:=os;exact⟨v,H',I.call (h':=hh) (g':=g) (d':=d) (t':=t) (ch:=[]) un hok bare (λb z=>absurd z (by simp)),r,q⟩
end
def tCall (sp:Sp) (dvs:List V) (E:XK) (t:TA):TE:=λσ H Q=>t σ H λvs H1=>sp (vs++dvs) H1 Q E
def Binds (K:W.Frag) (fd:FuncData) (ps:List Str) (ds:List Value):Prop:=
 ∀(s:Shared) (us:List Value),K.In s.heap->(us++ds).length=ps.length->BindsTo s fd ⟨us,[]⟩ (ps.zip (us++ds))
theorem Binds.all {K:W.Frag}{fd:FuncData}{ps:List Str}(h:∀us:List Value,us.length=ps.length->bindArgs fd ⟨us,[]⟩=pure (ps.zip us)):Binds K fd ps []:=λs us _ hl=>by
 rw[Wbf]at hl ⊢;exact .of_eq (h us hl)
def Passes (CX:CXT) (X:Cx) (E:XK):Prop:=∀(pins:List (Addr × Obj)) (σ:St) (H:Hp) (s:Shared) (e:Value) (s':Shared),Inv X pins σ H s->CX X.stack H s E e s' -> X.xe e s'
section
variable {X:Cx}{CX:CXT}{k:Nat}{f C:Addr}{fd:FuncData}{ps:List Str}{sp:Sp}{dvs:List V}{ds:List Value}{E:XK}{x m:Str}{p pos apos:Pos}{e o:Expr}{es:List Expr}{ta:TE}{t:TA}
theorem Ztj {pins:List (Addr × Obj)}{σ:St}{H:Hp}{s:Shared}{Q:VK}{us:List Value}{vs:List V}(F:FnOk X.prog X.w X.K X.mg X.base CX k f fd ps sp) (hr:Room k X.A) (hb:Binds X.K fd ps ds) (hd:Vals dvs ds) (hx:Passes CX X E)
  (I:Inv X pins σ H s) (r:Vals vs us) (h:sp (vs++dvs) H Q E):wpAny (model X.prog X.w) X.A (call (.ref f) us) (EP X pins σ Q) X.xe s:=by
 have r2:Vals (vs++dvs) (us++ds):=r.append hd;have hl:(us++ds).length=ps.length:=by rw[<- r2.length];exact F.len _ _ _ _ h
 refine wpAny_call (codeAny_mono (F.run X.A X.stack s H ⟨us,[]⟩ (us++ds) (vs++dvs) Q E hr I.env0 (hb s us I.kIn hl) r2 h) λr s' hq=>?_);cases r with
 |error e=>exact hx pins σ H s e s' I hq
 |ok fl=>
  cases fl with
  |ret u=>exact I.after hq
  |next=>exact False.elim hq
  |brk=>exact False.elim hq
  |cont=>exact False.elim hq
theorem Zra (F:FnOk X.prog X.w X.K X.mg X.base CX k f fd ps sp) (hr:Room k X.A) (hg:Gl X x) (hm:X.mg x=some (.ref f)) (hk:W.keepIn X.K (.ref f)=true) (hb:Binds X.K fd ps ds) (hd:Vals dvs ds) (hx:Passes CX X E)
  (ha:PA X (e::es) t) (hdb:(x == ("__debug__":Str))=false:=by decide) (he:starEach (e::es) X.env=(false,eval e X.env)::starEach es X.env:=by rfl) (hpl:(backTo pos (starEach es X.env)).any (·.1)=false:=by rfl) :
  PE X (.Call (.Name x p) (e::es) [] pos) (tCall sp dvs E t):=by
 intro pins s σ H Q I h;refine wpAny_Call_Name_kw (Zp8 I hg hm ?_ hdb);refine PySem.W.callWith_K (h₀:=X.base) I.ok.mod.kin hk (thn (ha pos pins s σ H _ I h) λus s1 ⟨vs,H1,I1,r,q⟩=>⟨I1.kIn,?_⟩) he hpl;exact Ztj F hr hb hd hx I1 r q
end
def PK (X:Cx) (kws:List Keyword) (t:TA):Prop:=
 ∀(pos:Pos) (pins:List (Addr × Obj)) (s:Shared) (σ:St) (H:Hp) (Q:List V->Hp->Prop),Inv X pins σ H s->t σ H Q->wpAny (model X.prog X.w) X.A (evalAll ((backToKw pos (keywordEach kws X.env)).map (·.2))) (AP X pins σ Q) X.xe s
section
variable {X:Cx}{CX:CXT}{k:Nat}{f C:Addr}{fd:FuncData}{ps ks:List Str}{sp:Sp}{E:XK}{x m:Str}{p pos apos kpos:Pos}{e o:Expr}{es:List Expr}{kws:List Keyword}{te ta:TE}{t tk:TA}{nm:Option Str}
theorem Zrv:PK X [] tNil:=λ_ _ _ _ H Q I h=>wpAny_evalAll_nil ⟨[],H,I,.nil,h⟩
theorem Zpr (ha:PE X e te) (hr:PK X kws t):PK X (⟨nm,e,kpos⟩::kws) (tCons te t):=by
 intro pos pins s σ H Q I h;show wpAny _ _ (evalAll ((do let v ← eval e X.env;standAt pos;pure v)::(backToKw pos (keywordEach kws X.env)).map (·.2))) _ _ s;refine wpAny_evalAll_cons (wpAny_bind (thn (ha pins s σ H _ I h) λu s1 ⟨x,H1,I1,r1,q1⟩=>wpAny_bind (wpAny_standAt (wpAny_pure ?_))));exact thn (hr pos pins s1 σ H1 _ I1 q1) λus s2 ⟨xs,H2,I2,r2,q2⟩=>⟨x::xs,H2,I2,.cons r1 r2,q2⟩
variable {g:List Value->List Value->List Value}{gV:List V->List V->List V}
end
structure FnScope (N P:List Str) (sc:Scope):Prop where
 kind:sc.kind=.function
 co:sc.isCoroutine=false
 gen:sc.isGenerator=false
 nd:N.Nodup
 pre:N.take P.length=P
 par:∀x∈P,sc.names.lookup x=some .local\/sc.names.lookup x=some .cell
 nofree:∀y∈sc.names,y.2≠.free
theorem Zhw {kindOf:Str->Option NameKind}{x:Str}:∀{binds:List (Str × Value)}{m:Str->Option Value},(∀v,(x,v) ∉ binds)->bindL kindOf binds m x=m x
 |[],_,_=>rfl
 | (n,v)::r,m,h=>by
  unfold bindL;rw[Zhw λw hw=>h w (Wav _ hw)];split
  ·have:x≠n:=by rintro rfl;exact h v Way
   simp[this]
  ·rfl
theorem Zhm {kindOf:Str->Option NameKind}{x:Str}:∀{binds:List (Str × Value)}{m:Str->Option Value},(∀v,(x,v) ∉ binds)->bindC kindOf binds m x=m x
 |[],_,_=>rfl
 | (n,v)::r,m,h=>by
  unfold bindC;rw[Zhm λw hw=>h w (Wav _ hw)];split
  ·rfl
  ·have:x≠n:=by rintro rfl;exact h v Way
   simp[this]
theorem Zh5 {kindOf:Str->Option NameKind}{x:Str}{v:Value}:∀{P:List Str}{vs:List Value}{i:Nat}{m:Str->Option Value},P.Nodup->P[i]?=some x->vs[i]?=some v->kindOf x=some .local →
  bindL kindOf (P.zip vs) m x=some v
 |[],_,_,_,_,h,_,_=>by simp at h
 |_::_,[],_,_,_,_,h,_=>by simp at h
 |p::P,w::vs,0,m,nd,h1,h2,hk=>by
  simp at h1 h2;subst h1;subst h2;show bindL kindOf ((p,w)::P.zip vs) m p=_;unfold bindL;rw[Zhw λv hv=>(Wb8.mp nd).1 (List.of_mem_zip hv).1,if_pos hk];simp
 |p::P,w::vs,i+1,m,nd,h1,h2,hk=>by
  show bindL kindOf ((p,w)::P.zip vs) m x=_;unfold bindL;exact Zh5 (i:=i) (Wb8.mp nd).2 (by simpa using h1) (by simpa using h2) hk
theorem Zhr {kindOf:Str->Option NameKind}{x:Str}{v:Value}:∀{P:List Str}{vs:List Value}{i:Nat}{m:Str->Option Value},P.Nodup->P[i]?=some x->vs[i]?=some v->kindOf x≠some .local →
  bindC kindOf (P.zip vs) m x=some v
 |[],_,_,_,_,h,_,_=>by simp at h
 |_::_,[],_,_,_,_,h,_=>by simp at h
 |p::P,w::vs,0,m,nd,h1,h2,hk=>by
  simp at h1 h2;subst h1;subst h2;show bindC kindOf ((p,w)::P.zip vs) m p=_;unfold bindC;rw[Zhm λv hv=>(Wb8.mp nd).1 (List.of_mem_zip hv).1,if_neg hk];simp
 |p::P,w::vs,i+1,m,nd,h1,h2,hk=>by
  show bindC kindOf ((p,w)::P.zip vs) m x=_;unfold bindC;exact Zhr (i:=i) (Wb8.mp nd).2 (by simpa using h1) (by simpa using h2) hk
def start (N:List Str) (vs:List V):St:=vs.map some++Waj (N.length-vs.length) none
def cxOf (CX:CXT) (P:Program) (w:World) (K:W.Frag) (mg:Str->Option Value) (base:Heap) (N:List Str) (qual:Str) (scope:Scope) (f:Addr) (cd:Value) (A:Around) (outer:List Env) (s:Shared) (H:Hp) (E:XK):Cx where
 prog:=P
 w:=w
 K:=K
 mg:=mg
 base:=base
 A:=A.deeper (envOfC qual scope s.heap.objs.size f cd)
 N:=N
 s₀:=s
 H₀:=H
 env:=envOfC qual scope s.heap.objs.size f cd
 outer:=outer
 stack:=envOfC qual scope s.heap.objs.size f cd::outer
 ex:=[]
 calm:=true
 fn:=λ_=>true
 pn:=[]
 xe:=λe s'=>wpAny (model P w) (A.deeper (envOfC qual scope s.heap.objs.size f cd)) (leaving (envOfC qual scope s.heap.objs.size f cd) e) (λ_ s''=>CX outer H s E e s'') (λe' s''=>CX outer H s E e' s'') s'
theorem Zjm {sc:Scope}{n:Nat}{x:Str}(h:sc.names.lookup x=some .cell):∃c,(cellsFrom n sc.names []).lookup x=some c:=by
 have q:=PySem.W.cellsFrom_some sc.names n [] (.inl h);exact Option.isSome_iff_exists.mp q
theorem Zl9 {CX:CXT}{P:Program}{w:World}{K:W.Frag}{mg:Str->Option Value}{base:Heap}{N ps:List Str}{qual:Str}{scope:Scope}{f:Addr}{cd:Value}{A:Around}{outer:List Env}{s s1:Shared}{H:Hp}{E:XK}{us:List Value}{vs:List V}
  (S:FnScope N ps scope) (hd:A.handled=none) (e0:Env0 P w K mg base A outer s H) (hl:vs.length=ps.length) (r:Vals vs us)
  (x:InCallC s s.heap.objs.size (bindL (envOfC qual scope s.heap.objs.size f cd).kindOf (ps.zip us) λ_=>none) (cellsFrom (s.heap.objs.size+1) scope.names []) (bindC (envOfC qual scope s.heap.objs.size f cd).kindOf (ps.zip us) λ_=>none) s1) :
  Inv (cxOf CX P w K mg base N qual scope f cd A outer s H E) [] (start N vs) H s1:=by
 have hpl:ps.length<=N.length:=by have:=congrArg Wbd S.pre;rw[Wbt]at this;omega
 obtain⟨h1,tk,rfl,hk⟩:=x.done;have noA:∀b:Addr,b ∉ (cxOf CX P w K mg base N qual scope f cd A outer s H E).ex:=λb z=>absurd (show b∈([]:List Addr) from z) (by simp);refine⟨⟨e0.mod,S.kind,rfl,rfl,Wak _,λy z c h1 h2=>?_,λy hy=>?_,λy c _ h=>?_,λ_=>hd,Around.frames_deeper e0.frames,.inr ⟨rfl,rfl⟩,λb z=>absurd z (noA b),e0.bs,e0.bsz,λb _ _=>noA b,λb z=>absurd z (noA b),e0.funs,e0.frf⟩,
  rfl,e0.bare,Un.kept hk,⟨_,x.toInCall.ns,λi y v h1 h2 h3=>?_⟩,λy c h=>⟨_,x.cell y c h⟩,e0.hok.fresh (Wak _),λy c h=>?_,λp hp=>absurd (show p∈([]:List (Addr × Obj)) from hp) (by simp),e0.hok.kept hk,?_⟩
 ·exact name_of_addr x.apart (PySem.mem_of_lookup h1) (PySem.mem_of_lookup h2)
 ·have hy:scope.names.lookup y=some .cell\/scope.names.lookup y=some .free:=hy
  rcases hy with hy|hy
  ·exact Zjm hy
  ·exact absurd rfl (S.nofree _ (PySem.mem_of_lookup hy))
 ·exact Wb0 (x.above y c (PySem.mem_of_lookup h))
 ·have hi:i<vs.length:=by
   unfold start at h2;by_cases hi:i<vs.length
   ·exact hi
   ·rw[Wax (by simpa using hi)]at h2
    rw[Wcd]at h2;split at h2 <;> cases h2
  have ha:vs[i]?=some v:=by
   unfold start at h2;rw[Wa8 (by simpa using hi),Wad]at h2;cases e:vs[i]? with
   |none=>rw[e]at h2;cases h2
   |some a=>rw[e]at h2;cases h2;rfl
  obtain⟨u,hu,rv⟩:=r.get ha;have hp:ps[i]?=some y:=by
   rw[<- S.pre,List.getElem?_take_of_lt (by omega)];exact h1
  have ndP:ps.Nodup:=by rw[<- S.pre];exact S.nd.sublist (List.take_sublist _ _)
  refine⟨u,rv,?_⟩;rcases S.par y (Wan hp) with k|k
  ·exact .inl ⟨k,Zh5 ndP hp hu k⟩
  ·obtain⟨c,e⟩:=Zjm (n:=s.heap.objs.size+1) k
   refine .inr ⟨.inl k,c,e,?_⟩;have q:=x.cell y c e;rw[Zhr ndP hp hu (by show scope.names.lookup y≠_;rw[k];decide)]at q;exact q
 ·exact e0.hok.fresh (Wb0 (x.above y c (PySem.mem_of_lookup h)))
 ·unfold start
  show _=N.length;rw[Waw,Wab,Wa1];omega
theorem Ztn {CX:CXT}{P:Program}{w:World}{K:W.Frag}{mg:Str->Option Value}{base:Heap}{k:Nat}{f:Addr}{name qual:Str}{params:Arguments}{body:List Stmt}{scope:Scope}{dV kV doc pm cdv ct oc:Value}{an od:Option Addr}
  {osl:Array (Option Value)}{N ps:List Str}{sp:Sp}(lk:K.lookup f=some ⟨oc,od,.func (W.fnOf name qual params body scope dV kV doc pm an cdv ct),osl⟩) (hcd:W.codeIn K cdv qual=true) (S:FnScope N ps scope)
  (len:∀vs H Q E,sp vs H Q E->vs.length=ps.length)
  (hbody:∀(A:Around) (outer:List Env) (s:Shared) (H:Hp) (vs:List V) (Q:VK) (E:XK),Room k (A.deeper (envOfC qual scope s.heap.objs.size f cdv))->sp vs H Q E →
   ∃t,PSs (cxOf CX P w K mg base N qual scope f cdv A outer s H E) body t/\t { nx:=λ_ H'=>Q .non H',rt:=Q } (start N vs) H) :
  FnOk P w K mg base CX (k+1) f (W.fnOf name qual params body scope dV kV doc pm an cdv ct) ps sp:=by
 refine⟨len,λA outer s H args us vs Q E hr e0 hb r hsp=>?_⟩;have hl:=len _ _ _ _ hsp;have KX:K.In s.heap:=e0.mod.kin.keeps λb o e=>(e0.bs b o e).1;have lim:s.heap.NoLimit:=e0.mod.nolimit.keeps λb o e=>(e0.bs b o e).1;have hkind:∀y∈ps.zip us,scope.names.lookup y.1=some .local\/(scope.names.lookup y.1=some .cell/\((cellsFrom (s.heap.objs.size+1) scope.names []).lookup y.1).isSome=true):=λ⟨n,v⟩ hy=>by
  rcases S.par n (List.of_mem_zip hy).1 with q|q
  ·exact .inl q
  ·exact .inr ⟨q,PySem.W.cellsFrom_some _ _ _ (.inl q)⟩
 refine codeAny_call_function hr.depth (KX _ _ lk) rfl S.co S.gen rfl (PySem.W.codeRec_of KX hcd) (hb _ _ _ _ ?_);refine wpAny_newFunctionEnv_cells S.kind hkind λenv he s1 x=>?_;subst he;refine⟨lim.keeps x.toInCall.keep,codeAny_func ?_⟩;obtain⟨t,ht,hq⟩:=hbody A outer s H vs Q E (hr.deeper _) hsp;have I:Inv (cxOf CX P w K mg base N qual scope f cdv A outer s H E) [] (start N vs) H s1:=Zl9 S hr.hd e0 hl r x;refine wpAny_mono (ht [] s1 (start N vs) H _ I hq) (λfl s' hs=>?_) λe s' hs=>hs;have fin:∀{σ':St}{H':Hp}{v:V}{u:Value},Inv (cxOf CX P w K mg base N qual scope f cdv A outer s H E) [] σ' H' s' -> RelV v u->Q v H' -> CE outer P w H s Q u s':=
  λ{σ' H' v u} J rv q=>⟨v,H',J.os,J.bare,J.base,J.hok,rv,q⟩
 cases fl with
 |ret u=>
  obtain⟨v,σ',H',J,rv,q⟩:=hs;exact fin J rv q
 |next=>
  obtain⟨σ',H',J,q⟩:=hs;exact fin (v:=V.non) (u:=Value.none) J rfl q
 |brk=>
  obtain⟨_,_,_,q⟩:=hs;exact False.elim q
 |cont=>
  obtain⟨_,_,_,q⟩:=hs;exact False.elim q
end L2
namespace L2
open PySem PySem.Spec PyProof.Rows
section
variable {X:Cx}{x:Str}{p pos:Pos}{e:Expr}{es:List Expr}{t:TA}{id T:String}{r:List V->Hp->VK->Prop}
def tCB (r:List V->Hp->VK->Prop) (t:TA):TE:=λσ H Q=>t σ H λvs H1=>r vs H1 Q
theorem Zaj (hc:CallR X (.builtin id) r) (hg:Gl X x) (hm:X.mg x=none) (hv:bootBuiltins x=some (.builtin id)) (ha:PA X (e::es) t) (hn:x ≠ "__name__":=by decide) (hdb:(x == ("__debug__":Str))=false:=by decide)
  (he:starEach (e::es) X.env=(false,eval e X.env)::starEach es X.env:=by rfl) (hpl:(backTo pos (starEach es X.env)).any (·.1)=false:=by rfl):PE X (.Call (.Name x p) (e::es) [] pos) (tCB r t):=by
 intro pins s σ H Q I h;refine wpAny_Call_Name_kw (Zej I hg hm hv ?_ hn hdb);exact PyProof.Rows.callWith_builtin1 (thn (ha pos pins s σ H _ I h) λus s1 ⟨vs,H1,I1,r1,q1⟩=>hc pins s1 σ H1 vs us Q I1 r1 q1) he hpl
theorem Za0 (hc:CallR X (.type T) r) (hg:Gl X x) (hm:X.mg x=none) (hv:bootBuiltins x=some (.type T)) (ha:PA X (e::es) t) (hn:x ≠ "__name__":=by decide) (hdb:(x == ("__debug__":Str))=false:=by decide)
  (he:starEach (e::es) X.env=(false,eval e X.env)::starEach es X.env:=by rfl) (hpl:(backTo pos (starEach es X.env)).any (·.1)=false:=by rfl):PE X (.Call (.Name x p) (e::es) [] pos) (tCB r t):=by
 intro pins s σ H Q I h;refine wpAny_Call_Name_kw (Zej I hg hm hv ?_ hn hdb);exact PyProof.Rows.callWith_type1 (thn (ha pos pins s σ H _ I h) λus s1 ⟨vs,H1,I1,r1,q1⟩=>hc pins s1 σ H1 vs us Q I1 r1 q1) he hpl
end
end L2
namespace HT
open PySem PyProof.Rows
def lexLt:List Int->List Int->Bool
 |[],[]=>false
 |[],_::_=>true
 |_::_,[]=>false
 |x::xs,y::ys=>if x=y then lexLt xs ys else decide (x<y)
theorem Zke (x y:Int) (xs ys:List Int):lexLt (x::xs) (y::ys)=if x=y then lexLt xs ys else decide (x<y):=rfl
theorem Zg2:lexLt [] []=false:=rfl
theorem Zfn (y:Int) (ys:List Int):lexLt [] (y::ys)=true:=rfl
theorem Zfl (x:Int) (xs:List Int):lexLt (x::xs) []=false:=rfl
theorem Znu (A:Around) (s:Shared) (a:Int) (t:Tok) (c:Int) (u:Tok):∃e,SeqAt.EqAt A s (.int a t) (.int c u) e/\(e=true↔a=c):=
 ⟨(a == c),SeqAt.EqAt.int_int a t c u,by simp⟩
theorem Znb (A:Around) (s:Shared) (a:Int) (t:Tok) (c:Int) (u:Tok) (prog:Program) (w:World) (E:Value->Shared->Prop) (Q:Value->Shared->Prop) (h:Q (.bool (decide (a<c))) s) :
  wpAny (model prog w) A (richCompare .Lt (.int a t) (.int c u)) Q E s:=
 (PyProof.Rows.lt_int h:wpAny (model prog w) A (compareOp .Lt (.int a t) (.int c u)) Q E s)
section
open PySem.SeqAt
open PySem.AutoSeq1 (wpAny_loadPart')
open PySem.MeetsSeq PySem.MeetsSeq2 PySem.MeetsSeq3
theorem tuple_lt_ints (l b:Addr) (items items2:Array Value) (n n2:Nat) (dd dd2:Option Addr) (sl sl2:Array (Option Value)) (ns ms:List Int) (hi:IntsAre items.toList ns) (hj:IntsAre items2.toList ms) :
  Meets (Builtin.«tuple.__lt__» ⟨[.ref l,.ref b],[]⟩)
   (λ_ R s=>s.heap.get? l=some { cls:=.type "tuple",dict:=dd,data:=.seq items n,slots:=sl } /\ s.heap.get? b=some { cls:=.type "tuple",dict:=dd2,data:=.seq items2 n2,slots:=sl2 } ∧
    R (.ok (.ret (.bool (lexLt ns ms)))) s):=
 .of_wp λprog w A R s h=>by
  obtain⟨hp,g,d,tk,os⟩:=s;obtain⟨hl,hb,h⟩:=h;have f2:=AutoSeq1.sub_tuple_tuple;have z1:items.size=ns.length:=by rw[<- hi.length];simp
  have z2:items2.size=ms.length:=by rw[<- hj.length];simp
  wp_walk using wpAny_loadPart' hl,wpAny_loadPart' hb,wpAny_forIn_list _ (λrest b s'=>b.1=none/\s'=⟨hp,g,d,tk,os⟩ /\ ∃(vs ws:List Value) (ns' ms':List Int),rest=vs.zip ws ∧
   IntsAre vs ns' /\ IntsAre ws ms' /\ ns'.length+items2.size=ms'.length+items.size/\R (.ok (.ret (.bool (lexLt ns' ms')))) ⟨hp,g,d,tk,os⟩) _
  case turn=>
   rintro⟨y,x⟩ rest b s' ⟨hb',rfl,vs,ws,ns',ms',hz,hvi,hwi,hlen,hR⟩;cases hvi with
   |nil=>rw[Wdt]at hz;cases hz
   |cons a t hvi'=>
    cases hwi with
    |nil=>rw[Wdp]at hz;cases hz
    |cons c u hwi'=>
     rw[Wb1]at hz;injection hz with hyx hrest
     injection hyx with hy hx
     subst hy hx;rw[Zke]at hR;simp only[Wao]at hlen;obtain⟨e,he,hiff⟩:=Znu A.in1 ⟨hp,g,d,tk,os⟩ a t c u;refine wpAny_bind (he prog w _ _ ?_);cases e with
     |true=>
      rw[if_pos (hiff.mp rfl)]at hR
      wp_walk
      exact⟨rfl,rfl,_,_,_,_,hrest,hvi',hwi',by omega,hR⟩
     |false=>
      rw[if_neg (λq=>absurd (hiff.mpr q) War)]at hR;have hri:=Znb A.in1 ⟨hp,g,d,tk,os⟩ a t c u prog w
      wp_walk using hri
      exact⟨_,rfl,by simpa using hR⟩
  case fin=>
   rintro⟨b1,b2⟩ s' ⟨hb',rfl,vs,ws,ns',ms',hz,hvi,hwi,hlen,hR⟩;simp only at hb';subst hb';have hv:lexLt ns' ms'=decide (items.size<items2.size):=by
    cases hvi with
    |nil=>
     cases hwi with
     |nil=>
      simp only[Wbz]at hlen;rw[Zg2];exact(decide_eq_false (by omega)).symm
     |cons c u hw=>
      simp only[Wbz,Wao]at hlen;rw[Zfn];exact(decide_eq_true (by omega)).symm
    |cons a t hv=>
     cases hwi with
     |nil=>
      simp only[Wbz,Wao]at hlen;rw[Zfl];exact(decide_eq_false (by omega)).symm
     |cons c u hw=>
      rw[Wb1]at hz;cases hz
   rw[hv]at hR
   wp_walk
   exact⟨_,rfl,by simpa [Builtin.Tuple.tupleCompareSizes] using hR⟩
  case h=>
   exact⟨rfl,rfl,items.toList,items2.toList,ns,ms,rfl,hi,hj,by omega,h⟩
end
section
variable {prog:Program}{w:World}{A:Around}{E:Value->Shared->Prop}{s:Shared}
theorem cat_tup {t b:Addr}{vs ws:List Value}{Q:Value->Shared->Prop}(ht:IsTup s.heap t vs.toArray) (hb:IsTup s.heap b ws.toArray) (hv:vs≠[])
  (h1:ws=[]->Q (.ref t) s) (h2:ws≠[]->Q (.ref s.heap.objs.size) { s with heap:=s.heap.push { cls:=.type "tuple",data:=.seq (vs++ws).toArray } })
  (hsz:vs.length+ws.length<=sizeLine):wpAny (model prog w) A (binaryOp .Add (.ref t) (.ref b)) Q E s:=by
 obtain⟨⟨cls,dd,data,sl⟩,ho,hc,n,hd⟩:=id ht;obtain⟨⟨cls2,dd2,data2,sl2⟩,ho2,hc2,n2,hd2⟩:=id hb;simp only at hc hd hc2 hd2;subst hc hd hc2 hd2;have e:vs.toArray++ws.toArray=(vs++ws).toArray:=by simp
 by_cases hw:ws=[]
 ·exact concat_meets ⟨_,ho,rfl⟩ ⟨_,ho2,rfl⟩ noFill_tuple_add seq_tuple_add PySem.F.slot_tuple_add PySem.F.entry_tuple_add (PySem.F.args_tuple_add_2 _ _)
   (tuple_addW1 t b vs.toArray ws.toArray n n2 dd dd2 sl sl2 (by simpa using hv) (by simp[hw])) ⟨ho,ho2,h1 hw⟩
 ·refine concat_meets ⟨_,ho,rfl⟩ ⟨_,ho2,rfl⟩ noFill_tuple_add seq_tuple_add PySem.F.slot_tuple_add PySem.F.entry_tuple_add (PySem.F.args_tuple_add_2 _ _)
   (tuple_addW2 t b vs.toArray ws.toArray n n2 dd dd2 sl sl2 (by simpa using hv) (by simpa using hw) (by rw[Wag,Wag];exact hsz)) ⟨ho,ho2,?_⟩
  rw[e];exact h2 hw
def sIx (n d:Nat):Option Int->Nat
 |none=>d
 |some v=>if v<0 then (v+(n:Int)).toNat else min v.toNat n
theorem sIx_none (n d:Nat):sIx n d none=d:=rfl
theorem sIx_nat (n d k:Nat):sIx n d (some (k:Int))=min k n:=by
 show (if (k:Int)<0 then ((k:Int)+(n:Int)).toNat else min (k:Int).toNat n)=min k n;rw[if_neg (by omega),Wah]
theorem Zsg (n d:Nat) (hd:d<=n) (o:Option Int):sIx n d o<=n:=by
 cases o with
 |none=>exact hd
 |some v=>
  show (if v<0 then (v+(n:Int)).toNat else min v.toNat n)<=n;by_cases hv:v<0
  ·rw[if_pos hv];omega
  ·rw[if_neg hv];exact Nat.min_le_right _ _
theorem Zku (v:Int) (n d:Nat):(if v<0 then max (v+(n:Int)) 0 else min v (n:Int))=((sIx n d (some v):Nat):Int):=by
 show (if v<0 then max (v+(n:Int)) 0 else min v (n:Int))=(((if v<0 then (v+(n:Int)).toNat else min v.toNat n):Nat):Int);by_cases hv:v<0
 ·simp only[if_pos hv];omega
 ·simp only[if_neg hv];omega
theorem Zj6 (lo hi:Option Int) (n:Nat):Builtin.Slice.sliceAdjust lo hi 1 (n:Int)=(((sIx n 0 lo:Nat):Int),((sIx n n hi:Nat):Int)):=by
 have h1:¬ ((1:Int)<0):=by omega
 unfold Builtin.Slice.sliceAdjust;simp only[h1,if_false];refine Prod.ext ?_ ?_
 ·cases lo with
  |none=>rfl
  |some v=>exact Zku v n 0
 ·cases hi with
  |none=>rfl
  |some v=>exact Zku v n n
theorem Zkh (i j:Nat):Builtin.Slice.slicePlaces (i:Int) (j:Int) 1=j-i:=by
 unfold Builtin.Slice.slicePlaces;have h1:(1:Int) > 0:=by omega
 simp only[h1,if_true,Int.ediv_one];split <;> omega
theorem Zc9 {v:Value}{o:Option Int}{Q:Option Int->Shared->Prop}(p:IsPart v o) (h:Q o s):wpAny (model prog w) A (Builtin.Slice.slicePartIndex v) Q E s:=by
 cases p with
 |none=>exact slicePart_none h
 |int i t=>exact slicePart_int h
theorem Zcz {sl:Addr}{vl vu:Value}{lo hi:Option Int}{n:Nat}{Q:Int × Int × Nat->Shared->Prop}(hs:s.heap.IsSliceOf sl vl vu .none) (pl:IsPart vl lo) (pu:IsPart vu hi)
  (h:Q (((sIx n 0 lo:Nat):Int),1,sIx n n hi-sIx n 0 lo) s):wpAny (model prog w) A (Builtin.Slice.sliceApplied (.ref sl) (pure (n:Int))) Q E s:=by
 obtain⟨os,hos,hcs,hds⟩:=id hs;unfold Builtin.Slice.sliceApplied Builtin.Slice.sliceFields;refine wpAny_bind (wpAny_bind (wpAny_field hos hds (x:=vl) rfl (wpAny_bind (wpAny_field hos hds (x:=vu) rfl (wpAny_bind (wpAny_field hos hds (x:=.none) rfl (wpAny_pure ?_)))))));refine wpAny_bind (slicePart_none ?_);show wpAny _ _ (if ((1:Int) == 0)=true then _ else _) _ _ s;rw[if_neg (by decide)];refine wpAny_bind (Zc9 pl (wpAny_bind (Zc9 pu (wpAny_bind (wpAny_pure ?_)))));show wpAny _ _ (match Builtin.Slice.sliceAdjust lo hi 1 (n:Int) with|(lo,hi)=>pure (lo,(1:Int),Builtin.Slice.slicePlaces lo hi 1)) _ _ s;rw[Zj6 lo hi n];show wpAny _ _ (pure (((sIx n 0 lo:Nat):Int),(1:Int),Builtin.Slice.slicePlaces ((sIx n 0 lo:Nat):Int) ((sIx n n hi:Nat):Int) 1)) _ _ s;rw[Zkh];exact wpAny_pure h
theorem Zoc (xs:Array Value) (i k:Nat):((Wau k).filterMap λ(m:Nat)=>xs[((i:Int)+(m:Int)*1).toNat]?).toArray=((xs.toList.drop i).take k).toArray:=by
 have e:(λ(m:Nat)=>xs[((i:Int)+(m:Int)*1).toNat]?)=λm=>xs[i+m]?:=by
  funext m
  have:((i:Int)+(m:Int)*1).toNat=i+m:=by omega
  rw[this]
 rw[e];have:=pick_run xs i k;rw[List.filterMap_map]at this;have e2:((λx=>xs[x]?)∘λx=>i+x)=λm=>xs[i+m]?:=rfl;rw[e2]at this;rw[this]
theorem getItem_tuple_cut {t sl:Addr}{items:Array Value}{vl vu:Value}{lo hi:Option Int}{Q:Value->Shared->Prop}(ht:IsTup s.heap t items) (hs:s.heap.IsSliceOf sl vl vu .none) (pl:IsPart vl lo) (pu:IsPart vu hi)
  (hw:¬ (sIx items.size 0 lo=0/\sIx items.size items.size hi=items.size))
  (h:Q (.ref s.heap.objs.size) { s with heap:=s.heap.push { cls:=.type "tuple",data:=.seq ((items.toList.drop (sIx items.size 0 lo)).take (sIx items.size items.size hi-sIx items.size 0 lo)).toArray } })
  (hsz:items.size<=sizeLine):wpAny (model prog w) A (getItem (.ref t) (.ref sl)) Q E s:=by
 have htake:sizeOk (.seq ((items.toList.drop (sIx items.size 0 lo)).take (sIx items.size items.size hi-sIx items.size 0 lo)).toArray):=by
  show ((items.toList.drop (sIx items.size 0 lo)).take (sIx items.size items.size hi-sIx items.size 0 lo)).toArray.size<=sizeLine;rw[Wag,Wbt,Wbu,Array.length_toList];omega
 have hj:sIx items.size items.size hi<=items.size:=Zsg _ _ (Wak _) hi;obtain⟨os,hos,hcs,hds⟩:=id hs;have hTs:s.TypeIs (.ref sl) "slice":=⟨os,hos,hcs⟩;unfold getItem
 try with_reducible refine wpAny_holding ?_
 first|refine wpAny_bind (wpAny_pure ?_)|skip
 refine wpAny_bind (wpAny_sequenceKey ht.typeIs (by decide) ?_);refine wpAny_bind (wpAny_callSpecial?_slot (name:=Str.ofString "__getitem__") ht.typeIs PyProof.Rows.slot_tuple_getitem
  (wpAny_call_entry PyProof.Rows.slot_tuple_getitem ht.typeIs entry_tuple_getitem ?_ (args_tuple_getitem _ _)))
 show wpAny _ _ (Builtin.Tuple.tupleItemsOf (.ref t) >>= _) _ _ s;refine wpAny_bind (tupleItemsOf_ ht ?_);refine wpAny_bind (wpAny_typeOf hTs ?_);rw[if_pos (by decide)];refine wpAny_bind (Zcz hs pl pu ?_);have hno:¬ ((((sIx items.size 0 lo:Nat):Int) == 0 && (1:Int) == 1 && (sIx items.size items.size hi-sIx items.size 0 lo) == items.size)=true):=by
  intro q;rw[Wcb,Wcb]at q;have q1:((sIx items.size 0 lo:Nat):Int)=0:=eq_of_beq q.1.1;have q2:sIx items.size items.size hi-sIx items.size 0 lo=items.size:=eq_of_beq q.2;exact hw ⟨by omega,by omega⟩
 show wpAny _ _ (if (((sIx items.size 0 lo:Nat):Int) == 0 && (1:Int) == 1 && (sIx items.size items.size hi-sIx items.size 0 lo) == items.size)=true then _ else _) _ _ s;rw[if_neg hno,Zoc]
 first
  |exact wpAny_bind (m:=Builtin.Tuple.tupleExact _) (wpAny_newObj_type (wpAny_pure ⟨_,rfl,wpAny_pure h⟩) htake)
  |exact wpAny_bind (m:=Builtin.Tuple.tupleExact _) (wpAny_newObj_type (wpAny_bind (wpAny_pure (wpAny_pure ⟨_,rfl,wpAny_pure h⟩))) htake)
  |exact wpAny_bind (wpAny_bind (m:=Builtin.Tuple.tupleExact _) (wpAny_newObj_type (wpAny_pure (wpAny_pure ⟨_,rfl,wpAny_pure h⟩)) htake))
  |exact wpAny_bind (wpAny_bind (m:=Builtin.Tuple.tupleExact _) (wpAny_newObj_type (wpAny_pure ⟨_,rfl,wpAny_pure h⟩) htake))
end
end HT
namespace L2
open PySem PySem.Spec PyProof.Rows
abbrev TO:=St->Hp->(Option Int->Hp->Prop)->Prop
def PO (X:Cx) (e:Option Expr) (t:TO):Prop:=
 ∀(pins:List (Addr × Obj)) (s:Shared) (σ:St) (H:Hp) (Q:Option Int->Hp->Prop),Inv X pins σ H s->t σ H Q →
  wpAny (model X.prog X.w) X.A (evalPart e X.env) (λu s'=>∃o H',Inv X pins σ H' s' /\ IsPart u o/\Q o H') X.xe s
def tNoPart:TO:=λ_ H Q=>Q none H
def tPart (t:TE):TO:=λσ H Q=>t σ H λx H1=>∃i,x=.int i/\Q (some i) H1
theorem Zck {ns:List Int}:∀{us:List Value},Vals (ns.map V.int) us->IntsAre us ns:=by
 induction ns with
 |nil=>intro us r;rw[List.map_nil]at r;cases r;exact .nil
 |cons n ns ih=>
  intro us r;rw[Wbe]at r;cases r with
  |cons r1 r2=>
   obtain⟨t,e⟩:=r1;subst e;exact .cons n t (ih r2)
section
variable {X:Cx}{e:Expr}{te:TE}{lo hi:Option Expr}{tl th:TO}{pos p2:Pos}
theorem Zgg:PO X none tNoPart:=by
 intro pins s σ H Q I h;rw[evalPart_none];exact wpAny_pure ⟨none,H,I,.none,h⟩
theorem Zef (h:PE X e te):PO X (some e) (tPart te):=by
 intro pins s σ H Q I hw;rw[evalPart_some];refine thn (h pins s σ H _ I hw) λu s1 ⟨x,H1,I1,r1,q1⟩=>?_;obtain⟨i,rfl,q⟩:=q1;obtain⟨t,rfl⟩:=r1;exact⟨some i,H1,I1,.int i t,q⟩
def SlR (X:Cx) (r:V->Option Int->Option Int->Hp->VK->Prop):Prop:=
 ∀(pins:List (Addr × Obj)) (s:Shared) (σ:St) (H:Hp) (x:V) (v vl vu:Value) (lo hi:Option Int) (sl:Addr) (Q:VK),Inv X pins σ H s->RelV x v->s.heap.IsSliceOf sl vl vu .none->IsPart vl lo->IsPart vu hi->r x lo hi H Q →
  ∃T id,typeLookup (.type T) "__getitem__" = pure (some (.builtin id))/\s.TypeIs v T/\wpAny (model X.prog X.w) X.A (getItem v (.ref sl)) (EP X pins σ Q) X.xe s
theorem SlR.or {r r':V->Option Int->Option Int->Hp->VK->Prop}(h:SlR X r) (h':SlR X r'):SlR X (λx lo hi H Q=>r x lo hi H Q\/r' x lo hi H Q):=by
 intro pins s σ H x v vl vu lo hi sl Q I rx hs pl pu q;rcases q with q|q
 ·exact h pins s σ H x v vl vu lo hi sl Q I rx hs pl pu q
 ·exact h' pins s σ H x v vl vu lo hi sl Q I rx hs pl pu q
def tSl (r:V->Option Int->Option Int->Hp->VK->Prop) (te:TE) (tl th:TO):TE:=λσ H Q=>te σ H λx H1=>tl σ H1 λl H2=>th σ H2 λu H3=>r x l u H3 Q
theorem Zeq {r:V->Option Int->Option Int->Hp->VK->Prop}(hr:SlR X r) (he:PE X e te) (hl:PO X lo tl) (hu:PO X hi th):PE X (.Subscript e (.Slice lo hi none p2) pos) (tSl r te tl th):=by
 intro pins s σ H Q I h;refine Subscript_ (thn (he pins s σ H _ I h) λv s1 ⟨x,H1,I1,r1,q1⟩=>?_);refine wpAny_Slice (thn (hl pins s1 σ H1 _ I1 q1) λvl s2 ⟨l,H2,I2,pl,q2⟩=>thn (hu pins s2 σ H2 _ I2 q2) λvu s3 ⟨u,H3,I3,pu,q3⟩=>?_);rw[evalPart_none];refine wpAny_pure ?_;have I4:Inv X pins σ H3 { s3 with heap:=s3.heap.push { cls:=.type "slice",data:=.fields #[vl,vu,.none] } }:=I3.kept (t':=s3.toks) λb ob q=>Wae _ q;obtain⟨T,id,hT,ht,hg⟩:=hr pins { s3 with heap:=s3.heap.push { cls:=.type "slice",data:=.fields #[vl,vu,.none] } } σ H3 x v vl vu l u s3.heap.objs.size Q I4 r1 (Heap.IsSliceOf.new ..) pl pu q3;show wpAny (model X.prog X.w) X.A (subscriptTail e (.Slice lo hi none p2) v (.ref s3.heap.objs.size)) (EP X pins σ Q) X.xe { s3 with heap:=s3.heap.push { cls:=.type "slice",data:=.fields #[vl,vu,.none] } };exact tail_any (ops:=[.ref s3.heap.objs.size,v]) ht hT hg (by with_unfolding_all rfl)
def cutV (xs:List V) (lo hi:Option Int):List V:=(xs.drop (HT.sIx xs.length 0 lo)).take (HT.sIx xs.length xs.length hi-HT.sIx xs.length 0 lo)
theorem Ze1 (xs:List V) (lo hi:Option Int):(cutV xs lo hi).length<=xs.length:=by
 unfold cutV;rw[Wbt,Wbu];omega
def rSlT (K:W.Frag):V->Option Int->Option Int->Hp->VK->Prop:=λx lo hi H Q=>∃a xs,x=.ref a/\SqT K H a xs ∧
 ¬ (HT.sIx xs.length 0 lo=0/\HT.sIx xs.length xs.length hi=xs.length)/\∀p,H p=none->Q (.ref p) (upd H p (.tup (cutV xs lo hi)))
theorem Zrz:SlR X (rSlT X.K):=by
 intro pins s σ H x v vl vu lo hi sl Q I rx hs pl pu h;obtain⟨a,xs,rfl,hx,hw,q⟩:=h;cases rx;obtain⟨its,r,ht,hz⟩:=I.tuple hx;have hlen:its.toArray.size=xs.length:=by rw[Wag];exact r.length.symm
 refine⟨"tuple",_,PyProof.Rows.slot_tuple_getitem.lookup,ht.typeIs,?_⟩;refine HT.getItem_tuple_cut ht hs pl pu (by rw[hlen];exact hw) ?_ (by rw[hlen];exact hz);rw[hlen];refine⟨.ref s.heap.objs.size,_,I.laid (t':=s.toks) (o:=.tup (cutV xs lo hi)) (λb ob q=>Wae _ q) (Wak _) ?_,rfl,q _ (I.hok.fresh (Wak _))⟩;exact⟨Wbl (Ze1 xs lo hi) hz,_,(r.drop (HT.sIx xs.length 0 lo)).take (HT.sIx xs.length xs.length hi-HT.sIx xs.length 0 lo),IsTupN.new _ _⟩
def rCatT (K:W.Frag):R2:=λx y H Q=>∃a b xs ys,x=.ref a/\y=.ref b/\SqT K H a xs/\SqT K H b ys/\xs≠[]/\xs.length+ys.length<=sizeLine ∧
 (ys=[]->Q (.ref a) H)/\(ys≠[]->∀p,H p=none->Q (.ref p) (upd H p (.tup (xs++ys))))
theorem Vals.nil_iff {xs:List V}{us:List Value}(r:Vals xs us):us=[]↔xs=[]:=by
 cases r with
 |nil=>simp
 |cons _ _=>simp
theorem Zqc:OpR X (binaryOp .Add) (rCatT X.K):=by
 intro pins s σ H x y v u Q I rx ry h;obtain⟨a,b,xs,ys,rfl,rfl,ha,hb,hx,hz,q1,q2⟩:=h;cases rx;cases ry;obtain⟨its,r1,p1,_⟩:=I.tuple ha;obtain⟨its2,r2,p2,_⟩:=I.tuple hb;refine HT.cat_tup p1 p2 (λz=>hx (r1.nil_iff.mp z)) (λz=>⟨.ref a,H,I,rfl,q1 (r2.nil_iff.mp z)⟩) (λz=>?_) (by rw[<- r1.length,<- r2.length];exact hz);refine⟨.ref s.heap.objs.size,_,I.laid (t':=s.toks) (o:=.tup (xs++ys)) (λb ob q=>Wae _ q) (Wak _) ?_,rfl,q2 (λw=>z (r2.nil_iff.mpr w)) _ (I.hok.fresh (Wak _))⟩;exact⟨by rw[Waw];exact hz,_,r1.append r2,IsTupN.new _ _⟩
end
end L2
namespace L2
open PySem PySem.Spec PyProof.Rows
def ixN (n:Nat) (i:Int):Option Nat:=if 0<=i then (if i<n then some i.toNat else none) else if -(n:Int)<=i then some (i+n).toNat else none
def atI {α:Type}(xs:List α) (i:Int):Option α:=(ixN xs.length i).bind λj=>xs[j]?
theorem Zmm {n:Nat}{i:Int}{j:Nat}(h:ixN n i=some j):seqIndex? i n=some j/\j<n /\ -(n:Int)<=i/\i<n:=by
 unfold ixN at h;by_cases h0:0<=i
 ·rw[if_pos h0]at h
  by_cases h1:i<n
  ·rw[if_pos h1]at h
   have e:i.toNat=j:=Wa7.inj h;exact⟨by rw[seqIndex_of h0 h1,e],by omega,by omega,h1⟩
  ·rw[if_neg h1]at h;cases h
 ·rw[if_neg h0]at h
  by_cases h1:-(n:Int)<=i
  ·rw[if_pos h1]at h
   have e:(i+n).toNat=j:=Wa7.inj h;exact⟨by rw[seqIndex_neg (by omega) h1,e],by omega,h1,by omega⟩
  ·rw[if_neg h1]at h;cases h
theorem Zi3 {α:Type}{xs:List α}{i:Int}{v:α}(h:atI xs i=some v):∃j,seqIndex? i xs.length=some j/\xs[j]?=some v/\j<xs.length /\ -(xs.length:Int)<=i/\i<xs.length:=by
 unfold atI at h;cases e:ixN xs.length i with
 |none=>rw[e]at h;cases h
 |some j=>
  rw[e]at h;obtain⟨h1,h2,h3,h4⟩:=Zmm e;exact⟨j,h1,h,h2,h3,h4⟩
theorem Zbi {α:Type}{xs:List α}{j:Nat}{v:α}(h:xs[j]?=some v):atI xs (j:Int)=some v:=by
 have hj:j<xs.length:=(Waf.mp h).1;have e:ixN xs.length (j:Int)=some j:=by
  unfold ixN;rw[if_pos (by omega),if_pos (by omega)];simp
 unfold atI;rw[e];exact h
def PlainIx (b:Expr):Prop:=∀o i,subscripted b false o i=operate [o,i] (getItem o i)
def IxR (X:Cx) (r:R2):Prop:=
 ∀(value slice:Expr) (pins:List (Addr × Obj)) (s:Shared) (σ:St) (H:Hp) (x y:V) (v u:Value) (Q:VK),Inv X pins σ H s->RelV x v->RelV y u->r x y H Q →
  subscripted slice false v u=operate [v,u] (getItem v u)->wpAny (model X.prog X.w) X.A (subscriptTail value slice v u) (EP X pins σ Q) X.xe s
def MtR (X:Cx) (id:String) (r:V->List V->Hp->VK->Prop):Prop:=
 ∀(pins:List (Addr × Obj)) (s:Shared) (σ:St) (H:Hp) (x:V) (xs:List V) (v:Value) (us:List Value) (Q:VK),Inv X pins σ H s->RelV x v->Vals xs us->r x xs H Q →
  wpAny (model X.prog X.w) X.A (call (.builtin id) (v::us)) (EP X pins σ Q) X.xe s
section
variable {X:Cx}{a b:Expr}{ta tb:TE}{pos:Pos}
theorem IxR.or {r r':R2}(h:IxR X r) (h':IxR X r'):IxR X (λx y H Q=>r x y H Q\/r' x y H Q):=by
 intro value slice pins s σ H x y v u Q I rx ry q hs;rcases q with q|q
 ·exact h value slice pins s σ H x y v u Q I rx ry q hs
 ·exact h' value slice pins s σ H x y v u Q I rx ry q hs
theorem Zan {r:R2}(hr:IxR X r) (ha:PE X a ta) (hb:PE X b tb) (hs:PlainIx b):PE X (.Subscript a b pos) (tOp r ta tb):=by
 intro pins s σ H Q I h;exact Subscript_ (binT ha hb I h λv u s2 x y H2 I2 rx ry q=>hr a b pins s2 σ H2 x y v u Q I2 rx ry q (hs _ _))
def rIxL (K:W.Frag):R2:=λx y H Q=>∃p xs i v,x=.ref p/\y=.int i/\SqL K H p xs/\atI xs i=some v/\Q v H
def rIxT (K:W.Frag):R2:=λx y H Q=>∃p xs i v,x=.ref p/\y=.int i/\SqT K H p xs/\atI xs i=some v/\Q v H
def rIxS:R2:=λx y H Q=>∃z i c,x=.str z/\y=.int i/\z.length<=sizeLine/\atI z.cps.toList i=some c/\Q (.str ⟨#[c]⟩) H
theorem Zp0:IxR X (rIxL X.K):=by
 intro value slice pins s σ H x y v u Q I rx ry h hs;obtain⟨p,xs,i,z,rfl,rfl,hq,he,q⟩:=h;cases rx;obtain⟨t,rfl⟩:=ry;obtain⟨its,r,pl,hz⟩:=I.list hq;obtain⟨j,h1,h2,h3,h4,h5⟩:=Zi3 he;obtain⟨w,ew,rw'⟩:=r.get h2;have hl:=r.length;have hn:=line63;have fin:EP X pins σ Q w s:=⟨z,H,I,rw',q⟩;by_cases h0:0<=i
 ·have hj:i.toNat=j:=by
   rw[seqIndex_of h0 h5]at h1;exact Wa7.inj h1
  exact item_listR pl.isList h0 (by omega) (by rw[hj];simpa using ew) fin hs
 ·have hj:(i+(its.toArray.size:Int)).toNat=j:=by
   rw[seqIndex_neg (by omega) h4]at h1;rw[Wag,<- hl];exact Wa7.inj h1
  exact subscriptTail_builtinR (x:=w) pl.isList.typeIs slot_list_getitem.lookup
   (wpAny_getItem_list_neg (Q:=λr s'=>r=w/\EP X pins σ Q r s') pl.isList (by omega) (by rw[Wag] <;> omega) (by omega) (by rw[hj];simpa using ew) ⟨rfl,fin⟩) hs
theorem Zs3:IxR X (rIxT X.K):=by
 intro value slice pins s σ H x y v u Q I rx ry h hs;obtain⟨p,xs,i,z,rfl,rfl,hq,he,q⟩:=h;cases rx;obtain⟨t,rfl⟩:=ry;obtain⟨its,r,pl,hz⟩:=I.tuple hq;obtain⟨j,h1,h2,h3,h4,h5⟩:=Zi3 he;obtain⟨w,ew,rw'⟩:=r.get h2;have hl:=r.length;have hn:=line63;have fin:EP X pins σ Q w s:=⟨z,H,I,rw',q⟩;exact subscriptTail_builtinR (x:=w) pl.typeIs slot_tuple_getitem.lookup
  (getItem_tuple (j:=j) (Q:=λr s'=>r=w/\EP X pins σ Q r s') pl (by omega) (by omega) (by rw[Wag,<- hl];exact h1) (by simpa using ew) ⟨rfl,fin⟩) hs
theorem Zs1:IxR X rIxS:=by
 intro value slice pins s σ H x y v u Q I rx ry h hs;obtain⟨z,i,c,rfl,rfl,hz,he,q⟩:=h;obtain⟨t,rfl⟩:=rx;obtain⟨t',rfl⟩:=ry;obtain⟨j,h1,h2,h3,h4,h5⟩:=Zi3 he;have hl:z.cps.toList.length=z.length:=by simp[Str.length]
 rw[hl]at h1 h4 h5;have hn:=line63;exact tail_any (typeIs_str s z t) slot_str_getitem.lookup (getItem_str (c:=c) (by
  have e1:decide (i < -(2 ^ 63:Int))=false:=decide_eq_false (by omega);have e2:decide (i ≥ 2 ^ 63)=false:=decide_eq_false (by omega);rw[e1,e2,Bool.or_false]) (by rw[h1];simpa using h2) ⟨.str ⟨#[c]⟩,H,I.tok _,⟨_,rfl⟩,q⟩) hs
def rIx (K:W.Frag):R2:=λx y H Q=>rIxL K x y H Q\/rIxT K x y H Q\/rIxS x y H Q
theorem Zsr:IxR X (rIx X.K):=Zp0.or (Zs3.or Zs1)
theorem Zkq (its:List Value) (n j:Nat) (u:Value):Obj.mapSeq (·.setIfInBounds j u) { cls:=.type "list",data:=.seq its.toArray n } = { cls:=.type "list",data:=.seq (its.set j u).toArray n }:=by
 simp[Obj.mapSeq]
theorem Inv.lst {pins:List (Addr × Obj)}{σ:St}{H:Hp}{s:Shared}{p:Addr}{xs:List V}(I:Inv X pins σ H s) (h:H p=some (.lst xs)) :
  ∃(its:List Value) (n:Nat),Vals xs its/\s.heap.get? p=some { cls:=.type "list",data:=.seq its.toArray n } /\ xs.length<=sizeLine:=by
 obtain⟨z,its,n,r,e⟩:=I.hok p _ h;exact⟨its,n,r,e,z⟩
theorem Inv.lstUpd {pins:List (Addr × Obj)}{σ:St}{H:Hp}{s:Shared}{p:Addr}{xs ys:List V}{its its':List Value}{n n':Nat}{f:Obj->Obj}(I:Inv X pins σ H s) (h:H p=some (.lst xs))
  (ho:s.heap.get? p=some { cls:=.type "list",data:=.seq its.toArray n }) (hf:f { cls:=.type "list",data:=.seq its.toArray n } = { cls:=.type "list",data:=.seq its'.toArray n' }) (r:Vals ys its') (hz:ys.length<=sizeLine) (t:Nat) :
  Inv X pins σ (upd H p (.lst ys)) { s with heap:=s.heap.update p f,toks:=t }:=by
 have e:(s.heap.update p f).get? p=some { cls:=.type "list",data:=.seq its'.toArray n' }:=by
  rw[Wcc f ho (by rw[hf] <;> rfl),hf]
 refine I.write (x:=p) (e:=p) (by rw[h];trivial) (.inl rfl) (λb u hb q=>(Wbk _ _ (Ne.symm hb)).trans q) ⟨_,e⟩ ?_;exact⟨hz,its',n',r,e⟩
def rSetL:V->V->V->Hp->(Hp->Prop)->Prop:=λo i v H Q=>∃p xs k j,o=.ref p/\i=.int k/\H p=some (.lst xs)/\ixN xs.length k=some j/\Q (upd H p (.lst (xs.set j v)))
theorem Zoz:PSet X rSetL:=by
 intro pins s σ H o i v ov iv u Q I ro ri rv h;obtain⟨p,xs,k,j,rfl,rfl,hp,hj,q⟩:=h;cases ro;obtain⟨t,rfl⟩:=ri;obtain⟨its,n,r,ho,hz⟩:=I.lst hp;obtain⟨h1,h2,h3,h4⟩:=Zmm hj;have hl:=r.length;have hn:=line63;have I':Inv X pins σ (upd H p (.lst (xs.set j v))) { s with heap:=s.heap.update p (Obj.mapSeq (·.setIfInBounds j u)) }:=
  I.lstUpd hp ho (Zkq its n j u) (r.set rv j) (by rw[Wbs];exact hz) s.toks
 by_cases h0:0<=k
 ·have hk:k.toNat=j:=by
   rw[seqIndex_of h0 h4]at h1;exact Wa7.inj h1
  exact PySem.W.ki_setAt ho h0 (by omega) (by rw[Wag,<- hl];exact h4) (by rw[hk];exact⟨_,I',q⟩)
 ·have hk:(k+(its.toArray.size:Int)).toNat=j:=by
   rw[seqIndex_neg (by omega) h3]at h1;rw[Wag,<- hl];exact Wa7.inj h1
  exact PySem.W.ki_setBack ho (by omega) (by rw[Wag,<- hl];exact h3) (by omega) (by rw[hk];exact⟨_,I',q⟩)
theorem Zh4 (lo hi:Option Int) (n:Nat):(sliceBounds lo hi none n).1=((HT.sIx n 0 lo:Nat):Int)/\(sliceBounds lo hi none n).2.1=((HT.sIx n n hi:Nat):Int)/\(sliceBounds lo hi none n).2.2=1:=by
 refine⟨?_,?_,rfl⟩
 ·cases lo with
  |none=>simp[sliceBounds,HT.sIx]
  |some i=>
   simp only[sliceBounds,HT.sIx,Option.getD_none,show (1:Int) > 0 by decide,if_true];by_cases h:i<0
   ·simp only[h,if_true] <;> omega
   ·simp only[h,if_false] <;> omega
 ·cases hi with
  |none=>simp[sliceBounds,HT.sIx]
  |some i=>
   simp only[sliceBounds,HT.sIx,Option.getD_none,show (1:Int) > 0 by decide,if_true];by_cases h:i<0
   ·simp only[h,if_true] <;> omega
   ·simp only[h,if_false] <;> omega
theorem Zgv (its:List Value) (lo hi:Option Int):slicePick its.toArray lo hi none=((its.drop (HT.sIx its.length 0 lo)).take (HT.sIx its.length its.length hi-HT.sIx its.length 0 lo)).toArray:=by
 obtain⟨h1,h2,h3⟩:=Zh4 lo hi its.toArray.size;unfold slicePick;rw[h1,h2,h3];simp only[sliceRange_one,pick_run,Wag] <;> rfl
def rSlL (K:W.Frag):V->Option Int->Option Int->Hp->VK->Prop:=λx lo hi H Q=>∃a xs,x=.ref a/\SqL K H a xs/\∀p,H p=none->Q (.ref p) (upd H p (.lst (cutV xs lo hi)))
theorem Zq4:SlR X (rSlL X.K):=by
 intro pins s σ H x v vl vu lo hi sl Q I rx hs pl pu h;obtain⟨a,xs,rfl,hx,q⟩:=h;cases rx;obtain⟨its,r,ht,hz⟩:=I.list hx;have hlen:=r.length;refine⟨"list",_,slot_list_getitem.lookup,ht.isList.typeIs,?_⟩;refine wpAny_getItem_list_slice ht.isList hs pl pu .none (by simp) ?_ (by rw[Wag] <;> omega)
 rw[Zgv,<- hlen];refine⟨.ref s.heap.objs.size,_,I.laid (t':=s.toks) (o:=.lst (cutV xs lo hi)) (λb ob q=>Wae _ q) (Wak _) ?_,rfl,q _ (I.hok.fresh (Wak _))⟩;exact⟨Wbl (Ze1 xs lo hi) hz,_,0,(r.drop (HT.sIx xs.length 0 lo)).take (HT.sIx xs.length xs.length hi-HT.sIx xs.length 0 lo),Waq _ rfl⟩
def flatV:V->Bool
 |.non=>true
 |.bl _=>true
 |.int _=>true
 |.str _=>true
 |_=>false
def eqV:V->V->Bool
 |.non,.non=>true
 |.bl a,.bl b=>a == b
 |.bl a,.int b=>(if a then 1 else 0) == b
 |.int a,.bl b=>a == (if b then 1 else 0)
 |.int a,.int b=>a == b
 |.str a,.str b=>a == b
 |_,_=>false
theorem Zo2 {A:Around}{s:Shared}{y x:V}{u v:Value}(ry:RelV y u) (rx:RelV x v) (fy:flatV y=true) (fx:flatV x=true):SeqAt.EqAt A s u v (eqV y x):=by
 cases y with
 |non=>
  cases ry;cases x with
  |non=>cases rx;exact SeqAt.EqAt.same _
  |bl b=>cases rx;exact SeqAt.EqAt.none_bool b
  |int b=>obtain⟨t,rfl⟩:=rx;exact SeqAt.EqAt.none_int b t
  |str b=>obtain⟨t,rfl⟩:=rx;exact SeqAt.EqAt.none_str b t
  |_=>exact absurd (show false=true from fx) War
 |bl a=>
  cases ry;cases x with
  |non=>cases rx;exact SeqAt.EqAt.bool_none a
  |bl b=>cases rx;exact SeqAt.EqAt.bool_bool a b
  |int b=>obtain⟨t,rfl⟩:=rx;exact SeqAt.EqAt.bool_int a b t
  |str b=>obtain⟨t,rfl⟩:=rx;exact SeqAt.EqAt.bool_str a b t
  |_=>exact absurd (show false=true from fx) War
 |int a=>
  obtain⟨t',rfl⟩:=ry;cases x with
  |non=>cases rx;exact SeqAt.EqAt.int_none a t'
  |bl b=>cases rx;exact SeqAt.EqAt.int_bool a t' b
  |int b=>obtain⟨t,rfl⟩:=rx;exact SeqAt.EqAt.int_int a t' b t
  |str b=>obtain⟨t,rfl⟩:=rx;exact SeqAt.EqAt.int_str a t' b t
  |_=>exact absurd (show false=true from fx) War
 |str a=>
  obtain⟨t',rfl⟩:=ry;cases x with
  |non=>cases rx;exact SeqAt.EqAt.str_none a t'
  |bl b=>cases rx;exact SeqAt.EqAt.str_bool a t' b
  |int b=>obtain⟨t,rfl⟩:=rx;exact SeqAt.EqAt.str_int a t' b t
  |str b=>obtain⟨t,rfl⟩:=rx;exact SeqAt.EqAt.str_str a t' b t
  |_=>exact absurd (show false=true from fx) War
 |_=>exact absurd (show false=true from fy) War
def eqU (x:V) (u:Value):Bool:=match u with
 |.none=>eqV .non x
 |.bool b=>eqV (.bl b) x
 |.int i _=>eqV (.int i) x
 |.str z _=>eqV (.str z) x
 |_=>false
theorem Zjt {x y:V}{u:Value}(r:RelV y u) (f:flatV y=true):eqU x u=eqV y x:=by
 cases y with
 |non=>cases r;rfl
 |bl b=>cases r;rfl
 |int i=>obtain⟨t,rfl⟩:=r;rfl
 |str z=>obtain⟨t,rfl⟩:=r;rfl
 |_=>exact absurd (show false=true from f) War
theorem Ziw {x:V}:∀{xs:List V}{us:List Value},Vals xs us->xs.all flatV=true->us.any (eqU x)=xs.any λy=>eqV y x
 |_,_,.nil,_=>rfl
 |y::xs,u::us,.cons r t,f=>by
  rw[Wdd,Wcb]at f;rw[Wc4,Wc4,Zjt r f.1,Ziw t f.2]
theorem Zgc {A:Around}{s:Shared}{x:V}{v:Value}(rx:RelV x v) (fx:flatV x=true):∀{xs:List V}{us:List Value},Vals xs us->xs.all flatV=true->∀u∈us,SeqAt.EqAt A s u v (eqU x u)
 |_,_,.nil,_=>λu hu=>by cases hu
 |y::xs,u::us,.cons r t,f=>λu' hu=>by
  rw[Wdd,Wcb]at f;rcases Wat.mp hu with rfl|hu
  ·rw[Zjt r f.1];exact Zo2 r rx f.1 fx
  ·exact Zgc rx fx t f.2 u' hu
def inV (x:V) (xs:List V):Bool:=xs.any λy=>eqV y x
def rIn (K:W.Frag) (neg:Bool):R2:=λx y H Q=>∃p xs,y=.ref p/\(SqL K H p xs\/SqT K H p xs)/\flatV x=true/\xs.all flatV=true/\Q (.bl (if neg then !inV x xs else inV x xs)) H
theorem Zh0:OpR X (compareOp .NotIn) (rIn X.K true):=by
 intro pins s σ H x y v u Q I rx ry h;obtain⟨p,xs,rfl,hq,fx,fs,q⟩:=h;cases ry;rcases hq with hq|hq
 ·obtain⟨its,r,pl,hz⟩:=I.list hq
  refine SeqAt.notIn_listAt (eqU x) pl.isList (λw hw=>Zgc rx fx r fs w (by simpa using hw)) ⟨.bl _,H,I,rfl,?_⟩;rw[show its.toArray.any (eqU x)=its.any (eqU x) by simp,Ziw r fs];exact q
 ·obtain⟨its,r,pl,hz⟩:=I.tuple hq
  refine SeqAt.notIn_tupleAt (eqU x) pl (λw hw=>Zgc rx fx r fs w (by simpa using hw)) ⟨.bl _,H,I,rfl,?_⟩;rw[show its.toArray.any (eqU x)=its.any (eqU x) by simp,Ziw r fs];exact q
theorem Zic:CallR X (.builtin "len") (λxs H Q=>∃p ys,xs=[.ref p]/\(SqL X.K H p ys\/SqT X.K H p ys)/\Q (.int ys.length) H):=by
 intro pins s σ H xs us Q I r h;obtain⟨p,ys,rfl,hq,q⟩:=h;obtain⟨u,rfl,rx⟩:=vals1 r;cases rx;have hn:=line63;rcases hq with hq|hq
 ·obtain⟨its,r',pl,hz⟩:=I.list hq
  have hlen:=r'.length;exact Calls.call_len_list pl.isList (by simp only[Wag] <;> omega) ⟨.int ys.length,H,I.tok _,⟨s.toks+1,by rw[Wag,hlen]⟩,q⟩
 ·obtain⟨its,r',pl,hz⟩:=I.tuple hq
  have hlen:=r'.length;exact len_tuple pl (by simp only[Wag] <;> omega) ⟨.int ys.length,H,I.tok _,⟨s.toks+1,by rw[Wag,hlen]⟩,q⟩
theorem CallR.or {f:Value}{r r':List V->Hp->VK->Prop}(h:CallR X f r) (h':CallR X f r'):CallR X f (λxs H Q=>r xs H Q\/r' xs H Q):=by
 intro pins s σ H xs us Q I rs q;rcases q with q|q
 ·exact h pins s σ H xs us Q I rs q
 ·exact h' pins s σ H xs us Q I rs q
theorem Zhl:CallR X (.type "list") (λxs H Q=>∃p ys,xs=[.ref p]/\(SqL X.K H p ys\/SqT X.K H p ys)/\∀l,H l=none->Q (.ref l) (upd H l (.lst ys))):=by
 intro pins s σ H xs us Q I r h;obtain⟨p,ys,rfl,hq,q⟩:=h;obtain⟨u,rfl,rx⟩:=vals1 r;cases rx;have fin:∀(its:List Value),Vals ys its->ys.length<=sizeLine->∀(h':Heap) (c':Nat),(∀b o',s.heap.get? b=some o' -> h'.get? b=some o') →
   h'.get? s.heap.objs.size=some { cls:=.type "list",dict:=none,data:=.seq its.toArray c',slots:=#[] } -> EP X pins σ Q (.ref s.heap.objs.size) { s with heap:=h' }:=λits r' hz h' c' kp e=>
  ⟨.ref s.heap.objs.size,_,I.laid (t':=s.toks) kp (Wak _) (show ObjOk X.prog X.w _ h' _ (.lst ys) from ⟨hz,its,c',r',e⟩),rfl,q _ (I.hok.fresh (Wak _))⟩
 rcases hq with hq|hq
 ·obtain⟨its,r',pl,hz⟩:=I.list hq
  have hlen:=r'.length;obtain⟨o,ho,hc,n,hd⟩:=pl.isList;exact call_list_seq p (.inl rfl) ho hc hd (λh' c' kp e=>fin its r' hz h' c' kp e) (by simp only[Wag] <;> omega)
 ·obtain⟨its,r',pl,hz⟩:=I.tuple hq
  have hlen:=r'.length;obtain⟨o,ho,hc,n,hd⟩:=pl;exact call_list_seq p (.inr rfl) ho hc hd (λh' c' kp e=>fin its r' hz h' c' kp e) (by simp only[Wag] <;> omega)
theorem Zhi:CallR X (.type "tuple") (λxs H Q=>∃p ys,xs=[.ref p]/\((SqL X.K H p ys/\∀l,H l=none->Q (.ref l) (upd H l (.tup ys)))\/(SqT X.K H p ys/\Q (.ref p) H))):=by
 intro pins s σ H xs us Q I r h;obtain⟨p,ys,rfl,h⟩:=h;obtain⟨u,rfl,rx⟩:=vals1 r;cases rx;rcases h with ⟨hq,q⟩|⟨hq,q⟩
 ·obtain⟨its,r',pl,hz⟩:=I.list hq
  have hlen:=r'.length;refine call_tuple_list pl.isList (λh' kp=>?_) (by simp only[Wag] <;> omega)
  have I1:Inv X pins σ H { s with heap:=h' }:=I.kept (t':=s.toks) kp;have I2:Inv X pins σ (upd H h'.objs.size (.tup ys)) { s with heap:=h'.push { cls:=.type "tuple",data:=.seq its.toArray } }:=
   I1.laid (t':=s.toks) (λb o e=>Wae _ e) (Wak _) (show ObjOk X.prog X.w _ _ _ (.tup ys) from ⟨hz,its,r',IsTupN.new _ _⟩)
  exact⟨.ref h'.objs.size,_,I2,rfl,q _ (I1.hok.fresh (Wak _))⟩
 ·obtain⟨its,r',pl,hz⟩:=I.tuple hq
  exact call_tuple_same pl ⟨.ref p,H,I,rfl,q⟩
def tyV (K:W.Frag) (T:String) (x:V) (H:Hp):Prop:=match x with
 |.str _=>T = "str"
 |.int _=>T = "int"
 |.ref p=>(T = "list" /\ ∃xs,SqL K H p xs)\/(T = "tuple" /\ ((∃o,K.lookup p=some o/\o.cls=.type "tuple" /\ o.dict=none)\/∃xs,H p=some (.tup xs))) ∨
   (T = "dict" /\ ((∃kvs,H p=some (.dK kvs))\/∃kvs,H p=some (.dT kvs)))\/(T = "set" /\ ∃S n,H p=some (.set S n))
 |_=>False
theorem Zpf {pins:List (Addr × Obj)}{σ:St}{H:Hp}{s:Shared}{T:String}{x:V}{v:Value}(I:Inv X pins σ H s) (r:RelV x v) (ty:tyV X.K T x H) :
  s.TypeIs v T/\∀a,v=.ref a->∃ob,s.heap.get? a=some ob/\ob.dict=none:=by
 cases x with
 |str z=>
  obtain⟨t,rfl⟩:=r;cases (show T = "str" from ty);exact⟨typeIs_str s z t,λ_ e=>nomatch e⟩
 |int i=>
  obtain⟨t,rfl⟩:=r;cases (show T = "int" from ty);exact⟨typeIs_int s i t,λ_ e=>nomatch e⟩
 |ref p=>
  cases r;rcases ty with ⟨rfl,xs,hq⟩|⟨rfl,(⟨o,hk,hc,hd⟩|⟨xs,hk⟩)⟩|⟨rfl,hk⟩|⟨rfl,S,n,hk⟩
  ·obtain⟨its,_,pl,_⟩:=I.list hq
   refine⟨pl.isList.typeIs,λa e=>?_⟩;cases e;obtain⟨o,n,e,c,hd,_⟩:=pl;exact⟨o,e,hd⟩
  ·refine⟨⟨o,I.kIn p o hk,hc⟩,λa e=>?_⟩
   cases e;exact⟨o,I.kIn _ o hk,hd⟩
  ·obtain⟨_,_,_,o,e,⟨hc,_⟩,hd⟩:=I.hok p _ hk
   refine⟨⟨o,e,hc⟩,λa e2=>?_⟩;cases e2;exact⟨o,e,hd⟩
  ·have z:∃o,s.heap.get? p=some o/\o.ExactDict:=by
    rcases hk with ⟨kvs,hk⟩|⟨kvs,hk⟩
    ·obtain⟨_,_,_,_,o,_,_,e,ex,_⟩:=I.hok p _ hk
     exact⟨o,e,ex⟩
    ·obtain⟨_,_,_,_,o,_,_,e,ex,_⟩:=I.hok p _ hk
     exact⟨o,e,ex⟩
   obtain⟨o,e,ex⟩:=z;refine⟨⟨o,e,ex.1⟩,λa e2=>?_⟩;cases e2;exact⟨o,e,ex.2.1⟩
  ·obtain⟨o,_,_,_,e,ex,_⟩:=I.hok p _ hk
   refine⟨⟨o,e,ex.1⟩,λa e2=>?_⟩;cases e2;exact⟨o,e,ex.2.1⟩
 |_=>exact False.elim ty
def tBM0 (K:W.Frag) (T:String) (r:V->List V->Hp->VK->Prop) (to:TE):TE:=λσ H Q=>to σ H λx H1=>tyV K T x H1/\r x [] H1 Q
def tBM (K:W.Frag) (T:String) (r:V->List V->Hp->VK->Prop) (to:TE) (t:TA):TE:=λσ H Q=>to σ H λx H1=>tyV K T x H1/\t σ H1 λxs H2=>r x xs H2 Q
variable {o e:Expr}{es:List Expr}{to:TE}{t:TA}{name:Str}{apos cpos:Pos}{T id:String}{r:V->List V->Hp->VK->Prop}
theorem Zrh (pa:PlainAttrs T) (slot:Slot T name id) (hty:typeOf (.builtin id)=pure (.type "method_descriptor")) (hm:MtR X id r) (ho:PE X o to)
  (hbase:attributeBase o name X.env (eval o X.env)=eval o X.env:=by rfl) (hline:(apos.endLine == cpos.line)=true:=by rfl):PE X (.Call (.Attribute o name apos) [] [] cpos) (tBM0 X.K T r to):=by
 intro pins s σ H Q I h;refine wpAny_Call_method0_late hbase hline (thn (ho pins s σ H _ I h) λv s1 ⟨x,H1,I1,r1,ty,q1⟩=>?_);obtain⟨h1,h2⟩:=Zpf I1 r1 ty;exact⟨T,id,pa,slot,hty,h1,h2,Calls.callWith_builtin rfl (PySem.evalArgs_none (hm pins s1 σ H1 x [] v [] Q I1 r1 .nil q1))⟩
theorem Zt0 (pa:PlainAttrs T) (slot:Slot T name id) (hty:typeOf (.builtin id)=pure (.type "method_descriptor")) (hm:MtR X id r) (ho:PE X o to) (ha:PA X (e::es) t)
  (hbase:attributeBase o name X.env (eval o X.env)=eval o X.env:=by rfl)
  (hfew:((backTo cpos (starEach (e::es) X.env)).all (λx=>!x.1) && (backToKw cpos (keywordEach [] X.env)).all (λx=>x.1.isSome)
   && decide ((e::es).length+([]:List Keyword).length+(if ([]:List Keyword).isEmpty then 0 else 1)<30))=true:=by rfl)
  (hline:(apos.endLine == cpos.line)=true:=by rfl) (hs:starEach (e::es) X.env=(false,eval e X.env)::starEach es X.env:=by rfl) (hplain:(backTo cpos (starEach es X.env)).any (·.1)=false:=by rfl) :
  PE X (.Call (.Attribute o name apos) (e::es) [] cpos) (tBM X.K T r to t):=by
 intro pins s σ H Q I h;refine wpAny_Call_method_late hbase hfew hline rfl (thn (ho pins s σ H _ I h) λv s1 ⟨x,H1,I1,r1,ty,q1⟩=>?_);obtain⟨h1,h2⟩:=Zpf I1 r1 ty;refine⟨T,id,pa,slot,hty,h1,h2,?_⟩;have hA:=ha cpos pins s1 σ H1 _ I1 q1;rw[hs]at hA ⊢;refine Calls.callWith_builtin (by show (false || (backTo cpos (starEach es X.env)).any (·.1))=false;rw[hplain] <;> rfl) (Calls.evalArgs_plain ?_)
 exact thn hA λus s2 ⟨vs,H2,I2,r2,q2⟩=>hm pins s2 σ H2 x vs v us Q I2 r1 r2 q2
end
end L2
namespace L2
open PySem PySem.Spec PyProof.Rows
def MtM (X:Cx) (id:String) (r:V->List V->Hp->VK->Prop):Prop:=
 ∀(pins:List (Addr × Obj)) (s:Shared) (σ:St) (H:Hp) (x:V) (xs:List V) (v:Value) (us:List Value) (Q:VK),Inv X pins σ H s->RelV x v->Vals xs us->r x xs H Q →
  wpAny (model X.prog X.w) X.A (call (.builtin id) (v::us)) (EP X pins σ Q) X.xe s
theorem Vals.one:∀{x:V}{us:List Value},Vals [x] us->∃u,us=[u]/\RelV x u:=by
 intro x us h;cases h with|cons r t=>cases t;exact⟨_,rfl,r⟩
theorem Vals.two:∀{x y:V}{us:List Value},Vals [x,y] us->∃u v,us=[u,v]/\RelV x u/\RelV y v:=by
 intro x y us h;cases h with|cons r t=>cases t with|cons q t=>cases t;exact⟨_,_,rfl,r,q⟩
theorem Vals.zero:∀{us:List Value},Vals [] us->us=[]
 |_,.nil=>rfl
theorem Vals.dropLast {xs:List V}{us:List Value}(h:Vals xs us):Vals xs.dropLast us.dropLast:=by
 induction h with
 |nil=>exact .nil
 |cons r t ih=>
  cases t with
  |nil=>exact .nil
  |cons q t'=>exact .cons r ih
theorem Vals.reverse {xs:List V}{us:List Value}(h:Vals xs us):Vals xs.reverse us.reverse:=by
 induction h with
 |nil=>exact .nil
 |cons r t ih=>rw[Wc9,Wc9];exact Vals.append ih (.cons r .nil)
theorem Zkf {α:Type}(l:List α):l.eraseIdx (l.length-1)=l.dropLast:=by
 induction l with
 |nil=>rfl
 |cons a r ih=>
  cases r with
  |nil=>rfl
  |cons b r=>
   have e:(a::b::r).length-1=((b::r).length-1)+1:=by
    have h1:(a::b::r).length=r.length+2:=rfl;have h2:(b::r).length=r.length+1:=rfl;omega
   rw[e,List.eraseIdx_cons_succ,ih]
   all_goals rfl
section
variable {X:Cx}{pins:List (Addr × Obj)}{σ:St}{H:Hp}{s:Shared}{l b:Addr}{xs ys zs:List V}
theorem Inv.lset {its its':List Value}{n:Nat}{f:Array Value->Array Value}{t':Nat}(I:Inv X pins σ H s) (hH:H l=some (.lst xs))
  (e:s.heap.get? l=some { cls:=.type "list",data:=.seq its.toArray n }) (hf:f its.toArray=its'.toArray) (hv:Vals ys its') (hz:ys.length<=sizeLine) :
  Inv X pins σ (upd H l (.lst ys)) { s with heap:=s.heap.update l (Obj.mapSeq f),toks:=t' }:=by
 have q:=PySem.IsL.update e f;rw[hf]at q;refine I.write (x:=l) (e:=l) (by rw[hH];exact trivial) (.inl rfl) (λb' u hb hu=>(Wbk s.heap (Obj.mapSeq f) (Ne.symm hb)).trans hu) ⟨_,q⟩ ?_;exact⟨hz,its',_,hv,q⟩
theorem Inv.lnew {its:List Value}{t':Nat}(I:Inv X pins σ H s) (hv:Vals ys its) (hz:ys.length<=sizeLine) :
  Inv X pins σ (upd H s.heap.objs.size (.lst ys)) { s with heap:=s.heap.push { cls:=.type "list",data:=.seq its.toArray },toks:=t' }:=
 I.laid (λ_ _ q=>Wae _ q) (Wak _) ⟨hz,its,0,hv,Waq _ rfl⟩
theorem Inv.fresh (I:Inv X pins σ H s):H s.heap.objs.size=none:=I.hok.fresh (Wak _)
theorem Inv.lstM (I:Inv X pins σ H s) (hH:H l=some (.lst xs)):xs.length<=sizeLine/\∃(its:List Value) (n:Nat),Vals xs its/\xs.length=its.length/\s.heap.get? l=some { cls:=.type "list",data:=.seq its.toArray n }:=by
 obtain⟨z,its,n,r,e⟩:=I.hok l _ hH;exact⟨z,its,n,r,r.length,e⟩
end
section
variable {X:Cx}
def rAppend:V->List V->Hp->VK->Prop:=λx vs H Q=>∃l xs y,x=.ref l/\vs=[y]/\H l=some (.lst xs)/\xs.length<sizeLine/\Q .non (upd H l (.lst (xs++[y])))
theorem Zc4:MtM X "list.append" rAppend:=by
 intro pins s σ H x vs v us Q I rx rv h;obtain⟨l,xs,y,rfl,rfl,hH,hz,q⟩:=h;cases rx;obtain⟨u,rfl,ru⟩:=rv.one;obtain⟨z,its,n,r,hl,e⟩:=I.lstM hH;refine call_meets F.slot_list_append ⟨_,e,rfl⟩ F.entry_list_append (F.args_list_append_2 _ _) (PySem.list_append l its.toArray n u (by rw[Wag];omega)) ⟨e,?_⟩;refine⟨.non,_,I.lset (its':=its++[u]) hH e (by simp) (r.append (.cons ru .nil)) ?_,rfl,q⟩;rw[Waw,Wby];omega
def rPop:V->List V->Hp->VK->Prop:=λx vs H Q=>∃l xs y,x=.ref l/\vs=[]/\H l=some (.lst xs)/\xs[xs.length-1]?=some y/\Q y (upd H l (.lst xs.dropLast))
theorem Zrw:MtM X "list.pop" rPop:=by
 intro pins s σ H x vs v us Q I rx rv h;obtain⟨l,xs,y,rfl,rfl,hH,hy,q⟩:=h;cases rx;have hus:=rv.zero;subst hus;obtain⟨z,its,n,r,hl,e⟩:=I.lstM hH;obtain⟨u,hu,ru⟩:=r.get hy;have hy':its.toArray[its.toArray.size-1]?=some u:=by
  show its.toArray[its.length-1]?=some u;rw[<- Array.getElem?_toList,<- hl];exact hu
 refine call_meets F.slot_list_pop ⟨_,e,rfl⟩ F.entry_list_pop (F.args_list_pop_1 _) (MeetsSeq.list_pop_last l its.toArray n u hy' (by rw[Wag];omega)) ⟨e,?_⟩;refine⟨y,_,I.lset (its':=its.dropLast) hH e ?_ r.dropLast ?_,ru,q⟩
 ·show its.toArray.eraseIdxIfInBounds (its.toArray.size-1)=its.dropLast.toArray
  rw[Wag,List.eraseIdxIfInBounds_toArray,Zkf]
 ·rw[List.length_dropLast]
  omega
def rCat:R2:=λx y H Q=>∃l b xs zs,x=.ref l/\y=.ref b/\H l=some (.lst xs)/\H b=some (.lst zs)/\xs.length+zs.length<=sizeLine/\∀p,H p=none->Q (.ref p) (upd H p (.lst (xs++zs)))
theorem Zro:OpR X (binaryOp .Add) rCat:=by
 intro pins s σ H x y v u Q I rx ry h;obtain⟨l,b,xs,zs,rfl,rfl,hH,hB,hz,q⟩:=h;cases rx;cases ry;obtain⟨z,its,n,r,hl,e⟩:=I.lstM hH;obtain⟨z2,its2,n2,r2,hl2,e2⟩:=I.lstM hB;refine PySem.P.add_list e e2 ?_ (by rw[Wag,Wag];omega);have ea:its.toArray++its2.toArray=(its++its2).toArray:=by simp
 rw[ea];exact⟨.ref _,_,I.lnew (t':=s.toks) (r.append r2) (by rw[Waw];omega),rfl,q _ I.fresh⟩
end
end L2
namespace Att
open PySem PySem.W PySem.Calls PyProof.Rows
theorem Zfg {P:Params}{h:Heap}:∀(ns:List Int) (vs:List Value),WellAll P h vs (ns.map WData.int)->IntsAre vs ns:=by
 intro ns
 induction ns with
 |nil=>
  intro vs w;rw[List.map_nil]at w;cases w;exact .nil
 |cons n ns ih=>
  intro vs w;rw[Wbe]at w;cases w with
  |cons a b=>
   cases a;exact .cons _ _ (ih _ b)
theorem Zl0 {l:OpenLaw}{n:Nat}(hn:l.most=some n) {P:Params}{h:Heap}{args:List WData}{vals:List Value}
  (hpre:l.row.toRowW.claim.pre args=true) (hwl:WellAll P h vals args) :
  ∃a vs ns,vals=[Value.ref a]/\args=[WData.list (ns.map WData.int)]/\h.get? a=some { cls:=.type "list",data:=.seq vs.toArray } /\ IntsAre vs ns/\ns.length<=n:=by
 have hsh:WShape.hasAll [] args [.list .int]=true:=(pre_splitW hpre).1;have hc:l.pre.holds [] { args:=args } = true:=(pre_splitW hpre).2;obtain⟨d,r,rfl,h1,h2⟩:=hasAllW_cons hsh;obtain rfl:=hasAllW_nil h2;obtain⟨xs,rfl,h3⟩:=hasW_list h1;obtain⟨ns,rfl⟩:=items_int h3;have hlen:ns.length<=n:=by
  unfold OpenLaw.pre at hc;have h4:(WTm.not (.lt (.lit (.int (n:Int))) (.len (.arg 0)))).holds [] { args:=[.list (ns.map .int)] } = true:=by
   have h4:=(holds_andW hc).1;rw[hn]at h4;exact h4
  have h5:=condW_of h4 (w_not (w_lt w_lit (w_len_list (w_arg rfl))));rw[Wab]at h5;refine Nat.le_of_not_lt λq=>?_;have q':(n:Int)<((ns.length:Nat):Int):=by omega
  first
   | (rw[decide_eq_true q']at h5;exact absurd h5 (by decide))
   | (simp at h5;omega)
 cases hwl with
 |cons w1 w2=>
  cases w2;cases w1 with
  |list ho hall=>exact⟨_,_,ns,rfl,rfl,ho,Zfg ns _ hall,hlen⟩
theorem Zl4 (l:OpenLaw) (args:List WData):l.row.toRowW.claim.post args (.bool true) args=true:=
 postW_of (r:=l.row.toRowW) (X:=(true == true))
  (show WShape.has [] (.bool true) .bool=true by first|rfl|decide|simp[WShape.has,WShape.arms,WShape.armsAll])
  (show (WTm.eq .res (.lit (.bool true))).value [] { args:=args,res:=some (.bool true),after:=args } = some (.bool (true == true)) from w_eq_bool (w_res rfl) w_lit) rfl
theorem attach_call {l:OpenLaw}{n:Nat}{q:Program}{loose:List Str}{XP:(Str->Option Value)->Heap->Prop}{YP:World->Heap->Prop}{d:DefRec}
  (hn:l.most=some n) (hdf:d.params.defaults=[])
  (call:∀(w:World) (s₀ s₁:Shared) (mg mb:Str->Option Value) (fa:Addr) (o:Obj) (pm cd doc:Value) (a:Addr) (vs:List Value) (ns:List Int),
   Ground q loose [] XP w s₀ mg mb s₁.heap->YP w s₁.heap →
   s₁.heap.get? fa=some o->o.data=.func (docDef d.name d.params d.body d.scope pm cd doc)->s₁.heap.CodeRec cd d.name->mg d.name=some (.ref fa) →
   s₁.heap.get? a=some { cls:=.type "list",data:=.seq vs.toArray } -> IntsAre vs ns->ns.length<=n->s₁.gens = #[] →
   codeAny (model l.prog w) callerA (.call (.ref fa) ⟨[.ref a],[]⟩) (λr s'=>r=.ok (.ret (.bool true))/\OldK s₁.heap s'.heap/\s'.os=s₁.os/\AllBare s'.gens) s₁) :
  WalkO q loose XP YP l.row.toRowW d [] (λf vs=>PySem.call f vs):=by
 intro w s₀ s₁ mg mb G Y fa o pm cd doc dV kV ho hd hcd hD hmg hg args vals as hpre hlay hrd hwl hlo;obtain rfl:dV=.none:=Dflts.none hD hdf;obtain rfl:kV=.none:=Dflts.noKw hD;obtain⟨a,vs,ns,rfl,rfl,hobj,hints,hlen⟩:=Zl0 hn hpre hwl;refine enter_call (codeAny_mono (call w s₀ s₁ mg mb fa o pm cd doc a vs ns G Y ho (fd_plain hd) hcd hmg hobj hints hlen hg) λr s' hq=>?_);obtain⟨rfl,h2,h3,h4⟩:=hq;exact⟨.inl ⟨.bool true,.bool true,[],rfl,λ_=>rfl,.bool true,Zl4 l _,λ_=>⟨List.Pairwise.nil,λ_ hm=>(nomatch hm)⟩⟩,h2,h3,h4⟩
end Att
namespace L2
open PySem PySem.Spec PyProof.Rows
theorem Zc6:∀{vs:List Value}{ns:List Int},IntsAre vs ns->Vals (ns.map V.int) vs
 |_,_,.nil=>.nil
 |_,_,.cons n t h=>.cons ⟨t,rfl⟩ (Zc6 h)
def Only (H:Hp):Prop:=∀b,H b=none\/∃o xs,H b=some (.frz o (.lst xs))
theorem Znl {P:Program}{w:World}{K:W.Frag}{mg mb:Str->Option Value}{CX:CXT}{k:Nat}{fa a:Addr}{fd:FuncData}{x:Str}{sp:Sp}{s₁:Shared}{vs:List Value}{ns:List Int}
  (KX:K.In s₁.heap) (hns:s₁.heap.Ns mainGlobals mg) (hb:s₁.heap.Ns builtinsNs mb) (hbb:∀x:Str,x ≠ "__name__" -> mb x=bootBuiltins x) (hlim:s₁.heap.NoLimit) (hg:s₁.gens = #[])
  (ha:s₁.heap.get? a=some { cls:=.type "list",data:=.seq vs.toArray }) (hi:IntsAre vs ns) (hl:ns.length<=sizeLine) (hr:Room k callerA)
  (F:∀base:Heap,K.In base->base.Ns mainGlobals mg->FnOk P w K mg base CX k fa fd [x] sp) (hbind:∀(s:Shared) (u:Value),BindsTo s fd ⟨[u],[]⟩ [(x,u)])
  (hsp:∀H:Hp,Only H->SqL K H a (ns.map V.int)->sp [.ref a] H (λv _=>v=.bl true) λ_ _ _=>False)
  (hCX:∀H e s',CX [] H s₁ (λ_ _ _=>False) e s' -> False) :
  codeAny (model P w) callerA (.call (.ref fa) ⟨[.ref a],[]⟩) (λr s'=>r=.ok (.ret (.bool true))/\OldK s₁.heap s'.heap/\s'.os=s₁.os/\AllBare s'.gens) s₁:=by
 have rv:=Zc6 hi;have lenV:=hi.length
 -- from an abstract heap in which nothing but the script may be tracked
 have core:∀H:Hp,Only H->SqL K H a (ns.map V.int)->HOk P w H s₁.heap->(∀b,H b≠none->b=a)->(H a≠none->K.lookup a=none) →
   codeAny (model P w) callerA (.call (.ref fa) ⟨[.ref a],[]⟩) (λr s'=>r=.ok (.ret (.bool true))/\OldK s₁.heap s'.heap/\s'.os=s₁.os/\AllBare s'.gens) s₁:=by
  intro H hO hS hok hA hK;have base_of:∀{b:Addr}{o:Obj},s₁.heap.get? b=some o->H b=none->(hidT s₁.heap H).get? b=some o:=λe n=>Zne e n;have noA:∀{b:Addr}{o:Obj}{es:Array DictEntry}{ep:Nat},s₁.heap.get? b=some o->o.data=.dict es ep->H b=none:=λ{b o es ep} e d=>by
   cases q:H b with
   |none=>rfl
   |some u=>
    have e':b=a:=hA b (by rw[q];simp);subst e';rw[ha]at e;cases e;have d':Data.seq vs.toArray _=Data.dict es ep:=d;cases d'
  have nsK:∀{b:Addr}{m:Str->Option Value},s₁.heap.Ns b m->(hidT s₁.heap H).Ns b m:=λ{b m} ⟨o,es,ep,e,d,r⟩=>⟨o,es,ep,base_of e (noA e d),d,r⟩;have hKb:K.In (hidT s₁.heap H):=λb o e=>base_of (KX b o e) (by
   cases q:H b with
   |none=>rfl
   |some u=>
    have e':b=a:=hA b (by rw[q];simp);subst e';rw[hK (by rw[q];simp)]at e;cases e)
  have hM:Mod K mg (hidT s₁.heap H):=⟨hKb,nsK hns,⟨mb,nsK hb,hbb⟩,let ⟨mc,h1,h2⟩:=hlim; ⟨mc,nsK h1,h2⟩⟩;have e0:Env0 P w K mg (hidT s₁.heap H) callerA [] s₁ H:=⟨rfl,hM,λb o e=>Zqi e,Nat.le_of_eq (Zkz _ _),trivial,λb hb=>absurd (show b∈([]:List Addr) from hb) (by simp),hok,.of_eq hg⟩;refine codeAny_mono ((F _ hKb (nsK hns)).run callerA [] s₁ H ⟨[.ref a],[]⟩ [.ref a] [.ref a] _ _ hr e0 (hbind s₁ (.ref a)) (.cons rfl .nil) (hsp H hO hS)) λr s' h=>?_;cases r with
  |error e=>exact(hCX H e s' h).elim
  |ok fl=>
   cases fl with
   |next=>exact False.elim h
   |brk=>exact False.elim h
   |cont=>exact False.elim h
   |ret u=>
    obtain⟨v,H',os,bare,un,hok',r',q⟩:=h;have q':v=.bl true:=q;subst q';obtain rfl:u=Value.bool true:=r';refine⟨rfl,OldK.of_keep λb o e=>?_,os,bare⟩;cases q:H b with
    |none=>exact un.keep b o e q (by intro z;exact absurd (show b∈([]:List Addr) from z) (by simp)) (by simp)
    |some u=>
     rcases hO b with z|⟨ob,xs,z⟩
     ·rw[q]at z;cases z
     ·have z2:=un.frzs b ob _ z
      obtain⟨e1,_⟩:=hok b _ z;obtain⟨e2,_⟩:=hok' b _ z2;rw[e]at e1;cases e1;exact e2
 cases hk:K.lookup a with
 |some o=>
  -- the script is one of the module's own objects
  have e:=KX a o hk;rw[ha]at e;cases e;refine core (λ_=>none) (λ_=>.inl rfl) (.inr ⟨_,vs.toArray,_,hk,rfl,rfl,rfl,by rw[Wag,lenV];exact hl,by simpa using rv⟩) (λb u z=>by have z':(none:Option HO)=some u:=z;cases z') (λb z=>absurd rfl z) λz=>absurd rfl z
 |none=>
  refine core (λb=>if b=a then some (.frz { cls:=.type "list",data:=.seq vs.toArray } (.lst (ns.map V.int))) else none) (λb=>?_) (.inl (.inr ⟨{ cls:=.type "list",data:=.seq vs.toArray },if_pos rfl⟩)) (λb u z=>?_) (λb z=>?_) λ_=>hk
  ·by_cases hb:b=a
   ·exact .inr ⟨_,_,if_pos hb⟩
   ·exact .inl (if_neg hb)
  ·by_cases hb:b=a
   ·have z':=(if_pos hb).symm.trans z
    cases z';subst hb;exact⟨ha,by rw[Wab];exact hl,vs,_,rv,ha⟩
   ·have z':=(if_neg hb).symm.trans z
    cases z'
  ·by_cases hb:b=a
   ·exact hb
   ·exact absurd (if_neg hb) z
end L2
namespace L2
open PySem PySem.Spec PyProof.Rows
theorem walk_of {l:PySem.W.OpenLaw}{n k:Nat}{q:Program}{loose:List Str}{XP:(Str->Option Value)->Heap->Prop}{YP:World->Heap->Prop}{d:DefRec}{K:Params->W.Frag}{CX:World->CXT}{sp:World->Sp}{x:Str}
  (hn:l.most=some n) (hn2:n<=sizeLine) (hdf:d.params.defaults=[]) (hr:Room k callerA)
  (hY:∀(w:World) (h:Heap),YP w h->(K w.params).In h)
  (F:∀(w:World) (mg:Str->Option Value) (fa:Addr) (h:Heap),(K w.params).In h->h.Ns mainGlobals mg->mg d.name=some (.ref fa) →
   ∃fd:FuncData,(∀(s:Shared) (u:Value),BindsTo s fd ⟨[u],[]⟩ [(x,u)]) ∧
    ∀base:Heap,(K w.params).In base->base.Ns mainGlobals mg->FnOk l.prog w (K w.params) mg base (CX w) k fa fd [x] (sp w))
  (hsp:∀(w:World) (H:Hp) (a:Addr) (ns:List Int),ns.length<=n->Only H->SqL (K w.params) H a (ns.map V.int)->sp w [.ref a] H (λv _=>v=.bl true) λ_ _ _=>False)
  (hCX:∀(w:World) (H:Hp) (s:Shared) (e:Value) (s':Shared),CX w [] H s (λ_ _ _=>False) e s' -> False) :
  PySem.W.WalkO q loose XP YP l.row.toRowW d [] (λf vs=>PySem.call f vs):=by
 refine Att.attach_call hn hdf λw s₀ s₁ mg mb fa o pm cd doc a vs ns G Y ho hd hcd hmg hobj hints hlen hg=>?_;have KX:=hY w _ Y;obtain⟨fd,hb,hF⟩:=F w mg fa _ KX G.T.g hmg;exact Znl KX G.T.g G.T.b G.T.builtins G.T.nolimit hg hobj hints (Wbl hlen hn2) hr hF hb (λH hO hS=>hsp w H a ns hlen hO hS) λH e s'=>hCX w H s₁ e s'
end L2
namespace L2
open PySem PySem.Spec PyProof.Rows
def defArgs (s:Stmt):Arguments:=match s with
 |.FunctionDef _ a _ _ _ _ _ _ _ _=>a
 |_=>{ posonlyargs:=[],args:=[],vararg:=none,kwonlyargs:=[],kw_defaults:=[],kwarg:=none,defaults:=[] }
def defBody (s:Stmt):List Stmt:=match s with
 |.FunctionDef _ _ b _ _ _ _ _ _ _=>b
 |_=>[]
def defScope (s:Stmt):Scope:=match s with
 |.FunctionDef _ _ _ _ _ _ sc _ _ _=>sc
 |_=>{ kind:=.function,names:=[],isGenerator:=false,isCoroutine:=false }
abbrev CX0:CXT:=λ_ _ _ _ _ _=>False
abbrev E0:XK:=λ_ _ _=>False
theorem pass0 {X:Cx}:Passes CX0 X E0:=λ_ _ _ _ _ _ _ h=>h.elim
structure Fun (K:W.Frag) (x qual:Str) (st:Stmt) (f:Addr) (fd:FuncData):Prop where
 ex:∃(oc:Value) (od:Option Addr) (kV doc pm:Value) (an:Option Addr) (cdv ct:Value) (osl:Array (Option Value)),
  fd=W.fnOf x qual (defArgs st) (defBody st) (defScope st) .none kV doc pm an cdv ct/\K.lookup f=some ⟨oc,od,.func fd,osl⟩ /\ W.codeIn K cdv qual=true
 kp:W.keepIn K (.ref f)=true
section
variable {P:Program}{w:World}{K:W.Frag}{mg:Str->Option Value}{base:Heap}
theorem Fun.ok {x qual:Str}{st:Stmt}{f:Addr}{fd:FuncData}{N ps:List Str}{k:Nat}{sp:Sp}(F:Fun K x qual st f fd) (S:FnScope N ps (defScope st)) (len:∀vs H Q E,sp vs H Q E->vs.length=ps.length)
  (hbody:∀(cdv:Value) (A:Around) (outer:List Env) (s:Shared) (H:Hp) (vs:List V) (Q:VK) (E:XK),Room k (A.deeper (envOfC qual (defScope st) s.heap.objs.size f cdv))->sp vs H Q E →
   ∃t,PSs (cxOf CX0 P w K mg base N qual (defScope st) f cdv A outer s H E).nox (defBody st) t/\t { nx:=λ_ H'=>Q .non H',rt:=Q } (start N vs) H):FnOk P w K mg base CX0 (k+1) f fd ps sp:=by
 obtain⟨oc,od,kV,doc,pm,an,cdv,ct,osl,rfl,lk,hcd⟩:=F.ex;refine Ztn lk hcd S len λA outer s H vs Q E hr hsp=>?_;obtain⟨t,h,q⟩:=hbody cdv A outer s H vs Q E hr hsp;exact⟨t,h.nox,q⟩
theorem Fun.binds {x qual:Str}{st:Stmt}{f:Addr}{fd:FuncData}{ps:List Str}(F:Fun K x qual st f fd)
  (h:∀(kV doc pm:Value) (an:Option Addr) (cdv ct:Value) (us:List Value),us.length=ps.length->bindArgs (W.fnOf x qual (defArgs st) (defBody st) (defScope st) .none kV doc pm an cdv ct) ⟨us,[]⟩=pure (ps.zip us)):Binds K fd ps []:=by
 obtain⟨oc,od,kV,doc,pm,an,cdv,ct,osl,rfl,lk,hcd⟩:=F.ex;exact .all (h kV doc pm an cdv ct)
theorem Zsk {x qual:Str}{st:Stmt}{f:Addr}{oc:Value}{od an:Option Addr}{osl:Array (Option Value)}{kV doc pm cdv ct:Value}(l:K.lookup f=some ⟨oc,od,.func (W.fnOf x qual (defArgs st) (defBody st) (defScope st) .none kV doc pm an cdv ct),osl⟩)
  (c:W.codeIn K cdv qual=true) (k:W.keepIn K (.ref f)=true):Fun K x qual st f (W.fnOf x qual (defArgs st) (defBody st) (defScope st) .none kV doc pm an cdv ct):=⟨⟨oc,od,kV,doc,pm,an,cdv,ct,osl,rfl,l,c⟩,k⟩
end
theorem Zch {A:Around}{k:Nat}(hr:Room k A):A.units+1<cLine:=Wcg (Nat.add_le_add_left (by decide:1<=64) _) hr.units
theorem small1000 {n:Nat}(h:n<=1000):n<sizeLine:=Wcg h (by decide)
section
variable {X:Cx}
theorem pv (i:Nat) {x:Str}{pos:Pos}(hN:X.N[i]?=some x:=by rfl) (hv:Vis X.env.scope x:=by first|exact Or.inl rfl|exact Or.inr (Or.inl rfl)|exact Or.inr (Or.inr rfl)) (hd:(x == ("__debug__":Str))=false:=by decide)
  (hcd:(x == ("__classdict__":Str))=false:=by decide):PE X (.Name x pos) (tVar i):=Zte hN hv hd hcd
end
theorem iteF {A B:Prop}(h:B):if false=true then A else B:=by
 rw[if_neg War];exact h
theorem iteT {A B:Prop}(h:A):if true=true then A else B:=by
 rw[if_pos rfl];exact h
theorem ite2 {c A B:Prop}[Decidable c] (h1:c->A) (h2:¬ c->B):if c then A else B:=by
 by_cases h:c
 ·rw[if_pos h]
  exact h1 h
 ·rw[if_neg h]
  exact h2 h
def Same (H H':Hp):Prop:=∀b o,H b=some o->H' b=some o
theorem Same.refl (H:Hp):Same H H:=λ_ _ h=>h
theorem Same.trans {H H1 H2:Hp}(a:Same H H1) (b:Same H1 H2):Same H H2:=λc o h=>b c o (a c o h)
theorem Same.seq {K:W.Frag}{H H':Hp}{a:Addr}{xs:List V}(e:Same H H') (h:SqL K H a xs):SqL K H' a xs:=by
 rcases h with (h|⟨o,h⟩)|h
 ·exact .inl (.inl (e _ _ h))
 ·exact .inl (.inr ⟨o,e _ _ h⟩)
 ·exact .inr h
end L2
namespace L2
open PySem PySem.Spec PyProof.Rows
section
variable {κ:Type}[DecidableEq κ]
def valV (kvs:List (κ × V)) (k:κ):Option V:=(kvs.find? λkv=>decide (kv.1=k)).map (·.2)
def putK (kvs:List (κ × V)) (k:κ) (v:V):List (κ × V):=
 if (kvs.any λkv=>decide (kv.1=k))=true then kvs.map (λkv=>if kv.1=k then (kv.1,v) else kv) else kvs++[(k,v)]
theorem Zgs {p:κ × V}{r:List (κ × V)}{k:κ}(e:p.1=k):valV (p::r) k=some p.2:=by simp[valV,Wcs,e]
theorem Zg3 {p:κ × V}{r:List (κ × V)}{k:κ}(e:¬ p.1=k):valV (p::r) k=valV r k:=by simp[valV,Wcs,e]
theorem Zju (k:κ):∀kvs:List (κ × V),(kvs.any λkv=>decide (kv.1=k))=(valV kvs k).isSome
 |[]=>rfl
 |p::r=>by
  rw[Wc4];by_cases e:p.1=k
  ·simp only[Zgs e,decide_eq_true e,Bool.true_or,Option.isSome_some]
  ·rw[Zg3 e,decide_eq_false e,Bool.false_or];exact Zju k r
theorem Ze4 (kvs:List (κ × V)) (k:κ) (v:V):(putK kvs k v).length<=kvs.length+1:=by
 unfold putK;split
 ·rw[Wab];omega
 ·rw[Waw,Wao,Wbz];omega
theorem RelO.isSome_eq {o:Option V}{u:Option Value}(r:RelO o u):o.isSome=u.isSome:=by
 cases o with
 |none=>cases u with
  |none=>rfl
  |some _=>exact(show False from r).elim
 |some _=>cases u with
  |none=>exact(show False from r).elim
  |some _=>rfl
theorem KV.val {kvs:List (κ × V)}{vs:List (κ × Value)}(r:KV kvs vs) (k:κ):RelO (valV kvs k) (valueAt vs k):=by
 unfold KV at r
 induction r with
 |nil=>exact True.intro
 |@cons p q ps qs h t ih=>
  obtain⟨h1,h2⟩:=h;by_cases e:p.1=k
  ·have e':q.1=k:=h1.symm.trans e
   have b:valueAt (q::qs) k=some q.2:=by simp[valueAt,Wcs,e']
   rw[Zgs e,b];exact h2
  ·have e':¬ q.1=k:=λz=>e (h1.trans z)
   have b:valueAt (q::qs) k=valueAt qs k:=by simp[valueAt,Wcs,e']
   rw[Zg3 e,b];exact ih
theorem KV.any {kvs:List (κ × V)}{vs:List (κ × Value)}(r:KV kvs vs) (k:κ):(kvs.any λkv=>decide (kv.1=k))=vs.any λkv=>decide (kv.1=k):=by
 unfold KV at r
 induction r with
 |nil=>rfl
 |cons h t ih=>rw[Wc4,Wc4,ih,h.1]
theorem KV.repl {kvs:List (κ × V)}{vs:List (κ × Value)}(r:KV kvs vs) (k:κ) {y:V}{u:Value}(ry:RelV y u) :
  KV (kvs.map λkv=>if kv.1=k then (kv.1,y) else kv) (vs.map λkv=>if kv.1=k then (kv.1,u) else kv):=by
 unfold KV at r ⊢
 induction r with
 |nil=>exact .nil
 |@cons p q ps qs h t ih=>
  rw[Wbe,Wbe];refine .cons ?_ ih;obtain⟨h1,h2⟩:=h;by_cases e:p.1=k
  ·rw[if_pos e,if_pos (h1.symm.trans e)];exact⟨h1,ry⟩
  ·rw[if_neg e,if_neg (λz=>e (h1.trans z))];exact⟨h1,h2⟩
theorem KV.put {kvs:List (κ × V)}{vs:List (κ × Value)}(r:KV kvs vs) (k:κ) {y:V}{u:Value}(ry:RelV y u):KV (putK kvs k y) (stored vs k u):=by
 unfold putK stored;rw[r.any k];by_cases e:(vs.any λkv=>decide (kv.1=k))=true
 ·rw[if_pos e,if_pos e];exact r.repl k ry
 ·rw[if_neg e,if_neg e];exact Paired.snoc r ⟨rfl,ry⟩
theorem KV.length {kvs:List (κ × V)}{vs:List (κ × Value)}(r:KV kvs vs):kvs.length=vs.length:=Paired.length r
end
theorem Zny {P:Program}{w:World}{k:Key}{u:Value}(r:RelV (kV k) u):(mixKind P w).is k u=true:=by
 cases k with
 |inl i=>obtain⟨t,e⟩:=(show ∃t,u=Value.int i t from r);subst e;exact Zie P w i t
 |inr x=>obtain⟨t,e⟩:=(show ∃t,u=Value.str x t from r);subst e;exact Zij P w x t
theorem Zhk {P:Program}{w:World}:∀{ks:List Key}{us:List Value},Vals (ks.map kV) us->ItemsAre (mixKind P w) ks us
 |[],_,r=>by rw[List.map_nil]at r;cases r;exact .nil
 |k::ks,_,r=>by
  rw[Wbe]at r;cases r with
  |cons h t=>exact .cons (Zny h) (Zhk t)
abbrev KT (H:Hp):List (List Key × V)->List (List Key × Addr × Value)->Prop:=Paired λp q=>p.1=q.1/\H q.2.1=some (.tup (p.1.map kV))/\RelV p.2 q.2.2
theorem KT.val {H:Hp}{kvs:List (List Key × V)}{xs:List (List Key × Addr × Value)}(r:KT H kvs xs) (k:List Key):RelO (valV kvs k) ((atKey xs k).map (·.2)):=by
 induction r with
 |nil=>exact True.intro
 |@cons p q ps qs h t ih=>
  obtain⟨h1,_,h2⟩:=h;by_cases e:p.1=k
  ·have e':q.1=k:=h1.symm.trans e
   have b:atKey (q::qs) k=some q.2:=by simp[atKey,Wcs,e']
   rw[Zgs e,b];exact h2
  ·have e':¬ q.1=k:=λz=>e (h1.trans z)
   have b:atKey (q::qs) k=atKey qs k:=by simp[atKey,Wcs,e']
   rw[Zg3 e,b];exact ih
theorem KT.repl {H:Hp}{kvs:List (List Key × V)}{xs:List (List Key × Addr × Value)}(r:KT H kvs xs) (k:List Key) {y:V}{u:Value}(ry:RelV y u) :
  KT H (kvs.map λkv=>if kv.1=k then (kv.1,y) else kv) (xs.map (putAt k u)):=by
 induction r with
 |nil=>exact .nil
 |@cons p q ps qs h t ih=>
  rw[Wbe,Wbe];refine .cons ?_ ih;obtain⟨h1,h2,h3⟩:=h;unfold putAt;by_cases e:p.1=k
  ·rw[if_pos e,if_pos (h1.symm.trans e)];exact⟨h1,h2,ry⟩
  ·rw[if_neg e,if_neg (λz=>e (h1.trans z))];exact⟨h1,h2,h3⟩
theorem KT.put {H:Hp}{kvs:List (List Key × V)}{xs:List (List Key × Addr × Value)}(r:KT H kvs xs) (k:List Key) {b:Addr}{y:V}{u:Value}(hb:H b=some (.tup (k.map kV))) (ry:RelV y u) :
  KT H (putK kvs k y) (storedH xs k b u):=by
 have e:(kvs.any λkv=>decide (kv.1=k))=(atKey xs k).isSome:=by
  rw[Zju,(r.val k).isSome_eq,Option.isSome_map]
 unfold putK storedH;rw[e];by_cases q:(atKey xs k).isSome=true
 ·rw[if_pos q,if_pos q];exact r.repl k ry
 ·rw[if_neg q,if_neg q];exact Paired.snoc r ⟨rfl,hb,ry⟩
theorem KT.keeps {H H':Hp}{kvs:List (List Key × V)}{xs:List (List Key × Addr × Value)}(r:KT H kvs xs) (ht:∀b ys,H b=some (.tup ys)->H' b=some (.tup ys)):KT H' kvs xs:=
 Paired.mapP r λ_ _ z=>⟨z.1,ht _ _ z.2.1,z.2.2⟩
section
variable {P:Program}{w:World}{H:Hp}{h:Heap}{a:Addr}
theorem Zr3 {u:HO}(ok:HOk P w H h) (e:Rd H a u):ObjOk P w H h a u:=e.ok ok
theorem Zls {kvs:List (Key × V)}(ok:HOk P w H h) (e:Rd H a (.dK kvs)):kvs.length<=sizeLine/\(a == sysModules)=false/\∃vs,KV kvs vs/\h.DictOf (mixKind P w) a vs:=
 show ObjOk P w H h a (.dK kvs) from Zr3 ok e
theorem Ztq {kvs:List (Key × V)}(ok:HOk P w H h) (e:H a=some (.dK kvs)):kvs.length<=sizeLine/\(a == sysModules)=false/\∃vs,KV kvs vs/\h.DictOf (mixKind P w) a vs:=Zls ok (.inl e)
theorem Zi7 {ks:List Key}(ok:HOk P w H h) (e:H a=some (.tup (ks.map kV))):(tupleKind (mixKind P w)).is h ks a:=by
 obtain⟨_,its,r,o,h1,⟨h2,n,h3⟩,_⟩:=(show ObjOk P w H h a (.tup (ks.map kV)) from ok a _ e);exact⟨o,its.toArray,n,h1,h2,h3,by simpa using Zhk r⟩
theorem Znf {kvs:List (List Key × V)}(ok:HOk P w H h) (e:Rd H a (.dT kvs)):kvs.length<=sizeLine/\(a == sysModules)=false ∧
  ∃xs,KT H kvs xs/\h.DictOfH (tupleKind (mixKind P w)) a xs:=by
 obtain⟨z,y,xs,r,o,es,ep,h1,h2,h3,h4,h5⟩:=(show ObjOk P w H h a (.dT kvs) from Zr3 ok e);refine⟨z,y,xs,r,o,es,ep,h1,h2,h3,h4,λx hx=>?_,h5⟩;have all:∀{l:List (List Key × V)}{m:List (List Key × Addr × Value)},KT H l m->∀x∈m,(tupleKind (mixKind P w)).is h x.1 x.2.1:=by
  intro l m q
  induction q with
  |nil=>intro x hx;exact nomatch hx
  |@cons p q ps qs hq t ih=>
   intro x hx;rcases Wat.mp hx with e|hx
   ·subst e
    exact Zi7 ok (by rw[<- hq.1];exact hq.2.1)
   ·exact ih x hx
 exact all r x hx
theorem Ztr {kvs:List (List Key × V)}(ok:HOk P w H h) (e:H a=some (.dT kvs)):kvs.length<=sizeLine/\(a == sysModules)=false ∧
  ∃xs,KT H kvs xs/\h.DictOfH (tupleKind (mixKind P w)) a xs:=Znf ok (.inl e)
end
def DGet (H:Hp) (a:Addr) (y:V) (r:Option V):Prop:=
 (∃kvs k,Rd H a (.dK kvs)/\y=kV k/\r=valV kvs k)\/∃kvs k b,Rd H a (.dT kvs)/\y=.ref b/\H b=some (.tup (k.map kV))/\r=valV kvs k
def DPut (H:Hp) (a:Addr) (y v:V) (H':Hp):Prop:=
 (∃kvs k,H a=some (.dK kvs)/\y=kV k/\kvs.length<sizeLine/\H'=upd H a (.dK (putK kvs k v))) ∨
 ∃kvs k b,H a=some (.dT kvs)/\y=.ref b/\H b=some (.tup (k.map kV))/\kvs.length<sizeLine/\H'=upd H a (.dT (putK kvs k v))
section
variable {X:Cx}{pins:List (Addr × Obj)}{σ:St}{H:Hp}{s:Shared}{a:Addr}{y v:V}{u r:Value}{o:Option V}{A:Around}{E:Value->Shared->Prop}
theorem Zlm {Q:Value->Shared->Prop}(hu:A.units+1<cLine) (I:Inv X pins σ H s) (g:DGet H a y (some v)) (ry:RelV y u) (h:∀w' s',Inv X pins σ H s' -> RelV v w' -> Q w' s') :
  wpAny (model X.prog X.w) A (getItem (.ref a) u) Q E s:=by
 rcases g with ⟨kvs,k,e,ey,l⟩|⟨kvs,k,b,e,ey,eb,l⟩
 ·subst ey
  obtain⟨z,hd,vs,rel,dd⟩:=Zls I.hok e;obtain⟨w',hw,rw'⟩:=RelO.some_of (v:=v) (o:=valueAt vs k) (by rw[l];exact rel.val k);exact wpAny_getItem_of (Zny ry) dd.mapOf hw (h w' _ (I.tok _) rw')
 ·subst ey
  cases (show u=Value.ref b from ry);obtain⟨z,hd,xs,rel,dd⟩:=Znf I.hok e;obtain⟨w',hw,rw'⟩:=RelO.some_of (v:=v) (o:=(atKey xs k).map (·.2)) (by rw[l];exact rel.val k);obtain⟨p,hp,hp2⟩:=Option.map_eq_some_iff.mp hw;refine wpAny_getItem_heap (tupleKind_room_in1 hu) (Zi7 I.hok eb) dd hp ?_;rw[hp2];exact h w' _ (I.tok _) rw'
theorem Zq9 {Q:Value->Shared->Prop}(hu:A.units+1<cLine) (I:Inv X pins σ H s) (g:DGet H a y o) (ry:RelV y u) (h:∀s',Inv X pins σ H s' -> Q (.bool (!o.isSome)) s') :
  wpAny (model X.prog X.w) A (compareOp .NotIn u (.ref a)) Q E s:=by
 rcases g with ⟨kvs,k,e,ey,l⟩|⟨kvs,k,b,e,ey,eb,l⟩
 ·subst ey
  obtain⟨z,hd,vs,rel,dd⟩:=Zls I.hok e;refine wpAny_notIn_of (Zny ry) hd dd.mapOf ?_;rw[<- (rel.val k).isSome_eq,<- l];exact h _ (I.tok _)
 ·subst ey
  cases (show u=Value.ref b from ry);obtain⟨z,hd,xs,rel,dd⟩:=Znf I.hok e;refine wpAny_notIn_heap (tupleKind_room_in1 hu) (Zi7 I.hok eb) hd dd ?_;have q:=(rel.val k).isSome_eq;rw[Option.isSome_map]at q;rw[<- q,<- l];exact h _ (I.tok _)
theorem Zm0 {h':Heap}{t':Nat}{ob:HO}(I:Inv X pins σ H s) (mu:Mut (H a)) (hs:Heap.SameBut a s.heap h') (he:∃q,h'.get? a=some q) (new:ObjOk X.prog X.w (upd H a ob) h' a ob) :
  Inv X pins σ (upd H a ob) { s with heap:=h',toks:=t' }:=
 I.write (x:=a) (e:=a) mu (.inl rfl) (λb q hb z=>(hs.2 b hb).trans z) he new
theorem Zss {P:Program}{w:World}{H':Hp}{h':Heap}{kvs:List (Key × V)}{vs:List (Key × Value)}(z:kvs.length<=sizeLine) (hd:(a == sysModules)=false) (rel:KV kvs vs) (dd:h'.DictOf (mixKind P w) a vs) :
  ObjOk P w H' h' a (.dK kvs):=⟨z,hd,vs,rel,dd⟩
theorem Zmj {H':Hp}{Q:Unit->Shared->Prop}(hu:A.units+1<cLine) (I:Inv X pins σ H s) (g:DPut H a y v H') (ry:RelV y u) (rv:RelV v r) (h:∀s',Inv X pins σ H' s' -> Q () s') :
  wpAny (model X.prog X.w) A (setItem (.ref a) u r) Q E s:=by
 rcases g with ⟨kvs,k,e,ey,l,eH⟩|⟨kvs,k,b,e,ey,eb,l,eH⟩
 ·subst ey eH
  obtain⟨z,hd,vs,rel,dd⟩:=Ztq I.hok e;have hz:vs.length<=sizeLine:=by rw[<- rel.length];exact z
  have hl:(putK kvs k v).length<=sizeLine:=by have:=Ze4 kvs k v;omega
  refine wpAny_setItem_pairs (hsz:=hz) (Zny ry) dd λh' dd' hs=>h _ ?_;have he:∃q,h'.get? a=some q:=let ⟨q,_,_,hq,_⟩:=dd'; ⟨q,hq⟩
  exact Zm0 I (by rw[e];exact True.intro) hs he (Zss hl hd (rel.put k rv) dd')
 ·subst ey eH
  cases (show u=Value.ref b from ry);obtain⟨z,hd,xs,rel,dd⟩:=Ztr I.hok e;have hz:xs.length<=sizeLine:=by rw[<- Paired.length rel];exact z
  have hl:(putK kvs k v).length<=sizeLine:=by have:=Ze4 kvs k v;omega
  refine wpAny_setItem_heap (hsz:=hz) (tupleKind_room_in1 hu) (Zi7 I.hok eb) dd λh' dd' hs=>h _ ?_;obtain⟨q,es,ep,hq,h2,h3,h4,_,h5⟩:=dd';refine Zm0 I (by rw[e];exact True.intro) hs ⟨q,hq⟩ ⟨hl,hd,_,(rel.put k eb rv).keeps λc ys ec=>?_,q,es,ep,hq,h2,h3,h4,h5⟩;rw[Zas (Ztl ec e (λz=>nomatch z))];exact ec
end
section
variable {X:Cx}{pins:List (Addr × Obj)}{σ:St}{H:Hp}{s:Shared}{a:Addr}{kvs:List (Key × V)}{k:Key}{u:Value}{A:Around}{E:Value->Shared->Prop}
theorem Ztw {Q:Value->Shared->Prop}(I:Inv X pins σ H s) (e:Rd H a (.dK kvs)) (h:∀t s',Inv X pins σ H s' -> Q (.int kvs.length t) s'):wpAny (model X.prog X.w) A (call (.builtin "len") [.ref a]) Q E s:=by
 obtain⟨z,hd,vs,rel,dd⟩:=Zls I.hok e;refine call_len_dict hd dd (by rw[<- rel.length];rw[sizeLine_eq]at z;omega) ?_;rw[<- rel.length];exact h _ _ (I.tok _)
end
theorem Zio {X:Cx}{pins:List (Addr × Obj)}{σ:St}{H:Hp}{s:Shared}{a:Addr}{y:V}{o:Option V}(I:Inv X pins σ H s) (g:DGet H a y o):s.TypeIs (.ref a) "dict":=by
 rcases g with ⟨kvs,k,e,_,_⟩|⟨kvs,k,b,e,_,_,_⟩
 ·obtain⟨_,_,vs,_,dd⟩:=Zls I.hok e
  exact dd.typeIs
 ·obtain⟨_,_,xs,_,dd⟩:=Znf I.hok e
  exact dd.typeIs
section
variable {X:Cx}{pos:Pos}
end
section
variable {X:Cx}{o e f:Expr}{apos cpos:Pos}{td ty tx:TE}
end
section
variable {X:Cx}{pins:List (Addr × Obj)}{σ:St}{H:Hp}{s:Shared}{a:Addr}{y:V}{u:Value}{A:Around}{E:Value->Shared->Prop}
end
end L2
namespace L2
open PySem PySem.Spec PyProof.Rows
section
variable {X:Cx}
theorem Zmg:CallR X (.builtin "len") (λxs H Q=>∃a kvs,xs=[V.ref a]/\H a=some (.dK kvs)/\Q (.int kvs.length) H):=by
 intro pins s σ H xs us Q I r h;obtain⟨a,kvs,rfl,ha,q⟩:=h;obtain⟨u,rfl,ru⟩:=vals1 r;cases ru;exact Ztw I (.inl ha) λt s' I'=>⟨.int kvs.length,H,I',⟨t,rfl⟩,q⟩
end
def clOf (env:Env):List (Str × NameKind)->List (Str × Addr)->List (Str × Addr)
 |[],cs=>cs
 | (n,k)::r,cs=>if k == .free then (match env.cells.lookup n with
     |some a=>clOf env r ((n,a)::cs)
     |none=>clOf env r cs) else clOf env r cs
theorem Ze8 {env:Env}:∀(names:List (Str × NameKind)) (cs:List (Str × Addr)),(∀n,(n,NameKind.free)∈names->∃a,env.cells.lookup n=some a) →
  (forIn names cs λ(x:Str × NameKind) (cs:List (Str × Addr))=>if (x.2 == .free)=true then (do let a ← cellOf env x.1;pure (ForInStep.yield ((x.1,a)::cs))) else pure (ForInStep.yield cs):Sem (List (Str × Addr)))=pure (clOf env names cs)
 |[],cs,_=>rfl
 | (n,k)::r,cs,h=>by
  rw[List.forIn_cons];have hr:∀m,(m,NameKind.free)∈r->∃a,env.cells.lookup m=some a:=λm hm=>h m (Wav _ hm);cases hk:k == NameKind.free with
  |false=>
   have e:clOf env ((n,k)::r) cs=clOf env r cs:=by simp[clOf,hk]
   rw[e,<- Ze8 r cs hr];simp only[hk,Wba,if_false];rfl
  |true=>
   have hk':k=.free:=by simpa using hk
   subst hk';obtain⟨a,ha⟩:=h n Way;have e:clOf env ((n,.free)::r) cs=clOf env r ((n,a)::cs):=by simp[clOf,ha]
   have ec:cellOf env n=pure a:=by simp[cellOf,ha]
   rw[e,<- Ze8 r ((n,a)::cs) hr];simp only[hk,if_true,ec];rfl
theorem Zb5 {env:Env}{scope:Scope}(h:∀n,(n,NameKind.free)∈scope.names->∃a,env.cells.lookup n=some a):closureFor scope env=pure (clOf env scope.names []):=by
 rw[<- Ze8 scope.names [] h];simp only[closureFor];exact Eq.trans (bind_pure _) rfl
theorem Zbf {env:Env}:∀(names:List (Str × NameKind)) (cs:List (Str × Addr)) {x:Str}{c:Addr},(∀y d,cs.lookup y=some d->env.cells.lookup y=some d)->(clOf env names cs).lookup x=some c->env.cells.lookup x=some c
 |[],cs,x,c,h,e=>h x c e
 | (n,k)::r,cs,x,c,h,e=>by
  unfold clOf at e;split at e
  ·split at e
   ·rename_i a ha
    refine Zbf r ((n,a)::cs) (λy d q=>?_) e;rw[Wbo]at q;split at q
    ·rename_i hy
     have hy':y=n:=by simpa using hy
     cases q;rw[hy'];exact ha
    ·exact h y d q
   ·exact Zbf r cs h e
  ·exact Zbf r cs h e
theorem Zdx {env:Env}:∀(names:List (Str × NameKind)) (cs:List (Str × Addr)) {x:Str},(∃c,cs.lookup x=some c)->∃c,(clOf env names cs).lookup x=some c
 |[],cs,x,h=>h
 | (n,k)::r,cs,x,h=>by
  have h2:∀a,∃c,((n,a)::cs).lookup x=some c:=λa=>by
   rw[Wbo];split
   ·exact⟨_,rfl⟩
   ·exact h
  unfold clOf;split
  ·split
   ·exact Zdx r _ (h2 _)
   ·exact Zdx r cs h
  ·exact Zdx r cs h
theorem Zcs {env:Env}:∀(names:List (Str × NameKind)) (cs:List (Str × Addr)) {x:Str},(x,NameKind.free)∈names->(∃a,env.cells.lookup x=some a)->∃c,(clOf env names cs).lookup x=some c
 |[],_,_,h,_=>by simp at h
 | (n,k)::r,cs,x,h,⟨a,ha⟩=>by
  rcases Wat.mp h with e|hm
  ·have e1:n=x:=(congrArg Prod.fst e).symm
   have e2:k=.free:=(congrArg Prod.snd e).symm;subst e1;subst e2;have e:clOf env ((n,.free)::r) cs=clOf env r ((n,a)::cs):=by simp[clOf,ha]
   rw[e];exact Zdx r _ ⟨a,by simp⟩
  ·unfold clOf
   split
   ·split
    ·exact Zcs r _ hm ⟨a,ha⟩
    ·exact Zcs r _ hm ⟨a,ha⟩
   ·exact Zcs r _ hm ⟨a,ha⟩
def relab (osc scope:Scope):Scope:=
 { scope with names:=scope.names.map λ(n,k)=>if (k == .free && osc.kind == .function && osc.names.lookup n == some .cell) then (n,.cell) else (n,k) }
theorem Zhn {osc scope:Scope}{x:Str}{k:NameKind}(hk:k=.cell\/k=.free) (hc:∀y∈scope.names,y.2≠.cell) (h:(relab osc scope).names.lookup x=some k):(x,NameKind.free)∈scope.names:=by
 have hm:=PySem.mem_of_lookup h;obtain⟨⟨n,j⟩,hy,e⟩:=Wa9.mp hm;dsimp only at e;split at e
 ·rename_i hj
  have e1:n=x:=congrArg Prod.fst e;have hj':j=.free:=by
   simp only[Wcb,beq_iff_eq]at hj;exact hj.1.1
  rw[<- e1,<- hj'];exact hy
 ·have e1:n=x:=congrArg Prod.fst e
  have e2:j=k:=congrArg Prod.snd e;rcases hk with z|z
  ·exact absurd (show ((n,j):Str × NameKind).2=.cell from e2.trans z) (hc _ hy)
  ·rw[<- e1,<- z,<- e2];exact hy
theorem Zed {osc:Scope}{x:Str}:∀{names:List (Str × NameKind)},names.lookup x=some .free →
  (names.map λ(n,k)=>if (k == NameKind.free && osc.kind == .function && osc.names.lookup n == some .cell) then (n,NameKind.cell) else (n,k)).lookup x=some .cell ∨
  (names.map λ(n,k)=>if (k == NameKind.free && osc.kind == .function && osc.names.lookup n == some .cell) then (n,NameKind.cell) else (n,k)).lookup x=some .free
 |[],h=>by simp at h
 | (n,k)::r,h=>by
  have ih:=@Zed osc x r;rw[Wbe];cases hx:x == n with
  |true=>
   simp only[Wbo,hx]at h;cases h;dsimp only;split
   ·left;simp[Wbo,hx]
   ·right;simp[Wbo,hx]
  |false=>
   simp only[Wbo,hx]at h;dsimp only;split
   ·simpa only[Wbo,hx] using ih h
   ·simpa only[Wbo,hx] using ih h
structure CompSc (osc:Scope) (oN:List Str) (scope:Scope) (fvs:List Str) (sel:List Nat):Prop where
 kind:scope.kind=.function
 nocell:∀y∈scope.names,y.2≠.cell
 names:∀y∈scope.names,y.2=.local->scope.names.lookup y.1=some .local
 free:∀y∈scope.names,y.2=.free->osc.names.lookup y.1=some .cell\/osc.names.lookup y.1=some .free
 len:fvs.length=sel.length
 fv:∀p∈fvs.zip sel,oN[p.2]?=some p.1/\scope.names.lookup p.1=some .free
def compCx (X:Cx) (scope:Scope) (N:List Str) (C:Addr) (s:Shared) (H:Hp) (ex:List Addr) (pn:List (Addr × Obj)):Cx where
 prog:=X.prog
 w:=X.w
 K:=X.K
 mg:=X.mg
 base:=X.base
 A:=X.A
 N:=N
 s₀:=s
 H₀:=H
 env:=compEnvC scope (clOf X.env scope.names []) C X.env
 outer:=X.stack
 stack:=X.stack
 ex:=ex
 fn:=λ_=>false
 calm:=X.calm
 pn:=pn
 xe:=λ_ _=>False
def compSt (n:Nat) (sel:List Nat) (σ:St):St:=Waj n none++sel.map λi=>(σ[i]?).getD none
section
variable {X:Cx}{pins:List (Addr × Obj)}{σ:St}{H:Hp}{s:Shared}{fp:List Addr}{scope:Scope}{tgs fvs:List Str}{sel:List Nat}
theorem Zd6 (S:CompSc X.env.scope X.N scope fvs sel) (ok:X.Ok):∀n,(n,NameKind.free)∈scope.names->∃a,X.env.cells.lookup n=some a:=λn hn=>
 ok.has n (S.free _ hn rfl)
theorem Zq1 (S:CompSc X.env.scope X.N scope fvs sel) (N:List Str) (I:Inv X pins σ H s) (hf:∀b∈fp,FpOk X pins H b) (hlt:∀b∈fp,b<s.heap.objs.size):(compCx X scope N s.heap.objs.size s H fp (X.pn++pins)).Ok where
 mod:=I.ok.mod
 kind:=S.kind
 glob:=I.ok.glob
 blt:=I.ok.blt
 above:=Wak _
 inj:=λx y c h1 h2=>I.ok.inj x y c (Zbf _ _ (λ_ _ z=>by simp at z) h1) (Zbf _ _ (λ_ _ z=>by simp at z) h2)
 has:=λx hx=>by
  have hm:(x,NameKind.free)∈scope.names:=by
   rcases hx with z|z
   ·exact Zhn (osc:=X.env.scope) (.inl rfl) S.nocell z
   ·exact Zhn (osc:=X.env.scope) (.inr rfl) S.nocell z
  exact Zcs scope.names [] hm (Zd6 S I.ok x hm)
 cab:=λx c h _=>by cases h
 hd:=I.ok.hd
 frames:=I.ok.frames
 stk:=.inl rfl
 exf:=λb hb=>⟨Was (hlt b hb),λx c e=>(hf b hb).2.2.2.2.1 x c (Zbf _ _ (λ_ _ z=>by simp at z) e)⟩
 bs:=I.bs
 bsz:=Wbl I.ok.bsz I.sz
 noex:=λb o e hb=>by
  rcases(hf b hb).2.2.2.1 with z|z
  ·exact I.ok.noex b o e z
  ·exact absurd (Wbb (Wam e) (Wbl I.ok.bsz z)) (Wck _)
 exfs:=λb hb z=>by
  rcases Wat.mp (I.stkSub b z) with e|z
  ·exact(hf b hb).2.1 e
  ·exact(hf b hb).2.2.1 z
 funs:=I.stack
 frf:=I.stkFree
theorem Zm9 (S:CompSc X.env.scope X.N scope fvs sel) (I:Inv X pins σ H s) (hf:∀b∈fp,FpOk X pins H b) (hlt:∀b∈fp,b<s.heap.objs.size) {h':Heap}{tk:Nat}{m:Str->Option Value}
  (hns:h'.Ns s.heap.objs.size m) (old:∀b o,s.heap.get? b=some o->h'.get? b=some o) :
  Inv (compCx X scope (tgs++fvs) s.heap.objs.size s H fp (X.pn++pins)) [] (compSt tgs.length sel σ) H { s with heap:=h',toks:=tk } where
 ok:=Zq1 S _ I hf hlt
 os:=rfl
 bare:=I.bare
 base:=Un.kept old
 loc:=by
  refine⟨m,hns,λi x v h1 h2 h3=>?_⟩;have h1:(tgs++fvs)[i]?=some x:=h1;unfold compSt at h2;by_cases hi:i<tgs.length
  ·rw[Wa8 (by simpa using hi),Wcd,if_pos hi]at h2
   cases h2
  ·have hi':tgs.length<=i:=Nat.le_of_not_lt hi
   rw[Wax (by simpa using hi'),Wad,Wa1]at h2;rw[Wax hi']at h1;cases hj:sel[i-tgs.length]? with
   |none=>rw[hj]at h2;cases h2
   |some j=>
    rw[hj]at h2;have h2:(σ[j]?).getD none=some v:=by simpa using h2
    have hz:(x,j)∈fvs.zip sel:=by
     refine Wan (i:=i-tgs.length) ?_;rw[Wbg];exact⟨h1,hj⟩
    obtain⟨hN,hfr⟩:=S.fv _ hz;have hσ:σ[j]?=some (some v):=by
     cases q:σ[j]? with
     |none=>rw[q]at h2;cases h2
     |some o=>rw[q]at h2;exact congrArg some h2
    have hko:X.env.scope.names.lookup x=some .cell\/X.env.scope.names.lookup x=some .free:=S.free (x,.free) (PySem.mem_of_lookup hfr) rfl;obtain⟨m0,hn0,hl0⟩:=I.loc;obtain⟨u,r,l⟩:=hl0 j x v hN hσ (.inr hko);refine⟨u,r,.inr ⟨Zed hfr,?_⟩⟩;rcases l with ⟨hk,_⟩|⟨_,c,hc,hcell⟩
    ·have hk:X.env.scope.names.lookup x=some .local:=hk
     rcases hko with z|z <;> (rw[hk]at z;cases z)
    ·obtain⟨c',hc'⟩:=Zcs scope.names [] (PySem.mem_of_lookup hfr) ⟨c,hc⟩
     have e:=Zbf scope.names [] (λ_ _ z=>by simp at z) hc';rw[hc]at e;cases e;obtain⟨o,ho,hd⟩:=hcell;exact⟨c,hc',o,old _ _ ho,hd⟩
 cell:=λx c e=>by
  obtain⟨v,o,ho,hd⟩:=I.cell x c (Zbf _ _ (λ_ _ z=>by simp at z) e);exact⟨v,o,old _ _ ho,hd⟩
 free:=I.hok.fresh (Wak _)
 freeC:=λx c e=>I.freeC x c (Zbf _ _ (λ_ _ z=>by simp at z) e)
 pin:=λp hp=>by
  have hp:p∈(X.pn++pins)++[]:=hp;rw[Wbf]at hp;obtain⟨e,n,ne,nf,d⟩:=I.pin p hp;refine⟨old _ _ e,n,Was (Wam e),λz=>?_,d⟩;rcases Wat.mp (I.stkSub p.1 z) with q|q
  ·exact ne q
  ·exact nf q
 hok:=I.hok.kept old
 len:=by
  unfold compSt;show _=(tgs++fvs).length;rw[Waw,Waw,Wa1,Wab,S.len]
theorem Zm6 {N:List Str}{σ':St}{H':Hp}{s':Shared}{h':Heap}(I:Inv X pins σ H s) (hf:∀b∈fp,FpOk X pins H b)
  (J:Inv (compCx X scope N s.heap.objs.size s H fp (X.pn++pins)) [] σ' H' s') (sb:Heap.SameBut s.heap.objs.size s'.heap h'):Inv X pins σ H' { s' with heap:=h' }:=by
 have B:Un (frs X.stack) fp H H' s.heap s'.heap:=J.base;have ne:∀b o,s.heap.get? b=some o->b≠s.heap.objs.size:=λb o e=>Was (Wam e);have fr:H' s.heap.objs.size=none:=J.free;refine I.call' (s':={ s' with heap:=h' }) (ch:=fp) J.os ⟨λb o e n h1 h2=>?_,λb o e n h1 h2=>?_,B.free,λb o e h2=>?_,B.tups,B.frzs,B.tbls⟩ (λb ob e=>?_) J.bare λb hb=>?_
 ·exact(sb.2 b (ne b o e)).trans (B.keep b o e n h1 h2)
 ·obtain⟨sl,q⟩:=B.slot b o e n h1 h2
  exact⟨sl,(sb.2 b (ne b o e)).trans q⟩
 ·obtain⟨o',q⟩:=B.there b o e h2
  exact⟨o',(sb.2 b (ne b o e)).trans q⟩
 ·refine(J.hok b ob e).stay (λc w' hc q=>(sb.2 c ?_).trans q) (λ_ q=>q) λ_ _ q=>q
  intro z;rcases hc with hc|hc
  ·rw[<- hc,z,fr]at e;cases e
  ·rw[z,fr]at hc;cases hc
 ·exact⟨(hf b hb).2.2.2.1,(hf b hb).2.1,(hf b hb).2.2.2.2.1,(hf b hb).2.2.2.2.2⟩
end
def PTs (X:Cx) (ifs:List Expr) (t:TT):Prop:=
 ∀(pins:List (Addr × Obj)) (s:Shared) (σ:St) (H:Hp) (Q:Bool->Hp->Prop),Inv X pins σ H s->t σ H Q →
  wpAny (model X.prog X.w) X.A (forIn ifs true λc r=>if r=true then do let ok ← isTrue c X.env (eval c X.env);pure (ForInStep.yield ok) else pure (ForInStep.yield r)) (TP X pins σ Q) X.xe s
def tTrue:TT:=λ_ H Q=>Q true H
theorem Za4 {X:Cx}:PTs X [] tTrue:=λpins s σ H Q I h=>wpAny_tests_nil ⟨H,I,h⟩
theorem Zp6 {X:Cx}{c:Expr}{t:TT}(h:PT X c t):PTs X [c] t:=λpins s σ H Q I hq=>wpAny_tests_one (h pins s σ H Q I hq)
def tComp (n:Nat) (sel:List Nat) (wi:TI) (g:TG) (tc:TT) (te:TE):TE:=λσ H Q=>wi σ H λJ H1=>∀acc,H1 acc=none->∃W:Nat->Nat->St->Hp->Prop,
 (∃m,W 0 m (compSt n sel σ) (upd H1 acc (.lst [])))/\∀i m σ' H',W i m σ' H' →
  (J.stop i H' /\ Q (.ref acc) H')\/(J.go i H' /\ ∃N:St->Hp->Prop,(∀σ2 H2,N σ2 H2->∃m',m'<m/\W (i+1) m' σ2 H2) ∧
   ∀x H2,J.yld i H' x H2->g x σ' H2 λσ2 H3=>tc σ2 H3 λb H4=>if b=true then te σ2 H4 λy H5=>∃ys,H5 acc=some (.lst ys)/\ys.length<sizeLine/\N σ2 (upd H5 acc (.lst (ys++[y]))) else N σ2 H4)
section
variable {X:Cx}
theorem Zhx {elt tg iter:Expr}{ifs:List Expr}{scope:Scope}{pos:Pos}{tgs fvs:List Str}{sel:List Nat}{g:TG}{tc:TT}{te:TE}(S:CompSc X.env.scope X.N scope fvs sel) {Cm:Cx->Prop}(hc:∀C s H ex pn,Cm (compCx X scope (tgs++fvs) C s H ex pn))
  (hg:∀C s H ex pn,PG (compCx X scope (tgs++fvs) C s H ex pn) tg g) (ht:∀C s H ex pn,PTs (compCx X scope (tgs++fvs) C s H ex pn) ifs tc) (he:∀C s H ex pn,PE (compCx X scope (tgs++fvs) C s H ex pn) elt te)
  {pins:List (Addr × Obj)}{σ:St}{s:Shared}{itv:Value}{Q:VK}{E:Value->Shared->Prop}{RR:Value->Addr->Result->Shared->Prop}
  (h2:PIEG Cm X pins σ tg (λJ H1=>∀acc,H1 acc=none->∃W:Nat->Nat->St->Hp->Prop,
   (∃m,W 0 m (compSt tgs.length sel σ) (upd H1 acc (.lst [])))/\∀i m σ' H',W i m σ' H' →
   (J.stop i H' /\ Q (.ref acc) H')\/(J.go i H' /\ ∃N:St->Hp->Prop,(∀σ2 H2,N σ2 H2->∃m',m'<m/\W (i+1) m' σ2 H2) ∧
   ∀x H2,J.yld i H' x H2->g x σ' H2 λσ2 H3=>tc σ2 H3 λb H4=>if b=true then te σ2 H4 λy H5=>∃ys,H5 acc=some (.lst ys)/\ys.length<sizeLine/\N σ2 (upd H5 acc (.lst (ys++[y]))) else N σ2 H4)) itv s)
  (fin:∀(s':Shared) (C acc:Addr) (H':Hp) (m:Str->Option Value),s'.heap.Ns C m->FpOk X pins H' C->(∀h',Heap.SameBut C s'.heap h' -> Inv X pins σ H' { s' with heap:=h' })->Q (.ref acc) H' -> RR (.ref acc) C (.ok .next) s') :
  wpAny (model X.prog X.w) X.A (newList []) (λacc s3=>wpAny (model X.prog X.w) X.A (newFunctionEnv scope X.env.globals (clOf X.env scope.names []) [] X.env.qual none .none (some X.env)) (λcenv s4=>
   codeAny (model X.prog X.w) X.A (.compStart (.ListComp elt [⟨tg,iter,ifs,0⟩] scope pos) 0 itv acc { cenv with scope:=relabel scope X.env }) (RR acc cenv.locals) s4) E s3) E s:=by
 obtain⟨it,fp,tn,J,H1,e,I,T,st,f2,h2⟩:=h2;subst e;have hlt:∀b∈fp,b<s.heap.objs.size:=λb hb=>let ⟨o,ho,_⟩:=T.obj 0 _ st b hb; Wam ho
 refine wpAny_newObj_type (wpAny_newFunctionEnv S.nocell (by intro y hy;simp at hy) (λh1 hns hsb=>?_) S.kind);dsimp only at hns hsb ⊢;have I3:Inv X pins σ (upd H1 s.heap.objs.size (.lst [])) { s with heap:=s.heap.push { cls:=.type "list",data:=.seq ([]:List Value).toArray },toks:=s.toks }:=I.lnew (its:=[]) .nil (by decide);have hacc:H1 s.heap.objs.size=none:=I.hok.fresh (Wak _);obtain⟨W,⟨m0,w0⟩,turn⟩:=h2 s.heap.objs.size hacc;generalize hs3:({ s with heap:=s.heap.push { cls:=.type "list",data:=.seq ([]:List Value).toArray },toks:=s.toks }:Shared)=s3 at I3;have hh3:s3.heap=s.heap.push { cls:=.type "list",data:=.seq ([]:List Value).toArray }:=by rw[<- hs3]
 have old3:∀b o,s.heap.get? b=some o->s3.heap.get? b=some o:=λb o q=>by rw[hh3];exact Wae _ q
 have hf3:∀b∈fp,FpOk X pins (upd H1 s.heap.objs.size (.lst [])) b:=λb hb=>⟨by rw[Zas (Was (hlt b hb))];exact(f2 b hb).1,(f2 b hb).2⟩;have hlt3:∀b∈fp,b<s3.heap.objs.size:=λb hb=>by rw[hh3,Wdl];exact Wbm (hlt b hb)
 have tn3:tn 0 s3.heap:=T.keep 0 _ _ st λb hb o q=>old3 b o q;have old4:∀b o,s3.heap.get? b=some o->h1.get? b=some o:=λb o q=>by
  have hb:b≠s3.heap.objs.size:=Was (Wam q);rw[hh3]at hb q;exact(hsb.2 b hb).trans (Wae _ q)
 have tn4:tn 0 h1:=T.keep 0 _ _ tn3 λb hb o q=>old4 b o q;have hC:(s.heap.push { cls:=.type "list",data:=.seq ([]:List Value).toArray }).objs.size=s3.heap.objs.size:=by rw[hh3]
 rw[hC]at hns;have J0:=Zm9 (tgs:=tgs) (tk:=s.toks+([]:List (Str × Value)).length) S I3 hf3 hlt3 hns old4;have es:({ s3 with heap:=h1,toks:=s.toks+([]:List (Str × Value)).length }:Shared) = { s with heap:=h1,toks:=s.toks+([]:List (Str × Value)).length }:=by rw[<- hs3]
 rw[es]at J0;generalize hY:compCx X scope (tgs++fvs) s3.heap.objs.size s3 (upd H1 s.heap.objs.size (.lst [])) fp (X.pn++pins)=Y at J0;have hYp:Y.prog=X.prog:=by rw[<- hY];rfl
 have hYw:Y.w=X.w:=by rw[<- hY];rfl
 have hYK:Y.K=X.K:=by rw[<- hY];rfl
 have hYA:Y.A=X.A:=by rw[<- hY];rfl
 have hYc:Cm Y:=by rw[<- hY];exact hc _ _ _ _ _
 have hYx:Y.xe=λ_ _=>False:=by rw[<- hY];rfl
 have hYe:Y.env=compEnvC scope (clOf X.env scope.names []) s3.heap.objs.size X.env:=by rw[<- hY];rfl
 have stat:∀{H':Hp},(∀b∈fp,H' b=none)->∀b∈fp,FpOk Y [] H' b:=λhn b hb=>by
  rw[<- hY];refine⟨hn b hb,Was (hlt3 b hb),λz=>?_,.inl hb,λx c e=>?_,λp hp z=>?_⟩
  ·rcases Wat.mp (I3.stkSub b z) with q|q
   ·exact(hf3 b hb).2.1 q
   ·exact(hf3 b hb).2.2.1 q
  ·exact(hf3 b hb).2.2.2.2.1 x c (Zbf _ _ (λ_ _ z=>by simp at z) e)
  ·have hp:p∈(X.pn++pins)++[]:=hp
   rw[Wbf]at hp;exact(hf3 b hb).2.2.2.2.2 p hp z
 have loop:codeAny (model X.prog X.w) X.A (.compLoop (.ListComp elt [⟨tg,iter,ifs,0⟩] scope pos) 0 (.ref it) (.ref s.heap.objs.size) Y.env) (RR (.ref s.heap.objs.size) s3.heap.objs.size)
   { s with heap:=h1,toks:=s.toks+([]:List (Str × Value)).length }:=by
  refine codeAny_loop rfl (λn s'=>∃i σ' H',Inv Y [] σ' H' s' /\ tn i s'.heap/\(∀b∈fp,H' b=none)/\W i n σ' H') ?_ m0 ⟨0,_,_,J0,tn4,λb hb=>(hf3 b hb).1,w0⟩;rintro n s5 ⟨i,σ5,H5,I5,st5,fr5,w5⟩;show wpAny _ X.A ((compTurn (.ListComp elt [⟨tg,iter,ifs,0⟩] scope pos) 0 (.ref it) (.ref s.heap.objs.size) Y.env).onRaise (λx=>do noteFrame x Y.env;theTreesLotGoes x)) _ _ s5;refine wpAny_noted (wpAny_mono (E:=λ_ _=>False) ?_ (λ_ _ q=>q) λ_ _ z=>z.elim);rw[compTurn_list];refine wpAny_bind (wpAny_standAt (wpAny_bind ?_));rcases turn i n σ5 H5 w5 with ⟨stop,qn⟩|⟨go,N,hN,step⟩
  ·have D:=T.done Y hYp hYw hYK hYc i [] s5 σ5 H5 (λ_ _=>False) I5 (stat fr5) st5 stop
   rw[hYA]at D;refine thn D λr s6 ⟨hr,I6⟩=>?_;subst hr;refine wpAny_pure ?_;obtain⟨m6,hn6,_⟩:=I6.loc;rw[hYe]at hn6;refine fin s6 _ _ H5 m6 hn6 (I3.fpOk (Wak _) (by have z:=I6.free;rw[hYe]at z;exact z)) (λh' sb=>?_) qn;have I6':Inv (compCx X scope (tgs++fvs) s3.heap.objs.size s3 (upd H1 s.heap.objs.size (.lst [])) fp (X.pn++pins)) [] σ5 H5 s6:=by rw[hY];exact I6
   exact Zm6 I3 hf3 I6' sb
  ·have D:=T.item Y hYp hYw hYK hYc i [] s5 σ5 H5 (λ_ _=>False) I5 (stat fr5) st5 go
   rw[hYA]at D;refine thn D λr s6 ⟨u,hr,h6⟩=>?_;subst hr;refine wpAny_bind (thn h6 λ_ s7 ⟨x,H7,I7,r7,y7,st7,fr7⟩=>?_);have I7':=I7.pinned (stat fr7) (T.obj _ _ st7);have G:=hg s3.heap.objs.size s3 (upd H1 s.heap.objs.size (.lst [])) fp (X.pn++pins);have TT:=ht s3.heap.objs.size s3 (upd H1 s.heap.objs.size (.lst [])) fp (X.pn++pins);have EE:=he s3.heap.objs.size s3 (upd H1 s.heap.objs.size (.lst [])) fp (X.pn++pins);rw[hY]at G TT EE;have G1:=G _ s7 σ5 H7 x u _ I7' r7 (step x H7 y7);rw[hYp,hYw,hYA,hYx]at G1;refine wpAny_bind (thn G1 λ_ s8 ⟨σ8,H8,I8,q8⟩=>?_);have T1:=TT _ s8 σ8 H8 _ I8 q8;rw[hYp,hYw,hYA,hYx]at T1;refine wpAny_bind (thn T1 λok s9 ⟨H9,I9,q9⟩=>?_);have again:∀{s':Shared}{σ':St}{H':Hp},Inv Y ([]++pinsAt fp s7.heap) σ' H' s' -> N σ' H' -> ∃m,m<n/\∃i σ' H',Inv Y [] σ' H' s' /\ tn i s'.heap/\(∀b∈fp,H' b=none)/\W i m σ' H':=λ{s' σ' H'} K7 n7=>by
    obtain⟨m',hm,w7⟩:=hN σ' H' n7;refine⟨m',hm,i+1,σ',H',K7.unpinned,T.keep _ _ _ st7 λb hb o e=>(K7.pin (b,o) (Waz _ (Waz _ (Zb3 hb e)))).1,λb hb=>?_,w7⟩;obtain⟨o,e,d⟩:=T.obj _ _ st7 b hb;exact(K7.pin (b,o) (Waz _ (Waz _ (Zb3 hb e)))).2.1
   cases ok with
   |false=>
    have q9:N σ8 H9:=q9;exact wpAny_pure ⟨by rw[hYe],again I9 q9⟩
   |true=>
    have q9:te σ8 H9 λy H5=>∃ys,H5 s.heap.objs.size=some (.lst ys)/\ys.length<sizeLine/\N σ8 (upd H5 s.heap.objs.size (.lst (ys++[y]))):=q9;have E1:=EE _ s9 σ8 H9 _ I9 q9;rw[hYp,hYw,hYA,hYx]at E1;refine wpAny_bind (wpAny_bind (thn E1 λv sa ⟨y,Ha,Ia,ra,ys,ea,za,na⟩=>?_));have M:=Zc4 (X:=Y) _ sa σ8 Ha (.ref s.heap.objs.size) [y] (.ref s.heap.objs.size) [v] (λ_ H=>N σ8 H) Ia rfl (.cons ra .nil) ⟨_,ys,y,rfl,rfl,ea,za,na⟩;rw[hYp,hYw,hYA,hYx]at M;refine wpAny_bind (thn M λ_ sb ⟨_,Hb,Ib,_,nb⟩=>wpAny_pure (wpAny_pure ⟨by rw[hYe],again Ib nb⟩))
 have hcs:(relabel scope X.env)=(relabel scope X.env):=rfl;have loop':=loop;rw[hYe]at loop';show codeAny (model X.prog X.w) X.A (.compStart (.ListComp elt [⟨tg,iter,ifs,0⟩] scope pos) 0 (.ref it) (.ref s.heap.objs.size) (compEnvC scope (clOf X.env scope.names []) (s.heap.push { cls:=.type "list",data:=.seq ([]:List Value).toArray }).objs.size X.env)) (RR (.ref s.heap.objs.size) (s.heap.push { cls:=.type "list",data:=.seq ([]:List Value).toArray }).objs.size) _;rw[hC];exact codeAny_compStart_list loop' (T.self _ 0 _ _ _ tn4 loop')
theorem Za8 {elt tg iter:Expr}{ifs:List Expr}{scope:Scope}{pos:Pos}{fvs:List Str}{sel:List Nat}{wi:TI}{g:TG}{tc:TT}{te:TE}(tgs:List Str) (S:CompSc X.env.scope X.N scope fvs sel) (hc:X.calm=true)
  (hi:PI X tg iter wi) (hg:∀C s H ex pn,PG (compCx X scope (tgs++fvs) C s H ex pn) tg g) (ht:∀C s H ex pn,PTs (compCx X scope (tgs++fvs) C s H ex pn) ifs tc) (he:∀C s H ex pn,PE (compCx X scope (tgs++fvs) C s H ex pn) elt te)
  (hs:∀x,foldedSetIterable iter X.env x=pure x:=by intro _;rfl) :
  PE X (.ListComp elt [⟨tg,iter,ifs,0⟩] scope pos) (tComp tgs.length sel wi g tc te):=by
 intro pins s σ H Q I h;rw[eval_ListComp];refine wpAny_comprehension_free (use:=none) rfl hs (Zb5 (Zd6 S I.ok)) S.kind S.names (thn (hi pins s σ H _ I h) λv s1 h1=>thn h1 λitv s2 h2=>?_);refine Zhx (Cm:=λX=>X.calm=true) S (λ_ _ _ _ _=>hc) hg ht he (RR:=λacc C=>compPost (model X.prog X.w) X.A X.xe none (EP X pins σ Q) acc C) (Q:=Q) h2 ?_;intro s' C acc H' m hn _ hI q;exact⟨m,hn,λh' sb=>⟨.ref acc,H',hI h' sb,rfl,q⟩⟩
theorem Zdc {elt tg iter:Expr}{ifs:List Expr}{scope:Scope}{pos spos py:Pos}{fvs:List Str}{sel:List Nat}{wi:TI}{g:TG}{tc:TT}{te:TE}{i:Nat}{y:Str}(tgs:List Str) (S:CompSc X.env.scope X.N scope fvs sel) (hc:X.calm=true)
  (hN:X.N.Nodup) (hiy:X.N[i]?=some y) (hx:Loc X.env.scope y)
  (hi:PI X tg iter wi) (hg:∀C s H ex pn,PG (compCx X scope (tgs++fvs) C s H ex pn) tg g) (ht:∀C s H ex pn,PTs (compCx X scope (tgs++fvs) C s H ex pn) ifs tc) (he:∀C s H ex pn,PE (compCx X scope (tgs++fvs) C s H ex pn) elt te)
  (hs:∀x,foldedSetIterable iter X.env x=pure x:=by intro _;rfl) (hsw:swapsWith (.ListComp elt [⟨tg,iter,ifs,0⟩] scope pos) (some (.Name y py)) spos.line X.env=pure true:=by rfl)
  (hf:X.fn y=true\/X.env.scope.names.lookup y=some .local:=by first|exact .inl rfl|exact .inr rfl|assumption) :
  PS X (.Assign [.Name y py] (.ListComp elt [⟨tg,iter,ifs,0⟩] scope pos) spos) (tAsg (tComp tgs.length sel wi g tc te) (gName i)):=by
 intro pins s σ H D I h;rw[exec_Assign_Name_used _ _ _ _ hsw];refine wpAny_bind (wpAny_standAt (wpAny_bind ?_));show wpAny _ X.A (do let _ ← comprehension (.ListComp elt [⟨tg,iter,ifs,0⟩] scope pos) scope X.env _ (newList []) false (eval iter X.env) (some (assign (.Name y py) X.env))) _ _ s;refine wpAny_bind (wpAny_mono (wpAny_comprehension_free (use:=some (assign (.Name y py) X.env)) (Q:=λ_ s'=>SP X pins D .next s') rfl hs (Zb5 (Zd6 S I.ok)) S.kind S.names
  (thn (hi pins s σ H _ I h) λv s1 h1=>thn h1 λitv s2 h2=>?_)) (λ_ s' hq=>wpAny_pure (wpAny_pure hq)) λ_ _ e=>e)
 refine Zhx (Cm:=λX=>X.calm=true) S (λ_ _ _ _ _=>hc) hg ht he (RR:=λacc C=>compPost (model X.prog X.w) X.A X.xe (some (assign (.Name y py) X.env)) (λ_ s'=>SP X pins D .next s') acc C) (Q:=λv H'=>D.nx (σ.set i (some v)) H') h2 ?_;intro s' C acc H' m hn fp hI q;have I0:Inv X pins σ H' s':=hI s'.heap (.refl ..);show wpAny _ X.A (assign (.Name y py) X.env (.ref acc)) _ _ _;refine wpAny_assign_Name (Zib (v:=.ref acc) I0 hN hiy hx rfl (λs2 I2 hsb=>?_) hf);obtain⟨a,sb,ha⟩:=hsb;have hCa:C≠a:=by
  rcases ha with z|z
  ·rw[z];exact fp.2.1
  ·exact Ne.symm (fp.2.2.2.2.1 y a z)
 refine⟨m,hn.sameBut sb hCa,λh' sb'=>?_⟩;obtain⟨f0,f1,f2,f3,f4,f5⟩:=fp;exact⟨_,H',I2.turned (t':=s2.toks) (it:=C) (λb o hb e=>(sb'.2 b hb).trans e) f0 f1 f3 f4 f5,q⟩
end
def InsC (a C:Addr) (h:Heap):Prop:=∃ox vs,h.get? a=some ox/\ox.cls=.ref C/\ox.data=.fields vs/\vs[2]?=some .none
inductive D where
 |non|bl (b:Bool)|int (i:Int)|str (x:Str)|ty (n:String)|tup (ds:List D)|lst (ds:List D)|scr (ds:List D)|adr (a:Addr)|dct (ks:List Key) (ds:List D)|exc (a C:Addr)
mutual
inductive Rep (K:W.Frag) (G:Hp):V->D->Prop
 |non:Rep K G .non .non
 |bl (b:Bool):Rep K G (.bl b) (.bl b)
 |int (i:Int):Rep K G (.int i) (.int i)
 |str (x:Str):Rep K G (.str x) (.str x)
 |ty (n:String):Rep K G (.ty n) (.ty n)
 |tup {a:Addr}{vs:List V}{ds:List D}:G a=some (.tup vs)->Reps K G vs ds->Rep K G (.ref a) (.tup ds)
 |lst {a:Addr}{vs:List V}{ds:List D}:G a=some (.lst vs)->Reps K G vs ds->Rep K G (.ref a) (.lst ds)
 |scr {a:Addr}{vs:List V}{ds:List D}:SqL K G a vs->Reps K G vs ds->Rep K G (.ref a) (.scr ds)
 |adr (a:Addr):Rep K G (.ref a) (.adr a)
 |dct {a:Addr}{ks:List Key}{vs:List V}{ds:List D}:G a=some (.dK (ks.zip vs))->ks.length=vs.length->Reps K G vs ds->Rep K G (.ref a) (.dct ks ds)
 |exc {a C:Addr}:G a=some (.ext (InsC a C))->Rep K G (.ref a) (.exc a C)
inductive Reps (K:W.Frag) (G:Hp):List V->List D->Prop
 |nil:Reps K G [] []
 |cons {v:V}{d:D}{vs:List V}{ds:List D}:Rep K G v d->Reps K G vs ds->Reps K G (v::vs) (d::ds)
end
def RepI (K:W.Frag) (G:Hp) (v:V):D->Prop
 |.non=>v=.non
 |.bl b=>v=.bl b
 |.int i=>v=.int i
 |.str x=>v=.str x
 |.ty n=>v=.ty n
 |.tup ds=>∃a vs,v=.ref a/\G a=some (.tup vs)/\Reps K G vs ds
 |.lst ds=>∃a vs,v=.ref a/\G a=some (.lst vs)/\Reps K G vs ds
 |.scr ds=>∃a vs,v=.ref a/\SqL K G a vs/\Reps K G vs ds
 |.adr a=>v=.ref a
 |.dct ks ds=>∃a vs,v=.ref a/\G a=some (.dK (ks.zip vs))/\ks.length=vs.length/\Reps K G vs ds
 |.exc a C=>v=.ref a/\G a=some (.ext (InsC a C))
theorem Rep.inv {K:W.Frag}{G:Hp}{v:V}{d:D}(r:Rep K G v d):RepI K G v d:=by
 cases r with
 |tup h r=>exact⟨_,_,rfl,h,r⟩
 |lst h r=>exact⟨_,_,rfl,h,r⟩
 |scr h r=>exact⟨_,_,rfl,h,r⟩
 |dct h l r=>exact⟨_,_,rfl,h,l,r⟩
 |exc h=>exact⟨rfl,h⟩
 |_=>rfl
def RepsI (K:W.Frag) (G:Hp) (vs:List V):List D->Prop
 |[]=>vs=[]
 |d::ds=>∃v ws,vs=v::ws/\Rep K G v d/\Reps K G ws ds
theorem Reps.inv {K:W.Frag}{G:Hp}{vs:List V}{ds:List D}(r:Reps K G vs ds):RepsI K G vs ds:=by
 cases r with
 |nil=>rfl
 |cons a b=>exact⟨_,_,rfl,a,b⟩
section
variable {K:W.Frag}{G G' H H':Hp}
mutual
theorem Rep.mono (s:Same G G'):∀{v:V}{d:D},Rep K G v d->Rep K G' v d
 |_,_,.non=>.non
 |_,_,.bl b=>.bl b
 |_,_,.int i=>.int i
 |_,_,.str x=>.str x
 |_,_,.ty n=>.ty n
 |_,_,.tup h r=>.tup (s _ _ h) (Reps.mono s r)
 |_,_,.lst h r=>.lst (s _ _ h) (Reps.mono s r)
 |_,_,.scr h r=>.scr (s.seq h) (Reps.mono s r)
 |_,_,.adr a=>.adr a
 |_,_,.dct h l r=>.dct (s _ _ h) l (Reps.mono s r)
 |_,_,.exc h=>.exc (s _ _ h)
theorem Reps.mono (s:Same G G'):∀{vs:List V}{ds:List D},Reps K G vs ds->Reps K G' vs ds
 |_,_,.nil=>.nil
 |_,_,.cons h r=>.cons (Rep.mono s h) (Reps.mono s r)
end
theorem Reps.length:∀{vs:List V}{ds:List D},Reps K G vs ds->vs.length=ds.length
 |_,_,.nil=>rfl
 |_,_,.cons _ r=>by rw[Wao,Wao,r.length]
theorem Reps.get:∀{vs:List V}{ds:List D}{i:Nat}{d:D},Reps K G vs ds->ds[i]?=some d->∃v,vs[i]?=some v/\Rep K G v d
 |_,_,_,_,.nil,e=>by simp at e
 |_,_,0,_,.cons r _,e=>by simp at e;subst e;exact⟨_,rfl,r⟩
 |_,_,i+1,d,.cons _ t,e=>by
  obtain⟨u,h1,h2⟩:=Reps.get (i:=i) (d:=d) t (by simpa using e);exact⟨u,by simpa using h1,h2⟩
theorem Reps.get':∀{vs:List V}{ds:List D}{i:Nat}{v:V},Reps K G vs ds->vs[i]?=some v->∃d,ds[i]?=some d/\Rep K G v d
 |_,_,_,_,.nil,e=>by simp at e
 |_,_,0,_,.cons r _,e=>by simp at e;subst e;exact⟨_,rfl,r⟩
 |_,_,i+1,d,.cons _ t,e=>by
  obtain⟨u,h1,h2⟩:=Reps.get' (i:=i) (v:=d) t (by simpa using e);exact⟨u,by simpa using h1,h2⟩
theorem Reps.append:∀{vs ws:List V}{ds es:List D},Reps K G vs ds->Reps K G ws es->Reps K G (vs++ws) (ds++es)
 |_,_,_,_,.nil,s=>s
 |_,_,_,_,.cons r t,s=>.cons r (Reps.append t s)
theorem Reps.take:∀{vs:List V}{ds:List D}(n:Nat),Reps K G vs ds->Reps K G (vs.take n) (ds.take n)
 |_,_,0,_=>.nil
 |_,_,_+1,.nil=>.nil
 |_,_,n+1,.cons r t=>.cons r (Reps.take n t)
theorem Reps.drop:∀{vs:List V}{ds:List D}(n:Nat),Reps K G vs ds->Reps K G (vs.drop n) (ds.drop n)
 |_,_,0,r=>r
 |_,_,_+1,.nil=>.nil
 |_,_,n+1,.cons _ t=>Reps.drop n t
theorem Reps.reverse {vs:List V}{ds:List D}(h:Reps K G vs ds):Reps K G vs.reverse ds.reverse:=by
 induction vs generalizing ds with
 |nil=>cases h;exact .nil
 |cons v vs ih=>
  cases h with
  |cons r t=>rw[Wc9,Wc9];exact(ih t).append (.cons r .nil)
theorem Reps.set:∀{vs:List V}{ds:List D}{v:V}{d:D}(i:Nat),Reps K G vs ds->Rep K G v d->Reps K G (vs.set i v) (ds.set i d)
 |_,_,_,_,_,.nil,_=>.nil
 |_,_,_,_,0,.cons _ t,q=>.cons q t
 |_,_,_,_,i+1,.cons r t,q=>.cons r (Reps.set i t q)
theorem Reps.ints {vs:List V}:∀{ns:List Int},Reps K G vs (ns.map D.int)->vs=ns.map V.int:=by
 induction vs with
 |nil=>intro ns h;cases ns with
  |nil=>rfl
  |cons n ns=>cases h
 |cons v vs ih=>intro ns h;cases ns with
  |nil=>cases h
  |cons n ns=>
   cases h with
   |cons r t=>cases r.inv;rw[ih t];rfl
theorem Reps.ofInts:∀(ns:List Int),Reps K G (ns.map V.int) (ns.map D.int)
 |[]=>.nil
 |n::ns=>.cons (.int n) (Reps.ofInts ns)
theorem Zg1 {vs:List V}{ds:List D}{i:Int}{d:D}(r:Reps K G vs ds) (h:atI ds i=some d):∃v,atI vs i=some v/\Rep K G v d:=by
 unfold atI at h ⊢;rw[<- r.length]at h;cases e:ixN vs.length i with
 |none=>rw[e]at h;cases h
 |some j=>rw[e]at h;exact r.get h
end
inductive OD where
 |lst (ds:List D)|dct (kvs:List (Key × D))|set (S:Int->Bool) (n:Nat)|dtt (kvs:List (List Key × D))
def OwnRep (K:W.Frag) (G:Hp):HO->OD->Prop
 |.lst vs,.lst ds=>Reps K G vs ds
 |.dK kvs,.dct kds=>Paired (λ(p:Key × V) (q:Key × D)=>p.1=q.1/\Rep K G p.2 q.2) kvs kds
 |.set S n,.set S' n'=>S=S' /\ n=n'
 |.dT kvs,.dtt kds=>Paired (λ(p:List Key × V) (q:List Key × D)=>p.1=q.1/\Rep K G p.2 q.2) kvs kds
 |_,_=>False
theorem OwnRep.mono {K:W.Frag}{G G':Hp}(s:Same G G') {o:HO}{od:OD}(h:OwnRep K G o od):OwnRep K G' o od:=by
 cases o <;> cases od <;> first
  |exact h.elim
  |exact Reps.mono s h
  |exact Paired.mapP h λ_ _ z=>⟨z.1,z.2.mono s⟩
  |exact h
inductive Slot where
 |any|val (d:D)|own (o:OD)|bor (o:OD)|ownA (a:Addr) (o:OD)
abbrev Evt:=List Slot
def Slot.od:Slot->Option OD
 |.own o=>some o
 |.bor o=>some o
 |.ownA _ o=>some o
 |_=>none
structure Gm where
 B:Addr->Prop
 F:Hp
 Hz:Hp
 Xo:Hp
def SlotAt (g:Gm) (x:Slot) (a:Addr):Prop:=match x with
 |.own _=>g.Hz a=none
 |.bor _=>g.B a
 |.ownA b _=>b=a/\g.Hz a=none
 |_=>True
structure Ok (K:W.Frag) (g:Gm) (G H:Hp) (σ:St) (Δ:Evt):Prop where
 same:∀b o,¬ g.B b->g.Hz b=some o->H b=some o
 lent:∀b,g.B b->H b≠none
 sub:Same g.F G
 frz:∀b o,G b=some o->H b=some o/\(g.Hz b=none\/g.F b=some o)
 ext:∀b o,g.Xo b=some o->H b=some o/\G b=none/\∀(i:Nat) x od,Δ[i]?=some x->x.od=some od -> σ[i]?≠some (some (.ref b))
 len:Δ.length = σ.length
 val:∀(i:Nat) d,Δ[i]?=some (.val d)->∃v,σ[i]?=some (some v)/\Rep K G v d
 own:∀(i:Nat) x od,Δ[i]?=some x->x.od=some od->∃a o,σ[i]?=some (some (.ref a))/\H a=some o/\OwnRep K G o od/\G a=none/\SlotAt g x a
 dis:∀(i j:Nat) x y od od' a,Δ[i]?=some x->x.od=some od -> Δ[j]?=some y->y.od=some od' -> σ[i]?=some (some (.ref a)) -> σ[j]?=some (some (.ref a))->i=j
section
variable {K:W.Frag}{g:Gm}{G H G' H':Hp}{σ:St}{Δ:Evt}
theorem Ok.live (k:Ok K g G H σ Δ):Same G H:=λb o e=>(k.frz b o e).1
theorem Ok.there (k:Ok K g G H σ Δ) {b:Addr}(h:H b=none):g.Hz b=none:=by
 cases e:g.Hz b with
 |none=>rfl
 |some o=>
  by_cases hb:g.B b
  ·exact absurd h (k.lent b hb)
  ·have:=k.same b o hb e
   rw[h]at this;cases this
theorem Ok.grow (k:Ok K g G H σ Δ) (sg:Same G G') (sh:Same H H') (hg:∀b o,G' b=some o->H' b=some o/\(G b=some o\/H b=none)):Ok K g G' H' σ Δ where
 same:=λb o hb e=>sh b o (k.same b o hb e)
 lent:=λb hb z=>by
  cases e:H b with
  |none=>exact k.lent b hb e
  |some o=>rw[sh b o e]at z;cases z
 sub:=k.sub.trans sg
 frz:=λb o e=>by
  obtain⟨h1,h2⟩:=hg b o e;refine⟨h1,?_⟩;rcases h2 with z|z
  ·exact(k.frz b o z).2
  ·exact .inl (k.there z)
 ext:=λb o e=>by
  obtain⟨h1,h2,h3⟩:=k.ext b o e;refine⟨sh b o h1,?_,h3⟩;cases q:G' b with
  |none=>rfl
  |some o'=>
   rcases(hg b o' q).2 with z|z
   ·rw[h2]at z;cases z
   ·rw[h1]at z;cases z
 len:=k.len
 val:=λi d e=>by
  obtain⟨v,h1,h2⟩:=k.val i d e;exact⟨v,h1,h2.mono sg⟩
 own:=λi x od e1 e2=>by
  obtain⟨a,o,h1,h2,h3,h4,h5⟩:=k.own i x od e1 e2;refine⟨a,o,h1,sh a o h2,h3.mono sg,?_,h5⟩;cases q:G' a with
  |none=>rfl
  |some o'=>
   rcases(hg a o' q).2 with z|z
   ·rw[h4]at z;cases z
   ·rw[h2]at z;cases z
 dis:=k.dis
theorem Ok.laid (k:Ok K g G H σ Δ) {p:Addr}(hp:H p=none) (o:HO):Ok K g (upd G p o) (upd H p o) σ Δ /\ Same G (upd G p o):=by
 have hG:G p=none:=by
  cases e:G p with
  |none=>rfl
  |some u=>rw[k.live p u e]at hp;cases hp
 have sg:Same G (upd G p o):=λb u e=>by rw[Zas (Zbg e hG)];exact e
 refine⟨k.grow sg (λb u e=>by rw[Zas (Zbg e hp)];exact e) λb u e=>?_,sg⟩;by_cases hb:b=p
 ·subst hb;rw[Zaq]at e ⊢;exact⟨e,.inr hp⟩
 ·rw[Zas hb]at e ⊢;exact⟨k.live b u e,.inl e⟩
theorem Ok.lt (k:Ok K g G H σ Δ) {i:Nat}{x:Slot}(h:Δ[i]?=some x):i < σ.length:=by
 rw[<- k.len];exact(Waf.mp h).1
def Pend (K:W.Frag) (g:Gm) (G H:Hp) (σ:St) (Δ:Evt) (a:Addr) (od:OD):Prop:=
 ∃o,H a=some o/\OwnRep K G o od/\G a=none/\g.Hz a=none/\g.Xo a=none/\∀(i:Nat) x od',Δ[i]?=some x->x.od=some od' -> σ[i]?≠some (some (.ref a))
theorem Ok.setVal (k:Ok K g G H σ Δ) {v:V}{d:D}{i:Nat}(hi:i < Δ.length) (r:Rep K G v d):Ok K g G H (σ.set i (some v)) (Δ.set i (.val d)):=by
 have hs:i < σ.length:=by rw[<- k.len];exact hi
 have old:∀(j:Nat) x od,(Δ.set i (.val d))[j]?=some x->x.od=some od->j≠i /\ Δ[j]?=some x/\(σ.set i (some v))[j]? = σ[j]?:=λj x od e1 e2=>by
  by_cases hj:j=i
  ·subst hj
   rw[Wai hi]at e1;cases e1;cases e2
  ·rw[Wap (Ne.symm hj)]at e1
   exact⟨hj,e1,Wap (Ne.symm hj)⟩
 refine⟨k.same,k.lent,k.sub,k.frz,λb o e=>?_,by simp[k.len],λj e h=>?_,λj x od e1 e2=>?_,λj l x y od od' a e1 e2 e3 e4 e5 e6=>?_⟩
 ·obtain⟨h1,h2,h3⟩:=k.ext b o e
  refine⟨h1,h2,λj x od e1 e2=>?_⟩;obtain⟨_,q1,q2⟩:=old j x od e1 e2;rw[q2];exact h3 j x od q1 e2
 ·by_cases hj:j=i
  ·subst hj
   rw[Wai hi]at h;cases h;exact⟨v,Wai hs,r⟩
  ·rw[Wap (Ne.symm hj)]at h ⊢
   exact k.val j e h
 ·obtain⟨_,q1,q2⟩:=old j x od e1 e2
  rw[q2];exact k.own j x od q1 e2
 ·obtain⟨_,q1,q2⟩:=old j x od e1 e2
  obtain⟨_,q3,q4⟩:=old l y od' e3 e4;rw[q2]at e5;rw[q4]at e6;exact k.dis j l x y od od' a q1 e2 q3 e4 e5 e6
theorem Ok.setOwn (k:Ok K g G H σ Δ) {a:Addr}{od:OD}{i:Nat}(hi:i < Δ.length) (p:Pend K g G H σ Δ a od):Ok K g G H (σ.set i (some (.ref a))) (Δ.set i (.own od)):=by
 obtain⟨o,p1,p2,p3,p4,p5,p6⟩:=p;have hs:i < σ.length:=by rw[<- k.len];exact hi
 have old:∀(j:Nat) x,j≠i->(Δ.set i (.own od))[j]?=some x -> Δ[j]?=some x/\(σ.set i (some (.ref a)))[j]? = σ[j]?:=λj x hj e1=>by
  rw[Wap (Ne.symm hj)]at e1;exact⟨e1,Wap (Ne.symm hj)⟩
 refine⟨k.same,k.lent,k.sub,k.frz,λb ob e=>?_,by simp[k.len],λj e h=>?_,λj x od' e1 e2=>?_,λj l x y od1 od2 c e1 e2 e3 e4 e5 e6=>?_⟩
 ·obtain⟨h1,h2,h3⟩:=k.ext b ob e
  refine⟨h1,h2,λj x od' e1 e2=>?_⟩;by_cases hj:j=i
  ·subst hj
   rw[Wai hs];intro z;cases z;rw[p5]at e;cases e
  ·obtain⟨q1,q2⟩:=old j x hj e1
   rw[q2];exact h3 j x od' q1 e2
 ·by_cases hj:j=i
  ·subst hj
   rw[Wai hi]at h;cases h
  ·rw[Wap (Ne.symm hj)]at h ⊢
   exact k.val j e h
 ·by_cases hj:j=i
  ·subst hj
   rw[Wai hi]at e1;cases e1;cases e2;exact⟨a,o,Wai hs,p1,p2,p3,p4⟩
  ·obtain⟨q1,q2⟩:=old j x hj e1
   rw[q2];exact k.own j x od' q1 e2
 ·by_cases hj:j=i
  ·by_cases hl:l=i
   ·rw[hj,hl]
   ·obtain⟨q3,q4⟩:=old l y hl e3
    rw[q4]at e6;rw[hj,Wai hs]at e5;cases e5;exact absurd e6 (p6 l y od2 q3 e4)
  ·obtain⟨q1,q2⟩:=old j x hj e1
   rw[q2]at e5;by_cases hl:l=i
   ·rw[hl,Wai hs]at e6
    cases e6;exact absurd e5 (p6 j x od1 q1 e2)
   ·obtain⟨q3,q4⟩:=old l y hl e3
    rw[q4]at e6;exact k.dis j l x y od1 od2 c q1 e2 q3 e4 e5 e6
def Slot.put:Slot->OD->Slot
 |.own _,o=>.own o
 |.bor _,o=>.bor o
 |.ownA a _,o=>.ownA a o
 |x,_=>x
theorem SlotAt.put {g:Gm}{x:Slot}{a:Addr}{o:OD}(h:SlotAt g x a):SlotAt g (x.put o) a:=by cases x <;> exact h
theorem SlotAt.free {g:Gm}{x:Slot}{a:Addr}{od:OD}(h:SlotAt g x a) (ho:x.od=some od):g.Hz a=none\/g.B a:=by
 cases x with
 |any=>cases ho
 |val d=>cases ho
 |own o=>exact .inl h
 |bor o=>exact .inr h
 |ownA b o=>exact .inl h.2
theorem Slot.put_od {x:Slot}{od o:OD}(h:x.od=some od):(x.put o).od=some o:=by cases x <;> cases h <;> rfl
theorem Ok.write (k:Ok K g G H σ Δ) {a:Addr}{od od':OD}{x:Slot}{i:Nat}{o':HO}(hx:Δ[i]?=some x) (hod:x.od=some od) (ha:σ[i]?=some (some (.ref a))) (r:OwnRep K G o' od'):Ok K g G (upd H a o') σ (Δ.set i (x.put od')):=by
 obtain⟨a',o,q1,q2,q3,q4,q5⟩:=k.own i x od hx hod;rw[ha]at q1;cases q1;have hi:i < Δ.length:=(Waf.mp hx).1;have other:∀(j:Nat) y od2,(Δ.set i (x.put od'))[j]?=some y->y.od=some od2->j≠i -> Δ[j]?=some y:=λj y od2 e1 e2 hj=>by
  rw[Wap (Ne.symm hj)]at e1;exact e1
 have anyOd:∀(j:Nat) y od2,(Δ.set i (x.put od'))[j]?=some y->y.od=some od2->∃y' od3,Δ[j]?=some y' /\ y'.od=some od3:=λj y od2 e1 e2=>by
  by_cases hj:j=i
  ·subst hj;exact⟨x,od,hx,hod⟩
  ·exact⟨y,od2,other j y od2 e1 e2 hj,e2⟩
 refine⟨λb u hb e=>?_,λb hb=>?_,k.sub,λb u e=>?_,λb u e=>?_,by simp[k.len],λj e h=>?_,λj y od2 e1 e2=>?_,λj l y z od1 od2 c e1 e2 e3 e4 e5 e6=>?_⟩
 ·have hba:b≠a:=by
   intro z;subst z;rcases q5.free hod with z|z
   ·rw[z]at e;cases e
   ·exact hb z
  rw[Zas hba];exact k.same b u hb e
 ·by_cases hba:b=a
  ·subst hba;rw[Zaq];intro z;cases z
  ·rw[Zas hba];exact k.lent b hb
 ·have hba:b≠a:=by intro z;subst z;rw[q4]at e;cases e
  rw[Zas hba];exact k.frz b u e
 ·obtain⟨h1,h2,h3⟩:=k.ext b u e
  have hba:b≠a:=by intro z;subst z;exact h3 i x od hx hod ha
  rw[Zas hba];refine⟨h1,h2,λj y od2 e1 e2=>?_⟩;obtain⟨y',od3,z1,z2⟩:=anyOd j y od2 e1 e2;exact h3 j y' od3 z1 z2
 ·by_cases hj:j=i
  ·subst hj
   rw[Wai hi]at h;cases x <;> cases hod <;> cases h
  ·rw[Wap (Ne.symm hj)]at h
   exact k.val j e h
 ·by_cases hj:j=i
  ·subst hj
   rw[Wai hi]at e1;cases e1;rw[Slot.put_od hod]at e2;cases e2;exact⟨a,o',ha,Zaq,r,q4,q5.put⟩
  ·have e1':=other j y od2 e1 e2 hj
   obtain⟨c,oc,w1,w2,w3,w4,w5⟩:=k.own j y od2 e1' e2;have hca:c≠a:=by
    intro z;subst z;exact hj (k.dis j i y x od2 od c e1' e2 hx hod w1 ha)
   exact⟨c,oc,w1,by rw[Zas hca];exact w2,w3,w4,w5⟩
 ·obtain⟨y',od3,z1,z2⟩:=anyOd j y od1 e1 e2
  obtain⟨y'',od4,z3,z4⟩:=anyOd l z od2 e3 e4;exact k.dis j l y' y'' od3 od4 c z1 z2 z3 z4 e5 e6
theorem Ok.freeze (k:Ok K g G H σ Δ) {a:Addr}{ds:List D}{vs:List V}(p:Pend K g G H σ Δ a (.lst ds)) (hv:H a=some (.lst vs)):Ok K g (upd G a (.lst vs)) H σ Δ /\ Same G (upd G a (.lst vs))/\Rep K (upd G a (.lst vs)) (.ref a) (.lst ds):=by
 obtain⟨o,p1,p2,p3,p4,p5,p6⟩:=p;rw[hv]at p1;cases p1;have p2:Reps K G vs ds:=p2;have sg:Same G (upd G a (.lst vs)):=λb u e=>by rw[Zas (Zbg e p3)];exact e
 refine⟨⟨k.same,k.lent,k.sub.trans sg,λb u e=>?_,λb u e=>?_,k.len,λj d h=>?_,λj x od e1 e2=>?_,k.dis⟩,sg,.lst Zaq (p2.mono sg)⟩
 ·by_cases hb:b=a
  ·subst hb;rw[Zaq]at e;cases e;exact⟨hv,.inl p4⟩
  ·rw[Zas hb]at e;exact k.frz b u e
 ·obtain⟨h1,h2,h3⟩:=k.ext b u e
  have hb:b≠a:=by intro z;subst z;rw[p5]at e;cases e
  exact⟨h1,by rw[Zas hb];exact h2,h3⟩
 ·obtain⟨v,h1,h2⟩:=k.val j d h
  exact⟨v,h1,h2.mono sg⟩
 ·obtain⟨c,o,w1,w2,w3,w4,w5⟩:=k.own j x od e1 e2
  have hc:c≠a:=by intro z;subst z;exact p6 j x od e1 e2 w1
  exact⟨c,o,w1,w2,w3.mono sg,by rw[Zas hc];exact w4,w5⟩
theorem Ok.drop (k:Ok K g G H σ Δ) (i:Nat):Ok K g G H σ (Δ.set i .any):=by
 have old:∀(j:Nat) x,(Δ.set i .any)[j]?=some x->x=.any\/(Δ[j]?=some x/\j≠i):=λj x e1=>by
  by_cases hj:j=i
  ·subst hj
   rw[Wdv]at e1;simp at e1;exact .inl e1.2.symm
  ·rw[Wap (Ne.symm hj)]at e1
   exact .inr ⟨e1,hj⟩
 have oldO:∀(j:Nat) x od,(Δ.set i .any)[j]?=some x->x.od=some od -> Δ[j]?=some x:=λj x od e1 e2=>by
  rcases old j x e1 with z|z
  ·subst z;cases e2
  ·exact z.1
 refine⟨k.same,k.lent,k.sub,k.frz,λb o e=>?_,by simp[k.len],λj e h=>?_,λj x od e1 e2=>k.own j x od (oldO j x od e1 e2) e2,λj l x y od od' a e1 e2 e3 e4=>k.dis j l x y od od' a (oldO j x od e1 e2) e2 (oldO l y od' e3 e4) e4⟩
 ·obtain⟨h1,h2,h3⟩:=k.ext b o e
  exact⟨h1,h2,λj x od e1 e2=>h3 j x od (oldO j x od e1 e2) e2⟩
 ·rcases old j _ h with z|z
  ·cases z
  ·exact k.val j e z.1
theorem Ok.take (k:Ok K g G H σ Δ) {i:Nat}{od:OD}(h:Δ[i]?=some (.own od)):∃a,σ[i]?=some (some (.ref a))/\Pend K g G H σ (Δ.set i .any) a od:=by
 obtain⟨a,o,h1,h2,h3,h4,h5⟩:=k.own i _ od h rfl;have h5:g.Hz a=none:=h5;refine⟨a,h1,o,h2,h3,h4,h5,?_,λj x od' e1 e2 e3=>?_⟩
 ·cases q:g.Xo a with
  |none=>rfl
  |some u=>exact absurd h1 ((k.ext a u q).2.2 i _ od h rfl)
 ·by_cases hj:j=i
  ·subst hj
   rw[Wdv]at e1;simp at e1;obtain⟨_,e1⟩:=e1;subst e1;cases e2
  ·rw[Wap (Ne.symm hj)]at e1
   exact hj (k.dis j i x _ od' od a e1 e2 h rfl e3 h1)
end
def Cont (K:W.Frag) (g:Gm) (G:Hp) (σ:St) (P:D->Evt->Prop) (Q:VK):Prop:=
 ∀v d G' H' Δ',Ok K g G' H' σ Δ' -> Same G G' -> Rep K G' v d->P d Δ' -> Q v H'
def JE (K:W.Frag) (t:TE) (Δ:Evt) (P:D->Evt->Prop):Prop:=
 ∀g G H σ Q,Ok K g G H σ Δ -> Cont K g G σ P Q->t σ H Q
def JT (K:W.Frag) (t:TT) (Δ:Evt) (P:Bool->Evt->Prop):Prop:=
 ∀g G H σ Q,Ok K g G H σ Δ -> (∀b G' H' Δ',Ok K g G' H' σ Δ' -> Same G G' -> P b Δ' -> Q b H')->t σ H Q
def JA (K:W.Frag) (t:TA) (Δ:Evt) (P:List D->Evt->Prop):Prop:=
 ∀g G H σ Q,Ok K g G H σ Δ -> (∀vs ds G' H' Δ',Ok K g G' H' σ Δ' -> Same G G' -> Reps K G' vs ds->P ds Δ' -> Q vs H')->t σ H Q
def JO (K:W.Frag) (t:TE) (Δ:Evt) (P:OD->Evt->Prop):Prop:=
 ∀g G H σ Q,Ok K g G H σ Δ -> (∀a od G' H' Δ',Ok K g G' H' σ Δ' -> Same G G' -> Pend K g G' H' σ Δ' a od->P od Δ' -> Q (.ref a) H')->t σ H Q
def JR2 (K:W.Frag) (r:R2) (d e:D) (Δ:Evt) (P:D->Evt->Prop):Prop:=
 ∀g G H σ Q x y,Ok K g G H σ Δ -> Rep K G x d->Rep K G y e->Cont K g G σ P Q->r x y H Q
def JR1 (K:W.Frag) (r:V->Hp->VK->Prop) (d:D) (Δ:Evt) (P:D->Evt->Prop):Prop:=
 ∀g G H σ Q x,Ok K g G H σ Δ -> Rep K G x d->Cont K g G σ P Q->r x H Q
def JC (K:W.Frag) (r:List V->Hp->VK->Prop) (ds:List D) (Δ:Evt) (P:D->Evt->Prop):Prop:=
 ∀g G H σ Q vs,Ok K g G H σ Δ -> Reps K G vs ds->Cont K g G σ P Q->r vs H Q
structure Pst where
 nx:Evt->Prop
 rt:D->Evt->Prop
 bk:Evt->Prop:=λ_=>False
 ct:Evt->Prop:=λ_=>False
 ro:OD->Evt->Prop:=λ_ _=>False
structure SCont (K:W.Frag) (g:Gm) (P:Pst) (E:Ends):Prop where
 nx:∀σ G H Δ,Ok K g G H σ Δ -> P.nx Δ -> E.nx σ H
 rt:∀v d σ G H Δ,Ok K g G H σ Δ -> Rep K G v d->P.rt d Δ -> E.rt v H
 bk:∀σ G H Δ,Ok K g G H σ Δ -> P.bk Δ -> E.bk σ H
 ct:∀σ G H Δ,Ok K g G H σ Δ -> P.ct Δ -> E.ct σ H
 ro:∀a od σ G H Δ,Ok K g G H σ Δ -> Pend K g G H σ Δ a od->P.ro od Δ -> E.rt (.ref a) H
def JS (K:W.Frag) (t:TS) (Δ:Evt) (P:Pst):Prop:=
 ∀g G H σ E,Ok K g G H σ Δ -> SCont K g P E->t E σ H
def JG (K:W.Frag) (t:TG) (d:D) (Δ:Evt) (P:Evt->Prop):Prop:=
 ∀g G H σ v (R:St->Hp->Prop),Ok K g G H σ Δ -> Rep K G v d->(∀σ' G' H' Δ',Ok K g G' H' σ' Δ' -> Same G G' -> P Δ' -> R σ' H')->t v σ H R
def JGs (K:W.Frag) (t:TGs) (ds:List D) (Δ:Evt) (P:Evt->Prop):Prop:=
 ∀g G H σ vs (R:St->Hp->Prop),Ok K g G H σ Δ -> Reps K G vs ds->(∀σ' G' H' Δ',Ok K g G' H' σ' Δ' -> Same G G' -> P Δ' -> R σ' H')->t vs σ H R
section
variable {K:W.Frag}{Δ:Evt}
theorem Cont.up {g:Gm}{G G1:Hp}{σ:St}{P:D->Evt->Prop}{Q:VK}(c:Cont K g G σ P Q) (s:Same G G1):Cont K g G1 σ P Q:=
 λv d G' H' Δ' k s' r p=>c v d G' H' Δ' k (s.trans s') r p
theorem JE.mono {t:TE}{P P':D->Evt->Prop}(h:JE K t Δ P) (hp:∀d Δ,P d Δ -> P' d Δ):JE K t Δ P':=
 λg G H σ Q k c=>h g G H σ Q k λv d G' H' Δ' k' s r p=>c v d G' H' Δ' k' s r (hp d Δ' p)
theorem JS.mono {t:TS}{P P':Pst}(h:JS K t Δ P) (hn:∀Δ,P.nx Δ -> P'.nx Δ) (hr:∀d Δ,P.rt d Δ -> P'.rt d Δ) (hb:∀Δ,P.bk Δ -> P'.bk Δ) (hc:∀Δ,P.ct Δ -> P'.ct Δ) (ho:∀od Δ,P.ro od Δ -> P'.ro od Δ):JS K t Δ P':=
 λg G H σ E k c=>h g G H σ E k ⟨λσ' G' H' Δ' k' p=>c.nx σ' G' H' Δ' k' (hn _ p),λv d σ' G' H' Δ' k' r p=>c.rt v d σ' G' H' Δ' k' r (hr _ _ p),λσ' G' H' Δ' k' p=>c.bk σ' G' H' Δ' k' (hb _ p),λσ' G' H' Δ' k' p=>c.ct σ' G' H' Δ' k' (hc _ p),λa od σ' G' H' Δ' k' r p=>c.ro a od σ' G' H' Δ' k' r (ho _ _ p)⟩
theorem Zae {i:Nat}{d:D}{P:D->Evt->Prop}(h:Δ[i]?=some (.val d)) (p:P d Δ):JE K (tVar i) Δ P:=λg G H σ Q k c=>by
 obtain⟨v,h1,h2⟩:=k.val i d h;exact⟨v,h1,c v d G H Δ k (Same.refl _) h2 p⟩
theorem Zgw {i:Nat}{ds:List D}{P:D->Evt->Prop}(h:Δ[i]?=some (.own (.lst ds))) (p:P (.lst ds) (Δ.set i (.val (.lst ds)))):JE K (tVar i) Δ P:=λg G H σ Q k c=>by
 obtain⟨a,h1,pd⟩:=k.take h;obtain⟨o,q1,q2,_⟩:=id pd;cases o with
 |lst vs=>
  obtain⟨k2,sg,r⟩:=(k.drop i).freeze pd q1;have k3:=k2.setVal (i:=i) (by simpa using (Waf.mp h).1) r;have e1:σ.set i (some (.ref a)) = σ:=by
   apply Wb6;intro j;by_cases hj:j=i
   ·subst hj;rw[Wai (k.lt h),h1]
   ·rw[Wap (Ne.symm hj)]
  rw[e1,List.set_set]at k3;exact⟨.ref a,h1,c _ _ _ H _ k3 sg r p⟩
 |_=>exact absurd q2 (λz=>z)
theorem Zaw {i:Int}{P:D->Evt->Prop}(p:P (.int i) Δ):JE K (tC (.int i)) Δ P:=λg G H σ Q k c=>c _ _ G H Δ k (Same.refl _) (.int i) p
theorem Zrg {b:Bool}{P:D->Evt->Prop}(p:P (.bl b) Δ):JE K (tC (.bl b)) Δ P:=λg G H σ Q k c=>c _ _ G H Δ k (Same.refl _) (.bl b) p
theorem Zho {P:D->Evt->Prop}(p:P .non Δ):JE K (tC .non) Δ P:=λg G H σ Q k c=>c _ _ G H Δ k (Same.refl _) .non p
theorem Zto {x:String}{P:D->Evt->Prop}(p:P (.ty x) Δ):JE K (tC (.ty x)) Δ P:=λg G H σ Q k c=>c _ _ G H Δ k (Same.refl _) (.ty x) p
theorem Zaz {r:R2}{ta tb:TE}{P:D->Evt->Prop}(h:JE K ta Δ λd Δ1=>JE K tb Δ1 λe Δ2=>JR2 K r d e Δ2 P):JE K (tOp r ta tb) Δ P:=λg G H σ Q k c=>
 h g G H σ _ k λx d G1 H1 Δ1 k1 s1 r1 p1=>p1 g G1 H1 σ _ k1 λy e G2 H2 Δ2 k2 s2 r2 p2=>p2 g G2 H2 σ Q x y k2 (r1.mono s2) r2 (c.up (s1.trans s2))
theorem Zt2 {r:V->Hp->VK->Prop}{ta:TE}{P:D->Evt->Prop}(h:JE K ta Δ λd Δ1=>JR1 K r d Δ1 P):JE K (tUn r ta) Δ P:=λg G H σ Q k c=>
 h g G H σ _ k λx d G1 H1 Δ1 k1 s1 r1 p1=>p1 g G1 H1 σ Q x k1 r1 (c.up s1)
theorem Zag {P:List D->Evt->Prop}(p:P [] Δ):JA K tNil Δ P:=λg G H σ Q k c=>c [] [] G H Δ k (Same.refl _) .nil p
theorem Zab {ta:TE}{tr:TA}{P:List D->Evt->Prop}(h:JE K ta Δ λd Δ1=>JA K tr Δ1 λds Δ2=>P (d::ds) Δ2):JA K (tCons ta tr) Δ P:=λg G H σ Q k c=>
 h g G H σ _ k λx d G1 H1 Δ1 k1 s1 r1 p1=>p1 g G1 H1 σ _ k1 λvs ds G2 H2 Δ2 k2 s2 r2 p2=>c _ _ G2 H2 Δ2 k2 (s1.trans s2) (.cons (r1.mono s2) r2) p2
theorem Zbr {r:List V->Hp->VK->Prop}{ta:TA}{P:D->Evt->Prop}(h:JA K ta Δ λds Δ1=>JC K r ds Δ1 P):JE K (tCB r ta) Δ P:=λg G H σ Q k c=>
 h g G H σ _ k λvs ds G1 H1 Δ1 k1 s1 r1 p1=>p1 g G1 H1 σ Q vs k1 r1 (c.up s1)
theorem Zbt {ta:TA}{P:D->Evt->Prop}(h:JA K ta Δ λds Δ1=>ds.length<=sizeLine/\P (.tup ds) Δ1):JE K (tTup ta) Δ P:=λg G H σ Q k c=>
 h g G H σ _ k λvs ds G1 H1 Δ1 k1 s1 r1 ⟨z,p1⟩=>⟨by rw[r1.length];exact z,λp hp=>by
  obtain⟨k2,sg⟩:=k1.laid hp (.tup vs);exact c _ _ _ _ Δ1 k2 (s1.trans sg) (.tup Zaq (r1.mono sg)) p1⟩
theorem Zjv {ta:TA}{P:D->Evt->Prop}(h:JA K ta Δ λds Δ1=>ds.length<=sizeLine/\P (.lst ds) Δ1):JE K (tLst ta) Δ P:=λg G H σ Q k c=>
 h g G H σ _ k λvs ds G1 H1 Δ1 k1 s1 r1 ⟨z,p1⟩=>⟨by rw[r1.length];exact z,λp hp=>by
  obtain⟨k2,sg⟩:=k1.laid hp (.lst vs);exact c _ _ _ _ Δ1 k2 (s1.trans sg) (.lst Zaq (r1.mono sg)) p1⟩
theorem Ok.fresh {g:Gm}{G H:Hp}{σ:St}(k:Ok K g G H σ Δ) {p:Addr}{o:HO}{od:OD}(hp:H p=none) (r:OwnRep K G o od):Ok K g G (upd H p o) σ Δ /\ Pend K g G (upd H p o) σ Δ p od:=by
 have hG:G p=none:=by
  cases e:G p with
  |none=>rfl
  |some u=>rw[k.live p u e]at hp;cases hp
 refine⟨k.grow (Same.refl _) (λb u e=>by rw[Zas (Zbg e hp)];exact e) λb u e=>⟨?_,.inl e⟩,o,Zaq,r,hG,k.there hp,?_,λj x od' e1 e2 e3=>?_⟩
 ·have hb:b≠p:=by intro z;subst z;rw[hG]at e;cases e
  rw[Zas hb];exact k.live b u e
 ·cases q:g.Xo p with
  |none=>rfl
  |some u=>have z:=(k.ext p u q).1;rw[hp]at z;cases z
 ·obtain⟨a,oo,w1,w2,_⟩:=k.own j x od' e1 e2
  rw[e3]at w1;cases w1;rw[hp]at w2;cases w2
theorem Zdi {ta:TA}{P:OD->Evt->Prop}(h:JA K ta Δ λds Δ1=>ds.length<=sizeLine/\P (.lst ds) Δ1):JO K (tLst ta) Δ P:=λg G H σ Q k c=>
 h g G H σ _ k λvs ds G1 H1 Δ1 k1 s1 r1 ⟨z,p1⟩=>⟨by rw[r1.length];exact z,λp hp=>by
  obtain⟨k2,pd⟩:=k1.fresh (od:=.lst ds) hp (show OwnRep K G1 (.lst vs) (.lst ds) from r1);exact c p _ G1 _ Δ1 k2 s1 pd p1⟩
theorem Zbx {t:TE}{P:D->Evt->Prop}(h:JO K t Δ λod Δ1=>∃ds,od=.lst ds/\P (.lst ds) Δ1):JE K t Δ P:=λg G H σ Q k c=>
 h g G H σ Q k λa od G1 H1 Δ1 k1 s1 pd hq_=>by
  obtain⟨ds,e,p1⟩:=hq_;subst e;obtain⟨o,q1,q2,_⟩:=id pd;cases o with
  |lst vs=>
   obtain⟨k2,sg,r⟩:=k1.freeze pd q1;exact c _ _ _ H1 Δ1 k2 (s1.trans sg) r p1
  |_=>exact absurd q2 (λz=>z)
theorem Zf6 {c:TT}{ta tb:TE}{P:D->Evt->Prop}(h:JT K c Δ λb Δ1=>if b=true then JE K ta Δ1 P else JE K tb Δ1 P):JE K (tIf c ta tb) Δ P:=λg G H σ Q k q=>
 h g G H σ _ k λb G1 H1 Δ1 k1 s1 p1=>by
  cases b with
  |true=>exact(show JE K ta Δ1 P from p1) g G1 H1 σ Q k1 (q.up s1)
  |false=>exact(show JE K tb Δ1 P from p1) g G1 H1 σ Q k1 (q.up s1)
theorem Zbh {t:TE}{P:Bool->Evt->Prop}(h:JE K t Δ λd Δ1=>∃b,d=.bl b/\P b Δ1):JT K (tTest t) Δ P:=λg G H σ Q k c=>
 h g G H σ _ k λv d G1 H1 Δ1 k1 s1 r1 hq_=>by obtain⟨b,e,p1⟩:=hq_;subst e;cases r1.inv;exact⟨b,rfl,c b G1 H1 Δ1 k1 s1 p1⟩
theorem Zjf {a b:TT}{P:Bool->Evt->Prop}(h:JT K a Δ λx Δ1=>if x=true then JT K b Δ1 P else P false Δ1):JT K (tAnd a b) Δ P:=λg G H σ Q k c=>
 h g G H σ _ k λx G1 H1 Δ1 k1 s1 p1=>by
  cases x with
  |true=>exact(show JT K b Δ1 P from p1) g G1 H1 σ _ k1 λy G2 H2 Δ2 k2 s2 p2=>c y G2 H2 Δ2 k2 (s1.trans s2) p2
  |false=>exact c false G1 H1 Δ1 k1 s1 p1
theorem Znt {a b:TT}{P:Bool->Evt->Prop}(h:JT K a Δ λx Δ1=>if x=true then P true Δ1 else JT K b Δ1 P):JT K (tOr a b) Δ P:=λg G H σ Q k c=>
 h g G H σ _ k λx G1 H1 Δ1 k1 s1 p1=>by
  cases x with
  |true=>exact c true G1 H1 Δ1 k1 s1 p1
  |false=>exact(show JT K b Δ1 P from p1) g G1 H1 σ _ k1 λy G2 H2 Δ2 k2 s2 p2=>c y G2 H2 Δ2 k2 (s1.trans s2) p2
theorem Zo4 {a:TT}{P:Bool->Evt->Prop}(h:JT K a Δ λx Δ1=>P (!x) Δ1):JT K (tNot a) Δ P:=λg G H σ Q k c=>
 h g G H σ _ k λx G1 H1 Δ1 k1 s1 p1=>c (!x) G1 H1 Δ1 k1 s1 p1
theorem Za6 {P:Bool->Evt->Prop}(p:P true Δ):JT K tTrue Δ P:=λg G H σ Q k c=>c true G H Δ k (Same.refl _) p
theorem Zqq {P:Pst}(p:P.nx Δ):JS K tNext Δ P:=λg G H σ E k c=>c.nx σ G H Δ k p
theorem Zo6 {t u:TS}{P:Pst}(h:JS K t Δ { P with nx:=λΔ1=>JS K u Δ1 P }):JS K (tSeq t u) Δ P:=λg G H σ E k c=>
 h g G H σ _ k ⟨λσ1 G1 H1 Δ1 k1 p1=>p1 g G1 H1 σ1 E k1 c,c.rt,c.bk,c.ct,c.ro⟩
theorem Zr0 {te:TE}{P:Pst}(h:JE K te Δ P.rt):JS K (tRet te) Δ P:=λg G H σ E k c=>
 h g G H σ _ k λv d G1 H1 Δ1 k1 s1 r1 p1=>c.rt v d σ G1 H1 Δ1 k1 r1 p1
theorem Zqr {te:TE}{P:Pst}(h:JO K te Δ P.ro):JS K (tRet te) Δ P:=λg G H σ E k c=>
 h g G H σ _ k λa od G1 H1 Δ1 k1 s1 pd p1=>c.ro a od σ G1 H1 Δ1 k1 pd p1
theorem Zph {i:Nat}{od:OD}{P:OD->Evt->Prop}(h:Δ[i]?=some (.own od)) (p:P od (Δ.set i .any)):JO K (tVar i) Δ P:=λg G H σ Q k c=>by
 obtain⟨a,h1,pd⟩:=k.take h;exact⟨.ref a,h1,c a od G H _ (k.drop i) (Same.refl _) pd p⟩
theorem Zpv {te:TE}{P:Pst}(h:JE K te Δ λ_ Δ1=>P.nx Δ1):JS K (tDrop te) Δ P:=λg G H σ E k c=>
 h g G H σ _ k λv d G1 H1 Δ1 k1 s1 r1 p1=>c.nx σ G1 H1 Δ1 k1 p1
theorem Ztp {c:TT}{t u:TS}{P:Pst}(h:JT K c Δ λb Δ1=>if b=true then JS K t Δ1 P else JS K u Δ1 P):JS K (tIfS c t u) Δ P:=λg G H σ E k q=>
 h g G H σ _ k λb G1 H1 Δ1 k1 s1 p1=>by
  cases b with
  |true=>exact(show JS K t Δ1 P from p1) g G1 H1 σ E k1 q
  |false=>exact(show JS K u Δ1 P from p1) g G1 H1 σ E k1 q
theorem Zsz {te:TE}{t:TG}{P:Pst}(h:JE K te Δ λd Δ1=>JG K t d Δ1 P.nx):JS K (tAsg te t) Δ P:=λg G H σ E k c=>
 h g G H σ _ k λv d G1 H1 Δ1 k1 s1 r1 p1=>p1 g G1 H1 σ v _ k1 r1 λσ2 G2 H2 Δ2 k2 s2 p2=>c.nx σ2 G2 H2 Δ2 k2 p2
theorem Zlz {P:Evt->Prop}(p:P Δ):JGs K gNil [] Δ P:=λg G H σ vs R k r c=>by cases r;exact⟨rfl,c σ G H Δ k (Same.refl _) p⟩
theorem Zeo {t:TG}{u:TGs}{d:D}{ds:List D}{P:Evt->Prop}(h:JG K t d Δ λΔ1=>JGs K u ds Δ1 P):JGs K (gCons t u) (d::ds) Δ P:=λg G H σ vs R k r c=>by
 obtain⟨_,_,rfl,r1,rr⟩:=r.inv
 next=>exact⟨_,_,rfl,h g G H σ _ _ k r1 λσ1 G1 H1 Δ1 k1 s1 p1=>p1 g G1 H1 σ1 _ R k1 (rr.mono s1) λσ2 G2 H2 Δ2 k2 s2 p2=>c σ2 G2 H2 Δ2 k2 (s1.trans s2) p2⟩
theorem Zpd {n:Nat}{t:TGs}{ds:List D}{P:Evt->Prop}(hl:ds.length=n) (h:JGs K t ds Δ P):JG K (gTup K n t) (.tup ds) Δ P:=λg G H σ v R k r c=>by
 obtain⟨_,_,rfl,ha,rs⟩:=r.inv
 next=>exact⟨_,_,rfl,SqT.of (k.live _ _ ha),by rw[rs.length];exact hl,h g G H σ _ R k rs c⟩
def ItOk (K:W.Frag) (G:Hp) (J:It) (ds:List D):Prop:=
 ∀G1 H1,Same G G1->Same G1 H1->J.stop ds.length H1/\∀(i:Nat) d,ds[i]?=some d->J.go i H1/\∀x H2,J.yld i H1 x H2->∃G2,Same G1 G2/\Same H1 H2/\(∀b o,G2 b=some o->H2 b=some o/\(G1 b=some o\/H1 b=none))/\Rep K G2 x d
def JI (K:W.Frag) (wi:TI) (Δ:Evt) (P:List D->Evt->Prop):Prop:=
 ∀g G H σ (R:It->Hp->Prop),Ok K g G H σ Δ -> (∀J ds G' H' Δ',Ok K g G' H' σ Δ' -> Same G G' -> ItOk K G' J ds->P ds Δ' -> R J H')->wi σ H R
theorem Zsc {tl:TE}{P:List D->Evt->Prop}(h:JE K tl Δ λd Δ1=>∃ds,d=.tup ds/\P ds Δ1):JI K (iTup K tl) Δ P:=λg G H σ R k c=>
 h g G H σ _ k λv d G1 H1 Δ1 k1 s1 r1 hq_=>by
  obtain⟨ds,e,p1⟩:=hq_;subst e;obtain⟨a,vs,rfl,ha,rs⟩:=r1.inv
  next=>
   refine⟨a,rfl,⟨vs,SqT.of (k1.live _ _ ha)⟩,c _ ds G1 H1 Δ1 k1 s1 (λG2 H2 sg sh=>⟨⟨vs,SqT.of (sh _ _ (sg _ _ ha)),by rw[rs.length];exact Wak _⟩,λi d e=>?_⟩) p1⟩;obtain⟨v,hv,rv⟩:=rs.get e;refine⟨⟨vs,v,SqT.of (sh _ _ (sg _ _ ha)),hv⟩,λx H3 ⟨e3,y3⟩=>⟨G2,Same.refl _,by rw[e3];exact Same.refl _,λb o q=>⟨by rw[e3];exact sh b o q,.inl q⟩,?_⟩⟩;have:=y3 vs (SqT.of (sh _ _ (sg _ _ ha)));rw[hv]at this;cases this;exact rv.mono sg
theorem Zpp {tl:TE}{P:List D->Evt->Prop}(h:JE K tl Δ λd Δ1=>∃ds,(d=.lst ds\/d=.scr ds)/\P ds Δ1):JI K (iList K tl) Δ P:=λg G H σ R k c=>
 h g G H σ _ k λv d G1 H1 Δ1 k1 s1 r1 hq_=>by
  obtain⟨ds,e,p1⟩:=hq_;obtain⟨a,vs,ea,hs,rs⟩:∃a vs,v=.ref a/\SqL K G1 a vs/\Reps K G1 vs ds:=by
   rcases e with e|e
   ·subst e;cases r1 with|lst ha rs=>exact⟨_,_,rfl,SqL.of ha,rs⟩
   ·subst e;cases r1 with|scr ha rs=>exact⟨_,_,rfl,ha,rs⟩
  subst ea;refine⟨a,rfl,⟨vs,k1.live.seq hs⟩,c _ ds G1 H1 Δ1 k1 s1 (λG2 H2 sg sh=>⟨⟨vs,sh.seq (sg.seq hs),by rw[rs.length];exact Wak _⟩,λi d e=>?_⟩) p1⟩;obtain⟨v,hv,rv⟩:=rs.get e;refine⟨⟨vs,v,sh.seq (sg.seq hs),hv⟩,λx H3 ⟨e3,y3⟩=>⟨G2,Same.refl _,by rw[e3];exact Same.refl _,λb o q=>⟨by rw[e3];exact sh b o q,.inl q⟩,?_⟩⟩;have:=y3 vs (sh.seq (sg.seq hs));rw[hv]at this;cases this;exact rv.mono sg
def rngD (lo:Int) (n:Nat):List D:=(Wau n).map λi:Nat=>D.int (lo+(i:Int))
theorem Zau (lo:Int) (n:Nat):(rngD lo n).length=n:=by simp[rngD]
theorem Zbj {lo:Int}{n i:Nat}{d:D}(h:(rngD lo n)[i]?=some d):i<n/\d=.int (lo+(i:Int)):=by
 unfold rngD at h;rw[Wad]at h;cases e:(Wau n)[i]? with
 |none=>rw[e]at h;cases h
 |some j=>
  rw[e]at h;obtain⟨h1,h2⟩:=Waf.mp e;rw[List.getElem_range]at h2;subst h2;exact⟨by simpa using h1,(Wa7.inj h).symm⟩
theorem Zov {G:Hp}(lo:Int) (n:Nat):ItOk K G (Itr lo n) (rngD lo n):=λG1 H1 sg sh=>by
 refine⟨by show n<=(rngD lo n).length;rw[Zau];exact Wak _,λi d e=>?_⟩;obtain⟨h1,h2⟩:=Zbj e;subst h2;refine⟨h1,λx H2 ⟨e2,y2⟩=>⟨G1,Same.refl _,by rw[e2];exact Same.refl _,λb o q=>⟨by rw[e2];exact sh b o q,.inl q⟩,?_⟩⟩;subst y2;exact .int _
theorem Za1 {ta:TA}{P:List D->Evt->Prop}(h:JA K ta Δ λds Δ1=>∃n:Int,ds=[.int n] /\ -(2 ^ 62)<=n/\n<2 ^ 62/\P (rngD 0 n.toNat) Δ1):JI K (iRng1 ta) Δ P:=λg G H σ R k c=>
 h g G H σ _ k λvs ds G1 H1 Δ1 k1 s1 r1 hq_=>by
  obtain⟨n,e,h1,h2,p1⟩:=hq_;subst e;obtain⟨_,_,rfl,ra,rr⟩:=r1.inv
  next=>
   cases rr.inv;cases ra.inv;exact⟨n,rfl,h1,h2,c _ _ G1 H1 Δ1 k1 s1 (Zov 0 _) p1⟩
theorem Zr1 {wi:TI}{t:TG}{tb:TS}{P:Pst}(h:JI K wi Δ λds Δ1=>∃I:Nat->Evt->Prop,I 0 Δ1/\(∀i d Δ2,ds[i]?=some d->I i Δ2->JG K t d Δ2 λΔ3=>JS K tb Δ3 ⟨I (i+1),P.rt,P.nx,I (i+1),P.ro⟩)/\∀Δ2,I ds.length Δ2->P.nx Δ2) :
  JS K (tFor wi t tb) Δ P:=λg G H σ E k c=>
 h g G H σ _ k λJ ds G1 H1 Δ1 k1 s1 it hq_=>by
  obtain⟨I,h0,ht,he⟩:=hq_;refine⟨λi m σ H=>m=ds.length-i/\i<=ds.length/\∃G Δ,Ok K g G H σ Δ /\ Same G1 G/\I i Δ,⟨ds.length,by simp,Wbx _,G1,Δ1,k1,Same.refl _,h0⟩,?_⟩;rintro i m σ2 H2 ⟨rfl,hi,G2,Δ2,k2,s2,h2⟩;obtain⟨stop,go⟩:=it G2 H2 s2 k2.live;by_cases hlt:i<ds.length
  ·obtain⟨g1,g2⟩:=go i _ (Waa hlt)
   refine .inr ⟨g1,λσ' H'=>i+1<=ds.length/\∃G Δ,Ok K g G H' σ' Δ /\ Same G1 G/\I (i+1) Δ,λσ' H' p'=>⟨ds.length-(i+1),by omega,rfl,p'.1,p'.2⟩,λx H3 y=>?_⟩;obtain⟨G3,a1,a2,a3,a4⟩:=g2 x H3 y;have k3:=k2.grow a1 a2 a3;refine ht i _ Δ2 (Waa hlt) h2 { g with F:=G3,Xo:=g.Xo } G3 H3 σ2 x _ ?_ a4 λσ4 G4 H4 Δ4 k4 s4 p4=>?_
   ·exact⟨k3.same,k3.lent,Same.refl _,λb o q=>⟨(k3.frz b o q).1,.inr q⟩,k3.ext,k3.len,k3.val,k3.own,k3.dis⟩
   ·have cv:∀{G5 H5:Hp}{σ5:St}{Δ5:Evt},Ok K { g with F:=G3,Xo:=g.Xo } G5 H5 σ5 Δ5->Ok K g G5 H5 σ5 Δ5/\Same G1 G5:=λ{G5 H5 σ5 Δ5} k5=>
     ⟨⟨k5.same,k5.lent,k3.sub.trans k5.sub,λb o q=>by
      obtain⟨q1,q2⟩:=k5.frz b o q;refine⟨q1,?_⟩;rcases q2 with z|z
      ·exact .inl z
      ·exact(k3.frz b o z).2,k5.ext,k5.len,k5.val,k5.own,k5.dis⟩,s2.trans (a1.trans k5.sub)⟩
    refine p4 _ G4 H4 σ4 _ k4 ⟨λσ5 G5 H5 Δ5 k5 p5=>?_,λv d σ5 G5 H5 Δ5 k5 r5 p5=>?_,λσ5 G5 H5 Δ5 k5 p5=>?_,λσ5 G5 H5 Δ5 k5 p5=>?_,λa od σ5 G5 H5 Δ5 k5 pd5 p5=>?_⟩
    ·exact⟨hlt,G5,Δ5,(cv k5).1,(cv k5).2,p5⟩
    ·exact c.rt v d σ5 G5 H5 Δ5 (cv k5).1 r5 p5
    ·exact c.nx σ5 G5 H5 Δ5 (cv k5).1 p5
    ·exact⟨hlt,G5,Δ5,(cv k5).1,(cv k5).2,p5⟩
    ·exact c.ro a od σ5 G5 H5 Δ5 (cv k5).1 pd5 p5
  ·have e:i=ds.length:=by omega
   subst e;exact .inl ⟨stop,c.nx σ2 G2 H2 Δ2 k2 (he Δ2 h2)⟩
theorem Znn {c:TT}{tb:TS}{P:Pst}(I:Nat->Evt->Prop) (h0:∃m,I m Δ) (ht:∀m Δ1,I m Δ1->JT K c Δ1 λb Δ2=>if b=true then JS K tb Δ2 ⟨λΔ3=>∃m',m'<m/\I m' Δ3,P.rt,P.nx,λΔ3=>∃m',m'<m/\I m' Δ3,P.ro⟩ else P.nx Δ2) :
  JS K (tWhile c tb) Δ P:=λg G H σ E k q=>by
 obtain⟨m,h0⟩:=h0;refine⟨λm σ H=>∃G Δ,Ok K g G H σ Δ /\ I m Δ,⟨m,G,Δ,k,h0⟩,?_⟩;rintro m σ1 H1 ⟨G1,Δ1,k1,h1⟩;refine ht m Δ1 h1 g G1 H1 σ1 _ k1 λb G2 H2 Δ2 k2 s2 p2=>?_;cases b with
 |true=>
  refine⟨λσ' H'=>∃m',m'<m/\∃G Δ,Ok K g G H' σ' Δ /\ I m' Δ,λσ' H' ⟨m',hm,z⟩=>⟨m',hm,z⟩,?_⟩;refine(show JS K tb Δ2 _ from p2) g G2 H2 σ1 _ k2 ⟨λσ5 G5 H5 Δ5 k5 ⟨m',hm,p5⟩=>⟨m',hm,G5,Δ5,k5,p5⟩,q.rt,q.nx,λσ5 G5 H5 Δ5 k5 ⟨m',hm,p5⟩=>⟨m',hm,G5,Δ5,k5,p5⟩,q.ro⟩
 |false=>exact q.nx σ1 G2 H2 Δ2 k2 p2
end
section
variable {K:W.Frag}{Δ:Evt}{P:D->Evt->Prop}
theorem jr_I {C:Int->Int->Prop}{f:Int->Int->Int}{i j:Int}(hc:C i j) (p:P (.int (f i j)) Δ):JR2 K (rI C λi j=>.int (f i j)) (.int i) (.int j) Δ P:=λg G H σ Q x y k rx ry c=>by
 cases rx.inv;cases ry.inv;exact⟨i,j,rfl,rfl,hc,c _ _ G H Δ k (Same.refl _) (.int _) p⟩
theorem Zoh {f:Int->Int->Int}{i j:Int}(p:P (.int (f i j)) Δ):JR2 K (rI0 λi j=>.int (f i j)) (.int i) (.int j) Δ P:=λg G H σ Q x y k rx ry c=>by
 cases rx.inv;cases ry.inv;exact⟨i,j,rfl,rfl,c _ _ G H Δ k (Same.refl _) (.int _) p⟩
theorem Zk7 {f:Int->Int->Bool}{i j:Int}(p:P (.bl (f i j)) Δ):JR2 K (rI0 λi j=>.bl (f i j)) (.int i) (.int j) Δ P:=λg G H σ Q x y k rx ry c=>by
 cases rx.inv;cases ry.inv;exact⟨i,j,rfl,rfl,c _ _ G H Δ k (Same.refl _) (.bl _) p⟩
theorem Zfj {i j:Int}(p:P (.bl (decide (i=j))) Δ):JR2 K rEq (.int i) (.int j) Δ P:=λg G H σ Q x y k rx ry c=>by
 cases rx.inv;cases ry.inv;refine⟨rfl,?_⟩;have e:decide (V.int i=V.int j)=decide (i=j):=by rw[Zg8];exact(Wdh i j)
 rw[e];exact c _ _ G H Δ k (Same.refl _) (.bl _) p
theorem Ztm {i j:Int}(p:P (.bl (!decide (i=j))) Δ):JR2 K rNe (.int i) (.int j) Δ P:=λg G H σ Q x y k rx ry c=>by
 cases rx.inv;cases ry.inv;refine⟨rfl,?_⟩;have e:decide (V.int i=V.int j)=decide (i=j):=by rw[Zg8];exact(Wdh i j)
 rw[e];exact c _ _ G H Δ k (Same.refl _) (.bl _) p
theorem Zpc {i j:Bool}(p:P (.bl (!decide (i=j))) Δ):JR2 K rNe (.bl i) (.bl j) Δ P:=λg G H σ Q x y k rx ry c=>by
 cases rx.inv;cases ry.inv;refine⟨rfl,?_⟩;have e:decide (V.bl i=V.bl j)=decide (i=j):=by cases i <;> cases j <;> rfl
 rw[e];exact c _ _ G H Δ k (Same.refl _) (.bl _) p
theorem Zsw {ds:List D}{i:Int}{d:D}(h:atI ds i=some d) (p:P d Δ):JR2 K (rIxT K) (.tup ds) (.int i) Δ P:=λg G H σ Q x y k rx ry c=>by
 obtain⟨_,_,rfl,ha,rs⟩:=rx.inv
 next=>
  cases ry.inv;obtain⟨v,h1,h2⟩:=Zg1 rs h;exact⟨_,_,i,v,rfl,rfl,SqT.of (k.live _ _ ha),h1,c v d G H Δ k (Same.refl _) h2 p⟩
theorem Zsq {ds:List D}{i:Int}{d:D}(h:atI ds i=some d) (p:P d Δ):JR2 K (rIxL K) (.lst ds) (.int i) Δ P:=λg G H σ Q x y k rx ry c=>by
 obtain⟨_,_,rfl,ha,rs⟩:=rx.inv
 next=>
  cases ry.inv;obtain⟨v,h1,h2⟩:=Zg1 rs h;exact⟨_,_,i,v,rfl,rfl,SqL.of (k.live _ _ ha),h1,c v d G H Δ k (Same.refl _) h2 p⟩
theorem Zk9 {n:Nat}{te:TE}{Pp:Pst}{x:Slot}{od:OD}(hx:Δ[n]?=some x) (ho:x.od=some od) (hod:∃ds,od=.lst ds)
  (h:JE K te Δ λd Δ1=>∃y ds,Δ1[n]?=some y/\y.od=some (.lst ds)/\ds.length<sizeLine/\Pp.nx (Δ1.set n (y.put (.lst (ds++[d]))))) :
  JS K (tDrop (tBM K "list" rAppend (tVar n) (tCons te tNil))) Δ Pp:=λg G H σ E k c=>by
 obtain⟨a,o,h1,h2,h3,h4,h5⟩:=k.own n x _ hx ho;obtain⟨ds0,hod⟩:=hod;subst hod;cases o with
 |lst vs0=>
  refine⟨.ref a,h1,.inl ⟨rfl,_,SqL.of h2⟩,h g G H σ _ k λv d G1 H1 Δ1 k1 s1 r1 ⟨y,ds,q1,q2,q3,p⟩=>?_⟩;obtain⟨a',o',w1,w2,w3,w4,w5⟩:=k1.own n y _ q1 q2;rw[h1]at w1;cases w1;cases o' with
  |lst vs=>
   have w3:Reps K G1 vs ds:=w3;exact⟨a,vs,v,rfl,rfl,w2,by rw[w3.length];exact q3,c.nx σ G1 _ _ (k1.write q1 q2 h1 (show OwnRep K G1 (.lst (vs++[v])) (.lst (ds++[d])) from w3.append (.cons r1 .nil))) p⟩
  |_=>exact absurd w3 (λz=>z)
 |_=>exact absurd h3 (λz=>z)
theorem Zsi {ds es:List D}(he:ds=[.lst es]\/ds=[.tup es]) (p:P (.int es.length) Δ) :
  JC K (λxs H Q=>∃p ys,xs=[.ref p]/\(SqL K H p ys\/SqT K H p ys)/\Q (.int ys.length) H) ds Δ P:=λg G H σ Q vs k rs c=>by
 rcases he with he|he <;> subst he
 ·obtain⟨_,_,rfl,r,t⟩:=rs.inv
  next=>
   cases t.inv;obtain⟨_,_,rfl,ha,rs⟩:=r.inv
   next=>
    refine⟨_,_,rfl,.inl (SqL.of (k.live _ _ ha)),?_⟩;rw[rs.length];exact c _ _ G H Δ k (Same.refl _) (.int _) p
 ·obtain⟨_,_,rfl,r,t⟩:=rs.inv
  next=>
   cases t.inv;obtain⟨_,_,rfl,ha,rs⟩:=r.inv
   next=>
    refine⟨_,_,rfl,.inr (SqT.of (k.live _ _ ha)),?_⟩;rw[rs.length];exact c _ _ G H Δ k (Same.refl _) (.int _) p
theorem Zpt {n:Nat}{x:Slot}{ds:List D}(hx:Δ[n]?=some x) (ho:x.od=some (.lst ds)) (p:P (.int ds.length) Δ) :
  JE K (tCB (λxs H Q=>∃p ys,xs=[.ref p]/\(SqL K H p ys\/SqT K H p ys)/\Q (.int ys.length) H) (tCons (tVar n) tNil)) Δ P:=λg G H σ Q k c=>by
 obtain⟨a,o,h1,h2,h3,h4,h5⟩:=k.own n x _ hx ho;cases o with
 |lst vs=>
  have h3:Reps K G vs ds:=h3;refine⟨.ref a,h1,a,vs,rfl,.inl (SqL.of h2),?_⟩;rw[h3.length];exact c _ _ G H Δ k (Same.refl _) (.int _) p
 |_=>exact absurd h3 (λz=>z)
theorem Zrp {i:Int}(p:P (.int (if i<0 then -i else i)) Δ):JC K (λxs H Q=>∃i,xs=[.int i]/\Q (.int (if i<0 then -i else i)) H) [.int i] Δ P:=λg G H σ Q vs k rs c=>by
 obtain⟨_,_,rfl,r,t⟩:=rs.inv
 next=>cases t.inv;cases r.inv;exact⟨i,rfl,c _ _ G H Δ k (Same.refl _) (.int _) p⟩
theorem Zer {f:Int->Int->Int}{i j:Int}(p:P (.int (f i j)) Δ):JC K (λxs H Q=>∃i j,xs=[.int i,.int j]/\Q (.int (f i j)) H) [.int i,.int j] Δ P:=λg G H σ Q vs k rs c=>by
 obtain⟨_,_,rfl,r,t⟩:=rs.inv
 next=>
  obtain⟨_,_,rfl,r',t⟩:=t.inv
  next=>cases t.inv;cases r.inv;cases r'.inv;exact⟨i,j,rfl,c _ _ G H Δ k (Same.refl _) (.int _) p⟩
theorem Zon {ds es:List D}(he:ds=[.lst es]\/ds=[.tup es]) (p:P (.tup es) Δ) :
  JC K (λxs H Q=>∃p ys,xs=[.ref p]/\((SqL K H p ys/\∀l,H l=none->Q (.ref l) (upd H l (.tup ys)))\/(SqT K H p ys/\Q (.ref p) H))) ds Δ P:=λg G H σ Q vs k rs c=>by
 rcases he with he|he <;> subst he
 ·obtain⟨_,_,rfl,r,t⟩:=rs.inv
  next=>
   cases t.inv;obtain⟨_,_,rfl,ha,rs⟩:=r.inv
   next=>
    refine⟨_,_,rfl,.inl ⟨SqL.of (k.live _ _ ha),λl hl=>?_⟩⟩;obtain⟨k2,sg⟩:=k.laid hl (.tup _);exact c _ _ _ _ Δ k2 sg (.tup Zaq (rs.mono sg)) p
 ·obtain⟨_,_,rfl,r,t⟩:=rs.inv
  next=>
   cases t.inv;obtain⟨_,_,rfl,ha,rs⟩:=r.inv
   next=>exact⟨_,_,rfl,.inr ⟨SqT.of (k.live _ _ ha),c _ _ G H Δ k (Same.refl _) (.tup ha rs) p⟩⟩
def glue (F H H':Hp):Hp:=λb=>match H b with
 |none=>H' b
 |some _=>F b
theorem Zep {F H H':Hp}{b:Addr}(h:H b=none):glue F H H' b=H' b:=by unfold glue;rw[h]
theorem Zdd {F H H':Hp}{b:Addr}{o:HO}(h:H b=some o):glue F H H' b=F b:=by unfold glue;rw[h]
theorem Zgl {G H H':Hp}(l:Same G H):Same G (glue G H H'):=λb o e=>by rw[Zdd (l b o e)];exact e
theorem Zil {G H H':Hp}(l:Same G H) (sh:∀b o,G b=some o->H b=some o->H' b=some o):∀b o,glue G H H' b=some o->H' b=some o/\(G b=some o\/H b=none):=λb o e=>by
 cases q:H b with
 |none=>rw[Zep q]at e;exact⟨e,.inr rfl⟩
 |some u=>rw[Zdd q]at e;exact⟨sh b o e (l b o e),.inl e⟩
abbrev DSp:=List D->(D->Prop)->Prop
def spD (K:W.Frag) (f:DSp):Sp:=λvs H Q _=>∃F ds Post,Same F H/\Reps K F vs ds/\f ds Post/\∀r H' d,Same H H' -> Rep K (glue F H H') r d->Post d->Q r H'
theorem Zbl {f:DSp}{ta:TA}{E:XK}(h:JA K ta Δ λds Δ1=>f ds λd=>P d Δ1):JE K (tCall (spD K f) [] E ta) Δ P:=λg G H σ Q k c=>
 h g G H σ _ k λvs ds G1 H1 Δ1 k1 s1 r1 p1=>by
  show spD K f (vs++[]) H1 Q E;rw[Wbf];refine⟨G1,ds,_,k1.live,r1,p1,λr H' d sh rr pd=>?_⟩;have sg:=Zgl (H':=H') k1.live;exact c r d _ H' Δ1 (k1.grow sg sh (Zil k1.live λb o _ e=>sh b o e)) (s1.trans sg) rr pd
abbrev BSp:=List D->List D->(D->List D->Prop)->Prop
def spB (K:W.Frag) (f:BSp):Sp:=λvs H Q _=>∃F a us ws ps ds Post,vs=.ref a::ws/\Same F H/\F a=none/\H a=some (.lst us)/\Reps K F us ps/\Reps K F ws ds/\f ps ds Post ∧
 ∀r H' us' ps' d,(∀b o,b≠a->H b=some o->H' b=some o)->H' a=some (.lst us')->Reps K (glue F H H') us' ps' -> Rep K (glue F H H') r d->Post d ps' -> Q r H'
theorem Ok.lend {g:Gm}{G H H':Hp}{σ:St}(k:Ok K g G H σ Δ) {i:Nat}{x:Slot}{ps ps':List D}{us':List V}{a:Addr}(hx:Δ[i]?=some x) (ho:x.od=some (.lst ps)) (ha:σ[i]?=some (some (.ref a)))
  (sh:∀b o,b≠a->H b=some o->H' b=some o) (hn:H' a=some (.lst us')) (r:Reps K (glue G H H') us' ps'):Ok K g (glue G H H') H' σ (Δ.set i (x.put (.lst ps')))/\Same G (glue G H H'):=by
 obtain⟨a',o,h1,h2,h3,h4,h5⟩:=k.own i x _ hx ho;rw[ha]at h1;cases h1;have sg:=Zgl (H':=H') k.live;have k2:Ok K g (glue G H H') (upd H' a o) σ Δ:=by
  refine k.grow sg (λb u e=>?_) λb u e=>?_
  ·by_cases hb:b=a
   ·subst hb;rw[Zaq,<- h2];exact e
   ·rw[Zas hb];exact sh b u hb e
  ·have hb:b≠a:=by intro z;subst z;rw[Zdd h2,h4]at e;cases e
   rw[Zas hb];exact Zil k.live (λc w e1 e2=>sh c w (λz=>by subst z;rw[h4]at e1;cases e1) e2) b u e
 have k3:=k2.write hx ho ha (show OwnRep K (glue G H H') (.lst us') (.lst ps') from r);rw[Zq6]at k3;have e:upd H' a (.lst us')=H':=by
  funext b
  by_cases hb:b=a
  ·subst hb;rw[Zaq,hn]
  ·rw[Zas hb]
 rw[e]at k3;exact⟨k3,sg⟩
theorem Zli {f:BSp}{ta:TA}{E:XK}{i:Nat}{x:Slot}{od:OD}(hx:Δ[i]?=some x) (ho:x.od=some od) (h:JA K ta Δ λds Δ1=>∃y ps,Δ1[i]?=some y/\y.od=some (.lst ps)/\f ps ds λd ps'=>P d (Δ1.set i (y.put (.lst ps')))) :
  JE K (tCall (spB K f) [] E (tCons (tVar i) ta)) Δ P:=λg G H σ Q k c=>by
 obtain⟨a,o,h1,h2,h3,h4,h5⟩:=k.own i x _ hx ho;refine⟨.ref a,h1,h g G H σ _ k λvs ds G1 H1 Δ1 k1 s1 r1 ⟨y,ps,q1,q2,p1⟩=>?_⟩;show spB K f ((.ref a::vs)++[]) H1 Q E;rw[Wbf];obtain⟨a',o',w1,w2,w3,w4,w5⟩:=k1.own i y _ q1 q2;rw[h1]at w1;cases w1;cases o' with
 |lst us=>
  refine⟨G1,a,us,vs,ps,ds,_,rfl,k1.live,w4,w2,w3,r1,p1,λr H' us' ps' d sh hn rr rd pd=>?_⟩;obtain⟨k2,sg⟩:=k1.lend q1 q2 h1 sh hn rr;exact c r d _ H' _ k2 (s1.trans sg) rd pd
 |_=>exact absurd w3 (λz=>z)
abbrev NSp:=List D->(List D->Prop)->Prop
def spN (K:W.Frag) (f:NSp):Sp:=λvs H Q _=>∃F ds Post,Same F H/\Reps K F vs ds/\f ds Post ∧
 ∀a H' us ps,Same H H' -> H a=none->H' a=some (.lst us)->Reps K (λb=>if b=a then none else glue F H H' b) us ps->Post ps->Q (.ref a) H'
theorem Zeb {f:NSp}{ta:TA}{E:XK}{Po:OD->Evt->Prop}(h:JA K ta Δ λds Δ1=>f ds λps=>Po (.lst ps) Δ1):JO K (tCall (spN K f) [] E ta) Δ Po:=λg G H σ Q k c=>
 h g G H σ _ k λvs ds G1 H1 Δ1 k1 s1 r1 p1=>by
  show spN K f (vs++[]) H1 Q E;rw[Wbf];refine⟨G1,ds,_,k1.live,r1,p1,λa H' us ps sh ha hn rr pd=>?_⟩;have sg:Same G1 (λb=>if b=a then none else glue G1 H1 H' b):=λb o e=>by
   have hb:b≠a:=by intro z;subst z;rw[k1.live _ _ e]at ha;cases ha
   try dsimp only
   rw[if_neg hb];exact Zgl k1.live b o e
  have k2:Ok K g (λb=>if b=a then none else glue G1 H1 H' b) H' σ Δ1:=k1.grow sg sh λb o e=>by
   try dsimp only at e
   by_cases hb:b=a
   ·rw[if_pos hb]at e;cases e
   ·rw[if_neg hb]at e;exact Zil k1.live (λb o _ e=>sh b o e) b o e
  refine c a _ _ H' Δ1 k2 (s1.trans sg) ⟨.lst us,hn,(show OwnRep K _ (.lst us) (.lst ps) from rr),by simp,k1.there ha,?_,λj x od' e1 e2 e3=>?_⟩ pd
  ·cases q:g.Xo a with
   |none=>rfl
   |some u=>have z:=(k1.ext a u q).1;rw[ha]at z;cases z
  ·obtain⟨b,oo,w1,w2,_⟩:=k1.own j x od' e1 e2
   rw[e3]at w1;cases w1;rw[ha]at w2;cases w2
end
def startD (N:List Str) (ds:List D):Evt:=ds.map .val++Waj (N.length-ds.length) .any
section
variable {K:W.Frag}
theorem Zg6 {g:Gm}{G H:Hp}{N:List Str}{vs:List V}{ds:List D}(rs:Reps K G vs ds) (hl:ds.length<=N.length) (same:∀b o,¬ g.B b->g.Hz b=some o->H b=some o) (lent:∀b,g.B b->H b≠none) (sub:Same g.F G)
  (frz:∀b o,G b=some o->H b=some o/\(g.Hz b=none\/g.F b=some o)) (ext:∀b,g.Xo b=none):Ok K g G H (start N vs) (startD N ds):=by
 have noOd:∀(i:Nat) x od,(startD N ds)[i]?=some x->x.od=some od->False:=λi x od e1 e2=>by
  have hm:=Wan e1;rcases Wbr.mp hm with z|z
  ·obtain⟨d,_,rfl⟩:=Wa9.mp z;cases e2
  ·rw[Wdq]at z;rw[z.2]at e2;cases e2
 refine⟨same,lent,sub,frz,λb o e=>(by rw[ext b]at e;cases e),?_,λi d e=>?_,λi x od e1 e2=>(noOd i x od e1 e2).elim,λi j x y od od' a e1 e2=>(noOd i x od e1 e2).elim⟩
 ·unfold start startD
  rw[Waw,Waw,Wab,Wab,Wa1,Wa1,rs.length]
 ·unfold startD at e
  unfold start;by_cases hi:i<ds.length
  ·rw[Wa8 (by simpa using hi),Wad]at e
   cases q:ds[i]? with
   |none=>rw[q]at e;cases e
   |some d'=>
    rw[q]at e;have e:Slot.val d'=Slot.val d:=by simpa using e
    cases e;obtain⟨v,h1,h2⟩:=rs.get q;refine⟨v,?_,h2⟩;rw[Wa8 (by rw[Wab,rs.length];exact hi),Wad,h1];rfl
  ·rw[Wax (by simpa using hi),Wcd]at e
   split at e <;> cases e
theorem Zgj {f:DSp}{t:TS}{N:List Str}{vs:List V}{H:Hp}{Q:VK}{E:XK}(ht:∀ds Post,f ds Post->ds.length<=N.length/\JS K t (startD N ds) ⟨λ_=>Post .non,λd _=>Post d,λ_=>False,λ_=>False,λ_ _=>False⟩) (h:spD K f vs H Q E) :
  t { nx:=λ_ H'=>Q .non H',rt:=Q } (start N vs) H:=by
 obtain⟨F,ds,Post,l,rs,hf,q⟩:=h;obtain⟨hl,hj⟩:=ht ds Post hf;have fin:∀{v:V}{d:D}{σ:St}{G H':Hp}{Δ:Evt},Ok K ⟨λ_=>False,F,H,λ_=>none⟩ G H' σ Δ -> Rep K G v d->Post d->Q v H':=λ{v d σ G H' Δ} k r p=>by
  refine q v H' d (λb o e=>k.same b o (λz=>z) e) (r.mono λb o e=>?_) p;obtain⟨e1,e2⟩:=k.frz b o e;rcases e2 with z|z
  ·rw[Zep z];exact e1
  ·rw[Zdd (l b o z)];exact z
 refine hj ⟨λ_=>False,F,H,λ_=>none⟩ F H (start N vs) _ (Zg6 rs hl (λ_ _ _ e=>e) (λ_ z=>z.elim) (Same.refl _) (λb o e=>⟨l b o e,.inr e⟩) λ_=>rfl) ⟨λσ G H' Δ k p=>fin k .non p,λv d σ G H' Δ k r p=>fin k r p,λ_ _ _ _ _ z=>z.elim,λ_ _ _ _ _ z=>z.elim,λ_ _ _ _ _ _ _ _ z=>z.elim⟩
theorem Zna {f:NSp}{t:TS}{N:List Str}{vs:List V}{H:Hp}{Q:VK}{E:XK}(ht:∀ds Post,f ds Post->ds.length<=N.length/\JS K t (startD N ds) ⟨λ_=>False,λ_ _=>False,λ_=>False,λ_=>False,λod _=>∃ps,od=.lst ps/\Post ps⟩) (h:spN K f vs H Q E) :
  t { nx:=λ_ H'=>Q .non H',rt:=Q } (start N vs) H:=by
 obtain⟨F,ds,Post,l,rs,hf,q⟩:=h;obtain⟨hl,hj⟩:=ht ds Post hf;refine hj ⟨λ_=>False,F,H,λ_=>none⟩ F H (start N vs) _ (Zg6 rs hl (λ_ _ _ e=>e) (λ_ z=>z.elim) (Same.refl _) (λb o e=>⟨l b o e,.inr e⟩) λ_=>rfl) ⟨λ_ _ _ _ _ z=>z.elim,λ_ _ _ _ _ _ _ _ z=>z.elim,λ_ _ _ _ _ z=>z.elim,λ_ _ _ _ _ z=>z.elim,λa od σ G H' Δ k pd ⟨ps,e,p⟩=>?_⟩;subst e;obtain⟨o,h1,h2,h3,h4,h5,h6⟩:=pd;cases o with
 |lst us=>
  refine q a H' us ps (λb o e=>k.same b o (λz=>z) e) h4 h1 (Reps.mono (λb o e=>?_) (show Reps K G us ps from h2)) p;have hb:b≠a:=by intro z;subst z;rw[h3]at e;cases e
  try dsimp only
  rw[if_neg hb];obtain⟨e1,e2⟩:=k.frz b o e;rcases e2 with z|z
  ·rw[Zep z];exact e1
  ·rw[Zdd (l b o z)];exact z
 |_=>exact absurd h2 (λz=>z)
theorem Zi6 {f:BSp}{t:TS}{N:List Str}{vs:List V}{H:Hp}{Q:VK}{E:XK}(ht:∀ps ds Post,f ps ds Post->ds.length+1<=N.length/\JS K t (.bor (.lst ps)::startD N.tail ds) ⟨λΔ=>∃ps',Δ[0]?=some (.bor (.lst ps'))/\Post .non ps',λd Δ=>∃ps',Δ[0]?=some (.bor (.lst ps'))/\Post d ps',λ_=>False,λ_=>False,λ_ _=>False⟩) (h:spB K f vs H Q E) :
  t { nx:=λ_ H'=>Q .non H',rt:=Q } (start N vs) H:=by
 obtain⟨F,a,us,ws,ps,ds,Post,rfl,l,fa,ha,ru,rs,hf,q⟩:=h;obtain⟨hl,hj⟩:=ht ps ds Post hf;have fin:∀{v:V}{d:D}{σ:St}{G H':Hp}{Δ:Evt}{ps':List D},Ok K ⟨λb=>b=a,F,H,λ_=>none⟩ G H' σ Δ -> Δ[0]?=some (.bor (.lst ps'))->Rep K G v d->Post d ps' -> Q v H':=λ{v d σ G H' Δ ps'} k e0 r p=>by
  obtain⟨a',o,h1,h2,h3,h4,h5⟩:=k.own 0 _ _ e0 rfl;have ea:a'=a:=h5;subst ea;cases o with
  |lst us'=>
   have up:Same G (glue F H H'):=λb o e=>by
    obtain⟨e1,e2⟩:=k.frz b o e;rcases e2 with z|z
    ·rw[Zep z];exact e1
    ·rw[Zdd (l b o z)];exact z
   exact q v H' us' ps' d (λb o hb e=>k.same b o hb e) h2 (Reps.mono up (show Reps K G us' ps' from h3)) (r.mono up) p
  |_=>exact absurd h3 (λz=>z)
 cases N with
 |nil=>simp at hl
 |cons n0 N=>
  have hl':ds.length<=N.length:=by simpa using hl
  have k0:=Zg6 (K:=K) (H:=H) (g:=⟨λb=>b=a,F,H,λ_=>none⟩) (N:=N) rs hl' (λ_ _ _ e=>e) (λb z=>by subst z;rw[ha];intro w;cases w) (Same.refl _) (λb o e=>⟨l b o e,.inr e⟩) λ_=>rfl;have e1:start (n0::N) (.ref a::ws)=some (.ref a)::start N ws:=by
   unfold start;rw[Wbe,Wao,Wao,Nat.add_sub_add_right];rfl
  rw[e1];have noOd:∀(i:Nat) x od,(startD N ds)[i]?=some x->x.od=some od->False:=λi x od e1 e2=>by
   have hm:=Wan e1;rcases Wbr.mp hm with z|z
   ·obtain⟨d,_,rfl⟩:=Wa9.mp z;cases e2
   ·rw[Wdq]at z;rw[z.2]at e2;cases e2
  have k1:Ok K ⟨λb=>b=a,F,H,λ_=>none⟩ F H (some (.ref a)::start N ws) (.bor (.lst ps)::startD N ds):=by
   refine⟨k0.same,k0.lent,k0.sub,k0.frz,λb o e=>(by cases e),(by rw[Wao,Wao,k0.len]),λi d e=>?_,λi x od e1 e2=>?_,λi j x y od od' c e1 e2 e3 e4 _ _=>?_⟩
   ·cases i with
    |zero=>cases e
    |succ i=>exact k0.val i d e
   ·cases i with
    |zero=>cases e1;cases e2;exact⟨a,.lst us,rfl,ha,ru,fa,rfl⟩
    |succ i=>exact(noOd i x od e1 e2).elim
   ·cases i with
    |zero=>cases j with
     |zero=>rfl
     |succ j=>exact(noOd j y od' e3 e4).elim
    |succ i=>exact(noOd i x od e1 e2).elim
  exact hj _ F H _ _ k1 ⟨λσ G H' Δ k ⟨ps',e,p⟩=>fin k e .non p,λv d σ G H' Δ k r ⟨ps',e,p⟩=>fin k e r p,λ_ _ _ _ _ z=>z.elim,λ_ _ _ _ _ z=>z.elim,λ_ _ _ _ _ _ _ _ z=>z.elim⟩
theorem Zcu {f:DSp}{n:Nat}(h:∀ds Post,f ds Post->ds.length=n):∀vs H Q E,spD K f vs H Q E->vs.length=n:=λvs H Q E hq_=>by obtain⟨F,ds,Post,l,rs,hf,q⟩:=hq_;rw[rs.length];exact h ds Post hf
theorem Zhb {f:NSp}{n:Nat}(h:∀ds Post,f ds Post->ds.length=n):∀vs H Q E,spN K f vs H Q E->vs.length=n:=λvs H Q E hq_=>by obtain⟨F,ds,Post,l,rs,hf,q⟩:=hq_;rw[rs.length];exact h ds Post hf
theorem Zdp {f:BSp}{n:Nat}(h:∀ps ds Post,f ps ds Post->ds.length+1=n):∀vs H Q E,spB K f vs H Q E->vs.length=n:=λvs H Q E hq_=>by obtain⟨F,a,us,ws,ps,ds,Post,e,l,fa,ha,ru,rs,hf,q⟩:=hq_;rw[e,Wao,rs.length];exact h ps ds Post hf
end
def JGn (K:W.Frag) (n:Nat) (t:TG) (d:D) (Δ:Evt) (P:Evt->Prop):Prop:=
 ∀g G H σ v (R:St->Hp->Prop),Ok K g G H σ Δ -> Rep K G v d->(∀σ' G' H' Δ',Ok K g G' H' σ' Δ' -> Same G G' -> (∀j,n<=j -> σ'[j]? = σ[j]?)->P Δ' -> R σ' H')->t v σ H R
def JGsn (K:W.Frag) (n:Nat) (t:TGs) (ds:List D) (Δ:Evt) (P:Evt->Prop):Prop:=
 ∀g G H σ vs (R:St->Hp->Prop),Ok K g G H σ Δ -> Reps K G vs ds->(∀σ' G' H' Δ',Ok K g G' H' σ' Δ' -> Same G G' -> (∀j,n<=j -> σ'[j]? = σ[j]?)->P Δ' -> R σ' H')->t vs σ H R
section
variable {K:W.Frag}{Δ:Evt}
theorem Zol {n:Nat}{P:Evt->Prop}(p:P Δ):JGsn K n gNil [] Δ P:=λg G H σ vs R k r c=>by cases r;exact⟨rfl,c σ G H Δ k (Same.refl _) (λ_ _=>rfl) p⟩
theorem Zh3 {n:Nat}{t:TG}{u:TGs}{d:D}{ds:List D}{P:Evt->Prop}(h:JGn K n t d Δ λΔ1=>JGsn K n u ds Δ1 P):JGsn K n (gCons t u) (d::ds) Δ P:=λg G H σ vs R k r c=>by
 obtain⟨_,_,rfl,r1,rr⟩:=r.inv
 next=>exact⟨_,_,rfl,h g G H σ _ _ k r1 λσ1 G1 H1 Δ1 k1 s1 e1 p1=>p1 g G1 H1 σ1 _ R k1 (rr.mono s1) λσ2 G2 H2 Δ2 k2 s2 e2 p2=>c σ2 G2 H2 Δ2 k2 (s1.trans s2) (λj hj=>(e2 j hj).trans (e1 j hj)) p2⟩
theorem Zqg {n m:Nat}{t:TGs}{ds:List D}{P:Evt->Prop}(hl:ds.length=m) (h:JGsn K n t ds Δ P):JGn K n (gTup K m t) (.tup ds) Δ P:=λg G H σ v R k r c=>by
 obtain⟨_,_,rfl,ha,rs⟩:=r.inv
 next=>exact⟨_,_,rfl,SqT.of (k.live _ _ ha),by rw[rs.length];exact hl,h g G H σ _ R k rs c⟩
end
def compD (n:Nat) (sel:List Nat) (Δ:Evt):Evt:=Waj n .any++sel.map λi=>(Δ[i]?).getD .any
def backAt (n:Nat) (sel:List Nat) (Δi:Evt) (i:Nat) (x:Slot):Slot:=match x with
 |.val d=>.val d
 |.any=>.any
 |x=>match sel.idxOf? i with
  |none=>x
  |some j=>match Δi[n+j]? with
   |some (.own o)=>.own o
   |some (.bor o)=>.bor o
   |some (.ownA a o)=>.ownA a o
   |_=>.any
def backD (n:Nat) (sel:List Nat) (Δi:Evt):Nat->Evt->Evt
 |_,[]=>[]
 |i,x::r=>backAt n sel Δi i x::backD n sel Δi (i+1) r
theorem Zco (n:Nat) (sel:List Nat) (Δi:Evt):∀(Δ:Evt) (k i:Nat),(backD n sel Δi k Δ)[i]?=(Δ[i]?).map (backAt n sel Δi (k+i))
 |[],k,i=>by simp[backD]
 |x::r,k,0=>by simp[backD]
 |x::r,k,i+1=>by
  have:=Zco n sel Δi r (k+1) i;simp only[backD,List.getElem?_cons_succ];rw[this,show k+1+i=k+(i+1) by omega]
theorem Zh8 (n:Nat) (sel:List Nat) (Δi:Evt):∀(Δ:Evt) (k:Nat),(backD n sel Δi k Δ).length = Δ.length
 |[],k=>rfl
 |x::r,k=>by simp[backD,Zh8 n sel Δi r (k+1)]
theorem Zdv {sel:List Nat}{i j:Nat}(h:sel.idxOf? i=some j):sel[j]?=some i:=by
 have h2:=List.idxOf?_eq_some_iff.mp h;obtain⟨hj,e,_⟩:=h2;rw[Waa hj,e]
theorem Zlf {n:Nat}{sel:List Nat}{Δi:Evt}{i:Nat}{x y:Slot}{od:OD}(h:backAt n sel Δi i x=y) (ho:y.od=some od) :
  (x=y/\sel.idxOf? i=none)\/∃j,sel[j]?=some i /\ Δi[n+j]?=some y/\∃od',x.od=some od':=by
 unfold backAt at h;cases x with
 |any=>subst h;cases ho
 |val d=>subst h;cases ho
 |own o=>
  dsimp only at h;cases q:sel.idxOf? i with
  |none=>rw[q]at h;exact .inl ⟨h,rfl⟩
  |some j=>
   rw[q]at h;dsimp only at h;refine .inr ⟨j,Zdv q,?_,o,rfl⟩;cases e:Δi[n+j]? with
   |none=>rw[e]at h;subst h;cases ho
   |some z=>rw[e]at h;cases z <;> (subst h;first|rfl|cases ho)
 |ownA a o=>
  dsimp only at h;cases q:sel.idxOf? i with
  |none=>rw[q]at h;exact .inl ⟨h,rfl⟩
  |some j=>
   rw[q]at h;dsimp only at h;refine .inr ⟨j,Zdv q,?_,o,rfl⟩;cases e:Δi[n+j]? with
   |none=>rw[e]at h;subst h;cases ho
   |some z=>rw[e]at h;cases z <;> (subst h;first|rfl|cases ho)
 |bor o=>
  dsimp only at h;cases q:sel.idxOf? i with
  |none=>rw[q]at h;exact .inl ⟨h,rfl⟩
  |some j=>
   rw[q]at h;dsimp only at h;refine .inr ⟨j,Zdv q,?_,o,rfl⟩;cases e:Δi[n+j]? with
   |none=>rw[e]at h;subst h;cases ho
   |some z=>rw[e]at h;cases z <;> (subst h;first|rfl|cases ho)
section
variable {K:W.Frag}{Δ:Evt}
open Classical in
noncomputable def aside (g:Gm) (sel:List Nat) (σ:St) (Δ:Evt) (H:Hp) (acc:Addr) (ys:List V):Hp:=λb=>
 if b=acc then some (.lst ys) else if ∃(i:Nat) (x:Slot) (od:OD),Δ[i]?=some x/\x.od=some od/\i ∉ sel /\ σ[i]?=some (some (.ref b)) then H b else g.Xo b
theorem Zdg {n:Nat}{sel:List Nat}{σ:St}{j i:Nat}(h:sel[j]?=some i):(compSt n sel σ)[n+j]?=some ((σ[i]?).getD none):=by
 unfold compSt;rw[Wax (by rw[Wa1];omega),Wa1,Wct,Wad,h];rfl
theorem Zb6 {n:Nat}{sel:List Nat}{Δ:Evt}{k:Nat}{x:Slot}(h:(compD n sel Δ)[k]?=some x):x=.any\/∃j i,k=n+j/\sel[j]?=some i /\ Δ[i]?=some x:=by
 unfold compD at h;by_cases hk:k<n
 ·rw[Wa8 (by simpa using hk),Wcd,if_pos hk]at h
  exact .inl (Wa7.inj h).symm
 ·rw[Wax (by simpa using hk),Wa1,Wad]at h
  cases e:sel[k-n]? with
  |none=>rw[e]at h;cases h
  |some i=>
   rw[e]at h;have h:(Δ[i]?).getD .any=x:=by simpa using h
   cases q:Δ[i]? with
   |none=>rw[q]at h;exact .inl h.symm
   |some y=>rw[q]at h;cases h;exact .inr ⟨k-n,i,by omega,e,q⟩
theorem Zfq {g:Gm}{G1 H1:Hp}{σ:St}{Δ1:Evt}{n:Nat}{sel:List Nat}{acc:Addr}{X0:Hp}(hsel:sel.Nodup) (k1:Ok K g G1 H1 σ Δ1) (hacc:H1 acc=none)
  (hX:∀b o,X0 b=some o->(b=acc/\o=.lst [])\/(b≠acc/\(((∃(i:Nat) (x:Slot) (od:OD),Δ1[i]?=some x/\x.od=some od/\i ∉ sel /\ σ[i]?=some (some (.ref b)))/\H1 b=some o)\/g.Xo b=some o))):Ok K ⟨g.B,G1,g.Hz,X0⟩ G1 (upd H1 acc (.lst [])) (compSt n sel σ) (compD n sel Δ1):=by
 have hsl:∀{j j' i:Nat},sel[j]?=some i->sel[j']?=some i->j=j':=λ{j j' i} a b=>by
  obtain⟨h1,e1⟩:=Waf.mp a;obtain⟨h2,e2⟩:=Waf.mp b;exact(Wd0 hsel).mp (e1.trans e2.symm)
 have hGa:G1 acc=none:=by
  cases e:G1 acc with
  |none=>rfl
  |some u=>rw[k1.live _ _ e]at hacc;cases hacc
 have cs:∀{j i:Nat}{a:Addr},sel[j]?=some i->(compSt n sel σ)[n+j]?=some (some (.ref a)) -> σ[i]?=some (some (.ref a)):=λ{j i a} ej e3=>by
  rw[Zdg ej]at e3;cases q:σ[i]? with
  |none=>rw[q]at e3;cases e3
  |some w=>rw[q]at e3;cases e3;rfl
 have oldH:∀b o,H1 b=some o->(upd H1 acc (.lst [])) b=some o:=λb o e=>by rw[Zas (Zbg e hacc)];exact e
 refine⟨λb o hb e=>oldH b o (k1.same b o hb e),λb hb z=>?_,Same.refl _,λb o e=>⟨oldH b o (k1.live b o e),.inr e⟩,λb o e=>?_,?_,λi d e=>?_,λi x od e1 e2=>?_,λi j x y od od' a e1 e2 e3 e4 e5 e6=>?_⟩
 ·cases q:H1 b with
  |none=>exact k1.lent b hb q
  |some u=>rw[oldH b u q]at z;cases z
 ·rcases hX b o e with ⟨rfl,rfl⟩|⟨hb,⟨⟨i0,x0,od0,f1,f2,f3,f4⟩,e⟩|e⟩
  ·refine⟨Zaq,hGa,λi x od e1 e2 e3=>?_⟩
   rcases Zb6 e1 with z|⟨j,i',ei,ej,z⟩
   ·subst z;cases e2
   ·subst ei
    obtain⟨a,o,w1,w2,_⟩:=k1.own i' x od z e2;rw[cs ej e3]at w1;cases w1;rw[hacc]at w2;cases w2
  ·obtain⟨a,oo,w1,w2,w3,w4,w5⟩:=k1.own i0 x0 od0 f1 f2
   rw[f4]at w1;cases w1;refine⟨oldH b o e,w4,λi x od e1 e2 e3=>?_⟩;rcases Zb6 e1 with z|⟨j,i',ei,ej,z⟩
   ·subst z;cases e2
   ·subst ei
    have:=k1.dis i0 i' x0 x od0 od b f1 f2 z e2 f4 (cs ej e3);subst this;exact f3 (Wan ej)
  ·obtain⟨w1,w2,w3⟩:=k1.ext b o e
   refine⟨oldH b o w1,w2,λi x od e1 e2 e3=>?_⟩;rcases Zb6 e1 with z|⟨j,i',ei,ej,z⟩
   ·subst z;cases e2
   ·subst ei;exact w3 i' x od z e2 (cs ej e3)
 ·unfold compD compSt
  simp
 ·rcases Zb6 e with z|⟨j,i',ei,ej,z⟩
  ·cases z
  ·subst ei
   obtain⟨v,w1,w2⟩:=k1.val i' d z;exact⟨v,by rw[Zdg ej,w1];rfl,w2⟩
 ·rcases Zb6 e1 with z|⟨j,i',ei,ej,z⟩
  ·subst z;cases e2
  ·subst ei
   obtain⟨a,o,w1,w2,w3,w4,w5⟩:=k1.own i' x od z e2;exact⟨a,o,by rw[Zdg ej,w1];rfl,oldH a o w2,w3,w4,w5⟩
 ·rcases Zb6 e1 with z|⟨j1,i1,ei,ej,z⟩
  ·subst z;cases e2
  ·rcases Zb6 e3 with z'|⟨j2,i2,ei',ej',z'⟩
   ·subst z';cases e4
   ·subst ei;subst ei'
    have:=k1.dis i1 i2 x y od od' a z e2 z' e4 (cs ej e5) (cs ej' e6);subst this;rw[hsl ej ej']
theorem Zgz {σ σ2:St}{Δ1 Δ2:Evt}{n:Nat}{sel:List Nat}(hσ:∀j,n<=j -> σ2[j]?=(compSt n sel σ)[j]?) (i:Nat) (y:Slot) (od:OD) (e1:(backD n sel Δ2 0 Δ1)[i]?=some y) (e2:y.od=some od) :
  ∃x od',Δ1[i]?=some x/\x.od=some od' /\ ((x=y/\i ∉ sel)\/∃j,sel[j]?=some i /\ Δ2[n+j]?=some y /\ σ2[n+j]?=some ((σ[i]?).getD none)):=by
 rw[Zco]at e1;cases q:Δ1[i]? with
 |none=>rw[q]at e1;cases e1
 |some x=>
  rw[q]at e1;have e1:backAt n sel Δ2 i x=y:=by simpa using e1
  rcases Zlf e1 e2 with ⟨z1,z2⟩|⟨j,z1,z2,od',z3⟩
  ·refine⟨x,od,rfl,by rw[z1];exact e2,.inl ⟨z1,λhm=>?_⟩⟩
   rw[List.idxOf?_eq_none_iff]at z2;exact z2 hm
  ·exact⟨x,od',rfl,z3,.inr ⟨j,z1,z2,by rw[hσ (n+j) (by omega)];exact Zdg z1⟩⟩
theorem Ze3 {g:Gm}{G1 H1 G2 H2 Xv:Hp}{σ σ2:St}{Δ1 Δ2:Evt}{n:Nat}{sel:List Nat}{acc:Addr}(k1:Ok K g G1 H1 σ Δ1) (hacc:H1 acc=none) (k2:Ok K ⟨g.B,G1,g.Hz,Xv⟩ G2 H2 σ2 Δ2) (hσ:∀j,n<=j -> σ2[j]?=(compSt n sel σ)[j]?)
  (hX:∀b o,b≠acc->(∃(i:Nat) (x:Slot) (od:OD),Δ1[i]?=some x/\x.od=some od/\i ∉ sel /\ σ[i]?=some (some (.ref b)))->H1 b=some o->Xv b=some o) (hY:∀b o,b≠acc->¬ (∃(i:Nat) (x:Slot) (od:OD),Δ1[i]?=some x/\x.od=some od/\i ∉ sel /\ σ[i]?=some (some (.ref b)))->g.Xo b=some o->Xv b=some o):Ok K g G2 H2 σ (backD n sel Δ2 0 Δ1):=by
 have s2:Same G1 G2:=k2.sub;have src:=Zgz (Δ1:=Δ1) (Δ2:=Δ2) hσ;refine⟨k2.same,k2.lent,k1.sub.trans s2,λb o e=>?_,λb o e=>?_,by rw[Zh8,k1.len],λi d e=>?_,λi y od e1 e2=>?_,λi j x y od od' a e1 e2 e3 e4 e5 e6=>?_⟩
 ·obtain⟨q1,q2⟩:=k2.frz b o e
  refine⟨q1,?_⟩;rcases q2 with z|z
  ·exact .inl z
  ·exact(k1.frz b o z).2
 ·obtain⟨w1,w2,w3⟩:=k1.ext b o e
  have hne:b≠acc:=by intro z;subst z;rw[hacc]at w1;cases w1
  obtain⟨u1,u2,u3⟩:=k2.ext b o (hY b o hne (λ⟨i,x,od,f1,f2,f3,f4⟩=>w3 i x od f1 f2 f4) e);refine⟨u1,u2,λi y od e1 e2 e3=>?_⟩;obtain⟨x,od',f1,f2,_⟩:=src i y od e1 e2;exact w3 i x od' f1 f2 e3
 ·rw[Zco]at e
  cases q:Δ1[i]? with
  |none=>rw[q]at e;cases e
  |some x=>
   rw[q]at e;have e:backAt n sel Δ2 (0+i) x=.val d:=by simpa using e
   have ex:x=.val d:=by
    unfold backAt at e;cases x with
    |any=>cases e
    |val d'=>exact e
    |own o=>dsimp only at e;split at e <;> first|cases e|(split at e <;> cases e)
    |bor o=>dsimp only at e;split at e <;> first|cases e|(split at e <;> cases e)
    |ownA a o=>dsimp only at e;split at e <;> first|cases e|(split at e <;> cases e)
   subst ex;obtain⟨v,w1,w2⟩:=k1.val i d q;exact⟨v,w1,w2.mono s2⟩
 ·obtain⟨x,od',f1,f2,f3⟩:=src i y od e1 e2
  rcases f3 with ⟨f3,f4⟩|⟨j,f3,f4,f5⟩
  ·subst f3
   obtain⟨a,o,w1,w2,w3,w4,w5⟩:=k1.own i x od f1 e2;have hne:a≠acc:=by intro z;subst z;rw[hacc]at w2;cases w2
   obtain⟨u1,u2,u3⟩:=k2.ext a o (hX a o hne ⟨i,x,od,f1,e2,f4,w1⟩ w2);exact⟨a,o,w1,u1,w3.mono s2,u2,w5⟩
  ·obtain⟨a,o,w1,w2,w3,w4,w5⟩:=k2.own (n+j) y od f4 e2
   obtain⟨a0,o0,v1,_⟩:=k1.own i x od' f1 f2;rw[f5,v1]at w1;have ea:a0=a:=by cases w1;rfl
   subst ea;exact⟨a0,o,v1,w2,w3,w4,w5⟩
 ·obtain⟨x',od1,f1,f2,_⟩:=src i x od e1 e2
  obtain⟨y',od2,f3,f4,_⟩:=src j y od' e3 e4;exact k1.dis i j x' y' od1 od2 a f1 f2 f3 f4 e5 e6
theorem Ok.base {g:Gm}{G1 F X G5 H5:Hp}{σ5:St}{Δ5:Evt}(sF:Same G1 F) (hF:∀b o,F b=some o->(g.Hz b=none\/G1 b=some o)) (k5:Ok K ⟨g.B,F,g.Hz,X⟩ G5 H5 σ5 Δ5):Ok K ⟨g.B,G1,g.Hz,X⟩ G5 H5 σ5 Δ5:=
 ⟨k5.same,k5.lent,sF.trans k5.sub,λb o q=>by
  obtain⟨q1,q2⟩:=k5.frz b o q;refine⟨q1,?_⟩;rcases q2 with z|z
  ·exact .inl z
  ·exact hF b o z,k5.ext,k5.len,k5.val,k5.own,k5.dis⟩
theorem Zk2 {n:Nat}{sel:List Nat}{wi:TI}{t:TG}{tc:TT}{te:TE}{P:OD->Evt->Prop}(hsel:sel.Nodup)
  (h:JI K wi Δ λds Δ1=>ds.length<sizeLine/\∃I:Nat->List D->Evt->Prop,I 0 [] (compD n sel Δ1) ∧
   (∀i d ys Δ2,ds[i]?=some d->I i ys Δ2->JGn K n t d Δ2 λΔ3=>JT K tc Δ3 λb Δ4=>if b=true then JE K te Δ4 λe Δ5=>I (i+1) (ys++[e]) Δ5 else I (i+1) ys Δ4) ∧
   ∀ys Δ2,I ds.length ys Δ2->P (.lst ys) (backD n sel Δ2 0 Δ1)):JO K (tComp n sel wi t tc te) Δ P:=λg G H σ Q k c=>
 h g G H σ _ k λJ ds G1 H1 Δ1 k1 s1 it ⟨hz,I,h0,ht,he⟩ acc hacc=>by
  have nacc:∀(i:Nat) x od,Δ1[i]?=some x->x.od=some od -> σ[i]?≠some (some (.ref acc)):=λi x od e1 e2 e3=>by
   obtain⟨a,o,w1,w2,_⟩:=k1.own i x od e1 e2;rw[e3]at w1;cases w1;rw[hacc]at w2;cases w2
  -- the word at each turn
  let Wd:Nat->St->Hp->Prop:=λi σ' H'=>i<=ds.length/\(∀j,n<=j -> σ'[j]?=(compSt n sel σ)[j]?)/\∃G ys vs Δi,ys.length<=i/\Reps K G vs ys/\Ok K ⟨g.B,G1,g.Hz,aside g sel σ Δ1 H1 acc vs⟩ G H' σ' Δi/\I i ys Δi
  refine⟨λi m σ' H'=>m=ds.length-i/\Wd i σ' H',⟨ds.length,by simp,Wbx _,λ_ _=>rfl,G1,[],[],compD n sel Δ1,Wak _,.nil,?_,h0⟩,?_⟩
  ·refine Zfq hsel k1 hacc λb o e=>?_
   have e:aside g sel σ Δ1 H1 acc [] b=some o:=e;unfold aside at e;by_cases hb:b=acc
   ·rw[if_pos hb]at e;cases e;exact .inl ⟨hb,rfl⟩
   ·rw[if_neg hb]at e
    split at e
    case isTrue hx=>exact .inr ⟨hb,.inl ⟨hx,e⟩⟩
    case isFalse hx=>exact .inr ⟨hb,.inr e⟩
  ·rintro i m σ2 H2 ⟨rfl,hi,hσ,G2,ys,vs,Δ2,hy,ry,k2,h2⟩
   have s2:Same G1 G2:=k2.sub;obtain⟨stop,go⟩:=it G2 H2 s2 k2.live;have hacc2:∀{G' H':Hp}{σ':St}{Δ':Evt}{vs:List V}{F:Hp},Ok K ⟨g.B,F,g.Hz,aside g sel σ Δ1 H1 acc vs⟩ G' H' σ' Δ' -> H' acc=some (.lst vs)/\G' acc=none/\∀(i:Nat) x od,Δ'[i]?=some x->x.od=some od -> σ'[i]?≠some (some (.ref acc)):=λ{G' H' σ' Δ' vs F} kk=>
    kk.ext acc (.lst vs) (by show aside g sel σ Δ1 H1 acc vs acc=_;unfold aside;rw[if_pos rfl])
   by_cases hlt:i<ds.length
   ·obtain⟨g1,g2⟩:=go i _ (Waa hlt)
    refine .inr ⟨g1,λσ' H'=>Wd (i+1) σ' H',λσ' H' p'=>⟨ds.length-(i+1),by omega,rfl,p'⟩,λx H3 y=>?_⟩;obtain⟨G3,a1,a2,a3,a4⟩:=g2 x H3 y;have k3:=k2.grow a1 a2 a3;have hG3:∀b o,G3 b=some o->(g.Hz b=none\/G1 b=some o):=λb o q=>(k3.frz b o q).2;have k3':Ok K ⟨g.B,G3,g.Hz,aside g sel σ Δ1 H1 acc vs⟩ G3 H3 σ2 Δ2:=⟨k3.same,k3.lent,Same.refl _,λb o q=>⟨(k3.frz b o q).1,.inr q⟩,k3.ext,k3.len,k3.val,k3.own,k3.dis⟩;have ry3:Reps K G3 vs ys:=ry.mono a1;have s13:Same G1 G3:=s2.trans a1;refine ht i _ ys Δ2 (Waa hlt) h2 ⟨g.B,G3,g.Hz,aside g sel σ Δ1 H1 acc vs⟩ G3 H3 σ2 x _ k3' a4 λσ4 G4 H4 Δ4 k4 s4 e4 p4=>?_;have hσ4:∀j,n<=j -> σ4[j]?=(compSt n sel σ)[j]?:=λj hj=>(e4 j hj).trans (hσ j hj);refine p4 _ G4 H4 σ4 _ k4 λb G5 H5 Δ5 k5 s5 p5=>?_;cases b with
    |false=>exact⟨hlt,hσ4,G5,ys,vs,Δ5,by omega,ry3.mono (s4.trans s5),k5.base s13 hG3,p5⟩
    |true=>
     refine(show JE K te Δ5 _ from p5) _ G5 H5 σ4 _ k5 λv d G6 H6 Δ6 k6 s6 r6 p6=>?_;have ry6:Reps K G6 vs ys:=ry3.mono (s4.trans (s5.trans s6));obtain⟨b1,b2,b3⟩:=hacc2 k6;refine⟨vs,b1,by rw[ry6.length];omega,hlt,hσ4,G6,ys++[d],vs++[v],Δ6,by rw[Waw,Wby];omega,ry6.append (.cons r6 .nil),?_,p6⟩;have k7:=k6.base s13 hG3;have oldH:∀b o,b≠acc->H6 b=some o->(upd H6 acc (.lst (vs++[v]))) b=some o:=λb o hb e=>by rw[Zas hb];exact e
     have aNe:∀b o,b≠acc->aside g sel σ Δ1 H1 acc (vs++[v]) b=some o->aside g sel σ Δ1 H1 acc vs b=some o:=λb o hb e=>by
      unfold aside at e ⊢;rw[if_neg hb]at e ⊢;exact e
     refine⟨λb o hb e=>?_,λb hb=>?_,k7.sub,λb o e=>?_,λb o e=>?_,k7.len,k7.val,λi x od e1 e2=>?_,k7.dis⟩
     ·have hne:b≠acc:=by
       intro z;subst z;have e:g.Hz b=some o:=e;rw[k1.there hacc]at e;cases e
      exact oldH b o hne (k7.same b o hb e)
     ·by_cases hne:b=acc
      ·subst hne;rw[Zaq];intro z;cases z
      ·rw[Zas hne];exact k7.lent b hb
     ·have hne:b≠acc:=by intro z;subst z;rw[b2]at e;cases e
      exact⟨oldH b o hne (k7.frz b o e).1,(k7.frz b o e).2⟩
     ·by_cases hne:b=acc
      ·subst hne
       have e:aside g sel σ Δ1 H1 b (vs++[v]) b=some o:=e;unfold aside at e;rw[if_pos rfl]at e;cases e;exact⟨Zaq,b2,b3⟩
      ·obtain⟨w1,w2,w3⟩:=k7.ext b o (aNe b o hne e)
       exact⟨oldH b o hne w1,w2,w3⟩
     ·obtain⟨a,o,w1,w2,w3,w4,w5⟩:=k7.own i x od e1 e2
      have hne:a≠acc:=by intro z;subst z;exact b3 i x od e1 e2 w1
      exact⟨a,o,w1,oldH a o hne w2,w3,w4,w5⟩
   ·have e:i=ds.length:=by omega
    subst e;refine .inl ⟨stop,?_⟩;obtain⟨b1,b2,b3⟩:=hacc2 k2;have src:=Zgz (Δ1:=Δ1) (Δ2:=Δ2) hσ;have k9:Ok K g G2 H2 σ (backD n sel Δ2 0 Δ1):=Ze3 k1 hacc k2 hσ (λb o hb hx e=>by show aside g sel σ Δ1 H1 acc vs b=_;unfold aside;rw[if_neg hb,if_pos hx];exact e) (λb o hb hx e=>by show aside g sel σ Δ1 H1 acc vs b=_;unfold aside;rw[if_neg hb,if_neg hx];exact e);refine c acc _ G2 H2 _ k9 (s1.trans s2) ⟨.lst vs,b1,(show OwnRep K G2 (.lst vs) (.lst ys) from ry),b2,k1.there hacc,?_,λi y od e1 e2 e3=>?_⟩ (he ys Δ2 h2)
    ·cases q:g.Xo acc with
     |none=>rfl
     |some u=>have z:=(k1.ext acc u q).1;rw[hacc]at z;cases z
    ·obtain⟨x',od1,f1,f2,_⟩:=src i y od e1 e2
     exact nacc i x' od1 f1 f2 e3
theorem Zkt {n:Nat}{sel:List Nat}{wi:TI}{t:TG}{tc:TT}{te:TE}{P:D->Evt->Prop}(hsel:sel.Nodup)
  (h:JI K wi Δ λds Δ1=>ds.length<sizeLine/\∃I:Nat->List D->Evt->Prop,I 0 [] (compD n sel Δ1) ∧
   (∀i d ys Δ2,ds[i]?=some d->I i ys Δ2->JGn K n t d Δ2 λΔ3=>JT K tc Δ3 λb Δ4=>if b=true then JE K te Δ4 λe Δ5=>I (i+1) (ys++[e]) Δ5 else I (i+1) ys Δ4) ∧
   ∀ys Δ2,I ds.length ys Δ2->P (.lst ys) (backD n sel Δ2 0 Δ1)):JE K (tComp n sel wi t tc te) Δ P:=
 Zbx (Zk2 hsel λg G H σ R k c=>h g G H σ R k λJ ds G' H' Δ' k' s' it ⟨z,I,h0,ht,he⟩=>c J ds G' H' Δ' k' s' it ⟨z,I,h0,ht,λys Δ2 q=>⟨ys,rfl,he ys Δ2 q⟩⟩)
theorem Zjg {n:Nat}{sel:List Nat}{wi:TI}{t:TG}{tc:TT}{te:TE}{P:D->Evt->Prop}(hsel:sel.Nodup)
  (h:JI K wi Δ λds Δ1=>ds.length<sizeLine/\∃(fix:Evt) (p:D->Bool) (f:D->D),compD n sel Δ1=Waj n .any++fix ∧
   (∀(i:Nat) d (ts:Evt),ds[i]?=some d->ts.length=n->JGn K n t d (ts++fix) λΔ3=>JT K tc Δ3 λb Δ4=>b=p d/\if b=true then JE K te Δ4 λe Δ5=>e=f d/\∃ts',ts'.length=n /\ Δ5=ts'++fix else ∃ts',ts'.length=n /\ Δ4=ts'++fix) ∧
   P (.lst ((ds.filter p).map f)) (backD n sel (Waj n .any++fix) 0 Δ1)):JE K (tComp n sel wi t tc te) Δ P:=by
 refine Zkt hsel λg G H σ R k c=>h g G H σ R k λJ ds G' H' Δ' k' s' it ⟨z,fix,p,f,e0,ht,he⟩=>c J ds G' H' Δ' k' s' it ⟨z,λi ys Δ=>ys=((ds.take i).filter p).map f/\∃ts:Evt,ts.length=n /\ Δ = ts++fix,?_,?_,?_⟩
 ·exact⟨by simp,_,by simp,e0⟩
 ·rintro i d ys Δ2 hd ⟨rfl,ts,hts,rfl⟩
  have tk:ds.take (i+1)=ds.take i++[d]:=by
   rw[Wcw,hd];rfl
  intro g G H σ v R k r c;refine ht i d ts hd hts g G H σ v R k r λσ' G' H' Δ' k' s' e' q=>c σ' G' H' Δ' k' s' e' λg G H σ Q k c=>q g G H σ Q k λb G' H' Δ' k' s' ⟨eb,q⟩=>c b G' H' Δ' k' s' ?_;cases b with
  |true=>
   rw[if_pos rfl]at q ⊢;refine q.mono λe Δ5 ⟨e1,ts',h1,h2⟩=>⟨?_,ts',h1,h2⟩;rw[tk,Wb2,Wa4,Wbv,<- eb,e1];rfl
  |false=>
   rw[if_neg War]at q ⊢;obtain⟨ts',h1,h2⟩:=q;refine⟨?_,ts',h1,h2⟩;rw[tk,Wb2,Wa4,Wbv,<- eb];simp
 ·rintro ys Δ2 ⟨rfl,ts,hts,rfl⟩
  rw[Wb3];have e:backD n sel (ts++fix) 0 Δ'=backD n sel (Waj n .any++fix) 0 Δ':=by
   apply Wb6;intro i;rw[Zco,Zco];congr 1
   funext x
   unfold backAt;have e2:∀j,(ts++fix)[n+j]?=(Waj n Slot.any++fix)[n+j]?:=λj=>by
    rw[Wax (by omega),Wax (by simp),hts,Wa1]
   simp only[e2]
  rw[e];exact he
end
end L2
set_option Elab.async false
set_option linter.all false
set_option maxRecDepth 100000
namespace HT
open PySem PyProof.Rows
section
variable {prog:Program}{w:World}{A:Around}{E:Value->Shared->Prop}{s:Shared}
theorem getItem_tuple_whole {t sl:Addr}{items:Array Value}{vl vu:Value}{lo hi:Option Int}{Q:Value->Shared->Prop}(ht:IsTup s.heap t items) (hs:s.heap.IsSliceOf sl vl vu .none) (pl:IsPart vl lo) (pu:IsPart vu hi)
  (hw:sIx items.size 0 lo=0/\sIx items.size items.size hi=items.size) (h:Q (.ref t) s):wpAny (model prog w) A (getItem (.ref t) (.ref sl)) Q E s:=by
 obtain⟨os,hos,hcs,hds⟩:=id hs;have hTs:s.TypeIs (.ref sl) "slice":=⟨os,hos,hcs⟩;unfold getItem
 try with_reducible refine wpAny_holding ?_
 first|refine wpAny_bind (wpAny_pure ?_)|skip
 refine wpAny_bind (wpAny_sequenceKey ht.typeIs (by decide) ?_);refine wpAny_bind (wpAny_callSpecial?_slot (name:=Str.ofString "__getitem__") ht.typeIs PyProof.Rows.slot_tuple_getitem
  (wpAny_call_entry PyProof.Rows.slot_tuple_getitem ht.typeIs entry_tuple_getitem ?_ (args_tuple_getitem _ _)))
 show wpAny _ _ (Builtin.Tuple.tupleItemsOf (.ref t) >>= _) _ _ s;refine wpAny_bind (tupleItemsOf_ ht ?_);refine wpAny_bind (wpAny_typeOf hTs ?_);rw[if_pos (by decide)];refine wpAny_bind (Zcz hs pl pu ?_);have hyes:(((sIx items.size 0 lo:Nat):Int) == 0 && (1:Int) == 1 && (sIx items.size items.size hi-sIx items.size 0 lo) == items.size)=true:=by
  rw[hw.1,hw.2];simp
 show wpAny _ _ (if (((sIx items.size 0 lo:Nat):Int) == 0 && (1:Int) == 1 && (sIx items.size items.size hi-sIx items.size 0 lo) == items.size)=true then _ else _) _ _ s;rw[if_pos hyes]
 first
  |exact wpAny_pure ⟨_,rfl,wpAny_pure h⟩
  |exact wpAny_pure ⟨_,rfl,h⟩
  |exact wpAny_bind (wpAny_pure (wpAny_pure ⟨_,rfl,wpAny_pure h⟩))
  | (refine wpAny_bind (wpAny_bind (wpAny_typeOf ht.typeIs (wpAny_pure ?_)))
     rw[if_pos (by decide)];exact wpAny_bind (wpAny_rule (wpAny_pure ⟨_,rfl,wpAny_pure h⟩)))
theorem tuple_index {t:Addr}{items:Array Value}{x:Value}{e:Value->Bool}{j:Nat}{Q:Value->Shared->Prop}(ht:IsTup s.heap t items) (he:∀y∈items,PySem.SeqAt.EqAt A.in1 s y x (e y)) (hj:j<items.size)
  (hit:e items[j]=true) (hno:∀m (hm:m<items.size),m<j->e items[m]=false) (h:Q (.int j s.toks) { s with toks:=s.toks+1 }) :
  wpAny (model prog w) A (call (.builtin "tuple.index") [.ref t,x]) Q E s:=by
 refine wpAny_call_entry PySem.F.slot_tuple_index ht.typeIs PySem.F.entry_tuple_index ?_ (PySem.F.args_tuple_index_2 _ _);show wpAny _ _ (Builtin.Tuple.tupleItemsOf (.ref t) >>= _) _ _ s;refine wpAny_bind (tupleItemsOf_ ht ?_);refine wpAny_bind (wpAny_pure (wpAny_bind (wpAny_pure (wpAny_bind ?_))));rw[Wc0];simp only[Std.Legacy.Range.forIn_eq_forIn_range',Std.Legacy.Range.size,Wdy,Nat.add_sub_cancel,Nat.div_one];refine wpAny_mono (Q:=λb s'=>s' = { s with toks:=s.toks+1 } /\ b.1=some (Fin.done (.ret (.int j s.toks)))) ?_ (λb s' hb=>?_) λ_ _ z=>z;refine wpAny_forIn_list _ (λl b s'=>s'=s/\∃i,l=List.range' i (items.size-i)/\i<=j) _ ?_ ?_ _ _ ⟨rfl,0,rfl,Wbx _⟩
 ·rintro i rest b s' ⟨rfl,k,hl,hk⟩
  have hk2:items.size-k=(items.size-k-1)+1:=by omega
  rw[hk2,List.range'_succ]at hl;injection hl with hl1 hl2
  subst hl1;have hi:i<items.size:=by omega
  rw[Array.getElem?_eq_getElem hi];refine wpAny_bind (he _ (Array.getElem_mem hi) prog w _ _ ?_);by_cases hij:i=j
  ·subst hij
   rw[hit,if_pos rfl];exact wpAny_bind (wpAny_bind (wpAny_mkInt (wpAny_pure (wpAny_pure ⟨rfl,rfl⟩))))
  ·rw[hno i hi (by omega),if_neg War]
   exact wpAny_pure ⟨rfl,i+1,by rw[hl2,show items.size-i-1=items.size-(i+1) by omega],by omega⟩
 ·rintro b s' ⟨rfl,k,hl,hk⟩
  have:=congrArg Wbd hl;simp at this;omega
 ·obtain⟨rfl,e1⟩:=hb
  obtain⟨b1,b2⟩:=b;dsimp only at e1;subst e1;exact wpAny_pure ⟨_,rfl,h⟩
end
end HT
namespace L2
open PySem PySem.Spec PyProof.Rows
section
variable {X:Cx}
def rSlT' (K:W.Frag):V->Option Int->Option Int->Hp->VK->Prop:=λx lo hi H Q=>∃a xs,x=.ref a/\SqT K H a xs ∧
 ((HT.sIx xs.length 0 lo=0/\HT.sIx xs.length xs.length hi=xs.length)->Q (.ref a) H) ∧
 (¬ (HT.sIx xs.length 0 lo=0/\HT.sIx xs.length xs.length hi=xs.length)->∀p,H p=none->Q (.ref p) (upd H p (.tup (cutV xs lo hi))))
theorem Zq5:SlR X (rSlT' X.K):=by
 intro pins s σ H x v vl vu lo hi sl Q I rx hs pl pu h;obtain⟨a,xs,rfl,hx,q1,q2⟩:=h;by_cases hw:HT.sIx xs.length 0 lo=0/\HT.sIx xs.length xs.length hi=xs.length
 ·cases rx
  obtain⟨its,r,ht,hz⟩:=I.tuple hx;have hlen:its.toArray.size=xs.length:=by rw[Wag];exact r.length.symm
  exact⟨"tuple",_,PyProof.Rows.slot_tuple_getitem.lookup,ht.typeIs,HT.getItem_tuple_whole ht hs pl pu (by rw[hlen];exact hw) ⟨.ref a,H,I,rfl,q1 hw⟩⟩
 ·exact Zrz pins s σ H (.ref a) v vl vu lo hi sl Q I rx hs pl pu ⟨a,xs,rfl,hx,hw,q2 hw⟩
def rSlU (K:W.Frag):V->Option Int->Option Int->Hp->VK->Prop:=λx lo hi H Q=>rSlL K x lo hi H Q\/rSlT' K x lo hi H Q
theorem slU:SlR X (rSlU X.K):=Zq4.or Zq5
def tSlR (K:W.Frag) (te:TE):TE:=λσ H Q=>te σ H λx H1=>∃a xs,x=.ref a/\SqT K H1 a xs/\∀p,H1 p=none->Q (.ref p) (upd H1 p (.tup xs.reverse))
def rCatT' (K:W.Frag):R2:=λx y H Q=>∃a b xs ys,x=.ref a/\y=.ref b/\SqT K H a xs/\SqT K H b ys/\xs.length+ys.length<=sizeLine ∧
 (xs=[]->Q (.ref b) H)/\(xs≠[]->ys=[]->Q (.ref a) H)/\(xs≠[]->ys≠[]->∀p,H p=none->Q (.ref p) (upd H p (.tup (xs++ys))))
theorem Zn4:OpR X (binaryOp .Add) (rCatT' X.K):=by
 intro pins s σ H x y v u Q I rx ry h;obtain⟨a,b,xs,ys,rfl,rfl,ha,hb,hz,q0,q1,q2⟩:=h;by_cases hx:xs=[]
 ·cases rx
  cases ry;obtain⟨its,r1,p1,_⟩:=I.tuple ha;obtain⟨its2,r2,p2,_⟩:=I.tuple hb;obtain⟨⟨cls,dd,data,sl⟩,ho,hc,n,hd⟩:=id p1;obtain⟨⟨cls2,dd2,data2,sl2⟩,ho2,hc2,n2,hd2⟩:=id p2;simp only at hc hd hc2 hd2;subst hc hd hc2 hd2;exact concat_meets ⟨_,ho,rfl⟩ ⟨_,ho2,rfl⟩ noFill_tuple_add seq_tuple_add PySem.F.slot_tuple_add PySem.F.entry_tuple_add (PySem.F.args_tuple_add_2 _ _)
   (tuple_addW0 a b its.toArray its2.toArray n n2 dd dd2 sl sl2 (by simp[r1.nil_iff.mpr hx])) ⟨ho,ho2,⟨.ref b,H,I,rfl,q0 hx⟩⟩
 ·exact Zqc pins s σ H (.ref a) (.ref b) v u Q I rx ry ⟨a,b,xs,ys,rfl,rfl,ha,hb,hx,hz,q1 hx,q2 hx⟩
def rAddU (K:W.Frag):R2:=λx y H Q=>rI0 (λi j=>.int (i+j)) x y H Q\/(rCatT' K x y H Q\/rCat x y H Q)
theorem Zpy:OpR X (binaryOp .Add) (rAddU X.K):=Zs0.or (Zn4.or Zro)
theorem Zb1:OpR X (compareOp .Eq) rEq:=Zts
theorem Zrm:OpR X (compareOp .NotEq) rNe:=Ztt
def rIxD:R2:=λx y H Q=>∃a v,x=.ref a/\DGet H a y (some v)/\Q v H
theorem Zpx (hu:X.A.units+1<cLine):IxR X rIxD:=by
 intro value slice pins s σ H x y v u Q I rx ry h hs;obtain⟨a,w',rfl,g,q⟩:=h;cases rx;exact tail_any (Zio I g) PySem.F.slot_dict_getitem.lookup (Zlm hu I g ry λw2 s3 I3 rw'=>⟨w',H,I3,rw',q⟩) hs
def rIxU (K:W.Frag):R2:=λx y H Q=>rIx K x y H Q\/rIxD x y H Q
theorem ixU (hu:X.A.units+1<cLine):IxR X (rIxU X.K):=Zsr.or (Zpx hu)
def rSetD:V->V->V->Hp->(Hp->Prop)->Prop:=λo i v H Q=>∃a H',o=.ref a/\DPut H a i v H' /\ Q H'
theorem Znc (hu:X.A.units+1<cLine):PSet X rSetD:=by
 intro pins s σ H o i v ov iv u Q I ro ri rv h;obtain⟨a,H',rfl,g,q⟩:=h;cases ro;exact Zmj hu I g ri rv λs' I'=>⟨H',I',q⟩
theorem PSet.or {t t':TSet}(h:PSet X t) (h':PSet X t'):PSet X (λo i v H Q=>t o i v H Q\/t' o i v H Q):=by
 intro pins s σ H o i v ov iv u Q I ro ri rv q;rcases q with q|q
 ·exact h pins s σ H o i v ov iv u Q I ro ri rv q
 ·exact h' pins s σ H o i v ov iv u Q I ro ri rv q
def rSetU:V->V->V->Hp->(Hp->Prop)->Prop:=λo i v H Q=>rSetL o i v H Q\/rSetD o i v H Q
theorem setU (hu:X.A.units+1<cLine):PSet X rSetU:=Zoz.or (Znc hu)
def rLenU (K:W.Frag):List V->Hp->VK->Prop:=λxs H Q=>(∃p ys,xs=[.ref p]/\(SqL K H p ys\/SqT K H p ys)/\Q (.int ys.length) H)\/∃a kvs,xs=[V.ref a]/\H a=some (.dK kvs)/\Q (.int kvs.length) H
theorem Zkw:CallR X (.builtin "len") (rLenU X.K):=Zic.or Zmg
def insI (n:Nat) (i:Int):Nat:=if i<0 then (i+(n:Int)).toNat else min i.toNat n
def rInsert:V->List V->Hp->VK->Prop:=λx vs H Q=>∃l xs i y,x=.ref l/\vs=[.int i,y]/\H l=some (.lst xs)/\xs.length<sizeLine /\ -(2 ^ 62)<=i/\i<2 ^ 62/\Q .non (upd H l (.lst (xs.take (insI xs.length i)++y::xs.drop (insI xs.length i))))
theorem Zd0:MtM X "list.insert" rInsert:=by
 intro pins s σ H x vs v us Q I rx rv h;obtain⟨l,xs,i,y,rfl,rfl,hH,hz,h1,h2,q⟩:=h;cases rx;obtain⟨ui,uy,rfl,⟨t,rfl⟩,ry⟩:=rv.two;obtain⟨z,its,n,r,hl,e⟩:=I.lstM hH;refine call_meets F.slot_list_insert ⟨_,e,rfl⟩ F.entry_list_insert (F.args_list_insert_3 _ _ _) (PySem.AutoSeq1.list_insert_list_int_val_1 l its.toArray n i t uy (by
  have hf:Builtin.List.listFitsIndex i=true:=by
   unfold Builtin.List.listFitsIndex;rw[decide_eq_true (by omega),decide_eq_true (by omega)];rfl
  rw[hf];decide) (by rw[Wag];omega)) ⟨e,?_⟩
 refine⟨.non,_,I.lset (its':=its.take (insI xs.length i)++uy::its.drop (insI xs.length i)) hH e ?_ ((r.take _).append (.cons ry (r.drop _))) ?_,rfl,q⟩
 ·have e1:(if i<0 then (i+(its.toArray.size:Int)).toNat else min i.toNat its.toArray.size)=insI xs.length i:=by
   unfold insI;rw[Wag,hl]
  dsimp only;rw[e1];apply Array.ext';simp;rw[Wcu (by rw[Wbu];exact Wak _)]
 ·rw[Waw,Wao,Wbt,Wbu]
  omega
def rIndexT (K:W.Frag):V->List V->Hp->VK->Prop:=λx vs H Q=>∃a xs y j,x=.ref a/\vs=[y]/\SqT K H a xs/\flatV y=true/\xs.all flatV=true/\j<xs.length ∧
 (∃z,xs[j]?=some z/\eqV z y=true)/\(∀m z,m<j->xs[m]?=some z->eqV z y=false)/\Q (.int j) H
theorem Zfk:MtM X "tuple.index" (rIndexT X.K):=by
 intro pins s σ H x vs v us Q I rx rv h;obtain⟨a,xs,y,j,rfl,rfl,hx,fy,fx,hj,⟨z,hz1,hz2⟩,hno,q⟩:=h;cases rx;obtain⟨u,rfl,ru⟩:=rv.one;obtain⟨its,r,ht,hz⟩:=I.tuple hx;have hl:its.length=xs.length:=r.length.symm;have key:∀w∈its.toArray,SeqAt.EqAt X.A.in1 s w u (eqU y w):=λw hw=>by
  have hw:w∈its:=by simpa using hw
  obtain⟨k,hk,e⟩:=Wcl.mp hw;have hk':k<xs.length:=by omega
  obtain⟨w',hw',rw'⟩:=r.get (Waa hk');have ew:w'=w:=by
   rw[Waa hk]at hw';exact(Wa7.inj hw').symm.trans e
  subst ew;have fk:flatV xs[k]=true:=Wb4.mp fx _ (Wa6 hk');rw[Zjt rw' fk];exact Zo2 rw' ru fk fy
 have at_:∀(k:Nat) (hk:k<its.toArray.size) (z:V),xs[k]?=some z->eqU y its.toArray[k]=eqV z y:=λk hk z e=>by
  obtain⟨w',hw',rw'⟩:=r.get e;have hk2:k<its.length:=by simpa using hk
  rw[Waa hk2]at hw';have ew:its.toArray[k]=w':=by simpa using Wa7.inj hw'
  rw[ew];exact Zjt rw' (Wb4.mp fx _ (Wan e))
 have hj':j<its.toArray.size:=by simpa [hl] using hj
 refine HT.tuple_index ht key hj' (by rw[at_ j hj' z hz1];exact hz2) (λm hm hmj=>?_) ⟨.int j,H,I.tok _,⟨_,rfl⟩,q⟩;have hm2:m<xs.length:=by simpa [hl] using hm
 rw[at_ m hm _ (Waa hm2)];exact hno m _ hmj (Waa hm2)
end
end L2
namespace L2
open PySem PySem.Spec PyProof.Rows
section
variable {X:Cx}
theorem PI.or {tg iter:Expr}{w w':TI}(h:PI X tg iter w) (h':PI X tg iter w'):PI X tg iter (λσ H R=>w σ H R\/w' σ H R):=by
 intro pins s σ H R I q;rcases q with q|q
 ·exact h pins s σ H R I q
 ·exact h' pins s σ H R I q
def iSeq (K:W.Frag) (tl:TE):TI:=λσ H R=>iList K tl σ H R\/iTup K tl σ H R
theorem Zsv {tg l:Expr}{tl:TE}(hl:PE X l tl):PI X tg l (iSeq X.K tl):=(Zqy hl).or (Zrn hl)
def tTru (K:W.Frag) (ta:TE):TT:=λσ H Q=>ta σ H λx H'=>∃k,TruV K x H' k/\Q k H'
theorem Zs6 {a:Expr}{ta:TE}(ha:PE X a ta) (he:∀whole,isTrue a X.env whole=(do let v ← whole;standAt a.pos;holding [v] (truthy v))):PT X a (tTru X.K ta):=Zno ha he
end
section
variable {K:W.Frag}{Δ:Evt}{P:D->Evt->Prop}
theorem Zc5 {i j:Int}(p:P (.int (i+j)) Δ):JR2 K (rAddU K) (.int i) (.int j) Δ P:=λg G H σ Q x y k rx ry c=>by
 cases rx.inv;cases ry.inv;exact .inl ⟨i,j,rfl,rfl,c _ _ G H Δ k (Same.refl _) (.int _) p⟩
theorem Zrd {ds es:List D}(hz:ds.length+es.length<=sizeLine) (p:P (.tup (ds++es)) Δ):JR2 K (rAddU K) (.tup ds) (.tup es) Δ P:=λg G H σ Q x y k rx ry c=>by
 cases rx with
 |tup ha ra=>
  cases ry with
  |tup hb rb=>
   refine .inr (.inl ⟨_,_,_,_,rfl,rfl,SqT.of (k.live _ _ ha),SqT.of (k.live _ _ hb),by rw[ra.length,rb.length];exact hz,λe=>?_,λ_ e=>?_,λ_ _ q hq=>?_⟩)
   ·subst e;cases ra;exact c _ _ G H Δ k (Same.refl _) (.tup hb rb) p
   ·subst e;cases rb;rw[Wbf]at p;exact c _ _ G H Δ k (Same.refl _) (.tup ha ra) p
   ·obtain⟨k2,sg⟩:=k.laid hq (.tup _)
    exact c _ _ _ _ Δ k2 sg (.tup Zaq ((ra.append rb).mono sg)) p
theorem Zpm {ds es:List D}(hz:ds.length+es.length<=sizeLine) (p:P (.lst (ds++es)) Δ):JR2 K (rAddU K) (.lst ds) (.lst es) Δ P:=λg G H σ Q x y k rx ry c=>by
 obtain⟨_,_,rfl,ha,ra⟩:=rx.inv
 next=>
  obtain⟨_,_,rfl,hb,rb⟩:=ry.inv
  next=>
   refine .inr (.inr ⟨_,_,_,_,rfl,rfl,k.live _ _ ha,k.live _ _ hb,by rw[ra.length,rb.length];exact hz,λq hq=>?_⟩);obtain⟨k2,sg⟩:=k.laid hq (.lst _);exact c _ _ _ _ Δ k2 sg (.lst Zaq ((ra.append rb).mono sg)) p
theorem Zc3 {ds:List D}{i:Int}{d:D}(h:atI ds i=some d) (p:P d Δ):JR2 K (rIxU K) (.tup ds) (.int i) Δ P:=λg G H σ Q x y k rx ry c=>
 .inl (.inr (.inl (Zsw h p g G H σ Q x y k rx ry c)))
theorem Zbu {ds:List D}{i:Int}{d:D}(h:atI ds i=some d) (p:P d Δ):JR2 K (rIxU K) (.lst ds) (.int i) Δ P:=λg G H σ Q x y k rx ry c=>
 .inl (.inl (Zsq h p g G H σ Q x y k rx ry c))
theorem Zgb {n:Nat}{tb:TE}{x:Slot}{ds:List D}(hx:Δ[n]?=some x) (ho:x.od=some (.lst ds)) (h:JE K tb Δ λe Δ1=>∃y es i d,Δ1[n]?=some y/\y.od=some (.lst es)/\e=.int i/\atI es i=some d/\P d Δ1):JE K (tOp (rIxU K) (tVar n) tb) Δ P:=λg G H σ Q k c=>by
 obtain⟨a,o,h1,h2,h3,h4,h5⟩:=k.own n x _ hx ho;refine⟨.ref a,h1,h g G H σ _ k λv e G1 H1 Δ1 k1 s1 r1 ⟨y,es,i,d,q1,q2,q3,q4,p⟩=>?_⟩;subst q3;cases r1.inv;obtain⟨a',o',w1,w2,w3,w4,w5⟩:=k1.own n y _ q1 q2;rw[h1]at w1;cases w1;cases o' with
 |lst vs=>
  obtain⟨u,z1,z2⟩:=Zg1 (show Reps K G1 vs es from w3) q4;exact .inl (.inl ⟨a,vs,i,u,rfl,rfl,SqL.of w2,z1,c u d G1 H1 Δ1 k1 s1 z2 p⟩)
 |_=>exact absurd w3 (λz=>z)
theorem Zmo {n:Nat}{ti te:TE}{Pp:Pst}(h:JE K te Δ λd Δ1=>(∃x od,Δ1[n]?=some x/\x.od=some od)/\JE K ti Δ1 λe Δ2=>∃x ds i j,Δ2[n]?=some x/\x.od=some (.lst ds)/\e=.int i/\ixN ds.length i=some j/\Pp.nx (Δ2.set n (x.put (.lst (ds.set j d))))) :
  JS K (tAsg te (gSub (tVar n) ti rSetU)) Δ Pp:=λg G H σ E k c=>
 h g G H σ _ k λv d G1 H1 Δ1 k1 s1 r1 hq_=>by
  obtain⟨⟨x,od,hx,ho⟩,p1⟩:=hq_;obtain⟨a,o,h1,h2,h3,h4,h5⟩:=k1.own n x _ hx ho;refine⟨.ref a,h1,p1 g G1 H1 σ _ k1 λu e G2 H2 Δ2 k2 s2 r2 ⟨y,ds,i,j,q1,q2,q3,q4,p⟩=>?_⟩;subst q3;cases r2.inv;obtain⟨a',o',w1,w2,w3,w4,w5⟩:=k2.own n y _ q1 q2;rw[h1]at w1;cases w1;cases o' with
  |lst vs=>
   have w3:Reps K G2 vs ds:=w3;exact .inl ⟨a,vs,i,j,rfl,rfl,w2,by rw[w3.length];exact q4,c.nx σ G2 _ _ (k2.write q1 q2 h1 (show OwnRep K G2 (.lst (vs.set j v)) (.lst (ds.set j d)) from w3.set j (r1.mono s2))) p⟩
  |_=>exact absurd w3 (λz=>z)
theorem Zdn {ds es:List D}(he:ds=[.lst es]\/ds=[.tup es]) (p:P (.int es.length) Δ):JC K (rLenU K) ds Δ P:=λg G H σ Q vs k rs c=>.inl (Zsi he p g G H σ Q vs k rs c)
theorem Zem {n:Nat}{x:Slot}{ds:List D}(hx:Δ[n]?=some x) (ho:x.od=some (.lst ds)) (p:P (.int ds.length) Δ):JE K (tCB (rLenU K) (tCons (tVar n) tNil)) Δ P:=λg G H σ Q k c=>by
 obtain⟨v,h1,h2⟩:=Zpt hx ho p g G H σ Q k c;exact⟨v,h1,.inl h2⟩
def cutD (ds:List D) (lo hi:Option Int):List D:=(ds.drop (HT.sIx ds.length 0 lo)).take (HT.sIx ds.length ds.length hi-HT.sIx ds.length 0 lo)
theorem Zk4 {α:Type}(xs:List α) (lo hi:Option Int) (h:HT.sIx xs.length 0 lo=0/\HT.sIx xs.length xs.length hi=xs.length):(xs.drop (HT.sIx xs.length 0 lo)).take (HT.sIx xs.length xs.length hi-HT.sIx xs.length 0 lo)=xs:=by
 rw[h.1,h.2];simp
def JO2 (t:TO) (Δ:Evt) (K:W.Frag) (P:Option Int->Evt->Prop):Prop:=
 ∀g G H σ (Q:Option Int->Hp->Prop),Ok K g G H σ Δ -> (∀o G' H' Δ',Ok K g G' H' σ Δ' -> Same G G' -> P o Δ' -> Q o H')->t σ H Q
theorem Zgx {P:Option Int->Evt->Prop}(p:P none Δ):JO2 tNoPart Δ K P:=λg G H σ Q k c=>c none G H Δ k (Same.refl _) p
theorem Zf9 {te:TE}{P:Option Int->Evt->Prop}(h:JE K te Δ λd Δ1=>∃i,d=.int i/\P (some i) Δ1):JO2 (tPart te) Δ K P:=λg G H σ Q k c=>
 h g G H σ _ k λv d G1 H1 Δ1 k1 s1 r1 hq_=>by obtain⟨i,e,p⟩:=hq_;subst e;cases r1.inv;exact⟨i,rfl,c (some i) G1 H1 Δ1 k1 s1 p⟩
def slD (d:D) (lo hi:Option Int):Option D:=match d with
 |.lst ds=>some (.lst (cutD ds lo hi))
 |.scr ds=>some (.lst (cutD ds lo hi))
 |.tup ds=>some (.tup (cutD ds lo hi))
 |_=>none
theorem Zn6 {te:TE}{tl th:TO}(h:JE K te Δ λd Δ1=>JO2 tl Δ1 K λlo Δ2=>JO2 th Δ2 K λhi Δ3=>∃e,slD d lo hi=some e/\P e Δ3):JE K (tSl (rSlU K) te tl th) Δ P:=λg G H σ Q k c=>
 h g G H σ _ k λv d G1 H1 Δ1 k1 s1 r1 p1=>p1 g G1 H1 σ _ k1 λlo G2 H2 Δ2 k2 s2 p2=>p2 g G2 H2 σ _ k2 λhi G3 H3 Δ3 k3 s3 hq_=>by
  obtain⟨e,he,p⟩:=hq_;have r3:=r1.mono (s2.trans s3);have cc:=c.up (s1.trans (s2.trans s3));cases r3 with
  |lst ha rs=>
   cases he;refine .inl ⟨_,_,rfl,SqL.of (k3.live _ _ ha),λq hq=>?_⟩;obtain⟨k4,sg⟩:=k3.laid hq (.lst _);refine cc _ _ _ _ Δ3 k4 sg (.lst Zaq (Reps.mono sg ?_)) p;unfold cutV cutD;rw[rs.length];exact(rs.drop _).take _
  |scr ha rs=>
   cases he;refine .inl ⟨_,_,rfl,k3.live.seq ha,λq hq=>?_⟩;obtain⟨k4,sg⟩:=k3.laid hq (.lst _);refine cc _ _ _ _ Δ3 k4 sg (.lst Zaq (Reps.mono sg ?_)) p;unfold cutV cutD;rw[rs.length];exact(rs.drop _).take _
  |tup ha rs=>
   cases he;refine .inr ⟨_,_,rfl,SqT.of (k3.live _ _ ha),λhw=>?_,λhw q hq=>?_⟩
   ·rw[rs.length]at hw
    refine cc _ _ _ _ Δ3 k3 (Same.refl _) (.tup ha ?_) p;unfold cutD;rw[Zk4 _ _ _ hw];exact rs
   ·obtain⟨k4,sg⟩:=k3.laid hq (.tup _)
    refine cc _ _ _ _ Δ3 k4 sg (.tup Zaq (Reps.mono sg ?_)) p;unfold cutV cutD;rw[rs.length];exact(rs.drop _).take _
  |_=>cases he
theorem Zrk {te:TE}(h:JE K te Δ λd Δ1=>∃ds,d=.tup ds/\P (.tup ds.reverse) Δ1):JE K (tSlR K te) Δ P:=λg G H σ Q k c=>
 h g G H σ _ k λv d G1 H1 Δ1 k1 s1 r1 hq_=>by
  obtain⟨ds,e,p⟩:=hq_;subst e;obtain⟨_,_,rfl,ha,rs⟩:=r1.inv
  next=>
   refine⟨_,_,rfl,SqT.of (k1.live _ _ ha),λq hq=>?_⟩;obtain⟨k4,sg⟩:=k1.laid hq (.tup _);exact c _ _ _ _ Δ1 k4 (s1.trans sg) (.tup Zaq (rs.reverse.mono sg)) p
theorem Zcy {tl:TE}{P:List D->Evt->Prop}(h:JE K tl Δ λd Δ1=>∃ds,(d=.lst ds\/d=.scr ds)/\P ds Δ1):JI K (iSeq K tl) Δ P:=λg G H σ R k c=>.inl (Zpp h g G H σ R k c)
theorem Zc7 {tl:TE}{P:List D->Evt->Prop}(h:JE K tl Δ λd Δ1=>∃ds,d=.tup ds/\P ds Δ1):JI K (iSeq K tl) Δ P:=λg G H σ R k c=>.inr (Zsc h g G H σ R k c)
def truD:D->Option Bool
 |.non=>some false
 |.bl b=>some b
 |.int i=>some (i != 0)
 |.lst ds=>some !ds.isEmpty
 |.tup ds=>some !ds.isEmpty
 |_=>none
theorem Reps.isEmpty {G:Hp}{vs:List V}{ds:List D}(r:Reps K G vs ds):vs.isEmpty=ds.isEmpty:=by cases r <;> rfl
theorem Zhy {t:TE}{Pb:Bool->Evt->Prop}(h:JE K t Δ λd Δ1=>∃b,truD d=some b/\Pb b Δ1):JT K (tTru K t) Δ Pb:=λg G H σ Q k c=>
 h g G H σ _ k λv d G1 H1 Δ1 k1 s1 r1 hq_=>by
  obtain⟨b,e,p1⟩:=hq_;refine⟨b,?_,c b G1 H1 Δ1 k1 s1 p1⟩;cases r1 with
  |non=>cases e;rfl
  |bl b=>cases e;rfl
  |int i=>cases e;rfl
  |str x=>cases e
  |ty n=>cases e
  |scr ha rs=>cases e
  |adr a=>cases e
  |dct ha hl rs=>cases e
  |exc ha=>cases e
  |lst ha rs=>cases e;exact .inl ⟨_,SqL.of (k1.live _ _ ha),by rw[rs.isEmpty]⟩
  |tup ha rs=>cases e;exact .inr (.inl ⟨_,SqT.of (k1.live _ _ ha),by rw[rs.isEmpty]⟩)
theorem Zp3 {ta tb:TE}(h:JE K ta Δ λd Δ1=>∃b,d=.bl b/\if b=true then JE K tb Δ1 P else P (.bl false) Δ1):JE K (tAndV ta tb) Δ P:=λg G H σ Q k c=>
 h g G H σ _ k λv d G1 H1 Δ1 k1 s1 r1 hq_=>by
  obtain⟨b,e,p1⟩:=hq_;subst e;cases r1.inv;refine⟨b,rfl,?_⟩;cases b with
  |true=>exact(show JE K tb Δ1 P from p1) g G1 H1 σ Q k1 (c.up s1)
  |false=>exact c _ _ G1 H1 Δ1 k1 s1 (.bl false) p1
theorem Zsy {ta tb:TE}(h:JE K ta Δ λd Δ1=>∃b,d=.bl b/\if b=true then P (.bl true) Δ1 else JE K tb Δ1 P):JE K (tOrV ta tb) Δ P:=λg G H σ Q k c=>
 h g G H σ _ k λv d G1 H1 Δ1 k1 s1 r1 hq_=>by
  obtain⟨b,e,p1⟩:=hq_;subst e;cases r1.inv;refine⟨b,rfl,?_⟩;cases b with
  |false=>exact(show JE K tb Δ1 P from p1) g G1 H1 σ Q k1 (c.up s1)
  |true=>exact c _ _ G1 H1 Δ1 k1 s1 (.bl true) p1
theorem Zre {ta:TE}(h:JE K ta Δ λd Δ1=>∃b,d=.bl b/\P (.bl !b) Δ1):JE K (tNotV ta) Δ P:=λg G H σ Q k c=>
 h g G H σ _ k λv d G1 H1 Δ1 k1 s1 r1 hq_=>by
  obtain⟨b,e,p1⟩:=hq_;subst e;cases r1.inv;exact⟨b,rfl,c _ _ G1 H1 Δ1 k1 s1 (.bl !b) p1⟩
theorem Zjw {to te:TE}(h:JE K to Δ λd Δ1=>∃ns:List Int,d=.tup (ns.map D.int)/\JE K te Δ1 λe Δ2=>∃i j,e=.int i/\ns[j]?=some i/\(∀m,m<j->ns[m]?≠some i)/\P (.int (j:Nat)) Δ2) :
  JE K (tBM K "tuple" (rIndexT K) to (tCons te tNil)) Δ P:=λg G H σ Q k c=>
 h g G H σ _ k λv d G1 H1 Δ1 k1 s1 r1 hq_=>by
  obtain⟨ns,e,p1⟩:=hq_;subst e;obtain⟨a,vs,rfl,ha,rs⟩:=r1.inv
  next=>
   refine⟨.inr (.inl ⟨rfl,.inr ⟨_,k1.live _ _ ha⟩⟩),p1 g G1 H1 σ _ k1 λu e G2 H2 Δ2 k2 s2 r2 ⟨i,j,q1,q2,q3,p⟩=>?_⟩;subst q1;cases r2.inv;have ev:vs=ns.map V.int:=rs.ints;subst ev;have hj:j<ns.length:=(Waf.mp q2).1;refine⟨a,_,.int i,j,rfl,rfl,SqT.of (k2.live _ _ (s2 _ _ ha)),rfl,?_,by simpa using hj,⟨.int i,by rw[Wad,q2];rfl,by simp[eqV]⟩,λm z hm hz=>?_,c _ _ G2 H2 Δ2 k2 (s1.trans s2) (.int _) p⟩
   ·rw[Wdx];exact Wb4.mpr λ_ _=>rfl
   ·rw[Wad]at hz
    cases e:ns[m]? with
    |none=>rw[e]at hz;cases hz
    |some w=>
     rw[e]at hz;have hz:V.int w=z:=by simpa using hz
     subst hz;have hne:w≠i:=λq=>q3 m hm (by rw[e,q]);show (w == i)=false;exact beq_eq_false_iff_ne.mpr hne
end
section
variable {K:W.Frag}{g:Gm}{G H:Hp}{σ:St}{Δ:Evt}
theorem Ok.setVal' (k:Ok K g G H σ Δ) {v:V}{d:D}(i:Nat) (r:Rep K G v d):Ok K g G H (σ.set i (some v)) (Δ.set i (.val d)):=by
 by_cases hi:i < Δ.length
 ·exact k.setVal hi r
 ·have hl:=k.len
  rw[Wcr (l:=σ) (by omega),Wcr (l:=Δ) (by omega)];exact k
theorem Ok.setOwn' (k:Ok K g G H σ Δ) {a:Addr}{od:OD}(i:Nat) (p:Pend K g G H σ Δ a od):Ok K g G H (σ.set i (some (.ref a))) (Δ.set i (.own od)):=by
 by_cases hi:i < Δ.length
 ·exact k.setOwn hi p
 ·have hl:=k.len
  rw[Wcr (l:=σ) (by omega),Wcr (l:=Δ) (by omega)];exact k
theorem Zs4 {te:TE}{i:Nat}{P:Pst}(h:JE K te Δ λd Δ1=>P.nx (Δ1.set i (.val d))):JS K (tAsg te (gName i)) Δ P:=λg G H σ E k c=>
 h g G H σ _ k λv d G1 H1 Δ1 k1 s1 r1 p1=>c.nx _ G1 H1 _ (k1.setVal' i r1) p1
theorem Zpz {te:TE}{i:Nat}{P:Pst}(h:JO K te Δ λod Δ1=>P.nx (Δ1.set i (.own od))):JS K (tAsg te (gName i)) Δ P:=λg G H σ E k c=>
 h g G H σ _ k λa od G1 H1 Δ1 k1 s1 pd p1=>c.nx _ G1 H1 _ (k1.setOwn' i pd) p1
theorem Zp2 {i j:Nat}{ta:TA}{P:Pst}(h:JA K ta Δ λds Δ1=>∃d e,ds=[d,e]/\P.nx ((Δ1.set i (.val d)).set j (.val e))):JS K (tPar i j ta) Δ P:=λg G H σ E k c=>
 h g G H σ _ k λvs ds G1 H1 Δ1 k1 s1 r1 hq_=>by
  obtain⟨d,e,hd,p1⟩:=hq_;subst hd;obtain⟨_,_,rfl,ra,rr⟩:=r1.inv
  next=>
   obtain⟨_,_,rfl,rb,rr⟩:=rr.inv
   next=>
    cases rr.inv;exact⟨_,_,rfl,c.nx _ G1 H1 _ ((k1.setVal' i ra).setVal' j rb) p1⟩
theorem Zb0 {i:Nat}{d:D}{P:Evt->Prop}(p:P (Δ.set i (.val d))):JG K (gName i) d Δ P:=λg G H σ v R k r c=>c _ G H _ (k.setVal' i r) (Same.refl _) p
theorem Zd5 {n i:Nat}{d:D}{P:Evt->Prop}(hn:i<n) (p:P (Δ.set i (.val d))):JGn K n (gName i) d Δ P:=λg G H σ v R k r c=>
 c _ G H _ (k.setVal' i r) (Same.refl _) (λj hj=>Wap (by omega)) p
theorem Zs9 {n:Nat}{te:TE}{Pp:Pst}{x:Slot}{ds0:List D}(hx:Δ[n]?=some x) (ho:x.od=some (.lst ds0))
  (h:JE K te Δ λd Δ1=>∃y ds,Δ1[n]?=some y/\y.od=some (.lst ds)/\ds.length<sizeLine/\Pp.nx (Δ1.set n (y.put (.lst (ds++[d]))))) :
  JS K (tDrop (tBM K "list" rAppend (tVar n) (tCons te tNil))) Δ Pp:=Zk9 hx ho ⟨_,rfl⟩ h
end
section
variable {K:W.Frag}{Δ:Evt}{nx bk ct:Evt->Prop}{rt:D->Evt->Prop}{ro:OD->Evt->Prop}
theorem Zbc (p:nx Δ):JS K tNext Δ ⟨nx,rt,bk,ct,ro⟩:=Zqq p
theorem Zam {t u:TS}(h:JS K t Δ ⟨λΔ1=>JS K u Δ1 ⟨nx,rt,bk,ct,ro⟩,rt,bk,ct,ro⟩):JS K (tSeq t u) Δ ⟨nx,rt,bk,ct,ro⟩:=Zo6 h
theorem Zbb {t u:TS}(I:Evt->Prop) (h1:JS K t Δ ⟨I,rt,bk,ct,ro⟩) (h2:∀Δ1,I Δ1->JS K u Δ1 ⟨nx,rt,bk,ct,ro⟩):JS K (tSeq t u) Δ ⟨nx,rt,bk,ct,ro⟩:=
 Zo6 (h1.mono h2 (λ_ _ z=>z) (λ_ z=>z) (λ_ z=>z) λ_ _ z=>z)
theorem Zbo {te:TE}(h:JE K te Δ rt):JS K (tRet te) Δ ⟨nx,rt,bk,ct,ro⟩:=Zr0 h
theorem Zez {te:TE}(h:JO K te Δ ro):JS K (tRet te) Δ ⟨nx,rt,bk,ct,ro⟩:=Zqr h
theorem Zgq {te:TE}(h:JE K te Δ λ_ Δ1=>nx Δ1):JS K (tDrop te) Δ ⟨nx,rt,bk,ct,ro⟩:=Zpv h
theorem Zcv {c:TT}{t u:TS}(h:JT K c Δ λb Δ1=>if b=true then JS K t Δ1 ⟨nx,rt,bk,ct,ro⟩ else JS K u Δ1 ⟨nx,rt,bk,ct,ro⟩):JS K (tIfS c t u) Δ ⟨nx,rt,bk,ct,ro⟩:=Ztp h
theorem Zav {te:TE}{i:Nat}(h:JE K te Δ λd Δ1=>nx (Δ1.set i (.val d))):JS K (tAsg te (gName i)) Δ ⟨nx,rt,bk,ct,ro⟩:=Zs4 h
theorem Zdu {te:TE}{i:Nat}(h:JO K te Δ λod Δ1=>nx (Δ1.set i (.own od))):JS K (tAsg te (gName i)) Δ ⟨nx,rt,bk,ct,ro⟩:=Zpz h
theorem Zfh {i j:Nat}{ta:TA}(h:JA K ta Δ λds Δ1=>∃d e,ds=[d,e]/\nx ((Δ1.set i (.val d)).set j (.val e))):JS K (tPar i j ta) Δ ⟨nx,rt,bk,ct,ro⟩:=Zp2 h
theorem Ztk {te:TE}{t:TG}(h:JE K te Δ λd Δ1=>JG K t d Δ1 nx):JS K (tAsg te t) Δ ⟨nx,rt,bk,ct,ro⟩:=Zsz h
theorem Zlg {n:Nat}{te:TE}{x:Slot}{ds0:List D}(hx:Δ[n]?=some x) (ho:x.od=some (.lst ds0))
  (h:JE K te Δ λd Δ1=>∃y ds,Δ1[n]?=some y/\y.od=some (.lst ds)/\ds.length<sizeLine/\nx (Δ1.set n (y.put (.lst (ds++[d]))))) :
  JS K (tDrop (tBM K "list" rAppend (tVar n) (tCons te tNil))) Δ ⟨nx,rt,bk,ct,ro⟩:=Zs9 hx ho h
theorem Zjs {n:Nat}{ti te:TE}(h:JE K te Δ λd Δ1=>(∃x ds,Δ1[n]?=some x/\x.od=some (.lst ds))/\JE K ti Δ1 λe Δ2=>∃x ds i j,Δ2[n]?=some x/\x.od=some (.lst ds)/\e=.int i/\ixN ds.length i=some j/\nx (Δ2.set n (x.put (.lst (ds.set j d))))) :
  JS K (tAsg te (gSub (tVar n) ti rSetU)) Δ ⟨nx,rt,bk,ct,ro⟩:=Zmo (h.mono λd Δ1 ⟨⟨x,ds,h1,h2⟩,h3⟩=>⟨⟨x,_,h1,h2⟩,h3⟩)
theorem Zc0 {wi:TI}{t:TG}{tb:TS}(h:JI K wi Δ λds Δ1=>∃I:Nat->Evt->Prop,I 0 Δ1/\(∀i d Δ2,ds[i]?=some d->I i Δ2->JG K t d Δ2 λΔ3=>JS K tb Δ3 ⟨I (i+1),rt,nx,I (i+1),ro⟩)/\∀Δ2,I ds.length Δ2->nx Δ2) :
  JS K (tFor wi t tb) Δ ⟨nx,rt,bk,ct,ro⟩:=Zr1 h
theorem Znd {c:TT}{tb:TS}(I:Nat->Evt->Prop) (h0:∃m,I m Δ) (ht:∀m Δ1,I m Δ1->JT K c Δ1 λb Δ2=>if b=true then JS K tb Δ2 ⟨λΔ3=>∃m',m'<m/\I m' Δ3,rt,nx,λΔ3=>∃m',m'<m/\I m' Δ3,ro⟩ else nx Δ2) :
  JS K (tWhile c tb) Δ ⟨nx,rt,bk,ct,ro⟩:=Znn I h0 ht
end
theorem Zi4 {α β:Type}{f:α -> β}{xs:List α}{i:Int}(h0:0<=i) (h1:i<(xs.length:Int)):∃c,xs[i.toNat]?=some c/\atI (xs.map f) i=some (f c):=by
 have hk:i.toNat<xs.length:=by omega
 have e:i=((i.toNat:Nat):Int):=by omega
 have q:xs[i.toNat]?=some xs[i.toNat]:=Waa hk;generalize xs[i.toNat]=c at q;refine⟨c,q,?_⟩;have z:atI (xs.map f) ((i.toNat:Nat):Int)=some (f c):=Zbi (by rw[Wad,q];rfl);rw[<- e]at z;exact z
theorem Zmn:bootBuiltins "abs" = some (.builtin "abs"):=by decide +kernel
theorem Zbm:bootBuiltins "len" = some (.builtin "len"):=by decide +kernel
theorem Zhp:bootBuiltins "min" = some (.builtin "min"):=by decide +kernel
theorem Zm2:bootBuiltins "max" = some (.builtin "max"):=by decide +kernel
theorem Ze9:bootBuiltins "sorted" = some (.builtin "sorted"):=by decide +kernel
theorem Zbk:bootBuiltins "tuple" = some (.type "tuple"):=by decide +kernel
theorem Zmr:bootBuiltins "list" = some (.type "list"):=by decide +kernel
theorem Zru:bootBuiltins "set" = some (.type "set"):=by decide +kernel
theorem Zrr:bootBuiltins "int" = some (.type "int"):=by decide +kernel
structure Callee (P:Program) (w:World) (K:W.Frag) (mg:Str->Option Value) (base:Heap) (k:Nat) (x:Str) (ps:List Str) (sp:Sp):Prop where
 ex:∃(f:Addr) (fd:FuncData),FnOk P w K mg base CX0 k f fd ps sp/\Binds K fd ps []/\W.keepIn K (.ref f)=true/\mg x=some (.ref f)
section
variable {X:Cx}{k:Nat}{x:Str}{ps:List Str}{sp:Sp}{e:Expr}{es:List Expr}{t:TA}{p pos:Pos}
theorem Za3 (C:Callee X.prog X.w X.K X.mg X.base k x ps sp) (hr:Room k X.A) (ha:PA X (e::es) t) (hg:Gl X x:=by rfl) (hdb:(x == ("__debug__":Str))=false:=by decide)
  (he:starEach (e::es) X.env=(false,eval e X.env)::starEach es X.env:=by rfl) (hpl:(backTo pos (starEach es X.env)).any (·.1)=false:=by rfl):PE X (.Call (.Name x p) (e::es) [] pos) (tCall sp [] E0 t):=by
 obtain⟨f,fd,F,b,kp,m⟩:=C.ex;exact Zra F hr hg m kp b .nil pass0 ha hdb he hpl
end
def fixD (sel:List Nat) (Δ:Evt):Evt:=sel.map λi=>(Δ[i]?).getD .any
theorem Zdh {n:Nat}{sel:List Nat}{ts Δ:Evt}(ht:ts.length=n):backD n sel (ts++fixD sel Δ) 0 Δ = Δ:=by
 apply Wb6;intro i;rw[Zco];cases q:Δ[i]? with
 |none=>rfl
 |some x=>
  show some (backAt n sel (ts++fixD sel Δ) (0+i) x)=some x;congr 1;rw[Nat.zero_add];have key:∀j,sel.idxOf? i=some j->(ts++fixD sel Δ)[n+j]?=some x:=λj hj=>by
   rw[Wax (by omega),ht,Wct];unfold fixD;rw[Wad,Zdv hj];show some ((Δ[i]?).getD .any)=_;rw[q];rfl
  unfold backAt;cases x with
  |any=>rfl
  |val d=>rfl
  |own o=>
   dsimp only;cases e:sel.idxOf? i with
   |none=>rfl
   |some j=>dsimp only;rw[key j e]
  |bor o=>
   dsimp only;cases e:sel.idxOf? i with
   |none=>rfl
   |some j=>dsimp only;rw[key j e]
  |ownA a o=>
   dsimp only;cases e:sel.idxOf? i with
   |none=>rfl
   |some j=>dsimp only;rw[key j e]
section
variable {K:W.Frag}{Δ:Evt}{P:D->Evt->Prop}
theorem Za7 {sel:List Nat}{wi:TI}{tc:TT}{te:TE}(hsel:sel.Nodup)
  (h:JI K wi Δ λds Δ1=>ds.length<sizeLine/\∃(p:D->Bool) (f:D->D),
   (∀(i:Nat) d,ds[i]?=some d->JT K tc (.val d::fixD sel Δ1) λb Δ4=>b=p d/\if b=true then JE K te Δ4 λe Δ5=>e=f d/\∃x,Δ5=x::fixD sel Δ1 else ∃x,Δ4=x::fixD sel Δ1) ∧
   P (.lst ((ds.filter p).map f)) Δ1):JE K (tComp 1 sel wi (gName 0) tc te) Δ P:=by
 refine Zjg hsel λg G H σ R k c=>h g G H σ R k λJ ds G' H' Δ' k' s' it ⟨z,p,f,ht,he⟩=>c J ds G' H' Δ' k' s' it ⟨z,fixD sel Δ',p,f,rfl,λi d ts hd hts=>?_,?_⟩
 ·refine Zd5 (by decide) ?_
  obtain⟨x,rfl⟩:∃x,ts=[x]:=by
   match ts,hts with
   |[x],_=>exact⟨x,rfl⟩
  intro g G H σ Q k c;refine ht i d hd g G H σ Q k λb G1 H1 Δ1 k1 s1 ⟨e1,q⟩=>c b G1 H1 Δ1 k1 s1 ⟨e1,?_⟩;cases b with
  |true=>
   rw[if_pos rfl]at q ⊢;exact q.mono λe Δ5 ⟨e2,x,e3⟩=>⟨e2,[x],rfl,e3⟩
  |false=>
   rw[if_neg War]at q ⊢;obtain⟨x,e3⟩:=q;exact⟨[x],rfl,e3⟩
 ·rw[Zdh (by simp)];exact he
theorem Zjn {sel:List Nat}{wi:TI}{tc:TT}{te:TE}{Po:OD->Evt->Prop}(hsel:sel.Nodup)
  (h:JI K wi Δ λds Δ1=>ds.length<sizeLine/\∃(p:D->Bool) (f:D->D),
   (∀(i:Nat) d,ds[i]?=some d->JT K tc (.val d::fixD sel Δ1) λb Δ4=>b=p d/\if b=true then JE K te Δ4 λe Δ5=>e=f d/\∃x,Δ5=x::fixD sel Δ1 else ∃x,Δ4=x::fixD sel Δ1) ∧
   Po (.lst ((ds.filter p).map f)) Δ1):JO K (tComp 1 sel wi (gName 0) tc te) Δ Po:=by
 refine Zk2 hsel λg G H σ R k c=>h g G H σ R k λJ ds G' H' Δ' k' s' it ⟨z,p,f,ht,he⟩=>c J ds G' H' Δ' k' s' it ⟨z,λi ys Δ=>ys=((ds.take i).filter p).map f/\∃x,Δ = x::fixD sel Δ',⟨by simp,.any,rfl⟩,?_,?_⟩
 ·rintro i d ys Δ2 hd ⟨rfl,x,rfl⟩
  have tk:ds.take (i+1)=ds.take i++[d]:=by
   rw[Wcw,hd];rfl
  refine Zd5 (by decide) ?_;intro g G H σ Q k c;refine ht i d hd g G H σ Q k λb G1 H1 Δ1 k1 s1 ⟨e1,q⟩=>c b G1 H1 Δ1 k1 s1 ?_;cases b with
  |true=>
   rw[if_pos rfl]at q ⊢;refine q.mono λe Δ5 ⟨e2,x,e3⟩=>⟨?_,x,e3⟩;rw[tk,Wb2,Wa4,Wbv,<- e1,e2];rfl
  |false=>
   rw[if_neg War]at q ⊢;obtain⟨x,e3⟩:=q;refine⟨?_,x,e3⟩;rw[tk,Wb2,Wa4,Wbv,<- e1];simp
 ·rintro ys Δ2 ⟨rfl,x,rfl⟩
  rw[Wb3,show (x::fixD sel Δ')=[x]++fixD sel Δ' from rfl,Zdh (by simp)];exact he
theorem Zok {sel:List Nat}{wi:TI}{tc:TT}{te:TE}(hsel:sel.Nodup)
  (h:JI K wi Δ λds Δ1=>ds.length<sizeLine/\∃(p:D->Bool) (f:D->D),
   (∀(i:Nat) d,ds[i]?=some d->∃a b,d=.tup [a,b]/\JT K tc (.val a::.val b::fixD sel Δ1) λt Δ4=>t=p d/\if t=true then JE K te Δ4 λe Δ5=>e=f d/\∃x y,Δ5=x::y::fixD sel Δ1 else ∃x y,Δ4=x::y::fixD sel Δ1) ∧
   P (.lst ((ds.filter p).map f)) Δ1):JE K (tComp 2 sel wi (gTup K 2 (gCons (gName 0) (gCons (gName 1) gNil))) tc te) Δ P:=by
 refine Zjg hsel λg G H σ R k c=>h g G H σ R k λJ ds G' H' Δ' k' s' it ⟨z,p,f,ht,he⟩=>c J ds G' H' Δ' k' s' it ⟨z,fixD sel Δ',p,f,rfl,λi d ts hd hts=>?_,?_⟩
 ·obtain⟨a,b,rfl,hj⟩:=ht i d hd
  refine Zqg rfl (Zh3 (Zd5 (by decide) (Zh3 (Zd5 (by decide) (Zol ?_)))));obtain⟨x,y,rfl⟩:∃x y,ts=[x,y]:=by
   match ts,hts with
   |[x,y],_=>exact⟨x,y,rfl⟩
  intro g G H σ Q k c;refine hj g G H σ Q k λb G1 H1 Δ1 k1 s1 ⟨e1,q⟩=>c b G1 H1 Δ1 k1 s1 ⟨e1,?_⟩;cases b with
  |true=>
   rw[if_pos rfl]at q ⊢;exact q.mono λe Δ5 ⟨e2,x,y,e3⟩=>⟨e2,[x,y],rfl,e3⟩
  |false=>
   rw[if_neg War]at q ⊢;obtain⟨x,y,e3⟩:=q;exact⟨[x,y],rfl,e3⟩
 ·rw[Zdh (by simp)];exact he
end
def tGhost (base:Nat) (t:TS):TS:=λE σ H=>t { E with nx:=λσ' H'=>∃σ2:St,σ2.length = σ'.length/\(∀i,i<base -> σ2[i]? = σ'[i]?)/\E.nx σ2 H' } σ H
theorem Zgr {X:Cx}{st:Stmt}{t:TS}(base:Nat) (hv:∀x∈X.N.drop base,X.env.scope.names.lookup x=none) (h:PS X st t):PS X st (tGhost base t):=by
 intro pins s σ H E I hw;refine thn (h pins s σ H _ I hw) λf s1 q=>?_;cases f with
 |next=>
  obtain⟨σ',H',I',σ2,hl,hs,q⟩:=q;refine⟨σ2,H',⟨I'.ok,I'.os,I'.bare,I'.base,?_,I'.cell,I'.free,I'.freeC,I'.pin,I'.hok,hl.trans I'.len⟩,q⟩;obtain⟨m,hn,hl'⟩:=I'.loc;refine⟨m,hn,λi x v e1 e2 e3=>?_⟩;by_cases hi:i<base
  ·rw[hs i hi]at e2;exact hl' i x v e1 e2 e3
  ·have hm:x∈X.N.drop base:=by
    refine Wan (i:=i-base) ?_;rw[List.getElem?_drop,show base+(i-base)=i by omega];exact e1
   have z:=hv x hm;rcases e3 with w|w|w <;> (rw[z]at w;cases w)
 |ret v=>exact q
 |brk=>exact q
 |cont=>exact q
def Nest (K:W.Frag) (g:Gm) (G H:Hp) (σ:St) (Δ:Evt) (cs:List (Addr × HO)) (ods:List OD):Prop:=
 (cs.map (·.1)).Nodup/\Paired (λ(c:Addr × HO) (od:OD)=>OwnRep K G c.2 od) cs ods/\∀c∈cs,H c.1=some c.2/\G c.1=none/\g.Hz c.1=none/\g.Xo c.1=none/\∀(i:Nat) x od',Δ[i]?=some x->x.od=some od' -> σ[i]?≠some (some (.ref c.1))
def JN (K:W.Frag) (t:TE) (Δ:Evt) (P:List OD->Evt->Prop):Prop:=
 ∀g G H σ Q,Ok K g G H σ Δ -> (∀acc cs ods G' H' Δ',Ok K g G' H' σ Δ' -> Same G G' -> Rep K G' (.ref acc) (.lst (cs.map λ(c:Addr × HO)=>D.adr c.1))->g.Hz acc=none->Nest K g G' H' σ Δ' cs ods->P ods Δ' -> Q (.ref acc) H')->t σ H Q
section
variable {K:W.Frag}{Δ:Evt}
def cellAt (cs:List (Addr × HO)) (b:Addr):Option HO:=(cs.find? λc=>decide (c.1=b)).map (·.2)
theorem Zdq {cs:List (Addr × HO)}{b:Addr}:cellAt cs b=none ↔ ∀c∈cs,c.1≠b:=by
 unfold cellAt;rw[Option.map_eq_none_iff,List.find?_eq_none];constructor
 ·intro h c hc e;exact h c hc (decide_eq_true e)
 ·intro h c hc e;exact h c hc (of_decide_eq_true e)
theorem Zfu {cs:List (Addr × HO)}(nd:(cs.map (·.1)).Nodup) {c:Addr × HO}(hc:c∈cs):cellAt cs c.1=some c.2:=by
 induction cs with
 |nil=>cases hc
 |cons d r ih=>
  rw[Wbe,Wb8]at nd;unfold cellAt;rcases Wat.mp hc with e|hc
  ·subst e;simp
  ·have hne:d.1≠c.1:=λe=>nd.1 (by rw[e];exact Wa9.mpr ⟨c,hc,rfl⟩)
   rw[List.find?_cons_of_neg (by simpa using hne)];exact ih nd.2 hc
open Classical in
noncomputable def asideN (g:Gm) (sel:List Nat) (σ:St) (Δ:Evt) (H:Hp) (acc:Addr) (cs:List (Addr × HO)):Hp:=λb=>
 if b=acc then some (.lst (cs.map λc=>V.ref c.1)) else match cellAt cs b with
  |some o=>some o
  |none=>if ∃(i:Nat) (x:Slot) (od:OD),Δ[i]?=some x/\x.od=some od/\i ∉ sel /\ σ[i]?=some (some (.ref b)) then H b else g.Xo b
theorem Zci {g:Gm}{sel:List Nat}{σ:St}{Δ:Evt}{H:Hp}{acc:Addr}{cs:List (Addr × HO)}:asideN g sel σ Δ H acc cs acc=some (.lst (cs.map λc=>V.ref c.1)):=by unfold asideN;rw[if_pos rfl]
theorem Zb8 {g:Gm}{sel:List Nat}{σ:St}{Δ:Evt}{H:Hp}{acc b:Addr}{o:HO}{cs:List (Addr × HO)}(hb:b≠acc) (e:cellAt cs b=some o):asideN g sel σ Δ H acc cs b=some o:=by unfold asideN;rw[if_neg hb,e]
theorem Zcl {g:Gm}{sel:List Nat}{σ:St}{Δ:Evt}{H:Hp}{acc b:Addr}{cs:List (Addr × HO)}(hb:b≠acc) (e:cellAt cs b=none) (hx:∃(i:Nat) (x:Slot) (od:OD),Δ[i]?=some x/\x.od=some od/\i ∉ sel /\ σ[i]?=some (some (.ref b))):asideN g sel σ Δ H acc cs b=H b:=by
 unfold asideN;rw[if_neg hb,e];exact if_pos hx
theorem Zb9 {g:Gm}{sel:List Nat}{σ:St}{Δ:Evt}{H:Hp}{acc b:Addr}{cs:List (Addr × HO)}(hb:b≠acc) (e:cellAt cs b=none) (hx:¬ ∃(i:Nat) (x:Slot) (od:OD),Δ[i]?=some x/\x.od=some od/\i ∉ sel /\ σ[i]?=some (some (.ref b))):asideN g sel σ Δ H acc cs b=g.Xo b:=by
 unfold asideN;rw[if_neg hb,e];exact if_neg hx
theorem Zqm {n:Nat}{sel:List Nat}{wi:TI}{t:TG}{tc:TT}{te:TE}{P:List OD->Evt->Prop}(hsel:sel.Nodup)
  (h:JI K wi Δ λds Δ1=>ds.length<sizeLine/\∃I:Nat->List OD->Evt->Prop,I 0 [] (compD n sel Δ1) ∧
   (∀i d ys Δ2,ds[i]?=some d->I i ys Δ2->JGn K n t d Δ2 λΔ3=>JT K tc Δ3 λb Δ4=>if b=true then JO K te Δ4 λe Δ5=>I (i+1) (ys++[e]) Δ5 else I (i+1) ys Δ4) ∧
   ∀ys Δ2,I ds.length ys Δ2->P ys (backD n sel Δ2 0 Δ1)):JN K (tComp n sel wi t tc te) Δ P:=λg G H σ Q k c=>
 h g G H σ _ k λJ ds G1 H1 Δ1 k1 s1 it ⟨hz,I,h0,ht,he⟩ acc hacc=>by
  have nacc:∀(i:Nat) x od,Δ1[i]?=some x->x.od=some od -> σ[i]?≠some (some (.ref acc)):=λi x od e1 e2 e3=>by
   obtain⟨a,o,w1,w2,_⟩:=k1.own i x od e1 e2;rw[e3]at w1;cases w1;rw[hacc]at w2;cases w2
  let Wd:Nat->St->Hp->Prop:=λi σ' H'=>i<=ds.length/\(∀j,n<=j -> σ'[j]?=(compSt n sel σ)[j]?)/\∃G ys cs Δi,cs.length<=i/\(cs.map (·.1)).Nodup/\(∀c∈cs,c.1≠acc/\g.Hz c.1=none/\g.Xo c.1=none/\∀(i:Nat) x od,Δ1[i]?=some x->x.od=some od->i ∉ sel -> σ[i]?≠some (some (.ref c.1)))/\Paired (λ(c:Addr × HO) (od:OD)=>OwnRep K G c.2 od) cs ys ∧
   Ok K ⟨g.B,G1,g.Hz,asideN g sel σ Δ1 H1 acc cs⟩ G H' σ' Δi/\I i ys Δi
  refine⟨λi m σ' H'=>m=ds.length-i/\Wd i σ' H',⟨ds.length,by simp,Wbx _,λ_ _=>rfl,G1,[],[],compD n sel Δ1,Wak _,List.nodup_nil,λc hc=>(nomatch hc),.nil,?_,h0⟩,?_⟩
  ·refine Zfq hsel k1 hacc λb o e=>?_
   have e:asideN g sel σ Δ1 H1 acc [] b=some o:=e;by_cases hb:b=acc
   ·subst hb;rw[Zci]at e;cases e;exact .inl ⟨rfl,rfl⟩
   ·by_cases hx:∃(i:Nat) (x:Slot) (od:OD),Δ1[i]?=some x/\x.od=some od/\i ∉ sel /\ σ[i]?=some (some (.ref b))
    ·rw[Zcl hb rfl hx]at e;exact .inr ⟨hb,.inl ⟨hx,e⟩⟩
    ·rw[Zb9 hb rfl hx]at e;exact .inr ⟨hb,.inr e⟩
  ·rintro i m σ2 H2 ⟨rfl,hi,hσ,G2,ys,cs,Δ2,hy,nd,hcs,ry,k2,h2⟩
   have s2:Same G1 G2:=k2.sub;obtain⟨stop,go⟩:=it G2 H2 s2 k2.live;by_cases hlt:i<ds.length
   ·obtain⟨g1,g2⟩:=go i _ (Waa hlt)
    refine .inr ⟨g1,λσ' H'=>Wd (i+1) σ' H',λσ' H' p'=>⟨ds.length-(i+1),by omega,rfl,p'⟩,λx H3 y=>?_⟩;obtain⟨G3,a1,a2,a3,a4⟩:=g2 x H3 y;have k3:=k2.grow a1 a2 a3;have hG3:∀b o,G3 b=some o->(g.Hz b=none\/G1 b=some o):=λb o q=>(k3.frz b o q).2;have k3':Ok K ⟨g.B,G3,g.Hz,asideN g sel σ Δ1 H1 acc cs⟩ G3 H3 σ2 Δ2:=⟨k3.same,k3.lent,Same.refl _,λb o q=>⟨(k3.frz b o q).1,.inr q⟩,k3.ext,k3.len,k3.val,k3.own,k3.dis⟩;have ry3:Paired (λ(c:Addr × HO) (od:OD)=>OwnRep K G3 c.2 od) cs ys:=Paired.mapP ry λ_ _ z=>z.mono a1;have s13:Same G1 G3:=s2.trans a1;refine ht i _ ys Δ2 (Waa hlt) h2 ⟨g.B,G3,g.Hz,asideN g sel σ Δ1 H1 acc cs⟩ G3 H3 σ2 x _ k3' a4 λσ4 G4 H4 Δ4 k4 s4 e4 p4=>?_;have hσ4:∀j,n<=j -> σ4[j]?=(compSt n sel σ)[j]?:=λj hj=>(e4 j hj).trans (hσ j hj);refine p4 _ G4 H4 σ4 _ k4 λb G5 H5 Δ5 k5 s5 p5=>?_;cases b with
    |false=>exact⟨hlt,hσ4,G5,ys,cs,Δ5,by omega,nd,hcs,Paired.mapP ry3 λ_ _ z=>z.mono (s4.trans s5),k5.base s13 hG3,p5⟩
    |true=>
     refine(show JO K te Δ5 _ from p5) _ G5 H5 σ4 _ k5 λa od G6 H6 Δ6 k6 s6 pd p6=>?_;have ry6:Paired (λ(c:Addr × HO) (od:OD)=>OwnRep K G6 c.2 od) cs ys:=Paired.mapP ry3 λ_ _ z=>z.mono (s4.trans (s5.trans s6));obtain⟨b1,b2,b3⟩:=k6.ext acc _ Zci;obtain⟨oa,d1,d2,d3,d4,d5,d6⟩:=pd;have d5:asideN g sel σ Δ1 H1 acc cs a=none:=d5;have hane:a≠acc:=by intro z;subst z;rw[Zci]at d5;cases d5
     have hac:cellAt cs a=none:=by
      cases q:cellAt cs a with
      |none=>rfl
      |some o=>rw[Zb8 hane q]at d5;cases d5
     have hax:∀(i:Nat) x od,Δ1[i]?=some x->x.od=some od->i ∉ sel -> σ[i]?≠some (some (.ref a)):=λi x od e1 e2 e3 e4=>by
      rw[Zcl hane hac ⟨i,x,od,e1,e2,e3,e4⟩]at d5;obtain⟨a',o',w1,w2,_⟩:=k1.own i x od e1 e2;rw[e4]at w1;cases w1;rw[d5]at w2;cases w2
     have hagx:g.Xo a=none:=by
      rw[Zb9 hane hac (λ⟨i,x,od,e1,e2,e3,e4⟩=>hax i x od e1 e2 e3 e4)]at d5;exact d5
     have hnm:=Zdq.mp hac;refine⟨cs.map λc=>V.ref c.1,b1,by rw[Wab];omega,hlt,hσ4,G6,ys++[od],cs++[(a,oa)],Δ6,by rw[Waw,Wby];omega,?_,λc hc=>?_,Paired.snoc ry6 d2,?_,p6⟩
     ·rw[Wa4]
      refine Wda.mpr ⟨nd,by simp,λx hx y hy=>?_⟩;rw[List.map_singleton,Wa3]at hy;subst hy;obtain⟨c,hc,rfl⟩:=Wa9.mp hx;exact hnm c hc
     ·rcases Wbr.mp hc with hc|hc
      ·exact hcs c hc
      ·rw[Wa3.mp hc];exact⟨hane,d4,hagx,hax⟩
     ·have k7:=k6.base s13 hG3
      have nd':((cs++[(a,oa)]).map (·.1)).Nodup:=by
       rw[Wa4];refine Wda.mpr ⟨nd,by simp,λx hx y hy=>?_⟩;rw[List.map_singleton,Wa3]at hy;subst hy;obtain⟨c,hc,rfl⟩:=Wa9.mp hx;exact hnm c hc
      have er:(cs++[(a,oa)]).map (λc=>V.ref c.1)=(cs.map λc=>V.ref c.1)++[V.ref a]:=by simp
      have oldH:∀b o,b≠acc->H6 b=some o->(upd H6 acc (.lst ((cs.map λc=>V.ref c.1)++[V.ref a]))) b=some o:=λb o hb e=>by rw[Zas hb];exact e
      refine⟨λb o hb e=>?_,λb hb=>?_,k7.sub,λb o e=>?_,λb o e=>?_,k7.len,k7.val,λi x od e1 e2=>?_,k7.dis⟩
      ·have hne:b≠acc:=by
        intro z;subst z;have e:g.Hz b=some o:=e;rw[k1.there hacc]at e;cases e
       exact oldH b o hne (k7.same b o hb e)
      ·by_cases hne:b=acc
       ·subst hne;rw[Zaq];intro z;cases z
       ·rw[Zas hne];exact k7.lent b hb
      ·have hne:b≠acc:=by intro z;subst z;rw[b2]at e;cases e
       exact⟨oldH b o hne (k7.frz b o e).1,(k7.frz b o e).2⟩
      ·have e:asideN g sel σ Δ1 H1 acc (cs++[(a,oa)]) b=some o:=e
       by_cases hne:b=acc
       ·subst hne
        rw[Zci,er]at e;cases e;exact⟨Zaq,b2,b3⟩
       ·by_cases hba:b=a
        ·subst hba
         rw[Zb8 hne (Zfu nd' (c:=(b,oa)) (Waz _ (Wa3.mpr rfl)))]at e;cases e;exact⟨oldH b _ hne d1,d3,d6⟩
        ·have ec:cellAt (cs++[(a,oa)]) b=cellAt cs b:=by
          unfold cellAt;rw[List.find?_append];cases (cs.find? λc=>decide (c.1=b)) with
          |some c=>rfl
          |none=>
           rw[List.find?_cons_of_neg (by simpa using Ne.symm hba)];rfl
         have e':asideN g sel σ Δ1 H1 acc cs b=some o:=by
          cases q:cellAt cs b with
          |some o'=>rw[Zb8 hne (ec.trans q)]at e;rw[Zb8 hne q];exact e
          |none=>
           by_cases hx:∃(i:Nat) (x:Slot) (od:OD),Δ1[i]?=some x/\x.od=some od/\i ∉ sel /\ σ[i]?=some (some (.ref b))
           ·rw[Zcl hne (ec.trans q) hx]at e;rw[Zcl hne q hx];exact e
           ·rw[Zb9 hne (ec.trans q) hx]at e;rw[Zb9 hne q hx];exact e
         obtain⟨w1,w2,w3⟩:=k7.ext b o e';exact⟨oldH b o hne w1,w2,w3⟩
      ·obtain⟨a',o,w1,w2,w3,w4,w5⟩:=k7.own i x od e1 e2
       have hne:a'≠acc:=by intro z;subst z;exact b3 i x od e1 e2 w1
       exact⟨a',o,w1,oldH a' o hne w2,w3,w4,w5⟩
   ·have e:i=ds.length:=by omega
    subst e;refine .inl ⟨stop,?_⟩;obtain⟨b1,b2,b3⟩:=k2.ext acc _ Zci;have src:=Zgz (Δ1:=Δ1) (Δ2:=Δ2) hσ;have k9:Ok K g G2 H2 σ (backD n sel Δ2 0 Δ1):=Ze3 k1 hacc k2 hσ (λb o hb hx e=>by
      show asideN g sel σ Δ1 H1 acc cs b=_;rw[Zcl hb (Zdq.mpr λc hc z=>?_) hx]
      ·exact e
      ·obtain⟨i0,x0,od0,f1,f2,f3,f4⟩:=hx
       exact(hcs c hc).2.2.2 i0 x0 od0 f1 f2 f3 (by rw[z];exact f4)) (λb o hb hx e=>by
      show asideN g sel σ Δ1 H1 acc cs b=_;rw[Zb9 hb (Zdq.mpr λc hc z=>?_) hx]
      ·exact e
      ·have:=(hcs c hc).2.2.1;rw[z,e]at this;cases this)
    -- the outer list is frozen
    have nslot:∀(i:Nat) y od,(backD n sel Δ2 0 Δ1)[i]?=some y->y.od=some od -> σ[i]?≠some (some (.ref acc)):=λi y od e1 e2=>by
     obtain⟨x',od1,f1,f2,_⟩:=src i y od e1 e2;exact nacc i x' od1 f1 f2
    have refs:∀{G:Hp}(l:List (Addr × HO)),Reps K G (l.map λc=>V.ref c.1) (l.map λc=>D.adr c.1):=λ{G} l=>by
     induction l with
     |nil=>exact .nil
     |cons c r ih=>exact .cons (.adr _) ih
    have gX:g.Xo acc=none:=by
     cases q:g.Xo acc with
     |none=>rfl
     |some u=>have z:=(k1.ext acc u q).1;rw[hacc]at z;cases z
    obtain⟨kf,sf,rf⟩:=k9.freeze (a:=acc) (ds:=cs.map λ(c:Addr × HO)=>D.adr c.1) (vs:=cs.map λ(c:Addr × HO)=>V.ref c.1) ⟨_,b1,(show Reps K G2 (cs.map λ(c:Addr × HO)=>V.ref c.1) (cs.map λ(c:Addr × HO)=>D.adr c.1) from refs cs),b2,k1.there hacc,gX,nslot⟩ b1;refine c acc cs ys _ H2 _ kf (s1.trans (s2.trans sf)) rf (k1.there hacc) ⟨nd,Paired.mapP ry λ_ _ z=>z.mono sf,λcc hc=>?_⟩ (he ys Δ2 h2);obtain⟨f1,f2,f3,f4⟩:=hcs cc hc;obtain⟨u1,u2,u3⟩:=k2.ext cc.1 cc.2 (Zb8 f1 (Zfu nd hc));refine⟨u1,by rw[Zas f1];exact u2,f2,f3,λi y od e1 e2 e3=>?_⟩;obtain⟨x,od',w1,w2,w3⟩:=src i y od e1 e2;rcases w3 with ⟨w3,w4⟩|⟨j,w3,w4,w5⟩
    ·exact f4 i x od' w1 w2 w4 e3
    ·exact u3 (n+j) y od w4 e2 (by rw[w5,e3];rfl)
def putN:Nat->List (Addr × OD)->Evt->Evt
 |_,[],Δ=>Δ
 |b,c::r,Δ=>putN (b+1) r (Δ.set b (.ownA c.1 c.2))
def putS:Nat->List Addr->St->St
 |_,[],σ=>σ
 |b,a::r,σ=>putS (b+1) r (σ.set b (some (.ref a)))
theorem Zjd:∀(as:List Addr) (b:Nat) (σ:St),(putS b as σ).length = σ.length
 |[],_,_=>rfl
 |a::r,b,σ=>by rw[putS,Zjd r (b+1),Wbs]
theorem Zf3:∀(as:List Addr) (b:Nat) (σ:St) (i:Nat),i<b->(putS b as σ)[i]? = σ[i]?
 |[],_,_,_,_=>rfl
 |a::r,b,σ,i,h=>by rw[putS,Zf3 r (b+1) _ i (by omega),Wap (by omega)]
theorem Ok.setOwnA {g:Gm}{G H:Hp}{σ:St}(k:Ok K g G H σ Δ) {a:Addr}{od:OD}{i:Nat}(hi:i < Δ.length) (p:Pend K g G H σ Δ a od):Ok K g G H (σ.set i (some (.ref a))) (Δ.set i (.ownA a od)):=by
 have k1:=k.setOwn hi p;obtain⟨o,p1,p2,p3,p4,p5,p6⟩:=p;have hs:i < σ.length:=by rw[<- k.len];exact hi
 have old:∀(j:Nat) x,j≠i->(Δ.set i (.ownA a od))[j]?=some x->(Δ.set i (.own od))[j]?=some x:=λj x hj e=>by
  rw[Wap (Ne.symm hj)]at e ⊢;exact e
 have cv:∀(j:Nat) x od',(Δ.set i (.ownA a od))[j]?=some x->x.od=some od' -> ∃y,(Δ.set i (.own od))[j]?=some y/\y.od=some od':=λj x od' e1 e2=>by
  by_cases hj:j=i
  ·subst hj
   rw[Wai hi]at e1;cases e1;cases e2;exact⟨.own od,Wai hi,rfl⟩
  ·exact⟨x,old j x hj e1,e2⟩
 refine⟨k1.same,k1.lent,k1.sub,k1.frz,λb u e=>?_,by simp[k.len],λj d e=>?_,λj x od' e1 e2=>?_,λj l x y od1 od2 c e1 e2 e3 e4 e5 e6=>?_⟩
 ·obtain⟨h1,h2,h3⟩:=k1.ext b u e
  refine⟨h1,h2,λj x od' e1 e2=>?_⟩;obtain⟨y,f1,f2⟩:=cv j x od' e1 e2;exact h3 j y od' f1 f2
 ·by_cases hj:j=i
  ·subst hj
   rw[Wai hi]at e;cases e
  ·exact k1.val j d (old j _ hj e)
 ·by_cases hj:j=i
  ·subst hj
   rw[Wai hi]at e1;cases e1;cases e2;exact⟨a,o,Wai hs,p1,p2,p3,rfl,p4⟩
  ·exact k1.own j x od' (old j x hj e1) e2
 ·obtain⟨x',f1,f2⟩:=cv j x od1 e1 e2
  obtain⟨y',f3,f4⟩:=cv l y od2 e3 e4;exact k1.dis j l x' y' od1 od2 c f1 f2 f3 f4 e5 e6
theorem Ok.putN {g:Gm}{G H:Hp}:∀(cs:List (Addr × HO)) (ods:List OD) (b:Nat) (σ:St) (Δ:Evt),Ok K g G H σ Δ -> b+ods.length <= Δ.length->Nest K g G H σ Δ cs ods →
  Ok K g G H (putS b (cs.map (·.1)) σ) (L2.putN b ((cs.map (·.1)).zip ods) Δ)
 |[],[],_,_,_,k,_,_=>k
 |[],_::_,_,_,_,_,_,n=>by cases n.2.1
 |_::_,[],_,_,_,_,_,n=>by cases n.2.1
 |c::cs,od::ods,b,σ,Δ,k,hl,⟨nd,pr,al⟩=>by
  cases pr with
  |cons r t=>
   obtain⟨h1,h2,h3,h4,h5⟩:=al c Way;rw[Wbe,Wb8]at nd;have hb:b < Δ.length:=by rw[Wao]at hl;omega
   have k1:=k.setOwnA hb ⟨c.2,h1,r,h2,h3,h4,h5⟩;refine Ok.putN cs ods (b+1) _ _ k1 (by rw[Wbs];rw[Wao]at hl;omega) ⟨nd.2,t,λd hd=>?_⟩;obtain⟨f1,f2,f3,f4,f5⟩:=al d (Wav _ hd);have hne:d.1≠c.1:=λe=>nd.1 (by rw[<- e];exact Wa9.mpr ⟨d,hd,rfl⟩);refine⟨f1,f2,f3,f4,λj x od' e1 e2=>?_⟩;by_cases hj:j=b
   ·subst hj
    rw[Wai (by rw[<- k.len];exact hb)];intro z;have:c.1=d.1:=by
     have z1:=Wa7.inj (Wa7.inj z);injection z1
    exact hne this.symm
   ·rw[Wap (Ne.symm hj)]at e1 ⊢
    exact f5 j x od' e1 e2
theorem Zif:∀(l:List (Addr × OD)) (R T:Evt) (m:Nat),l.length<=m->L2.putN R.length l (R++Waj m Slot.any++T)=R++l.map (λc=>Slot.ownA c.1 c.2)++Waj (m-l.length) Slot.any++T
 |[],R,T,m,_=>by simp[L2.putN]
 |c::r,R,T,m,h=>by
  obtain⟨m',rfl⟩:∃m',m=m'+1:=⟨m-1,by rw[Wao]at h;omega⟩;have e:(R++Waj (m'+1) Slot.any++T).set R.length (.ownA c.1 c.2)=(R++[.ownA c.1 c.2])++Waj m' Slot.any++T:=by
   rw[Wdn];simp[Wdg]
  rw[L2.putN,e];have:=Zif r (R++[.ownA c.1 c.2]) T m' (by rw[Wao]at h;omega);rw[Waw,Wby]at this;rw[this];simp
theorem Ziz {te:TE}{i base:Nat}{nx bk ct:Evt->Prop}{rt:D->Evt->Prop}{ro:OD->Evt->Prop}
  (h:JN K te Δ λods Δ1=>i<base/\base+ods.length <= Δ1.length/\∀as:List Addr,as.length=ods.length->as.Nodup->nx (L2.putN base (as.zip ods) (Δ1.set i (.val (.lst (as.map D.adr)))))) :
  JS K (tGhost base (tAsg te (gName i))) Δ ⟨nx,rt,bk,ct,ro⟩:=λg G H σ E k c=>
 h g G H σ _ k λacc cs ods G1 H1 Δ1 k1 s1 rr _ nn hq_=>by
  obtain⟨hi,hb,p⟩:=hq_;have hl:cs.length=ods.length:=Paired.length nn.2.1;have e0:(cs.map λc=>D.adr c.1)=(cs.map (·.1)).map D.adr:=by rw[Wal];rfl
  have k2:=k1.setVal' i rr;have n2:Nest K g G1 H1 (σ.set i (some (.ref acc))) (Δ1.set i (.val (.lst (cs.map λc=>D.adr c.1)))) cs ods:=by
   obtain⟨nd,pr,al⟩:=nn;refine⟨nd,pr,λd hd=>?_⟩;obtain⟨f1,f2,f3,f4,f5⟩:=al d hd;refine⟨f1,f2,f3,f4,λj x od' e1 e2=>?_⟩;by_cases hj:j=i
   ·subst hj
    by_cases hlt:j < Δ1.length
    ·rw[Wai hlt]at e1;cases e1;cases e2
    ·rw[Wcy (by rw[Wbs];omega)]at e1;cases e1
   ·rw[Wap (Ne.symm hj)]at e1 ⊢
    exact f5 j x od' e1 e2
  have k3:=Ok.putN cs ods base _ _ k2 (by rw[Wbs];exact hb) n2;refine⟨putS base (cs.map (·.1)) (σ.set i (some (.ref acc))),Zjd _ _ _,λj hj=>Zf3 _ _ _ j hj,?_⟩;rw[e0]at k3;exact c.nx _ G1 H1 _ k3 (p (cs.map (·.1)) (by rw[Wab,hl]) nn.1)
theorem Zga {n j:Nat}{a:Addr}{ds:List D}{P:D->Evt->Prop}(hx:Δ[n]?=some (.val (.adr a))) (hj:Δ[j]?=some (.ownA a (.lst ds))) (p:P (.int ds.length) Δ):JE K (tCB (rLenU K) (tCons (tVar n) tNil)) Δ P:=λg G H σ Q k c=>by
 obtain⟨v,h1,h2⟩:=k.val n _ hx;cases h2;obtain⟨a',o,w1,w2,w3,w4,w5⟩:=k.own j _ _ hj rfl;obtain⟨rfl,_⟩:=w5;cases o with
 |lst vs=>
  have w3:Reps K G vs ds:=w3;refine⟨_,h1,.inl ⟨_,vs,rfl,.inl (SqL.of w2),?_⟩⟩;rw[w3.length];exact c _ _ G H Δ k (Same.refl _) (.int _) p
 |_=>exact absurd w3 (λz=>z)
theorem Zmb {n:Nat}{t1 t2:TE}{a:Addr}{j0:Nat}{ds0:List D}{nx bk ct:Evt->Prop}{rt:D->Evt->Prop}{ro:OD->Evt->Prop}(hx:Δ[n]?=some (.val (.adr a))) (hj0:Δ[j0]?=some (.ownA a (.lst ds0)))
  (h:JE K t1 Δ λe1 Δ1=>JE K t2 Δ1 λe2 Δ2=>∃j i ds,e1=.int i /\ Δ2[j]?=some (.ownA a (.lst ds))/\ds.length<sizeLine /\ -(2 ^ 62)<=i/\i<2 ^ 62/\nx (Δ2.set j (.ownA a (.lst (ds.take (insI ds.length i)++e2::ds.drop (insI ds.length i)))))) :
  JS K (tDrop (tBM K "list" rInsert (tVar n) (tCons t1 (tCons t2 tNil)))) Δ ⟨nx,rt,bk,ct,ro⟩:=λg G H σ E k c=>by
 obtain⟨v,h1,h2⟩:=k.val n _ hx;cases h2;obtain⟨a',o,w1,w2,w3,w4,w5⟩:=k.own j0 _ _ hj0 rfl;obtain⟨rfl,_⟩:=w5;cases o with
 |lst vs0=>
  refine⟨_,h1,.inl ⟨rfl,_,SqL.of w2⟩,h g G H σ _ k λv1 e1 G1 H1 Δ1 k1 s1 r1 p1=>p1 g G1 H1 σ _ k1 λv2 e2 G2 H2 Δ2 k2 s2 r2 ⟨j,i,ds,q1,q2,q3,q4,q5,p⟩=>?_⟩;subst q1;cases r1.inv;obtain⟨a2,o2,u1,u2,u3,u4,u5⟩:=k2.own j _ _ q2 rfl;obtain⟨rfl,_⟩:=u5;cases o2 with
  |lst vs=>
   have u3:Reps K G2 vs ds:=u3;refine⟨_,vs,i,v2,rfl,rfl,u2,by rw[u3.length];exact q3,q4,q5,?_⟩;have k3:=k2.write q2 rfl u1 (show OwnRep K G2 (.lst (vs.take (insI vs.length i)++v2::vs.drop (insI vs.length i))) (.lst (ds.take (insI ds.length i)++e2::ds.drop (insI ds.length i))) from by
    rw[u3.length];exact(u3.take _).append (.cons r2 (u3.drop _)))
   exact c.nx σ G2 _ _ k3 p
  |_=>exact absurd u3 (λz=>z)
 |_=>exact absurd w3 (λz=>z)
theorem JS.conv {t:TS}{Δ':Evt}{P:Pst}(hc:∀g G H σ,Ok K g G H σ Δ -> ∃G',Same G G' /\ Ok K g G' H σ Δ') (h:JS K t Δ' P):JS K t Δ P:=λg G H σ E k c=>by
 obtain⟨G',s,k'⟩:=hc g G H σ k;exact h g G' H σ E k' c
theorem Ok.freezeA {g:Gm}{G H:Hp}{σ:St}(k:Ok K g G H σ Δ) {i:Nat}{a:Addr}{ds:List D}(h:Δ[i]?=some (.ownA a (.lst ds))):∃G',Same G G' /\ Ok K g G' H σ (Δ.set i .any)/\Rep K G' (.ref a) (.lst ds):=by
 obtain⟨a',o,w1,w2,w3,w4,w5⟩:=k.own i _ _ h rfl;obtain⟨rfl,w6⟩:=w5;cases o with
 |lst vs=>
  have pd:Pend K g G H σ (Δ.set i .any) a (.lst ds):=by
   refine⟨.lst vs,w2,w3,w4,w6,?_,λj x od' e1 e2 e3=>?_⟩
   ·cases q:g.Xo a with
    |none=>rfl
    |some u=>exact absurd w1 ((k.ext a u q).2.2 i _ _ h rfl)
   ·by_cases hj:j=i
    ·subst hj
     rw[Wdv]at e1;simp at e1;obtain⟨_,e1⟩:=e1;subst e1;cases e2
    ·rw[Wap (Ne.symm hj)]at e1
     exact hj (k.dis j i x _ od' _ a e1 e2 h rfl e3 w1)
  obtain⟨k2,sg,r⟩:=(k.drop i).freeze pd w2;exact⟨_,sg,k2,r⟩
 |_=>exact absurd w3 (λz=>z)
theorem Ok.freezeN {g:Gm}{H:Hp}{σ:St}:∀(cs:List (Addr × List D)) (R T:Evt) (G:Hp),Ok K g G H σ (R++cs.map (λc=>Slot.ownA c.1 (.lst c.2))++T) →
  ∃G',Same G G' /\ Ok K g G' H σ (R++Waj cs.length .any++T)/\∀c∈cs,Rep K G' (.ref c.1) (.lst c.2)
 |[],R,T,G,k=>⟨G,Same.refl _,by simpa using k,λc hc=>nomatch hc⟩
 |c::r,R,T,G,k=>by
  have hi:(R++(c::r).map (λc=>Slot.ownA c.1 (.lst c.2))++T)[R.length]?=some (.ownA c.1 (.lst c.2)):=by simp
  obtain⟨G1,s1,k1,r1⟩:=k.freezeA hi;have e:(R++(c::r).map (λc=>Slot.ownA c.1 (.lst c.2))++T).set R.length .any=(R++[.any])++r.map (λc=>Slot.ownA c.1 (.lst c.2))++T:=by
   simp[Wdg]
  rw[e]at k1;obtain⟨G2,s2,k2,r2⟩:=Ok.freezeN r (R++[.any]) T G1 k1;refine⟨G2,s1.trans s2,?_,λd hd=>?_⟩
  ·have e2:(R++[Slot.any])++Waj r.length Slot.any++T=R++Waj (c::r).length Slot.any++T:=by
    rw[Wao,Wdn];simp
   rw[e2]at k2;exact k2
  ·rcases Wat.mp hd with e|hd
   ·subst e;exact r1.mono s2
   ·exact r2 d hd
theorem Ok.thaw {g:Gm}{G H:Hp}{σ:St}{cs:List (Addr × List D)}{R T:Evt}{i:Nat}(k:Ok K g G H σ (R++cs.map (λc=>Slot.ownA c.1 (.lst c.2))++T)) (hi:R[i]?=some (.val (.lst (cs.map λc=>D.adr c.1)))) :
  ∃G',Same G G' /\ Ok K g G' H σ (R.set i (.val (.lst (cs.map λc=>D.lst c.2)))++Waj cs.length .any++T):=by
 have hlt:i<R.length:=(Waf.mp hi).1;obtain⟨v,h1,h2⟩:=k.val i _ (by rw[Wb7,Wa8 hlt];exact hi);obtain⟨G1,s1,k1,r1⟩:=Ok.freezeN cs R T G k;refine⟨G1,s1,?_⟩;have rr:Rep K G1 v (.lst (cs.map λc=>D.lst c.2)):=by
  cases h2 with
  |lst ha rs=>
   refine .lst (s1 _ _ ha) ?_;have key:∀(l:List (Addr × List D)) (vs:List V),(∀c∈l,Rep K G1 (.ref c.1) (.lst c.2))->Reps K G vs (l.map λc=>D.adr c.1)->Reps K G1 vs (l.map λc=>D.lst c.2):=by
    intro l
    induction l with
    |nil=>intro vs _ h;cases h;exact .nil
    |cons c r ih=>
     intro vs hc h;cases h with
     |cons h1 h2=>
      cases h1;exact .cons (hc c Way) (ih _ (λd hd=>hc d (Wav _ hd)) h2)
   exact key cs _ r1 rs
 have k2:=k1.setVal' i rr;have e1:σ.set i (some v) = σ:=by
  apply Wb6;intro j;by_cases hj:j=i
  ·subst hj;rw[Wai (by obtain⟨z,_⟩:=Waf.mp h1;exact z),h1]
  ·rw[Wap (Ne.symm hj)]
 rw[e1]at k2;have e2:(R++Waj cs.length Slot.any++T).set i (.val (.lst (cs.map λc=>D.lst c.2)))=R.set i (.val (.lst (cs.map λc=>D.lst c.2)))++Waj cs.length Slot.any++T:=by
  rw[Wb7,Wb7,Wdk _ _ hlt]
 rw[e2]at k2;exact k2
end
section
variable {X:Cx}(K:W.Frag)
theorem ixK (hu:X.A.units+1<cLine) (hK:X.K=K:=by rfl):IxR X (rIxU K):=hK ▸ ixU hu
theorem slK (hK:X.K=K:=by rfl):SlR X (rSlU K):=hK ▸ slU
theorem addK (hK:X.K=K:=by rfl):OpR X (binaryOp .Add) (rAddU K):=hK ▸ Zpy
theorem lenK (hK:X.K=K:=by rfl):CallR X (.builtin "len") (rLenU K):=hK ▸ Zkw
def rTup (K:W.Frag):List V->Hp->VK->Prop:=λxs H Q=>∃p ys,xs=[.ref p]/\((SqL K H p ys/\∀l,H l=none->Q (.ref l) (upd H l (.tup ys)))\/(SqT K H p ys/\Q (.ref p) H))
theorem tupK (hK:X.K=K:=by rfl):CallR X (.type "tuple") (rTup K):=hK ▸ Zhi
def rLst (K:W.Frag):List V->Hp->VK->Prop:=λxs H Q=>∃p ys,xs=[.ref p]/\(SqL K H p ys\/SqT K H p ys)/\∀l,H l=none->Q (.ref l) (upd H l (.lst ys))
theorem lstK (hK:X.K=K:=by rfl):CallR X (.type "list") (rLst K):=hK ▸ Zhl
theorem idxK (hK:X.K=K:=by rfl):MtM X "tuple.index" (rIndexT K):=hK ▸ Zfk
theorem seqK {tg l:Expr}{tl:TE}(hl:PE X l tl) (hK:X.K=K:=by rfl):PI X tg l (iSeq K tl):=hK ▸ Zsv hl
theorem truK {a:Expr}{ta:TE}(ha:PE X a ta) (he:∀whole,isTrue a X.env whole=(do let v ← whole;standAt a.pos;holding [v] (truthy v))) (hK:X.K=K:=by rfl):PT X a (tTru K ta):=hK ▸ Zs6 ha he
theorem gtupK {es:List Expr}{k:Nat}{t:TGs}{n:Nat}{pos:Pos}(hc:X.calm=true) (h:PGs X es t)
  (hn:(assignEach es X.env).length=n:=by rfl) (hst:(assignEach es X.env).findIdx? (·.1)=none:=by rfl) (hK:X.K=K:=by rfl):PG X (.Tuple es k pos) (gTup K n t):=hK ▸ Zrj hc h hn hst
variable {o e:Expr}{es:List Expr}{to:TE}{t:TA}{name:Str}{apos cpos:Pos}{T id:String}{r:V->List V->Hp->VK->Prop}
theorem bm0K (pa:PlainAttrs T) (slot:PySem.Slot T name id) (hty:typeOf (.builtin id)=pure (.type "method_descriptor")) (hm:MtR X id r) (ho:PE X o to)
  (hbase:attributeBase o name X.env (eval o X.env)=eval o X.env:=by rfl) (hline:(apos.endLine == cpos.line)=true:=by rfl) (hK:X.K=K:=by rfl):PE X (.Call (.Attribute o name apos) [] [] cpos) (tBM0 K T r to):=hK ▸ Zrh pa slot hty hm ho hbase hline
theorem bmK (pa:PlainAttrs T) (slot:PySem.Slot T name id) (hty:typeOf (.builtin id)=pure (.type "method_descriptor")) (hm:MtR X id r) (ho:PE X o to) (ha:PA X (e::es) t)
  (hbase:attributeBase o name X.env (eval o X.env)=eval o X.env:=by rfl)
  (hfew:((backTo cpos (starEach (e::es) X.env)).all (λx=>!x.1) && (backToKw cpos (keywordEach [] X.env)).all (λx=>x.1.isSome)
   && decide ((e::es).length+([]:List Keyword).length+(if ([]:List Keyword).isEmpty then 0 else 1)<30))=true:=by rfl)
  (hline:(apos.endLine == cpos.line)=true:=by rfl) (hs:starEach (e::es) X.env=(false,eval e X.env)::starEach es X.env:=by rfl) (hplain:(backTo cpos (starEach es X.env)).any (·.1)=false:=by rfl) (hK:X.K=K:=by rfl) :
  PE X (.Call (.Attribute o name apos) (e::es) [] cpos) (tBM K T r to t):=hK ▸ Zt0 pa slot hty hm ho ha hbase hfew hline hs hplain
end
section
variable {K:W.Frag}{Δ:Evt}{P:D->Evt->Prop}
theorem Zb2 {ds es:List D}(he:ds=[.lst es]\/ds=[.tup es]) (p:P (.tup es) Δ):JC K (rTup K) ds Δ P:=Zon he p
theorem Zo3 {ds es:List D}(he:ds=[.lst es]\/ds=[.tup es]) (p:P (.lst es) Δ):JC K (rLst K) ds Δ P:=λg G H σ Q vs k rs c=>by
 rcases he with he|he <;> subst he
 ·obtain⟨_,_,rfl,r,t⟩:=rs.inv
  next=>
   cases t.inv;obtain⟨_,_,rfl,ha,rs⟩:=r.inv
   next=>
    refine⟨_,_,rfl,.inl (SqL.of (k.live _ _ ha)),λl hl=>?_⟩;obtain⟨k2,sg⟩:=k.laid hl (.lst _);exact c _ _ _ _ Δ k2 sg (.lst Zaq (rs.mono sg)) p
 ·obtain⟨_,_,rfl,r,t⟩:=rs.inv
  next=>
   cases t.inv;obtain⟨_,_,rfl,ha,rs⟩:=r.inv
   next=>
    refine⟨_,_,rfl,.inr (SqT.of (k.live _ _ ha)),λl hl=>?_⟩;obtain⟨k2,sg⟩:=k.laid hl (.lst _);exact c _ _ _ _ Δ k2 sg (.lst Zaq (rs.mono sg)) p
theorem Zgp {sel:List Nat}{wi:TI}{tc:TT}{te:TE}{Po:List OD->Evt->Prop}(hsel:sel.Nodup)
  (h:JI K wi Δ λds Δ1=>ds.length<sizeLine/\∃(p:D->Bool) (f:D->OD),
   (∀(i:Nat) d,ds[i]?=some d->JT K tc (.val d::fixD sel Δ1) λb Δ4=>b=p d/\if b=true then JO K te Δ4 λe Δ5=>e=f d/\∃x,Δ5=x::fixD sel Δ1 else ∃x,Δ4=x::fixD sel Δ1) ∧
   Po ((ds.filter p).map f) Δ1):JN K (tComp 1 sel wi (gName 0) tc te) Δ Po:=by
 refine Zqm hsel λg G H σ R k c=>h g G H σ R k λJ ds G' H' Δ' k' s' it ⟨z,p,f,ht,he⟩=>c J ds G' H' Δ' k' s' it ⟨z,λi ys Δ=>ys=((ds.take i).filter p).map f/\∃x,Δ = x::fixD sel Δ',⟨by simp,.any,rfl⟩,?_,?_⟩
 ·rintro i d ys Δ2 hd ⟨rfl,x,rfl⟩
  have tk:ds.take (i+1)=ds.take i++[d]:=by
   rw[Wcw,hd];rfl
  refine Zd5 (by decide) ?_;intro g G H σ Q k c;refine ht i d hd g G H σ Q k λb G1 H1 Δ1 k1 s1 ⟨e1,q⟩=>c b G1 H1 Δ1 k1 s1 ?_;cases b with
  |true=>
   rw[if_pos rfl]at q ⊢;intro g G H σ Q k c;refine q g G H σ Q k λa od G2 H2 Δ2 k2 s2 pd ⟨e2,x,e3⟩=>c a od G2 H2 Δ2 k2 s2 pd ⟨?_,x,e3⟩;rw[tk,Wb2,Wa4,Wbv,<- e1,e2];rfl
  |false=>
   rw[if_neg War]at q ⊢;obtain⟨x,e3⟩:=q;refine⟨?_,x,e3⟩;rw[tk,Wb2,Wa4,Wbv,<- e1];simp
 ·rintro ys Δ2 ⟨rfl,x,rfl⟩
  rw[Wb3,show (x::fixD sel Δ')=[x]++fixD sel Δ' from rfl,Zdh (by simp)];exact he
end
def fLaw:DSp:=λds Post=>∃ns:List Int,ds=[.scr (ns.map .int)]/\ns.length<=63/\Post (.bl true)
def spLaw (K:W.Frag):Sp:=λvs H Q _=>∃(a:Addr) (ns:List Int),vs=[.ref a]/\SqL K H a (ns.map V.int)/\ns.length<=63/\∀H',Q (.bl true) H'
theorem Znh {K:W.Frag}{vs:List V}{H:Hp}{Q:VK}{E:XK}(h:spLaw K vs H Q E):spD K fLaw vs H Q E:=by
 obtain⟨a,ns,rfl,hs,hl,q⟩:=h;refine⟨H,[.scr (ns.map .int)],λd=>d=.bl true,Same.refl _,.cons (.scr hs (Reps.ofInts ns)) .nil,⟨ns,rfl,hl,rfl⟩,λr H' d sh rr e=>?_⟩;subst e;cases rr.inv;exact q H'
theorem walk_law {l:PySem.W.OpenLaw}{q:Program}{loose:List Str}{XP:(Str->Option Value)->Heap->Prop}{YP:World->Heap->Prop}{d:DefRec}{K:Params->W.Frag}{k:Nat}{x:Str}(hk:Room k callerA) (hn:l.most=some 63) (hdf:d.params.defaults=[])
  (hY:∀(w:World) (h:Heap),YP w h->(K w.params).In h)
  (F:∀(w:World) (mg:Str->Option Value) (fa:Addr) (h:Heap),(K w.params).In h->h.Ns mainGlobals mg->mg d.name=some (.ref fa) →
   ∃fd:FuncData,(∀(s:Shared) (u:Value),BindsTo s fd ⟨[u],[]⟩ [(x,u)])/\∀base:Heap,(K w.params).In base->base.Ns mainGlobals mg->FnOk l.prog w (K w.params) mg base CX0 k fa fd [x] (spD (K w.params) fLaw)) :
  PySem.W.WalkO q loose XP YP l.row.toRowW d [] (λf vs=>PySem.call f vs):=
 L2.walk_of (n:=63) (k:=k) (x:=x) (CX:=λ_=>CX0) (sp:=λw=>spLaw (K w.params)) hn (by decide) hdf hk hY
  (λw mg fa h h1 h2 h3=>by
   obtain⟨fd,b,f⟩:=F w mg fa h h1 h2 h3;exact⟨fd,b,λbase kb nb=>(f base kb nb).imp λvs H Q E z=>Znh z⟩)
  (λ_ _ a ns hl _ hS=>⟨a,ns,rfl,hS,hl,λ_=>rfl⟩) λ_ _ _ _ _ z=>z
def SqB (b:Bool) (K:W.Frag) (H:Hp) (a:Addr) (xs:List V):Prop:=match b with|true=>SqT K H a xs|false=>SqL K H a xs
def HsB (b:Bool) (h:Heap) (a:Addr) (ws:Array Value):Prop:=match b with|true=>h.IsTuple a ws|false=>h.IsList a ws
theorem HsB.lt {b:Bool}{h:Heap}{a:Addr}{ws:Array Value}(x:HsB b h a ws):a<h.objs.size:=by
 cases b <;> (obtain⟨o,q,r⟩:=x;exact Wam q)
theorem Inv.seqB {X:Cx}{pins:List (Addr × Obj)}{σ:St}{H:Hp}{s:Shared}{b:Bool}{a:Addr}{xs:List V}(I:Inv X pins σ H s) (h:SqB b X.K H a xs):∃its:List Value,Vals xs its/\HsB b s.heap a its.toArray:=by
 cases b
 ·obtain⟨its,r,p,_⟩:=I.list h
  exact⟨its,r,p.isList⟩
 ·obtain⟨its,r,p,_⟩:=I.tuple h
  exact⟨its,r,p⟩
section
variable {prog:Program}{w:World}{A:Around}{E:Value->Shared->Prop}{s:Shared}
end
section
variable {K:W.Frag}{Δ:Evt}
end
section
variable {X:Cx}
def rMin1 (K:W.Frag):List V->Hp->VK->Prop:=λxs H Q=>∃(b:Bool) (p:Addr) (ns:List Int),xs=[.ref p]/\SqB b K H p (ns.map V.int)/\0<ns.length/\∀m,m∈ns->(∀a∈ns,m<=a)->Q (.int m) H
theorem minK (K:W.Frag) (hc:X.calm=true) (hK:X.K=K:=by rfl):CallR X (.builtin "min") (rMin1 K):=by
 subst hK;intro pins s σ H xs us Q I r h;obtain⟨b,p,ns,rfl,hx,hne,q⟩:=h;obtain⟨u,rfl,ru⟩:=vals1 r;cases (show u=Value.ref p from ru);obtain⟨its,w1,p1⟩:=I.seqB hx;have hlt:=p1.lt;have hl:=w1.length;rw[Wab]at hl;have hv:∀(i:Nat) v,its.toArray[i]?=some v->∃t,v=Value.int (ns.getD i 0) t:=λi v e=>by
  have hi:i<its.length:=by simpa using (Array.getElem?_eq_some_iff.mp e).1
  obtain⟨v',e1,t,e2⟩:=w1.get (i:=i) (x:=.int (ns.getD i 0)) (by rw[Wad,Wac,Waa (by omega)];rfl);rw[Wcx,e1]at e;cases e;exact⟨t,e2⟩
 have fin:∀{h':Heap}{tk:Nat}{v:Value},its.toArray[argBest (λi j=>decide (ns.getD i 0<ns.getD j 0)) (its.toArray.size-1)]?=some v->(∀c o,s.heap.get? c=some o->h'.get? c=some o)->EP X pins σ Q v { s with heap:=h',toks:=tk }:=λ{h' tk v} hP hk=>by
  obtain⟨t,rfl⟩:=hv _ _ hP;obtain⟨h1,h2⟩:=argBest_lt (λi=>ns.getD i 0) (its.toArray.size-1);have hz:its.toArray.size=ns.length:=by simp[hl]
  rw[hz]at h1 h2 ⊢;refine⟨.int (ns.getD (argBest (λi j=>decide (ns.getD i 0<ns.getD j 0)) (ns.length-1)) 0),H,I.kept hk,⟨_,rfl⟩,q _ ?_ λa ha=>?_⟩
  ·rw[Wac,Waa (by omega)];exact Wa6 _
  ·obtain⟨j,hj,rfl⟩:=Wcl.mp ha
   have:=h2 j (by omega);rw[Wac (l:=ns) (i:=j),Waa hj]at this;exact this
 have old:∀{o:Obj}{h':Heap},(∀c u,c ∉ [s.heap.objs.size]->(s.heap.push o).get? c=some u->h'.get? c=some u)->∀c u,s.heap.get? c=some u->h'.get? c=some u:=λhk c u e=>hk c u (λhm=>by
  have:c=s.heap.objs.size:=by simpa using hm
  exact absurd (this ▸ Wam e) (Wck _)) (Wae _ e)
 have fp:∀o:Obj,∀c∈[s.heap.objs.size,p],c<(s.heap.push o).objs.size:=λo c hc=>by
  rw[Wdl];simp only[Wat,Wco,or_false]at hc;rcases hc with rfl|rfl
  ·exact Nat.lt_succ_self _
  ·exact Wbm hlt
 cases b
 ·refine call_min_walk (wpAny_pyIter_list p1 ?_)
  exact⟨_,_,_,_,_,_,_,rfl,Walks.list (A:=X.A.in1) (I.ok.hd hc) _ p (Was hlt) its.toArray,⟨⟨_,Waq _ rfl,rfl,rfl⟩,Heap.IsList.push p1 _⟩,fp _,by simp;omega,CmpOf.ints_lt (λi=>ns.getD i 0) hv,λv h' tk hP hk=>fin hP (old hk)⟩
 ·refine call_min_walk (wpAny_pyIter_tuple p1 ?_)
  exact⟨_,_,_,_,_,_,_,rfl,Walks.tuple (A:=X.A.in1) (I.ok.hd hc) _ p (Was hlt) its.toArray,⟨⟨_,Waq _ rfl,rfl,rfl⟩,Heap.IsTuple.push p1 _⟩,fp _,by simp;omega,CmpOf.ints_lt (λi=>ns.getD i 0) hv,λv h' tk hP hk=>fin hP (old hk)⟩
end
section
variable {K:W.Frag}{Δ:Evt}
theorem Zqo {ns:List Int}{m:Int}{d:D}{P:D->Evt->Prop}(hd:d=.lst (ns.map .int)\/d=.tup (ns.map .int)) (hm:m∈ns) (hle:∀a∈ns,m<=a) (p:P (.int m) Δ):JC K (rMin1 K) [d] Δ P:=λg G H σ Q vs k rs c=>by
 have fin:∀m',m'∈ns->(∀a∈ns,m' <= a)->Q (.int m') H:=λm' h1 h2=>by
  have:m'=m:=Int.le_antisymm (h2 m hm) (hle m' h1);subst this;exact c _ _ G H Δ k (Same.refl _) (.int _) p
 have pos:0<ns.length:=Wcv hm;obtain⟨_,_,rfl,r,t⟩:=rs.inv
 next=>
  cases t.inv;rcases hd with hd|hd <;> subst hd
  ·obtain⟨_,_,rfl,ha,rs⟩:=r.inv
   next=>have:=rs.ints;subst this;exact⟨false,_,ns,rfl,SqL.of (k.live _ _ ha),pos,fin⟩
  ·obtain⟨_,_,rfl,ha,rs⟩:=r.inv
   next=>have:=rs.ints;subst this;exact⟨true,_,ns,rfl,SqT.of (k.live _ _ ha),pos,fin⟩
end
open PySem PySem.Spec PyProof.Rows PySem.SeqAt
section
variable {prog:Program}{w:World}{A:Around}{E:Value->Shared->Prop}{s:Shared}
def KeepBut (a:Addr) (h h':Heap):Prop:=∀b o,b≠a->h.get? b=some o->h'.get? b=some o
end
def RowAt (h:Heap) (v:Value) (r:List Int):Prop:=∃(a:Addr) (its:List Value),v=.ref a/\IsTup h a its.toArray/\IntsAre its r
theorem RowAt.keep {h h':Heap}{v:Value}{r:List Int}(x:RowAt h v r) (k:∀b o,h.get? b=some o->h'.get? b=some o):RowAt h' v r:=by
 obtain⟨a,its,e,⟨o,ho,hc⟩,i⟩:=x;exact⟨a,its,e,⟨o,k a o ho,hc⟩,i⟩
theorem Zeh {its:List Value}{x:Int}{r:List Int}(h:IntsAre its (x::r)):∃t us,its=.int x t::us/\IntsAre us r:=by
 cases its with
 |nil=>have:=h.length;simp at this
 |cons v us=>
  cases h with
  |cons _ _ b=>exact⟨_,_,rfl,b⟩
theorem Ziv {its:List Value}(h:IntsAre its []):its=[]:=by
 cases its with
 |nil=>rfl
 |cons v us=>have:=h.length;simp at this
section
variable {prog:Program}{w:World}{A:Around}{E:Value->Shared->Prop}{s:Shared}
theorem Zdo:∀(vs:List Value) (rs:List (List Int)) {Q:List (Option Value)->Shared->Prop},Paired (RowAt s.heap) vs rs →
  (∀fs:List (Option Value),Paired (λ(f:Option Value) (r:List Int)=>(r=[]/\f=none)\/∃x t l,r=x::l/\f=some (.int x t)) fs rs->Q fs s)->wpAny (model prog w) A (vs.mapM firstOfTuple') Q E s
 |[],[],_,_,h=>by rw[List.mapM_nil];exact wpAny_pure (h [] .nil)
 |v::vs,r::rs,Q,.cons p t,h=>by
  obtain⟨a,its,rfl,⟨o,ho,hc,n,hd⟩,hi⟩:=p;rw[List.mapM_cons];refine wpAny_bind ?_;rw[PySem.W.kas_first_eq];refine wpAny_bind (PySem.W.Looks.here (show PySem.W.Looks (model prog w) s.heap (typeOf (.ref a)) o.cls from (PySem.W.Looks.ld ho).andThen .now) ?_);rw[hc,if_neg (by first|decide|simp)];refine wpAny_bind (listItems_at ho hd (wpAny_pure ?_));refine wpAny_bind (Zdo vs rs (Q:=λbs s'=>wpAny _ A (pure (its.toArray[0]?::bs)) Q E s') t λfs pf=>wpAny_pure (h _ (.cons ?_ pf)));cases r with
  |nil=>rw[Ziv hi];exact .inl ⟨rfl,rfl⟩
  |cons x l=>
   obtain⟨t,us,rfl,_⟩:=Zeh hi;exact .inr ⟨x,t,l,rfl,by simp⟩
theorem Zj2 {vs:List Value}{rs:List (List Int)}(p:Paired (RowAt s.heap) vs rs):∀v∈vs,PySem.W.Looks (model prog w) s.heap (typeOf v) (.type "tuple"):=by
 intro v hv
 induction p with
 |nil=>cases hv
 |cons q t ih=>
  rcases Wat.mp hv with e|hv
  ·subst e
   obtain⟨a,its,rfl,⟨o,ho,hc,_⟩,_⟩:=q;have z:PySem.W.Looks (model prog w) s.heap (typeOf (.ref a)) o.cls:=(PySem.W.Looks.ld ho).andThen .now;rw[hc]at z;exact z
  ·exact ih hv
theorem Zko {vs:List Value}{rs:List (List Int)}{Q:SortKind->Shared->Prop}(p:Paired (RowAt s.heap) vs ([]::rs)) (h:Q oneType' s):wpAny (model prog w) A (keyKind' vs.toArray) Q E s:=by
 have hT:=Zj2 (prog:=prog) (w:=w) p;rw[keyKind'_eq,Wdu,map_eq_pure_bind];refine wpAny_bind (wpAny_bind (Zdo vs _ p λfs pf=>wpAny_pure ?_));cases pf with
 |@cons f _ fs _ hf _=>
  have hf:f=none:=by
   rcases hf with z|⟨x,t,l,z,_⟩
   ·exact z.2
   ·cases z
  subst hf;rw[if_neg (by simp),if_neg (by simp)];rw[oneTypeOnly'_eq,Wdu,map_eq_pure_bind];refine wpAny_bind (wpAny_bind (wpAny_bind (PySem.W.kas_mapM (r:=.type "tuple") _ (λv hv Q' hq=>(hT v hv).here hq) (wpAny_pure ?_))));cases p with
  |@cons v _ vs _ _ _=>
   have hall:((Wbq (λ_=>Value.type "tuple") (v::vs)).toArray.all λx=>x == Value.type "tuple")=true:=by
    simp only[List.all_toArray,Wdx,Wb4];intro _ _;exact(by decide:(Value.type "tuple" == Value.type "tuple")=true)
   have h0:(Wbq (λ_=>Value.type "tuple") (v::vs)).toArray[0]?=some (Value.type "tuple"):=by simp
   rw[h0];simp only[hall,if_true];exact wpAny_pure (wpAny_pure h)
theorem Zkk {vs:List Value}{rs:List (List Int)}{Q:SortKind->Shared->Prop}(p:Paired (RowAt s.heap) vs rs) (hne:∀r∈rs,r≠[]) (h1:rs≠[]) (h:Q (tuples' true) s):wpAny (model prog w) A (keyKind' vs.toArray) Q E s:=by
 have ex:∃fs:List Value,PySem.W.KatTups s.heap vs fs/\fs.length=rs.length/\∀v∈fs,PySem.W.Looks (model prog w) s.heap (typeOf v) (.type "int"):=by
  clear h h1
  induction p with
  |nil=>exact⟨[],trivial,rfl,λ_ h=>nomatch h⟩
  |@cons v r vs rs q t ih=>
   obtain⟨fs,k1,k2,k3⟩:=ih λr hr=>hne r (Wav _ hr);obtain⟨a,its,rfl,⟨o,ho,hc,n,hd⟩,hi⟩:=q;cases r with
   |nil=>exact absurd rfl (hne [] Way)
   |cons x l=>
    obtain⟨tk,us,rfl,_⟩:=Zeh hi;refine⟨.int x tk::fs,.cons ho hc hd (by simp) k1,by rw[Wao,Wao,k2],λv hv=>?_⟩;rcases Wat.mp hv with e|hv
    ·subst e;exact .now
    ·exact k3 v hv
 obtain⟨fs,k1,k2,k3⟩:=ex;have hpos:0<rs.length:=Wc5.mpr h1;exact PySem.W.kat_kind k1 (by omega) k3 (by decide) h
end
section
variable {X:Cx}
def rInU (K:W.Frag) (neg:Bool):R2:=λx y H Q=>rIn K neg x y H Q\/(∃a o,y=.ref a/\DGet H a x o/\Q (.bl (if neg then !o.isSome else o.isSome)) H) ∨
 ∃a S n i,y=.ref a/\x=.int i/\H a=some (.set S n)/\Q (.bl (if neg then !S i else S i)) H
theorem notinK (K:W.Frag) (hu:X.A.units+1<cLine) (hK:X.K=K:=by rfl):OpR X (compareOp .NotIn) (rInU K true):=by
 subst hK;intro pins s σ H x y v u Q I rx ry h;rcases h with h|⟨a,o,rfl,hd,q⟩|⟨a,S,n,i,rfl,rfl,hs,q⟩
 ·exact Zh0 pins s σ H x y v u Q I rx ry h
 ·cases ry
  exact Zq9 hu I hd rx λs' I'=>⟨.bl _,H,I',rfl,q⟩
 ·cases ry
  obtain⟨t,rfl⟩:=rx;exact wpAny_notInSet_of (knd:=intKind X.prog X.w) (k:=i) (by simp[intKind,Value.isInt]) rfl (I.hok a _ hs) ⟨.bl _,H,I.tok _,rfl,q⟩
def rIndexL (K:W.Frag):V->List V->Hp->VK->Prop:=λx vs H Q=>∃(a:Addr) (ns:List Int) (i:Int),x=.ref a/\vs=[.int i]/\SqL K H a (ns.map V.int)/\ns.length<=1000/\i∈ns/\Q (.int (ns.idxOf i:Nat)) H
theorem idxLK (K:W.Frag) (hK:X.K=K:=by rfl):MtM X "list.index" (rIndexL K):=by
 subst hK;intro pins s σ H x vs v us Q I rx rv h;obtain⟨a,ns,i,rfl,rfl,hx,hl,hm,q⟩:=h;cases rx;obtain⟨u,rfl,ru⟩:=rv.one;obtain⟨t,rfl⟩:=ru;obtain⟨its,r,pl,hz⟩:=I.list hx;have hi:=Zck r;have hlen:=hi.length;obtain⟨⟨cls,dd,data,sl⟩,ho,hc,n,hd⟩:=pl.isList;simp only at hc hd;subst hc hd;have hj:ns.idxOf i<ns.length:=List.idxOf_lt_length_iff.mpr hm;refine call_meets PySem.F.slot_list_index ⟨_,ho,rfl⟩ PySem.F.entry_list_index (PySem.F.args_list_index_2 _ _)
  (list_indexAt a its.toArray n dd sl (.int i t) (isInt i) (ns.idxOf i) (by simpa [hlen] using hj) (by omega) ?_ ?_) ⟨ho,λy hy=>(eq_isInt i t hi y (by simpa using hy)).at _ _,⟨.int _,H,I.tok _,⟨_,rfl⟩,q⟩⟩
 ·show isInt i its[ns.idxOf i]=true
  rw[isInt_at i hi _ (by omega) hj];simpa using List.getElem_idxOf hj
 ·intro j hjs hlt
  show isInt i its[j]=false;rw[isInt_at i hi j (by simpa using hjs) (by omega)];exact ne_of_lt_idxOf hlt _
theorem Zik {pins:List (Addr × Obj)}{σ:St}{H:Hp}{s:Shared}(I:Inv X pins σ H s):∀{us:List V}{its:List Value}{rs:List (List Int)},Vals us its->Paired (λ(u:V) (r:List Int)=>∃a,u=.ref a/\SqT X.K H a (r.map V.int)) us rs->Paired (RowAt s.heap) its rs
 |_,_,_,.nil,.nil=>.nil
 |_,_,_,.cons r t,.cons p q=>by
  obtain⟨a,rfl,hs⟩:=p;cases r;obtain⟨its,r',pl,_⟩:=I.tuple hs;exact .cons ⟨a,its,rfl,pl,Zck r'⟩ (Zik I t q)
theorem Paired.len {R:Value->List Int->Prop}:∀{vs:List Value}{rs:List (List Int)},Paired R vs rs->vs.length=rs.length
 |_,_,.nil=>rfl
 |_,_,.cons _ t=>by rw[Wao,Wao,Paired.len t]
theorem Paired.up {R R':Value->List Int->Prop}(f:∀v r,R v r->R' v r):∀{vs:List Value}{rs:List (List Int)},Paired R vs rs->Paired R' vs rs
 |_,_,.nil=>.nil
 |_,_,.cons p t=>.cons (f _ _ p) (Paired.up f t)
end
section
variable {K:W.Frag}{Δ:Evt}{P:D->Evt->Prop}
theorem Znm (i:Int) (ns:List Int):inV (.int i) (ns.map V.int)=decide (i∈ns):=by
 unfold inV;rw[List.any_map]
 induction ns with
 |nil=>rfl
 |cons n ns ih=>
  rw[Wc4,ih];show ((n == i) || decide (i∈ns))=_;by_cases h:n=i
  ·subst h;simp
  ·rw[beq_eq_false_iff_ne.mpr h,Bool.false_or]
   have:(i∈n::ns)↔i∈ns:=by simp[Ne.symm h]
   exact decide_eq_decide.mpr this.symm
theorem Zmp (ns:List Int):(ns.map V.int).all flatV=true:=by rw[Wdx];exact Wb4.mpr λ_ _=>rfl
theorem Zd1 {to te:TE}(h:JE K to Δ λd Δ1=>∃ns:List Int,d=.lst (ns.map D.int)/\ns.length<=1000/\JE K te Δ1 λe Δ2=>∃i,e=.int i/\i∈ns/\P (.int (ns.idxOf i:Nat)) Δ2) :
  JE K (tBM K "list" (rIndexL K) to (tCons te tNil)) Δ P:=λg G H σ Q k c=>
 h g G H σ _ k λv d G1 H1 Δ1 k1 s1 r1 hq_=>by
  obtain⟨ns,e,hl,p1⟩:=hq_;subst e;obtain⟨a,vs,rfl,ha,rs⟩:=r1.inv
  next=>
   refine⟨.inl ⟨rfl,_,SqL.of (k1.live _ _ ha)⟩,p1 g G1 H1 σ _ k1 λu e G2 H2 Δ2 k2 s2 r2 ⟨i,q1,q2,p⟩=>?_⟩;subst q1;cases r2.inv;have ev:vs=ns.map V.int:=rs.ints;subst ev;exact⟨a,ns,i,rfl,rfl,SqL.of (k2.live _ _ (s2 _ _ ha)),hl,q2,c _ _ G2 H2 Δ2 k2 (s1.trans s2) (.int _) p⟩
def rowD (r:List Int):D:=.tup (r.map D.int)
theorem Zja {G H:Hp}(l:Same G H):∀{vs:List V}{rs:List (List Int)},Reps K G vs (rs.map rowD)->Paired (λ(u:V) (r:List Int)=>∃a,u=.ref a/\SqT K H a (r.map V.int)) vs rs
 |[],[],_=>.nil
 |[],_::_,h=>by cases h
 |_::_,[],h=>by cases h
 |v::vs,r::rs,h=>by
  cases h with
  |cons r1 t=>
   obtain⟨a,us,rfl,ha,rr⟩:=r1.inv
   next=>
    have ev:=rr.ints;subst ev;exact .cons ⟨a,rfl,SqT.of (l _ _ ha)⟩ (Zja l t)
end
theorem Zm1 {A:Around}{k:Nat}(hr:Room k A):A.units+8<cLine:=Wcg (Nat.add_le_add_left (by decide:8<=64) _) hr.units
open PySem PySem.Spec PyProof.Rows PySem.SeqAt
def flatD:D->Option V
 |.non=>some .non
 |.bl b=>some (.bl b)
 |.int i=>some (.int i)
 |.str x=>some (.str x)
 |_=>none
def eqFlat (d e:D):Bool:=match flatD d,flatD e with
 |some x,some y=>eqV x y
 |_,_=>false
def eqF:Nat->D->D->Bool
 |0,_,_=>false
 |n+1,.tup xs,.tup ys=>xs.length == ys.length && (xs.zip ys).all λp=>eqF n p.1 p.2
 |n+1,.lst xs,.lst ys=>xs.length == ys.length && (xs.zip ys).all λp=>eqF n p.1 p.2
 |_+1,d,e=>eqFlat d e
def Dp:Nat->D->Prop
 |0,_=>False
 |_+1,.int _=>True
 |n+1,.tup xs=>∀d∈xs,Dp n d
 |n+1,.lst xs=>∀d∈xs,Dp n d
 |_,_=>False
theorem Rep.uniq {K:W.Frag}{G:Hp}:∀(n:Nat) {v:V}{d e:D},Rep K G v d->Rep K G v e->Dp n d->Dp n e->d=e
 |0,_,_,_,_,_,h,_=>h.elim
 |n+1,v,d,e,hd,he,pd,pe=>by
  have all:∀{vs:List V}{xs ys:List D},Reps K G vs xs->Reps K G vs ys->(∀d∈xs,Dp n d)->(∀d∈ys,Dp n d)->xs=ys:=by
   intro vs
   induction vs with
   |nil=>intro xs ys h1 h2 _ _;cases h1;cases h2;rfl
   |cons v vs ih=>
    intro xs ys h1 h2 p1 p2;cases h1 with
    |cons a1 b1=>
     cases h2 with
     |cons a2 b2=>
      rw[Rep.uniq n a1 a2 (p1 _ Way) (p2 _ Way),ih b1 b2 (λd hd=>p1 d (Wav _ hd)) λd hd=>p2 d (Wav _ hd)]
  cases d with
  |int i=>cases hd;cases he;rfl
  |tup xs=>
   cases hd with
   |tup ha ra=>
    cases e with
    |tup ys=>cases he with|tup hb rb=>rw[ha]at hb;cases hb;rw[all ra rb pd pe]
    |lst ys=>cases he with|lst hb rb=>rw[ha]at hb;cases hb
    |int i=>cases he
    |_=>exact pe.elim
  |lst xs=>
   cases hd with
   |lst ha ra=>
    cases e with
    |lst ys=>cases he with|lst hb rb=>rw[ha]at hb;cases hb;rw[all ra rb pd pe]
    |tup ys=>cases he with|tup hb rb=>rw[ha]at hb;cases hb
    |int i=>cases he
    |_=>exact pe.elim
  |_=>exact pd.elim
theorem Zgm:∀(n:Nat) (d:D),Dp n d->eqF n d d=true
 |0,_,h=>h.elim
 |n+1,.int i,_=>by show (i == i)=true;simp
 |n+1,.tup xs,h=>by
  show (xs.length == xs.length && (xs.zip xs).all λp=>eqF n p.1 p.2)=true;rw[beq_self_eq_true,Wds,Wb4];intro p hp;obtain⟨i,hi⟩:=Wbi.mp hp;rw[Wbg]at hi;have e:p.1=p.2:=Wa7.inj (hi.1.symm.trans hi.2);rw[<- e];exact Zgm n _ (h _ (Wan hi.1))
 |n+1,.lst xs,h=>by
  show (xs.length == xs.length && (xs.zip xs).all λp=>eqF n p.1 p.2)=true;rw[beq_self_eq_true,Wds,Wb4];intro p hp;obtain⟨i,hi⟩:=Wbi.mp hp;rw[Wbg]at hi;have e:p.1=p.2:=Wa7.inj (hi.1.symm.trans hi.2);rw[<- e];exact Zgm n _ (h _ (Wan hi.1))
 |_+1,.non,h=>h.elim
 |_+1,.bl _,h=>h.elim
 |_+1,.str _,h=>h.elim
 |_+1,.ty _,h=>h.elim
 |_+1,.scr _,h=>h.elim
 |_+1,.adr _,h=>h.elim
 |_+1,.dct _ _,h=>h.elim
 |_+1,.exc _ _,h=>h.elim
def atZip (n:Nat) (xs ys:List D) (j:Nat):Bool:=match xs[j]?,ys[j]? with
 |some a,some b=>eqF n a b
 |_,_=>false
theorem Zgn (n:Nat):∀(xs ys:List D),(Wau (min xs.length ys.length)).all (atZip n xs ys)=(xs.zip ys).all λp=>eqF n p.1 p.2
 |[],ys=>by simp
 |_::_,[]=>by simp
 |x::xs,y::ys=>by
  rw[Wao,Wao,Nat.succ_min_succ,List.range_succ_eq_map,Wdd,Wdx,Wb1,Wdd,<- Zgn n xs ys];rfl
section
variable {X:Cx}
theorem Zll:∀(n:Nat) {A:Around}{pins:List (Addr × Obj)}{σ:St}{H G:Hp}{s:Shared}{x y:V}{v u:Value}{d e:D},Inv X pins σ H s->Same G H->Rep X.K G x d->Rep X.K G y e->RelV x v->RelV y u->Dp n d->Dp n e->A.units+n<cLine →
  EqAt A s v u (eqF n d e)/\(∀a b,v=.ref a->u=.ref b->RcAt A s v u (eqF n d e))
 |0,_,_,_,_,_,_,_,_,_,_,_,_,_,_,_,_,_,_,h,_,_=>h.elim
 |n+1,A,pins,σ,H,G,s,x,y,v,u,d,e,I,sg,rx,ry,rv,ru,pd,pe,hu=>by
  have hu0:A.units<cLine:=by omega
  have hu1:A.in1.units+n<cLine:=by show A.units+1+n<cLine;omega
  have items:∀{vs us:List V}{its its2:List Value}{xs ys:List D},Vals vs its->Vals us its2->Reps X.K G vs xs->Reps X.K G us ys->(∀d∈xs,Dp n d)->(∀d∈ys,Dp n d) →
    ∀j (h1:j<its.toArray.size) (h2:j<its2.toArray.size),EqAt A.in1 s its.toArray[j] its2.toArray[j] (atZip n xs ys j):=by
   intro vs us its its2 xs ys w1 w2 r1 r2 p1 p2 j h1 h2;have l1:=w1.length;have l2:=r1.length;have l3:=w2.length;have l4:=r2.length;have h1':j<its.length:=by simpa using h1
   have h2':j<its2.length:=by simpa using h2
   have hx:j<xs.length:=by omega
   have hy:j<ys.length:=by omega
   obtain⟨a,ha1,ha2⟩:=r1.get (Waa hx);obtain⟨b,hb1,hb2⟩:=r2.get (Waa hy);obtain⟨va,hv1,hv2⟩:=w1.get ha1;obtain⟨vb,hw1,hw2⟩:=w2.get hb1;have e1:its.toArray[j]=va:=by
    rw[Waa h1']at hv1;simpa using Wa7.inj hv1
   have e2:its2.toArray[j]=vb:=by
    rw[Waa h2']at hw1;simpa using Wa7.inj hw1
   have e3:atZip n xs ys j=eqF n xs[j] ys[j]:=by unfold atZip;rw[Waa hx,Waa hy]
   rw[e1,e2,e3];exact(Zll n I sg ha2 hb2 hv2 hw2 (p1 _ (Wa6 hx)) (p2 _ (Wa6 hy)) hu1).1
  have same:∀a,v=.ref a->u=.ref a->eqF (n+1) d e=true:=λa h1 h2=>by
   have hx:x=.ref a:=by cases x <;> simp[RelV,h1]at rv <;> first|(rw[rv])|skip
   have hy:y=.ref a:=by cases y <;> simp[RelV,h2]at ru <;> first|(rw[ru])|skip
   rw[hx]at rx;rw[hy]at ry;rw[Rep.uniq (n+1) rx ry pd pe];exact Zgm (n+1) e pe
  have lift:(∃a,v=.ref a)->(∃b,u=.ref b)->(∀a b,v=.ref a->u=.ref b->RcAt A s v u (eqF (n+1) d e))->EqAt A s v u (eqF (n+1) d e)/\(∀a b,v=.ref a->u=.ref b->RcAt A s v u (eqF (n+1) d e)):=by
   rintro⟨a,rfl⟩ ⟨b,rfl⟩ h;refine⟨?_,h⟩;by_cases hab:a=b
   ·subst hab
    rw[same a rfl rfl];exact EqAt.same _
   ·exact .of_refs hab (h a b rfl rfl)
  cases d with
  |int i=>
   cases rx;obtain⟨t,rfl⟩:=rv;refine⟨?_,λa b z=>nomatch z⟩;cases e with
   |int j=>
    cases ry;obtain⟨t',rfl⟩:=ru;exact EqAt.int_int i t j t'
   |tup ys=>
    cases ry with
    |tup hb rb=>
     cases ru;obtain⟨its,w1,pl,_⟩:=I.tuple (SqT.of (sg _ _ hb));exact EqAt.int_tuple i t pl hu0
   |lst ys=>
    cases ry with
    |lst hb rb=>
     cases ru;obtain⟨its,w1,pl,_⟩:=I.list (SqL.of (sg _ _ hb));exact EqAt.int_list i t pl.isList hu0
   |_=>exact pe.elim
  |tup xs=>
   cases rx with
   |@tup a vs _ ha ra=>
    cases rv;obtain⟨its,w1,pl,_⟩:=I.tuple (SqT.of (sg _ _ ha));cases e with
    |int j=>
     cases ry;obtain⟨t',rfl⟩:=ru;exact⟨EqAt.tuple_int j t' pl hu0,λa b _ z=>nomatch z⟩
    |tup ys=>
     cases ry with
     |@tup b us _ hb rb=>
      cases ru;obtain⟨its2,w2,pl2,_⟩:=I.tuple (SqT.of (sg _ _ hb));refine lift ⟨_,rfl⟩ ⟨_,rfl⟩ λ_ _ _ _=>?_;have z:=RcAt.tuples (A:=A) (s:=s) pl pl2 hu0 (items w1 w2 ra rb pd pe);have e1:((Wau (min its.toArray.size its2.toArray.size)).all (atZip n xs ys) && its.toArray.size == its2.toArray.size)=eqF (n+1) (.tup xs) (.tup ys):=by
       show _=(xs.length == ys.length && (xs.zip ys).all λp=>eqF n p.1 p.2);rw[<- Zgn,Wag,Wag,<- w1.length,<- w2.length,ra.length,rb.length,Bool.and_comm]
      rw[e1]at z;exact z
    |lst ys=>
     cases ry with
     |@lst b us _ hb rb=>
      cases ru;obtain⟨its2,w2,pl2,_⟩:=I.list (SqL.of (sg _ _ hb));exact⟨EqAt.tuple_list pl pl2.isList hu0,λ_ _ _ _=>RcAt.tuple_list pl pl2.isList hu0⟩
    |_=>exact pe.elim
  |lst xs=>
   cases rx with
   |@lst a vs _ ha ra=>
    cases rv;obtain⟨its,w1,pl,_⟩:=I.list (SqL.of (sg _ _ ha));cases e with
    |int j=>
     cases ry;obtain⟨t',rfl⟩:=ru;exact⟨EqAt.list_int j t' pl.isList hu0,λa b _ z=>nomatch z⟩
    |tup ys=>
     cases ry with
     |@tup b us _ hb rb=>
      cases ru;obtain⟨its2,w2,pl2,_⟩:=I.tuple (SqT.of (sg _ _ hb));exact⟨EqAt.list_tuple pl.isList pl2 hu0,λ_ _ _ _=>RcAt.list_tuple pl.isList pl2 hu0⟩
    |lst ys=>
     cases ry with
     |@lst b us _ hb rb=>
      cases ru;obtain⟨its2,w2,pl2,_⟩:=I.list (SqL.of (sg _ _ hb));refine lift ⟨_,rfl⟩ ⟨_,rfl⟩ λ_ _ _ _=>?_;have l1:=w1.length;have l2:=w2.length;have l3:=ra.length;have l4:=rb.length;by_cases hl:xs.length=ys.length
      ·have hsz:its.toArray.size=its2.toArray.size:=by rw[Wag,Wag];omega
       have z:=RcAt.lists (A:=A) (s:=s) pl.isList pl2.isList hsz hu0 (items w1 w2 ra rb pd pe);have e1:(Wau its.toArray.size).all (atZip n xs ys)=eqF (n+1) (.lst xs) (.lst ys):=by
        show _=(xs.length == ys.length && (xs.zip ys).all λp=>eqF n p.1 p.2);rw[<- Zgn,Wag,hl,beq_self_eq_true,Wds,Wc0,show its.length=ys.length by omega]
       rw[e1]at z;exact z
      ·have z:=RcAt.lists_lengths (A:=A) (s:=s) pl.isList pl2.isList (by rw[Wag,Wag];simp;omega) hu0
       have e1:eqF (n+1) (.lst xs) (.lst ys)=false:=by
        show (xs.length == ys.length && (xs.zip ys).all λp=>eqF n p.1 p.2)=false;rw[beq_eq_false_iff_ne.mpr hl,Wdm]
       rw[e1];exact z
    |_=>exact pe.elim
  |_=>exact pd.elim
def rEqD (K:W.Frag):R2:=λx y H Q=>∃G d e n,Same G H/\Rep K G x d/\Rep K G y e/\Dp n d/\Dp n e/\n<=5/\(∃a,x=.ref a)/\(∃b,y=.ref b)/\Q (.bl (eqF n d e)) H
theorem eqDK (K:W.Frag) (hv:X.A.units+8<cLine) (hK:X.K=K:=by rfl):OpR X (compareOp .Eq) (rEqD K):=by
 subst hK;intro pins s σ H x y v u Q I rx ry h;obtain⟨G,d,e,n,sg,r1,r2,p1,p2,hn,⟨a,rfl⟩,⟨b,rfl⟩,q⟩:=h;cases rx;cases ry;exact(Zll n I sg r1 r2 rfl rfl p1 p2 (A:=X.A) (by omega)).2 a b rfl rfl X.prog X.w _ _ ⟨.bl _,H,I,rfl,q⟩
theorem Zdl:∀{vs:List Value}{ns:List Int},vs.length=ns.length->(∀(i:Nat) v,vs[i]?=some v->∃t,v=.int (ns.getD i 0) t)->IntsAre vs ns
 |[],[],_,_=>.nil
 |[],_::_,h,_=>by simp at h
 |_::_,[],h,_=>by simp at h
 |v::vs,n::ns,h,g=>by
  obtain⟨t,rfl⟩:=g 0 v rfl;exact .cons n t (Zdl (by simpa using h) λi u e=>by simpa using g (i+1) u (by simpa using e))
def tLR (ta:TA):TE:=λσ H Q=>ta σ H λvs H1=>∃n:Nat,vs=[.int (n:Int)]/\n<=1000/\∀l,H1 l=none->Q (.ref l) (upd H1 l (.lst ((Wau n).map λi:Nat=>V.int (i:Int))))
theorem Zh1 {a:Expr}{ta:TA}{p p2 pos pos2:Pos}(hc:X.calm=true) (hgL:Gl X "list") (hmL:X.mg "list" = none) (hgR:Gl X "range") (hmR:X.mg "range" = none) (ha:PA X [a] ta) (hs:starEach [a] X.env=[(false,eval a X.env)]:=by rfl)
  (he:starEach [.Call (.Name "range" p2) [a] [] pos2] X.env=[(false,eval (.Call (.Name "range" p2) [a] [] pos2) X.env)]:=by rfl) :
  PE X (.Call (.Name "list" p) [.Call (.Name "range" p2) [a] [] pos2] [] pos) (tLR ta):=by
 intro pins s σ H Q I h;refine wpAny_Call_Name_kw (Zej I hgL hmL Zmr ?_);refine PyProof.Rows.callWith_type1 ?_ he rfl;rw[he];show wpAny _ _ (spliced ((false,eval (.Call (.Name "range" p2) [a] [] pos2) X.env)::backTo pos [])) _ _ s;refine Calls.spliced_cons ?_;refine Call_ (Zej I hgR hmR boot_range (PyProof.Rows.callWith_type1 (thn (ha pos2 pins s σ H _ I h) λus s1 ⟨vs,H1,I1,r1,q1⟩=>?_) hs rfl));obtain⟨n,e,hn,q⟩:=q1;subst e;cases r1 with
 |cons r rr=>
  cases rr;obtain⟨t,rfl⟩:=r;refine call_range_1 (Calls.spliced_nil ?_);have I2:Inv X pins σ H1 { s1 with heap:=s1.heap.push { cls:=.type "range",data:=.fields #[.int 0 s1.toks,.int (n:Int) t,.int 1 (s1.toks+1)] },toks:=s1.toks+1+1 }:=I1.kept λb o e=>Wae _ e;refine call_list_range (a:=0) (b:=(n:Int)) (c:=1) (n:=n) (I1.ok.hd hc) (IsRange.new ..) (small_one (by decide) (by decide) (by omega) (by omega)) (by rw[rangeSize_one];split <;> omega) (by omega) λh' tk acc c' hk hD hI=>?_
  have hl:acc.size=n:=hI.1;refine⟨.ref _,_,I2.laid (t':=tk) hk (Wak _) (show ObjOk X.prog X.w _ h' _ (.lst ((Wau n).map λi:Nat=>V.int (i:Int))) from ⟨?_,acc.toList,c',?_,?_⟩),rfl,q _ (I2.hok.fresh (Wak _))⟩
  ·rw[Wab,Wbh];exact Wb0 (small1000 hn)
  ·have:IntsAre acc.toList ((Wau n).map λi:Nat=>(i:Int)):=by
    refine Zdl (by rw[Array.length_toList,hl,Wab,Wbh]) λi v e=>?_;have hi:i<n:=by
     have:=(Waf.mp e).1;rw[Array.length_toList,hl]at this;exact this
    obtain⟨t',rfl⟩:=hI.2 i v (by rw[<- Array.getElem?_toList];exact e);refine⟨t',?_⟩;rw[Wac,Wad,Wcq hi];show Value.int (0+(i:Int)*1) t'=Value.int (i:Int) t';rw[Wbj,Int.mul_one]
   have:=Zc6 this;rw[Wal]at this;exact this
  ·rw[Array.toArray_toList];exact hD
end
section
variable {K:W.Frag}{Δ:Evt}{P:D->Evt->Prop}
def isSeqD:D->Bool
 |.tup _=>true
 |.lst _=>true
 |_=>false
theorem Zmt {G:Hp}{x:V}{d:D}(r:Rep K G x d) (h:isSeqD d=true):∃a,x=.ref a:=by
 cases r with
 |tup _ _=>exact⟨_,rfl⟩
 |lst _ _=>exact⟨_,rfl⟩
 |_=>cases h
theorem Zsp {n:Nat}{d e:D}(hn:n<=5) (pd:Dp n d) (pe:Dp n e) (sd:isSeqD d=true) (se:isSeqD e=true) (p:P (.bl (eqF n d e)) Δ):JR2 K (rEqD K) d e Δ P:=λg G H σ Q x y k rx ry c=>
 ⟨G,d,e,n,k.live,rx,ry,pd,pe,hn,Zmt rx sd,Zmt ry se,c _ _ G H Δ k (Same.refl _) (.bl _) p⟩
theorem Ztz {ta:TA}{Po:OD->Evt->Prop}(h:JA K ta Δ λds Δ1=>∃n:Nat,ds=[.int (n:Int)]/\n<=1000/\Po (.lst ((Wau n).map λi:Nat=>D.int (i:Int))) Δ1):JO K (tLR ta) Δ Po:=λg G H σ Q k c=>
 h g G H σ _ k λvs ds G1 H1 Δ1 k1 s1 r1 hq_=>by
  obtain⟨n,e,hl,p⟩:=hq_;subst e;obtain⟨_,_,rfl,r,t⟩:=r1.inv
  next=>
   cases t.inv;cases r.inv;refine⟨n,rfl,hl,λl hl=>?_⟩;obtain⟨k2,pd⟩:=k1.fresh (od:=.lst ((Wau n).map λi:Nat=>D.int (i:Int))) hl (show OwnRep K G1 (.lst ((Wau n).map λi:Nat=>V.int (i:Int))) (.lst ((Wau n).map λi:Nat=>D.int (i:Int))) from by
    have:=Reps.ofInts (K:=K) (G:=G1) ((Wau n).map λi:Nat=>(i:Int));rw[Wal,Wal]at this;exact this)
   exact c l _ G1 _ Δ1 k2 s1 pd p
theorem Zlu {n:Nat}{t1 t2:TE}{x:Slot}{ds0:List D}{nx bk ct:Evt->Prop}{rt:D->Evt->Prop}{ro:OD->Evt->Prop}(hx:Δ[n]?=some x) (ho:x.od=some (.lst ds0))
  (h:JE K t1 Δ λe1 Δ1=>JE K t2 Δ1 λe2 Δ2=>∃y i ds,e1=.int i /\ Δ2[n]?=some y/\y.od=some (.lst ds)/\ds.length<sizeLine /\ -(2 ^ 62)<=i/\i<2 ^ 62/\nx (Δ2.set n (y.put (.lst (ds.take (insI ds.length i)++e2::ds.drop (insI ds.length i)))))) :
  JS K (tDrop (tBM K "list" rInsert (tVar n) (tCons t1 (tCons t2 tNil)))) Δ ⟨nx,rt,bk,ct,ro⟩:=λg G H σ E k c=>by
 obtain⟨a,o,h1,h2,h3,h4,h5⟩:=k.own n x _ hx ho;cases o with
 |lst vs0=>
  refine⟨.ref a,h1,.inl ⟨rfl,_,SqL.of h2⟩,h g G H σ _ k λv1 e1 G1 H1 Δ1 k1 s1 r1 p1=>p1 g G1 H1 σ _ k1 λv2 e2 G2 H2 Δ2 k2 s2 r2 ⟨y,i,ds,q1,q2,q2',q3,q4,q5,p⟩=>?_⟩;subst q1;cases r1.inv;obtain⟨a2,o2,u1,u2,u3,u4,u5⟩:=k2.own n y _ q2 q2';rw[h1]at u1;cases u1;cases o2 with
  |lst vs=>
   have u3:Reps K G2 vs ds:=u3;refine⟨_,vs,i,v2,rfl,rfl,u2,by rw[u3.length];exact q3,q4,q5,?_⟩;have k3:=k2.write q2 q2' h1 (show OwnRep K G2 (.lst (vs.take (insI vs.length i)++v2::vs.drop (insI vs.length i))) (.lst (ds.take (insI ds.length i)++e2::ds.drop (insI ds.length i))) from by
    rw[u3.length];exact(u3.take _).append (.cons r2 (u3.drop _)))
   exact c.nx σ G2 _ _ k3 p
  |_=>exact absurd u3 (λz=>z)
 |_=>exact absurd h3 (λz=>z)
end
open PySem PySem.Spec PyProof.Rows PySem.SeqAt
def Ris (xs:Array Nat):Prop:=∀(i j a b:Nat),i<j->xs[i]?=some a->xs[j]?=some b->a<b
theorem Zgd (xs:Array Nat) (R:Ris xs) (j:Nat):∀(fuel lo hi:Nat),hi-lo<=fuel->lo<=hi->hi<=xs.size->(∀(i a:Nat),i<lo->xs[i]?=some a->a<j)->(∀(i a:Nat),hi<=i->xs[i]?=some a->j<=a) →
  SetTable.below.go xs j fuel lo hi<=xs.size/\(∀(i a:Nat),i<SetTable.below.go xs j fuel lo hi->xs[i]?=some a->a<j)/\∀(i a:Nat),SetTable.below.go xs j fuel lo hi<=i->xs[i]?=some a->j<=a
 |0,lo,hi,h1,h2,h3,h4,h5=>by
  have:lo=hi:=by omega
  subst this;show lo<=xs.size/\_;exact⟨h3,h4,h5⟩
 |fuel+1,lo,hi,h1,h2,h3,h4,h5=>by
  unfold SetTable.below.go;by_cases hlt:lo<hi
  ·rw[if_pos hlt]
   dsimp only;have hm:(lo+hi) / 2<xs.size:=by omega
   have hg:xs.getD ((lo+hi) / 2) j=xs[(lo+hi) / 2]:=by simp[Array.getD,hm]
   by_cases hc:xs.getD ((lo+hi) / 2) j<j
   ·rw[if_pos hc]
    refine Zgd xs R j fuel _ _ (by omega) (by omega) h3 (λi a hi' e=>?_) h5;by_cases hi2:i=(lo+hi) / 2
    ·subst hi2
     rw[Array.getElem?_eq_getElem hm]at e;cases e;omega
    ·have:=R i ((lo+hi) / 2) a _ (by omega) e (Array.getElem?_eq_getElem hm)
     omega
   ·rw[if_neg hc]
    refine Zgd xs R j fuel _ _ (by omega) (by omega) (by omega) h4 λi a hi' e=>?_;by_cases hi2:i=(lo+hi) / 2
    ·subst hi2
     rw[Array.getElem?_eq_getElem hm]at e;cases e;omega
    ·have:=R ((lo+hi) / 2) i _ a (by omega) (Array.getElem?_eq_getElem hm) e
     omega
  ·rw[if_neg hlt]
   have:lo=hi:=by omega
   subst this;exact⟨h3,h4,h5⟩
theorem Zfz {xs:Array Nat}(R:Ris xs) (j:Nat):SetTable.below xs j<=xs.size/\(∀(i a:Nat),i<SetTable.below xs j->xs[i]?=some a->a<j)/\∀(i a:Nat),SetTable.below xs j<=i->xs[i]?=some a->j<=a:=
 Zgd xs R j xs.size 0 xs.size (by omega) (Wbx _) (Wak _) (λi a h=>by omega) λi a h e=>by
  have:=(Array.getElem?_eq_some_iff.mp e).1;omega
theorem Zgu {α:Type}(xs:Array α) (p:Nat) (x:α) (h:p<=xs.size):(SetTable.insertAt xs p x).toList=xs.toList.take p++x::xs.toList.drop p:=by
 unfold SetTable.insertAt;rw[Array.toList_append,Array.toList_push,Array.toList_extract,Array.toList_extract];simp[List.extract_eq_take_drop,Wb7];rw[Wcu (by simp)]
theorem Zh2 {α:Type}(xs:Array α) (p:Nat) (x:α) (h:p<=xs.size) (i:Nat):(SetTable.insertAt xs p x)[i]?=if i<p then xs[i]? else if i=p then some x else xs[i-1]?:=by
 rw[<- Array.getElem?_toList,Zgu xs p x h];by_cases h1:i<p
 ·rw[if_pos h1,Wa8 (by rw[Wbt,Array.length_toList];omega),List.getElem?_take_of_lt h1,Array.getElem?_toList]
 ·rw[if_neg h1,Wax (by rw[Wbt,Array.length_toList];omega),Wbt,Array.length_toList,Nat.min_eq_left h]
  by_cases h2:i=p
  ·rw[if_pos h2,h2,Nat.sub_self];rfl
  ·rw[if_neg h2,show i-p=(i-1-p)+1 by omega,List.getElem?_cons_succ,List.getElem?_drop,Array.getElem?_toList,show p+(i-1-p)=i-1 by omega]
theorem Zpk {xs:Array Nat}(R:Ris xs) {j:Nat}(hj:xs[SetTable.below xs j]?≠some j):Ris (SetTable.insertAt xs (SetTable.below xs j) j):=by
 obtain⟨b1,b2,b3⟩:=Zfz R j;have b4:∀(i a:Nat),SetTable.below xs j<=i->xs[i]?=some a->j<a:=λi a h e=>by
  have h1:=b3 i a h e;by_cases hi:i=SetTable.below xs j
  ·subst hi
   rcases Nat.lt_or_eq_of_le h1 with z|z
   ·exact z
   ·subst z;exact absurd e hj
  ·obtain⟨s1,s2⟩:=Array.getElem?_eq_some_iff.mp e
   have hlt:SetTable.below xs j<xs.size:=by omega
   have h2:=b3 _ _ (Wak _) (Array.getElem?_eq_getElem hlt);have:=R (SetTable.below xs j) i _ a (by omega) (Array.getElem?_eq_getElem hlt) e;omega
 intro i k a b hik ha hb;rw[Zh2 _ _ _ b1]at ha hb;split at ha
 ·split at hb
  ·exact R i k a b hik ha hb
  ·split at hb
   ·cases hb;exact b2 i a (by omega) ha
   ·exact R i (k-1) a b (by omega) ha hb
 ·split at ha
  ·cases ha
   rw[if_neg (by omega),if_neg (by omega)]at hb;exact b4 (k-1) b (by omega) hb
  ·rw[if_neg (by omega),if_neg (by omega)]at hb
   exact R (i-1) (k-1) a b (by omega) ha hb
theorem Zpu:Ris #[]:=λi j a b _ e=>by simp at e
theorem Zmi (n:Nat):Ris (Array.range n):=λi j a b h e1 e2=>by
 simp[Array.getElem?_range]at e1 e2;omega
structure TabOk (led:Bool) (t:SetTable):Prop where
 led:t.led=led
 dum:t.dummies = #[]
 ris:Ris t.place
theorem TabOk.fresh (led:Bool):TabOk led (SetTable.fresh 0 0 led):=⟨rfl,rfl,Zpu⟩
theorem TabOk.standIn {led:Bool}{t:SetTable}(h:TabOk led t) (n:Nat):TabOk led (t.standIn n):=⟨h.led,rfl,Zmi n⟩
theorem Zmk (j:Nat):SetTable.has #[] j=false:=by unfold SetTable.has;simp
theorem Zes {t:SetTable}(hd:t.dummies = #[]) {hashAt:Nat->Int}{h:Int}:∀(fuel:Nat) (p:SetTable.Probe) {j:Nat}{dm:Option Nat},p.dummy=none->SetTable.probe.go t hashAt h fuel p=some (.empty j dm)->dm=none/\t.place[SetTable.below t.place j]?≠some j
 |0,_,_,_,_,e=>by cases e
 |fuel+1,p,j,dm,hp,e=>by
  unfold SetTable.probe.go at e;have adv:(t.advance p).dummy=none:=by unfold SetTable.advance;split <;> exact hp
  unfold SetTable.slot at e;dsimp only at e;by_cases hl:(t.place[SetTable.below t.place p.j]? == some p.j)=true
  ·rw[if_pos hl]at e
   dsimp only at e;split at e
   ·cases e
   ·exact Zes hd fuel _ adv e
  ·rw[if_neg hl,hd,Zmk]at e
   simp only[Wba,if_false]at e;injection e with e
   injection e with e1 e2
   subst e1 e2;exact⟨hp,λz=>hl (by rw[z];simp)⟩
theorem TabOk.put {led:Bool}{t:SetTable}(h:TabOk led t) {j:Nat}(hj:t.place[SetTable.below t.place j]?≠some j):TabOk led (t.put j).1:=by
 refine⟨h.led,?_,Zpk h.ris hj⟩;show (if SetTable.has t.dummies j=true then _ else t.dummies) = #[];rw[h.dum,Zmk];rfl
theorem TabOk.layNew {led:Bool}{t:SetTable}(h:TabOk led t) (es:Array (Int × Value)) (hs:Int) (x:Value):TabOk led (layNew t es hs x).2.1:=by
 unfold PySem.layNew;unfold SetTable.freeSlot;cases q:t.probe (λ_=>hs+1) hs (t.probeStart hs) with
 |none=>exact h.standIn _
 |some m=>
  cases m with
  |candidate j i p=>exact h.standIn _
  |empty j dm=>
   obtain⟨e1,e2⟩:=Zes h.dum _ (t.probeStart hs) rfl (show SetTable.probe.go t (λ_=>hs+1) hs (10*SetTable.turns t.mask) (t.probeStart hs)=some (.empty j dm) from q);subst e1;show TabOk led ((t.put j).1.orStandIn _);unfold SetTable.orStandIn;split
   ·exact h.put e2
   ·exact(h.put e2).standIn _
theorem Zoi (owner:Array (Option Nat)) (m:Nat):Ris ((((Wau m).filterMap λj=>(owner.getD j none).map (j,·)).map (·.1)).toArray):=by
 have pw:((Wau m).filterMap λj=>(owner.getD j none).map (j,·)).Pairwise (λa b=>a.1<b.1):=by
  rw[List.pairwise_filterMap];refine List.Pairwise.imp ?_ Wb9;intro a b hab c hc d hd;cases qa:owner.getD a none with
  |none=>rw[qa]at hc;cases hc
  |some k=>
   cases qb:owner.getD b none with
   |none=>rw[qb]at hd;cases hd
   |some l=>
    rw[qa]at hc;rw[qb]at hd;have hc:(a,k)=c:=by simpa using hc
    have hd:(b,l)=d:=by simpa using hd
    subst hc hd;exact hab
 intro i j a b hij ea eb;rw[Wcx,Wad]at ea eb;cases qa:((Wau m).filterMap λj=>(owner.getD j none).map (j,·))[i]? with
 |none=>rw[qa]at ea;cases ea
 |some c=>
  cases qb:((Wau m).filterMap λj=>(owner.getD j none).map (j,·))[j]? with
  |none=>rw[qb]at eb;cases eb
  |some d=>
   rw[qa]at ea;rw[qb]at eb;have ea:c.1=a:=by simpa using ea
   have eb:d.1=b:=by simpa using eb
   subst ea eb;obtain⟨i1,i2⟩:=Waf.mp qa;obtain⟨j1,j2⟩:=Waf.mp qb;have:=Wcn.mp pw i j i1 j1 hij;rw[i2,j2]at this;exact this
theorem TabOk.relay {led:Bool}{t:SetTable}(h:TabOk led t) (es:Array (Int × Value)) (wanted:Nat):TabOk led (relayAll t es wanted).2.1:=by
 unfold PySem.relayAll;cases q:t.relaid (es.map (·.1)) wanted with
 |none=>exact h.standIn _
 |some r=>
  obtain⟨t',order⟩:=r;dsimp only;split
  ·unfold SetTable.relaid SetTable.laid at q
   cases q2:SetTable.layClean (SetTable.sizeAbove wanted-1) (es.map (·.1)) with
   |none=>rw[q2]at q;cases q
   |some owner=>
    rw[q2]at q;have q:_=some (t',order):=q;have e:=congrArg Prod.fst (Wa7.inj q);dsimp only at e;rw[<- e];exact⟨h.led,rfl,Zoi owner _⟩
  ·exact h.standIn _
def numOf:Value->Int
 |.int i _=>i
 |_=>0
section
variable {prog:Program}{w:World}
def byTextB (w:World):Bool:=w.params.followText "set-order"
structure SetG (prog:Program) (w:World) (h:Heap) (a:Addr) (o:Obj) (es:Array (Int × Value)) (ep:Nat) (t:SetTable) (ks:List Int):Prop where
 get:h.get? a=some o
 ex:o.ExactSet
 dat:o.data=.set es ep t
 el:ElemsOf (intKind prog w) es.toList
 room:es.size<scanBound
 fit:t.fits es.size=true
 tab:TabOk (!byTextB w) t
 perm:(es.toList.map λe=>numOf e.2).Perm ks
 nd:ks.Nodup
def SetI (prog:Program) (w:World) (h:Heap) (a:Addr) (ks:List Int):Prop:=∃o es ep t,SetG prog w h a o es ep t ks
theorem SetI.keep {h h':Heap}{a:Addr}{ks:List Int}(x:SetI prog w h a ks) (k:∀o,h.get? a=some o->h'.get? a=some o):SetI prog w h' a ks:=by
 obtain⟨o,es,ep,t,g⟩:=x;exact⟨o,es,ep,t,k _ g.get,g.ex,g.dat,g.el,g.room,g.fit,g.tab,g.perm,g.nd⟩
theorem SetG.size {h:Heap}{a:Addr}{o:Obj}{es:Array (Int × Value)}{ep:Nat}{t:SetTable}{ks:List Int}(g:SetG prog w h a o es ep t ks):es.size=ks.length:=by
 have:=g.perm.length_eq;rw[Wab,Array.length_toList]at this;exact this
theorem Zhj {k:Int}{v:Value}(h:(intKind prog w).is k v=true):numOf v=k/\∃t,v=.int k t:=by
 obtain⟨t,rfl⟩:=Value.isInt_shape (show Value.isInt k v=true from h);exact⟨rfl,t,rfl⟩
theorem Zjq {es:List (Int × Value)}(h:ElemsOf (intKind prog w) es) {e:Int × Value}(he:e∈es):∃t,e.2=.int (numOf e.2) t:=by
 obtain⟨⟨k,hk,_⟩,_⟩:=h e he;obtain⟨h1,t,h2⟩:=Zhj hk;exact⟨t,by rw[h2];rfl⟩
theorem Zmz {es:List (Int × Value)}(h:ElemsOf (intKind prog w) es) {k:Int}:(∃e∈es,(intKind prog w).is k e.2=true)↔k∈es.map λe=>numOf e.2:=by
 rw[Wa9];constructor
 ·rintro⟨e,he,hp⟩;exact⟨e,he,(Zhj hp).1⟩
 ·rintro⟨e,he,rfl⟩
  obtain⟨t,ht⟩:=Zjq h he;exact⟨e,he,by rw[ht];exact intKind_is _ _ _ _⟩
section
variable {A:Around}{E:Value->Shared->Prop}{s:Shared}
theorem SetG.store {h:Heap}{a:Addr}{o:Obj}{es:Array (Int × Value)}{ep:Nat}{t:SetTable}{ks:List Int}(g:SetG prog w h a o es ep t ks) {es':Array (Int × Value)}{t':SetTable}{ks':List Int}
  (hel:ElemsOf (intKind prog w) es'.toList) (hb:es'.size<scanBound) (hf:t'.fits es'.size=true) (ht:TabOk (!byTextB w) t') (hp:(es'.toList.map λe=>numOf e.2).Perm ks') (hn:ks'.Nodup) :
  SetG prog w (h.update a (Obj.putSet es' t')) a { o with data:=.set es' (ep+1) t' } es' (ep+1) t' ks':=by
 have hg:(h.update a (Obj.putSet es' t')).get? a=some { o with data:=.set es' (ep+1) t' }:=by
  have:=Wcc (Obj.putSet es' t') g.get (by rw[putSet_of es' t' g.dat];rfl);rw[putSet_of es' t' g.dat]at this;exact this
 exact⟨hg,g.ex,rfl,hel,hb,hf,ht,hp,hn⟩
def addE (ks:List Int) (k:Int):List Int:=if k∈ks then ks else ks++[k]
theorem Znz {a:Addr}{ks:List Int}{k:Int}{tk:Tok}{Q:Bool->Shared->Prop}(hS:SetI prog w s.heap a ks) (hroom:ks.length+1<scanBound)
  (h:∀b h',Heap.SameBut a s.heap h' -> SetI prog w h' a (addE ks k)->Q b { s with heap:=h' }) :
  wpAny (model prog w) A (setAddHashed a (.int k tk) (hashInt k)) Q E s:=by
 obtain⟨o,es,ep,t,g⟩:=hS;have hsz:=g.size;have hkey:(intKind prog w).is k (.int k tk)=true:=intKind_is _ _ _ _;unfold setAddHashed setAddHashedIn;refine wpAny_holding (wpAny_bind (wpAny_setState_of g.get g.dat g.fit ?_));dsimp only;rw[byScan_of (knd:=intKind prog w) rfl g.room g.el];simp only[↓reduceIte];unfold setAddByScan;refine wpAny_bind ?_;refine wpAny_bind (wpAny_rule ?_);refine wpAny_bind (wpAny_setScan_of (knd:=intKind prog w) (k:=k) hkey g.get g.dat g.fit g.el ?_);cases hr:List.findIdx? (λe=>(intKind prog w).is k e.2) es.toList with
 |some j=>
  dsimp only;obtain⟨hj,hpj,_⟩:=List.findIdx?_eq_some_iff_getElem.mp hr;have hk:k∈ks:=g.perm.mem_iff.mp ((Zmz g.el).mp ⟨es.toList[j],Wa6 hj,hpj⟩);refine wpAny_pure (wpAny_pure ?_);have e:s = { s with heap:=s.heap }:=by cases s;rfl
  rw[e];refine h _ s.heap (Heap.SameBut.refl a s.heap) ?_;unfold addE;rw[if_pos hk];exact⟨o,es,ep,t,g⟩
 |none=>
  dsimp only;have hk:k ∉ ks:=λz=>by
   obtain⟨e,he,hp⟩:=(Zmz g.el).mpr (g.perm.mem_iff.mpr z);have:=List.findIdx?_eq_none_iff.mp hr e he;rw[hp]at this;cases this
  have hgw:∀(b:Bool) {s₁:Shared}{Q':Unit->Shared->Prop},Q' () s₁ -> wpAny (model prog w) A (match b with|true=>rule "set.scan.the-table-gave-way" |false=>pure ()) Q' E s₁:=
   λb s₁ Q' hq=>by cases b <;> first|exact wpAny_pure hq|exact wpAny_rule hq
  have hperm:=layNew_perm t es (hashInt k) (.int k tk);have hfits:=layNew_fits t es (hashInt k) (.int k tk);have htab:=g.tab.layNew es (hashInt k) (.int k tk);generalize hL:layNew t es (hashInt k) (.int k tk)=L at hperm hfits htab ⊢;obtain⟨es1,t1,wasDummy,gave⟩:=L;dsimp only at hperm hfits htab ⊢;rw[Array.toList_push]at hperm;have hel1:ElemsOf (intKind prog w) es1.toList:=(g.el.push (k:=k) hkey rfl).perm hperm;have hsz1:es1.size=es.size+1:=by rw[<- Array.length_toList,hperm.length_eq,Waw,Array.length_toList];rfl
  have hb1:es1.size<scanBound:=by omega
  have hp1:(es1.toList.map λe=>numOf e.2).Perm (ks++[k]):=by
   refine(hperm.map _).trans ?_;rw[Wa4];exact List.Perm.append_right _ g.perm
  have hnd1:(ks++[k]).Nodup:=by
   rw[Wda];refine⟨g.nd,by simp,λa ha b hb e=>?_⟩;rw[Wa3.mp hb]at e;exact hk (e ▸ ha)
  have eadd:addE ks k=ks++[k]:=by unfold addE;rw[if_neg hk]
  refine wpAny_bind (hgw _ ?_);have tail:∀(Q2:Option Bool->Shared->Prop),(∀h',Heap.SameBut a s.heap h' -> SetI prog w h' a (ks++[k])->Q2 (some true) { s with heap:=h' })->∀(g0:Bool->Sem Unit),(∀(b:Bool) (s₁:Shared) (Q':Unit->Shared->Prop),Q' () s₁ -> wpAny (model prog w) A (g0 b) Q' E s₁) →
    wpAny (model prog w) A (do
     storeSet a es1 t1
     if (!wasDummy && t1.tooFull)=true then do
       g0 (relayAll t1 es1 (SetTable.grown es1.size)).2.2
       storeSet a (relayAll t1 es1 (SetTable.grown es1.size)).1 (relayAll t1 es1 (SetTable.grown es1.size)).2.1
       pure (some true)
      else pure (some true)) Q2 E s:=by
   intro Q2 hq g0 hg0;refine wpAny_bind (wpAny_storeSet_of g.get g.dat ?_ (fits_of_scanBound hb1));have g1:=g.store (es':=es1) (t':=t1) hel1 hb1 hfits htab hp1 hnd1;have sb1:=Heap.SameBut.update s.heap a (Obj.putSet es1 t1);split
   ·have hp:=relayAll_perm t1 es1 (SetTable.grown es1.size)
    have hfr:=relayAll_fits t1 es1 (SetTable.grown es1.size);have htr:=htab.relay es1 (SetTable.grown es1.size);generalize hRl:relayAll t1 es1 (SetTable.grown es1.size)=Rl at hp hfr htr ⊢;obtain⟨es2,t3,gave2⟩:=Rl;dsimp only at hp hfr htr ⊢;have hsz2:es2.size=es1.size:=by rw[<- Array.length_toList,hp.length_eq,Array.length_toList]
    refine wpAny_bind (hg0 _ _ _ ?_);refine wpAny_bind (wpAny_storeSet_of g1.get rfl ?_ (fits_of_scanBound (by omega)));have g2:=g1.store (es':=es2) (t':=t3) (hel1.perm hp) (by omega) hfr htr ((hp.map _).trans hp1) hnd1;exact wpAny_pure (hq _ (sb1.trans (Heap.SameBut.update _ a _)) ⟨_,_,_,_,g2⟩)
   ·exact wpAny_pure (hq _ sb1 ⟨_,_,_,_,g1⟩)
  have hgv:∀(b:Bool) (s₁:Shared) (Q':Unit->Shared->Prop),Q' () s₁ -> wpAny (model prog w) A (match b with|true=>rule "set.scan.the-table-gave-way" |false=>pure ()) Q' E s₁:=λb s₁ Q' hq=>hgw b hq;split
  ·refine wpAny_bind ?_
   rw[hashByValue_scannable 8 (x:=.int k tk) rfl];refine wpAny_pure ?_;simp only[plainKind,if_true];exact tail _ (λh' sb hS'=>by dsimp only;exact wpAny_pure (h _ h' sb (by rw[eadd];exact hS'))) _ hgv
  ·refine wpAny_bind (wpAny_pure ?_)
   simp only[↓reduceIte];exact tail _ (λh' sb hS'=>by dsimp only;exact wpAny_pure (h _ h' sb (by rw[eadd];exact hS'))) _ hgv
end
end
def metK (val:Nat->Int):Nat->List Int
 |0=>[]
 |i+1=>addE (metK val i) (val i)
theorem Zi9 (val:Nat->Int) (i:Nat):(metK val i).length<=i:=by
 induction i with
 |zero=>exact Wak _
 |succ i ih=>
  show (addE (metK val i) (val i)).length<=i+1;unfold addE;split
  ·omega
  ·rw[Waw,Wby];omega
theorem Zop {val:Nat->Int}{i:Nat}{x:Int}:x∈metK val i ↔ ∃j,j<i/\val j=x:=by
 induction i with
 |zero=>simp[metK]
 |succ i ih=>
  show x∈addE (metK val i) (val i)↔_;unfold addE;constructor
  ·intro h
   split at h
   ·obtain⟨j,hj,e⟩:=ih.mp h;exact⟨j,by omega,e⟩
   ·rcases Wbr.mp h with h|h
    ·obtain⟨j,hj,e⟩:=ih.mp h;exact⟨j,by omega,e⟩
    ·exact⟨i,by omega,(Wa3.mp h).symm⟩
  ·rintro⟨j,hj,rfl⟩
   by_cases hji:j=i
   ·subst hji
    split
    ·assumption
    ·exact Waz _ (by simp)
   ·have:=ih.mpr ⟨j,by omega,rfl⟩
    split
    ·exact this
    ·exact Wcm _ this
section
variable {prog:Program}{w:World}{A:Around}{R:Result->Shared->Prop}{I:Addr}{fp wr:List Addr}{G:Array GenState->Array GenState->Prop}{n:Nat}{P:Nat->Value->Prop}{St:Nat->Shared->Prop}
theorem Zix (W:WalksS prog w A.in1 I fp wr G n P St) (S:Addr) (hSf:S ∉ fp)
  (val:Nat->Int) (hval:∀i v,P i v->∃t,v=.int (val i) t) (hb:n+1<scanBound) :
  ∀(k i:Nat) (s:Shared),n-i=k->i<=n->St i s->SetI prog w s.heap S (metK val i) →
   (∀s',Moved (S::wr) G s s' -> SetI prog w s'.heap S (metK val n)->R (.ok (.ret .none)) s') →
   codeAny (model prog w) A (.builtin "set.update.loop" ⟨[.ref S,.ref I],[]⟩) R s:=by
 have hSw:S ∉ wr:=λh=>hSf (W.sub _ h);have hsub:∀b∈wr,b∈S::wr:=λb hb=>Wav _ hb;intro k
 induction k with
 |zero=>
  intro i s hk hi hst hS hR;have hin:i=n:=by omega
  subst hin;refine codeAny_builtin F.entry_set_update_loop ?_;rw[Around.under_plainId F.plain_set_update_loop _];show wpAny _ A.in1 (pyNext (.ref I) >>= _) _ _ s;refine wpAny_bind (W.done s _ _ hst λs' hm=>?_);show wpAny _ A.in1 (ret Value.none) _ _ s';exact wpAny_pure (hR s' (hm.mono hsub) (hS.keep λo e=>hm.heap S o hSw e))
 |succ k ih=>
  intro i s hk hi hst hS hR;have hlt:i<n:=by omega
  refine codeAny_builtin F.entry_set_update_loop ?_;rw[Around.under_plainId F.plain_set_update_loop _];show wpAny _ A.in1 (pyNext (.ref I) >>= _) _ _ s;refine wpAny_bind (W.item i s _ _ hlt hst λv s' hP hst' hm=>?_);obtain⟨t,rfl⟩:=hval i v hP;have hS':SetI prog w s'.heap S (metK val i):=hS.keep λo e=>hm.heap S o hSw e;show wpAny _ A.in1 (holding [Value.int (val i) t] (setAdd S (.int (val i) t)) >>= _) _ _ s';refine wpAny_bind (wpAny_holding ?_);unfold setAdd;refine wpAny_holding ?_;refine wpAny_bind ((intKind prog w).pyHash (k:=val i) (intKind_is _ _ _ _) ?_);have hroom:(metK val i).length+1<scanBound:=by have:=Zi9 val i;omega
  refine Znz (s:={ s' with toks:=s'.toks+1 }) hS' hroom λb h' hsb hS2=>?_;refine wpAny_pure ⟨plainId_quiet F.plain_set_update_loop _,ih (i+1) _ (by omega) hlt (W.frame _ s' _ _ hst' (Wcf _) λb hb o e=>?_) hS2 λs'' hm'' hS''=>?_⟩
  ·rw[hsb.2 b (λh:b=S=>hSf (by rw[<- h];exact hb))];exact e
  ·refine hR s'' (Moved.trans W.gtrans ((hm.mono hsub).then_heap (Wcf _) λb o hb e=>?_) hm'') hS''
   rw[hsb.2 b (λh:b=S=>hb (by rw[h];exact Way))];exact e
end
section
variable {prog:Program}{w:World}{A:Around}{E:Value->Shared->Prop}{s:Shared}
abbrev set0 (w:World):Obj:={ cls:=.type "set",dict:=none,data:=.set #[] 0 (.fresh 0 0 (!byTextB w)) }
theorem Zof (x:Value) {N:Value->Shared->Prop}(h:N (.ref s.heap.objs.size) { s with heap:=s.heap.push (set0 w) }) :
  codeAny (model prog w) A (.call (.builtin "set.__new__") ⟨[.type "set",x],[]⟩) (wants N E) s:=
 codeAny_of_tree (by
  have su:=sub_set_self;obtain⟨hp,g,d,tk,os⟩:=s;refine wpAny_bind (m:=checkBuiltinCall "set.__new__" ⟨[.type "set",x],[]⟩) (wpAny_of_eq (F.newCall_set_1 x) (wpAny_pure ⟨plainId_quiet F.plain_set_new _,codeAny_builtin F.entry_set_new ?_⟩));rw[Around.under_plainId F.plain_set_new _];unfold Builtin.«set.__new__» Builtin.Frozenset.newClass
  wp_walk
  refine wpAny_askSetting (wpAny_pure ?_);simp only[newObj];exact wpAny_bind (wpAny_alloc (wpAny_pure (wpAny_pure h))))
theorem Zm7 {S l:Addr}{its:Array Value}{ns:List Int}{N:Result->Shared->Prop}(hh:A.handled=none) (hS:s.heap.get? S=some (set0 w)) (hl:s.heap.IsList l its) (hi:IntsAre its.toList ns) (hb:its.size+1<scanBound)
  (q:∀h' tk,SetI prog w h' S (metK (λi=>ns.getD i 0) its.size)->(∀b o,b≠S->s.heap.get? b=some o->h'.get? b=some o)->N (.ok (.ret .none)) { s with heap:=h',toks:=tk }) :
  wpAny (model prog w) A.in1 (Builtin.«set.__init__» ⟨[.ref S,.ref l],[]⟩) (λfin s'=>match fin with|.done f=>N (.ok f) s'|.again c=>c.quiet=true/\codeAny (model prog w) A c N s') (λe s'=>N (.error e) s') s:=by
 have lS:l≠S:=by
  obtain⟨o,e,c,_⟩:=hl;intro z;subst z;rw[hS]at e;cases e;exact absurd (show Value.type "set" = Value.type "list" from c) (by decide)
 have lt:l<s.heap.objs.size:=by obtain⟨o,e,_⟩:=hl;exact Wam e
 have ltS:S<s.heap.objs.size:=Wam hS;obtain⟨⟨c0,d0,dt0,sl0⟩,e0,hc0,n0,hd0⟩:=id hl;simp only at hc0 hd0;subst hc0 hd0;have hT:s.TypeIs (.ref S) "set":=⟨_,hS,rfl⟩;have k1:=F.sub_list_set;have k2:=F.sub_list_frozenset;have k3:(Value.type "list" == Value.type "dict")=false:=by decide
 unfold Builtin.«set.__init__» noKeywords Builtin.Frozenset.updateFrom;generalize hPI:pyIter=PI
 wp_walk
 subst hPI;refine wpAny_pyIter_list hl (wpAny_bind (wpAny_runValue ?_));have ne1:l≠s.heap.objs.size:=Was lt;have ne2:S ∉ [s.heap.objs.size,l]:=by
  simp only[Wat,Wco,or_false,not_or];exact⟨Was ltS,Ne.symm lS⟩
 refine Zix (Walks.list (by simp[hh]) _ l ne1 its).toS S ne2 (λi=>ns.getD i 0) (λi v e=>IntsAre.int_at hi i v (by rw[Array.getElem?_toList];exact e)) hb its.size 0 _ (by omega) (Wbx _) ⟨⟨_,Waq _ rfl,rfl,rfl⟩,hl.push _⟩ ?_ λs2 mv fin=>?_
 ·exact⟨_,#[],0,_,Wae _ hS,⟨rfl,rfl,rfl⟩,rfl,λe he=>by simp at he,by decide,by rfl,TabOk.fresh _,List.Perm.refl _,List.nodup_nil⟩
 ·rw[Moved.eq_with mv]
  refine wpAny_pure (wpAny_pure (q _ _ fin λb o hb e=>mv.heap b o ?_ (Wae _ e)));simp only[Wat,Wco,or_false,not_or];exact⟨hb,Was (Wam e)⟩
set_option maxHeartbeats 3200000 in
theorem Zky {l:Addr}{its:Array Value}{ns:List Int}{Q:Value->Shared->Prop}(hh:A.handled=none) (hl:s.heap.IsList l its) (hi:IntsAre its.toList ns) (hb:its.size+1<scanBound)
  (q:∀(h':Heap) (tk:Nat),SetI prog w h' s.heap.objs.size (metK (λi=>ns.getD i 0) its.size)->(∀b o,s.heap.get? b=some o->h'.get? b=some o)->Q (.ref s.heap.objs.size) { s with heap:=h',toks:=tk }) :
  wpAny (model prog w) A (call (.type "set") [.ref l]) Q E s:=by
 have ft:=F.called_set;obtain⟨c,tl,e1⟩:=ft.mro;have e2:=ft.made;have e3:=ft.sub;have e4:=ft.notType;have e5:=ft.canCreate;have e6:=F.typeCall_set_1 (.ref l);refine wpAny_call (codeAny_of_tree (show wpAny _ _ (callAny (.type "set") _) _ _ _ from wpAny_pure ⟨Code.quiet_builtin _ (by decide +kernel),codeAny_builtin F.entry_type_call ?_⟩));rw[Around.under_plain (weight_type_call_type _ _ _) rfl]
 repeat (any_goals (first|assumption|wp_step))
 refine codeAny_mono (Zof (.ref l) (E:=E) (N:=λv s1=>v=.ref s.heap.objs.size/\s1 = { s with heap:=s.heap.push (set0 w) }) ⟨rfl,rfl⟩) λr s1 hr=>?_;cases r with
 |error e=>exact hr
 |ok fl=>
  cases fl with
  |ret v=>
   obtain⟨rfl,rfl⟩:=hr;have hS:(s.heap.push (set0 w)).get? s.heap.objs.size=some (set0 w):=Waq _ rfl;have hT:Shared.TypeIs { s with heap:=s.heap.push (set0 w) } (.ref s.heap.objs.size) "set":=⟨_,hS,rfl⟩;have f1:=ft.init.lookup;have f2:=ft.init.bind (.ref s.heap.objs.size)
   repeat (any_goals (first|assumption|wp_step))
   refine codeAny_mono (codeAny_call_builtin (R:=wants (λr s2=>r=.none/\Q (.ref s.heap.objs.size) s2) E) ft.init.plain F.entry_set_init (check_set_init_1 hT (Zm7 (by simp[hh]) hS (hl.push _) hi hb λh' tk z1 z2=>⟨rfl,q h' tk z1 λb o e=>z2 b o (Was (Wam e)) (Wae _ e)⟩))) λr2 s2 hr2=>?_;cases r2 with
   |error e=>exact hr2
   |ok fl2=>
    cases fl2 with
    |ret r=>
     obtain⟨rfl,hq⟩:=hr2
     repeat (any_goals (first|assumption|wp_step))
    |_=>exact hr2.elim
  |_=>exact hr.elim
end
end L2
namespace L2
open PySem PySem.Spec PyProof.Rows PySem.SeqAt
theorem Zao:PySem.Slot "set_iterator" "__next__" "set_iterator.__next__":=
 .of (owner:="set_iterator") (n:="__next__") (by rw[typeLookup_type,builtinLookup_eq_fast];kernel_rfl) (by decide +kernel) (by decide +kernel) (by decide +kernel)
  (by first|exact .inl (by decide +kernel)|exact .inr (by decide +kernel)) (by rw[isSubtype_type];kernel_rfl)
theorem Zbn:entryFor table "set_iterator.__next__" = some Builtin.«set_iterator.__next__»:=entryFor_of_tree (by kernel_rfl)
theorem Zfm:entryFor table "set.__iter__" = some Builtin.«frozenset.__iter__»:=entryFor_alias (id':="frozenset.__iter__") (by kernel_rfl) rfl (by decide +kernel) (by kernel_rfl)
theorem Zbq (a:Value):argsOk "set_iterator.__next__" ⟨[a],[]⟩:=by
 unfold argsOk;kernel_rfl
abbrev setItO (first:Value) (i:Nat) (a:Addr) (n ep:Nat):Obj:={ cls:=.type "set_iterator",dict:=none,data:=.fields #[first,.int i 0,.ref a,.int n 0,.int ep 0],slots:=#[] }
section
variable {prog:Program}{w:World}{A:Around}{E:Value->Shared->Prop}{s:Shared}
theorem Zkg {I a:Addr}{slot i next:Nat}{x:Value}{o:Obj}{es:Array (Int × Value)}{ep:Nat}{t:SetTable}{ks:List Int}{Q:Option Value->Shared->Prop}(hI:s.heap.get? I=some (setItO (.int slot 0) i a es.size ep)) (g:SetG prog w s.heap a o es ep t ks)
  (hn:∀(A:Around) (E:Value->Shared->Prop) (Q':Option (Value × Nat)->Shared->Prop),Q' (some (x,next)) s->wpAny (model prog w) A (setNext a slot i ep) Q' E s)
  (q:∀h',h'.get? I=some (setItO (.int next 0) (i+1) a es.size ep)->Heap.SameBut I s.heap h' -> Q (some x) { s with heap:=h' }):wpAny (model prog w) A (pyNext (.ref I)) Q E s:=by
 have hT:s.TypeIs (.ref I) "set_iterator":=⟨_,hI,rfl⟩;unfold pyNext;refine wpAny_bind (wpAny_attempt (wpAny_callSpecial?_slot (name:=Str.ofString "__next__") hT Zao (wpAny_call_entry Zao hT Zbn ?_ (Zbq _))));refine wpAny_bind (wpAny_pure ?_);refine wpAny_bind (wpAny_fieldsOf hI rfl ?_);refine wpAny_bind (wpAny_setEntries_of g.get g.dat g.fit ?_);rw[if_neg (by simp)];refine wpAny_bind (hn _ _ _ ?_);refine wpAny_bind (wpAny_setField_rec hI (by simp) λh1 e1 sb1=>?_);refine wpAny_bind (wpAny_setField_rec (s:={ s with heap:=h1 }) e1 (by simp) λh2 e2 sb2=>?_);exact wpAny_pure ⟨_,rfl,wpAny_pure (q h2 (by rw[e2];rfl) (sb1.trans sb2))⟩
theorem Zj5 {I a:Addr}{slot i:Nat}{o:Obj}{es:Array (Int × Value)}{ep:Nat}{t:SetTable}{ks:List Int}{Q:Option Value->Shared->Prop}(hh:A.handled=none) (hI:s.heap.get? I=some (setItO (.int slot 0) i a es.size ep)) (g:SetG prog w s.heap a o es ep t ks)
  (hn:∀(A:Around) (E:Value->Shared->Prop) (Q':Option (Value × Nat)->Shared->Prop),Q' none s->wpAny (model prog w) A (setNext a slot i ep) Q' E s)
  (q:∀h',Heap.ExtBut I s.heap h' -> Q none { s with heap:=h' }):wpAny (model prog w) A (pyNext (.ref I)) Q E s:=by
 have hT:s.TypeIs (.ref I) "set_iterator":=⟨_,hI,rfl⟩;unfold pyNext;refine wpAny_bind (wpAny_attempt (wpAny_callSpecial?_slot (name:=Str.ofString "__next__") hT Zao (wpAny_call_entry Zao hT Zbn ?_ (Zbq _))));refine wpAny_bind (wpAny_pure ?_);refine wpAny_bind (wpAny_fieldsOf hI rfl ?_);refine wpAny_bind (wpAny_setEntries_of g.get g.dat g.fit ?_);rw[if_neg (by simp)];refine wpAny_bind (hn _ _ _ ?_);refine wpAny_bind (wpAny_setField_rec hI (by simp) λh1 e1 sb1=>wpAny_bind ?_);simp only[newExc,newTuple];refine wpAny_bind (wpAny_newObj_type ?_ (by size_fits));refine wpAny_bind (m:=firstArgMember _ _) (wpAny_of_eq (a:=Value.none) (by first|rfl|(simp only[firstArgMember];rfl)) ?_);refine wpAny_newObj_type ?_ (by size_fits);simp only[raiseNew];refine wpAny_bind (wpAny_handled ?_);rw[show A.in1.handled=none from hh];refine wpAny_bind (wpAny_pure (wpAny_throw ?_));refine wpAny_bind (wpAny_isInstance (T:="StopIteration") (b:=true) ⟨_,Waq _ rfl,rfl⟩ isSubtype_stop ?_);exact wpAny_pure (q _ ((sb1.extBut.push _).push _))
theorem Zig {I a T:Addr}{i k:Nat}{e:Int × Value}{o:Obj}{es:Array (Int × Value)}{ep:Nat}{t:SetTable}{ks:List Int}{pl:List Nat}{Q:Option Value->Shared->Prop}(hI:s.heap.get? I=some (setItO (.ref T) i a es.size ep)) (g:SetG prog w s.heap a o es ep t ks)
  (hT:s.heap.get? T=some { cls:=.type "tuple",data:=.seq (pl.map λj:Nat=>rawInt (j:Int)).toArray }) (hk:pl[i]?=some k) (he:es[k]?=some e)
  (q:∀h',h'.get? I=some (setItO (.ref T) (i+1) a es.size ep)->Heap.SameBut I s.heap h' -> Q (some e.2) { s with heap:=h' }):wpAny (model prog w) A (pyNext (.ref I)) Q E s:=by
 have hTy:s.TypeIs (.ref I) "set_iterator":=⟨_,hI,rfl⟩;unfold pyNext;refine wpAny_bind (wpAny_attempt (wpAny_callSpecial?_slot (name:=Str.ofString "__next__") hTy Zao (wpAny_call_entry Zao hTy Zbn ?_ (Zbq _))));refine wpAny_bind (wpAny_pure ?_);refine wpAny_bind (wpAny_fieldsOf hI rfl ?_);refine wpAny_bind (wpAny_setEntries_of g.get g.dat g.fit ?_);rw[if_neg (by simp)];refine wpAny_bind (wpAny_seqItems hT rfl ?_);have e1:(pl.map λj:Nat=>rawInt (j:Int)).toArray[(i:Int).toNat]?=some (.int (k:Int) 0):=by
  rw[Wah,Wcx,Wad,hk];rfl
 dsimp only;rw[e1];dsimp only;unfold setNextDrawn;refine wpAny_bind (wpAny_bind (wpAny_setState_of g.get g.dat g.fit ?_));dsimp only;rw[if_neg (by simp)];rw[show es[(k:Int).toNat]?=some e from by rw[Wah];exact he];obtain⟨e1,e2⟩:=e;refine wpAny_pure ?_;refine wpAny_bind (wpAny_setField_rec hI (by simp) λh2 e2' sb2=>?_);exact wpAny_pure ⟨_,rfl,wpAny_pure (q h2 (by rw[e2'];rfl) sb2)⟩
theorem Zfo {I a T:Addr}{i:Nat}{o:Obj}{es:Array (Int × Value)}{ep:Nat}{t:SetTable}{ks:List Int}{pl:List Nat}{Q:Option Value->Shared->Prop}(hh:A.handled=none) (hI:s.heap.get? I=some (setItO (.ref T) i a es.size ep)) (g:SetG prog w s.heap a o es ep t ks)
  (hT:s.heap.get? T=some { cls:=.type "tuple",data:=.seq (pl.map λj:Nat=>rawInt (j:Int)).toArray }) (hk:pl[i]?=none)
  (q:∀h',Heap.ExtBut I s.heap h' -> Q none { s with heap:=h' }):wpAny (model prog w) A (pyNext (.ref I)) Q E s:=by
 have hTy:s.TypeIs (.ref I) "set_iterator":=⟨_,hI,rfl⟩;unfold pyNext;refine wpAny_bind (wpAny_attempt (wpAny_callSpecial?_slot (name:=Str.ofString "__next__") hTy Zao (wpAny_call_entry Zao hTy Zbn ?_ (Zbq _))));refine wpAny_bind (wpAny_pure ?_);refine wpAny_bind (wpAny_fieldsOf hI rfl ?_);refine wpAny_bind (wpAny_setEntries_of g.get g.dat g.fit ?_);rw[if_neg (by simp)];refine wpAny_bind (wpAny_seqItems hT rfl ?_);have e1:(pl.map λj:Nat=>rawInt (j:Int)).toArray[(i:Int).toNat]?=none:=by
  rw[Wah,Wcx,Wad,hk];rfl
 dsimp only;rw[e1];dsimp only;refine wpAny_bind (wpAny_setField_rec hI (by simp) λh1 e1 sb1=>?_);refine wpAny_bind (wpAny_setField_rec (s:={ s with heap:=h1 }) e1 (by simp) λh2 e2 sb2=>wpAny_bind ?_);simp only[newExc,newTuple];refine wpAny_bind (wpAny_newObj_type ?_ (by size_fits));refine wpAny_bind (m:=firstArgMember _ _) (wpAny_of_eq (a:=Value.none) (by first|rfl|(simp only[firstArgMember];rfl)) ?_);refine wpAny_newObj_type ?_ (by size_fits);simp only[raiseNew];refine wpAny_bind (wpAny_handled ?_);rw[show A.in1.handled=none from hh];refine wpAny_bind (wpAny_pure (wpAny_throw ?_));refine wpAny_bind (wpAny_isInstance (T:="StopIteration") (b:=true) ⟨_,Waq _ rfl,rfl⟩ isSubtype_stop ?_);exact wpAny_pure (q _ (((sb1.trans sb2).extBut.push _).push _))
theorem Zfr (a:Addr) (slot given ep:Nat):setNext a slot given ep=(do
  let (es,epoch,t) ← setState a
  if ← setsByText then
   if epoch != ep then unsupported "set_iterator.__next__:elements-changed"
   return ((← setWalk a)[given]?).map λe=>(e.2,slot)
  if !t.plain && es.size > 1 then unsupported "set_iterator.__next__:the-table-is-plain-no-more"
  let _ ← (if !t.led && !es.isEmpty then unsupported "set:maker-not-led" else pure ():Sem Unit)
  let i:=SetTable.below t.place slot
  return match es[i]?,t.place[i]? with
   |some (_,x),some j=>some (x,j+1)
   |_,_=>none):=rfl
theorem Zj8 (a:Addr):setWalk a=(do
  let (es,epoch,t) ← setState a
  if ← setsByText then return pickOrder ((← ask).params.setOrder a epoch) es
  if !t.plain && es.size > 1 then return (← drawOrder es.size es.toList).toArray
  let _ ← (if !t.led && es.size > 1 then unsupported "set:maker-not-led" else pure ():Sem Unit)
  return es):=rfl
theorem Zin (a:Addr):setDrawn a=(do
  let (es,_,t) ← setState a
  let byText ← setsByText
  return !byText && (!t.plain && es.size > 1)):=rfl
end
end L2
namespace L2
open PySem PySem.Spec PyProof.Rows PySem.SeqAt
theorem Zc2:PySem.Slot "set_iterator" "__iter__" "set_iterator.__iter__":=
 .of (owner:="set_iterator") (n:="__iter__") (by rw[typeLookup_type,builtinLookup_eq_fast];kernel_rfl) (by decide +kernel) (by decide +kernel) (by decide +kernel)
  (by first|exact .inl (by decide +kernel)|exact .inr (by decide +kernel)) (by rw[isSubtype_type];kernel_rfl)
theorem Zel:entryFor table "set_iterator.__iter__" = some Builtin.«dict_keyiterator.__iter__»:=entryFor_alias (id':="dict_keyiterator.__iter__") (by kernel_rfl) rfl (by decide +kernel) (by kernel_rfl)
theorem Ze5 (a:Value):argsOk "set_iterator.__iter__" ⟨[a],[]⟩:=by unfold argsOk;kernel_rfl
section
variable {prog:Program}{w:World}{A:Around}{E:Value->Shared->Prop}{s:Shared}
theorem Zfx {I:Addr}{first:Value}{i n ep:Nat}{a:Addr}{Q:Value->Shared->Prop}(hI:s.heap.get? I=some (setItO first i a n ep)) (q:Q (.ref I) s):wpAny (model prog w) A (pyIter (.ref I)) Q E s:=by
 have hT:s.TypeIs (.ref I) "set_iterator":=⟨_,hI,rfl⟩;refine wpAny_pyIter_slot hT Zc2 (wpAny_call_entry Zc2 hT Zel ?_ (Ze5 _));show wpAny _ _ (ret (.ref I)) _ _ s;exact wpAny_pure ⟨_,rfl,"set_iterator",_,hT,Zao.lookup,q⟩
theorem Zdz {Q:Bool->Shared->Prop}(q:Q (byTextB w) s):wpAny (model prog w) A setsByText Q E s:=by
 unfold setsByText;exact wpAny_bind (wpAny_askSetting (wpAny_pure q))
theorem Zhu {a:Addr}{slot given ep:Nat}{o:Obj}{es:Array (Int × Value)}{t:SetTable}{ks:List Int}{Q:Option (Value × Nat)->Shared->Prop}(hb:byTextB w=true) (g:SetG prog w s.heap a o es ep t ks)
  (q:Q (((pickOrder (w.params.setOrder a ep) es)[given]?).map λe=>(e.2,slot)) s):wpAny (model prog w) A (setNext a slot given ep) Q E s:=by
 rw[Zfr];refine wpAny_bind (wpAny_setState_of g.get g.dat g.fit (wpAny_bind (Zdz ?_)));rw[hb];simp only[if_true];rw[if_neg (by simp),Zj8];refine wpAny_bind (wpAny_bind (wpAny_setState_of g.get g.dat g.fit (wpAny_bind (Zdz ?_))));rw[hb];simp only[if_true];exact wpAny_bind (wpAny_askSetting (wpAny_pure (wpAny_pure q)))
theorem Zfp {a:Addr}{slot given ep:Nat}{o:Obj}{es:Array (Int × Value)}{t:SetTable}{ks:List Int}{Q:Option (Value × Nat)->Shared->Prop}(hb:byTextB w=false) (g:SetG prog w s.heap a o es ep t ks) (hd:(!t.plain && decide (es.size > 1))=false)
  (q:Q (match es[SetTable.below t.place slot]?,t.place[SetTable.below t.place slot]? with|some (_,x),some j=>some (x,j+1)|_,_=>none) s):wpAny (model prog w) A (setNext a slot given ep) Q E s:=by
 have hl:t.led=true:=by rw[g.tab.led,hb];rfl
 rw[Zfr];refine wpAny_bind (wpAny_setState_of g.get g.dat g.fit (wpAny_bind (Zdz ?_)));rw[hb];simp only[Wba,if_false,hd,hl,Bool.not_true,Wdm];exact wpAny_bind (wpAny_pure (wpAny_pure q))
theorem Zee {α:Type}:∀{l:List α}{i:Nat}(h:i<l.length),(l[i]::l.eraseIdx i).Perm l
 |x::l,0,_=>List.Perm.refl _
 |x::l,i+1,h=>by
  have h':i<l.length:=by simpa using h
  show (l[i]::x::l.eraseIdx i).Perm (x::l);exact(List.Perm.swap _ _ _).trans (List.Perm.cons _ (Zee h'))
theorem Zk8 {α:Type}(next:Nat->Nat):∀(fuel k:Nat) (left:List α) (out:Array α),left.length=fuel->(pickOrder.go next fuel k left out).toList.Perm (out.toList++left)
 |0,k,left,out,h=>by
  have:left=[]:=Wbp h;subst this;unfold pickOrder.go;rw[Wbf]
 |fuel+1,k,left,out,h=>by
  unfold pickOrder.go;have hi:next k % left.length<left.length:=Wdw _ (by omega)
  rw[Waa hi];dsimp only;refine(Zk8 next fuel (k+1) _ _ (by rw[List.length_eraseIdx_of_lt hi];omega)).trans ?_;rw[Array.toList_push,Wb7];refine List.Perm.append_left _ ?_;exact Zee hi
theorem Zl8 {α:Type}(next:Nat->Nat) (xs:Array α):(pickOrder next xs).toList.Perm xs.toList:=by
 unfold pickOrder;exact Zk8 next xs.size 0 xs.toList #[] (by simp)
def slotAt (pl:Array Nat):Nat->Nat
 |0=>0
 |j+1=>pl.getD j 0+1
theorem Zek {pl:Array Nat}(R:Ris pl) {j:Nat}(hj:j<=pl.size):SetTable.below pl (slotAt pl j)=j:=by
 obtain⟨b1,b2,b3⟩:=Zfz R (slotAt pl j);cases j with
 |zero=>
  apply Classical.byContradiction;intro h;have hlt:0<pl.size:=by omega
  have:=b2 0 _ (by omega) (Array.getElem?_eq_getElem hlt);exact absurd this (by show ¬ _<0;omega)
 |succ j=>
  have hlt:j<pl.size:=by omega
  have hg:pl.getD j 0=pl[j]:=by simp[Array.getD,hlt]
  have es:slotAt pl (j+1)=pl[j]+1:=by show pl.getD j 0+1=_;rw[hg]
  rw[es]at b1 b2 b3 ⊢;rcases Nat.lt_trichotomy (SetTable.below pl (pl[j]+1)) (j+1) with z|z|z
  ·have:=b3 j _ (by omega) (Array.getElem?_eq_getElem hlt)
   omega
  ·exact z
  ·have hlt2:j+1<pl.size:=by omega
   have h1:=b2 (j+1) _ z (Array.getElem?_eq_getElem hlt2);have h2:=R j (j+1) _ _ (by omega) (Array.getElem?_eq_getElem hlt) (Array.getElem?_eq_getElem hlt2);omega
theorem SetG.keep {h h':Heap}{a:Addr}{o:Obj}{es:Array (Int × Value)}{ep:Nat}{t:SetTable}{ks:List Int}(g:SetG prog w h a o es ep t ks) (k:∀o,h.get? a=some o->h'.get? a=some o):SetG prog w h' a o es ep t ks:=
 ⟨k _ g.get,g.ex,g.dat,g.el,g.room,g.fit,g.tab,g.perm,g.nd⟩
theorem Zf4 (hh:A.handled=none) {I a:Addr}(hne:a≠I) {o:Obj}{es:Array (Int × Value)}{ep:Nat}{t:SetTable}{ks:List Int}(sl:Nat->Nat) (L:List (Int × Value))
  (hs:∀(s:Shared) j e,SetG prog w s.heap a o es ep t ks->L[j]?=some e->∀(A:Around) (E:Value->Shared->Prop) (Q':Option (Value × Nat)->Shared->Prop),Q' (some (e.2,sl (j+1))) s->wpAny (model prog w) A (setNext a (sl j) j ep) Q' E s)
  (hd:∀(s:Shared),SetG prog w s.heap a o es ep t ks->∀(A:Around) (E:Value->Shared->Prop) (Q':Option (Value × Nat)->Shared->Prop),Q' none s->wpAny (model prog w) A (setNext a (sl L.length) L.length ep) Q' E s) :
  Walks prog w A I [I,a] [I] L.length (λj v=>∃e,L[j]?=some e/\v=e.2) (λj h=>h.get? I=some (setItO (.int (sl j) 0) j a es.size ep)/\SetG prog w h a o es ep t ks) where
 sub:=λb hb=>by simp at hb;simp[hb]
 frame:=λ_ _ _ st hk=>⟨hk I (by simp) _ st.1,st.2.keep λo e=>hk a (by simp) o e⟩
 item:=λi s Q E hi st hQ=>by
  refine Zkg st.1 st.2 (hs s i _ st.2 (Waa hi)) λh' e sb=>?_;refine hQ _ h' s.toks ⟨_,Waa hi,rfl⟩ ⟨e,st.2.keep λo q=>(sb.2 a hne).trans q⟩ λb o hb q=>(sb.2 b (λz=>hb (by simp[z]))).trans q
 done:=λs Q E st hQ=>Zj5 hh st.1 st.2 (hd s st.2) λh' eb=>hQ h' s.toks λb o hb e=>eb b o (λz=>hb (by simp[z])) e
 self:=λ_ _ _ _ st hQ=>Zfx st.1 hQ
theorem Zih (hh:A.handled=none) {I a T:Addr}(hne:a≠I) (hnt:T≠I) {o:Obj}{es:Array (Int × Value)}{ep:Nat}{t:SetTable}{ks:List Int}(pl:List Nat) (L:List (Int × Value)) (hl:L.length=pl.length) (hs:∀(j k:Nat) e,pl[j]?=some k->L[j]?=some e->es[k]?=some e) :
  Walks prog w A I [I,a,T] [I] L.length (λj v=>∃e,L[j]?=some e/\v=e.2) (λj h=>h.get? I=some (setItO (.ref T) j a es.size ep)/\SetG prog w h a o es ep t ks/\h.get? T=some { cls:=.type "tuple",data:=.seq (pl.map λj:Nat=>rawInt (j:Int)).toArray }) where
 sub:=λb hb=>by simp at hb;simp[hb]
 frame:=λ_ _ _ st hk=>⟨hk I (by simp) _ st.1,st.2.1.keep λo e=>hk a (by simp) o e,hk T (by simp) _ st.2.2⟩
 item:=λi s Q E hi st hQ=>by
  have hp:i<pl.length:=by omega
  refine Zig st.1 st.2.1 st.2.2 (Waa hp) (hs i _ _ (Waa hp) (Waa hi)) λh' e sb=>?_;refine hQ _ h' s.toks ⟨_,Waa hi,rfl⟩ ⟨e,st.2.1.keep λo q=>(sb.2 a hne).trans q,(sb.2 T hnt).trans st.2.2⟩ λb o hb q=>(sb.2 b (λz=>hb (by simp[z]))).trans q
 done:=λs Q E st hQ=>Zfo hh st.1 st.2.1 st.2.2 (Wcy (by omega)) λh' eb=>hQ h' s.toks λb o hb e=>eb b o (λz=>hb (by simp[z])) e
 self:=λ_ _ _ _ st hQ=>Zfx st.1 hQ
theorem Zks {src:Source}{n:Nat}{Q:Nat->Shared->Prop}(hn:n≠0) (q:∀k dr,k<n->Q k { s with drawn:=dr }):wpAny (model prog w) A (choose src n) Q E s:=by
 intro Γ p _;unfold choose;rw[Sem.wp_choose];refine⟨hn,?_⟩;show Sem.wp _ _ (Sem.pure _) _ _ _ _
 first|rw[Sem.wp_pure]|simp only[Sem.wp]
 exact q _ _ (Wdw _ (Nat.pos_of_ne_zero hn))
theorem Zlw:∀(n:Nat) {s:Shared}{xs:List Nat}{Q:List Nat->Shared->Prop},xs.length=n->(∀ys dr,ys.Perm xs->Q ys { s with drawn:=dr })->wpAny (model prog w) A (drawOrder n xs) Q E s
 |0,s,xs,Q,h,q=>by
  have:xs=[]:=Wbp h;subst this;unfold drawOrder;exact wpAny_pure (q [] s.drawn (List.Perm.refl _))
 |n+1,s,[],Q,h,q=>by simp at h
 |n+1,s,x::xs,Q,h,q=>by
  unfold drawOrder;refine wpAny_bind (Zks (by simp) λk dr hk=>?_);rw[Waa hk];refine wpAny_bind (Zlw n (by rw[List.length_eraseIdx_of_lt hk];omega) λys dr' hy=>wpAny_pure (q _ dr' ?_));exact(List.Perm.cons _ hy).trans (Zee hk)
end
end L2
namespace L2
open PySem PySem.Spec PyProof.Rows PySem.SeqAt
section
variable {prog:Program}{w:World}{A:Around}{E:Value->Shared->Prop}{s:Shared}
structure SWalk (prog:Program) (w:World) (A:Around) (a:Addr) (es:Array (Int × Value)) (s s1:Shared) (I:Addr) where
 fp:List Addr
 L:List (Int × Value)
 St:Nat->Heap->Prop
 old:∀b o,s.heap.get? b=some o->s1.heap.get? b=some o
 new:s.heap.objs.size<=I
 fpo:∀b∈fp,b=a\/s.heap.objs.size<=b
 perm:L.Perm es.toList
 W:Walks prog w A I fp [I] L.length (λj v=>∃e,L[j]?=some e/\v=e.2) St
 st:St 0 s1.heap
theorem Zj9 (es:Array (Int × Value)):(Wau es.size).map (λk=>es.getD k (0,.none))=es.toList:=by
 apply List.ext_getElem
 ·simp
 ·intro i h1 h2
  simp only[List.getElem_map,List.getElem_range,Array.getElem_toList];simp only[Array.length_toList]at h2;simp[Array.getD,h2]
theorem set_iter {a:Addr}{o:Obj}{es:Array (Int × Value)}{ep:Nat}{t:SetTable}{ks:List Int}{Q:Value->Shared->Prop}(hh:A.handled=none) (g:SetG prog w s.heap a o es ep t ks)
  (q:∀(h1:Heap) dr (I:Addr),Nonempty (SWalk prog w A a es s { s with heap:=h1,drawn:=dr } I)->Q (.ref I) { s with heap:=h1,drawn:=dr }):wpAny (model prog w) A (pyIter (.ref a)) Q E s:=by
 have hT:s.TypeIs (.ref a) "set":=⟨o,g.get,g.ex.1⟩;have hlt:a<s.heap.objs.size:=Wam g.get;have hne1:a≠s.heap.objs.size:=Was hlt;have hne2:a≠s.heap.objs.size+1:=Was (Wbm hlt);have hroom:es.size<=sizeLine:=by
  have:=g.room;rw[sizeLine_eq];unfold scanBound at this;omega
 refine wpAny_pyIter_slot hT F.slot_set_iter (wpAny_call_entry F.slot_set_iter hT Zfm ?_ (F.args_set_iter_1 _));unfold Builtin.«frozenset.__iter__» Builtin.Frozenset.slot0 slotArgs;simp only[List.isEmpty_nil,Bool.not_true,Wba,↓reduceIte,bind_assoc,Wbz,bne_self_eq_false];unfold Builtin.Frozenset.addrOf Builtin.Frozenset.sizeOf;refine wpAny_bind (wpAny_pure ?_)
 try dsimp only
 refine wpAny_bind (wpAny_pure ?_);refine wpAny_bind (wpAny_bind (wpAny_setEntries_of g.get g.dat g.fit (wpAny_pure ?_)));rw[Zin];refine wpAny_bind (wpAny_bind (wpAny_setState_of g.get g.dat g.fit (wpAny_bind (Zdz (wpAny_pure ?_)))));by_cases hd:(!byTextB w && (!t.plain && decide (es.size > 1)))=true
 ·have hd2:=hd
  rw[if_pos hd];refine wpAny_bind (Zlw es.size (by simp) λys dr hy=>?_);have hyl:=hy.length_eq;rw[Wbh]at hyl;refine wpAny_bind (wpAny_newTuple ?_ (by rw[Wab,hyl];exact hroom));have g1:=g.keep (h':=s.heap.push (seqObj "tuple" (ys.map λi:Nat=>rawInt (i:Int)).toArray 0)) λo e=>Wae _ e;refine wpAny_bind (wpAny_setEpoch_of g1.get g1.dat g1.fit ?_);refine wpAny_bind (wpAny_newObj_type ?_ (by size_fits));have hsz:(s.heap.push (seqObj "tuple" (ys.map λi:Nat=>rawInt (i:Int)).toArray 0)).objs.size=s.heap.objs.size+1:=size_push' _ _;have hI:((s.heap.push (seqObj "tuple" (ys.map λi:Nat=>rawInt (i:Int)).toArray 0)).push (setItO (.ref s.heap.objs.size) 0 a es.size ep)).get? (s.heap.objs.size+1)=some (setItO (.ref s.heap.objs.size) 0 a es.size ep):=by
   rw[<- hsz];exact Waq _ rfl
  have hTu:((s.heap.push (seqObj "tuple" (ys.map λi:Nat=>rawInt (i:Int)).toArray 0)).push (setItO (.ref s.heap.objs.size) 0 a es.size ep)).get? s.heap.objs.size=some { cls:=.type "tuple",data:=.seq (ys.map λj:Nat=>rawInt (j:Int)).toArray }:=
   Wae _ (Waq _ rfl)
  show wpAny _ _ (ret (.ref (s.heap.push (seqObj "tuple" (ys.map λi:Nat=>rawInt (i:Int)).toArray 0)).objs.size)) _ _ { s with heap:=(s.heap.push (seqObj "tuple" (ys.map λi:Nat=>rawInt (i:Int)).toArray 0)).push (setItO (.ref s.heap.objs.size) 0 a es.size ep),drawn:=dr };rw[hsz];refine wpAny_pure ⟨_,rfl,"set_iterator",_,⟨_,hI,rfl⟩,Zao.lookup,?_⟩;have hin:∀k∈ys,k<es.size:=λk hk=>Wa5.mp (hy.mem_iff.mp hk);have hL:(ys.map λk=>es.getD k (0,.none)).length=ys.length:=Wab _;refine q _ dr (s.heap.objs.size+1) ⟨⟨[s.heap.objs.size+1,a,s.heap.objs.size],ys.map λk=>es.getD k (0,.none),_,λb o e=>Wae _ (Wae _ e),Wcf _,?_,?_,Zih hh hne2 (Was (Nat.lt_succ_self _)) ys _ hL ?_,hI,g1.keep λo e=>Wae _ e,hTu⟩⟩
  ·intro b hb
   simp only[Wat,Wco,or_false]at hb;rcases hb with h|h|h
   ·exact .inr (by rw[h];exact Wcf _)
   ·exact .inl h
   ·exact .inr (Nat.le_of_eq h.symm)
  ·exact(hy.map _).trans (List.Perm.of_eq (Zj9 es))
  ·intro j k e h1 h2
   rw[Wad,h1]at h2;cases h2;have:=hin k (Wan h1);simp[Array.getD,this]
 ·rw[if_neg hd]
  refine wpAny_bind (wpAny_pure ?_);refine wpAny_bind (wpAny_setEpoch_of g.get g.dat g.fit ?_);refine wpAny_bind (wpAny_newObj_type ?_ (by size_fits));have hI:(s.heap.push (setItO (.int 0 0) 0 a es.size ep)).get? s.heap.objs.size=some (setItO (.int 0 0) 0 a es.size ep):=Waq _ rfl;refine wpAny_pure ⟨_,rfl,"set_iterator",_,⟨_,hI,rfl⟩,Zao.lookup,?_⟩;have g1:=g.keep (h':=s.heap.push (setItO (.int 0 0) 0 a es.size ep)) λo e=>Wae _ e;have fpo:∀b∈[s.heap.objs.size,a],b=a\/s.heap.objs.size<=b:=λb hb=>by
   simp at hb;rcases hb with h|h
   ·right;omega
   ·exact .inl h
  cases hb:byTextB w with
  |true=>
   refine q _ s.drawn s.heap.objs.size ⟨⟨[s.heap.objs.size,a],(pickOrder (w.params.setOrder a ep) es).toList,_,λb o e=>Wae _ e,Wak _,fpo,Zl8 _ _,Zf4 hh hne1 (λ_=>0) _ ?_ ?_,hI,g1⟩⟩
   ·intro s j e g he A E Q' hq
    refine Zhu hb g ?_;rw[Array.getElem?_toList]at he;rw[he];exact hq
   ·intro s g A E Q' hq
    refine Zhu hb g ?_;rw[Array.getElem?_eq_none (by simp)];exact hq
  |false=>
   have hd':(!t.plain && decide (es.size > 1))=false:=by
    rw[hb]at hd;simpa using hd
   have hps:t.place.size=es.size:=by
    have:=g.fit;unfold SetTable.fits at this;simp only[Wcb,beq_iff_eq]at this;exact this.1
   refine q _ s.drawn s.heap.objs.size ⟨⟨[s.heap.objs.size,a],es.toList,_,λb o e=>Wae _ e,Wak _,fpo,List.Perm.refl _,Zf4 hh hne1 (slotAt t.place) _ ?_ ?_,hI,g1⟩⟩
   ·intro s j e g he A E Q' hq
    refine Zfp hb g hd' ?_;rw[Array.getElem?_toList]at he;have hj:=(Array.getElem?_eq_some_iff.mp he).1;rw[Zek g.tab.ris (by omega),he,Array.getElem?_eq_getElem (by omega)];have:slotAt t.place (j+1)=t.place[j]+1:=by
     show t.place.getD j 0+1=_;simp[Array.getD,show j<t.place.size by omega]
    rw[this]at hq;exact hq
   ·intro s g A E Q' hq
    refine Zfp hb g hd' ?_;rw[Array.length_toList,Zek g.tab.ris (Nat.le_of_eq hps.symm),Array.getElem?_eq_none (Wak _)];exact hq
end
end L2
namespace L2
open PySem PySem.Spec PyProof.Rows PySem.SeqAt
section
variable {prog:Program}{w:World}{A:Around}{E:Value->Shared->Prop}{s:Shared}
theorem Zoo {r:Addr}{Q:Bool->Shared->Prop}(hT:s.TypeIs (.ref r) "set") (h:Q false s):wpAny (model prog w) A (Builtin.List.listLengthHint (.ref r)) Q E s:=by
 unfold Builtin.List.listLengthHint;refine wpAny_bind (wpAny_specialOf hT F.slot_set_len.lookup ?_);generalize hid:("set.__len__":String)=nm
 wp_delta
 rw[show splitId nm=some ("set","__len__") by subst hid;decide +kernel];subst hid;refine wpAny_bind (wpAny_isInstance (T:="set") (b:=true) hT (by rw[isSubtype_type];kernel_rfl) ?_);refine wpAny_ite_split (λz=>absurd z (by decide)) λ_=>?_;refine wpAny_ite_split (λ_=>wpAny_bind (wpAny_typeOf hT (wpAny_pure h))) λz=>absurd (by decide +kernel) z
theorem Zip {L:List (Int × Value)}{acc:Array Value}(h:ItemsOf (λj v=>∃e,L[j]?=some e/\v=e.2) acc L.length):acc.toList=L.map (·.2):=by
 obtain⟨h1,h2⟩:=h;apply Wb6;intro i;rw[Array.getElem?_toList,Wad];by_cases hi:i<acc.size
 ·obtain⟨e,e1,e2⟩:=h2 i _ (Array.getElem?_eq_getElem hi)
  rw[e1,Array.getElem?_eq_getElem hi,e2];rfl
 ·rw[Array.getElem?_eq_none (by omega),Wcy (by omega)];rfl
theorem Zkl {R:Result->Shared->Prop}{a S:Addr}{o:Obj}{es:Array (Int × Value)}{ep c₀:Nat}{t:SetTable}{ks:List Int}(hh:A.handled=none) (g:SetG prog w s.heap a o es ep t ks) (hSa:S≠a) (res:Value) (hS:s.heap.get? S=some { cls:=.type "list",data:=.seq #[] c₀ })
  (hR:∀h' tk dr c' (L:List (Int × Value)),(∀b o,b≠S->s.heap.get? b=some o->h'.get? b=some o)->L.Perm es.toList->h'.get? S=some { cls:=.type "list",dict:=none,data:=.seq (L.map (·.2)).toArray c',slots:=#[] } -> R (.ok (.ret res)) { s with heap:=h',toks:=tk,drawn:=dr }) :
  wpAny (model prog w) A.in1 (Builtin.List.listExtendWith (.ref S) (.ref a) res)
   (λfin s'=>match fin with|.done f=>R (.ok f) s'|.again c'=>c'.quiet=true/\codeAny (model prog w) A c' R s') (λe s'=>R (.error e) s') s:=by
 have hT:s.TypeIs (.ref a) "set":=⟨o,g.get,g.ex.1⟩;have hSl:S<s.heap.objs.size:=Wam hS;unfold Builtin.List.listExtendWith;refine wpAny_bind (wpAny_typeOf (T:="set") hT ?_);have h1:Builtin.List.listSameRef (.ref S) (.ref a)=false:=by simp[Builtin.List.listSameRef,hSa]
 have h2:(Value.type "set" == Value.type "list")=false:=by decide +kernel
 have h3:(Value.type "set" == Value.type "tuple")=false:=by decide +kernel
 simp only[h1,h2,h3,Bool.or_false,Wba,if_false];refine wpAny_bind (set_iter hh g λh1 dr I ⟨K⟩=>?_);have hK:=K.perm.length_eq;have hn:K.L.length<=sizeLine:=by
  have:=g.room;rw[hK,Array.length_toList,sizeLine_eq];unfold scanBound at this;omega
 have hSf:S ∉ K.fp:=λz=>by
  rcases K.fpo S z with z|z
  ·exact hSa z
  ·exact absurd hSl (Nat.not_lt.mpr z)
 have key:∀(h:Heap) (c₁ tk:Nat),K.St 0 h->(∀b o,b≠S->s.heap.get? b=some o->h.get? b=some o) →
   h.get? S=some { cls:=.type "list",data:=.seq #[] c₁ } -> codeAny (model prog w) A (.builtin "list.extend.loop" ⟨[.ref S,.ref I,res],[]⟩) R { s with heap:=h,toks:=tk,drawn:=dr }:=by
  intro h c₁ tk hst hk hS₁;refine codeAny_extend_loopS K.W.toS hn S hSf res _ 0 _ #[] c₁ rfl (Wbx _) hst hS₁ (ItemsOf.nil _) λs' acc' c' hm hS' hacc=>?_;rw[Moved.eq_with hm];have ea:=Zip hacc;refine hR s'.heap s'.toks dr c' K.L (λb o hb e=>hm.heap b o (λhmem=>?_) (hk b o hb e)) K.perm ?_
  ·rcases Wat.mp hmem with e'|hmem
   ·exact hb e'
   ·exact absurd (Wam e) (by rw[Wa3.mp hmem];exact Nat.not_lt.mpr K.new)
  ·rw[<- ea,Array.toArray_toList];exact hS'
 have hS₁:=K.old _ _ hS;refine wpAny_bind (wpAny_holding (Zoo ⟨o,K.old _ _ g.get,g.ex.1⟩ ?_));refine wpAny_ite_split (λ_=>?_) (λ_=>wpAny_pure ⟨plainId_quiet F.plain_extend_loop _,key _ c₀ _ K.st (λb o _ e=>K.old _ _ e) hS₁⟩);refine wpAny_bind (wpAny_rule ?_);refine wpAny_bind ?_;show wpAny _ _ (updateSeq S (·.push .none) >>= λ_=>updateSeq S (·.pop)) _ _ _;refine wpAny_bind (wpAny_updateSeq hS₁ rfl ?_);have hS₂:=Wcc (Obj.mapSeq (·.push Value.none)) hS₁ rfl;refine wpAny_updateSeq (hz:=by seq_fits) hS₂ rfl ?_;have hS₃:=Wcc (Obj.mapSeq (·.pop)) hS₂ rfl;refine wpAny_pure ⟨plainId_quiet F.plain_extend_loop _,key _ _ _ ?_ (λb o hb e=>?_) hS₃⟩
 ·refine K.W.frame 0 _ _ K.st λb hb o e=>?_
  have hbS:S≠b:=λh=>hSf (h ▸ hb);exact(Wbk _ _ hbS).trans ((Wbk _ _ hbS).trans e)
 ·exact(Wbk _ _ (Ne.symm hb)).trans ((Wbk _ _ (Ne.symm hb)).trans (K.old _ _ e))
theorem Zim {R:List Value->Shared->Prop}{a:Addr}{o:Obj}{es:Array (Int × Value)}{ep:Nat}{t:SetTable}{ks:List Int}(hh:A.handled=none) (g:SetG prog w s.heap a o es ep t ks)
  (h:∀(h':Heap) (tk:Nat) dr (L:List (Int × Value)),(∀b o,s.heap.get? b=some o->h'.get? b=some o)->s.heap.objs.size<h'.objs.size->L.Perm es.toList->R (L.map (·.2)) { s with heap:=h',toks:=tk,drawn:=dr }) :
  wpAny (model prog w) A (collect (.ref a)) R E s:=by
 have hlt:a<s.heap.objs.size:=Wam g.get;unfold collect;refine wpAny_bind (wpAny_runValue (codeAny_builtin entry_proto_collect' ?_));rw[Around.under_plainId F.plain_proto_collect _];show wpAny _ A.in1 (newList [] >>= λl=>again (.builtin "list.__iadd__" ⟨[l,.ref a],[]⟩)) _ _ s;refine wpAny_bind (wpAny_newList ?_);refine wpAny_pure ⟨plainId_quiet F.plain_list_iadd _,codeAny_builtin entry_list_iadd' ?_⟩;rw[Around.under_plainId F.plain_list_iadd _];show wpAny _ A.in1 (Builtin.List.listExtendWith (.ref s.heap.objs.size) (.ref a) (.ref s.heap.objs.size)) _ _ _;have hS₁:(s.heap.push (seqObj "list" ([]:List Value).toArray 0)).get? s.heap.objs.size=some { cls:=.type "list",data:=.seq #[] 0 }:=Waq _ rfl;have z:=Zkl (A:=A) (s:={ s with heap:=s.heap.push (seqObj "list" ([]:List Value).toArray 0) })
  (R:=λ(q:Result) (s':Shared)=>∃(h':Heap) (tk:Nat) (dr:_) (c':Nat) (L:List (Int × Value)),q=.ok (.ret (.ref s.heap.objs.size))/\s' = { s with heap:=h',toks:=tk,drawn:=dr } ∧
   (∀b o,s.heap.get? b=some o->h'.get? b=some o)/\L.Perm es.toList/\h'.get? s.heap.objs.size=some { cls:=.type "list",dict:=none,data:=.seq (L.map (·.2)).toArray c',slots:=#[] })
  hh (g.keep λo e=>Wae _ e) (Wcz hlt) (.ref s.heap.objs.size) hS₁
  λh' tk dr c' L hk hp hS'=>⟨h',tk,dr,c',L,rfl,rfl,λb o e=>hk b o (Was (Wam e)) (Wae _ e),hp,hS'⟩
 refine wpAny_mono z (λfin s' x=>?_) λe s' x=>?_
 ·cases fin with
  |done f=>
   obtain⟨h',tk,dr,c',L,e,rfl,hk,hp,hS'⟩:=x;cases e;show wpAny _ A (load s.heap.objs.size >>= _) _ _ _;refine wpAny_bind (wpAny_load hS' ?_);exact wpAny_pure (h h' tk dr L hk (Wam hS') hp)
  |again c₁=>
   refine⟨x.1,codeAny_mono x.2 λq s₂ y=>?_⟩;obtain⟨h',tk,dr,c',L,rfl,rfl,hk,hp,hS'⟩:=y;show wpAny _ A (load s.heap.objs.size >>= _) _ _ _;refine wpAny_bind (wpAny_load hS' ?_);exact wpAny_pure (h h' tk dr L hk (Wam hS') hp)
 ·obtain⟨h',tk,dr,c',L,e,_⟩:=x
  cases e
theorem Zeu:∀{vs:List Value},(∀v∈vs,∃t,v=.int (numOf v) t)->IntsAre vs (vs.map numOf)
 |[],_=>.nil
 |v::vs,h=>by
  obtain⟨t,e⟩:=h v (by simp);have:=Zeu (vs:=vs) λu hu=>h u (Wav _ hu);rw[Wbe];generalize numOf v=n at e ⊢;subst e;exact .cons _ t this
theorem Zj3 {a:Addr}{ks:List Int}{Q:Value->Shared->Prop}(hh:A.handled=none) (hS:SetI prog w s.heap a ks) (h64:ks.length<64)
  (h:∀(h':Heap) (tk:Nat) dr (l:Addr) (out:List Value) (ms:List Int) (c:Nat),(∀b o,s.heap.get? b=some o->h'.get? b=some o)->s.heap.objs.size<=l->h'.get? l=some (seqObj "list" out.toArray c)->IntsAre out ms->ms.Perm ks->ms.Pairwise (· <= ·)->Q (.ref l) { s with heap:=h',toks:=tk,drawn:=dr }) :
  wpAny (model prog w) A (call (.builtin "sorted") [.ref a]) Q E s:=by
 obtain⟨o,es,ep,t,g⟩:=hS;refine Calls.call_function_entry kind_sorted plain_sorted entry_sorted (args_sorted1 _) ?_;unfold Builtin.«sorted»;refine wpAny_bind (m:=checkCount "sorted" 1 1 _) (wpAny_pure ?_);refine wpAny_bind (Zim hh g λh' tk dr L hk hsz hp=>?_);have hI:IntsAre (L.map (·.2)) ((L.map (·.2)).map numOf):=Zeu λv hv=>by
  obtain⟨e,he,rfl⟩:=Wa9.mp hv;exact Zjq g.el (hp.mem_iff.mp he)
 have hpk:((L.map (·.2)).map numOf).Perm ks:=by
  rw[Wal];exact(hp.map _).trans g.perm
 have hlen:(L.map (·.2)).length<64:=by
  have:=hpk.length_eq;rw[Wab]at this;omega
 refine wpAny_bind (wpAny_newList ?_ (by rw[sizeLine_eq];omega));have hoL:(h'.push (seqObj "list" (L.map (·.2)).toArray 0)).get? h'.objs.size=some (seqObj "list" (L.map (·.2)).toArray 0):=Waq _ rfl;refine wpAny_bind (wpAny_holding (wpAny_call_entry slot_list_sort ⟨_,hoL,rfl⟩ entry_list_sort (list_sort_tree hoL hI hlen λout ms a1 a2 a3=>⟨_,rfl,?_⟩) (args_list_sort _)));obtain⟨c,hc⟩:=sortedHeap_at (out:=out) hoL;refine wpAny_pure ⟨_,rfl,h _ tk dr _ out.toList ms c (λb o e=>?_) (Wb0 hsz) (by rw[Array.toArray_toList];exact hc) a1 (a2.trans hpk) a3⟩;have hb:=hk b o e;have hbl:=Wam hb;rw[sortedHeap_old (Was hbl) (by rw[size_push'];exact Wbm hbl)];exact Wae _ hb
end
end L2
namespace L2
open PySem PySem.Spec PyProof.Rows PySem.SeqAt
section
variable {X:Cx}
theorem Inv.drew {pins:List (Addr × Obj)}{σ:List (Option V)}{H:Hp}{s:Shared}(I:Inv X pins σ H s) (dr:_):Inv X pins σ H { s with drawn:=dr }:=
 ⟨I.ok,I.os,I.bare,I.base,I.loc,I.cell,I.free,I.freeC,I.pin,I.hok,I.len⟩
theorem Zl2 {ms:List Int}(h1:ms.Pairwise (· <= ·)) (h2:ms.Nodup):ms.Pairwise (· < ·):=by
 have:=List.Pairwise.and h1 h2;exact this.imp λhq_=>by obtain⟨a,b⟩:=hq_;omega
theorem Zf8 {ns:List Int}{x:Int}:x∈metK (λi=>ns.getD i 0) ns.length↔x∈ns:=by
 rw[Zop];constructor
 ·rintro⟨j,hj,rfl⟩
  rw[Wac,Waa hj];exact Wa6 hj
 ·intro h
  obtain⟨j,hj,rfl⟩:=List.getElem_of_mem h;exact⟨j,hj,by rw[Wac,Waa hj];rfl⟩
def tSS (K:W.Frag) (ta:TA):TE:=λσ H Q=>ta σ H λvs H1=>∃(p:Addr) (ns:List Int),vs=[.ref p]/\SqL K H1 p (ns.map V.int)/\ns.length<64/\∀(l:Addr) (ms:List Int),ms.Pairwise (· < ·)->(∀x,x∈ms↔x∈ns)->H1 l=none->Q (.ref l) (upd H1 l (.lst (ms.map V.int)))
theorem Zka {a:Expr}{ta:TA}{p p2 pos pos2:Pos}{K:W.Frag}(hK:X.K=K) (hc:X.calm=true) (hgL:Gl X "sorted") (hmL:X.mg "sorted" = none) (hgR:Gl X "set") (hmR:X.mg "set" = none) (ha:PA X [a] ta) (hs:starEach [a] X.env=[(false,eval a X.env)]:=by rfl)
  (he:starEach [.Call (.Name "set" p2) [a] [] pos2] X.env=[(false,eval (.Call (.Name "set" p2) [a] [] pos2) X.env)]:=by rfl) :
  PE X (.Call (.Name "sorted" p) [.Call (.Name "set" p2) [a] [] pos2] [] pos) (tSS K ta):=by
 subst hK;intro pins s σ H Q I h;refine wpAny_Call_Name_kw (Zej I hgL hmL Ze9 ?_);refine PyProof.Rows.callWith_builtin1 ?_ he rfl;rw[he];show wpAny _ _ (spliced ((false,eval (.Call (.Name "set" p2) [a] [] pos2) X.env)::backTo pos [])) _ _ s;refine Calls.spliced_cons ?_;refine wpAny_Call_Name_kw (Zej I hgR hmR Zru ?_);refine PyProof.Rows.callWith_type1 (thn (ha pos2 pins s σ H _ I h) λus s1 ⟨vs,H1,I1,r1,q1⟩=>?_) hs rfl;obtain⟨p,ns,e,hx,hl,q⟩:=q1;subst e;obtain⟨u,rfl,ru⟩:=vals1 r1;cases (show u=Value.ref p from ru);obtain⟨its,w1,p1,hz⟩:=I1.list hx;have hi:=Zck w1;have hlen:=hi.length;refine Zky (I1.ok.hd hc) p1.isList (by simpa using hi) (by rw[Wag];unfold scanBound;omega) λh' tk hS hk=>?_;rw[show its.toArray.size=ns.length by rw[Wag];exact hlen]at hS;refine Calls.spliced_nil ?_;have I2:Inv X pins σ H1 { s1 with heap:=h',toks:=tk }:=I1.kept hk;have hm:=Zi9 (λi=>ns.getD i 0) ns.length;refine Zj3 (s:={ s1 with heap:=h',toks:=tk }) (I1.ok.hd hc) hS (by omega) λh2 tk2 dr l out ms c k2 hl2 ho2 hi2 hp2 hs2=>?_;have hml:=hp2.length_eq;have nd:ms.Nodup:=by
  obtain⟨_,_,_,_,g⟩:=hS;exact hp2.nodup_iff.mpr g.nd
 have I3:=(I2.laid (t':=tk2) k2 hl2 (show ObjOk X.prog X.w _ h2 l (.lst (ms.map V.int)) from ⟨by rw[Wab];exact Wb0 (small1000 (by omega)),out,c,Zc6 hi2,ho2⟩)).drew dr;exact⟨.ref l,_,I3,rfl,q l ms (Zl2 hs2 nd) (λx=>hp2.mem_iff.trans Zf8) (I2.hok.fresh hl2)⟩
end
section
variable {K:W.Frag}{Δ:Evt}
theorem Ztu {ta:TA}{Po:OD->Evt->Prop}(h:JA K ta Δ λds Δ1=>∃ns:List Int,ds=[.lst (ns.map .int)]/\ns.length<64/\∀ms:List Int,ms.Pairwise (· < ·)->(∀x,x∈ms↔x∈ns)->Po (.lst (ms.map .int)) Δ1):JO K (tSS K ta) Δ Po:=λg G H σ Q k c=>
 h g G H σ _ k λvs ds G1 H1 Δ1 k1 s1 r1 hq_=>by
  obtain⟨ns,e,hl,p⟩:=hq_;subst e;obtain⟨_,_,rfl,r,t⟩:=r1.inv
  next=>
   cases t.inv;obtain⟨a,us,rfl,ha,rr⟩:=r.inv
   next=>
    have ev:=rr.ints;subst ev;refine⟨a,ns,rfl,SqL.of (k1.live _ _ ha),hl,λl ms o1 o2 hl=>?_⟩;obtain⟨k2,pd⟩:=k1.fresh (od:=.lst (ms.map .int)) hl (show OwnRep K G1 (.lst (ms.map V.int)) (.lst (ms.map .int)) from Reps.ofInts ms);exact c l _ G1 _ Δ1 k2 s1 pd (p ms o1 o2)
end
structure CompScK (osc:Scope) (oN:List Str) (y:Str) (scope:Scope) (fvs:List Str) (sel:List Nat):Prop where
 kind:scope.kind=.function
 one:scope.names.filter (λz=>z.2 == .cell)=[(y,.cell)]
 own:∀z∈scope.names,z.1=y->z.2=.cell
 names:∀z∈scope.names,z.2=.local->scope.names.lookup z.1=some .local
 free:∀z∈scope.names,z.2=.free->osc.names.lookup z.1=some .cell\/osc.names.lookup z.1=some .free
 len:fvs.length=sel.length
 fv:∀p∈fvs.zip sel,oN[p.2]?=some p.1/\scope.names.lookup p.1=some .free
def compCxK (X:Cx) (y:Str) (scope:Scope) (N:List Str) (C:Addr) (s:Shared) (H:Hp) (ex:List Addr) (pn:List (Addr × Obj)):Cx:=
 { compCx X scope N C s H ex pn with env:=compEnvC scope ((y,C+1)::clOf X.env scope.names []) C X.env,fn:=λx=>x == y }
theorem Zcq {y:Str}:∀(names:List (Str × NameKind)) (n:Nat) (acc:List (Str × Addr)),(names.filter (λz=>z.2 == .cell)=[]->cellsFrom n names acc=acc)/\(names.filter (λz=>z.2 == .cell)=[(y,.cell)]->cellsFrom n names acc=(y,n)::acc)
 |[],n,acc=>⟨λ_=>rfl,λh=>by simp at h⟩
 | (x,k)::r,n,acc=>by
  unfold cellsFrom;rw[Wbv];cases hk:k == NameKind.cell with
  |true=>
   simp only[hk,if_true];refine⟨λh=>by simp at h,λh=>?_⟩;have h1:=(List.cons.inj h).1;have h2:=(List.cons.inj h).2;cases h1;exact(Zcq (y:=y) r (n+1) _).1 h2
  |false=>
   simp only[hk,Wba,if_false];exact Zcq r n acc
theorem Zcr {y:Str}:∀(names:List (Str × NameKind)) (h:Heap),(names.filter (λz=>z.2 == .cell)=[]->pushCells h names=h)/\(names.filter (λz=>z.2 == .cell)=[(y,.cell)]->pushCells h names=h.push { cls:=.type "cell",data:=.cell none })
 |[],h=>⟨λ_=>rfl,λh=>by simp at h⟩
 | (x,k)::r,h=>by
  unfold pushCells;rw[Wbv];cases hk:k == NameKind.cell with
  |true=>
   simp only[hk,if_true];exact⟨λh=>by simp at h,λe=>(Zcr (y:=y) r _).1 (List.cons.inj e).2⟩
  |false=>
   simp only[hk,Wba,if_false];exact Zcr r h
section
variable {X:Cx}{pins:List (Addr × Obj)}{σ:St}{H:Hp}{s:Shared}{fp:List Addr}{scope:Scope}{tgs fvs:List Str}{sel:List Nat}{y:Str}
theorem newEnvK {M:Model}{A:Around}{E:Value->Shared->Prop}{osc:Scope}{oN:List Str}{g:Addr}{cl:List (Str × Addr)}{qual:Str}{env:Env}{Q:Env->Shared->Prop}(S:CompScK osc oN y scope fvs sel)
  (q:∀h',h'.Ns s.heap.objs.size (λ_=>none)->h'.IsCell (s.heap.objs.size+1) none->(∀b o,s.heap.get? b=some o->h'.get? b=some o) →
   Q { scope,locals:=s.heap.objs.size,globals:=g,cells:=(y,s.heap.objs.size+1)::cl,qual,func:=none,code:=env.code,frame:=env.frame,builtins:=env.builtins } { s with heap:=h' }) :
  wpAny M A (newFunctionEnv scope g cl [] qual none .none (some env)) Q E s:=by
 simp only[newFunctionEnv,Option.isSome_some,if_true];refine wpAny_bind (wpAny_alloc ?_);refine wpAny_bind (wpAny_layCells _ (λname kind cells=>by cases hkc:kind == NameKind.cell <;> simp[hkc]) _ _ _ _ ?_)
 have hsz:(s.heap.push { cls:=.type "dict",data:=.dict #[] }).objs.size=s.heap.objs.size+1:=Wdl ..;rw[(Zcq (y:=y) _ _ _).2 S.one,(Zcr (y:=y) _ _).2 S.one];show wpAny M A _ Q E { s with heap:=(s.heap.push { cls:=.type "dict",data:=.dict #[] }).push { cls:=.type "cell",data:=.cell none } };refine wpAny_bind (wpAny_pure (wpAny_pure ?_));have hc:((s.heap.push { cls:=.type "dict",data:=.dict #[] }).push { cls:=.type "cell",data:=.cell none }).get? (s.heap.objs.size+1)=some { cls:=.type "cell",data:=.cell none }:=by
  rw[<- hsz];exact Waq _ rfl
 have z:=q _ ((Heap.Ns.new s.heap (.type "dict")).keeps λb o e=>Wae { cls:=.type "cell",data:=.cell none } e) ⟨_,hc,rfl⟩ λb o e=>Wae _ (Wae _ e);rw[<- hsz]at z;exact z
theorem ownK {env:Env}{names:List (Str × NameKind)}{n:Nat}{x:Str}{c:Addr}(e:((y,n)::clOf env names []).lookup x=some c):(x=y/\c=n)\/env.cells.lookup x=some c:=by
 rw[Wbo]at e;split at e
 ·rename_i h
  cases e;exact .inl ⟨by simpa using h,rfl⟩
 ·exact .inr (Zbf _ _ (λ_ _ z=>by simp at z) e)
theorem Zfc (S:CompScK X.env.scope X.N y scope fvs sel) (ok:X.Ok):∀n,(n,NameKind.free)∈scope.names->∃a,X.env.cells.lookup n=some a:=λn hn=>
 ok.has n (S.free _ hn rfl)
theorem Zom (S:CompScK X.env.scope X.N y scope fvs sel) (N:List Str) (I:Inv X pins σ H s) (hf:∀b∈fp,FpOk X pins H b) (hlt:∀b∈fp,b<s.heap.objs.size):(compCxK X y scope N s.heap.objs.size s H fp (X.pn++pins)).Ok where
 mod:=I.ok.mod
 kind:=S.kind
 glob:=I.ok.glob
 blt:=I.ok.blt
 above:=Wak _
 inj:=λx z c h1 h2=>by
  have old:∀x,X.env.cells.lookup x=some c->c≠s.heap.objs.size+1:=λx e=>by
   obtain⟨v,q⟩:=I.cell x c e;exact Was (Wbm q.lt)
  rcases ownK h1 with ⟨a,b⟩|a
  ·rcases ownK h2 with ⟨a',b'⟩|a'
   ·rw[a,a']
   ·exact absurd b (old _ a')
  ·rcases ownK h2 with ⟨a',b'⟩|a'
   ·exact absurd b' (old _ a)
   ·exact I.ok.inj x z c a a'
 has:=λx hx=>by
  by_cases hxy:x=y
  ·subst hxy
   exact⟨s.heap.objs.size+1,by show ((x,_)::clOf X.env scope.names []).lookup x=_;simp⟩
  have hm:(x,NameKind.free)∈scope.names:=by
   have key:∀k,(k=.cell\/k=.free)->(relab X.env.scope scope).names.lookup x=some k->(x,NameKind.free)∈scope.names:=λk hk h=>by
    obtain⟨⟨n,j⟩,hy,e⟩:=Wa9.mp (PySem.mem_of_lookup h);dsimp only at e;split at e
    ·rename_i hj
     have e1:n=x:=congrArg Prod.fst e;have hj':j=.free:=by
      simp only[Wcb,beq_iff_eq]at hj;exact hj.1.1
     rw[<- e1,<- hj'];exact hy
    ·have e1:n=x:=congrArg Prod.fst e
     have e2:j=k:=congrArg Prod.snd e;rcases hk with z|z
     ·have hin:((n,j):Str × NameKind)∈scope.names.filter (λz=>z.2 == .cell):=Wbn.mpr ⟨hy,by rw[e2,z];rfl⟩
      rw[S.one,Wa3]at hin;exact absurd (e1.symm.trans (congrArg Prod.fst hin)) hxy
     ·rw[<- e1,<- z,<- e2];exact hy
   rcases hx with z|z
   ·exact key _ (.inl rfl) z
   ·exact key _ (.inr rfl) z
  obtain⟨c,hc⟩:=Zcs scope.names [] hm (Zfc S I.ok x hm);exact⟨c,by
   show ((y,_)::clOf X.env scope.names []).lookup x=_;rw[Wbo,show (x == y)=false from by simpa using hxy];exact hc⟩
 cab:=λx c h e=>by
  rcases ownK e with ⟨_,z⟩|z
  ·rw[z];exact Wcf _
  ·have hx:x=y:=by simpa using (show (x == y)=true from h)
   subst hx;have:((x,s.heap.objs.size+1)::clOf X.env scope.names []).lookup x=some c:=e;simp at this;rw[<- this];exact Wcf _
 hd:=I.ok.hd
 frames:=I.ok.frames
 stk:=.inl rfl
 exf:=λb hb=>⟨Was (hlt b hb),λx c e=>by
  rcases ownK e with ⟨_,z⟩|z
  ·rw[z];exact Wcz (Wbm (hlt b hb))
  ·exact(hf b hb).2.2.2.2.1 x c z⟩
 bs:=I.bs
 bsz:=Wbl I.ok.bsz I.sz
 noex:=λb o e hb=>by
  rcases(hf b hb).2.2.2.1 with z|z
  ·exact I.ok.noex b o e z
  ·exact absurd (Wbb (Wam e) (Wbl I.ok.bsz z)) (Wck _)
 exfs:=λb hb z=>by
  rcases Wat.mp (I.stkSub b z) with e|z
  ·exact(hf b hb).2.1 e
  ·exact(hf b hb).2.2.1 z
 funs:=I.stack
 frf:=I.stkFree
theorem Zk3 (S:CompScK X.env.scope X.N y scope fvs sel) (I:Inv X pins σ H s) (hf:∀b∈fp,FpOk X pins H b) (hlt:∀b∈fp,b<s.heap.objs.size) {h':Heap}{tk:Nat}{m:Str->Option Value}
  (hns:h'.Ns s.heap.objs.size m) (hcl:h'.IsCell (s.heap.objs.size+1) none) (old:∀b o,s.heap.get? b=some o->h'.get? b=some o) :
  Inv (compCxK X y scope (tgs++fvs) s.heap.objs.size s H fp (X.pn++pins)) [] (compSt tgs.length sel σ) H { s with heap:=h',toks:=tk } where
 ok:=Zom S _ I hf hlt
 os:=rfl
 bare:=I.bare
 base:=Un.kept old
 loc:=by
  refine⟨m,hns,λi x v h1 h2 h3=>?_⟩;have h1:(tgs++fvs)[i]?=some x:=h1;unfold compSt at h2;by_cases hi:i<tgs.length
  ·rw[Wa8 (by simpa using hi),Wcd,if_pos hi]at h2
   cases h2
  ·have hi':tgs.length<=i:=Nat.le_of_not_lt hi
   rw[Wax (by simpa using hi'),Wad,Wa1]at h2;rw[Wax hi']at h1;cases hj:sel[i-tgs.length]? with
   |none=>rw[hj]at h2;cases h2
   |some j=>
    rw[hj]at h2;have h2:(σ[j]?).getD none=some v:=by simpa using h2
    have hz:(x,j)∈fvs.zip sel:=by
     refine Wan (i:=i-tgs.length) ?_;rw[Wbg];exact⟨h1,hj⟩
    obtain⟨hN,hfr⟩:=S.fv _ hz;have hσ:σ[j]?=some (some v):=by
     cases q:σ[j]? with
     |none=>rw[q]at h2;cases h2
     |some o=>rw[q]at h2;exact congrArg some h2
    have hko:X.env.scope.names.lookup x=some .cell\/X.env.scope.names.lookup x=some .free:=S.free (x,.free) (PySem.mem_of_lookup hfr) rfl;obtain⟨m0,hn0,hl0⟩:=I.loc;obtain⟨u,r,l⟩:=hl0 j x v hN hσ (.inr hko);refine⟨u,r,.inr ⟨Zed hfr,?_⟩⟩;rcases l with ⟨hk,_⟩|⟨_,c,hc,hcell⟩
    ·have hk:X.env.scope.names.lookup x=some .local:=hk
     rcases hko with z|z <;> (rw[hk]at z;cases z)
    ·obtain⟨c',hc'⟩:=Zcs scope.names [] (PySem.mem_of_lookup hfr) ⟨c,hc⟩
     have e:=Zbf scope.names [] (λ_ _ z=>by simp at z) hc';rw[hc]at e;cases e;obtain⟨o,ho,hd⟩:=hcell;have hxy:(x == y)=false:=by
      cases q:x == y with
      |false=>rfl
      |true=>
       have:x=y:=by simpa using q
       have:=S.own (x,.free) (PySem.mem_of_lookup hfr) this;cases this
     exact⟨c,by show ((y,s.heap.objs.size+1)::clOf X.env scope.names []).lookup x=some c;rw[Wbo,hxy];exact hc',o,old _ _ ho,hd⟩
 cell:=λx c e=>by
  rcases ownK e with ⟨_,z⟩|z
  ·rw[z];exact⟨none,hcl⟩
  ·obtain⟨v,o,ho,hd⟩:=I.cell x c z
   exact⟨v,o,old _ _ ho,hd⟩
 free:=I.hok.fresh (Wak _)
 freeC:=λx c e=>by
  rcases ownK e with ⟨_,z⟩|z
  ·rw[z];exact I.hok.fresh (Wcf _)
  ·exact I.freeC x c z
 pin:=λp hp=>by
  have hp:p∈(X.pn++pins)++[]:=hp;rw[Wbf]at hp;obtain⟨e,n,ne,nf,d⟩:=I.pin p hp;refine⟨old _ _ e,n,Was (Wam e),λz=>?_,d⟩;rcases Wat.mp (I.stkSub p.1 z) with q|q
  ·exact ne q
  ·exact nf q
 hok:=I.hok.kept old
 len:=by
  unfold compSt;show _=(tgs++fvs).length;rw[Waw,Waw,Wa1,Wab,S.len]
theorem Zkp {N:List Str}{σ':St}{H':Hp}{s':Shared}{h':Heap}(I:Inv X pins σ H s) (hf:∀b∈fp,FpOk X pins H b)
  (J:Inv (compCxK X y scope N s.heap.objs.size s H fp (X.pn++pins)) [] σ' H' s') (sb:Heap.SameBut s.heap.objs.size s'.heap h'):Inv X pins σ H' { s' with heap:=h' }:=by
 have B:Un (frs X.stack) fp H H' s.heap s'.heap:=J.base;have ne:∀b o,s.heap.get? b=some o->b≠s.heap.objs.size:=λb o e=>Was (Wam e);have fr:H' s.heap.objs.size=none:=J.free;refine I.call' (s':={ s' with heap:=h' }) (ch:=fp) J.os ⟨λb o e n h1 h2=>?_,λb o e n h1 h2=>?_,B.free,λb o e h2=>?_,B.tups,B.frzs,B.tbls⟩ (λb ob e=>?_) J.bare λb hb=>?_
 ·exact(sb.2 b (ne b o e)).trans (B.keep b o e n h1 h2)
 ·obtain⟨sl,q⟩:=B.slot b o e n h1 h2
  exact⟨sl,(sb.2 b (ne b o e)).trans q⟩
 ·obtain⟨o',q⟩:=B.there b o e h2
  exact⟨o',(sb.2 b (ne b o e)).trans q⟩
 ·refine(J.hok b ob e).stay (λc w' hc q=>(sb.2 c ?_).trans q) (λ_ q=>q) λ_ _ q=>q
  intro z;rcases hc with hc|hc
  ·rw[<- hc,z,fr]at e;cases e
  ·rw[z,fr]at hc;cases hc
 ·exact⟨(hf b hb).2.2.2.1,(hf b hb).2.1,(hf b hb).2.2.2.2.1,(hf b hb).2.2.2.2.2⟩
end
section
variable {X:Cx}
theorem Zj1 {y:Str}{elt tg iter:Expr}{ifs:List Expr}{scope:Scope}{pos:Pos}{tgs fvs:List Str}{sel:List Nat}{g:TG}{tc:TT}{te:TE}(S:CompScK X.env.scope X.N y scope fvs sel) (hc:X.calm=true)
  (hg:∀C s H ex pn,PG (compCxK X y scope (tgs++fvs) C s H ex pn) tg g) (ht:∀C s H ex pn,PTs (compCxK X y scope (tgs++fvs) C s H ex pn) ifs tc) (he:∀C s H ex pn,PE (compCxK X y scope (tgs++fvs) C s H ex pn) elt te)
  {pins:List (Addr × Obj)}{σ:St}{s:Shared}{itv:Value}{Q:VK}{E:Value->Shared->Prop}{RR:Value->Addr->Result->Shared->Prop}
  (h2:PIE X pins σ tg (λJ H1=>∀acc,H1 acc=none->∃W:Nat->Nat->St->Hp->Prop,
   (∃m,W 0 m (compSt tgs.length sel σ) (upd H1 acc (.lst [])))/\∀i m σ' H',W i m σ' H' →
   (J.stop i H' /\ Q (.ref acc) H')\/(J.go i H' /\ ∃N:St->Hp->Prop,(∀σ2 H2,N σ2 H2->∃m',m'<m/\W (i+1) m' σ2 H2) ∧
   ∀x H2,J.yld i H' x H2->g x σ' H2 λσ2 H3=>tc σ2 H3 λb H4=>if b=true then te σ2 H4 λy H5=>∃ys,H5 acc=some (.lst ys)/\ys.length<sizeLine/\N σ2 (upd H5 acc (.lst (ys++[y]))) else N σ2 H4)) itv s)
  (fin:∀(s':Shared) (C acc:Addr) (H':Hp) (m:Str->Option Value),s'.heap.Ns C m->FpOk X pins H' C->(∀h',Heap.SameBut C s'.heap h' -> Inv X pins σ H' { s' with heap:=h' })->Q (.ref acc) H' -> RR (.ref acc) C (.ok .next) s') :
  wpAny (model X.prog X.w) X.A (newList []) (λacc s3=>wpAny (model X.prog X.w) X.A (newFunctionEnv scope X.env.globals (clOf X.env scope.names []) [] X.env.qual none .none (some X.env)) (λcenv s4=>
   codeAny (model X.prog X.w) X.A (.compStart (.ListComp elt [⟨tg,iter,ifs,0⟩] scope pos) 0 itv acc { cenv with scope:=relabel scope X.env }) (RR acc cenv.locals) s4) E s3) E s:=by
 obtain⟨it,fp,tn,J,H1,e,I,T,st,f2,h2⟩:=h2;subst e;have hlt:∀b∈fp,b<s.heap.objs.size:=λb hb=>let ⟨o,ho,_⟩:=T.obj 0 _ st b hb; Wam ho
 refine wpAny_newObj_type (newEnvK S λh1 hns hcl old=>?_);dsimp only at hns hcl old ⊢;have I3:Inv X pins σ (upd H1 s.heap.objs.size (.lst [])) { s with heap:=s.heap.push { cls:=.type "list",data:=.seq ([]:List Value).toArray },toks:=s.toks }:=I.lnew (its:=[]) .nil (by decide);have hacc:H1 s.heap.objs.size=none:=I.hok.fresh (Wak _);obtain⟨W,⟨m0,w0⟩,turn⟩:=h2 s.heap.objs.size hacc;generalize hs3:({ s with heap:=s.heap.push { cls:=.type "list",data:=.seq ([]:List Value).toArray },toks:=s.toks }:Shared)=s3 at I3;have hh3:s3.heap=s.heap.push { cls:=.type "list",data:=.seq ([]:List Value).toArray }:=by rw[<- hs3]
 have old3:∀b o,s.heap.get? b=some o->s3.heap.get? b=some o:=λb o q=>by rw[hh3];exact Wae _ q
 have hf3:∀b∈fp,FpOk X pins (upd H1 s.heap.objs.size (.lst [])) b:=λb hb=>⟨by rw[Zas (Was (hlt b hb))];exact(f2 b hb).1,(f2 b hb).2⟩;have hlt3:∀b∈fp,b<s3.heap.objs.size:=λb hb=>by rw[hh3,Wdl];exact Wbm (hlt b hb)
 have tn3:tn 0 s3.heap:=T.keep 0 _ _ st λb hb o q=>old3 b o q;have old4:∀b o,s3.heap.get? b=some o->h1.get? b=some o:=λb o q=>by
  rw[hh3]at q;exact old b o q
 have tn4:tn 0 h1:=T.keep 0 _ _ tn3 λb hb o q=>old4 b o q;have hC:(s.heap.push { cls:=.type "list",data:=.seq ([]:List Value).toArray }).objs.size=s3.heap.objs.size:=by rw[hh3]
 rw[hC]at hns hcl;have J0:=Zk3 (tgs:=tgs) (tk:=s.toks) S I3 hf3 hlt3 hns hcl old4;have es:({ s3 with heap:=h1,toks:=s.toks }:Shared) = { s with heap:=h1,toks:=s.toks }:=by rw[<- hs3]
 rw[es]at J0;generalize hY:compCxK X y scope (tgs++fvs) s3.heap.objs.size s3 (upd H1 s.heap.objs.size (.lst [])) fp (X.pn++pins)=Y at J0;have hYp:Y.prog=X.prog:=by rw[<- hY];rfl
 have hYw:Y.w=X.w:=by rw[<- hY];rfl
 have hYK:Y.K=X.K:=by rw[<- hY];rfl
 have hYA:Y.A=X.A:=by rw[<- hY];rfl
 have hYc:Y.calm=true:=by rw[<- hY];exact hc
 have hYx:Y.xe=λ_ _=>False:=by rw[<- hY];rfl
 have hYe:Y.env=compEnvC scope ((y,s3.heap.objs.size+1)::clOf X.env scope.names []) s3.heap.objs.size X.env:=by rw[<- hY];rfl
 have stat:∀{H':Hp},(∀b∈fp,H' b=none)->∀b∈fp,FpOk Y [] H' b:=λhn b hb=>by
  rw[<- hY];refine⟨hn b hb,Was (hlt3 b hb),λz=>?_,.inl hb,λx c e=>?_,λp hp z=>?_⟩
  ·rcases Wat.mp (I3.stkSub b z) with q|q
   ·exact(hf3 b hb).2.1 q
   ·exact(hf3 b hb).2.2.1 q
  ·rcases ownK e with ⟨_,z⟩|z
   ·rw[z];exact Wcz (Wbm (hlt3 b hb))
   ·exact(hf3 b hb).2.2.2.2.1 x c z
  ·have hp:p∈(X.pn++pins)++[]:=hp
   rw[Wbf]at hp;exact(hf3 b hb).2.2.2.2.2 p hp z
 have loop:codeAny (model X.prog X.w) X.A (.compLoop (.ListComp elt [⟨tg,iter,ifs,0⟩] scope pos) 0 (.ref it) (.ref s.heap.objs.size) Y.env) (RR (.ref s.heap.objs.size) s3.heap.objs.size)
   { s with heap:=h1,toks:=s.toks }:=by
  refine codeAny_loop rfl (λn s'=>∃i σ' H',Inv Y [] σ' H' s' /\ tn i s'.heap/\(∀b∈fp,H' b=none)/\W i n σ' H') ?_ m0 ⟨0,_,_,J0,tn4,λb hb=>(hf3 b hb).1,w0⟩;rintro n s5 ⟨i,σ5,H5,I5,st5,fr5,w5⟩;show wpAny _ X.A ((compTurn (.ListComp elt [⟨tg,iter,ifs,0⟩] scope pos) 0 (.ref it) (.ref s.heap.objs.size) Y.env).onRaise (λx=>do noteFrame x Y.env;theTreesLotGoes x)) _ _ s5;refine wpAny_noted (wpAny_mono (E:=λ_ _=>False) ?_ (λ_ _ q=>q) λ_ _ z=>z.elim);rw[compTurn_list];refine wpAny_bind (wpAny_standAt (wpAny_bind ?_));rcases turn i n σ5 H5 w5 with ⟨stop,qn⟩|⟨go,N,hN,step⟩
  ·have D:=T.done Y hYp hYw hYK hYc i [] s5 σ5 H5 (λ_ _=>False) I5 (stat fr5) st5 stop
   rw[hYA]at D;refine thn D λr s6 ⟨hr,I6⟩=>?_;subst hr;refine wpAny_pure ?_;obtain⟨m6,hn6,_⟩:=I6.loc;rw[hYe]at hn6;refine fin s6 _ _ H5 m6 hn6 (I3.fpOk (Wak _) (by have z:=I6.free;rw[hYe]at z;exact z)) (λh' sb=>?_) qn;have I6':Inv (compCxK X y scope (tgs++fvs) s3.heap.objs.size s3 (upd H1 s.heap.objs.size (.lst [])) fp (X.pn++pins)) [] σ5 H5 s6:=by rw[hY];exact I6
   exact Zkp I3 hf3 I6' sb
  ·have D:=T.item Y hYp hYw hYK hYc i [] s5 σ5 H5 (λ_ _=>False) I5 (stat fr5) st5 go
   rw[hYA]at D;refine thn D λr s6 ⟨u,hr,h6⟩=>?_;subst hr;refine wpAny_bind (thn h6 λ_ s7 ⟨x,H7,I7,r7,y7,st7,fr7⟩=>?_);have I7':=I7.pinned (stat fr7) (T.obj _ _ st7);have G:=hg s3.heap.objs.size s3 (upd H1 s.heap.objs.size (.lst [])) fp (X.pn++pins);have TT:=ht s3.heap.objs.size s3 (upd H1 s.heap.objs.size (.lst [])) fp (X.pn++pins);have EE:=he s3.heap.objs.size s3 (upd H1 s.heap.objs.size (.lst [])) fp (X.pn++pins);rw[hY]at G TT EE;have G1:=G _ s7 σ5 H7 x u _ I7' r7 (step x H7 y7);rw[hYp,hYw,hYA,hYx]at G1;refine wpAny_bind (thn G1 λ_ s8 ⟨σ8,H8,I8,q8⟩=>?_);have T1:=TT _ s8 σ8 H8 _ I8 q8;rw[hYp,hYw,hYA,hYx]at T1;refine wpAny_bind (thn T1 λok s9 ⟨H9,I9,q9⟩=>?_);have again:∀{s':Shared}{σ':St}{H':Hp},Inv Y ([]++pinsAt fp s7.heap) σ' H' s' -> N σ' H' -> ∃m,m<n/\∃i σ' H',Inv Y [] σ' H' s' /\ tn i s'.heap/\(∀b∈fp,H' b=none)/\W i m σ' H':=λ{s' σ' H'} K7 n7=>by
    obtain⟨m',hm,w7⟩:=hN σ' H' n7;refine⟨m',hm,i+1,σ',H',K7.unpinned,T.keep _ _ _ st7 λb hb o e=>(K7.pin (b,o) (Waz _ (Waz _ (Zb3 hb e)))).1,λb hb=>?_,w7⟩;obtain⟨o,e,d⟩:=T.obj _ _ st7 b hb;exact(K7.pin (b,o) (Waz _ (Waz _ (Zb3 hb e)))).2.1
   cases ok with
   |false=>
    have q9:N σ8 H9:=q9;exact wpAny_pure ⟨by rw[hYe],again I9 q9⟩
   |true=>
    have q9:te σ8 H9 λy H5=>∃ys,H5 s.heap.objs.size=some (.lst ys)/\ys.length<sizeLine/\N σ8 (upd H5 s.heap.objs.size (.lst (ys++[y]))):=q9;have E1:=EE _ s9 σ8 H9 _ I9 q9;rw[hYp,hYw,hYA,hYx]at E1;refine wpAny_bind (wpAny_bind (thn E1 λv sa ⟨y,Ha,Ia,ra,ys,ea,za,na⟩=>?_));have M:=Zc4 (X:=Y) _ sa σ8 Ha (.ref s.heap.objs.size) [y] (.ref s.heap.objs.size) [v] (λ_ H=>N σ8 H) Ia rfl (.cons ra .nil) ⟨_,ys,y,rfl,rfl,ea,za,na⟩;rw[hYp,hYw,hYA,hYx]at M;refine wpAny_bind (thn M λ_ sb ⟨_,Hb,Ib,_,nb⟩=>wpAny_pure (wpAny_pure ⟨by rw[hYe],again Ib nb⟩))
 have hcs:(relabel scope X.env)=(relabel scope X.env):=rfl;have loop':=loop;rw[hYe]at loop';show codeAny (model X.prog X.w) X.A (.compStart (.ListComp elt [⟨tg,iter,ifs,0⟩] scope pos) 0 (.ref it) (.ref s.heap.objs.size) (compEnvC scope ((y,(s.heap.push { cls:=.type "list",data:=.seq ([]:List Value).toArray }).objs.size+1)::clOf X.env scope.names []) (s.heap.push { cls:=.type "list",data:=.seq ([]:List Value).toArray }).objs.size X.env)) (RR (.ref s.heap.objs.size) (s.heap.push { cls:=.type "list",data:=.seq ([]:List Value).toArray }).objs.size) _;rw[hC];exact codeAny_compStart_list loop' (T.self _ 0 _ _ _ tn4 loop')
theorem Zlo {y:Str}{elt tg iter:Expr}{ifs:List Expr}{scope:Scope}{pos:Pos}{fvs:List Str}{sel:List Nat}{wi:TI}{g:TG}{tc:TT}{te:TE}(tgs:List Str) (S:CompScK X.env.scope X.N y scope fvs sel) (hc:X.calm=true)
  (hi:PI X tg iter wi) (hg:∀C s H ex pn,PG (compCxK X y scope (tgs++fvs) C s H ex pn) tg g) (ht:∀C s H ex pn,PTs (compCxK X y scope (tgs++fvs) C s H ex pn) ifs tc) (he:∀C s H ex pn,PE (compCxK X y scope (tgs++fvs) C s H ex pn) elt te)
  (hs:∀x,foldedSetIterable iter X.env x=pure x:=by intro _;rfl) :
  PE X (.ListComp elt [⟨tg,iter,ifs,0⟩] scope pos) (tComp tgs.length sel wi g tc te):=by
 intro pins s σ H Q I h;rw[eval_ListComp];refine wpAny_comprehension_free (use:=none) rfl hs (Zb5 (Zfc S I.ok)) S.kind S.names (thn (hi pins s σ H _ I h) λv s1 h1=>thn h1 λitv s2 h2=>?_);refine Zj1 S hc hg ht he (RR:=λacc C=>compPost (model X.prog X.w) X.A X.xe none (EP X pins σ Q) acc C) (Q:=Q) h2 ?_;intro s' C acc H' m hn _ hI q;exact⟨m,hn,λh' sb=>⟨.ref acc,H',hI h' sb,rfl,q⟩⟩
end
open PySem PySem.Spec PyProof.Rows PySem.SeqAt
section
variable {K:W.Frag}{Δ:Evt}{P:D->Evt->Prop}
theorem Zqb {b:Bool}(p:P (.int (if b then 1 else 0)) Δ):JC K (λxs H Q=>(∃i,xs=[.int i]/\Q (.int i) H)\/∃k,xs=[.bl k]/\Q (.int (if k then 1 else 0)) H) [.bl b] Δ P:=λg G H σ Q vs k rs c=>by
 obtain⟨_,_,rfl,r,t⟩:=rs.inv
 next=>cases t.inv;cases r.inv;exact .inr ⟨b,rfl,c _ _ G H Δ k (Same.refl _) (.int _) p⟩
end
section
variable {K:W.Frag}{Δ:Evt}
theorem Zqz {ta:TA}{Po:OD->Evt->Prop}(h:JA K ta Δ λds Δ1=>∃es,(ds=[.tup es]\/ds=[.lst es])/\Po (.lst es) Δ1):JO K (tCB (rLst K) ta) Δ Po:=λg G H σ Q k c=>
 h g G H σ _ k λvs ds G1 H1 Δ1 k1 s1 r1 hq_=>by
  obtain⟨es,e,p⟩:=hq_;rcases e with e|e <;> subst e
  ·obtain⟨_,_,rfl,r,t⟩:=r1.inv
   next=>
    cases t.inv;obtain⟨_,_,rfl,ha,rs⟩:=r.inv
    next=>
     refine⟨_,_,rfl,.inr (SqT.of (k1.live _ _ ha)),λl hl=>?_⟩;obtain⟨k2,pd⟩:=k1.fresh (od:=.lst es) hl (show OwnRep K G1 (.lst _) (.lst es) from rs);exact c l _ G1 _ Δ1 k2 s1 pd p
  ·obtain⟨_,_,rfl,r,t⟩:=r1.inv
   next=>
    cases t.inv;obtain⟨_,_,rfl,ha,rs⟩:=r.inv
    next=>
     refine⟨_,_,rfl,.inl (SqL.of (k1.live _ _ ha)),λl hl=>?_⟩;obtain⟨k2,pd⟩:=k1.fresh (od:=.lst es) hl (show OwnRep K G1 (.lst _) (.lst es) from rs);exact c l _ G1 _ Δ1 k2 s1 pd p
theorem Zth {i:Nat}{te:TE}{ti:TIp}{d:D}{nx bk ct:Evt->Prop}{rt:D->Evt->Prop}{ro:OD->Evt->Prop}(hx:Δ[i]?=some (.val d)) (h:JE K te Δ λe Δ1=>Δ1[i]?=some (.val d)/\JR2 K ti d e Δ1 λz Δ2=>nx (Δ2.set i (.val z))):JS K (tAug i te ti) Δ ⟨nx,rt,bk,ct,ro⟩:=λg G H σ E k c=>by
 obtain⟨v,h1,h2⟩:=k.val i d hx;refine⟨v,h1,h g G H σ _ k λu e G1 H1 Δ1 k1 s1 r1 ⟨_,p1⟩=>p1 g G1 H1 σ _ v u k1 (h2.mono s1) r1 λz dz G2 H2 Δ2 k2 s2 r2 p2=>?_⟩;exact c.nx _ G2 H2 _ (k2.setVal' i r2) p2
end
open PySem PySem.Spec PyProof.Rows PySem.SeqAt
section
variable {K:W.Frag}{Δ:Evt}{P:D->Evt->Prop}
end
section
variable {K:W.Frag}{Δ:Evt}
end
section
variable {prog:Program}{w:World}{A:Around}{E:Value->Shared->Prop}{s:Shared}
theorem Zfb {l:Addr}{vs:List Value}{Q:List Value->Shared->Prop}(hl:s.heap.IsTuple l vs.toArray)
  (h:Q vs { s with heap:=(s.heap.push (seqObj "list" #[] 0)).update s.heap.objs.size (Obj.mapSeq (· ++ vs.toArray)) }) (hsz:vs.length<=sizeLine) :
  wpAny (model prog w) A (collect (.ref l)) Q E s:=by
 obtain⟨o,ho,hc,n,hd⟩:=id hl;unfold collect;refine wpAny_bind (wpAny_runValue (codeAny_builtin entry_proto_collect' ?_));show wpAny _ _ (do again (.builtin "list.__iadd__" ⟨[← newList [],.ref l],[]⟩)) _ _ s;refine wpAny_bind (wpAny_newList (wpAny_pure ⟨Code.quiet_builtin _ (by decide +kernel),codeAny_builtin entry_list_iadd' ?_⟩));show wpAny _ _ (Builtin.List.listExtendWith (.ref s.heap.objs.size) (.ref l) (.ref s.heap.objs.size)) _ _ { s with heap:=s.heap.push (seqObj "list" #[] 0) };unfold Builtin.List.listExtendWith;have ho':(s.heap.push (seqObj "list" #[] 0)).get? l=some o:=Wae _ ho;refine wpAny_bind (wpAny_typeOf (T:="tuple") ⟨o,ho',hc⟩ ?_);have ht:(Value.type "tuple" == Value.type "tuple")=true:=by rfl
 rw[if_pos (by rw[ht];simp)];refine wpAny_bind (listItems_at ho' hd ?_);refine wpAny_bind (listItems_at (xs:=#[]) (n:=0) (Waq _ rfl) rfl ?_);rw[if_neg (by simp)];refine wpAny_bind (listUpdate_at (xs:=#[]) (n:=0) (Waq _ rfl) rfl ?_ (Wbx _) (by show (#[]++vs.toArray).size<=sizeLine+1;simp only[Array.size_append,Wag,Wbz];omega));refine wpAny_pure ?_;show wpAny (model prog w) A (do
   let o ← load s.heap.objs.size
   match o.data with
   |.seq xs _=>pure xs.toList
   |_=>unsupported "internal:collect") Q E { s with heap:=(s.heap.push (seqObj "list" #[] 0)).update s.heap.objs.size (Obj.mapSeq (· ++ vs.toArray)) }
 refine wpAny_bind (wpAny_load (get?_update_seq (Waq _ rfl) _) ?_);show wpAny _ _ (pure ((#[]:Array Value)++vs.toArray).toList) Q E _;rw[show ((#[]:Array Value)++vs.toArray).toList=vs by simp];exact wpAny_pure h
theorem Zhz {l:Addr}{vs:List Value}{ns:List Int}{Q:Value->Shared->Prop}(hl:s.heap.IsTuple l vs.toArray) (hI:IntsAre vs ns) (h64:vs.length<64)
  (h:∀(out:Array Value) (ns':List Int),IntsAre out.toList ns' -> ns'.Perm ns->ns'.Pairwise (· <= ·)->Q (.ref (s.heap.objs.size+1)) { s with heap:=sortedAll s.heap vs out }) :
  wpAny (model prog w) A (call (.builtin "sorted") [.ref l]) Q E s:=by
 refine Calls.call_function_entry kind_sorted plain_sorted entry_sorted (args_sorted1 _) ?_;unfold Builtin.«sorted»;refine wpAny_bind (m:=checkCount "sorted" 1 1 _) (wpAny_pure ?_);refine wpAny_bind (Zfb hl ?_ (Wb0 (small1000 (by omega))));refine wpAny_bind (wpAny_newList ?_);have hsz:((s.heap.push (seqObj "list" #[] 0)).update s.heap.objs.size (Obj.mapSeq (· ++ vs.toArray))).objs.size=s.heap.objs.size+1:=by
  rw[Wdf,size_push']
 have hoL:(((s.heap.push (seqObj "list" #[] 0)).update s.heap.objs.size (Obj.mapSeq (· ++ vs.toArray))).push (seqObj "list" vs.toArray 0)).get? (s.heap.objs.size+1)=some (seqObj "list" vs.toArray 0):=by
  rw[<- hsz];exact Waq _ rfl
 show wpAny _ _ _ _ _ { s with heap:=((s.heap.push (seqObj "list" #[] 0)).update s.heap.objs.size (Obj.mapSeq (· ++ vs.toArray))).push (seqObj "list" vs.toArray 0) };rw[hsz];refine wpAny_bind (wpAny_holding (wpAny_call_entry slot_list_sort ⟨_,hoL,rfl⟩ entry_list_sort (list_sort_tree hoL hI h64 λout ns' a1 a2 a3=>⟨_,rfl,?_⟩) (args_list_sort _)));exact wpAny_pure ⟨_,rfl,h out ns' a1 a2 a3⟩
end
section
variable {X:Cx}
def rSortT (K:W.Frag):List V->Hp->VK->Prop:=λxs H Q=>∃(p:Addr) (ns:List Int),xs=[.ref p]/\SqT K H p (ns.map V.int)/\ns.length<64/\∀(l:Addr) (ms:List Int),ms.Perm ns->ms.Pairwise (· <= ·)->H l=none->Q (.ref l) (upd H l (.lst (ms.map V.int)))
theorem sortTK (K:W.Frag) (hK:X.K=K:=by rfl):CallR X (.builtin "sorted") (rSortT K):=by
 subst hK;intro pins s σ H xs us Q I r h;obtain⟨p,ns,rfl,hx,hl,q⟩:=h;obtain⟨u,rfl,ru⟩:=vals1 r;cases (show u=Value.ref p from ru);obtain⟨its,w1,p1⟩:=I.seqB (b:=true) hx;have hi:=Zck w1;have hlen:=hi.length;refine Zhz p1 hi (by omega) λout ms o1 o2 o3=>?_;obtain⟨e,he⟩:=sortedAll_at s.heap its out;have hml:=o2.length_eq;refine⟨.ref (s.heap.objs.size+1),_,I.laid (t':=s.toks) (λ_ _ z=>sortedAll_old z) (Wcf _) (show ObjOk X.prog X.w _ _ _ (.lst (ms.map V.int)) from ⟨?_,out.toList,e,Zc6 o1,?_⟩),rfl,q _ ms o2 o3 (I.hok.fresh (Wcf _))⟩
 ·rw[Wab];exact Wb0 (small1000 (by omega))
 ·rw[Array.toArray_toList];exact he
end
section
variable {K:W.Frag}{Δ:Evt}{P:D->Evt->Prop}
theorem Zox {ta:TA}{Po:OD->Evt->Prop}(h:JA K ta Δ λds Δ1=>∃ns:List Int,ds=[.tup (ns.map .int)]/\ns.length<64/\∀ms:List Int,ms.Perm ns->ms.Pairwise (· <= ·)->Po (.lst (ms.map .int)) Δ1):JO K (tCB (rSortT K) ta) Δ Po:=λg G H σ Q k c=>
 h g G H σ _ k λvs ds G1 H1 Δ1 k1 s1 r1 hq_=>by
  obtain⟨ns,e,hl,p⟩:=hq_;subst e;obtain⟨_,_,rfl,r,t⟩:=r1.inv
  next=>
   cases t.inv;obtain⟨a,us,rfl,ha,rr⟩:=r.inv
   next=>
    have ev:=rr.ints;subst ev;refine⟨a,ns,rfl,SqT.of (k1.live _ _ ha),hl,λl ms o1 o2 hl=>?_⟩;obtain⟨k2,pd⟩:=k1.fresh (od:=.lst (ms.map .int)) hl (show OwnRep K G1 (.lst (ms.map V.int)) (.lst (ms.map .int)) from Reps.ofInts ms);exact c l _ G1 _ Δ1 k2 s1 pd (p ms o1 o2)
end
section
variable {X:Cx}
end
structure GB (kd:SortKind) (a0:Array Keyed) (t:SortSt):Prop where
 pm:(arrOf t).Perm a0
 kd:kindOf t=kd
 fl:failedOf t=none
 pd:pendingOf t = #[]
theorem GB.sz {kd:SortKind}{a0:Array Keyed}{t:SortSt}(g:GB kd a0 t):(arrOf t).size=a0.size:=g.pm.size_eq
theorem GB.put {kd:SortKind}{a0:Array Keyed}{t:SortSt}(g:GB kd a0 t) {xs:Array Keyed}(hp:xs.Perm (arrOf t)):GB kd a0 (setArr t xs):=⟨hp.trans g.pm,g.kd,g.fl,g.pd⟩
section
variable {prog:Program}{w:World}{A:Around}{E:Value->Shared->Prop}{s:Shared}{a0:Array Keyed}{κ:KeyKind}{kd:SortKind}
def Orc (prog:Program) (w:World) (A:Around) (E:Value->Shared->Prop) (s:Shared) (κ:KeyKind) (kd:SortKind) (a0:Array Keyed):Prop:=
 ∀t,GB kd a0 t->∀i j,i<a0.size->j<a0.size->∀Q:Option Bool->SortSt->Prop,Q (some (κ.blt (KK κ (arrOf t) i) (KK κ (arrOf t) j))) t->wpS (model prog w) A E s (ltAt' i j) Q t
theorem Ztd {xs:Array Keyed}{m:Nat}(h:SortedToK κ xs m) (hl:m=0 \/ κ.kle (KK κ xs (m-1)) (KK κ xs m)):SortedToK κ xs (m+1):=λi j hij hj=>by
 rcases Wdi j m with z|z
 ·exact h i j hij z
 ·have e:j=m:=by omega
  subst e;rcases Wdi i j with y|y
  ·rcases hl with q|q
   ·omega
   ·exact KeyOrd.kle_trans (h i (j-1) (by omega) (by omega)) q
  ·have e:i=j:=by omega
   subst e;exact KeyOrd.kle_refl _
theorem Zd2 {xs:Array Keyed}{m:Nat}(h:NonIncK κ xs m) (hl:m=0 \/ κ.kle (KK κ xs m) (KK κ xs (m-1))):NonIncK κ xs (m+1):=λi j hij hj=>by
 rcases Wdi j m with z|z
 ·exact h i j hij z
 ·have e:j=m:=by omega
  subst e;rcases Wdi i j with y|y
  ·rcases hl with q|q
   ·omega
   ·exact KeyOrd.kle_trans q (h i (j-1) (by omega) (by omega))
  ·have e:i=j:=by omega
   subst e;exact KeyOrd.kle_refl _
theorem Zt1 (O:Orc prog w A E s κ kd a0) {t:SortSt}{n ok:Nat}{Q:Bool->SortSt->Prop}(hn:n<=a0.size) (hok:ok<=n) (g:GB kd a0 t) (hs:SortedToK κ (arrOf t) ok)
  (h:∀u,GB kd a0 u->SortedToK κ (arrOf u) n->Q true u):wpS (model prog w) A E s (binarySort' 0 n ok) Q t:=by
 rw[binarySort'_eq];simp only[Nat.zero_add];refine wpS_bind (wpS_mono (wpS_forRange (I:=λk c u=>c=(none,())/\GB kd a0 u/\SortedToK κ (arrOf u) (min k n)) (Q:=λc u=>c=(none,())/\GB kd a0 u/\SortedToK κ (arrOf u) n) ?st ?fi ?be) ?po)
 case po=>
  rintro c u ⟨rfl,g',h'⟩;exact wpS_pure (h u g' h')
 case be=>
  refine⟨rfl,g,λi j hij hj=>?_⟩;rcases Nat.eq_zero_or_pos ok with z|z
  ·have e:i=j:=by omega
   subst e;exact KeyOrd.kle_refl _
  ·exact hs i j hij (by omega)
 case fi=>
  rintro c u ⟨hc,g',h'⟩;rw[show min (max (max ok 1) n) n=n by omega]at h';exact⟨hc,g',h'⟩
 case st=>
  rintro k c u hak hkn ⟨rfl,g',h'⟩;rw[show min k n=k by omega]at h';have hk:k<a0.size:=by omega
  refine wpS_bind (wpS_mono (wpS_forRange
   (I:=λx c v=>v=u/\∃l r,c=(none,l,r)/\l<=r/\r<=k/\r-l<=k-x/\(∀i,i<l -> κ.kle (KK κ (arrOf u) i) (KK κ (arrOf u) k))/\∀i,r<=i->i<k -> κ.klt (KK κ (arrOf u) k) (KK κ (arrOf u) i))
   (Q:=λc v=>v=u/\∃l r,c=(none,l,r)/\l<=k/\(∀i,i<l -> κ.kle (KK κ (arrOf u) i) (KK κ (arrOf u) k))/\∀i,l<=i->i<k -> κ.klt (KK κ (arrOf u) k) (KK κ (arrOf u) i)) ?ist ?ifi ?ibe) ?ipo)
  case ibe=>exact⟨rfl,0,k,rfl,by omega,by omega,by omega,λi z=>by omega,λi z y=>by omega⟩
  case ifi=>
   rintro c v ⟨rfl,l,r,rfl,z1,z2,z3,lo,hi⟩;obtain rfl:l=r:=by omega
   exact⟨rfl,l,l,rfl,z2,lo,hi⟩
  case ist=>
   rintro x c v _ hx ⟨rfl,l,r,rfl,z1,z2,z3,lo,hi⟩;dsimp only;by_cases hge:l ≥ r
   ·obtain rfl:l=r:=by omega
    rw[if_pos hge];exact wpS_pure ⟨rfl,l,l,rfl,z2,lo,hi⟩
   ·rw[if_neg hge]
    refine wpS_bind (O v g' _ _ hk (by omega) _ ?_);cases e:κ.blt (KK κ (arrOf v) k) (KK κ (arrOf v) ((l+r) / 2)) with
    |true=>
     simp only[if_true];exact wpS_pure ⟨rfl,l,(l+r) / 2,rfl,by omega,by omega,by omega,lo,λi y1 y2=>KeyOrd.klt_of_klt_of_kle e (h' _ _ y1 y2)⟩
    |false=>
     simp only[Wba,if_false];exact wpS_pure ⟨rfl,(l+r) / 2+1,r,rfl,by omega,by omega,by omega,λi y1=>KeyOrd.kle_trans (h' i ((l+r) / 2) (by omega) (by omega)) e,hi⟩
  case ipo=>
   rintro c v ⟨rfl,l,r,rfl,hl,lo,hi⟩;show wpS _ _ _ _ (do moveDown' k l;pure (ForInStep.yield (none,()))) _ _;rw[moveDown'_eq];refine wpS_bind (wpS_modify (wpS_pure ⟨rfl,g'.put (bubble_perm _ _ _),?_⟩));rw[show min (k+1) n=k+1 by omega];have hz:k<(arrOf v).size:=by rw[g'.sz];exact hk
   intro i j hij hj;show κ.kle (KK κ (bubble (arrOf v) k (k-l)) i) (KK κ (bubble (arrOf v) k (k-l)) j);rw[KK_bubble hz (by omega),KK_bubble hz (by omega),show k-(k-l)=l by omega];by_cases i1:i=l
   ·rw[if_pos i1]
    by_cases j1:j=l
    ·rw[if_pos j1];exact KeyOrd.kle_refl _
    ·rw[if_neg j1,if_pos (by omega)]
     exact KeyOrd.kle_of_klt (hi _ (by omega) (by omega))
   ·rw[if_neg i1]
    by_cases j1:j=l
    ·rw[if_pos j1,if_neg (by omega)]
     exact lo _ (by omega)
    ·rw[if_neg j1]
     by_cases i2:l<i/\i<=k
     ·rw[if_pos i2,if_pos (by omega)]
      exact h' _ _ (by omega) (by omega)
     ·rw[if_neg i2]
      by_cases j2:l<j/\j<=k
      ·rw[if_pos j2]
       exact h' _ _ (by omega) (by omega)
      ·rw[if_neg j2]
       exact h' _ _ (by omega) (by omega)
theorem Zrq (O:Orc prog w A E s κ kd a0) {t:SortSt}{a nr:Nat}{Q:AscSt->SortSt->Prop}(hn:nr<=a0.size) (ha:1<=a) (han:a<=nr) (g:GB kd a0 t) (hs:SortedToK κ (arrOf t) a)
  (h:∀n,a<=n->n<=nr->SortedToK κ (arrOf t) n->(n=nr \/ κ.klt (KK κ (arrOf t) n) (KK κ (arrOf t) (n-1)))->Q (none,n) t):wpS (model prog w) A E s (ascLoop a nr) Q t:=by
 unfold ascLoop;refine wpS_forRange (I:=λx c u=>u=t/\c=(none,x)/\SortedToK κ (arrOf t) x) ?st ?fi ⟨rfl,rfl,hs⟩
 case fi=>
  rintro c u ⟨rfl,rfl,h'⟩;rw[show max a nr=nr by omega]at h' ⊢;exact h nr han (Wak _) h' (Or.inl rfl)
 case st=>
  rintro x c u hax hxn ⟨rfl,rfl,h'⟩;dsimp only;refine wpS_bind (O u g _ _ (by omega) (by omega) _ ?_);cases e:κ.blt (KK κ (arrOf u) x) (KK κ (arrOf u) (x-1)) with
  |true=>
   simp only[if_true];exact wpS_pure (h x hax (by omega) h' (Or.inr e))
  |false=>
   simp only[Wba,if_false];exact wpS_pure ⟨rfl,rfl,Ztd h' (Or.inr e)⟩
theorem Zpe (O:Orc prog w A E s κ kd a0) {t:SortSt}{n nr:Nat}{Q:Option Nat->SortSt->Prop}(hn:nr<=a0.size) (h1:1<=n) (hnn:n<=nr) (g:GB kd a0 t) (hs:NonIncK κ (arrOf t) n)
  (h:∀m u,GB kd a0 u->1<=m->m<=nr->SortedToK κ (arrOf u) m->Q (some m) u):wpS (model prog w) A E s (tail3 n nr) Q t:=by
 unfold tail3;have hz:n<=(arrOf t).size:=by rw[g.sz];omega
 refine wpS_bind (wpS_reverse ?_);have g2:GB kd a0 (setArr t (mirror (arrOf t) 0 n ((n-0) / 2))):=g.put (mirror_perm _ _ _ _);refine wpS_bind (Zrq O hn h1 hnn g2 (λi j hij hj=>?_) λm m1 m2 m3 _=>wpS_pure (h m _ g2 (by omega) m2 m3));show κ.kle (KK κ (mirror (arrOf t) 0 n ((n-0) / 2)) i) (KK κ (mirror (arrOf t) 0 n ((n-0) / 2)) j);rw[KK_mirror hz,KK_mirror hz,if_pos (by omega),if_pos (by omega)];exact hs _ _ (by omega) (by omega)
theorem Zr9 (O:Orc prog w A E s κ kd a0) {t:SortSt}{n nr:Nat}{Q:DescSt->SortSt->Prop}(hn:nr<=a0.size) (h1:1<=n) (hnn:n<=nr) (g:GB kd a0 t) (hs:NonIncK κ (arrOf t) n)
  (h:∀m q u,GB kd a0 u->n<=m->m<=nr->NonIncK κ (arrOf u) m->q+1<=m->(∀i,m-(q+1)<=i->i<m->KK κ (arrOf u) i=KK κ (arrOf u) (m-1))->Q (none,m,q) u):wpS (model prog w) A E s (descLoop n nr) Q t:=by
 unfold descLoop;refine wpS_forRange (I:=λx c u=>∃q,c=(none,x,q)/\GB kd a0 u/\NonIncK κ (arrOf u) x/\q+1<=x/\∀i,x-(q+1)<=i->i<x->KK κ (arrOf u) i=KK κ (arrOf u) (x-1)) ?st ?fi ⟨0,rfl,g,hs,by omega,λi y1 y2=>by rw[show i=n-1 by omega]⟩
 case fi=>
  rintro c u ⟨q,rfl,g',h',q1,q2⟩;rw[show max n nr=nr by omega]at h' q1 q2 ⊢;exact h nr q u g' hnn (Wak _) h' q1 q2
 case st=>
  rintro x c u hax hxn ⟨q,rfl,g',h',q1,q2⟩;dsimp only;have hz:x<=(arrOf u).size:=by rw[g'.sz];omega
  refine wpS_bind (O u g' _ _ (by omega) (by omega) _ ?_);cases e:κ.blt (KK κ (arrOf u) x) (KK κ (arrOf u) (x-1)) with
  |true=>
   simp only[if_true];by_cases hq:q > 0
   ·rw[if_pos hq]
    have same:=KK_mirror_equal hz q2;refine wpS_bind (wpS_reverse (wpS_pure ⟨0,rfl,g'.put (mirror_perm _ _ _ _),?_,by omega,λi y1 y2=>by rw[show i=x+1-1 by omega]⟩));refine Zd2 (λi j hij hj=>?_) (Or.inr ?_)
    ·show κ.kle (KK κ (mirror (arrOf u) _ _ _) j) (KK κ (mirror (arrOf u) _ _ _) i)
     rw[same,same];exact h' i j hij hj
    ·show κ.kle (KK κ (mirror (arrOf u) _ _ _) x) (KK κ (mirror (arrOf u) _ _ _) (x-1))
     rw[same,same];exact KeyOrd.kle_of_klt e
   ·rw[if_neg hq]
    exact wpS_pure ⟨0,rfl,g',Zd2 h' (Or.inr (KeyOrd.kle_of_klt e)),by omega,λi y1 y2=>by rw[show i=x+1-1 by omega]⟩
  |false=>
   simp only[Wba,if_false];refine wpS_bind (O u g' _ _ (by omega) (by omega) _ ?_);cases e2:κ.blt (KK κ (arrOf u) (x-1)) (KK κ (arrOf u) x) with
   |true=>
    simp only[if_true];exact wpS_pure (h x q u g' hax (by omega) h' q1 q2)
   |false=>
    simp only[Wba,if_false];have ex:KK κ (arrOf u) x=KK κ (arrOf u) (x-1):=KeyOrd.kle_antisymm e2 e;refine wpS_pure ⟨q+1,rfl,g',Zd2 h' (Or.inr e2),by omega,λi y1 y2=>?_⟩;show _=KK κ (arrOf u) x;rcases Wdi i x with y|y
    ·rw[ex];exact q2 i (by omega) y
    ·rw[show i=x by omega]
theorem Zfw (O:Orc prog w A E s κ kd a0) {t:SortSt}{n nr:Nat}{Q:Option Nat->SortSt->Prop}(hn:nr<=a0.size) (hnn:n+1<=nr) (g:GB kd a0 t) (hs:NonIncK κ (arrOf t) (n+1))
  (h:∀m u,GB kd a0 u->1<=m->m<=nr->SortedToK κ (arrOf u) m->Q (some m) u):wpS (model prog w) A E s (descPart n nr) Q t:=by
 unfold descPart;refine wpS_bind (wpS_lift (wpAny_rule ⟨rfl,?_⟩));refine wpS_bind (Zr9 O hn (by omega) hnn g hs λm q u g' m1 m2 h' q1 q2=>?_);dsimp only;have hz:m<=(arrOf u).size:=by rw[g'.sz];omega
 by_cases hq:q > 0
 ·rw[if_pos hq]
  have same:=KK_mirror_equal hz q2;refine wpS_bind (wpS_reverse (Zpe O hn (by omega) m2 (g'.put (mirror_perm _ _ _ _)) (λi j hij hj=>?_) h));show κ.kle (KK κ (mirror (arrOf u) _ _ _) j) (KK κ (mirror (arrOf u) _ _ _) i);rw[same,same];exact h' i j hij hj
 ·rw[if_neg hq]
  exact Zpe O hn (by omega) m2 g' h' h
theorem Zqe (O:Orc prog w A E s κ kd a0) {t:SortSt}{nr:Nat}{Q:Option Nat->SortSt->Prop}(hn:nr<=a0.size) (h1:1<=nr) (g:GB kd a0 t)
  (h:∀m u,GB kd a0 u->1<=m->m<=nr->SortedToK κ (arrOf u) m->Q (some m) u):wpS (model prog w) A E s (countRun' 0 nr) Q t:=by
 rw[countRun0_eq];refine wpS_bind (Zrq O hn (Wak 1) h1 g (λi j hij hj=>by have e:i=j:=(by omega);subst e;exact KeyOrd.kle_refl _) λn n1 n2 n3 n4=>?_);dsimp only;by_cases hnn:n=nr
 ·rw[if_pos (by simpa using hnn)]
  exact wpS_pure (h n t g n1 n2 n3)
 ·rw[if_neg (by simpa using hnn)]
  have lt:=n4.resolve_left hnn;by_cases hg:n > 1
  ·rw[if_pos hg]
   refine wpS_bind (O t g _ _ (by omega) (by omega) _ ?_);cases e:κ.blt (KK κ (arrOf t) 0) (KK κ (arrOf t) (n-1)) with
   |true=>
    simp only[if_true];exact wpS_pure (h n t g n1 n2 n3)
   |false=>
    simp only[Wba,if_false];have hz:n<=(arrOf t).size:=by rw[g.sz];omega
    have all:∀k,0<=k->k<n->KK κ (arrOf t) k=KK κ (arrOf t) (n-1):=λk _ hk=>
     KeyOrd.kle_antisymm (n3 k (n-1) (by omega) (by omega)) (KeyOrd.kle_trans e (n3 0 k (by omega) hk))
    have same:=KK_mirror_equal hz all;refine wpS_bind (wpS_reverse (Zfw O hn (by omega) (g.put (mirror_perm _ _ _ _)) (Zd2 (λi j hij hj=>?_) (Or.inr ?_)) h))
    ·show κ.kle (KK κ (mirror (arrOf t) _ _ _) j) (KK κ (mirror (arrOf t) _ _ _) i)
     rw[same,same,all i (by omega) (by omega),all j (by omega) hj];exact KeyOrd.kle_refl _
    ·show κ.kle (KK κ (mirror (arrOf t) _ _ _) n) (KK κ (mirror (arrOf t) _ _ _) (n-1))
     rw[same,same];exact KeyOrd.kle_of_klt lt
  ·rw[if_neg hg]
   obtain rfl:n=1:=by omega
   refine Zfw O hn (by omega) g (Zd2 (λi j hij hj=>?_) (Or.inr (KeyOrd.kle_of_klt lt))) h;obtain rfl:i=j:=by omega
   exact KeyOrd.kle_refl _
theorem Zr5 (O:Orc prog w A E s κ kd a0) {t:SortSt}{Q:Unit->SortSt->Prop}(g:GB kd a0 t) (h2:2<=a0.size) (h64:a0.size<64)
  (h:∀u,(arrOf u).Perm a0->failedOf u=none->SortedToK κ (arrOf u) a0.size->Q () u):wpS (model prog w) A E s sortRuns' Q t:=by
 have hmr:minRun' a0.size a0.size 0=a0.size:=by
  obtain⟨f,hf⟩:∃f,a0.size=f+1:=⟨a0.size-1,by omega⟩;have:=minRun'_succ f a0.size 0;rw[if_pos h64,<- hf]at this;exact this
 rw[sortRuns'_eq];refine wpS_bind (wpS_get ?_);dsimp only;simp only[g.sz,hmr];refine wpS_bind (wpS_mono (wpS_forRange
  (I:=λx c u=>(x=0/\c=(none,0)/\GB kd a0 u)\/(1<=x/\c=(none,a0.size)/\(arrOf u).Perm a0/\failedOf u=none/\pendingOf u = #[(0,a0.size,0)]/\SortedToK κ (arrOf u) a0.size))
  (Q:=λc u=>c=(none,a0.size)/\(arrOf u).Perm a0/\failedOf u=none/\pendingOf u = #[(0,a0.size,0)]/\SortedToK κ (arrOf u) a0.size) ?st ?fi (Or.inl ⟨rfl,rfl,g⟩)) ?po)
 case fi=>
  rintro c u (⟨z,_,_⟩|⟨_,z⟩)
  ·omega
  ·exact z
 case st=>
  rintro x c u _ hx (⟨rfl,rfl,g'⟩|⟨x1,rfl,z⟩)
  ·dsimp only
   rw[if_neg (by omega)];simp only[Wdy,Wc0,Nat.zero_add];refine wpS_bind (Zqe O (Wak _) (by omega) g' λm v gv m1 m2 m3=>?_);have fin:∀v',GB kd a0 v' -> SortedToK κ (arrOf v') a0.size->(arrOf (setPending v' ((pendingOf v').push (0,a0.size,0)))).Perm a0/\failedOf (setPending v' ((pendingOf v').push (0,a0.size,0)))=none/\pendingOf (setPending v' ((pendingOf v').push (0,a0.size,0))) = #[(0,a0.size,0)]/\SortedToK κ (arrOf (setPending v' ((pendingOf v').push (0,a0.size,0)))) a0.size:=λv' gw sw=>
    ⟨gw.pm,gw.fl,by show (pendingOf v').push _=_;rw[gw.pd];rfl,sw⟩
   dsimp only;by_cases hlt:m<a0.size
   ·rw[if_pos hlt]
    refine wpS_bind (wpS_lift (wpAny_rule ⟨rfl,?_⟩));refine wpS_bind (Zt1 O (Wak _) m2 gv m3 λv' gw sw=>?_);simp only[Bool.not_true,Wba,if_false];refine wpS_bind (wpS_get ?_);rw[show (pendingOf v').back?=none by rw[gw.pd];rfl];dsimp only;exact wpS_bind (wpS_modify (wpS_pure (Or.inr ⟨by omega,rfl,fin v' gw sw⟩)))
   ·rw[if_neg hlt]
    obtain rfl:m=a0.size:=by omega
    refine wpS_bind (wpS_get ?_);rw[show (pendingOf v).back?=none by rw[gv.pd];rfl];dsimp only;exact wpS_bind (wpS_modify (wpS_pure (Or.inr ⟨by omega,rfl,fin v gv m3⟩)))
  ·dsimp only
   rw[if_pos (Wak _)];exact wpS_pure ⟨rfl,z⟩
 case po=>
  rintro c u ⟨rfl,z1,z2,z3,z4⟩;dsimp only;refine wpS_bind (wpS_mono (wpS_forRange (I:=λ_ c v=>v=u/\c=(none,())) (Q:=λc v=>v=u/\c=(none,())) ?_ (λ_ _ q=>q) ⟨rfl,rfl⟩) ?_)
  ·rintro x c v _ _ ⟨rfl,rfl⟩
   refine wpS_bind (wpS_get ?_);rw[if_pos (by rw[z3];exact Wak 1)];exact wpS_pure ⟨rfl,rfl⟩
  ·rintro c v ⟨rfl,rfl⟩
   exact wpS_pure (h _ z1 z2 z4)
end
abbrev rlt:=HT.lexLt
theorem Zff (x y:Int) (xs ys:List Int):rlt (x::xs) (y::ys)=if x=y then rlt xs ys else decide (x<y):=rfl
theorem Zi5:∀a:List Int,rlt a a=false
 |[]=>rfl
 |x::a=>by rw[Zff,if_pos rfl];exact Zi5 a
theorem Zm8:∀a b c:List Int,rlt a b=true->rlt b c=true->rlt a c=true
 |[],[],_,h,_=>by cases h
 |[],_::_,[],_,h=>by cases h
 |[],_::_,_::_,_,_=>rfl
 |_::_,[],_,h,_=>by cases h
 |_::_,_::_,[],_,h=>by cases h
 |x::a,y::b,z::c,h1,h2=>by
  rw[Zff]at h1 h2 ⊢;by_cases e1:x=y
  ·by_cases e2:y=z
   ·rw[if_pos e1]at h1;rw[if_pos e2]at h2;rw[if_pos (e1.trans e2)]
    exact Zm8 a b c h1 h2
   ·rw[if_neg e2,decide_eq_true_eq]at h2
    rw[if_neg (by omega),decide_eq_true_eq];omega
  ·rw[if_neg e1,decide_eq_true_eq]at h1
   by_cases e2:y=z
   ·rw[if_neg (by omega),decide_eq_true_eq];omega
   ·rw[if_neg e2,decide_eq_true_eq]at h2
    rw[if_neg (by omega),decide_eq_true_eq];omega
theorem Zlj:∀a b c:List Int,rlt a c=true->rlt a b=true\/rlt b c=true
 |[],[],_,h=>Or.inr h
 |[],_::_,_,_=>Or.inl rfl
 |_::_,_,[],h=>by cases h
 |_::_,[],_::_,_=>Or.inr rfl
 |x::a,y::b,z::c,h=>by
  rw[Zff]at h;rw[Zff,Zff];by_cases e:x=z
  ·subst e
   rw[if_pos rfl]at h;by_cases e1:x=y
   ·subst e1;rw[if_pos rfl,if_pos rfl];exact Zlj a b c h
   ·rw[if_neg e1,if_neg (Ne.symm e1),decide_eq_true_eq,decide_eq_true_eq];omega
  ·rw[if_neg e,decide_eq_true_eq]at h
   by_cases e1:x=y
   ·subst e1;right;rw[if_neg e,decide_eq_true_eq];exact h
   ·rw[if_neg e1]
    by_cases e2:y=z
    ·left;rw[decide_eq_true_eq];omega
    ·rw[if_neg e2,decide_eq_true_eq,decide_eq_true_eq];omega
theorem Zg0:∀a b:List Int,rlt a b=false->rlt b a=false->a=b
 |[],[],_,_=>rfl
 |[],_::_,h,_=>by cases h
 |_::_,[],_,h=>by cases h
 |x::a,y::b,h1,h2=>by
  rw[Zff]at h1 h2;by_cases e:x=y
  ·subst e
   rw[if_pos rfl]at h1 h2;rw[Zg0 a b h1 h2]
  ·rw[if_neg e,decide_eq_false_iff_not]at h1
   rw[if_neg (Ne.symm e),decide_eq_false_iff_not]at h2;omega
theorem RowAt.inj {h:Heap}{v:Value}{a b:List Int}(x:RowAt h v a) (y:RowAt h v b):a=b:=by
 obtain⟨p,its,rfl,⟨o,ho,hc,n,hd⟩,hi⟩:=x;obtain⟨q,its2,e,⟨o2,ho2,hc2,n2,hd2⟩,hi2⟩:=y;cases e;rw[ho]at ho2;cases ho2;rw[hd]at hd2;have e:its=its2:=by
  have:=Data.seq.inj hd2;simpa using this.1
 subst e;clear hd hd2
 induction hi generalizing b with
 |nil=>cases hi2;rfl
 |cons n t _ ih=>cases hi2 with|cons _ _ r=>rw[ih r]
open Classical in
noncomputable def rowKey (h:Heap):PyProof.Rows.KeyKind where
 α:=List Int
 blt:=rlt
 irrefl:=Zi5
 trans:=Zm8
 negTrans:=Zlj
 total:=Zg0
 keyOf:=λv=>if e:∃r,RowAt h v r then some (Classical.choose e) else none
 dflt:=[]
open Classical in
theorem Ze0 {h:Heap}{v:Value}{r:List Int}(x:RowAt h v r):(rowKey h).keyOf v=some r:=by
 show (if e:∃r,RowAt h v r then some (Classical.choose e) else none)=some r;rw[dif_pos ⟨r,x⟩];exact congrArg some ((Classical.choose_spec (⟨r,x⟩:∃r,RowAt h v r)).inj x)
section
variable {prog:Program}{w:World}{A:Around}{E:Value->Shared->Prop}{s:Shared}
theorem Zji {Q:Bool->Shared->Prop}:∀{us vs:List Value}{as bs:List Int}(i:Nat),IntsAre us as->IntsAre vs bs->Q (rlt as bs) s->PySem.W.KatLex prog w A true (decide (as.length<bs.length)) Q (us.zip vs) i s
 |_,_,[],[],i,.nil,.nil,h=>h
 |_,_,[],b::bs,i,.nil,.cons _ _ _,h=>by
  rw[Wdt];refine PySem.W.kat_nil ?_;rw[decide_eq_true (by simp)];exact h
 |_,_,a::as,[],i,.cons _ _ _,.nil,h=>by
  rw[Wdp];refine PySem.W.kat_nil ?_;rw[decide_eq_false (by simp)];exact h
 |_,_,a::as,b::bs,i,.cons _ t x,.cons _ t' y,h=>by
  rw[Wb1];refine PySem.W.kat_cons (SeqAt.EqAt.int_int a t b t' prog w _ _ ?_);rw[Zff]at h;by_cases e:a=b
  ·rw[if_pos e]at h
   rw[show (a == b)=true by simp[e]];refine PySem.W.kat_yes ?_;have:=Zji (Q:=Q) (i+1) x y h;rw[Wao,Wao,show decide (as.length+1<bs.length+1)=decide (as.length<bs.length) by simp];exact this
  ·rw[if_neg e]at h
   rw[show (a == b)=false by simp[e]];refine PySem.W.kat_no ?_;cases z:(true && i == 0) with
   |true=>exact oneLt_int h
   |false=>exact PySem.W.kat_one _ _ (lt_int h)
theorem Zoy {v u:Value}{a b:List Int}{Q:Bool->Shared->Prop}(pa:RowAt s.heap v a) (pb:RowAt s.heap u b) (h:Q (rlt a b) s):wpAny (model prog w) A (keyLt' (tuples' true) v u) Q E s:=by
 obtain⟨l,its,rfl,⟨o1,ho,hc,n,hd⟩,hi⟩:=pa;obtain⟨k,its2,rfl,⟨o2,ho2,hc2,n2,hd2⟩,hi2⟩:=pb;refine PySem.W.kat_lt ho hd ho2 hd2 ?_;have:=Zji (prog:=prog) (w:=w) (A:=A) (Q:=Q) 0 hi hi2 h;rw[<- hi.length,<- hi2.length]at this;simpa using this
theorem Zoa {v u:Value}{a b:List Int}{Q:Bool->Shared->Prop}(hu:A.units<cLine) (pa:RowAt s.heap v a) (pb:RowAt s.heap u b) (h:Q (rlt a b) s):wpAny (model prog w) A (keyLt' oneType' v u) Q E s:=by
 obtain⟨l,its,rfl,⟨⟨c1,d1,dt1,sl1⟩,ho,hc,n,hd⟩,hi⟩:=pa;obtain⟨k,its2,rfl,⟨⟨c2,d2,dt2,sl2⟩,ho2,hc2,n2,hd2⟩,hi2⟩:=pb;simp only at hc hd hc2 hd2;subst hc hd hc2 hd2;rw[keyLt'_oneType,oneLt'_eq];simp only[if_true];refine wpAny_bind (wpAny_cRoomFor hu ?_);refine wpAny_bind (wpAny_callSpecialIfBound?_slot (T:="tuple") ⟨_,ho,rfl⟩ F.slot_tuple_lt (call_meets F.slot_tuple_lt ⟨_,ho,rfl⟩ F.entry_tuple_lt (F.args_tuple_lt_2 _ _) (HT.tuple_lt_ints l k its.toArray its2.toArray n n2 d1 d2 sl1 sl2 a b (by simpa using hi) (by simpa using hi2)) ⟨ho,ho2,?_⟩));exact wpAny_truthy_bool h
theorem Znv {v u:Value}{a b:List Int}{Q:Bool->Shared->Prop}(hu:A.units<cLine) (pa:RowAt s.heap v a) (pb:RowAt s.heap u b) (h:Q (rlt a b) s):wpAny (model prog w) A (keyLt' general' v u) Q E s:=by
 obtain⟨l,its,rfl,⟨⟨c1,d1,dt1,sl1⟩,ho,hc,n,hd⟩,hi⟩:=pa;obtain⟨k,its2,rfl,⟨⟨c2,d2,dt2,sl2⟩,ho2,hc2,n2,hd2⟩,hi2⟩:=pb;simp only at hc hd hc2 hd2;subst hc hd hc2 hd2;refine PySem.W.kat_one _ _ ?_;exact richCompare_meets_room (op:=.Lt) ⟨_,ho,rfl⟩ ⟨_,ho2,rfl⟩ PySem.F.slot_tuple_lt PySem.F.entry_tuple_lt (PySem.F.args_tuple_lt_2 _ _) (HT.tuple_lt_ints l k its.toArray its2.toArray n n2 d1 d2 sl1 sl2 a b (by simpa using hi) (by simpa using hi2))
  ⟨ho,ho2,show Value.bool (HT.lexLt a b)≠Value.notImplemented/\_ from ⟨(λx=>nomatch x),h⟩⟩ hu
theorem Zkm {vs:List Value}{r:List Int}{rs:List (List Int)}{Q:SortKind->Shared->Prop}(p:Paired (RowAt s.heap) vs (r::rs)) (hr:r≠[]) (he:[]∈rs) (h:Q general' s):wpAny (model prog w) A (keyKind' vs.toArray) Q E s:=by
 rw[keyKind'_eq,Wdu,map_eq_pure_bind];refine wpAny_bind (wpAny_bind (Zdo vs _ p λfs pf=>wpAny_pure ?_));cases pf with
 |@cons f _ fs _ hf pt=>
  obtain⟨x,t,l,e1,rfl⟩:=hf.resolve_left λz=>hr z.1;have no:none∈fs:=by
   clear p h hf
   induction pt with
   |nil=>cases he
   |@cons f r' fs rs q t' ih=>
    rcases Wat.mp he with z|z
    ·subst z
     rcases q with ⟨_,y⟩|⟨_,_,_,y,_⟩
     ·subst y;exact Way
     ·cases y
    ·exact Wav _ (ih z)
  have:((some (Value.int x t)::fs).toArray.all λx=>x.isSome)=false:=by
   rw[List.all_toArray,Wdc];intro z;rw[Wb4]at z;have:=z none (Wav _ no);cases this
  rw[this,if_neg (by simp),if_pos (by simp)];exact wpAny_pure h
end
def keyD (κ:PyProof.Rows.KeyKind) (v:Value):κ.α:=(κ.keyOf v).getD κ.dflt
def Sortd (κ:PyProof.Rows.KeyKind) (out:List Value):Prop:=out.Pairwise λa b=>κ.kle (keyD κ a) (keyD κ b)
theorem twins {vs:List Value}{xs:Array Keyed}(hp:xs.Perm (vs.toArray.zip vs.toArray)):∀p∈xs.toList,p.1=p.2/\p.1∈vs:=λp hm=>by
 have h1:p∈(vs.toArray.zip vs.toArray).toList:=(Array.perm_iff_toList_perm.mp hp).mem_iff.mp hm;rw[Array.toList_zip]at h1;have h1:p∈vs.zip vs:=h1;obtain⟨i,hi⟩:=Wbi.mp h1;rw[Wbg]at hi;exact⟨Wa7.inj (hi.1.symm.trans hi.2),Wan hi.1⟩
theorem Zob {κ:PyProof.Rows.KeyKind}{vs:List Value}{xs:Array Keyed}(hp:xs.Perm (vs.toArray.zip vs.toArray)) (hs:SortedToK κ xs (vs.toArray.zip vs.toArray).size):(xs.map (·.2)).toList.Perm vs/\Sortd κ (xs.map (·.2)).toList:=by
 have hsz:=hp.size_eq;refine⟨?_,?_⟩
 ·rw[Array.toList_map]
  have:=(Array.perm_iff_toList_perm.mp hp).map (·.2);rw[Array.toList_zip]at this;refine this.trans ?_;rw[show (vs.toArray.toList.zip vs.toArray.toList)=vs.zip vs from rfl,Wde (Wak _)]
 ·unfold Sortd
  rw[Wcn];intro i j hi hj hij;rw[Array.length_toList,Array.size_map]at hi hj;have key:∀k (hk:k<xs.size),KK κ xs k=keyD κ (xs.map (·.2)).toList[k]!:=λk hk=>by
   unfold KK keyD;have e:xs[k]?=some xs[k]:=getElem?_pos xs k hk;rw[e];have e2:(xs.map (·.2)).toList[k]! = xs[k].2:=by simp[hk]
   rw[e2,<- (twins hp xs[k] (by simp)).1]
  have:=hs i j (Wb0 hij) (by omega);rw[key i hi,key j hj]at this;simpa [hi,hj] using this
section
variable {prog:Program}{w:World}{A:Around}{E:Value->Shared->Prop}{s:Shared}
theorem Zgk {a:Addr}{vs:List Value}{n:Nat}{kd:SortKind}{κ:PyProof.Rows.KeyKind}{P:Fin->Shared->Prop}(ho:s.heap.get? a=some (seqObj "list" vs.toArray n)) (hz:vs.length<64)
  (hk:2<=vs.length->∀h',KeepBut a s.heap h' -> ∀Q:SortKind->Shared->Prop,Q kd { s with heap:=h' } -> wpAny (model prog w) A (keyKind' vs.toArray) Q E { s with heap:=h' })
  (hc:∀h',KeepBut a s.heap h' -> ∀x∈vs,∀y∈vs,∀(E:Value->Shared->Prop) (Q:Bool->Shared->Prop),Q (κ.blt (keyD κ x) (keyD κ y)) { s with heap:=h' } -> wpAny (model prog w) A (keyLt' kd x y) Q E { s with heap:=h' })
  (h:∀out:List Value,out.Perm vs->Sortd κ out->P (.done (.ret .none)) { s with heap:=sortedHeap s.heap a vs out.toArray }):wpAny (model prog w) A (Builtin.«list.sort» ⟨[.ref a],[]⟩) P E s:=by
 rw[list_sort_plain];have ha:a<s.heap.objs.size:=Wam ho;have hsz:vs.toArray.size=vs.length:=by simp
 have hline:vs.length<=sizeLine:=by rw[sizeLine_eq];omega
 refine wpAny_bind (listItems_at ho rfl ?_);refine wpAny_bind (listUpdate_at ho rfl ?_ (by rw[hsz];exact hline) (Wbx _));obtain⟨e1,ho1⟩:∃e1,(s.heap.update a (Obj.mapSeq λ_=>#[])).get? a=some (seqObj "list" #[] e1):=⟨_,get?_update_seq ho (λ_=>#[])⟩;refine wpAny_bind (seqEpoch_at ho1 rfl ?_);refine wpAny_bind (wpAny_newTuple ?_ hline);refine wpAny_bind (wpAny_newList ?_ (Wbx _));refine wpAny_holding ?_;have ho6:(((s.heap.update a (Obj.mapSeq λ_=>#[])).push (seqObj "tuple" vs.toArray 0)).push (seqObj "list" #[] 0)).get? a=some (seqObj "list" #[] e1):=by
  rw[Wdb _ _ _ (by rw[size_push',Wdf];exact Was (Wbm ha)),Wdb _ _ _ (by rw[Wdf];exact Was ha)];exact ho1
 have keep:KeepBut a s.heap (((s.heap.update a (Obj.mapSeq λ_=>#[])).push (seqObj "tuple" vs.toArray 0)).push (seqObj "list" #[] 0)):=λb o hb q=>
  Wae _ (Wae _ ((Heap.get?_update_ne _ _ _ _ hb).trans q))
 show wpAny (model prog w) A _ P E { s with heap:=((s.heap.update a (Obj.mapSeq λ_=>#[])).push (seqObj "tuple" vs.toArray 0)).push (seqObj "list" #[] 0) };dsimp only;have zsz:(vs.toArray.zip vs.toArray).size=vs.length:=by rw[Array.size_zip,hsz,Wc0]
 by_cases h2:vs.toArray.size<2
 ·have out:((vs.toArray.zip vs.toArray).map (·.2))=vs.toArray:=by
   apply Array.toList_inj.mp;rw[Array.toList_map,Array.toList_zip];exact Wde (Wak _)
  rw[if_pos h2,if_pos h2];refine wpAny_bind (wpAny_pure ?_);rw[StateT.run_pure];refine wpAny_bind (wpAny_pure ?_);dsimp only;refine wpAny_bind (seqEpoch_at ho6 rfl ?_);rw[show arrOf (SortSt.mk' general' (vs.toArray.zip vs.toArray) #[] 7 none)=vs.toArray.zip vs.toArray from rfl,out];refine wpAny_bind (listUpdate_at ho6 rfl ?_ (Wbx _) (by rw[hsz];exact Nat.le_succ_of_le hline));simp only[bne_self_eq_false,Wba,if_false];refine wpAny_pure (h vs (List.Perm.refl _) ?_);unfold Sortd
  match vs,h2 with
  |[],_=>exact .nil
  |[_],_=>exact List.pairwise_singleton _ _
  |_::_::_,z=>simp at z;omega
 ·rw[if_neg h2,if_neg h2]
  refine wpAny_bind (hk (by omega) _ keep _ ?_);have O:Orc prog w A E { s with heap:=((s.heap.update a (Obj.mapSeq λ_=>#[])).push (seqObj "tuple" vs.toArray 0)).push (seqObj "list" #[] 0) } κ kd (vs.toArray.zip vs.toArray):=λt g i j hi hj Q hq=>by
   have at':∀k,k<(vs.toArray.zip vs.toArray).size->∃p,(arrOf t)[k]?=some p/\p.1∈vs/\KK κ (arrOf t) k=keyD κ p.1:=λk hk=>by
    have hk':k<(arrOf t).size:=by rw[g.sz];exact hk
    have e:(arrOf t)[k]?=some (arrOf t)[k]:=getElem?_pos _ k hk';refine⟨_,e,(twins g.pm (arrOf t)[k] (by simp)).2,?_⟩;unfold KK keyD;rw[e]
   obtain⟨p,p1,p2,p3⟩:=at' i hi;obtain⟨q,q1,q2,q3⟩:=at' j hj;rw[p3,q3]at hq;rw[ltAt'_eq];refine wpS_bind (wpS_get ?_);show wpS _ _ _ _ (do let x ← elem' (arrOf t) i;let y ← elem' (arrOf t) j;lt' x y) Q _;rw[elem'_eq,elem'_eq,p1,q1];refine wpS_bind (wpS_pure (wpS_bind (wpS_pure ?_)));rw[lt'_eq];refine wpS_bind (wpS_get ?_);rw[g.kd];refine wpS_bind (wpS_lift (wpAny_attempt (hc _ keep p.1 p2 q.1 q2 _ _ ⟨rfl,?_⟩)));exact wpS_pure hq
  refine wpAny_bind (wpAny_mono (Zr5 (t:=SortSt.mk' kd (vs.toArray.zip vs.toArray) #[] 7 none) O (Q:=λ_ u=>(arrOf u).Perm (vs.toArray.zip vs.toArray)/\failedOf u=none/\SortedToK κ (arrOf u) (vs.toArray.zip vs.toArray).size) ⟨Array.Perm.refl _,rfl,rfl,rfl⟩ (by rw[zsz];omega) (by rw[zsz];exact hz) λu u1 u2 u3=>⟨u1,u2,u3⟩) ?_ λ_ _ e=>e);rintro⟨⟨⟩,u⟩ s' ⟨rfl,hp,hf,hs⟩;dsimp only;obtain⟨o1,o2⟩:=Zob hp hs;have hfin:=h _ o1 o2;rw[Array.toArray_toList]at hfin;refine wpAny_bind (seqEpoch_at ho6 rfl ?_);refine wpAny_bind (listUpdate_at ho6 rfl ?_ (Wbx _) (by rw[Array.size_map,hp.size_eq,zsz];exact Nat.le_succ_of_le hline));rw[hf];simp only[bne_self_eq_false,Wba,if_false];exact wpAny_pure hfin
theorem Zec {l:Addr}{b:Bool}{vs:List Value}{kd:SortKind}{κ:PyProof.Rows.KeyKind}{Q:Value->Shared->Prop}(hl:HsB b s.heap l vs.toArray) (hz:vs.length<64)
  (hk:2<=vs.length->∀h',(∀b o,s.heap.get? b=some o->h'.get? b=some o)->∀(E:Value->Shared->Prop) (Q:SortKind->Shared->Prop),Q kd { s with heap:=h' } -> wpAny (model prog w) A.in1.in1 (keyKind' vs.toArray) Q E { s with heap:=h' })
  (hc:∀h',(∀b o,s.heap.get? b=some o->h'.get? b=some o)->∀x∈vs,∀y∈vs,∀(E:Value->Shared->Prop) (Q:Bool->Shared->Prop),Q (κ.blt (keyD κ x) (keyD κ y)) { s with heap:=h' } -> wpAny (model prog w) A.in1.in1 (keyLt' kd x y) Q E { s with heap:=h' })
  (h:∀out:List Value,out.Perm vs->Sortd κ out->Q (.ref (s.heap.objs.size+1)) { s with heap:=sortedAll s.heap vs out.toArray }):wpAny (model prog w) A (call (.builtin "sorted") [.ref l]) Q E s:=by
 have hline:vs.length<=sizeLine:=by rw[sizeLine_eq];omega
 refine Calls.call_function_entry kind_sorted plain_sorted entry_sorted (args_sorted1 _) ?_;unfold Builtin.«sorted»;refine wpAny_bind (m:=checkCount "sorted" 1 1 _) (wpAny_pure ?_);refine wpAny_bind (show wpAny (model prog w) A.in1 (collect (.ref l)) _ _ s from ?_);have go:∀{Q':List Value->Shared->Prop}{E':Value->Shared->Prop},Q' vs { s with heap:=(s.heap.push (seqObj "list" #[] 0)).update s.heap.objs.size (Obj.mapSeq (· ++ vs.toArray)) } -> wpAny (model prog w) A.in1 (collect (.ref l)) Q' E' s:=λ{Q' E'} q=>by
  cases b with
  |true=>exact Zfb hl q hline
  |false=>exact collect_list hl q hline
 refine go ?_;refine wpAny_bind (wpAny_newList ?_ hline);have hsz:((s.heap.push (seqObj "list" #[] 0)).update s.heap.objs.size (Obj.mapSeq (· ++ vs.toArray))).objs.size=s.heap.objs.size+1:=by
  rw[Wdf,size_push']
 have hoL:(((s.heap.push (seqObj "list" #[] 0)).update s.heap.objs.size (Obj.mapSeq (· ++ vs.toArray))).push (seqObj "list" vs.toArray 0)).get? (s.heap.objs.size+1)=some (seqObj "list" vs.toArray 0):=by
  rw[<- hsz];exact Waq _ rfl
 have keep:∀b o,s.heap.get? b=some o->(((s.heap.push (seqObj "list" #[] 0)).update s.heap.objs.size (Obj.mapSeq (· ++ vs.toArray))).push (seqObj "list" vs.toArray 0)).get? b=some o:=λb o q=>by
  have hlt:b<s.heap.objs.size:=Wam q;rw[Wdb _ _ _ (by rw[hsz];exact Was (Wbm hlt)),Heap.get?_update_ne _ _ _ _ (Was hlt),Wdb _ _ _ (Was hlt)];exact q
 have up:∀h',KeepBut (s.heap.objs.size+1) (((s.heap.push (seqObj "list" #[] 0)).update s.heap.objs.size (Obj.mapSeq (· ++ vs.toArray))).push (seqObj "list" vs.toArray 0)) h' -> ∀b o,s.heap.get? b=some o->h'.get? b=some o:=λh' k b o q=>
  k b o (Was (Wbm (Wam q))) (keep b o q)
 show wpAny _ _ _ _ _ { s with heap:=((s.heap.push (seqObj "list" #[] 0)).update s.heap.objs.size (Obj.mapSeq (· ++ vs.toArray))).push (seqObj "list" vs.toArray 0) };rw[hsz];refine wpAny_bind (wpAny_holding (wpAny_call_entry slot_list_sort ⟨_,hoL,rfl⟩ entry_list_sort (Zgk (kd:=kd) (κ:=κ) hoL hz (λh2 h' k Q q=>hk h2 h' (up h' k) _ Q q) (λh' k x hx y hy E Q q=>hc h' (up h' k) x hx y hy E Q q) λout o1 o2=>⟨_,rfl,?_⟩) (args_list_sort _)));exact wpAny_pure ⟨_,rfl,h out o1 o2⟩
end
section
variable {X:Cx}
def SqU (K:W.Frag) (H:Hp) (p:Addr) (us:List V):Prop:=SqL K H p us\/SqT K H p us
def IsRows (K:W.Frag) (H:Hp) (us:List V) (rs:List (List Int)):Prop:=Paired (λ(u:V) (r:List Int)=>∃a,u=.ref a/\SqT K H a (r.map V.int)) us rs
def rSortG (K:W.Frag):List V->Hp->VK->Prop:=λxs H Q=>∃p us rs,xs=[.ref p]/\SqU K H p us/\us.length<64/\IsRows K H us rs ∧
 ∀(l:Addr) (ps:List (V × List Int)),ps.Perm (us.zip rs)->(ps.map (·.2)).Pairwise (λa b=>rlt b a=false)->H l=none->Q (.ref l) (upd H l (.lst (ps.map (·.1))))
theorem Paired.mem {R:Value->List Int->Prop}:∀{vs:List Value}{rs:List (List Int)},Paired R vs rs->∀v∈vs,∃r∈rs,R v r
 |_,_,.nil,v,h=>by cases h
 |_,_,.cons p t,v,h=>by
  rcases Wat.mp h with e|e
  ·subst e;exact⟨_,Way,p⟩
  ·obtain⟨r,h1,h2⟩:=Paired.mem t v e
   exact⟨r,Wav _ h1,h2⟩
theorem Zmq {R:V->List Int->Prop}{us:List V}{its:List Value}{rs:List (List Int)}{out:List Value}(hv:Vals us its) (hp:Paired R us rs) (ho:out.Perm its):∃ps:List (V × List Int),Vals (ps.map (·.1)) out/\Paired R (ps.map (·.1)) (ps.map (·.2))/\ps.Perm (us.zip rs):=by
 suffices key:∀{out its:List Value},out.Perm its->∀ps:List (V × List Int),Vals (ps.map (·.1)) its->Paired R (ps.map (·.1)) (ps.map (·.2))->∃qs:List (V × List Int),Vals (qs.map (·.1)) out/\Paired R (qs.map (·.1)) (qs.map (·.2))/\qs.Perm ps by
  have hl:us.length=rs.length:=by
   clear key hv ho
   induction hp with
   |nil=>rfl
   |cons _ _ ih=>rw[Wao,Wao,ih]
  refine key ho (us.zip rs) ?_ ?_
  ·rw[Wdz (by omega)];exact hv
  ·rw[Wdz (by omega),Wde (by omega)];exact hp
 intro out its ho
 induction ho with
 |nil=>
  intro ps hv hp;cases ps with
  |nil=>exact⟨[],.nil,.nil,.refl _⟩
  |cons _ _=>cases hv
 |cons x h ih=>
  intro ps hv hp;cases ps with
  |nil=>cases hv
  |cons a ps=>
   cases hv with
   |cons r t=>
    cases hp with
    |cons p q=>
     obtain⟨qs,a1,a2,a3⟩:=ih ps t q;exact⟨a::qs,.cons r a1,.cons p a2,a3.cons _⟩
 |swap x y l=>
  intro ps hv hp;cases ps with
  |nil=>cases hv
  |cons a ps=>
   cases ps with
   |nil=>cases hv with|cons _ t=>cases t
   |cons b ps=>
    cases hv with
    |cons r t=>
     cases t with
     |cons r2 t=>
      cases hp with
      |cons p q=>
       cases q with
       |cons p2 q=>exact⟨b::a::ps,.cons r2 (.cons r t),.cons p2 (.cons p q),.swap _ _ _⟩
 |trans h1 h2 ih1 ih2=>
  intro ps hv hp;obtain⟨qs,a1,a2,a3⟩:=ih2 ps hv hp;obtain⟨qs2,b1,b2,b3⟩:=ih1 qs a1 a2;exact⟨qs2,b1,b2,b3.trans a3⟩
theorem Paired.get2 {R:Value->List Int->Prop}:∀{vs:List Value}{rs:List (List Int)}{i:Nat}{r:List Int},Paired R vs rs->rs[i]?=some r->∃v,vs[i]?=some v/\R v r
 |_,_,_,_,.nil,h=>by simp at h
 |_,_,0,_,.cons p _,h=>by simp at h;subst h;exact⟨_,rfl,p⟩
 |_,_,i+1,r,.cons _ t,h=>by
  obtain⟨v,h1,h2⟩:=Paired.get2 (i:=i) (r:=r) t (by simpa using h);exact⟨v,by simpa using h1,h2⟩
theorem sortGK (K:W.Frag) (hu:X.A.units+8<cLine) (hK:X.K=K:=by rfl):CallR X (.builtin "sorted") (rSortG K):=by
 subst hK;intro pins s σ H xs us Q I r h;obtain⟨p,ys,rs,rfl,hx,hl,hp,q⟩:=h;obtain⟨u,rfl,ru⟩:=vals1 r;cases (show u=Value.ref p from ru);obtain⟨b,hx⟩:∃b,SqB b X.K H p ys:=by
  rcases hx with z|z
  ·exact⟨false,z⟩
  ·exact⟨true,z⟩
 obtain⟨its,w1,p1⟩:=I.seqB hx;have pr:=Zik I w1 hp;have hlen:=w1.length;have hrl:=Paired.len pr;have hu2:X.A.in1.in1.units<cLine:=Wcg (by show X.A.units+1+1<=X.A.units+8;omega) hu;have fin:∀out:List Value,out.Perm its->Sortd (rowKey s.heap) out->EP X pins σ Q (.ref (s.heap.objs.size+1)) { s with heap:=sortedAll s.heap its out.toArray }:=λout o1 o2=>by
  obtain⟨ps,a1,a2,a3⟩:=Zmq w1 hp o1;have pr':=Zik I a1 a2;obtain⟨e,he⟩:=sortedAll_at s.heap its out.toArray;have hs:(ps.map (·.2)).Pairwise (λa b=>rlt b a=false):=by
   rw[Wcn];intro i j hi hj hij;obtain⟨v,v1,v2⟩:=Paired.get2 pr' (Waa hi);obtain⟨u,u1,u2⟩:=Paired.get2 pr' (Waa hj);obtain⟨g1,g2⟩:=Waf.mp v1;obtain⟨g3,g4⟩:=Waf.mp u1;have:=(Wcn.mp o2) i j g1 g3 hij;rw[g2,g4]at this;unfold keyD at this;rw[Ze0 v2,Ze0 u2]at this;exact this
  have hl':=a1.length;have ho':=o1.length_eq;refine⟨.ref (s.heap.objs.size+1),_,I.laid (t':=s.toks) (λ_ _ z=>sortedAll_old z) (Wcf _) (show ObjOk X.prog X.w _ _ _ (.lst (ps.map (·.1))) from ⟨Wb0 (small1000 (by omega)),out,e,a1,he⟩),rfl,q _ ps a3 hs (I.hok.fresh (Wcf _))⟩
 have cmp:∀h',(∀b o,s.heap.get? b=some o->h'.get? b=some o)->∀x∈its,∃a,RowAt h' x a/\keyD (rowKey s.heap) x=a:=λh' k x hx=>by
  obtain⟨a,_,ha⟩:=Paired.mem pr x hx;refine⟨a,ha.keep k,?_⟩;unfold keyD;rw[Ze0 ha];rfl
 by_cases hne:∀r∈rs,r≠[]
 ·refine Zec (b:=b) (kd:=tuples' true) (κ:=rowKey s.heap) p1 (by omega) (λh2 h' k E Q hq=>?_) (λh' k x hx y hy E Q hq=>?_) fin
  ·exact Zkk (s:={ s with heap:=h' }) (Paired.up (λv r z=>z.keep k) pr) hne (by intro z;subst z;rw[Wbz]at hrl;omega) hq
  ·obtain⟨a,a1,a2⟩:=cmp h' k x hx
   obtain⟨c,c1,c2⟩:=cmp h' k y hy;rw[a2,c2]at hq;exact Zoy (s:={ s with heap:=h' }) a1 c1 hq
 ·cases rs with
  |nil=>exact absurd (λr h=>nomatch h) hne
  |cons r0 rs=>
   by_cases h0:r0=[]
   ·subst h0
    refine Zec (b:=b) (kd:=oneType') (κ:=rowKey s.heap) p1 (by omega) (λh2 h' k E Q hq=>?_) (λh' k x hx y hy E Q hq=>?_) fin
    ·exact Zko (s:={ s with heap:=h' }) (Paired.up (λv r z=>z.keep k) pr) hq
    ·obtain⟨a,a1,a2⟩:=cmp h' k x hx
     obtain⟨c,c1,c2⟩:=cmp h' k y hy;rw[a2,c2]at hq;exact Zoa (s:={ s with heap:=h' }) hu2 a1 c1 hq
   ·have he:[]∈rs:=by
     apply Classical.byContradiction;intro z;refine hne λr hr e=>?_;subst e;rcases Wat.mp hr with y|y
     ·exact h0 y.symm
     ·exact z y
    refine Zec (b:=b) (kd:=general') (κ:=rowKey s.heap) p1 (by omega) (λh2 h' k E Q hq=>?_) (λh' k x hx y hy E Q hq=>?_) fin
    ·exact Zkm (s:={ s with heap:=h' }) (Paired.up (λv r z=>z.keep k) pr) h0 he hq
    ·obtain⟨a,a1,a2⟩:=cmp h' k x hx
     obtain⟨c,c1,c2⟩:=cmp h' k y hy;rw[a2,c2]at hq;exact Znv (s:={ s with heap:=h' }) hu2 a1 c1 hq
end
section
variable {K:W.Frag}{Δ:Evt}
theorem Zjk {G:Hp}:∀{us:List V}{ds:List D},Reps K G us ds->∀p∈us.zip ds,Rep K G p.1 p.2
 |_,_,.nil,p,h=>by cases h
 |_,_,.cons r t,p,h=>by
  rcases Wat.mp h with e|e
  ·subst e;exact r
  ·exact Zjk t p e
theorem Zft {G:Hp}:∀ps:List (V × List Int),(∀p∈ps,Rep K G p.1 (rowD p.2))->Reps K G (ps.map (·.1)) ((ps.map (·.2)).map rowD)
 |[],_=>.nil
 |p::ps,h=>.cons (h p Way) (Zft ps λq hq=>h q (Wav _ hq))
theorem Znw {ta:TA}{Po:OD->Evt->Prop}(h:JA K ta Δ λds Δ1=>∃rs:List (List Int),(ds=[.lst (rs.map rowD)]\/ds=[.tup (rs.map rowD)])/\rs.length<64/\∀ms:List (List Int),ms.Perm rs->ms.Pairwise (λa b=>rlt b a=false)->Po (.lst (ms.map rowD)) Δ1):JO K (tCB (rSortG K) ta) Δ Po:=λg G H σ Q k c=>
 h g G H σ _ k λvs ds G1 H1 Δ1 k1 s1 r1 hq_=>by
  obtain⟨rs,e,hl,p⟩:=hq_;obtain⟨a,us,ea,hs,rr⟩:∃a us,vs=[.ref a]/\SqU K H1 a us/\Reps K G1 us (rs.map rowD):=by
   rcases e with e|e <;> subst e
   ·obtain⟨_,_,rfl,r,t⟩:=r1.inv
    next=>cases t.inv;cases r with|lst ha' rr=>exact⟨_,_,rfl,.inl (SqL.of (k1.live _ _ ha')),rr⟩
   ·obtain⟨_,_,rfl,r,t⟩:=r1.inv
    next=>cases t.inv;cases r with|tup ha' rr=>exact⟨_,_,rfl,.inr (SqT.of (k1.live _ _ ha')),rr⟩
  subst ea;have hlen:=rr.length;rw[Wab]at hlen;refine⟨a,us,rs,rfl,hs,by omega,Zja k1.live rr,λl ps a1 a2 hl=>?_⟩;have hr:Reps K G1 (ps.map (·.1)) ((ps.map (·.2)).map rowD):=Zft ps λp hp=>by
   have h1:=a1.mem_iff.mp hp;refine Zjk rr (p.1,rowD p.2) ?_;obtain⟨i,hi⟩:=Wbi.mp h1;rw[Wbg]at hi;refine Wbi.mpr ⟨i,?_⟩;rw[Wbg,Wad,hi.2];exact⟨hi.1,rfl⟩
  have hp2:(ps.map (·.2)).Perm rs:=by
   have:=a1.map (·.2);rw[Wde (by omega)]at this;exact this
  obtain⟨k2,pd⟩:=k1.fresh (od:=.lst ((ps.map (·.2)).map rowD)) hl (show OwnRep K G1 (.lst (ps.map (·.1))) (.lst ((ps.map (·.2)).map rowD)) from hr);exact c l _ G1 _ Δ1 k2 s1 pd (p _ hp2 a2)
end
section
variable {K:W.Frag}{Δ:Evt}{P:D->Evt->Prop}
end
section
variable {X:Cx}{pins:List (Addr × Obj)}{σ:St}{H H':Hp}{s:Shared}{h':Heap}{b:Addr}
end
section
variable {X:Cx}{pins:List (Addr × Obj)}{σ:St}{H H':Hp}{s:Shared}{h':Heap}{a C T:Addr}
variable {M:Model}{E:Value->Shared->Prop}{Q:Unit->Shared->Prop}
end
section
variable {X:Cx}{pins:List (Addr × Obj)}{σ:St}{H:Hp}{s:Shared}{a C:Addr}
end
section
variable {X:Cx}
end
section
variable {P:Program}{w:World}{K:W.Frag}{mg:Str->Option Value}{base:Heap}
end
section
variable {K:W.Frag}{Δ:Evt}{E:XK}{Xp:Addr->Prop}{nx bk ct:Evt->Prop}{rt:D->Evt->Prop}{ro:OD->Evt->Prop}
end
open PySem PySem.Spec PyProof.Rows PySem.SeqAt
section
variable {K:W.Frag}{Δ:Evt}{P:D->Evt->Prop}
end
section
variable {K:W.Frag}{Δ:Evt}
end
section
variable {X:Cx}
def CDivB (i j:Int):Prop:=0<j/\j<=100000000000000000000000000000000000000000000000000000000000
theorem Zgo:OpR X (binaryOp .FloorDiv) (rI CDivB λi j=>.int (i / j)):=opI λi j _ _ _ _ _ hc q=>by
 have h1:(0:Int)<j:=hc.1;have h2:=hc.2;refine floordiv_int (by omega) (by rw[Int.fdiv_eq_ediv_of_nonneg i (by omega)];exact q) (.inl (PyProof.noPylong_of_log2 ?_));have h3:j.natAbs<=100000000000000000000000000000000000000000000000000000000000:=by omega
 have h4:j.natAbs<2 ^ 200:=Wcg h3 (by decide);exact Nat.lt_trans ((Nat.log2_lt (by omega)).2 h4) (by decide)
end
section
variable {K:W.Frag}{Δ:Evt}{E:XK}{Xp:Addr->Prop}{P:D->Evt->Prop}
end
def keyPd:Key->PyData
 |.inl i=>.int i
 |.inr x=>.str x
mutual
def D.pd:D->PyData
 |.non=>.none
 |.bl b=>.bool b
 |.int i=>.int i
 |.str x=>.str x
 |.tup ds=>.tuple (D.pds ds)
 |.lst ds=>.list (D.pds ds)
 |.dct ks ds=>.dict ((ks.map keyPd).zip (D.pds ds))
 |_=>.none
def D.pds:List D->List PyData
 |[]=>[]
 |d::ds=>D.pd d::D.pds ds
end
section
variable {X:Cx}
end
def PV (K:W.Frag) (te:TE) (Δ:Evt) (d:D):Prop:=∀P:D->Evt->Prop,P d Δ -> JE K te Δ P
def PVs (K:W.Frag) (ta:TA) (Δ:Evt) (ds:List D):Prop:=∀P:List D->Evt->Prop,P ds Δ -> JA K ta Δ P
def PR2 (K:W.Frag) (r:R2) (d e:D) (Δ:Evt) (x:D):Prop:=∀P:D->Evt->Prop,P x Δ -> JR2 K r d e Δ P
section
variable {K:W.Frag}{Δ:Evt}
theorem Za9 {te:TE}{d:D}{P:D->Evt->Prop}(h:PV K te Δ d) (p:P d Δ):JE K te Δ P:=h P p
theorem Zei {ta:TA}{ds:List D}{P:List D->Evt->Prop}(h:PVs K ta Δ ds) (p:P ds Δ):JA K ta Δ P:=h P p
theorem Zah {i:Nat}{d:D}(h:Δ[i]?=some (.val d)):PV K (tVar i) Δ d:=λP p=>Zae h p
theorem Zay {i:Int}:PV K (tC (.int i)) Δ (.int i):=λP p=>Zaw p
theorem Zcg:PVs K tNil Δ []:=λP p=>Zag p
theorem Zal {ta:TE}{tr:TA}{d:D}{ds:List D}(h:PV K ta Δ d) (t:PVs K tr Δ ds):PVs K (tCons ta tr) Δ (d::ds):=λP p=>Zab (h _ (t _ p))
theorem Zr8 {ta:TA}{ds:List D}(h:PVs K ta Δ ds) (z:ds.length<=sizeLine):PV K (tTup ta) Δ (.tup ds):=λP p=>Zbt (h _ ⟨z,p⟩)
theorem Ztg {ta:TA}{ds:List D}(h:PVs K ta Δ ds) (z:ds.length<=sizeLine):PV K (tLst ta) Δ (.lst ds):=λP p=>Zjv (h _ ⟨z,p⟩)
theorem Zbw {r:R2}{ta tb:TE}{d e x:D}(a:PV K ta Δ d) (b:PV K tb Δ e) (h:PR2 K r d e Δ x):PV K (tOp r ta tb) Δ x:=λP p=>Zaz (a _ (b _ (h P p)))
theorem Zr2 {ds:List D}{i:Int}{d:D}(h:atI ds i=some d):PR2 K (rIxU K) (.tup ds) (.int i) Δ d:=λP p=>Zc3 h p
theorem Ztc {ds:List D}{i:Int}{d:D}(h:atI ds i=some d):PR2 K (rIxU K) (.lst ds) (.int i) Δ d:=λP p=>Zbu h p
theorem Zcw {i j:Int}:PR2 K (rAddU K) (.int i) (.int j) Δ (.int (i+j)):=λP p=>Zc5 p
theorem Zty {f:Int->Int->Int}{i j:Int}:PR2 K (rI0 λi j=>.int (f i j)) (.int i) (.int j) Δ (.int (f i j)):=λP p=>Zoh p
theorem pr_I {C:Int->Int->Prop}{f:Int->Int->Int}{i j:Int}(hc:C i j):PR2 K (rI C λi j=>.int (f i j)) (.int i) (.int j) Δ (.int (f i j)):=λP p=>jr_I hc p
theorem Zdm {ta tb:TE}{ds:List D}{i:Int}{d:D}(a:PV K ta Δ (.tup ds)) (b:PV K tb Δ (.int i)) (h:atI ds i=some d):PV K (tOp (rIxU K) ta tb) Δ d:=Zbw a b (Zr2 h)
theorem Zbp {ta tb:TE}{ds:List D}{i:Int}{d:D}(a:PV K ta Δ (.lst ds)) (b:PV K tb Δ (.int i)) (h:atI ds i=some d):PV K (tOp (rIxU K) ta tb) Δ d:=Zbw a b (Ztc h)
theorem Zbs {n:Nat}{ds:List D}{i:Int}{d:D}(hx:Δ[n]?=some (.val (.tup ds))) (h:atI ds i=some d):PV K (tOp (rIxU K) (tVar n) (tC (.int i))) Δ d:=Zdm (Zah hx) Zay h
theorem Zpg {n:Nat}{ds:List D}{i:Int}{d:D}(hx:Δ[n]?=some (.val (.lst ds))) (h:atI ds i=some d):PV K (tOp (rIxU K) (tVar n) (tC (.int i))) Δ d:=Zbp (Zah hx) Zay h
theorem Zev {ta:TE}{ds:List D}(a:PV K ta Δ (.tup ds)):PV K (tCB (rLenU K) (tCons ta tNil)) Δ (.int ds.length):=λP p=>Zbr (Zab (a _ (Zag (Zdn (.inr rfl) p))))
theorem Ziy {ta:TE}{ds:List D}(a:PV K ta Δ (.lst ds)):PV K (tCB (rLenU K) (tCons ta tNil)) Δ (.int ds.length):=λP p=>Zbr (Zab (a _ (Zag (Zdn (.inl rfl) p))))
end
open PySem PySem.Spec PyProof.Rows PySem.SeqAt
section
variable {K:W.Frag}{Δ:Evt}{P:D->Evt->Prop}
end
open PySem PySem.Spec PyProof.Rows PySem.SeqAt
section
variable {K:W.Frag}{Δ:Evt}
end
section
variable {K:W.Frag}{Δ:Evt}{nx bk ct:Evt->Prop}{rt:D->Evt->Prop}{ro:OD->Evt->Prop}
end
section
variable {K:W.Frag}{Δ:Evt}{P:D->Evt->Prop}
theorem Zps {neg:Bool}{n:Nat}{ta:TE}(h:JE K ta Δ λd Δ1=>∃(x:Slot) (ns:List Int) (i:Int),Δ1[n]?=some x/\x.od=some (.lst (ns.map D.int))/\d=.int i/\P (.bl (if neg then !decide (i∈ns) else decide (i∈ns))) Δ1):JE K (tOp (rInU K neg) ta (tVar n)) Δ P:=λg G H σ Q k c=>
 h g G H σ _ k λv d G1 H1 Δ1 k1 s1 r1 hq_=>by
  obtain⟨x,ns,i,q1,q2,q3,p⟩:=hq_;subst q3;cases r1.inv;obtain⟨a,o,w1,w2,w3,w4,w5⟩:=k1.own n x _ q1 q2;cases o with
  |lst vs=>
   have rs:Reps K G1 vs (ns.map D.int):=w3;have ev:=rs.ints;subst ev;refine⟨.ref a,w1,.inl ⟨_,_,rfl,.inl (SqL.of w2),rfl,Zmp ns,?_⟩⟩;rw[Znm];exact c _ _ G1 H1 Δ1 k1 s1 (.bl _) p
  |_=>exact absurd w3 (λz=>z)
theorem Zrt {f:Int->Int->Int}{i j:Int}(p:P (.int (f i j)) Δ):JR2 K (ipI f) (.int i) (.int j) Δ P:=λg G H σ Q x y k rx ry c=>by
 cases rx.inv;cases ry.inv;exact⟨i,j,rfl,rfl,c _ _ G H Δ k (Same.refl _) (.int _) p⟩
end
end L2
set_option Elab.async false
set_option linter.all false
set_option maxRecDepth 100000
namespace HT
open PySem PyProof.Rows
section
variable {prog:Program}{w:World}{A:Around}{E:Value->Shared->Prop}{s:Shared}
theorem Zd8 {sl:Addr}{t0 t:Tok}{n:Nat}{Q:Int × Int × Nat->Shared->Prop}(hs:s.heap.IsSliceOf sl .none (.int 0 t0) (.int (-1) t))
  (h:Q (((n:Int)-1),-1,n-1) s):wpAny (model prog w) A (Builtin.Slice.sliceApplied (.ref sl) (pure (n:Int))) Q E s:=by
 obtain⟨os,hos,hcs,hds⟩:=id hs;unfold Builtin.Slice.sliceApplied Builtin.Slice.sliceFields;refine wpAny_bind (wpAny_bind (wpAny_field hos hds (x:=.none) rfl (wpAny_bind (wpAny_field hos hds (x:=.int 0 t0) rfl (wpAny_bind (wpAny_field hos hds (x:=.int (-1) t) rfl (wpAny_pure ?_)))))));refine wpAny_bind (Zc9 (.int (-1) t) ?_);show wpAny _ _ (if ((-1:Int) == 0)=true then _ else _) _ _ s;rw[if_neg (by decide)];refine wpAny_bind (slicePart_none (wpAny_bind (Zc9 (.int 0 t0) (wpAny_bind (wpAny_pure ?_)))));have e:Builtin.Slice.sliceAdjust none (some 0) (-1) (n:Int)=((n:Int)-1,if n=0 then -1 else 0):=by
  by_cases hn:n=0
  ·subst hn;rfl
  ·rw[if_neg hn]
   simp[Builtin.Slice.sliceAdjust];omega
 show wpAny _ _ (match Builtin.Slice.sliceAdjust none (some 0) (-1) (n:Int) with|(lo,hi)=>pure (lo,(-1:Int),Builtin.Slice.slicePlaces lo hi (-1))) _ _ s;rw[e];have e2:Builtin.Slice.slicePlaces ((n:Int)-1) (if n=0 then -1 else 0) (-1)=n-1:=by
  unfold Builtin.Slice.slicePlaces;rw[if_neg (by decide)];by_cases hn:n=0
  ·subst hn;rfl
  ·rw[if_neg hn]
   by_cases h1:n=1
   ·subst h1;rfl
   ·rw[if_pos (by omega),show (n:Int)-1-0-1=(n:Int)-2 by omega,show -(-1:Int)=1 by rfl,Int.ediv_one]
    omega
 show wpAny _ _ (pure ((n:Int)-1,(-1:Int),Builtin.Slice.slicePlaces ((n:Int)-1) (if n=0 then -1 else 0) (-1))) _ _ s;rw[e2];exact wpAny_pure h
theorem Zmh (xs:Array Value):((Wau (xs.size-1)).filterMap λ(m:Nat)=>xs[(((xs.size:Int)-1)+(m:Int) * -1).toNat]?).toArray=(xs.toList.drop 1).reverse.toArray:=by
 congr 1;have key:∀(l:List Nat),(∀m∈l,m<xs.size)->(l.filterMap λ(m:Nat)=>xs[(((xs.size:Int)-1)+(m:Int) * -1).toNat]?)=l.map λm=>xs.toList.reverse.getD m .none:=by
  intro l
  induction l with
  |nil=>intro _;rfl
  |cons a r ih=>
   intro h;have ha:=h a Way;have e:(((xs.size:Int)-1)+(a:Int) * -1).toNat=xs.size-1-a:=by omega
   have e2:xs[(((xs.size:Int)-1)+(a:Int) * -1).toNat]?=some (xs.toList.reverse.getD a .none):=by
    rw[e,Wac,List.getElem?_reverse (by simpa using ha)];simp only[Array.length_toList,Array.getElem?_toList];rw[Array.getElem?_eq_getElem (by omega)];rfl
   rw[Wce,e2,Wbe,ih λm hm=>h m (Wav _ hm)]
 rw[key _ (λm hm=>by have:=Wa5.mp hm;omega),List.reverse_drop,Array.length_toList];apply Wb6;intro i;rw[Wad,List.getElem?_take];by_cases hi:i<xs.size-1
 ·rw[Wcq hi,if_pos hi,Waa (by rw[Wcp,Array.length_toList];omega)]
  show some (xs.toList.reverse.getD i .none)=_;rw[Wac,Waa (by rw[Wcp,Array.length_toList];omega)];rfl
 ·rw[Wcy (by rw[Wbh];omega),if_neg hi];rfl
theorem getItem_tuple_rev0 {t sl:Addr}{items:Array Value}{tk0 tk:Tok}{Q:Value->Shared->Prop}(ht:IsTup s.heap t items) (hs:s.heap.IsSliceOf sl .none (.int 0 tk0) (.int (-1) tk))
  (h:Q (.ref s.heap.objs.size) { s with heap:=s.heap.push { cls:=.type "tuple",data:=.seq (items.toList.drop 1).reverse.toArray } })
  (hsz:items.size<=sizeLine):wpAny (model prog w) A (getItem (.ref t) (.ref sl)) Q E s:=by
 have htake:sizeOk (.seq (items.toList.drop 1).reverse.toArray):=by
  show (items.toList.drop 1).reverse.toArray.size<=sizeLine;rw[Wag,Wcp,Wbu,Array.length_toList];omega
 obtain⟨os,hos,hcs,hds⟩:=id hs;have hTs:s.TypeIs (.ref sl) "slice":=⟨os,hos,hcs⟩;unfold getItem
 try with_reducible refine wpAny_holding ?_
 first|refine wpAny_bind (wpAny_pure ?_)|skip
 refine wpAny_bind (wpAny_sequenceKey ht.typeIs (by decide) ?_);refine wpAny_bind (wpAny_callSpecial?_slot (name:=Str.ofString "__getitem__") ht.typeIs PyProof.Rows.slot_tuple_getitem
  (wpAny_call_entry PyProof.Rows.slot_tuple_getitem ht.typeIs entry_tuple_getitem ?_ (args_tuple_getitem _ _)))
 show wpAny _ _ (Builtin.Tuple.tupleItemsOf (.ref t) >>= _) _ _ s;refine wpAny_bind (tupleItemsOf_ ht ?_);refine wpAny_bind (wpAny_typeOf hTs ?_);rw[if_pos (by decide)];refine wpAny_bind (Zd8 (n:=items.size) hs ?_);have hno:¬ ((((items.size:Int)-1) == 0 && (-1:Int) == 1 && items.size-1 == items.size)=true):=by simp
 show wpAny _ _ (if ((((items.size:Int)-1) == 0 && (-1:Int) == 1 && items.size-1 == items.size))=true then _ else _) _ _ s;rw[if_neg hno,Zmh]
 first
  |exact wpAny_bind (m:=Builtin.Tuple.tupleExact _) (wpAny_newObj_type (wpAny_pure ⟨_,rfl,wpAny_pure h⟩) htake)
  |exact wpAny_bind (m:=Builtin.Tuple.tupleExact _) (wpAny_newObj_type (wpAny_bind (wpAny_pure (wpAny_pure ⟨_,rfl,wpAny_pure h⟩))) htake)
  |exact wpAny_bind (wpAny_bind (m:=Builtin.Tuple.tupleExact _) (wpAny_newObj_type (wpAny_pure (wpAny_pure ⟨_,rfl,wpAny_pure h⟩)) htake))
end
end HT
namespace L2
open PySem PySem.Spec PyProof.Rows
section
variable {X:Cx}
def tSlR0 (K:W.Frag) (te:TE):TE:=λσ H Q=>te σ H λx H1=>∃a xs,x=.ref a/\SqT K H1 a xs/\∀p,H1 p=none->Q (.ref p) (upd H1 p (.tup (xs.drop 1).reverse))
theorem Zj0 {e:Expr}{te:TE}{pos p0 p2 p3 p4:Pos}{k0 k:Nat}(he:PE X e te):PE X (.Subscript e (.Slice none (some (.Constant (.int 0) k0 p0)) (some (.UnaryOp .USub (.Constant (.int 1) k p4) p3)) p2) pos) (tSlR0 X.K te):=by
 intro pins s σ H Q I h;refine Subscript_ (thn (he pins s σ H _ I h) λv s1 ⟨x,H1,I1,r1,q1⟩=>?_);obtain⟨a,xs,rfl,hx,q⟩:=q1;cases r1;refine wpAny_Slice ?_;rw[evalPart_none];refine wpAny_pure ?_;have st0:=Zef (X:=X) (Zaf (X:=X) (i:=0) (j:=k0) (pos:=p0)) (e:=.Constant (.int 0) k0 p0) pins s1 σ H1 (λo H2=>o=some 0/\H2=H1) I1 ⟨0,rfl,rfl,rfl⟩;refine thn st0 λu0 s2 ⟨o0,H2,I2,pu0,e1,e2⟩=>?_;subst e1;subst e2;cases pu0 with
 |int i0 t0=>
  have st:=Zef (X:=X) (Zt3 Zsh (Zaf (X:=X) (i:=1) (j:=k) (pos:=p4))) (e:=.UnaryOp .USub (.Constant (.int 1) k p4) p3) pins s2 σ H2 (λo H3=>o=some (-1)/\H3=H2) I2 ⟨1,rfl,-1,rfl,rfl,rfl⟩;refine thn st λu s3 ⟨o,H3,I3,pu,e1,e2⟩=>?_;subst e1;subst e2;cases pu with
  |int i t=>
   have I4:Inv X pins σ H3 { s3 with heap:=s3.heap.push { cls:=.type "slice",data:=.fields #[.none,.int 0 t0,.int (-1) t] } }:=I3.kept (t':=s3.toks) λb ob q=>Wae _ q;obtain⟨its,r,ht,hz⟩:=I4.tuple hx;show wpAny (model X.prog X.w) X.A (subscriptTail e (.Slice none (some (.Constant (.int 0) k0 p0)) (some (.UnaryOp .USub (.Constant (.int 1) k p4) p3)) p2) (.ref a) (.ref s3.heap.objs.size)) (EP X pins σ Q) X.xe { s3 with heap:=s3.heap.push { cls:=.type "slice",data:=.fields #[.none,.int 0 t0,.int (-1) t] } };refine tail_any (ops:=[.ref a,.ref s3.heap.objs.size]) ht.typeIs PyProof.Rows.slot_tuple_getitem.lookup (HT.getItem_tuple_rev0 ht (tk0:=t0) (tk:=t) (Heap.IsSliceOf.new ..) ?_ (by rw[Wag,<- r.length];exact hz)) (by with_unfolding_all rfl);refine⟨.ref _,_,I4.laid (t':=s3.toks) (o:=.tup (xs.drop 1).reverse) (λb ob q=>Wae _ q) (Wak _) ?_,rfl,q _ (I4.hok.fresh (Wak _))⟩;exact⟨by rw[Wcp,Wbu];omega,_,(r.drop 1).reverse,IsTupN.new _ _⟩
theorem slR0K {e:Expr}{te:TE}{pos p0 p2 p3 p4:Pos}{k0 k:Nat}(K:W.Frag) (he:PE X e te) (hK:X.K=K:=by rfl):PE X (.Subscript e (.Slice none (some (.Constant (.int 0) k0 p0)) (some (.UnaryOp .USub (.Constant (.int 1) k p4) p3)) p2) pos) (tSlR0 K te):=hK ▸ Zj0 he
end
section
variable {K:W.Frag}{Δ:Evt}{P:D->Evt->Prop}
theorem Zpo {te:TE}(h:JE K te Δ λd Δ1=>∃ds,d=.tup ds/\P (.tup (ds.drop 1).reverse) Δ1):JE K (tSlR0 K te) Δ P:=λg G H σ Q k c=>
 h g G H σ _ k λv d G1 H1 Δ1 k1 s1 r1 hq_=>by
  obtain⟨ds,e,p⟩:=hq_;subst e;obtain⟨_,_,rfl,ha,rs⟩:=r1.inv
  next=>
   refine⟨_,_,rfl,SqT.of (k1.live _ _ ha),λq hq=>?_⟩;obtain⟨k4,sg⟩:=k1.laid hq (.tup _);exact c _ _ _ _ Δ1 k4 (s1.trans sg) (.tup Zaq ((rs.drop 1).reverse.mono sg)) p
end
section
variable {prog:Program}{w:World}{A:Around}{R:Result->Shared->Prop}{I:Addr}{fp wr:List Addr}{G:Array GenState->Array GenState->Prop}{n:Nat}{P:Nat->Value->Prop}{St:Nat->Shared->Prop}{K:Type}[DecidableEq K] {knd:KeyKind prog w K}
end
section
variable {X:Cx}
end
end L2
namespace L2
open PySem PySem.Spec PyProof.Rows
section
variable {prog:Program}{w:World}{A:Around}{E:Value->Shared->Prop}{s:Shared}
end
section
variable {K:W.Frag}{Δ:Evt}{P:D->Evt->Prop}
end
end L2
namespace L2
open PySem PySem.Spec PyProof.Rows
open PySem PySem.Spec PyProof.Rows PySem.SeqAt
section
variable {K:W.Frag}{Δ:Evt}{P:D->Evt->Prop}
theorem Zqw {n:Nat}{ti te:TE}{nx bk ct:Evt->Prop}{rt:D->Evt->Prop}{ro:OD->Evt->Prop}
  (h:JE K te Δ λd Δ1=>(∃a,Δ1[n]?=some (.val (.adr a)))/\JE K ti Δ1 λe Δ2=>∃a j ds i m,Δ2[n]?=some (.val (.adr a)) /\ Δ2[j]?=some (.ownA a (.lst ds))/\e=.int i/\ixN ds.length i=some m/\nx (Δ2.set j (.ownA a (.lst (ds.set m d))))) :
  JS K (tAsg te (gSub (tVar n) ti rSetU)) Δ ⟨nx,rt,bk,ct,ro⟩:=λg G H σ E k c=>
 h g G H σ _ k λv d G1 H1 Δ1 k1 s1 r1 hq_=>by
  obtain⟨⟨a,hx⟩,p1⟩:=hq_;obtain⟨u,h1,h2⟩:=k1.val n _ hx;cases h2;refine⟨_,h1,p1 g G1 H1 σ _ k1 λu e G2 H2 Δ2 k2 s2 r2 ⟨a',j,ds,i,m,q0,q1,q3,q4,p⟩=>?_⟩;subst q3;cases r2.inv;obtain⟨u',h1',h2'⟩:=k2.val n _ q0;cases h2';rw[h1]at h1';cases h1';obtain⟨b,o',w1,w2,w3,w4,w5⟩:=k2.own j _ _ q1 rfl;obtain⟨rfl,_⟩:=w5;cases o' with
  |lst vs=>
   have w3:Reps K G2 vs ds:=w3;exact .inl ⟨_,vs,i,m,rfl,rfl,w2,by rw[w3.length];exact q4,c.nx σ G2 _ _ (k2.write q1 rfl w1 (show OwnRep K G2 (.lst (vs.set m v)) (.lst (ds.set m d)) from w3.set m (r1.mono s2))) p⟩
  |_=>exact absurd w3 (λz=>z)
theorem Zqh {n j:Nat}{a:Addr}{ds:List D}{d:D}(hx:Δ[n]?=some (.val (.adr a))) (hj:Δ[j]?=some (.ownA a (.lst (ds++[d])))) (p:P d (Δ.set j (.ownA a (.lst ds)))):JE K (tBM0 K "list" rPop (tVar n)) Δ P:=λg G H σ Q k c=>by
 obtain⟨v,h1,h2⟩:=k.val n _ hx;cases h2;obtain⟨a',o,w1,w2,w3,w4,w5⟩:=k.own j _ _ hj rfl;obtain⟨rfl,_⟩:=w5;cases o with
 |lst vs=>
  have rs:Reps K G vs (ds++[d]):=w3;have hl:=rs.length;rw[Waw,Wby]at hl;obtain⟨u,z1,z2⟩:=rs.get (i:=ds.length) (d:=d) (by rw[Wax (Wak _),Nat.sub_self];rfl);have rd:Reps K G vs.dropLast ds:=by
   have:=rs.take ds.length;rw[List.take_left]at this;rw[List.dropLast_eq_take,hl];exact this
  refine⟨_,h1,.inl ⟨rfl,_,SqL.of w2⟩,_,vs,u,rfl,rfl,w2,by rw[hl];exact z1,?_⟩;exact c u d G _ _ (k.write hj rfl w1 (show OwnRep K G (.lst vs.dropLast) (.lst ds) from rd)) (Same.refl _) z2 p
 |_=>exact absurd w3 (λz=>z)
end
section
variable {X:Cx}
end
open PySem PySem.Spec PyProof.Rows PySem.SeqAt
theorem Zln (a b:List Int):(((Wau (min a.length b.length)).all λj=>decide (a.getD j 0=b.getD j 0)) && a.length == b.length)=decide (a=b):=by
 rw[Wcj,Wcb,Wb4,beq_iff_eq,decide_eq_true_iff];constructor
 ·rintro⟨h1,h2⟩
  apply List.ext_getElem h2;intro i hi hj;have:=of_decide_eq_true (h1 i (Wa5.mpr (by omega)));rw[Wac,Wac,Waa hi,Waa hj]at this;exact this
 ·rintro rfl
  exact⟨λj _=>decide_eq_true rfl,rfl⟩
section
variable {A:Around}{s:Shared}
theorem Znp {x y:Value}{a b:List Int}(hx:RowAt s.heap x a) (hy:RowAt s.heap y b) (hu:A.units<cLine):EqAt A s x y (decide (a=b)):=by
 obtain⟨p,its,rfl,t1,i1⟩:=id hx;obtain⟨q,its2,rfl,t2,i2⟩:=id hy;by_cases e:p=q
 ·subst e
  rw[decide_eq_true (hx.inj hy)];exact EqAt.same _
 ·have l1:=i1.length
  have l2:=i2.length;have:=RcAt.tuples (A:=A) (s:=s) (e:=λj=>decide (a.getD j 0=b.getD j 0)) t1 t2 hu λj h1 h2=>by
   have h1':j<its.length:=by simpa using h1
   have h2':j<its2.length:=by simpa using h2
   obtain⟨t,et⟩:=IntsAre.int_at i1 j _ (Waa h1');obtain⟨t',et'⟩:=IntsAre.int_at i2 j _ (Waa h2');rw[Wc1,Wc1,et,et'];have z:=EqAt.int_int (A:=A.in1) (s:=s) (a.getD j 0) t (b.getD j 0) t';rw[Wdh]at z;exact z
  rw[Wag,Wag,l1,l2,Zln]at this;exact EqAt.of_refs e this
end
def cLt:List (List Int)->List (List Int)->Bool
 |[],[]=>false
 |[],_::_=>true
 |_::_,[]=>false
 |x::xs,y::ys=>if x=y then cLt xs ys else rlt x y
def CodeAt (h:Heap) (v:Value) (c:List (List Int)):Prop:=∃(a:Addr) (its:List Value),v=.ref a/\IsTup h a its.toArray/\Paired (RowAt h) its c
theorem CodeAt.keep {h h':Heap}{v:Value}{c:List (List Int)}(x:CodeAt h v c) (k:∀b o,h.get? b=some o->h'.get? b=some o):CodeAt h' v c:=by
 obtain⟨a,its,e,⟨o,ho,hc⟩,i⟩:=x;exact⟨a,its,e,⟨o,k a o ho,hc⟩,Paired.mapP i λ_ _ z=>z.keep k⟩
section
open PySem.AutoSeq1 (wpAny_loadPart')
open PySem.MeetsSeq PySem.MeetsSeq2 PySem.MeetsSeq3
theorem Zg4 (l b:Addr) (items items2:Array Value) (n n2:Nat) (dd dd2:Option Addr) (sl sl2:Array (Option Value)) (ns ms:List (List Int)) :
  Meets (Builtin.«tuple.__lt__» ⟨[.ref l,.ref b],[]⟩)
   (λA R s=>A.units+1<cLine/\(Paired (RowAt s.heap) items.toList ns/\Paired (RowAt s.heap) items2.toList ms)/\s.heap.get? l=some { cls:=.type "tuple",dict:=dd,data:=.seq items n,slots:=sl } /\ s.heap.get? b=some { cls:=.type "tuple",dict:=dd2,data:=.seq items2 n2,slots:=sl2 } ∧
    R (.ok (.ret (.bool (cLt ns ms)))) s):=
 .of_wp λprog w A R s h=>by
  obtain⟨hp,g,d,tk,os⟩:=s;obtain⟨hu,⟨hi,hj⟩,hl,hb,h⟩:=h;have f2:=AutoSeq1.sub_tuple_tuple;have z1:items.size=ns.length:=by rw[<- Paired.length hi];simp
  have z2:items2.size=ms.length:=by rw[<- Paired.length hj];simp
  wp_walk using wpAny_loadPart' hl,wpAny_loadPart' hb,wpAny_forIn_list _ (λrest b s'=>b.1=none/\s'=⟨hp,g,d,tk,os⟩ /\ ∃(vs ws:List Value) (ns' ms':List (List Int)),rest=vs.zip ws ∧
   Paired (RowAt hp) vs ns' /\ Paired (RowAt hp) ws ms' /\ ns'.length+items2.size=ms'.length+items.size/\R (.ok (.ret (.bool (cLt ns' ms')))) ⟨hp,g,d,tk,os⟩) _
  case turn=>
   rintro⟨y,x⟩ rest b s' ⟨hb',rfl,vs,ws,ns',ms',hz,hvi,hwi,hlen,hR⟩;cases hvi with
   |nil=>rw[Wdt]at hz;cases hz
   |@cons _ a _ _ ra hvi'=>
    cases hwi with
    |nil=>rw[Wdp]at hz;cases hz
    |@cons _ c _ _ rc hwi'=>
     rw[Wb1]at hz;injection hz with hyx hrest
     injection hyx with hy hx
     subst hy hx;have hR:R (.ok (.ret (.bool (if a=c then cLt _ _ else rlt a c)))) ⟨hp,g,d,tk,os⟩:=hR;simp only[Wao]at hlen;have he:=Znp (A:=A.in1) (s:=⟨hp,g,d,tk,os⟩) ra rc (by show A.units+1<cLine;exact hu);refine wpAny_bind (he prog w _ _ ?_);by_cases e:a=c
     ·rw[if_pos e]at hR
      rw[decide_eq_true e]
      wp_walk
      exact⟨rfl,rfl,_,_,_,_,hrest,hvi',hwi',by omega,hR⟩
     ·rw[if_neg e]at hR
      rw[decide_eq_false e];have hri:∀(Q:Value->Shared->Prop) (E:Value->Shared->Prop),Q (.bool (rlt a c)) ⟨hp,g,d,tk,os⟩ -> wpAny (model prog w) A.in1 (richCompare .Lt y x) Q E ⟨hp,g,d,tk,os⟩:=λQ E q=>by
       obtain⟨l',its',rfl,⟨⟨c1,d1,dt1,sl1⟩,ho,hc,k1,hd⟩,hi'⟩:=ra;obtain⟨l2,its2',rfl,⟨⟨c2,d2,dt2,sl2'⟩,ho2,hc2,k2,hd2⟩,hi2'⟩:=rc;simp only at hc hd hc2 hd2;subst hc hd hc2 hd2;exact richCompare_meets_room (op:=.Lt) ⟨_,ho,rfl⟩ ⟨_,ho2,rfl⟩ PySem.F.slot_tuple_lt PySem.F.entry_tuple_lt (PySem.F.args_tuple_lt_2 _ _) (HT.tuple_lt_ints l' l2 its'.toArray its2'.toArray k1 k2 d1 d2 sl1 sl2' a c (by simpa using hi') (by simpa using hi2'))
        ⟨ho,ho2,show Value.bool (HT.lexLt a c)≠Value.notImplemented/\_ from ⟨(λx=>nomatch x),q⟩⟩ (by show A.units+1<cLine;exact hu)
      wp_walk using hri
      exact⟨_,rfl,by simpa using hR⟩
  case fin=>
   rintro⟨b1,b2⟩ s' ⟨hb',rfl,vs,ws,ns',ms',hz,hvi,hwi,hlen,hR⟩;simp only at hb';subst hb';have hv:cLt ns' ms'=decide (items.size<items2.size):=by
    cases hvi with
    |nil=>
     cases hwi with
     |nil=>
      simp only[Wbz]at hlen;exact(decide_eq_false (by omega)).symm
     |cons _ hw=>
      simp only[Wbz,Wao]at hlen;exact(decide_eq_true (by omega)).symm
    |cons _ hv=>
     cases hwi with
     |nil=>
      simp only[Wbz,Wao]at hlen;exact(decide_eq_false (by omega)).symm
     |cons _ hw=>
      rw[Wb1]at hz;cases hz
   rw[hv]at hR
   wp_walk
   exact⟨_,rfl,by simpa [Builtin.Tuple.tupleCompareSizes] using hR⟩
  ·exact⟨rfl,rfl,_,_,_,_,rfl,hi,hj,by omega,h⟩
end
section
variable {prog:Program}{w:World}{A:Around}{E:Value->Shared->Prop}{s:Shared}
theorem Zqf {x y:Value}{a b:List (List Int)}{Q:Value->Shared->Prop}(hu:A.units+1<cLine) (hx:CodeAt s.heap x a) (hy:CodeAt s.heap y b) (h:Q (.bool (cLt a b)) s):wpAny (model prog w) A (richCompare .Lt x y) Q E s:=by
 obtain⟨l,its,rfl,⟨⟨c1,d1,dt1,sl1⟩,ho,hc,k1,hd⟩,hi⟩:=hx;obtain⟨l2,its2,rfl,⟨⟨c2,d2,dt2,sl2⟩,ho2,hc2,k2,hd2⟩,hi2⟩:=hy;simp only at hc hd hc2 hd2;subst hc hd hc2 hd2;exact richCompare_meets_room (op:=.Lt) ⟨_,ho,rfl⟩ ⟨_,ho2,rfl⟩ PySem.F.slot_tuple_lt PySem.F.entry_tuple_lt (PySem.F.args_tuple_lt_2 _ _) (Zg4 l l2 its.toArray its2.toArray k1 k2 d1 d2 sl1 sl2 a b)
  ⟨hu,⟨by simpa using hi,by simpa using hi2⟩,ho,ho2,show Value.bool (cLt a b)≠Value.notImplemented/\_ from ⟨(λx=>nomatch x),h⟩⟩ (by omega)
end
theorem Paired.getC {α β:Type}{R:α -> β -> Prop}:∀{vs:List α}{rs:List β}{i:Nat}{v:α},Paired R vs rs->vs[i]?=some v->∃r,rs[i]?=some r/\R v r
 |_,_,_,_,.nil,e=>by simp at e
 |_,_,0,_,.cons r _,e=>by simp at e;subst e;exact⟨_,rfl,r⟩
 |_,_,i+1,_,.cons _ t,e=>Paired.getC (i:=i) t (by simpa using e)
def bestC (f:Nat->List (List Int)):Nat->Nat
 |0=>0
 |k+1=>if cLt (f (k+1)) (f (bestC f k))=true then k+1 else bestC f k
theorem Zgf (f:Nat->List (List Int)):∀k,bestC f k<=k
 |0=>Wak _
 |k+1=>by
  have:=Zgf f k;show (if cLt (f (k+1)) (f (bestC f k))=true then k+1 else bestC f k)<=_;split <;> omega
section
variable {prog:Program}{w:World}{A:Around}{R:Result->Shared->Prop}{I:Addr}{fp wr:List Addr}{n:Nat}{P:Nat->Value->Prop}{St:Nat->Heap->Prop}
theorem Zso (W:Walks prog w A.in1 I fp wr n P St) (f:Nat->List (List Int)) (hu:A.units+2<cLine) (S:Addr) (hSf:S ∉ fp) (kw:List (Str × Value)) (OK:Heap->Prop) (hOK:∀h h',OK h->(∀b o,b ∉ wr->b≠S->h.get? b=some o->h'.get? b=some o)->OK h') (hP:∀h i v,OK h->P i v->CodeAt h v (f i)) :
  ∀(k j:Nat) (s:Shared) (vb:Value) (c:Nat),n-(j+1)=k->j+1<=n->St (j+1) s.heap->OK s.heap->P (bestC f j) vb →
  s.heap.get? S=some { cls:=.type "list",dict:=none,data:=.seq #[vb,vb] c,slots:=#[] } →
  (∀v h' tk,P (bestC f (n-1)) v->(∀b o,b ∉ wr->b≠S->s.heap.get? b=some o->h'.get? b=some o)->R (.ok (.ret v)) { s with heap:=h',toks:=tk }) →
  codeAny (model prog w) A (.builtin "min.loop" ⟨[.ref I,.none,.ref S],kw⟩) R s:=by
 have hSw:S ∉ wr:=λh=>hSf (W.sub _ h);have hname:(toString "min" ++ toString ".loop":String) = "min.loop":=by decide
 intro k
 induction k with
 |zero=>
  intro j s vb c hk hj hst hok hPb hS hR;have hin:j+1=n:=by omega
  refine codeAny_builtin F.entry_min_loop ((Around.under_plainId F.plain_min_loop _) ▸ (show wpAny _ A.in1 (seqItems? (.ref S) >>= _) _ _ s from wpAny_bind (wpAny_seqItems hS rfl (show wpAny _ A.in1 (tryCatch (pyNext (.ref I)) _ >>= _) _ _ s from wpAny_bind (wpAny_tryCatch (W.done s _ _ (hin ▸ hst) λh' tk hk'=>?_))))));have hS':=hk' S _ hSw hS;refine(show wpAny _ A.in1 (updateSeq S (λ_=>#[]) >>= _) _ _ _ from wpAny_bind (wpAny_updateSeq hS' rfl (wpAny_bind (wpAny_letGo (wpAny_pure ?_)))));exact hR vb _ tk (by rw[<- hin];exact hPb) λb o hbw hbS e=>(Wbk _ _ (Ne.symm hbS)).trans (hk' b o hbw e)
 |succ k ih=>
  intro j s vb c hk hj hst hok hPb hS hR;have hlt:j+1<n:=by omega
  refine codeAny_builtin F.entry_min_loop ((Around.under_plainId F.plain_min_loop _) ▸ (show wpAny _ A.in1 (seqItems? (.ref S) >>= _) _ _ s from wpAny_bind (wpAny_seqItems hS rfl (show wpAny _ A.in1 (tryCatch (pyNext (.ref I)) _ >>= _) _ _ s from wpAny_bind (wpAny_tryCatch (W.item (j+1) s _ _ hlt hst λv h' tk hPv hst' hk'=>?_))))));have hS':=hk' S _ hSw hS;have hok':OK h':=hOK _ _ hok λb o hb _ e=>hk' b o hb e;refine(show wpAny _ A.in1 (tryCatch (holding [v,v] (richCompare .Lt v vb >>= _)) _ >>= _) _ _ _ from wpAny_bind (wpAny_tryCatch (wpAny_holding (wpAny_bind (Zqf (by show A.units+1+1<cLine;omega) (hP _ _ _ hok' hPv) (hP _ _ _ hok' hPb) ?_)))));refine wpAny_bind (wpAny_holding (wpAny_truthy_bool (wpAny_bind (wpAny_letGo (wpAny_pure ?_)))));cases hb:cLt (f (j+1)) (f (bestC f j)) with
  |true=>
   simp only[if_true];refine wpAny_bind (wpAny_updateSeq hS' rfl (wpAny_bind (wpAny_letGo ?_)));rw[hname];have up:∀b o,b≠S->h'.get? b=some o->(h'.update S (Obj.mapSeq λ_=>#[v,v])).get? b=some o:=λb o hbS e=>(Wbk _ _ (Ne.symm hbS)).trans e;refine wpAny_pure ⟨plainId_quiet F.plain_min_loop _,ih (j+1) _ v _ (by omega) hlt (W.frame _ _ _ hst' λb hbf o e=>up b o (λh:b=S=>hSf (by rw[<- h];exact hbf)) e) (hOK _ _ hok' λb o _ hbS e=>up b o hbS e) ?_ (Wcc _ hS' rfl) λv' h'' tk'' hP' hk''=>hR v' h'' tk'' hP' λb o hbw hbS e=>hk'' b o hbw hbS (up b o hbS (hk' b o hbw e))⟩;show P (if cLt (f (j+1)) (f (bestC f j))=true then j+1 else bestC f j) v;rw[if_pos hb];exact hPv
  |false=>
   simp only[Wba,if_false];refine wpAny_bind (wpAny_letGo ?_);rw[hname];refine wpAny_pure ⟨plainId_quiet F.plain_min_loop _,ih (j+1) _ vb c (by omega) hlt hst' hok' ?_ hS' λv' h'' tk'' hP' hk''=>hR v' h'' tk'' hP' λb o hbw hbS e=>hk'' b o hbw hbS (hk' b o hbw e)⟩;show P (if cLt (f (j+1)) (f (bestC f j))=true then j+1 else bestC f j) vb;rw[if_neg (by rw[hb];decide)];exact hPb
end
theorem Zg7 (a v:Value):argsOk "min" ⟨[a],[(Str.ofString "default",v)]⟩:=by unfold argsOk;kernel_rfl
section
variable {prog:Program}{w:World}{A:Around}{E:Value->Shared->Prop}{s:Shared}
theorem Zfi {l:Addr}{vs:List Value}{cs:List (List (List Int))}{d:Value}{Q:Value->Shared->Prop}(hh:A.handled=none) (hu:A.units+2<cLine) (hl:s.heap.IsList l vs.toArray) (hc:Paired (CodeAt s.heap) vs cs)
  (q0:cs=[]->∀(h':Heap) (tk:Nat),(∀b o,s.heap.get? b=some o->h'.get? b=some o)->Q d { s with heap:=h',toks:=tk })
  (q:∀(v:Value) (h':Heap) (tk:Nat),0<cs.length->vs[bestC (λi=>cs.getD i []) (cs.length-1)]?=some v->(∀b o,s.heap.get? b=some o->h'.get? b=some o)->Q v { s with heap:=h',toks:=tk }) :
  wpAny (model prog w) A (call (.builtin "min") [.ref l] [(Str.ofString "default",d)]) Q E s:=by
 have hname:(toString "min" ++ toString ".loop":String) = "min.loop":=by decide
 have hlen:vs.length=cs.length:=Paired.length hc;obtain⟨ol,hol,_⟩:=id hl;have hll:l<s.heap.objs.size:=Wam hol;refine PyProof.Rows.kmk_tree F.kind_min F.plain_min F.entry_min (Zg7 _ _) ?_;refine(show wpAny _ A.in1 (Builtin.Builtins.bindParams "min" ["key","default"] 0 ⟨[],[(Str.ofString "default",d)]⟩ >>= _) _ _ s from wpAny_bind (wpAny_of_eq (show Builtin.Builtins.bindParams "min" ["key","default"] 0 ⟨[],[(Str.ofString "default",d)]⟩=pure [none,some d] from rfl) ?_));refine wpAny_bind (wpAny_pure (wpAny_bind (wpAny_pyIter_list hl (wpAny_bind (wpAny_newList ?_ (Wbx _))))));rw[hname];generalize hI:s.heap.objs.size=I at *;generalize hH:(s.heap.push { cls:=.type "list_iterator",data:=.fields #[.ref l,.int 0 0] })=H1;have hH1:∀b o,s.heap.get? b=some o->H1.get? b=some o:=λb o e=>by rw[<- hH];exact Wae _ e
 have gI:H1.get? I=some { cls:=.type "list_iterator",data:=.fields #[.ref l,.int 0 0] }:=by rw[<- hH,<- hI];exact Waq _ rfl
 have hIs:I<H1.objs.size:=Wam gI;have hlI:l≠I:=Was hll;have W:=Walks.list (prog:=prog) (w:=w) (A:=A.in1) hh I l hlI vs.toArray;have hsz:vs.toArray.size=vs.length:=Wag ..;have hSf:H1.objs.size ∉ [I,l]:=by
  simp only[Wat,Wco,or_false,not_or];exact⟨Wcz hIs,Wcz (Nat.lt_trans hll hIs)⟩
 have keepH:∀b o,s.heap.get? b=some o->(H1.push (seqObj "list" #[] 0)).get? b=some o:=λb o e=>Wae _ (hH1 b o e);have gS:(H1.push (seqObj "list" #[] 0)).get? H1.objs.size=some (seqObj "list" #[] 0):=Waq _ rfl;have st0:(H1.push (seqObj "list" #[] 0)).IsListIter I l 0/\(H1.push (seqObj "list" #[] 0)).IsList l vs.toArray:=⟨⟨_,Wae _ gI,rfl,rfl⟩,by obtain⟨o,ho,r⟩:=hl;exact⟨o,keepH _ _ ho,r⟩⟩;refine wpAny_pure ⟨plainId_quiet F.plain_min_loop _,?_⟩;refine codeAny_builtin F.entry_min_loop ((Around.under_plainId F.plain_min_loop _) ▸ (show wpAny _ A.in1 (seqItems? (.ref H1.objs.size) >>= _) _ _ _ from wpAny_bind (wpAny_seqItems gS rfl (show wpAny _ A.in1 (tryCatch (pyNext (.ref I)) _ >>= _) _ _ _ from ?_))));by_cases hn:cs=[]
 ·have hv0:vs.length=0:=by rw[hlen,hn];rfl
  refine wpAny_bind (wpAny_tryCatch (W.done _ _ _ (by rw[hsz,hv0];exact st0) λh' tk hk'=>?_));refine wpAny_bind (wpAny_rule (wpAny_pure ?_));exact q0 hn h' tk λb o e=>hk' b o (by simp only[Wa3];rw[<- hI];exact Was (Wam e)) (keepH b o e)
 ·have hn0:0<cs.length:=Wc5.mpr hn
  refine wpAny_bind (wpAny_tryCatch (W.item 0 _ _ _ (by rw[hsz];omega) st0 λv h' tk hPv hst' hk'=>?_));have hS':=hk' H1.objs.size _ (by simp only[Wa3];exact Wcz hIs) gS;have old:∀b o,s.heap.get? b=some o->b≠I/\b≠H1.objs.size:=λb o e=>by
   have:=Wam e;rw[hI]at this;exact⟨Was this,Was (Nat.lt_trans this hIs)⟩
  have k1:∀b o,s.heap.get? b=some o->h'.get? b=some o:=λb o e=>hk' b o (by simp only[Wa3];exact(old b o e).1) (keepH b o e);refine(show wpAny _ A.in1 (updateSeq H1.objs.size (λ_=>#[v,v]) >>= _) _ _ _ from wpAny_bind (wpAny_updateSeq hS' rfl ?_));rw[hname];have up:∀b o,b≠H1.objs.size->h'.get? b=some o->(h'.update H1.objs.size (Obj.mapSeq λ_=>#[v,v])).get? b=some o:=λb o hbS e=>(Wbk _ _ (Ne.symm hbS)).trans e;refine wpAny_pure ⟨plainId_quiet F.plain_min_loop _,Zso W (λi=>cs.getD i []) hu H1.objs.size hSf _ (λh=>∀b o,s.heap.get? b=some o->h.get? b=some o) (λh h2 ok k b o e=>k b o (by simp only[Wa3];exact(old b o e).1) (old b o e).2 (ok b o e)) (λh i u ok hP=>?_) _ 0 _ v _ rfl (by rw[hsz];omega) (W.frame _ _ _ hst' λb hbf o e=>up b o (λz=>hSf (by rw[<- z];exact hbf)) e) (λb o e=>up b o (old b o e).2 (k1 b o e)) hPv (Wcc _ hS' rfl) λu h2 tk2 hP2 k2=>?_⟩
  ·have hP:vs[i]?=some u:=by simpa using hP
   obtain⟨c,hc1,hc2⟩:=Paired.getC hc hP;have:cs.getD i []=c:=by rw[Wac,hc1];rfl
   rw[this];exact hc2.keep ok
  ·rw[hsz,hlen]at hP2
   refine q u h2 tk2 hn0 (by simpa using hP2) λb o e=>k2 b o (by simp only[Wa3];exact(old b o e).1) (old b o e).2 (up b o (old b o e).2 (k1 b o e))
end
end L2
namespace L2
open PySem PySem.Spec PyProof.Rows PySem.SeqAt
def RowV (K:W.Frag) (H:Hp) (y:V) (r:List Int):Prop:=∃b,y=.ref b/\SqT K H b (r.map V.int)
def CodeV (K:W.Frag) (H:Hp) (y:V) (c:List (List Int)):Prop:=∃b zs,y=.ref b/\SqT K H b zs/\Paired (RowV K H) zs c
def tMinD (K:W.Frag) (ta tk:TA):TE:=λσ H Q=>ta σ H λxs H1=>tk σ H1 λds H2=>∃(p:Addr) (ys:List V) (cs:List (List (List Int))) (d:V),xs=[.ref p]/\ds=[d]/\SqL K H2 p ys/\Paired (CodeV K H2) ys cs/\(cs=[]->Q d H2)/\∀y,0<cs.length->ys[bestC (λi=>cs.getD i []) (cs.length-1)]?=some y->Q y H2
section
variable {X:Cx}
theorem Zey {α:Type}{R:V -> α -> Prop}{T:Value -> α -> Prop}(h:∀y u c,RelV y u->R y c->T u c):∀{ys:List V}{us:List Value}{cs:List α},Vals ys us->Paired R ys cs->Paired T us cs
 |_,_,_,.nil,.nil=>.nil
 |_,_,_,.cons a b,.cons c d=>.cons (h _ _ _ a c) (Zey h b d)
theorem Zsn {pins:List (Addr × Obj)}{s:Shared}{σ:St}{H:Hp}(I:Inv X pins σ H s) {y:V}{u:Value}{r:List Int}(ru:RelV y u) (h:RowV X.K H y r):RowAt s.heap u r:=by
 obtain⟨b,rfl,hs⟩:=h;obtain⟨its,w1,p1,_⟩:=I.tuple hs;exact⟨b,its,ru,p1,Zck w1⟩
theorem Zhd {pins:List (Addr × Obj)}{s:Shared}{σ:St}{H:Hp}(I:Inv X pins σ H s) {y:V}{u:Value}{c:List (List Int)}(ru:RelV y u) (h:CodeV X.K H y c):CodeAt s.heap u c:=by
 obtain⟨b,zs,rfl,hs,hp⟩:=h;obtain⟨its,w1,p1,_⟩:=I.tuple hs;exact⟨b,its,ru,p1,Zey (R:=RowV X.K H) (T:=RowAt s.heap) (λy u c a b=>Zsn I a b) w1 hp⟩
theorem Zqu {a e:Expr}{ta tk:TA}{p pos kp:Pos}{K:W.Frag}(hK:X.K=K) (hc:X.calm=true) (hu:X.A.units+8<cLine) (hg:Gl X "min") (hm:X.mg "min" = none) (ha:PA X [a] ta) (hk:PK X [⟨some (Str.ofString "default"),e,kp⟩] tk)
  (he:backTo pos (starEach [a] X.env)=(false,eval a X.env)::backTo pos (starEach [] X.env):=by rfl) (hplain:(backTo pos (starEach [a] X.env)).any (·.1)=false:=by rfl) (hall:(backToKw pos (keywordEach [⟨some (Str.ofString "default"),e,kp⟩] X.env)).all (·.1.isSome)=true:=by rfl) (hkw:(backToKw pos (keywordEach [⟨some (Str.ofString "default"),e,kp⟩] X.env)).any (·.1.isNone)=false:=by rfl) :
  PE X (.Call (.Name "min" p) [a] [⟨some (Str.ofString "default"),e,kp⟩] pos) (tMinD K ta tk):=by
 subst hK;intro pins s σ H Q I h;refine wpAny_Call_Name_kw (Zej I hg hm Zhp ?_);refine callWith_kw (thn (ha pos pins s σ H _ I h) λus s1 ⟨xs,H1,I1,r1,q1⟩=>?_) he hplain hall hkw;refine thn (hk pos pins s1 σ H1 _ I1 q1) λks s2 ⟨ds,H2,I2,r2,q2⟩=>?_;obtain⟨l,ys,cs,d,rfl,rfl,hl,hp,q0,q⟩:=q2;obtain⟨u,rfl,ru⟩:=vals1 r1;cases (show u=Value.ref l from ru);obtain⟨k,rfl,rk⟩:=vals1 r2;obtain⟨its,w1,p1,hz⟩:=I2.list hl;have hcs:Paired (CodeAt s2.heap) its cs:=Zey (R:=CodeV X.K H2) (T:=CodeAt s2.heap) (λy u c a b=>Zhd I2 a b) w1 hp;refine(show wpAny _ _ (call (.builtin "min") [.ref l] [(Str.ofString "default",k)]) _ _ _ from Zfi (I2.ok.hd hc) (by omega) p1.isList hcs (λe0 h' tk kp=>?_) λv h' tk hn hv kp=>?_)
 ·exact⟨d,H2,I2.kept kp,rk,q0 e0⟩
 ·have hi:bestC (λi=>cs.getD i []) (cs.length-1)<ys.length:=by
   have:=(Waf.mp hv).1;rw[w1.length];exact this
  obtain⟨v',e1,rv⟩:=w1.get (Waa hi);rw[hv]at e1;cases e1;exact⟨_,H2,I2.kept kp,rv,q _ hn (Waa hi)⟩
end
section
variable {K:W.Frag}{Δ:Evt}{P:D->Evt->Prop}
theorem Zqv {G:Hp}{H:Hp}(hs:Same G H) {v:V}{r:List Int}(h:Rep K G v (rowD r)):RowV K H v r:=by
 obtain⟨a,vs,rfl,ha,rs⟩:=h.inv;have ev:=rs.ints;subst ev;exact⟨a,rfl,SqT.of (hs _ _ ha)⟩
theorem Zhq {G:Hp}{H:Hp}(hs:Same G H):∀{vs:List V}{c:List (List Int)},Reps K G vs (c.map rowD)->Paired (RowV K H) vs c
 |_,[],.nil=>.nil
 |_,r::c,.cons a b=>.cons (Zqv hs a) (Zhq hs b)
theorem Zf2 {G:Hp}{H:Hp}(hs:Same G H):∀{vs:List V}{cs:List (List (List Int))},Reps K G vs (cs.map λc=>D.tup (c.map rowD))->Paired (CodeV K H) vs cs
 |_,[],.nil=>.nil
 |_,c::cs,.cons a b=>by
  obtain⟨p,ws,rfl,ha,rs⟩:=a.inv;exact .cons ⟨p,ws,rfl,SqT.of (hs _ _ ha),Zhq hs rs⟩ (Zf2 hs b)
theorem Zp4 {ta tk:TA}(h:JA K ta Δ λxs Δ1=>JA K tk Δ1 λds Δ2=>∃(cs:List (List (List Int))) (d:D),xs=[.lst (cs.map λc=>D.tup (c.map rowD))]/\ds=[d]/\(cs=[]->P d Δ2)/\(0<cs.length->P (.tup ((cs.getD (bestC (λi=>cs.getD i []) (cs.length-1)) []).map rowD)) Δ2)):JE K (tMinD K ta tk) Δ P:=λg G H σ Q k c=>
 h g G H σ _ k λvs xs G1 H1 Δ1 k1 s1 r1 h1=>h1 g G1 H1 σ _ k1 λus ds G2 H2 Δ2 k2 s2 r2 hq_=>by
  obtain⟨cs,d,e1,e2,p0,p1⟩:=hq_;subst e1 e2;obtain⟨_,_,rfl,r,t⟩:=(r1.mono s2).inv;cases t.inv;obtain⟨a,ws,rfl,ha,rs⟩:=r.inv;obtain⟨u,_,rfl,ru,t2⟩:=r2.inv;cases t2.inv;refine⟨a,ws,cs,u,rfl,rfl,SqL.of (k2.live _ _ ha),Zf2 k2.live rs,λe=>c _ _ G2 H2 Δ2 k2 (s1.trans s2) ru (p0 e),λy hn hy=>?_⟩;obtain⟨d',e3,rd⟩:=rs.get' hy;rw[Wad]at e3;cases z:cs[bestC (λi=>cs.getD i []) (cs.length-1)]? with
  |none=>rw[z]at e3;cases e3
  |some c0=>
   rw[z]at e3;have e3:D.tup (c0.map rowD)=d':=by simpa using e3
   have e4:cs.getD (bestC (λi=>cs.getD i []) (cs.length-1)) []=c0:=by rw[Wac,z];rfl
   have p:=p1 hn;rw[e4,e3]at p;exact c _ _ G2 H2 Δ2 k2 (s1.trans s2) rd p
end
open PySem PySem.Spec PyProof.Rows PySem.SeqAt
def rNeT (K:W.Frag):R2:=λx y H Q=>∃(G:Hp) (n:Nat) (xs ys:List D) (a b:Addr) (vs ws:List V),Same G H/\SqT K H a vs/\SqT K H b ws/\Reps K G vs xs/\Reps K G ws ys/\(∀d∈xs,Dp n d)/\(∀d∈ys,Dp n d)/\n<=5/\x=.ref a/\y=.ref b/\Q (.bl (!(eqF (n+1) (.tup xs) (.tup ys)))) H
section
variable {X:Cx}
theorem neTK (K:W.Frag) (hv:X.A.units+8<cLine) (hK:X.K=K:=by rfl):OpR X (compareOp .NotEq) (rNeT K):=by
 subst hK;intro pins s σ H x y v u Q I rx ry h;obtain⟨G,n,xs,ys,a,b,vs,ws,sg,h1,h2,ra,rb,pd,pe,hn,rfl,rfl,q⟩:=h;cases rx;cases ry;obtain⟨its,w1,p1,_⟩:=I.tuple h1;obtain⟨its2,w2,p2,_⟩:=I.tuple h2;have l1:=w1.length;have l2:=w2.length;have l3:=ra.length;have l4:=rb.length;have z:=RcNeAt.tuples (A:=X.A) (s:=s) (e:=atZip n xs ys) p1 p2 (by omega) λj g1 g2=>by
  have g1':j<its.length:=by simpa using g1
  have g2':j<its2.length:=by simpa using g2
  have hx:j<xs.length:=by omega
  have hy:j<ys.length:=by omega
  obtain⟨p,hp1,hp2⟩:=ra.get (Waa hx);obtain⟨q,hq1,hq2⟩:=rb.get (Waa hy);obtain⟨va,hv1,hv2⟩:=w1.get hp1;obtain⟨vb,hw1,hw2⟩:=w2.get hq1;rw[Waa g1']at hv1;rw[Waa g2']at hw1;rw[Wc1,Wc1,Wa7.inj hv1,Wa7.inj hw1];have:=(Zll n (A:=X.A.in1) I sg hp2 hq2 hv2 hw2 (pd _ (Wa6 hx)) (pe _ (Wa6 hy)) (by show X.A.units+1+n<cLine;omega)).1;unfold atZip;rw[Waa hx,Waa hy];exact this
 have e1:(!((Wau (min its.toArray.size its2.toArray.size)).all (atZip n xs ys) && its.toArray.size == its2.toArray.size)) = !(eqF (n+1) (.tup xs) (.tup ys)):=by
  show _ = !(xs.length == ys.length && (xs.zip ys).all λp=>eqF n p.1 p.2);rw[<- Zgn,Wag,Wag,<- l1,<- l2,l3,l4,Bool.and_comm]
 rw[e1]at z;exact z X.prog X.w _ _ ⟨.bl _,H,I,rfl,q⟩
end
section
variable {K:W.Frag}{Δ:Evt}{P:D->Evt->Prop}
theorem Zo1 {n:Nat}{xs ys:List D}(hn:n<=5) (pd:∀d∈xs,Dp n d) (pe:∀d∈ys,Dp n d) (p:P (.bl (!(eqF (n+1) (.tup xs) (.tup ys)))) Δ):JR2 K (rNeT K) (.tup xs) (.tup ys) Δ P:=λg G H σ Q x y k rx ry c=>by
 obtain⟨a,vs,rfl,ha,rs⟩:=rx.inv;obtain⟨b,ws,rfl,hb,rt⟩:=ry.inv;exact⟨G,n,xs,ys,a,b,vs,ws,k.live,SqT.of (k.live _ _ ha),SqT.of (k.live _ _ hb),rs,rt,pd,pe,hn,rfl,rfl,c _ _ G H Δ k (Same.refl _) (.bl _) p⟩
theorem Ztb (p:P (.bl true) Δ):JR2 K (λx y H Q=>y=.non/\Q (.bl (decide (x=.non))) H) .non .non Δ P:=λg G H σ Q u v k rx ry c=>by
 cases rx.inv;cases ry.inv;refine⟨rfl,?_⟩;rw[decide_eq_true rfl];exact c _ _ G H Δ k (Same.refl _) (.bl true) p
theorem Zmx {ds:List D}(p:P (.bl false) Δ):JR2 K (λx y H Q=>y=.non/\Q (.bl (decide (x=.non))) H) (.tup ds) .non Δ P:=λg G H σ Q u v k rx ry c=>by
 obtain⟨a,vs,rfl,_,_⟩:=rx.inv;cases ry.inv;refine⟨rfl,?_⟩;rw[decide_eq_false (by intro z;cases z)];exact c _ _ G H Δ k (Same.refl _) (.bl _) p
end
end L2
set_option Elab.async false
set_option linter.all false
set_option maxRecDepth 100000
set_option maxHeartbeats 4000000
namespace Lw
open PySem L2
def top (i:Nat):Stmt:=PySem.Challenge.pw_holefloor_k78_whole_alike_by_codes.main.body.getD i (.Pass ⟨0,0,0,0⟩)
abbrev s_place_of:Stmt:=top 4
abbrev s_parts_of:Stmt:=top 5
abbrev s_refuse_parts:Stmt:=top 6
abbrev s_follower:Stmt:=top 8
abbrev s_alike:Stmt:=top 10
abbrev s_renamings:Stmt:=top 11
abbrev s_numbered_from:Stmt:=top 12
abbrev s_code_by:Stmt:=top 13
abbrev s_code_from:Stmt:=top 14
abbrev s_code:Stmt:=top 15
abbrev s_law_pen:Stmt:=top 17
abbrev s_law_draw:Stmt:=top 18
abbrev s_law_order:Stmt:=top 19
abbrev s_law_begun:Stmt:=top 20
abbrev s_law_one_part:Stmt:=top 21
abbrev s_law_shuffled:Stmt:=top 22
abbrev s_law_renamed:Stmt:=top 23
abbrev s_law_plain_order:Stmt:=top 24
abbrev s_law_near:Stmt:=top 25
abbrev s_law:Stmt:=top 26
theorem sc_place_of:FnScope ["web","end"] ["web","end"] (defScope s_place_of):=⟨rfl,rfl,rfl,by decide +kernel,rfl,by decide +kernel,by decide +kernel⟩
theorem sc_parts_of:FnScope ["web","many","ties","firsts","a","b","low","high"] ["web"] (defScope s_parts_of):=⟨rfl,rfl,rfl,by decide +kernel,rfl,by decide +kernel,by decide +kernel⟩
theorem sc_refuse_parts:FnScope ["web"] ["web"] (defScope s_refuse_parts):=⟨rfl,rfl,rfl,by decide +kernel,rfl,by decide +kernel,by decide +kernel⟩
theorem sc_follower:FnScope ["web","order","end","row"] ["web","order","end"] (defScope s_follower):=⟨rfl,rfl,rfl,by decide +kernel,rfl,by decide +kernel,by decide +kernel⟩
theorem sc_alike:FnScope ["one","order","other","its_order","told"] ["one","order","other","its_order"] (defScope s_alike):=⟨rfl,rfl,rfl,by decide +kernel,rfl,by decide +kernel,by decide +kernel⟩
theorem sc_renamings:FnScope ["one","order","other","its_order","ends","own","told","end","its_ends"] ["one","order","other","its_order"] (defScope s_renamings):=⟨rfl,rfl,rfl,by decide +kernel,rfl,by decide +kernel,by decide +kernel⟩
theorem sc_numbered_from:FnScope ["web","order","end","ends","at","come"] ["web","order","end"] (defScope s_numbered_from):=⟨rfl,rfl,rfl,by decide +kernel,rfl,by decide +kernel,by decide +kernel⟩
theorem sc_code_by:FnScope ["web","order","ends"] ["web","order","ends"] (defScope s_code_by):=⟨rfl,rfl,rfl,by decide +kernel,rfl,by decide +kernel,by decide +kernel⟩
theorem sc_code_from:FnScope ["web","order","end"] ["web","order","end"] (defScope s_code_from):=⟨rfl,rfl,rfl,by decide +kernel,rfl,by decide +kernel,by decide +kernel⟩
theorem sc_code:FnScope ["web","order"] ["web","order"] (defScope s_code):=⟨rfl,rfl,rfl,by decide +kernel,rfl,by decide +kernel,by decide +kernel⟩
theorem sc_law_pen:FnScope ["_law_script"] ["_law_script"] (defScope s_law_pen):=⟨rfl,rfl,rfl,by decide +kernel,rfl,by decide +kernel,by decide +kernel⟩
theorem sc_law_draw:FnScope ["_law_pen_here","_law_many","_law_digit","_law_at","_law_cell","_law_number"] ["_law_pen_here","_law_many"] (defScope s_law_draw):=⟨rfl,rfl,rfl,by decide +kernel,rfl,by decide +kernel,by decide +kernel⟩
theorem sc_law_order:FnScope ["_law_pen_here","_law_web","_law_rows","_law_k","_law_row","!0","!1","!2","!3","!4","!5","!6","!7","!8","!9","!10","!11","!12","!13","!14","!15","!16","!17","!18","!19","!20","!21","!22","!23","!24"] ["_law_pen_here","_law_web"] (defScope s_law_order):=⟨rfl,rfl,rfl,by decide +kernel,rfl,by decide +kernel,by decide +kernel⟩
theorem sc_law_begun:FnScope ["_law_row","_law_at"] ["_law_row"] (defScope s_law_begun):=⟨rfl,rfl,rfl,by decide +kernel,rfl,by decide +kernel,by decide +kernel⟩
theorem sc_law_one_part:FnScope ["_law_pen_here","_law_limit","_law_count","_law_way","_law_many","_law_ties","_law_k","_law_a","_law_b"] ["_law_pen_here","_law_limit"] (defScope s_law_one_part):=⟨rfl,rfl,rfl,by decide +kernel,rfl,by decide +kernel,by decide +kernel⟩
theorem sc_law_shuffled:FnScope ["_law_pen_here","_law_many","_law_found","_law_k"] ["_law_pen_here","_law_many"] (defScope s_law_shuffled):=⟨rfl,rfl,rfl,by decide +kernel,rfl,by decide +kernel,by decide +kernel⟩
theorem sc_law_renamed:FnScope ("_law_pen_here" :: "_law_web" :: "_law_order_here" :: "_law_count" :: "_law_numbers" :: "_law_turned" :: "_law_places" :: "_law_names" :: "_law_ties" :: "_law_end" :: "_law_tie" :: "_law_rows" :: "_law_place" :: "!0" :: "!1" :: "!2" :: "!3" :: "!4" :: "!5" :: "!6" :: "!7" :: "!8" :: "!9" :: "!10" :: "!11" :: "!12" :: "!13" :: "!14" :: "!15" :: "!16" :: "!17" :: "!18" :: "!19" :: "!20" :: "!21" :: "!22" :: "!23" :: []) ["_law_pen_here","_law_web","_law_order_here"] (defScope s_law_renamed):=⟨rfl,rfl,rfl,by decide +kernel,rfl,by decide +kernel,by decide +kernel⟩
theorem sc_law_plain_order:FnScope ["_law_pen_here","_law_web","_law_found","_law_way","_law_rows"] ["_law_pen_here","_law_web"] (defScope s_law_plain_order):=⟨rfl,rfl,rfl,by decide +kernel,rfl,by decide +kernel,by decide +kernel⟩
theorem sc_law_near:FnScope ("_law_pen_here" :: "_law_web" :: "_law_order_here" :: "_law_way" :: "_law_found" :: "_law_other" :: "_law_rows" :: "_law_row" :: "_law_end" :: "!0" :: "!1" :: "!2" :: "!3" :: "!4" :: "!5" :: "!6" :: "!7" :: "!8" :: "!9" :: "!10" :: "!11" :: "!12" :: "!13" :: "!14" :: "!15" :: "!16" :: "!17" :: "!18" :: "!19" :: "!20" :: "!21" :: "!22" :: "!23" :: "!24" :: []) ["_law_pen_here","_law_web","_law_order_here"] (defScope s_law_near):=⟨rfl,rfl,rfl,by decide +kernel,rfl,by decide +kernel,by decide +kernel⟩
theorem sc_law:FnScope ["_law_script","_law_pen_here","_law_great","_law_web","_law_floors","_law_k","_law_one","_law_codes","_law_j","_law_found"] ["_law_script"] (defScope s_law):=⟨rfl,rfl,rfl,by decide +kernel,rfl,by decide +kernel,by decide +kernel⟩
def Mb (mg:Str->Option Value):Prop:=∀x∈["abs","int","len","list","max","min","range","set","sorted","tuple"],mg x=none
local macro_rules | `(tactic| walk_at "js")=>`(tactic| first
 |with_reducible refine Zam (t:=tAsg _ _) ?_
 |with_reducible refine Zam (t:=tPar _ _ _) ?_
 |with_reducible refine Zam (t:=tDrop _) ?_
 |with_reducible refine iteF ?_
 |with_reducible refine iteT ?_
 |with_reducible refine Zbc ?_
 |with_reducible refine Zbo ?_
 |with_reducible refine Zcv ?_
 |with_reducible refine Zfh ?_
 |with_reducible refine Zav ?_
 |refine Zgb rfl rfl ?_
 |refine Zem rfl rfl ?_
 |with_reducible refine Zaz ?_
 |with_reducible refine Zt2 ?_
 |with_reducible refine Zaw ?_
 |with_reducible refine Zrg ?_
 |with_reducible refine Zho ?_
 |with_reducible refine Zto ?_
 |with_reducible refine Zbr ?_
 |with_reducible refine Zbl ?_
 |refine Zcf rfl rfl ?_
 |refine Zli rfl rfl ?_
 |with_reducible refine Zbt ?_
 |with_reducible refine Zp3 ?_
 |with_reducible refine Zsy ?_
 |with_reducible refine Zre ?_
 |with_reducible refine Zn6 ?_
 |with_reducible refine Zrk ?_
 |with_reducible refine Zjw ?_
 |with_reducible refine Zgx ?_
 |with_reducible refine Zf9 ?_
 |with_reducible refine Zag ?_
 |with_reducible refine Zab ?_
 |with_reducible refine Zbh ?_
 |with_reducible refine Zjf ?_
 |with_reducible refine Znt ?_
 |with_reducible refine Zo4 ?_
 |with_reducible refine Zhy ?_
 |with_reducible refine Za6 ?_
 |with_reducible refine Zc5 ?_
 |with_reducible refine Zoh ?_
 |with_reducible refine Zk7 ?_
 |with_reducible refine Zfj ?_
 |with_reducible refine Ztm ?_
 |with_reducible refine Zrp ?_
 |with_reducible refine Zer ?_
 |with_reducible refine Zb0 ?_
 |refine Zae rfl ?_
 |refine Zc3 rfl ?_
 |refine Zbu rfl ?_
 |refine Zdn (Or.inl rfl) ?_
 |refine Zdn (Or.inr rfl) ?_
 |refine Zb2 (Or.inl rfl) ?_
 |refine Zb2 (Or.inr rfl) ?_
 |refine Zo3 (Or.inl rfl) ?_
 |refine Zo3 (Or.inr rfl) ?_
 |refine Zjs ?_
 |refine⟨⟨_,_,rfl,rfl⟩,?_⟩
 |refine⟨_,_,_,_,rfl,rfl,rfl,rfl,?_⟩
 |refine⟨_,rfl,?_⟩
 |refine jr_I (by first|(show (0:Int)<_;omega)|exact⟨by omega,by omega⟩|exact Or.inl ⟨by omega,by omega⟩|exact Or.inr ⟨by omega,by omega⟩|exact⟨by decide,by decide,by decide⟩) ?_)
local macro_rules | `(tactic| walk_at "draw")=>`(tactic| first|refine Zbz rfl rfl (by assumption) (by omega) (by omega) λ_ _ _ _ _=>?_|refine⟨_,_,rfl,rfl,by assumption,_,rfl,by omega,by omega,λ_ _ _ _ _=>?_⟩)
def Pen (ps:List D):Prop:=∃(cs:List Int) (at_ num:Int),ps=[.lst (cs.map .int),.int at_,.int num]/\0<=at_/\0<=num/\cs.length<=63
def fDraw:BSp:=λps ds Post=>Pen ps/\∃m:Int,ds=[.int m]/\1<=m/\m<=100000000000000000000000000000000000000000000000000000000000/\∀r ps',Pen ps' -> 0<=r->r<m->Post (.int r) ps'
abbrev LendQ (f:BSp) (i:Nat) (P:D->Evt->Prop):List D->Evt->Prop:=λds Δ1=>∃y ps,Δ1[i]?=some y/\y.od=some (.lst ps)/\f ps ds λd ps'=>P d (Δ1.set i (y.put (.lst ps')))
theorem Zcf {K:W.Frag}{Δ:Evt}{P:D->Evt->Prop}{f:BSp}{ta:TA}{E:XK}{i:Nat}{x:Slot}{od:OD}(hx:Δ[i]?=some x) (ho:x.od=some od) (h:JA K ta Δ (LendQ f i P)):JE K (tCall (spB K f) [] E (tCons (tVar i) ta)) Δ P:=Zli hx ho h
theorem Zbz {Δ1:Evt}{i:Nat}{y:Slot}{ps:List D}{m:Int}{P:D->Evt->Prop}(hx:Δ1[i]?=some y) (ho:y.od=some (.lst ps)) (hp:Pen ps) (h1:1<=m) (h2:m<=100000000000000000000000000000000000000000000000000000000000) (h:∀r ps',Pen ps' -> 0<=r->r<m->P (.int r) (Δ1.set i (y.put (.lst ps')))) :
  LendQ fDraw i P [.int m] Δ1:=⟨y,ps,hx,ho,hp,m,rfl,h1,h2,h⟩
theorem Zh6 {K:W.Frag}{Δ:Evt}{E:XK}{i:Nat}{y:Slot}{ps:List D}{m:Int}{P:D->Evt->Prop}(hx:Δ[i]?=some y) (ho:y.od=some (.lst ps)) (hp:Pen ps) (h1:1<=m) (h2:m<=100000000000000000000000000000000000000000000000000000000000) (h:∀r ps',Pen ps' -> 0<=r->r<m->P (.int r) (Δ.set i (y.put (.lst ps')))) :
  JE K (tCall (spB K fDraw) [] E (tCons (tVar i) (tCons (tC (.int m)) tNil))) Δ P:=Zcf hx ho (Zab (Zaw (Zag (Zbz hx ho hp h1 h2 h))))
section
variable {P:Program}{w:World}{K:W.Frag}{mg:Str->Option Value}{base:Heap}{f:Addr}{fd:FuncData}
theorem Zqs (mb:Mb mg) (F:Fun K "_law_draw" "_law_draw" s_law_draw f fd):FnOk P w K mg base CX0 1 f fd ["_law_pen_here","_law_many"] (spB K fDraw):=by
 refine F.ok sc_law_draw (Zdp λps ds Post h=>by obtain⟨_,m,rfl,_⟩:=h;rfl) (λcdv A outer s H vs Q E hr h=>?_);have hu:=Zch hr;refine⟨_,(Zad (Zcj (Zax Zng (Zan (ixK K hu) (pv 0) Zaf (λ_ _=>rfl)) Zaf (nomark _)) (Zad (Zap (i:=2) sc_law_draw.nd rfl (Or.inl rfl) (Zar Zb7 (Zan (ixK K hu) (pv 0) Zaf (λ_ _=>rfl)) (pv 1))) (Zad (Zf5 (Zar Zgo (Zan (ixK K hu) (pv 0) Zaf (λ_ _=>rfl)) (pv 1)) (Zia (pv 0) Zaf (setU hu))) (Zai (Zba (pv 2))))) Zbd) (Zad (Zap (i:=3) sc_law_draw.nd rfl (Or.inl rfl) (Zan (ixK K hu) (pv 0) Zaf (λ_ _=>rfl))) (Zad (Zf5 (Zar (addK K) (pv 3) Zaf) (Zia (pv 0) Zaf (setU hu))) (Zad (Zap (i:=4) sc_law_draw.nd rfl (Or.inl rfl) Zaf) (Zad (Zcj (Zax Zng (Zaj (lenK K) rfl (mb "len" (by decide)) Zbm (Zaa (Zan (ixK K hu) (pv 0) Zaf (λ_ _=>rfl)) Zac)) Zaf (nomark _)) (Zai (Zap (i:=4) sc_law_draw.nd rfl (Or.inl rfl) (Zan (ixK K hu) (Zan (ixK K hu) (pv 0) Zaf (λ_ _=>rfl)) (Zar Zb7 (pv 3) (Zaj (lenK K) rfl (mb "len" (by decide)) Zbm (Zaa (Zan (ixK K hu) (pv 0) Zaf (λ_ _=>rfl)) Zac))) (λ_ _=>rfl)))) Zbd) (Zad (Zcj (PW.pt (pw_and (Zax Zrc (pv 3) (Zaj (lenK K) rfl (mb "len" (by decide)) Zbm (Zaa (Zan (ixK K hu) (pv 0) Zaf (λ_ _=>rfl)) Zac)) (nomark _)) (pw_and1 (Zax Ztv (Zaj Zf7 rfl (mb "abs" (by decide)) Zmn (Zaa (pv 4) Zac)) (Zar Zrx Zaf Zaf) (nomark _))))) (Zad (Zf5 (Zar Zgo (Zaj Zf7 rfl (mb "abs" (by decide)) Zmn (Zaa (pv 4) Zac)) (pv 1)) (Zia (pv 0) Zaf (setU hu))) (Zai (Zba (Zar Zb7 (Zaj Zf7 rfl (mb "abs" (by decide)) Zmn (Zaa (pv 4) Zac)) (pv 1))))) Zbd) (Zad (Zap (i:=5) sc_law_draw.nd rfl (Or.inl rfl) (Zar Zb7 (Zar Zc8 (Zar (addK K) (Zar (addK K) (Zar Zb7 (pv 4) Zaf) (Zar Zc8 Zaf (pv 3))) Zaf) Zaf) Zaf)) (Zad (Zap (i:=5) sc_law_draw.nd rfl (Or.inl rfl) (Zar Zb7 (Zar (addK K) (Zar (addK K) (Zar Zc8 (pv 5) (pv 5)) (Zar Zc8 Zaf (pv 5))) (pv 3)) Zaf)) (Zai (Zba (Zar Zb7 (Zar Zgo (Zar Zb7 (Zar Zc8 (pv 5) Zaf) Zaf) Zaf) (pv 1)))))))))))),Zi6 (λps ds Post hf=>?_) h⟩;obtain⟨⟨cs,at_,num,rfl,h1,h2,h3⟩,m,rfl,h4,h5,q⟩:=hf;refine⟨by simp,?_⟩;dsimp only[cxOf,startD,Wbw,Wbq,Wbd,Waj];refine Zbb (λΔ=>¬ 0<num /\ Δ = [.bor (.lst [.lst (cs.map .int),.int at_,.int num]),.val (.int m),.any,.any,.any,.any]) ?_ ?_
 ·repeat walk_at "js"
  refine ite2 (λc=>?_) (λc=>?_)
  ·have c:=of_decide_eq_true c
   repeat walk_at "js"
   exact q _ _ ⟨cs,at_,num / m,rfl,h1,Int.ediv_nonneg h2 (by omega),h3⟩ (Wdj _ (by omega)) (Wc8 _ (by omega))
  ·repeat walk_at "js"
   exact⟨of_decide_eq_false (Wdc.mpr c),rfl⟩
 rintro Δ1 ⟨hn,rfl⟩
 repeat walk_at "js"
 refine Zbb (λΔ=>∃c:Int,Δ = [.bor (.lst [.lst (cs.map .int),.int (at_+1),.int num]),.val (.int m),.any,.val (.int at_),.val (.int c),.any]) ?_ ?_
 ·repeat walk_at "js"
  refine ite2 (λc=>?_) (λc=>?_)
  ·have c:=of_decide_eq_true c
   rw[Wab]at c
   repeat walk_at "js"
   rw[Wab]
   repeat walk_at "js"
   obtain⟨cell,_,hc⟩:=Zi4 (f:=D.int) (xs:=cs) (i:=at_ % (cs.length:Int)) (Wdj _ (by omega)) (Wc8 _ (by omega));refine Zbu hc ?_;exact⟨cell,rfl⟩
  ·repeat walk_at "js"
   exact⟨11,rfl⟩
 rintro Δ1 ⟨cell,rfl⟩;refine Zbb (λΔ=>Δ = [.bor (.lst [.lst (cs.map .int),.int (at_+1),.int num]),.val (.int m),.any,.val (.int at_),.val (.int cell),.any]) ?_ ?_
 ·repeat walk_at "js"
  refine ite2 (λc=>?_) (λc=>?_)
  ·repeat walk_at "js"
   refine ite2 (λc=>?_) (λc=>?_)
   ·repeat walk_at "js"
    have ha:0<=(if cell<0 then -cell else cell):=by split <;> omega
    exact q _ _ ⟨cs,at_+1,_,rfl,by omega,Int.ediv_nonneg ha (by omega),h3⟩ (Wdj _ (by omega)) (Wc8 _ (by omega))
   ·repeat walk_at "js"
    rfl
  ·repeat walk_at "js"
   rfl
 rintro Δ1 rfl
 repeat walk_at "js"
 exact q _ _ ⟨cs,at_+1,num,rfl,by omega,h2,h3⟩ (Wdj _ (by omega)) (Wc8 _ (by omega))
end
def fPen:NSp:=λds Post=>∃ns:List Int,ds=[.scr (ns.map .int)]/\ns.length<=63/\∀ps,Pen ps->Post ps
section
variable {P:Program}{w:World}{K:W.Frag}{mg:Str->Option Value}{base:Heap}{f:Addr}{fd:FuncData}
theorem Zsa (mb:Mb mg) (F:Fun K "_law_pen" "_law_pen" s_law_pen f fd):FnOk P w K mg base CX0 1 f fd ["_law_script"] (spN K fPen):=by
 refine F.ok sc_law_pen (Zhb λds Post h=>by obtain⟨ns,rfl,_⟩:=h;rfl) (λcdv A outer s H vs Q E hr h=>?_);have hu:=Zch hr;refine⟨_,(Zai (Zba (Zcc (Zaa (Za8 ["_law_cell"] (show CompSc (defScope s_law_pen) ["_law_script"] _ [] [] from ⟨rfl,by decide +kernel,by decide +kernel,by decide +kernel,rfl,by decide +kernel⟩) rfl (seqK K (Zeq (slK K) (pv 0) Zgg (Zef Zaf))) (λ_ _ _ _ _=>(Zak (i:=0) (show List.Nodup (["_law_cell"]:List Str) from by decide) rfl (Or.inl rfl))) (λ_ _ _ _ _=>Za4) (λ_ _ _ _ _=>(pv 0))) (Zaa Zaf (Zaa Zaf Zac)))))),Zna (λds Post hf=>?_) h⟩;obtain⟨ns,rfl,h1,q⟩:=hf;refine⟨by simp,?_⟩;dsimp only[cxOf,startD,Wbw,Wbq,Wbd,Waj];refine Zez (Zdi (Zab (Za7 (by decide) (Zcy ?_))))
 repeat walk_at "js"
 have e:cutD (ns.map D.int) none (some 63)=ns.map D.int:=by
  unfold cutD;have e1:HT.sIx (ns.map D.int).length 0 none=0:=rfl;have e2:HT.sIx (ns.map D.int).length (ns.map D.int).length (some 63)=ns.length:=by
   rw[Wab];show min (Int.toNat 63) ns.length=_;omega
  rw[e1,e2,List.drop_zero,Wdy,Wcu (by simp)]
 rw[e];refine⟨_,Or.inl rfl,by rw[Wab];exact Wcg h1 (by decide),λ_=>true,λd=>d,λi d hd=>?_,?_⟩
 ·repeat walk_at "js"
  exact⟨rfl,Zae rfl ⟨rfl,_,rfl⟩⟩
 ·repeat walk_at "js"
  refine⟨by show 3<=sizeLine;decide,_,rfl,q _ ⟨ns,0,0,?_,by decide,by decide,h1⟩⟩;simp
end
def encTie (t:Int × Int):D:=.tup [.int t.1,.int t.2]
def encWeb (n:Int) (ts:List (Int × Int)):D:=.tup [.int n,.tup (ts.map encTie)]
structure WebOk (n:Int) (ts:List (Int × Int)):Prop where
 lo:1<=n
 hi:n<=25
 len:ts.length<=24
 tie:∀t∈ts,0<=t.1/\t.1<n/\0<=t.2/\t.2<n
theorem Zd3 {K:W.Frag}{Δ:Evt}{i:Nat}{v c:Int}{P:Bool->Evt->Prop}(hx:Δ[i]?=some (.val (.int v))) (h1:v=c->P true Δ) (h2:¬ v=c->P false Δ):JT K (tTest (tOp rEq (tVar i) (tC (.int c)))) Δ P:=
 Zbh (Zaz (Zae hx (Zaw (Zfj ⟨_,rfl,by
  by_cases h:v=c
  ·rw[decide_eq_true h];exact h1 h
  ·rw[decide_eq_false h];exact h2 h⟩))))
def placeAt (ts:List (Int × Int)) (e:Nat):Int:=match ts[e / 2]? with
 |some t=>if e % 2=0 then t.1 else t.2
 |none=>-1
def encRow (r:List Int):D:=.tup (r.map .int)
def encOrd (o:List (List Int)):D:=.tup (o.map encRow)
def endsBelow (ts:List (Int × Int)) (m:Nat) (p:Int):List Int:=((Wau m).filter λe=>decide (placeAt ts e=p)).map λe:Nat=>(e:Int)
structure RowOk (ts:List (Int × Int)) (m:Nat) (p:Int) (r:List Int):Prop where
 perm:r.Perm (endsBelow ts m p)
 first:r.head?=(endsBelow ts m p).head?
structure OrdOk (n:Int) (ts:List (Int × Int)) (o:List (List Int)):Prop where
 len:(o.length:Int)=n
 row:∀(p:Nat) r,o[p]?=some r->RowOk ts (2*ts.length) (p:Int) r
theorem Zdj (ts:List (Int × Int)) (k:Nat) (p:Int):endsBelow ts (k+1) p=endsBelow ts k p++(if placeAt ts k=p then [(k:Int)] else []):=by
 unfold endsBelow;rw[List.range_succ,Wb2,Wa4];congr 1;by_cases h:placeAt ts k=p
 ·simp[Wbv,h]
 ·simp[Wbv,h]
theorem Zg5 (ts:List (Int × Int)) (m:Nat) (p:Int):(endsBelow ts m p).length<=m:=by
 unfold endsBelow;rw[Wab];exact Wbl (Wci _ _) (by rw[Wbh];exact Wak _)
theorem RowOk.len {ts:List (Int × Int)}{m:Nat}{p:Int}{r:List Int}(h:RowOk ts m p r):r.length<=m:=by rw[h.perm.length_eq];exact Zg5 ts m p
theorem RowOk.stay {ts:List (Int × Int)}{k:Nat}{p:Int}{r:List Int}(h:RowOk ts k p r) (hp:placeAt ts k≠p):RowOk ts (k+1) p r:=by
 have e:=Zdj ts k p;rw[if_neg hp,Wbf]at e;exact⟨by rw[e];exact h.perm,by rw[e];exact h.first⟩
theorem RowOk.put {ts:List (Int × Int)}{k j:Nat}{p:Int}{r:List Int}(h:RowOk ts k p r) (hp:placeAt ts k=p) (hj:j<=r.length) (h1:r≠[]->1<=j):RowOk ts (k+1) p (r.take j++(k:Int)::r.drop j):=by
 have e:=Zdj ts k p;rw[if_pos hp]at e;refine⟨?_,?_⟩
 ·rw[e]
  refine List.perm_middle.trans ?_;rw[Wch];exact(List.Perm.cons _ h.perm).trans (List.perm_append_singleton _ _).symm
 ·rw[e]
  cases r with
  |nil=>
   have z:endsBelow ts k p=[]:=List.Perm.eq_nil h.perm.symm;rw[z];have:j=0:=by simpa using hj
   subst this;rfl
  |cons x r'=>
   have h2:=h1 (by simp);obtain⟨j',rfl⟩:∃j',j=j'+1:=⟨j-1,by omega⟩;have h3:=h.first;show some x=_;cases q:endsBelow ts k p with
   |nil=>rw[q]at h3;cases h3
   |cons y l=>rw[q]at h3;exact h3
theorem Zma {ts:List (Int × Int)}{k:Nat}(h:k<2*ts.length):∃t,ts[k / 2]?=some t/\atI (ts.map encTie) ((0+(k:Int)) / 2)=some (encTie t)/\atI [D.int t.1,D.int t.2] ((0+(k:Int)) % 2)=some (.int (placeAt ts k)):=by
 have hk:k / 2<ts.length:=by omega
 refine⟨ts[k / 2],Waa hk,?_,?_⟩
 ·have e:(0+(k:Int)) / 2=((k / 2:Nat):Int):=by omega
  rw[e];exact Zbi (by rw[Wad,Waa hk];rfl)
 ·have e2:placeAt ts k=if k % 2=0 then ts[k / 2].1 else ts[k / 2].2:=by
   unfold placeAt;rw[Waa hk]
  rw[e2];have e:(0+(k:Int)) % 2=((k % 2:Nat):Int):=by omega
  rw[e];by_cases h0:k % 2=0
  ·rw[if_pos h0,h0];exact Zbi rfl
  ·have h1:k % 2=1:=by omega
   rw[if_neg h0,h1];exact Zbi rfl
theorem Zcd {n:Int}{ts:List (Int × Int)}(hW:WebOk n ts) {k:Nat}(h:k<2*ts.length):0<=placeAt ts k/\placeAt ts k<n:=by
 have hk:k / 2<ts.length:=by omega
 have:=hW.tie _ (Wa6 hk);unfold placeAt;rw[Waa hk];dsimp only;split <;> omega
def fOrder:BSp:=λps ds Post=>Pen ps/\∃n ts,ds=[encWeb n ts]/\WebOk n ts/\∀o ps',Pen ps' -> OrdOk n ts o->Post (encOrd o) ps'
theorem Zjh {Δ1:Evt}{i:Nat}{y:L2.Slot}{ps:List D}{n:Int}{ts:List (Int × Int)}{P:D->Evt->Prop}(hx:Δ1[i]?=some y) (ho:y.od=some (.lst ps)) (hp:Pen ps) (hW:WebOk n ts) (h:∀o ps',Pen ps' -> OrdOk n ts o->P (encOrd o) (Δ1.set i (y.put (.lst ps')))) :
  LendQ fOrder i P [encWeb n ts] Δ1:=⟨y,ps,hx,ho,hp,n,ts,rfl,hW,h⟩
def oSt (ps:List D) (n:Int) (ts:List (Int × Int)) (cs:List (Addr × List Int)) (x3 x4:L2.Slot):Evt:=.bor (.lst ps)::.val (encWeb n ts)::.val (.lst (cs.map λc=>D.adr c.1))::x3::x4::(cs.map (λc=>L2.Slot.ownA c.1 (.lst (c.2.map D.int)))++Waj (25-n.toNat) .any)
def oP (n:Int) (ts:List (Int × Int)) (k:Nat):Evt->Prop:=λΔ=>∃(ps:List D) (cs:List (Addr × List Int)) (x3 x4:L2.Slot),Pen ps/\cs.length=n.toNat/\(∀(p:Nat) c,cs[p]?=some c->RowOk ts k (p:Int) c.2) /\ Δ = oSt ps n ts cs x3 x4
theorem Zkx {n:Int}{ts:List (Int × Int)}{ps:List D}{as:List Addr}(hn2:n<=25) (hal:as.length=(Wbq (λ_=>OD.lst []) ((rngD 0 n.toNat).filter λ_=>true)).length):∃cs:List (Addr × List Int),cs.length=n.toNat/\(∀(p:Nat) c,cs[p]?=some c->c.2=[]) ∧
  L2.putN 5 (as.zip (Wbq (λ_=>OD.lst []) ((rngD 0 n.toNat).filter λ_=>true))) ([.bor (.lst ps),.val (encWeb n ts),.val (.lst (as.map D.adr)),.any,.any]++Waj 25 .any)=oSt ps n ts cs .any .any:=by
 have eR:(rngD 0 n.toNat).filter (λ_=>true)=rngD 0 n.toNat:=by simp
 rw[eR,Wab,Zau]at hal;have eO:(rngD 0 n.toNat).map (λ_=>OD.lst [])=Waj n.toNat (OD.lst []):=by
  rw[List.map_const',Zau]
 rw[eR,eO];generalize hcs:as.map (λa=>((a,[]):Addr × List Int))=cs;have hcl:cs.length=n.toNat:=by rw[<- hcs,Wab,hal]
 have e1:as.map D.adr=cs.map λc=>D.adr c.1:=by rw[<- hcs,Wal];rfl
 have e2:as.zip (Waj n.toNat (OD.lst []))=cs.map λc=>(c.1,OD.lst (c.2.map D.int)):=by
  rw[<- hcs,Wal,<- hal];clear e1 hcl hcs hal
  induction as with
  |nil=>rfl
  |cons a r ih=>rw[Wao,Wdn,Wb1,ih];rfl
 have e3:=Zif (cs.map λc=>(c.1,OD.lst (c.2.map D.int))) [.bor (.lst ps),.val (encWeb n ts),.val (.lst (cs.map λc=>D.adr c.1)),.any,.any] [] 25 (by rw[Wab];omega);rw[Wbf,Wbf,Wal,Wab,hcl]at e3;refine⟨cs,hcl,λp c hc=>?_,by rw[e1,e2];exact e3⟩;rw[<- hcs,Wad]at hc;cases q:as[p]? with
 |none=>rw[q]at hc;cases hc
 |some a=>rw[q]at hc;cases hc;rfl
theorem Zst {ps:List D}{n:Int}{ts:List (Int × Int)}{cs:List (Addr × List Int)}{x3 x4:L2.Slot}{p:Nat}{c:Addr × List Int}(h:cs[p]?=some c):(oSt ps n ts cs x3 x4)[p+5]?=some (.ownA c.1 (.lst (c.2.map D.int))):=by
 show (cs.map (λc=>L2.Slot.ownA c.1 (.lst (c.2.map D.int)))++Waj (25-n.toNat) .any)[p]?=_;rw[Wa8 (by rw[Wab];exact(Waf.mp h).1),Wad,h];rfl
theorem Zq3 {ps ps':List D}{n:Int}{ts:List (Int × Int)}{cs:List (Addr × List Int)}{x3 x4:L2.Slot}{p:Nat}{c:Addr × List Int}{r:List Int}{v:L2.Slot}(h:cs[p]?=some c) (hv:v=.ownA c.1 (.lst (r.map D.int))):(oSt ps n ts cs x3 x4).set (p+5) v=oSt ps n ts (cs.set p (c.1,r)) x3 x4:=by
 have hp:=(Waf.mp h).1;have ea:(cs.set p (c.1,r)).map (λc=>D.adr c.1)=cs.map λc=>D.adr c.1:=by
  rw[Wc7];apply Wb6;intro i;by_cases hii:i=p
  ·subst hii
   rw[Wai (by rw[Wab];exact hp),Wad,h];rfl
  ·rw[Wap (Ne.symm hii)]
 unfold oSt;rw[ea,Wc7,hv,<- Wdk _ _ (by rw[Wab];exact hp)];rfl
section
variable {P:Program}{w:World}{K:W.Frag}{mg:Str->Option Value}{base:Heap}{f:Addr}{fd:FuncData}
theorem Zou (mb:Mb mg) (C21:Callee P w K mg base 1 "_law_draw" ["_law_pen_here","_law_many"] (spB K fDraw)) (F:Fun K "_law_order" "_law_order" s_law_order f fd):FnOk P w K mg base CX0 2 f fd ["_law_pen_here","_law_web"] (spB K fOrder):=by
 refine F.ok sc_law_order (Zdp λps ds Post h=>by obtain⟨_,n,ts,rfl,_⟩:=h;rfl) (λcdv A outer s H vs Q E hr h=>?_);have hu:=Zch hr;refine⟨_,(Zad (Zgr 5 (show ∀x∈(["_law_pen_here","_law_web","_law_rows","_law_k","_law_row","!0","!1","!2","!3","!4","!5","!6","!7","!8","!9","!10","!11","!12","!13","!14","!15","!16","!17","!18","!19","!20","!21","!22","!23","!24"]:List Str).drop 5,(defScope s_law_order).names.lookup x=none from by decide +kernel) (Zdc (i:=2) ["_law_place"] (show CompSc (defScope s_law_order) ["_law_pen_here","_law_web","_law_rows","_law_k","_law_row","!0","!1","!2","!3","!4","!5","!6","!7","!8","!9","!10","!11","!12","!13","!14","!15","!16","!17","!18","!19","!20","!21","!22","!23","!24"] _ [] [] from ⟨rfl,by decide +kernel,by decide +kernel,by decide +kernel,rfl,by decide +kernel⟩) rfl sc_law_order.nd rfl (Or.inl rfl) (Za2 rfl (mb "range" (by decide)) (Zaa (Zan (ixK K hu) (pv 1) Zaf (λ_ _=>rfl)) Zac)) (λ_ _ _ _ _=>(Zak (i:=0) (show List.Nodup (["_law_place"]:List Str) from by decide) rfl (Or.inl rfl))) (λ_ _ _ _ _=>Za4) (λ_ _ _ _ _=>(Zcc Zac)))) (Zad (Zcx PassesOwn.never rfl (Za2 rfl (mb "range" (by decide)) (Zaa (Zar Zc8 Zaf (Zaj (lenK K) rfl (mb "len" (by decide)) Zbm (Zaa (Zan (ixK K hu) (pv 1) Zaf (λ_ _=>rfl)) Zac))) Zac)) (Zak (i:=3) sc_law_order.nd rfl (Or.inl rfl)) (Zad (Zap (i:=4) sc_law_order.nd rfl (Or.inl rfl) (Zan (ixK K hu) (pv 2) (Zan (ixK K hu) (Zan (ixK K hu) (Zan (ixK K hu) (pv 1) Zaf (λ_ _=>rfl)) (Zar Zd9 (pv 3) Zaf) (λ_ _=>rfl)) (Zar Zb7 (pv 3) Zaf) (λ_ _=>rfl)) (λ_ _=>rfl))) (Zai (Zb4 (bmK K PySem.F.plainAttrs_list PySem.F.slot_list_insert PySem.F.type_list_insert Zd0 (pv 4) (Zaa (Zaj (Zfa rfl) rfl (mb "min" (by decide)) Zhp (Zaa (Zaj (lenK K) rfl (mb "len" (by decide)) Zbm (Zaa (pv 4) Zac)) (Zaa (Zar (addK K) Zaf (Za3 C21 (hr.mono (by decide)) (Zaa (pv 0) (Zaa (Zaj (Ze2 rfl) rfl (mb "max" (by decide)) Zm2 (Zaa Zaf (Zaa (Zaj (lenK K) rfl (mb "len" (by decide)) Zbm (Zaa (pv 4) Zac)) Zac))) Zac)))) Zac))) (Zaa (pv 3) Zac))))))) (Zai (Zba (Za0 (tupK K) rfl (mb "tuple" (by decide)) Zbk (Zaa (Za8 ["_law_row"] (show CompSc (defScope s_law_order) ["_law_pen_here","_law_web","_law_rows","_law_k","_law_row","!0","!1","!2","!3","!4","!5","!6","!7","!8","!9","!10","!11","!12","!13","!14","!15","!16","!17","!18","!19","!20","!21","!22","!23","!24"] _ [] [] from ⟨rfl,by decide +kernel,by decide +kernel,by decide +kernel,rfl,by decide +kernel⟩) rfl (seqK K (pv 2)) (λ_ _ _ _ _=>(Zak (i:=0) (show List.Nodup (["_law_row"]:List Str) from by decide) rfl (Or.inl rfl))) (λ_ _ _ _ _=>Za4) (λ_ _ _ _ _=>(Za0 (tupK K) rfl (mb "tuple" (by decide)) Zbk (Zaa (pv 0) Zac)))) Zac)))))),Zi6 (λps ds Post hf=>?_) h⟩;obtain⟨hp,n,ts,rfl,hW,q⟩:=hf;refine⟨by simp,?_⟩;dsimp only[cxOf,startD,Wbw,Wbq,Wbd];have hn:=hW.lo;have hn2:=hW.hi;have hts:=hW.len
 -- the rows
 refine Zam (Ziz (Zgp (by decide) (Za1 ?_)));refine Zab (Zaz (Zae rfl (Zaw (Zc3 (d:=.int n) rfl (Zag ⟨n,rfl,by omega,by omega,?_⟩)))));refine⟨by rw[Zau];exact small1000 (by omega),λ_=>true,λ_=>.lst [],λi d hd=>?_,by decide,?_,λas hal hnd=>?_⟩
 ·exact Za6 ⟨rfl,Zdi (Zag ⟨by decide,rfl,_,rfl⟩)⟩
 ·rw[Wab]
  have e:((rngD 0 n.toNat).filter λ_=>true).length<=25:=Wbl (Wci _ _) (by rw[Zau];omega);show 5+_<=30;omega
 obtain⟨cs,hcl,hce,e⟩:=Zkx (ps:=ps) (ts:=ts) hn2 hal;refine Eq.mpr (congrArg (λΔ=>JS K _ Δ _) e) ?_
 -- the loop
 refine Zbb (oP n ts (2*ts.length)) ?_ ?_
 ·refine Zc0 (Za1 (Zab (Za9 (Zbw Zay (Zev (Zbs (ds:=[.int n,.tup (ts.map encTie)]) rfl rfl)) (pr_I (Or.inl ⟨by decide,by decide⟩))) (Zag ⟨_,rfl,?_,?_,?_⟩))))
  ·rw[Wab];omega
  ·rw[Wab];omega
  have eL:((2:Int)*((ts.map encTie).length:Int)).toNat=2*ts.length:=by rw[Wab];omega
  refine⟨oP n ts,⟨ps,cs,.any,.any,hp,hcl,λp c hc=>by rw[hce p c hc];exact⟨List.Perm.refl _,rfl⟩,rfl⟩,?_,λΔ h=>by rw[Zau,eL]at h;exact h⟩
  ·rintro k d Δ2 hd ⟨ps,cs,x3,x4,hp,hcl,hrow,rfl⟩
   rw[eL]at hd;obtain⟨hk,rfl⟩:=Zbj hd;obtain⟨t,ht1,ht2,ht3⟩:=Zma hk;obtain⟨pl0,pl1⟩:=Zcd hW hk;obtain⟨c,hc1,hc2⟩:=Zi4 (f:=λc:Addr × List Int=>D.adr c.1) (xs:=cs) (i:=placeAt ts k) pl0 (by omega);have hR:=hrow _ c hc1;have hRl:=hR.len;have ep:((placeAt ts k).toNat:Int)=placeAt ts k:=Wca pl0;have hsl:∀(ps:List D) (x3 x4:L2.Slot),(oSt ps n ts cs x3 x4)[(placeAt ts k).toNat+5]?=some (.ownA c.1 (.lst (c.2.map D.int))):=λps x3 x4=>Zst hc1;have hlen:(c.2.map D.int).length=c.2.length:=Wab _;refine Zb0 (Zam (Zav (Za9 (Zbp (d:=.adr c.1) (Zah rfl) (Zdm (Zdm (Zbs (d:=.tup (ts.map encTie)) rfl rfl) (Zbw (Zah rfl) Zay (pr_I ⟨by decide,by decide⟩)) ht2) (Zbw (Zah rfl) Zay (pr_I (by show (0:Int)<2;decide))) ht3) hc2) ?_)));refine Zmb (a:=c.1) rfl (hsl ps _ _) ?_;refine Zbr (Zab (Zga rfl (hsl ps _ _) (Zab (Zaz (Zaw (Zcf rfl rfl (Zab (Zbr (Zab (Zaw (Zab (Zga rfl (hsl ps _ _) (Zag (Zer (Zag ?_)))))))))))))));refine Zbz rfl rfl hp (by split <;> omega) (by split <;> omega) λr ps' hp' hr0 hr1=>?_
   refine Zc5 (Zag (Zer (Zae rfl ⟨_,_,_,rfl,hsl ps' _ _,by rw[hlen];exact small1000 (by omega),by split <;> omega,by split <;> omega,?_⟩)))
   generalize hi:insI (c.2.map D.int).length (if 1+r<((c.2.map D.int).length:Int) then 1+r else ((c.2.map D.int).length:Int))=j;have hj:j<=c.2.length/\(c.2≠[]->1<=j):=by
    rw[<- hi,hlen];unfold insI;refine⟨?_,λh=>?_⟩
    ·split <;> split <;> omega
    ·have:=Wc5.mpr h
     split <;> split <;> omega
   refine⟨ps',cs.set (placeAt ts k).toNat (c.1,c.2.take j++(k:Int)::c.2.drop j),.val (.int (0+(k:Int))),.val (.adr c.1),hp',by rw[Wbs];exact hcl,λp c' hc'=>?_,Zq3 (ps:=ps') (ps':=ps') hc1 ?_⟩
   ·by_cases hpp:p=(placeAt ts k).toNat
    ·subst hpp
     rw[Wai (by omega)]at hc';cases hc';exact hR.put (by omega) hj.1 hj.2
    ·rw[Wap (Ne.symm hpp)]at hc'
     exact(hrow p c' hc').stay (by omega)
   ·rw[Wa4,Wc2,Wbe,Wc3,Wbj]
 -- the end
 rintro Δ1 ⟨ps3,cs3,x3,x4,hp3,hcl3,hrow3,rfl⟩;refine JS.conv (Δ':=.bor (.lst ps3)::.val (encWeb n ts)::.val (.lst (cs3.map λc=>D.lst (c.2.map D.int)))::x3::x4::(Waj cs3.length .any++Waj (25-n.toNat) .any)) (λg G H σ k=>?_) ?_
 ·have:=Ok.thaw (cs:=cs3.map λc=>(c.1,c.2.map D.int)) (R:=[.bor (.lst ps3),.val (encWeb n ts),.val (.lst (cs3.map λc=>D.adr c.1)),x3,x4]) (T:=Waj (25-n.toNat) .any) (i:=2) (g:=g) (G:=G) (H:=H) (σ:=σ) (K:=K) (by rw[Wal];exact k) (by rw[Wal];rfl)
  rw[Wal,Wab]at this;exact this
 refine Zbo (Zbr (Zab (Za7 (by decide) (Zcy (Zae rfl ⟨_,Or.inl rfl,?_,λ_=>true,λd=>match d with|.lst ds=>.tup ds|d=>d,λi d hd=>?_,?_⟩)))))
 ·rw[Wab];exact small1000 (by omega)
 ·rw[Wad]at hd
  cases q:cs3[i]? with
  |none=>rw[q]at hd;cases hd
  |some c=>
   rw[q]at hd;have hd:D.lst (c.2.map D.int)=d:=by simpa using hd
   subst hd;exact Za6 ⟨rfl,Zbr (Zab (Zae rfl (Zag (Zb2 (Or.inl rfl) ⟨rfl,_,rfl⟩))))⟩
 ·refine Zag (Zb2 (Or.inl rfl) ⟨ps3,rfl,?_⟩)
  have e:((cs3.map λc=>D.lst (c.2.map D.int)).filter λ_=>true).map (λd=>match d with|.lst ds=>D.tup ds|d=>d)=(cs3.map (·.2)).map encRow:=by
   rw[Wa2.mpr (by simp),Wal,Wal];rfl
  rw[e];exact q _ _ hp3 ⟨by rw[Wab];omega,λp r hr=>by
   rw[Wad]at hr;cases z:cs3[p]? with
   |none=>rw[z]at hr;cases hr
   |some c=>rw[z]at hr;cases hr;exact hrow3 p c z⟩
end
def nextIn (r:List Int) (x:Int):Int:=r.getD ((r.idxOf x+1) % r.length) 0
def rowAt (ts:List (Int × Int)) (o:List (List Int)) (e:Nat):List Int:=o.getD (placeAt ts e).toNat []
def turnRow (r:List Int):List Int:=r.take 1++(r.drop 1).reverse
def partner (e:Nat):Nat:=if e % 2=0 then e+1 else e-1
theorem Zj4 {e m:Nat}(h:e<2*m):partner e<2*m:=by unfold partner;split <;> omega
theorem Zhf {ts:List (Int × Int)}{m:Nat}{p x:Int}:x∈endsBelow ts m p ↔ ∃e:Nat,e<m/\placeAt ts e=p/\(e:Int)=x:=by
 unfold endsBelow;rw[Wa9];constructor
 ·rintro⟨e,he,rfl⟩
  rw[Wbn,Wa5]at he;exact⟨e,he.1,of_decide_eq_true he.2,rfl⟩
 ·rintro⟨e,h1,h2,rfl⟩
  exact⟨e,by rw[Wbn,Wa5];exact⟨h1,decide_eq_true h2⟩,rfl⟩
theorem Zfd (ts:List (Int × Int)) (m:Nat) (p:Int):(endsBelow ts m p).Nodup:=by
 unfold endsBelow;refine List.Pairwise.map _ (λa b h=>?_) (List.Pairwise.filter _ List.nodup_range);intro e;exact h (by omega)
theorem RowOk.nodup {ts:List (Int × Int)}{m:Nat}{p:Int}{r:List Int}(h:RowOk ts m p r):r.Nodup:=h.perm.nodup_iff.mpr (Zfd ts m p)
theorem RowOk.mem {ts:List (Int × Int)}{m:Nat}{p x:Int}{r:List Int}(h:RowOk ts m p r):x∈r ↔ ∃e:Nat,e<m/\placeAt ts e=p/\(e:Int)=x:=h.perm.mem_iff.trans Zhf
theorem RowOk.turn {ts:List (Int × Int)}{m:Nat}{p:Int}{r:List Int}(h:RowOk ts m p r):RowOk ts m p (turnRow r):=by
 refine⟨List.Perm.trans ?_ h.perm,?_⟩
 ·unfold turnRow
  exact(List.Perm.append_left _ (List.reverse_perm _)).trans (by rw[Wch])
 ·rw[<- h.first]
  unfold turnRow;cases r with
  |nil=>rfl
  |cons x r=>rfl
theorem OrdOk.turn {n:Int}{ts:List (Int × Int)}{o:List (List Int)}(h:OrdOk n ts o):OrdOk n ts (o.map turnRow):=by
 refine⟨by rw[Wab];exact h.len,λp r hr=>?_⟩;rw[Wad]at hr;cases q:o[p]? with
 |none=>rw[q]at hr;cases hr
 |some r'=>rw[q]at hr;cases hr;exact(h.row p r' q).turn
theorem Zd4 {n:Int}{ts:List (Int × Int)}{o:List (List Int)}(hW:WebOk n ts) (hO:OrdOk n ts o) {e:Nat}(he:e<2*ts.length) :
  o[(placeAt ts e).toNat]?=some (rowAt ts o e)/\RowOk ts (2*ts.length) (placeAt ts e) (rowAt ts o e)/\(e:Int)∈rowAt ts o e:=by
 obtain⟨p0,p1⟩:=Zcd hW he;have hl:=hO.len;have hk:(placeAt ts e).toNat<o.length:=by omega
 have q:o[(placeAt ts e).toNat]?=some (rowAt ts o e):=by
  unfold rowAt;rw[Waa hk,Wac,Waa hk];rfl
 have r:=hO.row _ _ q;rw[show ((placeAt ts e).toNat:Int)=placeAt ts e by omega]at r;exact⟨q,r,r.mem.mpr ⟨e,he,rfl,rfl⟩⟩
theorem Zat {r:List Int}{x:Int}(h:x∈r):r.idxOf x<r.length/\r[r.idxOf x]?=some x/\∀m,m<r.idxOf x->r[m]?≠some x:=by
 have hl:=List.idxOf_lt_length_of_mem h;refine⟨hl,?_,λm hm e=>?_⟩
 ·rw[Waa hl,List.getElem_idxOf hl]
 ·obtain⟨h1,h2⟩:=Waf.mp e
  have:=List.not_of_lt_findIdx (p:=(· == x)) (xs:=r) hm;rw[h2]at this;simp at this
theorem Zr6 (k:Nat):k ||| 1=2*(k / 2)+1:=by
 apply Nat.eq_of_testBit_eq;intro i;rw[Nat.testBit_or];cases i with
 |zero=>rw[Nat.testBit_zero,Nat.testBit_zero,Nat.testBit_zero];simp
 |succ i=>
  rw[Nat.testBit_succ,Nat.testBit_succ,Nat.testBit_succ,show (2*(k / 2)+1) / 2=k / 2 by omega];simp
theorem Zms (k:Nat):Builtin.bitXor (k:Int) 1=(partner k:Int):=by
 have e1:Builtin.bitAnd (k:Int) 1=((k % 2:Nat):Int):=by
  unfold Builtin.bitAnd;rw[decide_eq_true (show (0:Int)<=(k:Int) by omega),decide_eq_true (show (0:Int)<=1 by decide)];show ((((k:Int).toNat &&& (1:Int).toNat:Nat)):Int)=_;rw[Wah,show (1:Int).toNat=1 from rfl,Nat.and_one_is_mod]
 have e2:Builtin.bitOr (k:Int) 1=((2*(k / 2)+1:Nat):Int):=by
  unfold Builtin.bitOr Builtin.bitAnd;rw[decide_eq_false (show ¬ (0:Int)<=Builtin.bitNot (k:Int) by unfold Builtin.bitNot;omega),decide_eq_false (show ¬ (0:Int)<=Builtin.bitNot 1 by decide)];show Builtin.bitNot (Builtin.bitNot (((Builtin.bitNot (Builtin.bitNot (k:Int))).toNat ||| (Builtin.bitNot (Builtin.bitNot 1)).toNat:Nat):Int))=_;have n1:∀x:Int,Builtin.bitNot (Builtin.bitNot x)=x:=λx=>by unfold Builtin.bitNot;omega
  rw[n1,n1,n1,Wah,show (1:Int).toNat=1 from rfl,Zr6]
 unfold Builtin.bitXor;rw[e1,e2];unfold partner;split <;> omega
theorem Zde {α:Type}[DecidableEq α]:∀{l m:List α},l.Nodup->(∀x∈l,x∈m)->l.length<=m.length
 |[],_,_,_=>Wbx _
 |x::l,m,nd,h=>by
  rw[Wb8]at nd;have hx:=h x Way;have:=Zde (l:=l) (m:=m.erase x) nd.2 λy hy=>by
   have hne:y≠x:=λe=>nd.1 (e ▸ hy);exact(List.mem_erase_of_ne hne).mpr (h y (Wav _ hy))
  rw[List.length_erase_of_mem hx]at this;have hpos:0<m.length:=Wcv hx;rw[Wao];omega
theorem Zeg (ts:List (Int × Int)) (m:Nat) (p:Int):(endsBelow ts m p).Pairwise (· < ·):=by
 unfold endsBelow;refine List.Pairwise.map _ (λa b h=>?_) (List.Pairwise.filter _ Wb9);omega
def rotAt (l:List Int) (j:Nat):List Int:=l.drop j++l.take j
theorem Zdf:∀(l:List Int),l≠[]->∃m,m∈l/\∀a∈l,m<=a
 |[],h=>absurd rfl h
 |[x],_=>⟨x,Way,λa ha=>by rw[Wa3.mp ha];exact Int.le_refl _⟩
 |x::y::l,_=>by
  obtain⟨m,h1,h2⟩:=Zdf (y::l) (by simp);by_cases h:x<=m
  ·refine⟨x,Way,λa ha=>?_⟩
   rcases Wat.mp ha with z|z
   ·omega
   ·have:=h2 a z;omega
  ·refine⟨m,Wav _ h1,λa ha=>?_⟩
   rcases Wat.mp ha with z|z
   ·omega
   ·exact h2 a z
theorem Zdk {l:List Int}(nd:l.Nodup) {j:Nat}{x:Int}(h:l[j]?=some x):l.idxOf x=j:=by
 obtain⟨h1,h2⟩:=Waf.mp h;obtain⟨i1,i2,_⟩:=Zat (r:=l) (x:=x) (by rw[<- h2];exact Wa6 h1);obtain⟨i3,i4⟩:=Waf.mp i2;exact(Wd0 nd).mp (i4.trans h2.symm)
theorem Zo0 (ds:List D) {j:Nat}(h:j<=ds.length):cutD ds (some (j:Int)) none=ds.drop j:=by
 unfold cutD;rw[HT.sIx_nat,HT.sIx_none,Nat.min_eq_left h,Wcu (by rw[Wbu];exact Wak _)]
theorem Zs7 (ds:List D) {j:Nat}(h:j<=ds.length):cutD ds none (some (j:Int))=ds.take j:=by
 unfold cutD;rw[HT.sIx_nat,HT.sIx_none,Nat.min_eq_left h,List.drop_zero,Wdy]
section
variable {P:Program}{w:World}{K:W.Frag}{mg:Str->Option Value}{base:Heap}{f:Addr}{fd:FuncData}
def fPlace:DSp:=λds Post=>∃n ts,∃e:Nat,ds=[encWeb n ts,.int e]/\e<2*ts.length/\Post (.int (placeAt ts e))
def folOf (ts:List (Int × Int)) (o:List (List Int)) (e:Nat):Int:=nextIn (rowAt ts o e) e
def fFol:DSp:=λds Post=>∃n ts o,∃e:Nat,ds=[encWeb n ts,encOrd o,.int e]/\WebOk n ts/\OrdOk n ts o/\e<2*ts.length/\Post (.int (folOf ts o e))
theorem Zow (mb:Mb mg) (F:Fun K "place_of" "place_of" s_place_of f fd):FnOk P w K mg base CX0 1 f fd ["web","end"] (spD K fPlace):=by
 refine F.ok sc_place_of (Zcu λds Post h=>by obtain⟨_,_,_,rfl,_⟩:=h;rfl) (λcdv A outer s H vs Q E hr h=>?_);have hu:=Zch hr;refine⟨_,(Zai (Zba (Zan (ixK K hu) (Zan (ixK K hu) (Zan (ixK K hu) (pv 0) Zaf (λ_ _=>rfl)) (Zar Zd9 (pv 1) Zaf) (λ_ _=>rfl)) (Zar Zb7 (pv 1) Zaf) (λ_ _=>rfl)))),Zgj (λds Post hf=>?_) h⟩;obtain⟨n,ts,e,rfl,he,q⟩:=hf;refine⟨by simp,?_⟩;dsimp only[startD,Wbw,Wbq,Wbd];obtain⟨t,h1,h2,h3⟩:=Zma he;rw[Wbj]at h2 h3;refine Zbo (Zaz (Zaz (Zaz (Zae rfl (Zaw (Zc3 (d:=.tup (ts.map encTie)) rfl ?_))))));refine Zaz (Zae rfl (Zaw (jr_I ⟨by omega,by omega⟩ (Zc3 h2 ?_))));exact Zaz (Zae rfl (Zaw (jr_I (by show (0:Int)<2;omega) (Zc3 h3 q))))
theorem Zi0 (mb:Mb mg) (C36:Callee P w K mg base 1 "place_of" ["web","end"] (spD K fPlace)) (F:Fun K "follower" "follower" s_follower f fd):FnOk P w K mg base CX0 2 f fd ["web","order","end"] (spD K fFol):=by
 refine F.ok sc_follower (Zcu λds Post h=>by obtain⟨_,_,_,_,rfl,_⟩:=h;rfl) (λcdv A outer s H vs Q E hr h=>?_);have hu:=Zch hr;refine⟨_,(Zad (Zap (i:=3) sc_follower.nd rfl (Or.inl rfl) (Zan (ixK K hu) (pv 1) (Za3 C36 (hr.mono (by decide)) (Zaa (pv 0) (Zaa (pv 2) Zac))) (λ_ _=>rfl))) (Zai (Zba (Zan (ixK K hu) (pv 3) (Zar Zb7 (Zar (addK K) (bmK K PySem.F.plainAttrs_tuple PySem.F.slot_tuple_index PySem.F.type_tuple_index (idxK K) (pv 3) (Zaa (pv 2) Zac)) Zaf) (Zaj (lenK K) rfl (mb "len" (by decide)) Zbm (Zaa (pv 3) Zac))) (λ_ _=>rfl))))),Zgj (λds Post hf=>?_) h⟩;obtain⟨n,ts,o,e,rfl,hW,hO,he,q⟩:=hf;refine⟨by simp,?_⟩;dsimp only[startD,Wbw,Wbq,Wbd];obtain⟨g1,g2,g3⟩:=Zd4 hW hO he;obtain⟨p0,p1⟩:=Zcd hW he;obtain⟨i1,i2,i3⟩:=Zat g3;have hat:atI (o.map encRow) (placeAt ts e)=some (encRow (rowAt ts o e)):=by
  have ep:placeAt ts e=(((placeAt ts e).toNat:Nat):Int):=by omega
  rw[ep];exact Zbi (by rw[Wad,g1];rfl)
 refine Zam (Zav (Zaz (Zae rfl (Zbl (Zab (Zae rfl (Zab (Zae rfl (Zag ⟨n,ts,e,rfl,he,Zc3 hat ?_⟩)))))))));refine Zbo (Zaz (Zae rfl (Zaz (Zaz (Zjw (Zae rfl ⟨rowAt ts o e,rfl,Zae rfl ⟨e,(rowAt ts o e).idxOf (e:Int),rfl,i2,i3,?_⟩⟩))))));refine Zaw (Zc5 ?_);refine Zbr (Zab (Zae rfl (Zag (Zdn (Or.inr rfl) ?_))));rw[Wab];refine jr_I (by show (0:Int)<_;omega) ?_;have e1:(((rowAt ts o e).idxOf (e:Int):Int)+1) % ((rowAt ts o e).length:Int)=((((rowAt ts o e).idxOf (e:Int)+1) % (rowAt ts o e).length:Nat):Int):=by push_cast;rfl
 rw[e1];have hm:((rowAt ts o e).idxOf (e:Int)+1) % (rowAt ts o e).length<(rowAt ts o e).length:=Wdw _ (by omega);refine Zc3 (d:=.int (folOf ts o e)) (Zbi ?_) q;rw[Wad,Waa hm];unfold folOf nextIn;rw[Wac,Waa hm];rfl
theorem Zcb:2<=sizeLine:=by decide
end
def iter (f:Int->Int) (e:Int):Nat->Int
 |0=>e
 |n+1=>f (iter f e n)
def walkL (f:Int->Int) (e:Int) (n:Nat):List Int:=(Wau n).map (iter f e)
structure OneOne (f:Int->Int) (m:Nat):Prop where
 to:∀x,0<=x->x<(m:Int)->0<=f x/\f x<(m:Int)
 inj:∀x y,0<=x->x<(m:Int)->0<=y->y<(m:Int)->f x=f y->x=y
def NdTo (f:Int->Int) (e:Int) (n:Nat):Prop:=∀i j,i<n->j<n->iter f e i=iter f e j->i=j
structure IsOrb (f:Int->Int) (e:Int) (n:Nat):Prop where
 pos:0<n
 back:iter f e n=e
 nd:NdTo f e n
noncomputable def per (f:Int->Int) (e:Int):Nat:=Classical.epsilon (IsOrb f e)
noncomputable def orb (f:Int->Int) (e:Int):List Int:=walkL f e (per f e)
section
variable {f:Int->Int}{m:Nat}(F:OneOne f m) {e:Int}(h0:0<=e) (h1:e<(m:Int))
include F h0 h1
end
section
variable {f:Int->Int}{m:Nat}(F:OneOne f m)
include F
end
theorem Zog {r:List Int}{x:Int}(h:x∈r):nextIn r x∈r:=by
 obtain⟨h1,_,_⟩:=Zat h;have hm:(r.idxOf x+1) % r.length<r.length:=Wdw _ (by omega);unfold nextIn;rw[Wac,Waa hm];exact Wa6 hm
theorem Zp7 {n:Int}{ts:List (Int × Int)}{o:List (List Int)}(hW:WebOk n ts) (hO:OrdOk n ts o) {e:Nat}(he:e<2*ts.length):∃g:Nat,g<2*ts.length/\placeAt ts g=placeAt ts e/\(g:Int)=folOf ts o e:=by
 obtain⟨g1,g2,g3⟩:=Zd4 hW hO he;exact g2.mem.mp (Zog g3)
section
variable {P:Program}{w:World}{K:W.Frag}{mg:Str->Option Value}{base:Heap}{f:Addr}{fd:FuncData}
def intD:D->Int
 |.int i=>i
 |_=>0
theorem Zfy (n:Int) (ts:List (Int × Int)):atI [D.int n,D.tup (ts.map encTie)] 1=some (.tup (ts.map encTie)):=rfl
end
def addN (l:List Int) (x:Int):List Int:=if x∈l then l else l++[x]
def numT (p q:Int->Int) (j:Nat) (l:List Int):List Int:=addN (addN l (p (l.getD j 0))) (q (l.getD j 0))
def numGo (p q:Int->Int) (e:Int):Nat->List Int
 |0=>[e]
 |j+1=>numT p q j (numGo p q e j)
theorem Zdy {l:List Int}{x y:Int}(h:y∈l):y∈addN l x:=by unfold addN;split;exact h;exact Wcm _ h
theorem Zlq (l:List Int) (x:Int):x∈addN l x:=by unfold addN;split;assumption;simp
theorem Zhc {l:List Int}{x y:Int}(h:y∈addN l x):y∈l\/y=x:=by
 unfold addN at h;split at h
 ·exact .inl h
 ·simpa using h
theorem Zlh {l:List Int}{x:Int}(h:l.Nodup):(addN l x).Nodup:=by
 unfold addN;split
 ·exact h
 ·rename_i z
  rw[Wda];exact⟨h,by simp,λa ha b hb e=>by rw[Wa3]at hb;subst hb;subst e;exact z ha⟩
theorem Zjo {l:List Int}{x:Int}{i:Nat}(h:i<l.length):(addN l x).getD i 0=l.getD i 0/\i<(addN l x).length:=by
 unfold addN;split
 ·exact⟨rfl,h⟩
 ·rw[Wac,Wa8 h,<- Wac,Waw]
  exact⟨rfl,by omega⟩
theorem Znj (l:List Int) (x:Int):(addN l x).length<=l.length+1:=by
 unfold addN;split
 ·omega
 ·rw[Waw,Wby];exact Wak _
def stg (L:List Int) (a b:Int):Nat->List Int
 |0=>L
 |1=>addN L a
 |_=>addN (addN L a) b
structure NumI (p q:Int->Int) (m:Nat) (e:Int) (j:Nat) (l:List Int):Prop where
 nd:l.Nodup
 rg:∀x∈l,0<=x/\x<(m:Int)
 le:j<=l.length
 he:l.getD 0 0=e/\0<l.length
 cl:∀i,i<j->p (l.getD i 0)∈l/\q (l.getD i 0)∈l
section
variable {p q:Int->Int}{m:Nat}{e:Int}
theorem Zge {l:List Int}{i:Nat}(h:i<l.length):l.getD i 0∈l:=by
 rw[Wac,Waa h];exact Wa6 h
theorem Zhg {j:Nat}{l:List Int}(h:NumI p q m e j l):l.length<=m:=by
 have:=Zde (l:=l) (m:=(Wau m).map λi:Nat=>(i:Int)) h.nd λx hx=>by
  have:=h.rg x hx;exact Wa9.mpr ⟨x.toNat,Wa5.mpr (by omega),by omega⟩
 rwa [Wab,Wbh]at this
theorem Zod (h0:0<=e) (h1:e<(m:Int)):NumI p q m e 0 [e]:=⟨by simp,λx hx=>by rw[Wa3]at hx;subst hx;exact⟨h0,h1⟩,by simp,⟨rfl,by simp⟩,λi hi=>by omega⟩
theorem Znq (hp:∀x,0<=x->x<(m:Int)->0<=p x/\p x<(m:Int)) (hq:∀x,0<=x->x<(m:Int)->0<=q x/\q x<(m:Int)) {j:Nat}{l:List Int}(h:NumI p q m e j l) (hj:j<l.length):NumI p q m e (j+1) (numT p q j l):=by
 have hx:=h.rg _ (Zge hj);have keep:∀{i:Nat},i<l.length->(numT p q j l).getD i 0=l.getD i 0/\i<(numT p q j l).length:=λ{i} hi=>by
  have a1:=Zjo (x:=p (l.getD j 0)) hi;have a2:=Zjo (x:=q (l.getD j 0)) a1.2;exact⟨a2.1.trans a1.1,a2.2⟩
 refine⟨Zlh (Zlh h.nd),λx hx'=>?_,?_,?_,λi hi=>?_⟩
 ·rcases Zhc hx' with z|z
  ·rcases Zhc z with z|z
   ·exact h.rg x z
   ·rw[z];exact hp _ hx.1 hx.2
  ·rw[z];exact hq _ hx.1 hx.2
 ·have:=(keep hj).2;omega
 ·have:=keep h.he.2;exact⟨this.1.trans h.he.1,this.2⟩
 ·have:=keep (i:=i) (by omega)
  rw[this.1];by_cases c:i=j
  ·subst c;exact⟨Zdy (Zlq _ _),Zlq _ _⟩
  ·have:=h.cl i (by omega);exact⟨Zdy (Zdy this.1),Zdy (Zdy this.2)⟩
end
def NumAt (p q:Int->Int) (e:Int) (J:Nat):Prop:=(numGo p q e J).length=J/\∀i,i<J->i<(numGo p q e i).length
theorem Zn0 {p q:Int->Int}{e:Int}{J J':Nat}(h:NumAt p q e J) (h':NumAt p q e J'):J=J':=by
 rcases Nat.lt_trichotomy J J' with z|z|z
 ·have:=h'.2 J z;have:=h.1;omega
 ·exact z
 ·have:=h.2 J' z;have:=h'.1;omega
theorem Zdt {p q:Int->Int}{m:Nat}{e:Int}(hp:∀x,0<=x->x<(m:Int)->0<=p x/\p x<(m:Int)) (hq:∀x,0<=x->x<(m:Int)->0<=q x/\q x<(m:Int)) (h0:0<=e) (h1:e<(m:Int)) {J:Nat}(h:∀i,i<J->i<(numGo p q e i).length):NumI p q m e J (numGo p q e J):=by
 induction J with
 |zero=>exact Zod h0 h1
 |succ J ih=>exact Znq hp hq (ih λi hi=>h i (by omega)) (h J (by omega))
def pI (x:Int):Int:=(partner x.toNat:Int)
noncomputable def fI (ts:List (Int × Int)) (o:List (List Int)) (x:Int):Int:=folOf ts o x.toNat
theorem Zi2 {m:Nat}(x:Int) (h0:0<=x) (h1:x<((2*m:Nat):Int)):0<=pI x/\pI x<((2*m:Nat):Int):=by
 have:=Zj4 (show x.toNat<2*m by omega);unfold pI;omega
theorem Zir {n:Int}{ts:List (Int × Int)}{o:List (List Int)}(hW:WebOk n ts) (hO:OrdOk n ts o) (x:Int) (h0:0<=x) (h1:x<((2*ts.length:Nat):Int)):0<=fI ts o x/\fI ts o x<((2*ts.length:Nat):Int):=by
 obtain⟨g,hg,_,eg⟩:=Zp7 hW hO (show x.toNat<2*ts.length by omega);unfold fI;omega
noncomputable def numF (ts:List (Int × Int)) (o:List (List Int)) (e:Nat) (J:Nat):List Int:=numGo pI (fI ts o) (e:Int) J
def fNum:NSp:=λds Post=>∃n ts o,∃e:Nat,ds=[encWeb n ts,encOrd o,.int e]/\WebOk n ts/\OrdOk n ts o/\e<2*ts.length/\∀J,NumAt pI (fI ts o) (e:Int) J->Post ((numF ts o e J).map .int)
def cdP (ts:List (Int × Int)) (o:List (List Int)) (l:List Int) (x:Int):D:=.tup [.int (l.idxOf (pI x):Nat),.int (l.idxOf (folOf ts o x.toNat):Nat)]
def fCodeBy:DSp:=λds Post=>∃n ts o,∃l:List Int,ds=[encWeb n ts,encOrd o,.lst (l.map .int)]/\WebOk n ts/\OrdOk n ts o/\l.length<=48/\(∀x∈l,0<=x/\x<((2*ts.length:Nat):Int)/\pI x∈l/\fI ts o x∈l)/\Post (.tup (l.map (cdP ts o l)))
section
variable {P:Program}{w:World}{K:W.Frag}{mg:Str->Option Value}{base:Heap}{f:Addr}{fd:FuncData}
theorem Zsu (l:List Int) (x:Int):(if (!decide (x∈l))=true then l.map D.int++[.int x] else l.map D.int)=(addN l x).map D.int:=by
 unfold addN;by_cases h:x∈l
 ·rw[decide_eq_true h,if_pos h];rfl
 ·rw[decide_eq_false h,if_neg h,Wa4];rfl
theorem Zqt (mb:Mb mg) (C33:Callee P w K mg base 2 "follower" ["web","order","end"] (spD K fFol)) (F:Fun K "numbered_from" "numbered_from" s_numbered_from f fd):FnOk P w K mg base CX0 3 f fd ["web","order","end"] (spN K fNum):=by
 refine F.ok sc_numbered_from (Zhb λds Post h=>by obtain⟨_,_,_,_,rfl,_⟩:=h;rfl) (λcdv A outer s H vs Q E hr h=>?_);have hu:=Zch hr;refine⟨_,(Zad (Zap (i:=3) sc_numbered_from.nd rfl (Or.inl rfl) (Zcc (Zaa (pv 2) Zac))) (Zad (Zap (i:=4) sc_numbered_from.nd rfl (Or.inl rfl) Zaf) (Zad (Zot PassesOwn.never (Zax Zrc (pv 4) (Zaj (lenK K) rfl (mb "len" (by decide)) Zbm (Zaa (pv 3) Zac)) (nomark _)) (Zad (Zcx PassesOwn.never rfl (seqK K (Zby (Zaa (Zar Zo8 (Zan (ixK K hu) (pv 3) (pv 4) (λ_ _=>rfl)) Zaf) (Zaa (Za3 C33 (hr.mono (by decide)) (Zaa (pv 0) (Zaa (pv 1) (Zaa (Zan (ixK K hu) (pv 3) (pv 4) (λ_ _=>rfl)) Zac)))) Zac)))) (Zak (i:=5) sc_numbered_from.nd rfl (Or.inl rfl)) (Zai (Zcj (Zax (notinK K hu) (pv 5) (pv 3) rfl) (Zai (Zb4 (bmK K PySem.F.plainAttrs_list PySem.F.slot_list_append PySem.F.type_list_append Zc4 (pv 3) (Zaa (pv 5) Zac)))) Zbd))) (Zai (Zta (i:=4) sc_numbered_from.nd rfl (Or.inl rfl) Zaf Zs5)))) (Zai (Zba (pv 3)))))),Zna (λds Post hf=>?_) h⟩;obtain⟨n,ts,o,e,rfl,hW,hO,he,q⟩:=hf;refine⟨by simp,?_⟩;dsimp only[startD,Wbw,Wbq,Wbd,Waj];have hw:=hW.len;have hp:=λx=>Zi2 (m:=ts.length) x;have hq:=Zir hW hO;refine Zam (Zdu (Zdi (Zab (Zae rfl (Zag ⟨by show 1<=sizeLine;decide,?_⟩)))));refine Zam (Zav (Zaw ?_));refine Zbb (λΔ=>∃(J:Nat) (x5:L2.Slot),NumAt pI (fI ts o) (e:Int) J /\ Δ = [.val (encWeb n ts),.val (encOrd o),.val (.int e),.own (.lst ((numF ts o e J).map .int)),.val (.int (J:Int)),x5]) ?_ ?_
 ·refine Znd (fun μ Δ=>∃(j:Nat) (x5:L2.Slot),(∀i,i<j->i<(numF ts o e i).length) /\ μ = 2*ts.length-j /\ Δ = [.val (encWeb n ts),.val (encOrd o),.val (.int e),.own (.lst ((numF ts o e j).map .int)),.val (.int (j:Int)),x5]) ⟨_,0,_,λi hi=>by omega,rfl,rfl⟩ ?_
  rintro μ Δ1 ⟨j,x5,hj,rfl,rfl⟩;have I:NumI pI (fI ts o) (2*ts.length) (e:Int) j (numF ts o e j):=Zdt hp hq (show (0:Int)<=(e:Int) by omega) (show (e:Int)<((2*ts.length:Nat):Int) by omega) hj;have Il:=Zhg I;refine Zbh (Zaz (Zae rfl (Zem rfl rfl (Zk7 ⟨_,rfl,?_⟩))));rw[Wab];by_cases c:j<(numF ts o e j).length
  ·rw[decide_eq_true (show (j:Int)<((numF ts o e j).length:Int) by omega)]
   have hx:=I.rg _ (Zge c);generalize hL:numF ts o e j=L at *;have at1:atI (L.map D.int) (j:Int)=some (.int (L.getD j 0)):=Zbi (by rw[Wad,Wac,Waa c];rfl);obtain⟨x,ex⟩:∃x:Nat,L.getD j 0=(x:Int):=⟨(L.getD j 0).toNat,(Wca hx.1).symm⟩;rw[ex]at at1;have hxl:x<2*ts.length:=by omega
   refine iteT (Zbb (λΔ=>∃x5:L2.Slot,Δ = [.val (encWeb n ts),.val (encOrd o),.val (.int e),.own (.lst ((numF ts o e (j+1)).map .int)),.val (.int (j:Int)),x5]) ?_ ?_)
   ·refine Zc0 (Zc7 (Zbt (Zab (Zaz (Zgb rfl rfl (Zae rfl ⟨_,_,_,_,rfl,rfl,rfl,at1,Zaw (Zoh ?_)⟩))))))
    rw[Zms];refine Zab (Zbl (Zab (Zae rfl (Zab (Zae rfl (Zab (Zgb rfl rfl (Zae rfl ⟨_,_,_,_,rfl,rfl,rfl,at1,Zag ⟨n,ts,o,x,rfl,hW,hO,hxl,Zag ⟨Zcb,?_⟩⟩⟩))))))));have e1:pI (L.getD j 0)=(partner x:Int):=by rw[ex];rfl
    have e2:fI ts o (L.getD j 0)=folOf ts o x:=by rw[ex];rfl
    refine⟨_,rfl,λk Δ=>∃x5:L2.Slot,Δ = [.val (encWeb n ts),.val (encOrd o),.val (.int e),.own (.lst ((stg L (partner x:Int) (folOf ts o x) k).map .int)),.val (.int (j:Int)),x5],⟨_,rfl⟩,?_,?_⟩
    ·rintro k d Δ2 hd ⟨x5,rfl⟩
     obtain⟨M,y,eM,rfl,eN,hM⟩:∃(M:List Int) (y:Int),stg L (partner x:Int) (folOf ts o x) k=M/\d=.int y/\stg L (partner x:Int) (folOf ts o x) (k+1)=addN M y/\M.length<=L.length+1:=by
      rcases k with _|_|k
      ·cases hd;exact⟨L,_,rfl,rfl,rfl,by omega⟩
      ·cases hd;exact⟨_,_,rfl,rfl,rfl,Znj _ _⟩
      ·cases hd
     rw[eM];refine Zb0 (Zcv (Zbh (Zps (Zae rfl ⟨_,M,y,rfl,rfl,rfl,_,rfl,?_⟩))));show if (!decide (y∈M))=true then _ else _
     have ed:=Zsu M y;by_cases c2:y∈M
     ·rw[decide_eq_true c2]at ed ⊢
      refine iteF (Zbc ⟨.val (.int y),?_⟩);show _=[_,_,_,L2.Slot.own (.lst ((stg L (partner x:Int) (folOf ts o x) (k+1)).map D.int)),_,_];rw[eN,<- ed];rfl
     ·rw[decide_eq_false c2]at ed ⊢
      refine iteT (Zlg rfl rfl (Zae rfl ⟨_,_,rfl,rfl,?_,.val (.int y),?_⟩))
      ·rw[Wab];exact small1000 (by omega)
      ·show _=[_,_,_,L2.Slot.own (.lst ((stg L (partner x:Int) (folOf ts o x) (k+1)).map D.int)),_,_]
       rw[eN,<- ed];rfl
    ·rintro Δ2 ⟨x5,rfl⟩
     refine⟨x5,?_⟩;have:numF ts o e (j+1)=addN (addN L (partner x:Int)) (folOf ts o x):=by
      show numT pI (fI ts o) j (numF ts o e j)=_;rw[hL];unfold numT;rw[e1,e2]
     rw[this];rfl
   rintro Δ2 ⟨x5,rfl⟩;refine Zth rfl (Zaw ⟨rfl,Zrt ⟨2*ts.length-(j+1),by omega,j+1,x5,λi hi=>?_,rfl,rfl⟩⟩);by_cases z:i=j
   ·subst z;rw[hL];exact c
   ·exact hj i (by omega)
  ·rw[decide_eq_false (show ¬ (j:Int)<((numF ts o e j).length:Int) by omega)]
   refine iteF ⟨j,x5,⟨?_,hj⟩,rfl⟩;have:=I.le;show (numF ts o e j).length=j;have:j<=(numF ts o e j).length:=this;omega
 rintro Δ1 ⟨J,x5,hJ,rfl⟩;exact Zez (Zph rfl ⟨_,rfl,q J hJ⟩)
theorem Zk0 (mb:Mb mg) (C33:Callee P w K mg base 2 "follower" ["web","order","end"] (spD K fFol)) (F:Fun K "code_by" "code_by" s_code_by f fd):FnOk P w K mg base CX0 3 f fd ["web","order","ends"] (spD K fCodeBy):=by
 refine F.ok sc_code_by (Zcu λds Post h=>by obtain⟨_,_,_,_,rfl,_⟩:=h;rfl) (λcdv A outer s H vs Q E hr h=>?_);have hu:=Zch hr;refine⟨_,(Zai (Zba (Za0 (tupK K) rfl (mb "tuple" (by decide)) Zbk (Zaa (Za8 ["end"] (show CompSc (defScope s_code_by) ["web","order","ends"] _ ["web","order","ends"] [0,1,2] from ⟨rfl,by decide +kernel,by decide +kernel,by decide +kernel,rfl,by decide +kernel⟩) rfl (seqK K (pv 2)) (λ_ _ _ _ _=>(Zak (i:=0) (show List.Nodup (["end","web","order","ends"]:List Str) from by decide) rfl (Or.inl rfl))) (λ_ _ _ _ _=>Za4) (λ_ _ _ _ _=>(Zby (Zaa (bmK K PySem.F.plainAttrs_list PySem.F.slot_list_index PySem.F.type_list_index (idxLK K) (pv 3) (Zaa (Zar Zo8 (pv 0) Zaf) Zac)) (Zaa (bmK K PySem.F.plainAttrs_list PySem.F.slot_list_index PySem.F.type_list_index (idxLK K) (pv 3) (Zaa (Za3 C33 (hr.mono (by decide)) (Zaa (pv 1) (Zaa (pv 2) (Zaa (pv 0) Zac)))) Zac)) Zac))))) Zac)))),Zgj (λds Post hf=>?_) h⟩;obtain⟨n,ts,o,l,rfl,hW,hO,hl,hin,q⟩:=hf;refine⟨by simp,?_⟩;dsimp only[startD,Wbw,Wbq,Wbd,Waj];refine Zbo (Zbr (Zab (Za7 (by decide) (Zcy (Zae rfl ⟨_,Or.inl rfl,by rw[Wab];exact small1000 (by omega),λ_=>true,λd=>cdP ts o l (intD d),λi d hd=>?_,?_⟩)))))
 ·rw[Wad]at hd
  cases z:l[i]? with
  |none=>rw[z]at hd;cases hd
  |some y=>
   rw[z]at hd;have hd:D.int y=d:=by simpa using hd
   subst hd;obtain⟨y0,y1,y2,y3⟩:=hin y (Wan z);obtain⟨x,rfl⟩:∃x:Nat,y=(x:Int):=⟨y.toNat,(Wca y0).symm⟩;refine Za6 ⟨rfl,Zbt (Zab (Zd1 (Zae rfl ⟨l,rfl,by omega,Zaz (Zae rfl (Zaw (Zoh ?_)))⟩)))⟩;rw[Zms];refine⟨_,rfl,y2,?_⟩;refine Zab (Zd1 (Zae rfl ⟨l,rfl,by omega,Zbl (Zab (Zae rfl (Zab (Zae rfl (Zab (Zae rfl (Zag ⟨n,ts,o,x,rfl,hW,hO,by omega,_,rfl,y3,Zag ⟨Zcb,rfl,_,rfl⟩⟩)))))))⟩))
 have e1:((l.map D.int).filter λ_=>true).map (λd=>cdP ts o l (intD d))=l.map (cdP ts o l):=by
  rw[Wa2.mpr (by simp),Wal];rfl
 rw[e1];exact Zag (Zb2 (Or.inl rfl) q)
end
def loI (a b:Int):Int:=if b<a then b else a
def hiI (a b:Int):Int:=if b > a then b else a
def mergeL (l:List Int) (a b:Int):List Int:=l.map λf=>if f=hiI (l.getD a.toNat 0) (l.getD b.toNat 0) then loI (l.getD a.toNat 0) (l.getD b.toNat 0) else f
def marksL (n:Nat) (ts:List (Int × Int)):List Int:=ts.foldl (λl t=>mergeL l t.1 t.2) ((Wau n).map λi:Nat=>(i:Int))
theorem Zf0 (l:List Int) (a b:Int):(mergeL l a b).length=l.length:=by unfold mergeL;rw[Wab]
theorem Zbv (n:Nat) (ts:List (Int × Int)):(marksL n ts).length=n:=by
 unfold marksL;have:∀(ts:List (Int × Int)) (l:List Int),(ts.foldl (λl t=>mergeL l t.1 t.2) l).length=l.length:=by
  intro ts
  induction ts with
  |nil=>intro l;rfl
  |cons t ts ih=>intro l;rw[List.foldl_cons,ih,Zf0]
 rw[this,Wab,Wbh]
theorem Zcp {n:Nat}{ts:List (Int × Int)}{i:Nat}{t:Int × Int}(h:ts[i]?=some t):marksL n (ts.take (i+1))=mergeL (marksL n (ts.take i)) t.1 t.2:=by
 unfold marksL;rw[Wcw,h,List.foldl_append];rfl
def Firsts (ms l:List Int):Prop:=ms.Pairwise (· < ·)/\∀x,x∈ms↔x∈l
theorem Zea:∀{ms l:List Int},ms.Nodup->(∀x∈ms,x∈l)->ms.length<=l.length
 |[],_,_,_=>by simp
 |x::ms,l,h1,h2=>by
  rw[Wb8]at h1;have hx:=h2 x (by simp);have:=Zea (ms:=ms) (l:=l.erase x) h1.2 λy hy=>(List.mem_erase_of_ne (λz:y=x=>h1.1 (z ▸ hy))).mpr (h2 y (by simp[hy]));rw[List.length_erase_of_mem hx]at this;have:=Wcv hx;rw[Wao];omega
theorem Firsts.len {ms l:List Int}(h:Firsts ms l):ms.length<=l.length:=Zea (h.1.imp λz=>Int.ne_of_lt z) λx hx=>(h.2 x).mp hx
def partI (l:List Int) (n:Nat) (f:Int):List Int:=((Wau n).map λi:Nat=>(i:Int)).filter λp=>decide (l.getD p.toNat 0=f)
def lstI (r:List Int):D:=.lst (r.map .int)
def partsL (n:Nat) (ts:List (Int × Int)) (ms:List Int):List (List Int):=ms.map (partI (marksL n ts) n)
def fParts:NSp:=λds Post=>∃n ts,ds=[encWeb n ts]/\WebOk n ts/\∀ms,Firsts ms (marksL n.toNat ts)->Post ((partsL n.toNat ts ms).map lstI)
theorem Zsj (l:List Int) (n:Nat) (f:Int) (p:D->Bool) (hp:∀i:Int,p (.int i)=decide (l.getD i.toNat 0=f)) (g:D->D) (hg:∀d,g d=d):D.lst (((rngD 0 n).filter p).map g)=lstI (partI l n f):=by
 have e1:rngD 0 n=((Wau n).map λi:Nat=>(i:Int)).map D.int:=by
  unfold rngD;rw[Wal];apply Wa0;intro i _;show D.int (0+(i:Int))=D.int (i:Int);rw[Wbj]
 unfold lstI partI;rw[e1,List.filter_map,show g=id from funext hg,Wdo];have e2:(p∘D.int)=λq:Int=>decide (l.getD q.toNat 0=f):=funext hp;rw[e2]
theorem Zqa {n:Nat}{l ms:List Int}(q:D->Bool) (hq:∀d,q d=true) (g:D->D) (hg:∀f:Int,g (.int f)=lstI (partI l n f)):((ms.map D.int).filter q).map g=(ms.map (partI l n)).map lstI:=by
 rw[Wa2.mpr (λd _=>hq d),Wal,Wal];apply Wa0;intro f _;exact hg f
section
variable {P:Program}{w:World}{K:W.Frag}{mg:Str->Option Value}{base:Heap}{f:Addr}{fd:FuncData}
theorem Zgt {l:List Int}{x:Int}{n:Nat}(hl:l.length=n) (h0:0<=x) (h1:x<(n:Int)):atI (l.map D.int) x=some (.int (l.getD x.toNat 0)):=by
 rw[show x=((x.toNat:Nat):Int) by omega];refine Zbi ?_;rw[Wad,Wac,Wah,Waa (by omega:x.toNat<l.length)];rfl
theorem Zii (mb:Mb mg) (F:Fun K "parts_of" "parts_of" s_parts_of f fd):FnOk P w K mg base CX0 1 f fd ["web"] (spN K fParts):=by
 refine F.ok sc_parts_of (Zhb λds Post h=>by obtain⟨_,_,rfl,_⟩:=h;rfl) (λcdv A outer s H vs Q E hr h=>?_);have hu:=Zch hr;have hv:=Zm1 hr;refine⟨_,(Zad (Zf5 (pv 0) (gtupK (n:=2) K rfl (Zda (Zak (i:=1) sc_parts_of.nd rfl (Or.inr rfl)) (Zda (Zak (i:=2) sc_parts_of.nd rfl (Or.inl rfl)) Ziq)))) (Zad (Zap (i:=3) sc_parts_of.nd rfl (Or.inr rfl) (Zh1 rfl rfl (mb "list" (by decide)) rfl (mb "range" (by decide)) (Zaa (pv 1) Zac))) (Zad (Zcx PassesOwn.never rfl (seqK K (pv 2)) (gtupK (n:=2) K rfl (Zda (Zak (i:=4) sc_parts_of.nd rfl (Or.inl rfl)) (Zda (Zak (i:=5) sc_parts_of.nd rfl (Or.inl rfl)) Ziq))) (Zad (Zap (i:=6) sc_parts_of.nd rfl (Or.inr rfl) (Zaj (Zfa rfl) rfl (mb "min" (by decide)) Zhp (Zaa (Zan (ixK K hu) (pv 3) (pv 4) (λ_ _=>rfl)) (Zaa (Zan (ixK K hu) (pv 3) (pv 5) (λ_ _=>rfl)) Zac)))) (Zad (Zap (i:=7) sc_parts_of.nd rfl (Or.inr rfl) (Zaj (Ze2 rfl) rfl (mb "max" (by decide)) Zm2 (Zaa (Zan (ixK K hu) (pv 3) (pv 4) (λ_ _=>rfl)) (Zaa (Zan (ixK K hu) (pv 3) (pv 5) (λ_ _=>rfl)) Zac)))) (Zai (Zap (i:=3) sc_parts_of.nd rfl (Or.inr rfl) (Za8 ["first"] (show CompSc (defScope s_parts_of) ["web","many","ties","firsts","a","b","low","high"] _ ["low","high"] [6,7] from ⟨rfl,by decide +kernel,by decide +kernel,by decide +kernel,rfl,by decide +kernel⟩) rfl (seqK K (pv 3)) (λ_ _ _ _ _=>(Zak (i:=0) (show List.Nodup (["first","low","high"]:List Str) from by decide) rfl (Or.inl rfl))) (λ_ _ _ _ _=>Za4) (λ_ _ _ _ _=>(Zhe (Zax Zb1 (pv 0) (pv 2) (nomark _)) (pv 1) (pv 0))))))))) (Zai (Zba (Zlo ["first"] (show CompScK (defScope s_parts_of) ["web","many","ties","firsts","a","b","low","high"] "first" _ ["many","firsts"] [1,3] from ⟨rfl,by decide +kernel,by decide +kernel,by decide +kernel,by decide +kernel,rfl,by decide +kernel⟩) rfl (seqK K (Zka rfl rfl rfl (mb "sorted" (by decide)) rfl (mb "set" (by decide)) (Zaa (pv 3) Zac))) (λ_ _ _ _ _=>(Zak (i:=0) (show List.Nodup (["first","many","firsts"]:List Str) from by decide) rfl (Or.inr rfl))) (λ_ _ _ _ _=>Za4) (λ_ _ _ _ _=>(Za8 ["place"] (show CompSc (relab (defScope s_parts_of) _) ["first","many","firsts"] _ ["first","firsts"] [0,2] from ⟨rfl,by decide +kernel,by decide +kernel,by decide +kernel,rfl,by decide +kernel⟩) rfl (Za2 rfl (mb "range" (by decide)) (Zaa (pv 1) Zac)) (λ_ _ _ _ _=>(Zak (i:=0) (show List.Nodup (["place","first","firsts"]:List Str) from by decide) rfl (Or.inl rfl))) (λ_ _ _ _ _=>(Zp6 (Zax Zb1 (Zan (ixK K hu) (pv 2) (pv 0) (λ_ _=>rfl)) (pv 1) (nomark _)))) (λ_ _ _ _ _=>(pv 0)))))))))),Zna (λds Post hf=>?_) h⟩;obtain⟨n,ts,rfl,hW,q⟩:=hf;refine⟨by simp,?_⟩;dsimp only[startD,Wbw,Wbq,Wbd,Waj];have hn0:=hW.lo;have hn1:=hW.hi;have hts:=hW.len;obtain⟨N,rfl⟩:∃N:Nat,n=(N:Int):=⟨n.toNat,by omega⟩;rw[Wah]at q;refine Zam (Ztk (Zae rfl (Zpd rfl (Zeo (Zb0 (Zeo (Zb0 (Zlz ?_))))))));refine Zam (Zav (Zbx (Ztz (Zab (Zae rfl (Zag ⟨N,rfl,by omega,_,rfl,?_⟩))))));have e0:(Wau N).map (λi:Nat=>D.int (i:Int))=(marksL N (ts.take 0)).map D.int:=by
  show _=((Wau N).map λi:Nat=>(i:Int)).map D.int;rw[Wal];rfl
 rw[e0];refine Zbb (λΔ=>∃(x4 x5 x6 x7:L2.Slot),Δ = [.val (encWeb (N:Int) ts),.val (.int (N:Int)),.val (.tup (ts.map encTie)),.val (.lst ((marksL N ts).map D.int)),x4,x5,x6,x7]) ?_ ?_
 ·refine Zc0 (Zc7 (Zae rfl ⟨_,rfl,λi Δ=>∃(x4 x5 x6 x7:L2.Slot),Δ = [.val (encWeb (N:Int) ts),.val (.int (N:Int)),.val (.tup (ts.map encTie)),.val (.lst ((marksL N (ts.take i)).map D.int)),x4,x5,x6,x7],⟨_,_,_,_,rfl⟩,?_,?_⟩))
  ·rintro i d Δ2 hd ⟨x4,x5,x6,x7,rfl⟩
   rw[Wad]at hd;cases z:ts[i]? with
   |none=>rw[z]at hd;cases hd
   |some t=>
    rw[z]at hd;have hd:encTie t=d:=by simpa using hd
    subst hd;have ht:=hW.tie t (Wan z);have hl:=Zbv N (ts.take i);have hs:=Zcp (n:=N) z;obtain⟨l,el⟩:∃l,marksL N (ts.take i)=l:=⟨_,rfl⟩;rw[el]at hl hs ⊢;have a1:=Zgt hl ht.1 ht.2.1;have a2:=Zgt hl ht.2.2.1 ht.2.2.2;refine Zpd rfl (Zeo (Zb0 (Zeo (Zb0 (Zlz ?_)))));refine Zam (Zav (Zbr (Zab (Zaz (Zae rfl (Zae rfl (Zbu a1 (Zab (Zaz (Zae rfl (Zae rfl (Zbu a2 (Zag (Zer ?_))))))))))))));refine Zam (Zav (Zbr (Zab (Zaz (Zae rfl (Zae rfl (Zbu a1 (Zab (Zaz (Zae rfl (Zae rfl (Zbu a2 (Zag (Zer ?_))))))))))))));refine Zav (Za7 (by decide) (Zcy (Zae rfl ⟨_,Or.inl rfl,?_,λ_=>true,λd=>match d with|.int g=>.int (if g=hiI (l.getD t.1.toNat 0) (l.getD t.2.toNat 0) then loI (l.getD t.1.toNat 0) (l.getD t.2.toNat 0) else g)|d=>d,λj d hd=>?_,?_⟩)))
    ·rw[Wab];exact small1000 (by omega)
    ·rw[Wad]at hd
     cases zz:l[j]? with
     |none=>rw[zz]at hd;cases hd
     |some g=>
      rw[zz]at hd;have hd:D.int g=d:=by simpa using hd
      subst hd;refine Za6 ⟨rfl,Zf6 (Zbh (Zaz (Zae rfl (Zae rfl (Zfj ⟨_,rfl,?_⟩)))))⟩;show if decide (g=hiI (l.getD t.1.toNat 0) (l.getD t.2.toNat 0))=true then _ else _
      by_cases hg:g=hiI (l.getD t.1.toNat 0) (l.getD t.2.toNat 0)
      ·rw[decide_eq_true hg]
       refine iteT (Zae rfl ⟨?_,_,rfl⟩);dsimp only;rw[if_pos hg];rfl
      ·rw[decide_eq_false hg]
       refine iteF (Zae rfl ⟨?_,_,rfl⟩);dsimp only;rw[if_neg hg]
    ·have e1:((l.map D.int).filter λ_=>true).map (λd=>match d with|.int g=>D.int (if g=hiI (l.getD t.1.toNat 0) (l.getD t.2.toNat 0) then loI (l.getD t.1.toNat 0) (l.getD t.2.toNat 0) else g)|d=>d)=(marksL N (ts.take (i+1))).map D.int:=by
      rw[hs,Wa2.mpr (by simp),Wal];unfold mergeL;rw[Wal];rfl
     rw[e1];exact⟨_,_,_,_,rfl⟩
  ·rintro Δ2 ⟨x4,x5,x6,x7,rfl⟩
   rw[Wab,Wb3];exact⟨_,_,_,_,rfl⟩
 rintro Δ1 ⟨x4,x5,x6,x7,rfl⟩;have hl:=Zbv N ts;refine Zez (Zjn (by decide) (Zcy (Zbx (Ztu (Zab (Zae rfl (Zag ⟨_,rfl,by omega,λms m1 m2=>⟨_,rfl,_,Or.inl rfl,?_,λ_=>true,λd=>match d with|.int g=>lstI (partI (marksL N ts) N g)|d=>d,λi d hd=>?_,?_⟩⟩)))))))
 ·have:=Firsts.len ⟨m1,m2⟩
  rw[Wab];exact small1000 (by omega)
 ·rw[Wad]at hd
  cases zz:ms[i]? with
  |none=>rw[zz]at hd;cases hd
  |some g=>
   rw[zz]at hd;have hd:D.int g=d:=by simpa using hd
   subst hd;refine Za6 ⟨rfl,Za7 (by decide) (Za1 (Zab (Zae rfl (Zag ⟨_,rfl,by omega,by omega,?_,λd=>match d with|.int p=>decide ((marksL N ts).getD p.toNat 0=g)|_=>false,λd=>d,λj d hd=>?_,?_⟩))))⟩
   ·rw[Zau];exact small1000 (by omega)
   ·obtain⟨hj,rfl⟩:=Zbj hd
    refine Zbh (Zaz (Zaz (Zae rfl (Zae rfl (Zbu (Zgt hl (by omega) (by omega)) (Zae rfl (Zfj ⟨_,rfl,rfl,?_⟩)))))));split
    ·exact Zae rfl ⟨rfl,_,rfl⟩
    ·exact⟨_,rfl⟩
   ·refine⟨?_,_,rfl⟩
    rw[Wah];exact Zsj _ _ _ _ (λ_=>rfl) _ λ_=>rfl
 ·refine⟨_,rfl,?_⟩
  rw[Zqa (l:=marksL N ts) (n:=N) _ (λ_=>rfl) _ λ_=>rfl];exact q ms ⟨m1,m2⟩
end
section
variable {f:Int->Int}{m:Nat}(F:OneOne f m)
include F
end
theorem Zcn (l:List Int) (a b:Int) {p:Nat}(hp:p<l.length):(mergeL l a b).getD p 0=if l.getD p 0=hiI (l.getD a.toNat 0) (l.getD b.toNat 0) then loI (l.getD a.toNat 0) (l.getD b.toNat 0) else l.getD p 0:=by
 unfold mergeL;rw[Wac,Wad,Waa hp,Wac (l:=l) (i:=p),Waa hp];rfl
theorem lohi (a b:Int):(a=loI a b\/a=hiI a b)/\(b=loI a b\/b=hiI a b):=by
 unfold loI hiI;constructor
 ·by_cases h:b<a
  ·right;rw[if_neg (by omega)]
  ·left;rw[if_neg h]
 ·by_cases h:b<a
  ·left;rw[if_pos h]
  ·by_cases h2:b > a
   ·right;rw[if_pos h2]
   ·left;rw[if_neg h];omega
theorem Zkb (l:List Int) {t:Int × Int}(h1:t.1.toNat<l.length) (h2:t.2.toNat<l.length):(mergeL l t.1 t.2).getD t.1.toNat 0=loI (l.getD t.1.toNat 0) (l.getD t.2.toNat 0)/\(mergeL l t.1 t.2).getD t.2.toNat 0=loI (l.getD t.1.toNat 0) (l.getD t.2.toNat 0):=by
 obtain⟨a,b⟩:=lohi (l.getD t.1.toNat 0) (l.getD t.2.toNat 0);rw[Zcn _ _ _ h1,Zcn _ _ _ h2];constructor
 ·split
  ·rfl
  ·rename_i h;rcases a with a|a
   ·exact a
   ·exact absurd a h
 ·split
  ·rfl
  ·rename_i h;rcases b with b|b
   ·exact b
   ·exact absurd b h
section
variable {N:Nat}{ts:List (Int × Int)}(hW:WebOk (N:Int) ts)
include hW
theorem Zhv:∀i,i<=ts.length->∀t∈ts.take i,(marksL N (ts.take i)).getD t.1.toNat 0=(marksL N (ts.take i)).getD t.2.toNat 0
 |0,_,t,ht=>by simp at ht
 |i+1,hi,t,ht=>by
  have hlt:i<ts.length:=hi;have z:=Waa hlt;rw[Zcp z];have hl:=Zbv N (ts.take i);have hu:=hW.tie _ (Wa6 hlt);rw[Wcw,z]at ht;rcases Wbr.mp ht with h|h
  ·have ih:=Zhv i (by omega) t h
   have hr:=hW.tie t (List.mem_of_mem_take h);rw[Zcn _ _ _ (by omega),Zcn _ _ _ (by omega),ih]
  ·have e:t=ts[i]:=by simpa using h
   subst e;obtain⟨a,b⟩:=Zkb (marksL N (ts.take i)) (t:=ts[i]) (by omega) (by omega);rw[a,b]
theorem Zn9 {t:Int × Int}(ht:t∈ts):(marksL N ts).getD t.1.toNat 0=(marksL N ts).getD t.2.toNat 0:=by
 have:=Zhv hW ts.length (Wak _) t (by rw[Wb3];exact ht);rw[Wb3]at this;exact this
end
section
variable {N:Nat}{ts:List (Int × Int)}{o:List (List Int)}(hW:WebOk (N:Int) ts) (hO:OrdOk (N:Int) ts o)
include hW
include hO
end
theorem Znk {l:List Int}{a b:Int}(h:l.getD a.toNat 0=l.getD b.toNat 0):mergeL l a b=l:=by
 unfold mergeL
 conv=>rhs;rw[<- Wdo l]
 apply Wa0;intro f _;have e1:hiI (l.getD a.toNat 0) (l.getD b.toNat 0)=l.getD a.toNat 0:=by rw[<- h];unfold hiI;split <;> rfl
 have e2:loI (l.getD a.toNat 0) (l.getD b.toNat 0)=l.getD a.toNat 0:=by rw[<- h];unfold loI;split <;> rfl
 rw[e1,e2];split
 ·rename_i z;exact z.symm
 ·rfl
structure Goes (N:Nat) (l l':List Int) (lo hi:Int):Prop where
 len:l.length=N
 len':l'.length=N
 lt:lo<hi
 inL:lo∈l
 inH:hi∈l
 to:∀p:Nat,p<N->l'.getD p 0=if l.getD p 0=hi then lo else l.getD p 0
theorem Zj7 {N:Nat}{l:List Int}{t:Int × Int}(hl:l.length=N) (h1:t.1.toNat<N) (h2:t.2.toNat<N) (hne:l.getD t.1.toNat 0≠l.getD t.2.toNat 0) :
  Goes N l (mergeL l t.1 t.2) (loI (l.getD t.1.toNat 0) (l.getD t.2.toNat 0)) (hiI (l.getD t.1.toNat 0) (l.getD t.2.toNat 0)):=by
 have m1:l.getD t.1.toNat 0∈l:=by rw[Wac,Waa (by omega:t.1.toNat<l.length)];exact Wa6 _
 have m2:l.getD t.2.toNat 0∈l:=by rw[Wac,Waa (by omega:t.2.toNat<l.length)];exact Wa6 _
 refine⟨hl,by rw[Zf0,hl],?_,?_,?_,λp hp=>Zcn _ _ _ (by omega)⟩
 ·unfold loI hiI;split <;> split <;> omega
 ·unfold loI;split
  ·exact m2
  ·exact m1
 ·unfold hiI;split
  ·exact m2
  ·exact m1
section
variable {N:Nat}{l l' ms ms':List Int}{lo hi:Int}(G:Goes N l l' lo hi)
theorem Zpb {l:List Int}{x:Int}(h:x∈l):∃p:Nat,p<l.length/\l.getD p 0=x:=by
 obtain⟨p,hp,rfl⟩:=List.getElem_of_mem h;exact⟨p,hp,by rw[Wac,Waa hp];rfl⟩
theorem Zlx {l:List Int}{p:Nat}(h:p<l.length):l.getD p 0∈l:=by
 rw[Wac,Waa h];exact Wa6 h
include G
theorem Goes.mem {x:Int}:x∈l'↔x∈l/\x≠hi:=by
 have h1:=G.len;have h2:=G.len';have h3:=G.lt;constructor
 ·intro h
  obtain⟨p,hp,e⟩:=Zpb h;rw[G.to p (by omega)]at e;split at e
  ·rw[<- e];exact⟨G.inL,by omega⟩
  ·rename_i z
   rw[<- e];exact⟨Zlx (by omega),z⟩
 ·rintro⟨h,hne⟩
  obtain⟨p,hp,e⟩:=Zpb h;have:l'.getD p 0=x:=by rw[G.to p (by omega),e,if_neg hne]
  rw[<- this];exact Zlx (by omega)
end
section
variable {f:Int->Int}{m:Nat}(F:OneOne f m)
include F
end
section
variable {f:Int->Int}{m:Nat}(F:OneOne f m) {a b:Int}(a0:0<=a) (a1:a<(m:Int)) (b0:0<=b) (b1:b<(m:Int)) (hab:a≠b) (hin:b∈orb f a)
include F a0 a1 b0 b1 hab hin
end
section
variable {P:Program}{w:World}{K:W.Frag}{mg:Str->Option Value}{base:Heap}{f:Addr}{fd:FuncData}
theorem Zet:∀l:List Int,∃ms,Firsts ms l
 |[]=>⟨[],.nil,λx=>Iff.rfl⟩
 |x::l=>by
  obtain⟨ms,h1,h2⟩:=Zet l;by_cases c:x∈ms
  ·refine⟨ms,h1,λy=>?_⟩
   rw[Wat,h2];exact⟨.inr,λz=>z.elim (λq=>q ▸ (h2 x).mp c) id⟩
  ·refine⟨(ms.filter λy=>decide (y<x))++x::(ms.filter λy=>decide (x<y)),?_,λy=>?_⟩
   ·rw[List.pairwise_append,List.pairwise_cons]
    refine⟨List.Pairwise.filter _ h1,⟨λa ha=>?_,List.Pairwise.filter _ h1⟩,λa ha b hb=>?_⟩
    ·rw[Wbn,decide_eq_true_iff]at ha;exact ha.2
    ·rw[Wbn,decide_eq_true_iff]at ha
     rcases Wat.mp hb with z|z
     ·rw[z];exact ha.2
     ·rw[Wbn,decide_eq_true_iff]at z;omega
   ·rw[Wbr,Wat,Wat,Wbn,Wbn,decide_eq_true_iff,decide_eq_true_iff,h2]
    constructor
    ·rintro(z|z|z)
     ·exact .inr z.1
     ·exact .inl z
     ·exact .inr z.1
    ·rintro(z|z)
     ·exact .inr (.inl z)
     ·rcases Int.lt_trichotomy y x with q|q|q
      ·exact .inl ⟨z,q⟩
      ·exact .inr (.inl q)
      ·exact .inr (.inr ⟨z,q⟩)
theorem Zpq {N r:Nat}(hr:r<N):(marksL N []).getD r 0=(r:Int):=by
 show ((Wau N).map λi:Nat=>(i:Int)).getD r 0=_;rw[Wac,Wad,Wcq hr];rfl
end
section
variable {f:Int->Int}{m:Nat}(F:OneOne f m) {a b:Int}(a0:0<=a) (a1:a<(m:Int)) (b0:0<=b) (b1:b<(m:Int)) (hout:b ∉ orb f a)
include F a0 a1 b0 b1 hout
end
section
variable {N:Nat}{ts:List (Int × Int)}{o:List (List Int)}(hW:WebOk (N:Int) ts) (hO:OrdOk (N:Int) ts o)
include hW hO
end
structure Own (N:Nat) (ts:List (Int × Int)) (S:Int->Bool):Prop where
 tie:∀t∈ts,S t.1=S t.2
theorem Zjp {N:Nat}{ts:List (Int × Int)}{S:Int->Bool}(hW:WebOk (N:Int) ts) (hS:Own N ts S):∀k,k<=ts.length->∀p:Nat,p<N->S ((marksL N (ts.take k)).getD p 0)=S (p:Int)
 |0,_,p,hp=>by
  rw[List.take_zero];show S (((Wau N).map λi:Nat=>(i:Int)).getD p 0)=_;rw[Wac,Wad,Wcq hp];rfl
 |k+1,hk,p,hp=>by
  have hlt:k<ts.length:=hk;have hl:=Zbv N (ts.take k);have ht:=hW.tie _ (Wa6 hlt);have ih:=Zjp hW hS k (by omega);rw[Zcp (Waa hlt),Zcn _ _ _ (by omega)];have s1:=ih ts[k].1.toNat (by omega);have s2:=ih ts[k].2.toNat (by omega);have st:=hS.tie _ (Wa6 hlt);rw[show ((ts[k].1.toNat:Nat):Int)=ts[k].1 by omega]at s1;rw[show ((ts[k].2.toNat:Nat):Int)=ts[k].2 by omega]at s2;split
  ·rename_i c
   have sp:=ih p hp;rw[c]at sp;rw[<- sp];unfold loI hiI;split <;> split
   all_goals first|rfl|rw[s2,s1,st]|rw[s1,s2,st]
  ·exact ih p hp
section
variable {N:Nat}{ts:List (Int × Int)}{o:List (List Int)}{S:Int->Bool}(hW:WebOk (N:Int) ts) (hO:OrdOk (N:Int) ts o) (hS:Own N ts S)
include hW hO hS
end
def OneP (N:Nat) (ts:List (Int × Int)):Prop:=∀ms,Firsts ms (marksL N ts)->ms.length<=1
def fRef:DSp:=λds Post=>∃n ts,ds=[encWeb n ts]/\WebOk n ts/\OneP n.toNat ts/\Post .non
def fCodeF:DSp:=λds Post=>∃n ts o,∃e:Nat,ds=[encWeb n ts,encOrd o,.int e]/\WebOk n ts/\OrdOk n ts o/\OneP n.toNat ts/\e<2*ts.length/\∀J,NumAt pI (fI ts o) (e:Int) J->Post (.tup ((numF ts o e J).map (cdP ts o (numF ts o e J))))
section
variable {P:Program}{w:World}{K:W.Frag}{mg:Str->Option Value}{base:Heap}{f:Addr}{fd:FuncData}
theorem Zsb (mb:Mb mg) (C35:Callee P w K mg base 1 "parts_of" ["web"] (spN K fParts)) (F:Fun K "refuse_parts" "refuse_parts" s_refuse_parts f fd):FnOk P w K mg base CX0 2 f fd ["web"] (spD K fRef):=by
 refine F.ok sc_refuse_parts (Zcu λds Post h=>by obtain⟨_,_,rfl,_⟩:=h;rfl) (λcdv A outer s H vs Q E hr h=>?_);have hu:=Zch hr;refine⟨_,(Zai (Zcj (Zax Zng (Zaj (lenK K) rfl (mb "len" (by decide)) Zbm (Zaa (Za3 C35 (hr.mono (by decide)) (Zaa (pv 0) Zac)) Zac)) Zaf (nomark _)) Zm3 Zbd)),Zgj (λds Post hf=>?_) h⟩;obtain⟨n,ts,rfl,hW,h1,q⟩:=hf;refine⟨by simp,?_⟩;dsimp only[startD,Wbw,Wbq,Wbd,Waj];refine Zcv (Zbh (Zaz (Zbr (Zab (Zbx (Zeb (Zab (Zae rfl (Zag ⟨n,ts,rfl,hW,λms hm=>⟨_,rfl,?_⟩⟩)))))))));refine Zag (Zdn (Or.inl rfl) ?_);have:=h1 ms hm;rw[Wab,show (partsL n.toNat ts ms).length=ms.length from Wab _];refine Zaw (Zk7 ⟨_,rfl,?_⟩);rw[decide_eq_false (by omega)];exact iteF (Zbc q)
theorem Zn2 (mb:Mb mg) (C37:Callee P w K mg base 2 "refuse_parts" ["web"] (spD K fRef)) (C31:Callee P w K mg base 3 "code_by" ["web","order","ends"] (spD K fCodeBy)) (C34:Callee P w K mg base 3 "numbered_from" ["web","order","end"] (spN K fNum)) (F:Fun K "code_from" "code_from" s_code_from f fd):FnOk P w K mg base CX0 4 f fd ["web","order","end"] (spD K fCodeF):=by
 refine F.ok sc_code_from (Zcu λds Post h=>by obtain⟨_,_,_,_,rfl,_⟩:=h;rfl) (λcdv A outer s H vs Q E hr h=>?_);have hu:=Zch hr;refine⟨_,(Zad (Zb4 (Za3 C37 (hr.mono (by decide)) (Zaa (pv 0) Zac))) (Zai (Zba (Za3 C31 (hr.mono (by decide)) (Zaa (pv 0) (Zaa (pv 1) (Zaa (Za3 C34 (hr.mono (by decide)) (Zaa (pv 0) (Zaa (pv 1) (Zaa (pv 2) Zac)))) Zac))))))),Zgj (λds Post hf=>?_) h⟩;obtain⟨n,ts,o,e,rfl,hW,hO,h1,he,q⟩:=hf;refine⟨by simp,?_⟩;dsimp only[startD,Wbw,Wbq,Wbd,Waj];have hw:=hW.len;refine Zam (Zgq (Zbl (Zab (Zae rfl (Zag ⟨n,ts,rfl,hW,h1,?_⟩)))));refine Zbo (Zbl (Zab (Zae rfl (Zab (Zae rfl (Zab (Zbx (Zeb (Zab (Zae rfl (Zab (Zae rfl (Zab (Zae rfl (Zag ⟨n,ts,o,e,rfl,hW,hO,he,λJ hJ=>⟨_,rfl,?_⟩⟩)))))))))))))));have I:NumI pI (fI ts o) (2*ts.length) (e:Int) J (numF ts o e J):=Zdt (λx=>Zi2 (m:=ts.length) x) (Zir hW hO) (by omega) (by omega) hJ.2;have Il:=Zhg I;refine Zag ⟨n,ts,o,_,rfl,hW,hO,by omega,λx hx=>?_,q J hJ⟩;have hr:=I.rg x hx;obtain⟨i,hi⟩:=Wbi.mp hx;have hil:=(Waf.mp hi).1;have eJ:(numF ts o e J).length=J:=hJ.1;have c:=I.cl i (by omega);rw[Wac,hi]at c;exact⟨hr.1,hr.2,c.1,c.2⟩
def mk (N:Nat) (ts:List (Int × Int)) (p:Int):Int:=(marksL N ts).getD p.toNat 0
theorem Zkv {N:Nat}{ts:List (Int × Int)}(hW:WebOk (N:Int) ts) {g:Int->Int}(hg:∀t∈ts,g t.1=g t.2) {p:Int}(p0:0<=p) (p1:p<(N:Int)):g (mk N ts p)=g p:=by
 have:=Zjp (S:=λx=>decide (g x=g p)) hW ⟨λt ht=>by rw[hg t ht]⟩ ts.length (Wak _) p.toNat (by omega);rw[Wb3,show ((p.toNat:Nat):Int)=p by omega,decide_eq_true rfl]at this;exact of_decide_eq_true this
theorem Zly {N:Nat}{ts:List (Int × Int)}(hW:WebOk (N:Int) ts) {g:Int->Int}(hg:∀t∈ts,g t.1=g t.2) {p q:Int}(p0:0<=p) (p1:p<(N:Int)) (q0:0<=q) (q1:q<(N:Int)) (h:mk N ts p=mk N ts q):g p=g q:=by
 rw[<- Zkv hW hg p0 p1,<- Zkv hW hg q0 q1,h]
theorem Zo5 {N:Nat}{ts:List (Int × Int)}(hW:WebOk (N:Int) ts) {t:Int × Int}(ht:t∈ts):mk N ts t.1=mk N ts t.2:=Zn9 hW ht
theorem Zl5 {N:Nat}{ts:List (Int × Int)}{p:Int}(p0:0<=p) (p1:p<(N:Int)):mk N ts p∈marksL N ts:=Zlx (by rw[Zbv];omega)
theorem Zl6 {n:Int}{ts:List (Int × Int)}{o:List (List Int)}(hW:WebOk n ts) (hO:OrdOk n ts o) {p:Nat}{r:List Int}(hr:o[p]?=some r) {y:Int}(hy:y∈r):0<=y/\y<((2*ts.length:Nat):Int)/\rowAt ts o y.toNat=r/\folOf ts o y.toNat=nextIn r y:=by
 obtain⟨k,hk,hp,rfl⟩:=(hO.row p r hr).mem.mp hy;have er:rowAt ts o k=r:=by unfold rowAt;rw[hp,Wah,Wac,hr];rfl
 rw[Wah];refine⟨by omega,by omega,er,?_⟩;unfold folOf;rw[er]
end
theorem Zkn {r:List Int}{S:Int->Prop}(hS:∀x∈r,S x->S (nextIn r x)) (nd:r.Nodup) {x:Int}(hx:x∈r) (h:S x):∀y∈r,S y:=by
 have step:∀k:Nat,S (r.getD ((r.idxOf x+k) % r.length) 0):=by
  intro k;have hl:0<r.length:=Wcv hx
  induction k with
  |zero=>
   obtain⟨h1,h2,_⟩:=Zat hx;rw[Nat.add_zero,Nat.mod_eq_of_lt h1,Wac,h2];exact h
  |succ k ih=>
   have hm:(r.idxOf x+k) % r.length<r.length:=Wdw _ hl;have hin:r.getD ((r.idxOf x+k) % r.length) 0∈r:=by rw[Wac,Waa hm];exact Wa6 hm
   have e:=hS _ hin ih;have ei:r.idxOf (r.getD ((r.idxOf x+k) % r.length) 0)=(r.idxOf x+k) % r.length:=Zdk nd (by rw[Wac,Waa hm];rfl);unfold nextIn at e;rw[ei]at e;have e2:((r.idxOf x+k) % r.length+1) % r.length=(r.idxOf x+(k+1)) % r.length:=by rw[Nat.mod_add_mod,Nat.add_assoc]
   rw[e2]at e;exact e
 intro y hy;obtain⟨h1,h2,_⟩:=Zat hx;obtain⟨g1,g2,_⟩:=Zat hy;have:=step (r.idxOf y+r.length-r.idxOf x);rw[show r.idxOf x+(r.idxOf y+r.length-r.idxOf x)=r.idxOf y+r.length by omega,Nat.add_mod_right,Nat.mod_eq_of_lt g1,Wac,g2]at this;exact this
theorem Zp1 {N:Nat}{ts:List (Int × Int)}(h:OneP N ts) {p q:Int}(p0:0<=p) (p1:p<(N:Int)) (q0:0<=q) (q1:q<(N:Int)):mk N ts p=mk N ts q:=by
 obtain⟨ms,hm⟩:=Zet (marksL N ts);have hl:=h ms hm;have a:=(hm.2 _).mpr (Zl5 (ts:=ts) p0 p1);have b:=(hm.2 _).mpr (Zl5 (ts:=ts) q0 q1)
 match ms,hl,a,b with
 |[c],_,a,b=>rw[Wa3]at a b;rw[a,b]
 |[],_,a,_=>cases a
theorem Zh7 {N:Nat}{ts:List (Int × Int)}{o:List (List Int)}(hW:WebOk (N:Int) ts) (hO:OrdOk (N:Int) ts o) (h1:OneP N ts) {S:Int->Prop}(hp:∀x:Nat,x<2*ts.length->S (x:Int)->S (partner x:Int)) (hf:∀x:Nat,x<2*ts.length->S (x:Int)->S (folOf ts o x)) {e:Nat}(he:e<2*ts.length) (hS:S (e:Int)):∀x:Nat,x<2*ts.length->S (x:Int):=by
 have place:∀x y:Nat,x<2*ts.length->y<2*ts.length->placeAt ts x=placeAt ts y->S (x:Int)->S (y:Int):=by
  intro x y hx hy exy sx;obtain⟨g1,g2,g3⟩:=Zd4 hW hO hx;obtain⟨k1,k2,k3⟩:=Zd4 hW hO hy;have er:rowAt ts o y=rowAt ts o x:=by rw[exy]at g1;rw[g1]at k1;exact(Wa7.inj k1).symm
  rw[er]at k3;refine Zkn (S:=S) (λz hz sz=>?_) g2.nodup g3 sx _ k3;obtain⟨z0,z1,_,zf⟩:=Zl6 hW hO g1 hz;have:=hf z.toNat (by omega) (by rw[Wca z0];exact sz);rw[zf]at this;exact this
 classical
 have hg:∀t∈ts,(λp:Int=>if ∃y:Nat,y<2*ts.length/\S (y:Int)/\placeAt ts y=p then (1:Int) else 0) t.1=(λp:Int=>if ∃y:Nat,y<2*ts.length/\S (y:Int)/\placeAt ts y=p then (1:Int) else 0) t.2:=λt ht=>by
  obtain⟨i,hi⟩:=Wbi.mp ht;have hil:=(Waf.mp hi).1;have pa:placeAt ts (2*i)=t.1:=by unfold placeAt;rw[show 2*i / 2=i by omega,hi];simp
  have pb:placeAt ts (2*i+1)=t.2:=by unfold placeAt;rw[show (2*i+1) / 2=i by omega,hi];simp
  have q1:partner (2*i)=2*i+1:=by unfold partner;split <;> omega
  have q2:partner (2*i+1)=2*i:=by unfold partner;split <;> omega
  show (if _ then (1:Int) else 0)=if _ then 1 else 0
  have:(∃y:Nat,y<2*ts.length/\S (y:Int)/\placeAt ts y=t.1) ↔ ∃y:Nat,y<2*ts.length/\S (y:Int)/\placeAt ts y=t.2:=by
   constructor
   ·rintro⟨y,h1,h2,h3⟩
    have:=hp (2*i) (by omega) (place y (2*i) h1 (by omega) (h3.trans pa.symm) h2);rw[q1]at this;exact⟨2*i+1,by omega,this,pb⟩
   ·rintro⟨y,h1,h2,h3⟩
    have:=hp (2*i+1) (by omega) (place y (2*i+1) h1 (by omega) (h3.trans pb.symm) h2);rw[q2]at this;exact⟨2*i,by omega,this,pa⟩
  by_cases c:∃y:Nat,y<2*ts.length/\S (y:Int)/\placeAt ts y=t.1
  ·rw[if_pos c,if_pos (this.mp c)]
  ·rw[if_neg c,if_neg λz=>c (this.mpr z)]
 intro x hx;obtain⟨p0,p1⟩:=Zcd hW he;obtain⟨q0,q1⟩:=Zcd hW hx;have:=Zly (g:=(λp:Int=>if ∃y:Nat,y<2*ts.length/\S (y:Int)/\placeAt ts y=p then (1:Int) else 0)) hW hg p0 p1 q0 q1 (Zp1 h1 p0 p1 q0 q1);have this:(if ∃y:Nat,y<2*ts.length/\S (y:Int)/\placeAt ts y=placeAt ts e then (1:Int) else 0)=if ∃y:Nat,y<2*ts.length/\S (y:Int)/\placeAt ts y=placeAt ts x then 1 else 0:=this
 rw[if_pos ⟨e,he,hS,rfl⟩]at this;by_cases c:∃y:Nat,y<2*ts.length/\S (y:Int)/\placeAt ts y=placeAt ts x
 ·obtain⟨y,h1,h2,h3⟩:=c
  exact place y x h1 hx h3 h2
 ·rw[if_neg c]at this;omega
section
variable {P:Program}{w:World}{K:W.Frag}{mg:Str->Option Value}{base:Heap}{f:Addr}{fd:FuncData}
theorem eqL {α:Type}[DecidableEq α] (f:α -> D) (n:Nat) (h:∀x y,eqF n (f x) (f y)=decide (x=y)):∀a b:List α,((a.map f).length == (b.map f).length && ((a.map f).zip (b.map f)).all λp=>eqF n p.1 p.2)=decide (a=b)
 |[],[]=>rfl
 |[],y::b=>by rw[decide_eq_false (by simp)];rfl
 |x::a,[]=>by rw[decide_eq_false (by simp)];rfl
 |x::a,y::b=>by
  have ih:=eqL f n h a b;rw[Wbe,Wbe,Wao,Wao,Wb1,Wdd,h];have e:((a.map f).length+1 == (b.map f).length+1)=((a.map f).length == (b.map f).length):=by
   rw[Wcj,beq_iff_eq,beq_iff_eq];omega
  rw[e];by_cases c:x=y
  ·rw[decide_eq_true c,Wds,ih]
   by_cases c2:a=b
   ·rw[decide_eq_true c2,decide_eq_true (by rw[c,c2])]
   ·rw[decide_eq_false c2,decide_eq_false (λz=>c2 (List.cons.inj z).2)]
  ·rw[decide_eq_false c,Wdm,Bool.and_false,decide_eq_false (λz=>c (List.cons.inj z).1)]
end
noncomputable def numS (ts:List (Int × Int)) (o:List (List Int)) (e:Nat):List Int:=by
 classical exact if h:∃J,NumAt pI (fI ts o) (e:Int) J then numF ts o e (Classical.choose h) else []
theorem Zds {ts:List (Int × Int)}{o:List (List Int)}{e J:Nat}(h:NumAt pI (fI ts o) (e:Int) J):numF ts o e J=numS ts o e:=by
 have hx:∃J,NumAt pI (fI ts o) (e:Int) J:=⟨J,h⟩;unfold numS;rw[dif_pos hx,Zn0 h (Classical.choose_spec hx)]
structure NumOk (ts:List (Int × Int)) (o:List (List Int)) (e:Nat) (l:List Int):Prop where
 nd:l.Nodup
 len:l.length<=2*ts.length
 here:(e:Int)∈l
 cl:∀x∈l,0<=x/\x<((2*ts.length:Nat):Int)/\pI x∈l/\fI ts o x∈l
theorem Zfe {n:Int}{ts:List (Int × Int)}{o:List (List Int)}(hW:WebOk n ts) (hO:OrdOk n ts o) {e J:Nat}(he:e<2*ts.length) (hJ:NumAt pI (fI ts o) (e:Int) J):NumOk ts o e (numS ts o e):=by
 rw[<- Zds hJ];have I:NumI pI (fI ts o) (2*ts.length) (e:Int) J (numF ts o e J):=Zdt (λx=>Zi2 (m:=ts.length) x) (Zir hW hO) (by omega) (by omega) hJ.2;refine⟨I.nd,Zhg I,?_,λx hx=>?_⟩
 ·have:=Zge I.he.2;rw[I.he.1]at this;exact this
 have hr:=I.rg x hx;obtain⟨i,hi⟩:=Wbi.mp hx;have hil:=(Waf.mp hi).1;have eJ:(numF ts o e J).length=J:=hJ.1;have c:=I.cl i (by omega);rw[Wac,hi]at c;exact⟨hr.1,hr.2,c.1,c.2⟩
theorem Zct {N:Nat}{ts:List (Int × Int)}{o:List (List Int)}(hW:WebOk (N:Int) ts) (hO:OrdOk (N:Int) ts o) (h1:OneP N ts) {e:Nat}(he:e<2*ts.length) {l:List Int}(hl:NumOk ts o e l):(∀x:Nat,x<2*ts.length->(x:Int)∈l)/\l.length=2*ts.length:=by
 have all:=Zh7 hW hO h1 (S:=λx=>x∈l) (λx _ sx=>(hl.cl x sx).2.2.1) (λx _ sx=>(hl.cl x sx).2.2.2) he hl.here;refine⟨all,?_⟩;have:=Zde (l:=(Wau (2*ts.length)).map λi:Nat=>(i:Int)) (m:=l) (by
  rw[Wbc,Wb5];exact Wb9.imp λh=>by omega) λx hx=>by
   obtain⟨i,hi,rfl⟩:=Wa9.mp hx;exact all i (Wa5.mp hi)
 rw[Wab,Wbh]at this;have:=hl.len;omega
noncomputable def cdL (ts:List (Int × Int)) (o:List (List Int)) (l:List Int):List (Int × Int):=l.map λx=>(((l.idxOf (pI x):Nat):Int),((l.idxOf (folOf ts o x.toNat):Nat):Int))
theorem Zqd (ts:List (Int × Int)) (o:List (List Int)) (l:List Int):l.map (cdP ts o l)=(cdL ts o l).map encTie:=by unfold cdL;rw[Wal];rfl
theorem Zdr (ts:List (Int × Int)) (o:List (List Int)) (l:List Int):(cdL ts o l).length=l.length:=Wab _
theorem Zrf (x y:Int × Int):eqF 2 (encTie x) (encTie y)=decide (x=y):=by
 show (true && ((x.1 == y.1) && ((x.2 == y.2) && true)))=_;rw[Wcj];simp[Prod.ext_iff]
theorem Zha (A B:List (Int × Int)):eqF 3 (.tup (A.map encTie)) (.tup (B.map encTie))=decide (A=B):=eqL encTie 2 Zrf A B
theorem Zd7 (A:List (Int × Int)):Dp 3 (.tup (A.map encTie)):=λd hd=>by
 obtain⟨t,_,rfl⟩:=Wa9.mp hd;intro d hd;rcases Wat.mp hd with rfl|hd
 ·trivial
 ·rcases Wat.mp hd with rfl|hd
  ·trivial
  ·cases hd
noncomputable def namesR (ts:List (Int × Int)) (o:List (List Int)) (us:List (Int × Int)) (v:List (List Int)) (e:Nat):List Int:=(Wau (2*ts.length)).map λk:Nat=>(numS us v e).getD ((numS ts o 0).idxOf (k:Int)) 0
noncomputable def renL (ts:List (Int × Int)) (o:List (List Int)) (us:List (Int × Int)) (v:List (List Int)):List (List Int):=
 if ts.length=0 then (if us.length=0 then [[]] else []) else ((Wau (2*us.length)).filter λe=>decide (cdL us v (numS us v e)=cdL ts o (numS ts o 0))).map (namesR ts o us v)
def fRen:NSp:=λds Post=>∃(N:Nat) (ts:List (Int × Int)) (o:List (List Int)) (M:Nat) (us:List (Int × Int)) (v:List (List Int)),ds=[encWeb (N:Int) ts,encOrd o,encWeb (M:Int) us,encOrd v]/\WebOk (N:Int) ts/\OrdOk (N:Int) ts o/\OneP N ts/\WebOk (M:Int) us/\OrdOk (M:Int) us v/\Post ((renL ts o us v).map rowD)
section
variable {P:Program}{w:World}{K:W.Frag}{mg:Str->Option Value}{base:Heap}{f:Addr}{fd:FuncData}
theorem Zoj {Δ:Evt}{c:TT}{ta tb:TE}{Po:OD->Evt->Prop}(h:JT K c Δ λb Δ1=>if b=true then JO K ta Δ1 Po else JO K tb Δ1 Po):JO K (tIf c ta tb) Δ Po:=λg G H σ Q k q=>
 h g G H σ _ k λb G1 H1 Δ1 k1 s1 p1=>by
  cases b with
  |true=>exact(show JO K ta Δ1 Po from p1) g G1 H1 σ Q k1 λa od G2 H2 Δ2 k2 s2 pd p=>q a od G2 H2 Δ2 k2 (s1.trans s2) pd p
  |false=>exact(show JO K tb Δ1 Po from p1) g G1 H1 σ Q k1 λa od G2 H2 Δ2 k2 s2 pd p=>q a od G2 H2 Δ2 k2 (s1.trans s2) pd p
theorem Zl7 (ds:List (Int × Int)):truD (.tup (ds.map encTie))=some (!decide (ds.length=0)):=by
 cases ds <;> rfl
theorem Zse (mb:Mb mg) (C34:Callee P w K mg base 3 "numbered_from" ["web","order","end"] (spN K fNum)) (C31:Callee P w K mg base 3 "code_by" ["web","order","ends"] (spD K fCodeBy)) (F:Fun K "renamings" "renamings" s_renamings f fd):FnOk P w K mg base CX0 4 f fd ["one","order","other","its_order"] (spN K fRen):=by
 refine F.ok sc_renamings (Zhb λds Post h=>by obtain⟨_,_,_,_,_,_,rfl,_⟩:=h;rfl) (λcdv A outer s H vs Q E hr h=>?_);have hu:=Zch hr;have hv:=Zm1 hr;refine⟨_,(Zad (Zcj (Zsl (truK K (Zan (ixK K hu) (pv 0) Zaf (λ_ _=>rfl)) (λ_=>rfl))) (Zai (Zba (Zhe (truK K (Zan (ixK K hu) (pv 2) Zaf (λ_ _=>rfl)) (λ_=>rfl)) (Zcc Zac) (Zcc (Zaa (Zby Zac) Zac))))) Zbd) (Zad (Zap (i:=4) sc_renamings.nd rfl (Or.inr rfl) (Za3 C34 (hr.mono (by decide)) (Zaa (pv 0) (Zaa (pv 1) (Zaa Zaf Zac))))) (Zad (Zap (i:=5) sc_renamings.nd rfl (Or.inl rfl) (Za3 C31 (hr.mono (by decide)) (Zaa (pv 0) (Zaa (pv 1) (Zaa (pv 4) Zac))))) (Zad (Zap (i:=6) sc_renamings.nd rfl (Or.inl rfl) (Zcc Zac)) (Zad (Zcx PassesOwn.never rfl (Za2 rfl (mb "range" (by decide)) (Zaa (Zar Zc8 Zaf (Zaj (lenK K) rfl (mb "len" (by decide)) Zbm (Zaa (Zan (ixK K hu) (pv 2) Zaf (λ_ _=>rfl)) Zac))) Zac)) (Zak (i:=7) sc_renamings.nd rfl (Or.inl rfl)) (Zad (Zap (i:=8) sc_renamings.nd rfl (Or.inr rfl) (Za3 C34 (hr.mono (by decide)) (Zaa (pv 2) (Zaa (pv 3) (Zaa (pv 7) Zac))))) (Zai (Zcj (Zax (eqDK K hv) (Za3 C31 (hr.mono (by decide)) (Zaa (pv 2) (Zaa (pv 3) (Zaa (pv 8) Zac)))) (pv 5) (nomark _)) (Zai (Zb4 (bmK K PySem.F.plainAttrs_list PySem.F.slot_list_append PySem.F.type_list_append Zc4 (pv 6) (Zaa (Za0 (tupK K) rfl (mb "tuple" (by decide)) Zbk (Zaa (Za8 ["old"] (show CompSc (defScope s_renamings) ["one","order","other","its_order","ends","own","told","end","its_ends"] _ ["ends","its_ends"] [4,8] from ⟨rfl,by decide +kernel,by decide +kernel,by decide +kernel,rfl,by decide +kernel⟩) rfl (Za2 rfl (mb "range" (by decide)) (Zaa (Zaj (lenK K) rfl (mb "len" (by decide)) Zbm (Zaa (pv 4) Zac)) Zac)) (λ_ _ _ _ _=>(Zak (i:=0) (show List.Nodup (["old","ends","its_ends"]:List Str) from by decide) rfl (Or.inl rfl))) (λ_ _ _ _ _=>Za4) (λ_ _ _ _ _=>(Zan (ixK K hu) (pv 2) (bmK K PySem.F.plainAttrs_list PySem.F.slot_list_index PySem.F.type_list_index (idxLK K) (pv 1) (Zaa (pv 0) Zac)) (λ_ _=>rfl)))) Zac)) Zac)))) Zbd)))) (Zai (Zba (pv 6)))))))),Zna (λds Post hf=>?_) h⟩;obtain⟨N,ts,o,M,us,v,rfl,hW,hO,h1,hV,hU,q⟩:=hf;refine⟨by simp,?_⟩;dsimp only[startD,Wbw,Wbq,Wbd,Waj];have hw:=hW.len;have hw2:=hV.len;refine Zbb (λΔ=>ts.length≠0 /\ Δ = [.val (encWeb (N:Int) ts),.val (encOrd o),.val (encWeb (M:Int) us),.val (encOrd v),.any,.any,.any,.any,.any]) ?_ ?_
 ·refine Zcv (Zo4 (Zhy (Za9 (Zbs rfl (Zfy (N:Int) ts)) ⟨_,Zl7 ts,?_⟩)))
  by_cases z:ts.length=0
  ·rw[decide_eq_true z]
   have er:renL ts o us v=if us.length=0 then [[]] else []:=by unfold renL;rw[if_pos z]
   refine iteT (Zez (Zoj (Zhy (Za9 (Zbs rfl (Zfy (M:Int) us)) ⟨_,Zl7 us,?_⟩))));by_cases y:us.length=0
   ·rw[decide_eq_true y]
    rw[if_pos y]at er;rw[er]at q;exact iteF (Zdi (Zab (Zbt (Zag ⟨by decide,Zag ⟨by show 1<=sizeLine;decide,_,rfl,q⟩⟩))))
   ·rw[decide_eq_false y]
    rw[if_neg y]at er;rw[er]at q;exact iteT (Zdi (Zag ⟨by decide,_,rfl,q⟩))
  ·rw[decide_eq_false z]
   exact iteF (Zbc ⟨z,rfl⟩)
 rintro Δ1 ⟨hz,rfl⟩;have he0:0<2*ts.length:=by omega
 refine Zam (Zav (Zbx (Zeb (Zab (Zae rfl (Zab (Zae rfl (Zab (Zaw (Zag ⟨(N:Int),ts,o,0,rfl,hW,hO,he0,λJ hJ=>⟨_,rfl,?_⟩⟩))))))))));have A0:=Zfe hW hO he0 hJ;rw[Zds hJ];obtain⟨full,fl⟩:=Zct hW hO h1 he0 A0;refine Zam (Zav (Zbl (Zei (Zal (Zah rfl) (Zal (Zah rfl) (Zal (Zah rfl) Zcg))) ⟨(N:Int),ts,o,_,rfl,hW,hO,by have:=A0.len;omega,A0.cl,?_⟩)));rw[Zqd];refine Zam (Zdu (Zdi (Zag ⟨by decide,?_⟩)));refine Zbb (λΔ=>∃x7 x8:L2.Slot,Δ = [.val (encWeb (N:Int) ts),.val (encOrd o),.val (encWeb (M:Int) us),.val (encOrd v),.val (.lst ((numS ts o 0).map .int)),.val (.tup ((cdL ts o (numS ts o 0)).map encTie)),.own (.lst ((renL ts o us v).map rowD)),x7,x8]) ?_ ?_
 ·refine Zc0 (Za1 (Zab (Za9 (Zbw Zay (Zev (Zbs rfl (Zfy (M:Int) us))) (pr_I (Or.inl ⟨by decide,by decide⟩))) (Zag ⟨_,rfl,?_,?_,?_⟩))))
  ·rw[Wab];omega
  ·rw[Wab];omega
  rw[Wab,show (2*(us.length:Int)).toNat=2*us.length by omega];refine⟨λi Δ=>∃x7 x8:L2.Slot,Δ = [.val (encWeb (N:Int) ts),.val (encOrd o),.val (encWeb (M:Int) us),.val (encOrd v),.val (.lst ((numS ts o 0).map .int)),.val (.tup ((cdL ts o (numS ts o 0)).map encTie)),.own (.lst ((((Wau i).filter λe=>decide (cdL us v (numS us v e)=cdL ts o (numS ts o 0))).map (namesR ts o us v)).map rowD)),x7,x8],⟨_,_,rfl⟩,?_,?_⟩
  ·rintro i d Δ2 hd ⟨x7,x8,rfl⟩
   obtain⟨hi,rfl⟩:=Zbj hd;rw[Wbj];refine Zb0 (Zam (Zav (Zbx (Zeb (Zab (Zae rfl (Zab (Zae rfl (Zab (Zae rfl (Zag ⟨(M:Int),us,v,i,rfl,hV,hU,hi,λJ' hJ'=>⟨_,rfl,?_⟩⟩)))))))))));have A1:=Zfe hV hU hi hJ';rw[Zds hJ'];have rs:(Wau (i+1)).filter (λe=>decide (cdL us v (numS us v e)=cdL ts o (numS ts o 0)))=(Wau i).filter (λe=>decide (cdL us v (numS us v e)=cdL ts o (numS ts o 0)))++if cdL us v (numS us v i)=cdL ts o (numS ts o 0) then [i] else []:=by
    rw[List.range_succ,Wb2];congr 1;by_cases c:cdL us v (numS us v i)=cdL ts o (numS ts o 0)
    ·rw[if_pos c];simp[c]
    ·rw[if_neg c];simp[c]
   refine Zcv (Zbh (Zaz (Zbl (Zei (Zal (Zah rfl) (Zal (Zah rfl) (Zal (Zah rfl) Zcg))) ⟨(M:Int),us,v,_,rfl,hV,hU,by have:=A1.len;omega,A1.cl,?_⟩))));rw[Zqd];refine Zae rfl (Zsp (n:=3) (by omega) (Zd7 _) (Zd7 _) rfl rfl ⟨_,rfl,?_⟩);rw[Zha];by_cases c:cdL us v (numS us v i)=cdL ts o (numS ts o 0)
   ·rw[decide_eq_true c]
    have ll:(numS us v i).length=(numS ts o 0).length:=by have:=congrArg Wbd c;rw[Zdr,Zdr]at this;exact this
    refine iteT (Zlg rfl rfl (Zbr (Zab (Za7 (by decide) (Za1 (Zab (Za9 (Ziy (Zah rfl)) (Zag ⟨_,rfl,by omega,?_,?_⟩))))))))
    ·rw[Wab];omega
    rw[Wab,Wah];refine⟨by rw[Zau];exact small1000 (by omega),λ_=>true,λd=>.int ((numS us v i).getD ((numS ts o 0).idxOf (intD d)) 0),λk d hd=>?_,?_⟩
    ·obtain⟨hk,rfl⟩:=Zbj hd
     rw[Wbj];have mem:=full k (by omega);have ik:=(Zat mem).1;refine Za6 ⟨rfl,Zaz (Zae rfl (Zd1 (Zae rfl ⟨numS ts o 0,rfl,by omega,Zae rfl ⟨_,rfl,mem,Zbu (d:=.int ((numS us v i).getD ((numS ts o 0).idxOf (k:Int)) 0)) (Zbi ?_) ⟨rfl,_,rfl⟩⟩⟩)))⟩;rw[Wad,Wac,Waa (by omega)];rfl
    have e6:((rngD 0 (numS ts o 0).length).filter λ_=>true).map (λd=>D.int ((numS us v i).getD ((numS ts o 0).idxOf (intD d)) 0))=(namesR ts o us v i).map D.int:=by
     rw[Wa2.mpr (by simp),fl];unfold namesR rngD;rw[Wal,Wal];exact Wa0 λk _=>by show D.int ((numS us v i).getD ((numS ts o 0).idxOf (0+(k:Int))) 0)=_;rw[Wbj];rfl
    rw[e6];refine Zag (Zb2 (Or.inl rfl) ⟨_,_,rfl,rfl,?_,.val (.int (i:Int)),.val (.lst ((numS us v i).map .int)),?_⟩)
    ·rw[Wab,Wab]
     exact small1000 (Wbl (Wci _ _) (by rw[Wbh];omega))
    ·rw[rs,if_pos c,Wa4,Wa4];rfl
   ·rw[decide_eq_false c]
    refine iteF (Zbc ⟨.val (.int (i:Int)),.val (.lst ((numS us v i).map .int)),?_⟩);rw[rs,if_neg c,Wbf];rfl
  ·rintro Δ2 ⟨x7,x8,rfl⟩
   rw[Zau];refine⟨x7,x8,?_⟩;unfold renL;rw[if_neg hz]
 rintro Δ1 ⟨x7,x8,rfl⟩;exact Zez (Zph rfl ⟨_,rfl,q⟩)
end
def InE (m:Nat) (x:Int):Prop:=0<=x/\x<((2*m:Nat):Int)
structure Cm (ts:List (Int × Int)) (o:List (List Int)) (us:List (Int × Int)) (v:List (List Int)) (σ:Int->Int):Prop where
 len:ts.length=us.length
 rg:∀x,InE ts.length x->InE us.length (σ x)
 inj:∀x y,InE ts.length x->InE ts.length y -> σ x = σ y->x=y
 cp:∀x,InE ts.length x -> σ (pI x)=pI (σ x)
 cf:∀x,InE ts.length x -> σ (fI ts o x)=fI us v (σ x)
def rowOf (σ:Int->Int) (m:Nat):List Int:=(Wau (2*m)).map λk:Nat=>σ (k:Int)
theorem Zk6 {σ:Int->Int}{m k:Nat}(h:k<2*m):(rowOf σ m)[k]?=some (σ (k:Int)):=by unfold rowOf;rw[Wad,Wcq h];rfl
theorem Zis {σ τ:Int->Int}{m:Nat}(h:∀x,InE m x -> σ x = τ x):rowOf σ m=rowOf τ m:=by
 unfold rowOf;exact Wa0 λk hk=>h _ ⟨by omega,by have:=Wa5.mp hk;omega⟩
noncomputable def renAt (ts:List (Int × Int)) (o:List (List Int)) (us:List (Int × Int)) (v:List (List Int)) (e:Int):Option (List Int):=by
 classical exact if h:∃σ,Cm ts o us v σ /\ σ 0=e then some (rowOf (Classical.choose h) ts.length) else none
noncomputable def renS (ts:List (Int × Int)) (o:List (List Int)) (us:List (Int × Int)) (v:List (List Int)):List (List Int):=
 if ts.length=0 then (if us.length=0 then [[]] else []) else (Wau (2*us.length)).filterMap λe:Nat=>renAt ts o us v (e:Int)
theorem Zce {m:Nat}{x:Int}(h:InE m x):∃k:Nat,x=(k:Int)/\k<2*m:=⟨x.toNat,by have:=h.1;omega,by have:=h.1;have:=h.2;omega⟩
theorem Zcm {m k:Nat}(h:k<2*m):InE m (k:Int):=⟨by omega,by omega⟩
section
variable {N:Nat}{ts:List (Int × Int)}{o:List (List Int)}(hW:WebOk (N:Int) ts) (hO:OrdOk (N:Int) ts o) (h1:OneP N ts)
include hW hO
theorem pI_E {x:Int}(h:InE ts.length x):InE ts.length (pI x):=Zi2 x h.1 h.2
theorem fI_E {x:Int}(h:InE ts.length x):InE ts.length (fI ts o x):=Zir hW hO x h.1 h.2
include h1
theorem Zn8 {σ τ:Int->Int}{us:List (Int × Int)}{v:List (List Int)}(s1:∀x,InE ts.length x -> σ (pI x)=pI (σ x)) (s2:∀x,InE ts.length x -> σ (fI ts o x)=fI us v (σ x)) (t1:∀x,InE ts.length x -> τ (pI x)=pI (τ x)) (t2:∀x,InE ts.length x -> τ (fI ts o x)=fI us v (τ x)) {e:Int}(he:InE ts.length e) (h:σ e = τ e):∀x,InE ts.length x -> σ x = τ x:=by
 obtain⟨k,rfl,hk⟩:=Zce he;have:=Zh7 hW hO h1 (S:=λx=>σ x = τ x) (λx hx sx=>by
  have a:=s1 _ (Zcm hx);have b:=t1 _ (Zcm hx);have sx:σ (x:Int) = τ (x:Int):=sx;show σ (pI (x:Int)) = τ (pI (x:Int));rw[a,b,sx]) (λx hx sx=>by
  have a:=s2 _ (Zcm hx);have b:=t2 _ (Zcm hx);have sx:σ (x:Int) = τ (x:Int):=sx;show σ (fI ts o (x:Int)) = τ (fI ts o (x:Int));rw[a,b,sx]) hk h
 intro x hx;obtain⟨j,rfl,hj⟩:=Zce hx;exact this j hj
theorem Zfs {us:List (Int × Int)}{v:List (List Int)}{σ:Int->Int}{e:Int}(hz:ts.length≠0) (h:Cm ts o us v σ) (h0:σ 0=e):renAt ts o us v e=some (rowOf σ ts.length):=by
 have hx:∃σ,Cm ts o us v σ /\ σ 0=e:=⟨σ,h,h0⟩;unfold renAt;rw[dif_pos hx];obtain⟨c1,c2⟩:=Classical.choose_spec hx;rw[Zis (Zn8 hW hO h1 c1.cp c1.cf h.cp h.cf (e:=0) ⟨Int.le_refl _,by omega⟩ (c2.trans h0.symm))]
end
theorem Zkc {ts:List (Int × Int)}{o:List (List Int)}{us:List (Int × Int)}{v:List (List Int)}{e:Int}(h:¬ ∃σ,Cm ts o us v σ /\ σ 0=e):renAt ts o us v e=none:=by
 unfold renAt;rw[dif_neg h]
theorem Zje {σ:Int->Int}{l:List Int}{x:Int}(inj:∀y∈l,σ y = σ x->y=x):addN (l.map σ) (σ x)=(addN l x).map σ:=by
 unfold addN;by_cases c:x∈l
 ·rw[if_pos c,if_pos (List.mem_map_of_mem c)]
 ·rw[if_neg c,if_neg,Wa4];rfl
  intro z;obtain⟨y,hy,e⟩:=Wa9.mp z;exact c (by rw[<- inj y hy e];exact hy)
theorem Zjx {σ:Int->Int}{l:List Int}{i:Nat}(h:i<l.length):(l.map σ).getD i 0 = σ (l.getD i 0):=by
 rw[Wac,Wac,Wad,Waa h];rfl
section
variable {N:Nat}{ts:List (Int × Int)}{o:List (List Int)}(hW:WebOk (N:Int) ts) (hO:OrdOk (N:Int) ts o)
variable {us:List (Int × Int)}{v:List (List Int)}{σ:Int->Int}
include hW hO
theorem Zpw (h:Cm ts o us v σ) {e:Int}(he:InE ts.length e):∀j,(∀i,i<j->i<(numGo pI (fI ts o) e i).length)->numGo pI (fI us v) (σ e) j=(numGo pI (fI ts o) e j).map σ:=by
 intro j
 induction j with
 |zero=>intro _;rfl
 |succ j ih=>
  intro hj;have I:NumI pI (fI ts o) (2*ts.length) e j (numGo pI (fI ts o) e j):=Zdt (λx=>Zi2 (m:=ts.length) x) (Zir hW hO) he.1 he.2 λi hi=>hj i (by omega);have hjl:=hj j (by omega);show numT pI (fI us v) j (numGo pI (fI us v) (σ e) j)=(numT pI (fI ts o) j (numGo pI (fI ts o) e j)).map σ;rw[ih λi hi=>hj i (by omega)];generalize numGo pI (fI ts o) e j=l at *;unfold numT;have hx:InE ts.length (l.getD j 0):=I.rg _ (Zge hjl);rw[Zjx hjl,<- h.cp _ hx,<- h.cf _ hx];have a1:∀y∈l,InE ts.length y:=λy hy=>I.rg y hy;rw[Zje λy hy e=>h.inj y _ (a1 y hy) (pI_E hW hO hx) e];rw[Zje λy hy e=>h.inj y _ (by
   rcases Zhc hy with z|z
   ·exact a1 y z
   ·rw[z];exact pI_E hW hO hx) (fI_E hW hO hx) e]
theorem Zhs (h:Cm ts o us v σ) {e:Int}(he:InE ts.length e) {J:Nat}(hJ:NumAt pI (fI ts o) e J):NumAt pI (fI us v) (σ e) J/\numGo pI (fI us v) (σ e) J=(numGo pI (fI ts o) e J).map σ:=by
 have e1:∀j,j<=J->numGo pI (fI us v) (σ e) j=(numGo pI (fI ts o) e j).map σ:=λj hj=>Zpw hW hO h he j λi hi=>hJ.2 i (by omega);refine⟨⟨?_,λi hi=>?_⟩,e1 J (Wak _)⟩
 ·rw[e1 J (Wak _),Wab];exact hJ.1
 ·rw[e1 i (by omega),Wab];exact hJ.2 i hi
end
theorem Zn3 {p q:Int->Int}{m:Nat}{e:Int}(hp:∀x,0<=x->x<(m:Int)->0<=p x/\p x<(m:Int)) (hq:∀x,0<=x->x<(m:Int)->0<=q x/\q x<(m:Int)) (h0:0<=e) (h1:e<(m:Int)):∃J,NumAt p q e J:=by
 apply Classical.byContradiction;intro hn;have all:∀J,∀i,i<J->i<(numGo p q e i).length:=by
  intro J
  induction J with
  |zero=>intro i hi;omega
  |succ J ih=>
   intro i hi;by_cases c:i<J
   ·exact ih i c
   ·have:i=J:=by omega
    subst this;have I:=Zdt hp hq h0 h1 ih;have:=I.le;by_cases c2:(numGo p q e i).length=i
    ·exact absurd ⟨i,c2,ih⟩ hn
    ·omega
 have I:=Zdt hp hq h0 h1 (all (m+1));have:=Zhg I;have:=I.le;omega
section
variable {N:Nat}{ts:List (Int × Int)}{o:List (List Int)}(hW:WebOk (N:Int) ts) (hO:OrdOk (N:Int) ts o) (h1:OneP N ts)
variable {M:Nat}{us:List (Int × Int)}{v:List (List Int)}(hV:WebOk (M:Int) us) (hU:OrdOk (M:Int) us v) (h2:OneP M us)
include hW hO
theorem Zc1 {e:Nat}(he:e<2*ts.length):∃J,NumAt pI (fI ts o) (e:Int) J/\numS ts o e=numGo pI (fI ts o) (e:Int) J/\NumOk ts o e (numS ts o e):=by
 obtain⟨J,hJ⟩:=Zn3 (p:=pI) (q:=fI ts o) (m:=2*ts.length) (e:=(e:Int)) (λx=>Zi2 (m:=ts.length) x) (Zir hW hO) (by omega) (by omega);exact⟨J,hJ,(Zds hJ).symm,Zfe hW hO he hJ⟩
theorem Zh9 {e:Nat}(he:e<2*ts.length):(numS ts o e)[0]?=some (e:Int):=by
 obtain⟨J,hJ,e1,_⟩:=Zc1 hW hO he;have I:NumI pI (fI ts o) (2*ts.length) (e:Int) J (numGo pI (fI ts o) (e:Int) J):=Zdt (λx=>Zi2 (m:=ts.length) x) (Zir hW hO) (by omega) (by omega) hJ.2;rw[e1];have:=I.he;rw[Wac,Waa this.2]at this;rw[Waa this.2];exact congrArg some this.1
include h1 hV hU h2
theorem Znr (hz:ts.length≠0) {e:Nat}(he:e<2*us.length) (hc:cdL us v (numS us v e)=cdL ts o (numS ts o 0)):Cm ts o us v (λx=>(numS us v e).getD ((numS ts o 0).idxOf x) 0)/\(numS us v e).getD ((numS ts o 0).idxOf 0) 0=(e:Int):=by
 obtain⟨_,_,_,A⟩:=Zc1 hW hO (e:=0) (by omega);obtain⟨_,_,_,B⟩:=Zc1 hV hU he;obtain⟨fa,la⟩:=Zct hW hO h1 (by omega) A;obtain⟨fb,lb⟩:=Zct hV hU h2 he B;have ha:=Zh9 hW hO (e:=0) (by omega);have hb:=Zh9 hV hU he;generalize numS ts o 0=l at *;generalize numS us v e=m at *;have ll:m.length=l.length:=by have:=congrArg Wbd hc;rw[Zdr,Zdr]at this;exact this
 have inl:∀x,InE ts.length x->x∈l:=λx hx=>by obtain⟨k,rfl,hk⟩:=Zce hx;exact fa k hk
 have gm:∀x∈l,m[l.idxOf x]?=some (m.getD (l.idxOf x) 0):=λx hx=>by
  have:=(Zat hx).1;rw[Wac,Waa (by omega)];rfl
 have cd:∀x∈l,m.idxOf (pI (m.getD (l.idxOf x) 0))=l.idxOf (pI x)/\m.idxOf (fI us v (m.getD (l.idxOf x) 0))=l.idxOf (fI ts o x):=λx hx=>by
  have i1:=Zat hx;have c1:(cdL us v m)[l.idxOf x]?=(cdL ts o l)[l.idxOf x]?:=by rw[hc]
  unfold cdL at c1;rw[Wad,Wad,i1.2.1,gm x hx]at c1;have c2:=Wa7.inj c1;have e1:=congrArg Prod.fst c2;have e2:=congrArg Prod.snd c2;exact⟨by exact Int.ofNat.inj e1,by exact Int.ofNat.inj e2⟩
 have back:∀y∈m,∀k,m.idxOf y=k->m.getD k 0=y:=λy hy k hk=>by
  have:=(Zat hy).2.1;rw[hk]at this;rw[Wac,this];rfl
 refine⟨⟨by omega,λx hx=>?_,λx y hx hy hxy=>?_,λx hx=>?_,λx hx=>?_⟩,?_⟩
 ·have:=B.cl _ (Wan (gm x (inl x hx)))
  exact⟨this.1,this.2.1⟩
 ·have g1:=gm x (inl x hx)
  have g2:=gm y (inl y hy);have hxy:m.getD (l.idxOf x) 0=m.getD (l.idxOf y) 0:=hxy;rw[<- hxy]at g2;have:l.idxOf x=l.idxOf y:=(Zdk B.nd g1).symm.trans (Zdk B.nd g2);have a1:=(Zat (inl x hx)).2.1;have a2:=(Zat (inl y hy)).2.1;rw[this]at a1;exact Wa7.inj (a1.symm.trans a2)
 ·have c:=cd x (inl x hx)
  have:=B.cl _ (Wan (gm x (inl x hx)));exact back _ this.2.2.1 _ c.1
 ·have c:=cd x (inl x hx)
  have:=B.cl _ (Wan (gm x (inl x hx)));exact back _ this.2.2.2 _ c.2
 ·have:l.idxOf 0=0:=Zdk A.nd ha
  rw[this,Wac,hb];rfl
theorem Zjc (hz:ts.length≠0) {σ:Int->Int}(h:Cm ts o us v σ) {e:Nat}(h0:σ 0=(e:Int)):cdL us v (numS us v e)=cdL ts o (numS ts o 0)/\namesR ts o us v e=rowOf σ ts.length:=by
 have z0:InE ts.length 0:=⟨Int.le_refl _,by omega⟩;obtain⟨J,hJ,e1,A⟩:=Zc1 hW hO (e:=0) (by omega);obtain⟨k1,k2⟩:=Zhs hW hO h z0 hJ;rw[h0]at k1 k2;have e2:numS us v e=(numS ts o 0).map σ:=by rw[<- Zds k1,e1];exact k2
 obtain⟨fa,la⟩:=Zct hW hO h1 (by omega) A;generalize hln:numS ts o 0=l at *;have inE:∀x∈l,InE ts.length x:=λx hx=>by have:=A.cl x hx;exact⟨this.1,this.2.1⟩
 have ix:∀x∈l,(l.map σ).idxOf (σ x)=l.idxOf x:=λx hx=>by
  have nd:(l.map σ).Nodup:=by
   rw[Wbc,Wb5];exact List.Pairwise.imp_of_mem (λ{a b} ha hb hab e=>hab (h.inj a b (inE a ha) (inE b hb) e)) (Wbc.mp A.nd)
  exact Zdk nd (by rw[Wad,(Zat hx).2.1];rfl)
 refine⟨?_,?_⟩
 ·rw[e2]
  unfold cdL;rw[Wal];refine Wa0 λx hx=>?_;have c:=A.cl x hx;show (((((l.map σ).idxOf (pI (σ x)):Nat):Int)),(((l.map σ).idxOf (fI us v (σ x)):Nat):Int))=((((l.idxOf (pI x):Nat):Int)),((l.idxOf (fI ts o x):Nat):Int));rw[<- h.cp x (inE x hx),<- h.cf x (inE x hx),ix _ c.2.2.1,ix _ c.2.2.2]
 ·unfold namesR rowOf
  refine Wa0 λk hk=>?_;have hk:=Wa5.mp hk;have mem:=fa k hk;rw[e2,hln,Zjx (Zat mem).1];congr 1;rw[Wac,(Zat mem).2.1];rfl
theorem Zry:renL ts o us v=renS ts o us v:=by
 unfold renL renS;by_cases hz:ts.length=0
 ·rw[if_pos hz,if_pos hz]
 ·rw[if_neg hz,if_neg hz]
  have key:∀l:List Nat,(∀e∈l,e<2*us.length)->(l.filter λe=>decide (cdL us v (numS us v e)=cdL ts o (numS ts o 0))).map (namesR ts o us v)=l.filterMap λe:Nat=>renAt ts o us v (e:Int):=by
   intro l
   induction l with
   |nil=>intro _;rfl
   |cons e l ih=>
    intro hl;have he:=hl e Way;have ih:=ih λx hx=>hl x (Wav _ hx);by_cases c:cdL us v (numS us v e)=cdL ts o (numS ts o 0)
    ·obtain⟨m1,m2⟩:=Znr hW hO h1 hV hU h2 hz he c
     rw[List.filter_cons_of_pos (by simpa using c),Wbe,Wce,Zfs hW hO h1 hz m1 m2,ih];show namesR ts o us v e::_=rowOf _ _::_;rw[(Zjc hW hO h1 hV hU h2 hz m1 m2).2]
    ·rw[List.filter_cons_of_neg (by simpa using c),Wce,Zkc,ih]
     rintro⟨σ,hs,h0⟩;exact c (Zjc hW hO h1 hV hU h2 hz hs h0).1
  exact key _ λe he=>Wa5.mp he
end
noncomputable def lf (l:List Int):List Int:=if h:l=[] then [] else rotAt l (l.idxOf (Classical.choose (Zdf l h)))
theorem Zl1:lf []=[]:=by unfold lf;rw[dif_pos rfl]
theorem Zp9 {l:List Int}{m:Int}(hm:m∈l) (hle:∀a∈l,m<=a):lf l=rotAt l (l.idxOf m):=by
 have h:l≠[]:=List.ne_nil_of_mem hm;unfold lf;rw[dif_neg h];obtain⟨c1,c2⟩:=Classical.choose_spec (Zdf l h);have e:Classical.choose (Zdf l h)=m:=by
  have:=c2 m hm;have:=hle _ c1;omega
 rw[e]
theorem Zn5 (l:List Int) (j:Nat):(rotAt l j).Perm l:=by
 unfold rotAt;refine List.perm_append_comm.trans ?_;rw[Wch]
theorem Zq8 (l:List Int):(lf l).Perm l:=by
 by_cases h:l=[]
 ·subst h;rw[Zl1]
 ·obtain⟨m,hm,hle⟩:=Zdf l h
  rw[Zp9 hm hle];exact Zn5 _ _
theorem Zqj {l:List Int}{m:Int}(hm:m∈l) (hle:∀a∈l,m<=a):(lf l).head?=some m:=by
 obtain⟨i1,i2,_⟩:=Zat hm;rw[Zp9 hm hle];unfold rotAt;rw[List.drop_eq_getElem_cons i1,List.cons_append,List.head?_cons];rw[Waa i1]at i2;exact i2
theorem Zhh {ts:List (Int × Int)}{m:Nat}{p:Int}{l:List Int}(h:l.Perm (endsBelow ts m p)):RowOk ts m p (lf l):=by
 refine⟨(Zq8 l).trans h,?_⟩;cases e:endsBelow ts m p with
 |nil=>
  rw[e]at h;rw[List.Perm.eq_nil h,Zl1]
 |cons x X=>
  have hs:=Zeg ts m p;rw[e]at hs h;rw[List.head?_cons];refine Zqj (h.mem_iff.mpr Way) λa ha=>?_;rcases Wat.mp (h.mem_iff.mp ha) with z|z
  ·omega
  ·have:=List.rel_of_pairwise_cons hs z
   omega
section
variable {P:Program}{w:World}{K:W.Frag}{mg:Str->Option Value}{base:Heap}{f:Addr}{fd:FuncData}
def fLeastE:DSp:=λds Post=>∃ns:List Int,ds=[.lst (ns.map .int)]/\ns.length<=100/\Post (encRow (lf ns))
theorem Zgh (r:List Int):(r.map D.int).map intD=r:=by
 rw[Wal]
 conv=>rhs;rw[<- Wdo r]
 rfl
def Rising (R:List (List Int)):Prop:=R.Pairwise λa b=>rlt b a=false
theorem Zlk {A B:List (List Int)}(ha:Rising A) (hb:Rising B) (h:A.Perm B):A=B:=
 List.Perm.eq_of_pairwise (le:=λa b=>rlt b a=false) (λa b _ _ h1 h2=>Zg0 a b h2 h1) ha hb h
def rowI:D->List Int
 |.lst ds=>ds.map intD
 |.tup ds=>ds.map intD
 |_=>[]
theorem Zdb (r:List Int):rowI (rowD r)=r:=Zgh r
end
theorem one_part {N:Nat}{ts:List (Int × Int)}(hW:WebOk (N:Int) ts) (h:∀k:Nat,k+1<N->∃t∈ts,∃j:Nat,j<=k/\(t=((j:Int),(k:Int)+1)\/t=((k:Int)+1,(j:Int)))):OneP N ts:=by
 have all:∀p:Nat,p<N->mk N ts (p:Int)=mk N ts 0:=by
  intro p
  induction p using Nat.strongRecOn with
  |_ p ih=>
   intro hp;cases p with
   |zero=>rfl
   |succ k=>
    obtain⟨t,ht,j,hj,e⟩:=h k hp;have m:=Zo5 hW ht;have ek:((k+1:Nat):Int)=(k:Int)+1:=by omega
    rw[ek];rcases e with rfl|rfl
    ·exact m.symm.trans (ih j (by omega) (by omega))
    ·exact m.trans (ih j (by omega) (by omega))
 intro ms hm
 match ms,hm with
 |[],_=>exact Wbx _
 |[a],_=>exact Wak _
 |a::b::r,hm=>
  exfalso
  have one:∀x∈a::b::r,x=mk N ts 0:=λx hx=>by
   have:=(hm.2 x).mp hx;obtain⟨i,hi⟩:=Wbi.mp this;have hl:=(Waf.mp hi).1;rw[Zbv]at hl;have:=all i hl;unfold mk at this ⊢;rw[Wah,Wac,hi]at this;exact this
  have hs:=hm.1;rw[List.pairwise_cons]at hs;have l:=hs.1 b Way;have e1:=one a Way;have e2:=one b (Wav _ Way);omega
def fOneP:BSp:=λps ds Post=>Pen ps/\∃L:Int,ds=[.int L]/\0<=L/\L<=24/\∀(N:Nat) (ts:List (Int × Int)) ps',Pen ps' -> WebOk (N:Int) ts->OneP N ts->Post (encWeb (N:Int) ts) ps'
def Hng (n:Int) (k:Nat) (u v:Int):Prop:=(k:Int)+1<n->∃j:Nat,j<=k/\((u=(j:Int)/\v=(k:Int)+1)\/(u=(k:Int)+1/\v=(j:Int)))
def p1St (ps:List D) (L c way n:Int) (r:List L2.Slot):Evt:=.bor (.lst ps)::.val (.int L)::.val (.int c)::.val (.int way)::.val (.int n)::r
def p1N (ps:List D) (L c way:Int):Evt->Prop:=λΔ=>∃n:Int,1<=n/\n<=25/\n<=c+1 /\ Δ = p1St ps L c way n [.any,.any,.any,.any]
def p1L (L c way n:Int) (i:Nat):Evt->Prop:=λΔ=>∃(ps:List D) (ts:List (Int × Int)) (x6 x7 x8:L2.Slot),Pen ps/\ts.length=i/\(∀t∈ts,0<=t.1/\t.1<n/\0<=t.2/\t.2<n)/\(∀k:Nat,k<i->∃t∈ts,Hng n k t.1 t.2) /\ Δ = p1St ps L c way n [.own (.lst (ts.map encTie)),x6,x7,x8]
def p1Q (L c way n:Int) (i:Nat) (fs:List D):Evt->Prop:=λΔ=>∃(ps:List D) (u v:Int),Pen ps/\0<=u/\u<n/\0<=v/\v<n/\Hng n i u v /\ Δ = p1St ps L c way n [.own (.lst fs),.val (.int (i:Int)),.val (.int u),.val (.int v)]
section
variable {P:Program}{w:World}{K:W.Frag}{mg:Str->Option Value}{base:Heap}{f:Addr}{fd:FuncData}
theorem Zqk (mb:Mb mg) (C21:Callee P w K mg base 1 "_law_draw" ["_law_pen_here","_law_many"] (spB K fDraw)) (F:Fun K "_law_one_part" "_law_one_part" s_law_one_part f fd):FnOk P w K mg base CX0 2 f fd ["_law_pen_here","_law_limit"] (spB K fOneP):=by
 refine F.ok sc_law_one_part (Zdp λps ds Post h=>by obtain⟨_,a,rfl,_⟩:=h;rfl) (λcdv A outer s H vs Q E hr h=>?_);have hu:=Zch hr;refine⟨_,(Zad (Zap (i:=2) sc_law_one_part.nd rfl (Or.inl rfl) (Za3 C21 (hr.mono (by decide)) (Zaa (pv 0) (Zaa (Zar (addK K) (pv 1) Zaf) Zac)))) (Zad (Zap (i:=3) sc_law_one_part.nd rfl (Or.inl rfl) (Za3 C21 (hr.mono (by decide)) (Zaa (pv 0) (Zaa Zaf Zac)))) (Zad (Zap (i:=4) sc_law_one_part.nd rfl (Or.inl rfl) (Zaj (Zfa rfl) rfl (mb "min" (by decide)) Zhp (Zaa Zaf (Zaa (Zar (addK K) Zaf (Za3 C21 (hr.mono (by decide)) (Zaa (pv 0) (Zaa (Zar (addK K) (pv 2) Zaf) Zac)))) Zac)))) (Zad (Zcj (PW.pt (pw_or (Zax Zb1 (pv 3) Zaf (nomark _)) (pw_or1 (Zax Zb1 (pv 3) Zaf (nomark _))))) (Zai (Zap (i:=4) sc_law_one_part.nd rfl (Or.inl rfl) (Zar (addK K) Zaf (pv 2)))) Zbd) (Zad (Zcj (Zax Zb1 (pv 3) Zaf (nomark _)) (Zai (Zap (i:=4) sc_law_one_part.nd rfl (Or.inl rfl) (Zaj (Ze2 rfl) rfl (mb "max" (by decide)) Zm2 (Zaa Zaf (Zaa (pv 2) Zac))))) Zbd) (Zad (Zap (i:=5) sc_law_one_part.nd rfl (Or.inl rfl) (Zcc Zac)) (Zad (Zcx PassesOwn.never rfl (Za2 rfl (mb "range" (by decide)) (Zaa (pv 2) Zac)) (Zak (i:=6) sc_law_one_part.nd rfl (Or.inl rfl)) (Zad (Zjy (i:=7) (j:=8) rfl sc_law_one_part.nd rfl rfl (by decide) rfl rfl (Zaa (Za3 C21 (hr.mono (by decide)) (Zaa (pv 0) (Zaa (pv 4) Zac))) (Zaa (Za3 C21 (hr.mono (by decide)) (Zaa (pv 0) (Zaa (pv 4) Zac))) Zac)) rfl) (Zad (Zcj (Zax Zrc (Zar (addK K) (pv 6) Zaf) (pv 4) (nomark _)) (Zai (Zjy (i:=7) (j:=8) rfl sc_law_one_part.nd rfl rfl (by decide) rfl rfl (Zaa (Zan (ixK K hu) (Zcc (Zaa (Za3 C21 (hr.mono (by decide)) (Zaa (pv 0) (Zaa (Zar (addK K) (pv 6) Zaf) Zac))) (Zaa (pv 6) (Zaa Zaf Zac)))) (Zan (ixK K hu) (Zcc (Zaa Zaf (Zaa Zaf (Zaa Zaf (Zaa Zaf (Zaa Zaf Zac)))))) (pv 3) (λ_ _=>rfl)) (λ_ _=>rfl)) (Zaa (Zar (addK K) (pv 6) Zaf) Zac)) rfl)) (Zai (Zcj (Zax Zb1 (pv 3) Zaf (nomark _)) (Zai (Zjy (i:=7) (j:=8) rfl sc_law_one_part.nd rfl rfl (by decide) rfl rfl (Zaa (Zar Zrs (pv 4) Zaf) (Zaa Zaf Zac)) rfl)) Zbd))) (Zad (Zcj (Zax Zb1 (Za3 C21 (hr.mono (by decide)) (Zaa (pv 0) (Zaa Zaf Zac))) Zaf (nomark _)) (Zai (Zjy (i:=7) (j:=8) rfl sc_law_one_part.nd rfl rfl (by decide) rfl rfl (Zaa (pv 8) (Zaa (pv 7) Zac)) rfl)) Zbd) (Zai (Zb4 (bmK K PySem.F.plainAttrs_list PySem.F.slot_list_insert PySem.F.type_list_insert Zd0 (pv 5) (Zaa (Za3 C21 (hr.mono (by decide)) (Zaa (pv 0) (Zaa (Zar (addK K) (Zaj (lenK K) rfl (mb "len" (by decide)) Zbm (Zaa (pv 5) Zac)) Zaf) Zac))) (Zaa (Zby (Zaa (pv 7) (Zaa (pv 8) Zac))) Zac))))))))) (Zai (Zba (Zby (Zaa (pv 4) (Zaa (Za0 (tupK K) rfl (mb "tuple" (by decide)) Zbk (Zaa (pv 5) Zac)) Zac)))))))))))),Zi6 (λps ds Post hf=>?_) h⟩;obtain⟨hp,L,rfl,L0,L1,q⟩:=hf;refine⟨by simp,?_⟩;dsimp only[cxOf,startD,Wbw,Wbq,Wbd,Waj];refine Zam (Zav (Zcf rfl rfl (Zab (Za9 (Zbw (Zah rfl) Zay Zcw) (Zag (Zbz (m:=L+1) rfl rfl hp (by omega) (by omega) λc ps1 hp1 c0 c1=>?_))))));refine Zam (Zav (Zh6 rfl rfl hp1 (by decide) (by decide) λway ps2 hp2 w0 w1=>?_));refine Zam (Zav (Zbr (Zab (Zaw (Zab (Zaz (Zaw (Zcf rfl rfl (Zab (Za9 (Zbw (Zah rfl) Zay Zcw) (Zag (Zbz (m:=c+1) rfl rfl hp2 (by omega) (by omega) λr ps3 hp3 r0 r1=>Zc5 (Zag (Zer ?_))))))))))))));have hn0:1<=(if 1+r<25 then 1+r else 25)/\(if 1+r<25 then 1+r else 25)<=25/\(if 1+r<25 then 1+r else 25)<=c+1:=by split <;> omega
 generalize (if 1+r<25 then 1+r else 25)=n0 at hn0 ⊢;refine Zbb (p1N ps3 L c way) ?_ ?_
 ·have x:∀{bk ct:Evt->Prop}{rt:D->Evt->Prop}{ro:OD->Evt->Prop},JS K (tAsg (tOp (rAddU K) (tC (.int 1)) (tVar 2)) (gName 4)) (p1St ps3 L c way n0 [.any,.any,.any,.any]) ⟨p1N ps3 L c way,rt,bk,ct,ro⟩:=λ{_ _ _ _}=>Zav (Za9 (Zbw Zay (Zah rfl) Zcw) ⟨1+c,by omega,by omega,by omega,rfl⟩)
  exact Zcv (Znt (Zd3 rfl (λ_=>iteT (iteT x)) (λ_=>iteF (Zd3 rfl (λ_=>iteT x) (λ_=>iteF (Zbc ⟨n0,hn0.1,hn0.2.1,hn0.2.2,rfl⟩))))))
 rintro Δ1 ⟨n1,h1,h2,h3,rfl⟩;refine Zbb (p1N ps3 L c way) ?_ ?_
 ·refine Zcv (Zd3 rfl (λ_=>iteT ?_) (λ_=>iteF (Zbc ⟨n1,h1,h2,h3,rfl⟩)))
  refine Zav (Zbr (Zab (Zaw (Zab (Zae rfl (Zag (Zer ⟨_,?_,?_,?_,rfl⟩)))))))
  all_goals (split <;> omega)
 rintro Δ1 ⟨n,n0',n1',n2',rfl⟩;refine Zam (Zdu (Zdi (Zag ⟨by decide,?_⟩)));refine Zbb (p1L L c way n c.toNat) ?_ ?_
 ·refine Zc0 (Za1 (Zab (Zae rfl (Zag ⟨_,rfl,by omega,by omega,?_⟩))))
  refine⟨p1L L c way n,⟨ps3,[],.any,.any,.any,hp3,rfl,λ_ h=>(nomatch h),λk hk=>absurd hk (Nat.not_lt_zero k),rfl⟩,?_,λΔ2 h=>by rw[Zau]at h;exact h⟩;rintro i d Δ2 hd ⟨px,ts,x6,x7,x8,hpx,hl,ht,hh,rfl⟩;obtain⟨hi,rfl⟩:=Zbj hd;rw[Wbj];refine Zb0 (Zam (Zfh (Zab (Zcf rfl rfl (Zab (Zae rfl (Zag (Zbz (m:=n) rfl rfl hpx n0' (by omega) λx pa hpa hx0 hx1=>?_))))))));refine Zab (Zcf rfl rfl (Zab (Zae rfl (Zag (Zbz (m:=n) rfl rfl hpa n0' (by omega) λy pb hpb hy0 hy1=>Zag ⟨_,_,rfl,?_⟩)))));refine Zbb (p1Q L c way n i (ts.map encTie)) ?_ ?_
  ·refine Zcv (Zbh (Zaz (Za9 (Zbw (Zah rfl) Zay Zcw) (Zae rfl (Zk7 ⟨_,rfl,ite2 (λz=>?_) (λz=>?_)⟩)))))
   ·have z:(i:Int)+1<n:=of_decide_eq_true z
    obtain⟨wi,a1,a2⟩:∃wi:Int,atI [D.int 0,.int 1,.int 2,.int 0,.int 0] way=some (.int wi)/\(wi=0\/wi=1\/wi=2):=by
     rcases(show way=0\/way=1\/way=2\/way=3\/way=4 by omega) with e|e|e|e|e <;> subst e
     ·exact⟨0,rfl,by omega⟩
     ·exact⟨1,rfl,by omega⟩
     ·exact⟨2,rfl,by omega⟩
     ·exact⟨0,rfl,by omega⟩
     ·exact⟨0,rfl,by omega⟩
    refine Zfh (Zab (Zaz (Zjv (Zab (Zcf rfl rfl (Zab (Za9 (Zbw (Zah rfl) Zay Zcw) (Zag (Zbz (m:=(i:Int)+1) rfl rfl hpb (by omega) (by omega) λr pc hpc r0 r1=>?_)))))))));obtain⟨g,b1,b2⟩:∃g:Nat,atI [D.int r,.int (i:Int),.int 0] wi=some (.int (g:Int))/\g<=i:=by
     rcases a2 with e|e|e <;> subst e
     ·exact⟨r.toNat,by rw[Wca r0];rfl,by omega⟩
     ·exact⟨i,rfl,Wak _⟩
     ·exact⟨0,rfl,by omega⟩
    refine Zab (Zae rfl (Zab (Zaw (Zag ⟨(by show 3<=sizeLine;decide),Za9 (Zbp (Ztg (Zal Zay (Zal Zay (Zal Zay (Zal Zay (Zal Zay Zcg))))) (by show 5<=sizeLine;decide)) (Zah rfl) a1) (Zbu b1 ?_)⟩))));exact Zab (Za9 (Zbw (Zah rfl) Zay Zcw) (Zag ⟨_,_,rfl,pc,(g:Int),(i:Int)+1,hpc,by omega,by omega,by omega,z,λ_=>⟨g,b2,.inl ⟨rfl,rfl⟩⟩,rfl⟩))
   ·have z:¬ (i:Int)+1<n:=of_decide_eq_false (Wdc.mpr z)
    refine Zcv (Zd3 rfl (λ_=>iteT ?_) (λ_=>iteF (Zbc ⟨pb,x,y,hpb,hx0,hx1,hy0,hy1,λa=>absurd a z,rfl⟩)));exact Zfh (Zei (Zal (Zbw (Zah rfl) Zay Zty) (Zal Zay Zcg)) ⟨_,_,rfl,pb,n-1,0,hpb,by omega,by omega,by omega,by omega,λa=>absurd a z,rfl⟩)
  rintro Δ3 ⟨pc,u,v,hpc,u0,u1,v0,v1,hg,rfl⟩;refine Zbb (p1Q L c way n i (ts.map encTie)) ?_ ?_
  ·refine Zcv (Zbh (Zaz (Zh6 rfl rfl hpc (by decide) (by decide) λs0 pd hpd s00 s01=>Zaw (Zfj ⟨_,rfl,ite2 (λz=>?_) (λz=>Zbc ⟨pd,u,v,hpd,u0,u1,v0,v1,hg,rfl⟩)⟩))))
   exact Zfh (Zei (Zal (Zah rfl) (Zal (Zah rfl) Zcg)) ⟨_,_,rfl,pd,v,u,hpd,v0,v1,u0,u1,λa=>by obtain⟨j,hj,e⟩:=hg a;exact⟨j,hj,e.elim (λe=>.inr ⟨e.2,e.1⟩) (λe=>.inl ⟨e.2,e.1⟩)⟩,rfl⟩)
  rintro Δ3 ⟨pe,u,v,hpe,u0,u1,v0,v1,hg,rfl⟩;refine Zlu rfl rfl (Zcf rfl rfl (Zab (Zaz (Zem rfl rfl (Zaw (Zc5 (Zag ?_)))))));rw[Wab];refine Zbz (m:=(ts.length:Int)+1) rfl rfl hpe (by omega) (by omega) λs0 pf hpf s00 s01=>?_;refine Za9 (Zr8 (Zal (Zah rfl) (Zal (Zah rfl) Zcg)) Zcb) ⟨_,s0,_,rfl,rfl,rfl,?_,by omega,by omega,?_⟩
  ·rw[Wab];exact small1000 (by omega)
  refine⟨pf,ts.take (insI (ts.map encTie).length s0)++(u,v)::ts.drop (insI (ts.map encTie).length s0),.val (.int (i:Int)),.val (.int u),.val (.int v),hpf,?_,?_,?_,?_⟩
  ·rw[Waw,Wao,Wbt,Wbu];omega
  ·intro t h
   rcases Wbr.mp h with h|h
   ·exact ht t (List.mem_of_mem_take h)
   ·rcases Wat.mp h with h|h
    ·rw[h];exact⟨u0,u1,v0,v1⟩
    ·exact ht t (List.mem_of_mem_drop h)
  ·intro k hk
   by_cases e:k=i
   ·subst e;exact⟨(u,v),by simp,hg⟩
   ·obtain⟨t,h1,h2⟩:=hh k (by omega)
    refine⟨t,?_,h2⟩;rw[<- Wch (insI (ts.map encTie).length s0) ts]at h1;rcases Wbr.mp h1 with h1|h1
    ·exact Wcm _ h1
    ·exact Waz _ (Wav _ h1)
  ·rw[Wa4,Wbe,Wc2,Wc3];rfl
 rintro Δ1 ⟨pz,ts,x6,x7,x8,hpz,hl,ht,hh,rfl⟩;obtain⟨N,rfl⟩:∃N:Nat,n=(N:Int):=⟨n.toNat,by omega⟩;have W:WebOk (N:Int) ts:=⟨n0',n1',by omega,ht⟩;refine Zbo (Zbt (Zab (Zae rfl (Zab (Zbr (Zab (Zgw rfl (Zag (Zb2 (Or.inl rfl) (Zag ⟨Zcb,?_⟩))))))))));refine⟨_,rfl,q N ts _ hpz W (one_part W λk hk=>?_)⟩;obtain⟨t,t1,t2⟩:=hh k (by omega);obtain⟨j,j1,j2⟩:=t2 (by omega);refine⟨t,t1,j,j1,j2.elim (λe=>.inl ?_) (λe=>.inr ?_)⟩
 ·exact Prod.ext e.1 e.2
 ·exact Prod.ext e.1 e.2
end
noncomputable def srtI (l:List Int):List Int:=by
 classical exact if h:∃ms:List Int,ms.Perm l/\ms.Pairwise (· <= ·) then Classical.choose h else l
theorem Zme {l ms:List Int}(h1:ms.Perm l) (h2:ms.Pairwise (· <= ·)):ms=srtI l:=by
 unfold srtI;have h:∃ms:List Int,ms.Perm l/\ms.Pairwise (· <= ·):=⟨ms,h1,h2⟩;rw[dif_pos h];have hc:=Classical.choose_spec h;exact List.Perm.eq_of_pairwise (le:=λa b=>a<=b) (λa b _ _ h1 h2=>by omega) h2 hc.2 (h1.trans hc.1.symm)
noncomputable def srtP (l:List (List Int)):List (List Int):=by
 classical exact if h:∃ms:List (List Int),ms.Perm l/\Rising ms then Classical.choose h else l
theorem Zq0 {l ms:List (List Int)}(h1:ms.Perm l) (h2:Rising ms):ms=srtP l:=by
 unfold srtP;have h:∃ms:List (List Int),ms.Perm l/\Rising ms:=⟨ms,h1,h2⟩;rw[dif_pos h];have hc:=Classical.choose_spec h;exact Zlk h2 hc.2 (h1.trans hc.1.symm)
theorem Zew (l:List (List Int)):(srtP l).Perm l:=by
 unfold srtP;by_cases h:∃ms:List (List Int),ms.Perm l/\Rising ms
 ·rw[dif_pos h];exact(Classical.choose_spec h).1
 ·rw[dif_neg h]
def prs (r:List Int):List (List Int):=r.map λx=>[x % 2,x]
def sndR (R:List (List Int)):List Int:=R.map λp=>p.getD 1 0
theorem Znx (r:List Int):sndR (prs r)=r:=by
 unfold sndR prs;rw[Wal];exact(Wa0 (λ_ _=>rfl)).trans (Wdo r)
theorem Zn7 (r:List Int):(sndR (srtP (prs r))).Perm r:=by
 have:=(Zew (prs r)).map λp=>p.getD 1 0;rw[show (prs r).map (λp=>p.getD 1 0)=r from Znx r]at this;exact this
theorem Zmw {n:Int}{ts:List (Int × Int)}{o:List (List Int)}(hO:OrdOk n ts o) (f:List Int->List Int) (h:∀(p:Nat) r,o[p]?=some r->RowOk ts (2*ts.length) (p:Int) (f r)):OrdOk n ts (o.map f):=by
 refine⟨by rw[Wab];exact hO.len,λp r hr=>?_⟩;rw[Wad]at hr;cases q:o[p]? with
 |none=>rw[q]at hr;cases hr
 |some r'=>rw[q]at hr;cases hr;exact h p r' q
theorem Zpn {ts:List (Int × Int)}{m:Nat}{p:Int}{r:List Int}(h:RowOk ts m p r):RowOk ts m p (lf (sndR (srtP (prs r)))):=Zhh ((Zn7 r).trans h.perm)
def fPlain:BSp:=λps ds Post=>Pen ps/\∃n ts,ds=[encWeb n ts]/\WebOk n ts/\∀o ps',Pen ps' -> OrdOk n ts o->Post (encOrd o) ps'
def rowsI:D->List (List Int)
 |.lst ds=>ds.map rowI
 |_=>[]
theorem Zjl (R:List (List Int)):rowsI (.lst (R.map rowD))=R:=by
 show (R.map rowD).map rowI=R;rw[Wal];exact(Wa0 (λr _=>Zdb r)).trans (Wdo R)
section
variable {P:Program}{w:World}{K:W.Frag}{mg:Str->Option Value}{base:Heap}{f:Addr}{fd:FuncData}
theorem Zoq (mb:Mb mg) (C24:Callee P w K mg base 2 "_law_order" ["_law_pen_here","_law_web"] (spB K fOrder)) (C21:Callee P w K mg base 1 "_law_draw" ["_law_pen_here","_law_many"] (spB K fDraw)) (C20:Callee P w K mg base 1 "_law_begun" ["_law_row"] (spD K fLeastE)) (F:Fun K "_law_plain_order" "_law_plain_order" s_law_plain_order f fd):FnOk P w K mg base CX0 3 f fd ["_law_pen_here","_law_web"] (spB K fPlain):=by
 refine F.ok sc_law_plain_order (Zdp λps ds Post h=>by obtain⟨_,_,_,rfl,_⟩:=h;rfl) (λcdv A outer s H vs Q E hr h=>?_);have hu:=Zch hr;have hv:=Zm1 hr;refine⟨_,(Zad (Zap (i:=2) sc_law_plain_order.nd rfl (Or.inl rfl) (Za3 C24 (hr.mono (by decide)) (Zaa (pv 0) (Zaa (pv 1) Zac)))) (Zad (Zap (i:=3) sc_law_plain_order.nd rfl (Or.inl rfl) (Za3 C21 (hr.mono (by decide)) (Zaa (pv 0) (Zaa Zaf Zac)))) (Zad (Zcj (Zax Zb1 (pv 3) Zaf (nomark _)) (Zai (Zap (i:=2) sc_law_plain_order.nd rfl (Or.inl rfl) (Za0 (tupK K) rfl (mb "tuple" (by decide)) Zbk (Zaa (Za8 ["_law_row"] (show CompSc (defScope s_law_plain_order) ["_law_pen_here","_law_web","_law_found","_law_way","_law_rows"] _ [] [] from ⟨rfl,by decide +kernel,by decide +kernel,by decide +kernel,rfl,by decide +kernel⟩) rfl (seqK K (pv 2)) (λ_ _ _ _ _=>(Zak (i:=0) (show List.Nodup (["_law_row"]:List Str) from by decide) rfl (Or.inl rfl))) (λ_ _ _ _ _=>Za4) (λ_ _ _ _ _=>(Za0 (tupK K) rfl (mb "tuple" (by decide)) Zbk (Zaa (Zaj (sortTK K) rfl (mb "sorted" (by decide)) Ze9 (Zaa (pv 0) Zac)) Zac)))) Zac)))) Zbd) (Zad (Zcj (Zax Zb1 (pv 3) Zaf (nomark _)) (Zad (Zdc (i:=4) ["_law_row"] (show CompSc (defScope s_law_plain_order) ["_law_pen_here","_law_web","_law_found","_law_way","_law_rows"] _ [] [] from ⟨rfl,by decide +kernel,by decide +kernel,by decide +kernel,rfl,by decide +kernel⟩) rfl sc_law_plain_order.nd rfl (Or.inl rfl) (seqK K (pv 2)) (λ_ _ _ _ _=>(Zak (i:=0) (show List.Nodup (["_law_row"]:List Str) from by decide) rfl (Or.inl rfl))) (λ_ _ _ _ _=>Za4) (λ_ _ _ _ _=>(Zaj (sortGK K hv) rfl (mb "sorted" (by decide)) Ze9 (Zaa (Za8 ["_law_end"] (show CompSc (relab (defScope s_law_plain_order) _) ["_law_row"] _ [] [] from ⟨rfl,by decide +kernel,by decide +kernel,by decide +kernel,rfl,by decide +kernel⟩) rfl (seqK K (pv 0)) (λ_ _ _ _ _=>(Zak (i:=0) (show List.Nodup (["_law_end"]:List Str) from by decide) rfl (Or.inl rfl))) (λ_ _ _ _ _=>Za4) (λ_ _ _ _ _=>(Zby (Zaa (Zar Zb7 (pv 0) Zaf) (Zaa (pv 0) Zac))))) Zac)))) (Zai (Zap (i:=2) sc_law_plain_order.nd rfl (Or.inl rfl) (Za0 (tupK K) rfl (mb "tuple" (by decide)) Zbk (Zaa (Za8 ["_law_row"] (show CompSc (defScope s_law_plain_order) ["_law_pen_here","_law_web","_law_found","_law_way","_law_rows"] _ [] [] from ⟨rfl,by decide +kernel,by decide +kernel,by decide +kernel,rfl,by decide +kernel⟩) rfl (seqK K (pv 4)) (λ_ _ _ _ _=>(Zak (i:=0) (show List.Nodup (["_law_row"]:List Str) from by decide) rfl (Or.inl rfl))) (λ_ _ _ _ _=>Za4) (λ_ _ _ _ _=>(Za3 C20 (hr.mono (by decide)) (Zaa (Za8 ["_law_side","_law_end"] (show CompSc (relab (defScope s_law_plain_order) _) ["_law_row"] _ [] [] from ⟨rfl,by decide +kernel,by decide +kernel,by decide +kernel,rfl,by decide +kernel⟩) rfl (seqK K (pv 0)) (λ_ _ _ _ _=>(gtupK (n:=2) K rfl (Zda (Zak (i:=0) (show List.Nodup (["_law_side","_law_end"]:List Str) from by decide) rfl (Or.inl rfl)) (Zda (Zak (i:=1) (show List.Nodup (["_law_side","_law_end"]:List Str) from by decide) rfl (Or.inl rfl)) Ziq)))) (λ_ _ _ _ _=>Za4) (λ_ _ _ _ _=>(pv 1))) Zac)))) Zac))))) Zbd) (Zai (Zba (pv 2))))))),Zi6 (λps ds Post hf=>?_) h⟩;obtain⟨hp,n,ts,rfl,hW,q⟩:=hf;refine⟨by simp,?_⟩;dsimp only[cxOf,startD,Wbw,Wbq,Wbd,Waj];refine Zam (Zav (Zcf rfl rfl (Zab (Zae rfl (Zag (Zjh rfl rfl hp hW λo ps1 hp1 hO=>?_))))));have hw:=hW.len;have hn:=hW.hi;have ol:=hO.len;have rl:∀(i:Nat) r,o[i]?=some r->r.length<=48:=λi r hr=>by have:=(hO.row i r hr).len;omega
 refine Zam (Zav (Zh6 rfl rfl hp1 (by decide) (by decide) λway ps2 hp2 w0 w1=>?_));refine Zbb (λΔ=>∃o':List (List Int),OrdOk n ts o' /\ (way=1->o'=o) /\ Δ = [.bor (.lst ps2),.val (encWeb n ts),.val (encOrd o'),.val (.int way),.any]) ?_ ?_
 ·refine Zcv (Zd3 rfl (λhz=>iteT ?_) (λ_=>iteF (Zbc ⟨o,hO,λ_=>rfl,rfl⟩)))
  refine Zav (Zbr (Zab (Za7 (by decide) (Zc7 (Zae rfl ⟨_,rfl,by rw[Wab];exact small1000 (by omega),λ_=>true,λd=>rowD (srtI (rowI d)),λi d hd=>?_,?_⟩)))))
  ·rw[Wad]at hd
   cases z:o[i]? with
   |none=>rw[z]at hd;cases hd
   |some r=>
    rw[z]at hd;have hd0:encRow r=d:=by simpa using hd
    have hd:rowD r=d:=hd0;subst hd;have:=rl i r z;refine Za6 ⟨rfl,Zbr (Zab (Zbx (Zox (Zab (Zae rfl (Zag ⟨r,rfl,by omega,λms m1 m2=>⟨_,rfl,Zag (Zb2 (Or.inl rfl) ⟨?_,_,rfl⟩)⟩⟩))))))⟩;show D.tup (ms.map D.int)=rowD (srtI (rowI (rowD r)));rw[Zdb,<- Zme m1 m2];rfl
  have e1:((o.map encRow).filter λ_=>true).map (λd=>rowD (srtI (rowI d)))=(o.map srtI).map encRow:=by
   rw[Wa2.mpr (by simp),Wal,Wal];exact Wa0 λr _=>by show rowD (srtI (rowI (rowD r)))=_;rw[Zdb];rfl
  rw[e1];refine Zag (Zb2 (Or.inl rfl) ⟨o.map srtI,Zmw hO srtI λp r hr=>?_,λe=>by omega,rfl⟩);have R:=hO.row p r hr;have:srtI r=endsBelow ts (2*ts.length) (p:Int):=(Zme R.perm.symm ((Zeg ts _ _).imp λh=>Int.le_of_lt h)).symm;rw[this];exact⟨List.Perm.refl _,rfl⟩
 rintro Δ1 ⟨o1,hO1,e1,rfl⟩;have ol1:=hO1.len;have rl1:∀(i:Nat) r,o1[i]?=some r->r.length<=48:=λi r hr=>by have:=(hO1.row i r hr).len;omega
 refine Zbb (λΔ=>∃(o':List (List Int)) (x4:L2.Slot),OrdOk n ts o' /\ Δ = [.bor (.lst ps2),.val (encWeb n ts),.val (encOrd o'),.val (.int way),x4]) ?_ ?_
 ·refine Zcv (Zd3 rfl (λhz=>iteT ?_) (λ_=>iteF (Zbc ⟨o1,_,hO1,rfl⟩)))
  refine Zam (Zav (Za7 (by decide) (Zc7 (Zae rfl ⟨_,rfl,by rw[Wab];exact small1000 (by omega),λ_=>true,λd=>.lst ((srtP (prs (rowI d))).map rowD),λi d hd=>?_,?_⟩))))
  ·rw[Wad]at hd
   cases z:o1[i]? with
   |none=>rw[z]at hd;cases hd
   |some r=>
    rw[z]at hd;have hd0:encRow r=d:=by simpa using hd
    have hd:rowD r=d:=hd0;subst hd;have:=rl1 i r z;refine Za6 ⟨rfl,Zbx (Znw (Zab (Za7 (by decide) (Zc7 (Zae rfl ⟨_,rfl,by rw[Wab];exact small1000 (by omega),λ_=>true,λd=>rowD [intD d % 2,intD d],λj e he=>?_,?_⟩)))))⟩
    ·rw[Wad]at he
     cases z:r[j]? with
     |none=>rw[z]at he;cases he
     |some x=>
      rw[z]at he;have he:D.int x=e:=by simpa using he
      subst he;exact Za6 ⟨rfl,Zbt (Zab (Zaz (Zae rfl (Zaw (jr_I (show (0:Int)<2 by decide) (Zab (Zae rfl (Zag ⟨Zcb,rfl,_,rfl⟩))))))))⟩
    have e2:((r.map D.int).filter λ_=>true).map (λd=>rowD [intD d % 2,intD d])=(prs r).map rowD:=by
     rw[Wa2.mpr (by simp)];unfold prs;rw[Wal,Wal];rfl
    rw[e2];refine Zag ⟨prs r,Or.inl rfl,by unfold prs;rw[Wab];omega,λms m1 m2=>⟨_,rfl,?_,_,rfl⟩⟩;show D.lst (ms.map rowD)=.lst ((srtP (prs (rowI (rowD r)))).map rowD);rw[Zdb,<- Zq0 m1 m2]
  have e3:((o1.map encRow).filter λ_=>true).map (λd=>D.lst ((srtP (prs (rowI d))).map rowD))=o1.map λr=>.lst ((srtP (prs r)).map rowD):=by
   rw[Wa2.mpr (by simp),Wal];exact Wa0 λr _=>by show D.lst ((srtP (prs (rowI (rowD r)))).map rowD)=_;rw[Zdb]
  rw[e3];refine Zav (Zbr (Zab (Za7 (by decide) (Zcy (Zae rfl ⟨_,Or.inl rfl,by rw[Wab];exact small1000 (by omega),λ_=>true,λd=>rowD (lf (sndR (rowsI d))),λi d hd=>?_,?_⟩)))))
  ·rw[Wad]at hd
   cases z:o1[i]? with
   |none=>rw[z]at hd;cases hd
   |some r=>
    rw[z]at hd;have hd:D.lst ((srtP (prs r)).map rowD)=d:=by simpa using hd
    subst hd;have:=rl1 i r z;have pl:=(Zew (prs r)).length_eq;have pl2:(prs r).length=r.length:=by unfold prs;rw[Wab]
    refine Za6 ⟨rfl,Zbl (Zab (Zok (by decide) (Zcy (Zae rfl ⟨_,Or.inl rfl,by rw[Wab];exact small1000 (by omega),λ_=>true,λd=>.int ((rowI d).getD 1 0),λj e he=>?_,?_⟩))))⟩
    ·rw[Wad]at he
     cases z:(srtP (prs r))[j]? with
     |none=>rw[z]at he;cases he
     |some y=>
      rw[z]at he;have he:rowD y=e:=by simpa using he
      subst he;obtain⟨x,_,rfl⟩:=Wa9.mp ((Zew (prs r)).mem_iff.mp (Wan z));exact⟨_,_,rfl,Za6 ⟨rfl,Zae rfl ⟨rfl,_,_,rfl⟩⟩⟩
    have e4:(((srtP (prs r)).map rowD).filter λ_=>true).map (λd=>D.int ((rowI d).getD 1 0))=(sndR (srtP (prs r))).map D.int:=by
     rw[Wa2.mpr (by simp)];unfold sndR;rw[Wal,Wal];exact Wa0 λy _=>by show D.int ((rowI (rowD y)).getD 1 0)=_;rw[Zdb];rfl
    rw[e4];refine Zag ⟨_,rfl,by unfold sndR;rw[Wab];omega,?_,_,rfl⟩;show encRow _=rowD (lf (sndR (rowsI (.lst ((srtP (prs r)).map rowD)))));rw[Zjl];rfl
  have e5:((o1.map λr=>D.lst ((srtP (prs r)).map rowD)).filter λ_=>true).map (λd=>rowD (lf (sndR (rowsI d))))=(o1.map λr=>lf (sndR (srtP (prs r)))).map encRow:=by
   rw[Wa2.mpr (by simp),Wal,Wal];exact Wa0 λr _=>by show rowD (lf (sndR (rowsI (.lst ((srtP (prs r)).map rowD)))))=_;rw[Zjl];rfl
  rw[e5];exact Zag (Zb2 (Or.inl rfl) ⟨_,_,Zmw hO1 _ λp r hr=>Zpn (hO1.row p r hr),rfl⟩)
 rintro Δ1 ⟨o2,x4,hO2,rfl⟩;exact Zbo (Zae rfl ⟨_,rfl,q o2 ps2 hp2 hO2⟩)
theorem Zns (mb:Mb mg) (F:Fun K "_law_begun" "_law_begun" s_law_begun f fd):FnOk P w K mg base CX0 1 f fd ["_law_row"] (spD K fLeastE):=by
 refine F.ok sc_law_begun (Zcu λds Post h=>by obtain⟨_,rfl,_⟩:=h;rfl) (λcdv A outer s H vs Q E hr h=>?_);have hu:=Zch hr;refine⟨_,(Zad (Zcj (Zax Zb1 (Zaj (lenK K) rfl (mb "len" (by decide)) Zbm (Zaa (pv 0) Zac)) Zaf (nomark _)) (Zai (Zba (Zby Zac))) Zbd) (Zad (Zap (i:=1) sc_law_begun.nd rfl (Or.inl rfl) (bmK K PySem.F.plainAttrs_list PySem.F.slot_list_index PySem.F.type_list_index (idxLK K) (pv 0) (Zaa (Zaj (minK K rfl) rfl (mb "min" (by decide)) Zhp (Zaa (pv 0) Zac)) Zac))) (Zai (Zba (Za0 (tupK K) rfl (mb "tuple" (by decide)) Zbk (Zaa (Zar (addK K) (Zeq (slK K) (pv 0) (Zef (pv 1)) Zgg) (Zeq (slK K) (pv 0) Zgg (Zef (pv 1)))) Zac)))))),Zgj (λds Post hf=>?_) h⟩;obtain⟨ns,rfl,hl,q⟩:=hf;refine⟨by simp,?_⟩;dsimp only[startD,Wbw,Wbq,Wbd];refine Zam (Zcv (Zbh (Zaz (Zbr (Zab (Zae rfl (Zag (Zdn (Or.inl rfl) (Zaw (Zfj ⟨_,rfl,?_⟩))))))))));rw[Wab];by_cases hn:ns=[]
 ·subst hn
  refine iteT (Zbo (Zbt (Zag ⟨by decide,?_⟩)));rw[Zl1]at q;exact q
 ·obtain⟨m,hm,hle⟩:=Zdf ns hn
  obtain⟨i1,i2,i3⟩:=Zat hm;rw[decide_eq_false (by omega)];refine iteF (Zbc ?_);refine Zam (Zav (Zd1 (Zae rfl ⟨ns,rfl,by omega,Zbr (Zab (Zae rfl (Zag (Zqo (Or.inl rfl) hm hle ⟨m,rfl,hm,?_⟩))))⟩)));have hj:ns.idxOf m<=(ns.map D.int).length:=by rw[Wab];omega
  refine Zbo (Zbr (Zab (Zaz (Zn6 (Zae rfl (Zf9 (Zae rfl ⟨_,rfl,Zgx ⟨.lst ((ns.map D.int).drop (ns.idxOf m)),?_,?_⟩⟩)))))))
  ·show some (D.lst (cutD (ns.map D.int) (some ((ns.idxOf m:Nat):Int)) none))=_
   rw[Zo0 _ hj]
  refine Zn6 (Zae rfl (Zgx (Zf9 (Zae rfl ⟨_,rfl,.lst ((ns.map D.int).take (ns.idxOf m)),?_,?_⟩))))
  ·show some (D.lst (cutD (ns.map D.int) none (some ((ns.idxOf m:Nat):Int))))=_
   rw[Zs7 _ hj]
  refine Zpm ?_ (Zag (Zb2 (Or.inl rfl) ?_))
  ·rw[Wbu,Wbt,Wab]
   exact Wb0 (small1000 (by omega))
  rw[Zp9 hm hle]at q;unfold encRow rotAt at q;rw[Wa4,Wc3,Wc2]at q;exact q
theorem Zht {N:Nat}{ts:List (Int × Int)}(hW:WebOk (N:Int) ts):∀k,k<=ts.length->∀g∈marksL N (ts.take k),0<=g/\g<(N:Int)/\(marksL N (ts.take k)).getD g.toNat 0=g
 |0,_,g,hg=>by
  rw[List.take_zero]at hg ⊢;obtain⟨p,hp,rfl⟩:=Wa9.mp hg;rw[Wa5]at hp;exact⟨by omega,by omega,by rw[Wah];exact Zpq hp⟩
 |k+1,hk,g,hg=>by
  have hlt:k<ts.length:=hk;have hl:=Zbv N (ts.take k);have ht:=hW.tie _ (Wa6 hlt);have ih:=Zht hW k (by omega);rw[Zcp (Waa hlt)]at hg ⊢;by_cases c:(marksL N (ts.take k)).getD ts[k].1.toNat 0=(marksL N (ts.take k)).getD ts[k].2.toNat 0
  ·rw[Znk c]at hg ⊢
   exact ih g hg
  ·have G:=Zj7 hl (by omega) (by omega) c
   obtain⟨h1,h2⟩:=G.mem.mp hg;obtain⟨a,b,e⟩:=ih g h1;exact⟨a,b,by rw[G.to _ (by omega),e,if_neg h2]⟩
theorem Zn1 {N M:Nat}{ts us:List (Int × Int)}(hW:WebOk (N:Int) ts) (hV:WebOk (M:Int) us) {f g:Int->Int}(hf:∀p,0<=p->p<(N:Int)->0<=f p/\f p<(M:Int)) (h2:∀u∈us,mk N ts (g u.1)=mk N ts (g u.2)) (h3:∀p,0<=p->p<(N:Int)->mk N ts (g (f p))=mk N ts p)
  {ms ns:List Int}(hm:Firsts ms (marksL N ts)) (hn:Firsts ns (marksL M us)):ms.length<=ns.length:=by
 have rep:∀a∈ms,0<=a/\a<(N:Int)/\mk N ts a=a:=λa ha=>by
  obtain⟨h1,h2,h3⟩:=Zht hW ts.length (Wak _) a (by rw[Wb3];exact(hm.2 a).mp ha);rw[Wb3]at h3;exact⟨h1,h2,h3⟩
 have nd:(ms.map λa=>mk M us (f a)).Nodup:=by
  refine Wb5.mpr (List.Pairwise.imp_of_mem (λ{a b} ha hb hab e=>?_) hm.1);obtain⟨a0,a1,a2⟩:=rep a ha;obtain⟨b0,b1,b2⟩:=rep b hb;have fa:=hf a a0 a1;have fb:=hf b b0 b1;have:=Zly hV (g:=λx=>mk N ts (g x)) h2 fa.1 fa.2 fb.1 fb.2 e;have:mk N ts (g (f a))=mk N ts (g (f b)):=this;rw[h3 a a0 a1,h3 b b0 b1,a2,b2]at this;omega
 have:=Zea nd (l:=ns) λx hx=>by
  obtain⟨a,ha,rfl⟩:=Wa9.mp hx;obtain⟨a0,a1,_⟩:=rep a ha;have fa:=hf a a0 a1;exact(hn.2 _).mpr (Zl5 fa.1 fa.2)
 rwa [Wab]at this
theorem Zca (t:Nat):partner (2*t)=2*t+1/\partner (2*t+1)=2*t:=by
 unfold partner;constructor <;> split <;> omega
end
theorem Zgi {m:Nat}{f:Int->Int}(rg:∀x,0<=x->x<(m:Int)->0<=f x/\f x<(m:Int)) (inj:∀x y,0<=x->x<(m:Int)->0<=y->y<(m:Int)->f x=f y->x=y) {x:Int}(h0:0<=x) (h1:x<(m:Int)):∃y,(0<=y/\y<(m:Int))/\f y=x:=by
 apply Classical.byContradiction;intro hn;have nd:((Wau m).map λk:Nat=>f (k:Int)).Nodup:=by
  rw[Wbc,Wb5];refine List.Pairwise.imp_of_mem (λ{a b} ha hb hab e=>?_) Wb9;have ha:=Wa5.mp ha;have hb:=Wa5.mp hb;have:=inj _ _ (by omega) (by omega) (by omega) (by omega) e;omega
 have:=Zde (l:=x::(Wau m).map λk:Nat=>f (k:Int)) (m:=(Wau m).map λi:Nat=>(i:Int)) (by
  rw[Wb8];refine⟨λz=>?_,nd⟩;obtain⟨k,hk,e⟩:=Wa9.mp z;have hk:=Wa5.mp hk;exact hn ⟨k,⟨by omega,by omega⟩,e⟩) λy hy=>by
   have:0<=y/\y<(m:Int):=by
    rcases Wat.mp hy with rfl|hy
    ·exact⟨h0,h1⟩
    ·obtain⟨k,hk,rfl⟩:=Wa9.mp hy
     have hk:=Wa5.mp hk;exact rg _ (by omega) (by omega)
   exact Wa9.mpr ⟨y.toNat,Wa5.mpr (by omega),by omega⟩
 rw[Wao,Wab,Wab,Wbh]at this;omega
theorem Zoe {α:Type}[DecidableEq α] {l m:List α}(hl:l.Nodup) (hm:m.Nodup) (h:∀x,x∈l↔x∈m):l.Perm m:=by
 rw[List.perm_iff_count];intro a;by_cases c:a∈l
 ·rw[hl.count,hm.count,if_pos c,if_pos ((h a).mp c)]
 ·rw[hl.count,hm.count,if_neg c,if_neg λz=>c ((h a).mpr z)]
structure Rn (N:Nat) (ts:List (Int × Int)) (o:List (List Int)) (ts':List (Int × Int)) (o':List (List Int)) (ν π:Int->Int):Prop where
 len:ts'.length=ts.length
 vr:∀x,InE ts.length x->InE ts.length (ν x)
 vi:∀x y,InE ts.length x->InE ts.length y -> ν x = ν y->x=y
 vp:∀x,InE ts.length x -> ν (pI x)=pI (ν x)
 pr:∀p,0<=p->p<(N:Int)->0 <= π p /\ π p<(N:Int)
 pi:∀p q,0<=p->p<(N:Int)->0<=q->q<(N:Int) -> π p = π q->p=q
 pl:∀e:Nat,e<2*ts.length->placeAt ts' (ν (e:Int)).toNat = π (placeAt ts e)
 ol:o'.length=N
 ow:∀(p:Nat) r,o[p]?=some r->o'[(π (p:Int)).toNat]?=some (lf (r.map ν))
section
variable {N:Nat}{ts:List (Int × Int)}{o:List (List Int)}{ts':List (Int × Int)}{o':List (List Int)}{ν π:Int->Int}(hW:WebOk (N:Int) ts) (hO:OrdOk (N:Int) ts o) (h:Rn N ts o ts' o' ν π)
include hW h
theorem Zmy {x:Int}(hx:InE ts.length x):∃e:Nat,e<2*ts.length /\ ν (e:Int)=x:=by
 obtain⟨y,hy,e⟩:=Zgi (m:=2*ts.length) (f:=ν) (λx a b=>h.vr x ⟨a,b⟩) (λx y a b c d=>h.vi x y ⟨a,b⟩ ⟨c,d⟩) hx.1 hx.2;exact⟨y.toNat,by have:=hy.1;have:=hy.2;omega,by rw[Wca hy.1];exact e⟩
theorem Zjb {k:Nat}(hk:k<2*ts.length):0<=placeAt ts' k/\placeAt ts' k<(N:Int):=by
 obtain⟨e,he,ee⟩:=Zmy hW h (Zcm hk);have:=h.pl e he;rw[ee,Wah]at this;rw[this];obtain⟨p0,p1⟩:=Zcd hW he;exact h.pr _ p0 p1
theorem Zpi:WebOk (N:Int) ts':=by
 refine⟨hW.lo,hW.hi,by rw[h.len];exact hW.len,λt ht=>?_⟩;obtain⟨k,hk,e⟩:=Wcl.mp ht;have hk2:=hk;rw[h.len]at hk2;have a:=Zjb hW h (k:=2*k) (by omega);have b:=Zjb hW h (k:=2*k+1) (by omega);have ea:placeAt ts' (2*k)=t.1:=by
  unfold placeAt;rw[show 2*k / 2=k by omega,Waa hk,e];simp
 have eb:placeAt ts' (2*k+1)=t.2:=by
  unfold placeAt;rw[show (2*k+1) / 2=k by omega,Waa hk,e];simp[show (2*k+1) % 2=1 by omega]
 rw[ea]at a;rw[eb]at b;exact⟨a.1,a.2,b.1,b.2⟩
include hO
theorem Zsm {p:Nat}{r:List Int}(hr:o[p]?=some r):RowOk ts' (2*ts'.length) (π (p:Int)) (lf (r.map ν)):=by
 have R:=hO.row p r hr;have hp:p<N:=by have:=(Waf.mp hr).1;have:=hO.len;omega
 refine Zhh (Zoe ?_ ?_ λx=>?_)
 ·rw[Wbc,Wb5]
  refine List.Pairwise.imp_of_mem (λ{a b} ha hb hab e=>hab ?_) (Wbc.mp R.nodup);obtain⟨i,hi,_,rfl⟩:=R.mem.mp ha;obtain⟨j,hj,_,rfl⟩:=R.mem.mp hb;exact h.vi _ _ (Zcm hi) (Zcm hj) e
 ·unfold endsBelow
  rw[Wbc,Wb5];exact(List.Pairwise.filter _ Wb9).imp λz=>by omega
 ·rw[h.len]
  unfold endsBelow;rw[Wa9,Wa9];constructor
  ·rintro⟨y,hy,rfl⟩
   obtain⟨i,hi,hpi,rfl⟩:=R.mem.mp hy;obtain⟨k,ek,hk⟩:=Zce (h.vr _ (Zcm hi));refine⟨k,Wbn.mpr ⟨Wa5.mpr hk,decide_eq_true ?_⟩,ek.symm⟩;have:=h.pl i hi;rw[ek,Wah]at this;rw[this,hpi]
  ·rintro⟨k,hk,rfl⟩
   obtain⟨k1,k2⟩:=Wbn.mp hk;have k1:=Wa5.mp k1;have k2:=of_decide_eq_true k2;obtain⟨e,he,ee⟩:=Zmy hW h (Zcm k1);refine⟨e,R.mem.mpr ⟨e,he,?_,rfl⟩,ee⟩;have:=h.pl e he;rw[ee,Wah,k2]at this;obtain⟨p0,p1⟩:=Zcd hW he;exact(h.pi _ _ (by omega) (by omega) p0 p1 this).symm
theorem Zsd:OrdOk (N:Int) ts' o':=by
 refine⟨by rw[h.ol],λq r hr=>?_⟩;have hq:q<N:=by have:=(Waf.mp hr).1;rw[h.ol]at this;exact this
 obtain⟨p,hp,ep⟩:=Zgi (m:=N) (f:=π) h.pr h.pi (show 0<=(q:Int) by omega) (show (q:Int)<(N:Int) by omega);obtain⟨p,rfl⟩:∃k:Nat,p=(k:Int):=⟨p.toNat,by omega⟩;have hpl:p<o.length:=by have:=hO.len;omega
 have w:=h.ow p _ (Waa hpl);rw[ep,Wah,hr]at w;rw[Wa7.inj w,<- ep];exact Zsm hW hO h (Waa hpl)
theorem Zr4 (h1:OneP N ts):OneP N ts':=by
 have hV:=Zpi hW h;intro ms hm;obtain⟨ns,hn⟩:=Zet (marksL N ts);have back:∀p:Int,0<=p->p<(N:Int)->∃q,(0<=q/\q<(N:Int)) /\ π q=p:=λp a b=>Zgi (m:=N) (f:=π) h.pr h.pi a b
 let f:Int->Int:=λp=>by classical exact if c:∃q,(0<=q/\q<(N:Int)) /\ π q=p then Classical.choose c else 0
 have fk:∀p,0<=p->p<(N:Int)->(0<=f p/\f p<(N:Int)) /\ π (f p)=p:=λp a b=>by
  have c:=back p a b;have:f p=Classical.choose c:=dif_pos c;rw[this];exact Classical.choose_spec c
 have:=Zn1 hV hW (f:=f) (g:=π) (λp a b=>(fk p a b).1) (λu hu=>?_) (λp a b=>by rw[(fk p a b).2]) hm hn
 ·have:=h1 ns hn
  omega
 ·obtain⟨k,hk,e⟩:=Wcl.mp hu
  have ea:placeAt ts (2*k)=u.1:=by
   unfold placeAt;rw[show 2*k / 2=k by omega,Waa hk,e];simp
  have eb:placeAt ts (2*k+1)=u.2:=by
   unfold placeAt;rw[show (2*k+1) / 2=k by omega,Waa hk,e];simp[show (2*k+1) % 2=1 by omega]
  have ha:=h.pl (2*k) (by omega);have hb:=h.pl (2*k+1) (by omega);rw[ea]at ha;rw[eb]at hb;rw[<- ha,<- hb];have vp:=h.vp _ (Zcm (show 2*k<2*ts.length by omega));have pk:pI ((2*k:Nat):Int)=((2*k+1:Nat):Int):=by unfold pI;rw[Wah,(Zca k).1]
  rw[pk]at vp;rw[vp];obtain⟨j,ej,hj⟩:=Zce (h.vr _ (Zcm (show 2*k<2*ts.length by omega)));rw[ej];unfold pI;rw[Wah,Wah]
  -- both ends of tie j / 2
  have hj2:j / 2<ts'.length:=by rw[h.len];omega
  have tm:ts'[j / 2]∈ts':=Wa6 hj2;have m:=Zo5 hV tm;have pa:placeAt ts' (2*(j / 2))=ts'[j / 2].1:=by
   unfold placeAt;rw[show 2*(j / 2) / 2=j / 2 by omega,Waa hj2];simp
  have pb:placeAt ts' (2*(j / 2)+1)=ts'[j / 2].2:=by
   unfold placeAt;rw[show (2*(j / 2)+1) / 2=j / 2 by omega,Waa hj2];simp[show (2*(j / 2)+1) % 2=1 by omega]
  by_cases c:j % 2=0
  ·have e1:j=2*(j / 2):=by omega
   have:partner j=2*(j / 2)+1:=by rw[e1,(Zca (j / 2)).1];omega
   rw[this,pb];rw[show placeAt ts' j=ts'[j / 2].1 by rw[<- pa,<- e1]];exact m
  ·have e1:j=2*(j / 2)+1:=by omega
   have:partner j=2*(j / 2):=by rw[e1,(Zca (j / 2)).2];omega
   rw[this,pa];rw[show placeAt ts' j=ts'[j / 2].2 by rw[<- pb,<- e1]];exact m.symm
end
def fShuf:BSp:=λps ds Post=>Pen ps/\∃m:Nat,ds=[.int (m:Int)]/\m<=25/\∀(l:List Int) ps',Pen ps' -> l.Perm ((Wau m).map λi:Nat=>(i:Int))->Post (.lst (l.map .int)) ps'
theorem Zm5 {Δ1:Evt}{i:Nat}{y:L2.Slot}{ps:List D}{m:Nat}{P:D->Evt->Prop}(hx:Δ1[i]?=some y) (ho:y.od=some (.lst ps)) (hp:Pen ps) (h1:m<=25) (h:∀(l:List Int) ps',Pen ps' -> l.Perm ((Wau m).map λi:Nat=>(i:Int))->P (.lst (l.map .int)) (Δ1.set i (y.put (.lst ps')))) :
  LendQ fShuf i P [.int (m:Int)] Δ1:=⟨y,ps,hx,ho,hp,m,rfl,h1,h⟩
theorem Zjz {α:Type}(l:List α) (j:Nat) (x:α):(l.take j++x::l.drop j).Perm (l++[x]):=by
 refine List.perm_middle.trans ?_;rw[Wch];exact(List.perm_append_singleton _ _).symm
section
variable {P:Program}{w:World}{K:W.Frag}{mg:Str->Option Value}{base:Heap}{f:Addr}{fd:FuncData}
theorem Zq7 (mb:Mb mg) (C21:Callee P w K mg base 1 "_law_draw" ["_law_pen_here","_law_many"] (spB K fDraw)) (F:Fun K "_law_shuffled" "_law_shuffled" s_law_shuffled f fd):FnOk P w K mg base CX0 2 f fd ["_law_pen_here","_law_many"] (spB K fShuf):=by
 refine F.ok sc_law_shuffled (Zdp λps ds Post h=>by obtain⟨_,_,rfl,_⟩:=h;rfl) (λcdv A outer s H vs Q E hr h=>?_);have hu:=Zch hr;refine⟨_,(Zad (Zap (i:=2) sc_law_shuffled.nd rfl (Or.inl rfl) (Zcc Zac)) (Zad (Zcx PassesOwn.never rfl (Za2 rfl (mb "range" (by decide)) (Zaa (pv 1) Zac)) (Zak (i:=3) sc_law_shuffled.nd rfl (Or.inl rfl)) (Zai (Zb4 (bmK K PySem.F.plainAttrs_list PySem.F.slot_list_insert PySem.F.type_list_insert Zd0 (pv 2) (Zaa (Za3 C21 (hr.mono (by decide)) (Zaa (pv 0) (Zaa (Zar (addK K) (pv 3) Zaf) Zac))) (Zaa (pv 3) Zac)))))) (Zai (Zba (pv 2))))),Zi6 (λps ds Post hf=>?_) h⟩;obtain⟨hp,m,rfl,hm,q⟩:=hf;refine⟨by simp,?_⟩;dsimp only[cxOf,startD,Wbw,Wbq,Wbd,Waj];refine Zam (Zdu (Zdi (Zag ⟨by decide,?_⟩)));refine Zbb (λΔ=>∃(psx:List D) (l:List Int) (x3:L2.Slot),Pen psx/\l.Perm ((Wau m).map λi:Nat=>(i:Int)) /\ Δ = [.bor (.lst psx),.val (.int (m:Int)),.own (.lst (l.map .int)),x3]) ?_ ?_
 ·refine Zc0 (Za1 (Zab (Zae rfl (Zag ⟨_,rfl,by omega,by omega,?_⟩))))
  rw[Wah];refine⟨λi Δ=>∃(psx:List D) (l:List Int) (x3:L2.Slot),Pen psx/\l.Perm ((Wau i).map λi:Nat=>(i:Int)) /\ Δ = [.bor (.lst psx),.val (.int (m:Int)),.own (.lst (l.map .int)),x3],⟨ps,[],.any,hp,List.Perm.refl _,rfl⟩,?_,?_⟩
  ·rintro i d Δ2 hd ⟨psx,l,x3,hpx,hl,rfl⟩
   obtain⟨hi,rfl⟩:=Zbj hd;rw[Wbj];have hyl:=hl.length_eq;rw[Wab,Wbh]at hyl;refine Zb0 (Zlu rfl rfl (Zcf rfl rfl (Zab (Za9 (Zbw (Zah rfl) Zay Zcw) (Zag (Zbz rfl rfl hpx (by omega) (by omega) λr ps' hp' hr0 hr1=>?_))))));refine Zae rfl ⟨_,r,l.map D.int,rfl,rfl,rfl,by rw[Wab];exact small1000 (by omega),by omega,by omega,ps',l.take (insI (l.map D.int).length r)++(i:Int)::l.drop (insI (l.map D.int).length r),.val (.int (i:Int)),hp',?_,?_⟩
   ·rw[List.range_succ,Wa4]
    exact(Zjz l _ _).trans (List.Perm.append_right _ hl)
   ·rw[Wa4,Wc2,Wbe,Wc3];rfl
  ·rintro Δ2 ⟨psx,l,x3,hpx,hl,rfl⟩
   rw[Zau]at hl;exact⟨psx,l,x3,hpx,hl,rfl⟩
 rintro Δ1 ⟨psx,l,x3,hpx,hl,rfl⟩;exact Zbo (Zgw rfl ⟨_,rfl,q l _ hpx hl⟩)
end
def nSt (R:Evt) (cs:List (Addr × List Int)) (m:Nat):Evt:=R++(cs.map (λc=>L2.Slot.ownA c.1 (.lst (c.2.map D.int)))++Waj m .any)
theorem Zfv {R:Evt}{as:List Addr}{rows:List (List Int)}{T:Nat}(hl:as.length=rows.length) (hT:rows.length<=T):L2.putN R.length (as.zip (rows.map λr=>OD.lst (r.map D.int))) (R++Waj T .any)=nSt R (as.zip rows) (T-rows.length):=by
 have e:as.zip (rows.map λr=>OD.lst (r.map D.int))=(as.zip rows).map λc=>(c.1,OD.lst (c.2.map D.int)):=by
  rw[List.zip_map_right];rfl
 have zl:(as.zip rows).length=rows.length:=by rw[List.length_zip,hl,Wc0]
 have:=Zif ((as.zip rows).map λc=>(c.1,OD.lst (c.2.map D.int))) R [] T (by rw[Wab];omega);rw[Wbf,Wbf,Wal,Wab,zl]at this;rw[e,this];unfold nSt;rw[Wb7];rfl
theorem Zmd {R:Evt}{cs:List (Addr × List Int)}{m p n:Nat}{c:Addr × List Int}(hn:n=R.length) (h:cs[p]?=some c):(nSt R cs m)[n+p]?=some (.ownA c.1 (.lst (c.2.map D.int))):=by
 subst hn;unfold nSt;rw[Wax (by omega),Wct,Wa8 (by rw[Wab];exact(Waf.mp h).1),Wad,h];rfl
theorem Zit {R:Evt}{cs:List (Addr × List Int)}{m p n:Nat}{a:Addr}{r:List Int}(hn:n=R.length) (h:p<cs.length):(nSt R cs m).set (n+p) (.ownA a (.lst (r.map D.int)))=nSt R (cs.set p (a,r)) m:=by
 subst hn;unfold nSt;rw[Wdg _ _ (by omega),Wct,Wdk _ _ (by rw[Wab];exact h),Wc7]
theorem Zml {α β:Type}{as:List α}{bs:List β}(h:as.length=bs.length):(as.zip bs).map (·.1)=as:=Wdz (by omega)
theorem Zk1 {cs:List (Addr × List Int)}{p:Nat}{c:Addr × List Int}(h:cs[p]?=some c) (r:List Int):(cs.set p (c.1,r)).map (·.1)=cs.map (·.1):=by
 rw[Wc7];apply Wb6;intro i;have hp:=(Waf.mp h).1;by_cases hi:i=p
 ·subst hi
  rw[Wai (by rw[Wab];exact hp),Wad,h];rfl
 ·rw[Wap (Ne.symm hi)]
section
variable {K:W.Frag}
theorem Zid {t:TS}{R:Evt}{cs:List (Addr × List Int)}{m i:Nat}{P:L2.Pst}(hi:R[i]?=some (.val (.lst ((cs.map (·.1)).map D.adr)))) (h:JS K t (R.set i (.val (.lst (cs.map λc=>D.lst (c.2.map D.int))))++(Waj cs.length .any++Waj m .any)) P):JS K t (nSt R cs m) P:=by
 refine JS.conv (Δ':=R.set i (.val (.lst (cs.map λc=>D.lst (c.2.map D.int))))++(Waj cs.length .any++Waj m .any)) (λg G H σ k=>?_) h;have:=Ok.thaw (cs:=cs.map λc=>(c.1,c.2.map D.int)) (R:=R) (T:=Waj m .any) (i:=i) (g:=g) (G:=G) (H:=H) (σ:=σ) (K:=K) (by rw[Wal,Wb7];exact k) (by rw[hi,Wal,Wal];rfl);rw[Wal,Wab,Wb7]at this;exact this
end
def nuF (nl tl:List Int) (x:Int):Int:=2*nl.getD (x.toNat / 2) 0+(x+tl.getD (x.toNat / 2) 0) % 2
def atF (l:List Int) (x:Int):Int:=l.getD x.toNat 0
theorem Zex {l:List Int}{m:Nat}(h:l.Perm ((Wau m).map λi:Nat=>(i:Int))):l.length=m/\(∀k,k<m->0<=l.getD k 0/\l.getD k 0<(m:Int))/\∀i j,i<m->j<m->l.getD i 0=l.getD j 0->i=j:=by
 have hl:l.length=m:=by rw[h.length_eq,Wab,Wbh]
 have nd:l.Nodup:=by
  rw[h.nodup_iff,Wbc,Wb5];exact Wb9.imp λh=>by omega
 have gt:∀k,k<m->l[k]?=some (l.getD k 0):=λk hk=>by rw[Wac,Waa (by omega)];rfl
 refine⟨hl,λk hk=>?_,λi j hi hj e=>?_⟩
 ·have:=h.mem_iff.mp (Wan (gt k hk))
  obtain⟨i,hi,e⟩:=Wa9.mp this;have:=Wa5.mp hi;omega
 ·have a:=Zdk nd (gt i hi)
  have b:=Zdk nd (gt j hj);rw[e]at a;omega
structure NuOk (L:Nat) (nl tl:List Int):Prop where
 n:nl.Perm ((Wau L).map λi:Nat=>(i:Int))
 tn:tl.length=L
 t:∀k,k<L->tl.getD k 0=0\/tl.getD k 0=1
theorem Zen {L:Nat}{nl tl:List Int}(h:NuOk L nl tl) {k:Nat}(hk:k<2*L):InE L (nuF nl tl (k:Int))/\(nuF nl tl (k:Int)).toNat / 2=(nl.getD (k / 2) 0).toNat/\(((nuF nl tl (k:Int)).toNat % 2:Nat):Int)=((k:Int)+tl.getD (k / 2) 0) % 2:=by
 obtain⟨_,rg,_⟩:=Zex h.n;have r:=rg (k / 2) (by omega);unfold nuF InE;rw[Wah];omega
theorem Zo7 {L:Nat}{nl tl:List Int}(h:NuOk L nl tl) {j k:Nat}(hj:j<2*L) (hk:k<2*L) (e:nuF nl tl (j:Int)=nuF nl tl (k:Int)):j=k:=by
 obtain⟨_,rg,inj⟩:=Zex h.n;have rj:=rg (j / 2) (by omega);have rk:=rg (k / 2) (by omega);unfold nuF at e;rw[Wah,Wah]at e;have:j / 2=k / 2:=inj _ _ (by omega) (by omega) (by omega);rw[this]at e;omega
theorem Ztx {L:Nat}{nl tl:List Int}(h:NuOk L nl tl) {k:Nat}(hk:k<2*L):nuF nl tl (pI (k:Int))=pI (nuF nl tl (k:Int)):=by
 have t:=h.t (k / 2) (by omega);obtain⟨_,rg,_⟩:=Zex h.n;have r:=rg (k / 2) (by omega);have pt:∀j:Nat,partner j / 2=j / 2/\partner j % 2=1-j % 2:=λj=>by
  by_cases c:j % 2=0
  ·have e1:j=2*(j / 2):=by omega
   have:=(Zca (j / 2)).1;rw[<- e1]at this;rw[this];omega
  ·have e1:j=2*(j / 2)+1:=by omega
   have:=(Zca (j / 2)).2;rw[<- e1]at this;rw[this];omega
 unfold pI;rw[Wah];have p1:=pt k;have p2:=pt (nuF nl tl (k:Int)).toNat;obtain⟨_,q1,q2⟩:=Zen h hk;have e1:nuF nl tl ((partner k:Nat):Int)=2*nl.getD (k / 2) 0+(((partner k:Nat):Int)+tl.getD (k / 2) 0) % 2:=by unfold nuF;rw[Wah,p1.1]
 rw[e1];omega
theorem Zgy {l:List Int}{i:Nat}{x:Int}(h:i<l.length) (e:x=(i:Int)):atI (l.map D.int) x=some (.int (l.getD i 0)):=by
 subst e;exact Zbi (by rw[Wad,Waa h,Wac,Waa h];rfl)
structure TieI (ts:List (Int × Int)) (ν π:Int->Int) (as:List Addr) (k:Nat) (cs:List (Addr × List Int)):Prop where
 as:cs.map (·.1)=as
 len:cs.length=ts.length
 two:∀(j:Nat) c,cs[j]?=some c->c.2.length=2
 told:∀e:Nat,e<k->∃c,cs[(ν (e:Int)).toNat / 2]?=some c/\c.2[(ν (e:Int)).toNat % 2]?=some (π (placeAt ts e))
section
variable {P:Program}{w:World}{K:W.Frag}{mg:Str->Option Value}{base:Heap}{f:Addr}{fd:FuncData}
def fRenw:BSp:=λps ds Post=>Pen ps/\∃(N:Nat) (ts:List (Int × Int)) (o:List (List Int)),ds=[encWeb (N:Int) ts,encOrd o]/\WebOk (N:Int) ts/\OrdOk (N:Int) ts o/\∀(ts':List (Int × Int)) (o':List (List Int)) (ν π:Int->Int) ps',Pen ps' -> Rn N ts o ts' o' ν π -> Post (.tup [encWeb (N:Int) ts',encOrd o',rowD (rowOf ν ts.length)]) ps'
def rR (ps:List D) (N:Nat) (ts:List (Int × Int)) (o:List (List Int)) (nl tl pl:List Int) (as:List Addr) (x9 x10:L2.Slot):Evt:=[.bor (.lst ps),.val (encWeb (N:Int) ts),.val (encOrd o),.val (.int (ts.length:Int)),.val (.lst (nl.map .int)),.val (.lst (tl.map .int)),.val (.lst (pl.map .int)),.val (.lst ((rowOf (nuF nl tl) ts.length).map .int)),.val (.lst (as.map D.adr)),x9,x10,.any,.any]
def rS (ps:List D) (N:Nat) (ts:List (Int × Int)) (o:List (List Int)) (nl tl pl:List Int) (td:List D) (x9 x10:L2.Slot) (x11 x12:L2.Slot) (T:Evt):Evt:=[.bor (.lst ps),.val (encWeb (N:Int) ts),.val (encOrd o),.val (.int (ts.length:Int)),.val (.lst (nl.map .int)),.val (.lst (tl.map .int)),.val (.lst (pl.map .int)),.val (.lst ((rowOf (nuF nl tl) ts.length).map .int)),.val (.lst td),x9,x10,x11,x12]++T
theorem Zqx (mb:Mb mg) (C21:Callee P w K mg base 1 "_law_draw" ["_law_pen_here","_law_many"] (spB K fDraw)) (C28:Callee P w K mg base 2 "_law_shuffled" ["_law_pen_here","_law_many"] (spB K fShuf)) (C20:Callee P w K mg base 1 "_law_begun" ["_law_row"] (spD K fLeastE)) (F:Fun K "_law_renamed" "_law_renamed" s_law_renamed f fd):FnOk P w K mg base CX0 3 f fd ["_law_pen_here","_law_web","_law_order_here"] (spB K fRenw):=by
 refine F.ok sc_law_renamed (Zdp λps ds Post h=>by obtain⟨_,_,_,_,rfl,_⟩:=h;rfl) (λcdv A outer s H vs Q E hr h=>?_);have hu:=Zch hr;refine⟨_,(Zad (Zap (i:=3) sc_law_renamed.nd rfl (Or.inl rfl) (Zaj (lenK K) rfl (mb "len" (by decide)) Zbm (Zaa (Zan (ixK K hu) (pv 1) Zaf (λ_ _=>rfl)) Zac))) (Zad (Zap (i:=4) sc_law_renamed.nd rfl (Or.inr rfl) (Za3 C28 (hr.mono (by decide)) (Zaa (pv 0) (Zaa (pv 3) Zac)))) (Zad (Zap (i:=5) sc_law_renamed.nd rfl (Or.inr rfl) (Za8 ["_law_k"] (show CompSc (defScope s_law_renamed) ("_law_pen_here" :: "_law_web" :: "_law_order_here" :: "_law_count" :: "_law_numbers" :: "_law_turned" :: "_law_places" :: "_law_names" :: "_law_ties" :: "_law_end" :: "_law_tie" :: "_law_rows" :: "_law_place" :: "!0" :: "!1" :: "!2" :: "!3" :: "!4" :: "!5" :: "!6" :: "!7" :: "!8" :: "!9" :: "!10" :: "!11" :: "!12" :: "!13" :: "!14" :: "!15" :: "!16" :: "!17" :: "!18" :: "!19" :: "!20" :: "!21" :: "!22" :: "!23" :: []) _ ["_law_pen_here"] [0] from ⟨rfl,by decide +kernel,by decide +kernel,by decide +kernel,rfl,by decide +kernel⟩) rfl (Za2 rfl (mb "range" (by decide)) (Zaa (pv 3) Zac)) (λ_ _ _ _ _=>(Zak (i:=0) (show List.Nodup (["_law_k","_law_pen_here"]:List Str) from by decide) rfl (Or.inl rfl))) (λ_ _ _ _ _=>Za4) (λ_ _ _ _ _=>(Za3 C21 (hr.mono (by decide)) (Zaa (pv 1) (Zaa Zaf Zac)))))) (Zad (Zap (i:=6) sc_law_renamed.nd rfl (Or.inl rfl) (Za3 C28 (hr.mono (by decide)) (Zaa (pv 0) (Zaa (Zan (ixK K hu) (pv 1) Zaf (λ_ _=>rfl)) Zac)))) (Zad (Zap (i:=7) sc_law_renamed.nd rfl (Or.inr rfl) (Za8 ["_law_end"] (show CompSc (defScope s_law_renamed) ("_law_pen_here" :: "_law_web" :: "_law_order_here" :: "_law_count" :: "_law_numbers" :: "_law_turned" :: "_law_places" :: "_law_names" :: "_law_ties" :: "_law_end" :: "_law_tie" :: "_law_rows" :: "_law_place" :: "!0" :: "!1" :: "!2" :: "!3" :: "!4" :: "!5" :: "!6" :: "!7" :: "!8" :: "!9" :: "!10" :: "!11" :: "!12" :: "!13" :: "!14" :: "!15" :: "!16" :: "!17" :: "!18" :: "!19" :: "!20" :: "!21" :: "!22" :: "!23" :: []) _ ["_law_numbers","_law_turned"] [4,5] from ⟨rfl,by decide +kernel,by decide +kernel,by decide +kernel,rfl,by decide +kernel⟩) rfl (Za2 rfl (mb "range" (by decide)) (Zaa (Zar Zc8 Zaf (pv 3)) Zac)) (λ_ _ _ _ _=>(Zak (i:=0) (show List.Nodup (["_law_end","_law_numbers","_law_turned"]:List Str) from by decide) rfl (Or.inl rfl))) (λ_ _ _ _ _=>Za4) (λ_ _ _ _ _=>(Zar (addK K) (Zar Zc8 Zaf (Zan (ixK K hu) (pv 1) (Zar Zd9 (pv 0) Zaf) (λ_ _=>rfl))) (Zar Zb7 (Zar (addK K) (pv 0) (Zan (ixK K hu) (pv 2) (Zar Zd9 (pv 0) Zaf) (λ_ _=>rfl))) Zaf))))) (Zad (Zgr 13 (show ∀x∈(("_law_pen_here" :: "_law_web" :: "_law_order_here" :: "_law_count" :: "_law_numbers" :: "_law_turned" :: "_law_places" :: "_law_names" :: "_law_ties" :: "_law_end" :: "_law_tie" :: "_law_rows" :: "_law_place" :: "!0" :: "!1" :: "!2" :: "!3" :: "!4" :: "!5" :: "!6" :: "!7" :: "!8" :: "!9" :: "!10" :: "!11" :: "!12" :: "!13" :: "!14" :: "!15" :: "!16" :: "!17" :: "!18" :: "!19" :: "!20" :: "!21" :: "!22" :: "!23" :: []):List Str).drop 13,(defScope s_law_renamed).names.lookup x=none from by decide +kernel) (Zdc (i:=8) ["_law_k"] (show CompSc (defScope s_law_renamed) ("_law_pen_here" :: "_law_web" :: "_law_order_here" :: "_law_count" :: "_law_numbers" :: "_law_turned" :: "_law_places" :: "_law_names" :: "_law_ties" :: "_law_end" :: "_law_tie" :: "_law_rows" :: "_law_place" :: "!0" :: "!1" :: "!2" :: "!3" :: "!4" :: "!5" :: "!6" :: "!7" :: "!8" :: "!9" :: "!10" :: "!11" :: "!12" :: "!13" :: "!14" :: "!15" :: "!16" :: "!17" :: "!18" :: "!19" :: "!20" :: "!21" :: "!22" :: "!23" :: []) _ [] [] from ⟨rfl,by decide +kernel,by decide +kernel,by decide +kernel,rfl,by decide +kernel⟩) rfl sc_law_renamed.nd rfl (Or.inl rfl) (Za2 rfl (mb "range" (by decide)) (Zaa (pv 3) Zac)) (λ_ _ _ _ _=>(Zak (i:=0) (show List.Nodup (["_law_k"]:List Str) from by decide) rfl (Or.inl rfl))) (λ_ _ _ _ _=>Za4) (λ_ _ _ _ _=>(Zcc (Zaa Zaf (Zaa Zaf Zac)))))) (Zad (Zcx PassesOwn.never rfl (Za2 rfl (mb "range" (by decide)) (Zaa (Zar Zc8 Zaf (pv 3)) Zac)) (Zak (i:=9) sc_law_renamed.nd rfl (Or.inl rfl)) (Zad (Zap (i:=10) sc_law_renamed.nd rfl (Or.inl rfl) (Zan (ixK K hu) (pv 8) (Zar Zd9 (Zan (ixK K hu) (pv 7) (pv 9) (λ_ _=>rfl)) Zaf) (λ_ _=>rfl))) (Zai (Zf5 (Zan (ixK K hu) (pv 6) (Zan (ixK K hu) (Zan (ixK K hu) (Zan (ixK K hu) (pv 1) Zaf (λ_ _=>rfl)) (Zar Zd9 (pv 9) Zaf) (λ_ _=>rfl)) (Zar Zb7 (pv 9) Zaf) (λ_ _=>rfl)) (λ_ _=>rfl)) (Zia (pv 10) (Zar Zb7 (Zan (ixK K hu) (pv 7) (pv 9) (λ_ _=>rfl)) Zaf) (setU hu)))))) (Zad (Zdc (i:=11) ["_law_place"] (show CompSc (defScope s_law_renamed) ("_law_pen_here" :: "_law_web" :: "_law_order_here" :: "_law_count" :: "_law_numbers" :: "_law_turned" :: "_law_places" :: "_law_names" :: "_law_ties" :: "_law_end" :: "_law_tie" :: "_law_rows" :: "_law_place" :: "!0" :: "!1" :: "!2" :: "!3" :: "!4" :: "!5" :: "!6" :: "!7" :: "!8" :: "!9" :: "!10" :: "!11" :: "!12" :: "!13" :: "!14" :: "!15" :: "!16" :: "!17" :: "!18" :: "!19" :: "!20" :: "!21" :: "!22" :: "!23" :: []) _ [] [] from ⟨rfl,by decide +kernel,by decide +kernel,by decide +kernel,rfl,by decide +kernel⟩) rfl sc_law_renamed.nd rfl (Or.inl rfl) (seqK K (pv 6)) (λ_ _ _ _ _=>(Zak (i:=0) (show List.Nodup (["_law_place"]:List Str) from by decide) rfl (Or.inl rfl))) (λ_ _ _ _ _=>Za4) (λ_ _ _ _ _=>(Zby Zac))) (Zad (Zcx PassesOwn.never rfl (Za2 rfl (mb "range" (by decide)) (Zaa (Zan (ixK K hu) (pv 1) Zaf (λ_ _=>rfl)) Zac)) (Zak (i:=12) sc_law_renamed.nd rfl (Or.inl rfl)) (Zai (Zf5 (Za3 C20 (hr.mono (by decide)) (Zaa (Za8 ["_law_end"] (show CompSc (defScope s_law_renamed) ("_law_pen_here" :: "_law_web" :: "_law_order_here" :: "_law_count" :: "_law_numbers" :: "_law_turned" :: "_law_places" :: "_law_names" :: "_law_ties" :: "_law_end" :: "_law_tie" :: "_law_rows" :: "_law_place" :: "!0" :: "!1" :: "!2" :: "!3" :: "!4" :: "!5" :: "!6" :: "!7" :: "!8" :: "!9" :: "!10" :: "!11" :: "!12" :: "!13" :: "!14" :: "!15" :: "!16" :: "!17" :: "!18" :: "!19" :: "!20" :: "!21" :: "!22" :: "!23" :: []) _ ["_law_names"] [7] from ⟨rfl,by decide +kernel,by decide +kernel,by decide +kernel,rfl,by decide +kernel⟩) rfl (seqK K (Zan (ixK K hu) (pv 2) (pv 12) (λ_ _=>rfl))) (λ_ _ _ _ _=>(Zak (i:=0) (show List.Nodup (["_law_end","_law_names"]:List Str) from by decide) rfl (Or.inl rfl))) (λ_ _ _ _ _=>Za4) (λ_ _ _ _ _=>(Zan (ixK K hu) (pv 1) (pv 0) (λ_ _=>rfl)))) Zac)) (Zia (pv 11) (Zan (ixK K hu) (pv 6) (pv 12) (λ_ _=>rfl)) (setU hu))))) (Zai (Zba (Zby (Zaa (Zby (Zaa (Zan (ixK K hu) (pv 1) Zaf (λ_ _=>rfl)) (Zaa (Za0 (tupK K) rfl (mb "tuple" (by decide)) Zbk (Zaa (Za8 ["_law_tie"] (show CompSc (defScope s_law_renamed) ("_law_pen_here" :: "_law_web" :: "_law_order_here" :: "_law_count" :: "_law_numbers" :: "_law_turned" :: "_law_places" :: "_law_names" :: "_law_ties" :: "_law_end" :: "_law_tie" :: "_law_rows" :: "_law_place" :: "!0" :: "!1" :: "!2" :: "!3" :: "!4" :: "!5" :: "!6" :: "!7" :: "!8" :: "!9" :: "!10" :: "!11" :: "!12" :: "!13" :: "!14" :: "!15" :: "!16" :: "!17" :: "!18" :: "!19" :: "!20" :: "!21" :: "!22" :: "!23" :: []) _ [] [] from ⟨rfl,by decide +kernel,by decide +kernel,by decide +kernel,rfl,by decide +kernel⟩) rfl (seqK K (pv 8)) (λ_ _ _ _ _=>(Zak (i:=0) (show List.Nodup (["_law_tie"]:List Str) from by decide) rfl (Or.inl rfl))) (λ_ _ _ _ _=>Za4) (λ_ _ _ _ _=>(Zby (Zaa (Zan (ixK K hu) (pv 0) Zaf (λ_ _=>rfl)) (Zaa (Zan (ixK K hu) (pv 0) Zaf (λ_ _=>rfl)) Zac))))) Zac)) Zac))) (Zaa (Za0 (tupK K) rfl (mb "tuple" (by decide)) Zbk (Zaa (pv 11) Zac)) (Zaa (Za0 (tupK K) rfl (mb "tuple" (by decide)) Zbk (Zaa (pv 7) Zac)) Zac))))))))))))))),Zi6 (λps ds Post hf=>?_) h⟩
 obtain⟨hp,N,ts,o,rfl,hW,hO,q⟩:=hf;refine⟨by simp,?_⟩;dsimp only[cxOf,startD,Wbw,Wbq,Wbd];have hn:=hW.lo;have hn2:=hW.hi;have hts:=hW.len;have hol:=hO.len;refine Zam (Zav (Za9 (Zev (Zbs rfl (Zfy (N:Int) ts))) ?_));rw[Wab];refine Zam (Zav (Zcf rfl rfl (Zab (Zae rfl (Zag (Zm5 rfl rfl hp (by omega) λnl ps1 hp1 hnl=>?_))))));refine Zam (Zav (Zkt (by decide) (Za1 (Zab (Zae rfl (Zag ⟨_,rfl,by omega,by omega,?_⟩))))));rw[Wah];refine⟨by rw[Zau];exact small1000 (by omega),λi ys Δ=>∃(tl:List Int) (psx:List D) (x:L2.Slot),Pen psx/\tl.length=i/\(∀k,k<i->tl.getD k 0=0\/tl.getD k 0=1)/\ys=tl.map .int /\ Δ = [x,.bor (.lst psx)],⟨[],ps1,.any,hp1,rfl,λk hk=>by omega,rfl,rfl⟩,?_,?_⟩
 ·rintro i d ys Δ2 hd ⟨tl,psx,x,hpx,hl,ht,rfl,rfl⟩
  refine Zd5 (by decide) (Za6 ?_);rw[if_pos rfl];refine Zh6 rfl rfl hpx (by decide) (by decide) λr ps' hp' r0 r1=>?_;refine⟨tl++[r],ps',_,hp',by rw[Waw,hl];rfl,λk hk=>?_,by rw[Wa4];rfl,rfl⟩;by_cases c:k<tl.length
  ·rw[Wac,Wa8 c,<- Wac];exact ht k (by omega)
  ·rw[Wac,Wax (by omega),show k-tl.length=0 by omega]
   show r=0\/r=1;omega
 rintro ys Δ2 ⟨tl,ps2,x,hp2,htl,ht,rfl,rfl⟩;rw[Zau]at htl;refine Zam (Zav (Zcf rfl rfl (Zab (Za9 (Zbs (d:=.int (N:Int)) rfl rfl) (Zag (Zm5 rfl rfl hp2 (by omega) λpl ps3 hp3 hpl=>?_))))));have nu:NuOk ts.length nl tl:=⟨hnl,htl,λk hk=>ht k (by rw[Zau];exact hk)⟩;obtain⟨nlen,nrg,ninj⟩:=Zex hnl;obtain⟨plen,prg,pinj⟩:=Zex hpl;refine Zam (Zav (Za7 (by decide) (Za1 (Zab (Za9 (Zbw Zay (Zah rfl) (pr_I (Or.inl ⟨by decide,by decide⟩))) (Zag ⟨_,rfl,by omega,by omega,?_⟩))))));rw[show (2*(ts.length:Int)).toNat=2*ts.length by omega];refine⟨by rw[Zau];exact small1000 (by omega),λ_=>true,λd=>.int (nuF nl tl (intD d)),λi d hd=>?_,?_⟩
 ·obtain⟨hi,rfl⟩:=Zbj hd
  have h2:i / 2<ts.length:=by omega
  refine Za6 ⟨rfl,Za9 (Zbw (Zbw Zay (Zbp (Zah rfl) (Zbw (Zah rfl) Zay (pr_I ⟨by decide,by decide⟩)) (Zgy (i:=i / 2) (by omega) (by omega))) (pr_I (Or.inl ⟨by decide,by decide⟩))) (Zbw (Zbw (Zah rfl) (Zbp (Zah rfl) (Zbw (Zah rfl) Zay (pr_I ⟨by decide,by decide⟩)) (Zgy (i:=i / 2) (by omega) (by omega))) Zcw) Zay (pr_I (by show (0:Int)<2;decide))) Zcw) ⟨?_,_,rfl⟩⟩;show D.int _=D.int (nuF nl tl (0+(i:Int)));rw[Wbj];unfold nuF;rw[Wah]
 have e1:((rngD 0 (2*ts.length)).filter λ_=>true).map (λd=>D.int (nuF nl tl (intD d)))=(rowOf (nuF nl tl) ts.length).map D.int:=by
  rw[Wa2.mpr (by simp)];unfold rowOf rngD;rw[Wal,Wal];exact Wa0 λk _=>by show D.int (nuF nl tl (0+(k:Int)))=_;rw[Wbj];rfl
 rw[e1]
 -- the ties
 refine Zam (Ziz (Zgp (by decide) (Za1 (Zab (Zae rfl (Zag ⟨_,rfl,by omega,by omega,?_⟩))))));rw[Wah];refine⟨by rw[Zau];exact small1000 (by omega),λ_=>true,λ_=>.lst [.int 0,.int 0],λi d hd=>?_,by decide,?_,λas hal hnd=>?_⟩
 ·exact Za6 ⟨rfl,Zdi (Zab (Zaw (Zab (Zaw (Zag ⟨Zcb,rfl,_,rfl⟩)))))⟩
 ·rw[Wab]
  have e:((rngD 0 ts.length).filter λ_=>true).length<=24:=Wbl (Wci _ _) (by rw[Zau];omega);show 13+_<=37;omega
 have eR:(rngD 0 ts.length).filter (λ_=>true)=rngD 0 ts.length:=by simp
 have hal2:as.length=ts.length:=by rw[hal,eR,Wab,Zau]
 have eO:Wbq (λ_=>OD.lst [D.int 0,D.int 0]) ((rngD 0 ts.length).filter λ_=>true)=(Waj ts.length [(0:Int),0]).map λr=>OD.lst (r.map D.int):=by
  rw[eR,List.map_const',Zau,List.map_replicate];rfl
 have e:=Zfv (R:=rR ps3 N ts o nl tl pl as .any .any) (as:=as) (rows:=Waj ts.length [(0:Int),0]) (T:=24) (by rw[Wa1];exact hal2) (by rw[Wa1];exact hts);rw[<- eO,Wa1]at e;refine Eq.mpr (congrArg (λΔ=>JS K _ Δ _) e) ?_;clear e;have t0:TieI ts (nuF nl tl) (atF pl) as 0 (as.zip (Waj ts.length [(0:Int),0])):=by
  refine⟨Zml (by rw[Wa1];exact hal2),by rw[List.length_zip,Wa1,hal2,Wc0],λj c hc=>?_,λe he=>by omega⟩;obtain⟨_,h2⟩:=Wbg.mp hc;have:=Wan h2;rw[(Wdq.mp this).2];rfl
 have hplace:∀e:Nat,e<2*ts.length->atI (pl.map D.int) (placeAt ts e)=some (.int (atF pl (placeAt ts e))):=λe he=>by
  obtain⟨p0,p1⟩:=Zcd hW he;exact Zgy (by omega) (by omega)
 have hname:∀e:Nat,e<2*ts.length->atI ((rowOf (nuF nl tl) ts.length).map D.int) ((0:Int)+(e:Int))=some (.int (nuF nl tl (e:Int))):=λe he=>by
  rw[Wbj];exact Zbi (by rw[Wad,Zk6 he];rfl)
 refine Zbb (λΔ=>∃(cs:List (Addr × List Int)) (x9 x10:L2.Slot),TieI ts (nuF nl tl) (atF pl) as (2*ts.length) cs /\ Δ = nSt (rR ps3 N ts o nl tl pl as x9 x10) cs (24-ts.length)) ?_ ?_
 ·refine Zc0 (Za1 (Zab (Za9 (Zbw Zay (Zah rfl) (pr_I (Or.inl ⟨by decide,by decide⟩))) (Zag ⟨_,rfl,by omega,by omega,?_⟩))))
  rw[show (2*(ts.length:Int)).toNat=2*ts.length by omega];refine⟨λk Δ=>∃(cs:List (Addr × List Int)) (x9 x10:L2.Slot),TieI ts (nuF nl tl) (atF pl) as k cs /\ Δ = nSt (rR ps3 N ts o nl tl pl as x9 x10) cs (24-ts.length),⟨_,_,_,t0,rfl⟩,?_,λΔ h=>by rw[Zau]at h;exact h⟩;rintro k d Δ2 hd ⟨cs,x9,x10,ti,rfl⟩;obtain⟨hk,rfl⟩:=Zbj hd;obtain⟨t,ht1,ht2,ht3⟩:=Zma hk;obtain⟨ve,vd,vm⟩:=Zen nu hk;obtain⟨v,ev,hv⟩:=Zce ve;have hv2:v / 2<cs.length:=by rw[ti.len];omega
  have hc:cs[v / 2]?=some cs[v / 2]:=Waa hv2;generalize cs[v / 2]=c at hc;have c2:=ti.two _ c hc;have ha:as[v / 2]?=some c.1:=by rw[<- ti.as,Wad,hc];rfl
  have hadr:atI (as.map D.adr) ((v:Int) / 2)=some (.adr c.1):=by
   rw[show (v:Int) / 2=((v / 2:Nat):Int) by omega];exact Zbi (by rw[Wad,ha];rfl)
  have hnm:=hname k hk;rw[ev]at hnm;refine Zb0 (Zam (Zav (Za9 (Zbp (d:=.adr c.1) (Zah rfl) (Zbw (Zbp (Zah rfl) (Zah rfl) hnm) Zay (pr_I ⟨by decide,by decide⟩)) hadr) ?_)));refine Zqw (Za9 (Zbp (Zah rfl) (Zdm (Zdm (Zbs (d:=.tup (ts.map encTie)) rfl rfl) (Zbw (Zah rfl) Zay (pr_I ⟨by decide,by decide⟩)) ht2) (Zbw (Zah rfl) Zay (pr_I (by show (0:Int)<2;decide))) ht3) (hplace k hk)) ⟨⟨_,rfl⟩,Za9 (Zbw (Zbp (Zah rfl) (Zah rfl) hnm) Zay (pr_I (by show (0:Int)<2;decide))) ⟨c.1,13+v / 2,c.2.map D.int,_,v % 2,rfl,Zmd (R:=rR ps3 N ts o nl tl pl as _ _) rfl hc,rfl,?_,?_⟩⟩)
  ·rw[Wab,c2]
   unfold ixN;rw[if_pos (by omega),if_pos (by omega)];congr 1
  refine⟨cs.set (v / 2) (c.1,c.2.set (v % 2) (atF pl (placeAt ts k))),.val (.int (0+(k:Int))),.val (.adr c.1),⟨(Zk1 hc _).trans ti.as,by rw[Wbs];exact ti.len,λj c' hc'=>?_,λe he=>?_⟩,?_⟩
  ·by_cases hj:j=v / 2
   ·subst hj
    rw[Wai hv2]at hc';cases hc';rw[Wbs];exact c2
   ·rw[Wap (Ne.symm hj)]at hc'
    exact ti.two j c' hc'
  ·by_cases hek:e=k
   ·subst hek
    rw[ev,Wah];refine⟨_,Wai hv2,Wai (by rw[c2];omega)⟩
   ·obtain⟨c',h1,h2⟩:=ti.told e (by omega)
    obtain⟨we,_,_⟩:=Zen nu (show e<2*ts.length by omega);obtain⟨u,eu,hu'⟩:=Zce we;rw[eu,Wah]at h1 h2 ⊢;have huv:u≠v:=λz=>hek (Zo7 nu (by omega) hk (by rw[eu,ev,z]));by_cases hd2:u / 2=v / 2
    ·rw[hd2]at h1 ⊢
     rw[hc]at h1;cases h1;refine⟨_,Wai hv2,?_⟩;rw[Wap (by omega)];exact h2
    ·exact⟨c',by rw[Wap (Ne.symm hd2)];exact h1,h2⟩
  ·have:=Zit (R:=rR ps3 N ts o nl tl pl as (.val (.int (0+(k:Int)))) (.val (.adr c.1))) (cs:=cs) (m:=24-ts.length) (a:=c.1) (r:=c.2.set (v % 2) (atF pl (placeAt ts k))) (n:=13) (p:=v / 2) rfl hv2
   rw[<- this,Wc7];rfl
 rintro Δ1 ⟨cs,x9,x10,ti,rfl⟩;refine Zid (i:=8) (by rw[ti.as];rfl) ?_;generalize (Waj cs.length L2.Slot.any++Waj (24-ts.length) .any)=T
 -- the rows
 have hT:∀td:List D,(rR ps3 N ts o nl tl pl as x9 x10).set 8 (.val (.lst td))++T=rS ps3 N ts o nl tl pl td x9 x10 .any .any T:=λtd=>rfl;rw[hT];refine Zbb (λΔ=>Δ = rS ps3 N ts o nl tl pl (cs.map λc=>D.lst (c.2.map D.int)) x9 x10 (.own (.lst ((Waj N ([]:List Int)).map rowD))) .any T) ?_ ?_
 ·refine Zdu (Zjn (by decide) (Zcy (Zae rfl ⟨_,Or.inl rfl,by rw[Wab];exact small1000 (by omega),λ_=>true,λ_=>.tup [],λi d hd=>Za6 ⟨rfl,Zbt (Zag ⟨by decide,rfl,_,rfl⟩)⟩,?_⟩)))
  have e2:((pl.map D.int).filter λ_=>true).map (λ_=>D.tup [])=(Waj N ([]:List Int)).map rowD:=by
   rw[Wa2.mpr (by simp),List.map_const',Wab,plen,List.map_replicate];rfl
  rw[e2];rfl
 rintro Δ1 rfl;have hN:∀p:Nat,p<N->0<=atF pl (p:Int)/\atF pl (p:Int)<(N:Int):=λp hp'=>by unfold atF;rw[Wah];exact prg p hp'
 refine Zbb (λΔ=>∃(rw:List (List Int)) (x9 x12:L2.Slot),rw.length=N/\(∀(p:Nat) r,p<N->o[p]?=some r->rw[(atF pl (p:Int)).toNat]?=some (lf (r.map (nuF nl tl)))) /\ Δ = rS ps3 N ts o nl tl pl (cs.map λc=>D.lst (c.2.map D.int)) x9 x10 (.own (.lst (rw.map rowD))) x12 T) ?_ ?_
 ·refine Zc0 (Za1 (Zab (Za9 (Zbs (d:=.int (N:Int)) rfl rfl) (Zag ⟨_,rfl,by omega,by omega,?_⟩))))
  rw[Wah];refine⟨λk Δ=>∃(rw:List (List Int)) (x9 x12:L2.Slot),rw.length=N/\(∀(p:Nat) r,p<k->o[p]?=some r->rw[(atF pl (p:Int)).toNat]?=some (lf (r.map (nuF nl tl)))) /\ Δ = rS ps3 N ts o nl tl pl (cs.map λc=>D.lst (c.2.map D.int)) x9 x10 (.own (.lst (rw.map rowD))) x12 T,⟨_,_,_,Wa1,λp r hp'=>by omega,rfl⟩,?_,λΔ h=>by rw[Zau]at h;exact h⟩;rintro k d Δ2 hd ⟨rw',x9',x12,hrl,hrw,rfl⟩;obtain⟨hk,rfl⟩:=Zbj hd;rw[Wbj];have hko:k<o.length:=by omega
  have hr:o[k]?=some o[k]:=Waa hko;generalize o[k]=r at hr;have R:=hO.row k r hr;have rl:=R.len;have hor:atI (o.map encRow) (k:Int)=some (encRow r):=Zbi (by rw[Wad,hr];rfl);obtain⟨q0,q1⟩:=hN k hk;refine Zb0 (Zjs (Zbl (Zab (Za7 (by decide) (Zc7 (Za9 (Zdm (Zah rfl) (Zah rfl) hor) ⟨_,rfl,by rw[Wab];exact small1000 (by omega),λ_=>true,λd=>.int (nuF nl tl (intD d)),λi d hd=>?_,?_⟩))))))
  ·rw[Wad]at hd
   cases z:r[i]? with
   |none=>rw[z]at hd;cases hd
   |some y=>
    rw[z]at hd;have hd:D.int y=d:=by simpa using hd
    subst hd;obtain⟨e,he,_,rfl⟩:=R.mem.mp (Wan z);have:=hname e he;rw[Wbj]at this;exact Za6 ⟨rfl,Za9 (Zbp (Zah rfl) (Zah rfl) this) ⟨rfl,_,rfl⟩⟩
  have e3:((r.map D.int).filter λ_=>true).map (λd=>D.int (nuF nl tl (intD d)))=(r.map (nuF nl tl)).map D.int:=by
   rw[Wa2.mpr (by simp),Wal,Wal];rfl
  rw[e3];refine Zag ⟨_,rfl,by rw[Wab];omega,⟨_,_,rfl,rfl⟩,Za9 (Zbp (Zah rfl) (Zah rfl) (Zgy (i:=k) (by omega) rfl)) ⟨_,_,_,(atF pl (k:Int)).toNat,rfl,rfl,rfl,?_,?_⟩⟩
  ·rw[Wab,hrl]
   have e0:pl.getD k 0=atF pl (k:Int):=by unfold atF;rw[Wah]
   rw[e0];unfold ixN;rw[if_pos q0,if_pos q1]
  refine⟨rw'.set (atF pl (k:Int)).toNat (lf (r.map (nuF nl tl))),x9',.val (.int (k:Int)),by rw[Wbs];exact hrl,λp r' hp' hr'=>?_,?_⟩
  ·by_cases hpk:p=k
   ·subst hpk
    rw[hr]at hr';cases hr';exact Wai (by omega)
   ·obtain⟨w0,w1⟩:=hN p (by omega)
    rw[Wap]
    ·exact hrw p r' (by omega) hr'
    ·intro z
     have ek:pl.getD k 0=atF pl (k:Int):=by unfold atF;rw[Wah]
     have ep:pl.getD p 0=atF pl (p:Int):=by unfold atF;rw[Wah]
     have:pl.getD k 0=pl.getD p 0:=by rw[ek,ep];omega
     exact hpk (pinj k p hk (by omega) this).symm
  ·show _=rS ps3 N ts o nl tl pl (cs.map λc=>D.lst (c.2.map D.int)) x9' x10 (.own (.lst ((rw'.set _ _).map rowD))) (.val (.int (k:Int))) T
   rw[Wc7];rfl
 rintro Δ1 ⟨rw',x9',x12,hrl,hrw,rfl⟩;have hgd:∀c∈cs,∃x y,c.2=[x,y]:=λc hc=>by
  obtain⟨j,hj⟩:=Wbi.mp hc;have:=ti.two j c hj
  match h:c.2,this with
  |[x,y],_=>exact⟨x,y,rfl⟩
 have rn:Rn N ts o (cs.map λc=>(c.2.getD 0 0,c.2.getD 1 0)) rw' (nuF nl tl) (atF pl):=by
  refine⟨by rw[Wab];exact ti.len,λx hx=>?_,λx y hx hy e=>?_,λx hx=>?_,λp p0 p1=>?_,λp p' a b c d e=>?_,λe he=>?_,hrl,λp r hr=>?_⟩
  ·obtain⟨k,rfl,hk⟩:=Zce hx;exact(Zen nu hk).1
  ·obtain⟨j,rfl,hj⟩:=Zce hx
   obtain⟨k,rfl,hk⟩:=Zce hy;rw[Zo7 nu hj hk e]
  ·obtain⟨k,rfl,hk⟩:=Zce hx;exact Ztx nu hk
  ·have:=hN p.toNat (by omega);rw[Wca p0]at this;exact this
  ·have:=pinj p.toNat p'.toNat (by omega) (by omega) e
   omega
  ·obtain⟨c,h1,h2⟩:=ti.told e he
   unfold placeAt;rw[Wad,h1];show (if (nuF nl tl (e:Int)).toNat % 2=0 then c.2.getD 0 0 else c.2.getD 1 0)=_;rcases Nat.mod_two_eq_zero_or_one (nuF nl tl (e:Int)).toNat with z|z
   ·rw[z]at h2;rw[if_pos z,Wac,h2];rfl
   ·rw[z]at h2;rw[if_neg (by omega),Wac,h2];rfl
  ·exact hrw p r (by have:=(Waf.mp hr).1;omega) hr
 refine Zbo (Zbt (Zab (Zbt (Zab (Za9 (Zbs (d:=.int (N:Int)) rfl rfl) (Zab (Zbr (Zab (Za7 (by decide) (Zcy (Zae rfl ⟨_,Or.inl rfl,by rw[Wab,ti.len];exact small1000 (by omega),λ_=>true,λd=>match d with|.lst [x,y]=>.tup [x,y]|d=>d,λi d hd=>?_,?_⟩)))))))))))
 ·rw[Wad]at hd
  cases z:cs[i]? with
  |none=>rw[z]at hd;cases hd
  |some c=>
   rw[z]at hd;have hd:D.lst (c.2.map D.int)=d:=by simpa using hd
   obtain⟨x,y,e⟩:=hgd c (Wan z);rw[e]at hd;subst hd;exact Za6 ⟨rfl,Zbt (Zab (Za9 (Zpg rfl rfl) (Zab (Za9 (Zpg rfl rfl) (Zag ⟨Zcb,rfl,_,rfl⟩)))))⟩
 have e4:((cs.map λc=>D.lst (c.2.map D.int)).filter λ_=>true).map (λd=>match d with|.lst [x,y]=>D.tup [x,y]|d=>d)=(cs.map λc=>(c.2.getD 0 0,c.2.getD 1 0)).map encTie:=by
  rw[Wa2.mpr (by simp),Wal,Wal];refine Wa0 λc hc=>?_;obtain⟨x,y,e⟩:=hgd c hc;show (match D.lst (c.2.map D.int) with|.lst [x,y]=>D.tup [x,y]|d=>d)=encTie (c.2.getD 0 0,c.2.getD 1 0);rw[e];rfl
 rw[e4];refine Zag (Zb2 (Or.inl rfl) (Zag ⟨Zcb,?_⟩));refine Zab (Zbr (Zab (Zgw rfl (Zag (Zb2 (Or.inl rfl) ?_)))));refine Zab (Zbr (Zab (Zae rfl (Zag (Zb2 (Or.inl rfl) (Zag ⟨by show 3<=sizeLine;decide,?_⟩))))));exact⟨_,rfl,q _ rw' _ _ _ hp3 rn⟩
end
theorem Zmv (x y:List Int) (xs ys:List (List Int)):cLt (x::xs) (y::ys)=if x=y then cLt xs ys else rlt x y:=rfl
theorem Zi1:∀a:List (List Int),cLt a a=false
 |[]=>rfl
 |x::xs=>by rw[Zmv,if_pos rfl];exact Zi1 xs
theorem Zlt:∀a b:List (List Int),cLt a b=false->cLt b a=false->a=b
 |[],[],_,_=>rfl
 |[],_::_,h,_=>by cases h
 |_::_,[],_,h=>by cases h
 |x::a,y::b,h1,h2=>by
  rw[Zmv]at h1 h2;by_cases e:x=y
  ·subst e
   rw[if_pos rfl]at h1 h2;rw[Zlt a b h1 h2]
  ·rw[if_neg e]at h1
   rw[if_neg (Ne.symm e)]at h2;exact absurd (Zg0 x y h1 h2) e
theorem Zpj:∀a b c:List (List Int),cLt a b=true->cLt b c=true->cLt a c=true
 |[],[],_,h,_=>by cases h
 |[],_::_,[],_,h=>by cases h
 |[],_::_,_::_,_,_=>rfl
 |_::_,[],_,h,_=>by cases h
 |_::_,_::_,[],_,h=>by cases h
 |x::a,y::b,z::c,h1,h2=>by
  rw[Zmv]at h1 h2 ⊢;by_cases e1:x=y
  ·subst e1
   rw[if_pos rfl]at h1;by_cases e2:x=z
   ·rw[if_pos e2]at h2 ⊢
    exact Zpj a b c h1 h2
   ·rw[if_neg e2]at h2 ⊢
    exact h2
  ·rw[if_neg e1]at h1
   by_cases e2:y=z
   ·subst e2
    rw[if_neg e1];exact h1
   ·rw[if_neg e2]at h2
    have:=Zm8 x y z h1 h2;rw[if_neg]
    ·exact this
    ·intro e;subst e;rw[Zi5]at this;cases this
theorem Zg9 (f:Nat->List (List Int)):∀k i,i<=k->cLt (f i) (f (bestC f k))=false
 |0,i,hi=>by
  have:i=0:=by omega
  subst this;exact Zi1 _
 |k+1,i,hi=>by
  show cLt (f i) (f (if cLt (f (k+1)) (f (bestC f k))=true then k+1 else bestC f k))=false;by_cases c:cLt (f (k+1)) (f (bestC f k))=true
  ·rw[if_pos c]
   by_cases e:i=k+1
   ·subst e;exact Zi1 _
   ·have ih:=Zg9 f k i (by omega)
    cases z:cLt (f i) (f (k+1)) with
    |false=>rfl
    |true=>rw[Zpj _ _ _ z c]at ih;cases ih
  ·rw[if_neg c]
   by_cases e:i=k+1
   ·subst e;exact Wdc.mpr c
   ·exact Zg9 f k i (by omega)
def toR (c:List (Int × Int)):List (List Int):=c.map λt=>[t.1,t.2]
theorem Zld:∀{a b:List (Int × Int)},toR a=toR b->a=b
 |[],[],_=>rfl
 |[],_::_,h=>by cases h
 |_::_,[],h=>by cases h
 |x::a,y::b,h=>by
  have h:[x.1,x.2]::toR a=[y.1,y.2]::toR b:=h;injection h with h1 h2
  injection h1 with e1 e2
  injection e2 with e2 _
  rw[Zld h2,Prod.ext e1 e2]
theorem Zsx (c:List (Int × Int)):D.tup ((toR c).map rowD)=.tup (c.map encTie):=by unfold toR;rw[Wal];rfl
noncomputable def codesOf (ts:List (Int × Int)) (o:List (List Int)):List (List (Int × Int)):=(Wau (2*ts.length)).map λe=>cdL ts o (numS ts o e)
def bestOf (A:List (List (Int × Int))):List (Int × Int):=A.getD (bestC (λi=>(A.map toR).getD i []) (A.length-1)) []
theorem Ze6 {A:List (List (Int × Int))}(h:A≠[]):bestOf A∈A/\∀c∈A,cLt (toR c) (toR (bestOf A))=false:=by
 have hl:0<A.length:=Wc5.mpr h;have gt:∀i,i<A.length->(A.map toR).getD i []=toR (A.getD i []):=λi hi=>by
  rw[Wac,Wad,Wac,Waa hi];rfl
 have hb:=Zgf (λi=>(A.map toR).getD i []) (A.length-1);have hbl:bestC (λi=>(A.map toR).getD i []) (A.length-1)<A.length:=by omega
 refine⟨?_,λc hc=>?_⟩
 ·unfold bestOf
  rw[Wac,Waa hbl];exact Wa6 hbl
 ·obtain⟨i,hi,e⟩:=Wcl.mp hc
  have m:=Zg9 (λi=>(A.map toR).getD i []) (A.length-1) i (by omega);have m:cLt ((A.map toR).getD i []) ((A.map toR).getD (bestC (λi=>(A.map toR).getD i []) (A.length-1)) [])=false:=m;rw[gt i hi,gt _ hbl]at m;have ec:A.getD i []=c:=by rw[Wac,Waa hi];exact e
  rw[ec]at m;exact m
theorem Zmf {A B:List (List (Int × Int))}(h:∀c,c∈A↔c∈B):bestOf A=bestOf B:=by
 by_cases ha:A=[]
 ·have hb:B=[]:=List.eq_nil_iff_forall_not_mem.mpr λc hc=>by rw[<- h,ha]at hc;cases hc
  rw[ha,hb]
 ·have hb:B≠[]:=λz=>by
   obtain⟨c,hc⟩:=List.exists_mem_of_ne_nil A ha;rw[h,z]at hc;cases hc
  obtain⟨a1,a2⟩:=Ze6 ha;obtain⟨b1,b2⟩:=Ze6 hb;exact Zld (Zlt _ _ (b2 _ ((h _).mp a1)) (a2 _ ((h _).mpr b1)))
section
variable {N:Nat}{ts:List (Int × Int)}{o:List (List Int)}(hW:WebOk (N:Int) ts) (hO:OrdOk (N:Int) ts o)
variable {us:List (Int × Int)}{v:List (List Int)}{σ:Int->Int}
include hW hO
theorem Zhd {k j:Nat}(h:Cm ts o us v σ) (hk:k<2*ts.length) (ej:σ (k:Int)=(j:Int)):cdL us v (numS us v j)=cdL ts o (numS ts o k):=by
 obtain⟨J,hJ,e1,A⟩:=Zc1 hW hO hk;obtain⟨k1,k2⟩:=Zhs hW hO h (Zcm hk) hJ;rw[ej]at k1 k2;have e2:numS us v j=(numS ts o k).map σ:=by rw[<- Zds k1,e1];exact k2
 generalize numS ts o k=l at *;have inE:∀x∈l,InE ts.length x:=λx hx=>by have:=A.cl x hx;exact⟨this.1,this.2.1⟩
 have ix:∀x∈l,(l.map σ).idxOf (σ x)=l.idxOf x:=λx hx=>by
  have nd:(l.map σ).Nodup:=by
   rw[Wbc,Wb5];exact List.Pairwise.imp_of_mem (λ{a b} ha hb hab e=>hab (h.inj a b (inE a ha) (inE b hb) e)) (Wbc.mp A.nd)
  exact Zdk nd (by rw[Wad,(Zat hx).2.1];rfl)
 rw[e2];unfold cdL;rw[Wal];refine Wa0 λx hx=>?_;have c:=A.cl x hx;show (((((l.map σ).idxOf (pI (σ x)):Nat):Int)),(((l.map σ).idxOf (fI us v (σ x)):Nat):Int))=((((l.idxOf (pI x):Nat):Int)),((l.idxOf (fI ts o x):Nat):Int));rw[<- h.cp x (inE x hx),<- h.cf x (inE x hx),ix _ c.2.2.1,ix _ c.2.2.2]
theorem Zkr (h:Cm ts o us v σ) (c:List (Int × Int)):c∈codesOf ts o↔c∈codesOf us v:=by
 unfold codesOf;rw[Wa9,Wa9];constructor
 ·rintro⟨k,hk,rfl⟩
  have hk:=Wa5.mp hk;obtain⟨j,ej,hj⟩:=Zce (h.rg _ (Zcm hk));exact⟨j,Wa5.mpr hj,Zhd hW hO h hk ej⟩
 ·rintro⟨j,hj,rfl⟩
  have hj:=Wa5.mp hj;have rg:∀y,0<=y->y<((2*ts.length:Nat):Int)->0 <= σ y /\ σ y<((2*ts.length:Nat):Int):=λy a b=>by have:=h.rg y ⟨a,b⟩;rw[<- h.len]at this;exact this
  obtain⟨y,hy,e⟩:=Zgi (m:=2*ts.length) (f:=σ) rg (λa b c d e f=>h.inj a b ⟨c,d⟩ ⟨e,f⟩) (show 0<=(j:Int) by omega) (by have:=h.len;omega);obtain⟨k,rfl⟩:∃k:Nat,y=(k:Int):=⟨y.toNat,by omega⟩;have hk:k<2*ts.length:=by omega
  exact⟨k,Wa5.mpr hk,(Zhd hW hO h hk e).symm⟩
end
def fCode:DSp:=λds Post=>∃(N:Nat) (ts:List (Int × Int)) (o:List (List Int)),ds=[encWeb (N:Int) ts,encOrd o]/\WebOk (N:Int) ts/\OrdOk (N:Int) ts o/\OneP N ts/\Post (.tup ((bestOf (codesOf ts o)).map encTie))
theorem Zp5 (ts:List (Int × Int)) (o:List (List Int)):((rngD 0 (2*ts.length)).filter λ_=>true).map (λd=>D.tup ((cdL ts o (numS ts o (intD d).toNat)).map encTie))=((codesOf ts o).map toR).map λc=>D.tup (c.map rowD):=by
 rw[Wa2.mpr (by simp)];unfold codesOf rngD;rw[Wal,Wal,Wal];refine Wa0 λk _=>?_;show D.tup ((cdL ts o (numS ts o (0+(k:Int)).toNat)).map encTie)=D.tup ((toR (cdL ts o (numS ts o k))).map rowD);rw[Zsx,Wbj,Wah]
theorem Ztf (A:List (List (Int × Int))) (h:0<(A.map toR).length):D.tup (((A.map toR).getD (bestC (λi=>(A.map toR).getD i []) ((A.map toR).length-1)) []).map rowD)=.tup ((bestOf A).map encTie):=by
 rw[Wab]at h ⊢;have hb:=Zgf (λi=>(A.map toR).getD i []) (A.length-1);have gt:(A.map toR).getD (bestC (λi=>(A.map toR).getD i []) (A.length-1)) []=toR (bestOf A):=by
  unfold bestOf;rw[Wac,Wad,Wac,Waa (by omega)];rfl
 rw[gt,Zsx]
section
variable {P:Program}{w:World}{K:W.Frag}{mg:Str->Option Value}{base:Heap}{f:Addr}{fd:FuncData}
theorem Zpl (mb:Mb mg) (C37:Callee P w K mg base 2 "refuse_parts" ["web"] (spD K fRef)) (C32:Callee P w K mg base 4 "code_from" ["web","order","end"] (spD K fCodeF)) (F:Fun K "code" "code" s_code f fd):FnOk P w K mg base CX0 5 f fd ["web","order"] (spD K fCode):=by
 refine F.ok sc_code (Zcu λds Post h=>by obtain⟨_,_,_,rfl,_⟩:=h;rfl) (λcdv A outer s H vs Q E hr h=>?_);have hu:=Zch hr;have hv:=Zm1 hr;refine⟨_,(Zad (Zb4 (Za3 C37 (hr.mono (by decide)) (Zaa (pv 0) Zac))) (Zai (Zba (Zqu rfl rfl hv rfl (mb "min" (by decide)) (Zaa (Za8 ["end"] (show CompSc (defScope s_code) ["web","order"] _ ["web","order"] [0,1] from ⟨rfl,by decide +kernel,by decide +kernel,by decide +kernel,rfl,by decide +kernel⟩) rfl (Za2 rfl (mb "range" (by decide)) (Zaa (Zar Zc8 Zaf (Zaj (lenK K) rfl (mb "len" (by decide)) Zbm (Zaa (Zan (ixK K hu) (pv 0) Zaf (λ_ _=>rfl)) Zac))) Zac)) (λ_ _ _ _ _=>(Zak (i:=0) (show List.Nodup (["end","web","order"]:List Str) from by decide) rfl (Or.inl rfl))) (λ_ _ _ _ _=>Za4) (λ_ _ _ _ _=>(Za3 C32 (hr.mono (by decide)) (Zaa (pv 1) (Zaa (pv 2) (Zaa (pv 0) Zac)))))) Zac) (Zpr (Zby Zac) Zrv))))),Zgj (λds Post hf=>?_) h⟩;obtain⟨N,ts,o,rfl,hW,hO,h1,q⟩:=hf;refine⟨by simp,?_⟩;dsimp only[startD,Wbw,Wbq,Wbd,Waj];have hw:=hW.len;have h1':OneP ((N:Int).toNat) ts:=by rw[Wah];exact h1
 refine Zam (Zgq (Zbl (Zab (Zae rfl (Zag ⟨(N:Int),ts,rfl,hW,h1',?_⟩)))));refine Zbo (Zp4 (Zab (Za7 (by decide) (Za1 (Zab (Za9 (Zbw Zay (Zev (Zbs rfl (Zfy (N:Int) ts))) (pr_I (Or.inl ⟨by decide,by decide⟩))) (Zag ⟨_,rfl,?_,?_,?_⟩)))))))
 ·rw[Wab];omega
 ·rw[Wab];omega
 rw[Wab,show (2*(ts.length:Int)).toNat=2*ts.length by omega];refine⟨by rw[Zau];exact small1000 (by omega),λ_=>true,λd=>.tup ((cdL ts o (numS ts o (intD d).toNat)).map encTie),λi d hd=>?_,?_⟩
 ·obtain⟨hi,rfl⟩:=Zbj hd
  rw[Wbj];refine Za6 ⟨rfl,Zbl (Zei (Zal (Zah rfl) (Zal (Zah rfl) (Zal (Zah rfl) Zcg))) ⟨(N:Int),ts,o,i,rfl,hW,hO,h1',hi,λJ hJ=>⟨?_,_,rfl⟩⟩)⟩;show D.tup ((numF ts o i J).map (cdP ts o (numF ts o i J)))=D.tup ((cdL ts o (numS ts o (i:Int).toNat)).map encTie);rw[Zds hJ,Zqd,Wah]
 rw[Zp5];refine Zag (Zab (Zbt (Zag ⟨by decide,Zag ⟨(codesOf ts o).map toR,_,rfl,rfl,λe=>?_,λhn=>?_⟩⟩)))
 ·have e:codesOf ts o=[]:=by simpa using e
  rw[e]at q;exact q
 ·rw[Ztf _ hn]
  exact q
def turnD:D->D
 |.tup ds=>.tup (ds.take 1++(ds.drop 1).reverse)
 |d=>d
theorem Zm4 (r:List Int):turnD (encRow r)=encRow (turnRow r):=by
 show D.tup ((r.map D.int).take 1++((r.map D.int).drop 1).reverse)=D.tup ((turnRow r).map D.int);unfold turnRow;rw[Wa4,Wc2,List.map_reverse,Wc3]
theorem Zk5 (o:List (List Int)):((o.map encRow).filter λ_=>true).map turnD=(o.map turnRow).map encRow:=by
 rw[Wa2.mpr (by simp),Wal,Wal];apply Wa0;intro r _;exact Zm4 r
end
def hdD:List (List Int)->D
 |[]=>.non
 |r::_=>rowD r
def fAlike:DSp:=λds Post=>∃(N:Nat) (ts:List (Int × Int)) (o:List (List Int)) (M:Nat) (us:List (Int × Int)) (v:List (List Int)),ds=[encWeb (N:Int) ts,encOrd o,encWeb (M:Int) us,encOrd v]/\WebOk (N:Int) ts/\OrdOk (N:Int) ts o/\OneP N ts/\WebOk (M:Int) us/\OrdOk (M:Int) us v/\OneP M us/\Post (hdD (renS ts o us v))
theorem Zr7 {N:Nat}{ts:List (Int × Int)}{o:List (List Int)}{us:List (Int × Int)}{v:List (List Int)}{r:List Int}(h:r∈renS ts o us v):∃σ,Cm ts o us v σ /\ r=rowOf σ ts.length:=by
 unfold renS at h;by_cases z:ts.length=0
 ·rw[if_pos z]at h
  by_cases y:us.length=0
  ·rw[if_pos y,Wa3]at h
   subst h;refine⟨λx=>x,⟨by omega,λx hx=>?_,λx y _ _ e=>e,λx hx=>?_,λx hx=>?_⟩,?_⟩
   ·have a:=hx.1;have b:=hx.2;omega
   ·have a:=hx.1;have b:=hx.2;omega
   ·have a:=hx.1;have b:=hx.2;omega
   ·unfold rowOf;rw[z];rfl
  ·rw[if_neg y]at h;cases h
 ·rw[if_neg z]at h
  obtain⟨e,he,ee⟩:=Wc6.mp h;unfold renAt at ee;split at ee
  ·rename_i hx
   exact⟨_,(Classical.choose_spec hx).1,(Wa7.inj ee).symm⟩
  ·cases ee
section
variable {P:Program}{w:World}{K:W.Frag}{mg:Str->Option Value}{base:Heap}{f:Addr}{fd:FuncData}
theorem Zni (mb:Mb mg) (C37:Callee P w K mg base 2 "refuse_parts" ["web"] (spD K fRef)) (C38:Callee P w K mg base 4 "renamings" ["one","order","other","its_order"] (spN K fRen)) (F:Fun K "alike" "alike" s_alike f fd):FnOk P w K mg base CX0 5 f fd ["one","order","other","its_order"] (spD K fAlike):=by
 refine F.ok sc_alike (Zcu λds Post h=>by obtain⟨_,_,_,_,_,_,rfl,_⟩:=h;rfl) (λcdv A outer s H vs Q E hr h=>?_);have hu:=Zch hr;refine⟨_,(Zad (Zb4 (Za3 C37 (hr.mono (by decide)) (Zaa (pv 0) Zac))) (Zad (Zb4 (Za3 C37 (hr.mono (by decide)) (Zaa (pv 2) Zac))) (Zad (Zap (i:=4) sc_alike.nd rfl (Or.inl rfl) (Za3 C38 (hr.mono (by decide)) (Zaa (pv 0) (Zaa (pv 1) (Zaa (pv 2) (Zaa (pv 3) Zac)))))) (Zai (Zba (Zhe (truK K (pv 4) (λ_=>rfl)) (Zan (ixK K hu) (pv 4) Zaf (λ_ _=>rfl)) Zlp)))))),Zgj (λds Post hf=>?_) h⟩;obtain⟨N,ts,o,M,us,v,rfl,hW,hO,h1,hV,hU,h2,q⟩:=hf;refine⟨by simp,?_⟩;dsimp only[startD,Wbw,Wbq,Wbd,Waj];refine Zam (Zgq (Zbl (Zab (Zae rfl (Zag ⟨(N:Int),ts,rfl,hW,by rw[Wah];exact h1,?_⟩)))));refine Zam (Zgq (Zbl (Zab (Zae rfl (Zag ⟨(M:Int),us,rfl,hV,by rw[Wah];exact h2,?_⟩)))));refine Zam (Zav (Zbx (Zeb (Zei (Zal (Zah rfl) (Zal (Zah rfl) (Zal (Zah rfl) (Zal (Zah rfl) Zcg)))) ⟨N,ts,o,M,us,v,rfl,hW,hO,h1,hV,hU,_,rfl,?_⟩))));rw[Zry hW hO h1 hV hU h2];generalize renS ts o us v=R at *;cases R with
 |nil=>exact Zbo (Zf6 (Zhy (Zae rfl ⟨_,rfl,iteF (Zho q)⟩)))
 |cons r R=>exact Zbo (Zf6 (Zhy (Zae rfl ⟨_,rfl,iteT (Zaz (Zae rfl (Zaw (Zbu (d:=rowD r) (Zbi (j:=0) rfl) q))))⟩)))
theorem Zlv {Δ1:Evt}{i:Nat}{y:L2.Slot}{ps:List D}{L:Int}{P:D->Evt->Prop}(hx:Δ1[i]?=some y) (ho:y.od=some (.lst ps)) (hp:Pen ps) (h1:0<=L) (h2:L<=24) (h:∀(N:Nat) (ts:List (Int × Int)) ps',Pen ps' -> WebOk (N:Int) ts->OneP N ts->P (encWeb (N:Int) ts) (Δ1.set i (y.put (.lst ps')))) :
  LendQ fOneP i P [.int L] Δ1:=⟨y,ps,hx,ho,hp,L,rfl,h1,h2,h⟩
theorem Zor {Δ1:Evt}{i:Nat}{y:L2.Slot}{ps:List D}{n:Int}{ts:List (Int × Int)}{P:D->Evt->Prop}(hx:Δ1[i]?=some y) (ho:y.od=some (.lst ps)) (hp:Pen ps) (hW:WebOk n ts) (h:∀o ps',Pen ps' -> OrdOk n ts o->P (encOrd o) (Δ1.set i (y.put (.lst ps')))) :
  LendQ fPlain i P [encWeb n ts] Δ1:=⟨y,ps,hx,ho,hp,n,ts,rfl,hW,h⟩
structure RowsI (o:List (List Int)) (as:List Addr) (cs:List (Addr × List Int)):Prop where
 as:cs.map (·.1)=as
 row:∀(p:Nat) c,cs[p]?=some c->∃r,o[p]?=some r/\c.2.Perm r
 len:cs.length=o.length
end
def fNear:BSp:=λps ds Post=>Pen ps/\∃(N:Nat) (ts:List (Int × Int)) (o:List (List Int)),ds=[encWeb (N:Int) ts,encOrd o]/\WebOk (N:Int) ts/\OrdOk (N:Int) ts o/\OneP N ts/\∀(M:Nat) (us:List (Int × Int)) (v:List (List Int)) ps',Pen ps' -> WebOk (M:Int) us->OrdOk (M:Int) us v->OneP M us->Post (.tup [encWeb (M:Int) us,encOrd v]) ps'
def nR (ps:List D) (N:Nat) (ts:List (Int × Int)) (o:List (List Int)) (way:Int) (as:List Addr) (x7 x8:L2.Slot):Evt:=[.bor (.lst ps),.val (encWeb (N:Int) ts),.val (encOrd o),.val (.int way),.any,.any,.val (.lst (as.map D.adr)),x7,x8]
section
variable {P:Program}{w:World}{K:W.Frag}{mg:Str->Option Value}{base:Heap}{f:Addr}{fd:FuncData}
theorem Zq2 (mb:Mb mg) (C21:Callee P w K mg base 1 "_law_draw" ["_law_pen_here","_law_many"] (spB K fDraw)) (C20:Callee P w K mg base 1 "_law_begun" ["_law_row"] (spD K fLeastE)) (C23:Callee P w K mg base 2 "_law_one_part" ["_law_pen_here","_law_limit"] (spB K fOneP)) (C24:Callee P w K mg base 2 "_law_order" ["_law_pen_here","_law_web"] (spB K fOrder)) (C27:Callee P w K mg base 3 "_law_renamed" ["_law_pen_here","_law_web","_law_order_here"] (spB K fRenw)) (F:Fun K "_law_near" "_law_near" s_law_near f fd):FnOk P w K mg base CX0 4 f fd ["_law_pen_here","_law_web","_law_order_here"] (spB K fNear):=by
 refine F.ok sc_law_near (Zdp λps ds Post h=>by obtain⟨_,_,_,_,rfl,_⟩:=h;rfl) (λcdv A outer s H vs Q E hr h=>?_);have hu:=Zch hr;refine⟨_,(Zad (Zap (i:=3) sc_law_near.nd rfl (Or.inl rfl) (Za3 C21 (hr.mono (by decide)) (Zaa (pv 0) (Zaa Zaf Zac)))) (Zad (Zcj (Zax Zb1 (pv 3) Zaf (nomark _)) (Zad (Zap (i:=4) sc_law_near.nd rfl (Or.inl rfl) (Za3 C27 (hr.mono (by decide)) (Zaa (pv 0) (Zaa (pv 1) (Zaa (pv 2) Zac))))) (Zai (Zba (Zby (Zaa (Zan (ixK K hu) (pv 4) Zaf (λ_ _=>rfl)) (Zaa (Zan (ixK K hu) (pv 4) Zaf (λ_ _=>rfl)) Zac)))))) Zbd) (Zad (Zcj (Zax Zb1 (pv 3) Zaf (nomark _)) (Zai (Zba (Zby (Zaa (pv 1) (Zaa (Za0 (tupK K) rfl (mb "tuple" (by decide)) Zbk (Zaa (Za8 ["_law_row"] (show CompSc (defScope s_law_near) ("_law_pen_here" :: "_law_web" :: "_law_order_here" :: "_law_way" :: "_law_found" :: "_law_other" :: "_law_rows" :: "_law_row" :: "_law_end" :: "!0" :: "!1" :: "!2" :: "!3" :: "!4" :: "!5" :: "!6" :: "!7" :: "!8" :: "!9" :: "!10" :: "!11" :: "!12" :: "!13" :: "!14" :: "!15" :: "!16" :: "!17" :: "!18" :: "!19" :: "!20" :: "!21" :: "!22" :: "!23" :: "!24" :: []) _ [] [] from ⟨rfl,by decide +kernel,by decide +kernel,by decide +kernel,rfl,by decide +kernel⟩) rfl (seqK K (pv 2)) (λ_ _ _ _ _=>(Zak (i:=0) (show List.Nodup (["_law_row"]:List Str) from by decide) rfl (Or.inl rfl))) (λ_ _ _ _ _=>Za4) (λ_ _ _ _ _=>(Zar (addK K) (Zeq (slK K) (pv 0) Zgg (Zef Zaf)) (slR0K K (pv 0))))) Zac)) Zac))))) Zbd) (Zad (Zcj (Zax Zb1 (pv 3) Zaf (nomark _)) (Zad (Zap (i:=5) sc_law_near.nd rfl (Or.inl rfl) (Za3 C23 (hr.mono (by decide)) (Zaa (pv 0) (Zaa (Zaj (lenK K) rfl (mb "len" (by decide)) Zbm (Zaa (Zan (ixK K hu) (pv 1) Zaf (λ_ _=>rfl)) Zac)) Zac)))) (Zai (Zba (Zby (Zaa (pv 5) (Zaa (Za3 C24 (hr.mono (by decide)) (Zaa (pv 0) (Zaa (pv 5) Zac))) Zac)))))) Zbd) (Zad (Zgr 9 (show ∀x∈(("_law_pen_here" :: "_law_web" :: "_law_order_here" :: "_law_way" :: "_law_found" :: "_law_other" :: "_law_rows" :: "_law_row" :: "_law_end" :: "!0" :: "!1" :: "!2" :: "!3" :: "!4" :: "!5" :: "!6" :: "!7" :: "!8" :: "!9" :: "!10" :: "!11" :: "!12" :: "!13" :: "!14" :: "!15" :: "!16" :: "!17" :: "!18" :: "!19" :: "!20" :: "!21" :: "!22" :: "!23" :: "!24" :: []):List Str).drop 9,(defScope s_law_near).names.lookup x=none from by decide +kernel) (Zdc (i:=6) ["_law_row"] (show CompSc (defScope s_law_near) ("_law_pen_here" :: "_law_web" :: "_law_order_here" :: "_law_way" :: "_law_found" :: "_law_other" :: "_law_rows" :: "_law_row" :: "_law_end" :: "!0" :: "!1" :: "!2" :: "!3" :: "!4" :: "!5" :: "!6" :: "!7" :: "!8" :: "!9" :: "!10" :: "!11" :: "!12" :: "!13" :: "!14" :: "!15" :: "!16" :: "!17" :: "!18" :: "!19" :: "!20" :: "!21" :: "!22" :: "!23" :: "!24" :: []) _ [] [] from ⟨rfl,by decide +kernel,by decide +kernel,by decide +kernel,rfl,by decide +kernel⟩) rfl sc_law_near.nd rfl (Or.inl rfl) (seqK K (pv 2)) (λ_ _ _ _ _=>(Zak (i:=0) (show List.Nodup (["_law_row"]:List Str) from by decide) rfl (Or.inl rfl))) (λ_ _ _ _ _=>Za4) (λ_ _ _ _ _=>(Za0 (lstK K) rfl (mb "list" (by decide)) Zmr (Zaa (pv 0) Zac))))) (Zad (Zcx PassesOwn.never rfl (seqK K (pv 6)) (Zak (i:=7) sc_law_near.nd rfl (Or.inl rfl)) (Zai (Zcj (PW.pt (pw_and (Zax Zng (Zaj (lenK K) rfl (mb "len" (by decide)) Zbm (Zaa (pv 7) Zac)) Zaf (nomark _)) (pw_and1 (Zax Zb1 (Za3 C21 (hr.mono (by decide)) (Zaa (pv 0) (Zaa Zaf Zac))) Zaf (nomark _))))) (Zad (Zap (i:=8) sc_law_near.nd rfl (Or.inl rfl) (bm0K K PySem.F.plainAttrs_list PySem.F.slot_list_pop PySem.F.type_list_pop Zrw (pv 7))) (Zai (Zb4 (bmK K PySem.F.plainAttrs_list PySem.F.slot_list_insert PySem.F.type_list_insert Zd0 (pv 7) (Zaa (Zar (addK K) Zaf (Za3 C21 (hr.mono (by decide)) (Zaa (pv 0) (Zaa (Zaj (lenK K) rfl (mb "len" (by decide)) Zbm (Zaa (pv 7) Zac)) Zac)))) (Zaa (pv 8) Zac)))))) Zbd))) (Zai (Zba (Zby (Zaa (pv 1) (Zaa (Za0 (tupK K) rfl (mb "tuple" (by decide)) Zbk (Zaa (Za8 ["_law_row"] (show CompSc (defScope s_law_near) ("_law_pen_here" :: "_law_web" :: "_law_order_here" :: "_law_way" :: "_law_found" :: "_law_other" :: "_law_rows" :: "_law_row" :: "_law_end" :: "!0" :: "!1" :: "!2" :: "!3" :: "!4" :: "!5" :: "!6" :: "!7" :: "!8" :: "!9" :: "!10" :: "!11" :: "!12" :: "!13" :: "!14" :: "!15" :: "!16" :: "!17" :: "!18" :: "!19" :: "!20" :: "!21" :: "!22" :: "!23" :: "!24" :: []) _ [] [] from ⟨rfl,by decide +kernel,by decide +kernel,by decide +kernel,rfl,by decide +kernel⟩) rfl (seqK K (pv 6)) (λ_ _ _ _ _=>(Zak (i:=0) (show List.Nodup (["_law_row"]:List Str) from by decide) rfl (Or.inl rfl))) (λ_ _ _ _ _=>Za4) (λ_ _ _ _ _=>(Za3 C20 (hr.mono (by decide)) (Zaa (pv 0) Zac)))) Zac)) Zac))))))))))),Zi6 (λps ds Post hf=>?_) h⟩
 obtain⟨hp,N,ts,o,rfl,hW,hO,h1,q⟩:=hf;refine⟨by simp,?_⟩;dsimp only[cxOf,startD,Wbw,Wbq,Wbd];have hn:=hW.lo;have hn2:=hW.hi;have hts:=hW.len;have hol:=hO.len;refine Zam (Zav (Zh6 rfl rfl hp (by decide) (by decide) λway ps1 hp1 w0 w1=>?_));refine Zam (Zcv (Zd3 rfl (λhw0=>iteT ?_) (λhw0=>iteF (Zbc ?_))))
 ·refine Zam (Zav (Zcf rfl rfl (Zab (Zae rfl (Zab (Zae rfl (Zag ⟨_,_,rfl,rfl,hp1,N,ts,o,rfl,hW,hO,λts' o' ν π ps2 hp2 rn=>?_⟩)))))))
  exact Zbo (Zbt (Zab (Za9 (Zbs (d:=encWeb (N:Int) ts') rfl rfl) (Zab (Za9 (Zbs (d:=encOrd o') rfl rfl) (Zag ⟨Zcb,_,rfl,q N ts' o' _ hp2 (Zpi hW rn) (Zsd hW hO rn) (Zr4 hW hO rn h1)⟩))))))
 refine Zam (Zcv (Zd3 rfl (λhw0=>iteT ?_) (λhw0=>iteF (Zbc ?_))))
 ·refine Zbo (Zbt (Zab (Zae rfl (Zab (Zbr (Zab (Za7 (by decide) (Zc7 (Zae rfl ⟨_,rfl,?_,λ_=>true,turnD,λi d hd=>?_,?_⟩)))))))))
  ·rw[Wab];exact small1000 (by omega)
  ·rw[Wad]at hd
   cases z:o[i]? with
   |none=>rw[z]at hd;cases hd
   |some r=>
    rw[z]at hd;have hd:encRow r=d:=by simpa using hd
    subst hd;have rl:=(hO.row i r z).len;refine Za6 ⟨rfl,Zaz (Zn6 (Zae rfl (Zgx (Zf9 (Zaw ⟨_,rfl,.tup ((r.map D.int).take 1),?_,Zpo (Zae rfl ⟨_,rfl,Zrd ?_ ⟨rfl,_,rfl⟩⟩)⟩)))))⟩
    ·show some (D.tup _)=_
     cases r <;> rfl
    ·rw[Wbt,Wcp,Wbu,Wab]
     exact Wb0 (small1000 (by omega))
  rw[Zk5];exact Zag (Zb2 (Or.inl rfl) (Zag ⟨Zcb,_,rfl,q N ts _ _ hp1 hW hO.turn h1⟩))
 refine Zam (Zcv (Zd3 rfl (λhw1=>iteT ?_) (λhw1=>iteF (Zbc ?_))))
 ·refine Zam (Zav (Zcf rfl rfl (Zab (Za9 (Zev (Zbs rfl (Zfy (N:Int) ts))) (Zag (Zlv rfl rfl hp1 (by omega) (by rw[Wab];omega) λM us ps2 hp2 hV h2=>?_))))))
  refine Zbo (Zbt (Zab (Zae rfl (Zab (Zcf rfl rfl (Zab (Zae rfl (Zag (Zjh rfl rfl hp2 hV λv ps3 hp3 hU=>?_)))))))));exact Zag ⟨Zcb,_,rfl,q M us v _ hp3 hV hU h2⟩
 refine Zam (Ziz (Zgp (by decide) (Zc7 (Zae rfl ⟨_,rfl,by rw[Wab];exact small1000 (by omega),λ_=>true,λd=>match d with|.tup ds=>.lst ds|_=>.lst [],λi d hd=>?_,by decide,?_,λas hal hnd=>?_⟩))))
 ·rw[Wad]at hd
  cases z:o[i]? with
  |none=>rw[z]at hd;cases hd
  |some r=>
   rw[z]at hd;have hd:encRow r=d:=by simpa using hd
   subst hd;exact Za6 ⟨rfl,Zqz (Zab (Zae rfl (Zag ⟨_,Or.inl rfl,rfl,_,rfl⟩)))⟩
 ·rw[Wab]
  have e:((o.map encRow).filter λ_=>true).length<=25:=Wbl (Wci _ _) (by rw[Wab];omega);show 9+_<=34;omega
 have eO:Wbq (λd=>match d with|.tup ds=>OD.lst ds|_=>OD.lst []) ((o.map encRow).filter λ_=>true)=o.map λr=>OD.lst (r.map D.int):=by
  rw[Wa2.mpr (by simp),Wal];rfl
 have hal2:as.length=o.length:=by rw[hal,eO,Wab]
 have e:=Zfv (R:=nR ps1 N ts o way as .any .any) (as:=as) (rows:=o) (T:=25) hal2 (by omega);rw[<- eO]at e;refine Eq.mpr (congrArg (λΔ=>JS K _ Δ _) e) ?_;clear e;have i0:RowsI o as (as.zip o):=⟨Zml hal2,λp c hc=>⟨c.2,(Wbg.mp hc).2,List.Perm.refl _⟩,by rw[List.length_zip,hal2,Wc0]⟩;generalize as.zip o=cs at i0;refine Zbb (λΔ=>∃(psx:List D) (cs':List (Addr × List Int)) (x7 x8:L2.Slot),Pen psx/\RowsI o as cs' /\ Δ = nSt (nR psx N ts o way as x7 x8) cs' (25-o.length)) ?_ ?_
 ·refine Zc0 (Zcy (Zae rfl ⟨_,Or.inl rfl,λ_ Δ=>∃(psx:List D) (cs':List (Addr × List Int)) (x7 x8:L2.Slot),Pen psx/\RowsI o as cs' /\ Δ = nSt (nR psx N ts o way as x7 x8) cs' (25-o.length),⟨ps1,cs,_,_,hp1,i0,rfl⟩,?_,λΔ h=>h⟩))
  rintro i d Δ2 hd ⟨ps2,cs,x7,x8,hp2,i0,rfl⟩;rw[Wad,<- i0.as,Wad]at hd;cases hc:cs[i]? with
  |none=>rw[hc]at hd;cases hd
  |some c=>
   rw[hc]at hd;have hd:D.adr c.1=d:=by simpa using hd
   subst hd;have hi:i<cs.length:=(Waf.mp hc).1;obtain⟨rr,hrr,pr⟩:=i0.row i c hc;have rl:=(hO.row i rr hrr).len;have cl:=pr.length_eq;have sl:∀(psx:List D) (x7 x8:L2.Slot),(nSt (nR psx N ts o way as x7 x8) cs (25-o.length))[9+i]?=some (.ownA c.1 (.lst (c.2.map D.int))):=λpsx x7 x8=>Zmd rfl hc;refine Zb0 (Zcv (Zjf (Zbh (Zaz (Zga rfl (sl ps2 _ _) (Zaw (Zk7 ⟨_,rfl,?_⟩)))))));rw[Wab];by_cases h3:2<c.2.length
   ·rw[decide_eq_true (by omega)]
    refine iteT (Zbh (Zaz (Zh6 rfl rfl hp2 (by decide) (by decide) λr ps3 hp3 r0 r1=>Zaw (Zfj ⟨_,rfl,?_⟩))));by_cases hr0:r=0
    ·rw[decide_eq_true hr0]
     have hce:c.2≠[]:=λz=>by rw[z]at h3;exact absurd h3 (by decide)
     obtain⟨l,z,ez⟩:∃l z,c.2=l++[z]:=⟨c.2.dropLast,c.2.getLast hce,(List.dropLast_concat_getLast hce).symm⟩;have ll:c.2.length=l.length+1:=by rw[ez,Waw];rfl
     have sl2:(nSt (nR ps3 N ts o way as (.val (.adr c.1)) x8) cs (25-o.length))[9+i]?=some (.ownA c.1 (.lst (l.map D.int++[D.int z]))):=by rw[sl,ez,Wa4];rfl
     refine iteT (Zbb (λΔ=>Δ = nSt (nR ps3 N ts o way as (.val (.adr c.1)) (.val (.int z))) (cs.set i (c.1,l)) (25-o.length)) ?_ ?_)
     ·refine Zav (Zqh rfl sl2 ?_)
      have:=Zit (R:=nR ps3 N ts o way as (.val (.adr c.1)) x8) (cs:=cs) (m:=25-o.length) (a:=c.1) (r:=l) (n:=9) (p:=i) rfl hi;show ((nSt (nR ps3 N ts o way as (.val (.adr c.1)) x8) cs (25-o.length)).set (9+i) (.ownA c.1 (.lst (l.map D.int)))).set 8 (.val (.int z))=_;rw[this];rfl
     rintro Δ1 rfl;have hc2:(cs.set i (c.1,l))[i]?=some (c.1,l):=Wai hi;have hi2:i<(cs.set i (c.1,l)).length:=by rw[Wbs];exact hi
     have sl3:∀(psx:List D) (x7 x8:L2.Slot),(nSt (nR psx N ts o way as x7 x8) (cs.set i (c.1,l)) (25-o.length))[9+i]?=some (.ownA c.1 (.lst (l.map D.int))):=λpsx x7 x8=>Zmd rfl hc2;refine Zmb (a:=c.1) rfl (sl3 ps3 _ _) (Zaz (Zaw (Zcf rfl rfl (Zab (Zga rfl (sl3 ps3 _ _) (Zag (Zbz rfl rfl hp3 (by rw[Wab];omega) (by rw[Wab];omega) λg ps4 hp4 g0 g1=>Zc5 ?_)))))));rw[Wab]at g1;refine Zae rfl ⟨9+i,1+g,l.map D.int,rfl,sl3 ps4 _ _,by rw[Wab];exact small1000 (by omega),by omega,by omega,?_⟩;refine⟨ps4,cs.set i (c.1,l.take (insI (l.map D.int).length (1+g))++z::l.drop (insI (l.map D.int).length (1+g))),.val (.adr c.1),.val (.int z),hp4,⟨(Zk1 hc _).trans i0.as,λp c' hc'=>?_,by rw[Wbs];exact i0.len⟩,?_⟩
     ·by_cases hpi:p=i
      ·subst hpi
       rw[Wai hi]at hc';cases hc';exact⟨rr,hrr,((Zjz l _ z).trans (by rw[<- ez])).trans pr⟩
      ·rw[Wap (Ne.symm hpi)]at hc'
       exact i0.row p c' hc'
     ·have:=Zit (R:=nR ps4 N ts o way as (.val (.adr c.1)) (.val (.int z))) (cs:=cs.set i (c.1,l)) (m:=25-o.length) (a:=c.1) (r:=l.take (insI (l.map D.int).length (1+g))++z::l.drop (insI (l.map D.int).length (1+g))) (n:=9) (p:=i) rfl hi2
      rw[List.set_set]at this;rw[<- this,Wa4,Wc2,Wbe,Wc3];rfl
    ·rw[decide_eq_false hr0]
     exact iteF (Zbc ⟨ps3,cs,.val (.adr c.1),x8,hp3,i0,rfl⟩)
   ·rw[decide_eq_false (by omega)]
    exact iteF (iteF (Zbc ⟨ps2,cs,.val (.adr c.1),x8,hp2,i0,rfl⟩))
 rintro Δ1 ⟨ps4,cs4,x7,x8,hp4,i4,rfl⟩;refine Zid (i:=6) (by rw[i4.as];rfl) ?_;refine Zbo (Zbt (Zab (Zae rfl (Zab (Zbr (Zab (Za7 (by decide) (Zcy (Zae rfl ⟨_,Or.inl rfl,?_,λ_=>true,λd=>match d with|.lst ds=>encRow (lf (ds.map intD))|d=>d,λi d hd=>?_,?_⟩)))))))))
 ·rw[Wab,i4.len];exact small1000 (by omega)
 ·rw[Wad]at hd
  cases z:cs4[i]? with
  |none=>rw[z]at hd;cases hd
  |some c4=>
   rw[z]at hd;have hd:D.lst (c4.2.map D.int)=d:=by simpa using hd
   subst hd;obtain⟨r4,hr4,p4⟩:=i4.row i c4 z;have l4:=(hO.row i r4 hr4).len;have pl4:=p4.length_eq;refine Za6 ⟨rfl,Zbl (Zab (Zae rfl (Zag ⟨c4.2,rfl,by omega,?_,_,rfl⟩)))⟩;show encRow (lf c4.2)=encRow (lf ((c4.2.map D.int).map intD));rw[Zgh]
 have e4:((cs4.map λc=>D.lst (c.2.map D.int)).filter λ_=>true).map (λd=>match d with|.lst ds=>encRow (lf (ds.map intD))|d=>d)=(cs4.map λc=>lf c.2).map encRow:=by
  rw[Wa2.mpr (by simp),Wal,Wal];refine Wa0 λc _=>?_;show encRow (lf ((c.2.map D.int).map intD))=encRow (lf c.2);rw[Zgh]
 rw[e4];refine Zag (Zb2 (Or.inl rfl) (Zag ⟨Zcb,_,rfl,q N ts _ _ hp4 hW ⟨by rw[Wab,i4.len];exact hol,λp r hr=>?_⟩ h1⟩));rw[Wad]at hr;cases z:cs4[p]? with
 |none=>rw[z]at hr;cases hr
 |some c4=>
  rw[z]at hr;have hr:lf c4.2=r:=by simpa using hr
  subst hr;obtain⟨r4,hr4,p4⟩:=i4.row p c4 z;exact Zhh (p4.trans (hO.row p r4 hr4).perm)
end
section
variable {N:Nat}{ts:List (Int × Int)}{o:List (List Int)}(hW:WebOk (N:Int) ts) (hO:OrdOk (N:Int) ts o) (h1:OneP N ts)
variable {M:Nat}{us:List (Int × Int)}{v:List (List Int)}(hV:WebOk (M:Int) us) (hU:OrdOk (M:Int) us v) (h2:OneP M us)
include hW hO h1
theorem Ze7 (hz:ts.length≠0):∃a,a<2*ts.length/\bestOf (codesOf ts o)=cdL ts o (numS ts o a):=by
 have nz:codesOf ts o≠[]:=λz=>by
  have:=congrArg Wbd z;unfold codesOf at this;rw[Wab,Wbh]at this;have:2*ts.length=0:=this;omega
 obtain⟨a,_⟩:=Ze6 nz;obtain⟨k,hk,e⟩:=Wa9.mp a;exact⟨k,Wa5.mp hk,e.symm⟩
theorem Zjr:(bestOf (codesOf ts o)).length=2*ts.length:=by
 by_cases z:ts.length=0
 ·unfold codesOf
  rw[z];rfl
 ·obtain⟨a,ha,e⟩:=Ze7 hW hO h1 z
  obtain⟨_,_,_,A⟩:=Zc1 hW hO ha;rw[e,Zdr];exact(Zct hW hO h1 ha A).2
theorem Zla {σ:Int->Int}(cm:Cm ts o us v σ):renS ts o us v≠[]:=by
 unfold renS;by_cases z:ts.length=0
 ·have:=cm.len
  rw[if_pos z,if_pos (by omega)];exact List.cons_ne_nil _ _
 ·rw[if_neg z]
  obtain⟨e,ee,he⟩:=Zce (cm.rg 0 ⟨Int.le_refl _,by omega⟩);exact List.ne_nil_of_mem (Wc6.mpr ⟨e,Wa5.mpr he,Zfs hW hO h1 z cm ee⟩)
include hV hU h2
theorem Zqp {a e:Nat}(ea:a<2*ts.length) (he:e<2*us.length) (hc:cdL us v (numS us v e)=cdL ts o (numS ts o a)):Cm ts o us v (λx=>(numS us v e).getD ((numS ts o a).idxOf x) 0):=by
 obtain⟨_,_,_,A⟩:=Zc1 hW hO ea;obtain⟨_,_,_,B⟩:=Zc1 hV hU he;obtain⟨fa,la⟩:=Zct hW hO h1 ea A;obtain⟨fb,lb⟩:=Zct hV hU h2 he B;generalize numS ts o a=l at *;generalize numS us v e=m at *;have ll:m.length=l.length:=by have:=congrArg Wbd hc;rw[Zdr,Zdr]at this;exact this
 have inl:∀x,InE ts.length x->x∈l:=λx hx=>by obtain⟨k,rfl,hk⟩:=Zce hx;exact fa k hk
 have gm:∀x∈l,m[l.idxOf x]?=some (m.getD (l.idxOf x) 0):=λx hx=>by
  have:=(Zat hx).1;rw[Wac,Waa (by omega)];rfl
 have cd:∀x∈l,m.idxOf (pI (m.getD (l.idxOf x) 0))=l.idxOf (pI x)/\m.idxOf (fI us v (m.getD (l.idxOf x) 0))=l.idxOf (fI ts o x):=λx hx=>by
  have i1:=Zat hx;have c1:(cdL us v m)[l.idxOf x]?=(cdL ts o l)[l.idxOf x]?:=by rw[hc]
  unfold cdL at c1;rw[Wad,Wad,i1.2.1,gm x hx]at c1;have c2:=Wa7.inj c1;have e1:=congrArg Prod.fst c2;have e2:=congrArg Prod.snd c2;exact⟨by exact Int.ofNat.inj e1,by exact Int.ofNat.inj e2⟩
 have back:∀y∈m,∀k,m.idxOf y=k->m.getD k 0=y:=λy hy k hk=>by
  have:=(Zat hy).2.1;rw[hk]at this;rw[Wac,this];rfl
 refine⟨by omega,λx hx=>?_,λx y hx hy hxy=>?_,λx hx=>?_,λx hx=>?_⟩
 ·have:=B.cl _ (Wan (gm x (inl x hx)))
  exact⟨this.1,this.2.1⟩
 ·have g1:=gm x (inl x hx)
  have g2:=gm y (inl y hy);have hxy:m.getD (l.idxOf x) 0=m.getD (l.idxOf y) 0:=hxy;rw[<- hxy]at g2;have:l.idxOf x=l.idxOf y:=(Zdk B.nd g1).symm.trans (Zdk B.nd g2);have a1:=(Zat (inl x hx)).2.1;have a2:=(Zat (inl y hy)).2.1;rw[this]at a1;exact Wa7.inj (a1.symm.trans a2)
 ·have c:=cd x (inl x hx)
  have:=B.cl _ (Wan (gm x (inl x hx)));exact back _ this.2.2.1 _ c.1
 ·have c:=cd x (inl x hx)
  have:=B.cl _ (Wan (gm x (inl x hx)));exact back _ this.2.2.2 _ c.2
theorem Zos:(renS ts o us v=[])↔bestOf (codesOf ts o)≠bestOf (codesOf us v):=by
 have bl:=Zjr hW hO h1;have bm:=Zjr hV hU h2;constructor
 ·intro hR hb
  rw[hb,bm]at bl;by_cases z:ts.length=0
  ·unfold renS at hR
   rw[if_pos z,if_pos (by omega)]at hR;cases hR
  ·obtain⟨a,ha,e1⟩:=Ze7 hW hO h1 z
   obtain⟨b,hb',e2⟩:=Ze7 hV hU h2 (by omega);exact Zla hW hO h1 (Zqp hW hO h1 hV hU h2 ha hb' (e2.symm.trans (hb.symm.trans e1))) hR
 ·intro hb
  apply Classical.byContradiction;intro hR;obtain⟨r,hr⟩:=List.exists_mem_of_ne_nil _ hR;obtain⟨σ,hc,_⟩:=Zr7 (N:=N) hr;exact hb (Zmf (Zkr hW hO hc))
end
def FlD (x:Nat × List (Int × Int) × List (List Int)):D:=.tup [encWeb (x.1:Int) x.2.1,encOrd x.2.2]
def FlOk (x:Nat × List (Int × Int) × List (List Int)):Prop:=WebOk (x.1:Int) x.2.1/\OrdOk (x.1:Int) x.2.1 x.2.2/\OneP x.1 x.2.1
noncomputable def bcD (x:Nat × List (Int × Int) × List (List Int)):D:=.tup ((bestOf (codesOf x.2.1 x.2.2)).map encTie)
theorem Zql {x y:Nat × List (Int × Int) × List (List Int)}(h:FlD x=FlD y):x=y:=by
 obtain⟨n,ts,o⟩:=x;obtain⟨m,us,v⟩:=y;have h:D.tup [.tup [.int n,.tup (ts.map encTie)],.tup (o.map encRow)]=D.tup [.tup [.int m,.tup (us.map encTie)],.tup (v.map encRow)]:=h;injection h with h
 injection h with h1 h2
 injection h1 with h1
 injection h1 with h3 h4
 injection h3 with h3
 injection h4 with h4 _
 injection h4 with h4
 injection h2 with h2 _
 injection h2 with h2
 have e1:n=m:=Int.ofNat.inj h3;have e2:ts=us:=(Wdr λa b e=>by
  have e:D.tup [.int a.1,.int a.2]=D.tup [.int b.1,.int b.2]:=e;injection e with e
  injection e with x1 x2
  injection x2 with x2 _
  injection x1 with x1
  injection x2 with x2
  exact Prod.ext x1 x2).mp h4
 have e3:o=v:=(Wdr λa b e=>by
  have e:D.tup (a.map D.int)=D.tup (b.map D.int):=e;injection e with e
  exact(Wdr λc d e=>by injection e).mp e).mp h2
 rw[e1,e2,e3]
noncomputable def codeD (d:D):D:=by
 classical exact if h:∃x,FlD x=d then bcD (Classical.choose h) else d
theorem Zi8 (x:Nat × List (Int × Int) × List (List Int)):codeD (FlD x)=bcD x:=by
 have h:∃y,FlD y=FlD x:=⟨x,rfl⟩;unfold codeD;rw[dif_pos h,Zql (Classical.choose_spec h)]
section
variable {P:Program}{w:World}{K:W.Frag}{mg:Str->Option Value}{base:Heap}{f:Addr}{fd:FuncData}
theorem ok_law (mb:Mb mg) (C25:Callee P w K mg base 1 "_law_pen" ["_law_script"] (spN K fPen)) (C21:Callee P w K mg base 1 "_law_draw" ["_law_pen_here","_law_many"] (spB K fDraw)) (C23:Callee P w K mg base 2 "_law_one_part" ["_law_pen_here","_law_limit"] (spB K fOneP)) (C26:Callee P w K mg base 3 "_law_plain_order" ["_law_pen_here","_law_web"] (spB K fPlain)) (C22:Callee P w K mg base 4 "_law_near" ["_law_pen_here","_law_web","_law_order_here"] (spB K fNear)) (C30:Callee P w K mg base 5 "code" ["web","order"] (spD K fCode)) (C29:Callee P w K mg base 5 "alike" ["one","order","other","its_order"] (spD K fAlike))
  (F:Fun K "law" "law" s_law f fd):FnOk P w K mg base CX0 8 f fd ["_law_script"] (spD K fLaw):=by
 refine F.ok sc_law (Zcu λds Post h=>by obtain⟨_,rfl,_⟩:=h;rfl) (λcdv A outer s H vs Q E hr h=>?_);have hu:=Zch hr;have hv:=Zm1 hr;refine⟨_,(Zad (Zap (i:=1) sc_law.nd rfl (Or.inl rfl) (Za3 C25 (hr.mono (by decide)) (Zaa (pv 0) Zac))) (Zad (Zap (i:=2) sc_law.nd rfl (Or.inl rfl) (Za0 Zlb rfl (mb "int" (by decide)) Zrr (Zaa (Ziu Zb1 (Za3 C21 (hr.mono (by decide)) (Zaa (pv 1) (Zaa Zaf Zac))) Zaf (nomark _)) Zac))) (Zad (Zap (i:=3) sc_law.nd rfl (Or.inl rfl) (Za3 C23 (hr.mono (by decide)) (Zaa (pv 1) (Zaa (Zan (ixK K hu) (Zcc (Zaa Zaf (Zaa Zaf Zac))) (pv 2) (λ_ _=>rfl)) Zac)))) (Zad (Zap (i:=4) sc_law.nd rfl (Or.inl rfl) (Zcc (Zaa (Zby (Zaa (pv 3) (Zaa (Za3 C26 (hr.mono (by decide)) (Zaa (pv 1) (Zaa (pv 3) Zac))) Zac))) Zac))) (Zad (Zcx PassesOwn.never rfl (Za2 rfl (mb "range" (by decide)) (Zaa (Zan (ixK K hu) (Zcc (Zaa (Zar (addK K) Zaf (Za3 C21 (hr.mono (by decide)) (Zaa (pv 1) (Zaa Zaf Zac)))) (Zaa Zaf Zac))) (pv 2) (λ_ _=>rfl)) Zac)) (Zak (i:=5) sc_law.nd rfl (Or.inl rfl)) (Zad (Zap (i:=6) sc_law.nd rfl (Or.inl rfl) (Zan (ixK K hu) (pv 4) (Za3 C21 (hr.mono (by decide)) (Zaa (pv 1) (Zaa (Zaj (lenK K) rfl (mb "len" (by decide)) Zbm (Zaa (pv 4) Zac)) Zac))) (λ_ _=>rfl))) (Zai (Zb4 (bmK K PySem.F.plainAttrs_list PySem.F.slot_list_append PySem.F.type_list_append Zc4 (pv 4) (Zaa (Za3 C22 (hr.mono (by decide)) (Zaa (pv 1) (Zaa (Zan (ixK K hu) (pv 6) Zaf (λ_ _=>rfl)) (Zaa (Zan (ixK K hu) (pv 6) Zaf (λ_ _=>rfl)) Zac)))) Zac)))))) (Zad (Zdc (i:=7) ["_law_floor"] (show CompSc (defScope s_law) ["_law_script","_law_pen_here","_law_great","_law_web","_law_floors","_law_k","_law_one","_law_codes","_law_j","_law_found"] _ [] [] from ⟨rfl,by decide +kernel,by decide +kernel,by decide +kernel,rfl,by decide +kernel⟩) rfl sc_law.nd rfl (Or.inl rfl) (seqK K (pv 4)) (λ_ _ _ _ _=>(Zak (i:=0) (show List.Nodup (["_law_floor"]:List Str) from by decide) rfl (Or.inl rfl))) (λ_ _ _ _ _=>Za4) (λ_ _ _ _ _=>(Za3 C30 (hr.mono (by decide)) (Zaa (Zan (ixK K hu) (pv 0) Zaf (λ_ _=>rfl)) (Zaa (Zan (ixK K hu) (pv 0) Zaf (λ_ _=>rfl)) Zac))))) (Zad (Zcx PassesOwn.never rfl (Za2 rfl (mb "range" (by decide)) (Zaa (Zaj (lenK K) rfl (mb "len" (by decide)) Zbm (Zaa (pv 4) Zac)) Zac)) (Zak (i:=8) sc_law.nd rfl (Or.inl rfl)) (Zai (Zcx PassesOwn.never rfl (Za2 rfl (mb "range" (by decide)) (Zaa (Zaj (lenK K) rfl (mb "len" (by decide)) Zbm (Zaa (pv 4) Zac)) Zac)) (Zak (i:=5) sc_law.nd rfl (Or.inl rfl)) (Zad (Zap (i:=9) sc_law.nd rfl (Or.inl rfl) (Za3 C29 (hr.mono (by decide)) (Zaa (Zan (ixK K hu) (Zan (ixK K hu) (pv 4) (pv 8) (λ_ _=>rfl)) Zaf (λ_ _=>rfl)) (Zaa (Zan (ixK K hu) (Zan (ixK K hu) (pv 4) (pv 8) (λ_ _=>rfl)) Zaf (λ_ _=>rfl)) (Zaa (Zan (ixK K hu) (Zan (ixK K hu) (pv 4) (pv 5) (λ_ _=>rfl)) Zaf (λ_ _=>rfl)) (Zaa (Zan (ixK K hu) (Zan (ixK K hu) (pv 4) (pv 5) (λ_ _=>rfl)) Zaf (λ_ _=>rfl)) Zac)))))) (Zai (Zcj (PW.pt (pw_or (Zax Zrm (Ziu Zo9 (pv 9) Zlp (nomark _)) (Ziu (neTK K hv) (Zan (ixK K hu) (pv 7) (pv 8) (λ_ _=>rfl)) (Zan (ixK K hu) (pv 7) (pv 5) (λ_ _=>rfl)) (nomark _)) (nomark _)) (pw_or1 (PW.pt (pw_and (Zax Zb1 (pv 8) (pv 5) (nomark _)) (pw_and1 (Zax Zo9 (pv 9) Zlp (nomark _)))))))) (Zai (Zba Zrl)) Zbd)))))) (Zai (Zba Zrl))))))))),Zgj (λds Post hf=>?_) h⟩;obtain⟨ns,rfl,hl,q⟩:=hf;refine⟨by simp,?_⟩;dsimp only[startD,Wbw,Wbq,Wbd,Waj];refine Zam (Zdu (Zeb (Zab (Zae rfl (Zag ⟨ns,rfl,hl,λps hp=>?_⟩)))));refine Zbb (λΔ=>∃(ps1:List D) (g:Int),Pen ps1/\(g=0\/g=1) /\ Δ = [.val (.scr (ns.map .int)),.own (.lst ps1),.val (.int g),.any,.any,.any,.any,.any,.any,.any]) ?_ ?_
 ·refine Zav (Zbr (Zab (Zaz (Zh6 rfl rfl hp (by decide) (by decide) λr ps1 hp1 r0 r1=>Zaw (Zfj (Zag (Zqb ?_)))))))
  refine⟨ps1,_,hp1,?_,rfl⟩;by_cases c:r=3
  ·rw[if_pos (decide_eq_true c)];exact Or.inr rfl
  ·rw[if_neg (by rw[decide_eq_false c];decide)];exact Or.inl rfl
 rintro Δ1 ⟨ps1,g,hp1,hg,rfl⟩;obtain⟨L,hL0,hL1,eL⟩:∃L:Int,0<=L/\L<=24/\atI [D.int 8,D.int 24] g=some (.int L):=by
  rcases hg with rfl|rfl
  ·exact⟨8,by decide,by decide,rfl⟩
  ·exact⟨24,by decide,by decide,rfl⟩
 refine Zam (Zav (Zcf rfl rfl (Zab (Zaz (Zjv (Zab (Zaw (Zab (Zaw (Zag ⟨Zcb,Zae rfl (Zbu eL (Zag (Zlv rfl rfl hp1 hL0 hL1 λN ts ps2 hp2 hW h1=>?_)))⟩))))))))));refine Zbb (λΔ=>∃(ps3:List D) (fl:List (Nat × List (Int × Int) × List (List Int))),Pen ps3/\fl.length=1/\(∀x∈fl,FlOk x) /\ Δ = [.val (.scr (ns.map .int)),.own (.lst ps3),.val (.int g),.val (encWeb (N:Int) ts),.own (.lst (fl.map FlD)),.any,.any,.any,.any,.any]) ?_ ?_
 ·refine Zdu (Zdi (Zab (Zbt (Zab (Zae rfl (Zab (Zcf rfl rfl (Zab (Zae rfl (Zag (Zor rfl rfl hp2 hW λo ps3 hp3 hO=>?_)))))))))))
  exact Zag ⟨Zcb,Zag ⟨Wb0 (small1000 (by show 1<=1000;omega)),ps3,[(N,ts,o)],hp3,rfl,λx hx=>by rw[Wa3]at hx;subst hx;exact⟨hW,hO,h1⟩,rfl⟩⟩
 rintro Δ1 ⟨ps3,fl0,hp3,fl1,f0,rfl⟩;refine Zbb (λΔ=>∃(ps4:List D) (fl:List (Nat × List (Int × Int) × List (List Int))) (x5 x6:L2.Slot),Pen ps4/\fl.length<=4/\(∀x∈fl,FlOk x) /\ Δ = [.val (.scr (ns.map .int)),.own (.lst ps4),.val (.int g),.val (encWeb (N:Int) ts),.own (.lst (fl.map FlD)),x5,x6,.any,.any,.any]) ?_ ?_
 ·refine Zc0 (Za1 (Zab (Zaz (Zjv (Zab (Zaz (Zaw (Zh6 rfl rfl hp3 (by decide) (by decide) λr ps4 hp4 r0 r1=>Zc5 (Zab (Zaw (Zag ⟨Zcb,?_⟩)))))))))))
  obtain⟨c,hc0,hc1,ec⟩:∃c:Int,0<=c/\c<=3/\atI [D.int (2+r),D.int 1] g=some (.int c):=by
   rcases hg with rfl|rfl
   ·exact⟨2+r,by omega,by omega,rfl⟩
   ·exact⟨1,by decide,by decide,rfl⟩
  refine Zae rfl (Zbu ec (Zag ⟨c,rfl,by omega,by omega,λi Δ=>∃(ps4:List D) (fl:List (Nat × List (Int × Int) × List (List Int))) (x5 x6:L2.Slot),Pen ps4/\fl.length=1+i/\(∀x∈fl,FlOk x) /\ Δ = [.val (.scr (ns.map .int)),.own (.lst ps4),.val (.int g),.val (encWeb (N:Int) ts),.own (.lst (fl.map FlD)),x5,x6,.any,.any,.any],⟨ps4,fl0,_,_,hp4,fl1,f0,rfl⟩,?_,?_⟩))
  ·rintro i d Δ2 hd ⟨ps5,fl,x5,x6,hp5,fl2,f2,rfl⟩
   obtain⟨hi,rfl⟩:=Zbj hd;refine Zb0 (Zam (Zav (Zgb rfl rfl (Zcf rfl rfl (Zab (Zem rfl rfl (Zag (Zbz rfl rfl hp5 (by rw[Wab];omega) (by rw[Wab];omega) λr ps6 hp6 r0 r1=>?_))))))));rw[Wab]at r1;obtain⟨x,hx,ex⟩:=Zi4 (f:=FlD) r0 r1;refine⟨_,_,r,FlD x,rfl,rfl,rfl,ex,?_⟩;obtain⟨W,U,O1⟩:=f2 x (Wan hx);refine Zlg rfl rfl (Zcf rfl rfl (Zab (Za9 (Zbs (d:=encWeb (x.1:Int) x.2.1) rfl rfl) (Zab (Za9 (Zbs (d:=encOrd x.2.2) rfl rfl) (Zag ⟨_,_,rfl,rfl,hp6,x.1,x.2.1,x.2.2,rfl,W,U,O1,λM us v ps7 hp7 hV hU h2=>?_⟩))))));refine⟨_,_,rfl,rfl,by rw[Wab];exact small1000 (by omega),ps7,fl++[(M,us,v)],.val (.int (0+(i:Int))),.val (FlD x),hp7,by rw[Waw,fl2];rfl,λy hy=>?_,?_⟩
   ·rcases Wbr.mp hy with z|z
    ·exact f2 y z
    ·rw[Wa3]at z;subst z;exact⟨hV,hU,h2⟩
   ·rw[Wa4];rfl
  ·rintro Δ2 ⟨ps5,fl,x5,x6,hp5,fl2,f2,rfl⟩
   rw[Zau]at fl2;exact⟨ps5,fl,x5,x6,hp5,by omega,f2,rfl⟩
 rintro Δ1 ⟨ps4,fl,x5,x6,hp4,fl4,f4,rfl⟩;refine Zbb (λΔ=>Δ = [.val (.scr (ns.map .int)),.own (.lst ps4),.val (.int g),.val (encWeb (N:Int) ts),.val (.lst (fl.map FlD)),x5,x6,.val (.lst (fl.map bcD)),.any,.any]) ?_ ?_
 ·refine Zav (Za7 (by decide) (Zcy (Zgw rfl ⟨_,Or.inl rfl,by rw[Wab];exact small1000 (by omega),λ_=>true,codeD,λi d hd=>?_,?_⟩)))
  ·rw[Wad]at hd
   cases z:fl[i]? with
   |none=>rw[z]at hd;cases hd
   |some x=>
    rw[z]at hd;have hd:FlD x=d:=by simpa using hd
    subst hd;obtain⟨W,U,O1⟩:=f4 x (Wan z);refine Za6 ⟨rfl,Zbl (Zei (Zal (Zbs (d:=encWeb (x.1:Int) x.2.1) rfl rfl) (Zal (Zbs (d:=encOrd x.2.2) rfl rfl) Zcg)) ⟨x.1,x.2.1,x.2.2,rfl,W,U,O1,?_,_,rfl⟩)⟩;rw[Zi8];rfl
  ·rw[Wa2.mpr (by simp),Wal,show codeD∘FlD=bcD from funext Zi8]
   rfl
 rintro Δ1 rfl;refine Zbb (λ_=>True) ?_ (λΔ1 _=>Zbo (Zrg q));refine Zc0 (Za1 (Zab (Za9 (Ziy (Zah rfl)) (Zag ⟨_,rfl,by omega,by rw[Wab];omega,?_⟩))));rw[Wab,Wah];refine⟨λ_ Δ=>∃y5 y8 y9:L2.Slot,Δ = [.val (.scr (ns.map .int)),.own (.lst ps4),.val (.int g),.val (encWeb (N:Int) ts),.val (.lst (fl.map FlD)),y5,x6,.val (.lst (fl.map bcD)),y8,y9],⟨_,_,_,rfl⟩,?_,λ_ _=>trivial⟩;rintro j d Δ2 hd ⟨y5,y8,y9,rfl⟩;obtain⟨hj,rfl⟩:=Zbj hd;rw[Wbj];refine Zb0 (Zc0 (Za1 (Zab (Za9 (Ziy (Zah rfl)) (Zag ⟨_,rfl,by omega,by rw[Wab];omega,?_⟩)))));rw[Wab,Wah];refine⟨λ_ Δ=>∃y5 y9:L2.Slot,Δ = [.val (.scr (ns.map .int)),.own (.lst ps4),.val (.int g),.val (encWeb (N:Int) ts),.val (.lst (fl.map FlD)),y5,x6,.val (.lst (fl.map bcD)),.val (.int (j:Int)),y9],⟨_,_,rfl⟩,?_,λ_ ⟨a,b,e⟩=>⟨a,_,b,e⟩⟩;rintro k d Δ2 hd ⟨y5,y9,rfl⟩;obtain⟨hk,rfl⟩:=Zbj hd;rw[Wbj];obtain⟨x,hx⟩:∃x,fl[j]?=some x:=⟨_,Waa hj⟩;obtain⟨y,hy⟩:∃y,fl[k]?=some y:=⟨_,Waa hk⟩;have aj:atI (fl.map FlD) (j:Int)=some (.tup [encWeb (x.1:Int) x.2.1,encOrd x.2.2]):=Zbi (by rw[Wad,hx];rfl);have ak:atI (fl.map FlD) (k:Int)=some (.tup [encWeb (y.1:Int) y.2.1,encOrd y.2.2]):=Zbi (by rw[Wad,hy];rfl);have bj:atI (fl.map bcD) (j:Int)=some (.tup ((bestOf (codesOf x.2.1 x.2.2)).map encTie)):=Zbi (by rw[Wad,hx];rfl);have bk:atI (fl.map bcD) (k:Int)=some (.tup ((bestOf (codesOf y.2.1 y.2.2)).map encTie)):=Zbi (by rw[Wad,hy];rfl);obtain⟨W,U,O1⟩:=f4 x (Wan hx);obtain⟨W',U',O1'⟩:=f4 y (Wan hy);have key:=Zos W U O1 W' U' O1';have self:j=k->renS x.2.1 x.2.2 y.2.1 y.2.2≠[]:=λe=>by
  subst e;have:x=y:=Wa7.inj (hx.symm.trans hy);subst this;exact Zla W U O1 (σ:=λx=>x) ⟨rfl,λx h=>h,λx y _ _ e=>e,λx _=>rfl,λx _=>rfl⟩
 refine Zb0 (Zam (Zav (Zbl (Zei (Zal (Zdm (d:=encWeb (x.1:Int) x.2.1) (Zbp (Zah rfl) (Zah rfl) aj) Zay rfl) (Zal (Zdm (d:=encOrd x.2.2) (Zbp (Zah rfl) (Zah rfl) aj) Zay rfl) (Zal (Zdm (d:=encWeb (y.1:Int) y.2.1) (Zbp (Zah rfl) (Zah rfl) ak) Zay rfl) (Zal (Zdm (d:=encOrd y.2.2) (Zbp (Zah rfl) (Zah rfl) ak) Zay rfl) Zcg)))) ⟨x.1,x.2.1,x.2.2,y.1,y.2.1,y.2.2,rfl,W,U,O1,W',U',O1',?_⟩))));generalize renS x.2.1 x.2.2 y.2.1 y.2.2=R at *;cases R with
 |nil=>
  have ne:j≠k:=λe=>self e rfl;refine Zcv (Znt (Zbh (Zaz (Zaz (Zae rfl (Zho (Ztb (Zaz (Za9 (Zbp (Zah rfl) (Zah rfl) bj) (Za9 (Zbp (Zah rfl) (Zah rfl) bk) (Zo1 (n:=2) (by omega) (Zd7 _) (Zd7 _) (Zpc ⟨_,rfl,?_⟩))))))))))));rw[Zha,decide_eq_false (key.mp rfl)];refine iteF (Zjf (Zbh (Zaz (Zae rfl (Zae rfl (Zfj ⟨_,rfl,?_⟩))))));rw[decide_eq_false (by omega)];exact iteF (iteF (Zbc ⟨_,_,rfl⟩))
 |cons r R=>
  have eb:bestOf (codesOf x.2.1 x.2.2)=bestOf (codesOf y.2.1 y.2.2):=Classical.byContradiction λz=>absurd (key.mpr z) (List.cons_ne_nil _ _);refine Zcv (Znt (Zbh (Zaz (Zaz (Zae rfl (Zho (Zmx (Zaz (Za9 (Zbp (Zah rfl) (Zah rfl) bj) (Za9 (Zbp (Zah rfl) (Zah rfl) bk) (Zo1 (n:=2) (by omega) (Zd7 _) (Zd7 _) (Zpc ⟨_,rfl,?_⟩))))))))))));rw[Zha,decide_eq_true eb];refine iteF (Zjf (Zbh (Zaz (Zae rfl (Zae rfl (Zfj ⟨_,rfl,?_⟩))))));by_cases c:(j:Int)=(k:Int)
  ·rw[decide_eq_true c]
   exact iteT (Zbh (Zaz (Zae rfl (Zho (Zmx ⟨_,rfl,iteF (Zbc ⟨_,_,rfl⟩)⟩)))))
  ·rw[decide_eq_false c]
   exact iteF (iteF (Zbc ⟨_,_,rfl⟩))
end
theorem lenS {us:List Value}{n:Nat}(h:us.length=n+1):∃a t,us=a::t/\t.length=n:=by
 cases us with
 |nil=>exact absurd h.symm (Nat.succ_ne_zero n)
 |cons a t=>exact⟨a,t,rfl,Nat.succ.inj h⟩
theorem bK1 {α:Type _}{g r:List Value -> α}(h:∀a0,g [a0]=r [a0]) (us:List Value) (l:us.length=1):g us=r us:=by
 obtain⟨a0,u0,rfl,h0⟩:=lenS l;obtain rfl:=Wbp h0;exact h a0
theorem bK2 {α:Type _}{g r:List Value -> α}(h:∀a0 a1,g [a0,a1]=r [a0,a1]) (us:List Value) (l:us.length=2):g us=r us:=by
 obtain⟨a0,u0,rfl,h0⟩:=lenS l;obtain⟨a1,u1,rfl,h1⟩:=lenS h0;obtain rfl:=Wbp h1;exact h a0 a1
theorem bK3 {α:Type _}{g r:List Value -> α}(h:∀a0 a1 a2,g [a0,a1,a2]=r [a0,a1,a2]) (us:List Value) (l:us.length=3):g us=r us:=by
 obtain⟨a0,u0,rfl,h0⟩:=lenS l;obtain⟨a1,u1,rfl,h1⟩:=lenS h0;obtain⟨a2,u2,rfl,h2⟩:=lenS h1;obtain rfl:=Wbp h2;exact h a0 a1 a2
theorem bK4 {α:Type _}{g r:List Value -> α}(h:∀a0 a1 a2 a3,g [a0,a1,a2,a3]=r [a0,a1,a2,a3]) (us:List Value) (l:us.length=4):g us=r us:=by
 obtain⟨a0,u0,rfl,h0⟩:=lenS l;obtain⟨a1,u1,rfl,h1⟩:=lenS h0;obtain⟨a2,u2,rfl,h2⟩:=lenS h1;obtain⟨a3,u3,rfl,h3⟩:=lenS h2;obtain rfl:=Wbp h3;exact h a0 a1 a2 a3
def FnE (K:W.Frag) (x:Str) (st:Stmt):Prop:=∃(f:Addr) (fd:FuncData),W.nsIn K mainGlobals x=some (some (.ref f))/\Fun K x x st f fd
theorem fnE {K:W.Frag}{x:Str}{st:Stmt}{f:Addr}{oc kV doc pm cdv ct:Value}{od an:Option Addr}{sl:Array (Option Value)}(a:W.nsIn K mainGlobals x=some (some (.ref f))) (l:K.lookup f=some ⟨oc,od,.func (W.fnOf x x (defArgs st) (defBody st) (defScope st) .none kV doc pm an cdv ct),sl⟩) (c:W.codeIn K cdv x=true) (k:W.keepIn K (.ref f)=true):FnE K x st:=⟨f,_,a,Zsk l c k⟩
theorem Zqn {P:Program}{w:World}{K:W.Frag}{mg:Str->Option Value}{base h:Heap}(X:K.In h) (G:h.Ns mainGlobals mg) {x:Str}{st:Stmt}{ps:List Str}{lv:Nat}{sp:Sp}(e:FnE K x st) (ok:∀{f:Addr}{fd:FuncData},Fun K x x st f fd->FnOk P w K mg base CX0 lv f fd ps sp) (hb:∀(kV doc pm:Value) (an:Option Addr) (cdv ct:Value) (us:List Value),us.length=ps.length->bindArgs (W.fnOf x x (defArgs st) (defBody st) (defScope st) .none kV doc pm an cdv ct) ⟨us,[]⟩=pure (ps.zip us)):Callee P w K mg base lv x ps sp:=by
 obtain⟨f,fd,a,F⟩:=e;exact⟨⟨f,fd,ok F,F.binds hb,F.kp,W.mg_of X G a⟩⟩
theorem all_mk {l:PySem.W.OpenLaw}{w:World}{K:W.Frag}{h:Heap}{mg:Str->Option Value}{fa:Addr}(X:K.In h) (G:h.Ns mainGlobals mg) (hfa:mg "law" = some (.ref fa))
  (e1:FnE K "_law_draw" s_law_draw)
  (e2:FnE K "_law_pen" s_law_pen)
  (e3:FnE K "_law_order" s_law_order)
  (e4:FnE K "_law_begun" s_law_begun)
  (e5:FnE K "_law_one_part" s_law_one_part)
  (e6:FnE K "_law_plain_order" s_law_plain_order)
  (e7:FnE K "place_of" s_place_of)
  (e8:FnE K "parts_of" s_parts_of)
  (e9:FnE K "refuse_parts" s_refuse_parts)
  (e10:FnE K "follower" s_follower)
  (e11:FnE K "numbered_from" s_numbered_from)
  (e12:FnE K "code_by" s_code_by)
  (e13:FnE K "code_from" s_code_from)
  (e14:FnE K "code" s_code)
  (e15:FnE K "renamings" s_renamings)
  (e16:FnE K "alike" s_alike)
  (e17:FnE K "_law_shuffled" s_law_shuffled)
  (e18:FnE K "_law_renamed" s_law_renamed)
  (e19:FnE K "_law_near" s_law_near)
  (e20:FnE K "law" s_law)
  (z0:W.nsIn K mainGlobals "abs" = some none)
  (z1:W.nsIn K mainGlobals "int" = some none)
  (z2:W.nsIn K mainGlobals "len" = some none)
  (z3:W.nsIn K mainGlobals "list" = some none)
  (z4:W.nsIn K mainGlobals "max" = some none)
  (z5:W.nsIn K mainGlobals "min" = some none)
  (z6:W.nsIn K mainGlobals "range" = some none)
  (z7:W.nsIn K mainGlobals "set" = some none)
  (z8:W.nsIn K mainGlobals "sorted" = some none)
  (z9:W.nsIn K mainGlobals "tuple" = some none) :
  ∃fd:FuncData,(∀(s:Shared) (v:Value),BindsTo s fd ⟨[v],[]⟩ [("_law_script",v)])/\∀base:Heap,K.In base->base.Ns mainGlobals mg->FnOk l.prog w K mg base CX0 8 fa fd ["_law_script"] (spD K fLaw):=by
 obtain⟨f,fd,a,F⟩:=e20;have e:=hfa.symm.trans (W.mg_of X G a);cases e;have mb:Mb mg:=by
  intro x hx;simp only[Wat,Wco,or_false]at hx;rcases hx with rfl|rfl|rfl|rfl|rfl|rfl|rfl|rfl|rfl|rfl
  ·exact W.mg_none_of X G z0
  ·exact W.mg_none_of X G z1
  ·exact W.mg_none_of X G z2
  ·exact W.mg_none_of X G z3
  ·exact W.mg_none_of X G z4
  ·exact W.mg_none_of X G z5
  ·exact W.mg_none_of X G z6
  ·exact W.mg_none_of X G z7
  ·exact W.mg_none_of X G z8
  ·exact W.mg_none_of X G z9
 obtain⟨oc,od,kV,doc,pm,an,cdv,ct,osl,rfl,lk,hcd⟩:=F.ex;refine⟨W.fnOf "law" "law" (defArgs s_law) (defBody s_law) (defScope s_law) .none kV doc pm an cdv ct,λs v=>.of_eq rfl,λbase _ _=>?_⟩;have M:=@Zqn l.prog w K mg base h X G;have C1:=M e1 (Zqs mb) λ_ _ _ _ _ _=>bK2 λ_ _=>rfl;have C2:=M e2 (Zsa mb) λ_ _ _ _ _ _=>bK1 λ_=>rfl;have C3:=M e3 (Zou mb C1) λ_ _ _ _ _ _=>bK2 λ_ _=>rfl;have C4:=M e4 (Zns mb) λ_ _ _ _ _ _=>bK1 λ_=>rfl;have C5:=M e5 (Zqk mb C1) λ_ _ _ _ _ _=>bK2 λ_ _=>rfl;have C6:=M e6 (Zoq mb C3 C1 C4) λ_ _ _ _ _ _=>bK2 λ_ _=>rfl;have C7:=M e7 (Zow mb) λ_ _ _ _ _ _=>bK2 λ_ _=>rfl;have C8:=M e8 (Zii mb) λ_ _ _ _ _ _=>bK1 λ_=>rfl;have C9:=M e9 (Zsb mb C8) λ_ _ _ _ _ _=>bK1 λ_=>rfl;have C10:=M e10 (Zi0 mb C7) λ_ _ _ _ _ _=>bK3 λ_ _ _=>rfl;have C11:=M e11 (Zqt mb C10) λ_ _ _ _ _ _=>bK3 λ_ _ _=>rfl;have C12:=M e12 (Zk0 mb C10) λ_ _ _ _ _ _=>bK3 λ_ _ _=>rfl;have C13:=M e13 (Zn2 mb C9 C12 C11) λ_ _ _ _ _ _=>bK3 λ_ _ _=>rfl;have C14:=M e14 (Zpl mb C9 C13) λ_ _ _ _ _ _=>bK2 λ_ _=>rfl;have C15:=M e15 (Zse mb C11 C12) λ_ _ _ _ _ _=>bK4 λ_ _ _ _=>rfl;have C16:=M e16 (Zni mb C9 C15) λ_ _ _ _ _ _=>bK4 λ_ _ _ _=>rfl;have C17:=M e17 (Zq7 mb C1) λ_ _ _ _ _ _=>bK2 λ_ _=>rfl;have C18:=M e18 (Zqx mb C1 C17 C4) λ_ _ _ _ _ _=>bK3 λ_ _ _=>rfl;have C19:=M e19 (Zq2 mb C1 C4 C5 C3 C18) λ_ _ _ _ _ _=>bK3 λ_ _ _=>rfl;exact ok_law mb C2 C1 C5 C6 C19 C14 C16 F
end Lw
open PySem PySem.W PyProof.Rows
set_option maxRecDepth 100000 in
set_option maxHeartbeats 0 in
theorem PySem.Challenge.cw_holefloor_k78_whole_alike_by_codes_holds : PySem.Challenge.rw_holefloor_k78_whole_alike_by_codes.Holds := by
 w_on;o_law;k_head; (case hw=>w_witness2)
 k_fill
 refine L2.walk_law (k:=8) (x:="_law_script") (l:=PySem.Challenge.rw_holefloor_k78_whole_alike_by_codes) ⟨rfl,by decide,by decide,rfl⟩ rfl rfl (λw h Y=>PySem.W.kIn_of Y) ?F
 case F=>
  intro w mg fa h KX G hmg;refine' Lw.all_mk KX G hmg ?e1 ?e2 ?e3 ?e4 ?e5 ?e6 ?e7 ?e8 ?e9 ?e10 ?e11 ?e12 ?e13 ?e14 ?e15 ?e16 ?e17 ?e18 ?e19 ?e20 ?z0 ?z1 ?z2 ?z3 ?z4 ?z5 ?z6 ?z7 ?z8 ?z9
  all_goals first|(refine' Lw.fnE ?a ?l ?c ?k; (case a=>k_is); (case l=>k_is); (case c=>k_is); (case k=>k_is))|k_is

