import PyProof.Rows.All
import Wide.All
import OpenK.AllK
import Wide.FinOn
import Lean
import PyProof.EqAt
import PyProof.EqKinds
import PyProof.TupleCall
import KE.KSortTup
import PyProof.NeKinds
import PyProof.ExcBaseAll.ValueError
import PyProof.ExcArgsOwn
import PyProof.NsDelKeeps
import PyProof.RulesAs
import PyProof.FString
import PyProof.AttrMissSeq
import PyProof.WalksS
import KE.KDictList
import KE.KDictSum
import PyProof.MinMaxWalk
import KE.KMinKey
import PyProof.Rows.CallKwBuiltin
import PyProof.Rows.RuleDivmod
import PyProof.ListMulAny
import PyProof.FactsAll.tuple
import KE.KRevIter
import PyProof.EnumMake
import KE.KMulAny
import PyProof.FactsAll.range
import PyProof.Rows.StrNews
import KE.KIntText
import PyProof.StrWalks
import KE.KLam
import KE.KNestM
import PySem.Challenge.RW_holefloor_k24_things_that_show_sides
open PySem.Heap renaming get?_push_of_some→Waa, lt_size→Wak, get?_push_size→Wal, get?_update_other→Wbr, size_push→Wbu, get?_update_self→Wb0
open List renaming length_map→Wab, getElem?_eq_getElem→Wac, getElem?_map→Wad, getD_eq_getElem?_getD→Wae, length_append→Wag, mem_of_getElem?→Wah, getElem?_eq_some_iff→Waj, size_toArray→Wam, mem_cons→Wan, getElem?_append_right→Wap, not_mem_nil→Waq, mem_cons_of_mem→Wat, mem_cons_self→Wau, length_take→Wav, replicate→Waw, mem_append_right→Wax, getElem?_set_self→Way, mem_append→Waz, getElem?_set_ne→Wa0, mem_map→Wa1, getElem?_append_left→Wa3, range→Wa4, mem_singleton→Wa5, map_append→Wa6, length→Wa7, length_drop→Wa8, getElem_mem→Wa9, length_replicate→Wba, map_cons→Wbb, take_length→Wbc, eq_nil_of_length_eq_zero→Wbe, map_map→Wbf, tail→Wbg, append_nil→Wbh, lookup_cons→Wbi, length_cons→Wbk, ext_getElem?→Wbl, mem_range→Wbm, map→Wbn, getElem?_zip_eq_some→Wbt, mem_append_left→Wbv, getElem?_replicate→Wbx, all_eq_true→Wby, getElem?_of_mem→Wb3, filter_cons→Wb4, filter_eq_self→Wb6, set_eq_of_length_le→Wb7, getElem?_drop→Wb8, find?_cons→Wb9, take_of_length_le→Wce, take_add_one→Wcf, length_range→Wcg, getElem?_eq_none→Wch, any_cons→Wci, nodup_cons→Wcj, mem_filter→Wck, map_congr_left→Wcl, filterMap_cons→Wcm, getElem?_take→Wcp, filter_append→Wcq, reverse_cons→Wcr, getElem?_set→Wcs, length_singleton→Wct, getElem?_toArray→Wcu, getElem?_range→Wcw, any_eq_true→Wc2
open Nat renaming le_refl→Waf, ne_of_lt→War, le_trans→Was, lt_of_lt_of_le→Wa2, lt_of_le_of_lt→Wbj, lt_succ_of_lt→Wbp, zero_le→Wbq, ne_of_gt→Wbw, le_of_lt→Wb1, le_max_right→Wb5, lt_irrefl→Wcb, le_max_left→Wcc, le_succ→Wcn, add_le_add_left→Wco, min_eq_left→Wcv, max→Wc0, lt_trans→Wc1
open Bool renaming false_ne_true→Wai, and_eq_true→Wbd, false_eq_true→Wbs, eq_iff_iff→Wca
open Int renaming toNat_natCast→Wao, emod_lt_of_pos→Wbz, zero_add→Wb2, emod_nonneg→Wcd, toNat_of_nonneg→Wcx, le_refl→Wcy
open Option renaming some→Wbo, isSome_map→Wcz
set_option Elab.async false
set_option linter.all false
set_option maxRecDepth 100000
namespace L2
open PySem PySem.Spec PyProof.Rows
abbrev Key:=Sum Int Str
def keyIs:Key->Value->Bool
 |.inl k,v=>Value.isInt k v
 |.inr x,v=>Value.isStrOf x v
def keyH (w:World):Key->Int
 |.inl k=>hashInt k
 |.inr x=>hashStr w x
theorem Zbm:∀{k:Key}{v:Value},keyIs k v=true->(∃i t,k=Sum.inl i/\v=Value.int i t)\/(∃x t,k=Sum.inr x/\v=Value.str x t)
 |.inl i,v,h=>by
  obtain⟨t,e⟩:=Value.isInt_shape (k:=i) (v:=v) h;exact .inl ⟨i,t,rfl,e⟩
 |.inr x,v,h=>by
  obtain⟨t,e⟩:=Value.isStrOf_shape (x:=x) (v:=v) h;exact .inr ⟨x,t,rfl,e⟩
theorem Zkc (i:Int) (t:Tok):keyIs (.inl i) (.int i t)=true:=by simp[keyIs,Value.isInt]
theorem Zle (x:Str) (t:Tok):keyIs (.inr x) (.str x t)=true:=by simp[keyIs,Value.isStrOf]
theorem Zrc (a b:Int):decide ((Sum.inl a:Key)=Sum.inl b)=(a == b):=by
 by_cases e:a=b
 ·subst e;simp
 ·have h:¬ (Sum.inl a:Key)=Sum.inl b:=λq=>e (Sum.inl.inj q)
  rw[decide_eq_false h];exact(beq_eq_false_iff_ne.mpr e).symm
theorem Zrl (a b:Str):decide ((Sum.inr a:Key)=Sum.inr b)=decide (a=b):=by
 by_cases e:a=b
 ·subst e;simp
 ·have h:¬ (Sum.inr a:Key)=Sum.inr b:=λq=>e (Sum.inr.inj q)
  rw[decide_eq_false h,decide_eq_false e]
theorem Zrn (a:Int) (b:Str):decide ((Sum.inl a:Key)=Sum.inr b)=false:=decide_eq_false (λq=>nomatch q)
theorem Zqb (a:Str) (b:Int):decide ((Sum.inr a:Key)=Sum.inl b)=false:=decide_eq_false (λq=>nomatch q)
def mixKind (prog:Program) (w:World):PySem.KeyKind prog w Key where
 is:=keyIs
 hash:=keyH w
 inj:=λv a b ha hb=>by
  rcases Zbm ha with ⟨i,t,rfl,rfl⟩|⟨x,t,rfl,rfl⟩
  ·rcases Zbm hb with ⟨j,u,rfl,e⟩|⟨y,u,rfl,e⟩
   ·injection e with e1 _;rw[e1]
   ·exact nomatch e
  ·rcases Zbm hb with ⟨j,u,rfl,e⟩|⟨y,u,rfl,e⟩
   ·exact nomatch e
   ·injection e with e1 _;rw[e1]
 byValue:=λk v h=>by
  rcases Zbm h with ⟨i,t,rfl,rfl⟩|⟨x,t,rfl,rfl⟩ <;> rfl
 pyHash:=λhv h=>by
  rcases Zbm hv with ⟨i,t,rfl,rfl⟩|⟨x,t,rfl,rfl⟩
  ·exact wpAny_pyHash_int h
  ·exact wpAny_pyHash_str h
 eqBool:=λhu hv h=>by
  rcases Zbm hu with ⟨i,t,rfl,rfl⟩|⟨x,t,rfl,rfl⟩
  ·rcases Zbm hv with ⟨j,u,rfl,rfl⟩|⟨y,u,rfl,rfl⟩
   ·rw[Zrc]at h;exact wpAny_eqBool_int h
   ·rw[Zrn]at h;exact SeqAt.EqAt.int_str i t y u _ _ _ _ h
  ·rcases Zbm hv with ⟨j,u,rfl,rfl⟩|⟨y,u,rfl,rfl⟩
   ·rw[Zqb]at h;exact SeqAt.EqAt.str_int x t j u _ _ _ _ h
   ·rw[Zrl]at h;exact wpAny_eqBool_str h
 «strs»:=λk x t v h=>by
  rcases Zbm h with ⟨i,u,rfl,e⟩|⟨y,u,rfl,e⟩
  ·exact nomatch e
  ·injection e with e1 _
   subst e1;cases v <;> rfl
theorem Ziu (prog:Program) (w:World) (i:Int) (t:Tok):(mixKind prog w).is (.inl i) (.int i t)=true:=Zkc i t
theorem Zil (prog:Program) (w:World) (x:Str) (t:Tok):(mixKind prog w).is (.inr x) (.str x t)=true:=Zle x t
end L2
namespace L2
open PySem PySem.Spec PyProof.Rows
inductive V where
 |non|bl (b:Bool)|int (i:Int)|str (x:Str)|byt (b:Array UInt8)|flt (b:UInt64)|ref (a:Addr)|ty (n:String)
 deriving DecidableEq
def RelV:V->Value->Prop
 |.non,u=>u=Value.none
 |.bl b,u=>u=Value.bool b
 |.int i,u=>∃t,u=Value.int i t
 |.str x,u=>∃t,u=Value.str x t
 |.byt b,u=>∃t,u=Value.bytes b t
 |.flt b,u=>∃t,u=Value.float b t
 |.ref a,u=>u=Value.ref a
 |.ty n,u=>u=Value.type n
abbrev Vals:List V->List Value->Prop:=Paired RelV
theorem Vals.length {xs:List V}{us:List Value}(r:Vals xs us):xs.length=us.length:=Paired.length r
theorem Vals.get:∀{xs:List V}{us:List Value}{i:Nat}{x:V},Vals xs us->xs[i]?=some x->∃u,us[i]?=some u/\RelV x u
 |_,_,_,_,.nil,e=>by simp at e
 |_,_,0,_,.cons r _,e=>by simp at e;subst e;exact⟨_,rfl,r⟩
 |_,_,i+1,x,.cons _ t,e=>by
  obtain⟨u,h1,h2⟩:=Vals.get (i:=i) (x:=x) t (by simpa using e);exact⟨u,by simpa using h1,h2⟩
theorem Vals.set {x:V}{u:Value}(r:RelV x u):∀{xs:List V}{us:List Value}(i:Nat),Vals xs us->Vals (xs.set i x) (us.set i u)
 |_,_,_,.nil=>.nil
 |_,_,0,.cons _ t=>.cons r t
 |_,_,i+1,.cons q t=>.cons q (Vals.set r i t)
theorem Vals.append:∀{xs ys:List V}{us ws:List Value},Vals xs us->Vals ys ws->Vals (xs++ys) (us++ws)
 |_,_,_,_,.nil,s=>s
 |_,_,_,_,.cons r t,s=>.cons r (Vals.append t s)
theorem Vals.take:∀{xs:List V}{us:List Value}(n:Nat),Vals xs us->Vals (xs.take n) (us.take n)
 |_,_,0,_=>.nil
 |_,_,_+1,.nil=>.nil
 |_,_,n+1,.cons r t=>.cons r (Vals.take n t)
theorem Vals.drop:∀{xs:List V}{us:List Value}(n:Nat),Vals xs us->Vals (xs.drop n) (us.drop n)
 |_,_,0,r=>r
 |_,_,_+1,.nil=>.nil
 |_,_,n+1,.cons _ t=>Vals.drop n t
def RelO:Option V->Option Value->Prop
 |some v,some u=>RelV v u
 |none,none=>True
 |_,_=>False
def KV {κ:Type}:List (κ × V)->List (κ × Value)->Prop:=Paired λ(p:κ × V) (q:κ × Value)=>p.1=q.1/\RelV p.2 q.2
def kV:Key->V
 |.inl i=>.int i
 |.inr x=>.str x
inductive HO where
 /-- a list -/
 |lst (xs:List V)
 /-- a tuple (never changes) -/
 |tup (xs:List V)
 /-- a dict whose keys are ints and texts;one whose keys are tuples of ints and texts (the empty one is both) -/
 |dK (kvs:List (Key × V))|dT (kvs:List (List Key × V))
 /-- a set of ints: its members,its size -/
 |set (S:Int->Bool) (n:Nat)
 /-- an instance of the class at C,its dict at dx,its attributes -/
 |ins (C dx:Addr) (fs:List (Str × V))
 /-- the dict of the instance at x -/
 |own (x:Addr)
 /-- the dict of an exception -/
 |xd (fs:List (Str × V))
 /-- a bound method,f of x -/
 |met (f x:Addr)
 /-- a range object lo,lo+1,.. below hi -/
 |rng (lo hi:Int)
 /-- a thing that is known to the object (the script;a dict while a loop walks it): read,never written while it is so -/
 |frz (o:Obj) (u:HO)
 /-- a code object's table -/
 |tbl (ps:Array Value)
 /-- any other thing,by what is true of its one object (a def of one's own: SetO a S n:=HO.ext λh=>..) -/
 |ext (φ:Heap->Prop)
abbrev Hp:=Addr->Option HO
def upd (H:Hp) (a:Addr) (o:HO):Hp:=λb=>if b=a then some o else H b
theorem Zay {H:Hp}{a:Addr}{o:HO}:upd H a o a=some o:=by unfold upd;rw[if_pos rfl]
theorem Zas {H:Hp}{a b:Addr}{o:HO}(h:b≠a):upd H a o b=H b:=by unfold upd;rw[if_neg h]
theorem Zot {H:Hp}{a:Addr}{o u:HO}:upd (upd H a o) a u=upd H a u:=by
 funext b;unfold upd;split <;> rfl
theorem Zsj {H:Hp}{a b:Addr}{o u:HO}(h:H a=some o) (h':H b=some u) (d:o≠u):a≠b:=by
 intro e;subst e;rw[h]at h';exact d (Wbo.inj h')
theorem Zar {H:Hp}{a b:Addr}{o:HO}(h:H a=some o) (h':H b=none):a≠b:=by
 intro e;subst e;rw[h]at h';cases h'
def IsTupN (h:Heap) (a:Addr) (its:Array Value):Prop:=∃o,h.get? a=some o/\(o.cls=.type "tuple" /\ ∃n,o.data=.seq its n)/\o.dict=none
theorem IsTupN.tup {h:Heap}{a:Addr}{its:Array Value}(x:IsTupN h a its):IsTup h a its:=let ⟨o,e,c,_⟩:=x; ⟨o,e,c⟩
theorem IsTupN.new (h:Heap) (items:Array Value):IsTupN (h.push { cls:=.type "tuple",data:=.seq items }) h.objs.size items:=⟨_,Wal _ rfl,⟨rfl,_,rfl⟩,rfl⟩
section
variable (P:Program) (w:World)
def ObjOk (H:Hp) (h:Heap) (a:Addr):HO->Prop
 |.lst xs=>xs.length<=sizeLine/\∃(its:List Value) (n:Nat),Vals xs its/\h.get? a=some { cls:=.type "list",data:=.seq its.toArray n }
 |.tup xs=>xs.length<=sizeLine/\∃its:List Value,Vals xs its/\IsTupN h a its.toArray
 |.dK kvs=>kvs.length<=sizeLine/\(a == sysModules)=false/\∃vs,KV kvs vs/\h.DictOf (mixKind P w) a vs
 |.dT kvs=>kvs.length<=sizeLine/\(a == sysModules)=false/\∃xs:List (List Key × Addr × Value),
   Paired (λ(p:List Key × V) (q:List Key × Addr × Value)=>p.1=q.1/\H q.2.1=some (.tup (p.1.map kV))/\RelV p.2 q.2.2) kvs xs ∧
   ∃o es ep,h.get? a=some o/\o.ExactDict/\o.data=.dict es ep/\es.toList=xs.map (entryOfKey (tupleKind (mixKind P w)))/\(xs.map (·.1)).Nodup
 |.set S n=>h.SetOf (intKind P w) a S n
 |.ins C dx fs=>H dx=some (.own a)/\fs.length<=1000/\dx≠a/\h.get? a=some (PySem.W.instObj C dx) ∧
   ∃mA,h.Ns1 dx mA/\(∀f,RelO (fs.lookup f) (mA f))/\PySem.Within mA (fs.map (·.1))
 |.own _=>∃o,h.get? a=some o
 |.xd fs=>∃mA,h.Ns1 a mA/\∀f,RelO (fs.lookup f) (mA f)
 |.rng lo hi=>∃t u v,h.get? a=some { cls:=.type "range",data:=.fields #[.int lo t,.int hi u,.int 1 v] }
 |.frz o u=>h.get? a=some o/\ObjOk H h a u
 |.tbl ps=>h.get? a=some { cls:=.none,data:=.fields ps }
 |.met f x=>h.get? a=some (PySem.W.methodObj (.ref f) (.ref x))
 |.ext φ=>φ h/\(∃o,h.get? a=some o)/\∀h1 h2:Heap,φ h1->(∀o,h1.get? a=some o->h2.get? a=some o) -> φ h2
def HOk (H:Hp) (h:Heap):Prop:=∀a o,H a=some o->ObjOk P w H h a o
end
section
variable {P:Program}{w:World}{H H':Hp}{h h':Heap}{a:Addr}{o:HO}
theorem ObjOk.lt (x:ObjOk P w H h a o):a<h.objs.size:=by
 cases o with
 |lst xs=>obtain⟨_,_,_,_,e⟩:=x;exact Wak e
 |tup xs=>obtain⟨_,_,_,p⟩:=x;exact p.tup.lt
 |dK kvs=>obtain⟨_,_,_,_,o,_,_,e,_⟩:=x;exact Wak e
 |dT kvs=>obtain⟨_,_,_,_,o,_,_,e,_⟩:=x;exact Wak e
 |set S n=>obtain⟨o,_,_,_,e,_⟩:=x;exact Wak e
 |ins C dx fs=>obtain⟨_,_,_,e,_⟩:=x;exact Wak e
 |own y=>obtain⟨_,e⟩:=x;exact Wak e
 |xd fs=>obtain⟨_,⟨_,_,_,e,_⟩,_⟩:=x;exact Wak e
 |rng lo hi=>obtain⟨_,_,_,e⟩:=x;exact Wak e
 |frz ob u=>obtain⟨e,_⟩:=x;exact Wak e
 |tbl ps=>exact Wak (show h.get? a=some _ from x)
 |met f y=>exact Wak (show h.get? a=some _ from x)
 |ext φ=>obtain⟨_,⟨_,e⟩,_⟩:=x;exact Wak e
theorem Paired.mapP {α β:Type}{F G:α -> β -> Prop}:∀{l₁:List α}{l₂:List β},Paired F l₁ l₂ -> (∀a b,F a b->G a b)->Paired G l₁ l₂
 |_,_,.nil,_=>.nil
 |_,_,.cons r t,f=>.cons (f _ _ r) (Paired.mapP t f)
theorem ObjOk.stay (x:ObjOk P w H h a o) (k:∀b u,(b=a\/H b=some (.own a))->h.get? b=some u->h'.get? b=some u)
  (ho:∀b,H b=some (.own a)->H' b=some (.own a)) (ht:∀b xs,H b=some (.tup xs)->H' b=some (.tup xs)):ObjOk P w H' h' a o:=by
 induction o with
 |lst xs=>obtain⟨z,its,n,r,e⟩:=x;exact⟨z,its,n,r,k _ _ (.inl rfl) e⟩
 |tup xs=>obtain⟨z,its,r,ob,e,c⟩:=x;exact⟨z,its,r,ob,k _ _ (.inl rfl) e,c⟩
 |dK kvs=>obtain⟨z,y,vs,r,ob,es,ep,e,c⟩:=x;exact⟨z,y,vs,r,ob,es,ep,k _ _ (.inl rfl) e,c⟩
 |dT kvs=>
  obtain⟨z,y,xs,r,ob,es,ep,e,c⟩:=x;exact⟨z,y,xs,Paired.mapP r λp q z=>⟨z.1,ht _ _ z.2.1,z.2.2⟩,ob,es,ep,k _ _ (.inl rfl) e,c⟩
 |set S n=>obtain⟨ob,es,ep,t,e,c⟩:=x;exact⟨ob,es,ep,t,k _ _ (.inl rfl) e,c⟩
 |ins C dx fs=>
  obtain⟨d,z,ne,e,mA,⟨od,es,ep,e2,c⟩,r⟩:=x;exact⟨ho _ d,z,ne,k _ _ (.inl rfl) e,mA,⟨od,es,ep,k _ _ (.inr d) e2,c⟩,r⟩
 |own y=>obtain⟨ob,e⟩:=x;exact⟨ob,k _ _ (.inl rfl) e⟩
 |xd fs=>obtain⟨mA,⟨od,es,ep,e,c⟩,r⟩:=x;exact⟨mA,⟨od,es,ep,k _ _ (.inl rfl) e,c⟩,r⟩
 |rng lo hi=>obtain⟨t,u,v,e⟩:=x;exact⟨t,u,v,k _ _ (.inl rfl) e⟩
 |frz ob u ih=>obtain⟨e,q⟩:=x;exact⟨k _ _ (.inl rfl) e,ih q⟩
 |tbl ps=>
  have e:h.get? a=some { cls:=.none,data:=.fields ps }:=x;show h'.get? a=some { cls:=.none,data:=.fields ps };exact k a _ (.inl rfl) e
 |met f y=>
  have e:h.get? a=some (PySem.W.methodObj (.ref f) (.ref y)):=x;show h'.get? a=some (PySem.W.methodObj (.ref f) (.ref y));exact k a _ (.inl rfl) e
 |ext φ=>obtain⟨p,⟨o,e⟩,st⟩:=x;exact⟨st _ _ p λo q=>k _ _ (.inl rfl) q,⟨o,k _ _ (.inl rfl) e⟩,st⟩
theorem HOk.lt (x:HOk P w H h) (e:H a=some o):a<h.objs.size:=(x a o e).lt
theorem HOk.fresh (x:HOk P w H h) (e:h.objs.size<=a):H a=none:=by
 cases q:H a with
 |none=>rfl
 |some u=>exact absurd (Wa2 (x.lt q) e) (Wcb _)
theorem HOk.kept (x:HOk P w H h) (k:∀b u,h.get? b=some u->h'.get? b=some u):HOk P w H h':=λa o e=>
 (x a o e).stay (λb u _ q=>k b u q) (λ_ q=>q) λ_ _ q=>q
theorem HOk.laid (x:HOk P w H h) (k:∀b u,h.get? b=some u->h'.get? b=some u) (hp:h.objs.size<=a) (new:ObjOk P w (upd H a o) h' a o):HOk P w (upd H a o) h':=λb u e=>by
 have hn:=x.fresh hp;by_cases hb:b=a
 ·subst hb;rw[Zay]at e;cases e;exact new
 ·rw[Zas hb]at e
  exact(x b u e).stay (λc v _ q=>k c v q) (λc q=>by rw[Zas (Zar q hn)];exact q) λc xs q=>by rw[Zas (Zar q hn)];exact q
end
def Rd (H:Hp) (a:Addr) (u:HO):Prop:=H a=some u\/∃o,H a=some (.frz o u)
theorem Rd.ok {P:Program}{w:World}{H:Hp}{h:Heap}{a:Addr}{u:HO}(r:Rd H a u) (x:HOk P w H h):ObjOk P w H h a u:=by
 rcases r with r|⟨o,r⟩
 ·exact x a u r
 ·obtain⟨_,q⟩:=x a _ r
  exact q
def Mut:Option HO->Prop
 |some (.lst _)=>True
 |some (.dK _)=>True
 |some (.dT _)=>True
 |some (.set _ _)=>True
 |some (.ins _ _ _)=>True
 |some (.ext _)=>True
 |_=>False
section
variable {P:Program}{w:World}{H:Hp}{h h':Heap}{x e:Addr}{o':HO}
theorem HOk.write (ok:HOk P w H h) (mu:Mut (H x)) (he:e=x\/H e=some (.own x)) (k:∀b u,b≠e->h.get? b=some u->h'.get? b=some u) (heo:∃u,h'.get? e=some u)
  (new:ObjOk P w (upd H x o') h' x o'):HOk P w (upd H x o') h':=λb u q=>by
 have nown:∀c y,H c=some (.own y)->c≠x:=λc y r z=>by subst z;rw[r]at mu;exact mu
 have ntup:∀c xs,H c=some (.tup xs)->c≠x:=λc xs r z=>by subst z;rw[r]at mu;exact mu
 by_cases hb:b=x
 ·subst hb;rw[Zay]at q;cases q;exact new
 ·rw[Zas hb]at q
  by_cases hbe:b=e
  ·have q':H b=some (.own x):=by
    rcases he with z|z
    ·exact absurd (hbe.trans z) hb
    ·rw[hbe];exact z
   rw[q]at q';cases q';obtain⟨v,hv⟩:=heo;exact⟨v,by rw[hbe];exact hv⟩
  ·refine(ok b u q).stay (λc v hc r=>k c v ?_ r) (λc r=>by rw[Zas (nown c b r)];exact r) λc xs r=>by rw[Zas (ntup c xs r)];exact r
   rcases hc with rfl|hc
   ·exact hbe
   ·rintro rfl
    rcases he with z|z
    ·exact nown c b hc z
    ·rw[hc]at z;cases z;exact hb rfl
end
structure Un (fs ex:List Addr) (H H':Hp) (h h':Heap):Prop where
 keep:∀b o,h.get? b=some o->H b=none->b ∉ fs->b ∉ ex->h'.get? b=some o
 slot:∀b o,h.get? b=some o->H b=none->b∈fs->b ∉ ex->∃sl,h'.get? b=some { o with slots:=sl }
 free:∀b o,h.get? b=some o->H b=none->b ∉ ex->H' b=none
 there:∀b o,h.get? b=some o->b ∉ ex->∃o',h'.get? b=some o'
 tups:∀b xs,H b=some (.tup xs)->H' b=some (.tup xs)
 frzs:∀b o u,H b=some (.frz o u)->H' b=some (.frz o u)
 tbls:∀b ps,H b=some (.tbl ps)->∃more,H' b=some (.tbl (ps++more))
section
variable {fs fs' ex ex':List Addr}{H H1 H2:Hp}{h h1 h2 h':Heap}{a x e:Addr}{o:HO}
theorem Un.any (u:Un fs ex H H1 h h1) {b:Addr}{ob:Obj}(q:h.get? b=some ob) (n:H b=none) (hx:b ∉ ex):∃sl,h1.get? b=some { ob with slots:=sl }:=by
 by_cases hb:b∈fs
 ·exact u.slot b ob q n hb hx
 ·exact⟨ob.slots,u.keep b ob q n hb hx⟩
theorem Un.kept (k:∀b u,h.get? b=some u->h'.get? b=some u):Un fs ex H H h h':=
 ⟨λb ob q _ _ _=>k b ob q,λb ob q _ _ _=>⟨ob.slots,k b ob q⟩,λ_ _ _ n _=>n,λb ob q _=>⟨ob,k b ob q⟩,λ_ _ q=>q,λ_ _ _ q=>q,λ_ ps q=>⟨#[],by rw[q];simp⟩⟩
theorem Un.refl:Un fs ex H H h h:=Un.kept λ_ _ q=>q
theorem Un.laid (k:∀b u,h.get? b=some u->h'.get? b=some u) (hp:h.objs.size<=a) (hn:H a=none):Un fs ex H (upd H a o) h h' where
 keep:=λb u q _ _ _=>k b u q
 slot:=λb u q _ _ _=>⟨u.slots,k b u q⟩
 free:=λb u q n _=>by rw[Zas (War (Wa2 (Wak q) hp))];exact n
 there:=λb u q _=>⟨u,k b u q⟩
 tups:=λb xs q=>by rw[Zas (Zar q hn)];exact q
 frzs:=λb u xs q=>by rw[Zas (Zar q hn)];exact q
 tbls:=λb ps q=>⟨#[],by rw[Zas (Zar q hn),q];simp⟩
theorem Un.write (mu:Mut (H x)) (he:e=x\/H e=some (.own x)) (k:∀b u,b≠e->h.get? b=some u->h'.get? b=some u) (heo:∃u,h'.get? e=some u):Un fs ex H (upd H x o) h h':=by
 have hx:∀b,H b=none->b≠x:=λb n z=>by subst z;rw[n]at mu;exact mu
 have hb:∀b,H b=none->b≠e:=λb n z=>by
  subst z;rcases he with r|r
  ·exact hx b n r
  ·rw[n]at r;cases r
 have hm:∀b u,H b=some u->¬ Mut (some u)->b≠x:=λb u q nm z=>by subst z;rw[q]at mu;exact nm mu
 refine⟨λb u q n _ _=>k b u (hb b n) q,λb u q n _ _=>⟨u.slots,k b u (hb b n) q⟩,λb u q n _=>by rw[Zas (hx b n)];exact n,λb u q _=>?_,
  λb xs q=>by rw[Zas (hm b _ q λz=>z)];exact q,λb u xs q=>by rw[Zas (hm b _ q λz=>z)];exact q,λb ps q=>⟨#[],by rw[Zas (hm b _ q λz=>z),q];simp⟩⟩
 by_cases hbe:b=e
 ·subst hbe;exact heo
 ·exact⟨u,k b u hbe q⟩
end
def trk (h:Heap) (H:Hp):List Addr:=(Wa4 h.objs.size).filter λa=>(H a).isSome
def hidT (h:Heap) (H:Hp):Heap:=PySem.W.hideAll h (trk h H)
theorem Zl7 (h:Heap) (H:Hp):(hidT h H).objs.size=h.objs.size:=PySem.W.hideAll_size _ _
theorem Zni {h:Heap}{H:Hp}{b:Addr}{o:Obj}(e:h.get? b=some o) (n:H b=none):(hidT h H).get? b=some o:=
 PySem.W.hideAll_get _ e λhm=>by
  have q:(H b).isSome=true:=(Wck.mp hm).2;rw[n]at q;simp at q
theorem Zo6 {h:Heap}{H:Hp}{b:Addr}{o:Obj}(e:(hidT h H).get? b=some o):h.get? b=some o/\H b=none:=by
 have e':h.get? b=some o:=PySem.W.of_hideAll (trk h H) e;refine⟨e',?_⟩;cases q:H b with
 |none=>rfl
 |some x=>
  have hm:b∈trk h H:=Wck.mpr ⟨Wbm.mpr (Wak e'),by simp[q]⟩;have z:(hidT h H).get? b=none:=PySem.W.hideAll_none (trk h H) hm;rw[z]at e;cases e
def allNews (g h:Heap) (L:Addr):List (Addr × Obj):=(Wa4 h.objs.size).filterMap λa=>if a=L\/(g.get? a).isSome=true then none else (h.get? a).map λo=>(a,o)
def rest (g h:Heap) (L d:Addr):List (Addr × Obj):=(allNews g h L).filter λp=>decide (p.1≠d)
end L2
namespace L2
open PySem PySem.Spec PyProof.Rows
structure Mod (K:W.Frag) (mg:Str->Option Value) (base:Heap):Prop where
 kin:K.In base
 glob:base.Ns mainGlobals mg
 blt:∃mb,base.Ns builtinsNs mb/\∀x:Str,x ≠ "__name__" -> mb x=bootBuiltins x
 nolimit:base.NoLimit
structure Cx where
 prog:Program
 w:World
 K:W.Frag
 mg:Str->Option Value
 base:Heap
 A:Around
 N:List Str
 s₀:Shared
 H₀:Hp
 env:Env
 outer:List Env
 stack:List Env
 ex:List Addr
 fn:Str->Bool
 calm:Bool
 pn:List (Addr × Obj)
 xe:Value->Shared->Prop
def frs (l:List Env):List Addr:=l.filterMap (·.frame)
abbrev Cx.fs (X:Cx):List Addr:=frs X.outer
def Vis (sc:Scope) (x:Str):Prop:=sc.names.lookup x=some .local\/sc.names.lookup x=some .cell\/sc.names.lookup x=some .free
def Loc (sc:Scope) (x:Str):Prop:=sc.names.lookup x=some .local\/sc.names.lookup x=some .cell
def Look (env:Env) (h:Heap) (m:Str->Option Value) (x:Str) (u:Value):Prop:=
 (env.kindOf x=some .local/\m x=some u)\/((env.kindOf x=some .cell\/env.kindOf x=some .free)/\∃c,env.cells.lookup x=some c/\h.IsCell c (some u))
structure Cx.Ok (X:Cx):Prop where
 mod:Mod X.K X.mg X.base
 kind:X.env.scope.kind=.function
 glob:X.env.globals=mainGlobals
 blt:X.env.builtins=builtinsNs
 above:X.s₀.heap.objs.size<=X.env.locals
 inj:∀x y c,X.env.cells.lookup x=some c->X.env.cells.lookup y=some c->x=y
 has:∀x,(X.env.kindOf x=some .cell\/X.env.kindOf x=some .free)->∃c,X.env.cells.lookup x=some c
 cab:∀x c,X.fn x=true->X.env.cells.lookup x=some c->X.s₀.heap.objs.size<=c
 hd:X.calm=true->X.A.handled=none
 frames:X.A.frames=some X.stack
 stk:X.stack=X.outer\/(X.stack=X.env::X.outer/\X.env.frame=some X.env.locals)
 exf:∀b∈X.ex,b≠X.env.locals/\∀x c,X.env.cells.lookup x=some c->c≠b
 bs:∀b o,X.base.get? b=some o->X.s₀.heap.get? b=some o/\X.H₀ b=none
 bsz:X.base.objs.size<=X.s₀.heap.objs.size
 noex:∀b o,X.base.get? b=some o->b ∉ X.ex
 exfs:∀b∈X.ex,b ∉ X.fs
 funs:X.s₀.heap.FunFrames X.base X.outer
 frf:∀b∈X.fs,X.H₀ b=none
structure Inv (X:Cx) (pins:List (Addr × Obj)) (σ:List (Option V)) (H:Hp) (s:Shared):Prop where
 ok:X.Ok
 os:s.os=X.s₀.os
 bare:AllBare s.gens
 base:Un X.fs X.ex X.H₀ H X.s₀.heap s.heap
 loc:∃m,s.heap.Ns X.env.locals m/\∀(i:Nat) (x:Str) (v:V),X.N[i]?=some x -> σ[i]?=some (some v)->Vis X.env.scope x->∃u,RelV v u/\Look X.env s.heap m x u
 cell:∀x c,X.env.cells.lookup x=some c->∃v,s.heap.IsCell c v
 free:H X.env.locals=none
 freeC:∀x c,X.env.cells.lookup x=some c->H c=none
 pin:∀p∈X.pn++pins,s.heap.get? p.1=some p.2/\H p.1=none/\p.1≠X.env.locals/\p.1 ∉ X.fs/\∀v,p.2.data≠.cell v
 hok:HOk X.prog X.w H s.heap
 len:σ.length=X.N.length
section
variable {X:Cx}{pins:List (Addr × Obj)}{σ:List (Option V)}{H H':Hp}{s:Shared}{h':Heap}
theorem Cx.Ok.nofr (ok:X.Ok) {b:Addr}{o:Obj}(e:X.base.get? b=some o):b ∉ X.fs:=λhb=>by
 have:=(ok.funs.mem hb).1;rw[e]at this;cases this
theorem Inv.bs (I:Inv X pins σ H s):∀b o,X.base.get? b=some o->s.heap.get? b=some o/\H b=none:=λb o e=>
 ⟨I.base.keep b o (I.ok.bs b o e).1 (I.ok.bs b o e).2 (I.ok.nofr e) (I.ok.noex b o e),I.base.free b o (I.ok.bs b o e).1 (I.ok.bs b o e).2 (I.ok.noex b o e)⟩
theorem Inv.bk (I:Inv X pins σ H s):∀b o,X.base.get? b=some o->s.heap.get? b=some o:=λb o e=>(I.bs b o e).1
theorem Inv.mod (I:Inv X pins σ H s):Mod X.K X.mg X.base:=I.ok.mod
theorem Inv.kIn (I:Inv X pins σ H s):X.K.In s.heap:=I.ok.mod.kin.keeps I.bk
theorem Inv.lt (I:Inv X pins σ H s):X.env.locals<s.heap.objs.size:=let ⟨_,hn,_⟩:=I.loc;hn.lt
theorem Inv.sz (I:Inv X pins σ H s):X.s₀.heap.objs.size<=s.heap.objs.size:=Was I.ok.above (Wb1 I.lt)
theorem Inv.nofs (I:Inv X pins σ H s) {a:Addr}(h:s.heap.objs.size<=a):a ∉ X.fs:=λhb=>by
 obtain⟨_,o,ho,_⟩:=I.ok.funs.mem hb;exact absurd (Wa2 (Wak ho) (Was I.sz h)) (Wcb _)
theorem Inv.cne (I:Inv X pins σ H s):∀x c,X.env.cells.lookup x=some c->c≠X.env.locals:=λx c e z=>by
 obtain⟨v,o,ho,hd⟩:=I.cell x c e;obtain⟨m,⟨o',es,ep,ho',hd',_⟩,_⟩:=I.loc;rw[z,ho']at ho;cases ho;rw[hd']at hd;cases hd
theorem Inv.funs (I:Inv X pins σ H s):s.heap.FunFrames X.base X.outer:=by
 have all:∀(l:List Env),(∀b∈frs l,b∈X.fs)->X.s₀.heap.FunFrames X.base l->s.heap.FunFrames X.base l:=by
  intro l
  induction l with
  |nil=>intro _ _;trivial
  |cons env r ih=>
   intro hs hl;obtain⟨hk,⟨L,o,hf,hn,ho,hd⟩,hr⟩:=hl;have hL:L∈X.fs:=hs L (by unfold frs;rw[Wcm,hf];exact Wau);obtain⟨sl,e⟩:=I.base.slot L o ho (I.ok.frf L hL) hL λz=>I.ok.exfs L z hL;exact⟨hk,⟨L,_,hf,hn,e,hd⟩,ih (λb hb=>hs b (by unfold frs;rw[Wcm,hf];exact Wat _ hb)) hr⟩
 exact all X.outer (λ_ hb=>hb) I.ok.funs
theorem Inv.stack (I:Inv X pins σ H s):s.heap.FunFrames X.base X.stack:=by
 rcases I.ok.stk with e|⟨e,hf⟩
 ·rw[e];exact I.funs
 ·rw[e]
  obtain⟨m,hn,_⟩:=I.loc;refine .cons (by rw[I.ok.kind];decide) hf hn ?_ I.funs;exact Heap.get?_none_of_le (Was I.ok.bsz I.ok.above)
theorem Inv.stkSub (I:Inv X pins σ H s):∀b∈frs X.stack,b∈X.env.locals::X.fs:=λb hb=>by
 rcases I.ok.stk with e|⟨e,hf⟩
 ·rw[e]at hb;exact Wat _ hb
 ·rw[e]at hb
  unfold frs at hb;rw[Wcm,hf]at hb;exact hb
theorem Inv.stkFree (I:Inv X pins σ H s):∀b∈frs X.stack,H b=none:=λb hb=>by
 rcases Wan.mp (I.stkSub b hb) with e|hb
 ·rw[e];exact I.free
 ·obtain⟨_,o,ho,_⟩:=I.ok.funs.mem hb
  exact I.base.free b o ho (I.ok.frf b hb) λz=>I.ok.exfs b z hb
theorem Inv.step {g':Array GenState}{t':Nat}{d':Drawn}{ch:List Addr}(I:Inv X pins σ H s)
  (hch:∀b∈ch,(b∈X.ex\/X.s₀.heap.objs.size<=b)/\b≠X.env.locals/\(∀x c,X.env.cells.lookup x=some c->c≠b)/\∀p∈X.pn++pins,p.1≠b)
  (keep:∀b o,b≠X.env.locals->b ∉ X.fs->b ∉ ch->s.heap.get? b=some o->H b=none->h'.get? b=some o)
  (slot:∀b o,b≠X.env.locals->b∈X.fs->b ∉ ch->s.heap.get? b=some o->H b=none->∃sl,h'.get? b=some { o with slots:=sl }) (free:∀b o,b ∉ ch->s.heap.get? b=some o->H b=none->H' b=none)
  (there:∀b o,b ∉ ch->s.heap.get? b=some o->∃o',h'.get? b=some o')
  (tups:∀b xs,H b=some (.tup xs)->H' b=some (.tup xs)) (frzs:∀b o u,H b=some (.frz o u)->H' b=some (.frz o u)) (tbls:∀b ps,H b=some (.tbl ps)->∃more,H' b=some (.tbl (ps++more)))
  (ns:∀m,s.heap.Ns X.env.locals m->h'.Ns X.env.locals m) (hok:HOk X.prog X.w H' h') (hg:AllBare g') :
  Inv X pins σ H' { s with heap:=h',gens:=g',drawn:=d',toks:=t' }:=by
 have neL:∀b o,X.s₀.heap.get? b=some o->b≠X.env.locals:=λb o e=>War (Wa2 (Wak e) I.ok.above);have neC:∀b o,X.s₀.heap.get? b=some o->b ∉ X.ex->b ∉ ch:=λb o e hx hb=>by
  rcases(hch b hb).1 with z|z
  ·exact hx z
  ·exact absurd (Wa2 (Wak e) z) (Wcb _)
 have cellK:∀x c,X.env.cells.lookup x=some c->∀v,s.heap.IsCell c v->h'.IsCell c v:=λx c e v hq_=>by
  obtain⟨o,ho,hd⟩:=hq_;have nch:c ∉ ch:=λz=>(hch c z).2.2.1 x c e rfl;by_cases hc:c∈X.fs
  ·obtain⟨sl,q⟩:=slot c o (I.cne x c e) hc nch ho (I.freeC x c e)
   exact⟨_,q,hd⟩
  ·exact⟨o,keep c o (I.cne x c e) hc nch ho (I.freeC x c e),hd⟩
 refine⟨I.ok,I.os,hg,⟨λb o e n hb hx=>?_,λb o e n hb hx=>?_,λb o e n hx=>?_,λb o e hx=>?_,λb xs e=>tups b xs (I.base.tups b xs e),λb o xs e=>frzs b o xs (I.base.frzs b o xs e),λb ps e=>?_⟩,?_,λx c e=>?_,?_,λx c e=>?_,λp hp=>?_,hok,I.len⟩
 ·exact keep b o (neL b o e) hb (neC b o e hx) (I.base.keep b o e n hb hx) (I.base.free b o e n hx)
 ·obtain⟨sl,e1⟩:=I.base.slot b o e n hb hx
  obtain⟨sl',e2⟩:=slot b _ (neL b o e) hb (neC b o e hx) e1 (I.base.free b o e n hx);exact⟨sl',e2⟩
 ·obtain⟨o',e1⟩:=I.base.there b o e hx
  exact free b o' (neC b o e hx) e1 (I.base.free b o e n hx)
 ·obtain⟨o',e1⟩:=I.base.there b o e hx
  exact there b o' (neC b o e hx) e1
 ·obtain⟨m1,e1⟩:=I.base.tbls b ps e
  obtain⟨m2,e2⟩:=tbls b _ e1;exact⟨m1++m2,by rw[e2,Array.append_assoc]⟩
 ·obtain⟨m,hn,hl⟩:=I.loc
  refine⟨m,ns m hn,λi x v e1 e2 e3=>?_⟩;obtain⟨u,r,l⟩:=hl i x v e1 e2 e3;refine⟨u,r,?_⟩;rcases l with l|⟨k,c,e,z⟩
  ·exact .inl l
  ·exact .inr ⟨k,c,e,cellK x c e _ z⟩
 ·obtain⟨v,z⟩:=I.cell x c e
  exact⟨v,cellK x c e v z⟩
 ·obtain⟨m,⟨o,_,_,ho,_⟩,_⟩:=I.loc
  exact free _ o (λz=>(hch _ z).2.1 rfl) ho I.free
 ·obtain⟨v,o,ho,hd⟩:=I.cell x c e
  exact free c o (λz=>(hch c z).2.2.1 x c e rfl) ho (I.freeC x c e)
 ·obtain⟨e,n,ne,nf,d⟩:=I.pin p hp
  have nch:p.1 ∉ ch:=λz=>(hch p.1 z).2.2.2 p hp rfl;exact⟨keep p.1 p.2 ne nf nch e n,free p.1 p.2 nch e n,ne,nf,d⟩
theorem Inv.un {t':Nat}(I:Inv X pins σ H s) (u:Un X.fs [] H H' s.heap h') (hok:HOk X.prog X.w H' h'):Inv X pins σ H' { s with heap:=h',toks:=t' }:=by
 obtain⟨m,⟨o,es,ep,ho,r⟩,_⟩:=id I.loc;obtain⟨sl,hL⟩:=u.any ho I.free (by simp);exact I.step (g':=s.gens) (d':=s.drawn) (ch:=[]) (λ_ z=>nomatch z) (λb o _ hb _ e n=>u.keep b o e n hb (by simp)) (λb o _ hb _ e n=>u.slot b o e n hb (by simp)) (λb o _ e n=>u.free b o e n (by simp)) (λb o _ e=>u.there b o e (by simp)) u.tups u.frzs u.tbls (λm' hm=>by
  obtain⟨o',es',ep',ho',r'⟩:=hm;rw[ho]at ho';cases ho';exact⟨_,es',ep',hL,r'⟩) hok I.bare
theorem Inv.call {g':Array GenState}{t':Nat}{d':Drawn}{ch:List Addr}(I:Inv X pins σ H s) (u:Un (frs X.stack) ch H H' s.heap h') (hok:HOk X.prog X.w H' h') (hg:AllBare g')
  (hch:∀b∈ch,(b∈X.ex\/X.s₀.heap.objs.size<=b)/\b≠X.env.locals/\(∀x c,X.env.cells.lookup x=some c->c≠b)/\∀p∈X.pn++pins,p.1≠b) :
  Inv X pins σ H' { s with heap:=h',gens:=g',drawn:=d',toks:=t' }:=by
 obtain⟨m,⟨o,es,ep,ho,r⟩,_⟩:=id I.loc;obtain⟨sl,hL⟩:=u.any ho I.free λz=>(hch _ z).2.1 rfl;exact I.step (ch:=ch) hch (λb o hL hb hc e n=>u.keep b o e n (λz=>(Wan.mp (I.stkSub b z)).elim hL hb) hc) (λb o _ _ hc e n=>u.any e n hc) (λb o hc e n=>u.free b o e n hc) (λb o hc e=>u.there b o e hc) u.tups u.frzs u.tbls (λm' hm=>by
  obtain⟨o',es',ep',ho',r'⟩:=hm;rw[ho]at ho';cases ho';exact⟨_,es',ep',hL,r'⟩) hok hg
theorem Inv.turned {t':Nat}{it:Addr}(I:Inv X pins σ H s) (k:∀b o,b≠it->s.heap.get? b=some o->h'.get? b=some o) (hn:H it=none) (hL:it≠X.env.locals)
  (h1:it∈X.ex\/X.s₀.heap.objs.size<=it) (h2:∀x c,X.env.cells.lookup x=some c->c≠it) (h3:∀p∈X.pn++pins,p.1≠it):Inv X pins σ H { s with heap:=h',toks:=t' }:=by
 have nit:∀b u,H b=some u->b≠it:=λb u e z=>by rw[z,hn]at e;cases e
 refine I.step (g':=s.gens) (d':=s.drawn) (ch:=[it]) (λb hb=>?_) (λb o _ _ hc e _=>k b o (λz=>hc (by simp[z])) e) (λb o _ _ hc e _=>⟨o.slots,k b o (λz=>hc (by simp[z])) e⟩) (λ_ _ _ _ n=>n)
  (λb o hc e=>⟨o,k b o (λz=>hc (by simp[z])) e⟩) (λ_ _ e=>e) (λ_ _ _ e=>e) (λb ps e=>⟨#[],by rw[e];simp⟩) (λm hm=>?_) (λb u e=>?_) I.bare
 ·have e:b=it:=by simpa using hb
  subst e;exact⟨h1,hL,h2,h3⟩
 ·obtain⟨o,es,ep,ho,r⟩:=hm
  exact⟨o,es,ep,k _ o (Ne.symm hL) ho,r⟩
 ·refine(I.hok b u e).stay (λc v hc q=>k c v ?_ q) (λ_ q=>q) λ_ _ q=>q
  rcases hc with z|z
  ·rw[z];exact nit b u e
  ·exact nit c _ z
theorem Inv.tok (I:Inv X pins σ H s) (t:Nat):Inv X pins σ H { s with toks:=t }:=I.un (h':=s.heap) (t':=t) Un.refl I.hok
theorem Inv.kept {t':Nat}(I:Inv X pins σ H s) (k:∀b u,s.heap.get? b=some u->h'.get? b=some u):Inv X pins σ H { s with heap:=h',toks:=t' }:=I.un (Un.kept k) (I.hok.kept k)
theorem Inv.laid {a:Addr}{o:HO}{t':Nat}(I:Inv X pins σ H s) (k:∀b u,s.heap.get? b=some u->h'.get? b=some u) (hp:s.heap.objs.size<=a) (new:ObjOk X.prog X.w (upd H a o) h' a o) :
  Inv X pins σ (upd H a o) { s with heap:=h',toks:=t' }:=I.un (Un.laid k hp (I.hok.fresh hp)) (I.hok.laid k hp new)
theorem Inv.write {x e:Addr}{o:HO}{t':Nat}(I:Inv X pins σ H s) (mu:Mut (H x)) (he:e=x\/H e=some (.own x)) (k:∀b u,b≠e->s.heap.get? b=some u->h'.get? b=some u) (heo:∃u,h'.get? e=some u)
  (new:ObjOk X.prog X.w (upd H x o) h' x o):Inv X pins σ (upd H x o) { s with heap:=h',toks:=t' }:=I.un (Un.write mu he k heo) (I.hok.write mu he k heo new)
theorem Inv.pins_of {pins':List (Addr × Obj)}(I:Inv X pins σ H s) (h:∀p∈pins',s.heap.get? p.1=some p.2/\H p.1=none/\p.1≠X.env.locals/\p.1 ∉ X.fs/\∀v,p.2.data≠.cell v):Inv X pins' σ H s:=
 ⟨I.ok,I.os,I.bare,I.base,I.loc,I.cell,I.free,I.freeC,λp hp=>(Waz.mp hp).elim (λz=>I.pin p (Wbv _ z)) (h p),I.hok,I.len⟩
theorem Zjf {N:List Str}(hN:N.Nodup) {i j:Nat}{x:Str}(a:N[i]?=some x) (b:N[j]?=some x):i=j:=by
 obtain⟨h1,e1⟩:=Waj.mp a;obtain⟨h2,e2⟩:=Waj.mp b;exact(List.getElem_inj hN).mp (e1.trans e2.symm)
theorem Zhc {M:Model}{A:Around}{E:Value->Shared->Prop}{i:Nat}{x:Str}{v:V}{u:Value}{Q:Unit->Shared->Prop}(I:Inv X pins σ H s) (hN:X.N.Nodup) (hi:X.N[i]?=some x) (hx:Loc X.env.scope x) (r:RelV v u)
  (h:∀s',Inv X pins (σ.set i (some v)) H s' -> (∃a,Heap.SameBut a s.heap s'.heap/\(a=X.env.locals\/X.env.cells.lookup x=some a))->Q () s') (hf:X.fn x=true\/X.env.scope.names.lookup x=some .local:=by first|exact .inl rfl|exact .inr rfl|assumption):wpAny M A (storeName X.env x u) Q E s:=by
 obtain⟨m,hn,hl⟩:=id I.loc;have hcls:(X.env.scope.kind == .class || (X.env.scope.kind == .module && X.env.locals != X.env.globals))=false:=by rw[I.ok.kind];rfl
 have hiσ:i < σ.length:=by rw[I.len];exact(Waj.mp hi).1
 have cne:=I.cne;have tracked:∀{a:Addr}{h':Heap},(∃o,s.heap.get? a=some o/\H a=none)->Heap.SameBut a s.heap h' -> HOk X.prog X.w H h':=λ{a h'} ha hs b ob e=>by
  obtain⟨_,_,hfree⟩:=ha;refine(I.hok b ob e).stay (λc w' hc q=>(hs.2 c ?_).trans q) (λ_ q=>q) λ_ _ q=>q;rintro rfl;rcases hc with rfl|hc
  ·rw[hfree]at e;cases e
  ·rw[hfree]at hc;cases hc
 rcases hx with hk|hk
 ·refine wpAny_storeName_local hk hn (λh' hn' hs=>?_) hcls
  obtain⟨oL,_,_,hoL,_⟩:=id hn;refine h _ ⟨I.ok,I.os,I.bare,⟨λb o e n hb hx=>?_,λb o e n hb hx=>?_,I.base.free,λb o e hx=>?_,I.base.tups,I.base.frzs,I.base.tbls⟩,⟨_,hn',λj y v' e1 e2 e3=>?_⟩,λy c e=>?_,I.free,I.freeC,λp hp=>?_,tracked ⟨oL,hoL,I.free⟩ hs,by simpa using I.len⟩ ⟨_,hs,.inl rfl⟩
  ·exact(hs.2 b (War (Wa2 (Wak e) I.ok.above))).trans (I.base.keep b o e n hb hx)
  ·obtain⟨sl,e1⟩:=I.base.slot b o e n hb hx
   exact⟨sl,(hs.2 b (War (Wa2 (Wak e) I.ok.above))).trans e1⟩
  ·obtain⟨o',e1⟩:=I.base.there b o e hx
   exact⟨o',(hs.2 b (War (Wa2 (Wak e) I.ok.above))).trans e1⟩
  ·by_cases hj:j=i
   ·subst hj
    rw[hi]at e1;cases e1;rw[Way hiσ]at e2;cases e2;exact⟨u,r,.inl ⟨hk,by simp⟩⟩
   ·rw[Wa0 (Ne.symm hj)]at e2
    obtain⟨u',r',q⟩:=hl j y v' e1 e2 e3;refine⟨u',r',?_⟩;rcases q with ⟨k,e⟩|⟨k,c,e,z⟩
    ·refine .inl ⟨k,?_⟩
     have:y≠x:=λe=>hj (Zjf hN e1 (e ▸ hi));simp[this,e]
    ·exact .inr ⟨k,c,e,z.sameBut hs (cne y c e)⟩
  ·obtain⟨w',z⟩:=I.cell y c e
   exact⟨w',z.sameBut hs (cne y c e)⟩
  ·obtain⟨e,n,ne,nf,d⟩:=I.pin p hp
   exact⟨(hs.2 p.1 ne).trans e,n,ne,nf,d⟩
 ·have hfn:X.fn x=true:=by
   rcases hf with z|z
   ·exact z
   ·rw[z]at hk;cases hk
  obtain⟨c,hc⟩:=I.ok.has x (.inl hk);obtain⟨w',z⟩:=I.cell x c hc;refine wpAny_storeName_cell I.ok.kind hk hc z (λh' hc' hs=>?_);obtain⟨oc,hoc,hocd⟩:=id z;refine h { s with heap:=h' } ⟨I.ok,I.os,I.bare,⟨λb o e n hb hx=>?_,λb o e n hb hx=>?_,I.base.free,λb o e hx=>?_,I.base.tups,I.base.frzs,I.base.tbls⟩,⟨m,hn.sameBut hs (Ne.symm (cne x c hc)),λj y v' e1 e2 e3=>?_⟩,λy c' e=>?_,I.free,I.freeC,λp hp=>?_,tracked ⟨oc,hoc,I.freeC x c hc⟩ hs,by simpa using I.len⟩ ⟨c,hs,.inr hc⟩
  ·exact(hs.2 b (War (Wa2 (Wak e) (I.ok.cab x c hfn hc)))).trans (I.base.keep b o e n hb hx)
  ·obtain⟨sl,e1⟩:=I.base.slot b o e n hb hx
   exact⟨sl,(hs.2 b (War (Wa2 (Wak e) (I.ok.cab x c hfn hc)))).trans e1⟩
  ·obtain⟨o',e1⟩:=I.base.there b o e hx
   exact⟨o',(hs.2 b (War (Wa2 (Wak e) (I.ok.cab x c hfn hc)))).trans e1⟩
  ·by_cases hj:j=i
   ·subst hj
    rw[hi]at e1;cases e1;rw[Way hiσ]at e2;cases e2;exact⟨u,r,.inr ⟨.inl hk,c,hc,hc'⟩⟩
   ·rw[Wa0 (Ne.symm hj)]at e2
    obtain⟨u',r',q⟩:=hl j y v' e1 e2 e3;refine⟨u',r',?_⟩;rcases q with q|⟨k,c',e,z'⟩
    ·exact .inl q
    ·refine .inr ⟨k,c',e,z'.sameBut hs ?_⟩
     rintro rfl;exact hj (Zjf hN e1 (I.ok.inj _ _ _ e hc ▸ hi))
  ·by_cases hcc:c'=c
   ·subst hcc;exact⟨_,hc'⟩
   ·obtain⟨w2,z2⟩:=I.cell y c' e
    exact⟨w2,z2.sameBut hs hcc⟩
  ·obtain⟨e,n,ne,nf,d⟩:=I.pin p hp
   refine⟨(hs.2 p.1 ?_).trans e,n,ne,nf,d⟩;intro q;rw[q,hoc]at e;have q':oc=p.2:=Wbo.inj e;exact d w' (by rw[<- q'];exact hocd)
theorem Ze5 {M:Model}{A:Around}{E:Value->Shared->Prop}{i:Nat}{x:Str}{v:V}{u:Value}{Q:Unit->Shared->Prop}(I:Inv X pins σ H s) (hN:X.N.Nodup) (hi:X.N[i]?=some x) (hx:Loc X.env.scope x) (r:RelV v u)
  (h:∀s',Inv X pins (σ.set i (some v)) H s' -> Q () s') (hf:X.fn x=true\/X.env.scope.names.lookup x=some .local:=by first|exact .inl rfl|exact .inr rfl|assumption):wpAny M A (storeName X.env x u) Q E s:=
 Zhc I hN hi hx r (λs' I' _=>h s' I') hf
theorem Inv.call' {s':Shared}{ch:List Addr}(I:Inv X pins σ H s) (ho:s'.os=s.os) (u:Un (frs X.stack) ch H H' s.heap s'.heap) (hok:HOk X.prog X.w H' s'.heap) (hg:AllBare s'.gens)
  (hch:∀b∈ch,(b∈X.ex\/X.s₀.heap.objs.size<=b)/\b≠X.env.locals/\(∀x c,X.env.cells.lookup x=some c->c≠b)/\∀p∈X.pn++pins,p.1≠b):Inv X pins σ H' s':=by
 obtain⟨h',g',d',t',o'⟩:=s';have e:o'=s.os:=ho;subst e;exact I.call (g':=g') (t':=t') (d':=d') u hok hg hch
end
abbrev XK:=Value->Option Addr->Hp->Prop
abbrev St:=List (Option V)
abbrev VK:=V->Hp->Prop
abbrev TE:=St->Hp->VK->Prop
abbrev TT:=St->Hp->(Bool->Hp->Prop)->Prop
abbrev TA:=St->Hp->(List V->Hp->Prop)->Prop
structure Ends where
 nx:St->Hp->Prop
 rt:VK
 bk:St->Hp->Prop:=λ_ _=>False
 ct:St->Hp->Prop:=λ_ _=>False
abbrev TS:=Ends->St->Hp->Prop
def EP (X:Cx) (pins:List (Addr × Obj)) (σ:St) (Q:VK) (u:Value) (s':Shared):Prop:=∃v H',Inv X pins σ H' s' /\ RelV v u/\Q v H'
def TP (X:Cx) (pins:List (Addr × Obj)) (σ:St) (Q:Bool->Hp->Prop) (b:Bool) (s':Shared):Prop:=∃H',Inv X pins σ H' s' /\ Q b H'
def AP (X:Cx) (pins:List (Addr × Obj)) (σ:St) (Q:List V->Hp->Prop) (us:List Value) (s':Shared):Prop:=∃vs H',Inv X pins σ H' s' /\ Vals vs us/\Q vs H'
def SP (X:Cx) (pins:List (Addr × Obj)) (D:Ends) (f:Flow) (s':Shared):Prop:=
 match f with
 |.next=>∃σ' H',Inv X pins σ' H' s' /\ D.nx σ' H'
 |.brk=>∃σ' H',Inv X pins σ' H' s' /\ D.bk σ' H'
 |.cont=>∃σ' H',Inv X pins σ' H' s' /\ D.ct σ' H'
 |.ret u=>∃v σ' H',Inv X pins σ' H' s' /\ RelV v u/\D.rt v H'
def PE (X:Cx) (e:Expr) (t:TE):Prop:=
 ∀(pins:List (Addr × Obj)) (s:Shared) (σ:St) (H:Hp) (Q:VK),Inv X pins σ H s->t σ H Q->wpAny (model X.prog X.w) X.A (eval e X.env) (EP X pins σ Q) X.xe s
def PT (X:Cx) (e:Expr) (t:TT):Prop:=
 ∀(pins:List (Addr × Obj)) (s:Shared) (σ:St) (H:Hp) (Q:Bool->Hp->Prop),Inv X pins σ H s->t σ H Q->wpAny (model X.prog X.w) X.A (isTrue e X.env (eval e X.env)) (TP X pins σ Q) X.xe s
def PW (X:Cx) (e:Expr) (t:TT):Prop:=
 ∀(whole:Sem Value) (pins:List (Addr × Obj)) (s:Shared) (σ:St) (H:Hp) (Q:Bool->Hp->Prop),Inv X pins σ H s->t σ H Q->wpAny (model X.prog X.w) X.A (isTrue e X.env whole) (TP X pins σ Q) X.xe s
theorem PW.pt {X:Cx}{e:Expr}{t:TT}(h:PW X e t):PT X e t:=h _
def PA (X:Cx) (es:List Expr) (t:TA):Prop:=
 ∀(pos:Pos) (pins:List (Addr × Obj)) (s:Shared) (σ:St) (H:Hp) (Q:List V->Hp->Prop),Inv X pins σ H s->t σ H Q->wpAny (model X.prog X.w) X.A (spliced (backTo pos (starEach es X.env))) (AP X pins σ Q) X.xe s
def PS (X:Cx) (st:Stmt) (t:TS):Prop:=
 ∀(pins:List (Addr × Obj)) (s:Shared) (σ:St) (H:Hp) (D:Ends),Inv X pins σ H s->t D σ H->wpAny (model X.prog X.w) X.A (exec st X.env) (SP X pins D) X.xe s
def PSs (X:Cx) (st:List Stmt) (t:TS):Prop:=
 ∀(pins:List (Addr × Obj)) (s:Shared) (σ:St) (H:Hp) (D:Ends),Inv X pins σ H s->t D σ H->wpAny (model X.prog X.w) X.A (execs st X.env) (SP X pins D) X.xe s
theorem thn {α:Type}{t:Sem α}{Q Q':α -> Shared->Prop}{M:Model}{A:Around}{E:Value->Shared->Prop}{s:Shared}(h:wpAny M A t Q E s) (hQ:∀a s,Q a s->Q' a s):wpAny M A t Q' E s:=wpAny_mono h hQ λ_ _ x=>x
end L2
namespace L2
open PySem PySem.Spec PyProof.Rows
section
variable {X:Cx}
def tVar (i:Nat):TE:=λσ H Q=>∃v,σ[i]?=some (some v)/\Q v H
def tC (v:V):TE:=λ_ H Q=>Q v H
theorem Zqe {i:Nat}{x:Str}{pos:Pos}(hN:X.N[i]?=some x) (hv:Vis X.env.scope x) (hd:(x == ("__debug__":Str))=false:=by decide) (hcd:(x == ("__classdict__":Str))=false:=by decide):PE X (.Name x pos) (tVar i):=by
 intro pins s σ H Q I h;obtain⟨v,e,h⟩:=h;obtain⟨m,hn,hl⟩:=I.loc;obtain⟨u,r,l⟩:=hl i x v hN e hv;have fin:EP X pins σ Q u s:=⟨v,H,I,r,h⟩;rcases l with ⟨hk,hm⟩|⟨hk,c,hc,hcell⟩
 ·exact wpAny_Name (wpAny_loadName_local I.ok.kind hk hn hm fin) hd
 ·rcases hk with hk|hk
  ·exact wpAny_Name (wpAny_loadName_cell I.ok.kind hk hc hcell fin) hd
  ·exact wpAny_Name (wpAny_loadName_free I.ok.kind hk hc hcell fin hcd) hd
theorem Zad {i j pos}:PE X (.Constant (.int i) j pos) (tC (.int i)):=λ_ _ _ H _ I h=>wpAny_Constant_int ⟨.int i,H,I.tok _,⟨_,rfl⟩,h⟩
theorem Zc2 {b j pos}:PE X (.Constant (.bool b) j pos) (tC (.bl b)):=λ_ _ _ H _ I h=>Constant_bool ⟨.bl b,H,I,rfl,h⟩
theorem Zi9 {j pos}:PE X (.Constant .none j pos) (tC .non):=λ_ _ _ H _ I h=>Constant_none ⟨.non,H,I,rfl,h⟩
theorem Zcy {x j pos}:PE X (.Constant (.str x) j pos) (tC (.str x)):=λ_ _ _ H _ I h=>Calls.Constant_str ⟨.str x,H,I.tok _,⟨_,rfl⟩,h⟩
def Gl (X:Cx) (x:Str):Prop:=X.env.kindOf x=some .globalImplicit
theorem Zps {E:Value->Shared->Prop}{pins:List (Addr × Obj)}{s:Shared}{σ:St}{H:Hp}{x:Str}{u:Value}{pos:Pos}{Q:Value->Shared->Prop}(I:Inv X pins σ H s) (hg:Gl X x) (hm:X.mg x=some u) (h:Q u s)
  (hd:(x == ("__debug__":Str))=false:=by decide):wpAny (model X.prog X.w) X.A (eval (.Name x pos) X.env) Q E s:=
 Calls.Name_function_global I.ok.kind hg (Calls.loadGlobal_global (by rw[I.ok.glob];exact I.mod.glob.keeps I.bk) hm h) hd
theorem Zd0 {E:Value->Shared->Prop}{pins:List (Addr × Obj)}{s:Shared}{σ:St}{H:Hp}{x:Str}{u:Value}{pos:Pos}{Q:Value->Shared->Prop}(I:Inv X pins σ H s) (hg:Gl X x) (hm:X.mg x=none) (hv:bootBuiltins x=some u) (h:Q u s)
  (hn:x ≠ "__name__":=by decide) (hd:(x == ("__debug__":Str))=false:=by decide):wpAny (model X.prog X.w) X.A (eval (.Name x pos) X.env) Q E s:=by
 obtain⟨mb,h1,h2⟩:=I.mod.blt;exact Calls.Name_function_global I.ok.kind hg (Calls.loadGlobal_builtin (by rw[I.ok.glob];exact I.mod.glob.keeps I.bk) hm (by rw[I.ok.blt];exact h1.keeps I.bk) ((h2 x hn).trans hv) h) hd
theorem Zcw {x:Str}{v:V}{u:Value}{pos:Pos}(hg:Gl X x) (hm:X.mg x=none) (hv:bootBuiltins x=some u) (r:RelV v u) (hn:x ≠ "__name__":=by decide) (hd:(x == ("__debug__":Str))=false:=by decide):PE X (.Name x pos) (tC v):=
 λ_ _ _ H _ I h=>Zd0 I hg hm hv ⟨v,H,I,r,h⟩ hn hd
variable {a b:Expr}{ta tb:TE}{pos:Pos}
variable {tA tB':TT}{rest:List Expr}
def tAnd (t u:TT):TT:=λσ H Q=>t σ H λc H1=>if c=true then u σ H1 Q else Q false H1
def tOr (t u:TT):TT:=λσ H Q=>t σ H λc H1=>if c=true then Q true H1 else u σ H1 Q
def tNot (t:TT):TT:=λσ H Q=>t σ H λc H1=>Q (!c) H1
theorem pw_and1 (ha:PT X a tA):PW X (.BoolOp .And [a] pos) tA:=by
 intro wh pins s σ H Q I h;refine isTrue_and (thn (ha pins s σ H Q I h) λc s1 e=>?_);cases c with
 |true=>exact isTrue_and_nil e
 |false=>exact e
theorem pw_or1 (ha:PT X a tA):PW X (.BoolOp .Or [a] pos) tA:=by
 intro wh pins s σ H Q I h;refine isTrue_or (thn (ha pins s σ H Q I h) λc s1 e=>?_);cases c with
 |false=>exact isTrue_or_nil e
 |true=>exact e
theorem pw_and (ha:PT X a tA) (hb:PW X (.BoolOp .And (b::rest) pos) tB'):PW X (.BoolOp .And (a::b::rest) pos) (tAnd tA tB'):=by
 intro wh pins s σ H Q I h;refine isTrue_and (thn (ha pins s σ H _ I h) λc s1 ⟨H1,I1,q1⟩=>?_);cases c with
 |true=>exact hb wh pins s1 σ H1 Q I1 q1
 |false=>exact⟨H1,I1,q1⟩
theorem pw_or (ha:PT X a tA) (hb:PW X (.BoolOp .Or (b::rest) pos) tB'):PW X (.BoolOp .Or (a::b::rest) pos) (tOr tA tB'):=by
 intro wh pins s σ H Q I h;refine isTrue_or (thn (ha pins s σ H _ I h) λc s1 ⟨H1,I1,q1⟩=>?_);cases c with
 |true=>exact⟨H1,I1,q1⟩
 |false=>exact hb wh pins s1 σ H1 Q I1 q1
theorem Zc1 (ha:PT X a tA):PT X (.UnaryOp .Not a pos) (tNot tA):=by
 intro pins s σ H Q I h;exact isTrue_not (ha pins s σ H (λc H1=>Q (!c) H1) I h)
def tAndV (ta tb:TE):TE:=λσ H Q=>ta σ H λx H1=>∃c,x=.bl c/\if c=true then tb σ H1 Q else Q (.bl false) H1
def tOrV (ta tb:TE):TE:=λσ H Q=>ta σ H λx H1=>∃c,x=.bl c/\if c=true then Q (.bl true) H1 else tb σ H1 Q
def tNotV (ta:TE):TE:=λσ H Q=>ta σ H λx H1=>∃c,x=.bl c/\Q (.bl (!c)) H1
theorem Zf4 {op} {t:TE}(h:PE X a t):PE X (.BoolOp op [a] pos) t:=λpins s σ H Q I hw=>BoolOp_one (h pins s σ H Q I hw)
theorem Ze6 (ha:PE X a ta) (hb:PE X (.BoolOp .And (b::rest) pos) tb):PE X (.BoolOp .And (a::b::rest) pos) (tAndV ta tb):=by
 intro pins s σ H Q I h;refine BoolOp_and (thn (ha pins s σ H _ I h) λv s1 ⟨x,H1,I1,r1,q1⟩=>?_);obtain⟨c,rfl,q1⟩:=q1;cases r1;refine wpAny_truthy_bool ?_;cases c with
 |true=>exact hb pins s1 σ H1 Q I1 q1
 |false=>exact⟨.bl false,H1,I1,rfl,q1⟩
theorem Zn9 (ha:PE X a ta):PE X (.UnaryOp .Not a pos) (tNotV ta):=by
 intro pins s σ H Q I h;refine UnaryOp_ (thn (ha pins s σ H _ I h) λv s1 ⟨x,H1,I1,r1,q1⟩=>?_);obtain⟨c,rfl,q1⟩:=q1;cases r1;exact not_of (wpAny_truthy_bool ⟨.bl (!c),H1,I1,rfl,q1⟩)
def tIf (t:TT) (ta tb:TE):TE:=λσ H Q=>t σ H λc H1=>if c=true then ta σ H1 Q else tb σ H1 Q
theorem Zmo {c:Expr}(hc:PT X c tA) (ha:PE X a ta) (hb:PE X b tb):PE X (.IfExp c a b pos) (tIf tA ta tb):=by
 intro pins s σ H Q I h;refine wpAny_IfExp (thn (hc pins s σ H _ I h) λd s1 ⟨H1,I1,q1⟩=>?_);cases d with
 |true=>exact ha pins s1 σ H1 Q I1 q1
 |false=>exact hb pins s1 σ H1 Q I1 q1
end
end L2
namespace L2
open PySem PySem.Spec PyProof.Rows
def SqL (K:W.Frag) (H:Hp) (a:Addr) (xs:List V):Prop:=
 Rd H a (.lst xs) ∨
  ∃(o:Obj) (its:Array Value) (n:Nat),K.lookup a=some o/\o.cls=.type "list" /\ o.dict=none/\o.data=.seq its n/\its.size<=sizeLine/\Vals xs its.toList
def SqT (K:W.Frag) (H:Hp) (a:Addr) (xs:List V):Prop:=
 Rd H a (.tup xs) ∨
  ∃(o:Obj) (its:Array Value) (n:Nat),K.lookup a=some o/\o.cls=.type "tuple" /\ o.data=.seq its n/\its.size<=sizeLine/\Vals xs its.toList
def absV:Value->Option V
 |.none=>some .non
 |.bool b=>some (.bl b)
 |.int i _=>some (.int i)
 |.str x _=>some (.str x)
 |.bytes b _=>some (.byt b)
 |.float b _=>some (.flt b)
 |.ref a=>some (.ref a)
 |.type n=>some (.ty n)
 |_=>none
theorem RelV.abs {x:V}{u:Value}(r:RelV x u):absV u=some x:=by
 cases x with
 |non=>cases r;rfl
 |bl _=>cases r;rfl
 |int _=>obtain⟨t,rfl⟩:=r;rfl
 |str _=>obtain⟨t,rfl⟩:=r;rfl
 |byt _=>obtain⟨t,rfl⟩:=r;rfl
 |flt _=>obtain⟨t,rfl⟩:=r;rfl
 |ref _=>cases r;rfl
 |ty _=>cases r;rfl
theorem RelV.inj {x y:V}{u:Value}(r:RelV x u) (q:RelV y u):x=y:=Wbo.inj (r.abs.symm.trans q.abs)
theorem Vals.inj:∀{xs ys:List V}{us:List Value},Vals xs us->Vals ys us->xs=ys
 |_,_,_,.nil,.nil=>rfl
 |_,_,_,.cons r t,.cons r' t'=>by rw[r.inj r',Vals.inj t t']
section
variable {X:Cx}{pins:List (Addr × Obj)}{σ:St}{H:Hp}{s:Shared}{a:Addr}{xs ys:List V}
theorem SqL.of {K:W.Frag}(h:H a=some (.lst xs)):SqL K H a xs:=.inl (.inl h)
theorem SqT.of {K:W.Frag}(h:H a=some (.tup xs)):SqT K H a xs:=.inl (.inl h)
theorem Inv.list (I:Inv X pins σ H s) (h:SqL X.K H a xs):∃its:List Value,Vals xs its/\PlainL s.heap a its.toArray/\xs.length<=sizeLine:=by
 rcases h with h|⟨o,its,n,hk,hc,hd,hs,hz,r⟩
 ·obtain⟨z,its,n,r,e⟩:=h.ok I.hok
  exact⟨its,r,⟨_,n,e,rfl,rfl,rfl⟩,z⟩
 ·refine⟨its.toList,r,⟨o,n,I.kIn a o hk,hc,hd,by simpa using hs⟩,?_⟩
  have e:=r.length;simp only[Array.length_toList]at e;omega
theorem Inv.tuple (I:Inv X pins σ H s) (h:SqT X.K H a xs):∃its:List Value,Vals xs its/\IsTup s.heap a its.toArray/\xs.length<=sizeLine:=by
 rcases h with h|⟨o,its,n,hk,hc,hs,hz,r⟩
 ·obtain⟨z,its,r,p⟩:=h.ok I.hok
  exact⟨its,r,p.tup,z⟩
 ·refine⟨its.toList,r,⟨o,I.kIn a o hk,hc,n,by simpa using hs⟩,?_⟩
  have e:=r.length;simp only[Array.length_toList]at e;omega
theorem Inv.list_inj (I:Inv X pins σ H s) (h:SqL X.K H a xs) (h':SqL X.K H a ys):xs=ys:=by
 obtain⟨its,r,⟨o,n,e,_,_,d⟩,_⟩:=I.list h;obtain⟨its',r',⟨o',n',e',_,_,d'⟩,_⟩:=I.list h';rw[e]at e';cases e';rw[d]at d';injection d' with d1 _
 have:its=its':=by simpa using congrArg Array.toList d1
 subst this;exact r.inj r'
theorem Inv.tuple_inj (I:Inv X pins σ H s) (h:SqT X.K H a xs) (h':SqT X.K H a ys):xs=ys:=by
 obtain⟨its,r,⟨o,e,_,n,d⟩,_⟩:=I.tuple h;obtain⟨its',r',⟨o',e',_,n',d'⟩,_⟩:=I.tuple h';rw[e]at e';cases e';rw[d]at d';injection d' with d1 _
 have:its=its':=by simpa using congrArg Array.toList d1
 subst this;exact r.inj r'
end
abbrev Cx.wish (X:Cx) (E:Value->Shared->Prop):Cx:={ X with xe:=E }
abbrev Cx.nox (X:Cx):Cx:=X.wish λ_ _=>False
theorem Cx.Ok.wish {X:Cx}(ok:X.Ok) (E:Value->Shared->Prop):(X.wish E).Ok:=
 ⟨ok.mod,ok.kind,ok.glob,ok.blt,ok.above,ok.inj,ok.has,ok.cab,ok.hd,ok.frames,ok.stk,ok.exf,ok.bs,ok.bsz,ok.noex,ok.exfs,ok.funs,ok.frf⟩
theorem Cx.Ok.unwish {X:Cx}{E:Value->Shared->Prop}(ok:(X.wish E).Ok):X.Ok:=
 ⟨ok.mod,ok.kind,ok.glob,ok.blt,ok.above,ok.inj,ok.has,ok.cab,ok.hd,ok.frames,ok.stk,ok.exf,ok.bs,ok.bsz,ok.noex,ok.exfs,ok.funs,ok.frf⟩
section
variable {X:Cx}{pins:List (Addr × Obj)}{σ:St}{H:Hp}{s:Shared}{E:Value->Shared->Prop}
theorem Inv.wish (I:Inv X pins σ H s) (E:Value->Shared->Prop):Inv (X.wish E) pins σ H s:=⟨I.ok.wish E,I.os,I.bare,I.base,I.loc,I.cell,I.free,I.freeC,I.pin,I.hok,I.len⟩
theorem Inv.unwish (I:Inv (X.wish E) pins σ H s):Inv X pins σ H s:=⟨I.ok.unwish,I.os,I.bare,I.base,I.loc,I.cell,I.free,I.freeC,I.pin,I.hok,I.len⟩
theorem SP.unwish {D:Ends}{f:Flow}{s':Shared}(h:SP (X.wish E) pins D f s'):SP X pins D f s':=by
 cases f with
 |next=>obtain⟨σ',H',I,q⟩:=h;exact⟨σ',H',I.unwish,q⟩
 |brk=>obtain⟨σ',H',I,q⟩:=h;exact⟨σ',H',I.unwish,q⟩
 |cont=>obtain⟨σ',H',I,q⟩:=h;exact⟨σ',H',I.unwish,q⟩
 |ret u=>obtain⟨v,σ',H',I,r,q⟩:=h;exact⟨v,σ',H',I.unwish,r,q⟩
theorem PSs.nox {st:List Stmt}{t:TS}(h:PSs X.nox st t):PSs X st t:=λpins s σ H D I hw=>
 wpAny_mono (h pins s σ H D (I.wish _) hw) (λ_ _ q=>q.unwish) λ_ _ z=>False.elim z
end
section
variable {X:Cx}{st:Stmt}{rest:List Stmt}{t u:TS}{e:Expr}{te:TE}{pos:Pos}
def tNext:TS:=λD σ H=>D.nx σ H
def tSeq (t u:TS):TS:=λD σ H=>t { D with nx:=u D } σ H
theorem Za5:PSs X [] tNext:=λ_ _ σ H _ I h=>wpAny_execs_nil ⟨σ,H,I,h⟩
theorem Zaf (h1:PS X st t) (h2:PSs X rest u):PSs X (st::rest) (tSeq t u):=by
 intro pins s σ H D I h;refine wpAny_execs_cons (thn (h1 pins s σ H { D with nx:=u D } I h) λf s1 q=>?_);cases f with
 |next=>
  obtain⟨σ',H',I',q⟩:=q;exact h2 pins s1 σ' H' D I' q
 |ret v=>exact q
 |brk=>exact q
 |cont=>exact q
theorem Zal (h1:PS X st t):PSs X [st] t:=by
 intro pins s σ H D I h;refine wpAny_execs_cons (thn (h1 pins s σ H D I h) λf s1 q=>?_);cases f with
 |next=>exact wpAny_execs_nil q
 |ret v=>exact q
 |brk=>exact q
 |cont=>exact q
theorem Inv.quiet {pins:List (Addr × Obj)}{σ:St}{H:Hp}{s:Shared}(I:Inv X pins σ H s):interactive X.env=false:=by simp[interactive,I.ok.kind]
def tDrop (te:TE):TS:=λD σ H=>te σ H λ_ H1=>D.nx σ H1
theorem Zfw (he:PE X e te) (hs:swapsWith e none pos.line X.env=pure false:=by rfl):PS X (.Expr e pos) (tDrop te):=by
 intro pins s σ H D I h;exact wpAny_Expr_any (thn (he pins s σ H _ I h) λv s1 ⟨x,H1,I1,r1,q1⟩=>⟨σ,H1,I1,q1⟩) I.quiet hs
def tRet (te:TE):TS:=λD σ H=>te σ H D.rt
theorem Za4 (he:PE X e te):PS X (.Return (some e) pos) (tRet te):=by
 intro pins s σ H D I h;exact wpAny_Return_some (thn (he pins s σ H _ I h) λv s1 ⟨x,H1,I1,r1,q1⟩=>⟨x,σ,H1,I1,r1,q1⟩)
def tIfS (c:TT) (t u:TS):TS:=λD σ H=>c σ H λb H1=>if b=true then t D σ H1 else u D σ H1
theorem Zbr {c:Expr}{a b:List Stmt}{tc:TT}(hc:PT X c tc) (ha:PSs X a t) (hb:PSs X b u):PS X (.If c a b pos) (tIfS tc t u):=by
 intro pins s σ H D I h;refine wpAny_If (thn (hc pins s σ H _ I h) λd s1 ⟨H1,I1,q1⟩=>?_);cases d with
 |true=>exact ha pins s1 σ H1 D I1 q1
 |false=>exact hb pins s1 σ H1 D I1 q1
end
abbrev TG:=V->St->Hp->(St->Hp->Prop)->Prop
abbrev TGs:=List V->St->Hp->(St->Hp->Prop)->Prop
def PG (X:Cx) (target:Expr) (t:TG):Prop:=
 ∀(pins:List (Addr × Obj)) (s:Shared) (σ:St) (H:Hp) (v:V) (u:Value) (Q:St->Hp->Prop),Inv X pins σ H s->RelV v u->t v σ H Q →
  wpAny (model X.prog X.w) X.A (assign target X.env u) (λ_ s'=>∃σ' H',Inv X pins σ' H' s' /\ Q σ' H') X.xe s
def PGs (X:Cx) (ts:List Expr) (t:TGs):Prop:=
 ∀(pins:List (Addr × Obj)) (s:Shared) (σ:St) (H:Hp) (vs:List V) (us:List Value) (Q:St->Hp->Prop),Inv X pins σ H s->Vals vs us->t vs σ H Q →
  wpAny (model X.prog X.w) X.A (assignInOrder ((assignEach ts X.env).map (·.2)) us) (λ_ s'=>∃σ' H',Inv X pins σ' H' s' /\ Q σ' H') X.xe s
abbrev TSet:=V->V->V->Hp->(Hp->Prop)->Prop
def PSet (X:Cx) (t:TSet):Prop:=
 ∀(pins:List (Addr × Obj)) (s:Shared) (σ:St) (H:Hp) (o i v:V) (ov iv u:Value) (Q:Hp->Prop),Inv X pins σ H s->RelV o ov->RelV i iv->RelV v u->t o i v H Q →
  wpAny (model X.prog X.w) X.A (setItem ov iv u) (λ_ s'=>∃H',Inv X pins σ H' s' /\ Q H') X.xe s
section
variable {X:Cx}{pos:Pos}
def gName (i:Nat):TG:=λv σ H Q=>Q (σ.set i (some v)) H
theorem Zav {i:Nat}{x:Str}(hN:X.N.Nodup) (hi:X.N[i]?=some x) (hx:Loc X.env.scope x) (hf:X.fn x=true\/X.env.scope.names.lookup x=some .local:=by first|exact .inl rfl|exact .inr rfl|assumption):PG X (.Name x pos) (gName i):=by
 intro pins s σ H v u Q I r h;exact wpAny_assign_Name (Ze5 I hN hi hx r (λs' I'=>⟨_,H,I',h⟩) hf)
def gNil:TGs:=λvs σ H Q=>vs=[]/\Q σ H
def gCons (t:TG) (u:TGs):TGs:=λvs σ H Q=>∃v r,vs=v::r/\t v σ H λσ' H'=>u r σ' H' Q
theorem Zcp:PGs X [] gNil:=by
 intro pins s σ H vs us Q I r h;obtain⟨e,h⟩:=h;subst e;cases r;exact assignInOrder_nil ⟨σ,H,I,h⟩
theorem Zbb {e:Expr}{es:List Expr}{t:TG}{u:TGs}(h1:PG X e t) (h2:PGs X es u)
  (hs:(assignEach (e::es) X.env).map (·.2)=assign e X.env::(assignEach es X.env).map (·.2):=by rfl):PGs X (e::es) (gCons t u):=by
 intro pins s σ H vs us Q I r h;obtain⟨v,vr,e1,h⟩:=h;subst e1;cases r with
 |cons r rr=>
  rw[hs];refine assignInOrder_cons (thn (h1 pins s σ H _ _ _ I r h) λ_ s1 ⟨σ1,H1,I1,q1⟩=>?_);exact h2 pins s1 σ1 H1 _ _ Q I1 rr q1
def gTup (K:W.Frag) (n:Nat) (t:TGs):TG:=λv σ H Q=>∃a xs,v=.ref a/\SqT K H a xs/\xs.length=n/\t xs σ H Q
theorem Zq3 {es:List Expr}{k:Nat}{t:TGs}{n:Nat}(hc:X.calm=true) (h:PGs X es t)
  (hn:(assignEach es X.env).length=n:=by rfl) (hst:(assignEach es X.env).findIdx? (·.1)=none:=by rfl):PG X (.Tuple es k pos) (gTup X.K n t):=by
 intro pins s σ H v u Q I r hw;obtain⟨a,xs,e1,hq,hl,hw⟩:=hw;subst e1;cases r;obtain⟨its,rv,ht,hz⟩:=I.tuple hq;refine assign_Tuple_tuple (I.ok.hd hc) ht (by simp[hn,<- hl,rv.length]) hst λh' hx=>?_;have I1:Inv X pins σ H { s with heap:=h' }:=I.kept (t':=s.toks) λb o e=>hx b o (War (Wak e)) e;exact h pins _ σ H xs _ Q I1 (by simpa using rv) hw
def gSub (to ti:TE) (t:TSet):TG:=λv σ H Q=>to σ H λo H1=>ti σ H1 λi H2=>t o i v H2 λH3=>Q σ H3
theorem Zhq {o i:Expr}{to ti:TE}{t:TSet}(ho:PE X o to) (hi:PE X i ti) (hs:PSet X t)
  (ha:∀v,assign (.Subscript o i pos) X.env v=(do
   let ov ← holding [v] (eval o X.env)
   let iv ← holding [v,ov] (eval i X.env)
   standAt pos
   holding [v,ov,iv] (setItem ov iv v)
   release [v,ov,iv] []):=by intro _;rfl):PG X (.Subscript o i pos) (gSub to ti t):=by
 intro pins s σ H v u Q I r h;rw[ha];refine wpAny_bind (wpAny_holding (thn (ho pins s σ H _ I h) λov s1 ⟨x,H1,I1,r1,q1⟩=>?_));refine wpAny_bind (wpAny_holding (thn (hi pins s1 σ H1 _ I1 q1) λiv s2 ⟨y,H2,I2,r2,q2⟩=>?_));refine wpAny_bind (wpAny_standAt (wpAny_bind (wpAny_holding (thn (hs pins s2 σ H2 x y v ov iv u _ I2 r1 r2 r q2) λ_ s3 ⟨H3,I3,q3⟩=>?_))));exact wpAny_release ⟨σ,H3,I3,q3⟩
def tAsg (te:TE) (g:TG):TS:=λD σ H=>te σ H λx H1=>g x σ H1 D.nx
theorem Zfp {tg e:Expr}{te:TE}{g:TG}(he:PE X e te) (hg:PG X tg g) (hs:swapsWithSole [tg] e pos.line X.env=pure false:=by rfl) (hw:swappedStores [tg] e X.env=pure none:=by rfl)
  (h1:(assignEach [tg] X.env).map (·.2)=[assign tg X.env]:=by rfl):PS X (.Assign [tg] e pos) (tAsg te g):=by
 intro pins s σ H D I h;refine wpAny_Assign_stores (thn (he pins s σ H _ I h) λv s1 ⟨x,H1,I1,r1,q1⟩=>?_) hs hw;rw[h1];exact thn (hg pins s1 σ H1 x v _ I1 r1 q1) λ_ s2 q=>q
theorem Zax {i:Nat}{x:Str}{e:Expr}{te:TE}{pos':Pos}(hN:X.N.Nodup) (hi:X.N[i]?=some x) (hx:Loc X.env.scope x) (he:PE X e te) (hs:swapsWith e (some (.Name x pos')) pos.line X.env=pure false:=by rfl) (hf:X.fn x=true\/X.env.scope.names.lookup x=some .local:=by first|exact .inl rfl|exact .inr rfl|assumption) :
  PS X (.Assign [.Name x pos'] e pos) (tAsg te (gName i)):=by
 intro pins s σ H D I h;refine wpAny_Assign_Name (thn (he pins s σ H _ I h) λv s1 ⟨y,H1,I1,r1,q1⟩=>?_) hs;exact Ze5 I1 hN hi hx r1 (λs2 I2=>⟨_,H1,I2,q1⟩) hf
def tPar (i j:Nat) (ta:TA):TS:=λD σ H=>ta σ H λvs H1=>∃v w,vs=[v,w]/\D.nx ((σ.set i (some v)).set j (some w)) H1
theorem Zkx {i j:Nat}{x y:Str}{a b:Expr}{ta:TA}{px py pt:Pos}{kt k2 pt2} (hc:X.calm=true) (hN:X.N.Nodup) (hi:X.N[i]?=some x) (hj:X.N[j]?=some y) (hij:i≠j)
  (hx:X.env.scope.names.lookup x=some .local) (hy:X.env.scope.names.lookup y=some .local) (ha:PA X [a,b] ta)
  (hw:swappedStores [.Tuple [.Name x px,.Name y py] kt pt] (.Tuple [a,b] k2 pt2) X.env=pure (some [x,y]))
  (hs:swapsWithSole [.Tuple [.Name x px,.Name y py] kt pt] (.Tuple [a,b] k2 pt2) pos.line X.env=pure false:=by rfl) :
  PS X (.Assign [.Tuple [.Name x px,.Name y py] kt pt] (.Tuple [a,b] k2 pt2) pos) (tPar i j ta):=by
 intro pins s σ H D I h;rw[exec_Assign_arm];refine wpAny_bind (wpAny_standAt ?_);rw[hs];refine wpAny_bind (wpAny_pure ?_);rw[if_neg (by decide)];refine wpAny_bind (Tuple_ (thn (ha _ pins s σ H _ I h) λus s1 ⟨vs,H1,I1,r1,q1⟩=>?_));obtain⟨v,w,e1,q1⟩:=q1;subst e1;obtain⟨u1,u2,rfl,rv,rw'⟩:∃u1 u2,us=[u1,u2]/\RelV v u1/\RelV w u2:=by
  cases r1 with
  |cons p q=>
   cases q with
   |cons p' q'=>
    cases q';exact⟨_,_,rfl,p,p'⟩
 refine wpAny_newObj_type ?_ (by show 2<=sizeLine;decide);have I2:Inv X pins σ H1 { s1 with heap:=s1.heap.push { cls:=.type "tuple",data:=.seq [u1,u2].toArray } }:=I1.kept (t':=s1.toks) λb o e=>Waa _ e;rw[hw];refine wpAny_bind (wpAny_pure ?_);show wpAny (model X.prog X.w) X.A (do rule "assign.swapped-stores";let items ← unpackItems (.ref s1.heap.objs.size) 2 none;assignInOrder [λv=>bindName X.env y v,λv=>bindName X.env x v] items.reverse;pure Flow.next) _ _ _;refine wpAny_bind (wpAny_rule (wpAny_bind (unpackItems_tuple (items:=#[u1,u2]) (I.ok.hd hc) (IsTup.new s1.heap _) λh' hx'=>?_)));have I3:=I2.kept (h':=h') (t':=s1.toks) λb o e=>hx' b o (War (Wak e)) e;show wpAny _ _ (assignInOrder [λv=>bindName X.env y v,λv=>bindName X.env x v] [u2,u1] >>= λ_=>pure Flow.next) _ _ _;refine wpAny_bind (assignInOrder_cons (wpAny_bindName (Ze5 I3 hN hj (.inl hy) rw' (λs2 I4=>?_) (.inr hy))));refine assignInOrder_cons (wpAny_bindName (Ze5 I4 hN hi (.inl hx) rv (λs3 I5=>assignInOrder_nil (wpAny_pure ?_)) (.inr hx)));rw[List.set_comm _ _ (Ne.symm hij)]at I5;exact⟨_,H1,I5,q1⟩
end
structure It where
 go:Nat->Hp->Prop
 yld:Nat->Hp->V->Hp->Prop
 stop:Nat->Hp->Prop
def FpOk (X:Cx) (pins:List (Addr × Obj)) (H:Hp) (b:Addr):Prop:=
 H b=none/\b≠X.env.locals/\b ∉ X.fs/\(b∈X.ex\/X.s₀.heap.objs.size<=b)/\(∀x c,X.env.cells.lookup x=some c->c≠b)/\∀p∈X.pn++pins,p.1≠b
theorem Inv.fpOk {X:Cx}{pins:List (Addr × Obj)}{σ:St}{H H':Hp}{s:Shared}{b:Addr}(I:Inv X pins σ H s) (hb:s.heap.objs.size<=b) (hn:H' b=none):FpOk X pins H' b:=by
 refine⟨hn,Wbw (Wa2 I.lt hb),I.nofs hb,.inr (Was I.sz hb),λx c e z=>?_,λp hp z=>?_⟩
 ·obtain⟨v,q⟩:=I.cell x c e
  exact absurd (Wa2 q.lt (by rw[z];exact hb)) (Wcb _)
 ·exact absurd (Wa2 (Wak (I.pin p hp).1) (by rw[z];exact hb)) (Wcb _)
structure TurnG (Cm:Cx->Prop) (P:Program) (w:World) (K:W.Frag) (tg:Expr) (J:It) (fp:List Addr) (it:Addr) (tn:Nat->Heap->Prop):Prop where
 mem:it∈fp
 obj:∀i h,tn i h->∀b∈fp,∃o,h.get? b=some o/\∀v,o.data≠.cell v
 keep:∀i h h',tn i h->(∀b∈fp,∀o,h.get? b=some o->h'.get? b=some o)->tn i h'
 item:∀(X:Cx),X.prog=P->X.w=w->X.K=K->Cm X->∀(i:Nat) (pins:List (Addr × Obj)) (s:Shared) (σ:St) (H:Hp) (E:Value->Shared->Prop),Inv X pins σ H s->(∀b∈fp,FpOk X pins H b)->tn i s.heap->J.go i H →
  wpAny (model P w) X.A (pyNext (.ref it)) (λr s1=>∃u,r=some u ∧
   wpAny (model P w) X.A (letOwnedTupleGo tg (.ref it) u) (λ_ s2=>∃x H',Inv X pins σ H' s2/\RelV x u/\J.yld i H x H' /\ tn (i+1) s2.heap/\∀b∈fp,H' b=none) E s1) E s
 done:∀(X:Cx),X.prog=P->X.w=w->X.K=K->Cm X->∀(i:Nat) (pins:List (Addr × Obj)) (s:Shared) (σ:St) (H:Hp) (E:Value->Shared->Prop),Inv X pins σ H s->(∀b∈fp,FpOk X pins H b)->tn i s.heap->J.stop i H →
  wpAny (model P w) X.A (pyNext (.ref it)) (λr s1=>r=none/\Inv X pins σ H s1) E s
 self:∀(A:Around) (i:Nat) (s:Shared) (Q:Value->Shared->Prop) (E:Value->Shared->Prop),tn i s.heap->Q (.ref it) s->wpAny (model P w) A (pyIter (.ref it)) Q E s
abbrev Turn:=TurnG λX=>X.calm=true
abbrev TI:=St->Hp->(It->Hp->Prop)->Prop
def PIEG (Cm:Cx->Prop) (X:Cx) (pins:List (Addr × Obj)) (σ:St) (tg:Expr) (R:It->Hp->Prop) (itv:Value) (s2:Shared):Prop:=
 ∃(it:Addr) (fp:List Addr) (tn:Nat->Heap->Prop) (J:It) (H':Hp),itv=.ref it/\Inv X pins σ H' s2/\TurnG Cm X.prog X.w X.K tg J fp it tn/\tn 0 s2.heap/\(∀b∈fp,FpOk X pins H' b)/\R J H'
def PIG (Cm:Cx->Prop) (X:Cx) (tg iter:Expr) (wi:TI):Prop:=
 ∀(pins:List (Addr × Obj)) (s:Shared) (σ:St) (H:Hp) (R:It->Hp->Prop),Inv X pins σ H s->wi σ H R →
  wpAny (model X.prog X.w) X.A (eval iter X.env) (λv s1=>wpAny (model X.prog X.w) X.A (pyIter v) (PIEG Cm X pins σ tg R) X.xe s1) X.xe s
abbrev PIE:=PIEG λX=>X.calm=true
abbrev PI:=PIG λX=>X.calm=true
theorem Zp1 {M:Model}{A:Around}{E:Value->Shared->Prop}{s:Shared}{tg:Expr}{it:Addr}{u:Value}{o:Obj}{n:String}{vs:Array Value}{Q:Unit->Shared->Prop}(ho:s.heap.get? it=some o) (hc:o.cls=.type n) (hd:o.data=.fields vs)
  (hn:["enumerate","zip","dict_itemiterator","dict_reverseitemiterator","odict_iterator","itertools.zip_longest","itertools.pairwise"].contains n=false) (hQ:Q () s):wpAny M A (letOwnedTupleGo tg (.ref it) u) Q E s:=by
 unfold letOwnedTupleGo;cases tg <;> first
  |exact wpAny_pure hQ
  | (cases u <;> first
      |exact wpAny_pure hQ
      | (refine wpAny_bind (wpAny_load ho ?_)
         rw[hc,hd];show wpAny M A (if (["enumerate","zip","dict_itemiterator","dict_reverseitemiterator","odict_iterator","itertools.zip_longest","itertools.pairwise"].contains n && vs[0]? == some (rawInt _))=true then _ else _) Q E s;rw[if_neg (by intro h;rw[hn,Bool.false_and]at h;cases h)];exact wpAny_pure hQ))
def Itl (K:W.Frag) (a:Addr):It:=
 ⟨λi H=>∃xs x,SqL K H a xs/\xs[i]?=some x,λi H x H'=>H'=H/\∀xs,SqL K H a xs->xs[i]?=some x,λi H=>∃xs,SqL K H a xs/\xs.length<=i⟩
def Itt (K:W.Frag) (a:Addr):It:=
 ⟨λi H=>∃xs x,SqT K H a xs/\xs[i]?=some x,λi H x H'=>H'=H/\∀xs,SqT K H a xs->xs[i]?=some x,λi H=>∃xs,SqT K H a xs/\xs.length<=i⟩
def Itr (lo:Int) (n:Nat):It:=⟨λi _=>i<n,λi H x H'=>H'=H/\x=.int (lo+i),λi _=>n<=i⟩
theorem Zln {P:Program}{w:World}{K:W.Frag}{tg:Expr}(a it:Addr):Turn P w K tg (Itl K a) [it] it (λi h=>h.IsListIter it a i) where
 mem:=by simp
 obj:=λi h st b hb=>by
  have e:b=it:=by simpa using hb
  subst e;obtain⟨o,e,c,d⟩:=st;exact⟨o,e,λv z=>by rw[d]at z;cases z⟩
 keep:=λi h h' st k=>st.at λo e=>k it (by simp) o e
 item:=by
  intro X hP hw hK hc i pins s σ H E I hf st hg;subst hP hw hK;obtain⟨xs,x,hq,hx⟩:=hg;obtain⟨its,rv,p,hz⟩:=I.list hq;obtain⟨u,hu,ru⟩:=rv.get hx;obtain⟨f0,f1,f2,f3,f4,f5⟩:=hf it (by simp);refine wpAny_pyNext_list_item st p.isList (x:=u) (by simpa using hu) λh' st' sb=>?_;have I1:Inv X pins σ H { s with heap:=h' }:=I.turned (t':=s.toks) (λb o hb e=>(sb.2 b hb).trans e) f0 f1 f3 f4 f5;obtain⟨o,e,c,d⟩:=id st';exact⟨u,rfl,Zp1 (s:={ s with heap:=h' }) e c d (by decide) ⟨x,H,I1,ru,⟨rfl,λys hy=>by rw[I.list_inj hy hq];exact hx⟩,st',λb hb=>(hf b hb).1⟩⟩
 done:=by
  intro X hP hw hK hc i pins s σ H E I hf st hg;subst hP hw hK;obtain⟨xs,hq,hx⟩:=hg;obtain⟨its,rv,p,hz⟩:=I.list hq;obtain⟨f0,f1,f2,f3,f4,f5⟩:=hf it (by simp);have hl:=rv.length;exact wpAny_pyNext_list_end (I.ok.hd hc) st p.isList (by simp;omega) λh' eb=>⟨rfl,I.turned (t':=s.toks) (λb o hb e=>eb b o hb e) f0 f1 f3 f4 f5⟩
 self:=λ_ _ _ _ _ st h=>wpAny_pyIter_listiter st h
theorem Zjt {P:Program}{w:World}{K:W.Frag}{tg:Expr}(a it:Addr):Turn P w K tg (Itt K a) [it] it (λi h=>h.IsTupleIter it a i) where
 mem:=by simp
 obj:=λi h st b hb=>by
  have e:b=it:=by simpa using hb
  subst e;obtain⟨o,e,c,d⟩:=st;exact⟨o,e,λv z=>by rw[d]at z;cases z⟩
 keep:=λi h h' st k=>st.at λo e=>k it (by simp) o e
 item:=by
  intro X hP hw hK hc i pins s σ H E I hf st hg;subst hP hw hK;obtain⟨xs,x,hq,hx⟩:=hg;obtain⟨its,rv,p,hz⟩:=I.tuple hq;obtain⟨u,hu,ru⟩:=rv.get hx;obtain⟨f0,f1,f2,f3,f4,f5⟩:=hf it (by simp);refine wpAny_pyNext_tuple_item st (show s.heap.IsTuple a its.toArray from p) (x:=u) (by simpa using hu) λh' st' sb=>?_;have I1:Inv X pins σ H { s with heap:=h' }:=I.turned (t':=s.toks) (λb o hb e=>(sb.2 b hb).trans e) f0 f1 f3 f4 f5;obtain⟨o,e,c,d⟩:=id st';exact⟨u,rfl,Zp1 (s:={ s with heap:=h' }) e c d (by decide) ⟨x,H,I1,ru,⟨rfl,λys hy=>by rw[I.tuple_inj hy hq];exact hx⟩,st',λb hb=>(hf b hb).1⟩⟩
 done:=by
  intro X hP hw hK hc i pins s σ H E I hf st hg;subst hP hw hK;obtain⟨xs,hq,hx⟩:=hg;obtain⟨its,rv,p,hz⟩:=I.tuple hq;obtain⟨f0,f1,f2,f3,f4,f5⟩:=hf it (by simp);have hl:=rv.length;exact wpAny_pyNext_tuple_end (I.ok.hd hc) st (show s.heap.IsTuple a its.toArray from p) (by simp;omega) λh' eb=>⟨rfl,I.turned (t':=s.toks) (λb o hb e=>eb b o hb e) f0 f1 f3 f4 f5⟩
 self:=λ_ _ _ _ _ st h=>wpAny_pyIter_tupleiter st h
theorem Zjk {P:Program}{w:World}{K:W.Frag}{tg:Expr}(it:Addr) (lo:Int) (n:Nat):Turn P w K tg (Itr lo n) [it] it (λi h=>IsRangeIter h it (lo+(i:Nat)*1) ((n:Int)-(i:Nat)) 1) where
 mem:=by simp
 obj:=λi h st b hb=>by
  have e:b=it:=by simpa using hb
  subst e;exact⟨_,st,λv z=>by
   have z':Data.fields _=Data.cell v:=z;cases z'⟩
 keep:=λi h h' st k=>k it (by simp) _ st
 item:=by
  intro X hP hw hK hc i pins s σ H E I hf st hg;subst hP hw hK;obtain⟨f0,f1,f2,f3,f4,f5⟩:=hf it (by simp);have W:=Walks.range (prog:=X.prog) (w:=X.w) (I.ok.hd hc) it lo 1 n;refine W.item i s _ _ hg st λv h' tk hv st' kk=>?_;obtain⟨t,rfl⟩:=hv;have I1:Inv X pins σ H { s with heap:=h',toks:=tk }:=I.turned (λb o hb e=>kk b o (by simpa using hb) e) f0 f1 f3 f4 f5;refine⟨_,rfl,Zp1 (s:={ s with heap:=h',toks:=tk }) (n:="range_iterator") st' rfl rfl (by decide) ⟨.int (lo+i),H,I1,⟨t,?_⟩,⟨rfl,rfl⟩,st',λb hb=>(hf b hb).1⟩⟩;rw[Int.mul_one]
 done:=by
  intro X hP hw hK hc i pins s σ H E I hf st hg;subst hP hw hK;obtain⟨f0,f1,f2,f3,f4,f5⟩:=hf it (by simp);exact wpAny_pyNext_range_end (I.ok.hd hc) st (by have:n<=i:=hg;omega) λh' eb=>⟨rfl,I.turned (t':=s.toks) (λb o hb e=>eb b o hb e) f0 f1 f3 f4 f5⟩
 self:=λ_ _ _ _ _ st h=>wpAny_pyIter_rangeiter st h
end L2
namespace L2
open PySem PySem.Spec PyProof.Rows
section
variable {X:Cx}{tg:Expr}
def iList (K:W.Frag) (tl:TE):TI:=λσ H R=>tl σ H λx H1=>∃a,x=.ref a/\(∃xs,SqL K H1 a xs)/\R (Itl K a) H1
def iTup (K:W.Frag) (tl:TE):TI:=λσ H R=>tl σ H λx H1=>∃a,x=.ref a/\(∃xs,SqT K H1 a xs)/\R (Itt K a) H1
theorem Zp6 {l:Expr}{tl:TE}(hl:PE X l tl):PI X tg l (iList X.K tl):=by
 intro pins s σ H R I h;refine thn (hl pins s σ H _ I h) λv s1 ⟨x,H1,I1,r1,q1⟩=>?_;obtain⟨a,e,⟨xs,hq⟩,q⟩:=q1;subst e;cases r1;obtain⟨its,rv,p,hz⟩:=I1.list hq;refine wpAny_pyIter_list p.isList ?_;refine⟨s1.heap.objs.size,[s1.heap.objs.size],_,_,H1,rfl,I1.kept (t':=s1.toks) λb o e=>Waa _ e,Zln a _,⟨_,Wal _ rfl,rfl,rfl⟩,λb hb=>?_,q⟩;have e:b=s1.heap.objs.size:=by simpa using hb
 subst e;exact I1.fpOk (Waf _) (I1.hok.fresh (Waf _))
theorem Zr5 {l:Expr}{tl:TE}(hl:PE X l tl):PI X tg l (iTup X.K tl):=by
 intro pins s σ H R I h;refine thn (hl pins s σ H _ I h) λv s1 ⟨x,H1,I1,r1,q1⟩=>?_;obtain⟨a,e,⟨xs,hq⟩,q⟩:=q1;subst e;cases r1;obtain⟨its,rv,p,hz⟩:=I1.tuple hq;refine wpAny_pyIter_tuple (show s1.heap.IsTuple a its.toArray from p) ?_;refine⟨s1.heap.objs.size,[s1.heap.objs.size],_,_,H1,rfl,I1.kept (t':=s1.toks) λb o e=>Waa _ e,Zjt a _,⟨_,Wal _ rfl,rfl,rfl⟩,λb hb=>?_,q⟩;have e:b=s1.heap.objs.size:=by simpa using hb
 subst e;exact I1.fpOk (Waf _) (I1.hok.fresh (Waf _))
theorem range_it {pins:List (Addr × Obj)}{σ:St}{H:Hp}{s:Shared}{R:It->Hp->Prop}{E:Value->Shared->Prop}{lo hi:Int}{t u v:Tok}{tk:Nat}(I:Inv X pins σ H s) (h1:-(2 ^ 62)<=lo) (h2:lo<2 ^ 62) (h3:-(2 ^ 62)<=hi) (h4:hi<2 ^ 62)
  (q:R (Itr lo (hi-lo).toNat) H):wpAny (model X.prog X.w) X.A (pyIter (.ref s.heap.objs.size)) (PIE X pins σ tg R) E { s with heap:=s.heap.push { cls:=.type "range",data:=.fields #[.int lo t,.int hi u,.int 1 v] },toks:=tk }:=by
 refine wpAny_pyIter_range (IsRange.new ..) (small_one h1 h2 h3 h4) ?_;have I1:Inv X pins σ H { s with heap:=s.heap.push { cls:=.type "range",data:=.fields #[.int lo t,.int hi u,.int 1 v] },toks:=tk }:=I.kept λb o e=>Waa _ e;refine⟨(s.heap.push { cls:=.type "range",data:=.fields #[.int lo t,.int hi u,.int 1 v] }).objs.size,[(s.heap.push { cls:=.type "range",data:=.fields #[.int lo t,.int hi u,.int 1 v] }).objs.size],_,_,H,rfl,
  I1.kept (t':=tk) λb o e=>Waa _ e,Zjk _ lo (hi-lo).toNat,?_,λb hb=>?_,q⟩
 ·have e1:lo+((0:Nat):Int)*1=lo:=by simp
  have e2:(((hi-lo).toNat:Nat):Int)-((0:Nat):Int)=Builtin.Range.rangeSize lo hi 1:=by rw[rangeSize_one];split <;> omega
  show IsRangeIter _ _ (lo+((0:Nat):Int)*1) ((((hi-lo).toNat:Nat):Int)-((0:Nat):Int)) 1;rw[e1,e2];exact Wal _ rfl
 ·have e:b=(s.heap.push { cls:=.type "range",data:=.fields #[.int lo t,.int hi u,.int 1 v] }).objs.size:=by simpa using hb
  subst e;exact I1.fpOk (Waf _) (I1.hok.fresh (Waf _))
def iRng1 (ta:TA):TI:=λσ H R=>ta σ H λvs H1=>∃j:Int,vs=[.int j] /\ -(2 ^ 62)<=j/\j<2 ^ 62/\R (Itr 0 j.toNat) H1
theorem Zbw {a:Expr}{ta:TA}{p pos:Pos}(hg:Gl X "range") (hm:X.mg "range" = none) (ha:PA X [a] ta) (hs:starEach [a] X.env=[(false,eval a X.env)]:=by rfl):PI X tg (.Call (.Name "range" p) [a] [] pos) (iRng1 ta):=by
 intro pins s σ H R I h;refine Call_ (Zd0 I hg hm boot_range (PyProof.Rows.callWith_type1 (thn (ha pos pins s σ H _ I h) λus s1 ⟨vs,H1,I1,r1,q1⟩=>?_) hs rfl));obtain⟨j,e,q1,q2,q⟩:=q1;subst e;cases r1 with
 |cons r rr=>
  cases rr;obtain⟨t,rfl⟩:=r;exact call_range_1 (range_it I1 (by omega) (by omega) q1 q2 (by simpa using q))
def tFor (wi:TI) (g:TG) (tb:TS):TS:=λD σ H=>wi σ H λJ H1=>∃W:Nat->Nat->St->Hp->Prop,(∃m,W 0 m σ H1)/\∀i m σ H,W i m σ H →
 (J.stop i H/\D.nx σ H)\/(J.go i H/\∃N:St->Hp->Prop,(∀σ' H',N σ' H' -> ∃m',m'<m/\W (i+1) m' σ' H')/\∀x H',J.yld i H x H' -> g x σ H' λσ2 H2=>tb { D with nx:=N,ct:=N,bk:=D.nx } σ2 H2)
def pinsAt (fp:List Addr) (h:Heap):List (Addr × Obj):=fp.filterMap λb=>(h.get? b).map λo=>(b,o)
theorem Zco {fp:List Addr}{h:Heap}{b:Addr}{o:Obj}(hb:b∈fp) (e:h.get? b=some o):(b,o)∈pinsAt fp h:=List.mem_filterMap.mpr ⟨b,hb,by rw[e];rfl⟩
theorem Zmi {fp:List Addr}{h:Heap}{p:Addr × Obj}(hp:p∈pinsAt fp h):p.1∈fp/\h.get? p.1=some p.2:=by
 obtain⟨b,hb,e⟩:=List.mem_filterMap.mp hp;cases q:h.get? b with
 |none=>rw[q]at e;cases e
 |some o=>
  rw[q]at e;have e':(b,o)=p:=Wbo.inj e;subst e';exact⟨hb,q⟩
theorem Inv.pinned {pins:List (Addr × Obj)}{σ:St}{H:Hp}{s:Shared}{fp:List Addr}(I:Inv X pins σ H s) (hf:∀b∈fp,FpOk X pins H b) (ho:∀b∈fp,∃o,s.heap.get? b=some o/\∀v,o.data≠.cell v):Inv X (pins++pinsAt fp s.heap) σ H s:=
 I.pins_of λp hp=>(Waz.mp hp).elim (λz=>I.pin p (Wax _ z)) λz=>by
  obtain⟨hb,e⟩:=Zmi z;obtain⟨f0,f1,f2,_⟩:=hf p.1 hb;obtain⟨o,e',d⟩:=ho p.1 hb;rw[e]at e';cases e';exact⟨e,f0,f1,f2,d⟩
theorem Inv.unpinned {pins pl:List (Addr × Obj)}{σ:St}{H:Hp}{s:Shared}(I:Inv X (pins++pl) σ H s):Inv X pins σ H s:=I.pins_of λp hp=>I.pin p (Wax _ (Wbv _ hp))
theorem Zct {iter:Expr}{body:List Stmt}{wi:TI}{g:TG}{tb:TS}{pos:Pos}(hp:PassesOwn (model X.prog X.w) X.A X.env X.xe) (hc:X.calm=true) (hi:PI X tg iter wi) (hg:PG X tg g) (hb:PSs X body tb)
  (hs:∀x,foldedSetIterable iter X.env x=pure x:=by intro _;rfl):PS X (.For tg iter body [] pos) (tFor wi g tb):=by
 intro pins s σ H D I h;refine wpAny_For (thn (hi pins s σ H _ I h) λv s1 h1=>thn h1 λitv s2 h2=>?_) hs;obtain⟨it,fp,tn,J,H2,e,I2,T,st2,f2,W,⟨m0,w0⟩,turn⟩:=h2;subst e
 -- what stays true of the iterator's objects through the loop
 have stat:∀{H':Hp},(∀b∈fp,H' b=none)->∀b∈fp,FpOk X pins H' b:=λhn b hb=>⟨hn b hb,(f2 b hb).2⟩;refine codeAny_forLoop_any (λn s'=>∃i σ' H',Inv X pins σ' H' s' /\ tn i s'.heap/\(∀b∈fp,H' b=none)/\W i n σ' H') ?_ m0 ⟨0,σ,H2,I2,st2,λb hb=>(f2 b hb).1,w0⟩;rintro n s3 ⟨i,σ3,H3,I3,st3,fr3,w3⟩;rcases turn i n σ3 H3 w3 with ⟨stop,qn⟩|⟨go,N,hN,step⟩
 ·refine wpAny_passesOwn hp (thn (T.done X rfl rfl rfl hc i pins s3 σ3 H3 X.xe I3 (stat fr3) st3 stop) λr s4 ⟨hr,I4⟩=>?_)
  subst hr;exact wpAny_execs_nil ⟨σ3,H3,I4,qn⟩
 ·refine wpAny_passesOwn hp (thn (T.item X rfl rfl rfl hc i pins s3 σ3 H3 X.xe I3 (stat fr3) st3 go) λr s4 ⟨u,hr,h4⟩=>?_)
  subst hr;refine wpAny_passesOwn hp (thn h4 λ_ s5 ⟨x,H5,I5,r5,y5,st5,fr5⟩=>?_);have I5':=I5.pinned (stat fr5) (T.obj _ _ st5);refine wpAny_passesOwn hp (thn (hg _ s5 σ3 H5 x u _ I5' r5 (step x H5 y5)) λ_ s6 ⟨σ6,H6,I6,q6⟩=>?_);refine wpAny_passesOwn hp (thn (hb _ s6 σ6 H6 _ I6 q6) λf s7 q7=>?_);have again:∀{σ7:St}{H7:Hp},Inv X (pins++pinsAt fp s5.heap) σ7 H7 s7->N σ7 H7->∃m,m<n/\∃i σ' H',Inv X pins σ' H' s7/\tn i s7.heap/\(∀b∈fp,H' b=none)/\W i m σ' H':=λ{σ7 H7} I7 n7=>by
   obtain⟨m',hm,w7⟩:=hN σ7 H7 n7;refine⟨m',hm,i+1,σ7,H7,I7.unpinned,T.keep _ _ _ st5 λb hb o e=>(I7.pin (b,o) (Wax _ (Wax _ (Zco hb e)))).1,λb hb=>?_,w7⟩;obtain⟨o,e,d⟩:=T.obj _ _ st5 b hb;exact(I7.pin (b,o) (Wax _ (Wax _ (Zco hb e)))).2.1
  cases f with
  |next=>obtain⟨σ7,H7,I7,n7⟩:=q7;exact again I7 n7
  |cont=>obtain⟨σ7,H7,I7,n7⟩:=q7;exact again I7 n7
  |brk=>obtain⟨σ7,H7,I7,q7⟩:=q7;exact⟨σ7,H7,I7.unpinned,q7⟩
  |ret v=>obtain⟨x7,σ7,H7,I7,r7,q7⟩:=q7;exact⟨x7,σ7,H7,I7.unpinned,r7,q7⟩
end
end L2
namespace L2
open PySem PySem.Spec PyProof.Rows
abbrev R2:=V->V->Hp->VK->Prop
def OpR (X:Cx) (f:Value->Value->Sem Value) (r:R2):Prop:=
 ∀(pins:List (Addr × Obj)) (s:Shared) (σ:St) (H:Hp) (x y:V) (v u:Value) (Q:VK),Inv X pins σ H s->RelV x v->RelV y u->r x y H Q →
  wpAny (model X.prog X.w) X.A (f v u) (EP X pins σ Q) X.xe s
def UnR (X:Cx) (f:Value->Sem Value) (r:V->Hp->VK->Prop):Prop:=
 ∀(pins:List (Addr × Obj)) (s:Shared) (σ:St) (H:Hp) (x:V) (v:Value) (Q:VK),Inv X pins σ H s->RelV x v->r x H Q →
  wpAny (model X.prog X.w) X.A (f v) (EP X pins σ Q) X.xe s
def CallR (X:Cx) (f:Value) (r:List V->Hp->VK->Prop):Prop:=
 ∀(pins:List (Addr × Obj)) (s:Shared) (σ:St) (H:Hp) (xs:List V) (us:List Value) (Q:VK),Inv X pins σ H s->Vals xs us->r xs H Q →
  wpAny (model X.prog X.w) X.A (call f us) (EP X pins σ Q) X.xe s
def TruR (X:Cx) (r:V->Hp->(Bool->Hp->Prop)->Prop):Prop:=
 ∀(pins:List (Addr × Obj)) (s:Shared) (σ:St) (H:Hp) (x:V) (v:Value) (Q:Bool->Hp->Prop),Inv X pins σ H s->RelV x v->r x H Q →
  wpAny (model X.prog X.w) X.A (truthy v) (TP X pins σ Q) X.xe s
def tOp (r:R2) (ta tb:TE):TE:=λσ H Q=>ta σ H λx H1=>tb σ H1 λy H2=>r x y H2 Q
def tUn (r:V->Hp->VK->Prop) (ta:TE):TE:=λσ H Q=>ta σ H λx H1=>r x H1 Q
def rI (C:Int->Int->Prop) (g:Int->Int->V):R2:=λx y H Q=>∃i j,x=.int i/\y=.int j/\C i j/\Q (g i j) H
def rI0 (g:Int->Int->V):R2:=λx y H Q=>∃i j,x=.int i/\y=.int j/\Q (g i j) H
def rU (g:Int->V):V->Hp->VK->Prop:=λx H Q=>∃i,x=.int i/\Q (g i) H
section
variable {X:Cx}{a b c:Expr}{ta tb tc:TE}{pos:Pos}
theorem binT (ha:PE X a ta) (hb:PE X b tb) {pins:List (Addr × Obj)}{s:Shared}{σ:St}{H:Hp}{R:V->V->Hp->Prop}(I:Inv X pins σ H s)
  (h:ta σ H λx H1=>tb σ H1 λy H2=>R x y H2) {Q:Value->Shared->Prop}{f:Value->Value->Sem Value}
  (hf:∀v u s2 x y H2,Inv X pins σ H2 s2->RelV x v->RelV y u->R x y H2->wpAny (model X.prog X.w) X.A (f v u) Q X.xe s2) :
  wpAny (model X.prog X.w) X.A (eval a X.env) (λv s₁=>wpAny (model X.prog X.w) X.A (eval b X.env) (λu s₂=>wpAny (model X.prog X.w) X.A (f v u) Q X.xe s₂) X.xe s₁) X.xe s:=by
 refine thn (ha pins s σ H _ I h) λv s1 ⟨x,H1,I1,r1,q1⟩=>?_;refine thn (hb pins s1 σ H1 _ I1 q1) λu s2 ⟨y,H2,I2,r2,q2⟩=>?_;exact hf v u s2 x y H2 I2 r1 r2 q2
theorem Zaw {op:Operator}{r:R2}(ho:OpR X (binaryOp op) r) (ha:PE X a ta) (hb:PE X b tb):PE X (.BinOp a op b pos) (tOp r ta tb):=by
 intro pins s σ H Q I h;exact wpAny_BinOp (binT ha hb I h λv u s2 x y H2 I2 rx ry q=>ho pins s2 σ H2 x y v u Q I2 rx ry q)
theorem Zsb {op:UnaryOp}{r:V->Hp->VK->Prop}(ho:UnR X (unaryOp op) r) (ha:PE X a ta):PE X (.UnaryOp op a pos) (tUn r ta):=by
 intro pins s σ H Q I h;exact UnaryOp_ (thn (ha pins s σ H _ I h) λv s1 ⟨x,H1,I1,r1,q1⟩=>ho pins s1 σ H1 x v Q I1 r1 q1)
theorem opI {f:Value->Value->Sem Value}{C:Int->Int->Prop}{g:Int->Int->Int}
  (rule:∀(i j:Int) (t u:Tok) (s:Shared) (Q:Value->Shared->Prop) (E:Value->Shared->Prop),C i j->Q (.int (g i j) s.toks) { s with toks:=s.toks+1 } -> wpAny (model X.prog X.w) X.A (f (.int i t) (.int j u)) Q E s) :
  OpR X f (rI C λi j=>.int (g i j)):=by
 intro pins s σ H x y v u Q I rx ry h;obtain⟨i,j,rfl,rfl,hc,q⟩:=h;obtain⟨t,rfl⟩:=rx;obtain⟨t',rfl⟩:=ry;exact rule i j t t' s _ _ hc ⟨.int (g i j),H,I.tok _,⟨_,rfl⟩,q⟩
theorem opI0 {f:Value->Value->Sem Value}{g:Int->Int->Int}
  (rule:∀(i j:Int) (t u:Tok) (s:Shared) (Q:Value->Shared->Prop) (E:Value->Shared->Prop),Q (.int (g i j) s.toks) { s with toks:=s.toks+1 } -> wpAny (model X.prog X.w) X.A (f (.int i t) (.int j u)) Q E s) :
  OpR X f (rI0 λi j=>.int (g i j)):=by
 intro pins s σ H x y v u Q I rx ry h;obtain⟨i,j,rfl,rfl,q⟩:=h;obtain⟨t,rfl⟩:=rx;obtain⟨t',rfl⟩:=ry;exact rule i j t t' s _ _ ⟨.int (g i j),H,I.tok _,⟨_,rfl⟩,q⟩
theorem opB0 {f:Value->Value->Sem Value}{g:Int->Int->Bool}
  (rule:∀(i j:Int) (t u:Tok) (s:Shared) (Q:Value->Shared->Prop) (E:Value->Shared->Prop),Q (.bool (g i j)) s->wpAny (model X.prog X.w) X.A (f (.int i t) (.int j u)) Q E s) :
  OpR X f (rI0 λi j=>.bl (g i j)):=by
 intro pins s σ H x y v u Q I rx ry h;obtain⟨i,j,rfl,rfl,q⟩:=h;obtain⟨t,rfl⟩:=rx;obtain⟨t',rfl⟩:=ry;exact rule i j t t' s _ _ ⟨.bl (g i j),H,I,rfl,q⟩
def CDiv (i j:Int):Prop:=0<j/\j<1073741824
def CPow (i j:Int):Prop:=0<=j/\j<=1000000/\i.natAbs<2 ^ 64
def CMul (i j:Int):Prop:=(-(2 ^ 64)<i/\i<2 ^ 64)\/(-(2 ^ 64)<j/\j<2 ^ 64)
theorem CMul.ok {i j:Int}(h:CMul i j):IntMulOk i j:=by
 rcases h with ⟨h1,h2⟩|⟨h1,h2⟩
 ·exact .of_left (intBits_le_64 h1 h2)
 ·exact .of_right (intBits_le_64 h1 h2)
theorem Zqx:OpR X (binaryOp .Add) (rI0 λi j=>.int (i+j)):=opI0 λ_ _ _ _ _ _ _ q=>add_int q
theorem Zes:OpR X (binaryOp .Sub) (rI0 λi j=>.int (i-j)):=opI0 λ_ _ _ _ _ _ _ q=>sub_int q
theorem Zdl:OpR X (binaryOp .Mult) (rI CMul λi j=>.int (i*j)):=opI λ_ _ _ _ _ _ _ hc q=>mul_int q hc.ok
theorem Zdr:OpR X (binaryOp .FloorDiv) (rI CDiv λi j=>.int (i / j)):=opI λi j _ _ _ _ _ hc q=>by
 have h1:(0:Int)<j:=hc.1;have h2:j<1073741824:=hc.2;exact floordiv_int (by omega) (by rw[Int.fdiv_eq_ediv_of_nonneg i (by omega)];exact q) (.inl (PyProof.noPylong_small (by omega)))
theorem Zbu:OpR X (binaryOp .Mod) (rI (λ_ j=>0<j) λi j=>.int (i % j)):=opI λi j _ _ _ _ _ hc q=>by
 have h1:(0:Int)<j:=hc;exact mod_int' (by omega) (by rw[Int.fmod_eq_emod_of_nonneg i (by omega)];exact q)
theorem Znz:OpR X (binaryOp .Pow) (rI CPow λi j=>.int (i ^ j.toNat)):=opI λ_ _ _ _ _ _ _ hc q=>pow_int_small hc.1 hc.2.1 hc.2.2 q
theorem Zrj:OpR X (binaryOp .BitXor) (rI0 λi j=>.int (Builtin.bitXor i j)):=opI0 λ_ _ _ _ _ _ _ q=>xor_int q
theorem unI {f:Value->Sem Value}{g:Int->Int}
  (rule:∀(i:Int) (t:Tok) (s:Shared) (Q:Value->Shared->Prop) (E:Value->Shared->Prop),Q (.int (g i) s.toks) { s with toks:=s.toks+1 } -> wpAny (model X.prog X.w) X.A (f (.int i t)) Q E s) :
  UnR X f (rU λi=>.int (g i)):=by
 intro pins s σ H x v Q I rx h;obtain⟨i,rfl,q⟩:=h;obtain⟨t,rfl⟩:=rx;exact rule i t s _ _ ⟨.int (g i),H,I.tok _,⟨_,rfl⟩,q⟩
theorem Zqc:UnR X (unaryOp .USub) (rU λi=>.int (-i)):=unI λ_ _ _ _ _ q=>neg_int q
end
def scal:V->V->Bool
 |.non,.non=>true|.non,.int _=>true|.int _,.non=>true|.non,.bl _=>true|.bl _,.non=>true|.non,.str _=>true|.str _,.non=>true
 |.int _,.int _=>true|.bl _,.bl _=>true|.str _,.str _=>true|.byt _,.byt _=>true
 |.int _,.str _=>true|.str _,.int _=>true|.bl _,.str _=>true|.str _,.bl _=>true
 |_,_=>false
def rEq:R2:=λx y H Q=>scal x y=true/\Q (.bl (decide (x=y))) H
def rNe:R2:=λx y H Q=>scal x y=true/\Q (.bl (!decide (x=y))) H
theorem Zg2 {i j:Int}:decide (V.int i=V.int j)=(i == j):=by
 rw[Wca];simp
theorem Zoa {i j:Bool}:decide (V.bl i=V.bl j)=(i == j):=by
 rw[Wca];simp
theorem Zmj {i j:Str}:decide (V.str i=V.str j)=(i == j):=by
 rw[Wca];simp
theorem Zku {i j:Array UInt8}:decide (V.byt i=V.byt j)=(i.toList == j.toList):=by
 rw[Wca];cases i;cases j;simp
section
variable {X:Cx}{a b c:Expr}{ta tb tc:TE}{pos:Pos}
theorem Zbf {pins:List (Addr × Obj)}{σ:St}{H:Hp}{s:Shared}{Q:VK}{k k':Bool}(I:Inv X pins σ H s) (q:Q (.bl k) H) (e:k=k'):EP X pins σ Q (.bool k') s:=by
 subst e;exact⟨.bl k,H,I,rfl,q⟩
theorem Zrv:OpR X (compareOp .Eq) rEq:=by
 intro pins s σ H x y v u Q I rx ry h;obtain⟨hs,q⟩:=h;cases x with
 |non=>
  cases rx;cases y with
  |non=>cases ry;exact PySem.EqNone.eq_none_none (Zbf I q (by simp))
  |bl j=>cases ry;exact PySem.EqNone.eq_none_bool (Zbf I q (by simp))
  |int j=>obtain⟨t',rfl⟩:=ry;exact PySem.EqNone.eq_none_int (Zbf I q (by simp))
  |str j=>obtain⟨t',rfl⟩:=ry;exact PySem.EqNone.eq_none_str (Zbf I q (by simp))
  |_=>exact absurd (show false=true from hs) Wai
 |bl i=>
  cases rx;cases y with
  |non=>cases ry;exact PySem.EqNone.eq_bool_none (Zbf I q (by simp))
  |bl j=>cases ry;exact eq_bool (Zbf I q Zoa)
  |str j=>obtain⟨t',rfl⟩:=ry;exact PySem.EqMixed.eq_bool_str (Zbf I q (by simp))
  |_=>exact absurd (show false=true from hs) Wai
 |int i=>
  obtain⟨t,rfl⟩:=rx;cases y with
  |non=>cases ry;exact PySem.EqNone.eq_int_none (Zbf I q (by simp))
  |int j=>obtain⟨t',rfl⟩:=ry;exact eq_int (Zbf I q Zg2)
  |str j=>obtain⟨t',rfl⟩:=ry;exact PySem.EqMixed.eq_int_str (Zbf I q (by simp))
  |_=>exact absurd (show false=true from hs) Wai
 |str i=>
  obtain⟨t,rfl⟩:=rx;cases y with
  |non=>cases ry;exact PySem.EqNone.eq_str_none (Zbf I q (by simp))
  |bl j=>cases ry;exact PySem.EqMixed.eq_str_bool (Zbf I q (by simp))
  |int j=>obtain⟨t',rfl⟩:=ry;exact PySem.EqMixed.eq_str_int (Zbf I q (by simp))
  |str j=>obtain⟨t',rfl⟩:=ry;exact eq_str (Zbf I q Zmj)
  |_=>exact absurd (show false=true from hs) Wai
 |byt i=>
  obtain⟨t,rfl⟩:=rx;cases y with
  |byt j=>obtain⟨t',rfl⟩:=ry;exact PySem.W.eq_bytes (Zbf I q Zku)
  |_=>exact absurd (show false=true from hs) Wai
 |_=>cases y <;> exact absurd (show false=true from hs) Wai
theorem Zsa:OpR X (compareOp .NotEq) rNe:=by
 intro pins s σ H x y v u Q I rx ry h;obtain⟨hs,q⟩:=h;cases x with
 |non=>
  cases rx;cases y with
  |non=>cases ry;exact PySem.EqNone.ne_none_none (Zbf I q (by simp))
  |bl j=>cases ry;exact PySem.EqNone.ne_none_bool (Zbf I q (by simp))
  |int j=>obtain⟨t',rfl⟩:=ry;exact PySem.EqNone.ne_none_int (Zbf I q (by simp))
  |str j=>obtain⟨t',rfl⟩:=ry;exact PySem.EqNone.ne_none_str (Zbf I q (by simp))
  |_=>exact absurd (show false=true from hs) Wai
 |bl i=>
  cases rx;cases y with
  |non=>cases ry;exact PySem.EqNone.ne_bool_none (Zbf I q (by simp))
  |bl j=>cases ry;exact ne_bool (Zbf I q (congrArg not Zoa))
  |str j=>obtain⟨t',rfl⟩:=ry;exact PySem.EqMixed.ne_bool_str (Zbf I q (by simp))
  |_=>exact absurd (show false=true from hs) Wai
 |int i=>
  obtain⟨t,rfl⟩:=rx;cases y with
  |non=>cases ry;exact PySem.EqNone.ne_int_none (Zbf I q (by simp))
  |int j=>obtain⟨t',rfl⟩:=ry;exact ne_int (Zbf I q (congrArg not Zg2))
  |str j=>obtain⟨t',rfl⟩:=ry;exact PySem.EqMixed.ne_int_str (Zbf I q (by simp))
  |_=>exact absurd (show false=true from hs) Wai
 |str i=>
  obtain⟨t,rfl⟩:=rx;cases y with
  |non=>cases ry;exact PySem.EqNone.ne_str_none (Zbf I q (by simp))
  |bl j=>cases ry;exact PySem.EqMixed.ne_str_bool (Zbf I q (by simp))
  |int j=>obtain⟨t',rfl⟩:=ry;exact PySem.EqMixed.ne_str_int (Zbf I q (by simp))
  |str j=>obtain⟨t',rfl⟩:=ry;exact ne_str (Zbf I q (congrArg not Zmj))
  |_=>exact absurd (show false=true from hs) Wai
 |byt i=>
  obtain⟨t,rfl⟩:=rx;cases y with
  |byt j=>obtain⟨t',rfl⟩:=ry;exact PySem.W.ne_bytes (Zbf I q (congrArg not Zku))
  |_=>exact absurd (show false=true from hs) Wai
 |_=>cases y <;> exact absurd (show false=true from hs) Wai
theorem Zmh:OpR X (compareOp .Lt) (rI0 λi j=>.bl (decide (i<j))):=opB0 λ_ _ _ _ _ _ _ q=>lt_int q
theorem Zr1:OpR X (compareOp .LtE) (rI0 λi j=>.bl (decide (i<=j))):=opB0 λ_ _ _ _ _ _ _ q=>le_int q
theorem Zj9:OpR X (compareOp .Gt) (rI0 λi j=>.bl (decide (j<i))):=opB0 λ_ _ _ _ _ _ _ q=>gt_int q
theorem Zse:OpR X (compareOp .GtE) (rI0 λi j=>.bl (decide (j<=i))):=opB0 λ_ _ _ _ _ _ _ q=>ge_int q
theorem OpR.or {f:Value->Value->Sem Value}{r r':R2}(h:OpR X f r) (h':OpR X f r'):OpR X f (λx y H Q=>r x y H Q\/r' x y H Q):=by
 intro pins s σ H x y v u Q I rx ry q;rcases q with q|q
 ·exact h pins s σ H x y v u Q I rx ry q
 ·exact h' pins s σ H x y v u Q I rx ry q
theorem nomark (b:Expr) {op:CmpOp}(h:op≠.In:=by decide) (h2:op≠.NotIn:=by decide):behindInMarks op b=false:=by
 have e1:(op == CmpOp.In)=false:=by cases op <;> first|rfl|exact absurd rfl h
 have e2:(op == CmpOp.NotIn)=false:=by cases op <;> first|rfl|exact absurd rfl h2
 cases b <;> simp[behindInMarks,e1,e2]
theorem Zb7 {op:CmpOp}{r:R2}(ho:OpR X (compareOp op) r) (ha:PE X a ta) (hb:PE X b tb) (hm:behindInMarks op b=false):PE X (.Compare a [op] [b] pos) (tOp r ta tb):=by
 intro pins s σ H Q I h;exact wpAny_Compare1 (binT ha hb I h λv u s2 x y H2 I2 rx ry q=>ho pins s2 σ H2 x y v u Q I2 rx ry q) hm
def tTest (t:TE):TT:=λσ H Q=>t σ H λx H'=>∃k,x=.bl k/\Q k H'
theorem Zaz {op:CmpOp}{r:R2}(ho:OpR X (compareOp op) r) (ha:PE X a ta) (hb:PE X b tb) (hm:behindInMarks op b=false):PT X (.Compare a [op] [b] pos) (tTest (tOp r ta tb)):=by
 intro pins s σ H Q I h;refine wpAny_isTrue_Compare1 (thn (ha pins s σ H _ I h) λv s1 ⟨x,H1,I1,r1,q1⟩=>thn (hb pins s1 σ H1 _ I1 q1) λu s2 ⟨y,H2,I2,r2,q2⟩=>
  thn (ho pins s2 σ H2 x y v u _ I2 r1 r2 q2) λc s3 ⟨z,H3,I3,r3,k,e,q3⟩=>?_) hm
 subst e;cases r3;exact wpAny_truthy_bool ⟨H3,I3,q3⟩
def tChain (r r':R2) (ta tb tc:TE):TE:=λσ H Q=>ta σ H λx H1=>tb σ H1 λy H2=>r x y H2 λz H3=>∃k,z=.bl k ∧
 (if k=true then tc σ H3 λw' H4=>r' y w' H4 Q else Q (.bl false) H3)
theorem Znm {op op':CmpOp}{r r':R2}(ho:OpR X (compareOp op) r) (ho':OpR X (compareOp op') r') (ha:PE X a ta) (hb:PE X b tb) (hc:PE X c tc)
  (hm:lastMarks [op,op'] [b,c]=false:=by with_unfolding_all rfl):PE X (.Compare a [op,op'] [b,c] pos) (tChain r r' ta tb tc):=by
 intro pins s σ H Q I h;refine Compare_chain (thn (ha pins s σ H _ I h) λv s1 ⟨x,H1,I1,r1,q1⟩=>chain_link (thn (hb pins s1 σ H1 _ I1 q1) λu s2 ⟨y,H2,I2,r2,q2⟩=>
  thn (ho pins s2 σ H2 x y v u _ I2 r1 r2 q2) λd s3 ⟨z,H3,I3,r3,k,e,q3⟩=>?_)) hm
 subst e;cases r3;refine wpAny_truthy_bool ?_;cases k with
 |false=>exact ite_ff ⟨.bl false,H3,I3,rfl,q3⟩
 |true=>exact ite_tt (chain_last (thn (hc pins s3 σ H3 _ I3 q3) λw' s4 ⟨z',H4,I4,r4,q4⟩=>ho' pins s4 σ H4 y z' u w' Q I4 r2 r4 q4))
theorem Zmn {op op':CmpOp}{r r':R2}(ho:OpR X (compareOp op) r) (ho':OpR X (compareOp op') r') (ha:PE X a ta) (hb:PE X b tb) (hc:PE X c tc)
  (hm:lastMarks [op,op'] [b,c]=false:=by with_unfolding_all rfl):PT X (.Compare a [op,op'] [b,c] pos) (tTest (tChain r r' ta tb tc)):=by
 intro pins s σ H Q I h;refine isTrue_chain (thn (ha pins s σ H _ I h) λv s1 ⟨x,H1,I1,r1,q1⟩=>test_link (thn (hb pins s1 σ H1 _ I1 q1) λu s2 ⟨y,H2,I2,r2,q2⟩=>
  thn (ho pins s2 σ H2 x y v u _ I2 r1 r2 q2) λd s3 ⟨z,H3,I3,r3,k,e,q3⟩=>?_)) hm
 subst e;cases r3;refine wpAny_truthy_bool ?_;cases k with
 |false=>
  obtain⟨k',e',q'⟩:=q3;cases e';exact ite_ff ⟨H3,I3,q'⟩
 |true=>
  refine ite_tt (test_last (thn (hc pins s3 σ H3 _ I3 q3) λw' s4 ⟨z',H4,I4,r4,q4⟩=>thn (ho' pins s4 σ H4 y z' u w' _ I4 r2 r4 q4) λd' s5 ⟨z2,H5,I5,r5,k2,e2,q5⟩=>?_));subst e2;cases r5;exact wpAny_truthy_bool ⟨H5,I5,q5⟩
def TruV (K:W.Frag) (x:V) (H:Hp) (k:Bool):Prop:=
 match x with
 |.non=>k=false
 |.bl b=>k=b
 |.int i=>k=(i != 0)
 |.str y=>y.length<=sizeLine/\k=((y.length:Int) != 0)
 |.byt y=>y.size<=sizeLine/\k=((y.size:Int) != 0)
 |.ref p=>(∃xs,SqL K H p xs/\k = !xs.isEmpty)\/(∃xs,SqT K H p xs/\k = !xs.isEmpty)\/∃kvs,H p=some (.dK kvs)/\k = !kvs.isEmpty
 |_=>False
theorem Zj4 {κ:Type}{kvs:List (κ × V)}{vs:List (κ × Value)}(r:KV kvs vs):(!vs.isEmpty) = !kvs.isEmpty:=by
 cases r <;> rfl
theorem Zgd {xs:List V}{its:List Value}(r:Vals xs its):(!its.toArray.isEmpty) = !xs.isEmpty:=by
 cases r <;> simp
theorem line63:(sizeLine:Nat)<2 ^ 63:=by rw[sizeLine_eq];decide
theorem Zr0:TruR X (λx H Q=>∃k,TruV X.K x H k/\Q k H):=by
 intro pins s σ H x v Q I rx h;obtain⟨k,e,q⟩:=h;have hl:=line63;have hs:sizeLine=16777216:=sizeLine_eq;cases x with
 |non=>
  cases rx;have e':k=false:=e;subst e';exact truthy_none ⟨H,I,q⟩
 |bl b=>
  cases rx;have e':k=b:=e;subst e';exact wpAny_truthy_bool ⟨H,I,q⟩
 |int i=>
  obtain⟨t,rfl⟩:=rx;have e':k=(i != 0):=e;subst e';exact PySem.P.truthy_int ⟨H,I,q⟩
 |str y=>
  obtain⟨t,rfl⟩:=rx;obtain⟨hy,e'⟩:y.length<=sizeLine/\k=((y.length:Int) != 0):=e;subst e';exact PySem.P.truthy_str (by omega) ⟨H,I.tok _,q⟩
 |byt y=>
  obtain⟨t,rfl⟩:=rx;obtain⟨hy,e'⟩:y.size<=sizeLine/\k=((y.size:Int) != 0):=e;subst e';exact PySem.W.truthy_bytes (by omega) ⟨H,I.tok _,q⟩
 |ref p=>
  cases rx;have e':(∃xs,SqL X.K H p xs/\k = !xs.isEmpty)\/(∃xs,SqT X.K H p xs/\k = !xs.isEmpty)\/∃kvs,H p=some (.dK kvs)/\k = !kvs.isEmpty:=e;rcases e' with ⟨xs,hx,e'⟩|⟨xs,hx,e'⟩|⟨kvs,hx,e'⟩
  ·subst e'
   obtain⟨its,r,pl,hz⟩:=I.list hx;have hlen:=r.length;exact wpAny_truthy_list pl.isList (by simp only[Wam];omega) ⟨H,I.tok _,by rw[Zgd r];exact q⟩
  ·subst e'
   obtain⟨its,r,pl,hz⟩:=I.tuple hx;have hlen:=r.length;exact truthy_tuple pl (by simp only[Wam];omega) ⟨H,I.tok _,by rw[Zgd r];exact q⟩
  ·subst e'
   obtain⟨hz,hS,vs,r,m⟩:kvs.length<=sizeLine/\(p == sysModules)=false/\∃vs,KV kvs vs/\s.heap.DictOf (mixKind X.prog X.w) p vs:=I.hok p _ hx;have hlen:kvs.length=vs.length:=Paired.length r;exact wpAny_truthy_dict hS m (by omega) ⟨H,I.tok _,by rw[Zj4 r];exact q⟩
 |_=>exact(show False from e).elim
theorem Zmq (ha:PE X a ta) (he:∀whole,isTrue a X.env whole=(do let v ← whole;standAt a.pos;holding [v] (truthy v))) :
  PT X a (λσ H Q=>ta σ H λx H'=>∃k,TruV X.K x H' k/\Q k H'):=by
 intro pins s σ H Q I h;exact isTrue_plain (thn (ha pins s σ H _ I h) λv s1 ⟨x,H1,I1,r1,q1⟩=>Zr0 pins s1 σ H1 x v Q I1 r1 q1) (he _)
theorem vals1 {x:V}{us:List Value}(r:Vals [x] us):∃u,us=[u]/\RelV x u:=by
 cases r with
 |cons r1 r2=>cases r2;exact⟨_,rfl,r1⟩
theorem vals2 {x y:V}{us:List Value}(r:Vals [x,y] us):∃u w',us=[u,w']/\RelV x u/\RelV y w':=by
 cases r with
 |cons r1 r2=>
  cases r2 with
  |cons r3 r4=>cases r4;exact⟨_,_,rfl,r1,r3⟩
theorem Zgj:CallR X (.builtin "abs") (λxs H Q=>∃i,xs=[.int i]/\Q (.int (if i<0 then -i else i)) H):=by
 intro pins s σ H xs us Q I r h;obtain⟨i,rfl,q⟩:=h;obtain⟨u,rfl,t,rfl⟩:=vals1 r;exact call_abs_int λu tk=>⟨.int (if i<0 then -i else i),H,I.tok _,⟨_,rfl⟩,q⟩
theorem Zht (hc:X.calm=true):CallR X (.builtin "max") (λxs H Q=>∃i j,xs=[.int i,.int j]/\Q (.int (if j > i then j else i)) H):=by
 intro pins s σ H xs us Q I r h;obtain⟨i,j,rfl,q⟩:=h;obtain⟨u,w',rfl,⟨t,rfl⟩,⟨t',rfl⟩⟩:=vals2 r;refine max_two_ints (I.ok.hd hc) λh' tk k=>⟨_,H,I.kept k,?_,q⟩;by_cases hj:j > i
 ·rw[if_pos hj,if_pos hj];exact⟨_,rfl⟩
 ·rw[if_neg hj,if_neg hj];exact⟨_,rfl⟩
theorem Zff (hc:X.calm=true):CallR X (.builtin "min") (λxs H Q=>∃i j,xs=[.int i,.int j]/\Q (.int (if j<i then j else i)) H):=by
 intro pins s σ H xs us Q I r h;obtain⟨i,j,rfl,q⟩:=h;obtain⟨u,w',rfl,⟨t,rfl⟩,⟨t',rfl⟩⟩:=vals2 r;refine min_two_ints (I.ok.hd hc) λh' tk k=>⟨_,H,I.kept k,?_,q⟩;by_cases hj:j<i
 ·rw[if_pos hj,if_pos hj];exact⟨_,rfl⟩
 ·rw[if_neg hj,if_neg hj];exact⟨_,rfl⟩
theorem Zlu:CallR X (.type "int") (λxs H Q=>(∃i,xs=[.int i]/\Q (.int i) H)\/∃k,xs=[.bl k]/\Q (.int (if k then 1 else 0)) H):=by
 intro pins s σ H xs us Q I r h;rcases h with ⟨i,rfl,q⟩|⟨k,rfl,q⟩
 ·obtain⟨u,rfl,t,rfl⟩:=vals1 r
  exact call_int_int ⟨.int i,H,I,⟨_,rfl⟩,q⟩
 ·obtain⟨u,rfl,r1⟩:=vals1 r
  cases r1;exact call_int_bool ⟨.int (if k then 1 else 0),H,I.tok _,⟨_,rfl⟩,q⟩
end
end L2
namespace L2
open PySem PySem.Spec PyProof.Rows
structure ObjM (h:Heap) (x dx C:Addr) (mA:Str->Option Value):Prop where
 obj:h.get? x=some (PySem.W.instObj C dx)
 ns:h.Ns1 dx mA
 ne:dx≠x
theorem Zka {h:Heap}{dx:Addr}{mA:Str->Option Value}(n:h.Ns1 dx mA):∃od,h.get? dx=some od/\∀name,PySem.W.lookIn name od=some (mA name):=by
 obtain⟨o,es,ep,ho,hd,hk,_,hm⟩:=n;refine⟨o,ho,λname=>?_⟩;have e:=hm name;unfold nsFind findBy at e;rw[<- Array.find?_toList]at e;unfold PySem.W.lookIn;rw[hd];dsimp only;split
 ·rename_i y q
  rw[q]at e;exact congrArg some e
 ·rename_i q
  rw[q]at e;have a:es.toList.any (·.refKey)=false:=by
   rw[List.any_eq_false];intro y hy;obtain⟨z,t,hkey⟩:=hk y (Array.mem_toList_iff.mp hy);simp[DictEntry.refKey,hkey]
  have a':¬ es.toList.any (·.refKey)=true:=by rw[a];exact Wai
  rw[if_neg a'];exact congrArg some e
theorem ObjM.look {h:Heap}{x dx C:Addr}{mA:Str->Option Value}(I:ObjM h x dx C mA):∃od,PySem.W.InstAt h x (PySem.W.instObj C dx) C (some od)/\∀name,PySem.W.lookIn name od=some (mA name):=
 let ⟨od,ho,hl⟩:=Zka I.ns
 ⟨od,⟨I.obj,rfl,rfl,ho⟩,hl⟩
theorem RelO.some_of {v:V}{o:Option Value}(r:RelO (some v) o):∃u,o=some u/\RelV v u:=by
 cases o with
 |none=>exact(show False from r).elim
 |some u=>exact⟨u,rfl,r⟩
section
variable {P:Program}{w:World}{H H':Hp}{h h':Heap}{a C dx:Addr}{fs fs':List (Str × V)}
theorem Zpr (hok:HOk P w H h) (e:H a=some (.ins C dx fs)):∃mA,ObjM h a dx C mA/\(∀f,RelO (fs.lookup f) (mA f))/\PySem.Within mA (fs.map (·.1))/\fs.length<=1000/\H dx=some (.own a):=by
 obtain⟨d,z,ne,ob,mA,n,r,q⟩:=(show ObjOk P w H h a (.ins C dx fs) from hok a _ e);exact⟨mA,⟨ob,n,ne⟩,r,q,z,d⟩
end
structure Cls (K:W.Frag) (C:Addr):Prop where
 pg:PySem.W.plainGet K C Str.empty=true
 hd:PySem.W.hasDictIn K C=true
 po:PySem.W.plainOver K C=true
 sa:PySem.W.findIn K (.ref C) "__setattr__" = some (some (.builtin "object.__setattr__"))
theorem Cls.get {K:W.Frag}{C:Addr}(c:Cls K C) (f:Str):PySem.W.plainGet K C f=true:=c.pg
section
variable {X:Cx}{pins:List (Addr × Obj)}{σ:St}{H:Hp}{s:Shared}{a C dx:Addr}{fs:List (Str × V)}{f:Str}{v:V}{A:Around}{E:Value->Shared->Prop}
end
section
variable {X:Cx}{pins:List (Addr × Obj)}{σ:St}{H:Hp}{s:Shared}{A:Around}{E:Value->Shared->Prop}{Q:Value->Shared->Prop}{c:Value}{b:Bool}
inductive TyOf (K:W.Frag) (H:Hp):V->Value->Prop where
 |non:TyOf K H .non (.type "NoneType")
 |bl (x:Bool):TyOf K H (.bl x) (.type "bool")
 |int (i:Int):TyOf K H (.int i) (.type "int")
 |str (x:Str):TyOf K H (.str x) (.type "str")
 |flt (x:UInt64):TyOf K H (.flt x) (.type "float")
 |lst {a:Addr}{xs:List V}(e:H a=some (.lst xs)):TyOf K H (.ref a) (.type "list")
 |frz {a:Addr}{o:Obj}{xs:List V}(e:H a=some (.frz o (.lst xs))):TyOf K H (.ref a) (.type "list")
 |tup {a:Addr}{xs:List V}(e:H a=some (.tup xs)):TyOf K H (.ref a) (.type "tuple")
 |dK {a:Addr}{kvs:List (Key × V)}(e:H a=some (.dK kvs)):TyOf K H (.ref a) (.type "dict")
 |dT {a:Addr}{kvs:List (List Key × V)}(e:H a=some (.dT kvs)):TyOf K H (.ref a) (.type "dict")
 |ins {a C dx:Addr}{fs:List (Str × V)}(e:H a=some (.ins C dx fs)) (cl:Cls K C) (ha:PySem.W.findIn K (.ref C) "__class__" = some (some (.builtin "object.__class__")))
   (hn:PySem.W.specialIn K (.builtin "object.__class__") "__get__" = some (some (.builtin "getset_descriptor.__get__"))) (htk:PySem.W.takesIn K (.builtin "object.__class__")=some true)
   (hm:PySem.W.mroIn K C (.type "object")=some true):TyOf K H (.ref a) (.ref C)
theorem Zl2 {x:V}{u t:Value}(I:Inv X pins σ H s) (rx:RelV x u) (ty:TyOf X.K H x t) (e:PySem.W.kitOne X.K t c=some b) (h:∀tk,Q (.bool b) { s with toks:=tk }) :
  wpAny (model X.prog X.w) A (call (.builtin "isinstance") [u,c]) Q E s:=by
 cases ty with
 |non=>cases (show u=Value.none from rx);exact PySem.W.kia_one PySem.W.kitx_none I.kIn True.intro e (λz=>nomatch z) h
 |bl y=>cases (show u=Value.bool y from rx);exact PySem.W.kia_one PySem.W.kitx_bool I.kIn True.intro e (λz=>nomatch z) h
 |int i=>obtain⟨t,q⟩:=(show ∃t,u=Value.int i t from rx);cases q;exact PySem.W.kia_one PySem.W.kitx_int I.kIn True.intro e (λz=>nomatch z) h
 |str y=>obtain⟨t,q⟩:=(show ∃t,u=Value.str y t from rx);cases q;exact PySem.W.kia_one PySem.W.kitx_str I.kIn True.intro e (λz=>nomatch z) h
 |flt y=>obtain⟨t,q⟩:=(show ∃t,u=Value.float y t from rx);cases q;exact PySem.W.kia_one PySem.W.kitx_float I.kIn True.intro e (λz=>nomatch z) h
 |@lst a xs ea=>
  cases (show u=Value.ref a from rx);obtain⟨_,_,n,_,h1⟩:=(show ObjOk X.prog X.w H s.heap a (.lst xs) from I.hok a _ ea);exact PySem.W.kia_one PySem.W.kitx_list I.kIn ⟨_,h1,rfl⟩ e (λz=>nomatch z) h
 |@frz a ob xs ea=>
  cases (show u=Value.ref a from rx);obtain⟨_,_,_,n,_,h1⟩:=(show ObjOk X.prog X.w H s.heap a (.frz ob (.lst xs)) from I.hok a _ ea);exact PySem.W.kia_one PySem.W.kitx_list I.kIn ⟨_,h1,rfl⟩ e (λz=>nomatch z) h
 |@tup a xs ea=>
  cases (show u=Value.ref a from rx);obtain⟨_,_,_,p⟩:=(show ObjOk X.prog X.w H s.heap a (.tup xs) from I.hok a _ ea);obtain⟨o,h1,⟨h2,_⟩,_⟩:=p;exact PySem.W.kia_one PySem.W.kitx_tuple I.kIn ⟨o,h1,h2⟩ e (λz=>nomatch z) h
 |@dK a kvs ea=>
  cases (show u=Value.ref a from rx);obtain⟨_,_,vs,_,p⟩:=(show ObjOk X.prog X.w H s.heap a (.dK kvs) from I.hok a _ ea);obtain⟨o,es,ep,h1,h2,_⟩:=p;exact PySem.W.kia_one PySem.W.kitx_dict I.kIn ⟨o,h1,h2.1⟩ e (λz=>nomatch z) h
 |@dT a kvs ea=>
  cases (show u=Value.ref a from rx);obtain⟨_,_,xs,_,o,es,ep,h1,h2,_⟩:=(show ObjOk X.prog X.w H s.heap a (.dT kvs) from I.hok a _ ea);exact PySem.W.kia_one PySem.W.kitx_dict I.kIn ⟨o,h1,h2.1⟩ e (λz=>nomatch z) h
 |@ins a C dx fs ea cl ha hn htk hm=>
  cases (show u=Value.ref a from rx);obtain⟨mA,O,_⟩:=Zpr I.hok ea;obtain⟨od,J,_⟩:=O.look;exact PySem.W.kia_one (PySem.W.kitx_own (cl.get _) cl.hd ha hn htk hm) I.kIn J e (λz=>nomatch z) h
end
end L2
namespace L2
open PySem PySem.Spec PyProof.Rows
structure Room (k:Nat) (A:Around):Prop where
 hd:A.handled=none
 dp:A.depth+3*k+5<recursionLimit
 un:A.units+16*k+200<cLine
 gd:A.guards=some []
theorem Room.mono {j k:Nat}{A:Around}(r:Room k A) (h:j<=k):Room j A:=⟨r.hd,by have:=r.dp;omega,by have:=r.un;omega,r.gd⟩
theorem Room.deeper {k:Nat}{A:Around}(r:Room (k+1) A) (env:Env):Room k (A.deeper env):=
 ⟨r.hd,by have:=r.dp;show A.depth+1+3*k+5<_;omega,by have:=r.un;show A.units+3+16*k+200<_;omega,r.gd⟩
theorem Room.depth {k:Nat}{A:Around}(r:Room k A):A.depth<recursionLimit:=by have:=r.dp;omega
theorem Room.units {k:Nat}{A:Around}(r:Room k A):A.units+64<cLine:=by have:=r.un;omega
def tNil:TA:=λ_ H Q=>Q [] H
def tCons (ta:TE) (tr:TA):TA:=λσ H Q=>ta σ H λx H1=>tr σ H1 λxs H2=>Q (x::xs) H2
section
variable {X:Cx}{e:Expr}{es:List Expr}{te:TE}{t:TA}{pos:Pos}
theorem Zae:PA X [] tNil:=λ_ _ _ _ H Q I h=>Calls.spliced_nil ⟨[],H,I,.nil,h⟩
theorem Zaa (ha:PE X e te) (hr:PA X es t) (hs:starEach (e::es) X.env=(false,eval e X.env)::starEach es X.env:=by rfl):PA X (e::es) (tCons te t):=by
 intro pos pins s σ H Q I h;rw[hs];show wpAny _ _ (spliced ((false,eval e X.env)::backTo pos (starEach es X.env))) _ _ s;refine Calls.spliced_cons (thn (ha pins s σ H _ I h) λu s1 ⟨x,H1,I1,r1,q1⟩=>?_);exact thn (hr pos pins s1 σ H1 _ I1 q1) λus s2 ⟨xs,H2,I2,r2,q2⟩=>⟨x::xs,H2,I2,.cons r1 r2,q2⟩
def tTup (t:TA):TE:=λσ H Q=>t σ H λxs H1=>xs.length<=sizeLine/\∀p,H1 p=none->Q (.ref p) (upd H1 p (.tup xs))
def tLst (t:TA):TE:=λσ H Q=>t σ H λxs H1=>xs.length<=sizeLine/\∀p,H1 p=none->Q (.ref p) (upd H1 p (.lst xs))
theorem Zbi {x1} (h:PA X es t):PE X (.Tuple es x1 pos) (tTup t):=by
 intro pins s σ H Q I hq;refine wpAny_Tuple_spliced (thn (h pos pins s σ H _ I hq) λus s1 ⟨xs,H1,I1,r,z,q⟩=>⟨by rw[<- r.length];exact z,?_⟩);have hf:H1 s1.heap.objs.size=none:=I1.hok.fresh (Waf _);refine⟨.ref s1.heap.objs.size,upd H1 s1.heap.objs.size (.tup xs),I1.laid (t':=s1.toks) (λb u e=>Waa _ e) (Waf _) ?_,rfl,q _ hf⟩;exact⟨z,us,r,⟨_,Wal _ rfl,⟨rfl,_,rfl⟩,rfl⟩⟩
theorem Zb9 (h:PA X es t):PE X (.List es pos) (tLst t):=by
 intro pins s σ H Q I hq;refine wpAny_List_spliced (thn (h pos pins s σ H _ I hq) λus s1 ⟨xs,H1,I1,r,z,q⟩=>⟨by rw[<- r.length];exact z,?_⟩);have hf:H1 s1.heap.objs.size=none:=I1.hok.fresh (Waf _);refine⟨.ref s1.heap.objs.size,upd H1 s1.heap.objs.size (.lst xs),I1.laid (t':=s1.toks) (λb u e=>Waa _ e) (Waf _) ?_,rfl,q _ hf⟩;exact⟨z,us,0,r,Wal _ rfl⟩
end
abbrev Sp:=List V->Hp->VK->XK->Prop
abbrev CXT:=List Env->Hp->Shared->XK->Value->Shared->Prop
structure Env0 (P:Program) (w:World) (K:W.Frag) (mg:Str->Option Value) (base:Heap) (A:Around) (outer:List Env) (s:Shared) (H:Hp):Prop where
 frames:A.frames=some outer
 mod:Mod K mg base
 bs:∀b o,base.get? b=some o->s.heap.get? b=some o/\H b=none
 bsz:base.objs.size<=s.heap.objs.size
 funs:s.heap.FunFrames base outer
 frf:∀b∈frs outer,H b=none
 hok:HOk P w H s.heap
 bare:AllBare s.gens
def CE (outer:List Env) (P:Program) (w:World) (H:Hp) (s:Shared) (Q:VK) (u:Value) (s':Shared):Prop:=
 ∃v H',s'.os=s.os/\AllBare s'.gens/\Un (frs outer) [] H H' s.heap s'.heap/\HOk P w H' s'.heap/\RelV v u/\Q v H'
def CR (CX:CXT) (outer:List Env) (P:Program) (w:World) (H:Hp) (s:Shared) (Q:VK) (E:XK) (r:Result) (s':Shared):Prop:=
 match r with
 |.ok (.ret u)=>CE outer P w H s Q u s'
 |.ok _=>False
 |.error e=>CX outer H s E e s'
structure FnOk (P:Program) (w:World) (K:W.Frag) (mg:Str->Option Value) (base:Heap) (CX:CXT) (k:Nat) (f:Addr) (fd:FuncData) (ps:List Str) (sp:Sp):Prop where
 len:∀vs H Q E,sp vs H Q E->vs.length=ps.length
 run:∀(A:Around) (outer:List Env) (s:Shared) (H:Hp) (args:Args) (us:List Value) (vs:List V) (Q:VK) (E:XK),Room k A->Env0 P w K mg base A outer s H->BindsTo s fd args (ps.zip us)->Vals vs us->sp vs H Q E →
  codeAny (model P w) A (.call (.ref f) args) (CR CX outer P w H s Q E) s
theorem FnOk.imp {P:Program}{w:World}{K:W.Frag}{mg:Str->Option Value}{base:Heap}{CX:CXT}{k:Nat}{f:Addr}{fd:FuncData}{ps:List Str}{sp sp':Sp}(F:FnOk P w K mg base CX k f fd ps sp)
  (h:∀vs H Q E,sp' vs H Q E->sp vs H Q E):FnOk P w K mg base CX k f fd ps sp':=
 ⟨λvs H Q E q=>F.len vs H Q E (h _ _ _ _ q),λA outer s H args us vs Q E hr he hb hv hs=>F.run A outer s H args us vs Q E hr he hb hv (h _ _ _ _ hs)⟩
section
variable {X:Cx}{pins:List (Addr × Obj)}{σ:St}{H:Hp}{s s':Shared}
theorem Inv.env0 (I:Inv X pins σ H s):Env0 X.prog X.w X.K X.mg X.base X.A X.stack s H:=
 ⟨I.ok.frames,I.ok.mod,I.bs,Was I.ok.bsz I.sz,I.stack,I.stkFree,I.hok,I.bare⟩
theorem Inv.after {Q:VK}{u:Value}(I:Inv X pins σ H s) (h:CE X.stack X.prog X.w H s Q u s'):EP X pins σ Q u s':=by
 obtain⟨v,H',os,bare,un,hok,r,q⟩:=h;obtain⟨hh,g,d,t,os'⟩:=s';obtain rfl:os'=s.os:=os;exact⟨v,H',I.call (h':=hh) (g':=g) (d':=d) (t':=t) (ch:=[]) un hok bare (λb z=>absurd z (by simp)),r,q⟩
end
def tCall (sp:Sp) (dvs:List V) (E:XK) (t:TA):TE:=λσ H Q=>t σ H λvs H1=>sp (vs++dvs) H1 Q E
def Binds (K:W.Frag) (fd:FuncData) (ps:List Str) (ds:List Value):Prop:=
 ∀(s:Shared) (us:List Value),K.In s.heap->(us++ds).length=ps.length->BindsTo s fd ⟨us,[]⟩ (ps.zip (us++ds))
theorem Binds.all {K:W.Frag}{fd:FuncData}{ps:List Str}(h:∀us:List Value,us.length=ps.length->bindArgs fd ⟨us,[]⟩=pure (ps.zip us)):Binds K fd ps []:=λs us _ hl=>by
 rw[Wbh]at hl ⊢;exact .of_eq (h us hl)
def Passes (CX:CXT) (X:Cx) (E:XK):Prop:=∀(pins:List (Addr × Obj)) (σ:St) (H:Hp) (s:Shared) (e:Value) (s':Shared),Inv X pins σ H s->CX X.stack H s E e s' -> X.xe e s'
section
variable {X:Cx}{CX:CXT}{k:Nat}{f C:Addr}{fd:FuncData}{ps:List Str}{sp:Sp}{dvs:List V}{ds:List Value}{E:XK}{x m:Str}{p pos apos:Pos}{e o:Expr}{es:List Expr}{ta:TE}{t:TA}
theorem Zqf {pins:List (Addr × Obj)}{σ:St}{H:Hp}{s:Shared}{Q:VK}{us:List Value}{vs:List V}(F:FnOk X.prog X.w X.K X.mg X.base CX k f fd ps sp) (hr:Room k X.A) (hb:Binds X.K fd ps ds) (hd:Vals dvs ds) (hx:Passes CX X E)
  (I:Inv X pins σ H s) (r:Vals vs us) (h:sp (vs++dvs) H Q E):wpAny (model X.prog X.w) X.A (call (.ref f) us) (EP X pins σ Q) X.xe s:=by
 have r2:Vals (vs++dvs) (us++ds):=r.append hd;have hl:(us++ds).length=ps.length:=by rw[<- r2.length];exact F.len _ _ _ _ h
 refine wpAny_call (codeAny_mono (F.run X.A X.stack s H ⟨us,[]⟩ (us++ds) (vs++dvs) Q E hr I.env0 (hb s us I.kIn hl) r2 h) λr s' hq=>?_);cases r with
 |error e=>exact hx pins σ H s e s' I hq
 |ok fl=>
  cases fl with
  |ret u=>exact I.after hq
  |next=>exact False.elim hq
  |brk=>exact False.elim hq
  |cont=>exact False.elim hq
theorem Zo9 (F:FnOk X.prog X.w X.K X.mg X.base CX k f fd ps sp) (hr:Room k X.A) (hg:Gl X x) (hm:X.mg x=some (.ref f)) (hk:W.keepIn X.K (.ref f)=true) (hb:Binds X.K fd ps ds) (hd:Vals dvs ds) (hx:Passes CX X E)
  (ha:PA X (e::es) t) (hdb:(x == ("__debug__":Str))=false:=by decide) (he:starEach (e::es) X.env=(false,eval e X.env)::starEach es X.env:=by rfl) (hpl:(backTo pos (starEach es X.env)).any (·.1)=false:=by rfl) :
  PE X (.Call (.Name x p) (e::es) [] pos) (tCall sp dvs E t):=by
 intro pins s σ H Q I h;refine wpAny_Call_Name_kw (Zps I hg hm ?_ hdb);refine PySem.W.callWith_K (h₀:=X.base) I.ok.mod.kin hk (thn (ha pos pins s σ H _ I h) λus s1 ⟨vs,H1,I1,r,q⟩=>⟨I1.kIn,?_⟩) he hpl;exact Zqf F hr hb hd hx I1 r q
end
section
variable {X:Cx}{CX:CXT}{k:Nat}{f C:Addr}{fd:FuncData}{ps ks:List Str}{sp:Sp}{E:XK}{x m:Str}{p pos apos kpos:Pos}{e o:Expr}{es:List Expr}{kws:List Keyword}{te ta:TE}{t tk:TA}{nm:Option Str}
variable {g:List Value->List Value->List Value}{gV:List V->List V->List V}
end
structure FnScope (N P:List Str) (sc:Scope):Prop where
 kind:sc.kind=.function
 co:sc.isCoroutine=false
 gen:sc.isGenerator=false
 nd:N.Nodup
 pre:N.take P.length=P
 par:∀x∈P,sc.names.lookup x=some .local\/sc.names.lookup x=some .cell
 nofree:∀y∈sc.names,y.2≠.free
theorem Zha {kindOf:Str->Option NameKind}{x:Str}:∀{binds:List (Str × Value)}{m:Str->Option Value},(∀v,(x,v) ∉ binds)->bindL kindOf binds m x=m x
 |[],_,_=>rfl
 | (n,v)::r,m,h=>by
  unfold bindL;rw[Zha λw hw=>h w (Wat _ hw)];split
  ·have:x≠n:=by rintro rfl;exact h v Wau
   simp[this]
  ·rfl
theorem Zhz {kindOf:Str->Option NameKind}{x:Str}:∀{binds:List (Str × Value)}{m:Str->Option Value},(∀v,(x,v) ∉ binds)->bindC kindOf binds m x=m x
 |[],_,_=>rfl
 | (n,v)::r,m,h=>by
  unfold bindC;rw[Zhz λw hw=>h w (Wat _ hw)];split
  ·rfl
  ·have:x≠n:=by rintro rfl;exact h v Wau
   simp[this]
theorem Zhr {kindOf:Str->Option NameKind}{x:Str}{v:Value}:∀{P:List Str}{vs:List Value}{i:Nat}{m:Str->Option Value},P.Nodup->P[i]?=some x->vs[i]?=some v->kindOf x=some .local →
  bindL kindOf (P.zip vs) m x=some v
 |[],_,_,_,_,h,_,_=>by simp at h
 |_::_,[],_,_,_,_,h,_=>by simp at h
 |p::P,w::vs,0,m,nd,h1,h2,hk=>by
  simp at h1 h2;subst h1;subst h2;show bindL kindOf ((p,w)::P.zip vs) m p=_;unfold bindL;rw[Zha λv hv=>(Wcj.mp nd).1 (List.of_mem_zip hv).1,if_pos hk];simp
 |p::P,w::vs,i+1,m,nd,h1,h2,hk=>by
  show bindL kindOf ((p,w)::P.zip vs) m x=_;unfold bindL;exact Zhr (i:=i) (Wcj.mp nd).2 (by simpa using h1) (by simpa using h2) hk
theorem Zhd {kindOf:Str->Option NameKind}{x:Str}{v:Value}:∀{P:List Str}{vs:List Value}{i:Nat}{m:Str->Option Value},P.Nodup->P[i]?=some x->vs[i]?=some v->kindOf x≠some .local →
  bindC kindOf (P.zip vs) m x=some v
 |[],_,_,_,_,h,_,_=>by simp at h
 |_::_,[],_,_,_,_,h,_=>by simp at h
 |p::P,w::vs,0,m,nd,h1,h2,hk=>by
  simp at h1 h2;subst h1;subst h2;show bindC kindOf ((p,w)::P.zip vs) m p=_;unfold bindC;rw[Zhz λv hv=>(Wcj.mp nd).1 (List.of_mem_zip hv).1,if_neg hk];simp
 |p::P,w::vs,i+1,m,nd,h1,h2,hk=>by
  show bindC kindOf ((p,w)::P.zip vs) m x=_;unfold bindC;exact Zhd (i:=i) (Wcj.mp nd).2 (by simpa using h1) (by simpa using h2) hk
def start (N:List Str) (vs:List V):St:=vs.map some++Waw (N.length-vs.length) none
def cxOf (CX:CXT) (P:Program) (w:World) (K:W.Frag) (mg:Str->Option Value) (base:Heap) (N:List Str) (qual:Str) (scope:Scope) (f:Addr) (cd:Value) (A:Around) (outer:List Env) (s:Shared) (H:Hp) (E:XK):Cx where
 prog:=P
 w:=w
 K:=K
 mg:=mg
 base:=base
 A:=A.deeper (envOfC qual scope s.heap.objs.size f cd)
 N:=N
 s₀:=s
 H₀:=H
 env:=envOfC qual scope s.heap.objs.size f cd
 outer:=outer
 stack:=envOfC qual scope s.heap.objs.size f cd::outer
 ex:=[]
 calm:=true
 fn:=λ_=>true
 pn:=[]
 xe:=λe s'=>wpAny (model P w) (A.deeper (envOfC qual scope s.heap.objs.size f cd)) (leaving (envOfC qual scope s.heap.objs.size f cd) e) (λ_ s''=>CX outer H s E e s'') (λe' s''=>CX outer H s E e' s'') s'
theorem Zja {sc:Scope}{n:Nat}{x:Str}(h:sc.names.lookup x=some .cell):∃c,(cellsFrom n sc.names []).lookup x=some c:=by
 have q:=PySem.W.cellsFrom_some sc.names n [] (.inl h);exact Option.isSome_iff_exists.mp q
theorem Zkk {CX:CXT}{P:Program}{w:World}{K:W.Frag}{mg:Str->Option Value}{base:Heap}{N ps:List Str}{qual:Str}{scope:Scope}{f:Addr}{cd:Value}{A:Around}{outer:List Env}{s s1:Shared}{H:Hp}{E:XK}{us:List Value}{vs:List V}
  (S:FnScope N ps scope) (hd:A.handled=none) (e0:Env0 P w K mg base A outer s H) (hl:vs.length=ps.length) (r:Vals vs us)
  (x:InCallC s s.heap.objs.size (bindL (envOfC qual scope s.heap.objs.size f cd).kindOf (ps.zip us) λ_=>none) (cellsFrom (s.heap.objs.size+1) scope.names []) (bindC (envOfC qual scope s.heap.objs.size f cd).kindOf (ps.zip us) λ_=>none) s1) :
  Inv (cxOf CX P w K mg base N qual scope f cd A outer s H E) [] (start N vs) H s1:=by
 have hpl:ps.length<=N.length:=by have:=congrArg Wa7 S.pre;rw[Wav]at this;omega
 obtain⟨h1,tk,rfl,hk⟩:=x.done;have noA:∀b:Addr,b ∉ (cxOf CX P w K mg base N qual scope f cd A outer s H E).ex:=λb z=>absurd (show b∈([]:List Addr) from z) (by simp);refine⟨⟨e0.mod,S.kind,rfl,rfl,Waf _,λy z c h1 h2=>?_,λy hy=>?_,λy c _ h=>?_,λ_=>hd,Around.frames_deeper e0.frames,.inr ⟨rfl,rfl⟩,λb z=>absurd z (noA b),e0.bs,e0.bsz,λb _ _=>noA b,λb z=>absurd z (noA b),e0.funs,e0.frf⟩,
  rfl,e0.bare,Un.kept hk,⟨_,x.toInCall.ns,λi y v h1 h2 h3=>?_⟩,λy c h=>⟨_,x.cell y c h⟩,e0.hok.fresh (Waf _),λy c h=>?_,λp hp=>absurd (show p∈([]:List (Addr × Obj)) from hp) (by simp),e0.hok.kept hk,?_⟩
 ·exact name_of_addr x.apart (PySem.mem_of_lookup h1) (PySem.mem_of_lookup h2)
 ·have hy:scope.names.lookup y=some .cell\/scope.names.lookup y=some .free:=hy
  rcases hy with hy|hy
  ·exact Zja hy
  ·exact absurd rfl (S.nofree _ (PySem.mem_of_lookup hy))
 ·exact Wb1 (x.above y c (PySem.mem_of_lookup h))
 ·have hi:i<vs.length:=by
   unfold start at h2;by_cases hi:i<vs.length
   ·exact hi
   ·rw[Wap (by simpa using hi)]at h2
    rw[Wbx]at h2;split at h2 <;> cases h2
  have ha:vs[i]?=some v:=by
   unfold start at h2;rw[Wa3 (by simpa using hi),Wad]at h2;cases e:vs[i]? with
   |none=>rw[e]at h2;cases h2
   |some a=>rw[e]at h2;cases h2;rfl
  obtain⟨u,hu,rv⟩:=r.get ha;have hp:ps[i]?=some y:=by
   rw[<- S.pre,List.getElem?_take_of_lt (by omega)];exact h1
  have ndP:ps.Nodup:=by rw[<- S.pre];exact S.nd.sublist (List.take_sublist _ _)
  refine⟨u,rv,?_⟩;rcases S.par y (Wah hp) with k|k
  ·exact .inl ⟨k,Zhr ndP hp hu k⟩
  ·obtain⟨c,e⟩:=Zja (n:=s.heap.objs.size+1) k
   refine .inr ⟨.inl k,c,e,?_⟩;have q:=x.cell y c e;rw[Zhd ndP hp hu (by show scope.names.lookup y≠_;rw[k];decide)]at q;exact q
 ·exact e0.hok.fresh (Wb1 (x.above y c (PySem.mem_of_lookup h)))
 ·unfold start
  show _=N.length;rw[Wag,Wab,Wba];omega
theorem Zsl {CX:CXT}{P:Program}{w:World}{K:W.Frag}{mg:Str->Option Value}{base:Heap}{k:Nat}{f:Addr}{name qual:Str}{params:Arguments}{body:List Stmt}{scope:Scope}{dV kV doc pm cdv ct oc:Value}{an od:Option Addr}
  {osl:Array (Option Value)}{N ps:List Str}{sp:Sp}(lk:K.lookup f=some ⟨oc,od,.func (W.fnOf name qual params body scope dV kV doc pm an cdv ct),osl⟩) (hcd:W.codeIn K cdv qual=true) (S:FnScope N ps scope)
  (len:∀vs H Q E,sp vs H Q E->vs.length=ps.length)
  (hbody:∀(A:Around) (outer:List Env) (s:Shared) (H:Hp) (vs:List V) (Q:VK) (E:XK),Room k (A.deeper (envOfC qual scope s.heap.objs.size f cdv))->sp vs H Q E →
   ∃t,PSs (cxOf CX P w K mg base N qual scope f cdv A outer s H E) body t/\t { nx:=λ_ H'=>Q .non H',rt:=Q } (start N vs) H) :
  FnOk P w K mg base CX (k+1) f (W.fnOf name qual params body scope dV kV doc pm an cdv ct) ps sp:=by
 refine⟨len,λA outer s H args us vs Q E hr e0 hb r hsp=>?_⟩;have hl:=len _ _ _ _ hsp;have KX:K.In s.heap:=e0.mod.kin.keeps λb o e=>(e0.bs b o e).1;have lim:s.heap.NoLimit:=e0.mod.nolimit.keeps λb o e=>(e0.bs b o e).1;have hkind:∀y∈ps.zip us,scope.names.lookup y.1=some .local\/(scope.names.lookup y.1=some .cell/\((cellsFrom (s.heap.objs.size+1) scope.names []).lookup y.1).isSome=true):=λ⟨n,v⟩ hy=>by
  rcases S.par n (List.of_mem_zip hy).1 with q|q
  ·exact .inl q
  ·exact .inr ⟨q,PySem.W.cellsFrom_some _ _ _ (.inl q)⟩
 refine codeAny_call_function hr.depth (KX _ _ lk) rfl S.co S.gen rfl (PySem.W.codeRec_of KX hcd) (hb _ _ _ _ ?_);refine wpAny_newFunctionEnv_cells S.kind hkind λenv he s1 x=>?_;subst he;refine⟨lim.keeps x.toInCall.keep,codeAny_func ?_⟩;obtain⟨t,ht,hq⟩:=hbody A outer s H vs Q E (hr.deeper _) hsp;have I:Inv (cxOf CX P w K mg base N qual scope f cdv A outer s H E) [] (start N vs) H s1:=Zkk S hr.hd e0 hl r x;refine wpAny_mono (ht [] s1 (start N vs) H _ I hq) (λfl s' hs=>?_) λe s' hs=>hs;have fin:∀{σ':St}{H':Hp}{v:V}{u:Value},Inv (cxOf CX P w K mg base N qual scope f cdv A outer s H E) [] σ' H' s' -> RelV v u->Q v H' -> CE outer P w H s Q u s':=
  λ{σ' H' v u} J rv q=>⟨v,H',J.os,J.bare,J.base,J.hok,rv,q⟩
 cases fl with
 |ret u=>
  obtain⟨v,σ',H',J,rv,q⟩:=hs;exact fin J rv q
 |next=>
  obtain⟨σ',H',J,q⟩:=hs;exact fin (v:=V.non) (u:=Value.none) J rfl q
 |brk=>
  obtain⟨_,_,_,q⟩:=hs;exact False.elim q
 |cont=>
  obtain⟨_,_,_,q⟩:=hs;exact False.elim q
end L2
namespace L2
open PySem PySem.Spec PyProof.Rows
section
variable {X:Cx}{x:Str}{p pos:Pos}{e:Expr}{es:List Expr}{t:TA}{id T:String}{r:List V->Hp->VK->Prop}
def tCB (r:List V->Hp->VK->Prop) (t:TA):TE:=λσ H Q=>t σ H λvs H1=>r vs H1 Q
theorem Zao (hc:CallR X (.builtin id) r) (hg:Gl X x) (hm:X.mg x=none) (hv:bootBuiltins x=some (.builtin id)) (ha:PA X (e::es) t) (hn:x ≠ "__name__":=by decide) (hdb:(x == ("__debug__":Str))=false:=by decide)
  (he:starEach (e::es) X.env=(false,eval e X.env)::starEach es X.env:=by rfl) (hpl:(backTo pos (starEach es X.env)).any (·.1)=false:=by rfl):PE X (.Call (.Name x p) (e::es) [] pos) (tCB r t):=by
 intro pins s σ H Q I h;refine wpAny_Call_Name_kw (Zd0 I hg hm hv ?_ hn hdb);exact PyProof.Rows.callWith_builtin1 (thn (ha pos pins s σ H _ I h) λus s1 ⟨vs,H1,I1,r1,q1⟩=>hc pins s1 σ H1 vs us Q I1 r1 q1) he hpl
theorem Zb3 (hc:CallR X (.type T) r) (hg:Gl X x) (hm:X.mg x=none) (hv:bootBuiltins x=some (.type T)) (ha:PA X (e::es) t) (hn:x ≠ "__name__":=by decide) (hdb:(x == ("__debug__":Str))=false:=by decide)
  (he:starEach (e::es) X.env=(false,eval e X.env)::starEach es X.env:=by rfl) (hpl:(backTo pos (starEach es X.env)).any (·.1)=false:=by rfl):PE X (.Call (.Name x p) (e::es) [] pos) (tCB r t):=by
 intro pins s σ H Q I h;refine wpAny_Call_Name_kw (Zd0 I hg hm hv ?_ hn hdb);exact PyProof.Rows.callWith_type1 (thn (ha pos pins s σ H _ I h) λus s1 ⟨vs,H1,I1,r1,q1⟩=>hc pins s1 σ H1 vs us Q I1 r1 q1) he hpl
end
end L2
namespace HT
open PySem PyProof.Rows
section
open PySem.SeqAt
open PySem.AutoSeq1 (wpAny_loadPart')
open PySem.MeetsSeq PySem.MeetsSeq2 PySem.MeetsSeq3
end
section
variable {prog:Program}{w:World}{A:Around}{E:Value->Shared->Prop}{s:Shared}
theorem cat_tup {t b:Addr}{vs ws:List Value}{Q:Value->Shared->Prop}(ht:IsTup s.heap t vs.toArray) (hb:IsTup s.heap b ws.toArray) (hv:vs≠[])
  (h1:ws=[]->Q (.ref t) s) (h2:ws≠[]->Q (.ref s.heap.objs.size) { s with heap:=s.heap.push { cls:=.type "tuple",data:=.seq (vs++ws).toArray } })
  (hsz:vs.length+ws.length<=sizeLine):wpAny (model prog w) A (binaryOp .Add (.ref t) (.ref b)) Q E s:=by
 obtain⟨⟨cls,dd,data,sl⟩,ho,hc,n,hd⟩:=id ht;obtain⟨⟨cls2,dd2,data2,sl2⟩,ho2,hc2,n2,hd2⟩:=id hb;simp only at hc hd hc2 hd2;subst hc hd hc2 hd2;have e:vs.toArray++ws.toArray=(vs++ws).toArray:=by simp
 by_cases hw:ws=[]
 ·exact concat_meets ⟨_,ho,rfl⟩ ⟨_,ho2,rfl⟩ noFill_tuple_add seq_tuple_add PySem.F.slot_tuple_add PySem.F.entry_tuple_add (PySem.F.args_tuple_add_2 _ _)
   (tuple_addW1 t b vs.toArray ws.toArray n n2 dd dd2 sl sl2 (by simpa using hv) (by simp[hw])) ⟨ho,ho2,h1 hw⟩
 ·refine concat_meets ⟨_,ho,rfl⟩ ⟨_,ho2,rfl⟩ noFill_tuple_add seq_tuple_add PySem.F.slot_tuple_add PySem.F.entry_tuple_add (PySem.F.args_tuple_add_2 _ _)
   (tuple_addW2 t b vs.toArray ws.toArray n n2 dd dd2 sl sl2 (by simpa using hv) (by simpa using hw) (by rw[Wam,Wam];exact hsz)) ⟨ho,ho2,?_⟩
  rw[e];exact h2 hw
def sIx (n d:Nat):Option Int->Nat
 |none=>d
 |some v=>if v<0 then (v+(n:Int)).toNat else min v.toNat n
theorem sIx_none (n d:Nat):sIx n d none=d:=rfl
theorem sIx_nat (n d k:Nat):sIx n d (some (k:Int))=min k n:=by
 show (if (k:Int)<0 then ((k:Int)+(n:Int)).toNat else min (k:Int).toNat n)=min k n;rw[if_neg (by omega),Wao]
theorem Zq4 (n d:Nat) (hd:d<=n) (o:Option Int):sIx n d o<=n:=by
 cases o with
 |none=>exact hd
 |some v=>
  show (if v<0 then (v+(n:Int)).toNat else min v.toNat n)<=n;by_cases hv:v<0
  ·rw[if_pos hv];omega
  ·rw[if_neg hv];exact Nat.min_le_right _ _
theorem Zlf (v:Int) (n d:Nat):(if v<0 then max (v+(n:Int)) 0 else min v (n:Int))=((sIx n d (some v):Nat):Int):=by
 show (if v<0 then max (v+(n:Int)) 0 else min v (n:Int))=(((if v<0 then (v+(n:Int)).toNat else min v.toNat n):Nat):Int);by_cases hv:v<0
 ·simp only[if_pos hv];omega
 ·simp only[if_neg hv];omega
theorem Zju (lo hi:Option Int) (n:Nat):Builtin.Slice.sliceAdjust lo hi 1 (n:Int)=(((sIx n 0 lo:Nat):Int),((sIx n n hi:Nat):Int)):=by
 have h1:¬ ((1:Int)<0):=by omega
 unfold Builtin.Slice.sliceAdjust;simp only[h1,if_false];refine Prod.ext ?_ ?_
 ·cases lo with
  |none=>rfl
  |some v=>exact Zlf v n 0
 ·cases hi with
  |none=>rfl
  |some v=>exact Zlf v n n
theorem Zj0 (i j:Nat):Builtin.Slice.slicePlaces (i:Int) (j:Int) 1=j-i:=by
 unfold Builtin.Slice.slicePlaces;have h1:(1:Int) > 0:=by omega
 simp only[h1,if_true,Int.ediv_one];split <;> omega
theorem Zej {v:Value}{o:Option Int}{Q:Option Int->Shared->Prop}(p:IsPart v o) (h:Q o s):wpAny (model prog w) A (Builtin.Slice.slicePartIndex v) Q E s:=by
 cases p with
 |none=>exact slicePart_none h
 |int i t=>exact slicePart_int h
theorem Zdf {sl:Addr}{vl vu:Value}{lo hi:Option Int}{n:Nat}{Q:Int × Int × Nat->Shared->Prop}(hs:s.heap.IsSliceOf sl vl vu .none) (pl:IsPart vl lo) (pu:IsPart vu hi)
  (h:Q (((sIx n 0 lo:Nat):Int),1,sIx n n hi-sIx n 0 lo) s):wpAny (model prog w) A (Builtin.Slice.sliceApplied (.ref sl) (pure (n:Int))) Q E s:=by
 obtain⟨os,hos,hcs,hds⟩:=id hs;unfold Builtin.Slice.sliceApplied Builtin.Slice.sliceFields;refine wpAny_bind (wpAny_bind (wpAny_field hos hds (x:=vl) rfl (wpAny_bind (wpAny_field hos hds (x:=vu) rfl (wpAny_bind (wpAny_field hos hds (x:=.none) rfl (wpAny_pure ?_)))))));refine wpAny_bind (slicePart_none ?_);show wpAny _ _ (if ((1:Int) == 0)=true then _ else _) _ _ s;rw[if_neg (by decide)];refine wpAny_bind (Zej pl (wpAny_bind (Zej pu (wpAny_bind (wpAny_pure ?_)))));show wpAny _ _ (match Builtin.Slice.sliceAdjust lo hi 1 (n:Int) with|(lo,hi)=>pure (lo,(1:Int),Builtin.Slice.slicePlaces lo hi 1)) _ _ s;rw[Zju lo hi n];show wpAny _ _ (pure (((sIx n 0 lo:Nat):Int),(1:Int),Builtin.Slice.slicePlaces ((sIx n 0 lo:Nat):Int) ((sIx n n hi:Nat):Int) 1)) _ _ s;rw[Zj0];exact wpAny_pure h
theorem Znl (xs:Array Value) (i k:Nat):((Wa4 k).filterMap λ(m:Nat)=>xs[((i:Int)+(m:Int)*1).toNat]?).toArray=((xs.toList.drop i).take k).toArray:=by
 have e:(λ(m:Nat)=>xs[((i:Int)+(m:Int)*1).toNat]?)=λm=>xs[i+m]?:=by
  funext m
  have:((i:Int)+(m:Int)*1).toNat=i+m:=by omega
  rw[this]
 rw[e];have:=pick_run xs i k;rw[List.filterMap_map]at this;have e2:((λx=>xs[x]?)∘λx=>i+x)=λm=>xs[i+m]?:=rfl;rw[e2]at this;rw[this]
theorem getItem_tuple_cut {t sl:Addr}{items:Array Value}{vl vu:Value}{lo hi:Option Int}{Q:Value->Shared->Prop}(ht:IsTup s.heap t items) (hs:s.heap.IsSliceOf sl vl vu .none) (pl:IsPart vl lo) (pu:IsPart vu hi)
  (hw:¬ (sIx items.size 0 lo=0/\sIx items.size items.size hi=items.size))
  (h:Q (.ref s.heap.objs.size) { s with heap:=s.heap.push { cls:=.type "tuple",data:=.seq ((items.toList.drop (sIx items.size 0 lo)).take (sIx items.size items.size hi-sIx items.size 0 lo)).toArray } })
  (hsz:items.size<=sizeLine):wpAny (model prog w) A (getItem (.ref t) (.ref sl)) Q E s:=by
 have htake:sizeOk (.seq ((items.toList.drop (sIx items.size 0 lo)).take (sIx items.size items.size hi-sIx items.size 0 lo)).toArray):=by
  show ((items.toList.drop (sIx items.size 0 lo)).take (sIx items.size items.size hi-sIx items.size 0 lo)).toArray.size<=sizeLine;rw[Wam,Wav,Wa8,Array.length_toList];omega
 have hj:sIx items.size items.size hi<=items.size:=Zq4 _ _ (Waf _) hi;obtain⟨os,hos,hcs,hds⟩:=id hs;have hTs:s.TypeIs (.ref sl) "slice":=⟨os,hos,hcs⟩;unfold getItem
 try with_reducible refine wpAny_holding ?_
 first|refine wpAny_bind (wpAny_pure ?_)|skip
 refine wpAny_bind (wpAny_sequenceKey ht.typeIs (by decide) ?_);refine wpAny_bind (wpAny_callSpecial?_slot (name:=Str.ofString "__getitem__") ht.typeIs PyProof.Rows.slot_tuple_getitem
  (wpAny_call_entry PyProof.Rows.slot_tuple_getitem ht.typeIs entry_tuple_getitem ?_ (args_tuple_getitem _ _)))
 show wpAny _ _ (Builtin.Tuple.tupleItemsOf (.ref t) >>= _) _ _ s;refine wpAny_bind (tupleItemsOf_ ht ?_);refine wpAny_bind (wpAny_typeOf hTs ?_);rw[if_pos (by decide)];refine wpAny_bind (Zdf hs pl pu ?_);have hno:¬ ((((sIx items.size 0 lo:Nat):Int) == 0 && (1:Int) == 1 && (sIx items.size items.size hi-sIx items.size 0 lo) == items.size)=true):=by
  intro q;rw[Wbd,Wbd]at q;have q1:((sIx items.size 0 lo:Nat):Int)=0:=eq_of_beq q.1.1;have q2:sIx items.size items.size hi-sIx items.size 0 lo=items.size:=eq_of_beq q.2;exact hw ⟨by omega,by omega⟩
 show wpAny _ _ (if (((sIx items.size 0 lo:Nat):Int) == 0 && (1:Int) == 1 && (sIx items.size items.size hi-sIx items.size 0 lo) == items.size)=true then _ else _) _ _ s;rw[if_neg hno,Znl]
 first
  |exact wpAny_bind (m:=Builtin.Tuple.tupleExact _) (wpAny_newObj_type (wpAny_pure ⟨_,rfl,wpAny_pure h⟩) htake)
  |exact wpAny_bind (m:=Builtin.Tuple.tupleExact _) (wpAny_newObj_type (wpAny_bind (wpAny_pure (wpAny_pure ⟨_,rfl,wpAny_pure h⟩))) htake)
  |exact wpAny_bind (wpAny_bind (m:=Builtin.Tuple.tupleExact _) (wpAny_newObj_type (wpAny_pure (wpAny_pure ⟨_,rfl,wpAny_pure h⟩)) htake))
  |exact wpAny_bind (wpAny_bind (m:=Builtin.Tuple.tupleExact _) (wpAny_newObj_type (wpAny_pure ⟨_,rfl,wpAny_pure h⟩) htake))
end
end HT
namespace L2
open PySem PySem.Spec PyProof.Rows
abbrev TO:=St->Hp->(Option Int->Hp->Prop)->Prop
def PO (X:Cx) (e:Option Expr) (t:TO):Prop:=
 ∀(pins:List (Addr × Obj)) (s:Shared) (σ:St) (H:Hp) (Q:Option Int->Hp->Prop),Inv X pins σ H s->t σ H Q →
  wpAny (model X.prog X.w) X.A (evalPart e X.env) (λu s'=>∃o H',Inv X pins σ H' s' /\ IsPart u o/\Q o H') X.xe s
def tNoPart:TO:=λ_ H Q=>Q none H
def tPart (t:TE):TO:=λσ H Q=>t σ H λx H1=>∃i,x=.int i/\Q (some i) H1
theorem Zei {ns:List Int}:∀{us:List Value},Vals (ns.map V.int) us->IntsAre us ns:=by
 induction ns with
 |nil=>intro us r;rw[List.map_nil]at r;cases r;exact .nil
 |cons n ns ih=>
  intro us r;rw[Wbb]at r;cases r with
  |cons r1 r2=>
   obtain⟨t,e⟩:=r1;subst e;exact .cons n t (ih r2)
section
variable {X:Cx}{e:Expr}{te:TE}{lo hi:Option Expr}{tl th:TO}{pos p2:Pos}
theorem Zcj:PO X none tNoPart:=by
 intro pins s σ H Q I h;rw[evalPart_none];exact wpAny_pure ⟨none,H,I,.none,h⟩
theorem Zb1 (h:PE X e te):PO X (some e) (tPart te):=by
 intro pins s σ H Q I hw;rw[evalPart_some];refine thn (h pins s σ H _ I hw) λu s1 ⟨x,H1,I1,r1,q1⟩=>?_;obtain⟨i,rfl,q⟩:=q1;obtain⟨t,rfl⟩:=r1;exact⟨some i,H1,I1,.int i t,q⟩
def SlR (X:Cx) (r:V->Option Int->Option Int->Hp->VK->Prop):Prop:=
 ∀(pins:List (Addr × Obj)) (s:Shared) (σ:St) (H:Hp) (x:V) (v vl vu:Value) (lo hi:Option Int) (sl:Addr) (Q:VK),Inv X pins σ H s->RelV x v->s.heap.IsSliceOf sl vl vu .none->IsPart vl lo->IsPart vu hi->r x lo hi H Q →
  ∃T id,typeLookup (.type T) "__getitem__" = pure (some (.builtin id))/\s.TypeIs v T/\wpAny (model X.prog X.w) X.A (getItem v (.ref sl)) (EP X pins σ Q) X.xe s
theorem SlR.or {r r':V->Option Int->Option Int->Hp->VK->Prop}(h:SlR X r) (h':SlR X r'):SlR X (λx lo hi H Q=>r x lo hi H Q\/r' x lo hi H Q):=by
 intro pins s σ H x v vl vu lo hi sl Q I rx hs pl pu q;rcases q with q|q
 ·exact h pins s σ H x v vl vu lo hi sl Q I rx hs pl pu q
 ·exact h' pins s σ H x v vl vu lo hi sl Q I rx hs pl pu q
def tSl (r:V->Option Int->Option Int->Hp->VK->Prop) (te:TE) (tl th:TO):TE:=λσ H Q=>te σ H λx H1=>tl σ H1 λl H2=>th σ H2 λu H3=>r x l u H3 Q
theorem Zbq {r:V->Option Int->Option Int->Hp->VK->Prop}(hr:SlR X r) (he:PE X e te) (hl:PO X lo tl) (hu:PO X hi th):PE X (.Subscript e (.Slice lo hi none p2) pos) (tSl r te tl th):=by
 intro pins s σ H Q I h;refine Subscript_ (thn (he pins s σ H _ I h) λv s1 ⟨x,H1,I1,r1,q1⟩=>?_);refine wpAny_Slice (thn (hl pins s1 σ H1 _ I1 q1) λvl s2 ⟨l,H2,I2,pl,q2⟩=>thn (hu pins s2 σ H2 _ I2 q2) λvu s3 ⟨u,H3,I3,pu,q3⟩=>?_);rw[evalPart_none];refine wpAny_pure ?_;have I4:Inv X pins σ H3 { s3 with heap:=s3.heap.push { cls:=.type "slice",data:=.fields #[vl,vu,.none] } }:=I3.kept (t':=s3.toks) λb ob q=>Waa _ q;obtain⟨T,id,hT,ht,hg⟩:=hr pins { s3 with heap:=s3.heap.push { cls:=.type "slice",data:=.fields #[vl,vu,.none] } } σ H3 x v vl vu l u s3.heap.objs.size Q I4 r1 (Heap.IsSliceOf.new ..) pl pu q3;show wpAny (model X.prog X.w) X.A (subscriptTail e (.Slice lo hi none p2) v (.ref s3.heap.objs.size)) (EP X pins σ Q) X.xe { s3 with heap:=s3.heap.push { cls:=.type "slice",data:=.fields #[vl,vu,.none] } };exact tail_any (ops:=[.ref s3.heap.objs.size,v]) ht hT hg (by with_unfolding_all rfl)
def cutV (xs:List V) (lo hi:Option Int):List V:=(xs.drop (HT.sIx xs.length 0 lo)).take (HT.sIx xs.length xs.length hi-HT.sIx xs.length 0 lo)
theorem Zfr (xs:List V) (lo hi:Option Int):(cutV xs lo hi).length<=xs.length:=by
 unfold cutV;rw[Wav,Wa8];omega
def rSlT (K:W.Frag):V->Option Int->Option Int->Hp->VK->Prop:=λx lo hi H Q=>∃a xs,x=.ref a/\SqT K H a xs ∧
 ¬ (HT.sIx xs.length 0 lo=0/\HT.sIx xs.length xs.length hi=xs.length)/\∀p,H p=none->Q (.ref p) (upd H p (.tup (cutV xs lo hi)))
theorem Zr3:SlR X (rSlT X.K):=by
 intro pins s σ H x v vl vu lo hi sl Q I rx hs pl pu h;obtain⟨a,xs,rfl,hx,hw,q⟩:=h;cases rx;obtain⟨its,r,ht,hz⟩:=I.tuple hx;have hlen:its.toArray.size=xs.length:=by rw[Wam];exact r.length.symm
 refine⟨"tuple",_,PyProof.Rows.slot_tuple_getitem.lookup,ht.typeIs,?_⟩;refine HT.getItem_tuple_cut ht hs pl pu (by rw[hlen];exact hw) ?_ (by rw[hlen];exact hz);rw[hlen];refine⟨.ref s.heap.objs.size,_,I.laid (t':=s.toks) (o:=.tup (cutV xs lo hi)) (λb ob q=>Waa _ q) (Waf _) ?_,rfl,q _ (I.hok.fresh (Waf _))⟩;exact⟨Was (Zfr xs lo hi) hz,_,(r.drop (HT.sIx xs.length 0 lo)).take (HT.sIx xs.length xs.length hi-HT.sIx xs.length 0 lo),IsTupN.new _ _⟩
def rCatT (K:W.Frag):R2:=λx y H Q=>∃a b xs ys,x=.ref a/\y=.ref b/\SqT K H a xs/\SqT K H b ys/\xs≠[]/\xs.length+ys.length<=sizeLine ∧
 (ys=[]->Q (.ref a) H)/\(ys≠[]->∀p,H p=none->Q (.ref p) (upd H p (.tup (xs++ys))))
theorem Vals.nil_iff {xs:List V}{us:List Value}(r:Vals xs us):us=[]↔xs=[]:=by
 cases r with
 |nil=>simp
 |cons _ _=>simp
theorem Zop:OpR X (binaryOp .Add) (rCatT X.K):=by
 intro pins s σ H x y v u Q I rx ry h;obtain⟨a,b,xs,ys,rfl,rfl,ha,hb,hx,hz,q1,q2⟩:=h;cases rx;cases ry;obtain⟨its,r1,p1,_⟩:=I.tuple ha;obtain⟨its2,r2,p2,_⟩:=I.tuple hb;refine HT.cat_tup p1 p2 (λz=>hx (r1.nil_iff.mp z)) (λz=>⟨.ref a,H,I,rfl,q1 (r2.nil_iff.mp z)⟩) (λz=>?_) (by rw[<- r1.length,<- r2.length];exact hz);refine⟨.ref s.heap.objs.size,_,I.laid (t':=s.toks) (o:=.tup (xs++ys)) (λb ob q=>Waa _ q) (Waf _) ?_,rfl,q2 (λw=>z (r2.nil_iff.mpr w)) _ (I.hok.fresh (Waf _))⟩;exact⟨by rw[Wag];exact hz,_,r1.append r2,IsTupN.new _ _⟩
end
end L2
namespace L2
open PySem PySem.Spec PyProof.Rows
def ixN (n:Nat) (i:Int):Option Nat:=if 0<=i then (if i<n then some i.toNat else none) else if -(n:Int)<=i then some (i+n).toNat else none
def atI {α:Type}(xs:List α) (i:Int):Option α:=(ixN xs.length i).bind λj=>xs[j]?
theorem Zlp {n:Nat}{i:Int}{j:Nat}(h:ixN n i=some j):seqIndex? i n=some j/\j<n /\ -(n:Int)<=i/\i<n:=by
 unfold ixN at h;by_cases h0:0<=i
 ·rw[if_pos h0]at h
  by_cases h1:i<n
  ·rw[if_pos h1]at h
   have e:i.toNat=j:=Wbo.inj h;exact⟨by rw[seqIndex_of h0 h1,e],by omega,by omega,h1⟩
  ·rw[if_neg h1]at h;cases h
 ·rw[if_neg h0]at h
  by_cases h1:-(n:Int)<=i
  ·rw[if_pos h1]at h
   have e:(i+n).toNat=j:=Wbo.inj h;exact⟨by rw[seqIndex_neg (by omega) h1,e],by omega,h1,by omega⟩
  ·rw[if_neg h1]at h;cases h
theorem Zh9 {α:Type}{xs:List α}{i:Int}{v:α}(h:atI xs i=some v):∃j,seqIndex? i xs.length=some j/\xs[j]?=some v/\j<xs.length /\ -(xs.length:Int)<=i/\i<xs.length:=by
 unfold atI at h;cases e:ixN xs.length i with
 |none=>rw[e]at h;cases h
 |some j=>
  rw[e]at h;obtain⟨h1,h2,h3,h4⟩:=Zlp e;exact⟨j,h1,h,h2,h3,h4⟩
theorem Zb6 {α:Type}{xs:List α}{j:Nat}{v:α}(h:xs[j]?=some v):atI xs (j:Int)=some v:=by
 have hj:j<xs.length:=(Waj.mp h).1;have e:ixN xs.length (j:Int)=some j:=by
  unfold ixN;rw[if_pos (by omega),if_pos (by omega)];simp
 unfold atI;rw[e];exact h
theorem Zmm {α:Type}(xs:List α) (v:α):atI (xs++[v]) (-1)=some v:=by
 have hl:(xs++[v]).length=xs.length+1:=by simp
 have e:ixN (xs++[v]).length (-1)=some xs.length:=by
  unfold ixN;rw[hl,if_neg (by decide),if_pos (by omega)];congr 1;omega
 unfold atI;rw[e];show (xs++[v])[xs.length]?=some v;simp
def PlainIx (b:Expr):Prop:=∀o i,subscripted b false o i=operate [o,i] (getItem o i)
def IxR (X:Cx) (r:R2):Prop:=
 ∀(value slice:Expr) (pins:List (Addr × Obj)) (s:Shared) (σ:St) (H:Hp) (x y:V) (v u:Value) (Q:VK),Inv X pins σ H s->RelV x v->RelV y u->r x y H Q →
  subscripted slice false v u=operate [v,u] (getItem v u)->wpAny (model X.prog X.w) X.A (subscriptTail value slice v u) (EP X pins σ Q) X.xe s
def MtR (X:Cx) (id:String) (r:V->List V->Hp->VK->Prop):Prop:=
 ∀(pins:List (Addr × Obj)) (s:Shared) (σ:St) (H:Hp) (x:V) (xs:List V) (v:Value) (us:List Value) (Q:VK),Inv X pins σ H s->RelV x v->Vals xs us->r x xs H Q →
  wpAny (model X.prog X.w) X.A (call (.builtin id) (v::us)) (EP X pins σ Q) X.xe s
section
variable {X:Cx}{a b:Expr}{ta tb:TE}{pos:Pos}
theorem IxR.or {r r':R2}(h:IxR X r) (h':IxR X r'):IxR X (λx y H Q=>r x y H Q\/r' x y H Q):=by
 intro value slice pins s σ H x y v u Q I rx ry q hs;rcases q with q|q
 ·exact h value slice pins s σ H x y v u Q I rx ry q hs
 ·exact h' value slice pins s σ H x y v u Q I rx ry q hs
theorem Zau {r:R2}(hr:IxR X r) (ha:PE X a ta) (hb:PE X b tb) (hs:PlainIx b):PE X (.Subscript a b pos) (tOp r ta tb):=by
 intro pins s σ H Q I h;exact Subscript_ (binT ha hb I h λv u s2 x y H2 I2 rx ry q=>hr a b pins s2 σ H2 x y v u Q I2 rx ry q (hs _ _))
def rIxL (K:W.Frag):R2:=λx y H Q=>∃p xs i v,x=.ref p/\y=.int i/\SqL K H p xs/\atI xs i=some v/\Q v H
def rIxT (K:W.Frag):R2:=λx y H Q=>∃p xs i v,x=.ref p/\y=.int i/\SqT K H p xs/\atI xs i=some v/\Q v H
def rIxS:R2:=λx y H Q=>∃z i c,x=.str z/\y=.int i/\z.length<=sizeLine/\atI z.cps.toList i=some c/\Q (.str ⟨#[c]⟩) H
theorem Zpw:IxR X (rIxL X.K):=by
 intro value slice pins s σ H x y v u Q I rx ry h hs;obtain⟨p,xs,i,z,rfl,rfl,hq,he,q⟩:=h;cases rx;obtain⟨t,rfl⟩:=ry;obtain⟨its,r,pl,hz⟩:=I.list hq;obtain⟨j,h1,h2,h3,h4,h5⟩:=Zh9 he;obtain⟨w,ew,rw'⟩:=r.get h2;have hl:=r.length;have hn:=line63;have fin:EP X pins σ Q w s:=⟨z,H,I,rw',q⟩;by_cases h0:0<=i
 ·have hj:i.toNat=j:=by
   rw[seqIndex_of h0 h5]at h1;exact Wbo.inj h1
  exact item_listR pl.isList h0 (by omega) (by rw[hj];simpa using ew) fin hs
 ·have hj:(i+(its.toArray.size:Int)).toNat=j:=by
   rw[seqIndex_neg (by omega) h4]at h1;rw[Wam,<- hl];exact Wbo.inj h1
  exact subscriptTail_builtinR (x:=w) pl.isList.typeIs slot_list_getitem.lookup
   (wpAny_getItem_list_neg (Q:=λr s'=>r=w/\EP X pins σ Q r s') pl.isList (by omega) (by rw[Wam] <;> omega) (by omega) (by rw[hj];simpa using ew) ⟨rfl,fin⟩) hs
theorem Zrk:IxR X (rIxT X.K):=by
 intro value slice pins s σ H x y v u Q I rx ry h hs;obtain⟨p,xs,i,z,rfl,rfl,hq,he,q⟩:=h;cases rx;obtain⟨t,rfl⟩:=ry;obtain⟨its,r,pl,hz⟩:=I.tuple hq;obtain⟨j,h1,h2,h3,h4,h5⟩:=Zh9 he;obtain⟨w,ew,rw'⟩:=r.get h2;have hl:=r.length;have hn:=line63;have fin:EP X pins σ Q w s:=⟨z,H,I,rw',q⟩;exact subscriptTail_builtinR (x:=w) pl.typeIs slot_tuple_getitem.lookup
  (getItem_tuple (j:=j) (Q:=λr s'=>r=w/\EP X pins σ Q r s') pl (by omega) (by omega) (by rw[Wam,<- hl];exact h1) (by simpa using ew) ⟨rfl,fin⟩) hs
theorem Zqg:IxR X rIxS:=by
 intro value slice pins s σ H x y v u Q I rx ry h hs;obtain⟨z,i,c,rfl,rfl,hz,he,q⟩:=h;obtain⟨t,rfl⟩:=rx;obtain⟨t',rfl⟩:=ry;obtain⟨j,h1,h2,h3,h4,h5⟩:=Zh9 he;have hl:z.cps.toList.length=z.length:=by simp[Str.length]
 rw[hl]at h1 h4 h5;have hn:=line63;exact tail_any (typeIs_str s z t) slot_str_getitem.lookup (getItem_str (c:=c) (by
  have e1:decide (i < -(2 ^ 63:Int))=false:=decide_eq_false (by omega);have e2:decide (i ≥ 2 ^ 63)=false:=decide_eq_false (by omega);rw[e1,e2,Bool.or_false]) (by rw[h1];simpa using h2) ⟨.str ⟨#[c]⟩,H,I.tok _,⟨_,rfl⟩,q⟩) hs
def rIx (K:W.Frag):R2:=λx y H Q=>rIxL K x y H Q\/rIxT K x y H Q\/rIxS x y H Q
theorem Zqz:IxR X (rIx X.K):=Zpw.or (Zrk.or Zqg)
theorem Zjn (its:List Value) (n j:Nat) (u:Value):Obj.mapSeq (·.setIfInBounds j u) { cls:=.type "list",data:=.seq its.toArray n } = { cls:=.type "list",data:=.seq (its.set j u).toArray n }:=by
 simp[Obj.mapSeq]
theorem Inv.lst {pins:List (Addr × Obj)}{σ:St}{H:Hp}{s:Shared}{p:Addr}{xs:List V}(I:Inv X pins σ H s) (h:H p=some (.lst xs)) :
  ∃(its:List Value) (n:Nat),Vals xs its/\s.heap.get? p=some { cls:=.type "list",data:=.seq its.toArray n } /\ xs.length<=sizeLine:=by
 obtain⟨z,its,n,r,e⟩:=I.hok p _ h;exact⟨its,n,r,e,z⟩
theorem Inv.lstUpd {pins:List (Addr × Obj)}{σ:St}{H:Hp}{s:Shared}{p:Addr}{xs ys:List V}{its its':List Value}{n n':Nat}{f:Obj->Obj}(I:Inv X pins σ H s) (h:H p=some (.lst xs))
  (ho:s.heap.get? p=some { cls:=.type "list",data:=.seq its.toArray n }) (hf:f { cls:=.type "list",data:=.seq its.toArray n } = { cls:=.type "list",data:=.seq its'.toArray n' }) (r:Vals ys its') (hz:ys.length<=sizeLine) (t:Nat) :
  Inv X pins σ (upd H p (.lst ys)) { s with heap:=s.heap.update p f,toks:=t }:=by
 have e:(s.heap.update p f).get? p=some { cls:=.type "list",data:=.seq its'.toArray n' }:=by
  rw[Wb0 f ho (by rw[hf] <;> rfl),hf]
 refine I.write (x:=p) (e:=p) (by rw[h];trivial) (.inl rfl) (λb u hb q=>(Wbr _ _ (Ne.symm hb)).trans q) ⟨_,e⟩ ?_;exact⟨hz,its',n',r,e⟩
def rSetL:V->V->V->Hp->(Hp->Prop)->Prop:=λo i v H Q=>∃p xs k j,o=.ref p/\i=.int k/\H p=some (.lst xs)/\ixN xs.length k=some j/\Q (upd H p (.lst (xs.set j v)))
theorem Zm2:PSet X rSetL:=by
 intro pins s σ H o i v ov iv u Q I ro ri rv h;obtain⟨p,xs,k,j,rfl,rfl,hp,hj,q⟩:=h;cases ro;obtain⟨t,rfl⟩:=ri;obtain⟨its,n,r,ho,hz⟩:=I.lst hp;obtain⟨h1,h2,h3,h4⟩:=Zlp hj;have hl:=r.length;have hn:=line63;have I':Inv X pins σ (upd H p (.lst (xs.set j v))) { s with heap:=s.heap.update p (Obj.mapSeq (·.setIfInBounds j u)) }:=
  I.lstUpd hp ho (Zjn its n j u) (r.set rv j) (by rw[List.length_set];exact hz) s.toks
 by_cases h0:0<=k
 ·have hk:k.toNat=j:=by
   rw[seqIndex_of h0 h4]at h1;exact Wbo.inj h1
  exact PySem.W.ki_setAt ho h0 (by omega) (by rw[Wam,<- hl];exact h4) (by rw[hk];exact⟨_,I',q⟩)
 ·have hk:(k+(its.toArray.size:Int)).toNat=j:=by
   rw[seqIndex_neg (by omega) h3]at h1;rw[Wam,<- hl];exact Wbo.inj h1
  exact PySem.W.ki_setBack ho (by omega) (by rw[Wam,<- hl];exact h3) (by omega) (by rw[hk];exact⟨_,I',q⟩)
theorem Zhg (lo hi:Option Int) (n:Nat):(sliceBounds lo hi none n).1=((HT.sIx n 0 lo:Nat):Int)/\(sliceBounds lo hi none n).2.1=((HT.sIx n n hi:Nat):Int)/\(sliceBounds lo hi none n).2.2=1:=by
 refine⟨?_,?_,rfl⟩
 ·cases lo with
  |none=>simp[sliceBounds,HT.sIx]
  |some i=>
   simp only[sliceBounds,HT.sIx,Option.getD_none,show (1:Int) > 0 by decide,if_true];by_cases h:i<0
   ·simp only[h,if_true] <;> omega
   ·simp only[h,if_false] <;> omega
 ·cases hi with
  |none=>simp[sliceBounds,HT.sIx]
  |some i=>
   simp only[sliceBounds,HT.sIx,Option.getD_none,show (1:Int) > 0 by decide,if_true];by_cases h:i<0
   ·simp only[h,if_true] <;> omega
   ·simp only[h,if_false] <;> omega
theorem Zgt (its:List Value) (lo hi:Option Int):slicePick its.toArray lo hi none=((its.drop (HT.sIx its.length 0 lo)).take (HT.sIx its.length its.length hi-HT.sIx its.length 0 lo)).toArray:=by
 obtain⟨h1,h2,h3⟩:=Zhg lo hi its.toArray.size;unfold slicePick;rw[h1,h2,h3];simp only[sliceRange_one,pick_run,Wam] <;> rfl
def rSlL (K:W.Frag):V->Option Int->Option Int->Hp->VK->Prop:=λx lo hi H Q=>∃a xs,x=.ref a/\SqL K H a xs/\∀p,H p=none->Q (.ref p) (upd H p (.lst (cutV xs lo hi)))
theorem Zpj:SlR X (rSlL X.K):=by
 intro pins s σ H x v vl vu lo hi sl Q I rx hs pl pu h;obtain⟨a,xs,rfl,hx,q⟩:=h;cases rx;obtain⟨its,r,ht,hz⟩:=I.list hx;have hlen:=r.length;refine⟨"list",_,slot_list_getitem.lookup,ht.isList.typeIs,?_⟩;refine wpAny_getItem_list_slice ht.isList hs pl pu .none (by simp) ?_ (by rw[Wam] <;> omega)
 rw[Zgt,<- hlen];refine⟨.ref s.heap.objs.size,_,I.laid (t':=s.toks) (o:=.lst (cutV xs lo hi)) (λb ob q=>Waa _ q) (Waf _) ?_,rfl,q _ (I.hok.fresh (Waf _))⟩;exact⟨Was (Zfr xs lo hi) hz,_,0,(r.drop (HT.sIx xs.length 0 lo)).take (HT.sIx xs.length xs.length hi-HT.sIx xs.length 0 lo),Wal _ rfl⟩
def flatV:V->Bool
 |.non=>true
 |.bl _=>true
 |.int _=>true
 |.str _=>true
 |_=>false
def eqV:V->V->Bool
 |.non,.non=>true
 |.bl a,.bl b=>a == b
 |.bl a,.int b=>(if a then 1 else 0) == b
 |.int a,.bl b=>a == (if b then 1 else 0)
 |.int a,.int b=>a == b
 |.str a,.str b=>a == b
 |_,_=>false
theorem Zq8 {A:Around}{s:Shared}{y x:V}{u v:Value}(ry:RelV y u) (rx:RelV x v) (fy:flatV y=true) (fx:flatV x=true):SeqAt.EqAt A s u v (eqV y x):=by
 cases y with
 |non=>
  cases ry;cases x with
  |non=>cases rx;exact SeqAt.EqAt.same _
  |bl b=>cases rx;exact SeqAt.EqAt.none_bool b
  |int b=>obtain⟨t,rfl⟩:=rx;exact SeqAt.EqAt.none_int b t
  |str b=>obtain⟨t,rfl⟩:=rx;exact SeqAt.EqAt.none_str b t
  |_=>exact absurd (show false=true from fx) Wai
 |bl a=>
  cases ry;cases x with
  |non=>cases rx;exact SeqAt.EqAt.bool_none a
  |bl b=>cases rx;exact SeqAt.EqAt.bool_bool a b
  |int b=>obtain⟨t,rfl⟩:=rx;exact SeqAt.EqAt.bool_int a b t
  |str b=>obtain⟨t,rfl⟩:=rx;exact SeqAt.EqAt.bool_str a b t
  |_=>exact absurd (show false=true from fx) Wai
 |int a=>
  obtain⟨t',rfl⟩:=ry;cases x with
  |non=>cases rx;exact SeqAt.EqAt.int_none a t'
  |bl b=>cases rx;exact SeqAt.EqAt.int_bool a t' b
  |int b=>obtain⟨t,rfl⟩:=rx;exact SeqAt.EqAt.int_int a t' b t
  |str b=>obtain⟨t,rfl⟩:=rx;exact SeqAt.EqAt.int_str a t' b t
  |_=>exact absurd (show false=true from fx) Wai
 |str a=>
  obtain⟨t',rfl⟩:=ry;cases x with
  |non=>cases rx;exact SeqAt.EqAt.str_none a t'
  |bl b=>cases rx;exact SeqAt.EqAt.str_bool a t' b
  |int b=>obtain⟨t,rfl⟩:=rx;exact SeqAt.EqAt.str_int a t' b t
  |str b=>obtain⟨t,rfl⟩:=rx;exact SeqAt.EqAt.str_str a t' b t
  |_=>exact absurd (show false=true from fx) Wai
 |_=>exact absurd (show false=true from fy) Wai
def eqU (x:V) (u:Value):Bool:=match u with
 |.none=>eqV .non x
 |.bool b=>eqV (.bl b) x
 |.int i _=>eqV (.int i) x
 |.str z _=>eqV (.str z) x
 |_=>false
theorem Zn6 {x y:V}{u:Value}(r:RelV y u) (f:flatV y=true):eqU x u=eqV y x:=by
 cases y with
 |non=>cases r;rfl
 |bl b=>cases r;rfl
 |int i=>obtain⟨t,rfl⟩:=r;rfl
 |str z=>obtain⟨t,rfl⟩:=r;rfl
 |_=>exact absurd (show false=true from f) Wai
theorem Ze8 {x:V}:∀{xs:List V}{us:List Value},Vals xs us->xs.all flatV=true->us.any (eqU x)=xs.any λy=>eqV y x
 |_,_,.nil,_=>rfl
 |y::xs,u::us,.cons r t,f=>by
  rw[List.all_cons,Wbd]at f;rw[Wci,Wci,Zn6 r f.1,Ze8 t f.2]
theorem Zeb {A:Around}{s:Shared}{x:V}{v:Value}(rx:RelV x v) (fx:flatV x=true):∀{xs:List V}{us:List Value},Vals xs us->xs.all flatV=true->∀u∈us,SeqAt.EqAt A s u v (eqU x u)
 |_,_,.nil,_=>λu hu=>by cases hu
 |y::xs,u::us,.cons r t,f=>λu' hu=>by
  rw[List.all_cons,Wbd]at f;rcases Wan.mp hu with rfl|hu
  ·rw[Zn6 r f.1];exact Zq8 r rx f.1 fx
  ·exact Zeb rx fx t f.2 u' hu
def inV (x:V) (xs:List V):Bool:=xs.any λy=>eqV y x
def rIn (K:W.Frag) (neg:Bool):R2:=λx y H Q=>∃p xs,y=.ref p/\(SqL K H p xs\/SqT K H p xs)/\flatV x=true/\xs.all flatV=true/\Q (.bl (if neg then !inV x xs else inV x xs)) H
theorem Zlo:OpR X (compareOp .In) (rIn X.K false):=by
 intro pins s σ H x y v u Q I rx ry h;obtain⟨p,xs,rfl,hq,fx,fs,q⟩:=h;cases ry;rcases hq with hq|hq
 ·obtain⟨its,r,pl,hz⟩:=I.list hq
  refine SeqAt.in_listAt (eqU x) pl.isList (λw hw=>Zeb rx fx r fs w (by simpa using hw)) ⟨.bl _,H,I,rfl,?_⟩;rw[show its.toArray.any (eqU x)=its.any (eqU x) by simp,Ze8 r fs];exact q
 ·obtain⟨its,r,pl,hz⟩:=I.tuple hq
  refine SeqAt.in_tupleAt (eqU x) pl (λw hw=>Zeb rx fx r fs w (by simpa using hw)) ⟨.bl _,H,I,rfl,?_⟩;rw[show its.toArray.any (eqU x)=its.any (eqU x) by simp,Ze8 r fs];exact q
theorem Zhy:OpR X (compareOp .NotIn) (rIn X.K true):=by
 intro pins s σ H x y v u Q I rx ry h;obtain⟨p,xs,rfl,hq,fx,fs,q⟩:=h;cases ry;rcases hq with hq|hq
 ·obtain⟨its,r,pl,hz⟩:=I.list hq
  refine SeqAt.notIn_listAt (eqU x) pl.isList (λw hw=>Zeb rx fx r fs w (by simpa using hw)) ⟨.bl _,H,I,rfl,?_⟩;rw[show its.toArray.any (eqU x)=its.any (eqU x) by simp,Ze8 r fs];exact q
 ·obtain⟨its,r,pl,hz⟩:=I.tuple hq
  refine SeqAt.notIn_tupleAt (eqU x) pl (λw hw=>Zeb rx fx r fs w (by simpa using hw)) ⟨.bl _,H,I,rfl,?_⟩;rw[show its.toArray.any (eqU x)=its.any (eqU x) by simp,Ze8 r fs];exact q
theorem Zg7:CallR X (.builtin "len") (λxs H Q=>∃p ys,xs=[.ref p]/\(SqL X.K H p ys\/SqT X.K H p ys)/\Q (.int ys.length) H):=by
 intro pins s σ H xs us Q I r h;obtain⟨p,ys,rfl,hq,q⟩:=h;obtain⟨u,rfl,rx⟩:=vals1 r;cases rx;have hn:=line63;rcases hq with hq|hq
 ·obtain⟨its,r',pl,hz⟩:=I.list hq
  have hlen:=r'.length;exact Calls.call_len_list pl.isList (by simp only[Wam] <;> omega) ⟨.int ys.length,H,I.tok _,⟨s.toks+1,by rw[Wam,hlen]⟩,q⟩
 ·obtain⟨its,r',pl,hz⟩:=I.tuple hq
  have hlen:=r'.length;exact len_tuple pl (by simp only[Wam] <;> omega) ⟨.int ys.length,H,I.tok _,⟨s.toks+1,by rw[Wam,hlen]⟩,q⟩
theorem CallR.or {f:Value}{r r':List V->Hp->VK->Prop}(h:CallR X f r) (h':CallR X f r'):CallR X f (λxs H Q=>r xs H Q\/r' xs H Q):=by
 intro pins s σ H xs us Q I rs q;rcases q with q|q
 ·exact h pins s σ H xs us Q I rs q
 ·exact h' pins s σ H xs us Q I rs q
theorem Zh1:CallR X (.type "list") (λxs H Q=>∃p ys,xs=[.ref p]/\(SqL X.K H p ys\/SqT X.K H p ys)/\∀l,H l=none->Q (.ref l) (upd H l (.lst ys))):=by
 intro pins s σ H xs us Q I r h;obtain⟨p,ys,rfl,hq,q⟩:=h;obtain⟨u,rfl,rx⟩:=vals1 r;cases rx;have fin:∀(its:List Value),Vals ys its->ys.length<=sizeLine->∀(h':Heap) (c':Nat),(∀b o',s.heap.get? b=some o' -> h'.get? b=some o') →
   h'.get? s.heap.objs.size=some { cls:=.type "list",dict:=none,data:=.seq its.toArray c',slots:=#[] } -> EP X pins σ Q (.ref s.heap.objs.size) { s with heap:=h' }:=λits r' hz h' c' kp e=>
  ⟨.ref s.heap.objs.size,_,I.laid (t':=s.toks) kp (Waf _) (show ObjOk X.prog X.w _ h' _ (.lst ys) from ⟨hz,its,c',r',e⟩),rfl,q _ (I.hok.fresh (Waf _))⟩
 rcases hq with hq|hq
 ·obtain⟨its,r',pl,hz⟩:=I.list hq
  have hlen:=r'.length;obtain⟨o,ho,hc,n,hd⟩:=pl.isList;exact call_list_seq p (.inl rfl) ho hc hd (λh' c' kp e=>fin its r' hz h' c' kp e) (by simp only[Wam] <;> omega)
 ·obtain⟨its,r',pl,hz⟩:=I.tuple hq
  have hlen:=r'.length;obtain⟨o,ho,hc,n,hd⟩:=pl;exact call_list_seq p (.inr rfl) ho hc hd (λh' c' kp e=>fin its r' hz h' c' kp e) (by simp only[Wam] <;> omega)
theorem Zgr:CallR X (.type "tuple") (λxs H Q=>∃p ys,xs=[.ref p]/\((SqL X.K H p ys/\∀l,H l=none->Q (.ref l) (upd H l (.tup ys)))\/(SqT X.K H p ys/\Q (.ref p) H))):=by
 intro pins s σ H xs us Q I r h;obtain⟨p,ys,rfl,h⟩:=h;obtain⟨u,rfl,rx⟩:=vals1 r;cases rx;rcases h with ⟨hq,q⟩|⟨hq,q⟩
 ·obtain⟨its,r',pl,hz⟩:=I.list hq
  have hlen:=r'.length;refine call_tuple_list pl.isList (λh' kp=>?_) (by simp only[Wam] <;> omega)
  have I1:Inv X pins σ H { s with heap:=h' }:=I.kept (t':=s.toks) kp;have I2:Inv X pins σ (upd H h'.objs.size (.tup ys)) { s with heap:=h'.push { cls:=.type "tuple",data:=.seq its.toArray } }:=
   I1.laid (t':=s.toks) (λb o e=>Waa _ e) (Waf _) (show ObjOk X.prog X.w _ _ _ (.tup ys) from ⟨hz,its,r',IsTupN.new _ _⟩)
  exact⟨.ref h'.objs.size,_,I2,rfl,q _ (I1.hok.fresh (Waf _))⟩
 ·obtain⟨its,r',pl,hz⟩:=I.tuple hq
  exact call_tuple_same pl ⟨.ref p,H,I,rfl,q⟩
def tyV (K:W.Frag) (T:String) (x:V) (H:Hp):Prop:=match x with
 |.str _=>T = "str"
 |.int _=>T = "int"
 |.ref p=>(T = "list" /\ ∃xs,SqL K H p xs)\/(T = "tuple" /\ ((∃o,K.lookup p=some o/\o.cls=.type "tuple" /\ o.dict=none)\/∃xs,H p=some (.tup xs))) ∨
   (T = "dict" /\ ((∃kvs,H p=some (.dK kvs))\/∃kvs,H p=some (.dT kvs)))\/(T = "set" /\ ∃S n,H p=some (.set S n))
 |_=>False
theorem Zrb {pins:List (Addr × Obj)}{σ:St}{H:Hp}{s:Shared}{T:String}{x:V}{v:Value}(I:Inv X pins σ H s) (r:RelV x v) (ty:tyV X.K T x H) :
  s.TypeIs v T/\∀a,v=.ref a->∃ob,s.heap.get? a=some ob/\ob.dict=none:=by
 cases x with
 |str z=>
  obtain⟨t,rfl⟩:=r;cases (show T = "str" from ty);exact⟨typeIs_str s z t,λ_ e=>nomatch e⟩
 |int i=>
  obtain⟨t,rfl⟩:=r;cases (show T = "int" from ty);exact⟨typeIs_int s i t,λ_ e=>nomatch e⟩
 |ref p=>
  cases r;rcases ty with ⟨rfl,xs,hq⟩|⟨rfl,(⟨o,hk,hc,hd⟩|⟨xs,hk⟩)⟩|⟨rfl,hk⟩|⟨rfl,S,n,hk⟩
  ·obtain⟨its,_,pl,_⟩:=I.list hq
   refine⟨pl.isList.typeIs,λa e=>?_⟩;cases e;obtain⟨o,n,e,c,hd,_⟩:=pl;exact⟨o,e,hd⟩
  ·refine⟨⟨o,I.kIn p o hk,hc⟩,λa e=>?_⟩
   cases e;exact⟨o,I.kIn _ o hk,hd⟩
  ·obtain⟨_,_,_,o,e,⟨hc,_⟩,hd⟩:=I.hok p _ hk
   refine⟨⟨o,e,hc⟩,λa e2=>?_⟩;cases e2;exact⟨o,e,hd⟩
  ·have z:∃o,s.heap.get? p=some o/\o.ExactDict:=by
    rcases hk with ⟨kvs,hk⟩|⟨kvs,hk⟩
    ·obtain⟨_,_,_,_,o,_,_,e,ex,_⟩:=I.hok p _ hk
     exact⟨o,e,ex⟩
    ·obtain⟨_,_,_,_,o,_,_,e,ex,_⟩:=I.hok p _ hk
     exact⟨o,e,ex⟩
   obtain⟨o,e,ex⟩:=z;refine⟨⟨o,e,ex.1⟩,λa e2=>?_⟩;cases e2;exact⟨o,e,ex.2.1⟩
  ·obtain⟨o,_,_,_,e,ex,_⟩:=I.hok p _ hk
   refine⟨⟨o,e,ex.1⟩,λa e2=>?_⟩;cases e2;exact⟨o,e,ex.2.1⟩
 |_=>exact False.elim ty
def tBM (K:W.Frag) (T:String) (r:V->List V->Hp->VK->Prop) (to:TE) (t:TA):TE:=λσ H Q=>to σ H λx H1=>tyV K T x H1/\t σ H1 λxs H2=>r x xs H2 Q
variable {o e:Expr}{es:List Expr}{to:TE}{t:TA}{name:Str}{apos cpos:Pos}{T id:String}{r:V->List V->Hp->VK->Prop}
theorem Zsi (pa:PlainAttrs T) (slot:Slot T name id) (hty:typeOf (.builtin id)=pure (.type "method_descriptor")) (hm:MtR X id r) (ho:PE X o to) (ha:PA X (e::es) t)
  (hbase:attributeBase o name X.env (eval o X.env)=eval o X.env:=by rfl)
  (hfew:((backTo cpos (starEach (e::es) X.env)).all (λx=>!x.1) && (backToKw cpos (keywordEach [] X.env)).all (λx=>x.1.isSome)
   && decide ((e::es).length+([]:List Keyword).length+(if ([]:List Keyword).isEmpty then 0 else 1)<30))=true:=by rfl)
  (hline:(apos.endLine == cpos.line)=true:=by rfl) (hs:starEach (e::es) X.env=(false,eval e X.env)::starEach es X.env:=by rfl) (hplain:(backTo cpos (starEach es X.env)).any (·.1)=false:=by rfl) :
  PE X (.Call (.Attribute o name apos) (e::es) [] cpos) (tBM X.K T r to t):=by
 intro pins s σ H Q I h;refine wpAny_Call_method_late hbase hfew hline rfl (thn (ho pins s σ H _ I h) λv s1 ⟨x,H1,I1,r1,ty,q1⟩=>?_);obtain⟨h1,h2⟩:=Zrb I1 r1 ty;refine⟨T,id,pa,slot,hty,h1,h2,?_⟩;have hA:=ha cpos pins s1 σ H1 _ I1 q1;rw[hs]at hA ⊢;refine Calls.callWith_builtin (by show (false || (backTo cpos (starEach es X.env)).any (·.1))=false;rw[hplain] <;> rfl) (Calls.evalArgs_plain ?_)
 exact thn hA λus s2 ⟨vs,H2,I2,r2,q2⟩=>hm pins s2 σ H2 x vs v us Q I2 r1 r2 q2
end
end L2
namespace L2
open PySem PySem.Spec PyProof.Rows
def MtM (X:Cx) (id:String) (r:V->List V->Hp->VK->Prop):Prop:=
 ∀(pins:List (Addr × Obj)) (s:Shared) (σ:St) (H:Hp) (x:V) (xs:List V) (v:Value) (us:List Value) (Q:VK),Inv X pins σ H s->RelV x v->Vals xs us->r x xs H Q →
  wpAny (model X.prog X.w) X.A (call (.builtin id) (v::us)) (EP X pins σ Q) X.xe s
theorem Vals.one:∀{x:V}{us:List Value},Vals [x] us->∃u,us=[u]/\RelV x u:=by
 intro x us h;cases h with|cons r t=>cases t;exact⟨_,rfl,r⟩
theorem Vals.two:∀{x y:V}{us:List Value},Vals [x,y] us->∃u v,us=[u,v]/\RelV x u/\RelV y v:=by
 intro x y us h;cases h with|cons r t=>cases t with|cons q t=>cases t;exact⟨_,_,rfl,r,q⟩
theorem Vals.reverse {xs:List V}{us:List Value}(h:Vals xs us):Vals xs.reverse us.reverse:=by
 induction h with
 |nil=>exact .nil
 |cons r t ih=>rw[Wcr,Wcr];exact Vals.append ih (.cons r .nil)
section
variable {X:Cx}{pins:List (Addr × Obj)}{σ:St}{H:Hp}{s:Shared}{l b:Addr}{xs ys zs:List V}
theorem Inv.lset {its its':List Value}{n:Nat}{f:Array Value->Array Value}{t':Nat}(I:Inv X pins σ H s) (hH:H l=some (.lst xs))
  (e:s.heap.get? l=some { cls:=.type "list",data:=.seq its.toArray n }) (hf:f its.toArray=its'.toArray) (hv:Vals ys its') (hz:ys.length<=sizeLine) :
  Inv X pins σ (upd H l (.lst ys)) { s with heap:=s.heap.update l (Obj.mapSeq f),toks:=t' }:=by
 have q:=PySem.IsL.update e f;rw[hf]at q;refine I.write (x:=l) (e:=l) (by rw[hH];exact trivial) (.inl rfl) (λb' u hb hu=>(Wbr s.heap (Obj.mapSeq f) (Ne.symm hb)).trans hu) ⟨_,q⟩ ?_;exact⟨hz,its',_,hv,q⟩
theorem Inv.lnew {its:List Value}{t':Nat}(I:Inv X pins σ H s) (hv:Vals ys its) (hz:ys.length<=sizeLine) :
  Inv X pins σ (upd H s.heap.objs.size (.lst ys)) { s with heap:=s.heap.push { cls:=.type "list",data:=.seq its.toArray },toks:=t' }:=
 I.laid (λ_ _ q=>Waa _ q) (Waf _) ⟨hz,its,0,hv,Wal _ rfl⟩
theorem Inv.fresh (I:Inv X pins σ H s):H s.heap.objs.size=none:=I.hok.fresh (Waf _)
theorem Inv.lstM (I:Inv X pins σ H s) (hH:H l=some (.lst xs)):xs.length<=sizeLine/\∃(its:List Value) (n:Nat),Vals xs its/\xs.length=its.length/\s.heap.get? l=some { cls:=.type "list",data:=.seq its.toArray n }:=by
 obtain⟨z,its,n,r,e⟩:=I.hok l _ hH;exact⟨z,its,n,r,r.length,e⟩
end
section
variable {X:Cx}
def rAppend:V->List V->Hp->VK->Prop:=λx vs H Q=>∃l xs y,x=.ref l/\vs=[y]/\H l=some (.lst xs)/\xs.length<sizeLine/\Q .non (upd H l (.lst (xs++[y])))
theorem Zcs:MtM X "list.append" rAppend:=by
 intro pins s σ H x vs v us Q I rx rv h;obtain⟨l,xs,y,rfl,rfl,hH,hz,q⟩:=h;cases rx;obtain⟨u,rfl,ru⟩:=rv.one;obtain⟨z,its,n,r,hl,e⟩:=I.lstM hH;refine call_meets F.slot_list_append ⟨_,e,rfl⟩ F.entry_list_append (F.args_list_append_2 _ _) (PySem.list_append l its.toArray n u (by rw[Wam];omega)) ⟨e,?_⟩;refine⟨.non,_,I.lset (its':=its++[u]) hH e (by simp) (r.append (.cons ru .nil)) ?_,rfl,q⟩;rw[Wag,Wct];omega
def rCat:R2:=λx y H Q=>∃l b xs zs,x=.ref l/\y=.ref b/\H l=some (.lst xs)/\H b=some (.lst zs)/\xs.length+zs.length<=sizeLine/\∀p,H p=none->Q (.ref p) (upd H p (.lst (xs++zs)))
theorem Zqk:OpR X (binaryOp .Add) rCat:=by
 intro pins s σ H x y v u Q I rx ry h;obtain⟨l,b,xs,zs,rfl,rfl,hH,hB,hz,q⟩:=h;cases rx;cases ry;obtain⟨z,its,n,r,hl,e⟩:=I.lstM hH;obtain⟨z2,its2,n2,r2,hl2,e2⟩:=I.lstM hB;refine PySem.P.add_list e e2 ?_ (by rw[Wam,Wam];omega);have ea:its.toArray++its2.toArray=(its++its2).toArray:=by simp
 rw[ea];exact⟨.ref _,_,I.lnew (t':=s.toks) (r.append r2) (by rw[Wag];omega),rfl,q _ I.fresh⟩
end
end L2
namespace Att
open PySem PySem.W PySem.Calls PyProof.Rows
theorem Zfk {P:Params}{h:Heap}:∀(ns:List Int) (vs:List Value),WellAll P h vs (ns.map WData.int)->IntsAre vs ns:=by
 intro ns
 induction ns with
 |nil=>
  intro vs w;rw[List.map_nil]at w;cases w;exact .nil
 |cons n ns ih=>
  intro vs w;rw[Wbb]at w;cases w with
  |cons a b=>
   cases a;exact .cons _ _ (ih _ b)
theorem Zlk {l:OpenLaw}{n:Nat}(hn:l.most=some n) {P:Params}{h:Heap}{args:List WData}{vals:List Value}
  (hpre:l.row.toRowW.claim.pre args=true) (hwl:WellAll P h vals args) :
  ∃a vs ns,vals=[Value.ref a]/\args=[WData.list (ns.map WData.int)]/\h.get? a=some { cls:=.type "list",data:=.seq vs.toArray } /\ IntsAre vs ns/\ns.length<=n:=by
 have hsh:WShape.hasAll [] args [.list .int]=true:=(pre_splitW hpre).1;have hc:l.pre.holds [] { args:=args } = true:=(pre_splitW hpre).2;obtain⟨d,r,rfl,h1,h2⟩:=hasAllW_cons hsh;obtain rfl:=hasAllW_nil h2;obtain⟨xs,rfl,h3⟩:=hasW_list h1;obtain⟨ns,rfl⟩:=items_int h3;have hlen:ns.length<=n:=by
  unfold OpenLaw.pre at hc;have h4:(WTm.not (.lt (.lit (.int (n:Int))) (.len (.arg 0)))).holds [] { args:=[.list (ns.map .int)] } = true:=by
   have h4:=(holds_andW hc).1;rw[hn]at h4;exact h4
  have h5:=condW_of h4 (w_not (w_lt w_lit (w_len_list (w_arg rfl))));rw[Wab]at h5;refine Nat.le_of_not_lt λq=>?_;have q':(n:Int)<((ns.length:Nat):Int):=by omega
  first
   | (rw[decide_eq_true q']at h5;exact absurd h5 (by decide))
   | (simp at h5;omega)
 cases hwl with
 |cons w1 w2=>
  cases w2;cases w1 with
  |list ho hall=>exact⟨_,_,ns,rfl,rfl,ho,Zfk ns _ hall,hlen⟩
theorem Zl3 (l:OpenLaw) (args:List WData):l.row.toRowW.claim.post args (.bool true) args=true:=
 postW_of (r:=l.row.toRowW) (X:=(true == true))
  (show WShape.has [] (.bool true) .bool=true by first|rfl|decide|simp[WShape.has,WShape.arms,WShape.armsAll])
  (show (WTm.eq .res (.lit (.bool true))).value [] { args:=args,res:=some (.bool true),after:=args } = some (.bool (true == true)) from w_eq_bool (w_res rfl) w_lit) rfl
theorem attach_call {l:OpenLaw}{n:Nat}{q:Program}{loose:List Str}{XP:(Str->Option Value)->Heap->Prop}{YP:World->Heap->Prop}{d:DefRec}
  (hn:l.most=some n) (hdf:d.params.defaults=[])
  (call:∀(w:World) (s₀ s₁:Shared) (mg mb:Str->Option Value) (fa:Addr) (o:Obj) (pm cd doc:Value) (a:Addr) (vs:List Value) (ns:List Int),
   Ground q loose [] XP w s₀ mg mb s₁.heap->YP w s₁.heap →
   s₁.heap.get? fa=some o->o.data=.func (docDef d.name d.params d.body d.scope pm cd doc)->s₁.heap.CodeRec cd d.name->mg d.name=some (.ref fa) →
   s₁.heap.get? a=some { cls:=.type "list",data:=.seq vs.toArray } -> IntsAre vs ns->ns.length<=n->s₁.gens = #[] →
   codeAny (model l.prog w) callerA (.call (.ref fa) ⟨[.ref a],[]⟩) (λr s'=>r=.ok (.ret (.bool true))/\OldK s₁.heap s'.heap/\s'.os=s₁.os/\AllBare s'.gens) s₁) :
  WalkO q loose XP YP l.row.toRowW d [] (λf vs=>PySem.call f vs):=by
 intro w s₀ s₁ mg mb G Y fa o pm cd doc dV kV ho hd hcd hD hmg hg args vals as hpre hlay hrd hwl hlo;obtain rfl:dV=.none:=Dflts.none hD hdf;obtain rfl:kV=.none:=Dflts.noKw hD;obtain⟨a,vs,ns,rfl,rfl,hobj,hints,hlen⟩:=Zlk hn hpre hwl;refine enter_call (codeAny_mono (call w s₀ s₁ mg mb fa o pm cd doc a vs ns G Y ho (fd_plain hd) hcd hmg hobj hints hlen hg) λr s' hq=>?_);obtain⟨rfl,h2,h3,h4⟩:=hq;exact⟨.inl ⟨.bool true,.bool true,[],rfl,λ_=>rfl,.bool true,Zl3 l _,λ_=>⟨List.Pairwise.nil,λ_ hm=>(nomatch hm)⟩⟩,h2,h3,h4⟩
section
variable {prog:Program}{w:World}{A:Around}{E:Value->Shared->Prop}{s:Shared}{K:Frag}
end
end Att
namespace L2
open PySem PySem.Spec PyProof.Rows
theorem Zd6:∀{vs:List Value}{ns:List Int},IntsAre vs ns->Vals (ns.map V.int) vs
 |_,_,.nil=>.nil
 |_,_,.cons n t h=>.cons ⟨t,rfl⟩ (Zd6 h)
def Only (H:Hp):Prop:=∀b,H b=none\/∃o xs,H b=some (.frz o (.lst xs))
theorem Zmy {P:Program}{w:World}{K:W.Frag}{mg mb:Str->Option Value}{CX:CXT}{k:Nat}{fa a:Addr}{fd:FuncData}{x:Str}{sp:Sp}{s₁:Shared}{vs:List Value}{ns:List Int}
  (KX:K.In s₁.heap) (hns:s₁.heap.Ns mainGlobals mg) (hb:s₁.heap.Ns builtinsNs mb) (hbb:∀x:Str,x ≠ "__name__" -> mb x=bootBuiltins x) (hlim:s₁.heap.NoLimit) (hg:s₁.gens = #[])
  (ha:s₁.heap.get? a=some { cls:=.type "list",data:=.seq vs.toArray }) (hi:IntsAre vs ns) (hl:ns.length<=sizeLine) (hr:Room k callerA)
  (F:∀base:Heap,K.In base->base.Ns mainGlobals mg->FnOk P w K mg base CX k fa fd [x] sp) (hbind:∀(s:Shared) (u:Value),BindsTo s fd ⟨[u],[]⟩ [(x,u)])
  (hsp:∀H:Hp,Only H->SqL K H a (ns.map V.int)->sp [.ref a] H (λv _=>v=.bl true) λ_ _ _=>False)
  (hCX:∀H e s',CX [] H s₁ (λ_ _ _=>False) e s' -> False) :
  codeAny (model P w) callerA (.call (.ref fa) ⟨[.ref a],[]⟩) (λr s'=>r=.ok (.ret (.bool true))/\OldK s₁.heap s'.heap/\s'.os=s₁.os/\AllBare s'.gens) s₁:=by
 have rv:=Zd6 hi;have lenV:=hi.length
 -- from an abstract heap in which nothing but the script may be tracked
 have core:∀H:Hp,Only H->SqL K H a (ns.map V.int)->HOk P w H s₁.heap->(∀b,H b≠none->b=a)->(H a≠none->K.lookup a=none) →
   codeAny (model P w) callerA (.call (.ref fa) ⟨[.ref a],[]⟩) (λr s'=>r=.ok (.ret (.bool true))/\OldK s₁.heap s'.heap/\s'.os=s₁.os/\AllBare s'.gens) s₁:=by
  intro H hO hS hok hA hK;have base_of:∀{b:Addr}{o:Obj},s₁.heap.get? b=some o->H b=none->(hidT s₁.heap H).get? b=some o:=λe n=>Zni e n;have noA:∀{b:Addr}{o:Obj}{es:Array DictEntry}{ep:Nat},s₁.heap.get? b=some o->o.data=.dict es ep->H b=none:=λ{b o es ep} e d=>by
   cases q:H b with
   |none=>rfl
   |some u=>
    have e':b=a:=hA b (by rw[q];simp);subst e';rw[ha]at e;cases e;have d':Data.seq vs.toArray _=Data.dict es ep:=d;cases d'
  have nsK:∀{b:Addr}{m:Str->Option Value},s₁.heap.Ns b m->(hidT s₁.heap H).Ns b m:=λ{b m} ⟨o,es,ep,e,d,r⟩=>⟨o,es,ep,base_of e (noA e d),d,r⟩;have hKb:K.In (hidT s₁.heap H):=λb o e=>base_of (KX b o e) (by
   cases q:H b with
   |none=>rfl
   |some u=>
    have e':b=a:=hA b (by rw[q];simp);subst e';rw[hK (by rw[q];simp)]at e;cases e)
  have hM:Mod K mg (hidT s₁.heap H):=⟨hKb,nsK hns,⟨mb,nsK hb,hbb⟩,let ⟨mc,h1,h2⟩:=hlim; ⟨mc,nsK h1,h2⟩⟩;have e0:Env0 P w K mg (hidT s₁.heap H) callerA [] s₁ H:=⟨rfl,hM,λb o e=>Zo6 e,Nat.le_of_eq (Zl7 _ _),trivial,λb hb=>absurd (show b∈([]:List Addr) from hb) (by simp),hok,.of_eq hg⟩;refine codeAny_mono ((F _ hKb (nsK hns)).run callerA [] s₁ H ⟨[.ref a],[]⟩ [.ref a] [.ref a] _ _ hr e0 (hbind s₁ (.ref a)) (.cons rfl .nil) (hsp H hO hS)) λr s' h=>?_;cases r with
  |error e=>exact(hCX H e s' h).elim
  |ok fl=>
   cases fl with
   |next=>exact False.elim h
   |brk=>exact False.elim h
   |cont=>exact False.elim h
   |ret u=>
    obtain⟨v,H',os,bare,un,hok',r',q⟩:=h;have q':v=.bl true:=q;subst q';obtain rfl:u=Value.bool true:=r';refine⟨rfl,OldK.of_keep λb o e=>?_,os,bare⟩;cases q:H b with
    |none=>exact un.keep b o e q (by intro z;exact absurd (show b∈([]:List Addr) from z) (by simp)) (by simp)
    |some u=>
     rcases hO b with z|⟨ob,xs,z⟩
     ·rw[q]at z;cases z
     ·have z2:=un.frzs b ob _ z
      obtain⟨e1,_⟩:=hok b _ z;obtain⟨e2,_⟩:=hok' b _ z2;rw[e]at e1;cases e1;exact e2
 cases hk:K.lookup a with
 |some o=>
  -- the script is one of the module's own objects
  have e:=KX a o hk;rw[ha]at e;cases e;refine core (λ_=>none) (λ_=>.inl rfl) (.inr ⟨_,vs.toArray,_,hk,rfl,rfl,rfl,by rw[Wam,lenV];exact hl,by simpa using rv⟩) (λb u z=>by have z':(none:Option HO)=some u:=z;cases z') (λb z=>absurd rfl z) λz=>absurd rfl z
 |none=>
  refine core (λb=>if b=a then some (.frz { cls:=.type "list",data:=.seq vs.toArray } (.lst (ns.map V.int))) else none) (λb=>?_) (.inl (.inr ⟨{ cls:=.type "list",data:=.seq vs.toArray },if_pos rfl⟩)) (λb u z=>?_) (λb z=>?_) λ_=>hk
  ·by_cases hb:b=a
   ·exact .inr ⟨_,_,if_pos hb⟩
   ·exact .inl (if_neg hb)
  ·by_cases hb:b=a
   ·have z':=(if_pos hb).symm.trans z
    cases z';subst hb;exact⟨ha,by rw[Wab];exact hl,vs,_,rv,ha⟩
   ·have z':=(if_neg hb).symm.trans z
    cases z'
  ·by_cases hb:b=a
   ·exact hb
   ·exact absurd (if_neg hb) z
end L2
namespace L2
open PySem PySem.Spec PyProof.Rows
theorem walk_of {l:PySem.W.OpenLaw}{n k:Nat}{q:Program}{loose:List Str}{XP:(Str->Option Value)->Heap->Prop}{YP:World->Heap->Prop}{d:DefRec}{K:Params->W.Frag}{CX:World->CXT}{sp:World->Sp}{x:Str}
  (hn:l.most=some n) (hn2:n<=sizeLine) (hdf:d.params.defaults=[]) (hr:Room k callerA)
  (hY:∀(w:World) (h:Heap),YP w h->(K w.params).In h)
  (F:∀(w:World) (mg:Str->Option Value) (fa:Addr) (h:Heap),(K w.params).In h->h.Ns mainGlobals mg->mg d.name=some (.ref fa) →
   ∃fd:FuncData,(∀(s:Shared) (u:Value),BindsTo s fd ⟨[u],[]⟩ [(x,u)]) ∧
    ∀base:Heap,(K w.params).In base->base.Ns mainGlobals mg->FnOk l.prog w (K w.params) mg base (CX w) k fa fd [x] (sp w))
  (hsp:∀(w:World) (H:Hp) (a:Addr) (ns:List Int),ns.length<=n->Only H->SqL (K w.params) H a (ns.map V.int)->sp w [.ref a] H (λv _=>v=.bl true) λ_ _ _=>False)
  (hCX:∀(w:World) (H:Hp) (s:Shared) (e:Value) (s':Shared),CX w [] H s (λ_ _ _=>False) e s' -> False) :
  PySem.W.WalkO q loose XP YP l.row.toRowW d [] (λf vs=>PySem.call f vs):=by
 refine Att.attach_call hn hdf λw s₀ s₁ mg mb fa o pm cd doc a vs ns G Y ho hd hcd hmg hobj hints hlen hg=>?_;have KX:=hY w _ Y;obtain⟨fd,hb,hF⟩:=F w mg fa _ KX G.T.g hmg;exact Zmy KX G.T.g G.T.b G.T.builtins G.T.nolimit hg hobj hints (Was hlen hn2) hr hF hb (λH hO hS=>hsp w H a ns hlen hO hS) λH e s'=>hCX w H s₁ e s'
end L2
namespace L2
open PySem PySem.Spec PyProof.Rows
def defArgs (s:Stmt):Arguments:=match s with
 |.FunctionDef _ a _ _ _ _ _ _ _ _=>a
 |_=>{ posonlyargs:=[],args:=[],vararg:=none,kwonlyargs:=[],kw_defaults:=[],kwarg:=none,defaults:=[] }
def defBody (s:Stmt):List Stmt:=match s with
 |.FunctionDef _ _ b _ _ _ _ _ _ _=>b
 |_=>[]
def defScope (s:Stmt):Scope:=match s with
 |.FunctionDef _ _ _ _ _ _ sc _ _ _=>sc
 |_=>{ kind:=.function,names:=[],isGenerator:=false,isCoroutine:=false }
abbrev CX0:CXT:=λ_ _ _ _ _ _=>False
abbrev E0:XK:=λ_ _ _=>False
theorem pass0 {X:Cx}:Passes CX0 X E0:=λ_ _ _ _ _ _ _ h=>h.elim
structure Fun (K:W.Frag) (x qual:Str) (st:Stmt) (f:Addr) (fd:FuncData):Prop where
 ex:∃(oc:Value) (od:Option Addr) (kV doc pm:Value) (an:Option Addr) (cdv ct:Value) (osl:Array (Option Value)),
  fd=W.fnOf x qual (defArgs st) (defBody st) (defScope st) .none kV doc pm an cdv ct/\K.lookup f=some ⟨oc,od,.func fd,osl⟩ /\ W.codeIn K cdv qual=true
 kp:W.keepIn K (.ref f)=true
section
variable {P:Program}{w:World}{K:W.Frag}{mg:Str->Option Value}{base:Heap}
theorem Fun.ok {x qual:Str}{st:Stmt}{f:Addr}{fd:FuncData}{N ps:List Str}{k:Nat}{sp:Sp}(F:Fun K x qual st f fd) (S:FnScope N ps (defScope st)) (len:∀vs H Q E,sp vs H Q E->vs.length=ps.length)
  (hbody:∀(cdv:Value) (A:Around) (outer:List Env) (s:Shared) (H:Hp) (vs:List V) (Q:VK) (E:XK),Room k (A.deeper (envOfC qual (defScope st) s.heap.objs.size f cdv))->sp vs H Q E →
   ∃t,PSs (cxOf CX0 P w K mg base N qual (defScope st) f cdv A outer s H E).nox (defBody st) t/\t { nx:=λ_ H'=>Q .non H',rt:=Q } (start N vs) H):FnOk P w K mg base CX0 (k+1) f fd ps sp:=by
 obtain⟨oc,od,kV,doc,pm,an,cdv,ct,osl,rfl,lk,hcd⟩:=F.ex;refine Zsl lk hcd S len λA outer s H vs Q E hr hsp=>?_;obtain⟨t,h,q⟩:=hbody cdv A outer s H vs Q E hr hsp;exact⟨t,h.nox,q⟩
theorem Fun.binds {x qual:Str}{st:Stmt}{f:Addr}{fd:FuncData}{ps:List Str}(F:Fun K x qual st f fd)
  (h:∀(kV doc pm:Value) (an:Option Addr) (cdv ct:Value) (us:List Value),us.length=ps.length->bindArgs (W.fnOf x qual (defArgs st) (defBody st) (defScope st) .none kV doc pm an cdv ct) ⟨us,[]⟩=pure (ps.zip us)):Binds K fd ps []:=by
 obtain⟨oc,od,kV,doc,pm,an,cdv,ct,osl,rfl,lk,hcd⟩:=F.ex;exact .all (h kV doc pm an cdv ct)
theorem Zqd {x qual:Str}{st:Stmt}{f:Addr}{oc:Value}{od an:Option Addr}{osl:Array (Option Value)}{kV doc pm cdv ct:Value}(l:K.lookup f=some ⟨oc,od,.func (W.fnOf x qual (defArgs st) (defBody st) (defScope st) .none kV doc pm an cdv ct),osl⟩)
  (c:W.codeIn K cdv qual=true) (k:W.keepIn K (.ref f)=true):Fun K x qual st f (W.fnOf x qual (defArgs st) (defBody st) (defScope st) .none kV doc pm an cdv ct):=⟨⟨oc,od,kV,doc,pm,an,cdv,ct,osl,rfl,l,c⟩,k⟩
end
theorem Zcu {A:Around}{k:Nat}(hr:Room k A):A.units+1<cLine:=Wbj (Wco (by decide:1<=64) _) hr.units
theorem small1000 {n:Nat}(h:n<=1000):n<sizeLine:=Wbj h (by decide)
section
variable {X:Cx}
theorem pv (i:Nat) {x:Str}{pos:Pos}(hN:X.N[i]?=some x:=by rfl) (hv:Vis X.env.scope x:=by first|exact Or.inl rfl|exact Or.inr (Or.inl rfl)|exact Or.inr (Or.inr rfl)) (hd:(x == ("__debug__":Str))=false:=by decide)
  (hcd:(x == ("__classdict__":Str))=false:=by decide):PE X (.Name x pos) (tVar i):=Zqe hN hv hd hcd
end
theorem iteF {A B:Prop}(h:B):if false=true then A else B:=by
 rw[if_neg Wai];exact h
theorem iteT {A B:Prop}(h:A):if true=true then A else B:=by
 rw[if_pos rfl];exact h
theorem ite2 {c A B:Prop}[Decidable c] (h1:c->A) (h2:¬ c->B):if c then A else B:=by
 by_cases h:c
 ·rw[if_pos h]
  exact h1 h
 ·rw[if_neg h]
  exact h2 h
def Same (H H':Hp):Prop:=∀b o,H b=some o->H' b=some o
theorem Same.refl (H:Hp):Same H H:=λ_ _ h=>h
theorem Same.trans {H H1 H2:Hp}(a:Same H H1) (b:Same H1 H2):Same H H2:=λc o h=>b c o (a c o h)
theorem Same.seq {K:W.Frag}{H H':Hp}{a:Addr}{xs:List V}(e:Same H H') (h:SqL K H a xs):SqL K H' a xs:=by
 rcases h with (h|⟨o,h⟩)|h
 ·exact .inl (.inl (e _ _ h))
 ·exact .inl (.inr ⟨o,e _ _ h⟩)
 ·exact .inr h
end L2
namespace L2
open PySem PySem.Spec PyProof.Rows
section
variable {κ:Type}[DecidableEq κ]
def valV (kvs:List (κ × V)) (k:κ):Option V:=(kvs.find? λkv=>decide (kv.1=k)).map (·.2)
def putK (kvs:List (κ × V)) (k:κ) (v:V):List (κ × V):=
 if (kvs.any λkv=>decide (kv.1=k))=true then kvs.map (λkv=>if kv.1=k then (kv.1,v) else kv) else kvs++[(k,v)]
theorem Zgu {p:κ × V}{r:List (κ × V)}{k:κ}(e:p.1=k):valV (p::r) k=some p.2:=by simp[valV,Wb9,e]
theorem Zgn {p:κ × V}{r:List (κ × V)}{k:κ}(e:¬ p.1=k):valV (p::r) k=valV r k:=by simp[valV,Wb9,e]
theorem Zjc (k:κ):∀kvs:List (κ × V),(kvs.any λkv=>decide (kv.1=k))=(valV kvs k).isSome
 |[]=>rfl
 |p::r=>by
  rw[Wci];by_cases e:p.1=k
  ·simp only[Zgu e,decide_eq_true e,Bool.true_or,Option.isSome_some]
  ·rw[Zgn e,decide_eq_false e,Bool.false_or];exact Zjc k r
theorem Zfy (kvs:List (κ × V)) (k:κ) (v:V):(putK kvs k v).length<=kvs.length+1:=by
 unfold putK;split
 ·rw[Wab];omega
 ·rw[Wag,Wbk,List.length_nil];omega
theorem RelO.isSome_eq {o:Option V}{u:Option Value}(r:RelO o u):o.isSome=u.isSome:=by
 cases o with
 |none=>cases u with
  |none=>rfl
  |some _=>exact(show False from r).elim
 |some _=>cases u with
  |none=>exact(show False from r).elim
  |some _=>rfl
theorem KV.val {kvs:List (κ × V)}{vs:List (κ × Value)}(r:KV kvs vs) (k:κ):RelO (valV kvs k) (valueAt vs k):=by
 unfold KV at r
 induction r with
 |nil=>exact True.intro
 |@cons p q ps qs h t ih=>
  obtain⟨h1,h2⟩:=h;by_cases e:p.1=k
  ·have e':q.1=k:=h1.symm.trans e
   have b:valueAt (q::qs) k=some q.2:=by simp[valueAt,Wb9,e']
   rw[Zgu e,b];exact h2
  ·have e':¬ q.1=k:=λz=>e (h1.trans z)
   have b:valueAt (q::qs) k=valueAt qs k:=by simp[valueAt,Wb9,e']
   rw[Zgn e,b];exact ih
theorem KV.any {kvs:List (κ × V)}{vs:List (κ × Value)}(r:KV kvs vs) (k:κ):(kvs.any λkv=>decide (kv.1=k))=vs.any λkv=>decide (kv.1=k):=by
 unfold KV at r
 induction r with
 |nil=>rfl
 |cons h t ih=>rw[Wci,Wci,ih,h.1]
theorem KV.repl {kvs:List (κ × V)}{vs:List (κ × Value)}(r:KV kvs vs) (k:κ) {y:V}{u:Value}(ry:RelV y u) :
  KV (kvs.map λkv=>if kv.1=k then (kv.1,y) else kv) (vs.map λkv=>if kv.1=k then (kv.1,u) else kv):=by
 unfold KV at r ⊢
 induction r with
 |nil=>exact .nil
 |@cons p q ps qs h t ih=>
  rw[Wbb,Wbb];refine .cons ?_ ih;obtain⟨h1,h2⟩:=h;by_cases e:p.1=k
  ·rw[if_pos e,if_pos (h1.symm.trans e)];exact⟨h1,ry⟩
  ·rw[if_neg e,if_neg (λz=>e (h1.trans z))];exact⟨h1,h2⟩
theorem KV.put {kvs:List (κ × V)}{vs:List (κ × Value)}(r:KV kvs vs) (k:κ) {y:V}{u:Value}(ry:RelV y u):KV (putK kvs k y) (stored vs k u):=by
 unfold putK stored;rw[r.any k];by_cases e:(vs.any λkv=>decide (kv.1=k))=true
 ·rw[if_pos e,if_pos e];exact r.repl k ry
 ·rw[if_neg e,if_neg e];exact Paired.snoc r ⟨rfl,ry⟩
theorem KV.length {kvs:List (κ × V)}{vs:List (κ × Value)}(r:KV kvs vs):kvs.length=vs.length:=Paired.length r
end
theorem Zl4 {P:Program}{w:World}{k:Key}{u:Value}(r:RelV (kV k) u):(mixKind P w).is k u=true:=by
 cases k with
 |inl i=>obtain⟨t,e⟩:=(show ∃t,u=Value.int i t from r);subst e;exact Ziu P w i t
 |inr x=>obtain⟨t,e⟩:=(show ∃t,u=Value.str x t from r);subst e;exact Zil P w x t
theorem Zhe {P:Program}{w:World}:∀{ks:List Key}{us:List Value},Vals (ks.map kV) us->ItemsAre (mixKind P w) ks us
 |[],_,r=>by rw[List.map_nil]at r;cases r;exact .nil
 |k::ks,_,r=>by
  rw[Wbb]at r;cases r with
  |cons h t=>exact .cons (Zl4 h) (Zhe t)
abbrev KT (H:Hp):List (List Key × V)->List (List Key × Addr × Value)->Prop:=Paired λp q=>p.1=q.1/\H q.2.1=some (.tup (p.1.map kV))/\RelV p.2 q.2.2
theorem KT.val {H:Hp}{kvs:List (List Key × V)}{xs:List (List Key × Addr × Value)}(r:KT H kvs xs) (k:List Key):RelO (valV kvs k) ((atKey xs k).map (·.2)):=by
 induction r with
 |nil=>exact True.intro
 |@cons p q ps qs h t ih=>
  obtain⟨h1,_,h2⟩:=h;by_cases e:p.1=k
  ·have e':q.1=k:=h1.symm.trans e
   have b:atKey (q::qs) k=some q.2:=by simp[atKey,Wb9,e']
   rw[Zgu e,b];exact h2
  ·have e':¬ q.1=k:=λz=>e (h1.trans z)
   have b:atKey (q::qs) k=atKey qs k:=by simp[atKey,Wb9,e']
   rw[Zgn e,b];exact ih
theorem KT.repl {H:Hp}{kvs:List (List Key × V)}{xs:List (List Key × Addr × Value)}(r:KT H kvs xs) (k:List Key) {y:V}{u:Value}(ry:RelV y u) :
  KT H (kvs.map λkv=>if kv.1=k then (kv.1,y) else kv) (xs.map (putAt k u)):=by
 induction r with
 |nil=>exact .nil
 |@cons p q ps qs h t ih=>
  rw[Wbb,Wbb];refine .cons ?_ ih;obtain⟨h1,h2,h3⟩:=h;unfold putAt;by_cases e:p.1=k
  ·rw[if_pos e,if_pos (h1.symm.trans e)];exact⟨h1,h2,ry⟩
  ·rw[if_neg e,if_neg (λz=>e (h1.trans z))];exact⟨h1,h2,h3⟩
theorem KT.put {H:Hp}{kvs:List (List Key × V)}{xs:List (List Key × Addr × Value)}(r:KT H kvs xs) (k:List Key) {b:Addr}{y:V}{u:Value}(hb:H b=some (.tup (k.map kV))) (ry:RelV y u) :
  KT H (putK kvs k y) (storedH xs k b u):=by
 have e:(kvs.any λkv=>decide (kv.1=k))=(atKey xs k).isSome:=by
  rw[Zjc,(r.val k).isSome_eq,Wcz]
 unfold putK storedH;rw[e];by_cases q:(atKey xs k).isSome=true
 ·rw[if_pos q,if_pos q];exact r.repl k ry
 ·rw[if_neg q,if_neg q];exact Paired.snoc r ⟨rfl,hb,ry⟩
theorem KT.keeps {H H':Hp}{kvs:List (List Key × V)}{xs:List (List Key × Addr × Value)}(r:KT H kvs xs) (ht:∀b ys,H b=some (.tup ys)->H' b=some (.tup ys)):KT H' kvs xs:=
 Paired.mapP r λ_ _ z=>⟨z.1,ht _ _ z.2.1,z.2.2⟩
section
variable {P:Program}{w:World}{H:Hp}{h:Heap}{a:Addr}
theorem Zq2 {u:HO}(ok:HOk P w H h) (e:Rd H a u):ObjOk P w H h a u:=e.ok ok
theorem Zjv {kvs:List (Key × V)}(ok:HOk P w H h) (e:Rd H a (.dK kvs)):kvs.length<=sizeLine/\(a == sysModules)=false/\∃vs,KV kvs vs/\h.DictOf (mixKind P w) a vs:=
 show ObjOk P w H h a (.dK kvs) from Zq2 ok e
theorem Zj5 {kvs:List (Key × V)}(ok:HOk P w H h) (e:H a=some (.dK kvs)):kvs.length<=sizeLine/\(a == sysModules)=false/\∃vs,KV kvs vs/\h.DictOf (mixKind P w) a vs:=Zjv ok (.inl e)
theorem Zhw {ks:List Key}(ok:HOk P w H h) (e:H a=some (.tup (ks.map kV))):(tupleKind (mixKind P w)).is h ks a:=by
 obtain⟨_,its,r,o,h1,⟨h2,n,h3⟩,_⟩:=(show ObjOk P w H h a (.tup (ks.map kV)) from ok a _ e);exact⟨o,its.toArray,n,h1,h2,h3,by simpa using Zhe r⟩
theorem Zme {kvs:List (List Key × V)}(ok:HOk P w H h) (e:Rd H a (.dT kvs)):kvs.length<=sizeLine/\(a == sysModules)=false ∧
  ∃xs,KT H kvs xs/\h.DictOfH (tupleKind (mixKind P w)) a xs:=by
 obtain⟨z,y,xs,r,o,es,ep,h1,h2,h3,h4,h5⟩:=(show ObjOk P w H h a (.dT kvs) from Zq2 ok e);refine⟨z,y,xs,r,o,es,ep,h1,h2,h3,h4,λx hx=>?_,h5⟩;have all:∀{l:List (List Key × V)}{m:List (List Key × Addr × Value)},KT H l m->∀x∈m,(tupleKind (mixKind P w)).is h x.1 x.2.1:=by
  intro l m q
  induction q with
  |nil=>intro x hx;exact nomatch hx
  |@cons p q ps qs hq t ih=>
   intro x hx;rcases Wan.mp hx with e|hx
   ·subst e
    exact Zhw ok (by rw[<- hq.1];exact hq.2.1)
   ·exact ih x hx
 exact all r x hx
theorem Zsd {kvs:List (List Key × V)}(ok:HOk P w H h) (e:H a=some (.dT kvs)):kvs.length<=sizeLine/\(a == sysModules)=false ∧
  ∃xs,KT H kvs xs/\h.DictOfH (tupleKind (mixKind P w)) a xs:=Zme ok (.inl e)
end
def DGet (H:Hp) (a:Addr) (y:V) (r:Option V):Prop:=
 (∃kvs k,Rd H a (.dK kvs)/\y=kV k/\r=valV kvs k)\/∃kvs k b,Rd H a (.dT kvs)/\y=.ref b/\H b=some (.tup (k.map kV))/\r=valV kvs k
def DPut (H:Hp) (a:Addr) (y v:V) (H':Hp):Prop:=
 (∃kvs k,H a=some (.dK kvs)/\y=kV k/\kvs.length<sizeLine/\H'=upd H a (.dK (putK kvs k v))) ∨
 ∃kvs k b,H a=some (.dT kvs)/\y=.ref b/\H b=some (.tup (k.map kV))/\kvs.length<sizeLine/\H'=upd H a (.dT (putK kvs k v))
section
variable {X:Cx}{pins:List (Addr × Obj)}{σ:St}{H:Hp}{s:Shared}{a:Addr}{y v:V}{u r:Value}{o:Option V}{A:Around}{E:Value->Shared->Prop}
theorem Inv.big (I:Inv X pins σ H s):sysModules<s.heap.objs.size:=by
 have h:mainGlobals<s.heap.objs.size:=(I.mod.glob.keeps I.bk).lt;exact Wc1 (by decide) h
theorem Zlj {Q:Value->Shared->Prop}(hu:A.units+1<cLine) (I:Inv X pins σ H s) (g:DGet H a y (some v)) (ry:RelV y u) (h:∀w' s',Inv X pins σ H s' -> RelV v w' -> Q w' s') :
  wpAny (model X.prog X.w) A (getItem (.ref a) u) Q E s:=by
 rcases g with ⟨kvs,k,e,ey,l⟩|⟨kvs,k,b,e,ey,eb,l⟩
 ·subst ey
  obtain⟨z,hd,vs,rel,dd⟩:=Zjv I.hok e;obtain⟨w',hw,rw'⟩:=RelO.some_of (v:=v) (o:=valueAt vs k) (by rw[l];exact rel.val k);exact wpAny_getItem_of (Zl4 ry) dd.mapOf hw (h w' _ (I.tok _) rw')
 ·subst ey
  cases (show u=Value.ref b from ry);obtain⟨z,hd,xs,rel,dd⟩:=Zme I.hok e;obtain⟨w',hw,rw'⟩:=RelO.some_of (v:=v) (o:=(atKey xs k).map (·.2)) (by rw[l];exact rel.val k);obtain⟨p,hp,hp2⟩:=Option.map_eq_some_iff.mp hw;refine wpAny_getItem_heap (tupleKind_room_in1 hu) (Zhw I.hok eb) dd hp ?_;rw[hp2];exact h w' _ (I.tok _) rw'
theorem d_in {Q:Value->Shared->Prop}(hu:A.units+1<cLine) (I:Inv X pins σ H s) (g:DGet H a y o) (ry:RelV y u) (h:∀s',Inv X pins σ H s' -> Q (.bool o.isSome) s') :
  wpAny (model X.prog X.w) A (compareOp .In u (.ref a)) Q E s:=by
 rcases g with ⟨kvs,k,e,ey,l⟩|⟨kvs,k,b,e,ey,eb,l⟩
 ·subst ey
  obtain⟨z,hd,vs,rel,dd⟩:=Zjv I.hok e;refine wpAny_in_of (Zl4 ry) hd dd.mapOf ?_;rw[<- (rel.val k).isSome_eq,<- l];exact h _ (I.tok _)
 ·subst ey
  cases (show u=Value.ref b from ry);obtain⟨z,hd,xs,rel,dd⟩:=Zme I.hok e;refine wpAny_in_heap (tupleKind_room_in1 hu) (Zhw I.hok eb) hd dd ?_;have q:=(rel.val k).isSome_eq;rw[Wcz]at q;rw[<- q,<- l];exact h _ (I.tok _)
theorem Zoy {Q:Value->Shared->Prop}(hu:A.units+1<cLine) (I:Inv X pins σ H s) (g:DGet H a y o) (ry:RelV y u) (h:∀s',Inv X pins σ H s' -> Q (.bool (!o.isSome)) s') :
  wpAny (model X.prog X.w) A (compareOp .NotIn u (.ref a)) Q E s:=by
 rcases g with ⟨kvs,k,e,ey,l⟩|⟨kvs,k,b,e,ey,eb,l⟩
 ·subst ey
  obtain⟨z,hd,vs,rel,dd⟩:=Zjv I.hok e;refine wpAny_notIn_of (Zl4 ry) hd dd.mapOf ?_;rw[<- (rel.val k).isSome_eq,<- l];exact h _ (I.tok _)
 ·subst ey
  cases (show u=Value.ref b from ry);obtain⟨z,hd,xs,rel,dd⟩:=Zme I.hok e;refine wpAny_notIn_heap (tupleKind_room_in1 hu) (Zhw I.hok eb) hd dd ?_;have q:=(rel.val k).isSome_eq;rw[Wcz]at q;rw[<- q,<- l];exact h _ (I.tok _)
theorem Zlv {h':Heap}{t':Nat}{ob:HO}(I:Inv X pins σ H s) (mu:Mut (H a)) (hs:Heap.SameBut a s.heap h') (he:∃q,h'.get? a=some q) (new:ObjOk X.prog X.w (upd H a ob) h' a ob) :
  Inv X pins σ (upd H a ob) { s with heap:=h',toks:=t' }:=
 I.write (x:=a) (e:=a) mu (.inl rfl) (λb q hb z=>(hs.2 b hb).trans z) he new
theorem Zrq {P:Program}{w:World}{H':Hp}{h':Heap}{kvs:List (Key × V)}{vs:List (Key × Value)}(z:kvs.length<=sizeLine) (hd:(a == sysModules)=false) (rel:KV kvs vs) (dd:h'.DictOf (mixKind P w) a vs) :
  ObjOk P w H' h' a (.dK kvs):=⟨z,hd,vs,rel,dd⟩
theorem Zk4 {H':Hp}{Q:Unit->Shared->Prop}(hu:A.units+1<cLine) (I:Inv X pins σ H s) (g:DPut H a y v H') (ry:RelV y u) (rv:RelV v r) (h:∀s',Inv X pins σ H' s' -> Q () s') :
  wpAny (model X.prog X.w) A (setItem (.ref a) u r) Q E s:=by
 rcases g with ⟨kvs,k,e,ey,l,eH⟩|⟨kvs,k,b,e,ey,eb,l,eH⟩
 ·subst ey eH
  obtain⟨z,hd,vs,rel,dd⟩:=Zj5 I.hok e;have hz:vs.length<=sizeLine:=by rw[<- rel.length];exact z
  have hl:(putK kvs k v).length<=sizeLine:=by have:=Zfy kvs k v;omega
  refine wpAny_setItem_pairs (hsz:=hz) (Zl4 ry) dd λh' dd' hs=>h _ ?_;have he:∃q,h'.get? a=some q:=let ⟨q,_,_,hq,_⟩:=dd'; ⟨q,hq⟩
  exact Zlv I (by rw[e];exact True.intro) hs he (Zrq hl hd (rel.put k rv) dd')
 ·subst ey eH
  cases (show u=Value.ref b from ry);obtain⟨z,hd,xs,rel,dd⟩:=Zsd I.hok e;have hz:xs.length<=sizeLine:=by rw[<- Paired.length rel];exact z
  have hl:(putK kvs k v).length<=sizeLine:=by have:=Zfy kvs k v;omega
  refine wpAny_setItem_heap (hsz:=hz) (tupleKind_room_in1 hu) (Zhw I.hok eb) dd λh' dd' hs=>h _ ?_;obtain⟨q,es,ep,hq,h2,h3,h4,_,h5⟩:=dd';refine Zlv I (by rw[e];exact True.intro) hs ⟨q,hq⟩ ⟨hl,hd,_,(rel.put k eb rv).keeps λc ys ec=>?_,q,es,ep,hq,h2,h3,h4,h5⟩;rw[Zas (Zsj ec e (λz=>nomatch z))];exact ec
end
section
variable {X:Cx}{pins:List (Addr × Obj)}{σ:St}{H:Hp}{s:Shared}{a:Addr}{kvs:List (Key × V)}{k:Key}{u:Value}{A:Around}{E:Value->Shared->Prop}
theorem Zr6 {Q:Value->Shared->Prop}(I:Inv X pins σ H s) (e:Rd H a (.dK kvs)) (h:∀t s',Inv X pins σ H s' -> Q (.int kvs.length t) s'):wpAny (model X.prog X.w) A (call (.builtin "len") [.ref a]) Q E s:=by
 obtain⟨z,hd,vs,rel,dd⟩:=Zjv I.hok e;refine call_len_dict hd dd (by rw[<- rel.length];rw[sizeLine_eq]at z;omega) ?_;rw[<- rel.length];exact h _ _ (I.tok _)
end
theorem Zia {X:Cx}{pins:List (Addr × Obj)}{σ:St}{H:Hp}{s:Shared}{a:Addr}{y:V}{o:Option V}(I:Inv X pins σ H s) (g:DGet H a y o):s.TypeIs (.ref a) "dict":=by
 rcases g with ⟨kvs,k,e,_,_⟩|⟨kvs,k,b,e,_,_,_⟩
 ·obtain⟨_,_,vs,_,dd⟩:=Zjv I.hok e
  exact dd.typeIs
 ·obtain⟨_,_,xs,_,dd⟩:=Zme I.hok e
  exact dd.typeIs
theorem Znv {P:Program}{w:World}{H:Hp}(h:Heap) (hb:sysModules<h.objs.size):ObjOk P w H (h.push { cls:=.type "dict",data:=.dict #[] }) h.objs.size (.dK []):=
 ⟨Wbq _,beq_eq_false_iff_ne.mpr (Ne.symm (War hb)),[],.nil,Heap.DictOf.new h⟩
def tDNewK:TE:=λ_ H Q=>∀p,H p=none->Q (.ref p) (upd H p (.dK []))
section
variable {X:Cx}{pos:Pos}
theorem Zgl:PE X (.Dict [] [] pos) tDNewK:=λpins s σ H Q I h=>
 wpAny_Dict_empty ⟨.ref s.heap.objs.size,_,I.laid (a:=s.heap.objs.size) (o:=.dK []) (t':=s.toks) (λ_ _ q=>Waa _ q) (Waf _) (Znv s.heap I.big),rfl,h _ (I.hok.fresh (Waf _))⟩
end
section
variable {X:Cx}{o e f:Expr}{apos cpos:Pos}{td ty tx:TE}
end
section
variable {X:Cx}{pins:List (Addr × Obj)}{σ:St}{H:Hp}{s:Shared}{a:Addr}{y:V}{u:Value}{A:Around}{E:Value->Shared->Prop}
end
end L2
namespace L2
open PySem PySem.Spec PyProof.Rows
section
variable {X:Cx}
theorem Zl9:CallR X (.builtin "len") (λxs H Q=>∃a kvs,xs=[V.ref a]/\H a=some (.dK kvs)/\Q (.int kvs.length) H):=by
 intro pins s σ H xs us Q I r h;obtain⟨a,kvs,rfl,ha,q⟩:=h;obtain⟨u,rfl,ru⟩:=vals1 r;cases ru;exact Zr6 I (.inl ha) λt s' I'=>⟨.int kvs.length,H,I',⟨t,rfl⟩,q⟩
end
def clOf (env:Env):List (Str × NameKind)->List (Str × Addr)->List (Str × Addr)
 |[],cs=>cs
 | (n,k)::r,cs=>if k == .free then (match env.cells.lookup n with
     |some a=>clOf env r ((n,a)::cs)
     |none=>clOf env r cs) else clOf env r cs
theorem Zfg {env:Env}:∀(names:List (Str × NameKind)) (cs:List (Str × Addr)),(∀n,(n,NameKind.free)∈names->∃a,env.cells.lookup n=some a) →
  (forIn names cs λ(x:Str × NameKind) (cs:List (Str × Addr))=>if (x.2 == .free)=true then (do let a ← cellOf env x.1;pure (ForInStep.yield ((x.1,a)::cs))) else pure (ForInStep.yield cs):Sem (List (Str × Addr)))=pure (clOf env names cs)
 |[],cs,_=>rfl
 | (n,k)::r,cs,h=>by
  rw[List.forIn_cons];have hr:∀m,(m,NameKind.free)∈r->∃a,env.cells.lookup m=some a:=λm hm=>h m (Wat _ hm);cases hk:k == NameKind.free with
  |false=>
   have e:clOf env ((n,k)::r) cs=clOf env r cs:=by simp[clOf,hk]
   rw[e,<- Zfg r cs hr];simp only[hk,Wbs,if_false];rfl
  |true=>
   have hk':k=.free:=by simpa using hk
   subst hk';obtain⟨a,ha⟩:=h n Wau;have e:clOf env ((n,.free)::r) cs=clOf env r ((n,a)::cs):=by simp[clOf,ha]
   have ec:cellOf env n=pure a:=by simp[cellOf,ha]
   rw[e,<- Zfg r ((n,a)::cs) hr];simp only[hk,if_true,ec];rfl
theorem Zcq {env:Env}{scope:Scope}(h:∀n,(n,NameKind.free)∈scope.names->∃a,env.cells.lookup n=some a):closureFor scope env=pure (clOf env scope.names []):=by
 rw[<- Zfg scope.names [] h];simp only[closureFor];exact Eq.trans (bind_pure _) rfl
theorem Zbo {env:Env}:∀(names:List (Str × NameKind)) (cs:List (Str × Addr)) {x:Str}{c:Addr},(∀y d,cs.lookup y=some d->env.cells.lookup y=some d)->(clOf env names cs).lookup x=some c->env.cells.lookup x=some c
 |[],cs,x,c,h,e=>h x c e
 | (n,k)::r,cs,x,c,h,e=>by
  unfold clOf at e;split at e
  ·split at e
   ·rename_i a ha
    refine Zbo r ((n,a)::cs) (λy d q=>?_) e;rw[Wbi]at q;split at q
    ·rename_i hy
     have hy':y=n:=by simpa using hy
     cases q;rw[hy'];exact ha
    ·exact h y d q
   ·exact Zbo r cs h e
  ·exact Zbo r cs h e
theorem Zea {env:Env}:∀(names:List (Str × NameKind)) (cs:List (Str × Addr)) {x:Str},(∃c,cs.lookup x=some c)->∃c,(clOf env names cs).lookup x=some c
 |[],cs,x,h=>h
 | (n,k)::r,cs,x,h=>by
  have h2:∀a,∃c,((n,a)::cs).lookup x=some c:=λa=>by
   rw[Wbi];split
   ·exact⟨_,rfl⟩
   ·exact h
  unfold clOf;split
  ·split
   ·exact Zea r _ (h2 _)
   ·exact Zea r cs h
  ·exact Zea r cs h
theorem Zdd {env:Env}:∀(names:List (Str × NameKind)) (cs:List (Str × Addr)) {x:Str},(x,NameKind.free)∈names->(∃a,env.cells.lookup x=some a)->∃c,(clOf env names cs).lookup x=some c
 |[],_,_,h,_=>by simp at h
 | (n,k)::r,cs,x,h,⟨a,ha⟩=>by
  rcases Wan.mp h with e|hm
  ·have e1:n=x:=(congrArg Prod.fst e).symm
   have e2:k=.free:=(congrArg Prod.snd e).symm;subst e1;subst e2;have e:clOf env ((n,.free)::r) cs=clOf env r ((n,a)::cs):=by simp[clOf,ha]
   rw[e];exact Zea r _ ⟨a,by simp⟩
  ·unfold clOf
   split
   ·split
    ·exact Zdd r _ hm ⟨a,ha⟩
    ·exact Zdd r _ hm ⟨a,ha⟩
   ·exact Zdd r _ hm ⟨a,ha⟩
def relab (osc scope:Scope):Scope:=
 { scope with names:=scope.names.map λ(n,k)=>if (k == .free && osc.kind == .function && osc.names.lookup n == some .cell) then (n,.cell) else (n,k) }
theorem Zg8 {osc scope:Scope}{x:Str}{k:NameKind}(hk:k=.cell\/k=.free) (hc:∀y∈scope.names,y.2≠.cell) (h:(relab osc scope).names.lookup x=some k):(x,NameKind.free)∈scope.names:=by
 have hm:=PySem.mem_of_lookup h;obtain⟨⟨n,j⟩,hy,e⟩:=Wa1.mp hm;dsimp only at e;split at e
 ·rename_i hj
  have e1:n=x:=congrArg Prod.fst e;have hj':j=.free:=by
   simp only[Wbd,beq_iff_eq]at hj;exact hj.1.1
  rw[<- e1,<- hj'];exact hy
 ·have e1:n=x:=congrArg Prod.fst e
  have e2:j=k:=congrArg Prod.snd e;rcases hk with z|z
  ·exact absurd (show ((n,j):Str × NameKind).2=.cell from e2.trans z) (hc _ hy)
  ·rw[<- e1,<- z,<- e2];exact hy
theorem Zeg {osc:Scope}{x:Str}:∀{names:List (Str × NameKind)},names.lookup x=some .free →
  (names.map λ(n,k)=>if (k == NameKind.free && osc.kind == .function && osc.names.lookup n == some .cell) then (n,NameKind.cell) else (n,k)).lookup x=some .cell ∨
  (names.map λ(n,k)=>if (k == NameKind.free && osc.kind == .function && osc.names.lookup n == some .cell) then (n,NameKind.cell) else (n,k)).lookup x=some .free
 |[],h=>by simp at h
 | (n,k)::r,h=>by
  have ih:=@Zeg osc x r;rw[Wbb];cases hx:x == n with
  |true=>
   simp only[Wbi,hx]at h;cases h;dsimp only;split
   ·left;simp[Wbi,hx]
   ·right;simp[Wbi,hx]
  |false=>
   simp only[Wbi,hx]at h;dsimp only;split
   ·simpa only[Wbi,hx] using ih h
   ·simpa only[Wbi,hx] using ih h
structure CompSc (osc:Scope) (oN:List Str) (scope:Scope) (fvs:List Str) (sel:List Nat):Prop where
 kind:scope.kind=.function
 nocell:∀y∈scope.names,y.2≠.cell
 names:∀y∈scope.names,y.2=.local->scope.names.lookup y.1=some .local
 free:∀y∈scope.names,y.2=.free->osc.names.lookup y.1=some .cell\/osc.names.lookup y.1=some .free
 len:fvs.length=sel.length
 fv:∀p∈fvs.zip sel,oN[p.2]?=some p.1/\scope.names.lookup p.1=some .free
def compCx (X:Cx) (scope:Scope) (N:List Str) (C:Addr) (s:Shared) (H:Hp) (ex:List Addr) (pn:List (Addr × Obj)):Cx where
 prog:=X.prog
 w:=X.w
 K:=X.K
 mg:=X.mg
 base:=X.base
 A:=X.A
 N:=N
 s₀:=s
 H₀:=H
 env:=compEnvC scope (clOf X.env scope.names []) C X.env
 outer:=X.stack
 stack:=X.stack
 ex:=ex
 fn:=λ_=>false
 calm:=X.calm
 pn:=pn
 xe:=λ_ _=>False
def compSt (n:Nat) (sel:List Nat) (σ:St):St:=Waw n none++sel.map λi=>(σ[i]?).getD none
section
variable {X:Cx}{pins:List (Addr × Obj)}{σ:St}{H:Hp}{s:Shared}{fp:List Addr}{scope:Scope}{tgs fvs:List Str}{sel:List Nat}
theorem Zef (S:CompSc X.env.scope X.N scope fvs sel) (ok:X.Ok):∀n,(n,NameKind.free)∈scope.names->∃a,X.env.cells.lookup n=some a:=λn hn=>
 ok.has n (S.free _ hn rfl)
theorem Zpf (S:CompSc X.env.scope X.N scope fvs sel) (N:List Str) (I:Inv X pins σ H s) (hf:∀b∈fp,FpOk X pins H b) (hlt:∀b∈fp,b<s.heap.objs.size):(compCx X scope N s.heap.objs.size s H fp (X.pn++pins)).Ok where
 mod:=I.ok.mod
 kind:=S.kind
 glob:=I.ok.glob
 blt:=I.ok.blt
 above:=Waf _
 inj:=λx y c h1 h2=>I.ok.inj x y c (Zbo _ _ (λ_ _ z=>by simp at z) h1) (Zbo _ _ (λ_ _ z=>by simp at z) h2)
 has:=λx hx=>by
  have hm:(x,NameKind.free)∈scope.names:=by
   rcases hx with z|z
   ·exact Zg8 (osc:=X.env.scope) (.inl rfl) S.nocell z
   ·exact Zg8 (osc:=X.env.scope) (.inr rfl) S.nocell z
  exact Zdd scope.names [] hm (Zef S I.ok x hm)
 cab:=λx c h _=>by cases h
 hd:=I.ok.hd
 frames:=I.ok.frames
 stk:=.inl rfl
 exf:=λb hb=>⟨War (hlt b hb),λx c e=>(hf b hb).2.2.2.2.1 x c (Zbo _ _ (λ_ _ z=>by simp at z) e)⟩
 bs:=I.bs
 bsz:=Was I.ok.bsz I.sz
 noex:=λb o e hb=>by
  rcases(hf b hb).2.2.2.1 with z|z
  ·exact I.ok.noex b o e z
  ·exact absurd (Wa2 (Wak e) (Was I.ok.bsz z)) (Wcb _)
 exfs:=λb hb z=>by
  rcases Wan.mp (I.stkSub b z) with e|z
  ·exact(hf b hb).2.1 e
  ·exact(hf b hb).2.2.1 z
 funs:=I.stack
 frf:=I.stkFree
theorem Znd (S:CompSc X.env.scope X.N scope fvs sel) (I:Inv X pins σ H s) (hf:∀b∈fp,FpOk X pins H b) (hlt:∀b∈fp,b<s.heap.objs.size) {h':Heap}{tk:Nat}{m:Str->Option Value}
  (hns:h'.Ns s.heap.objs.size m) (old:∀b o,s.heap.get? b=some o->h'.get? b=some o) :
  Inv (compCx X scope (tgs++fvs) s.heap.objs.size s H fp (X.pn++pins)) [] (compSt tgs.length sel σ) H { s with heap:=h',toks:=tk } where
 ok:=Zpf S _ I hf hlt
 os:=rfl
 bare:=I.bare
 base:=Un.kept old
 loc:=by
  refine⟨m,hns,λi x v h1 h2 h3=>?_⟩;have h1:(tgs++fvs)[i]?=some x:=h1;unfold compSt at h2;by_cases hi:i<tgs.length
  ·rw[Wa3 (by simpa using hi),Wbx,if_pos hi]at h2
   cases h2
  ·have hi':tgs.length<=i:=Nat.le_of_not_lt hi
   rw[Wap (by simpa using hi'),Wad,Wba]at h2;rw[Wap hi']at h1;cases hj:sel[i-tgs.length]? with
   |none=>rw[hj]at h2;cases h2
   |some j=>
    rw[hj]at h2;have h2:(σ[j]?).getD none=some v:=by simpa using h2
    have hz:(x,j)∈fvs.zip sel:=by
     refine Wah (i:=i-tgs.length) ?_;rw[Wbt];exact⟨h1,hj⟩
    obtain⟨hN,hfr⟩:=S.fv _ hz;have hσ:σ[j]?=some (some v):=by
     cases q:σ[j]? with
     |none=>rw[q]at h2;cases h2
     |some o=>rw[q]at h2;exact congrArg some h2
    have hko:X.env.scope.names.lookup x=some .cell\/X.env.scope.names.lookup x=some .free:=S.free (x,.free) (PySem.mem_of_lookup hfr) rfl;obtain⟨m0,hn0,hl0⟩:=I.loc;obtain⟨u,r,l⟩:=hl0 j x v hN hσ (.inr hko);refine⟨u,r,.inr ⟨Zeg hfr,?_⟩⟩;rcases l with ⟨hk,_⟩|⟨_,c,hc,hcell⟩
    ·have hk:X.env.scope.names.lookup x=some .local:=hk
     rcases hko with z|z <;> (rw[hk]at z;cases z)
    ·obtain⟨c',hc'⟩:=Zdd scope.names [] (PySem.mem_of_lookup hfr) ⟨c,hc⟩
     have e:=Zbo scope.names [] (λ_ _ z=>by simp at z) hc';rw[hc]at e;cases e;obtain⟨o,ho,hd⟩:=hcell;exact⟨c,hc',o,old _ _ ho,hd⟩
 cell:=λx c e=>by
  obtain⟨v,o,ho,hd⟩:=I.cell x c (Zbo _ _ (λ_ _ z=>by simp at z) e);exact⟨v,o,old _ _ ho,hd⟩
 free:=I.hok.fresh (Waf _)
 freeC:=λx c e=>I.freeC x c (Zbo _ _ (λ_ _ z=>by simp at z) e)
 pin:=λp hp=>by
  have hp:p∈(X.pn++pins)++[]:=hp;rw[Wbh]at hp;obtain⟨e,n,ne,nf,d⟩:=I.pin p hp;refine⟨old _ _ e,n,War (Wak e),λz=>?_,d⟩;rcases Wan.mp (I.stkSub p.1 z) with q|q
  ·exact ne q
  ·exact nf q
 hok:=I.hok.kept old
 len:=by
  unfold compSt;show _=(tgs++fvs).length;rw[Wag,Wag,Wba,Wab,S.len]
theorem Zk0 {N:List Str}{σ':St}{H':Hp}{s':Shared}{h':Heap}(I:Inv X pins σ H s) (hf:∀b∈fp,FpOk X pins H b)
  (J:Inv (compCx X scope N s.heap.objs.size s H fp (X.pn++pins)) [] σ' H' s') (sb:Heap.SameBut s.heap.objs.size s'.heap h'):Inv X pins σ H' { s' with heap:=h' }:=by
 have B:Un (frs X.stack) fp H H' s.heap s'.heap:=J.base;have ne:∀b o,s.heap.get? b=some o->b≠s.heap.objs.size:=λb o e=>War (Wak e);have fr:H' s.heap.objs.size=none:=J.free;refine I.call' (s':={ s' with heap:=h' }) (ch:=fp) J.os ⟨λb o e n h1 h2=>?_,λb o e n h1 h2=>?_,B.free,λb o e h2=>?_,B.tups,B.frzs,B.tbls⟩ (λb ob e=>?_) J.bare λb hb=>?_
 ·exact(sb.2 b (ne b o e)).trans (B.keep b o e n h1 h2)
 ·obtain⟨sl,q⟩:=B.slot b o e n h1 h2
  exact⟨sl,(sb.2 b (ne b o e)).trans q⟩
 ·obtain⟨o',q⟩:=B.there b o e h2
  exact⟨o',(sb.2 b (ne b o e)).trans q⟩
 ·refine(J.hok b ob e).stay (λc w' hc q=>(sb.2 c ?_).trans q) (λ_ q=>q) λ_ _ q=>q
  intro z;rcases hc with hc|hc
  ·rw[<- hc,z,fr]at e;cases e
  ·rw[z,fr]at hc;cases hc
 ·exact⟨(hf b hb).2.2.2.1,(hf b hb).2.1,(hf b hb).2.2.2.2.1,(hf b hb).2.2.2.2.2⟩
end
def PTs (X:Cx) (ifs:List Expr) (t:TT):Prop:=
 ∀(pins:List (Addr × Obj)) (s:Shared) (σ:St) (H:Hp) (Q:Bool->Hp->Prop),Inv X pins σ H s->t σ H Q →
  wpAny (model X.prog X.w) X.A (forIn ifs true λc r=>if r=true then do let ok ← isTrue c X.env (eval c X.env);pure (ForInStep.yield ok) else pure (ForInStep.yield r)) (TP X pins σ Q) X.xe s
def tTrue:TT:=λ_ H Q=>Q true H
theorem Zck {X:Cx}:PTs X [] tTrue:=λpins s σ H Q I h=>wpAny_tests_nil ⟨H,I,h⟩
theorem Zih {X:Cx}{c:Expr}{t:TT}(h:PT X c t):PTs X [c] t:=λpins s σ H Q I hq=>wpAny_tests_one (h pins s σ H Q I hq)
def tComp (n:Nat) (sel:List Nat) (wi:TI) (g:TG) (tc:TT) (te:TE):TE:=λσ H Q=>wi σ H λJ H1=>∀acc,H1 acc=none->∃W:Nat->Nat->St->Hp->Prop,
 (∃m,W 0 m (compSt n sel σ) (upd H1 acc (.lst [])))/\∀i m σ' H',W i m σ' H' →
  (J.stop i H' /\ Q (.ref acc) H')\/(J.go i H' /\ ∃N:St->Hp->Prop,(∀σ2 H2,N σ2 H2->∃m',m'<m/\W (i+1) m' σ2 H2) ∧
   ∀x H2,J.yld i H' x H2->g x σ' H2 λσ2 H3=>tc σ2 H3 λb H4=>if b=true then te σ2 H4 λy H5=>∃ys,H5 acc=some (.lst ys)/\ys.length<sizeLine/\N σ2 (upd H5 acc (.lst (ys++[y]))) else N σ2 H4)
section
variable {X:Cx}
theorem Zhp {elt tg iter:Expr}{ifs:List Expr}{scope:Scope}{pos:Pos}{tgs fvs:List Str}{sel:List Nat}{g:TG}{tc:TT}{te:TE}(S:CompSc X.env.scope X.N scope fvs sel) {Cm:Cx->Prop}(hc:∀C s H ex pn,Cm (compCx X scope (tgs++fvs) C s H ex pn))
  (hg:∀C s H ex pn,PG (compCx X scope (tgs++fvs) C s H ex pn) tg g) (ht:∀C s H ex pn,PTs (compCx X scope (tgs++fvs) C s H ex pn) ifs tc) (he:∀C s H ex pn,PE (compCx X scope (tgs++fvs) C s H ex pn) elt te)
  {pins:List (Addr × Obj)}{σ:St}{s:Shared}{itv:Value}{Q:VK}{E:Value->Shared->Prop}{RR:Value->Addr->Result->Shared->Prop}
  (h2:PIEG Cm X pins σ tg (λJ H1=>∀acc,H1 acc=none->∃W:Nat->Nat->St->Hp->Prop,
   (∃m,W 0 m (compSt tgs.length sel σ) (upd H1 acc (.lst [])))/\∀i m σ' H',W i m σ' H' →
   (J.stop i H' /\ Q (.ref acc) H')\/(J.go i H' /\ ∃N:St->Hp->Prop,(∀σ2 H2,N σ2 H2->∃m',m'<m/\W (i+1) m' σ2 H2) ∧
   ∀x H2,J.yld i H' x H2->g x σ' H2 λσ2 H3=>tc σ2 H3 λb H4=>if b=true then te σ2 H4 λy H5=>∃ys,H5 acc=some (.lst ys)/\ys.length<sizeLine/\N σ2 (upd H5 acc (.lst (ys++[y]))) else N σ2 H4)) itv s)
  (fin:∀(s':Shared) (C acc:Addr) (H':Hp) (m:Str->Option Value),s'.heap.Ns C m->FpOk X pins H' C->(∀h',Heap.SameBut C s'.heap h' -> Inv X pins σ H' { s' with heap:=h' })->Q (.ref acc) H' -> RR (.ref acc) C (.ok .next) s') :
  wpAny (model X.prog X.w) X.A (newList []) (λacc s3=>wpAny (model X.prog X.w) X.A (newFunctionEnv scope X.env.globals (clOf X.env scope.names []) [] X.env.qual none .none (some X.env)) (λcenv s4=>
   codeAny (model X.prog X.w) X.A (.compStart (.ListComp elt [⟨tg,iter,ifs,0⟩] scope pos) 0 itv acc { cenv with scope:=relabel scope X.env }) (RR acc cenv.locals) s4) E s3) E s:=by
 obtain⟨it,fp,tn,J,H1,e,I,T,st,f2,h2⟩:=h2;subst e;have hlt:∀b∈fp,b<s.heap.objs.size:=λb hb=>let ⟨o,ho,_⟩:=T.obj 0 _ st b hb; Wak ho
 refine wpAny_newObj_type (wpAny_newFunctionEnv S.nocell (by intro y hy;simp at hy) (λh1 hns hsb=>?_) S.kind);dsimp only at hns hsb ⊢;have I3:Inv X pins σ (upd H1 s.heap.objs.size (.lst [])) { s with heap:=s.heap.push { cls:=.type "list",data:=.seq ([]:List Value).toArray },toks:=s.toks }:=I.lnew (its:=[]) .nil (by decide);have hacc:H1 s.heap.objs.size=none:=I.hok.fresh (Waf _);obtain⟨W,⟨m0,w0⟩,turn⟩:=h2 s.heap.objs.size hacc;generalize hs3:({ s with heap:=s.heap.push { cls:=.type "list",data:=.seq ([]:List Value).toArray },toks:=s.toks }:Shared)=s3 at I3;have hh3:s3.heap=s.heap.push { cls:=.type "list",data:=.seq ([]:List Value).toArray }:=by rw[<- hs3]
 have old3:∀b o,s.heap.get? b=some o->s3.heap.get? b=some o:=λb o q=>by rw[hh3];exact Waa _ q
 have hf3:∀b∈fp,FpOk X pins (upd H1 s.heap.objs.size (.lst [])) b:=λb hb=>⟨by rw[Zas (War (hlt b hb))];exact(f2 b hb).1,(f2 b hb).2⟩;have hlt3:∀b∈fp,b<s3.heap.objs.size:=λb hb=>by rw[hh3,Wbu];exact Wbp (hlt b hb)
 have tn3:tn 0 s3.heap:=T.keep 0 _ _ st λb hb o q=>old3 b o q;have old4:∀b o,s3.heap.get? b=some o->h1.get? b=some o:=λb o q=>by
  have hb:b≠s3.heap.objs.size:=War (Wak q);rw[hh3]at hb q;exact(hsb.2 b hb).trans (Waa _ q)
 have tn4:tn 0 h1:=T.keep 0 _ _ tn3 λb hb o q=>old4 b o q;have hC:(s.heap.push { cls:=.type "list",data:=.seq ([]:List Value).toArray }).objs.size=s3.heap.objs.size:=by rw[hh3]
 rw[hC]at hns;have J0:=Znd (tgs:=tgs) (tk:=s.toks+([]:List (Str × Value)).length) S I3 hf3 hlt3 hns old4;have es:({ s3 with heap:=h1,toks:=s.toks+([]:List (Str × Value)).length }:Shared) = { s with heap:=h1,toks:=s.toks+([]:List (Str × Value)).length }:=by rw[<- hs3]
 rw[es]at J0;generalize hY:compCx X scope (tgs++fvs) s3.heap.objs.size s3 (upd H1 s.heap.objs.size (.lst [])) fp (X.pn++pins)=Y at J0;have hYp:Y.prog=X.prog:=by rw[<- hY];rfl
 have hYw:Y.w=X.w:=by rw[<- hY];rfl
 have hYK:Y.K=X.K:=by rw[<- hY];rfl
 have hYA:Y.A=X.A:=by rw[<- hY];rfl
 have hYc:Cm Y:=by rw[<- hY];exact hc _ _ _ _ _
 have hYx:Y.xe=λ_ _=>False:=by rw[<- hY];rfl
 have hYe:Y.env=compEnvC scope (clOf X.env scope.names []) s3.heap.objs.size X.env:=by rw[<- hY];rfl
 have stat:∀{H':Hp},(∀b∈fp,H' b=none)->∀b∈fp,FpOk Y [] H' b:=λhn b hb=>by
  rw[<- hY];refine⟨hn b hb,War (hlt3 b hb),λz=>?_,.inl hb,λx c e=>?_,λp hp z=>?_⟩
  ·rcases Wan.mp (I3.stkSub b z) with q|q
   ·exact(hf3 b hb).2.1 q
   ·exact(hf3 b hb).2.2.1 q
  ·exact(hf3 b hb).2.2.2.2.1 x c (Zbo _ _ (λ_ _ z=>by simp at z) e)
  ·have hp:p∈(X.pn++pins)++[]:=hp
   rw[Wbh]at hp;exact(hf3 b hb).2.2.2.2.2 p hp z
 have loop:codeAny (model X.prog X.w) X.A (.compLoop (.ListComp elt [⟨tg,iter,ifs,0⟩] scope pos) 0 (.ref it) (.ref s.heap.objs.size) Y.env) (RR (.ref s.heap.objs.size) s3.heap.objs.size)
   { s with heap:=h1,toks:=s.toks+([]:List (Str × Value)).length }:=by
  refine codeAny_loop rfl (λn s'=>∃i σ' H',Inv Y [] σ' H' s' /\ tn i s'.heap/\(∀b∈fp,H' b=none)/\W i n σ' H') ?_ m0 ⟨0,_,_,J0,tn4,λb hb=>(hf3 b hb).1,w0⟩;rintro n s5 ⟨i,σ5,H5,I5,st5,fr5,w5⟩;show wpAny _ X.A ((compTurn (.ListComp elt [⟨tg,iter,ifs,0⟩] scope pos) 0 (.ref it) (.ref s.heap.objs.size) Y.env).onRaise (λx=>do noteFrame x Y.env;theTreesLotGoes x)) _ _ s5;refine wpAny_noted (wpAny_mono (E:=λ_ _=>False) ?_ (λ_ _ q=>q) λ_ _ z=>z.elim);rw[compTurn_list];refine wpAny_bind (wpAny_standAt (wpAny_bind ?_));rcases turn i n σ5 H5 w5 with ⟨stop,qn⟩|⟨go,N,hN,step⟩
  ·have D:=T.done Y hYp hYw hYK hYc i [] s5 σ5 H5 (λ_ _=>False) I5 (stat fr5) st5 stop
   rw[hYA]at D;refine thn D λr s6 ⟨hr,I6⟩=>?_;subst hr;refine wpAny_pure ?_;obtain⟨m6,hn6,_⟩:=I6.loc;rw[hYe]at hn6;refine fin s6 _ _ H5 m6 hn6 (I3.fpOk (Waf _) (by have z:=I6.free;rw[hYe]at z;exact z)) (λh' sb=>?_) qn;have I6':Inv (compCx X scope (tgs++fvs) s3.heap.objs.size s3 (upd H1 s.heap.objs.size (.lst [])) fp (X.pn++pins)) [] σ5 H5 s6:=by rw[hY];exact I6
   exact Zk0 I3 hf3 I6' sb
  ·have D:=T.item Y hYp hYw hYK hYc i [] s5 σ5 H5 (λ_ _=>False) I5 (stat fr5) st5 go
   rw[hYA]at D;refine thn D λr s6 ⟨u,hr,h6⟩=>?_;subst hr;refine wpAny_bind (thn h6 λ_ s7 ⟨x,H7,I7,r7,y7,st7,fr7⟩=>?_);have I7':=I7.pinned (stat fr7) (T.obj _ _ st7);have G:=hg s3.heap.objs.size s3 (upd H1 s.heap.objs.size (.lst [])) fp (X.pn++pins);have TT:=ht s3.heap.objs.size s3 (upd H1 s.heap.objs.size (.lst [])) fp (X.pn++pins);have EE:=he s3.heap.objs.size s3 (upd H1 s.heap.objs.size (.lst [])) fp (X.pn++pins);rw[hY]at G TT EE;have G1:=G _ s7 σ5 H7 x u _ I7' r7 (step x H7 y7);rw[hYp,hYw,hYA,hYx]at G1;refine wpAny_bind (thn G1 λ_ s8 ⟨σ8,H8,I8,q8⟩=>?_);have T1:=TT _ s8 σ8 H8 _ I8 q8;rw[hYp,hYw,hYA,hYx]at T1;refine wpAny_bind (thn T1 λok s9 ⟨H9,I9,q9⟩=>?_);have again:∀{s':Shared}{σ':St}{H':Hp},Inv Y ([]++pinsAt fp s7.heap) σ' H' s' -> N σ' H' -> ∃m,m<n/\∃i σ' H',Inv Y [] σ' H' s' /\ tn i s'.heap/\(∀b∈fp,H' b=none)/\W i m σ' H':=λ{s' σ' H'} K7 n7=>by
    obtain⟨m',hm,w7⟩:=hN σ' H' n7;refine⟨m',hm,i+1,σ',H',K7.unpinned,T.keep _ _ _ st7 λb hb o e=>(K7.pin (b,o) (Wax _ (Wax _ (Zco hb e)))).1,λb hb=>?_,w7⟩;obtain⟨o,e,d⟩:=T.obj _ _ st7 b hb;exact(K7.pin (b,o) (Wax _ (Wax _ (Zco hb e)))).2.1
   cases ok with
   |false=>
    have q9:N σ8 H9:=q9;exact wpAny_pure ⟨by rw[hYe],again I9 q9⟩
   |true=>
    have q9:te σ8 H9 λy H5=>∃ys,H5 s.heap.objs.size=some (.lst ys)/\ys.length<sizeLine/\N σ8 (upd H5 s.heap.objs.size (.lst (ys++[y]))):=q9;have E1:=EE _ s9 σ8 H9 _ I9 q9;rw[hYp,hYw,hYA,hYx]at E1;refine wpAny_bind (wpAny_bind (thn E1 λv sa ⟨y,Ha,Ia,ra,ys,ea,za,na⟩=>?_));have M:=Zcs (X:=Y) _ sa σ8 Ha (.ref s.heap.objs.size) [y] (.ref s.heap.objs.size) [v] (λ_ H=>N σ8 H) Ia rfl (.cons ra .nil) ⟨_,ys,y,rfl,rfl,ea,za,na⟩;rw[hYp,hYw,hYA,hYx]at M;refine wpAny_bind (thn M λ_ sb ⟨_,Hb,Ib,_,nb⟩=>wpAny_pure (wpAny_pure ⟨by rw[hYe],again Ib nb⟩))
 have hcs:(relabel scope X.env)=(relabel scope X.env):=rfl;have loop':=loop;rw[hYe]at loop';show codeAny (model X.prog X.w) X.A (.compStart (.ListComp elt [⟨tg,iter,ifs,0⟩] scope pos) 0 (.ref it) (.ref s.heap.objs.size) (compEnvC scope (clOf X.env scope.names []) (s.heap.push { cls:=.type "list",data:=.seq ([]:List Value).toArray }).objs.size X.env)) (RR (.ref s.heap.objs.size) (s.heap.push { cls:=.type "list",data:=.seq ([]:List Value).toArray }).objs.size) _;rw[hC];exact codeAny_compStart_list loop' (T.self _ 0 _ _ _ tn4 loop')
theorem Zb8 {elt tg iter:Expr}{ifs:List Expr}{scope:Scope}{pos:Pos}{fvs:List Str}{sel:List Nat}{wi:TI}{g:TG}{tc:TT}{te:TE}(tgs:List Str) (S:CompSc X.env.scope X.N scope fvs sel) (hc:X.calm=true)
  (hi:PI X tg iter wi) (hg:∀C s H ex pn,PG (compCx X scope (tgs++fvs) C s H ex pn) tg g) (ht:∀C s H ex pn,PTs (compCx X scope (tgs++fvs) C s H ex pn) ifs tc) (he:∀C s H ex pn,PE (compCx X scope (tgs++fvs) C s H ex pn) elt te)
  (hs:∀x,foldedSetIterable iter X.env x=pure x:=by intro _;rfl) :
  PE X (.ListComp elt [⟨tg,iter,ifs,0⟩] scope pos) (tComp tgs.length sel wi g tc te):=by
 intro pins s σ H Q I h;rw[eval_ListComp];refine wpAny_comprehension_free (use:=none) rfl hs (Zcq (Zef S I.ok)) S.kind S.names (thn (hi pins s σ H _ I h) λv s1 h1=>thn h1 λitv s2 h2=>?_);refine Zhp (Cm:=λX=>X.calm=true) S (λ_ _ _ _ _=>hc) hg ht he (RR:=λacc C=>compPost (model X.prog X.w) X.A X.xe none (EP X pins σ Q) acc C) (Q:=Q) h2 ?_;intro s' C acc H' m hn _ hI q;exact⟨m,hn,λh' sb=>⟨.ref acc,H',hI h' sb,rfl,q⟩⟩
theorem Zg1 {elt tg iter:Expr}{ifs:List Expr}{scope:Scope}{pos spos py:Pos}{fvs:List Str}{sel:List Nat}{wi:TI}{g:TG}{tc:TT}{te:TE}{i:Nat}{y:Str}(tgs:List Str) (S:CompSc X.env.scope X.N scope fvs sel) (hc:X.calm=true)
  (hN:X.N.Nodup) (hiy:X.N[i]?=some y) (hx:Loc X.env.scope y)
  (hi:PI X tg iter wi) (hg:∀C s H ex pn,PG (compCx X scope (tgs++fvs) C s H ex pn) tg g) (ht:∀C s H ex pn,PTs (compCx X scope (tgs++fvs) C s H ex pn) ifs tc) (he:∀C s H ex pn,PE (compCx X scope (tgs++fvs) C s H ex pn) elt te)
  (hs:∀x,foldedSetIterable iter X.env x=pure x:=by intro _;rfl) (hsw:swapsWith (.ListComp elt [⟨tg,iter,ifs,0⟩] scope pos) (some (.Name y py)) spos.line X.env=pure true:=by rfl)
  (hf:X.fn y=true\/X.env.scope.names.lookup y=some .local:=by first|exact .inl rfl|exact .inr rfl|assumption) :
  PS X (.Assign [.Name y py] (.ListComp elt [⟨tg,iter,ifs,0⟩] scope pos) spos) (tAsg (tComp tgs.length sel wi g tc te) (gName i)):=by
 intro pins s σ H D I h;rw[exec_Assign_Name_used _ _ _ _ hsw];refine wpAny_bind (wpAny_standAt (wpAny_bind ?_));show wpAny _ X.A (do let _ ← comprehension (.ListComp elt [⟨tg,iter,ifs,0⟩] scope pos) scope X.env _ (newList []) false (eval iter X.env) (some (assign (.Name y py) X.env))) _ _ s;refine wpAny_bind (wpAny_mono (wpAny_comprehension_free (use:=some (assign (.Name y py) X.env)) (Q:=λ_ s'=>SP X pins D .next s') rfl hs (Zcq (Zef S I.ok)) S.kind S.names
  (thn (hi pins s σ H _ I h) λv s1 h1=>thn h1 λitv s2 h2=>?_)) (λ_ s' hq=>wpAny_pure (wpAny_pure hq)) λ_ _ e=>e)
 refine Zhp (Cm:=λX=>X.calm=true) S (λ_ _ _ _ _=>hc) hg ht he (RR:=λacc C=>compPost (model X.prog X.w) X.A X.xe (some (assign (.Name y py) X.env)) (λ_ s'=>SP X pins D .next s') acc C) (Q:=λv H'=>D.nx (σ.set i (some v)) H') h2 ?_;intro s' C acc H' m hn fp hI q;have I0:Inv X pins σ H' s':=hI s'.heap (.refl ..);show wpAny _ X.A (assign (.Name y py) X.env (.ref acc)) _ _ _;refine wpAny_assign_Name (Zhc (v:=.ref acc) I0 hN hiy hx rfl (λs2 I2 hsb=>?_) hf);obtain⟨a,sb,ha⟩:=hsb;have hCa:C≠a:=by
  rcases ha with z|z
  ·rw[z];exact fp.2.1
  ·exact Ne.symm (fp.2.2.2.2.1 y a z)
 refine⟨m,hn.sameBut sb hCa,λh' sb'=>?_⟩;obtain⟨f0,f1,f2,f3,f4,f5⟩:=fp;exact⟨_,H',I2.turned (t':=s2.toks) (it:=C) (λb o hb e=>(sb'.2 b hb).trans e) f0 f1 f3 f4 f5,q⟩
end
def InsC (a C:Addr) (h:Heap):Prop:=∃ox vs,h.get? a=some ox/\ox.cls=.ref C/\ox.data=.fields vs/\vs[2]?=some .none
inductive D where
 |non|bl (b:Bool)|int (i:Int)|str (x:Str)|ty (n:String)|tup (ds:List D)|lst (ds:List D)|scr (ds:List D)|adr (a:Addr)|dct (ks:List Key) (ds:List D)|exc (a C:Addr)
mutual
inductive Rep (K:W.Frag) (G:Hp):V->D->Prop
 |non:Rep K G .non .non
 |bl (b:Bool):Rep K G (.bl b) (.bl b)
 |int (i:Int):Rep K G (.int i) (.int i)
 |str (x:Str):Rep K G (.str x) (.str x)
 |ty (n:String):Rep K G (.ty n) (.ty n)
 |tup {a:Addr}{vs:List V}{ds:List D}:G a=some (.tup vs)->Reps K G vs ds->Rep K G (.ref a) (.tup ds)
 |lst {a:Addr}{vs:List V}{ds:List D}:G a=some (.lst vs)->Reps K G vs ds->Rep K G (.ref a) (.lst ds)
 |scr {a:Addr}{vs:List V}{ds:List D}:SqL K G a vs->Reps K G vs ds->Rep K G (.ref a) (.scr ds)
 |adr (a:Addr):Rep K G (.ref a) (.adr a)
 |dct {a:Addr}{ks:List Key}{vs:List V}{ds:List D}:G a=some (.dK (ks.zip vs))->ks.length=vs.length->Reps K G vs ds->Rep K G (.ref a) (.dct ks ds)
 |exc {a C:Addr}:G a=some (.ext (InsC a C))->Rep K G (.ref a) (.exc a C)
inductive Reps (K:W.Frag) (G:Hp):List V->List D->Prop
 |nil:Reps K G [] []
 |cons {v:V}{d:D}{vs:List V}{ds:List D}:Rep K G v d->Reps K G vs ds->Reps K G (v::vs) (d::ds)
end
def RepI (K:W.Frag) (G:Hp) (v:V):D->Prop
 |.non=>v=.non
 |.bl b=>v=.bl b
 |.int i=>v=.int i
 |.str x=>v=.str x
 |.ty n=>v=.ty n
 |.tup ds=>∃a vs,v=.ref a/\G a=some (.tup vs)/\Reps K G vs ds
 |.lst ds=>∃a vs,v=.ref a/\G a=some (.lst vs)/\Reps K G vs ds
 |.scr ds=>∃a vs,v=.ref a/\SqL K G a vs/\Reps K G vs ds
 |.adr a=>v=.ref a
 |.dct ks ds=>∃a vs,v=.ref a/\G a=some (.dK (ks.zip vs))/\ks.length=vs.length/\Reps K G vs ds
 |.exc a C=>v=.ref a/\G a=some (.ext (InsC a C))
theorem Rep.inv {K:W.Frag}{G:Hp}{v:V}{d:D}(r:Rep K G v d):RepI K G v d:=by
 cases r with
 |tup h r=>exact⟨_,_,rfl,h,r⟩
 |lst h r=>exact⟨_,_,rfl,h,r⟩
 |scr h r=>exact⟨_,_,rfl,h,r⟩
 |dct h l r=>exact⟨_,_,rfl,h,l,r⟩
 |exc h=>exact⟨rfl,h⟩
 |_=>rfl
def RepsI (K:W.Frag) (G:Hp) (vs:List V):List D->Prop
 |[]=>vs=[]
 |d::ds=>∃v ws,vs=v::ws/\Rep K G v d/\Reps K G ws ds
theorem Reps.inv {K:W.Frag}{G:Hp}{vs:List V}{ds:List D}(r:Reps K G vs ds):RepsI K G vs ds:=by
 cases r with
 |nil=>rfl
 |cons a b=>exact⟨_,_,rfl,a,b⟩
section
variable {K:W.Frag}{G G' H H':Hp}
mutual
theorem Rep.mono (s:Same G G'):∀{v:V}{d:D},Rep K G v d->Rep K G' v d
 |_,_,.non=>.non
 |_,_,.bl b=>.bl b
 |_,_,.int i=>.int i
 |_,_,.str x=>.str x
 |_,_,.ty n=>.ty n
 |_,_,.tup h r=>.tup (s _ _ h) (Reps.mono s r)
 |_,_,.lst h r=>.lst (s _ _ h) (Reps.mono s r)
 |_,_,.scr h r=>.scr (s.seq h) (Reps.mono s r)
 |_,_,.adr a=>.adr a
 |_,_,.dct h l r=>.dct (s _ _ h) l (Reps.mono s r)
 |_,_,.exc h=>.exc (s _ _ h)
theorem Reps.mono (s:Same G G'):∀{vs:List V}{ds:List D},Reps K G vs ds->Reps K G' vs ds
 |_,_,.nil=>.nil
 |_,_,.cons h r=>.cons (Rep.mono s h) (Reps.mono s r)
end
theorem Reps.length:∀{vs:List V}{ds:List D},Reps K G vs ds->vs.length=ds.length
 |_,_,.nil=>rfl
 |_,_,.cons _ r=>by rw[Wbk,Wbk,r.length]
theorem Reps.get:∀{vs:List V}{ds:List D}{i:Nat}{d:D},Reps K G vs ds->ds[i]?=some d->∃v,vs[i]?=some v/\Rep K G v d
 |_,_,_,_,.nil,e=>by simp at e
 |_,_,0,_,.cons r _,e=>by simp at e;subst e;exact⟨_,rfl,r⟩
 |_,_,i+1,d,.cons _ t,e=>by
  obtain⟨u,h1,h2⟩:=Reps.get (i:=i) (d:=d) t (by simpa using e);exact⟨u,by simpa using h1,h2⟩
theorem Reps.append:∀{vs ws:List V}{ds es:List D},Reps K G vs ds->Reps K G ws es->Reps K G (vs++ws) (ds++es)
 |_,_,_,_,.nil,s=>s
 |_,_,_,_,.cons r t,s=>.cons r (Reps.append t s)
theorem Reps.take:∀{vs:List V}{ds:List D}(n:Nat),Reps K G vs ds->Reps K G (vs.take n) (ds.take n)
 |_,_,0,_=>.nil
 |_,_,_+1,.nil=>.nil
 |_,_,n+1,.cons r t=>.cons r (Reps.take n t)
theorem Reps.drop:∀{vs:List V}{ds:List D}(n:Nat),Reps K G vs ds->Reps K G (vs.drop n) (ds.drop n)
 |_,_,0,r=>r
 |_,_,_+1,.nil=>.nil
 |_,_,n+1,.cons _ t=>Reps.drop n t
theorem Reps.reverse {vs:List V}{ds:List D}(h:Reps K G vs ds):Reps K G vs.reverse ds.reverse:=by
 induction vs generalizing ds with
 |nil=>cases h;exact .nil
 |cons v vs ih=>
  cases h with
  |cons r t=>rw[Wcr,Wcr];exact(ih t).append (.cons r .nil)
theorem Reps.set:∀{vs:List V}{ds:List D}{v:V}{d:D}(i:Nat),Reps K G vs ds->Rep K G v d->Reps K G (vs.set i v) (ds.set i d)
 |_,_,_,_,_,.nil,_=>.nil
 |_,_,_,_,0,.cons _ t,q=>.cons q t
 |_,_,_,_,i+1,.cons r t,q=>.cons r (Reps.set i t q)
theorem Reps.ints {vs:List V}:∀{ns:List Int},Reps K G vs (ns.map D.int)->vs=ns.map V.int:=by
 induction vs with
 |nil=>intro ns h;cases ns with
  |nil=>rfl
  |cons n ns=>cases h
 |cons v vs ih=>intro ns h;cases ns with
  |nil=>cases h
  |cons n ns=>
   cases h with
   |cons r t=>cases r.inv;rw[ih t];rfl
theorem Reps.ofInts:∀(ns:List Int),Reps K G (ns.map V.int) (ns.map D.int)
 |[]=>.nil
 |n::ns=>.cons (.int n) (Reps.ofInts ns)
theorem Zgy {vs:List V}{ds:List D}{i:Int}{d:D}(r:Reps K G vs ds) (h:atI ds i=some d):∃v,atI vs i=some v/\Rep K G v d:=by
 unfold atI at h ⊢;rw[<- r.length]at h;cases e:ixN vs.length i with
 |none=>rw[e]at h;cases h
 |some j=>rw[e]at h;exact r.get h
end
inductive OD where
 |lst (ds:List D)|dct (kvs:List (Key × D))|set (S:Int->Bool) (n:Nat)|dtt (kvs:List (List Key × D))|ext (R:Hp->(Heap->Prop)->Prop)
def OwnRep (K:W.Frag) (G:Hp):HO->OD->Prop
 |.lst vs,.lst ds=>Reps K G vs ds
 |.dK kvs,.dct kds=>Paired (λ(p:Key × V) (q:Key × D)=>p.1=q.1/\Rep K G p.2 q.2) kvs kds
 |.set S n,.set S' n'=>S=S' /\ n=n'
 |.dT kvs,.dtt kds=>Paired (λ(p:List Key × V) (q:List Key × D)=>p.1=q.1/\Rep K G p.2 q.2) kvs kds
 |.ext φ,.ext R=>∃G0,Same G0 G/\R G0 φ
 |_,_=>False
theorem OwnRep.mono {K:W.Frag}{G G':Hp}(s:Same G G') {o:HO}{od:OD}(h:OwnRep K G o od):OwnRep K G' o od:=by
 cases o <;> cases od <;> first
  |exact h.elim
  |exact Reps.mono s h
  |exact Paired.mapP h λ_ _ z=>⟨z.1,z.2.mono s⟩
  |exact(let ⟨g0,s0,r⟩:=h; ⟨g0,s0.trans s,r⟩)
  |exact h
inductive Slot where
 |any|val (d:D)|own (o:OD)|bor (o:OD)|ownA (a:Addr) (o:OD)
abbrev Evt:=List Slot
def Slot.od:Slot->Option OD
 |.own o=>some o
 |.bor o=>some o
 |.ownA _ o=>some o
 |_=>none
structure Gm where
 B:Addr->Prop
 F:Hp
 Hz:Hp
 Xo:Hp
def SlotAt (g:Gm) (x:Slot) (a:Addr):Prop:=match x with
 |.own _=>g.Hz a=none
 |.bor _=>g.B a
 |.ownA b _=>b=a/\g.Hz a=none
 |_=>True
structure Ok (K:W.Frag) (g:Gm) (G H:Hp) (σ:St) (Δ:Evt):Prop where
 same:∀b o,¬ g.B b->g.Hz b=some o->H b=some o
 lent:∀b,g.B b->H b≠none
 sub:Same g.F G
 frz:∀b o,G b=some o->H b=some o/\(g.Hz b=none\/g.F b=some o)
 ext:∀b o,g.Xo b=some o->H b=some o/\G b=none/\∀(i:Nat) x od,Δ[i]?=some x->x.od=some od -> σ[i]?≠some (some (.ref b))
 len:Δ.length = σ.length
 val:∀(i:Nat) d,Δ[i]?=some (.val d)->∃v,σ[i]?=some (some v)/\Rep K G v d
 own:∀(i:Nat) x od,Δ[i]?=some x->x.od=some od->∃a o,σ[i]?=some (some (.ref a))/\H a=some o/\OwnRep K G o od/\G a=none/\SlotAt g x a
 dis:∀(i j:Nat) x y od od' a,Δ[i]?=some x->x.od=some od -> Δ[j]?=some y->y.od=some od' -> σ[i]?=some (some (.ref a)) -> σ[j]?=some (some (.ref a))->i=j
section
variable {K:W.Frag}{g:Gm}{G H G' H':Hp}{σ:St}{Δ:Evt}
theorem Ok.live (k:Ok K g G H σ Δ):Same G H:=λb o e=>(k.frz b o e).1
theorem Ok.there (k:Ok K g G H σ Δ) {b:Addr}(h:H b=none):g.Hz b=none:=by
 cases e:g.Hz b with
 |none=>rfl
 |some o=>
  by_cases hb:g.B b
  ·exact absurd h (k.lent b hb)
  ·have:=k.same b o hb e
   rw[h]at this;cases this
theorem Ok.grow (k:Ok K g G H σ Δ) (sg:Same G G') (sh:Same H H') (hg:∀b o,G' b=some o->H' b=some o/\(G b=some o\/H b=none)):Ok K g G' H' σ Δ where
 same:=λb o hb e=>sh b o (k.same b o hb e)
 lent:=λb hb z=>by
  cases e:H b with
  |none=>exact k.lent b hb e
  |some o=>rw[sh b o e]at z;cases z
 sub:=k.sub.trans sg
 frz:=λb o e=>by
  obtain⟨h1,h2⟩:=hg b o e;refine⟨h1,?_⟩;rcases h2 with z|z
  ·exact(k.frz b o z).2
  ·exact .inl (k.there z)
 ext:=λb o e=>by
  obtain⟨h1,h2,h3⟩:=k.ext b o e;refine⟨sh b o h1,?_,h3⟩;cases q:G' b with
  |none=>rfl
  |some o'=>
   rcases(hg b o' q).2 with z|z
   ·rw[h2]at z;cases z
   ·rw[h1]at z;cases z
 len:=k.len
 val:=λi d e=>by
  obtain⟨v,h1,h2⟩:=k.val i d e;exact⟨v,h1,h2.mono sg⟩
 own:=λi x od e1 e2=>by
  obtain⟨a,o,h1,h2,h3,h4,h5⟩:=k.own i x od e1 e2;refine⟨a,o,h1,sh a o h2,h3.mono sg,?_,h5⟩;cases q:G' a with
  |none=>rfl
  |some o'=>
   rcases(hg a o' q).2 with z|z
   ·rw[h4]at z;cases z
   ·rw[h2]at z;cases z
 dis:=k.dis
theorem Ok.laid (k:Ok K g G H σ Δ) {p:Addr}(hp:H p=none) (o:HO):Ok K g (upd G p o) (upd H p o) σ Δ /\ Same G (upd G p o):=by
 have hG:G p=none:=by
  cases e:G p with
  |none=>rfl
  |some u=>rw[k.live p u e]at hp;cases hp
 have sg:Same G (upd G p o):=λb u e=>by rw[Zas (Zar e hG)];exact e
 refine⟨k.grow sg (λb u e=>by rw[Zas (Zar e hp)];exact e) λb u e=>?_,sg⟩;by_cases hb:b=p
 ·subst hb;rw[Zay]at e ⊢;exact⟨e,.inr hp⟩
 ·rw[Zas hb]at e ⊢;exact⟨k.live b u e,.inl e⟩
theorem Ok.lt (k:Ok K g G H σ Δ) {i:Nat}{x:Slot}(h:Δ[i]?=some x):i < σ.length:=by
 rw[<- k.len];exact(Waj.mp h).1
def Pend (K:W.Frag) (g:Gm) (G H:Hp) (σ:St) (Δ:Evt) (a:Addr) (od:OD):Prop:=
 ∃o,H a=some o/\OwnRep K G o od/\G a=none/\g.Hz a=none/\g.Xo a=none/\∀(i:Nat) x od',Δ[i]?=some x->x.od=some od' -> σ[i]?≠some (some (.ref a))
theorem Ok.setVal (k:Ok K g G H σ Δ) {v:V}{d:D}{i:Nat}(hi:i < Δ.length) (r:Rep K G v d):Ok K g G H (σ.set i (some v)) (Δ.set i (.val d)):=by
 have hs:i < σ.length:=by rw[<- k.len];exact hi
 have old:∀(j:Nat) x od,(Δ.set i (.val d))[j]?=some x->x.od=some od->j≠i /\ Δ[j]?=some x/\(σ.set i (some v))[j]? = σ[j]?:=λj x od e1 e2=>by
  by_cases hj:j=i
  ·subst hj
   rw[Way hi]at e1;cases e1;cases e2
  ·rw[Wa0 (Ne.symm hj)]at e1
   exact⟨hj,e1,Wa0 (Ne.symm hj)⟩
 refine⟨k.same,k.lent,k.sub,k.frz,λb o e=>?_,by simp[k.len],λj e h=>?_,λj x od e1 e2=>?_,λj l x y od od' a e1 e2 e3 e4 e5 e6=>?_⟩
 ·obtain⟨h1,h2,h3⟩:=k.ext b o e
  refine⟨h1,h2,λj x od e1 e2=>?_⟩;obtain⟨_,q1,q2⟩:=old j x od e1 e2;rw[q2];exact h3 j x od q1 e2
 ·by_cases hj:j=i
  ·subst hj
   rw[Way hi]at h;cases h;exact⟨v,Way hs,r⟩
  ·rw[Wa0 (Ne.symm hj)]at h ⊢
   exact k.val j e h
 ·obtain⟨_,q1,q2⟩:=old j x od e1 e2
  rw[q2];exact k.own j x od q1 e2
 ·obtain⟨_,q1,q2⟩:=old j x od e1 e2
  obtain⟨_,q3,q4⟩:=old l y od' e3 e4;rw[q2]at e5;rw[q4]at e6;exact k.dis j l x y od od' a q1 e2 q3 e4 e5 e6
theorem Ok.setOwn (k:Ok K g G H σ Δ) {a:Addr}{od:OD}{i:Nat}(hi:i < Δ.length) (p:Pend K g G H σ Δ a od):Ok K g G H (σ.set i (some (.ref a))) (Δ.set i (.own od)):=by
 obtain⟨o,p1,p2,p3,p4,p5,p6⟩:=p;have hs:i < σ.length:=by rw[<- k.len];exact hi
 have old:∀(j:Nat) x,j≠i->(Δ.set i (.own od))[j]?=some x -> Δ[j]?=some x/\(σ.set i (some (.ref a)))[j]? = σ[j]?:=λj x hj e1=>by
  rw[Wa0 (Ne.symm hj)]at e1;exact⟨e1,Wa0 (Ne.symm hj)⟩
 refine⟨k.same,k.lent,k.sub,k.frz,λb ob e=>?_,by simp[k.len],λj e h=>?_,λj x od' e1 e2=>?_,λj l x y od1 od2 c e1 e2 e3 e4 e5 e6=>?_⟩
 ·obtain⟨h1,h2,h3⟩:=k.ext b ob e
  refine⟨h1,h2,λj x od' e1 e2=>?_⟩;by_cases hj:j=i
  ·subst hj
   rw[Way hs];intro z;cases z;rw[p5]at e;cases e
  ·obtain⟨q1,q2⟩:=old j x hj e1
   rw[q2];exact h3 j x od' q1 e2
 ·by_cases hj:j=i
  ·subst hj
   rw[Way hi]at h;cases h
  ·rw[Wa0 (Ne.symm hj)]at h ⊢
   exact k.val j e h
 ·by_cases hj:j=i
  ·subst hj
   rw[Way hi]at e1;cases e1;cases e2;exact⟨a,o,Way hs,p1,p2,p3,p4⟩
  ·obtain⟨q1,q2⟩:=old j x hj e1
   rw[q2];exact k.own j x od' q1 e2
 ·by_cases hj:j=i
  ·by_cases hl:l=i
   ·rw[hj,hl]
   ·obtain⟨q3,q4⟩:=old l y hl e3
    rw[q4]at e6;rw[hj,Way hs]at e5;cases e5;exact absurd e6 (p6 l y od2 q3 e4)
  ·obtain⟨q1,q2⟩:=old j x hj e1
   rw[q2]at e5;by_cases hl:l=i
   ·rw[hl,Way hs]at e6
    cases e6;exact absurd e5 (p6 j x od1 q1 e2)
   ·obtain⟨q3,q4⟩:=old l y hl e3
    rw[q4]at e6;exact k.dis j l x y od1 od2 c q1 e2 q3 e4 e5 e6
def Slot.put:Slot->OD->Slot
 |.own _,o=>.own o
 |.bor _,o=>.bor o
 |.ownA a _,o=>.ownA a o
 |x,_=>x
theorem SlotAt.put {g:Gm}{x:Slot}{a:Addr}{o:OD}(h:SlotAt g x a):SlotAt g (x.put o) a:=by cases x <;> exact h
theorem SlotAt.free {g:Gm}{x:Slot}{a:Addr}{od:OD}(h:SlotAt g x a) (ho:x.od=some od):g.Hz a=none\/g.B a:=by
 cases x with
 |any=>cases ho
 |val d=>cases ho
 |own o=>exact .inl h
 |bor o=>exact .inr h
 |ownA b o=>exact .inl h.2
theorem Slot.put_od {x:Slot}{od o:OD}(h:x.od=some od):(x.put o).od=some o:=by cases x <;> cases h <;> rfl
theorem Ok.write (k:Ok K g G H σ Δ) {a:Addr}{od od':OD}{x:Slot}{i:Nat}{o':HO}(hx:Δ[i]?=some x) (hod:x.od=some od) (ha:σ[i]?=some (some (.ref a))) (r:OwnRep K G o' od'):Ok K g G (upd H a o') σ (Δ.set i (x.put od')):=by
 obtain⟨a',o,q1,q2,q3,q4,q5⟩:=k.own i x od hx hod;rw[ha]at q1;cases q1;have hi:i < Δ.length:=(Waj.mp hx).1;have other:∀(j:Nat) y od2,(Δ.set i (x.put od'))[j]?=some y->y.od=some od2->j≠i -> Δ[j]?=some y:=λj y od2 e1 e2 hj=>by
  rw[Wa0 (Ne.symm hj)]at e1;exact e1
 have anyOd:∀(j:Nat) y od2,(Δ.set i (x.put od'))[j]?=some y->y.od=some od2->∃y' od3,Δ[j]?=some y' /\ y'.od=some od3:=λj y od2 e1 e2=>by
  by_cases hj:j=i
  ·subst hj;exact⟨x,od,hx,hod⟩
  ·exact⟨y,od2,other j y od2 e1 e2 hj,e2⟩
 refine⟨λb u hb e=>?_,λb hb=>?_,k.sub,λb u e=>?_,λb u e=>?_,by simp[k.len],λj e h=>?_,λj y od2 e1 e2=>?_,λj l y z od1 od2 c e1 e2 e3 e4 e5 e6=>?_⟩
 ·have hba:b≠a:=by
   intro z;subst z;rcases q5.free hod with z|z
   ·rw[z]at e;cases e
   ·exact hb z
  rw[Zas hba];exact k.same b u hb e
 ·by_cases hba:b=a
  ·subst hba;rw[Zay];intro z;cases z
  ·rw[Zas hba];exact k.lent b hb
 ·have hba:b≠a:=by intro z;subst z;rw[q4]at e;cases e
  rw[Zas hba];exact k.frz b u e
 ·obtain⟨h1,h2,h3⟩:=k.ext b u e
  have hba:b≠a:=by intro z;subst z;exact h3 i x od hx hod ha
  rw[Zas hba];refine⟨h1,h2,λj y od2 e1 e2=>?_⟩;obtain⟨y',od3,z1,z2⟩:=anyOd j y od2 e1 e2;exact h3 j y' od3 z1 z2
 ·by_cases hj:j=i
  ·subst hj
   rw[Way hi]at h;cases x <;> cases hod <;> cases h
  ·rw[Wa0 (Ne.symm hj)]at h
   exact k.val j e h
 ·by_cases hj:j=i
  ·subst hj
   rw[Way hi]at e1;cases e1;rw[Slot.put_od hod]at e2;cases e2;exact⟨a,o',ha,Zay,r,q4,q5.put⟩
  ·have e1':=other j y od2 e1 e2 hj
   obtain⟨c,oc,w1,w2,w3,w4,w5⟩:=k.own j y od2 e1' e2;have hca:c≠a:=by
    intro z;subst z;exact hj (k.dis j i y x od2 od c e1' e2 hx hod w1 ha)
   exact⟨c,oc,w1,by rw[Zas hca];exact w2,w3,w4,w5⟩
 ·obtain⟨y',od3,z1,z2⟩:=anyOd j y od1 e1 e2
  obtain⟨y'',od4,z3,z4⟩:=anyOd l z od2 e3 e4;exact k.dis j l y' y'' od3 od4 c z1 z2 z3 z4 e5 e6
theorem Ok.freeze (k:Ok K g G H σ Δ) {a:Addr}{ds:List D}{vs:List V}(p:Pend K g G H σ Δ a (.lst ds)) (hv:H a=some (.lst vs)):Ok K g (upd G a (.lst vs)) H σ Δ /\ Same G (upd G a (.lst vs))/\Rep K (upd G a (.lst vs)) (.ref a) (.lst ds):=by
 obtain⟨o,p1,p2,p3,p4,p5,p6⟩:=p;rw[hv]at p1;cases p1;have p2:Reps K G vs ds:=p2;have sg:Same G (upd G a (.lst vs)):=λb u e=>by rw[Zas (Zar e p3)];exact e
 refine⟨⟨k.same,k.lent,k.sub.trans sg,λb u e=>?_,λb u e=>?_,k.len,λj d h=>?_,λj x od e1 e2=>?_,k.dis⟩,sg,.lst Zay (p2.mono sg)⟩
 ·by_cases hb:b=a
  ·subst hb;rw[Zay]at e;cases e;exact⟨hv,.inl p4⟩
  ·rw[Zas hb]at e;exact k.frz b u e
 ·obtain⟨h1,h2,h3⟩:=k.ext b u e
  have hb:b≠a:=by intro z;subst z;rw[p5]at e;cases e
  exact⟨h1,by rw[Zas hb];exact h2,h3⟩
 ·obtain⟨v,h1,h2⟩:=k.val j d h
  exact⟨v,h1,h2.mono sg⟩
 ·obtain⟨c,o,w1,w2,w3,w4,w5⟩:=k.own j x od e1 e2
  have hc:c≠a:=by intro z;subst z;exact p6 j x od e1 e2 w1
  exact⟨c,o,w1,w2,w3.mono sg,by rw[Zas hc];exact w4,w5⟩
theorem Ok.drop (k:Ok K g G H σ Δ) (i:Nat):Ok K g G H σ (Δ.set i .any):=by
 have old:∀(j:Nat) x,(Δ.set i .any)[j]?=some x->x=.any\/(Δ[j]?=some x/\j≠i):=λj x e1=>by
  by_cases hj:j=i
  ·subst hj
   rw[Wcs]at e1;simp at e1;exact .inl e1.2.symm
  ·rw[Wa0 (Ne.symm hj)]at e1
   exact .inr ⟨e1,hj⟩
 have oldO:∀(j:Nat) x od,(Δ.set i .any)[j]?=some x->x.od=some od -> Δ[j]?=some x:=λj x od e1 e2=>by
  rcases old j x e1 with z|z
  ·subst z;cases e2
  ·exact z.1
 refine⟨k.same,k.lent,k.sub,k.frz,λb o e=>?_,by simp[k.len],λj e h=>?_,λj x od e1 e2=>k.own j x od (oldO j x od e1 e2) e2,λj l x y od od' a e1 e2 e3 e4=>k.dis j l x y od od' a (oldO j x od e1 e2) e2 (oldO l y od' e3 e4) e4⟩
 ·obtain⟨h1,h2,h3⟩:=k.ext b o e
  exact⟨h1,h2,λj x od e1 e2=>h3 j x od (oldO j x od e1 e2) e2⟩
 ·rcases old j _ h with z|z
  ·cases z
  ·exact k.val j e z.1
theorem Ok.take (k:Ok K g G H σ Δ) {i:Nat}{od:OD}(h:Δ[i]?=some (.own od)):∃a,σ[i]?=some (some (.ref a))/\Pend K g G H σ (Δ.set i .any) a od:=by
 obtain⟨a,o,h1,h2,h3,h4,h5⟩:=k.own i _ od h rfl;have h5:g.Hz a=none:=h5;refine⟨a,h1,o,h2,h3,h4,h5,?_,λj x od' e1 e2 e3=>?_⟩
 ·cases q:g.Xo a with
  |none=>rfl
  |some u=>exact absurd h1 ((k.ext a u q).2.2 i _ od h rfl)
 ·by_cases hj:j=i
  ·subst hj
   rw[Wcs]at e1;simp at e1;obtain⟨_,e1⟩:=e1;subst e1;cases e2
  ·rw[Wa0 (Ne.symm hj)]at e1
   exact hj (k.dis j i x _ od' od a e1 e2 h rfl e3 h1)
end
def Cont (K:W.Frag) (g:Gm) (G:Hp) (σ:St) (P:D->Evt->Prop) (Q:VK):Prop:=
 ∀v d G' H' Δ',Ok K g G' H' σ Δ' -> Same G G' -> Rep K G' v d->P d Δ' -> Q v H'
def JE (K:W.Frag) (t:TE) (Δ:Evt) (P:D->Evt->Prop):Prop:=
 ∀g G H σ Q,Ok K g G H σ Δ -> Cont K g G σ P Q->t σ H Q
def JT (K:W.Frag) (t:TT) (Δ:Evt) (P:Bool->Evt->Prop):Prop:=
 ∀g G H σ Q,Ok K g G H σ Δ -> (∀b G' H' Δ',Ok K g G' H' σ Δ' -> Same G G' -> P b Δ' -> Q b H')->t σ H Q
def JA (K:W.Frag) (t:TA) (Δ:Evt) (P:List D->Evt->Prop):Prop:=
 ∀g G H σ Q,Ok K g G H σ Δ -> (∀vs ds G' H' Δ',Ok K g G' H' σ Δ' -> Same G G' -> Reps K G' vs ds->P ds Δ' -> Q vs H')->t σ H Q
def JO (K:W.Frag) (t:TE) (Δ:Evt) (P:OD->Evt->Prop):Prop:=
 ∀g G H σ Q,Ok K g G H σ Δ -> (∀a od G' H' Δ',Ok K g G' H' σ Δ' -> Same G G' -> Pend K g G' H' σ Δ' a od->P od Δ' -> Q (.ref a) H')->t σ H Q
def JR2 (K:W.Frag) (r:R2) (d e:D) (Δ:Evt) (P:D->Evt->Prop):Prop:=
 ∀g G H σ Q x y,Ok K g G H σ Δ -> Rep K G x d->Rep K G y e->Cont K g G σ P Q->r x y H Q
def JR1 (K:W.Frag) (r:V->Hp->VK->Prop) (d:D) (Δ:Evt) (P:D->Evt->Prop):Prop:=
 ∀g G H σ Q x,Ok K g G H σ Δ -> Rep K G x d->Cont K g G σ P Q->r x H Q
def JC (K:W.Frag) (r:List V->Hp->VK->Prop) (ds:List D) (Δ:Evt) (P:D->Evt->Prop):Prop:=
 ∀g G H σ Q vs,Ok K g G H σ Δ -> Reps K G vs ds->Cont K g G σ P Q->r vs H Q
structure Pst where
 nx:Evt->Prop
 rt:D->Evt->Prop
 bk:Evt->Prop:=λ_=>False
 ct:Evt->Prop:=λ_=>False
 ro:OD->Evt->Prop:=λ_ _=>False
structure SCont (K:W.Frag) (g:Gm) (P:Pst) (E:Ends):Prop where
 nx:∀σ G H Δ,Ok K g G H σ Δ -> P.nx Δ -> E.nx σ H
 rt:∀v d σ G H Δ,Ok K g G H σ Δ -> Rep K G v d->P.rt d Δ -> E.rt v H
 bk:∀σ G H Δ,Ok K g G H σ Δ -> P.bk Δ -> E.bk σ H
 ct:∀σ G H Δ,Ok K g G H σ Δ -> P.ct Δ -> E.ct σ H
 ro:∀a od σ G H Δ,Ok K g G H σ Δ -> Pend K g G H σ Δ a od->P.ro od Δ -> E.rt (.ref a) H
def JS (K:W.Frag) (t:TS) (Δ:Evt) (P:Pst):Prop:=
 ∀g G H σ E,Ok K g G H σ Δ -> SCont K g P E->t E σ H
def JG (K:W.Frag) (t:TG) (d:D) (Δ:Evt) (P:Evt->Prop):Prop:=
 ∀g G H σ v (R:St->Hp->Prop),Ok K g G H σ Δ -> Rep K G v d->(∀σ' G' H' Δ',Ok K g G' H' σ' Δ' -> Same G G' -> P Δ' -> R σ' H')->t v σ H R
def JGs (K:W.Frag) (t:TGs) (ds:List D) (Δ:Evt) (P:Evt->Prop):Prop:=
 ∀g G H σ vs (R:St->Hp->Prop),Ok K g G H σ Δ -> Reps K G vs ds->(∀σ' G' H' Δ',Ok K g G' H' σ' Δ' -> Same G G' -> P Δ' -> R σ' H')->t vs σ H R
section
variable {K:W.Frag}{Δ:Evt}
theorem Cont.up {g:Gm}{G G1:Hp}{σ:St}{P:D->Evt->Prop}{Q:VK}(c:Cont K g G σ P Q) (s:Same G G1):Cont K g G1 σ P Q:=
 λv d G' H' Δ' k s' r p=>c v d G' H' Δ' k (s.trans s') r p
theorem JE.mono {t:TE}{P P':D->Evt->Prop}(h:JE K t Δ P) (hp:∀d Δ,P d Δ -> P' d Δ):JE K t Δ P':=
 λg G H σ Q k c=>h g G H σ Q k λv d G' H' Δ' k' s r p=>c v d G' H' Δ' k' s r (hp d Δ' p)
theorem JS.mono {t:TS}{P P':Pst}(h:JS K t Δ P) (hn:∀Δ,P.nx Δ -> P'.nx Δ) (hr:∀d Δ,P.rt d Δ -> P'.rt d Δ) (hb:∀Δ,P.bk Δ -> P'.bk Δ) (hc:∀Δ,P.ct Δ -> P'.ct Δ) (ho:∀od Δ,P.ro od Δ -> P'.ro od Δ):JS K t Δ P':=
 λg G H σ E k c=>h g G H σ E k ⟨λσ' G' H' Δ' k' p=>c.nx σ' G' H' Δ' k' (hn _ p),λv d σ' G' H' Δ' k' r p=>c.rt v d σ' G' H' Δ' k' r (hr _ _ p),λσ' G' H' Δ' k' p=>c.bk σ' G' H' Δ' k' (hb _ p),λσ' G' H' Δ' k' p=>c.ct σ' G' H' Δ' k' (hc _ p),λa od σ' G' H' Δ' k' r p=>c.ro a od σ' G' H' Δ' k' r (ho _ _ p)⟩
theorem Zab {i:Nat}{d:D}{P:D->Evt->Prop}(h:Δ[i]?=some (.val d)) (p:P d Δ):JE K (tVar i) Δ P:=λg G H σ Q k c=>by
 obtain⟨v,h1,h2⟩:=k.val i d h;exact⟨v,h1,c v d G H Δ k (Same.refl _) h2 p⟩
theorem Zh8 {i:Nat}{ds:List D}{P:D->Evt->Prop}(h:Δ[i]?=some (.own (.lst ds))) (p:P (.lst ds) (Δ.set i (.val (.lst ds)))):JE K (tVar i) Δ P:=λg G H σ Q k c=>by
 obtain⟨a,h1,pd⟩:=k.take h;obtain⟨o,q1,q2,_⟩:=id pd;cases o with
 |lst vs=>
  obtain⟨k2,sg,r⟩:=(k.drop i).freeze pd q1;have k3:=k2.setVal (i:=i) (by simpa using (Waj.mp h).1) r;have e1:σ.set i (some (.ref a)) = σ:=by
   apply Wbl;intro j;by_cases hj:j=i
   ·subst hj;rw[Way (k.lt h),h1]
   ·rw[Wa0 (Ne.symm hj)]
  rw[e1,List.set_set]at k3;exact⟨.ref a,h1,c _ _ _ H _ k3 sg r p⟩
 |_=>exact absurd q2 (λz=>z)
theorem Zak {i:Int}{P:D->Evt->Prop}(p:P (.int i) Δ):JE K (tC (.int i)) Δ P:=λg G H σ Q k c=>c _ _ G H Δ k (Same.refl _) (.int i) p
theorem Zcc {b:Bool}{P:D->Evt->Prop}(p:P (.bl b) Δ):JE K (tC (.bl b)) Δ P:=λg G H σ Q k c=>c _ _ G H Δ k (Same.refl _) (.bl b) p
theorem Zod {P:D->Evt->Prop}(p:P .non Δ):JE K (tC .non) Δ P:=λg G H σ Q k c=>c _ _ G H Δ k (Same.refl _) .non p
theorem Zgc {x:Str}{P:D->Evt->Prop}(p:P (.str x) Δ):JE K (tC (.str x)) Δ P:=λg G H σ Q k c=>c _ _ G H Δ k (Same.refl _) (.str x) p
theorem Zcb {x:String}{P:D->Evt->Prop}(p:P (.ty x) Δ):JE K (tC (.ty x)) Δ P:=λg G H σ Q k c=>c _ _ G H Δ k (Same.refl _) (.ty x) p
theorem Zaj {r:R2}{ta tb:TE}{P:D->Evt->Prop}(h:JE K ta Δ λd Δ1=>JE K tb Δ1 λe Δ2=>JR2 K r d e Δ2 P):JE K (tOp r ta tb) Δ P:=λg G H σ Q k c=>
 h g G H σ _ k λx d G1 H1 Δ1 k1 s1 r1 p1=>p1 g G1 H1 σ _ k1 λy e G2 H2 Δ2 k2 s2 r2 p2=>p2 g G2 H2 σ Q x y k2 (r1.mono s2) r2 (c.up (s1.trans s2))
theorem Zsc {r:V->Hp->VK->Prop}{ta:TE}{P:D->Evt->Prop}(h:JE K ta Δ λd Δ1=>JR1 K r d Δ1 P):JE K (tUn r ta) Δ P:=λg G H σ Q k c=>
 h g G H σ _ k λx d G1 H1 Δ1 k1 s1 r1 p1=>p1 g G1 H1 σ Q x k1 r1 (c.up s1)
theorem Zah {P:List D->Evt->Prop}(p:P [] Δ):JA K tNil Δ P:=λg G H σ Q k c=>c [] [] G H Δ k (Same.refl _) .nil p
theorem Zac {ta:TE}{tr:TA}{P:List D->Evt->Prop}(h:JE K ta Δ λd Δ1=>JA K tr Δ1 λds Δ2=>P (d::ds) Δ2):JA K (tCons ta tr) Δ P:=λg G H σ Q k c=>
 h g G H σ _ k λx d G1 H1 Δ1 k1 s1 r1 p1=>p1 g G1 H1 σ _ k1 λvs ds G2 H2 Δ2 k2 s2 r2 p2=>c _ _ G2 H2 Δ2 k2 (s1.trans s2) (.cons (r1.mono s2) r2) p2
theorem Zba {r:List V->Hp->VK->Prop}{ta:TA}{P:D->Evt->Prop}(h:JA K ta Δ λds Δ1=>JC K r ds Δ1 P):JE K (tCB r ta) Δ P:=λg G H σ Q k c=>
 h g G H σ _ k λvs ds G1 H1 Δ1 k1 s1 r1 p1=>p1 g G1 H1 σ Q vs k1 r1 (c.up s1)
theorem Zez {ta:TA}{P:D->Evt->Prop}(h:JA K ta Δ λds Δ1=>ds.length<=sizeLine/\P (.tup ds) Δ1):JE K (tTup ta) Δ P:=λg G H σ Q k c=>
 h g G H σ _ k λvs ds G1 H1 Δ1 k1 s1 r1 ⟨z,p1⟩=>⟨by rw[r1.length];exact z,λp hp=>by
  obtain⟨k2,sg⟩:=k1.laid hp (.tup vs);exact c _ _ _ _ Δ1 k2 (s1.trans sg) (.tup Zay (r1.mono sg)) p1⟩
theorem Zof {ta:TA}{P:D->Evt->Prop}(h:JA K ta Δ λds Δ1=>ds.length<=sizeLine/\P (.lst ds) Δ1):JE K (tLst ta) Δ P:=λg G H σ Q k c=>
 h g G H σ _ k λvs ds G1 H1 Δ1 k1 s1 r1 ⟨z,p1⟩=>⟨by rw[r1.length];exact z,λp hp=>by
  obtain⟨k2,sg⟩:=k1.laid hp (.lst vs);exact c _ _ _ _ Δ1 k2 (s1.trans sg) (.lst Zay (r1.mono sg)) p1⟩
theorem Ok.fresh {g:Gm}{G H:Hp}{σ:St}(k:Ok K g G H σ Δ) {p:Addr}{o:HO}{od:OD}(hp:H p=none) (r:OwnRep K G o od):Ok K g G (upd H p o) σ Δ /\ Pend K g G (upd H p o) σ Δ p od:=by
 have hG:G p=none:=by
  cases e:G p with
  |none=>rfl
  |some u=>rw[k.live p u e]at hp;cases hp
 refine⟨k.grow (Same.refl _) (λb u e=>by rw[Zas (Zar e hp)];exact e) λb u e=>⟨?_,.inl e⟩,o,Zay,r,hG,k.there hp,?_,λj x od' e1 e2 e3=>?_⟩
 ·have hb:b≠p:=by intro z;subst z;rw[hG]at e;cases e
  rw[Zas hb];exact k.live b u e
 ·cases q:g.Xo p with
  |none=>rfl
  |some u=>have z:=(k.ext p u q).1;rw[hp]at z;cases z
 ·obtain⟨a,oo,w1,w2,_⟩:=k.own j x od' e1 e2
  rw[e3]at w1;cases w1;rw[hp]at w2;cases w2
theorem Zgf {ta:TA}{P:OD->Evt->Prop}(h:JA K ta Δ λds Δ1=>ds.length<=sizeLine/\P (.lst ds) Δ1):JO K (tLst ta) Δ P:=λg G H σ Q k c=>
 h g G H σ _ k λvs ds G1 H1 Δ1 k1 s1 r1 ⟨z,p1⟩=>⟨by rw[r1.length];exact z,λp hp=>by
  obtain⟨k2,pd⟩:=k1.fresh (od:=.lst ds) hp (show OwnRep K G1 (.lst vs) (.lst ds) from r1);exact c p _ G1 _ Δ1 k2 s1 pd p1⟩
theorem Zds {t:TE}{P:D->Evt->Prop}(h:JO K t Δ λod Δ1=>∃ds,od=.lst ds/\P (.lst ds) Δ1):JE K t Δ P:=λg G H σ Q k c=>
 h g G H σ Q k λa od G1 H1 Δ1 k1 s1 pd hq_=>by
  obtain⟨ds,e,p1⟩:=hq_;subst e;obtain⟨o,q1,q2,_⟩:=id pd;cases o with
  |lst vs=>
   obtain⟨k2,sg,r⟩:=k1.freeze pd q1;exact c _ _ _ H1 Δ1 k2 (s1.trans sg) r p1
  |_=>exact absurd q2 (λz=>z)
theorem Zne {c:TT}{ta tb:TE}{P:D->Evt->Prop}(h:JT K c Δ λb Δ1=>if b=true then JE K ta Δ1 P else JE K tb Δ1 P):JE K (tIf c ta tb) Δ P:=λg G H σ Q k q=>
 h g G H σ _ k λb G1 H1 Δ1 k1 s1 p1=>by
  cases b with
  |true=>exact(show JE K ta Δ1 P from p1) g G1 H1 σ Q k1 (q.up s1)
  |false=>exact(show JE K tb Δ1 P from p1) g G1 H1 σ Q k1 (q.up s1)
theorem Za7 {t:TE}{P:Bool->Evt->Prop}(h:JE K t Δ λd Δ1=>∃b,d=.bl b/\P b Δ1):JT K (tTest t) Δ P:=λg G H σ Q k c=>
 h g G H σ _ k λv d G1 H1 Δ1 k1 s1 r1 hq_=>by obtain⟨b,e,p1⟩:=hq_;subst e;cases r1.inv;exact⟨b,rfl,c b G1 H1 Δ1 k1 s1 p1⟩
theorem Zkz {a b:TT}{P:Bool->Evt->Prop}(h:JT K a Δ λx Δ1=>if x=true then JT K b Δ1 P else P false Δ1):JT K (tAnd a b) Δ P:=λg G H σ Q k c=>
 h g G H σ _ k λx G1 H1 Δ1 k1 s1 p1=>by
  cases x with
  |true=>exact(show JT K b Δ1 P from p1) g G1 H1 σ _ k1 λy G2 H2 Δ2 k2 s2 p2=>c y G2 H2 Δ2 k2 (s1.trans s2) p2
  |false=>exact c false G1 H1 Δ1 k1 s1 p1
theorem Zd4 {a b:TT}{P:Bool->Evt->Prop}(h:JT K a Δ λx Δ1=>if x=true then P true Δ1 else JT K b Δ1 P):JT K (tOr a b) Δ P:=λg G H σ Q k c=>
 h g G H σ _ k λx G1 H1 Δ1 k1 s1 p1=>by
  cases x with
  |true=>exact c true G1 H1 Δ1 k1 s1 p1
  |false=>exact(show JT K b Δ1 P from p1) g G1 H1 σ _ k1 λy G2 H2 Δ2 k2 s2 p2=>c y G2 H2 Δ2 k2 (s1.trans s2) p2
theorem Zcl {a:TT}{P:Bool->Evt->Prop}(h:JT K a Δ λx Δ1=>P (!x) Δ1):JT K (tNot a) Δ P:=λg G H σ Q k c=>
 h g G H σ _ k λx G1 H1 Δ1 k1 s1 p1=>c (!x) G1 H1 Δ1 k1 s1 p1
theorem Zci {P:Bool->Evt->Prop}(p:P true Δ):JT K tTrue Δ P:=λg G H σ Q k c=>c true G H Δ k (Same.refl _) p
theorem Zpu {P:Pst}(p:P.nx Δ):JS K tNext Δ P:=λg G H σ E k c=>c.nx σ G H Δ k p
theorem Zn3 {t u:TS}{P:Pst}(h:JS K t Δ { P with nx:=λΔ1=>JS K u Δ1 P }):JS K (tSeq t u) Δ P:=λg G H σ E k c=>
 h g G H σ _ k ⟨λσ1 G1 H1 Δ1 k1 p1=>p1 g G1 H1 σ1 E k1 c,c.rt,c.bk,c.ct,c.ro⟩
theorem Zqt {te:TE}{P:Pst}(h:JE K te Δ P.rt):JS K (tRet te) Δ P:=λg G H σ E k c=>
 h g G H σ _ k λv d G1 H1 Δ1 k1 s1 r1 p1=>c.rt v d σ G1 H1 Δ1 k1 r1 p1
theorem Zpz {te:TE}{P:Pst}(h:JO K te Δ P.ro):JS K (tRet te) Δ P:=λg G H σ E k c=>
 h g G H σ _ k λa od G1 H1 Δ1 k1 s1 pd p1=>c.ro a od σ G1 H1 Δ1 k1 pd p1
theorem Zrh {i:Nat}{od:OD}{P:OD->Evt->Prop}(h:Δ[i]?=some (.own od)) (p:P od (Δ.set i .any)):JO K (tVar i) Δ P:=λg G H σ Q k c=>by
 obtain⟨a,h1,pd⟩:=k.take h;exact⟨.ref a,h1,c a od G H _ (k.drop i) (Same.refl _) pd p⟩
theorem Zsf {c:TT}{t u:TS}{P:Pst}(h:JT K c Δ λb Δ1=>if b=true then JS K t Δ1 P else JS K u Δ1 P):JS K (tIfS c t u) Δ P:=λg G H σ E k q=>
 h g G H σ _ k λb G1 H1 Δ1 k1 s1 p1=>by
  cases b with
  |true=>exact(show JS K t Δ1 P from p1) g G1 H1 σ E k1 q
  |false=>exact(show JS K u Δ1 P from p1) g G1 H1 σ E k1 q
theorem Zrw {te:TE}{t:TG}{P:Pst}(h:JE K te Δ λd Δ1=>JG K t d Δ1 P.nx):JS K (tAsg te t) Δ P:=λg G H σ E k c=>
 h g G H σ _ k λv d G1 H1 Δ1 k1 s1 r1 p1=>p1 g G1 H1 σ v _ k1 r1 λσ2 G2 H2 Δ2 k2 s2 p2=>c.nx σ2 G2 H2 Δ2 k2 p2
theorem Zdh {P:Evt->Prop}(p:P Δ):JGs K gNil [] Δ P:=λg G H σ vs R k r c=>by cases r;exact⟨rfl,c σ G H Δ k (Same.refl _) p⟩
theorem Zbh {t:TG}{u:TGs}{d:D}{ds:List D}{P:Evt->Prop}(h:JG K t d Δ λΔ1=>JGs K u ds Δ1 P):JGs K (gCons t u) (d::ds) Δ P:=λg G H σ vs R k r c=>by
 obtain⟨_,_,rfl,r1,rr⟩:=r.inv
 next=>exact⟨_,_,rfl,h g G H σ _ _ k r1 λσ1 G1 H1 Δ1 k1 s1 p1=>p1 g G1 H1 σ1 _ R k1 (rr.mono s1) λσ2 G2 H2 Δ2 k2 s2 p2=>c σ2 G2 H2 Δ2 k2 (s1.trans s2) p2⟩
theorem Zey {n:Nat}{t:TGs}{ds:List D}{P:Evt->Prop}(hl:ds.length=n) (h:JGs K t ds Δ P):JG K (gTup K n t) (.tup ds) Δ P:=λg G H σ v R k r c=>by
 obtain⟨_,_,rfl,ha,rs⟩:=r.inv
 next=>exact⟨_,_,rfl,SqT.of (k.live _ _ ha),by rw[rs.length];exact hl,h g G H σ _ R k rs c⟩
def ItOk (K:W.Frag) (G:Hp) (J:It) (ds:List D):Prop:=
 ∀G1 H1,Same G G1->Same G1 H1->J.stop ds.length H1/\∀(i:Nat) d,ds[i]?=some d->J.go i H1/\∀x H2,J.yld i H1 x H2->∃G2,Same G1 G2/\Same H1 H2/\(∀b o,G2 b=some o->H2 b=some o/\(G1 b=some o\/H1 b=none))/\Rep K G2 x d
def JI (K:W.Frag) (wi:TI) (Δ:Evt) (P:List D->Evt->Prop):Prop:=
 ∀g G H σ (R:It->Hp->Prop),Ok K g G H σ Δ -> (∀J ds G' H' Δ',Ok K g G' H' σ Δ' -> Same G G' -> ItOk K G' J ds->P ds Δ' -> R J H')->wi σ H R
theorem Zp9 {tl:TE}{P:List D->Evt->Prop}(h:JE K tl Δ λd Δ1=>∃ds,d=.tup ds/\P ds Δ1):JI K (iTup K tl) Δ P:=λg G H σ R k c=>
 h g G H σ _ k λv d G1 H1 Δ1 k1 s1 r1 hq_=>by
  obtain⟨ds,e,p1⟩:=hq_;subst e;obtain⟨a,vs,rfl,ha,rs⟩:=r1.inv
  next=>
   refine⟨a,rfl,⟨vs,SqT.of (k1.live _ _ ha)⟩,c _ ds G1 H1 Δ1 k1 s1 (λG2 H2 sg sh=>⟨⟨vs,SqT.of (sh _ _ (sg _ _ ha)),by rw[rs.length];exact Waf _⟩,λi d e=>?_⟩) p1⟩;obtain⟨v,hv,rv⟩:=rs.get e;refine⟨⟨vs,v,SqT.of (sh _ _ (sg _ _ ha)),hv⟩,λx H3 ⟨e3,y3⟩=>⟨G2,Same.refl _,by rw[e3];exact Same.refl _,λb o q=>⟨by rw[e3];exact sh b o q,.inl q⟩,?_⟩⟩;have:=y3 vs (SqT.of (sh _ _ (sg _ _ ha)));rw[hv]at this;cases this;exact rv.mono sg
theorem Zpc {tl:TE}{P:List D->Evt->Prop}(h:JE K tl Δ λd Δ1=>∃ds,(d=.lst ds\/d=.scr ds)/\P ds Δ1):JI K (iList K tl) Δ P:=λg G H σ R k c=>
 h g G H σ _ k λv d G1 H1 Δ1 k1 s1 r1 hq_=>by
  obtain⟨ds,e,p1⟩:=hq_;obtain⟨a,vs,ea,hs,rs⟩:∃a vs,v=.ref a/\SqL K G1 a vs/\Reps K G1 vs ds:=by
   rcases e with e|e
   ·subst e;cases r1 with|lst ha rs=>exact⟨_,_,rfl,SqL.of ha,rs⟩
   ·subst e;cases r1 with|scr ha rs=>exact⟨_,_,rfl,ha,rs⟩
  subst ea;refine⟨a,rfl,⟨vs,k1.live.seq hs⟩,c _ ds G1 H1 Δ1 k1 s1 (λG2 H2 sg sh=>⟨⟨vs,sh.seq (sg.seq hs),by rw[rs.length];exact Waf _⟩,λi d e=>?_⟩) p1⟩;obtain⟨v,hv,rv⟩:=rs.get e;refine⟨⟨vs,v,sh.seq (sg.seq hs),hv⟩,λx H3 ⟨e3,y3⟩=>⟨G2,Same.refl _,by rw[e3];exact Same.refl _,λb o q=>⟨by rw[e3];exact sh b o q,.inl q⟩,?_⟩⟩;have:=y3 vs (sh.seq (sg.seq hs));rw[hv]at this;cases this;exact rv.mono sg
def rngD (lo:Int) (n:Nat):List D:=(Wa4 n).map λi:Nat=>D.int (lo+(i:Int))
theorem Zby (lo:Int) (n:Nat):(rngD lo n).length=n:=by simp[rngD]
theorem Zdw {lo:Int}{n i:Nat}{d:D}(h:(rngD lo n)[i]?=some d):i<n/\d=.int (lo+(i:Int)):=by
 unfold rngD at h;rw[Wad]at h;cases e:(Wa4 n)[i]? with
 |none=>rw[e]at h;cases h
 |some j=>
  rw[e]at h;obtain⟨h1,h2⟩:=Waj.mp e;rw[List.getElem_range]at h2;subst h2;exact⟨by simpa using h1,(Wbo.inj h).symm⟩
theorem Zm6 {G:Hp}(lo:Int) (n:Nat):ItOk K G (Itr lo n) (rngD lo n):=λG1 H1 sg sh=>by
 refine⟨by show n<=(rngD lo n).length;rw[Zby];exact Waf _,λi d e=>?_⟩;obtain⟨h1,h2⟩:=Zdw e;subst h2;refine⟨h1,λx H2 ⟨e2,y2⟩=>⟨G1,Same.refl _,by rw[e2];exact Same.refl _,λb o q=>⟨by rw[e2];exact sh b o q,.inl q⟩,?_⟩⟩;subst y2;exact .int _
theorem Zbt {ta:TA}{P:List D->Evt->Prop}(h:JA K ta Δ λds Δ1=>∃n:Int,ds=[.int n] /\ -(2 ^ 62)<=n/\n<2 ^ 62/\P (rngD 0 n.toNat) Δ1):JI K (iRng1 ta) Δ P:=λg G H σ R k c=>
 h g G H σ _ k λvs ds G1 H1 Δ1 k1 s1 r1 hq_=>by
  obtain⟨n,e,h1,h2,p1⟩:=hq_;subst e;obtain⟨_,_,rfl,ra,rr⟩:=r1.inv
  next=>
   cases rr.inv;cases ra.inv;exact⟨n,rfl,h1,h2,c _ _ G1 H1 Δ1 k1 s1 (Zm6 0 _) p1⟩
theorem Zq6 {wi:TI}{t:TG}{tb:TS}{P:Pst}(h:JI K wi Δ λds Δ1=>∃I:Nat->Evt->Prop,I 0 Δ1/\(∀i d Δ2,ds[i]?=some d->I i Δ2->JG K t d Δ2 λΔ3=>JS K tb Δ3 ⟨I (i+1),P.rt,P.nx,I (i+1),P.ro⟩)/\∀Δ2,I ds.length Δ2->P.nx Δ2) :
  JS K (tFor wi t tb) Δ P:=λg G H σ E k c=>
 h g G H σ _ k λJ ds G1 H1 Δ1 k1 s1 it hq_=>by
  obtain⟨I,h0,ht,he⟩:=hq_;refine⟨λi m σ H=>m=ds.length-i/\i<=ds.length/\∃G Δ,Ok K g G H σ Δ /\ Same G1 G/\I i Δ,⟨ds.length,by simp,Wbq _,G1,Δ1,k1,Same.refl _,h0⟩,?_⟩;rintro i m σ2 H2 ⟨rfl,hi,G2,Δ2,k2,s2,h2⟩;obtain⟨stop,go⟩:=it G2 H2 s2 k2.live;by_cases hlt:i<ds.length
  ·obtain⟨g1,g2⟩:=go i _ (Wac hlt)
   refine .inr ⟨g1,λσ' H'=>i+1<=ds.length/\∃G Δ,Ok K g G H' σ' Δ /\ Same G1 G/\I (i+1) Δ,λσ' H' p'=>⟨ds.length-(i+1),by omega,rfl,p'.1,p'.2⟩,λx H3 y=>?_⟩;obtain⟨G3,a1,a2,a3,a4⟩:=g2 x H3 y;have k3:=k2.grow a1 a2 a3;refine ht i _ Δ2 (Wac hlt) h2 { g with F:=G3,Xo:=g.Xo } G3 H3 σ2 x _ ?_ a4 λσ4 G4 H4 Δ4 k4 s4 p4=>?_
   ·exact⟨k3.same,k3.lent,Same.refl _,λb o q=>⟨(k3.frz b o q).1,.inr q⟩,k3.ext,k3.len,k3.val,k3.own,k3.dis⟩
   ·have cv:∀{G5 H5:Hp}{σ5:St}{Δ5:Evt},Ok K { g with F:=G3,Xo:=g.Xo } G5 H5 σ5 Δ5->Ok K g G5 H5 σ5 Δ5/\Same G1 G5:=λ{G5 H5 σ5 Δ5} k5=>
     ⟨⟨k5.same,k5.lent,k3.sub.trans k5.sub,λb o q=>by
      obtain⟨q1,q2⟩:=k5.frz b o q;refine⟨q1,?_⟩;rcases q2 with z|z
      ·exact .inl z
      ·exact(k3.frz b o z).2,k5.ext,k5.len,k5.val,k5.own,k5.dis⟩,s2.trans (a1.trans k5.sub)⟩
    refine p4 _ G4 H4 σ4 _ k4 ⟨λσ5 G5 H5 Δ5 k5 p5=>?_,λv d σ5 G5 H5 Δ5 k5 r5 p5=>?_,λσ5 G5 H5 Δ5 k5 p5=>?_,λσ5 G5 H5 Δ5 k5 p5=>?_,λa od σ5 G5 H5 Δ5 k5 pd5 p5=>?_⟩
    ·exact⟨hlt,G5,Δ5,(cv k5).1,(cv k5).2,p5⟩
    ·exact c.rt v d σ5 G5 H5 Δ5 (cv k5).1 r5 p5
    ·exact c.nx σ5 G5 H5 Δ5 (cv k5).1 p5
    ·exact⟨hlt,G5,Δ5,(cv k5).1,(cv k5).2,p5⟩
    ·exact c.ro a od σ5 G5 H5 Δ5 (cv k5).1 pd5 p5
  ·have e:i=ds.length:=by omega
   subst e;exact .inl ⟨stop,c.nx σ2 G2 H2 Δ2 k2 (he Δ2 h2)⟩
end
section
variable {K:W.Frag}{Δ:Evt}{P:D->Evt->Prop}
theorem jr_I {C:Int->Int->Prop}{f:Int->Int->Int}{i j:Int}(hc:C i j) (p:P (.int (f i j)) Δ):JR2 K (rI C λi j=>.int (f i j)) (.int i) (.int j) Δ P:=λg G H σ Q x y k rx ry c=>by
 cases rx.inv;cases ry.inv;exact⟨i,j,rfl,rfl,hc,c _ _ G H Δ k (Same.refl _) (.int _) p⟩
theorem Zi0 {f:Int->Int->Int}{i j:Int}(p:P (.int (f i j)) Δ):JR2 K (rI0 λi j=>.int (f i j)) (.int i) (.int j) Δ P:=λg G H σ Q x y k rx ry c=>by
 cases rx.inv;cases ry.inv;exact⟨i,j,rfl,rfl,c _ _ G H Δ k (Same.refl _) (.int _) p⟩
theorem Zf1 {f:Int->Int->Bool}{i j:Int}(p:P (.bl (f i j)) Δ):JR2 K (rI0 λi j=>.bl (f i j)) (.int i) (.int j) Δ P:=λg G H σ Q x y k rx ry c=>by
 cases rx.inv;cases ry.inv;exact⟨i,j,rfl,rfl,c _ _ G H Δ k (Same.refl _) (.bl _) p⟩
theorem Zdg {i j:Int}(p:P (.bl (decide (i=j))) Δ):JR2 K rEq (.int i) (.int j) Δ P:=λg G H σ Q x y k rx ry c=>by
 cases rx.inv;cases ry.inv;refine⟨rfl,?_⟩;have e:decide (V.int i=V.int j)=decide (i=j):=by rw[Zg2];exact(Bool.beq_eq_decide_eq i j)
 rw[e];exact c _ _ G H Δ k (Same.refl _) (.bl _) p
theorem Zfz {i j:Int}(p:P (.bl (!decide (i=j))) Δ):JR2 K rNe (.int i) (.int j) Δ P:=λg G H σ Q x y k rx ry c=>by
 cases rx.inv;cases ry.inv;refine⟨rfl,?_⟩;have e:decide (V.int i=V.int j)=decide (i=j):=by rw[Zg2];exact(Bool.beq_eq_decide_eq i j)
 rw[e];exact c _ _ G H Δ k (Same.refl _) (.bl _) p
theorem Zoh {i j:Bool}(p:P (.bl (decide (i=j))) Δ):JR2 K rEq (.bl i) (.bl j) Δ P:=λg G H σ Q x y k rx ry c=>by
 cases rx.inv;cases ry.inv;refine⟨rfl,?_⟩;have e:decide (V.bl i=V.bl j)=decide (i=j):=by cases i <;> cases j <;> rfl
 rw[e];exact c _ _ G H Δ k (Same.refl _) (.bl _) p
theorem Zn5 {i j:Bool}(p:P (.bl (!decide (i=j))) Δ):JR2 K rNe (.bl i) (.bl j) Δ P:=λg G H σ Q x y k rx ry c=>by
 cases rx.inv;cases ry.inv;refine⟨rfl,?_⟩;have e:decide (V.bl i=V.bl j)=decide (i=j):=by cases i <;> cases j <;> rfl
 rw[e];exact c _ _ G H Δ k (Same.refl _) (.bl _) p
theorem Zrs {ds:List D}{i:Int}{d:D}(h:atI ds i=some d) (p:P d Δ):JR2 K (rIxT K) (.tup ds) (.int i) Δ P:=λg G H σ Q x y k rx ry c=>by
 obtain⟨_,_,rfl,ha,rs⟩:=rx.inv
 next=>
  cases ry.inv;obtain⟨v,h1,h2⟩:=Zgy rs h;exact⟨_,_,i,v,rfl,rfl,SqT.of (k.live _ _ ha),h1,c v d G H Δ k (Same.refl _) h2 p⟩
theorem Zro {ds:List D}{i:Int}{d:D}(h:atI ds i=some d) (p:P d Δ):JR2 K (rIxL K) (.lst ds) (.int i) Δ P:=λg G H σ Q x y k rx ry c=>by
 obtain⟨_,_,rfl,ha,rs⟩:=rx.inv
 next=>
  cases ry.inv;obtain⟨v,h1,h2⟩:=Zgy rs h;exact⟨_,_,i,v,rfl,rfl,SqL.of (k.live _ _ ha),h1,c v d G H Δ k (Same.refl _) h2 p⟩
theorem Zl5 {n:Nat}{te:TE}{Pp:Pst}{x:Slot}{od:OD}(hx:Δ[n]?=some x) (ho:x.od=some od) (hod:∃ds,od=.lst ds)
  (h:JE K te Δ λd Δ1=>∃y ds,Δ1[n]?=some y/\y.od=some (.lst ds)/\ds.length<sizeLine/\Pp.nx (Δ1.set n (y.put (.lst (ds++[d]))))) :
  JS K (tDrop (tBM K "list" rAppend (tVar n) (tCons te tNil))) Δ Pp:=λg G H σ E k c=>by
 obtain⟨a,o,h1,h2,h3,h4,h5⟩:=k.own n x _ hx ho;obtain⟨ds0,hod⟩:=hod;subst hod;cases o with
 |lst vs0=>
  refine⟨.ref a,h1,.inl ⟨rfl,_,SqL.of h2⟩,h g G H σ _ k λv d G1 H1 Δ1 k1 s1 r1 ⟨y,ds,q1,q2,q3,p⟩=>?_⟩;obtain⟨a',o',w1,w2,w3,w4,w5⟩:=k1.own n y _ q1 q2;rw[h1]at w1;cases w1;cases o' with
  |lst vs=>
   have w3:Reps K G1 vs ds:=w3;exact⟨a,vs,v,rfl,rfl,w2,by rw[w3.length];exact q3,c.nx σ G1 _ _ (k1.write q1 q2 h1 (show OwnRep K G1 (.lst (vs++[v])) (.lst (ds++[d])) from w3.append (.cons r1 .nil))) p⟩
  |_=>exact absurd w3 (λz=>z)
 |_=>exact absurd h3 (λz=>z)
theorem Zq0 {ds es:List D}(he:ds=[.lst es]\/ds=[.tup es]) (p:P (.int es.length) Δ) :
  JC K (λxs H Q=>∃p ys,xs=[.ref p]/\(SqL K H p ys\/SqT K H p ys)/\Q (.int ys.length) H) ds Δ P:=λg G H σ Q vs k rs c=>by
 rcases he with he|he <;> subst he
 ·obtain⟨_,_,rfl,r,t⟩:=rs.inv
  next=>
   cases t.inv;obtain⟨_,_,rfl,ha,rs⟩:=r.inv
   next=>
    refine⟨_,_,rfl,.inl (SqL.of (k.live _ _ ha)),?_⟩;rw[rs.length];exact c _ _ G H Δ k (Same.refl _) (.int _) p
 ·obtain⟨_,_,rfl,r,t⟩:=rs.inv
  next=>
   cases t.inv;obtain⟨_,_,rfl,ha,rs⟩:=r.inv
   next=>
    refine⟨_,_,rfl,.inr (SqT.of (k.live _ _ ha)),?_⟩;rw[rs.length];exact c _ _ G H Δ k (Same.refl _) (.int _) p
theorem Zor {n:Nat}{x:Slot}{ds:List D}(hx:Δ[n]?=some x) (ho:x.od=some (.lst ds)) (p:P (.int ds.length) Δ) :
  JE K (tCB (λxs H Q=>∃p ys,xs=[.ref p]/\(SqL K H p ys\/SqT K H p ys)/\Q (.int ys.length) H) (tCons (tVar n) tNil)) Δ P:=λg G H σ Q k c=>by
 obtain⟨a,o,h1,h2,h3,h4,h5⟩:=k.own n x _ hx ho;cases o with
 |lst vs=>
  have h3:Reps K G vs ds:=h3;refine⟨.ref a,h1,a,vs,rfl,.inl (SqL.of h2),?_⟩;rw[h3.length];exact c _ _ G H Δ k (Same.refl _) (.int _) p
 |_=>exact absurd h3 (λz=>z)
theorem Zp8 {i:Int}(p:P (.int (if i<0 then -i else i)) Δ):JC K (λxs H Q=>∃i,xs=[.int i]/\Q (.int (if i<0 then -i else i)) H) [.int i] Δ P:=λg G H σ Q vs k rs c=>by
 obtain⟨_,_,rfl,r,t⟩:=rs.inv
 next=>cases t.inv;cases r.inv;exact⟨i,rfl,c _ _ G H Δ k (Same.refl _) (.int _) p⟩
theorem Zf5 {f:Int->Int->Int}{i j:Int}(p:P (.int (f i j)) Δ):JC K (λxs H Q=>∃i j,xs=[.int i,.int j]/\Q (.int (f i j)) H) [.int i,.int j] Δ P:=λg G H σ Q vs k rs c=>by
 obtain⟨_,_,rfl,r,t⟩:=rs.inv
 next=>
  obtain⟨_,_,rfl,r',t⟩:=t.inv
  next=>cases t.inv;cases r.inv;cases r'.inv;exact⟨i,j,rfl,c _ _ G H Δ k (Same.refl _) (.int _) p⟩
theorem Znu {ds es:List D}(he:ds=[.lst es]\/ds=[.tup es]) (p:P (.tup es) Δ) :
  JC K (λxs H Q=>∃p ys,xs=[.ref p]/\((SqL K H p ys/\∀l,H l=none->Q (.ref l) (upd H l (.tup ys)))\/(SqT K H p ys/\Q (.ref p) H))) ds Δ P:=λg G H σ Q vs k rs c=>by
 rcases he with he|he <;> subst he
 ·obtain⟨_,_,rfl,r,t⟩:=rs.inv
  next=>
   cases t.inv;obtain⟨_,_,rfl,ha,rs⟩:=r.inv
   next=>
    refine⟨_,_,rfl,.inl ⟨SqL.of (k.live _ _ ha),λl hl=>?_⟩⟩;obtain⟨k2,sg⟩:=k.laid hl (.tup _);exact c _ _ _ _ Δ k2 sg (.tup Zay (rs.mono sg)) p
 ·obtain⟨_,_,rfl,r,t⟩:=rs.inv
  next=>
   cases t.inv;obtain⟨_,_,rfl,ha,rs⟩:=r.inv
   next=>exact⟨_,_,rfl,.inr ⟨SqT.of (k.live _ _ ha),c _ _ G H Δ k (Same.refl _) (.tup ha rs) p⟩⟩
def glue (F H H':Hp):Hp:=λb=>match H b with
 |none=>H' b
 |some _=>F b
theorem Ze3 {F H H':Hp}{b:Addr}(h:H b=none):glue F H H' b=H' b:=by unfold glue;rw[h]
theorem Zdv {F H H':Hp}{b:Addr}{o:HO}(h:H b=some o):glue F H H' b=F b:=by unfold glue;rw[h]
theorem Zgw {G H H':Hp}(l:Same G H):Same G (glue G H H'):=λb o e=>by rw[Zdv (l b o e)];exact e
theorem Zi1 {G H H':Hp}(l:Same G H) (sh:∀b o,G b=some o->H b=some o->H' b=some o):∀b o,glue G H H' b=some o->H' b=some o/\(G b=some o\/H b=none):=λb o e=>by
 cases q:H b with
 |none=>rw[Ze3 q]at e;exact⟨e,.inr rfl⟩
 |some u=>rw[Zdv q]at e;exact⟨sh b o e (l b o e),.inl e⟩
abbrev DSp:=List D->(D->Prop)->Prop
def spD (K:W.Frag) (f:DSp):Sp:=λvs H Q _=>∃F ds Post,Same F H/\Reps K F vs ds/\f ds Post/\∀r H' d,Same H H' -> Rep K (glue F H H') r d->Post d->Q r H'
theorem Zb0 {f:DSp}{ta:TA}{E:XK}(h:JA K ta Δ λds Δ1=>f ds λd=>P d Δ1):JE K (tCall (spD K f) [] E ta) Δ P:=λg G H σ Q k c=>
 h g G H σ _ k λvs ds G1 H1 Δ1 k1 s1 r1 p1=>by
  show spD K f (vs++[]) H1 Q E;rw[Wbh];refine⟨G1,ds,_,k1.live,r1,p1,λr H' d sh rr pd=>?_⟩;have sg:=Zgw (H':=H') k1.live;exact c r d _ H' Δ1 (k1.grow sg sh (Zi1 k1.live λb o _ e=>sh b o e)) (s1.trans sg) rr pd
abbrev BSp:=List D->List D->(D->List D->Prop)->Prop
def spB (K:W.Frag) (f:BSp):Sp:=λvs H Q _=>∃F a us ws ps ds Post,vs=.ref a::ws/\Same F H/\F a=none/\H a=some (.lst us)/\Reps K F us ps/\Reps K F ws ds/\f ps ds Post ∧
 ∀r H' us' ps' d,(∀b o,b≠a->H b=some o->H' b=some o)->H' a=some (.lst us')->Reps K (glue F H H') us' ps' -> Rep K (glue F H H') r d->Post d ps' -> Q r H'
theorem Ok.lend {g:Gm}{G H H':Hp}{σ:St}(k:Ok K g G H σ Δ) {i:Nat}{x:Slot}{ps ps':List D}{us':List V}{a:Addr}(hx:Δ[i]?=some x) (ho:x.od=some (.lst ps)) (ha:σ[i]?=some (some (.ref a)))
  (sh:∀b o,b≠a->H b=some o->H' b=some o) (hn:H' a=some (.lst us')) (r:Reps K (glue G H H') us' ps'):Ok K g (glue G H H') H' σ (Δ.set i (x.put (.lst ps')))/\Same G (glue G H H'):=by
 obtain⟨a',o,h1,h2,h3,h4,h5⟩:=k.own i x _ hx ho;rw[ha]at h1;cases h1;have sg:=Zgw (H':=H') k.live;have k2:Ok K g (glue G H H') (upd H' a o) σ Δ:=by
  refine k.grow sg (λb u e=>?_) λb u e=>?_
  ·by_cases hb:b=a
   ·subst hb;rw[Zay,<- h2];exact e
   ·rw[Zas hb];exact sh b u hb e
  ·have hb:b≠a:=by intro z;subst z;rw[Zdv h2,h4]at e;cases e
   rw[Zas hb];exact Zi1 k.live (λc w e1 e2=>sh c w (λz=>by subst z;rw[h4]at e1;cases e1) e2) b u e
 have k3:=k2.write hx ho ha (show OwnRep K (glue G H H') (.lst us') (.lst ps') from r);rw[Zot]at k3;have e:upd H' a (.lst us')=H':=by
  funext b
  by_cases hb:b=a
  ·subst hb;rw[Zay,hn]
  ·rw[Zas hb]
 rw[e]at k3;exact⟨k3,sg⟩
theorem Zep {f:BSp}{ta:TA}{E:XK}{i:Nat}{x:Slot}{od:OD}(hx:Δ[i]?=some x) (ho:x.od=some od) (h:JA K ta Δ λds Δ1=>∃y ps,Δ1[i]?=some y/\y.od=some (.lst ps)/\f ps ds λd ps'=>P d (Δ1.set i (y.put (.lst ps')))) :
  JE K (tCall (spB K f) [] E (tCons (tVar i) ta)) Δ P:=λg G H σ Q k c=>by
 obtain⟨a,o,h1,h2,h3,h4,h5⟩:=k.own i x _ hx ho;refine⟨.ref a,h1,h g G H σ _ k λvs ds G1 H1 Δ1 k1 s1 r1 ⟨y,ps,q1,q2,p1⟩=>?_⟩;show spB K f ((.ref a::vs)++[]) H1 Q E;rw[Wbh];obtain⟨a',o',w1,w2,w3,w4,w5⟩:=k1.own i y _ q1 q2;rw[h1]at w1;cases w1;cases o' with
 |lst us=>
  refine⟨G1,a,us,vs,ps,ds,_,rfl,k1.live,w4,w2,w3,r1,p1,λr H' us' ps' d sh hn rr rd pd=>?_⟩;obtain⟨k2,sg⟩:=k1.lend q1 q2 h1 sh hn rr;exact c r d _ H' _ k2 (s1.trans sg) rd pd
 |_=>exact absurd w3 (λz=>z)
abbrev NSp:=List D->(List D->Prop)->Prop
def spN (K:W.Frag) (f:NSp):Sp:=λvs H Q _=>∃F ds Post,Same F H/\Reps K F vs ds/\f ds Post ∧
 ∀a H' us ps,Same H H' -> H a=none->H' a=some (.lst us)->Reps K (λb=>if b=a then none else glue F H H' b) us ps->Post ps->Q (.ref a) H'
theorem Zh5 {f:NSp}{ta:TA}{E:XK}{Po:OD->Evt->Prop}(h:JA K ta Δ λds Δ1=>f ds λps=>Po (.lst ps) Δ1):JO K (tCall (spN K f) [] E ta) Δ Po:=λg G H σ Q k c=>
 h g G H σ _ k λvs ds G1 H1 Δ1 k1 s1 r1 p1=>by
  show spN K f (vs++[]) H1 Q E;rw[Wbh];refine⟨G1,ds,_,k1.live,r1,p1,λa H' us ps sh ha hn rr pd=>?_⟩;have sg:Same G1 (λb=>if b=a then none else glue G1 H1 H' b):=λb o e=>by
   have hb:b≠a:=by intro z;subst z;rw[k1.live _ _ e]at ha;cases ha
   try dsimp only
   rw[if_neg hb];exact Zgw k1.live b o e
  have k2:Ok K g (λb=>if b=a then none else glue G1 H1 H' b) H' σ Δ1:=k1.grow sg sh λb o e=>by
   try dsimp only at e
   by_cases hb:b=a
   ·rw[if_pos hb]at e;cases e
   ·rw[if_neg hb]at e;exact Zi1 k1.live (λb o _ e=>sh b o e) b o e
  refine c a _ _ H' Δ1 k2 (s1.trans sg) ⟨.lst us,hn,(show OwnRep K _ (.lst us) (.lst ps) from rr),by simp,k1.there ha,?_,λj x od' e1 e2 e3=>?_⟩ pd
  ·cases q:g.Xo a with
   |none=>rfl
   |some u=>have z:=(k1.ext a u q).1;rw[ha]at z;cases z
  ·obtain⟨b,oo,w1,w2,_⟩:=k1.own j x od' e1 e2
   rw[e3]at w1;cases w1;rw[ha]at w2;cases w2
end
def startD (N:List Str) (ds:List D):Evt:=ds.map .val++Waw (N.length-ds.length) .any
section
variable {K:W.Frag}
theorem Zgv {g:Gm}{G H:Hp}{N:List Str}{vs:List V}{ds:List D}(rs:Reps K G vs ds) (hl:ds.length<=N.length) (same:∀b o,¬ g.B b->g.Hz b=some o->H b=some o) (lent:∀b,g.B b->H b≠none) (sub:Same g.F G)
  (frz:∀b o,G b=some o->H b=some o/\(g.Hz b=none\/g.F b=some o)) (ext:∀b,g.Xo b=none):Ok K g G H (start N vs) (startD N ds):=by
 have noOd:∀(i:Nat) x od,(startD N ds)[i]?=some x->x.od=some od->False:=λi x od e1 e2=>by
  have hm:=Wah e1;rcases Waz.mp hm with z|z
  ·obtain⟨d,_,rfl⟩:=Wa1.mp z;cases e2
  ·rw[List.mem_replicate]at z;rw[z.2]at e2;cases e2
 refine⟨same,lent,sub,frz,λb o e=>(by rw[ext b]at e;cases e),?_,λi d e=>?_,λi x od e1 e2=>(noOd i x od e1 e2).elim,λi j x y od od' a e1 e2=>(noOd i x od e1 e2).elim⟩
 ·unfold start startD
  rw[Wag,Wag,Wab,Wab,Wba,Wba,rs.length]
 ·unfold startD at e
  unfold start;by_cases hi:i<ds.length
  ·rw[Wa3 (by simpa using hi),Wad]at e
   cases q:ds[i]? with
   |none=>rw[q]at e;cases e
   |some d'=>
    rw[q]at e;have e:Slot.val d'=Slot.val d:=by simpa using e
    cases e;obtain⟨v,h1,h2⟩:=rs.get q;refine⟨v,?_,h2⟩;rw[Wa3 (by rw[Wab,rs.length];exact hi),Wad,h1];rfl
  ·rw[Wap (by simpa using hi),Wbx]at e
   split at e <;> cases e
theorem Zee {f:DSp}{t:TS}{N:List Str}{vs:List V}{H:Hp}{Q:VK}{E:XK}(ht:∀ds Post,f ds Post->ds.length<=N.length/\JS K t (startD N ds) ⟨λ_=>Post .non,λd _=>Post d,λ_=>False,λ_=>False,λ_ _=>False⟩) (h:spD K f vs H Q E) :
  t { nx:=λ_ H'=>Q .non H',rt:=Q } (start N vs) H:=by
 obtain⟨F,ds,Post,l,rs,hf,q⟩:=h;obtain⟨hl,hj⟩:=ht ds Post hf;have fin:∀{v:V}{d:D}{σ:St}{G H':Hp}{Δ:Evt},Ok K ⟨λ_=>False,F,H,λ_=>none⟩ G H' σ Δ -> Rep K G v d->Post d->Q v H':=λ{v d σ G H' Δ} k r p=>by
  refine q v H' d (λb o e=>k.same b o (λz=>z) e) (r.mono λb o e=>?_) p;obtain⟨e1,e2⟩:=k.frz b o e;rcases e2 with z|z
  ·rw[Ze3 z];exact e1
  ·rw[Zdv (l b o z)];exact z
 refine hj ⟨λ_=>False,F,H,λ_=>none⟩ F H (start N vs) _ (Zgv rs hl (λ_ _ _ e=>e) (λ_ z=>z.elim) (Same.refl _) (λb o e=>⟨l b o e,.inr e⟩) λ_=>rfl) ⟨λσ G H' Δ k p=>fin k .non p,λv d σ G H' Δ k r p=>fin k r p,λ_ _ _ _ _ z=>z.elim,λ_ _ _ _ _ z=>z.elim,λ_ _ _ _ _ _ _ _ z=>z.elim⟩
theorem Zol {f:NSp}{t:TS}{N:List Str}{vs:List V}{H:Hp}{Q:VK}{E:XK}(ht:∀ds Post,f ds Post->ds.length<=N.length/\JS K t (startD N ds) ⟨λ_=>False,λ_ _=>False,λ_=>False,λ_=>False,λod _=>∃ps,od=.lst ps/\Post ps⟩) (h:spN K f vs H Q E) :
  t { nx:=λ_ H'=>Q .non H',rt:=Q } (start N vs) H:=by
 obtain⟨F,ds,Post,l,rs,hf,q⟩:=h;obtain⟨hl,hj⟩:=ht ds Post hf;refine hj ⟨λ_=>False,F,H,λ_=>none⟩ F H (start N vs) _ (Zgv rs hl (λ_ _ _ e=>e) (λ_ z=>z.elim) (Same.refl _) (λb o e=>⟨l b o e,.inr e⟩) λ_=>rfl) ⟨λ_ _ _ _ _ z=>z.elim,λ_ _ _ _ _ _ _ _ z=>z.elim,λ_ _ _ _ _ z=>z.elim,λ_ _ _ _ _ z=>z.elim,λa od σ G H' Δ k pd ⟨ps,e,p⟩=>?_⟩;subst e;obtain⟨o,h1,h2,h3,h4,h5,h6⟩:=pd;cases o with
 |lst us=>
  refine q a H' us ps (λb o e=>k.same b o (λz=>z) e) h4 h1 (Reps.mono (λb o e=>?_) (show Reps K G us ps from h2)) p;have hb:b≠a:=by intro z;subst z;rw[h3]at e;cases e
  try dsimp only
  rw[if_neg hb];obtain⟨e1,e2⟩:=k.frz b o e;rcases e2 with z|z
  ·rw[Ze3 z];exact e1
  ·rw[Zdv (l b o z)];exact z
 |_=>exact absurd h2 (λz=>z)
theorem Zip {f:BSp}{t:TS}{N:List Str}{vs:List V}{H:Hp}{Q:VK}{E:XK}(ht:∀ps ds Post,f ps ds Post->ds.length+1<=N.length/\JS K t (.bor (.lst ps)::startD N.tail ds) ⟨λΔ=>∃ps',Δ[0]?=some (.bor (.lst ps'))/\Post .non ps',λd Δ=>∃ps',Δ[0]?=some (.bor (.lst ps'))/\Post d ps',λ_=>False,λ_=>False,λ_ _=>False⟩) (h:spB K f vs H Q E) :
  t { nx:=λ_ H'=>Q .non H',rt:=Q } (start N vs) H:=by
 obtain⟨F,a,us,ws,ps,ds,Post,rfl,l,fa,ha,ru,rs,hf,q⟩:=h;obtain⟨hl,hj⟩:=ht ps ds Post hf;have fin:∀{v:V}{d:D}{σ:St}{G H':Hp}{Δ:Evt}{ps':List D},Ok K ⟨λb=>b=a,F,H,λ_=>none⟩ G H' σ Δ -> Δ[0]?=some (.bor (.lst ps'))->Rep K G v d->Post d ps' -> Q v H':=λ{v d σ G H' Δ ps'} k e0 r p=>by
  obtain⟨a',o,h1,h2,h3,h4,h5⟩:=k.own 0 _ _ e0 rfl;have ea:a'=a:=h5;subst ea;cases o with
  |lst us'=>
   have up:Same G (glue F H H'):=λb o e=>by
    obtain⟨e1,e2⟩:=k.frz b o e;rcases e2 with z|z
    ·rw[Ze3 z];exact e1
    ·rw[Zdv (l b o z)];exact z
   exact q v H' us' ps' d (λb o hb e=>k.same b o hb e) h2 (Reps.mono up (show Reps K G us' ps' from h3)) (r.mono up) p
  |_=>exact absurd h3 (λz=>z)
 cases N with
 |nil=>simp at hl
 |cons n0 N=>
  have hl':ds.length<=N.length:=by simpa using hl
  have k0:=Zgv (K:=K) (H:=H) (g:=⟨λb=>b=a,F,H,λ_=>none⟩) (N:=N) rs hl' (λ_ _ _ e=>e) (λb z=>by subst z;rw[ha];intro w;cases w) (Same.refl _) (λb o e=>⟨l b o e,.inr e⟩) λ_=>rfl;have e1:start (n0::N) (.ref a::ws)=some (.ref a)::start N ws:=by
   unfold start;rw[Wbb,Wbk,Wbk,Nat.add_sub_add_right];rfl
  rw[e1];have noOd:∀(i:Nat) x od,(startD N ds)[i]?=some x->x.od=some od->False:=λi x od e1 e2=>by
   have hm:=Wah e1;rcases Waz.mp hm with z|z
   ·obtain⟨d,_,rfl⟩:=Wa1.mp z;cases e2
   ·rw[List.mem_replicate]at z;rw[z.2]at e2;cases e2
  have k1:Ok K ⟨λb=>b=a,F,H,λ_=>none⟩ F H (some (.ref a)::start N ws) (.bor (.lst ps)::startD N ds):=by
   refine⟨k0.same,k0.lent,k0.sub,k0.frz,λb o e=>(by cases e),(by rw[Wbk,Wbk,k0.len]),λi d e=>?_,λi x od e1 e2=>?_,λi j x y od od' c e1 e2 e3 e4 _ _=>?_⟩
   ·cases i with
    |zero=>cases e
    |succ i=>exact k0.val i d e
   ·cases i with
    |zero=>cases e1;cases e2;exact⟨a,.lst us,rfl,ha,ru,fa,rfl⟩
    |succ i=>exact(noOd i x od e1 e2).elim
   ·cases i with
    |zero=>cases j with
     |zero=>rfl
     |succ j=>exact(noOd j y od' e3 e4).elim
    |succ i=>exact(noOd i x od e1 e2).elim
  exact hj _ F H _ _ k1 ⟨λσ G H' Δ k ⟨ps',e,p⟩=>fin k e .non p,λv d σ G H' Δ k r ⟨ps',e,p⟩=>fin k e r p,λ_ _ _ _ _ z=>z.elim,λ_ _ _ _ _ z=>z.elim,λ_ _ _ _ _ _ _ _ z=>z.elim⟩
theorem Zca {f:DSp}{n:Nat}(h:∀ds Post,f ds Post->ds.length=n):∀vs H Q E,spD K f vs H Q E->vs.length=n:=λvs H Q E hq_=>by obtain⟨F,ds,Post,l,rs,hf,q⟩:=hq_;rw[rs.length];exact h ds Post hf
theorem Zis {f:NSp}{n:Nat}(h:∀ds Post,f ds Post->ds.length=n):∀vs H Q E,spN K f vs H Q E->vs.length=n:=λvs H Q E hq_=>by obtain⟨F,ds,Post,l,rs,hf,q⟩:=hq_;rw[rs.length];exact h ds Post hf
theorem Zd1 {f:BSp}{n:Nat}(h:∀ps ds Post,f ps ds Post->ds.length+1=n):∀vs H Q E,spB K f vs H Q E->vs.length=n:=λvs H Q E hq_=>by obtain⟨F,a,us,ws,ps,ds,Post,e,l,fa,ha,ru,rs,hf,q⟩:=hq_;rw[e,Wbk,rs.length];exact h ps ds Post hf
end
def JGn (K:W.Frag) (n:Nat) (t:TG) (d:D) (Δ:Evt) (P:Evt->Prop):Prop:=
 ∀g G H σ v (R:St->Hp->Prop),Ok K g G H σ Δ -> Rep K G v d->(∀σ' G' H' Δ',Ok K g G' H' σ' Δ' -> Same G G' -> (∀j,n<=j -> σ'[j]? = σ[j]?)->P Δ' -> R σ' H')->t v σ H R
def JGsn (K:W.Frag) (n:Nat) (t:TGs) (ds:List D) (Δ:Evt) (P:Evt->Prop):Prop:=
 ∀g G H σ vs (R:St->Hp->Prop),Ok K g G H σ Δ -> Reps K G vs ds->(∀σ' G' H' Δ',Ok K g G' H' σ' Δ' -> Same G G' -> (∀j,n<=j -> σ'[j]? = σ[j]?)->P Δ' -> R σ' H')->t vs σ H R
section
variable {K:W.Frag}{Δ:Evt}
theorem Zgx {n:Nat}{P:Evt->Prop}(p:P Δ):JGsn K n gNil [] Δ P:=λg G H σ vs R k r c=>by cases r;exact⟨rfl,c σ G H Δ k (Same.refl _) (λ_ _=>rfl) p⟩
theorem Zc6 {n:Nat}{t:TG}{u:TGs}{d:D}{ds:List D}{P:Evt->Prop}(h:JGn K n t d Δ λΔ1=>JGsn K n u ds Δ1 P):JGsn K n (gCons t u) (d::ds) Δ P:=λg G H σ vs R k r c=>by
 obtain⟨_,_,rfl,r1,rr⟩:=r.inv
 next=>exact⟨_,_,rfl,h g G H σ _ _ k r1 λσ1 G1 H1 Δ1 k1 s1 e1 p1=>p1 g G1 H1 σ1 _ R k1 (rr.mono s1) λσ2 G2 H2 Δ2 k2 s2 e2 p2=>c σ2 G2 H2 Δ2 k2 (s1.trans s2) (λj hj=>(e2 j hj).trans (e1 j hj)) p2⟩
theorem Zh7 {n m:Nat}{t:TGs}{ds:List D}{P:Evt->Prop}(hl:ds.length=m) (h:JGsn K n t ds Δ P):JGn K n (gTup K m t) (.tup ds) Δ P:=λg G H σ v R k r c=>by
 obtain⟨_,_,rfl,ha,rs⟩:=r.inv
 next=>exact⟨_,_,rfl,SqT.of (k.live _ _ ha),by rw[rs.length];exact hl,h g G H σ _ R k rs c⟩
end
def compD (n:Nat) (sel:List Nat) (Δ:Evt):Evt:=Waw n .any++sel.map λi=>(Δ[i]?).getD .any
def backAt (n:Nat) (sel:List Nat) (Δi:Evt) (i:Nat) (x:Slot):Slot:=match x with
 |.val d=>.val d
 |.any=>.any
 |x=>match sel.idxOf? i with
  |none=>x
  |some j=>match Δi[n+j]? with
   |some (.own o)=>.own o
   |some (.bor o)=>.bor o
   |some (.ownA a o)=>.ownA a o
   |_=>.any
def backD (n:Nat) (sel:List Nat) (Δi:Evt):Nat->Evt->Evt
 |_,[]=>[]
 |i,x::r=>backAt n sel Δi i x::backD n sel Δi (i+1) r
theorem Zc3 (n:Nat) (sel:List Nat) (Δi:Evt):∀(Δ:Evt) (k i:Nat),(backD n sel Δi k Δ)[i]?=(Δ[i]?).map (backAt n sel Δi (k+i))
 |[],k,i=>by simp[backD]
 |x::r,k,0=>by simp[backD]
 |x::r,k,i+1=>by
  have:=Zc3 n sel Δi r (k+1) i;simp only[backD,List.getElem?_cons_succ];rw[this,show k+1+i=k+(i+1) by omega]
theorem Zhl (n:Nat) (sel:List Nat) (Δi:Evt):∀(Δ:Evt) (k:Nat),(backD n sel Δi k Δ).length = Δ.length
 |[],k=>rfl
 |x::r,k=>by simp[backD,Zhl n sel Δi r (k+1)]
theorem Zd7 {sel:List Nat}{i j:Nat}(h:sel.idxOf? i=some j):sel[j]?=some i:=by
 have h2:=List.idxOf?_eq_some_iff.mp h;obtain⟨hj,e,_⟩:=h2;rw[Wac hj,e]
theorem Zmg {n:Nat}{sel:List Nat}{Δi:Evt}{i:Nat}{x y:Slot}{od:OD}(h:backAt n sel Δi i x=y) (ho:y.od=some od) :
  (x=y/\sel.idxOf? i=none)\/∃j,sel[j]?=some i /\ Δi[n+j]?=some y/\∃od',x.od=some od':=by
 unfold backAt at h;cases x with
 |any=>subst h;cases ho
 |val d=>subst h;cases ho
 |own o=>
  dsimp only at h;cases q:sel.idxOf? i with
  |none=>rw[q]at h;exact .inl ⟨h,rfl⟩
  |some j=>
   rw[q]at h;dsimp only at h;refine .inr ⟨j,Zd7 q,?_,o,rfl⟩;cases e:Δi[n+j]? with
   |none=>rw[e]at h;subst h;cases ho
   |some z=>rw[e]at h;cases z <;> (subst h;first|rfl|cases ho)
 |ownA a o=>
  dsimp only at h;cases q:sel.idxOf? i with
  |none=>rw[q]at h;exact .inl ⟨h,rfl⟩
  |some j=>
   rw[q]at h;dsimp only at h;refine .inr ⟨j,Zd7 q,?_,o,rfl⟩;cases e:Δi[n+j]? with
   |none=>rw[e]at h;subst h;cases ho
   |some z=>rw[e]at h;cases z <;> (subst h;first|rfl|cases ho)
 |bor o=>
  dsimp only at h;cases q:sel.idxOf? i with
  |none=>rw[q]at h;exact .inl ⟨h,rfl⟩
  |some j=>
   rw[q]at h;dsimp only at h;refine .inr ⟨j,Zd7 q,?_,o,rfl⟩;cases e:Δi[n+j]? with
   |none=>rw[e]at h;subst h;cases ho
   |some z=>rw[e]at h;cases z <;> (subst h;first|rfl|cases ho)
section
variable {K:W.Frag}{Δ:Evt}
open Classical in
noncomputable def aside (g:Gm) (sel:List Nat) (σ:St) (Δ:Evt) (H:Hp) (acc:Addr) (ys:List V):Hp:=λb=>
 if b=acc then some (.lst ys) else if ∃(i:Nat) (x:Slot) (od:OD),Δ[i]?=some x/\x.od=some od/\i ∉ sel /\ σ[i]?=some (some (.ref b)) then H b else g.Xo b
theorem Zdt {n:Nat}{sel:List Nat}{σ:St}{j i:Nat}(h:sel[j]?=some i):(compSt n sel σ)[n+j]?=some ((σ[i]?).getD none):=by
 unfold compSt;rw[Wap (by rw[Wba];omega),Wba,Nat.add_sub_cancel_left,Wad,h];rfl
theorem Zcx {n:Nat}{sel:List Nat}{Δ:Evt}{k:Nat}{x:Slot}(h:(compD n sel Δ)[k]?=some x):x=.any\/∃j i,k=n+j/\sel[j]?=some i /\ Δ[i]?=some x:=by
 unfold compD at h;by_cases hk:k<n
 ·rw[Wa3 (by simpa using hk),Wbx,if_pos hk]at h
  exact .inl (Wbo.inj h).symm
 ·rw[Wap (by simpa using hk),Wba,Wad]at h
  cases e:sel[k-n]? with
  |none=>rw[e]at h;cases h
  |some i=>
   rw[e]at h;have h:(Δ[i]?).getD .any=x:=by simpa using h
   cases q:Δ[i]? with
   |none=>rw[q]at h;exact .inl h.symm
   |some y=>rw[q]at h;cases h;exact .inr ⟨k-n,i,by omega,e,q⟩
theorem Zjy {g:Gm}{G1 H1:Hp}{σ:St}{Δ1:Evt}{n:Nat}{sel:List Nat}{acc:Addr}{X0:Hp}(hsel:sel.Nodup) (k1:Ok K g G1 H1 σ Δ1) (hacc:H1 acc=none)
  (hX:∀b o,X0 b=some o->(b=acc/\o=.lst [])\/(b≠acc/\(((∃(i:Nat) (x:Slot) (od:OD),Δ1[i]?=some x/\x.od=some od/\i ∉ sel /\ σ[i]?=some (some (.ref b)))/\H1 b=some o)\/g.Xo b=some o))):Ok K ⟨g.B,G1,g.Hz,X0⟩ G1 (upd H1 acc (.lst [])) (compSt n sel σ) (compD n sel Δ1):=by
 have hsl:∀{j j' i:Nat},sel[j]?=some i->sel[j']?=some i->j=j':=λ{j j' i} a b=>by
  obtain⟨h1,e1⟩:=Waj.mp a;obtain⟨h2,e2⟩:=Waj.mp b;exact(List.getElem_inj hsel).mp (e1.trans e2.symm)
 have hGa:G1 acc=none:=by
  cases e:G1 acc with
  |none=>rfl
  |some u=>rw[k1.live _ _ e]at hacc;cases hacc
 have cs:∀{j i:Nat}{a:Addr},sel[j]?=some i->(compSt n sel σ)[n+j]?=some (some (.ref a)) -> σ[i]?=some (some (.ref a)):=λ{j i a} ej e3=>by
  rw[Zdt ej]at e3;cases q:σ[i]? with
  |none=>rw[q]at e3;cases e3
  |some w=>rw[q]at e3;cases e3;rfl
 have oldH:∀b o,H1 b=some o->(upd H1 acc (.lst [])) b=some o:=λb o e=>by rw[Zas (Zar e hacc)];exact e
 refine⟨λb o hb e=>oldH b o (k1.same b o hb e),λb hb z=>?_,Same.refl _,λb o e=>⟨oldH b o (k1.live b o e),.inr e⟩,λb o e=>?_,?_,λi d e=>?_,λi x od e1 e2=>?_,λi j x y od od' a e1 e2 e3 e4 e5 e6=>?_⟩
 ·cases q:H1 b with
  |none=>exact k1.lent b hb q
  |some u=>rw[oldH b u q]at z;cases z
 ·rcases hX b o e with ⟨rfl,rfl⟩|⟨hb,⟨⟨i0,x0,od0,f1,f2,f3,f4⟩,e⟩|e⟩
  ·refine⟨Zay,hGa,λi x od e1 e2 e3=>?_⟩
   rcases Zcx e1 with z|⟨j,i',ei,ej,z⟩
   ·subst z;cases e2
   ·subst ei
    obtain⟨a,o,w1,w2,_⟩:=k1.own i' x od z e2;rw[cs ej e3]at w1;cases w1;rw[hacc]at w2;cases w2
  ·obtain⟨a,oo,w1,w2,w3,w4,w5⟩:=k1.own i0 x0 od0 f1 f2
   rw[f4]at w1;cases w1;refine⟨oldH b o e,w4,λi x od e1 e2 e3=>?_⟩;rcases Zcx e1 with z|⟨j,i',ei,ej,z⟩
   ·subst z;cases e2
   ·subst ei
    have:=k1.dis i0 i' x0 x od0 od b f1 f2 z e2 f4 (cs ej e3);subst this;exact f3 (Wah ej)
  ·obtain⟨w1,w2,w3⟩:=k1.ext b o e
   refine⟨oldH b o w1,w2,λi x od e1 e2 e3=>?_⟩;rcases Zcx e1 with z|⟨j,i',ei,ej,z⟩
   ·subst z;cases e2
   ·subst ei;exact w3 i' x od z e2 (cs ej e3)
 ·unfold compD compSt
  simp
 ·rcases Zcx e with z|⟨j,i',ei,ej,z⟩
  ·cases z
  ·subst ei
   obtain⟨v,w1,w2⟩:=k1.val i' d z;exact⟨v,by rw[Zdt ej,w1];rfl,w2⟩
 ·rcases Zcx e1 with z|⟨j,i',ei,ej,z⟩
  ·subst z;cases e2
  ·subst ei
   obtain⟨a,o,w1,w2,w3,w4,w5⟩:=k1.own i' x od z e2;exact⟨a,o,by rw[Zdt ej,w1];rfl,oldH a o w2,w3,w4,w5⟩
 ·rcases Zcx e1 with z|⟨j1,i1,ei,ej,z⟩
  ·subst z;cases e2
  ·rcases Zcx e3 with z'|⟨j2,i2,ei',ej',z'⟩
   ·subst z';cases e4
   ·subst ei;subst ei'
    have:=k1.dis i1 i2 x y od od' a z e2 z' e4 (cs ej e5) (cs ej' e6);subst this;rw[hsl ej ej']
theorem Zjh {σ σ2:St}{Δ1 Δ2:Evt}{n:Nat}{sel:List Nat}(hσ:∀j,n<=j -> σ2[j]?=(compSt n sel σ)[j]?) (i:Nat) (y:Slot) (od:OD) (e1:(backD n sel Δ2 0 Δ1)[i]?=some y) (e2:y.od=some od) :
  ∃x od',Δ1[i]?=some x/\x.od=some od' /\ ((x=y/\i ∉ sel)\/∃j,sel[j]?=some i /\ Δ2[n+j]?=some y /\ σ2[n+j]?=some ((σ[i]?).getD none)):=by
 rw[Zc3]at e1;cases q:Δ1[i]? with
 |none=>rw[q]at e1;cases e1
 |some x=>
  rw[q]at e1;have e1:backAt n sel Δ2 i x=y:=by simpa using e1
  rcases Zmg e1 e2 with ⟨z1,z2⟩|⟨j,z1,z2,od',z3⟩
  ·refine⟨x,od,rfl,by rw[z1];exact e2,.inl ⟨z1,λhm=>?_⟩⟩
   rw[List.idxOf?_eq_none_iff]at z2;exact z2 hm
  ·exact⟨x,od',rfl,z3,.inr ⟨j,z1,z2,by rw[hσ (n+j) (by omega)];exact Zdt z1⟩⟩
theorem Zig {g:Gm}{G1 H1 G2 H2 Xv:Hp}{σ σ2:St}{Δ1 Δ2:Evt}{n:Nat}{sel:List Nat}{acc:Addr}(k1:Ok K g G1 H1 σ Δ1) (hacc:H1 acc=none) (k2:Ok K ⟨g.B,G1,g.Hz,Xv⟩ G2 H2 σ2 Δ2) (hσ:∀j,n<=j -> σ2[j]?=(compSt n sel σ)[j]?)
  (hX:∀b o,b≠acc->(∃(i:Nat) (x:Slot) (od:OD),Δ1[i]?=some x/\x.od=some od/\i ∉ sel /\ σ[i]?=some (some (.ref b)))->H1 b=some o->Xv b=some o) (hY:∀b o,b≠acc->¬ (∃(i:Nat) (x:Slot) (od:OD),Δ1[i]?=some x/\x.od=some od/\i ∉ sel /\ σ[i]?=some (some (.ref b)))->g.Xo b=some o->Xv b=some o):Ok K g G2 H2 σ (backD n sel Δ2 0 Δ1):=by
 have s2:Same G1 G2:=k2.sub;have src:=Zjh (Δ1:=Δ1) (Δ2:=Δ2) hσ;refine⟨k2.same,k2.lent,k1.sub.trans s2,λb o e=>?_,λb o e=>?_,by rw[Zhl,k1.len],λi d e=>?_,λi y od e1 e2=>?_,λi j x y od od' a e1 e2 e3 e4 e5 e6=>?_⟩
 ·obtain⟨q1,q2⟩:=k2.frz b o e
  refine⟨q1,?_⟩;rcases q2 with z|z
  ·exact .inl z
  ·exact(k1.frz b o z).2
 ·obtain⟨w1,w2,w3⟩:=k1.ext b o e
  have hne:b≠acc:=by intro z;subst z;rw[hacc]at w1;cases w1
  obtain⟨u1,u2,u3⟩:=k2.ext b o (hY b o hne (λ⟨i,x,od,f1,f2,f3,f4⟩=>w3 i x od f1 f2 f4) e);refine⟨u1,u2,λi y od e1 e2 e3=>?_⟩;obtain⟨x,od',f1,f2,_⟩:=src i y od e1 e2;exact w3 i x od' f1 f2 e3
 ·rw[Zc3]at e
  cases q:Δ1[i]? with
  |none=>rw[q]at e;cases e
  |some x=>
   rw[q]at e;have e:backAt n sel Δ2 (0+i) x=.val d:=by simpa using e
   have ex:x=.val d:=by
    unfold backAt at e;cases x with
    |any=>cases e
    |val d'=>exact e
    |own o=>dsimp only at e;split at e <;> first|cases e|(split at e <;> cases e)
    |bor o=>dsimp only at e;split at e <;> first|cases e|(split at e <;> cases e)
    |ownA a o=>dsimp only at e;split at e <;> first|cases e|(split at e <;> cases e)
   subst ex;obtain⟨v,w1,w2⟩:=k1.val i d q;exact⟨v,w1,w2.mono s2⟩
 ·obtain⟨x,od',f1,f2,f3⟩:=src i y od e1 e2
  rcases f3 with ⟨f3,f4⟩|⟨j,f3,f4,f5⟩
  ·subst f3
   obtain⟨a,o,w1,w2,w3,w4,w5⟩:=k1.own i x od f1 e2;have hne:a≠acc:=by intro z;subst z;rw[hacc]at w2;cases w2
   obtain⟨u1,u2,u3⟩:=k2.ext a o (hX a o hne ⟨i,x,od,f1,e2,f4,w1⟩ w2);exact⟨a,o,w1,u1,w3.mono s2,u2,w5⟩
  ·obtain⟨a,o,w1,w2,w3,w4,w5⟩:=k2.own (n+j) y od f4 e2
   obtain⟨a0,o0,v1,_⟩:=k1.own i x od' f1 f2;rw[f5,v1]at w1;have ea:a0=a:=by cases w1;rfl
   subst ea;exact⟨a0,o,v1,w2,w3,w4,w5⟩
 ·obtain⟨x',od1,f1,f2,_⟩:=src i x od e1 e2
  obtain⟨y',od2,f3,f4,_⟩:=src j y od' e3 e4;exact k1.dis i j x' y' od1 od2 a f1 f2 f3 f4 e5 e6
theorem Ok.base {g:Gm}{G1 F X G5 H5:Hp}{σ5:St}{Δ5:Evt}(sF:Same G1 F) (hF:∀b o,F b=some o->(g.Hz b=none\/G1 b=some o)) (k5:Ok K ⟨g.B,F,g.Hz,X⟩ G5 H5 σ5 Δ5):Ok K ⟨g.B,G1,g.Hz,X⟩ G5 H5 σ5 Δ5:=
 ⟨k5.same,k5.lent,sF.trans k5.sub,λb o q=>by
  obtain⟨q1,q2⟩:=k5.frz b o q;refine⟨q1,?_⟩;rcases q2 with z|z
  ·exact .inl z
  ·exact hF b o z,k5.ext,k5.len,k5.val,k5.own,k5.dis⟩
theorem Ziz {n:Nat}{sel:List Nat}{wi:TI}{t:TG}{tc:TT}{te:TE}{P:OD->Evt->Prop}(hsel:sel.Nodup)
  (h:JI K wi Δ λds Δ1=>ds.length<sizeLine/\∃I:Nat->List D->Evt->Prop,I 0 [] (compD n sel Δ1) ∧
   (∀i d ys Δ2,ds[i]?=some d->I i ys Δ2->JGn K n t d Δ2 λΔ3=>JT K tc Δ3 λb Δ4=>if b=true then JE K te Δ4 λe Δ5=>I (i+1) (ys++[e]) Δ5 else I (i+1) ys Δ4) ∧
   ∀ys Δ2,I ds.length ys Δ2->P (.lst ys) (backD n sel Δ2 0 Δ1)):JO K (tComp n sel wi t tc te) Δ P:=λg G H σ Q k c=>
 h g G H σ _ k λJ ds G1 H1 Δ1 k1 s1 it ⟨hz,I,h0,ht,he⟩ acc hacc=>by
  have nacc:∀(i:Nat) x od,Δ1[i]?=some x->x.od=some od -> σ[i]?≠some (some (.ref acc)):=λi x od e1 e2 e3=>by
   obtain⟨a,o,w1,w2,_⟩:=k1.own i x od e1 e2;rw[e3]at w1;cases w1;rw[hacc]at w2;cases w2
  -- the word at each turn
  let Wd:Nat->St->Hp->Prop:=λi σ' H'=>i<=ds.length/\(∀j,n<=j -> σ'[j]?=(compSt n sel σ)[j]?)/\∃G ys vs Δi,ys.length<=i/\Reps K G vs ys/\Ok K ⟨g.B,G1,g.Hz,aside g sel σ Δ1 H1 acc vs⟩ G H' σ' Δi/\I i ys Δi
  refine⟨λi m σ' H'=>m=ds.length-i/\Wd i σ' H',⟨ds.length,by simp,Wbq _,λ_ _=>rfl,G1,[],[],compD n sel Δ1,Waf _,.nil,?_,h0⟩,?_⟩
  ·refine Zjy hsel k1 hacc λb o e=>?_
   have e:aside g sel σ Δ1 H1 acc [] b=some o:=e;unfold aside at e;by_cases hb:b=acc
   ·rw[if_pos hb]at e;cases e;exact .inl ⟨hb,rfl⟩
   ·rw[if_neg hb]at e
    split at e
    case isTrue hx=>exact .inr ⟨hb,.inl ⟨hx,e⟩⟩
    case isFalse hx=>exact .inr ⟨hb,.inr e⟩
  ·rintro i m σ2 H2 ⟨rfl,hi,hσ,G2,ys,vs,Δ2,hy,ry,k2,h2⟩
   have s2:Same G1 G2:=k2.sub;obtain⟨stop,go⟩:=it G2 H2 s2 k2.live;have hacc2:∀{G' H':Hp}{σ':St}{Δ':Evt}{vs:List V}{F:Hp},Ok K ⟨g.B,F,g.Hz,aside g sel σ Δ1 H1 acc vs⟩ G' H' σ' Δ' -> H' acc=some (.lst vs)/\G' acc=none/\∀(i:Nat) x od,Δ'[i]?=some x->x.od=some od -> σ'[i]?≠some (some (.ref acc)):=λ{G' H' σ' Δ' vs F} kk=>
    kk.ext acc (.lst vs) (by show aside g sel σ Δ1 H1 acc vs acc=_;unfold aside;rw[if_pos rfl])
   by_cases hlt:i<ds.length
   ·obtain⟨g1,g2⟩:=go i _ (Wac hlt)
    refine .inr ⟨g1,λσ' H'=>Wd (i+1) σ' H',λσ' H' p'=>⟨ds.length-(i+1),by omega,rfl,p'⟩,λx H3 y=>?_⟩;obtain⟨G3,a1,a2,a3,a4⟩:=g2 x H3 y;have k3:=k2.grow a1 a2 a3;have hG3:∀b o,G3 b=some o->(g.Hz b=none\/G1 b=some o):=λb o q=>(k3.frz b o q).2;have k3':Ok K ⟨g.B,G3,g.Hz,aside g sel σ Δ1 H1 acc vs⟩ G3 H3 σ2 Δ2:=⟨k3.same,k3.lent,Same.refl _,λb o q=>⟨(k3.frz b o q).1,.inr q⟩,k3.ext,k3.len,k3.val,k3.own,k3.dis⟩;have ry3:Reps K G3 vs ys:=ry.mono a1;have s13:Same G1 G3:=s2.trans a1;refine ht i _ ys Δ2 (Wac hlt) h2 ⟨g.B,G3,g.Hz,aside g sel σ Δ1 H1 acc vs⟩ G3 H3 σ2 x _ k3' a4 λσ4 G4 H4 Δ4 k4 s4 e4 p4=>?_;have hσ4:∀j,n<=j -> σ4[j]?=(compSt n sel σ)[j]?:=λj hj=>(e4 j hj).trans (hσ j hj);refine p4 _ G4 H4 σ4 _ k4 λb G5 H5 Δ5 k5 s5 p5=>?_;cases b with
    |false=>exact⟨hlt,hσ4,G5,ys,vs,Δ5,by omega,ry3.mono (s4.trans s5),k5.base s13 hG3,p5⟩
    |true=>
     refine(show JE K te Δ5 _ from p5) _ G5 H5 σ4 _ k5 λv d G6 H6 Δ6 k6 s6 r6 p6=>?_;have ry6:Reps K G6 vs ys:=ry3.mono (s4.trans (s5.trans s6));obtain⟨b1,b2,b3⟩:=hacc2 k6;refine⟨vs,b1,by rw[ry6.length];omega,hlt,hσ4,G6,ys++[d],vs++[v],Δ6,by rw[Wag,Wct];omega,ry6.append (.cons r6 .nil),?_,p6⟩;have k7:=k6.base s13 hG3;have oldH:∀b o,b≠acc->H6 b=some o->(upd H6 acc (.lst (vs++[v]))) b=some o:=λb o hb e=>by rw[Zas hb];exact e
     have aNe:∀b o,b≠acc->aside g sel σ Δ1 H1 acc (vs++[v]) b=some o->aside g sel σ Δ1 H1 acc vs b=some o:=λb o hb e=>by
      unfold aside at e ⊢;rw[if_neg hb]at e ⊢;exact e
     refine⟨λb o hb e=>?_,λb hb=>?_,k7.sub,λb o e=>?_,λb o e=>?_,k7.len,k7.val,λi x od e1 e2=>?_,k7.dis⟩
     ·have hne:b≠acc:=by
       intro z;subst z;have e:g.Hz b=some o:=e;rw[k1.there hacc]at e;cases e
      exact oldH b o hne (k7.same b o hb e)
     ·by_cases hne:b=acc
      ·subst hne;rw[Zay];intro z;cases z
      ·rw[Zas hne];exact k7.lent b hb
     ·have hne:b≠acc:=by intro z;subst z;rw[b2]at e;cases e
      exact⟨oldH b o hne (k7.frz b o e).1,(k7.frz b o e).2⟩
     ·by_cases hne:b=acc
      ·subst hne
       have e:aside g sel σ Δ1 H1 b (vs++[v]) b=some o:=e;unfold aside at e;rw[if_pos rfl]at e;cases e;exact⟨Zay,b2,b3⟩
      ·obtain⟨w1,w2,w3⟩:=k7.ext b o (aNe b o hne e)
       exact⟨oldH b o hne w1,w2,w3⟩
     ·obtain⟨a,o,w1,w2,w3,w4,w5⟩:=k7.own i x od e1 e2
      have hne:a≠acc:=by intro z;subst z;exact b3 i x od e1 e2 w1
      exact⟨a,o,w1,oldH a o hne w2,w3,w4,w5⟩
   ·have e:i=ds.length:=by omega
    subst e;refine .inl ⟨stop,?_⟩;obtain⟨b1,b2,b3⟩:=hacc2 k2;have src:=Zjh (Δ1:=Δ1) (Δ2:=Δ2) hσ;have k9:Ok K g G2 H2 σ (backD n sel Δ2 0 Δ1):=Zig k1 hacc k2 hσ (λb o hb hx e=>by show aside g sel σ Δ1 H1 acc vs b=_;unfold aside;rw[if_neg hb,if_pos hx];exact e) (λb o hb hx e=>by show aside g sel σ Δ1 H1 acc vs b=_;unfold aside;rw[if_neg hb,if_neg hx];exact e);refine c acc _ G2 H2 _ k9 (s1.trans s2) ⟨.lst vs,b1,(show OwnRep K G2 (.lst vs) (.lst ys) from ry),b2,k1.there hacc,?_,λi y od e1 e2 e3=>?_⟩ (he ys Δ2 h2)
    ·cases q:g.Xo acc with
     |none=>rfl
     |some u=>have z:=(k1.ext acc u q).1;rw[hacc]at z;cases z
    ·obtain⟨x',od1,f1,f2,_⟩:=src i y od e1 e2
     exact nacc i x' od1 f1 f2 e3
theorem Zk1 {n:Nat}{sel:List Nat}{wi:TI}{t:TG}{tc:TT}{te:TE}{P:D->Evt->Prop}(hsel:sel.Nodup)
  (h:JI K wi Δ λds Δ1=>ds.length<sizeLine/\∃I:Nat->List D->Evt->Prop,I 0 [] (compD n sel Δ1) ∧
   (∀i d ys Δ2,ds[i]?=some d->I i ys Δ2->JGn K n t d Δ2 λΔ3=>JT K tc Δ3 λb Δ4=>if b=true then JE K te Δ4 λe Δ5=>I (i+1) (ys++[e]) Δ5 else I (i+1) ys Δ4) ∧
   ∀ys Δ2,I ds.length ys Δ2->P (.lst ys) (backD n sel Δ2 0 Δ1)):JE K (tComp n sel wi t tc te) Δ P:=
 Zds (Ziz hsel λg G H σ R k c=>h g G H σ R k λJ ds G' H' Δ' k' s' it ⟨z,I,h0,ht,he⟩=>c J ds G' H' Δ' k' s' it ⟨z,I,h0,ht,λys Δ2 q=>⟨ys,rfl,he ys Δ2 q⟩⟩)
theorem Zg4 {n:Nat}{sel:List Nat}{wi:TI}{t:TG}{tc:TT}{te:TE}{P:D->Evt->Prop}(hsel:sel.Nodup)
  (h:JI K wi Δ λds Δ1=>ds.length<sizeLine/\∃(fix:Evt) (p:D->Bool) (f:D->D),compD n sel Δ1=Waw n .any++fix ∧
   (∀(i:Nat) d (ts:Evt),ds[i]?=some d->ts.length=n->JGn K n t d (ts++fix) λΔ3=>JT K tc Δ3 λb Δ4=>b=p d/\if b=true then JE K te Δ4 λe Δ5=>e=f d/\∃ts',ts'.length=n /\ Δ5=ts'++fix else ∃ts',ts'.length=n /\ Δ4=ts'++fix) ∧
   P (.lst ((ds.filter p).map f)) (backD n sel (Waw n .any++fix) 0 Δ1)):JE K (tComp n sel wi t tc te) Δ P:=by
 refine Zk1 hsel λg G H σ R k c=>h g G H σ R k λJ ds G' H' Δ' k' s' it ⟨z,fix,p,f,e0,ht,he⟩=>c J ds G' H' Δ' k' s' it ⟨z,λi ys Δ=>ys=((ds.take i).filter p).map f/\∃ts:Evt,ts.length=n /\ Δ = ts++fix,?_,?_,?_⟩
 ·exact⟨by simp,_,by simp,e0⟩
 ·rintro i d ys Δ2 hd ⟨rfl,ts,hts,rfl⟩
  have tk:ds.take (i+1)=ds.take i++[d]:=by
   rw[Wcf,hd];rfl
  intro g G H σ v R k r c;refine ht i d ts hd hts g G H σ v R k r λσ' G' H' Δ' k' s' e' q=>c σ' G' H' Δ' k' s' e' λg G H σ Q k c=>q g G H σ Q k λb G' H' Δ' k' s' ⟨eb,q⟩=>c b G' H' Δ' k' s' ?_;cases b with
  |true=>
   rw[if_pos rfl]at q ⊢;refine q.mono λe Δ5 ⟨e1,ts',h1,h2⟩=>⟨?_,ts',h1,h2⟩;rw[tk,Wcq,Wa6,Wb4,<- eb,e1];rfl
  |false=>
   rw[if_neg Wai]at q ⊢;obtain⟨ts',h1,h2⟩:=q;refine⟨?_,ts',h1,h2⟩;rw[tk,Wcq,Wa6,Wb4,<- eb];simp
 ·rintro ys Δ2 ⟨rfl,ts,hts,rfl⟩
  rw[Wbc];have e:backD n sel (ts++fix) 0 Δ'=backD n sel (Waw n .any++fix) 0 Δ':=by
   apply Wbl;intro i;rw[Zc3,Zc3];congr 1
   funext x
   unfold backAt;have e2:∀j,(ts++fix)[n+j]?=(Waw n Slot.any++fix)[n+j]?:=λj=>by
    rw[Wap (by omega),Wap (by simp),hts,Wba]
   simp only[e2]
  rw[e];exact he
end
end L2
set_option Elab.async false
set_option linter.all false
set_option maxRecDepth 100000
namespace HT
open PySem PyProof.Rows
section
variable {prog:Program}{w:World}{A:Around}{E:Value->Shared->Prop}{s:Shared}
theorem getItem_tuple_whole {t sl:Addr}{items:Array Value}{vl vu:Value}{lo hi:Option Int}{Q:Value->Shared->Prop}(ht:IsTup s.heap t items) (hs:s.heap.IsSliceOf sl vl vu .none) (pl:IsPart vl lo) (pu:IsPart vu hi)
  (hw:sIx items.size 0 lo=0/\sIx items.size items.size hi=items.size) (h:Q (.ref t) s):wpAny (model prog w) A (getItem (.ref t) (.ref sl)) Q E s:=by
 obtain⟨os,hos,hcs,hds⟩:=id hs;have hTs:s.TypeIs (.ref sl) "slice":=⟨os,hos,hcs⟩;unfold getItem
 try with_reducible refine wpAny_holding ?_
 first|refine wpAny_bind (wpAny_pure ?_)|skip
 refine wpAny_bind (wpAny_sequenceKey ht.typeIs (by decide) ?_);refine wpAny_bind (wpAny_callSpecial?_slot (name:=Str.ofString "__getitem__") ht.typeIs PyProof.Rows.slot_tuple_getitem
  (wpAny_call_entry PyProof.Rows.slot_tuple_getitem ht.typeIs entry_tuple_getitem ?_ (args_tuple_getitem _ _)))
 show wpAny _ _ (Builtin.Tuple.tupleItemsOf (.ref t) >>= _) _ _ s;refine wpAny_bind (tupleItemsOf_ ht ?_);refine wpAny_bind (wpAny_typeOf hTs ?_);rw[if_pos (by decide)];refine wpAny_bind (Zdf hs pl pu ?_);have hyes:(((sIx items.size 0 lo:Nat):Int) == 0 && (1:Int) == 1 && (sIx items.size items.size hi-sIx items.size 0 lo) == items.size)=true:=by
  rw[hw.1,hw.2];simp
 show wpAny _ _ (if (((sIx items.size 0 lo:Nat):Int) == 0 && (1:Int) == 1 && (sIx items.size items.size hi-sIx items.size 0 lo) == items.size)=true then _ else _) _ _ s;rw[if_pos hyes]
 first
  |exact wpAny_pure ⟨_,rfl,wpAny_pure h⟩
  |exact wpAny_pure ⟨_,rfl,h⟩
  |exact wpAny_bind (wpAny_pure (wpAny_pure ⟨_,rfl,wpAny_pure h⟩))
  | (refine wpAny_bind (wpAny_bind (wpAny_typeOf ht.typeIs (wpAny_pure ?_)))
     rw[if_pos (by decide)];exact wpAny_bind (wpAny_rule (wpAny_pure ⟨_,rfl,wpAny_pure h⟩)))
theorem Ze0 {sl:Addr}{t:Tok}{n:Nat}{Q:Int × Int × Nat->Shared->Prop}(hs:s.heap.IsSliceOf sl .none .none (.int (-1) t))
  (h:Q (((n:Int)-1),-1,n) s):wpAny (model prog w) A (Builtin.Slice.sliceApplied (.ref sl) (pure (n:Int))) Q E s:=by
 obtain⟨os,hos,hcs,hds⟩:=id hs;unfold Builtin.Slice.sliceApplied Builtin.Slice.sliceFields;refine wpAny_bind (wpAny_bind (wpAny_field hos hds (x:=.none) rfl (wpAny_bind (wpAny_field hos hds (x:=.none) rfl (wpAny_bind (wpAny_field hos hds (x:=.int (-1) t) rfl (wpAny_pure ?_)))))));refine wpAny_bind (Zej (.int (-1) t) ?_);show wpAny _ _ (if ((-1:Int) == 0)=true then _ else _) _ _ s;rw[if_neg (by decide)];refine wpAny_bind (slicePart_none (wpAny_bind (slicePart_none (wpAny_bind (wpAny_pure ?_)))));have e:Builtin.Slice.sliceAdjust none none (-1) (n:Int)=((n:Int)-1,-1):=by
  simp[Builtin.Slice.sliceAdjust]
 show wpAny _ _ (match Builtin.Slice.sliceAdjust none none (-1) (n:Int) with|(lo,hi)=>pure (lo,(-1:Int),Builtin.Slice.slicePlaces lo hi (-1))) _ _ s;rw[e];have e2:Builtin.Slice.slicePlaces ((n:Int)-1) (-1) (-1)=n:=by
  unfold Builtin.Slice.slicePlaces;rw[if_neg (by decide)];by_cases hn:n=0
  ·subst hn;rfl
  ·rw[if_pos (by omega),show (n:Int)-1 - -1-1=(n:Int)-1 by omega,show -(-1:Int)=1 by rfl,Int.ediv_one]
   omega
 show wpAny _ _ (pure ((n:Int)-1,(-1:Int),Builtin.Slice.slicePlaces ((n:Int)-1) (-1) (-1))) _ _ s;rw[e2];exact wpAny_pure h
theorem Zno (xs:Array Value):((Wa4 xs.size).filterMap λ(m:Nat)=>xs[(((xs.size:Int)-1)+(m:Int) * -1).toNat]?).toArray=xs.toList.reverse.toArray:=by
 congr 1;apply Wbl;intro i;have key:∀(l:List Nat),(∀m∈l,m<xs.size)->(l.filterMap λ(m:Nat)=>xs[(((xs.size:Int)-1)+(m:Int) * -1).toNat]?)=l.map λm=>xs.toList.reverse.getD m .none:=by
  intro l
  induction l with
  |nil=>intro _;rfl
  |cons a r ih=>
   intro h;have ha:=h a Wau;have e:(((xs.size:Int)-1)+(a:Int) * -1).toNat=xs.size-1-a:=by omega
   have e2:xs[(((xs.size:Int)-1)+(a:Int) * -1).toNat]?=some (xs.toList.reverse.getD a .none):=by
    rw[e,Wae,List.getElem?_reverse (by simpa using ha)];simp only[Array.length_toList,Array.getElem?_toList];rw[Array.getElem?_eq_getElem (by omega)];rfl
   rw[Wcm,e2,Wbb,ih λm hm=>h m (Wat _ hm)]
 rw[key _ (λm hm=>Wbm.mp hm),Wad];by_cases hi:i<xs.size
 ·rw[Wcw hi,Wac (by simpa using hi)]
  simp[Wae,hi]
 ·rw[Wch (by simpa using hi),Wch (by simpa using hi)]
  rfl
theorem getItem_tuple_rev {t sl:Addr}{items:Array Value}{tk:Tok}{Q:Value->Shared->Prop}(ht:IsTup s.heap t items) (hs:s.heap.IsSliceOf sl .none .none (.int (-1) tk))
  (h:Q (.ref s.heap.objs.size) { s with heap:=s.heap.push { cls:=.type "tuple",data:=.seq items.toList.reverse.toArray } })
  (hsz:items.size<=sizeLine):wpAny (model prog w) A (getItem (.ref t) (.ref sl)) Q E s:=by
 have htake:sizeOk (.seq items.toList.reverse.toArray):=by
  show items.toList.reverse.toArray.size<=sizeLine;simpa using hsz
 obtain⟨os,hos,hcs,hds⟩:=id hs;have hTs:s.TypeIs (.ref sl) "slice":=⟨os,hos,hcs⟩;unfold getItem
 try with_reducible refine wpAny_holding ?_
 first|refine wpAny_bind (wpAny_pure ?_)|skip
 refine wpAny_bind (wpAny_sequenceKey ht.typeIs (by decide) ?_);refine wpAny_bind (wpAny_callSpecial?_slot (name:=Str.ofString "__getitem__") ht.typeIs PyProof.Rows.slot_tuple_getitem
  (wpAny_call_entry PyProof.Rows.slot_tuple_getitem ht.typeIs entry_tuple_getitem ?_ (args_tuple_getitem _ _)))
 show wpAny _ _ (Builtin.Tuple.tupleItemsOf (.ref t) >>= _) _ _ s;refine wpAny_bind (tupleItemsOf_ ht ?_);refine wpAny_bind (wpAny_typeOf hTs ?_);rw[if_pos (by decide)];refine wpAny_bind (Ze0 (n:=items.size) hs ?_);have hno:¬ ((((items.size:Int)-1) == 0 && (-1:Int) == 1 && items.size == items.size)=true):=by simp
 show wpAny _ _ (if ((((items.size:Int)-1) == 0 && (-1:Int) == 1 && items.size == items.size))=true then _ else _) _ _ s;rw[if_neg hno,Zno]
 first
  |exact wpAny_bind (m:=Builtin.Tuple.tupleExact _) (wpAny_newObj_type (wpAny_pure ⟨_,rfl,wpAny_pure h⟩) htake)
  |exact wpAny_bind (m:=Builtin.Tuple.tupleExact _) (wpAny_newObj_type (wpAny_bind (wpAny_pure (wpAny_pure ⟨_,rfl,wpAny_pure h⟩))) htake)
  |exact wpAny_bind (wpAny_bind (m:=Builtin.Tuple.tupleExact _) (wpAny_newObj_type (wpAny_pure (wpAny_pure ⟨_,rfl,wpAny_pure h⟩)) htake))
  |exact wpAny_bind (wpAny_bind (m:=Builtin.Tuple.tupleExact _) (wpAny_newObj_type (wpAny_pure ⟨_,rfl,wpAny_pure h⟩) htake))
end
end HT
namespace L2
open PySem PySem.Spec PyProof.Rows
section
variable {X:Cx}
def rSlT' (K:W.Frag):V->Option Int->Option Int->Hp->VK->Prop:=λx lo hi H Q=>∃a xs,x=.ref a/\SqT K H a xs ∧
 ((HT.sIx xs.length 0 lo=0/\HT.sIx xs.length xs.length hi=xs.length)->Q (.ref a) H) ∧
 (¬ (HT.sIx xs.length 0 lo=0/\HT.sIx xs.length xs.length hi=xs.length)->∀p,H p=none->Q (.ref p) (upd H p (.tup (cutV xs lo hi))))
theorem Zph:SlR X (rSlT' X.K):=by
 intro pins s σ H x v vl vu lo hi sl Q I rx hs pl pu h;obtain⟨a,xs,rfl,hx,q1,q2⟩:=h;by_cases hw:HT.sIx xs.length 0 lo=0/\HT.sIx xs.length xs.length hi=xs.length
 ·cases rx
  obtain⟨its,r,ht,hz⟩:=I.tuple hx;have hlen:its.toArray.size=xs.length:=by rw[Wam];exact r.length.symm
  exact⟨"tuple",_,PyProof.Rows.slot_tuple_getitem.lookup,ht.typeIs,HT.getItem_tuple_whole ht hs pl pu (by rw[hlen];exact hw) ⟨.ref a,H,I,rfl,q1 hw⟩⟩
 ·exact Zr3 pins s σ H (.ref a) v vl vu lo hi sl Q I rx hs pl pu ⟨a,xs,rfl,hx,hw,q2 hw⟩
def rSlU (K:W.Frag):V->Option Int->Option Int->Hp->VK->Prop:=λx lo hi H Q=>rSlL K x lo hi H Q\/rSlT' K x lo hi H Q
theorem slU:SlR X (rSlU X.K):=Zpj.or Zph
def tSlR (K:W.Frag) (te:TE):TE:=λσ H Q=>te σ H λx H1=>∃a xs,x=.ref a/\SqT K H1 a xs/\∀p,H1 p=none->Q (.ref p) (upd H1 p (.tup xs.reverse))
theorem Zl8 {e:Expr}{te:TE}{pos p2 p3 p4:Pos}{k:Nat}(he:PE X e te):PE X (.Subscript e (.Slice none none (some (.UnaryOp .USub (.Constant (.int 1) k p4) p3)) p2) pos) (tSlR X.K te):=by
 intro pins s σ H Q I h;refine Subscript_ (thn (he pins s σ H _ I h) λv s1 ⟨x,H1,I1,r1,q1⟩=>?_);obtain⟨a,xs,rfl,hx,q⟩:=q1;cases r1;refine wpAny_Slice ?_;rw[evalPart_none];refine wpAny_pure (wpAny_pure ?_);have st:=Zb1 (X:=X) (Zsb Zqc (Zad (X:=X) (i:=1) (j:=k) (pos:=p4))) (e:=.UnaryOp .USub (.Constant (.int 1) k p4) p3) pins s1 σ H1 (λo H2=>o=some (-1)/\H2=H1) I1 ⟨1,rfl,-1,rfl,rfl,rfl⟩;refine thn st λu s2 ⟨o,H2,I2,pu,e1,e2⟩=>?_;subst e1;subst e2;cases pu with
 |int i t=>
  have I3:Inv X pins σ H2 { s2 with heap:=s2.heap.push { cls:=.type "slice",data:=.fields #[.none,.none,.int (-1) t] } }:=I2.kept (t':=s2.toks) λb ob q=>Waa _ q;obtain⟨its,r,ht,hz⟩:=I3.tuple hx;show wpAny (model X.prog X.w) X.A (subscriptTail e (.Slice none none (some (.UnaryOp .USub (.Constant (.int 1) k p4) p3)) p2) (.ref a) (.ref s2.heap.objs.size)) (EP X pins σ Q) X.xe { s2 with heap:=s2.heap.push { cls:=.type "slice",data:=.fields #[.none,.none,.int (-1) t] } };refine tail_any (ops:=[.ref a,.ref s2.heap.objs.size]) ht.typeIs PyProof.Rows.slot_tuple_getitem.lookup (HT.getItem_tuple_rev ht (tk:=t) (Heap.IsSliceOf.new ..) ?_ (by rw[Wam,<- r.length];exact hz)) (by with_unfolding_all rfl);refine⟨.ref _,_,I3.laid (t':=s2.toks) (o:=.tup xs.reverse) (λb ob q=>Waa _ q) (Waf _) ?_,rfl,q _ (I3.hok.fresh (Waf _))⟩;exact⟨by rw[List.length_reverse];exact hz,_,r.reverse,IsTupN.new _ _⟩
def rCatT' (K:W.Frag):R2:=λx y H Q=>∃a b xs ys,x=.ref a/\y=.ref b/\SqT K H a xs/\SqT K H b ys/\xs.length+ys.length<=sizeLine ∧
 (xs=[]->Q (.ref b) H)/\(xs≠[]->ys=[]->Q (.ref a) H)/\(xs≠[]->ys≠[]->∀p,H p=none->Q (.ref p) (upd H p (.tup (xs++ys))))
theorem Zmr:OpR X (binaryOp .Add) (rCatT' X.K):=by
 intro pins s σ H x y v u Q I rx ry h;obtain⟨a,b,xs,ys,rfl,rfl,ha,hb,hz,q0,q1,q2⟩:=h;by_cases hx:xs=[]
 ·cases rx
  cases ry;obtain⟨its,r1,p1,_⟩:=I.tuple ha;obtain⟨its2,r2,p2,_⟩:=I.tuple hb;obtain⟨⟨cls,dd,data,sl⟩,ho,hc,n,hd⟩:=id p1;obtain⟨⟨cls2,dd2,data2,sl2⟩,ho2,hc2,n2,hd2⟩:=id p2;simp only at hc hd hc2 hd2;subst hc hd hc2 hd2;exact concat_meets ⟨_,ho,rfl⟩ ⟨_,ho2,rfl⟩ noFill_tuple_add seq_tuple_add PySem.F.slot_tuple_add PySem.F.entry_tuple_add (PySem.F.args_tuple_add_2 _ _)
   (tuple_addW0 a b its.toArray its2.toArray n n2 dd dd2 sl sl2 (by simp[r1.nil_iff.mpr hx])) ⟨ho,ho2,⟨.ref b,H,I,rfl,q0 hx⟩⟩
 ·exact Zop pins s σ H (.ref a) (.ref b) v u Q I rx ry ⟨a,b,xs,ys,rfl,rfl,ha,hb,hx,hz,q1 hx,q2 hx⟩
def rAddU (K:W.Frag):R2:=λx y H Q=>rI0 (λi j=>.int (i+j)) x y H Q\/(rCatT' K x y H Q\/rCat x y H Q)
theorem Zox:OpR X (binaryOp .Add) (rAddU X.K):=Zqx.or (Zmr.or Zqk)
theorem Zbp:OpR X (compareOp .Eq) rEq:=Zrv
theorem Zdi:OpR X (compareOp .NotEq) rNe:=Zsa
def rIxD:R2:=λx y H Q=>∃a v,x=.ref a/\DGet H a y (some v)/\Q v H
theorem Zpq (hu:X.A.units+1<cLine):IxR X rIxD:=by
 intro value slice pins s σ H x y v u Q I rx ry h hs;obtain⟨a,w',rfl,g,q⟩:=h;cases rx;exact tail_any (Zia I g) PySem.F.slot_dict_getitem.lookup (Zlj hu I g ry λw2 s3 I3 rw'=>⟨w',H,I3,rw',q⟩) hs
def rIxU (K:W.Frag):R2:=λx y H Q=>rIx K x y H Q\/rIxD x y H Q
theorem ixU (hu:X.A.units+1<cLine):IxR X (rIxU X.K):=Zqz.or (Zpq hu)
def rSetD:V->V->V->Hp->(Hp->Prop)->Prop:=λo i v H Q=>∃a H',o=.ref a/\DPut H a i v H' /\ Q H'
theorem Znp (hu:X.A.units+1<cLine):PSet X rSetD:=by
 intro pins s σ H o i v ov iv u Q I ro ri rv h;obtain⟨a,H',rfl,g,q⟩:=h;cases ro;exact Zk4 hu I g ri rv λs' I'=>⟨H',I',q⟩
theorem PSet.or {t t':TSet}(h:PSet X t) (h':PSet X t'):PSet X (λo i v H Q=>t o i v H Q\/t' o i v H Q):=by
 intro pins s σ H o i v ov iv u Q I ro ri rv q;rcases q with q|q
 ·exact h pins s σ H o i v ov iv u Q I ro ri rv q
 ·exact h' pins s σ H o i v ov iv u Q I ro ri rv q
def rSetU:V->V->V->Hp->(Hp->Prop)->Prop:=λo i v H Q=>rSetL o i v H Q\/rSetD o i v H Q
theorem setU (hu:X.A.units+1<cLine):PSet X rSetU:=Zm2.or (Znp hu)
def rLenU (K:W.Frag):List V->Hp->VK->Prop:=λxs H Q=>(∃p ys,xs=[.ref p]/\(SqL K H p ys\/SqT K H p ys)/\Q (.int ys.length) H)\/∃a kvs,xs=[V.ref a]/\H a=some (.dK kvs)/\Q (.int kvs.length) H
theorem Zmb:CallR X (.builtin "len") (rLenU X.K):=Zg7.or Zl9
def rIsi (K:W.Frag):List V->Hp->VK->Prop:=λxs H Q=>∃x n t b,xs=[x,.ty n]/\TyOf K H x t/\PySem.W.kitOne K t (.type n)=some b/\Q (.bl b) H
theorem Zit:CallR X (.builtin "isinstance") (rIsi X.K):=by
 intro pins s σ H xs us Q I r h;obtain⟨x,n,t,b,rfl,ty,e,q⟩:=h;obtain⟨u,u',rfl,rx,rn⟩:=vals2 r;cases (show u'=Value.type n from rn);exact Zl2 I rx ty e λtk=>⟨.bl b,H,I.tok _,rfl,q⟩
def rIndexT (K:W.Frag):V->List V->Hp->VK->Prop:=λx vs H Q=>∃a xs y j,x=.ref a/\vs=[y]/\SqT K H a xs/\flatV y=true/\xs.all flatV=true/\j<xs.length ∧
 (∃z,xs[j]?=some z/\eqV z y=true)/\(∀m z,m<j->xs[m]?=some z->eqV z y=false)/\Q (.int j) H
end
end L2
namespace L2
open PySem PySem.Spec PyProof.Rows
section
variable {X:Cx}
theorem PI.or {tg iter:Expr}{w w':TI}(h:PI X tg iter w) (h':PI X tg iter w'):PI X tg iter (λσ H R=>w σ H R\/w' σ H R):=by
 intro pins s σ H R I q;rcases q with q|q
 ·exact h pins s σ H R I q
 ·exact h' pins s σ H R I q
def iSeq (K:W.Frag) (tl:TE):TI:=λσ H R=>iList K tl σ H R\/iTup K tl σ H R
theorem Zru {tg l:Expr}{tl:TE}(hl:PE X l tl):PI X tg l (iSeq X.K tl):=(Zp6 hl).or (Zr5 hl)
def tTru (K:W.Frag) (ta:TE):TT:=λσ H Q=>ta σ H λx H'=>∃k,TruV K x H' k/\Q k H'
theorem Zqo {a:Expr}{ta:TE}(ha:PE X a ta) (he:∀whole,isTrue a X.env whole=(do let v ← whole;standAt a.pos;holding [v] (truthy v))):PT X a (tTru X.K ta):=Zmq ha he
end
section
variable {K:W.Frag}{Δ:Evt}{P:D->Evt->Prop}
theorem Zc7 {i j:Int}(p:P (.int (i+j)) Δ):JR2 K (rAddU K) (.int i) (.int j) Δ P:=λg G H σ Q x y k rx ry c=>by
 cases rx.inv;cases ry.inv;exact .inl ⟨i,j,rfl,rfl,c _ _ G H Δ k (Same.refl _) (.int _) p⟩
theorem Zk5 {ds es:List D}(hz:ds.length+es.length<=sizeLine) (p:P (.tup (ds++es)) Δ):JR2 K (rAddU K) (.tup ds) (.tup es) Δ P:=λg G H σ Q x y k rx ry c=>by
 cases rx with
 |tup ha ra=>
  cases ry with
  |tup hb rb=>
   refine .inr (.inl ⟨_,_,_,_,rfl,rfl,SqT.of (k.live _ _ ha),SqT.of (k.live _ _ hb),by rw[ra.length,rb.length];exact hz,λe=>?_,λ_ e=>?_,λ_ _ q hq=>?_⟩)
   ·subst e;cases ra;exact c _ _ G H Δ k (Same.refl _) (.tup hb rb) p
   ·subst e;cases rb;rw[Wbh]at p;exact c _ _ G H Δ k (Same.refl _) (.tup ha ra) p
   ·obtain⟨k2,sg⟩:=k.laid hq (.tup _)
    exact c _ _ _ _ Δ k2 sg (.tup Zay ((ra.append rb).mono sg)) p
theorem Zos {ds es:List D}(hz:ds.length+es.length<=sizeLine) (p:P (.lst (ds++es)) Δ):JR2 K (rAddU K) (.lst ds) (.lst es) Δ P:=λg G H σ Q x y k rx ry c=>by
 obtain⟨_,_,rfl,ha,ra⟩:=rx.inv
 next=>
  obtain⟨_,_,rfl,hb,rb⟩:=ry.inv
  next=>
   refine .inr (.inr ⟨_,_,_,_,rfl,rfl,k.live _ _ ha,k.live _ _ hb,by rw[ra.length,rb.length];exact hz,λq hq=>?_⟩);obtain⟨k2,sg⟩:=k.laid hq (.lst _);exact c _ _ _ _ Δ k2 sg (.lst Zay ((ra.append rb).mono sg)) p
theorem Zan {ds:List D}{i:Int}{d:D}(h:atI ds i=some d) (p:P d Δ):JR2 K (rIxU K) (.tup ds) (.int i) Δ P:=λg G H σ Q x y k rx ry c=>
 .inl (.inr (.inl (Zrs h p g G H σ Q x y k rx ry c)))
theorem Zbk {ds:List D}{i:Int}{d:D}(h:atI ds i=some d) (p:P d Δ):JR2 K (rIxU K) (.lst ds) (.int i) Δ P:=λg G H σ Q x y k rx ry c=>
 .inl (.inl (Zro h p g G H σ Q x y k rx ry c))
theorem Zd3 {n:Nat}{tb:TE}{x:Slot}{ds:List D}(hx:Δ[n]?=some x) (ho:x.od=some (.lst ds)) (h:JE K tb Δ λe Δ1=>∃y es i d,Δ1[n]?=some y/\y.od=some (.lst es)/\e=.int i/\atI es i=some d/\P d Δ1):JE K (tOp (rIxU K) (tVar n) tb) Δ P:=λg G H σ Q k c=>by
 obtain⟨a,o,h1,h2,h3,h4,h5⟩:=k.own n x _ hx ho;refine⟨.ref a,h1,h g G H σ _ k λv e G1 H1 Δ1 k1 s1 r1 ⟨y,es,i,d,q1,q2,q3,q4,p⟩=>?_⟩;subst q3;cases r1.inv;obtain⟨a',o',w1,w2,w3,w4,w5⟩:=k1.own n y _ q1 q2;rw[h1]at w1;cases w1;cases o' with
 |lst vs=>
  obtain⟨u,z1,z2⟩:=Zgy (show Reps K G1 vs es from w3) q4;exact .inl (.inl ⟨a,vs,i,u,rfl,rfl,SqL.of w2,z1,c u d G1 H1 Δ1 k1 s1 z2 p⟩)
 |_=>exact absurd w3 (λz=>z)
theorem Zkv {n:Nat}{ti te:TE}{Pp:Pst}(h:JE K te Δ λd Δ1=>(∃x od,Δ1[n]?=some x/\x.od=some od)/\JE K ti Δ1 λe Δ2=>∃x ds i j,Δ2[n]?=some x/\x.od=some (.lst ds)/\e=.int i/\ixN ds.length i=some j/\Pp.nx (Δ2.set n (x.put (.lst (ds.set j d))))) :
  JS K (tAsg te (gSub (tVar n) ti rSetU)) Δ Pp:=λg G H σ E k c=>
 h g G H σ _ k λv d G1 H1 Δ1 k1 s1 r1 hq_=>by
  obtain⟨⟨x,od,hx,ho⟩,p1⟩:=hq_;obtain⟨a,o,h1,h2,h3,h4,h5⟩:=k1.own n x _ hx ho;refine⟨.ref a,h1,p1 g G1 H1 σ _ k1 λu e G2 H2 Δ2 k2 s2 r2 ⟨y,ds,i,j,q1,q2,q3,q4,p⟩=>?_⟩;subst q3;cases r2.inv;obtain⟨a',o',w1,w2,w3,w4,w5⟩:=k2.own n y _ q1 q2;rw[h1]at w1;cases w1;cases o' with
  |lst vs=>
   have w3:Reps K G2 vs ds:=w3;exact .inl ⟨a,vs,i,j,rfl,rfl,w2,by rw[w3.length];exact q4,c.nx σ G2 _ _ (k2.write q1 q2 h1 (show OwnRep K G2 (.lst (vs.set j v)) (.lst (ds.set j d)) from w3.set j (r1.mono s2))) p⟩
  |_=>exact absurd w3 (λz=>z)
theorem Zcr {ds es:List D}(he:ds=[.lst es]\/ds=[.tup es]) (p:P (.int es.length) Δ):JC K (rLenU K) ds Δ P:=λg G H σ Q vs k rs c=>.inl (Zq0 he p g G H σ Q vs k rs c)
theorem Znn {n:Nat}{x:Slot}{ds:List D}(hx:Δ[n]?=some x) (ho:x.od=some (.lst ds)) (p:P (.int ds.length) Δ):JE K (tCB (rLenU K) (tCons (tVar n) tNil)) Δ P:=λg G H σ Q k c=>by
 obtain⟨v,h1,h2⟩:=Zor hx ho p g G H σ Q k c;exact⟨v,h1,.inl h2⟩
def cutD (ds:List D) (lo hi:Option Int):List D:=(ds.drop (HT.sIx ds.length 0 lo)).take (HT.sIx ds.length ds.length hi-HT.sIx ds.length 0 lo)
theorem Zlh {α:Type}(xs:List α) (lo hi:Option Int) (h:HT.sIx xs.length 0 lo=0/\HT.sIx xs.length xs.length hi=xs.length):(xs.drop (HT.sIx xs.length 0 lo)).take (HT.sIx xs.length xs.length hi-HT.sIx xs.length 0 lo)=xs:=by
 rw[h.1,h.2];simp
def JO2 (t:TO) (Δ:Evt) (K:W.Frag) (P:Option Int->Evt->Prop):Prop:=
 ∀g G H σ (Q:Option Int->Hp->Prop),Ok K g G H σ Δ -> (∀o G' H' Δ',Ok K g G' H' σ Δ' -> Same G G' -> P o Δ' -> Q o H')->t σ H Q
theorem Zfn {P:Option Int->Evt->Prop}(p:P none Δ):JO2 tNoPart Δ K P:=λg G H σ Q k c=>c none G H Δ k (Same.refl _) p
theorem Zfj {te:TE}{P:Option Int->Evt->Prop}(h:JE K te Δ λd Δ1=>∃i,d=.int i/\P (some i) Δ1):JO2 (tPart te) Δ K P:=λg G H σ Q k c=>
 h g G H σ _ k λv d G1 H1 Δ1 k1 s1 r1 hq_=>by obtain⟨i,e,p⟩:=hq_;subst e;cases r1.inv;exact⟨i,rfl,c (some i) G1 H1 Δ1 k1 s1 p⟩
def slD (d:D) (lo hi:Option Int):Option D:=match d with
 |.lst ds=>some (.lst (cutD ds lo hi))
 |.scr ds=>some (.lst (cutD ds lo hi))
 |.tup ds=>some (.tup (cutD ds lo hi))
 |_=>none
theorem Zlm {te:TE}{tl th:TO}(h:JE K te Δ λd Δ1=>JO2 tl Δ1 K λlo Δ2=>JO2 th Δ2 K λhi Δ3=>∃e,slD d lo hi=some e/\P e Δ3):JE K (tSl (rSlU K) te tl th) Δ P:=λg G H σ Q k c=>
 h g G H σ _ k λv d G1 H1 Δ1 k1 s1 r1 p1=>p1 g G1 H1 σ _ k1 λlo G2 H2 Δ2 k2 s2 p2=>p2 g G2 H2 σ _ k2 λhi G3 H3 Δ3 k3 s3 hq_=>by
  obtain⟨e,he,p⟩:=hq_;have r3:=r1.mono (s2.trans s3);have cc:=c.up (s1.trans (s2.trans s3));cases r3 with
  |lst ha rs=>
   cases he;refine .inl ⟨_,_,rfl,SqL.of (k3.live _ _ ha),λq hq=>?_⟩;obtain⟨k4,sg⟩:=k3.laid hq (.lst _);refine cc _ _ _ _ Δ3 k4 sg (.lst Zay (Reps.mono sg ?_)) p;unfold cutV cutD;rw[rs.length];exact(rs.drop _).take _
  |scr ha rs=>
   cases he;refine .inl ⟨_,_,rfl,k3.live.seq ha,λq hq=>?_⟩;obtain⟨k4,sg⟩:=k3.laid hq (.lst _);refine cc _ _ _ _ Δ3 k4 sg (.lst Zay (Reps.mono sg ?_)) p;unfold cutV cutD;rw[rs.length];exact(rs.drop _).take _
  |tup ha rs=>
   cases he;refine .inr ⟨_,_,rfl,SqT.of (k3.live _ _ ha),λhw=>?_,λhw q hq=>?_⟩
   ·rw[rs.length]at hw
    refine cc _ _ _ _ Δ3 k3 (Same.refl _) (.tup ha ?_) p;unfold cutD;rw[Zlh _ _ _ hw];exact rs
   ·obtain⟨k4,sg⟩:=k3.laid hq (.tup _)
    refine cc _ _ _ _ Δ3 k4 sg (.tup Zay (Reps.mono sg ?_)) p;unfold cutV cutD;rw[rs.length];exact(rs.drop _).take _
  |_=>cases he
theorem Zn7 {te:TE}(h:JE K te Δ λd Δ1=>∃ds,d=.tup ds/\P (.tup ds.reverse) Δ1):JE K (tSlR K te) Δ P:=λg G H σ Q k c=>
 h g G H σ _ k λv d G1 H1 Δ1 k1 s1 r1 hq_=>by
  obtain⟨ds,e,p⟩:=hq_;subst e;obtain⟨_,_,rfl,ha,rs⟩:=r1.inv
  next=>
   refine⟨_,_,rfl,SqT.of (k1.live _ _ ha),λq hq=>?_⟩;obtain⟨k4,sg⟩:=k1.laid hq (.tup _);exact c _ _ _ _ Δ1 k4 (s1.trans sg) (.tup Zay (rs.reverse.mono sg)) p
theorem Zfh {tl:TE}{P:List D->Evt->Prop}(h:JE K tl Δ λd Δ1=>∃ds,(d=.lst ds\/d=.scr ds)/\P ds Δ1):JI K (iSeq K tl) Δ P:=λg G H σ R k c=>.inl (Zpc h g G H σ R k c)
theorem Zdm {tl:TE}{P:List D->Evt->Prop}(h:JE K tl Δ λd Δ1=>∃ds,d=.tup ds/\P ds Δ1):JI K (iSeq K tl) Δ P:=λg G H σ R k c=>.inr (Zp9 h g G H σ R k c)
def truD:D->Option Bool
 |.non=>some false
 |.bl b=>some b
 |.int i=>some (i != 0)
 |.lst ds=>some !ds.isEmpty
 |.tup ds=>some !ds.isEmpty
 |_=>none
theorem Reps.isEmpty {G:Hp}{vs:List V}{ds:List D}(r:Reps K G vs ds):vs.isEmpty=ds.isEmpty:=by cases r <;> rfl
theorem Zcm {t:TE}{Pb:Bool->Evt->Prop}(h:JE K t Δ λd Δ1=>∃b,truD d=some b/\Pb b Δ1):JT K (tTru K t) Δ Pb:=λg G H σ Q k c=>
 h g G H σ _ k λv d G1 H1 Δ1 k1 s1 r1 hq_=>by
  obtain⟨b,e,p1⟩:=hq_;refine⟨b,?_,c b G1 H1 Δ1 k1 s1 p1⟩;cases r1 with
  |non=>cases e;rfl
  |bl b=>cases e;rfl
  |int i=>cases e;rfl
  |str x=>cases e
  |ty n=>cases e
  |scr ha rs=>cases e
  |adr a=>cases e
  |dct ha hl rs=>cases e
  |exc ha=>cases e
  |lst ha rs=>cases e;exact .inl ⟨_,SqL.of (k1.live _ _ ha),by rw[rs.isEmpty]⟩
  |tup ha rs=>cases e;exact .inr (.inl ⟨_,SqT.of (k1.live _ _ ha),by rw[rs.isEmpty]⟩)
def tyD:D->Option String
 |.non=>some "NoneType"
 |.bl _=>some "bool"
 |.int _=>some "int"
 |.str _=>some "str"
 |.lst _=>some "list"
 |.tup _=>some "tuple"
 |.dct _ _=>some "dict"
 |_=>none
theorem Zqi {d:D}{n T:String}{b:Bool}(ht:tyD d=some T) (e:∀K,PySem.W.kitOne K (.type T) (.type n)=some b) (p:P (.bl b) Δ):JC K (rIsi K) [d,.ty n] Δ P:=λg G H σ Q vs k rs c=>by
 obtain⟨_,_,rfl,r,t⟩:=rs.inv
 next=>
  obtain⟨_,_,rfl,r',t⟩:=t.inv
  next=>
   cases t.inv;cases r'.inv;refine⟨_,n,.type T,b,rfl,?_,e K,c _ _ G H Δ k (Same.refl _) (.bl b) p⟩;cases r with
   |non=>cases ht;exact .non
   |bl b=>cases ht;exact .bl b
   |int i=>cases ht;exact .int i
   |str x=>cases ht;exact .str x
   |ty n=>cases ht
   |scr ha rs=>cases ht
   |adr a=>cases ht
   |dct ha hl rs=>cases ht;exact .dK (k.live _ _ ha)
   |exc ha=>cases ht
   |lst ha rs=>cases ht;exact .lst (k.live _ _ ha)
   |tup ha rs=>cases ht;exact .tup (k.live _ _ ha)
theorem Zbj {ta tb:TE}(h:JE K ta Δ λd Δ1=>∃b,d=.bl b/\if b=true then JE K tb Δ1 P else P (.bl false) Δ1):JE K (tAndV ta tb) Δ P:=λg G H σ Q k c=>
 h g G H σ _ k λv d G1 H1 Δ1 k1 s1 r1 hq_=>by
  obtain⟨b,e,p1⟩:=hq_;subst e;cases r1.inv;refine⟨b,rfl,?_⟩;cases b with
  |true=>exact(show JE K tb Δ1 P from p1) g G1 H1 σ Q k1 (c.up s1)
  |false=>exact c _ _ G1 H1 Δ1 k1 s1 (.bl false) p1
theorem Zq7 {ta tb:TE}(h:JE K ta Δ λd Δ1=>∃b,d=.bl b/\if b=true then P (.bl true) Δ1 else JE K tb Δ1 P):JE K (tOrV ta tb) Δ P:=λg G H σ Q k c=>
 h g G H σ _ k λv d G1 H1 Δ1 k1 s1 r1 hq_=>by
  obtain⟨b,e,p1⟩:=hq_;subst e;cases r1.inv;refine⟨b,rfl,?_⟩;cases b with
  |false=>exact(show JE K tb Δ1 P from p1) g G1 H1 σ Q k1 (c.up s1)
  |true=>exact c _ _ G1 H1 Δ1 k1 s1 (.bl true) p1
theorem Zft {ta:TE}(h:JE K ta Δ λd Δ1=>∃b,d=.bl b/\P (.bl !b) Δ1):JE K (tNotV ta) Δ P:=λg G H σ Q k c=>
 h g G H σ _ k λv d G1 H1 Δ1 k1 s1 r1 hq_=>by
  obtain⟨b,e,p1⟩:=hq_;subst e;cases r1.inv;exact⟨b,rfl,c _ _ G1 H1 Δ1 k1 s1 (.bl !b) p1⟩
theorem Zmw {to te:TE}(h:JE K to Δ λd Δ1=>∃ns:List Int,d=.tup (ns.map D.int)/\JE K te Δ1 λe Δ2=>∃i j,e=.int i/\ns[j]?=some i/\(∀m,m<j->ns[m]?≠some i)/\P (.int (j:Nat)) Δ2) :
  JE K (tBM K "tuple" (rIndexT K) to (tCons te tNil)) Δ P:=λg G H σ Q k c=>
 h g G H σ _ k λv d G1 H1 Δ1 k1 s1 r1 hq_=>by
  obtain⟨ns,e,p1⟩:=hq_;subst e;obtain⟨a,vs,rfl,ha,rs⟩:=r1.inv
  next=>
   refine⟨.inr (.inl ⟨rfl,.inr ⟨_,k1.live _ _ ha⟩⟩),p1 g G1 H1 σ _ k1 λu e G2 H2 Δ2 k2 s2 r2 ⟨i,j,q1,q2,q3,p⟩=>?_⟩;subst q1;cases r2.inv;have ev:vs=ns.map V.int:=rs.ints;subst ev;have hj:j<ns.length:=(Waj.mp q2).1;refine⟨a,_,.int i,j,rfl,rfl,SqT.of (k2.live _ _ (s2 _ _ ha)),rfl,?_,by simpa using hj,⟨.int i,by rw[Wad,q2];rfl,by simp[eqV]⟩,λm z hm hz=>?_,c _ _ G2 H2 Δ2 k2 (s1.trans s2) (.int _) p⟩
   ·rw[List.all_map];exact Wby.mpr λ_ _=>rfl
   ·rw[Wad]at hz
    cases e:ns[m]? with
    |none=>rw[e]at hz;cases hz
    |some w=>
     rw[e]at hz;have hz:V.int w=z:=by simpa using hz
     subst hz;have hne:w≠i:=λq=>q3 m hm (by rw[e,q]);show (w == i)=false;exact beq_eq_false_iff_ne.mpr hne
end
section
variable {K:W.Frag}{g:Gm}{G H:Hp}{σ:St}{Δ:Evt}
theorem Ok.setVal' (k:Ok K g G H σ Δ) {v:V}{d:D}(i:Nat) (r:Rep K G v d):Ok K g G H (σ.set i (some v)) (Δ.set i (.val d)):=by
 by_cases hi:i < Δ.length
 ·exact k.setVal hi r
 ·have hl:=k.len
  rw[Wb7 (l:=σ) (by omega),Wb7 (l:=Δ) (by omega)];exact k
theorem Ok.setOwn' (k:Ok K g G H σ Δ) {a:Addr}{od:OD}(i:Nat) (p:Pend K g G H σ Δ a od):Ok K g G H (σ.set i (some (.ref a))) (Δ.set i (.own od)):=by
 by_cases hi:i < Δ.length
 ·exact k.setOwn hi p
 ·have hl:=k.len
  rw[Wb7 (l:=σ) (by omega),Wb7 (l:=Δ) (by omega)];exact k
theorem Zrt {te:TE}{i:Nat}{P:Pst}(h:JE K te Δ λd Δ1=>P.nx (Δ1.set i (.val d))):JS K (tAsg te (gName i)) Δ P:=λg G H σ E k c=>
 h g G H σ _ k λv d G1 H1 Δ1 k1 s1 r1 p1=>c.nx _ G1 H1 _ (k1.setVal' i r1) p1
theorem Zpe {te:TE}{i:Nat}{P:Pst}(h:JO K te Δ λod Δ1=>P.nx (Δ1.set i (.own od))):JS K (tAsg te (gName i)) Δ P:=λg G H σ E k c=>
 h g G H σ _ k λa od G1 H1 Δ1 k1 s1 pd p1=>c.nx _ G1 H1 _ (k1.setOwn' i pd) p1
theorem Zom {i j:Nat}{ta:TA}{P:Pst}(h:JA K ta Δ λds Δ1=>∃d e,ds=[d,e]/\P.nx ((Δ1.set i (.val d)).set j (.val e))):JS K (tPar i j ta) Δ P:=λg G H σ E k c=>
 h g G H σ _ k λvs ds G1 H1 Δ1 k1 s1 r1 hq_=>by
  obtain⟨d,e,hd,p1⟩:=hq_;subst hd;obtain⟨_,_,rfl,ra,rr⟩:=r1.inv
  next=>
   obtain⟨_,_,rfl,rb,rr⟩:=rr.inv
   next=>
    cases rr.inv;exact⟨_,_,rfl,c.nx _ G1 H1 _ ((k1.setVal' i ra).setVal' j rb) p1⟩
theorem Zbl {i:Nat}{d:D}{P:Evt->Prop}(p:P (Δ.set i (.val d))):JG K (gName i) d Δ P:=λg G H σ v R k r c=>c _ G H _ (k.setVal' i r) (Same.refl _) p
theorem Zc8 {n i:Nat}{d:D}{P:Evt->Prop}(hn:i<n) (p:P (Δ.set i (.val d))):JGn K n (gName i) d Δ P:=λg G H σ v R k r c=>
 c _ G H _ (k.setVal' i r) (Same.refl _) (λj hj=>Wa0 (by omega)) p
theorem Zrx {n:Nat}{te:TE}{Pp:Pst}{x:Slot}{ds0:List D}(hx:Δ[n]?=some x) (ho:x.od=some (.lst ds0))
  (h:JE K te Δ λd Δ1=>∃y ds,Δ1[n]?=some y/\y.od=some (.lst ds)/\ds.length<sizeLine/\Pp.nx (Δ1.set n (y.put (.lst (ds++[d]))))) :
  JS K (tDrop (tBM K "list" rAppend (tVar n) (tCons te tNil))) Δ Pp:=Zl5 hx ho ⟨_,rfl⟩ h
end
section
variable {K:W.Frag}{Δ:Evt}{nx bk ct:Evt->Prop}{rt:D->Evt->Prop}{ro:OD->Evt->Prop}
theorem Za6 (p:nx Δ):JS K tNext Δ ⟨nx,rt,bk,ct,ro⟩:=Zpu p
theorem Zat {t u:TS}(h:JS K t Δ ⟨λΔ1=>JS K u Δ1 ⟨nx,rt,bk,ct,ro⟩,rt,bk,ct,ro⟩):JS K (tSeq t u) Δ ⟨nx,rt,bk,ct,ro⟩:=Zn3 h
theorem Zbc {t u:TS}(I:Evt->Prop) (h1:JS K t Δ ⟨I,rt,bk,ct,ro⟩) (h2:∀Δ1,I Δ1->JS K u Δ1 ⟨nx,rt,bk,ct,ro⟩):JS K (tSeq t u) Δ ⟨nx,rt,bk,ct,ro⟩:=
 Zn3 (h1.mono h2 (λ_ _ z=>z) (λ_ z=>z) (λ_ z=>z) λ_ _ z=>z)
theorem Zaq {te:TE}(h:JE K te Δ rt):JS K (tRet te) Δ ⟨nx,rt,bk,ct,ro⟩:=Zqt h
theorem Zic {te:TE}(h:JO K te Δ ro):JS K (tRet te) Δ ⟨nx,rt,bk,ct,ro⟩:=Zpz h
theorem Zbs {c:TT}{t u:TS}(h:JT K c Δ λb Δ1=>if b=true then JS K t Δ1 ⟨nx,rt,bk,ct,ro⟩ else JS K u Δ1 ⟨nx,rt,bk,ct,ro⟩):JS K (tIfS c t u) Δ ⟨nx,rt,bk,ct,ro⟩:=Zsf h
theorem Za2 {te:TE}{i:Nat}(h:JE K te Δ λd Δ1=>nx (Δ1.set i (.val d))):JS K (tAsg te (gName i)) Δ ⟨nx,rt,bk,ct,ro⟩:=Zrt h
theorem Zdp {te:TE}{i:Nat}(h:JO K te Δ λod Δ1=>nx (Δ1.set i (.own od))):JS K (tAsg te (gName i)) Δ ⟨nx,rt,bk,ct,ro⟩:=Zpe h
theorem Zgz {i j:Nat}{ta:TA}(h:JA K ta Δ λds Δ1=>∃d e,ds=[d,e]/\nx ((Δ1.set i (.val d)).set j (.val e))):JS K (tPar i j ta) Δ ⟨nx,rt,bk,ct,ro⟩:=Zom h
theorem Zog {te:TE}{t:TG}(h:JE K te Δ λd Δ1=>JG K t d Δ1 nx):JS K (tAsg te t) Δ ⟨nx,rt,bk,ct,ro⟩:=Zrw h
theorem Zhu {n:Nat}{te:TE}{x:Slot}{ds0:List D}(hx:Δ[n]?=some x) (ho:x.od=some (.lst ds0))
  (h:JE K te Δ λd Δ1=>∃y ds,Δ1[n]?=some y/\y.od=some (.lst ds)/\ds.length<sizeLine/\nx (Δ1.set n (y.put (.lst (ds++[d]))))) :
  JS K (tDrop (tBM K "list" rAppend (tVar n) (tCons te tNil))) Δ ⟨nx,rt,bk,ct,ro⟩:=Zrx hx ho h
theorem Zgo {n:Nat}{ti te:TE}(h:JE K te Δ λd Δ1=>(∃x ds,Δ1[n]?=some x/\x.od=some (.lst ds))/\JE K ti Δ1 λe Δ2=>∃x ds i j,Δ2[n]?=some x/\x.od=some (.lst ds)/\e=.int i/\ixN ds.length i=some j/\nx (Δ2.set n (x.put (.lst (ds.set j d))))) :
  JS K (tAsg te (gSub (tVar n) ti rSetU)) Δ ⟨nx,rt,bk,ct,ro⟩:=Zkv (h.mono λd Δ1 ⟨⟨x,ds,h1,h2⟩,h3⟩=>⟨⟨x,_,h1,h2⟩,h3⟩)
theorem Zcv {wi:TI}{t:TG}{tb:TS}(h:JI K wi Δ λds Δ1=>∃I:Nat->Evt->Prop,I 0 Δ1/\(∀i d Δ2,ds[i]?=some d->I i Δ2->JG K t d Δ2 λΔ3=>JS K tb Δ3 ⟨I (i+1),rt,nx,I (i+1),ro⟩)/\∀Δ2,I ds.length Δ2->nx Δ2) :
  JS K (tFor wi t tb) Δ ⟨nx,rt,bk,ct,ro⟩:=Zq6 h
end
theorem Zmd {α β:Type}{f:α -> β}{xs:List α}{i:Int}(h0:0<=i) (h1:i<(xs.length:Int)):∃c,xs[i.toNat]?=some c/\atI (xs.map f) i=some (f c):=by
 have hk:i.toNat<xs.length:=by omega
 have e:i=((i.toNat:Nat):Int):=by omega
 have q:xs[i.toNat]?=some xs[i.toNat]:=Wac hk;generalize xs[i.toNat]=c at q;refine⟨c,q,?_⟩;have z:atI (xs.map f) ((i.toNat:Nat):Int)=some (f c):=Zb6 (by rw[Wad,q];rfl);rw[<- e]at z;exact z
theorem Zkt:bootBuiltins "abs" = some (.builtin "abs"):=by decide +kernel
theorem Zc5:bootBuiltins "len" = some (.builtin "len"):=by decide +kernel
theorem Zkj:bootBuiltins "min" = some (.builtin "min"):=by decide +kernel
theorem Zoj:bootBuiltins "max" = some (.builtin "max"):=by decide +kernel
theorem Za9:bootBuiltins "isinstance" = some (.builtin "isinstance"):=by decide +kernel
theorem Zhm:bootBuiltins "all" = some (.builtin "all"):=by decide +kernel
theorem Zqr:bootBuiltins "sum" = some (.builtin "sum"):=by decide +kernel
theorem Zmk:bootBuiltins "sorted" = some (.builtin "sorted"):=by decide +kernel
theorem Zb4:bootBuiltins "tuple" = some (.type "tuple"):=by decide +kernel
theorem Zkg:bootBuiltins "list" = some (.type "list"):=by decide +kernel
theorem Zre:bootBuiltins "set" = some (.type "set"):=by decide +kernel
theorem Zk9:bootBuiltins "int" = some (.type "int"):=by decide +kernel
theorem Zir:bootBuiltins "bool" = some (.type "bool"):=by decide +kernel
theorem Zn4:bootBuiltins "str" = some (.type "str"):=by decide +kernel
theorem Zri:bootBuiltins "zip" = some (.type "zip"):=by decide +kernel
structure Callee (P:Program) (w:World) (K:W.Frag) (mg:Str->Option Value) (base:Heap) (k:Nat) (x:Str) (ps:List Str) (sp:Sp):Prop where
 ex:∃(f:Addr) (fd:FuncData),FnOk P w K mg base CX0 k f fd ps sp/\Binds K fd ps []/\W.keepIn K (.ref f)=true/\mg x=some (.ref f)
section
variable {X:Cx}{k:Nat}{x:Str}{ps:List Str}{sp:Sp}{e:Expr}{es:List Expr}{t:TA}{p pos:Pos}
theorem Zbe (C:Callee X.prog X.w X.K X.mg X.base k x ps sp) (hr:Room k X.A) (ha:PA X (e::es) t) (hg:Gl X x:=by rfl) (hdb:(x == ("__debug__":Str))=false:=by decide)
  (he:starEach (e::es) X.env=(false,eval e X.env)::starEach es X.env:=by rfl) (hpl:(backTo pos (starEach es X.env)).any (·.1)=false:=by rfl):PE X (.Call (.Name x p) (e::es) [] pos) (tCall sp [] E0 t):=by
 obtain⟨f,fd,F,b,kp,m⟩:=C.ex;exact Zo9 F hr hg m kp b .nil pass0 ha hdb he hpl
end
def fixD (sel:List Nat) (Δ:Evt):Evt:=sel.map λi=>(Δ[i]?).getD .any
theorem Zdu {n:Nat}{sel:List Nat}{ts Δ:Evt}(ht:ts.length=n):backD n sel (ts++fixD sel Δ) 0 Δ = Δ:=by
 apply Wbl;intro i;rw[Zc3];cases q:Δ[i]? with
 |none=>rfl
 |some x=>
  show some (backAt n sel (ts++fixD sel Δ) (0+i) x)=some x;congr 1;rw[Nat.zero_add];have key:∀j,sel.idxOf? i=some j->(ts++fixD sel Δ)[n+j]?=some x:=λj hj=>by
   rw[Wap (by omega),ht,Nat.add_sub_cancel_left];unfold fixD;rw[Wad,Zd7 hj];show some ((Δ[i]?).getD .any)=_;rw[q];rfl
  unfold backAt;cases x with
  |any=>rfl
  |val d=>rfl
  |own o=>
   dsimp only;cases e:sel.idxOf? i with
   |none=>rfl
   |some j=>dsimp only;rw[key j e]
  |bor o=>
   dsimp only;cases e:sel.idxOf? i with
   |none=>rfl
   |some j=>dsimp only;rw[key j e]
  |ownA a o=>
   dsimp only;cases e:sel.idxOf? i with
   |none=>rfl
   |some j=>dsimp only;rw[key j e]
section
variable {K:W.Frag}{Δ:Evt}{P:D->Evt->Prop}
theorem Zcf {sel:List Nat}{wi:TI}{tc:TT}{te:TE}(hsel:sel.Nodup)
  (h:JI K wi Δ λds Δ1=>ds.length<sizeLine/\∃(p:D->Bool) (f:D->D),
   (∀(i:Nat) d,ds[i]?=some d->JT K tc (.val d::fixD sel Δ1) λb Δ4=>b=p d/\if b=true then JE K te Δ4 λe Δ5=>e=f d/\∃x,Δ5=x::fixD sel Δ1 else ∃x,Δ4=x::fixD sel Δ1) ∧
   P (.lst ((ds.filter p).map f)) Δ1):JE K (tComp 1 sel wi (gName 0) tc te) Δ P:=by
 refine Zg4 hsel λg G H σ R k c=>h g G H σ R k λJ ds G' H' Δ' k' s' it ⟨z,p,f,ht,he⟩=>c J ds G' H' Δ' k' s' it ⟨z,fixD sel Δ',p,f,rfl,λi d ts hd hts=>?_,?_⟩
 ·refine Zc8 (by decide) ?_
  obtain⟨x,rfl⟩:∃x,ts=[x]:=by
   match ts,hts with
   |[x],_=>exact⟨x,rfl⟩
  intro g G H σ Q k c;refine ht i d hd g G H σ Q k λb G1 H1 Δ1 k1 s1 ⟨e1,q⟩=>c b G1 H1 Δ1 k1 s1 ⟨e1,?_⟩;cases b with
  |true=>
   rw[if_pos rfl]at q ⊢;exact q.mono λe Δ5 ⟨e2,x,e3⟩=>⟨e2,[x],rfl,e3⟩
  |false=>
   rw[if_neg Wai]at q ⊢;obtain⟨x,e3⟩:=q;exact⟨[x],rfl,e3⟩
 ·rw[Zdu (by simp)];exact he
theorem Zms {sel:List Nat}{wi:TI}{tc:TT}{te:TE}{Po:OD->Evt->Prop}(hsel:sel.Nodup)
  (h:JI K wi Δ λds Δ1=>ds.length<sizeLine/\∃(p:D->Bool) (f:D->D),
   (∀(i:Nat) d,ds[i]?=some d->JT K tc (.val d::fixD sel Δ1) λb Δ4=>b=p d/\if b=true then JE K te Δ4 λe Δ5=>e=f d/\∃x,Δ5=x::fixD sel Δ1 else ∃x,Δ4=x::fixD sel Δ1) ∧
   Po (.lst ((ds.filter p).map f)) Δ1):JO K (tComp 1 sel wi (gName 0) tc te) Δ Po:=by
 refine Ziz hsel λg G H σ R k c=>h g G H σ R k λJ ds G' H' Δ' k' s' it ⟨z,p,f,ht,he⟩=>c J ds G' H' Δ' k' s' it ⟨z,λi ys Δ=>ys=((ds.take i).filter p).map f/\∃x,Δ = x::fixD sel Δ',⟨by simp,.any,rfl⟩,?_,?_⟩
 ·rintro i d ys Δ2 hd ⟨rfl,x,rfl⟩
  have tk:ds.take (i+1)=ds.take i++[d]:=by
   rw[Wcf,hd];rfl
  refine Zc8 (by decide) ?_;intro g G H σ Q k c;refine ht i d hd g G H σ Q k λb G1 H1 Δ1 k1 s1 ⟨e1,q⟩=>c b G1 H1 Δ1 k1 s1 ?_;cases b with
  |true=>
   rw[if_pos rfl]at q ⊢;refine q.mono λe Δ5 ⟨e2,x,e3⟩=>⟨?_,x,e3⟩;rw[tk,Wcq,Wa6,Wb4,<- e1,e2];rfl
  |false=>
   rw[if_neg Wai]at q ⊢;obtain⟨x,e3⟩:=q;refine⟨?_,x,e3⟩;rw[tk,Wcq,Wa6,Wb4,<- e1];simp
 ·rintro ys Δ2 ⟨rfl,x,rfl⟩
  rw[Wbc,show (x::fixD sel Δ')=[x]++fixD sel Δ' from rfl,Zdu (by simp)];exact he
theorem Zmv {sel:List Nat}{wi:TI}{tc:TT}{te:TE}(hsel:sel.Nodup)
  (h:JI K wi Δ λds Δ1=>ds.length<sizeLine/\∃(p:D->Bool) (f:D->D),
   (∀(i:Nat) d,ds[i]?=some d->∃a b,d=.tup [a,b]/\JT K tc (.val a::.val b::fixD sel Δ1) λt Δ4=>t=p d/\if t=true then JE K te Δ4 λe Δ5=>e=f d/\∃x y,Δ5=x::y::fixD sel Δ1 else ∃x y,Δ4=x::y::fixD sel Δ1) ∧
   P (.lst ((ds.filter p).map f)) Δ1):JE K (tComp 2 sel wi (gTup K 2 (gCons (gName 0) (gCons (gName 1) gNil))) tc te) Δ P:=by
 refine Zg4 hsel λg G H σ R k c=>h g G H σ R k λJ ds G' H' Δ' k' s' it ⟨z,p,f,ht,he⟩=>c J ds G' H' Δ' k' s' it ⟨z,fixD sel Δ',p,f,rfl,λi d ts hd hts=>?_,?_⟩
 ·obtain⟨a,b,rfl,hj⟩:=ht i d hd
  refine Zh7 rfl (Zc6 (Zc8 (by decide) (Zc6 (Zc8 (by decide) (Zgx ?_)))));obtain⟨x,y,rfl⟩:∃x y,ts=[x,y]:=by
   match ts,hts with
   |[x,y],_=>exact⟨x,y,rfl⟩
  intro g G H σ Q k c;refine hj g G H σ Q k λb G1 H1 Δ1 k1 s1 ⟨e1,q⟩=>c b G1 H1 Δ1 k1 s1 ⟨e1,?_⟩;cases b with
  |true=>
   rw[if_pos rfl]at q ⊢;exact q.mono λe Δ5 ⟨e2,x,y,e3⟩=>⟨e2,[x,y],rfl,e3⟩
  |false=>
   rw[if_neg Wai]at q ⊢;obtain⟨x,y,e3⟩:=q;exact⟨[x,y],rfl,e3⟩
 ·rw[Zdu (by simp)];exact he
end
section
variable {K:W.Frag}{Δ:Evt}
theorem JS.conv {t:TS}{Δ':Evt}{P:Pst}(hc:∀g G H σ,Ok K g G H σ Δ -> ∃G',Same G G' /\ Ok K g G' H σ Δ') (h:JS K t Δ' P):JS K t Δ P:=λg G H σ E k c=>by
 obtain⟨G',s,k'⟩:=hc g G H σ k;exact h g G' H σ E k' c
end
section
variable {X:Cx}(K:W.Frag)
theorem ixK (hu:X.A.units+1<cLine) (hK:X.K=K:=by rfl):IxR X (rIxU K):=hK ▸ ixU hu
theorem slK (hK:X.K=K:=by rfl):SlR X (rSlU K):=hK ▸ slU
theorem slRK {e:Expr}{te:TE}{pos p2 p3 p4:Pos}{k:Nat}(he:PE X e te) (hK:X.K=K:=by rfl):PE X (.Subscript e (.Slice none none (some (.UnaryOp .USub (.Constant (.int 1) k p4) p3)) p2) pos) (tSlR K te):=hK ▸ Zl8 he
theorem addK (hK:X.K=K:=by rfl):OpR X (binaryOp .Add) (rAddU K):=hK ▸ Zox
theorem lenK (hK:X.K=K:=by rfl):CallR X (.builtin "len") (rLenU K):=hK ▸ Zmb
def rTup (K:W.Frag):List V->Hp->VK->Prop:=λxs H Q=>∃p ys,xs=[.ref p]/\((SqL K H p ys/\∀l,H l=none->Q (.ref l) (upd H l (.tup ys)))\/(SqT K H p ys/\Q (.ref p) H))
theorem tupK (hK:X.K=K:=by rfl):CallR X (.type "tuple") (rTup K):=hK ▸ Zgr
def rLst (K:W.Frag):List V->Hp->VK->Prop:=λxs H Q=>∃p ys,xs=[.ref p]/\(SqL K H p ys\/SqT K H p ys)/\∀l,H l=none->Q (.ref l) (upd H l (.lst ys))
theorem lstK (hK:X.K=K:=by rfl):CallR X (.type "list") (rLst K):=hK ▸ Zh1
theorem seqK {tg l:Expr}{tl:TE}(hl:PE X l tl) (hK:X.K=K:=by rfl):PI X tg l (iSeq K tl):=hK ▸ Zru hl
theorem truK {a:Expr}{ta:TE}(ha:PE X a ta) (he:∀whole,isTrue a X.env whole=(do let v ← whole;standAt a.pos;holding [v] (truthy v))) (hK:X.K=K:=by rfl):PT X a (tTru K ta):=hK ▸ Zqo ha he
theorem gtupK {es:List Expr}{k:Nat}{t:TGs}{n:Nat}{pos:Pos}(hc:X.calm=true) (h:PGs X es t)
  (hn:(assignEach es X.env).length=n:=by rfl) (hst:(assignEach es X.env).findIdx? (·.1)=none:=by rfl) (hK:X.K=K:=by rfl):PG X (.Tuple es k pos) (gTup K n t):=hK ▸ Zq3 hc h hn hst
variable {o e:Expr}{es:List Expr}{to:TE}{t:TA}{name:Str}{apos cpos:Pos}{T id:String}{r:V->List V->Hp->VK->Prop}
theorem bmK (pa:PlainAttrs T) (slot:PySem.Slot T name id) (hty:typeOf (.builtin id)=pure (.type "method_descriptor")) (hm:MtR X id r) (ho:PE X o to) (ha:PA X (e::es) t)
  (hbase:attributeBase o name X.env (eval o X.env)=eval o X.env:=by rfl)
  (hfew:((backTo cpos (starEach (e::es) X.env)).all (λx=>!x.1) && (backToKw cpos (keywordEach [] X.env)).all (λx=>x.1.isSome)
   && decide ((e::es).length+([]:List Keyword).length+(if ([]:List Keyword).isEmpty then 0 else 1)<30))=true:=by rfl)
  (hline:(apos.endLine == cpos.line)=true:=by rfl) (hs:starEach (e::es) X.env=(false,eval e X.env)::starEach es X.env:=by rfl) (hplain:(backTo cpos (starEach es X.env)).any (·.1)=false:=by rfl) (hK:X.K=K:=by rfl) :
  PE X (.Call (.Attribute o name apos) (e::es) [] cpos) (tBM K T r to t):=hK ▸ Zsi pa slot hty hm ho ha hbase hfew hline hs hplain
end
section
variable {K:W.Frag}{Δ:Evt}{P:D->Evt->Prop}
theorem Zeu {ds es:List D}(he:ds=[.lst es]\/ds=[.tup es]) (p:P (.tup es) Δ):JC K (rTup K) ds Δ P:=Znu he p
theorem Zkm {ds es:List D}(he:ds=[.lst es]\/ds=[.tup es]) (p:P (.lst es) Δ):JC K (rLst K) ds Δ P:=λg G H σ Q vs k rs c=>by
 rcases he with he|he <;> subst he
 ·obtain⟨_,_,rfl,r,t⟩:=rs.inv
  next=>
   cases t.inv;obtain⟨_,_,rfl,ha,rs⟩:=r.inv
   next=>
    refine⟨_,_,rfl,.inl (SqL.of (k.live _ _ ha)),λl hl=>?_⟩;obtain⟨k2,sg⟩:=k.laid hl (.lst _);exact c _ _ _ _ Δ k2 sg (.lst Zay (rs.mono sg)) p
 ·obtain⟨_,_,rfl,r,t⟩:=rs.inv
  next=>
   cases t.inv;obtain⟨_,_,rfl,ha,rs⟩:=r.inv
   next=>
    refine⟨_,_,rfl,.inr (SqT.of (k.live _ _ ha)),λl hl=>?_⟩;obtain⟨k2,sg⟩:=k.laid hl (.lst _);exact c _ _ _ _ Δ k2 sg (.lst Zay (rs.mono sg)) p
end
def fLaw:DSp:=λds Post=>∃ns:List Int,ds=[.scr (ns.map .int)]/\ns.length<=63/\Post (.bl true)
def spLaw (K:W.Frag):Sp:=λvs H Q _=>∃(a:Addr) (ns:List Int),vs=[.ref a]/\SqL K H a (ns.map V.int)/\ns.length<=63/\∀H',Q (.bl true) H'
theorem Zny {K:W.Frag}{vs:List V}{H:Hp}{Q:VK}{E:XK}(h:spLaw K vs H Q E):spD K fLaw vs H Q E:=by
 obtain⟨a,ns,rfl,hs,hl,q⟩:=h;refine⟨H,[.scr (ns.map .int)],λd=>d=.bl true,Same.refl _,.cons (.scr hs (Reps.ofInts ns)) .nil,⟨ns,rfl,hl,rfl⟩,λr H' d sh rr e=>?_⟩;subst e;cases rr.inv;exact q H'
theorem walk_law {l:PySem.W.OpenLaw}{q:Program}{loose:List Str}{XP:(Str->Option Value)->Heap->Prop}{YP:World->Heap->Prop}{d:DefRec}{K:Params->W.Frag}{k:Nat}{x:Str}(hk:Room k callerA) (hn:l.most=some 63) (hdf:d.params.defaults=[])
  (hY:∀(w:World) (h:Heap),YP w h->(K w.params).In h)
  (F:∀(w:World) (mg:Str->Option Value) (fa:Addr) (h:Heap),(K w.params).In h->h.Ns mainGlobals mg->mg d.name=some (.ref fa) →
   ∃fd:FuncData,(∀(s:Shared) (u:Value),BindsTo s fd ⟨[u],[]⟩ [(x,u)])/\∀base:Heap,(K w.params).In base->base.Ns mainGlobals mg->FnOk l.prog w (K w.params) mg base CX0 k fa fd [x] (spD (K w.params) fLaw)) :
  PySem.W.WalkO q loose XP YP l.row.toRowW d [] (λf vs=>PySem.call f vs):=
 L2.walk_of (n:=63) (k:=k) (x:=x) (CX:=λ_=>CX0) (sp:=λw=>spLaw (K w.params)) hn (by decide) hdf hk hY
  (λw mg fa h h1 h2 h3=>by
   obtain⟨fd,b,f⟩:=F w mg fa h h1 h2 h3;exact⟨fd,b,λbase kb nb=>(f base kb nb).imp λvs H Q E z=>Zny z⟩)
  (λ_ _ a ns hl _ hS=>⟨a,ns,rfl,hS,hl,λ_=>rfl⟩) λ_ _ _ _ _ z=>z
def SqB (b:Bool) (K:W.Frag) (H:Hp) (a:Addr) (xs:List V):Prop:=match b with|true=>SqT K H a xs|false=>SqL K H a xs
def ItB (b:Bool) (h:Heap) (j a:Addr) (i:Nat):Prop:=match b with|true=>h.IsTupleIter j a i|false=>h.IsListIter j a i
def HsB (b:Bool) (h:Heap) (a:Addr) (ws:Array Value):Prop:=match b with|true=>h.IsTuple a ws|false=>h.IsList a ws
theorem ItB.at {b:Bool}{h h':Heap}{j a:Addr}{i:Nat}(x:ItB b h j a i) (e:∀o,h.get? j=some o->h'.get? j=some o):ItB b h' j a i:=by
 cases b
 ·exact Heap.IsListIter.at (show h.IsListIter j a i from x) e
 ·exact Heap.IsTupleIter.at (show h.IsTupleIter j a i from x) e
theorem ItB.off {b:Bool}{h h':Heap}{j a c:Addr}{i:Nat}(x:ItB b h j a i) (e:Heap.ExtBut c h h') (n:j≠c):ItB b h' j a i:=x.at λo q=>e j o n q
theorem ItB.obj {b:Bool}{h:Heap}{j a:Addr}{i:Nat}(x:ItB b h j a i):∃o,h.get? j=some o/\o.data=.fields #[.ref a,.int i 0]:=by
 cases b <;> (obtain⟨o,e,_,d⟩:=x;exact⟨o,e,d⟩)
theorem HsB.off {b:Bool}{h h':Heap}{a c:Addr}{ws:Array Value}(x:HsB b h a ws) (e:Heap.ExtBut c h h') (n:a≠c):HsB b h' a ws:=by
 cases b <;> (obtain⟨o,q,r⟩:=x;exact⟨o,e a o n q,r⟩)
theorem HsB.lt {b:Bool}{h:Heap}{a:Addr}{ws:Array Value}(x:HsB b h a ws):a<h.objs.size:=by
 cases b <;> (obtain⟨o,q,r⟩:=x;exact Wak q)
theorem Inv.seqB {X:Cx}{pins:List (Addr × Obj)}{σ:St}{H:Hp}{s:Shared}{b:Bool}{a:Addr}{xs:List V}(I:Inv X pins σ H s) (h:SqB b X.K H a xs):∃its:List Value,Vals xs its/\HsB b s.heap a its.toArray:=by
 cases b
 ·obtain⟨its,r,p,_⟩:=I.list h
  exact⟨its,r,p.isList⟩
 ·obtain⟨its,r,p,_⟩:=I.tuple h
  exact⟨its,r,p⟩
theorem Inv.seqB_inj {X:Cx}{pins:List (Addr × Obj)}{σ:St}{H:Hp}{s:Shared}{b:Bool}{a:Addr}{xs ys:List V}(I:Inv X pins σ H s) (h:SqB b X.K H a xs) (h':SqB b X.K H a ys):xs=ys:=by
 cases b
 ·exact I.list_inj h h'
 ·exact I.tuple_inj h h'
section
variable {prog:Program}{w:World}{A:Around}{E:Value->Shared->Prop}{s:Shared}
theorem Zgi {b:Bool}{j a:Addr}{i:Nat}{ws:Array Value}{x:Value}{Q:Value->Shared->Prop}(g:ItB b s.heap j a i) (l:HsB b s.heap a ws) (e:ws[i]?=some x)
  (q:∀h',ItB b h' j a (i+1)->Heap.SameBut j s.heap h' -> Q x { s with heap:=h' }):wpAny (model prog w) A (Builtin.SmallTypes.nextOf (.ref j)) Q E s:=by
 cases b
 ·exact wpAny_nextOf_list_item g l e q
 ·obtain⟨o,g1,g2,g3⟩:=id g
  obtain⟨u,l1,_,n,l2⟩:=l;have ty:s.TypeIs (.ref j) "tuple_iterator":=⟨o,g1,g2⟩;unfold Builtin.SmallTypes.nextOf;refine wpAny_bind (wpAny_callSpecial?_slot (name:=Str.ofString "__next__") ty F.slot_tuple_iterator_next (wpAny_call_entry F.slot_tuple_iterator_next ty F.entry_tuple_iterator_next ?_ (F.args_tuple_iterator_next_1 _)));refine(show wpAny _ _ (field (.ref j) 0 >>= _) _ _ s from wpAny_bind (wpAny_field g1 g3 (x:=.ref a) rfl ?_));refine(show wpAny _ _ (if (Value.ref a == Value.none)=true then _ else _) _ _ s from ?_);rw[if_neg (by exact Wai)];refine(show wpAny _ _ (field (.ref j) 1 >>= _) _ _ s from wpAny_bind (wpAny_field g1 g3 (x:=.int i 0) rfl ?_));refine(show wpAny _ _ (seqItems? (.ref a) >>= _) _ _ s from wpAny_bind (wpAny_seqItems l1 l2 ?_));simp only[Wao,e];refine wpAny_bind (wpAny_setField g1 g3 (by simp) (wpAny_pure ⟨x,rfl,wpAny_pure (q _ ⟨_,Wb0 _ g1 (Obj.isFreed_of_fields (Obj.data_mapFields g3 _)),(Obj.cls_mapFields ..).trans g2,?_⟩ (Heap.SameBut.update ..))⟩));rw[Obj.data_mapFields g3];simp[rawInt]
theorem Zj6 {b:Bool}{j a:Addr}{i:Nat}{ws:Array Value}{Q:Value->Shared->Prop}(hh:A.handled=none) (g:ItB b s.heap j a i) (l:HsB b s.heap a ws) (e:ws[i]?=none)
  (q:∀h' x,Heap.ExtBut j s.heap h' -> (∃o,h'.get? x=some o/\o.cls=.type "StopIteration")->E (.ref x) { s with heap:=h' }):wpAny (model prog w) A (Builtin.SmallTypes.nextOf (.ref j)) Q E s:=by
 cases b
 ·exact wpAny_nextOf_list_end hh g l e q
 ·obtain⟨o,g1,g2,g3⟩:=id g
  obtain⟨u,l1,_,n,l2⟩:=l;have ty:s.TypeIs (.ref j) "tuple_iterator":=⟨o,g1,g2⟩;unfold Builtin.SmallTypes.nextOf;refine wpAny_bind (wpAny_callSpecial?_slot (name:=Str.ofString "__next__") ty F.slot_tuple_iterator_next (wpAny_call_entry F.slot_tuple_iterator_next ty F.entry_tuple_iterator_next ?_ (F.args_tuple_iterator_next_1 _)));refine(show wpAny _ _ (field (.ref j) 0 >>= _) _ _ s from wpAny_bind (wpAny_field g1 g3 (x:=.ref a) rfl ?_));refine(show wpAny _ _ (if (Value.ref a == Value.none)=true then _ else _) _ _ s from ?_);rw[if_neg (by exact Wai)];refine(show wpAny _ _ (field (.ref j) 1 >>= _) _ _ s from wpAny_bind (wpAny_field g1 g3 (x:=.int i 0) rfl ?_));refine(show wpAny _ _ (seqItems? (.ref a) >>= _) _ _ s from wpAny_bind (wpAny_seqItems l1 l2 ?_));simp only[Wao,e];refine wpAny_bind (wpAny_rule (wpAny_bind (wpAny_setField g1 g3 (by simp) (show wpAny _ _ (newExc (.type "StopIteration") [] >>= _) _ _ _ from wpAny_bind ?_))));simp only[newExc,newTuple];refine wpAny_bind (wpAny_newObj_type (wpAny_bind (m:=firstArgMember _ _) (wpAny_of_eq (a:=Value.none) (by first|rfl|(simp only[firstArgMember];rfl)) (wpAny_newObj_type ?_ (by size_fits)))) (by size_fits));simp only[raiseNew];refine wpAny_bind (wpAny_handled ?_)
  first|rw[show A.in1.handled=none from hh]|rw[hh]
  exact wpAny_bind (wpAny_pure (wpAny_throw (q _ _ (((Heap.SameBut.update ..).extBut.push _).push _) ⟨_,Wal _ rfl,rfl⟩)))
theorem Zo0 {b c:Bool}{z U O j1 j2 a1 a2:Addr}{k1 k2:Nat}{vs us:Array Value}{x y p r:Value}{Q:Option Value->Shared->Prop}(D:ZipApart z U O j1 j2 a1 a2)
  (gz:IsZip s.heap z U O .none) (gU:IsPair s.heap U (.ref j1) (.ref j2)) (gO:IsPair s.heap O p r) (g1:ItB b s.heap j1 a1 k1) (g2:ItB c s.heap j2 a2 k2) (l1:HsB b s.heap a1 vs) (l2:HsB c s.heap a2 us) (ex:vs[k1]?=some x) (ey:us[k2]?=some y)
  (q:∀h',IsZip h' z U O (rawInt s.heap.objs.size)->IsPair h' O x y->ItB b h' j1 a1 (k1+1)->ItB c h' j2 a2 (k2+1)->IsPair h' s.heap.objs.size x y->h'.objs.size=s.heap.objs.size+1 →
   (∀d o,d≠z->d≠O->d≠j1->d≠j2->s.heap.get? d=some o->h'.get? d=some o)->Q (some (.ref s.heap.objs.size)) { s with heap:=h' }):wpAny (model prog w) A (pyNext (.ref z)) Q E s:=by
 have ty:s.TypeIs (.ref z) "zip":=⟨_,gz,rfl⟩;unfold pyNext;refine wpAny_bind (wpAny_attempt (wpAny_callSpecial?_slot (name:=Str.ofString "__next__") ty F.slot_zip_next (wpAny_call_entry F.slot_zip_next ty F.entry_zip_next ?_ (F.args_zip_next_1 _))));refine(show wpAny _ _ (field (.ref z) 2 >>= _) _ _ _ from wpAny_bind (wpAny_field gz rfl (x:=.bool false) rfl ?_));refine(show wpAny _ _ (field (.ref z) 3 >>= _) _ _ _ from wpAny_bind (wpAny_field gz rfl (x:=.ref U) rfl (wpAny_bind (wpAny_seqItems gU rfl ?_))));refine(show wpAny _ _ (Builtin.SmallTypes.ownedTupleIsFree (.ref z) >>= _) _ _ _ from wpAny_bind ?_);unfold Builtin.SmallTypes.ownedTupleIsFree;refine wpAny_bind (wpAny_field gz rfl (x:=.none) rfl (wpAny_pure ?_));simp only[if_true];refine wpAny_bind (wpAny_rule (wpAny_bind (wpAny_field gz rfl (x:=.ref O) rfl (wpAny_bind (wpAny_setField_rec gz (by simp) λh₁ z₁ s₁=>wpAny_bind ?_)))))
 replace z₁:IsZip h₁ z U O .ellipsis:=z₁
 simp only[List.zipIdx_cons,List.zipIdx_nil,List.forIn_cons,List.forIn_nil];refine wpAny_bind (wpAny_bind (wpAny_onRaise (show wpAny _ _ (Builtin.SmallTypes.nextOf (.ref j1) >>= _) _ _ _ from wpAny_bind (Zgi (g1.off s₁.extBut D.i1z) (l1.off s₁.extBut D.l1z) ex λh₂ g₂ s₂=>wpAny_pure ?_))));have o₂:IsPair h₂ O p r:=s₂.extBut _ _ D.TOi1 (s₁.extBut _ _ D.TOz gO);refine wpAny_bind (wpAny_seqItems o₂ rfl (wpAny_bind (wpAny_updateSeq_pair o₂ λh₃ o₃ s₃=>wpAny_bind (wpAny_letGo (wpAny_pure ?_)))))
 replace o₃:IsPair h₃ O x r:=o₃
 refine wpAny_bind (wpAny_bind (wpAny_onRaise (show wpAny _ _ (Builtin.SmallTypes.nextOf (.ref j2) >>= _) _ _ _ from wpAny_bind (Zgi (((g2.off s₁.extBut D.i2z).off s₂.extBut D.i12.symm).off s₃.extBut D.TOi2.symm) (((l2.off s₁.extBut D.l2z).off s₂.extBut D.l2i1).off s₃.extBut D.l2TO) ey λh₄ g₄ s₄=>wpAny_pure ?_))));have o₄:IsPair h₄ O x r:=s₄.extBut _ _ D.TOi2 o₃;refine wpAny_bind (wpAny_seqItems o₄ rfl (wpAny_bind (wpAny_updateSeq_pair o₄ λh₅ o₅ s₅=>wpAny_bind (wpAny_letGo (wpAny_pure (wpAny_pure ?_))))))
 replace o₅:IsPair h₅ O x y:=o₅
 refine wpAny_bind (wpAny_seqItems o₅ rfl (wpAny_bind (wpAny_newTuple ?_)));have n5:h₅.objs.size=s.heap.objs.size:=by rw[s₅.1,s₄.1,s₃.1,s₂.1,s₁.1]
 have z₅:IsZip h₅ z U O .ellipsis:=s₅.extBut _ _ D.TOz.symm (s₄.extBut _ _ D.i2z.symm (s₃.extBut _ _ D.TOz.symm (s₂.extBut _ _ D.i1z.symm z₁)));have old:∀d o,d≠z->d≠O->d≠j1->d≠j2->s.heap.get? d=some o->h₅.get? d=some o:=λd o c1 c2 c3 c4 e=>s₅.extBut _ _ c2 (s₄.extBut _ _ c4 (s₃.extBut _ _ c2 (s₂.extBut _ _ c3 (s₁.extBut _ _ c1 e))));have t1:ItB b h₅ j1 a1 (k1+1):=((g₂.off s₃.extBut D.TOi1.symm).off s₄.extBut D.i12).off s₅.extBut D.TOi1.symm;have t2:ItB c h₅ j2 a2 (k2+1):=g₄.off s₅.extBut D.TOi2.symm;have zl:z<h₅.objs.size:=Wak z₅;refine(show wpAny _ _ (Builtin.SmallTypes.ownedTupleHandOut (.ref z) (.ref h₅.objs.size) >>= _) _ _ _ from wpAny_bind ?_);unfold Builtin.SmallTypes.ownedTupleHandOut;have z₆:IsZip (h₅.push { cls:=.type "tuple",data:=.seq #[x,y] }) z U O .ellipsis:=Waa _ z₅;refine wpAny_bind (wpAny_setField_rec z₆ (by simp) λh₇ z₇ s₇=>?_)
 replace z₇:IsZip h₇ z U O (rawInt h₅.objs.size):=z₇
 refine wpAny_setField_rec z₇ (by simp) λh₈ z₈ s₈=>?_
 replace z₈:IsZip h₈ z U O (rawInt h₅.objs.size):=z₈
 have up:∀d o,d≠z->h₅.get? d=some o->h₈.get? d=some o:=λd o c1 e=>s₈.extBut _ _ c1 (s₇.extBut _ _ c1 (Waa _ e));have new8:IsPair h₈ h₅.objs.size x y:=s₈.extBut _ _ (Wbw zl) (s₇.extBut _ _ (Wbw zl) (Wal _ rfl));have n8:h₈.objs.size=h₅.objs.size+1:=by rw[s₈.1,s₇.1,Wbu]
 rw[n5]at z₈ new8 n8;refine wpAny_pure ⟨_,rfl,wpAny_pure ?_⟩;refine(show Q (some (.ref h₅.objs.size)) _ from ?_);rw[n5];exact q h₈ z₈ (up _ _ D.TOz o₅) (t1.at λo e=>up _ o D.i1z e) (t2.at λo e=>up _ o D.i2z e) new8 n8 λd o c1 c2 c3 c4 e=>up d o c1 (old d o c1 c2 c3 c4 e)
theorem Zq9 {b c:Bool}{z U O j1 j2 a1 a2:Addr}{k1 k2:Nat}{vs us:Array Value}{p r:Value}{Q:Option Value->Shared->Prop}(hh:A.handled=none) (D:ZipApart z U O j1 j2 a1 a2)
  (gz:IsZip s.heap z U O .none) (gU:IsPair s.heap U (.ref j1) (.ref j2)) (gO:IsPair s.heap O p r) (g1:ItB b s.heap j1 a1 k1) (g2:ItB c s.heap j2 a2 k2) (l1:HsB b s.heap a1 vs) (l2:HsB c s.heap a2 us) (e:vs[k1]?=none\/us[k2]?=none)
  (q:∀h',(∀d o,d≠z->d≠O->d≠j1->d≠j2->s.heap.get? d=some o->h'.get? d=some o)->Q none { s with heap:=h' }):wpAny (model prog w) A (pyNext (.ref z)) Q E s:=by
 have ty:s.TypeIs (.ref z) "zip":=⟨_,gz,rfl⟩;have fin:∀{h':Heap}{x:Addr},(∀d o,d≠z->d≠O->d≠j1->d≠j2->s.heap.get? d=some o->h'.get? d=some o)->(∃o,h'.get? x=some o/\o.cls=.type "StopIteration")->wpAny (model prog w) A (do if (← isInstance (.ref x) (.type "StopIteration")) then pure none else throw (.ref x)) Q E { s with heap:=h' }:=λ{h' x} hk ⟨o,ho,hc⟩=>by
  refine wpAny_bind (wpAny_isInstance (T:="StopIteration") (b:=true) ⟨o,ho,hc⟩ isSubtype_stop ?_);exact wpAny_pure (q _ hk)
 unfold pyNext;refine wpAny_bind (wpAny_attempt (wpAny_callSpecial?_slot (name:=Str.ofString "__next__") ty F.slot_zip_next (wpAny_call_entry F.slot_zip_next ty F.entry_zip_next ?_ (F.args_zip_next_1 _))));refine(show wpAny _ _ (field (.ref z) 2 >>= _) _ _ _ from wpAny_bind (wpAny_field gz rfl (x:=.bool false) rfl ?_));refine(show wpAny _ _ (field (.ref z) 3 >>= _) _ _ _ from wpAny_bind (wpAny_field gz rfl (x:=.ref U) rfl (wpAny_bind (wpAny_seqItems gU rfl ?_))));refine(show wpAny _ _ (Builtin.SmallTypes.ownedTupleIsFree (.ref z) >>= _) _ _ _ from wpAny_bind ?_);unfold Builtin.SmallTypes.ownedTupleIsFree;refine wpAny_bind (wpAny_field gz rfl (x:=.none) rfl (wpAny_pure ?_));simp only[if_true];refine wpAny_bind (wpAny_rule (wpAny_bind (wpAny_field gz rfl (x:=.ref O) rfl (wpAny_bind (wpAny_setField_rec gz (by simp) λh₁ z₁ s₁=>wpAny_bind ?_)))))
 replace z₁:IsZip h₁ z U O .ellipsis:=z₁
 simp only[List.zipIdx_cons,List.zipIdx_nil,List.forIn_cons,List.forIn_nil];refine wpAny_bind (wpAny_bind (wpAny_onRaise (show wpAny _ _ (Builtin.SmallTypes.nextOf (.ref j1) >>= _) _ _ _ from ?_)));cases ex:vs[k1]? with
 |none=>
  refine wpAny_bind (Zj6 hh (g1.off s₁.extBut D.i1z) (l1.off s₁.extBut D.l1z) ex λh₂ y s₂ ⟨u,u1,u2⟩=>?_);have z₂:IsZip h₂ z U O .ellipsis:=s₂ _ _ D.i1z.symm z₁;have yz:y≠z:=λx=>by subst x;rw[z₂]at u1;cases u1;simp at u2
  exact wpAny_setField_rec z₂ (by simp) λh₃ _ s₃=>fin (λd o c1 _ c3 _ x=>s₃.extBut _ _ c1 (s₂ _ _ c3 (s₁.extBut _ _ c1 x))) ⟨u,s₃.extBut _ _ yz u1,u2⟩
 |some x=>
  have ey:us[k2]?=none:=by rcases e with h|h;rw[ex]at h;cases h;exact h
  refine wpAny_bind (Zgi (g1.off s₁.extBut D.i1z) (l1.off s₁.extBut D.l1z) ex λh₂ g₂ s₂=>wpAny_pure ?_);have o₂:IsPair h₂ O p r:=s₂.extBut _ _ D.TOi1 (s₁.extBut _ _ D.TOz gO);refine wpAny_bind (wpAny_seqItems o₂ rfl (wpAny_bind (wpAny_updateSeq_pair o₂ λh₃ o₃ s₃=>wpAny_bind (wpAny_letGo (wpAny_pure ?_)))));refine wpAny_bind (wpAny_bind (wpAny_onRaise (show wpAny _ _ (Builtin.SmallTypes.nextOf (.ref j2) >>= _) _ _ _ from ?_)));refine wpAny_bind (Zj6 hh (((g2.off s₁.extBut D.i2z).off s₂.extBut D.i12.symm).off s₃.extBut D.TOi2.symm) (((l2.off s₁.extBut D.l2z).off s₂.extBut D.l2i1).off s₃.extBut D.l2TO) ey λh₄ y s₄ ⟨u,u1,u2⟩=>?_);have z₄:IsZip h₄ z U O .ellipsis:=s₄ _ _ D.i2z.symm (s₃.extBut _ _ D.TOz.symm (s₂.extBut _ _ D.i1z.symm z₁));have yz:y≠z:=λx=>by subst x;rw[z₄]at u1;cases u1;simp at u2
  exact wpAny_setField_rec z₄ (by simp) λh₅ _ s₅=>fin (λd o c1 c2 c3 c4 x=>s₅.extBut _ _ c1 (s₄ _ _ c4 (s₃.extBut _ _ c2 (s₂.extBut _ _ c3 (s₁.extBut _ _ c1 x))))) ⟨u,s₅.extBut _ _ yz u1,u2⟩
end
section
abbrev zt1 (h:Heap) (a:Addr):Heap:=h.push ⟨.type "tuple_iterator",none,.fields #[.ref a,.int 0 0],#[]⟩
abbrev zt2 (h:Heap) (a c:Addr):Heap:=(zt1 h a).push ⟨.type "tuple_iterator",none,.fields #[.ref c,.int 0 0],#[]⟩
abbrev zt3 (h:Heap) (a c:Addr):Heap:=(zt2 h a c).push ⟨.type "tuple",none,.seq #[.ref h.objs.size,.ref (zt1 h a).objs.size],#[]⟩
abbrev zt4 (h:Heap) (a c:Addr):Heap:=(zt3 h a c).push ⟨.type "tuple",none,.seq #[.none,.none],#[]⟩
abbrev zt5 (h:Heap) (a c:Addr):Heap:=(zt4 h a c).push ⟨.type "zip",none,.fields #[.none,.bool false,.bool false,.ref (zt2 h a c).objs.size,.ref (zt3 h a c).objs.size],#[]⟩
theorem Zns (a c:Addr) (vs us:Array Value) :
  Meets (Builtin.«zip.__new__» ⟨[.type "zip",.ref a,.ref c],[]⟩) (λ_ R s=>s.heap.IsTuple a vs/\s.heap.IsTuple c us/\R (.ok (.ret (.ref (zt4 s.heap a c).objs.size))) { s with heap:=zt5 s.heap a c }):=.of_wp λprog w A R s h=>by
 obtain⟨hp,g,d,tk,os⟩:=s;obtain⟨u1,u2,h⟩:=h;have sub0:=sub_zip;have v1:Heap.IsTuple (Shared.heap ⟨hp,g,d,tk,os⟩) a vs:=u1;have v2:Heap.IsTuple (Shared.heap ⟨hp.push { cls:=.type "tuple_iterator",data:=.fields #[.ref a,.int 0 0] },g,d,tk,os⟩) c us:=Heap.IsTuple.push u2 _
 wp_walk using wpAny_pyIter_tuple v1,wpAny_pyIter_tuple v2
 exact⟨_,rfl,h⟩
variable {prog:Program}{w:World}{A:Around}{E:Value->Shared->Prop}{s:Shared}
theorem Zo4 {b:Bool}{a c:Addr}{vs us:Array Value}{Q:Value->Shared->Prop}(l1:HsB b s.heap a vs) (l2:HsB b s.heap c us)
  (q:∀h',IsZip h' (s.heap.objs.size+4) (s.heap.objs.size+2) (s.heap.objs.size+3) .none->IsPair h' (s.heap.objs.size+2) (.ref s.heap.objs.size) (.ref (s.heap.objs.size+1))->IsPair h' (s.heap.objs.size+3) .none .none →
   ItB b h' s.heap.objs.size a 0->ItB b h' (s.heap.objs.size+1) c 0->(∀d o,s.heap.get? d=some o->h'.get? d=some o)->Q (.ref (s.heap.objs.size+4)) { s with heap:=h' }):wpAny (model prog w) A (call (.type "zip") [.ref a,.ref c]) Q E s:=by
 cases b
 ·exact call_zip_2 l1 l2 λh' b1 b2 b3 b4 b5 b6 hk=>q h' b1 b2 b3 b4 b5 hk
 ·refine callType_new F.called_zip (by decide) (F.typeCall_zip_2 _ _) (F.newCall_zip_2 _ _) (λobj=>F.args_object_init_3 obj _ _) F.entry_zip_new (Zns a c vs us) ⟨l1,l2,?_⟩
  have z1:(zt1 s.heap a).objs.size=s.heap.objs.size+1:=Wbu ..;have z2:(zt2 s.heap a c).objs.size=s.heap.objs.size+2:=by rw[Wbu,z1]
  have z3:(zt3 s.heap a c).objs.size=s.heap.objs.size+3:=by rw[Wbu,z2]
  have z4:(zt4 s.heap a c).objs.size=s.heap.objs.size+4:=by rw[Wbu,z3]
  have p5:(zt5 s.heap a c).get? (zt4 s.heap a c).objs.size=some _:=Wal _ rfl;have p4:(zt5 s.heap a c).get? (zt3 s.heap a c).objs.size=some _:=Waa _ (Wal _ rfl);have p3:(zt5 s.heap a c).get? (zt2 s.heap a c).objs.size=some _:=Waa _ (Waa _ (Wal _ rfl));have p2:(zt5 s.heap a c).get? (zt1 s.heap a).objs.size=some _:=Waa _ (Waa _ (Waa _ (Wal _ rfl)));have p1:(zt5 s.heap a c).get? s.heap.objs.size=some _:=Waa _ (Waa _ (Waa _ (Waa _ (Wal _ rfl))));show _/\_;rw[z2,z3,z4]at p5;rw[z1,z2]at p3;rw[z3]at p4;rw[z1]at p2;rw[z4];exact⟨⟨_,p5,rfl⟩,q _ p5 p3 p4 ⟨_,p1,rfl,rfl⟩ ⟨_,p2,rfl,rfl⟩ λd o e=>Waa _ (Waa _ (Waa _ (Waa _ (Waa _ e))))⟩
end
def Izb (b:Bool) (K:W.Frag) (l1 l2:Addr):It:=
 ⟨λi H=>∃xs ys x y,SqB b K H l1 xs/\SqB b K H l2 ys/\xs[i]?=some x/\ys[i]?=some y,
  λi H v H'=>∃p x y,H p=none/\v=.ref p/\H'=upd H p (.tup [x,y])/\∀xs ys,SqB b K H l1 xs->SqB b K H l2 ys->xs[i]?=some x/\ys[i]?=some y,
  λi H=>∃xs ys,SqB b K H l1 xs/\SqB b K H l2 ys/\(xs.length<=i\/ys.length<=i)⟩
theorem Zp3 {b:Bool}{P:Program}{w:World}{K:W.Frag}{es:List Expr}{kk:Nat}{tp:Pos}(l1 l2 z TI TO i1 i2:Addr) (D:ZipApart z TI TO i1 i2 l1 l2):Turn P w K (.Tuple es kk tp) (Izb b K l1 l2) [z,TI,TO,i1,i2] z
  (λi h=>IsZip h z TI TO .none/\IsPair h TI (.ref i1) (.ref i2)/\(∃a b,IsPair h TO a b)/\ItB b h i1 l1 i/\ItB b h i2 l2 i) where
 mem:=by simp
 obj:=λi h st b2 hb=>by
  obtain⟨hz,hTI,⟨a,b',hTO⟩,h1,h2⟩:=st;obtain⟨o1,e1,d1⟩:=h1.obj;obtain⟨o2,e2,d2⟩:=h2.obj;simp only[Wan,Waq,or_false]at hb;rcases hb with rfl|rfl|rfl|rfl|rfl
  ·exact⟨_,hz,λv q=>by cases q⟩
  ·exact⟨_,hTI,λv q=>by cases q⟩
  ·exact⟨_,hTO,λv q=>by cases q⟩
  ·exact⟨o1,e1,λv q=>by rw[d1]at q;cases q⟩
  ·exact⟨o2,e2,λv q=>by rw[d2]at q;cases q⟩
 keep:=λi h h' st k=>by
  obtain⟨hz,hTI,⟨a,b',hTO⟩,h1,h2⟩:=st;exact⟨k z (by simp) _ hz,k TI (by simp) _ hTI,⟨a,b',k TO (by simp) _ hTO⟩,h1.at λo e=>k i1 (by simp) o e,h2.at λo e=>k i2 (by simp) o e⟩
 item:=by
  intro X hP hw hK hc i pins s σ H E I hf st hg;subst hP hw hK;obtain⟨hz,hTI,⟨a,b',hTO⟩,h1,h2⟩:=st;obtain⟨xs,ys,x,y,hq1,hq2,hx,hy⟩:=hg;obtain⟨its1,r1,p1⟩:=I.seqB hq1;obtain⟨its2,r2,p2⟩:=I.seqB hq2;obtain⟨u1,hu1,ru1⟩:=r1.get hx;obtain⟨u2,hu2,ru2⟩:=r2.get hy;refine Zo0 D hz hTI hTO h1 h2 p1 p2 (x:=u1) (y:=u2) (by simpa using hu1) (by simpa using hu2) λh' b1 b2 b3 b4 b5 b6 hk=>?_;refine⟨_,rfl,wpAny_letOwnedTupleGo_zip (s:={ s with heap:=h' }) b1 λh'' hz'' hs''=>?_⟩;have lt:∀{c o},s.heap.get? c=some o->c≠s.heap.objs.size:=λe=>War (Wak e);have hTz:s.heap.objs.size≠z:=Ne.symm (lt hz);have hTfree:H s.heap.objs.size=none:=I.hok.fresh (Waf _);have kept:∀c o,c ∉ [z,TI,TO,i1,i2]->s.heap.get? c=some o->h''.get? c=some o:=λc o hc e=>by
   simp only[Wan,Waq,or_false,not_or]at hc;exact hs''.extBut _ _ hc.1 (hk c o hc.1 hc.2.2.1 hc.2.2.2.1 hc.2.2.2.2 e)
  have hT:h''.get? s.heap.objs.size=some { cls:=.type "tuple",data:=.seq #[u1,u2] }:=hs''.extBut _ _ hTz b5;have ntr:∀c o,H c=some o->c ∉ [z,TI,TO,i1,i2]:=λc o e hc=>by rw[(hf c hc).1]at e;cases e
  have hok:HOk X.prog X.w (upd H s.heap.objs.size (.tup [x,y])) h'':=λc o e=>by
   by_cases hcT:c=s.heap.objs.size
   ·subst hcT
    rw[Zay]at e;cases e;exact⟨by show 2<=sizeLine;decide,[u1,u2],.cons ru1 (.cons ru2 .nil),_,hT,⟨rfl,_,rfl⟩,rfl⟩
   ·rw[Zas hcT]at e
    refine(I.hok c o e).stay (λd v hd q=>kept d v ?_ q) (λd q=>by rw[Zas (Zar q hTfree)];exact q) λd zs q=>by rw[Zas (Zar q hTfree)];exact q
    rcases hd with hd|hd
    ·rw[hd];exact ntr c o e
    ·exact ntr d _ hd
  have I2:Inv X pins σ (upd H s.heap.objs.size (.tup [x,y])) { s with heap:=h'' }:=by
   refine I.call (g':=s.gens) (t':=s.toks) (d':=s.drawn) (ch:=[z,TI,TO,i1,i2]) ⟨λc o e n hc hx=>kept c o hx e,λc o e n hc hx=>⟨o.slots,kept c o hx e⟩,λc o e n hx=>by rw[Zas (lt e)];exact n,λc o e hx=>⟨o,kept c o hx e⟩,
    λc zs q=>by rw[Zas (Zar q hTfree)];exact q,λc o zs q=>by rw[Zas (Zar q hTfree)];exact q,λc zs q=>⟨#[],by rw[Zas (Zar q hTfree),q];simp⟩⟩ hok I.bare λc hcc=>?_
   obtain⟨f0,f1,f2,f3,f4,f5⟩:=hf c hcc;exact⟨f3,f1,f4,f5⟩
  refine⟨.ref s.heap.objs.size,_,I2,rfl,⟨s.heap.objs.size,x,y,hTfree,rfl,rfl,λxs' ys' q1 q2=>?_⟩,⟨hz'',hs''.extBut _ _ D.TIz (hk _ _ D.TIz D.TITO D.TIi1 D.TIi2 hTI),⟨_,_,hs''.extBut _ _ D.TOz b2⟩,b3.off hs''.extBut D.i1z,b4.off hs''.extBut D.i2z⟩,λc hcc=>?_⟩
  ·rw[I.seqB_inj q1 hq1,I.seqB_inj q2 hq2];exact⟨hx,hy⟩
  ·have hcl:c≠s.heap.objs.size:=by
    simp only[Wan,Waq,or_false]at hcc;obtain⟨_,e1,_⟩:=h1.obj;obtain⟨_,e2,_⟩:=h2.obj;rcases hcc with rfl|rfl|rfl|rfl|rfl
    ·exact lt hz
    ·exact lt hTI
    ·exact lt hTO
    ·exact lt e1
    ·exact lt e2
   rw[Zas hcl];exact(hf c hcc).1
 done:=by
  intro X hP hw hK hc i pins s σ H E I hf st hg;subst hP hw hK;obtain⟨hz,hTI,⟨a,b',hTO⟩,h1,h2⟩:=st;obtain⟨xs,ys,hq1,hq2,hend⟩:=hg;obtain⟨its1,r1,p1⟩:=I.seqB hq1;obtain⟨its2,r2,p2⟩:=I.seqB hq2;have l1':=r1.length;have l2':=r2.length;refine Zq9 (I.ok.hd hc) D hz hTI hTO h1 h2 p1 p2 ?_ λh' hk=>⟨rfl,?_⟩
  ·rcases hend with q|q
   ·left;simp;omega
   ·right;simp;omega
  ·have kept:∀c o,c ∉ [z,TI,TO,i1,i2]->s.heap.get? c=some o->h'.get? c=some o:=λc o hc e=>by
    simp only[Wan,Waq,or_false,not_or]at hc;exact hk c o hc.1 hc.2.2.1 hc.2.2.2.1 hc.2.2.2.2 e
   have ntr:∀c o,H c=some o->c ∉ [z,TI,TO,i1,i2]:=λc o e hc=>by rw[(hf c hc).1]at e;cases e
   refine I.call (g':=s.gens) (t':=s.toks) (d':=s.drawn) (ch:=[z,TI,TO,i1,i2]) ⟨λc o e n hc hx=>kept c o hx e,λc o e n hc hx=>⟨o.slots,kept c o hx e⟩,λc o e n hx=>n,λc o e hx=>⟨o,kept c o hx e⟩,
    λc zs q=>q,λc o zs q=>q,λc zs q=>⟨#[],by rw[q];simp⟩⟩ (λc o e=>?_) I.bare λc hcc=>?_
   ·refine(I.hok c o e).stay (λd v hd q=>kept d v ?_ q) (λd q=>q) λd zs q=>q
    rcases hd with hd|hd
    ·rw[hd];exact ntr c o e
    ·exact ntr d _ hd
   ·obtain⟨f0,f1,f2,f3,f4,f5⟩:=hf c hcc
    exact⟨f3,f1,f4,f5⟩
 self:=λ_ _ _ _ _ st h=>wpAny_pyIter_zip st.1 h
section
variable {X:Cx}
def iZip (K:W.Frag) (ta:TA):TI:=λσ H R=>ta σ H λvs H1=>∃b l1 l2,vs=[.ref l1,.ref l2]/\(∃xs,SqB b K H1 l1 xs)/\(∃ys,SqB b K H1 l2 ys)/\R (Izb b K l1 l2) H1
theorem Zqs (K:W.Frag) {es:List Expr}{kk:Nat}{tp:Pos}{a b:Expr}{ta:TA}{p pos:Pos}(hg:Gl X "zip") (hm:X.mg "zip" = none) (ha:PA X [a,b] ta) (hs:starEach [a,b] X.env=[(false,eval a X.env),(false,eval b X.env)]:=by rfl) (hs2:starEach [b] X.env=[(false,eval b X.env)]:=by rfl) (hK:X.K=K:=by rfl) :
  PI X (.Tuple es kk tp) (.Call (.Name "zip" p) [a,b] [] pos) (iZip K ta):=by
 subst hK;intro pins s σ H R I h;refine Call_ (Zd0 I hg hm (Zri) (PyProof.Rows.callWith_type1 (thn (ha pos pins s σ H _ I h) λus s1 ⟨vs,H1,I1,r1,q1⟩=>?_) (by rw[hs,hs2]) (by rw[hs2];rfl)));obtain⟨b,l1,l2,e,⟨xs,hx⟩,⟨ys,hy⟩,q⟩:=q1;subst e;obtain⟨u1,u2,rfl,q1,q2⟩:=r1.two;cases (show u1=Value.ref l1 from q1);cases (show u2=Value.ref l2 from q2);obtain⟨its1,w1,p1⟩:=I1.seqB hx;obtain⟨its2,w2,p2⟩:=I1.seqB hy;have lt1:l1<s1.heap.objs.size:=p1.lt;have lt2:l2<s1.heap.objs.size:=p2.lt;refine Zo4 p1 p2 λh' b1 b2 b3 b4 b5 hk=>?_;refine wpAny_pyIter_zip b1 ?_;have I2:Inv X pins σ H1 { s1 with heap:=h' }:=I1.kept (t':=s1.toks) hk;refine⟨s1.heap.objs.size+4,[s1.heap.objs.size+4,s1.heap.objs.size+2,s1.heap.objs.size+3,s1.heap.objs.size,s1.heap.objs.size+1],_,_,H1,rfl,I2,Zp3 l1 l2 _ _ _ _ _ (zipApart_new lt1 lt2),⟨b1,b2,⟨_,_,b3⟩,b4,b5⟩,λb hb=>?_,q⟩;have hge:s1.heap.objs.size<=b:=by
  simp only[Wan,Waq,or_false]at hb;rcases hb with rfl|rfl|rfl|rfl|rfl <;> omega
 exact I1.fpOk hge (I1.hok.fresh hge)
def rAll (K:W.Frag):List V->Hp->VK->Prop:=λxs H Q=>∃(p:Addr) (bs:List Bool),xs=[.ref p]/\SqL K H p (bs.map V.bl)/\Q (.bl (bs.all id)) H
theorem allK (K:W.Frag) (hc:X.calm=true) (hK:X.K=K:=by rfl):CallR X (.builtin "all") (rAll K):=by
 subst hK;intro pins s σ H xs us Q I r h;obtain⟨p,bs,rfl,hx,q⟩:=h;obtain⟨u,rfl,ru⟩:=vals1 r;cases (show u=Value.ref p from ru);obtain⟨its,w1,p1,_⟩:=I.list hx;have hlt:p<s.heap.objs.size:=by obtain⟨o,e,_⟩:=p1.isList;exact Wak e
 have hval:∀(bs:List Bool) (its:List Value),Vals (bs.map V.bl) its->its=bs.map Value.bool:=by
  intro bs
  induction bs with
  |nil=>intro its h;cases h;rfl
  |cons b r ih=>intro its h;cases h with|cons h1 h2=>cases (show _=Value.bool b from h1);rw[ih _ h2];rfl
 have e:=hval bs its w1;subst e;refine call_all_walk (wpAny_pyIter_list p1.isList ?_);refine⟨s.heap.objs.size,_,_,_,_,_,λi=>bs.getD i false,rfl,Walks.list (prog:=X.prog) (w:=X.w) (A:=X.A.in1) (show X.A.in1.handled=none from I.ok.hd hc) s.heap.objs.size p (War hlt) (bs.map Value.bool).toArray,⟨⟨_,Wal _ rfl,rfl,rfl⟩,p1.isList.push _⟩,?_,λh' tk hk=>?_⟩
 ·intro i v s0 Q0 E0 hv hq
  have hv:(bs.map Value.bool).toArray[i]?=some v:=hv;have hv:(bs.map Value.bool)[i]?=some v:=by simpa using hv
  rw[Wad]at hv;cases z:bs[i]? with
  |none=>rw[z]at hv;cases hv
  |some b=>
   rw[z]at hv;have hv:Value.bool b=v:=by simpa using hv
   subst hv;have e0:bs.getD i false=b:=by rw[Wae,z];rfl
   have hq:Q0 (bs.getD i false) s0:=hq;rw[e0]at hq;exact wpAny_truthy_bool hq
 ·have e:(Wa4 (bs.map Value.bool).toArray.size).all (λi=>bs.getD i false)=bs.all id:=by
   rw[Wam,Wab];rw[Wca,Wby,Wby];constructor
   ·intro hh b hb
    obtain⟨i,hi,rfl⟩:=List.mem_iff_getElem.mp hb;have:=hh i (Wbm.mpr hi);rw[Wae,Wac hi]at this;exact this
   ·intro hh i hi
    rw[Wbm]at hi;rw[Wae,Wac hi];exact hh _ (Wa9 hi)
  rw[e];have I0:Inv X pins σ H { s with heap:=s.heap.push { cls:=.type "list_iterator",data:=.fields #[.ref p,.int 0 0] },toks:=s.toks }:=I.kept λb o e=>Waa _ e;refine⟨.bl (bs.all id),H,I0.turned (it:=s.heap.objs.size) (λb o hb e=>hk b o (by simpa using hb) e) (I.hok.fresh (Waf _)) (Wbw I.lt) (.inr I.sz) ?_ ?_,rfl,q⟩
  ·have:=I.fpOk (b:=s.heap.objs.size) (H':=H) (Waf _) (I.hok.fresh (Waf _))
   exact this.2.2.2.2.1
  ·have:=I.fpOk (b:=s.heap.objs.size) (H':=H) (Waf _) (I.hok.fresh (Waf _))
   exact this.2.2.2.2.2
def rIsiU (K:W.Frag):List V->Hp->VK->Prop:=λxs H Q=>rIsi K xs H Q\/∃(x:V) (p:Addr) (ns:List String) (T:String) (b:Bool),xs=[x,.ref p]/\H p=some (.tup (ns.map V.ty))/\TyOf K H x (.type T)/\PySem.W.kitAny K (.type T) (ns.map Value.type)=some b/\Q (.bl b) H
theorem Zjz {pins:List (Addr × Obj)}{σ:St}{H:Hp}{s:Shared}{x:V}{u t:Value}(I:Inv X pins σ H s) (rx:RelV x u) (ty:TyOf X.K H x t) (nt:∃T,t=.type T):∃Hh:Heap->Prop,PySem.W.KitX X.K u t Hh/\Hh s.heap/\u≠.builtin "__main__.__loader__#opaque":=by
 cases ty with
 |non=>cases (show u=Value.none from rx);exact⟨_,PySem.W.kitx_none,True.intro,λz=>nomatch z⟩
 |bl y=>cases (show u=Value.bool y from rx);exact⟨_,PySem.W.kitx_bool,True.intro,λz=>nomatch z⟩
 |int i=>obtain⟨t,q⟩:=(show ∃t,u=Value.int i t from rx);cases q;exact⟨_,PySem.W.kitx_int,True.intro,λz=>nomatch z⟩
 |str y=>obtain⟨t,q⟩:=(show ∃t,u=Value.str y t from rx);cases q;exact⟨_,PySem.W.kitx_str,True.intro,λz=>nomatch z⟩
 |flt y=>obtain⟨t,q⟩:=(show ∃t,u=Value.float y t from rx);cases q;exact⟨_,PySem.W.kitx_float,True.intro,λz=>nomatch z⟩
 |@lst a xs ea=>
  cases (show u=Value.ref a from rx);obtain⟨_,_,n,_,h1⟩:=(show ObjOk X.prog X.w H s.heap a (.lst xs) from I.hok a _ ea);exact⟨_,PySem.W.kitx_list,⟨_,h1,rfl⟩,λz=>nomatch z⟩
 |@frz a ob xs ea=>
  cases (show u=Value.ref a from rx);obtain⟨_,_,_,n,_,h1⟩:=(show ObjOk X.prog X.w H s.heap a (.frz ob (.lst xs)) from I.hok a _ ea);exact⟨_,PySem.W.kitx_list,⟨_,h1,rfl⟩,λz=>nomatch z⟩
 |@tup a xs ea=>
  cases (show u=Value.ref a from rx);obtain⟨_,_,_,p⟩:=(show ObjOk X.prog X.w H s.heap a (.tup xs) from I.hok a _ ea);obtain⟨o,h1,⟨h2,_⟩,_⟩:=p;exact⟨_,PySem.W.kitx_tuple,⟨o,h1,h2⟩,λz=>nomatch z⟩
 |@dK a kvs ea=>
  cases (show u=Value.ref a from rx);obtain⟨_,_,vs,_,p⟩:=(show ObjOk X.prog X.w H s.heap a (.dK kvs) from I.hok a _ ea);obtain⟨o,es,ep,h1,h2,_⟩:=p;exact⟨_,PySem.W.kitx_dict,⟨o,h1,h2.1⟩,λz=>nomatch z⟩
 |@dT a kvs ea=>
  cases (show u=Value.ref a from rx);obtain⟨_,_,xs,_,o,es,ep,h1,h2,_⟩:=(show ObjOk X.prog X.w H s.heap a (.dT kvs) from I.hok a _ ea);exact⟨_,PySem.W.kitx_dict,⟨o,h1,h2.1⟩,λz=>nomatch z⟩
 |@ins a C dx fs ea cl ha hn htk hm=>obtain⟨T,e⟩:=nt;cases e
theorem isiUK (K:W.Frag) (hK:X.K=K:=by rfl):CallR X (.builtin "isinstance") (rIsiU K):=by
 subst hK;refine CallR.or Zit ?_;intro pins s σ H xs us Q I r h;obtain⟨x,p,ns,T,b,rfl,hp,ty,e,q⟩:=h;obtain⟨u,u',rfl,rx,rn⟩:=vals2 r;cases (show u'=Value.ref p from rn);obtain⟨Hh,Z,hz,hne⟩:=Zjz I rx ty ⟨T,rfl⟩;obtain⟨_,its,rv,o,ho,⟨hc,n,hd⟩,hdd⟩:=I.hok p _ hp;have hv:∀(ns:List String) (its:List Value),Vals (ns.map V.ty) its->its=ns.map Value.type:=by
  intro ns
  induction ns with
  |nil=>intro its h;cases h;rfl
  |cons b r ih=>intro its h;cases h with|cons h1 h2=>cases (show _=Value.type b from h1);rw[ih _ h2];rfl
 have e2:=hv ns its rv;subst e2;obtain⟨cls,dd,data,sl⟩:=o;simp only at hc hd hdd;subst hc hd hdd;exact PySem.W.kia_tup Z I.kIn hz ho e hne λtk=>⟨.bl b,H,I.tok _,rfl,q⟩
end
section
variable {K:W.Frag}{Δ:Evt}
theorem Zm1 {b:Bool}{G:Hp}{l1 l2:Addr}{xs ys:List V}{ds es:List D}(h1:∀G1 H1,Same G G1->Same G1 H1->SqB b K H1 l1 xs) (h2:∀G1 H1,Same G G1->Same G1 H1->SqB b K H1 l2 ys) (r1:Reps K G xs ds) (r2:Reps K G ys es) (hl:ds.length=es.length) :
  ItOk K G (Izb b K l1 l2) ((ds.zip es).map λp=>D.tup [p.1,p.2]):=λG1 H1 sg sh=>by
 have hl1:=r1.length;have hl2:=r2.length;have e1:=h1 G1 H1 sg sh;have e2:=h2 G1 H1 sg sh;refine⟨⟨xs,ys,e1,e2,.inl (by rw[Wab,List.length_zip];omega)⟩,λi d hd=>?_⟩;rw[Wad]at hd;cases q:(ds.zip es)[i]? with
 |none=>rw[q]at hd;cases hd
 |some pr=>
  rw[q]at hd;have hd:D.tup [pr.1,pr.2]=d:=by simpa using hd
  subst hd;rw[Wbt]at q;obtain⟨u,hu,ru⟩:=r1.get q.1;obtain⟨v,hv,rv⟩:=r2.get q.2;refine⟨⟨xs,ys,u,v,e1,e2,hu,hv⟩,λx H2 ⟨p,a,b',hp,ex,eH,hab⟩=>?_⟩;obtain⟨ha,hb⟩:=hab xs ys e1 e2;rw[hu]at ha;rw[hv]at hb;cases ha;cases hb;subst ex;subst eH;have hG:G1 p=none:=by
   cases z:G1 p with
   |none=>rfl
   |some o=>rw[sh _ _ z]at hp;cases hp
  refine⟨upd G1 p (.tup [u,v]),λc o e=>by rw[Zas (Zar e hG)];exact e,λc o e=>by rw[Zas (Zar e hp)];exact e,λc o e=>?_,?_⟩
  ·by_cases hc:c=p
   ·subst hc;rw[Zay]at e ⊢;exact⟨e,.inr hp⟩
   ·rw[Zas hc]at e ⊢;exact⟨sh c o e,.inl e⟩
  ·have sg2:Same G1 (upd G1 p (.tup [u,v])):=λc o e=>by rw[Zas (Zar e hG)];exact e
   exact .tup Zay (.cons ((ru.mono sg).mono sg2) (.cons ((rv.mono sg).mono sg2) .nil))
theorem Zo5 {ta:TA}{P:List D->Evt->Prop}(h:JA K ta Δ λds Δ1=>∃as bs,ds=[.tup as,.tup bs]/\as.length=bs.length/\P ((as.zip bs).map λp=>D.tup [p.1,p.2]) Δ1):JI K (iZip K ta) Δ P:=λg G H σ R k c=>
 h g G H σ _ k λvs ds G1 H1 Δ1 k1 s1 r1 hq_=>by
  obtain⟨as,bs,e,hl,p1⟩:=hq_;subst e;obtain⟨_,_,rfl,ra,rr⟩:=r1.inv
  next=>
   obtain⟨_,_,rfl,rb,rr⟩:=rr.inv
   next=>
    cases rr.inv;obtain⟨_,_,rfl,ha,rsa⟩:=ra.inv
    next=>
     obtain⟨_,_,rfl,hb,rsb⟩:=rb.inv
     next=>
      exact⟨true,_,_,rfl,⟨_,SqT.of (k1.live _ _ ha)⟩,⟨_,SqT.of (k1.live _ _ hb)⟩,c _ _ G1 H1 Δ1 k1 s1 (Zm1 (λ_ _ sg sh=>SqT.of (sh _ _ (sg _ _ ha))) (λ_ _ sg sh=>SqT.of (sh _ _ (sg _ _ hb))) rsa rsb hl) p1⟩
theorem Zhk {bs:List Bool}{P:D->Evt->Prop}(p:P (.bl (bs.all id)) Δ):JC K (rAll K) [.lst (bs.map D.bl)] Δ P:=λg G H σ Q vs k rs c=>by
 obtain⟨_,_,rfl,r,t⟩:=rs.inv
 next=>
  cases t.inv;obtain⟨a,ws,rfl,ha,rs⟩:=r.inv
  next=>
   have e:∀(bs:List Bool) (ws:List V),Reps K G ws (bs.map D.bl)->ws=bs.map V.bl:=by
    intro bs
    induction bs with
    |nil=>intro ws h;cases h;rfl
    |cons b r ih=>intro ws h;cases h with|cons h1 h2=>cases h1;rw[ih _ h2];rfl
   have:=e bs ws rs;subst this;exact⟨_,bs,rfl,SqL.of (k.live _ _ ha),c _ _ G H Δ k (Same.refl _) (.bl _) p⟩
theorem Za3 {d:D}{n T:String}{b:Bool}{P:D->Evt->Prop}(ht:tyD d=some T) (e:∀K,PySem.W.kitOne K (.type T) (.type n)=some b) (p:P (.bl b) Δ):JC K (rIsiU K) [d,.ty n] Δ P:=λg G H σ Q vs k rs c=>.inl (Zqi ht e p g G H σ Q vs k rs c)
end
section
variable {prog:Program}{w:World}{A:Around}{E:Value->Shared->Prop}{s:Shared}
theorem Zpo {b:Bool}{e j a:Addr}{i:Nat}{ws:Array Value}{x old:Value}{Q:Option Value->Shared->Prop}(ge:IsEnum s.heap e j i old) (g:ItB b s.heap j a i) (l:HsB b s.heap a ws) (ex:ws[i]?=some x) (ne:e≠j)
  (q:∀h',IsEnumOut h' e j ((i:Int)+1) x s.heap.objs.size->ItB b h' j a (i+1)->h'.get? s.heap.objs.size=some { cls:=.type "tuple",data:=.seq #[.int i s.toks,x] } →
   (∀c o,c≠e->c≠j->s.heap.get? c=some o->h'.get? c=some o)->Q (some (.ref s.heap.objs.size)) { s with heap:=h',toks:=s.toks+1 }):wpAny (model prog w) A (pyNext (.ref e)) Q E s:=by
 cases b
 ·exact wpAny_pyNext_enum_item ge g l ex ne λh' b1 b2 b3 _ b4=>q h' b1 b2 b3 b4
 obtain⟨hp,g0,d,tk,os⟩:=s;have ty:Shared.TypeIs ⟨hp,g0,d,tk,os⟩ (.ref e) "enumerate":=⟨_,ge,rfl⟩;unfold pyNext;refine wpAny_bind (wpAny_attempt (wpAny_callSpecial?_slot (name:=Str.ofString "__next__") ty F.slot_enumerate_next (wpAny_call_entry F.slot_enumerate_next ty F.entry_enumerate_next ?_ (F.args_enumerate_next_1 _))));refine(show wpAny _ _ (field (.ref e) 2 >>= _) _ _ _ from wpAny_bind (wpAny_field ge rfl (x:=.ref j) rfl (wpAny_bind (Zgi (b:=true) g l ex λh₁ g₁ s₁=>?_))))
 replace s₁:Heap.SameBut j hp h₁:=s₁
 have e₁:IsEnum h₁ e j i old:=(s₁.2 e ne).trans ge;refine(show wpAny _ _ (field (.ref e) 3 >>= _) _ _ ⟨h₁,g0,d,tk,os⟩ from wpAny_bind (wpAny_field e₁ rfl (x:=rawInt i) rfl ?_));refine(show wpAny _ _ (field (.ref e) 4 >>= _) _ _ ⟨h₁,g0,d,tk,os⟩ from wpAny_bind (wpAny_field e₁ rfl (x:=.none) rfl ?_));refine(show wpAny _ _ (mkInt i >>= _) _ _ ⟨h₁,g0,d,tk,os⟩ from wpAny_bind (wpAny_mkInt ?_));refine(show wpAny _ _ (setField (.ref e) 3 (rawInt ((i:Int)+1)) >>= _) _ _ ⟨h₁,g0,d,tk+1,os⟩ from wpAny_bind (wpAny_setField_rec e₁ (by simp) λh₂ e₂ s₂=>?_))
 replace s₂:Heap.SameBut e h₁ h₂:=s₂
 replace e₂:IsEnum h₂ e j ((i:Int)+1) old:=e₂
 refine(show wpAny _ _ (setField (.ref e) 4 .none >>= _) _ _ ⟨h₂,g0,d,tk+1,os⟩ from wpAny_bind (wpAny_setField_rec e₂ (by simp) λh₃ e₃ s₃=>?_))
 replace s₃:Heap.SameBut e h₂ h₃:=s₃
 replace e₃:IsEnum h₃ e j ((i:Int)+1) old:=e₃
 refine(show wpAny _ _ (newTuple [.int i tk,x] >>= _) _ _ ⟨h₃,g0,d,tk+1,os⟩ from wpAny_bind (wpAny_newTuple ?_));have e₄:IsEnum (h₃.push { cls:=.type "tuple",data:=.seq #[.int i tk,x] }) e j ((i:Int)+1) old:=Waa _ e₃;generalize eh₄:h₃.push { cls:=.type "tuple",data:=.seq #[.int i tk,x] } = h₄ at e₄;have n3:h₃.objs.size=hp.objs.size:=by rw[s₃.1,s₂.1,s₁.1]
 have el:e<hp.objs.size:=Wak ge;have t₄:h₄.get? hp.objs.size=some { cls:=.type "tuple",data:=.seq #[.int i tk,x] }:=by rw[<- eh₄,<- n3];exact Wal _ rfl
 have k₄:∀c o,c≠e->c≠j->hp.get? c=some o->h₄.get? c=some o:=λc o c1 c2 z=>by rw[<- eh₄];exact Waa _ (s₃.extBut c o c1 (s₂.extBut c o c1 (s₁.extBut c o c2 z)))
 have g₄:ItB true h₄ j a (i+1):=by rw[<- eh₄];exact((g₁.off s₂.extBut (Ne.symm ne)).off s₃.extBut (Ne.symm ne)).at λo z=>Waa _ z
 refine(show wpAny _ _ (Builtin.SmallTypes.ownedTupleIsFree (.ref e) >>= _) _ _ ⟨h₄,g0,d,tk+1,os⟩ from ?_);rw[n3];clear eh₄ e₃ s₃ e₂ s₂ e₁ s₁ g₁ n3 h₃ h₂ h₁;refine wpAny_bind ?_;unfold Builtin.SmallTypes.ownedTupleIsFree;refine wpAny_bind (wpAny_field e₄ rfl (x:=.none) rfl (wpAny_pure ?_));simp only[if_true];refine wpAny_bind (wpAny_rule (wpAny_bind (wpAny_field e₄ rfl (x:=old) rfl (wpAny_bind (wpAny_setField_rec e₄ (by simp) λh₅ e₅ s₅=>?_)))))
 replace s₅:Heap.SameBut e h₄ h₅:=s₅
 replace e₅:IsEnum h₅ e j ((i:Int)+1) x:=e₅
 refine(show wpAny _ _ (Builtin.SmallTypes.ownedTupleHandOut (.ref e) (.ref hp.objs.size) >>= _) _ _ ⟨h₅,g0,d,tk+1,os⟩ from wpAny_bind ?_);unfold Builtin.SmallTypes.ownedTupleHandOut;refine wpAny_bind (wpAny_setField_rec e₅ (by simp) λh₆ e₆ s₆=>?_)
 replace s₆:Heap.SameBut e h₅ h₆:=s₆
 replace e₆:IsEnumOut h₆ e j ((i:Int)+1) x hp.objs.size:=e₆
 refine wpAny_setField_rec e₆ (by simp) λh₇ e₇ s₇=>?_
 replace s₇:Heap.SameBut e h₆ h₇:=s₇
 replace e₇:IsEnumOut h₇ e j ((i:Int)+1) x hp.objs.size:=e₇
 have up:∀c o,c≠e->h₄.get? c=some o->h₇.get? c=some o:=λc o c1 z=>s₇.extBut c o c1 (s₆.extBut c o c1 (s₅.extBut c o c1 z));exact wpAny_bind (wpAny_letGo (wpAny_pure ⟨_,rfl,wpAny_pure (q h₇ e₇ (g₄.at λo z=>up j o (Ne.symm ne) z) (up _ _ (Wbw el) t₄) λc o c1 c2 z=>up c o c1 (k₄ c o c1 c2 z))⟩))
theorem Zqm {b:Bool}{e j a:Addr}{i:Nat}{ws:Array Value}{old:Value}{Q:Option Value->Shared->Prop}(hh:A.handled=none) (ge:IsEnum s.heap e j i old) (g:ItB b s.heap j a i) (l:HsB b s.heap a ws) (ex:ws[i]?=none)
  (q:∀h',Heap.ExtBut j s.heap h' -> Q none { s with heap:=h' }):wpAny (model prog w) A (pyNext (.ref e)) Q E s:=by
 have ty:s.TypeIs (.ref e) "enumerate":=⟨_,ge,rfl⟩;unfold pyNext;refine wpAny_bind (wpAny_attempt (wpAny_callSpecial?_slot (name:=Str.ofString "__next__") ty F.slot_enumerate_next (wpAny_call_entry F.slot_enumerate_next ty F.entry_enumerate_next ?_ (F.args_enumerate_next_1 _))));refine(show wpAny _ _ (field (.ref e) 2 >>= _) _ _ _ from wpAny_bind (wpAny_field ge rfl (x:=.ref j) rfl (wpAny_bind (Zj6 hh g l ex λh' x e' ⟨o,ho,hc⟩=>?_))));exact wpAny_bind (wpAny_isInstance (T:="StopIteration") (b:=true) ⟨o,ho,hc⟩ isSubtype_stop (wpAny_pure (q _ e')))
theorem Znt (a:Addr) (ws:Array Value) (n:Nat) (dct:Option Addr) (sl:Array (Option Value)) :
  Meets (Builtin.«enumerate.__new__» ⟨[.type "enumerate",.ref a],[]⟩) (λ_ R s=>s.heap.get? a=some ⟨.type "tuple",dct,.seq ws n,sl⟩ ∧
   R (.ok (.ret (.ref (zt1 s.heap a).objs.size))) { s with heap:=(zt1 s.heap a).push ⟨.type "enumerate",none,.fields #[.none,.bool false,.ref s.heap.objs.size,rawInt 0,.none,.none],#[]⟩ }):=.of_wp λprog w A R s h=>by
 obtain⟨hp,g,d,tk,os⟩:=s;obtain⟨l,h⟩:=h;have sub0:=sub_enumerate;have t0:Heap.IsTuple (Shared.heap ⟨hp,g,d,tk,os⟩) a ws:=⟨_,l,rfl,n,rfl⟩
 wp_walk using AutoSeq1.wpAny_loadPart' l
 refine wpAny_stack_any λst=>wpAny_pure ?_;split
 ·rename_i c _ _ _ _ _
  cases (c == Value.type "enumerate") <;> (wp_walk using AutoSeq1.wpAny_loadPart' l,wpAny_pyIter_tuple t0;exact⟨_,rfl,h⟩)
 ·wp_walk using AutoSeq1.wpAny_loadPart' l,wpAny_pyIter_tuple t0
  exact⟨_,rfl,h⟩
theorem Zo7 {b:Bool}{a:Addr}{ws:Array Value}{Q:Value->Shared->Prop}(l:HsB b s.heap a ws)
  (q:∀h',IsEnum h' (s.heap.objs.size+1) s.heap.objs.size 0 .none->ItB b h' s.heap.objs.size a 0->(∀c o,s.heap.get? c=some o->h'.get? c=some o)->Q (.ref (s.heap.objs.size+1)) { s with heap:=h' }):wpAny (model prog w) A (call (.type "enumerate") [.ref a]) Q E s:=by
 cases b
 ·exact call_enumerate_list l λh' b1 b2 _ b3=>q h' b1 b2 b3
 ·obtain⟨⟨oc,od,oda,os⟩,l1,hc,n,hd⟩:=l
  dsimp only at hc hd;subst hc hd;refine callType_new F.called_enumerate (by decide) (F.typeCall_enumerate_1 _) (F.newCall_enumerate_1 _) (λobj=>F.args_object_init_2 obj _) F.entry_enumerate_new (Znt a ws n od os) ⟨l1,?_⟩;have z1:(zt1 s.heap a).objs.size=s.heap.objs.size+1:=Wbu ..;show _/\_;rw[z1];have he:IsEnum ((zt1 s.heap a).push ⟨.type "enumerate",none,.fields #[.none,.bool false,.ref s.heap.objs.size,rawInt 0,.none,.none],#[]⟩) (s.heap.objs.size+1) s.heap.objs.size 0 .none:=by
   rw[<- z1];exact Wal _ rfl
  exact⟨⟨_,he,rfl⟩,q _ he ⟨_,Waa _ (Wal _ rfl),rfl,rfl⟩ λc o z=>Waa _ (Waa _ z)⟩
end
def Ieb (b:Bool) (K:W.Frag) (l:Addr):It:=
 ⟨λi H=>∃xs x,SqB b K H l xs/\xs[i]?=some x,
  λi H v H'=>∃p x,H p=none/\v=.ref p/\H'=upd H p (.tup [.int (i:Int),x])/\∀xs,SqB b K H l xs->xs[i]?=some x,
  λi H=>∃xs,SqB b K H l xs/\xs.length<=i⟩
theorem Zpk {b:Bool}{P:Program}{w:World}{K:W.Frag}{es:List Expr}{kk:Nat}{tp:Pos}(l z j:Addr) (D:z≠j):Turn P w K (.Tuple es kk tp) (Ieb b K l) [z,j] z
  (λi h=>(∃old,IsEnum h z j i old)/\ItB b h j l i) where
 mem:=by simp
 obj:=λi h st b2 hb=>by
  obtain⟨⟨old,hz⟩,h1⟩:=st;obtain⟨o1,e1,d1⟩:=h1.obj;simp only[Wan,Waq,or_false]at hb;rcases hb with rfl|rfl
  ·exact⟨_,hz,λv q=>by cases q⟩
  ·exact⟨o1,e1,λv q=>by rw[d1]at q;cases q⟩
 keep:=λi h h' st k=>by
  obtain⟨⟨old,hz⟩,h1⟩:=st;exact⟨⟨old,k z (by simp) _ hz⟩,h1.at λo e=>k j (by simp) o e⟩
 item:=by
  intro X hP hw hK hc i pins s σ H E I hf st hg;subst hP hw hK;obtain⟨⟨old,hz⟩,h1⟩:=st;obtain⟨xs,x,hq1,hx⟩:=hg;obtain⟨its1,r1,p1⟩:=I.seqB hq1;obtain⟨u1,hu1,ru1⟩:=r1.get hx;refine Zpo hz h1 p1 (x:=u1) (by simpa using hu1) D λh' b1 b2 b3 hk=>?_;refine⟨_,rfl,wpAny_letOwnedTupleGo_enum (s:={ s with heap:=h',toks:=s.toks+1 }) b1 λh'' hz'' hs''=>?_⟩;have lt:∀{c o},s.heap.get? c=some o->c≠s.heap.objs.size:=λe=>War (Wak e);have hTz:s.heap.objs.size≠z:=Ne.symm (lt hz);have hTfree:H s.heap.objs.size=none:=I.hok.fresh (Waf _);have kept:∀c o,c ∉ [z,j]->s.heap.get? c=some o->h''.get? c=some o:=λc o hc e=>by
   simp only[Wan,Waq,or_false,not_or]at hc;exact hs''.extBut _ _ hc.1 (hk c o hc.1 hc.2 e)
  have hT:h''.get? s.heap.objs.size=some { cls:=.type "tuple",data:=.seq #[.int i s.toks,u1] }:=hs''.extBut _ _ hTz b3;have ntr:∀c o,H c=some o->c ∉ [z,j]:=λc o e hc=>by rw[(hf c hc).1]at e;cases e
  have hok:HOk X.prog X.w (upd H s.heap.objs.size (.tup [.int (i:Int),x])) h'':=λc o e=>by
   by_cases hcT:c=s.heap.objs.size
   ·subst hcT
    rw[Zay]at e;cases e;exact⟨by show 2<=sizeLine;decide,[.int i s.toks,u1],.cons ⟨_,rfl⟩ (.cons ru1 .nil),_,hT,⟨rfl,_,rfl⟩,rfl⟩
   ·rw[Zas hcT]at e
    refine(I.hok c o e).stay (λd v hd q=>kept d v ?_ q) (λd q=>by rw[Zas (Zar q hTfree)];exact q) λd zs q=>by rw[Zas (Zar q hTfree)];exact q
    rcases hd with hd|hd
    ·rw[hd];exact ntr c o e
    ·exact ntr d _ hd
  have I2:Inv X pins σ (upd H s.heap.objs.size (.tup [.int (i:Int),x])) { s with heap:=h'',toks:=s.toks+1 }:=by
   refine I.call (g':=s.gens) (t':=s.toks+1) (d':=s.drawn) (ch:=[z,j]) ⟨λc o e n hc hx=>kept c o hx e,λc o e n hc hx=>⟨o.slots,kept c o hx e⟩,λc o e n hx=>by rw[Zas (lt e)];exact n,λc o e hx=>⟨o,kept c o hx e⟩,
    λc zs q=>by rw[Zas (Zar q hTfree)];exact q,λc o zs q=>by rw[Zas (Zar q hTfree)];exact q,λc zs q=>⟨#[],by rw[Zas (Zar q hTfree),q];simp⟩⟩ hok I.bare λc hcc=>?_
   obtain⟨f0,f1,f2,f3,f4,f5⟩:=hf c hcc;exact⟨f3,f1,f4,f5⟩
  refine⟨.ref s.heap.objs.size,_,I2,rfl,⟨s.heap.objs.size,x,hTfree,rfl,rfl,λxs' q1=>?_⟩,⟨⟨_,by have:=hz'';push_cast at this ⊢;exact this⟩,b2.off hs''.extBut (Ne.symm D)⟩,λc hcc=>?_⟩
  ·rw[I.seqB_inj q1 hq1];exact hx
  ·have hcl:c≠s.heap.objs.size:=by
    simp only[Wan,Waq,or_false]at hcc;obtain⟨_,e1,_⟩:=h1.obj;rcases hcc with rfl|rfl
    ·exact lt hz
    ·exact lt e1
   rw[Zas hcl];exact(hf c hcc).1
 done:=by
  intro X hP hw hK hc i pins s σ H E I hf st hg;subst hP hw hK;obtain⟨⟨old,hz⟩,h1⟩:=st;obtain⟨xs,hq1,hend⟩:=hg;obtain⟨its1,r1,p1⟩:=I.seqB hq1;have l1':=r1.length;refine Zqm (I.ok.hd hc) hz h1 p1 (by simp;omega) λh' hk=>⟨rfl,?_⟩;have kept:∀c o,c ∉ [z,j]->s.heap.get? c=some o->h'.get? c=some o:=λc o hc e=>by
   simp only[Wan,Waq,or_false,not_or]at hc;exact hk c o hc.2 e
  have ntr:∀c o,H c=some o->c ∉ [z,j]:=λc o e hc=>by rw[(hf c hc).1]at e;cases e
  refine I.call (g':=s.gens) (t':=s.toks) (d':=s.drawn) (ch:=[z,j]) ⟨λc o e n hc hx=>kept c o hx e,λc o e n hc hx=>⟨o.slots,kept c o hx e⟩,λc o e n hx=>n,λc o e hx=>⟨o,kept c o hx e⟩,
   λc zs q=>q,λc o zs q=>q,λc zs q=>⟨#[],by rw[q];simp⟩⟩ (λc o e=>?_) I.bare λc hcc=>?_
  ·refine(I.hok c o e).stay (λd v hd q=>kept d v ?_ q) (λd q=>q) λd zs q=>q
   rcases hd with hd|hd
   ·rw[hd];exact ntr c o e
   ·exact ntr d _ hd
  ·obtain⟨f0,f1,f2,f3,f4,f5⟩:=hf c hcc
   exact⟨f3,f1,f4,f5⟩
 self:=λ_ _ _ _ _ st h=>by
  obtain⟨⟨old,hz⟩,_⟩:=st;exact wpAny_pyIter_enum hz h
theorem Zhb:bootBuiltins "enumerate" = some (.type "enumerate"):=by kernel_rfl
section
variable {X:Cx}
def iEnum (K:W.Frag) (ta:TA):TI:=λσ H R=>ta σ H λvs H1=>∃b l,vs=[.ref l]/\(∃xs,SqB b K H1 l xs)/\R (Ieb b K l) H1
theorem Zch (K:W.Frag) {es:List Expr}{kk:Nat}{tp:Pos}{a:Expr}{ta:TA}{p pos:Pos}(hg:Gl X "enumerate") (hm:X.mg "enumerate" = none) (ha:PA X [a] ta) (hs:starEach [a] X.env=[(false,eval a X.env)]:=by rfl) (hs2:starEach [] X.env=[]:=by rfl) (hK:X.K=K:=by rfl) :
  PI X (.Tuple es kk tp) (.Call (.Name "enumerate" p) [a] [] pos) (iEnum K ta):=by
 subst hK;intro pins s σ H R I h;refine Call_ (Zd0 I hg hm (Zhb) (PyProof.Rows.callWith_type1 (thn (ha pos pins s σ H _ I h) λus s1 ⟨vs,H1,I1,r1,q1⟩=>?_) (by rw[hs,hs2]) (by rw[hs2];rfl)));obtain⟨b,l1,e,⟨xs,hx⟩,q⟩:=q1;subst e;obtain⟨u1,rfl,q1⟩:=vals1 r1;cases (show u1=Value.ref l1 from q1);obtain⟨its1,w1,p1⟩:=I1.seqB hx;refine Zo7 p1 λh' b1 b2 hk=>?_;refine wpAny_pyIter_enum b1 ?_;have I2:Inv X pins σ H1 { s1 with heap:=h' }:=I1.kept (t':=s1.toks) hk;refine⟨s1.heap.objs.size+1,[s1.heap.objs.size+1,s1.heap.objs.size],_,_,H1,rfl,I2,Zpk l1 _ _ (Nat.succ_ne_self _),⟨⟨_,b1⟩,b2⟩,λb hb=>?_,q⟩;have hge:s1.heap.objs.size<=b:=by
  simp only[Wan,Waq,or_false]at hb;rcases hb with rfl|rfl <;> omega
 exact I1.fpOk hge (I1.hok.fresh hge)
end
section
variable {K:W.Frag}{Δ:Evt}
def enD (ds:List D):List D:=ds.zipIdx.map λp=>D.tup [.int (p.2:Int),p.1]
theorem Zfc (ds:List D):(enD ds).length=ds.length:=by unfold enD;rw[Wab,List.length_zipIdx]
theorem Zin {ds:List D}{i:Nat}{e:D}(h:(enD ds)[i]?=some e):∃d,ds[i]?=some d/\e=.tup [.int (i:Int),d]:=by
 unfold enD at h;rw[Wad,List.getElem?_zipIdx]at h;cases q:ds[i]? with
 |none=>rw[q]at h;cases h
 |some d=>rw[q]at h;refine⟨d,rfl,?_⟩;simpa using h.symm
theorem Zhn {b:Bool}{G:Hp}{l1:Addr}{xs:List V}{ds:List D}(h1:∀G1 H1,Same G G1->Same G1 H1->SqB b K H1 l1 xs) (r1:Reps K G xs ds):ItOk K G (Ieb b K l1) (enD ds):=λG1 H1 sg sh=>by
 have hl1:=r1.length;have e1:=h1 G1 H1 sg sh;refine⟨⟨xs,e1,by rw[Zfc];omega⟩,λi d hd=>?_⟩;obtain⟨d0,q,rfl⟩:=Zin hd;obtain⟨u,hu,ru⟩:=r1.get q;refine⟨⟨xs,u,e1,hu⟩,λx H2 ⟨p,a,hp,ex,eH,hab⟩=>?_⟩;have ha:=hab xs e1;rw[hu]at ha;cases ha;subst ex;subst eH;have hG:G1 p=none:=by
  cases z:G1 p with
  |none=>rfl
  |some o=>rw[sh _ _ z]at hp;cases hp
 refine⟨upd G1 p (.tup [.int (i:Int),u]),λc o e=>by rw[Zas (Zar e hG)];exact e,λc o e=>by rw[Zas (Zar e hp)];exact e,λc o e=>?_,?_⟩
 ·by_cases hc:c=p
  ·subst hc;rw[Zay]at e ⊢;exact⟨e,.inr hp⟩
  ·rw[Zas hc]at e ⊢;exact⟨sh c o e,.inl e⟩
 ·have sg2:Same G1 (upd G1 p (.tup [.int (i:Int),u])):=λc o e=>by rw[Zas (Zar e hG)];exact e
  exact .tup Zay (.cons (.int _) (.cons ((ru.mono sg).mono sg2) .nil))
theorem Zfi {ta:TA}{P:List D->Evt->Prop}(h:JA K ta Δ λds Δ1=>∃as,(ds=[.lst as]\/ds=[.tup as])/\P (enD as) Δ1):JI K (iEnum K ta) Δ P:=λg G H σ R k c=>
 h g G H σ _ k λvs ds G1 H1 Δ1 k1 s1 r1 hq_=>by
  obtain⟨as,e,p1⟩:=hq_;rcases e with e|e
  ·subst e
   obtain⟨_,_,rfl,ra,rr⟩:=r1.inv
   next=>
    cases rr.inv;obtain⟨_,_,rfl,ha,rsa⟩:=ra.inv
    next=>exact⟨false,_,rfl,⟨_,SqL.of (k1.live _ _ ha)⟩,c _ _ G1 H1 Δ1 k1 s1 (Zhn (λ_ _ sg sh=>SqL.of (sh _ _ (sg _ _ ha))) rsa) p1⟩
  ·subst e
   obtain⟨_,_,rfl,ra,rr⟩:=r1.inv
   next=>
    cases rr.inv;obtain⟨_,_,rfl,ha,rsa⟩:=ra.inv
    next=>exact⟨true,_,rfl,⟨_,SqT.of (k1.live _ _ ha)⟩,c _ _ G1 H1 Δ1 k1 s1 (Zhn (λ_ _ sg sh=>SqT.of (sh _ _ (sg _ _ ha))) rsa) p1⟩
end
open PySem PySem.Spec PyProof.Rows PySem.SeqAt
section
variable {X:Cx}
def rInU (K:W.Frag) (neg:Bool):R2:=λx y H Q=>rIn K neg x y H Q\/(∃a o,y=.ref a/\DGet H a x o/\Q (.bl (if neg then !o.isSome else o.isSome)) H) ∨
 ∃a S n i,y=.ref a/\x=.int i/\H a=some (.set S n)/\Q (.bl (if neg then !S i else S i)) H
theorem inK (K:W.Frag) (hu:X.A.units+1<cLine) (hK:X.K=K:=by rfl):OpR X (compareOp .In) (rInU K false):=by
 subst hK;intro pins s σ H x y v u Q I rx ry h;rcases h with h|⟨a,o,rfl,hd,q⟩|⟨a,S,n,i,rfl,rfl,hs,q⟩
 ·exact Zlo pins s σ H x y v u Q I rx ry h
 ·cases ry
  exact d_in hu I hd rx λs' I'=>⟨.bl _,H,I',rfl,q⟩
 ·cases ry
  obtain⟨t,rfl⟩:=rx;exact wpAny_inSet_of (knd:=intKind X.prog X.w) (k:=i) (by simp[intKind,Value.isInt]) rfl (I.hok a _ hs) ⟨.bl _,H,I.tok _,rfl,q⟩
theorem notinK (K:W.Frag) (hu:X.A.units+1<cLine) (hK:X.K=K:=by rfl):OpR X (compareOp .NotIn) (rInU K true):=by
 subst hK;intro pins s σ H x y v u Q I rx ry h;rcases h with h|⟨a,o,rfl,hd,q⟩|⟨a,S,n,i,rfl,rfl,hs,q⟩
 ·exact Zhy pins s σ H x y v u Q I rx ry h
 ·cases ry
  exact Zoy hu I hd rx λs' I'=>⟨.bl _,H,I',rfl,q⟩
 ·cases ry
  obtain⟨t,rfl⟩:=rx;exact wpAny_notInSet_of (knd:=intKind X.prog X.w) (k:=i) (by simp[intKind,Value.isInt]) rfl (I.hok a _ hs) ⟨.bl _,H,I.tok _,rfl,q⟩
def rIndexL (K:W.Frag):V->List V->Hp->VK->Prop:=λx vs H Q=>∃(a:Addr) (ns:List Int) (i:Int),x=.ref a/\vs=[.int i]/\SqL K H a (ns.map V.int)/\ns.length<=1000/\i∈ns/\Q (.int (ns.idxOf i:Nat)) H
theorem idxLK (K:W.Frag) (hK:X.K=K:=by rfl):MtM X "list.index" (rIndexL K):=by
 subst hK;intro pins s σ H x vs v us Q I rx rv h;obtain⟨a,ns,i,rfl,rfl,hx,hl,hm,q⟩:=h;cases rx;obtain⟨u,rfl,ru⟩:=rv.one;obtain⟨t,rfl⟩:=ru;obtain⟨its,r,pl,hz⟩:=I.list hx;have hi:=Zei r;have hlen:=hi.length;obtain⟨⟨cls,dd,data,sl⟩,ho,hc,n,hd⟩:=pl.isList;simp only at hc hd;subst hc hd;have hj:ns.idxOf i<ns.length:=List.idxOf_lt_length_iff.mpr hm;refine call_meets PySem.F.slot_list_index ⟨_,ho,rfl⟩ PySem.F.entry_list_index (PySem.F.args_list_index_2 _ _)
  (list_indexAt a its.toArray n dd sl (.int i t) (isInt i) (ns.idxOf i) (by simpa [hlen] using hj) (by omega) ?_ ?_) ⟨ho,λy hy=>(eq_isInt i t hi y (by simpa using hy)).at _ _,⟨.int _,H,I.tok _,⟨_,rfl⟩,q⟩⟩
 ·show isInt i its[ns.idxOf i]=true
  rw[isInt_at i hi _ (by omega) hj];simpa using List.getElem_idxOf hj
 ·intro j hjs hlt
  show isInt i its[j]=false;rw[isInt_at i hi j (by simpa using hjs) (by omega)];exact ne_of_lt_idxOf hlt _
end
section
variable {K:W.Frag}{Δ:Evt}{P:D->Evt->Prop}
theorem Zi7 (i:Int) (ns:List Int):inV (.int i) (ns.map V.int)=decide (i∈ns):=by
 unfold inV;rw[List.any_map]
 induction ns with
 |nil=>rfl
 |cons n ns ih=>
  rw[Wci,ih];show ((n == i) || decide (i∈ns))=_;by_cases h:n=i
  ·subst h;simp
  ·rw[beq_eq_false_iff_ne.mpr h,Bool.false_or]
   have:(i∈n::ns)↔i∈ns:=by simp[Ne.symm h]
   exact decide_eq_decide.mpr this.symm
theorem Zg9 (ns:List Int):(ns.map V.int).all flatV=true:=by rw[List.all_map];exact Wby.mpr λ_ _=>rfl
theorem Zoc {neg:Bool}{i:Int}{ns:List Int}(p:P (.bl (if neg then !decide (i∈ns) else decide (i∈ns))) Δ):JR2 K (rInU K neg) (.int i) (.tup (ns.map .int)) Δ P:=λg G H σ Q x y k rx ry c=>by
 cases rx.inv;obtain⟨_,_,rfl,ha,rs⟩:=ry.inv
 next=>
  have ev:=rs.ints;subst ev;refine .inl ⟨_,_,rfl,.inr (SqT.of (k.live _ _ ha)),rfl,Zg9 ns,?_⟩;rw[Zi7];exact c _ _ G H Δ k (Same.refl _) (.bl _) p
theorem Zlx {to te:TE}(h:JE K to Δ λd Δ1=>∃ns:List Int,d=.lst (ns.map D.int)/\ns.length<=1000/\JE K te Δ1 λe Δ2=>∃i,e=.int i/\i∈ns/\P (.int (ns.idxOf i:Nat)) Δ2) :
  JE K (tBM K "list" (rIndexL K) to (tCons te tNil)) Δ P:=λg G H σ Q k c=>
 h g G H σ _ k λv d G1 H1 Δ1 k1 s1 r1 hq_=>by
  obtain⟨ns,e,hl,p1⟩:=hq_;subst e;obtain⟨a,vs,rfl,ha,rs⟩:=r1.inv
  next=>
   refine⟨.inl ⟨rfl,_,SqL.of (k1.live _ _ ha)⟩,p1 g G1 H1 σ _ k1 λu e G2 H2 Δ2 k2 s2 r2 ⟨i,q1,q2,p⟩=>?_⟩;subst q1;cases r2.inv;have ev:vs=ns.map V.int:=rs.ints;subst ev;exact⟨a,ns,i,rfl,rfl,SqL.of (k2.live _ _ (s2 _ _ ha)),hl,q2,c _ _ G2 H2 Δ2 k2 (s1.trans s2) (.int _) p⟩
end
theorem Zem {A:Around}{k:Nat}(hr:Room k A):A.units+8<cLine:=Wbj (Wco (by decide:8<=64) _) hr.units
open PySem PySem.Spec PyProof.Rows PySem.SeqAt
section
variable {X:Cx}
theorem Zdz:∀{vs:List Value}{ns:List Int},vs.length=ns.length->(∀(i:Nat) v,vs[i]?=some v->∃t,v=.int (ns.getD i 0) t)->IntsAre vs ns
 |[],[],_,_=>.nil
 |[],_::_,h,_=>by simp at h
 |_::_,[],h,_=>by simp at h
 |v::vs,n::ns,h,g=>by
  obtain⟨t,rfl⟩:=g 0 v rfl;exact .cons n t (Zdz (by simpa using h) λi u e=>by simpa using g (i+1) u (by simpa using e))
def tLR (ta:TA):TE:=λσ H Q=>ta σ H λvs H1=>∃n:Nat,vs=[.int (n:Int)]/\n<=1000/\∀l,H1 l=none->Q (.ref l) (upd H1 l (.lst ((Wa4 n).map λi:Nat=>V.int (i:Int))))
theorem Zex {a:Expr}{ta:TA}{p p2 pos pos2:Pos}(hc:X.calm=true) (hgL:Gl X "list") (hmL:X.mg "list" = none) (hgR:Gl X "range") (hmR:X.mg "range" = none) (ha:PA X [a] ta) (hs:starEach [a] X.env=[(false,eval a X.env)]:=by rfl)
  (he:starEach [.Call (.Name "range" p2) [a] [] pos2] X.env=[(false,eval (.Call (.Name "range" p2) [a] [] pos2) X.env)]:=by rfl) :
  PE X (.Call (.Name "list" p) [.Call (.Name "range" p2) [a] [] pos2] [] pos) (tLR ta):=by
 intro pins s σ H Q I h;refine wpAny_Call_Name_kw (Zd0 I hgL hmL Zkg ?_);refine PyProof.Rows.callWith_type1 ?_ he rfl;rw[he];show wpAny _ _ (spliced ((false,eval (.Call (.Name "range" p2) [a] [] pos2) X.env)::backTo pos [])) _ _ s;refine Calls.spliced_cons ?_;refine Call_ (Zd0 I hgR hmR boot_range (PyProof.Rows.callWith_type1 (thn (ha pos2 pins s σ H _ I h) λus s1 ⟨vs,H1,I1,r1,q1⟩=>?_) hs rfl));obtain⟨n,e,hn,q⟩:=q1;subst e;cases r1 with
 |cons r rr=>
  cases rr;obtain⟨t,rfl⟩:=r;refine call_range_1 (Calls.spliced_nil ?_);have I2:Inv X pins σ H1 { s1 with heap:=s1.heap.push { cls:=.type "range",data:=.fields #[.int 0 s1.toks,.int (n:Int) t,.int 1 (s1.toks+1)] },toks:=s1.toks+1+1 }:=I1.kept λb o e=>Waa _ e;refine call_list_range (a:=0) (b:=(n:Int)) (c:=1) (n:=n) (I1.ok.hd hc) (IsRange.new ..) (small_one (by decide) (by decide) (by omega) (by omega)) (by rw[rangeSize_one];split <;> omega) (by omega) λh' tk acc c' hk hD hI=>?_
  have hl:acc.size=n:=hI.1;refine⟨.ref _,_,I2.laid (t':=tk) hk (Waf _) (show ObjOk X.prog X.w _ h' _ (.lst ((Wa4 n).map λi:Nat=>V.int (i:Int))) from ⟨?_,acc.toList,c',?_,?_⟩),rfl,q _ (I2.hok.fresh (Waf _))⟩
  ·rw[Wab,Wcg];exact Wb1 (small1000 hn)
  ·have:IntsAre acc.toList ((Wa4 n).map λi:Nat=>(i:Int)):=by
    refine Zdz (by rw[Array.length_toList,hl,Wab,Wcg]) λi v e=>?_;have hi:i<n:=by
     have:=(Waj.mp e).1;rw[Array.length_toList,hl]at this;exact this
    obtain⟨t',rfl⟩:=hI.2 i v (by rw[<- Array.getElem?_toList];exact e);refine⟨t',?_⟩;rw[Wae,Wad,Wcw hi];show Value.int (0+(i:Int)*1) t'=Value.int (i:Int) t';rw[Wb2,Int.mul_one]
   have:=Zd6 this;rw[Wbf]at this;exact this
  ·rw[Array.toArray_toList];exact hD
end
section
variable {K:W.Frag}{Δ:Evt}{P:D->Evt->Prop}
theorem Zqp {ta:TA}{Po:OD->Evt->Prop}(h:JA K ta Δ λds Δ1=>∃n:Nat,ds=[.int (n:Int)]/\n<=1000/\Po (.lst ((Wa4 n).map λi:Nat=>D.int (i:Int))) Δ1):JO K (tLR ta) Δ Po:=λg G H σ Q k c=>
 h g G H σ _ k λvs ds G1 H1 Δ1 k1 s1 r1 hq_=>by
  obtain⟨n,e,hl,p⟩:=hq_;subst e;obtain⟨_,_,rfl,r,t⟩:=r1.inv
  next=>
   cases t.inv;cases r.inv;refine⟨n,rfl,hl,λl hl=>?_⟩;obtain⟨k2,pd⟩:=k1.fresh (od:=.lst ((Wa4 n).map λi:Nat=>D.int (i:Int))) hl (show OwnRep K G1 (.lst ((Wa4 n).map λi:Nat=>V.int (i:Int))) (.lst ((Wa4 n).map λi:Nat=>D.int (i:Int))) from by
    have:=Reps.ofInts (K:=K) (G:=G1) ((Wa4 n).map λi:Nat=>(i:Int));rw[Wbf,Wbf]at this;exact this)
   exact c l _ G1 _ Δ1 k2 s1 pd p
end
open PySem PySem.Spec PyProof.Rows PySem.SeqAt
def Ris (xs:Array Nat):Prop:=∀(i j a b:Nat),i<j->xs[i]?=some a->xs[j]?=some b->a<b
theorem Zg0 (xs:Array Nat) (R:Ris xs) (j:Nat):∀(fuel lo hi:Nat),hi-lo<=fuel->lo<=hi->hi<=xs.size->(∀(i a:Nat),i<lo->xs[i]?=some a->a<j)->(∀(i a:Nat),hi<=i->xs[i]?=some a->j<=a) →
  SetTable.below.go xs j fuel lo hi<=xs.size/\(∀(i a:Nat),i<SetTable.below.go xs j fuel lo hi->xs[i]?=some a->a<j)/\∀(i a:Nat),SetTable.below.go xs j fuel lo hi<=i->xs[i]?=some a->j<=a
 |0,lo,hi,h1,h2,h3,h4,h5=>by
  have:lo=hi:=by omega
  subst this;show lo<=xs.size/\_;exact⟨h3,h4,h5⟩
 |fuel+1,lo,hi,h1,h2,h3,h4,h5=>by
  unfold SetTable.below.go;by_cases hlt:lo<hi
  ·rw[if_pos hlt]
   dsimp only;have hm:(lo+hi) / 2<xs.size:=by omega
   have hg:xs.getD ((lo+hi) / 2) j=xs[(lo+hi) / 2]:=by simp[Array.getD,hm]
   by_cases hc:xs.getD ((lo+hi) / 2) j<j
   ·rw[if_pos hc]
    refine Zg0 xs R j fuel _ _ (by omega) (by omega) h3 (λi a hi' e=>?_) h5;by_cases hi2:i=(lo+hi) / 2
    ·subst hi2
     rw[Array.getElem?_eq_getElem hm]at e;cases e;omega
    ·have:=R i ((lo+hi) / 2) a _ (by omega) e (Array.getElem?_eq_getElem hm)
     omega
   ·rw[if_neg hc]
    refine Zg0 xs R j fuel _ _ (by omega) (by omega) (by omega) h4 λi a hi' e=>?_;by_cases hi2:i=(lo+hi) / 2
    ·subst hi2
     rw[Array.getElem?_eq_getElem hm]at e;cases e;omega
    ·have:=R ((lo+hi) / 2) i _ a (by omega) (Array.getElem?_eq_getElem hm) e
     omega
  ·rw[if_neg hlt]
   have:lo=hi:=by omega
   subst this;exact⟨h3,h4,h5⟩
theorem Zge {xs:Array Nat}(R:Ris xs) (j:Nat):SetTable.below xs j<=xs.size/\(∀(i a:Nat),i<SetTable.below xs j->xs[i]?=some a->a<j)/\∀(i a:Nat),SetTable.below xs j<=i->xs[i]?=some a->j<=a:=
 Zg0 xs R j xs.size 0 xs.size (by omega) (Wbq _) (Waf _) (λi a h=>by omega) λi a h e=>by
  have:=(Array.getElem?_eq_some_iff.mp e).1;omega
theorem Zgm {α:Type}(xs:Array α) (p:Nat) (x:α) (h:p<=xs.size):(SetTable.insertAt xs p x).toList=xs.toList.take p++x::xs.toList.drop p:=by
 unfold SetTable.insertAt;rw[Array.toList_append,Array.toList_push,Array.toList_extract,Array.toList_extract];simp[List.extract_eq_take_drop,List.append_assoc];rw[Wce (by simp)]
theorem Zh0 {α:Type}(xs:Array α) (p:Nat) (x:α) (h:p<=xs.size) (i:Nat):(SetTable.insertAt xs p x)[i]?=if i<p then xs[i]? else if i=p then some x else xs[i-1]?:=by
 rw[<- Array.getElem?_toList,Zgm xs p x h];by_cases h1:i<p
 ·rw[if_pos h1,Wa3 (by rw[Wav,Array.length_toList];omega),List.getElem?_take_of_lt h1,Array.getElem?_toList]
 ·rw[if_neg h1,Wap (by rw[Wav,Array.length_toList];omega),Wav,Array.length_toList,Wcv h]
  by_cases h2:i=p
  ·rw[if_pos h2,h2,Nat.sub_self];rfl
  ·rw[if_neg h2,show i-p=(i-1-p)+1 by omega,List.getElem?_cons_succ,Wb8,Array.getElem?_toList,show p+(i-1-p)=i-1 by omega]
theorem Zp2 {xs:Array Nat}(R:Ris xs) {j:Nat}(hj:xs[SetTable.below xs j]?≠some j):Ris (SetTable.insertAt xs (SetTable.below xs j) j):=by
 obtain⟨b1,b2,b3⟩:=Zge R j;have b4:∀(i a:Nat),SetTable.below xs j<=i->xs[i]?=some a->j<a:=λi a h e=>by
  have h1:=b3 i a h e;by_cases hi:i=SetTable.below xs j
  ·subst hi
   rcases Nat.lt_or_eq_of_le h1 with z|z
   ·exact z
   ·subst z;exact absurd e hj
  ·obtain⟨s1,s2⟩:=Array.getElem?_eq_some_iff.mp e
   have hlt:SetTable.below xs j<xs.size:=by omega
   have h2:=b3 _ _ (Waf _) (Array.getElem?_eq_getElem hlt);have:=R (SetTable.below xs j) i _ a (by omega) (Array.getElem?_eq_getElem hlt) e;omega
 intro i k a b hik ha hb;rw[Zh0 _ _ _ b1]at ha hb;split at ha
 ·split at hb
  ·exact R i k a b hik ha hb
  ·split at hb
   ·cases hb;exact b2 i a (by omega) ha
   ·exact R i (k-1) a b (by omega) ha hb
 ·split at ha
  ·cases ha
   rw[if_neg (by omega),if_neg (by omega)]at hb;exact b4 (k-1) b (by omega) hb
  ·rw[if_neg (by omega),if_neg (by omega)]at hb
   exact R (i-1) (k-1) a b (by omega) ha hb
theorem Zoo:Ris #[]:=λi j a b _ e=>by simp at e
theorem Zky (n:Nat):Ris (Array.range n):=λi j a b h e1 e2=>by
 simp[Array.getElem?_range]at e1 e2;omega
structure TabOk (led:Bool) (t:SetTable):Prop where
 led:t.led=led
 dum:t.dummies = #[]
 ris:Ris t.place
theorem TabOk.fresh (led:Bool):TabOk led (SetTable.fresh 0 0 led):=⟨rfl,rfl,Zoo⟩
theorem TabOk.standIn {led:Bool}{t:SetTable}(h:TabOk led t) (n:Nat):TabOk led (t.standIn n):=⟨h.led,rfl,Zky n⟩
theorem Zke (j:Nat):SetTable.has #[] j=false:=by unfold SetTable.has;simp
theorem Zfs {t:SetTable}(hd:t.dummies = #[]) {hashAt:Nat->Int}{h:Int}:∀(fuel:Nat) (p:SetTable.Probe) {j:Nat}{dm:Option Nat},p.dummy=none->SetTable.probe.go t hashAt h fuel p=some (.empty j dm)->dm=none/\t.place[SetTable.below t.place j]?≠some j
 |0,_,_,_,_,e=>by cases e
 |fuel+1,p,j,dm,hp,e=>by
  unfold SetTable.probe.go at e;have adv:(t.advance p).dummy=none:=by unfold SetTable.advance;split <;> exact hp
  unfold SetTable.slot at e;dsimp only at e;by_cases hl:(t.place[SetTable.below t.place p.j]? == some p.j)=true
  ·rw[if_pos hl]at e
   dsimp only at e;split at e
   ·cases e
   ·exact Zfs hd fuel _ adv e
  ·rw[if_neg hl,hd,Zke]at e
   simp only[Wbs,if_false]at e;injection e with e
   injection e with e1 e2
   subst e1 e2;exact⟨hp,λz=>hl (by rw[z];simp)⟩
theorem TabOk.put {led:Bool}{t:SetTable}(h:TabOk led t) {j:Nat}(hj:t.place[SetTable.below t.place j]?≠some j):TabOk led (t.put j).1:=by
 refine⟨h.led,?_,Zp2 h.ris hj⟩;show (if SetTable.has t.dummies j=true then _ else t.dummies) = #[];rw[h.dum,Zke];rfl
theorem TabOk.layNew {led:Bool}{t:SetTable}(h:TabOk led t) (es:Array (Int × Value)) (hs:Int) (x:Value):TabOk led (layNew t es hs x).2.1:=by
 unfold PySem.layNew;unfold SetTable.freeSlot;cases q:t.probe (λ_=>hs+1) hs (t.probeStart hs) with
 |none=>exact h.standIn _
 |some m=>
  cases m with
  |candidate j i p=>exact h.standIn _
  |empty j dm=>
   obtain⟨e1,e2⟩:=Zfs h.dum _ (t.probeStart hs) rfl (show SetTable.probe.go t (λ_=>hs+1) hs (10*SetTable.turns t.mask) (t.probeStart hs)=some (.empty j dm) from q);subst e1;show TabOk led ((t.put j).1.orStandIn _);unfold SetTable.orStandIn;split
   ·exact h.put e2
   ·exact(h.put e2).standIn _
theorem Zm9 (owner:Array (Option Nat)) (m:Nat):Ris ((((Wa4 m).filterMap λj=>(owner.getD j none).map (j,·)).map (·.1)).toArray):=by
 have pw:((Wa4 m).filterMap λj=>(owner.getD j none).map (j,·)).Pairwise (λa b=>a.1<b.1):=by
  rw[List.pairwise_filterMap];refine List.Pairwise.imp ?_ List.pairwise_lt_range;intro a b hab c hc d hd;cases qa:owner.getD a none with
  |none=>rw[qa]at hc;cases hc
  |some k=>
   cases qb:owner.getD b none with
   |none=>rw[qb]at hd;cases hd
   |some l=>
    rw[qa]at hc;rw[qb]at hd;have hc:(a,k)=c:=by simpa using hc
    have hd:(b,l)=d:=by simpa using hd
    subst hc hd;exact hab
 intro i j a b hij ea eb;rw[Wcu,Wad]at ea eb;cases qa:((Wa4 m).filterMap λj=>(owner.getD j none).map (j,·))[i]? with
 |none=>rw[qa]at ea;cases ea
 |some c=>
  cases qb:((Wa4 m).filterMap λj=>(owner.getD j none).map (j,·))[j]? with
  |none=>rw[qb]at eb;cases eb
  |some d=>
   rw[qa]at ea;rw[qb]at eb;have ea:c.1=a:=by simpa using ea
   have eb:d.1=b:=by simpa using eb
   subst ea eb;obtain⟨i1,i2⟩:=Waj.mp qa;obtain⟨j1,j2⟩:=Waj.mp qb;have:=List.pairwise_iff_getElem.mp pw i j i1 j1 hij;rw[i2,j2]at this;exact this
theorem TabOk.relay {led:Bool}{t:SetTable}(h:TabOk led t) (es:Array (Int × Value)) (wanted:Nat):TabOk led (relayAll t es wanted).2.1:=by
 unfold PySem.relayAll;cases q:t.relaid (es.map (·.1)) wanted with
 |none=>exact h.standIn _
 |some r=>
  obtain⟨t',order⟩:=r;dsimp only;split
  ·unfold SetTable.relaid SetTable.laid at q
   cases q2:SetTable.layClean (SetTable.sizeAbove wanted-1) (es.map (·.1)) with
   |none=>rw[q2]at q;cases q
   |some owner=>
    rw[q2]at q;have q:_=some (t',order):=q;have e:=congrArg Prod.fst (Wbo.inj q);dsimp only at e;rw[<- e];exact⟨h.led,rfl,Zm9 owner _⟩
  ·exact h.standIn _
def numOf:Value->Int
 |.int i _=>i
 |_=>0
section
variable {prog:Program}{w:World}
def byTextB (w:World):Bool:=w.params.followText "set-order"
structure SetG (prog:Program) (w:World) (h:Heap) (a:Addr) (o:Obj) (es:Array (Int × Value)) (ep:Nat) (t:SetTable) (ks:List Int):Prop where
 get:h.get? a=some o
 ex:o.ExactSet
 dat:o.data=.set es ep t
 el:ElemsOf (intKind prog w) es.toList
 room:es.size<scanBound
 fit:t.fits es.size=true
 tab:TabOk (!byTextB w) t
 perm:(es.toList.map λe=>numOf e.2).Perm ks
 nd:ks.Nodup
def SetI (prog:Program) (w:World) (h:Heap) (a:Addr) (ks:List Int):Prop:=∃o es ep t,SetG prog w h a o es ep t ks
theorem SetI.keep {h h':Heap}{a:Addr}{ks:List Int}(x:SetI prog w h a ks) (k:∀o,h.get? a=some o->h'.get? a=some o):SetI prog w h' a ks:=by
 obtain⟨o,es,ep,t,g⟩:=x;exact⟨o,es,ep,t,k _ g.get,g.ex,g.dat,g.el,g.room,g.fit,g.tab,g.perm,g.nd⟩
theorem SetG.size {h:Heap}{a:Addr}{o:Obj}{es:Array (Int × Value)}{ep:Nat}{t:SetTable}{ks:List Int}(g:SetG prog w h a o es ep t ks):es.size=ks.length:=by
 have:=g.perm.length_eq;rw[Wab,Array.length_toList]at this;exact this
theorem Zho {k:Int}{v:Value}(h:(intKind prog w).is k v=true):numOf v=k/\∃t,v=.int k t:=by
 obtain⟨t,rfl⟩:=Value.isInt_shape (show Value.isInt k v=true from h);exact⟨rfl,t,rfl⟩
theorem Zi8 {es:List (Int × Value)}(h:ElemsOf (intKind prog w) es) {e:Int × Value}(he:e∈es):∃t,e.2=.int (numOf e.2) t:=by
 obtain⟨⟨k,hk,_⟩,_⟩:=h e he;obtain⟨h1,t,h2⟩:=Zho hk;exact⟨t,by rw[h2];rfl⟩
theorem Zl6 {es:List (Int × Value)}(h:ElemsOf (intKind prog w) es) {k:Int}:(∃e∈es,(intKind prog w).is k e.2=true)↔k∈es.map λe=>numOf e.2:=by
 rw[Wa1];constructor
 ·rintro⟨e,he,hp⟩;exact⟨e,he,(Zho hp).1⟩
 ·rintro⟨e,he,rfl⟩
  obtain⟨t,ht⟩:=Zi8 h he;exact⟨e,he,by rw[ht];exact intKind_is _ _ _ _⟩
section
variable {A:Around}{E:Value->Shared->Prop}{s:Shared}
theorem SetG.store {h:Heap}{a:Addr}{o:Obj}{es:Array (Int × Value)}{ep:Nat}{t:SetTable}{ks:List Int}(g:SetG prog w h a o es ep t ks) {es':Array (Int × Value)}{t':SetTable}{ks':List Int}
  (hel:ElemsOf (intKind prog w) es'.toList) (hb:es'.size<scanBound) (hf:t'.fits es'.size=true) (ht:TabOk (!byTextB w) t') (hp:(es'.toList.map λe=>numOf e.2).Perm ks') (hn:ks'.Nodup) :
  SetG prog w (h.update a (Obj.putSet es' t')) a { o with data:=.set es' (ep+1) t' } es' (ep+1) t' ks':=by
 have hg:(h.update a (Obj.putSet es' t')).get? a=some { o with data:=.set es' (ep+1) t' }:=by
  have:=Wb0 (Obj.putSet es' t') g.get (by rw[putSet_of es' t' g.dat];rfl);rw[putSet_of es' t' g.dat]at this;exact this
 exact⟨hg,g.ex,rfl,hel,hb,hf,ht,hp,hn⟩
def addE (ks:List Int) (k:Int):List Int:=if k∈ks then ks else ks++[k]
theorem Znj {a:Addr}{ks:List Int}{k:Int}{tk:Tok}{Q:Bool->Shared->Prop}(hS:SetI prog w s.heap a ks) (hroom:ks.length+1<scanBound)
  (h:∀b h',Heap.SameBut a s.heap h' -> SetI prog w h' a (addE ks k)->Q b { s with heap:=h' }) :
  wpAny (model prog w) A (setAddHashed a (.int k tk) (hashInt k)) Q E s:=by
 obtain⟨o,es,ep,t,g⟩:=hS;have hsz:=g.size;have hkey:(intKind prog w).is k (.int k tk)=true:=intKind_is _ _ _ _;unfold setAddHashed setAddHashedIn;refine wpAny_holding (wpAny_bind (wpAny_setState_of g.get g.dat g.fit ?_));dsimp only;rw[byScan_of (knd:=intKind prog w) rfl g.room g.el];simp only[↓reduceIte];unfold setAddByScan;refine wpAny_bind ?_;refine wpAny_bind (wpAny_rule ?_);refine wpAny_bind (wpAny_setScan_of (knd:=intKind prog w) (k:=k) hkey g.get g.dat g.fit g.el ?_);cases hr:List.findIdx? (λe=>(intKind prog w).is k e.2) es.toList with
 |some j=>
  dsimp only;obtain⟨hj,hpj,_⟩:=List.findIdx?_eq_some_iff_getElem.mp hr;have hk:k∈ks:=g.perm.mem_iff.mp ((Zl6 g.el).mp ⟨es.toList[j],Wa9 hj,hpj⟩);refine wpAny_pure (wpAny_pure ?_);have e:s = { s with heap:=s.heap }:=by cases s;rfl
  rw[e];refine h _ s.heap (Heap.SameBut.refl a s.heap) ?_;unfold addE;rw[if_pos hk];exact⟨o,es,ep,t,g⟩
 |none=>
  dsimp only;have hk:k ∉ ks:=λz=>by
   obtain⟨e,he,hp⟩:=(Zl6 g.el).mpr (g.perm.mem_iff.mpr z);have:=List.findIdx?_eq_none_iff.mp hr e he;rw[hp]at this;cases this
  have hgw:∀(b:Bool) {s₁:Shared}{Q':Unit->Shared->Prop},Q' () s₁ -> wpAny (model prog w) A (match b with|true=>rule "set.scan.the-table-gave-way" |false=>pure ()) Q' E s₁:=
   λb s₁ Q' hq=>by cases b <;> first|exact wpAny_pure hq|exact wpAny_rule hq
  have hperm:=layNew_perm t es (hashInt k) (.int k tk);have hfits:=layNew_fits t es (hashInt k) (.int k tk);have htab:=g.tab.layNew es (hashInt k) (.int k tk);generalize hL:layNew t es (hashInt k) (.int k tk)=L at hperm hfits htab ⊢;obtain⟨es1,t1,wasDummy,gave⟩:=L;dsimp only at hperm hfits htab ⊢;rw[Array.toList_push]at hperm;have hel1:ElemsOf (intKind prog w) es1.toList:=(g.el.push (k:=k) hkey rfl).perm hperm;have hsz1:es1.size=es.size+1:=by rw[<- Array.length_toList,hperm.length_eq,Wag,Array.length_toList];rfl
  have hb1:es1.size<scanBound:=by omega
  have hp1:(es1.toList.map λe=>numOf e.2).Perm (ks++[k]):=by
   refine(hperm.map _).trans ?_;rw[Wa6];exact List.Perm.append_right _ g.perm
  have hnd1:(ks++[k]).Nodup:=by
   rw[List.nodup_append];refine⟨g.nd,by simp,λa ha b hb e=>?_⟩;rw[Wa5.mp hb]at e;exact hk (e ▸ ha)
  have eadd:addE ks k=ks++[k]:=by unfold addE;rw[if_neg hk]
  refine wpAny_bind (hgw _ ?_);have tail:∀(Q2:Option Bool->Shared->Prop),(∀h',Heap.SameBut a s.heap h' -> SetI prog w h' a (ks++[k])->Q2 (some true) { s with heap:=h' })->∀(g0:Bool->Sem Unit),(∀(b:Bool) (s₁:Shared) (Q':Unit->Shared->Prop),Q' () s₁ -> wpAny (model prog w) A (g0 b) Q' E s₁) →
    wpAny (model prog w) A (do
     storeSet a es1 t1
     if (!wasDummy && t1.tooFull)=true then do
       g0 (relayAll t1 es1 (SetTable.grown es1.size)).2.2
       storeSet a (relayAll t1 es1 (SetTable.grown es1.size)).1 (relayAll t1 es1 (SetTable.grown es1.size)).2.1
       pure (some true)
      else pure (some true)) Q2 E s:=by
   intro Q2 hq g0 hg0;refine wpAny_bind (wpAny_storeSet_of g.get g.dat ?_ (fits_of_scanBound hb1));have g1:=g.store (es':=es1) (t':=t1) hel1 hb1 hfits htab hp1 hnd1;have sb1:=Heap.SameBut.update s.heap a (Obj.putSet es1 t1);split
   ·have hp:=relayAll_perm t1 es1 (SetTable.grown es1.size)
    have hfr:=relayAll_fits t1 es1 (SetTable.grown es1.size);have htr:=htab.relay es1 (SetTable.grown es1.size);generalize hRl:relayAll t1 es1 (SetTable.grown es1.size)=Rl at hp hfr htr ⊢;obtain⟨es2,t3,gave2⟩:=Rl;dsimp only at hp hfr htr ⊢;have hsz2:es2.size=es1.size:=by rw[<- Array.length_toList,hp.length_eq,Array.length_toList]
    refine wpAny_bind (hg0 _ _ _ ?_);refine wpAny_bind (wpAny_storeSet_of g1.get rfl ?_ (fits_of_scanBound (by omega)));have g2:=g1.store (es':=es2) (t':=t3) (hel1.perm hp) (by omega) hfr htr ((hp.map _).trans hp1) hnd1;exact wpAny_pure (hq _ (sb1.trans (Heap.SameBut.update _ a _)) ⟨_,_,_,_,g2⟩)
   ·exact wpAny_pure (hq _ sb1 ⟨_,_,_,_,g1⟩)
  have hgv:∀(b:Bool) (s₁:Shared) (Q':Unit->Shared->Prop),Q' () s₁ -> wpAny (model prog w) A (match b with|true=>rule "set.scan.the-table-gave-way" |false=>pure ()) Q' E s₁:=λb s₁ Q' hq=>hgw b hq;split
  ·refine wpAny_bind ?_
   rw[hashByValue_scannable 8 (x:=.int k tk) rfl];refine wpAny_pure ?_;simp only[plainKind,if_true];exact tail _ (λh' sb hS'=>by dsimp only;exact wpAny_pure (h _ h' sb (by rw[eadd];exact hS'))) _ hgv
  ·refine wpAny_bind (wpAny_pure ?_)
   simp only[↓reduceIte];exact tail _ (λh' sb hS'=>by dsimp only;exact wpAny_pure (h _ h' sb (by rw[eadd];exact hS'))) _ hgv
end
end
def metK (val:Nat->Int):Nat->List Int
 |0=>[]
 |i+1=>addE (metK val i) (val i)
theorem Zi6 (val:Nat->Int) (i:Nat):(metK val i).length<=i:=by
 induction i with
 |zero=>exact Waf _
 |succ i ih=>
  show (addE (metK val i) (val i)).length<=i+1;unfold addE;split
  ·omega
  ·rw[Wag,Wct];omega
theorem Znq {val:Nat->Int}{i:Nat}{x:Int}:x∈metK val i ↔ ∃j,j<i/\val j=x:=by
 induction i with
 |zero=>simp[metK]
 |succ i ih=>
  show x∈addE (metK val i) (val i)↔_;unfold addE;constructor
  ·intro h
   split at h
   ·obtain⟨j,hj,e⟩:=ih.mp h;exact⟨j,by omega,e⟩
   ·rcases Waz.mp h with h|h
    ·obtain⟨j,hj,e⟩:=ih.mp h;exact⟨j,by omega,e⟩
    ·exact⟨i,by omega,(Wa5.mp h).symm⟩
  ·rintro⟨j,hj,rfl⟩
   by_cases hji:j=i
   ·subst hji
    split
    ·assumption
    ·exact Wax _ (by simp)
   ·have:=ih.mpr ⟨j,by omega,rfl⟩
    split
    ·exact this
    ·exact Wbv _ this
section
variable {prog:Program}{w:World}{A:Around}{R:Result->Shared->Prop}{I:Addr}{fp wr:List Addr}{G:Array GenState->Array GenState->Prop}{n:Nat}{P:Nat->Value->Prop}{St:Nat->Shared->Prop}
theorem Zh4 (W:WalksS prog w A.in1 I fp wr G n P St) (S:Addr) (hSf:S ∉ fp)
  (val:Nat->Int) (hval:∀i v,P i v->∃t,v=.int (val i) t) (hb:n+1<scanBound) :
  ∀(k i:Nat) (s:Shared),n-i=k->i<=n->St i s->SetI prog w s.heap S (metK val i) →
   (∀s',Moved (S::wr) G s s' -> SetI prog w s'.heap S (metK val n)->R (.ok (.ret .none)) s') →
   codeAny (model prog w) A (.builtin "set.update.loop" ⟨[.ref S,.ref I],[]⟩) R s:=by
 have hSw:S ∉ wr:=λh=>hSf (W.sub _ h);have hsub:∀b∈wr,b∈S::wr:=λb hb=>Wat _ hb;intro k
 induction k with
 |zero=>
  intro i s hk hi hst hS hR;have hin:i=n:=by omega
  subst hin;refine codeAny_builtin F.entry_set_update_loop ?_;rw[Around.under_plainId F.plain_set_update_loop _];show wpAny _ A.in1 (pyNext (.ref I) >>= _) _ _ s;refine wpAny_bind (W.done s _ _ hst λs' hm=>?_);show wpAny _ A.in1 (ret Value.none) _ _ s';exact wpAny_pure (hR s' (hm.mono hsub) (hS.keep λo e=>hm.heap S o hSw e))
 |succ k ih=>
  intro i s hk hi hst hS hR;have hlt:i<n:=by omega
  refine codeAny_builtin F.entry_set_update_loop ?_;rw[Around.under_plainId F.plain_set_update_loop _];show wpAny _ A.in1 (pyNext (.ref I) >>= _) _ _ s;refine wpAny_bind (W.item i s _ _ hlt hst λv s' hP hst' hm=>?_);obtain⟨t,rfl⟩:=hval i v hP;have hS':SetI prog w s'.heap S (metK val i):=hS.keep λo e=>hm.heap S o hSw e;show wpAny _ A.in1 (holding [Value.int (val i) t] (setAdd S (.int (val i) t)) >>= _) _ _ s';refine wpAny_bind (wpAny_holding ?_);unfold setAdd;refine wpAny_holding ?_;refine wpAny_bind ((intKind prog w).pyHash (k:=val i) (intKind_is _ _ _ _) ?_);have hroom:(metK val i).length+1<scanBound:=by have:=Zi6 val i;omega
  refine Znj (s:={ s' with toks:=s'.toks+1 }) hS' hroom λb h' hsb hS2=>?_;refine wpAny_pure ⟨plainId_quiet F.plain_set_update_loop _,ih (i+1) _ (by omega) hlt (W.frame _ s' _ _ hst' (Wcn _) λb hb o e=>?_) hS2 λs'' hm'' hS''=>?_⟩
  ·rw[hsb.2 b (λh:b=S=>hSf (by rw[<- h];exact hb))];exact e
  ·refine hR s'' (Moved.trans W.gtrans ((hm.mono hsub).then_heap (Wcn _) λb o hb e=>?_) hm'') hS''
   rw[hsb.2 b (λh:b=S=>hb (by rw[h];exact Wau))];exact e
end
section
variable {prog:Program}{w:World}{A:Around}{E:Value->Shared->Prop}{s:Shared}
abbrev set0 (w:World):Obj:={ cls:=.type "set",dict:=none,data:=.set #[] 0 (.fresh 0 0 (!byTextB w)) }
theorem Znf (x:Value) {N:Value->Shared->Prop}(h:N (.ref s.heap.objs.size) { s with heap:=s.heap.push (set0 w) }) :
  codeAny (model prog w) A (.call (.builtin "set.__new__") ⟨[.type "set",x],[]⟩) (wants N E) s:=
 codeAny_of_tree (by
  have su:=sub_set_self;obtain⟨hp,g,d,tk,os⟩:=s;refine wpAny_bind (m:=checkBuiltinCall "set.__new__" ⟨[.type "set",x],[]⟩) (wpAny_of_eq (F.newCall_set_1 x) (wpAny_pure ⟨plainId_quiet F.plain_set_new _,codeAny_builtin F.entry_set_new ?_⟩));rw[Around.under_plainId F.plain_set_new _];unfold Builtin.«set.__new__» Builtin.Frozenset.newClass
  wp_walk
  refine wpAny_askSetting (wpAny_pure ?_);simp only[newObj];exact wpAny_bind (wpAny_alloc (wpAny_pure (wpAny_pure h))))
theorem Zls {S l:Addr}{its:Array Value}{ns:List Int}{N:Result->Shared->Prop}(hh:A.handled=none) (hS:s.heap.get? S=some (set0 w)) (hl:s.heap.IsList l its) (hi:IntsAre its.toList ns) (hb:its.size+1<scanBound)
  (q:∀h' tk,SetI prog w h' S (metK (λi=>ns.getD i 0) its.size)->(∀b o,b≠S->s.heap.get? b=some o->h'.get? b=some o)->N (.ok (.ret .none)) { s with heap:=h',toks:=tk }) :
  wpAny (model prog w) A.in1 (Builtin.«set.__init__» ⟨[.ref S,.ref l],[]⟩) (λfin s'=>match fin with|.done f=>N (.ok f) s'|.again c=>c.quiet=true/\codeAny (model prog w) A c N s') (λe s'=>N (.error e) s') s:=by
 have lS:l≠S:=by
  obtain⟨o,e,c,_⟩:=hl;intro z;subst z;rw[hS]at e;cases e;exact absurd (show Value.type "set" = Value.type "list" from c) (by decide)
 have lt:l<s.heap.objs.size:=by obtain⟨o,e,_⟩:=hl;exact Wak e
 have ltS:S<s.heap.objs.size:=Wak hS;obtain⟨⟨c0,d0,dt0,sl0⟩,e0,hc0,n0,hd0⟩:=id hl;simp only at hc0 hd0;subst hc0 hd0;have hT:s.TypeIs (.ref S) "set":=⟨_,hS,rfl⟩;have k1:=F.sub_list_set;have k2:=F.sub_list_frozenset;have k3:(Value.type "list" == Value.type "dict")=false:=by decide
 unfold Builtin.«set.__init__» noKeywords Builtin.Frozenset.updateFrom;generalize hPI:pyIter=PI
 wp_walk
 subst hPI;refine wpAny_pyIter_list hl (wpAny_bind (wpAny_runValue ?_));have ne1:l≠s.heap.objs.size:=War lt;have ne2:S ∉ [s.heap.objs.size,l]:=by
  simp only[Wan,Waq,or_false,not_or];exact⟨War ltS,Ne.symm lS⟩
 refine Zh4 (Walks.list (by simp[hh]) _ l ne1 its).toS S ne2 (λi=>ns.getD i 0) (λi v e=>IntsAre.int_at hi i v (by rw[Array.getElem?_toList];exact e)) hb its.size 0 _ (by omega) (Wbq _) ⟨⟨_,Wal _ rfl,rfl,rfl⟩,hl.push _⟩ ?_ λs2 mv fin=>?_
 ·exact⟨_,#[],0,_,Waa _ hS,⟨rfl,rfl,rfl⟩,rfl,λe he=>by simp at he,by decide,by rfl,TabOk.fresh _,List.Perm.refl _,List.nodup_nil⟩
 ·rw[Moved.eq_with mv]
  refine wpAny_pure (wpAny_pure (q _ _ fin λb o hb e=>mv.heap b o ?_ (Waa _ e)));simp only[Wan,Waq,or_false,not_or];exact⟨hb,War (Wak e)⟩
set_option maxHeartbeats 3200000 in
theorem Zk6 {l:Addr}{its:Array Value}{ns:List Int}{Q:Value->Shared->Prop}(hh:A.handled=none) (hl:s.heap.IsList l its) (hi:IntsAre its.toList ns) (hb:its.size+1<scanBound)
  (q:∀(h':Heap) (tk:Nat),SetI prog w h' s.heap.objs.size (metK (λi=>ns.getD i 0) its.size)->(∀b o,s.heap.get? b=some o->h'.get? b=some o)->Q (.ref s.heap.objs.size) { s with heap:=h',toks:=tk }) :
  wpAny (model prog w) A (call (.type "set") [.ref l]) Q E s:=by
 have ft:=F.called_set;obtain⟨c,tl,e1⟩:=ft.mro;have e2:=ft.made;have e3:=ft.sub;have e4:=ft.notType;have e5:=ft.canCreate;have e6:=F.typeCall_set_1 (.ref l);refine wpAny_call (codeAny_of_tree (show wpAny _ _ (callAny (.type "set") _) _ _ _ from wpAny_pure ⟨Code.quiet_builtin _ (by decide +kernel),codeAny_builtin F.entry_type_call ?_⟩));rw[Around.under_plain (weight_type_call_type _ _ _) rfl]
 repeat (any_goals (first|assumption|wp_step))
 refine codeAny_mono (Znf (.ref l) (E:=E) (N:=λv s1=>v=.ref s.heap.objs.size/\s1 = { s with heap:=s.heap.push (set0 w) }) ⟨rfl,rfl⟩) λr s1 hr=>?_;cases r with
 |error e=>exact hr
 |ok fl=>
  cases fl with
  |ret v=>
   obtain⟨rfl,rfl⟩:=hr;have hS:(s.heap.push (set0 w)).get? s.heap.objs.size=some (set0 w):=Wal _ rfl;have hT:Shared.TypeIs { s with heap:=s.heap.push (set0 w) } (.ref s.heap.objs.size) "set":=⟨_,hS,rfl⟩;have f1:=ft.init.lookup;have f2:=ft.init.bind (.ref s.heap.objs.size)
   repeat (any_goals (first|assumption|wp_step))
   refine codeAny_mono (codeAny_call_builtin (R:=wants (λr s2=>r=.none/\Q (.ref s.heap.objs.size) s2) E) ft.init.plain F.entry_set_init (check_set_init_1 hT (Zls (by simp[hh]) hS (hl.push _) hi hb λh' tk z1 z2=>⟨rfl,q h' tk z1 λb o e=>z2 b o (War (Wak e)) (Waa _ e)⟩))) λr2 s2 hr2=>?_;cases r2 with
   |error e=>exact hr2
   |ok fl2=>
    cases fl2 with
    |ret r=>
     obtain⟨rfl,hq⟩:=hr2
     repeat (any_goals (first|assumption|wp_step))
    |_=>exact hr2.elim
  |_=>exact hr.elim
end
end L2
namespace L2
open PySem PySem.Spec PyProof.Rows PySem.SeqAt
theorem Za0:PySem.Slot "set_iterator" "__next__" "set_iterator.__next__":=
 .of (owner:="set_iterator") (n:="__next__") (by rw[typeLookup_type,builtinLookup_eq_fast];kernel_rfl) (by decide +kernel) (by decide +kernel) (by decide +kernel)
  (by first|exact .inl (by decide +kernel)|exact .inr (by decide +kernel)) (by rw[isSubtype_type];kernel_rfl)
theorem Zbx:entryFor table "set_iterator.__next__" = some Builtin.«set_iterator.__next__»:=entryFor_of_tree (by kernel_rfl)
theorem Zf0:entryFor table "set.__iter__" = some Builtin.«frozenset.__iter__»:=entryFor_alias (id':="frozenset.__iter__") (by kernel_rfl) rfl (by decide +kernel) (by kernel_rfl)
theorem Zb5 (a:Value):argsOk "set_iterator.__next__" ⟨[a],[]⟩:=by
 unfold argsOk;kernel_rfl
abbrev setItO (first:Value) (i:Nat) (a:Addr) (n ep:Nat):Obj:={ cls:=.type "set_iterator",dict:=none,data:=.fields #[first,.int i 0,.ref a,.int n 0,.int ep 0],slots:=#[] }
section
variable {prog:Program}{w:World}{A:Around}{E:Value->Shared->Prop}{s:Shared}
theorem Zjx {I a:Addr}{slot i next:Nat}{x:Value}{o:Obj}{es:Array (Int × Value)}{ep:Nat}{t:SetTable}{ks:List Int}{Q:Option Value->Shared->Prop}(hI:s.heap.get? I=some (setItO (.int slot 0) i a es.size ep)) (g:SetG prog w s.heap a o es ep t ks)
  (hn:∀(A:Around) (E:Value->Shared->Prop) (Q':Option (Value × Nat)->Shared->Prop),Q' (some (x,next)) s->wpAny (model prog w) A (setNext a slot i ep) Q' E s)
  (q:∀h',h'.get? I=some (setItO (.int next 0) (i+1) a es.size ep)->Heap.SameBut I s.heap h' -> Q (some x) { s with heap:=h' }):wpAny (model prog w) A (pyNext (.ref I)) Q E s:=by
 have hT:s.TypeIs (.ref I) "set_iterator":=⟨_,hI,rfl⟩;unfold pyNext;refine wpAny_bind (wpAny_attempt (wpAny_callSpecial?_slot (name:=Str.ofString "__next__") hT Za0 (wpAny_call_entry Za0 hT Zbx ?_ (Zb5 _))));refine wpAny_bind (wpAny_pure ?_);refine wpAny_bind (wpAny_fieldsOf hI rfl ?_);refine wpAny_bind (wpAny_setEntries_of g.get g.dat g.fit ?_);rw[if_neg (by simp)];refine wpAny_bind (hn _ _ _ ?_);refine wpAny_bind (wpAny_setField_rec hI (by simp) λh1 e1 sb1=>?_);refine wpAny_bind (wpAny_setField_rec (s:={ s with heap:=h1 }) e1 (by simp) λh2 e2 sb2=>?_);exact wpAny_pure ⟨_,rfl,wpAny_pure (q h2 (by rw[e2];rfl) (sb1.trans sb2))⟩
theorem Zjp {I a:Addr}{slot i:Nat}{o:Obj}{es:Array (Int × Value)}{ep:Nat}{t:SetTable}{ks:List Int}{Q:Option Value->Shared->Prop}(hh:A.handled=none) (hI:s.heap.get? I=some (setItO (.int slot 0) i a es.size ep)) (g:SetG prog w s.heap a o es ep t ks)
  (hn:∀(A:Around) (E:Value->Shared->Prop) (Q':Option (Value × Nat)->Shared->Prop),Q' none s->wpAny (model prog w) A (setNext a slot i ep) Q' E s)
  (q:∀h',Heap.ExtBut I s.heap h' -> Q none { s with heap:=h' }):wpAny (model prog w) A (pyNext (.ref I)) Q E s:=by
 have hT:s.TypeIs (.ref I) "set_iterator":=⟨_,hI,rfl⟩;unfold pyNext;refine wpAny_bind (wpAny_attempt (wpAny_callSpecial?_slot (name:=Str.ofString "__next__") hT Za0 (wpAny_call_entry Za0 hT Zbx ?_ (Zb5 _))));refine wpAny_bind (wpAny_pure ?_);refine wpAny_bind (wpAny_fieldsOf hI rfl ?_);refine wpAny_bind (wpAny_setEntries_of g.get g.dat g.fit ?_);rw[if_neg (by simp)];refine wpAny_bind (hn _ _ _ ?_);refine wpAny_bind (wpAny_setField_rec hI (by simp) λh1 e1 sb1=>wpAny_bind ?_);simp only[newExc,newTuple];refine wpAny_bind (wpAny_newObj_type ?_ (by size_fits));refine wpAny_bind (m:=firstArgMember _ _) (wpAny_of_eq (a:=Value.none) (by first|rfl|(simp only[firstArgMember];rfl)) ?_);refine wpAny_newObj_type ?_ (by size_fits);simp only[raiseNew];refine wpAny_bind (wpAny_handled ?_);rw[show A.in1.handled=none from hh];refine wpAny_bind (wpAny_pure (wpAny_throw ?_));refine wpAny_bind (wpAny_isInstance (T:="StopIteration") (b:=true) ⟨_,Wal _ rfl,rfl⟩ isSubtype_stop ?_);exact wpAny_pure (q _ ((sb1.extBut.push _).push _))
theorem Zid {I a T:Addr}{i k:Nat}{e:Int × Value}{o:Obj}{es:Array (Int × Value)}{ep:Nat}{t:SetTable}{ks:List Int}{pl:List Nat}{Q:Option Value->Shared->Prop}(hI:s.heap.get? I=some (setItO (.ref T) i a es.size ep)) (g:SetG prog w s.heap a o es ep t ks)
  (hT:s.heap.get? T=some { cls:=.type "tuple",data:=.seq (pl.map λj:Nat=>rawInt (j:Int)).toArray }) (hk:pl[i]?=some k) (he:es[k]?=some e)
  (q:∀h',h'.get? I=some (setItO (.ref T) (i+1) a es.size ep)->Heap.SameBut I s.heap h' -> Q (some e.2) { s with heap:=h' }):wpAny (model prog w) A (pyNext (.ref I)) Q E s:=by
 have hTy:s.TypeIs (.ref I) "set_iterator":=⟨_,hI,rfl⟩;unfold pyNext;refine wpAny_bind (wpAny_attempt (wpAny_callSpecial?_slot (name:=Str.ofString "__next__") hTy Za0 (wpAny_call_entry Za0 hTy Zbx ?_ (Zb5 _))));refine wpAny_bind (wpAny_pure ?_);refine wpAny_bind (wpAny_fieldsOf hI rfl ?_);refine wpAny_bind (wpAny_setEntries_of g.get g.dat g.fit ?_);rw[if_neg (by simp)];refine wpAny_bind (wpAny_seqItems hT rfl ?_);have e1:(pl.map λj:Nat=>rawInt (j:Int)).toArray[(i:Int).toNat]?=some (.int (k:Int) 0):=by
  rw[Wao,Wcu,Wad,hk];rfl
 dsimp only;rw[e1];dsimp only;unfold setNextDrawn;refine wpAny_bind (wpAny_bind (wpAny_setState_of g.get g.dat g.fit ?_));dsimp only;rw[if_neg (by simp)];rw[show es[(k:Int).toNat]?=some e from by rw[Wao];exact he];obtain⟨e1,e2⟩:=e;refine wpAny_pure ?_;refine wpAny_bind (wpAny_setField_rec hI (by simp) λh2 e2' sb2=>?_);exact wpAny_pure ⟨_,rfl,wpAny_pure (q h2 (by rw[e2'];rfl) sb2)⟩
theorem Zf2 {I a T:Addr}{i:Nat}{o:Obj}{es:Array (Int × Value)}{ep:Nat}{t:SetTable}{ks:List Int}{pl:List Nat}{Q:Option Value->Shared->Prop}(hh:A.handled=none) (hI:s.heap.get? I=some (setItO (.ref T) i a es.size ep)) (g:SetG prog w s.heap a o es ep t ks)
  (hT:s.heap.get? T=some { cls:=.type "tuple",data:=.seq (pl.map λj:Nat=>rawInt (j:Int)).toArray }) (hk:pl[i]?=none)
  (q:∀h',Heap.ExtBut I s.heap h' -> Q none { s with heap:=h' }):wpAny (model prog w) A (pyNext (.ref I)) Q E s:=by
 have hTy:s.TypeIs (.ref I) "set_iterator":=⟨_,hI,rfl⟩;unfold pyNext;refine wpAny_bind (wpAny_attempt (wpAny_callSpecial?_slot (name:=Str.ofString "__next__") hTy Za0 (wpAny_call_entry Za0 hTy Zbx ?_ (Zb5 _))));refine wpAny_bind (wpAny_pure ?_);refine wpAny_bind (wpAny_fieldsOf hI rfl ?_);refine wpAny_bind (wpAny_setEntries_of g.get g.dat g.fit ?_);rw[if_neg (by simp)];refine wpAny_bind (wpAny_seqItems hT rfl ?_);have e1:(pl.map λj:Nat=>rawInt (j:Int)).toArray[(i:Int).toNat]?=none:=by
  rw[Wao,Wcu,Wad,hk];rfl
 dsimp only;rw[e1];dsimp only;refine wpAny_bind (wpAny_setField_rec hI (by simp) λh1 e1 sb1=>?_);refine wpAny_bind (wpAny_setField_rec (s:={ s with heap:=h1 }) e1 (by simp) λh2 e2 sb2=>wpAny_bind ?_);simp only[newExc,newTuple];refine wpAny_bind (wpAny_newObj_type ?_ (by size_fits));refine wpAny_bind (m:=firstArgMember _ _) (wpAny_of_eq (a:=Value.none) (by first|rfl|(simp only[firstArgMember];rfl)) ?_);refine wpAny_newObj_type ?_ (by size_fits);simp only[raiseNew];refine wpAny_bind (wpAny_handled ?_);rw[show A.in1.handled=none from hh];refine wpAny_bind (wpAny_pure (wpAny_throw ?_));refine wpAny_bind (wpAny_isInstance (T:="StopIteration") (b:=true) ⟨_,Wal _ rfl,rfl⟩ isSubtype_stop ?_);exact wpAny_pure (q _ (((sb1.trans sb2).extBut.push _).push _))
theorem Zf3 (a:Addr) (slot given ep:Nat):setNext a slot given ep=(do
  let (es,epoch,t) ← setState a
  if ← setsByText then
   if epoch != ep then unsupported "set_iterator.__next__:elements-changed"
   return ((← setWalk a)[given]?).map λe=>(e.2,slot)
  if !t.plain && es.size > 1 then unsupported "set_iterator.__next__:the-table-is-plain-no-more"
  let _ ← (if !t.led && !es.isEmpty then unsupported "set:maker-not-led" else pure ():Sem Unit)
  let i:=SetTable.below t.place slot
  return match es[i]?,t.place[i]? with
   |some (_,x),some j=>some (x,j+1)
   |_,_=>none):=rfl
theorem Zjs (a:Addr):setWalk a=(do
  let (es,epoch,t) ← setState a
  if ← setsByText then return pickOrder ((← ask).params.setOrder a epoch) es
  if !t.plain && es.size > 1 then return (← drawOrder es.size es.toList).toArray
  let _ ← (if !t.led && es.size > 1 then unsupported "set:maker-not-led" else pure ():Sem Unit)
  return es):=rfl
theorem Zib (a:Addr):setDrawn a=(do
  let (es,_,t) ← setState a
  let byText ← setsByText
  return !byText && (!t.plain && es.size > 1)):=rfl
end
end L2
namespace L2
open PySem PySem.Spec PyProof.Rows PySem.SeqAt
theorem Zdk:PySem.Slot "set_iterator" "__iter__" "set_iterator.__iter__":=
 .of (owner:="set_iterator") (n:="__iter__") (by rw[typeLookup_type,builtinLookup_eq_fast];kernel_rfl) (by decide +kernel) (by decide +kernel) (by decide +kernel)
  (by first|exact .inl (by decide +kernel)|exact .inr (by decide +kernel)) (by rw[isSubtype_type];kernel_rfl)
theorem Ze2:entryFor table "set_iterator.__iter__" = some Builtin.«dict_keyiterator.__iter__»:=entryFor_alias (id':="dict_keyiterator.__iter__") (by kernel_rfl) rfl (by decide +kernel) (by kernel_rfl)
theorem Zfv (a:Value):argsOk "set_iterator.__iter__" ⟨[a],[]⟩:=by unfold argsOk;kernel_rfl
section
variable {prog:Program}{w:World}{A:Around}{E:Value->Shared->Prop}{s:Shared}
theorem Zf8 {I:Addr}{first:Value}{i n ep:Nat}{a:Addr}{Q:Value->Shared->Prop}(hI:s.heap.get? I=some (setItO first i a n ep)) (q:Q (.ref I) s):wpAny (model prog w) A (pyIter (.ref I)) Q E s:=by
 have hT:s.TypeIs (.ref I) "set_iterator":=⟨_,hI,rfl⟩;refine wpAny_pyIter_slot hT Zdk (wpAny_call_entry Zdk hT Ze2 ?_ (Zfv _));show wpAny _ _ (ret (.ref I)) _ _ s;exact wpAny_pure ⟨_,rfl,"set_iterator",_,hT,Za0.lookup,q⟩
theorem Zd5 {Q:Bool->Shared->Prop}(q:Q (byTextB w) s):wpAny (model prog w) A setsByText Q E s:=by
 unfold setsByText;exact wpAny_bind (wpAny_askSetting (wpAny_pure q))
theorem Zhv {a:Addr}{slot given ep:Nat}{o:Obj}{es:Array (Int × Value)}{t:SetTable}{ks:List Int}{Q:Option (Value × Nat)->Shared->Prop}(hb:byTextB w=true) (g:SetG prog w s.heap a o es ep t ks)
  (q:Q (((pickOrder (w.params.setOrder a ep) es)[given]?).map λe=>(e.2,slot)) s):wpAny (model prog w) A (setNext a slot given ep) Q E s:=by
 rw[Zf3];refine wpAny_bind (wpAny_setState_of g.get g.dat g.fit (wpAny_bind (Zd5 ?_)));rw[hb];simp only[if_true];rw[if_neg (by simp),Zjs];refine wpAny_bind (wpAny_bind (wpAny_setState_of g.get g.dat g.fit (wpAny_bind (Zd5 ?_))));rw[hb];simp only[if_true];exact wpAny_bind (wpAny_askSetting (wpAny_pure (wpAny_pure q)))
theorem Zgg {a:Addr}{slot given ep:Nat}{o:Obj}{es:Array (Int × Value)}{t:SetTable}{ks:List Int}{Q:Option (Value × Nat)->Shared->Prop}(hb:byTextB w=false) (g:SetG prog w s.heap a o es ep t ks) (hd:(!t.plain && decide (es.size > 1))=false)
  (q:Q (match es[SetTable.below t.place slot]?,t.place[SetTable.below t.place slot]? with|some (_,x),some j=>some (x,j+1)|_,_=>none) s):wpAny (model prog w) A (setNext a slot given ep) Q E s:=by
 have hl:t.led=true:=by rw[g.tab.led,hb];rfl
 rw[Zf3];refine wpAny_bind (wpAny_setState_of g.get g.dat g.fit (wpAny_bind (Zd5 ?_)));rw[hb];simp only[Wbs,if_false,hd,hl,Bool.not_true,Bool.false_and];exact wpAny_bind (wpAny_pure (wpAny_pure q))
theorem Zen {α:Type}:∀{l:List α}{i:Nat}(h:i<l.length),(l[i]::l.eraseIdx i).Perm l
 |x::l,0,_=>List.Perm.refl _
 |x::l,i+1,h=>by
  have h':i<l.length:=by simpa using h
  show (l[i]::x::l.eraseIdx i).Perm (x::l);exact(List.Perm.swap _ _ _).trans (List.Perm.cons _ (Zen h'))
theorem Zkq {α:Type}(next:Nat->Nat):∀(fuel k:Nat) (left:List α) (out:Array α),left.length=fuel->(pickOrder.go next fuel k left out).toList.Perm (out.toList++left)
 |0,k,left,out,h=>by
  have:left=[]:=Wbe h;subst this;unfold pickOrder.go;rw[Wbh]
 |fuel+1,k,left,out,h=>by
  unfold pickOrder.go;have hi:next k % left.length<left.length:=Nat.mod_lt _ (by omega)
  rw[Wac hi];dsimp only;refine(Zkq next fuel (k+1) _ _ (by rw[List.length_eraseIdx_of_lt hi];omega)).trans ?_;rw[Array.toList_push,List.append_assoc];refine List.Perm.append_left _ ?_;exact Zen hi
theorem Zkw {α:Type}(next:Nat->Nat) (xs:Array α):(pickOrder next xs).toList.Perm xs.toList:=by
 unfold pickOrder;exact Zkq next xs.size 0 xs.toList #[] (by simp)
def slotAt (pl:Array Nat):Nat->Nat
 |0=>0
 |j+1=>pl.getD j 0+1
theorem Zet {pl:Array Nat}(R:Ris pl) {j:Nat}(hj:j<=pl.size):SetTable.below pl (slotAt pl j)=j:=by
 obtain⟨b1,b2,b3⟩:=Zge R (slotAt pl j);cases j with
 |zero=>
  apply Classical.byContradiction;intro h;have hlt:0<pl.size:=by omega
  have:=b2 0 _ (by omega) (Array.getElem?_eq_getElem hlt);exact absurd this (by show ¬ _<0;omega)
 |succ j=>
  have hlt:j<pl.size:=by omega
  have hg:pl.getD j 0=pl[j]:=by simp[Array.getD,hlt]
  have es:slotAt pl (j+1)=pl[j]+1:=by show pl.getD j 0+1=_;rw[hg]
  rw[es]at b1 b2 b3 ⊢;rcases Nat.lt_trichotomy (SetTable.below pl (pl[j]+1)) (j+1) with z|z|z
  ·have:=b3 j _ (by omega) (Array.getElem?_eq_getElem hlt)
   omega
  ·exact z
  ·have hlt2:j+1<pl.size:=by omega
   have h1:=b2 (j+1) _ z (Array.getElem?_eq_getElem hlt2);have h2:=R j (j+1) _ _ (by omega) (Array.getElem?_eq_getElem hlt) (Array.getElem?_eq_getElem hlt2);omega
theorem SetG.keep {h h':Heap}{a:Addr}{o:Obj}{es:Array (Int × Value)}{ep:Nat}{t:SetTable}{ks:List Int}(g:SetG prog w h a o es ep t ks) (k:∀o,h.get? a=some o->h'.get? a=some o):SetG prog w h' a o es ep t ks:=
 ⟨k _ g.get,g.ex,g.dat,g.el,g.room,g.fit,g.tab,g.perm,g.nd⟩
theorem Zf7 (hh:A.handled=none) {I a:Addr}(hne:a≠I) {o:Obj}{es:Array (Int × Value)}{ep:Nat}{t:SetTable}{ks:List Int}(sl:Nat->Nat) (L:List (Int × Value))
  (hs:∀(s:Shared) j e,SetG prog w s.heap a o es ep t ks->L[j]?=some e->∀(A:Around) (E:Value->Shared->Prop) (Q':Option (Value × Nat)->Shared->Prop),Q' (some (e.2,sl (j+1))) s->wpAny (model prog w) A (setNext a (sl j) j ep) Q' E s)
  (hd:∀(s:Shared),SetG prog w s.heap a o es ep t ks->∀(A:Around) (E:Value->Shared->Prop) (Q':Option (Value × Nat)->Shared->Prop),Q' none s->wpAny (model prog w) A (setNext a (sl L.length) L.length ep) Q' E s) :
  Walks prog w A I [I,a] [I] L.length (λj v=>∃e,L[j]?=some e/\v=e.2) (λj h=>h.get? I=some (setItO (.int (sl j) 0) j a es.size ep)/\SetG prog w h a o es ep t ks) where
 sub:=λb hb=>by simp at hb;simp[hb]
 frame:=λ_ _ _ st hk=>⟨hk I (by simp) _ st.1,st.2.keep λo e=>hk a (by simp) o e⟩
 item:=λi s Q E hi st hQ=>by
  refine Zjx st.1 st.2 (hs s i _ st.2 (Wac hi)) λh' e sb=>?_;refine hQ _ h' s.toks ⟨_,Wac hi,rfl⟩ ⟨e,st.2.keep λo q=>(sb.2 a hne).trans q⟩ λb o hb q=>(sb.2 b (λz=>hb (by simp[z]))).trans q
 done:=λs Q E st hQ=>Zjp hh st.1 st.2 (hd s st.2) λh' eb=>hQ h' s.toks λb o hb e=>eb b o (λz=>hb (by simp[z])) e
 self:=λ_ _ _ _ st hQ=>Zf8 st.1 hQ
theorem Ziq (hh:A.handled=none) {I a T:Addr}(hne:a≠I) (hnt:T≠I) {o:Obj}{es:Array (Int × Value)}{ep:Nat}{t:SetTable}{ks:List Int}(pl:List Nat) (L:List (Int × Value)) (hl:L.length=pl.length) (hs:∀(j k:Nat) e,pl[j]?=some k->L[j]?=some e->es[k]?=some e) :
  Walks prog w A I [I,a,T] [I] L.length (λj v=>∃e,L[j]?=some e/\v=e.2) (λj h=>h.get? I=some (setItO (.ref T) j a es.size ep)/\SetG prog w h a o es ep t ks/\h.get? T=some { cls:=.type "tuple",data:=.seq (pl.map λj:Nat=>rawInt (j:Int)).toArray }) where
 sub:=λb hb=>by simp at hb;simp[hb]
 frame:=λ_ _ _ st hk=>⟨hk I (by simp) _ st.1,st.2.1.keep λo e=>hk a (by simp) o e,hk T (by simp) _ st.2.2⟩
 item:=λi s Q E hi st hQ=>by
  have hp:i<pl.length:=by omega
  refine Zid st.1 st.2.1 st.2.2 (Wac hp) (hs i _ _ (Wac hp) (Wac hi)) λh' e sb=>?_;refine hQ _ h' s.toks ⟨_,Wac hi,rfl⟩ ⟨e,st.2.1.keep λo q=>(sb.2 a hne).trans q,(sb.2 T hnt).trans st.2.2⟩ λb o hb q=>(sb.2 b (λz=>hb (by simp[z]))).trans q
 done:=λs Q E st hQ=>Zf2 hh st.1 st.2.1 st.2.2 (Wch (by omega)) λh' eb=>hQ h' s.toks λb o hb e=>eb b o (λz=>hb (by simp[z])) e
 self:=λ_ _ _ _ st hQ=>Zf8 st.1 hQ
theorem Zlb {src:Source}{n:Nat}{Q:Nat->Shared->Prop}(hn:n≠0) (q:∀k dr,k<n->Q k { s with drawn:=dr }):wpAny (model prog w) A (choose src n) Q E s:=by
 intro Γ p _;unfold choose;rw[Sem.wp_choose];refine⟨hn,?_⟩;show Sem.wp _ _ (Sem.pure _) _ _ _ _
 first|rw[Sem.wp_pure]|simp only[Sem.wp]
 exact q _ _ (Nat.mod_lt _ (Nat.pos_of_ne_zero hn))
theorem Zk7:∀(n:Nat) {s:Shared}{xs:List Nat}{Q:List Nat->Shared->Prop},xs.length=n->(∀ys dr,ys.Perm xs->Q ys { s with drawn:=dr })->wpAny (model prog w) A (drawOrder n xs) Q E s
 |0,s,xs,Q,h,q=>by
  have:xs=[]:=Wbe h;subst this;unfold drawOrder;exact wpAny_pure (q [] s.drawn (List.Perm.refl _))
 |n+1,s,[],Q,h,q=>by simp at h
 |n+1,s,x::xs,Q,h,q=>by
  unfold drawOrder;refine wpAny_bind (Zlb (by simp) λk dr hk=>?_);rw[Wac hk];refine wpAny_bind (Zk7 n (by rw[List.length_eraseIdx_of_lt hk];omega) λys dr' hy=>wpAny_pure (q _ dr' ?_));exact(List.Perm.cons _ hy).trans (Zen hk)
end
end L2
namespace L2
open PySem PySem.Spec PyProof.Rows PySem.SeqAt
section
variable {prog:Program}{w:World}{A:Around}{E:Value->Shared->Prop}{s:Shared}
structure SWalk (prog:Program) (w:World) (A:Around) (a:Addr) (es:Array (Int × Value)) (s s1:Shared) (I:Addr) where
 fp:List Addr
 L:List (Int × Value)
 St:Nat->Heap->Prop
 old:∀b o,s.heap.get? b=some o->s1.heap.get? b=some o
 new:s.heap.objs.size<=I
 fpo:∀b∈fp,b=a\/s.heap.objs.size<=b
 perm:L.Perm es.toList
 W:Walks prog w A I fp [I] L.length (λj v=>∃e,L[j]?=some e/\v=e.2) St
 st:St 0 s1.heap
theorem Zj1 (es:Array (Int × Value)):(Wa4 es.size).map (λk=>es.getD k (0,.none))=es.toList:=by
 apply List.ext_getElem
 ·simp
 ·intro i h1 h2
  simp only[List.getElem_map,List.getElem_range,Array.getElem_toList];simp only[Array.length_toList]at h2;simp[Array.getD,h2]
theorem set_iter {a:Addr}{o:Obj}{es:Array (Int × Value)}{ep:Nat}{t:SetTable}{ks:List Int}{Q:Value->Shared->Prop}(hh:A.handled=none) (g:SetG prog w s.heap a o es ep t ks)
  (q:∀(h1:Heap) dr (I:Addr),Nonempty (SWalk prog w A a es s { s with heap:=h1,drawn:=dr } I)->Q (.ref I) { s with heap:=h1,drawn:=dr }):wpAny (model prog w) A (pyIter (.ref a)) Q E s:=by
 have hT:s.TypeIs (.ref a) "set":=⟨o,g.get,g.ex.1⟩;have hlt:a<s.heap.objs.size:=Wak g.get;have hne1:a≠s.heap.objs.size:=War hlt;have hne2:a≠s.heap.objs.size+1:=War (Wbp hlt);have hroom:es.size<=sizeLine:=by
  have:=g.room;rw[sizeLine_eq];unfold scanBound at this;omega
 refine wpAny_pyIter_slot hT F.slot_set_iter (wpAny_call_entry F.slot_set_iter hT Zf0 ?_ (F.args_set_iter_1 _));unfold Builtin.«frozenset.__iter__» Builtin.Frozenset.slot0 slotArgs;simp only[List.isEmpty_nil,Bool.not_true,Wbs,↓reduceIte,bind_assoc,List.length_nil,bne_self_eq_false];unfold Builtin.Frozenset.addrOf Builtin.Frozenset.sizeOf;refine wpAny_bind (wpAny_pure ?_)
 try dsimp only
 refine wpAny_bind (wpAny_pure ?_);refine wpAny_bind (wpAny_bind (wpAny_setEntries_of g.get g.dat g.fit (wpAny_pure ?_)));rw[Zib];refine wpAny_bind (wpAny_bind (wpAny_setState_of g.get g.dat g.fit (wpAny_bind (Zd5 (wpAny_pure ?_)))));by_cases hd:(!byTextB w && (!t.plain && decide (es.size > 1)))=true
 ·have hd2:=hd
  rw[if_pos hd];refine wpAny_bind (Zk7 es.size (by simp) λys dr hy=>?_);have hyl:=hy.length_eq;rw[Wcg]at hyl;refine wpAny_bind (wpAny_newTuple ?_ (by rw[Wab,hyl];exact hroom));have g1:=g.keep (h':=s.heap.push (seqObj "tuple" (ys.map λi:Nat=>rawInt (i:Int)).toArray 0)) λo e=>Waa _ e;refine wpAny_bind (wpAny_setEpoch_of g1.get g1.dat g1.fit ?_);refine wpAny_bind (wpAny_newObj_type ?_ (by size_fits));have hsz:(s.heap.push (seqObj "tuple" (ys.map λi:Nat=>rawInt (i:Int)).toArray 0)).objs.size=s.heap.objs.size+1:=size_push' _ _;have hI:((s.heap.push (seqObj "tuple" (ys.map λi:Nat=>rawInt (i:Int)).toArray 0)).push (setItO (.ref s.heap.objs.size) 0 a es.size ep)).get? (s.heap.objs.size+1)=some (setItO (.ref s.heap.objs.size) 0 a es.size ep):=by
   rw[<- hsz];exact Wal _ rfl
  have hTu:((s.heap.push (seqObj "tuple" (ys.map λi:Nat=>rawInt (i:Int)).toArray 0)).push (setItO (.ref s.heap.objs.size) 0 a es.size ep)).get? s.heap.objs.size=some { cls:=.type "tuple",data:=.seq (ys.map λj:Nat=>rawInt (j:Int)).toArray }:=
   Waa _ (Wal _ rfl)
  show wpAny _ _ (ret (.ref (s.heap.push (seqObj "tuple" (ys.map λi:Nat=>rawInt (i:Int)).toArray 0)).objs.size)) _ _ { s with heap:=(s.heap.push (seqObj "tuple" (ys.map λi:Nat=>rawInt (i:Int)).toArray 0)).push (setItO (.ref s.heap.objs.size) 0 a es.size ep),drawn:=dr };rw[hsz];refine wpAny_pure ⟨_,rfl,"set_iterator",_,⟨_,hI,rfl⟩,Za0.lookup,?_⟩;have hin:∀k∈ys,k<es.size:=λk hk=>Wbm.mp (hy.mem_iff.mp hk);have hL:(ys.map λk=>es.getD k (0,.none)).length=ys.length:=Wab _;refine q _ dr (s.heap.objs.size+1) ⟨⟨[s.heap.objs.size+1,a,s.heap.objs.size],ys.map λk=>es.getD k (0,.none),_,λb o e=>Waa _ (Waa _ e),Wcn _,?_,?_,Ziq hh hne2 (War (Nat.lt_succ_self _)) ys _ hL ?_,hI,g1.keep λo e=>Waa _ e,hTu⟩⟩
  ·intro b hb
   simp only[Wan,Waq,or_false]at hb;rcases hb with h|h|h
   ·exact .inr (by rw[h];exact Wcn _)
   ·exact .inl h
   ·exact .inr (Nat.le_of_eq h.symm)
  ·exact(hy.map _).trans (List.Perm.of_eq (Zj1 es))
  ·intro j k e h1 h2
   rw[Wad,h1]at h2;cases h2;have:=hin k (Wah h1);simp[Array.getD,this]
 ·rw[if_neg hd]
  refine wpAny_bind (wpAny_pure ?_);refine wpAny_bind (wpAny_setEpoch_of g.get g.dat g.fit ?_);refine wpAny_bind (wpAny_newObj_type ?_ (by size_fits));have hI:(s.heap.push (setItO (.int 0 0) 0 a es.size ep)).get? s.heap.objs.size=some (setItO (.int 0 0) 0 a es.size ep):=Wal _ rfl;refine wpAny_pure ⟨_,rfl,"set_iterator",_,⟨_,hI,rfl⟩,Za0.lookup,?_⟩;have g1:=g.keep (h':=s.heap.push (setItO (.int 0 0) 0 a es.size ep)) λo e=>Waa _ e;have fpo:∀b∈[s.heap.objs.size,a],b=a\/s.heap.objs.size<=b:=λb hb=>by
   simp at hb;rcases hb with h|h
   ·right;omega
   ·exact .inl h
  cases hb:byTextB w with
  |true=>
   refine q _ s.drawn s.heap.objs.size ⟨⟨[s.heap.objs.size,a],(pickOrder (w.params.setOrder a ep) es).toList,_,λb o e=>Waa _ e,Waf _,fpo,Zkw _ _,Zf7 hh hne1 (λ_=>0) _ ?_ ?_,hI,g1⟩⟩
   ·intro s j e g he A E Q' hq
    refine Zhv hb g ?_;rw[Array.getElem?_toList]at he;rw[he];exact hq
   ·intro s g A E Q' hq
    refine Zhv hb g ?_;rw[Array.getElem?_eq_none (by simp)];exact hq
  |false=>
   have hd':(!t.plain && decide (es.size > 1))=false:=by
    rw[hb]at hd;simpa using hd
   have hps:t.place.size=es.size:=by
    have:=g.fit;unfold SetTable.fits at this;simp only[Wbd,beq_iff_eq]at this;exact this.1
   refine q _ s.drawn s.heap.objs.size ⟨⟨[s.heap.objs.size,a],es.toList,_,λb o e=>Waa _ e,Waf _,fpo,List.Perm.refl _,Zf7 hh hne1 (slotAt t.place) _ ?_ ?_,hI,g1⟩⟩
   ·intro s j e g he A E Q' hq
    refine Zgg hb g hd' ?_;rw[Array.getElem?_toList]at he;have hj:=(Array.getElem?_eq_some_iff.mp he).1;rw[Zet g.tab.ris (by omega),he,Array.getElem?_eq_getElem (by omega)];have:slotAt t.place (j+1)=t.place[j]+1:=by
     show t.place.getD j 0+1=_;simp[Array.getD,show j<t.place.size by omega]
    rw[this]at hq;exact hq
   ·intro s g A E Q' hq
    refine Zgg hb g hd' ?_;rw[Array.length_toList,Zet g.tab.ris (Nat.le_of_eq hps.symm),Array.getElem?_eq_none (Waf _)];exact hq
end
end L2
namespace L2
open PySem PySem.Spec PyProof.Rows PySem.SeqAt
section
variable {prog:Program}{w:World}{A:Around}{E:Value->Shared->Prop}{s:Shared}
theorem Zmu {r:Addr}{Q:Bool->Shared->Prop}(hT:s.TypeIs (.ref r) "set") (h:Q false s):wpAny (model prog w) A (Builtin.List.listLengthHint (.ref r)) Q E s:=by
 unfold Builtin.List.listLengthHint;refine wpAny_bind (wpAny_specialOf hT F.slot_set_len.lookup ?_);generalize hid:("set.__len__":String)=nm
 wp_delta
 rw[show splitId nm=some ("set","__len__") by subst hid;decide +kernel];subst hid;refine wpAny_bind (wpAny_isInstance (T:="set") (b:=true) hT (by rw[isSubtype_type];kernel_rfl) ?_);refine wpAny_ite_split (λz=>absurd z (by decide)) λ_=>?_;refine wpAny_ite_split (λ_=>wpAny_bind (wpAny_typeOf hT (wpAny_pure h))) λz=>absurd (by decide +kernel) z
theorem Zif {L:List (Int × Value)}{acc:Array Value}(h:ItemsOf (λj v=>∃e,L[j]?=some e/\v=e.2) acc L.length):acc.toList=L.map (·.2):=by
 obtain⟨h1,h2⟩:=h;apply Wbl;intro i;rw[Array.getElem?_toList,Wad];by_cases hi:i<acc.size
 ·obtain⟨e,e1,e2⟩:=h2 i _ (Array.getElem?_eq_getElem hi)
  rw[e1,Array.getElem?_eq_getElem hi,e2];rfl
 ·rw[Array.getElem?_eq_none (by omega),Wch (by omega)];rfl
theorem Zjq {R:Result->Shared->Prop}{a S:Addr}{o:Obj}{es:Array (Int × Value)}{ep c₀:Nat}{t:SetTable}{ks:List Int}(hh:A.handled=none) (g:SetG prog w s.heap a o es ep t ks) (hSa:S≠a) (res:Value) (hS:s.heap.get? S=some { cls:=.type "list",data:=.seq #[] c₀ })
  (hR:∀h' tk dr c' (L:List (Int × Value)),(∀b o,b≠S->s.heap.get? b=some o->h'.get? b=some o)->L.Perm es.toList->h'.get? S=some { cls:=.type "list",dict:=none,data:=.seq (L.map (·.2)).toArray c',slots:=#[] } -> R (.ok (.ret res)) { s with heap:=h',toks:=tk,drawn:=dr }) :
  wpAny (model prog w) A.in1 (Builtin.List.listExtendWith (.ref S) (.ref a) res)
   (λfin s'=>match fin with|.done f=>R (.ok f) s'|.again c'=>c'.quiet=true/\codeAny (model prog w) A c' R s') (λe s'=>R (.error e) s') s:=by
 have hT:s.TypeIs (.ref a) "set":=⟨o,g.get,g.ex.1⟩;have hSl:S<s.heap.objs.size:=Wak hS;unfold Builtin.List.listExtendWith;refine wpAny_bind (wpAny_typeOf (T:="set") hT ?_);have h1:Builtin.List.listSameRef (.ref S) (.ref a)=false:=by simp[Builtin.List.listSameRef,hSa]
 have h2:(Value.type "set" == Value.type "list")=false:=by decide +kernel
 have h3:(Value.type "set" == Value.type "tuple")=false:=by decide +kernel
 simp only[h1,h2,h3,Bool.or_false,Wbs,if_false];refine wpAny_bind (set_iter hh g λh1 dr I ⟨K⟩=>?_);have hK:=K.perm.length_eq;have hn:K.L.length<=sizeLine:=by
  have:=g.room;rw[hK,Array.length_toList,sizeLine_eq];unfold scanBound at this;omega
 have hSf:S ∉ K.fp:=λz=>by
  rcases K.fpo S z with z|z
  ·exact hSa z
  ·exact absurd hSl (Nat.not_lt.mpr z)
 have key:∀(h:Heap) (c₁ tk:Nat),K.St 0 h->(∀b o,b≠S->s.heap.get? b=some o->h.get? b=some o) →
   h.get? S=some { cls:=.type "list",data:=.seq #[] c₁ } -> codeAny (model prog w) A (.builtin "list.extend.loop" ⟨[.ref S,.ref I,res],[]⟩) R { s with heap:=h,toks:=tk,drawn:=dr }:=by
  intro h c₁ tk hst hk hS₁;refine codeAny_extend_loopS K.W.toS hn S hSf res _ 0 _ #[] c₁ rfl (Wbq _) hst hS₁ (ItemsOf.nil _) λs' acc' c' hm hS' hacc=>?_;rw[Moved.eq_with hm];have ea:=Zif hacc;refine hR s'.heap s'.toks dr c' K.L (λb o hb e=>hm.heap b o (λhmem=>?_) (hk b o hb e)) K.perm ?_
  ·rcases Wan.mp hmem with e'|hmem
   ·exact hb e'
   ·exact absurd (Wak e) (by rw[Wa5.mp hmem];exact Nat.not_lt.mpr K.new)
  ·rw[<- ea,Array.toArray_toList];exact hS'
 have hS₁:=K.old _ _ hS;refine wpAny_bind (wpAny_holding (Zmu ⟨o,K.old _ _ g.get,g.ex.1⟩ ?_));refine wpAny_ite_split (λ_=>?_) (λ_=>wpAny_pure ⟨plainId_quiet F.plain_extend_loop _,key _ c₀ _ K.st (λb o _ e=>K.old _ _ e) hS₁⟩);refine wpAny_bind (wpAny_rule ?_);refine wpAny_bind ?_;show wpAny _ _ (updateSeq S (·.push .none) >>= λ_=>updateSeq S (·.pop)) _ _ _;refine wpAny_bind (wpAny_updateSeq hS₁ rfl ?_);have hS₂:=Wb0 (Obj.mapSeq (·.push Value.none)) hS₁ rfl;refine wpAny_updateSeq (hz:=by seq_fits) hS₂ rfl ?_;have hS₃:=Wb0 (Obj.mapSeq (·.pop)) hS₂ rfl;refine wpAny_pure ⟨plainId_quiet F.plain_extend_loop _,key _ _ _ ?_ (λb o hb e=>?_) hS₃⟩
 ·refine K.W.frame 0 _ _ K.st λb hb o e=>?_
  have hbS:S≠b:=λh=>hSf (h ▸ hb);exact(Wbr _ _ hbS).trans ((Wbr _ _ hbS).trans e)
 ·exact(Wbr _ _ (Ne.symm hb)).trans ((Wbr _ _ (Ne.symm hb)).trans (K.old _ _ e))
theorem Zio {R:List Value->Shared->Prop}{a:Addr}{o:Obj}{es:Array (Int × Value)}{ep:Nat}{t:SetTable}{ks:List Int}(hh:A.handled=none) (g:SetG prog w s.heap a o es ep t ks)
  (h:∀(h':Heap) (tk:Nat) dr (L:List (Int × Value)),(∀b o,s.heap.get? b=some o->h'.get? b=some o)->s.heap.objs.size<h'.objs.size->L.Perm es.toList->R (L.map (·.2)) { s with heap:=h',toks:=tk,drawn:=dr }) :
  wpAny (model prog w) A (collect (.ref a)) R E s:=by
 have hlt:a<s.heap.objs.size:=Wak g.get;unfold collect;refine wpAny_bind (wpAny_runValue (codeAny_builtin entry_proto_collect' ?_));rw[Around.under_plainId F.plain_proto_collect _];show wpAny _ A.in1 (newList [] >>= λl=>again (.builtin "list.__iadd__" ⟨[l,.ref a],[]⟩)) _ _ s;refine wpAny_bind (wpAny_newList ?_);refine wpAny_pure ⟨plainId_quiet F.plain_list_iadd _,codeAny_builtin entry_list_iadd' ?_⟩;rw[Around.under_plainId F.plain_list_iadd _];show wpAny _ A.in1 (Builtin.List.listExtendWith (.ref s.heap.objs.size) (.ref a) (.ref s.heap.objs.size)) _ _ _;have hS₁:(s.heap.push (seqObj "list" ([]:List Value).toArray 0)).get? s.heap.objs.size=some { cls:=.type "list",data:=.seq #[] 0 }:=Wal _ rfl;have z:=Zjq (A:=A) (s:={ s with heap:=s.heap.push (seqObj "list" ([]:List Value).toArray 0) })
  (R:=λ(q:Result) (s':Shared)=>∃(h':Heap) (tk:Nat) (dr:_) (c':Nat) (L:List (Int × Value)),q=.ok (.ret (.ref s.heap.objs.size))/\s' = { s with heap:=h',toks:=tk,drawn:=dr } ∧
   (∀b o,s.heap.get? b=some o->h'.get? b=some o)/\L.Perm es.toList/\h'.get? s.heap.objs.size=some { cls:=.type "list",dict:=none,data:=.seq (L.map (·.2)).toArray c',slots:=#[] })
  hh (g.keep λo e=>Waa _ e) (Wbw hlt) (.ref s.heap.objs.size) hS₁
  λh' tk dr c' L hk hp hS'=>⟨h',tk,dr,c',L,rfl,rfl,λb o e=>hk b o (War (Wak e)) (Waa _ e),hp,hS'⟩
 refine wpAny_mono z (λfin s' x=>?_) λe s' x=>?_
 ·cases fin with
  |done f=>
   obtain⟨h',tk,dr,c',L,e,rfl,hk,hp,hS'⟩:=x;cases e;show wpAny _ A (load s.heap.objs.size >>= _) _ _ _;refine wpAny_bind (wpAny_load hS' ?_);exact wpAny_pure (h h' tk dr L hk (Wak hS') hp)
  |again c₁=>
   refine⟨x.1,codeAny_mono x.2 λq s₂ y=>?_⟩;obtain⟨h',tk,dr,c',L,rfl,rfl,hk,hp,hS'⟩:=y;show wpAny _ A (load s.heap.objs.size >>= _) _ _ _;refine wpAny_bind (wpAny_load hS' ?_);exact wpAny_pure (h h' tk dr L hk (Wak hS') hp)
 ·obtain⟨h',tk,dr,c',L,e,_⟩:=x
  cases e
theorem Zfa:∀{vs:List Value},(∀v∈vs,∃t,v=.int (numOf v) t)->IntsAre vs (vs.map numOf)
 |[],_=>.nil
 |v::vs,h=>by
  obtain⟨t,e⟩:=h v (by simp);have:=Zfa (vs:=vs) λu hu=>h u (Wat _ hu);rw[Wbb];generalize numOf v=n at e ⊢;subst e;exact .cons _ t this
theorem Zjm {a:Addr}{ks:List Int}{Q:Value->Shared->Prop}(hh:A.handled=none) (hS:SetI prog w s.heap a ks) (h64:ks.length<64)
  (h:∀(h':Heap) (tk:Nat) dr (l:Addr) (out:List Value) (ms:List Int) (c:Nat),(∀b o,s.heap.get? b=some o->h'.get? b=some o)->s.heap.objs.size<=l->h'.get? l=some (seqObj "list" out.toArray c)->IntsAre out ms->ms.Perm ks->ms.Pairwise (· <= ·)->Q (.ref l) { s with heap:=h',toks:=tk,drawn:=dr }) :
  wpAny (model prog w) A (call (.builtin "sorted") [.ref a]) Q E s:=by
 obtain⟨o,es,ep,t,g⟩:=hS;refine Calls.call_function_entry kind_sorted plain_sorted entry_sorted (args_sorted1 _) ?_;unfold Builtin.«sorted»;refine wpAny_bind (m:=checkCount "sorted" 1 1 _) (wpAny_pure ?_);refine wpAny_bind (Zio hh g λh' tk dr L hk hsz hp=>?_);have hI:IntsAre (L.map (·.2)) ((L.map (·.2)).map numOf):=Zfa λv hv=>by
  obtain⟨e,he,rfl⟩:=Wa1.mp hv;exact Zi8 g.el (hp.mem_iff.mp he)
 have hpk:((L.map (·.2)).map numOf).Perm ks:=by
  rw[Wbf];exact(hp.map _).trans g.perm
 have hlen:(L.map (·.2)).length<64:=by
  have:=hpk.length_eq;rw[Wab]at this;omega
 refine wpAny_bind (wpAny_newList ?_ (by rw[sizeLine_eq];omega));have hoL:(h'.push (seqObj "list" (L.map (·.2)).toArray 0)).get? h'.objs.size=some (seqObj "list" (L.map (·.2)).toArray 0):=Wal _ rfl;refine wpAny_bind (wpAny_holding (wpAny_call_entry slot_list_sort ⟨_,hoL,rfl⟩ entry_list_sort (list_sort_tree hoL hI hlen λout ms a1 a2 a3=>⟨_,rfl,?_⟩) (args_list_sort _)));obtain⟨c,hc⟩:=sortedHeap_at (out:=out) hoL;refine wpAny_pure ⟨_,rfl,h _ tk dr _ out.toList ms c (λb o e=>?_) (Wb1 hsz) (by rw[Array.toArray_toList];exact hc) a1 (a2.trans hpk) a3⟩;have hb:=hk b o e;have hbl:=Wak hb;rw[sortedHeap_old (War hbl) (by rw[size_push'];exact Wbp hbl)];exact Waa _ hb
end
end L2
namespace L2
open PySem PySem.Spec PyProof.Rows PySem.SeqAt
section
variable {X:Cx}
theorem Inv.drew {pins:List (Addr × Obj)}{σ:List (Option V)}{H:Hp}{s:Shared}(I:Inv X pins σ H s) (dr:_):Inv X pins σ H { s with drawn:=dr }:=
 ⟨I.ok,I.os,I.bare,I.base,I.loc,I.cell,I.free,I.freeC,I.pin,I.hok,I.len⟩
theorem Zko {ms:List Int}(h1:ms.Pairwise (· <= ·)) (h2:ms.Nodup):ms.Pairwise (· < ·):=by
 have:=List.Pairwise.and h1 h2;exact this.imp λhq_=>by obtain⟨a,b⟩:=hq_;omega
theorem Zg5 {ns:List Int}{x:Int}:x∈metK (λi=>ns.getD i 0) ns.length↔x∈ns:=by
 rw[Znq];constructor
 ·rintro⟨j,hj,rfl⟩
  rw[Wae,Wac hj];exact Wa9 hj
 ·intro h
  obtain⟨j,hj,rfl⟩:=List.getElem_of_mem h;exact⟨j,hj,by rw[Wae,Wac hj];rfl⟩
def tSS (K:W.Frag) (ta:TA):TE:=λσ H Q=>ta σ H λvs H1=>∃(p:Addr) (ns:List Int),vs=[.ref p]/\SqL K H1 p (ns.map V.int)/\ns.length<64/\∀(l:Addr) (ms:List Int),ms.Pairwise (· < ·)->(∀x,x∈ms↔x∈ns)->H1 l=none->Q (.ref l) (upd H1 l (.lst (ms.map V.int)))
theorem Zf9 {a:Expr}{ta:TA}{p p2 pos pos2:Pos}{K:W.Frag}(hK:X.K=K) (hc:X.calm=true) (hgL:Gl X "sorted") (hmL:X.mg "sorted" = none) (hgR:Gl X "set") (hmR:X.mg "set" = none) (ha:PA X [a] ta) (hs:starEach [a] X.env=[(false,eval a X.env)]:=by rfl)
  (he:starEach [.Call (.Name "set" p2) [a] [] pos2] X.env=[(false,eval (.Call (.Name "set" p2) [a] [] pos2) X.env)]:=by rfl) :
  PE X (.Call (.Name "sorted" p) [.Call (.Name "set" p2) [a] [] pos2] [] pos) (tSS K ta):=by
 subst hK;intro pins s σ H Q I h;refine wpAny_Call_Name_kw (Zd0 I hgL hmL Zmk ?_);refine PyProof.Rows.callWith_builtin1 ?_ he rfl;rw[he];show wpAny _ _ (spliced ((false,eval (.Call (.Name "set" p2) [a] [] pos2) X.env)::backTo pos [])) _ _ s;refine Calls.spliced_cons ?_;refine wpAny_Call_Name_kw (Zd0 I hgR hmR Zre ?_);refine PyProof.Rows.callWith_type1 (thn (ha pos2 pins s σ H _ I h) λus s1 ⟨vs,H1,I1,r1,q1⟩=>?_) hs rfl;obtain⟨p,ns,e,hx,hl,q⟩:=q1;subst e;obtain⟨u,rfl,ru⟩:=vals1 r1;cases (show u=Value.ref p from ru);obtain⟨its,w1,p1,hz⟩:=I1.list hx;have hi:=Zei w1;have hlen:=hi.length;refine Zk6 (I1.ok.hd hc) p1.isList (by simpa using hi) (by rw[Wam];unfold scanBound;omega) λh' tk hS hk=>?_;rw[show its.toArray.size=ns.length by rw[Wam];exact hlen]at hS;refine Calls.spliced_nil ?_;have I2:Inv X pins σ H1 { s1 with heap:=h',toks:=tk }:=I1.kept hk;have hm:=Zi6 (λi=>ns.getD i 0) ns.length;refine Zjm (s:={ s1 with heap:=h',toks:=tk }) (I1.ok.hd hc) hS (by omega) λh2 tk2 dr l out ms c k2 hl2 ho2 hi2 hp2 hs2=>?_;have hml:=hp2.length_eq;have nd:ms.Nodup:=by
  obtain⟨_,_,_,_,g⟩:=hS;exact hp2.nodup_iff.mpr g.nd
 have I3:=(I2.laid (t':=tk2) k2 hl2 (show ObjOk X.prog X.w _ h2 l (.lst (ms.map V.int)) from ⟨by rw[Wab];exact Wb1 (small1000 (by omega)),out,c,Zd6 hi2,ho2⟩)).drew dr;exact⟨.ref l,_,I3,rfl,q l ms (Zko hs2 nd) (λx=>hp2.mem_iff.trans Zg5) (I2.hok.fresh hl2)⟩
end
section
variable {K:W.Frag}{Δ:Evt}
theorem Zrf {ta:TA}{Po:OD->Evt->Prop}(h:JA K ta Δ λds Δ1=>∃ns:List Int,ds=[.lst (ns.map .int)]/\ns.length<64/\∀ms:List Int,ms.Pairwise (· < ·)->(∀x,x∈ms↔x∈ns)->Po (.lst (ms.map .int)) Δ1):JO K (tSS K ta) Δ Po:=λg G H σ Q k c=>
 h g G H σ _ k λvs ds G1 H1 Δ1 k1 s1 r1 hq_=>by
  obtain⟨ns,e,hl,p⟩:=hq_;subst e;obtain⟨_,_,rfl,r,t⟩:=r1.inv
  next=>
   cases t.inv;obtain⟨a,us,rfl,ha,rr⟩:=r.inv
   next=>
    have ev:=rr.ints;subst ev;refine⟨a,ns,rfl,SqL.of (k1.live _ _ ha),hl,λl ms o1 o2 hl=>?_⟩;obtain⟨k2,pd⟩:=k1.fresh (od:=.lst (ms.map .int)) hl (show OwnRep K G1 (.lst (ms.map V.int)) (.lst (ms.map .int)) from Reps.ofInts ms);exact c l _ G1 _ Δ1 k2 s1 pd (p ms o1 o2)
end
structure CompScK (osc:Scope) (oN:List Str) (y:Str) (scope:Scope) (fvs:List Str) (sel:List Nat):Prop where
 kind:scope.kind=.function
 one:scope.names.filter (λz=>z.2 == .cell)=[(y,.cell)]
 own:∀z∈scope.names,z.1=y->z.2=.cell
 names:∀z∈scope.names,z.2=.local->scope.names.lookup z.1=some .local
 free:∀z∈scope.names,z.2=.free->osc.names.lookup z.1=some .cell\/osc.names.lookup z.1=some .free
 len:fvs.length=sel.length
 fv:∀p∈fvs.zip sel,oN[p.2]?=some p.1/\scope.names.lookup p.1=some .free
def compCxK (X:Cx) (y:Str) (scope:Scope) (N:List Str) (C:Addr) (s:Shared) (H:Hp) (ex:List Addr) (pn:List (Addr × Obj)):Cx:=
 { compCx X scope N C s H ex pn with env:=compEnvC scope ((y,C+1)::clOf X.env scope.names []) C X.env,fn:=λx=>x == y }
theorem Zc9 {y:Str}:∀(names:List (Str × NameKind)) (n:Nat) (acc:List (Str × Addr)),(names.filter (λz=>z.2 == .cell)=[]->cellsFrom n names acc=acc)/\(names.filter (λz=>z.2 == .cell)=[(y,.cell)]->cellsFrom n names acc=(y,n)::acc)
 |[],n,acc=>⟨λ_=>rfl,λh=>by simp at h⟩
 | (x,k)::r,n,acc=>by
  unfold cellsFrom;rw[Wb4];cases hk:k == NameKind.cell with
  |true=>
   simp only[hk,if_true];refine⟨λh=>by simp at h,λh=>?_⟩;have h1:=(List.cons.inj h).1;have h2:=(List.cons.inj h).2;cases h1;exact(Zc9 (y:=y) r (n+1) _).1 h2
  |false=>
   simp only[hk,Wbs,if_false];exact Zc9 r n acc
theorem Zda {y:Str}:∀(names:List (Str × NameKind)) (h:Heap),(names.filter (λz=>z.2 == .cell)=[]->pushCells h names=h)/\(names.filter (λz=>z.2 == .cell)=[(y,.cell)]->pushCells h names=h.push { cls:=.type "cell",data:=.cell none })
 |[],h=>⟨λ_=>rfl,λh=>by simp at h⟩
 | (x,k)::r,h=>by
  unfold pushCells;rw[Wb4];cases hk:k == NameKind.cell with
  |true=>
   simp only[hk,if_true];exact⟨λh=>by simp at h,λe=>(Zda (y:=y) r _).1 (List.cons.inj e).2⟩
  |false=>
   simp only[hk,Wbs,if_false];exact Zda r h
section
variable {X:Cx}{pins:List (Addr × Obj)}{σ:St}{H:Hp}{s:Shared}{fp:List Addr}{scope:Scope}{tgs fvs:List Str}{sel:List Nat}{y:Str}
theorem newEnvK {M:Model}{A:Around}{E:Value->Shared->Prop}{osc:Scope}{oN:List Str}{g:Addr}{cl:List (Str × Addr)}{qual:Str}{env:Env}{Q:Env->Shared->Prop}(S:CompScK osc oN y scope fvs sel)
  (q:∀h',h'.Ns s.heap.objs.size (λ_=>none)->h'.IsCell (s.heap.objs.size+1) none->(∀b o,s.heap.get? b=some o->h'.get? b=some o) →
   Q { scope,locals:=s.heap.objs.size,globals:=g,cells:=(y,s.heap.objs.size+1)::cl,qual,func:=none,code:=env.code,frame:=env.frame,builtins:=env.builtins } { s with heap:=h' }) :
  wpAny M A (newFunctionEnv scope g cl [] qual none .none (some env)) Q E s:=by
 simp only[newFunctionEnv,Option.isSome_some,if_true];refine wpAny_bind (wpAny_alloc ?_);refine wpAny_bind (wpAny_layCells _ (λname kind cells=>by cases hkc:kind == NameKind.cell <;> simp[hkc]) _ _ _ _ ?_)
 have hsz:(s.heap.push { cls:=.type "dict",data:=.dict #[] }).objs.size=s.heap.objs.size+1:=Wbu ..;rw[(Zc9 (y:=y) _ _ _).2 S.one,(Zda (y:=y) _ _).2 S.one];show wpAny M A _ Q E { s with heap:=(s.heap.push { cls:=.type "dict",data:=.dict #[] }).push { cls:=.type "cell",data:=.cell none } };refine wpAny_bind (wpAny_pure (wpAny_pure ?_));have hc:((s.heap.push { cls:=.type "dict",data:=.dict #[] }).push { cls:=.type "cell",data:=.cell none }).get? (s.heap.objs.size+1)=some { cls:=.type "cell",data:=.cell none }:=by
  rw[<- hsz];exact Wal _ rfl
 have z:=q _ ((Heap.Ns.new s.heap (.type "dict")).keeps λb o e=>Waa { cls:=.type "cell",data:=.cell none } e) ⟨_,hc,rfl⟩ λb o e=>Waa _ (Waa _ e);rw[<- hsz]at z;exact z
theorem ownK {env:Env}{names:List (Str × NameKind)}{n:Nat}{x:Str}{c:Addr}(e:((y,n)::clOf env names []).lookup x=some c):(x=y/\c=n)\/env.cells.lookup x=some c:=by
 rw[Wbi]at e;split at e
 ·rename_i h
  cases e;exact .inl ⟨by simpa using h,rfl⟩
 ·exact .inr (Zbo _ _ (λ_ _ z=>by simp at z) e)
theorem Zfl (S:CompScK X.env.scope X.N y scope fvs sel) (ok:X.Ok):∀n,(n,NameKind.free)∈scope.names->∃a,X.env.cells.lookup n=some a:=λn hn=>
 ok.has n (S.free _ hn rfl)
theorem Znc (S:CompScK X.env.scope X.N y scope fvs sel) (N:List Str) (I:Inv X pins σ H s) (hf:∀b∈fp,FpOk X pins H b) (hlt:∀b∈fp,b<s.heap.objs.size):(compCxK X y scope N s.heap.objs.size s H fp (X.pn++pins)).Ok where
 mod:=I.ok.mod
 kind:=S.kind
 glob:=I.ok.glob
 blt:=I.ok.blt
 above:=Waf _
 inj:=λx z c h1 h2=>by
  have old:∀x,X.env.cells.lookup x=some c->c≠s.heap.objs.size+1:=λx e=>by
   obtain⟨v,q⟩:=I.cell x c e;exact War (Wbp q.lt)
  rcases ownK h1 with ⟨a,b⟩|a
  ·rcases ownK h2 with ⟨a',b'⟩|a'
   ·rw[a,a']
   ·exact absurd b (old _ a')
  ·rcases ownK h2 with ⟨a',b'⟩|a'
   ·exact absurd b' (old _ a)
   ·exact I.ok.inj x z c a a'
 has:=λx hx=>by
  by_cases hxy:x=y
  ·subst hxy
   exact⟨s.heap.objs.size+1,by show ((x,_)::clOf X.env scope.names []).lookup x=_;simp⟩
  have hm:(x,NameKind.free)∈scope.names:=by
   have key:∀k,(k=.cell\/k=.free)->(relab X.env.scope scope).names.lookup x=some k->(x,NameKind.free)∈scope.names:=λk hk h=>by
    obtain⟨⟨n,j⟩,hy,e⟩:=Wa1.mp (PySem.mem_of_lookup h);dsimp only at e;split at e
    ·rename_i hj
     have e1:n=x:=congrArg Prod.fst e;have hj':j=.free:=by
      simp only[Wbd,beq_iff_eq]at hj;exact hj.1.1
     rw[<- e1,<- hj'];exact hy
    ·have e1:n=x:=congrArg Prod.fst e
     have e2:j=k:=congrArg Prod.snd e;rcases hk with z|z
     ·have hin:((n,j):Str × NameKind)∈scope.names.filter (λz=>z.2 == .cell):=Wck.mpr ⟨hy,by rw[e2,z];rfl⟩
      rw[S.one,Wa5]at hin;exact absurd (e1.symm.trans (congrArg Prod.fst hin)) hxy
     ·rw[<- e1,<- z,<- e2];exact hy
   rcases hx with z|z
   ·exact key _ (.inl rfl) z
   ·exact key _ (.inr rfl) z
  obtain⟨c,hc⟩:=Zdd scope.names [] hm (Zfl S I.ok x hm);exact⟨c,by
   show ((y,_)::clOf X.env scope.names []).lookup x=_;rw[Wbi,show (x == y)=false from by simpa using hxy];exact hc⟩
 cab:=λx c h e=>by
  rcases ownK e with ⟨_,z⟩|z
  ·rw[z];exact Wcn _
  ·have hx:x=y:=by simpa using (show (x == y)=true from h)
   subst hx;have:((x,s.heap.objs.size+1)::clOf X.env scope.names []).lookup x=some c:=e;simp at this;rw[<- this];exact Wcn _
 hd:=I.ok.hd
 frames:=I.ok.frames
 stk:=.inl rfl
 exf:=λb hb=>⟨War (hlt b hb),λx c e=>by
  rcases ownK e with ⟨_,z⟩|z
  ·rw[z];exact Wbw (Wbp (hlt b hb))
  ·exact(hf b hb).2.2.2.2.1 x c z⟩
 bs:=I.bs
 bsz:=Was I.ok.bsz I.sz
 noex:=λb o e hb=>by
  rcases(hf b hb).2.2.2.1 with z|z
  ·exact I.ok.noex b o e z
  ·exact absurd (Wa2 (Wak e) (Was I.ok.bsz z)) (Wcb _)
 exfs:=λb hb z=>by
  rcases Wan.mp (I.stkSub b z) with e|z
  ·exact(hf b hb).2.1 e
  ·exact(hf b hb).2.2.1 z
 funs:=I.stack
 frf:=I.stkFree
theorem Zkl (S:CompScK X.env.scope X.N y scope fvs sel) (I:Inv X pins σ H s) (hf:∀b∈fp,FpOk X pins H b) (hlt:∀b∈fp,b<s.heap.objs.size) {h':Heap}{tk:Nat}{m:Str->Option Value}
  (hns:h'.Ns s.heap.objs.size m) (hcl:h'.IsCell (s.heap.objs.size+1) none) (old:∀b o,s.heap.get? b=some o->h'.get? b=some o) :
  Inv (compCxK X y scope (tgs++fvs) s.heap.objs.size s H fp (X.pn++pins)) [] (compSt tgs.length sel σ) H { s with heap:=h',toks:=tk } where
 ok:=Znc S _ I hf hlt
 os:=rfl
 bare:=I.bare
 base:=Un.kept old
 loc:=by
  refine⟨m,hns,λi x v h1 h2 h3=>?_⟩;have h1:(tgs++fvs)[i]?=some x:=h1;unfold compSt at h2;by_cases hi:i<tgs.length
  ·rw[Wa3 (by simpa using hi),Wbx,if_pos hi]at h2
   cases h2
  ·have hi':tgs.length<=i:=Nat.le_of_not_lt hi
   rw[Wap (by simpa using hi'),Wad,Wba]at h2;rw[Wap hi']at h1;cases hj:sel[i-tgs.length]? with
   |none=>rw[hj]at h2;cases h2
   |some j=>
    rw[hj]at h2;have h2:(σ[j]?).getD none=some v:=by simpa using h2
    have hz:(x,j)∈fvs.zip sel:=by
     refine Wah (i:=i-tgs.length) ?_;rw[Wbt];exact⟨h1,hj⟩
    obtain⟨hN,hfr⟩:=S.fv _ hz;have hσ:σ[j]?=some (some v):=by
     cases q:σ[j]? with
     |none=>rw[q]at h2;cases h2
     |some o=>rw[q]at h2;exact congrArg some h2
    have hko:X.env.scope.names.lookup x=some .cell\/X.env.scope.names.lookup x=some .free:=S.free (x,.free) (PySem.mem_of_lookup hfr) rfl;obtain⟨m0,hn0,hl0⟩:=I.loc;obtain⟨u,r,l⟩:=hl0 j x v hN hσ (.inr hko);refine⟨u,r,.inr ⟨Zeg hfr,?_⟩⟩;rcases l with ⟨hk,_⟩|⟨_,c,hc,hcell⟩
    ·have hk:X.env.scope.names.lookup x=some .local:=hk
     rcases hko with z|z <;> (rw[hk]at z;cases z)
    ·obtain⟨c',hc'⟩:=Zdd scope.names [] (PySem.mem_of_lookup hfr) ⟨c,hc⟩
     have e:=Zbo scope.names [] (λ_ _ z=>by simp at z) hc';rw[hc]at e;cases e;obtain⟨o,ho,hd⟩:=hcell;have hxy:(x == y)=false:=by
      cases q:x == y with
      |false=>rfl
      |true=>
       have:x=y:=by simpa using q
       have:=S.own (x,.free) (PySem.mem_of_lookup hfr) this;cases this
     exact⟨c,by show ((y,s.heap.objs.size+1)::clOf X.env scope.names []).lookup x=some c;rw[Wbi,hxy];exact hc',o,old _ _ ho,hd⟩
 cell:=λx c e=>by
  rcases ownK e with ⟨_,z⟩|z
  ·rw[z];exact⟨none,hcl⟩
  ·obtain⟨v,o,ho,hd⟩:=I.cell x c z
   exact⟨v,o,old _ _ ho,hd⟩
 free:=I.hok.fresh (Waf _)
 freeC:=λx c e=>by
  rcases ownK e with ⟨_,z⟩|z
  ·rw[z];exact I.hok.fresh (Wcn _)
  ·exact I.freeC x c z
 pin:=λp hp=>by
  have hp:p∈(X.pn++pins)++[]:=hp;rw[Wbh]at hp;obtain⟨e,n,ne,nf,d⟩:=I.pin p hp;refine⟨old _ _ e,n,War (Wak e),λz=>?_,d⟩;rcases Wan.mp (I.stkSub p.1 z) with q|q
  ·exact ne q
  ·exact nf q
 hok:=I.hok.kept old
 len:=by
  unfold compSt;show _=(tgs++fvs).length;rw[Wag,Wag,Wba,Wab,S.len]
theorem Zjr {N:List Str}{σ':St}{H':Hp}{s':Shared}{h':Heap}(I:Inv X pins σ H s) (hf:∀b∈fp,FpOk X pins H b)
  (J:Inv (compCxK X y scope N s.heap.objs.size s H fp (X.pn++pins)) [] σ' H' s') (sb:Heap.SameBut s.heap.objs.size s'.heap h'):Inv X pins σ H' { s' with heap:=h' }:=by
 have B:Un (frs X.stack) fp H H' s.heap s'.heap:=J.base;have ne:∀b o,s.heap.get? b=some o->b≠s.heap.objs.size:=λb o e=>War (Wak e);have fr:H' s.heap.objs.size=none:=J.free;refine I.call' (s':={ s' with heap:=h' }) (ch:=fp) J.os ⟨λb o e n h1 h2=>?_,λb o e n h1 h2=>?_,B.free,λb o e h2=>?_,B.tups,B.frzs,B.tbls⟩ (λb ob e=>?_) J.bare λb hb=>?_
 ·exact(sb.2 b (ne b o e)).trans (B.keep b o e n h1 h2)
 ·obtain⟨sl,q⟩:=B.slot b o e n h1 h2
  exact⟨sl,(sb.2 b (ne b o e)).trans q⟩
 ·obtain⟨o',q⟩:=B.there b o e h2
  exact⟨o',(sb.2 b (ne b o e)).trans q⟩
 ·refine(J.hok b ob e).stay (λc w' hc q=>(sb.2 c ?_).trans q) (λ_ q=>q) λ_ _ q=>q
  intro z;rcases hc with hc|hc
  ·rw[<- hc,z,fr]at e;cases e
  ·rw[z,fr]at hc;cases hc
 ·exact⟨(hf b hb).2.2.2.1,(hf b hb).2.1,(hf b hb).2.2.2.2.1,(hf b hb).2.2.2.2.2⟩
end
section
variable {X:Cx}
theorem Zjw {y:Str}{elt tg iter:Expr}{ifs:List Expr}{scope:Scope}{pos:Pos}{tgs fvs:List Str}{sel:List Nat}{g:TG}{tc:TT}{te:TE}(S:CompScK X.env.scope X.N y scope fvs sel) (hc:X.calm=true)
  (hg:∀C s H ex pn,PG (compCxK X y scope (tgs++fvs) C s H ex pn) tg g) (ht:∀C s H ex pn,PTs (compCxK X y scope (tgs++fvs) C s H ex pn) ifs tc) (he:∀C s H ex pn,PE (compCxK X y scope (tgs++fvs) C s H ex pn) elt te)
  {pins:List (Addr × Obj)}{σ:St}{s:Shared}{itv:Value}{Q:VK}{E:Value->Shared->Prop}{RR:Value->Addr->Result->Shared->Prop}
  (h2:PIE X pins σ tg (λJ H1=>∀acc,H1 acc=none->∃W:Nat->Nat->St->Hp->Prop,
   (∃m,W 0 m (compSt tgs.length sel σ) (upd H1 acc (.lst [])))/\∀i m σ' H',W i m σ' H' →
   (J.stop i H' /\ Q (.ref acc) H')\/(J.go i H' /\ ∃N:St->Hp->Prop,(∀σ2 H2,N σ2 H2->∃m',m'<m/\W (i+1) m' σ2 H2) ∧
   ∀x H2,J.yld i H' x H2->g x σ' H2 λσ2 H3=>tc σ2 H3 λb H4=>if b=true then te σ2 H4 λy H5=>∃ys,H5 acc=some (.lst ys)/\ys.length<sizeLine/\N σ2 (upd H5 acc (.lst (ys++[y]))) else N σ2 H4)) itv s)
  (fin:∀(s':Shared) (C acc:Addr) (H':Hp) (m:Str->Option Value),s'.heap.Ns C m->FpOk X pins H' C->(∀h',Heap.SameBut C s'.heap h' -> Inv X pins σ H' { s' with heap:=h' })->Q (.ref acc) H' -> RR (.ref acc) C (.ok .next) s') :
  wpAny (model X.prog X.w) X.A (newList []) (λacc s3=>wpAny (model X.prog X.w) X.A (newFunctionEnv scope X.env.globals (clOf X.env scope.names []) [] X.env.qual none .none (some X.env)) (λcenv s4=>
   codeAny (model X.prog X.w) X.A (.compStart (.ListComp elt [⟨tg,iter,ifs,0⟩] scope pos) 0 itv acc { cenv with scope:=relabel scope X.env }) (RR acc cenv.locals) s4) E s3) E s:=by
 obtain⟨it,fp,tn,J,H1,e,I,T,st,f2,h2⟩:=h2;subst e;have hlt:∀b∈fp,b<s.heap.objs.size:=λb hb=>let ⟨o,ho,_⟩:=T.obj 0 _ st b hb; Wak ho
 refine wpAny_newObj_type (newEnvK S λh1 hns hcl old=>?_);dsimp only at hns hcl old ⊢;have I3:Inv X pins σ (upd H1 s.heap.objs.size (.lst [])) { s with heap:=s.heap.push { cls:=.type "list",data:=.seq ([]:List Value).toArray },toks:=s.toks }:=I.lnew (its:=[]) .nil (by decide);have hacc:H1 s.heap.objs.size=none:=I.hok.fresh (Waf _);obtain⟨W,⟨m0,w0⟩,turn⟩:=h2 s.heap.objs.size hacc;generalize hs3:({ s with heap:=s.heap.push { cls:=.type "list",data:=.seq ([]:List Value).toArray },toks:=s.toks }:Shared)=s3 at I3;have hh3:s3.heap=s.heap.push { cls:=.type "list",data:=.seq ([]:List Value).toArray }:=by rw[<- hs3]
 have old3:∀b o,s.heap.get? b=some o->s3.heap.get? b=some o:=λb o q=>by rw[hh3];exact Waa _ q
 have hf3:∀b∈fp,FpOk X pins (upd H1 s.heap.objs.size (.lst [])) b:=λb hb=>⟨by rw[Zas (War (hlt b hb))];exact(f2 b hb).1,(f2 b hb).2⟩;have hlt3:∀b∈fp,b<s3.heap.objs.size:=λb hb=>by rw[hh3,Wbu];exact Wbp (hlt b hb)
 have tn3:tn 0 s3.heap:=T.keep 0 _ _ st λb hb o q=>old3 b o q;have old4:∀b o,s3.heap.get? b=some o->h1.get? b=some o:=λb o q=>by
  rw[hh3]at q;exact old b o q
 have tn4:tn 0 h1:=T.keep 0 _ _ tn3 λb hb o q=>old4 b o q;have hC:(s.heap.push { cls:=.type "list",data:=.seq ([]:List Value).toArray }).objs.size=s3.heap.objs.size:=by rw[hh3]
 rw[hC]at hns hcl;have J0:=Zkl (tgs:=tgs) (tk:=s.toks) S I3 hf3 hlt3 hns hcl old4;have es:({ s3 with heap:=h1,toks:=s.toks }:Shared) = { s with heap:=h1,toks:=s.toks }:=by rw[<- hs3]
 rw[es]at J0;generalize hY:compCxK X y scope (tgs++fvs) s3.heap.objs.size s3 (upd H1 s.heap.objs.size (.lst [])) fp (X.pn++pins)=Y at J0;have hYp:Y.prog=X.prog:=by rw[<- hY];rfl
 have hYw:Y.w=X.w:=by rw[<- hY];rfl
 have hYK:Y.K=X.K:=by rw[<- hY];rfl
 have hYA:Y.A=X.A:=by rw[<- hY];rfl
 have hYc:Y.calm=true:=by rw[<- hY];exact hc
 have hYx:Y.xe=λ_ _=>False:=by rw[<- hY];rfl
 have hYe:Y.env=compEnvC scope ((y,s3.heap.objs.size+1)::clOf X.env scope.names []) s3.heap.objs.size X.env:=by rw[<- hY];rfl
 have stat:∀{H':Hp},(∀b∈fp,H' b=none)->∀b∈fp,FpOk Y [] H' b:=λhn b hb=>by
  rw[<- hY];refine⟨hn b hb,War (hlt3 b hb),λz=>?_,.inl hb,λx c e=>?_,λp hp z=>?_⟩
  ·rcases Wan.mp (I3.stkSub b z) with q|q
   ·exact(hf3 b hb).2.1 q
   ·exact(hf3 b hb).2.2.1 q
  ·rcases ownK e with ⟨_,z⟩|z
   ·rw[z];exact Wbw (Wbp (hlt3 b hb))
   ·exact(hf3 b hb).2.2.2.2.1 x c z
  ·have hp:p∈(X.pn++pins)++[]:=hp
   rw[Wbh]at hp;exact(hf3 b hb).2.2.2.2.2 p hp z
 have loop:codeAny (model X.prog X.w) X.A (.compLoop (.ListComp elt [⟨tg,iter,ifs,0⟩] scope pos) 0 (.ref it) (.ref s.heap.objs.size) Y.env) (RR (.ref s.heap.objs.size) s3.heap.objs.size)
   { s with heap:=h1,toks:=s.toks }:=by
  refine codeAny_loop rfl (λn s'=>∃i σ' H',Inv Y [] σ' H' s' /\ tn i s'.heap/\(∀b∈fp,H' b=none)/\W i n σ' H') ?_ m0 ⟨0,_,_,J0,tn4,λb hb=>(hf3 b hb).1,w0⟩;rintro n s5 ⟨i,σ5,H5,I5,st5,fr5,w5⟩;show wpAny _ X.A ((compTurn (.ListComp elt [⟨tg,iter,ifs,0⟩] scope pos) 0 (.ref it) (.ref s.heap.objs.size) Y.env).onRaise (λx=>do noteFrame x Y.env;theTreesLotGoes x)) _ _ s5;refine wpAny_noted (wpAny_mono (E:=λ_ _=>False) ?_ (λ_ _ q=>q) λ_ _ z=>z.elim);rw[compTurn_list];refine wpAny_bind (wpAny_standAt (wpAny_bind ?_));rcases turn i n σ5 H5 w5 with ⟨stop,qn⟩|⟨go,N,hN,step⟩
  ·have D:=T.done Y hYp hYw hYK hYc i [] s5 σ5 H5 (λ_ _=>False) I5 (stat fr5) st5 stop
   rw[hYA]at D;refine thn D λr s6 ⟨hr,I6⟩=>?_;subst hr;refine wpAny_pure ?_;obtain⟨m6,hn6,_⟩:=I6.loc;rw[hYe]at hn6;refine fin s6 _ _ H5 m6 hn6 (I3.fpOk (Waf _) (by have z:=I6.free;rw[hYe]at z;exact z)) (λh' sb=>?_) qn;have I6':Inv (compCxK X y scope (tgs++fvs) s3.heap.objs.size s3 (upd H1 s.heap.objs.size (.lst [])) fp (X.pn++pins)) [] σ5 H5 s6:=by rw[hY];exact I6
   exact Zjr I3 hf3 I6' sb
  ·have D:=T.item Y hYp hYw hYK hYc i [] s5 σ5 H5 (λ_ _=>False) I5 (stat fr5) st5 go
   rw[hYA]at D;refine thn D λr s6 ⟨u,hr,h6⟩=>?_;subst hr;refine wpAny_bind (thn h6 λ_ s7 ⟨x,H7,I7,r7,y7,st7,fr7⟩=>?_);have I7':=I7.pinned (stat fr7) (T.obj _ _ st7);have G:=hg s3.heap.objs.size s3 (upd H1 s.heap.objs.size (.lst [])) fp (X.pn++pins);have TT:=ht s3.heap.objs.size s3 (upd H1 s.heap.objs.size (.lst [])) fp (X.pn++pins);have EE:=he s3.heap.objs.size s3 (upd H1 s.heap.objs.size (.lst [])) fp (X.pn++pins);rw[hY]at G TT EE;have G1:=G _ s7 σ5 H7 x u _ I7' r7 (step x H7 y7);rw[hYp,hYw,hYA,hYx]at G1;refine wpAny_bind (thn G1 λ_ s8 ⟨σ8,H8,I8,q8⟩=>?_);have T1:=TT _ s8 σ8 H8 _ I8 q8;rw[hYp,hYw,hYA,hYx]at T1;refine wpAny_bind (thn T1 λok s9 ⟨H9,I9,q9⟩=>?_);have again:∀{s':Shared}{σ':St}{H':Hp},Inv Y ([]++pinsAt fp s7.heap) σ' H' s' -> N σ' H' -> ∃m,m<n/\∃i σ' H',Inv Y [] σ' H' s' /\ tn i s'.heap/\(∀b∈fp,H' b=none)/\W i m σ' H':=λ{s' σ' H'} K7 n7=>by
    obtain⟨m',hm,w7⟩:=hN σ' H' n7;refine⟨m',hm,i+1,σ',H',K7.unpinned,T.keep _ _ _ st7 λb hb o e=>(K7.pin (b,o) (Wax _ (Wax _ (Zco hb e)))).1,λb hb=>?_,w7⟩;obtain⟨o,e,d⟩:=T.obj _ _ st7 b hb;exact(K7.pin (b,o) (Wax _ (Wax _ (Zco hb e)))).2.1
   cases ok with
   |false=>
    have q9:N σ8 H9:=q9;exact wpAny_pure ⟨by rw[hYe],again I9 q9⟩
   |true=>
    have q9:te σ8 H9 λy H5=>∃ys,H5 s.heap.objs.size=some (.lst ys)/\ys.length<sizeLine/\N σ8 (upd H5 s.heap.objs.size (.lst (ys++[y]))):=q9;have E1:=EE _ s9 σ8 H9 _ I9 q9;rw[hYp,hYw,hYA,hYx]at E1;refine wpAny_bind (wpAny_bind (thn E1 λv sa ⟨y,Ha,Ia,ra,ys,ea,za,na⟩=>?_));have M:=Zcs (X:=Y) _ sa σ8 Ha (.ref s.heap.objs.size) [y] (.ref s.heap.objs.size) [v] (λ_ H=>N σ8 H) Ia rfl (.cons ra .nil) ⟨_,ys,y,rfl,rfl,ea,za,na⟩;rw[hYp,hYw,hYA,hYx]at M;refine wpAny_bind (thn M λ_ sb ⟨_,Hb,Ib,_,nb⟩=>wpAny_pure (wpAny_pure ⟨by rw[hYe],again Ib nb⟩))
 have hcs:(relabel scope X.env)=(relabel scope X.env):=rfl;have loop':=loop;rw[hYe]at loop';show codeAny (model X.prog X.w) X.A (.compStart (.ListComp elt [⟨tg,iter,ifs,0⟩] scope pos) 0 (.ref it) (.ref s.heap.objs.size) (compEnvC scope ((y,(s.heap.push { cls:=.type "list",data:=.seq ([]:List Value).toArray }).objs.size+1)::clOf X.env scope.names []) (s.heap.push { cls:=.type "list",data:=.seq ([]:List Value).toArray }).objs.size X.env)) (RR (.ref s.heap.objs.size) (s.heap.push { cls:=.type "list",data:=.seq ([]:List Value).toArray }).objs.size) _;rw[hC];exact codeAny_compStart_list loop' (T.self _ 0 _ _ _ tn4 loop')
theorem Zkb {y:Str}{elt tg iter:Expr}{ifs:List Expr}{scope:Scope}{pos:Pos}{fvs:List Str}{sel:List Nat}{wi:TI}{g:TG}{tc:TT}{te:TE}(tgs:List Str) (S:CompScK X.env.scope X.N y scope fvs sel) (hc:X.calm=true)
  (hi:PI X tg iter wi) (hg:∀C s H ex pn,PG (compCxK X y scope (tgs++fvs) C s H ex pn) tg g) (ht:∀C s H ex pn,PTs (compCxK X y scope (tgs++fvs) C s H ex pn) ifs tc) (he:∀C s H ex pn,PE (compCxK X y scope (tgs++fvs) C s H ex pn) elt te)
  (hs:∀x,foldedSetIterable iter X.env x=pure x:=by intro _;rfl) :
  PE X (.ListComp elt [⟨tg,iter,ifs,0⟩] scope pos) (tComp tgs.length sel wi g tc te):=by
 intro pins s σ H Q I h;rw[eval_ListComp];refine wpAny_comprehension_free (use:=none) rfl hs (Zcq (Zfl S I.ok)) S.kind S.names (thn (hi pins s σ H _ I h) λv s1 h1=>thn h1 λitv s2 h2=>?_);refine Zjw S hc hg ht he (RR:=λacc C=>compPost (model X.prog X.w) X.A X.xe none (EP X pins σ Q) acc C) (Q:=Q) h2 ?_;intro s' C acc H' m hn _ hI q;exact⟨m,hn,λh' sb=>⟨.ref acc,H',hI h' sb,rfl,q⟩⟩
end
open PySem PySem.Spec PyProof.Rows PySem.SeqAt
section
variable {X:Cx}
theorem intsAt {its:List Value}{ns:List Int}(hi:IntsAre its ns):∀j (h:j<its.length),∃t,its[j]=.int (ns.getD j 0) t:=by
 induction hi with
 |nil=>intro j h;simp at h
 |cons n t _ ih=>
  intro j h;cases j with
  |zero=>exact⟨t,rfl⟩
  |succ j=>simpa using ih j (by simpa using h)
theorem Zfx (ns:List Int):∀k,k<=ns.length->preSum (λi=>ns.getD i 0) k=(ns.take k).sum
 |0,_=>by rw[List.take_zero];rfl
 |k+1,hk=>by
  show preSum _ k+ns.getD k 0=_;have e:ns.take (k+1)=ns.take k++[ns[k]]:=by rw[Wcf,Wac (by omega:k<ns.length)];rfl
  rw[Zfx ns k (by omega),e,List.sum_append,Wae,Wac (by omega:k<ns.length)];show _+ns[k]=_+(ns[k]+0);rw[Int.add_zero]
def rSum (K:W.Frag):List V->Hp->VK->Prop:=λxs H Q=>∃(p:Addr) (ns:List Int),xs=[.ref p]/\SqL K H p (ns.map V.int)/\Q (.int ns.sum) H
theorem sumK (K:W.Frag) (hc:X.calm=true) (hK:X.K=K:=by rfl):CallR X (.builtin "sum") (rSum K):=by
 subst hK;intro pins s σ H xs us Q I r h;obtain⟨p,ns,rfl,hx,q⟩:=h;obtain⟨u,rfl,ru⟩:=vals1 r;cases (show u=Value.ref p from ru);obtain⟨its,w1,p1,_⟩:=I.list hx;have hi:=Zei w1;have hlen:=hi.length;have hlt:p<s.heap.objs.size:=by obtain⟨o,e,_⟩:=p1.isList;exact Wak e
 refine call_sum_walkG (wpAny_pyIter_list p1.isList ?_);refine⟨s.heap.objs.size,_,_,_,_,_,λi=>ns.getD i 0,rfl,Walks.list (prog:=X.prog) (w:=X.w) (A:=X.A.in1) (show X.A.in1.handled=none from I.ok.hd hc) s.heap.objs.size p (War hlt) its.toArray,⟨⟨_,Wal _ rfl,rfl,rfl⟩,p1.isList.push _⟩,?_,?_,λh' tk t' hk=>?_⟩
 ·intro b hb
  show b<(s.heap.push _).objs.size;rw[size_push'];simp only[Wan,Waq,or_false]at hb;rcases hb with z|z
  ·rw[z];exact Nat.lt_succ_self _
  ·rw[z];exact Wbp hlt
 ·intro i v hv
  have hv:its[i]?=some v:=by simpa using (show its.toArray[i]?=some v from hv)
  obtain⟨h1,h2⟩:=Waj.mp hv;obtain⟨t,e⟩:=intsAt hi i h1;exact⟨t,by rw[<- h2,e]⟩
 ·have e:preSum (λi=>ns.getD i 0) its.toArray.size=ns.sum:=by
   rw[Wam,show its.length=ns.length by omega,Zfx ns _ (Waf _),Wbc]
  rw[e];have I0:Inv X pins σ H { s with heap:=s.heap.push { cls:=.type "list_iterator",data:=.fields #[.ref p,.int 0 0] },toks:=s.toks }:=I.kept λb o e=>Waa _ e;have fp:=I.fpOk (b:=s.heap.objs.size) (H':=H) (Waf _) (I.hok.fresh (Waf _));exact⟨.int ns.sum,H,I0.turned (it:=s.heap.objs.size) (λb o hb e=>hk b o (by simpa using hb) e) (I.hok.fresh (Waf _)) (Wbw I.lt) (.inr I.sz) fp.2.2.2.2.1 fp.2.2.2.2.2,⟨_,rfl⟩,q⟩
end
section
variable {K:W.Frag}{Δ:Evt}{P:D->Evt->Prop}
theorem Zrd {ns:List Int}(p:P (.int ns.sum) Δ):JC K (rSum K) [.lst (ns.map D.int)] Δ P:=λg G H σ Q vs k rs c=>by
 obtain⟨_,_,rfl,r,t⟩:=rs.inv
 next=>
  cases t.inv;obtain⟨a,us,rfl,ha,rr⟩:=r.inv
  next=>
   have ev:=rr.ints;subst ev;exact⟨a,ns,rfl,SqL.of (k.live _ _ ha),c _ _ G H Δ k (Same.refl _) (.int _) p⟩
theorem Zi5 {r r':R2}{ta tb tc:TE}(h:JE K ta Δ λd Δ1=>JE K tb Δ1 λe Δ2=>JR2 K r d e Δ2 λz Δ3=>∃k,z=.bl k/\if k=true then JE K tc Δ3 λu Δ4=>JR2 K r' e u Δ4 P else P (.bl false) Δ3):JE K (tChain r r' ta tb tc) Δ P:=λg G H σ Q k c=>
 h g G H σ _ k λx d G1 H1 Δ1 k1 s1 r1 p1=>p1 g G1 H1 σ _ k1 λy e G2 H2 Δ2 k2 s2 r2 p2=>p2 g G2 H2 σ _ x y k2 (r1.mono s2) r2 λz dz G3 H3 Δ3 k3 s3 r3 hq_=>by
  obtain⟨b,eb,p3⟩:=hq_;subst eb;cases r3.inv;refine⟨b,rfl,?_⟩;cases b with
  |true=>
   rw[if_pos rfl]at p3 ⊢;exact p3 g G3 H3 σ _ k3 λu du G4 H4 Δ4 k4 s4 r4 p4=>p4 g G4 H4 σ Q y u k4 (r2.mono (s3.trans s4)) r4 (c.up (s1.trans (s2.trans (s3.trans s4))))
  |false=>
   rw[if_neg Wai]at p3 ⊢;exact c _ _ G3 H3 Δ3 k3 (s1.trans (s2.trans s3)) (.bl false) p3
theorem Zl1 {b:Bool}(p:P (.int (if b then 1 else 0)) Δ):JC K (λxs H Q=>(∃i,xs=[.int i]/\Q (.int i) H)\/∃k,xs=[.bl k]/\Q (.int (if k then 1 else 0)) H) [.bl b] Δ P:=λg G H σ Q vs k rs c=>by
 obtain⟨_,_,rfl,r,t⟩:=rs.inv
 next=>cases t.inv;cases r.inv;exact .inr ⟨b,rfl,c _ _ G H Δ k (Same.refl _) (.int _) p⟩
end
section
variable {K:W.Frag}{Δ:Evt}
theorem Zmz {te:TE}{d:D}{ds:List D}{P:List D->Evt->Prop}(hd:d=.tup ds\/d=.lst ds) (h:JE K te Δ λe Δ1=>e=d/\P ds Δ1):JI K (iSeq K te) Δ P:=by
 rcases hd with rfl|rfl
 ·exact Zdm (h.mono λe Δ1 ⟨e1,p⟩=>⟨_,e1,p⟩)
 ·exact Zfh (h.mono λe Δ1 ⟨e1,p⟩=>⟨_,Or.inl e1,p⟩)
end
open PySem PySem.Spec PyProof.Rows PySem.SeqAt
section
variable {K:W.Frag}{Δ:Evt}{P:D->Evt->Prop}
end
section
variable {K:W.Frag}{Δ:Evt}
end
section
variable {X:Cx}
def rStrU:List V->Hp->VK->Prop:=λxs H Q=>(∃i,xs=[.int i]/\i.natAbs.log2<1920/\Q (.str (toString i)) H)\/∃x,xs=[.str x]/\Q (.str x) H
theorem strUK:CallR X (.type "str") rStrU:=by
 intro pins s σ H xs us Q I r h;rcases h with ⟨i,rfl,hz,q⟩|⟨x,rfl,q⟩
 ·obtain⟨u,rfl,t,rfl⟩:=vals1 r
  exact PySem.P.str_of_int hz ⟨.str _,H,I.tok _,⟨_,rfl⟩,q⟩
 ·obtain⟨u,rfl,t,rfl⟩:=vals1 r
  exact PySem.P.str_of_str ⟨.str _,H,I,⟨_,rfl⟩,q⟩
end
section
variable {K:W.Frag}{Δ:Evt}{P:D->Evt->Prop}
theorem Zrp {x:Str}(p:P (.bl false) Δ):JR2 K rNe (.str x) (.str x) Δ P:=λg G H σ Q u v k rx ry c=>by
 cases rx.inv;cases ry.inv;refine⟨rfl,?_⟩;rw[decide_eq_true rfl];exact c _ _ G H Δ k (Same.refl _) (.bl _) p
end
section
variable {X:Cx}
end
section
variable {K:W.Frag}{Δ:Evt}
end
section
variable {K:W.Frag}{Δ:Evt}{P:D->Evt->Prop}
end
section
variable {X:Cx}{pins:List (Addr × Obj)}{σ:St}{H H':Hp}{s:Shared}{h':Heap}{b:Addr}
end
section
variable {X:Cx}{pins:List (Addr × Obj)}{σ:St}{H H':Hp}{s:Shared}{h':Heap}{a C T:Addr}
variable {M:Model}{E:Value->Shared->Prop}{Q:Unit->Shared->Prop}
end
section
variable {X:Cx}{pins:List (Addr × Obj)}{σ:St}{H:Hp}{s:Shared}{a C:Addr}
end
section
variable {X:Cx}
end
section
variable {P:Program}{w:World}{K:W.Frag}{mg:Str->Option Value}{base:Heap}
end
section
variable {K:W.Frag}{Δ:Evt}{E:XK}{Xp:Addr->Prop}{nx bk ct:Evt->Prop}{rt:D->Evt->Prop}{ro:OD->Evt->Prop}
end
open PySem PySem.Spec PyProof.Rows PySem.SeqAt
section
variable {K:W.Frag}{Δ:Evt}{P:D->Evt->Prop}
end
section
variable {K:W.Frag}{Δ:Evt}
end
section
variable {X:Cx}
def CDivB (i j:Int):Prop:=0<j/\j<=100000000000000000000000000000000000000000000000000000000000
theorem Zgh:OpR X (binaryOp .FloorDiv) (rI CDivB λi j=>.int (i / j)):=opI λi j _ _ _ _ _ hc q=>by
 have h1:(0:Int)<j:=hc.1;have h2:=hc.2;refine floordiv_int (by omega) (by rw[Int.fdiv_eq_ediv_of_nonneg i (by omega)];exact q) (.inl (PyProof.noPylong_of_log2 ?_));have h3:j.natAbs<=100000000000000000000000000000000000000000000000000000000000:=by omega
 have h4:j.natAbs<2 ^ 200:=Wbj h3 (by decide);exact Wc1 ((Nat.log2_lt (by omega)).2 h4) (by decide)
end
section
variable {K:W.Frag}{Δ:Evt}{E:XK}{Xp:Addr->Prop}{P:D->Evt->Prop}
theorem Zpi (p:P (.dct [] []) Δ):JE K tDNewK Δ P:=λg G H σ Q k c q hq=>by
 obtain⟨k2,sg⟩:=k.laid hq (.dK []);exact c _ _ _ _ Δ k2 sg (.dct (vs:=[]) Zay rfl .nil) p
end
theorem Ze7 {ks:List (Option Expr)}{vs:List Expr}{p:Pos}{es:List Expr}{env:Env}:starEach (Expr.Dict ks vs p::es) env=(false,eval (Expr.Dict ks vs p) env)::starEach es env:=rfl
theorem Zfm {vs:List Expr}{p:Pos}{es:List Expr}{env:Env}:starEach (Expr.List vs p::es) env=(false,eval (Expr.List vs p) env)::starEach es env:=rfl
theorem Zce {vs:List Expr}{c} {p:Pos}{es:List Expr}{env:Env}:starEach (Expr.Tuple vs c p::es) env=(false,eval (Expr.Tuple vs c p) env)::starEach es env:=rfl
def keyPd:Key->PyData
 |.inl i=>.int i
 |.inr x=>.str x
mutual
def D.pd:D->PyData
 |.non=>.none
 |.bl b=>.bool b
 |.int i=>.int i
 |.str x=>.str x
 |.tup ds=>.tuple (D.pds ds)
 |.lst ds=>.list (D.pds ds)
 |.dct ks ds=>.dict ((ks.map keyPd).zip (D.pds ds))
 |_=>.none
def D.pds:List D->List PyData
 |[]=>[]
 |d::ds=>D.pd d::D.pds ds
end
mutual
def D.shw:D->Bool
 |.non=>true
 |.bl _=>true
 |.str _=>true
 |.int i=>decide (i.natAbs.log2<1920)
 |.tup ds=>D.shws ds
 |.lst ds=>D.shws ds
 |_=>false
def D.shws:List D->Bool
 |[]=>true
 |d::ds=>D.shw d && D.shws ds
end
def D.shT (d:D):Prop:=d.shw=true\/∃ks ns:List Int,d=.dct (ks.map .inl) (ns.map .int)/\(∀k∈ks,k.natAbs.log2<1920)/\∀n∈ns,n.natAbs.log2<1920
mutual
theorem Zlz:∀d:D,d.shw=true->d.pd.showable=true/\d.pd.hasDict=false
 |.non,_=>⟨rfl,rfl⟩
 |.bl _,_=>⟨rfl,rfl⟩
 |.int i,h=>⟨h,rfl⟩
 |.str _,_=>⟨rfl,rfl⟩
 |.tup ds,h=>Zi2 ds h
 |.lst ds,h=>Zi2 ds h
 |.ty _,h=>by cases h
 |.scr _,h=>by cases h
 |.adr _,h=>by cases h
 |.dct _ _,h=>by cases h
 |.exc _ _,h=>by cases h
theorem Zi2:∀ds:List D,D.shws ds=true->PyData.showableAll (D.pds ds)=true/\PyData.hasDictAll (D.pds ds)=false
 |[],_=>⟨rfl,rfl⟩
 |d::ds,h=>by
  have h:(d.shw && D.shws ds)=true:=h;rw[Wbd]at h;obtain⟨a1,a2⟩:=Zlz d h.1;obtain⟨b1,b2⟩:=Zi2 ds h.2;show (d.pd.showable && PyData.showableAll (D.pds ds))=true/\(d.pd.hasDict || PyData.hasDictAll (D.pds ds))=false;rw[a1,a2,b1,b2];exact⟨rfl,rfl⟩
end
section
variable {P:Program}{w:World}{K:W.Frag}{G H:Hp}{h:Heap}
mutual
theorem Zgs (ok:HOk P w H h) (sg:Same G H):∀{v:V}{d:D}{u:Value},Rep K G v d->d.shw=true->RelV v u->∃as,Reads h u d.pd as
 |_,_,_,.non,_,r=>by cases r;exact⟨_,.none⟩
 |_,_,_,.bl b,_,r=>by cases r;exact⟨_,.bool b⟩
 |_,_,_,.int i,_,r=>by obtain⟨t,rfl⟩:=r;exact⟨_,.int i t⟩
 |_,_,_,.str x,_,r=>by obtain⟨t,rfl⟩:=r;exact⟨_,.str x t⟩
 |_,_,_,.ty _,z,_=>by cases z
 |_,_,_,.tup e rs,z,r=>by
  cases r;obtain⟨_,its,rv,o,ho,⟨hc,n,hd⟩,_⟩:=ok _ _ (sg _ _ e);obtain⟨as,ra⟩:=Zd2 ok sg rs z rv;exact⟨_,.tuple ho hc hd ra⟩
 |_,_,_,.lst e rs,z,r=>by
  cases r;obtain⟨_,its,n,rv,ho⟩:=ok _ _ (sg _ _ e);obtain⟨as,ra⟩:=Zd2 ok sg rs z rv;exact⟨_,.list ho rfl rfl ra⟩
 |_,_,_,.scr _ _,z,_=>by cases z
 |_,_,_,.adr _,z,_=>by cases z
 |_,_,_,.dct _ _ _,z,_=>by cases z
 |_,_,_,.exc _,z,_=>by cases z
theorem Zd2 (ok:HOk P w H h) (sg:Same G H):∀{vs:List V}{ds:List D}{us:List Value},Reps K G vs ds->D.shws ds=true->Vals vs us->∃as,ReadsAll h us (D.pds ds) as
 |_,_,_,.nil,_,r=>by cases r;exact⟨_,.nil⟩
 |_,_,_,.cons (d:=d) (ds:=ds) a b,z,r=>by
  have z:(d.shw && D.shws ds)=true:=z;rw[Wbd]at z;cases r with
  |cons ra rb=>
   obtain⟨as,ha⟩:=Zgs ok sg a z.1 ra;obtain⟨bs,hb⟩:=Zd2 ok sg b z.2 rb;exact⟨_,.cons ha hb⟩
end
theorem Zeq:∀{ks ns:List Int}{kvs:List (Key × Value)}{es:List DictEntry},ks.length=ns.length->KV ((ks.map (Sum.inl:Int->Key)).zip (ns.map V.int)) kvs->Pairs (mixKind P w) es kvs →
  ReadsAll h (es.map (·.key)) (ks.map PyData.int) []/\ReadsAll h (es.map (·.val)) (ns.map PyData.int) []
 |[],[],_,_,_,r,p=>by cases r;cases p;exact⟨.nil,.nil⟩
 |k::ks,n::ns,_,_,l,r,p=>by
  cases r with
  |@cons a b as bs h1 h2=>
   cases p with
   |@cons e kv es kvs q1 q2 q3=>
    obtain⟨i1,i2⟩:=Zeq (ks:=ks) (ns:=ns) (by simpa using l) h2 q3;obtain⟨hk,hv⟩:=h1;obtain⟨t,hv⟩:=hv;have q1:keyIs b.1 e.key=true:=q1;rw[<- hk]at q1;have hk2:∃t,e.key=.int k t:=Value.isInt_shape (k:=k) (v:=e.key) q1;obtain⟨t2,hk2⟩:=hk2;refine⟨?_,?_⟩
    ·rw[Wbb,Wbb,hk2];exact .cons (as:=[]) (.int k t2) i1
    ·rw[Wbb,Wbb,q2,hv];exact .cons (as:=[]) (.int n t) i2
 |[],_::_,_,_,l,_,_=>by cases l
 |_::_,[],_,_,l,_,_=>by cases l
end
theorem Zim:∀{ks ns:List Int},ks.length=ns.length->(((ks.map Sum.inl).map keyPd).zip (D.pds (ns.map D.int))).map (·.1)=ks.map PyData.int/\(((ks.map Sum.inl).map keyPd).zip (D.pds (ns.map D.int))).map (·.2)=ns.map PyData.int
 |[],[],_=>⟨rfl,rfl⟩
 |k::ks,n::ns,l=>by
  obtain⟨h1,h2⟩:=Zim (ks:=ks) (ns:=ns) (by simpa using l);simp only[Wbb,D.pds,List.zip_cons_cons];rw[h1,h2];exact⟨rfl,rfl⟩
 |[],_::_,l=>by cases l
 |_::_,[],l=>by cases l
theorem shkv:∀{ks ns:List Int},(∀k∈ks,k.natAbs.log2<1920)->(∀n∈ns,n.natAbs.log2<1920)->PyData.showableKv (((ks.map Sum.inl).map keyPd).zip (D.pds (ns.map D.int)))=true
 |[],_,_,_=>rfl
 |_::_,[],_,_=>rfl
 |k::ks,n::ns,h1,h2=>by
  have i:=shkv (ks:=ks) (ns:=ns) (λa ha=>h1 a (Wat _ ha)) (λa ha=>h2 a (Wat _ ha));show (decide (k.natAbs.log2<1920) && decide (n.natAbs.log2<1920) && PyData.showableKv _)=true;rw[Wbd,Wbd];exact⟨⟨decide_eq_true (h1 k (Wau ..)),decide_eq_true (h2 n (Wau ..))⟩,i⟩
def rRepr (K:W.Frag):List V->Hp->VK->Prop:=λxs H Q=>∃(G:Hp) (v:V) (d:D),xs=[v]/\Same G H/\Rep K G v d/\d.shT/\d.pd.depth<=20/\d.pd.shown.length<=sizeLine/\Q (.str d.pd.shown) H
section
variable {X:Cx}
theorem reprK (K:W.Frag) (hg:X.A.guards=some []) (hu:X.A.units+30<cLine) (hK:X.K=K:=by rfl):CallR X (.builtin "repr") (rRepr K):=by
 subst hK;intro pins s σ H xs us Q I r h;obtain⟨G,v,d,rfl,sg,rep,sh,dp,sz,q⟩:=h;obtain⟨u,rfl,ru⟩:=vals1 r;have fin:∀(a:Addr),u=.ref a->(∃as,Reads s.heap (.ref a) d.pd as/\d.pd.showable=true/\(d.pd.hasDict=true->sysModules ∉ as))->wpAny (model X.prog X.w) X.A (call (.builtin "repr") [u]) (EP X pins σ Q) X.xe s:=λa e ⟨as,h1,h2,h3⟩=>by
  subst e;exact repr_of_reads' h1 h2 h3 hg (by omega) (λ_ _ e=>e) (λh' t tk hk=>⟨.str _,H,I.kept hk,⟨_,rfl⟩,q⟩) sz
 rcases sh with z|⟨ks,ns,rfl,z1,z2⟩
 ·obtain⟨as,h1⟩:=Zgs I.hok sg rep z ru
  obtain⟨h2,h3⟩:=Zlz d z;have big:∀a,u=.ref a->wpAny (model X.prog X.w) X.A (call (.builtin "repr") [u]) (EP X pins σ Q) X.xe s:=λa e=>fin a e ⟨as,e ▸ h1,h2,λh4=>by rw[h3]at h4;cases h4⟩;cases rep with
  |non=>cases ru;exact PySem.P.repr_of_none ⟨.str _,H,I.tok _,⟨_,rfl⟩,q⟩
  |bl b=>cases ru;exact PySem.P.repr_of_bool ⟨.str _,H,I.tok _,⟨_,rfl⟩,q⟩
  |int i=>obtain⟨t,rfl⟩:=ru;exact PySem.P.repr_of_int (of_decide_eq_true z) ⟨.str _,H,I.tok _,⟨_,rfl⟩,q⟩
  |str x=>obtain⟨t,rfl⟩:=ru;exact PySem.P.repr_of_str ⟨.str _,H,I.tok _,⟨_,rfl⟩,q⟩ sz
  |tup e rs=>exact big _ ru
  |lst e rs=>exact big _ ru
  |_=>cases z
 ·cases rep with
  |@dct a _ vs _ e l rs=>
   cases (show u=Value.ref a from ru);have ev:=Reps.ints rs;subst ev;have l2:ks.length=ns.length:=by simpa using l
   obtain⟨_,hS,kvs,rk,o,es,ep,ho,hc,hd,_,hp,_⟩:=Zj5 I.hok (sg _ _ e);obtain⟨r1,r2⟩:=Zeq (h:=s.heap) l2 rk hp;obtain⟨e1,e2⟩:=Zim l2;rw[<- e1]at r1;rw[<- e2]at r2;have rd:Reads s.heap (.ref a) (D.pd (.dct (ks.map Sum.inl) (ns.map D.int))) (a::[]++[]):=.dict ho hc.1 hd r1 r2;refine fin a rfl ⟨_,rd,shkv z1 z2,λ_ hm=>?_⟩
   ·have hm:sysModules=a:=by simpa using hm
    subst hm;exact absurd hS (by rw[beq_self_eq_true];decide)
end
section
variable {K:W.Frag}{Δ:Evt}{P:D->Evt->Prop}
theorem Zmf:bootBuiltins "repr" = some (.builtin "repr"):=by decide +kernel
theorem Zqy {A:Around}{k:Nat}(hr:Room k A):A.units+30<cLine:=Wbj (Wco (by decide:30<=64) _) hr.units
theorem Zok {i:Int}(h1:-1000000000000000000000000000000000000000000000000000000000000<=i) (h2:i<=1000000000000000000000000000000000000000000000000000000000000):i.natAbs.log2<1920:=by
 by_cases z:i.natAbs=0
 ·rw[z];decide
 ·have h4:i.natAbs<2 ^ 200:=Wbj (m:=1000000000000000000000000000000000000000000000000000000000000) (by omega) (by decide)
  exact Wc1 ((Nat.log2_lt z).2 h4) (by decide)
theorem Zpb {d:D}(h1:d.shT) (h2:d.pd.depth<=20) (h3:d.pd.shown.length<=sizeLine) (p:P (.str d.pd.shown) Δ):JC K (rRepr K) [d] Δ P:=λg G H σ Q vs k rs c=>by
 obtain⟨_,_,rfl,r,t⟩:=rs.inv
 next=>cases t.inv;exact⟨G,_,d,rfl,k.live,r,h1,h2,h3,c _ _ G H Δ k (Same.refl _) (.str _) p⟩
end
section
variable {P:Program}{w:World}{K:W.Frag}{G H:Hp}{h:Heap}
theorem Zoe (ok:HOk P w H h) (sg:Same G H) {v:V}{d:D}{u:Value}(rep:Rep K G v d) (sh:d.shT) (ru:RelV v u):∃as,Reads h u d.pd as/\d.pd.showable=true/\(d.pd.hasDict=true->sysModules ∉ as):=by
 rcases sh with z|⟨ks,ns,rfl,z1,z2⟩
 ·obtain⟨as,h1⟩:=Zgs ok sg rep z ru
  obtain⟨h2,h3⟩:=Zlz d z;exact⟨as,h1,h2,λh4=>by rw[h3]at h4;cases h4⟩
 ·cases rep with
  |@dct a _ vs _ e l rs=>
   cases (show u=Value.ref a from ru);have ev:=Reps.ints rs;subst ev;have l2:ks.length=ns.length:=by simpa using l
   obtain⟨_,hS,kvs,rk,o,es,ep,ho,hc,hd,_,hp,_⟩:=Zj5 ok (sg _ _ e);obtain⟨r1,r2⟩:=Zeq (h:=h) l2 rk hp;obtain⟨e1,e2⟩:=Zim l2;rw[<- e1]at r1;rw[<- e2]at r2;have rd:Reads h (.ref a) (D.pd (.dct (ks.map Sum.inl) (ns.map D.int))) (a::[]++[]):=.dict ho hc.1 hd r1 r2;refine⟨_,rd,shkv z1 z2,λ_ hm=>?_⟩;have hm:sysModules=a:=by simpa using hm
   subst hm;exact absurd hS (by rw[beq_self_eq_true];decide)
def D.shU (d:D):Prop:=d.shT\/∃x:Str,d=.tup [.str x,.dct [] []]
theorem Zoi (ok:HOk P w H h) (sg:Same G H) {v:V}{d:D}{u:Value}(rep:Rep K G v d) (sh:d.shU) (ru:RelV v u):∃as,Reads h u d.pd as/\d.pd.showable=true/\(d.pd.hasDict=true->sysModules ∉ as):=by
 rcases sh with z|⟨x,rfl⟩
 ·exact Zoe ok sg rep z ru
 ·cases rep with
  |tup e rs=>
   cases ru;obtain⟨_,its,rv,o,ho,⟨hc,n,hd⟩,_⟩:=ok _ _ (sg _ _ e);cases rs with
   |cons r1 rs=>
    cases rs with
    |cons r2 rs=>
     cases rs;cases rv with
     |cons v1 rv=>
      cases rv with
      |cons v2 rv=>
       cases rv;cases r1;obtain⟨t,rfl⟩:=v1;obtain⟨as,h1,h2,h3⟩:=Zoe ok sg r2 (.inr ⟨[],[],rfl,by simp,by simp⟩) v2;exact⟨_,.tuple ho hc hd (.cons (.str x t) (.cons h1 .nil)),rfl,λ_=>by rw[List.nil_append,Wbh];exact h3 rfl⟩
theorem Zkn (ok:HOk P w H h) (sg:Same G H):∀{vs:List V}{ds:List D}{us:List Value},Reps K G vs ds->(∀x∈ds,x.shU)->Vals vs us->(∀t∈PyData.shownAll (D.pds ds),t.length<=sizeLine) →
  (∃as,ReadsAll h us (D.pds ds) as)/\∃bs,ReadAtMost h (PyData.depthAll (D.pds ds)) bs/\ReprAllK P w bs h (PyData.depthAll (D.pds ds)) us (PyData.shownAll (D.pds ds))
 |_,_,_,.nil,_,r,_=>by cases r;exact⟨⟨_,.nil⟩,[],(λ_ h=>nomatch h),.nil⟩
 |_,_,_,.cons (d:=d) (ds:=ds) a b,z,r,hz=>by
  cases r with
  |cons ra rb=>
   obtain⟨as,h1,h2,h3⟩:=Zoi ok sg a (z _ (Wau ..)) ra;obtain⟨⟨as2,h4⟩,b2,hb2,k2⟩:=Zkn ok sg b (λx hx=>z x (Wat _ hx)) rb (λt ht=>hz t (Wat _ ht));obtain⟨b1,hb1,k1⟩:=ReprK.of_reads (prog:=P) (w:=w) h1 h2 h3 (hz _ (Wau ..));refine⟨⟨_,.cons h1 h4⟩,b1++b2,λb hm=>?_,.cons ((k1.more λb hb=>Wbv _ hb).level_le (Wcc _ _)) (k2.more_le (λb hb=>Wax _ hb) (Wb5 _ _))⟩;rcases Waz.mp hm with hm|hm
   ·obtain⟨d',as',r',hd'⟩:=hb1 b hm
    exact⟨d',as',r',Was hd' (Wcc _ _)⟩
   ·obtain⟨d',as',r',hd'⟩:=hb2 b hm
    exact⟨d',as',r',Was hd' (Wb5 _ _)⟩
end
def rEqS (K:W.Frag):R2:=λx y H Q=>rEq x y H Q\/∃a xs t,x=.ref a/\y=.str t/\SqL K H a xs/\Q (.bl false) H
section
variable {X:Cx}
theorem eqSK (K:W.Frag) (hu:X.A.units+1<cLine) (hK:X.K=K:=by rfl):OpR X (compareOp .Eq) (rEqS K):=by
 subst hK;intro pins s σ H x y v u Q I rx ry h;rcases h with h|⟨a,xs,t,rfl,rfl,hx,q⟩
 ·exact Zrv pins s σ H x y v u Q I rx ry h
 ·cases rx
  obtain⟨tk,rfl⟩:=ry;obtain⟨its,w1,p1,hz⟩:=I.list hx;exact PySem.SeqAt.RcAt.list_str t tk p1.isList (by omega) X.prog X.w _ _ ⟨.bl false,H,I,rfl,q⟩
end
section
variable {K:W.Frag}{Δ:Evt}{P:D->Evt->Prop}
theorem Zpx {x y:Str}(p:P (.bl (decide (x=y))) Δ):JR2 K (rEqS K) (.str x) (.str y) Δ P:=λg G H σ Q v u k rx ry c=>by
 cases rx.inv;cases ry.inv;refine .inl ⟨rfl,?_⟩;rw[show decide (V.str x=V.str y)=decide (x=y) from decide_eq_decide.mpr ⟨λe=>V.str.inj e,λe=>by rw[e]⟩];exact c _ _ G H Δ k (Same.refl _) (.bl _) p
end
def rEqT0 (K:W.Frag):R2:=λx y H Q=>∃(a b:Addr) (xs:List V),x=.ref a/\y=.ref b/\SqT K H a xs/\SqT K H b []/\Q (.bl xs.isEmpty) H
theorem eqT0K {X:Cx}(K:W.Frag) (hu:X.A.units+1<cLine) (hK:X.K=K:=by rfl):OpR X (compareOp .Eq) (rEqT0 K):=by
 subst hK;intro pins s σ H x y v u Q I rx ry h;obtain⟨a,b,xs,rfl,rfl,h1,h2,q⟩:=h;cases rx;cases ry;obtain⟨its,w1,p1,_⟩:=I.tuple h1;obtain⟨its2,w2,p2,_⟩:=I.tuple h2;cases w2;refine PySem.SeqAt.RcAt.tuples (A:=X.A) (s:=s) (e:=λ_=>true) p1 p2 (by omega) (λj _ z=>absurd z (by simp)) X.prog X.w _ _ ?_;have e:((Wa4 (min its.toArray.size ([]:List Value).toArray.size)).all (λ_=>true) && its.toArray.size == ([]:List Value).toArray.size)=xs.isEmpty:=by
  cases w1 with
  |nil=>rfl
  |cons _ _=>simp
 rw[e];exact⟨.bl _,H,I,rfl,q⟩
theorem Zou {K:W.Frag}{Δ:Evt}{P:D->Evt->Prop}{ds:List D}(p:P (.bl ds.isEmpty) Δ):JR2 K (rEqT0 K) (.tup ds) (.tup []) Δ P:=λg G H σ Q x y k rx ry c=>by
 obtain⟨_,_,rfl,ha,ra⟩:=rx.inv
 next=>
  obtain⟨_,_,rfl,hb,rb⟩:=ry.inv
  next=>
   cases rb.inv;refine⟨_,_,_,rfl,rfl,SqT.of (k.live _ _ ha),SqT.of (k.live _ _ hb),?_⟩;rw[ra.isEmpty];exact c _ _ G H Δ k (Same.refl _) (.bl _) p
section
variable {K:W.Frag}{Δ:Evt}{P:D->Evt->Prop}
end
def PV (K:W.Frag) (te:TE) (Δ:Evt) (d:D):Prop:=∀P:D->Evt->Prop,P d Δ -> JE K te Δ P
def PVs (K:W.Frag) (ta:TA) (Δ:Evt) (ds:List D):Prop:=∀P:List D->Evt->Prop,P ds Δ -> JA K ta Δ P
def PR2 (K:W.Frag) (r:R2) (d e:D) (Δ:Evt) (x:D):Prop:=∀P:D->Evt->Prop,P x Δ -> JR2 K r d e Δ P
section
variable {K:W.Frag}{Δ:Evt}
theorem Zdx {te:TE}{d:D}{P:D->Evt->Prop}(h:PV K te Δ d) (p:P d Δ):JE K te Δ P:=h P p
theorem Zqv {ta:TA}{ds:List D}{P:List D->Evt->Prop}(h:PVs K ta Δ ds) (p:P ds Δ):JA K ta Δ P:=h P p
theorem Zap {i:Nat}{d:D}(h:Δ[i]?=some (.val d)):PV K (tVar i) Δ d:=λP p=>Zab h p
theorem Zbg {i:Int}:PV K (tC (.int i)) Δ (.int i):=λP p=>Zak p
theorem Zmx {b:Bool}:PV K (tC (.bl b)) Δ (.bl b):=λP p=>Zcc p
theorem Zjg:PV K (tC .non) Δ .non:=λP p=>Zod p
theorem Zec {x:Str}:PV K (tC (.str x)) Δ (.str x):=λP p=>Zgc p
theorem Zi4:PV K tDNewK Δ (.dct [] []):=λP p=>Zpi p
theorem Za1:PVs K tNil Δ []:=λP p=>Zah p
theorem Zag {ta:TE}{tr:TA}{d:D}{ds:List D}(h:PV K ta Δ d) (t:PVs K tr Δ ds):PVs K (tCons ta tr) Δ (d::ds):=λP p=>Zac (h _ (t _ p))
theorem Zbv {ta:TA}{ds:List D}(h:PVs K ta Δ ds) (z:ds.length<=sizeLine):PV K (tTup ta) Δ (.tup ds):=λP p=>Zez (h _ ⟨z,p⟩)
theorem Zdo {ta:TA}{ds:List D}(h:PVs K ta Δ ds) (z:ds.length<=sizeLine):PV K (tLst ta) Δ (.lst ds):=λP p=>Zof (h _ ⟨z,p⟩)
theorem Zbz {r:R2}{ta tb:TE}{d e x:D}(a:PV K ta Δ d) (b:PV K tb Δ e) (h:PR2 K r d e Δ x):PV K (tOp r ta tb) Δ x:=λP p=>Zaj (a _ (b _ (h P p)))
theorem Zrm {ds:List D}{i:Int}{d:D}(h:atI ds i=some d):PR2 K (rIxU K) (.tup ds) (.int i) Δ d:=λP p=>Zan h p
theorem Zij {ds es:List D}(hz:ds.length+es.length<=sizeLine):PR2 K (rAddU K) (.lst ds) (.lst es) Δ (.lst (ds++es)):=λP p=>Zos hz p
theorem Zdj {i j:Int}:PR2 K (rAddU K) (.int i) (.int j) Δ (.int (i+j)):=λP p=>Zc7 p
theorem Zna {f:Int->Int->Int}{i j:Int}:PR2 K (rI0 λi j=>.int (f i j)) (.int i) (.int j) Δ (.int (f i j)):=λP p=>Zi0 p
theorem pr_I {C:Int->Int->Prop}{f:Int->Int->Int}{i j:Int}(hc:C i j):PR2 K (rI C λi j=>.int (f i j)) (.int i) (.int j) Δ (.int (f i j)):=λP p=>jr_I hc p
theorem Zqa {ta tb:TE}{ds:List D}{i:Int}{d:D}(a:PV K ta Δ (.tup ds)) (b:PV K tb Δ (.int i)) (h:atI ds i=some d):PV K (tOp (rIxU K) ta tb) Δ d:=Zbz a b (Zrm h)
theorem Zk3 {ta:TE}{ds:List D}(a:PV K ta Δ (.tup ds)):PV K (tCB (rLenU K) (tCons ta tNil)) Δ (.int ds.length):=λP p=>Zba (Zac (a _ (Zah (Zcr (.inr rfl) p))))
end
open PySem PySem.Spec PyProof.Rows PySem.SeqAt
def rEqL0 (K:W.Frag):R2:=λx y H Q=>∃(a b:Addr) (xs:List V),x=.ref a/\y=.ref b/\SqL K H a xs/\SqL K H b []/\Q (.bl xs.isEmpty) H
theorem eqL0K {X:Cx}(K:W.Frag) (hu:X.A.units+1<cLine) (hK:X.K=K:=by rfl):OpR X (compareOp .Eq) (rEqL0 K):=by
 subst hK;intro pins s σ H x y v u Q I rx ry h;obtain⟨a,b,xs,rfl,rfl,h1,h2,q⟩:=h;cases rx;cases ry;obtain⟨its,w1,p1,_⟩:=I.list h1;obtain⟨its2,w2,p2,_⟩:=I.list h2;cases w2;cases w1 with
 |nil=>exact RcAt.lists (A:=X.A) (s:=s) (e:=λ_=>true) p1.isList p2.isList rfl (by omega) (λj _ z=>absurd z (by simp)) X.prog X.w _ _ ⟨.bl _,H,I,rfl,q⟩
 |cons r t=>exact RcAt.lists_lengths (A:=X.A) (s:=s) p1.isList p2.isList (by simp) (by omega) X.prog X.w _ _ ⟨.bl _,H,I,rfl,q⟩
theorem Zpp {K:W.Frag}{Δ:Evt}{P:D->Evt->Prop}{ds:List D}(p:P (.bl ds.isEmpty) Δ):JR2 K (rEqL0 K) (.lst ds) (.lst []) Δ P:=λg G H σ Q x y k rx ry c=>by
 obtain⟨_,_,rfl,ha,ra⟩:=rx.inv;obtain⟨_,_,rfl,hb,rb⟩:=ry.inv;cases rb.inv;refine⟨_,_,_,rfl,rfl,SqL.of (k.live _ _ ha),SqL.of (k.live _ _ hb),?_⟩;rw[ra.isEmpty];exact c _ _ G H Δ k (Same.refl _) (.bl _) p
open PySem PySem.Spec PyProof.Rows PySem.SeqAt
section
variable {K:W.Frag}{Δ:Evt}
end
section
variable {K:W.Frag}{Δ:Evt}{nx bk ct:Evt->Prop}{rt:D->Evt->Prop}{ro:OD->Evt->Prop}
end
section
variable {K:W.Frag}{Δ:Evt}{P:D->Evt->Prop}
theorem Zo8 {neg:Bool}{n:Nat}{ta:TE}(h:JE K ta Δ λd Δ1=>∃(x:Slot) (ns:List Int) (i:Int),Δ1[n]?=some x/\x.od=some (.lst (ns.map D.int))/\d=.int i/\P (.bl (if neg then !decide (i∈ns) else decide (i∈ns))) Δ1):JE K (tOp (rInU K neg) ta (tVar n)) Δ P:=λg G H σ Q k c=>
 h g G H σ _ k λv d G1 H1 Δ1 k1 s1 r1 hq_=>by
  obtain⟨x,ns,i,q1,q2,q3,p⟩:=hq_;subst q3;cases r1.inv;obtain⟨a,o,w1,w2,w3,w4,w5⟩:=k1.own n x _ q1 q2;cases o with
  |lst vs=>
   have rs:Reps K G1 vs (ns.map D.int):=w3;have ev:=rs.ints;subst ev;refine⟨.ref a,w1,.inl ⟨_,_,rfl,.inl (SqL.of w2),rfl,Zg9 ns,?_⟩⟩;rw[Zi7];exact c _ _ G1 H1 Δ1 k1 s1 (.bl _) p
  |_=>exact absurd w3 (λz=>z)
end
end L2
set_option Elab.async false
set_option linter.all false
set_option maxRecDepth 100000
namespace HT
open PySem PyProof.Rows
end HT
namespace L2
open PySem PySem.Spec PyProof.Rows
section
variable {K:W.Frag}{Δ:Evt}{P:D->Evt->Prop}
end
section
variable {prog:Program}{w:World}{A:Around}{R:Result->Shared->Prop}{I:Addr}{fp wr:List Addr}{G:Array GenState->Array GenState->Prop}{n:Nat}{P:Nat->Value->Prop}{St:Nat->Shared->Prop}{K:Type}[DecidableEq K] {knd:KeyKind prog w K}
end
section
variable {X:Cx}
end
end L2
namespace L2
open PySem PySem.Spec PyProof.Rows
section
variable {prog:Program}{w:World}{A:Around}{E:Value->Shared->Prop}{s:Shared}
end
section
variable {K:W.Frag}{Δ:Evt}{P:D->Evt->Prop}
end
end L2
namespace L2
open PySem PySem.Spec PyProof.Rows
open PySem PySem.Spec PyProof.Rows PySem.SeqAt
section
variable {prog:Program}{w:World}{A:Around}{E:Value->Shared->Prop}{s:Shared}
end
section
variable {K:W.Frag}{Δ:Evt}
end
open PySem PySem.Spec PyProof.Rows PySem.SeqAt
section
open PySem.AutoSeq1 (wpAny_loadPart')
open PySem.MeetsSeq PySem.MeetsSeq2 PySem.MeetsSeq3
end
section
variable {prog:Program}{w:World}{A:Around}{R:Result->Shared->Prop}{I:Addr}{fp wr:List Addr}{n:Nat}{P:Nat->Value->Prop}{St:Nat->Heap->Prop}
end
end L2
namespace L2
open PySem PySem.Spec PyProof.Rows PySem.SeqAt
section
variable {K:W.Frag}{Δ:Evt}{P:D->Evt->Prop}
end
open PySem PySem.Spec PyProof.Rows PySem.SeqAt
section
variable {K:W.Frag}{Δ:Evt}{P:D->Evt->Prop}
end
open PySem PySem.Spec PyProof.Rows PySem.SeqAt
open PySem in
theorem Zbd {v} {j} {p:Pos}{es:List Expr}{env:Env}:starEach (Expr.Constant v j p::es) env=(false,eval (Expr.Constant v j p) env)::starEach es env:=rfl
open PySem in
theorem Zdb {a b:Expr}{op:Operator}{p:Pos}{es:List Expr}{env:Env}:starEach (Expr.BinOp a op b p::es) env=(false,eval (Expr.BinOp a op b p) env)::starEach es env:=rfl
section
variable {X:Cx}
theorem Ze1:fillsNumberSlot (.type "tuple") "mul" = pure false:=
 PySem.fillsNumberSlot_seq (id:="tuple.__mul__") (r:=some (.builtin "tuple.__rmul__")) F.slot_tuple_mul.lookup (by decide +kernel) F.slot_tuple_rmul.lookup (by decide +kernel)
theorem Zh2:seqRepeat? (.type "tuple")=pure (some (.builtin "tuple.__mul__")):=by
 unfold seqRepeat?;rw[PySem.seqSlot_of (T:="tuple") (name:="__mul__") (id:="tuple.__mul__") F.slot_tuple_mul.lookup (by decide +kernel),PySem.seqSlot_of (T:="tuple") (name:="__rmul__") (id:="tuple.__rmul__") F.slot_tuple_rmul.lookup (by decide +kernel)];rfl
theorem Zeo (a:Int) (t:Tok) (l:Addr) (items:Array Value) (n:Nat) (d:Option Addr) (sl:Array (Option Value)) :
  Meets (Builtin.«int.__rmul__» ⟨[.int a t,.ref l],[]⟩) (λ_ R s=>s.heap.get? l=some { cls:=.type "tuple",dict:=d,data:=.seq items n,slots:=sl } /\ R (.ok (.ret Value.notImplemented)) s):=
 .of_wp λprog w A R s h=>by obtain⟨hp,g,d,tk,os⟩:=s;obtain⟨hl,h⟩:=h;wp_walk;exact⟨_,rfl,h⟩
end
open PySem PySem.Spec PyProof.Rows PySem.SeqAt
open PySem PySem.Spec PyProof.Rows PySem.SeqAt
section
variable {X:Cx}
end
section
variable {prog:Program}{w:World}{A:Around}{E:Value->Shared->Prop}{s:Shared}
end
section
variable {K:W.Frag}{Δ:Evt}{P:D->Evt->Prop}
theorem Zhh {i:Nat}{ds:List D}{t:TS}{P:Pst}(h:Δ[i]?=some (.own (.lst ds))) (p:JS K t (Δ.set i (.val (.lst ds))) P):JS K t Δ P:=
 JS.conv (λg G H σ k=>by
  obtain⟨a,h1,pd⟩:=k.take h;obtain⟨o,q1,q2,_⟩:=id pd;cases o with
  |lst vs=>
   obtain⟨k2,sg,r⟩:=(k.drop i).freeze pd q1;have k3:=k2.setVal (i:=i) (by simpa using (Waj.mp h).1) r;have e1:σ.set i (some (.ref a)) = σ:=by
    apply Wbl;intro j;by_cases hj:j=i
    ·subst hj;rw[Way (k.lt h),h1]
    ·rw[Wa0 (Ne.symm hj)]
   rw[e1,List.set_set]at k3;exact⟨_,sg,k3⟩
  |_=>exact absurd q2 (λz=>z)) p
end
open PySem PySem.Spec PyProof.Rows PySem.SeqAt
section
variable {prog:Program}{w:World}{A:Around}{E:Value->Shared->Prop}{s:Shared}
end
section
variable {K:W.Frag}{Δ:Evt}
end
section
variable {K:W.Frag}{Δ:Evt}{P:D->Evt->Prop}
end
section
variable {X:Cx}
end
def stp (m:Nat):Nat->Nat->Nat
 |0,i=>i
 |k+1,i=>(stp m k i*5+1) % (m+1)
def orb (m:Nat):Nat->Nat->List Nat
 |0,_=>[]
 |f+1,i=>i::orb m f ((i*5+1) % (m+1))
def SmP (k:Int × Int):Prop:=0<=k.1/\k.1<64/\0<=k.2/\k.2<2
section
variable {prog:Program}{w:World}{A:Around}{E:Value->Shared->Prop}{s:Shared}
variable {hf:Int × Int->Int}(hfi:∀{a b:Int × Int},SmP a->SmP b->hf a=hf b->a=b)
include hfi
end
section
variable {X:Cx}
variable {o e:Expr}{es:List Expr}{to:TE}{t:TA}{name:Str}{apos cpos:Pos}{id:String}{r:V->List V->Hp->VK->Prop}
end
end L2
namespace L2
open PySem PySem.Spec PyProof.Rows
end L2
namespace L2
open PySem PySem.Spec PyProof.Rows
open PySem PySem.Spec PyProof.Rows PySem.SeqAt
section
variable {X:Cx}
end
section
variable {K:W.Frag}{Δ:Evt}
theorem Zii {x y:Str}{P:D->Evt->Prop}(p:P (.bl (decide (x=y))) Δ):JR2 K rEq (.str x) (.str y) Δ P:=λg G H σ Q v u k rx ry c=>by
 cases rx.inv;cases ry.inv;refine⟨rfl,?_⟩;rw[show decide (V.str x=V.str y)=decide (x=y) from decide_eq_decide.mpr ⟨λe=>V.str.inj e,λe=>by rw[e]⟩];exact c _ _ G H Δ k (Same.refl _) (.bl _) p
theorem Zks {P:D->Evt->Prop}{sel:List Nat}{wi:TI}{tc:TT}{te:TE}(hsel:sel.Nodup)
  (h:JI K wi Δ λds Δ1=>ds.length<sizeLine/\∃(p:D->Bool) (f:D->D),
   (∀(i:Nat) d,ds[i]?=some d->∃a b c,d=.tup [a,.tup [b,c]]/\JT K tc (.val a::.val b::.val c::fixD sel Δ1) λt Δ4=>t=p d/\if t=true then JE K te Δ4 λe Δ5=>e=f d/\∃x y z,Δ5=x::y::z::fixD sel Δ1 else ∃x y z,Δ4=x::y::z::fixD sel Δ1) ∧
   P (.lst ((ds.filter p).map f)) Δ1):JE K (tComp 3 sel wi (gTup K 2 (gCons (gName 0) (gCons (gTup K 2 (gCons (gName 1) (gCons (gName 2) gNil))) gNil))) tc te) Δ P:=by
 refine Zg4 hsel λg G H σ R k c=>h g G H σ R k λJ ds G' H' Δ' k' s' it ⟨z,p,f,ht,he⟩=>c J ds G' H' Δ' k' s' it ⟨z,fixD sel Δ',p,f,rfl,λi d ts hd hts=>?_,?_⟩
 ·obtain⟨a,b,c,rfl,hj⟩:=ht i d hd
  refine Zh7 rfl (Zc6 (Zc8 (by decide) (Zc6 (Zh7 rfl (Zc6 (Zc8 (by decide) (Zc6 (Zc8 (by decide) (Zgx (Zgx ?_))))))))));obtain⟨x,y,z,rfl⟩:∃x y z,ts=[x,y,z]:=by
   match ts,hts with
   |[x,y,z],_=>exact⟨x,y,z,rfl⟩
  intro g G H σ Q k c;refine hj g G H σ Q k λb G1 H1 Δ1 k1 s1 ⟨e1,q⟩=>c b G1 H1 Δ1 k1 s1 ⟨e1,?_⟩;cases b with
  |true=>
   rw[if_pos rfl]at q ⊢;exact q.mono λe Δ5 ⟨e2,x,y,z,e3⟩=>⟨e2,[x,y,z],rfl,e3⟩
  |false=>
   rw[if_neg Wai]at q ⊢;obtain⟨x,y,z,e3⟩:=q;exact⟨[x,y,z],rfl,e3⟩
 ·rw[Zdu (by simp)];exact he
end
open PySem PySem.Spec PyProof.Rows PySem.SeqAt
theorem Zq5:bootBuiltins "any" = some (.builtin "any"):=by decide +kernel
section
variable {X:Cx}
def rAny (K:W.Frag):List V->Hp->VK->Prop:=λxs H Q=>∃(p:Addr) (bs:List Bool),xs=[.ref p]/\SqL K H p (bs.map V.bl)/\Q (.bl (bs.any id)) H
theorem anyK (K:W.Frag) (hc:X.calm=true) (hK:X.K=K:=by rfl):CallR X (.builtin "any") (rAny K):=by
 subst hK;intro pins s σ H xs us Q I r h;obtain⟨p,bs,rfl,hx,q⟩:=h;obtain⟨u,rfl,ru⟩:=vals1 r;cases (show u=Value.ref p from ru);obtain⟨its,w1,p1,_⟩:=I.list hx;have hlt:p<s.heap.objs.size:=by obtain⟨o,e,_⟩:=p1.isList;exact Wak e
 have hval:∀(bs:List Bool) (its:List Value),Vals (bs.map V.bl) its->its=bs.map Value.bool:=by
  intro bs
  induction bs with
  |nil=>intro its h;cases h;rfl
  |cons b r ih=>intro its h;cases h with|cons h1 h2=>cases (show _=Value.bool b from h1);rw[ih _ h2];rfl
 have e:=hval bs its w1;subst e;refine call_any_walk (wpAny_pyIter_list p1.isList ?_);refine⟨s.heap.objs.size,_,_,_,_,_,λi=>bs.getD i false,rfl,Walks.list (prog:=X.prog) (w:=X.w) (A:=X.A.in1) (show X.A.in1.handled=none from I.ok.hd hc) s.heap.objs.size p (War hlt) (bs.map Value.bool).toArray,⟨⟨_,Wal _ rfl,rfl,rfl⟩,p1.isList.push _⟩,?_,λh' tk hk=>?_⟩
 ·intro i v s0 Q0 E0 hv hq
  have hv:(bs.map Value.bool).toArray[i]?=some v:=hv;have hv:(bs.map Value.bool)[i]?=some v:=by simpa using hv
  rw[Wad]at hv;cases z:bs[i]? with
  |none=>rw[z]at hv;cases hv
  |some b=>
   rw[z]at hv;have hv:Value.bool b=v:=by simpa using hv
   subst hv;have e0:bs.getD i false=b:=by rw[Wae,z];rfl
   have hq:Q0 (bs.getD i false) s0:=hq;rw[e0]at hq;exact wpAny_truthy_bool hq
 ·have e:(Wa4 (bs.map Value.bool).toArray.size).any (λi=>bs.getD i false)=bs.any id:=by
   rw[Wam,Wab];rw[Wca,Wc2,Wc2];constructor
   ·rintro⟨i,hi,hh⟩
    rw[Wbm]at hi;rw[Wae,Wac hi]at hh;exact⟨_,Wa9 hi,hh⟩
   ·rintro⟨b,hb,hh⟩
    obtain⟨i,hi,rfl⟩:=List.mem_iff_getElem.mp hb;exact⟨i,Wbm.mpr hi,by rw[Wae,Wac hi];exact hh⟩
  rw[e];have I0:Inv X pins σ H { s with heap:=s.heap.push { cls:=.type "list_iterator",data:=.fields #[.ref p,.int 0 0] },toks:=s.toks }:=I.kept λb o e=>Waa _ e;refine⟨.bl (bs.any id),H,I0.turned (it:=s.heap.objs.size) (λb o hb e=>hk b o (by simpa using hb) e) (I.hok.fresh (Waf _)) (Wbw I.lt) (.inr I.sz) ?_ ?_,rfl,q⟩
  ·have:=I.fpOk (b:=s.heap.objs.size) (H':=H) (Waf _) (I.hok.fresh (Waf _))
   exact this.2.2.2.2.1
  ·have:=I.fpOk (b:=s.heap.objs.size) (H':=H) (Waf _) (I.hok.fresh (Waf _))
   exact this.2.2.2.2.2
end
section
variable {K:W.Frag}{Δ:Evt}
theorem Zrz {bs:List Bool}{P:D->Evt->Prop}(p:P (.bl (bs.any id)) Δ):JC K (rAny K) [.lst (bs.map D.bl)] Δ P:=λg G H σ Q vs k rs c=>by
 obtain⟨_,_,rfl,r,t⟩:=rs.inv
 next=>
  cases t.inv;obtain⟨a,ws,rfl,ha,rs⟩:=r.inv
  next=>
   have e:∀(bs:List Bool) (ws:List V),Reps K G ws (bs.map D.bl)->ws=bs.map V.bl:=by
    intro bs
    induction bs with
    |nil=>intro ws h;cases h;rfl
    |cons b r ih=>intro ws h;cases h with|cons h1 h2=>cases h1;rw[ih _ h2];rfl
   have:=e bs ws rs;subst this;exact⟨_,bs,rfl,SqL.of (k.live _ _ ha),c _ _ G H Δ k (Same.refl _) (.bl _) p⟩
end
open PySem PySem.Spec PyProof.Rows PySem.SeqAt
section
variable {K:W.Frag}{Δ:Evt}{P:D->Evt->Prop}
end
open PySem PySem.Spec PyProof.Rows PySem.Builtin PySem.Builtin.Str
section
variable {K:W.Frag}{Δ:Evt}
end
section
variable {K:W.Frag}{Δ:Evt}{P:D->Evt->Prop}
end
section
variable {K:W.Frag}{Δ:Evt}
end
section
variable {K:W.Frag}{Δ:Evt}{P:D->Evt->Prop}
end
section
variable {K:W.Frag}{Δ:Evt}
end
section
variable {X:Cx}
end
section
variable {K:W.Frag}{Δ:Evt}{P:D->Evt->Prop}
end
section
variable {X:Cx}
end
theorem strNewIn {prog:Program}{w:World}{v:Value}{S:PySem.Spec}(hs:∀(A:Around) (R:Result->Shared->Prop) (s:Shared),S A R s->wpAny (model prog w) A.in1 (Builtin.Str.strOf v) (λr s'=>R (.ok (.ret r)) s') (λe s'=>R (.error e) s') s):MeetsIn prog w (Builtin.«str.__new__» ⟨[.type "str",v],[]⟩) S:=by
 refine MeetsIn.of_wp λA R s h=>?_;rw[str_new_tree v];refine wpAny_bind (wpAny_pure ?_);refine wpAny_bind (wpAny_of_eq isSubtype_str_str ?_);exact wpAny_bind (wpAny_mono (hs A R s h) (λr s' h'=>wpAny_pure ⟨_,rfl,h'⟩) λ_ _ e=>e)
def rReprT (K:W.Frag):List V->Hp->VK->Prop:=λxs H Q=>∃(G:Hp) (a:Addr) (ds:List D),xs=[.ref a]/\Same G H/\Rep K G (.ref a) (.tup ds)/\(∀x∈ds,x.shU)/\(D.pd (.tup ds)).depth<=20/\(D.pd (.tup ds)).shown.length<=sizeLine/\Q (.str (D.pd (.tup ds)).shown) H
section
variable {X:Cx}
theorem tupRepr {A:Around}{E:Value->Shared->Prop}{pins:List (Addr × Obj)}{σ:St}{H G:Hp}{s:Shared}{a:Addr}{ds:List D}{Q:Value->Shared->Prop}(I:Inv X pins σ H s) (sg:Same G H) (rep:Rep X.K G (.ref a) (.tup ds)) (sh:∀x∈ds,x.shU) (dp:(D.pd (.tup ds)).depth<=20) (sz:(D.pd (.tup ds)).shown.length<=sizeLine) (hg:A.guards=some []) (hu:A.units+28<cLine)
  (q:∀h' u tk,(∀b o,s.heap.get? b=some o->h'.get? b=some o)->Q (.str (D.pd (.tup ds)).shown u) { s with heap:=h',toks:=tk }):s.TypeIs (.ref a) "tuple" /\ wpAny (model X.prog X.w) A (call (.builtin "tuple.__repr__") [.ref a]) Q E s:=by
 cases rep with
 |tup e rs=>
  obtain⟨_,its,rv,o,ho,⟨hc,n,hd⟩,hdd⟩:=I.hok _ _ (sg _ _ e);have sz':(tupleText (PyData.shownAll (D.pds ds))).length<=sizeLine:=sz;obtain⟨⟨as,ra⟩,bs,hb,hk⟩:=Zkn I.hok sg rs sh rv (λt ht=>Was (tupleText_mem_le ht) sz');have dp':PyData.depthAll (D.pds ds)+1<=20:=dp;have r:Reads s.heap (.ref a) (.tuple (D.pds ds)) _:=.tuple ho hc hd ra;have hna:a ∉ bs:=not_mem_of_deeper r (by show _<PyData.depthAll (D.pds ds)+1;omega) hb;exact⟨⟨o,ho,hc⟩,call_tuple_reprK ho hc hd hna hk (g:=[]) hg (λb _=>Clear.nil b) (by omega) (λ_ _ e=>e) q sz'⟩
theorem strTK (K:W.Frag) (hg:X.A.guards=some []) (hu:X.A.units+40<cLine) (hK:X.K=K:=by rfl):CallR X (.type "str") (rReprT K):=by
 subst hK;intro pins s σ H xs us Q I r h;obtain⟨G,a,ds,rfl,sg,rep,sh,dp,sz,q⟩:=h;obtain⟨u,rfl,ru⟩:=vals1 r;cases (show u=Value.ref a from ru);have ty:s.TypeIs (.ref a) "tuple":=(tupRepr (A:=X.A) (E:=X.xe) (Q:=λ_ _=>True) I sg rep sh dp sz hg (by omega) λ_ _ _ _=>trivial).1;refine callType_newIn (S:=λA R s1=>wpAny (model X.prog X.w) A.in1 (Builtin.Str.strOf (.ref a)) (λr s'=>R (.ok (.ret r)) s') (λe s'=>R (.error e) s') s1) F.called_str (by decide) (F.typeCall_str_1 _) (F.newCall_str_1 _) (λobj=>F.args_object_init_2 obj _) F.entry_str_new (strNewIn λ_ _ _ h=>h) ?_;refine wpAny_strOf_slot rfl (by show X.A.units+1+1+1<cLine;omega) ty F.slot_tuple_str F.slot_tuple_repr ?_;exact(tupRepr (A:=X.A.in1.in1.in1) I sg rep sh dp sz hg (by show X.A.units+1+1+1+28<cLine;omega) λh' u tk hk=>⟨_,_,rfl,typeIs_str _ _ _,.str _,H,I.kept hk,⟨_,rfl⟩,q⟩).2
theorem strAK (K:W.Frag) (hg:X.A.guards=some []) (hu:X.A.units+40<cLine) (hK:X.K=K:=by rfl):CallR X (.type "str") (λxs H Q=>rStrU xs H Q\/rReprT K xs H Q):=CallR.or strUK (strTK K hg hu hK)
end
theorem Zsk {A:Around}{k:Nat}(hr:Room k A):A.units+40<cLine:=Wbj (Wco (by decide:40<=64) _) hr.units
section
variable {K:W.Frag}{Δ:Evt}{P:D->Evt->Prop}
theorem Zo1 {ds:List D}(z:∀x∈ds,x.shU) (h2:(D.pd (.tup ds)).depth<=20) (h3:(D.pd (.tup ds)).shown.length<=sizeLine) (p:P (.str (D.pd (.tup ds)).shown) Δ):JC K (λxs H Q=>rStrU xs H Q\/rReprT K xs H Q) [.tup ds] Δ P:=λg G H σ Q vs k rs c=>by
 obtain⟨_,_,rfl,r,t⟩:=rs.inv;cases t.inv;obtain⟨a,us,rfl,ha,rr⟩:=r.inv;exact .inr ⟨G,_,ds,rfl,k.live,.tup ha rr,z,h2,h3,c _ _ G H Δ k (Same.refl _) (.str _) p⟩
end
open PySem PySem.Spec PyProof.Rows PySem.SeqAt
section
variable {X:Cx}
end
open PySem PySem.Spec PyProof.Rows PySem.SeqAt
section
variable {K:W.Frag}{Δ:Evt}
def PVO (K:W.Frag) (tl:TO) (Δ:Evt) (o:Option Int):Prop:=∀P:Option Int->Evt->Prop,P o Δ -> JO2 tl Δ K P
theorem Zcz:PVO K tNoPart Δ none:=λP p=>Zfn p
theorem Zcd {te:TE}{i:Int}(h:PV K te Δ (.int i)):PVO K (tPart te) Δ (some i):=λP p=>Zfj (h _ ⟨i,rfl,p⟩)
theorem Zgq {te:TE}{tl th:TO}{ds:List D}{lo hi:Option Int}(a:PV K te Δ (.tup ds)) (b:PVO K tl Δ lo) (c:PVO K th Δ hi):PV K (tSl (rSlU K) te tl th) Δ (.tup (cutD ds lo hi)):=λP p=>Zlm (a _ (b _ (c _ ⟨_,rfl,p⟩)))
theorem Zq1 {te:TE}{ds:List D}(a:PV K te Δ (.tup ds)):PV K (tSlR K te) Δ (.tup ds.reverse):=λP p=>Zn7 (a _ ⟨_,rfl,p⟩)
theorem Zpm {ds es:List D}(hz:ds.length+es.length<=sizeLine):PR2 K (rAddU K) (.tup ds) (.tup es) Δ (.tup (ds++es)):=λP p=>Zk5 hz p
theorem Zqn {r:List V->Hp->VK->Prop}{ta:TA}{ds:List D}{d:D}(a:PVs K ta Δ ds) (h:∀P:D->Evt->Prop,P d Δ -> JC K r ds Δ P):PV K (tCB r ta) Δ d:=λP p=>Zba (a _ (h P p))
theorem Zon {ds:List D}{lo hi:Option Int}{x:D}(h:x∈cutD ds lo hi):x∈ds:=List.mem_of_mem_drop (List.mem_of_mem_take h)
theorem Zpt (ds:List D) (lo hi:Option Int):(cutD ds lo hi).length<=ds.length:=by
 unfold cutD;rw[Wav,Wa8];omega
end
def shD:Nat->D->Prop
 |0,d=>d.shU
 |n+1,d=>d.shU\/∃ds,(d=.tup ds\/d=.lst ds)/\∀x∈ds,shD n x
section
variable {P:Program}{w:World}{K:W.Frag}{G H:Hp}{h:Heap}
theorem Zfd {n:Nat}(it:∀{v:V}{d:D}{u:Value},Rep K G v d->shD n d->RelV v u->d.pd.shown.length<=sizeLine->(∃as,Reads h u d.pd as)/\∃bs,ReadAtMost h d.pd.depth bs/\ReprK P w bs h d.pd.depth u d.pd.shown):∀{vs:List V}{ds:List D}{us:List Value},Reps K G vs ds->(∀x∈ds,shD n x)->Vals vs us->(∀t∈PyData.shownAll (D.pds ds),t.length<=sizeLine) →
  (∃as,ReadsAll h us (D.pds ds) as)/\∃bs,ReadAtMost h (PyData.depthAll (D.pds ds)) bs/\ReprAllK P w bs h (PyData.depthAll (D.pds ds)) us (PyData.shownAll (D.pds ds))
 |_,_,_,.nil,_,r,_=>by cases r;exact⟨⟨_,.nil⟩,[],(λ_ h=>nomatch h),.nil⟩
 |_,_,_,.cons (d:=d) (ds:=ds) a b,z,r,hz=>by
  cases r with
  |cons ra rb=>
   obtain⟨⟨as,h1⟩,b1,hb1,k1⟩:=it a (z _ (Wau ..)) ra (hz _ (Wau ..));obtain⟨⟨as2,h4⟩,b2,hb2,k2⟩:=Zfd it b (λx hx=>z x (Wat _ hx)) rb (λt ht=>hz t (Wat _ ht));refine⟨⟨_,.cons h1 h4⟩,b1++b2,λb hm=>?_,.cons ((k1.more λb hb=>Wbv _ hb).level_le (Wcc _ _)) (k2.more_le (λb hb=>Wax _ hb) (Wb5 _ _))⟩;rcases Waz.mp hm with hm|hm
   ·obtain⟨d',as',r',hd'⟩:=hb1 b hm
    exact⟨d',as',r',Was hd' (Wcc _ _)⟩
   ·obtain⟨d',as',r',hd'⟩:=hb2 b hm
    exact⟨d',as',r',Was hd' (Wb5 _ _)⟩
theorem Zie (ok:HOk P w H h) (sg:Same G H) {v:V}{d:D}{u:Value}(rep:Rep K G v d) (sh:d.shU) (ru:RelV v u) (sz:d.pd.shown.length<=sizeLine):(∃as,Reads h u d.pd as)/\∃bs,ReadAtMost h d.pd.depth bs/\ReprK P w bs h d.pd.depth u d.pd.shown:=by
 obtain⟨as,h1,h2,h3⟩:=Zoi ok sg rep sh ru;exact⟨⟨as,h1⟩,ReprK.of_reads (prog:=P) (w:=w) h1 h2 h3 sz⟩
theorem Zje (ok:HOk P w H h) (sg:Same G H):∀{n:Nat}{v:V}{d:D}{u:Value},Rep K G v d->shD n d->RelV v u->d.pd.shown.length<=sizeLine->(∃as,Reads h u d.pd as)/\∃bs,ReadAtMost h d.pd.depth bs/\ReprK P w bs h d.pd.depth u d.pd.shown
 |0,_,_,_,rep,sh,ru,sz=>Zie ok sg rep sh ru sz
 |n+1,v,d,u,rep,sh,ru,sz=>by
  rcases sh with z|⟨ds,rfl|rfl,z⟩
  ·exact Zie ok sg rep z ru sz
  ·cases rep with
   |tup e rs=>
    rename_i a vs
    cases (show u=Value.ref a from ru);obtain⟨_,its,rv,o,ho,⟨hc,k,hd⟩,hdd⟩:=ok _ _ (sg _ _ e);have sz':(tupleText (PyData.shownAll (D.pds ds))).length<=sizeLine:=sz;obtain⟨⟨as,ra⟩,bs,hb,hk⟩:=Zfd (n:=n) (λr s q z=>Zje ok sg r s q z) rs z rv (λt ht=>Was (tupleText_mem_le ht) sz');have r:Reads h (.ref a) (.tuple (D.pds ds)) _:=.tuple ho hc hd ra;have hna:a ∉ bs:=not_mem_of_deeper r (by show _<PyData.depthAll (D.pds ds)+1;omega) hb;refine⟨⟨_,r⟩,a::bs,λb hm=>?_,ReprK.tuple ho hc hd hna hk⟩;rcases Wan.mp hm with rfl|hm
    ·exact⟨_,_,r,Waf _⟩
    ·obtain⟨d',as',r',hd'⟩:=hb b hm
     exact⟨d',as',r',Nat.le_succ_of_le hd'⟩
  ·cases rep with
   |lst e rs=>
    rename_i a vs
    cases (show u=Value.ref a from ru);obtain⟨_,its,k,rv,ho⟩:=ok _ _ (sg _ _ e);have sz':(listText (PyData.shownAll (D.pds ds))).length<=sizeLine:=sz;obtain⟨⟨as,ra⟩,bs,hb,hk⟩:=Zfd (n:=n) (λr s q z=>Zje ok sg r s q z) rs z rv (λt ht=>Was (listText_mem_le ht) sz');have r:Reads h (.ref a) (.list (D.pds ds)) _:=.list ho rfl rfl ra;have hna:a ∉ bs:=not_mem_of_deeper r (by show _<PyData.depthAll (D.pds ds)+1;omega) hb;have mm:ReadAtMost h (PyData.depthAll (D.pds ds)+1) (a::bs):=λb hm=>by
     rcases Wan.mp hm with rfl|hm
     ·exact⟨_,_,r,Waf _⟩
     ·obtain⟨d',as',r',hd'⟩:=hb b hm
      exact⟨d',as',r',Nat.le_succ_of_le hd'⟩
    cases its with
    |nil=>cases rv;cases rs;exact⟨⟨_,r⟩,a::bs,mm,ReprK.listEmpty ho rfl rfl⟩
    |cons x l=>exact⟨⟨_,r⟩,a::bs,mm,ReprK.list ho rfl rfl hna (by simpa using hk.length_eq) (λi y e=>hk.item i y (by simpa using e))⟩
end
def rReprLV (K:W.Frag):List V->Hp->VK->Prop:=λxs H Q=>∃(G:Hp) (a:Addr) (d:D) (ds:List D) (n:Nat),xs=[.ref a]/\Same G H/\Rep K G (.ref a) (.lst (d::ds))/\(∀x∈d::ds,shD n x)/\(D.pd (.lst (d::ds))).depth<=20/\(D.pd (.lst (d::ds))).shown.length<=sizeLine/\Q (.str (D.pd (.lst (d::ds))).shown) H
def rReprTV (K:W.Frag):List V->Hp->VK->Prop:=λxs H Q=>∃(G:Hp) (a:Addr) (ds:List D) (n:Nat),xs=[.ref a]/\Same G H/\Rep K G (.ref a) (.tup ds)/\(∀x∈ds,shD n x)/\(D.pd (.tup ds)).depth<=20/\(D.pd (.tup ds)).shown.length<=sizeLine/\Q (.str (D.pd (.tup ds)).shown) H
section
variable {X:Cx}
theorem reprLVK (K:W.Frag) (hg:X.A.guards=some []) (hu:X.A.units+30<cLine) (hK:X.K=K:=by rfl):CallR X (.builtin "repr") (rReprLV K):=by
 subst hK;intro pins s σ H xs us Q I r h;obtain⟨G,a,d,ds,n,rfl,sg,rep,sh,dp,sz,q⟩:=h;obtain⟨u,rfl,ru⟩:=vals1 r;cases (show u=Value.ref a from ru);cases rep with
 |lst e rs=>
  obtain⟨_,its,k,rv,ho⟩:=I.hok _ _ (sg _ _ e);have sz':(listText (PyData.shownAll (D.pds (d::ds)))).length<=sizeLine:=sz;obtain⟨⟨as,ra⟩,bs,hb,hk⟩:=Zfd (n:=n) (λr s q z=>Zje I.hok sg r s q z) rs sh rv (λt ht=>Was (listText_mem_le ht) sz');have dp':PyData.depthAll (D.pds (d::ds))+1<=20:=dp;cases its with
  |nil=>cases rv;cases rs
  |cons x l=>
   have r:Reads s.heap (.ref a) (.list (D.pds (d::ds))) _:=.list ho rfl rfl ra;have hna:a ∉ bs:=not_mem_of_deeper r (by show _<PyData.depthAll (D.pds (d::ds))+1;omega) hb;refine call_repr_slot (by omega) ⟨_,ho,rfl⟩ F.slot_list_repr.toG ?_;refine call_list_reprK ho rfl rfl hna (by simpa using hk.length_eq) (λi y e=>hk.item i y (by simpa using e)) (g:=[]) hg (λb _=>Clear.nil b) (by show X.A.units+1+_<cLine;omega) (λ_ _ e=>e) (λh' t tk hk2=>⟨_,_,rfl,.str _,H,I.kept hk2,⟨_,rfl⟩,q⟩) sz'
theorem reprTVK (K:W.Frag) (hg:X.A.guards=some []) (hu:X.A.units+30<cLine) (hK:X.K=K:=by rfl):CallR X (.builtin "repr") (rReprTV K):=by
 subst hK;intro pins s σ H xs us Q I r h;obtain⟨G,a,ds,n,rfl,sg,rep,sh,dp,sz,q⟩:=h;obtain⟨u,rfl,ru⟩:=vals1 r;cases (show u=Value.ref a from ru);cases rep with
 |tup e rs=>
  obtain⟨_,its,rv,o,ho,⟨hc,k,hd⟩,hdd⟩:=I.hok _ _ (sg _ _ e);have sz':(tupleText (PyData.shownAll (D.pds ds))).length<=sizeLine:=sz;obtain⟨⟨as,ra⟩,bs,hb,hk⟩:=Zfd (n:=n) (λr s q z=>Zje I.hok sg r s q z) rs sh rv (λt ht=>Was (tupleText_mem_le ht) sz');have dp':PyData.depthAll (D.pds ds)+1<=20:=dp;have r:Reads s.heap (.ref a) (.tuple (D.pds ds)) _:=.tuple ho hc hd ra;have hna:a ∉ bs:=not_mem_of_deeper r (by show _<PyData.depthAll (D.pds ds)+1;omega) hb;refine call_repr_slot (by omega) ⟨o,ho,hc⟩ F.slot_tuple_repr ?_;exact call_tuple_reprK ho hc hd hna hk (g:=[]) hg (λb _=>Clear.nil b) (by show X.A.units+1+_<cLine;omega) (λ_ _ e=>e) (λh' t tk hk2=>⟨_,_,rfl,.str _,H,I.kept hk2,⟨_,rfl⟩,q⟩) sz'
theorem reprVK (K:W.Frag) (hg:X.A.guards=some []) (hu:X.A.units+30<cLine) (hK:X.K=K:=by rfl):CallR X (.builtin "repr") (λxs H Q=>rRepr K xs H Q\/rReprLV K xs H Q\/rReprTV K xs H Q):=CallR.or (reprK K hg hu hK) (CallR.or (reprLVK K hg hu hK) (reprTVK K hg hu hK))
end
section
variable {K:W.Frag}{Δ:Evt}{P:D->Evt->Prop}
structure RepV (d:D):Prop where
 kind:d.shT\/∃n,(∃e es,d=.lst (e::es)/\∀x∈e::es,shD n x)\/∃ds,d=.tup ds/\∀x∈ds,shD n x
 deep:d.pd.depth<=20
 size:d.pd.shown.length<=sizeLine
theorem Znx {d:D}(h:RepV d) (p:P (.str d.pd.shown) Δ):JC K (λxs H Q=>rRepr K xs H Q\/rReprLV K xs H Q\/rReprTV K xs H Q) [d] Δ P:=λg G H σ Q vs k rs c=>by
 rcases h.kind with z|⟨n,⟨e,es,rfl,z⟩|⟨ds,rfl,z⟩⟩
 ·exact .inl (Zpb z h.deep h.size p g G H σ Q vs k rs c)
 ·obtain⟨_,_,rfl,r,t⟩:=rs.inv
  cases t.inv;obtain⟨a,us,rfl,ha,rr⟩:=r.inv;exact .inr (.inl ⟨G,_,e,es,n,rfl,k.live,.lst ha rr,z,h.deep,h.size,c _ _ G H Δ k (Same.refl _) (.str _) p⟩)
 ·obtain⟨_,_,rfl,r,t⟩:=rs.inv
  cases t.inv;obtain⟨a,us,rfl,ha,rr⟩:=r.inv;exact .inr (.inr ⟨G,_,ds,n,rfl,k.live,.tup ha rr,z,h.deep,h.size,c _ _ G H Δ k (Same.refl _) (.str _) p⟩)
end
open PySem PySem.Spec PyProof.Rows PySem.W
open PySem PySem.Spec PyProof.Rows PySem.W
section
variable {X:Cx}{pins:List (Addr × Obj)}{σ:St}{H H':Hp}{s s':Shared}{c:Addr}{φ:Heap->Prop}
end
open PySem PySem.Spec PyProof.Rows PySem.W
section
variable {K:W.Frag}{g:Gm}{G G2 H H2:Hp}{σ:St}{Δ:Evt}
end
section
variable {X:Cx}{tg:Expr}{K:W.Frag}
end
section
variable {prog:Program}{w:World}{A:Around}{E:Value->Shared->Prop}{s:Shared}
end
section
variable {K:W.Frag}{Δ:Evt}
end
section
variable {X:Cx}{xa:Addr}{k:Nat}{x:Str}{ps:List Str}{sp:Addr->Sp}{e:Expr}{es:List Expr}{t:TA}{p pos:Pos}
end
open PySem PySem.Spec PyProof.Rows PySem.W
section
variable {X:Cx}{k i:Nat}{l:Addr}{fd:FuncData}{x:Str}{sp:Hp->VK->XK->Prop}{p pos:Pos}{E:XK}
end
open PySem PySem.Spec PyProof.Rows PySem.W
section
variable {P:Program}{w:World}{K:W.Frag}{mg:Str->Option Value}{base:Heap}
end
open PySem PySem.Spec PyProof.Rows PySem.W
open PySem PySem.Spec PyProof.Rows PySem.SeqAt
section
variable {X:Cx}{pins:List (Addr × Obj)}{σ:St}{H H':Hp}{s:Shared}{h':Heap}{a C T:Addr}{v:Value}
variable {M:Model}{E:Value->Shared->Prop}{Q:Unit->Shared->Prop}
end
section
variable {X:Cx}{pins:List (Addr × Obj)}{σ:St}{H:Hp}{s:Shared}{fp:List Addr}{scope:Scope}{N:List Str}{E:XK}
end
section
variable {K:W.Frag}{Δ:Evt}{E:XK}{Xp:Addr->Prop}
end
section
variable {K:W.Frag}{Δ:Evt}
end
def d1T (k:Int) (ns:List Int):D:=.dct [.inl k] [.tup (ns.map .int)]
def rReprD (K:W.Frag):List V->Hp->VK->Prop:=λxs H Q=>∃(G:Hp) (a:Addr) (k:Int) (ns:List Int),xs=[.ref a]/\Same G H/\Rep K G (.ref a) (d1T k ns)/\k.natAbs.log2<1920/\D.shws (ns.map .int)=true/\(d1T k ns).pd.depth<=20/\(d1T k ns).pd.shown.length<=sizeLine/\Q (.str (d1T k ns).pd.shown) H
theorem Zlg (x y:Str):x.length<=(dictText [x ++ ": " ++ y]).length/\y.length<=(dictText [x ++ ": " ++ y]).length:=by
 have e:dictText [x ++ ": " ++ y]=("{":Str)++(x ++ ": " ++ y) ++ "}":=rfl;rw[e,strLen_append,strLen_append,strLen_append,strLen_append];omega
section
variable {X:Cx}
theorem reprDK (K:W.Frag) (hg:X.A.guards=some []) (hu:X.A.units+30<cLine) (hK:X.K=K:=by rfl):CallR X (.builtin "repr") (rReprD K):=by
 subst hK;intro pins s σ H xs us Q I r h;obtain⟨G,a,k,ns,rfl,sg,rep,hk,hns,dp,sz,q⟩:=h;obtain⟨u,rfl,ru⟩:=vals1 r;cases (show u=Value.ref a from ru);cases rep with
 |@dct _ _ vs _ e l rs=>
  obtain⟨v,vs',rfl,rv,rt⟩:=rs.inv;cases rt.inv;obtain⟨_,hS,kvs,rk,o,es,ep,ho,hc,hd,_,hp,_⟩:=Zj5 I.hok (sg _ _ e);cases rk with
  |@cons _ kv _ _ h1 h2=>
   cases h2;obtain⟨hk1,hv1⟩:=h1;generalize hes:es.toList=esl at hp;cases hp with
   |@cons en _ _ _ q1 q2 q3=>
    cases q3;have q1:keyIs kv.1 en.key=true:=q1;rw[<- hk1]at q1;obtain⟨t2,hk2⟩:∃t,en.key=.int k t:=Value.isInt_shape (k:=k) (v:=en.key) q1;have szk:=Zlg (PyData.int k).shown (D.pd (.tup (ns.map .int))).shown;have sz':(dictText [(PyData.int k).shown ++ ": " ++ (D.pd (.tup (ns.map .int))).shown]).length<=sizeLine:=sz;have rK:Reads s.heap en.key (.int k) []:=by rw[hk2];exact .int k t2
    obtain⟨b1,hb1,k1⟩:=ReprK.of_reads (prog:=X.prog) (w:=X.w) rK (decide_eq_true hk) (λz=>nomatch (show false=true from z)) (Was szk.1 sz');obtain⟨⟨as2,r2⟩,b2,hb2,k2⟩:=Zie (P:=X.prog) (w:=X.w) (K:=X.K) I.hok sg rv (.inl (.inl (show D.shw (.tup (ns.map .int))=true from hns))) (show RelV v en.val by rw[q2];exact hv1) (Was szk.2 sz');have rd:Reads s.heap (.ref a) (d1T k ns).pd _:=.dict ho hc.1 hd (by rw[hes];exact .cons rK .nil) (by rw[hes];exact .cons r2 .nil);have hd1:(PyData.int k).depth<=(D.pd (.tup (ns.map .int))).depth:=Wbq _;have hna:a ∉ b1++b2:=not_mem_of_deeper (n:=(D.pd (.tup (ns.map .int))).depth) rd (by
     show _<Wc0 (Wc0 (PyData.int k).depth (D.pd (.tup (ns.map .int))).depth) 0+1;have:(D.pd (.tup (ns.map .int))).depth<=Wc0 (Wc0 (PyData.int k).depth (D.pd (.tup (ns.map .int))).depth) 0:=Was (Wb5 _ _) (Wcc _ _);omega) λb hm=>by
     rcases Waz.mp hm with hm|hm
     ·obtain⟨d',as',r',hd'⟩:=hb1 b hm
      exact⟨d',as',r',Was hd' hd1⟩
     ·exact hb2 b hm
    have ent:ReprEntriesK X.prog X.w (b1++b2) s.heap (D.pd (.tup (ns.map .int))).depth es.toList [(PyData.int k).shown ++ ": " ++ (D.pd (.tup (ns.map .int))).shown]:=by
     rw[hes];exact .cons ((k1.more λb hb=>Wbv _ hb).level_le hd1) (k2.more λb hb=>Wax _ hb) .nil
    have hs2:(a == sysModules)=false:=by
     cases z:a == sysModules with
     |false=>rfl
     |true=>rw[z]at hS;exact absurd hS (by decide)
    have dp2:(D.pd (.tup (ns.map .int))).depth<=19:=by
     have:(D.pd (.tup (ns.map .int))).depth<=Wc0 (Wc0 (PyData.int k).depth (D.pd (.tup (ns.map .int))).depth) 0:=Was (Wb5 _ _) (Wcc _ _);have dp:Wc0 (Wc0 (PyData.int k).depth (D.pd (.tup (ns.map .int))).depth) 0+1<=20:=dp;omega
    refine call_repr_slot (by omega) ⟨o,ho,hc.1⟩ F.slot_dict_repr ?_;exact call_dict_reprK ho hc.1 hd hs2 hna ent (g:=[]) hg (λb _=>Clear.nil b) (by show X.A.units+1+_<cLine;omega) (λ_ _ e=>e) (λh' t tk hk2=>⟨_,_,rfl,.str _,H,I.kept hk2,⟨_,rfl⟩,q⟩) sz'
theorem reprWK (K:W.Frag) (hg:X.A.guards=some []) (hu:X.A.units+30<cLine) (hK:X.K=K:=by rfl):CallR X (.builtin "repr") (λxs H Q=>(rRepr K xs H Q\/rReprLV K xs H Q\/rReprTV K xs H Q)\/rReprD K xs H Q):=CallR.or (reprVK K hg hu hK) (reprDK K hg hu hK)
end
section
variable {K:W.Frag}{Δ:Evt}{P:D->Evt->Prop}
def RepW (d:D):Prop:=RepV d\/∃k ns,d=d1T k ns/\k.natAbs.log2<1920/\D.shws (ns.map .int)=true/\d.pd.depth<=20/\d.pd.shown.length<=sizeLine
theorem Zjb {d:D}(h:RepW d) (p:P (.str d.pd.shown) Δ):JC K (λxs H Q=>(rRepr K xs H Q\/rReprLV K xs H Q\/rReprTV K xs H Q)\/rReprD K xs H Q) [d] Δ P:=λg G H σ Q vs k rs c=>by
 rcases h with h|⟨i,ns,rfl,h1,h2,h3,h4⟩
 ·exact .inl (Znx h p g G H σ Q vs k rs c)
 ·obtain⟨_,_,rfl,r,t⟩:=rs.inv
  cases t.inv;have r2:=r;obtain⟨a,us,rfl,ha,_⟩:=r2.inv;exact .inr ⟨G,_,i,ns,rfl,k.live,r,h1,h2,h3,h4,c _ _ G H Δ k (Same.refl _) (.str _) p⟩
end
theorem Zhf {f:Expr}{as:List Expr}{ks:List Keyword}{p:Pos}{es:List Expr}{env:Env}:starEach (Expr.Call f as ks p::es) env=(false,eval (Expr.Call f as ks p) env)::starEach es env:=rfl
theorem Za8 {x:Str}{p:Pos}{es:List Expr}{env:Env}:starEach (Expr.Name x p::es) env=(false,eval (Expr.Name x p) env)::starEach es env:=rfl
theorem Znb {a b:Expr}{p:Pos}{es:List Expr}{env:Env}:starEach (Expr.Subscript a b p::es) env=(false,eval (Expr.Subscript a b p) env)::starEach es env:=rfl
theorem Zi3 (l:Addr) (es:Array DictEntry) (n:Nat) (dd:Option Addr) (sl:Array (Option Value)) (b:Str) (u:Tok) :
  Meets (Builtin.«dict.__eq__» ⟨[.ref l,.str b u],[]⟩) (λ_ R s=>s.heap.get? l=some { cls:=.type "dict",dict:=dd,data:=.dict es n,slots:=sl } /\ R (.ok (.ret .notImplemented)) s):=
 .of_wp λprog w A R s h=>by obtain⟨hp,g,d,tk,os⟩:=s;obtain⟨hl,h⟩:=h;have f1:=PySem.F.sub_str_dict;wp_walk using wpAny_loadPart' hl,wpAny_load hl;exact⟨_,rfl,h⟩
theorem Ziy (b:Str) (u:Tok) (l:Addr) (es:Array DictEntry) (n:Nat) (dd:Option Addr) (sl:Array (Option Value)) :
  Meets (Builtin.«str.__eq__» ⟨[.str b u,.ref l],[]⟩) (λ_ R s=>s.heap.get? l=some { cls:=.type "dict",dict:=dd,data:=.dict es n,slots:=sl } /\ R (.ok (.ret .notImplemented)) s):=
 .of_wp λprog w A R s h=>by obtain⟨hp,g,d,tk,os⟩:=s;obtain⟨hl,h⟩:=h;wp_walk using wpAny_loadPart' hl,wpAny_load hl;exact⟨_,rfl,h⟩
theorem Zh6 {A:Around}{s:Shared}{l:Addr}{o:Obj}{es:Array DictEntry}{n:Nat}(b:Str) (u:Tok) (ho:s.heap.get? l=some o) (hc:o.cls=.type "dict") (hd:o.data=.dict es n) (hu:A.units<cLine):PySem.SeqAt.RcAt A s (.ref l) (.str b u) false:=λprog w E Q h=>by
 obtain⟨cls,dd,data,sl⟩:=o;simp only at hc hd;subst hc hd;exact PySem.SeqAt.rc_eq_decline_or (k:=false) ⟨_,ho,rfl⟩ (typeIs_str s b u) (by decide) PySem.F.sub_str_dict PySem.F.slot_dict_eq PySem.F.slot_str_eq_refl
  (λ_ hq=>call_meets PySem.F.slot_dict_eq ⟨_,ho,rfl⟩ PySem.F.entry_dict_eq (PySem.F.args_dict_eq_2 _ _) (Zi3 l es n dd sl b u) ⟨ho,hq⟩)
  (λ_ hq=>call_meets PySem.F.slot_str_eq_refl (typeIs_str s b u) PySem.F.entry_str_eq (PySem.F.args_str_eq_2 _ _) (Ziy b u l es n dd sl) ⟨ho,hq⟩)
  (λ_ hq=>wpAny_of_eq (rfl:isSame (.ref l) (.str b u)=pure false) hq) (.inr hu) h
def rEqX (K:W.Frag):R2:=λx y H Q=>rEqS K x y H Q\/∃a t,x=.ref a/\y=.str t/\((∃xs,SqT K H a xs)\/∃kvs,H a=some (.dK kvs))/\Q (.bl false) H
section
variable {X:Cx}
theorem eqXK (K:W.Frag) (hu:X.A.units+1<cLine) (hK:X.K=K:=by rfl):OpR X (compareOp .Eq) (rEqX K):=by
 subst hK;intro pins s σ H x y v u Q I rx ry h;rcases h with h|⟨a,t,rfl,rfl,h,q⟩
 ·exact eqSK X.K hu rfl pins s σ H x y v u Q I rx ry h
 ·cases rx
  obtain⟨tk,rfl⟩:=ry;rcases h with ⟨xs,hx⟩|⟨kvs,hx⟩
  ·obtain⟨its,w1,p1,hz⟩:=I.tuple hx
   exact PySem.SeqAt.RcAt.tuple_str t tk p1 (by omega) X.prog X.w _ _ ⟨.bl false,H,I,rfl,q⟩
  ·obtain⟨_,hS,kvs',rk,o,es,ep,ho,hc,hd,_,hp,_⟩:=Zj5 I.hok hx
   exact Zh6 t tk ho hc.1 hd (by omega) X.prog X.w _ _ ⟨.bl false,H,I,rfl,q⟩
end
section
variable {K:W.Frag}{Δ:Evt}{P:D->Evt->Prop}
def eqXB (d:D) (t:Str):Bool:=match d with
 |.str x=>decide (x=t)
 |_=>false
theorem Zn0 {d:D}{t:Str}(hd:∃T,tyD d=some T) (p:P (.bl (eqXB d t)) Δ):JR2 K (rEqX K) d (.str t) Δ P:=λg G H σ Q x y k rx ry c=>by
 have fin:Q (.bl (eqXB d t)) H:=c _ _ G H Δ k (Same.refl _) (.bl _) p;cases ry.inv;cases rx with
 |non=>exact .inl (.inl ⟨rfl,fin⟩)
 |bl b=>exact .inl (.inl ⟨rfl,fin⟩)
 |int i=>exact .inl (.inl ⟨rfl,fin⟩)
 |str x=>exact .inl (Zpx (P:=P) p g G H σ Q _ _ k (.str x) (.str t) c)
 |tup e r=>exact .inr ⟨_,t,rfl,rfl,.inl ⟨_,SqT.of (k.live _ _ e)⟩,fin⟩
 |lst e r=>exact .inl (.inr ⟨_,_,t,rfl,rfl,SqL.of (k.live _ _ e),fin⟩)
 |dct e l r=>exact .inr ⟨_,t,rfl,rfl,.inr ⟨_,k.live _ _ e⟩,fin⟩
 |_=>obtain⟨T,h⟩:=hd;cases h
end
theorem Zgk (l:Addr) (its:Array Value) (k:Nat) (d:Option Addr) (sl:Array (Option Value)) (u:Tok) (hne:its.isEmpty=false) (hz:its.size<=100) :
  Meets (Builtin.«tuple.__mul__» ⟨[.ref l,.int 3 u],[]⟩) (λ_ R s=>s.heap.get? l=some { cls:=.type "tuple",dict:=d,data:=.seq its k,slots:=sl } /\ R (.ok (.ret (Value.ref s.heap.objs.size))) { s with heap:=s.heap.push { cls:=Value.type "tuple",data:=Data.seq (its++its++its) } }):=
 .of_wp λprog w A R s h=>by
  obtain⟨hp,g,d,tk,os⟩:=s;obtain⟨hl,h⟩:=h;have e4:(its.isEmpty || (3:Int) == 1)=false:=by rw[hne];rfl
  have e5:(decide ((3:Int)<=0) || its.isEmpty)=false:=by rw[hne];rfl
  have e6:¬ (its.size:Int)*3 > (2 ^ 63-1) / 8:=by omega
  have e7:Builtin.Tuple.tupleTooMany ((its.size:Int)*3)=false:=by
   unfold Builtin.Tuple.tupleTooMany;show decide _=false;exact decide_eq_false (by have:=sizeLine_eq;omega)
  have ef:(Waw (3:Int).toNat its).foldl (· ++ ·) #[]=its++its++its:=by
   show ((#[]++its)++its)++its=_;rw[Array.empty_append]
  have e8:¬ (its++its++its).size > sizeLine:=by
   rw[Array.size_append,Array.size_append];have:=sizeLine_eq;omega
  wp_walk
  rw[if_neg e6,e7,if_neg Wai,ef]
  wp_walk
  rw[if_neg e8]
  wp_walk
  exact⟨_,rfl,h⟩
theorem Zj3 (l:Addr) (its:Array Value) (n:Nat) (d:Option Addr) (sl:Array (Option Value)) (u:Tok) :
  Meets (Builtin.«tuple.__mul__» ⟨[.ref l,.int 1 u],[]⟩) (λ_ R s=>s.heap.get? l=some { cls:=.type "tuple",dict:=d,data:=.seq its n,slots:=sl } /\ R (.ok (.ret (Value.ref l))) s):=
 .of_wp λprog w A R s h=>by
  obtain⟨hp,g,d,tk,os⟩:=s;obtain⟨hl,h⟩:=h;have e4:(its.isEmpty || (1:Int) == 1)=true:=by rw[show ((1:Int) == 1)=true from rfl,Bool.or_true]
  wp_walk
  exact⟨_,rfl,h⟩
theorem Zg3 (l:Addr) (n:Nat) (d:Option Addr) (sl:Array (Option Value)) (u:Tok) :
  Meets (Builtin.«tuple.__mul__» ⟨[.ref l,.int 3 u],[]⟩) (λ_ R s=>s.heap.get? l=some { cls:=.type "tuple",dict:=d,data:=.seq #[] n,slots:=sl } /\ R (.ok (.ret (Value.ref l))) s):=
 .of_wp λprog w A R s h=>by
  obtain⟨hp,g,d,tk,os⟩:=s;obtain⟨hl,h⟩:=h
  wp_walk
  exact⟨_,rfl,h⟩
section
variable {X:Cx}
def rMul3 (K:W.Frag):R2:=λx y H Q=>∃(a:Addr) (us:List V) (n:Int),x=.ref a/\y=.int n/\(n=1\/n=3)/\SqT K H a us/\us.length<=100/\(n=1\/us=[]->Q (.ref a) H)/\(n=3->us≠[]->∀l,H l=none->Q (.ref l) (upd H l (.tup (us++us++us))))
theorem Zpy (K:W.Frag) (hK:X.K=K:=by rfl):OpR X (binaryOp .Mult) (rMul3 K):=by
 subst hK;intro pins s σ H x y v u Q I rx ry h;obtain⟨a,us,m,rfl,rfl,hm,ha,hz,q1,q3⟩:=h;cases rx;obtain⟨t,rfl⟩:=ry;obtain⟨its,r1,p1,_⟩:=I.tuple ha;obtain⟨⟨cls,dd,data,sl⟩,ho,hc,n,hd⟩:=id p1;simp only at hc hd;subst hc hd;have hl:=r1.length;refine wpAny_binaryOp_repeat_ref (T:="tuple") (U:="int") (by decide) ⟨_,ho,rfl⟩ (λs'=>typeIs_int s' m t) Ze1 F.fills_int_mul F.slot_int_rmul Zh2 F.slot_int_index.lookup
  (call_meets F.slot_int_rmul (typeIs_int s m t) F.entry_int_rmul (F.args_int_rmul_2 _ _) (Zeo m t a its.toArray n dd sl)
   ⟨ho,rfl,⟨_,ho,rfl⟩,?_⟩)
 rcases hm with rfl|rfl
 ·exact call_meets F.slot_tuple_mul ⟨_,ho,rfl⟩ F.entry_tuple_mul (F.args_tuple_mul_2 _ _) (Zj3 a its.toArray n dd sl t) ⟨ho,⟨.ref a,H,I,rfl,q1 (.inl rfl)⟩⟩
 ·cases its with
  |nil=>
   cases r1;exact call_meets F.slot_tuple_mul ⟨_,ho,rfl⟩ F.entry_tuple_mul (F.args_tuple_mul_2 _ _) (Zg3 a n dd sl t) ⟨ho,⟨.ref a,H,I,rfl,q1 (.inr rfl)⟩⟩
  |cons i0 its=>
   have hne:us≠[]:=by rintro rfl;cases r1
   refine call_meets F.slot_tuple_mul ⟨_,ho,rfl⟩ F.entry_tuple_mul (F.args_tuple_mul_2 _ _) (Zgk a (i0::its).toArray n dd sl t rfl (by rw[Wam];omega)) ⟨ho,?_⟩;have e3:(i0::its).toArray++(i0::its).toArray++(i0::its).toArray=((i0::its)++(i0::its)++(i0::its)).toArray:=by simp
   rw[e3];refine⟨.ref s.heap.objs.size,_,I.laid (t':=s.toks) (o:=.tup (us++us++us)) (λb ob q=>Waa _ q) (Waf _) ?_,rfl,q3 rfl hne _ (I.hok.fresh (Waf _))⟩;exact⟨by rw[Wag,Wag];have:=sizeLine_eq;omega,_,(r1.append r1).append r1,IsTupN.new _ _⟩
end
section
variable {K:W.Frag}{Δ:Evt}{P:D->Evt->Prop}
theorem Zpv {ds:List D}{n:Int}(h:n=1\/n=3) (hz:ds.length<=100) (p:P (.tup (if n=1 then ds else ds++ds++ds)) Δ):JR2 K (rMul3 K) (.tup ds) (.int n) Δ P:=λg G H σ Q x y k rx ry c=>by
 cases ry.inv;obtain⟨a,us,rfl,ha,rs⟩:=rx.inv;have hl:=rs.length;refine⟨a,us,n,rfl,rfl,h,SqT.of (k.live _ _ ha),by omega,λe=>?_,λe hne l hl=>?_⟩
 ·have e2:(if n=1 then ds else ds++ds++ds)=ds:=by
   rcases e with e|e
   ·rw[if_pos e]
   ·subst e
    cases rs;split <;> rfl
  rw[e2]at p;exact c _ _ G H Δ k (Same.refl _) (.tup ha rs) p
 ·subst e
  rw[if_neg (by decide)]at p;obtain⟨k2,sg⟩:=k.laid hl (.tup (us++us++us));have r2:=rs.mono sg;exact c _ _ _ _ Δ k2 sg (.tup Zay (Reps.append (Reps.append r2 r2) r2)) p
end
end L2
set_option Elab.async false
set_option linter.all false
set_option maxRecDepth 100000
set_option maxHeartbeats 4000000
namespace Lw
open PySem L2
def top (i:Nat):Stmt:=PySem.Challenge.pw_holefloor_k24_things_that_show_sides.main.body.getD i (.Pass ⟨0,0,0,0⟩)
abbrev s_is_whole:Stmt:=top 1
abbrev s_are_wholes:Stmt:=top 2
abbrev s_place_of:Stmt:=top 4
abbrev s_parts_of:Stmt:=top 5
abbrev s_crossed_times:Stmt:=top 7
abbrev s_fits:Stmt:=top 8
abbrev s_shows_sides:Stmt:=top 9
abbrev s_are_sides:Stmt:=top 10
abbrev s_is_round:Stmt:=top 11
abbrev s_law_pen:Stmt:=top 13
abbrev s_law_draw:Stmt:=top 14
abbrev s_law_web:Stmt:=top 15
abbrev s_law_whole:Stmt:=top 16
abbrev s_law_parts:Stmt:=top 17
abbrev s_law_crossings:Stmt:=top 18
abbrev s_law_two:Stmt:=top 19
abbrev s_law_ring:Stmt:=top 20
abbrev s_law_shows:Stmt:=top 21
abbrev s_law_gone:Stmt:=top 23
abbrev s_law_given:Stmt:=top 24
abbrev s_law_bent:Stmt:=top 25
abbrev s_law_thing:Stmt:=top 26
abbrev s_law:Stmt:=top 27
theorem sc_is_whole:FnScope ["thing"] ["thing"] (defScope s_is_whole):=⟨rfl,rfl,rfl,by decide +kernel,rfl,by decide +kernel,by decide +kernel⟩
theorem sc_are_wholes:FnScope ["thing"] ["thing"] (defScope s_are_wholes):=⟨rfl,rfl,rfl,by decide +kernel,rfl,by decide +kernel,by decide +kernel⟩
theorem sc_place_of:FnScope ["web","end"] ["web","end"] (defScope s_place_of):=⟨rfl,rfl,rfl,by decide +kernel,rfl,by decide +kernel,by decide +kernel⟩
theorem sc_parts_of:FnScope ["web","many","ties","firsts","a","b","low","high"] ["web"] (defScope s_parts_of):=⟨rfl,rfl,rfl,by decide +kernel,rfl,by decide +kernel,by decide +kernel⟩
theorem sc_crossed_times:FnScope ["crossings","ends"] ["crossings","ends"] (defScope s_crossed_times):=⟨rfl,rfl,rfl,by decide +kernel,rfl,by decide +kernel,by decide +kernel⟩
theorem sc_fits:FnScope ["given","a","b","crossing"] ["given","a","b","crossing"] (defScope s_fits):=⟨rfl,rfl,rfl,by decide +kernel,rfl,by decide +kernel,by decide +kernel⟩
theorem sc_shows_sides:FnScope ["web","crossings","thing","word","shown"] ["web","crossings","thing"] (defScope s_shows_sides):=⟨rfl,rfl,rfl,by decide +kernel,rfl,by decide +kernel,by decide +kernel⟩
theorem sc_are_sides:FnScope ["web","crossings","shown"] ["web","crossings","shown"] (defScope s_are_sides):=⟨rfl,rfl,rfl,by decide +kernel,rfl,by decide +kernel,by decide +kernel⟩
theorem sc_is_round:FnScope ["web","shown","nexts"] ["web","shown"] (defScope s_is_round):=⟨rfl,rfl,rfl,by decide +kernel,rfl,by decide +kernel,by decide +kernel⟩
theorem sc_law_pen:FnScope ["_law_script"] ["_law_script"] (defScope s_law_pen):=⟨rfl,rfl,rfl,by decide +kernel,rfl,by decide +kernel,by decide +kernel⟩
theorem sc_law_draw:FnScope ["_law_pen_here","_law_many","_law_digit","_law_at","_law_cell","_law_number"] ["_law_pen_here","_law_many"] (defScope s_law_draw):=⟨rfl,rfl,rfl,by decide +kernel,rfl,by decide +kernel,by decide +kernel⟩
theorem sc_law_web:FnScope ["_law_pen_here","_law_places","_law_ties","_law_many","_law_way","_law_count","_law_found","_law_k","_law_a","_law_b"] ["_law_pen_here","_law_places","_law_ties"] (defScope s_law_web):=⟨rfl,rfl,rfl,by decide +kernel,rfl,by decide +kernel,by decide +kernel⟩
theorem sc_law_whole:FnScope ["_law_found"] ["_law_found"] (defScope s_law_whole):=⟨rfl,rfl,rfl,by decide +kernel,rfl,by decide +kernel,by decide +kernel⟩
theorem sc_law_parts:FnScope ["_law_web_here","_law_marks","_law_a","_law_b","_law_low","_law_high","_law_place","_law_found","_law_first"] ["_law_web_here"] (defScope s_law_parts):=⟨rfl,rfl,rfl,by decide +kernel,rfl,by decide +kernel,by decide +kernel⟩
theorem sc_law_crossings:FnScope ["_law_pen_here","_law_web_here","_law_way","_law_held","_law_odd","_law_found","_law_tie","_law_pair","_law_number"] ["_law_pen_here","_law_web_here"] (defScope s_law_crossings):=⟨rfl,rfl,rfl,by decide +kernel,rfl,by decide +kernel,by decide +kernel⟩
theorem sc_law_two:FnScope ["_law_web_here","_law_crossings_here","_law_given_here","_law_side","_law_part","_law_tie","_law_pair"] ["_law_web_here","_law_crossings_here","_law_given_here"] (defScope s_law_two):=⟨rfl,rfl,rfl,by decide +kernel,rfl,by decide +kernel,by decide +kernel⟩
theorem sc_law_ring:FnScope ["_law_web_here","_law_crossings_here","_law_ring_here","_law_crossed","_law_end","_law_k","_law_ahead"] ["_law_web_here","_law_crossings_here","_law_ring_here"] (defScope s_law_ring):=⟨rfl,rfl,rfl,by decide +kernel,rfl,by decide +kernel,by decide +kernel⟩
theorem sc_law_shows:FnScope ["_law_web_here","_law_crossings_here","_law_thing_here"] ["_law_web_here","_law_crossings_here","_law_thing_here"] (defScope s_law_shows):=⟨rfl,rfl,rfl,by decide +kernel,rfl,by decide +kernel,by decide +kernel⟩
theorem sc_law_gone:FnScope ["_law_pen_here","_law_web_here","_law_ends","_law_at","_law_gone_here","_law_k","_law_some","_law_end"] ["_law_pen_here","_law_web_here"] (defScope s_law_gone):=⟨rfl,rfl,rfl,by decide +kernel,rfl,by decide +kernel,by decide +kernel⟩
theorem sc_law_given:FnScope ["_law_pen_here","_law_web_here","_law_crossings_here","_law_given_here","_law_turn","_law_tie","_law_pair"] ["_law_pen_here","_law_web_here","_law_crossings_here"] (defScope s_law_given):=⟨rfl,rfl,rfl,by decide +kernel,rfl,by decide +kernel,by decide +kernel⟩
theorem sc_law_bent:FnScope ["_law_pen_here","_law_row","_law_limit","_law_far","_law_at","_law_things","_law_one","_law_some"] ["_law_pen_here","_law_row","_law_limit"] (defScope s_law_bent):=⟨rfl,rfl,rfl,by decide +kernel,rfl,by decide +kernel,by decide +kernel⟩
theorem sc_law_thing:FnScope ["_law_pen_here","_law_web_here","_law_crossings_here","_law_word","_law_row","_law_limit","_law_way","_law_some"] ["_law_pen_here","_law_web_here","_law_crossings_here"] (defScope s_law_thing):=⟨rfl,rfl,rfl,by decide +kernel,rfl,by decide +kernel,by decide +kernel⟩
theorem sc_law:FnScope ["_law_script","_law_pen_here","_law_web_here","_law_crossings_here","_law_k","_law_thing_here","_law_kept","_law_found"] ["_law_script"] (defScope s_law):=⟨rfl,rfl,rfl,by decide +kernel,rfl,by decide +kernel,by decide +kernel⟩
abbrev Zam (P:Program) (w:World) (K:W.Frag) (mg:Str->Option Value) (base:Heap) (f:Addr) (cdv:Value) (A:Around) (outer:List Env) (s:Shared) (H:Hp) (E:XK):Cx:=(cxOf CX0 P w K mg base ["_law_pen_here","_law_row","_law_limit","_law_far","_law_at","_law_things","_law_one","_law_some"] "_law_bent" (defScope s_law_bent) f cdv A outer s H E).nox
abbrev Zai (P:Program) (w:World) (K:W.Frag) (mg:Str->Option Value) (base:Heap) (f:Addr) (cdv:Value) (A:Around) (outer:List Env) (s:Shared) (H:Hp) (E:XK):Cx:=(cxOf CX0 P w K mg base ["_law_pen_here","_law_web_here","_law_crossings_here","_law_word","_law_row","_law_limit","_law_way","_law_some"] "_law_thing" (defScope s_law_thing) f cdv A outer s H E).nox
def Mb (mg:Str->Option Value):Prop:=∀x∈["abs","all","any","bool","enumerate","int","isinstance","len","list","max","min","range","repr","set","sorted","str","sum","tuple","zip"],mg x=none
local macro_rules | `(tactic| walk_at "js")=>`(tactic| first
 |with_reducible refine Zat (t:=tAsg _ _) ?_
 |with_reducible refine Zat (t:=tPar _ _ _) ?_
 |with_reducible refine Zat (t:=tDrop _) ?_
 |with_reducible refine iteF ?_
 |with_reducible refine iteT ?_
 |with_reducible refine Za6 ?_
 |with_reducible refine Zaq ?_
 |with_reducible refine Zbs ?_
 |with_reducible refine Zgz ?_
 |with_reducible refine Za2 ?_
 |refine Zd3 rfl rfl ?_
 |refine Znn rfl rfl ?_
 |with_reducible refine Zaj ?_
 |with_reducible refine Zsc ?_
 |with_reducible refine Zak ?_
 |with_reducible refine Zcc ?_
 |with_reducible refine Zod ?_
 |with_reducible refine Zcb ?_
 |with_reducible refine Zba ?_
 |with_reducible refine Zb0 ?_
 |refine Zdy rfl rfl ?_
 |refine Zep rfl rfl ?_
 |with_reducible refine Zez ?_
 |with_reducible refine Zbj ?_
 |with_reducible refine Zq7 ?_
 |with_reducible refine Zft ?_
 |with_reducible refine Zlm ?_
 |with_reducible refine Zn7 ?_
 |with_reducible refine Zmw ?_
 |with_reducible refine Zfn ?_
 |with_reducible refine Zfj ?_
 |with_reducible refine Zah ?_
 |with_reducible refine Zac ?_
 |with_reducible refine Za7 ?_
 |with_reducible refine Zkz ?_
 |with_reducible refine Zd4 ?_
 |with_reducible refine Zcl ?_
 |with_reducible refine Zcm ?_
 |with_reducible refine Zci ?_
 |with_reducible refine Zc7 ?_
 |with_reducible refine Zi0 ?_
 |with_reducible refine Zf1 ?_
 |with_reducible refine Zdg ?_
 |with_reducible refine Zfz ?_
 |with_reducible refine Zp8 ?_
 |with_reducible refine Zf5 ?_
 |with_reducible refine Zbl ?_
 |refine Zab rfl ?_
 |refine Zan rfl ?_
 |refine Zbk rfl ?_
 |refine Zcr (Or.inl rfl) ?_
 |refine Zcr (Or.inr rfl) ?_
 |refine Zeu (Or.inl rfl) ?_
 |refine Zeu (Or.inr rfl) ?_
 |refine Zkm (Or.inl rfl) ?_
 |refine Zkm (Or.inr rfl) ?_
 |refine Zgo ?_
 |refine⟨⟨_,_,rfl,rfl⟩,?_⟩
 |refine⟨_,_,_,_,rfl,rfl,rfl,rfl,?_⟩
 |refine⟨_,rfl,?_⟩
 |refine jr_I (by first|(show (0:Int)<_;omega)|exact⟨by omega,by omega⟩|exact Or.inl ⟨by omega,by omega⟩|exact Or.inr ⟨by omega,by omega⟩|exact⟨by decide,by decide,by decide⟩) ?_)
local macro_rules | `(tactic| walk_at "draw")=>`(tactic| first|refine Zc0 rfl rfl (by assumption) (by omega) (by omega) λ_ _ _ _ _=>?_|refine⟨_,_,rfl,rfl,by assumption,_,rfl,by omega,by omega,λ_ _ _ _ _=>?_⟩)
def Pen (ps:List D):Prop:=∃(cs:List Int) (at_ num:Int),ps=[.lst (cs.map .int),.int at_,.int num]/\0<=at_/\0<=num/\cs.length<=63
def fDraw:BSp:=λps ds Post=>Pen ps/\∃m:Int,ds=[.int m]/\1<=m/\m<=100000000000000000000000000000000000000000000000000000000000/\∀r ps',Pen ps' -> 0<=r->r<m->Post (.int r) ps'
abbrev LendQ (f:BSp) (i:Nat) (P:D->Evt->Prop):List D->Evt->Prop:=λds Δ1=>∃y ps,Δ1[i]?=some y/\y.od=some (.lst ps)/\f ps ds λd ps'=>P d (Δ1.set i (y.put (.lst ps')))
theorem Zdy {K:W.Frag}{Δ:Evt}{P:D->Evt->Prop}{f:BSp}{ta:TA}{E:XK}{i:Nat}{x:Slot}{od:OD}(hx:Δ[i]?=some x) (ho:x.od=some od) (h:JA K ta Δ (LendQ f i P)):JE K (tCall (spB K f) [] E (tCons (tVar i) ta)) Δ P:=Zep hx ho h
theorem Zc0 {Δ1:Evt}{i:Nat}{y:Slot}{ps:List D}{m:Int}{P:D->Evt->Prop}(hx:Δ1[i]?=some y) (ho:y.od=some (.lst ps)) (hp:Pen ps) (h1:1<=m) (h2:m<=100000000000000000000000000000000000000000000000000000000000) (h:∀r ps',Pen ps' -> 0<=r->r<m->P (.int r) (Δ1.set i (y.put (.lst ps')))) :
  LendQ fDraw i P [.int m] Δ1:=⟨y,ps,hx,ho,hp,m,rfl,h1,h2,h⟩
theorem Zfb {K:W.Frag}{Δ:Evt}{E:XK}{i:Nat}{y:Slot}{ps:List D}{m:Int}{P:D->Evt->Prop}(hx:Δ[i]?=some y) (ho:y.od=some (.lst ps)) (hp:Pen ps) (h1:1<=m) (h2:m<=100000000000000000000000000000000000000000000000000000000000) (h:∀r ps',Pen ps' -> 0<=r->r<m->P (.int r) (Δ.set i (y.put (.lst ps')))) :
  JE K (tCall (spB K fDraw) [] E (tCons (tVar i) (tCons (tC (.int m)) tNil))) Δ P:=Zdy hx ho (Zac (Zak (Zah (Zc0 hx ho hp h1 h2 h))))
section
variable {P:Program}{w:World}{K:W.Frag}{mg:Str->Option Value}{base:Heap}{f:Addr}{fd:FuncData}
theorem Zo3 (mb:Mb mg) (F:Fun K "_law_draw" "_law_draw" s_law_draw f fd):FnOk P w K mg base CX0 1 f fd ["_law_pen_here","_law_many"] (spB K fDraw):=by
 refine F.ok sc_law_draw (Zd1 λps ds Post h=>by obtain⟨_,m,rfl,_⟩:=h;rfl) (λcdv A outer s H vs Q E hr h=>?_);have hu:=Zcu hr;refine⟨_,(Zaf (Zbr (Zaz Zj9 (Zau (ixK K hu) (pv 0) Zad (λ_ _=>rfl)) Zad (nomark _)) (Zaf (Zax (i:=2) sc_law_draw.nd rfl (Or.inl rfl) (Zaw Zbu (Zau (ixK K hu) (pv 0) Zad (λ_ _=>rfl)) (pv 1))) (Zaf (Zfp (Zaw Zgh (Zau (ixK K hu) (pv 0) Zad (λ_ _=>rfl)) (pv 1)) (Zhq (pv 0) Zad (setU hu))) (Zal (Za4 (pv 2))))) Za5) (Zaf (Zax (i:=3) sc_law_draw.nd rfl (Or.inl rfl) (Zau (ixK K hu) (pv 0) Zad (λ_ _=>rfl))) (Zaf (Zfp (Zaw (addK K) (pv 3) Zad) (Zhq (pv 0) Zad (setU hu))) (Zaf (Zax (i:=4) sc_law_draw.nd rfl (Or.inl rfl) Zad) (Zaf (Zbr (Zaz Zj9 (Zao (lenK K) rfl (mb "len" (by decide)) Zc5 (Zaa (Zau (ixK K hu) (pv 0) Zad (λ_ _=>rfl)) Zae)) Zad (nomark _)) (Zal (Zax (i:=4) sc_law_draw.nd rfl (Or.inl rfl) (Zau (ixK K hu) (Zau (ixK K hu) (pv 0) Zad (λ_ _=>rfl)) (Zaw Zbu (pv 3) (Zao (lenK K) rfl (mb "len" (by decide)) Zc5 (Zaa (Zau (ixK K hu) (pv 0) Zad (λ_ _=>rfl)) Zae))) (λ_ _=>rfl)))) Za5) (Zaf (Zbr (PW.pt (pw_and (Zaz Zmh (pv 3) (Zao (lenK K) rfl (mb "len" (by decide)) Zc5 (Zaa (Zau (ixK K hu) (pv 0) Zad (λ_ _=>rfl)) Zae)) (nomark _)) (pw_and1 (Zaz Zse (Zao Zgj rfl (mb "abs" (by decide)) Zkt (Zaa (pv 4) Zae)) (Zaw Znz Zad Zad) (nomark _))))) (Zaf (Zfp (Zaw Zgh (Zao Zgj rfl (mb "abs" (by decide)) Zkt (Zaa (pv 4) Zae)) (pv 1)) (Zhq (pv 0) Zad (setU hu))) (Zal (Za4 (Zaw Zbu (Zao Zgj rfl (mb "abs" (by decide)) Zkt (Zaa (pv 4) Zae)) (pv 1))))) Za5) (Zaf (Zax (i:=5) sc_law_draw.nd rfl (Or.inl rfl) (Zaw Zbu (Zaw Zdl (Zaw (addK K) (Zaw (addK K) (Zaw Zbu (pv 4) Zad) (Zaw Zdl Zad (pv 3))) Zad) Zad) Zad)) (Zaf (Zax (i:=5) sc_law_draw.nd rfl (Or.inl rfl) (Zaw Zbu (Zaw (addK K) (Zaw (addK K) (Zaw Zdl (pv 5) (pv 5)) (Zaw Zdl Zad (pv 5))) (pv 3)) Zad)) (Zal (Za4 (Zaw Zbu (Zaw Zgh (Zaw Zbu (Zaw Zdl (pv 5) Zad) Zad) Zad) (pv 1)))))))))))),Zip (λps ds Post hf=>?_) h⟩;obtain⟨⟨cs,at_,num,rfl,h1,h2,h3⟩,m,rfl,h4,h5,q⟩:=hf;refine⟨by simp,?_⟩;dsimp only[cxOf,startD,Wbg,Wbn,Wa7,Waw];refine Zbc (λΔ=>¬ 0<num /\ Δ = [.bor (.lst [.lst (cs.map .int),.int at_,.int num]),.val (.int m),.any,.any,.any,.any]) ?_ ?_
 ·repeat walk_at "js"
  refine ite2 (λc=>?_) (λc=>?_)
  ·have c:=of_decide_eq_true c
   repeat walk_at "js"
   exact q _ _ ⟨cs,at_,num / m,rfl,h1,Int.ediv_nonneg h2 (by omega),h3⟩ (Wcd _ (by omega)) (Wbz _ (by omega))
  ·repeat walk_at "js"
   exact⟨of_decide_eq_false (Bool.eq_false_iff.mpr c),rfl⟩
 rintro Δ1 ⟨hn,rfl⟩
 repeat walk_at "js"
 refine Zbc (λΔ=>∃c:Int,Δ = [.bor (.lst [.lst (cs.map .int),.int (at_+1),.int num]),.val (.int m),.any,.val (.int at_),.val (.int c),.any]) ?_ ?_
 ·repeat walk_at "js"
  refine ite2 (λc=>?_) (λc=>?_)
  ·have c:=of_decide_eq_true c
   rw[Wab]at c
   repeat walk_at "js"
   rw[Wab]
   repeat walk_at "js"
   obtain⟨cell,_,hc⟩:=Zmd (f:=D.int) (xs:=cs) (i:=at_ % (cs.length:Int)) (Wcd _ (by omega)) (Wbz _ (by omega));refine Zbk hc ?_;exact⟨cell,rfl⟩
  ·repeat walk_at "js"
   exact⟨11,rfl⟩
 rintro Δ1 ⟨cell,rfl⟩;refine Zbc (λΔ=>Δ = [.bor (.lst [.lst (cs.map .int),.int (at_+1),.int num]),.val (.int m),.any,.val (.int at_),.val (.int cell),.any]) ?_ ?_
 ·repeat walk_at "js"
  refine ite2 (λc=>?_) (λc=>?_)
  ·repeat walk_at "js"
   refine ite2 (λc=>?_) (λc=>?_)
   ·repeat walk_at "js"
    have ha:0<=(if cell<0 then -cell else cell):=by split <;> omega
    exact q _ _ ⟨cs,at_+1,_,rfl,by omega,Int.ediv_nonneg ha (by omega),h3⟩ (Wcd _ (by omega)) (Wbz _ (by omega))
   ·repeat walk_at "js"
    rfl
  ·repeat walk_at "js"
   rfl
 rintro Δ1 rfl
 repeat walk_at "js"
 exact q _ _ ⟨cs,at_+1,num,rfl,by omega,h2,h3⟩ (Wcd _ (by omega)) (Wbz _ (by omega))
end
def fPen:NSp:=λds Post=>∃ns:List Int,ds=[.scr (ns.map .int)]/\ns.length<=63/\∀ps,Pen ps->Post ps
section
variable {P:Program}{w:World}{K:W.Frag}{mg:Str->Option Value}{base:Heap}{f:Addr}{fd:FuncData}
theorem Zry (mb:Mb mg) (F:Fun K "_law_pen" "_law_pen" s_law_pen f fd):FnOk P w K mg base CX0 1 f fd ["_law_script"] (spN K fPen):=by
 refine F.ok sc_law_pen (Zis λds Post h=>by obtain⟨ns,rfl,_⟩:=h;rfl) (λcdv A outer s H vs Q E hr h=>?_);have hu:=Zcu hr;refine⟨_,(Zal (Za4 (Zb9 (Zaa (Zb8 ["_law_cell"] (show CompSc (defScope s_law_pen) ["_law_script"] _ [] [] from ⟨rfl,by decide +kernel,by decide +kernel,by decide +kernel,rfl,by decide +kernel⟩) rfl (seqK K (Zbq (slK K) (pv 0) Zcj (Zb1 Zad))) (λ_ _ _ _ _=>(Zav (i:=0) (show List.Nodup (["_law_cell"]:List Str) from by decide) rfl (Or.inl rfl))) (λ_ _ _ _ _=>Zck) (λ_ _ _ _ _=>(pv 0))) (Zaa Zad (Zaa Zad Zae)))))),Zol (λds Post hf=>?_) h⟩;obtain⟨ns,rfl,h1,q⟩:=hf;refine⟨by simp,?_⟩;dsimp only[cxOf,startD,Wbg,Wbn,Wa7,Waw];refine Zic (Zgf (Zac (Zcf (by decide) (Zfh ?_))))
 repeat walk_at "js"
 have e:cutD (ns.map D.int) none (some 63)=ns.map D.int:=by
  unfold cutD;have e1:HT.sIx (ns.map D.int).length 0 none=0:=rfl;have e2:HT.sIx (ns.map D.int).length (ns.map D.int).length (some 63)=ns.length:=by
   rw[Wab];show min (Int.toNat 63) ns.length=_;omega
  rw[e1,e2,List.drop_zero,Nat.sub_zero,Wce (by simp)]
 rw[e];refine⟨_,Or.inl rfl,by rw[Wab];exact Wbj h1 (by decide),λ_=>true,λd=>d,λi d hd=>?_,?_⟩
 ·repeat walk_at "js"
  exact⟨rfl,Zab rfl ⟨rfl,_,rfl⟩⟩
 ·repeat walk_at "js"
  refine⟨by show 3<=sizeLine;decide,_,rfl,q _ ⟨ns,0,0,?_,by decide,by decide,h1⟩⟩;simp
end
def encTie (t:Int × Int):D:=.tup [.int t.1,.int t.2]
def encWeb (n:Int) (ts:List (Int × Int)):D:=.tup [.int n,.tup (ts.map encTie)]
structure WebOk (n:Int) (ts:List (Int × Int)):Prop where
 lo:1<=n
 hi:n<=25
 len:ts.length<=24
 tie:∀t∈ts,0<=t.1/\t.1<n/\0<=t.2/\t.2<n
def fWeb:BSp:=λps ds Post=>Pen ps/\∃a b:Int,ds=[.int a,.int b]/\1<=a/\a<=25/\0<=b/\b<=24/\∀n ts ps',Pen ps' -> WebOk n ts->n<=a->(ts.length:Int)<=b->Post (encWeb n ts) ps'
theorem Zr2 {Δ1:Evt}{i:Nat}{y:Slot}{ps:List D}{a b:Int}{P:D->Evt->Prop}(hx:Δ1[i]?=some y) (ho:y.od=some (.lst ps)) (hp:Pen ps) (h1:1<=a) (h2:a<=25) (h3:0<=b) (h4:b<=24) (h:∀n ts ps',Pen ps' -> WebOk n ts->n<=a->(ts.length:Int)<=b->P (encWeb n ts) (Δ1.set i (y.put (.lst ps')))) :
  LendQ fWeb i P [.int a,.int b] Δ1:=⟨y,ps,hx,ho,hp,a,b,rfl,h1,h2,h3,h4,h⟩
theorem Zj8:2<=sizeLine:=by decide
theorem Zhi {K:W.Frag}{Δ:Evt}{i:Nat}{v c:Int}{P:Bool->Evt->Prop}(hx:Δ[i]?=some (.val (.int v))) (h1:v=c->P true Δ) (h2:¬ v=c->P false Δ):JT K (tTest (tOp rEq (tVar i) (tC (.int c)))) Δ P:=
 Za7 (Zaj (Zab hx (Zak (Zdg ⟨_,rfl,by
  by_cases h:v=c
  ·rw[decide_eq_true h];exact h1 h
  ·rw[decide_eq_false h];exact h2 h⟩))))
def wSt (py:List D) (a b n way k:Int) (fs:List D) (i u v:Int):Evt:=[.bor (.lst py),.val (.int a),.val (.int b),.val (.int n),.val (.int way),.val (.int k),.own (.lst fs),.val (.int i),.val (.int u),.val (.int v)]
def wQ (py:List D) (a b n way k:Int) (fs:List D) (i:Int):Evt->Prop:=λΔ=>∃u v:Int,0<=u/\u<n/\0<=v/\v<n /\ Δ = wSt py a b n way k fs i u v
def wR (py:List D) (a b n way k:Int) (fs:List D) (i:Int):Evt->Prop:=λΔ=>∃u v:Int,0<=u/\u<n/\0<=v /\ Δ = wSt py a b n way k fs i u v
def wL (a b n way k:Int) (i:Nat):Evt->Prop:=λΔ=>∃(ps:List D) (ts:List (Int × Int)) (x7 x8 x9:Slot),Pen ps/\ts.length=i/\(∀t∈ts,0<=t.1/\t.1<n/\0<=t.2/\t.2<n) /\ Δ = [.bor (.lst ps),.val (.int a),.val (.int b),.val (.int n),.val (.int way),.val (.int k),.own (.lst (ts.map encTie)),x7,x8,x9]
section
variable {P:Program}{w:World}{K:W.Frag}{mg:Str->Option Value}{base:Heap}{f:Addr}{fd:FuncData}
theorem Zqj (mb:Mb mg) (C25:Callee P w K mg base 1 "_law_draw" ["_law_pen_here","_law_many"] (spB K fDraw)) (F:Fun K "_law_web" "_law_web" s_law_web f fd):FnOk P w K mg base CX0 2 f fd ["_law_pen_here","_law_places","_law_ties"] (spB K fWeb):=by
 refine F.ok sc_law_web (Zd1 λps ds Post h=>by obtain⟨_,a,b,rfl,_⟩:=h;rfl) (λcdv A outer s H vs Q E hr h=>?_);have hu:=Zcu hr;refine⟨_,(Zaf (Zax (i:=3) sc_law_web.nd rfl (Or.inl rfl) (Zaw (addK K) Zad (Zbe C25 (hr.mono (by decide)) (Zaa (pv 0) (Zaa (pv 1) Zae))))) (Zaf (Zax (i:=4) sc_law_web.nd rfl (Or.inl rfl) (Zbe C25 (hr.mono (by decide)) (Zaa (pv 0) (Zaa Zad Zae)))) (Zaf (Zax (i:=5) sc_law_web.nd rfl (Or.inl rfl) (Zbe C25 (hr.mono (by decide)) (Zaa (pv 0) (Zaa (Zaw (addK K) (pv 2) Zad) Zae)))) (Zaf (Zbr (Zaz Zbp (pv 4) Zad (nomark _)) (Zaf (Zax (i:=3) sc_law_web.nd rfl (Or.inl rfl) (pv 1)) (Zal (Zax (i:=5) sc_law_web.nd rfl (Or.inl rfl) (pv 2)))) Za5) (Zaf (Zax (i:=6) sc_law_web.nd rfl (Or.inl rfl) (Zb9 Zae)) (Zaf (Zct PassesOwn.never rfl (Zbw rfl (mb "range" (by decide)) (Zaa (pv 5) Zae)) (Zav (i:=7) sc_law_web.nd rfl (Or.inl rfl)) (Zaf (Zkx (i:=8) (j:=9) rfl sc_law_web.nd rfl rfl (by decide) rfl rfl (Zaa (Zbe C25 (hr.mono (by decide)) (Zaa (pv 0) (Zaa (pv 3) Zae))) (Zaa (Zbe C25 (hr.mono (by decide)) (Zaa (pv 0) (Zaa (pv 3) Zae))) Zae)) rfl) (Zaf (Zbr (Zaz Zbp (pv 4) Zad (nomark _)) (Zal (Zkx (i:=8) (j:=9) rfl sc_law_web.nd rfl rfl (by decide) rfl rfl (Zaa (Zaw Zbu (pv 7) (pv 3)) (Zaa (Zaw Zbu (Zaw (addK K) (pv 7) Zad) (pv 3)) Zae)) rfl)) Za5) (Zaf (Zbr (Zaz Zbp (pv 4) Zad (nomark _)) (Zal (Zax (i:=8) sc_law_web.nd rfl (Or.inl rfl) Zad)) Za5) (Zaf (Zbr (Zaz Zbp (pv 4) Zad (nomark _)) (Zal (Zax (i:=9) sc_law_web.nd rfl (Or.inl rfl) (Zaw (addK K) (Zaw Zbu (pv 8) Zad) (Zaw Zdl (Zaw Zdr (pv 9) Zad) Zad)))) Za5) (Zaf (Zbr (PW.pt (pw_and (Zaz Zbp (pv 4) Zad (nomark _)) (pw_and1 (Zaz Zbp (Zaw Zbu (pv 9) Zad) Zad (nomark _))))) (Zal (Zax (i:=9) sc_law_web.nd rfl (Or.inl rfl) (pv 8))) Za5) (Zal (Zfw (bmK K PySem.F.plainAttrs_list PySem.F.slot_list_append PySem.F.type_list_append Zcs (pv 6) (Zaa (Zbi (Zaa (pv 8) (Zaa (Zao (Zff rfl) rfl (mb "min" (by decide)) Zkj (Zaa (pv 9) (Zaa (Zaw Zes (pv 3) Zad) Zae))) Zae))) Zae)))))))))) (Zal (Za4 (Zbi (Zaa (pv 3) (Zaa (Zb3 (tupK K) rfl (mb "tuple" (by decide)) Zb4 (Zaa (pv 6) Zae)) Zae))))))))))),Zip (λps ds Post hf=>?_) h⟩;obtain⟨hp,a,b,rfl,h1,h2,h3,h4,q⟩:=hf;refine⟨by simp,?_⟩;dsimp only[cxOf,startD,Wbg,Wbn,Wa7,Waw];refine Zat (Za2 (Zaj (Zak (Zdy rfl rfl (Zac (Zab rfl (Zah (Zc0 (m:=a) rfl rfl hp h1 (Int.le_trans h2 (by decide)) λr0 ps0 hp0 hr0 hs0=>Zc7 ?_))))))));refine Zat (Za2 (Zfb rfl rfl hp0 (by decide) (by decide) λway ps1 hp1 hw0 hw1=>?_));refine Zat (Za2 (Zdy rfl rfl (Zac (Zdx (Zbz (Zap rfl) Zbg Zdj) (Zah (Zc0 (m:=b+1) rfl rfl hp1 (Int.add_le_add h3 (Wcy 1)) (Int.le_trans (Int.add_le_add h4 (Wcy 1)) (by decide)) λcnt ps2 hp2 hc0 hc1=>?_))))));refine Zbc (λΔ=>∃n k:Int,1<=n/\n<=a/\0<=k/\k<=b /\ Δ = [.bor (.lst ps2),.val (.int a),.val (.int b),.val (.int n),.val (.int way),.val (.int k),.any,.any,.any,.any]) ?_ ?_
 ·refine Zbs (Zhi rfl (λc=>iteT ?_) (λc=>iteF (Za6 ⟨1+r0,cnt,Int.le_add_of_nonneg_right hr0,by omega,hc0,Int.le_of_lt_add_one hc1,rfl⟩)))
  exact Zat (Za2 (Zab rfl (Za2 (Zab rfl ⟨a,b,h1,Wcy _,h3,Wcy _,rfl⟩))))
 rintro Δ1 ⟨n,k,hn0,hn1,hk0,hk1,rfl⟩;have hn2:0<n:=Int.lt_of_lt_of_le (by decide) hn0;have hn3:n≠0:=Int.ne_of_gt hn2;refine Zat (Zdp (Zgf (Zah ⟨by decide,?_⟩)));refine Zbc (wL a b n way k k.toNat) ?_ ?_
 ·refine Zcv (Zbt (Zac (Zab rfl (Zah ⟨_,rfl,by omega,by omega,?_⟩))))
  refine⟨wL a b n way k,⟨ps2,[],.any,.any,.any,hp2,rfl,λ_ h=>(nomatch h),rfl⟩,?_,λΔ2 h=>by rw[Zby]at h;exact h⟩;rintro i d Δ2 hd ⟨ps,ts,x7,x8,x9,hp',hl,ht,rfl⟩;obtain⟨hi,rfl⟩:=Zdw hd;generalize (0+(i:Int))=I;refine Zbl (Zat (Zgz (Zac (Zdy rfl rfl (Zac (Zab rfl (Zah (Zc0 (m:=n) rfl rfl hp' hn0 (by omega) λx px hpx hx0 hx1=>?_))))))));refine Zac (Zdy rfl rfl (Zac (Zab rfl (Zah (Zc0 (m:=n) rfl rfl hpx hn0 (by omega) λy py hpy hy0 hy1=>Zah ⟨_,_,rfl,?_⟩)))));refine Zbc (wQ py a b n way k (ts.map encTie) I) ?_ ?_
  ·refine Zbs (Zhi rfl (λc=>iteT ?_) (λc=>iteF (Za6 ⟨x,y,hx0,hx1,hy0,hy1,rfl⟩)))
   exact Zgz (Zqv (Zag (Zbz (Zap rfl) (Zap rfl) (pr_I hn2)) (Zag (Zbz (Zbz (Zap rfl) Zbg Zdj) (Zap rfl) (pr_I hn2)) Za1)) ⟨_,_,rfl,_,_,Wcd _ hn3,Wbz _ hn2,Wcd _ hn3,Wbz _ hn2,rfl⟩)
  rintro Δ3 ⟨u,v,hu0,hu1,hv0,hv1,rfl⟩;refine Zbc (wQ py a b n way k (ts.map encTie) I) ?_ ?_
  ·exact Zbs (Zhi rfl (λc=>iteT (Za2 (Zak ⟨0,v,Wcy _,hn2,hv0,hv1,rfl⟩))) (λc=>iteF (Za6 ⟨u,v,hu0,hu1,hv0,hv1,rfl⟩)))
  rintro Δ3 ⟨u,v,hu0,hu1,hv0,hv1,rfl⟩;refine Zbc (wR py a b n way k (ts.map encTie) I) ?_ ?_
  ·refine Zbs (Zhi rfl (λc=>iteT ?_) (λc=>iteF (Za6 ⟨u,v,hu0,hu1,hv0,rfl⟩)))
   exact Za2 (Zdx (Zbz (Zbz (Zap rfl) Zbg (pr_I (show (0:Int)<2 by decide))) (Zbz (Zbz (Zap rfl) Zbg (pr_I ⟨by decide,by decide⟩)) Zbg (pr_I (Or.inr ⟨by decide,by decide⟩))) Zdj) ⟨u,_,hu0,hu1,by omega,rfl⟩)
  rintro Δ3 ⟨u,v,hu0,hu1,hv0,rfl⟩;refine Zbc (wR py a b n way k (ts.map encTie) I) ?_ ?_
  ·refine Zbs (Zkz (Zhi rfl (λc=>iteT ?_) (λc=>iteF (iteF (Za6 ⟨u,v,hu0,hu1,hv0,rfl⟩)))))
   refine Za7 (Zaj (Zdx (Zbz (Zap rfl) Zbg (pr_I (show (0:Int)<2 by decide))) (Zak (Zdg ⟨_,rfl,ite2 (λc=>?_) (λc=>Za6 ⟨u,v,hu0,hu1,hv0,rfl⟩)⟩))));exact Za2 (Zab rfl ⟨u,u,hu0,hu1,hu0,rfl⟩)
  rintro Δ3 ⟨u,v,hu0,hu1,hv0,rfl⟩;refine Zhu rfl rfl (Zez (Zac (Zab rfl (Zac (Zba (Zac (Zab rfl (Zac (Zdx (Zbz (Zap rfl) Zbg Zna) (Zah (Zf5 (Zah ?_))))))))))));refine⟨Zj8,_,_,rfl,rfl,?_,py,ts++[(u,if n-1<v then n-1 else v)],.val (.int I),.val (.int u),.val (.int v),hpy,by rw[Wag,hl];rfl,λt h=>?_,?_⟩
  ·rw[Wab];exact small1000 (by omega)
  ·rcases Waz.mp h with h|h
   ·exact ht t h
   ·rw[Wa5.mp h]
    refine⟨hu0,hu1,?_,?_⟩
    ·show 0<=(if n-1<v then n-1 else v);split <;> omega
    ·show (if n-1<v then n-1 else v)<n;split <;> omega
  ·rw[Wa6];rfl
 rintro Δ1 ⟨ps3,ts,x7,x8,x9,hp3,hl,ht,rfl⟩;refine Zaq (Zez (Zac (Zab rfl (Zac (Zba (Zac (Zh8 rfl (Zah (Zeu (Or.inl rfl) (Zah ⟨Zj8,?_⟩))))))))));exact⟨_,rfl,q n ts _ hp3 ⟨hn0,by omega,by omega,ht⟩ hn1 (by omega)⟩
end
def placeAt (ts:List (Int × Int)) (e:Nat):Int:=match ts[e / 2]? with
 |some t=>if e % 2=0 then t.1 else t.2
 |none=>-1
def encRow (r:List Int):D:=.tup (r.map .int)
def endsBelow (ts:List (Int × Int)) (m:Nat) (p:Int):List Int:=((Wa4 m).filter λe=>decide (placeAt ts e=p)).map λe:Nat=>(e:Int)
structure RowOk (ts:List (Int × Int)) (m:Nat) (p:Int) (r:List Int):Prop where
 perm:r.Perm (endsBelow ts m p)
 first:r.head?=(endsBelow ts m p).head?
structure OrdOk (n:Int) (ts:List (Int × Int)) (o:List (List Int)):Prop where
 len:(o.length:Int)=n
 row:∀(p:Nat) r,o[p]?=some r->RowOk ts (2*ts.length) (p:Int) r
theorem Zhx {ts:List (Int × Int)}{k:Nat}(h:k<2*ts.length):∃t,ts[k / 2]?=some t/\atI (ts.map encTie) ((0+(k:Int)) / 2)=some (encTie t)/\atI [D.int t.1,D.int t.2] ((0+(k:Int)) % 2)=some (.int (placeAt ts k)):=by
 have hk:k / 2<ts.length:=by omega
 refine⟨ts[k / 2],Wac hk,?_,?_⟩
 ·have e:(0+(k:Int)) / 2=((k / 2:Nat):Int):=by omega
  rw[e];exact Zb6 (by rw[Wad,Wac hk];rfl)
 ·have e2:placeAt ts k=if k % 2=0 then ts[k / 2].1 else ts[k / 2].2:=by
   unfold placeAt;rw[Wac hk]
  rw[e2];have e:(0+(k:Int)) % 2=((k % 2:Nat):Int):=by omega
  rw[e];by_cases h0:k % 2=0
  ·rw[if_pos h0,h0];exact Zb6 rfl
  ·have h1:k % 2=1:=by omega
   rw[if_neg h0,h1];exact Zb6 rfl
def partner (e:Nat):Nat:=if e % 2=0 then e+1 else e-1
theorem Zek {e m:Nat}(h:e<2*m):partner e<2*m:=by unfold partner;split <;> omega
theorem Zrr (k:Nat):k ||| 1=2*(k / 2)+1:=by
 apply Nat.eq_of_testBit_eq;intro i;rw[Nat.testBit_or];cases i with
 |zero=>rw[Nat.testBit_zero,Nat.testBit_zero,Nat.testBit_zero];simp
 |succ i=>
  rw[Nat.testBit_succ,Nat.testBit_succ,Nat.testBit_succ,show (2*(k / 2)+1) / 2=k / 2 by omega];simp
theorem Zo2 (k:Nat):Builtin.bitXor (k:Int) 1=(partner k:Int):=by
 have e1:Builtin.bitAnd (k:Int) 1=((k % 2:Nat):Int):=by
  unfold Builtin.bitAnd;rw[decide_eq_true (show (0:Int)<=(k:Int) by omega),decide_eq_true (show (0:Int)<=1 by decide)];show ((((k:Int).toNat &&& (1:Int).toNat:Nat)):Int)=_;rw[Wao,show (1:Int).toNat=1 from rfl,Nat.and_one_is_mod]
 have e2:Builtin.bitOr (k:Int) 1=((2*(k / 2)+1:Nat):Int):=by
  unfold Builtin.bitOr Builtin.bitAnd;rw[decide_eq_false (show ¬ (0:Int)<=Builtin.bitNot (k:Int) by unfold Builtin.bitNot;omega),decide_eq_false (show ¬ (0:Int)<=Builtin.bitNot 1 by decide)];show Builtin.bitNot (Builtin.bitNot (((Builtin.bitNot (Builtin.bitNot (k:Int))).toNat ||| (Builtin.bitNot (Builtin.bitNot 1)).toNat:Nat):Int))=_;have n1:∀x:Int,Builtin.bitNot (Builtin.bitNot x)=x:=λx=>by unfold Builtin.bitNot;omega
  rw[n1,n1,n1,Wao,show (1:Int).toNat=1 from rfl,Zrr]
 unfold Builtin.bitXor;rw[e1,e2];unfold partner;split <;> omega
def nxI (n k:Nat):Nat:=if k+1=n then 0 else k+1
def pvI (n k:Nat):Nat:=if k=0 then n-1 else k-1
theorem Zpg {r:List Int}{k:Nat}(hk:k<r.length):atI (r.map D.int) ((k:Int)-1)=some (.int (r.getD (pvI r.length k) 0)):=by
 unfold pvI;by_cases h0:k=0
 ·subst h0
  rw[if_pos rfl];obtain⟨r',y,rfl⟩:∃r' y,r=r'++[y]:=⟨r.dropLast,r.getLast (by intro z;subst z;simp at hk),(List.dropLast_concat_getLast _).symm⟩;show atI ((r'++[y]).map D.int) (-1)=_;rw[Wa6,List.map_singleton,Zmm];simp
 ·rw[if_neg h0,show (k:Int)-1=((k-1:Nat):Int) by omega]
  exact Zb6 (by rw[Wad,Wae,Wac (by omega:k-1<r.length)];rfl)
theorem Ze4 (ds:List D) {j:Nat}(h:j<=ds.length):cutD ds (some (j:Int)) none=ds.drop j:=by
 unfold cutD;rw[HT.sIx_nat,HT.sIx_none,Wcv h,Wce (by rw[Wa8];exact Waf _)]
theorem Zlw (ds:List D) {j:Nat}(h:j<=ds.length):cutD ds none (some (j:Int))=ds.take j:=by
 unfold cutD;rw[HT.sIx_nat,HT.sIx_none,Wcv h,List.drop_zero,Nat.sub_zero]
section
variable {P:Program}{w:World}{K:W.Frag}{mg:Str->Option Value}{base:Heap}{f:Addr}{fd:FuncData}
def fPlace:DSp:=λds Post=>∃n ts,∃e:Nat,ds=[encWeb n ts,.int e]/\e<2*ts.length/\Post (.int (placeAt ts e))
theorem Zm7 (mb:Mb mg) (F:Fun K "place_of" "place_of" s_place_of f fd):FnOk P w K mg base CX0 1 f fd ["web","end"] (spD K fPlace):=by
 refine F.ok sc_place_of (Zca λds Post h=>by obtain⟨_,_,_,rfl,_⟩:=h;rfl) (λcdv A outer s H vs Q E hr h=>?_);have hu:=Zcu hr;refine⟨_,(Zal (Za4 (Zau (ixK K hu) (Zau (ixK K hu) (Zau (ixK K hu) (pv 0) Zad (λ_ _=>rfl)) (Zaw Zdr (pv 1) Zad) (λ_ _=>rfl)) (Zaw Zbu (pv 1) Zad) (λ_ _=>rfl)))),Zee (λds Post hf=>?_) h⟩;obtain⟨n,ts,e,rfl,he,q⟩:=hf;refine⟨by simp,?_⟩;dsimp only[startD,Wbg,Wbn,Wa7];obtain⟨t,h1,h2,h3⟩:=Zhx he;rw[Wb2]at h2 h3;refine Zaq (Zaj (Zaj (Zaj (Zab rfl (Zak (Zan (d:=.tup (ts.map encTie)) rfl ?_))))));refine Zaj (Zab rfl (Zak (jr_I ⟨by omega,by omega⟩ (Zan h2 ?_))));exact Zaj (Zab rfl (Zak (jr_I (by show (0:Int)<2;omega) (Zan h3 q))))
theorem Zcg:2<=sizeLine:=by decide
end
def iter (f:Int->Int) (e:Int):Nat->Int
 |0=>e
 |n+1=>f (iter f e n)
def walkL (f:Int->Int) (e:Int) (n:Nat):List Int:=(Wa4 n).map (iter f e)
structure OneOne (f:Int->Int) (m:Nat):Prop where
 to:∀x,0<=x->x<(m:Int)->0<=f x/\f x<(m:Int)
 inj:∀x y,0<=x->x<(m:Int)->0<=y->y<(m:Int)->f x=f y->x=y
def NdTo (f:Int->Int) (e:Int) (n:Nat):Prop:=∀i j,i<n->j<n->iter f e i=iter f e j->i=j
structure IsOrb (f:Int->Int) (e:Int) (n:Nat):Prop where
 pos:0<n
 back:iter f e n=e
 nd:NdTo f e n
noncomputable def per (f:Int->Int) (e:Int):Nat:=Classical.epsilon (IsOrb f e)
noncomputable def orb (f:Int->Int) (e:Int):List Int:=walkL f e (per f e)
section
variable {f:Int->Int}{m:Nat}(F:OneOne f m) {e:Int}(h0:0<=e) (h1:e<(m:Int))
include F h0 h1
end
section
variable {f:Int->Int}{m:Nat}(F:OneOne f m)
include F
end
section
variable {P:Program}{w:World}{K:W.Frag}{mg:Str->Option Value}{base:Heap}{f:Addr}{fd:FuncData}
def intD:D->Int
 |.int i=>i
 |_=>0
end
def loI (a b:Int):Int:=if b<a then b else a
def hiI (a b:Int):Int:=if b > a then b else a
def mergeL (l:List Int) (a b:Int):List Int:=l.map λf=>if f=hiI (l.getD a.toNat 0) (l.getD b.toNat 0) then loI (l.getD a.toNat 0) (l.getD b.toNat 0) else f
def marksL (n:Nat) (ts:List (Int × Int)):List Int:=ts.foldl (λl t=>mergeL l t.1 t.2) ((Wa4 n).map λi:Nat=>(i:Int))
theorem Zga (l:List Int) (a b:Int):(mergeL l a b).length=l.length:=by unfold mergeL;rw[Wab]
theorem Zb2 (n:Nat) (ts:List (Int × Int)):(marksL n ts).length=n:=by
 unfold marksL;have:∀(ts:List (Int × Int)) (l:List Int),(ts.foldl (λl t=>mergeL l t.1 t.2) l).length=l.length:=by
  intro ts
  induction ts with
  |nil=>intro l;rfl
  |cons t ts ih=>intro l;rw[List.foldl_cons,ih,Zga]
 rw[this,Wab,Wcg]
theorem Zdc {n:Nat}{ts:List (Int × Int)}{i:Nat}{t:Int × Int}(h:ts[i]?=some t):marksL n (ts.take (i+1))=mergeL (marksL n (ts.take i)) t.1 t.2:=by
 unfold marksL;rw[Wcf,h,List.foldl_append];rfl
def Firsts (ms l:List Int):Prop:=ms.Pairwise (· < ·)/\∀x,x∈ms↔x∈l
theorem Zgb:∀{ms l:List Int},ms.Nodup->(∀x∈ms,x∈l)->ms.length<=l.length
 |[],_,_,_=>by simp
 |x::ms,l,h1,h2=>by
  rw[Wcj]at h1;have hx:=h2 x (by simp);have:=Zgb (ms:=ms) (l:=l.erase x) h1.2 λy hy=>(List.mem_erase_of_ne (λz:y=x=>h1.1 (z ▸ hy))).mpr (h2 y (by simp[hy]));rw[List.length_erase_of_mem hx]at this;have:=List.length_pos_of_mem hx;rw[Wbk];omega
theorem Firsts.len {ms l:List Int}(h:Firsts ms l):ms.length<=l.length:=Zgb (h.1.imp λz=>Int.ne_of_lt z) λx hx=>(h.2 x).mp hx
def partI (l:List Int) (n:Nat) (f:Int):List Int:=((Wa4 n).map λi:Nat=>(i:Int)).filter λp=>decide (l.getD p.toNat 0=f)
def lstI (r:List Int):D:=.lst (r.map .int)
def partsL (n:Nat) (ts:List (Int × Int)) (ms:List Int):List (List Int):=ms.map (partI (marksL n ts) n)
def fParts:NSp:=λds Post=>∃n ts,ds=[encWeb n ts]/\WebOk n ts/\∀ms,Firsts ms (marksL n.toNat ts)->Post ((partsL n.toNat ts ms).map lstI)
theorem Zob (l:List Int) (n:Nat) (f:Int) (p:D->Bool) (hp:∀i:Int,p (.int i)=decide (l.getD i.toNat 0=f)) (g:D->D) (hg:∀d,g d=d):D.lst (((rngD 0 n).filter p).map g)=lstI (partI l n f):=by
 have e1:rngD 0 n=((Wa4 n).map λi:Nat=>(i:Int)).map D.int:=by
  unfold rngD;rw[Wbf];apply Wcl;intro i _;show D.int (0+(i:Int))=D.int (i:Int);rw[Wb2]
 unfold lstI partI;rw[e1,List.filter_map,show g=id from funext hg,List.map_id];have e2:(p∘D.int)=λq:Int=>decide (l.getD q.toNat 0=f):=funext hp;rw[e2]
theorem Zoq {n:Nat}{l ms:List Int}(q:D->Bool) (hq:∀d,q d=true) (g:D->D) (hg:∀f:Int,g (.int f)=lstI (partI l n f)):((ms.map D.int).filter q).map g=(ms.map (partI l n)).map lstI:=by
 rw[Wb6.mpr (λd _=>hq d),Wbf,Wbf];apply Wcl;intro f _;exact hg f
section
variable {P:Program}{w:World}{K:W.Frag}{mg:Str->Option Value}{base:Heap}{f:Addr}{fd:FuncData}
theorem Zbn {l:List Int}{x:Int}{n:Nat}(hl:l.length=n) (h0:0<=x) (h1:x<(n:Int)):atI (l.map D.int) x=some (.int (l.getD x.toNat 0)):=by
 rw[show x=((x.toNat:Nat):Int) by omega];refine Zb6 ?_;rw[Wad,Wae,Wao,Wac (by omega:x.toNat<l.length)];rfl
theorem Ziw (mb:Mb mg) (F:Fun K "parts_of" "parts_of" s_parts_of f fd):FnOk P w K mg base CX0 1 f fd ["web"] (spN K fParts):=by
 refine F.ok sc_parts_of (Zis λds Post h=>by obtain⟨_,_,rfl,_⟩:=h;rfl) (λcdv A outer s H vs Q E hr h=>?_);have hu:=Zcu hr;have hv:=Zem hr;refine⟨_,(Zaf (Zfp (pv 0) (gtupK (n:=2) K rfl (Zbb (Zav (i:=1) sc_parts_of.nd rfl (Or.inr rfl)) (Zbb (Zav (i:=2) sc_parts_of.nd rfl (Or.inl rfl)) Zcp)))) (Zaf (Zax (i:=3) sc_parts_of.nd rfl (Or.inr rfl) (Zex rfl rfl (mb "list" (by decide)) rfl (mb "range" (by decide)) (Zaa (pv 1) Zae))) (Zaf (Zct PassesOwn.never rfl (seqK K (pv 2)) (gtupK (n:=2) K rfl (Zbb (Zav (i:=4) sc_parts_of.nd rfl (Or.inl rfl)) (Zbb (Zav (i:=5) sc_parts_of.nd rfl (Or.inl rfl)) Zcp))) (Zaf (Zax (i:=6) sc_parts_of.nd rfl (Or.inr rfl) (Zao (Zff rfl) rfl (mb "min" (by decide)) Zkj (Zaa (Zau (ixK K hu) (pv 3) (pv 4) (λ_ _=>rfl)) (Zaa (Zau (ixK K hu) (pv 3) (pv 5) (λ_ _=>rfl)) Zae)))) (Zaf (Zax (i:=7) sc_parts_of.nd rfl (Or.inr rfl) (Zao (Zht rfl) rfl (mb "max" (by decide)) Zoj (Zaa (Zau (ixK K hu) (pv 3) (pv 4) (λ_ _=>rfl)) (Zaa (Zau (ixK K hu) (pv 3) (pv 5) (λ_ _=>rfl)) Zae)))) (Zal (Zax (i:=3) sc_parts_of.nd rfl (Or.inr rfl) (Zb8 ["first"] (show CompSc (defScope s_parts_of) ["web","many","ties","firsts","a","b","low","high"] _ ["low","high"] [6,7] from ⟨rfl,by decide +kernel,by decide +kernel,by decide +kernel,rfl,by decide +kernel⟩) rfl (seqK K (pv 3)) (λ_ _ _ _ _=>(Zav (i:=0) (show List.Nodup (["first","low","high"]:List Str) from by decide) rfl (Or.inl rfl))) (λ_ _ _ _ _=>Zck) (λ_ _ _ _ _=>(Zmo (Zaz Zbp (pv 0) (pv 2) (nomark _)) (pv 1) (pv 0))))))))) (Zal (Za4 (Zkb ["first"] (show CompScK (defScope s_parts_of) ["web","many","ties","firsts","a","b","low","high"] "first" _ ["many","firsts"] [1,3] from ⟨rfl,by decide +kernel,by decide +kernel,by decide +kernel,by decide +kernel,rfl,by decide +kernel⟩) rfl (seqK K (Zf9 rfl rfl rfl (mb "sorted" (by decide)) rfl (mb "set" (by decide)) (Zaa (pv 3) Zae))) (λ_ _ _ _ _=>(Zav (i:=0) (show List.Nodup (["first","many","firsts"]:List Str) from by decide) rfl (Or.inr rfl))) (λ_ _ _ _ _=>Zck) (λ_ _ _ _ _=>(Zb8 ["place"] (show CompSc (relab (defScope s_parts_of) _) ["first","many","firsts"] _ ["first","firsts"] [0,2] from ⟨rfl,by decide +kernel,by decide +kernel,by decide +kernel,rfl,by decide +kernel⟩) rfl (Zbw rfl (mb "range" (by decide)) (Zaa (pv 1) Zae)) (λ_ _ _ _ _=>(Zav (i:=0) (show List.Nodup (["place","first","firsts"]:List Str) from by decide) rfl (Or.inl rfl))) (λ_ _ _ _ _=>(Zih (Zaz Zbp (Zau (ixK K hu) (pv 2) (pv 0) (λ_ _=>rfl)) (pv 1) (nomark _)))) (λ_ _ _ _ _=>(pv 0)))))))))),Zol (λds Post hf=>?_) h⟩;obtain⟨n,ts,rfl,hW,q⟩:=hf;refine⟨by simp,?_⟩;dsimp only[startD,Wbg,Wbn,Wa7,Waw];have hn0:=hW.lo;have hn1:=hW.hi;have hts:=hW.len;obtain⟨N,rfl⟩:∃N:Nat,n=(N:Int):=⟨n.toNat,by omega⟩;rw[Wao]at q;refine Zat (Zog (Zab rfl (Zey rfl (Zbh (Zbl (Zbh (Zbl (Zdh ?_))))))));refine Zat (Za2 (Zds (Zqp (Zac (Zab rfl (Zah ⟨N,rfl,by omega,_,rfl,?_⟩))))));have e0:(Wa4 N).map (λi:Nat=>D.int (i:Int))=(marksL N (ts.take 0)).map D.int:=by
  show _=((Wa4 N).map λi:Nat=>(i:Int)).map D.int;rw[Wbf];rfl
 rw[e0];refine Zbc (λΔ=>∃(x4 x5 x6 x7:L2.Slot),Δ = [.val (encWeb (N:Int) ts),.val (.int (N:Int)),.val (.tup (ts.map encTie)),.val (.lst ((marksL N ts).map D.int)),x4,x5,x6,x7]) ?_ ?_
 ·refine Zcv (Zdm (Zab rfl ⟨_,rfl,λi Δ=>∃(x4 x5 x6 x7:L2.Slot),Δ = [.val (encWeb (N:Int) ts),.val (.int (N:Int)),.val (.tup (ts.map encTie)),.val (.lst ((marksL N (ts.take i)).map D.int)),x4,x5,x6,x7],⟨_,_,_,_,rfl⟩,?_,?_⟩))
  ·rintro i d Δ2 hd ⟨x4,x5,x6,x7,rfl⟩
   rw[Wad]at hd;cases z:ts[i]? with
   |none=>rw[z]at hd;cases hd
   |some t=>
    rw[z]at hd;have hd:encTie t=d:=by simpa using hd
    subst hd;have ht:=hW.tie t (Wah z);have hl:=Zb2 N (ts.take i);have hs:=Zdc (n:=N) z;obtain⟨l,el⟩:∃l,marksL N (ts.take i)=l:=⟨_,rfl⟩;rw[el]at hl hs ⊢;have a1:=Zbn hl ht.1 ht.2.1;have a2:=Zbn hl ht.2.2.1 ht.2.2.2;refine Zey rfl (Zbh (Zbl (Zbh (Zbl (Zdh ?_)))));refine Zat (Za2 (Zba (Zac (Zaj (Zab rfl (Zab rfl (Zbk a1 (Zac (Zaj (Zab rfl (Zab rfl (Zbk a2 (Zah (Zf5 ?_))))))))))))));refine Zat (Za2 (Zba (Zac (Zaj (Zab rfl (Zab rfl (Zbk a1 (Zac (Zaj (Zab rfl (Zab rfl (Zbk a2 (Zah (Zf5 ?_))))))))))))));refine Za2 (Zcf (by decide) (Zfh (Zab rfl ⟨_,Or.inl rfl,?_,λ_=>true,λd=>match d with|.int g=>.int (if g=hiI (l.getD t.1.toNat 0) (l.getD t.2.toNat 0) then loI (l.getD t.1.toNat 0) (l.getD t.2.toNat 0) else g)|d=>d,λj d hd=>?_,?_⟩)))
    ·rw[Wab];exact small1000 (by omega)
    ·rw[Wad]at hd
     cases zz:l[j]? with
     |none=>rw[zz]at hd;cases hd
     |some g=>
      rw[zz]at hd;have hd:D.int g=d:=by simpa using hd
      subst hd;refine Zci ⟨rfl,Zne (Za7 (Zaj (Zab rfl (Zab rfl (Zdg ⟨_,rfl,?_⟩)))))⟩;show if decide (g=hiI (l.getD t.1.toNat 0) (l.getD t.2.toNat 0))=true then _ else _
      by_cases hg:g=hiI (l.getD t.1.toNat 0) (l.getD t.2.toNat 0)
      ·rw[decide_eq_true hg]
       refine iteT (Zab rfl ⟨?_,_,rfl⟩);dsimp only;rw[if_pos hg];rfl
      ·rw[decide_eq_false hg]
       refine iteF (Zab rfl ⟨?_,_,rfl⟩);dsimp only;rw[if_neg hg]
    ·have e1:((l.map D.int).filter λ_=>true).map (λd=>match d with|.int g=>D.int (if g=hiI (l.getD t.1.toNat 0) (l.getD t.2.toNat 0) then loI (l.getD t.1.toNat 0) (l.getD t.2.toNat 0) else g)|d=>d)=(marksL N (ts.take (i+1))).map D.int:=by
      rw[hs,Wb6.mpr (by simp),Wbf];unfold mergeL;rw[Wbf];rfl
     rw[e1];exact⟨_,_,_,_,rfl⟩
  ·rintro Δ2 ⟨x4,x5,x6,x7,rfl⟩
   rw[Wab,Wbc];exact⟨_,_,_,_,rfl⟩
 rintro Δ1 ⟨x4,x5,x6,x7,rfl⟩;have hl:=Zb2 N ts;refine Zic (Zms (by decide) (Zfh (Zds (Zrf (Zac (Zab rfl (Zah ⟨_,rfl,by omega,λms m1 m2=>⟨_,rfl,_,Or.inl rfl,?_,λ_=>true,λd=>match d with|.int g=>lstI (partI (marksL N ts) N g)|d=>d,λi d hd=>?_,?_⟩⟩)))))))
 ·have:=Firsts.len ⟨m1,m2⟩
  rw[Wab];exact small1000 (by omega)
 ·rw[Wad]at hd
  cases zz:ms[i]? with
  |none=>rw[zz]at hd;cases hd
  |some g=>
   rw[zz]at hd;have hd:D.int g=d:=by simpa using hd
   subst hd;refine Zci ⟨rfl,Zcf (by decide) (Zbt (Zac (Zab rfl (Zah ⟨_,rfl,by omega,by omega,?_,λd=>match d with|.int p=>decide ((marksL N ts).getD p.toNat 0=g)|_=>false,λd=>d,λj d hd=>?_,?_⟩))))⟩
   ·rw[Zby];exact small1000 (by omega)
   ·obtain⟨hj,rfl⟩:=Zdw hd
    refine Za7 (Zaj (Zaj (Zab rfl (Zab rfl (Zbk (Zbn hl (by omega) (by omega)) (Zab rfl (Zdg ⟨_,rfl,rfl,?_⟩)))))));split
    ·exact Zab rfl ⟨rfl,_,rfl⟩
    ·exact⟨_,rfl⟩
   ·refine⟨?_,_,rfl⟩
    rw[Wao];exact Zob _ _ _ _ (λ_=>rfl) _ λ_=>rfl
 ·refine⟨_,rfl,?_⟩
  rw[Zoq (l:=marksL N ts) (n:=N) _ (λ_=>rfl) _ λ_=>rfl];exact q ms ⟨m1,m2⟩
end
def stepM (l:List Int) (h lo:Int) (k:Nat):List Int:=(l.take k).map (λf=>if f=h then lo else f)++l.drop k
theorem Zfq (l:List Int) (h lo:Int) (k:Nat):(stepM l h lo k).length=l.length:=by
 unfold stepM;rw[Wag,Wab,Wav,Wa8];omega
theorem Zlq {l:List Int}{h lo:Int}{k:Nat}(hk:k<l.length):(stepM l h lo k)[k]?=some l[k]:=by
 unfold stepM;rw[Wap (by rw[Wab,Wav];omega),Wab,Wav,Wcv (Wb1 hk),Nat.sub_self,Wb8];exact Wac hk
theorem Zjl {l:List Int}{h lo:Int}{k:Nat}(hk:k<l.length):stepM l h lo (k+1)=(stepM l h lo k).set k (if l[k]=h then lo else l[k]):=by
 apply Wbl;intro j;rw[Wcs,Zfq];unfold stepM;rcases Nat.lt_trichotomy j k with hj|hj|hj
 ·rw[if_neg (by omega),Wa3 (by rw[Wab,Wav];omega),Wa3 (by rw[Wab,Wav];omega),Wad,Wad,Wcp,Wcp,if_pos (by omega),if_pos (by omega)]
 ·subst hj
  rw[if_pos rfl,if_pos hk,Wa3 (by rw[Wab,Wav];omega),Wad,Wcp,if_pos (by omega),Wac hk];rfl
 ·rw[if_neg (by omega),Wap (by rw[Wab,Wav];omega),Wap (by rw[Wab,Wav];omega),Wab,Wab,Wav,Wav,Wb8,Wb8]
  congr 1;omega
theorem Zk8 {l:List Int}{h lo:Int}:stepM l h lo l.length=l.map λf=>if f=h then lo else f:=by
 unfold stepM;rw[Wbc,List.drop_length,Wbh]
def fPartsU:NSp:=λds Post=>∃(N:Nat) (ts:List (Int × Int)) (d:D),ds=[.tup [.int (N:Int),d]]/\(d=.tup (ts.map encTie)\/d=.lst (ts.map encTie))/\WebOk (N:Int) ts/\∀ms,Firsts ms (marksL N ts)->Post ((partsL N ts ms).map lstI)
section
variable {P:Program}{w:World}{K:W.Frag}{mg:Str->Option Value}{base:Heap}{f:Addr}{fd:FuncData}
theorem Zma (mb:Mb mg) (F:Fun K "_law_parts" "_law_parts" s_law_parts f fd):FnOk P w K mg base CX0 1 f fd ["_law_web_here"] (spN K fPartsU):=by
 refine F.ok sc_law_parts (Zis λds Post h=>by obtain⟨_,_,_,rfl,_⟩:=h;rfl) (λcdv A outer s H vs Q E hr h=>?_);have hu:=Zcu hr;have hv:=Zem hr;refine⟨_,(Zaf (Zax (i:=1) sc_law_parts.nd rfl (Or.inr rfl) (Zex rfl rfl (mb "list" (by decide)) rfl (mb "range" (by decide)) (Zaa (Zau (ixK K hu) (pv 0) Zad (λ_ _=>rfl)) Zae))) (Zaf (Zct PassesOwn.never rfl (seqK K (Zau (ixK K hu) (pv 0) Zad (λ_ _=>rfl))) (gtupK (n:=2) K rfl (Zbb (Zav (i:=2) sc_law_parts.nd rfl (Or.inl rfl)) (Zbb (Zav (i:=3) sc_law_parts.nd rfl (Or.inl rfl)) Zcp))) (Zaf (Zkx (i:=4) (j:=5) rfl sc_law_parts.nd rfl rfl (by decide) rfl rfl (Zaa (Zao (Zff rfl) rfl (mb "min" (by decide)) Zkj (Zaa (Zau (ixK K hu) (pv 1) (pv 2) (λ_ _=>rfl)) (Zaa (Zau (ixK K hu) (pv 1) (pv 3) (λ_ _=>rfl)) Zae))) (Zaa (Zao (Zht rfl) rfl (mb "max" (by decide)) Zoj (Zaa (Zau (ixK K hu) (pv 1) (pv 2) (λ_ _=>rfl)) (Zaa (Zau (ixK K hu) (pv 1) (pv 3) (λ_ _=>rfl)) Zae))) Zae)) rfl) (Zal (Zct PassesOwn.never rfl (Zbw rfl (mb "range" (by decide)) (Zaa (Zau (ixK K hu) (pv 0) Zad (λ_ _=>rfl)) Zae)) (Zav (i:=6) sc_law_parts.nd rfl (Or.inl rfl)) (Zal (Zbr (Zaz Zbp (Zau (ixK K hu) (pv 1) (pv 6) (λ_ _=>rfl)) (pv 5) (nomark _)) (Zal (Zfp (pv 4) (Zhq (pv 1) (pv 6) (setU hu)))) Za5)))))) (Zaf (Zax (i:=7) sc_law_parts.nd rfl (Or.inl rfl) (Zb9 Zae)) (Zaf (Zct PassesOwn.never rfl (seqK K (Zf9 rfl rfl rfl (mb "sorted" (by decide)) rfl (mb "set" (by decide)) (Zaa (pv 1) Zae))) (Zav (i:=8) sc_law_parts.nd rfl (Or.inr rfl)) (Zal (Zfw (bmK K PySem.F.plainAttrs_list PySem.F.slot_list_append PySem.F.type_list_append Zcs (pv 7) (Zaa (Zb8 ["_law_place"] (show CompSc (defScope s_law_parts) ["_law_web_here","_law_marks","_law_a","_law_b","_law_low","_law_high","_law_place","_law_found","_law_first"] _ ["_law_marks","_law_first"] [1,8] from ⟨rfl,by decide +kernel,by decide +kernel,by decide +kernel,rfl,by decide +kernel⟩) rfl (Zbw rfl (mb "range" (by decide)) (Zaa (Zau (ixK K hu) (pv 0) Zad (λ_ _=>rfl)) Zae)) (λ_ _ _ _ _=>(Zav (i:=0) (show List.Nodup (["_law_place","_law_marks","_law_first"]:List Str) from by decide) rfl (Or.inl rfl))) (λ_ _ _ _ _=>(Zih (Zaz Zbp (Zau (ixK K hu) (pv 1) (pv 0) (λ_ _=>rfl)) (pv 2) (nomark _)))) (λ_ _ _ _ _=>(pv 0))) Zae))))) (Zal (Za4 (pv 7))))))),Zol (λds Post hf=>?_) h⟩;obtain⟨N,ts,d0,rfl,hd0,hW,q⟩:=hf;refine⟨by simp,?_⟩;dsimp only[startD,Wbg,Wbn,Wa7,Waw];have hn0:=hW.lo;have hn1:=hW.hi;have hts:=hW.len;refine Zat (Zdp (Zqp (Zac (Zaj (Zab rfl (Zak (Zan (d:=.int (N:Int)) rfl (Zah ⟨N,rfl,by omega,?_⟩))))))));have e0:(Wa4 N).map (λi:Nat=>D.int (i:Int))=(marksL N (ts.take 0)).map D.int:=by
  show _=((Wa4 N).map λi:Nat=>(i:Int)).map D.int;rw[Wbf];rfl
 rw[e0];refine Zbc (λΔ=>∃(x4 x5 x6 x7 x8:L2.Slot),Δ = [.val (.tup [.int (N:Int),d0]),.own (.lst ((marksL N ts).map D.int)),x4,x5,x6,x7,x8,.any,.any]) ?_ ?_
 ·refine Zcv (Zmz hd0 (Zaj (Zab rfl (Zak (Zan (d:=d0) rfl ⟨rfl,λi Δ=>∃(x4 x5 x6 x7 x8:L2.Slot),Δ = [.val (.tup [.int (N:Int),d0]),.own (.lst ((marksL N (ts.take i)).map D.int)),x4,x5,x6,x7,x8,.any,.any],⟨_,_,_,_,_,rfl⟩,?_,?_⟩)))))
  ·rintro i d Δ2 hd ⟨x4,x5,x6,x7,x8,rfl⟩
   rw[Wad]at hd;cases z:ts[i]? with
   |none=>rw[z]at hd;cases hd
   |some t=>
    rw[z]at hd;have hd:encTie t=d:=by simpa using hd
    subst hd;have ht:=hW.tie t (Wah z);have hl:=Zb2 N (ts.take i);have hs:=Zdc (n:=N) z;obtain⟨l,el⟩:∃l,marksL N (ts.take i)=l:=⟨_,rfl⟩;rw[el]at hl hs ⊢;have a1:=Zbn hl ht.1 ht.2.1;have a2:=Zbn hl ht.2.2.1 ht.2.2.2;refine Zey rfl (Zbh (Zbl (Zbh (Zbl (Zdh ?_)))));refine Zat (Zgz (Zac (Zba (Zac (Zd3 rfl rfl (Zab rfl ⟨_,_,_,_,rfl,rfl,rfl,a1,Zac (Zd3 rfl rfl (Zab rfl ⟨_,_,_,_,rfl,rfl,rfl,a2,Zah (Zf5 ?_)⟩))⟩))))));refine Zac (Zba (Zac (Zd3 rfl rfl (Zab rfl ⟨_,_,_,_,rfl,rfl,rfl,a1,Zac (Zd3 rfl rfl (Zab rfl ⟨_,_,_,_,rfl,rfl,rfl,a2,Zah (Zf5 (Zah ⟨_,_,rfl,?_⟩))⟩))⟩))));obtain⟨lo,elo⟩:∃lo,loI (l.getD t.1.toNat 0) (l.getD t.2.toNat 0)=lo:=⟨_,rfl⟩;obtain⟨hi,ehi⟩:∃hi,hiI (l.getD t.1.toNat 0) (l.getD t.2.toNat 0)=hi:=⟨_,rfl⟩;refine Zcv (Zbt (Zac (Zaj (Zab rfl (Zak (Zan (d:=.int (N:Int)) rfl (Zah ⟨_,rfl,by omega,by omega,λk Δ=>∃x8:L2.Slot,Δ = [.val (.tup [.int (N:Int),d0]),.own (.lst ((stepM l hi lo k).map D.int)),.val (.int t.1),.val (.int t.2),.val (.int lo),.val (.int hi),x8,.any,.any],⟨x8,?_⟩,?_,?_⟩)))))))
    ·rw[<- elo,<- ehi];rfl
    ·rintro k d Δ3 hd ⟨x8,rfl⟩
     rw[Wao]at hd;obtain⟨hk,rfl⟩:=Zdw hd;rw[Wb2];have hkl:k<l.length:=by omega
     have hg:=Zlq (h:=hi) (lo:=lo) hkl;have hat:atI ((stepM l hi lo k).map D.int) (k:Int)=some (.int l[k]):=Zb6 (by rw[Wad,hg];rfl);have hsu:=Zjl (h:=hi) (lo:=lo) hkl;refine Zbl (Zbs (Za7 (Zaj (Zd3 rfl rfl (Zab rfl ⟨_,_,_,_,rfl,rfl,rfl,hat,Zab rfl (Zdg ⟨_,rfl,?_⟩)⟩)))));by_cases hb:l[k]=hi
     ·rw[decide_eq_true hb]
      rw[if_pos hb]at hsu;refine iteT (Zgo (Zab rfl ⟨⟨_,_,rfl,rfl⟩,Zab rfl ⟨_,_,_,k,rfl,rfl,rfl,?_,.val (.int (k:Int)),?_⟩⟩))
      ·unfold ixN
       rw[if_pos (by omega),if_pos (by rw[Wab,Zfq];omega),Wao]
      ·rw[hsu,List.map_set];rfl
     ·rw[decide_eq_false hb]
      rw[if_neg hb]at hsu;refine iteF (Za6 ⟨.val (.int (k:Int)),?_⟩);have:stepM l hi lo (k+1)=stepM l hi lo k:=by
       rw[hsu];apply Wbl;intro j;rw[Wcs];split
       ·rename_i hj
        subst hj;rw[if_pos (by rw[Zfq];omega),hg]
       ·rfl
      rw[this];rfl
    ·rintro Δ3 ⟨x8,rfl⟩
     have e2:stepM l hi lo (rngD 0 ((N:Int)).toNat).length=marksL N (ts.take (i+1)):=by
      rw[Zby,Wao,hs];unfold mergeL;rw[elo,ehi,<- Zk8,hl]
     rw[e2];exact⟨_,_,_,_,_,rfl⟩
  ·rintro Δ2 ⟨x4,x5,x6,x7,x8,rfl⟩
   rw[Wab,Wbc];exact⟨_,_,_,_,_,rfl⟩
 rintro Δ1 ⟨x4,x5,x6,x7,x8,rfl⟩;have hl:=Zb2 N ts;refine Zat (Zdp (Zgf (Zah ⟨by decide,?_⟩)));refine Zbc (λΔ=>∃(ms:List Int) (x:L2.Slot) (R:Evt),Firsts ms (marksL N ts) /\ Δ = [.val (.tup [.int (N:Int),d0]),.val (.lst ((marksL N ts).map D.int)),x4,x5,x6,x7,x8,.own (.lst ((partsL N ts ms).map lstI)),x]) ?_ ?_
 ·refine Zcv (Zfh (Zds (Zrf (Zac (Zh8 rfl (Zah ⟨_,rfl,by omega,λms m1 m2=>⟨_,rfl,_,Or.inl rfl,λi Δ=>∃x:L2.Slot,Δ = [.val (.tup [.int (N:Int),d0]),.val (.lst ((marksL N ts).map D.int)),x4,x5,x6,x7,x8,.own (.lst (((partsL N ts ms).map lstI).take i)),x],⟨_,rfl⟩,?_,?_⟩⟩))))))
  ·rintro i d Δ2 hd ⟨x,rfl⟩
   have hml:=Firsts.len ⟨m1,m2⟩;rw[Wad]at hd;cases zz:ms[i]? with
   |none=>rw[zz]at hd;cases hd
   |some g=>
    rw[zz]at hd;have hd:D.int g=d:=by simpa using hd
    subst hd;refine Zbl (Zhu rfl rfl (Zcf (by decide) (Zbt (Zac (Zaj (Zab rfl (Zak (Zan (d:=.int (N:Int)) rfl (Zah ⟨_,rfl,by omega,by omega,?_,λd=>match d with|.int p=>decide ((marksL N ts).getD p.toNat 0=g)|_=>false,λd=>d,λj d hd=>?_,?_⟩)))))))))
    ·rw[Zby];exact small1000 (by omega)
    ·obtain⟨hj,rfl⟩:=Zdw hd
     refine Za7 (Zaj (Zaj (Zab rfl (Zab rfl (Zbk (Zbn hl (by omega) (by omega)) (Zab rfl (Zdg ⟨_,rfl,rfl,?_⟩)))))));split
     ·exact Zab rfl ⟨rfl,_,rfl⟩
     ·exact⟨_,rfl⟩
    ·rw[Wao,Zob _ _ _ _ (λ_=>rfl) _ λ_=>rfl]
     refine⟨_,_,rfl,rfl,?_,?_⟩
     ·rw[Wav];exact small1000 (by unfold partsL;rw[Wab,Wab];omega)
     have e1:((partsL N ts ms).map lstI).take (i+1)=((partsL N ts ms).map lstI).take i++[lstI (partI (marksL N ts) N g)]:=by
      unfold partsL;rw[Wcf,Wad,Wad,zz];rfl
     dsimp only;rw[e1];exact⟨_,rfl⟩
  ·rintro Δ2 ⟨x,rfl⟩
   refine⟨ms,x,[],⟨m1,m2⟩,?_⟩;rw[Wce (by unfold partsL;rw[Wab,Wab,Wab];exact Waf _)]
 rintro Δ1 ⟨ms,x,_,hm,rfl⟩;exact Zic (Zrh rfl ⟨_,rfl,q ms hm⟩)
end
section
variable {f:Int->Int}{m:Nat}(F:OneOne f m)
include F
end
theorem Zhs (l:List Int) (a b:Int) {p:Nat}(hp:p<l.length):(mergeL l a b).getD p 0=if l.getD p 0=hiI (l.getD a.toNat 0) (l.getD b.toNat 0) then loI (l.getD a.toNat 0) (l.getD b.toNat 0) else l.getD p 0:=by
 unfold mergeL;rw[Wae,Wad,Wac hp,Wae (l:=l) (i:=p),Wac hp];rfl
section
variable {N:Nat}{ts:List (Int × Int)}(hW:WebOk (N:Int) ts)
include hW
end
theorem Zg6 {l:List Int}{n:Nat}{g x:Int}:x∈partI l n g↔0<=x/\x<(n:Int)/\l.getD x.toNat 0=g:=by
 unfold partI;rw[Wck,Wa1,decide_eq_true_iff];constructor
 ·rintro⟨⟨i,hi,rfl⟩,h⟩
  rw[Wbm]at hi;exact⟨by omega,by omega,h⟩
 ·rintro⟨h0,h1,h⟩
  exact⟨⟨x.toNat,Wbm.mpr (by omega),by omega⟩,h⟩
section
variable {N:Nat}{ts:List (Int × Int)}{o:List (List Int)}(hW:WebOk (N:Int) ts) (hO:OrdOk (N:Int) ts o)
include hW
include hO
end
theorem Zng {l:List Int}{a b:Int}(h:l.getD a.toNat 0=l.getD b.toNat 0):mergeL l a b=l:=by
 unfold mergeL
 conv=>rhs;rw[<- List.map_id l]
 apply Wcl;intro f _;have e1:hiI (l.getD a.toNat 0) (l.getD b.toNat 0)=l.getD a.toNat 0:=by rw[<- h];unfold hiI;split <;> rfl
 have e2:loI (l.getD a.toNat 0) (l.getD b.toNat 0)=l.getD a.toNat 0:=by rw[<- h];unfold loI;split <;> rfl
 rw[e1,e2];split
 ·rename_i z;exact z.symm
 ·rfl
structure Goes (N:Nat) (l l':List Int) (lo hi:Int):Prop where
 len:l.length=N
 len':l'.length=N
 lt:lo<hi
 inL:lo∈l
 inH:hi∈l
 to:∀p:Nat,p<N->l'.getD p 0=if l.getD p 0=hi then lo else l.getD p 0
theorem Zj2 {N:Nat}{l:List Int}{t:Int × Int}(hl:l.length=N) (h1:t.1.toNat<N) (h2:t.2.toNat<N) (hne:l.getD t.1.toNat 0≠l.getD t.2.toNat 0) :
  Goes N l (mergeL l t.1 t.2) (loI (l.getD t.1.toNat 0) (l.getD t.2.toNat 0)) (hiI (l.getD t.1.toNat 0) (l.getD t.2.toNat 0)):=by
 have m1:l.getD t.1.toNat 0∈l:=by rw[Wae,Wac (by omega:t.1.toNat<l.length)];exact Wa9 _
 have m2:l.getD t.2.toNat 0∈l:=by rw[Wae,Wac (by omega:t.2.toNat<l.length)];exact Wa9 _
 refine⟨hl,by rw[Zga,hl],?_,?_,?_,λp hp=>Zhs _ _ _ (by omega)⟩
 ·unfold loI hiI;split <;> split <;> omega
 ·unfold loI;split
  ·exact m2
  ·exact m1
 ·unfold hiI;split
  ·exact m2
  ·exact m1
section
variable {N:Nat}{l l' ms ms':List Int}{lo hi:Int}(G:Goes N l l' lo hi)
theorem Zn8 {l:List Int}{x:Int}(h:x∈l):∃p:Nat,p<l.length/\l.getD p 0=x:=by
 obtain⟨p,hp,rfl⟩:=List.getElem_of_mem h;exact⟨p,hp,by rw[Wae,Wac hp];rfl⟩
theorem Zkf {l:List Int}{p:Nat}(h:p<l.length):l.getD p 0∈l:=by
 rw[Wae,Wac h];exact Wa9 h
include G
theorem Goes.mem {x:Int}:x∈l'↔x∈l/\x≠hi:=by
 have h1:=G.len;have h2:=G.len';have h3:=G.lt;constructor
 ·intro h
  obtain⟨p,hp,e⟩:=Zn8 h;rw[G.to p (by omega)]at e;split at e
  ·rw[<- e];exact⟨G.inL,by omega⟩
  ·rename_i z
   rw[<- e];exact⟨Zkf (by omega),z⟩
 ·rintro⟨h,hne⟩
  obtain⟨p,hp,e⟩:=Zn8 h;have:l'.getD p 0=x:=by rw[G.to p (by omega),e,if_neg hne]
  rw[<- this];exact Zkf (by omega)
omit G in
theorem Zli (l:List Int) (N:Nat) (g:Int):(partI l N g).Pairwise (· < ·):=by
 unfold partI;refine List.Pairwise.filter _ ?_;rw[List.pairwise_map];exact List.pairwise_lt_range.imp λh=>by omega
end
section
variable {f:Int->Int}{m:Nat}(F:OneOne f m)
include F
end
section
variable {f:Int->Int}{m:Nat}(F:OneOne f m) {a b:Int}(a0:0<=a) (a1:a<(m:Int)) (b0:0<=b) (b1:b<(m:Int)) (hab:a≠b) (hin:b∈orb f a)
include F a0 a1 b0 b1 hab hin
end
section
variable {P:Program}{w:World}{K:W.Frag}{mg:Str->Option Value}{base:Heap}{f:Addr}{fd:FuncData}
theorem Zj7 {N r:Nat}(hr:r<N):(marksL N []).getD r 0=(r:Int):=by
 show ((Wa4 N).map λi:Nat=>(i:Int)).getD r 0=_;rw[Wae,Wad,Wcw hr];rfl
end
section
variable {f:Int->Int}{m:Nat}(F:OneOne f m) {a b:Int}(a0:0<=a) (a1:a<(m:Int)) (b0:0<=b) (b1:b<(m:Int)) (hout:b ∉ orb f a)
include F a0 a1 b0 b1 hout
end
section
variable {N:Nat}{ts:List (Int × Int)}{o:List (List Int)}(hW:WebOk (N:Int) ts) (hO:OrdOk (N:Int) ts o)
include hW hO
end
structure Own (N:Nat) (ts:List (Int × Int)) (S:Int->Bool):Prop where
 tie:∀t∈ts,S t.1=S t.2
section
variable {N:Nat}{ts:List (Int × Int)}{o:List (List Int)}{S:Int->Bool}(hW:WebOk (N:Int) ts) (hO:OrdOk (N:Int) ts o) (hS:Own N ts S)
include hW hO hS
end
section
variable {P:Program}{w:World}{K:W.Frag}{mg:Str->Option Value}{base:Heap}{f:Addr}{fd:FuncData}
theorem Ze9 {N:Nat}{ts:List (Int × Int)}(hW:WebOk (N:Int) ts):∀k,k<=ts.length->∀g∈marksL N (ts.take k),0<=g/\g<(N:Int)/\(marksL N (ts.take k)).getD g.toNat 0=g
 |0,_,g,hg=>by
  rw[List.take_zero]at hg ⊢;obtain⟨p,hp,rfl⟩:=Wa1.mp hg;rw[Wbm]at hp;exact⟨by omega,by omega,by rw[Wao];exact Zj7 hp⟩
 |k+1,hk,g,hg=>by
  have hlt:k<ts.length:=hk;have hl:=Zb2 N (ts.take k);have ht:=hW.tie _ (Wa9 hlt);have ih:=Ze9 hW k (by omega);rw[Zdc (Wac hlt)]at hg ⊢;by_cases c:(marksL N (ts.take k)).getD ts[k].1.toNat 0=(marksL N (ts.take k)).getD ts[k].2.toNat 0
  ·rw[Zng c]at hg ⊢
   exact ih g hg
  ·have G:=Zj2 hl (by omega) (by omega) c
   obtain⟨h1,h2⟩:=G.mem.mp hg;obtain⟨a,b,e⟩:=ih g h1;exact⟨a,b,by rw[G.to _ (by omega),e,if_neg h2]⟩
def mk (N:Nat) (ts:List (Int × Int)) (p:Int):Int:=(marksL N ts).getD p.toNat 0
theorem Zp7 {N:Nat}{ts:List (Int × Int)}{p:Int}(p0:0<=p) (p1:p<(N:Int)):mk N ts p∈marksL N ts:=Zkf (by rw[Zb2];omega)
end
structure CrOk (ts:List (Int × Int)) (cs:List Int):Prop where
 len:cs.length=ts.length
 bit:∀c∈cs,c=0\/c=1
theorem CrOk.at {ts:List (Int × Int)}{cs:List Int}(h:CrOk ts cs) {k:Nat}(hk:k<ts.length):∃c,cs[k]?=some c/\cs.getD k 0=c/\(c=0\/c=1):=by
 have hk':k<cs.length:=by rw[h.len];exact hk
 refine⟨cs[k],Wac hk',?_,h.bit _ (Wa9 hk')⟩;rw[Wae,Wac hk'];rfl
theorem Zew (e:Nat):partner e / 2=e / 2:=by unfold partner;split <;> omega
section
variable {N:Nat}{ts:List (Int × Int)}(hW:WebOk (N:Int) ts)
include hW
theorem Zjd:∀k,k<=ts.length->∀p:Nat,p<N->(marksL N (ts.take k)).getD p 0<=(p:Int)
 |0,_,p,hp=>by
  rw[List.take_zero];exact Int.le_of_eq (Zj7 hp)
 |k+1,hk,p,hp=>by
  have hlt:k<ts.length:=hk;have ih:=Zjd k (by omega) p hp;rw[Zdc (Wac hlt),Zhs _ _ _ (by rw[Zb2];exact hp)];split
  ·rename_i c
   have:loI ((marksL N (ts.take k)).getD ts[k].1.toNat 0) ((marksL N (ts.take k)).getD ts[k].2.toNat 0)<=hiI ((marksL N (ts.take k)).getD ts[k].1.toNat 0) ((marksL N (ts.take k)).getD ts[k].2.toNat 0):=by
    unfold loI hiI;split <;> split <;> omega
   omega
  ·exact ih
theorem Zr7 {p:Int}(p0:0<=p) (p1:p<(N:Int)):mk N ts p<=p:=by
 have:=Zjd hW ts.length (Waf _) p.toNat (by omega);rw[Wbc]at this;unfold mk;omega
theorem Zed {g:Int}(hg:g∈marksL N ts):∃l,partI (marksL N ts) N g=g::l:=by
 have r:=Ze9 hW ts.length (Waf _) g (by rw[Wbc];exact hg);rw[Wbc]at r;have hm:g∈partI (marksL N ts) N g:=Zg6.mpr ⟨r.1,r.2.1,r.2.2⟩;have ha:=Zli (marksL N ts) N g;cases h:partI (marksL N ts) N g with
 |nil=>rw[h]at hm;cases hm
 |cons x l=>
  refine⟨l,?_⟩;have hx:x∈partI (marksL N ts) N g:=by rw[h];exact Wau
  obtain⟨x0,x1,x2⟩:=Zg6.mp hx;have hle:mk N ts x<=x:=Zr7 hW x0 x1;have hle:g<=x:=by rw[<- x2];exact hle
  rw[h]at hm ha;rcases Wan.mp hm with e|e
  ·rw[<- e]
  ·have:=(List.pairwise_cons.mp ha).1 g e
   omega
theorem Zdq {ms:List Int}(hm:Firsts ms (marksL N ts)) {g:Int}:g∈ms↔0<=g/\g<(N:Int)/\mk N ts g=g:=by
 rw[hm.2];constructor
 ·intro hg
  have r:=Ze9 hW ts.length (Waf _) g (by rw[Wbc];exact hg);rw[Wbc]at r;exact r
 ·rintro⟨a,b,c⟩
  rw[<- c];exact Zp7 a b
section
variable {ms:List Int}(hm:Firsts ms (marksL N ts))
include hm
end
end
def crsum (cs:List Int) (r:List Int):Int:=(r.map λe=>cs.getD (e.toNat / 2) 0).sum
theorem Zjo (cs r:List Int) (e:Nat):crsum cs (r++[(e:Int)])=crsum cs r+cs.getD (e / 2) 0:=by
 unfold crsum;rw[Wa6,List.sum_append];simp
def fitB (x y c:Int):Bool:=decide ((!decide (x=y))=decide (c=1))
section
variable {P:Program}{w:World}{K:W.Frag}{mg:Str->Option Value}{base:Heap}{f:Addr}{fd:FuncData}
def fCt:DSp:=λds Post=>∃(ts:List (Int × Int)) (cs r:List Int),ds=[encRow cs,encRow r]/\CrOk ts cs/\r.length<=100/\(∀x∈r,∃e:Nat,e<2*ts.length/\x=(e:Int))/\Post (.int (crsum cs r))
def fFits:DSp:=λds Post=>∃(g:D) (gs:List Int) (a b c:Int),ds=[g,.int a,.int b,.int c]/\(g=.lst (gs.map .int)\/g=.tup (gs.map .int))/\0<=a/\a<(gs.length:Int)/\0<=b/\b<(gs.length:Int)/\Post (.bl (fitB (gs.getD a.toNat 0) (gs.getD b.toNat 0) c))
theorem Zfo {N:Nat}{ts:List (Int × Int)}{ms:List Int}{i:Nat}{d:D}(h:((partsL N ts ms).map lstI)[i]?=some d):∃g,ms[i]?=some g/\d=lstI (partI (marksL N ts) N g):=by
 unfold partsL at h;rw[Wad,Wad]at h;cases z:ms[i]? with
 |none=>rw[z]at h;cases h
 |some g=>rw[z]at h;exact⟨g,rfl,by simpa using h.symm⟩
theorem Zr9 (mb:Mb mg) (F:Fun K "crossed_times" "crossed_times" s_crossed_times f fd):FnOk P w K mg base CX0 1 f fd ["crossings","ends"] (spD K fCt):=by
 refine F.ok sc_crossed_times (Zca λds Post h=>by obtain⟨_,_,_,rfl,_⟩:=h;rfl) (λcdv A outer s H vs Q E hr h=>?_);have hu:=Zcu hr;refine⟨_,(Zal (Za4 (Zao (sumK K rfl) rfl (mb "sum" (by decide)) Zqr (Zaa (Zb8 ["end"] (show CompSc (defScope s_crossed_times) ["crossings","ends"] _ ["crossings"] [0] from ⟨rfl,by decide +kernel,by decide +kernel,by decide +kernel,rfl,by decide +kernel⟩) rfl (seqK K (pv 1)) (λ_ _ _ _ _=>(Zav (i:=0) (show List.Nodup (["end","crossings"]:List Str) from by decide) rfl (Or.inl rfl))) (λ_ _ _ _ _=>Zck) (λ_ _ _ _ _=>(Zau (ixK K hu) (pv 1) (Zaw Zdr (pv 0) Zad) (λ_ _=>rfl)))) Zae)))),Zee (λds Post hf=>?_) h⟩;obtain⟨ts,cs,r,rfl,hC,hl,hin,q⟩:=hf;refine⟨by simp,?_⟩;dsimp only[startD,Wbg,Wbn,Wa7,Waw];refine Zaq (Zba (Zac (Zcf (by decide) (Zdm (Zab rfl ⟨_,rfl,?_,λ_=>true,λd=>match d with|.int e=>.int (cs.getD (e.toNat / 2) 0)|d=>d,λi d hd=>?_,?_⟩)))))
 ·rw[Wab];exact small1000 (by omega)
 ·rw[Wad]at hd
  cases z:r[i]? with
  |none=>rw[z]at hd;cases hd
  |some x=>
   rw[z]at hd;have hd:D.int x=d:=by simpa using hd
   subst hd;obtain⟨e,he,rfl⟩:=hin x (Wah z);obtain⟨c,c1,c2,_⟩:=hC.at (k:=e / 2) (by omega);have a1:atI (cs.map D.int) ((e:Int) / 2)=some (.int c):=by
    rw[show (e:Int) / 2=((e / 2:Nat):Int) by omega];exact Zb6 (by rw[Wad,c1];rfl)
   refine Zci ⟨rfl,Zaj (Zab rfl (Zaj (Zab rfl (Zak (jr_I ⟨by omega,by omega⟩ (Zan a1 ⟨?_,_,rfl⟩))))))⟩;show D.int c=D.int (cs.getD ((e:Int).toNat / 2) 0);rw[Wao,c2]
 ·have e1:((r.map D.int).filter λ_=>true).map (λd=>match d with|.int e=>D.int (cs.getD (e.toNat / 2) 0)|d=>d)=(r.map λe=>cs.getD (e.toNat / 2) 0).map D.int:=by
   rw[Wb6.mpr (by simp),Wbf,Wbf];rfl
  rw[e1];exact Zah (Zrd q)
theorem Zoz (mb:Mb mg) (F:Fun K "fits" "fits" s_fits f fd):FnOk P w K mg base CX0 1 f fd ["given","a","b","crossing"] (spD K fFits):=by
 refine F.ok sc_fits (Zca λds Post h=>by obtain⟨_,_,_,_,_,rfl,_⟩:=h;rfl) (λcdv A outer s H vs Q E hr h=>?_);have hu:=Zcu hr;refine⟨_,(Zal (Za4 (Zb7 Zbp (Zb7 Zdi (Zau (ixK K hu) (pv 0) (pv 1) (λ_ _=>rfl)) (Zau (ixK K hu) (pv 0) (pv 2) (λ_ _=>rfl)) (nomark _)) (Zb7 Zbp (pv 3) Zad (nomark _)) (nomark _)))),Zee (λds Post hf=>?_) h⟩;obtain⟨g,gs,a,b,c,rfl,hg,a0,a1,b0,b1,q⟩:=hf;refine⟨by simp,?_⟩;dsimp only[startD,Wbg,Wbn,Wa7,Waw];have ha:=Zbn (l:=gs) rfl a0 a1;have hb:=Zbn (l:=gs) rfl b0 b1;rcases hg with rfl|rfl
 ·exact Zaq (Zaj (Zaj (Zaj (Zab rfl (Zab rfl (Zbk ha (Zaj (Zab rfl (Zab rfl (Zbk hb (Zfz (Zaj (Zab rfl (Zak (Zdg (Zoh q))))))))))))))))
 ·exact Zaq (Zaj (Zaj (Zaj (Zab rfl (Zab rfl (Zan ha (Zaj (Zab rfl (Zab rfl (Zan hb (Zfz (Zaj (Zab rfl (Zak (Zdg (Zoh q))))))))))))))))
theorem Zdn {ts:List (Int × Int)}{i:Nat}{d:D}(h:(enD (ts.map encTie))[i]?=some d):∃t,ts[i]?=some t/\d=.tup [.int (i:Int),encTie t]:=by
 obtain⟨d',hd',rfl⟩:=Zin h;rw[Wad]at hd';cases z:ts[i]? with
 |none=>rw[z]at hd';cases hd'
 |some u=>rw[z]at hd';exact⟨u,rfl,by simpa using hd'.symm⟩
end
def fCross:BSp:=λps ds Post=>Pen ps/\∃n ts,ds=[encWeb n ts]/\WebOk n ts/\∀cs ps',Pen ps' -> CrOk ts cs->Post (encRow cs) ps'
section
variable {P:Program}{w:World}{K:W.Frag}{mg:Str->Option Value}{base:Heap}{f:Addr}{fd:FuncData}
theorem Zm8 (mb:Mb mg) (C25:Callee P w K mg base 1 "_law_draw" ["_law_pen_here","_law_many"] (spB K fDraw)) (F:Fun K "_law_crossings" "_law_crossings" s_law_crossings f fd):FnOk P w K mg base CX0 2 f fd ["_law_pen_here","_law_web_here"] (spB K fCross):=by
 refine F.ok sc_law_crossings (Zd1 λps ds Post h=>by obtain⟨_,_,_,rfl,_⟩:=h;rfl) (λcdv A outer s H vs Q E hr h=>?_);have hu:=Zcu hr;have hv:=Zem hr;refine⟨_,(Zaf (Zax (i:=2) sc_law_crossings.nd rfl (Or.inl rfl) (Zbe C25 (hr.mono (by decide)) (Zaa (pv 0) (Zaa Zad Zae)))) (Zaf (Zg1 (i:=3) ["_law_place"] (show CompSc (defScope s_law_crossings) ["_law_pen_here","_law_web_here","_law_way","_law_held","_law_odd","_law_found","_law_tie","_law_pair","_law_number"] _ ["_law_pen_here"] [0] from ⟨rfl,by decide +kernel,by decide +kernel,by decide +kernel,rfl,by decide +kernel⟩) rfl sc_law_crossings.nd rfl (Or.inl rfl) (Zbw rfl (mb "range" (by decide)) (Zaa (Zau (ixK K hu) (pv 1) Zad (λ_ _=>rfl)) Zae)) (λ_ _ _ _ _=>(Zav (i:=0) (show List.Nodup (["_law_place","_law_pen_here"]:List Str) from by decide) rfl (Or.inl rfl))) (λ_ _ _ _ _=>Zck) (λ_ _ _ _ _=>(Zbe C25 (hr.mono (by decide)) (Zaa (pv 1) (Zaa Zad Zae))))) (Zaf (Zax (i:=4) sc_law_crossings.nd rfl (Or.inl rfl) (Zbe C25 (hr.mono (by decide)) (Zaa (pv 0) (Zaa Zad Zae)))) (Zaf (Zax (i:=5) sc_law_crossings.nd rfl (Or.inl rfl) (Zb9 Zae)) (Zaf (Zct PassesOwn.never rfl (Zch K rfl (mb "enumerate" (by decide)) (Zaa (Zau (ixK K hu) (pv 1) Zad (λ_ _=>rfl)) Zae)) (gtupK (n:=2) K rfl (Zbb (Zav (i:=6) sc_law_crossings.nd rfl (Or.inl rfl)) (Zbb (Zav (i:=7) sc_law_crossings.nd rfl (Or.inl rfl)) Zcp))) (Zaf (Zax (i:=8) sc_law_crossings.nd rfl (Or.inl rfl) (Zbe C25 (hr.mono (by decide)) (Zaa (pv 0) (Zaa Zad Zae)))) (Zaf (Zbr (Zaz Zmh (pv 2) Zad (nomark _)) (Zal (Zax (i:=8) sc_law_crossings.nd rfl (Or.inl rfl) (Zaw Zbu (Zaw (addK K) (Zaw (addK K) (Zau (ixK K hu) (pv 3) (Zau (ixK K hu) (pv 7) Zad (λ_ _=>rfl)) (λ_ _=>rfl)) (Zau (ixK K hu) (pv 3) (Zau (ixK K hu) (pv 7) Zad (λ_ _=>rfl)) (λ_ _=>rfl))) (Zb3 Zlu rfl (mb "int" (by decide)) Zk9 (Zaa (Ze6 (Zb7 Zbp (pv 2) Zad (nomark _)) (Zf4 (Zb7 Zbp (pv 6) (pv 4) (nomark _)))) Zae))) Zad))) Za5) (Zaf (Zbr (Zaz Zj9 (pv 2) Zad (nomark _)) (Zal (Zax (i:=8) sc_law_crossings.nd rfl (Or.inl rfl) (Zaw Zes (pv 2) Zad))) Za5) (Zal (Zfw (bmK K PySem.F.plainAttrs_list PySem.F.slot_list_append PySem.F.type_list_append Zcs (pv 5) (Zaa (pv 8) Zae)))))))) (Zal (Za4 (Zb3 (tupK K) rfl (mb "tuple" (by decide)) Zb4 (Zaa (pv 5) Zae))))))))),Zip (λps ds Post hf=>?_) h⟩;obtain⟨hp,n,ts,rfl,hW,q⟩:=hf;refine⟨by simp,?_⟩;dsimp only[cxOf,startD,Wbg,Wbn,Wa7,Waw];have hw:=hW.len;have hn:=hW.hi;have hn0:=hW.lo;refine Zat (Za2 (Zep rfl rfl (Zac (Zak (Zah ⟨_,_,rfl,rfl,hp,5,rfl,by omega,by omega,λway ps1 hp1 w0 w1=>?_⟩)))));refine Zbc (λΔ=>∃(hs:List Int) (psx:List D),Pen psx/\(hs.length:Int)=n /\ Δ = [.bor (.lst psx),.val (encWeb n ts),.val (.int way),.val (.lst (hs.map .int)),.any,.any,.any,.any,.any]) ?_ ?_
 ·refine Za2 (Zk1 (by decide) (Zbt (Zac (Zaj (Zab rfl (Zak (Zan (d:=.int n) rfl (Zah ⟨_,rfl,by omega,by omega,?_,λi ys Δ=>∃(hs:List Int) (psx:List D) (x:L2.Slot),Pen psx/\hs.length=i/\ys=hs.map .int /\ Δ = [x,.bor (.lst psx)],?_,?_,?_⟩))))))))
  ·rw[Zby];exact small1000 (by omega)
  ·exact⟨[],ps1,.any,hp1,rfl,rfl,rfl⟩
  ·rintro i d ys Δ2 hd ⟨hs,psx,x,hpx,hl,rfl,rfl⟩
   refine Zc8 (by decide) (Zci ?_);rw[if_pos rfl];refine Zep rfl rfl (Zac (Zak (Zah ⟨_,_,rfl,rfl,hpx,2,rfl,by omega,by omega,λr ps' hp' r0 r1=>?_⟩)));exact⟨hs++[r],ps',.val d,hp',by rw[Wag,hl];rfl,by rw[Wa6];rfl,rfl⟩
  ·rintro ys Δ2 ⟨hs,psx,x,hpx,hl,rfl,rfl⟩
   rw[Zby]at hl;exact⟨hs,psx,hpx,by omega,rfl⟩
 rintro Δ1 ⟨hs,ps2,hp2,hl,rfl⟩;refine Zat (Za2 (Zep rfl rfl (Zac (Zak (Zah ⟨_,_,rfl,rfl,hp2,25,rfl,by omega,by omega,λodd ps3 hp3 _ _=>?_⟩)))));refine Zat (Zdp (Zgf (Zah ⟨by decide,?_⟩)));refine Zbc (λΔ=>∃(cs:List Int) (psx:List D) (x6 x7 x8:L2.Slot),Pen psx/\CrOk ts cs /\ Δ = [.bor (.lst psx),.val (encWeb n ts),.val (.int way),.val (.lst (hs.map .int)),.val (.int odd),.own (.lst (cs.map .int)),x6,x7,x8]) ?_ ?_
 ·refine Zcv (Zfi (Zac (Zaj (Zab rfl (Zak (Zan (d:=.tup (ts.map encTie)) rfl (Zah ⟨_,Or.inr rfl,λi Δ=>∃(cs:List Int) (psx:List D) (x6 x7 x8:L2.Slot),Pen psx/\cs.length=i/\(∀c∈cs,c=0\/c=1) /\ Δ = [.bor (.lst psx),.val (encWeb n ts),.val (.int way),.val (.lst (hs.map .int)),.val (.int odd),.own (.lst (cs.map .int)),x6,x7,x8],⟨[],ps3,_,_,_,hp3,rfl,λc hc=>(nomatch hc),rfl⟩,?_,?_⟩)))))))
  ·rintro i x Δ2 hd ⟨cs,psx,x6,x7,x8,hpx,hcl,hcb,rfl⟩
   obtain⟨t,ht,rfl⟩:=Zdn hd;have hi:=(Waj.mp ht).1;have tb:=hW.tie t (Wah ht);have a1:=Zbn (l:=hs) rfl tb.1 (by omega);have a2:=Zbn (l:=hs) rfl tb.2.2.1 (by omega);refine Zey rfl (Zbh (Zbl (Zbh (Zbl (Zdh ?_)))));refine Zat (Za2 (Zep rfl rfl (Zac (Zak (Zah ⟨_,_,rfl,rfl,hpx,2,rfl,by omega,by omega,λnum ps4 hp4 n0 n1=>?_⟩)))));refine Zbc (λΔ=>∃num:Int,(num=0\/num=1) /\ Δ = [.bor (.lst ps4),.val (encWeb n ts),.val (.int way),.val (.lst (hs.map .int)),.val (.int odd),.own (.lst (cs.map .int)),.val (.int i),.val (encTie t),.val (.int num)]) ?_ ?_
   ·refine Zbs (Za7 (Zaj (Zab rfl (Zak (Zf1 ⟨_,rfl,?_⟩)))))
    by_cases z:way<2
    ·rw[decide_eq_true z]
     refine iteT (Za2 (Zaj (Zaj (Zaj (Zaj (Zab rfl (Zaj (Zab rfl (Zak (Zan (d:=.int t.1) rfl (Zbk a1 ?_)))))))))));refine Zaj (Zab rfl (Zaj (Zab rfl (Zak (Zan (d:=.int t.2) rfl (Zbk a2 (Zc7 ?_)))))));have fin:∀k:Int,∃num:Int,(num=0\/num=1)/\num=k % 2:=λk=>⟨k % 2,by omega,rfl⟩;refine Zba (Zac (Zbj (Zaj (Zab rfl (Zak (Zdg ⟨_,rfl,?_⟩))))));by_cases y:way=1
     ·rw[decide_eq_true y]
      refine iteT (Zaj (Zab rfl (Zab rfl (Zdg (Zah (Zl1 (Zc7 (Zak (jr_I (by show (0:Int)<2;decide) ?_)))))))));exact⟨_,by omega,rfl⟩
     ·rw[decide_eq_false y]
      refine iteF (Zah (Zl1 (Zc7 (Zak (jr_I (by show (0:Int)<2;decide) ?_)))));exact⟨_,by omega,rfl⟩
    ·rw[decide_eq_false z]
     exact iteF (Za6 ⟨num,by omega,rfl⟩)
   rintro Δ1 ⟨num,hnum,rfl⟩;refine Zbc (λΔ=>∃num:Int,(num=0\/num=1) /\ Δ = [.bor (.lst ps4),.val (encWeb n ts),.val (.int way),.val (.lst (hs.map .int)),.val (.int odd),.own (.lst (cs.map .int)),.val (.int i),.val (encTie t),.val (.int num)]) ?_ ?_
   ·refine Zbs (Za7 (Zaj (Zab rfl (Zak (Zf1 ⟨_,rfl,?_⟩)))))
    by_cases z:2<way
    ·rw[show decide (way > 2)=true from decide_eq_true z]
     exact iteT (Za2 (Zaj (Zab rfl (Zak (Zi0 ⟨_,by omega,rfl⟩)))))
    ·rw[show decide (way > 2)=false from decide_eq_false z]
     exact iteF (Za6 ⟨num,hnum,rfl⟩)
   rintro Δ1 ⟨num,hnum,rfl⟩;refine Zhu rfl rfl (Zab rfl ⟨_,_,rfl,rfl,?_,cs++[num],ps4,.val (.int (i:Int)),.val (encTie t),.val (.int num),hp4,by rw[Wag,hcl];rfl,λc hc=>?_,?_⟩)
   ·rw[Wab];exact small1000 (by omega)
   ·rcases Waz.mp hc with y|y
    ·exact hcb c y
    ·rw[Wa5]at y;subst y;exact hnum
   ·rw[Wa6];rfl
  ·rintro Δ2 ⟨cs,psx,x6,x7,x8,hpx,hcl,hcb,rfl⟩
   rw[Zfc,Wab]at hcl;exact⟨cs,psx,x6,x7,x8,hpx,⟨hcl,hcb⟩,rfl⟩
 rintro Δ1 ⟨cs,psx,x6,x7,x8,hpx,hC,rfl⟩;exact Zaq (Zba (Zac (Zh8 rfl (Zah (Zeu (Or.inl rfl) ⟨psx,rfl,q cs psx hpx hC⟩)))))
structure RingOk (ts:List (Int × Int)) (R:List Int):Prop where
 ne:0<R.length
 le:R.length<=100
 inn:∀x∈R,∃e:Nat,e<2*ts.length/\x=(e:Int)
 cyc:∀k,k<R.length->placeAt ts (R.getD (nxI R.length k) 0).toNat=placeAt ts (partner (R.getD k 0).toNat)
structure SidOk (N:Nat) (ts:List (Int × Int)) (cs gs:List Int):Prop where
 len:gs.length=N
 bit:∀g∈gs,g=0\/g=1
 rt:∀p:Nat,p<N->mk N ts (p:Int)=(p:Int)->gs.getD p 0=0
 fit:∀(i:Nat) (t:Int × Int),ts[i]?=some t->fitB (gs.getD t.1.toNat 0) (gs.getD t.2.toNat 0) (cs.getD i 0)=true
def isIntX:D->Bool
 |.int _=>true
 |_=>false
def fIsWX:DSp:=λds Post=>∃d T,ds=[d]/\tyD d=some T/\Post (.bl (isIntX d))
theorem Zpa (mb:Mb mg) (F:Fun K "is_whole" "is_whole" s_is_whole f fd):FnOk P w K mg base CX0 1 f fd ["thing"] (spD K fIsWX):=by
 refine F.ok sc_is_whole (Zca λds Post h=>by obtain⟨_,_,rfl,_⟩:=h;rfl) (λcdv A outer s H vs Q E hr h=>?_);have hu:=Zcu hr;refine⟨_,(Zal (Za4 (Ze6 (Zao (isiUK K) rfl (mb "isinstance" (by decide)) Za9 (Zaa (pv 0) (Zaa (Zcw rfl (mb "int" (by decide)) Zk9 (show RelV (.ty "int") _ from rfl)) Zae))) (Zf4 (Zn9 (Zao (isiUK K) rfl (mb "isinstance" (by decide)) Za9 (Zaa (pv 0) (Zaa (Zcw rfl (mb "bool" (by decide)) Zir (show RelV (.ty "bool") _ from rfl)) Zae)))))))),Zee (λds Post hf=>?_) h⟩;obtain⟨d,T,rfl,hT,q⟩:=hf;refine⟨by simp,?_⟩;dsimp only[startD,Wbg,Wbn,Wa7];cases d with
 |int i=>
  refine Zaq (Zbj (Zba (Zac (Zab rfl (Zac (Zcb (Zah (Za3 (T:="int") (b:=true) rfl (λ_=>by rfl) ⟨_,rfl,?_⟩))))))));rw[if_pos rfl];exact Zft (Zba (Zac (Zab rfl (Zac (Zcb (Zah (Za3 (T:="int") (b:=false) rfl (λ_=>by rfl) ⟨_,rfl,q⟩)))))))
 |bl b=>
  refine Zaq (Zbj (Zba (Zac (Zab rfl (Zac (Zcb (Zah (Za3 (T:="bool") (b:=true) rfl (λ_=>by rfl) ⟨_,rfl,?_⟩))))))));rw[if_pos rfl];exact Zft (Zba (Zac (Zab rfl (Zac (Zcb (Zah (Za3 (T:="bool") (b:=true) rfl (λ_=>by rfl) ⟨_,rfl,q⟩)))))))
 |non=>exact Zaq (Zbj (Zba (Zac (Zab rfl (Zac (Zcb (Zah (Za3 (T:="NoneType") (b:=false) rfl (λ_=>by rfl) ⟨_,rfl,iteF q⟩))))))))
 |str x=>exact Zaq (Zbj (Zba (Zac (Zab rfl (Zac (Zcb (Zah (Za3 (T:="str") (b:=false) rfl (λ_=>by rfl) ⟨_,rfl,iteF q⟩))))))))
 |tup l=>exact Zaq (Zbj (Zba (Zac (Zab rfl (Zac (Zcb (Zah (Za3 (T:="tuple") (b:=false) rfl (λ_=>by rfl) ⟨_,rfl,iteF q⟩))))))))
 |lst l=>exact Zaq (Zbj (Zba (Zac (Zab rfl (Zac (Zcb (Zah (Za3 (T:="list") (b:=false) rfl (λ_=>by rfl) ⟨_,rfl,iteF q⟩))))))))
 |dct k l=>exact Zaq (Zbj (Zba (Zac (Zab rfl (Zac (Zcb (Zah (Za3 (T:="dict") (b:=false) rfl (λ_=>by rfl) ⟨_,rfl,iteF q⟩))))))))
 |_=>cases hT
theorem at0c (x:D) (l:List D):atI (x::l) 0=some x:=Zb6 (xs:=x::l) (j:=0) rfl
def isTup:D->Bool
 |.tup _=>true
 |_=>false
def awB:D->Bool
 |.tup ds=>ds.all isIntX
 |_=>false
theorem Zd9 {d:D}(h:isTup d=true):∃ds,d=.tup ds:=by
 cases d with
 |tup ds=>exact⟨ds,rfl⟩
 |_=>cases h
theorem Zpd {d:D}(h:isTup d=false):awB d=false:=by
 cases d with
 |tup ds=>cases h
 |_=>rfl
theorem Zh3:∀{ds:List D},ds.all isIntX=true->ds=(ds.map intD).map D.int
 |[],_=>rfl
 |d::ds,h=>by
  rw[List.all_cons,Wbd]at h;cases d with
  |int i=>rw[Wbb,Wbb,<- Zh3 h.2];rfl
  |_=>cases h.1
def TyN:Nat->D->Prop
 |0,d=>∃T,tyD d=some T
 |n+1,d=>(∃T,tyD d=some T)/\∀ds,d=.tup ds->ds.length<=60/\∀x∈ds,TyN n x
theorem TyN.ty:∀{n:Nat}{d:D},TyN n d->∃T,tyD d=some T
 |0,_,h=>h
 |_+1,_,h=>h.1
def fAreWX:DSp:=λds Post=>∃d,ds=[d]/\TyN 1 d/\Post (.bl (awB d))
theorem Zhj {Δ:Evt}{Pd:D->Evt->Prop}{d:D}{T:String}(hT:tyD d=some T) (p:Pd (.bl (isTup d)) Δ):JC K (rIsiU K) [d,.ty "tuple"] Δ Pd:=by
 cases d with
 |int i=>exact Za3 (T:="int") (b:=false) rfl (λ_=>by rfl) p
 |bl b=>exact Za3 (T:="bool") (b:=false) rfl (λ_=>by rfl) p
 |non=>exact Za3 (T:="NoneType") (b:=false) rfl (λ_=>by rfl) p
 |str x=>exact Za3 (T:="str") (b:=false) rfl (λ_=>by rfl) p
 |tup l=>exact Za3 (T:="tuple") (b:=true) rfl (λ_=>by rfl) p
 |lst l=>exact Za3 (T:="list") (b:=false) rfl (λ_=>by rfl) p
 |dct k l=>exact Za3 (T:="dict") (b:=false) rfl (λ_=>by rfl) p
 |_=>cases hT
theorem Zm5 (mb:Mb mg) (C41:Callee P w K mg base 1 "is_whole" ["thing"] (spD K fIsWX)) (F:Fun K "are_wholes" "are_wholes" s_are_wholes f fd):FnOk P w K mg base CX0 2 f fd ["thing"] (spD K fAreWX):=by
 refine F.ok sc_are_wholes (Zca λds Post h=>by obtain⟨_,rfl,_⟩:=h;rfl) (λcdv A outer s H vs Q E hr h=>?_);have hu:=Zcu hr;refine⟨_,(Zal (Za4 (Ze6 (Zao (isiUK K) rfl (mb "isinstance" (by decide)) Za9 (Zaa (pv 0) (Zaa (Zcw rfl (mb "tuple" (by decide)) Zb4 (show RelV (.ty "tuple") _ from rfl)) Zae))) (Zf4 (Zao (allK K rfl) rfl (mb "all" (by decide)) Zhm (Zaa (Zb8 ["number"] (show CompSc (defScope s_are_wholes) ["thing"] _ [] [] from ⟨rfl,by decide +kernel,by decide +kernel,by decide +kernel,rfl,by decide +kernel⟩) rfl (seqK K (pv 0)) (λ_ _ _ _ _=>(Zav (i:=0) (show List.Nodup (["number"]:List Str) from by decide) rfl (Or.inl rfl))) (λ_ _ _ _ _=>Zck) (λ_ _ _ _ _=>(Zbe C41 (hr.mono (by decide)) (Zaa (pv 0) Zae)))) Zae)))))),Zee (λds Post hf=>?_) h⟩;obtain⟨d,rfl,hd,q⟩:=hf;refine⟨by simp,?_⟩;dsimp only[startD,Wbg,Wbn,Wa7,Waw];obtain⟨T,hT⟩:=hd.ty;refine Zaq (Zbj (Zba (Zac (Zab rfl (Zac (Zcb (Zah (Zhj hT ⟨_,rfl,?_⟩))))))));cases c:isTup d with
 |false=>rw[Zpd c]at q;exact iteF q
 |true=>
  obtain⟨ds,rfl⟩:=Zd9 c;obtain⟨hl,he⟩:=hd.2 ds rfl;refine iteT (Zba (Zac (Zcf (by decide) (Zdm (Zab rfl ⟨ds,rfl,small1000 (by omega),λ_=>true,λx=>.bl (isIntX x),λi x hx=>?_,?_⟩)))))
  ·obtain⟨T',hT'⟩:=he x (Wah hx)
   exact Zci ⟨rfl,Zb0 (Zac (Zab rfl (Zah ⟨x,T',rfl,hT',rfl,_,rfl⟩)))⟩
  ·refine Zah ?_
   have e:(ds.filter λ_=>true).map (λx=>D.bl (isIntX x))=(ds.map isIntX).map D.bl:=by
    rw[Wb6.mpr (by simp),Wbf];rfl
   rw[e];refine Zhk ?_;rw[List.all_map];exact q
theorem Zqh {ds:List D}{i:Nat}{d:D}(h:ds[i]?=some d):(enD ds)[i]?=some (.tup [.int (i:Int),d]):=by
 unfold enD;rw[Wad,List.getElem?_zipIdx,h];simp
end
noncomputable def dc (p:Prop):Bool:=@decide p (Classical.propDecidable p)
theorem dc_t {p:Prop}(h:p):dc p=true:=@decide_eq_true p (Classical.propDecidable p) h
theorem dc_f {p:Prop}(h:¬ p):dc p=false:=@decide_eq_false p (Classical.propDecidable p) h
theorem dc_b {p:Prop}{b:Bool}(h:b=true↔p):dc p=b:=by
 cases b with
 |true=>exact dc_t (h.mp rfl)
 |false=>exact dc_f λz=>Wai (h.mpr z)
theorem Zfe (l:List D) (fb:D->Bool):(l.filter λ_=>true).map (λd=>D.bl (fb d))=(l.map fb).map D.bl:=by
 rw[Wb6.mpr (by simp),Wbf];rfl
theorem Zf6 {l:List D}{fb:D->Bool}:(l.map fb).all id=true ↔ ∀(i:Nat) d,l[i]?=some d->fb d=true:=by
 rw[Wby];constructor
 ·intro h i d hd
  exact h _ (Wa1.mpr ⟨d,Wah hd,rfl⟩)
 ·intro h x hx
  obtain⟨d,hd,rfl⟩:=Wa1.mp hx;obtain⟨i,hi⟩:=Wb3 hd;exact h i d hi
theorem Zql {l:List D}{fb:D->Bool}:(l.map fb).any id=true ↔ ∃(i:Nat) (d:D),l[i]?=some d/\fb d=true:=by
 rw[Wc2];constructor
 ·rintro⟨x,hx,e⟩
  obtain⟨d,hd,rfl⟩:=Wa1.mp hx;obtain⟨i,hi⟩:=Wb3 hd;exact⟨i,d,hi,e⟩
 ·rintro⟨i,d,hi,e⟩
  exact⟨_,Wa1.mpr ⟨d,Wah hi,rfl⟩,e⟩
def fAreG:DSp:=λds Post=>∃(N:Nat) (ts:List (Int × Int)) (cs gs:List Int),ds=[encWeb N ts,encRow cs,encRow gs]/\WebOk (N:Int) ts/\CrOk ts cs/\gs.length<=100/\Post (.bl (dc (SidOk N ts cs gs)))
def fRoundG:DSp:=λds Post=>∃(n:Int) (ts:List (Int × Int)) (R:List Int),ds=[encWeb n ts,encRow R]/\WebOk n ts/\R.length<=100/\Post (.bl (dc (RingOk ts R)))
def ShowD (N:Nat) (ts:List (Int × Int)) (cs:List Int) (d:D):Prop:=(∃gs,d=.tup [.str "two",encRow gs]/\SidOk N ts cs gs)\/∃R,d=.tup [.str "one",encRow R]/\RingOk ts R/\crsum cs R % 2=1
def fShowG:DSp:=λds Post=>∃(N:Nat) (ts:List (Int × Int)) (cs:List Int) (d:D),ds=[encWeb N ts,encRow cs,d]/\WebOk (N:Int) ts/\CrOk ts cs/\TyN 2 d/\Post (.bl (dc (ShowD N ts cs d)))
theorem aw_row (r:List Int):awB (encRow r)=true:=by
 show (r.map D.int).all isIntX=true;rw[Wby];intro x hx;obtain⟨i,_,rfl⟩:=Wa1.mp hx;rfl
theorem Zcn {r:List Int}{i:Nat}{d:D}(h:(r.map D.int)[i]?=some d):∃x,r[i]?=some x/\d=.int x:=by
 rw[Wad]at h;cases z:r[i]? with
 |none=>rw[z]at h;cases h
 |some x=>rw[z]at h;exact⟨x,rfl,by simpa using h.symm⟩
theorem getI {r:List Int}{i:Nat}{x:Int}(h:r[i]?=some x):(r.map D.int)[i]?=some (.int x):=by rw[Wad,h];rfl
theorem Zeh {r s:List Int}(h:r.map D.int=s.map D.int):r=s:=by
 refine Wbl λi=>?_;have:=congrArg (λl:List D=>l[i]?) h;simp only[Wad]at this;cases a:r[i]? <;> cases b:s[i]? <;> rw[a,b]at this
 ·cases this
 ·cases this
 ·injection this with this;injection this with this;rw[this]
section
variable {P:Program}{w:World}{K:W.Frag}{mg:Str->Option Value}{base:Heap}{f:Addr}{fd:FuncData}
theorem Zmp (mb:Mb mg) (C42:Callee P w K mg base 1 "parts_of" ["web"] (spN K fParts)) (C39:Callee P w K mg base 1 "fits" ["given","a","b","crossing"] (spD K fFits)) (F:Fun K "are_sides" "are_sides" s_are_sides f fd):FnOk P w K mg base CX0 2 f fd ["web","crossings","shown"] (spD K fAreG):=by
 refine F.ok sc_are_sides (Zca λds Post h=>by obtain⟨_,_,_,_,rfl,_⟩:=h;rfl) (λcdv A outer s H vs Q E hr h=>?_);have hu:=Zcu hr;have hv:=Zem hr;refine⟨_,(Zaf (Zbr (PW.pt (pw_or (Zaz Zdi (Zao (lenK K) rfl (mb "len" (by decide)) Zc5 (Zaa (pv 2) Zae)) (Zau (ixK K hu) (pv 0) Zad (λ_ _=>rfl)) (nomark _)) (pw_or1 (Zc1 (truK K (Zao (allK K rfl) rfl (mb "all" (by decide)) Zhm (Zaa (Zb8 ["side"] (show CompSc (defScope s_are_sides) ["web","crossings","shown"] _ [] [] from ⟨rfl,by decide +kernel,by decide +kernel,by decide +kernel,rfl,by decide +kernel⟩) rfl (seqK K (pv 2)) (λ_ _ _ _ _=>(Zav (i:=0) (show List.Nodup (["side"]:List Str) from by decide) rfl (Or.inl rfl))) (λ_ _ _ _ _=>Zck) (λ_ _ _ _ _=>(Zb7 (inK K hu) (pv 0) (Zbi (Zaa Zad (Zaa Zad Zae))) rfl))) Zae)) (λ_=>rfl)))))) (Zal (Za4 Zc2)) Za5) (Zaf (Zbr (truK K (Zao (anyK K rfl) rfl (mb "any" (by decide)) Zq5 (Zaa (Zb8 ["part"] (show CompSc (defScope s_are_sides) ["web","crossings","shown"] _ ["shown"] [2] from ⟨rfl,by decide +kernel,by decide +kernel,by decide +kernel,rfl,by decide +kernel⟩) rfl (seqK K (Zbe C42 (hr.mono (by decide)) (Zaa (pv 0) Zae))) (λ_ _ _ _ _=>(Zav (i:=0) (show List.Nodup (["part","shown"]:List Str) from by decide) rfl (Or.inl rfl))) (λ_ _ _ _ _=>Zck) (λ_ _ _ _ _=>(Zb7 Zbp (Zau (ixK K hu) (pv 1) (Zau (ixK K hu) (pv 0) Zad (λ_ _=>rfl)) (λ_ _=>rfl)) Zad (nomark _)))) Zae)) (λ_=>rfl)) (Zal (Za4 Zc2)) Za5) (Zal (Za4 (Zao (allK K rfl) rfl (mb "all" (by decide)) Zhm (Zaa (Zb8 ["tie","a","b"] (show CompSc (defScope s_are_sides) ["web","crossings","shown"] _ ["crossings","shown"] [1,2] from ⟨rfl,by decide +kernel,by decide +kernel,by decide +kernel,rfl,by decide +kernel⟩) rfl (Zch K rfl (mb "enumerate" (by decide)) (Zaa (Zau (ixK K hu) (pv 0) Zad (λ_ _=>rfl)) Zae)) (λ_ _ _ _ _=>(gtupK (n:=2) K rfl (Zbb (Zav (i:=0) (show List.Nodup (["tie","a","b","crossings","shown"]:List Str) from by decide) rfl (Or.inl rfl)) (Zbb (gtupK (n:=2) K rfl (Zbb (Zav (i:=1) (show List.Nodup (["tie","a","b","crossings","shown"]:List Str) from by decide) rfl (Or.inl rfl)) (Zbb (Zav (i:=2) (show List.Nodup (["tie","a","b","crossings","shown"]:List Str) from by decide) rfl (Or.inl rfl)) Zcp))) Zcp)))) (λ_ _ _ _ _=>Zck) (λ_ _ _ _ _=>(Zbe C39 (hr.mono (by decide)) (Zaa (pv 4) (Zaa (pv 1) (Zaa (pv 2) (Zaa (Zau (ixK K hu) (pv 3) (pv 0) (λ_ _=>rfl)) Zae))))))) Zae)))))),Zee (λds Post hf=>?_) h⟩;obtain⟨N,ts,cs,gs,rfl,hW,hC,hg100,q⟩:=hf;refine⟨by simp,?_⟩;dsimp only[startD,Wbg,Wbn,Wa7,Waw];have hw:=hW.len;have hn:=hW.hi;refine Zat (Zbs (Zd4 (Za7 (Zaj (Zba (Zac (Zab rfl (Zah (Zcr (Or.inr rfl) (Zaj (Zab rfl (Zak (Zan (d:=.int (N:Int)) rfl (Zfz ⟨_,rfl,?_⟩))))))))))))));rw[Wab];by_cases hl:gs.length=N
 case neg=>
  rw[decide_eq_false (by omega)];rw[dc_f λh=>hl h.len]at q;exact iteT (Zaq (Zcc q))
 rw[decide_eq_true (by omega)];refine iteF (Zcl (Zcm (Zba (Zac (Zcf (by decide) (Zdm (Zab rfl ⟨_,rfl,?_,λ_=>true,λd=>.bl (match d with|.int x=>decide (x∈[0,1])|_=>false),λi d hd=>?_,?_⟩)))))))
 ·rw[Wab];exact small1000 (by omega)
 ·obtain⟨x,hx,rfl⟩:=Zcn hd
  refine Zci ⟨rfl,Zaj (Zab rfl (Zez (Zac (Zak (Zac (Zak (Zah ⟨Zcg,Zoc (ns:=[0,1]) ⟨?_,_,rfl⟩⟩)))))))⟩;rfl
 rw[Zfe];refine Zah (Zhk ⟨_,rfl,?_⟩);cases hb:(((gs.map D.int).map λd=>(match d with|.int x=>decide (x∈[0,1])|_=>false)).all id) with
 |false=>
  rw[dc_f λh=>?_]at q
  ·exact iteT (Zaq (Zcc q))
  ·refine Wai (hb.symm.trans (Zf6.mpr λi d hd=>?_))
   obtain⟨x,hx,rfl⟩:=Zcn hd;have:=h.bit x (Wah hx);exact decide_eq_true (by simp only[Wan,Waq,or_false];exact this)
 |true=>
 have hbit:∀g∈gs,g=0\/g=1:=λg hg=>by
  obtain⟨i,hi⟩:=Wb3 hg;have:=of_decide_eq_true (Zf6.mp hb i _ (getI hi));simpa only[Wan,Waq,or_false] using this
 refine iteF (Za6 ?_);refine Zat (Zbs (Zcm (Zba (Zac (Zcf (by decide) (Zfh (Zds (Zh5 (Zac (Zab rfl (Zah ⟨_,ts,rfl,hW,λms hm=>?_⟩)))))))))));rw[Wao]at hm ⊢;have hml:=hm.len;rw[Zb2]at hml;refine⟨_,rfl,_,Or.inl rfl,?_,λ_=>true,λd=>.bl (match d with|.lst (.int g::_)=>decide (gs.getD g.toNat 0=1)|_=>false),λi d hd=>?_,?_⟩
 ·rw[Wab];unfold partsL;rw[Wab];exact small1000 (by omega)
 ·obtain⟨g,hg,rfl⟩:=Zfo hd
  obtain⟨l,hl2⟩:=Zed hW ((hm.2 g).mp (Wah hg));obtain⟨g0,g1,g2⟩:=(Zdq hW hm).mp (Wah hg);have ag:=Zbn (l:=gs) rfl g0 (by omega);refine Zci ⟨rfl,Zaj (Zaj (Zab rfl (Zaj (Zab rfl (Zak (Zbk (d:=.int g) (by rw[hl2];exact at0c _ _) (Zan ag (Zak (Zdg ⟨?_,_,rfl⟩)))))))))⟩;rw[hl2];rfl
 rw[Zfe];refine Zah (Zrz ⟨_,rfl,?_⟩);have key:∀{b:Bool},(((partsL N ts ms).map lstI).map λd=>(match d with|.lst (.int g::_)=>decide (gs.getD g.toNat 0=1)|_=>false)).any id=b->(b=true ↔ ∃g∈ms,gs.getD g.toNat 0=1):=λ{b} hb2=>by
  rw[<- hb2,Zql];constructor
  ·rintro⟨i,d,hd,e⟩
   obtain⟨g,hg,rfl⟩:=Zfo hd;obtain⟨l,hl2⟩:=Zed hW ((hm.2 g).mp (Wah hg));rw[hl2]at e;exact⟨g,Wah hg,of_decide_eq_true e⟩
  ·rintro⟨g,hg,e⟩
   obtain⟨i,hi⟩:=Wb3 hg;obtain⟨l,hl2⟩:=Zed hW ((hm.2 g).mp hg);refine⟨i,lstI (partI (marksL N ts) N g),?_,?_⟩
   ·unfold partsL;rw[Wad,Wad,hi];rfl
   ·rw[hl2];exact decide_eq_true e
 cases ha:(((partsL N ts ms).map lstI).map λd=>(match d with|.lst (.int g::_)=>decide (gs.getD g.toNat 0=1)|_=>false)).any id with
 |true=>
  obtain⟨g,hg,e⟩:=(key ha).mp rfl;obtain⟨g0,g1,g2⟩:=(Zdq hW hm).mp hg;rw[dc_f λh=>by
   have:=h.rt g.toNat (by omega) (by rw[Wcx g0];exact g2);omega]at q
  exact iteT (Zaq (Zcc q))
 |false=>
 have hrt:∀p:Nat,p<N->mk N ts (p:Int)=(p:Int)->gs.getD p 0=0:=λp hp e=>by
  have hg:((p:Nat):Int)∈ms:=(Zdq hW hm).mpr ⟨by omega,by omega,e⟩;have hx:gs.getD p 0∈gs:=by
   rw[Wae,Wac (by omega:p<gs.length)];exact Wa9 _
  rcases hbit _ hx with z|z
  ·exact z
  ·exact absurd ((key ha).mpr ⟨_,hg,by rw[Wao];exact z⟩) Wai
 refine iteF (Za6 ?_);refine Zaq (Zba (Zac (Zks (by decide) (Zfi (Zac (Zaj (Zab rfl (Zak (Zan (d:=.tup (ts.map encTie)) rfl (Zah ⟨_,Or.inr rfl,?_,λ_=>true,λd=>.bl (match d with|.tup [.int i,.tup [.int a,.int b]]=>fitB (gs.getD a.toNat 0) (gs.getD b.toNat 0) (cs.getD i.toNat 0)|_=>false),λi d hd=>?_,?_⟩))))))))))
 ·rw[Zfc,Wab];exact small1000 (by omega)
 ·obtain⟨t,ht,rfl⟩:=Zdn hd
  have hi:=(Waj.mp ht).1;have tb:=hW.tie t (Wah ht);obtain⟨c,c1,c2,c3⟩:=hC.at hi;have a1:atI (cs.map D.int) (i:Int)=some (.int c):=Zb6 (by rw[Wad,c1];rfl);refine⟨.int (i:Int),.int t.1,.int t.2,rfl,Zci ⟨rfl,Zb0 (Zac (Zab rfl (Zac (Zab rfl (Zac (Zab rfl (Zac (Zaj (Zab rfl (Zab rfl (Zan a1 (Zah ⟨_,gs,t.1,t.2,c,rfl,Or.inr rfl,tb.1,by omega,tb.2.2.1,by omega,?_,_,_,_,rfl⟩))))))))))))⟩⟩;show D.bl _=D.bl (fitB (gs.getD t.1.toNat 0) (gs.getD t.2.toNat 0) (cs.getD ((i:Int)).toNat 0));rw[Wao,c2]
 rw[Zfe];refine Zah (Zhk ?_);rw[dc_b (b:=((enD (ts.map encTie)).map λd=>(match d with|.tup [.int i,.tup [.int a,.int b]]=>fitB (gs.getD a.toNat 0) (gs.getD b.toNat 0) (cs.getD i.toNat 0)|_=>false)).all id)]at q
 ·exact q
 rw[Zf6];constructor
 ·intro h
  refine⟨hl,hbit,hrt,λi t ht=>?_⟩;have:=h i (.tup [.int (i:Int),encTie t]) (Zqh (by rw[Wad,ht];rfl));have e:fitB (gs.getD t.1.toNat 0) (gs.getD t.2.toNat 0) (cs.getD ((i:Int)).toNat 0)=true:=this;rw[Wao]at e;exact e
 ·intro h i d hd
  obtain⟨t,ht,rfl⟩:=Zdn hd;have:=h.fit i t ht;show fitB (gs.getD t.1.toNat 0) (gs.getD t.2.toNat 0) (cs.getD ((i:Int)).toNat 0)=true;rw[Wao];exact this
theorem Zly (mb:Mb mg) (C43:Callee P w K mg base 1 "place_of" ["web","end"] (spD K fPlace)) (F:Fun K "is_round" "is_round" s_is_round f fd):FnOk P w K mg base CX0 2 f fd ["web","shown"] (spD K fRoundG):=by
 refine F.ok sc_is_round (Zca λds Post h=>by obtain⟨_,_,_,rfl,_⟩:=h;rfl) (λcdv A outer s H vs Q E hr h=>?_);have hu:=Zcu hr;have hv:=Zem hr;refine⟨_,(Zaf (Zbr (PW.pt (pw_or (Zc1 (truK K (pv 1) (λ_=>rfl))) (pw_or1 (Zc1 (truK K (Zao (allK K rfl) rfl (mb "all" (by decide)) Zhm (Zaa (Zb8 ["end"] (show CompSc (defScope s_is_round) ["web","shown","nexts"] _ ["web"] [0] from ⟨rfl,by decide +kernel,by decide +kernel,by decide +kernel,rfl,by decide +kernel⟩) rfl (seqK K (pv 1)) (λ_ _ _ _ _=>(Zav (i:=0) (show List.Nodup (["end","web"]:List Str) from by decide) rfl (Or.inl rfl))) (λ_ _ _ _ _=>Zck) (λ_ _ _ _ _=>(Znm Zr1 Zmh Zad (pv 0) (Zaw Zdl Zad (Zao (lenK K) rfl (mb "len" (by decide)) Zc5 (Zaa (Zau (ixK K hu) (pv 1) Zad (λ_ _=>rfl)) Zae)))))) Zae)) (λ_=>rfl)))))) (Zal (Za4 Zc2)) Za5) (Zaf (Zax (i:=2) sc_is_round.nd rfl (Or.inl rfl) (Zaw (addK K) (Zbq (slK K) (pv 1) (Zb1 Zad) Zcj) (Zbq (slK K) (pv 1) Zcj (Zb1 Zad)))) (Zal (Za4 (Zao (allK K rfl) rfl (mb "all" (by decide)) Zhm (Zaa (Zb8 ["end","come"] (show CompSc (defScope s_is_round) ["web","shown","nexts"] _ ["web"] [0] from ⟨rfl,by decide +kernel,by decide +kernel,by decide +kernel,rfl,by decide +kernel⟩) rfl (Zqs K rfl (mb "zip" (by decide)) (Zaa (pv 1) (Zaa (pv 2) Zae))) (λ_ _ _ _ _=>(gtupK (n:=2) K rfl (Zbb (Zav (i:=0) (show List.Nodup (["end","come","web"]:List Str) from by decide) rfl (Or.inl rfl)) (Zbb (Zav (i:=1) (show List.Nodup (["end","come","web"]:List Str) from by decide) rfl (Or.inl rfl)) Zcp)))) (λ_ _ _ _ _=>Zck) (λ_ _ _ _ _=>(Zb7 Zbp (Zbe C43 (hr.mono (by decide)) (Zaa (pv 2) (Zaa (Zaw Zrj (pv 0) Zad) Zae))) (Zbe C43 (hr.mono (by decide)) (Zaa (pv 2) (Zaa (pv 1) Zae))) (nomark _)))) Zae)))))),Zee (λds Post hf=>?_) h⟩;obtain⟨n,ts,R,rfl,hW,hle,q⟩:=hf;refine⟨by simp,?_⟩;dsimp only[startD,Wbg,Wbn,Wa7,Waw];have hw:=hW.len;by_cases hne:0<R.length
 case neg=>
  have e:R=[]:=Wbe (by omega);subst e;rw[dc_f λh=>hne h.ne]at q;exact Zat (Zbs (Zd4 (Zcl (Zcm (Zab rfl ⟨false,rfl,iteT (Zaq (Zcc q))⟩)))))
 refine Zat (Zbs (Zd4 (Zcl (Zcm (Zab rfl ⟨true,?_,iteF ?_⟩)))))
 ·cases R with
  |nil=>simp at hne
  |cons x R=>rfl
 refine Zcl (Zcm (Zba (Zac (Zcf (by decide) (Zdm (Zab rfl ⟨_,rfl,?_,λ_=>true,λd=>.bl (match d with|.int x=>decide (0<=x) && decide (x<(2*ts.length:Nat))|_=>false),λi d hd=>?_,?_⟩))))))
 ·rw[Wab];exact small1000 (by omega)
 ·obtain⟨x,hx,rfl⟩:=Zcn hd
  refine Zci ⟨rfl,Zi5 (Zak (Zab rfl (Zf1 ⟨_,rfl,?_⟩)))⟩;by_cases h0:0<=x
  ·rw[if_pos (decide_eq_true h0)]
   refine Zaj (Zak (Zba (Zac (Zaj (Zab rfl (Zak (Zan (d:=.tup (ts.map encTie)) rfl (Zah (Zcr (Or.inr rfl) ?_)))))))));rw[Wab];refine jr_I (Or.inl ⟨by omega,by omega⟩) (Zf1 ⟨?_,_,rfl⟩);show D.bl _=D.bl (decide (0<=x) && decide (x<((2*ts.length:Nat):Int)));rw[decide_eq_true h0,Bool.true_and];exact congrArg D.bl (decide_eq_decide.mpr (by omega))
  ·rw[if_neg (by simp[h0])]
   refine⟨?_,_,rfl⟩;show D.bl _=D.bl (decide (0<=x) && decide (x<((2*ts.length:Nat):Int)));rw[decide_eq_false h0,Bool.false_and]
 rw[Zfe];refine Zah (Zhk ⟨_,rfl,?_⟩);cases hb:(((R.map D.int).map λd=>(match d with|.int x=>decide (0<=x) && decide (x<(2*ts.length:Nat))|_=>false)).all id) with
 |false=>
  rw[dc_f λh=>?_]at q
  ·exact iteT (Zaq (Zcc q))
  ·refine Wai (hb.symm.trans (Zf6.mpr λi d hd=>?_))
   obtain⟨x,hx,rfl⟩:=Zcn hd;obtain⟨e,he,rfl⟩:=h.inn x (Wah hx);show (decide (0<=(e:Int)) && decide ((e:Int)<((2*ts.length:Nat):Int)))=true;rw[decide_eq_true (by omega),decide_eq_true (by omega)];rfl
 |true=>
 have inn:∀x∈R,∃e:Nat,e<2*ts.length/\x=(e:Int):=λx hx=>by
  obtain⟨i,hi⟩:=Wb3 hx;have:=Zf6.mp hb i _ (getI hi);have this:(decide (0<=x) && decide (x<((2*ts.length:Nat):Int)))=true:=this;rw[Wbd,decide_eq_true_iff,decide_eq_true_iff]at this;exact⟨x.toNat,by omega,by omega⟩
 refine iteF (Za6 ?_);have c1:cutD (R.map D.int) (some 1) none=(R.drop 1).map D.int:=(Ze4 _ (j:=1) (by rw[Wab];omega)).trans (by rw[List.map_drop]);have c2:cutD (R.map D.int) none (some 1)=(R.take 1).map D.int:=(Zlw _ (j:=1) (by rw[Wab];omega)).trans (by rw[List.map_take]);refine Zat (Za2 (Zaj (Zlm (Zab rfl (Zfj (Zak ⟨_,rfl,Zfn ⟨.tup ((R.drop 1).map D.int),by show some (D.tup _)=_;rw[c1],?_⟩⟩))))));refine Zlm (Zab rfl (Zfn (Zfj (Zak ⟨_,rfl,.tup ((R.take 1).map D.int),by show some (D.tup _)=_;rw[c2],?_⟩))));refine Zk5 (Wb1 (small1000 (by rw[Wab,Wab,Wa8,Wav];omega))) ?_;rw[<- Wa6];have nx:∀k,k<R.length->(R.drop 1++R.take 1)[k]?=some (R.getD (nxI R.length k) 0):=λk hk=>by
  unfold nxI;by_cases z:k+1=R.length
  ·rw[if_pos z,Wap (by rw[Wa8];omega),Wa8,Wcp,if_pos (by omega),Wae,show k-(R.length-1)=0 by omega,Wac hne]
   rfl
  ·rw[if_neg z,Wa3 (by rw[Wa8];omega),Wb8,Wae,Nat.add_comm 1 k,Wac (show k+1<R.length by omega)]
   rfl
 have nxm:∀k,k<R.length->R.getD (nxI R.length k) 0∈R:=λk hk=>by
  rw[Wae];have:nxI R.length k<R.length:=by unfold nxI;split <;> omega
  rw[Wac this];exact Wa9 this
 have zg:∀{i:Nat}{d:D},(((R.map D.int).zip ((R.drop 1++R.take 1).map D.int)).map λp=>D.tup [p.1,p.2])[i]?=some d->i<R.length/\d=.tup [.int (R.getD i 0),.int (R.getD (nxI R.length i) 0)]:=λ{i d} hd=>by
  rw[Wad]at hd;cases z:((R.map D.int).zip ((R.drop 1++R.take 1).map D.int))[i]? with
  |none=>rw[z]at hd;cases hd
  |some y=>
   rw[z]at hd;have hd:D.tup [y.1,y.2]=d:=by simpa using hd
   subst hd;obtain⟨z1,z2⟩:=Wbt.mp z;obtain⟨x1,h1,e1⟩:=Zcn z1;obtain⟨x2,h2,e2⟩:=Zcn z2;have hi:=(Waj.mp h1).1;rw[nx i hi]at h2;have hx1:R.getD i 0=x1:=by rw[Wae,h1];rfl
   refine⟨hi,?_⟩;rw[e1,e2,hx1,Wbo.inj h2]
 refine Zaq (Zba (Zac (Zmv (by decide) (Zo5 (Zac (Zab rfl (Zac (Zab rfl (Zah ⟨_,_,rfl,?_,?_,λ_=>true,λd=>.bl (match d with|.tup [.int a,.int b]=>decide (placeAt ts (partner a.toNat)=placeAt ts b.toNat)|_=>false),λi d hd=>?_,?_⟩)))))))))
 ·rw[Wab,Wab,Wag,Wa8,Wav];omega
 ·rw[Wab,List.length_zip,Wab,Wab,Wag,Wa8,Wav];exact small1000 (by omega)
 ·obtain⟨hi,rfl⟩:=zg hd
  have hx:R.getD i 0∈R:=by rw[Wae,Wac hi];exact Wa9 hi
  obtain⟨a,ha,ea⟩:=inn _ hx;obtain⟨b,hb2,eb⟩:=inn _ (nxm i hi);rw[ea,eb];refine⟨.int (a:Int),.int (b:Int),rfl,?_⟩;refine Zci ⟨rfl,Zaj (Zb0 (Zac (Zab rfl (Zac (Zaj (Zab rfl (Zak (Zi0 ?_))))))))⟩;rw[Zo2];refine Zah ⟨_,ts,partner a,rfl,Zek ha,Zb0 (Zac (Zab rfl (Zac (Zab rfl (Zah ⟨_,ts,b,rfl,hb2,Zdg ⟨?_,_,_,rfl⟩⟩)))))⟩;show D.bl _=D.bl (decide (placeAt ts (partner ((a:Int)).toNat)=placeAt ts ((b:Int)).toNat));rw[Wao,Wao]
 rw[Zfe];refine Zah (Zhk ?_);rw[dc_b (b:=((((R.map D.int).zip ((R.drop 1++R.take 1).map D.int)).map λp=>D.tup [p.1,p.2]).map λd=>(match d with|.tup [.int a,.int b]=>decide (placeAt ts (partner a.toNat)=placeAt ts b.toNat)|_=>false)).all id)]at q
 ·exact q
 rw[Zf6];constructor
 ·intro h
  refine⟨hne,hle,inn,λk hk=>?_⟩;have:=h k (.tup [.int (R.getD k 0),.int (R.getD (nxI R.length k) 0)]) (by
   rw[Wad];have:((R.map D.int).zip ((R.drop 1++R.take 1).map D.int))[k]?=some (D.int (R.getD k 0),D.int (R.getD (nxI R.length k) 0)):=Wbt.mpr ⟨by rw[Wad,Wae,Wac hk];rfl,by rw[Wad,nx k hk];rfl⟩;rw[this];rfl)
  exact(of_decide_eq_true this).symm
 ·intro h i d hd
  obtain⟨hi,rfl⟩:=zg hd;exact decide_eq_true (h.cyc i hi).symm
theorem Zkd (mb:Mb mg) (C37:Callee P w K mg base 2 "are_wholes" ["thing"] (spD K fAreWX)) (C36:Callee P w K mg base 2 "are_sides" ["web","crossings","shown"] (spD K fAreG)) (C40:Callee P w K mg base 2 "is_round" ["web","shown"] (spD K fRoundG)) (C38:Callee P w K mg base 1 "crossed_times" ["crossings","ends"] (spD K fCt)) (F:Fun K "shows_sides" "shows_sides" s_shows_sides f fd):FnOk P w K mg base CX0 3 f fd ["web","crossings","thing"] (spD K fShowG):=by
 refine F.ok sc_shows_sides (Zca λds Post h=>by obtain⟨_,_,_,_,rfl,_⟩:=h;rfl) (λcdv A outer s H vs Q E hr h=>?_);have hu:=Zcu hr;have hv:=Zem hr;refine⟨_,(Zaf (Zbr (PW.pt (pw_or (Zc1 (truK K (Zao (isiUK K) rfl (mb "isinstance" (by decide)) Za9 (Zaa (pv 2) (Zaa (Zcw rfl (mb "tuple" (by decide)) Zb4 (show RelV (.ty "tuple") _ from rfl)) Zae))) (λ_=>rfl))) (pw_or1 (Zaz Zdi (Zao (lenK K) rfl (mb "len" (by decide)) Zc5 (Zaa (pv 2) Zae)) Zad (nomark _))))) (Zal (Za4 Zc2)) Za5) (Zaf (Zfp (pv 2) (gtupK (n:=2) K rfl (Zbb (Zav (i:=3) sc_shows_sides.nd rfl (Or.inl rfl)) (Zbb (Zav (i:=4) sc_shows_sides.nd rfl (Or.inl rfl)) Zcp)))) (Zaf (Zbr (Zc1 (truK K (Zbe C37 (hr.mono (by decide)) (Zaa (pv 4) Zae)) (λ_=>rfl))) (Zal (Za4 Zc2)) Za5) (Zaf (Zbr (Zaz (eqXK K hu) (pv 3) Zcy (nomark _)) (Zal (Za4 (Zbe C36 (hr.mono (by decide)) (Zaa (pv 0) (Zaa (pv 1) (Zaa (pv 4) Zae)))))) Za5) (Zal (Za4 (Ze6 (Zb7 (eqXK K hu) (pv 3) Zcy (nomark _)) (Ze6 (Zbe C40 (hr.mono (by decide)) (Zaa (pv 0) (Zaa (pv 4) Zae))) (Zf4 (Zb7 Zbp (Zaw Zbu (Zbe C38 (hr.mono (by decide)) (Zaa (pv 1) (Zaa (pv 4) Zae))) Zad) Zad (nomark _))))))))))),Zee (λds Post hf=>?_) h⟩;obtain⟨N,ts,cs,d,rfl,hW,hC,hT,q⟩:=hf;refine⟨by simp,?_⟩;dsimp only[startD,Wbg,Wbn,Wa7,Waw];have hn:=hW.hi;cases ht:isTup d with
 |false=>
  rw[dc_f λh=>by rcases h with ⟨_,rfl,_⟩|⟨_,rfl,_⟩ <;> cases ht]at q
  obtain⟨T,e⟩:=hT.ty;exact Zat (Zbs (Zd4 (Zcl (Zcm (Zba (Zac (Zab rfl (Zac (Zcb (Zah (Zhj e (by rw[ht];exact⟨_,rfl,iteT (Zaq (Zcc q))⟩))))))))))))
 |true=>
 obtain⟨es,rfl⟩:=Zd9 ht;obtain⟨hl60,hes⟩:=hT.2 es rfl;refine Zat (Zbs (Zd4 (Zcl (Zcm (Zba (Zac (Zab rfl (Zac (Zcb (Zah (Za3 (T:="tuple") (b:=true) rfl (λ_=>by rfl) ⟨_,rfl,iteF ?_⟩)))))))))));refine Za7 (Zaj (Zba (Zac (Zab rfl (Zah (Zcr (Or.inr rfl) (Zak (Zfz ⟨_,rfl,?_⟩))))))));by_cases hl:es.length=2
 case neg=>
  rw[dc_f λh=>by rcases h with ⟨_,e,_⟩|⟨_,e,_⟩ <;> (injection e with e;rw[e]at hl;exact hl rfl)]at q
  rw[decide_eq_false (by omega)];exact iteT (Zaq (Zcc q))
 obtain⟨a,b,rfl⟩:∃a b,es=[a,b]:=by
  match es,hl with
  |[a,b],_=>exact⟨a,b,rfl⟩
 refine iteF (Za6 ?_);refine Zat (Zog (Zab rfl (Zey rfl (Zbh (Zbl (Zbh (Zbl (Zdh ?_))))))));have tb:=hes b (Wat _ Wau);have ta:=(hes a Wau).ty;refine Zat (Zbs (Zcl (Zcm (Zb0 (Zac (Zab rfl (Zah ⟨b,rfl,tb,_,rfl,?_⟩)))))));cases hb:awB b with
 |false=>
  rw[dc_f λh=>by
   rcases h with ⟨r,e,_⟩|⟨r,e,_⟩ <;> (injection e with e;injection e with _ e;injection e with e _;rw[e,aw_row]at hb;cases hb)]at q
  exact iteT (Zaq (Zcc q))
 |true=>
 obtain⟨fs,rfl⟩:∃fs,b=.tup fs:=by
  cases b with
  |tup fs=>exact⟨fs,rfl⟩
  |_=>cases hb
 have ef:=Zh3 (show fs.all isIntX=true from hb);generalize hr':fs.map intD=r at ef;subst ef;have hr2:r.length<=100:=by have:=(tb.2 _ rfl).1;rw[Wab]at this;omega
 refine iteF (Za6 ?_);refine Zat (Zbs (Za7 (Zaj (Zab rfl (Zgc (Zn0 ta ⟨_,rfl,?_⟩))))));by_cases h2:a=.str "two"
 ·subst h2
  refine iteT (Zaq (Zb0 (Zac (Zab rfl (Zac (Zab rfl (Zac (Zab rfl (Zah ⟨N,ts,cs,r,rfl,hW,hC,hr2,?_⟩)))))))));have:dc (SidOk N ts cs r)=dc (ShowD N ts cs (.tup [.str "two",encRow r])):=by
   by_cases z:SidOk N ts cs r
   ·rw[dc_t z,dc_t (.inl ⟨r,rfl,z⟩)]
   ·rw[dc_f z,dc_f λh=>?_]
    rcases h with ⟨gs,e,h⟩|⟨R,e,_⟩
    ·injection e with e;injection e with _ e;injection e with e _
     exact z (Zeh (D.tup.inj e) ▸ h)
    ·injection e with e;injection e with e _;exact absurd (D.str.inj e) (by decide)
  rw[this];exact q
 have e2:eqXB a "two" = false:=by
  cases a with
  |str x=>exact decide_eq_false λz=>h2 (by rw[z])
  |_=>rfl
 rw[e2];refine iteF (Za6 (Zaq (Zbj (Zaj (Zab rfl (Zgc (Zn0 ta ⟨_,rfl,?_⟩)))))));by_cases h1:a=.str "one"
 case neg=>
  have e1:eqXB a "one" = false:=by
   cases a with
   |str x=>exact decide_eq_false λz=>h1 (by rw[z])
   |_=>rfl
  rw[e1];rw[dc_f λh=>by
   rcases h with ⟨_,e,_⟩|⟨_,e,_⟩ <;> (injection e with e;injection e with e _)
   ·exact h2 e
   ·exact h1 e]at q
  exact q
 subst h1;refine iteT (Zbj (Zb0 (Zac (Zab rfl (Zac (Zab rfl (Zah ⟨_,ts,r,rfl,hW,hr2,_,rfl,?_⟩)))))));by_cases z:RingOk ts r
 ·rw[dc_t z]
  refine iteT (Zaj (Zaj (Zb0 (Zac (Zab rfl (Zac (Zab rfl (Zah ⟨ts,cs,r,rfl,hC,z.le,z.inn,Zak (jr_I (by show (0:Int)<2;decide) (Zak (Zdg ?_)))⟩))))))));rw[dc_b (b:=decide (crsum cs r % 2=1))]at q
  ·exact q
  ·rw[decide_eq_true_iff]
   constructor
   ·intro h;exact .inr ⟨r,rfl,z,h⟩
   ·rintro(⟨_,e,_⟩|⟨R,e,_,h⟩)
    ·injection e with e;injection e with e _;exact absurd (D.str.inj e) (by decide)
    ·injection e with e;injection e with _ e;injection e with e _
     rw[Zeh (D.tup.inj e)];exact h
 ·rw[dc_f z]
  rw[dc_f λh=>by
   rcases h with ⟨_,e,_⟩|⟨R,e,h,_⟩
   ·injection e with e;injection e with e _;exact absurd (D.str.inj e) (by decide)
   ·injection e with e;injection e with _ e;injection e with e _
    exact z (Zeh (D.tup.inj e) ▸ h)]at q
  exact q
theorem Zld (mb:Mb mg) (F:Fun K "_law_whole" "_law_whole" s_law_whole f fd):FnOk P w K mg base CX0 1 f fd ["_law_found"] (spD K fIsWX):=by
 refine F.ok sc_law_whole (Zca λds Post h=>by obtain⟨_,_,rfl,_⟩:=h;rfl) (λcdv A outer s H vs Q E hr h=>?_);have hu:=Zcu hr;refine⟨_,(Zal (Za4 (Ze6 (Zao (isiUK K) rfl (mb "isinstance" (by decide)) Za9 (Zaa (pv 0) (Zaa (Zcw rfl (mb "int" (by decide)) Zk9 (show RelV (.ty "int") _ from rfl)) Zae))) (Zf4 (Zn9 (Zao (isiUK K) rfl (mb "isinstance" (by decide)) Za9 (Zaa (pv 0) (Zaa (Zcw rfl (mb "bool" (by decide)) Zir (show RelV (.ty "bool") _ from rfl)) Zae)))))))),Zee (λds Post hf=>?_) h⟩;obtain⟨d,T,rfl,hT,q⟩:=hf;refine⟨by simp,?_⟩;dsimp only[startD,Wbg,Wbn,Wa7];cases d with
 |int i=>
  refine Zaq (Zbj (Zba (Zac (Zab rfl (Zac (Zcb (Zah (Za3 (T:="int") (b:=true) rfl (λ_=>by rfl) ⟨_,rfl,?_⟩))))))));rw[if_pos rfl];exact Zft (Zba (Zac (Zab rfl (Zac (Zcb (Zah (Za3 (T:="int") (b:=false) rfl (λ_=>by rfl) ⟨_,rfl,q⟩)))))))
 |bl b=>
  refine Zaq (Zbj (Zba (Zac (Zab rfl (Zac (Zcb (Zah (Za3 (T:="bool") (b:=true) rfl (λ_=>by rfl) ⟨_,rfl,?_⟩))))))));rw[if_pos rfl];exact Zft (Zba (Zac (Zab rfl (Zac (Zcb (Zah (Za3 (T:="bool") (b:=true) rfl (λ_=>by rfl) ⟨_,rfl,q⟩)))))))
 |non=>exact Zaq (Zbj (Zba (Zac (Zab rfl (Zac (Zcb (Zah (Za3 (T:="NoneType") (b:=false) rfl (λ_=>by rfl) ⟨_,rfl,iteF q⟩))))))))
 |str x=>exact Zaq (Zbj (Zba (Zac (Zab rfl (Zac (Zcb (Zah (Za3 (T:="str") (b:=false) rfl (λ_=>by rfl) ⟨_,rfl,iteF q⟩))))))))
 |tup l=>exact Zaq (Zbj (Zba (Zac (Zab rfl (Zac (Zcb (Zah (Za3 (T:="tuple") (b:=false) rfl (λ_=>by rfl) ⟨_,rfl,iteF q⟩))))))))
 |lst l=>exact Zaq (Zbj (Zba (Zac (Zab rfl (Zac (Zcb (Zah (Za3 (T:="list") (b:=false) rfl (λ_=>by rfl) ⟨_,rfl,iteF q⟩))))))))
 |dct k l=>exact Zaq (Zbj (Zba (Zac (Zab rfl (Zac (Zcb (Zah (Za3 (T:="dict") (b:=false) rfl (λ_=>by rfl) ⟨_,rfl,iteF q⟩))))))))
 |_=>cases hT
end
def fTwoG:DSp:=λds Post=>∃(N:Nat) (ts:List (Int × Int)) (cs:List Int) (d:D),ds=[encWeb N ts,encRow cs,d]/\WebOk (N:Int) ts/\CrOk ts cs/\TyN 1 d/\Post (.bl (dc (∃gs,d=encRow gs/\SidOk N ts cs gs)))
def fRingG:DSp:=λds Post=>∃(n:Int) (ts:List (Int × Int)) (cs:List Int) (d:D),ds=[encWeb n ts,encRow cs,d]/\WebOk n ts/\CrOk ts cs/\TyN 1 d/\Post (.bl (dc (∃R,d=encRow R/\RingOk ts R/\crsum cs R % 2=1)))
def isStr:D->Bool
 |.str _=>true
 |_=>false
theorem Zqq {K:W.Frag}{Δ:Evt}{Pd:D->Evt->Prop}{d:D}{T:String}(hT:tyD d=some T) (p:Pd (.bl (isStr d)) Δ):JC K (rIsiU K) [d,.ty "str"] Δ Pd:=by
 cases d with
 |int i=>exact Za3 (T:="int") (b:=false) rfl (λ_=>by rfl) p
 |bl b=>exact Za3 (T:="bool") (b:=false) rfl (λ_=>by rfl) p
 |non=>exact Za3 (T:="NoneType") (b:=false) rfl (λ_=>by rfl) p
 |str x=>exact Za3 (T:="str") (b:=true) rfl (λ_=>by rfl) p
 |tup l=>exact Za3 (T:="tuple") (b:=false) rfl (λ_=>by rfl) p
 |lst l=>exact Za3 (T:="list") (b:=false) rfl (λ_=>by rfl) p
 |dct k l=>exact Za3 (T:="dict") (b:=false) rfl (λ_=>by rfl) p
 |_=>cases hT
theorem Zp4 {ts:List (Int × Int)}{R:List Int}(h1:0<R.length) (h2:R.length<=100) (h3:∀x∈R,∃e:Nat,e<2*ts.length/\x=(e:Int)) (h4:∀k,k<R.length->placeAt ts (R.getD k 0).toNat=placeAt ts (partner (R.getD (pvI R.length k) 0).toNat)):RingOk ts R:=by
 refine⟨h1,h2,h3,λk hk=>?_⟩;have:=h4 (nxI R.length k) (by unfold nxI;split <;> omega)
 have e:pvI R.length (nxI R.length k)=k:=by
  unfold nxI pvI;by_cases z:k+1=R.length
  ·rw[if_pos z,if_pos rfl];omega
  ·rw[if_neg z,if_neg (by omega)];omega
 rw[e]at this;exact this
theorem Zkr {ts:List (Int × Int)}{R:List Int}(h:RingOk ts R) {k:Nat}(hk:k<R.length):placeAt ts (R.getD k 0).toNat=placeAt ts (partner (R.getD (pvI R.length k) 0).toNat):=by
 have:=h.cyc (pvI R.length k) (by unfold pvI;split <;> omega)
 have e:nxI R.length (pvI R.length k)=k:=by
  unfold nxI pvI;by_cases z:k=0
  ·rw[if_pos z,if_pos (by omega)];omega
  ·rw[if_neg z,if_neg (by omega)];omega
 rw[e]at this;exact this
section
variable {P:Program}{w:World}{K:W.Frag}{mg:Str->Option Value}{base:Heap}{f:Addr}{fd:FuncData}
theorem Znw (mb:Mb mg) (C35:Callee P w K mg base 1 "_law_whole" ["_law_found"] (spD K fIsWX)) (C28:Callee P w K mg base 1 "_law_parts" ["_law_web_here"] (spN K fPartsU)) (F:Fun K "_law_two" "_law_two" s_law_two f fd):FnOk P w K mg base CX0 2 f fd ["_law_web_here","_law_crossings_here","_law_given_here"] (spD K fTwoG):=by
 refine F.ok sc_law_two (Zca λds Post h=>by obtain⟨_,_,_,_,rfl,_⟩:=h;rfl) (λcdv A outer s H vs Q E hr h=>?_);have hu:=Zcu hr;have hv:=Zem hr;refine⟨_,(Zaf (Zbr (PW.pt (pw_or (Zc1 (truK K (Zao (isiUK K) rfl (mb "isinstance" (by decide)) Za9 (Zaa (pv 2) (Zaa (Zcw rfl (mb "tuple" (by decide)) Zb4 (show RelV (.ty "tuple") _ from rfl)) Zae))) (λ_=>rfl))) (pw_or1 (Zaz Zdi (Zao (lenK K) rfl (mb "len" (by decide)) Zc5 (Zaa (pv 2) Zae)) (Zau (ixK K hu) (pv 0) Zad (λ_ _=>rfl)) (nomark _))))) (Zal (Za4 Zc2)) Za5) (Zaf (Zct PassesOwn.never rfl (seqK K (pv 2)) (Zav (i:=3) sc_law_two.nd rfl (Or.inl rfl)) (Zal (Zbr (PW.pt (pw_or (Zc1 (truK K (Zbe C35 (hr.mono (by decide)) (Zaa (pv 3) Zae)) (λ_=>rfl))) (pw_or1 (Zaz (notinK K hu) (pv 3) (Zbi (Zaa Zad (Zaa Zad Zae))) rfl)))) (Zal (Za4 Zc2)) Za5))) (Zaf (Zct PassesOwn.never rfl (seqK K (Zbe C28 (hr.mono (by decide)) (Zaa (pv 0) Zae))) (Zav (i:=4) sc_law_two.nd rfl (Or.inl rfl)) (Zal (Zbr (Zaz Zdi (Zau (ixK K hu) (pv 2) (Zau (ixK K hu) (pv 4) Zad (λ_ _=>rfl)) (λ_ _=>rfl)) Zad (nomark _)) (Zal (Za4 Zc2)) Za5))) (Zaf (Zct PassesOwn.never rfl (Zch K rfl (mb "enumerate" (by decide)) (Zaa (Zau (ixK K hu) (pv 0) Zad (λ_ _=>rfl)) Zae)) (gtupK (n:=2) K rfl (Zbb (Zav (i:=5) sc_law_two.nd rfl (Or.inl rfl)) (Zbb (Zav (i:=6) sc_law_two.nd rfl (Or.inl rfl)) Zcp))) (Zal (Zbr (Zaz Zdi (Zb7 Zdi (Zau (ixK K hu) (pv 2) (Zau (ixK K hu) (pv 6) Zad (λ_ _=>rfl)) (λ_ _=>rfl)) (Zau (ixK K hu) (pv 2) (Zau (ixK K hu) (pv 6) Zad (λ_ _=>rfl)) (λ_ _=>rfl)) (nomark _)) (Zb7 Zbp (Zau (ixK K hu) (pv 1) (pv 5) (λ_ _=>rfl)) Zad (nomark _)) (nomark _)) (Zal (Za4 Zc2)) Za5))) (Zal (Za4 Zc2)))))),Zee (λds Post hf=>?_) h⟩;obtain⟨N,ts,cs,d,rfl,hW,hC,hT,q⟩:=hf;refine⟨by simp,?_⟩;dsimp only[startD,Wbg,Wbn,Wa7,Waw];have hw:=hW.len;have hn:=hW.hi;have no:¬ (∃gs,d=encRow gs/\SidOk N ts cs gs)->Post (.bl false):=λh=>by rw[dc_f h]at q;exact q
 obtain⟨T,e⟩:=hT.ty;refine Zat (Zbs (Zd4 (Zcl (Zcm (Zba (Zac (Zab rfl (Zac (Zcb (Zah (Zhj e ⟨_,rfl,?_⟩)))))))))));cases ht:isTup d with
 |false=>exact iteT (Zaq (Zcc (no λ⟨gs,e,_⟩=>by subst e;cases ht)))
 |true=>
 obtain⟨es,rfl⟩:=Zd9 ht;obtain⟨hl60,hes⟩:=hT.2 es rfl;refine iteF (Za7 (Zaj (Zba (Zac (Zab rfl (Zah (Zcr (Or.inr rfl) (Zaj (Zab rfl (Zak (Zan (d:=.int (N:Int)) rfl (Zfz ⟨_,rfl,?_⟩))))))))))));have esr:∀{gs:List Int},D.tup es=encRow gs->es=gs.map D.int:=λh=>D.tup.inj h;by_cases hl:es.length=N
 case neg=>
  rw[decide_eq_false (by omega)];exact iteT (Zaq (Zcc (no λ⟨gs,e,h⟩=>hl (by rw[esr e,Wab];exact h.len))))
 rw[decide_eq_true (by omega)];refine iteF (Za6 ?_);refine Zbc (λΔ=>(∀x∈es,∃i:Int,x=.int i/\(i=0\/i=1))/\∃x3:L2.Slot,Δ = [.val (encWeb N ts),.val (encRow cs),.val (.tup es),x3,.any,.any,.any]) ?_ ?_
 ·refine Zcv (Zdm (Zab rfl ⟨_,rfl,λi Δ=>(∀x∈es.take i,∃i:Int,x=.int i/\(i=0\/i=1))/\∃x3:L2.Slot,Δ = [.val (encWeb N ts),.val (encRow cs),.val (.tup es),x3,.any,.any,.any],⟨λx hx=>(by simp at hx),_,rfl⟩,?_,λΔ ⟨h,x⟩=>⟨by rw[Wbc]at h;exact h,x⟩⟩))
  rintro i y Δ2 hd ⟨hI,x3,rfl⟩;obtain⟨Ty,hTy⟩:=hes y (Wah hd);have bad:(∀i:Int,y=.int i->¬ (i=0\/i=1))->Post (.bl false):=λhb=>no λ⟨gs,e,h⟩=>by
   have hd2:=hd;rw[esr e]at hd2;obtain⟨x,hx,rfl⟩:=Zcn hd2;exact hb x rfl (h.bit x (Wah hx))
  refine Zbl (Zbs (Zd4 (Zcl (Zcm (Zb0 (Zac (Zab rfl (Zah ⟨y,Ty,rfl,hTy,_,rfl,?_⟩))))))));cases ei:isIntX y with
  |false=>exact iteT (Zaq (Zcc (bad λi z=>by subst z;cases ei)))
  |true=>
  obtain⟨x,rfl⟩:∃x,y=.int x:=by
   cases y with
   |int x=>exact⟨x,rfl⟩
   |_=>cases ei
  refine iteF (Za7 (Zaj (Zab rfl (Zez (Zac (Zak (Zac (Zak (Zah ⟨Zcg,Zoc (ns:=[0,1]) ⟨_,rfl,?_⟩⟩)))))))));show if (if true=true then !decide (x∈[0,1]) else _)=true then _ else _
  by_cases hx:x=0\/x=1
  ·rw[if_pos rfl,decide_eq_true (by simp only[Wan,Waq,or_false];exact hx)]
   refine iteF (Za6 ⟨λz hz=>?_,_,rfl⟩);rw[List.take_succ,hd]at hz;rcases Waz.mp hz with h|h
   ·exact hI z h
   ·rw[Wa5.mp h];exact⟨x,rfl,hx⟩
  ·rw[if_pos rfl,decide_eq_false (by simp only[Wan,Waq,or_false];exact hx)]
   exact iteT (Zaq (Zcc (bad λi z=>by cases z;exact hx)))
 rintro Δ1 ⟨hb,x3,rfl⟩;have eall:es.all isIntX=true:=by
  rw[Wby];intro x hx;obtain⟨i,rfl,_⟩:=hb x hx;rfl
 have ef:=Zh3 eall;generalize hgs:es.map intD=gs at ef;subst ef;rw[Wab]at hl;have hbit:∀g∈gs,g=0\/g=1:=λg hg=>by
  obtain⟨i,e,h⟩:=hb (.int g) (Wa1.mpr ⟨g,hg,rfl⟩);cases e;exact h
 have no2:¬ SidOk N ts cs gs->Post (.bl false):=λh=>no λ⟨g2,e,h2⟩=>h (Zeh (esr e) ▸ h2);refine Zbc (λΔ=>(∀p:Nat,p<N->mk N ts (p:Int)=(p:Int)->gs.getD p 0=0)/\∃x4:L2.Slot,Δ = [.val (encWeb N ts),.val (encRow cs),.val (encRow gs),x3,x4,.any,.any]) ?_ ?_
 ·refine Zcv (Zfh (Zds (Zh5 (Zac (Zab rfl (Zah ⟨N,ts,_,rfl,Or.inl rfl,hW,λms hm=>⟨_,rfl,_,Or.inl rfl,λi Δ=>(∀g∈ms.take i,gs.getD g.toNat 0=0)/\∃x4:L2.Slot,Δ = [.val (encWeb N ts),.val (encRow cs),.val (encRow gs),x3,x4,.any,.any],⟨λg hg=>(by simp at hg),_,rfl⟩,?_,?_⟩⟩))))))
  ·rintro i d Δ2 hd ⟨hI,x4,rfl⟩
   obtain⟨g,hg,rfl⟩:=Zfo hd;obtain⟨l,hl2⟩:=Zed hW ((hm.2 g).mp (Wah hg));obtain⟨g0,g1,g2⟩:=(Zdq hW hm).mp (Wah hg);have ag:=Zbn (l:=gs) rfl g0 (by omega);refine Zbl (Zbs (Za7 (Zaj (Zaj (Zab rfl (Zaj (Zab rfl (Zak (Zbk (d:=.int g) (by rw[hl2];exact at0c _ _) (Zan ag (Zak (Zfz ⟨_,rfl,?_⟩))))))))))));by_cases z:gs.getD g.toNat 0=0
   ·rw[decide_eq_true z]
    refine iteF (Za6 ⟨λg' hg'=>?_,_,rfl⟩);rw[List.take_succ,hg]at hg';rcases Waz.mp hg' with h|h
    ·exact hI g' h
    ·rw[Wa5.mp h];exact z
   ·rw[decide_eq_false z]
    exact iteT (Zaq (Zcc (no2 λh=>z (h.rt g.toNat (by omega) (by rw[Wcx g0];exact g2)))))
  ·rintro Δ2 ⟨hI,x4,rfl⟩
   refine⟨λp hp e=>?_,_,rfl⟩;have hg:((p:Nat):Int)∈ms:=(Zdq hW hm).mpr ⟨by omega,by omega,e⟩;have lenE:((partsL N ts ms).map lstI).length=ms.length:=by unfold partsL;rw[Wab,Wab]
   rw[lenE,Wbc]at hI;have:=hI _ hg;rw[Wao]at this;exact this
 rintro Δ1 ⟨hrt,x4,rfl⟩;refine Zbc (λΔ=>(∀(i:Nat) (t:Int × Int),ts[i]?=some t->fitB (gs.getD t.1.toNat 0) (gs.getD t.2.toNat 0) (cs.getD i 0)=true)/\∃x5 x6:L2.Slot,Δ = [.val (encWeb N ts),.val (encRow cs),.val (encRow gs),x3,x4,x5,x6]) ?_ ?_
 ·refine Zcv (Zfi (Zac (Zaj (Zab rfl (Zak (Zan (d:=.tup (ts.map encTie)) rfl (Zah ⟨_,Or.inr rfl,λi Δ=>(∀(j:Nat) (t:Int × Int),j<i->ts[j]?=some t->fitB (gs.getD t.1.toNat 0) (gs.getD t.2.toNat 0) (cs.getD j 0)=true)/\∃x5 x6:L2.Slot,Δ = [.val (encWeb N ts),.val (encRow cs),.val (encRow gs),x3,x4,x5,x6],⟨λj t h=>(by omega),_,_,rfl⟩,?_,?_⟩)))))))
  ·rintro i d Δ2 hd ⟨hI,x5,x6,rfl⟩
   obtain⟨t,ht,rfl⟩:=Zdn hd;have hi:=(Waj.mp ht).1;have tb:=hW.tie t (Wah ht);obtain⟨c,c1,c2,c3⟩:=hC.at hi;have a1:atI (cs.map D.int) (i:Int)=some (.int c):=Zb6 (by rw[Wad,c1];rfl);have b1:=Zbn (l:=gs) rfl tb.1 (by omega);have b2:=Zbn (l:=gs) rfl tb.2.2.1 (by omega);refine Zey rfl (Zbh (Zbl (Zbh (Zbl (Zdh ?_)))));refine Zbs (Za7 (Zaj (Zaj (Zaj (Zab rfl (Zaj (Zab rfl (Zak (Zan (d:=.int t.1) rfl (Zan b1 ?_))))))))));refine Zaj (Zab rfl (Zaj (Zab rfl (Zak (Zan (d:=.int t.2) rfl (Zan b2 (Zfz ?_)))))));refine Zaj (Zaj (Zab rfl (Zab rfl (Zan a1 (Zak (Zdg (Zn5 ⟨_,rfl,?_⟩)))))));by_cases z:fitB (gs.getD t.1.toNat 0) (gs.getD t.2.toNat 0) c=true
   ·have z2:=z
    unfold fitB at z2;rw[z2];refine iteF (Za6 ⟨λj t' hj ht'=>?_,_,_,rfl⟩);by_cases ej:j=i
    ·subst ej;rw[ht]at ht';cases ht';rw[c2];exact z
    ·exact hI j t' (by omega) ht'
   ·have z2:fitB (gs.getD t.1.toNat 0) (gs.getD t.2.toNat 0) c=false:=by simpa using z
    have z3:=z2;unfold fitB at z3;rw[z3];exact iteT (Zaq (Zcc (no2 λh=>by have:=h.fit i t ht;rw[c2,z2]at this;cases this)))
  ·rintro Δ2 ⟨hI,x5,x6,rfl⟩
   refine⟨λi t ht=>hI i t ?_ ht,_,_,rfl⟩;rw[Zfc,Wab];exact(Waj.mp ht).1
 rintro Δ1 ⟨hfit,x5,x6,rfl⟩;rw[dc_t ⟨gs,rfl,hl,hbit,hrt,hfit⟩]at q;exact Zaq (Zcc q)
theorem Zmc (mb:Mb mg) (C35:Callee P w K mg base 1 "_law_whole" ["_law_found"] (spD K fIsWX)) (F:Fun K "_law_ring" "_law_ring" s_law_ring f fd):FnOk P w K mg base CX0 2 f fd ["_law_web_here","_law_crossings_here","_law_ring_here"] (spD K fRingG):=by
 refine F.ok sc_law_ring (Zca λds Post h=>by obtain⟨_,_,_,_,rfl,_⟩:=h;rfl) (λcdv A outer s H vs Q E hr h=>?_);have hu:=Zcu hr;have hv:=Zem hr;refine⟨_,(Zaf (Zbr (PW.pt (pw_or (Zc1 (truK K (Zao (isiUK K) rfl (mb "isinstance" (by decide)) Za9 (Zaa (pv 2) (Zaa (Zcw rfl (mb "tuple" (by decide)) Zb4 (show RelV (.ty "tuple") _ from rfl)) Zae))) (λ_=>rfl))) (pw_or1 (Zaz (eqT0K K hu) (pv 2) (Zbi Zae) (nomark _))))) (Zal (Za4 Zc2)) Za5) (Zaf (Zax (i:=3) sc_law_ring.nd rfl (Or.inl rfl) Zad) (Zaf (Zct PassesOwn.never rfl (seqK K (pv 2)) (Zav (i:=4) sc_law_ring.nd rfl (Or.inl rfl)) (Zaf (Zbr (PW.pt (pw_or (Zc1 (truK K (Zbe C35 (hr.mono (by decide)) (Zaa (pv 4) Zae)) (λ_=>rfl))) (pw_or1 (Zc1 (Zmn Zr1 Zmh Zad (pv 4) (Zaw Zdl Zad (Zao (lenK K) rfl (mb "len" (by decide)) Zc5 (Zaa (Zau (ixK K hu) (pv 0) Zad (λ_ _=>rfl)) Zae)))))))) (Zal (Za4 Zc2)) Za5) (Zal (Zax (i:=3) sc_law_ring.nd rfl (Or.inl rfl) (Zaw (addK K) (pv 3) (Zau (ixK K hu) (pv 1) (Zaw Zdr (pv 4) Zad) (λ_ _=>rfl))))))) (Zaf (Zct PassesOwn.never rfl (Zch K rfl (mb "enumerate" (by decide)) (Zaa (pv 2) Zae)) (gtupK (n:=2) K rfl (Zbb (Zav (i:=5) sc_law_ring.nd rfl (Or.inl rfl)) (Zbb (Zav (i:=4) sc_law_ring.nd rfl (Or.inl rfl)) Zcp))) (Zaf (Zax (i:=6) sc_law_ring.nd rfl (Or.inl rfl) (Zau (ixK K hu) (pv 2) (Zaw Zes (pv 5) Zad) (λ_ _=>rfl))) (Zal (Zbr (Zaz Zdi (Zau (ixK K hu) (Zau (ixK K hu) (Zau (ixK K hu) (pv 0) Zad (λ_ _=>rfl)) (Zaw Zdr (pv 4) Zad) (λ_ _=>rfl)) (Zaw Zbu (pv 4) Zad) (λ_ _=>rfl)) (Zau (ixK K hu) (Zau (ixK K hu) (Zau (ixK K hu) (pv 0) Zad (λ_ _=>rfl)) (Zaw Zdr (pv 6) Zad) (λ_ _=>rfl)) (Zaw Zes Zad (Zaw Zbu (pv 6) Zad)) (λ_ _=>rfl)) (nomark _)) (Zal (Za4 Zc2)) Za5)))) (Zal (Za4 (Zb7 Zbp (Zaw Zbu (pv 3) Zad) Zad (nomark _)))))))),Zee (λds Post hf=>?_) h⟩;obtain⟨n,ts,cs,d,rfl,hW,hC,hT,q⟩:=hf;refine⟨by simp,?_⟩;dsimp only[startD,Wbg,Wbn,Wa7,Waw];have hw:=hW.len;have no:¬ (∃R,d=encRow R/\RingOk ts R/\crsum cs R % 2=1)->Post (.bl false):=λh=>by rw[dc_f h]at q;exact q
 obtain⟨T,e⟩:=hT.ty;refine Zat (Zbs (Zd4 (Zcl (Zcm (Zba (Zac (Zab rfl (Zac (Zcb (Zah (Zhj e ⟨_,rfl,?_⟩)))))))))));cases ht:isTup d with
 |false=>exact iteT (Zaq (Zcc (no λ⟨gs,e,_⟩=>by subst e;cases ht)))
 |true=>
 obtain⟨es,rfl⟩:=Zd9 ht;obtain⟨hl60,hes⟩:=hT.2 es rfl;have esr:∀{gs:List Int},D.tup es=encRow gs->es=gs.map D.int:=λh=>D.tup.inj h;refine iteF (Za7 (Zaj (Zab rfl (Zez (Zah ⟨by decide,Zou ⟨_,rfl,?_⟩⟩)))));cases e0:es.isEmpty with
 |true=>
  refine iteT (Zaq (Zcc (no λ⟨R,e,h,_⟩=>?_)));have:=h.ne;have el:=congrArg Wa7 (esr e);rw[Wab]at el;rw[List.isEmpty_iff.mp e0]at el;simp at el;omega
 |false=>
 refine iteF (Za6 (Zat (Za2 (Zak ?_))));refine Zbc (λΔ=>∃(R:List Int) (x4:L2.Slot),es=R.map D.int/\(∀x∈R,∃e:Nat,e<2*ts.length/\x=(e:Int)) /\ Δ = [.val (encWeb n ts),.val (encRow cs),.val (.tup es),.val (.int (crsum cs R)),x4,.any,.any]) ?_ ?_
 ·refine Zcv (Zdm (Zab rfl ⟨_,rfl,λi Δ=>∃(R:List Int) (x4:L2.Slot),es.take i=R.map D.int/\(∀x∈R,∃e:Nat,e<2*ts.length/\x=(e:Int)) /\ Δ = [.val (encWeb n ts),.val (encRow cs),.val (.tup es),.val (.int (crsum cs R)),x4,.any,.any],⟨[],_,by simp,λx hx=>(nomatch hx),rfl⟩,?_,?_⟩))
  ·rintro i y Δ2 hd ⟨R,x4,hI,hin,rfl⟩
   obtain⟨Ty,hTy⟩:=hes y (Wah hd);have bad:(∀i:Int,y=.int i->¬ (0<=i/\i<((2*ts.length:Nat):Int)))->Post (.bl false):=λhb=>no λ⟨gs,e,h,_⟩=>by
    have hd2:=hd;rw[esr e]at hd2;obtain⟨x,hx,rfl⟩:=Zcn hd2;obtain⟨u,hu3,rfl⟩:=h.inn x (Wah hx);exact hb _ rfl ⟨by omega,by omega⟩
   refine Zbl (Zat (Zbs (Zd4 (Zcl (Zcm (Zb0 (Zac (Zab rfl (Zah ⟨y,Ty,rfl,hTy,_,rfl,?_⟩)))))))));cases ei:isIntX y with
   |false=>exact iteT (Zaq (Zcc (bad λi z=>by subst z;cases ei)))
   |true=>
   obtain⟨x,rfl⟩:∃x,y=.int x:=by
    cases y with
    |int x=>exact⟨x,rfl⟩
    |_=>cases ei
   refine iteF (Zcl (Za7 (Zi5 (Zak (Zab rfl (Zf1 ⟨_,rfl,?_⟩))))));by_cases h0:0<=x
   case neg=>
    rw[if_neg (by simp[h0])];exact⟨_,rfl,iteT (Zaq (Zcc (bad λi z=>by cases z;exact λh=>h0 h.1)))⟩
   rw[if_pos (decide_eq_true h0)];refine Zaj (Zak (Zba (Zac (Zaj (Zab rfl (Zak (Zan (d:=.tup (ts.map encTie)) rfl (Zah (Zcr (Or.inr rfl) ?_)))))))));rw[Wab];refine jr_I (Or.inl ⟨by omega,by omega⟩) (Zf1 ⟨_,rfl,?_⟩);by_cases h1:x<2*(ts.length:Int)
   case neg=>
    rw[decide_eq_false h1];exact iteT (Zaq (Zcc (bad λi z=>by cases z;exact λh=>h1 (by have:=h.2;omega))))
   rw[decide_eq_true h1];refine iteF (Za6 ?_);obtain⟨e,rfl⟩:∃e:Nat,x=(e:Int):=⟨x.toNat,by omega⟩;obtain⟨c,c1,c2,c3⟩:=hC.at (k:=e / 2) (by omega);have a1:atI (cs.map D.int) ((e:Int) / 2)=some (.int c):=by
    rw[show (e:Int) / 2=((e / 2:Nat):Int) by omega];exact Zb6 (by rw[Wad,c1];rfl)
   have tk:=Zjo cs R e;rw[c2]at tk;refine Za2 (Zaj (Zab rfl (Zaj (Zab rfl (Zaj (Zab rfl (Zak (jr_I ⟨by omega,by omega⟩ (Zan a1 (Zc7 ?_))))))))));refine⟨R++[(e:Int)],.val (.int (e:Int)),?_,λy hy=>?_,?_⟩
   ·rw[List.take_succ,hd,hI,Wa6];rfl
   ·rcases Waz.mp hy with h|h
    ·exact hin y h
    ·rw[Wa5.mp h];exact⟨e,by omega,rfl⟩
   ·rw[tk];rfl
  ·rintro Δ2 ⟨R,x4,hI,hin,rfl⟩
   rw[Wbc]at hI;exact⟨R,x4,hI,hin,rfl⟩
 rintro Δ1 ⟨R,x4,rfl,hin,rfl⟩;have hle:R.length<=60:=by rw[Wab]at hl60;exact hl60
 have hne:0<R.length:=by
  cases R with
  |nil=>cases e0
  |cons x R=>exact Nat.succ_pos _
 have no2:¬ RingOk ts R->Post (.bl false):=λh=>no λ⟨g2,e,h2,_⟩=>h (Zeh (esr e) ▸ h2);refine Zbc (λΔ=>(∀k,k<R.length->placeAt ts (R.getD k 0).toNat=placeAt ts (partner (R.getD (pvI R.length k) 0).toNat))/\∃x4 x5 x6:L2.Slot,Δ = [.val (encWeb n ts),.val (encRow cs),.val (encRow R),.val (.int (crsum cs R)),x4,x5,x6]) ?_ ?_
 ·refine Zcv (Zfi (Zac (Zab rfl (Zah ⟨_,Or.inr rfl,λi Δ=>(∀k,k<i->k<R.length->placeAt ts (R.getD k 0).toNat=placeAt ts (partner (R.getD (pvI R.length k) 0).toNat))/\∃x4 x5 x6:L2.Slot,Δ = [.val (encWeb n ts),.val (encRow cs),.val (encRow R),.val (.int (crsum cs R)),x4,x5,x6],⟨λk hk=>(by omega),_,_,_,rfl⟩,?_,?_⟩))))
  ·rintro i d Δ2 hd ⟨hI,x4,x5,x6,rfl⟩
   obtain⟨d',hd',rfl⟩:=Zin hd;obtain⟨x,hx,rfl⟩:=Zcn hd';have hi:=(Waj.mp hx).1;have hx1:R.getD i 0=x:=by rw[Wae,hx];rfl
   have pa:=Zpg hi;have hp:R.getD (pvI R.length i) 0∈R:=by
    have:pvI R.length i<R.length:=by unfold pvI;split <;> omega
    rw[Wae,Wac this];exact Wa9 this
   have step:(placeAt ts (R.getD i 0).toNat=placeAt ts (partner (R.getD (pvI R.length i) 0).toNat))->∀k,k<i+1->k<R.length->placeAt ts (R.getD k 0).toNat=placeAt ts (partner (R.getD (pvI R.length k) 0).toNat):=λh k hk hk2=>by
    by_cases ek:k=i
    ·subst ek;exact h
    ·exact hI k (by omega) hk2
   have nob:¬ (placeAt ts (R.getD i 0).toNat=placeAt ts (partner (R.getD (pvI R.length i) 0).toNat))->Post (.bl false):=λh=>no2 λh2=>h (Zkr h2 hi);generalize R.getD (pvI R.length i) 0=y at pa hp step nob;rw[hx1]at step nob;obtain⟨e,he,rfl⟩:=hin x (Wah hx);obtain⟨u,hu2,rfl⟩:=hin y hp;rw[Wao,Wao]at step nob;obtain⟨t,t1,t2,t3⟩:=Zhx he;obtain⟨t',s1,s2,s3⟩:=Zhx (Zek hu2);rw[Wb2]at t2 t3 s2 s3;have s2':atI (ts.map encTie) ((u:Int) / 2)=some (encTie t'):=by
    rw[show (u:Int) / 2=((partner u:Nat):Int) / 2 by have:=Zew u;omega];exact s2
   have s3':atI [D.int t'.1,D.int t'.2] (1-(u:Int) % 2)=some (.int (placeAt ts (partner u))):=by
    rw[show 1-(u:Int) % 2=((partner u:Nat):Int) % 2 by unfold partner;split <;> omega];exact s3
   refine Zey rfl (Zbh (Zbl (Zbh (Zbl (Zdh ?_)))));refine Zat (Za2 (Zaj (Zab rfl (Zaj (Zab rfl (Zak (Zi0 (Zan pa ?_))))))));refine Zbs (Za7 (Zaj (Zaj (Zaj (Zaj (Zab rfl (Zak (Zan (d:=.tup (ts.map encTie)) rfl ?_))))))));refine Zaj (Zab rfl (Zak (jr_I ⟨by omega,by omega⟩ (Zan t2 (Zaj (Zab rfl (Zak (jr_I (by show (0:Int)<2;decide) (Zan t3 ?_)))))))));refine Zaj (Zaj (Zaj (Zab rfl (Zak (Zan (d:=.tup (ts.map encTie)) rfl ?_)))));refine Zaj (Zab rfl (Zak (jr_I ⟨by omega,by omega⟩ (Zan s2' (Zaj (Zak (Zaj (Zab rfl (Zak (jr_I (by show (0:Int)<2;decide) (Zi0 (Zan s3' (Zfz ⟨_,rfl,?_⟩)))))))))))));by_cases z:placeAt ts e=placeAt ts (partner u)
   ·rw[decide_eq_true z]
    exact iteF (Za6 ⟨step z,_,_,_,rfl⟩)
   ·rw[decide_eq_false z]
    exact iteT (Zaq (Zcc (nob z)))
  ·rintro Δ2 ⟨hI,x4,x5,x6,rfl⟩
   refine⟨λk hk=>hI k ?_ hk,_,_,_,rfl⟩;rw[Zfc,Wab];exact hk
 rintro Δ1 ⟨hcyc,x4,x5,x6,rfl⟩;have hR:=Zp4 hne (by omega) hin hcyc;refine Zaq (Zaj (Zaj (Zab rfl (Zak (jr_I (by show (0:Int)<2;decide) (Zak (Zdg ?_)))))));rw[dc_b (b:=decide (crsum cs R % 2=1))]at q
 ·exact q
 ·rw[decide_eq_true_iff]
  constructor
  ·intro h;exact⟨R,rfl,hR,h⟩
  ·rintro⟨R2,e,_,h⟩
   rw[Zeh (esr e)];exact h
theorem Zjj (mb:Mb mg) (C33:Callee P w K mg base 2 "_law_two" ["_law_web_here","_law_crossings_here","_law_given_here"] (spD K fTwoG)) (C30:Callee P w K mg base 2 "_law_ring" ["_law_web_here","_law_crossings_here","_law_ring_here"] (spD K fRingG)) (F:Fun K "_law_shows" "_law_shows" s_law_shows f fd):FnOk P w K mg base CX0 3 f fd ["_law_web_here","_law_crossings_here","_law_thing_here"] (spD K fShowG):=by
 refine F.ok sc_law_shows (Zca λds Post h=>by obtain⟨_,_,_,_,rfl,_⟩:=h;rfl) (λcdv A outer s H vs Q E hr h=>?_);have hu:=Zcu hr;have hv:=Zem hr;refine⟨_,(Zaf (Zbr (PW.pt (pw_or (Zc1 (truK K (Zao (isiUK K) rfl (mb "isinstance" (by decide)) Za9 (Zaa (pv 2) (Zaa (Zcw rfl (mb "tuple" (by decide)) Zb4 (show RelV (.ty "tuple") _ from rfl)) Zae))) (λ_=>rfl))) (pw_or (Zaz Zdi (Zao (lenK K) rfl (mb "len" (by decide)) Zc5 (Zaa (pv 2) Zae)) Zad (nomark _)) (pw_or1 (Zc1 (truK K (Zao (isiUK K) rfl (mb "isinstance" (by decide)) Za9 (Zaa (Zau (ixK K hu) (pv 2) Zad (λ_ _=>rfl)) (Zaa (Zcw rfl (mb "str" (by decide)) Zn4 (show RelV (.ty "str") _ from rfl)) Zae))) (λ_=>rfl))))))) (Zal (Za4 Zc2)) Za5) (Zaf (Zbr (Zaz Zbp (Zau (ixK K hu) (pv 2) Zad (λ_ _=>rfl)) Zcy (nomark _)) (Zal (Za4 (Zbe C33 (hr.mono (by decide)) (Zaa (pv 0) (Zaa (pv 1) (Zaa (Zau (ixK K hu) (pv 2) Zad (λ_ _=>rfl)) Zae)))))) Za5) (Zal (Za4 (Ze6 (Zb7 Zbp (Zau (ixK K hu) (pv 2) Zad (λ_ _=>rfl)) Zcy (nomark _)) (Zf4 (Zbe C30 (hr.mono (by decide)) (Zaa (pv 0) (Zaa (pv 1) (Zaa (Zau (ixK K hu) (pv 2) Zad (λ_ _=>rfl)) Zae)))))))))),Zee (λds Post hf=>?_) h⟩;obtain⟨N,ts,cs,d,rfl,hW,hC,hT,q⟩:=hf;refine⟨by simp,?_⟩;dsimp only[startD,Wbg,Wbn,Wa7,Waw];have no:¬ ShowD N ts cs d->Post (.bl false):=λh=>by rw[dc_f h]at q;exact q
 obtain⟨T,e⟩:=hT.ty;refine Zat (Zbs (Zd4 (Zcl (Zcm (Zba (Zac (Zab rfl (Zac (Zcb (Zah (Zhj e ⟨_,rfl,?_⟩)))))))))));cases ht:isTup d with
 |false=>exact iteT (Zaq (Zcc (no λh=>by rcases h with ⟨_,rfl,_⟩|⟨_,rfl,_⟩ <;> cases ht)))
 |true=>
 obtain⟨es,rfl⟩:=Zd9 ht;obtain⟨hl60,hes⟩:=hT.2 es rfl;refine iteF (Zd4 (Za7 (Zaj (Zba (Zac (Zab rfl (Zah (Zcr (Or.inr rfl) (Zak (Zfz ⟨_,rfl,?_⟩))))))))));by_cases hl:es.length=2
 case neg=>
  rw[decide_eq_false (by omega)];exact iteT (Zaq (Zcc (no λh=>by rcases h with ⟨_,e,_⟩|⟨_,e,_⟩ <;> (injection e with e;rw[e]at hl;exact hl rfl))))
 obtain⟨a,b,rfl⟩:∃a b,es=[a,b]:=by
  match es,hl with
  |[a,b],_=>exact⟨a,b,rfl⟩
 have tb:=hes b (Wat _ Wau);obtain⟨Ta,ta⟩:=(hes a Wau).ty;refine iteF (Zcl (Zcm (Zba (Zac (Zaj (Zab rfl (Zak (Zan (d:=a) rfl (Zac (Zcb (Zah (Zqq ta ⟨_,rfl,?_⟩))))))))))));cases hs:isStr a with
 |false=>
  refine iteT (Zaq (Zcc (no λh=>by
   rcases h with ⟨_,e,_⟩|⟨_,e,_⟩ <;> (injection e with e;injection e with e _;rw[e]at hs;cases hs))))
 |true=>
 obtain⟨x,rfl⟩:∃x,a=.str x:=by
  cases a with
  |str x=>exact⟨x,rfl⟩
  |_=>cases hs
 refine iteF (Za6 ?_);refine Zat (Zbs (Za7 (Zaj (Zaj (Zab rfl (Zak (Zan (d:=.str x) rfl (Zgc (Zii ⟨_,rfl,?_⟩)))))))));by_cases h2:x = "two"
 ·subst h2
  rw[decide_eq_true rfl];refine iteT (Zaq (Zb0 (Zac (Zab rfl (Zac (Zab rfl (Zac (Zaj (Zab rfl (Zak (Zan (d:=b) rfl (Zah ⟨N,ts,cs,b,rfl,hW,hC,tb,?_⟩))))))))))));have:dc (∃gs,b=encRow gs/\SidOk N ts cs gs)=dc (ShowD N ts cs (.tup [.str "two",b])):=by
   by_cases z:∃gs,b=encRow gs/\SidOk N ts cs gs
   ·rw[dc_t z]
    obtain⟨gs,rfl,h⟩:=z;rw[dc_t (.inl ⟨gs,rfl,h⟩)]
   ·rw[dc_f z,dc_f λh=>?_]
    rcases h with ⟨gs,e,h⟩|⟨R,e,_⟩
    ·injection e with e;injection e with _ e;injection e with e _
     exact z ⟨gs,e,h⟩
    ·injection e with e;injection e with e _;exact absurd (D.str.inj e) (by decide)
  rw[this];exact q
 rw[decide_eq_false h2];refine iteF (Za6 (Zaq (Zbj (Zaj (Zaj (Zab rfl (Zak (Zan (d:=.str x) rfl (Zgc (Zii ⟨_,rfl,?_⟩))))))))));by_cases h1:x = "one"
 case neg=>
  rw[decide_eq_false h1];refine iteF (no λh=>?_);rcases h with ⟨_,e,_⟩|⟨_,e,_⟩
  ·injection e with e;injection e with e _;exact h2 (D.str.inj e)
  ·injection e with e;injection e with e _;exact h1 (D.str.inj e)
 subst h1;rw[decide_eq_true rfl];refine iteT (Zb0 (Zac (Zab rfl (Zac (Zab rfl (Zac (Zaj (Zab rfl (Zak (Zan (d:=b) rfl (Zah ⟨_,ts,cs,b,rfl,hW,hC,tb,?_⟩)))))))))));have:dc (∃R,b=encRow R/\RingOk ts R/\crsum cs R % 2=1)=dc (ShowD N ts cs (.tup [.str "one",b])):=by
  by_cases z:∃R,b=encRow R/\RingOk ts R/\crsum cs R % 2=1
  ·rw[dc_t z]
   obtain⟨R,rfl,h⟩:=z;rw[dc_t (.inr ⟨R,rfl,h⟩)]
  ·rw[dc_f z,dc_f λh=>?_]
   rcases h with ⟨gs,e,h⟩|⟨R,e,h⟩
   ·injection e with e;injection e with e _;exact absurd (D.str.inj e) (by decide)
   ·injection e with e;injection e with _ e;injection e with e _
    exact z ⟨R,e,h⟩
 rw[this];exact q
theorem Zik (ts:List (Int × Int)) (m:Nat) (p:Int) (q:D->Bool) (hq:∀k:Nat,q (.int (0+(k:Int)))=decide (placeAt ts k=p)):(rngD 0 m).filter q=(endsBelow ts m p).map .int:=by
 unfold rngD endsBelow;rw[List.filter_map,Wbf];have e:(q∘λi:Nat=>D.int (0+(i:Int)))=λe=>decide (placeAt ts e=p):=by
  funext k;exact hq k
 rw[e];apply Wcl;intro k _;show D.int (0+(k:Int))=D.int (k:Int);rw[Wb2]
theorem Zov {j n:Nat}(h:j<n):ixN n (j:Int)=some j:=by
 unfold ixN;rw[if_pos (by omega),if_pos (by omega)];rfl
end
def RowE (r:List Int):Prop:=∀x∈r,0<=x/\x<=100
def fGone:BSp:=λps ds Post=>Pen ps/\∃n ts,ds=[encWeb n ts]/\WebOk n ts/\∀r ps',Pen ps' -> RowE r->r.length<=12->Post (encRow r) ps'
def fGiven:BSp:=λps ds Post=>Pen ps/\∃n ts cs,ds=[encWeb n ts,encRow cs]/\WebOk n ts/\CrOk ts cs/\∀r ps',Pen ps' -> RowE r->r.length<=25->Post (encRow r) ps'
theorem Zmt {r:List Int}(h:RowE r) (k:Nat):RowE (r.drop k):=λx hx=>h x (List.mem_of_mem_drop hx)
theorem Zm4 {r:List Int}{e:Int}(h:RowE r) (h0:0<=e) (h1:e<=100):RowE (r++[e]):=λx hx=>by
 rcases Waz.mp hx with z|z
 ·exact h x z
 ·rw[Wa5.mp z];exact⟨h0,h1⟩
section
variable {P:Program}{w:World}{K:W.Frag}{mg:Str->Option Value}{base:Heap}{f:Addr}{fd:FuncData}
theorem Zpl (mb:Mb mg) (C25:Callee P w K mg base 1 "_law_draw" ["_law_pen_here","_law_many"] (spB K fDraw)) (F:Fun K "_law_gone" "_law_gone" s_law_gone f fd):FnOk P w K mg base CX0 2 f fd ["_law_pen_here","_law_web_here"] (spB K fGone):=by
 refine F.ok sc_law_gone (Zd1 λps ds Post h=>by obtain⟨_,_,_,rfl,_⟩:=h;rfl) (λcdv A outer s H vs Q E hr h=>?_);have hu:=Zcu hr;have hv:=Zem hr;refine⟨_,(Zaf (Zax (i:=2) sc_law_gone.nd rfl (Or.inl rfl) (Zb9 Zae)) (Zaf (Zax (i:=3) sc_law_gone.nd rfl (Or.inr rfl) (Zbe C25 (hr.mono (by decide)) (Zaa (pv 0) (Zaa (Zau (ixK K hu) (pv 1) Zad (λ_ _=>rfl)) Zae)))) (Zaf (Zax (i:=4) sc_law_gone.nd rfl (Or.inl rfl) (Zb9 Zae)) (Zaf (Zct PassesOwn.never rfl (Zbw rfl (mb "range" (by decide)) (Zaa (Zaw (addK K) Zad (Zbe C25 (hr.mono (by decide)) (Zaa (pv 0) (Zaa Zad Zae)))) Zae)) (Zav (i:=5) sc_law_gone.nd rfl (Or.inl rfl)) (Zaf (Zg1 (i:=6) ["_law_end"] (show CompSc (defScope s_law_gone) ["_law_pen_here","_law_web_here","_law_ends","_law_at","_law_gone_here","_law_k","_law_some","_law_end"] _ ["_law_web_here","_law_at"] [1,3] from ⟨rfl,by decide +kernel,by decide +kernel,by decide +kernel,rfl,by decide +kernel⟩) rfl sc_law_gone.nd rfl (Or.inl rfl) (Zbw rfl (mb "range" (by decide)) (Zaa (Zaw Zdl Zad (Zao (lenK K) rfl (mb "len" (by decide)) Zc5 (Zaa (Zau (ixK K hu) (pv 1) Zad (λ_ _=>rfl)) Zae))) Zae)) (λ_ _ _ _ _=>(Zav (i:=0) (show List.Nodup (["_law_end","_law_web_here","_law_at"]:List Str) from by decide) rfl (Or.inl rfl))) (λ_ _ _ _ _=>(Zih (Zaz Zbp (Zau (ixK K hu) (Zau (ixK K hu) (Zau (ixK K hu) (pv 1) Zad (λ_ _=>rfl)) (Zaw Zdr (pv 0) Zad) (λ_ _=>rfl)) (Zaw Zbu (pv 0) Zad) (λ_ _=>rfl)) (pv 2) (nomark _)))) (λ_ _ _ _ _=>(pv 0))) (Zaf (Zbr (Zaz (eqL0K K hu) (pv 6) (Zb9 Zae) (nomark _)) (Zal (Za4 (Zb3 (tupK K) rfl (mb "tuple" (by decide)) Zb4 (Zaa (pv 2) Zae)))) Za5) (Zaf (Zfw (bmK K PySem.F.plainAttrs_list PySem.F.slot_list_append PySem.F.type_list_append Zcs (pv 4) (Zaa (pv 3) Zae))) (Zaf (Zax (i:=7) sc_law_gone.nd rfl (Or.inl rfl) (Zau (ixK K hu) (pv 6) (Zbe C25 (hr.mono (by decide)) (Zaa (pv 0) (Zaa (Zao (lenK K) rfl (mb "len" (by decide)) Zc5 (Zaa (pv 6) Zae)) Zae))) (λ_ _=>rfl))) (Zaf (Zfw (bmK K PySem.F.plainAttrs_list PySem.F.slot_list_append PySem.F.type_list_append Zcs (pv 2) (Zaa (pv 7) Zae))) (Zaf (Zax (i:=3) sc_law_gone.nd rfl (Or.inr rfl) (Zau (ixK K hu) (Zau (ixK K hu) (Zau (ixK K hu) (pv 1) Zad (λ_ _=>rfl)) (Zaw Zdr (pv 7) Zad) (λ_ _=>rfl)) (Zaw Zes Zad (Zaw Zbu (pv 7) Zad)) (λ_ _=>rfl))) (Zal (Zbr (PW.pt (pw_and (Zaz (inK K hu) (pv 3) (pv 4) rfl) (pw_and1 (Zaz Zj9 (Zbe C25 (hr.mono (by decide)) (Zaa (pv 0) (Zaa Zad Zae))) Zad (nomark _))))) (Zal (Za4 (Zb3 (tupK K) rfl (mb "tuple" (by decide)) Zb4 (Zaa (Zbq (slK K) (pv 2) (Zb1 (bmK K PySem.F.plainAttrs_list PySem.F.slot_list_index PySem.F.type_list_index (idxLK K) (pv 4) (Zaa (pv 3) Zae))) Zcj) Zae)))) Za5))))))))) (Zal (Za4 (Zb3 (tupK K) rfl (mb "tuple" (by decide)) Zb4 (Zaa (pv 2) Zae)))))))),Zip (λps ds Post hf=>?_) h⟩;obtain⟨hp,n,ts,rfl,hW,q⟩:=hf;refine⟨by simp,?_⟩;dsimp only[cxOf,startD,Wbg,Wbn,Wa7,Waw];have hw:=hW.len;have n1:=hW.lo;have n2:=hW.hi;refine Zat (Zdp (Zgf (Zah ⟨by decide,?_⟩)));refine Zat (Za2 (Zdy rfl rfl (Zac (Zaj (Zab rfl (Zak (Zan (d:=.int n) rfl (Zah (Zc0 (m:=n) rfl rfl hp (by omega) (by omega) λat_ p1 hp1 a0 a1=>?_)))))))));refine Zat (Zdp (Zgf (Zah ⟨by decide,?_⟩)));refine Zbc (λΔ=>∃(r go:List Int) (at_:Int) (p2:List D) (x5 x6 x7:L2.Slot),Pen p2/\RowE r/\r.length<=12 /\ Δ = [.bor (.lst p2),.val (encWeb n ts),.own (.lst (r.map .int)),.val (.int at_),.own (.lst (go.map .int)),x5,x6,x7]) ?_ ?_
 ·refine Zcv (Zbt (Zac (Zaj (Zak (Zfb rfl rfl hp1 (by decide) (by decide) λz p2 hp2 z0 z1=>Zc7 (Zah ⟨_,rfl,by omega,by omega,λi Δ=>∃(r go:List Int) (at_:Int) (p2:List D) (x5 x6 x7:L2.Slot),Pen p2/\RowE r/\r.length=i/\go.length=i /\ Δ = [.bor (.lst p2),.val (encWeb n ts),.own (.lst (r.map .int)),.val (.int at_),.own (.lst (go.map .int)),x5,x6,x7],⟨[],[],at_,p2,_,_,_,hp2,λx hx=>(nomatch hx),rfl,rfl,rfl⟩,?_,?_⟩))))))
  ·rintro i d Δ2 hd ⟨r,go,at_,p2,x5,x6,x7,hp2,hr2,hl,hg,rfl⟩
   have hi:i<12:=by
    have:=(Waj.mp hd).1;rw[Zby]at this;omega
   refine Zbl ?_;refine Zbc (λΔ=>∃(so:List Int),(∀x∈so,∃e:Nat,e<2*ts.length/\x=(e:Int))/\so.length<=48 /\ Δ = [.bor (.lst p2),.val (encWeb n ts),.own (.lst (r.map .int)),.val (.int at_),.own (.lst (go.map .int)),.val d,.val (.lst (so.map .int)),x7]) ?_ ?_
   ·refine Za2 (Zcf (by decide) (Zbt (Zac (Zaj (Zak (Zba (Zac (Zaj (Zab rfl (Zak (Zan (d:=.tup (ts.map encTie)) rfl (Zah (Zcr (Or.inr rfl) ?_)))))))))))))
    rw[Wab];refine jr_I (Or.inl ⟨by omega,by omega⟩) (Zah ⟨_,rfl,by omega,by omega,?_,λd=>match d with|.int e=>decide (placeAt ts e.toNat=at_)|_=>false,λd=>d,λj e he=>?_,?_⟩)
    ·rw[Zby];exact small1000 (by omega)
    ·obtain⟨hj,rfl⟩:=Zdw he
     have hu4:j<2*ts.length:=by omega
     obtain⟨t,t1,t2,t3⟩:=Zhx hu4;refine Za7 (Zaj (Zaj (Zaj (Zaj (Zab rfl (Zak (Zan (d:=.tup (ts.map encTie)) rfl (Zaj (Zab rfl (Zak (jr_I ⟨by omega,by omega⟩ (Zan t2 (Zaj (Zab rfl (Zak (jr_I (by show (0:Int)<2;decide) (Zan t3 (Zab rfl (Zdg ⟨_,rfl,?_,?_⟩)))))))))))))))))))
     ·show decide _=decide (placeAt ts (0+(j:Int)).toNat=at_)
      rw[Wb2,Wao]
     ·exact ite2 (λ_=>Zab rfl ⟨rfl,_,rfl⟩) (λ_=>⟨_,rfl⟩)
    ·have eL:((2:Int)*(ts.length:Int)).toNat=2*ts.length:=by omega
     rw[eL,List.map_id',Zik ts _ at_ _ λk=>by show decide (placeAt ts (0+(k:Int)).toNat=at_)=_;rw[Wb2,Wao]];refine⟨endsBelow ts (2*ts.length) at_,λx hx=>?_,?_,rfl⟩
     ·unfold endsBelow at hx
      obtain⟨e,he,rfl⟩:=Wa1.mp hx;exact⟨e,Wbm.mp (Wck.mp he).1,rfl⟩
     ·unfold endsBelow
      rw[Wab];refine Was (List.length_filter_le _ _) ?_;rw[Wcg];omega
   rintro Δ3 ⟨so,hso,hsl,rfl⟩;refine Zat (Zbs (Za7 (Zaj (Zab rfl (Zof (Zah ⟨by decide,Zpp ⟨_,rfl,?_⟩⟩))))));cases hE:(so.map D.int).isEmpty with
   |true=>
    refine iteT (Zhh (i:=2) rfl ?_);exact Zaq (Zba (Zac (Zab rfl (Zah (Zeu (Or.inl rfl) ⟨_,rfl,q r _ hp2 hr2 (by omega)⟩)))))
   |false=>
   refine iteF (Za6 ?_);have hs1:1<=(so.map D.int).length:=by
    cases so with
    |nil=>cases hE
    |cons _ _=>exact Nat.succ_le_succ (Wbq _)
   refine Zat (Zhu rfl rfl (Zab rfl ⟨_,_,rfl,rfl,by rw[Wab];exact small1000 (by omega),?_⟩));refine Zat (Za2 (Zaj (Zab rfl (Zdy rfl rfl (Zac (Zba (Zac (Zab rfl (Zah (Zcr (Or.inl rfl) (Zah (Zc0 (m:=((so.map D.int).length:Int)) rfl rfl hp2 (by omega) (by rw[Wab];omega) λz p3 hp3 z0 z1=>?_))))))))))));rw[Wab]at z1;obtain⟨x,hx,hat⟩:=Zmd (f:=D.int) z0 z1;obtain⟨e,he,rfl⟩:=hso x (Wah hx);refine Zbk hat ?_;refine Zat (Zhu rfl rfl (Zab rfl ⟨_,_,rfl,rfl,by rw[Wab];exact small1000 (by omega),?_⟩));obtain⟨t',s1,s2,s3⟩:=Zhx (Zek he);rw[Wb2]at s2 s3;have s2':atI (ts.map encTie) ((e:Int) / 2)=some (encTie t'):=by
    rw[show (e:Int) / 2=((partner e:Nat):Int) / 2 by have:=Zew e;omega];exact s2
   have s3':atI [D.int t'.1,D.int t'.2] (1-(e:Int) % 2)=some (.int (placeAt ts (partner e))):=by
    rw[show 1-(e:Int) % 2=((partner e:Nat):Int) % 2 by unfold partner;split <;> omega];exact s3
   refine Zat (Za2 (Zaj (Zaj (Zaj (Zab rfl (Zak (Zan (d:=.tup (ts.map encTie)) rfl (Zaj (Zab rfl (Zak (jr_I ⟨by omega,by omega⟩ (Zan s2' (Zaj (Zak (Zaj (Zab rfl (Zak (jr_I (by show (0:Int)<2;decide) (Zi0 (Zan s3' ?_))))))))))))))))))));have eg:go.map D.int++[D.int at_]=(go++[at_]).map D.int:=by rw[Wa6];rfl
   have er:r.map D.int++[D.int (e:Int)]=(r++[(e:Int)]).map D.int:=by rw[Wa6];rfl
   have hr3:=Zm4 hr2 (e:=(e:Int)) (by omega) (by omega);have l3:(r++[(e:Int)]).length=i+1:=by rw[Wag,hl];rfl
   have g3:(go++[at_]).length=i+1:=by rw[Wag,hg];rfl
   refine Zbs (Zkz (Za7 (Zo8 (Zab rfl ⟨_,go++[at_],_,rfl,by rw[<- eg];rfl,rfl,⟨_,rfl,?_⟩⟩))));by_cases hin:placeAt ts (partner e)∈go++[at_]
   ·show if (if false=true then _ else decide (placeAt ts (partner e)∈go++[at_]))=true then _ else _
    rw[if_neg Wai,decide_eq_true hin];refine iteT (Za7 (Zaj (Zfb rfl rfl hp3 (by decide) (by decide) λz2 p4 hp4 z20 z21=>Zak (Zf1 ⟨_,rfl,?_⟩))));by_cases hz:0<z2
    ·rw[decide_eq_true hz]
     refine iteT (Zhh (i:=2) rfl (Zhh (i:=4) rfl ?_));have hj:(go++[at_]).idxOf (placeAt ts (partner e))<(go++[at_]).length:=List.idxOf_lt_length_of_mem hin;refine Zaq (Zba (Zac (Zlm (Zab rfl (Zfj (Zlx (Zab rfl ⟨go++[at_],by rw[<- eg],by omega,Zab rfl ⟨_,rfl,hin,_,rfl,Zfn ⟨.lst (((r++[(e:Int)]).drop ((go++[at_]).idxOf (placeAt ts (partner e)))).map D.int),?_,?_⟩⟩⟩)))))))
     ·show some (D.lst (cutD (r.map D.int++[D.int (e:Int)]) _ _))=_
      rw[er,Ze4 _ (by rw[Wab];omega),List.map_drop]
     ·exact Zah (Zeu (Or.inl rfl) ⟨_,rfl,q _ _ hp4 (Zmt hr3 _) (by rw[Wa8];omega)⟩)
    ·rw[decide_eq_false hz]
     exact iteF (Za6 ⟨r++[(e:Int)],go++[at_],_,p4,_,_,_,hp4,hr3,l3,g3,by rw[<- eg,<- er];rfl⟩)
   ·show if (if false=true then _ else decide (placeAt ts (partner e)∈go++[at_]))=true then _ else _
    rw[if_neg Wai,decide_eq_false hin];exact iteF (Za6 ⟨r++[(e:Int)],go++[at_],_,p3,_,_,_,hp3,hr3,l3,g3,by rw[<- eg,<- er];rfl⟩)
  ·rintro Δ2 ⟨r,go,at_,p3,x5,x6,x7,hp3,hr2,hl,hg,rfl⟩
   exact⟨r,go,at_,p3,x5,x6,x7,hp3,hr2,by rw[hl,Zby];omega,rfl⟩
 rintro Δ1 ⟨r,go,at_,p2,x5,x6,x7,hp2,hr2,hl,rfl⟩;refine Zhh (i:=2) rfl ?_;exact Zaq (Zba (Zac (Zab rfl (Zah (Zeu (Or.inl rfl) ⟨_,rfl,q r _ hp2 hr2 hl⟩)))))
theorem Znk (mb:Mb mg) (C25:Callee P w K mg base 1 "_law_draw" ["_law_pen_here","_law_many"] (spB K fDraw)) (F:Fun K "_law_given" "_law_given" s_law_given f fd):FnOk P w K mg base CX0 2 f fd ["_law_pen_here","_law_web_here","_law_crossings_here"] (spB K fGiven):=by
 refine F.ok sc_law_given (Zd1 λps ds Post h=>by obtain⟨_,_,_,_,rfl,_⟩:=h;rfl) (λcdv A outer s H vs Q E hr h=>?_);have hu:=Zcu hr;have hv:=Zem hr;refine⟨_,(Zaf (Zg1 (i:=3) ["_law_place"] (show CompSc (defScope s_law_given) ["_law_pen_here","_law_web_here","_law_crossings_here","_law_given_here","_law_turn","_law_tie","_law_pair"] _ ["_law_pen_here"] [0] from ⟨rfl,by decide +kernel,by decide +kernel,by decide +kernel,rfl,by decide +kernel⟩) rfl sc_law_given.nd rfl (Or.inl rfl) (Zbw rfl (mb "range" (by decide)) (Zaa (Zau (ixK K hu) (pv 1) Zad (λ_ _=>rfl)) Zae)) (λ_ _ _ _ _=>(Zav (i:=0) (show List.Nodup (["_law_place","_law_pen_here"]:List Str) from by decide) rfl (Or.inl rfl))) (λ_ _ _ _ _=>Zck) (λ_ _ _ _ _=>(Zaw Zdl (Zbe C25 (hr.mono (by decide)) (Zaa (pv 1) (Zaa Zad Zae))) (Zbe C25 (hr.mono (by decide)) (Zaa (pv 1) (Zaa Zad Zae)))))) (Zaf (Zct PassesOwn.never rfl (Zbw rfl (mb "range" (by decide)) (Zaa (Zau (ixK K hu) (pv 1) Zad (λ_ _=>rfl)) Zae)) (Zav (i:=4) sc_law_given.nd rfl (Or.inl rfl)) (Zal (Zct PassesOwn.never rfl (Zch K rfl (mb "enumerate" (by decide)) (Zaa (Zau (ixK K hu) (pv 1) Zad (λ_ _=>rfl)) Zae)) (gtupK (n:=2) K rfl (Zbb (Zav (i:=5) sc_law_given.nd rfl (Or.inl rfl)) (Zbb (Zav (i:=6) sc_law_given.nd rfl (Or.inl rfl)) Zcp))) (Zal (Zbr (Zaz Zmh (Zau (ixK K hu) (pv 6) Zad (λ_ _=>rfl)) (Zau (ixK K hu) (pv 6) Zad (λ_ _=>rfl)) (nomark _)) (Zal (Zfp (Zaw Zbu (Zaw (addK K) (Zau (ixK K hu) (pv 3) (Zau (ixK K hu) (pv 6) Zad (λ_ _=>rfl)) (λ_ _=>rfl)) (Zau (ixK K hu) (pv 2) (pv 5) (λ_ _=>rfl))) Zad) (Zhq (pv 3) (Zau (ixK K hu) (pv 6) Zad (λ_ _=>rfl)) (setU hu)))) Za5))))) (Zal (Za4 (Zb3 (tupK K) rfl (mb "tuple" (by decide)) Zb4 (Zaa (pv 3) Zae)))))),Zip (λps ds Post hf=>?_) h⟩;obtain⟨hp,n,ts,cs,rfl,hW,hC,q⟩:=hf;refine⟨by simp,?_⟩;dsimp only[cxOf,startD,Wbg,Wbn,Wa7,Waw];have hw:=hW.len;have n1:=hW.lo;have n2:=hW.hi;refine Zbc (λΔ=>∃(gs:List Int) (p1:List D),Pen p1/\(gs.length:Int)=n/\(∀x∈gs,0<=x/\x<=1) /\ Δ = [.bor (.lst p1),.val (encWeb n ts),.val (encRow cs),.own (.lst (gs.map .int)),.any,.any,.any]) ?_ ?_
 ·refine Zdp (Ziz (by decide) (Zbt (Zac (Zaj (Zab rfl (Zak (Zan (d:=.int n) rfl (Zah ⟨_,rfl,by omega,by omega,?_,λi ys Δ=>∃(gs:List Int) (psx:List D) (x:L2.Slot),Pen psx/\gs.length=i/\(∀x∈gs,0<=x/\x<=1)/\ys=gs.map .int /\ Δ = [x,.bor (.lst psx)],?_,?_,?_⟩))))))))
  ·rw[Zby];exact small1000 (by omega)
  ·exact⟨[],ps,.any,hp,rfl,λx hx=>(nomatch hx),rfl,rfl⟩
  ·rintro i d ys Δ2 hd ⟨gs,psx,x,hpx,hl,hb,rfl,rfl⟩
   refine Zc8 (by decide) (Zci ?_);rw[if_pos rfl];refine Zaj (Zfb rfl rfl hpx (by decide) (by decide) λa p1 hp1 a0 a1=>Zfb rfl rfl hp1 (by decide) (by decide) λb p2 hp2 b0 b1=>?_);refine jr_I (Or.inl ⟨by omega,by omega⟩) ?_;refine⟨gs++[a*b],p2,.val d,hp2,by rw[Wag,hl];rfl,λy hy=>?_,by rw[Wa6];rfl,rfl⟩;rcases Waz.mp hy with z|z
   ·exact hb y z
   ·rw[Wa5.mp z]
    rcases(show a=0\/a=1 by omega) with rfl|rfl <;> rcases(show b=0\/b=1 by omega) with rfl|rfl <;> decide
  ·rintro ys Δ2 ⟨gs,psx,x,hpx,hl,hb,rfl,rfl⟩
   rw[Zby]at hl;exact⟨gs,psx,hpx,by omega,hb,rfl⟩
 rintro Δ1 ⟨gs,p1,hp1,hgl,hgb,rfl⟩;refine Zbc (λΔ=>∃(gs:List Int) (x4 x5 x6:L2.Slot),(gs.length:Int)=n/\(∀x∈gs,0<=x/\x<=1) /\ Δ = [.bor (.lst p1),.val (encWeb n ts),.val (encRow cs),.own (.lst (gs.map .int)),x4,x5,x6]) ?_ ?_
 ·refine Zcv (Zbt (Zac (Zaj (Zab rfl (Zak (Zan (d:=.int n) rfl (Zah ⟨_,rfl,by omega,by omega,λi Δ=>∃(gs:List Int) (x4 x5 x6:L2.Slot),(gs.length:Int)=n/\(∀x∈gs,0<=x/\x<=1) /\ Δ = [.bor (.lst p1),.val (encWeb n ts),.val (encRow cs),.own (.lst (gs.map .int)),x4,x5,x6],⟨gs,_,_,_,hgl,hgb,rfl⟩,?_,λΔ h=>h⟩)))))))
  rintro i d Δ2 hd ⟨gs,x4,x5,x6,hgl,hgb,rfl⟩;refine Zbl (Zcv (Zfi (Zac (Zaj (Zab rfl (Zak (Zan (d:=.tup (ts.map encTie)) rfl (Zah ⟨_,Or.inr rfl,λi Δ=>∃(gs:List Int) (x4 x5 x6:L2.Slot),(gs.length:Int)=n/\(∀x∈gs,0<=x/\x<=1) /\ Δ = [.bor (.lst p1),.val (encWeb n ts),.val (encRow cs),.own (.lst (gs.map .int)),x4,x5,x6],⟨gs,_,_,_,hgl,hgb,rfl⟩,?_,λΔ h=>h⟩))))))));rintro i d Δ2 hd ⟨gs,x4,x5,x6,hgl,hgb,rfl⟩;obtain⟨t,ht,rfl⟩:=Zdn hd;have hi:=(Waj.mp ht).1;have tb:=hW.tie t (Wah ht);obtain⟨c,c1,c2,c3⟩:=hC.at hi;have a1:atI (cs.map D.int) (i:Int)=some (.int c):=Zb6 (by rw[Wad,c1];rfl);have b1:=Zbn (l:=gs) rfl tb.1 (by omega);have hx1:gs.getD t.1.toNat 0∈gs:=by
   rw[Wae,Wac (by omega:t.1.toNat<gs.length)];exact Wa9 _
  have hb1:=hgb _ hx1;refine Zey rfl (Zbh (Zbl (Zbh (Zbl (Zdh ?_)))));refine Zbs (Za7 (Zaj (Zaj (Zab rfl (Zak (Zan (d:=.int t.1) rfl (Zaj (Zab rfl (Zak (Zan (d:=.int t.2) rfl (Zf1 ⟨_,rfl,?_⟩)))))))))));refine ite2 (λ_=>?_) (λ_=>Za6 ⟨gs,_,_,_,hgl,hgb,rfl⟩);refine Zgo (Zaj (Zaj (Zd3 rfl rfl (Zaj (Zab rfl (Zak (Zan (d:=.int t.1) rfl ⟨_,_,_,_,rfl,rfl,rfl,b1,?_⟩)))))));refine Zaj (Zab rfl (Zab rfl (Zan a1 (Zc7 (Zak (jr_I (by show (0:Int)<2;decide) ?_))))));refine⟨⟨_,_,rfl,rfl⟩,Zaj (Zab rfl (Zak (Zan (d:=.int t.2) rfl ⟨_,_,_,t.2.toNat,rfl,rfl,rfl,?_,?_⟩)))⟩
  ·rw[show t.2=((t.2.toNat:Nat):Int) by omega]
   exact Zov (by rw[Wab];omega)
  ·refine⟨gs.set t.2.toNat ((gs.getD t.1.toNat 0+c) % 2),x4,.val (.int i),.val (encTie t),by rw[List.length_set];exact hgl,λx hx=>?_,?_⟩
   ·rcases List.mem_or_eq_of_mem_set hx with z|z
    ·exact hgb x z
    ·rw[z];omega
   ·rw[List.map_set];rfl
 rintro Δ1 ⟨gs,x4,x5,x6,hgl,hgb,rfl⟩;refine Zhh (i:=3) rfl ?_;exact Zaq (Zba (Zac (Zab rfl (Zah (Zeu (Or.inl rfl) ⟨_,rfl,q gs _ hp1 (λx hx=>by have:=hgb x hx;omega) (by omega)⟩)))))
theorem Zlc:∀(l:List Nat) (b:Nat),(∀x∈l,x<=b)->l.sum<=l.length*b
 |[],_,_=>by simp
 |x::l,b,h=>by
  have:=Zlc l b λy hy=>h y (Wat _ hy);have:=h x Wau;rw[List.sum_cons,Wbk,Nat.succ_mul];omega
theorem Zlt {i:Int}(h1:0<=i) (h2:i<=100):(D.pd (.int i)).shown.length<=13:=PyData.shown_int_le2 (by omega) (by omega)
theorem Zel:∀ds:List D,D.pds ds=ds.map D.pd
 |[]=>rfl
 |d::ds=>by show D.pd d::D.pds ds=_;rw[Zel ds];rfl
theorem Zd8:∀xs:List PyData,PyData.shownAll xs=xs.map PyData.shown
 |[]=>rfl
 |x::xs=>by show x.shown::PyData.shownAll xs=_;rw[Zd8 xs];rfl
theorem Zlr {xs:List PyData}{b:Nat}(h:∀x∈xs,x.shown.length<=b):(PyData.list xs).shown.length<=xs.length*b+2*xs.length+3:=by
 show (listText (PyData.shownAll xs)).length<=_;have h1:=listText_len_le (PyData.shownAll xs);rw[Zd8]at h1 ⊢;rw[Wbf,Wab]at h1;have h2:=Zlc (xs.map ((λs:Str=>s.length)∘PyData.shown)) b λy hy=>by
  obtain⟨x,hx,rfl⟩:=Wa1.mp hy;exact h x hx
 rw[Wab]at h2;omega
theorem Zml {xs:List PyData}{b:Nat}(h:∀x∈xs,x.shown.length<=b):(PyData.tuple xs).shown.length<=xs.length*b+2*xs.length+3:=by
 show (tupleText (PyData.shownAll xs)).length<=_;have h1:=tupleText_len_le (PyData.shownAll xs);rw[Zd8]at h1 ⊢;rw[Wbf,Wab]at h1;have h2:=Zlc (xs.map ((λs:Str=>s.length)∘PyData.shown)) b λy hy=>by
  obtain⟨x,hx,rfl⟩:=Wa1.mp hy;exact h x hx
 rw[Wab]at h2;omega
theorem Zk2:∀{ds:List D},(∀d∈ds,d.shw=true)->D.shws ds=true
 |[],_=>rfl
 |d::ds,h=>by
  show (d.shw && D.shws ds)=true;rw[h d Wau,Zk2 λe he=>h e (Wat _ he)];rfl
theorem Zgp:∀{xs:List PyData}{k:Nat},(∀x∈xs,x.depth<=k)->PyData.depthAll xs<=k
 |[],_,_=>Wbq _
 |x::xs,k,h=>by
  have h1:=h x Wau;have h2:=Zgp (xs:=xs) (k:=k) λy hy=>h y (Wat _ hy);simp only[PyData.depthAll];omega
structure El (x:D):Prop where
 ty:∃T,tyD x=some T
 sh:x.shU
 dp:x.pd.depth<=10
 sz:x.pd.shown.length<=400
theorem Zer {i:Int}(h1:-1000000000000000000000000000000000000000000000000000000000000<=i) (h2:i<=1000000000000000000000000000000000000000000000000000000000000):El (.int i):=⟨⟨_,rfl⟩,.inl (.inl (decide_eq_true (Zok h1 h2))),by show 0<=10;decide,by
 show (Str.ofString (toString i)).length<=400;have e:=int_text_length_le10 (k:=61) (by decide) (a:=i) (Wbj (show i.natAbs<=1000000000000000000000000000000000000000000000000000000000000 by omega) (by decide));rw[ofString_length];omega⟩
def shB' (x:D):Bool:=x.shw && (decide (x.pd.depth<=10) && decide (x.pd.shown.length<=400))
theorem el_b {x:D}(T:String) (h:tyD x=some T) (s:shB' x=true):El x:=by
 unfold shB' at s;simp only[Wbd,decide_eq_true_eq]at s;exact⟨⟨T,h⟩,.inl (.inl s.1),s.2.1,s.2.2⟩
theorem Zn1:El (.dct [] []):=⟨⟨_,rfl⟩,.inl (.inr ⟨[],[],rfl,λ_ h=>(nomatch h),λ_ h=>(nomatch h)⟩),by decide,by decide⟩
theorem Znr {xs:List D}{z:Int}(h0:0<=z) (h1:z<(xs.length:Int)):∃x,atI xs z=some x/\x∈xs:=by
 have hz:z.toNat<xs.length:=by omega
 refine⟨xs[z.toNat],?_,Wa9 hz⟩;have:=Zb6 (xs:=xs) (j:=z.toNat) (v:=xs[z.toNat]) (Wac hz);rw[Wcx h0]at this;exact this
theorem addT60 {K:W.Frag}{Δ:Evt}{ds es:List D}(a b:Nat) (h1:ds.length<=a) (h2:es.length<=b) (h:a+b<=1000):PR2 K (rAddU K) (.tup ds) (.tup es) Δ (.tup (ds++es)):=Zpm (Wb1 (small1000 (by omega)))
theorem Zev:1<=sizeLine:=by decide
theorem Ziv {ds es:List D}{a b:Nat}(h1:ds.length<=a) (h2:es.length<=b):(ds++es).length<=a+b:=by rw[Wag];omega
theorem cut3 (ds:List D) (k:Int) (h0:0<=k) (h1:k<=(ds.length:Int)):(cutD ds none (some k)++cutD ds (some k) (some (k+1))++cutD ds (some k) none).length<=ds.length+1:=by
 obtain⟨j,rfl⟩:∃j:Nat,k=(j:Int):=⟨k.toNat,by omega⟩;have hj:j<=ds.length:=by omega
 rw[Wag,Wag,Zlw _ hj,Ze4 _ hj,Wav,Wa8];have:(cutD ds (some (j:Int)) (some ((j:Int)+1))).length<=1:=by
  unfold cutD;rw[show (j:Int)+1=((j+1:Nat):Int) by omega,HT.sIx_nat,HT.sIx_nat,Wav];omega
 omega
def Sg (x:PySem.Str):Prop:=∀c∈x.cps.toList,c<16 ^ 8
theorem Zm0 (s:String):Sg (PySem.Str.ofString s):=by
 intro c hc;rw[PySem.Str.ofString_eq_toList]at hc;have hc:c∈s.toList.map Char.toNat:=by simpa using hc
 obtain⟨a,_,rfl⟩:=Wa1.mp hc;have h:a.toNat<1114112:=by
  have:=a.valid;unfold UInt32.isValidChar Nat.isValidChar at this;have e:a.toNat=a.val.toNat:=rfl;omega
 exact Wc1 h (by decide)
theorem Zji {x y:PySem.Str}(hx:Sg x) (hy:Sg y):Sg (x++y):=by
 intro c hc;have hc:c∈(x.cps++y.cps).toList:=hc;rw[Array.toList_append,Waz]at hc;exact hc.elim (hx c) (hy c)
theorem Zki {sep:PySem.Str}(hs:Sg sep):∀{zs:List PySem.Str},(∀z∈zs,Sg z)->Sg (PySem.Str.join sep zs)
 |[],_=>λc hc=>by
  have hc:c∈([]:List Nat):=hc;cases hc
 |[x],h=>h x Wau
 |x::y::r,h=>Zji (Zji (h x Wau) hs) (Zki hs λz hz=>h z (Wat _ hz))
theorem Zr4 (ns:List Int):Sg (D.pd (.tup (ns.map D.int))).shown:=by
 show Sg (tupleText (PyData.shownAll (D.pds (ns.map D.int))));refine Zji (Zji (Zm0 _) (Zki (Zm0 _) λz hz=>?_)) (Zm0 _);rw[Zd8,Zel]at hz;obtain⟨d,hd,rfl⟩:=Wa1.mp hz;obtain⟨e,he,rfl⟩:=Wa1.mp hd;obtain⟨i,_,rfl⟩:=Wa1.mp he;exact Zm0 _
structure Th (n B:Nat) (x:D):Prop where
 ty:TyN n x
 sh:shD n x
 dp:x.pd.depth<=10+n
 sz:x.pd.shown.length<=B
theorem Zp5 {x:D}(h:x.shU):∀n,shD n x
 |0=>h
 |_+1=>.inl h
theorem Zsg {x:D}(h:El x):Th 0 400 x:=⟨h.ty,h.sh,h.dp,h.sz⟩
theorem Zp0 {x:D}(h:∃T,tyD x=some T) (hn:isTup x=false):∀n,TyN n x
 |0=>h
 |_+1=>⟨h,λds e=>by subst e;cases hn⟩
theorem Zix {x:D}{n:Nat}(h:El x) (hn:isTup x=false):Th n 400 x:=⟨Zp0 h.ty hn n,Zp5 h.sh n,Was h.dp (Nat.le_add_right _ _),h.sz⟩
theorem Th.up {n B B':Nat}{x:D}(h:Th n B x) (hb:B<=B'):Th n B' x:=⟨h.ty,h.sh,h.dp,Was h.sz hb⟩
theorem Zla {n B:Nat}{ds:List D}(h:∀x∈ds,Th n B x):PyData.depthAll (D.pds ds)<=10+n:=Zgp λx hx=>by
 rw[Zel]at hx;obtain⟨d,hd,rfl⟩:=Wa1.mp hx;exact(h d hd).dp
theorem Zkh {n B m:Nat}{ds:List D}(hl:ds.length<=m) (h:∀x∈ds,Th n B x):(PyData.tuple (D.pds ds)).shown.length<=m*B+2*m+3/\(PyData.list (D.pds ds)).shown.length<=m*B+2*m+3:=by
 have hb:∀x∈D.pds ds,x.shown.length<=B:=λx hx=>by
  rw[Zel]at hx;obtain⟨d,hd,rfl⟩:=Wa1.mp hx;exact(h d hd).sz
 have h1:=Zml hb;have h2:=Zlr hb;have e:(D.pds ds).length=ds.length:=by rw[Zel,Wab]
 rw[e]at h1 h2;have:=Nat.mul_le_mul_right B hl;omega
theorem Zc4 {n B m B':Nat}{ds:List D}(hm:m<=60) (hl:ds.length<=m) (h:∀x∈ds,Th n B x) (hb:m*B+2*m+3<=B'):Th (n+1) B' (.tup ds) where
 ty:=⟨⟨_,rfl⟩,λds' e=>by cases e;exact⟨Was hl hm,λx hx=>(h x hx).ty⟩⟩
 sh:=.inr ⟨ds,.inl rfl,λx hx=>(h x hx).sh⟩
 dp:=by show PyData.depthAll (D.pds ds)+1<=_;have:=Zla h;omega
 sz:=Was (Zkh hl h).1 hb
theorem Zll {n B m B':Nat}{ds:List D}(hl:ds.length<=m) (h:∀x∈ds,Th n B x) (hb:m*B+2*m+3<=B'):Th (n+1) B' (.lst ds) where
 ty:=⟨⟨_,rfl⟩,λds' e=>by cases e⟩
 sh:=.inr ⟨ds,.inr rfl,λx hx=>(h x hx).sh⟩
 dp:=by show PyData.depthAll (D.pds ds)+1<=_;have:=Zla h;omega
 sz:=Was (Zkh hl h).2 hb
theorem Zsh {n:Nat}{i:Int}(h0:0<=i) (h1:i<=100):Th n 13 (.int i):=⟨Zp0 ⟨_,rfl⟩ rfl n,Zp5 (Zer (by omega) (by omega)).sh n,Wbq _,Zlt h0 h1⟩
theorem Zqw {n B:Nat}{ds:List D}(h:∀x∈ds,Th n B x) (lo hi:Option Int):∀x∈cutD ds lo hi,Th n B x:=λx hx=>h x (Zon hx)
theorem Zfu {n B:Nat}{ds es:List D}(h1:∀x∈ds,Th n B x) (h2:∀x∈es,Th n B x):∀x∈ds++es,Th n B x:=λx hx=>(Waz.mp hx).elim (h1 x) (h2 x)
theorem Zkp {n B:Nat}{x:D}(h:Th n B x):∀y∈[x],Th n B y:=λy hy=>by rw[Wa5.mp hy];exact h
end
theorem Zr8 (ds:List D) (k:Int) (h0:0<=k) (h1:k<=(ds.length:Int)):(cutD ds none (some k)).length+(cutD ds (some (k+1)) none).length<=ds.length/\(cutD ds none (some k)).length+(cutD ds (some k) none).length<=ds.length:=by
 obtain⟨j,rfl⟩:∃j:Nat,k=(j:Int):=⟨k.toNat,by omega⟩;have hj:j<=ds.length:=by omega
 rw[Zlw _ hj,Ze4 _ hj,Wav,Wa8];have:(cutD ds (some ((j:Int)+1)) none).length<=ds.length-j:=by
  unfold cutD;rw[show (j:Int)+1=((j+1:Nat):Int) by omega,HT.sIx_nat,Wav,Wa8];omega
 omega
theorem Zpn {n:Nat}{x:PySem.Str}(h:x.length<=600) (hs:Sg x):Th n 6002 (.str x):=⟨Zp0 ⟨_,rfl⟩ rfl n,Zp5 (.inl (.inl rfl)) n,Wbq _,by
 show (reprText x).length<=6002;have:=StrLaws.reprText_len x hs;omega⟩
theorem Zn2 {n:Nat}{r:List Int}(h:RowE r):∀x∈r.map D.int,Th n 13 x:=λx hx=>by
 obtain⟨i,hi,rfl⟩:=Wa1.mp hx;have:=h i hi;exact Zsh this.1 this.2
theorem Znh {n:Nat}{r:List Int}(hl:r.length<=36) (h:RowE r):Th (n+1) 600 (encRow r):=Zc4 (m:=36) (by decide) (by rw[Wab];exact hl) (Zn2 h) (by decide)
theorem Zra {r:List Int}(hl:r.length<=36) (h:RowE r):Th 0 600 (encRow r):=by
 have b:=Znh (n:=0) hl h;refine⟨⟨_,rfl⟩,.inl (.inl ?_),?_,b.sz⟩
 ·show D.shws (r.map D.int)=true
  refine Zk2 λd hd=>?_;obtain⟨x,hx,rfl⟩:=Wa1.mp hd;have:=h x hx;exact decide_eq_true (Zok (i:=x) (by omega) (by omega))
 ·show PyData.depthAll (D.pds (r.map D.int))+1<=10
  have:PyData.depthAll (D.pds (r.map D.int))<=0:=Zgp λx hx=>by
   rw[Zel]at hx;obtain⟨d,hd,rfl⟩:=Wa1.mp hx;obtain⟨i,_,rfl⟩:=Wa1.mp hd;exact Waf _
  omega
theorem Zrg {n B:Nat}{d:D}(h:Th n B d) (hn:n<=10) (hB:B<=16777216):RepV d where
 kind:=by
  have hu:d.shU->d.shT\/∃n,(∃e es,d=.lst (e::es)/\∀x∈e::es,shD n x)\/∃ds,d=.tup ds/\∀x∈ds,shD n x:=λh=>by
   rcases h with h|⟨x,rfl⟩
   ·exact .inl h
   ·refine .inr ⟨0,.inr ⟨_,rfl,λy hy=>?_⟩⟩
    rcases Wan.mp hy with rfl|hy
    ·exact .inl (.inl rfl)
    ·rw[Wa5.mp hy]
     exact .inl (.inr ⟨[],[],rfl,λ_ h=>(nomatch h),λ_ h=>(nomatch h)⟩)
  cases n with
  |zero=>exact hu h.sh
  |succ n=>
   rcases h.sh with z|⟨ds,rfl|rfl,z⟩
   ·exact hu z
   ·exact .inr ⟨n,.inr ⟨ds,rfl,z⟩⟩
   ·cases ds with
    |nil=>exact .inl (.inl rfl)
    |cons e es=>exact .inr ⟨n,.inl ⟨e,es,rfl,z⟩⟩
 deep:=Was h.dp (by omega)
 size:=Was h.sz (by rw[sizeLine_eq];exact hB)
def fBent24:BSp:=λps ds Post=>Pen ps/\∃(r:List Int) (m:Int),ds=[encRow r,.int m]/\RowE r/\r.length<=36/\0<=m/\m<=100/\∀d ps',Pen ps' -> Th 1 24200 d->Post d ps'
section
variable {P:Program}{w:World}{K:W.Frag}{mg:Str->Option Value}{base:Heap}{f:Addr}{fd:FuncData}
theorem Zl0 (mb:Mb mg) (C25:Callee P w K mg base 1 "_law_draw" ["_law_pen_here","_law_many"] (spB K fDraw)) (F:Fun K "_law_bent" "_law_bent" s_law_bent f fd):FnOk P w K mg base CX0 2 f fd ["_law_pen_here","_law_row","_law_limit"] (spB K fBent24):=by
 refine F.ok sc_law_bent (Zd1 λps ds Post h=>by obtain⟨_,_,_,rfl,_⟩:=h;rfl) (λcdv A outer s H vs Q E hr h=>?_);have hu:=Zcu hr;refine⟨_,(by (refine' Zaf ?s ?r); (case s=>exact(Zax (i:=3) sc_law_bent.nd rfl (Or.inl rfl) (Zbe C25 (hr.mono (by decide)) (Zaa (pv 0) (Zaa (Zaw Znz Zad Zad) Zae))))); (case r=>exact(by (refine' Zaf ?s ?r); (case s=>exact(Zax (i:=4) sc_law_bent.nd rfl (Or.inl rfl) (Zbe C25 (hr.mono (by decide)) (Zaa (pv 0) (Zaa (Zaw (addK K) (Zao (lenK K) rfl (mb "len" (by decide)) Zc5 (Zaa (pv 1) Zae)) Zad) Zae))))); (case r=>exact(by (refine' Zaf ?s ?r); (case s=>exact(by (refine' @Zax _ _ 5 _ _ _ _ sc_law_bent.nd rfl (Or.inl rfl) ?e1 rfl (by first|exact .inl rfl|exact .inr rfl|assumption)); (case e1=>exact(@Zb9 (Zam P w K mg base f cdv A outer s H E) _ _ _  (@Zaa (Zam P w K mg base f cdv A outer s H E) _ _ _ _ (pv 2) (@Zaa (Zam P w K mg base f cdv A outer s H E) _ _ _ _ (Zaw Zes Zad Zad) (@Zaa (Zam P w K mg base f cdv A outer s H E) _ _ _ _ (Zaw (addK K) (pv 2) (pv 3)) (@Zaa (Zam P w K mg base f cdv A outer s H E) _ _ _ _ (Zaw Zes (Zaw Zes Zad Zad) (pv 3)) (@Zaa (Zam P w K mg base f cdv A outer s H E) _ _ _ _ Zc2 (@Zaa (Zam P w K mg base f cdv A outer s H E) _ _ _ _ Zc2 (@Zaa (Zam P w K mg base f cdv A outer s H E) _ _ _ _ Zi9 (@Zaa (Zam P w K mg base f cdv A outer s H E) _ _ _ _ Zcy (@Zaa (Zam P w K mg base f cdv A outer s H E) _ _ _ _ Zcy (@Zaa (Zam P w K mg base f cdv A outer s H E) _ _ _ _ (@Zbi (Zam P w K mg base f cdv A outer s H E) _ _ _ _ (@Zaa (Zam P w K mg base f cdv A outer s H E) _ _ _ _ Zad Zae (@Zbd _ _ _ _ _))) (@Zaa (Zam P w K mg base f cdv A outer s H E) _ _ _ _ (@Zb9 (Zam P w K mg base f cdv A outer s H E) _ _ _  (@Zaa (Zam P w K mg base f cdv A outer s H E) _ _ _ _ Zad Zae (@Zbd _ _ _ _ _))) (@Zaa (Zam P w K mg base f cdv A outer s H E) _ _ _ _ Zgl (@Zaa (Zam P w K mg base f cdv A outer s H E) _ _ _ _ Zad (@Zaa (Zam P w K mg base f cdv A outer s H E) _ _ _ _ Zad Zae (@Zbd _ _ _ _ _)) (@Zbd _ _ _ _ _)) (@Ze7 _ _ _ _ _)) (@Zfm _ _ _ _)) (@Zce _ _ _ _ _)) (@Zbd _ _ _ _ _)) (@Zbd _ _ _ _ _)) (@Zbd _ _ _ _ _)) (@Zbd _ _ _ _ _)) (@Zbd _ _ _ _ _)) (@Zdb _ _ _ _ _ _)) (@Zdb _ _ _ _ _ _)) (@Zdb _ _ _ _ _ _)) (@Za8 _ _ _ _)))))); (case r=>exact(by (refine' Zaf ?s ?r); (case s=>exact(Zax (i:=6) sc_law_bent.nd rfl (Or.inl rfl) (Zau (ixK K hu) (pv 5) (Zbe C25 (hr.mono (by decide)) (Zaa (pv 0) (Zaa Zad Zae))) (λ_ _=>rfl)))); (case r=>exact(by (refine' Zaf ?s ?r); (case s=>exact(by (refine' @Zax _ _ 7 _ _ _ _ sc_law_bent.nd rfl (Or.inl rfl) ?e2 rfl (by first|exact .inl rfl|exact .inr rfl|assumption)); (case e2=>exact(@Zb9 (Zam P w K mg base f cdv A outer s H E) _ _ _  (@Zaa (Zam P w K mg base f cdv A outer s H E) _ _ _ _ (Zaw (addK K) (Zaw (addK K) (Zbq (slK K) (pv 1) Zcj (Zb1 (pv 4))) (@Zbi (Zam P w K mg base f cdv A outer s H E) _ _ _ _ (@Zaa (Zam P w K mg base f cdv A outer s H E) _ _ _ _ (pv 6) Zae (@Za8 _ _ _ _)))) (Zbq (slK K) (pv 1) (Zb1 (Zaw (addK K) (pv 4) Zad)) Zcj)) (@Zaa (Zam P w K mg base f cdv A outer s H E) _ _ _ _ (Zaw (addK K) (Zbq (slK K) (pv 1) Zcj (Zb1 (pv 4))) (Zbq (slK K) (pv 1) (Zb1 (Zaw (addK K) (pv 4) Zad)) Zcj)) (@Zaa (Zam P w K mg base f cdv A outer s H E) _ _ _ _ (Zaw (addK K) (Zaw (addK K) (Zbq (slK K) (pv 1) Zcj (Zb1 (pv 4))) (Zbq (slK K) (pv 1) (Zb1 (pv 4)) (Zb1 (Zaw (addK K) (pv 4) Zad)))) (Zbq (slK K) (pv 1) (Zb1 (pv 4)) Zcj)) Zae (@Zdb _ _ _ _ _ _)) (@Zdb _ _ _ _ _ _)) (@Zdb _ _ _ _ _ _)))))); (case r=>exact(by (refine' Zaf ?s ?r); (case s=>exact(by (refine' @Zax _ _ 7 _ _ _ _ sc_law_bent.nd rfl (Or.inl rfl) ?e3 rfl (by first|exact .inl rfl|exact .inr rfl|assumption)); (case e3=>exact(Zaw (addK K) (pv 7) (@Zb9 (Zam P w K mg base f cdv A outer s H E) _ _ _  (@Zaa (Zam P w K mg base f cdv A outer s H E) _ _ _ _ (Zb3 (lstK K) (by rfl) (mb "list" (by decide)) Zkg (Zaa (pv 1) Zae)) (@Zaa (Zam P w K mg base f cdv A outer s H E) _ _ _ _ Zi9 (@Zaa (Zam P w K mg base f cdv A outer s H E) _ _ _ _ (Zb3 (strAK K hr.gd (Zsk hr)) (by rfl) (mb "str" (by decide)) Zn4 (Zaa (pv 1) Zae)) (@Zaa (Zam P w K mg base f cdv A outer s H E) _ _ _ _ Zad (@Zaa (Zam P w K mg base f cdv A outer s H E) _ _ _ _ (slRK K (pv 1)) (@Zaa (Zam P w K mg base f cdv A outer s H E) _ _ _ _ (Zaw (addK K) (Zaw (addK K) (Zbq (slK K) (pv 1) Zcj (Zb1 (pv 4))) (@Zbi (Zam P w K mg base f cdv A outer s H E) _ _ _ _ (@Zaa (Zam P w K mg base f cdv A outer s H E) _ _ _ _ (pv 6) Zae (@Za8 _ _ _ _)))) (Zbq (slK K) (pv 1) (Zb1 (pv 4)) Zcj)) (@Zaa (Zam P w K mg base f cdv A outer s H E) _ _ _ _ (Zbi Zae) (@Zaa (Zam P w K mg base f cdv A outer s H E) _ _ _ _ (@Zbi (Zam P w K mg base f cdv A outer s H E) _ _ _ _ (@Zaa (Zam P w K mg base f cdv A outer s H E) _ _ _ _ (pv 1) Zae (@Za8 _ _ _ _))) (@Zaa (Zam P w K mg base f cdv A outer s H E) _ _ _ _ Zc2 Zae (@Zbd _ _ _ _ _)) (@Zce _ _ _ _ _)) (@Zce _ _ _ _ _)) (@Zdb _ _ _ _ _ _)) (@Znb _ _ _ _ _)) (@Zbd _ _ _ _ _)) (@Zhf _ _ _ _ _ _)) (@Zbd _ _ _ _ _)) (@Zhf _ _ _ _ _ _))))))); (case r=>exact(Zal (Za4 (Zau (ixK K hu) (pv 7) (Zbe C25 (hr.mono (by decide)) (Zaa (pv 0) (Zaa Zad Zae))) (λ_ _=>rfl)))))))))))))))),Zip (λps ds Post hf=>?_) h⟩
 obtain⟨hp,ns,m,rfl,hR,hrl,m0,m1,q⟩:=hf;refine⟨by simp,?_⟩;dsimp only[cxOf,startD,Wbg,Wbn,Wa7,Waw];have nl:(ns.map D.int).length<=36:=by rw[Wab];exact hrl
 have ei:∀x∈ns.map D.int,Th 0 400 x:=λx hx=>(Zn2 hR x hx).up (by decide);have ec:=Zqw ei;have cl:∀lo hi,(cutD (ns.map D.int) lo hi).length<=36:=λlo hi=>Was (Zpt _ _ _) nl;have r0:=Zra hrl hR;have r1:=Znh (n:=0) hrl hR;unfold encRow at *;refine Zat (Za2 (Zdy rfl rfl (Zac (Zdx (Zbz Zbg Zbg (pr_I ⟨by decide,by decide,by decide⟩)) (Zah (Zc0 (m:=10 ^ (30:Int).toNat) rfl rfl hp (by decide) (by decide) λfar p1 hp1 f0 f1=>?_))))));have f1:far<1000000000000000000000000000000:=f1;refine Zat (Za2 (Zdy rfl rfl (Zac (Zdx (Zbz (Zk3 (Zap rfl)) Zbg Zdj) (Zah (Zc0 (m:=((ns.map D.int).length:Int)+1) rfl rfl hp1 (by omega) (by omega) λat_ p2 hp2 a0 a1=>?_))))));obtain⟨cb1,cb2⟩:=Zr8 (ns.map D.int) at_ a0 (by omega);refine Zbc (λΔ=>∃ys:List D,ys.length=14/\(∀y∈ys,El y) /\ Δ = [.bor (.lst p2),.val (.tup (ns.map D.int)),.val (.int m),.val (.int far),.val (.int at_),.val (.lst ys),.any,.any]) ?_ ?_
 ·refine Za2 (Zdx (Zdo (Zag (Zap rfl) (Zag (Zbz Zbg Zbg Zna) (Zag (Zbz (Zap rfl) (Zap rfl) Zdj) (Zag (Zbz (Zbz Zbg Zbg Zna) (Zap rfl) Zna) (Zag Zmx (Zag Zmx (Zag Zjg (Zag Zec (Zag Zec (Zag (Zbv (Zag Zbg Za1) Zev) (Zag (Zdo (Zag Zbg Za1) Zev) (Zag Zi4 (Zag Zbg (Zag Zbg Za1)))))))))))))) (by show 14<=sizeLine;decide)) ⟨_,rfl,?_,rfl⟩)
  intro y hy;simp only[Wan,Waq,or_false]at hy;rcases hy with rfl|rfl|rfl|rfl|rfl|rfl|rfl|rfl|rfl|rfl|rfl|rfl|rfl|rfl
  ·exact Zer (by omega) (by omega)
  ·exact Zer (by omega) (by omega)
  ·exact Zer (by omega) (by omega)
  ·exact Zer (by omega) (by omega)
  ·exact el_b "bool" rfl (by decide +kernel)
  ·exact el_b "bool" rfl (by decide +kernel)
  ·exact el_b "NoneType" rfl (by decide +kernel)
  ·exact el_b "str" rfl (by decide +kernel)
  ·exact el_b "str" rfl (by decide +kernel)
  ·exact el_b "tuple" rfl (by decide +kernel)
  ·exact el_b "list" rfl (by decide +kernel)
  ·exact Zn1
  ·exact Zer (by omega) (by omega)
  ·exact Zer (by omega) (by omega)
 rintro Δ1 ⟨ys,hyl,hys,rfl⟩;refine Zat (Za2 (Zaj (Zab rfl (Zfb rfl rfl hp2 (by decide) (by decide) λz p3 hp3 z0 z1=>?_))));obtain⟨x,ex,hx⟩:=Znr (xs:=ys) (z:=z) z0 (by omega);have hx:=hys x hx;refine Zbk ex ?_;have e1:=Zkp (Zsg hx);have l1:[x].length<=1:=Waf _;refine Zbc (λΔ=>∃zs:List D,zs.length=3/\(∀y∈zs,Th 1 24200 y) /\ Δ = [.bor (.lst p3),.val (.tup (ns.map D.int)),.val (.int m),.val (.int far),.val (.int at_),.val (.lst ys),.val x,.val (.lst zs)]) ?_ ?_
 ·refine Za2 (Zdx (Zdo (Zag (Zbz (Zbz (Zgq (Zap rfl) Zcz (Zcd (Zap rfl))) (Zbv (Zag (Zap rfl) Za1) Zev) (addT60 36 1 (cl _ _) l1 (by decide))) (Zgq (Zap rfl) (Zcd (Zbz (Zap rfl) Zbg Zdj)) Zcz) (addT60 37 36 (Ziv (cl _ _) l1) (cl _ _) (by decide))) (Zag (Zbz (Zgq (Zap rfl) Zcz (Zcd (Zap rfl))) (Zgq (Zap rfl) (Zcd (Zbz (Zap rfl) Zbg Zdj)) Zcz) (addT60 36 36 (cl _ _) (cl _ _) (by decide))) (Zag (Zbz (Zbz (Zgq (Zap rfl) Zcz (Zcd (Zap rfl))) (Zgq (Zap rfl) (Zcd (Zap rfl)) (Zcd (Zbz (Zap rfl) Zbg Zdj))) (addT60 36 36 (cl _ _) (cl _ _) (by decide))) (Zgq (Zap rfl) (Zcd (Zap rfl)) Zcz) (addT60 72 36 (Ziv (cl _ _) (cl _ _)) (cl _ _) (by decide))) Za1))) (by show 3<=sizeLine;decide)) ⟨_,rfl,?_,rfl⟩)
  intro y hy;simp only[Wan,Waq,or_false]at hy;rcases hy with rfl|rfl|rfl
  ·exact Zc4 (m:=60) (by decide) (by rw[Wag,Wag];omega) (Zfu (Zfu (ec _ _) e1) (ec _ _)) (by decide)
  ·exact Zc4 (m:=60) (by decide) (by rw[Wag];omega) (Zfu (ec _ _) (ec _ _)) (by decide)
  ·refine Zc4 (m:=60) (by decide) ?_ (Zfu (Zfu (ec _ _) (ec _ _)) (ec _ _)) (by decide)
   have:=cut3 (ns.map D.int) at_ a0 (by omega);omega
 rintro Δ1 ⟨zs,hzl,hzs,rfl⟩;refine Zbc (λΔ=>∃zs:List D,zs.length=12/\(∀y∈zs,Th 1 24200 y) /\ Δ = [.bor (.lst p3),.val (.tup (ns.map D.int)),.val (.int m),.val (.int far),.val (.int at_),.val (.lst ys),.val x,.val (.lst zs)]) ?_ ?_
 ·refine Za2 (Zdx (Zbz (Zap rfl) (Zdo (Zag (Zqn (Zag (Zap rfl) Za1) λP p=>Zkm (Or.inr rfl) p) (Zag Zjg (Zag (Zqn (Zag (Zap rfl) Za1) λP p=>Zo1 (λy hy=>(ei y hy).sh) ?_ ?_ p) (Zag Zbg (Zag (Zq1 (Zap rfl)) (Zag (Zbz (Zbz (Zgq (Zap rfl) Zcz (Zcd (Zap rfl))) (Zbv (Zag (Zap rfl) Za1) Zev) (addT60 36 1 (cl _ _) l1 (by decide))) (Zgq (Zap rfl) (Zcd (Zap rfl)) Zcz) (addT60 37 36 (Ziv (cl _ _) l1) (cl _ _) (by decide))) (Zag (Zbv Za1 (by show 0<=sizeLine;decide)) (Zag (Zbv (Zag (Zap rfl) Za1) Zev) (Zag Zmx Za1))))))))) (by show 9<=sizeLine;decide)) (Zij (by rw[hzl];show 3+9<=sizeLine;decide))) ⟨_,?_,?_,rfl⟩)
  ·exact Was r1.dp (by decide)
  ·exact Was r1.sz (by rw[sizeLine_eq];decide)
  ·rw[Wag,hzl];rfl
  ·intro y hy
   rcases Waz.mp hy with hy|hy
   ·exact hzs y hy
   ·simp only[Wan,Waq,or_false]at hy
    rcases hy with rfl|rfl|rfl|rfl|rfl|rfl|rfl|rfl|rfl
    ·exact Zll (m:=36) nl ei (by decide)
    ·exact(Zix (el_b "NoneType" rfl (by decide +kernel)) rfl).up (by decide)
    ·exact(Zpn r1.sz (Zr4 ns)).up (by decide)
    ·exact(Zix (Zer (by decide) (by decide)) rfl).up (by decide)
    ·exact Zc4 (m:=36) (by decide) (by rw[List.length_reverse];exact nl) (λy hy=>ei y (List.mem_reverse.mp hy)) (by decide)
    ·exact Zc4 (m:=60) (by decide) (by rw[Wag,Wag];omega) (Zfu (Zfu (ec _ _) e1) (ec _ _)) (by decide)
    ·exact Zc4 (m:=25) (B:=400) (by decide) (Wbq _) (λ_ h=>nomatch h) (by decide)
    ·exact Zc4 (m:=1) (by decide) (Waf _) (Zkp r0) (by decide)
    ·exact(Zix (el_b "bool" rfl (by decide +kernel)) rfl).up (by decide)
 rintro Δ1 ⟨zs2,hzl2,hzs2,rfl⟩;refine Zaq (Zaj (Zab rfl (Zfb rfl rfl hp3 (by decide) (by decide) λz p4 hp4 z0 z1=>?_)));obtain⟨y,ey,hy⟩:=Znr (xs:=zs2) (z:=z) z0 (by omega);exact Zbk ey ⟨_,rfl,q y _ hp4 (hzs2 y hy)⟩
theorem Zqu {a b:D}{z:Int}(h0:0<=z) (h1:z<2):∃x,atI [a,b] z=some x/\(x=a\/x=b):=by
 rcases(show z=0\/z=1 by omega) with rfl|rfl
 ·exact⟨a,rfl,.inl rfl⟩
 ·exact⟨b,rfl,.inr rfl⟩
end
def fThing:BSp:=λps ds Post=>Pen ps/\∃n ts cs,ds=[encWeb n ts,encRow cs]/\WebOk n ts/\CrOk ts cs/\∀d ps',Pen ps' -> Th 2 60000 d->Post d ps'
theorem Zde {n B B':Nat}{a b:D}(ha:Th n B a) (hb:Th n B b) (h:2*B+2*2+3<=B'):Th (n+1) B' (.tup [a,b]):=Zc4 (m:=2) (by decide) (Waf _) (λx hx=>by
 rcases Wan.mp hx with rfl|hx
 ·exact ha
 ·rw[Wa5.mp hx];exact hb) h
theorem th_s {n:Nat}{x:Str}(h:shB' (.str x)=true):Th n 600 (.str x):=(Zix (el_b "str" rfl h) rfl).up (by decide)
section
variable {P:Program}{w:World}{K:W.Frag}{mg:Str->Option Value}{base:Heap}{f:Addr}{fd:FuncData}
theorem Zm3 (mb:Mb mg) (C25:Callee P w K mg base 1 "_law_draw" ["_law_pen_here","_law_many"] (spB K fDraw)) (C27:Callee P w K mg base 2 "_law_gone" ["_law_pen_here","_law_web_here"] (spB K fGone)) (C26:Callee P w K mg base 2 "_law_given" ["_law_pen_here","_law_web_here","_law_crossings_here"] (spB K fGiven)) (C23:Callee P w K mg base 2 "_law_bent" ["_law_pen_here","_law_row","_law_limit"] (spB K fBent24)) (F:Fun K "_law_thing" "_law_thing" s_law_thing f fd):FnOk P w K mg base CX0 3 f fd ["_law_pen_here","_law_web_here","_law_crossings_here"] (spB K fThing):=by
 refine F.ok sc_law_thing (Zd1 λps ds Post h=>by obtain⟨_,_,_,_,rfl,_⟩:=h;rfl) (λcdv A outer s H vs Q E hr h=>?_);have hu:=Zcu hr;have hv:=Zem hr;refine⟨_,(by (refine' Zaf ?s ?r); (case s=>exact(Zax (i:=3) sc_law_thing.nd rfl (Or.inl rfl) (Zau (ixK K hu) (Zb9 (Zaa Zcy (Zaa Zcy Zae))) (Zbe C25 (hr.mono (by decide)) (Zaa (pv 0) (Zaa Zad Zae))) (λ_ _=>rfl)))); (case r=>exact(by (refine' Zaf ?s ?r); (case s=>exact(by (refine' @Zax _ _ 4 _ _ _ _ sc_law_thing.nd rfl (Or.inl rfl) ?e4 rfl (by first|exact .inl rfl|exact .inr rfl|assumption)); (case e4=>exact(Zaw (Zpy K) (Zbe C27 (hr.mono (by decide)) (Zaa (pv 0) (Zaa (pv 1) Zae))) (Zau (ixK K hu) (@Zb9 (Zai P w K mg base f cdv A outer s H E) _ _ _  (@Zaa (Zai P w K mg base f cdv A outer s H E) _ _ _ _ Zad (@Zaa (Zai P w K mg base f cdv A outer s H E) _ _ _ _ Zad (@Zaa (Zai P w K mg base f cdv A outer s H E) _ _ _ _ Zad (@Zaa (Zai P w K mg base f cdv A outer s H E) _ _ _ _ Zad Zae (@Zbd _ _ _ _ _)) (@Zbd _ _ _ _ _)) (@Zbd _ _ _ _ _)) (@Zbd _ _ _ _ _))) (Zbe C25 (hr.mono (by decide)) (Zaa (pv 0) (Zaa Zad Zae))) (λ_ _=>rfl)))))); (case r=>exact(by (refine' Zaf ?s ?r); (case s=>exact(Zax (i:=5) sc_law_thing.nd rfl (Or.inl rfl) (Zaw Zdl Zad (Zao (lenK K) rfl (mb "len" (by decide)) Zc5 (Zaa (Zau (ixK K hu) (pv 1) Zad (λ_ _=>rfl)) Zae))))); (case r=>exact(by (refine' Zaf ?s ?r); (case s=>exact(Zbr (Zaz Zbp (pv 3) Zcy (nomark _)) (Zaf (Zax (i:=4) sc_law_thing.nd rfl (Or.inl rfl) (Zbe C26 (hr.mono (by decide)) (Zaa (pv 0) (Zaa (pv 1) (Zaa (pv 2) Zae))))) (Zal (Zax (i:=5) sc_law_thing.nd rfl (Or.inl rfl) Zad))) Za5)); (case r=>exact(by (refine' Zaf ?s ?r); (case s=>exact(Zax (i:=6) sc_law_thing.nd rfl (Or.inl rfl) (Zbe C25 (hr.mono (by decide)) (Zaa (pv 0) (Zaa Zad Zae))))); (case r=>exact(by (refine' Zaf ?s ?r); (case s=>exact(Zbr (Zaz Zj9 (pv 6) Zad (nomark _)) (Zal (Za4 (Zbi (Zaa (pv 3) (Zaa (pv 4) Zae))))) Za5)); (case r=>exact(by (refine' Zaf ?s ?r); (case s=>exact(Zbr (Zaz Zbp (pv 6) Zad (nomark _)) (Zal (Za4 (Zbi (Zaa (pv 3) (Zaa (Zbe C23 (hr.mono (by decide)) (Zaa (pv 0) (Zaa (pv 4) (Zaa (pv 5) Zae)))) Zae))))) Za5)); (case r=>exact(by (refine' Zaf ?s ?r); (case s=>exact(by (refine' @Zax _ _ 7 _ _ _ _ sc_law_thing.nd rfl (Or.inl rfl) ?e5 rfl (by first|exact .inl rfl|exact .inr rfl|assumption)); (case e5=>exact(@Zb9 (Zai P w K mg base f cdv A outer s H E) _ _ _  (@Zaa (Zai P w K mg base f cdv A outer s H E) _ _ _ _ (@Zb9 (Zai P w K mg base f cdv A outer s H E) _ _ _  (@Zaa (Zai P w K mg base f cdv A outer s H E) _ _ _ _ (pv 3) (@Zaa (Zai P w K mg base f cdv A outer s H E) _ _ _ _ (pv 4) Zae (@Za8 _ _ _ _)) (@Za8 _ _ _ _))) (@Zaa (Zai P w K mg base f cdv A outer s H E) _ _ _ _ (@Zbi (Zai P w K mg base f cdv A outer s H E) _ _ _ _ (@Zaa (Zai P w K mg base f cdv A outer s H E) _ _ _ _ (pv 3) Zae (@Za8 _ _ _ _))) (@Zaa (Zai P w K mg base f cdv A outer s H E) _ _ _ _ (@Zbi (Zai P w K mg base f cdv A outer s H E) _ _ _ _ (@Zaa (Zai P w K mg base f cdv A outer s H E) _ _ _ _ (pv 3) (@Zaa (Zai P w K mg base f cdv A outer s H E) _ _ _ _ (pv 4) (@Zaa (Zai P w K mg base f cdv A outer s H E) _ _ _ _ (pv 4) Zae (@Za8 _ _ _ _)) (@Za8 _ _ _ _)) (@Za8 _ _ _ _))) (@Zaa (Zai P w K mg base f cdv A outer s H E) _ _ _ _ (@Zbi (Zai P w K mg base f cdv A outer s H E) _ _ _ _ (@Zaa (Zai P w K mg base f cdv A outer s H E) _ _ _ _ (pv 4) (@Zaa (Zai P w K mg base f cdv A outer s H E) _ _ _ _ (pv 3) Zae (@Za8 _ _ _ _)) (@Za8 _ _ _ _))) (@Zaa (Zai P w K mg base f cdv A outer s H E) _ _ _ _ (pv 4) (@Zaa (Zai P w K mg base f cdv A outer s H E) _ _ _ _ Zi9 (@Zaa (Zai P w K mg base f cdv A outer s H E) _ _ _ _ (pv 3) (@Zaa (Zai P w K mg base f cdv A outer s H E) _ _ _ _ Zgl (@Zaa (Zai P w K mg base f cdv A outer s H E) _ _ _ _ Zc2 (@Zaa (Zai P w K mg base f cdv A outer s H E) _ _ _ _ (@Zbi (Zai P w K mg base f cdv A outer s H E) _ _ _ _ (@Zaa (Zai P w K mg base f cdv A outer s H E) _ _ _ _ Zcy (@Zaa (Zai P w K mg base f cdv A outer s H E) _ _ _ _ (pv 4) Zae (@Za8 _ _ _ _)) (@Zbd _ _ _ _ _))) (@Zaa (Zai P w K mg base f cdv A outer s H E) _ _ _ _ (@Zbi (Zai P w K mg base f cdv A outer s H E) _ _ _ _ (@Zaa (Zai P w K mg base f cdv A outer s H E) _ _ _ _ Zcy (@Zaa (Zai P w K mg base f cdv A outer s H E) _ _ _ _ (pv 4) Zae (@Za8 _ _ _ _)) (@Zbd _ _ _ _ _))) Zae (@Zce _ _ _ _ _)) (@Zce _ _ _ _ _)) (@Zbd _ _ _ _ _)) (@Ze7 _ _ _ _ _)) (@Za8 _ _ _ _)) (@Zbd _ _ _ _ _)) (@Za8 _ _ _ _)) (@Zce _ _ _ _ _)) (@Zce _ _ _ _ _)) (@Zce _ _ _ _ _)) (@Zfm _ _ _ _)))))); (case r=>exact(by (refine' Zaf ?s ?r); (case s=>exact(by (refine' @Zax _ _ 7 _ _ _ _ sc_law_thing.nd rfl (Or.inl rfl) ?e6 rfl (by first|exact .inl rfl|exact .inr rfl|assumption)); (case e6=>exact(Zaw (addK K) (pv 7) (@Zb9 (Zai P w K mg base f cdv A outer s H E) _ _ _  (@Zaa (Zai P w K mg base f cdv A outer s H E) _ _ _ _ (@Zbi (Zai P w K mg base f cdv A outer s H E) _ _ _ _ (@Zaa (Zai P w K mg base f cdv A outer s H E) _ _ _ _ (@Zb9 (Zai P w K mg base f cdv A outer s H E) _ _ _  (@Zaa (Zai P w K mg base f cdv A outer s H E) _ _ _ _ (pv 3) Zae (@Za8 _ _ _ _))) (@Zaa (Zai P w K mg base f cdv A outer s H E) _ _ _ _ (pv 4) Zae (@Za8 _ _ _ _)) (@Zfm _ _ _ _))) (@Zaa (Zai P w K mg base f cdv A outer s H E) _ _ _ _ (@Zbi (Zai P w K mg base f cdv A outer s H E) _ _ _ _ (@Zaa (Zai P w K mg base f cdv A outer s H E) _ _ _ _ Zgl (@Zaa (Zai P w K mg base f cdv A outer s H E) _ _ _ _ (pv 4) Zae (@Za8 _ _ _ _)) (@Ze7 _ _ _ _ _))) Zae (@Zce _ _ _ _ _)) (@Zce _ _ _ _ _))))))); (case r=>exact(Zal (Za4 (Zau (ixK K hu) (Zaw (addK K) (pv 7) (Zb9 (Zaa (Zbi (Zaa Zi9 (Zaa (pv 4) Zae))) (Zaa (Zbi (Zaa (Zbi (Zaa (pv 3) Zae)) (Zaa (pv 4) Zae))) (Zaa (Zbi (Zaa Zcy (Zaa (pv 4) Zae))) (Zaa (Zbi (Zaa Zcy (Zaa (Zbi Zae) Zae))) (Zaa (Zbi (Zaa Zcy (Zaa (Zbi Zae) Zae))) Zae))))))) (Zbe C25 (hr.mono (by decide)) (Zaa (pv 0) (Zaa Zad Zae))) (λ_ _=>rfl)))))))))))))))))))))),Zip (λps ds Post hf=>?_) h⟩
 obtain⟨hp,n,ts,cs,rfl,hW,hC,q⟩:=hf;refine⟨by simp,?_⟩;dsimp only[cxOf,startD,Wbg,Wbn,Wa7,Waw];have hw:=hW.len;refine Zbc (λΔ=>∃(x:Str) (p1:List D),Pen p1/\(∀n,Th n 600 (.str x)) /\ Δ = [.bor (.lst p1),.val (encWeb n ts),.val (encRow cs),.val (.str x),.any,.any,.any,.any]) ?_ ?_
 ·refine Za2 (Zaj (Zdx (Zdo (Zag Zec (Zag Zec Za1)) Zcg) (Zfb rfl rfl hp (by decide) (by decide) λz p1 hp1 z0 z1=>?_)))
  obtain⟨y,ey,hy⟩:=Zqu (a:=.str "two") (b:=.str "one") z0 z1;refine Zbk ey ?_;rcases hy with rfl|rfl
  ·exact⟨"two",p1,hp1,λn=>th_s (by decide +kernel),rfl⟩
  ·exact⟨"one",p1,hp1,λn=>th_s (by decide +kernel),rfl⟩
 rintro Δ1 ⟨x,p1,hp1,hx,rfl⟩;refine Zbc (λΔ=>∃(r:List Int) (p2:List D),Pen p2/\RowE r/\r.length<=36 /\ Δ = [.bor (.lst p2),.val (encWeb n ts),.val (encRow cs),.val (.str x),.val (encRow r),.any,.any,.any]) ?_ ?_
 ·refine Za2 (Zaj (Zdy rfl rfl (Zac (Zab rfl (Zah ⟨_,_,rfl,rfl,hp1,n,ts,rfl,hW,λr p2 hp2 hR hrl=>?_⟩)))))
  refine Zaj (Zdx (Zdo (Zag Zbg (Zag Zbg (Zag Zbg (Zag Zbg Za1)))) (by show 4<=sizeLine;decide)) (Zfb rfl rfl hp2 (by decide) (by decide) λz p3 hp3 z0 z1=>?_));obtain⟨y,ey,hy⟩:=Znr (xs:=[.int 1,.int 1,.int 1,.int 3]) (z:=z) z0 z1;obtain⟨i,rfl,hi⟩:∃i:Int,y=.int i/\(i=1\/i=3):=by
   simp only[Wan,Waq,or_false]at hy;rcases hy with rfl|rfl|rfl|rfl
   ·exact⟨1,rfl,.inl rfl⟩
   ·exact⟨1,rfl,.inl rfl⟩
   ·exact⟨1,rfl,.inl rfl⟩
   ·exact⟨3,rfl,.inr rfl⟩
  refine Zbk ey (Zpv hi (by rw[Wab];omega) ?_);rcases hi with rfl|rfl
  ·exact⟨r,p3,hp3,hR,by omega,rfl⟩
  ·refine⟨r++r++r,p3,hp3,λy hy=>?_,by rw[Wag,Wag];omega,?_⟩
   ·rcases Waz.mp hy with hy|hy
    ·exact(Waz.mp hy).elim (hR y) (hR y)
    ·exact hR y hy
   ·unfold encRow;rw[Wa6,Wa6];rfl
 rintro Δ1 ⟨r0,p2,hp2,hR0,hrl0,rfl⟩;refine Zat (Za2 (Zdx (Zbz Zbg (Zk3 (Zqa (d:=.tup (ts.map encTie)) (Zap rfl) Zbg rfl)) (pr_I (Or.inl ⟨by omega,by omega⟩))) ?_));rw[Wab];refine Zbc (λΔ=>∃(r:List Int) (m:Int) (p3:List D),Pen p3/\RowE r/\r.length<=36/\0<=m/\m<=100 /\ Δ = [.bor (.lst p3),.val (encWeb n ts),.val (encRow cs),.val (.str x),.val (encRow r),.val (.int m),.any,.any]) ?_ ?_
 ·refine Zbs (Za7 (Zaj (Zab rfl (Zgc (Zii ⟨_,rfl,?_⟩)))))
  refine ite2 (λ_=>?_) (λ_=>Za6 ⟨r0,_,p2,hp2,hR0,hrl0,?_,?_,rfl⟩)
  ·refine Zat (Za2 (Zdy rfl rfl (Zac (Zab rfl (Zac (Zab rfl (Zah ⟨_,_,rfl,rfl,hp2,n,ts,cs,rfl,hW,hC,λr p3 hp3 hR hrl=>?_⟩)))))))
   exact Za2 (Zak ⟨r,2,p3,hp3,hR,by omega,by decide,by decide,rfl⟩)
  ·omega
  ·omega
 rintro Δ1 ⟨r,m,p3,hp3,hR,hrl,m0,m1,rfl⟩;have r1:=Znh (n:=0) hrl hR;have r2:=Znh (n:=1) hrl hR;refine Zat (Za2 (Zfb rfl rfl hp3 (by decide) (by decide) λway p4 hp4 w0 w1=>?_));refine Zat (Zbs (Za7 (Zaj (Zab rfl (Zak (Zf1 ⟨_,rfl,?_⟩))))));refine ite2 (λ_=>Zaq (Zdx (Zbv (Zag (Zap rfl) (Zag (Zap rfl) Za1)) Zcg) ⟨_,rfl,q _ _ hp4 (Zde (hx 1) r1 (by decide))⟩)) (λ_=>Za6 ?_);refine Zat (Zbs (Za7 (Zaj (Zab rfl (Zak (Zdg ⟨_,rfl,?_⟩))))));refine ite2 (λ_=>?_) (λ_=>Za6 ?_)
 ·exact Zaq (Zez (Zac (Zab rfl (Zac (Zdy rfl rfl (Zac (Zab rfl (Zac (Zab rfl (Zah ⟨_,_,rfl,rfl,hp4,r,m,rfl,hR,hrl,m0,m1,λd p5 hp5 hd=>Zah ⟨Zcg,_,rfl,q _ _ hp5 (Zde ((hx 1).up (by decide)) hd (by decide))⟩⟩))))))))) )
 have no1:∀n,Th n 600 D.non:=λn=>(Zix (el_b "NoneType" rfl (by decide +kernel)) rfl).up (by decide);have dc1:∀n,Th n 600 (D.dct [] []):=λn=>(Zix Zn1 rfl).up (by decide);have nil1:Th 1 600 (D.tup []):=Zc4 (m:=1) (B:=400) (by decide) (Wbq _) (λ_ h=>nomatch h) (by decide);refine Zbc (λΔ=>∃zs:List D,zs.length=11/\(∀y∈zs,Th 2 60000 y) /\ Δ = [.bor (.lst p4),.val (encWeb n ts),.val (encRow cs),.val (.str x),.val (encRow r),.val (.int m),.val (.int way),.val (.lst zs)]) ?_ ?_
 ·refine Za2 (Zdx (Zdo (Zag (Zdo (Zag (Zap rfl) (Zag (Zap rfl) Za1)) Zcg) (Zag (Zbv (Zag (Zap rfl) Za1) Zev) (Zag (Zbv (Zag (Zap rfl) (Zag (Zap rfl) (Zag (Zap rfl) Za1))) (by show 3<=sizeLine;decide)) (Zag (Zbv (Zag (Zap rfl) (Zag (Zap rfl) Za1)) Zcg) (Zag (Zap rfl) (Zag Zjg (Zag (Zap rfl) (Zag Zi4 (Zag Zmx (Zag (Zbv (Zag Zec (Zag (Zap rfl) Za1)) Zcg) (Zag (Zbv (Zag Zec (Zag (Zap rfl) Za1)) Zcg) Za1))))))))))) (by show 11<=sizeLine;decide)) ⟨_,rfl,?_,rfl⟩)
  intro y hy;simp only[Wan,Waq,or_false]at hy;rcases hy with rfl|rfl|rfl|rfl|rfl|rfl|rfl|rfl|rfl|rfl|rfl
  ·refine Zll (m:=2) (B:=600) (Waf _) (λy hy=>?_) (by decide)
   rcases Wan.mp hy with rfl|hy
   ·exact hx 1
   ·rw[Wa5.mp hy];exact r1
  ·exact Zc4 (m:=1) (by decide) (Waf _) (Zkp (hx 1)) (by decide)
  ·refine Zc4 (m:=3) (B:=600) (by decide) (Waf _) (λy hy=>?_) (by decide)
   simp only[Wan,Waq,or_false]at hy;rcases hy with rfl|rfl|rfl
   ·exact hx 1
   ·exact r1
   ·exact r1
  ·exact Zde r1 (hx 1) (by decide)
  ·exact r2.up (by decide)
  ·exact(no1 2).up (by decide)
  ·exact(hx 2).up (by decide)
  ·exact(dc1 2).up (by decide)
  ·exact(Zix (el_b "bool" rfl (by decide +kernel)) rfl).up (by decide)
  ·exact Zde (th_s (by decide +kernel)) r1 (by decide)
  ·exact Zde (th_s (by decide +kernel)) r1 (by decide)
 rintro Δ1 ⟨zs,hzl,hzs,rfl⟩;refine Zbc (λΔ=>∃zs:List D,zs.length=13/\(∀y∈zs,Th 2 60000 y) /\ Δ = [.bor (.lst p4),.val (encWeb n ts),.val (encRow cs),.val (.str x),.val (encRow r),.val (.int m),.val (.int way),.val (.lst zs)]) ?_ ?_
 ·refine Za2 (Zdx (Zbz (Zap rfl) (Zdo (Zag (Zbv (Zag (Zdo (Zag (Zap rfl) Za1) Zev) (Zag (Zap rfl) Za1)) Zcg) (Zag (Zbv (Zag Zi4 (Zag (Zap rfl) Za1)) Zcg) Za1)) Zcg) (Zij (by rw[hzl];show 11+2<=sizeLine;decide))) ⟨_,by rw[Wag,hzl];rfl,?_,rfl⟩)
  intro y hy;rcases Waz.mp hy with hy|hy
  ·exact hzs y hy
  simp only[Wan,Waq,or_false]at hy;rcases hy with rfl|rfl
  ·exact Zde (B:=700) (Zll (m:=1) (Waf _) (Zkp (hx 0)) (by decide)) (r1.up (by decide)) (by decide)
  ·exact Zde (dc1 1) r1 (by decide)
 rintro Δ1 ⟨zs2,hzl2,hzs2,rfl⟩;refine Zaq (Zaj (Zdx (Zbz (Zap rfl) (Zdo (Zag (Zbv (Zag Zjg (Zag (Zap rfl) Za1)) Zcg) (Zag (Zbv (Zag (Zbv (Zag (Zap rfl) Za1) Zev) (Zag (Zap rfl) Za1)) Zcg) (Zag (Zbv (Zag Zec (Zag (Zap rfl) Za1)) Zcg) (Zag (Zbv (Zag Zec (Zag (Zbv Za1 (by show 0<=sizeLine;decide)) Za1)) Zcg) (Zag (Zbv (Zag Zec (Zag (Zbv Za1 (by show 0<=sizeLine;decide)) Za1)) Zcg) Za1))))) (by show 5<=sizeLine;decide)) (Zij (by rw[hzl2];show 13+5<=sizeLine;decide))) (Zfb rfl rfl hp4 (by decide) (by decide) λz p5 hp5 z0 z1=>?_)));obtain⟨y,ey,hy⟩:=Znr (xs:=zs2++[.tup [.non,encRow r],.tup [.tup [.str x],encRow r],.tup [.str "Two",encRow r],.tup [.str "one",.tup []],.tup [.str "two",.tup []]]) (z:=z) z0 (by rw[Wag,hzl2];exact z1);refine Zbk ey ⟨_,rfl,q y _ hp5 ?_⟩;rcases Waz.mp hy with hy|hy
 ·exact hzs2 y hy
 simp only[Wan,Waq,or_false]at hy;rcases hy with rfl|rfl|rfl|rfl|rfl
 ·exact Zde (no1 1) r1 (by decide)
 ·exact Zde (B:=700) (Zc4 (m:=1) (by decide) (Waf _) (Zkp (hx 0)) (by decide)) (r1.up (by decide)) (by decide)
 ·exact Zde (th_s (by decide +kernel)) r1 (by decide)
 ·exact Zde (th_s (by decide +kernel)) nil1 (by decide)
 ·exact Zde (th_s (by decide +kernel)) nil1 (by decide)
theorem ok_law (mb:Mb mg) (C29:Callee P w K mg base 1 "_law_pen" ["_law_script"] (spN K fPen)) (C34:Callee P w K mg base 2 "_law_web" ["_law_pen_here","_law_places","_law_ties"] (spB K fWeb)) (C24:Callee P w K mg base 2 "_law_crossings" ["_law_pen_here","_law_web_here"] (spB K fCross)) (C32:Callee P w K mg base 3 "_law_thing" ["_law_pen_here","_law_web_here","_law_crossings_here"] (spB K fThing)) (C44:Callee P w K mg base 3 "shows_sides" ["web","crossings","thing"] (spD K fShowG)) (C31:Callee P w K mg base 3 "_law_shows" ["_law_web_here","_law_crossings_here","_law_thing_here"] (spD K fShowG))
  (F:Fun K "law" "law" s_law f fd):FnOk P w K mg base CX0 4 f fd ["_law_script"] (spD K fLaw):=by
 refine F.ok sc_law (Zca λds Post h=>by obtain⟨_,rfl,_⟩:=h;rfl) (λcdv A outer s H vs Q E hr h=>?_);have hu:=Zcu hr;have hv:=Zem hr;refine⟨_,(Zaf (Zax (i:=1) sc_law.nd rfl (Or.inl rfl) (Zbe C29 (hr.mono (by decide)) (Zaa (pv 0) Zae))) (Zaf (Zax (i:=2) sc_law.nd rfl (Or.inl rfl) (Zbe C34 (hr.mono (by decide)) (Zaa (pv 1) (Zaa Zad (Zaa Zad Zae))))) (Zaf (Zax (i:=3) sc_law.nd rfl (Or.inl rfl) (Zbe C24 (hr.mono (by decide)) (Zaa (pv 1) (Zaa (pv 2) Zae)))) (Zaf (Zct PassesOwn.never rfl (Zbw rfl (mb "range" (by decide)) (Zaa Zad Zae)) (Zav (i:=4) sc_law.nd rfl (Or.inl rfl)) (Zaf (Zax (i:=5) sc_law.nd rfl (Or.inl rfl) (Zbe C32 (hr.mono (by decide)) (Zaa (pv 1) (Zaa (pv 2) (Zaa (pv 3) Zae))))) (Zaf (Zax (i:=6) sc_law.nd rfl (Or.inl rfl) (Zao (reprWK K hr.gd (Zqy hr)) rfl (mb "repr" (by decide)) Zmf (Zaa (pv 5) Zae))) (Zaf (Zax (i:=7) sc_law.nd rfl (Or.inl rfl) (Zbe C44 (hr.mono (by decide)) (Zaa (pv 2) (Zaa (pv 3) (Zaa (pv 5) Zae))))) (Zal (Zbr (PW.pt (pw_or (Zc1 (truK K (Zao (isiUK K) rfl (mb "isinstance" (by decide)) Za9 (Zaa (pv 7) (Zaa (Zcw rfl (mb "bool" (by decide)) Zir (show RelV (.ty "bool") _ from rfl)) Zae))) (λ_=>rfl))) (pw_or (Zaz Zdi (pv 7) (Zbe C31 (hr.mono (by decide)) (Zaa (pv 2) (Zaa (pv 3) (Zaa (pv 5) Zae)))) (nomark _)) (pw_or1 (Zaz Zdi (Zao (reprWK K hr.gd (Zqy hr)) rfl (mb "repr" (by decide)) Zmf (Zaa (pv 5) Zae)) (pv 6) (nomark _)))))) (Zal (Za4 Zc2)) Za5)))))) (Zal (Za4 Zc2)))))),Zee (λds Post hf=>?_) h⟩;obtain⟨ns,rfl,hl,q⟩:=hf;refine⟨by simp,?_⟩;dsimp only[startD,Wbg,Wbn,Wa7,Waw];refine Zat (Zdp (Zh5 (Zac (Zab rfl (Zah ⟨ns,rfl,hl,λps hp=>?_⟩)))));refine Zat (Za2 (Zdy rfl rfl (Zac (Zak (Zac (Zak (Zah (Zr2 rfl rfl hp (by omega) (by omega) (by omega) (by omega) λn ts ps1 hp1 hW _ _=>?_))))))));have hn0:=hW.lo;have hn1:=hW.hi;have hw:=hW.len;obtain⟨N,rfl⟩:∃N:Nat,n=(N:Int):=⟨n.toNat,by omega⟩;refine Zat (Za2 (Zdy rfl rfl (Zac (Zab rfl (Zah ⟨_,_,rfl,rfl,hp1,(N:Int),ts,rfl,hW,λcs ps2 hp2 hC=>?_⟩)))));refine Zbc (λ_=>True) ?_ (λΔ1 _=>Zaq (Zcc q));refine Zcv (Zbt (Zac (Zak (Zah ⟨_,rfl,by decide,by decide,λ_ Δ=>∃(px:List D) (x4 x5 x6 x7:L2.Slot),Pen px /\ Δ = [.val (.scr (ns.map .int)),.own (.lst px),.val (encWeb (N:Int) ts),.val (encRow cs),x4,x5,x6,x7],⟨ps2,_,_,_,_,hp2,rfl⟩,?_,λ_ _=>trivial⟩))));rintro i d Δ2 hd ⟨px,x4,x5,x6,x7,hpx,rfl⟩;refine Zbl (Zat (Za2 (Zdy rfl rfl (Zac (Zab rfl (Zac (Zab rfl (Zah ⟨_,_,rfl,rfl,hpx,(N:Int),ts,cs,rfl,hW,hC,λt p3 hp3 ht=>?_⟩))))))));have rep:RepW t:=.inl (Zrg ht (by decide) (by decide));refine Zat (Za2 (Zba (Zac (Zab rfl (Zah (Zjb rep ?_))))));refine Zat (Za2 (Zb0 (Zac (Zab rfl (Zac (Zab rfl (Zac (Zab rfl (Zah ⟨N,ts,cs,t,rfl,hW,hC,ht.ty,?_⟩)))))))));refine Zbs (Zd4 (Zcl (Zcm (Zba (Zac (Zab rfl (Zac (Zcb (Zah (Za3 (T:="bool") (b:=true) rfl (λ_=>by rfl) ⟨_,rfl,iteF ?_⟩))))))))));refine Zd4 (Za7 (Zaj (Zab rfl (Zb0 (Zac (Zab rfl (Zac (Zab rfl (Zac (Zab rfl (Zah ⟨N,ts,cs,t,rfl,hW,hC,ht.ty,Zn5 ⟨_,rfl,?_⟩⟩)))))))))));rw[decide_eq_true rfl];refine iteF (Za7 (Zaj (Zba (Zac (Zab rfl (Zah (Zjb rep (Zab rfl (Zrp ⟨_,rfl,iteF (Za6 ⟨p3,_,_,_,_,hp3,rfl⟩)⟩)))))))))
end
theorem lenS {us:List Value}{n:Nat}(h:us.length=n+1):∃a t,us=a::t/\t.length=n:=by
 cases us with
 |nil=>exact absurd h.symm (Nat.succ_ne_zero n)
 |cons a t=>exact⟨a,t,rfl,Nat.succ.inj h⟩
theorem bK1 {α:Type _}{g r:List Value -> α}(h:∀a0,g [a0]=r [a0]) (us:List Value) (l:us.length=1):g us=r us:=by
 obtain⟨a0,u0,rfl,h0⟩:=lenS l;obtain rfl:=Wbe h0;exact h a0
theorem bK2 {α:Type _}{g r:List Value -> α}(h:∀a0 a1,g [a0,a1]=r [a0,a1]) (us:List Value) (l:us.length=2):g us=r us:=by
 obtain⟨a0,u0,rfl,h0⟩:=lenS l;obtain⟨a1,u1,rfl,h1⟩:=lenS h0;obtain rfl:=Wbe h1;exact h a0 a1
theorem bK3 {α:Type _}{g r:List Value -> α}(h:∀a0 a1 a2,g [a0,a1,a2]=r [a0,a1,a2]) (us:List Value) (l:us.length=3):g us=r us:=by
 obtain⟨a0,u0,rfl,h0⟩:=lenS l;obtain⟨a1,u1,rfl,h1⟩:=lenS h0;obtain⟨a2,u2,rfl,h2⟩:=lenS h1;obtain rfl:=Wbe h2;exact h a0 a1 a2
theorem bK4 {α:Type _}{g r:List Value -> α}(h:∀a0 a1 a2 a3,g [a0,a1,a2,a3]=r [a0,a1,a2,a3]) (us:List Value) (l:us.length=4):g us=r us:=by
 obtain⟨a0,u0,rfl,h0⟩:=lenS l;obtain⟨a1,u1,rfl,h1⟩:=lenS h0;obtain⟨a2,u2,rfl,h2⟩:=lenS h1;obtain⟨a3,u3,rfl,h3⟩:=lenS h2;obtain rfl:=Wbe h3;exact h a0 a1 a2 a3
def FnE (K:W.Frag) (x:Str) (st:Stmt):Prop:=∃(f:Addr) (fd:FuncData),W.nsIn K mainGlobals x=some (some (.ref f))/\Fun K x x st f fd
theorem fnE {K:W.Frag}{x:Str}{st:Stmt}{f:Addr}{oc kV doc pm cdv ct:Value}{od an:Option Addr}{sl:Array (Option Value)}(a:W.nsIn K mainGlobals x=some (some (.ref f))) (l:K.lookup f=some ⟨oc,od,.func (W.fnOf x x (defArgs st) (defBody st) (defScope st) .none kV doc pm an cdv ct),sl⟩) (c:W.codeIn K cdv x=true) (k:W.keepIn K (.ref f)=true):FnE K x st:=⟨f,_,a,Zqd l c k⟩
theorem Zow {P:Program}{w:World}{K:W.Frag}{mg:Str->Option Value}{base h:Heap}(X:K.In h) (G:h.Ns mainGlobals mg) {x:Str}{st:Stmt}{ps:List Str}{lv:Nat}{sp:Sp}(e:FnE K x st) (ok:∀{f:Addr}{fd:FuncData},Fun K x x st f fd->FnOk P w K mg base CX0 lv f fd ps sp) (hb:∀(kV doc pm:Value) (an:Option Addr) (cdv ct:Value) (us:List Value),us.length=ps.length->bindArgs (W.fnOf x x (defArgs st) (defBody st) (defScope st) .none kV doc pm an cdv ct) ⟨us,[]⟩=pure (ps.zip us)):Callee P w K mg base lv x ps sp:=by
 obtain⟨f,fd,a,F⟩:=e;exact⟨⟨f,fd,ok F,F.binds hb,F.kp,W.mg_of X G a⟩⟩
theorem all_mk {l:PySem.W.OpenLaw}{w:World}{K:W.Frag}{h:Heap}{mg:Str->Option Value}{fa:Addr}(X:K.In h) (G:h.Ns mainGlobals mg) (hfa:mg "law" = some (.ref fa))
  (e1:FnE K "_law_draw" s_law_draw)
  (e2:FnE K "_law_pen" s_law_pen)
  (e3:FnE K "_law_web" s_law_web)
  (e4:FnE K "is_whole" s_is_whole)
  (e5:FnE K "are_wholes" s_are_wholes)
  (e6:FnE K "place_of" s_place_of)
  (e7:FnE K "parts_of" s_parts_of)
  (e8:FnE K "crossed_times" s_crossed_times)
  (e9:FnE K "fits" s_fits)
  (e10:FnE K "are_sides" s_are_sides)
  (e11:FnE K "is_round" s_is_round)
  (e12:FnE K "shows_sides" s_shows_sides)
  (e13:FnE K "_law_whole" s_law_whole)
  (e14:FnE K "_law_parts" s_law_parts)
  (e15:FnE K "_law_crossings" s_law_crossings)
  (e16:FnE K "_law_two" s_law_two)
  (e17:FnE K "_law_ring" s_law_ring)
  (e18:FnE K "_law_shows" s_law_shows)
  (e19:FnE K "_law_gone" s_law_gone)
  (e20:FnE K "_law_given" s_law_given)
  (e21:FnE K "_law_bent" s_law_bent)
  (e22:FnE K "_law_thing" s_law_thing)
  (e23:FnE K "law" s_law)
  (z0:W.nsIn K mainGlobals "abs" = some none)
  (z1:W.nsIn K mainGlobals "all" = some none)
  (z2:W.nsIn K mainGlobals "any" = some none)
  (z3:W.nsIn K mainGlobals "bool" = some none)
  (z4:W.nsIn K mainGlobals "enumerate" = some none)
  (z5:W.nsIn K mainGlobals "int" = some none)
  (z6:W.nsIn K mainGlobals "isinstance" = some none)
  (z7:W.nsIn K mainGlobals "len" = some none)
  (z8:W.nsIn K mainGlobals "list" = some none)
  (z9:W.nsIn K mainGlobals "max" = some none)
  (z10:W.nsIn K mainGlobals "min" = some none)
  (z11:W.nsIn K mainGlobals "range" = some none)
  (z12:W.nsIn K mainGlobals "repr" = some none)
  (z13:W.nsIn K mainGlobals "set" = some none)
  (z14:W.nsIn K mainGlobals "sorted" = some none)
  (z15:W.nsIn K mainGlobals "str" = some none)
  (z16:W.nsIn K mainGlobals "sum" = some none)
  (z17:W.nsIn K mainGlobals "tuple" = some none)
  (z18:W.nsIn K mainGlobals "zip" = some none) :
  ∃fd:FuncData,(∀(s:Shared) (v:Value),BindsTo s fd ⟨[v],[]⟩ [("_law_script",v)])/\∀base:Heap,K.In base->base.Ns mainGlobals mg->FnOk l.prog w K mg base CX0 4 fa fd ["_law_script"] (spD K fLaw):=by
 obtain⟨f,fd,a,F⟩:=e23;have e:=hfa.symm.trans (W.mg_of X G a);cases e;have mb:Mb mg:=by
  intro x hx;simp only[Wan,Waq,or_false]at hx;rcases hx with rfl|rfl|rfl|rfl|rfl|rfl|rfl|rfl|rfl|rfl|rfl|rfl|rfl|rfl|rfl|rfl|rfl|rfl|rfl
  ·exact W.mg_none_of X G z0
  ·exact W.mg_none_of X G z1
  ·exact W.mg_none_of X G z2
  ·exact W.mg_none_of X G z3
  ·exact W.mg_none_of X G z4
  ·exact W.mg_none_of X G z5
  ·exact W.mg_none_of X G z6
  ·exact W.mg_none_of X G z7
  ·exact W.mg_none_of X G z8
  ·exact W.mg_none_of X G z9
  ·exact W.mg_none_of X G z10
  ·exact W.mg_none_of X G z11
  ·exact W.mg_none_of X G z12
  ·exact W.mg_none_of X G z13
  ·exact W.mg_none_of X G z14
  ·exact W.mg_none_of X G z15
  ·exact W.mg_none_of X G z16
  ·exact W.mg_none_of X G z17
  ·exact W.mg_none_of X G z18
 obtain⟨oc,od,kV,doc,pm,an,cdv,ct,osl,rfl,lk,hcd⟩:=F.ex;refine⟨W.fnOf "law" "law" (defArgs s_law) (defBody s_law) (defScope s_law) .none kV doc pm an cdv ct,λs v=>.of_eq rfl,λbase _ _=>?_⟩;have M:=@Zow l.prog w K mg base h X G;have C1:=M e1 (Zo3 mb) λ_ _ _ _ _ _=>bK2 λ_ _=>rfl;have C2:=M e2 (Zry mb) λ_ _ _ _ _ _=>bK1 λ_=>rfl;have C3:=M e3 (Zqj mb C1) λ_ _ _ _ _ _=>bK3 λ_ _ _=>rfl;have C4:=M e4 (Zpa mb) λ_ _ _ _ _ _=>bK1 λ_=>rfl;have C5:=M e5 (Zm5 mb C4) λ_ _ _ _ _ _=>bK1 λ_=>rfl;have C6:=M e6 (Zm7 mb) λ_ _ _ _ _ _=>bK2 λ_ _=>rfl;have C7:=M e7 (Ziw mb) λ_ _ _ _ _ _=>bK1 λ_=>rfl;have C8:=M e8 (Zr9 mb) λ_ _ _ _ _ _=>bK2 λ_ _=>rfl;have C9:=M e9 (Zoz mb) λ_ _ _ _ _ _=>bK4 λ_ _ _ _=>rfl;have C10:=M e10 (Zmp mb C7 C9) λ_ _ _ _ _ _=>bK3 λ_ _ _=>rfl;have C11:=M e11 (Zly mb C6) λ_ _ _ _ _ _=>bK2 λ_ _=>rfl;have C12:=M e12 (Zkd mb C5 C10 C11 C8) λ_ _ _ _ _ _=>bK3 λ_ _ _=>rfl;have C13:=M e13 (Zld mb) λ_ _ _ _ _ _=>bK1 λ_=>rfl;have C14:=M e14 (Zma mb) λ_ _ _ _ _ _=>bK1 λ_=>rfl;have C15:=M e15 (Zm8 mb C1) λ_ _ _ _ _ _=>bK2 λ_ _=>rfl;have C16:=M e16 (Znw mb C13 C14) λ_ _ _ _ _ _=>bK3 λ_ _ _=>rfl;have C17:=M e17 (Zmc mb C13) λ_ _ _ _ _ _=>bK3 λ_ _ _=>rfl;have C18:=M e18 (Zjj mb C16 C17) λ_ _ _ _ _ _=>bK3 λ_ _ _=>rfl;have C19:=M e19 (Zpl mb C1) λ_ _ _ _ _ _=>bK2 λ_ _=>rfl;have C20:=M e20 (Znk mb C1) λ_ _ _ _ _ _=>bK3 λ_ _ _=>rfl;have C21:=M e21 (Zl0 mb C1) λ_ _ _ _ _ _=>bK3 λ_ _ _=>rfl;have C22:=M e22 (Zm3 mb C1 C19 C20 C21) λ_ _ _ _ _ _=>bK3 λ_ _ _=>rfl;exact ok_law mb C2 C3 C15 C22 C12 C18 F
end Lw
open PySem PySem.W PyProof.Rows
set_option maxRecDepth 100000 in
set_option maxHeartbeats 0 in
theorem PySem.Challenge.cw_holefloor_k24_things_that_show_sides_holds : PySem.Challenge.rw_holefloor_k24_things_that_show_sides.Holds := by
 w_on;o_law;k_head; (case hw=>w_witness2)
 k_fill
 refine L2.walk_law (k:=4) (x:="_law_script") (l:=PySem.Challenge.rw_holefloor_k24_things_that_show_sides) ⟨rfl,by decide,by decide,rfl⟩ rfl rfl (λw h Y=>PySem.W.kIn_of Y) ?F
 case F=>
  intro w mg fa h KX G hmg;refine' Lw.all_mk KX G hmg ?e1 ?e2 ?e3 ?e4 ?e5 ?e6 ?e7 ?e8 ?e9 ?e10 ?e11 ?e12 ?e13 ?e14 ?e15 ?e16 ?e17 ?e18 ?e19 ?e20 ?e21 ?e22 ?e23 ?z0 ?z1 ?z2 ?z3 ?z4 ?z5 ?z6 ?z7 ?z8 ?z9 ?z10 ?z11 ?z12 ?z13 ?z14 ?z15 ?z16 ?z17 ?z18
  all_goals first|(refine' Lw.fnE ?a ?l ?c ?k; (case a=>k_is); (case l=>k_is); (case c=>k_is); (case k=>k_is))|k_is

