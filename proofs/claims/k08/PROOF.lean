import PyProof.Rows.All
import Wide.All
import OpenK.AllK
import Wide.FinOn
import Lean
import PyProof.EqAt
import PyProof.EqKinds
import PyProof.TupleCall
import KE.KSortTup
import PyProof.NeKinds
import PyProof.ExcBaseAll.ValueError
import PyProof.ExcArgsOwn
import PyProof.NsDelKeeps
import PyProof.RulesAs
import PyProof.FString
import PyProof.AttrMissSeq
import PyProof.WalksS
import KE.KDictList
import KE.KDictSum
import PyProof.MinMaxWalk
import KE.KMinKey
import PyProof.Rows.CallKwBuiltin
import PyProof.Rows.RuleDivmod
import PyProof.ListMulAny
import PyProof.FactsAll.tuple
import KE.KRevIter
import PyProof.EnumMake
import KE.KMulAny
import PyProof.FactsAll.range
import PyProof.Rows.StrNews
import KE.KIntText
import PyProof.StrWalks
import KE.KLam
import KE.KNestM
import PySem.Challenge.RW_holefloor_k08_no_number_of_an_order
open PySem.Heap renaming get?_push_of_some→Waa, get?_push_size→Wae, lt_size→Waf, get?_update_other→Wav, get?_update_self→Wa6, size_push→Wbw
open List renaming getElem?_eq_getElem→Wab, size_toArray→Wad, length_map→Wag, getElem?_set_ne→Wah, getElem?_eq_some_iff→Wai, getElem?_set_self→Waj, getElem?_map→Wal, length_append→Wan, replicate→Wao, getElem?_append_right→Wap, getD_eq_getElem?_getD→Waq, mem_cons→Wat, length_replicate→Wau, mem_append_right→Waw, mem_cons_of_mem→Wax, length_cons→Way, length_eraseIdx_of_lt→Wa0, range→Wa2, getElem?_append_left→Wa3, mem_of_getElem?→Wa4, length→Wa5, mem_cons_self→Wa7, map_cons→Wa8, cons_append→Wa9, mem_append→Wbb, append_nil→Wbc, not_mem_nil→Wbe, getElem?_replicate→Wbf, lookup_cons→Wbg, length_drop→Wbh, tail→Wbi, mem_range→Wbj, getElem_toArray→Wbk, erase_eq_eraseIdx_of_idxOf→Wbl, map→Wbn, eq_nil_of_length_eq_zero→Wbp, all_eq_true→Wbq, nodup_cons→Wbs, mem_map→Wbt, mem_filter→Wbu, map_append→Wbv, filterMap_cons→Wbx, set_eq_of_length_le→Wby, find?_cons→Wbz, length_take→Wb2, perm_cons_erase→Wb3, mem_append_left→Wb4, length_set→Wb6, filter_append→Wb7, reverse_cons→Wcc, getElem?_set→Wcd, flatMap_cons→Wce, ext_getElem?→Wcf, filter_cons→Wch, take_of_length_le→Wci, of_mem_zip→Wcj, length_singleton→Wck, getElem?_eq_none→Wcl, mem_singleton→Wcr, mem_replicate→Wcs, take_add_one→Wct, length_range→Wcu, map_nil→Wcx, map_map→Wcy, getElem_mem→Wc0
open Nat renaming le_refl→Wac, lt_of_lt_of_le→Wam, ne_of_lt→Was, le_trans→Waz, lt_of_le_of_lt→Wbd, mul_comm→Wbm, lt_irrefl→Wbo, le_of_lt→Wb1, div_lt_of_lt_mul→Wb5, ne_of_gt→Wca, zero_le→Wcg, mul_le_mul_right→Wco, add_le_add_left→Wcp, mod_lt→Wcv, lt_succ_of_lt→Wcw, lt_trans→Wcz
open Bool renaming false_ne_true→Wak, and_eq_true→Wa1, false_eq_true→Wb9, eq_iff_iff→Wcm
open Option renaming some→War
open Int renaming toNat_natCast→Wba, emod_lt_of_pos→Wbr, emod_nonneg→Wb0, fdiv_eq_ediv_of_nonneg→Wb8, zero_add→Wcb, natCast_mul→Wcn, le_refl→Wcq
set_option Elab.async false
set_option linter.all false
set_option maxRecDepth 100000
namespace L2
open PySem PySem.Spec PyProof.Rows
abbrev Key:=Sum Int Str
def keyIs:Key->Value->Bool
 |.inl k,v=>Value.isInt k v
 |.inr x,v=>Value.isStrOf x v
def keyH (w:World):Key->Int
 |.inl k=>hashInt k
 |.inr x=>hashStr w x
theorem Zat:∀{k:Key}{v:Value},keyIs k v=true->(∃i t,k=Sum.inl i/\v=Value.int i t)\/(∃x t,k=Sum.inr x/\v=Value.str x t)
 |.inl i,v,h=>by
  obtain⟨t,e⟩:=Value.isInt_shape (k:=i) (v:=v) h;exact .inl ⟨i,t,rfl,e⟩
 |.inr x,v,h=>by
  obtain⟨t,e⟩:=Value.isStrOf_shape (x:=x) (v:=v) h;exact .inr ⟨x,t,rfl,e⟩
theorem Zie (i:Int) (t:Tok):keyIs (.inl i) (.int i t)=true:=by simp[keyIs,Value.isInt]
theorem Ziq (x:Str) (t:Tok):keyIs (.inr x) (.str x t)=true:=by simp[keyIs,Value.isStrOf]
theorem Zow (a b:Int):decide ((Sum.inl a:Key)=Sum.inl b)=(a == b):=by
 by_cases e:a=b
 ·subst e;simp
 ·have h:¬ (Sum.inl a:Key)=Sum.inl b:=λq=>e (Sum.inl.inj q)
  rw[decide_eq_false h];exact(beq_eq_false_iff_ne.mpr e).symm
theorem Zny (a b:Str):decide ((Sum.inr a:Key)=Sum.inr b)=decide (a=b):=by
 by_cases e:a=b
 ·subst e;simp
 ·have h:¬ (Sum.inr a:Key)=Sum.inr b:=λq=>e (Sum.inr.inj q)
  rw[decide_eq_false h,decide_eq_false e]
theorem Zpn (a:Int) (b:Str):decide ((Sum.inl a:Key)=Sum.inr b)=false:=decide_eq_false (λq=>nomatch q)
theorem Znu (a:Str) (b:Int):decide ((Sum.inr a:Key)=Sum.inl b)=false:=decide_eq_false (λq=>nomatch q)
def mixKind (prog:Program) (w:World):PySem.KeyKind prog w Key where
 is:=keyIs
 hash:=keyH w
 inj:=λv a b ha hb=>by
  rcases Zat ha with ⟨i,t,rfl,rfl⟩|⟨x,t,rfl,rfl⟩
  ·rcases Zat hb with ⟨j,u,rfl,e⟩|⟨y,u,rfl,e⟩
   ·injection e with e1 _;rw[e1]
   ·exact nomatch e
  ·rcases Zat hb with ⟨j,u,rfl,e⟩|⟨y,u,rfl,e⟩
   ·exact nomatch e
   ·injection e with e1 _;rw[e1]
 byValue:=λk v h=>by
  rcases Zat h with ⟨i,t,rfl,rfl⟩|⟨x,t,rfl,rfl⟩ <;> rfl
 pyHash:=λhv h=>by
  rcases Zat hv with ⟨i,t,rfl,rfl⟩|⟨x,t,rfl,rfl⟩
  ·exact wpAny_pyHash_int h
  ·exact wpAny_pyHash_str h
 eqBool:=λhu hv h=>by
  rcases Zat hu with ⟨i,t,rfl,rfl⟩|⟨x,t,rfl,rfl⟩
  ·rcases Zat hv with ⟨j,u,rfl,rfl⟩|⟨y,u,rfl,rfl⟩
   ·rw[Zow]at h;exact wpAny_eqBool_int h
   ·rw[Zpn]at h;exact SeqAt.EqAt.int_str i t y u _ _ _ _ h
  ·rcases Zat hv with ⟨j,u,rfl,rfl⟩|⟨y,u,rfl,rfl⟩
   ·rw[Znu]at h;exact SeqAt.EqAt.str_int x t j u _ _ _ _ h
   ·rw[Zny]at h;exact wpAny_eqBool_str h
 «strs»:=λk x t v h=>by
  rcases Zat h with ⟨i,u,rfl,e⟩|⟨y,u,rfl,e⟩
  ·exact nomatch e
  ·injection e with e1 _
   subst e1;cases v <;> rfl
theorem Zf5 (prog:Program) (w:World) (i:Int) (t:Tok):(mixKind prog w).is (.inl i) (.int i t)=true:=Zie i t
theorem Zgb (prog:Program) (w:World) (x:Str) (t:Tok):(mixKind prog w).is (.inr x) (.str x t)=true:=Ziq x t
end L2
namespace L2
open PySem PySem.Spec PyProof.Rows
inductive V where
 |non|bl (b:Bool)|int (i:Int)|str (x:Str)|byt (b:Array UInt8)|flt (b:UInt64)|ref (a:Addr)|ty (n:String)
 deriving DecidableEq
def RelV:V->Value->Prop
 |.non,u=>u=Value.none
 |.bl b,u=>u=Value.bool b
 |.int i,u=>∃t,u=Value.int i t
 |.str x,u=>∃t,u=Value.str x t
 |.byt b,u=>∃t,u=Value.bytes b t
 |.flt b,u=>∃t,u=Value.float b t
 |.ref a,u=>u=Value.ref a
 |.ty n,u=>u=Value.type n
abbrev Vals:List V->List Value->Prop:=Paired RelV
theorem Vals.length {xs:List V}{us:List Value}(r:Vals xs us):xs.length=us.length:=Paired.length r
theorem Vals.get:∀{xs:List V}{us:List Value}{i:Nat}{x:V},Vals xs us->xs[i]?=some x->∃u,us[i]?=some u/\RelV x u
 |_,_,_,_,.nil,e=>by simp at e
 |_,_,0,_,.cons r _,e=>by simp at e;subst e;exact⟨_,rfl,r⟩
 |_,_,i+1,x,.cons _ t,e=>by
  obtain⟨u,h1,h2⟩:=Vals.get (i:=i) (x:=x) t (by simpa using e);exact⟨u,by simpa using h1,h2⟩
theorem Vals.set {x:V}{u:Value}(r:RelV x u):∀{xs:List V}{us:List Value}(i:Nat),Vals xs us->Vals (xs.set i x) (us.set i u)
 |_,_,_,.nil=>.nil
 |_,_,0,.cons _ t=>.cons r t
 |_,_,i+1,.cons q t=>.cons q (Vals.set r i t)
theorem Vals.append:∀{xs ys:List V}{us ws:List Value},Vals xs us->Vals ys ws->Vals (xs++ys) (us++ws)
 |_,_,_,_,.nil,s=>s
 |_,_,_,_,.cons r t,s=>.cons r (Vals.append t s)
theorem Vals.take:∀{xs:List V}{us:List Value}(n:Nat),Vals xs us->Vals (xs.take n) (us.take n)
 |_,_,0,_=>.nil
 |_,_,_+1,.nil=>.nil
 |_,_,n+1,.cons r t=>.cons r (Vals.take n t)
theorem Vals.drop:∀{xs:List V}{us:List Value}(n:Nat),Vals xs us->Vals (xs.drop n) (us.drop n)
 |_,_,0,r=>r
 |_,_,_+1,.nil=>.nil
 |_,_,n+1,.cons _ t=>Vals.drop n t
def RelO:Option V->Option Value->Prop
 |some v,some u=>RelV v u
 |none,none=>True
 |_,_=>False
def KV {κ:Type}:List (κ × V)->List (κ × Value)->Prop:=Paired λ(p:κ × V) (q:κ × Value)=>p.1=q.1/\RelV p.2 q.2
def kV:Key->V
 |.inl i=>.int i
 |.inr x=>.str x
inductive HO where
 /-- a list -/
 |lst (xs:List V)
 /-- a tuple (never changes) -/
 |tup (xs:List V)
 /-- a dict whose keys are ints and texts;one whose keys are tuples of ints and texts (the empty one is both) -/
 |dK (kvs:List (Key × V))|dT (kvs:List (List Key × V))
 /-- a set of ints: its members,its size -/
 |set (S:Int->Bool) (n:Nat)
 /-- an instance of the class at C,its dict at dx,its attributes -/
 |ins (C dx:Addr) (fs:List (Str × V))
 /-- the dict of the instance at x -/
 |own (x:Addr)
 /-- the dict of an exception -/
 |xd (fs:List (Str × V))
 /-- a bound method,f of x -/
 |met (f x:Addr)
 /-- a range object lo,lo+1,.. below hi -/
 |rng (lo hi:Int)
 /-- a thing that is known to the object (the script;a dict while a loop walks it): read,never written while it is so -/
 |frz (o:Obj) (u:HO)
 /-- a code object's table -/
 |tbl (ps:Array Value)
 /-- any other thing,by what is true of its one object (a def of one's own: SetO a S n:=HO.ext λh=>..) -/
 |ext (φ:Heap->Prop)
abbrev Hp:=Addr->Option HO
def upd (H:Hp) (a:Addr) (o:HO):Hp:=λb=>if b=a then some o else H b
theorem Zai {H:Hp}{a:Addr}{o:HO}:upd H a o a=some o:=by unfold upd;rw[if_pos rfl]
theorem Zag {H:Hp}{a b:Addr}{o:HO}(h:b≠a):upd H a o b=H b:=by unfold upd;rw[if_neg h]
theorem Zht {H:Hp}{a:Addr}{o u:HO}:upd (upd H a o) a u=upd H a u:=by
 funext b;unfold upd;split <;> rfl
theorem Zp2 {H:Hp}{a b:Addr}{o u:HO}(h:H a=some o) (h':H b=some u) (d:o≠u):a≠b:=by
 intro e;subst e;rw[h]at h';exact d (War.inj h')
theorem Zak {H:Hp}{a b:Addr}{o:HO}(h:H a=some o) (h':H b=none):a≠b:=by
 intro e;subst e;rw[h]at h';cases h'
def IsTupN (h:Heap) (a:Addr) (its:Array Value):Prop:=∃o,h.get? a=some o/\(o.cls=.type "tuple" /\ ∃n,o.data=.seq its n)/\o.dict=none
theorem IsTupN.tup {h:Heap}{a:Addr}{its:Array Value}(x:IsTupN h a its):IsTup h a its:=let ⟨o,e,c,_⟩:=x; ⟨o,e,c⟩
theorem IsTupN.new (h:Heap) (items:Array Value):IsTupN (h.push { cls:=.type "tuple",data:=.seq items }) h.objs.size items:=⟨_,Wae _ rfl,⟨rfl,_,rfl⟩,rfl⟩
section
variable (P:Program) (w:World)
def ObjOk (H:Hp) (h:Heap) (a:Addr):HO->Prop
 |.lst xs=>xs.length<=sizeLine/\∃(its:List Value) (n:Nat),Vals xs its/\h.get? a=some { cls:=.type "list",data:=.seq its.toArray n }
 |.tup xs=>xs.length<=sizeLine/\∃its:List Value,Vals xs its/\IsTupN h a its.toArray
 |.dK kvs=>kvs.length<=sizeLine/\(a == sysModules)=false/\∃vs,KV kvs vs/\h.DictOf (mixKind P w) a vs
 |.dT kvs=>kvs.length<=sizeLine/\(a == sysModules)=false/\∃xs:List (List Key × Addr × Value),
   Paired (λ(p:List Key × V) (q:List Key × Addr × Value)=>p.1=q.1/\H q.2.1=some (.tup (p.1.map kV))/\RelV p.2 q.2.2) kvs xs ∧
   ∃o es ep,h.get? a=some o/\o.ExactDict/\o.data=.dict es ep/\es.toList=xs.map (entryOfKey (tupleKind (mixKind P w)))/\(xs.map (·.1)).Nodup
 |.set S n=>h.SetOf (intKind P w) a S n
 |.ins C dx fs=>H dx=some (.own a)/\fs.length<=1000/\dx≠a/\h.get? a=some (PySem.W.instObj C dx) ∧
   ∃mA,h.Ns1 dx mA/\(∀f,RelO (fs.lookup f) (mA f))/\PySem.Within mA (fs.map (·.1))
 |.own _=>∃o,h.get? a=some o
 |.xd fs=>∃mA,h.Ns1 a mA/\∀f,RelO (fs.lookup f) (mA f)
 |.rng lo hi=>∃t u v,h.get? a=some { cls:=.type "range",data:=.fields #[.int lo t,.int hi u,.int 1 v] }
 |.frz o u=>h.get? a=some o/\ObjOk H h a u
 |.tbl ps=>h.get? a=some { cls:=.none,data:=.fields ps }
 |.met f x=>h.get? a=some (PySem.W.methodObj (.ref f) (.ref x))
 |.ext φ=>φ h/\(∃o,h.get? a=some o)/\∀h1 h2:Heap,φ h1->(∀o,h1.get? a=some o->h2.get? a=some o) -> φ h2
def HOk (H:Hp) (h:Heap):Prop:=∀a o,H a=some o->ObjOk P w H h a o
end
section
variable {P:Program}{w:World}{H H':Hp}{h h':Heap}{a:Addr}{o:HO}
theorem ObjOk.lt (x:ObjOk P w H h a o):a<h.objs.size:=by
 cases o with
 |lst xs=>obtain⟨_,_,_,_,e⟩:=x;exact Waf e
 |tup xs=>obtain⟨_,_,_,p⟩:=x;exact p.tup.lt
 |dK kvs=>obtain⟨_,_,_,_,o,_,_,e,_⟩:=x;exact Waf e
 |dT kvs=>obtain⟨_,_,_,_,o,_,_,e,_⟩:=x;exact Waf e
 |set S n=>obtain⟨o,_,_,_,e,_⟩:=x;exact Waf e
 |ins C dx fs=>obtain⟨_,_,_,e,_⟩:=x;exact Waf e
 |own y=>obtain⟨_,e⟩:=x;exact Waf e
 |xd fs=>obtain⟨_,⟨_,_,_,e,_⟩,_⟩:=x;exact Waf e
 |rng lo hi=>obtain⟨_,_,_,e⟩:=x;exact Waf e
 |frz ob u=>obtain⟨e,_⟩:=x;exact Waf e
 |tbl ps=>exact Waf (show h.get? a=some _ from x)
 |met f y=>exact Waf (show h.get? a=some _ from x)
 |ext φ=>obtain⟨_,⟨_,e⟩,_⟩:=x;exact Waf e
theorem Paired.mapP {α β:Type}{F G:α -> β -> Prop}:∀{l₁:List α}{l₂:List β},Paired F l₁ l₂ -> (∀a b,F a b->G a b)->Paired G l₁ l₂
 |_,_,.nil,_=>.nil
 |_,_,.cons r t,f=>.cons (f _ _ r) (Paired.mapP t f)
theorem ObjOk.stay (x:ObjOk P w H h a o) (k:∀b u,(b=a\/H b=some (.own a))->h.get? b=some u->h'.get? b=some u)
  (ho:∀b,H b=some (.own a)->H' b=some (.own a)) (ht:∀b xs,H b=some (.tup xs)->H' b=some (.tup xs)):ObjOk P w H' h' a o:=by
 induction o with
 |lst xs=>obtain⟨z,its,n,r,e⟩:=x;exact⟨z,its,n,r,k _ _ (.inl rfl) e⟩
 |tup xs=>obtain⟨z,its,r,ob,e,c⟩:=x;exact⟨z,its,r,ob,k _ _ (.inl rfl) e,c⟩
 |dK kvs=>obtain⟨z,y,vs,r,ob,es,ep,e,c⟩:=x;exact⟨z,y,vs,r,ob,es,ep,k _ _ (.inl rfl) e,c⟩
 |dT kvs=>
  obtain⟨z,y,xs,r,ob,es,ep,e,c⟩:=x;exact⟨z,y,xs,Paired.mapP r λp q z=>⟨z.1,ht _ _ z.2.1,z.2.2⟩,ob,es,ep,k _ _ (.inl rfl) e,c⟩
 |set S n=>obtain⟨ob,es,ep,t,e,c⟩:=x;exact⟨ob,es,ep,t,k _ _ (.inl rfl) e,c⟩
 |ins C dx fs=>
  obtain⟨d,z,ne,e,mA,⟨od,es,ep,e2,c⟩,r⟩:=x;exact⟨ho _ d,z,ne,k _ _ (.inl rfl) e,mA,⟨od,es,ep,k _ _ (.inr d) e2,c⟩,r⟩
 |own y=>obtain⟨ob,e⟩:=x;exact⟨ob,k _ _ (.inl rfl) e⟩
 |xd fs=>obtain⟨mA,⟨od,es,ep,e,c⟩,r⟩:=x;exact⟨mA,⟨od,es,ep,k _ _ (.inl rfl) e,c⟩,r⟩
 |rng lo hi=>obtain⟨t,u,v,e⟩:=x;exact⟨t,u,v,k _ _ (.inl rfl) e⟩
 |frz ob u ih=>obtain⟨e,q⟩:=x;exact⟨k _ _ (.inl rfl) e,ih q⟩
 |tbl ps=>
  have e:h.get? a=some { cls:=.none,data:=.fields ps }:=x;show h'.get? a=some { cls:=.none,data:=.fields ps };exact k a _ (.inl rfl) e
 |met f y=>
  have e:h.get? a=some (PySem.W.methodObj (.ref f) (.ref y)):=x;show h'.get? a=some (PySem.W.methodObj (.ref f) (.ref y));exact k a _ (.inl rfl) e
 |ext φ=>obtain⟨p,⟨o,e⟩,st⟩:=x;exact⟨st _ _ p λo q=>k _ _ (.inl rfl) q,⟨o,k _ _ (.inl rfl) e⟩,st⟩
theorem HOk.lt (x:HOk P w H h) (e:H a=some o):a<h.objs.size:=(x a o e).lt
theorem HOk.fresh (x:HOk P w H h) (e:h.objs.size<=a):H a=none:=by
 cases q:H a with
 |none=>rfl
 |some u=>exact absurd (Wam (x.lt q) e) (Wbo _)
theorem HOk.kept (x:HOk P w H h) (k:∀b u,h.get? b=some u->h'.get? b=some u):HOk P w H h':=λa o e=>
 (x a o e).stay (λb u _ q=>k b u q) (λ_ q=>q) λ_ _ q=>q
theorem HOk.laid (x:HOk P w H h) (k:∀b u,h.get? b=some u->h'.get? b=some u) (hp:h.objs.size<=a) (new:ObjOk P w (upd H a o) h' a o):HOk P w (upd H a o) h':=λb u e=>by
 have hn:=x.fresh hp;by_cases hb:b=a
 ·subst hb;rw[Zai]at e;cases e;exact new
 ·rw[Zag hb]at e
  exact(x b u e).stay (λc v _ q=>k c v q) (λc q=>by rw[Zag (Zak q hn)];exact q) λc xs q=>by rw[Zag (Zak q hn)];exact q
end
def Rd (H:Hp) (a:Addr) (u:HO):Prop:=H a=some u\/∃o,H a=some (.frz o u)
theorem Rd.ok {P:Program}{w:World}{H:Hp}{h:Heap}{a:Addr}{u:HO}(r:Rd H a u) (x:HOk P w H h):ObjOk P w H h a u:=by
 rcases r with r|⟨o,r⟩
 ·exact x a u r
 ·obtain⟨_,q⟩:=x a _ r
  exact q
def Mut:Option HO->Prop
 |some (.lst _)=>True
 |some (.dK _)=>True
 |some (.dT _)=>True
 |some (.set _ _)=>True
 |some (.ins _ _ _)=>True
 |some (.ext _)=>True
 |_=>False
section
variable {P:Program}{w:World}{H:Hp}{h h':Heap}{x e:Addr}{o':HO}
theorem HOk.write (ok:HOk P w H h) (mu:Mut (H x)) (he:e=x\/H e=some (.own x)) (k:∀b u,b≠e->h.get? b=some u->h'.get? b=some u) (heo:∃u,h'.get? e=some u)
  (new:ObjOk P w (upd H x o') h' x o'):HOk P w (upd H x o') h':=λb u q=>by
 have nown:∀c y,H c=some (.own y)->c≠x:=λc y r z=>by subst z;rw[r]at mu;exact mu
 have ntup:∀c xs,H c=some (.tup xs)->c≠x:=λc xs r z=>by subst z;rw[r]at mu;exact mu
 by_cases hb:b=x
 ·subst hb;rw[Zai]at q;cases q;exact new
 ·rw[Zag hb]at q
  by_cases hbe:b=e
  ·have q':H b=some (.own x):=by
    rcases he with z|z
    ·exact absurd (hbe.trans z) hb
    ·rw[hbe];exact z
   rw[q]at q';cases q';obtain⟨v,hv⟩:=heo;exact⟨v,by rw[hbe];exact hv⟩
  ·refine(ok b u q).stay (λc v hc r=>k c v ?_ r) (λc r=>by rw[Zag (nown c b r)];exact r) λc xs r=>by rw[Zag (ntup c xs r)];exact r
   rcases hc with rfl|hc
   ·exact hbe
   ·rintro rfl
    rcases he with z|z
    ·exact nown c b hc z
    ·rw[hc]at z;cases z;exact hb rfl
end
structure Un (fs ex:List Addr) (H H':Hp) (h h':Heap):Prop where
 keep:∀b o,h.get? b=some o->H b=none->b ∉ fs->b ∉ ex->h'.get? b=some o
 slot:∀b o,h.get? b=some o->H b=none->b∈fs->b ∉ ex->∃sl,h'.get? b=some { o with slots:=sl }
 free:∀b o,h.get? b=some o->H b=none->b ∉ ex->H' b=none
 there:∀b o,h.get? b=some o->b ∉ ex->∃o',h'.get? b=some o'
 tups:∀b xs,H b=some (.tup xs)->H' b=some (.tup xs)
 frzs:∀b o u,H b=some (.frz o u)->H' b=some (.frz o u)
 tbls:∀b ps,H b=some (.tbl ps)->∃more,H' b=some (.tbl (ps++more))
section
variable {fs fs' ex ex':List Addr}{H H1 H2:Hp}{h h1 h2 h':Heap}{a x e:Addr}{o:HO}
theorem Un.any (u:Un fs ex H H1 h h1) {b:Addr}{ob:Obj}(q:h.get? b=some ob) (n:H b=none) (hx:b ∉ ex):∃sl,h1.get? b=some { ob with slots:=sl }:=by
 by_cases hb:b∈fs
 ·exact u.slot b ob q n hb hx
 ·exact⟨ob.slots,u.keep b ob q n hb hx⟩
theorem Un.kept (k:∀b u,h.get? b=some u->h'.get? b=some u):Un fs ex H H h h':=
 ⟨λb ob q _ _ _=>k b ob q,λb ob q _ _ _=>⟨ob.slots,k b ob q⟩,λ_ _ _ n _=>n,λb ob q _=>⟨ob,k b ob q⟩,λ_ _ q=>q,λ_ _ _ q=>q,λ_ ps q=>⟨#[],by rw[q];simp⟩⟩
theorem Un.refl:Un fs ex H H h h:=Un.kept λ_ _ q=>q
theorem Un.laid (k:∀b u,h.get? b=some u->h'.get? b=some u) (hp:h.objs.size<=a) (hn:H a=none):Un fs ex H (upd H a o) h h' where
 keep:=λb u q _ _ _=>k b u q
 slot:=λb u q _ _ _=>⟨u.slots,k b u q⟩
 free:=λb u q n _=>by rw[Zag (Was (Wam (Waf q) hp))];exact n
 there:=λb u q _=>⟨u,k b u q⟩
 tups:=λb xs q=>by rw[Zag (Zak q hn)];exact q
 frzs:=λb u xs q=>by rw[Zag (Zak q hn)];exact q
 tbls:=λb ps q=>⟨#[],by rw[Zag (Zak q hn),q];simp⟩
theorem Un.write (mu:Mut (H x)) (he:e=x\/H e=some (.own x)) (k:∀b u,b≠e->h.get? b=some u->h'.get? b=some u) (heo:∃u,h'.get? e=some u):Un fs ex H (upd H x o) h h':=by
 have hx:∀b,H b=none->b≠x:=λb n z=>by subst z;rw[n]at mu;exact mu
 have hb:∀b,H b=none->b≠e:=λb n z=>by
  subst z;rcases he with r|r
  ·exact hx b n r
  ·rw[n]at r;cases r
 have hm:∀b u,H b=some u->¬ Mut (some u)->b≠x:=λb u q nm z=>by subst z;rw[q]at mu;exact nm mu
 refine⟨λb u q n _ _=>k b u (hb b n) q,λb u q n _ _=>⟨u.slots,k b u (hb b n) q⟩,λb u q n _=>by rw[Zag (hx b n)];exact n,λb u q _=>?_,
  λb xs q=>by rw[Zag (hm b _ q λz=>z)];exact q,λb u xs q=>by rw[Zag (hm b _ q λz=>z)];exact q,λb ps q=>⟨#[],by rw[Zag (hm b _ q λz=>z),q];simp⟩⟩
 by_cases hbe:b=e
 ·subst hbe;exact heo
 ·exact⟨u,k b u hbe q⟩
end
def trk (h:Heap) (H:Hp):List Addr:=(Wa2 h.objs.size).filter λa=>(H a).isSome
def hidT (h:Heap) (H:Hp):Heap:=PySem.W.hideAll h (trk h H)
theorem Zib (h:Heap) (H:Hp):(hidT h H).objs.size=h.objs.size:=PySem.W.hideAll_size _ _
theorem Zes {h:Heap}{H:Hp}{b:Addr}{o:Obj}(e:h.get? b=some o) (n:H b=none):(hidT h H).get? b=some o:=
 PySem.W.hideAll_get _ e λhm=>by
  have q:(H b).isSome=true:=(Wbu.mp hm).2;rw[n]at q;simp at q
theorem Zm4 {h:Heap}{H:Hp}{b:Addr}{o:Obj}(e:(hidT h H).get? b=some o):h.get? b=some o/\H b=none:=by
 have e':h.get? b=some o:=PySem.W.of_hideAll (trk h H) e;refine⟨e',?_⟩;cases q:H b with
 |none=>rfl
 |some x=>
  have hm:b∈trk h H:=Wbu.mpr ⟨Wbj.mpr (Waf e'),by simp[q]⟩;have z:(hidT h H).get? b=none:=PySem.W.hideAll_none (trk h H) hm;rw[z]at e;cases e
def allNews (g h:Heap) (L:Addr):List (Addr × Obj):=(Wa2 h.objs.size).filterMap λa=>if a=L\/(g.get? a).isSome=true then none else (h.get? a).map λo=>(a,o)
def rest (g h:Heap) (L d:Addr):List (Addr × Obj):=(allNews g h L).filter λp=>decide (p.1≠d)
end L2
namespace L2
open PySem PySem.Spec PyProof.Rows
structure Mod (K:W.Frag) (mg:Str->Option Value) (base:Heap):Prop where
 kin:K.In base
 glob:base.Ns mainGlobals mg
 blt:∃mb,base.Ns builtinsNs mb/\∀x:Str,x ≠ "__name__" -> mb x=bootBuiltins x
 nolimit:base.NoLimit
structure Cx where
 prog:Program
 w:World
 K:W.Frag
 mg:Str->Option Value
 base:Heap
 A:Around
 N:List Str
 s₀:Shared
 H₀:Hp
 env:Env
 outer:List Env
 stack:List Env
 ex:List Addr
 fn:Str->Bool
 calm:Bool
 pn:List (Addr × Obj)
 xe:Value->Shared->Prop
def frs (l:List Env):List Addr:=l.filterMap (·.frame)
abbrev Cx.fs (X:Cx):List Addr:=frs X.outer
def Vis (sc:Scope) (x:Str):Prop:=sc.names.lookup x=some .local\/sc.names.lookup x=some .cell\/sc.names.lookup x=some .free
def Loc (sc:Scope) (x:Str):Prop:=sc.names.lookup x=some .local\/sc.names.lookup x=some .cell
def Look (env:Env) (h:Heap) (m:Str->Option Value) (x:Str) (u:Value):Prop:=
 (env.kindOf x=some .local/\m x=some u)\/((env.kindOf x=some .cell\/env.kindOf x=some .free)/\∃c,env.cells.lookup x=some c/\h.IsCell c (some u))
structure Cx.Ok (X:Cx):Prop where
 mod:Mod X.K X.mg X.base
 kind:X.env.scope.kind=.function
 glob:X.env.globals=mainGlobals
 blt:X.env.builtins=builtinsNs
 above:X.s₀.heap.objs.size<=X.env.locals
 inj:∀x y c,X.env.cells.lookup x=some c->X.env.cells.lookup y=some c->x=y
 has:∀x,(X.env.kindOf x=some .cell\/X.env.kindOf x=some .free)->∃c,X.env.cells.lookup x=some c
 cab:∀x c,X.fn x=true->X.env.cells.lookup x=some c->X.s₀.heap.objs.size<=c
 hd:X.calm=true->X.A.handled=none
 frames:X.A.frames=some X.stack
 stk:X.stack=X.outer\/(X.stack=X.env::X.outer/\X.env.frame=some X.env.locals)
 exf:∀b∈X.ex,b≠X.env.locals/\∀x c,X.env.cells.lookup x=some c->c≠b
 bs:∀b o,X.base.get? b=some o->X.s₀.heap.get? b=some o/\X.H₀ b=none
 bsz:X.base.objs.size<=X.s₀.heap.objs.size
 noex:∀b o,X.base.get? b=some o->b ∉ X.ex
 exfs:∀b∈X.ex,b ∉ X.fs
 funs:X.s₀.heap.FunFrames X.base X.outer
 frf:∀b∈X.fs,X.H₀ b=none
structure Inv (X:Cx) (pins:List (Addr × Obj)) (σ:List (Option V)) (H:Hp) (s:Shared):Prop where
 ok:X.Ok
 os:s.os=X.s₀.os
 bare:AllBare s.gens
 base:Un X.fs X.ex X.H₀ H X.s₀.heap s.heap
 loc:∃m,s.heap.Ns X.env.locals m/\∀(i:Nat) (x:Str) (v:V),X.N[i]?=some x -> σ[i]?=some (some v)->Vis X.env.scope x->∃u,RelV v u/\Look X.env s.heap m x u
 cell:∀x c,X.env.cells.lookup x=some c->∃v,s.heap.IsCell c v
 free:H X.env.locals=none
 freeC:∀x c,X.env.cells.lookup x=some c->H c=none
 pin:∀p∈X.pn++pins,s.heap.get? p.1=some p.2/\H p.1=none/\p.1≠X.env.locals/\p.1 ∉ X.fs/\∀v,p.2.data≠.cell v
 hok:HOk X.prog X.w H s.heap
 len:σ.length=X.N.length
section
variable {X:Cx}{pins:List (Addr × Obj)}{σ:List (Option V)}{H H':Hp}{s:Shared}{h':Heap}
theorem Cx.Ok.nofr (ok:X.Ok) {b:Addr}{o:Obj}(e:X.base.get? b=some o):b ∉ X.fs:=λhb=>by
 have:=(ok.funs.mem hb).1;rw[e]at this;cases this
theorem Inv.bs (I:Inv X pins σ H s):∀b o,X.base.get? b=some o->s.heap.get? b=some o/\H b=none:=λb o e=>
 ⟨I.base.keep b o (I.ok.bs b o e).1 (I.ok.bs b o e).2 (I.ok.nofr e) (I.ok.noex b o e),I.base.free b o (I.ok.bs b o e).1 (I.ok.bs b o e).2 (I.ok.noex b o e)⟩
theorem Inv.bk (I:Inv X pins σ H s):∀b o,X.base.get? b=some o->s.heap.get? b=some o:=λb o e=>(I.bs b o e).1
theorem Inv.mod (I:Inv X pins σ H s):Mod X.K X.mg X.base:=I.ok.mod
theorem Inv.kIn (I:Inv X pins σ H s):X.K.In s.heap:=I.ok.mod.kin.keeps I.bk
theorem Inv.fr (I:Inv X pins σ H s):∃m,Fr X.base X.env.locals s.heap m:=
 let ⟨m,hn,_⟩:=I.loc
 ⟨m,hn,I.bk,Waz I.ok.bsz I.ok.above⟩
theorem Inv.lt (I:Inv X pins σ H s):X.env.locals<s.heap.objs.size:=let ⟨_,hn,_⟩:=I.loc;hn.lt
theorem Inv.sz (I:Inv X pins σ H s):X.s₀.heap.objs.size<=s.heap.objs.size:=Waz I.ok.above (Wb1 I.lt)
theorem Inv.nofs (I:Inv X pins σ H s) {a:Addr}(h:s.heap.objs.size<=a):a ∉ X.fs:=λhb=>by
 obtain⟨_,o,ho,_⟩:=I.ok.funs.mem hb;exact absurd (Wam (Waf ho) (Waz I.sz h)) (Wbo _)
theorem Inv.cne (I:Inv X pins σ H s):∀x c,X.env.cells.lookup x=some c->c≠X.env.locals:=λx c e z=>by
 obtain⟨v,o,ho,hd⟩:=I.cell x c e;obtain⟨m,⟨o',es,ep,ho',hd',_⟩,_⟩:=I.loc;rw[z,ho']at ho;cases ho;rw[hd']at hd;cases hd
theorem Inv.funs (I:Inv X pins σ H s):s.heap.FunFrames X.base X.outer:=by
 have all:∀(l:List Env),(∀b∈frs l,b∈X.fs)->X.s₀.heap.FunFrames X.base l->s.heap.FunFrames X.base l:=by
  intro l
  induction l with
  |nil=>intro _ _;trivial
  |cons env r ih=>
   intro hs hl;obtain⟨hk,⟨L,o,hf,hn,ho,hd⟩,hr⟩:=hl;have hL:L∈X.fs:=hs L (by unfold frs;rw[Wbx,hf];exact Wa7);obtain⟨sl,e⟩:=I.base.slot L o ho (I.ok.frf L hL) hL λz=>I.ok.exfs L z hL;exact⟨hk,⟨L,_,hf,hn,e,hd⟩,ih (λb hb=>hs b (by unfold frs;rw[Wbx,hf];exact Wax _ hb)) hr⟩
 exact all X.outer (λ_ hb=>hb) I.ok.funs
theorem Inv.stack (I:Inv X pins σ H s):s.heap.FunFrames X.base X.stack:=by
 rcases I.ok.stk with e|⟨e,hf⟩
 ·rw[e];exact I.funs
 ·rw[e]
  obtain⟨m,hn,_⟩:=I.loc;refine .cons (by rw[I.ok.kind];decide) hf hn ?_ I.funs;exact Heap.get?_none_of_le (Waz I.ok.bsz I.ok.above)
theorem Inv.stkSub (I:Inv X pins σ H s):∀b∈frs X.stack,b∈X.env.locals::X.fs:=λb hb=>by
 rcases I.ok.stk with e|⟨e,hf⟩
 ·rw[e]at hb;exact Wax _ hb
 ·rw[e]at hb
  unfold frs at hb;rw[Wbx,hf]at hb;exact hb
theorem Inv.stkFree (I:Inv X pins σ H s):∀b∈frs X.stack,H b=none:=λb hb=>by
 rcases Wat.mp (I.stkSub b hb) with e|hb
 ·rw[e];exact I.free
 ·obtain⟨_,o,ho,_⟩:=I.ok.funs.mem hb
  exact I.base.free b o ho (I.ok.frf b hb) λz=>I.ok.exfs b z hb
theorem Inv.step {g':Array GenState}{t':Nat}{d':Drawn}{ch:List Addr}(I:Inv X pins σ H s)
  (hch:∀b∈ch,(b∈X.ex\/X.s₀.heap.objs.size<=b)/\b≠X.env.locals/\(∀x c,X.env.cells.lookup x=some c->c≠b)/\∀p∈X.pn++pins,p.1≠b)
  (keep:∀b o,b≠X.env.locals->b ∉ X.fs->b ∉ ch->s.heap.get? b=some o->H b=none->h'.get? b=some o)
  (slot:∀b o,b≠X.env.locals->b∈X.fs->b ∉ ch->s.heap.get? b=some o->H b=none->∃sl,h'.get? b=some { o with slots:=sl }) (free:∀b o,b ∉ ch->s.heap.get? b=some o->H b=none->H' b=none)
  (there:∀b o,b ∉ ch->s.heap.get? b=some o->∃o',h'.get? b=some o')
  (tups:∀b xs,H b=some (.tup xs)->H' b=some (.tup xs)) (frzs:∀b o u,H b=some (.frz o u)->H' b=some (.frz o u)) (tbls:∀b ps,H b=some (.tbl ps)->∃more,H' b=some (.tbl (ps++more)))
  (ns:∀m,s.heap.Ns X.env.locals m->h'.Ns X.env.locals m) (hok:HOk X.prog X.w H' h') (hg:AllBare g') :
  Inv X pins σ H' { s with heap:=h',gens:=g',drawn:=d',toks:=t' }:=by
 have neL:∀b o,X.s₀.heap.get? b=some o->b≠X.env.locals:=λb o e=>Was (Wam (Waf e) I.ok.above);have neC:∀b o,X.s₀.heap.get? b=some o->b ∉ X.ex->b ∉ ch:=λb o e hx hb=>by
  rcases(hch b hb).1 with z|z
  ·exact hx z
  ·exact absurd (Wam (Waf e) z) (Wbo _)
 have cellK:∀x c,X.env.cells.lookup x=some c->∀v,s.heap.IsCell c v->h'.IsCell c v:=λx c e v hq_=>by
  obtain⟨o,ho,hd⟩:=hq_;have nch:c ∉ ch:=λz=>(hch c z).2.2.1 x c e rfl;by_cases hc:c∈X.fs
  ·obtain⟨sl,q⟩:=slot c o (I.cne x c e) hc nch ho (I.freeC x c e)
   exact⟨_,q,hd⟩
  ·exact⟨o,keep c o (I.cne x c e) hc nch ho (I.freeC x c e),hd⟩
 refine⟨I.ok,I.os,hg,⟨λb o e n hb hx=>?_,λb o e n hb hx=>?_,λb o e n hx=>?_,λb o e hx=>?_,λb xs e=>tups b xs (I.base.tups b xs e),λb o xs e=>frzs b o xs (I.base.frzs b o xs e),λb ps e=>?_⟩,?_,λx c e=>?_,?_,λx c e=>?_,λp hp=>?_,hok,I.len⟩
 ·exact keep b o (neL b o e) hb (neC b o e hx) (I.base.keep b o e n hb hx) (I.base.free b o e n hx)
 ·obtain⟨sl,e1⟩:=I.base.slot b o e n hb hx
  obtain⟨sl',e2⟩:=slot b _ (neL b o e) hb (neC b o e hx) e1 (I.base.free b o e n hx);exact⟨sl',e2⟩
 ·obtain⟨o',e1⟩:=I.base.there b o e hx
  exact free b o' (neC b o e hx) e1 (I.base.free b o e n hx)
 ·obtain⟨o',e1⟩:=I.base.there b o e hx
  exact there b o' (neC b o e hx) e1
 ·obtain⟨m1,e1⟩:=I.base.tbls b ps e
  obtain⟨m2,e2⟩:=tbls b _ e1;exact⟨m1++m2,by rw[e2,Array.append_assoc]⟩
 ·obtain⟨m,hn,hl⟩:=I.loc
  refine⟨m,ns m hn,λi x v e1 e2 e3=>?_⟩;obtain⟨u,r,l⟩:=hl i x v e1 e2 e3;refine⟨u,r,?_⟩;rcases l with l|⟨k,c,e,z⟩
  ·exact .inl l
  ·exact .inr ⟨k,c,e,cellK x c e _ z⟩
 ·obtain⟨v,z⟩:=I.cell x c e
  exact⟨v,cellK x c e v z⟩
 ·obtain⟨m,⟨o,_,_,ho,_⟩,_⟩:=I.loc
  exact free _ o (λz=>(hch _ z).2.1 rfl) ho I.free
 ·obtain⟨v,o,ho,hd⟩:=I.cell x c e
  exact free c o (λz=>(hch c z).2.2.1 x c e rfl) ho (I.freeC x c e)
 ·obtain⟨e,n,ne,nf,d⟩:=I.pin p hp
  have nch:p.1 ∉ ch:=λz=>(hch p.1 z).2.2.2 p hp rfl;exact⟨keep p.1 p.2 ne nf nch e n,free p.1 p.2 nch e n,ne,nf,d⟩
theorem Inv.un {t':Nat}(I:Inv X pins σ H s) (u:Un X.fs [] H H' s.heap h') (hok:HOk X.prog X.w H' h'):Inv X pins σ H' { s with heap:=h',toks:=t' }:=by
 obtain⟨m,⟨o,es,ep,ho,r⟩,_⟩:=id I.loc;obtain⟨sl,hL⟩:=u.any ho I.free (by simp);exact I.step (g':=s.gens) (d':=s.drawn) (ch:=[]) (λ_ z=>nomatch z) (λb o _ hb _ e n=>u.keep b o e n hb (by simp)) (λb o _ hb _ e n=>u.slot b o e n hb (by simp)) (λb o _ e n=>u.free b o e n (by simp)) (λb o _ e=>u.there b o e (by simp)) u.tups u.frzs u.tbls (λm' hm=>by
  obtain⟨o',es',ep',ho',r'⟩:=hm;rw[ho]at ho';cases ho';exact⟨_,es',ep',hL,r'⟩) hok I.bare
theorem Inv.call {g':Array GenState}{t':Nat}{d':Drawn}{ch:List Addr}(I:Inv X pins σ H s) (u:Un (frs X.stack) ch H H' s.heap h') (hok:HOk X.prog X.w H' h') (hg:AllBare g')
  (hch:∀b∈ch,(b∈X.ex\/X.s₀.heap.objs.size<=b)/\b≠X.env.locals/\(∀x c,X.env.cells.lookup x=some c->c≠b)/\∀p∈X.pn++pins,p.1≠b) :
  Inv X pins σ H' { s with heap:=h',gens:=g',drawn:=d',toks:=t' }:=by
 obtain⟨m,⟨o,es,ep,ho,r⟩,_⟩:=id I.loc;obtain⟨sl,hL⟩:=u.any ho I.free λz=>(hch _ z).2.1 rfl;exact I.step (ch:=ch) hch (λb o hL hb hc e n=>u.keep b o e n (λz=>(Wat.mp (I.stkSub b z)).elim hL hb) hc) (λb o _ _ hc e n=>u.any e n hc) (λb o hc e n=>u.free b o e n hc) (λb o hc e=>u.there b o e hc) u.tups u.frzs u.tbls (λm' hm=>by
  obtain⟨o',es',ep',ho',r'⟩:=hm;rw[ho]at ho';cases ho';exact⟨_,es',ep',hL,r'⟩) hok hg
theorem Inv.turned {t':Nat}{it:Addr}(I:Inv X pins σ H s) (k:∀b o,b≠it->s.heap.get? b=some o->h'.get? b=some o) (hn:H it=none) (hL:it≠X.env.locals)
  (h1:it∈X.ex\/X.s₀.heap.objs.size<=it) (h2:∀x c,X.env.cells.lookup x=some c->c≠it) (h3:∀p∈X.pn++pins,p.1≠it):Inv X pins σ H { s with heap:=h',toks:=t' }:=by
 have nit:∀b u,H b=some u->b≠it:=λb u e z=>by rw[z,hn]at e;cases e
 refine I.step (g':=s.gens) (d':=s.drawn) (ch:=[it]) (λb hb=>?_) (λb o _ _ hc e _=>k b o (λz=>hc (by simp[z])) e) (λb o _ _ hc e _=>⟨o.slots,k b o (λz=>hc (by simp[z])) e⟩) (λ_ _ _ _ n=>n)
  (λb o hc e=>⟨o,k b o (λz=>hc (by simp[z])) e⟩) (λ_ _ e=>e) (λ_ _ _ e=>e) (λb ps e=>⟨#[],by rw[e];simp⟩) (λm hm=>?_) (λb u e=>?_) I.bare
 ·have e:b=it:=by simpa using hb
  subst e;exact⟨h1,hL,h2,h3⟩
 ·obtain⟨o,es,ep,ho,r⟩:=hm
  exact⟨o,es,ep,k _ o (Ne.symm hL) ho,r⟩
 ·refine(I.hok b u e).stay (λc v hc q=>k c v ?_ q) (λ_ q=>q) λ_ _ q=>q
  rcases hc with z|z
  ·rw[z];exact nit b u e
  ·exact nit c _ z
theorem Inv.tok (I:Inv X pins σ H s) (t:Nat):Inv X pins σ H { s with toks:=t }:=I.un (h':=s.heap) (t':=t) Un.refl I.hok
theorem Inv.kept {t':Nat}(I:Inv X pins σ H s) (k:∀b u,s.heap.get? b=some u->h'.get? b=some u):Inv X pins σ H { s with heap:=h',toks:=t' }:=I.un (Un.kept k) (I.hok.kept k)
theorem Inv.laid {a:Addr}{o:HO}{t':Nat}(I:Inv X pins σ H s) (k:∀b u,s.heap.get? b=some u->h'.get? b=some u) (hp:s.heap.objs.size<=a) (new:ObjOk X.prog X.w (upd H a o) h' a o) :
  Inv X pins σ (upd H a o) { s with heap:=h',toks:=t' }:=I.un (Un.laid k hp (I.hok.fresh hp)) (I.hok.laid k hp new)
theorem Inv.write {x e:Addr}{o:HO}{t':Nat}(I:Inv X pins σ H s) (mu:Mut (H x)) (he:e=x\/H e=some (.own x)) (k:∀b u,b≠e->s.heap.get? b=some u->h'.get? b=some u) (heo:∃u,h'.get? e=some u)
  (new:ObjOk X.prog X.w (upd H x o) h' x o):Inv X pins σ (upd H x o) { s with heap:=h',toks:=t' }:=I.un (Un.write mu he k heo) (I.hok.write mu he k heo new)
theorem Inv.weak {σ':List (Option V)}(I:Inv X pins σ H s) (hl:σ'.length = σ.length) (w:∀(i:Nat) v,σ'[i]?=some (some v) -> σ[i]?=some (some v)):Inv X pins σ' H s:=
 ⟨I.ok,I.os,I.bare,I.base,let ⟨m,hn,hl'⟩:=I.loc; ⟨m,hn,λi x v e1 e2 e3=>hl' i x v e1 (w i v e2) e3⟩,I.cell,I.free,I.freeC,I.pin,I.hok,hl.trans I.len⟩
theorem Inv.pins_of {pins':List (Addr × Obj)}(I:Inv X pins σ H s) (h:∀p∈pins',s.heap.get? p.1=some p.2/\H p.1=none/\p.1≠X.env.locals/\p.1 ∉ X.fs/\∀v,p.2.data≠.cell v):Inv X pins' σ H s:=
 ⟨I.ok,I.os,I.bare,I.base,I.loc,I.cell,I.free,I.freeC,λp hp=>(Wbb.mp hp).elim (λz=>I.pin p (Wb4 _ z)) (h p),I.hok,I.len⟩
theorem Zem {N:List Str}(hN:N.Nodup) {i j:Nat}{x:Str}(a:N[i]?=some x) (b:N[j]?=some x):i=j:=by
 obtain⟨h1,e1⟩:=Wai.mp a;obtain⟨h2,e2⟩:=Wai.mp b;exact(List.getElem_inj hN).mp (e1.trans e2.symm)
theorem Zfs {M:Model}{A:Around}{E:Value->Shared->Prop}{i:Nat}{x:Str}{v:V}{u:Value}{Q:Unit->Shared->Prop}(I:Inv X pins σ H s) (hN:X.N.Nodup) (hi:X.N[i]?=some x) (hx:Loc X.env.scope x) (r:RelV v u)
  (h:∀s',Inv X pins (σ.set i (some v)) H s' -> (∃a,Heap.SameBut a s.heap s'.heap/\(a=X.env.locals\/X.env.cells.lookup x=some a))->Q () s') (hf:X.fn x=true\/X.env.scope.names.lookup x=some .local:=by first|exact .inl rfl|exact .inr rfl|assumption):wpAny M A (storeName X.env x u) Q E s:=by
 obtain⟨m,hn,hl⟩:=id I.loc;have hcls:(X.env.scope.kind == .class || (X.env.scope.kind == .module && X.env.locals != X.env.globals))=false:=by rw[I.ok.kind];rfl
 have hiσ:i < σ.length:=by rw[I.len];exact(Wai.mp hi).1
 have cne:=I.cne;have tracked:∀{a:Addr}{h':Heap},(∃o,s.heap.get? a=some o/\H a=none)->Heap.SameBut a s.heap h' -> HOk X.prog X.w H h':=λ{a h'} ha hs b ob e=>by
  obtain⟨_,_,hfree⟩:=ha;refine(I.hok b ob e).stay (λc w' hc q=>(hs.2 c ?_).trans q) (λ_ q=>q) λ_ _ q=>q;rintro rfl;rcases hc with rfl|hc
  ·rw[hfree]at e;cases e
  ·rw[hfree]at hc;cases hc
 rcases hx with hk|hk
 ·refine wpAny_storeName_local hk hn (λh' hn' hs=>?_) hcls
  obtain⟨oL,_,_,hoL,_⟩:=id hn;refine h _ ⟨I.ok,I.os,I.bare,⟨λb o e n hb hx=>?_,λb o e n hb hx=>?_,I.base.free,λb o e hx=>?_,I.base.tups,I.base.frzs,I.base.tbls⟩,⟨_,hn',λj y v' e1 e2 e3=>?_⟩,λy c e=>?_,I.free,I.freeC,λp hp=>?_,tracked ⟨oL,hoL,I.free⟩ hs,by simpa using I.len⟩ ⟨_,hs,.inl rfl⟩
  ·exact(hs.2 b (Was (Wam (Waf e) I.ok.above))).trans (I.base.keep b o e n hb hx)
  ·obtain⟨sl,e1⟩:=I.base.slot b o e n hb hx
   exact⟨sl,(hs.2 b (Was (Wam (Waf e) I.ok.above))).trans e1⟩
  ·obtain⟨o',e1⟩:=I.base.there b o e hx
   exact⟨o',(hs.2 b (Was (Wam (Waf e) I.ok.above))).trans e1⟩
  ·by_cases hj:j=i
   ·subst hj
    rw[hi]at e1;cases e1;rw[Waj hiσ]at e2;cases e2;exact⟨u,r,.inl ⟨hk,by simp⟩⟩
   ·rw[Wah (Ne.symm hj)]at e2
    obtain⟨u',r',q⟩:=hl j y v' e1 e2 e3;refine⟨u',r',?_⟩;rcases q with ⟨k,e⟩|⟨k,c,e,z⟩
    ·refine .inl ⟨k,?_⟩
     have:y≠x:=λe=>hj (Zem hN e1 (e ▸ hi));simp[this,e]
    ·exact .inr ⟨k,c,e,z.sameBut hs (cne y c e)⟩
  ·obtain⟨w',z⟩:=I.cell y c e
   exact⟨w',z.sameBut hs (cne y c e)⟩
  ·obtain⟨e,n,ne,nf,d⟩:=I.pin p hp
   exact⟨(hs.2 p.1 ne).trans e,n,ne,nf,d⟩
 ·have hfn:X.fn x=true:=by
   rcases hf with z|z
   ·exact z
   ·rw[z]at hk;cases hk
  obtain⟨c,hc⟩:=I.ok.has x (.inl hk);obtain⟨w',z⟩:=I.cell x c hc;refine wpAny_storeName_cell I.ok.kind hk hc z (λh' hc' hs=>?_);obtain⟨oc,hoc,hocd⟩:=id z;refine h { s with heap:=h' } ⟨I.ok,I.os,I.bare,⟨λb o e n hb hx=>?_,λb o e n hb hx=>?_,I.base.free,λb o e hx=>?_,I.base.tups,I.base.frzs,I.base.tbls⟩,⟨m,hn.sameBut hs (Ne.symm (cne x c hc)),λj y v' e1 e2 e3=>?_⟩,λy c' e=>?_,I.free,I.freeC,λp hp=>?_,tracked ⟨oc,hoc,I.freeC x c hc⟩ hs,by simpa using I.len⟩ ⟨c,hs,.inr hc⟩
  ·exact(hs.2 b (Was (Wam (Waf e) (I.ok.cab x c hfn hc)))).trans (I.base.keep b o e n hb hx)
  ·obtain⟨sl,e1⟩:=I.base.slot b o e n hb hx
   exact⟨sl,(hs.2 b (Was (Wam (Waf e) (I.ok.cab x c hfn hc)))).trans e1⟩
  ·obtain⟨o',e1⟩:=I.base.there b o e hx
   exact⟨o',(hs.2 b (Was (Wam (Waf e) (I.ok.cab x c hfn hc)))).trans e1⟩
  ·by_cases hj:j=i
   ·subst hj
    rw[hi]at e1;cases e1;rw[Waj hiσ]at e2;cases e2;exact⟨u,r,.inr ⟨.inl hk,c,hc,hc'⟩⟩
   ·rw[Wah (Ne.symm hj)]at e2
    obtain⟨u',r',q⟩:=hl j y v' e1 e2 e3;refine⟨u',r',?_⟩;rcases q with q|⟨k,c',e,z'⟩
    ·exact .inl q
    ·refine .inr ⟨k,c',e,z'.sameBut hs ?_⟩
     rintro rfl;exact hj (Zem hN e1 (I.ok.inj _ _ _ e hc ▸ hi))
  ·by_cases hcc:c'=c
   ·subst hcc;exact⟨_,hc'⟩
   ·obtain⟨w2,z2⟩:=I.cell y c' e
    exact⟨w2,z2.sameBut hs hcc⟩
  ·obtain⟨e,n,ne,nf,d⟩:=I.pin p hp
   refine⟨(hs.2 p.1 ?_).trans e,n,ne,nf,d⟩;intro q;rw[q,hoc]at e;have q':oc=p.2:=War.inj e;exact d w' (by rw[<- q'];exact hocd)
theorem Zb5 {M:Model}{A:Around}{E:Value->Shared->Prop}{i:Nat}{x:Str}{v:V}{u:Value}{Q:Unit->Shared->Prop}(I:Inv X pins σ H s) (hN:X.N.Nodup) (hi:X.N[i]?=some x) (hx:Loc X.env.scope x) (r:RelV v u)
  (h:∀s',Inv X pins (σ.set i (some v)) H s' -> Q () s') (hf:X.fn x=true\/X.env.scope.names.lookup x=some .local:=by first|exact .inl rfl|exact .inr rfl|assumption):wpAny M A (storeName X.env x u) Q E s:=
 Zfs I hN hi hx r (λs' I' _=>h s' I') hf
theorem Inv.call' {s':Shared}{ch:List Addr}(I:Inv X pins σ H s) (ho:s'.os=s.os) (u:Un (frs X.stack) ch H H' s.heap s'.heap) (hok:HOk X.prog X.w H' s'.heap) (hg:AllBare s'.gens)
  (hch:∀b∈ch,(b∈X.ex\/X.s₀.heap.objs.size<=b)/\b≠X.env.locals/\(∀x c,X.env.cells.lookup x=some c->c≠b)/\∀p∈X.pn++pins,p.1≠b):Inv X pins σ H' s':=by
 obtain⟨h',g',d',t',o'⟩:=s';have e:o'=s.os:=ho;subst e;exact I.call (g':=g') (t':=t') (d':=d') u hok hg hch
end
abbrev XK:=Value->Option Addr->Hp->Prop
abbrev St:=List (Option V)
abbrev VK:=V->Hp->Prop
abbrev TE:=St->Hp->VK->Prop
abbrev TT:=St->Hp->(Bool->Hp->Prop)->Prop
abbrev TA:=St->Hp->(List V->Hp->Prop)->Prop
structure Ends where
 nx:St->Hp->Prop
 rt:VK
 bk:St->Hp->Prop:=λ_ _=>False
 ct:St->Hp->Prop:=λ_ _=>False
abbrev TS:=Ends->St->Hp->Prop
def EP (X:Cx) (pins:List (Addr × Obj)) (σ:St) (Q:VK) (u:Value) (s':Shared):Prop:=∃v H',Inv X pins σ H' s' /\ RelV v u/\Q v H'
def TP (X:Cx) (pins:List (Addr × Obj)) (σ:St) (Q:Bool->Hp->Prop) (b:Bool) (s':Shared):Prop:=∃H',Inv X pins σ H' s' /\ Q b H'
def AP (X:Cx) (pins:List (Addr × Obj)) (σ:St) (Q:List V->Hp->Prop) (us:List Value) (s':Shared):Prop:=∃vs H',Inv X pins σ H' s' /\ Vals vs us/\Q vs H'
def SP (X:Cx) (pins:List (Addr × Obj)) (D:Ends) (f:Flow) (s':Shared):Prop:=
 match f with
 |.next=>∃σ' H',Inv X pins σ' H' s' /\ D.nx σ' H'
 |.brk=>∃σ' H',Inv X pins σ' H' s' /\ D.bk σ' H'
 |.cont=>∃σ' H',Inv X pins σ' H' s' /\ D.ct σ' H'
 |.ret u=>∃v σ' H',Inv X pins σ' H' s' /\ RelV v u/\D.rt v H'
def PE (X:Cx) (e:Expr) (t:TE):Prop:=
 ∀(pins:List (Addr × Obj)) (s:Shared) (σ:St) (H:Hp) (Q:VK),Inv X pins σ H s->t σ H Q->wpAny (model X.prog X.w) X.A (eval e X.env) (EP X pins σ Q) X.xe s
def PT (X:Cx) (e:Expr) (t:TT):Prop:=
 ∀(pins:List (Addr × Obj)) (s:Shared) (σ:St) (H:Hp) (Q:Bool->Hp->Prop),Inv X pins σ H s->t σ H Q->wpAny (model X.prog X.w) X.A (isTrue e X.env (eval e X.env)) (TP X pins σ Q) X.xe s
def PW (X:Cx) (e:Expr) (t:TT):Prop:=
 ∀(whole:Sem Value) (pins:List (Addr × Obj)) (s:Shared) (σ:St) (H:Hp) (Q:Bool->Hp->Prop),Inv X pins σ H s->t σ H Q->wpAny (model X.prog X.w) X.A (isTrue e X.env whole) (TP X pins σ Q) X.xe s
theorem PW.pt {X:Cx}{e:Expr}{t:TT}(h:PW X e t):PT X e t:=h _
def PA (X:Cx) (es:List Expr) (t:TA):Prop:=
 ∀(pos:Pos) (pins:List (Addr × Obj)) (s:Shared) (σ:St) (H:Hp) (Q:List V->Hp->Prop),Inv X pins σ H s->t σ H Q->wpAny (model X.prog X.w) X.A (spliced (backTo pos (starEach es X.env))) (AP X pins σ Q) X.xe s
def PS (X:Cx) (st:Stmt) (t:TS):Prop:=
 ∀(pins:List (Addr × Obj)) (s:Shared) (σ:St) (H:Hp) (D:Ends),Inv X pins σ H s->t D σ H->wpAny (model X.prog X.w) X.A (exec st X.env) (SP X pins D) X.xe s
def PSs (X:Cx) (st:List Stmt) (t:TS):Prop:=
 ∀(pins:List (Addr × Obj)) (s:Shared) (σ:St) (H:Hp) (D:Ends),Inv X pins σ H s->t D σ H->wpAny (model X.prog X.w) X.A (execs st X.env) (SP X pins D) X.xe s
theorem thn {α:Type}{t:Sem α}{Q Q':α -> Shared->Prop}{M:Model}{A:Around}{E:Value->Shared->Prop}{s:Shared}(h:wpAny M A t Q E s) (hQ:∀a s,Q a s->Q' a s):wpAny M A t Q' E s:=wpAny_mono h hQ λ_ _ x=>x
end L2
namespace L2
open PySem PySem.Spec PyProof.Rows
section
variable {X:Cx}
def tVar (i:Nat):TE:=λσ H Q=>∃v,σ[i]?=some (some v)/\Q v H
def tC (v:V):TE:=λ_ H Q=>Q v H
theorem Zkx {i:Nat}{x:Str}{pos:Pos}(hN:X.N[i]?=some x) (hv:Vis X.env.scope x) (hd:(x == ("__debug__":Str))=false:=by decide) (hcd:(x == ("__classdict__":Str))=false:=by decide):PE X (.Name x pos) (tVar i):=by
 intro pins s σ H Q I h;obtain⟨v,e,h⟩:=h;obtain⟨m,hn,hl⟩:=I.loc;obtain⟨u,r,l⟩:=hl i x v hN e hv;have fin:EP X pins σ Q u s:=⟨v,H,I,r,h⟩;rcases l with ⟨hk,hm⟩|⟨hk,c,hc,hcell⟩
 ·exact wpAny_Name (wpAny_loadName_local I.ok.kind hk hn hm fin) hd
 ·rcases hk with hk|hk
  ·exact wpAny_Name (wpAny_loadName_cell I.ok.kind hk hc hcell fin) hd
  ·exact wpAny_Name (wpAny_loadName_free I.ok.kind hk hc hcell fin hcd) hd
theorem Zaf {i j pos}:PE X (.Constant (.int i) j pos) (tC (.int i)):=λ_ _ _ H _ I h=>wpAny_Constant_int ⟨.int i,H,I.tok _,⟨_,rfl⟩,h⟩
theorem Zm5 {b j pos}:PE X (.Constant (.bool b) j pos) (tC (.bl b)):=λ_ _ _ H _ I h=>Constant_bool ⟨.bl b,H,I,rfl,h⟩
theorem Zk4 {j pos}:PE X (.Constant .none j pos) (tC .non):=λ_ _ _ H _ I h=>Constant_none ⟨.non,H,I,rfl,h⟩
theorem Zax {x j pos}:PE X (.Constant (.str x) j pos) (tC (.str x)):=λ_ _ _ H _ I h=>Calls.Constant_str ⟨.str x,H,I.tok _,⟨_,rfl⟩,h⟩
def Gl (X:Cx) (x:Str):Prop:=X.env.kindOf x=some .globalImplicit
theorem Zc1 {E:Value->Shared->Prop}{pins:List (Addr × Obj)}{s:Shared}{σ:St}{H:Hp}{x:Str}{u:Value}{pos:Pos}{Q:Value->Shared->Prop}(I:Inv X pins σ H s) (hg:Gl X x) (hm:X.mg x=some u) (h:Q u s)
  (hd:(x == ("__debug__":Str))=false:=by decide):wpAny (model X.prog X.w) X.A (eval (.Name x pos) X.env) Q E s:=
 Calls.Name_function_global I.ok.kind hg (Calls.loadGlobal_global (by rw[I.ok.glob];exact I.mod.glob.keeps I.bk) hm h) hd
theorem Zc4 {E:Value->Shared->Prop}{pins:List (Addr × Obj)}{s:Shared}{σ:St}{H:Hp}{x:Str}{u:Value}{pos:Pos}{Q:Value->Shared->Prop}(I:Inv X pins σ H s) (hg:Gl X x) (hm:X.mg x=none) (hv:bootBuiltins x=some u) (h:Q u s)
  (hn:x ≠ "__name__":=by decide) (hd:(x == ("__debug__":Str))=false:=by decide):wpAny (model X.prog X.w) X.A (eval (.Name x pos) X.env) Q E s:=by
 obtain⟨mb,h1,h2⟩:=I.mod.blt;exact Calls.Name_function_global I.ok.kind hg (Calls.loadGlobal_builtin (by rw[I.ok.glob];exact I.mod.glob.keeps I.bk) hm (by rw[I.ok.blt];exact h1.keeps I.bk) ((h2 x hn).trans hv) h) hd
theorem Za2 {x:Str}{v:V}{u:Value}{pos:Pos}(hg:Gl X x) (hm:X.mg x=some u) (r:RelV v u) (hd:(x == ("__debug__":Str))=false:=by decide):PE X (.Name x pos) (tC v):=
 λ_ _ _ H _ I h=>Zc1 I hg hm ⟨v,H,I,r,h⟩ hd
theorem Zdd {x:Str}{v:V}{u:Value}{pos:Pos}(hg:Gl X x) (hm:X.mg x=none) (hv:bootBuiltins x=some u) (r:RelV v u) (hn:x ≠ "__name__":=by decide) (hd:(x == ("__debug__":Str))=false:=by decide):PE X (.Name x pos) (tC v):=
 λ_ _ _ H _ I h=>Zc4 I hg hm hv ⟨v,H,I,r,h⟩ hn hd
variable {a b:Expr}{ta tb:TE}{pos:Pos}
variable {tA tB':TT}{rest:List Expr}
def tAnd (t u:TT):TT:=λσ H Q=>t σ H λc H1=>if c=true then u σ H1 Q else Q false H1
def tOr (t u:TT):TT:=λσ H Q=>t σ H λc H1=>if c=true then Q true H1 else u σ H1 Q
def tNot (t:TT):TT:=λσ H Q=>t σ H λc H1=>Q (!c) H1
theorem pw_and1 (ha:PT X a tA):PW X (.BoolOp .And [a] pos) tA:=by
 intro wh pins s σ H Q I h;refine isTrue_and (thn (ha pins s σ H Q I h) λc s1 e=>?_);cases c with
 |true=>exact isTrue_and_nil e
 |false=>exact e
theorem pw_or1 (ha:PT X a tA):PW X (.BoolOp .Or [a] pos) tA:=by
 intro wh pins s σ H Q I h;refine isTrue_or (thn (ha pins s σ H Q I h) λc s1 e=>?_);cases c with
 |false=>exact isTrue_or_nil e
 |true=>exact e
theorem pw_and (ha:PT X a tA) (hb:PW X (.BoolOp .And (b::rest) pos) tB'):PW X (.BoolOp .And (a::b::rest) pos) (tAnd tA tB'):=by
 intro wh pins s σ H Q I h;refine isTrue_and (thn (ha pins s σ H _ I h) λc s1 ⟨H1,I1,q1⟩=>?_);cases c with
 |true=>exact hb wh pins s1 σ H1 Q I1 q1
 |false=>exact⟨H1,I1,q1⟩
theorem pw_or (ha:PT X a tA) (hb:PW X (.BoolOp .Or (b::rest) pos) tB'):PW X (.BoolOp .Or (a::b::rest) pos) (tOr tA tB'):=by
 intro wh pins s σ H Q I h;refine isTrue_or (thn (ha pins s σ H _ I h) λc s1 ⟨H1,I1,q1⟩=>?_);cases c with
 |true=>exact⟨H1,I1,q1⟩
 |false=>exact hb wh pins s1 σ H1 Q I1 q1
theorem Zgr (ha:PT X a tA):PT X (.UnaryOp .Not a pos) (tNot tA):=by
 intro pins s σ H Q I h;exact isTrue_not (ha pins s σ H (λc H1=>Q (!c) H1) I h)
def tAndV (ta tb:TE):TE:=λσ H Q=>ta σ H λx H1=>∃c,x=.bl c/\if c=true then tb σ H1 Q else Q (.bl false) H1
def tOrV (ta tb:TE):TE:=λσ H Q=>ta σ H λx H1=>∃c,x=.bl c/\if c=true then Q (.bl true) H1 else tb σ H1 Q
def tNotV (ta:TE):TE:=λσ H Q=>ta σ H λx H1=>∃c,x=.bl c/\Q (.bl (!c)) H1
theorem Zlb {op} {t:TE}(h:PE X a t):PE X (.BoolOp op [a] pos) t:=λpins s σ H Q I hw=>BoolOp_one (h pins s σ H Q I hw)
theorem Zk8 (ha:PE X a ta) (hb:PE X (.BoolOp .And (b::rest) pos) tb):PE X (.BoolOp .And (a::b::rest) pos) (tAndV ta tb):=by
 intro pins s σ H Q I h;refine BoolOp_and (thn (ha pins s σ H _ I h) λv s1 ⟨x,H1,I1,r1,q1⟩=>?_);obtain⟨c,rfl,q1⟩:=q1;cases r1;refine wpAny_truthy_bool ?_;cases c with
 |true=>exact hb pins s1 σ H1 Q I1 q1
 |false=>exact⟨.bl false,H1,I1,rfl,q1⟩
theorem Zld (ha:PE X a ta):PE X (.UnaryOp .Not a pos) (tNotV ta):=by
 intro pins s σ H Q I h;refine UnaryOp_ (thn (ha pins s σ H _ I h) λv s1 ⟨x,H1,I1,r1,q1⟩=>?_);obtain⟨c,rfl,q1⟩:=q1;cases r1;exact not_of (wpAny_truthy_bool ⟨.bl (!c),H1,I1,rfl,q1⟩)
end
end L2
namespace L2
open PySem PySem.Spec PyProof.Rows
def SqL (K:W.Frag) (H:Hp) (a:Addr) (xs:List V):Prop:=
 Rd H a (.lst xs) ∨
  ∃(o:Obj) (its:Array Value) (n:Nat),K.lookup a=some o/\o.cls=.type "list" /\ o.dict=none/\o.data=.seq its n/\its.size<=sizeLine/\Vals xs its.toList
def SqT (K:W.Frag) (H:Hp) (a:Addr) (xs:List V):Prop:=
 Rd H a (.tup xs) ∨
  ∃(o:Obj) (its:Array Value) (n:Nat),K.lookup a=some o/\o.cls=.type "tuple" /\ o.data=.seq its n/\its.size<=sizeLine/\Vals xs its.toList
def absV:Value->Option V
 |.none=>some .non
 |.bool b=>some (.bl b)
 |.int i _=>some (.int i)
 |.str x _=>some (.str x)
 |.bytes b _=>some (.byt b)
 |.float b _=>some (.flt b)
 |.ref a=>some (.ref a)
 |.type n=>some (.ty n)
 |_=>none
theorem RelV.abs {x:V}{u:Value}(r:RelV x u):absV u=some x:=by
 cases x with
 |non=>cases r;rfl
 |bl _=>cases r;rfl
 |int _=>obtain⟨t,rfl⟩:=r;rfl
 |str _=>obtain⟨t,rfl⟩:=r;rfl
 |byt _=>obtain⟨t,rfl⟩:=r;rfl
 |flt _=>obtain⟨t,rfl⟩:=r;rfl
 |ref _=>cases r;rfl
 |ty _=>cases r;rfl
theorem RelV.inj {x y:V}{u:Value}(r:RelV x u) (q:RelV y u):x=y:=War.inj (r.abs.symm.trans q.abs)
theorem Vals.inj:∀{xs ys:List V}{us:List Value},Vals xs us->Vals ys us->xs=ys
 |_,_,_,.nil,.nil=>rfl
 |_,_,_,.cons r t,.cons r' t'=>by rw[r.inj r',Vals.inj t t']
section
variable {X:Cx}{pins:List (Addr × Obj)}{σ:St}{H:Hp}{s:Shared}{a:Addr}{xs ys:List V}
theorem SqL.of {K:W.Frag}(h:H a=some (.lst xs)):SqL K H a xs:=.inl (.inl h)
theorem SqT.of {K:W.Frag}(h:H a=some (.tup xs)):SqT K H a xs:=.inl (.inl h)
theorem Inv.list (I:Inv X pins σ H s) (h:SqL X.K H a xs):∃its:List Value,Vals xs its/\PlainL s.heap a its.toArray/\xs.length<=sizeLine:=by
 rcases h with h|⟨o,its,n,hk,hc,hd,hs,hz,r⟩
 ·obtain⟨z,its,n,r,e⟩:=h.ok I.hok
  exact⟨its,r,⟨_,n,e,rfl,rfl,rfl⟩,z⟩
 ·refine⟨its.toList,r,⟨o,n,I.kIn a o hk,hc,hd,by simpa using hs⟩,?_⟩
  have e:=r.length;simp only[Array.length_toList]at e;omega
theorem Inv.tuple (I:Inv X pins σ H s) (h:SqT X.K H a xs):∃its:List Value,Vals xs its/\IsTup s.heap a its.toArray/\xs.length<=sizeLine:=by
 rcases h with h|⟨o,its,n,hk,hc,hs,hz,r⟩
 ·obtain⟨z,its,r,p⟩:=h.ok I.hok
  exact⟨its,r,p.tup,z⟩
 ·refine⟨its.toList,r,⟨o,I.kIn a o hk,hc,n,by simpa using hs⟩,?_⟩
  have e:=r.length;simp only[Array.length_toList]at e;omega
theorem Inv.list_inj (I:Inv X pins σ H s) (h:SqL X.K H a xs) (h':SqL X.K H a ys):xs=ys:=by
 obtain⟨its,r,⟨o,n,e,_,_,d⟩,_⟩:=I.list h;obtain⟨its',r',⟨o',n',e',_,_,d'⟩,_⟩:=I.list h';rw[e]at e';cases e';rw[d]at d';injection d' with d1 _
 have:its=its':=by simpa using congrArg Array.toList d1
 subst this;exact r.inj r'
theorem Inv.tuple_inj (I:Inv X pins σ H s) (h:SqT X.K H a xs) (h':SqT X.K H a ys):xs=ys:=by
 obtain⟨its,r,⟨o,e,_,n,d⟩,_⟩:=I.tuple h;obtain⟨its',r',⟨o',e',_,n',d'⟩,_⟩:=I.tuple h';rw[e]at e';cases e';rw[d]at d';injection d' with d1 _
 have:its=its':=by simpa using congrArg Array.toList d1
 subst this;exact r.inj r'
end
abbrev Cx.wish (X:Cx) (E:Value->Shared->Prop):Cx:={ X with xe:=E }
abbrev Cx.nox (X:Cx):Cx:=X.wish λ_ _=>False
theorem Cx.Ok.wish {X:Cx}(ok:X.Ok) (E:Value->Shared->Prop):(X.wish E).Ok:=
 ⟨ok.mod,ok.kind,ok.glob,ok.blt,ok.above,ok.inj,ok.has,ok.cab,ok.hd,ok.frames,ok.stk,ok.exf,ok.bs,ok.bsz,ok.noex,ok.exfs,ok.funs,ok.frf⟩
theorem Cx.Ok.unwish {X:Cx}{E:Value->Shared->Prop}(ok:(X.wish E).Ok):X.Ok:=
 ⟨ok.mod,ok.kind,ok.glob,ok.blt,ok.above,ok.inj,ok.has,ok.cab,ok.hd,ok.frames,ok.stk,ok.exf,ok.bs,ok.bsz,ok.noex,ok.exfs,ok.funs,ok.frf⟩
section
variable {X:Cx}{pins:List (Addr × Obj)}{σ:St}{H:Hp}{s:Shared}{E:Value->Shared->Prop}
theorem Inv.wish (I:Inv X pins σ H s) (E:Value->Shared->Prop):Inv (X.wish E) pins σ H s:=⟨I.ok.wish E,I.os,I.bare,I.base,I.loc,I.cell,I.free,I.freeC,I.pin,I.hok,I.len⟩
theorem Inv.unwish (I:Inv (X.wish E) pins σ H s):Inv X pins σ H s:=⟨I.ok.unwish,I.os,I.bare,I.base,I.loc,I.cell,I.free,I.freeC,I.pin,I.hok,I.len⟩
theorem SP.unwish {D:Ends}{f:Flow}{s':Shared}(h:SP (X.wish E) pins D f s'):SP X pins D f s':=by
 cases f with
 |next=>obtain⟨σ',H',I,q⟩:=h;exact⟨σ',H',I.unwish,q⟩
 |brk=>obtain⟨σ',H',I,q⟩:=h;exact⟨σ',H',I.unwish,q⟩
 |cont=>obtain⟨σ',H',I,q⟩:=h;exact⟨σ',H',I.unwish,q⟩
 |ret u=>obtain⟨v,σ',H',I,r,q⟩:=h;exact⟨v,σ',H',I.unwish,r,q⟩
theorem PSs.nox {st:List Stmt}{t:TS}(h:PSs X.nox st t):PSs X st t:=λpins s σ H D I hw=>
 wpAny_mono (h pins s σ H D (I.wish _) hw) (λ_ _ q=>q.unwish) λ_ _ z=>False.elim z
end
section
variable {X:Cx}{st:Stmt}{rest:List Stmt}{t u:TS}{e:Expr}{te:TE}{pos:Pos}
def tNext:TS:=λD σ H=>D.nx σ H
def tSeq (t u:TS):TS:=λD σ H=>t { D with nx:=u D } σ H
theorem Zbc:PSs X [] tNext:=λ_ _ σ H _ I h=>wpAny_execs_nil ⟨σ,H,I,h⟩
theorem Zad (h1:PS X st t) (h2:PSs X rest u):PSs X (st::rest) (tSeq t u):=by
 intro pins s σ H D I h;refine wpAny_execs_cons (thn (h1 pins s σ H { D with nx:=u D } I h) λf s1 q=>?_);cases f with
 |next=>
  obtain⟨σ',H',I',q⟩:=q;exact h2 pins s1 σ' H' D I' q
 |ret v=>exact q
 |brk=>exact q
 |cont=>exact q
theorem Zam (h1:PS X st t):PSs X [st] t:=by
 intro pins s σ H D I h;refine wpAny_execs_cons (thn (h1 pins s σ H D I h) λf s1 q=>?_);cases f with
 |next=>exact wpAny_execs_nil q
 |ret v=>exact q
 |brk=>exact q
 |cont=>exact q
theorem Inv.quiet {pins:List (Addr × Obj)}{σ:St}{H:Hp}{s:Shared}(I:Inv X pins σ H s):interactive X.env=false:=by simp[interactive,I.ok.kind]
def tDrop (te:TE):TS:=λD σ H=>te σ H λ_ H1=>D.nx σ H1
theorem Ze0 (he:PE X e te) (hs:swapsWith e none pos.line X.env=pure false:=by rfl):PS X (.Expr e pos) (tDrop te):=by
 intro pins s σ H D I h;exact wpAny_Expr_any (thn (he pins s σ H _ I h) λv s1 ⟨x,H1,I1,r1,q1⟩=>⟨σ,H1,I1,q1⟩) I.quiet hs
def tRet (te:TE):TS:=λD σ H=>te σ H D.rt
theorem Za4 (he:PE X e te):PS X (.Return (some e) pos) (tRet te):=by
 intro pins s σ H D I h;exact wpAny_Return_some (thn (he pins s σ H _ I h) λv s1 ⟨x,H1,I1,r1,q1⟩=>⟨x,σ,H1,I1,r1,q1⟩)
def tIfS (c:TT) (t u:TS):TS:=λD σ H=>c σ H λb H1=>if b=true then t D σ H1 else u D σ H1
theorem Zc7 {c:Expr}{a b:List Stmt}{tc:TT}(hc:PT X c tc) (ha:PSs X a t) (hb:PSs X b u):PS X (.If c a b pos) (tIfS tc t u):=by
 intro pins s σ H D I h;refine wpAny_If (thn (hc pins s σ H _ I h) λd s1 ⟨H1,I1,q1⟩=>?_);cases d with
 |true=>exact ha pins s1 σ H1 D I1 q1
 |false=>exact hb pins s1 σ H1 D I1 q1
def tNever:TS:=λ_ _ _=>False
theorem Zfu {sts:List Stmt}:PSs X sts tNever:=λ_ _ _ _ _ _ h=>h.elim
end
abbrev TG:=V->St->Hp->(St->Hp->Prop)->Prop
abbrev TGs:=List V->St->Hp->(St->Hp->Prop)->Prop
def PG (X:Cx) (target:Expr) (t:TG):Prop:=
 ∀(pins:List (Addr × Obj)) (s:Shared) (σ:St) (H:Hp) (v:V) (u:Value) (Q:St->Hp->Prop),Inv X pins σ H s->RelV v u->t v σ H Q →
  wpAny (model X.prog X.w) X.A (assign target X.env u) (λ_ s'=>∃σ' H',Inv X pins σ' H' s' /\ Q σ' H') X.xe s
def PGs (X:Cx) (ts:List Expr) (t:TGs):Prop:=
 ∀(pins:List (Addr × Obj)) (s:Shared) (σ:St) (H:Hp) (vs:List V) (us:List Value) (Q:St->Hp->Prop),Inv X pins σ H s->Vals vs us->t vs σ H Q →
  wpAny (model X.prog X.w) X.A (assignInOrder ((assignEach ts X.env).map (·.2)) us) (λ_ s'=>∃σ' H',Inv X pins σ' H' s' /\ Q σ' H') X.xe s
abbrev TSet:=V->V->V->Hp->(Hp->Prop)->Prop
def PSet (X:Cx) (t:TSet):Prop:=
 ∀(pins:List (Addr × Obj)) (s:Shared) (σ:St) (H:Hp) (o i v:V) (ov iv u:Value) (Q:Hp->Prop),Inv X pins σ H s->RelV o ov->RelV i iv->RelV v u->t o i v H Q →
  wpAny (model X.prog X.w) X.A (setItem ov iv u) (λ_ s'=>∃H',Inv X pins σ H' s' /\ Q H') X.xe s
abbrev TIp:=V->V->Hp->VK->Prop
def PIp (X:Cx) (op:Operator) (t:TIp):Prop:=
 ∀(pins:List (Addr × Obj)) (s:Shared) (σ:St) (H:Hp) (x y:V) (v u:Value) (Q:VK),Inv X pins σ H s->RelV x v->RelV y u->t x y H Q →
  wpAny (model X.prog X.w) X.A (inplaceOp op v u) (EP X pins σ Q) X.xe s
section
variable {X:Cx}{pos:Pos}
def gName (i:Nat):TG:=λv σ H Q=>Q (σ.set i (some v)) H
theorem Za0 {i:Nat}{x:Str}(hN:X.N.Nodup) (hi:X.N[i]?=some x) (hx:Loc X.env.scope x) (hf:X.fn x=true\/X.env.scope.names.lookup x=some .local:=by first|exact .inl rfl|exact .inr rfl|assumption):PG X (.Name x pos) (gName i):=by
 intro pins s σ H v u Q I r h;exact wpAny_assign_Name (Zb5 I hN hi hx r (λs' I'=>⟨_,H,I',h⟩) hf)
def gNil:TGs:=λvs σ H Q=>vs=[]/\Q σ H
def gCons (t:TG) (u:TGs):TGs:=λvs σ H Q=>∃v r,vs=v::r/\t v σ H λσ' H'=>u r σ' H' Q
theorem Zex:PGs X [] gNil:=by
 intro pins s σ H vs us Q I r h;obtain⟨e,h⟩:=h;subst e;cases r;exact assignInOrder_nil ⟨σ,H,I,h⟩
theorem Zbn {e:Expr}{es:List Expr}{t:TG}{u:TGs}(h1:PG X e t) (h2:PGs X es u)
  (hs:(assignEach (e::es) X.env).map (·.2)=assign e X.env::(assignEach es X.env).map (·.2):=by rfl):PGs X (e::es) (gCons t u):=by
 intro pins s σ H vs us Q I r h;obtain⟨v,vr,e1,h⟩:=h;subst e1;cases r with
 |cons r rr=>
  rw[hs];refine assignInOrder_cons (thn (h1 pins s σ H _ _ _ I r h) λ_ s1 ⟨σ1,H1,I1,q1⟩=>?_);exact h2 pins s1 σ1 H1 _ _ Q I1 rr q1
def gTup (K:W.Frag) (n:Nat) (t:TGs):TG:=λv σ H Q=>∃a xs,v=.ref a/\SqT K H a xs/\xs.length=n/\t xs σ H Q
theorem Zog {es:List Expr}{k:Nat}{t:TGs}{n:Nat}(hc:X.calm=true) (h:PGs X es t)
  (hn:(assignEach es X.env).length=n:=by rfl) (hst:(assignEach es X.env).findIdx? (·.1)=none:=by rfl):PG X (.Tuple es k pos) (gTup X.K n t):=by
 intro pins s σ H v u Q I r hw;obtain⟨a,xs,e1,hq,hl,hw⟩:=hw;subst e1;cases r;obtain⟨its,rv,ht,hz⟩:=I.tuple hq;refine assign_Tuple_tuple (I.ok.hd hc) ht (by simp[hn,<- hl,rv.length]) hst λh' hx=>?_;have I1:Inv X pins σ H { s with heap:=h' }:=I.kept (t':=s.toks) λb o e=>hx b o (Was (Waf e)) e;exact h pins _ σ H xs _ Q I1 (by simpa using rv) hw
def gSub (to ti:TE) (t:TSet):TG:=λv σ H Q=>to σ H λo H1=>ti σ H1 λi H2=>t o i v H2 λH3=>Q σ H3
theorem Zhv {o i:Expr}{to ti:TE}{t:TSet}(ho:PE X o to) (hi:PE X i ti) (hs:PSet X t)
  (ha:∀v,assign (.Subscript o i pos) X.env v=(do
   let ov ← holding [v] (eval o X.env)
   let iv ← holding [v,ov] (eval i X.env)
   standAt pos
   holding [v,ov,iv] (setItem ov iv v)
   release [v,ov,iv] []):=by intro _;rfl):PG X (.Subscript o i pos) (gSub to ti t):=by
 intro pins s σ H v u Q I r h;rw[ha];refine wpAny_bind (wpAny_holding (thn (ho pins s σ H _ I h) λov s1 ⟨x,H1,I1,r1,q1⟩=>?_));refine wpAny_bind (wpAny_holding (thn (hi pins s1 σ H1 _ I1 q1) λiv s2 ⟨y,H2,I2,r2,q2⟩=>?_));refine wpAny_bind (wpAny_standAt (wpAny_bind (wpAny_holding (thn (hs pins s2 σ H2 x y v ov iv u _ I2 r1 r2 r q2) λ_ s3 ⟨H3,I3,q3⟩=>?_))));exact wpAny_release ⟨σ,H3,I3,q3⟩
def tAsg (te:TE) (g:TG):TS:=λD σ H=>te σ H λx H1=>g x σ H1 D.nx
theorem Zfw {tg e:Expr}{te:TE}{g:TG}(he:PE X e te) (hg:PG X tg g) (hs:swapsWithSole [tg] e pos.line X.env=pure false:=by rfl) (hw:swappedStores [tg] e X.env=pure none:=by rfl)
  (h1:(assignEach [tg] X.env).map (·.2)=[assign tg X.env]:=by rfl):PS X (.Assign [tg] e pos) (tAsg te g):=by
 intro pins s σ H D I h;refine wpAny_Assign_stores (thn (he pins s σ H _ I h) λv s1 ⟨x,H1,I1,r1,q1⟩=>?_) hs hw;rw[h1];exact thn (hg pins s1 σ H1 x v _ I1 r1 q1) λ_ s2 q=>q
theorem Zao {i:Nat}{x:Str}{e:Expr}{te:TE}{pos':Pos}(hN:X.N.Nodup) (hi:X.N[i]?=some x) (hx:Loc X.env.scope x) (he:PE X e te) (hs:swapsWith e (some (.Name x pos')) pos.line X.env=pure false:=by rfl) (hf:X.fn x=true\/X.env.scope.names.lookup x=some .local:=by first|exact .inl rfl|exact .inr rfl|assumption) :
  PS X (.Assign [.Name x pos'] e pos) (tAsg te (gName i)):=by
 intro pins s σ H D I h;refine wpAny_Assign_Name (thn (he pins s σ H _ I h) λv s1 ⟨y,H1,I1,r1,q1⟩=>?_) hs;exact Zb5 I1 hN hi hx r1 (λs2 I2=>⟨_,H1,I2,q1⟩) hf
def tPar (i j:Nat) (ta:TA):TS:=λD σ H=>ta σ H λvs H1=>∃v w,vs=[v,w]/\D.nx ((σ.set i (some v)).set j (some w)) H1
theorem Zk0 {i j:Nat}{x y:Str}{a b:Expr}{ta:TA}{px py pt:Pos}{kt k2 pt2} (hc:X.calm=true) (hN:X.N.Nodup) (hi:X.N[i]?=some x) (hj:X.N[j]?=some y) (hij:i≠j)
  (hx:X.env.scope.names.lookup x=some .local) (hy:X.env.scope.names.lookup y=some .local) (ha:PA X [a,b] ta)
  (hw:swappedStores [.Tuple [.Name x px,.Name y py] kt pt] (.Tuple [a,b] k2 pt2) X.env=pure (some [x,y]))
  (hs:swapsWithSole [.Tuple [.Name x px,.Name y py] kt pt] (.Tuple [a,b] k2 pt2) pos.line X.env=pure false:=by rfl) :
  PS X (.Assign [.Tuple [.Name x px,.Name y py] kt pt] (.Tuple [a,b] k2 pt2) pos) (tPar i j ta):=by
 intro pins s σ H D I h;rw[exec_Assign_arm];refine wpAny_bind (wpAny_standAt ?_);rw[hs];refine wpAny_bind (wpAny_pure ?_);rw[if_neg (by decide)];refine wpAny_bind (Tuple_ (thn (ha _ pins s σ H _ I h) λus s1 ⟨vs,H1,I1,r1,q1⟩=>?_));obtain⟨v,w,e1,q1⟩:=q1;subst e1;obtain⟨u1,u2,rfl,rv,rw'⟩:∃u1 u2,us=[u1,u2]/\RelV v u1/\RelV w u2:=by
  cases r1 with
  |cons p q=>
   cases q with
   |cons p' q'=>
    cases q';exact⟨_,_,rfl,p,p'⟩
 refine wpAny_newObj_type ?_ (by show 2<=sizeLine;decide);have I2:Inv X pins σ H1 { s1 with heap:=s1.heap.push { cls:=.type "tuple",data:=.seq [u1,u2].toArray } }:=I1.kept (t':=s1.toks) λb o e=>Waa _ e;rw[hw];refine wpAny_bind (wpAny_pure ?_);show wpAny (model X.prog X.w) X.A (do rule "assign.swapped-stores";let items ← unpackItems (.ref s1.heap.objs.size) 2 none;assignInOrder [λv=>bindName X.env y v,λv=>bindName X.env x v] items.reverse;pure Flow.next) _ _ _;refine wpAny_bind (wpAny_rule (wpAny_bind (unpackItems_tuple (items:=#[u1,u2]) (I.ok.hd hc) (IsTup.new s1.heap _) λh' hx'=>?_)));have I3:=I2.kept (h':=h') (t':=s1.toks) λb o e=>hx' b o (Was (Waf e)) e;show wpAny _ _ (assignInOrder [λv=>bindName X.env y v,λv=>bindName X.env x v] [u2,u1] >>= λ_=>pure Flow.next) _ _ _;refine wpAny_bind (assignInOrder_cons (wpAny_bindName (Zb5 I3 hN hj (.inl hy) rw' (λs2 I4=>?_) (.inr hy))));refine assignInOrder_cons (wpAny_bindName (Zb5 I4 hN hi (.inl hx) rv (λs3 I5=>assignInOrder_nil (wpAny_pure ?_)) (.inr hx)));rw[List.set_comm _ _ (Ne.symm hij)]at I5;exact⟨_,H1,I5,q1⟩
def tAug (i:Nat) (te:TE) (ti:TIp):TS:=λD σ H=>∃x,σ[i]?=some (some x)/\te σ H λy H1=>ti x y H1 λz H2=>D.nx (σ.set i (some z)) H2
theorem Zjj {i:Nat}{x:Str}{e:Expr}{te:TE}{op:Operator}{ti:TIp}{pos':Pos}(hN:X.N.Nodup) (hi:X.N[i]?=some x) (hx:Loc X.env.scope x) (he:PE X e te) (ho:PIp X op ti) (hf:X.fn x=true\/X.env.scope.names.lookup x=some .local:=by first|exact .inl rfl|exact .inr rfl|assumption) :
  PS X (.AugAssign (.Name x pos') op e pos) (tAug i te ti):=by
 intro pins s σ H D I h;obtain⟨v,e1,h⟩:=h;obtain⟨m,hn,hl⟩:=I.loc;have vis:Vis X.env.scope x:=by rcases hx with k|k;exact .inl k;exact .inr (.inl k)
 obtain⟨u,r,l⟩:=hl i x v hi e1 vis;refine wpAny_AugAssign_Name ?_;have go:wpAny (model X.prog X.w) X.A (eval e X.env) (λw s₂=>wpAny (model X.prog X.w) X.A (inplaceOp op u w) (λr s₃=>wpAny (model X.prog X.w) X.A (storeName X.env x r) (λ_=>SP X pins D .next) X.xe s₃) X.xe s₂) X.xe s:=by
  refine thn (he pins s σ H _ I h) λw s1 ⟨y,H1,I1,r1,q1⟩=>?_;refine thn (ho pins s1 σ H1 v y u w _ I1 r r1 q1) λz s2 ⟨zv,H2,I2,r2,q2⟩=>?_;exact Zb5 I2 hN hi hx r2 (λs3 I3=>⟨_,H2,I3,q2⟩) hf
 rcases l with ⟨hk,hm⟩|⟨hk,c,hc,hcell⟩
 ·exact wpAny_loadName_local I.ok.kind hk hn hm go
 ·rcases hk with hk|hk
  ·exact wpAny_loadName_cell I.ok.kind hk hc hcell go
  ·rcases hx with k|k
   ·have:X.env.scope.names.lookup x=some .free:=hk
    rw[k]at this;cases this
   ·have:X.env.scope.names.lookup x=some .free:=hk
    rw[k]at this;cases this
def ipI (f:Int->Int->Int):TIp:=λx y H Q=>∃i j,x=.int i/\y=.int j/\Q (.int (f i j)) H
theorem Zon:PIp X .Add (ipI λi j=>i+j):=by
 intro pins s σ H x y v u Q I r1 r2 h;obtain⟨i,j,e1,e2,q⟩:=h;subst e1;subst e2;obtain⟨t,rfl⟩:=r1;obtain⟨t',rfl⟩:=r2;exact iadd_int ⟨.int _,H,I.tok _,⟨_,rfl⟩,q⟩
def tWhile (c:TT) (tb:TS):TS:=λD σ H=>∃W:Nat->St->Hp->Prop,(∃m,W m σ H)/\∀m σ H,W m σ H →
 c σ H λb H1=>if b=true then ∃N:St->Hp->Prop,(∀σ' H',N σ' H' -> ∃m',m'<m/\W m' σ' H')/\tb { D with nx:=N,ct:=N,bk:=D.nx } σ H1 else D.nx σ H1
theorem Zjx {c:Expr}{body:List Stmt}{tc:TT}{tb:TS}(hp:PassesOwn (model X.prog X.w) X.A X.env X.xe) (hc:PT X c tc) (hb:PSs X body tb):PS X (.While c body [] pos) (tWhile tc tb):=by
 intro pins s σ H D I h;obtain⟨W,⟨m0,w0⟩,turn⟩:=h;refine wpAny_While (codeAny_whileLoop (λn s'=>∃σ' H',Inv X pins σ' H' s' /\ W n σ' H') ?_ m0 ⟨σ,H,I,w0⟩);rintro n s1 ⟨σ1,H1,I1,w1⟩;refine wpAny_passesOwn hp (thn (hc pins s1 σ1 H1 _ I1 (turn n σ1 H1 w1)) λb s2 ⟨H2,I2,q2⟩=>?_);cases b with
 |true=>
  obtain⟨N,hN,q2⟩:=q2;rw[if_pos rfl];refine wpAny_passesOwn hp (thn (hb pins s2 σ1 H2 _ I2 q2) λf s3 q3=>?_);cases f with
  |next=>
   obtain⟨σ3,H3,I3,n3⟩:=q3;obtain⟨m',hm,w3⟩:=hN σ3 H3 n3;exact⟨m',hm,σ3,H3,I3,w3⟩
  |cont=>
   obtain⟨σ3,H3,I3,n3⟩:=q3;obtain⟨m',hm,w3⟩:=hN σ3 H3 n3;exact⟨m',hm,σ3,H3,I3,w3⟩
  |brk=>exact q3
  |ret v=>exact q3
 |false=>
  rw[if_neg Wak];exact wpAny_execs_nil ⟨σ1,H2,I2,q2⟩
end
structure It where
 go:Nat->Hp->Prop
 yld:Nat->Hp->V->Hp->Prop
 stop:Nat->Hp->Prop
def FpOk (X:Cx) (pins:List (Addr × Obj)) (H:Hp) (b:Addr):Prop:=
 H b=none/\b≠X.env.locals/\b ∉ X.fs/\(b∈X.ex\/X.s₀.heap.objs.size<=b)/\(∀x c,X.env.cells.lookup x=some c->c≠b)/\∀p∈X.pn++pins,p.1≠b
theorem Inv.fpOk {X:Cx}{pins:List (Addr × Obj)}{σ:St}{H H':Hp}{s:Shared}{b:Addr}(I:Inv X pins σ H s) (hb:s.heap.objs.size<=b) (hn:H' b=none):FpOk X pins H' b:=by
 refine⟨hn,Wca (Wam I.lt hb),I.nofs hb,.inr (Waz I.sz hb),λx c e z=>?_,λp hp z=>?_⟩
 ·obtain⟨v,q⟩:=I.cell x c e
  exact absurd (Wam q.lt (by rw[z];exact hb)) (Wbo _)
 ·exact absurd (Wam (Waf (I.pin p hp).1) (by rw[z];exact hb)) (Wbo _)
structure TurnG (Cm:Cx->Prop) (P:Program) (w:World) (K:W.Frag) (tg:Expr) (J:It) (fp:List Addr) (it:Addr) (tn:Nat->Heap->Prop):Prop where
 mem:it∈fp
 obj:∀i h,tn i h->∀b∈fp,∃o,h.get? b=some o/\∀v,o.data≠.cell v
 keep:∀i h h',tn i h->(∀b∈fp,∀o,h.get? b=some o->h'.get? b=some o)->tn i h'
 item:∀(X:Cx),X.prog=P->X.w=w->X.K=K->Cm X->∀(i:Nat) (pins:List (Addr × Obj)) (s:Shared) (σ:St) (H:Hp) (E:Value->Shared->Prop),Inv X pins σ H s->(∀b∈fp,FpOk X pins H b)->tn i s.heap->J.go i H →
  wpAny (model P w) X.A (pyNext (.ref it)) (λr s1=>∃u,r=some u ∧
   wpAny (model P w) X.A (letOwnedTupleGo tg (.ref it) u) (λ_ s2=>∃x H',Inv X pins σ H' s2/\RelV x u/\J.yld i H x H' /\ tn (i+1) s2.heap/\∀b∈fp,H' b=none) E s1) E s
 done:∀(X:Cx),X.prog=P->X.w=w->X.K=K->Cm X->∀(i:Nat) (pins:List (Addr × Obj)) (s:Shared) (σ:St) (H:Hp) (E:Value->Shared->Prop),Inv X pins σ H s->(∀b∈fp,FpOk X pins H b)->tn i s.heap->J.stop i H →
  wpAny (model P w) X.A (pyNext (.ref it)) (λr s1=>r=none/\Inv X pins σ H s1) E s
 self:∀(A:Around) (i:Nat) (s:Shared) (Q:Value->Shared->Prop) (E:Value->Shared->Prop),tn i s.heap->Q (.ref it) s->wpAny (model P w) A (pyIter (.ref it)) Q E s
abbrev Turn:=TurnG λX=>X.calm=true
abbrev TI:=St->Hp->(It->Hp->Prop)->Prop
def PIEG (Cm:Cx->Prop) (X:Cx) (pins:List (Addr × Obj)) (σ:St) (tg:Expr) (R:It->Hp->Prop) (itv:Value) (s2:Shared):Prop:=
 ∃(it:Addr) (fp:List Addr) (tn:Nat->Heap->Prop) (J:It) (H':Hp),itv=.ref it/\Inv X pins σ H' s2/\TurnG Cm X.prog X.w X.K tg J fp it tn/\tn 0 s2.heap/\(∀b∈fp,FpOk X pins H' b)/\R J H'
def PIG (Cm:Cx->Prop) (X:Cx) (tg iter:Expr) (wi:TI):Prop:=
 ∀(pins:List (Addr × Obj)) (s:Shared) (σ:St) (H:Hp) (R:It->Hp->Prop),Inv X pins σ H s->wi σ H R →
  wpAny (model X.prog X.w) X.A (eval iter X.env) (λv s1=>wpAny (model X.prog X.w) X.A (pyIter v) (PIEG Cm X pins σ tg R) X.xe s1) X.xe s
abbrev PIE:=PIEG λX=>X.calm=true
abbrev PI:=PIG λX=>X.calm=true
theorem Zi4 {M:Model}{A:Around}{E:Value->Shared->Prop}{s:Shared}{tg:Expr}{it:Addr}{u:Value}{o:Obj}{n:String}{vs:Array Value}{Q:Unit->Shared->Prop}(ho:s.heap.get? it=some o) (hc:o.cls=.type n) (hd:o.data=.fields vs)
  (hn:["enumerate","zip","dict_itemiterator","dict_reverseitemiterator","odict_iterator","itertools.zip_longest","itertools.pairwise"].contains n=false) (hQ:Q () s):wpAny M A (letOwnedTupleGo tg (.ref it) u) Q E s:=by
 unfold letOwnedTupleGo;cases tg <;> first
  |exact wpAny_pure hQ
  | (cases u <;> first
      |exact wpAny_pure hQ
      | (refine wpAny_bind (wpAny_load ho ?_)
         rw[hc,hd];show wpAny M A (if (["enumerate","zip","dict_itemiterator","dict_reverseitemiterator","odict_iterator","itertools.zip_longest","itertools.pairwise"].contains n && vs[0]? == some (rawInt _))=true then _ else _) Q E s;rw[if_neg (by intro h;rw[hn,Bool.false_and]at h;cases h)];exact wpAny_pure hQ))
def Itl (K:W.Frag) (a:Addr):It:=
 ⟨λi H=>∃xs x,SqL K H a xs/\xs[i]?=some x,λi H x H'=>H'=H/\∀xs,SqL K H a xs->xs[i]?=some x,λi H=>∃xs,SqL K H a xs/\xs.length<=i⟩
def Itt (K:W.Frag) (a:Addr):It:=
 ⟨λi H=>∃xs x,SqT K H a xs/\xs[i]?=some x,λi H x H'=>H'=H/\∀xs,SqT K H a xs->xs[i]?=some x,λi H=>∃xs,SqT K H a xs/\xs.length<=i⟩
def Itr (lo:Int) (n:Nat):It:=⟨λi _=>i<n,λi H x H'=>H'=H/\x=.int (lo+i),λi _=>n<=i⟩
theorem Zch {P:Program}{w:World}{K:W.Frag}{tg:Expr}(a it:Addr):Turn P w K tg (Itl K a) [it] it (λi h=>h.IsListIter it a i) where
 mem:=by simp
 obj:=λi h st b hb=>by
  have e:b=it:=by simpa using hb
  subst e;obtain⟨o,e,c,d⟩:=st;exact⟨o,e,λv z=>by rw[d]at z;cases z⟩
 keep:=λi h h' st k=>st.at λo e=>k it (by simp) o e
 item:=by
  intro X hP hw hK hc i pins s σ H E I hf st hg;subst hP hw hK;obtain⟨xs,x,hq,hx⟩:=hg;obtain⟨its,rv,p,hz⟩:=I.list hq;obtain⟨u,hu,ru⟩:=rv.get hx;obtain⟨f0,f1,f2,f3,f4,f5⟩:=hf it (by simp);refine wpAny_pyNext_list_item st p.isList (x:=u) (by simpa using hu) λh' st' sb=>?_;have I1:Inv X pins σ H { s with heap:=h' }:=I.turned (t':=s.toks) (λb o hb e=>(sb.2 b hb).trans e) f0 f1 f3 f4 f5;obtain⟨o,e,c,d⟩:=id st';exact⟨u,rfl,Zi4 (s:={ s with heap:=h' }) e c d (by decide) ⟨x,H,I1,ru,⟨rfl,λys hy=>by rw[I.list_inj hy hq];exact hx⟩,st',λb hb=>(hf b hb).1⟩⟩
 done:=by
  intro X hP hw hK hc i pins s σ H E I hf st hg;subst hP hw hK;obtain⟨xs,hq,hx⟩:=hg;obtain⟨its,rv,p,hz⟩:=I.list hq;obtain⟨f0,f1,f2,f3,f4,f5⟩:=hf it (by simp);have hl:=rv.length;exact wpAny_pyNext_list_end (I.ok.hd hc) st p.isList (by simp;omega) λh' eb=>⟨rfl,I.turned (t':=s.toks) (λb o hb e=>eb b o hb e) f0 f1 f3 f4 f5⟩
 self:=λ_ _ _ _ _ st h=>wpAny_pyIter_listiter st h
theorem Zha {P:Program}{w:World}{K:W.Frag}{tg:Expr}(a it:Addr):Turn P w K tg (Itt K a) [it] it (λi h=>h.IsTupleIter it a i) where
 mem:=by simp
 obj:=λi h st b hb=>by
  have e:b=it:=by simpa using hb
  subst e;obtain⟨o,e,c,d⟩:=st;exact⟨o,e,λv z=>by rw[d]at z;cases z⟩
 keep:=λi h h' st k=>st.at λo e=>k it (by simp) o e
 item:=by
  intro X hP hw hK hc i pins s σ H E I hf st hg;subst hP hw hK;obtain⟨xs,x,hq,hx⟩:=hg;obtain⟨its,rv,p,hz⟩:=I.tuple hq;obtain⟨u,hu,ru⟩:=rv.get hx;obtain⟨f0,f1,f2,f3,f4,f5⟩:=hf it (by simp);refine wpAny_pyNext_tuple_item st (show s.heap.IsTuple a its.toArray from p) (x:=u) (by simpa using hu) λh' st' sb=>?_;have I1:Inv X pins σ H { s with heap:=h' }:=I.turned (t':=s.toks) (λb o hb e=>(sb.2 b hb).trans e) f0 f1 f3 f4 f5;obtain⟨o,e,c,d⟩:=id st';exact⟨u,rfl,Zi4 (s:={ s with heap:=h' }) e c d (by decide) ⟨x,H,I1,ru,⟨rfl,λys hy=>by rw[I.tuple_inj hy hq];exact hx⟩,st',λb hb=>(hf b hb).1⟩⟩
 done:=by
  intro X hP hw hK hc i pins s σ H E I hf st hg;subst hP hw hK;obtain⟨xs,hq,hx⟩:=hg;obtain⟨its,rv,p,hz⟩:=I.tuple hq;obtain⟨f0,f1,f2,f3,f4,f5⟩:=hf it (by simp);have hl:=rv.length;exact wpAny_pyNext_tuple_end (I.ok.hd hc) st (show s.heap.IsTuple a its.toArray from p) (by simp;omega) λh' eb=>⟨rfl,I.turned (t':=s.toks) (λb o hb e=>eb b o hb e) f0 f1 f3 f4 f5⟩
 self:=λ_ _ _ _ _ st h=>wpAny_pyIter_tupleiter st h
theorem Zhg {P:Program}{w:World}{K:W.Frag}{tg:Expr}(it:Addr) (lo:Int) (n:Nat):Turn P w K tg (Itr lo n) [it] it (λi h=>IsRangeIter h it (lo+(i:Nat)*1) ((n:Int)-(i:Nat)) 1) where
 mem:=by simp
 obj:=λi h st b hb=>by
  have e:b=it:=by simpa using hb
  subst e;exact⟨_,st,λv z=>by
   have z':Data.fields _=Data.cell v:=z;cases z'⟩
 keep:=λi h h' st k=>k it (by simp) _ st
 item:=by
  intro X hP hw hK hc i pins s σ H E I hf st hg;subst hP hw hK;obtain⟨f0,f1,f2,f3,f4,f5⟩:=hf it (by simp);have W:=Walks.range (prog:=X.prog) (w:=X.w) (I.ok.hd hc) it lo 1 n;refine W.item i s _ _ hg st λv h' tk hv st' kk=>?_;obtain⟨t,rfl⟩:=hv;have I1:Inv X pins σ H { s with heap:=h',toks:=tk }:=I.turned (λb o hb e=>kk b o (by simpa using hb) e) f0 f1 f3 f4 f5;refine⟨_,rfl,Zi4 (s:={ s with heap:=h',toks:=tk }) (n:="range_iterator") st' rfl rfl (by decide) ⟨.int (lo+i),H,I1,⟨t,?_⟩,⟨rfl,rfl⟩,st',λb hb=>(hf b hb).1⟩⟩;rw[Int.mul_one]
 done:=by
  intro X hP hw hK hc i pins s σ H E I hf st hg;subst hP hw hK;obtain⟨f0,f1,f2,f3,f4,f5⟩:=hf it (by simp);exact wpAny_pyNext_range_end (I.ok.hd hc) st (by have:n<=i:=hg;omega) λh' eb=>⟨rfl,I.turned (t':=s.toks) (λb o hb e=>eb b o hb e) f0 f1 f3 f4 f5⟩
 self:=λ_ _ _ _ _ st h=>wpAny_pyIter_rangeiter st h
end L2
namespace L2
open PySem PySem.Spec PyProof.Rows
section
variable {X:Cx}{tg:Expr}
def iList (K:W.Frag) (tl:TE):TI:=λσ H R=>tl σ H λx H1=>∃a,x=.ref a/\(∃xs,SqL K H1 a xs)/\R (Itl K a) H1
def iTup (K:W.Frag) (tl:TE):TI:=λσ H R=>tl σ H λx H1=>∃a,x=.ref a/\(∃xs,SqT K H1 a xs)/\R (Itt K a) H1
theorem Zlw {l:Expr}{tl:TE}(hl:PE X l tl):PI X tg l (iList X.K tl):=by
 intro pins s σ H R I h;refine thn (hl pins s σ H _ I h) λv s1 ⟨x,H1,I1,r1,q1⟩=>?_;obtain⟨a,e,⟨xs,hq⟩,q⟩:=q1;subst e;cases r1;obtain⟨its,rv,p,hz⟩:=I1.list hq;refine wpAny_pyIter_list p.isList ?_;refine⟨s1.heap.objs.size,[s1.heap.objs.size],_,_,H1,rfl,I1.kept (t':=s1.toks) λb o e=>Waa _ e,Zch a _,⟨_,Wae _ rfl,rfl,rfl⟩,λb hb=>?_,q⟩;have e:b=s1.heap.objs.size:=by simpa using hb
 subst e;exact I1.fpOk (Wac _) (I1.hok.fresh (Wac _))
theorem Zoc {l:Expr}{tl:TE}(hl:PE X l tl):PI X tg l (iTup X.K tl):=by
 intro pins s σ H R I h;refine thn (hl pins s σ H _ I h) λv s1 ⟨x,H1,I1,r1,q1⟩=>?_;obtain⟨a,e,⟨xs,hq⟩,q⟩:=q1;subst e;cases r1;obtain⟨its,rv,p,hz⟩:=I1.tuple hq;refine wpAny_pyIter_tuple (show s1.heap.IsTuple a its.toArray from p) ?_;refine⟨s1.heap.objs.size,[s1.heap.objs.size],_,_,H1,rfl,I1.kept (t':=s1.toks) λb o e=>Waa _ e,Zha a _,⟨_,Wae _ rfl,rfl,rfl⟩,λb hb=>?_,q⟩;have e:b=s1.heap.objs.size:=by simpa using hb
 subst e;exact I1.fpOk (Wac _) (I1.hok.fresh (Wac _))
theorem range_it {pins:List (Addr × Obj)}{σ:St}{H:Hp}{s:Shared}{R:It->Hp->Prop}{E:Value->Shared->Prop}{lo hi:Int}{t u v:Tok}{tk:Nat}(I:Inv X pins σ H s) (h1:-(2 ^ 62)<=lo) (h2:lo<2 ^ 62) (h3:-(2 ^ 62)<=hi) (h4:hi<2 ^ 62)
  (q:R (Itr lo (hi-lo).toNat) H):wpAny (model X.prog X.w) X.A (pyIter (.ref s.heap.objs.size)) (PIE X pins σ tg R) E { s with heap:=s.heap.push { cls:=.type "range",data:=.fields #[.int lo t,.int hi u,.int 1 v] },toks:=tk }:=by
 refine wpAny_pyIter_range (IsRange.new ..) (small_one h1 h2 h3 h4) ?_;have I1:Inv X pins σ H { s with heap:=s.heap.push { cls:=.type "range",data:=.fields #[.int lo t,.int hi u,.int 1 v] },toks:=tk }:=I.kept λb o e=>Waa _ e;refine⟨(s.heap.push { cls:=.type "range",data:=.fields #[.int lo t,.int hi u,.int 1 v] }).objs.size,[(s.heap.push { cls:=.type "range",data:=.fields #[.int lo t,.int hi u,.int 1 v] }).objs.size],_,_,H,rfl,
  I1.kept (t':=tk) λb o e=>Waa _ e,Zhg _ lo (hi-lo).toNat,?_,λb hb=>?_,q⟩
 ·have e1:lo+((0:Nat):Int)*1=lo:=by simp
  have e2:(((hi-lo).toNat:Nat):Int)-((0:Nat):Int)=Builtin.Range.rangeSize lo hi 1:=by rw[rangeSize_one];split <;> omega
  show IsRangeIter _ _ (lo+((0:Nat):Int)*1) ((((hi-lo).toNat:Nat):Int)-((0:Nat):Int)) 1;rw[e1,e2];exact Wae _ rfl
 ·have e:b=(s.heap.push { cls:=.type "range",data:=.fields #[.int lo t,.int hi u,.int 1 v] }).objs.size:=by simpa using hb
  subst e;exact I1.fpOk (Wac _) (I1.hok.fresh (Wac _))
def iRng1 (ta:TA):TI:=λσ H R=>ta σ H λvs H1=>∃j:Int,vs=[.int j] /\ -(2 ^ 62)<=j/\j<2 ^ 62/\R (Itr 0 j.toNat) H1
def iRng2 (ta:TA):TI:=λσ H R=>ta σ H λvs H1=>∃i j:Int,vs=[.int i,.int j]/\(-(2 ^ 62)<=i/\i<2 ^ 62 /\ -(2 ^ 62)<=j/\j<2 ^ 62)/\R (Itr i (j-i).toNat) H1
theorem Zdr {a:Expr}{ta:TA}{p pos:Pos}(hg:Gl X "range") (hm:X.mg "range" = none) (ha:PA X [a] ta) (hs:starEach [a] X.env=[(false,eval a X.env)]:=by rfl):PI X tg (.Call (.Name "range" p) [a] [] pos) (iRng1 ta):=by
 intro pins s σ H R I h;refine Call_ (Zc4 I hg hm boot_range (PyProof.Rows.callWith_type1 (thn (ha pos pins s σ H _ I h) λus s1 ⟨vs,H1,I1,r1,q1⟩=>?_) hs rfl));obtain⟨j,e,q1,q2,q⟩:=q1;subst e;cases r1 with
 |cons r rr=>
  cases rr;obtain⟨t,rfl⟩:=r;exact call_range_1 (range_it I1 (by omega) (by omega) q1 q2 (by simpa using q))
theorem Zjm {a b:Expr}{ta:TA}{p pos:Pos}(hg:Gl X "range") (hm:X.mg "range" = none) (ha:PA X [a,b] ta) (hs:starEach [a,b] X.env=[(false,eval a X.env),(false,eval b X.env)]:=by rfl) (hs2:starEach [b] X.env=[(false,eval b X.env)]:=by rfl) :
  PI X tg (.Call (.Name "range" p) [a,b] [] pos) (iRng2 ta):=by
 intro pins s σ H R I h;refine Call_ (Zc4 I hg hm boot_range (PyProof.Rows.callWith_type1 (thn (ha pos pins s σ H _ I h) λus s1 ⟨vs,H1,I1,r1,q1⟩=>?_) (by rw[hs,hs2]) (by rw[hs2];rfl)));obtain⟨i,j,e,⟨q1,q2,q3,q4⟩,q⟩:=q1;subst e;cases r1 with
 |cons r rr=>
  cases rr with
  |cons r' rr=>
   cases rr;obtain⟨t,rfl⟩:=r;obtain⟨t',rfl⟩:=r';exact call_range_2 (range_it I1 q1 q2 q3 q4 q)
def tFor (wi:TI) (g:TG) (tb:TS):TS:=λD σ H=>wi σ H λJ H1=>∃W:Nat->Nat->St->Hp->Prop,(∃m,W 0 m σ H1)/\∀i m σ H,W i m σ H →
 (J.stop i H/\D.nx σ H)\/(J.go i H/\∃N:St->Hp->Prop,(∀σ' H',N σ' H' -> ∃m',m'<m/\W (i+1) m' σ' H')/\∀x H',J.yld i H x H' -> g x σ H' λσ2 H2=>tb { D with nx:=N,ct:=N,bk:=D.nx } σ2 H2)
def pinsAt (fp:List Addr) (h:Heap):List (Addr × Obj):=fp.filterMap λb=>(h.get? b).map λo=>(b,o)
theorem Zb4 {fp:List Addr}{h:Heap}{b:Addr}{o:Obj}(hb:b∈fp) (e:h.get? b=some o):(b,o)∈pinsAt fp h:=List.mem_filterMap.mpr ⟨b,hb,by rw[e];rfl⟩
theorem Zit {fp:List Addr}{h:Heap}{p:Addr × Obj}(hp:p∈pinsAt fp h):p.1∈fp/\h.get? p.1=some p.2:=by
 obtain⟨b,hb,e⟩:=List.mem_filterMap.mp hp;cases q:h.get? b with
 |none=>rw[q]at e;cases e
 |some o=>
  rw[q]at e;have e':(b,o)=p:=War.inj e;subst e';exact⟨hb,q⟩
theorem Inv.pinned {pins:List (Addr × Obj)}{σ:St}{H:Hp}{s:Shared}{fp:List Addr}(I:Inv X pins σ H s) (hf:∀b∈fp,FpOk X pins H b) (ho:∀b∈fp,∃o,s.heap.get? b=some o/\∀v,o.data≠.cell v):Inv X (pins++pinsAt fp s.heap) σ H s:=
 I.pins_of λp hp=>(Wbb.mp hp).elim (λz=>I.pin p (Waw _ z)) λz=>by
  obtain⟨hb,e⟩:=Zit z;obtain⟨f0,f1,f2,_⟩:=hf p.1 hb;obtain⟨o,e',d⟩:=ho p.1 hb;rw[e]at e';cases e';exact⟨e,f0,f1,f2,d⟩
theorem Inv.unpinned {pins pl:List (Addr × Obj)}{σ:St}{H:Hp}{s:Shared}(I:Inv X (pins++pl) σ H s):Inv X pins σ H s:=I.pins_of λp hp=>I.pin p (Waw _ (Wb4 _ hp))
theorem Zdm {iter:Expr}{body:List Stmt}{wi:TI}{g:TG}{tb:TS}{pos:Pos}(hp:PassesOwn (model X.prog X.w) X.A X.env X.xe) (hc:X.calm=true) (hi:PI X tg iter wi) (hg:PG X tg g) (hb:PSs X body tb)
  (hs:∀x,foldedSetIterable iter X.env x=pure x:=by intro _;rfl):PS X (.For tg iter body [] pos) (tFor wi g tb):=by
 intro pins s σ H D I h;refine wpAny_For (thn (hi pins s σ H _ I h) λv s1 h1=>thn h1 λitv s2 h2=>?_) hs;obtain⟨it,fp,tn,J,H2,e,I2,T,st2,f2,W,⟨m0,w0⟩,turn⟩:=h2;subst e
 -- what stays true of the iterator's objects through the loop
 have stat:∀{H':Hp},(∀b∈fp,H' b=none)->∀b∈fp,FpOk X pins H' b:=λhn b hb=>⟨hn b hb,(f2 b hb).2⟩;refine codeAny_forLoop_any (λn s'=>∃i σ' H',Inv X pins σ' H' s' /\ tn i s'.heap/\(∀b∈fp,H' b=none)/\W i n σ' H') ?_ m0 ⟨0,σ,H2,I2,st2,λb hb=>(f2 b hb).1,w0⟩;rintro n s3 ⟨i,σ3,H3,I3,st3,fr3,w3⟩;rcases turn i n σ3 H3 w3 with ⟨stop,qn⟩|⟨go,N,hN,step⟩
 ·refine wpAny_passesOwn hp (thn (T.done X rfl rfl rfl hc i pins s3 σ3 H3 X.xe I3 (stat fr3) st3 stop) λr s4 ⟨hr,I4⟩=>?_)
  subst hr;exact wpAny_execs_nil ⟨σ3,H3,I4,qn⟩
 ·refine wpAny_passesOwn hp (thn (T.item X rfl rfl rfl hc i pins s3 σ3 H3 X.xe I3 (stat fr3) st3 go) λr s4 ⟨u,hr,h4⟩=>?_)
  subst hr;refine wpAny_passesOwn hp (thn h4 λ_ s5 ⟨x,H5,I5,r5,y5,st5,fr5⟩=>?_);have I5':=I5.pinned (stat fr5) (T.obj _ _ st5);refine wpAny_passesOwn hp (thn (hg _ s5 σ3 H5 x u _ I5' r5 (step x H5 y5)) λ_ s6 ⟨σ6,H6,I6,q6⟩=>?_);refine wpAny_passesOwn hp (thn (hb _ s6 σ6 H6 _ I6 q6) λf s7 q7=>?_);have again:∀{σ7:St}{H7:Hp},Inv X (pins++pinsAt fp s5.heap) σ7 H7 s7->N σ7 H7->∃m,m<n/\∃i σ' H',Inv X pins σ' H' s7/\tn i s7.heap/\(∀b∈fp,H' b=none)/\W i m σ' H':=λ{σ7 H7} I7 n7=>by
   obtain⟨m',hm,w7⟩:=hN σ7 H7 n7;refine⟨m',hm,i+1,σ7,H7,I7.unpinned,T.keep _ _ _ st5 λb hb o e=>(I7.pin (b,o) (Waw _ (Waw _ (Zb4 hb e)))).1,λb hb=>?_,w7⟩;obtain⟨o,e,d⟩:=T.obj _ _ st5 b hb;exact(I7.pin (b,o) (Waw _ (Waw _ (Zb4 hb e)))).2.1
  cases f with
  |next=>obtain⟨σ7,H7,I7,n7⟩:=q7;exact again I7 n7
  |cont=>obtain⟨σ7,H7,I7,n7⟩:=q7;exact again I7 n7
  |brk=>obtain⟨σ7,H7,I7,q7⟩:=q7;exact⟨σ7,H7,I7.unpinned,q7⟩
  |ret v=>obtain⟨x7,σ7,H7,I7,r7,q7⟩:=q7;exact⟨x7,σ7,H7,I7.unpinned,r7,q7⟩
end
end L2
namespace L2
open PySem PySem.Spec PyProof.Rows
abbrev R2:=V->V->Hp->VK->Prop
def OpR (X:Cx) (f:Value->Value->Sem Value) (r:R2):Prop:=
 ∀(pins:List (Addr × Obj)) (s:Shared) (σ:St) (H:Hp) (x y:V) (v u:Value) (Q:VK),Inv X pins σ H s->RelV x v->RelV y u->r x y H Q →
  wpAny (model X.prog X.w) X.A (f v u) (EP X pins σ Q) X.xe s
def UnR (X:Cx) (f:Value->Sem Value) (r:V->Hp->VK->Prop):Prop:=
 ∀(pins:List (Addr × Obj)) (s:Shared) (σ:St) (H:Hp) (x:V) (v:Value) (Q:VK),Inv X pins σ H s->RelV x v->r x H Q →
  wpAny (model X.prog X.w) X.A (f v) (EP X pins σ Q) X.xe s
def CallR (X:Cx) (f:Value) (r:List V->Hp->VK->Prop):Prop:=
 ∀(pins:List (Addr × Obj)) (s:Shared) (σ:St) (H:Hp) (xs:List V) (us:List Value) (Q:VK),Inv X pins σ H s->Vals xs us->r xs H Q →
  wpAny (model X.prog X.w) X.A (call f us) (EP X pins σ Q) X.xe s
def TruR (X:Cx) (r:V->Hp->(Bool->Hp->Prop)->Prop):Prop:=
 ∀(pins:List (Addr × Obj)) (s:Shared) (σ:St) (H:Hp) (x:V) (v:Value) (Q:Bool->Hp->Prop),Inv X pins σ H s->RelV x v->r x H Q →
  wpAny (model X.prog X.w) X.A (truthy v) (TP X pins σ Q) X.xe s
def tOp (r:R2) (ta tb:TE):TE:=λσ H Q=>ta σ H λx H1=>tb σ H1 λy H2=>r x y H2 Q
def tUn (r:V->Hp->VK->Prop) (ta:TE):TE:=λσ H Q=>ta σ H λx H1=>r x H1 Q
def rI (C:Int->Int->Prop) (g:Int->Int->V):R2:=λx y H Q=>∃i j,x=.int i/\y=.int j/\C i j/\Q (g i j) H
def rI0 (g:Int->Int->V):R2:=λx y H Q=>∃i j,x=.int i/\y=.int j/\Q (g i j) H
def rU (g:Int->V):V->Hp->VK->Prop:=λx H Q=>∃i,x=.int i/\Q (g i) H
section
variable {X:Cx}{a b c:Expr}{ta tb tc:TE}{pos:Pos}
theorem binT (ha:PE X a ta) (hb:PE X b tb) {pins:List (Addr × Obj)}{s:Shared}{σ:St}{H:Hp}{R:V->V->Hp->Prop}(I:Inv X pins σ H s)
  (h:ta σ H λx H1=>tb σ H1 λy H2=>R x y H2) {Q:Value->Shared->Prop}{f:Value->Value->Sem Value}
  (hf:∀v u s2 x y H2,Inv X pins σ H2 s2->RelV x v->RelV y u->R x y H2->wpAny (model X.prog X.w) X.A (f v u) Q X.xe s2) :
  wpAny (model X.prog X.w) X.A (eval a X.env) (λv s₁=>wpAny (model X.prog X.w) X.A (eval b X.env) (λu s₂=>wpAny (model X.prog X.w) X.A (f v u) Q X.xe s₂) X.xe s₁) X.xe s:=by
 refine thn (ha pins s σ H _ I h) λv s1 ⟨x,H1,I1,r1,q1⟩=>?_;refine thn (hb pins s1 σ H1 _ I1 q1) λu s2 ⟨y,H2,I2,r2,q2⟩=>?_;exact hf v u s2 x y H2 I2 r1 r2 q2
theorem Zap {op:Operator}{r:R2}(ho:OpR X (binaryOp op) r) (ha:PE X a ta) (hb:PE X b tb):PE X (.BinOp a op b pos) (tOp r ta tb):=by
 intro pins s σ H Q I h;exact wpAny_BinOp (binT ha hb I h λv u s2 x y H2 I2 rx ry q=>ho pins s2 σ H2 x y v u Q I2 rx ry q)
theorem Zqb {op:UnaryOp}{r:V->Hp->VK->Prop}(ho:UnR X (unaryOp op) r) (ha:PE X a ta):PE X (.UnaryOp op a pos) (tUn r ta):=by
 intro pins s σ H Q I h;exact UnaryOp_ (thn (ha pins s σ H _ I h) λv s1 ⟨x,H1,I1,r1,q1⟩=>ho pins s1 σ H1 x v Q I1 r1 q1)
theorem opI {f:Value->Value->Sem Value}{C:Int->Int->Prop}{g:Int->Int->Int}
  (rule:∀(i j:Int) (t u:Tok) (s:Shared) (Q:Value->Shared->Prop) (E:Value->Shared->Prop),C i j->Q (.int (g i j) s.toks) { s with toks:=s.toks+1 } -> wpAny (model X.prog X.w) X.A (f (.int i t) (.int j u)) Q E s) :
  OpR X f (rI C λi j=>.int (g i j)):=by
 intro pins s σ H x y v u Q I rx ry h;obtain⟨i,j,rfl,rfl,hc,q⟩:=h;obtain⟨t,rfl⟩:=rx;obtain⟨t',rfl⟩:=ry;exact rule i j t t' s _ _ hc ⟨.int (g i j),H,I.tok _,⟨_,rfl⟩,q⟩
theorem opI0 {f:Value->Value->Sem Value}{g:Int->Int->Int}
  (rule:∀(i j:Int) (t u:Tok) (s:Shared) (Q:Value->Shared->Prop) (E:Value->Shared->Prop),Q (.int (g i j) s.toks) { s with toks:=s.toks+1 } -> wpAny (model X.prog X.w) X.A (f (.int i t) (.int j u)) Q E s) :
  OpR X f (rI0 λi j=>.int (g i j)):=by
 intro pins s σ H x y v u Q I rx ry h;obtain⟨i,j,rfl,rfl,q⟩:=h;obtain⟨t,rfl⟩:=rx;obtain⟨t',rfl⟩:=ry;exact rule i j t t' s _ _ ⟨.int (g i j),H,I.tok _,⟨_,rfl⟩,q⟩
theorem opB0 {f:Value->Value->Sem Value}{g:Int->Int->Bool}
  (rule:∀(i j:Int) (t u:Tok) (s:Shared) (Q:Value->Shared->Prop) (E:Value->Shared->Prop),Q (.bool (g i j)) s->wpAny (model X.prog X.w) X.A (f (.int i t) (.int j u)) Q E s) :
  OpR X f (rI0 λi j=>.bl (g i j)):=by
 intro pins s σ H x y v u Q I rx ry h;obtain⟨i,j,rfl,rfl,q⟩:=h;obtain⟨t,rfl⟩:=rx;obtain⟨t',rfl⟩:=ry;exact rule i j t t' s _ _ ⟨.bl (g i j),H,I,rfl,q⟩
def CDiv (i j:Int):Prop:=0<j/\j<1073741824
def CPow (i j:Int):Prop:=0<=j/\j<=1000000/\i.natAbs<2 ^ 64
def CMul (i j:Int):Prop:=(-(2 ^ 64)<i/\i<2 ^ 64)\/(-(2 ^ 64)<j/\j<2 ^ 64)
theorem CMul.ok {i j:Int}(h:CMul i j):IntMulOk i j:=by
 rcases h with ⟨h1,h2⟩|⟨h1,h2⟩
 ·exact .of_left (intBits_le_64 h1 h2)
 ·exact .of_right (intBits_le_64 h1 h2)
theorem Zpx:OpR X (binaryOp .Add) (rI0 λi j=>.int (i+j)):=opI0 λ_ _ _ _ _ _ _ q=>add_int q
theorem Zco:OpR X (binaryOp .Sub) (rI0 λi j=>.int (i-j)):=opI0 λ_ _ _ _ _ _ _ q=>sub_int q
theorem Zdh:OpR X (binaryOp .Mult) (rI CMul λi j=>.int (i*j)):=opI λ_ _ _ _ _ _ _ hc q=>mul_int q hc.ok
theorem Zjd:OpR X (binaryOp .FloorDiv) (rI CDiv λi j=>.int (i / j)):=opI λi j _ _ _ _ _ hc q=>by
 have h1:(0:Int)<j:=hc.1;have h2:j<1073741824:=hc.2;exact floordiv_int (by omega) (by rw[Wb8 i (by omega)];exact q) (.inl (PyProof.noPylong_small (by omega)))
theorem Zbr:OpR X (binaryOp .Mod) (rI (λ_ j=>0<j) λi j=>.int (i % j)):=opI λi j _ _ _ _ _ hc q=>by
 have h1:(0:Int)<j:=hc;exact mod_int' (by omega) (by rw[Int.fmod_eq_emod_of_nonneg i (by omega)];exact q)
theorem Zk2:OpR X (binaryOp .Pow) (rI CPow λi j=>.int (i ^ j.toNat)):=opI λ_ _ _ _ _ _ _ hc q=>pow_int_small hc.1 hc.2.1 hc.2.2 q
theorem unI {f:Value->Sem Value}{g:Int->Int}
  (rule:∀(i:Int) (t:Tok) (s:Shared) (Q:Value->Shared->Prop) (E:Value->Shared->Prop),Q (.int (g i) s.toks) { s with toks:=s.toks+1 } -> wpAny (model X.prog X.w) X.A (f (.int i t)) Q E s) :
  UnR X f (rU λi=>.int (g i)):=by
 intro pins s σ H x v Q I rx h;obtain⟨i,rfl,q⟩:=h;obtain⟨t,rfl⟩:=rx;exact rule i t s _ _ ⟨.int (g i),H,I.tok _,⟨_,rfl⟩,q⟩
theorem Zod:UnR X (unaryOp .USub) (rU λi=>.int (-i)):=unI λ_ _ _ _ _ q=>neg_int q
end
def scal:V->V->Bool
 |.non,.non=>true|.non,.int _=>true|.int _,.non=>true|.non,.bl _=>true|.bl _,.non=>true|.non,.str _=>true|.str _,.non=>true
 |.int _,.int _=>true|.bl _,.bl _=>true|.str _,.str _=>true|.byt _,.byt _=>true
 |.int _,.str _=>true|.str _,.int _=>true|.bl _,.str _=>true|.str _,.bl _=>true
 |_,_=>false
def rEq:R2:=λx y H Q=>scal x y=true/\Q (.bl (decide (x=y))) H
def rNe:R2:=λx y H Q=>scal x y=true/\Q (.bl (!decide (x=y))) H
theorem Zf4 {i j:Int}:decide (V.int i=V.int j)=(i == j):=by
 rw[Wcm];simp
theorem Zoz {i j:Bool}:decide (V.bl i=V.bl j)=(i == j):=by
 rw[Wcm];simp
theorem Zl0 {i j:Str}:decide (V.str i=V.str j)=(i == j):=by
 rw[Wcm];simp
theorem Zmq {i j:Array UInt8}:decide (V.byt i=V.byt j)=(i.toList == j.toList):=by
 rw[Wcm];cases i;cases j;simp
section
variable {X:Cx}{a b c:Expr}{ta tb tc:TE}{pos:Pos}
theorem Zbi {pins:List (Addr × Obj)}{σ:St}{H:Hp}{s:Shared}{Q:VK}{k k':Bool}(I:Inv X pins σ H s) (q:Q (.bl k) H) (e:k=k'):EP X pins σ Q (.bool k') s:=by
 subst e;exact⟨.bl k,H,I,rfl,q⟩
theorem Zp6:OpR X (compareOp .Eq) rEq:=by
 intro pins s σ H x y v u Q I rx ry h;obtain⟨hs,q⟩:=h;cases x with
 |non=>
  cases rx;cases y with
  |non=>cases ry;exact PySem.EqNone.eq_none_none (Zbi I q (by simp))
  |bl j=>cases ry;exact PySem.EqNone.eq_none_bool (Zbi I q (by simp))
  |int j=>obtain⟨t',rfl⟩:=ry;exact PySem.EqNone.eq_none_int (Zbi I q (by simp))
  |str j=>obtain⟨t',rfl⟩:=ry;exact PySem.EqNone.eq_none_str (Zbi I q (by simp))
  |_=>exact absurd (show false=true from hs) Wak
 |bl i=>
  cases rx;cases y with
  |non=>cases ry;exact PySem.EqNone.eq_bool_none (Zbi I q (by simp))
  |bl j=>cases ry;exact eq_bool (Zbi I q Zoz)
  |str j=>obtain⟨t',rfl⟩:=ry;exact PySem.EqMixed.eq_bool_str (Zbi I q (by simp))
  |_=>exact absurd (show false=true from hs) Wak
 |int i=>
  obtain⟨t,rfl⟩:=rx;cases y with
  |non=>cases ry;exact PySem.EqNone.eq_int_none (Zbi I q (by simp))
  |int j=>obtain⟨t',rfl⟩:=ry;exact eq_int (Zbi I q Zf4)
  |str j=>obtain⟨t',rfl⟩:=ry;exact PySem.EqMixed.eq_int_str (Zbi I q (by simp))
  |_=>exact absurd (show false=true from hs) Wak
 |str i=>
  obtain⟨t,rfl⟩:=rx;cases y with
  |non=>cases ry;exact PySem.EqNone.eq_str_none (Zbi I q (by simp))
  |bl j=>cases ry;exact PySem.EqMixed.eq_str_bool (Zbi I q (by simp))
  |int j=>obtain⟨t',rfl⟩:=ry;exact PySem.EqMixed.eq_str_int (Zbi I q (by simp))
  |str j=>obtain⟨t',rfl⟩:=ry;exact eq_str (Zbi I q Zl0)
  |_=>exact absurd (show false=true from hs) Wak
 |byt i=>
  obtain⟨t,rfl⟩:=rx;cases y with
  |byt j=>obtain⟨t',rfl⟩:=ry;exact PySem.W.eq_bytes (Zbi I q Zmq)
  |_=>exact absurd (show false=true from hs) Wak
 |_=>cases y <;> exact absurd (show false=true from hs) Wak
theorem Zlr:OpR X (compareOp .Lt) (rI0 λi j=>.bl (decide (i<j))):=opB0 λ_ _ _ _ _ _ _ q=>lt_int q
theorem Zoj:OpR X (compareOp .LtE) (rI0 λi j=>.bl (decide (i<=j))):=opB0 λ_ _ _ _ _ _ _ q=>le_int q
theorem Zn3:OpR X (compareOp .Gt) (rI0 λi j=>.bl (decide (j<i))):=opB0 λ_ _ _ _ _ _ _ q=>gt_int q
theorem Zp0:OpR X (compareOp .GtE) (rI0 λi j=>.bl (decide (j<=i))):=opB0 λ_ _ _ _ _ _ _ q=>ge_int q
theorem OpR.or {f:Value->Value->Sem Value}{r r':R2}(h:OpR X f r) (h':OpR X f r'):OpR X f (λx y H Q=>r x y H Q\/r' x y H Q):=by
 intro pins s σ H x y v u Q I rx ry q;rcases q with q|q
 ·exact h pins s σ H x y v u Q I rx ry q
 ·exact h' pins s σ H x y v u Q I rx ry q
theorem nomark (b:Expr) {op:CmpOp}(h:op≠.In:=by decide) (h2:op≠.NotIn:=by decide):behindInMarks op b=false:=by
 have e1:(op == CmpOp.In)=false:=by cases op <;> first|rfl|exact absurd rfl h
 have e2:(op == CmpOp.NotIn)=false:=by cases op <;> first|rfl|exact absurd rfl h2
 cases b <;> simp[behindInMarks,e1,e2]
theorem Znd {op:CmpOp}{r:R2}(ho:OpR X (compareOp op) r) (ha:PE X a ta) (hb:PE X b tb) (hm:behindInMarks op b=false):PE X (.Compare a [op] [b] pos) (tOp r ta tb):=by
 intro pins s σ H Q I h;exact wpAny_Compare1 (binT ha hb I h λv u s2 x y H2 I2 rx ry q=>ho pins s2 σ H2 x y v u Q I2 rx ry q) hm
def tTest (t:TE):TT:=λσ H Q=>t σ H λx H'=>∃k,x=.bl k/\Q k H'
theorem Za7 {op:CmpOp}{r:R2}(ho:OpR X (compareOp op) r) (ha:PE X a ta) (hb:PE X b tb) (hm:behindInMarks op b=false):PT X (.Compare a [op] [b] pos) (tTest (tOp r ta tb)):=by
 intro pins s σ H Q I h;refine wpAny_isTrue_Compare1 (thn (ha pins s σ H _ I h) λv s1 ⟨x,H1,I1,r1,q1⟩=>thn (hb pins s1 σ H1 _ I1 q1) λu s2 ⟨y,H2,I2,r2,q2⟩=>
  thn (ho pins s2 σ H2 x y v u _ I2 r1 r2 q2) λc s3 ⟨z,H3,I3,r3,k,e,q3⟩=>?_) hm
 subst e;cases r3;exact wpAny_truthy_bool ⟨H3,I3,q3⟩
def tChain (r r':R2) (ta tb tc:TE):TE:=λσ H Q=>ta σ H λx H1=>tb σ H1 λy H2=>r x y H2 λz H3=>∃k,z=.bl k ∧
 (if k=true then tc σ H3 λw' H4=>r' y w' H4 Q else Q (.bl false) H3)
theorem Zgn {op op':CmpOp}{r r':R2}(ho:OpR X (compareOp op) r) (ho':OpR X (compareOp op') r') (ha:PE X a ta) (hb:PE X b tb) (hc:PE X c tc)
  (hm:lastMarks [op,op'] [b,c]=false:=by with_unfolding_all rfl):PT X (.Compare a [op,op'] [b,c] pos) (tTest (tChain r r' ta tb tc)):=by
 intro pins s σ H Q I h;refine isTrue_chain (thn (ha pins s σ H _ I h) λv s1 ⟨x,H1,I1,r1,q1⟩=>test_link (thn (hb pins s1 σ H1 _ I1 q1) λu s2 ⟨y,H2,I2,r2,q2⟩=>
  thn (ho pins s2 σ H2 x y v u _ I2 r1 r2 q2) λd s3 ⟨z,H3,I3,r3,k,e,q3⟩=>?_)) hm
 subst e;cases r3;refine wpAny_truthy_bool ?_;cases k with
 |false=>
  obtain⟨k',e',q'⟩:=q3;cases e';exact ite_ff ⟨H3,I3,q'⟩
 |true=>
  refine ite_tt (test_last (thn (hc pins s3 σ H3 _ I3 q3) λw' s4 ⟨z',H4,I4,r4,q4⟩=>thn (ho' pins s4 σ H4 y z' u w' _ I4 r2 r4 q4) λd' s5 ⟨z2,H5,I5,r5,k2,e2,q5⟩=>?_));subst e2;cases r5;exact wpAny_truthy_bool ⟨H5,I5,q5⟩
def TruV (K:W.Frag) (x:V) (H:Hp) (k:Bool):Prop:=
 match x with
 |.non=>k=false
 |.bl b=>k=b
 |.int i=>k=(i != 0)
 |.str y=>y.length<=sizeLine/\k=((y.length:Int) != 0)
 |.byt y=>y.size<=sizeLine/\k=((y.size:Int) != 0)
 |.ref p=>(∃xs,SqL K H p xs/\k = !xs.isEmpty)\/(∃xs,SqT K H p xs/\k = !xs.isEmpty)\/∃kvs,H p=some (.dK kvs)/\k = !kvs.isEmpty
 |_=>False
theorem Zg2 {κ:Type}{kvs:List (κ × V)}{vs:List (κ × Value)}(r:KV kvs vs):(!vs.isEmpty) = !kvs.isEmpty:=by
 cases r <;> rfl
theorem Zea {xs:List V}{its:List Value}(r:Vals xs its):(!its.toArray.isEmpty) = !xs.isEmpty:=by
 cases r <;> simp
theorem line63:(sizeLine:Nat)<2 ^ 63:=by rw[sizeLine_eq];decide
theorem Znj:TruR X (λx H Q=>∃k,TruV X.K x H k/\Q k H):=by
 intro pins s σ H x v Q I rx h;obtain⟨k,e,q⟩:=h;have hl:=line63;have hs:sizeLine=16777216:=sizeLine_eq;cases x with
 |non=>
  cases rx;have e':k=false:=e;subst e';exact truthy_none ⟨H,I,q⟩
 |bl b=>
  cases rx;have e':k=b:=e;subst e';exact wpAny_truthy_bool ⟨H,I,q⟩
 |int i=>
  obtain⟨t,rfl⟩:=rx;have e':k=(i != 0):=e;subst e';exact PySem.P.truthy_int ⟨H,I,q⟩
 |str y=>
  obtain⟨t,rfl⟩:=rx;obtain⟨hy,e'⟩:y.length<=sizeLine/\k=((y.length:Int) != 0):=e;subst e';exact PySem.P.truthy_str (by omega) ⟨H,I.tok _,q⟩
 |byt y=>
  obtain⟨t,rfl⟩:=rx;obtain⟨hy,e'⟩:y.size<=sizeLine/\k=((y.size:Int) != 0):=e;subst e';exact PySem.W.truthy_bytes (by omega) ⟨H,I.tok _,q⟩
 |ref p=>
  cases rx;have e':(∃xs,SqL X.K H p xs/\k = !xs.isEmpty)\/(∃xs,SqT X.K H p xs/\k = !xs.isEmpty)\/∃kvs,H p=some (.dK kvs)/\k = !kvs.isEmpty:=e;rcases e' with ⟨xs,hx,e'⟩|⟨xs,hx,e'⟩|⟨kvs,hx,e'⟩
  ·subst e'
   obtain⟨its,r,pl,hz⟩:=I.list hx;have hlen:=r.length;exact wpAny_truthy_list pl.isList (by simp only[Wad];omega) ⟨H,I.tok _,by rw[Zea r];exact q⟩
  ·subst e'
   obtain⟨its,r,pl,hz⟩:=I.tuple hx;have hlen:=r.length;exact truthy_tuple pl (by simp only[Wad];omega) ⟨H,I.tok _,by rw[Zea r];exact q⟩
  ·subst e'
   obtain⟨hz,hS,vs,r,m⟩:kvs.length<=sizeLine/\(p == sysModules)=false/\∃vs,KV kvs vs/\s.heap.DictOf (mixKind X.prog X.w) p vs:=I.hok p _ hx;have hlen:kvs.length=vs.length:=Paired.length r;exact wpAny_truthy_dict hS m (by omega) ⟨H,I.tok _,by rw[Zg2 r];exact q⟩
 |_=>exact(show False from e).elim
theorem Zkm (ha:PE X a ta) (he:∀whole,isTrue a X.env whole=(do let v ← whole;standAt a.pos;holding [v] (truthy v))) :
  PT X a (λσ H Q=>ta σ H λx H'=>∃k,TruV X.K x H' k/\Q k H'):=by
 intro pins s σ H Q I h;exact isTrue_plain (thn (ha pins s σ H _ I h) λv s1 ⟨x,H1,I1,r1,q1⟩=>Znj pins s1 σ H1 x v Q I1 r1 q1) (he _)
theorem vals1 {x:V}{us:List Value}(r:Vals [x] us):∃u,us=[u]/\RelV x u:=by
 cases r with
 |cons r1 r2=>cases r2;exact⟨_,rfl,r1⟩
theorem vals2 {x y:V}{us:List Value}(r:Vals [x,y] us):∃u w',us=[u,w']/\RelV x u/\RelV y w':=by
 cases r with
 |cons r1 r2=>
  cases r2 with
  |cons r3 r4=>cases r4;exact⟨_,_,rfl,r1,r3⟩
theorem Zeq:CallR X (.builtin "abs") (λxs H Q=>∃i,xs=[.int i]/\Q (.int (if i<0 then -i else i)) H):=by
 intro pins s σ H xs us Q I r h;obtain⟨i,rfl,q⟩:=h;obtain⟨u,rfl,t,rfl⟩:=vals1 r;exact call_abs_int λu tk=>⟨.int (if i<0 then -i else i),H,I.tok _,⟨_,rfl⟩,q⟩
theorem Ziy (hc:X.calm=true):CallR X (.builtin "min") (λxs H Q=>∃i j,xs=[.int i,.int j]/\Q (.int (if j<i then j else i)) H):=by
 intro pins s σ H xs us Q I r h;obtain⟨i,j,rfl,q⟩:=h;obtain⟨u,w',rfl,⟨t,rfl⟩,⟨t',rfl⟩⟩:=vals2 r;refine min_two_ints (I.ok.hd hc) λh' tk k=>⟨_,H,I.kept k,?_,q⟩;by_cases hj:j<i
 ·rw[if_pos hj,if_pos hj];exact⟨_,rfl⟩
 ·rw[if_neg hj,if_neg hj];exact⟨_,rfl⟩
end
end L2
namespace L2
open PySem PySem.Spec PyProof.Rows
structure ObjM (h:Heap) (x dx C:Addr) (mA:Str->Option Value):Prop where
 obj:h.get? x=some (PySem.W.instObj C dx)
 ns:h.Ns1 dx mA
 ne:dx≠x
theorem Zin {h:Heap}{dx:Addr}{mA:Str->Option Value}(n:h.Ns1 dx mA):∃od,h.get? dx=some od/\∀name,PySem.W.lookIn name od=some (mA name):=by
 obtain⟨o,es,ep,ho,hd,hk,_,hm⟩:=n;refine⟨o,ho,λname=>?_⟩;have e:=hm name;unfold nsFind findBy at e;rw[<- Array.find?_toList]at e;unfold PySem.W.lookIn;rw[hd];dsimp only;split
 ·rename_i y q
  rw[q]at e;exact congrArg some e
 ·rename_i q
  rw[q]at e;have a:es.toList.any (·.refKey)=false:=by
   rw[List.any_eq_false];intro y hy;obtain⟨z,t,hkey⟩:=hk y (Array.mem_toList_iff.mp hy);simp[DictEntry.refKey,hkey]
  have a':¬ es.toList.any (·.refKey)=true:=by rw[a];exact Wak
  rw[if_neg a'];exact congrArg some e
theorem ObjM.look {h:Heap}{x dx C:Addr}{mA:Str->Option Value}(I:ObjM h x dx C mA):∃od,PySem.W.InstAt h x (PySem.W.instObj C dx) C (some od)/\∀name,PySem.W.lookIn name od=some (mA name):=
 let ⟨od,ho,hl⟩:=Zin I.ns
 ⟨od,⟨I.obj,rfl,rfl,ho⟩,hl⟩
theorem RelO.some_of {v:V}{o:Option Value}(r:RelO (some v) o):∃u,o=some u/\RelV v u:=by
 cases o with
 |none=>exact(show False from r).elim
 |some u=>exact⟨u,rfl,r⟩
section
variable {P:Program}{w:World}{H H':Hp}{h h':Heap}{a C dx:Addr}{fs fs':List (Str × V)}
theorem Zml (hok:HOk P w H h) (e:H a=some (.ins C dx fs)):∃mA,ObjM h a dx C mA/\(∀f,RelO (fs.lookup f) (mA f))/\PySem.Within mA (fs.map (·.1))/\fs.length<=1000/\H dx=some (.own a):=by
 obtain⟨d,z,ne,ob,mA,n,r,q⟩:=(show ObjOk P w H h a (.ins C dx fs) from hok a _ e);exact⟨mA,⟨ob,n,ne⟩,r,q,z,d⟩
end
structure Cls (K:W.Frag) (C:Addr):Prop where
 pg:PySem.W.plainGet K C Str.empty=true
 hd:PySem.W.hasDictIn K C=true
 po:PySem.W.plainOver K C=true
 sa:PySem.W.findIn K (.ref C) "__setattr__" = some (some (.builtin "object.__setattr__"))
theorem Cls.get {K:W.Frag}{C:Addr}(c:Cls K C) (f:Str):PySem.W.plainGet K C f=true:=c.pg
section
variable {X:Cx}{pins:List (Addr × Obj)}{σ:St}{H:Hp}{s:Shared}{a C dx:Addr}{fs:List (Str × V)}{f:Str}{v:V}{A:Around}{E:Value->Shared->Prop}
end
section
variable {X:Cx}{pins:List (Addr × Obj)}{σ:St}{H:Hp}{s:Shared}{A:Around}{E:Value->Shared->Prop}{Q:Value->Shared->Prop}{c:Value}{b:Bool}
inductive TyOf (K:W.Frag) (H:Hp):V->Value->Prop where
 |non:TyOf K H .non (.type "NoneType")
 |bl (x:Bool):TyOf K H (.bl x) (.type "bool")
 |int (i:Int):TyOf K H (.int i) (.type "int")
 |str (x:Str):TyOf K H (.str x) (.type "str")
 |flt (x:UInt64):TyOf K H (.flt x) (.type "float")
 |lst {a:Addr}{xs:List V}(e:H a=some (.lst xs)):TyOf K H (.ref a) (.type "list")
 |frz {a:Addr}{o:Obj}{xs:List V}(e:H a=some (.frz o (.lst xs))):TyOf K H (.ref a) (.type "list")
 |tup {a:Addr}{xs:List V}(e:H a=some (.tup xs)):TyOf K H (.ref a) (.type "tuple")
 |dK {a:Addr}{kvs:List (Key × V)}(e:H a=some (.dK kvs)):TyOf K H (.ref a) (.type "dict")
 |dT {a:Addr}{kvs:List (List Key × V)}(e:H a=some (.dT kvs)):TyOf K H (.ref a) (.type "dict")
 |ins {a C dx:Addr}{fs:List (Str × V)}(e:H a=some (.ins C dx fs)) (cl:Cls K C) (ha:PySem.W.findIn K (.ref C) "__class__" = some (some (.builtin "object.__class__")))
   (hn:PySem.W.specialIn K (.builtin "object.__class__") "__get__" = some (some (.builtin "getset_descriptor.__get__"))) (htk:PySem.W.takesIn K (.builtin "object.__class__")=some true)
   (hm:PySem.W.mroIn K C (.type "object")=some true):TyOf K H (.ref a) (.ref C)
theorem Zir {x:V}{u t:Value}(I:Inv X pins σ H s) (rx:RelV x u) (ty:TyOf X.K H x t) (e:PySem.W.kitOne X.K t c=some b) (h:∀tk,Q (.bool b) { s with toks:=tk }) :
  wpAny (model X.prog X.w) A (call (.builtin "isinstance") [u,c]) Q E s:=by
 cases ty with
 |non=>cases (show u=Value.none from rx);exact PySem.W.kia_one PySem.W.kitx_none I.kIn True.intro e (λz=>nomatch z) h
 |bl y=>cases (show u=Value.bool y from rx);exact PySem.W.kia_one PySem.W.kitx_bool I.kIn True.intro e (λz=>nomatch z) h
 |int i=>obtain⟨t,q⟩:=(show ∃t,u=Value.int i t from rx);cases q;exact PySem.W.kia_one PySem.W.kitx_int I.kIn True.intro e (λz=>nomatch z) h
 |str y=>obtain⟨t,q⟩:=(show ∃t,u=Value.str y t from rx);cases q;exact PySem.W.kia_one PySem.W.kitx_str I.kIn True.intro e (λz=>nomatch z) h
 |flt y=>obtain⟨t,q⟩:=(show ∃t,u=Value.float y t from rx);cases q;exact PySem.W.kia_one PySem.W.kitx_float I.kIn True.intro e (λz=>nomatch z) h
 |@lst a xs ea=>
  cases (show u=Value.ref a from rx);obtain⟨_,_,n,_,h1⟩:=(show ObjOk X.prog X.w H s.heap a (.lst xs) from I.hok a _ ea);exact PySem.W.kia_one PySem.W.kitx_list I.kIn ⟨_,h1,rfl⟩ e (λz=>nomatch z) h
 |@frz a ob xs ea=>
  cases (show u=Value.ref a from rx);obtain⟨_,_,_,n,_,h1⟩:=(show ObjOk X.prog X.w H s.heap a (.frz ob (.lst xs)) from I.hok a _ ea);exact PySem.W.kia_one PySem.W.kitx_list I.kIn ⟨_,h1,rfl⟩ e (λz=>nomatch z) h
 |@tup a xs ea=>
  cases (show u=Value.ref a from rx);obtain⟨_,_,_,p⟩:=(show ObjOk X.prog X.w H s.heap a (.tup xs) from I.hok a _ ea);obtain⟨o,h1,⟨h2,_⟩,_⟩:=p;exact PySem.W.kia_one PySem.W.kitx_tuple I.kIn ⟨o,h1,h2⟩ e (λz=>nomatch z) h
 |@dK a kvs ea=>
  cases (show u=Value.ref a from rx);obtain⟨_,_,vs,_,p⟩:=(show ObjOk X.prog X.w H s.heap a (.dK kvs) from I.hok a _ ea);obtain⟨o,es,ep,h1,h2,_⟩:=p;exact PySem.W.kia_one PySem.W.kitx_dict I.kIn ⟨o,h1,h2.1⟩ e (λz=>nomatch z) h
 |@dT a kvs ea=>
  cases (show u=Value.ref a from rx);obtain⟨_,_,xs,_,o,es,ep,h1,h2,_⟩:=(show ObjOk X.prog X.w H s.heap a (.dT kvs) from I.hok a _ ea);exact PySem.W.kia_one PySem.W.kitx_dict I.kIn ⟨o,h1,h2.1⟩ e (λz=>nomatch z) h
 |@ins a C dx fs ea cl ha hn htk hm=>
  cases (show u=Value.ref a from rx);obtain⟨mA,O,_⟩:=Zml I.hok ea;obtain⟨od,J,_⟩:=O.look;exact PySem.W.kia_one (PySem.W.kitx_own (cl.get _) cl.hd ha hn htk hm) I.kIn J e (λz=>nomatch z) h
end
end L2
namespace L2
open PySem PySem.Spec PyProof.Rows
structure Room (k:Nat) (A:Around):Prop where
 hd:A.handled=none
 dp:A.depth+3*k+5<recursionLimit
 un:A.units+16*k+200<cLine
 gd:A.guards=some []
theorem Room.mono {j k:Nat}{A:Around}(r:Room k A) (h:j<=k):Room j A:=⟨r.hd,by have:=r.dp;omega,by have:=r.un;omega,r.gd⟩
theorem Room.deeper {k:Nat}{A:Around}(r:Room (k+1) A) (env:Env):Room k (A.deeper env):=
 ⟨r.hd,by have:=r.dp;show A.depth+1+3*k+5<_;omega,by have:=r.un;show A.units+3+16*k+200<_;omega,r.gd⟩
theorem Room.depth {k:Nat}{A:Around}(r:Room k A):A.depth<recursionLimit:=by have:=r.dp;omega
theorem Room.units {k:Nat}{A:Around}(r:Room k A):A.units+64<cLine:=by have:=r.un;omega
def tNil:TA:=λ_ H Q=>Q [] H
def tCons (ta:TE) (tr:TA):TA:=λσ H Q=>ta σ H λx H1=>tr σ H1 λxs H2=>Q (x::xs) H2
section
variable {X:Cx}{e:Expr}{es:List Expr}{te:TE}{t:TA}{pos:Pos}
theorem Zac:PA X [] tNil:=λ_ _ _ _ H Q I h=>Calls.spliced_nil ⟨[],H,I,.nil,h⟩
theorem Zaa (ha:PE X e te) (hr:PA X es t) (hs:starEach (e::es) X.env=(false,eval e X.env)::starEach es X.env:=by rfl):PA X (e::es) (tCons te t):=by
 intro pos pins s σ H Q I h;rw[hs];show wpAny _ _ (spliced ((false,eval e X.env)::backTo pos (starEach es X.env))) _ _ s;refine Calls.spliced_cons (thn (ha pins s σ H _ I h) λu s1 ⟨x,H1,I1,r1,q1⟩=>?_);exact thn (hr pos pins s1 σ H1 _ I1 q1) λus s2 ⟨xs,H2,I2,r2,q2⟩=>⟨x::xs,H2,I2,.cons r1 r2,q2⟩
def tTup (t:TA):TE:=λσ H Q=>t σ H λxs H1=>xs.length<=sizeLine/\∀p,H1 p=none->Q (.ref p) (upd H1 p (.tup xs))
def tLst (t:TA):TE:=λσ H Q=>t σ H λxs H1=>xs.length<=sizeLine/\∀p,H1 p=none->Q (.ref p) (upd H1 p (.lst xs))
theorem Zaz {x1} (h:PA X es t):PE X (.Tuple es x1 pos) (tTup t):=by
 intro pins s σ H Q I hq;refine wpAny_Tuple_spliced (thn (h pos pins s σ H _ I hq) λus s1 ⟨xs,H1,I1,r,z,q⟩=>⟨by rw[<- r.length];exact z,?_⟩);have hf:H1 s1.heap.objs.size=none:=I1.hok.fresh (Wac _);refine⟨.ref s1.heap.objs.size,upd H1 s1.heap.objs.size (.tup xs),I1.laid (t':=s1.toks) (λb u e=>Waa _ e) (Wac _) ?_,rfl,q _ hf⟩;exact⟨z,us,r,⟨_,Wae _ rfl,⟨rfl,_,rfl⟩,rfl⟩⟩
theorem Zbm (h:PA X es t):PE X (.List es pos) (tLst t):=by
 intro pins s σ H Q I hq;refine wpAny_List_spliced (thn (h pos pins s σ H _ I hq) λus s1 ⟨xs,H1,I1,r,z,q⟩=>⟨by rw[<- r.length];exact z,?_⟩);have hf:H1 s1.heap.objs.size=none:=I1.hok.fresh (Wac _);refine⟨.ref s1.heap.objs.size,upd H1 s1.heap.objs.size (.lst xs),I1.laid (t':=s1.toks) (λb u e=>Waa _ e) (Wac _) ?_,rfl,q _ hf⟩;exact⟨z,us,0,r,Wae _ rfl⟩
end
abbrev Sp:=List V->Hp->VK->XK->Prop
abbrev CXT:=List Env->Hp->Shared->XK->Value->Shared->Prop
structure Env0 (P:Program) (w:World) (K:W.Frag) (mg:Str->Option Value) (base:Heap) (A:Around) (outer:List Env) (s:Shared) (H:Hp):Prop where
 frames:A.frames=some outer
 mod:Mod K mg base
 bs:∀b o,base.get? b=some o->s.heap.get? b=some o/\H b=none
 bsz:base.objs.size<=s.heap.objs.size
 funs:s.heap.FunFrames base outer
 frf:∀b∈frs outer,H b=none
 hok:HOk P w H s.heap
 bare:AllBare s.gens
def CE (outer:List Env) (P:Program) (w:World) (H:Hp) (s:Shared) (Q:VK) (u:Value) (s':Shared):Prop:=
 ∃v H',s'.os=s.os/\AllBare s'.gens/\Un (frs outer) [] H H' s.heap s'.heap/\HOk P w H' s'.heap/\RelV v u/\Q v H'
def CR (CX:CXT) (outer:List Env) (P:Program) (w:World) (H:Hp) (s:Shared) (Q:VK) (E:XK) (r:Result) (s':Shared):Prop:=
 match r with
 |.ok (.ret u)=>CE outer P w H s Q u s'
 |.ok _=>False
 |.error e=>CX outer H s E e s'
structure FnOk (P:Program) (w:World) (K:W.Frag) (mg:Str->Option Value) (base:Heap) (CX:CXT) (k:Nat) (f:Addr) (fd:FuncData) (ps:List Str) (sp:Sp):Prop where
 len:∀vs H Q E,sp vs H Q E->vs.length=ps.length
 run:∀(A:Around) (outer:List Env) (s:Shared) (H:Hp) (args:Args) (us:List Value) (vs:List V) (Q:VK) (E:XK),Room k A->Env0 P w K mg base A outer s H->BindsTo s fd args (ps.zip us)->Vals vs us->sp vs H Q E →
  codeAny (model P w) A (.call (.ref f) args) (CR CX outer P w H s Q E) s
section
variable {X:Cx}{pins:List (Addr × Obj)}{σ:St}{H:Hp}{s s':Shared}
theorem Inv.env0 (I:Inv X pins σ H s):Env0 X.prog X.w X.K X.mg X.base X.A X.stack s H:=
 ⟨I.ok.frames,I.ok.mod,I.bs,Waz I.ok.bsz I.sz,I.stack,I.stkFree,I.hok,I.bare⟩
theorem Inv.after {Q:VK}{u:Value}(I:Inv X pins σ H s) (h:CE X.stack X.prog X.w H s Q u s'):EP X pins σ Q u s':=by
 obtain⟨v,H',os,bare,un,hok,r,q⟩:=h;obtain⟨hh,g,d,t,os'⟩:=s';obtain rfl:os'=s.os:=os;exact⟨v,H',I.call (h':=hh) (g':=g) (d':=d) (t':=t) (ch:=[]) un hok bare (λb z=>absurd z (by simp)),r,q⟩
end
def tCall (sp:Sp) (dvs:List V) (E:XK) (t:TA):TE:=λσ H Q=>t σ H λvs H1=>sp (vs++dvs) H1 Q E
def Binds (K:W.Frag) (fd:FuncData) (ps:List Str) (ds:List Value):Prop:=
 ∀(s:Shared) (us:List Value),K.In s.heap->(us++ds).length=ps.length->BindsTo s fd ⟨us,[]⟩ (ps.zip (us++ds))
theorem Binds.all {K:W.Frag}{fd:FuncData}{ps:List Str}(h:∀us:List Value,us.length=ps.length->bindArgs fd ⟨us,[]⟩=pure (ps.zip us)):Binds K fd ps []:=λs us _ hl=>by
 rw[Wbc]at hl ⊢;exact .of_eq (h us hl)
def Passes (CX:CXT) (X:Cx) (E:XK):Prop:=∀(pins:List (Addr × Obj)) (σ:St) (H:Hp) (s:Shared) (e:Value) (s':Shared),Inv X pins σ H s->CX X.stack H s E e s' -> X.xe e s'
section
variable {X:Cx}{CX:CXT}{k:Nat}{f C:Addr}{fd:FuncData}{ps:List Str}{sp:Sp}{dvs:List V}{ds:List Value}{E:XK}{x m:Str}{p pos apos:Pos}{e o:Expr}{es:List Expr}{ta:TE}{t:TA}
theorem Zpj {pins:List (Addr × Obj)}{σ:St}{H:Hp}{s:Shared}{Q:VK}{us:List Value}{vs:List V}(F:FnOk X.prog X.w X.K X.mg X.base CX k f fd ps sp) (hr:Room k X.A) (hb:Binds X.K fd ps ds) (hd:Vals dvs ds) (hx:Passes CX X E)
  (I:Inv X pins σ H s) (r:Vals vs us) (h:sp (vs++dvs) H Q E):wpAny (model X.prog X.w) X.A (call (.ref f) us) (EP X pins σ Q) X.xe s:=by
 have r2:Vals (vs++dvs) (us++ds):=r.append hd;have hl:(us++ds).length=ps.length:=by rw[<- r2.length];exact F.len _ _ _ _ h
 refine wpAny_call (codeAny_mono (F.run X.A X.stack s H ⟨us,[]⟩ (us++ds) (vs++dvs) Q E hr I.env0 (hb s us I.kIn hl) r2 h) λr s' hq=>?_);cases r with
 |error e=>exact hx pins σ H s e s' I hq
 |ok fl=>
  cases fl with
  |ret u=>exact I.after hq
  |next=>exact False.elim hq
  |brk=>exact False.elim hq
  |cont=>exact False.elim hq
theorem Zhp (F:FnOk X.prog X.w X.K X.mg X.base CX k f fd ps sp) (hr:Room k X.A) (hg:Gl X x) (hm:X.mg x=some (.ref f)) (hk:W.keepIn X.K (.ref f)=true) (hb:Binds X.K fd ps ds) (hd:Vals dvs ds) (hx:Passes CX X E)
  (ha:PA X (e::es) t) (hdb:(x == ("__debug__":Str))=false:=by decide) (he:starEach (e::es) X.env=(false,eval e X.env)::starEach es X.env:=by rfl) (hpl:(backTo pos (starEach es X.env)).any (·.1)=false:=by rfl) :
  PE X (.Call (.Name x p) (e::es) [] pos) (tCall sp dvs E t):=by
 intro pins s σ H Q I h;refine wpAny_Call_Name_kw (Zc1 I hg hm ?_ hdb);refine PySem.W.callWith_K (h₀:=X.base) I.ok.mod.kin hk (thn (ha pos pins s σ H _ I h) λus s1 ⟨vs,H1,I1,r,q⟩=>⟨I1.kIn,?_⟩) he hpl;exact Zpj F hr hb hd hx I1 r q
end
section
variable {X:Cx}{CX:CXT}{k:Nat}{f C:Addr}{fd:FuncData}{ps ks:List Str}{sp:Sp}{E:XK}{x m:Str}{p pos apos kpos:Pos}{e o:Expr}{es:List Expr}{kws:List Keyword}{te ta:TE}{t tk:TA}{nm:Option Str}
variable {g:List Value->List Value->List Value}{gV:List V->List V->List V}
end
structure FnScope (N P:List Str) (sc:Scope):Prop where
 kind:sc.kind=.function
 co:sc.isCoroutine=false
 gen:sc.isGenerator=false
 nd:N.Nodup
 pre:N.take P.length=P
 par:∀x∈P,sc.names.lookup x=some .local\/sc.names.lookup x=some .cell
 nofree:∀y∈sc.names,y.2≠.free
theorem Zfg {kindOf:Str->Option NameKind}{x:Str}:∀{binds:List (Str × Value)}{m:Str->Option Value},(∀v,(x,v) ∉ binds)->bindL kindOf binds m x=m x
 |[],_,_=>rfl
 | (n,v)::r,m,h=>by
  unfold bindL;rw[Zfg λw hw=>h w (Wax _ hw)];split
  ·have:x≠n:=by rintro rfl;exact h v Wa7
   simp[this]
  ·rfl
theorem Zfj {kindOf:Str->Option NameKind}{x:Str}:∀{binds:List (Str × Value)}{m:Str->Option Value},(∀v,(x,v) ∉ binds)->bindC kindOf binds m x=m x
 |[],_,_=>rfl
 | (n,v)::r,m,h=>by
  unfold bindC;rw[Zfj λw hw=>h w (Wax _ hw)];split
  ·rfl
  ·have:x≠n:=by rintro rfl;exact h v Wa7
   simp[this]
theorem Zdk {kindOf:Str->Option NameKind}{x:Str}{v:Value}:∀{P:List Str}{vs:List Value}{i:Nat}{m:Str->Option Value},P.Nodup->P[i]?=some x->vs[i]?=some v->kindOf x=some .local →
  bindL kindOf (P.zip vs) m x=some v
 |[],_,_,_,_,h,_,_=>by simp at h
 |_::_,[],_,_,_,_,h,_=>by simp at h
 |p::P,w::vs,0,m,nd,h1,h2,hk=>by
  simp at h1 h2;subst h1;subst h2;show bindL kindOf ((p,w)::P.zip vs) m p=_;unfold bindL;rw[Zfg λv hv=>(Wbs.mp nd).1 (Wcj hv).1,if_pos hk];simp
 |p::P,w::vs,i+1,m,nd,h1,h2,hk=>by
  show bindL kindOf ((p,w)::P.zip vs) m x=_;unfold bindL;exact Zdk (i:=i) (Wbs.mp nd).2 (by simpa using h1) (by simpa using h2) hk
theorem Zdv {kindOf:Str->Option NameKind}{x:Str}{v:Value}:∀{P:List Str}{vs:List Value}{i:Nat}{m:Str->Option Value},P.Nodup->P[i]?=some x->vs[i]?=some v->kindOf x≠some .local →
  bindC kindOf (P.zip vs) m x=some v
 |[],_,_,_,_,h,_,_=>by simp at h
 |_::_,[],_,_,_,_,h,_=>by simp at h
 |p::P,w::vs,0,m,nd,h1,h2,hk=>by
  simp at h1 h2;subst h1;subst h2;show bindC kindOf ((p,w)::P.zip vs) m p=_;unfold bindC;rw[Zfj λv hv=>(Wbs.mp nd).1 (Wcj hv).1,if_neg hk];simp
 |p::P,w::vs,i+1,m,nd,h1,h2,hk=>by
  show bindC kindOf ((p,w)::P.zip vs) m x=_;unfold bindC;exact Zdv (i:=i) (Wbs.mp nd).2 (by simpa using h1) (by simpa using h2) hk
def start (N:List Str) (vs:List V):St:=vs.map some++Wao (N.length-vs.length) none
def cxOf (CX:CXT) (P:Program) (w:World) (K:W.Frag) (mg:Str->Option Value) (base:Heap) (N:List Str) (qual:Str) (scope:Scope) (f:Addr) (cd:Value) (A:Around) (outer:List Env) (s:Shared) (H:Hp) (E:XK):Cx where
 prog:=P
 w:=w
 K:=K
 mg:=mg
 base:=base
 A:=A.deeper (envOfC qual scope s.heap.objs.size f cd)
 N:=N
 s₀:=s
 H₀:=H
 env:=envOfC qual scope s.heap.objs.size f cd
 outer:=outer
 stack:=envOfC qual scope s.heap.objs.size f cd::outer
 ex:=[]
 calm:=true
 fn:=λ_=>true
 pn:=[]
 xe:=λe s'=>wpAny (model P w) (A.deeper (envOfC qual scope s.heap.objs.size f cd)) (leaving (envOfC qual scope s.heap.objs.size f cd) e) (λ_ s''=>CX outer H s E e s'') (λe' s''=>CX outer H s E e' s'') s'
theorem Zc9 {sc:Scope}{n:Nat}{x:Str}(h:sc.names.lookup x=some .cell):∃c,(cellsFrom n sc.names []).lookup x=some c:=by
 have q:=PySem.W.cellsFrom_some sc.names n [] (.inl h);exact Option.isSome_iff_exists.mp q
theorem Zif {CX:CXT}{P:Program}{w:World}{K:W.Frag}{mg:Str->Option Value}{base:Heap}{N ps:List Str}{qual:Str}{scope:Scope}{f:Addr}{cd:Value}{A:Around}{outer:List Env}{s s1:Shared}{H:Hp}{E:XK}{us:List Value}{vs:List V}
  (S:FnScope N ps scope) (hd:A.handled=none) (e0:Env0 P w K mg base A outer s H) (hl:vs.length=ps.length) (r:Vals vs us)
  (x:InCallC s s.heap.objs.size (bindL (envOfC qual scope s.heap.objs.size f cd).kindOf (ps.zip us) λ_=>none) (cellsFrom (s.heap.objs.size+1) scope.names []) (bindC (envOfC qual scope s.heap.objs.size f cd).kindOf (ps.zip us) λ_=>none) s1) :
  Inv (cxOf CX P w K mg base N qual scope f cd A outer s H E) [] (start N vs) H s1:=by
 have hpl:ps.length<=N.length:=by have:=congrArg Wa5 S.pre;rw[Wb2]at this;omega
 obtain⟨h1,tk,rfl,hk⟩:=x.done;have noA:∀b:Addr,b ∉ (cxOf CX P w K mg base N qual scope f cd A outer s H E).ex:=λb z=>absurd (show b∈([]:List Addr) from z) (by simp);refine⟨⟨e0.mod,S.kind,rfl,rfl,Wac _,λy z c h1 h2=>?_,λy hy=>?_,λy c _ h=>?_,λ_=>hd,Around.frames_deeper e0.frames,.inr ⟨rfl,rfl⟩,λb z=>absurd z (noA b),e0.bs,e0.bsz,λb _ _=>noA b,λb z=>absurd z (noA b),e0.funs,e0.frf⟩,
  rfl,e0.bare,Un.kept hk,⟨_,x.toInCall.ns,λi y v h1 h2 h3=>?_⟩,λy c h=>⟨_,x.cell y c h⟩,e0.hok.fresh (Wac _),λy c h=>?_,λp hp=>absurd (show p∈([]:List (Addr × Obj)) from hp) (by simp),e0.hok.kept hk,?_⟩
 ·exact name_of_addr x.apart (PySem.mem_of_lookup h1) (PySem.mem_of_lookup h2)
 ·have hy:scope.names.lookup y=some .cell\/scope.names.lookup y=some .free:=hy
  rcases hy with hy|hy
  ·exact Zc9 hy
  ·exact absurd rfl (S.nofree _ (PySem.mem_of_lookup hy))
 ·exact Wb1 (x.above y c (PySem.mem_of_lookup h))
 ·have hi:i<vs.length:=by
   unfold start at h2;by_cases hi:i<vs.length
   ·exact hi
   ·rw[Wap (by simpa using hi)]at h2
    rw[Wbf]at h2;split at h2 <;> cases h2
  have ha:vs[i]?=some v:=by
   unfold start at h2;rw[Wa3 (by simpa using hi),Wal]at h2;cases e:vs[i]? with
   |none=>rw[e]at h2;cases h2
   |some a=>rw[e]at h2;cases h2;rfl
  obtain⟨u,hu,rv⟩:=r.get ha;have hp:ps[i]?=some y:=by
   rw[<- S.pre,List.getElem?_take_of_lt (by omega)];exact h1
  have ndP:ps.Nodup:=by rw[<- S.pre];exact S.nd.sublist (List.take_sublist _ _)
  refine⟨u,rv,?_⟩;rcases S.par y (Wa4 hp) with k|k
  ·exact .inl ⟨k,Zdk ndP hp hu k⟩
  ·obtain⟨c,e⟩:=Zc9 (n:=s.heap.objs.size+1) k
   refine .inr ⟨.inl k,c,e,?_⟩;have q:=x.cell y c e;rw[Zdv ndP hp hu (by show scope.names.lookup y≠_;rw[k];decide)]at q;exact q
 ·exact e0.hok.fresh (Wb1 (x.above y c (PySem.mem_of_lookup h)))
 ·unfold start
  show _=N.length;rw[Wan,Wag,Wau];omega
theorem Zlm {CX:CXT}{P:Program}{w:World}{K:W.Frag}{mg:Str->Option Value}{base:Heap}{k:Nat}{f:Addr}{name qual:Str}{params:Arguments}{body:List Stmt}{scope:Scope}{dV kV doc pm cdv ct oc:Value}{an od:Option Addr}
  {osl:Array (Option Value)}{N ps:List Str}{sp:Sp}(lk:K.lookup f=some ⟨oc,od,.func (W.fnOf name qual params body scope dV kV doc pm an cdv ct),osl⟩) (hcd:W.codeIn K cdv qual=true) (S:FnScope N ps scope)
  (len:∀vs H Q E,sp vs H Q E->vs.length=ps.length)
  (hbody:∀(A:Around) (outer:List Env) (s:Shared) (H:Hp) (vs:List V) (Q:VK) (E:XK),Room k (A.deeper (envOfC qual scope s.heap.objs.size f cdv))->sp vs H Q E →
   ∃t,PSs (cxOf CX P w K mg base N qual scope f cdv A outer s H E) body t/\t { nx:=λ_ H'=>Q .non H',rt:=Q } (start N vs) H) :
  FnOk P w K mg base CX (k+1) f (W.fnOf name qual params body scope dV kV doc pm an cdv ct) ps sp:=by
 refine⟨len,λA outer s H args us vs Q E hr e0 hb r hsp=>?_⟩;have hl:=len _ _ _ _ hsp;have KX:K.In s.heap:=e0.mod.kin.keeps λb o e=>(e0.bs b o e).1;have lim:s.heap.NoLimit:=e0.mod.nolimit.keeps λb o e=>(e0.bs b o e).1;have hkind:∀y∈ps.zip us,scope.names.lookup y.1=some .local\/(scope.names.lookup y.1=some .cell/\((cellsFrom (s.heap.objs.size+1) scope.names []).lookup y.1).isSome=true):=λ⟨n,v⟩ hy=>by
  rcases S.par n (Wcj hy).1 with q|q
  ·exact .inl q
  ·exact .inr ⟨q,PySem.W.cellsFrom_some _ _ _ (.inl q)⟩
 refine codeAny_call_function hr.depth (KX _ _ lk) rfl S.co S.gen rfl (PySem.W.codeRec_of KX hcd) (hb _ _ _ _ ?_);refine wpAny_newFunctionEnv_cells S.kind hkind λenv he s1 x=>?_;subst he;refine⟨lim.keeps x.toInCall.keep,codeAny_func ?_⟩;obtain⟨t,ht,hq⟩:=hbody A outer s H vs Q E (hr.deeper _) hsp;have I:Inv (cxOf CX P w K mg base N qual scope f cdv A outer s H E) [] (start N vs) H s1:=Zif S hr.hd e0 hl r x;refine wpAny_mono (ht [] s1 (start N vs) H _ I hq) (λfl s' hs=>?_) λe s' hs=>hs;have fin:∀{σ':St}{H':Hp}{v:V}{u:Value},Inv (cxOf CX P w K mg base N qual scope f cdv A outer s H E) [] σ' H' s' -> RelV v u->Q v H' -> CE outer P w H s Q u s':=
  λ{σ' H' v u} J rv q=>⟨v,H',J.os,J.bare,J.base,J.hok,rv,q⟩
 cases fl with
 |ret u=>
  obtain⟨v,σ',H',J,rv,q⟩:=hs;exact fin J rv q
 |next=>
  obtain⟨σ',H',J,q⟩:=hs;exact fin (v:=V.non) (u:=Value.none) J rfl q
 |brk=>
  obtain⟨_,_,_,q⟩:=hs;exact False.elim q
 |cont=>
  obtain⟨_,_,_,q⟩:=hs;exact False.elim q
end L2
namespace L2
open PySem PySem.Spec PyProof.Rows
section
variable {X:Cx}{x:Str}{p pos:Pos}{e:Expr}{es:List Expr}{t:TA}{id T:String}{r:List V->Hp->VK->Prop}
def tCB (r:List V->Hp->VK->Prop) (t:TA):TE:=λσ H Q=>t σ H λvs H1=>r vs H1 Q
theorem Zal (hc:CallR X (.builtin id) r) (hg:Gl X x) (hm:X.mg x=none) (hv:bootBuiltins x=some (.builtin id)) (ha:PA X (e::es) t) (hn:x ≠ "__name__":=by decide) (hdb:(x == ("__debug__":Str))=false:=by decide)
  (he:starEach (e::es) X.env=(false,eval e X.env)::starEach es X.env:=by rfl) (hpl:(backTo pos (starEach es X.env)).any (·.1)=false:=by rfl):PE X (.Call (.Name x p) (e::es) [] pos) (tCB r t):=by
 intro pins s σ H Q I h;refine wpAny_Call_Name_kw (Zc4 I hg hm hv ?_ hn hdb);exact PyProof.Rows.callWith_builtin1 (thn (ha pos pins s σ H _ I h) λus s1 ⟨vs,H1,I1,r1,q1⟩=>hc pins s1 σ H1 vs us Q I1 r1 q1) he hpl
theorem Zck (hc:CallR X (.type T) r) (hg:Gl X x) (hm:X.mg x=none) (hv:bootBuiltins x=some (.type T)) (ha:PA X (e::es) t) (hn:x ≠ "__name__":=by decide) (hdb:(x == ("__debug__":Str))=false:=by decide)
  (he:starEach (e::es) X.env=(false,eval e X.env)::starEach es X.env:=by rfl) (hpl:(backTo pos (starEach es X.env)).any (·.1)=false:=by rfl):PE X (.Call (.Name x p) (e::es) [] pos) (tCB r t):=by
 intro pins s σ H Q I h;refine wpAny_Call_Name_kw (Zc4 I hg hm hv ?_ hn hdb);exact PyProof.Rows.callWith_type1 (thn (ha pos pins s σ H _ I h) λus s1 ⟨vs,H1,I1,r1,q1⟩=>hc pins s1 σ H1 vs us Q I1 r1 q1) he hpl
end
end L2
namespace HT
open PySem PyProof.Rows
section
open PySem.SeqAt
open PySem.AutoSeq1 (wpAny_loadPart')
open PySem.MeetsSeq PySem.MeetsSeq2 PySem.MeetsSeq3
end
section
variable {prog:Program}{w:World}{A:Around}{E:Value->Shared->Prop}{s:Shared}
theorem cat_tup {t b:Addr}{vs ws:List Value}{Q:Value->Shared->Prop}(ht:IsTup s.heap t vs.toArray) (hb:IsTup s.heap b ws.toArray) (hv:vs≠[])
  (h1:ws=[]->Q (.ref t) s) (h2:ws≠[]->Q (.ref s.heap.objs.size) { s with heap:=s.heap.push { cls:=.type "tuple",data:=.seq (vs++ws).toArray } })
  (hsz:vs.length+ws.length<=sizeLine):wpAny (model prog w) A (binaryOp .Add (.ref t) (.ref b)) Q E s:=by
 obtain⟨⟨cls,dd,data,sl⟩,ho,hc,n,hd⟩:=id ht;obtain⟨⟨cls2,dd2,data2,sl2⟩,ho2,hc2,n2,hd2⟩:=id hb;simp only at hc hd hc2 hd2;subst hc hd hc2 hd2;have e:vs.toArray++ws.toArray=(vs++ws).toArray:=by simp
 by_cases hw:ws=[]
 ·exact concat_meets ⟨_,ho,rfl⟩ ⟨_,ho2,rfl⟩ noFill_tuple_add seq_tuple_add PySem.F.slot_tuple_add PySem.F.entry_tuple_add (PySem.F.args_tuple_add_2 _ _)
   (tuple_addW1 t b vs.toArray ws.toArray n n2 dd dd2 sl sl2 (by simpa using hv) (by simp[hw])) ⟨ho,ho2,h1 hw⟩
 ·refine concat_meets ⟨_,ho,rfl⟩ ⟨_,ho2,rfl⟩ noFill_tuple_add seq_tuple_add PySem.F.slot_tuple_add PySem.F.entry_tuple_add (PySem.F.args_tuple_add_2 _ _)
   (tuple_addW2 t b vs.toArray ws.toArray n n2 dd dd2 sl sl2 (by simpa using hv) (by simpa using hw) (by rw[Wad,Wad];exact hsz)) ⟨ho,ho2,?_⟩
  rw[e];exact h2 hw
def sIx (n d:Nat):Option Int->Nat
 |none=>d
 |some v=>if v<0 then (v+(n:Int)).toNat else min v.toNat n
theorem sIx_none (n d:Nat):sIx n d none=d:=rfl
theorem sIx_nat (n d k:Nat):sIx n d (some (k:Int))=min k n:=by
 show (if (k:Int)<0 then ((k:Int)+(n:Int)).toNat else min (k:Int).toNat n)=min k n;rw[if_neg (by omega),Wba]
theorem Zoo (n d:Nat) (hd:d<=n) (o:Option Int):sIx n d o<=n:=by
 cases o with
 |none=>exact hd
 |some v=>
  show (if v<0 then (v+(n:Int)).toNat else min v.toNat n)<=n;by_cases hv:v<0
  ·rw[if_pos hv];omega
  ·rw[if_neg hv];exact Nat.min_le_right _ _
theorem Zhm (v:Int) (n d:Nat):(if v<0 then max (v+(n:Int)) 0 else min v (n:Int))=((sIx n d (some v):Nat):Int):=by
 show (if v<0 then max (v+(n:Int)) 0 else min v (n:Int))=(((if v<0 then (v+(n:Int)).toNat else min v.toNat n):Nat):Int);by_cases hv:v<0
 ·simp only[if_pos hv];omega
 ·simp only[if_neg hv];omega
theorem Zhe (lo hi:Option Int) (n:Nat):Builtin.Slice.sliceAdjust lo hi 1 (n:Int)=(((sIx n 0 lo:Nat):Int),((sIx n n hi:Nat):Int)):=by
 have h1:¬ ((1:Int)<0):=by omega
 unfold Builtin.Slice.sliceAdjust;simp only[h1,if_false];refine Prod.ext ?_ ?_
 ·cases lo with
  |none=>rfl
  |some v=>exact Zhm v n 0
 ·cases hi with
  |none=>rfl
  |some v=>exact Zhm v n n
theorem Zg6 (i j:Nat):Builtin.Slice.slicePlaces (i:Int) (j:Int) 1=j-i:=by
 unfold Builtin.Slice.slicePlaces;have h1:(1:Int) > 0:=by omega
 simp only[h1,if_true,Int.ediv_one];split <;> omega
theorem Zd2 {v:Value}{o:Option Int}{Q:Option Int->Shared->Prop}(p:IsPart v o) (h:Q o s):wpAny (model prog w) A (Builtin.Slice.slicePartIndex v) Q E s:=by
 cases p with
 |none=>exact slicePart_none h
 |int i t=>exact slicePart_int h
theorem Zbz {sl:Addr}{vl vu:Value}{lo hi:Option Int}{n:Nat}{Q:Int × Int × Nat->Shared->Prop}(hs:s.heap.IsSliceOf sl vl vu .none) (pl:IsPart vl lo) (pu:IsPart vu hi)
  (h:Q (((sIx n 0 lo:Nat):Int),1,sIx n n hi-sIx n 0 lo) s):wpAny (model prog w) A (Builtin.Slice.sliceApplied (.ref sl) (pure (n:Int))) Q E s:=by
 obtain⟨os,hos,hcs,hds⟩:=id hs;unfold Builtin.Slice.sliceApplied Builtin.Slice.sliceFields;refine wpAny_bind (wpAny_bind (wpAny_field hos hds (x:=vl) rfl (wpAny_bind (wpAny_field hos hds (x:=vu) rfl (wpAny_bind (wpAny_field hos hds (x:=.none) rfl (wpAny_pure ?_)))))));refine wpAny_bind (slicePart_none ?_);show wpAny _ _ (if ((1:Int) == 0)=true then _ else _) _ _ s;rw[if_neg (by decide)];refine wpAny_bind (Zd2 pl (wpAny_bind (Zd2 pu (wpAny_bind (wpAny_pure ?_)))));show wpAny _ _ (match Builtin.Slice.sliceAdjust lo hi 1 (n:Int) with|(lo,hi)=>pure (lo,(1:Int),Builtin.Slice.slicePlaces lo hi 1)) _ _ s;rw[Zhe lo hi n];show wpAny _ _ (pure (((sIx n 0 lo:Nat):Int),(1:Int),Builtin.Slice.slicePlaces ((sIx n 0 lo:Nat):Int) ((sIx n n hi:Nat):Int) 1)) _ _ s;rw[Zg6];exact wpAny_pure h
theorem Zks (xs:Array Value) (i k:Nat):((Wa2 k).filterMap λ(m:Nat)=>xs[((i:Int)+(m:Int)*1).toNat]?).toArray=((xs.toList.drop i).take k).toArray:=by
 have e:(λ(m:Nat)=>xs[((i:Int)+(m:Int)*1).toNat]?)=λm=>xs[i+m]?:=by
  funext m
  have:((i:Int)+(m:Int)*1).toNat=i+m:=by omega
  rw[this]
 rw[e];have:=pick_run xs i k;rw[List.filterMap_map]at this;have e2:((λx=>xs[x]?)∘λx=>i+x)=λm=>xs[i+m]?:=rfl;rw[e2]at this;rw[this]
theorem getItem_tuple_cut {t sl:Addr}{items:Array Value}{vl vu:Value}{lo hi:Option Int}{Q:Value->Shared->Prop}(ht:IsTup s.heap t items) (hs:s.heap.IsSliceOf sl vl vu .none) (pl:IsPart vl lo) (pu:IsPart vu hi)
  (hw:¬ (sIx items.size 0 lo=0/\sIx items.size items.size hi=items.size))
  (h:Q (.ref s.heap.objs.size) { s with heap:=s.heap.push { cls:=.type "tuple",data:=.seq ((items.toList.drop (sIx items.size 0 lo)).take (sIx items.size items.size hi-sIx items.size 0 lo)).toArray } })
  (hsz:items.size<=sizeLine):wpAny (model prog w) A (getItem (.ref t) (.ref sl)) Q E s:=by
 have htake:sizeOk (.seq ((items.toList.drop (sIx items.size 0 lo)).take (sIx items.size items.size hi-sIx items.size 0 lo)).toArray):=by
  show ((items.toList.drop (sIx items.size 0 lo)).take (sIx items.size items.size hi-sIx items.size 0 lo)).toArray.size<=sizeLine;rw[Wad,Wb2,Wbh,Array.length_toList];omega
 have hj:sIx items.size items.size hi<=items.size:=Zoo _ _ (Wac _) hi;obtain⟨os,hos,hcs,hds⟩:=id hs;have hTs:s.TypeIs (.ref sl) "slice":=⟨os,hos,hcs⟩;unfold getItem
 try with_reducible refine wpAny_holding ?_
 first|refine wpAny_bind (wpAny_pure ?_)|skip
 refine wpAny_bind (wpAny_sequenceKey ht.typeIs (by decide) ?_);refine wpAny_bind (wpAny_callSpecial?_slot (name:=Str.ofString "__getitem__") ht.typeIs PyProof.Rows.slot_tuple_getitem
  (wpAny_call_entry PyProof.Rows.slot_tuple_getitem ht.typeIs entry_tuple_getitem ?_ (args_tuple_getitem _ _)))
 show wpAny _ _ (Builtin.Tuple.tupleItemsOf (.ref t) >>= _) _ _ s;refine wpAny_bind (tupleItemsOf_ ht ?_);refine wpAny_bind (wpAny_typeOf hTs ?_);rw[if_pos (by decide)];refine wpAny_bind (Zbz hs pl pu ?_);have hno:¬ ((((sIx items.size 0 lo:Nat):Int) == 0 && (1:Int) == 1 && (sIx items.size items.size hi-sIx items.size 0 lo) == items.size)=true):=by
  intro q;rw[Wa1,Wa1]at q;have q1:((sIx items.size 0 lo:Nat):Int)=0:=eq_of_beq q.1.1;have q2:sIx items.size items.size hi-sIx items.size 0 lo=items.size:=eq_of_beq q.2;exact hw ⟨by omega,by omega⟩
 show wpAny _ _ (if (((sIx items.size 0 lo:Nat):Int) == 0 && (1:Int) == 1 && (sIx items.size items.size hi-sIx items.size 0 lo) == items.size)=true then _ else _) _ _ s;rw[if_neg hno,Zks]
 first
  |exact wpAny_bind (m:=Builtin.Tuple.tupleExact _) (wpAny_newObj_type (wpAny_pure ⟨_,rfl,wpAny_pure h⟩) htake)
  |exact wpAny_bind (m:=Builtin.Tuple.tupleExact _) (wpAny_newObj_type (wpAny_bind (wpAny_pure (wpAny_pure ⟨_,rfl,wpAny_pure h⟩))) htake)
  |exact wpAny_bind (wpAny_bind (m:=Builtin.Tuple.tupleExact _) (wpAny_newObj_type (wpAny_pure (wpAny_pure ⟨_,rfl,wpAny_pure h⟩)) htake))
  |exact wpAny_bind (wpAny_bind (m:=Builtin.Tuple.tupleExact _) (wpAny_newObj_type (wpAny_pure ⟨_,rfl,wpAny_pure h⟩) htake))
end
end HT
namespace L2
open PySem PySem.Spec PyProof.Rows
abbrev TO:=St->Hp->(Option Int->Hp->Prop)->Prop
def PO (X:Cx) (e:Option Expr) (t:TO):Prop:=
 ∀(pins:List (Addr × Obj)) (s:Shared) (σ:St) (H:Hp) (Q:Option Int->Hp->Prop),Inv X pins σ H s->t σ H Q →
  wpAny (model X.prog X.w) X.A (evalPart e X.env) (λu s'=>∃o H',Inv X pins σ H' s' /\ IsPart u o/\Q o H') X.xe s
def tNoPart:TO:=λ_ H Q=>Q none H
def tPart (t:TE):TO:=λσ H Q=>t σ H λx H1=>∃i,x=.int i/\Q (some i) H1
theorem Zd3 {ns:List Int}:∀{us:List Value},Vals (ns.map V.int) us->IntsAre us ns:=by
 induction ns with
 |nil=>intro us r;rw[Wcx]at r;cases r;exact .nil
 |cons n ns ih=>
  intro us r;rw[Wa8]at r;cases r with
  |cons r1 r2=>
   obtain⟨t,e⟩:=r1;subst e;exact .cons n t (ih r2)
section
variable {X:Cx}{e:Expr}{te:TE}{lo hi:Option Expr}{tl th:TO}{pos p2:Pos}
theorem Zdw:PO X none tNoPart:=by
 intro pins s σ H Q I h;rw[evalPart_none];exact wpAny_pure ⟨none,H,I,.none,h⟩
theorem Zcw (h:PE X e te):PO X (some e) (tPart te):=by
 intro pins s σ H Q I hw;rw[evalPart_some];refine thn (h pins s σ H _ I hw) λu s1 ⟨x,H1,I1,r1,q1⟩=>?_;obtain⟨i,rfl,q⟩:=q1;obtain⟨t,rfl⟩:=r1;exact⟨some i,H1,I1,.int i t,q⟩
def SlR (X:Cx) (r:V->Option Int->Option Int->Hp->VK->Prop):Prop:=
 ∀(pins:List (Addr × Obj)) (s:Shared) (σ:St) (H:Hp) (x:V) (v vl vu:Value) (lo hi:Option Int) (sl:Addr) (Q:VK),Inv X pins σ H s->RelV x v->s.heap.IsSliceOf sl vl vu .none->IsPart vl lo->IsPart vu hi->r x lo hi H Q →
  ∃T id,typeLookup (.type T) "__getitem__" = pure (some (.builtin id))/\s.TypeIs v T/\wpAny (model X.prog X.w) X.A (getItem v (.ref sl)) (EP X pins σ Q) X.xe s
theorem SlR.or {r r':V->Option Int->Option Int->Hp->VK->Prop}(h:SlR X r) (h':SlR X r'):SlR X (λx lo hi H Q=>r x lo hi H Q\/r' x lo hi H Q):=by
 intro pins s σ H x v vl vu lo hi sl Q I rx hs pl pu q;rcases q with q|q
 ·exact h pins s σ H x v vl vu lo hi sl Q I rx hs pl pu q
 ·exact h' pins s σ H x v vl vu lo hi sl Q I rx hs pl pu q
def tSl (r:V->Option Int->Option Int->Hp->VK->Prop) (te:TE) (tl th:TO):TE:=λσ H Q=>te σ H λx H1=>tl σ H1 λl H2=>th σ H2 λu H3=>r x l u H3 Q
theorem Zcq {r:V->Option Int->Option Int->Hp->VK->Prop}(hr:SlR X r) (he:PE X e te) (hl:PO X lo tl) (hu:PO X hi th):PE X (.Subscript e (.Slice lo hi none p2) pos) (tSl r te tl th):=by
 intro pins s σ H Q I h;refine Subscript_ (thn (he pins s σ H _ I h) λv s1 ⟨x,H1,I1,r1,q1⟩=>?_);refine wpAny_Slice (thn (hl pins s1 σ H1 _ I1 q1) λvl s2 ⟨l,H2,I2,pl,q2⟩=>thn (hu pins s2 σ H2 _ I2 q2) λvu s3 ⟨u,H3,I3,pu,q3⟩=>?_);rw[evalPart_none];refine wpAny_pure ?_;have I4:Inv X pins σ H3 { s3 with heap:=s3.heap.push { cls:=.type "slice",data:=.fields #[vl,vu,.none] } }:=I3.kept (t':=s3.toks) λb ob q=>Waa _ q;obtain⟨T,id,hT,ht,hg⟩:=hr pins { s3 with heap:=s3.heap.push { cls:=.type "slice",data:=.fields #[vl,vu,.none] } } σ H3 x v vl vu l u s3.heap.objs.size Q I4 r1 (Heap.IsSliceOf.new ..) pl pu q3;show wpAny (model X.prog X.w) X.A (subscriptTail e (.Slice lo hi none p2) v (.ref s3.heap.objs.size)) (EP X pins σ Q) X.xe { s3 with heap:=s3.heap.push { cls:=.type "slice",data:=.fields #[vl,vu,.none] } };exact tail_any (ops:=[.ref s3.heap.objs.size,v]) ht hT hg (by with_unfolding_all rfl)
def cutV (xs:List V) (lo hi:Option Int):List V:=(xs.drop (HT.sIx xs.length 0 lo)).take (HT.sIx xs.length xs.length hi-HT.sIx xs.length 0 lo)
theorem Zdi (xs:List V) (lo hi:Option Int):(cutV xs lo hi).length<=xs.length:=by
 unfold cutV;rw[Wb2,Wbh];omega
def rSlT (K:W.Frag):V->Option Int->Option Int->Hp->VK->Prop:=λx lo hi H Q=>∃a xs,x=.ref a/\SqT K H a xs ∧
 ¬ (HT.sIx xs.length 0 lo=0/\HT.sIx xs.length xs.length hi=xs.length)/\∀p,H p=none->Q (.ref p) (upd H p (.tup (cutV xs lo hi)))
theorem Zo6:SlR X (rSlT X.K):=by
 intro pins s σ H x v vl vu lo hi sl Q I rx hs pl pu h;obtain⟨a,xs,rfl,hx,hw,q⟩:=h;cases rx;obtain⟨its,r,ht,hz⟩:=I.tuple hx;have hlen:its.toArray.size=xs.length:=by rw[Wad];exact r.length.symm
 refine⟨"tuple",_,PyProof.Rows.slot_tuple_getitem.lookup,ht.typeIs,?_⟩;refine HT.getItem_tuple_cut ht hs pl pu (by rw[hlen];exact hw) ?_ (by rw[hlen];exact hz);rw[hlen];refine⟨.ref s.heap.objs.size,_,I.laid (t':=s.toks) (o:=.tup (cutV xs lo hi)) (λb ob q=>Waa _ q) (Wac _) ?_,rfl,q _ (I.hok.fresh (Wac _))⟩;exact⟨Waz (Zdi xs lo hi) hz,_,(r.drop (HT.sIx xs.length 0 lo)).take (HT.sIx xs.length xs.length hi-HT.sIx xs.length 0 lo),IsTupN.new _ _⟩
def rCatT (K:W.Frag):R2:=λx y H Q=>∃a b xs ys,x=.ref a/\y=.ref b/\SqT K H a xs/\SqT K H b ys/\xs≠[]/\xs.length+ys.length<=sizeLine ∧
 (ys=[]->Q (.ref a) H)/\(ys≠[]->∀p,H p=none->Q (.ref p) (upd H p (.tup (xs++ys))))
theorem Vals.nil_iff {xs:List V}{us:List Value}(r:Vals xs us):us=[]↔xs=[]:=by
 cases r with
 |nil=>simp
 |cons _ _=>simp
theorem Zm9:OpR X (binaryOp .Add) (rCatT X.K):=by
 intro pins s σ H x y v u Q I rx ry h;obtain⟨a,b,xs,ys,rfl,rfl,ha,hb,hx,hz,q1,q2⟩:=h;cases rx;cases ry;obtain⟨its,r1,p1,_⟩:=I.tuple ha;obtain⟨its2,r2,p2,_⟩:=I.tuple hb;refine HT.cat_tup p1 p2 (λz=>hx (r1.nil_iff.mp z)) (λz=>⟨.ref a,H,I,rfl,q1 (r2.nil_iff.mp z)⟩) (λz=>?_) (by rw[<- r1.length,<- r2.length];exact hz);refine⟨.ref s.heap.objs.size,_,I.laid (t':=s.toks) (o:=.tup (xs++ys)) (λb ob q=>Waa _ q) (Wac _) ?_,rfl,q2 (λw=>z (r2.nil_iff.mpr w)) _ (I.hok.fresh (Wac _))⟩;exact⟨by rw[Wan];exact hz,_,r1.append r2,IsTupN.new _ _⟩
end
end L2
namespace L2
open PySem PySem.Spec PyProof.Rows
def ixN (n:Nat) (i:Int):Option Nat:=if 0<=i then (if i<n then some i.toNat else none) else if -(n:Int)<=i then some (i+n).toNat else none
def atI {α:Type}(xs:List α) (i:Int):Option α:=(ixN xs.length i).bind λj=>xs[j]?
theorem Zij {n:Nat}{i:Int}{j:Nat}(h:ixN n i=some j):seqIndex? i n=some j/\j<n /\ -(n:Int)<=i/\i<n:=by
 unfold ixN at h;by_cases h0:0<=i
 ·rw[if_pos h0]at h
  by_cases h1:i<n
  ·rw[if_pos h1]at h
   have e:i.toNat=j:=War.inj h;exact⟨by rw[seqIndex_of h0 h1,e],by omega,by omega,h1⟩
  ·rw[if_neg h1]at h;cases h
 ·rw[if_neg h0]at h
  by_cases h1:-(n:Int)<=i
  ·rw[if_pos h1]at h
   have e:(i+n).toNat=j:=War.inj h;exact⟨by rw[seqIndex_neg (by omega) h1,e],by omega,h1,by omega⟩
  ·rw[if_neg h1]at h;cases h
theorem Zf0 {α:Type}{xs:List α}{i:Int}{v:α}(h:atI xs i=some v):∃j,seqIndex? i xs.length=some j/\xs[j]?=some v/\j<xs.length /\ -(xs.length:Int)<=i/\i<xs.length:=by
 unfold atI at h;cases e:ixN xs.length i with
 |none=>rw[e]at h;cases h
 |some j=>
  rw[e]at h;obtain⟨h1,h2,h3,h4⟩:=Zij e;exact⟨j,h1,h,h2,h3,h4⟩
theorem Zef {α:Type}{xs:List α}{j:Nat}{v:α}(h:xs[j]?=some v):atI xs (j:Int)=some v:=by
 have hj:j<xs.length:=(Wai.mp h).1;have e:ixN xs.length (j:Int)=some j:=by
  unfold ixN;rw[if_pos (by omega),if_pos (by omega)];simp
 unfold atI;rw[e];exact h
def PlainIx (b:Expr):Prop:=∀o i,subscripted b false o i=operate [o,i] (getItem o i)
def IxR (X:Cx) (r:R2):Prop:=
 ∀(value slice:Expr) (pins:List (Addr × Obj)) (s:Shared) (σ:St) (H:Hp) (x y:V) (v u:Value) (Q:VK),Inv X pins σ H s->RelV x v->RelV y u->r x y H Q →
  subscripted slice false v u=operate [v,u] (getItem v u)->wpAny (model X.prog X.w) X.A (subscriptTail value slice v u) (EP X pins σ Q) X.xe s
def MtR (X:Cx) (id:String) (r:V->List V->Hp->VK->Prop):Prop:=
 ∀(pins:List (Addr × Obj)) (s:Shared) (σ:St) (H:Hp) (x:V) (xs:List V) (v:Value) (us:List Value) (Q:VK),Inv X pins σ H s->RelV x v->Vals xs us->r x xs H Q →
  wpAny (model X.prog X.w) X.A (call (.builtin id) (v::us)) (EP X pins σ Q) X.xe s
section
variable {X:Cx}{a b:Expr}{ta tb:TE}{pos:Pos}
theorem IxR.or {r r':R2}(h:IxR X r) (h':IxR X r'):IxR X (λx y H Q=>r x y H Q\/r' x y H Q):=by
 intro value slice pins s σ H x y v u Q I rx ry q hs;rcases q with q|q
 ·exact h value slice pins s σ H x y v u Q I rx ry q hs
 ·exact h' value slice pins s σ H x y v u Q I rx ry q hs
theorem Zb6 {r:R2}(hr:IxR X r) (ha:PE X a ta) (hb:PE X b tb) (hs:PlainIx b):PE X (.Subscript a b pos) (tOp r ta tb):=by
 intro pins s σ H Q I h;exact Subscript_ (binT ha hb I h λv u s2 x y H2 I2 rx ry q=>hr a b pins s2 σ H2 x y v u Q I2 rx ry q (hs _ _))
def rIxL (K:W.Frag):R2:=λx y H Q=>∃p xs i v,x=.ref p/\y=.int i/\SqL K H p xs/\atI xs i=some v/\Q v H
def rIxT (K:W.Frag):R2:=λx y H Q=>∃p xs i v,x=.ref p/\y=.int i/\SqT K H p xs/\atI xs i=some v/\Q v H
def rIxS:R2:=λx y H Q=>∃z i c,x=.str z/\y=.int i/\z.length<=sizeLine/\atI z.cps.toList i=some c/\Q (.str ⟨#[c]⟩) H
theorem Zlu:IxR X (rIxL X.K):=by
 intro value slice pins s σ H x y v u Q I rx ry h hs;obtain⟨p,xs,i,z,rfl,rfl,hq,he,q⟩:=h;cases rx;obtain⟨t,rfl⟩:=ry;obtain⟨its,r,pl,hz⟩:=I.list hq;obtain⟨j,h1,h2,h3,h4,h5⟩:=Zf0 he;obtain⟨w,ew,rw'⟩:=r.get h2;have hl:=r.length;have hn:=line63;have fin:EP X pins σ Q w s:=⟨z,H,I,rw',q⟩;by_cases h0:0<=i
 ·have hj:i.toNat=j:=by
   rw[seqIndex_of h0 h5]at h1;exact War.inj h1
  exact item_listR pl.isList h0 (by omega) (by rw[hj];simpa using ew) fin hs
 ·have hj:(i+(its.toArray.size:Int)).toNat=j:=by
   rw[seqIndex_neg (by omega) h4]at h1;rw[Wad,<- hl];exact War.inj h1
  exact subscriptTail_builtinR (x:=w) pl.isList.typeIs slot_list_getitem.lookup
   (wpAny_getItem_list_neg (Q:=λr s'=>r=w/\EP X pins σ Q r s') pl.isList (by omega) (by rw[Wad] <;> omega) (by omega) (by rw[hj];simpa using ew) ⟨rfl,fin⟩) hs
theorem Zn1:IxR X (rIxT X.K):=by
 intro value slice pins s σ H x y v u Q I rx ry h hs;obtain⟨p,xs,i,z,rfl,rfl,hq,he,q⟩:=h;cases rx;obtain⟨t,rfl⟩:=ry;obtain⟨its,r,pl,hz⟩:=I.tuple hq;obtain⟨j,h1,h2,h3,h4,h5⟩:=Zf0 he;obtain⟨w,ew,rw'⟩:=r.get h2;have hl:=r.length;have hn:=line63;have fin:EP X pins σ Q w s:=⟨z,H,I,rw',q⟩;exact subscriptTail_builtinR (x:=w) pl.typeIs slot_tuple_getitem.lookup
  (getItem_tuple (j:=j) (Q:=λr s'=>r=w/\EP X pins σ Q r s') pl (by omega) (by omega) (by rw[Wad,<- hl];exact h1) (by simpa using ew) ⟨rfl,fin⟩) hs
theorem Zoe:IxR X rIxS:=by
 intro value slice pins s σ H x y v u Q I rx ry h hs;obtain⟨z,i,c,rfl,rfl,hz,he,q⟩:=h;obtain⟨t,rfl⟩:=rx;obtain⟨t',rfl⟩:=ry;obtain⟨j,h1,h2,h3,h4,h5⟩:=Zf0 he;have hl:z.cps.toList.length=z.length:=by simp[Str.length]
 rw[hl]at h1 h4 h5;have hn:=line63;exact tail_any (typeIs_str s z t) slot_str_getitem.lookup (getItem_str (c:=c) (by
  have e1:decide (i < -(2 ^ 63:Int))=false:=decide_eq_false (by omega);have e2:decide (i ≥ 2 ^ 63)=false:=decide_eq_false (by omega);rw[e1,e2,Bool.or_false]) (by rw[h1];simpa using h2) ⟨.str ⟨#[c]⟩,H,I.tok _,⟨_,rfl⟩,q⟩) hs
def rIx (K:W.Frag):R2:=λx y H Q=>rIxL K x y H Q\/rIxT K x y H Q\/rIxS x y H Q
theorem Zpu:IxR X (rIx X.K):=Zlu.or (Zn1.or Zoe)
theorem Zhj (its:List Value) (n j:Nat) (u:Value):Obj.mapSeq (·.setIfInBounds j u) { cls:=.type "list",data:=.seq its.toArray n } = { cls:=.type "list",data:=.seq (its.set j u).toArray n }:=by
 simp[Obj.mapSeq]
theorem Inv.lst {pins:List (Addr × Obj)}{σ:St}{H:Hp}{s:Shared}{p:Addr}{xs:List V}(I:Inv X pins σ H s) (h:H p=some (.lst xs)) :
  ∃(its:List Value) (n:Nat),Vals xs its/\s.heap.get? p=some { cls:=.type "list",data:=.seq its.toArray n } /\ xs.length<=sizeLine:=by
 obtain⟨z,its,n,r,e⟩:=I.hok p _ h;exact⟨its,n,r,e,z⟩
theorem Inv.lstUpd {pins:List (Addr × Obj)}{σ:St}{H:Hp}{s:Shared}{p:Addr}{xs ys:List V}{its its':List Value}{n n':Nat}{f:Obj->Obj}(I:Inv X pins σ H s) (h:H p=some (.lst xs))
  (ho:s.heap.get? p=some { cls:=.type "list",data:=.seq its.toArray n }) (hf:f { cls:=.type "list",data:=.seq its.toArray n } = { cls:=.type "list",data:=.seq its'.toArray n' }) (r:Vals ys its') (hz:ys.length<=sizeLine) (t:Nat) :
  Inv X pins σ (upd H p (.lst ys)) { s with heap:=s.heap.update p f,toks:=t }:=by
 have e:(s.heap.update p f).get? p=some { cls:=.type "list",data:=.seq its'.toArray n' }:=by
  rw[Wa6 f ho (by rw[hf] <;> rfl),hf]
 refine I.write (x:=p) (e:=p) (by rw[h];trivial) (.inl rfl) (λb u hb q=>(Wav _ _ (Ne.symm hb)).trans q) ⟨_,e⟩ ?_;exact⟨hz,its',n',r,e⟩
def rSetL:V->V->V->Hp->(Hp->Prop)->Prop:=λo i v H Q=>∃p xs k j,o=.ref p/\i=.int k/\H p=some (.lst xs)/\ixN xs.length k=some j/\Q (upd H p (.lst (xs.set j v)))
theorem Zki:PSet X rSetL:=by
 intro pins s σ H o i v ov iv u Q I ro ri rv h;obtain⟨p,xs,k,j,rfl,rfl,hp,hj,q⟩:=h;cases ro;obtain⟨t,rfl⟩:=ri;obtain⟨its,n,r,ho,hz⟩:=I.lst hp;obtain⟨h1,h2,h3,h4⟩:=Zij hj;have hl:=r.length;have hn:=line63;have I':Inv X pins σ (upd H p (.lst (xs.set j v))) { s with heap:=s.heap.update p (Obj.mapSeq (·.setIfInBounds j u)) }:=
  I.lstUpd hp ho (Zhj its n j u) (r.set rv j) (by rw[Wb6];exact hz) s.toks
 by_cases h0:0<=k
 ·have hk:k.toNat=j:=by
   rw[seqIndex_of h0 h4]at h1;exact War.inj h1
  exact PySem.W.ki_setAt ho h0 (by omega) (by rw[Wad,<- hl];exact h4) (by rw[hk];exact⟨_,I',q⟩)
 ·have hk:(k+(its.toArray.size:Int)).toNat=j:=by
   rw[seqIndex_neg (by omega) h3]at h1;rw[Wad,<- hl];exact War.inj h1
  exact PySem.W.ki_setBack ho (by omega) (by rw[Wad,<- hl];exact h3) (by omega) (by rw[hk];exact⟨_,I',q⟩)
theorem Zfc (lo hi:Option Int) (n:Nat):(sliceBounds lo hi none n).1=((HT.sIx n 0 lo:Nat):Int)/\(sliceBounds lo hi none n).2.1=((HT.sIx n n hi:Nat):Int)/\(sliceBounds lo hi none n).2.2=1:=by
 refine⟨?_,?_,rfl⟩
 ·cases lo with
  |none=>simp[sliceBounds,HT.sIx]
  |some i=>
   simp only[sliceBounds,HT.sIx,Option.getD_none,show (1:Int) > 0 by decide,if_true];by_cases h:i<0
   ·simp only[h,if_true] <;> omega
   ·simp only[h,if_false] <;> omega
 ·cases hi with
  |none=>simp[sliceBounds,HT.sIx]
  |some i=>
   simp only[sliceBounds,HT.sIx,Option.getD_none,show (1:Int) > 0 by decide,if_true];by_cases h:i<0
   ·simp only[h,if_true] <;> omega
   ·simp only[h,if_false] <;> omega
theorem Zer (its:List Value) (lo hi:Option Int):slicePick its.toArray lo hi none=((its.drop (HT.sIx its.length 0 lo)).take (HT.sIx its.length its.length hi-HT.sIx its.length 0 lo)).toArray:=by
 obtain⟨h1,h2,h3⟩:=Zfc lo hi its.toArray.size;unfold slicePick;rw[h1,h2,h3];simp only[sliceRange_one,pick_run,Wad] <;> rfl
def rSlL (K:W.Frag):V->Option Int->Option Int->Hp->VK->Prop:=λx lo hi H Q=>∃a xs,x=.ref a/\SqL K H a xs/\∀p,H p=none->Q (.ref p) (upd H p (.lst (cutV xs lo hi)))
theorem Zly:SlR X (rSlL X.K):=by
 intro pins s σ H x v vl vu lo hi sl Q I rx hs pl pu h;obtain⟨a,xs,rfl,hx,q⟩:=h;cases rx;obtain⟨its,r,ht,hz⟩:=I.list hx;have hlen:=r.length;refine⟨"list",_,slot_list_getitem.lookup,ht.isList.typeIs,?_⟩;refine wpAny_getItem_list_slice ht.isList hs pl pu .none (by simp) ?_ (by rw[Wad] <;> omega)
 rw[Zer,<- hlen];refine⟨.ref s.heap.objs.size,_,I.laid (t':=s.toks) (o:=.lst (cutV xs lo hi)) (λb ob q=>Waa _ q) (Wac _) ?_,rfl,q _ (I.hok.fresh (Wac _))⟩;exact⟨Waz (Zdi xs lo hi) hz,_,0,(r.drop (HT.sIx xs.length 0 lo)).take (HT.sIx xs.length xs.length hi-HT.sIx xs.length 0 lo),Wae _ rfl⟩
def flatV:V->Bool
 |.non=>true
 |.bl _=>true
 |.int _=>true
 |.str _=>true
 |_=>false
def eqV:V->V->Bool
 |.non,.non=>true
 |.bl a,.bl b=>a == b
 |.bl a,.int b=>(if a then 1 else 0) == b
 |.int a,.bl b=>a == (if b then 1 else 0)
 |.int a,.int b=>a == b
 |.str a,.str b=>a == b
 |_,_=>false
theorem Zfr:CallR X (.builtin "len") (λxs H Q=>∃p ys,xs=[.ref p]/\(SqL X.K H p ys\/SqT X.K H p ys)/\Q (.int ys.length) H):=by
 intro pins s σ H xs us Q I r h;obtain⟨p,ys,rfl,hq,q⟩:=h;obtain⟨u,rfl,rx⟩:=vals1 r;cases rx;have hn:=line63;rcases hq with hq|hq
 ·obtain⟨its,r',pl,hz⟩:=I.list hq
  have hlen:=r'.length;exact Calls.call_len_list pl.isList (by simp only[Wad] <;> omega) ⟨.int ys.length,H,I.tok _,⟨s.toks+1,by rw[Wad,hlen]⟩,q⟩
 ·obtain⟨its,r',pl,hz⟩:=I.tuple hq
  have hlen:=r'.length;exact len_tuple pl (by simp only[Wad] <;> omega) ⟨.int ys.length,H,I.tok _,⟨s.toks+1,by rw[Wad,hlen]⟩,q⟩
theorem CallR.or {f:Value}{r r':List V->Hp->VK->Prop}(h:CallR X f r) (h':CallR X f r'):CallR X f (λxs H Q=>r xs H Q\/r' xs H Q):=by
 intro pins s σ H xs us Q I rs q;rcases q with q|q
 ·exact h pins s σ H xs us Q I rs q
 ·exact h' pins s σ H xs us Q I rs q
theorem Zeh:CallR X (.type "tuple") (λxs H Q=>∃p ys,xs=[.ref p]/\((SqL X.K H p ys/\∀l,H l=none->Q (.ref l) (upd H l (.tup ys)))\/(SqT X.K H p ys/\Q (.ref p) H))):=by
 intro pins s σ H xs us Q I r h;obtain⟨p,ys,rfl,h⟩:=h;obtain⟨u,rfl,rx⟩:=vals1 r;cases rx;rcases h with ⟨hq,q⟩|⟨hq,q⟩
 ·obtain⟨its,r',pl,hz⟩:=I.list hq
  have hlen:=r'.length;refine call_tuple_list pl.isList (λh' kp=>?_) (by simp only[Wad] <;> omega)
  have I1:Inv X pins σ H { s with heap:=h' }:=I.kept (t':=s.toks) kp;have I2:Inv X pins σ (upd H h'.objs.size (.tup ys)) { s with heap:=h'.push { cls:=.type "tuple",data:=.seq its.toArray } }:=
   I1.laid (t':=s.toks) (λb o e=>Waa _ e) (Wac _) (show ObjOk X.prog X.w _ _ _ (.tup ys) from ⟨hz,its,r',IsTupN.new _ _⟩)
  exact⟨.ref h'.objs.size,_,I2,rfl,q _ (I1.hok.fresh (Wac _))⟩
 ·obtain⟨its,r',pl,hz⟩:=I.tuple hq
  exact call_tuple_same pl ⟨.ref p,H,I,rfl,q⟩
def tyV (K:W.Frag) (T:String) (x:V) (H:Hp):Prop:=match x with
 |.str _=>T = "str"
 |.int _=>T = "int"
 |.ref p=>(T = "list" /\ ∃xs,SqL K H p xs)\/(T = "tuple" /\ ((∃o,K.lookup p=some o/\o.cls=.type "tuple" /\ o.dict=none)\/∃xs,H p=some (.tup xs))) ∨
   (T = "dict" /\ ((∃kvs,H p=some (.dK kvs))\/∃kvs,H p=some (.dT kvs)))\/(T = "set" /\ ∃S n,H p=some (.set S n))
 |_=>False
theorem Zo4 {pins:List (Addr × Obj)}{σ:St}{H:Hp}{s:Shared}{T:String}{x:V}{v:Value}(I:Inv X pins σ H s) (r:RelV x v) (ty:tyV X.K T x H) :
  s.TypeIs v T/\∀a,v=.ref a->∃ob,s.heap.get? a=some ob/\ob.dict=none:=by
 cases x with
 |str z=>
  obtain⟨t,rfl⟩:=r;cases (show T = "str" from ty);exact⟨typeIs_str s z t,λ_ e=>nomatch e⟩
 |int i=>
  obtain⟨t,rfl⟩:=r;cases (show T = "int" from ty);exact⟨typeIs_int s i t,λ_ e=>nomatch e⟩
 |ref p=>
  cases r;rcases ty with ⟨rfl,xs,hq⟩|⟨rfl,(⟨o,hk,hc,hd⟩|⟨xs,hk⟩)⟩|⟨rfl,hk⟩|⟨rfl,S,n,hk⟩
  ·obtain⟨its,_,pl,_⟩:=I.list hq
   refine⟨pl.isList.typeIs,λa e=>?_⟩;cases e;obtain⟨o,n,e,c,hd,_⟩:=pl;exact⟨o,e,hd⟩
  ·refine⟨⟨o,I.kIn p o hk,hc⟩,λa e=>?_⟩
   cases e;exact⟨o,I.kIn _ o hk,hd⟩
  ·obtain⟨_,_,_,o,e,⟨hc,_⟩,hd⟩:=I.hok p _ hk
   refine⟨⟨o,e,hc⟩,λa e2=>?_⟩;cases e2;exact⟨o,e,hd⟩
  ·have z:∃o,s.heap.get? p=some o/\o.ExactDict:=by
    rcases hk with ⟨kvs,hk⟩|⟨kvs,hk⟩
    ·obtain⟨_,_,_,_,o,_,_,e,ex,_⟩:=I.hok p _ hk
     exact⟨o,e,ex⟩
    ·obtain⟨_,_,_,_,o,_,_,e,ex,_⟩:=I.hok p _ hk
     exact⟨o,e,ex⟩
   obtain⟨o,e,ex⟩:=z;refine⟨⟨o,e,ex.1⟩,λa e2=>?_⟩;cases e2;exact⟨o,e,ex.2.1⟩
  ·obtain⟨o,_,_,_,e,ex,_⟩:=I.hok p _ hk
   refine⟨⟨o,e,ex.1⟩,λa e2=>?_⟩;cases e2;exact⟨o,e,ex.2.1⟩
 |_=>exact False.elim ty
def tBM (K:W.Frag) (T:String) (r:V->List V->Hp->VK->Prop) (to:TE) (t:TA):TE:=λσ H Q=>to σ H λx H1=>tyV K T x H1/\t σ H1 λxs H2=>r x xs H2 Q
variable {o e:Expr}{es:List Expr}{to:TE}{t:TA}{name:Str}{apos cpos:Pos}{T id:String}{r:V->List V->Hp->VK->Prop}
theorem Zp3 (pa:PlainAttrs T) (slot:Slot T name id) (hty:typeOf (.builtin id)=pure (.type "method_descriptor")) (hm:MtR X id r) (ho:PE X o to) (ha:PA X (e::es) t)
  (hbase:attributeBase o name X.env (eval o X.env)=eval o X.env:=by rfl)
  (hfew:((backTo cpos (starEach (e::es) X.env)).all (λx=>!x.1) && (backToKw cpos (keywordEach [] X.env)).all (λx=>x.1.isSome)
   && decide ((e::es).length+([]:List Keyword).length+(if ([]:List Keyword).isEmpty then 0 else 1)<30))=true:=by rfl)
  (hline:(apos.endLine == cpos.line)=true:=by rfl) (hs:starEach (e::es) X.env=(false,eval e X.env)::starEach es X.env:=by rfl) (hplain:(backTo cpos (starEach es X.env)).any (·.1)=false:=by rfl) :
  PE X (.Call (.Attribute o name apos) (e::es) [] cpos) (tBM X.K T r to t):=by
 intro pins s σ H Q I h;refine wpAny_Call_method_late hbase hfew hline rfl (thn (ho pins s σ H _ I h) λv s1 ⟨x,H1,I1,r1,ty,q1⟩=>?_);obtain⟨h1,h2⟩:=Zo4 I1 r1 ty;refine⟨T,id,pa,slot,hty,h1,h2,?_⟩;have hA:=ha cpos pins s1 σ H1 _ I1 q1;rw[hs]at hA ⊢;refine Calls.callWith_builtin (by show (false || (backTo cpos (starEach es X.env)).any (·.1))=false;rw[hplain] <;> rfl) (Calls.evalArgs_plain ?_)
 exact thn hA λus s2 ⟨vs,H2,I2,r2,q2⟩=>hm pins s2 σ H2 x vs v us Q I2 r1 r2 q2
end
end L2
namespace L2
open PySem PySem.Spec PyProof.Rows
def MtM (X:Cx) (id:String) (r:V->List V->Hp->VK->Prop):Prop:=
 ∀(pins:List (Addr × Obj)) (s:Shared) (σ:St) (H:Hp) (x:V) (xs:List V) (v:Value) (us:List Value) (Q:VK),Inv X pins σ H s->RelV x v->Vals xs us->r x xs H Q →
  wpAny (model X.prog X.w) X.A (call (.builtin id) (v::us)) (EP X pins σ Q) X.xe s
theorem Vals.one:∀{x:V}{us:List Value},Vals [x] us->∃u,us=[u]/\RelV x u:=by
 intro x us h;cases h with|cons r t=>cases t;exact⟨_,rfl,r⟩
theorem Vals.eraseIdx:∀{xs:List V}{us:List Value}(i:Nat),Vals xs us->Vals (xs.eraseIdx i) (us.eraseIdx i)
 |_,_,_,.nil=>.nil
 |_,_,0,.cons _ t=>t
 |_,_,i+1,.cons r t=>.cons r (Vals.eraseIdx i t)
theorem Vals.reverse {xs:List V}{us:List Value}(h:Vals xs us):Vals xs.reverse us.reverse:=by
 induction h with
 |nil=>exact .nil
 |cons r t ih=>rw[Wcc,Wcc];exact Vals.append ih (.cons r .nil)
theorem Ze8 {α:Type}:∀(l:List α) (i:Nat),(l.eraseIdx i).length<=l.length
 |[],_=>Wac _
 |_::_,0=>Nat.le_succ _
 |_::r,i+1=>Nat.succ_le_succ (Ze8 r i)
section
variable {X:Cx}{pins:List (Addr × Obj)}{σ:St}{H:Hp}{s:Shared}{l b:Addr}{xs ys zs:List V}
theorem Inv.lset {its its':List Value}{n:Nat}{f:Array Value->Array Value}{t':Nat}(I:Inv X pins σ H s) (hH:H l=some (.lst xs))
  (e:s.heap.get? l=some { cls:=.type "list",data:=.seq its.toArray n }) (hf:f its.toArray=its'.toArray) (hv:Vals ys its') (hz:ys.length<=sizeLine) :
  Inv X pins σ (upd H l (.lst ys)) { s with heap:=s.heap.update l (Obj.mapSeq f),toks:=t' }:=by
 have q:=PySem.IsL.update e f;rw[hf]at q;refine I.write (x:=l) (e:=l) (by rw[hH];exact trivial) (.inl rfl) (λb' u hb hu=>(Wav s.heap (Obj.mapSeq f) (Ne.symm hb)).trans hu) ⟨_,q⟩ ?_;exact⟨hz,its',_,hv,q⟩
theorem Inv.lnew {its:List Value}{t':Nat}(I:Inv X pins σ H s) (hv:Vals ys its) (hz:ys.length<=sizeLine) :
  Inv X pins σ (upd H s.heap.objs.size (.lst ys)) { s with heap:=s.heap.push { cls:=.type "list",data:=.seq its.toArray },toks:=t' }:=
 I.laid (λ_ _ q=>Waa _ q) (Wac _) ⟨hz,its,0,hv,Wae _ rfl⟩
theorem Inv.fresh (I:Inv X pins σ H s):H s.heap.objs.size=none:=I.hok.fresh (Wac _)
theorem Inv.lstM (I:Inv X pins σ H s) (hH:H l=some (.lst xs)):xs.length<=sizeLine/\∃(its:List Value) (n:Nat),Vals xs its/\xs.length=its.length/\s.heap.get? l=some { cls:=.type "list",data:=.seq its.toArray n }:=by
 obtain⟨z,its,n,r,e⟩:=I.hok l _ hH;exact⟨z,its,n,r,r.length,e⟩
end
section
variable {X:Cx}
def rAppend:V->List V->Hp->VK->Prop:=λx vs H Q=>∃l xs y,x=.ref l/\vs=[y]/\H l=some (.lst xs)/\xs.length<sizeLine/\Q .non (upd H l (.lst (xs++[y])))
theorem Zcg:MtM X "list.append" rAppend:=by
 intro pins s σ H x vs v us Q I rx rv h;obtain⟨l,xs,y,rfl,rfl,hH,hz,q⟩:=h;cases rx;obtain⟨u,rfl,ru⟩:=rv.one;obtain⟨z,its,n,r,hl,e⟩:=I.lstM hH;refine call_meets F.slot_list_append ⟨_,e,rfl⟩ F.entry_list_append (F.args_list_append_2 _ _) (PySem.list_append l its.toArray n u (by rw[Wad];omega)) ⟨e,?_⟩;refine⟨.non,_,I.lset (its':=its++[u]) hH e (by simp) (r.append (.cons ru .nil)) ?_,rfl,q⟩;rw[Wan,Wck];omega
def rPopAt:V->List V->Hp->VK->Prop:=λx vs H Q=>∃l xs i k y,x=.ref l/\vs=[.int i]/\H l=some (.lst xs) /\ -(2 ^ 63)<=i/\i<2 ^ 63/\seqIndex? i xs.length=some k/\xs[k]?=some y/\Q y (upd H l (.lst (xs.eraseIdx k)))
theorem Zgv:MtM X "list.pop" rPopAt:=by
 intro pins s σ H x vs v us Q I rx rv h;obtain⟨l,xs,i,k,y,rfl,rfl,hH,h1,h2,hk,hy,q⟩:=h;cases rx;obtain⟨u,rfl,ru⟩:=rv.one;obtain⟨t,rfl⟩:=ru;obtain⟨z,its,n,r,hl,e⟩:=I.lstM hH;obtain⟨w,hw,rw'⟩:=r.get hy;refine call_meets F.slot_list_pop ⟨_,e,rfl⟩ F.entry_list_pop (F.args_list_pop_2 _ _)
  (MeetsSeq.list_pop_at l its.toArray n i t k w (fitsIndex_both h1 h2) (by rw[Wad,<- hl];exact hk) (by rw[<- Array.getElem?_toList];exact hw) (by rw[Wad];omega)) ⟨e,?_⟩
 refine⟨y,_,I.lset (its':=its.eraseIdx k) hH e ?_ (r.eraseIdx k) ?_,rw',q⟩
 ·show its.toArray.eraseIdxIfInBounds k=(its.eraseIdx k).toArray
  rw[List.eraseIdxIfInBounds_toArray]
 ·have:=Ze8 xs k
  omega
def rCat:R2:=λx y H Q=>∃l b xs zs,x=.ref l/\y=.ref b/\H l=some (.lst xs)/\H b=some (.lst zs)/\xs.length+zs.length<=sizeLine/\∀p,H p=none->Q (.ref p) (upd H p (.lst (xs++zs)))
theorem Znp:OpR X (binaryOp .Add) rCat:=by
 intro pins s σ H x y v u Q I rx ry h;obtain⟨l,b,xs,zs,rfl,rfl,hH,hB,hz,q⟩:=h;cases rx;cases ry;obtain⟨z,its,n,r,hl,e⟩:=I.lstM hH;obtain⟨z2,its2,n2,r2,hl2,e2⟩:=I.lstM hB;refine PySem.P.add_list e e2 ?_ (by rw[Wad,Wad];omega);have ea:its.toArray++its2.toArray=(its++its2).toArray:=by simp
 rw[ea];exact⟨.ref _,_,I.lnew (t':=s.toks) (r.append r2) (by rw[Wan];omega),rfl,q _ I.fresh⟩
end
end L2
namespace Att
open PySem PySem.W PySem.Calls PyProof.Rows
theorem Zdg {P:Params}{h:Heap}:∀(ns:List Int) (vs:List Value),WellAll P h vs (ns.map WData.int)->IntsAre vs ns:=by
 intro ns
 induction ns with
 |nil=>
  intro vs w;rw[Wcx]at w;cases w;exact .nil
 |cons n ns ih=>
  intro vs w;rw[Wa8]at w;cases w with
  |cons a b=>
   cases a;exact .cons _ _ (ih _ b)
theorem Zh6 {l:OpenLaw}{n:Nat}(hn:l.most=some n) {P:Params}{h:Heap}{args:List WData}{vals:List Value}
  (hpre:l.row.toRowW.claim.pre args=true) (hwl:WellAll P h vals args) :
  ∃a vs ns,vals=[Value.ref a]/\args=[WData.list (ns.map WData.int)]/\h.get? a=some { cls:=.type "list",data:=.seq vs.toArray } /\ IntsAre vs ns/\ns.length<=n:=by
 have hsh:WShape.hasAll [] args [.list .int]=true:=(pre_splitW hpre).1;have hc:l.pre.holds [] { args:=args } = true:=(pre_splitW hpre).2;obtain⟨d,r,rfl,h1,h2⟩:=hasAllW_cons hsh;obtain rfl:=hasAllW_nil h2;obtain⟨xs,rfl,h3⟩:=hasW_list h1;obtain⟨ns,rfl⟩:=items_int h3;have hlen:ns.length<=n:=by
  unfold OpenLaw.pre at hc;have h4:(WTm.not (.lt (.lit (.int (n:Int))) (.len (.arg 0)))).holds [] { args:=[.list (ns.map .int)] } = true:=by
   have h4:=(holds_andW hc).1;rw[hn]at h4;exact h4
  have h5:=condW_of h4 (w_not (w_lt w_lit (w_len_list (w_arg rfl))));rw[Wag]at h5;refine Nat.le_of_not_lt λq=>?_;have q':(n:Int)<((ns.length:Nat):Int):=by omega
  first
   | (rw[decide_eq_true q']at h5;exact absurd h5 (by decide))
   | (simp at h5;omega)
 cases hwl with
 |cons w1 w2=>
  cases w2;cases w1 with
  |list ho hall=>exact⟨_,_,ns,rfl,rfl,ho,Zdg ns _ hall,hlen⟩
theorem Zic (l:OpenLaw) (args:List WData):l.row.toRowW.claim.post args (.bool true) args=true:=
 postW_of (r:=l.row.toRowW) (X:=(true == true))
  (show WShape.has [] (.bool true) .bool=true by first|rfl|decide|simp[WShape.has,WShape.arms,WShape.armsAll])
  (show (WTm.eq .res (.lit (.bool true))).value [] { args:=args,res:=some (.bool true),after:=args } = some (.bool (true == true)) from w_eq_bool (w_res rfl) w_lit) rfl
theorem attach_call {l:OpenLaw}{n:Nat}{q:Program}{loose:List Str}{XP:(Str->Option Value)->Heap->Prop}{YP:World->Heap->Prop}{d:DefRec}
  (hn:l.most=some n) (hdf:d.params.defaults=[])
  (call:∀(w:World) (s₀ s₁:Shared) (mg mb:Str->Option Value) (fa:Addr) (o:Obj) (pm cd doc:Value) (a:Addr) (vs:List Value) (ns:List Int),
   Ground q loose [] XP w s₀ mg mb s₁.heap->YP w s₁.heap →
   s₁.heap.get? fa=some o->o.data=.func (docDef d.name d.params d.body d.scope pm cd doc)->s₁.heap.CodeRec cd d.name->mg d.name=some (.ref fa) →
   s₁.heap.get? a=some { cls:=.type "list",data:=.seq vs.toArray } -> IntsAre vs ns->ns.length<=n->s₁.gens = #[] →
   codeAny (model l.prog w) callerA (.call (.ref fa) ⟨[.ref a],[]⟩) (λr s'=>r=.ok (.ret (.bool true))/\OldK s₁.heap s'.heap/\s'.os=s₁.os/\AllBare s'.gens) s₁) :
  WalkO q loose XP YP l.row.toRowW d [] (λf vs=>PySem.call f vs):=by
 intro w s₀ s₁ mg mb G Y fa o pm cd doc dV kV ho hd hcd hD hmg hg args vals as hpre hlay hrd hwl hlo;obtain rfl:dV=.none:=Dflts.none hD hdf;obtain rfl:kV=.none:=Dflts.noKw hD;obtain⟨a,vs,ns,rfl,rfl,hobj,hints,hlen⟩:=Zh6 hn hpre hwl;refine enter_call (codeAny_mono (call w s₀ s₁ mg mb fa o pm cd doc a vs ns G Y ho (fd_plain hd) hcd hmg hobj hints hlen hg) λr s' hq=>?_);obtain⟨rfl,h2,h3,h4⟩:=hq;exact⟨.inl ⟨.bool true,.bool true,[],rfl,λ_=>rfl,.bool true,Zic l _,λ_=>⟨List.Pairwise.nil,λ_ hm=>(nomatch hm)⟩⟩,h2,h3,h4⟩
section
variable {prog:Program}{w:World}{A:Around}{E:Value->Shared->Prop}{s:Shared}{K:Frag}
def noObjs (h:Heap):Heap:={ h with objs:=#[] }
end
end Att
namespace L2
open PySem PySem.Spec PyProof.Rows
theorem Ze9:∀{vs:List Value}{ns:List Int},IntsAre vs ns->Vals (ns.map V.int) vs
 |_,_,.nil=>.nil
 |_,_,.cons n t h=>.cons ⟨t,rfl⟩ (Ze9 h)
end L2
namespace L2
open PySem PySem.Spec PyProof.Rows
end L2
namespace L2
open PySem PySem.Spec PyProof.Rows
def defArgs (s:Stmt):Arguments:=match s with
 |.FunctionDef _ a _ _ _ _ _ _ _ _=>a
 |_=>{ posonlyargs:=[],args:=[],vararg:=none,kwonlyargs:=[],kw_defaults:=[],kwarg:=none,defaults:=[] }
def defBody (s:Stmt):List Stmt:=match s with
 |.FunctionDef _ _ b _ _ _ _ _ _ _=>b
 |_=>[]
def defScope (s:Stmt):Scope:=match s with
 |.FunctionDef _ _ _ _ _ _ sc _ _ _=>sc
 |_=>{ kind:=.function,names:=[],isGenerator:=false,isCoroutine:=false }
abbrev CX0:CXT:=λ_ _ _ _ _ _=>False
abbrev E0:XK:=λ_ _ _=>False
theorem pass0 {X:Cx}:Passes CX0 X E0:=λ_ _ _ _ _ _ _ h=>h.elim
structure Fun (K:W.Frag) (x qual:Str) (st:Stmt) (f:Addr) (fd:FuncData):Prop where
 ex:∃(oc:Value) (od:Option Addr) (kV doc pm:Value) (an:Option Addr) (cdv ct:Value) (osl:Array (Option Value)),
  fd=W.fnOf x qual (defArgs st) (defBody st) (defScope st) .none kV doc pm an cdv ct/\K.lookup f=some ⟨oc,od,.func fd,osl⟩ /\ W.codeIn K cdv qual=true
 kp:W.keepIn K (.ref f)=true
section
variable {P:Program}{w:World}{K:W.Frag}{mg:Str->Option Value}{base:Heap}
theorem Fun.ok {x qual:Str}{st:Stmt}{f:Addr}{fd:FuncData}{N ps:List Str}{k:Nat}{sp:Sp}(F:Fun K x qual st f fd) (S:FnScope N ps (defScope st)) (len:∀vs H Q E,sp vs H Q E->vs.length=ps.length)
  (hbody:∀(cdv:Value) (A:Around) (outer:List Env) (s:Shared) (H:Hp) (vs:List V) (Q:VK) (E:XK),Room k (A.deeper (envOfC qual (defScope st) s.heap.objs.size f cdv))->sp vs H Q E →
   ∃t,PSs (cxOf CX0 P w K mg base N qual (defScope st) f cdv A outer s H E).nox (defBody st) t/\t { nx:=λ_ H'=>Q .non H',rt:=Q } (start N vs) H):FnOk P w K mg base CX0 (k+1) f fd ps sp:=by
 obtain⟨oc,od,kV,doc,pm,an,cdv,ct,osl,rfl,lk,hcd⟩:=F.ex;refine Zlm lk hcd S len λA outer s H vs Q E hr hsp=>?_;obtain⟨t,h,q⟩:=hbody cdv A outer s H vs Q E hr hsp;exact⟨t,h.nox,q⟩
theorem Fun.binds {x qual:Str}{st:Stmt}{f:Addr}{fd:FuncData}{ps:List Str}(F:Fun K x qual st f fd)
  (h:∀(kV doc pm:Value) (an:Option Addr) (cdv ct:Value) (us:List Value),us.length=ps.length->bindArgs (W.fnOf x qual (defArgs st) (defBody st) (defScope st) .none kV doc pm an cdv ct) ⟨us,[]⟩=pure (ps.zip us)):Binds K fd ps []:=by
 obtain⟨oc,od,kV,doc,pm,an,cdv,ct,osl,rfl,lk,hcd⟩:=F.ex;exact .all (h kV doc pm an cdv ct)
theorem Zno {x qual:Str}{st:Stmt}{f:Addr}{oc:Value}{od an:Option Addr}{osl:Array (Option Value)}{kV doc pm cdv ct:Value}(l:K.lookup f=some ⟨oc,od,.func (W.fnOf x qual (defArgs st) (defBody st) (defScope st) .none kV doc pm an cdv ct),osl⟩)
  (c:W.codeIn K cdv qual=true) (k:W.keepIn K (.ref f)=true):Fun K x qual st f (W.fnOf x qual (defArgs st) (defBody st) (defScope st) .none kV doc pm an cdv ct):=⟨⟨oc,od,kV,doc,pm,an,cdv,ct,osl,rfl,l,c⟩,k⟩
end
theorem Zb7 {A:Around}{k:Nat}(hr:Room k A):A.units+1<cLine:=Wbd (Wcp (by decide:1<=64) _) hr.units
theorem small1000 {n:Nat}(h:n<=1000):n<sizeLine:=Wbd h (by decide)
section
variable {X:Cx}
theorem pv (i:Nat) {x:Str}{pos:Pos}(hN:X.N[i]?=some x:=by rfl) (hv:Vis X.env.scope x:=by first|exact Or.inl rfl|exact Or.inr (Or.inl rfl)|exact Or.inr (Or.inr rfl)) (hd:(x == ("__debug__":Str))=false:=by decide)
  (hcd:(x == ("__classdict__":Str))=false:=by decide):PE X (.Name x pos) (tVar i):=Zkx hN hv hd hcd
end
theorem iteF {A B:Prop}(h:B):if false=true then A else B:=by
 rw[if_neg Wak];exact h
theorem iteT {A B:Prop}(h:A):if true=true then A else B:=by
 rw[if_pos rfl];exact h
theorem ite2 {c A B:Prop}[Decidable c] (h1:c->A) (h2:¬ c->B):if c then A else B:=by
 by_cases h:c
 ·rw[if_pos h]
  exact h1 h
 ·rw[if_neg h]
  exact h2 h
def Same (H H':Hp):Prop:=∀b o,H b=some o->H' b=some o
theorem Same.refl (H:Hp):Same H H:=λ_ _ h=>h
theorem Same.trans {H H1 H2:Hp}(a:Same H H1) (b:Same H1 H2):Same H H2:=λc o h=>b c o (a c o h)
theorem Same.seq {K:W.Frag}{H H':Hp}{a:Addr}{xs:List V}(e:Same H H') (h:SqL K H a xs):SqL K H' a xs:=by
 rcases h with (h|⟨o,h⟩)|h
 ·exact .inl (.inl (e _ _ h))
 ·exact .inl (.inr ⟨o,e _ _ h⟩)
 ·exact .inr h
end L2
namespace L2
open PySem PySem.Spec PyProof.Rows
section
variable {κ:Type}[DecidableEq κ]
def valV (kvs:List (κ × V)) (k:κ):Option V:=(kvs.find? λkv=>decide (kv.1=k)).map (·.2)
def putK (kvs:List (κ × V)) (k:κ) (v:V):List (κ × V):=
 if (kvs.any λkv=>decide (kv.1=k))=true then kvs.map (λkv=>if kv.1=k then (kv.1,v) else kv) else kvs++[(k,v)]
theorem Zel {p:κ × V}{r:List (κ × V)}{k:κ}(e:p.1=k):valV (p::r) k=some p.2:=by simp[valV,Wbz,e]
theorem Zez {p:κ × V}{r:List (κ × V)}{k:κ}(e:¬ p.1=k):valV (p::r) k=valV r k:=by simp[valV,Wbz,e]
theorem Zgo (k:κ):∀kvs:List (κ × V),(kvs.any λkv=>decide (kv.1=k))=(valV kvs k).isSome
 |[]=>rfl
 |p::r=>by
  rw[List.any_cons];by_cases e:p.1=k
  ·simp only[Zel e,decide_eq_true e,Bool.true_or,Option.isSome_some]
  ·rw[Zez e,decide_eq_false e,Bool.false_or];exact Zgo k r
theorem Zb9 (kvs:List (κ × V)) (k:κ) (v:V):(putK kvs k v).length<=kvs.length+1:=by
 unfold putK;split
 ·rw[Wag];omega
 ·rw[Wan,Way,List.length_nil];omega
theorem RelO.isSome_eq {o:Option V}{u:Option Value}(r:RelO o u):o.isSome=u.isSome:=by
 cases o with
 |none=>cases u with
  |none=>rfl
  |some _=>exact(show False from r).elim
 |some _=>cases u with
  |none=>exact(show False from r).elim
  |some _=>rfl
theorem KV.val {kvs:List (κ × V)}{vs:List (κ × Value)}(r:KV kvs vs) (k:κ):RelO (valV kvs k) (valueAt vs k):=by
 unfold KV at r
 induction r with
 |nil=>exact True.intro
 |@cons p q ps qs h t ih=>
  obtain⟨h1,h2⟩:=h;by_cases e:p.1=k
  ·have e':q.1=k:=h1.symm.trans e
   have b:valueAt (q::qs) k=some q.2:=by simp[valueAt,Wbz,e']
   rw[Zel e,b];exact h2
  ·have e':¬ q.1=k:=λz=>e (h1.trans z)
   have b:valueAt (q::qs) k=valueAt qs k:=by simp[valueAt,Wbz,e']
   rw[Zez e,b];exact ih
theorem KV.any {kvs:List (κ × V)}{vs:List (κ × Value)}(r:KV kvs vs) (k:κ):(kvs.any λkv=>decide (kv.1=k))=vs.any λkv=>decide (kv.1=k):=by
 unfold KV at r
 induction r with
 |nil=>rfl
 |cons h t ih=>rw[List.any_cons,List.any_cons,ih,h.1]
theorem KV.repl {kvs:List (κ × V)}{vs:List (κ × Value)}(r:KV kvs vs) (k:κ) {y:V}{u:Value}(ry:RelV y u) :
  KV (kvs.map λkv=>if kv.1=k then (kv.1,y) else kv) (vs.map λkv=>if kv.1=k then (kv.1,u) else kv):=by
 unfold KV at r ⊢
 induction r with
 |nil=>exact .nil
 |@cons p q ps qs h t ih=>
  rw[Wa8,Wa8];refine .cons ?_ ih;obtain⟨h1,h2⟩:=h;by_cases e:p.1=k
  ·rw[if_pos e,if_pos (h1.symm.trans e)];exact⟨h1,ry⟩
  ·rw[if_neg e,if_neg (λz=>e (h1.trans z))];exact⟨h1,h2⟩
theorem KV.put {kvs:List (κ × V)}{vs:List (κ × Value)}(r:KV kvs vs) (k:κ) {y:V}{u:Value}(ry:RelV y u):KV (putK kvs k y) (stored vs k u):=by
 unfold putK stored;rw[r.any k];by_cases e:(vs.any λkv=>decide (kv.1=k))=true
 ·rw[if_pos e,if_pos e];exact r.repl k ry
 ·rw[if_neg e,if_neg e];exact Paired.snoc r ⟨rfl,ry⟩
theorem KV.length {kvs:List (κ × V)}{vs:List (κ × Value)}(r:KV kvs vs):kvs.length=vs.length:=Paired.length r
end
theorem Zkw {P:Program}{w:World}{k:Key}{u:Value}(r:RelV (kV k) u):(mixKind P w).is k u=true:=by
 cases k with
 |inl i=>obtain⟨t,e⟩:=(show ∃t,u=Value.int i t from r);subst e;exact Zf5 P w i t
 |inr x=>obtain⟨t,e⟩:=(show ∃t,u=Value.str x t from r);subst e;exact Zgb P w x t
theorem Zft {P:Program}{w:World}:∀{ks:List Key}{us:List Value},Vals (ks.map kV) us->ItemsAre (mixKind P w) ks us
 |[],_,r=>by rw[Wcx]at r;cases r;exact .nil
 |k::ks,_,r=>by
  rw[Wa8]at r;cases r with
  |cons h t=>exact .cons (Zkw h) (Zft t)
abbrev KT (H:Hp):List (List Key × V)->List (List Key × Addr × Value)->Prop:=Paired λp q=>p.1=q.1/\H q.2.1=some (.tup (p.1.map kV))/\RelV p.2 q.2.2
theorem KT.val {H:Hp}{kvs:List (List Key × V)}{xs:List (List Key × Addr × Value)}(r:KT H kvs xs) (k:List Key):RelO (valV kvs k) ((atKey xs k).map (·.2)):=by
 induction r with
 |nil=>exact True.intro
 |@cons p q ps qs h t ih=>
  obtain⟨h1,_,h2⟩:=h;by_cases e:p.1=k
  ·have e':q.1=k:=h1.symm.trans e
   have b:atKey (q::qs) k=some q.2:=by simp[atKey,Wbz,e']
   rw[Zel e,b];exact h2
  ·have e':¬ q.1=k:=λz=>e (h1.trans z)
   have b:atKey (q::qs) k=atKey qs k:=by simp[atKey,Wbz,e']
   rw[Zez e,b];exact ih
theorem KT.repl {H:Hp}{kvs:List (List Key × V)}{xs:List (List Key × Addr × Value)}(r:KT H kvs xs) (k:List Key) {y:V}{u:Value}(ry:RelV y u) :
  KT H (kvs.map λkv=>if kv.1=k then (kv.1,y) else kv) (xs.map (putAt k u)):=by
 induction r with
 |nil=>exact .nil
 |@cons p q ps qs h t ih=>
  rw[Wa8,Wa8];refine .cons ?_ ih;obtain⟨h1,h2,h3⟩:=h;unfold putAt;by_cases e:p.1=k
  ·rw[if_pos e,if_pos (h1.symm.trans e)];exact⟨h1,h2,ry⟩
  ·rw[if_neg e,if_neg (λz=>e (h1.trans z))];exact⟨h1,h2,h3⟩
theorem KT.put {H:Hp}{kvs:List (List Key × V)}{xs:List (List Key × Addr × Value)}(r:KT H kvs xs) (k:List Key) {b:Addr}{y:V}{u:Value}(hb:H b=some (.tup (k.map kV))) (ry:RelV y u) :
  KT H (putK kvs k y) (storedH xs k b u):=by
 have e:(kvs.any λkv=>decide (kv.1=k))=(atKey xs k).isSome:=by
  rw[Zgo,(r.val k).isSome_eq,Option.isSome_map]
 unfold putK storedH;rw[e];by_cases q:(atKey xs k).isSome=true
 ·rw[if_pos q,if_pos q];exact r.repl k ry
 ·rw[if_neg q,if_neg q];exact Paired.snoc r ⟨rfl,hb,ry⟩
theorem KT.keeps {H H':Hp}{kvs:List (List Key × V)}{xs:List (List Key × Addr × Value)}(r:KT H kvs xs) (ht:∀b ys,H b=some (.tup ys)->H' b=some (.tup ys)):KT H' kvs xs:=
 Paired.mapP r λ_ _ z=>⟨z.1,ht _ _ z.2.1,z.2.2⟩
section
variable {P:Program}{w:World}{H:Hp}{h:Heap}{a:Addr}
theorem Zo0 {u:HO}(ok:HOk P w H h) (e:Rd H a u):ObjOk P w H h a u:=e.ok ok
theorem Zjv {kvs:List (Key × V)}(ok:HOk P w H h) (e:Rd H a (.dK kvs)):kvs.length<=sizeLine/\(a == sysModules)=false/\∃vs,KV kvs vs/\h.DictOf (mixKind P w) a vs:=
 show ObjOk P w H h a (.dK kvs) from Zo0 ok e
theorem Zpp {kvs:List (Key × V)}(ok:HOk P w H h) (e:H a=some (.dK kvs)):kvs.length<=sizeLine/\(a == sysModules)=false/\∃vs,KV kvs vs/\h.DictOf (mixKind P w) a vs:=Zjv ok (.inl e)
theorem Zhn {ks:List Key}(ok:HOk P w H h) (e:H a=some (.tup (ks.map kV))):(tupleKind (mixKind P w)).is h ks a:=by
 obtain⟨_,its,r,o,h1,⟨h2,n,h3⟩,_⟩:=(show ObjOk P w H h a (.tup (ks.map kV)) from ok a _ e);exact⟨o,its.toArray,n,h1,h2,h3,by simpa using Zft r⟩
theorem Zmy {kvs:List (List Key × V)}(ok:HOk P w H h) (e:Rd H a (.dT kvs)):kvs.length<=sizeLine/\(a == sysModules)=false ∧
  ∃xs,KT H kvs xs/\h.DictOfH (tupleKind (mixKind P w)) a xs:=by
 obtain⟨z,y,xs,r,o,es,ep,h1,h2,h3,h4,h5⟩:=(show ObjOk P w H h a (.dT kvs) from Zo0 ok e);refine⟨z,y,xs,r,o,es,ep,h1,h2,h3,h4,λx hx=>?_,h5⟩;have all:∀{l:List (List Key × V)}{m:List (List Key × Addr × Value)},KT H l m->∀x∈m,(tupleKind (mixKind P w)).is h x.1 x.2.1:=by
  intro l m q
  induction q with
  |nil=>intro x hx;exact nomatch hx
  |@cons p q ps qs hq t ih=>
   intro x hx;rcases Wat.mp hx with e|hx
   ·subst e
    exact Zhn ok (by rw[<- hq.1];exact hq.2.1)
   ·exact ih x hx
 exact all r x hx
theorem Zqc {kvs:List (List Key × V)}(ok:HOk P w H h) (e:H a=some (.dT kvs)):kvs.length<=sizeLine/\(a == sysModules)=false ∧
  ∃xs,KT H kvs xs/\h.DictOfH (tupleKind (mixKind P w)) a xs:=Zmy ok (.inl e)
end
def DGet (H:Hp) (a:Addr) (y:V) (r:Option V):Prop:=
 (∃kvs k,Rd H a (.dK kvs)/\y=kV k/\r=valV kvs k)\/∃kvs k b,Rd H a (.dT kvs)/\y=.ref b/\H b=some (.tup (k.map kV))/\r=valV kvs k
def DPut (H:Hp) (a:Addr) (y v:V) (H':Hp):Prop:=
 (∃kvs k,H a=some (.dK kvs)/\y=kV k/\kvs.length<sizeLine/\H'=upd H a (.dK (putK kvs k v))) ∨
 ∃kvs k b,H a=some (.dT kvs)/\y=.ref b/\H b=some (.tup (k.map kV))/\kvs.length<sizeLine/\H'=upd H a (.dT (putK kvs k v))
section
variable {X:Cx}{pins:List (Addr × Obj)}{σ:St}{H:Hp}{s:Shared}{a:Addr}{y v:V}{u r:Value}{o:Option V}{A:Around}{E:Value->Shared->Prop}
theorem Inv.big (I:Inv X pins σ H s):sysModules<s.heap.objs.size:=by
 have h:mainGlobals<s.heap.objs.size:=(I.mod.glob.keeps I.bk).lt;exact Wcz (by decide) h
theorem Zjb {Q:Value->Shared->Prop}(hu:A.units+1<cLine) (I:Inv X pins σ H s) (g:DGet H a y (some v)) (ry:RelV y u) (h:∀w' s',Inv X pins σ H s' -> RelV v w' -> Q w' s') :
  wpAny (model X.prog X.w) A (getItem (.ref a) u) Q E s:=by
 rcases g with ⟨kvs,k,e,ey,l⟩|⟨kvs,k,b,e,ey,eb,l⟩
 ·subst ey
  obtain⟨z,hd,vs,rel,dd⟩:=Zjv I.hok e;obtain⟨w',hw,rw'⟩:=RelO.some_of (v:=v) (o:=valueAt vs k) (by rw[l];exact rel.val k);exact wpAny_getItem_of (Zkw ry) dd.mapOf hw (h w' _ (I.tok _) rw')
 ·subst ey
  cases (show u=Value.ref b from ry);obtain⟨z,hd,xs,rel,dd⟩:=Zmy I.hok e;obtain⟨w',hw,rw'⟩:=RelO.some_of (v:=v) (o:=(atKey xs k).map (·.2)) (by rw[l];exact rel.val k);obtain⟨p,hp,hp2⟩:=Option.map_eq_some_iff.mp hw;refine wpAny_getItem_heap (tupleKind_room_in1 hu) (Zhn I.hok eb) dd hp ?_;rw[hp2];exact h w' _ (I.tok _) rw'
theorem Zgd {h':Heap}{t':Nat}{ob:HO}(I:Inv X pins σ H s) (mu:Mut (H a)) (hs:Heap.SameBut a s.heap h') (he:∃q,h'.get? a=some q) (new:ObjOk X.prog X.w (upd H a ob) h' a ob) :
  Inv X pins σ (upd H a ob) { s with heap:=h',toks:=t' }:=
 I.write (x:=a) (e:=a) mu (.inl rfl) (λb q hb z=>(hs.2 b hb).trans z) he new
theorem Zkz {P:Program}{w:World}{H':Hp}{h':Heap}{kvs:List (Key × V)}{vs:List (Key × Value)}(z:kvs.length<=sizeLine) (hd:(a == sysModules)=false) (rel:KV kvs vs) (dd:h'.DictOf (mixKind P w) a vs) :
  ObjOk P w H' h' a (.dK kvs):=⟨z,hd,vs,rel,dd⟩
theorem Zhw {H':Hp}{Q:Unit->Shared->Prop}(hu:A.units+1<cLine) (I:Inv X pins σ H s) (g:DPut H a y v H') (ry:RelV y u) (rv:RelV v r) (h:∀s',Inv X pins σ H' s' -> Q () s') :
  wpAny (model X.prog X.w) A (setItem (.ref a) u r) Q E s:=by
 rcases g with ⟨kvs,k,e,ey,l,eH⟩|⟨kvs,k,b,e,ey,eb,l,eH⟩
 ·subst ey eH
  obtain⟨z,hd,vs,rel,dd⟩:=Zpp I.hok e;have hz:vs.length<=sizeLine:=by rw[<- rel.length];exact z
  have hl:(putK kvs k v).length<=sizeLine:=by have:=Zb9 kvs k v;omega
  refine wpAny_setItem_pairs (hsz:=hz) (Zkw ry) dd λh' dd' hs=>h _ ?_;have he:∃q,h'.get? a=some q:=let ⟨q,_,_,hq,_⟩:=dd'; ⟨q,hq⟩
  exact Zgd I (by rw[e];exact True.intro) hs he (Zkz hl hd (rel.put k rv) dd')
 ·subst ey eH
  cases (show u=Value.ref b from ry);obtain⟨z,hd,xs,rel,dd⟩:=Zqc I.hok e;have hz:xs.length<=sizeLine:=by rw[<- Paired.length rel];exact z
  have hl:(putK kvs k v).length<=sizeLine:=by have:=Zb9 kvs k v;omega
  refine wpAny_setItem_heap (hsz:=hz) (tupleKind_room_in1 hu) (Zhn I.hok eb) dd λh' dd' hs=>h _ ?_;obtain⟨q,es,ep,hq,h2,h3,h4,_,h5⟩:=dd';refine Zgd I (by rw[e];exact True.intro) hs ⟨q,hq⟩ ⟨hl,hd,_,(rel.put k eb rv).keeps λc ys ec=>?_,q,es,ep,hq,h2,h3,h4,h5⟩;rw[Zag (Zp2 ec e (λz=>nomatch z))];exact ec
end
section
variable {X:Cx}{pins:List (Addr × Obj)}{σ:St}{H:Hp}{s:Shared}{a:Addr}{kvs:List (Key × V)}{k:Key}{u:Value}{A:Around}{E:Value->Shared->Prop}
theorem Zp4 {Q:Value->Shared->Prop}(I:Inv X pins σ H s) (e:Rd H a (.dK kvs)) (h:∀t s',Inv X pins σ H s' -> Q (.int kvs.length t) s'):wpAny (model X.prog X.w) A (call (.builtin "len") [.ref a]) Q E s:=by
 obtain⟨z,hd,vs,rel,dd⟩:=Zjv I.hok e;refine call_len_dict hd dd (by rw[<- rel.length];rw[sizeLine_eq]at z;omega) ?_;rw[<- rel.length];exact h _ _ (I.tok _)
end
theorem Zgf {X:Cx}{pins:List (Addr × Obj)}{σ:St}{H:Hp}{s:Shared}{a:Addr}{y:V}{o:Option V}(I:Inv X pins σ H s) (g:DGet H a y o):s.TypeIs (.ref a) "dict":=by
 rcases g with ⟨kvs,k,e,_,_⟩|⟨kvs,k,b,e,_,_,_⟩
 ·obtain⟨_,_,vs,_,dd⟩:=Zjv I.hok e
  exact dd.typeIs
 ·obtain⟨_,_,xs,_,dd⟩:=Zmy I.hok e
  exact dd.typeIs
theorem Zgt {P:Program}{w:World}{H:Hp}(h:Heap) (hb:sysModules<h.objs.size):ObjOk P w H (h.push { cls:=.type "dict",data:=.dict #[] }) h.objs.size (.dK []):=
 ⟨Wcg _,beq_eq_false_iff_ne.mpr (Ne.symm (Was hb)),[],.nil,Heap.DictOf.new h⟩
def tDNewK:TE:=λ_ H Q=>∀p,H p=none->Q (.ref p) (upd H p (.dK []))
section
variable {X:Cx}{pos:Pos}
theorem Zkf:PE X (.Dict [] [] pos) tDNewK:=λpins s σ H Q I h=>
 wpAny_Dict_empty ⟨.ref s.heap.objs.size,_,I.laid (a:=s.heap.objs.size) (o:=.dK []) (t':=s.toks) (λ_ _ q=>Waa _ q) (Wac _) (Zgt s.heap I.big),rfl,h _ (I.hok.fresh (Wac _))⟩
end
def tPairs:List (TE × TE)->St->Hp->(List (V × V)->Hp->Prop)->Prop
 |[],_,H,Q=>Q [] H
 | (tk,tv)::r,σ,H,Q=>tk σ H λx H1=>tv σ H1 λy H2=>tPairs r σ H2 λps H3=>Q ((x,y)::ps) H3
abbrev VV:List (V × V)->List (Value × Value)->Prop:=Paired λp q=>RelV p.1 q.1/\RelV p.2 q.2
def PPs (X:Cx) (pos:Pos) (keys:List (Option Expr)) (values:List Expr) (trs:List (TE × TE)):Prop:=
 ∀(pins:List (Addr × Obj)) (s:Shared) (σ:St) (H:Hp) (Q:List (V × V)->Hp->Prop),Inv X pins σ H s->tPairs trs σ H Q →
  wpAny (model X.prog X.w) X.A (evalPairs (pairTrees keys values X.env pos)) (λvs s'=>∃ps H',Inv X pins σ H' s' /\ VV ps vs/\Q ps H') X.xe s
theorem Zmv {X:Cx}{pos:Pos}:PPs X pos [] [] []:=λpins s σ H Q I h=>pairTrees_nil_walk ⟨[],H,I,.nil,h⟩
theorem Zjo {X:Cx}{pos:Pos}{k v:Expr}{ks:List (Option Expr)}{vs:List Expr}{tk tv:TE}{trs:List (TE × TE)}(hk:PE X k tk) (hv:PE X v tv) (hr:PPs X pos ks vs trs) :
  PPs X pos (some k::ks) (v::vs) ((tk,tv)::trs):=λpins s σ H Q I h=>
 pairTrees_cons_walk (thn (hk pins s σ H _ I h) λu s1 ⟨x,H1,I1,rx,q1⟩=>thn (hv pins s1 σ H1 _ I1 q1) λw2 s2 ⟨y,H2,I2,ry,q2⟩=>
  thn (hr pins s2 σ H2 _ I2 q2) λws s3 ⟨ps,H3,I3,rel,q3⟩=>⟨(x,y)::ps,H3,I3,.cons ⟨rx,ry⟩ rel,q3⟩)
def mergeK (kvs more:List (Key × V)):List (Key × V):=more.foldl (λacc kv=>putK acc kv.1 kv.2) kvs
theorem KV.merge:∀{more:List (Key × V)}{rs:List (Key × Value)}{kvs:List (Key × V)}{vs:List (Key × Value)},KV more rs->KV kvs vs->KV (mergeK kvs more) (merged vs rs):=by
 intro more rs kvs vs r;unfold KV at r
 induction r generalizing kvs vs with
 |nil=>intro q;exact q
 |@cons p q ps qs h t ih=>
  intro r0;have e:KV (putK kvs p.1 p.2) (stored vs q.1 q.2):=by
   have:=r0.put p.1 h.2;rw[<- h.1];exact this
  exact ih e
theorem Zcn:∀(more kvs:List (Key × V)),(mergeK kvs more).length<=kvs.length+more.length
 |[],kvs=>by show kvs.length<=kvs.length+0;omega
 |p::r,kvs=>by
  have h1:=Zcn r (putK kvs p.1 p.2);have h2:=Zb9 kvs p.1 p.2;show (mergeK (putK kvs p.1 p.2) r).length<=_;rw[Way];omega
theorem Zd5 {P:Program}{w:World}:∀{kvs:List (Key × V)}{ws:List (Value × Value)},VV (kvs.map λkv=>(kV kv.1,kv.2)) ws->∃rs,Carries (mixKind P w) ws rs/\KV kvs rs
 |[],_,r=>by rw[Wcx]at r;cases r;exact⟨[],True.intro,.nil⟩
 |p::kvs,_,r=>by
  rw[Wa8]at r;cases r with
  |@cons a b as bs h t=>
   obtain⟨rs,c,q⟩:=Zd5 (P:=P) (w:=w) t;obtain⟨b1,b2⟩:=b;exact⟨(p.1,b2)::rs,⟨Zkw h.1,rfl,c⟩,.cons ⟨rfl,h.2⟩ q⟩
def tDisp (trs:List (TE × TE)):TE:=λσ H Q=>∀p,H p=none->tPairs trs σ (upd H p (.dK [])) λps H2=>H2 p=some (.dK [])/\∃kvs:List (Key × V),ps=kvs.map (λkv=>(kV kv.1,kv.2))/\kvs.length<=15/\Q (.ref p) (upd H2 p (.dK (mergeK [] kvs)))
theorem Zlt {X:Cx}{pos:Pos}{keys:List (Option Expr)}{values:List Expr}{trs:List (TE × TE)}(h:PPs X pos keys values trs) (hall:keys.all (·.isSome)=true) (hl:keys.length=values.length) (h0:keys≠[])
  (h15:keys.length<=15):PE X (.Dict keys values pos) (tDisp trs):=by
 intro pins s σ H Q I q;have hn:=I.hok.fresh (Wac s.heap.objs.size);have I1:=I.laid (a:=s.heap.objs.size) (o:=.dK []) (h':=s.heap.push { cls:=.type "dict",data:=.dict #[] }) (t':=s.toks) (λ_ _ q=>Waa _ q) (Wac _) (Zgt s.heap I.big);refine wpAny_Dict_walk (knd:=mixKind X.prog X.w) hall hl h0 h15 (thn (h pins _ σ _ _ I1 (q _ hn)) λws s2 ⟨ps,H2,I2,rel,e,kvs,ep,lk,q2⟩=>?_);subst ep;obtain⟨rs,c,rk⟩:=Zd5 (P:=X.prog) (w:=X.w) rel;obtain⟨z,hd,vs0,r0,dd⟩:=Zpp I2.hok e;cases r0;refine⟨rs,c,dd,λh' dd' hs=>⟨.ref s.heap.objs.size,_,?_,rfl,q2⟩⟩;have hz:(mergeK [] kvs).length<=sizeLine:=by
  have h1:=Zcn kvs [];rw[List.length_nil]at h1;rw[sizeLine_eq];omega
 have he:∃q,h'.get? s.heap.objs.size=some q:=let ⟨q,_,_,hq,_⟩:=dd'; ⟨q,hq⟩
 exact Zgd I2 (by rw[e];exact True.intro) hs he (Zkz hz hd (rk.merge .nil) dd')
section
variable {X:Cx}{o e f:Expr}{apos cpos:Pos}{td ty tx:TE}
end
section
variable {X:Cx}{pins:List (Addr × Obj)}{σ:St}{H:Hp}{s:Shared}{a:Addr}{y:V}{u:Value}{A:Around}{E:Value->Shared->Prop}
end
end L2
namespace L2
open PySem PySem.Spec PyProof.Rows
section
variable {X:Cx}
theorem Zh4:CallR X (.builtin "len") (λxs H Q=>∃a kvs,xs=[V.ref a]/\H a=some (.dK kvs)/\Q (.int kvs.length) H):=by
 intro pins s σ H xs us Q I r h;obtain⟨a,kvs,rfl,ha,q⟩:=h;obtain⟨u,rfl,ru⟩:=vals1 r;cases ru;exact Zp4 I (.inl ha) λt s' I'=>⟨.int kvs.length,H,I',⟨t,rfl⟩,q⟩
end
def clOf (env:Env):List (Str × NameKind)->List (Str × Addr)->List (Str × Addr)
 |[],cs=>cs
 | (n,k)::r,cs=>if k == .free then (match env.cells.lookup n with
     |some a=>clOf env r ((n,a)::cs)
     |none=>clOf env r cs) else clOf env r cs
theorem Zdb {env:Env}:∀(names:List (Str × NameKind)) (cs:List (Str × Addr)),(∀n,(n,NameKind.free)∈names->∃a,env.cells.lookup n=some a) →
  (forIn names cs λ(x:Str × NameKind) (cs:List (Str × Addr))=>if (x.2 == .free)=true then (do let a ← cellOf env x.1;pure (ForInStep.yield ((x.1,a)::cs))) else pure (ForInStep.yield cs):Sem (List (Str × Addr)))=pure (clOf env names cs)
 |[],cs,_=>rfl
 | (n,k)::r,cs,h=>by
  rw[List.forIn_cons];have hr:∀m,(m,NameKind.free)∈r->∃a,env.cells.lookup m=some a:=λm hm=>h m (Wax _ hm);cases hk:k == NameKind.free with
  |false=>
   have e:clOf env ((n,k)::r) cs=clOf env r cs:=by simp[clOf,hk]
   rw[e,<- Zdb r cs hr];simp only[hk,Wb9,if_false];rfl
  |true=>
   have hk':k=.free:=by simpa using hk
   subst hk';obtain⟨a,ha⟩:=h n Wa7;have e:clOf env ((n,.free)::r) cs=clOf env r ((n,a)::cs):=by simp[clOf,ha]
   have ec:cellOf env n=pure a:=by simp[cellOf,ha]
   rw[e,<- Zdb r ((n,a)::cs) hr];simp only[hk,if_true,ec];rfl
theorem Zbl {env:Env}{scope:Scope}(h:∀n,(n,NameKind.free)∈scope.names->∃a,env.cells.lookup n=some a):closureFor scope env=pure (clOf env scope.names []):=by
 rw[<- Zdb scope.names [] h];simp only[closureFor];exact Eq.trans (bind_pure _) rfl
theorem Zav {env:Env}:∀(names:List (Str × NameKind)) (cs:List (Str × Addr)) {x:Str}{c:Addr},(∀y d,cs.lookup y=some d->env.cells.lookup y=some d)->(clOf env names cs).lookup x=some c->env.cells.lookup x=some c
 |[],cs,x,c,h,e=>h x c e
 | (n,k)::r,cs,x,c,h,e=>by
  unfold clOf at e;split at e
  ·split at e
   ·rename_i a ha
    refine Zav r ((n,a)::cs) (λy d q=>?_) e;rw[Wbg]at q;split at q
    ·rename_i hy
     have hy':y=n:=by simpa using hy
     cases q;rw[hy'];exact ha
    ·exact h y d q
   ·exact Zav r cs h e
  ·exact Zav r cs h e
theorem Zci {env:Env}:∀(names:List (Str × NameKind)) (cs:List (Str × Addr)) {x:Str},(∃c,cs.lookup x=some c)->∃c,(clOf env names cs).lookup x=some c
 |[],cs,x,h=>h
 | (n,k)::r,cs,x,h=>by
  have h2:∀a,∃c,((n,a)::cs).lookup x=some c:=λa=>by
   rw[Wbg];split
   ·exact⟨_,rfl⟩
   ·exact h
  unfold clOf;split
  ·split
   ·exact Zci r _ (h2 _)
   ·exact Zci r cs h
  ·exact Zci r cs h
theorem Zbv {env:Env}:∀(names:List (Str × NameKind)) (cs:List (Str × Addr)) {x:Str},(x,NameKind.free)∈names->(∃a,env.cells.lookup x=some a)->∃c,(clOf env names cs).lookup x=some c
 |[],_,_,h,_=>by simp at h
 | (n,k)::r,cs,x,h,⟨a,ha⟩=>by
  rcases Wat.mp h with e|hm
  ·have e1:n=x:=(congrArg Prod.fst e).symm
   have e2:k=.free:=(congrArg Prod.snd e).symm;subst e1;subst e2;have e:clOf env ((n,.free)::r) cs=clOf env r ((n,a)::cs):=by simp[clOf,ha]
   rw[e];exact Zci r _ ⟨a,by simp⟩
  ·unfold clOf
   split
   ·split
    ·exact Zbv r _ hm ⟨a,ha⟩
    ·exact Zbv r _ hm ⟨a,ha⟩
   ·exact Zbv r _ hm ⟨a,ha⟩
def relab (osc scope:Scope):Scope:=
 { scope with names:=scope.names.map λ(n,k)=>if (k == .free && osc.kind == .function && osc.names.lookup n == some .cell) then (n,.cell) else (n,k) }
theorem Zff {osc scope:Scope}{x:Str}{k:NameKind}(hk:k=.cell\/k=.free) (hc:∀y∈scope.names,y.2≠.cell) (h:(relab osc scope).names.lookup x=some k):(x,NameKind.free)∈scope.names:=by
 have hm:=PySem.mem_of_lookup h;obtain⟨⟨n,j⟩,hy,e⟩:=Wbt.mp hm;dsimp only at e;split at e
 ·rename_i hj
  have e1:n=x:=congrArg Prod.fst e;have hj':j=.free:=by
   simp only[Wa1,beq_iff_eq]at hj;exact hj.1.1
  rw[<- e1,<- hj'];exact hy
 ·have e1:n=x:=congrArg Prod.fst e
  have e2:j=k:=congrArg Prod.snd e;rcases hk with z|z
  ·exact absurd (show ((n,j):Str × NameKind).2=.cell from e2.trans z) (hc _ hy)
  ·rw[<- e1,<- z,<- e2];exact hy
theorem Zd0 {osc:Scope}{x:Str}:∀{names:List (Str × NameKind)},names.lookup x=some .free →
  (names.map λ(n,k)=>if (k == NameKind.free && osc.kind == .function && osc.names.lookup n == some .cell) then (n,NameKind.cell) else (n,k)).lookup x=some .cell ∨
  (names.map λ(n,k)=>if (k == NameKind.free && osc.kind == .function && osc.names.lookup n == some .cell) then (n,NameKind.cell) else (n,k)).lookup x=some .free
 |[],h=>by simp at h
 | (n,k)::r,h=>by
  have ih:=@Zd0 osc x r;rw[Wa8];cases hx:x == n with
  |true=>
   simp only[Wbg,hx]at h;cases h;dsimp only;split
   ·left;simp[Wbg,hx]
   ·right;simp[Wbg,hx]
  |false=>
   simp only[Wbg,hx]at h;dsimp only;split
   ·simpa only[Wbg,hx] using ih h
   ·simpa only[Wbg,hx] using ih h
structure CompSc (osc:Scope) (oN:List Str) (scope:Scope) (fvs:List Str) (sel:List Nat):Prop where
 kind:scope.kind=.function
 nocell:∀y∈scope.names,y.2≠.cell
 names:∀y∈scope.names,y.2=.local->scope.names.lookup y.1=some .local
 free:∀y∈scope.names,y.2=.free->osc.names.lookup y.1=some .cell\/osc.names.lookup y.1=some .free
 len:fvs.length=sel.length
 fv:∀p∈fvs.zip sel,oN[p.2]?=some p.1/\scope.names.lookup p.1=some .free
def compCx (X:Cx) (scope:Scope) (N:List Str) (C:Addr) (s:Shared) (H:Hp) (ex:List Addr) (pn:List (Addr × Obj)):Cx where
 prog:=X.prog
 w:=X.w
 K:=X.K
 mg:=X.mg
 base:=X.base
 A:=X.A
 N:=N
 s₀:=s
 H₀:=H
 env:=compEnvC scope (clOf X.env scope.names []) C X.env
 outer:=X.stack
 stack:=X.stack
 ex:=ex
 fn:=λ_=>false
 calm:=X.calm
 pn:=pn
 xe:=λ_ _=>False
def compSt (n:Nat) (sel:List Nat) (σ:St):St:=Wao n none++sel.map λi=>(σ[i]?).getD none
section
variable {X:Cx}{pins:List (Addr × Obj)}{σ:St}{H:Hp}{s:Shared}{fp:List Addr}{scope:Scope}{tgs fvs:List Str}{sel:List Nat}
theorem Zc0 (S:CompSc X.env.scope X.N scope fvs sel) (ok:X.Ok):∀n,(n,NameKind.free)∈scope.names->∃a,X.env.cells.lookup n=some a:=λn hn=>
 ok.has n (S.free _ hn rfl)
theorem Zl4 (S:CompSc X.env.scope X.N scope fvs sel) (N:List Str) (I:Inv X pins σ H s) (hf:∀b∈fp,FpOk X pins H b) (hlt:∀b∈fp,b<s.heap.objs.size):(compCx X scope N s.heap.objs.size s H fp (X.pn++pins)).Ok where
 mod:=I.ok.mod
 kind:=S.kind
 glob:=I.ok.glob
 blt:=I.ok.blt
 above:=Wac _
 inj:=λx y c h1 h2=>I.ok.inj x y c (Zav _ _ (λ_ _ z=>by simp at z) h1) (Zav _ _ (λ_ _ z=>by simp at z) h2)
 has:=λx hx=>by
  have hm:(x,NameKind.free)∈scope.names:=by
   rcases hx with z|z
   ·exact Zff (osc:=X.env.scope) (.inl rfl) S.nocell z
   ·exact Zff (osc:=X.env.scope) (.inr rfl) S.nocell z
  exact Zbv scope.names [] hm (Zc0 S I.ok x hm)
 cab:=λx c h _=>by cases h
 hd:=I.ok.hd
 frames:=I.ok.frames
 stk:=.inl rfl
 exf:=λb hb=>⟨Was (hlt b hb),λx c e=>(hf b hb).2.2.2.2.1 x c (Zav _ _ (λ_ _ z=>by simp at z) e)⟩
 bs:=I.bs
 bsz:=Waz I.ok.bsz I.sz
 noex:=λb o e hb=>by
  rcases(hf b hb).2.2.2.1 with z|z
  ·exact I.ok.noex b o e z
  ·exact absurd (Wam (Waf e) (Waz I.ok.bsz z)) (Wbo _)
 exfs:=λb hb z=>by
  rcases Wat.mp (I.stkSub b z) with e|z
  ·exact(hf b hb).2.1 e
  ·exact(hf b hb).2.2.1 z
 funs:=I.stack
 frf:=I.stkFree
theorem Zka (S:CompSc X.env.scope X.N scope fvs sel) (I:Inv X pins σ H s) (hf:∀b∈fp,FpOk X pins H b) (hlt:∀b∈fp,b<s.heap.objs.size) {h':Heap}{tk:Nat}{m:Str->Option Value}
  (hns:h'.Ns s.heap.objs.size m) (old:∀b o,s.heap.get? b=some o->h'.get? b=some o) :
  Inv (compCx X scope (tgs++fvs) s.heap.objs.size s H fp (X.pn++pins)) [] (compSt tgs.length sel σ) H { s with heap:=h',toks:=tk } where
 ok:=Zl4 S _ I hf hlt
 os:=rfl
 bare:=I.bare
 base:=Un.kept old
 loc:=by
  refine⟨m,hns,λi x v h1 h2 h3=>?_⟩;have h1:(tgs++fvs)[i]?=some x:=h1;unfold compSt at h2;by_cases hi:i<tgs.length
  ·rw[Wa3 (by simpa using hi),Wbf,if_pos hi]at h2
   cases h2
  ·have hi':tgs.length<=i:=Nat.le_of_not_lt hi
   rw[Wap (by simpa using hi'),Wal,Wau]at h2;rw[Wap hi']at h1;cases hj:sel[i-tgs.length]? with
   |none=>rw[hj]at h2;cases h2
   |some j=>
    rw[hj]at h2;have h2:(σ[j]?).getD none=some v:=by simpa using h2
    have hz:(x,j)∈fvs.zip sel:=by
     refine Wa4 (i:=i-tgs.length) ?_;rw[List.getElem?_zip_eq_some];exact⟨h1,hj⟩
    obtain⟨hN,hfr⟩:=S.fv _ hz;have hσ:σ[j]?=some (some v):=by
     cases q:σ[j]? with
     |none=>rw[q]at h2;cases h2
     |some o=>rw[q]at h2;exact congrArg some h2
    have hko:X.env.scope.names.lookup x=some .cell\/X.env.scope.names.lookup x=some .free:=S.free (x,.free) (PySem.mem_of_lookup hfr) rfl;obtain⟨m0,hn0,hl0⟩:=I.loc;obtain⟨u,r,l⟩:=hl0 j x v hN hσ (.inr hko);refine⟨u,r,.inr ⟨Zd0 hfr,?_⟩⟩;rcases l with ⟨hk,_⟩|⟨_,c,hc,hcell⟩
    ·have hk:X.env.scope.names.lookup x=some .local:=hk
     rcases hko with z|z <;> (rw[hk]at z;cases z)
    ·obtain⟨c',hc'⟩:=Zbv scope.names [] (PySem.mem_of_lookup hfr) ⟨c,hc⟩
     have e:=Zav scope.names [] (λ_ _ z=>by simp at z) hc';rw[hc]at e;cases e;obtain⟨o,ho,hd⟩:=hcell;exact⟨c,hc',o,old _ _ ho,hd⟩
 cell:=λx c e=>by
  obtain⟨v,o,ho,hd⟩:=I.cell x c (Zav _ _ (λ_ _ z=>by simp at z) e);exact⟨v,o,old _ _ ho,hd⟩
 free:=I.hok.fresh (Wac _)
 freeC:=λx c e=>I.freeC x c (Zav _ _ (λ_ _ z=>by simp at z) e)
 pin:=λp hp=>by
  have hp:p∈(X.pn++pins)++[]:=hp;rw[Wbc]at hp;obtain⟨e,n,ne,nf,d⟩:=I.pin p hp;refine⟨old _ _ e,n,Was (Waf e),λz=>?_,d⟩;rcases Wat.mp (I.stkSub p.1 z) with q|q
  ·exact ne q
  ·exact nf q
 hok:=I.hok.kept old
 len:=by
  unfold compSt;show _=(tgs++fvs).length;rw[Wan,Wan,Wau,Wag,S.len]
theorem Zje {N:List Str}{σ':St}{H':Hp}{s':Shared}{h':Heap}(I:Inv X pins σ H s) (hf:∀b∈fp,FpOk X pins H b)
  (J:Inv (compCx X scope N s.heap.objs.size s H fp (X.pn++pins)) [] σ' H' s') (sb:Heap.SameBut s.heap.objs.size s'.heap h'):Inv X pins σ H' { s' with heap:=h' }:=by
 have B:Un (frs X.stack) fp H H' s.heap s'.heap:=J.base;have ne:∀b o,s.heap.get? b=some o->b≠s.heap.objs.size:=λb o e=>Was (Waf e);have fr:H' s.heap.objs.size=none:=J.free;refine I.call' (s':={ s' with heap:=h' }) (ch:=fp) J.os ⟨λb o e n h1 h2=>?_,λb o e n h1 h2=>?_,B.free,λb o e h2=>?_,B.tups,B.frzs,B.tbls⟩ (λb ob e=>?_) J.bare λb hb=>?_
 ·exact(sb.2 b (ne b o e)).trans (B.keep b o e n h1 h2)
 ·obtain⟨sl,q⟩:=B.slot b o e n h1 h2
  exact⟨sl,(sb.2 b (ne b o e)).trans q⟩
 ·obtain⟨o',q⟩:=B.there b o e h2
  exact⟨o',(sb.2 b (ne b o e)).trans q⟩
 ·refine(J.hok b ob e).stay (λc w' hc q=>(sb.2 c ?_).trans q) (λ_ q=>q) λ_ _ q=>q
  intro z;rcases hc with hc|hc
  ·rw[<- hc,z,fr]at e;cases e
  ·rw[z,fr]at hc;cases hc
 ·exact⟨(hf b hb).2.2.2.1,(hf b hb).2.1,(hf b hb).2.2.2.2.1,(hf b hb).2.2.2.2.2⟩
end
def PTs (X:Cx) (ifs:List Expr) (t:TT):Prop:=
 ∀(pins:List (Addr × Obj)) (s:Shared) (σ:St) (H:Hp) (Q:Bool->Hp->Prop),Inv X pins σ H s->t σ H Q →
  wpAny (model X.prog X.w) X.A (forIn ifs true λc r=>if r=true then do let ok ← isTrue c X.env (eval c X.env);pure (ForInStep.yield ok) else pure (ForInStep.yield r)) (TP X pins σ Q) X.xe s
def tTrue:TT:=λ_ H Q=>Q true H
theorem Zmt {X:Cx}:PTs X [] tTrue:=λpins s σ H Q I h=>wpAny_tests_nil ⟨H,I,h⟩
theorem Zhx {X:Cx}{c:Expr}{t:TT}(h:PT X c t):PTs X [c] t:=λpins s σ H Q I hq=>wpAny_tests_one (h pins s σ H Q I hq)
def tComp (n:Nat) (sel:List Nat) (wi:TI) (g:TG) (tc:TT) (te:TE):TE:=λσ H Q=>wi σ H λJ H1=>∀acc,H1 acc=none->∃W:Nat->Nat->St->Hp->Prop,
 (∃m,W 0 m (compSt n sel σ) (upd H1 acc (.lst [])))/\∀i m σ' H',W i m σ' H' →
  (J.stop i H' /\ Q (.ref acc) H')\/(J.go i H' /\ ∃N:St->Hp->Prop,(∀σ2 H2,N σ2 H2->∃m',m'<m/\W (i+1) m' σ2 H2) ∧
   ∀x H2,J.yld i H' x H2->g x σ' H2 λσ2 H3=>tc σ2 H3 λb H4=>if b=true then te σ2 H4 λy H5=>∃ys,H5 acc=some (.lst ys)/\ys.length<sizeLine/\N σ2 (upd H5 acc (.lst (ys++[y]))) else N σ2 H4)
section
variable {X:Cx}
theorem Zfl {elt tg iter:Expr}{ifs:List Expr}{scope:Scope}{pos:Pos}{tgs fvs:List Str}{sel:List Nat}{g:TG}{tc:TT}{te:TE}(S:CompSc X.env.scope X.N scope fvs sel) {Cm:Cx->Prop}(hc:∀C s H ex pn,Cm (compCx X scope (tgs++fvs) C s H ex pn))
  (hg:∀C s H ex pn,PG (compCx X scope (tgs++fvs) C s H ex pn) tg g) (ht:∀C s H ex pn,PTs (compCx X scope (tgs++fvs) C s H ex pn) ifs tc) (he:∀C s H ex pn,PE (compCx X scope (tgs++fvs) C s H ex pn) elt te)
  {pins:List (Addr × Obj)}{σ:St}{s:Shared}{itv:Value}{Q:VK}{E:Value->Shared->Prop}{RR:Value->Addr->Result->Shared->Prop}
  (h2:PIEG Cm X pins σ tg (λJ H1=>∀acc,H1 acc=none->∃W:Nat->Nat->St->Hp->Prop,
   (∃m,W 0 m (compSt tgs.length sel σ) (upd H1 acc (.lst [])))/\∀i m σ' H',W i m σ' H' →
   (J.stop i H' /\ Q (.ref acc) H')\/(J.go i H' /\ ∃N:St->Hp->Prop,(∀σ2 H2,N σ2 H2->∃m',m'<m/\W (i+1) m' σ2 H2) ∧
   ∀x H2,J.yld i H' x H2->g x σ' H2 λσ2 H3=>tc σ2 H3 λb H4=>if b=true then te σ2 H4 λy H5=>∃ys,H5 acc=some (.lst ys)/\ys.length<sizeLine/\N σ2 (upd H5 acc (.lst (ys++[y]))) else N σ2 H4)) itv s)
  (fin:∀(s':Shared) (C acc:Addr) (H':Hp) (m:Str->Option Value),s'.heap.Ns C m->FpOk X pins H' C->(∀h',Heap.SameBut C s'.heap h' -> Inv X pins σ H' { s' with heap:=h' })->Q (.ref acc) H' -> RR (.ref acc) C (.ok .next) s') :
  wpAny (model X.prog X.w) X.A (newList []) (λacc s3=>wpAny (model X.prog X.w) X.A (newFunctionEnv scope X.env.globals (clOf X.env scope.names []) [] X.env.qual none .none (some X.env)) (λcenv s4=>
   codeAny (model X.prog X.w) X.A (.compStart (.ListComp elt [⟨tg,iter,ifs,0⟩] scope pos) 0 itv acc { cenv with scope:=relabel scope X.env }) (RR acc cenv.locals) s4) E s3) E s:=by
 obtain⟨it,fp,tn,J,H1,e,I,T,st,f2,h2⟩:=h2;subst e;have hlt:∀b∈fp,b<s.heap.objs.size:=λb hb=>let ⟨o,ho,_⟩:=T.obj 0 _ st b hb; Waf ho
 refine wpAny_newObj_type (wpAny_newFunctionEnv S.nocell (by intro y hy;simp at hy) (λh1 hns hsb=>?_) S.kind);dsimp only at hns hsb ⊢;have I3:Inv X pins σ (upd H1 s.heap.objs.size (.lst [])) { s with heap:=s.heap.push { cls:=.type "list",data:=.seq ([]:List Value).toArray },toks:=s.toks }:=I.lnew (its:=[]) .nil (by decide);have hacc:H1 s.heap.objs.size=none:=I.hok.fresh (Wac _);obtain⟨W,⟨m0,w0⟩,turn⟩:=h2 s.heap.objs.size hacc;generalize hs3:({ s with heap:=s.heap.push { cls:=.type "list",data:=.seq ([]:List Value).toArray },toks:=s.toks }:Shared)=s3 at I3;have hh3:s3.heap=s.heap.push { cls:=.type "list",data:=.seq ([]:List Value).toArray }:=by rw[<- hs3]
 have old3:∀b o,s.heap.get? b=some o->s3.heap.get? b=some o:=λb o q=>by rw[hh3];exact Waa _ q
 have hf3:∀b∈fp,FpOk X pins (upd H1 s.heap.objs.size (.lst [])) b:=λb hb=>⟨by rw[Zag (Was (hlt b hb))];exact(f2 b hb).1,(f2 b hb).2⟩;have hlt3:∀b∈fp,b<s3.heap.objs.size:=λb hb=>by rw[hh3,Wbw];exact Wcw (hlt b hb)
 have tn3:tn 0 s3.heap:=T.keep 0 _ _ st λb hb o q=>old3 b o q;have old4:∀b o,s3.heap.get? b=some o->h1.get? b=some o:=λb o q=>by
  have hb:b≠s3.heap.objs.size:=Was (Waf q);rw[hh3]at hb q;exact(hsb.2 b hb).trans (Waa _ q)
 have tn4:tn 0 h1:=T.keep 0 _ _ tn3 λb hb o q=>old4 b o q;have hC:(s.heap.push { cls:=.type "list",data:=.seq ([]:List Value).toArray }).objs.size=s3.heap.objs.size:=by rw[hh3]
 rw[hC]at hns;have J0:=Zka (tgs:=tgs) (tk:=s.toks+([]:List (Str × Value)).length) S I3 hf3 hlt3 hns old4;have es:({ s3 with heap:=h1,toks:=s.toks+([]:List (Str × Value)).length }:Shared) = { s with heap:=h1,toks:=s.toks+([]:List (Str × Value)).length }:=by rw[<- hs3]
 rw[es]at J0;generalize hY:compCx X scope (tgs++fvs) s3.heap.objs.size s3 (upd H1 s.heap.objs.size (.lst [])) fp (X.pn++pins)=Y at J0;have hYp:Y.prog=X.prog:=by rw[<- hY];rfl
 have hYw:Y.w=X.w:=by rw[<- hY];rfl
 have hYK:Y.K=X.K:=by rw[<- hY];rfl
 have hYA:Y.A=X.A:=by rw[<- hY];rfl
 have hYc:Cm Y:=by rw[<- hY];exact hc _ _ _ _ _
 have hYx:Y.xe=λ_ _=>False:=by rw[<- hY];rfl
 have hYe:Y.env=compEnvC scope (clOf X.env scope.names []) s3.heap.objs.size X.env:=by rw[<- hY];rfl
 have stat:∀{H':Hp},(∀b∈fp,H' b=none)->∀b∈fp,FpOk Y [] H' b:=λhn b hb=>by
  rw[<- hY];refine⟨hn b hb,Was (hlt3 b hb),λz=>?_,.inl hb,λx c e=>?_,λp hp z=>?_⟩
  ·rcases Wat.mp (I3.stkSub b z) with q|q
   ·exact(hf3 b hb).2.1 q
   ·exact(hf3 b hb).2.2.1 q
  ·exact(hf3 b hb).2.2.2.2.1 x c (Zav _ _ (λ_ _ z=>by simp at z) e)
  ·have hp:p∈(X.pn++pins)++[]:=hp
   rw[Wbc]at hp;exact(hf3 b hb).2.2.2.2.2 p hp z
 have loop:codeAny (model X.prog X.w) X.A (.compLoop (.ListComp elt [⟨tg,iter,ifs,0⟩] scope pos) 0 (.ref it) (.ref s.heap.objs.size) Y.env) (RR (.ref s.heap.objs.size) s3.heap.objs.size)
   { s with heap:=h1,toks:=s.toks+([]:List (Str × Value)).length }:=by
  refine codeAny_loop rfl (λn s'=>∃i σ' H',Inv Y [] σ' H' s' /\ tn i s'.heap/\(∀b∈fp,H' b=none)/\W i n σ' H') ?_ m0 ⟨0,_,_,J0,tn4,λb hb=>(hf3 b hb).1,w0⟩;rintro n s5 ⟨i,σ5,H5,I5,st5,fr5,w5⟩;show wpAny _ X.A ((compTurn (.ListComp elt [⟨tg,iter,ifs,0⟩] scope pos) 0 (.ref it) (.ref s.heap.objs.size) Y.env).onRaise (λx=>do noteFrame x Y.env;theTreesLotGoes x)) _ _ s5;refine wpAny_noted (wpAny_mono (E:=λ_ _=>False) ?_ (λ_ _ q=>q) λ_ _ z=>z.elim);rw[compTurn_list];refine wpAny_bind (wpAny_standAt (wpAny_bind ?_));rcases turn i n σ5 H5 w5 with ⟨stop,qn⟩|⟨go,N,hN,step⟩
  ·have D:=T.done Y hYp hYw hYK hYc i [] s5 σ5 H5 (λ_ _=>False) I5 (stat fr5) st5 stop
   rw[hYA]at D;refine thn D λr s6 ⟨hr,I6⟩=>?_;subst hr;refine wpAny_pure ?_;obtain⟨m6,hn6,_⟩:=I6.loc;rw[hYe]at hn6;refine fin s6 _ _ H5 m6 hn6 (I3.fpOk (Wac _) (by have z:=I6.free;rw[hYe]at z;exact z)) (λh' sb=>?_) qn;have I6':Inv (compCx X scope (tgs++fvs) s3.heap.objs.size s3 (upd H1 s.heap.objs.size (.lst [])) fp (X.pn++pins)) [] σ5 H5 s6:=by rw[hY];exact I6
   exact Zje I3 hf3 I6' sb
  ·have D:=T.item Y hYp hYw hYK hYc i [] s5 σ5 H5 (λ_ _=>False) I5 (stat fr5) st5 go
   rw[hYA]at D;refine thn D λr s6 ⟨u,hr,h6⟩=>?_;subst hr;refine wpAny_bind (thn h6 λ_ s7 ⟨x,H7,I7,r7,y7,st7,fr7⟩=>?_);have I7':=I7.pinned (stat fr7) (T.obj _ _ st7);have G:=hg s3.heap.objs.size s3 (upd H1 s.heap.objs.size (.lst [])) fp (X.pn++pins);have TT:=ht s3.heap.objs.size s3 (upd H1 s.heap.objs.size (.lst [])) fp (X.pn++pins);have EE:=he s3.heap.objs.size s3 (upd H1 s.heap.objs.size (.lst [])) fp (X.pn++pins);rw[hY]at G TT EE;have G1:=G _ s7 σ5 H7 x u _ I7' r7 (step x H7 y7);rw[hYp,hYw,hYA,hYx]at G1;refine wpAny_bind (thn G1 λ_ s8 ⟨σ8,H8,I8,q8⟩=>?_);have T1:=TT _ s8 σ8 H8 _ I8 q8;rw[hYp,hYw,hYA,hYx]at T1;refine wpAny_bind (thn T1 λok s9 ⟨H9,I9,q9⟩=>?_);have again:∀{s':Shared}{σ':St}{H':Hp},Inv Y ([]++pinsAt fp s7.heap) σ' H' s' -> N σ' H' -> ∃m,m<n/\∃i σ' H',Inv Y [] σ' H' s' /\ tn i s'.heap/\(∀b∈fp,H' b=none)/\W i m σ' H':=λ{s' σ' H'} K7 n7=>by
    obtain⟨m',hm,w7⟩:=hN σ' H' n7;refine⟨m',hm,i+1,σ',H',K7.unpinned,T.keep _ _ _ st7 λb hb o e=>(K7.pin (b,o) (Waw _ (Waw _ (Zb4 hb e)))).1,λb hb=>?_,w7⟩;obtain⟨o,e,d⟩:=T.obj _ _ st7 b hb;exact(K7.pin (b,o) (Waw _ (Waw _ (Zb4 hb e)))).2.1
   cases ok with
   |false=>
    have q9:N σ8 H9:=q9;exact wpAny_pure ⟨by rw[hYe],again I9 q9⟩
   |true=>
    have q9:te σ8 H9 λy H5=>∃ys,H5 s.heap.objs.size=some (.lst ys)/\ys.length<sizeLine/\N σ8 (upd H5 s.heap.objs.size (.lst (ys++[y]))):=q9;have E1:=EE _ s9 σ8 H9 _ I9 q9;rw[hYp,hYw,hYA,hYx]at E1;refine wpAny_bind (wpAny_bind (thn E1 λv sa ⟨y,Ha,Ia,ra,ys,ea,za,na⟩=>?_));have M:=Zcg (X:=Y) _ sa σ8 Ha (.ref s.heap.objs.size) [y] (.ref s.heap.objs.size) [v] (λ_ H=>N σ8 H) Ia rfl (.cons ra .nil) ⟨_,ys,y,rfl,rfl,ea,za,na⟩;rw[hYp,hYw,hYA,hYx]at M;refine wpAny_bind (thn M λ_ sb ⟨_,Hb,Ib,_,nb⟩=>wpAny_pure (wpAny_pure ⟨by rw[hYe],again Ib nb⟩))
 have hcs:(relabel scope X.env)=(relabel scope X.env):=rfl;have loop':=loop;rw[hYe]at loop';show codeAny (model X.prog X.w) X.A (.compStart (.ListComp elt [⟨tg,iter,ifs,0⟩] scope pos) 0 (.ref it) (.ref s.heap.objs.size) (compEnvC scope (clOf X.env scope.names []) (s.heap.push { cls:=.type "list",data:=.seq ([]:List Value).toArray }).objs.size X.env)) (RR (.ref s.heap.objs.size) (s.heap.push { cls:=.type "list",data:=.seq ([]:List Value).toArray }).objs.size) _;rw[hC];exact codeAny_compStart_list loop' (T.self _ 0 _ _ _ tn4 loop')
theorem Zgl {elt tg iter:Expr}{ifs:List Expr}{scope:Scope}{pos:Pos}{fvs:List Str}{sel:List Nat}{wi:TI}{g:TG}{tc:TT}{te:TE}(tgs:List Str) (S:CompSc X.env.scope X.N scope fvs sel) (hc:X.calm=true)
  (hi:PI X tg iter wi) (hg:∀C s H ex pn,PG (compCx X scope (tgs++fvs) C s H ex pn) tg g) (ht:∀C s H ex pn,PTs (compCx X scope (tgs++fvs) C s H ex pn) ifs tc) (he:∀C s H ex pn,PE (compCx X scope (tgs++fvs) C s H ex pn) elt te)
  (hs:∀x,foldedSetIterable iter X.env x=pure x:=by intro _;rfl) :
  PE X (.ListComp elt [⟨tg,iter,ifs,0⟩] scope pos) (tComp tgs.length sel wi g tc te):=by
 intro pins s σ H Q I h;rw[eval_ListComp];refine wpAny_comprehension_free (use:=none) rfl hs (Zbl (Zc0 S I.ok)) S.kind S.names (thn (hi pins s σ H _ I h) λv s1 h1=>thn h1 λitv s2 h2=>?_);refine Zfl (Cm:=λX=>X.calm=true) S (λ_ _ _ _ _=>hc) hg ht he (RR:=λacc C=>compPost (model X.prog X.w) X.A X.xe none (EP X pins σ Q) acc C) (Q:=Q) h2 ?_;intro s' C acc H' m hn _ hI q;exact⟨m,hn,λh' sb=>⟨.ref acc,H',hI h' sb,rfl,q⟩⟩
end
def InsC (a C:Addr) (h:Heap):Prop:=∃ox vs,h.get? a=some ox/\ox.cls=.ref C/\ox.data=.fields vs/\vs[2]?=some .none
inductive D where
 |non|bl (b:Bool)|int (i:Int)|str (x:Str)|ty (n:String)|tup (ds:List D)|lst (ds:List D)|scr (ds:List D)|adr (a:Addr)|dct (ks:List Key) (ds:List D)|exc (a C:Addr)
mutual
inductive Rep (K:W.Frag) (G:Hp):V->D->Prop
 |non:Rep K G .non .non
 |bl (b:Bool):Rep K G (.bl b) (.bl b)
 |int (i:Int):Rep K G (.int i) (.int i)
 |str (x:Str):Rep K G (.str x) (.str x)
 |ty (n:String):Rep K G (.ty n) (.ty n)
 |tup {a:Addr}{vs:List V}{ds:List D}:G a=some (.tup vs)->Reps K G vs ds->Rep K G (.ref a) (.tup ds)
 |lst {a:Addr}{vs:List V}{ds:List D}:G a=some (.lst vs)->Reps K G vs ds->Rep K G (.ref a) (.lst ds)
 |scr {a:Addr}{vs:List V}{ds:List D}:SqL K G a vs->Reps K G vs ds->Rep K G (.ref a) (.scr ds)
 |adr (a:Addr):Rep K G (.ref a) (.adr a)
 |dct {a:Addr}{ks:List Key}{vs:List V}{ds:List D}:G a=some (.dK (ks.zip vs))->ks.length=vs.length->Reps K G vs ds->Rep K G (.ref a) (.dct ks ds)
 |exc {a C:Addr}:G a=some (.ext (InsC a C))->Rep K G (.ref a) (.exc a C)
inductive Reps (K:W.Frag) (G:Hp):List V->List D->Prop
 |nil:Reps K G [] []
 |cons {v:V}{d:D}{vs:List V}{ds:List D}:Rep K G v d->Reps K G vs ds->Reps K G (v::vs) (d::ds)
end
def RepI (K:W.Frag) (G:Hp) (v:V):D->Prop
 |.non=>v=.non
 |.bl b=>v=.bl b
 |.int i=>v=.int i
 |.str x=>v=.str x
 |.ty n=>v=.ty n
 |.tup ds=>∃a vs,v=.ref a/\G a=some (.tup vs)/\Reps K G vs ds
 |.lst ds=>∃a vs,v=.ref a/\G a=some (.lst vs)/\Reps K G vs ds
 |.scr ds=>∃a vs,v=.ref a/\SqL K G a vs/\Reps K G vs ds
 |.adr a=>v=.ref a
 |.dct ks ds=>∃a vs,v=.ref a/\G a=some (.dK (ks.zip vs))/\ks.length=vs.length/\Reps K G vs ds
 |.exc a C=>v=.ref a/\G a=some (.ext (InsC a C))
theorem Rep.inv {K:W.Frag}{G:Hp}{v:V}{d:D}(r:Rep K G v d):RepI K G v d:=by
 cases r with
 |tup h r=>exact⟨_,_,rfl,h,r⟩
 |lst h r=>exact⟨_,_,rfl,h,r⟩
 |scr h r=>exact⟨_,_,rfl,h,r⟩
 |dct h l r=>exact⟨_,_,rfl,h,l,r⟩
 |exc h=>exact⟨rfl,h⟩
 |_=>rfl
def RepsI (K:W.Frag) (G:Hp) (vs:List V):List D->Prop
 |[]=>vs=[]
 |d::ds=>∃v ws,vs=v::ws/\Rep K G v d/\Reps K G ws ds
theorem Reps.inv {K:W.Frag}{G:Hp}{vs:List V}{ds:List D}(r:Reps K G vs ds):RepsI K G vs ds:=by
 cases r with
 |nil=>rfl
 |cons a b=>exact⟨_,_,rfl,a,b⟩
section
variable {K:W.Frag}{G G' H H':Hp}
mutual
theorem Rep.mono (s:Same G G'):∀{v:V}{d:D},Rep K G v d->Rep K G' v d
 |_,_,.non=>.non
 |_,_,.bl b=>.bl b
 |_,_,.int i=>.int i
 |_,_,.str x=>.str x
 |_,_,.ty n=>.ty n
 |_,_,.tup h r=>.tup (s _ _ h) (Reps.mono s r)
 |_,_,.lst h r=>.lst (s _ _ h) (Reps.mono s r)
 |_,_,.scr h r=>.scr (s.seq h) (Reps.mono s r)
 |_,_,.adr a=>.adr a
 |_,_,.dct h l r=>.dct (s _ _ h) l (Reps.mono s r)
 |_,_,.exc h=>.exc (s _ _ h)
theorem Reps.mono (s:Same G G'):∀{vs:List V}{ds:List D},Reps K G vs ds->Reps K G' vs ds
 |_,_,.nil=>.nil
 |_,_,.cons h r=>.cons (Rep.mono s h) (Reps.mono s r)
end
theorem Reps.length:∀{vs:List V}{ds:List D},Reps K G vs ds->vs.length=ds.length
 |_,_,.nil=>rfl
 |_,_,.cons _ r=>by rw[Way,Way,r.length]
theorem Reps.get:∀{vs:List V}{ds:List D}{i:Nat}{d:D},Reps K G vs ds->ds[i]?=some d->∃v,vs[i]?=some v/\Rep K G v d
 |_,_,_,_,.nil,e=>by simp at e
 |_,_,0,_,.cons r _,e=>by simp at e;subst e;exact⟨_,rfl,r⟩
 |_,_,i+1,d,.cons _ t,e=>by
  obtain⟨u,h1,h2⟩:=Reps.get (i:=i) (d:=d) t (by simpa using e);exact⟨u,by simpa using h1,h2⟩
theorem Reps.append:∀{vs ws:List V}{ds es:List D},Reps K G vs ds->Reps K G ws es->Reps K G (vs++ws) (ds++es)
 |_,_,_,_,.nil,s=>s
 |_,_,_,_,.cons r t,s=>.cons r (Reps.append t s)
theorem Reps.take:∀{vs:List V}{ds:List D}(n:Nat),Reps K G vs ds->Reps K G (vs.take n) (ds.take n)
 |_,_,0,_=>.nil
 |_,_,_+1,.nil=>.nil
 |_,_,n+1,.cons r t=>.cons r (Reps.take n t)
theorem Reps.drop:∀{vs:List V}{ds:List D}(n:Nat),Reps K G vs ds->Reps K G (vs.drop n) (ds.drop n)
 |_,_,0,r=>r
 |_,_,_+1,.nil=>.nil
 |_,_,n+1,.cons _ t=>Reps.drop n t
theorem Reps.reverse {vs:List V}{ds:List D}(h:Reps K G vs ds):Reps K G vs.reverse ds.reverse:=by
 induction vs generalizing ds with
 |nil=>cases h;exact .nil
 |cons v vs ih=>
  cases h with
  |cons r t=>rw[Wcc,Wcc];exact(ih t).append (.cons r .nil)
theorem Reps.set:∀{vs:List V}{ds:List D}{v:V}{d:D}(i:Nat),Reps K G vs ds->Rep K G v d->Reps K G (vs.set i v) (ds.set i d)
 |_,_,_,_,_,.nil,_=>.nil
 |_,_,_,_,0,.cons _ t,q=>.cons q t
 |_,_,_,_,i+1,.cons r t,q=>.cons r (Reps.set i t q)
theorem Reps.eraseIdx:∀{vs:List V}{ds:List D}(i:Nat),Reps K G vs ds->Reps K G (vs.eraseIdx i) (ds.eraseIdx i)
 |_,_,_,.nil=>.nil
 |_,_,0,.cons _ t=>t
 |_,_,i+1,.cons r t=>.cons r (Reps.eraseIdx i t)
theorem Reps.ints {vs:List V}:∀{ns:List Int},Reps K G vs (ns.map D.int)->vs=ns.map V.int:=by
 induction vs with
 |nil=>intro ns h;cases ns with
  |nil=>rfl
  |cons n ns=>cases h
 |cons v vs ih=>intro ns h;cases ns with
  |nil=>cases h
  |cons n ns=>
   cases h with
   |cons r t=>cases r.inv;rw[ih t];rfl
theorem Reps.ofInts:∀(ns:List Int),Reps K G (ns.map V.int) (ns.map D.int)
 |[]=>.nil
 |n::ns=>.cons (.int n) (Reps.ofInts ns)
theorem Zey {vs:List V}{ds:List D}{i:Int}{d:D}(r:Reps K G vs ds) (h:atI ds i=some d):∃v,atI vs i=some v/\Rep K G v d:=by
 unfold atI at h ⊢;rw[<- r.length]at h;cases e:ixN vs.length i with
 |none=>rw[e]at h;cases h
 |some j=>rw[e]at h;exact r.get h
end
inductive OD where
 |lst (ds:List D)|dct (kvs:List (Key × D))|set (S:Int->Bool) (n:Nat)|dtt (kvs:List (List Key × D))|ext (R:Hp->(Heap->Prop)->Prop)
def OwnRep (K:W.Frag) (G:Hp):HO->OD->Prop
 |.lst vs,.lst ds=>Reps K G vs ds
 |.dK kvs,.dct kds=>Paired (λ(p:Key × V) (q:Key × D)=>p.1=q.1/\Rep K G p.2 q.2) kvs kds
 |.set S n,.set S' n'=>S=S' /\ n=n'
 |.dT kvs,.dtt kds=>Paired (λ(p:List Key × V) (q:List Key × D)=>p.1=q.1/\Rep K G p.2 q.2) kvs kds
 |.ext φ,.ext R=>∃G0,Same G0 G/\R G0 φ
 |_,_=>False
theorem OwnRep.mono {K:W.Frag}{G G':Hp}(s:Same G G') {o:HO}{od:OD}(h:OwnRep K G o od):OwnRep K G' o od:=by
 cases o <;> cases od <;> first
  |exact h.elim
  |exact Reps.mono s h
  |exact Paired.mapP h λ_ _ z=>⟨z.1,z.2.mono s⟩
  |exact(let ⟨g0,s0,r⟩:=h; ⟨g0,s0.trans s,r⟩)
  |exact h
inductive Slot where
 |any|val (d:D)|own (o:OD)|bor (o:OD)|ownA (a:Addr) (o:OD)
abbrev Evt:=List Slot
def Slot.od:Slot->Option OD
 |.own o=>some o
 |.bor o=>some o
 |.ownA _ o=>some o
 |_=>none
structure Gm where
 B:Addr->Prop
 F:Hp
 Hz:Hp
 Xo:Hp
def SlotAt (g:Gm) (x:Slot) (a:Addr):Prop:=match x with
 |.own _=>g.Hz a=none
 |.bor _=>g.B a
 |.ownA b _=>b=a/\g.Hz a=none
 |_=>True
structure Ok (K:W.Frag) (g:Gm) (G H:Hp) (σ:St) (Δ:Evt):Prop where
 same:∀b o,¬ g.B b->g.Hz b=some o->H b=some o
 lent:∀b,g.B b->H b≠none
 sub:Same g.F G
 frz:∀b o,G b=some o->H b=some o/\(g.Hz b=none\/g.F b=some o)
 ext:∀b o,g.Xo b=some o->H b=some o/\G b=none/\∀(i:Nat) x od,Δ[i]?=some x->x.od=some od -> σ[i]?≠some (some (.ref b))
 len:Δ.length = σ.length
 val:∀(i:Nat) d,Δ[i]?=some (.val d)->∃v,σ[i]?=some (some v)/\Rep K G v d
 own:∀(i:Nat) x od,Δ[i]?=some x->x.od=some od->∃a o,σ[i]?=some (some (.ref a))/\H a=some o/\OwnRep K G o od/\G a=none/\SlotAt g x a
 dis:∀(i j:Nat) x y od od' a,Δ[i]?=some x->x.od=some od -> Δ[j]?=some y->y.od=some od' -> σ[i]?=some (some (.ref a)) -> σ[j]?=some (some (.ref a))->i=j
section
variable {K:W.Frag}{g:Gm}{G H G' H':Hp}{σ:St}{Δ:Evt}
theorem Ok.live (k:Ok K g G H σ Δ):Same G H:=λb o e=>(k.frz b o e).1
theorem Ok.there (k:Ok K g G H σ Δ) {b:Addr}(h:H b=none):g.Hz b=none:=by
 cases e:g.Hz b with
 |none=>rfl
 |some o=>
  by_cases hb:g.B b
  ·exact absurd h (k.lent b hb)
  ·have:=k.same b o hb e
   rw[h]at this;cases this
theorem Ok.grow (k:Ok K g G H σ Δ) (sg:Same G G') (sh:Same H H') (hg:∀b o,G' b=some o->H' b=some o/\(G b=some o\/H b=none)):Ok K g G' H' σ Δ where
 same:=λb o hb e=>sh b o (k.same b o hb e)
 lent:=λb hb z=>by
  cases e:H b with
  |none=>exact k.lent b hb e
  |some o=>rw[sh b o e]at z;cases z
 sub:=k.sub.trans sg
 frz:=λb o e=>by
  obtain⟨h1,h2⟩:=hg b o e;refine⟨h1,?_⟩;rcases h2 with z|z
  ·exact(k.frz b o z).2
  ·exact .inl (k.there z)
 ext:=λb o e=>by
  obtain⟨h1,h2,h3⟩:=k.ext b o e;refine⟨sh b o h1,?_,h3⟩;cases q:G' b with
  |none=>rfl
  |some o'=>
   rcases(hg b o' q).2 with z|z
   ·rw[h2]at z;cases z
   ·rw[h1]at z;cases z
 len:=k.len
 val:=λi d e=>by
  obtain⟨v,h1,h2⟩:=k.val i d e;exact⟨v,h1,h2.mono sg⟩
 own:=λi x od e1 e2=>by
  obtain⟨a,o,h1,h2,h3,h4,h5⟩:=k.own i x od e1 e2;refine⟨a,o,h1,sh a o h2,h3.mono sg,?_,h5⟩;cases q:G' a with
  |none=>rfl
  |some o'=>
   rcases(hg a o' q).2 with z|z
   ·rw[h4]at z;cases z
   ·rw[h2]at z;cases z
 dis:=k.dis
theorem Ok.laid (k:Ok K g G H σ Δ) {p:Addr}(hp:H p=none) (o:HO):Ok K g (upd G p o) (upd H p o) σ Δ /\ Same G (upd G p o):=by
 have hG:G p=none:=by
  cases e:G p with
  |none=>rfl
  |some u=>rw[k.live p u e]at hp;cases hp
 have sg:Same G (upd G p o):=λb u e=>by rw[Zag (Zak e hG)];exact e
 refine⟨k.grow sg (λb u e=>by rw[Zag (Zak e hp)];exact e) λb u e=>?_,sg⟩;by_cases hb:b=p
 ·subst hb;rw[Zai]at e ⊢;exact⟨e,.inr hp⟩
 ·rw[Zag hb]at e ⊢;exact⟨k.live b u e,.inl e⟩
theorem Ok.lt (k:Ok K g G H σ Δ) {i:Nat}{x:Slot}(h:Δ[i]?=some x):i < σ.length:=by
 rw[<- k.len];exact(Wai.mp h).1
def Pend (K:W.Frag) (g:Gm) (G H:Hp) (σ:St) (Δ:Evt) (a:Addr) (od:OD):Prop:=
 ∃o,H a=some o/\OwnRep K G o od/\G a=none/\g.Hz a=none/\g.Xo a=none/\∀(i:Nat) x od',Δ[i]?=some x->x.od=some od' -> σ[i]?≠some (some (.ref a))
theorem Ok.setVal (k:Ok K g G H σ Δ) {v:V}{d:D}{i:Nat}(hi:i < Δ.length) (r:Rep K G v d):Ok K g G H (σ.set i (some v)) (Δ.set i (.val d)):=by
 have hs:i < σ.length:=by rw[<- k.len];exact hi
 have old:∀(j:Nat) x od,(Δ.set i (.val d))[j]?=some x->x.od=some od->j≠i /\ Δ[j]?=some x/\(σ.set i (some v))[j]? = σ[j]?:=λj x od e1 e2=>by
  by_cases hj:j=i
  ·subst hj
   rw[Waj hi]at e1;cases e1;cases e2
  ·rw[Wah (Ne.symm hj)]at e1
   exact⟨hj,e1,Wah (Ne.symm hj)⟩
 refine⟨k.same,k.lent,k.sub,k.frz,λb o e=>?_,by simp[k.len],λj e h=>?_,λj x od e1 e2=>?_,λj l x y od od' a e1 e2 e3 e4 e5 e6=>?_⟩
 ·obtain⟨h1,h2,h3⟩:=k.ext b o e
  refine⟨h1,h2,λj x od e1 e2=>?_⟩;obtain⟨_,q1,q2⟩:=old j x od e1 e2;rw[q2];exact h3 j x od q1 e2
 ·by_cases hj:j=i
  ·subst hj
   rw[Waj hi]at h;cases h;exact⟨v,Waj hs,r⟩
  ·rw[Wah (Ne.symm hj)]at h ⊢
   exact k.val j e h
 ·obtain⟨_,q1,q2⟩:=old j x od e1 e2
  rw[q2];exact k.own j x od q1 e2
 ·obtain⟨_,q1,q2⟩:=old j x od e1 e2
  obtain⟨_,q3,q4⟩:=old l y od' e3 e4;rw[q2]at e5;rw[q4]at e6;exact k.dis j l x y od od' a q1 e2 q3 e4 e5 e6
theorem Ok.setOwn (k:Ok K g G H σ Δ) {a:Addr}{od:OD}{i:Nat}(hi:i < Δ.length) (p:Pend K g G H σ Δ a od):Ok K g G H (σ.set i (some (.ref a))) (Δ.set i (.own od)):=by
 obtain⟨o,p1,p2,p3,p4,p5,p6⟩:=p;have hs:i < σ.length:=by rw[<- k.len];exact hi
 have old:∀(j:Nat) x,j≠i->(Δ.set i (.own od))[j]?=some x -> Δ[j]?=some x/\(σ.set i (some (.ref a)))[j]? = σ[j]?:=λj x hj e1=>by
  rw[Wah (Ne.symm hj)]at e1;exact⟨e1,Wah (Ne.symm hj)⟩
 refine⟨k.same,k.lent,k.sub,k.frz,λb ob e=>?_,by simp[k.len],λj e h=>?_,λj x od' e1 e2=>?_,λj l x y od1 od2 c e1 e2 e3 e4 e5 e6=>?_⟩
 ·obtain⟨h1,h2,h3⟩:=k.ext b ob e
  refine⟨h1,h2,λj x od' e1 e2=>?_⟩;by_cases hj:j=i
  ·subst hj
   rw[Waj hs];intro z;cases z;rw[p5]at e;cases e
  ·obtain⟨q1,q2⟩:=old j x hj e1
   rw[q2];exact h3 j x od' q1 e2
 ·by_cases hj:j=i
  ·subst hj
   rw[Waj hi]at h;cases h
  ·rw[Wah (Ne.symm hj)]at h ⊢
   exact k.val j e h
 ·by_cases hj:j=i
  ·subst hj
   rw[Waj hi]at e1;cases e1;cases e2;exact⟨a,o,Waj hs,p1,p2,p3,p4⟩
  ·obtain⟨q1,q2⟩:=old j x hj e1
   rw[q2];exact k.own j x od' q1 e2
 ·by_cases hj:j=i
  ·by_cases hl:l=i
   ·rw[hj,hl]
   ·obtain⟨q3,q4⟩:=old l y hl e3
    rw[q4]at e6;rw[hj,Waj hs]at e5;cases e5;exact absurd e6 (p6 l y od2 q3 e4)
  ·obtain⟨q1,q2⟩:=old j x hj e1
   rw[q2]at e5;by_cases hl:l=i
   ·rw[hl,Waj hs]at e6
    cases e6;exact absurd e5 (p6 j x od1 q1 e2)
   ·obtain⟨q3,q4⟩:=old l y hl e3
    rw[q4]at e6;exact k.dis j l x y od1 od2 c q1 e2 q3 e4 e5 e6
def Slot.put:Slot->OD->Slot
 |.own _,o=>.own o
 |.bor _,o=>.bor o
 |.ownA a _,o=>.ownA a o
 |x,_=>x
theorem SlotAt.put {g:Gm}{x:Slot}{a:Addr}{o:OD}(h:SlotAt g x a):SlotAt g (x.put o) a:=by cases x <;> exact h
theorem SlotAt.free {g:Gm}{x:Slot}{a:Addr}{od:OD}(h:SlotAt g x a) (ho:x.od=some od):g.Hz a=none\/g.B a:=by
 cases x with
 |any=>cases ho
 |val d=>cases ho
 |own o=>exact .inl h
 |bor o=>exact .inr h
 |ownA b o=>exact .inl h.2
theorem Slot.put_od {x:Slot}{od o:OD}(h:x.od=some od):(x.put o).od=some o:=by cases x <;> cases h <;> rfl
theorem Ok.write (k:Ok K g G H σ Δ) {a:Addr}{od od':OD}{x:Slot}{i:Nat}{o':HO}(hx:Δ[i]?=some x) (hod:x.od=some od) (ha:σ[i]?=some (some (.ref a))) (r:OwnRep K G o' od'):Ok K g G (upd H a o') σ (Δ.set i (x.put od')):=by
 obtain⟨a',o,q1,q2,q3,q4,q5⟩:=k.own i x od hx hod;rw[ha]at q1;cases q1;have hi:i < Δ.length:=(Wai.mp hx).1;have other:∀(j:Nat) y od2,(Δ.set i (x.put od'))[j]?=some y->y.od=some od2->j≠i -> Δ[j]?=some y:=λj y od2 e1 e2 hj=>by
  rw[Wah (Ne.symm hj)]at e1;exact e1
 have anyOd:∀(j:Nat) y od2,(Δ.set i (x.put od'))[j]?=some y->y.od=some od2->∃y' od3,Δ[j]?=some y' /\ y'.od=some od3:=λj y od2 e1 e2=>by
  by_cases hj:j=i
  ·subst hj;exact⟨x,od,hx,hod⟩
  ·exact⟨y,od2,other j y od2 e1 e2 hj,e2⟩
 refine⟨λb u hb e=>?_,λb hb=>?_,k.sub,λb u e=>?_,λb u e=>?_,by simp[k.len],λj e h=>?_,λj y od2 e1 e2=>?_,λj l y z od1 od2 c e1 e2 e3 e4 e5 e6=>?_⟩
 ·have hba:b≠a:=by
   intro z;subst z;rcases q5.free hod with z|z
   ·rw[z]at e;cases e
   ·exact hb z
  rw[Zag hba];exact k.same b u hb e
 ·by_cases hba:b=a
  ·subst hba;rw[Zai];intro z;cases z
  ·rw[Zag hba];exact k.lent b hb
 ·have hba:b≠a:=by intro z;subst z;rw[q4]at e;cases e
  rw[Zag hba];exact k.frz b u e
 ·obtain⟨h1,h2,h3⟩:=k.ext b u e
  have hba:b≠a:=by intro z;subst z;exact h3 i x od hx hod ha
  rw[Zag hba];refine⟨h1,h2,λj y od2 e1 e2=>?_⟩;obtain⟨y',od3,z1,z2⟩:=anyOd j y od2 e1 e2;exact h3 j y' od3 z1 z2
 ·by_cases hj:j=i
  ·subst hj
   rw[Waj hi]at h;cases x <;> cases hod <;> cases h
  ·rw[Wah (Ne.symm hj)]at h
   exact k.val j e h
 ·by_cases hj:j=i
  ·subst hj
   rw[Waj hi]at e1;cases e1;rw[Slot.put_od hod]at e2;cases e2;exact⟨a,o',ha,Zai,r,q4,q5.put⟩
  ·have e1':=other j y od2 e1 e2 hj
   obtain⟨c,oc,w1,w2,w3,w4,w5⟩:=k.own j y od2 e1' e2;have hca:c≠a:=by
    intro z;subst z;exact hj (k.dis j i y x od2 od c e1' e2 hx hod w1 ha)
   exact⟨c,oc,w1,by rw[Zag hca];exact w2,w3,w4,w5⟩
 ·obtain⟨y',od3,z1,z2⟩:=anyOd j y od1 e1 e2
  obtain⟨y'',od4,z3,z4⟩:=anyOd l z od2 e3 e4;exact k.dis j l y' y'' od3 od4 c z1 z2 z3 z4 e5 e6
theorem Ok.freeze (k:Ok K g G H σ Δ) {a:Addr}{ds:List D}{vs:List V}(p:Pend K g G H σ Δ a (.lst ds)) (hv:H a=some (.lst vs)):Ok K g (upd G a (.lst vs)) H σ Δ /\ Same G (upd G a (.lst vs))/\Rep K (upd G a (.lst vs)) (.ref a) (.lst ds):=by
 obtain⟨o,p1,p2,p3,p4,p5,p6⟩:=p;rw[hv]at p1;cases p1;have p2:Reps K G vs ds:=p2;have sg:Same G (upd G a (.lst vs)):=λb u e=>by rw[Zag (Zak e p3)];exact e
 refine⟨⟨k.same,k.lent,k.sub.trans sg,λb u e=>?_,λb u e=>?_,k.len,λj d h=>?_,λj x od e1 e2=>?_,k.dis⟩,sg,.lst Zai (p2.mono sg)⟩
 ·by_cases hb:b=a
  ·subst hb;rw[Zai]at e;cases e;exact⟨hv,.inl p4⟩
  ·rw[Zag hb]at e;exact k.frz b u e
 ·obtain⟨h1,h2,h3⟩:=k.ext b u e
  have hb:b≠a:=by intro z;subst z;rw[p5]at e;cases e
  exact⟨h1,by rw[Zag hb];exact h2,h3⟩
 ·obtain⟨v,h1,h2⟩:=k.val j d h
  exact⟨v,h1,h2.mono sg⟩
 ·obtain⟨c,o,w1,w2,w3,w4,w5⟩:=k.own j x od e1 e2
  have hc:c≠a:=by intro z;subst z;exact p6 j x od e1 e2 w1
  exact⟨c,o,w1,w2,w3.mono sg,by rw[Zag hc];exact w4,w5⟩
theorem Ok.drop (k:Ok K g G H σ Δ) (i:Nat):Ok K g G H σ (Δ.set i .any):=by
 have old:∀(j:Nat) x,(Δ.set i .any)[j]?=some x->x=.any\/(Δ[j]?=some x/\j≠i):=λj x e1=>by
  by_cases hj:j=i
  ·subst hj
   rw[Wcd]at e1;simp at e1;exact .inl e1.2.symm
  ·rw[Wah (Ne.symm hj)]at e1
   exact .inr ⟨e1,hj⟩
 have oldO:∀(j:Nat) x od,(Δ.set i .any)[j]?=some x->x.od=some od -> Δ[j]?=some x:=λj x od e1 e2=>by
  rcases old j x e1 with z|z
  ·subst z;cases e2
  ·exact z.1
 refine⟨k.same,k.lent,k.sub,k.frz,λb o e=>?_,by simp[k.len],λj e h=>?_,λj x od e1 e2=>k.own j x od (oldO j x od e1 e2) e2,λj l x y od od' a e1 e2 e3 e4=>k.dis j l x y od od' a (oldO j x od e1 e2) e2 (oldO l y od' e3 e4) e4⟩
 ·obtain⟨h1,h2,h3⟩:=k.ext b o e
  exact⟨h1,h2,λj x od e1 e2=>h3 j x od (oldO j x od e1 e2) e2⟩
 ·rcases old j _ h with z|z
  ·cases z
  ·exact k.val j e z.1
theorem Ok.take (k:Ok K g G H σ Δ) {i:Nat}{od:OD}(h:Δ[i]?=some (.own od)):∃a,σ[i]?=some (some (.ref a))/\Pend K g G H σ (Δ.set i .any) a od:=by
 obtain⟨a,o,h1,h2,h3,h4,h5⟩:=k.own i _ od h rfl;have h5:g.Hz a=none:=h5;refine⟨a,h1,o,h2,h3,h4,h5,?_,λj x od' e1 e2 e3=>?_⟩
 ·cases q:g.Xo a with
  |none=>rfl
  |some u=>exact absurd h1 ((k.ext a u q).2.2 i _ od h rfl)
 ·by_cases hj:j=i
  ·subst hj
   rw[Wcd]at e1;simp at e1;obtain⟨_,e1⟩:=e1;subst e1;cases e2
  ·rw[Wah (Ne.symm hj)]at e1
   exact hj (k.dis j i x _ od' od a e1 e2 h rfl e3 h1)
end
def Cont (K:W.Frag) (g:Gm) (G:Hp) (σ:St) (P:D->Evt->Prop) (Q:VK):Prop:=
 ∀v d G' H' Δ',Ok K g G' H' σ Δ' -> Same G G' -> Rep K G' v d->P d Δ' -> Q v H'
def JE (K:W.Frag) (t:TE) (Δ:Evt) (P:D->Evt->Prop):Prop:=
 ∀g G H σ Q,Ok K g G H σ Δ -> Cont K g G σ P Q->t σ H Q
def JT (K:W.Frag) (t:TT) (Δ:Evt) (P:Bool->Evt->Prop):Prop:=
 ∀g G H σ Q,Ok K g G H σ Δ -> (∀b G' H' Δ',Ok K g G' H' σ Δ' -> Same G G' -> P b Δ' -> Q b H')->t σ H Q
def JA (K:W.Frag) (t:TA) (Δ:Evt) (P:List D->Evt->Prop):Prop:=
 ∀g G H σ Q,Ok K g G H σ Δ -> (∀vs ds G' H' Δ',Ok K g G' H' σ Δ' -> Same G G' -> Reps K G' vs ds->P ds Δ' -> Q vs H')->t σ H Q
def JO (K:W.Frag) (t:TE) (Δ:Evt) (P:OD->Evt->Prop):Prop:=
 ∀g G H σ Q,Ok K g G H σ Δ -> (∀a od G' H' Δ',Ok K g G' H' σ Δ' -> Same G G' -> Pend K g G' H' σ Δ' a od->P od Δ' -> Q (.ref a) H')->t σ H Q
def JR2 (K:W.Frag) (r:R2) (d e:D) (Δ:Evt) (P:D->Evt->Prop):Prop:=
 ∀g G H σ Q x y,Ok K g G H σ Δ -> Rep K G x d->Rep K G y e->Cont K g G σ P Q->r x y H Q
def JR1 (K:W.Frag) (r:V->Hp->VK->Prop) (d:D) (Δ:Evt) (P:D->Evt->Prop):Prop:=
 ∀g G H σ Q x,Ok K g G H σ Δ -> Rep K G x d->Cont K g G σ P Q->r x H Q
def JC (K:W.Frag) (r:List V->Hp->VK->Prop) (ds:List D) (Δ:Evt) (P:D->Evt->Prop):Prop:=
 ∀g G H σ Q vs,Ok K g G H σ Δ -> Reps K G vs ds->Cont K g G σ P Q->r vs H Q
structure Pst where
 nx:Evt->Prop
 rt:D->Evt->Prop
 bk:Evt->Prop:=λ_=>False
 ct:Evt->Prop:=λ_=>False
 ro:OD->Evt->Prop:=λ_ _=>False
structure SCont (K:W.Frag) (g:Gm) (P:Pst) (E:Ends):Prop where
 nx:∀σ G H Δ,Ok K g G H σ Δ -> P.nx Δ -> E.nx σ H
 rt:∀v d σ G H Δ,Ok K g G H σ Δ -> Rep K G v d->P.rt d Δ -> E.rt v H
 bk:∀σ G H Δ,Ok K g G H σ Δ -> P.bk Δ -> E.bk σ H
 ct:∀σ G H Δ,Ok K g G H σ Δ -> P.ct Δ -> E.ct σ H
 ro:∀a od σ G H Δ,Ok K g G H σ Δ -> Pend K g G H σ Δ a od->P.ro od Δ -> E.rt (.ref a) H
def JS (K:W.Frag) (t:TS) (Δ:Evt) (P:Pst):Prop:=
 ∀g G H σ E,Ok K g G H σ Δ -> SCont K g P E->t E σ H
def JG (K:W.Frag) (t:TG) (d:D) (Δ:Evt) (P:Evt->Prop):Prop:=
 ∀g G H σ v (R:St->Hp->Prop),Ok K g G H σ Δ -> Rep K G v d->(∀σ' G' H' Δ',Ok K g G' H' σ' Δ' -> Same G G' -> P Δ' -> R σ' H')->t v σ H R
def JGs (K:W.Frag) (t:TGs) (ds:List D) (Δ:Evt) (P:Evt->Prop):Prop:=
 ∀g G H σ vs (R:St->Hp->Prop),Ok K g G H σ Δ -> Reps K G vs ds->(∀σ' G' H' Δ',Ok K g G' H' σ' Δ' -> Same G G' -> P Δ' -> R σ' H')->t vs σ H R
section
variable {K:W.Frag}{Δ:Evt}
theorem Cont.up {g:Gm}{G G1:Hp}{σ:St}{P:D->Evt->Prop}{Q:VK}(c:Cont K g G σ P Q) (s:Same G G1):Cont K g G1 σ P Q:=
 λv d G' H' Δ' k s' r p=>c v d G' H' Δ' k (s.trans s') r p
theorem JE.mono {t:TE}{P P':D->Evt->Prop}(h:JE K t Δ P) (hp:∀d Δ,P d Δ -> P' d Δ):JE K t Δ P':=
 λg G H σ Q k c=>h g G H σ Q k λv d G' H' Δ' k' s r p=>c v d G' H' Δ' k' s r (hp d Δ' p)
theorem JS.mono {t:TS}{P P':Pst}(h:JS K t Δ P) (hn:∀Δ,P.nx Δ -> P'.nx Δ) (hr:∀d Δ,P.rt d Δ -> P'.rt d Δ) (hb:∀Δ,P.bk Δ -> P'.bk Δ) (hc:∀Δ,P.ct Δ -> P'.ct Δ) (ho:∀od Δ,P.ro od Δ -> P'.ro od Δ):JS K t Δ P':=
 λg G H σ E k c=>h g G H σ E k ⟨λσ' G' H' Δ' k' p=>c.nx σ' G' H' Δ' k' (hn _ p),λv d σ' G' H' Δ' k' r p=>c.rt v d σ' G' H' Δ' k' r (hr _ _ p),λσ' G' H' Δ' k' p=>c.bk σ' G' H' Δ' k' (hb _ p),λσ' G' H' Δ' k' p=>c.ct σ' G' H' Δ' k' (hc _ p),λa od σ' G' H' Δ' k' r p=>c.ro a od σ' G' H' Δ' k' r (ho _ _ p)⟩
theorem Zae {i:Nat}{d:D}{P:D->Evt->Prop}(h:Δ[i]?=some (.val d)) (p:P d Δ):JE K (tVar i) Δ P:=λg G H σ Q k c=>by
 obtain⟨v,h1,h2⟩:=k.val i d h;exact⟨v,h1,c v d G H Δ k (Same.refl _) h2 p⟩
theorem Zf3 {i:Nat}{ds:List D}{P:D->Evt->Prop}(h:Δ[i]?=some (.own (.lst ds))) (p:P (.lst ds) (Δ.set i (.val (.lst ds)))):JE K (tVar i) Δ P:=λg G H σ Q k c=>by
 obtain⟨a,h1,pd⟩:=k.take h;obtain⟨o,q1,q2,_⟩:=id pd;cases o with
 |lst vs=>
  obtain⟨k2,sg,r⟩:=(k.drop i).freeze pd q1;have k3:=k2.setVal (i:=i) (by simpa using (Wai.mp h).1) r;have e1:σ.set i (some (.ref a)) = σ:=by
   apply Wcf;intro j;by_cases hj:j=i
   ·subst hj;rw[Waj (k.lt h),h1]
   ·rw[Wah (Ne.symm hj)]
  rw[e1,List.set_set]at k3;exact⟨.ref a,h1,c _ _ _ H _ k3 sg r p⟩
 |_=>exact absurd q2 (λz=>z)
theorem Zas {i:Int}{P:D->Evt->Prop}(p:P (.int i) Δ):JE K (tC (.int i)) Δ P:=λg G H σ Q k c=>c _ _ G H Δ k (Same.refl _) (.int i) p
theorem Zn7 {b:Bool}{P:D->Evt->Prop}(p:P (.bl b) Δ):JE K (tC (.bl b)) Δ P:=λg G H σ Q k c=>c _ _ G H Δ k (Same.refl _) (.bl b) p
theorem Zli {P:D->Evt->Prop}(p:P .non Δ):JE K (tC .non) Δ P:=λg G H σ Q k c=>c _ _ G H Δ k (Same.refl _) .non p
theorem Zc3 {x:Str}{P:D->Evt->Prop}(p:P (.str x) Δ):JE K (tC (.str x)) Δ P:=λg G H σ Q k c=>c _ _ G H Δ k (Same.refl _) (.str x) p
theorem Zcu {x:String}{P:D->Evt->Prop}(p:P (.ty x) Δ):JE K (tC (.ty x)) Δ P:=λg G H σ Q k c=>c _ _ G H Δ k (Same.refl _) (.ty x) p
theorem Zbe {r:R2}{ta tb:TE}{P:D->Evt->Prop}(h:JE K ta Δ λd Δ1=>JE K tb Δ1 λe Δ2=>JR2 K r d e Δ2 P):JE K (tOp r ta tb) Δ P:=λg G H σ Q k c=>
 h g G H σ _ k λx d G1 H1 Δ1 k1 s1 r1 p1=>p1 g G1 H1 σ _ k1 λy e G2 H2 Δ2 k2 s2 r2 p2=>p2 g G2 H2 σ Q x y k2 (r1.mono s2) r2 (c.up (s1.trans s2))
theorem Zpy {r:V->Hp->VK->Prop}{ta:TE}{P:D->Evt->Prop}(h:JE K ta Δ λd Δ1=>JR1 K r d Δ1 P):JE K (tUn r ta) Δ P:=λg G H σ Q k c=>
 h g G H σ _ k λx d G1 H1 Δ1 k1 s1 r1 p1=>p1 g G1 H1 σ Q x k1 r1 (c.up s1)
theorem Zah {P:List D->Evt->Prop}(p:P [] Δ):JA K tNil Δ P:=λg G H σ Q k c=>c [] [] G H Δ k (Same.refl _) .nil p
theorem Zab {ta:TE}{tr:TA}{P:List D->Evt->Prop}(h:JE K ta Δ λd Δ1=>JA K tr Δ1 λds Δ2=>P (d::ds) Δ2):JA K (tCons ta tr) Δ P:=λg G H σ Q k c=>
 h g G H σ _ k λx d G1 H1 Δ1 k1 s1 r1 p1=>p1 g G1 H1 σ _ k1 λvs ds G2 H2 Δ2 k2 s2 r2 p2=>c _ _ G2 H2 Δ2 k2 (s1.trans s2) (.cons (r1.mono s2) r2) p2
theorem Za8 {r:List V->Hp->VK->Prop}{ta:TA}{P:D->Evt->Prop}(h:JA K ta Δ λds Δ1=>JC K r ds Δ1 P):JE K (tCB r ta) Δ P:=λg G H σ Q k c=>
 h g G H σ _ k λvs ds G1 H1 Δ1 k1 s1 r1 p1=>p1 g G1 H1 σ Q vs k1 r1 (c.up s1)
theorem Zde {ta:TA}{P:D->Evt->Prop}(h:JA K ta Δ λds Δ1=>ds.length<=sizeLine/\P (.tup ds) Δ1):JE K (tTup ta) Δ P:=λg G H σ Q k c=>
 h g G H σ _ k λvs ds G1 H1 Δ1 k1 s1 r1 ⟨z,p1⟩=>⟨by rw[r1.length];exact z,λp hp=>by
  obtain⟨k2,sg⟩:=k1.laid hp (.tup vs);exact c _ _ _ _ Δ1 k2 (s1.trans sg) (.tup Zai (r1.mono sg)) p1⟩
theorem Zdu {ta:TA}{P:D->Evt->Prop}(h:JA K ta Δ λds Δ1=>ds.length<=sizeLine/\P (.lst ds) Δ1):JE K (tLst ta) Δ P:=λg G H σ Q k c=>
 h g G H σ _ k λvs ds G1 H1 Δ1 k1 s1 r1 ⟨z,p1⟩=>⟨by rw[r1.length];exact z,λp hp=>by
  obtain⟨k2,sg⟩:=k1.laid hp (.lst vs);exact c _ _ _ _ Δ1 k2 (s1.trans sg) (.lst Zai (r1.mono sg)) p1⟩
theorem Ok.fresh {g:Gm}{G H:Hp}{σ:St}(k:Ok K g G H σ Δ) {p:Addr}{o:HO}{od:OD}(hp:H p=none) (r:OwnRep K G o od):Ok K g G (upd H p o) σ Δ /\ Pend K g G (upd H p o) σ Δ p od:=by
 have hG:G p=none:=by
  cases e:G p with
  |none=>rfl
  |some u=>rw[k.live p u e]at hp;cases hp
 refine⟨k.grow (Same.refl _) (λb u e=>by rw[Zag (Zak e hp)];exact e) λb u e=>⟨?_,.inl e⟩,o,Zai,r,hG,k.there hp,?_,λj x od' e1 e2 e3=>?_⟩
 ·have hb:b≠p:=by intro z;subst z;rw[hG]at e;cases e
  rw[Zag hb];exact k.live b u e
 ·cases q:g.Xo p with
  |none=>rfl
  |some u=>have z:=(k.ext p u q).1;rw[hp]at z;cases z
 ·obtain⟨a,oo,w1,w2,_⟩:=k.own j x od' e1 e2
  rw[e3]at w1;cases w1;rw[hp]at w2;cases w2
theorem Zh3 {ta:TA}{P:OD->Evt->Prop}(h:JA K ta Δ λds Δ1=>ds.length<=sizeLine/\P (.lst ds) Δ1):JO K (tLst ta) Δ P:=λg G H σ Q k c=>
 h g G H σ _ k λvs ds G1 H1 Δ1 k1 s1 r1 ⟨z,p1⟩=>⟨by rw[r1.length];exact z,λp hp=>by
  obtain⟨k2,pd⟩:=k1.fresh (od:=.lst ds) hp (show OwnRep K G1 (.lst vs) (.lst ds) from r1);exact c p _ G1 _ Δ1 k2 s1 pd p1⟩
theorem Zc8 {t:TE}{P:D->Evt->Prop}(h:JO K t Δ λod Δ1=>∃ds,od=.lst ds/\P (.lst ds) Δ1):JE K t Δ P:=λg G H σ Q k c=>
 h g G H σ Q k λa od G1 H1 Δ1 k1 s1 pd hq_=>by
  obtain⟨ds,e,p1⟩:=hq_;subst e;obtain⟨o,q1,q2,_⟩:=id pd;cases o with
  |lst vs=>
   obtain⟨k2,sg,r⟩:=k1.freeze pd q1;exact c _ _ _ H1 Δ1 k2 (s1.trans sg) r p1
  |_=>exact absurd q2 (λz=>z)
theorem Zb0 {t:TE}{P:Bool->Evt->Prop}(h:JE K t Δ λd Δ1=>∃b,d=.bl b/\P b Δ1):JT K (tTest t) Δ P:=λg G H σ Q k c=>
 h g G H σ _ k λv d G1 H1 Δ1 k1 s1 r1 hq_=>by obtain⟨b,e,p1⟩:=hq_;subst e;cases r1.inv;exact⟨b,rfl,c b G1 H1 Δ1 k1 s1 p1⟩
theorem Zi0 {a b:TT}{P:Bool->Evt->Prop}(h:JT K a Δ λx Δ1=>if x=true then JT K b Δ1 P else P false Δ1):JT K (tAnd a b) Δ P:=λg G H σ Q k c=>
 h g G H σ _ k λx G1 H1 Δ1 k1 s1 p1=>by
  cases x with
  |true=>exact(show JT K b Δ1 P from p1) g G1 H1 σ _ k1 λy G2 H2 Δ2 k2 s2 p2=>c y G2 H2 Δ2 k2 (s1.trans s2) p2
  |false=>exact c false G1 H1 Δ1 k1 s1 p1
theorem Zll {a b:TT}{P:Bool->Evt->Prop}(h:JT K a Δ λx Δ1=>if x=true then P true Δ1 else JT K b Δ1 P):JT K (tOr a b) Δ P:=λg G H σ Q k c=>
 h g G H σ _ k λx G1 H1 Δ1 k1 s1 p1=>by
  cases x with
  |true=>exact c true G1 H1 Δ1 k1 s1 p1
  |false=>exact(show JT K b Δ1 P from p1) g G1 H1 σ _ k1 λy G2 H2 Δ2 k2 s2 p2=>c y G2 H2 Δ2 k2 (s1.trans s2) p2
theorem Zfb {a:TT}{P:Bool->Evt->Prop}(h:JT K a Δ λx Δ1=>P (!x) Δ1):JT K (tNot a) Δ P:=λg G H σ Q k c=>
 h g G H σ _ k λx G1 H1 Δ1 k1 s1 p1=>c (!x) G1 H1 Δ1 k1 s1 p1
theorem Zmi {P:Bool->Evt->Prop}(p:P true Δ):JT K tTrue Δ P:=λg G H σ Q k c=>c true G H Δ k (Same.refl _) p
theorem Zmj {P:Pst}(p:P.nx Δ):JS K tNext Δ P:=λg G H σ E k c=>c.nx σ G H Δ k p
theorem Zlg {t u:TS}{P:Pst}(h:JS K t Δ { P with nx:=λΔ1=>JS K u Δ1 P }):JS K (tSeq t u) Δ P:=λg G H σ E k c=>
 h g G H σ _ k ⟨λσ1 G1 H1 Δ1 k1 p1=>p1 g G1 H1 σ1 E k1 c,c.rt,c.bk,c.ct,c.ro⟩
theorem Zoa {te:TE}{P:Pst}(h:JE K te Δ P.rt):JS K (tRet te) Δ P:=λg G H σ E k c=>
 h g G H σ _ k λv d G1 H1 Δ1 k1 s1 r1 p1=>c.rt v d σ G1 H1 Δ1 k1 r1 p1
theorem Zlx {te:TE}{P:Pst}(h:JO K te Δ P.ro):JS K (tRet te) Δ P:=λg G H σ E k c=>
 h g G H σ _ k λa od G1 H1 Δ1 k1 s1 pd p1=>c.ro a od σ G1 H1 Δ1 k1 pd p1
theorem Zl2 {te:TE}{P:Pst}(h:JE K te Δ λ_ Δ1=>P.nx Δ1):JS K (tDrop te) Δ P:=λg G H σ E k c=>
 h g G H σ _ k λv d G1 H1 Δ1 k1 s1 r1 p1=>c.nx σ G1 H1 Δ1 k1 p1
theorem Zp7 {c:TT}{t u:TS}{P:Pst}(h:JT K c Δ λb Δ1=>if b=true then JS K t Δ1 P else JS K u Δ1 P):JS K (tIfS c t u) Δ P:=λg G H σ E k q=>
 h g G H σ _ k λb G1 H1 Δ1 k1 s1 p1=>by
  cases b with
  |true=>exact(show JS K t Δ1 P from p1) g G1 H1 σ E k1 q
  |false=>exact(show JS K u Δ1 P from p1) g G1 H1 σ E k1 q
theorem Znm {te:TE}{t:TG}{P:Pst}(h:JE K te Δ λd Δ1=>JG K t d Δ1 P.nx):JS K (tAsg te t) Δ P:=λg G H σ E k c=>
 h g G H σ _ k λv d G1 H1 Δ1 k1 s1 r1 p1=>p1 g G1 H1 σ v _ k1 r1 λσ2 G2 H2 Δ2 k2 s2 p2=>c.nx σ2 G2 H2 Δ2 k2 p2
theorem Zf6 {P:Evt->Prop}(p:P Δ):JGs K gNil [] Δ P:=λg G H σ vs R k r c=>by cases r;exact⟨rfl,c σ G H Δ k (Same.refl _) p⟩
theorem Zb3 {t:TG}{u:TGs}{d:D}{ds:List D}{P:Evt->Prop}(h:JG K t d Δ λΔ1=>JGs K u ds Δ1 P):JGs K (gCons t u) (d::ds) Δ P:=λg G H σ vs R k r c=>by
 obtain⟨_,_,rfl,r1,rr⟩:=r.inv
 next=>exact⟨_,_,rfl,h g G H σ _ _ k r1 λσ1 G1 H1 Δ1 k1 s1 p1=>p1 g G1 H1 σ1 _ R k1 (rr.mono s1) λσ2 G2 H2 Δ2 k2 s2 p2=>c σ2 G2 H2 Δ2 k2 (s1.trans s2) p2⟩
theorem Zh1 {n:Nat}{t:TGs}{ds:List D}{P:Evt->Prop}(hl:ds.length=n) (h:JGs K t ds Δ P):JG K (gTup K n t) (.tup ds) Δ P:=λg G H σ v R k r c=>by
 obtain⟨_,_,rfl,ha,rs⟩:=r.inv
 next=>exact⟨_,_,rfl,SqT.of (k.live _ _ ha),by rw[rs.length];exact hl,h g G H σ _ R k rs c⟩
def ItOk (K:W.Frag) (G:Hp) (J:It) (ds:List D):Prop:=
 ∀G1 H1,Same G G1->Same G1 H1->J.stop ds.length H1/\∀(i:Nat) d,ds[i]?=some d->J.go i H1/\∀x H2,J.yld i H1 x H2->∃G2,Same G1 G2/\Same H1 H2/\(∀b o,G2 b=some o->H2 b=some o/\(G1 b=some o\/H1 b=none))/\Rep K G2 x d
def JI (K:W.Frag) (wi:TI) (Δ:Evt) (P:List D->Evt->Prop):Prop:=
 ∀g G H σ (R:It->Hp->Prop),Ok K g G H σ Δ -> (∀J ds G' H' Δ',Ok K g G' H' σ Δ' -> Same G G' -> ItOk K G' J ds->P ds Δ' -> R J H')->wi σ H R
theorem Zn2 {tl:TE}{P:List D->Evt->Prop}(h:JE K tl Δ λd Δ1=>∃ds,d=.tup ds/\P ds Δ1):JI K (iTup K tl) Δ P:=λg G H σ R k c=>
 h g G H σ _ k λv d G1 H1 Δ1 k1 s1 r1 hq_=>by
  obtain⟨ds,e,p1⟩:=hq_;subst e;obtain⟨a,vs,rfl,ha,rs⟩:=r1.inv
  next=>
   refine⟨a,rfl,⟨vs,SqT.of (k1.live _ _ ha)⟩,c _ ds G1 H1 Δ1 k1 s1 (λG2 H2 sg sh=>⟨⟨vs,SqT.of (sh _ _ (sg _ _ ha)),by rw[rs.length];exact Wac _⟩,λi d e=>?_⟩) p1⟩;obtain⟨v,hv,rv⟩:=rs.get e;refine⟨⟨vs,v,SqT.of (sh _ _ (sg _ _ ha)),hv⟩,λx H3 ⟨e3,y3⟩=>⟨G2,Same.refl _,by rw[e3];exact Same.refl _,λb o q=>⟨by rw[e3];exact sh b o q,.inl q⟩,?_⟩⟩;have:=y3 vs (SqT.of (sh _ _ (sg _ _ ha)));rw[hv]at this;cases this;exact rv.mono sg
theorem Zma {tl:TE}{P:List D->Evt->Prop}(h:JE K tl Δ λd Δ1=>∃ds,(d=.lst ds\/d=.scr ds)/\P ds Δ1):JI K (iList K tl) Δ P:=λg G H σ R k c=>
 h g G H σ _ k λv d G1 H1 Δ1 k1 s1 r1 hq_=>by
  obtain⟨ds,e,p1⟩:=hq_;obtain⟨a,vs,ea,hs,rs⟩:∃a vs,v=.ref a/\SqL K G1 a vs/\Reps K G1 vs ds:=by
   rcases e with e|e
   ·subst e;cases r1 with|lst ha rs=>exact⟨_,_,rfl,SqL.of ha,rs⟩
   ·subst e;cases r1 with|scr ha rs=>exact⟨_,_,rfl,ha,rs⟩
  subst ea;refine⟨a,rfl,⟨vs,k1.live.seq hs⟩,c _ ds G1 H1 Δ1 k1 s1 (λG2 H2 sg sh=>⟨⟨vs,sh.seq (sg.seq hs),by rw[rs.length];exact Wac _⟩,λi d e=>?_⟩) p1⟩;obtain⟨v,hv,rv⟩:=rs.get e;refine⟨⟨vs,v,sh.seq (sg.seq hs),hv⟩,λx H3 ⟨e3,y3⟩=>⟨G2,Same.refl _,by rw[e3];exact Same.refl _,λb o q=>⟨by rw[e3];exact sh b o q,.inl q⟩,?_⟩⟩;have:=y3 vs (sh.seq (sg.seq hs));rw[hv]at this;cases this;exact rv.mono sg
def rngD (lo:Int) (n:Nat):List D:=(Wa2 n).map λi:Nat=>D.int (lo+(i:Int))
theorem Zce (lo:Int) (n:Nat):(rngD lo n).length=n:=by simp[rngD]
theorem Zcj {lo:Int}{n i:Nat}{d:D}(h:(rngD lo n)[i]?=some d):i<n/\d=.int (lo+(i:Int)):=by
 unfold rngD at h;rw[Wal]at h;cases e:(Wa2 n)[i]? with
 |none=>rw[e]at h;cases h
 |some j=>
  rw[e]at h;obtain⟨h1,h2⟩:=Wai.mp e;rw[List.getElem_range]at h2;subst h2;exact⟨by simpa using h1,(War.inj h).symm⟩
theorem Zgs {G:Hp}(lo:Int) (n:Nat):ItOk K G (Itr lo n) (rngD lo n):=λG1 H1 sg sh=>by
 refine⟨by show n<=(rngD lo n).length;rw[Zce];exact Wac _,λi d e=>?_⟩;obtain⟨h1,h2⟩:=Zcj e;subst h2;refine⟨h1,λx H2 ⟨e2,y2⟩=>⟨G1,Same.refl _,by rw[e2];exact Same.refl _,λb o q=>⟨by rw[e2];exact sh b o q,.inl q⟩,?_⟩⟩;subst y2;exact .int _
theorem Zdn {ta:TA}{P:List D->Evt->Prop}(h:JA K ta Δ λds Δ1=>∃n:Int,ds=[.int n] /\ -(2 ^ 62)<=n/\n<2 ^ 62/\P (rngD 0 n.toNat) Δ1):JI K (iRng1 ta) Δ P:=λg G H σ R k c=>
 h g G H σ _ k λvs ds G1 H1 Δ1 k1 s1 r1 hq_=>by
  obtain⟨n,e,h1,h2,p1⟩:=hq_;subst e;obtain⟨_,_,rfl,ra,rr⟩:=r1.inv
  next=>
   cases rr.inv;cases ra.inv;exact⟨n,rfl,h1,h2,c _ _ G1 H1 Δ1 k1 s1 (Zgs 0 _) p1⟩
theorem Zi9 {ta:TA}{P:List D->Evt->Prop}(h:JA K ta Δ λds Δ1=>∃m n:Int,ds=[.int m,.int n]/\(-(2 ^ 62)<=m/\m<2 ^ 62 /\ -(2 ^ 62)<=n/\n<2 ^ 62)/\P (rngD m (n-m).toNat) Δ1):JI K (iRng2 ta) Δ P:=λg G H σ R k c=>
 h g G H σ _ k λvs ds G1 H1 Δ1 k1 s1 r1 hq_=>by
  obtain⟨m,n,e,h1,p1⟩:=hq_;subst e;obtain⟨_,_,rfl,ra,rr⟩:=r1.inv
  next=>
   obtain⟨_,_,rfl,rb,rr⟩:=rr.inv
   next=>
    cases rr.inv;cases ra.inv;cases rb.inv;exact⟨m,n,rfl,h1,c _ _ G1 H1 Δ1 k1 s1 (Zgs m _) p1⟩
theorem Zoi {wi:TI}{t:TG}{tb:TS}{P:Pst}(h:JI K wi Δ λds Δ1=>∃I:Nat->Evt->Prop,I 0 Δ1/\(∀i d Δ2,ds[i]?=some d->I i Δ2->JG K t d Δ2 λΔ3=>JS K tb Δ3 ⟨I (i+1),P.rt,P.nx,I (i+1),P.ro⟩)/\∀Δ2,I ds.length Δ2->P.nx Δ2) :
  JS K (tFor wi t tb) Δ P:=λg G H σ E k c=>
 h g G H σ _ k λJ ds G1 H1 Δ1 k1 s1 it hq_=>by
  obtain⟨I,h0,ht,he⟩:=hq_;refine⟨λi m σ H=>m=ds.length-i/\i<=ds.length/\∃G Δ,Ok K g G H σ Δ /\ Same G1 G/\I i Δ,⟨ds.length,by simp,Wcg _,G1,Δ1,k1,Same.refl _,h0⟩,?_⟩;rintro i m σ2 H2 ⟨rfl,hi,G2,Δ2,k2,s2,h2⟩;obtain⟨stop,go⟩:=it G2 H2 s2 k2.live;by_cases hlt:i<ds.length
  ·obtain⟨g1,g2⟩:=go i _ (Wab hlt)
   refine .inr ⟨g1,λσ' H'=>i+1<=ds.length/\∃G Δ,Ok K g G H' σ' Δ /\ Same G1 G/\I (i+1) Δ,λσ' H' p'=>⟨ds.length-(i+1),by omega,rfl,p'.1,p'.2⟩,λx H3 y=>?_⟩;obtain⟨G3,a1,a2,a3,a4⟩:=g2 x H3 y;have k3:=k2.grow a1 a2 a3;refine ht i _ Δ2 (Wab hlt) h2 { g with F:=G3,Xo:=g.Xo } G3 H3 σ2 x _ ?_ a4 λσ4 G4 H4 Δ4 k4 s4 p4=>?_
   ·exact⟨k3.same,k3.lent,Same.refl _,λb o q=>⟨(k3.frz b o q).1,.inr q⟩,k3.ext,k3.len,k3.val,k3.own,k3.dis⟩
   ·have cv:∀{G5 H5:Hp}{σ5:St}{Δ5:Evt},Ok K { g with F:=G3,Xo:=g.Xo } G5 H5 σ5 Δ5->Ok K g G5 H5 σ5 Δ5/\Same G1 G5:=λ{G5 H5 σ5 Δ5} k5=>
     ⟨⟨k5.same,k5.lent,k3.sub.trans k5.sub,λb o q=>by
      obtain⟨q1,q2⟩:=k5.frz b o q;refine⟨q1,?_⟩;rcases q2 with z|z
      ·exact .inl z
      ·exact(k3.frz b o z).2,k5.ext,k5.len,k5.val,k5.own,k5.dis⟩,s2.trans (a1.trans k5.sub)⟩
    refine p4 _ G4 H4 σ4 _ k4 ⟨λσ5 G5 H5 Δ5 k5 p5=>?_,λv d σ5 G5 H5 Δ5 k5 r5 p5=>?_,λσ5 G5 H5 Δ5 k5 p5=>?_,λσ5 G5 H5 Δ5 k5 p5=>?_,λa od σ5 G5 H5 Δ5 k5 pd5 p5=>?_⟩
    ·exact⟨hlt,G5,Δ5,(cv k5).1,(cv k5).2,p5⟩
    ·exact c.rt v d σ5 G5 H5 Δ5 (cv k5).1 r5 p5
    ·exact c.nx σ5 G5 H5 Δ5 (cv k5).1 p5
    ·exact⟨hlt,G5,Δ5,(cv k5).1,(cv k5).2,p5⟩
    ·exact c.ro a od σ5 G5 H5 Δ5 (cv k5).1 pd5 p5
  ·have e:i=ds.length:=by omega
   subst e;exact .inl ⟨stop,c.nx σ2 G2 H2 Δ2 k2 (he Δ2 h2)⟩
theorem Zjz {c:TT}{tb:TS}{P:Pst}(I:Nat->Evt->Prop) (h0:∃m,I m Δ) (ht:∀m Δ1,I m Δ1->JT K c Δ1 λb Δ2=>if b=true then JS K tb Δ2 ⟨λΔ3=>∃m',m'<m/\I m' Δ3,P.rt,P.nx,λΔ3=>∃m',m'<m/\I m' Δ3,P.ro⟩ else P.nx Δ2) :
  JS K (tWhile c tb) Δ P:=λg G H σ E k q=>by
 obtain⟨m,h0⟩:=h0;refine⟨λm σ H=>∃G Δ,Ok K g G H σ Δ /\ I m Δ,⟨m,G,Δ,k,h0⟩,?_⟩;rintro m σ1 H1 ⟨G1,Δ1,k1,h1⟩;refine ht m Δ1 h1 g G1 H1 σ1 _ k1 λb G2 H2 Δ2 k2 s2 p2=>?_;cases b with
 |true=>
  refine⟨λσ' H'=>∃m',m'<m/\∃G Δ,Ok K g G H' σ' Δ /\ I m' Δ,λσ' H' ⟨m',hm,z⟩=>⟨m',hm,z⟩,?_⟩;refine(show JS K tb Δ2 _ from p2) g G2 H2 σ1 _ k2 ⟨λσ5 G5 H5 Δ5 k5 ⟨m',hm,p5⟩=>⟨m',hm,G5,Δ5,k5,p5⟩,q.rt,q.nx,λσ5 G5 H5 Δ5 k5 ⟨m',hm,p5⟩=>⟨m',hm,G5,Δ5,k5,p5⟩,q.ro⟩
 |false=>exact q.nx σ1 G2 H2 Δ2 k2 p2
end
section
variable {K:W.Frag}{Δ:Evt}{P:D->Evt->Prop}
theorem jr_I {C:Int->Int->Prop}{f:Int->Int->Int}{i j:Int}(hc:C i j) (p:P (.int (f i j)) Δ):JR2 K (rI C λi j=>.int (f i j)) (.int i) (.int j) Δ P:=λg G H σ Q x y k rx ry c=>by
 cases rx.inv;cases ry.inv;exact⟨i,j,rfl,rfl,hc,c _ _ G H Δ k (Same.refl _) (.int _) p⟩
theorem Zpv {f:Int->Int->Int}{i j:Int}(p:P (.int (f i j)) Δ):JR2 K (rI0 λi j=>.int (f i j)) (.int i) (.int j) Δ P:=λg G H σ Q x y k rx ry c=>by
 cases rx.inv;cases ry.inv;exact⟨i,j,rfl,rfl,c _ _ G H Δ k (Same.refl _) (.int _) p⟩
theorem Ziv {f:Int->Int->Bool}{i j:Int}(p:P (.bl (f i j)) Δ):JR2 K (rI0 λi j=>.bl (f i j)) (.int i) (.int j) Δ P:=λg G H σ Q x y k rx ry c=>by
 cases rx.inv;cases ry.inv;exact⟨i,j,rfl,rfl,c _ _ G H Δ k (Same.refl _) (.bl _) p⟩
theorem Zg4 {i j:Int}(p:P (.bl (decide (i=j))) Δ):JR2 K rEq (.int i) (.int j) Δ P:=λg G H σ Q x y k rx ry c=>by
 cases rx.inv;cases ry.inv;refine⟨rfl,?_⟩;have e:decide (V.int i=V.int j)=decide (i=j):=by rw[Zf4];exact(Bool.beq_eq_decide_eq i j)
 rw[e];exact c _ _ G H Δ k (Same.refl _) (.bl _) p
theorem Zp1 {i j:Int}(p:P (.bl (!decide (i=j))) Δ):JR2 K rNe (.int i) (.int j) Δ P:=λg G H σ Q x y k rx ry c=>by
 cases rx.inv;cases ry.inv;refine⟨rfl,?_⟩;have e:decide (V.int i=V.int j)=decide (i=j):=by rw[Zf4];exact(Bool.beq_eq_decide_eq i j)
 rw[e];exact c _ _ G H Δ k (Same.refl _) (.bl _) p
theorem Zo7 {ds:List D}{i:Int}{d:D}(h:atI ds i=some d) (p:P d Δ):JR2 K (rIxT K) (.tup ds) (.int i) Δ P:=λg G H σ Q x y k rx ry c=>by
 obtain⟨_,_,rfl,ha,rs⟩:=rx.inv
 next=>
  cases ry.inv;obtain⟨v,h1,h2⟩:=Zey rs h;exact⟨_,_,i,v,rfl,rfl,SqT.of (k.live _ _ ha),h1,c v d G H Δ k (Same.refl _) h2 p⟩
theorem Zot {ds:List D}{i:Int}{d:D}(h:atI ds i=some d) (p:P d Δ):JR2 K (rIxL K) (.lst ds) (.int i) Δ P:=λg G H σ Q x y k rx ry c=>by
 obtain⟨_,_,rfl,ha,rs⟩:=rx.inv
 next=>
  cases ry.inv;obtain⟨v,h1,h2⟩:=Zey rs h;exact⟨_,_,i,v,rfl,rfl,SqL.of (k.live _ _ ha),h1,c v d G H Δ k (Same.refl _) h2 p⟩
theorem Zhz {n:Nat}{te:TE}{Pp:Pst}{x:Slot}{od:OD}(hx:Δ[n]?=some x) (ho:x.od=some od) (hod:∃ds,od=.lst ds)
  (h:JE K te Δ λd Δ1=>∃y ds,Δ1[n]?=some y/\y.od=some (.lst ds)/\ds.length<sizeLine/\Pp.nx (Δ1.set n (y.put (.lst (ds++[d]))))) :
  JS K (tDrop (tBM K "list" rAppend (tVar n) (tCons te tNil))) Δ Pp:=λg G H σ E k c=>by
 obtain⟨a,o,h1,h2,h3,h4,h5⟩:=k.own n x _ hx ho;obtain⟨ds0,hod⟩:=hod;subst hod;cases o with
 |lst vs0=>
  refine⟨.ref a,h1,.inl ⟨rfl,_,SqL.of h2⟩,h g G H σ _ k λv d G1 H1 Δ1 k1 s1 r1 ⟨y,ds,q1,q2,q3,p⟩=>?_⟩;obtain⟨a',o',w1,w2,w3,w4,w5⟩:=k1.own n y _ q1 q2;rw[h1]at w1;cases w1;cases o' with
  |lst vs=>
   have w3:Reps K G1 vs ds:=w3;exact⟨a,vs,v,rfl,rfl,w2,by rw[w3.length];exact q3,c.nx σ G1 _ _ (k1.write q1 q2 h1 (show OwnRep K G1 (.lst (vs++[v])) (.lst (ds++[d])) from w3.append (.cons r1 .nil))) p⟩
  |_=>exact absurd w3 (λz=>z)
 |_=>exact absurd h3 (λz=>z)
theorem Zo3 {ds es:List D}(he:ds=[.lst es]\/ds=[.tup es]) (p:P (.int es.length) Δ) :
  JC K (λxs H Q=>∃p ys,xs=[.ref p]/\(SqL K H p ys\/SqT K H p ys)/\Q (.int ys.length) H) ds Δ P:=λg G H σ Q vs k rs c=>by
 rcases he with he|he <;> subst he
 ·obtain⟨_,_,rfl,r,t⟩:=rs.inv
  next=>
   cases t.inv;obtain⟨_,_,rfl,ha,rs⟩:=r.inv
   next=>
    refine⟨_,_,rfl,.inl (SqL.of (k.live _ _ ha)),?_⟩;rw[rs.length];exact c _ _ G H Δ k (Same.refl _) (.int _) p
 ·obtain⟨_,_,rfl,r,t⟩:=rs.inv
  next=>
   cases t.inv;obtain⟨_,_,rfl,ha,rs⟩:=r.inv
   next=>
    refine⟨_,_,rfl,.inr (SqT.of (k.live _ _ ha)),?_⟩;rw[rs.length];exact c _ _ G H Δ k (Same.refl _) (.int _) p
theorem Zmd {n:Nat}{x:Slot}{ds:List D}(hx:Δ[n]?=some x) (ho:x.od=some (.lst ds)) (p:P (.int ds.length) Δ) :
  JE K (tCB (λxs H Q=>∃p ys,xs=[.ref p]/\(SqL K H p ys\/SqT K H p ys)/\Q (.int ys.length) H) (tCons (tVar n) tNil)) Δ P:=λg G H σ Q k c=>by
 obtain⟨a,o,h1,h2,h3,h4,h5⟩:=k.own n x _ hx ho;cases o with
 |lst vs=>
  have h3:Reps K G vs ds:=h3;refine⟨.ref a,h1,a,vs,rfl,.inl (SqL.of h2),?_⟩;rw[h3.length];exact c _ _ G H Δ k (Same.refl _) (.int _) p
 |_=>exact absurd h3 (λz=>z)
theorem Zof {i:Int}(p:P (.int (if i<0 then -i else i)) Δ):JC K (λxs H Q=>∃i,xs=[.int i]/\Q (.int (if i<0 then -i else i)) H) [.int i] Δ P:=λg G H σ Q vs k rs c=>by
 obtain⟨_,_,rfl,r,t⟩:=rs.inv
 next=>cases t.inv;cases r.inv;exact⟨i,rfl,c _ _ G H Δ k (Same.refl _) (.int _) p⟩
theorem Zk1 {f:Int->Int->Int}{i j:Int}(p:P (.int (f i j)) Δ):JC K (λxs H Q=>∃i j,xs=[.int i,.int j]/\Q (.int (f i j)) H) [.int i,.int j] Δ P:=λg G H σ Q vs k rs c=>by
 obtain⟨_,_,rfl,r,t⟩:=rs.inv
 next=>
  obtain⟨_,_,rfl,r',t⟩:=t.inv
  next=>cases t.inv;cases r.inv;cases r'.inv;exact⟨i,j,rfl,c _ _ G H Δ k (Same.refl _) (.int _) p⟩
theorem Zkp {ds es:List D}(he:ds=[.lst es]\/ds=[.tup es]) (p:P (.tup es) Δ) :
  JC K (λxs H Q=>∃p ys,xs=[.ref p]/\((SqL K H p ys/\∀l,H l=none->Q (.ref l) (upd H l (.tup ys)))\/(SqT K H p ys/\Q (.ref p) H))) ds Δ P:=λg G H σ Q vs k rs c=>by
 rcases he with he|he <;> subst he
 ·obtain⟨_,_,rfl,r,t⟩:=rs.inv
  next=>
   cases t.inv;obtain⟨_,_,rfl,ha,rs⟩:=r.inv
   next=>
    refine⟨_,_,rfl,.inl ⟨SqL.of (k.live _ _ ha),λl hl=>?_⟩⟩;obtain⟨k2,sg⟩:=k.laid hl (.tup _);exact c _ _ _ _ Δ k2 sg (.tup Zai (rs.mono sg)) p
 ·obtain⟨_,_,rfl,r,t⟩:=rs.inv
  next=>
   cases t.inv;obtain⟨_,_,rfl,ha,rs⟩:=r.inv
   next=>exact⟨_,_,rfl,.inr ⟨SqT.of (k.live _ _ ha),c _ _ G H Δ k (Same.refl _) (.tup ha rs) p⟩⟩
def glue (F H H':Hp):Hp:=λb=>match H b with
 |none=>H' b
 |some _=>F b
theorem Zbf {F H H':Hp}{b:Addr}(h:H b=none):glue F H H' b=H' b:=by unfold glue;rw[h]
theorem Za5 {F H H':Hp}{b:Addr}{o:HO}(h:H b=some o):glue F H H' b=F b:=by unfold glue;rw[h]
theorem Zcl {G H H':Hp}(l:Same G H):Same G (glue G H H'):=λb o e=>by rw[Za5 (l b o e)];exact e
theorem Zct {G H H':Hp}(l:Same G H) (sh:∀b o,G b=some o->H b=some o->H' b=some o):∀b o,glue G H H' b=some o->H' b=some o/\(G b=some o\/H b=none):=λb o e=>by
 cases q:H b with
 |none=>rw[Zbf q]at e;exact⟨e,.inr rfl⟩
 |some u=>rw[Za5 q]at e;exact⟨sh b o e (l b o e),.inl e⟩
abbrev DSp:=List D->(D->Prop)->Prop
def spD (K:W.Frag) (f:DSp):Sp:=λvs H Q _=>∃F ds Post,Same F H/\Reps K F vs ds/\f ds Post/\∀r H' d,Same H H' -> Rep K (glue F H H') r d->Post d->Q r H'
theorem Zaw {f:DSp}{ta:TA}{E:XK}(h:JA K ta Δ λds Δ1=>f ds λd=>P d Δ1):JE K (tCall (spD K f) [] E ta) Δ P:=λg G H σ Q k c=>
 h g G H σ _ k λvs ds G1 H1 Δ1 k1 s1 r1 p1=>by
  show spD K f (vs++[]) H1 Q E;rw[Wbc];refine⟨G1,ds,_,k1.live,r1,p1,λr H' d sh rr pd=>?_⟩;have sg:=Zcl (H':=H') k1.live;exact c r d _ H' Δ1 (k1.grow sg sh (Zct k1.live λb o _ e=>sh b o e)) (s1.trans sg) rr pd
abbrev BSp:=List D->List D->(D->List D->Prop)->Prop
def spB (K:W.Frag) (f:BSp):Sp:=λvs H Q _=>∃F a us ws ps ds Post,vs=.ref a::ws/\Same F H/\F a=none/\H a=some (.lst us)/\Reps K F us ps/\Reps K F ws ds/\f ps ds Post ∧
 ∀r H' us' ps' d,(∀b o,b≠a->H b=some o->H' b=some o)->H' a=some (.lst us')->Reps K (glue F H H') us' ps' -> Rep K (glue F H H') r d->Post d ps' -> Q r H'
theorem Ok.lend {g:Gm}{G H H':Hp}{σ:St}(k:Ok K g G H σ Δ) {i:Nat}{x:Slot}{ps ps':List D}{us':List V}{a:Addr}(hx:Δ[i]?=some x) (ho:x.od=some (.lst ps)) (ha:σ[i]?=some (some (.ref a)))
  (sh:∀b o,b≠a->H b=some o->H' b=some o) (hn:H' a=some (.lst us')) (r:Reps K (glue G H H') us' ps'):Ok K g (glue G H H') H' σ (Δ.set i (x.put (.lst ps')))/\Same G (glue G H H'):=by
 obtain⟨a',o,h1,h2,h3,h4,h5⟩:=k.own i x _ hx ho;rw[ha]at h1;cases h1;have sg:=Zcl (H':=H') k.live;have k2:Ok K g (glue G H H') (upd H' a o) σ Δ:=by
  refine k.grow sg (λb u e=>?_) λb u e=>?_
  ·by_cases hb:b=a
   ·subst hb;rw[Zai,<- h2];exact e
   ·rw[Zag hb];exact sh b u hb e
  ·have hb:b≠a:=by intro z;subst z;rw[Za5 h2,h4]at e;cases e
   rw[Zag hb];exact Zct k.live (λc w e1 e2=>sh c w (λz=>by subst z;rw[h4]at e1;cases e1) e2) b u e
 have k3:=k2.write hx ho ha (show OwnRep K (glue G H H') (.lst us') (.lst ps') from r);rw[Zht]at k3;have e:upd H' a (.lst us')=H':=by
  funext b
  by_cases hb:b=a
  ·subst hb;rw[Zai,hn]
  ·rw[Zag hb]
 rw[e]at k3;exact⟨k3,sg⟩
theorem Zi3 {f:BSp}{ta:TA}{E:XK}{i:Nat}{x:Slot}{od:OD}(hx:Δ[i]?=some x) (ho:x.od=some od) (h:JA K ta Δ λds Δ1=>∃y ps,Δ1[i]?=some y/\y.od=some (.lst ps)/\f ps ds λd ps'=>P d (Δ1.set i (y.put (.lst ps')))) :
  JE K (tCall (spB K f) [] E (tCons (tVar i) ta)) Δ P:=λg G H σ Q k c=>by
 obtain⟨a,o,h1,h2,h3,h4,h5⟩:=k.own i x _ hx ho;refine⟨.ref a,h1,h g G H σ _ k λvs ds G1 H1 Δ1 k1 s1 r1 ⟨y,ps,q1,q2,p1⟩=>?_⟩;show spB K f ((.ref a::vs)++[]) H1 Q E;rw[Wbc];obtain⟨a',o',w1,w2,w3,w4,w5⟩:=k1.own i y _ q1 q2;rw[h1]at w1;cases w1;cases o' with
 |lst us=>
  refine⟨G1,a,us,vs,ps,ds,_,rfl,k1.live,w4,w2,w3,r1,p1,λr H' us' ps' d sh hn rr rd pd=>?_⟩;obtain⟨k2,sg⟩:=k1.lend q1 q2 h1 sh hn rr;exact c r d _ H' _ k2 (s1.trans sg) rd pd
 |_=>exact absurd w3 (λz=>z)
abbrev NSp:=List D->(List D->Prop)->Prop
def spN (K:W.Frag) (f:NSp):Sp:=λvs H Q _=>∃F ds Post,Same F H/\Reps K F vs ds/\f ds Post ∧
 ∀a H' us ps,Same H H' -> H a=none->H' a=some (.lst us)->Reps K (λb=>if b=a then none else glue F H H' b) us ps->Post ps->Q (.ref a) H'
theorem Ze1 {f:NSp}{ta:TA}{E:XK}{Po:OD->Evt->Prop}(h:JA K ta Δ λds Δ1=>f ds λps=>Po (.lst ps) Δ1):JO K (tCall (spN K f) [] E ta) Δ Po:=λg G H σ Q k c=>
 h g G H σ _ k λvs ds G1 H1 Δ1 k1 s1 r1 p1=>by
  show spN K f (vs++[]) H1 Q E;rw[Wbc];refine⟨G1,ds,_,k1.live,r1,p1,λa H' us ps sh ha hn rr pd=>?_⟩;have sg:Same G1 (λb=>if b=a then none else glue G1 H1 H' b):=λb o e=>by
   have hb:b≠a:=by intro z;subst z;rw[k1.live _ _ e]at ha;cases ha
   try dsimp only
   rw[if_neg hb];exact Zcl k1.live b o e
  have k2:Ok K g (λb=>if b=a then none else glue G1 H1 H' b) H' σ Δ1:=k1.grow sg sh λb o e=>by
   try dsimp only at e
   by_cases hb:b=a
   ·rw[if_pos hb]at e;cases e
   ·rw[if_neg hb]at e;exact Zct k1.live (λb o _ e=>sh b o e) b o e
  refine c a _ _ H' Δ1 k2 (s1.trans sg) ⟨.lst us,hn,(show OwnRep K _ (.lst us) (.lst ps) from rr),by simp,k1.there ha,?_,λj x od' e1 e2 e3=>?_⟩ pd
  ·cases q:g.Xo a with
   |none=>rfl
   |some u=>have z:=(k1.ext a u q).1;rw[ha]at z;cases z
  ·obtain⟨b,oo,w1,w2,_⟩:=k1.own j x od' e1 e2
   rw[e3]at w1;cases w1;rw[ha]at w2;cases w2
end
def startD (N:List Str) (ds:List D):Evt:=ds.map .val++Wao (N.length-ds.length) .any
section
variable {K:W.Frag}
theorem Zbt {g:Gm}{G H:Hp}{N:List Str}{vs:List V}{ds:List D}(rs:Reps K G vs ds) (hl:ds.length<=N.length) (same:∀b o,¬ g.B b->g.Hz b=some o->H b=some o) (lent:∀b,g.B b->H b≠none) (sub:Same g.F G)
  (frz:∀b o,G b=some o->H b=some o/\(g.Hz b=none\/g.F b=some o)) (ext:∀b,g.Xo b=none):Ok K g G H (start N vs) (startD N ds):=by
 have noOd:∀(i:Nat) x od,(startD N ds)[i]?=some x->x.od=some od->False:=λi x od e1 e2=>by
  have hm:=Wa4 e1;rcases Wbb.mp hm with z|z
  ·obtain⟨d,_,rfl⟩:=Wbt.mp z;cases e2
  ·rw[Wcs]at z;rw[z.2]at e2;cases e2
 refine⟨same,lent,sub,frz,λb o e=>(by rw[ext b]at e;cases e),?_,λi d e=>?_,λi x od e1 e2=>(noOd i x od e1 e2).elim,λi j x y od od' a e1 e2=>(noOd i x od e1 e2).elim⟩
 ·unfold start startD
  rw[Wan,Wan,Wag,Wag,Wau,Wau,rs.length]
 ·unfold startD at e
  unfold start;by_cases hi:i<ds.length
  ·rw[Wa3 (by simpa using hi),Wal]at e
   cases q:ds[i]? with
   |none=>rw[q]at e;cases e
   |some d'=>
    rw[q]at e;have e:Slot.val d'=Slot.val d:=by simpa using e
    cases e;obtain⟨v,h1,h2⟩:=rs.get q;refine⟨v,?_,h2⟩;rw[Wa3 (by rw[Wag,rs.length];exact hi),Wal,h1];rfl
  ·rw[Wap (by simpa using hi),Wbf]at e
   split at e <;> cases e
theorem Zdz {f:DSp}{t:TS}{N:List Str}{vs:List V}{H:Hp}{Q:VK}{E:XK}(ht:∀ds Post,f ds Post->ds.length<=N.length/\JS K t (startD N ds) ⟨λ_=>Post .non,λd _=>Post d,λ_=>False,λ_=>False,λ_ _=>False⟩) (h:spD K f vs H Q E) :
  t { nx:=λ_ H'=>Q .non H',rt:=Q } (start N vs) H:=by
 obtain⟨F,ds,Post,l,rs,hf,q⟩:=h;obtain⟨hl,hj⟩:=ht ds Post hf;have fin:∀{v:V}{d:D}{σ:St}{G H':Hp}{Δ:Evt},Ok K ⟨λ_=>False,F,H,λ_=>none⟩ G H' σ Δ -> Rep K G v d->Post d->Q v H':=λ{v d σ G H' Δ} k r p=>by
  refine q v H' d (λb o e=>k.same b o (λz=>z) e) (r.mono λb o e=>?_) p;obtain⟨e1,e2⟩:=k.frz b o e;rcases e2 with z|z
  ·rw[Zbf z];exact e1
  ·rw[Za5 (l b o z)];exact z
 refine hj ⟨λ_=>False,F,H,λ_=>none⟩ F H (start N vs) _ (Zbt rs hl (λ_ _ _ e=>e) (λ_ z=>z.elim) (Same.refl _) (λb o e=>⟨l b o e,.inr e⟩) λ_=>rfl) ⟨λσ G H' Δ k p=>fin k .non p,λv d σ G H' Δ k r p=>fin k r p,λ_ _ _ _ _ z=>z.elim,λ_ _ _ _ _ z=>z.elim,λ_ _ _ _ _ _ _ _ z=>z.elim⟩
theorem Zol {f:NSp}{t:TS}{N:List Str}{vs:List V}{H:Hp}{Q:VK}{E:XK}(ht:∀ds Post,f ds Post->ds.length<=N.length/\JS K t (startD N ds) ⟨λ_=>False,λ_ _=>False,λ_=>False,λ_=>False,λod _=>∃ps,od=.lst ps/\Post ps⟩) (h:spN K f vs H Q E) :
  t { nx:=λ_ H'=>Q .non H',rt:=Q } (start N vs) H:=by
 obtain⟨F,ds,Post,l,rs,hf,q⟩:=h;obtain⟨hl,hj⟩:=ht ds Post hf;refine hj ⟨λ_=>False,F,H,λ_=>none⟩ F H (start N vs) _ (Zbt rs hl (λ_ _ _ e=>e) (λ_ z=>z.elim) (Same.refl _) (λb o e=>⟨l b o e,.inr e⟩) λ_=>rfl) ⟨λ_ _ _ _ _ z=>z.elim,λ_ _ _ _ _ _ _ _ z=>z.elim,λ_ _ _ _ _ z=>z.elim,λ_ _ _ _ _ z=>z.elim,λa od σ G H' Δ k pd ⟨ps,e,p⟩=>?_⟩;subst e;obtain⟨o,h1,h2,h3,h4,h5,h6⟩:=pd;cases o with
 |lst us=>
  refine q a H' us ps (λb o e=>k.same b o (λz=>z) e) h4 h1 (Reps.mono (λb o e=>?_) (show Reps K G us ps from h2)) p;have hb:b≠a:=by intro z;subst z;rw[h3]at e;cases e
  try dsimp only
  rw[if_neg hb];obtain⟨e1,e2⟩:=k.frz b o e;rcases e2 with z|z
  ·rw[Zbf z];exact e1
  ·rw[Za5 (l b o z)];exact z
 |_=>exact absurd h2 (λz=>z)
theorem Zn8 {f:BSp}{t:TS}{N:List Str}{vs:List V}{H:Hp}{Q:VK}{E:XK}(ht:∀ps ds Post,f ps ds Post->ds.length+1<=N.length/\JS K t (.bor (.lst ps)::startD N.tail ds) ⟨λΔ=>∃ps',Δ[0]?=some (.bor (.lst ps'))/\Post .non ps',λd Δ=>∃ps',Δ[0]?=some (.bor (.lst ps'))/\Post d ps',λ_=>False,λ_=>False,λ_ _=>False⟩) (h:spB K f vs H Q E) :
  t { nx:=λ_ H'=>Q .non H',rt:=Q } (start N vs) H:=by
 obtain⟨F,a,us,ws,ps,ds,Post,rfl,l,fa,ha,ru,rs,hf,q⟩:=h;obtain⟨hl,hj⟩:=ht ps ds Post hf;have fin:∀{v:V}{d:D}{σ:St}{G H':Hp}{Δ:Evt}{ps':List D},Ok K ⟨λb=>b=a,F,H,λ_=>none⟩ G H' σ Δ -> Δ[0]?=some (.bor (.lst ps'))->Rep K G v d->Post d ps' -> Q v H':=λ{v d σ G H' Δ ps'} k e0 r p=>by
  obtain⟨a',o,h1,h2,h3,h4,h5⟩:=k.own 0 _ _ e0 rfl;have ea:a'=a:=h5;subst ea;cases o with
  |lst us'=>
   have up:Same G (glue F H H'):=λb o e=>by
    obtain⟨e1,e2⟩:=k.frz b o e;rcases e2 with z|z
    ·rw[Zbf z];exact e1
    ·rw[Za5 (l b o z)];exact z
   exact q v H' us' ps' d (λb o hb e=>k.same b o hb e) h2 (Reps.mono up (show Reps K G us' ps' from h3)) (r.mono up) p
  |_=>exact absurd h3 (λz=>z)
 cases N with
 |nil=>simp at hl
 |cons n0 N=>
  have hl':ds.length<=N.length:=by simpa using hl
  have k0:=Zbt (K:=K) (H:=H) (g:=⟨λb=>b=a,F,H,λ_=>none⟩) (N:=N) rs hl' (λ_ _ _ e=>e) (λb z=>by subst z;rw[ha];intro w;cases w) (Same.refl _) (λb o e=>⟨l b o e,.inr e⟩) λ_=>rfl;have e1:start (n0::N) (.ref a::ws)=some (.ref a)::start N ws:=by
   unfold start;rw[Wa8,Way,Way,Nat.add_sub_add_right];rfl
  rw[e1];have noOd:∀(i:Nat) x od,(startD N ds)[i]?=some x->x.od=some od->False:=λi x od e1 e2=>by
   have hm:=Wa4 e1;rcases Wbb.mp hm with z|z
   ·obtain⟨d,_,rfl⟩:=Wbt.mp z;cases e2
   ·rw[Wcs]at z;rw[z.2]at e2;cases e2
  have k1:Ok K ⟨λb=>b=a,F,H,λ_=>none⟩ F H (some (.ref a)::start N ws) (.bor (.lst ps)::startD N ds):=by
   refine⟨k0.same,k0.lent,k0.sub,k0.frz,λb o e=>(by cases e),(by rw[Way,Way,k0.len]),λi d e=>?_,λi x od e1 e2=>?_,λi j x y od od' c e1 e2 e3 e4 _ _=>?_⟩
   ·cases i with
    |zero=>cases e
    |succ i=>exact k0.val i d e
   ·cases i with
    |zero=>cases e1;cases e2;exact⟨a,.lst us,rfl,ha,ru,fa,rfl⟩
    |succ i=>exact(noOd i x od e1 e2).elim
   ·cases i with
    |zero=>cases j with
     |zero=>rfl
     |succ j=>exact(noOd j y od' e3 e4).elim
    |succ i=>exact(noOd i x od e1 e2).elim
  exact hj _ F H _ _ k1 ⟨λσ G H' Δ k ⟨ps',e,p⟩=>fin k e .non p,λv d σ G H' Δ k r ⟨ps',e,p⟩=>fin k e r p,λ_ _ _ _ _ z=>z.elim,λ_ _ _ _ _ z=>z.elim,λ_ _ _ _ _ _ _ _ z=>z.elim⟩
theorem Zbp {f:DSp}{n:Nat}(h:∀ds Post,f ds Post->ds.length=n):∀vs H Q E,spD K f vs H Q E->vs.length=n:=λvs H Q E hq_=>by obtain⟨F,ds,Post,l,rs,hf,q⟩:=hq_;rw[rs.length];exact h ds Post hf
theorem Zik {f:NSp}{n:Nat}(h:∀ds Post,f ds Post->ds.length=n):∀vs H Q E,spN K f vs H Q E->vs.length=n:=λvs H Q E hq_=>by obtain⟨F,ds,Post,l,rs,hf,q⟩:=hq_;rw[rs.length];exact h ds Post hf
theorem Zid {f:BSp}{n:Nat}(h:∀ps ds Post,f ps ds Post->ds.length+1=n):∀vs H Q E,spB K f vs H Q E->vs.length=n:=λvs H Q E hq_=>by obtain⟨F,a,us,ws,ps,ds,Post,e,l,fa,ha,ru,rs,hf,q⟩:=hq_;rw[e,Way,rs.length];exact h ps ds Post hf
end
def JGn (K:W.Frag) (n:Nat) (t:TG) (d:D) (Δ:Evt) (P:Evt->Prop):Prop:=
 ∀g G H σ v (R:St->Hp->Prop),Ok K g G H σ Δ -> Rep K G v d->(∀σ' G' H' Δ',Ok K g G' H' σ' Δ' -> Same G G' -> (∀j,n<=j -> σ'[j]? = σ[j]?)->P Δ' -> R σ' H')->t v σ H R
def JGsn (K:W.Frag) (n:Nat) (t:TGs) (ds:List D) (Δ:Evt) (P:Evt->Prop):Prop:=
 ∀g G H σ vs (R:St->Hp->Prop),Ok K g G H σ Δ -> Reps K G vs ds->(∀σ' G' H' Δ',Ok K g G' H' σ' Δ' -> Same G G' -> (∀j,n<=j -> σ'[j]? = σ[j]?)->P Δ' -> R σ' H')->t vs σ H R
section
variable {K:W.Frag}{Δ:Evt}
theorem Zkr {n:Nat}{P:Evt->Prop}(p:P Δ):JGsn K n gNil [] Δ P:=λg G H σ vs R k r c=>by cases r;exact⟨rfl,c σ G H Δ k (Same.refl _) (λ_ _=>rfl) p⟩
theorem Zfo {n:Nat}{t:TG}{u:TGs}{d:D}{ds:List D}{P:Evt->Prop}(h:JGn K n t d Δ λΔ1=>JGsn K n u ds Δ1 P):JGsn K n (gCons t u) (d::ds) Δ P:=λg G H σ vs R k r c=>by
 obtain⟨_,_,rfl,r1,rr⟩:=r.inv
 next=>exact⟨_,_,rfl,h g G H σ _ _ k r1 λσ1 G1 H1 Δ1 k1 s1 e1 p1=>p1 g G1 H1 σ1 _ R k1 (rr.mono s1) λσ2 G2 H2 Δ2 k2 s2 e2 p2=>c σ2 G2 H2 Δ2 k2 (s1.trans s2) (λj hj=>(e2 j hj).trans (e1 j hj)) p2⟩
theorem Zme {n m:Nat}{t:TGs}{ds:List D}{P:Evt->Prop}(hl:ds.length=m) (h:JGsn K n t ds Δ P):JGn K n (gTup K m t) (.tup ds) Δ P:=λg G H σ v R k r c=>by
 obtain⟨_,_,rfl,ha,rs⟩:=r.inv
 next=>exact⟨_,_,rfl,SqT.of (k.live _ _ ha),by rw[rs.length];exact hl,h g G H σ _ R k rs c⟩
end
def compD (n:Nat) (sel:List Nat) (Δ:Evt):Evt:=Wao n .any++sel.map λi=>(Δ[i]?).getD .any
def backAt (n:Nat) (sel:List Nat) (Δi:Evt) (i:Nat) (x:Slot):Slot:=match x with
 |.val d=>.val d
 |.any=>.any
 |x=>match sel.idxOf? i with
  |none=>x
  |some j=>match Δi[n+j]? with
   |some (.own o)=>.own o
   |some (.bor o)=>.bor o
   |some (.ownA a o)=>.ownA a o
   |_=>.any
def backD (n:Nat) (sel:List Nat) (Δi:Evt):Nat->Evt->Evt
 |_,[]=>[]
 |i,x::r=>backAt n sel Δi i x::backD n sel Δi (i+1) r
theorem Zbq (n:Nat) (sel:List Nat) (Δi:Evt):∀(Δ:Evt) (k i:Nat),(backD n sel Δi k Δ)[i]?=(Δ[i]?).map (backAt n sel Δi (k+i))
 |[],k,i=>by simp[backD]
 |x::r,k,0=>by simp[backD]
 |x::r,k,i+1=>by
  have:=Zbq n sel Δi r (k+1) i;simp only[backD,List.getElem?_cons_succ];rw[this,show k+1+i=k+(i+1) by omega]
theorem Zfq (n:Nat) (sel:List Nat) (Δi:Evt):∀(Δ:Evt) (k:Nat),(backD n sel Δi k Δ).length = Δ.length
 |[],k=>rfl
 |x::r,k=>by simp[backD,Zfq n sel Δi r (k+1)]
theorem Zcp {sel:List Nat}{i j:Nat}(h:sel.idxOf? i=some j):sel[j]?=some i:=by
 have h2:=List.idxOf?_eq_some_iff.mp h;obtain⟨hj,e,_⟩:=h2;rw[Wab hj,e]
theorem Zh8 {n:Nat}{sel:List Nat}{Δi:Evt}{i:Nat}{x y:Slot}{od:OD}(h:backAt n sel Δi i x=y) (ho:y.od=some od) :
  (x=y/\sel.idxOf? i=none)\/∃j,sel[j]?=some i /\ Δi[n+j]?=some y/\∃od',x.od=some od':=by
 unfold backAt at h;cases x with
 |any=>subst h;cases ho
 |val d=>subst h;cases ho
 |own o=>
  dsimp only at h;cases q:sel.idxOf? i with
  |none=>rw[q]at h;exact .inl ⟨h,rfl⟩
  |some j=>
   rw[q]at h;dsimp only at h;refine .inr ⟨j,Zcp q,?_,o,rfl⟩;cases e:Δi[n+j]? with
   |none=>rw[e]at h;subst h;cases ho
   |some z=>rw[e]at h;cases z <;> (subst h;first|rfl|cases ho)
 |ownA a o=>
  dsimp only at h;cases q:sel.idxOf? i with
  |none=>rw[q]at h;exact .inl ⟨h,rfl⟩
  |some j=>
   rw[q]at h;dsimp only at h;refine .inr ⟨j,Zcp q,?_,o,rfl⟩;cases e:Δi[n+j]? with
   |none=>rw[e]at h;subst h;cases ho
   |some z=>rw[e]at h;cases z <;> (subst h;first|rfl|cases ho)
 |bor o=>
  dsimp only at h;cases q:sel.idxOf? i with
  |none=>rw[q]at h;exact .inl ⟨h,rfl⟩
  |some j=>
   rw[q]at h;dsimp only at h;refine .inr ⟨j,Zcp q,?_,o,rfl⟩;cases e:Δi[n+j]? with
   |none=>rw[e]at h;subst h;cases ho
   |some z=>rw[e]at h;cases z <;> (subst h;first|rfl|cases ho)
section
variable {K:W.Frag}{Δ:Evt}
open Classical in
noncomputable def aside (g:Gm) (sel:List Nat) (σ:St) (Δ:Evt) (H:Hp) (acc:Addr) (ys:List V):Hp:=λb=>
 if b=acc then some (.lst ys) else if ∃(i:Nat) (x:Slot) (od:OD),Δ[i]?=some x/\x.od=some od/\i ∉ sel /\ σ[i]?=some (some (.ref b)) then H b else g.Xo b
theorem Zb2 {n:Nat}{sel:List Nat}{σ:St}{j i:Nat}(h:sel[j]?=some i):(compSt n sel σ)[n+j]?=some ((σ[i]?).getD none):=by
 unfold compSt;rw[Wap (by rw[Wau];omega),Wau,Nat.add_sub_cancel_left,Wal,h];rfl
theorem Zbk {n:Nat}{sel:List Nat}{Δ:Evt}{k:Nat}{x:Slot}(h:(compD n sel Δ)[k]?=some x):x=.any\/∃j i,k=n+j/\sel[j]?=some i /\ Δ[i]?=some x:=by
 unfold compD at h;by_cases hk:k<n
 ·rw[Wa3 (by simpa using hk),Wbf,if_pos hk]at h
  exact .inl (War.inj h).symm
 ·rw[Wap (by simpa using hk),Wau,Wal]at h
  cases e:sel[k-n]? with
  |none=>rw[e]at h;cases h
  |some i=>
   rw[e]at h;have h:(Δ[i]?).getD .any=x:=by simpa using h
   cases q:Δ[i]? with
   |none=>rw[q]at h;exact .inl h.symm
   |some y=>rw[q]at h;cases h;exact .inr ⟨k-n,i,by omega,e,q⟩
theorem Zg5 {g:Gm}{G1 H1:Hp}{σ:St}{Δ1:Evt}{n:Nat}{sel:List Nat}{acc:Addr}{X0:Hp}(hsel:sel.Nodup) (k1:Ok K g G1 H1 σ Δ1) (hacc:H1 acc=none)
  (hX:∀b o,X0 b=some o->(b=acc/\o=.lst [])\/(b≠acc/\(((∃(i:Nat) (x:Slot) (od:OD),Δ1[i]?=some x/\x.od=some od/\i ∉ sel /\ σ[i]?=some (some (.ref b)))/\H1 b=some o)\/g.Xo b=some o))):Ok K ⟨g.B,G1,g.Hz,X0⟩ G1 (upd H1 acc (.lst [])) (compSt n sel σ) (compD n sel Δ1):=by
 have hsl:∀{j j' i:Nat},sel[j]?=some i->sel[j']?=some i->j=j':=λ{j j' i} a b=>by
  obtain⟨h1,e1⟩:=Wai.mp a;obtain⟨h2,e2⟩:=Wai.mp b;exact(List.getElem_inj hsel).mp (e1.trans e2.symm)
 have hGa:G1 acc=none:=by
  cases e:G1 acc with
  |none=>rfl
  |some u=>rw[k1.live _ _ e]at hacc;cases hacc
 have cs:∀{j i:Nat}{a:Addr},sel[j]?=some i->(compSt n sel σ)[n+j]?=some (some (.ref a)) -> σ[i]?=some (some (.ref a)):=λ{j i a} ej e3=>by
  rw[Zb2 ej]at e3;cases q:σ[i]? with
  |none=>rw[q]at e3;cases e3
  |some w=>rw[q]at e3;cases e3;rfl
 have oldH:∀b o,H1 b=some o->(upd H1 acc (.lst [])) b=some o:=λb o e=>by rw[Zag (Zak e hacc)];exact e
 refine⟨λb o hb e=>oldH b o (k1.same b o hb e),λb hb z=>?_,Same.refl _,λb o e=>⟨oldH b o (k1.live b o e),.inr e⟩,λb o e=>?_,?_,λi d e=>?_,λi x od e1 e2=>?_,λi j x y od od' a e1 e2 e3 e4 e5 e6=>?_⟩
 ·cases q:H1 b with
  |none=>exact k1.lent b hb q
  |some u=>rw[oldH b u q]at z;cases z
 ·rcases hX b o e with ⟨rfl,rfl⟩|⟨hb,⟨⟨i0,x0,od0,f1,f2,f3,f4⟩,e⟩|e⟩
  ·refine⟨Zai,hGa,λi x od e1 e2 e3=>?_⟩
   rcases Zbk e1 with z|⟨j,i',ei,ej,z⟩
   ·subst z;cases e2
   ·subst ei
    obtain⟨a,o,w1,w2,_⟩:=k1.own i' x od z e2;rw[cs ej e3]at w1;cases w1;rw[hacc]at w2;cases w2
  ·obtain⟨a,oo,w1,w2,w3,w4,w5⟩:=k1.own i0 x0 od0 f1 f2
   rw[f4]at w1;cases w1;refine⟨oldH b o e,w4,λi x od e1 e2 e3=>?_⟩;rcases Zbk e1 with z|⟨j,i',ei,ej,z⟩
   ·subst z;cases e2
   ·subst ei
    have:=k1.dis i0 i' x0 x od0 od b f1 f2 z e2 f4 (cs ej e3);subst this;exact f3 (Wa4 ej)
  ·obtain⟨w1,w2,w3⟩:=k1.ext b o e
   refine⟨oldH b o w1,w2,λi x od e1 e2 e3=>?_⟩;rcases Zbk e1 with z|⟨j,i',ei,ej,z⟩
   ·subst z;cases e2
   ·subst ei;exact w3 i' x od z e2 (cs ej e3)
 ·unfold compD compSt
  simp
 ·rcases Zbk e with z|⟨j,i',ei,ej,z⟩
  ·cases z
  ·subst ei
   obtain⟨v,w1,w2⟩:=k1.val i' d z;exact⟨v,by rw[Zb2 ej,w1];rfl,w2⟩
 ·rcases Zbk e1 with z|⟨j,i',ei,ej,z⟩
  ·subst z;cases e2
  ·subst ei
   obtain⟨a,o,w1,w2,w3,w4,w5⟩:=k1.own i' x od z e2;exact⟨a,o,by rw[Zb2 ej,w1];rfl,oldH a o w2,w3,w4,w5⟩
 ·rcases Zbk e1 with z|⟨j1,i1,ei,ej,z⟩
  ·subst z;cases e2
  ·rcases Zbk e3 with z'|⟨j2,i2,ei',ej',z'⟩
   ·subst z';cases e4
   ·subst ei;subst ei'
    have:=k1.dis i1 i2 x y od od' a z e2 z' e4 (cs ej e5) (cs ej' e6);subst this;rw[hsl ej ej']
theorem Zgg {σ σ2:St}{Δ1 Δ2:Evt}{n:Nat}{sel:List Nat}(hσ:∀j,n<=j -> σ2[j]?=(compSt n sel σ)[j]?) (i:Nat) (y:Slot) (od:OD) (e1:(backD n sel Δ2 0 Δ1)[i]?=some y) (e2:y.od=some od) :
  ∃x od',Δ1[i]?=some x/\x.od=some od' /\ ((x=y/\i ∉ sel)\/∃j,sel[j]?=some i /\ Δ2[n+j]?=some y /\ σ2[n+j]?=some ((σ[i]?).getD none)):=by
 rw[Zbq]at e1;cases q:Δ1[i]? with
 |none=>rw[q]at e1;cases e1
 |some x=>
  rw[q]at e1;have e1:backAt n sel Δ2 i x=y:=by simpa using e1
  rcases Zh8 e1 e2 with ⟨z1,z2⟩|⟨j,z1,z2,od',z3⟩
  ·refine⟨x,od,rfl,by rw[z1];exact e2,.inl ⟨z1,λhm=>?_⟩⟩
   rw[List.idxOf?_eq_none_iff]at z2;exact z2 hm
  ·exact⟨x,od',rfl,z3,.inr ⟨j,z1,z2,by rw[hσ (n+j) (by omega)];exact Zb2 z1⟩⟩
theorem Zf1 {g:Gm}{G1 H1 G2 H2 Xv:Hp}{σ σ2:St}{Δ1 Δ2:Evt}{n:Nat}{sel:List Nat}{acc:Addr}(k1:Ok K g G1 H1 σ Δ1) (hacc:H1 acc=none) (k2:Ok K ⟨g.B,G1,g.Hz,Xv⟩ G2 H2 σ2 Δ2) (hσ:∀j,n<=j -> σ2[j]?=(compSt n sel σ)[j]?)
  (hX:∀b o,b≠acc->(∃(i:Nat) (x:Slot) (od:OD),Δ1[i]?=some x/\x.od=some od/\i ∉ sel /\ σ[i]?=some (some (.ref b)))->H1 b=some o->Xv b=some o) (hY:∀b o,b≠acc->¬ (∃(i:Nat) (x:Slot) (od:OD),Δ1[i]?=some x/\x.od=some od/\i ∉ sel /\ σ[i]?=some (some (.ref b)))->g.Xo b=some o->Xv b=some o):Ok K g G2 H2 σ (backD n sel Δ2 0 Δ1):=by
 have s2:Same G1 G2:=k2.sub;have src:=Zgg (Δ1:=Δ1) (Δ2:=Δ2) hσ;refine⟨k2.same,k2.lent,k1.sub.trans s2,λb o e=>?_,λb o e=>?_,by rw[Zfq,k1.len],λi d e=>?_,λi y od e1 e2=>?_,λi j x y od od' a e1 e2 e3 e4 e5 e6=>?_⟩
 ·obtain⟨q1,q2⟩:=k2.frz b o e
  refine⟨q1,?_⟩;rcases q2 with z|z
  ·exact .inl z
  ·exact(k1.frz b o z).2
 ·obtain⟨w1,w2,w3⟩:=k1.ext b o e
  have hne:b≠acc:=by intro z;subst z;rw[hacc]at w1;cases w1
  obtain⟨u1,u2,u3⟩:=k2.ext b o (hY b o hne (λ⟨i,x,od,f1,f2,f3,f4⟩=>w3 i x od f1 f2 f4) e);refine⟨u1,u2,λi y od e1 e2 e3=>?_⟩;obtain⟨x,od',f1,f2,_⟩:=src i y od e1 e2;exact w3 i x od' f1 f2 e3
 ·rw[Zbq]at e
  cases q:Δ1[i]? with
  |none=>rw[q]at e;cases e
  |some x=>
   rw[q]at e;have e:backAt n sel Δ2 (0+i) x=.val d:=by simpa using e
   have ex:x=.val d:=by
    unfold backAt at e;cases x with
    |any=>cases e
    |val d'=>exact e
    |own o=>dsimp only at e;split at e <;> first|cases e|(split at e <;> cases e)
    |bor o=>dsimp only at e;split at e <;> first|cases e|(split at e <;> cases e)
    |ownA a o=>dsimp only at e;split at e <;> first|cases e|(split at e <;> cases e)
   subst ex;obtain⟨v,w1,w2⟩:=k1.val i d q;exact⟨v,w1,w2.mono s2⟩
 ·obtain⟨x,od',f1,f2,f3⟩:=src i y od e1 e2
  rcases f3 with ⟨f3,f4⟩|⟨j,f3,f4,f5⟩
  ·subst f3
   obtain⟨a,o,w1,w2,w3,w4,w5⟩:=k1.own i x od f1 e2;have hne:a≠acc:=by intro z;subst z;rw[hacc]at w2;cases w2
   obtain⟨u1,u2,u3⟩:=k2.ext a o (hX a o hne ⟨i,x,od,f1,e2,f4,w1⟩ w2);exact⟨a,o,w1,u1,w3.mono s2,u2,w5⟩
  ·obtain⟨a,o,w1,w2,w3,w4,w5⟩:=k2.own (n+j) y od f4 e2
   obtain⟨a0,o0,v1,_⟩:=k1.own i x od' f1 f2;rw[f5,v1]at w1;have ea:a0=a:=by cases w1;rfl
   subst ea;exact⟨a0,o,v1,w2,w3,w4,w5⟩
 ·obtain⟨x',od1,f1,f2,_⟩:=src i x od e1 e2
  obtain⟨y',od2,f3,f4,_⟩:=src j y od' e3 e4;exact k1.dis i j x' y' od1 od2 a f1 f2 f3 f4 e5 e6
theorem Ok.base {g:Gm}{G1 F X G5 H5:Hp}{σ5:St}{Δ5:Evt}(sF:Same G1 F) (hF:∀b o,F b=some o->(g.Hz b=none\/G1 b=some o)) (k5:Ok K ⟨g.B,F,g.Hz,X⟩ G5 H5 σ5 Δ5):Ok K ⟨g.B,G1,g.Hz,X⟩ G5 H5 σ5 Δ5:=
 ⟨k5.same,k5.lent,sF.trans k5.sub,λb o q=>by
  obtain⟨q1,q2⟩:=k5.frz b o q;refine⟨q1,?_⟩;rcases q2 with z|z
  ·exact .inl z
  ·exact hF b o z,k5.ext,k5.len,k5.val,k5.own,k5.dis⟩
theorem Zh0 {n:Nat}{sel:List Nat}{wi:TI}{t:TG}{tc:TT}{te:TE}{P:OD->Evt->Prop}(hsel:sel.Nodup)
  (h:JI K wi Δ λds Δ1=>ds.length<sizeLine/\∃I:Nat->List D->Evt->Prop,I 0 [] (compD n sel Δ1) ∧
   (∀i d ys Δ2,ds[i]?=some d->I i ys Δ2->JGn K n t d Δ2 λΔ3=>JT K tc Δ3 λb Δ4=>if b=true then JE K te Δ4 λe Δ5=>I (i+1) (ys++[e]) Δ5 else I (i+1) ys Δ4) ∧
   ∀ys Δ2,I ds.length ys Δ2->P (.lst ys) (backD n sel Δ2 0 Δ1)):JO K (tComp n sel wi t tc te) Δ P:=λg G H σ Q k c=>
 h g G H σ _ k λJ ds G1 H1 Δ1 k1 s1 it ⟨hz,I,h0,ht,he⟩ acc hacc=>by
  have nacc:∀(i:Nat) x od,Δ1[i]?=some x->x.od=some od -> σ[i]?≠some (some (.ref acc)):=λi x od e1 e2 e3=>by
   obtain⟨a,o,w1,w2,_⟩:=k1.own i x od e1 e2;rw[e3]at w1;cases w1;rw[hacc]at w2;cases w2
  -- the word at each turn
  let Wd:Nat->St->Hp->Prop:=λi σ' H'=>i<=ds.length/\(∀j,n<=j -> σ'[j]?=(compSt n sel σ)[j]?)/\∃G ys vs Δi,ys.length<=i/\Reps K G vs ys/\Ok K ⟨g.B,G1,g.Hz,aside g sel σ Δ1 H1 acc vs⟩ G H' σ' Δi/\I i ys Δi
  refine⟨λi m σ' H'=>m=ds.length-i/\Wd i σ' H',⟨ds.length,by simp,Wcg _,λ_ _=>rfl,G1,[],[],compD n sel Δ1,Wac _,.nil,?_,h0⟩,?_⟩
  ·refine Zg5 hsel k1 hacc λb o e=>?_
   have e:aside g sel σ Δ1 H1 acc [] b=some o:=e;unfold aside at e;by_cases hb:b=acc
   ·rw[if_pos hb]at e;cases e;exact .inl ⟨hb,rfl⟩
   ·rw[if_neg hb]at e
    split at e
    case isTrue hx=>exact .inr ⟨hb,.inl ⟨hx,e⟩⟩
    case isFalse hx=>exact .inr ⟨hb,.inr e⟩
  ·rintro i m σ2 H2 ⟨rfl,hi,hσ,G2,ys,vs,Δ2,hy,ry,k2,h2⟩
   have s2:Same G1 G2:=k2.sub;obtain⟨stop,go⟩:=it G2 H2 s2 k2.live;have hacc2:∀{G' H':Hp}{σ':St}{Δ':Evt}{vs:List V}{F:Hp},Ok K ⟨g.B,F,g.Hz,aside g sel σ Δ1 H1 acc vs⟩ G' H' σ' Δ' -> H' acc=some (.lst vs)/\G' acc=none/\∀(i:Nat) x od,Δ'[i]?=some x->x.od=some od -> σ'[i]?≠some (some (.ref acc)):=λ{G' H' σ' Δ' vs F} kk=>
    kk.ext acc (.lst vs) (by show aside g sel σ Δ1 H1 acc vs acc=_;unfold aside;rw[if_pos rfl])
   by_cases hlt:i<ds.length
   ·obtain⟨g1,g2⟩:=go i _ (Wab hlt)
    refine .inr ⟨g1,λσ' H'=>Wd (i+1) σ' H',λσ' H' p'=>⟨ds.length-(i+1),by omega,rfl,p'⟩,λx H3 y=>?_⟩;obtain⟨G3,a1,a2,a3,a4⟩:=g2 x H3 y;have k3:=k2.grow a1 a2 a3;have hG3:∀b o,G3 b=some o->(g.Hz b=none\/G1 b=some o):=λb o q=>(k3.frz b o q).2;have k3':Ok K ⟨g.B,G3,g.Hz,aside g sel σ Δ1 H1 acc vs⟩ G3 H3 σ2 Δ2:=⟨k3.same,k3.lent,Same.refl _,λb o q=>⟨(k3.frz b o q).1,.inr q⟩,k3.ext,k3.len,k3.val,k3.own,k3.dis⟩;have ry3:Reps K G3 vs ys:=ry.mono a1;have s13:Same G1 G3:=s2.trans a1;refine ht i _ ys Δ2 (Wab hlt) h2 ⟨g.B,G3,g.Hz,aside g sel σ Δ1 H1 acc vs⟩ G3 H3 σ2 x _ k3' a4 λσ4 G4 H4 Δ4 k4 s4 e4 p4=>?_;have hσ4:∀j,n<=j -> σ4[j]?=(compSt n sel σ)[j]?:=λj hj=>(e4 j hj).trans (hσ j hj);refine p4 _ G4 H4 σ4 _ k4 λb G5 H5 Δ5 k5 s5 p5=>?_;cases b with
    |false=>exact⟨hlt,hσ4,G5,ys,vs,Δ5,by omega,ry3.mono (s4.trans s5),k5.base s13 hG3,p5⟩
    |true=>
     refine(show JE K te Δ5 _ from p5) _ G5 H5 σ4 _ k5 λv d G6 H6 Δ6 k6 s6 r6 p6=>?_;have ry6:Reps K G6 vs ys:=ry3.mono (s4.trans (s5.trans s6));obtain⟨b1,b2,b3⟩:=hacc2 k6;refine⟨vs,b1,by rw[ry6.length];omega,hlt,hσ4,G6,ys++[d],vs++[v],Δ6,by rw[Wan,Wck];omega,ry6.append (.cons r6 .nil),?_,p6⟩;have k7:=k6.base s13 hG3;have oldH:∀b o,b≠acc->H6 b=some o->(upd H6 acc (.lst (vs++[v]))) b=some o:=λb o hb e=>by rw[Zag hb];exact e
     have aNe:∀b o,b≠acc->aside g sel σ Δ1 H1 acc (vs++[v]) b=some o->aside g sel σ Δ1 H1 acc vs b=some o:=λb o hb e=>by
      unfold aside at e ⊢;rw[if_neg hb]at e ⊢;exact e
     refine⟨λb o hb e=>?_,λb hb=>?_,k7.sub,λb o e=>?_,λb o e=>?_,k7.len,k7.val,λi x od e1 e2=>?_,k7.dis⟩
     ·have hne:b≠acc:=by
       intro z;subst z;have e:g.Hz b=some o:=e;rw[k1.there hacc]at e;cases e
      exact oldH b o hne (k7.same b o hb e)
     ·by_cases hne:b=acc
      ·subst hne;rw[Zai];intro z;cases z
      ·rw[Zag hne];exact k7.lent b hb
     ·have hne:b≠acc:=by intro z;subst z;rw[b2]at e;cases e
      exact⟨oldH b o hne (k7.frz b o e).1,(k7.frz b o e).2⟩
     ·by_cases hne:b=acc
      ·subst hne
       have e:aside g sel σ Δ1 H1 b (vs++[v]) b=some o:=e;unfold aside at e;rw[if_pos rfl]at e;cases e;exact⟨Zai,b2,b3⟩
      ·obtain⟨w1,w2,w3⟩:=k7.ext b o (aNe b o hne e)
       exact⟨oldH b o hne w1,w2,w3⟩
     ·obtain⟨a,o,w1,w2,w3,w4,w5⟩:=k7.own i x od e1 e2
      have hne:a≠acc:=by intro z;subst z;exact b3 i x od e1 e2 w1
      exact⟨a,o,w1,oldH a o hne w2,w3,w4,w5⟩
   ·have e:i=ds.length:=by omega
    subst e;refine .inl ⟨stop,?_⟩;obtain⟨b1,b2,b3⟩:=hacc2 k2;have src:=Zgg (Δ1:=Δ1) (Δ2:=Δ2) hσ;have k9:Ok K g G2 H2 σ (backD n sel Δ2 0 Δ1):=Zf1 k1 hacc k2 hσ (λb o hb hx e=>by show aside g sel σ Δ1 H1 acc vs b=_;unfold aside;rw[if_neg hb,if_pos hx];exact e) (λb o hb hx e=>by show aside g sel σ Δ1 H1 acc vs b=_;unfold aside;rw[if_neg hb,if_neg hx];exact e);refine c acc _ G2 H2 _ k9 (s1.trans s2) ⟨.lst vs,b1,(show OwnRep K G2 (.lst vs) (.lst ys) from ry),b2,k1.there hacc,?_,λi y od e1 e2 e3=>?_⟩ (he ys Δ2 h2)
    ·cases q:g.Xo acc with
     |none=>rfl
     |some u=>have z:=(k1.ext acc u q).1;rw[hacc]at z;cases z
    ·obtain⟨x',od1,f1,f2,_⟩:=src i y od e1 e2
     exact nacc i x' od1 f1 f2 e3
theorem Zmn {n:Nat}{sel:List Nat}{wi:TI}{t:TG}{tc:TT}{te:TE}{P:D->Evt->Prop}(hsel:sel.Nodup)
  (h:JI K wi Δ λds Δ1=>ds.length<sizeLine/\∃I:Nat->List D->Evt->Prop,I 0 [] (compD n sel Δ1) ∧
   (∀i d ys Δ2,ds[i]?=some d->I i ys Δ2->JGn K n t d Δ2 λΔ3=>JT K tc Δ3 λb Δ4=>if b=true then JE K te Δ4 λe Δ5=>I (i+1) (ys++[e]) Δ5 else I (i+1) ys Δ4) ∧
   ∀ys Δ2,I ds.length ys Δ2->P (.lst ys) (backD n sel Δ2 0 Δ1)):JE K (tComp n sel wi t tc te) Δ P:=
 Zc8 (Zh0 hsel λg G H σ R k c=>h g G H σ R k λJ ds G' H' Δ' k' s' it ⟨z,I,h0,ht,he⟩=>c J ds G' H' Δ' k' s' it ⟨z,I,h0,ht,λys Δ2 q=>⟨ys,rfl,he ys Δ2 q⟩⟩)
theorem Zgw {n:Nat}{sel:List Nat}{wi:TI}{t:TG}{tc:TT}{te:TE}{P:D->Evt->Prop}(hsel:sel.Nodup)
  (h:JI K wi Δ λds Δ1=>ds.length<sizeLine/\∃(fix:Evt) (p:D->Bool) (f:D->D),compD n sel Δ1=Wao n .any++fix ∧
   (∀(i:Nat) d (ts:Evt),ds[i]?=some d->ts.length=n->JGn K n t d (ts++fix) λΔ3=>JT K tc Δ3 λb Δ4=>b=p d/\if b=true then JE K te Δ4 λe Δ5=>e=f d/\∃ts',ts'.length=n /\ Δ5=ts'++fix else ∃ts',ts'.length=n /\ Δ4=ts'++fix) ∧
   P (.lst ((ds.filter p).map f)) (backD n sel (Wao n .any++fix) 0 Δ1)):JE K (tComp n sel wi t tc te) Δ P:=by
 refine Zmn hsel λg G H σ R k c=>h g G H σ R k λJ ds G' H' Δ' k' s' it ⟨z,fix,p,f,e0,ht,he⟩=>c J ds G' H' Δ' k' s' it ⟨z,λi ys Δ=>ys=((ds.take i).filter p).map f/\∃ts:Evt,ts.length=n /\ Δ = ts++fix,?_,?_,?_⟩
 ·exact⟨by simp,_,by simp,e0⟩
 ·rintro i d ys Δ2 hd ⟨rfl,ts,hts,rfl⟩
  have tk:ds.take (i+1)=ds.take i++[d]:=by
   rw[Wct,hd];rfl
  intro g G H σ v R k r c;refine ht i d ts hd hts g G H σ v R k r λσ' G' H' Δ' k' s' e' q=>c σ' G' H' Δ' k' s' e' λg G H σ Q k c=>q g G H σ Q k λb G' H' Δ' k' s' ⟨eb,q⟩=>c b G' H' Δ' k' s' ?_;cases b with
  |true=>
   rw[if_pos rfl]at q ⊢;refine q.mono λe Δ5 ⟨e1,ts',h1,h2⟩=>⟨?_,ts',h1,h2⟩;rw[tk,Wb7,Wbv,Wch,<- eb,e1];rfl
  |false=>
   rw[if_neg Wak]at q ⊢;obtain⟨ts',h1,h2⟩:=q;refine⟨?_,ts',h1,h2⟩;rw[tk,Wb7,Wbv,Wch,<- eb];simp
 ·rintro ys Δ2 ⟨rfl,ts,hts,rfl⟩
  rw[List.take_length];have e:backD n sel (ts++fix) 0 Δ'=backD n sel (Wao n .any++fix) 0 Δ':=by
   apply Wcf;intro i;rw[Zbq,Zbq];congr 1
   funext x
   unfold backAt;have e2:∀j,(ts++fix)[n+j]?=(Wao n Slot.any++fix)[n+j]?:=λj=>by
    rw[Wap (by omega),Wap (by simp),hts,Wau]
   simp only[e2]
  rw[e];exact he
end
end L2
set_option Elab.async false
set_option linter.all false
set_option maxRecDepth 100000
namespace HT
open PySem PyProof.Rows
section
variable {prog:Program}{w:World}{A:Around}{E:Value->Shared->Prop}{s:Shared}
theorem getItem_tuple_whole {t sl:Addr}{items:Array Value}{vl vu:Value}{lo hi:Option Int}{Q:Value->Shared->Prop}(ht:IsTup s.heap t items) (hs:s.heap.IsSliceOf sl vl vu .none) (pl:IsPart vl lo) (pu:IsPart vu hi)
  (hw:sIx items.size 0 lo=0/\sIx items.size items.size hi=items.size) (h:Q (.ref t) s):wpAny (model prog w) A (getItem (.ref t) (.ref sl)) Q E s:=by
 obtain⟨os,hos,hcs,hds⟩:=id hs;have hTs:s.TypeIs (.ref sl) "slice":=⟨os,hos,hcs⟩;unfold getItem
 try with_reducible refine wpAny_holding ?_
 first|refine wpAny_bind (wpAny_pure ?_)|skip
 refine wpAny_bind (wpAny_sequenceKey ht.typeIs (by decide) ?_);refine wpAny_bind (wpAny_callSpecial?_slot (name:=Str.ofString "__getitem__") ht.typeIs PyProof.Rows.slot_tuple_getitem
  (wpAny_call_entry PyProof.Rows.slot_tuple_getitem ht.typeIs entry_tuple_getitem ?_ (args_tuple_getitem _ _)))
 show wpAny _ _ (Builtin.Tuple.tupleItemsOf (.ref t) >>= _) _ _ s;refine wpAny_bind (tupleItemsOf_ ht ?_);refine wpAny_bind (wpAny_typeOf hTs ?_);rw[if_pos (by decide)];refine wpAny_bind (Zbz hs pl pu ?_);have hyes:(((sIx items.size 0 lo:Nat):Int) == 0 && (1:Int) == 1 && (sIx items.size items.size hi-sIx items.size 0 lo) == items.size)=true:=by
  rw[hw.1,hw.2];simp
 show wpAny _ _ (if (((sIx items.size 0 lo:Nat):Int) == 0 && (1:Int) == 1 && (sIx items.size items.size hi-sIx items.size 0 lo) == items.size)=true then _ else _) _ _ s;rw[if_pos hyes]
 first
  |exact wpAny_pure ⟨_,rfl,wpAny_pure h⟩
  |exact wpAny_pure ⟨_,rfl,h⟩
  |exact wpAny_bind (wpAny_pure (wpAny_pure ⟨_,rfl,wpAny_pure h⟩))
  | (refine wpAny_bind (wpAny_bind (wpAny_typeOf ht.typeIs (wpAny_pure ?_)))
     rw[if_pos (by decide)];exact wpAny_bind (wpAny_rule (wpAny_pure ⟨_,rfl,wpAny_pure h⟩)))
theorem pick_rev (xs:Array Value):((Wa2 xs.size).filterMap λ(m:Nat)=>xs[(((xs.size:Int)-1)+(m:Int) * -1).toNat]?).toArray=xs.toList.reverse.toArray:=by
 congr 1;apply Wcf;intro i;have key:∀(l:List Nat),(∀m∈l,m<xs.size)->(l.filterMap λ(m:Nat)=>xs[(((xs.size:Int)-1)+(m:Int) * -1).toNat]?)=l.map λm=>xs.toList.reverse.getD m .none:=by
  intro l
  induction l with
  |nil=>intro _;rfl
  |cons a r ih=>
   intro h;have ha:=h a Wa7;have e:(((xs.size:Int)-1)+(a:Int) * -1).toNat=xs.size-1-a:=by omega
   have e2:xs[(((xs.size:Int)-1)+(a:Int) * -1).toNat]?=some (xs.toList.reverse.getD a .none):=by
    rw[e,Waq,List.getElem?_reverse (by simpa using ha)];simp only[Array.length_toList,Array.getElem?_toList];rw[Array.getElem?_eq_getElem (by omega)];rfl
   rw[Wbx,e2,Wa8,ih λm hm=>h m (Wax _ hm)]
 rw[key _ (λm hm=>Wbj.mp hm),Wal];by_cases hi:i<xs.size
 ·rw[List.getElem?_range hi,Wab (by simpa using hi)]
  simp[Waq,hi]
 ·rw[Wcl (by simpa using hi),Wcl (by simpa using hi)]
  rfl
end
end HT
namespace L2
open PySem PySem.Spec PyProof.Rows
section
variable {X:Cx}
def rSlT' (K:W.Frag):V->Option Int->Option Int->Hp->VK->Prop:=λx lo hi H Q=>∃a xs,x=.ref a/\SqT K H a xs ∧
 ((HT.sIx xs.length 0 lo=0/\HT.sIx xs.length xs.length hi=xs.length)->Q (.ref a) H) ∧
 (¬ (HT.sIx xs.length 0 lo=0/\HT.sIx xs.length xs.length hi=xs.length)->∀p,H p=none->Q (.ref p) (upd H p (.tup (cutV xs lo hi))))
theorem Zl5:SlR X (rSlT' X.K):=by
 intro pins s σ H x v vl vu lo hi sl Q I rx hs pl pu h;obtain⟨a,xs,rfl,hx,q1,q2⟩:=h;by_cases hw:HT.sIx xs.length 0 lo=0/\HT.sIx xs.length xs.length hi=xs.length
 ·cases rx
  obtain⟨its,r,ht,hz⟩:=I.tuple hx;have hlen:its.toArray.size=xs.length:=by rw[Wad];exact r.length.symm
  exact⟨"tuple",_,PyProof.Rows.slot_tuple_getitem.lookup,ht.typeIs,HT.getItem_tuple_whole ht hs pl pu (by rw[hlen];exact hw) ⟨.ref a,H,I,rfl,q1 hw⟩⟩
 ·exact Zo6 pins s σ H (.ref a) v vl vu lo hi sl Q I rx hs pl pu ⟨a,xs,rfl,hx,hw,q2 hw⟩
def rSlU (K:W.Frag):V->Option Int->Option Int->Hp->VK->Prop:=λx lo hi H Q=>rSlL K x lo hi H Q\/rSlT' K x lo hi H Q
theorem slU:SlR X (rSlU X.K):=Zly.or Zl5
def tSlR (K:W.Frag) (te:TE):TE:=λσ H Q=>te σ H λx H1=>∃a xs,x=.ref a/\SqT K H1 a xs/\∀p,H1 p=none->Q (.ref p) (upd H1 p (.tup xs.reverse))
def rCatT' (K:W.Frag):R2:=λx y H Q=>∃a b xs ys,x=.ref a/\y=.ref b/\SqT K H a xs/\SqT K H b ys/\xs.length+ys.length<=sizeLine ∧
 (xs=[]->Q (.ref b) H)/\(xs≠[]->ys=[]->Q (.ref a) H)/\(xs≠[]->ys≠[]->∀p,H p=none->Q (.ref p) (upd H p (.tup (xs++ys))))
theorem Zj5:OpR X (binaryOp .Add) (rCatT' X.K):=by
 intro pins s σ H x y v u Q I rx ry h;obtain⟨a,b,xs,ys,rfl,rfl,ha,hb,hz,q0,q1,q2⟩:=h;by_cases hx:xs=[]
 ·cases rx
  cases ry;obtain⟨its,r1,p1,_⟩:=I.tuple ha;obtain⟨its2,r2,p2,_⟩:=I.tuple hb;obtain⟨⟨cls,dd,data,sl⟩,ho,hc,n,hd⟩:=id p1;obtain⟨⟨cls2,dd2,data2,sl2⟩,ho2,hc2,n2,hd2⟩:=id p2;simp only at hc hd hc2 hd2;subst hc hd hc2 hd2;exact concat_meets ⟨_,ho,rfl⟩ ⟨_,ho2,rfl⟩ noFill_tuple_add seq_tuple_add PySem.F.slot_tuple_add PySem.F.entry_tuple_add (PySem.F.args_tuple_add_2 _ _)
   (tuple_addW0 a b its.toArray its2.toArray n n2 dd dd2 sl sl2 (by simp[r1.nil_iff.mpr hx])) ⟨ho,ho2,⟨.ref b,H,I,rfl,q0 hx⟩⟩
 ·exact Zm9 pins s σ H (.ref a) (.ref b) v u Q I rx ry ⟨a,b,xs,ys,rfl,rfl,ha,hb,hx,hz,q1 hx,q2 hx⟩
def rAddU (K:W.Frag):R2:=λx y H Q=>rI0 (λi j=>.int (i+j)) x y H Q\/(rCatT' K x y H Q\/rCat x y H Q)
theorem Zm3:OpR X (binaryOp .Add) (rAddU X.K):=Zpx.or (Zj5.or Znp)
theorem Zcf:OpR X (compareOp .Eq) rEq:=Zp6
def rIxD:R2:=λx y H Q=>∃a v,x=.ref a/\DGet H a y (some v)/\Q v H
theorem Zln (hu:X.A.units+1<cLine):IxR X rIxD:=by
 intro value slice pins s σ H x y v u Q I rx ry h hs;obtain⟨a,w',rfl,g,q⟩:=h;cases rx;exact tail_any (Zgf I g) PySem.F.slot_dict_getitem.lookup (Zjb hu I g ry λw2 s3 I3 rw'=>⟨w',H,I3,rw',q⟩) hs
def rIxU (K:W.Frag):R2:=λx y H Q=>rIx K x y H Q\/rIxD x y H Q
theorem ixU (hu:X.A.units+1<cLine):IxR X (rIxU X.K):=Zpu.or (Zln hu)
def rSetD:V->V->V->Hp->(Hp->Prop)->Prop:=λo i v H Q=>∃a H',o=.ref a/\DPut H a i v H' /\ Q H'
theorem Zjp (hu:X.A.units+1<cLine):PSet X rSetD:=by
 intro pins s σ H o i v ov iv u Q I ro ri rv h;obtain⟨a,H',rfl,g,q⟩:=h;cases ro;exact Zhw hu I g ri rv λs' I'=>⟨H',I',q⟩
theorem PSet.or {t t':TSet}(h:PSet X t) (h':PSet X t'):PSet X (λo i v H Q=>t o i v H Q\/t' o i v H Q):=by
 intro pins s σ H o i v ov iv u Q I ro ri rv q;rcases q with q|q
 ·exact h pins s σ H o i v ov iv u Q I ro ri rv q
 ·exact h' pins s σ H o i v ov iv u Q I ro ri rv q
def rSetU:V->V->V->Hp->(Hp->Prop)->Prop:=λo i v H Q=>rSetL o i v H Q\/rSetD o i v H Q
theorem setU (hu:X.A.units+1<cLine):PSet X rSetU:=Zki.or (Zjp hu)
def rLenU (K:W.Frag):List V->Hp->VK->Prop:=λxs H Q=>(∃p ys,xs=[.ref p]/\(SqL K H p ys\/SqT K H p ys)/\Q (.int ys.length) H)\/∃a kvs,xs=[V.ref a]/\H a=some (.dK kvs)/\Q (.int kvs.length) H
theorem Ziz:CallR X (.builtin "len") (rLenU X.K):=Zfr.or Zh4
def rIsi (K:W.Frag):List V->Hp->VK->Prop:=λxs H Q=>∃x n t b,xs=[x,.ty n]/\TyOf K H x t/\PySem.W.kitOne K t (.type n)=some b/\Q (.bl b) H
theorem Zfy:CallR X (.builtin "isinstance") (rIsi X.K):=by
 intro pins s σ H xs us Q I r h;obtain⟨x,n,t,b,rfl,ty,e,q⟩:=h;obtain⟨u,u',rfl,rx,rn⟩:=vals2 r;cases (show u'=Value.type n from rn);exact Zir I rx ty e λtk=>⟨.bl b,H,I.tok _,rfl,q⟩
def rIndexT (K:W.Frag):V->List V->Hp->VK->Prop:=λx vs H Q=>∃a xs y j,x=.ref a/\vs=[y]/\SqT K H a xs/\flatV y=true/\xs.all flatV=true/\j<xs.length ∧
 (∃z,xs[j]?=some z/\eqV z y=true)/\(∀m z,m<j->xs[m]?=some z->eqV z y=false)/\Q (.int j) H
end
end L2
namespace L2
open PySem PySem.Spec PyProof.Rows
section
variable {X:Cx}
theorem PI.or {tg iter:Expr}{w w':TI}(h:PI X tg iter w) (h':PI X tg iter w'):PI X tg iter (λσ H R=>w σ H R\/w' σ H R):=by
 intro pins s σ H R I q;rcases q with q|q
 ·exact h pins s σ H R I q
 ·exact h' pins s σ H R I q
def iSeq (K:W.Frag) (tl:TE):TI:=λσ H R=>iList K tl σ H R\/iTup K tl σ H R
theorem Znr {tg l:Expr}{tl:TE}(hl:PE X l tl):PI X tg l (iSeq X.K tl):=(Zlw hl).or (Zoc hl)
def tTru (K:W.Frag) (ta:TE):TT:=λσ H Q=>ta σ H λx H'=>∃k,TruV K x H' k/\Q k H'
theorem Znl {a:Expr}{ta:TE}(ha:PE X a ta) (he:∀whole,isTrue a X.env whole=(do let v ← whole;standAt a.pos;holding [v] (truthy v))):PT X a (tTru X.K ta):=Zkm ha he
end
section
variable {K:W.Frag}{Δ:Evt}{P:D->Evt->Prop}
theorem Zeb {i j:Int}(p:P (.int (i+j)) Δ):JR2 K (rAddU K) (.int i) (.int j) Δ P:=λg G H σ Q x y k rx ry c=>by
 cases rx.inv;cases ry.inv;exact .inl ⟨i,j,rfl,rfl,c _ _ G H Δ k (Same.refl _) (.int _) p⟩
theorem Zcs {ds es:List D}(hz:ds.length+es.length<=sizeLine) (p:P (.lst (ds++es)) Δ):JR2 K (rAddU K) (.lst ds) (.lst es) Δ P:=λg G H σ Q x y k rx ry c=>by
 obtain⟨_,_,rfl,ha,ra⟩:=rx.inv
 next=>
  obtain⟨_,_,rfl,hb,rb⟩:=ry.inv
  next=>
   refine .inr (.inr ⟨_,_,_,_,rfl,rfl,k.live _ _ ha,k.live _ _ hb,by rw[ra.length,rb.length];exact hz,λq hq=>?_⟩);obtain⟨k2,sg⟩:=k.laid hq (.lst _);exact c _ _ _ _ Δ k2 sg (.lst Zai ((ra.append rb).mono sg)) p
theorem Zcz {ds:List D}{i:Int}{d:D}(h:atI ds i=some d) (p:P d Δ):JR2 K (rIxU K) (.tup ds) (.int i) Δ P:=λg G H σ Q x y k rx ry c=>
 .inl (.inr (.inl (Zo7 h p g G H σ Q x y k rx ry c)))
theorem Zge {ds:List D}{i:Int}{d:D}(h:atI ds i=some d) (p:P d Δ):JR2 K (rIxU K) (.lst ds) (.int i) Δ P:=λg G H σ Q x y k rx ry c=>
 .inl (.inl (Zot h p g G H σ Q x y k rx ry c))
theorem Zlz {n:Nat}{tb:TE}{x:Slot}{ds:List D}(hx:Δ[n]?=some x) (ho:x.od=some (.lst ds)) (h:JE K tb Δ λe Δ1=>∃y es i d,Δ1[n]?=some y/\y.od=some (.lst es)/\e=.int i/\atI es i=some d/\P d Δ1):JE K (tOp (rIxU K) (tVar n) tb) Δ P:=λg G H σ Q k c=>by
 obtain⟨a,o,h1,h2,h3,h4,h5⟩:=k.own n x _ hx ho;refine⟨.ref a,h1,h g G H σ _ k λv e G1 H1 Δ1 k1 s1 r1 ⟨y,es,i,d,q1,q2,q3,q4,p⟩=>?_⟩;subst q3;cases r1.inv;obtain⟨a',o',w1,w2,w3,w4,w5⟩:=k1.own n y _ q1 q2;rw[h1]at w1;cases w1;cases o' with
 |lst vs=>
  obtain⟨u,z1,z2⟩:=Zey (show Reps K G1 vs es from w3) q4;exact .inl (.inl ⟨a,vs,i,u,rfl,rfl,SqL.of w2,z1,c u d G1 H1 Δ1 k1 s1 z2 p⟩)
 |_=>exact absurd w3 (λz=>z)
theorem Zi6 {n:Nat}{ti te:TE}{Pp:Pst}(h:JE K te Δ λd Δ1=>(∃x od,Δ1[n]?=some x/\x.od=some od)/\JE K ti Δ1 λe Δ2=>∃x ds i j,Δ2[n]?=some x/\x.od=some (.lst ds)/\e=.int i/\ixN ds.length i=some j/\Pp.nx (Δ2.set n (x.put (.lst (ds.set j d))))) :
  JS K (tAsg te (gSub (tVar n) ti rSetU)) Δ Pp:=λg G H σ E k c=>
 h g G H σ _ k λv d G1 H1 Δ1 k1 s1 r1 hq_=>by
  obtain⟨⟨x,od,hx,ho⟩,p1⟩:=hq_;obtain⟨a,o,h1,h2,h3,h4,h5⟩:=k1.own n x _ hx ho;refine⟨.ref a,h1,p1 g G1 H1 σ _ k1 λu e G2 H2 Δ2 k2 s2 r2 ⟨y,ds,i,j,q1,q2,q3,q4,p⟩=>?_⟩;subst q3;cases r2.inv;obtain⟨a',o',w1,w2,w3,w4,w5⟩:=k2.own n y _ q1 q2;rw[h1]at w1;cases w1;cases o' with
  |lst vs=>
   have w3:Reps K G2 vs ds:=w3;exact .inl ⟨a,vs,i,j,rfl,rfl,w2,by rw[w3.length];exact q4,c.nx σ G2 _ _ (k2.write q1 q2 h1 (show OwnRep K G2 (.lst (vs.set j v)) (.lst (ds.set j d)) from w3.set j (r1.mono s2))) p⟩
  |_=>exact absurd w3 (λz=>z)
theorem Zcc {ds es:List D}(he:ds=[.lst es]\/ds=[.tup es]) (p:P (.int es.length) Δ):JC K (rLenU K) ds Δ P:=λg G H σ Q vs k rs c=>.inl (Zo3 he p g G H σ Q vs k rs c)
theorem Zei {n:Nat}{x:Slot}{ds:List D}(hx:Δ[n]?=some x) (ho:x.od=some (.lst ds)) (p:P (.int ds.length) Δ):JE K (tCB (rLenU K) (tCons (tVar n) tNil)) Δ P:=λg G H σ Q k c=>by
 obtain⟨v,h1,h2⟩:=Zmd hx ho p g G H σ Q k c;exact⟨v,h1,.inl h2⟩
def cutD (ds:List D) (lo hi:Option Int):List D:=(ds.drop (HT.sIx ds.length 0 lo)).take (HT.sIx ds.length ds.length hi-HT.sIx ds.length 0 lo)
theorem Zjh {α:Type}(xs:List α) (lo hi:Option Int) (h:HT.sIx xs.length 0 lo=0/\HT.sIx xs.length xs.length hi=xs.length):(xs.drop (HT.sIx xs.length 0 lo)).take (HT.sIx xs.length xs.length hi-HT.sIx xs.length 0 lo)=xs:=by
 rw[h.1,h.2];simp
def JO2 (t:TO) (Δ:Evt) (K:W.Frag) (P:Option Int->Evt->Prop):Prop:=
 ∀g G H σ (Q:Option Int->Hp->Prop),Ok K g G H σ Δ -> (∀o G' H' Δ',Ok K g G' H' σ Δ' -> Same G G' -> P o Δ' -> Q o H')->t σ H Q
theorem Zdx {P:Option Int->Evt->Prop}(p:P none Δ):JO2 tNoPart Δ K P:=λg G H σ Q k c=>c none G H Δ k (Same.refl _) p
theorem Zdj {te:TE}{P:Option Int->Evt->Prop}(h:JE K te Δ λd Δ1=>∃i,d=.int i/\P (some i) Δ1):JO2 (tPart te) Δ K P:=λg G H σ Q k c=>
 h g G H σ _ k λv d G1 H1 Δ1 k1 s1 r1 hq_=>by obtain⟨i,e,p⟩:=hq_;subst e;cases r1.inv;exact⟨i,rfl,c (some i) G1 H1 Δ1 k1 s1 p⟩
def slD (d:D) (lo hi:Option Int):Option D:=match d with
 |.lst ds=>some (.lst (cutD ds lo hi))
 |.scr ds=>some (.lst (cutD ds lo hi))
 |.tup ds=>some (.tup (cutD ds lo hi))
 |_=>none
theorem Zpk {te:TE}{tl th:TO}(h:JE K te Δ λd Δ1=>JO2 tl Δ1 K λlo Δ2=>JO2 th Δ2 K λhi Δ3=>∃e,slD d lo hi=some e/\P e Δ3):JE K (tSl (rSlU K) te tl th) Δ P:=λg G H σ Q k c=>
 h g G H σ _ k λv d G1 H1 Δ1 k1 s1 r1 p1=>p1 g G1 H1 σ _ k1 λlo G2 H2 Δ2 k2 s2 p2=>p2 g G2 H2 σ _ k2 λhi G3 H3 Δ3 k3 s3 hq_=>by
  obtain⟨e,he,p⟩:=hq_;have r3:=r1.mono (s2.trans s3);have cc:=c.up (s1.trans (s2.trans s3));cases r3 with
  |lst ha rs=>
   cases he;refine .inl ⟨_,_,rfl,SqL.of (k3.live _ _ ha),λq hq=>?_⟩;obtain⟨k4,sg⟩:=k3.laid hq (.lst _);refine cc _ _ _ _ Δ3 k4 sg (.lst Zai (Reps.mono sg ?_)) p;unfold cutV cutD;rw[rs.length];exact(rs.drop _).take _
  |scr ha rs=>
   cases he;refine .inl ⟨_,_,rfl,k3.live.seq ha,λq hq=>?_⟩;obtain⟨k4,sg⟩:=k3.laid hq (.lst _);refine cc _ _ _ _ Δ3 k4 sg (.lst Zai (Reps.mono sg ?_)) p;unfold cutV cutD;rw[rs.length];exact(rs.drop _).take _
  |tup ha rs=>
   cases he;refine .inr ⟨_,_,rfl,SqT.of (k3.live _ _ ha),λhw=>?_,λhw q hq=>?_⟩
   ·rw[rs.length]at hw
    refine cc _ _ _ _ Δ3 k3 (Same.refl _) (.tup ha ?_) p;unfold cutD;rw[Zjh _ _ _ hw];exact rs
   ·obtain⟨k4,sg⟩:=k3.laid hq (.tup _)
    refine cc _ _ _ _ Δ3 k4 sg (.tup Zai (Reps.mono sg ?_)) p;unfold cutV cutD;rw[rs.length];exact(rs.drop _).take _
  |_=>cases he
theorem Zpt {te:TE}(h:JE K te Δ λd Δ1=>∃ds,d=.tup ds/\P (.tup ds.reverse) Δ1):JE K (tSlR K te) Δ P:=λg G H σ Q k c=>
 h g G H σ _ k λv d G1 H1 Δ1 k1 s1 r1 hq_=>by
  obtain⟨ds,e,p⟩:=hq_;subst e;obtain⟨_,_,rfl,ha,rs⟩:=r1.inv
  next=>
   refine⟨_,_,rfl,SqT.of (k1.live _ _ ha),λq hq=>?_⟩;obtain⟨k4,sg⟩:=k1.laid hq (.tup _);exact c _ _ _ _ Δ1 k4 (s1.trans sg) (.tup Zai (rs.reverse.mono sg)) p
theorem Zlh {tl:TE}{P:List D->Evt->Prop}(h:JE K tl Δ λd Δ1=>∃ds,(d=.lst ds\/d=.scr ds)/\P ds Δ1):JI K (iSeq K tl) Δ P:=λg G H σ R k c=>.inl (Zma h g G H σ R k c)
theorem Zl7 {tl:TE}{P:List D->Evt->Prop}(h:JE K tl Δ λd Δ1=>∃ds,d=.tup ds/\P ds Δ1):JI K (iSeq K tl) Δ P:=λg G H σ R k c=>.inr (Zn2 h g G H σ R k c)
def truD:D->Option Bool
 |.non=>some false
 |.bl b=>some b
 |.int i=>some (i != 0)
 |.lst ds=>some !ds.isEmpty
 |.tup ds=>some !ds.isEmpty
 |_=>none
theorem Reps.isEmpty {G:Hp}{vs:List V}{ds:List D}(r:Reps K G vs ds):vs.isEmpty=ds.isEmpty:=by cases r <;> rfl
theorem Zdq {t:TE}{Pb:Bool->Evt->Prop}(h:JE K t Δ λd Δ1=>∃b,truD d=some b/\Pb b Δ1):JT K (tTru K t) Δ Pb:=λg G H σ Q k c=>
 h g G H σ _ k λv d G1 H1 Δ1 k1 s1 r1 hq_=>by
  obtain⟨b,e,p1⟩:=hq_;refine⟨b,?_,c b G1 H1 Δ1 k1 s1 p1⟩;cases r1 with
  |non=>cases e;rfl
  |bl b=>cases e;rfl
  |int i=>cases e;rfl
  |str x=>cases e
  |ty n=>cases e
  |scr ha rs=>cases e
  |adr a=>cases e
  |dct ha hl rs=>cases e
  |exc ha=>cases e
  |lst ha rs=>cases e;exact .inl ⟨_,SqL.of (k1.live _ _ ha),by rw[rs.isEmpty]⟩
  |tup ha rs=>cases e;exact .inr (.inl ⟨_,SqT.of (k1.live _ _ ha),by rw[rs.isEmpty]⟩)
def tyD:D->Option String
 |.non=>some "NoneType"
 |.bl _=>some "bool"
 |.int _=>some "int"
 |.str _=>some "str"
 |.lst _=>some "list"
 |.tup _=>some "tuple"
 |.dct _ _=>some "dict"
 |_=>none
theorem Zn6 {d:D}{n T:String}{b:Bool}(ht:tyD d=some T) (e:∀K,PySem.W.kitOne K (.type T) (.type n)=some b) (p:P (.bl b) Δ):JC K (rIsi K) [d,.ty n] Δ P:=λg G H σ Q vs k rs c=>by
 obtain⟨_,_,rfl,r,t⟩:=rs.inv
 next=>
  obtain⟨_,_,rfl,r',t⟩:=t.inv
  next=>
   cases t.inv;cases r'.inv;refine⟨_,n,.type T,b,rfl,?_,e K,c _ _ G H Δ k (Same.refl _) (.bl b) p⟩;cases r with
   |non=>cases ht;exact .non
   |bl b=>cases ht;exact .bl b
   |int i=>cases ht;exact .int i
   |str x=>cases ht;exact .str x
   |ty n=>cases ht
   |scr ha rs=>cases ht
   |adr a=>cases ht
   |dct ha hl rs=>cases ht;exact .dK (k.live _ _ ha)
   |exc ha=>cases ht
   |lst ha rs=>cases ht;exact .lst (k.live _ _ ha)
   |tup ha rs=>cases ht;exact .tup (k.live _ _ ha)
theorem Zbw {ta tb:TE}(h:JE K ta Δ λd Δ1=>∃b,d=.bl b/\if b=true then JE K tb Δ1 P else P (.bl false) Δ1):JE K (tAndV ta tb) Δ P:=λg G H σ Q k c=>
 h g G H σ _ k λv d G1 H1 Δ1 k1 s1 r1 hq_=>by
  obtain⟨b,e,p1⟩:=hq_;subst e;cases r1.inv;refine⟨b,rfl,?_⟩;cases b with
  |true=>exact(show JE K tb Δ1 P from p1) g G1 H1 σ Q k1 (c.up s1)
  |false=>exact c _ _ G1 H1 Δ1 k1 s1 (.bl false) p1
theorem Znz {ta tb:TE}(h:JE K ta Δ λd Δ1=>∃b,d=.bl b/\if b=true then P (.bl true) Δ1 else JE K tb Δ1 P):JE K (tOrV ta tb) Δ P:=λg G H σ Q k c=>
 h g G H σ _ k λv d G1 H1 Δ1 k1 s1 r1 hq_=>by
  obtain⟨b,e,p1⟩:=hq_;subst e;cases r1.inv;refine⟨b,rfl,?_⟩;cases b with
  |false=>exact(show JE K tb Δ1 P from p1) g G1 H1 σ Q k1 (c.up s1)
  |true=>exact c _ _ G1 H1 Δ1 k1 s1 (.bl true) p1
theorem Zev {ta:TE}(h:JE K ta Δ λd Δ1=>∃b,d=.bl b/\P (.bl !b) Δ1):JE K (tNotV ta) Δ P:=λg G H σ Q k c=>
 h g G H σ _ k λv d G1 H1 Δ1 k1 s1 r1 hq_=>by
  obtain⟨b,e,p1⟩:=hq_;subst e;cases r1.inv;exact⟨b,rfl,c _ _ G1 H1 Δ1 k1 s1 (.bl !b) p1⟩
theorem Zjq {to te:TE}(h:JE K to Δ λd Δ1=>∃ns:List Int,d=.tup (ns.map D.int)/\JE K te Δ1 λe Δ2=>∃i j,e=.int i/\ns[j]?=some i/\(∀m,m<j->ns[m]?≠some i)/\P (.int (j:Nat)) Δ2) :
  JE K (tBM K "tuple" (rIndexT K) to (tCons te tNil)) Δ P:=λg G H σ Q k c=>
 h g G H σ _ k λv d G1 H1 Δ1 k1 s1 r1 hq_=>by
  obtain⟨ns,e,p1⟩:=hq_;subst e;obtain⟨a,vs,rfl,ha,rs⟩:=r1.inv
  next=>
   refine⟨.inr (.inl ⟨rfl,.inr ⟨_,k1.live _ _ ha⟩⟩),p1 g G1 H1 σ _ k1 λu e G2 H2 Δ2 k2 s2 r2 ⟨i,j,q1,q2,q3,p⟩=>?_⟩;subst q1;cases r2.inv;have ev:vs=ns.map V.int:=rs.ints;subst ev;have hj:j<ns.length:=(Wai.mp q2).1;refine⟨a,_,.int i,j,rfl,rfl,SqT.of (k2.live _ _ (s2 _ _ ha)),rfl,?_,by simpa using hj,⟨.int i,by rw[Wal,q2];rfl,by simp[eqV]⟩,λm z hm hz=>?_,c _ _ G2 H2 Δ2 k2 (s1.trans s2) (.int _) p⟩
   ·rw[List.all_map];exact Wbq.mpr λ_ _=>rfl
   ·rw[Wal]at hz
    cases e:ns[m]? with
    |none=>rw[e]at hz;cases hz
    |some w=>
     rw[e]at hz;have hz:V.int w=z:=by simpa using hz
     subst hz;have hne:w≠i:=λq=>q3 m hm (by rw[e,q]);show (w == i)=false;exact beq_eq_false_iff_ne.mpr hne
end
section
variable {K:W.Frag}{g:Gm}{G H:Hp}{σ:St}{Δ:Evt}
theorem Ok.setVal' (k:Ok K g G H σ Δ) {v:V}{d:D}(i:Nat) (r:Rep K G v d):Ok K g G H (σ.set i (some v)) (Δ.set i (.val d)):=by
 by_cases hi:i < Δ.length
 ·exact k.setVal hi r
 ·have hl:=k.len
  rw[Wby (l:=σ) (by omega),Wby (l:=Δ) (by omega)];exact k
theorem Ok.setOwn' (k:Ok K g G H σ Δ) {a:Addr}{od:OD}(i:Nat) (p:Pend K g G H σ Δ a od):Ok K g G H (σ.set i (some (.ref a))) (Δ.set i (.own od)):=by
 by_cases hi:i < Δ.length
 ·exact k.setOwn hi p
 ·have hl:=k.len
  rw[Wby (l:=σ) (by omega),Wby (l:=Δ) (by omega)];exact k
theorem Zop {te:TE}{i:Nat}{P:Pst}(h:JE K te Δ λd Δ1=>P.nx (Δ1.set i (.val d))):JS K (tAsg te (gName i)) Δ P:=λg G H σ E k c=>
 h g G H σ _ k λv d G1 H1 Δ1 k1 s1 r1 p1=>c.nx _ G1 H1 _ (k1.setVal' i r1) p1
theorem Zl8 {te:TE}{i:Nat}{P:Pst}(h:JO K te Δ λod Δ1=>P.nx (Δ1.set i (.own od))):JS K (tAsg te (gName i)) Δ P:=λg G H σ E k c=>
 h g G H σ _ k λa od G1 H1 Δ1 k1 s1 pd p1=>c.nx _ G1 H1 _ (k1.setOwn' i pd) p1
theorem Zl6 {i j:Nat}{ta:TA}{P:Pst}(h:JA K ta Δ λds Δ1=>∃d e,ds=[d,e]/\P.nx ((Δ1.set i (.val d)).set j (.val e))):JS K (tPar i j ta) Δ P:=λg G H σ E k c=>
 h g G H σ _ k λvs ds G1 H1 Δ1 k1 s1 r1 hq_=>by
  obtain⟨d,e,hd,p1⟩:=hq_;subst hd;obtain⟨_,_,rfl,ra,rr⟩:=r1.inv
  next=>
   obtain⟨_,_,rfl,rb,rr⟩:=rr.inv
   next=>
    cases rr.inv;exact⟨_,_,rfl,c.nx _ G1 H1 _ ((k1.setVal' i ra).setVal' j rb) p1⟩
theorem Zbs {i:Nat}{d:D}{P:Evt->Prop}(p:P (Δ.set i (.val d))):JG K (gName i) d Δ P:=λg G H σ v R k r c=>c _ G H _ (k.setVal' i r) (Same.refl _) p
theorem Zen {n i:Nat}{d:D}{P:Evt->Prop}(hn:i<n) (p:P (Δ.set i (.val d))):JGn K n (gName i) d Δ P:=λg G H σ v R k r c=>
 c _ G H _ (k.setVal' i r) (Same.refl _) (λj hj=>Wah (by omega)) p
theorem Zok {n:Nat}{te:TE}{Pp:Pst}{x:Slot}{ds0:List D}(hx:Δ[n]?=some x) (ho:x.od=some (.lst ds0))
  (h:JE K te Δ λd Δ1=>∃y ds,Δ1[n]?=some y/\y.od=some (.lst ds)/\ds.length<sizeLine/\Pp.nx (Δ1.set n (y.put (.lst (ds++[d]))))) :
  JS K (tDrop (tBM K "list" rAppend (tVar n) (tCons te tNil))) Δ Pp:=Zhz hx ho ⟨_,rfl⟩ h
end
section
variable {K:W.Frag}{Δ:Evt}{nx bk ct:Evt->Prop}{rt:D->Evt->Prop}{ro:OD->Evt->Prop}
theorem Zbx (p:nx Δ):JS K tNext Δ ⟨nx,rt,bk,ct,ro⟩:=Zmj p
theorem Zaq {t u:TS}(h:JS K t Δ ⟨λΔ1=>JS K u Δ1 ⟨nx,rt,bk,ct,ro⟩,rt,bk,ct,ro⟩):JS K (tSeq t u) Δ ⟨nx,rt,bk,ct,ro⟩:=Zlg h
theorem Zba {t u:TS}(I:Evt->Prop) (h1:JS K t Δ ⟨I,rt,bk,ct,ro⟩) (h2:∀Δ1,I Δ1->JS K u Δ1 ⟨nx,rt,bk,ct,ro⟩):JS K (tSeq t u) Δ ⟨nx,rt,bk,ct,ro⟩:=
 Zlg (h1.mono h2 (λ_ _ z=>z) (λ_ z=>z) (λ_ z=>z) λ_ _ z=>z)
theorem Za6 {te:TE}(h:JE K te Δ rt):JS K (tRet te) Δ ⟨nx,rt,bk,ct,ro⟩:=Zoa h
theorem Zii {te:TE}(h:JO K te Δ ro):JS K (tRet te) Δ ⟨nx,rt,bk,ct,ro⟩:=Zlx h
theorem Zne {te:TE}(h:JE K te Δ λ_ Δ1=>nx Δ1):JS K (tDrop te) Δ ⟨nx,rt,bk,ct,ro⟩:=Zl2 h
theorem Zec {c:TT}{t u:TS}(h:JT K c Δ λb Δ1=>if b=true then JS K t Δ1 ⟨nx,rt,bk,ct,ro⟩ else JS K u Δ1 ⟨nx,rt,bk,ct,ro⟩):JS K (tIfS c t u) Δ ⟨nx,rt,bk,ct,ro⟩:=Zp7 h
theorem Zar {te:TE}{i:Nat}(h:JE K te Δ λd Δ1=>nx (Δ1.set i (.val d))):JS K (tAsg te (gName i)) Δ ⟨nx,rt,bk,ct,ro⟩:=Zop h
theorem Zcv {te:TE}{i:Nat}(h:JO K te Δ λod Δ1=>nx (Δ1.set i (.own od))):JS K (tAsg te (gName i)) Δ ⟨nx,rt,bk,ct,ro⟩:=Zl8 h
theorem Zfz {i j:Nat}{ta:TA}(h:JA K ta Δ λds Δ1=>∃d e,ds=[d,e]/\nx ((Δ1.set i (.val d)).set j (.val e))):JS K (tPar i j ta) Δ ⟨nx,rt,bk,ct,ro⟩:=Zl6 h
theorem Zla {te:TE}{t:TG}(h:JE K te Δ λd Δ1=>JG K t d Δ1 nx):JS K (tAsg te t) Δ ⟨nx,rt,bk,ct,ro⟩:=Znm h
theorem Zh9 {n:Nat}{te:TE}{x:Slot}{ds0:List D}(hx:Δ[n]?=some x) (ho:x.od=some (.lst ds0))
  (h:JE K te Δ λd Δ1=>∃y ds,Δ1[n]?=some y/\y.od=some (.lst ds)/\ds.length<sizeLine/\nx (Δ1.set n (y.put (.lst (ds++[d]))))) :
  JS K (tDrop (tBM K "list" rAppend (tVar n) (tCons te tNil))) Δ ⟨nx,rt,bk,ct,ro⟩:=Zok hx ho h
theorem Zkl {n:Nat}{ti te:TE}(h:JE K te Δ λd Δ1=>(∃x ds,Δ1[n]?=some x/\x.od=some (.lst ds))/\JE K ti Δ1 λe Δ2=>∃x ds i j,Δ2[n]?=some x/\x.od=some (.lst ds)/\e=.int i/\ixN ds.length i=some j/\nx (Δ2.set n (x.put (.lst (ds.set j d))))) :
  JS K (tAsg te (gSub (tVar n) ti rSetU)) Δ ⟨nx,rt,bk,ct,ro⟩:=Zi6 (h.mono λd Δ1 ⟨⟨x,ds,h1,h2⟩,h3⟩=>⟨⟨x,_,h1,h2⟩,h3⟩)
theorem Zdf {wi:TI}{t:TG}{tb:TS}(h:JI K wi Δ λds Δ1=>∃I:Nat->Evt->Prop,I 0 Δ1/\(∀i d Δ2,ds[i]?=some d->I i Δ2->JG K t d Δ2 λΔ3=>JS K tb Δ3 ⟨I (i+1),rt,nx,I (i+1),ro⟩)/\∀Δ2,I ds.length Δ2->nx Δ2) :
  JS K (tFor wi t tb) Δ ⟨nx,rt,bk,ct,ro⟩:=Zoi h
theorem Zkv {c:TT}{tb:TS}(I:Nat->Evt->Prop) (h0:∃m,I m Δ) (ht:∀m Δ1,I m Δ1->JT K c Δ1 λb Δ2=>if b=true then JS K tb Δ2 ⟨λΔ3=>∃m',m'<m/\I m' Δ3,rt,nx,λΔ3=>∃m',m'<m/\I m' Δ3,ro⟩ else nx Δ2) :
  JS K (tWhile c tb) Δ ⟨nx,rt,bk,ct,ro⟩:=Zjz I h0 ht
end
theorem Zmf {α β:Type}{f:α -> β}{xs:List α}{i:Int}(h0:0<=i) (h1:i<(xs.length:Int)):∃c,xs[i.toNat]?=some c/\atI (xs.map f) i=some (f c):=by
 have hk:i.toNat<xs.length:=by omega
 have e:i=((i.toNat:Nat):Int):=by omega
 have q:xs[i.toNat]?=some xs[i.toNat]:=Wab hk;generalize xs[i.toNat]=c at q;refine⟨c,q,?_⟩;have z:atI (xs.map f) ((i.toNat:Nat):Int)=some (f c):=Zef (by rw[Wal,q];rfl);rw[<- e]at z;exact z
theorem Zi7:bootBuiltins "abs" = some (.builtin "abs"):=by decide +kernel
theorem Zb8:bootBuiltins "len" = some (.builtin "len"):=by decide +kernel
theorem Zpb:bootBuiltins "min" = some (.builtin "min"):=by decide +kernel
theorem Zaj:bootBuiltins "isinstance" = some (.builtin "isinstance"):=by decide +kernel
theorem Zfe:bootBuiltins "divmod" = some (.builtin "divmod"):=by decide +kernel
theorem Zed:bootBuiltins "tuple" = some (.type "tuple"):=by decide +kernel
theorem Zk9:bootBuiltins "int" = some (.type "int"):=by decide +kernel
theorem Zi8:bootBuiltins "bool" = some (.type "bool"):=by decide +kernel
theorem Zpc:bootBuiltins "str" = some (.type "str"):=by decide +kernel
structure Callee (P:Program) (w:World) (K:W.Frag) (mg:Str->Option Value) (base:Heap) (k:Nat) (x:Str) (ps:List Str) (sp:Sp):Prop where
 ex:∃(f:Addr) (fd:FuncData),FnOk P w K mg base CX0 k f fd ps sp/\Binds K fd ps []/\W.keepIn K (.ref f)=true/\mg x=some (.ref f)
section
variable {X:Cx}{k:Nat}{x:Str}{ps:List Str}{sp:Sp}{e:Expr}{es:List Expr}{t:TA}{p pos:Pos}
theorem Zbb (C:Callee X.prog X.w X.K X.mg X.base k x ps sp) (hr:Room k X.A) (ha:PA X (e::es) t) (hg:Gl X x:=by rfl) (hdb:(x == ("__debug__":Str))=false:=by decide)
  (he:starEach (e::es) X.env=(false,eval e X.env)::starEach es X.env:=by rfl) (hpl:(backTo pos (starEach es X.env)).any (·.1)=false:=by rfl):PE X (.Call (.Name x p) (e::es) [] pos) (tCall sp [] E0 t):=by
 obtain⟨f,fd,F,b,kp,m⟩:=C.ex;exact Zhp F hr hg m kp b .nil pass0 ha hdb he hpl
end
def fixD (sel:List Nat) (Δ:Evt):Evt:=sel.map λi=>(Δ[i]?).getD .any
theorem Zc2 {n:Nat}{sel:List Nat}{ts Δ:Evt}(ht:ts.length=n):backD n sel (ts++fixD sel Δ) 0 Δ = Δ:=by
 apply Wcf;intro i;rw[Zbq];cases q:Δ[i]? with
 |none=>rfl
 |some x=>
  show some (backAt n sel (ts++fixD sel Δ) (0+i) x)=some x;congr 1;rw[Nat.zero_add];have key:∀j,sel.idxOf? i=some j->(ts++fixD sel Δ)[n+j]?=some x:=λj hj=>by
   rw[Wap (by omega),ht,Nat.add_sub_cancel_left];unfold fixD;rw[Wal,Zcp hj];show some ((Δ[i]?).getD .any)=_;rw[q];rfl
  unfold backAt;cases x with
  |any=>rfl
  |val d=>rfl
  |own o=>
   dsimp only;cases e:sel.idxOf? i with
   |none=>rfl
   |some j=>dsimp only;rw[key j e]
  |bor o=>
   dsimp only;cases e:sel.idxOf? i with
   |none=>rfl
   |some j=>dsimp only;rw[key j e]
  |ownA a o=>
   dsimp only;cases e:sel.idxOf? i with
   |none=>rfl
   |some j=>dsimp only;rw[key j e]
section
variable {K:W.Frag}{Δ:Evt}{P:D->Evt->Prop}
theorem Zkg {sel:List Nat}{wi:TI}{tc:TT}{te:TE}(hsel:sel.Nodup)
  (h:JI K wi Δ λds Δ1=>ds.length<sizeLine/\∃(p:D->Bool) (f:D->D),
   (∀(i:Nat) d,ds[i]?=some d->JT K tc (.val d::fixD sel Δ1) λb Δ4=>b=p d/\if b=true then JE K te Δ4 λe Δ5=>e=f d/\∃x,Δ5=x::fixD sel Δ1 else ∃x,Δ4=x::fixD sel Δ1) ∧
   P (.lst ((ds.filter p).map f)) Δ1):JE K (tComp 1 sel wi (gName 0) tc te) Δ P:=by
 refine Zgw hsel λg G H σ R k c=>h g G H σ R k λJ ds G' H' Δ' k' s' it ⟨z,p,f,ht,he⟩=>c J ds G' H' Δ' k' s' it ⟨z,fixD sel Δ',p,f,rfl,λi d ts hd hts=>?_,?_⟩
 ·refine Zen (by decide) ?_
  obtain⟨x,rfl⟩:∃x,ts=[x]:=by
   match ts,hts with
   |[x],_=>exact⟨x,rfl⟩
  intro g G H σ Q k c;refine ht i d hd g G H σ Q k λb G1 H1 Δ1 k1 s1 ⟨e1,q⟩=>c b G1 H1 Δ1 k1 s1 ⟨e1,?_⟩;cases b with
  |true=>
   rw[if_pos rfl]at q ⊢;exact q.mono λe Δ5 ⟨e2,x,e3⟩=>⟨e2,[x],rfl,e3⟩
  |false=>
   rw[if_neg Wak]at q ⊢;obtain⟨x,e3⟩:=q;exact⟨[x],rfl,e3⟩
 ·rw[Zc2 (by simp)];exact he
theorem Zkk {sel:List Nat}{wi:TI}{tc:TT}{te:TE}{Po:OD->Evt->Prop}(hsel:sel.Nodup)
  (h:JI K wi Δ λds Δ1=>ds.length<sizeLine/\∃(p:D->Bool) (f:D->D),
   (∀(i:Nat) d,ds[i]?=some d->JT K tc (.val d::fixD sel Δ1) λb Δ4=>b=p d/\if b=true then JE K te Δ4 λe Δ5=>e=f d/\∃x,Δ5=x::fixD sel Δ1 else ∃x,Δ4=x::fixD sel Δ1) ∧
   Po (.lst ((ds.filter p).map f)) Δ1):JO K (tComp 1 sel wi (gName 0) tc te) Δ Po:=by
 refine Zh0 hsel λg G H σ R k c=>h g G H σ R k λJ ds G' H' Δ' k' s' it ⟨z,p,f,ht,he⟩=>c J ds G' H' Δ' k' s' it ⟨z,λi ys Δ=>ys=((ds.take i).filter p).map f/\∃x,Δ = x::fixD sel Δ',⟨by simp,.any,rfl⟩,?_,?_⟩
 ·rintro i d ys Δ2 hd ⟨rfl,x,rfl⟩
  have tk:ds.take (i+1)=ds.take i++[d]:=by
   rw[Wct,hd];rfl
  refine Zen (by decide) ?_;intro g G H σ Q k c;refine ht i d hd g G H σ Q k λb G1 H1 Δ1 k1 s1 ⟨e1,q⟩=>c b G1 H1 Δ1 k1 s1 ?_;cases b with
  |true=>
   rw[if_pos rfl]at q ⊢;refine q.mono λe Δ5 ⟨e2,x,e3⟩=>⟨?_,x,e3⟩;rw[tk,Wb7,Wbv,Wch,<- e1,e2];rfl
  |false=>
   rw[if_neg Wak]at q ⊢;obtain⟨x,e3⟩:=q;refine⟨?_,x,e3⟩;rw[tk,Wb7,Wbv,Wch,<- e1];simp
 ·rintro ys Δ2 ⟨rfl,x,rfl⟩
  rw[List.take_length,show (x::fixD sel Δ')=[x]++fixD sel Δ' from rfl,Zc2 (by simp)];exact he
theorem Zj7 {sel:List Nat}{wi:TI}{tc:TT}{te:TE}(hsel:sel.Nodup)
  (h:JI K wi Δ λds Δ1=>ds.length<sizeLine/\∃(p:D->Bool) (f:D->D),
   (∀(i:Nat) d,ds[i]?=some d->∃a b,d=.tup [a,b]/\JT K tc (.val a::.val b::fixD sel Δ1) λt Δ4=>t=p d/\if t=true then JE K te Δ4 λe Δ5=>e=f d/\∃x y,Δ5=x::y::fixD sel Δ1 else ∃x y,Δ4=x::y::fixD sel Δ1) ∧
   P (.lst ((ds.filter p).map f)) Δ1):JE K (tComp 2 sel wi (gTup K 2 (gCons (gName 0) (gCons (gName 1) gNil))) tc te) Δ P:=by
 refine Zgw hsel λg G H σ R k c=>h g G H σ R k λJ ds G' H' Δ' k' s' it ⟨z,p,f,ht,he⟩=>c J ds G' H' Δ' k' s' it ⟨z,fixD sel Δ',p,f,rfl,λi d ts hd hts=>?_,?_⟩
 ·obtain⟨a,b,rfl,hj⟩:=ht i d hd
  refine Zme rfl (Zfo (Zen (by decide) (Zfo (Zen (by decide) (Zkr ?_)))));obtain⟨x,y,rfl⟩:∃x y,ts=[x,y]:=by
   match ts,hts with
   |[x,y],_=>exact⟨x,y,rfl⟩
  intro g G H σ Q k c;refine hj g G H σ Q k λb G1 H1 Δ1 k1 s1 ⟨e1,q⟩=>c b G1 H1 Δ1 k1 s1 ⟨e1,?_⟩;cases b with
  |true=>
   rw[if_pos rfl]at q ⊢;exact q.mono λe Δ5 ⟨e2,x,y,e3⟩=>⟨e2,[x,y],rfl,e3⟩
  |false=>
   rw[if_neg Wak]at q ⊢;obtain⟨x,y,e3⟩:=q;exact⟨[x,y],rfl,e3⟩
 ·rw[Zc2 (by simp)];exact he
end
section
variable {X:Cx}(K:W.Frag)
theorem ixK (hu:X.A.units+1<cLine) (hK:X.K=K:=by rfl):IxR X (rIxU K):=hK ▸ ixU hu
theorem slK (hK:X.K=K:=by rfl):SlR X (rSlU K):=hK ▸ slU
theorem addK (hK:X.K=K:=by rfl):OpR X (binaryOp .Add) (rAddU K):=hK ▸ Zm3
theorem lenK (hK:X.K=K:=by rfl):CallR X (.builtin "len") (rLenU K):=hK ▸ Ziz
def rTup (K:W.Frag):List V->Hp->VK->Prop:=λxs H Q=>∃p ys,xs=[.ref p]/\((SqL K H p ys/\∀l,H l=none->Q (.ref l) (upd H l (.tup ys)))\/(SqT K H p ys/\Q (.ref p) H))
theorem tupK (hK:X.K=K:=by rfl):CallR X (.type "tuple") (rTup K):=hK ▸ Zeh
def rLst (K:W.Frag):List V->Hp->VK->Prop:=λxs H Q=>∃p ys,xs=[.ref p]/\(SqL K H p ys\/SqT K H p ys)/\∀l,H l=none->Q (.ref l) (upd H l (.lst ys))
theorem seqK {tg l:Expr}{tl:TE}(hl:PE X l tl) (hK:X.K=K:=by rfl):PI X tg l (iSeq K tl):=hK ▸ Znr hl
theorem truK {a:Expr}{ta:TE}(ha:PE X a ta) (he:∀whole,isTrue a X.env whole=(do let v ← whole;standAt a.pos;holding [v] (truthy v))) (hK:X.K=K:=by rfl):PT X a (tTru K ta):=hK ▸ Znl ha he
theorem gtupK {es:List Expr}{k:Nat}{t:TGs}{n:Nat}{pos:Pos}(hc:X.calm=true) (h:PGs X es t)
  (hn:(assignEach es X.env).length=n:=by rfl) (hst:(assignEach es X.env).findIdx? (·.1)=none:=by rfl) (hK:X.K=K:=by rfl):PG X (.Tuple es k pos) (gTup K n t):=hK ▸ Zog hc h hn hst
variable {o e:Expr}{es:List Expr}{to:TE}{t:TA}{name:Str}{apos cpos:Pos}{T id:String}{r:V->List V->Hp->VK->Prop}
theorem bmK (pa:PlainAttrs T) (slot:PySem.Slot T name id) (hty:typeOf (.builtin id)=pure (.type "method_descriptor")) (hm:MtR X id r) (ho:PE X o to) (ha:PA X (e::es) t)
  (hbase:attributeBase o name X.env (eval o X.env)=eval o X.env:=by rfl)
  (hfew:((backTo cpos (starEach (e::es) X.env)).all (λx=>!x.1) && (backToKw cpos (keywordEach [] X.env)).all (λx=>x.1.isSome)
   && decide ((e::es).length+([]:List Keyword).length+(if ([]:List Keyword).isEmpty then 0 else 1)<30))=true:=by rfl)
  (hline:(apos.endLine == cpos.line)=true:=by rfl) (hs:starEach (e::es) X.env=(false,eval e X.env)::starEach es X.env:=by rfl) (hplain:(backTo cpos (starEach es X.env)).any (·.1)=false:=by rfl) (hK:X.K=K:=by rfl) :
  PE X (.Call (.Attribute o name apos) (e::es) [] cpos) (tBM K T r to t):=hK ▸ Zp3 pa slot hty hm ho ha hbase hfew hline hs hplain
end
section
variable {K:W.Frag}{Δ:Evt}{P:D->Evt->Prop}
theorem Ze6 {ds es:List D}(he:ds=[.lst es]\/ds=[.tup es]) (p:P (.tup es) Δ):JC K (rTup K) ds Δ P:=Zkp he p
theorem Zk7 {ds es:List D}(he:ds=[.lst es]\/ds=[.tup es]) (p:P (.lst es) Δ):JC K (rLst K) ds Δ P:=λg G H σ Q vs k rs c=>by
 rcases he with he|he <;> subst he
 ·obtain⟨_,_,rfl,r,t⟩:=rs.inv
  next=>
   cases t.inv;obtain⟨_,_,rfl,ha,rs⟩:=r.inv
   next=>
    refine⟨_,_,rfl,.inl (SqL.of (k.live _ _ ha)),λl hl=>?_⟩;obtain⟨k2,sg⟩:=k.laid hl (.lst _);exact c _ _ _ _ Δ k2 sg (.lst Zai (rs.mono sg)) p
 ·obtain⟨_,_,rfl,r,t⟩:=rs.inv
  next=>
   cases t.inv;obtain⟨_,_,rfl,ha,rs⟩:=r.inv
   next=>
    refine⟨_,_,rfl,.inr (SqT.of (k.live _ _ ha)),λl hl=>?_⟩;obtain⟨k2,sg⟩:=k.laid hl (.lst _);exact c _ _ _ _ Δ k2 sg (.lst Zai (rs.mono sg)) p
end
def fLaw:DSp:=λds Post=>∃ns:List Int,ds=[.scr (ns.map .int)]/\ns.length<=63/\Post (.bl true)
def SqB (b:Bool) (K:W.Frag) (H:Hp) (a:Addr) (xs:List V):Prop:=match b with|true=>SqT K H a xs|false=>SqL K H a xs
def ItB (b:Bool) (h:Heap) (j a:Addr) (i:Nat):Prop:=match b with|true=>h.IsTupleIter j a i|false=>h.IsListIter j a i
def HsB (b:Bool) (h:Heap) (a:Addr) (ws:Array Value):Prop:=match b with|true=>h.IsTuple a ws|false=>h.IsList a ws
theorem ItB.at {b:Bool}{h h':Heap}{j a:Addr}{i:Nat}(x:ItB b h j a i) (e:∀o,h.get? j=some o->h'.get? j=some o):ItB b h' j a i:=by
 cases b
 ·exact Heap.IsListIter.at (show h.IsListIter j a i from x) e
 ·exact Heap.IsTupleIter.at (show h.IsTupleIter j a i from x) e
theorem ItB.off {b:Bool}{h h':Heap}{j a c:Addr}{i:Nat}(x:ItB b h j a i) (e:Heap.ExtBut c h h') (n:j≠c):ItB b h' j a i:=x.at λo q=>e j o n q
theorem ItB.obj {b:Bool}{h:Heap}{j a:Addr}{i:Nat}(x:ItB b h j a i):∃o,h.get? j=some o/\o.data=.fields #[.ref a,.int i 0]:=by
 cases b <;> (obtain⟨o,e,_,d⟩:=x;exact⟨o,e,d⟩)
theorem Inv.seqB {X:Cx}{pins:List (Addr × Obj)}{σ:St}{H:Hp}{s:Shared}{b:Bool}{a:Addr}{xs:List V}(I:Inv X pins σ H s) (h:SqB b X.K H a xs):∃its:List Value,Vals xs its/\HsB b s.heap a its.toArray:=by
 cases b
 ·obtain⟨its,r,p,_⟩:=I.list h
  exact⟨its,r,p.isList⟩
 ·obtain⟨its,r,p,_⟩:=I.tuple h
  exact⟨its,r,p⟩
theorem Inv.seqB_inj {X:Cx}{pins:List (Addr × Obj)}{σ:St}{H:Hp}{s:Shared}{b:Bool}{a:Addr}{xs ys:List V}(I:Inv X pins σ H s) (h:SqB b X.K H a xs) (h':SqB b X.K H a ys):xs=ys:=by
 cases b
 ·exact I.list_inj h h'
 ·exact I.tuple_inj h h'
section
variable {prog:Program}{w:World}{A:Around}{E:Value->Shared->Prop}{s:Shared}
theorem Zmz {b:Bool}{j a:Addr}{i:Nat}{ws:Array Value}{x:Value}{Q:Value->Shared->Prop}(g:ItB b s.heap j a i) (l:HsB b s.heap a ws) (e:ws[i]?=some x)
  (q:∀h',ItB b h' j a (i+1)->Heap.SameBut j s.heap h' -> Q x { s with heap:=h' }):wpAny (model prog w) A (Builtin.SmallTypes.nextOf (.ref j)) Q E s:=by
 cases b
 ·exact wpAny_nextOf_list_item g l e q
 ·obtain⟨o,g1,g2,g3⟩:=id g
  obtain⟨u,l1,_,n,l2⟩:=l;have ty:s.TypeIs (.ref j) "tuple_iterator":=⟨o,g1,g2⟩;unfold Builtin.SmallTypes.nextOf;refine wpAny_bind (wpAny_callSpecial?_slot (name:=Str.ofString "__next__") ty F.slot_tuple_iterator_next (wpAny_call_entry F.slot_tuple_iterator_next ty F.entry_tuple_iterator_next ?_ (F.args_tuple_iterator_next_1 _)));refine(show wpAny _ _ (field (.ref j) 0 >>= _) _ _ s from wpAny_bind (wpAny_field g1 g3 (x:=.ref a) rfl ?_));refine(show wpAny _ _ (if (Value.ref a == Value.none)=true then _ else _) _ _ s from ?_);rw[if_neg (by exact Wak)];refine(show wpAny _ _ (field (.ref j) 1 >>= _) _ _ s from wpAny_bind (wpAny_field g1 g3 (x:=.int i 0) rfl ?_));refine(show wpAny _ _ (seqItems? (.ref a) >>= _) _ _ s from wpAny_bind (wpAny_seqItems l1 l2 ?_));simp only[Wba,e];refine wpAny_bind (wpAny_setField g1 g3 (by simp) (wpAny_pure ⟨x,rfl,wpAny_pure (q _ ⟨_,Wa6 _ g1 (Obj.isFreed_of_fields (Obj.data_mapFields g3 _)),(Obj.cls_mapFields ..).trans g2,?_⟩ (Heap.SameBut.update ..))⟩));rw[Obj.data_mapFields g3];simp[rawInt]
theorem Znw {b:Bool}{j a:Addr}{i:Nat}{ws:Array Value}{Q:Value->Shared->Prop}(hh:A.handled=none) (g:ItB b s.heap j a i) (l:HsB b s.heap a ws) (e:ws[i]?=none)
  (q:∀h' x,Heap.ExtBut j s.heap h' -> (∃o,h'.get? x=some o/\o.cls=.type "StopIteration")->E (.ref x) { s with heap:=h' }):wpAny (model prog w) A (Builtin.SmallTypes.nextOf (.ref j)) Q E s:=by
 cases b
 ·exact wpAny_nextOf_list_end hh g l e q
 ·obtain⟨o,g1,g2,g3⟩:=id g
  obtain⟨u,l1,_,n,l2⟩:=l;have ty:s.TypeIs (.ref j) "tuple_iterator":=⟨o,g1,g2⟩;unfold Builtin.SmallTypes.nextOf;refine wpAny_bind (wpAny_callSpecial?_slot (name:=Str.ofString "__next__") ty F.slot_tuple_iterator_next (wpAny_call_entry F.slot_tuple_iterator_next ty F.entry_tuple_iterator_next ?_ (F.args_tuple_iterator_next_1 _)));refine(show wpAny _ _ (field (.ref j) 0 >>= _) _ _ s from wpAny_bind (wpAny_field g1 g3 (x:=.ref a) rfl ?_));refine(show wpAny _ _ (if (Value.ref a == Value.none)=true then _ else _) _ _ s from ?_);rw[if_neg (by exact Wak)];refine(show wpAny _ _ (field (.ref j) 1 >>= _) _ _ s from wpAny_bind (wpAny_field g1 g3 (x:=.int i 0) rfl ?_));refine(show wpAny _ _ (seqItems? (.ref a) >>= _) _ _ s from wpAny_bind (wpAny_seqItems l1 l2 ?_));simp only[Wba,e];refine wpAny_bind (wpAny_rule (wpAny_bind (wpAny_setField g1 g3 (by simp) (show wpAny _ _ (newExc (.type "StopIteration") [] >>= _) _ _ _ from wpAny_bind ?_))));simp only[newExc,newTuple];refine wpAny_bind (wpAny_newObj_type (wpAny_bind (m:=firstArgMember _ _) (wpAny_of_eq (a:=Value.none) (by first|rfl|(simp only[firstArgMember];rfl)) (wpAny_newObj_type ?_ (by size_fits)))) (by size_fits));simp only[raiseNew];refine wpAny_bind (wpAny_handled ?_)
  first|rw[show A.in1.handled=none from hh]|rw[hh]
  exact wpAny_bind (wpAny_pure (wpAny_throw (q _ _ (((Heap.SameBut.update ..).extBut.push _).push _) ⟨_,Wae _ rfl,rfl⟩)))
end
section
abbrev zt1 (h:Heap) (a:Addr):Heap:=h.push ⟨.type "tuple_iterator",none,.fields #[.ref a,.int 0 0],#[]⟩
variable {prog:Program}{w:World}{A:Around}{E:Value->Shared->Prop}{s:Shared}
end
section
variable {X:Cx}
def rIsiU (K:W.Frag):List V->Hp->VK->Prop:=λxs H Q=>rIsi K xs H Q\/∃(x:V) (p:Addr) (ns:List String) (T:String) (b:Bool),xs=[x,.ref p]/\H p=some (.tup (ns.map V.ty))/\TyOf K H x (.type T)/\PySem.W.kitAny K (.type T) (ns.map Value.type)=some b/\Q (.bl b) H
theorem Zg8 {pins:List (Addr × Obj)}{σ:St}{H:Hp}{s:Shared}{x:V}{u t:Value}(I:Inv X pins σ H s) (rx:RelV x u) (ty:TyOf X.K H x t) (nt:∃T,t=.type T):∃Hh:Heap->Prop,PySem.W.KitX X.K u t Hh/\Hh s.heap/\u≠.builtin "__main__.__loader__#opaque":=by
 cases ty with
 |non=>cases (show u=Value.none from rx);exact⟨_,PySem.W.kitx_none,True.intro,λz=>nomatch z⟩
 |bl y=>cases (show u=Value.bool y from rx);exact⟨_,PySem.W.kitx_bool,True.intro,λz=>nomatch z⟩
 |int i=>obtain⟨t,q⟩:=(show ∃t,u=Value.int i t from rx);cases q;exact⟨_,PySem.W.kitx_int,True.intro,λz=>nomatch z⟩
 |str y=>obtain⟨t,q⟩:=(show ∃t,u=Value.str y t from rx);cases q;exact⟨_,PySem.W.kitx_str,True.intro,λz=>nomatch z⟩
 |flt y=>obtain⟨t,q⟩:=(show ∃t,u=Value.float y t from rx);cases q;exact⟨_,PySem.W.kitx_float,True.intro,λz=>nomatch z⟩
 |@lst a xs ea=>
  cases (show u=Value.ref a from rx);obtain⟨_,_,n,_,h1⟩:=(show ObjOk X.prog X.w H s.heap a (.lst xs) from I.hok a _ ea);exact⟨_,PySem.W.kitx_list,⟨_,h1,rfl⟩,λz=>nomatch z⟩
 |@frz a ob xs ea=>
  cases (show u=Value.ref a from rx);obtain⟨_,_,_,n,_,h1⟩:=(show ObjOk X.prog X.w H s.heap a (.frz ob (.lst xs)) from I.hok a _ ea);exact⟨_,PySem.W.kitx_list,⟨_,h1,rfl⟩,λz=>nomatch z⟩
 |@tup a xs ea=>
  cases (show u=Value.ref a from rx);obtain⟨_,_,_,p⟩:=(show ObjOk X.prog X.w H s.heap a (.tup xs) from I.hok a _ ea);obtain⟨o,h1,⟨h2,_⟩,_⟩:=p;exact⟨_,PySem.W.kitx_tuple,⟨o,h1,h2⟩,λz=>nomatch z⟩
 |@dK a kvs ea=>
  cases (show u=Value.ref a from rx);obtain⟨_,_,vs,_,p⟩:=(show ObjOk X.prog X.w H s.heap a (.dK kvs) from I.hok a _ ea);obtain⟨o,es,ep,h1,h2,_⟩:=p;exact⟨_,PySem.W.kitx_dict,⟨o,h1,h2.1⟩,λz=>nomatch z⟩
 |@dT a kvs ea=>
  cases (show u=Value.ref a from rx);obtain⟨_,_,xs,_,o,es,ep,h1,h2,_⟩:=(show ObjOk X.prog X.w H s.heap a (.dT kvs) from I.hok a _ ea);exact⟨_,PySem.W.kitx_dict,⟨o,h1,h2.1⟩,λz=>nomatch z⟩
 |@ins a C dx fs ea cl ha hn htk hm=>obtain⟨T,e⟩:=nt;cases e
theorem isiUK (K:W.Frag) (hK:X.K=K:=by rfl):CallR X (.builtin "isinstance") (rIsiU K):=by
 subst hK;refine CallR.or Zfy ?_;intro pins s σ H xs us Q I r h;obtain⟨x,p,ns,T,b,rfl,hp,ty,e,q⟩:=h;obtain⟨u,u',rfl,rx,rn⟩:=vals2 r;cases (show u'=Value.ref p from rn);obtain⟨Hh,Z,hz,hne⟩:=Zg8 I rx ty ⟨T,rfl⟩;obtain⟨_,its,rv,o,ho,⟨hc,n,hd⟩,hdd⟩:=I.hok p _ hp;have hv:∀(ns:List String) (its:List Value),Vals (ns.map V.ty) its->its=ns.map Value.type:=by
  intro ns
  induction ns with
  |nil=>intro its h;cases h;rfl
  |cons b r ih=>intro its h;cases h with|cons h1 h2=>cases (show _=Value.type b from h1);rw[ih _ h2];rfl
 have e2:=hv ns its rv;subst e2;obtain⟨cls,dd,data,sl⟩:=o;simp only at hc hd hdd;subst hc hd hdd;exact PySem.W.kia_tup Z I.kIn hz ho e hne λtk=>⟨.bl b,H,I.tok _,rfl,q⟩
end
section
variable {K:W.Frag}{Δ:Evt}
theorem Zbj {d:D}{n T:String}{b:Bool}{P:D->Evt->Prop}(ht:tyD d=some T) (e:∀K,PySem.W.kitOne K (.type T) (.type n)=some b) (p:P (.bl b) Δ):JC K (rIsiU K) [d,.ty n] Δ P:=λg G H σ Q vs k rs c=>.inl (Zn6 ht e p g G H σ Q vs k rs c)
end
section
variable {prog:Program}{w:World}{A:Around}{E:Value->Shared->Prop}{s:Shared}
theorem Zlk {b:Bool}{e j a:Addr}{i:Nat}{ws:Array Value}{x old:Value}{Q:Option Value->Shared->Prop}(ge:IsEnum s.heap e j i old) (g:ItB b s.heap j a i) (l:HsB b s.heap a ws) (ex:ws[i]?=some x) (ne:e≠j)
  (q:∀h',IsEnumOut h' e j ((i:Int)+1) x s.heap.objs.size->ItB b h' j a (i+1)->h'.get? s.heap.objs.size=some { cls:=.type "tuple",data:=.seq #[.int i s.toks,x] } →
   (∀c o,c≠e->c≠j->s.heap.get? c=some o->h'.get? c=some o)->Q (some (.ref s.heap.objs.size)) { s with heap:=h',toks:=s.toks+1 }):wpAny (model prog w) A (pyNext (.ref e)) Q E s:=by
 cases b
 ·exact wpAny_pyNext_enum_item ge g l ex ne λh' b1 b2 b3 _ b4=>q h' b1 b2 b3 b4
 obtain⟨hp,g0,d,tk,os⟩:=s;have ty:Shared.TypeIs ⟨hp,g0,d,tk,os⟩ (.ref e) "enumerate":=⟨_,ge,rfl⟩;unfold pyNext;refine wpAny_bind (wpAny_attempt (wpAny_callSpecial?_slot (name:=Str.ofString "__next__") ty F.slot_enumerate_next (wpAny_call_entry F.slot_enumerate_next ty F.entry_enumerate_next ?_ (F.args_enumerate_next_1 _))));refine(show wpAny _ _ (field (.ref e) 2 >>= _) _ _ _ from wpAny_bind (wpAny_field ge rfl (x:=.ref j) rfl (wpAny_bind (Zmz (b:=true) g l ex λh₁ g₁ s₁=>?_))))
 replace s₁:Heap.SameBut j hp h₁:=s₁
 have e₁:IsEnum h₁ e j i old:=(s₁.2 e ne).trans ge;refine(show wpAny _ _ (field (.ref e) 3 >>= _) _ _ ⟨h₁,g0,d,tk,os⟩ from wpAny_bind (wpAny_field e₁ rfl (x:=rawInt i) rfl ?_));refine(show wpAny _ _ (field (.ref e) 4 >>= _) _ _ ⟨h₁,g0,d,tk,os⟩ from wpAny_bind (wpAny_field e₁ rfl (x:=.none) rfl ?_));refine(show wpAny _ _ (mkInt i >>= _) _ _ ⟨h₁,g0,d,tk,os⟩ from wpAny_bind (wpAny_mkInt ?_));refine(show wpAny _ _ (setField (.ref e) 3 (rawInt ((i:Int)+1)) >>= _) _ _ ⟨h₁,g0,d,tk+1,os⟩ from wpAny_bind (wpAny_setField_rec e₁ (by simp) λh₂ e₂ s₂=>?_))
 replace s₂:Heap.SameBut e h₁ h₂:=s₂
 replace e₂:IsEnum h₂ e j ((i:Int)+1) old:=e₂
 refine(show wpAny _ _ (setField (.ref e) 4 .none >>= _) _ _ ⟨h₂,g0,d,tk+1,os⟩ from wpAny_bind (wpAny_setField_rec e₂ (by simp) λh₃ e₃ s₃=>?_))
 replace s₃:Heap.SameBut e h₂ h₃:=s₃
 replace e₃:IsEnum h₃ e j ((i:Int)+1) old:=e₃
 refine(show wpAny _ _ (newTuple [.int i tk,x] >>= _) _ _ ⟨h₃,g0,d,tk+1,os⟩ from wpAny_bind (wpAny_newTuple ?_));have e₄:IsEnum (h₃.push { cls:=.type "tuple",data:=.seq #[.int i tk,x] }) e j ((i:Int)+1) old:=Waa _ e₃;generalize eh₄:h₃.push { cls:=.type "tuple",data:=.seq #[.int i tk,x] } = h₄ at e₄;have n3:h₃.objs.size=hp.objs.size:=by rw[s₃.1,s₂.1,s₁.1]
 have el:e<hp.objs.size:=Waf ge;have t₄:h₄.get? hp.objs.size=some { cls:=.type "tuple",data:=.seq #[.int i tk,x] }:=by rw[<- eh₄,<- n3];exact Wae _ rfl
 have k₄:∀c o,c≠e->c≠j->hp.get? c=some o->h₄.get? c=some o:=λc o c1 c2 z=>by rw[<- eh₄];exact Waa _ (s₃.extBut c o c1 (s₂.extBut c o c1 (s₁.extBut c o c2 z)))
 have g₄:ItB true h₄ j a (i+1):=by rw[<- eh₄];exact((g₁.off s₂.extBut (Ne.symm ne)).off s₃.extBut (Ne.symm ne)).at λo z=>Waa _ z
 refine(show wpAny _ _ (Builtin.SmallTypes.ownedTupleIsFree (.ref e) >>= _) _ _ ⟨h₄,g0,d,tk+1,os⟩ from ?_);rw[n3];clear eh₄ e₃ s₃ e₂ s₂ e₁ s₁ g₁ n3 h₃ h₂ h₁;refine wpAny_bind ?_;unfold Builtin.SmallTypes.ownedTupleIsFree;refine wpAny_bind (wpAny_field e₄ rfl (x:=.none) rfl (wpAny_pure ?_));simp only[if_true];refine wpAny_bind (wpAny_rule (wpAny_bind (wpAny_field e₄ rfl (x:=old) rfl (wpAny_bind (wpAny_setField_rec e₄ (by simp) λh₅ e₅ s₅=>?_)))))
 replace s₅:Heap.SameBut e h₄ h₅:=s₅
 replace e₅:IsEnum h₅ e j ((i:Int)+1) x:=e₅
 refine(show wpAny _ _ (Builtin.SmallTypes.ownedTupleHandOut (.ref e) (.ref hp.objs.size) >>= _) _ _ ⟨h₅,g0,d,tk+1,os⟩ from wpAny_bind ?_);unfold Builtin.SmallTypes.ownedTupleHandOut;refine wpAny_bind (wpAny_setField_rec e₅ (by simp) λh₆ e₆ s₆=>?_)
 replace s₆:Heap.SameBut e h₅ h₆:=s₆
 replace e₆:IsEnumOut h₆ e j ((i:Int)+1) x hp.objs.size:=e₆
 refine wpAny_setField_rec e₆ (by simp) λh₇ e₇ s₇=>?_
 replace s₇:Heap.SameBut e h₆ h₇:=s₇
 replace e₇:IsEnumOut h₇ e j ((i:Int)+1) x hp.objs.size:=e₇
 have up:∀c o,c≠e->h₄.get? c=some o->h₇.get? c=some o:=λc o c1 z=>s₇.extBut c o c1 (s₆.extBut c o c1 (s₅.extBut c o c1 z));exact wpAny_bind (wpAny_letGo (wpAny_pure ⟨_,rfl,wpAny_pure (q h₇ e₇ (g₄.at λo z=>up j o (Ne.symm ne) z) (up _ _ (Wca el) t₄) λc o c1 c2 z=>up c o c1 (k₄ c o c1 c2 z))⟩))
theorem Zns {b:Bool}{e j a:Addr}{i:Nat}{ws:Array Value}{old:Value}{Q:Option Value->Shared->Prop}(hh:A.handled=none) (ge:IsEnum s.heap e j i old) (g:ItB b s.heap j a i) (l:HsB b s.heap a ws) (ex:ws[i]?=none)
  (q:∀h',Heap.ExtBut j s.heap h' -> Q none { s with heap:=h' }):wpAny (model prog w) A (pyNext (.ref e)) Q E s:=by
 have ty:s.TypeIs (.ref e) "enumerate":=⟨_,ge,rfl⟩;unfold pyNext;refine wpAny_bind (wpAny_attempt (wpAny_callSpecial?_slot (name:=Str.ofString "__next__") ty F.slot_enumerate_next (wpAny_call_entry F.slot_enumerate_next ty F.entry_enumerate_next ?_ (F.args_enumerate_next_1 _))));refine(show wpAny _ _ (field (.ref e) 2 >>= _) _ _ _ from wpAny_bind (wpAny_field ge rfl (x:=.ref j) rfl (wpAny_bind (Znw hh g l ex λh' x e' ⟨o,ho,hc⟩=>?_))));exact wpAny_bind (wpAny_isInstance (T:="StopIteration") (b:=true) ⟨o,ho,hc⟩ isSubtype_stop (wpAny_pure (q _ e')))
theorem Zkn (a:Addr) (ws:Array Value) (n:Nat) (dct:Option Addr) (sl:Array (Option Value)) :
  Meets (Builtin.«enumerate.__new__» ⟨[.type "enumerate",.ref a],[]⟩) (λ_ R s=>s.heap.get? a=some ⟨.type "tuple",dct,.seq ws n,sl⟩ ∧
   R (.ok (.ret (.ref (zt1 s.heap a).objs.size))) { s with heap:=(zt1 s.heap a).push ⟨.type "enumerate",none,.fields #[.none,.bool false,.ref s.heap.objs.size,rawInt 0,.none,.none],#[]⟩ }):=.of_wp λprog w A R s h=>by
 obtain⟨hp,g,d,tk,os⟩:=s;obtain⟨l,h⟩:=h;have sub0:=sub_enumerate;have t0:Heap.IsTuple (Shared.heap ⟨hp,g,d,tk,os⟩) a ws:=⟨_,l,rfl,n,rfl⟩
 wp_walk using AutoSeq1.wpAny_loadPart' l
 refine wpAny_stack_any λst=>wpAny_pure ?_;split
 ·rename_i c _ _ _ _ _
  cases (c == Value.type "enumerate") <;> (wp_walk using AutoSeq1.wpAny_loadPart' l,wpAny_pyIter_tuple t0;exact⟨_,rfl,h⟩)
 ·wp_walk using AutoSeq1.wpAny_loadPart' l,wpAny_pyIter_tuple t0
  exact⟨_,rfl,h⟩
theorem Zmp {b:Bool}{a:Addr}{ws:Array Value}{Q:Value->Shared->Prop}(l:HsB b s.heap a ws)
  (q:∀h',IsEnum h' (s.heap.objs.size+1) s.heap.objs.size 0 .none->ItB b h' s.heap.objs.size a 0->(∀c o,s.heap.get? c=some o->h'.get? c=some o)->Q (.ref (s.heap.objs.size+1)) { s with heap:=h' }):wpAny (model prog w) A (call (.type "enumerate") [.ref a]) Q E s:=by
 cases b
 ·exact call_enumerate_list l λh' b1 b2 _ b3=>q h' b1 b2 b3
 ·obtain⟨⟨oc,od,oda,os⟩,l1,hc,n,hd⟩:=l
  dsimp only at hc hd;subst hc hd;refine callType_new F.called_enumerate (by decide) (F.typeCall_enumerate_1 _) (F.newCall_enumerate_1 _) (λobj=>F.args_object_init_2 obj _) F.entry_enumerate_new (Zkn a ws n od os) ⟨l1,?_⟩;have z1:(zt1 s.heap a).objs.size=s.heap.objs.size+1:=Wbw ..;show _/\_;rw[z1];have he:IsEnum ((zt1 s.heap a).push ⟨.type "enumerate",none,.fields #[.none,.bool false,.ref s.heap.objs.size,rawInt 0,.none,.none],#[]⟩) (s.heap.objs.size+1) s.heap.objs.size 0 .none:=by
   rw[<- z1];exact Wae _ rfl
  exact⟨⟨_,he,rfl⟩,q _ he ⟨_,Waa _ (Wae _ rfl),rfl,rfl⟩ λc o z=>Waa _ (Waa _ z)⟩
end
def Ieb (b:Bool) (K:W.Frag) (l:Addr):It:=
 ⟨λi H=>∃xs x,SqB b K H l xs/\xs[i]?=some x,
  λi H v H'=>∃p x,H p=none/\v=.ref p/\H'=upd H p (.tup [.int (i:Int),x])/\∀xs,SqB b K H l xs->xs[i]?=some x,
  λi H=>∃xs,SqB b K H l xs/\xs.length<=i⟩
theorem Zni {b:Bool}{P:Program}{w:World}{K:W.Frag}{es:List Expr}{kk:Nat}{tp:Pos}(l z j:Addr) (D:z≠j):Turn P w K (.Tuple es kk tp) (Ieb b K l) [z,j] z
  (λi h=>(∃old,IsEnum h z j i old)/\ItB b h j l i) where
 mem:=by simp
 obj:=λi h st b2 hb=>by
  obtain⟨⟨old,hz⟩,h1⟩:=st;obtain⟨o1,e1,d1⟩:=h1.obj;simp only[Wat,Wbe,or_false]at hb;rcases hb with rfl|rfl
  ·exact⟨_,hz,λv q=>by cases q⟩
  ·exact⟨o1,e1,λv q=>by rw[d1]at q;cases q⟩
 keep:=λi h h' st k=>by
  obtain⟨⟨old,hz⟩,h1⟩:=st;exact⟨⟨old,k z (by simp) _ hz⟩,h1.at λo e=>k j (by simp) o e⟩
 item:=by
  intro X hP hw hK hc i pins s σ H E I hf st hg;subst hP hw hK;obtain⟨⟨old,hz⟩,h1⟩:=st;obtain⟨xs,x,hq1,hx⟩:=hg;obtain⟨its1,r1,p1⟩:=I.seqB hq1;obtain⟨u1,hu1,ru1⟩:=r1.get hx;refine Zlk hz h1 p1 (x:=u1) (by simpa using hu1) D λh' b1 b2 b3 hk=>?_;refine⟨_,rfl,wpAny_letOwnedTupleGo_enum (s:={ s with heap:=h',toks:=s.toks+1 }) b1 λh'' hz'' hs''=>?_⟩;have lt:∀{c o},s.heap.get? c=some o->c≠s.heap.objs.size:=λe=>Was (Waf e);have hTz:s.heap.objs.size≠z:=Ne.symm (lt hz);have hTfree:H s.heap.objs.size=none:=I.hok.fresh (Wac _);have kept:∀c o,c ∉ [z,j]->s.heap.get? c=some o->h''.get? c=some o:=λc o hc e=>by
   simp only[Wat,Wbe,or_false,not_or]at hc;exact hs''.extBut _ _ hc.1 (hk c o hc.1 hc.2 e)
  have hT:h''.get? s.heap.objs.size=some { cls:=.type "tuple",data:=.seq #[.int i s.toks,u1] }:=hs''.extBut _ _ hTz b3;have ntr:∀c o,H c=some o->c ∉ [z,j]:=λc o e hc=>by rw[(hf c hc).1]at e;cases e
  have hok:HOk X.prog X.w (upd H s.heap.objs.size (.tup [.int (i:Int),x])) h'':=λc o e=>by
   by_cases hcT:c=s.heap.objs.size
   ·subst hcT
    rw[Zai]at e;cases e;exact⟨by show 2<=sizeLine;decide,[.int i s.toks,u1],.cons ⟨_,rfl⟩ (.cons ru1 .nil),_,hT,⟨rfl,_,rfl⟩,rfl⟩
   ·rw[Zag hcT]at e
    refine(I.hok c o e).stay (λd v hd q=>kept d v ?_ q) (λd q=>by rw[Zag (Zak q hTfree)];exact q) λd zs q=>by rw[Zag (Zak q hTfree)];exact q
    rcases hd with hd|hd
    ·rw[hd];exact ntr c o e
    ·exact ntr d _ hd
  have I2:Inv X pins σ (upd H s.heap.objs.size (.tup [.int (i:Int),x])) { s with heap:=h'',toks:=s.toks+1 }:=by
   refine I.call (g':=s.gens) (t':=s.toks+1) (d':=s.drawn) (ch:=[z,j]) ⟨λc o e n hc hx=>kept c o hx e,λc o e n hc hx=>⟨o.slots,kept c o hx e⟩,λc o e n hx=>by rw[Zag (lt e)];exact n,λc o e hx=>⟨o,kept c o hx e⟩,
    λc zs q=>by rw[Zag (Zak q hTfree)];exact q,λc o zs q=>by rw[Zag (Zak q hTfree)];exact q,λc zs q=>⟨#[],by rw[Zag (Zak q hTfree),q];simp⟩⟩ hok I.bare λc hcc=>?_
   obtain⟨f0,f1,f2,f3,f4,f5⟩:=hf c hcc;exact⟨f3,f1,f4,f5⟩
  refine⟨.ref s.heap.objs.size,_,I2,rfl,⟨s.heap.objs.size,x,hTfree,rfl,rfl,λxs' q1=>?_⟩,⟨⟨_,by have:=hz'';push_cast at this ⊢;exact this⟩,b2.off hs''.extBut (Ne.symm D)⟩,λc hcc=>?_⟩
  ·rw[I.seqB_inj q1 hq1];exact hx
  ·have hcl:c≠s.heap.objs.size:=by
    simp only[Wat,Wbe,or_false]at hcc;obtain⟨_,e1,_⟩:=h1.obj;rcases hcc with rfl|rfl
    ·exact lt hz
    ·exact lt e1
   rw[Zag hcl];exact(hf c hcc).1
 done:=by
  intro X hP hw hK hc i pins s σ H E I hf st hg;subst hP hw hK;obtain⟨⟨old,hz⟩,h1⟩:=st;obtain⟨xs,hq1,hend⟩:=hg;obtain⟨its1,r1,p1⟩:=I.seqB hq1;have l1':=r1.length;refine Zns (I.ok.hd hc) hz h1 p1 (by simp;omega) λh' hk=>⟨rfl,?_⟩;have kept:∀c o,c ∉ [z,j]->s.heap.get? c=some o->h'.get? c=some o:=λc o hc e=>by
   simp only[Wat,Wbe,or_false,not_or]at hc;exact hk c o hc.2 e
  have ntr:∀c o,H c=some o->c ∉ [z,j]:=λc o e hc=>by rw[(hf c hc).1]at e;cases e
  refine I.call (g':=s.gens) (t':=s.toks) (d':=s.drawn) (ch:=[z,j]) ⟨λc o e n hc hx=>kept c o hx e,λc o e n hc hx=>⟨o.slots,kept c o hx e⟩,λc o e n hx=>n,λc o e hx=>⟨o,kept c o hx e⟩,
   λc zs q=>q,λc o zs q=>q,λc zs q=>⟨#[],by rw[q];simp⟩⟩ (λc o e=>?_) I.bare λc hcc=>?_
  ·refine(I.hok c o e).stay (λd v hd q=>kept d v ?_ q) (λd q=>q) λd zs q=>q
   rcases hd with hd|hd
   ·rw[hd];exact ntr c o e
   ·exact ntr d _ hd
  ·obtain⟨f0,f1,f2,f3,f4,f5⟩:=hf c hcc
   exact⟨f3,f1,f4,f5⟩
 self:=λ_ _ _ _ _ st h=>by
  obtain⟨⟨old,hz⟩,_⟩:=st;exact wpAny_pyIter_enum hz h
theorem Zfh:bootBuiltins "enumerate" = some (.type "enumerate"):=by kernel_rfl
section
variable {X:Cx}
def iEnum (K:W.Frag) (ta:TA):TI:=λσ H R=>ta σ H λvs H1=>∃b l,vs=[.ref l]/\(∃xs,SqB b K H1 l xs)/\R (Ieb b K l) H1
theorem Zfa (K:W.Frag) {es:List Expr}{kk:Nat}{tp:Pos}{a:Expr}{ta:TA}{p pos:Pos}(hg:Gl X "enumerate") (hm:X.mg "enumerate" = none) (ha:PA X [a] ta) (hs:starEach [a] X.env=[(false,eval a X.env)]:=by rfl) (hs2:starEach [] X.env=[]:=by rfl) (hK:X.K=K:=by rfl) :
  PI X (.Tuple es kk tp) (.Call (.Name "enumerate" p) [a] [] pos) (iEnum K ta):=by
 subst hK;intro pins s σ H R I h;refine Call_ (Zc4 I hg hm (Zfh) (PyProof.Rows.callWith_type1 (thn (ha pos pins s σ H _ I h) λus s1 ⟨vs,H1,I1,r1,q1⟩=>?_) (by rw[hs,hs2]) (by rw[hs2];rfl)));obtain⟨b,l1,e,⟨xs,hx⟩,q⟩:=q1;subst e;obtain⟨u1,rfl,q1⟩:=vals1 r1;cases (show u1=Value.ref l1 from q1);obtain⟨its1,w1,p1⟩:=I1.seqB hx;refine Zmp p1 λh' b1 b2 hk=>?_;refine wpAny_pyIter_enum b1 ?_;have I2:Inv X pins σ H1 { s1 with heap:=h' }:=I1.kept (t':=s1.toks) hk;refine⟨s1.heap.objs.size+1,[s1.heap.objs.size+1,s1.heap.objs.size],_,_,H1,rfl,I2,Zni l1 _ _ (Nat.succ_ne_self _),⟨⟨_,b1⟩,b2⟩,λb hb=>?_,q⟩;have hge:s1.heap.objs.size<=b:=by
  simp only[Wat,Wbe,or_false]at hb;rcases hb with rfl|rfl <;> omega
 exact I1.fpOk hge (I1.hok.fresh hge)
end
section
variable {K:W.Frag}{Δ:Evt}
def enD (ds:List D):List D:=ds.zipIdx.map λp=>D.tup [.int (p.2:Int),p.1]
theorem Zjc (ds:List D):(enD ds).length=ds.length:=by unfold enD;rw[Wag,List.length_zipIdx]
theorem Zi5 {ds:List D}{i:Nat}{e:D}(h:(enD ds)[i]?=some e):∃d,ds[i]?=some d/\e=.tup [.int (i:Int),d]:=by
 unfold enD at h;rw[Wal,List.getElem?_zipIdx]at h;cases q:ds[i]? with
 |none=>rw[q]at h;cases h
 |some d=>rw[q]at h;refine⟨d,rfl,?_⟩;simpa using h.symm
theorem Ze7 {b:Bool}{G:Hp}{l1:Addr}{xs:List V}{ds:List D}(h1:∀G1 H1,Same G G1->Same G1 H1->SqB b K H1 l1 xs) (r1:Reps K G xs ds):ItOk K G (Ieb b K l1) (enD ds):=λG1 H1 sg sh=>by
 have hl1:=r1.length;have e1:=h1 G1 H1 sg sh;refine⟨⟨xs,e1,by rw[Zjc];omega⟩,λi d hd=>?_⟩;obtain⟨d0,q,rfl⟩:=Zi5 hd;obtain⟨u,hu,ru⟩:=r1.get q;refine⟨⟨xs,u,e1,hu⟩,λx H2 ⟨p,a,hp,ex,eH,hab⟩=>?_⟩;have ha:=hab xs e1;rw[hu]at ha;cases ha;subst ex;subst eH;have hG:G1 p=none:=by
  cases z:G1 p with
  |none=>rfl
  |some o=>rw[sh _ _ z]at hp;cases hp
 refine⟨upd G1 p (.tup [.int (i:Int),u]),λc o e=>by rw[Zag (Zak e hG)];exact e,λc o e=>by rw[Zag (Zak e hp)];exact e,λc o e=>?_,?_⟩
 ·by_cases hc:c=p
  ·subst hc;rw[Zai]at e ⊢;exact⟨e,.inr hp⟩
  ·rw[Zag hc]at e ⊢;exact⟨sh c o e,.inl e⟩
 ·have sg2:Same G1 (upd G1 p (.tup [.int (i:Int),u])):=λc o e=>by rw[Zag (Zak e hG)];exact e
  exact .tup Zai (.cons (.int _) (.cons ((ru.mono sg).mono sg2) .nil))
theorem Zmu {ta:TA}{P:List D->Evt->Prop}(h:JA K ta Δ λds Δ1=>∃as,(ds=[.lst as]\/ds=[.tup as])/\P (enD as) Δ1):JI K (iEnum K ta) Δ P:=λg G H σ R k c=>
 h g G H σ _ k λvs ds G1 H1 Δ1 k1 s1 r1 hq_=>by
  obtain⟨as,e,p1⟩:=hq_;rcases e with e|e
  ·subst e
   obtain⟨_,_,rfl,ra,rr⟩:=r1.inv
   next=>
    cases rr.inv;obtain⟨_,_,rfl,ha,rsa⟩:=ra.inv
    next=>exact⟨false,_,rfl,⟨_,SqL.of (k1.live _ _ ha)⟩,c _ _ G1 H1 Δ1 k1 s1 (Ze7 (λ_ _ sg sh=>SqL.of (sh _ _ (sg _ _ ha))) rsa) p1⟩
  ·subst e
   obtain⟨_,_,rfl,ra,rr⟩:=r1.inv
   next=>
    cases rr.inv;obtain⟨_,_,rfl,ha,rsa⟩:=ra.inv
    next=>exact⟨true,_,rfl,⟨_,SqT.of (k1.live _ _ ha)⟩,c _ _ G1 H1 Δ1 k1 s1 (Ze7 (λ_ _ sg sh=>SqT.of (sh _ _ (sg _ _ ha))) rsa) p1⟩
end
open PySem PySem.Spec PyProof.Rows PySem.SeqAt
def RowAt (h:Heap) (v:Value) (r:List Int):Prop:=∃(a:Addr) (its:List Value),v=.ref a/\IsTup h a its.toArray/\IntsAre its r
section
variable {X:Cx}
def rIndexL (K:W.Frag):V->List V->Hp->VK->Prop:=λx vs H Q=>∃(a:Addr) (ns:List Int) (i:Int),x=.ref a/\vs=[.int i]/\SqL K H a (ns.map V.int)/\ns.length<=1000/\i∈ns/\Q (.int (ns.idxOf i:Nat)) H
theorem idxLK (K:W.Frag) (hK:X.K=K:=by rfl):MtM X "list.index" (rIndexL K):=by
 subst hK;intro pins s σ H x vs v us Q I rx rv h;obtain⟨a,ns,i,rfl,rfl,hx,hl,hm,q⟩:=h;cases rx;obtain⟨u,rfl,ru⟩:=rv.one;obtain⟨t,rfl⟩:=ru;obtain⟨its,r,pl,hz⟩:=I.list hx;have hi:=Zd3 r;have hlen:=hi.length;obtain⟨⟨cls,dd,data,sl⟩,ho,hc,n,hd⟩:=pl.isList;simp only at hc hd;subst hc hd;have hj:ns.idxOf i<ns.length:=List.idxOf_lt_length_iff.mpr hm;refine call_meets PySem.F.slot_list_index ⟨_,ho,rfl⟩ PySem.F.entry_list_index (PySem.F.args_list_index_2 _ _)
  (list_indexAt a its.toArray n dd sl (.int i t) (isInt i) (ns.idxOf i) (by simpa [hlen] using hj) (by omega) ?_ ?_) ⟨ho,λy hy=>(eq_isInt i t hi y (by simpa using hy)).at _ _,⟨.int _,H,I.tok _,⟨_,rfl⟩,q⟩⟩
 ·show isInt i its[ns.idxOf i]=true
  rw[isInt_at i hi _ (by omega) hj];simpa using List.getElem_idxOf hj
 ·intro j hjs hlt
  show isInt i its[j]=false;rw[isInt_at i hi j (by simpa using hjs) (by omega)];exact ne_of_lt_idxOf hlt _
end
section
variable {K:W.Frag}{Δ:Evt}{P:D->Evt->Prop}
theorem Zi1 {to te:TE}(h:JE K to Δ λd Δ1=>∃ns:List Int,d=.lst (ns.map D.int)/\ns.length<=1000/\JE K te Δ1 λe Δ2=>∃i,e=.int i/\i∈ns/\P (.int (ns.idxOf i:Nat)) Δ2) :
  JE K (tBM K "list" (rIndexL K) to (tCons te tNil)) Δ P:=λg G H σ Q k c=>
 h g G H σ _ k λv d G1 H1 Δ1 k1 s1 r1 hq_=>by
  obtain⟨ns,e,hl,p1⟩:=hq_;subst e;obtain⟨a,vs,rfl,ha,rs⟩:=r1.inv
  next=>
   refine⟨.inl ⟨rfl,_,SqL.of (k1.live _ _ ha)⟩,p1 g G1 H1 σ _ k1 λu e G2 H2 Δ2 k2 s2 r2 ⟨i,q1,q2,p⟩=>?_⟩;subst q1;cases r2.inv;have ev:vs=ns.map V.int:=rs.ints;subst ev;exact⟨a,ns,i,rfl,rfl,SqL.of (k2.live _ _ (s2 _ _ ha)),hl,q2,c _ _ G2 H2 Δ2 k2 (s1.trans s2) (.int _) p⟩
end
theorem Zqa {A:Around}{k:Nat}(hr:Room k A):A.units+8<cLine:=Wbd (Wcp (by decide:8<=64) _) hr.units
open PySem PySem.Spec PyProof.Rows PySem.SeqAt
section
variable {K:W.Frag}{Δ:Evt}{P:D->Evt->Prop}
end
open PySem PySem.Spec PyProof.Rows PySem.SeqAt
section
variable {prog:Program}{w:World}
end
section
variable {prog:Program}{w:World}{A:Around}{E:Value->Shared->Prop}{s:Shared}
end
end L2
namespace L2
open PySem PySem.Spec PyProof.Rows PySem.SeqAt
end L2
namespace L2
open PySem PySem.Spec PyProof.Rows PySem.SeqAt
section
variable {prog:Program}{w:World}{A:Around}{E:Value->Shared->Prop}{s:Shared}
end
end L2
namespace L2
open PySem PySem.Spec PyProof.Rows PySem.SeqAt
section
variable {prog:Program}{w:World}{A:Around}{E:Value->Shared->Prop}{s:Shared}
theorem Zd4 (es:Array (Int × Value)):(Wa2 es.size).map (λk=>es.getD k (0,.none))=es.toList:=by
 apply List.ext_getElem
 ·simp
 ·intro i h1 h2
  simp only[List.getElem_map,List.getElem_range,Array.getElem_toList];simp only[Array.length_toList]at h2;simp[Array.getD,h2]
end
end L2
namespace L2
open PySem PySem.Spec PyProof.Rows PySem.SeqAt
end L2
namespace L2
open PySem PySem.Spec PyProof.Rows PySem.SeqAt
section
variable {K:W.Frag}{Δ:Evt}
end
section
variable {X:Cx}
end
open PySem PySem.Spec PyProof.Rows PySem.SeqAt
section
variable {K:W.Frag}{Δ:Evt}{P:D->Evt->Prop}
theorem Zgp {r r':R2}{ta tb tc:TE}(h:JE K ta Δ λd Δ1=>JE K tb Δ1 λe Δ2=>JR2 K r d e Δ2 λz Δ3=>∃k,z=.bl k/\if k=true then JE K tc Δ3 λu Δ4=>JR2 K r' e u Δ4 P else P (.bl false) Δ3):JE K (tChain r r' ta tb tc) Δ P:=λg G H σ Q k c=>
 h g G H σ _ k λx d G1 H1 Δ1 k1 s1 r1 p1=>p1 g G1 H1 σ _ k1 λy e G2 H2 Δ2 k2 s2 r2 p2=>p2 g G2 H2 σ _ x y k2 (r1.mono s2) r2 λz dz G3 H3 Δ3 k3 s3 r3 hq_=>by
  obtain⟨b,eb,p3⟩:=hq_;subst eb;cases r3.inv;refine⟨b,rfl,?_⟩;cases b with
  |true=>
   rw[if_pos rfl]at p3 ⊢;exact p3 g G3 H3 σ _ k3 λu du G4 H4 Δ4 k4 s4 r4 p4=>p4 g G4 H4 σ Q y u k4 (r2.mono (s3.trans s4)) r4 (c.up (s1.trans (s2.trans (s3.trans s4))))
  |false=>
   rw[if_neg Wak]at p3 ⊢;exact c _ _ G3 H3 Δ3 k3 (s1.trans (s2.trans s3)) (.bl false) p3
end
section
variable {K:W.Frag}{Δ:Evt}
theorem Zho {j n:Nat}(h:j<n):seqIndex? (j:Int) n=some j:=by
 unfold seqIndex?;simp;omega
theorem Zjk {i:Nat}{te:TE}{ti:TIp}{d:D}{nx bk ct:Evt->Prop}{rt:D->Evt->Prop}{ro:OD->Evt->Prop}(hx:Δ[i]?=some (.val d)) (h:JE K te Δ λe Δ1=>Δ1[i]?=some (.val d)/\JR2 K ti d e Δ1 λz Δ2=>nx (Δ2.set i (.val z))):JS K (tAug i te ti) Δ ⟨nx,rt,bk,ct,ro⟩:=λg G H σ E k c=>by
 obtain⟨v,h1,h2⟩:=k.val i d hx;refine⟨v,h1,h g G H σ _ k λu e G1 H1 Δ1 k1 s1 r1 ⟨_,p1⟩=>p1 g G1 H1 σ _ v u k1 (h2.mono s1) r1 λz dz G2 H2 Δ2 k2 s2 r2 p2=>?_⟩;exact c.nx _ G2 H2 _ (k2.setVal' i r2) p2
end
open PySem PySem.Spec PyProof.Rows PySem.SeqAt
section
variable {K:W.Frag}{Δ:Evt}{P:D->Evt->Prop}
end
section
variable {K:W.Frag}{Δ:Evt}
end
section
variable {X:Cx}
end
section
variable {K:W.Frag}{Δ:Evt}{P:D->Evt->Prop}
theorem Zim {n:Nat}{te:TE}{x:Slot}{ds0:List D}(hx:Δ[n]?=some x) (ho:x.od=some (.lst ds0))
  (h:JE K te Δ λe Δ1=>∃y ds,∃j:Nat,∃d,Δ1[n]?=some y/\y.od=some (.lst ds)/\e=.int j/\ds[j]?=some d/\ds.length<=1000/\P d (Δ1.set n (y.put (.lst (ds.eraseIdx j))))) :
  JE K (tBM K "list" rPopAt (tVar n) (tCons te tNil)) Δ P:=λg G H σ Q k c=>by
 obtain⟨a,o,h1,h2,h3,h4,h5⟩:=k.own n x _ hx ho;cases o with
 |lst vs0=>
  refine⟨.ref a,h1,.inl ⟨rfl,_,SqL.of h2⟩,h g G H σ _ k λv e G1 H1 Δ1 k1 s1 r1 ⟨y,ds,j,d,q1,q2,q3,q4,q5,p⟩=>?_⟩;subst q3;cases r1.inv;obtain⟨a',o',w1,w2,w3,w4,w5⟩:=k1.own n y _ q1 q2;rw[h1]at w1;cases w1;cases o' with
  |lst vs=>
   have w3:Reps K G1 vs ds:=w3;obtain⟨u,z1,z2⟩:=w3.get q4;have hj:j<vs.length:=(Wai.mp z1).1;have hl:=w3.length;refine⟨a,vs,j,j,u,rfl,rfl,w2,by omega,by omega,Zho hj,z1,c u d G1 _ _ (k1.write q1 q2 h1 (show OwnRep K G1 (.lst (vs.eraseIdx j)) (.lst (ds.eraseIdx j)) from w3.eraseIdx j)) s1 z2 p⟩
  |_=>exact absurd w3 (λz=>z)
 |_=>exact absurd h3 (λz=>z)
end
section
variable {X:Cx}
def rStrU:List V->Hp->VK->Prop:=λxs H Q=>(∃i,xs=[.int i]/\i.natAbs.log2<1920/\Q (.str (toString i)) H)\/∃x,xs=[.str x]/\Q (.str x) H
theorem strUK:CallR X (.type "str") rStrU:=by
 intro pins s σ H xs us Q I r h;rcases h with ⟨i,rfl,hz,q⟩|⟨x,rfl,q⟩
 ·obtain⟨u,rfl,t,rfl⟩:=vals1 r
  exact PySem.P.str_of_int hz ⟨.str _,H,I.tok _,⟨_,rfl⟩,q⟩
 ·obtain⟨u,rfl,t,rfl⟩:=vals1 r
  exact PySem.P.str_of_str ⟨.str _,H,I,⟨_,rfl⟩,q⟩
end
section
variable {K:W.Frag}{Δ:Evt}{P:D->Evt->Prop}
theorem Zl1 {i:Int}(hz:i.natAbs.log2<1920) (p:P (.str (toString i)) Δ):JC K rStrU [.int i] Δ P:=λg G H σ Q vs k rs c=>by
 obtain⟨_,_,rfl,r,t⟩:=rs.inv
 next=>cases t.inv;cases r.inv;exact .inl ⟨i,rfl,hz,c _ _ G H Δ k (Same.refl _) (.str _) p⟩
end
section
variable {X:Cx}
end
section
variable {K:W.Frag}{Δ:Evt}
end
def Itc (lo c:Int) (n:Nat):It:=⟨λi _=>i<n,λi H x H'=>H'=H/\x=.int (lo+(i:Nat)*c),λi _=>n<=i⟩
theorem Zji {P:Program}{w:World}{K:W.Frag}{tg:Expr}(it:Addr) (lo c:Int) (n:Nat):Turn P w K tg (Itc lo c n) [it] it (λi h=>IsRangeIter h it (lo+(i:Nat)*c) ((n:Int)-(i:Nat)) c) where
 mem:=by simp
 obj:=λi h st b hb=>by
  have e:b=it:=by simpa using hb
  subst e;exact⟨_,st,λv z=>by
   have z':Data.fields _=Data.cell v:=z;cases z'⟩
 keep:=λi h h' st k=>k it (by simp) _ st
 item:=by
  intro X hP hw hK hc i pins s σ H E I hf st hg;subst hP hw hK;obtain⟨f0,f1,f2,f3,f4,f5⟩:=hf it (by simp);have W:=Walks.range (prog:=X.prog) (w:=X.w) (I.ok.hd hc) it lo c n;refine W.item i s _ _ hg st λv h' tk hv st' kk=>?_;obtain⟨t,rfl⟩:=hv;have I1:Inv X pins σ H { s with heap:=h',toks:=tk }:=I.turned (λb o hb e=>kk b o (by simpa using hb) e) f0 f1 f3 f4 f5;exact⟨_,rfl,Zi4 (s:={ s with heap:=h',toks:=tk }) (n:="range_iterator") st' rfl rfl (by decide) ⟨.int (lo+(i:Nat)*c),H,I1,⟨t,rfl⟩,⟨rfl,rfl⟩,st',λb hb=>(hf b hb).1⟩⟩
 done:=by
  intro X hP hw hK hc i pins s σ H E I hf st hg;subst hP hw hK;obtain⟨f0,f1,f2,f3,f4,f5⟩:=hf it (by simp);exact wpAny_pyNext_range_end (I.ok.hd hc) st (by have:n<=i:=hg;omega) λh' eb=>⟨rfl,I.turned (t':=s.toks) (λb o hb e=>eb b o hb e) f0 f1 f3 f4 f5⟩
 self:=λ_ _ _ _ _ st h=>wpAny_pyIter_rangeiter st h
section
variable {K:W.Frag}{Δ:Evt}{P:D->Evt->Prop}
def stpD (lo c:Int) (n:Nat):List D:=(Wa2 n).map λi:Nat=>D.int (lo+(i:Int)*c)
theorem Zg0 (lo c:Int) (n:Nat):(stpD lo c n).length=n:=by simp[stpD]
theorem Zgj {lo c:Int}{n i:Nat}{d:D}(h:(stpD lo c n)[i]?=some d):i<n/\d=.int (lo+(i:Int)*c):=by
 unfold stpD at h;rw[Wal]at h;by_cases hi:i<n
 ·rw[List.getElem?_range hi]at h
  exact⟨hi,(War.inj h).symm⟩
 ·rw[Wcl (by rw[Wcu];omega)]at h;cases h
theorem Zkj {G:Hp}(lo c:Int) (n:Nat):ItOk K G (Itc lo c n) (stpD lo c n):=λG1 H1 sg sh=>by
 refine⟨by show n<=(stpD lo c n).length;rw[Zg0];exact Wac _,λi d e=>?_⟩;obtain⟨h1,h2⟩:=Zgj e;subst h2;refine⟨h1,λx H2 ⟨e2,y2⟩=>⟨G1,Same.refl _,by rw[e2];exact Same.refl _,λb o q=>⟨by rw[e2];exact sh b o q,.inl q⟩,?_⟩⟩;subst y2;exact .int _
end
theorem ObjOk.has {P:Program}{w:World}{H:Hp}{h:Heap}{a:Addr}{o:HO}(x:ObjOk P w H h a o):∃ob,h.get? a=some ob:=by
 cases o with
 |lst xs=>obtain⟨_,_,_,_,e⟩:=x;exact⟨_,e⟩
 |tup xs=>obtain⟨_,_,_,o,e,_⟩:=x;exact⟨_,e⟩
 |dK kvs=>obtain⟨_,_,_,_,o,_,_,e,_⟩:=x;exact⟨_,e⟩
 |dT kvs=>obtain⟨_,_,_,_,o,_,_,e,_⟩:=x;exact⟨_,e⟩
 |set S n=>obtain⟨o,_,_,_,e,_⟩:=x;exact⟨_,e⟩
 |ins C dx fs=>obtain⟨_,_,_,e,_⟩:=x;exact⟨_,e⟩
 |own y=>exact x
 |xd fs=>obtain⟨_,⟨_,_,_,e,_⟩,_⟩:=x;exact⟨_,e⟩
 |rng lo hi=>obtain⟨_,_,_,e⟩:=x;exact⟨_,e⟩
 |frz ob u=>obtain⟨e,_⟩:=x;exact⟨_,e⟩
 |tbl ps=>exact⟨_,x⟩
 |met f y=>exact⟨_,x⟩
 |ext φ=>exact x.2.1
theorem HOk.noneAt {P:Program}{w:World}{H:Hp}{h:Heap}{a:Addr}(x:HOk P w H h) (e:h.get? a=none):H a=none:=by
 cases q:H a with
 |none=>rfl
 |some o=>obtain⟨ob,z⟩:=(x a o q).has;rw[e]at z;cases z
structure Nw (X:Cx) (pins:List (Addr × Obj)) (H:Hp) (b:Addr):Prop where
 old:X.s₀.heap.get? b=none
 trk:H b=none
 loc:b≠X.env.locals
 cel:∀x c,X.env.cells.lookup x=some c->c≠b
 pin:∀p∈X.pn++pins,p.1≠b
section
variable {X:Cx}{pins:List (Addr × Obj)}{σ:St}{H H':Hp}{s:Shared}{h':Heap}{b:Addr}
theorem Nw.of (I:Inv X pins σ H s) (hex:X.ex=[]) (e:s.heap.get? b=none):Nw X pins H b where
 old:=by
  cases q:X.s₀.heap.get? b with
  |none=>rfl
  |some o=>obtain⟨o',z⟩:=I.base.there b o q (by rw[hex];simp);rw[e]at z;cases z
 trk:=I.hok.noneAt e
 loc:=by rintro rfl;obtain⟨m,⟨o,_,_,ho,_⟩,_⟩:=I.loc;rw[e]at ho;cases ho
 cel:=λx c hc z=>by subst z;obtain⟨v,o,ho,_⟩:=I.cell x c hc;rw[e]at ho;cases ho
 pin:=λp hp z=>by have:=(I.pin p hp).1;rw[z,e]at this;cases this
theorem Nw.at (n:Nw X pins H b) (h:H' b=none):Nw X pins H' b:=⟨n.old,h,n.loc,n.cel,n.pin⟩
theorem Inv.moved {hid:List Addr}(I:Inv X pins σ H s) (hex:X.ex=[]) (new:∀b∈hid,Nw X pins H b) (kp:∀b o,s.heap.get? b=some o->b ∉ hid->b ∉ frs X.stack->h'.get? b=some o) (up:s.heap.UpToSlots h'):Inv X pins σ H { s with heap:=h' }:=by
 have nst:∀b,b≠X.env.locals->b ∉ X.fs->b ∉ frs X.stack:=λb h1 h2 z=>(Wat.mp (I.stkSub b z)).elim h1 h2;have neL:∀b o,X.s₀.heap.get? b=some o->b≠X.env.locals:=λb o e=>Was (Wam (Waf e) I.ok.above);have nhd:∀b o,X.s₀.heap.get? b=some o->b ∉ hid:=λb o e z=>by rw[(new b z).old]at e;cases e
 have nx:∀b,b ∉ X.ex:=λb=>by rw[hex];simp
 have cellK:∀c v,s.heap.IsCell c v->h'.IsCell c v:=λc v hq=>by
  obtain⟨o,ho,hd⟩:=hq;obtain⟨sl,e⟩:=up c o ho (λvs q=>by rw[hd]at q;cases q);exact⟨_,e,hd⟩
 refine⟨I.ok,I.os,I.bare,⟨λb o e n hb hx=>?_,λb o e n hb hx=>?_,I.base.free,λb o e hx=>?_,I.base.tups,I.base.frzs,I.base.tbls⟩,?_,λx c e=>?_,I.free,I.freeC,λp hp=>?_,λb u e=>?_,I.len⟩
 ·exact kp b o (I.base.keep b o e n hb hx) (nhd b o e) (nst b (neL b o e) hb)
 ·obtain⟨sl,e1⟩:=I.base.slot b o e n hb hx
  obtain⟨_,o',ho',hd⟩:=I.funs.mem hb;rw[e1]at ho';cases ho';obtain⟨sl',e2⟩:=up b _ e1 hd;exact⟨sl',e2⟩
 ·obtain⟨o',e1⟩:=I.base.there b o e hx
  by_cases hb:b∈frs X.stack
  ·obtain⟨_,o2,ho',hd⟩:=I.stack.mem hb
   obtain⟨sl',e2⟩:=up b _ ho' hd;exact⟨_,e2⟩
  ·exact⟨o',kp b o' e1 (nhd b o e) hb⟩
 ·obtain⟨m,hn,hl⟩:=I.loc
  refine⟨m,up.ns hn,λi x v e1 e2 e3=>?_⟩;obtain⟨u,r,l⟩:=hl i x v e1 e2 e3;refine⟨u,r,?_⟩;rcases l with l|⟨k,c,e,z⟩
  ·exact .inl l
  ·exact .inr ⟨k,c,e,cellK c _ z⟩
 ·obtain⟨v,z⟩:=I.cell x c e
  exact⟨v,cellK c v z⟩
 ·obtain⟨e,n,ne,nf,d⟩:=I.pin p hp
  exact⟨kp p.1 p.2 e (λz=>(new _ z).pin p hp rfl) (nst _ ne nf),n,ne,nf,d⟩
 ·refine(I.hok b u e).stay (λc v hc q=>kp c v q (λz=>?_) λz=>?_) (λ_ q=>q) λ_ _ q=>q
  ·have n:=(new c z).trk
   rcases hc with rfl|hc
   ·rw[e]at n;cases n
   ·rw[hc]at n;cases n
  ·have n:=I.stkFree c z
   rcases hc with rfl|hc
   ·rw[e]at n;cases n
   ·rw[hc]at n;cases n
end
def Trc (h:Heap) (a C T:Addr):Prop:=
 ∃oe vs oT ts,h.get? a=some oe/\oe.cls=.ref C/\oe.data=.fields vs/\vs[1]?=some (.ref T)/\vs[2]?=some .none/\T≠a/\h.get? T=some oT/\oT.data=.fields ts/\ts[3]?=some .none
section
variable {M:Model}{A:Around}{E:Value->Shared->Prop}{s:Shared}{Q:Unit->Shared->Prop}{env:Env}{outer:List Env}{base:Heap}{L e:Addr}{oe:Obj}{vs:Array Value}
theorem Zoh (hl:s.heap.FunFrames base (env::outer)) (he:s.heap.get? e=some oe) (hd:oe.data=.fields vs):e ∉ frs (env::outer):=λhm=>by
 obtain⟨_,o,ho,hn⟩:=hl.mem hm;rw[he]at ho;exact hn vs (War.inj ho ▸ hd)
structure Noted (h h':Heap) (l:List Env) (e:Addr) (oe:Obj) (T:Addr):Prop where
 keep:∀b o,h.get? b=some o->b≠e->b ∉ frs l->h'.get? b=some o
 up:∀b o,h.get? b=some o->b≠e->(∀ws,o.data≠.fields ws)->∃sl,h'.get? b=some { o with slots:=sl }
 new:h.get? T=none
 exc:h'.get? e=some (oe.mapFields (·.setIfInBounds 1 (.ref T)))
 tb:∃oT ts,h'.get? T=some oT/\oT.data=.fields ts/\3<ts.size
theorem entryX {head:Value}{hadNext:Bool}(hfr:A.frames=some (env::outer)) (hl:s.heap.FunFrames base (env::outer)) (hf:env.frame=some L) (he:s.heap.get? e=some oe) (hd:oe.data=.fields vs) (hsz:1<vs.size)
  (h:∀h' T,Noted s.heap h' (env::outer) e oe T->Q () { s with heap:=h' }) :
  wpAny M A (do let a ← frameOf env;let pl ← entryPlaceOf L hadNext;let b ← EntryCells.newEntry head a .none (rawInt L) .none pl;setField (.ref e) 1 b) Q E s:=by
 have hene:=Zoh hl he hd;refine wpAny_bind (wpAny_frameOf_fun hfr hl hf λg1 hg=>?_);refine wpAny_bind (wpAny_entryPlaceOf λpl hp=>?_);unfold EntryCells.newEntry newFields;refine wpAny_bind (wpAny_newObj_type ?_ (hp.sizeOk5 _ _ _ _ _));have he1:g1.get? e=some oe:=(hg.2.1 e hene).trans he;have he2:=Waa (h:=g1) { cls:=.type "traceback",dict:=none,data:=.fields ([head,.ref L,.none,rawInt L,.none]++(if pl.isEmpty then Wao 6 Value.none else pl)).toArray } he1;refine wpAny_setField he2 hd hsz (h _ g1.objs.size ?_);have nT:g1.objs.size≠e:=Wca (Waf he1);have hd3:=Obj.data_mapFields hd (·.setIfInBounds 1 (Value.ref g1.objs.size));have hT3:=(Wav (g1.push { cls:=.type "traceback",dict:=none,data:=.fields ([head,.ref L,.none,rawInt L,.none]++(if pl.isEmpty then Wao 6 Value.none else pl)).toArray }) (Obj.mapFields (·.setIfInBounds 1 (Value.ref g1.objs.size))) (Ne.symm nT)).trans (Wae g1 rfl);refine⟨λb o hb h1 h2=>?_,λb o hb h1 hn=>?_,?_,?_,⟨_,_,hT3,rfl,?_⟩⟩
 ·rw[Wav _ _ (Ne.symm h1)]
  exact Waa _ ((hg.2.1 b h2).trans hb)
 ·obtain⟨sl,q⟩:=hg.2.2 b o hb
  exact⟨sl,by rw[Wav _ _ (Ne.symm h1)];exact Waa _ q⟩
 ·exact Heap.get?_none_of_le (by rw[hg.1];exact Wac _)
 ·exact Wa6 _ he2 (Obj.isFreed_of_fields hd3)
 ·rw[Wad,Wan,Way,Way,Way,Way]
  omega
theorem noteN (hfr:A.frames=some (env::outer)) (hl:s.heap.FunFrames base (env::outer)) (hf:env.frame=some L) (he:s.heap.get? e=some oe) (hd:oe.data=.fields vs) (h1:vs[1]?=some .none)
  (h:∀h' T,Noted s.heap h' (env::outer) e oe T->Q () { s with heap:=h' }):wpAny M A (noteFrame (.ref e) env) Q E s:=by
 unfold noteFrame;simp only[hf];refine wpAny_bind (wpAny_field he hd h1 ?_);rw[if_neg (by decide)];exact entryX hfr hl hf he hd (Array.getElem?_eq_some_iff.mp h1).1 h
theorem noteT {T:Addr}{oT:Obj}{ts:Array Value}(hfr:A.frames=some (env::outer)) (hl:s.heap.FunFrames base (env::outer)) (hf:env.frame=some L) (he:s.heap.get? e=some oe) (hd:oe.data=.fields vs) (h1:vs[1]?=some (.ref T)) (hTe:T≠e)
  (hT:s.heap.get? T=some oT) (hdT:oT.data=.fields ts) (h3:ts[3]?=some .none) (h:∀h' T',Noted (s.heap.update T (Obj.mapFields (·.setIfInBounds 3 .none))) h' (env::outer) e oe T' -> Q () { s with heap:=h' }):wpAny M A (noteFrame (.ref e) env) Q E s:=by
 unfold noteFrame;simp only[hf];refine wpAny_bind (wpAny_field he hd h1 ?_);rw[if_pos (show (Value.ref T != Value.none)=true from by simp)];refine wpAny_bind (wpAny_field hT hdT h3 ?_);rw[if_neg (show ¬ ((Value.none == rawInt L)=true) from by simp[rawInt])];refine wpAny_bind (wpAny_setField hT hdT (Array.getElem?_eq_some_iff.mp h3).1 ?_);have ot:∀b,b≠T->(s.heap.update T (Obj.mapFields (·.setIfInBounds 3 Value.none))).get? b=s.heap.get? b:=λb hb=>Wav _ _ (Ne.symm hb);refine entryX (s:={ s with heap:=s.heap.update T (Obj.mapFields (·.setIfInBounds 3 .none)) }) hfr (hl.of_keeps λb o hb hn=>⟨o,(ot b λq=>?_).trans hb,rfl⟩) hf ((ot e (Ne.symm hTe)).trans he) hd (Array.getElem?_eq_some_iff.mp h1).1 λh' T' n=>h h' T' n;rw[q,hT]at hb;exact hn ts (War.inj hb ▸ hdT)
end
section
variable {X:Cx}{pins:List (Addr × Obj)}{σ:St}{H H':Hp}{s:Shared}{h':Heap}{a C T:Addr}
theorem Inv.noted {h0:Heap}{oe:Obj}{vs:Array Value}{hid:List Addr}{T':Addr}(I:Inv X pins σ H s) (hex:X.ex=[]) (na:Nw X pins H a) (new:∀b∈hid,Nw X pins H b) (he:s.heap.get? a=some oe) (hc:oe.cls=.ref C) (hd:oe.data=.fields vs) (h2:vs[2]?=some .none)
  (k0:∀b,b ∉ hid->h0.get? b=s.heap.get? b) (hf0:∀b∈hid,∀o,s.heap.get? b=some o->∃ws,o.data=.fields ws) (hn0:∀b,h0.get? b=none->s.heap.get? b=none) (n:Noted h0 h' X.stack a oe T') {h3:Heap}(e3:h3=h'.update T' (Obj.mapFields (·.setIfInBounds 3 .none))) :
  Inv X pins σ H { s with heap:=h3 } /\ Trc h3 a C T' /\ Nw X pins H T':=by
 subst e3;have nT:=Nw.of I hex (hn0 _ n.new);have ot:∀b,b≠T' -> (h'.update T' (Obj.mapFields (·.setIfInBounds 3 Value.none))).get? b=h'.get? b:=λb hb=>Wav _ _ (Ne.symm hb);have hTa:T'≠a:=by rintro rfl;have z:=hn0 _ n.new;rw[he]at z;cases z
 have ne:∀b o,s.heap.get? b=some o->b≠T':=λb o e z=>by subst z;rw[hn0 _ n.new]at e;cases e
 have fl:∀b,b∈a::hid->∀o,s.heap.get? b=some o->∃ws,o.data=.fields ws:=λb hb o e=>by
  rcases Wat.mp hb with rfl|hb
  ·rw[he]at e;cases e;exact⟨vs,hd⟩
  ·exact hf0 b hb o e
 refine⟨I.moved (hid:=a::hid) hex (λb hb=>(Wat.mp hb).elim (λz=>by subst z;exact na) (new b)) (λb o e h1 h2=>?_) (λb o e hnf=>?_),?_,nT⟩
 ·have h1a:b≠a:=λz=>h1 (by simp[z])
  have h1b:b ∉ hid:=λz=>h1 (Wax _ z);rw[ot b (ne b o e)];exact n.keep b o ((k0 b h1b).trans e) h1a h2
 ·have hb:b ∉ a::hid:=λz=>by obtain⟨ws,q⟩:=fl b z o e;exact hnf ws q
  have h1a:b≠a:=λz=>hb (by simp[z]);have h1b:b ∉ hid:=λz=>hb (Wax _ z);obtain⟨sl,q⟩:=n.up b o ((k0 b h1b).trans e) h1a hnf;exact⟨sl,(ot b (ne b o e)).trans q⟩
 ·obtain⟨oT,ts,t1,t2,t3⟩:=n.tb
  have sz:2<vs.size:=(Array.getElem?_eq_some_iff.mp h2).1;refine⟨_,_,_,_,(ot a (Ne.symm hTa)).trans n.exc,(Obj.cls_mapFields _ _).trans hc,Obj.data_mapFields hd _,?_,?_,hTa,Wa6 _ t1 (Obj.isFreed_of_fields (Obj.data_mapFields t2 _)),Obj.data_mapFields t2 _,?_⟩
  ·simp[show 1<vs.size by omega]
  ·rw[Array.getElem?_setIfInBounds_ne (by decide)];exact h2
  ·simp[t3]
variable {M:Model}{E:Value->Shared->Prop}{Q:Unit->Shared->Prop}
theorem Zgh {h h':Heap}{l:List Env}{e T:Addr}{oe:Obj}{vs:Array Value}{A:Around}{s:Shared}(hd:oe.data=.fields vs) (sz:1<vs.size) (n:Noted h h' l e oe T) (h:Q () { s with heap:=h'.update T (Obj.mapFields (·.setIfInBounds 3 .none)) }) :
  wpAny M A (setFlight (.ref e) none) Q E { s with heap:=h' }:=by
 obtain⟨oT,ts,t1,t2,t3⟩:=n.tb;exact wpAny_setFlight_none (s:={ s with heap:=h' }) n.exc (Obj.data_mapFields hd _) (by simp[sz]) t1 t2 t3 h
theorem Zio (I:Inv X pins σ H s) (hex:X.ex=[]) (hst:X.stack=X.env::X.outer) (hf:X.env.frame=some X.env.locals) (tr:Trc s.heap a C T) (na:Nw X pins H a) (nT:Nw X pins H T)
  (h:∀h' T',Inv X pins σ H { s with heap:=h' } -> Trc h' a C T' -> Nw X pins H T' -> Q () { s with heap:=h' }):wpAny M X.A (noteFrame (.ref a) X.env) (λ_ s2=>wpAny M X.A (setFlight (.ref a) none) Q E s2) E s:=by
 obtain⟨oe,vs,oT,ts,h1,h2,h3,h4,h5,h6,h7,h8,h9⟩:=tr;have hfr:=I.ok.frames;have hl:=I.stack;rw[hst]at hfr hl;have ot:∀b,b≠T->(s.heap.update T (Obj.mapFields (·.setIfInBounds 3 Value.none))).get? b=s.heap.get? b:=λb hb=>Wav _ _ (Ne.symm hb);refine noteT hfr hl hf h1 h3 h4 h6 h7 h8 h9 λh' T' n=>?_;refine Zgh h3 (Array.getElem?_eq_some_iff.mp h4).1 n ?_;rw[<- hst]at n;obtain⟨J,t1,t2⟩:=I.noted (hid:=[T]) hex na (λb hb=>by rcases Wat.mp hb with rfl|hb;exact nT;cases hb) h1 h2 h3 h5 (λb hb=>ot b (by simpa using hb)) (λb hb o e=>by
  have hb:b=T:=by simpa using hb
  subst hb;rw[h7]at e;cases e;exact⟨ts,h8⟩) (λb e=>by
   by_cases hb:b=T
   ·subst hb
    rw[Wa6 _ h7 (Obj.isFreed_of_fields (Obj.data_mapFields h8 _))]at e;cases e
   ·exact(ot b hb).symm.trans e) n rfl
 exact h _ T' J t1 t2
theorem Zkb (I:Inv X pins σ H s) (hex:X.ex=[]) (hst:X.stack=X.env::X.outer) (hf:X.env.frame=some X.env.locals) (tr:Trc s.heap a C T) (na:Nw X pins H a) (nT:Nw X pins H T)
  (h:∀h' T',Inv X pins σ H { s with heap:=h' } -> Trc h' a C T' -> Nw X pins H T' -> Q () { s with heap:=h' }):wpAny M X.A (leaving X.env (.ref a)) Q E s:=by
 unfold leaving;exact wpAny_bind (Zio I hex hst hf tr na nT h)
theorem Ziw {h1:Heap}{args:List Value}(I:Inv X pins σ H s) (hex:X.ex=[]) (hst:X.stack=X.env::X.outer) (hf:X.env.frame=some X.env.locals) (hm:Heap.MadeExcOf s.heap h1 a (.ref C) args)
  (h:∀h' T',Inv X pins σ H { s with heap:=h' } -> Trc h' a C T' -> Nw X pins H a->Nw X pins H T' -> Q () { s with heap:=h' }):wpAny M X.A (leaving X.env (.ref a)) Q E { s with heap:=h1 }:=by
 have J:Inv X pins σ H { s with heap:=h1 }:=I.kept (t':=s.toks) hm.keeps;have na:=Nw.of I hex hm.new;obtain⟨t,he,_,_⟩:=hm.there;have hfr:=J.ok.frames;have hl:=J.stack;rw[hst]at hfr hl;unfold leaving;refine wpAny_bind (noteN (s:={ s with heap:=h1 }) hfr hl hf he rfl rfl λh' T' n=>?_);refine Zgh (vs:=#[.ref t,.none,.none,.none,.bool false,.none]) (s:={ s with heap:=h1 }) rfl (show 1<6 by decide) n ?_;rw[<- hst]at n;obtain⟨J2,t1,t2⟩:=J.noted (hid:=[]) hex na (λb hb=>by cases hb) he rfl rfl rfl (λb _=>rfl) (λb hb=>by cases hb) (λb e=>e) n rfl;exact h _ T' J2 t1 na t2
theorem Zjy {A:Around}(I:Inv X pins σ H s) (hex:X.ex=[]) (tr:Trc s.heap a C T) (na:Nw X pins H a) (nT:Nw X pins H T)
  (h:∀h' T',Inv X pins σ H { s with heap:=h' } -> Trc h' a C T' -> Nw X pins H T' -> Q () { s with heap:=h' }):wpAny M A (setFlight (.ref a) none) Q E s:=by
 obtain⟨oe,vs,oT,ts,h1,h2,h3,h4,h5,h6,h7,h8,h9⟩:=tr;have sz:=(Array.getElem?_eq_some_iff.mp h9).1;have ot:∀b,b≠T->(s.heap.update T (Obj.mapFields (·.setIfInBounds 3 Value.none))).get? b=s.heap.get? b:=λb hb=>Wav _ _ (Ne.symm hb);refine wpAny_setFlight_none h1 h3 h4 h7 h8 sz (h _ T ?_ ?_ nT)
 ·refine I.moved (hid:=[T]) hex (λb hb=>by rcases Wat.mp hb with rfl|hb;exact nT;cases hb) (λb o e hb _=>(ot b (by simpa using hb)).trans e) (λb o e hnf=>⟨o.slots,(ot b λz=>?_).trans e⟩)
  subst z;rw[h7]at e;cases e;exact hnf ts h8
 ·exact⟨oe,vs,_,_,(ot a (Ne.symm h6)).trans h1,h2,h3,h4,h5,h6,Wa6 _ h7 (Obj.isFreed_of_fields (Obj.data_mapFields h8 _)),Obj.data_mapFields h8 _,by simp[sz]⟩
end
def CXE (P:Program) (w:World):CXT:=λouter H s E e s'=>
 ∃(a C T:Addr) (H':Hp),e=.ref a/\s'.os=s.os/\AllBare s'.gens/\Un (frs outer) [] H H' s.heap s'.heap/\HOk P w H' s'.heap/\H' a=none/\s.heap.get? a=none/\H' T=none/\s.heap.get? T=none/\Trc s'.heap a C T/\E (.ref C) none H'
def Throws (X:Cx) (E:XK):Prop:=∀(pins:List (Addr × Obj)) (σ:St) (H:Hp) (s:Shared) (h1:Heap) (a C:Addr) (args:List Value),Inv X pins σ H s->Heap.MadeExcOf s.heap h1 a (.ref C) args->E (.ref C) none H->X.xe (.ref a) { s with heap:=h1 }
section
variable {P:Program}{w:World}{K:W.Frag}{mg:Str->Option Value}{base:Heap}{N:List Str}{qual:Str}{scope:Scope}{f:Addr}{cd:Value}{A:Around}{outer:List Env}{s0:Shared}{H0:Hp}{E:XK}
theorem Zjw:Throws (cxOf (CXE P w) P w K mg base N qual scope f cd A outer s0 H0 E) E:=λpins σ H s h1 a C args I hm hE=>by
 refine Ziw I rfl rfl rfl hm λh' T' J2 t1 na t2=>?_;exact⟨a,C,T',H,rfl,J2.os,J2.bare,J2.base,J2.hok,na.trk,na.old,t2.trk,t2.old,t1,hE⟩
end
abbrev ExcC (K:W.Frag) (C:Addr):Prop:=PySem.W.excIn K C [.type "ValueError",.type "Exception",.type "BaseException",.type "object"] "ValueError.__new__" = true
def ExcO (h:Heap) (C:Addr) (bm:List Value):Prop:=∃N nm qn bs hd sn sub ab col dd k0 k1 k2 k3 k5 mN,h.get? C=some (excClassObj nm qn C N bs bm hd sn sub ab col dd k0 k1 k2 k3 k5 "ValueError.__new__")/\h.Ns N mN/\mN "__init__" = none/\OwnTail h [.type "ValueError",.type "Exception",.type "BaseException",.type "object"] bm
theorem Zcx {K:W.Frag}{h:Heap}{C:Addr}(X:K.In h) (q:ExcC K C):∃bm,ExcO h C bm/\∀v b,PySem.W.mroIn K C v=some b->(Value.ref C::bm).contains v=b:=by
 unfold ExcC PySem.W.excIn at q;split at q
 next dd cd sl e=>
  split at q
  next C' bm k0 k1 k2 k3 n k5 e1 e2=>
   rw[Wa1,Wa1,Wa1,Wa1,Wa1]at q;obtain⟨⟨⟨⟨⟨q1,q2⟩,q3⟩,q4⟩,q5⟩,q6⟩:=q;have q1:=beq_iff_eq.mp q1;have q2:=beq_iff_eq.mp q2;rw[Bool.not_eq_true']at q3;subst q1;cases cd with
   |mk nm bs mro ns qn hd sn sub ab col del=>
    dsimp only at e1 q3 q5 q6;have q7:=beq_iff_eq.mp q6;subst e1;subst q3;have e3:sl = #[k0,k1,k2,k3,some (.builtin n),k5]:=by
     cases sl with
     |mk l=>exact congrArg Array.mk e2
    subst e3;subst q2;refine⟨bm,⟨ns,nm,qn,bs,hd,sn,sub,ab,col,dd,k0,k1,k2,k3,k5,_,X _ _ e,.of_isNs (PySem.W.isNs_of_in X q5),PySem.W.nsMap_none_of_in X q5 q7,PySem.W.tail_of_in X q4⟩,λv b hv=>?_⟩;unfold PySem.W.mroIn PySem.W.clsIn at hv;rw[e]at hv;have hv:some ((Value.ref C'::bm).contains v)=some b:=hv;exact War.inj hv
  next=>cases q
 next=>cases q
def tRaise (C:Addr) (E:XK) (t:TA):TS:=λ_ σ H=>t σ H λvs H1=>vs.length<=sizeLine/\E (.ref C) none H1
section
variable {X:Cx}{x:Str}{C:Addr}{np cpos pos:Pos}{e:Expr}{es:List Expr}{t:TA}{E:XK}
theorem Zj3 (cl:ExcC X.K C) (hg:Gl X x) (hm:X.mg x=some (.ref C)) (hh:X.A.handled=none) (hr:Throws X E) (ha:PA X (e::es) t) (hdb:(x == ("__debug__":Str))=false:=by decide)
  (he:starEach (e::es) X.env=(false,eval e X.env)::starEach es X.env:=by rfl) (hpl:(backTo cpos (starEach (e::es) X.env)).any (·.1)=false:=by rfl):PS X (.Raise (some (.Call (.Name x np) (e::es) [] cpos)) none pos) (tRaise C E t):=by
 intro pins s σ H D I h;obtain⟨bm,⟨N,nm,qn,bs,hd,sn,sub,ab,col,dd,k0,k1,k2,k3,k5,mN,o1,o2,o3,o4⟩,_⟩:=Zcx I.ok.mod.kin cl;refine wpAny_Raise_call_subT (C:=C) (nm:=nm) (q:=qn) (N:=N) (bs:=bs) (bm:=bm) (hdct:=hd) (sn:=sn) (sub:=sub) (ab:=ab) (col:=col) (dd:=dd) (k0:=k0) (k1:=k1) (k2:=k2) (k3:=k3) (k5:=k5) (mN:=mN) F.excBase_ValueError (o4.hasType rfl) hh hpl o3 ?_;refine Zc1 I hg hm ⟨rfl,?_⟩ hdb;have e1:backTo cpos (starEach (e::es) X.env)=(false,eval e X.env)::backTo cpos (starEach es X.env):=by rw[he];rfl
 rw[e1];refine Calls.evalArgs_plain ?_;rw[<- e1];refine thn (ha cpos pins s σ H _ I h) λus s1 ⟨vs,H1,I1,r,z,q⟩=>?_;exact⟨rfl,by rw[<- r.length];exact z,I1.bk _ _ o1,o2.keeps I1.bk,o4.keeps I1.bk,λh' a hm'=>hr pins σ H1 s1 h' a C us I1 hm' q⟩
end
structure ExcI (K:W.Frag) (C:Addr):Prop where
 cl:ExcC K C
 ga:PySem.W.findIn K (.ref C) "__getattribute__" = some (some (.builtin "BaseException.__getattribute__"))
 gt:PySem.W.findIn K (.ref C) "__getattr__" = some none
 ca:PySem.W.findIn K (.ref C) "__class__" = some (some (.builtin "object.__class__"))
 gs:PySem.W.specialIn K (.builtin "object.__class__") "__get__" = some (some (.builtin "getset_descriptor.__get__"))
 tk:PySem.W.takesIn K (.builtin "object.__class__")=some true
 ob:PySem.W.mroIn K C (.type "object")=some true
 be:PySem.W.mroIn K C (.type "BaseException")=some true
theorem InsC.ty {a C:Addr}{h:Heap}{M:Model}(I:InsC a C h):PySem.W.Looks M h (typeOf (.ref a)) (.ref C):=by
 obtain⟨o,_,h1,h2,_⟩:=I;exact h2 ▸ (PySem.W.Looks.ld h1).andThen .now
section
variable {prog:Program}{w:World}{A:Around}{E:Value->Shared->Prop}{K:W.Frag}{s:Shared}{a C:Addr}
theorem Zix {M:Model}{nameV:Value}{Q:Unit->Shared->Prop}(X:K.In s.heap) (Z:ExcI K C) (I:InsC a C s.heap) (hq:Q () s):wpAny M A (checkBuiltinCall "BaseException.__getattribute__" ⟨[.ref a,nameV],[]⟩) Q E s:=by
 obtain⟨h,g,d,t,os⟩:=s;have hk:builtinKind "BaseException.__getattribute__" = some .slot:=by decide +kernel
 have hs:splitId "BaseException.__getattribute__" = some ("BaseException","__getattribute__"):=by decide +kernel
 obtain⟨bm,⟨N,nm,qn,bs,hd,sn,sub,ab,col,dd,k0,k1,k2,k3,k5,mN,hC,o2,o3,o4⟩,hmro⟩:=Zcx X Z.cl;have hB:=hmro _ _ Z.be;obtain⟨ox,_,hx,hc,_⟩:=I;have ha:=F.args_bexc_ga (.ref a) nameV;simp only[checkBuiltinCall,hk,hs];refine wpAny_bind ?_;unfold isInstance
 repeat (first|(with_reducible refine wpAny_loadPart_at hx ?_;rw[hc])|(with_reducible refine wpAny_isSubtype_exc hC ?_;rw[hB])|wp_step)
 exact hq
theorem Zg7 {R:Result->Shared->Prop}{tp:Value}(X:K.In s.heap) (I:InsC a C s.heap) (hm:PySem.W.mroIn K C (.type "object")=some true) (h:R (.ok (.ret (.ref C))) s) :
  codeAny (model prog w) A (.call (.builtin "getset_descriptor.__get__") ⟨[.builtin "object.__class__",.ref a,tp],[]⟩) R s:=by
 obtain⟨h0,g,d,t,os⟩:=s;have l0:=I.ty (M:=model prog w);have l1:=PySem.W.looks_mroIn (M:=model prog w) X hm;have ht:(⟨h0,g,d,t,os⟩:Shared).TypeIs (.builtin "object.__class__") "getset_descriptor":=PySem.W.KF.type_class;refine codeAny_call_builtin PySem.W.KF.slot_gs.plain PySem.W.KF.entry_gs (PySem.W.KF.slot_gs.check _ _ _ _ _ _ _ _ ht (PySem.W.KF.args_gs _ _ _) ?_);unfold Builtin.«getset_descriptor.__get__» Builtin.Getset_descriptor.descrGet;rw[PySem.W.dga_obj];refine wpAny_bind (m:=pure _) (wpAny_pure ?_);unfold Builtin.Getset_descriptor.descrGetter Builtin.Getset_descriptor.descrCheckInstance Builtin.Getset_descriptor.descrNameAndClass isInstance;simp only[PySem.W.KF.owner_class]
 repeat lk
 refine⟨Code.quiet_builtin _ (by decide +kernel),codeAny_builtin PySem.W.KF.entry_class ?_⟩;unfold Builtin.«object.__class__» shownTypeOf
 repeat lk
 exact h
theorem Zig {Q:Option Value->Shared->Prop}(X:K.In s.heap) (Z:ExcI K C) (I:InsC a C s.heap) (h:Q (some (.ref C)) { s with toks:=s.toks+1 }):wpAny (model prog w) A (getAttr? (.ref a) "__class__") Q E s:=by
 obtain⟨hh,g,d,t,os⟩:=s;have L0:=I.ty (M:=model prog w);have L1:=PySem.W.looks_findIn (M:=model prog w) X Z.ga;have L2:=PySem.W.looks_findIn (M:=model prog w) X Z.gt;have L3:PySem.W.Looks (model prog w) hh (Builtin.ObjectAttr.find (.ref a) (.ref C) "__class__") (.bind (.builtin "getset_descriptor.__get__") (.builtin "object.__class__")):=by
  unfold Builtin.ObjectAttr.find;refine(PySem.W.looks_findIn X Z.ca).andThen ((show PySem.W.Looks (model prog w) hh (Builtin.ObjectAttr.getOf (some (.builtin "object.__class__"))) _ from PySem.W.looks_specialIn X Z.gs).andThen ?_);have q:PySem.W.Looks (model prog w) hh (Builtin.ObjectAttr.dataDescriptor? (some (.builtin "object.__class__")) (some (.builtin "getset_descriptor.__get__"))) (some (.builtin "getset_descriptor.__get__",.builtin "object.__class__")):=(PySem.W.looks_takesIn X Z.tk).andThen .now;exact q.andThen (PySem.W.Looks.tag .now)
 have f3:=F.excAttr_ValueError.ga.bind (.ref a);have hx2:(Value.builtin "BaseException.__getattribute__" == Value.builtin "object.__getattribute__")=false:=by decide +kernel
 have hx1:(onTheHeap (Value.ref C) && Value.builtin "BaseException.__getattribute__" == Value.builtin "object.__getattribute__")=false:=by rw[hx2];rfl
 unfold getAttr? getAttrBy? getAttrBy;refine wpAny_bind (wpAny_mkText (wpAny_bind (wpAny_attempt (wpAny_holding (wpAny_bind (L0.at (wpAny_bind (L1.at ?_))))))));dsimp only;rw[hx1];rw[if_neg Wak];unfold getAttrByItsOwn hookBefore;rw[if_pos (show onTheHeap (Value.ref C)=true from rfl)];refine wpAny_bind (L2.at (wpAny_bind (wpAny_attempt (wpAny_holding ?_))));unfold callGetattribute;rw[Bool.false_and,if_neg Wak];unfold boundAndCalled;refine wpAny_bind (wpAny_of_eq f3 ?_);refine wpAny_call (codeAny_call_builtin F.excAttr_ValueError.ga.plain F.entry_bexc_ga (Zix X Z I ?_));unfold Builtin.«object.__getattribute__»;refine wpAny_bind (m:=slotArgs _ _ _) (wpAny_pure ?_);dsimp only;refine wpAny_bind (m:=Builtin.ObjectAttr.attrName _) (wpAny_pure ?_);refine wpAny_bind (L0.at (wpAny_bind (L3.at ?_)));dsimp only;unfold Builtin.ObjectAttr.bindTo;dsimp only;refine wpAny_bind (wpAny_holding (wpAny_call (Zg7 (s:=⟨hh,g,d,t+1,os⟩) X I Z.ob (wpAny_pure ?_))));exact PySem.W.handed_on rfl (wpAny_pure h)
theorem Ze3 (Z:ExcI K C):PySem.W.KitX K (.ref a) (.ref C) (InsC a C) where
 ty:=λ_ _ _ I=>I.ty
 it:=λ_ h X _=>by
  obtain⟨bm,⟨N,nm,qn,bs,hd,sn,sub,ab,col,dd,k0,k1,k2,k3,k5,mN,hC,_⟩,_⟩:=Zcx X Z.cl;intro A' Q' E' s' k q;unfold isType loadHead;exact wpAny_bind (wpAny_loadPart (k _ _ hC) (wpAny_pure q))
 ne:=λh tp dd its n sl X htp=>by
  obtain⟨bm,⟨N,nm,qn,bs,hd,sn,sub,ab,col,dd',k0,k1,k2,k3,k5,mN,hC,_⟩,_⟩:=Zcx X Z.cl;refine Bool.eq_false_iff.mpr λq=>?_;have e:C=tp:=Value.ref.inj (beq_iff_eq.mp q);subst e;rw[hC]at htp;exact absurd (congrArg Obj.cls (War.inj htp)) (by intro z;injection z with z;exact absurd z (by decide))
 ca:=λX I k=>Zig X Z I k
end
theorem Zdy {M:Model}{A:Around}{E:Value->Shared->Prop}{K:W.Frag}{s:Shared}{a C FE:Addr}{Q:Bool->Shared->Prop}(X:K.In s.heap) (cF:ExcC K FE) (cC:ExcC K C) (hm:PySem.W.mroIn K C (.ref FE)=some true) (I:InsC a C s.heap) (hq:Q true s) :
  wpAny M A (excMatches (.ref a) (.ref FE)) Q E s:=by
 obtain⟨h,g,d,t,os⟩:=s;obtain⟨bm,⟨N,nm,qn,bs,hd,sn,sub,ab,col,dd,k0,k1,k2,k3,k5,mN,hC,_⟩,hmro⟩:=Zcx X cC;obtain⟨bm',⟨N',nm',qn',bs',hd',sn',sub',ab',col',dd',k0',k1',k2',k3',k5',mN',hF,_,_,oF⟩,_⟩:=Zcx X cF;have hA:=hmro _ _ hm;have hB:(Value.ref FE::bm').contains (.type "BaseException")=true:=by rw[List.contains_cons,oF.hasType (X:="BaseException") (b:=true) rfl,Bool.or_true]
 obtain⟨ox,_,hx,hc,_⟩:=I;have f:=tc_notTuple;unfold excMatches
 repeat (first|(with_reducible refine wpAny_loadPart_at hx ?_;rw[hc])|with_reducible refine wpAny_loadPart_at hF ?_|(with_reducible refine wpAny_isSubtype_exc hF ?_;rw[hB])|(with_reducible refine wpAny_isSubtype_exc hC ?_;rw[hA])|wp_step)
 exact hq
abbrev XC (X:Cx) (e:Addr):Cx:={ X with A:=X.A.mark (some (.ref e)),calm:=false,xe:=λ_ _=>False }
theorem Cx.Ok.suite {X:Cx}(ok:X.Ok) (e:Addr):(XC X e).Ok:=
 ⟨ok.mod,ok.kind,ok.glob,ok.blt,ok.above,ok.inj,ok.has,ok.cab,(λz=>nomatch z),ok.frames,ok.stk,ok.exf,ok.bs,ok.bsz,ok.noex,ok.exfs,ok.funs,ok.frf⟩
abbrev XT (X:Cx) (pn:List (Addr × Obj)) (xe:Value->Shared->Prop):Cx:={ X with pn:=pn,xe:=xe }
theorem Cx.Ok.try_ {X:Cx}(ok:X.Ok) (pn:List (Addr × Obj)) (xe:Value->Shared->Prop):(XT X pn xe).Ok:=
 ⟨ok.mod,ok.kind,ok.glob,ok.blt,ok.above,ok.inj,ok.has,ok.cab,ok.hd,ok.frames,ok.stk,ok.exf,ok.bs,ok.bsz,ok.noex,ok.exfs,ok.funs,ok.frf⟩
section
variable {X:Cx}{pins:List (Addr × Obj)}{σ:St}{H:Hp}{s:Shared}{a C:Addr}
theorem Inv.suite (I:Inv X pins σ H s) (e:Addr):Inv (XC X e) pins σ H s:=⟨I.ok.suite e,I.os,I.bare,I.base,I.loc,I.cell,I.free,I.freeC,I.pin,I.hok,I.len⟩
theorem Inv.unsuite {e:Addr}(ok:X.Ok) (I:Inv (XC X e) pins σ H s):Inv X pins σ H s:=⟨ok,I.os,I.bare,I.base,I.loc,I.cell,I.free,I.freeC,I.pin,I.hok,I.len⟩
theorem Inv.into {xe:Value->Shared->Prop}(I:Inv X pins σ H s):Inv (XT X (X.pn++pins) xe) [] σ H s:=⟨I.ok.try_ _ _,I.os,I.bare,I.base,I.loc,I.cell,I.free,I.freeC,λp hp=>I.pin p (by simpa using hp),I.hok,I.len⟩
theorem Inv.outof {xe:Value->Shared->Prop}{pins1:List (Addr × Obj)}(ok:X.Ok) (I:Inv (XT X (X.pn++pins) xe) pins1 σ H s):Inv X pins σ H s:=⟨ok,I.os,I.bare,I.base,I.loc,I.cell,I.free,I.freeC,λp hp=>I.pin p (Wb4 _ hp),I.hok,I.len⟩
theorem Inv.held (I:Inv X pins σ H s) (n:Nw X pins H a) (hi:InsC a C s.heap):Inv X pins σ (upd H a (.ext (InsC a C))) s:=by
 have keep:∀b,b≠a->upd H a (.ext (InsC a C)) b=H b:=λb hb=>Zag hb;have nn:∀b u,H b=some u->b≠a:=λb u e z=>by subst z;rw[n.trk]at e;cases e
 refine⟨I.ok,I.os,I.bare,⟨I.base.keep,I.base.slot,λb o e q hx=>?_,I.base.there,λb xs e=>?_,λb o u e=>?_,λb ps e=>?_⟩,I.loc,I.cell,?_,λx c e=>?_,λp hp=>?_,λb u e=>?_,I.len⟩
 ·rw[keep b (λz=>by subst z;rw[n.old]at e;cases e)];exact I.base.free b o e q hx
 ·have q:=I.base.tups b xs e
  rw[keep b (nn b _ q)];exact q
 ·have q:=I.base.frzs b o u e
  rw[keep b (nn b _ q)];exact q
 ·obtain⟨m,q⟩:=I.base.tbls b ps e
  exact⟨m,by rw[keep b (nn b _ q)];exact q⟩
 ·rw[keep _ (Ne.symm n.loc)];exact I.free
 ·rw[keep _ (n.cel x c e)];exact I.freeC x c e
 ·obtain⟨e,q,r⟩:=I.pin p hp
  exact⟨e,by rw[keep _ (n.pin p hp)];exact q,r⟩
 ·by_cases hb:b=a
  ·subst hb
   rw[Zai]at e;cases e;obtain⟨ox,vs,h1,h2⟩:=hi;exact⟨⟨ox,vs,h1,h2⟩,⟨ox,h1⟩,λh1' h2' ⟨o,ws,z1,z2⟩ k=>⟨o,ws,k o z1,z2⟩⟩
  ·rw[keep b hb]at e
   refine(I.hok b u e).stay (λc v _ q=>q) (λc q=>?_) λc xs q=>?_
   ·rw[keep c (nn c _ q)];exact q
   ·rw[keep c (nn c _ q)];exact q
theorem Inv.gone {M:Model}{A:Around}{E:Value->Shared->Prop}{i:Nat}{x:Str}{pos:Pos}{Q:Unit->Shared->Prop}(I:Inv X pins σ H s) (hN:X.N.Nodup) (hi:X.N[i]?=some x) (hk:X.env.scope.names.lookup x=some .local)
  (h:∀s',Inv X pins (σ.set i none) H s' -> Q () s'):wpAny M A (do bindName X.env x .none;unbindBehindTheSuite X.env x pos) Q E s:=by
 obtain⟨m,hn,hl⟩:=id I.loc;have hcls:(X.env.scope.kind == .class || (X.env.scope.kind == .module && X.env.locals != X.env.globals))=false:=by rw[I.ok.kind];rfl
 refine wpAny_nameGoes_keeps (show X.env.kindOf x=some .local from hk) hn hcls λh' v hn' hs=>h _ ?_;have cne:=I.cne;obtain⟨oL,_,_,hoL,_⟩:=id hn;have ltL:∀b o,X.s₀.heap.get? b=some o->b≠X.env.locals:=λb o e=>Was (Wam (Waf e) I.ok.above);refine⟨I.ok,I.os,I.bare,⟨λb o e n hb hx=>?_,λb o e n hb hx=>?_,I.base.free,λb o e hx=>?_,I.base.tups,I.base.frzs,I.base.tbls⟩,⟨_,hn',λj y v' e1 e2 e3=>?_⟩,λy c e=>?_,I.free,I.freeC,λp hp=>?_,λb u e=>?_,by simpa using I.len⟩
 ·exact(hs.2 b (ltL b o e)).trans (I.base.keep b o e n hb hx)
 ·obtain⟨sl,e1⟩:=I.base.slot b o e n hb hx
  exact⟨sl,(hs.2 b (ltL b o e)).trans e1⟩
 ·obtain⟨o',e1⟩:=I.base.there b o e hx
  exact⟨o',(hs.2 b (ltL b o e)).trans e1⟩
 ·have hj:j≠i:=by
   intro z;subst z;rw[Wcd]at e2;split at e2
   ·split at e2 <;> cases e2
   ·rename_i z;exact z rfl
  rw[Wah (Ne.symm hj)]at e2;obtain⟨u',r',q⟩:=hl j y v' e1 e2 e3;refine⟨u',r',?_⟩;rcases q with ⟨k,e⟩|⟨k,c,e,z⟩
  ·refine .inl ⟨k,?_⟩
   have hy:y≠x:=λe=>hj (Zem hN e1 (e ▸ hi));show (if y=x then v else m y)=_;rw[if_neg hy];exact e
  ·exact .inr ⟨k,c,e,z.sameBut hs (cne y c e)⟩
 ·obtain⟨w',z⟩:=I.cell y c e
  exact⟨w',z.sameBut hs (cne y c e)⟩
 ·obtain⟨e,n,ne,nf,d⟩:=I.pin p hp
  exact⟨(hs.2 p.1 ne).trans e,n,ne,nf,d⟩
 ·refine(I.hok b u e).stay (λc w' hc q=>(hs.2 c ?_).trans q) (λ_ q=>q) λ_ _ q=>q
  rintro rfl;rcases hc with rfl|hc
  ·rw[I.free]at e;cases e
  ·rw[I.free]at hc;cases hc
end
def tTry (K:W.Frag) (FE:Addr) (i n:Nat) (tb:XK->TS) (th:Addr->TS):TS:=λD σ H=>∃E:XK,tb E D σ H/\∀C H1,E (.ref C) none H1->(ExcC K C/\PySem.W.mroIn K C (.ref FE)=some true) ∧
 ∀a,H1 a=none->th a ⟨λσ' H'=>D.nx (σ'.set i none) H',D.rt,λσ' H'=>D.bk (σ'.set i none) H',λσ' H'=>D.ct (σ'.set i none) H'⟩ ((Wao n none).set i (some (.ref a))) (upd H1 a (.ext (InsC a C)))
section
variable {X:Cx}{x y:Str}{FE:Addr}{np hpos pos:Pos}{b0:Stmt}{body hb:List Stmt}{i n:Nat}{tb:XK->TS}{th:Addr->TS}
theorem Zos (nd:X.N.Nodup) (hi:X.N[i]?=some y) (hk:X.env.scope.names.lookup y=some .local) (hn:X.N.length=n) (hex:X.ex=[]) (hst:X.stack=X.env::X.outer) (hf:X.env.frame=some X.env.locals) (hg:Gl X x) (hm:X.mg x=some (.ref FE)) (cF:ExcC X.K FE)
  (hbd:∀(E:XK) (pn:List (Addr × Obj)) (xe:Value->Shared->Prop),Passes (CXE X.prog X.w) (XT X pn xe) E->PSs (XT X pn xe) body (tb E)) (hh:∀a,PSs (XC X a) (b0::hb) (th a)) (hfn:X.fn y=true\/X.env.scope.names.lookup y=some .local:=by exact .inr rfl) (hdb:(x == ("__debug__":Str))=false:=by decide) :
  PS X (.Try body [.ExceptHandler (some (.Name x np)) (some y) (b0::hb) hpos] [] [] pos) (tTry X.K FE i n tb th):=by
 intro pins s σ H D I h;obtain⟨E,hB,hE⟩:=h;refine wpAny_Try_except ?_;refine wpAny_mono (hbd E (X.pn++pins) (λe s1=>wpAny (model X.prog X.w) X.A (noteFrame e X.env) (λ_ s2=>wpAny (model X.prog X.w) X.A (setFlight e none) (λ_ s3=>wpAny (model X.prog X.w) X.A (handleBy e X.env [.ExceptHandler (some (.Name x np)) (some y) (b0::hb) hpos]) (SP X pins D) X.xe s3) X.xe s2) X.xe s1) ?_ [] s σ H D I.into hB) (λf s1 hq=>?_) (λ_ _ z=>z)
 ·intro pins1 σ1 H1 s1 e s2 J hq
  obtain⟨a,C,T,H2,rfl,os,bare,un,hok,ha,hsa,hT,hsT,tr,hE'⟩:=hq;have J1:Inv X pins σ1 H1 s1:=Inv.outof I.ok J;have J2:Inv X pins σ1 H2 s2:=J1.call' (ch:=[]) os un hok bare (λb z=>absurd z (by simp));have na:=(Nw.of J1 hex hsa).at ha;have nT:=(Nw.of J1 hex hsT).at hT;obtain⟨⟨cC,mC⟩,hth⟩:=hE C H2 hE';refine Zio J2 hex hst hf tr na nT λh3 T3 K3 t3 n3=>?_;have inC:∀{h:Heap}{T:Addr},Trc h a C T->InsC a C h:=λq=>by
   obtain⟨oe,vs,oT,ts,q1,q2,q3,_,q4,_⟩:=q;exact⟨oe,vs,q1,q2,q3,q4⟩
  refine wpAny_handleBy_cons (codeAny_handlers_test ?_) (by intro q;cases q);refine Zc1 (X:=XC X a) (K3.suite a) hg hm ?_ hdb;refine Zdy (K:=X.K) K3.kIn cF cC mC (inC t3) ?_;refine codeAny_handlers_suite_as ?_;refine Zjy K3 hex t3 na n3 λh4 T4 K4 t4 n4=>?_;have K5:=(K4.held na (inC t4)).suite a;have K6:=K5.weak (σ':=Wao n none) (by rw[Wau,<- hn];exact K5.len.symm) (λj v z=>by
   rw[Wbf]at z;split at z <;> cases z)
  refine Zb5 (X:=XC X a) (v:=.ref a) K6 nd hi (.inl hk) rfl (λs5 K7=>?_) hfn;refine wpAny_mono (hh a pins s5 _ _ _ K7 (hth a ha)) (λf s6 q=>?_) (λ_ _ z=>z.elim);cases f with
  |next=>
   obtain⟨σ',H',K8,q⟩:=q;exact Inv.gone (K8.unsuite I.ok) nd hi hk λs7 K9=>⟨_,H',K9,q⟩
  |brk=>
   obtain⟨σ',H',K8,q⟩:=q;exact Inv.gone (K8.unsuite I.ok) nd hi hk λs7 K9=>⟨_,H',K9,q⟩
  |cont=>
   obtain⟨σ',H',K8,q⟩:=q;exact Inv.gone (K8.unsuite I.ok) nd hi hk λs7 K9=>⟨_,H',K9,q⟩
  |ret u=>
   obtain⟨v,σ',H',K8,r,q⟩:=q;exact Inv.gone (K8.unsuite I.ok) nd hi hk λs7 K9=>⟨v,_,H',K9,r,q⟩
 ·cases f with
  |next=>
   obtain⟨σ',H',J,q⟩:=hq;exact wpAny_execs_nil ⟨σ',H',Inv.outof I.ok J,q⟩
  |brk=>
   obtain⟨σ',H',J,q⟩:=hq;exact⟨σ',H',Inv.outof I.ok J,q⟩
  |cont=>
   obtain⟨σ',H',J,q⟩:=hq;exact⟨σ',H',Inv.outof I.ok J,q⟩
  |ret u=>
   obtain⟨v,σ',H',J,r,q⟩:=hq;exact⟨v,σ',H',Inv.outof I.ok J,r,q⟩
end
def rIsiE (K:W.Frag):List V->Hp->VK->Prop:=λxs H Q=>∃a C b,H a=some (.ext (InsC a C))/\ExcI K C/\Q (.bl b) H ∧
 ((∃c,xs=[.ref a,.ref c]/\PySem.W.kitOne K (.ref C) (.ref c)=some b)\/(∃t,xs=[.ref a,.ty t]/\PySem.W.kitOne K (.ref C) (.type t)=some b) ∨
  ∃(p:Addr) (cs:List Addr),xs=[.ref a,.ref p]/\H p=some (.tup (cs.map V.ref))/\PySem.W.kitAny K (.ref C) (cs.map Value.ref)=some b)
section
variable {X:Cx}
theorem isiEK (K:W.Frag) (hK:X.K=K:=by rfl):CallR X (.builtin "isinstance") (rIsiE K):=by
 subst hK;intro pins s σ H xs us Q I r h;obtain⟨a,C,b,ha,Z,q,h⟩:=h;obtain⟨hi,_⟩:=I.hok a _ ha;rcases h with ⟨c,rfl,e⟩|⟨t,rfl,e⟩|⟨p,cs,rfl,hp,e⟩
 ·obtain⟨u,u',rfl,rx,rn⟩:=vals2 r
  cases (show u=Value.ref a from rx);cases (show u'=Value.ref c from rn);exact PySem.W.kia_one (Ze3 Z) I.kIn hi e (λz=>nomatch z) λtk=>⟨.bl b,H,I.tok _,rfl,q⟩
 ·obtain⟨u,u',rfl,rx,rn⟩:=vals2 r
  cases (show u=Value.ref a from rx);cases (show u'=Value.type t from rn);exact PySem.W.kia_one (Ze3 Z) I.kIn hi e (λz=>nomatch z) λtk=>⟨.bl b,H,I.tok _,rfl,q⟩
 ·obtain⟨u,u',rfl,rx,rn⟩:=vals2 r
  cases (show u=Value.ref a from rx);cases (show u'=Value.ref p from rn);obtain⟨_,its,rv,o,ho,⟨hc,n,hd⟩,hdd⟩:=I.hok p _ hp;have hv:∀(ns:List Addr) (its:List Value),Vals (ns.map V.ref) its->its=ns.map Value.ref:=by
   intro ns
   induction ns with
   |nil=>intro its h;cases h;rfl
   |cons b r ih=>intro its h;cases h with|cons h1 h2=>cases (show _=Value.ref b from h1);rw[ih _ h2];rfl
  have e2:=hv cs its rv;subst e2;obtain⟨cls,dd,data,sl⟩:=o;simp only at hc hd hdd;subst hc hd hdd;exact PySem.W.kia_tup (Ze3 Z) I.kIn hi ho e (λz=>nomatch z) λtk=>⟨.bl b,H,I.tok _,rfl,q⟩
end
structure CalleeX (P:Program) (w:World) (K:W.Frag) (mg:Str->Option Value) (base:Heap) (k:Nat) (x:Str) (ps:List Str) (sp:Sp):Prop where
 ex:∃(f:Addr) (fd:FuncData),FnOk P w K mg base (CXE P w) k f fd ps sp/\Binds K fd ps []/\W.keepIn K (.ref f)=true/\mg x=some (.ref f)
section
variable {X:Cx}{k:Nat}{x:Str}{ps:List Str}{sp:Sp}{e:Expr}{es:List Expr}{t:TA}{p pos:Pos}{E:XK}
theorem Zpo (C:CalleeX X.prog X.w X.K X.mg X.base k x ps sp) (hr:Room k X.A) (hx:Passes (CXE X.prog X.w) X E) (ha:PA X (e::es) t) (hg:Gl X x:=by rfl) (hdb:(x == ("__debug__":Str))=false:=by decide)
  (he:starEach (e::es) X.env=(false,eval e X.env)::starEach es X.env:=by rfl) (hpl:(backTo pos (starEach es X.env)).any (·.1)=false:=by rfl):PE X (.Call (.Name x p) (e::es) [] pos) (tCall sp [] E t):=by
 obtain⟨f,fd,F,b,kp,m⟩:=C.ex;exact Zhp F hr hg m kp b .nil hx ha hdb he hpl
end
section
variable {P:Program}{w:World}{K:W.Frag}{mg:Str->Option Value}{base:Heap}
theorem Fun.okX {x qual:Str}{st:Stmt}{f:Addr}{fd:FuncData}{N ps:List Str}{k:Nat}{sp:Sp}(F:Fun K x qual st f fd) (S:FnScope N ps (defScope st)) (len:∀vs H Q E,sp vs H Q E->vs.length=ps.length)
  (hbody:∀(cdv:Value) (A:Around) (outer:List Env) (s:Shared) (H:Hp) (vs:List V) (Q:VK) (E:XK),Room k (A.deeper (envOfC qual (defScope st) s.heap.objs.size f cdv))->sp vs H Q E →
   ∃t,PSs (cxOf (CXE P w) P w K mg base N qual (defScope st) f cdv A outer s H E) (defBody st) t/\t { nx:=λ_ H'=>Q .non H',rt:=Q } (start N vs) H):FnOk P w K mg base (CXE P w) (k+1) f fd ps sp:=by
 obtain⟨oc,od,kV,doc,pm,an,cdv,ct,osl,rfl,lk,hcd⟩:=F.ex;exact Zlm lk hcd S len λA outer s H vs Q E hr hsp=>hbody cdv A outer s H vs Q E hr hsp
end
def EW (E:XK) (Xp:Addr->Prop) (g:Gm):Prop:=∀C H',(∀b o,¬ g.B b->g.Hz b=some o->H' b=some o)->(∀b,g.B b->H' b≠none)->Same g.F H' -> (∀b o,g.Xo b=some o->H' b=some o)->Xp C->E (.ref C) none H'
def JX (K:W.Frag) (E:XK) (Xp:Addr->Prop) (t:TS) (Δ:Evt) (P:Pst):Prop:=∀g G H σ D,EW E Xp g->Ok K g G H σ Δ -> SCont K g P D->t D σ H
abbrev XSp:=List D->(D->Prop)->(Addr->Prop)->Prop
def spX (K:W.Frag) (f:XSp):Sp:=λvs H Q E=>∃F ds Post Xp,Same F H/\Reps K F vs ds/\f ds Post Xp/\(∀r H' d,Same H H' -> Rep K (glue F H H') r d->Post d->Q r H')/\∀C H',Same H H' -> Xp C->E (.ref C) none H'
section
variable {K:W.Frag}{Δ:Evt}{E:XK}{Xp:Addr->Prop}{nx bk ct:Evt->Prop}{rt:D->Evt->Prop}{ro:OD->Evt->Prop}
theorem EW.at {g:Gm}{G H H':Hp}{σ:St}{C:Addr}(w:EW E Xp g) (k:Ok K g G H σ Δ) (s:Same H H') (x:Xp C):E (.ref C) none H':=
 w C H' (λb o hb e=>s b o (k.same b o hb e)) (λb hb z=>by
  cases q:H b with
  |none=>exact k.lent b hb q
  |some o=>rw[s b o q]at z;cases z) (λb o e=>s b o (k.live b o (k.sub b o e))) (λb o e=>s b o (k.ext b o e).1) x
theorem Znc {f:XSp}{n:Nat}(h:∀ds Post Xp,f ds Post Xp->ds.length=n):∀vs H Q E,spX K f vs H Q E->vs.length=n:=λvs H Q E hq=>by
 obtain⟨F,ds,Post,Xp,l,rs,hf,q⟩:=hq;rw[rs.length];exact h ds Post Xp hf
theorem Zp5 {f:XSp}{t:TS}{N:List Str}{vs:List V}{H:Hp}{Q:VK}(ht:∀ds Post Xp,f ds Post Xp->ds.length<=N.length/\JX K E Xp t (startD N ds) ⟨λ_=>Post .non,λd _=>Post d,λ_=>False,λ_=>False,λ_ _=>False⟩) (h:spX K f vs H Q E) :
  t { nx:=λ_ H'=>Q .non H',rt:=Q } (start N vs) H:=by
 obtain⟨F,ds,Post,Xp,l,rs,hf,q,x⟩:=h;obtain⟨hl,hj⟩:=ht ds Post Xp hf;have fin:∀{v:V}{d:D}{σ:St}{G H':Hp}{Δ:Evt},Ok K ⟨λ_=>False,F,H,λ_=>none⟩ G H' σ Δ -> Rep K G v d->Post d->Q v H':=λ{v d σ G H' Δ} k r p=>by
  refine q v H' d (λb o e=>k.same b o (λz=>z) e) (r.mono λb o e=>?_) p;obtain⟨e1,e2⟩:=k.frz b o e;rcases e2 with z|z
  ·rw[Zbf z];exact e1
  ·rw[Za5 (l b o z)];exact z
 refine hj ⟨λ_=>False,F,H,λ_=>none⟩ F H (start N vs) _ (λC H' h1 _ _ _ xc=>x C H' (λb o e=>h1 b o (λz=>z) e) xc) (Zbt rs hl (λ_ _ _ e=>e) (λ_ z=>z.elim) (Same.refl _) (λb o e=>⟨l b o e,.inr e⟩) λ_=>rfl) ⟨λσ G H' Δ k p=>fin k .non p,λv d σ G H' Δ k r p=>fin k r p,λ_ _ _ _ _ z=>z.elim,λ_ _ _ _ _ z=>z.elim,λ_ _ _ _ _ _ _ _ z=>z.elim⟩
theorem Zph {t u:TS}(h:JX K E Xp t Δ ⟨λΔ1=>JX K E Xp u Δ1 ⟨nx,rt,bk,ct,ro⟩,rt,bk,ct,ro⟩):JX K E Xp (tSeq t u) Δ ⟨nx,rt,bk,ct,ro⟩:=λg G H σ D w k c=>
 h g G H σ _ w k ⟨λσ1 G1 H1 Δ1 k1 p1=>p1 g G1 H1 σ1 D w k1 c,c.rt,c.bk,c.ct,c.ro⟩
theorem Zp9 {c:TT}{t u:TS}{P:Pst}(h:JT K c Δ λb Δ1=>if b=true then JX K E Xp t Δ1 P else JX K E Xp u Δ1 P):JX K E Xp (tIfS c t u) Δ P:=λg G H σ D w k q=>
 h g G H σ _ k λb G1 H1 Δ1 k1 s1 p1=>by
  cases b with
  |true=>exact(show JX K E Xp t Δ1 P from p1) g G1 H1 σ D w k1 q
  |false=>exact(show JX K E Xp u Δ1 P from p1) g G1 H1 σ D w k1 q
theorem Ze4 {C:Addr}{ta:TA}{P:Pst}(h:JA K ta Δ λds Δ1=>ds.length<=sizeLine/\Xp C):JX K E Xp (tRaise C E ta) Δ P:=λg G H σ D w k q=>
 h g G H σ _ k λvs ds G1 H1 Δ1 k1 s1 r1 ⟨z,x⟩=>⟨by rw[r1.length];exact z,w.at k1 (Same.refl _) x⟩
theorem Ok.unset {g:Gm}{G H:Hp}{σ:St}(k:Ok K g G H σ Δ) (i:Nat):Ok K g G H (σ.set i none) (Δ.set i .any):=by
 have ne:∀(j:Nat) x,(Δ.set i .any)[j]?=some x->x≠.any->j≠i /\ Δ[j]?=some x/\(σ.set i none)[j]? = σ[j]?:=λj x e h=>by
  by_cases hj:j=i
  ·subst hj
   rw[Wcd]at e;split at e
   ·split at e
    ·cases e;exact absurd rfl h
    ·cases e
   ·rename_i z;exact absurd rfl z
  ·rw[Wah (Ne.symm hj)]at e
   exact⟨hj,e,Wah (Ne.symm hj)⟩
 have od:∀(x:Slot) o,x.od=some o->x≠.any:=λx o e z=>by subst z;cases e
 refine⟨k.same,k.lent,k.sub,k.frz,λb o e=>?_,by simp[k.len],λj d e=>?_,λj x o e1 e2=>?_,λj l x y o o' a e1 e2 e3 e4 e5 e6=>?_⟩
 ·obtain⟨h1,h2,h3⟩:=k.ext b o e
  refine⟨h1,h2,λj x o e1 e2=>?_⟩;obtain⟨_,q1,q2⟩:=ne j x e1 (od x o e2);rw[q2];exact h3 j x o q1 e2
 ·obtain⟨_,q1,q2⟩:=ne j _ e (by intro z;cases z)
  rw[q2];exact k.val j d q1
 ·obtain⟨_,q1,q2⟩:=ne j x e1 (od x o e2)
  rw[q2];exact k.own j x o q1 e2
 ·obtain⟨_,q1,q2⟩:=ne j x e1 (od x o e2)
  obtain⟨_,q3,q4⟩:=ne l y e3 (od y o' e4);rw[q2]at e5;rw[q4]at e6;exact k.dis j l x y o o' a q1 e2 q3 e4 e5 e6
theorem Zm2 {a C c:Addr}{b:Bool}{P:D->Evt->Prop}(Z:ExcI K C) (e:PySem.W.kitOne K (.ref C) (.ref c)=some b) (p:P (.bl b) Δ):JC K (rIsiE K) [.exc a C,.adr c] Δ P:=λg G H σ Q vs k rs q=>by
 obtain⟨_,_,rfl,r,t⟩:=rs.inv
 next=>
  obtain⟨_,_,rfl,r',t⟩:=t.inv
  next=>
   cases t.inv;obtain⟨rfl,ha⟩:=r.inv
   next=>
    cases r'.inv;exact⟨_,C,b,k.live _ _ ha,Z,q _ _ G H Δ k (Same.refl _) (.bl b) p,.inl ⟨c,rfl,e⟩⟩
theorem Zkd {a C:Addr}{n:String}{b:Bool}{P:D->Evt->Prop}(Z:ExcI K C) (e:PySem.W.kitOne K (.ref C) (.type n)=some b) (p:P (.bl b) Δ):JC K (rIsiE K) [.exc a C,.ty n] Δ P:=λg G H σ Q vs k rs q=>by
 obtain⟨_,_,rfl,r,t⟩:=rs.inv
 next=>
  obtain⟨_,_,rfl,r',t⟩:=t.inv
  next=>
   cases t.inv;obtain⟨rfl,ha⟩:=r.inv
   next=>
    cases r'.inv;exact⟨_,C,b,k.live _ _ ha,Z,q _ _ G H Δ k (Same.refl _) (.bl b) p,.inr (.inl ⟨n,rfl,e⟩)⟩
theorem Zpf {a:Addr}{P:D->Evt->Prop}(p:P (.adr a) Δ):JE K (tC (.ref a)) Δ P:=λg G H σ Q k c=>c _ _ G H Δ k (Same.refl _) (.adr a) p
end
theorem Zbh {K:W.Frag}{C c:Addr}{b:Bool}(h1:PySem.W.isClsIn K c=true) (h2:PySem.W.typeIn K (.ref c)=some (.type "type")) (h3:PySem.W.subIn K (.ref C) (.ref c)=some b) (h4:(C == c)=true->b=true):PySem.W.kitOne K (.ref C) (.ref c)=some b:=by
 unfold PySem.W.kitOne PySem.W.kitCls;by_cases e:(Value.ref C == Value.ref c)=true
 ·rw[if_pos e]
  have e':C=c:=Value.ref.inj (beq_iff_eq.mp e);rw[h4 (by rw[e'];exact beq_self_eq_true c)]
 ·rw[if_neg e]
  have h1:(PySem.W.clsIn K c).isSome=true:=h1;simp only[h1,h2,beq_self_eq_true,Bool.and_self,if_true,h3]
open PySem PySem.Spec PyProof.Rows PySem.SeqAt
theorem Za9 {A:Around}{s:Shared}{x:V}{v u:Value}(h:flatV x=true) (rv:RelV x v) (ru:RelV x u):EqAt A s v u true:=by
 cases x with
 |non=>cases (show v=Value.none from rv);cases (show u=Value.none from ru);exact EqAt.same _
 |bl b=>cases (show v=Value.bool b from rv);cases (show u=Value.bool b from ru);exact EqAt.same _
 |int i=>
  obtain⟨t,rfl⟩:=rv;obtain⟨t',rfl⟩:=ru;have:=EqAt.int_int (A:=A) (s:=s) i t i t'
  rwa [beq_self_eq_true]at this
 |str i=>
  obtain⟨t,rfl⟩:=rv;obtain⟨t',rfl⟩:=ru;have:=EqAt.str_str (A:=A) (s:=s) i t i t'
  rwa [beq_self_eq_true]at this
 |_=>cases h
section
variable {K:W.Frag}{Δ:Evt}{P:D->Evt->Prop}
def flatE:D->Bool
 |.non=>true
 |.bl _=>true
 |.int _=>true
 |.str _=>true
 |_=>false
end
theorem Zeu:bootBuiltins "ValueError" = some (.type "ValueError"):=by decide +kernel
theorem Zlp {K:W.Frag}{C:Addr}{n:String}{b:Bool}(hm:PySem.W.kitMeta n=true) (h:PySem.W.subIn K (.ref C) (.type n)=some b):PySem.W.kitOne K (.ref C) (.type n)=some b:=by
 unfold PySem.W.kitOne PySem.W.kitCls;have e:¬ (Value.ref C == Value.type n)=true:=λz=>by cases beq_iff_eq.mp z
 rw[if_neg e];simp only[hm,if_true,h]
theorem Zeg:entryFor table "proto.unchain" = some Builtin.«proto.unchain»:=entryFor_of_tree (by kernel_rfl)
section
variable {prog:Program}{w:World}{A:Around}{E:Value->Shared->Prop}{s:Shared}
theorem raiseH {α:Type}{a e:Addr}{oa oe:Obj}{va ve:Array Value}{Q:α -> Shared->Prop}(hh:A.handled=some (.ref a)) (hne:a≠e) (ha:s.heap.get? a=some oa) (hda:oa.data=.fields va) (h2:va[2]?=some .none)
  (he:s.heap.get? e=some oe) (hde:oe.data=.fields ve) (hsz:2<ve.size) (h:E (.ref e) { s with heap:=s.heap.update e (Obj.mapFields (·.setIfInBounds 2 (.ref a))) }):wpAny (model prog w) A (raiseNew (.ref e):Sem α) Q E s:=by
 unfold raiseNew;refine wpAny_bind (wpAny_handled ?_);rw[hh];dsimp only;have hn:(Value.ref a != Value.ref e)=true:=by
  rw[bne_iff_ne];intro z;exact hne (Value.ref.inj z)
 rw[if_pos hn];refine wpAny_bind (wpAny_holding (wpAny_runValue (codeAny_builtin Zeg ?_)));unfold Builtin.«proto.unchain»;dsimp only;refine wpAny_bind (wpAny_field ha hda h2 ?_);rw[if_pos (show (Value.none == Value.none)=true from rfl)];refine wpAny_pure ?_;show wpAny _ _ (updateField e 2 (.ref a) >>= _) _ _ s;unfold updateField;refine wpAny_bind (wpAny_bind (wpAny_load he ?_));rw[hde];dsimp only;rw[if_pos hsz];exact wpAny_update he (wpAny_throw h)
end
abbrev TurnH (xa:Addr):=TurnG λX=>X.A.handled=some (.ref xa)
abbrev PIH (xa:Addr):=PIG λX=>X.A.handled=some (.ref xa)
section
variable {K:W.Frag}{Δ:Evt}
end
section
variable {X:Cx}
def CDivB (i j:Int):Prop:=0<j/\j<=100000000000000000000000000000000000000000000000000000000000
theorem Zep:OpR X (binaryOp .FloorDiv) (rI CDivB λi j=>.int (i / j)):=opI λi j _ _ _ _ _ hc q=>by
 have h1:(0:Int)<j:=hc.1;have h2:=hc.2;refine floordiv_int (by omega) (by rw[Wb8 i (by omega)];exact q) (.inl (PyProof.noPylong_of_log2 ?_));have h3:j.natAbs<=100000000000000000000000000000000000000000000000000000000000:=by omega
 have h4:j.natAbs<2 ^ 200:=Wbd h3 (by decide);exact Wcz ((Nat.log2_lt (by omega)).2 h4) (by decide)
end
section
variable {K:W.Frag}{Δ:Evt}{E:XK}{Xp:Addr->Prop}{P:D->Evt->Prop}
theorem Zm7 (p:P (.dct [] []) Δ):JE K tDNewK Δ P:=λg G H σ Q k c q hq=>by
 obtain⟨k2,sg⟩:=k.laid hq (.dK []);exact c _ _ _ _ Δ k2 sg (.dct (vs:=[]) Zai rfl .nil) p
theorem Zmx {i j:Int}(p:P (.dct [.inl i] [.int j]) Δ):JE K (tDisp [(tC (.int i),tC (.int j))]) Δ P:=λg G H σ Q k c q hq=>by
 refine⟨Zai,[(.inl i,.int j)],rfl,by simp,?_⟩;obtain⟨k2,sg⟩:=k.laid hq (.dK [(.inl i,.int j)]);rw[Zht];exact c _ _ _ _ Δ k2 sg (.dct (vs:=[.int j]) Zai rfl (.cons (.int j) .nil)) p
end
theorem Zqd {X:Cx}{i j:Int}{a b} {p q pos:Pos}:PE X (Expr.Dict [some (Expr.Constant (Const.int i) a p)] [Expr.Constant (Const.int j) b q] pos) (tDisp [(tC (.int i),tC (.int j))]):=Zlt (Zjo Zaf Zaf Zmv) rfl rfl (List.cons_ne_nil _ _) (by show 1<=15;decide)
def keyPd:Key->PyData
 |.inl i=>.int i
 |.inr x=>.str x
mutual
def D.pd:D->PyData
 |.non=>.none
 |.bl b=>.bool b
 |.int i=>.int i
 |.str x=>.str x
 |.tup ds=>.tuple (D.pds ds)
 |.lst ds=>.list (D.pds ds)
 |.dct ks ds=>.dict ((ks.map keyPd).zip (D.pds ds))
 |_=>.none
def D.pds:List D->List PyData
 |[]=>[]
 |d::ds=>D.pd d::D.pds ds
end
section
variable {X:Cx}
end
section
variable {K:W.Frag}{Δ:Evt}{P:D->Evt->Prop}
theorem Zpl {i:Int}(h1:-1000000000000000000000000000000000000000000000000000000000000<=i) (h2:i<=1000000000000000000000000000000000000000000000000000000000000):i.natAbs.log2<1920:=by
 by_cases z:i.natAbs=0
 ·rw[z];decide
 ·have h4:i.natAbs<2 ^ 200:=Wbd (m:=1000000000000000000000000000000000000000000000000000000000000) (by omega) (by decide)
  exact Wcz ((Nat.log2_lt z).2 h4) (by decide)
end
section
variable {X:Cx}
end
def PV (K:W.Frag) (te:TE) (Δ:Evt) (d:D):Prop:=∀P:D->Evt->Prop,P d Δ -> JE K te Δ P
def PVs (K:W.Frag) (ta:TA) (Δ:Evt) (ds:List D):Prop:=∀P:List D->Evt->Prop,P ds Δ -> JA K ta Δ P
def PR2 (K:W.Frag) (r:R2) (d e:D) (Δ:Evt) (x:D):Prop:=∀P:D->Evt->Prop,P x Δ -> JR2 K r d e Δ P
section
variable {K:W.Frag}{Δ:Evt}
theorem Zc6 {te:TE}{d:D}{P:D->Evt->Prop}(h:PV K te Δ d) (p:P d Δ):JE K te Δ P:=h P p
theorem Zo5 {ta:TA}{ds:List D}{P:List D->Evt->Prop}(h:PVs K ta Δ ds) (p:P ds Δ):JA K ta Δ P:=h P p
theorem Zay {i:Nat}{d:D}(h:Δ[i]?=some (.val d)):PV K (tVar i) Δ d:=λP p=>Zae h p
theorem Zau {i:Int}:PV K (tC (.int i)) Δ (.int i):=λP p=>Zas p
theorem Zob {b:Bool}:PV K (tC (.bl b)) Δ (.bl b):=λP p=>Zn7 p
theorem Zoy:PV K (tC .non) Δ .non:=λP p=>Zli p
theorem Zk5 {x:Str}:PV K (tC (.str x)) Δ (.str x):=λP p=>Zc3 p
theorem Zmm:PV K tDNewK Δ (.dct [] []):=λP p=>Zm7 p
theorem Zm1 {i j:Int}:PV K (tDisp [(tC (.int i),tC (.int j))]) Δ (.dct [.inl i] [.int j]):=λP p=>Zmx p
theorem Zbu:PVs K tNil Δ []:=λP p=>Zah p
theorem Zan {ta:TE}{tr:TA}{d:D}{ds:List D}(h:PV K ta Δ d) (t:PVs K tr Δ ds):PVs K (tCons ta tr) Δ (d::ds):=λP p=>Zab (h _ (t _ p))
theorem Zlc {ta:TA}{ds:List D}(h:PVs K ta Δ ds) (z:ds.length<=sizeLine):PV K (tTup ta) Δ (.tup ds):=λP p=>Zde (h _ ⟨z,p⟩)
theorem Zfv {ta:TA}{ds:List D}(h:PVs K ta Δ ds) (z:ds.length<=sizeLine):PV K (tLst ta) Δ (.lst ds):=λP p=>Zdu (h _ ⟨z,p⟩)
theorem Zbd {r:R2}{ta tb:TE}{d e x:D}(a:PV K ta Δ d) (b:PV K tb Δ e) (h:PR2 K r d e Δ x):PV K (tOp r ta tb) Δ x:=λP p=>Zbe (a _ (b _ (h P p)))
theorem Znn {ds:List D}{i:Int}{d:D}(h:atI ds i=some d):PR2 K (rIxU K) (.tup ds) (.int i) Δ d:=λP p=>Zcz h p
theorem Zn0 {ds:List D}{i:Int}{d:D}(h:atI ds i=some d):PR2 K (rIxU K) (.lst ds) (.int i) Δ d:=λP p=>Zge h p
theorem Zm6 {ds es:List D}(hz:ds.length+es.length<=sizeLine):PR2 K (rAddU K) (.lst ds) (.lst es) Δ (.lst (ds++es)):=λP p=>Zcs hz p
theorem Zdl {i j:Int}:PR2 K (rAddU K) (.int i) (.int j) Δ (.int (i+j)):=λP p=>Zeb p
theorem Zek {f:Int->Int->Int}{i j:Int}:PR2 K (rI0 λi j=>.int (f i j)) (.int i) (.int j) Δ (.int (f i j)):=λP p=>Zpv p
theorem pr_I {C:Int->Int->Prop}{f:Int->Int->Int}{i j:Int}(hc:C i j):PR2 K (rI C λi j=>.int (f i j)) (.int i) (.int j) Δ (.int (f i j)):=λP p=>jr_I hc p
theorem Zpe {ta tb:TE}{ds:List D}{i:Int}{d:D}(a:PV K ta Δ (.tup ds)) (b:PV K tb Δ (.int i)) (h:atI ds i=some d):PV K (tOp (rIxU K) ta tb) Δ d:=Zbd a b (Znn h)
theorem Zps {ta tb:TE}{ds:List D}{i:Int}{d:D}(a:PV K ta Δ (.lst ds)) (b:PV K tb Δ (.int i)) (h:atI ds i=some d):PV K (tOp (rIxU K) ta tb) Δ d:=Zbd a b (Zn0 h)
theorem Zle {n:Nat}{ds:List D}{i:Int}{d:D}(hx:Δ[n]?=some (.val (.tup ds))) (h:atI ds i=some d):PV K (tOp (rIxU K) (tVar n) (tC (.int i))) Δ d:=Zpe (Zay hx) Zau h
theorem Zpg {n:Nat}{ds:List D}{i:Int}{d:D}(hx:Δ[n]?=some (.val (.lst ds))) (h:atI ds i=some d):PV K (tOp (rIxU K) (tVar n) (tC (.int i))) Δ d:=Zps (Zay hx) Zau h
end
open PySem PySem.Spec PyProof.Rows PySem.SeqAt
def Sm:Nat->D->Bool
 |0,d=>flatE d
 |n+1,d=>match d with
  |.lst ds=>ds.all (Sm n)
  |.tup ds=>ds.all (Sm n)
  |d=>flatE d
section
variable {X:Cx}
theorem Zdc:∀(n:Nat) {A:Around}{pins:List (Addr × Obj)}{σ:St}{H G:Hp}{s:Shared}{x y:V}{v u:Value}{d:D},Inv X pins σ H s->Same G H->Rep X.K G x d->Rep X.K G y d->RelV x v->RelV y u->Sm n d=true->A.units+n<cLine->EqAt A s v u true
 |0,A,pins,σ,H,G,s,x,y,v,u,d,I,sg,rx,ry,rv,ru,h,hu=>by
  cases d with
  |non=>cases rx;cases ry;exact Za9 rfl rv ru
  |bl _=>cases rx;cases ry;exact Za9 rfl rv ru
  |int _=>cases rx;cases ry;exact Za9 rfl rv ru
  |str _=>cases rx;cases ry;exact Za9 rfl rv ru
  |_=>exact nomatch h
 |n+1,A,pins,σ,H,G,s,x,y,v,u,d,I,sg,rx,ry,rv,ru,h,hu=>by
  cases d with
  |non=>cases rx;cases ry;exact Za9 rfl rv ru
  |bl _=>cases rx;cases ry;exact Za9 rfl rv ru
  |int _=>cases rx;cases ry;exact Za9 rfl rv ru
  |str _=>cases rx;cases ry;exact Za9 rfl rv ru
  |lst ds=>
   cases rx with
   |@lst a vs _ ha ra=>
    cases ry with
    |@lst b us _ hb rb=>
     cases rv;cases ru;obtain⟨its,w1,pl,_⟩:=I.list (SqL.of (sg _ _ ha));obtain⟨its2,w2,pl2,_⟩:=I.list (SqL.of (sg _ _ hb));have l1:=w1.length;have l2:=w2.length;have l3:=ra.length;have l4:=rb.length;have h:ds.all (Sm n)=true:=h;by_cases hab:a=b
     ·subst hab;exact EqAt.same _
     ·refine .of_refs hab ?_
      have z:=RcAt.lists (A:=A) (s:=s) (e:=λ_=>true) pl.isList pl2.isList (by rw[Wad,Wad];omega) (by omega) λj h1 h2=>by
       have h1':j<its.length:=by simpa using h1
       have h2':j<its2.length:=by simpa using h2
       have hx:j<ds.length:=by omega
       obtain⟨p,hp1,hp2⟩:=ra.get (Wab hx);obtain⟨q,hq1,hq2⟩:=rb.get (Wab hx);obtain⟨va,hv1,hv2⟩:=w1.get hp1;obtain⟨vb,hw1,hw2⟩:=w2.get hq1;rw[Wab h1']at hv1;rw[Wab h2']at hw1;rw[Wbk,Wbk,War.inj hv1,War.inj hw1];exact Zdc n I sg hp2 hq2 hv2 hw2 (Wbq.mp h _ (Wc0 hx)) (by show A.units+1+n<cLine;omega)
      rw[Wbq.mpr (λ_ _=>rfl)]at z;exact z
  |tup ds=>
   cases rx with
   |@tup a vs _ ha ra=>
    cases ry with
    |@tup b us _ hb rb=>
     cases rv;cases ru;obtain⟨its,w1,pl,_⟩:=I.tuple (SqT.of (sg _ _ ha));obtain⟨its2,w2,pl2,_⟩:=I.tuple (SqT.of (sg _ _ hb));have l1:=w1.length;have l2:=w2.length;have l3:=ra.length;have l4:=rb.length;have h:ds.all (Sm n)=true:=h;by_cases hab:a=b
     ·subst hab;exact EqAt.same _
     ·refine .of_refs hab ?_
      have z:=RcAt.tuples (A:=A) (s:=s) (e:=λ_=>true) pl pl2 (by omega) λj h1 h2=>by
       have h1':j<its.length:=by simpa using h1
       have h2':j<its2.length:=by simpa using h2
       have hx:j<ds.length:=by omega
       obtain⟨p,hp1,hp2⟩:=ra.get (Wab hx);obtain⟨q,hq1,hq2⟩:=rb.get (Wab hx);obtain⟨va,hv1,hv2⟩:=w1.get hp1;obtain⟨vb,hw1,hw2⟩:=w2.get hq1;rw[Wab h1']at hv1;rw[Wab h2']at hw1;rw[Wbk,Wbk,War.inj hv1,War.inj hw1];exact Zdc n I sg hp2 hq2 hv2 hw2 (Wbq.mp h _ (Wc0 hx)) (by show A.units+1+n<cLine;omega)
      rw[Wbq.mpr (λ_ _=>rfl),show (its.toArray.size == its2.toArray.size)=true by rw[Wad,Wad];exact beq_iff_eq.mpr (by omega),Bool.and_self]at z;exact z
  |_=>exact nomatch h
end
open PySem PySem.Spec PyProof.Rows PySem.SeqAt
section
variable {K:W.Frag}{Δ:Evt}
end
section
variable {K:W.Frag}{Δ:Evt}{nx bk ct:Evt->Prop}{rt:D->Evt->Prop}{ro:OD->Evt->Prop}
end
section
variable {K:W.Frag}{Δ:Evt}{P:D->Evt->Prop}
theorem Zpd {f:Int->Int->Int}{i j:Int}(p:P (.int (f i j)) Δ):JR2 K (ipI f) (.int i) (.int j) Δ P:=λg G H σ Q x y k rx ry c=>by
 cases rx.inv;cases ry.inv;exact⟨i,j,rfl,rfl,c _ _ G H Δ k (Same.refl _) (.int _) p⟩
end
end L2
set_option Elab.async false
set_option linter.all false
set_option maxRecDepth 100000
namespace HT
open PySem PyProof.Rows
end HT
namespace L2
open PySem PySem.Spec PyProof.Rows
section
variable {K:W.Frag}{Δ:Evt}{P:D->Evt->Prop}
end
section
variable {prog:Program}{w:World}{A:Around}{R:Result->Shared->Prop}{I:Addr}{fp wr:List Addr}{G:Array GenState->Array GenState->Prop}{n:Nat}{P:Nat->Value->Prop}{St:Nat->Shared->Prop}{K:Type}[DecidableEq K] {knd:KeyKind prog w K}
end
section
variable {X:Cx}
end
end L2
namespace L2
open PySem PySem.Spec PyProof.Rows
section
variable {prog:Program}{w:World}{A:Around}{E:Value->Shared->Prop}{s:Shared}
end
section
variable {K:W.Frag}{Δ:Evt}{P:D->Evt->Prop}
def onlyV:Slot->Slot
 |.val d=>.val d
 |_=>.any
theorem Zgm {x:Slot}:(onlyV x).od=none:=by cases x <;> rfl
theorem Ok.peek {g:Gm}{G H:Hp}{σ:St}(k:Ok K g G H σ Δ) {i:Nat}{x:Slot}{ds:List D}(h:Δ[i]?=some x) (ho:x.od=some (.lst ds)) :
  ∃(g':Gm) (G':Hp),Ok K g' G' H σ ((Δ.map onlyV).set i (.val (.lst ds)))/\Same G G' /\ ∀G2 H2 Δ2,Ok K g' G2 H2 σ Δ2->Ok K g G H2 σ Δ:=by
 obtain⟨a,o,w1,w2,w3,w4,w5⟩:=k.own i x _ h ho;cases o with
 |lst vs=>
  have sg:Same G (upd G a (.lst vs)):=λb u e=>by rw[Zag (Zak e w4)];exact e
  have hlt:i<(Δ.map onlyV).length:=by rw[Wag];exact(Wai.mp h).1
  refine⟨⟨λ_=>False,upd G a (.lst vs),H,λ_=>none⟩,upd G a (.lst vs),⟨λb o _ e=>e,λb z=>z.elim,λb o e=>e,λb o e=>?_,λb o e=>(by cases e),?_,λj d e=>?_,λj y od e1 e2=>?_,λj l y z od od' b e1 e2 e3 e4=>?_⟩,sg,λG2 H2 Δ2 k2=>?_⟩
  ·refine⟨?_,.inr e⟩
   by_cases hb:b=a
   ·subst hb;rw[Zai]at e;cases e;exact w2
   ·rw[Zag hb]at e;exact k.live b o e
  ·rw[Wb6,Wag];exact k.len
  ·by_cases hj:j=i
   ·subst hj
    rw[Waj hlt]at e;cases e;exact⟨.ref a,w1,.lst Zai (Reps.mono sg w3)⟩
   ·rw[Wah (Ne.symm hj),Wal]at e
    cases z:Δ[j]? with
    |none=>rw[z]at e;cases e
    |some y=>
     rw[z]at e;cases y with
     |val d'=>
      have e:Slot.val d'=Slot.val d:=War.inj e;cases e;obtain⟨v,q1,q2⟩:=k.val j d z;exact⟨v,q1,q2.mono sg⟩
     |_=>cases e
  ·exfalso
   by_cases hj:j=i
   ·subst hj
    rw[Waj hlt]at e1;cases e1;cases e2
   ·rw[Wah (Ne.symm hj),Wal]at e1
    cases z:Δ[j]? with
    |none=>rw[z]at e1;cases e1
    |some y=>
     rw[z]at e1;have e1:onlyV y=_:=War.inj e1;rw[<- e1,Zgm]at e2;cases e2
  ·exfalso
   by_cases hj:j=i
   ·subst hj
    rw[Waj hlt]at e1;cases e1;cases e2
   ·rw[Wah (Ne.symm hj),Wal]at e1
    cases z:Δ[j]? with
    |none=>rw[z]at e1;cases e1
    |some y=>
     rw[z]at e1;have e1:onlyV y=_:=War.inj e1;rw[<- e1,Zgm]at e2;cases e2
  ·have kp:∀b o,H b=some o->H2 b=some o:=λb o e=>k2.same b o (λz=>z) e
   refine⟨λb o n e=>kp b o (k.same b o n e),λb n z=>?_,k.sub,λb o e=>⟨kp b o (k.frz b o e).1,(k.frz b o e).2⟩,λb o e=>?_,k.len,k.val,λj y od e1 e2=>?_,k.dis⟩
   ·cases e:H b with
    |none=>exact k.lent b n e
    |some o=>rw[kp b o e]at z;cases z
   ·obtain⟨q1,q2,q3⟩:=k.ext b o e
    exact⟨kp b o q1,q2,q3⟩
   ·obtain⟨b,o,q1,q2,q3⟩:=k.own j y od e1 e2
    exact⟨b,o,q1,kp b o q2,q3⟩
 |_=>exact absurd w3 (λz=>z)
def plnD:D->Prop
 |.int _=>True
 |.bl _=>True
 |.non=>True
 |.str _=>True
 |_=>False
theorem Zlo {G G':Hp}{v:V}{d:D}(h:plnD d) (r:Rep K G v d):Rep K G' v d:=by
 cases d with
 |int i=>cases r.inv;exact .int i
 |bl b=>cases r.inv;exact .bl b
 |non=>cases r.inv;exact .non
 |str x=>cases r.inv;exact .str x
 |_=>exact h.elim
theorem Zh2 {i:Nat}{x:Slot}{ds:List D}{t:TT}{Pb:Bool->Evt->Prop}(h:Δ[i]?=some x) (ho:x.od=some (.lst ds)) (p:JT K t ((Δ.map onlyV).set i (.val (.lst ds))) λb _=>Pb b Δ):JT K t Δ Pb:=λg G H σ Q k c=>by
 obtain⟨g',G',k',_,back⟩:=k.peek h ho;exact p g' G' H σ Q k' λb G2 H2 Δ2 k2 _ q=>c b G H2 Δ (back G2 H2 Δ2 k2) (Same.refl _) q
theorem Zm0 {i:Nat}{x:Slot}{ds:List D}{t:TE}(h:Δ[i]?=some x) (ho:x.od=some (.lst ds)) (p:JE K t ((Δ.map onlyV).set i (.val (.lst ds))) λd _=>plnD d/\P d Δ):JE K t Δ P:=λg G H σ Q k c=>by
 obtain⟨g',G',k',_,back⟩:=k.peek h ho;exact p g' G' H σ Q k' λv d G2 H2 Δ2 k2 _ r q=>c v d G H2 Δ (back G2 H2 Δ2 k2) (Same.refl _) (Zlo q.1 r) q.2
end
end L2
namespace L2
open PySem PySem.Spec PyProof.Rows
open PySem PySem.Spec PyProof.Rows PySem.SeqAt
section
variable {prog:Program}{w:World}{A:Around}{E:Value->Shared->Prop}{s:Shared}
end
section
variable {K:W.Frag}{Δ:Evt}
end
open PySem PySem.Spec PyProof.Rows PySem.SeqAt
section
open PySem.AutoSeq1 (wpAny_loadPart')
open PySem.MeetsSeq PySem.MeetsSeq2 PySem.MeetsSeq3
end
section
variable {prog:Program}{w:World}{A:Around}{R:Result->Shared->Prop}{I:Addr}{fp wr:List Addr}{n:Nat}{P:Nat->Value->Prop}{St:Nat->Heap->Prop}
end
end L2
namespace L2
open PySem PySem.Spec PyProof.Rows PySem.SeqAt
def RowV (K:W.Frag) (H:Hp) (y:V) (r:List Int):Prop:=∃b,y=.ref b/\SqT K H b (r.map V.int)
section
variable {X:Cx}
theorem row_at {pins:List (Addr × Obj)}{s:Shared}{σ:St}{H:Hp}(I:Inv X pins σ H s) {y:V}{u:Value}{r:List Int}(ru:RelV y u) (h:RowV X.K H y r):RowAt s.heap u r:=by
 obtain⟨b,rfl,hs⟩:=h;obtain⟨its,w1,p1,_⟩:=I.tuple hs;exact⟨b,its,ru,p1,Zd3 w1⟩
end
open PySem PySem.Spec PyProof.Rows PySem.SeqAt
section
variable {K:W.Frag}{Δ:Evt}{P:D->Evt->Prop}
end
open PySem PySem.Spec PyProof.Rows PySem.SeqAt
section
variable {X:Cx}
def ipC (C:Int->Int->Prop) (f:Int->Int->Int):TIp:=λx y H Q=>∃i j,x=.int i/\y=.int j/\C i j/\Q (.int (f i j)) H
theorem Zpm:PIp X .Mult (ipC CMul λi j=>i*j):=by
 intro pins s σ H x y v u Q I r1 r2 h;obtain⟨i,j,e1,e2,hc,q⟩:=h;subst e1;subst e2;obtain⟨t,rfl⟩:=r1;obtain⟨t',rfl⟩:=r2;exact imul_int ⟨.int _,H,I.tok _,⟨_,rfl⟩,q⟩ hc.ok
end
section
variable {K:W.Frag}{Δ:Evt}{P:D->Evt->Prop}
theorem Zo2 {i j:Int}(hc:CMul i j) (p:P (.int (i*j)) Δ):JR2 K (ipC CMul λi j=>i*j) (.int i) (.int j) Δ P:=λg G H σ Q x y k rx ry c=>by
 cases rx.inv;cases ry.inv;exact⟨i,j,rfl,rfl,hc,c _ _ G H Δ k (Same.refl _) (.int _) p⟩
theorem Zmo {te:TE}{tl th:TO}{Po:OD->Evt->Prop}(h:JE K te Δ λd Δ1=>JO2 tl Δ1 K λlo Δ2=>JO2 th Δ2 K λhi Δ3=>∃ds,d=.lst ds/\Po (.lst (cutD ds lo hi)) Δ3):JO K (tSl (rSlU K) te tl th) Δ Po:=λg G H σ Q k c=>
 h g G H σ _ k λv d G1 H1 Δ1 k1 s1 r1 p1=>p1 g G1 H1 σ _ k1 λlo G2 H2 Δ2 k2 s2 p2=>p2 g G2 H2 σ _ k2 λhi G3 H3 Δ3 k3 s3 hq_=>by
  obtain⟨ds,rfl,p⟩:=hq_;obtain⟨a,vs,rfl,ha,rs⟩:=(r1.mono (s2.trans s3)).inv;refine .inl ⟨_,_,rfl,SqL.of (k3.live _ _ ha),λq hq=>?_⟩;obtain⟨k4,pd⟩:=k3.fresh (od:=.lst (cutD ds lo hi)) hq (show OwnRep K G3 (.lst (cutV vs lo hi)) (.lst (cutD ds lo hi)) from by
   show Reps K G3 _ _;unfold cutV cutD;rw[rs.length];exact(rs.drop _).take _)
  exact c q _ G3 _ Δ3 k4 (s1.trans (s2.trans s3)) pd p
end
open PySem PySem.Spec PyProof.Rows PySem.SeqAt
open PySem PySem.Spec PyProof.Rows PySem.SeqAt
theorem Zgc:bootBuiltins "reversed" = some (.type "reversed"):=by decide +kernel
section
variable {K:W.Frag}{Δ:Evt}
end
section
variable {X:Cx}
end
open PySem PySem.Spec PyProof.Rows PySem.SeqAt
section
variable {prog:Program}{w:World}{A:Around}{E:Value->Shared->Prop}{s:Shared}
theorem Zcr {l:Addr}{a b c:Int}{t0 t1 t2:Tok}{Q:(Int × Int × Int)->Shared->Prop}(l1:s.heap.get? l=some { cls:=.type "range",data:=.fields #[.int a t0,.int b t1,.int c t2] }) (h:Q (a,b,c) s):wpAny (model prog w) A (Builtin.Range.rangeFields (.ref l)) Q E s:=by
 unfold Builtin.Range.rangeFields;refine wpAny_bind (wpAny_field l1 rfl (x:=.int a t0) rfl ?_);refine wpAny_bind (wpAny_pure ?_);refine wpAny_bind (wpAny_field l1 rfl (x:=.int b t1) rfl ?_);refine wpAny_bind (wpAny_pure ?_);refine wpAny_bind (wpAny_field l1 rfl (x:=.int c t2) rfl ?_);refine wpAny_bind (wpAny_pure ?_);exact wpAny_pure h
end
theorem Zkc {n:Int}(h0:0<=n) (hn:n<=1000):(Builtin.Range.rangeFitsLong 0 && Builtin.Range.rangeFitsLong n && Builtin.Range.rangeFitsLong 1 && Builtin.Range.rangeFitsLong (-1) && Builtin.Range.rangeFitsLong (0-1) && Builtin.Range.rangeFitsLong n)=true:=by
 simp only[Builtin.Range.rangeFitsLong,Wa1,decide_eq_true_eq];omega
theorem Zju (l:Addr) (t0 t1 t2:Tok) (n:Int) (h0:0<=n) (hn:n<=1000) :
  Meets (Builtin.«range.__reversed__» ⟨[.ref l],[]⟩) (λ_ R s=>s.heap.get? l=some { cls:=.type "range",data:=.fields #[.int 0 t0,.int n t1,.int 1 t2] } ∧
   R (.ok (.ret (.ref s.heap.objs.size))) { s with heap:=s.heap.push { cls:=.type "range_iterator",data:=.fields #[rawInt (0+(n-1)*1),rawInt n,rawInt (-1)] } }):=.of_wp λprog w A R s h=>by
 obtain⟨hp,g,d,tk,os⟩:=s;obtain⟨l1,h⟩:=h;unfold Builtin.«range.__reversed__»;refine wpAny_bind (wpAny_of_eq (a:=Value.ref l) (by first|rfl|kernel_rfl) ?_);refine wpAny_bind (Zcr (s:=⟨hp,g,d,tk,os⟩) l1 ?_);have e1:Builtin.Range.rangeSize 0 n 1=n:=by rw[rangeSize_one];split <;> omega
 have e2:=Zkc h0 hn;simp only[e1,e2,Bool.not_true,Wb9,if_false,if_true];refine wpAny_bind (show wpAny _ _ (newObj (.type "range_iterator") (.fields #[rawInt (0+(n-1)*1),rawInt n,rawInt (-1)])) _ _ _ from wpAny_newObj_type ?_);exact wpAny_pure ⟨_,rfl,h⟩
theorem Zds:isSubtype (.type "range_iterator") (.type "reversed")=pure false:=by rw[isSubtype_type];kernel_rfl
section
variable {prog:Program}{w:World}{A:Around}{E:Value->Shared->Prop}{s:Shared}
theorem Zmk {l:Addr}{t0 t1 t2:Tok}{n:Int}{Q₁:Value->Shared->Prop}(h0:0<=n) (hn:n<=1000) (hl:s.heap.get? l=some { cls:=.type "range",data:=.fields #[.int 0 t0,.int n t1,.int 1 t2] })
  (h:Q₁ (.ref s.heap.objs.size) { s with heap:=s.heap.push { cls:=.type "range_iterator",data:=.fields #[rawInt (0+(n-1)*1),rawInt n,rawInt (-1)] } }) :
  codeAny (model prog w) A (.call (.builtin "reversed.__new__") ⟨[.type "reversed",.ref l],[]⟩) (wants Q₁ E) s:=by
 have ty:s.TypeIs (.ref l) "range":=⟨_,hl,rfl⟩;refine codeAny_of_tree ?_;show wpAny _ A.in1 (do checkBuiltinCall "reversed.__new__" ⟨[.type "reversed",.ref l],[]⟩;again (.builtin "reversed.__new__" ⟨[.type "reversed",.ref l],[]⟩)) _ _ s;refine wpAny_bind (wpAny_of_eq (F.newCall_reversed_1 _) (wpAny_pure ⟨plainId_quiet F.plain_reversed_new _,codeAny_builtin F.entry_reversed_new ?_⟩));rw[Around.under_plainId F.plain_reversed_new _];unfold Builtin.«reversed.__new__»;refine wpAny_bind (wpAny_of_eq (newClass_reversed _) ?_)
 try dsimp only
 refine wpAny_bind (wpAny_of_eq (a:=()) (by first|rfl|kernel_rfl) ?_);refine wpAny_bind (wpAny_of_eq (a:=()) (by first|rfl|kernel_rfl) ?_)
 try dsimp only
 refine wpAny_bind (wpAny_specialOf ty F.slot_range_reversed.lookup ?_)
 try dsimp only
 refine wpAny_bind (wpAny_of_eq (F.slot_range_reversed.bind _) ?_)
 try dsimp only
 first
 |rw[if_neg (show ¬ ((Value.builtin "range.__reversed__" == Value.none)=true) from Wak)]
 | (show wpAny _ _ (if (Value.builtin "range.__reversed__" == Value.none)=true then _ else _) _ _ _;rw[if_neg (show ¬ ((Value.builtin "range.__reversed__" == Value.none)=true) from Wak)])
 refine wpAny_bind (wpAny_rule ?_);refine wpAny_bind (m:=runValue (.call (.builtin "range.__reversed__") ⟨[.ref l],[]⟩)) (show wpAny _ _ (call (.builtin "range.__reversed__") [.ref l]) _ _ _ from call_meets F.slot_range_reversed ty F.entry_range_reversed (F.args_range_reversed_1 _) (Zju l t0 t1 t2 n h0 hn) ⟨hl,?_⟩)
 first
 |exact wpAny_pure h
 |exact wpAny_bind (wpAny_pure (wpAny_pure h))
theorem Znh {l:Addr}{t0 t1 t2:Tok}{n:Int}{Q:Value->Shared->Prop}(h0:0<=n) (hn:n<=1000) (hl:s.heap.get? l=some { cls:=.type "range",data:=.fields #[.int 0 t0,.int n t1,.int 1 t2] })
  (h:Q (.ref s.heap.objs.size) { s with heap:=s.heap.push { cls:=.type "range_iterator",data:=.fields #[rawInt (0+(n-1)*1),rawInt n,rawInt (-1)] } }):wpAny (model prog w) A (call (.type "reversed") [.ref l]) Q E s:=by
 refine callType_other (U:="range_iterator") (Q₁:=λobj s₁=>obj=.ref s.heap.objs.size/\s₁ = { s with heap:=s.heap.push { cls:=.type "range_iterator",data:=.fields #[rawInt (0+(n-1)*1),rawInt n,rawInt (-1)] } }) (by decide +kernel) F.create_reversed ⟨_,_,F.mro_reversed⟩ F.made_reversed Zds (F.typeCall_reversed_1 _) (Zmk h0 hn hl ⟨rfl,rfl⟩) ?_;rintro obj s₁ ⟨rfl,rfl⟩;exact⟨⟨_,Wae _ rfl,rfl⟩,h⟩
end
section
variable {X:Cx}{tg:Expr}
def iRevR (ta:TA):TI:=λσ H R=>ta σ H λvs H1=>∃n:Nat,vs=[.int (n:Int)]/\n<=1000/\R (Itc ((n:Int)-1) (-1) n) H1
theorem Zf7 {a:Expr}{ta:TA}{p p2 pos pos2:Pos}(hgV:Gl X "reversed") (hmV:X.mg "reversed" = none) (hgR:Gl X "range") (hmR:X.mg "range" = none) (ha:PA X [a] ta) (hs:starEach [a] X.env=[(false,eval a X.env)]:=by rfl)
  (he:starEach [.Call (.Name "range" p2) [a] [] pos2] X.env=[(false,eval (.Call (.Name "range" p2) [a] [] pos2) X.env)]:=by rfl) :
  PI X tg (.Call (.Name "reversed" p) [.Call (.Name "range" p2) [a] [] pos2] [] pos) (iRevR ta):=by
 intro pins s σ H R I h;refine Call_ (Zc4 I hgV hmV Zgc ?_);refine PyProof.Rows.callWith_type1 ?_ he rfl;rw[he];show wpAny _ _ (spliced ((false,eval (.Call (.Name "range" p2) [a] [] pos2) X.env)::backTo pos [])) _ _ s;refine Calls.spliced_cons ?_;refine Call_ (Zc4 I hgR hmR boot_range (PyProof.Rows.callWith_type1 (thn (ha pos2 pins s σ H _ I h) λus s1 ⟨vs,H1,I1,r1,q1⟩=>?_) hs rfl));obtain⟨n,e,hn,q⟩:=q1;subst e;cases r1 with
 |cons r rr=>
  cases rr;obtain⟨t,rfl⟩:=r;refine call_range_1 (Calls.spliced_nil ?_);have I2:Inv X pins σ H1 { s1 with heap:=s1.heap.push { cls:=.type "range",data:=.fields #[.int 0 s1.toks,.int (n:Int) t,.int 1 (s1.toks+1)] },toks:=s1.toks+1+1 }:=I1.kept λb o e=>Waa _ e;refine Znh (by omega) (by omega) (Wae _ rfl) ?_;rw[show (0:Int)+((n:Int)-1)*1=(n:Int)-1 by omega];refine wpAny_pyIter_rangeiter (Wae _ rfl) ?_;refine⟨_,[_],_,_,H1,rfl,I2.kept (t':=s1.toks+1+1) λb o e=>Waa _ e,Zji _ ((n:Int)-1) (-1) n,?_,λb hb=>?_,q⟩
  ·show IsRangeIter _ _ ((n:Int)-1+((0:Nat):Int)*(-1)) ((n:Int)-((0:Nat):Int)) (-1)
   have e1:(n:Int)-1+((0:Nat):Int)*(-1)=(n:Int)-1:=by simp
   have e2:(n:Int)-((0:Nat):Int)=(n:Int):=by omega
   rw[e1,e2];exact Wae _ rfl
  ·rw[Wcr.mp hb]
   exact I2.fpOk (Wac _) (I2.hok.fresh (Wac _))
end
section
variable {K:W.Frag}{Δ:Evt}
theorem Zga {ta:TA}{P:List D->Evt->Prop}(h:JA K ta Δ λds Δ1=>∃n:Nat,ds=[.int (n:Int)]/\n<=1000/\P (stpD ((n:Int)-1) (-1) n) Δ1):JI K (iRevR ta) Δ P:=λg G H σ R k c=>
 h g G H σ _ k λvs ds G1 H1 Δ1 k1 s1 r1 hq_=>by
  obtain⟨n,e,hn,p1⟩:=hq_;subst e;obtain⟨_,_,rfl,ra,rr⟩:=r1.inv;cases rr.inv;cases ra.inv;exact⟨n,rfl,hn,c _ _ G1 H1 Δ1 k1 s1 (Zkj _ _ n) p1⟩
end
theorem Zg9 (n:Nat):sliceBounds none none (some (-1)) n=((n:Int)-1,-1,-1):=by
 unfold sliceBounds;simp
theorem Zej (xs:Array Value):slicePick xs none none (some (-1))=xs.toList.reverse.toArray:=by
 unfold slicePick;rw[Zg9];unfold sliceRange;have hc:(if (-1:Int) > 0 then (if (xs.size:Int)-1 < -1 then (-1-((xs.size:Int)-1) + -1-1) / -1 else 0) else (if (xs.size:Int)-1 > -1 then ((xs.size:Int)-1 - -1 - -1-1) / (- -1) else 0)).toNat=xs.size:=by
  rw[if_neg (by decide)];split
  ·rw[show -(-1:Int)=1 by rfl,Int.ediv_one];omega
  ·omega
 dsimp only;rw[hc,List.filterMap_map];rw[<- HT.pick_rev];congr 2
 funext m
 show xs[((xs.size:Int)-1 + -1*(m:Int)).toNat]?=_;rw[Int.mul_comm]
section
variable {X:Cx}
def tSlRL (K:W.Frag) (te:TE):TE:=λσ H Q=>te σ H λx H1=>∃a xs,x=.ref a/\SqL K H1 a xs/\∀p,H1 p=none->Q (.ref p) (upd H1 p (.lst xs.reverse))
theorem slRLK (K:W.Frag) {e:Expr}{te:TE}{pos p2 p3 p4:Pos}{k:Nat}(he:PE X e te) (hK:X.K=K:=by rfl):PE X (.Subscript e (.Slice none none (some (.UnaryOp .USub (.Constant (.int 1) k p4) p3)) p2) pos) (tSlRL K te):=by
 subst hK;intro pins s σ H Q I h;refine Subscript_ (thn (he pins s σ H _ I h) λv s1 ⟨x,H1,I1,r1,q1⟩=>?_);obtain⟨a,xs,rfl,hx,q⟩:=q1;cases r1;refine wpAny_Slice ?_;rw[evalPart_none];refine wpAny_pure (wpAny_pure ?_);have st:=Zcw (X:=X) (Zqb Zod (Zaf (X:=X) (i:=1) (j:=k) (pos:=p4))) (e:=.UnaryOp .USub (.Constant (.int 1) k p4) p3) pins s1 σ H1 (λo H2=>o=some (-1)/\H2=H1) I1 ⟨1,rfl,-1,rfl,rfl,rfl⟩;refine thn st λu s2 ⟨o,H2,I2,pu,e1,e2⟩=>?_;subst e1;subst e2;cases pu with
 |int i t=>
  have I3:Inv X pins σ H2 { s2 with heap:=s2.heap.push { cls:=.type "slice",data:=.fields #[.none,.none,.int (-1) t] } }:=I2.kept (t':=s2.toks) λb ob q=>Waa _ q;obtain⟨its,r,ht,hz⟩:=I3.list hx;have hlen:=r.length;show wpAny (model X.prog X.w) X.A (subscriptTail e (.Slice none none (some (.UnaryOp .USub (.Constant (.int 1) k p4) p3)) p2) (.ref a) (.ref s2.heap.objs.size)) (EP X pins σ Q) X.xe { s2 with heap:=s2.heap.push { cls:=.type "slice",data:=.fields #[.none,.none,.int (-1) t] } };refine tail_any (ops:=[.ref a,.ref s2.heap.objs.size]) ht.isList.typeIs slot_list_getitem.lookup (wpAny_getItem_list_slice ht.isList (Heap.IsSliceOf.new ..) .none .none (.int (-1) t) (by simp) ?_ (by rw[Wad] <;> omega)) (by with_unfolding_all rfl)
  rw[Zej];refine⟨.ref _,_,I3.laid (t':=s2.toks) (o:=.lst xs.reverse) (λb ob q=>Waa _ q) (Wac _) ?_,rfl,q _ (I3.hok.fresh (Wac _))⟩;exact⟨by rw[List.length_reverse];exact hz,_,0,r.reverse,Wae _ rfl⟩
end
section
variable {K:W.Frag}{Δ:Evt}{P:D->Evt->Prop}
theorem Zlq {te:TE}(h:JE K te Δ λd Δ1=>∃ds,d=.lst ds/\P (.lst ds.reverse) Δ1):JE K (tSlRL K te) Δ P:=λg G H σ Q k c=>
 h g G H σ _ k λv d G1 H1 Δ1 k1 s1 r1 hq_=>by
  obtain⟨ds,rfl,p⟩:=hq_;obtain⟨a,vs,rfl,ha,rs⟩:=r1.inv;refine⟨a,vs,rfl,SqL.of (k1.live _ _ ha),λq hq=>?_⟩;obtain⟨k2,sg⟩:=k1.laid hq (.lst vs.reverse);exact c _ _ _ _ Δ1 k2 (s1.trans sg) (.lst Zai (Reps.mono sg rs.reverse)) p
end
section
variable {X:Cx}
def CMulB (i j:Int):Prop:=(0<=i/\i<2 ^ 500)/\(0<=j/\j<2 ^ 500)
theorem Zda {k:Int}(h1:0<=k) (h2:k<2 ^ 500):Builtin.Int.intBits k<=500:=by
 unfold Builtin.Int.intBits;split
 ·exact Wcg _
 ·have hn:k.natAbs<2 ^ 500:=by omega
  have:k.natAbs.log2<500:=by
   rcases Nat.eq_zero_or_pos k.natAbs with h0|hp
   ·rw[h0];decide
   ·exact(Nat.log2_lt (Wca hp)).mpr hn
  omega
theorem CMulB.ok {i j:Int}(h:CMulB i j):IntMulOk i j:=by
 have a:=Zda h.1.1 h.1.2;have b:=Zda h.2.1 h.2.2;unfold IntMulOk;have c:Builtin.Int.intTooBig (Builtin.Int.intBits i+Builtin.Int.intBits j)=false:=by
  unfold Builtin.Int.intTooBig;rw[decide_eq_false];have:(2000:Nat)<=bitsLine:=by decide
  omega
 rw[c,Bool.and_false];exact Wak
theorem Zhr:OpR X (binaryOp .Mult) (rI CMulB λi j=>.int (i*j)):=opI λ_ _ _ _ _ _ _ hc q=>mul_int q hc.ok
theorem Zl9:PIp X .Mult (ipC CMulB λi j=>i*j):=by
 intro pins s σ H x y v u Q I r1 r2 h;obtain⟨i,j,e1,e2,hc,q⟩:=h;subst e1;subst e2;obtain⟨t,rfl⟩:=r1;obtain⟨t',rfl⟩:=r2;exact imul_int ⟨.int _,H,I.tok _,⟨_,rfl⟩,q⟩ hc.ok
theorem Zkh {i j:Int}(h1:0<j) (h2:j<2 ^ 500):Builtin.divisionGoesByPylong i j=false:=by
 refine PyProof.noPylong_of_log2 ?_;have h4:j.natAbs<2 ^ 500:=by omega
 exact Wcz ((Nat.log2_lt (by omega)).2 h4) (by decide)
def rDmB:List V->Hp->VK->Prop:=λxs H Q=>∃i j,xs=[.int i,.int j]/\0<j/\j<2 ^ 500/\∀l,H l=none->Q (.ref l) (upd H l (.tup [.int (i / j),.int (i % j)]))
theorem Zgk:CallR X (.builtin "divmod") rDmB:=by
 intro pins s σ H xs us Q I r h;obtain⟨i,j,rfl,h1,h2,q⟩:=h;obtain⟨u,w',rfl,⟨t,rfl⟩,⟨t',rfl⟩⟩:=vals2 r;refine divmod_int (by omega) ?_ (.inl (Zkh h1 h2));rw[Wb8 i (by omega),Int.fmod_eq_emod_of_nonneg i (by omega)];refine⟨.ref s.heap.objs.size,_,I.laid (t':=s.toks+1+1) (o:=.tup [.int (i / j),.int (i % j)]) (λb ob q=>Waa _ q) (Wac _) ?_,rfl,q _ (I.hok.fresh (Wac _))⟩;exact⟨(by rw[sizeLine_eq];simp:2<=sizeLine),[_,_],.cons ⟨_,rfl⟩ (.cons ⟨_,rfl⟩ .nil),IsTupN.new _ _⟩
end
section
variable {K:W.Frag}{Δ:Evt}{P:D->Evt->Prop}
theorem Zng {i j:Int}(hc:CMulB i j) (p:P (.int (i*j)) Δ):JR2 K (ipC CMulB λi j=>i*j) (.int i) (.int j) Δ P:=λg G H σ Q x y k rx ry c=>by
 cases rx.inv;cases ry.inv;exact⟨i,j,rfl,rfl,hc,c _ _ G H Δ k (Same.refl _) (.int _) p⟩
theorem Zk6 {i j:Int}(h1:0<j) (h2:j<2 ^ 500) (p:P (.tup [.int (i / j),.int (i % j)]) Δ):JC K rDmB [.int i,.int j] Δ P:=λg G H σ Q vs k rs c=>by
 obtain⟨_,_,rfl,r,t⟩:=rs.inv;obtain⟨_,_,rfl,r',t⟩:=t.inv;cases t.inv;cases r.inv;cases r'.inv;refine⟨i,j,rfl,h1,h2,λl hl=>?_⟩;obtain⟨k2,sg⟩:=k.laid hl (.tup _);exact c _ _ _ _ Δ k2 sg (.tup Zai (.cons (.int _) (.cons (.int _) .nil))) p
end
def SmP (k:Int × Int):Prop:=0<=k.1/\k.1<64/\0<=k.2/\k.2<2
section
variable {prog:Program}{w:World}{A:Around}{E:Value->Shared->Prop}{s:Shared}
variable {hf:Int × Int->Int}(hfi:∀{a b:Int × Int},SmP a->SmP b->hf a=hf b->a=b)
include hfi
end
section
variable {X:Cx}
variable {o e:Expr}{es:List Expr}{to:TE}{t:TA}{name:Str}{apos cpos:Pos}{id:String}{r:V->List V->Hp->VK->Prop}
end
end L2
namespace L2
open PySem PySem.Spec PyProof.Rows
end L2
namespace L2
open PySem PySem.Spec PyProof.Rows
open PySem PySem.Spec PyProof.Rows PySem.SeqAt
section
variable {X:Cx}
end
section
variable {K:W.Frag}{Δ:Evt}
end
open PySem PySem.Spec PyProof.Rows PySem.SeqAt
section
variable {X:Cx}
def rSmT (K:W.Frag) (r:Bool):R2:=λx y H Q=>Q (.bl r) H/\∃(G:Hp) (n:Nat) (a b:Addr) (xs ys:List V) (ds:List D),Same G H/\Reps K G xs ds/\Reps K G ys ds/\ds.all (Sm n)=true/\n<=5/\x=.ref a/\y=.ref b/\SqT K H a xs/\SqT K H b ys
theorem neSmTK (K:W.Frag) (hv:X.A.units+8<cLine) (hK:X.K=K:=by rfl):OpR X (compareOp .NotEq) (rSmT K false):=by
 subst hK;intro pins s σ H x y v u Q I rx ry h;obtain⟨q,G,n,a,b,xs,ys,ds,sg,ra,rb,hd,hn,rfl,rfl,h1,h2⟩:=h;cases rx;cases ry;obtain⟨its,w1,p1,_⟩:=I.tuple h1;obtain⟨its2,w2,p2,_⟩:=I.tuple h2;have l1:=w1.length;have l2:=w2.length;have l3:=ra.length;have l4:=rb.length;have z:=RcNeAt.tuples (A:=X.A) (s:=s) (e:=λ_=>true) p1 p2 (by omega) λj h1 h2=>by
  have h1':j<its.length:=by simpa using h1
  have h2':j<its2.length:=by simpa using h2
  have hx:j<ds.length:=by omega
  obtain⟨p,hp1,hp2⟩:=ra.get (Wab hx);obtain⟨q,hq1,hq2⟩:=rb.get (Wab hx);obtain⟨va,hv1,hv2⟩:=w1.get hp1;obtain⟨vb,hw1,hw2⟩:=w2.get hq1;rw[Wab h1']at hv1;rw[Wab h2']at hw1;rw[Wbk,Wbk,War.inj hv1,War.inj hw1];exact Zdc n I sg hp2 hq2 hv2 hw2 (Wbq.mp hd _ (Wc0 hx)) (by show X.A.units+1+n<cLine;omega)
 rw[Wbq.mpr (λ_ _=>rfl),show (its.toArray.size == its2.toArray.size)=true by rw[Wad,Wad];exact beq_iff_eq.mpr (by omega),Bool.and_self]at z;exact z X.prog X.w _ _ ⟨.bl _,H,I,rfl,q⟩
end
section
variable {K:W.Frag}{Δ:Evt}
theorem Zov {r:Bool}{P:D->Evt->Prop}{n:Nat}{ds:List D}(hn:n<=5) (h:ds.all (Sm n)=true) (p:P (.bl r) Δ):JR2 K (rSmT K r) (.tup ds) (.tup ds) Δ P:=λg G H σ Q x y k rx ry c=>by
 obtain⟨_,_,rfl,ha,ra⟩:=rx.inv
 next=>
  obtain⟨_,_,rfl,hb,rb⟩:=ry.inv
  next=>exact⟨c _ _ G H Δ k (Same.refl _) (.bl r) p,G,n,_,_,_,_,ds,k.live,ra,rb,h,hn,rfl,rfl,SqT.of (k.live _ _ ha),SqT.of (k.live _ _ hb)⟩
end
open PySem PySem.Spec PyProof.Rows PySem.SeqAt
section
variable {K:W.Frag}{Δ:Evt}{P:D->Evt->Prop}
end
open PySem PySem.Spec PyProof.Rows PySem.Builtin PySem.Builtin.Str
section
variable {K:W.Frag}{Δ:Evt}
end
section
variable {K:W.Frag}{Δ:Evt}{P:D->Evt->Prop}
end
section
variable {K:W.Frag}{Δ:Evt}
end
section
variable {K:W.Frag}{Δ:Evt}{P:D->Evt->Prop}
end
section
variable {K:W.Frag}{Δ:Evt}
end
section
variable {X:Cx}
end
section
variable {K:W.Frag}{Δ:Evt}{P:D->Evt->Prop}
end
section
variable {X:Cx}
end
section
variable {K:W.Frag}{Δ:Evt}{P:D->Evt->Prop}
end
open PySem PySem.Spec PyProof.Rows PySem.SeqAt
section
variable {X:Cx}
end
open PySem PySem.Spec PyProof.Rows PySem.SeqAt
section
variable {K:W.Frag}{Δ:Evt}
theorem Zpz {r:List V->Hp->VK->Prop}{ta:TA}{ds:List D}{d:D}(a:PVs K ta Δ ds) (h:∀P:D->Evt->Prop,P d Δ -> JC K r ds Δ P):PV K (tCB r ta) Δ d:=λP p=>Za8 (a _ (h P p))
end
section
variable {X:Cx}
end
open PySem PySem.Spec PyProof.Rows PySem.W
structure LamSc (osc:Scope) (oN:List Str) (scope:Scope) (fvs:List Str) (sel:List Nat):Prop where
 kind:scope.kind=.function
 co:scope.isCoroutine=false
 gen:scope.isGenerator=false
 nocell:∀x∈scope.names,x.2≠.cell
 free:∀x∈scope.names,x.2=.free->osc.names.lookup x.1=some .cell\/osc.names.lookup x.1=some .free
 len:fvs.length=sel.length
 fv:∀p∈fvs.zip sel,oN[p.2]?=some p.1/\scope.names.lookup p.1=some .free
structure LamAt (base:Heap) (l:Addr) (qual:Str) (params:Arguments) (body:Expr) (scope:Scope) (clos:List (Str × Addr)) (pm:Value) (c':Addr) (ctv:Value) (fvs:List Str) (cs:List V):Prop where
 kind:scope.kind=.function
 co:scope.isCoroutine=false
 gen:scope.isGenerator=false
 nocell:∀x∈scope.names,x.2≠.cell
 obj:base.get? l=some (kla_obj "<lambda>" qual params body scope clos pm c' ctv)
 code:base.CodeRec (.ref c') qual
 cell:∀x c,clos.lookup x=some c->∃v,base.IsCell c v
 inj:∀x y c,clos.lookup x=some c->clos.lookup y=some c->x=y
 has:∀x,scope.names.lookup x=some .free->∃c,clos.lookup x=some c
 len:fvs.length=cs.length
 val:∀(i:Nat) x v,fvs[i]?=some x->cs[i]?=some v->scope.names.lookup x=some .free/\∃c u,clos.lookup x=some c/\base.IsCell c (some u)/\RelV v u
def lamCx (CX:CXT) (P:Program) (w:World) (K:W.Frag) (mg:Str->Option Value) (base:Heap) (N:List Str) (qual:Str) (scope:Scope) (l:Addr) (cd:Value) (clos:List (Str × Addr)) (A:Around) (outer:List Env) (s:Shared) (H:Hp) (E:XK):Cx where
 prog:=P
 w:=w
 K:=K
 mg:=mg
 base:=base
 A:=A.deeper (envX qual scope s.heap.objs.size l cd clos)
 N:=N
 s₀:=s
 H₀:=H
 env:=envX qual scope s.heap.objs.size l cd clos
 outer:=outer
 stack:=envX qual scope s.heap.objs.size l cd clos::outer
 ex:=[]
 calm:=true
 fn:=λ_=>false
 pn:=[]
 xe:=λe s'=>wpAny (model P w) (A.deeper (envX qual scope s.heap.objs.size l cd clos)) (leaving (envX qual scope s.heap.objs.size l cd clos) e) (λ_ s''=>CX outer H s E e s'') (λe' s''=>CX outer H s E e' s'') s'
section
variable {CX:CXT}{P:Program}{w:World}{K:W.Frag}{mg:Str->Option Value}{base:Heap}{k:Nat}{l c':Addr}{qual:Str}{params:Arguments}{body:Expr}{scope:Scope}{clos:List (Str × Addr)}{pm ctv:Value}{fvs:List Str}{cs:List V}
theorem Zlv (L:LamAt base l qual params body scope clos pm c' ctv fvs cs) {A:Around}{outer:List Env}{s:Shared}{H:Hp}{E:XK}(hd:A.handled=none) (e0:Env0 P w K mg base A outer s H) {h₁:Heap}{tk:Nat}{m:Str->Option Value}
  (hns:h₁.Ns s.heap.objs.size m) (old:∀b o,s.heap.get? b=some o->h₁.get? b=some o) :
  Inv (lamCx CX P w K mg base fvs qual scope l (.ref c') clos A outer s H E) [] (cs.map some) H { s with heap:=h₁,toks:=tk }:=by
 have noA:∀b:Addr,b ∉ (lamCx CX P w K mg base fvs qual scope l (.ref c') clos A outer s H E).ex:=λb z=>absurd (show b∈([]:List Addr) from z) (by simp);have keepB:∀b o,base.get? b=some o->h₁.get? b=some o:=λb o e=>old b o (e0.bs b o e).1;refine⟨⟨e0.mod,L.kind,rfl,rfl,Wac _,L.inj,λx hx=>?_,λx c h _=>(by cases h),λ_=>hd,Around.frames_deeper e0.frames,.inr ⟨rfl,rfl⟩,λb z=>absurd z (noA b),e0.bs,e0.bsz,λb _ _=>noA b,λb z=>absurd z (noA b),e0.funs,e0.frf⟩,
  rfl,e0.bare,Un.kept old,⟨m,hns,λi x v h1 h2 h3=>?_⟩,λx c h=>?_,e0.hok.fresh (Wac _),λx c h=>?_,λp hp=>absurd (show p∈([]:List (Addr × Obj)) from hp) (by simp),e0.hok.kept old,?_⟩
 ·have hx:scope.names.lookup x=some .cell\/scope.names.lookup x=some .free:=hx
  rcases hx with hx|hx
  ·exact absurd rfl (L.nocell _ (PySem.mem_of_lookup hx))
  ·exact L.has x hx
 ·have h1:fvs[i]?=some x:=h1
  rw[Wal]at h2;cases z:cs[i]? with
  |none=>rw[z]at h2;cases h2
  |some v'=>
   rw[z]at h2;have h2:v'=v:=by simpa using h2
   subst h2;obtain⟨hf,c,u,e1,⟨o,ho,hod⟩,r⟩:=L.val i x v' h1 z;exact⟨u,r,.inr ⟨.inr hf,c,e1,o,keepB _ _ ho,hod⟩⟩
 ·obtain⟨v,o,ho,hod⟩:=L.cell x c h
  exact⟨v,o,keepB _ _ ho,hod⟩
 ·obtain⟨v,o,ho,_⟩:=L.cell x c h
  exact(e0.bs c o ho).2
 ·rw[Wag];exact L.len.symm
theorem Zpq {sp:Hp->VK->XK->Prop}(L:LamAt base l qual params body scope clos pm c' ctv fvs cs)
  (hbody:∀(A:Around) (outer:List Env) (s:Shared) (H:Hp) (Q:VK) (E:XK),Room k (A.deeper (envX qual scope s.heap.objs.size l (.ref c') clos))->sp H Q E →
   ∃t,PE (lamCx CX P w K mg base fvs qual scope l (.ref c') clos A outer s H E) body t/\t (cs.map some) H Q) :
  FnOk P w K mg base CX (k+1) l (kla_fn "<lambda>" qual params body scope clos pm (.ref c') ctv) [] (λvs H Q E=>vs=[]/\sp H Q E):=by
 refine⟨λvs H Q E h=>by rw[h.1];rfl,λA outer s H args us vs Q E hr e0 hb r hsp=>?_⟩;have lim:s.heap.NoLimit:=e0.mod.nolimit.keeps λb o e=>(e0.bs b o e).1;obtain⟨c,oc,vsc,tq,hc,hoc,hdc,hq⟩:=L.code;refine kla_callFunE hr.depth (e0.bs _ _ L.obj).1 rfl L.co L.gen rfl ⟨c,oc,vsc,tq,hc,(e0.bs _ _ hoc).1,hdc,hq⟩ (hb _ _ _ _ ?_);refine wpAny_newFunctionEnv L.nocell (λx hx=>absurd (show x∈([]:List (Str × Value)) from hx) (by simp)) (λh₁ hns hsb=>?_) L.kind;have old:∀b o,s.heap.get? b=some o->h₁.get? b=some o:=λb o e=>hsb.extBut b o (Was (Waf e)) (Waa _ e);refine⟨lim.keeps old,?_⟩;show codeAny _ _ (.expr body (envX qual scope s.heap.objs.size l (.ref c') clos)) _ _;obtain⟨t,ht,hq⟩:=hbody A outer s H Q E (hr.deeper _) hsp.2;have I:=Zlv (CX:=CX) (E:=E) L hr.hd e0 (tk:=s.toks+0) hns old;refine kla_codeExpr (wpAny_mono (ht [] _ (cs.map some) H Q I hq) (λu s' hs=>?_) λe s' hs=>hs);obtain⟨v,H',J,rv,q⟩:=hs;exact⟨v,H',J.os,J.bare,J.base,J.hok,rv,q⟩
end
open PySem PySem.Spec PyProof.Rows PySem.W
def TabO (T:Addr) (ps:Array Value) (h:Heap):Prop:=h.get? T=some (tabObj ps)
def CodO (c:Addr) (q:Str) (h:Heap):Prop:=h.CodeRec (.ref c) q
theorem Zee {c:Addr}{q:Str}{h:Heap}(x:CodO c q h):∃o vs,h.get? c=some o/\o.data=.fields vs:=by
 obtain⟨c2,oc,vs,tq,hc,hoc,hd,_⟩:=x;cases hc;exact⟨oc,vs,hoc,hd⟩
theorem Zb1 {c:Addr}{q:Str}{h1 h2:Heap}(x:CodO c q h1) (k:∀o,h1.get? c=some o->h2.get? c=some o):CodO c q h2:=by
 obtain⟨c2,oc,vs,tq,hc,hoc,hd,hq⟩:=x;cases hc;exact⟨c,oc,vs,tq,rfl,k _ hoc,hd,hq⟩
section
variable {P:Program}{w:World}{H:Hp}{h:Heap}{a T c:Addr}{ps:Array Value}{q:Str}
theorem Zhq (e:h.get? T=some (tabObj ps)):ObjOk P w H h T (.ext (TabO T ps)):=⟨e,⟨_,e⟩,λ_ _ z k=>k _ z⟩
theorem Zn5 (x:CodO c q h):ObjOk P w H h c (.ext (CodO c q)):=⟨x,(let ⟨o,_,e,_⟩:=Zee x; ⟨o,e⟩),λ_ _ z k=>Zb1 z k⟩
theorem Zo9 (x:ObjOk P w H h a (.ext (TabO T ps))):a=T:=by
 obtain⟨p,_,st⟩:=x;by_cases e:a=T
 ·exact e
 ·have:=st h (hideAll h [T]) p λo z=>hideAll_get [T] z (by simp[e])
  have n:=hideAll_none [T] (h:=h) (b:=T) (by simp);rw[show (hideAll h [T]).get? T=some (tabObj ps) from this]at n;cases n
end
def del (H:Hp) (c:Addr):Hp:=λb=>if b=c then none else H b
theorem Zcm {H:Hp}{c:Addr}:del H c c=none:=if_pos rfl
theorem Za3 {H:Hp}{b c:Addr}(h:b≠c):del H c b=H b:=if_neg h
theorem Zet {H:Hp}{b c:Addr}{o:HO}(h:del H c b=some o):b≠c/\H b=some o:=by
 by_cases e:b=c
 ·rw[e,Zcm]at h;cases h
 ·rw[Za3 e]at h;exact⟨e,h⟩
theorem Zcd {H:Hp}{b c:Addr}(h:H b=none):del H c b=none:=by
 by_cases e:b=c
 ·rw[e,Zcm]
 ·rw[Za3 e];exact h
section
variable {X:Cx}{pins:List (Addr × Obj)}{σ:St}{H H':Hp}{s s':Shared}{c:Addr}{φ:Heap->Prop}
theorem Inv.untrack (I:Inv X pins σ H s) (hc:H c=some (.ext φ)):Inv X pins σ (del H c) s where
 ok:=I.ok
 os:=I.os
 bare:=I.bare
 base:=⟨I.base.keep,I.base.slot,λb o e n hx=>Zcd (I.base.free b o e n hx),I.base.there,
  λb xs e=>by
   have z:=I.base.tups b xs e;rw[Za3 λq=>by rw[q,hc]at z;cases z];exact z,
  λb o u e=>by
   have z:=I.base.frzs b o u e;rw[Za3 λq=>by rw[q,hc]at z;cases z];exact z,
  λb ps e=>by
   obtain⟨more,z⟩:=I.base.tbls b ps e;exact⟨more,by rw[Za3 λq=>by rw[q,hc]at z;cases z];exact z⟩⟩
 loc:=I.loc
 cell:=I.cell
 free:=Zcd I.free
 freeC:=λx c e=>Zcd (I.freeC x c e)
 pin:=λp hp=>let ⟨a,b,r⟩:=I.pin p hp; ⟨a,Zcd b,r⟩
 hok:=λb u e=>by
  obtain⟨ne,e⟩:=Zet e;refine(I.hok b u e).stay (λ_ _ _ q=>q) (λd q=>?_) λd xs q=>?_
  ·rw[Za3 λz=>by rw[z,hc]at q;cases q];exact q
  ·rw[Za3 λz=>by rw[z,hc]at q;cases q];exact q
 len:=I.len
theorem Inv.track (I:Inv X pins σ H s) {o:Obj}{vs:Array Value}(hc:H c=none) (ho:s.heap.get? c=some o) (hd:o.data=.fields vs) (new:∀H2:Hp,ObjOk X.prog X.w H2 s.heap c (.ext φ))
  (hp:∀p∈X.pn++pins,p.1≠c) (h0:∀o,X.s₀.heap.get? c=some o->X.H₀ c=none->c ∉ X.ex->False):Inv X pins σ (upd H c (.ext φ)) s where
 ok:=I.ok
 os:=I.os
 bare:=I.bare
 base:=⟨I.base.keep,I.base.slot,λb o e n hx=>by
   have ne:b≠c:=λz=>by subst z;exact h0 o e n hx
   rw[Zag ne];exact I.base.free b o e n hx,I.base.there,
  λb xs e=>by
   have z:=I.base.tups b xs e;rw[Zag (Zak z hc)];exact z,
  λb o u e=>by
   have z:=I.base.frzs b o u e;rw[Zag (Zak z hc)];exact z,
  λb ps e=>by
   obtain⟨more,z⟩:=I.base.tbls b ps e;exact⟨more,by rw[Zag (Zak z hc)];exact z⟩⟩
 loc:=I.loc
 cell:=I.cell
 free:=by
  obtain⟨m,⟨o',es,ep,ho',hd',_⟩,_⟩:=I.loc;rw[Zag λz=>by rw[z,ho]at ho';cases ho';rw[hd]at hd';cases hd'];exact I.free
 freeC:=λx d e=>by
  obtain⟨v,o',ho',hd'⟩:=I.cell x d e;rw[Zag λz=>by rw[z,ho]at ho';cases ho';rw[hd]at hd';cases hd'];exact I.freeC x d e
 pin:=λp hq=>let ⟨a,b,r⟩:=I.pin p hq; ⟨a,by rw[Zag (hp p hq)];exact b,r⟩
 hok:=λb u e=>by
  by_cases z:b=c
  ·subst z;rw[Zai]at e;cases e;exact new _
  ·rw[Zag z]at e
   refine(I.hok b u e).stay (λ_ _ _ q=>q) (λd q=>?_) λd xs q=>?_
   ·rw[Zag (Zak q hc)];exact q
   ·rw[Zag (Zak q hc)];exact q
 len:=I.len
theorem Zfm {h b1 b2:Heap}:∀{l:List Env},(∀L∈frs l,b2.get? L=none)->h.FunFrames b1 l->h.FunFrames b2 l
 |[],_,_=>trivial
 |env::r,hn,hl=>by
  obtain⟨hk,⟨L,o,hf,_,ho,hd⟩,hr⟩:=hl;have e:frs (env::r)=L::frs r:=by unfold frs;rw[Wbx,hf]
  rw[e]at hn;exact⟨hk,⟨L,o,hf,hn L Wa7,ho,hd⟩,Zfm (λb hb=>hn b (Wax _ hb)) hr⟩
theorem Inv.envT (I:Inv X pins σ H s):∃base',Env0 X.prog X.w X.K X.mg base' X.A X.stack s H/\∀b o,s.heap.get? b=some o->H b=none->b ∉ frs X.stack->base'.get? b=some o:=by
 refine⟨hideAll s.heap (trk s.heap H++frs X.stack),?_,?_⟩
 rotate_left
 ·intro b o e n hb
  refine hideAll_get _ e λhm=>?_;rcases Wbb.mp hm with hm|hm
  ·have:=(Wbu.mp hm).2
   rw[n]at this;cases this
  ·exact hb hm
 have keep:∀b o,X.base.get? b=some o->(hideAll s.heap (trk s.heap H++frs X.stack)).get? b=some o:=λb o e=>by
  refine hideAll_get _ (I.bs b o e).1 λhm=>?_;rcases Wbb.mp hm with hm|hm
  ·have:=(Wbu.mp hm).2
   rw[(I.bs b o e).2]at this;cases this
  ·have:=(I.stack.mem hm).1
   rw[e]at this;cases this
 have M:=I.ok.mod;refine⟨I.ok.frames,⟨M.kin.keeps keep,M.glob.keeps keep,(let ⟨mb,h1,h2⟩:=M.blt; ⟨mb,h1.keeps keep,h2⟩),M.nolimit.keeps keep⟩,λb o e=>?_,Nat.le_of_eq (hideAll_size _ _),Zfm (λL hL=>hideAll_none _ (Waw _ hL)) I.stack,I.stkFree,I.hok,I.bare⟩;have e2:s.heap.get? b=some o:=of_hideAll _ e;refine⟨e2,?_⟩;cases z:H b with
 |none=>rfl
 |some u=>
  have hm:b∈trk s.heap H++frs X.stack:=Wb4 _ (Wbu.mpr ⟨Wbj.mpr (Waf e2),by rw[z];rfl⟩);have n:=hideAll_none (trk s.heap H++frs X.stack) (h:=s.heap) hm;rw[e]at n;cases n
end
section
variable {X:Cx}{pins:List (Addr × Obj)}{σ:St}{H:Hp}{s:Shared}{k:Nat}{f l c' T c:Addr}{fd:FuncData}{qual:Str}{params:Arguments}{body:Expr}{scope:Scope}{pm ctv:Value}{fvs:List Str}{sel:List Nat}{cs:List V}{E:XK}{Q:VK}{sp:List V->Hp->VK->XK->Prop}
theorem Zpr (S:LamSc X.env.scope X.N scope fvs sel) (hfn:∀x,X.fn x=true) (I:Inv X pins σ H s) (hcs:sel.map (λj=>σ[j]?)=cs.map λv=>some (some v)) {base':Heap}(hb:∀b o,s.heap.get? b=some o->H b=none->b ∉ frs X.stack->base'.get? b=some o)
  (ol:s.heap.get? l=some (kla_obj "<lambda>" qual params body scope (clOf X.env scope.names []) pm c' ctv)) (nl:H l=none) (fl:l ∉ frs X.stack) (oc:CodO c' qual s.heap) (nc:H c'=none):LamAt base' l qual params body scope (clOf X.env scope.names []) pm c' ctv fvs cs:=by
 have cs':∀{x d},(clOf X.env scope.names []).lookup x=some d->X.env.cells.lookup x=some d:=λ{x d} h=>Zav _ _ (λ_ _ z=>by simp at z) h;have cellb:∀{x d v},X.env.cells.lookup x=some d->s.heap.IsCell d v->base'.IsCell d v:=λ{x d v} e ⟨o,ho,hd⟩=>by
  refine⟨o,hb d o ho (I.freeC x d e) λhm=>?_,hd⟩;rcases Wat.mp (I.stkSub d hm) with z|z
  ·exact I.cne x d e z
  ·obtain⟨_,o',ho',_⟩:=I.ok.funs.mem z
   exact absurd (Wam (Waf ho') (I.ok.cab x d (hfn x) e)) (Wbo _)
 have hasc:∀x,(x,NameKind.free)∈scope.names->∃d,X.env.cells.lookup x=some d:=λx hx=>I.ok.has x (S.free _ hx rfl);refine⟨S.kind,S.co,S.gen,S.nocell,hb l _ ol nl fl,?_,λx d e=>?_,λx y d h1 h2=>I.ok.inj x y d (cs' h1) (cs' h2),λx hx=>Zbv scope.names [] (PySem.mem_of_lookup hx) (hasc x (PySem.mem_of_lookup hx)),?_,λi x v h1 h2=>?_⟩
 ·refine Zb1 oc λo e=>hb c' o e nc λhm=>?_
  obtain⟨_,o',ho',hd'⟩:=I.stack.mem hm;obtain⟨o2,vs,e2,hd2⟩:=Zee oc;rw[e2]at ho';cases ho';exact hd' vs hd2
 ·obtain⟨v,z⟩:=I.cell x d (cs' e)
  exact⟨v,cellb (cs' e) z⟩
 ·have:=congrArg Wa5 hcs
  rw[Wag,Wag]at this;rw[S.len,this]
 ·have hj:∃j,sel[i]?=some j /\ σ[j]?=some (some v):=by
   have:=congrArg (λz=>z[i]?) hcs;simp only[Wal,h2]at this;cases z:sel[i]? with
   |none=>rw[z]at this;cases this
   |some j=>rw[z]at this;exact⟨j,rfl,by simpa using this⟩
  obtain⟨j,e1,e2⟩:=hj;have hz:(x,j)∈fvs.zip sel:=Wa4 (i:=i) (by rw[List.getElem?_zip_eq_some];exact⟨h1,e1⟩);obtain⟨hN,hfr⟩:=S.fv _ hz;have hko:=S.free (x,.free) (PySem.mem_of_lookup hfr) rfl;obtain⟨m,hn,hl⟩:=I.loc;obtain⟨u,r,lk⟩:=hl j x v hN e2 (.inr hko);refine⟨hfr,?_⟩;rcases lk with ⟨hk,_⟩|⟨_,d,hd,hcell⟩
  ·have hk:X.env.scope.names.lookup x=some .local:=hk
   rcases hko with z|z <;> (rw[hk]at z;cases z)
  ·obtain⟨d',hd'⟩:=Zbv scope.names [] (PySem.mem_of_lookup hfr) ⟨d,hd⟩
   have e:=cs' hd';rw[hd]at e;cases e;exact⟨d,u,hd',cellb hd hcell,r⟩
theorem Zgi (S:LamSc X.env.scope X.N scope fvs sel) (hfn:∀x,X.fn x=true) (hr:Room k X.A) (hb:Binds X.K fd ["_law_asked"] [])
  (F:∀base' l clos pm c' ctv cs,LamAt base' l qual params body scope clos pm c' ctv fvs cs->FnOk X.prog X.w X.K X.mg base' CX0 k f fd ["_law_asked"] (λvs H Q E=>vs=[.ref l]/\sp cs H Q E))
  (I:Inv X pins σ H s) (hcs:sel.map (λj=>σ[j]?)=cs.map λv=>some (some v))
  (ol:s.heap.get? l=some (kla_obj "<lambda>" qual params body scope (clOf X.env scope.names []) pm c' ctv)) (nl:H l=none) (fl:l ∉ frs X.stack) (oc:CodO c' qual s.heap) (nc:H c'=none)
  (hp:∀p∈X.pn++pins,p.1≠c') (h0:∀o,X.s₀.heap.get? c'=some o->X.H₀ c'=none->c' ∉ X.ex->False)
  (h:sp cs H (λv H'=>H' c'=none->Q v (upd H' c' (.ext (CodO c' qual)))) E):wpAny (model X.prog X.w) X.A (call (.ref f) [.ref l]) (EP X pins σ Q) X.xe s:=by
 obtain⟨base',e0,hbase⟩:=I.envT;have L:=Zpr S hfn I hcs hbase ol nl fl oc nc;have FF:=F base' l _ pm c' ctv cs L;have hbd:=hb s [.ref l] I.kIn rfl;refine wpAny_call (codeAny_mono (FF.run X.A X.stack s H ⟨[.ref l],[]⟩ [.ref l] [.ref l] _ E hr e0 hbd (.cons rfl .nil) ⟨rfl,h⟩) λr s' hq=>?_);cases r with
 |error e=>exact hq.elim
 |ok fl'=>
  cases fl' with
  |ret u=>
   obtain⟨v,H',os,bare,un,hok,rv,q⟩:=hq;have I':=I.call' os un hok bare (λb z=>absurd z (by simp));obtain⟨o,vs,ho,hd⟩:=Zee oc;have nfr:c' ∉ frs X.stack:=λhm=>by
    obtain⟨_,o',ho',hd'⟩:=I.stack.mem hm;rw[ho]at ho';cases ho';exact hd' vs hd
   have ho':=un.keep c' o ho nc nfr (by simp);have nc':=un.free c' o ho nc (by simp);have oc':CodO c' qual s'.heap:=Zb1 oc λo2 e2=>by rw[ho]at e2;cases e2;exact ho'
   exact⟨v,_,I'.track nc' ho' hd (λH2=>Zn5 oc') hp h0,rv,q nc'⟩
  |next=>exact False.elim hq
  |brk=>exact False.elim hq
  |cont=>exact False.elim hq
def tLamC (i:Nat) (pos:Pos) (qual:Str) (T:Addr) (sel:List Nat) (sp:List V->Hp->VK->XK->Prop) (E:XK):TE:=λσ H Q=>
 ∃a ps cs,σ[i]?=some (some (.ref a))/\H a=some (.ext (TabO T ps))/\TriplesOk ps.toList/\sel.map (λj=>σ[j]?)=cs.map (λv=>some (some v)) ∧
  ((codeAmong pos ps.toList=none/\∀c',H c'=none->c'≠a->sp cs (upd H a (.ext (TabO T (ps ++ #[rawInt pos.line,rawInt pos.col,.ref c'])))) (λv H'=>H' c'=none->Q v (upd H' c' (.ext (CodO c' qual)))) E) ∨
   ∃c',codeAmong pos ps.toList=some (.ref c')/\H c'=some (.ext (CodO c' qual))/\sp cs (del H c') (λv H'=>H' c'=none->Q v (upd H' c' (.ext (CodO c' qual)))) E)
theorem Znx {x:Str}{i:Nat}{p pos pos2:Pos}(S:LamSc X.env.scope X.N scope fvs sel) (hfn:∀x,X.fn x=true) (hr:Room k X.A) (hb:Binds X.K fd ["_law_asked"] [])
  (F:∀base' l clos pm c' ctv cs,LamAt base' l qual params body scope clos pm c' ctv fvs cs->FnOk X.prog X.w X.K X.mg base' CX0 k f fd ["_law_asked"] (λvs H Q E=>vs=[.ref l]/\sp cs H Q E))
  (hm:X.mg x=some (.ref f)) (hk:W.keepIn X.K (.ref f)=true) (hcode:X.env.code=.ref c) (C:CodeHd X.base c T) (hB:X.base.BuiltinsAt X.mg T) (hq:X.env.qual ++ "<lambda>" = qual) (hdef:defaultsOf params X.env=([],[]):=by rfl)
  (hg:Gl X x:=by rfl) (hdb:(x == ("__debug__":Str))=false:=by decide)
  (he:starEach [Expr.Lambda params body scope pos] X.env=(false,eval (Expr.Lambda params body scope pos) X.env)::starEach [] X.env:=by rfl) (hpl:(backTo pos2 (starEach [] X.env)).any (·.1)=false:=by rfl) :
  PE X (.Call (.Name x p) [.Lambda params body scope pos] [] pos2) (tLamC i pos qual T sel sp E):=by
 intro pins s σ H Q I h;obtain⟨a,ps,cs,h1,h2,ht,hcs,h3⟩:=h;have ea:a=T:=Zo9 (I.hok a _ h2);subst ea;have hP:s.heap.get? a=some (tabObj ps):=(I.hok a _ h2).1;refine wpAny_Call_Name_kw (Zc1 I hg hm ?_ hdb);refine PySem.W.callWith_K (h₀:=X.base) I.ok.mod.kin hk ?_ he hpl;rw[he];show wpAny _ _ (spliced ((false,eval (Expr.Lambda params body scope pos) X.env)::backTo pos2 (starEach [] X.env))) _ _ s;refine Calls.spliced_cons (kla_eval hdef ?_);have hcl:closureFor scope X.env=pure (clOf X.env scope.names []):=Zbl λn hn=>I.ok.has n (S.free _ hn rfl);have hgs:=I.mod.glob.keeps I.bk;have hgP:mainGlobals≠a:=λq=>by
  obtain⟨o,es,ep,e,hd,_⟩:=hgs;rw[q,hP]at e;cases e;cases hd
 have hBs:s.heap.BuiltinsAt X.mg a:=let ⟨bm,ob,b1,b2,b3,b4,b5,b6⟩:=hB; ⟨bm,ob,b1,b2,b3,b4,I.bk _ _ b5,b6⟩
 have big:∀{h':Heap},s.heap.objs.size<=h'.objs.size->H h'.objs.size=none/\h'.objs.size ∉ frs X.stack:=λ{h'} hz=>⟨I.hok.fresh hz,λhm=>by
  obtain⟨_,o,ho,_⟩:=I.stack.mem hm;exact absurd (Wam (Waf ho) hz) (Wbo _)⟩
 rw[hq];rcases h3 with ⟨hnf,h3⟩|⟨c',hf,h4,h3⟩
 ·refine kla_makeFunction (mg:=X.mg) hcl I.ok.glob hgs hcode (C.keeps I.bk) hP ht hnf hgP hBs λc' ctv h' tk hx hge hlt hrec htb=>?_
  have hcz:H c'=none:=I.hok.fresh hge;have hca:c'≠a:=λz=>by rw[z,h2]at hcz;cases hcz
  have hsz:s.heap.objs.size<=h'.objs.size:=Wb1 (Wbd hge hlt);obtain⟨bg1,bg2⟩:=big hsz;have neA:h'.objs.size≠a:=λz=>by rw[z,h2]at bg1;cases bg1
  have I1:=I.write (x:=a) (e:=a) (o:=.ext (TabO a (ps ++ #[rawInt pos.line,rawInt pos.col,.ref c']))) (t':=tk) (h':=h'.push (kla_obj "<lambda>" qual params body scope (clOf X.env scope.names []) ((X.mg "__name__").getD .none) c' ctv)) (by rw[h2];trivial) (.inl rfl)
   (λb u hb e=>Waa _ (hx b u hb e)) ⟨_,Waa _ htb⟩ (Zhq (Waa _ htb))
  refine Calls.spliced_nil ⟨I1.kIn,?_⟩;refine Zgi (c':=c') S hfn hr hb F I1 hcs (Wae _ rfl) (by rw[Zag neA];exact bg1) bg2 (Zb1 hrec λo e=>Waa _ e) (by rw[Zag hca];exact hcz) (λq hq'=>?_) (λo e _ _=>?_) (h3 c' hcz hca)
  ·have:=(I.pin q hq').1
   exact Was (Wam (Waf this) hge)
  ·exact absurd (Wam (Waf e) (Waz I.sz hge)) (Wbo _)
 ·refine kla_makeFunctionHit (mg:=X.mg) hcl I.ok.glob hgs hcode (C.keeps I.bk) hP ht hf hBs λctv h' tk hk' hsz=>?_
  obtain⟨bg1,bg2⟩:=big hsz;have I1:=(I.kept (t':=tk) (h':=h'.push { cls:=.type "function",data:=.func (kla_fn "<lambda>" qual params body scope (clOf X.env scope.names []) ((X.mg "__name__").getD .none) (.ref c') ctv) }) (λb u e=>Waa _ (hk' b u e))).untrack h4;refine Calls.spliced_nil ⟨I1.kIn,?_⟩;refine Zgi (c':=c') S hfn hr hb F I1 hcs (Wae _ rfl) (Zcd bg1) bg2 (Zb1 (I.hok c' _ h4).1 λo e=>Waa _ (hk' _ _ e)) Zcm (λq hq' z=>?_) (λo e n hx=>?_) h3
  ·have:=(I.pin q hq').2.1
   rw[z,h4]at this;cases this
  ·have:=I.base.free c' o e n hx
   rw[h4]at this;cases this
end
open PySem PySem.Spec PyProof.Rows PySem.W
theorem Zg1 {pos:Pos}{v:Value}{r:List Value}:∀{l:List Value},codeAmong pos l=some v->codeAmong pos (l++r)=some v:=λ{l} h=>by
 fun_induction codeAmong pos l with
 |case1 line t col u c rest hc=>rw[Wa9,Wa9,Wa9];unfold codeAmong;rw[if_pos hc];exact h
 |case2 line t col u c rest hc ih=>rw[Wa9,Wa9,Wa9];unfold codeAmong;rw[if_neg hc];exact ih h
 |case3=>cases h
theorem Zg3 {pos:Pos}{r:List Value}:∀{l:List Value},TriplesOk l->codeAmong pos l=none->codeAmong pos (l++r)=codeAmong pos r:=λ{l} ht h=>by
 fun_induction TriplesOk l with
 |case1=>rfl
 |case2 a t b u x rest ih=>
  rw[Wa9,Wa9,Wa9];have e:∀z:List Value,codeAmong pos (.int a t::.int b u::x::z)=if (a == (pos.line:Int) && b == (pos.col:Int))=true then some x else codeAmong pos z:=λz=>rfl
  rw[e]at h ⊢;split at h
  ·cases h
  ·rename_i hc
   rw[if_neg hc];exact ih ht h
 |case3=>exact ht.elim
def TabR (T:Addr) (pl:List (Pos × Str)) (G0:Hp) (φ:Heap->Prop):Prop:=∃ps,φ = TabO T ps/\TriplesOk ps.toList/\∀p∈pl,codeAmong p.1 ps.toList=none\/∃c',codeAmong p.1 ps.toList=some (.ref c')/\G0 c'=some (.ext (CodO c' p.2))
theorem TabR.start {T:Addr}{pl:List (Pos × Str)}{G0:Hp}:TabR T pl G0 (TabO T #[]):=⟨#[],rfl,trivial,λp _=>.inl rfl⟩
theorem TabR.more {T:Addr}{pl:List (Pos × Str)}{G G2:Hp}{ps:Array Value}{pos:Pos}{q:Str}{c':Addr}(ht:TriplesOk ps.toList) (h:∀p∈pl,codeAmong p.1 ps.toList=none\/∃c',codeAmong p.1 ps.toList=some (.ref c')/\G c'=some (.ext (CodO c' p.2)))
  (hu:∀p∈pl,p.1.line=pos.line->p.1.col=pos.col->p.2=q) (sg:Same G G2) (hc:G2 c'=some (.ext (CodO c' q))):TabR T pl G2 (TabO T (ps ++ #[rawInt pos.line,rawInt pos.col,.ref c'])):=by
 refine⟨_,rfl,?_,λp hp=>?_⟩
 ·rw[Array.toList_append];exact TriplesOk_snoc _ _ _ _ ht
 ·rw[Array.toList_append]
  rcases h p hp with e|⟨d,e1,e2⟩
  ·rw[Zg3 ht e]
   show codeAmong p.1 [rawInt pos.line,rawInt pos.col,.ref c']=none\/_;unfold rawInt codeAmong;by_cases z:((pos.line:Int) == (p.1.line:Int) && (pos.col:Int) == (p.1.col:Int))=true
   ·right
    simp only[Wa1,beq_iff_eq]at z;refine⟨c',?_,by rw[hu p hp (by omega) (by omega)];exact hc⟩;show codeAmong p.1 [.int pos.line 0,.int pos.col 0,.ref c']=_;unfold codeAmong;rw[if_pos (by simp only[Wa1,beq_iff_eq];exact z)]
   ·left
    rw[if_neg z];rfl
  ·exact .inr ⟨d,Zg1 e1,sg _ _ e2⟩
def fill (o:Obj) (h:Heap):Nat->Heap
 |0=>Att.noObjs h
 |n+1=>(fill o h n).push o
theorem Zfk (o:Obj) (h:Heap):∀n,(fill o h n).objs.size=n
 |0=>rfl
 |n+1=>by show ((fill o h n).push o).objs.size=_;rw[Wbw,Zfk o h n]
theorem Zn4 {c C:Addr}{q:Str}{h0:Heap}:CodO c q≠InsC c C:=λe=>by
 have g:((fill { cls:=.none,data:=.fields #[.none,.str q 0] } h0 c).push { cls:=.none,data:=.fields #[.none,.str q 0] }).get? c=some { cls:=.none,data:=.fields #[.none,.str q 0] }:=by
  have z:=Wae (o:={ cls:=.none,data:=.fields #[.none,.str q 0] }) (fill { cls:=.none,data:=.fields #[.none,.str q 0] } h0 c) rfl;rw[Zfk]at z;exact z
 have h1:CodO c q ((fill { cls:=.none,data:=.fields #[.none,.str q 0] } h0 c).push { cls:=.none,data:=.fields #[.none,.str q 0] }):=⟨c,_,_,0,rfl,g,rfl,rfl⟩;rw[e]at h1;obtain⟨ox,vs,g1,g2,_⟩:=h1;rw[g]at g1;cases g1;cases g2
section
variable {K:W.Frag}{G H:Hp}{c:Addr}{q:Str}
mutual
theorem Rep.del (hc:G c=some (.ext (CodO c q))) (h0:Heap):∀{v:V}{d:D},Rep K G v d->Rep K (del G c) v d
 |_,_,.non=>.non
 |_,_,.bl b=>.bl b
 |_,_,.int i=>.int i
 |_,_,.str x=>.str x
 |_,_,.ty n=>.ty n
 |_,_,.adr a=>.adr a
 |_,_,.tup e r=>.tup (by rw[Za3 λz=>by rw[z,hc]at e;cases e];exact e) (Reps.del hc h0 r)
 |_,_,.lst e r=>.lst (by rw[Za3 λz=>by rw[z,hc]at e;cases e];exact e) (Reps.del hc h0 r)
 |_,_,.dct e l r=>.dct (by rw[Za3 λz=>by rw[z,hc]at e;cases e];exact e) l (Reps.del hc h0 r)
 |_,_,.exc (a:=a) (C:=C) e=>.exc (by
   rw[Za3 λz=>by
    rw[z,hc]at e;have e2:CodO c q=InsC c C:=by injection (War.inj e)
    exact Zn4 (h0:=h0) e2]
   exact e)
 |_,_,.scr e r=>.scr (by
   rcases e with e|e
   ·refine .inl ?_
    rcases e with e|⟨o,e⟩
    ·exact .inl (by rw[Za3 λz=>by rw[z,hc]at e;cases e];exact e)
    ·exact .inr ⟨o,by rw[Za3 λz=>by rw[z,hc]at e;cases e];exact e⟩
   ·exact .inr e) (Reps.del hc h0 r)
theorem Reps.del (hc:G c=some (.ext (CodO c q))) (h0:Heap):∀{vs:List V}{ds:List D},Reps K G vs ds->Reps K (del G c) vs ds
 |_,_,.nil=>.nil
 |_,_,.cons a b=>.cons (Rep.del hc h0 a) (Reps.del hc h0 b)
end
end
section
variable {K:W.Frag}{g:Gm}{G G2 H H2:Hp}{σ:St}{Δ:Evt}
theorem Ok.swap (k:Ok K g G H σ Δ) {i:Nat}{x:Slot}{R:Hp->(Heap->Prop)->Prop}{a:Addr}{φ2:Heap->Prop}(hx:Δ[i]?=some x) (ho:x.od=some (.ext R)) (ha:σ[i]?=some (some (.ref a))) (sg:Same G G2) (sh:∀b o,b≠a->H b=some o->H2 b=some o)
  (h2:H2 a=some (.ext φ2)) (g2:G2 a=none) (r:OwnRep K G2 (.ext φ2) (.ext R)) (hg:∀b o,G2 b=some o->H2 b=some o/\(G b=some o\/H b=none)):Ok K g G2 H2 σ Δ:=by
 obtain⟨a',o0,q1,q2,q3,q4,q5⟩:=k.own i x _ hx ho;rw[ha]at q1;cases q1;have nos:∀b o,¬ g.B b->g.Hz b=some o->b≠a:=λb o hb e z=>by
  subst z;cases x with
  |own _=>have q5:g.Hz b=none:=q5;rw[q5]at e;cases e
  |bor _=>exact hb q5
  |ownA c _=>have q5:c=b/\g.Hz b=none:=q5;rw[q5.2]at e;cases e
  |_=>cases ho
 have no2:∀b o,H b=some o->G b=none->G2 b=none:=λb o e n=>by
  cases z:G2 b with
  |none=>rfl
  |some u=>
   rcases(hg b u z).2 with y|y
   ·rw[n]at y;cases y
   ·rw[e]at y;cases y
 refine⟨λb o hb e=>sh b o (nos b o hb e) (k.same b o hb e),λb hb z=>?_,k.sub.trans sg,λb o e=>?_,λb o e=>?_,k.len,λj d e=>?_,λj y od e1 e2=>?_,k.dis⟩
 ·by_cases e:b=a
  ·subst e;rw[h2]at z;cases z
  ·cases y:H b with
   |none=>exact k.lent b hb y
   |some o=>rw[sh b o e y]at z;cases z
 ·obtain⟨h1,h3⟩:=hg b o e
  refine⟨h1,?_⟩;rcases h3 with z|z
  ·exact(k.frz b o z).2
  ·exact .inl (k.there z)
 ·obtain⟨h1,h3,h4⟩:=k.ext b o e
  have ne:b≠a:=λz=>h4 i x _ hx ho (by rw[z];exact ha);exact⟨sh b o ne h1,no2 b o h1 h3,h4⟩
 ·obtain⟨v,e1,e2⟩:=k.val j d e
  exact⟨v,e1,e2.mono sg⟩
 ·obtain⟨b,o,w1,w2,w3,w4,w5⟩:=k.own j y od e1 e2
  by_cases e:b=a
  ·subst e
   have ej:=k.dis j i y x od _ b e1 e2 hx ho w1 ha;subst ej;rw[hx]at e1;cases e1;rw[ho]at e2;cases e2;exact⟨b,_,w1,h2,r,g2,w5⟩
  ·exact⟨b,o,w1,sh b o e w2,w3.mono sg,no2 b o w2 w4,w5⟩
theorem caught (k:Ok K g G H σ Δ):∀{sel:List Nat}{ds:List D},sel.map (λj=>Δ[j]?)=ds.map (λd=>some (.val d))->∃cs,sel.map (λj=>σ[j]?)=cs.map (λv=>some (some v))/\Reps K G cs ds
 |[],[],_=>⟨[],rfl,.nil⟩
 |[],_::_,h=>by cases h
 |_::_,[],h=>by cases h
 |j::sel,d::ds,h=>by
  have h1:Δ[j]?=some (.val d):=by injection h
  have h2:sel.map (λj=>Δ[j]?)=ds.map (λd=>some (.val d)):=by injection h
  obtain⟨cs,e,r⟩:=caught k h2;obtain⟨v,e1,e2⟩:=k.val j d h1;exact⟨v::cs,by rw[Wa8,Wa8,e1,e],.cons e2 r⟩
theorem Zn9 {f:DSp}{E:XK}{i:Nat}{T:Addr}{pl:List (Pos × Str)}{pos:Pos}{qual:Str}{sel:List Nat}{ds:List D}{P:D->Evt->Prop}(h0:Heap) (hi:Δ[i]?=some (.bor (.ext (TabR T pl)))) (hp:(pos,qual)∈pl) (hu:∀p∈pl,p.1.line=pos.line->p.1.col=pos.col->p.2=qual)
  (hs:sel.map (λj=>Δ[j]?)=ds.map (λd=>some (.val d))) (h:f ds λd=>P d Δ):JE K (tLamC i pos qual T sel (spD K f) E) Δ P:=λg G H σ Q k c=>by
 obtain⟨a,o,h1,h2,h3,h4,h5⟩:=k.own i _ _ hi rfl;obtain⟨cs,hcs,rcs⟩:=caught k hs;cases o with
 |ext φ=>
  obtain⟨G0,s0,ps,rfl,ht,hpl⟩:=h3;have hpl:∀p∈pl,codeAmong p.1 ps.toList=none\/∃c',codeAmong p.1 ps.toList=some (.ref c')/\G c'=some (.ext (CodO c' p.2)):=λp hp=>(hpl p hp).imp_right λ⟨c',e1,e2⟩=>⟨c',e1,s0 _ _ e2⟩;refine⟨a,ps,cs,h1,h2,ht,hcs,?_⟩;rcases hpl _ hp with hn|⟨c',hf,hc'⟩
  ·refine .inl ⟨hn,λc' nc ne=>?_⟩
   have Gc:G c'=none:=by
    cases z:G c' with
    |none=>rfl
    |some u=>rw[k.live _ _ z]at nc;cases nc
   generalize hφ:TabO T (ps ++ #[rawInt pos.line,rawInt pos.col,.ref c']) = φ2;have lv:Same G (upd H a (.ext φ2)):=λb o e=>by
    rw[Zag λz=>by rw[z,h4]at e;cases e];exact k.live b o e
   refine⟨G,ds,_,lv,rcs,h,λr H' d sh rr pd nc'=>?_⟩;have Hc1:upd H a (.ext φ2) c'=none:=by rw[Zag ne];exact nc
   have Gg:glue G (upd H a (.ext φ2)) H' c'=none:=by rw[Zbf Hc1];exact nc'
   have sg1:Same (glue G (upd H a (.ext φ2)) H') (upd (glue G (upd H a (.ext φ2)) H') c' (.ext (CodO c' qual))):=λb o e=>by rw[Zag λz=>by rw[z,Gg]at e;cases e];exact e
   have sg:Same G (upd (glue G (upd H a (.ext φ2)) H') c' (.ext (CodO c' qual))):=(Zcl lv).trans sg1;refine c r d (upd (glue G (upd H a (.ext φ2)) H') c' (.ext (CodO c' qual))) _ Δ (k.swap hi rfl h1 sg (λb o hb e=>?_) (φ2:=φ2) ?_ ?_ ⟨_,Same.refl _,?_⟩ λb o e=>?_) sg (rr.mono sg1) pd
   ·rw[Zag (Zak e nc)]
    exact sh b o (by rw[Zag hb];exact e)
   ·rw[Zag (Ne.symm ne)]
    exact sh a _ Zai
   ·rw[Zag (Ne.symm ne),Za5 Zai];exact h4
   ·have:=TabR.more (T:=T) ht hpl hu sg Zai
    rw[hφ]at this;exact this
   ·by_cases z:b=c'
    ·subst z
     rw[Zai]at e ⊢;exact⟨e,.inr nc⟩
    ·rw[Zag z]at e ⊢
     obtain⟨e1,e2⟩:=Zct lv (λb o _ e=>sh b o e) b o e;refine⟨e1,e2.imp_right λy=>?_⟩;by_cases z2:b=a
     ·subst z2;rw[Zai]at y;cases y
     ·rw[Zag z2]at y;exact y
  ·have Hc:H c'=some (.ext (CodO c' qual)):=k.live _ _ hc'
   refine .inr ⟨c',hf,Hc,?_⟩;have lv:Same (del G c') (del H c'):=λb o e=>by
    obtain⟨ne,e⟩:=Zet e;rw[Za3 ne];exact k.live b o e
   refine⟨del G c',ds,_,lv,Reps.del hc' h0 rcs,h,λr H' d sh rr pd nc'=>?_⟩;have Gg:glue (del G c') (del H c') H' c'=none:=by rw[Zbf Zcm];exact nc'
   have sg1:Same (glue (del G c') (del H c') H') (upd (glue (del G c') (del H c') H') c' (.ext (CodO c' qual))):=λb o e=>by rw[Zag λz=>by rw[z,Gg]at e;cases e];exact e
   have sg:Same G (upd (glue (del G c') (del H c') H') c' (.ext (CodO c' qual))):=λb o e=>by
    by_cases z:b=c'
    ·subst z;rw[hc']at e;cases e;exact Zai
    ·rw[Zag z]
     have e2:del G c' b=some o:=by rw[Za3 z];exact e
     rw[Za5 (lv b o e2)];exact e2
   refine c r d _ _ Δ (k.grow sg (λb o e=>?_) λb o e=>?_) sg (rr.mono sg1) pd
   ·by_cases z:b=c'
    ·subst z;rw[Hc]at e;cases e;exact Zai
    ·rw[Zag z];exact sh b o (by rw[Za3 z];exact e)
   ·by_cases z:b=c'
    ·subst z
     rw[Zai]at e ⊢;cases e;exact⟨rfl,.inl hc'⟩
    ·rw[Zag z]at e ⊢
     obtain⟨e1,e2⟩:=Zct lv (λb o _ e=>sh b o e) b o e;refine⟨e1,?_⟩;rcases e2 with y|y
     ·exact .inl (by rw[Za3 z]at y;exact y)
     ·exact .inr (by rw[Za3 z]at y;exact y)
 |_=>exact h3.elim
end
section
variable {prog:Program}{w:World}{A:Around}{E:Value->Shared->Prop}{s:Shared}
theorem Zhk {a it l:Addr}{oa:Obj}{va:Array Value}{i:Nat}{items:Array Value}{Q:Option Value->Shared->Prop}(hh:A.handled=some (.ref a)) (ha:s.heap.get? a=some oa) (hda:oa.data=.fields va) (h2:va[2]?=some .none) (hne:a≠it)
  (hit:s.heap.IsListIter it l i) (hl:s.heap.IsList l items) (hx:items[i]?=none) (hQ:∀h',Heap.ExtBut it s.heap h' -> Q none { s with heap:=h' }):wpAny (model prog w) A (pyNext (.ref it)) Q E s:=by
 obtain⟨o,ho,hc,hd⟩:=id hit;obtain⟨ol,hol,_,nl,hdl⟩:=hl;unfold pyNext;refine wpAny_bind (wpAny_attempt (wpAny_callSpecial?_slot (name:=Str.ofString "__next__") hit.typeIs slot_listiter_next (wpAny_call_entry slot_listiter_next hit.typeIs entry_listiter_next ?_ (args_listiter_next _))));show wpAny _ _ (field (.ref it) 0 >>= _) _ _ s;refine wpAny_bind (wpAny_field ho hd (x:=.ref l) rfl ?_);show wpAny _ _ (if (Value.ref l == Value.none)=true then _ else _) _ _ s;rw[if_neg (show ¬ ((Value.ref l == Value.none)=true) from Wak)];show wpAny _ _ (field (.ref it) 1 >>= _) _ _ s;refine wpAny_bind (wpAny_field ho hd (x:=.int i 0) rfl ?_);show wpAny _ _ (seqItems? (.ref l) >>= _) _ _ s;refine wpAny_bind (wpAny_seqItems hol hdl ?_);simp only[Wba,hx];refine wpAny_bind (wpAny_rule (wpAny_bind (wpAny_setField ho hd (by simp) ?_)));show wpAny _ _ (newExc (.type "StopIteration") [] >>= _) _ _ _;refine wpAny_bind ?_;simp only[newExc,newTuple];refine wpAny_bind (wpAny_newObj_type ?_ (by size_fits));refine wpAny_bind (m:=firstArgMember _ _) (wpAny_of_eq (a:=Value.none) (by first|rfl|(simp only[firstArgMember];rfl)) (wpAny_newObj_type ?_ (by size_fits)));have sb:Heap.SameBut it s.heap (s.heap.update it (Obj.mapFields (·.setIfInBounds 0 Value.none))):=Heap.SameBut.update ..;have sz:=sb.1;have up:∀b o,b≠it->s.heap.get? b=some o->(s.heap.update it (Obj.mapFields (·.setIfInBounds 0 Value.none))).get? b=some o:=λb o hb e=>(sb.2 b hb).trans e;have nb:∀b o,s.heap.get? b=some o->(s.heap.update it (Obj.mapFields (·.setIfInBounds 0 Value.none))).objs.size+1≠b:=λb o e=>by
  rw[sz];exact Wca (Wcw (Waf e))
 refine raiseH (a:=a) (A:=A.in1) hh (Ne.symm ?_) (Waa _ (Waa _ (up a oa hne ha))) hda h2 (Wae _ rfl) rfl (by rw[Array.size_append];exact Wam (show 2<6 by decide) (Nat.le_add_right _ _)) ?_
 ·rw[Wbw];exact nb a oa ha
 ·refine wpAny_bind (wpAny_isInstance (T:="StopIteration") (b:=true) ⟨_,Wa6 _ (Wae _ rfl) rfl,rfl⟩ isSubtype_stop ?_)
  refine wpAny_pure (hQ _ λb o hb e=>?_);rw[Wav _ _ (by rw[Wbw];exact nb b o e)];exact Waa _ (Waa _ (up b o hb e))
end
def ItlH (xa:Addr) (K:W.Frag) (a:Addr):It:=
 ⟨λi H=>(∃xs x,SqL K H a xs/\xs[i]?=some x)/\∃C,H xa=some (.ext (InsC xa C)),λi H x H'=>H'=H/\(∀xs,SqL K H a xs->xs[i]?=some x)/\∃C,H xa=some (.ext (InsC xa C)),λi H=>(∃xs,SqL K H a xs/\xs.length<=i)/\∃C,H xa=some (.ext (InsC xa C))⟩
theorem Zhd {P:Program}{w:World}{K:W.Frag}{tg:Expr}(xa a it:Addr):TurnH xa P w K tg (ItlH xa K a) [it] it (λi h=>h.IsListIter it a i) where
 mem:=(Zch (P:=P) (w:=w) (K:=K) (tg:=tg) a it).mem
 obj:=(Zch (P:=P) (w:=w) (K:=K) (tg:=tg) a it).obj
 keep:=(Zch (P:=P) (w:=w) (K:=K) (tg:=tg) a it).keep
 item:=by
  intro X hP hw hK hc i pins s σ H E I hf st hg;subst hP hw hK;obtain⟨⟨xs,x,hq,hx⟩,hC⟩:=hg;obtain⟨its,rv,p,hz⟩:=I.list hq;obtain⟨u,hu,ru⟩:=rv.get hx;obtain⟨f0,f1,f2,f3,f4,f5⟩:=hf it (by simp);refine wpAny_pyNext_list_item st p.isList (x:=u) (by simpa using hu) λh' st' sb=>?_;have I1:Inv X pins σ H { s with heap:=h' }:=I.turned (t':=s.toks) (λb o hb e=>(sb.2 b hb).trans e) f0 f1 f3 f4 f5;obtain⟨o,e,c,d⟩:=id st';exact⟨u,rfl,Zi4 (s:={ s with heap:=h' }) e c d (by decide) ⟨x,H,I1,ru,⟨rfl,λys hy=>by rw[I.list_inj hy hq];exact hx,hC⟩,st',λb hb=>(hf b hb).1⟩⟩
 done:=by
  intro X hP hw hK hc i pins s σ H E I hf st hg;subst hP hw hK;obtain⟨⟨xs,hq,hx⟩,C,hC⟩:=hg;obtain⟨its,rv,p,hz⟩:=I.list hq;obtain⟨f0,f1,f2,f3,f4,f5⟩:=hf it (by simp);have hl:=rv.length;obtain⟨⟨ox,vs,q1,q2,q3,q4⟩,_⟩:=I.hok xa _ hC;exact Zhk hc q1 q3 q4 (Zak hC f0) st p.isList (by simp;omega) λh' eb=>⟨rfl,I.turned (t':=s.toks) (λb o hb e=>eb b o hb e) f0 f1 f3 f4 f5⟩
 self:=λ_ _ _ _ _ st h=>wpAny_pyIter_listiter st h
def iListH (xa:Addr) (K:W.Frag) (tl:TE):TI:=λσ H R=>tl σ H λx H1=>∃a,x=.ref a/\(∃xs,SqL K H1 a xs)/\R (ItlH xa K a) H1
section
variable {X:Cx}{tg:Expr}{K:W.Frag}
theorem Zjs {xa:Addr}{l:Expr}{tl:TE}(hl:PE X l tl) (hK:X.K=K:=by rfl):PIH xa X tg l (iListH xa K tl):=by
 subst hK;intro pins s σ H R I h;refine thn (hl pins s σ H _ I h) λv s1 ⟨x,H1,I1,r1,q1⟩=>?_;obtain⟨a,e,⟨xs,hq⟩,q⟩:=q1;subst e;cases r1;obtain⟨its,rv,p,hz⟩:=I1.list hq;refine wpAny_pyIter_list p.isList ?_;refine⟨s1.heap.objs.size,[s1.heap.objs.size],_,_,H1,rfl,I1.kept (t':=s1.toks) λb o e=>Waa _ e,Zhd xa a _,⟨_,Wae _ rfl,rfl,rfl⟩,λb hb=>?_,q⟩;have e:b=s1.heap.objs.size:=by simpa using hb
 subst e;exact I1.fpOk (Wac _) (I1.hok.fresh (Wac _))
end
section
variable {K:W.Frag}{Δ:Evt}
theorem Zj0 {xa C:Addr}{n:Nat}{tl:TE}{P:List D->Evt->Prop}(h:JE K tl Δ λd Δ1=>Δ1[n]?=some (.val (.exc xa C))/\∃ds,d=.lst ds/\P ds Δ1):JI K (iListH xa K tl) Δ P:=λg G H σ R k c=>
 h g G H σ _ k λv d G1 H1 Δ1 k1 s1 r1 hq_=>by
  obtain⟨hx,ds,e,p1⟩:=hq_;obtain⟨v2,q1,q2⟩:=k1.val n _ hx;cases q2 with
  |exc hC=>
  subst e;cases r1 with
  |lst ha rs=>
  have hs:=SqL.of (K:=K) ha;refine⟨_,rfl,⟨_,k1.live.seq hs⟩,c _ ds G1 H1 Δ1 k1 s1 (λG2 H2 sg sh=>⟨⟨⟨_,sh.seq (sg.seq hs),by rw[rs.length];exact Wac _⟩,C,sh _ _ (sg _ _ hC)⟩,λi d e=>?_⟩) p1⟩;obtain⟨v,hv,rv⟩:=rs.get e;refine⟨⟨⟨_,v,sh.seq (sg.seq hs),hv⟩,C,sh _ _ (sg _ _ hC)⟩,λx H3 ⟨e3,y3,_⟩=>⟨G2,Same.refl _,by rw[e3];exact Same.refl _,λb o q=>⟨by rw[e3];exact sh b o q,.inl q⟩,?_⟩⟩;have:=y3 _ (sh.seq (sg.seq hs));rw[hv]at this;cases this;exact rv.mono sg
end
section
variable {prog:Program}{w:World}{A:Around}{E:Value->Shared->Prop}{s:Shared}
theorem Zj8 {a it l:Addr}{oa:Obj}{va:Array Value}{i:Nat}{items:Array Value}{Q:Option Value->Shared->Prop}(hh:A.handled=some (.ref a)) (ha:s.heap.get? a=some oa) (hda:oa.data=.fields va) (h2:va[2]?=some .none) (hne:a≠it)
  (hit:IsTupIter s.heap it l i) (hl:IsTup s.heap l items) (hx:items[i]?=none) (hQ:∀h',Heap.ExtBut it s.heap h' -> Q none { s with heap:=h' }):wpAny (model prog w) A (pyNext (.ref it)) Q E s:=by
 obtain⟨o,ho,hc,hd⟩:=id hit;obtain⟨ol,hol,_,nl,hdl⟩:=hl;unfold pyNext;refine wpAny_bind (wpAny_attempt (wpAny_callSpecial?_slot (name:=Str.ofString "__next__") hit.typeIs slot_tupleiter_next (wpAny_call_entry slot_tupleiter_next hit.typeIs entry_tupleiter_next ?_ (args_tupleiter_next _))));show wpAny _ _ (field (.ref it) 0 >>= _) _ _ s;refine wpAny_bind (wpAny_field ho hd (x:=.ref l) rfl ?_);show wpAny _ _ (if (Value.ref l == Value.none)=true then _ else _) _ _ s;rw[if_neg (show ¬ ((Value.ref l == Value.none)=true) from Wak)];show wpAny _ _ (field (.ref it) 1 >>= _) _ _ s;refine wpAny_bind (wpAny_field ho hd (x:=.int i 0) rfl ?_);show wpAny _ _ (seqItems? (.ref l) >>= _) _ _ s;refine wpAny_bind (wpAny_seqItems hol hdl ?_);simp only[Wba,hx];refine wpAny_bind (wpAny_rule (wpAny_bind (wpAny_setField ho hd (by simp) ?_)));show wpAny _ _ (newExc (.type "StopIteration") [] >>= _) _ _ _;refine wpAny_bind ?_;simp only[newExc,newTuple];refine wpAny_bind (wpAny_newObj_type ?_ (by size_fits));refine wpAny_bind (m:=firstArgMember _ _) (wpAny_of_eq (a:=Value.none) (by first|rfl|(simp only[firstArgMember];rfl)) (wpAny_newObj_type ?_ (by size_fits)));have sb:Heap.SameBut it s.heap (s.heap.update it (Obj.mapFields (·.setIfInBounds 0 Value.none))):=Heap.SameBut.update ..;have sz:=sb.1;have up:∀b o,b≠it->s.heap.get? b=some o->(s.heap.update it (Obj.mapFields (·.setIfInBounds 0 Value.none))).get? b=some o:=λb o hb e=>(sb.2 b hb).trans e;have nb:∀b o,s.heap.get? b=some o->(s.heap.update it (Obj.mapFields (·.setIfInBounds 0 Value.none))).objs.size+1≠b:=λb o e=>by
  rw[sz];exact Wca (Wcw (Waf e))
 refine raiseH (a:=a) (A:=A.in1) hh (Ne.symm ?_) (Waa _ (Waa _ (up a oa hne ha))) hda h2 (Wae _ rfl) rfl (by rw[Array.size_append];exact Wam (show 2<6 by decide) (Nat.le_add_right _ _)) ?_
 ·rw[Wbw];exact nb a oa ha
 ·refine wpAny_bind (wpAny_isInstance (T:="StopIteration") (b:=true) ⟨_,Wa6 _ (Wae _ rfl) rfl,rfl⟩ isSubtype_stop ?_)
  refine wpAny_pure (hQ _ λb o hb e=>?_);rw[Wav _ _ (by rw[Wbw];exact nb b o e)];exact Waa _ (Waa _ (up b o hb e))
theorem unpackH {a t:Addr}{oa:Obj}{va:Array Value}{items:Array Value}{Q:List Value->Shared->Prop}(hh:A.handled=some (.ref a)) (ha:s.heap.get? a=some oa) (hda:oa.data=.fields va) (h2:va[2]?=some .none) (ht:IsTup s.heap t items)
  (hQ:∀h',Heap.ExtBut s.heap.objs.size s.heap h' -> Q items.toList { s with heap:=h' }):wpAny (model prog w) A (unpackItems (.ref t) items.size none) Q E s:=by
 have hlt:t≠s.heap.objs.size:=by obtain⟨o,ho,_⟩:=ht;exact Was (Waf ho)
 unfold unpackItems;refine wpAny_bind ?_;unfold notIterableAtAll;refine wpAny_bind (wpAny_specialOf ht.typeIs slot_tuple_iter.lookup ?_);refine wpAny_pure ?_;simp only[Wb9,if_false];refine wpAny_bind (wpAny_holding (iter_tuple ht ?_));refine wpAny_bind (wpAny_holding (draw_tuple hlt items.size 0 _ _ ⟨_,Wae _ rfl,rfl,rfl⟩ (ht.push _) (by omega) λh₁ hit₁ hs₁=>?_));have hall:List.take items.size (List.drop 0 items.toList)=items.toList:=by
  rw[List.drop_zero];exact Wci (by simp)
 rw[hall];rw[if_neg (by simp)];have ht₁:IsTup h₁ t items:=(ht.push _).extBut hs₁.extBut hlt;have na:a≠s.heap.objs.size:=Was (Waf ha);have ha₁:h₁.get? a=some oa:=hs₁.extBut a oa na (Waa _ ha);refine wpAny_bind (wpAny_holding (Zj8 hh ha₁ hda h2 na hit₁ ht₁ (by simp) λh₂ he₂=>?_));simp only[Option.isSome_none,Wb9,if_false];exact wpAny_pure (hQ h₂ λb o hb e=>he₂ b o hb (hs₁.extBut b o hb (Waa _ e)))
end
def gTupH (xa:Addr) (K:W.Frag) (n:Nat) (t:TGs):TG:=λv σ H Q=>(∃C,H xa=some (.ext (InsC xa C)))/\gTup K n t v σ H Q
section
variable {X:Cx}
theorem gtupH {xa:Addr}{K:W.Frag}{es:List Expr}{k:Nat}{t:TGs}{n:Nat}{pos:Pos}(hc:X.A.handled=some (.ref xa)) (h:PGs X es t)
  (hn:(assignEach es X.env).length=n:=by rfl) (hst:(assignEach es X.env).findIdx? (·.1)=none:=by rfl) (hK:X.K=K:=by rfl):PG X (.Tuple es k pos) (gTupH xa K n t):=by
 subst hK;intro pins s σ H v u Q I r hw;obtain⟨⟨C,hC⟩,a,xs,e1,hq,hl,hw⟩:=hw;subst e1;cases r;obtain⟨its,rv,ht,hz⟩:=I.tuple hq;obtain⟨⟨ox,vs,q1,q2,q3,q4⟩,_⟩:=I.hok xa _ hC;have hln:(assignEach es X.env).length=its.toArray.size:=by simp[hn,<- hl,rv.length]
 rw[assign_Tuple];refine wpAny_bind (wpAny_standAt ?_);unfold unpack;rw[hln,hst];refine wpAny_bind (wpAny_holding (unpackH hc q1 q3 q4 ht λh' hx=>?_));have I1:Inv X pins σ H { s with heap:=h' }:=I.kept (t':=s.toks) λb o e=>hx b o (Was (Waf e)) e;exact h pins _ σ H xs _ Q I1 (by simpa using rv) hw
end
section
variable {K:W.Frag}{Δ:Evt}
theorem Zj4 {xa:Addr}{n m j:Nat}{sel:List Nat}{t:TGs}{tc:TT}{te:TE}{P:D->Evt->Prop}(h:JE K (tComp n sel (iListH xa K (tVar j)) (gTup K m t) tc te) Δ P):JE K (tComp n sel (iListH xa K (tVar j)) (gTupH xa K m t) tc te) Δ P:=λg G H σ Q k c=>by
 obtain⟨v,e,a,ev,hx,r⟩:=h g G H σ Q k c;refine⟨v,e,a,ev,hx,λacc hacc=>?_⟩;obtain⟨W,h0,hs⟩:=r acc hacc;refine⟨W,h0,λi mm σ' H' hw=>?_⟩;rcases hs i mm σ' H' hw with z|⟨hg,N,h1,h2⟩
 ·exact .inl z
 ·exact .inr ⟨hg,N,h1,λx H2 hy=>⟨(by obtain⟨e1,_,C,hC⟩:=hy;exact⟨C,by rw[e1];exact hC⟩),h2 x H2 hy⟩⟩
end
structure RoomH (xa:Addr) (k:Nat) (A:Around):Prop where
 hd:A.handled=some (.ref xa)
 dp:A.depth+3*k+5<recursionLimit
 un:A.units+16*k+200<cLine
 gd:A.guards=some []
theorem RoomH.deeper {xa:Addr}{k:Nat}{A:Around}(r:RoomH xa (k+1) A) (env:Env):RoomH xa k (A.deeper env):=⟨r.hd,by have:=r.dp;show A.depth+1+3*k+5<_;omega,by have:=r.un;show A.units+3+16*k+200<_;omega,r.gd⟩
theorem RoomH.depth {xa:Addr}{k:Nat}{A:Around}(r:RoomH xa k A):A.depth<recursionLimit:=by have:=r.dp;omega
theorem RoomH.units {xa:Addr}{k:Nat}{A:Around}(r:RoomH xa k A):A.units+64<cLine:=by have:=r.un;omega
theorem Room.mark {k:Nat}{A:Around}(r:Room k A) (xa:Addr):RoomH xa k (A.mark (some (.ref xa))):=⟨rfl,r.dp,r.un,r.gd⟩
structure FnOkH (xa:Addr) (P:Program) (w:World) (K:W.Frag) (mg:Str->Option Value) (base:Heap) (CX:CXT) (k:Nat) (f:Addr) (fd:FuncData) (ps:List Str) (sp:Sp):Prop where
 len:∀vs H Q E,sp vs H Q E->vs.length=ps.length
 run:∀(A:Around) (outer:List Env) (s:Shared) (H:Hp) (args:Args) (us:List Value) (vs:List V) (Q:VK) (E:XK),RoomH xa k A->Env0 P w K mg base A outer s H->BindsTo s fd args (ps.zip us)->Vals vs us->sp vs H Q E →
  codeAny (model P w) A (.call (.ref f) args) (CR CX outer P w H s Q E) s
def cxH (CX:CXT) (P:Program) (w:World) (K:W.Frag) (mg:Str->Option Value) (base:Heap) (N:List Str) (qual:Str) (scope:Scope) (f:Addr) (cd:Value) (A:Around) (outer:List Env) (s:Shared) (H:Hp) (E:XK):Cx where
 prog:=P
 w:=w
 K:=K
 mg:=mg
 base:=base
 A:=A.deeper (envOfC qual scope s.heap.objs.size f cd)
 N:=N
 s₀:=s
 H₀:=H
 env:=envOfC qual scope s.heap.objs.size f cd
 outer:=outer
 stack:=envOfC qual scope s.heap.objs.size f cd::outer
 ex:=[]
 calm:=false
 fn:=λ_=>true
 pn:=[]
 xe:=λe s'=>wpAny (model P w) (A.deeper (envOfC qual scope s.heap.objs.size f cd)) (leaving (envOfC qual scope s.heap.objs.size f cd) e) (λ_ s''=>CX outer H s E e s'') (λe' s''=>CX outer H s E e' s'') s'
theorem Zhi {CX:CXT}{P:Program}{w:World}{K:W.Frag}{mg:Str->Option Value}{base:Heap}{N ps:List Str}{qual:Str}{scope:Scope}{f:Addr}{cd:Value}{A:Around}{outer:List Env}{s s1:Shared}{H:Hp}{E:XK}{us:List Value}{vs:List V}
  (S:FnScope N ps scope) (e0:Env0 P w K mg base A outer s H) (hl:vs.length=ps.length) (r:Vals vs us)
  (x:InCallC s s.heap.objs.size (bindL (envOfC qual scope s.heap.objs.size f cd).kindOf (ps.zip us) λ_=>none) (cellsFrom (s.heap.objs.size+1) scope.names []) (bindC (envOfC qual scope s.heap.objs.size f cd).kindOf (ps.zip us) λ_=>none) s1) :
  Inv (cxH CX P w K mg base N qual scope f cd A outer s H E) [] (start N vs) H s1:=by
 have hpl:ps.length<=N.length:=by have:=congrArg Wa5 S.pre;rw[Wb2]at this;omega
 obtain⟨h1,tk,rfl,hk⟩:=x.done;have noA:∀b:Addr,b ∉ (cxH CX P w K mg base N qual scope f cd A outer s H E).ex:=λb z=>absurd (show b∈([]:List Addr) from z) (by simp);refine⟨⟨e0.mod,S.kind,rfl,rfl,Wac _,λy z c h1 h2=>?_,λy hy=>?_,λy c _ h=>?_,λz=>(by cases z),Around.frames_deeper e0.frames,.inr ⟨rfl,rfl⟩,λb z=>absurd z (noA b),e0.bs,e0.bsz,λb _ _=>noA b,λb z=>absurd z (noA b),e0.funs,e0.frf⟩,
  rfl,e0.bare,Un.kept hk,⟨_,x.toInCall.ns,λi y v h1 h2 h3=>?_⟩,λy c h=>⟨_,x.cell y c h⟩,e0.hok.fresh (Wac _),λy c h=>?_,λp hp=>absurd (show p∈([]:List (Addr × Obj)) from hp) (by simp),e0.hok.kept hk,?_⟩
 ·exact name_of_addr x.apart (PySem.mem_of_lookup h1) (PySem.mem_of_lookup h2)
 ·have hy:scope.names.lookup y=some .cell\/scope.names.lookup y=some .free:=hy
  rcases hy with hy|hy
  ·exact Zc9 hy
  ·exact absurd rfl (S.nofree _ (PySem.mem_of_lookup hy))
 ·exact Wb1 (x.above y c (PySem.mem_of_lookup h))
 ·have hi:i<vs.length:=by
   unfold start at h2;by_cases hi:i<vs.length
   ·exact hi
   ·rw[Wap (by simpa using hi)]at h2
    rw[Wbf]at h2;split at h2 <;> cases h2
  have ha:vs[i]?=some v:=by
   unfold start at h2;rw[Wa3 (by simpa using hi),Wal]at h2;cases e:vs[i]? with
   |none=>rw[e]at h2;cases h2
   |some a=>rw[e]at h2;cases h2;rfl
  obtain⟨u,hu,rv⟩:=r.get ha;have hp:ps[i]?=some y:=by
   rw[<- S.pre,List.getElem?_take_of_lt (by omega)];exact h1
  have ndP:ps.Nodup:=by rw[<- S.pre];exact S.nd.sublist (List.take_sublist _ _)
  refine⟨u,rv,?_⟩;rcases S.par y (Wa4 hp) with k|k
  ·exact .inl ⟨k,Zdk ndP hp hu k⟩
  ·obtain⟨c,e⟩:=Zc9 (n:=s.heap.objs.size+1) k
   refine .inr ⟨.inl k,c,e,?_⟩;have q:=x.cell y c e;rw[Zdv ndP hp hu (by show scope.names.lookup y≠_;rw[k];decide)]at q;exact q
 ·exact e0.hok.fresh (Wb1 (x.above y c (PySem.mem_of_lookup h)))
 ·unfold start
  show _=N.length;rw[Wan,Wag,Wau];omega
theorem Zo1 {xa:Addr}{CX:CXT}{P:Program}{w:World}{K:W.Frag}{mg:Str->Option Value}{base:Heap}{k:Nat}{f:Addr}{name qual:Str}{params:Arguments}{body:List Stmt}{scope:Scope}{dV kV doc pm cdv ct oc:Value}{an od:Option Addr}
  {osl:Array (Option Value)}{N ps:List Str}{sp:Sp}(lk:K.lookup f=some ⟨oc,od,.func (W.fnOf name qual params body scope dV kV doc pm an cdv ct),osl⟩) (hcd:W.codeIn K cdv qual=true) (S:FnScope N ps scope)
  (len:∀vs H Q E,sp vs H Q E->vs.length=ps.length)
  (hbody:∀(A:Around) (outer:List Env) (s:Shared) (H:Hp) (vs:List V) (Q:VK) (E:XK),RoomH xa k (A.deeper (envOfC qual scope s.heap.objs.size f cdv))->sp vs H Q E →
   ∃t,PSs (cxH CX P w K mg base N qual scope f cdv A outer s H E) body t/\t { nx:=λ_ H'=>Q .non H',rt:=Q } (start N vs) H) :
  FnOkH xa P w K mg base CX (k+1) f (W.fnOf name qual params body scope dV kV doc pm an cdv ct) ps sp:=by
 refine⟨len,λA outer s H args us vs Q E hr e0 hb r hsp=>?_⟩;have hl:=len _ _ _ _ hsp;have KX:K.In s.heap:=e0.mod.kin.keeps λb o e=>(e0.bs b o e).1;have lim:s.heap.NoLimit:=e0.mod.nolimit.keeps λb o e=>(e0.bs b o e).1;have hkind:∀y∈ps.zip us,scope.names.lookup y.1=some .local\/(scope.names.lookup y.1=some .cell/\((cellsFrom (s.heap.objs.size+1) scope.names []).lookup y.1).isSome=true):=λ⟨n,v⟩ hy=>by
  rcases S.par n (Wcj hy).1 with q|q
  ·exact .inl q
  ·exact .inr ⟨q,PySem.W.cellsFrom_some _ _ _ (.inl q)⟩
 refine codeAny_call_function hr.depth (KX _ _ lk) rfl S.co S.gen rfl (PySem.W.codeRec_of KX hcd) (hb _ _ _ _ ?_);refine wpAny_newFunctionEnv_cells S.kind hkind λenv he s1 x=>?_;subst he;refine⟨lim.keeps x.toInCall.keep,codeAny_func ?_⟩;obtain⟨t,ht,hq⟩:=hbody A outer s H vs Q E (hr.deeper _) hsp;have I:Inv (cxH CX P w K mg base N qual scope f cdv A outer s H E) [] (start N vs) H s1:=Zhi S e0 hl r x;refine wpAny_mono (ht [] s1 (start N vs) H _ I hq) (λfl s' hs=>?_) λe s' hs=>hs;have fin:∀{σ':St}{H':Hp}{v:V}{u:Value},Inv (cxH CX P w K mg base N qual scope f cdv A outer s H E) [] σ' H' s' -> RelV v u->Q v H' -> CE outer P w H s Q u s':=
  λ{σ' H' v u} J rv q=>⟨v,H',J.os,J.bare,J.base,J.hok,rv,q⟩
 cases fl with
 |ret u=>
  obtain⟨v,σ',H',J,rv,q⟩:=hs;exact fin J rv q
 |next=>
  obtain⟨σ',H',J,q⟩:=hs;exact fin (v:=V.non) (u:=Value.none) J rfl q
 |brk=>
  obtain⟨_,_,_,q⟩:=hs;exact False.elim q
 |cont=>
  obtain⟨_,_,_,q⟩:=hs;exact False.elim q
section
variable {X:Cx}{CX:CXT}{xa:Addr}{k:Nat}{f C:Addr}{fd:FuncData}{ps:List Str}{sp:Sp}{dvs:List V}{ds:List Value}{E:XK}{x m:Str}{p pos apos:Pos}{e o:Expr}{es:List Expr}{ta:TE}{t:TA}
theorem Zmr {pins:List (Addr × Obj)}{σ:St}{H:Hp}{s:Shared}{Q:VK}{us:List Value}{vs:List V}(F:FnOkH xa X.prog X.w X.K X.mg X.base CX k f fd ps sp) (hr:RoomH xa k X.A) (hb:Binds X.K fd ps ds) (hd:Vals dvs ds) (hx:Passes CX X E)
  (I:Inv X pins σ H s) (r:Vals vs us) (h:sp (vs++dvs) H Q E):wpAny (model X.prog X.w) X.A (call (.ref f) us) (EP X pins σ Q) X.xe s:=by
 have r2:Vals (vs++dvs) (us++ds):=r.append hd;have hl:(us++ds).length=ps.length:=by rw[<- r2.length];exact F.len _ _ _ _ h
 refine wpAny_call (codeAny_mono (F.run X.A X.stack s H ⟨us,[]⟩ (us++ds) (vs++dvs) Q E hr I.env0 (hb s us I.kIn hl) r2 h) λr s' hq=>?_);cases r with
 |error e=>exact hx pins σ H s e s' I hq
 |ok fl=>
  cases fl with
  |ret u=>exact I.after hq
  |next=>exact False.elim hq
  |brk=>exact False.elim hq
  |cont=>exact False.elim hq
theorem Zj2 (F:FnOkH xa X.prog X.w X.K X.mg X.base CX k f fd ps sp) (hr:RoomH xa k X.A) (hg:Gl X x) (hm:X.mg x=some (.ref f)) (hk:W.keepIn X.K (.ref f)=true) (hb:Binds X.K fd ps ds) (hd:Vals dvs ds) (hx:Passes CX X E)
  (ha:PA X (e::es) t) (hdb:(x == ("__debug__":Str))=false:=by decide) (he:starEach (e::es) X.env=(false,eval e X.env)::starEach es X.env:=by rfl) (hpl:(backTo pos (starEach es X.env)).any (·.1)=false:=by rfl) :
  PE X (.Call (.Name x p) (e::es) [] pos) (tCall sp dvs E t):=by
 intro pins s σ H Q I h;refine wpAny_Call_Name_kw (Zc1 I hg hm ?_ hdb);refine PySem.W.callWith_K (h₀:=X.base) I.ok.mod.kin hk (thn (ha pos pins s σ H _ I h) λus s1 ⟨vs,H1,I1,r,q⟩=>⟨I1.kIn,?_⟩) he hpl;exact Zmr F hr hb hd hx I1 r q
end
theorem Zil {X:Cx}{xa:Addr}{elt tg iter:Expr}{ifs:List Expr}{scope:Scope}{pos spos py:Pos}{fvs:List Str}{sel:List Nat}{wi:TI}{g:TG}{tc:TT}{te:TE}{i:Nat}{y:Str}(tgs:List Str) (S:CompSc X.env.scope X.N scope fvs sel) (hc:X.A.handled=some (.ref xa))
  (hN:X.N.Nodup) (hiy:X.N[i]?=some y) (hx:Loc X.env.scope y)
  (hi:PIH xa X tg iter wi) (hg:∀C s H ex pn,PG (compCx X scope (tgs++fvs) C s H ex pn) tg g) (ht:∀C s H ex pn,PTs (compCx X scope (tgs++fvs) C s H ex pn) ifs tc) (he:∀C s H ex pn,PE (compCx X scope (tgs++fvs) C s H ex pn) elt te)
  (hs:∀x,foldedSetIterable iter X.env x=pure x:=by intro _;rfl) (hsw:swapsWith (.ListComp elt [⟨tg,iter,ifs,0⟩] scope pos) (some (.Name y py)) spos.line X.env=pure true:=by rfl)
  (hf:X.fn y=true\/X.env.scope.names.lookup y=some .local:=by first|exact .inl rfl|exact .inr rfl|assumption) :
  PS X (.Assign [.Name y py] (.ListComp elt [⟨tg,iter,ifs,0⟩] scope pos) spos) (tAsg (tComp tgs.length sel wi g tc te) (gName i)):=by
 intro pins s σ H D I h;rw[exec_Assign_Name_used _ _ _ _ hsw];refine wpAny_bind (wpAny_standAt (wpAny_bind ?_));show wpAny _ X.A (do let _ ← comprehension (.ListComp elt [⟨tg,iter,ifs,0⟩] scope pos) scope X.env _ (newList []) false (eval iter X.env) (some (assign (.Name y py) X.env))) _ _ s;refine wpAny_bind (wpAny_mono (wpAny_comprehension_free (use:=some (assign (.Name y py) X.env)) (Q:=λ_ s'=>SP X pins D .next s') rfl hs (Zbl (Zc0 S I.ok)) S.kind S.names
  (thn (hi pins s σ H _ I h) λv s1 h1=>thn h1 λitv s2 h2=>?_)) (λ_ s' hq=>wpAny_pure (wpAny_pure hq)) λ_ _ e=>e)
 refine Zfl (Cm:=λX=>X.A.handled=some (.ref xa)) S (λ_ _ _ _ _=>hc) hg ht he (RR:=λacc C=>compPost (model X.prog X.w) X.A X.xe (some (assign (.Name y py) X.env)) (λ_ s'=>SP X pins D .next s') acc C) (Q:=λv H'=>D.nx (σ.set i (some v)) H') h2 ?_;intro s' C acc H' m hn fp hI q;have I0:Inv X pins σ H' s':=hI s'.heap (.refl ..);show wpAny _ X.A (assign (.Name y py) X.env (.ref acc)) _ _ _;refine wpAny_assign_Name (Zfs (v:=.ref acc) I0 hN hiy hx rfl (λs2 I2 hsb=>?_) hf);obtain⟨a,sb,ha⟩:=hsb;have hCa:C≠a:=by
  rcases ha with z|z
  ·rw[z];exact fp.2.1
  ·exact Ne.symm (fp.2.2.2.2.1 y a z)
 refine⟨m,hn.sameBut sb hCa,λh' sb'=>?_⟩;obtain⟨f0,f1,f2,f3,f4,f5⟩:=fp;exact⟨_,H',I2.turned (t':=s2.toks) (it:=C) (λb o hb e=>(sb'.2 b hb).trans e) f0 f1 f3 f4 f5,q⟩
structure CalleeH (P:Program) (w:World) (K:W.Frag) (mg:Str->Option Value) (base:Heap) (k:Nat) (x:Str) (ps:List Str) (sp:Addr->Sp):Prop where
 ex:∃(f:Addr) (fd:FuncData),(∀xa,FnOkH xa P w K mg base CX0 k f fd ps (sp xa))/\Binds K fd ps []/\W.keepIn K (.ref f)=true/\mg x=some (.ref f)
section
variable {X:Cx}{xa:Addr}{k:Nat}{x:Str}{ps:List Str}{sp:Addr->Sp}{e:Expr}{es:List Expr}{t:TA}{p pos:Pos}
theorem Zpi (C:CalleeH X.prog X.w X.K X.mg X.base k x ps sp) (hr:RoomH xa k X.A) (ha:PA X (e::es) t) (hg:Gl X x:=by rfl) (hdb:(x == ("__debug__":Str))=false:=by decide)
  (he:starEach (e::es) X.env=(false,eval e X.env)::starEach es X.env:=by rfl) (hpl:(backTo pos (starEach es X.env)).any (·.1)=false:=by rfl):PE X (.Call (.Name x p) (e::es) [] pos) (tCall (sp xa) [] E0 t):=by
 obtain⟨f,fd,F,b,kp,m⟩:=C.ex;exact Zj2 (F xa) hr hg m kp b .nil pass0 ha hdb he hpl
end
section
variable {P:Program}{w:World}{K:W.Frag}{mg:Str->Option Value}{base:Heap}
theorem Fun.okH {xa:Addr}{x qual:Str}{st:Stmt}{f:Addr}{fd:FuncData}{N ps:List Str}{k:Nat}{sp:Sp}(F:Fun K x qual st f fd) (S:FnScope N ps (defScope st)) (len:∀vs H Q E,sp vs H Q E->vs.length=ps.length)
  (hbody:∀(cdv:Value) (A:Around) (outer:List Env) (s:Shared) (H:Hp) (vs:List V) (Q:VK) (E:XK),RoomH xa k (A.deeper (envOfC qual (defScope st) s.heap.objs.size f cdv))->sp vs H Q E →
   ∃t,PSs (cxH CX0 P w K mg base N qual (defScope st) f cdv A outer s H E).nox (defBody st) t/\t { nx:=λ_ H'=>Q .non H',rt:=Q } (start N vs) H):FnOkH xa P w K mg base CX0 (k+1) f fd ps sp:=by
 obtain⟨oc,od,kV,doc,pm,an,cdv,ct,osl,rfl,lk,hcd⟩:=F.ex;refine Zo1 lk hcd S len λA outer s H vs Q E hr hsp=>?_;obtain⟨t,h,q⟩:=hbody cdv A outer s H vs Q E hr hsp;exact⟨t,h.nox,q⟩
end
open PySem PySem.Spec PyProof.Rows PySem.W
def tRe (σ0 σ':St) (t:TS):TS:=λD σ H=>σ = σ0/\t D σ' H
section
variable {X:Cx}
theorem Inv.re {pins:List (Addr × Obj)}{σ σ':St}{H:Hp}{s:Shared}(I:Inv X pins σ H s) (hl:σ'.length = σ.length) (w:∀(i:Nat) x v,X.N[i]?=some x->Vis X.env.scope x -> σ'[i]?=some (some v) -> σ[i]?=some (some v)):Inv X pins σ' H s:=
 ⟨I.ok,I.os,I.bare,I.base,let ⟨m,hn,hl'⟩:=I.loc; ⟨m,hn,λi x v e1 e2 e3=>hl' i x v e1 (w i x v e1 e3 e2) e3⟩,I.cell,I.free,I.freeC,I.pin,I.hok,hl.trans I.len⟩
theorem Zou {body:List Stmt}{t:TS}{σ0 σ':St}(h:PSs X body t) (hl:σ'.length = σ0.length) (w:∀(i:Nat) x v,X.N[i]?=some x->Vis X.env.scope x -> σ'[i]?=some (some v) -> σ0[i]?=some (some v)):PSs X body (tRe σ0 σ' t):=by
 intro pins s σ H D I hq;obtain⟨rfl,hq⟩:=hq;exact h pins s σ' H D (I.re hl w) hq
end
theorem Zhl {N:List Str}{vs:List V}(h:vs.length<=N.length):(start N vs).length=N.length:=by
 unfold start;rw[Wan,Wag,Wau];omega
def tAsk (i:Nat) (l:Addr) (sp:Hp->VK->XK->Prop) (E:XK):TE:=λσ H Q=>σ[i]?=some (some (.ref l))/\sp H Q E
section
variable {X:Cx}{k i:Nat}{l:Addr}{fd:FuncData}{x:Str}{sp:Hp->VK->XK->Prop}{p pos:Pos}{E:XK}
theorem Zpa (F:FnOk X.prog X.w X.K X.mg X.base (CXE X.prog X.w) k l fd [] (λvs H Q E=>vs=[]/\sp H Q E)) (hl:FnAt l X.base) (hb:∀s,BindsTo s fd ⟨[],[]⟩ []) (hr:Room k X.A) (hx:Passes (CXE X.prog X.w) X E) (hN:X.N[i]?=some x) (hv:Vis X.env.scope x)
  (hdb:(x == ("__debug__":Str))=false:=by decide) (hcd:(x == ("__classdict__":Str))=false:=by decide):PE X (.Call (.Name x p) [] [] pos) (tAsk i l sp E):=by
 intro pins s σ H Q I h;obtain⟨h1,h2⟩:=h;refine wpAny_Call_Name_kw (thn (Zkx (i:=i) (pos:=p) hN hv hdb hcd pins s σ H (λv H1=>v=.ref l/\H1=H) I ⟨_,h1,rfl,rfl⟩) λu s1 ⟨v,H1,I1,r1,e1,e2⟩=>?_);subst e1;subst e2;cases (show u=Value.ref l from r1);obtain⟨oc,od,fd',sl,ho⟩:=hl;refine callWith_F0 (first:=[]) ⟨oc,od,fd',sl,I1.bk _ _ ho⟩ ?_;refine wpAny_call (codeAny_mono (F.run X.A X.stack s1 _ ⟨[],[]⟩ [] [] Q E hr I1.env0 (hb s1) .nil ⟨rfl,h2⟩) λr s' hq=>?_);cases r with
 |error e=>exact hx pins σ _ s1 e s' I1 hq
 |ok fl=>
  cases fl with
  |ret u=>exact I1.after hq
  |next=>exact False.elim hq
  |brk=>exact False.elim hq
  |cont=>exact False.elim hq
end
section
variable {P:Program}{w:World}{K:W.Frag}{mg:Str->Option Value}{base:Heap}{N:List Str}{qual:Str}{scope:Scope}{f:Addr}{cd:Value}{clos:List (Str × Addr)}{A:Around}{outer:List Env}{s0:Shared}{H0:Hp}{E:XK}
theorem Zke:Passes (CXE P w) (lamCx (CXE P w) P w K mg base N qual scope f cd clos A outer s0 H0 E) E:=λpins σ H s e s' I hq=>by
 obtain⟨a,C,T,H',rfl,os,bare,un,hok,ha,hsa,hT,hsT,tr,hE⟩:=hq;have J:=I.call' (ch:=[]) os un hok bare (λb z=>absurd z (by simp));have na:=(Nw.of I rfl hsa).at ha;have nT:=(Nw.of I rfl hsT).at hT;refine Zkb J rfl rfl rfl tr na nT λh' T' J2 t1 t2=>?_;exact⟨a,C,T',H',rfl,J2.os,J2.bare,J2.base,J2.hok,ha,na.old,t2.trk,t2.old,t1,hE⟩
end
def fTold (fL:XSp) (Kn:Addr->Prop) (wd:Addr->Str):DSp:=λds Post=>∃Xp,fL ds (λd=>Post (.tup [.str "told",d])) Xp/\∀C,Xp C->Kn C/\Post (.tup [.str "refused",.str (wd C)])
theorem Zkq:2<=sizeLine:=by decide
theorem Zko {K:W.Frag}{fL:XSp}{Kn:Addr->Prop}{wd:Addr->Str}{l FE:Addr}{cs:List V}{H:Hp}{Q:VK}{E0:XK}{th:Addr->TS}(h:spD K (fTold fL Kn wd) cs H Q E0)
  (hh:∀C,Kn C->(ExcC K C/\PySem.W.mroIn K C (.ref FE)=some true)/\∀a (Post:D->Prop),Post (.tup [.str "refused",.str (wd C)])->JS K (th a) [.any,.any,.val (.exc a C)] ⟨λΔ1=>∃d y z,Δ1=[y,.val d,z]/\Post d,λ_ _=>False,λ_=>False,λ_=>False,λ_ _=>False⟩) :
  tSeq (tAsg (tC .non) (gName 1)) (tSeq (tTry K FE 2 3 (λE=>tAsg (tTup (tCons (tC (.str "told")) (tCons (tAsk 0 l (spX K fL cs) E) tNil))) (gName 1)) th) (tRet (tVar 1))) { nx:=λ_ H'=>Q .non H',rt:=Q } [some (.ref l),none,none] H:=by
 obtain⟨F,ds,Post,l1,rs,⟨Xp,hf,hX⟩,q⟩:=h;have k0:Ok K ⟨λ_=>False,F,H,λ_=>none⟩ F H (start ["_law_asked","_law_found","_law_e"] [.ref l]) (startD ["_law_asked","_law_found","_law_e"] [.adr l]):=Zbt (.cons (.adr l) .nil) (by simp) (λ_ _ _ e=>e) (λ_ z=>z.elim) (Same.refl _) (λb o e=>⟨l1 b o e,.inr e⟩) λ_=>rfl;have k1:Ok K ⟨λ_=>False,F,H,λ_=>none⟩ F H [some (.ref l),some .non,none] [.val (.adr l),.val .non,.any]:=k0.setVal (i:=1) (by simp[startD]) .non;have fin:∀{v:V}{d:D}{σ:St}{G H':Hp}{Δ:Evt},Ok K ⟨λ_=>False,F,H,λ_=>none⟩ G H' σ Δ -> Rep K G v d->Post d->Q v H':=λ{v d σ G H' Δ} k r p=>by
  refine q v H' d (λb o e=>k.same b o (λz=>z) e) (r.mono λb o e=>?_) p;obtain⟨e1,e2⟩:=k.frz b o e;rcases e2 with z|z
  ·rw[Zbf z];exact e1
  ·rw[Za5 (l1 b o z)];exact z
 have last:∀σ G H' Δ,Ok K ⟨λ_=>False,F,H,λ_=>none⟩ G H' σ Δ -> (∃d y z,Δ = [y,.val d,z]/\Post d)->tRet (tVar 1) { nx:=λ_ H'=>Q .non H',rt:=Q } σ H':=λσ G H' Δ k hz=>by
  obtain⟨d,y,z,rfl,p⟩:=hz;obtain⟨v,e1,e2⟩:=k.val 1 d rfl;exact⟨v,e1,fin k e2 p⟩
 show tSeq (tTry K FE 2 3 _ th) (tRet (tVar 1)) _ [some (.ref l),some .non,none] H;refine⟨λv _ H'=>∃C,v=.ref C/\Xp C/\Same H H',?_,λC H1 hq=>?_⟩
 ·show tAsk 0 l (spX K fL cs) _ _ H λx H2=>_
  refine⟨rfl,F,ds,_,Xp,l1,rs,hf,λr H' d sh rr pd=>⟨Zkq,λp hp=>?_⟩,λC H' sh x=>⟨C,rfl,x,sh⟩⟩;have sg:=Zcl (H':=H') l1;have k2:=k1.grow sg sh (Zct l1 λb o _ e=>sh b o e);obtain⟨k3,s3⟩:=k2.laid hp (.tup [.str "told",r]);have k4:=k3.setVal (i:=1) (by simp) (.tup Zai (.cons (.str _) (.cons (rr.mono s3) .nil)));exact last _ _ _ _ k4 ⟨_,_,_,rfl,pd⟩
 ·obtain⟨C',e,x,sh⟩:=hq
  cases e;obtain⟨hk,hp⟩:=hX C x;obtain⟨h1,h2⟩:=hh C hk;refine⟨h1,λa ha=>?_⟩;have k5:Ok K ⟨λ_=>False,F,H,λ_=>none⟩ F H1 (start ["","",""] []) (startD ["","",""] []):=Zbt .nil (by simp) (λb o _ e=>sh b o e) (λ_ z=>z.elim) (Same.refl _) (λb o e=>⟨sh b o (l1 b o e),.inr e⟩) λ_=>rfl;obtain⟨k6,_⟩:=k5.laid ha (.ext (InsC a C));have k7:=k6.setVal (i:=2) (by simp[startD]) (.exc Zai);refine h2 a Post hp ⟨λ_=>False,F,H,λ_=>none⟩ _ _ _ _ k7 ⟨λσ' G' H' Δ' k' hz=>?_,λ_ _ _ _ _ _ _ _ z=>z.elim,λ_ _ _ _ _ z=>z.elim,λ_ _ _ _ _ z=>z.elim,λ_ _ _ _ _ _ _ _ z=>z.elim⟩;obtain⟨d,y,z,rfl,p⟩:=hz;exact last _ _ _ _ (k'.unset 2) ⟨d,y,.any,rfl,p⟩
open PySem PySem.Spec PyProof.Rows PySem.W
def spLT (K:W.Frag) (T:Addr) (f:DSp):Sp:=λvs H Q _=>∃F ds Post,Same F H/\F T=none/\H T=some (.ext (TabO T #[]))/\Reps K F vs ds/\f ds Post ∧
 ∀r H' d ps,(∀b o,b≠T->H b=some o->H' b=some o)->H' T=some (.ext (TabO T ps))->Rep K (glue F H H') r d->Post d->Q r H'
section
variable {K:W.Frag}{T:Addr}{pl:List (Pos × Str)}
theorem Zj9 {f:DSp}{n:Nat}(h:∀ds Post,f ds Post->ds.length=n):∀vs H Q E,spLT K T f vs H Q E->vs.length=n:=λvs H Q E hq=>by
 obtain⟨F,ds,Post,_,_,_,rs,hf,_⟩:=hq;rw[rs.length];exact h ds Post hf
theorem Znv {f:DSp}{t:TS}{N:List Str}{vs:List V}{H:Hp}{Q:VK}{E:XK}{i:Nat}(ht:∀ds Post,f ds Post->ds.length<=i/\i<N.length/\JS K t ((startD N ds).set i (.bor (.ext (TabR T pl)))) ⟨λ_=>False,λd Δ=>Δ[i]?=some (.bor (.ext (TabR T pl)))/\Post d,λ_=>False,λ_=>False,λ_ _=>False⟩)
  (h:spLT K T f vs H Q E):tRe (start N vs) ((start N vs).set i (some (.ref T))) t { nx:=λ_ H'=>Q .non H',rt:=Q } (start N vs) H:=by
 obtain⟨F,ds,Post,l,fT,hT,rs,hf,q⟩:=h;obtain⟨hl,hN,hj⟩:=ht ds Post hf;refine⟨rfl,?_⟩;have fin:∀{v:V}{d:D}{σ:St}{G H':Hp}{Δ:Evt},Ok K ⟨λb=>b=T,F,H,λ_=>none⟩ G H' σ Δ -> Δ[i]?=some (.bor (.ext (TabR T pl)))->Rep K G v d->Post d->Q v H':=λ{v d σ G H' Δ} k e0 r p=>by
  obtain⟨a',o,h1,h2,h3,h4,h5⟩:=k.own i _ _ e0 rfl;have ea:a'=T:=h5;subst ea;cases o with
  |ext φ=>
   obtain⟨G0,s0,ps,rfl,_⟩:=h3;refine q v H' d ps (λb o hb e=>k.same b o hb e) h2 (r.mono λb o e=>?_) p;obtain⟨e1,e2⟩:=k.frz b o e;rcases e2 with z|z
   ·rw[Zbf z];exact e1
   ·rw[Za5 (l b o z)];exact z
  |_=>exact h3.elim
 have hlen:(start N vs).length=N.length:=Zhl (by rw[rs.length];omega);have k0:=Zbt (K:=K) (H:=H) (g:=⟨λb=>b=T,F,H,λ_=>none⟩) (N:=N) rs (by omega) (λ_ _ _ e=>e) (λb z=>by subst z;rw[hT];intro w;cases w) (Same.refl _) (λb o e=>⟨l b o e,.inr e⟩) λ_=>rfl;have noOd:∀(j:Nat) x od,(startD N ds)[j]?=some x->x.od=some od->False:=λj x od e1 e2=>by
  have hm:=Wa4 e1;rcases Wbb.mp hm with z|z
  ·obtain⟨d,_,rfl⟩:=Wbt.mp z;cases e2
  ·rw[Wcs]at z;rw[z.2]at e2;cases e2
 have hD:(startD N ds).length=N.length:=by rw[k0.len,hlen]
 have one:∀(j:Nat) x od,((startD N ds).set i (.bor (.ext (TabR T pl))))[j]?=some x->x.od=some od->j=i/\x=.bor (.ext (TabR T pl)):=λj x od e1 e2=>by
  by_cases e:j=i
  ·subst e
   rw[Waj (by rw[hD];exact hN)]at e1;exact⟨rfl,(War.inj e1).symm⟩
  ·rw[Wah (Ne.symm e)]at e1
   exact(noOd j x od e1 e2).elim
 have k1:Ok K ⟨λb=>b=T,F,H,λ_=>none⟩ F H ((start N vs).set i (some (.ref T))) ((startD N ds).set i (.bor (.ext (TabR T pl)))):=by
  refine⟨k0.same,k0.lent,k0.sub,k0.frz,λb o e=>(by cases e),by rw[Wb6,Wb6,k0.len],λj d e=>?_,λj x od e1 e2=>?_,λj m x y od od' c e1 e2 e3 e4 _ _=>?_⟩
  ·by_cases z:j=i
   ·subst z
    rw[Waj (by rw[hD];exact hN)]at e;cases e
   ·rw[Wah (Ne.symm z)]at e ⊢
    exact k0.val j d e
  ·obtain⟨rfl,rfl⟩:=one j x od e1 e2
   cases e2;exact⟨T,.ext (TabO T #[]),Waj (by rw[hlen];exact hN),hT,⟨F,Same.refl _,TabR.start⟩,fT,rfl⟩
  ·rw[(one j x od e1 e2).1,(one m y od' e3 e4).1]
 exact hj _ F H _ _ k1 ⟨λ_ _ _ _ _ z=>z.elim,λv d σ G H' Δ k r ⟨e,p⟩=>fin k e r p,λ_ _ _ _ _ z=>z.elim,λ_ _ _ _ _ z=>z.elim,λ_ _ _ _ _ _ _ _ z=>z.elim⟩
theorem Znk {X:Cx}{N:List Str}{body:List Stmt}{t:TS}{vs:List V}{i:Nat}{v:V}(hN:X.N=N) (hv:∀x,N[i]?=some x->¬ Vis X.env.scope x) (h:PSs X body t):PSs X body (tRe (start N vs) ((start N vs).set i (some v)) t):=by
 refine Zou h (by rw[Wb6]) λj x u e1 e3 e2=>?_;rw[hN]at e1;by_cases z:j=i
 ·subst z;exact absurd e3 (hv x e1)
 ·rw[Wah (Ne.symm z)]at e2;exact e2
end
def codeOfF (K:W.Frag) (f c T:Addr):Bool:=match K.lookup f with
 |some ⟨_,_,.func fd,_⟩=>(match fd.code with|.ref c'=>c' == c|_=>false) && codeHdIn K c T
 |_=>false
section
variable {P:Program}{w:World}{K:W.Frag}{mg:Str->Option Value}{base:Heap}
theorem Fun.okT {x qual:Str}{st:Stmt}{f c T:Addr}{fd:FuncData}{N ps:List Str}{k:Nat}{sp:Sp}(F:Fun K x qual st f fd) (hC:codeOfF K f c T=true) (S:FnScope N ps (defScope st)) (len:∀vs H Q E,sp vs H Q E->vs.length=ps.length)
  (hbody:∀(A:Around) (outer:List Env) (s:Shared) (H:Hp) (vs:List V) (Q:VK) (E:XK),Room k (A.deeper (envOfC qual (defScope st) s.heap.objs.size f (.ref c)))->codeHdIn K c T=true->sp vs H Q E →
   ∃t,PSs (cxOf CX0 P w K mg base N qual (defScope st) f (.ref c) A outer s H E).nox (defBody st) t/\t { nx:=λ_ H'=>Q .non H',rt:=Q } (start N vs) H):FnOk P w K mg base CX0 (k+1) f fd ps sp:=by
 obtain⟨oc,od,kV,doc,pm,an,cdv,ct,osl,rfl,lk,hcd⟩:=F.ex;unfold codeOfF at hC;rw[lk]at hC;simp only[Wa1]at hC;obtain⟨hC1,hC2⟩:=hC;have ec:cdv=.ref c:=by
  clear F lk hcd hC2;cases cdv with
  |ref c'=>exact congrArg Value.ref (eq_of_beq hC1)
  |_=>cases hC1
 subst ec;refine Zlm lk hcd S len λA outer s H vs Q E hr hsp=>?_;obtain⟨t,h,q⟩:=hbody A outer s H vs Q E hr hC2 hsp;exact⟨t,h.nox,q⟩
end
structure ToldL (P:Program) (w:World) (K:W.Frag) (mg:Str->Option Value) (k:Nat) (x qual:Str) (params:Arguments) (body:Expr) (scope:Scope) (fvs:List Str) (sp:List V->Hp->VK->XK->Prop):Prop where
 ex:∃(f:Addr) (fd:FuncData),Binds K fd ["_law_asked"] []/\W.keepIn K (.ref f)=true/\mg x=some (.ref f) ∧
  ∀base' l clos pm c' ctv cs,LamAt base' l qual params body scope clos pm c' ctv fvs cs->FnOk P w K mg base' CX0 k f fd ["_law_asked"] (λvs H Q E=>vs=[.ref l]/\sp cs H Q E)
theorem Zmg {X:Cx}{k i:Nat}{c T:Addr}{x qual:Str}{params:Arguments}{body:Expr}{scope:Scope}{fvs:List Str}{sel:List Nat}{sp:List V->Hp->VK->XK->Prop}{p pos pos2:Pos}(C:ToldL X.prog X.w X.K X.mg k x qual params body scope fvs sp)
  (S:LamSc X.env.scope X.N scope fvs sel) (hr:Room k X.A) (hcode:X.env.code=.ref c) (CH:CodeHd X.base c T) (hB:X.base.BuiltinsAt X.mg T) (hfn:∀x,X.fn x=true:=by intro _;rfl) (hq:X.env.qual ++ "<lambda>" = qual:=by rfl) (hdef:defaultsOf params X.env=([],[]):=by rfl)
  (hg:Gl X x:=by rfl) (hdb:(x == ("__debug__":Str))=false:=by decide)
  (he:starEach [Expr.Lambda params body scope pos] X.env=(false,eval (Expr.Lambda params body scope pos) X.env)::starEach [] X.env:=by rfl) (hpl:(backTo pos2 (starEach [] X.env)).any (·.1)=false:=by rfl) :
  PE X (.Call (.Name x p) [.Lambda params body scope pos] [] pos2) (tLamC i pos qual T sel sp E0):=by
 obtain⟨f,fd,hb,hk,hm,F⟩:=C.ex;exact Znx S hfn hr hb F hm hk hcode CH hB hq hdef hg hdb he hpl
def lamOf (e:Expr):Arguments × Expr × Scope × Pos:=match e with
 |.Lambda a b s p=>(a,b,s,p)
 |_=>(defArgs (.Pass ⟨0,0,0,0⟩),.Name "" ⟨0,0,0,0⟩,defScope (.Pass ⟨0,0,0,0⟩),⟨0,0,0,0⟩)
def forBody (s:Stmt):List Stmt:=match s with
 |.For _ _ b _ _=>b
 |_=>[]
def ifTest (s:Stmt):Expr:=match s with
 |.If c _ _ _=>c
 |_=>.Name "" ⟨0,0,0,0⟩
def cmpLeft (e:Expr):Expr:=match e with
 |.Compare l _ _ _=>l
 |e=>e
def callArg (e:Expr):Expr:=match e with
 |.Call _ (x::_) _ _=>x
 |e=>e
open PySem PySem.Spec PyProof.Rows PySem.W
def OnlyB (T:Addr) (H:Hp):Prop:=∀b,H b=none\/(∃o xs,H b=some (.frz o (.lst xs)))\/(b=T/\H b=some (.ext (TabO T #[])))
theorem Zia {P:Program}{w:World}{K:W.Frag}{mg mb:Str->Option Value}{CX:CXT}{k:Nat}{fa a c T:Addr}{fd:FuncData}{x:Str}{sp:Sp}{s₁:Shared}{vs:List Value}{ns:List Int}
  (KX:K.In s₁.heap) (hns:s₁.heap.Ns mainGlobals mg) (hb:s₁.heap.Ns builtinsNs mb) (hbb:∀x:Str,x ≠ "__name__" -> mb x=bootBuiltins x) (hlim:s₁.heap.NoLimit) (hg:s₁.gens = #[])
  (ha:s₁.heap.get? a=some { cls:=.type "list",data:=.seq vs.toArray }) (hi:IntsAre vs ns) (hl:ns.length<=sizeLine) (hr:Room k callerA) (hT:s₁.heap.get? T=some (tabObj #[])) (hTK:K.lookup T=none) (hC:codeHdIn K c T=true)
  (hBM:s₁.heap.BuiltinsAt mg T) (F:∀base:Heap,K.In base->base.Ns mainGlobals mg->base.BuiltinsAt mg T->FnOk P w K mg base CX k fa fd [x] sp) (hbind:∀(s:Shared) (u:Value),BindsTo s fd ⟨[u],[]⟩ [(x,u)])
  (hsp:∀H:Hp,OnlyB T H->H T=some (.ext (TabO T #[]))->a≠T->SqL K H a (ns.map V.int)->sp [.ref a] H (λv H'=>v=.bl true/\∃ps,H' T=some (.ext (TabO T ps))) λ_ _ _=>False)
  (hCX:∀H e s',CX [] H s₁ (λ_ _ _=>False) e s' -> False) :
  codeAny (model P w) callerA (.call (.ref fa) ⟨[.ref a],[]⟩) (λr s'=>r=.ok (.ret (.bool true))/\OldK s₁.heap s'.heap/\s'.os=s₁.os/\AllBare s'.gens) s₁:=by
 have rv:=Ze9 hi;have lenV:=hi.length;have naT:a≠T:=λz=>by rw[z,hT]at ha;cases ha
 have core:∀H:Hp,OnlyB T H->H T=some (.ext (TabO T #[]))->SqL K H a (ns.map V.int)->HOk P w H s₁.heap->(∀b,H b≠none->b=a\/b=T)->(H a≠none->K.lookup a=none) →
   codeAny (model P w) callerA (.call (.ref fa) ⟨[.ref a],[]⟩) (λr s'=>r=.ok (.ret (.bool true))/\OldK s₁.heap s'.heap/\s'.os=s₁.os/\AllBare s'.gens) s₁:=by
  intro H hO hHT hS hok hA hK;have noA:∀{b:Addr}{o:Obj}{es:Array DictEntry}{ep:Nat},s₁.heap.get? b=some o->o.data=.dict es ep->H b=none:=λ{b o es ep} e d=>by
   cases q:H b with
   |none=>rfl
   |some u=>
    rcases hA b (by rw[q];simp) with e'|e'
    ·subst e'
     rw[ha]at e;cases e;have d':Data.seq vs.toArray _=Data.dict es ep:=d;cases d'
    ·subst e'
     rw[hT]at e;cases e;cases d
  have nsK:∀{b:Addr}{m:Str->Option Value},s₁.heap.Ns b m->(hidT s₁.heap H).Ns b m:=λ{b m} ⟨o,es,ep,e,d,r⟩=>⟨o,es,ep,Zes e (noA e d),d,r⟩;have hKb:K.In (hidT s₁.heap H):=λb o e=>Zes (KX b o e) (by
   cases q:H b with
   |none=>rfl
   |some u=>
    rcases hA b (by rw[q];simp) with e'|e'
    ·subst e'
     rw[hK (by rw[q];simp)]at e;cases e
    ·subst e'
     rw[hTK]at e;cases e)
  have hM:Mod K mg (hidT s₁.heap H):=⟨hKb,nsK hns,⟨mb,nsK hb,hbb⟩,let ⟨mc,h1,h2⟩:=hlim; ⟨mc,nsK h1,h2⟩⟩;have e0:Env0 P w K mg (hidT s₁.heap H) callerA [] s₁ H:=⟨rfl,hM,λb o e=>Zm4 e,Nat.le_of_eq (Zib _ _),trivial,λb hb=>absurd (show b∈([]:List Addr) from hb) (by simp),hok,.of_eq hg⟩;have hBb:(hidT s₁.heap H).BuiltinsAt mg T:=by
   obtain⟨bm,ob,b1,b2,b3,b4,b5,b6,b7,b8⟩:=hBM;refine⟨bm,ob,b1,b2,b3,b4,Zes b5 ?_,b6,b7,b8⟩;cases q:H bm with
   |none=>rfl
   |some u=>
    rcases hA bm (by rw[q];simp) with e'|e'
    ·rw[e',ha]at b5;cases b5;exact absurd (show Value.type "list" = Value.type "module" from b6) (by decide)
    ·exact absurd e' b4
  refine codeAny_mono ((F _ hKb (nsK hns) hBb).run callerA [] s₁ H ⟨[.ref a],[]⟩ [.ref a] [.ref a] _ _ hr e0 (hbind s₁ (.ref a)) (.cons rfl .nil) (hsp H hO hHT naT hS)) λr s' h=>?_;cases r with
  |error e=>exact(hCX H e s' h).elim
  |ok fl=>
   cases fl with
   |next=>exact False.elim h
   |brk=>exact False.elim h
   |cont=>exact False.elim h
   |ret u=>
    obtain⟨v,H',os,bare,un,hok',r',q,ps,hps⟩:=h;subst q;obtain rfl:u=Value.bool true:=r';have old:∀b o,b≠T->s₁.heap.get? b=some o->s'.heap.get? b=some o:=λb o nb e=>by
     cases q:H b with
     |none=>exact un.keep b o e q (by intro z;exact absurd (show b∈([]:List Addr) from z) (by simp)) (by simp)
     |some u=>
      rcases hO b with z|⟨ob,xs,z⟩|⟨z,_⟩
      ·rw[q]at z;cases z
      ·have z2:=un.frzs b ob _ z
       obtain⟨e1,_⟩:=hok b _ z;obtain⟨e2,_⟩:=hok' b _ z2;rw[e]at e1;cases e1;exact e2
      ·exact absurd z nb
    have tab':s'.heap.get? T=some (tabObj ps):=(hok' T _ hps).1;have CH:=codeHd_of_K KX hC;have isT:isCodeTable s₁.heap T:=(CH.tab hT).isCodeTable;refine⟨rfl,⟨λb o e=>?_,λb o e=>?_⟩,os,bare⟩
    ·by_cases nb:b=T
     ·subst nb
      rw[hT]at e;cases e;exact .inr (.inl ⟨isT,rfl,#[],ps,rfl,by rw[Array.empty_append];exact tab'⟩)
     ·exact .inl (old b o nb e)
    ·by_cases nb:b=T
     ·subst nb;exact⟨_,tab'⟩
     ·exact⟨o,old b o nb e⟩
 cases hk:K.lookup a with
 |some o=>
  have e:=KX a o hk;rw[ha]at e;cases e;refine core (λb=>if b=T then some (.ext (TabO T #[])) else none) (λb=>?_) (if_pos rfl) (.inr ⟨_,vs.toArray,_,hk,rfl,rfl,rfl,by rw[Wad,lenV];exact hl,by simpa using rv⟩) (λb u z=>?_) (λb z=>?_) λz=>absurd (if_neg naT) z
  ·by_cases hb:b=T
   ·exact .inr (.inr ⟨hb,if_pos hb⟩)
   ·exact .inl (if_neg hb)
  ·by_cases hb:b=T
   ·have z':=(if_pos hb).symm.trans z
    cases z';subst hb;exact Zhq hT
   ·have z':=(if_neg hb).symm.trans z
    cases z'
  ·by_cases hb:b=T
   ·exact .inr hb
   ·exact absurd (if_neg hb) z
 |none=>
  refine core (λb=>if b=T then some (.ext (TabO T #[])) else if b=a then some (.frz { cls:=.type "list",data:=.seq vs.toArray } (.lst (ns.map V.int))) else none) (λb=>?_) (if_pos rfl) (.inl (.inr ⟨{ cls:=.type "list",data:=.seq vs.toArray },(if_neg naT).trans (if_pos rfl)⟩)) (λb u z=>?_) (λb z=>?_) λ_=>hk
  ·by_cases hb:b=T
   ·exact .inr (.inr ⟨hb,if_pos hb⟩)
   ·by_cases hc:b=a
    ·exact .inr (.inl ⟨_,_,(if_neg hb).trans (if_pos hc)⟩)
    ·exact .inl ((if_neg hb).trans (if_neg hc))
  ·by_cases hb:b=T
   ·have z':=(if_pos hb).symm.trans z
    cases z';subst hb;exact Zhq hT
   ·have z:=(if_neg hb).symm.trans z
    by_cases hc:b=a
    ·have z':=(if_pos hc).symm.trans z
     cases z';subst hc;exact⟨ha,by rw[Wag];exact hl,vs,_,rv,ha⟩
    ·have z':=(if_neg hc).symm.trans z
     cases z'
  ·by_cases hb:b=T
   ·exact .inr hb
   ·by_cases hc:b=a
    ·exact .inl hc
    ·exact absurd ((if_neg hb).trans (if_neg hc)) z
theorem Zms {K:W.Frag}{T:Addr}{H:Hp}{a:Addr}{ns:List Int}(hl:ns.length<=63) (hT:H T=some (.ext (TabO T #[]))) (hne:a≠T) (hS:SqL K H a (ns.map V.int)) :
  spLT K T fLaw [.ref a] H (λv H'=>v=.bl true/\∃ps,H' T=some (.ext (TabO T ps))) λ_ _ _=>False:=by
 refine⟨del H T,[.scr (ns.map .int)],λd=>d=.bl true,λb o e=>(Zet e).2,Zcm,hT,.cons (.scr (vs:=ns.map V.int) ?_ (Reps.ofInts ns)) .nil,⟨ns,rfl,hl,rfl⟩,λr H' d ps _ h2 rr pd=>?_⟩
 ·rcases hS with e|e
  ·refine .inl ?_
   rcases e with e|⟨o,e⟩
   ·exact .inl (by rw[Za3 hne];exact e)
   ·exact .inr ⟨o,by rw[Za3 hne];exact e⟩
  ·exact .inr e
 ·subst pd
  cases rr;exact⟨rfl,ps,h2⟩
theorem walk_lawT {l:PySem.W.OpenLaw}{q:Program}{loose:List Str}{XP:(Str->Option Value)->Heap->Prop}{YP:World->Heap->Prop}{d:DefRec}{K:Params->W.Frag}{k:Nat}{x:Str}{T:Addr}(hr:Room k callerA) (hn:l.most=some 63) (hdf:d.params.defaults=[])
  (hY:∀(w:World) (h:Heap),YP w h->(K w.params).In h) (hT:∀(w:World) (h:Heap),YP w h->h.get? T=some (tabObj #[]))
  (F:∀(w:World) (mg:Str->Option Value) (fa:Addr) (h:Heap),(K w.params).In h->h.Ns mainGlobals mg->mg d.name=some (.ref fa) →
   (K w.params).lookup T=none/\(∃c,codeHdIn (K w.params) c T=true)/\∃fd:FuncData,(∀(s:Shared) (u:Value),BindsTo s fd ⟨[u],[]⟩ [(x,u)]) ∧
    ∀base:Heap,(K w.params).In base->base.Ns mainGlobals mg->base.BuiltinsAt mg T->FnOk l.prog w (K w.params) mg base CX0 k fa fd [x] (spLT (K w.params) T fLaw)) :
  PySem.W.WalkO q loose XP YP l.row.toRowW d [] (λf vs=>PySem.call f vs):=by
 refine Att.attach_call hn hdf λw s₀ s₁ mg mb fa o pm cd doc a vs ns G Y ho hd hcd hmg hobj hints hlen hg=>?_;have KX:=hY w _ Y;obtain⟨hTK,⟨c,hC⟩,fd,hb,hF⟩:=F w mg fa _ KX G.T.g hmg;have hTt:=hT w _ Y;have hBM:s₁.heap.BuiltinsAt mg T:=by
  obtain⟨bm,ob,b1,b2,b3,b4,b5,b6⟩:=G.T.bmain;refine⟨bm,ob,b1,b2,λq=>?_,λq=>?_,b3,b4,b5,b6⟩
  ·obtain⟨o,es,ep,e,hd,_⟩:=G.T.g
   rw[q,e]at b3;cases b3;rw[hd]at b6;cases b6
  ·rw[q,hTt]at b3;cases b3;cases b4
 exact Zia KX G.T.g G.T.b G.T.builtins G.T.nolimit hg hobj hints (Waz hlen (by decide)) hr hTt hTK hC hBM hF hb (λH _ h1 h2 hS=>Zms hlen h1 h2 hS) λH e s'=>λz=>z
end L2
set_option Elab.async false
set_option linter.all false
set_option maxRecDepth 100000
set_option maxHeartbeats 4000000
namespace Lw
open PySem L2
def top (i:Nat):Stmt:=PySem.Challenge.pw_holefloor_k08_no_number_of_an_order.main.body.getD i (.Pass ⟨0,0,0,0⟩)
abbrev s_is_whole:Stmt:=top 18
abbrev s_ends_at:Stmt:=top 20
abbrev s_place_of:Stmt:=top 21
abbrev s_orders_many:Stmt:=top 23
abbrev s_rows_many:Stmt:=top 24
abbrev s_order_at:Stmt:=top 25
abbrev s_row_at:Stmt:=top 26
abbrev s_number_of:Stmt:=top 27
abbrev s_row_number:Stmt:=top 28
abbrev s_law_pen:Stmt:=top 30
abbrev s_law_draw:Stmt:=top 31
abbrev s_law_web:Stmt:=top 32
abbrev s_law_word:Stmt:=top 33
abbrev s_law_told:Stmt:=top 34
abbrev s_law:Stmt:=top 35
theorem sc_is_whole:FnScope ["thing"] ["thing"] (defScope s_is_whole):=⟨rfl,rfl,rfl,by decide +kernel,rfl,by decide +kernel,by decide +kernel⟩
theorem sc_ends_at:FnScope ["web","place"] ["web","place"] (defScope s_ends_at):=⟨rfl,rfl,rfl,by decide +kernel,rfl,by decide +kernel,by decide +kernel⟩
theorem sc_place_of:FnScope ["web","end"] ["web","end"] (defScope s_place_of):=⟨rfl,rfl,rfl,by decide +kernel,rfl,by decide +kernel,by decide +kernel⟩
theorem sc_orders_many:FnScope ["web","product","place"] ["web"] (defScope s_orders_many):=⟨rfl,rfl,rfl,by decide +kernel,rfl,by decide +kernel,by decide +kernel⟩
theorem sc_rows_many:FnScope ["many","product","factor"] ["many"] (defScope s_rows_many):=⟨rfl,rfl,rfl,by decide +kernel,rfl,by decide +kernel,by decide +kernel⟩
theorem sc_order_at:FnScope ["web","number","rows","place","ends","own"] ["web","number"] (defScope s_order_at):=⟨rfl,rfl,rfl,by decide +kernel,rfl,by decide +kernel,by decide +kernel⟩
theorem sc_row_at:FnScope ["ends","number","row","rest","at"] ["ends","number"] (defScope s_row_at):=⟨rfl,rfl,rfl,by decide +kernel,rfl,by decide +kernel,by decide +kernel⟩
theorem sc_number_of:FnScope ["web","order","number","place","row"] ["web","order"] (defScope s_number_of):=⟨rfl,rfl,rfl,by decide +kernel,rfl,by decide +kernel,by decide +kernel⟩
theorem sc_row_number:FnScope ["ends","row","number","rest","end","at"] ["ends","row"] (defScope s_row_number):=⟨rfl,rfl,rfl,by decide +kernel,rfl,by decide +kernel,by decide +kernel⟩
theorem sc_law_pen:FnScope ["_law_script"] ["_law_script"] (defScope s_law_pen):=⟨rfl,rfl,rfl,by decide +kernel,rfl,by decide +kernel,by decide +kernel⟩
theorem sc_law_draw:FnScope ["_law_pen_here","_law_many","_law_digit","_law_at","_law_cell","_law_number"] ["_law_pen_here","_law_many"] (defScope s_law_draw):=⟨rfl,rfl,rfl,by decide +kernel,rfl,by decide +kernel,by decide +kernel⟩
theorem sc_law_web:FnScope ["_law_pen_here","_law_places","_law_ties","_law_many","_law_way","_law_count","_law_found","_law_k","_law_a","_law_b"] ["_law_pen_here","_law_places","_law_ties"] (defScope s_law_web):=⟨rfl,rfl,rfl,by decide +kernel,rfl,by decide +kernel,by decide +kernel⟩
theorem sc_law_word:FnScope ["_law_e","_law_some","_law_found"] ["_law_e"] (defScope s_law_word):=⟨rfl,rfl,rfl,by decide +kernel,rfl,by decide +kernel,by decide +kernel⟩
theorem sc_law_told:FnScope ["_law_asked","_law_found","_law_e"] ["_law_asked"] (defScope s_law_told):=⟨rfl,rfl,rfl,by decide +kernel,rfl,by decide +kernel,by decide +kernel⟩
theorem sc_law:FnScope ["_law_script","_law_pen_here","_law_web_here","_law_many","_law_far","_law_some","_law_thing","!0"] ["_law_script"] (defScope s_law):=⟨rfl,rfl,rfl,by decide +kernel,rfl,by decide +kernel,by decide +kernel⟩
def Mb (mg:Str->Option Value):Prop:=∀x∈["ValueError","abs","bool","divmod","enumerate","int","isinstance","len","min","range","reversed","str","tuple"],mg x=none
structure Cl (K:W.Frag) (mg:Str->Option Value) (c_FloorError c_NoWeb c_NoOrder c_NoNumber c_NoEnd c_NoTie c_NoPlace c_NoTable c_NoRing c_NoPaper c_Apart c_TooMany c_TooGreat c_NoText c_NoName c_NoRow:Addr):Prop where
 n_FloorError:mg "FloorError" = some (.ref c_FloorError)
 e_FloorError:ExcC K c_FloorError
 n_NoWeb:mg "NoWeb" = some (.ref c_NoWeb)
 n_NoOrder:mg "NoOrder" = some (.ref c_NoOrder)
 n_NoNumber:mg "NoNumber" = some (.ref c_NoNumber)
 e_NoNumber:ExcC K c_NoNumber
 n_NoEnd:mg "NoEnd" = some (.ref c_NoEnd)
 n_NoTie:mg "NoTie" = some (.ref c_NoTie)
 n_NoPlace:mg "NoPlace" = some (.ref c_NoPlace)
 n_NoTable:mg "NoTable" = some (.ref c_NoTable)
 n_NoRing:mg "NoRing" = some (.ref c_NoRing)
 n_NoPaper:mg "NoPaper" = some (.ref c_NoPaper)
 n_Apart:mg "Apart" = some (.ref c_Apart)
 n_TooMany:mg "TooMany" = some (.ref c_TooMany)
 n_TooGreat:mg "TooGreat" = some (.ref c_TooGreat)
 n_NoText:mg "NoText" = some (.ref c_NoText)
 n_NoName:mg "NoName" = some (.ref c_NoName)
 n_NoRow:mg "NoRow" = some (.ref c_NoRow)
 i_NoNumber:ExcI K c_NoNumber
 m_NoNumber:PySem.W.mroIn K c_NoNumber (.ref c_FloorError)=some true
 t_NoNumber:PySem.W.kitOne K (.ref c_NoNumber) (.type "ValueError")=some true
 k_NoNumber_Apart:PySem.W.kitOne K (.ref c_NoNumber) (.ref c_Apart)=some false
 k_NoNumber_NoEnd:PySem.W.kitOne K (.ref c_NoNumber) (.ref c_NoEnd)=some false
 k_NoNumber_NoName:PySem.W.kitOne K (.ref c_NoNumber) (.ref c_NoName)=some false
 k_NoNumber_NoNumber:PySem.W.kitOne K (.ref c_NoNumber) (.ref c_NoNumber)=some true
 k_NoNumber_NoOrder:PySem.W.kitOne K (.ref c_NoNumber) (.ref c_NoOrder)=some false
 k_NoNumber_NoPaper:PySem.W.kitOne K (.ref c_NoNumber) (.ref c_NoPaper)=some false
 k_NoNumber_NoPlace:PySem.W.kitOne K (.ref c_NoNumber) (.ref c_NoPlace)=some false
 k_NoNumber_NoRing:PySem.W.kitOne K (.ref c_NoNumber) (.ref c_NoRing)=some false
 k_NoNumber_NoRow:PySem.W.kitOne K (.ref c_NoNumber) (.ref c_NoRow)=some false
 k_NoNumber_NoTable:PySem.W.kitOne K (.ref c_NoNumber) (.ref c_NoTable)=some false
 k_NoNumber_NoText:PySem.W.kitOne K (.ref c_NoNumber) (.ref c_NoText)=some false
 k_NoNumber_NoTie:PySem.W.kitOne K (.ref c_NoNumber) (.ref c_NoTie)=some false
 k_NoNumber_NoWeb:PySem.W.kitOne K (.ref c_NoNumber) (.ref c_NoWeb)=some false
 k_NoNumber_TooGreat:PySem.W.kitOne K (.ref c_NoNumber) (.ref c_TooGreat)=some false
 k_NoNumber_TooMany:PySem.W.kitOne K (.ref c_NoNumber) (.ref c_TooMany)=some false
local macro_rules | `(tactic| walk_at "js")=>`(tactic| first
 |with_reducible refine Zaq (t:=tAsg _ _) ?_
 |with_reducible refine Zaq (t:=tPar _ _ _) ?_
 |with_reducible refine Zaq (t:=tDrop _) ?_
 |with_reducible refine iteF ?_
 |with_reducible refine iteT ?_
 |with_reducible refine Zbx ?_
 |with_reducible refine Za6 ?_
 |with_reducible refine Zec ?_
 |with_reducible refine Zfz ?_
 |with_reducible refine Zar ?_
 |refine Zlz rfl rfl ?_
 |refine Zei rfl rfl ?_
 |with_reducible refine Zbe ?_
 |with_reducible refine Zpy ?_
 |with_reducible refine Zas ?_
 |with_reducible refine Zn7 ?_
 |with_reducible refine Zli ?_
 |with_reducible refine Zcu ?_
 |with_reducible refine Za8 ?_
 |with_reducible refine Zaw ?_
 |refine Zfp rfl rfl ?_
 |refine Zi3 rfl rfl ?_
 |with_reducible refine Zde ?_
 |with_reducible refine Zbw ?_
 |with_reducible refine Znz ?_
 |with_reducible refine Zev ?_
 |with_reducible refine Zpk ?_
 |with_reducible refine Zpt ?_
 |with_reducible refine Zjq ?_
 |with_reducible refine Zdx ?_
 |with_reducible refine Zdj ?_
 |with_reducible refine Zah ?_
 |with_reducible refine Zab ?_
 |with_reducible refine Zb0 ?_
 |with_reducible refine Zi0 ?_
 |with_reducible refine Zll ?_
 |with_reducible refine Zfb ?_
 |with_reducible refine Zdq ?_
 |with_reducible refine Zmi ?_
 |with_reducible refine Zeb ?_
 |with_reducible refine Zpv ?_
 |with_reducible refine Ziv ?_
 |with_reducible refine Zg4 ?_
 |with_reducible refine Zp1 ?_
 |with_reducible refine Zof ?_
 |with_reducible refine Zk1 ?_
 |with_reducible refine Zbs ?_
 |refine Zae rfl ?_
 |refine Zcz rfl ?_
 |refine Zge rfl ?_
 |refine Zcc (Or.inl rfl) ?_
 |refine Zcc (Or.inr rfl) ?_
 |refine Ze6 (Or.inl rfl) ?_
 |refine Ze6 (Or.inr rfl) ?_
 |refine Zk7 (Or.inl rfl) ?_
 |refine Zk7 (Or.inr rfl) ?_
 |refine Zkl ?_
 |refine⟨⟨_,_,rfl,rfl⟩,?_⟩
 |refine⟨_,_,_,_,rfl,rfl,rfl,rfl,?_⟩
 |refine⟨_,rfl,?_⟩
 |refine jr_I (by first|(show (0:Int)<_;omega)|exact⟨by omega,by omega⟩|exact Or.inl ⟨by omega,by omega⟩|exact Or.inr ⟨by omega,by omega⟩|exact⟨by decide,by decide,by decide⟩) ?_)
local macro_rules | `(tactic| walk_at "draw")=>`(tactic| first|refine Zcb rfl rfl (by assumption) (by omega) (by omega) λ_ _ _ _ _=>?_|refine⟨_,_,rfl,rfl,by assumption,_,rfl,by omega,by omega,λ_ _ _ _ _=>?_⟩)
def Pen (ps:List D):Prop:=∃(cs:List Int) (at_ num:Int),ps=[.lst (cs.map .int),.int at_,.int num]/\0<=at_/\0<=num/\cs.length<=63
def fDraw:BSp:=λps ds Post=>Pen ps/\∃m:Int,ds=[.int m]/\1<=m/\m<=100000000000000000000000000000000000000000000000000000000000/\∀r ps',Pen ps' -> 0<=r->r<m->Post (.int r) ps'
abbrev LendQ (f:BSp) (i:Nat) (P:D->Evt->Prop):List D->Evt->Prop:=λds Δ1=>∃y ps,Δ1[i]?=some y/\y.od=some (.lst ps)/\f ps ds λd ps'=>P d (Δ1.set i (y.put (.lst ps')))
theorem Zfp {K:W.Frag}{Δ:Evt}{P:D->Evt->Prop}{f:BSp}{ta:TA}{E:XK}{i:Nat}{x:Slot}{od:OD}(hx:Δ[i]?=some x) (ho:x.od=some od) (h:JA K ta Δ (LendQ f i P)):JE K (tCall (spB K f) [] E (tCons (tVar i) ta)) Δ P:=Zi3 hx ho h
theorem Zcb {Δ1:Evt}{i:Nat}{y:Slot}{ps:List D}{m:Int}{P:D->Evt->Prop}(hx:Δ1[i]?=some y) (ho:y.od=some (.lst ps)) (hp:Pen ps) (h1:1<=m) (h2:m<=100000000000000000000000000000000000000000000000000000000000) (h:∀r ps',Pen ps' -> 0<=r->r<m->P (.int r) (Δ1.set i (y.put (.lst ps')))) :
  LendQ fDraw i P [.int m] Δ1:=⟨y,ps,hx,ho,hp,m,rfl,h1,h2,h⟩
theorem Zp8 {K:W.Frag}{Δ:Evt}{E:XK}{i:Nat}{y:Slot}{ps:List D}{m:Int}{P:D->Evt->Prop}(hx:Δ[i]?=some y) (ho:y.od=some (.lst ps)) (hp:Pen ps) (h1:1<=m) (h2:m<=100000000000000000000000000000000000000000000000000000000000) (h:∀r ps',Pen ps' -> 0<=r->r<m->P (.int r) (Δ.set i (y.put (.lst ps')))) :
  JE K (tCall (spB K fDraw) [] E (tCons (tVar i) (tCons (tC (.int m)) tNil))) Δ P:=Zfp hx ho (Zab (Zas (Zah (Zcb hx ho hp h1 h2 h))))
section
variable {P:Program}{w:World}{K:W.Frag}{mg:Str->Option Value}{base:Heap}{f:Addr}{fd:FuncData}
theorem Zl3 (mb:Mb mg) (F:Fun K "_law_draw" "_law_draw" s_law_draw f fd):FnOk P w K mg base CX0 1 f fd ["_law_pen_here","_law_many"] (spB K fDraw):=by
 refine F.ok sc_law_draw (Zid λps ds Post h=>by obtain⟨_,m,rfl,_⟩:=h;rfl) (λcdv A outer s H vs Q E hr h=>?_);have hu:=Zb7 hr;refine⟨_,(Zad (Zc7 (Za7 Zn3 (Zb6 (ixK K hu) (pv 0) Zaf (λ_ _=>rfl)) Zaf (nomark _)) (Zad (Zao (i:=2) sc_law_draw.nd rfl (Or.inl rfl) (Zap Zbr (Zb6 (ixK K hu) (pv 0) Zaf (λ_ _=>rfl)) (pv 1))) (Zad (Zfw (Zap Zep (Zb6 (ixK K hu) (pv 0) Zaf (λ_ _=>rfl)) (pv 1)) (Zhv (pv 0) Zaf (setU hu))) (Zam (Za4 (pv 2))))) Zbc) (Zad (Zao (i:=3) sc_law_draw.nd rfl (Or.inl rfl) (Zb6 (ixK K hu) (pv 0) Zaf (λ_ _=>rfl))) (Zad (Zfw (Zap (addK K) (pv 3) Zaf) (Zhv (pv 0) Zaf (setU hu))) (Zad (Zao (i:=4) sc_law_draw.nd rfl (Or.inl rfl) Zaf) (Zad (Zc7 (Za7 Zn3 (Zal (lenK K) rfl (mb "len" (by decide)) Zb8 (Zaa (Zb6 (ixK K hu) (pv 0) Zaf (λ_ _=>rfl)) Zac)) Zaf (nomark _)) (Zam (Zao (i:=4) sc_law_draw.nd rfl (Or.inl rfl) (Zb6 (ixK K hu) (Zb6 (ixK K hu) (pv 0) Zaf (λ_ _=>rfl)) (Zap Zbr (pv 3) (Zal (lenK K) rfl (mb "len" (by decide)) Zb8 (Zaa (Zb6 (ixK K hu) (pv 0) Zaf (λ_ _=>rfl)) Zac))) (λ_ _=>rfl)))) Zbc) (Zad (Zc7 (PW.pt (pw_and (Za7 Zlr (pv 3) (Zal (lenK K) rfl (mb "len" (by decide)) Zb8 (Zaa (Zb6 (ixK K hu) (pv 0) Zaf (λ_ _=>rfl)) Zac)) (nomark _)) (pw_and1 (Za7 Zp0 (Zal Zeq rfl (mb "abs" (by decide)) Zi7 (Zaa (pv 4) Zac)) (Zap Zk2 Zaf Zaf) (nomark _))))) (Zad (Zfw (Zap Zep (Zal Zeq rfl (mb "abs" (by decide)) Zi7 (Zaa (pv 4) Zac)) (pv 1)) (Zhv (pv 0) Zaf (setU hu))) (Zam (Za4 (Zap Zbr (Zal Zeq rfl (mb "abs" (by decide)) Zi7 (Zaa (pv 4) Zac)) (pv 1))))) Zbc) (Zad (Zao (i:=5) sc_law_draw.nd rfl (Or.inl rfl) (Zap Zbr (Zap Zdh (Zap (addK K) (Zap (addK K) (Zap Zbr (pv 4) Zaf) (Zap Zdh Zaf (pv 3))) Zaf) Zaf) Zaf)) (Zad (Zao (i:=5) sc_law_draw.nd rfl (Or.inl rfl) (Zap Zbr (Zap (addK K) (Zap (addK K) (Zap Zdh (pv 5) (pv 5)) (Zap Zdh Zaf (pv 5))) (pv 3)) Zaf)) (Zam (Za4 (Zap Zbr (Zap Zep (Zap Zbr (Zap Zdh (pv 5) Zaf) Zaf) Zaf) (pv 1)))))))))))),Zn8 (λps ds Post hf=>?_) h⟩;obtain⟨⟨cs,at_,num,rfl,h1,h2,h3⟩,m,rfl,h4,h5,q⟩:=hf;refine⟨by simp,?_⟩;dsimp only[cxOf,startD,Wbi,Wbn,Wa5,Wao];refine Zba (λΔ=>¬ 0<num /\ Δ = [.bor (.lst [.lst (cs.map .int),.int at_,.int num]),.val (.int m),.any,.any,.any,.any]) ?_ ?_
 ·repeat walk_at "js"
  refine ite2 (λc=>?_) (λc=>?_)
  ·have c:=of_decide_eq_true c
   repeat walk_at "js"
   exact q _ _ ⟨cs,at_,num / m,rfl,h1,Int.ediv_nonneg h2 (by omega),h3⟩ (Wb0 _ (by omega)) (Wbr _ (by omega))
  ·repeat walk_at "js"
   exact⟨of_decide_eq_false (Bool.eq_false_iff.mpr c),rfl⟩
 rintro Δ1 ⟨hn,rfl⟩
 repeat walk_at "js"
 refine Zba (λΔ=>∃c:Int,Δ = [.bor (.lst [.lst (cs.map .int),.int (at_+1),.int num]),.val (.int m),.any,.val (.int at_),.val (.int c),.any]) ?_ ?_
 ·repeat walk_at "js"
  refine ite2 (λc=>?_) (λc=>?_)
  ·have c:=of_decide_eq_true c
   rw[Wag]at c
   repeat walk_at "js"
   rw[Wag]
   repeat walk_at "js"
   obtain⟨cell,_,hc⟩:=Zmf (f:=D.int) (xs:=cs) (i:=at_ % (cs.length:Int)) (Wb0 _ (by omega)) (Wbr _ (by omega));refine Zge hc ?_;exact⟨cell,rfl⟩
  ·repeat walk_at "js"
   exact⟨11,rfl⟩
 rintro Δ1 ⟨cell,rfl⟩;refine Zba (λΔ=>Δ = [.bor (.lst [.lst (cs.map .int),.int (at_+1),.int num]),.val (.int m),.any,.val (.int at_),.val (.int cell),.any]) ?_ ?_
 ·repeat walk_at "js"
  refine ite2 (λc=>?_) (λc=>?_)
  ·repeat walk_at "js"
   refine ite2 (λc=>?_) (λc=>?_)
   ·repeat walk_at "js"
    have ha:0<=(if cell<0 then -cell else cell):=by split <;> omega
    exact q _ _ ⟨cs,at_+1,_,rfl,by omega,Int.ediv_nonneg ha (by omega),h3⟩ (Wb0 _ (by omega)) (Wbr _ (by omega))
   ·repeat walk_at "js"
    rfl
  ·repeat walk_at "js"
   rfl
 rintro Δ1 rfl
 repeat walk_at "js"
 exact q _ _ ⟨cs,at_+1,num,rfl,by omega,h2,h3⟩ (Wb0 _ (by omega)) (Wbr _ (by omega))
end
def fPen:NSp:=λds Post=>∃ns:List Int,ds=[.scr (ns.map .int)]/\ns.length<=63/\∀ps,Pen ps->Post ps
section
variable {P:Program}{w:World}{K:W.Frag}{mg:Str->Option Value}{base:Heap}{f:Addr}{fd:FuncData}
theorem Zox (mb:Mb mg) (F:Fun K "_law_pen" "_law_pen" s_law_pen f fd):FnOk P w K mg base CX0 1 f fd ["_law_script"] (spN K fPen):=by
 refine F.ok sc_law_pen (Zik λds Post h=>by obtain⟨ns,rfl,_⟩:=h;rfl) (λcdv A outer s H vs Q E hr h=>?_);have hu:=Zb7 hr;refine⟨_,(Zam (Za4 (Zbm (Zaa (Zgl ["_law_cell"] (show CompSc (defScope s_law_pen) ["_law_script"] _ [] [] from ⟨rfl,by decide +kernel,by decide +kernel,by decide +kernel,rfl,by decide +kernel⟩) rfl (seqK K (Zcq (slK K) (pv 0) Zdw (Zcw Zaf))) (λ_ _ _ _ _=>(Za0 (i:=0) (show List.Nodup (["_law_cell"]:List Str) from by decide) rfl (Or.inl rfl))) (λ_ _ _ _ _=>Zmt) (λ_ _ _ _ _=>(pv 0))) (Zaa Zaf (Zaa Zaf Zac)))))),Zol (λds Post hf=>?_) h⟩;obtain⟨ns,rfl,h1,q⟩:=hf;refine⟨by simp,?_⟩;dsimp only[cxOf,startD,Wbi,Wbn,Wa5,Wao];refine Zii (Zh3 (Zab (Zkg (by decide) (Zlh ?_))))
 repeat walk_at "js"
 have e:cutD (ns.map D.int) none (some 63)=ns.map D.int:=by
  unfold cutD;have e1:HT.sIx (ns.map D.int).length 0 none=0:=rfl;have e2:HT.sIx (ns.map D.int).length (ns.map D.int).length (some 63)=ns.length:=by
   rw[Wag];show min (Int.toNat 63) ns.length=_;omega
  rw[e1,e2,List.drop_zero,Nat.sub_zero,Wci (by simp)]
 rw[e];refine⟨_,Or.inl rfl,by rw[Wag];exact Wbd h1 (by decide),λ_=>true,λd=>d,λi d hd=>?_,?_⟩
 ·repeat walk_at "js"
  exact⟨rfl,Zae rfl ⟨rfl,_,rfl⟩⟩
 ·repeat walk_at "js"
  refine⟨by show 3<=sizeLine;decide,_,rfl,q _ ⟨ns,0,0,?_,by decide,by decide,h1⟩⟩;simp
end
def encTie (t:Int × Int):D:=.tup [.int t.1,.int t.2]
def encWeb (n:Int) (ts:List (Int × Int)):D:=.tup [.int n,.tup (ts.map encTie)]
structure WebOk (n:Int) (ts:List (Int × Int)):Prop where
 lo:1<=n
 hi:n<=25
 len:ts.length<=24
 tie:∀t∈ts,0<=t.1/\t.1<n/\0<=t.2/\t.2<n
def fWeb:BSp:=λps ds Post=>Pen ps/\∃a b:Int,ds=[.int a,.int b]/\1<=a/\a<=25/\0<=b/\b<=24/\∀n ts ps',Pen ps' -> WebOk n ts->n<=a->(ts.length:Int)<=b->Post (encWeb n ts) ps'
theorem Zpw {Δ1:Evt}{i:Nat}{y:Slot}{ps:List D}{a b:Int}{P:D->Evt->Prop}(hx:Δ1[i]?=some y) (ho:y.od=some (.lst ps)) (hp:Pen ps) (h1:1<=a) (h2:a<=25) (h3:0<=b) (h4:b<=24) (h:∀n ts ps',Pen ps' -> WebOk n ts->n<=a->(ts.length:Int)<=b->P (encWeb n ts) (Δ1.set i (y.put (.lst ps')))) :
  LendQ fWeb i P [.int a,.int b] Δ1:=⟨y,ps,hx,ho,hp,a,b,rfl,h1,h2,h3,h4,h⟩
theorem Zjl:2<=sizeLine:=by decide
theorem Zfd {K:W.Frag}{Δ:Evt}{i:Nat}{v c:Int}{P:Bool->Evt->Prop}(hx:Δ[i]?=some (.val (.int v))) (h1:v=c->P true Δ) (h2:¬ v=c->P false Δ):JT K (tTest (tOp rEq (tVar i) (tC (.int c)))) Δ P:=
 Zb0 (Zbe (Zae hx (Zas (Zg4 ⟨_,rfl,by
  by_cases h:v=c
  ·rw[decide_eq_true h];exact h1 h
  ·rw[decide_eq_false h];exact h2 h⟩))))
def wSt (py:List D) (a b n way k:Int) (fs:List D) (i u v:Int):Evt:=[.bor (.lst py),.val (.int a),.val (.int b),.val (.int n),.val (.int way),.val (.int k),.own (.lst fs),.val (.int i),.val (.int u),.val (.int v)]
def wQ (py:List D) (a b n way k:Int) (fs:List D) (i:Int):Evt->Prop:=λΔ=>∃u v:Int,0<=u/\u<n/\0<=v/\v<n /\ Δ = wSt py a b n way k fs i u v
def wR (py:List D) (a b n way k:Int) (fs:List D) (i:Int):Evt->Prop:=λΔ=>∃u v:Int,0<=u/\u<n/\0<=v /\ Δ = wSt py a b n way k fs i u v
def wL (a b n way k:Int) (i:Nat):Evt->Prop:=λΔ=>∃(ps:List D) (ts:List (Int × Int)) (x7 x8 x9:Slot),Pen ps/\ts.length=i/\(∀t∈ts,0<=t.1/\t.1<n/\0<=t.2/\t.2<n) /\ Δ = [.bor (.lst ps),.val (.int a),.val (.int b),.val (.int n),.val (.int way),.val (.int k),.own (.lst (ts.map encTie)),x7,x8,x9]
section
variable {P:Program}{w:World}{K:W.Frag}{mg:Str->Option Value}{base:Heap}{f:Addr}{fd:FuncData}
theorem Zor (mb:Mb mg) (C16:Callee P w K mg base 1 "_law_draw" ["_law_pen_here","_law_many"] (spB K fDraw)) (F:Fun K "_law_web" "_law_web" s_law_web f fd):FnOk P w K mg base CX0 2 f fd ["_law_pen_here","_law_places","_law_ties"] (spB K fWeb):=by
 refine F.ok sc_law_web (Zid λps ds Post h=>by obtain⟨_,a,b,rfl,_⟩:=h;rfl) (λcdv A outer s H vs Q E hr h=>?_);have hu:=Zb7 hr;refine⟨_,(Zad (Zao (i:=3) sc_law_web.nd rfl (Or.inl rfl) (Zap (addK K) Zaf (Zbb C16 (hr.mono (by decide)) (Zaa (pv 0) (Zaa (pv 1) Zac))))) (Zad (Zao (i:=4) sc_law_web.nd rfl (Or.inl rfl) (Zbb C16 (hr.mono (by decide)) (Zaa (pv 0) (Zaa Zaf Zac)))) (Zad (Zao (i:=5) sc_law_web.nd rfl (Or.inl rfl) (Zbb C16 (hr.mono (by decide)) (Zaa (pv 0) (Zaa (Zap (addK K) (pv 2) Zaf) Zac)))) (Zad (Zc7 (Za7 Zcf (pv 4) Zaf (nomark _)) (Zad (Zao (i:=3) sc_law_web.nd rfl (Or.inl rfl) (pv 1)) (Zam (Zao (i:=5) sc_law_web.nd rfl (Or.inl rfl) (pv 2)))) Zbc) (Zad (Zao (i:=6) sc_law_web.nd rfl (Or.inl rfl) (Zbm Zac)) (Zad (Zdm PassesOwn.never rfl (Zdr rfl (mb "range" (by decide)) (Zaa (pv 5) Zac)) (Za0 (i:=7) sc_law_web.nd rfl (Or.inl rfl)) (Zad (Zk0 (i:=8) (j:=9) rfl sc_law_web.nd rfl rfl (by decide) rfl rfl (Zaa (Zbb C16 (hr.mono (by decide)) (Zaa (pv 0) (Zaa (pv 3) Zac))) (Zaa (Zbb C16 (hr.mono (by decide)) (Zaa (pv 0) (Zaa (pv 3) Zac))) Zac)) rfl) (Zad (Zc7 (Za7 Zcf (pv 4) Zaf (nomark _)) (Zam (Zk0 (i:=8) (j:=9) rfl sc_law_web.nd rfl rfl (by decide) rfl rfl (Zaa (Zap Zbr (pv 7) (pv 3)) (Zaa (Zap Zbr (Zap (addK K) (pv 7) Zaf) (pv 3)) Zac)) rfl)) Zbc) (Zad (Zc7 (Za7 Zcf (pv 4) Zaf (nomark _)) (Zam (Zao (i:=8) sc_law_web.nd rfl (Or.inl rfl) Zaf)) Zbc) (Zad (Zc7 (Za7 Zcf (pv 4) Zaf (nomark _)) (Zam (Zao (i:=9) sc_law_web.nd rfl (Or.inl rfl) (Zap (addK K) (Zap Zbr (pv 8) Zaf) (Zap Zdh (Zap Zjd (pv 9) Zaf) Zaf)))) Zbc) (Zad (Zc7 (PW.pt (pw_and (Za7 Zcf (pv 4) Zaf (nomark _)) (pw_and1 (Za7 Zcf (Zap Zbr (pv 9) Zaf) Zaf (nomark _))))) (Zam (Zao (i:=9) sc_law_web.nd rfl (Or.inl rfl) (pv 8))) Zbc) (Zam (Ze0 (bmK K PySem.F.plainAttrs_list PySem.F.slot_list_append PySem.F.type_list_append Zcg (pv 6) (Zaa (Zaz (Zaa (pv 8) (Zaa (Zal (Ziy rfl) rfl (mb "min" (by decide)) Zpb (Zaa (pv 9) (Zaa (Zap Zco (pv 3) Zaf) Zac))) Zac))) Zac)))))))))) (Zam (Za4 (Zaz (Zaa (pv 3) (Zaa (Zck (tupK K) rfl (mb "tuple" (by decide)) Zed (Zaa (pv 6) Zac)) Zac))))))))))),Zn8 (λps ds Post hf=>?_) h⟩;obtain⟨hp,a,b,rfl,h1,h2,h3,h4,q⟩:=hf;refine⟨by simp,?_⟩;dsimp only[cxOf,startD,Wbi,Wbn,Wa5,Wao];refine Zaq (Zar (Zbe (Zas (Zfp rfl rfl (Zab (Zae rfl (Zah (Zcb (m:=a) rfl rfl hp h1 (Int.le_trans h2 (by decide)) λr0 ps0 hp0 hr0 hs0=>Zeb ?_))))))));refine Zaq (Zar (Zp8 rfl rfl hp0 (by decide) (by decide) λway ps1 hp1 hw0 hw1=>?_));refine Zaq (Zar (Zfp rfl rfl (Zab (Zc6 (Zbd (Zay rfl) Zau Zdl) (Zah (Zcb (m:=b+1) rfl rfl hp1 (Int.add_le_add h3 (Wcq 1)) (Int.le_trans (Int.add_le_add h4 (Wcq 1)) (by decide)) λcnt ps2 hp2 hc0 hc1=>?_))))));refine Zba (λΔ=>∃n k:Int,1<=n/\n<=a/\0<=k/\k<=b /\ Δ = [.bor (.lst ps2),.val (.int a),.val (.int b),.val (.int n),.val (.int way),.val (.int k),.any,.any,.any,.any]) ?_ ?_
 ·refine Zec (Zfd rfl (λc=>iteT ?_) (λc=>iteF (Zbx ⟨1+r0,cnt,Int.le_add_of_nonneg_right hr0,by omega,hc0,Int.le_of_lt_add_one hc1,rfl⟩)))
  exact Zaq (Zar (Zae rfl (Zar (Zae rfl ⟨a,b,h1,Wcq _,h3,Wcq _,rfl⟩))))
 rintro Δ1 ⟨n,k,hn0,hn1,hk0,hk1,rfl⟩;have hn2:0<n:=Int.lt_of_lt_of_le (by decide) hn0;have hn3:n≠0:=Int.ne_of_gt hn2;refine Zaq (Zcv (Zh3 (Zah ⟨by decide,?_⟩)));refine Zba (wL a b n way k k.toNat) ?_ ?_
 ·refine Zdf (Zdn (Zab (Zae rfl (Zah ⟨_,rfl,by omega,by omega,?_⟩))))
  refine⟨wL a b n way k,⟨ps2,[],.any,.any,.any,hp2,rfl,λ_ h=>(nomatch h),rfl⟩,?_,λΔ2 h=>by rw[Zce]at h;exact h⟩;rintro i d Δ2 hd ⟨ps,ts,x7,x8,x9,hp',hl,ht,rfl⟩;obtain⟨hi,rfl⟩:=Zcj hd;generalize (0+(i:Int))=I;refine Zbs (Zaq (Zfz (Zab (Zfp rfl rfl (Zab (Zae rfl (Zah (Zcb (m:=n) rfl rfl hp' hn0 (by omega) λx px hpx hx0 hx1=>?_))))))));refine Zab (Zfp rfl rfl (Zab (Zae rfl (Zah (Zcb (m:=n) rfl rfl hpx hn0 (by omega) λy py hpy hy0 hy1=>Zah ⟨_,_,rfl,?_⟩)))));refine Zba (wQ py a b n way k (ts.map encTie) I) ?_ ?_
  ·refine Zec (Zfd rfl (λc=>iteT ?_) (λc=>iteF (Zbx ⟨x,y,hx0,hx1,hy0,hy1,rfl⟩)))
   exact Zfz (Zo5 (Zan (Zbd (Zay rfl) (Zay rfl) (pr_I hn2)) (Zan (Zbd (Zbd (Zay rfl) Zau Zdl) (Zay rfl) (pr_I hn2)) Zbu)) ⟨_,_,rfl,_,_,Wb0 _ hn3,Wbr _ hn2,Wb0 _ hn3,Wbr _ hn2,rfl⟩)
  rintro Δ3 ⟨u,v,hu0,hu1,hv0,hv1,rfl⟩;refine Zba (wQ py a b n way k (ts.map encTie) I) ?_ ?_
  ·exact Zec (Zfd rfl (λc=>iteT (Zar (Zas ⟨0,v,Wcq _,hn2,hv0,hv1,rfl⟩))) (λc=>iteF (Zbx ⟨u,v,hu0,hu1,hv0,hv1,rfl⟩)))
  rintro Δ3 ⟨u,v,hu0,hu1,hv0,hv1,rfl⟩;refine Zba (wR py a b n way k (ts.map encTie) I) ?_ ?_
  ·refine Zec (Zfd rfl (λc=>iteT ?_) (λc=>iteF (Zbx ⟨u,v,hu0,hu1,hv0,rfl⟩)))
   exact Zar (Zc6 (Zbd (Zbd (Zay rfl) Zau (pr_I (show (0:Int)<2 by decide))) (Zbd (Zbd (Zay rfl) Zau (pr_I ⟨by decide,by decide⟩)) Zau (pr_I (Or.inr ⟨by decide,by decide⟩))) Zdl) ⟨u,_,hu0,hu1,by omega,rfl⟩)
  rintro Δ3 ⟨u,v,hu0,hu1,hv0,rfl⟩;refine Zba (wR py a b n way k (ts.map encTie) I) ?_ ?_
  ·refine Zec (Zi0 (Zfd rfl (λc=>iteT ?_) (λc=>iteF (iteF (Zbx ⟨u,v,hu0,hu1,hv0,rfl⟩)))))
   refine Zb0 (Zbe (Zc6 (Zbd (Zay rfl) Zau (pr_I (show (0:Int)<2 by decide))) (Zas (Zg4 ⟨_,rfl,ite2 (λc=>?_) (λc=>Zbx ⟨u,v,hu0,hu1,hv0,rfl⟩)⟩))));exact Zar (Zae rfl ⟨u,u,hu0,hu1,hu0,rfl⟩)
  rintro Δ3 ⟨u,v,hu0,hu1,hv0,rfl⟩;refine Zh9 rfl rfl (Zde (Zab (Zae rfl (Zab (Za8 (Zab (Zae rfl (Zab (Zc6 (Zbd (Zay rfl) Zau Zek) (Zah (Zk1 (Zah ?_))))))))))));refine⟨Zjl,_,_,rfl,rfl,?_,py,ts++[(u,if n-1<v then n-1 else v)],.val (.int I),.val (.int u),.val (.int v),hpy,by rw[Wan,hl];rfl,λt h=>?_,?_⟩
  ·rw[Wag];exact small1000 (by omega)
  ·rcases Wbb.mp h with h|h
   ·exact ht t h
   ·rw[Wcr.mp h]
    refine⟨hu0,hu1,?_,?_⟩
    ·show 0<=(if n-1<v then n-1 else v);split <;> omega
    ·show (if n-1<v then n-1 else v)<n;split <;> omega
  ·rw[Wbv];rfl
 rintro Δ1 ⟨ps3,ts,x7,x8,x9,hp3,hl,ht,rfl⟩;refine Za6 (Zde (Zab (Zae rfl (Zab (Za8 (Zab (Zf3 rfl (Zah (Ze6 (Or.inl rfl) (Zah ⟨Zjl,?_⟩))))))))));exact⟨_,rfl,q n ts _ hp3 ⟨hn0,by omega,by omega,ht⟩ hn1 (by omega)⟩
end
def placeAt (ts:List (Int × Int)) (e:Nat):Int:=match ts[e / 2]? with
 |some t=>if e % 2=0 then t.1 else t.2
 |none=>-1
def encRow (r:List Int):D:=.tup (r.map .int)
def encOrd (o:List (List Int)):D:=.tup (o.map encRow)
def endsBelow (ts:List (Int × Int)) (m:Nat) (p:Int):List Int:=((Wa2 m).filter λe=>decide (placeAt ts e=p)).map λe:Nat=>(e:Int)
structure RowOk (ts:List (Int × Int)) (m:Nat) (p:Int) (r:List Int):Prop where
 perm:r.Perm (endsBelow ts m p)
 first:r.head?=(endsBelow ts m p).head?
structure OrdOk (n:Int) (ts:List (Int × Int)) (o:List (List Int)):Prop where
 len:(o.length:Int)=n
 row:∀(p:Nat) r,o[p]?=some r->RowOk ts (2*ts.length) (p:Int) r
theorem Zeo (ts:List (Int × Int)) (m:Nat) (p:Int):(endsBelow ts m p).length<=m:=by
 unfold endsBelow;rw[Wag];exact Waz (List.length_filter_le _ _) (by rw[Wcu];exact Wac _)
theorem Znq {ts:List (Int × Int)}{k:Nat}(h:k<2*ts.length):∃t,ts[k / 2]?=some t/\atI (ts.map encTie) ((0+(k:Int)) / 2)=some (encTie t)/\atI [D.int t.1,D.int t.2] ((0+(k:Int)) % 2)=some (.int (placeAt ts k)):=by
 have hk:k / 2<ts.length:=by omega
 refine⟨ts[k / 2],Wab hk,?_,?_⟩
 ·have e:(0+(k:Int)) / 2=((k / 2:Nat):Int):=by omega
  rw[e];exact Zef (by rw[Wal,Wab hk];rfl)
 ·have e2:placeAt ts k=if k % 2=0 then ts[k / 2].1 else ts[k / 2].2:=by
   unfold placeAt;rw[Wab hk]
  rw[e2];have e:(0+(k:Int)) % 2=((k % 2:Nat):Int):=by omega
  rw[e];by_cases h0:k % 2=0
  ·rw[if_pos h0,h0];exact Zef rfl
  ·have h1:k % 2=1:=by omega
   rw[if_neg h0,h1];exact Zef rfl
theorem Ze2 {ts:List (Int × Int)}{m:Nat}{p x:Int}:x∈endsBelow ts m p ↔ ∃e:Nat,e<m/\placeAt ts e=p/\(e:Int)=x:=by
 unfold endsBelow;rw[Wbt];constructor
 ·rintro⟨e,he,rfl⟩
  rw[Wbu,Wbj]at he;exact⟨e,he.1,of_decide_eq_true he.2,rfl⟩
 ·rintro⟨e,h1,h2,rfl⟩
  exact⟨e,by rw[Wbu,Wbj];exact⟨h1,decide_eq_true h2⟩,rfl⟩
theorem Zbg (ts:List (Int × Int)) (m:Nat) (p:Int):(endsBelow ts m p).Nodup:=by
 unfold endsBelow;refine List.Pairwise.map _ (λa b h=>?_) (List.Pairwise.filter _ List.nodup_range);intro e;exact h (by omega)
theorem Zew {r:List Int}{x:Int}(h:x∈r):r.idxOf x<r.length/\r[r.idxOf x]?=some x/\∀m,m<r.idxOf x->r[m]?≠some x:=by
 have hl:=List.idxOf_lt_length_of_mem h;refine⟨hl,?_,λm hm e=>?_⟩
 ·rw[Wab hl,List.getElem_idxOf hl]
 ·obtain⟨h1,h2⟩:=Wai.mp e
  have:=List.not_of_lt_findIdx (p:=(· == x)) (xs:=r) hm;rw[h2]at this;simp at this
theorem Zd6 {α:Type}[DecidableEq α]:∀{l m:List α},l.Nodup->(∀x∈l,x∈m)->l.length<=m.length
 |[],_,_,_=>Wcg _
 |x::l,m,nd,h=>by
  rw[Wbs]at nd;have hx:=h x Wa7;have:=Zd6 (l:=l) (m:=m.erase x) nd.2 λy hy=>by
   have hne:y≠x:=λe=>nd.1 (e ▸ hy);exact(List.mem_erase_of_ne hne).mpr (h y (Wax _ hy))
  rw[List.length_erase_of_mem hx]at this;have hpos:0<m.length:=List.length_pos_of_mem hx;rw[Way];omega
theorem Zjr (ds:List D) {j:Nat}(h:j<=ds.length):cutD ds (some (j:Int)) none=ds.drop j:=by
 unfold cutD;rw[HT.sIx_nat,HT.sIx_none,Nat.min_eq_left h,Wci (by rw[Wbh];exact Wac _)]
theorem Znt (ds:List D) {j:Nat}(h:j<=ds.length):cutD ds none (some (j:Int))=ds.take j:=by
 unfold cutD;rw[HT.sIx_nat,HT.sIx_none,Nat.min_eq_left h,List.drop_zero,Nat.sub_zero]
section
variable {P:Program}{w:World}{K:W.Frag}{mg:Str->Option Value}{base:Heap}{f:Addr}{fd:FuncData}
def fPlace:DSp:=λds Post=>∃n ts,∃e:Nat,ds=[encWeb n ts,.int e]/\e<2*ts.length/\Post (.int (placeAt ts e))
def fWhole:DSp:=λds Post=>∃e:Int,ds=[.int e]/\Post (.bl true)
theorem Zgq (mb:Mb mg) (F:Fun K "place_of" "place_of" s_place_of f fd):FnOk P w K mg base CX0 1 f fd ["web","end"] (spD K fPlace):=by
 refine F.ok sc_place_of (Zbp λds Post h=>by obtain⟨_,_,_,rfl,_⟩:=h;rfl) (λcdv A outer s H vs Q E hr h=>?_);have hu:=Zb7 hr;refine⟨_,(Zam (Za4 (Zb6 (ixK K hu) (Zb6 (ixK K hu) (Zb6 (ixK K hu) (pv 0) Zaf (λ_ _=>rfl)) (Zap Zjd (pv 1) Zaf) (λ_ _=>rfl)) (Zap Zbr (pv 1) Zaf) (λ_ _=>rfl)))),Zdz (λds Post hf=>?_) h⟩;obtain⟨n,ts,e,rfl,he,q⟩:=hf;refine⟨by simp,?_⟩;dsimp only[startD,Wbi,Wbn,Wa5];obtain⟨t,h1,h2,h3⟩:=Znq he;rw[Wcb]at h2 h3;refine Za6 (Zbe (Zbe (Zbe (Zae rfl (Zas (Zcz (d:=.tup (ts.map encTie)) rfl ?_))))));refine Zbe (Zae rfl (Zas (jr_I ⟨by omega,by omega⟩ (Zcz h2 ?_))));exact Zbe (Zae rfl (Zas (jr_I (by show (0:Int)<2;omega) (Zcz h3 q))))
def fEnds:NSp:=λds Post=>∃n ts,∃p:Int,ds=[encWeb n ts,.int p]/\ts.length<=24/\Post ((endsBelow ts (2*ts.length) p).map .int)
theorem Zf2 (ts:List (Int × Int)) (m:Nat) (p:Int) (q:D->Bool) (hq:∀k:Nat,q (.int (0+(k:Int)))=decide (placeAt ts k=p)):(rngD 0 m).filter q=(endsBelow ts m p).map .int:=by
 unfold rngD endsBelow;rw[List.filter_map,Wcy];have e:(q∘λi:Nat=>D.int (0+(i:Int)))=λe=>decide (placeAt ts e=p):=by
  funext k;exact hq k
 rw[e];apply List.map_congr_left;intro k _;show D.int (0+(k:Int))=D.int (k:Int);rw[Wcb]
theorem Zd9 (mb:Mb mg) (C25:Callee P w K mg base 1 "place_of" ["web","end"] (spD K fPlace)) (F:Fun K "ends_at" "ends_at" s_ends_at f fd):FnOk P w K mg base CX0 2 f fd ["web","place"] (spN K fEnds):=by
 refine F.ok sc_ends_at (Zik λds Post h=>by obtain⟨_,_,_,rfl,_⟩:=h;rfl) (λcdv A outer s H vs Q E hr h=>?_);have hu:=Zb7 hr;refine⟨_,(Zam (Za4 (Zgl ["end"] (show CompSc (defScope s_ends_at) ["web","place"] _ ["web","place"] [0,1] from ⟨rfl,by decide +kernel,by decide +kernel,by decide +kernel,rfl,by decide +kernel⟩) rfl (Zdr rfl (mb "range" (by decide)) (Zaa (Zap Zdh Zaf (Zal (lenK K) rfl (mb "len" (by decide)) Zb8 (Zaa (Zb6 (ixK K hu) (pv 0) Zaf (λ_ _=>rfl)) Zac))) Zac)) (λ_ _ _ _ _=>(Za0 (i:=0) (show List.Nodup (["end","web","place"]:List Str) from by decide) rfl (Or.inl rfl))) (λ_ _ _ _ _=>(Zhx (Za7 Zcf (Zbb C25 (hr.mono (by decide)) (Zaa (pv 1) (Zaa (pv 0) Zac))) (pv 2) (nomark _)))) (λ_ _ _ _ _=>(pv 0))))),Zol (λds Post hf=>?_) h⟩;obtain⟨n,ts,p,rfl,hl,q⟩:=hf;refine⟨by simp,?_⟩;dsimp only[startD,Wbi,Wbn,Wa5];refine Zii (Zkk (by decide) (Zdn ?_));refine Zab (Zbe (Zas (Za8 ?_)));refine Zab (Zbe (Zae rfl (Zas (Zcz (d:=.tup (ts.map encTie)) rfl ?_))));refine Zah (Zcc (Or.inr rfl) ?_);rw[Wag];refine jr_I (Or.inl ⟨by omega,by omega⟩) (Zah ⟨_,rfl,by omega,by omega,?_⟩);have eL:((2:Int)*(ts.length:Int)).toNat=2*ts.length:=by omega
 rw[eL];refine⟨by rw[Zce];exact small1000 (by omega),λd=>match d with|.int e=>decide (placeAt ts e.toNat=p)|_=>false,λd=>d,λi d hd=>?_,?_⟩
 ·obtain⟨hi,rfl⟩:=Zcj hd
  refine Zb0 (Zbe (Zaw (Zab (Zae rfl (Zab (Zae rfl (Zah ⟨n,ts,i,by rw[Wcb],hi,?_⟩)))))));refine Zae rfl (Zg4 ⟨_,rfl,?_,?_⟩)
  ·show _=decide (placeAt ts (0+(i:Int)).toNat=p)
   rw[Wcb,Wba]
  ·by_cases hp:placeAt ts i=p
   ·rw[decide_eq_true hp,if_pos rfl];exact Zae rfl ⟨rfl,_,rfl⟩
   ·rw[decide_eq_false hp,if_neg Wak];exact⟨_,rfl⟩
 ·rw[List.map_id',Zf2 ts _ p _ λk=>by show decide (placeAt ts (0+(k:Int)).toNat=p)=_;rw[Wcb,Wba]]
  exact⟨_,rfl,q⟩
end
def rm:Nat->Nat
 |0=>1
 |1=>1
 |n+2=>rm (n+1)*(n+1)
theorem Zc5:∀n,1<=rm n
 |0=>Wac 1
 |1=>Wac 1
 |n+2=>Nat.mul_pos (Zc5 (n+1)) (Nat.succ_pos n)
theorem Zjf {n m:Nat}(h:n<=m):rm n<=rm m:=by
 induction h with
 |refl=>exact Wac _
 |@step m _ ih=>
  refine Waz ih ?_;cases m with
  |zero=>exact Wac _
  |succ m=>exact Nat.le_mul_of_pos_right _ (Nat.succ_pos m)
def rowGo:Nat->List Int->Nat->List Int
 |0,_,_=>[]
 |k+1,rest,num=>rest.getD (num / rm (k+1)) 0::rowGo k (rest.eraseIdx (num / rm (k+1))) (num % rm (k+1))
def seqs:Nat->List Int->List (List Int)
 |0,_=>[[]]
 |k+1,rest=>rest.flatMap λe=>(seqs k (rest.erase e)).map (e :: ·)
theorem Zgy {α β:Type}{f g:α -> List β}:∀{l:List α},(∀a∈l,f a=g a)->l.flatMap f=l.flatMap g
 |[],_=>rfl
 |a::l,h=>by rw[Wce,Wce,h a (by simp),Zgy λb hb=>h b (Wax _ hb)]
theorem Zja (a b:Nat):Wa2 (a*b)=(Wa2 a).flatMap λi=>(Wa2 b).map λj=>i*b+j:=by
 induction a with
 |zero=>rw[Nat.zero_mul];rfl
 |succ a ih=>
  rw[Nat.succ_mul,List.range_add,ih,List.range_succ,List.flatMap_append,Wce,List.flatMap_nil,Wbc]
theorem Zd4 (rest:List Int):(Wa2 rest.length).map (λi=>rest.getD i 0)=rest:=by
 refine List.ext_getElem (by simp) λi h1 h2=>?_;simp[Waq,Wab h2]
theorem Zh7 (rest:List Int) (F:Int->List (List Int)):(Wa2 rest.length).flatMap (λi=>F (rest.getD i 0))=rest.flatMap F:=by
 have e:rest.flatMap F=((Wa2 rest.length).map (λi=>rest.getD i 0)).flatMap F:=by rw[Zd4]
 rw[e,List.flatMap_map]
theorem Ze5:∀(k:Nat) (rest:List Int),rest.length=k->rest.Nodup->(Wa2 (rm (k+1))).map (rowGo k rest)=seqs k rest
 |0,_,_,_=>rfl
 |k+1,rest,hl,hn=>by
  have e1:rm (k+1+1)=rest.length*rm (k+1):=by rw[hl,Wbm];rfl
  have hp:=Zc5 (k+1);rw[e1,Zja,List.map_flatMap];have e2:∀i∈Wa2 rest.length,Wbn (rowGo (k+1) rest) ((Wa2 (rm (k+1))).map λj=>i*rm (k+1)+j)=(seqs k (rest.erase (rest.getD i 0))).map (rest.getD i 0 :: ·):=by
   intro i hi;have hi:i<rest.length:=Wbj.mp hi;have ee:rest.getD i 0=rest[i]:=by rw[Waq,Wab hi];rfl
   have er:rest.erase rest[i]=rest.eraseIdx i:=by rw[Wbl];exact List.Nodup.idxOf_getElem hn i hi
   have el:(rest.eraseIdx i).length=k:=by rw[Wa0 hi];omega
   rw[ee,er,<- Ze5 k _ el (List.Nodup.sublist (List.eraseIdx_sublist _ _) hn),Wcy,Wcy];refine List.map_congr_left λj hj=>?_;have hj:j<rm (k+1):=Wbj.mp hj;have d1:(i*rm (k+1)+j) / rm (k+1)=i:=by rw[Wbm,Nat.mul_add_div hp,Nat.div_eq_of_lt hj,Nat.add_zero]
   have d2:(i*rm (k+1)+j) % rm (k+1)=j:=by rw[Wbm,Nat.mul_add_mod,Nat.mod_eq_of_lt hj]
   show rowGo (k+1) rest (i*rm (k+1)+j)=_;unfold rowGo;rw[d1,d2,ee];rfl
  rw[Zgy e2];exact Zh7 rest λe=>(seqs k (rest.erase e)).map (e :: ·)
theorem Zfx:∀(k:Nat) (rest:List Int),rest.length=k->∀s∈seqs k rest,s.Perm rest
 |0,rest,hl,s,hs=>by
  have e1:rest=[]:=Wbp hl;have e2:s=[]:=by simpa [seqs] using hs
  rw[e1,e2]
 |k+1,rest,hl,s,hs=>by
  unfold seqs at hs;obtain⟨e,he,hs⟩:=List.mem_flatMap.mp hs;obtain⟨s',hs',rfl⟩:=Wbt.mp hs;have el:(rest.erase e).length=k:=by rw[List.length_erase_of_mem he];omega
  exact((Zfx k _ el s' hs').cons e).trans (Wb3 he).symm
def rowNo (E:List Int) (num:Nat):List Int:=E.take 1++rowGo (E.length-1) (E.drop 1) num
def rowsA (E:List Int):List (List Int):=(Wa2 (rm E.length)).map (rowNo E)
theorem Zhb {a:Int}{l:List Int}(hn:(a::l).Nodup):rowsA (a::l)=(seqs l.length l).map ([a] ++ ·):=by
 unfold rowsA;rw[<- Ze5 l.length l rfl (Wbs.mp hn).2,Wcy];rfl
theorem Zhc {E:List Int}(hn:E.Nodup):∀r∈rowsA E,r.Perm E/\r.head?=E.head?:=by
 cases E with
 |nil=>
  intro r hr;have:r=[]:=by simpa [rowsA,rm,rowNo,rowGo] using hr
  rw[this];exact⟨List.Perm.refl _,rfl⟩
 |cons a l=>
  intro r hr;rw[Zhb hn]at hr;obtain⟨s,hs,rfl⟩:=Wbt.mp hr;exact⟨(Zfx l.length l rfl s hs).cons a,rfl⟩
def wayN (g:Nat->Nat):Nat->Nat
 |0=>1
 |n+1=>wayN g n*g n
theorem Zgu {g:Nat->Nat}(hg:∀p,1<=g p):∀n,1<=wayN g n
 |0=>Wac 1
 |n+1=>Nat.mul_pos (Zgu hg n) (hg n)
def endsP (ts:List (Int × Int)) (p:Nat):List Int:=endsBelow ts (2*ts.length) (p:Int)
def degW (ts:List (Int × Int)) (p:Nat):Nat:=rm (endsP ts p).length
def ways (N:Nat) (ts:List (Int × Int)):Nat:=wayN (degW ts) N
section
variable {P:Program}{w:World}{K:W.Frag}{mg:Str->Option Value}{base:Heap}{f:Addr}{fd:FuncData}
def fRm:DSp:=λds Post=>∃n:Nat,ds=[.int (n:Int)]/\n<=1000/\Post (.int (rm n:Nat))
theorem Zls (ds:List D):cutD ds none (some 1)=ds.take 1:=by
 cases ds with
 |nil=>rfl
 |cons d ds=>exact Znt (d::ds) (j:=1) (by simp)
theorem Zdt (ds:List D):cutD ds (some 1) none=ds.drop 1:=by
 cases ds with
 |nil=>rfl
 |cons d ds=>exact Zjr (d::ds) (j:=1) (by simp)
theorem Zd7 {R:List Int}{k m:Nat}(h:R.length=k+1):rowGo R.length R m=R.getD (m / rm R.length) 0::rowGo k (R.eraseIdx (m / rm R.length)) (m % rm R.length):=by rw[h];rfl
theorem Zby:∀(R:List Int) (i:Nat),(R.eraseIdx i).map D.int=(R.map D.int).eraseIdx i
 |[],_=>rfl
 |_::_,0=>rfl
 |a::R,i+1=>congrArg (D.int a :: ·) (Zby R i)
theorem Zdo (ts:List (Int × Int)) (p:Nat):(endsP ts p).length<=2*ts.length:=Zeo ts _ _
theorem Zoq (mb:Mb mg) (F:Fun K "rows_many" "rows_many" s_rows_many f fd):FnOk P w K mg base CX0 1 f fd ["many"] (spD K fRm):=by
 refine F.ok sc_rows_many (Zbp λds Post h=>by obtain⟨_,rfl,_⟩:=h;rfl) (λcdv A outer s H vs Q E hr h=>?_);have hu:=Zb7 hr;refine⟨_,(Zad (Zao (i:=1) sc_rows_many.nd rfl (Or.inl rfl) Zaf) (Zad (Zdm PassesOwn.never rfl (Zjm rfl (mb "range" (by decide)) (Zaa Zaf (Zaa (pv 0) Zac))) (Za0 (i:=2) sc_rows_many.nd rfl (Or.inl rfl)) (Zam (Zjj (i:=1) sc_rows_many.nd rfl (Or.inl rfl) (pv 2) Zpm))) (Zam (Za4 (pv 1))))),Zdz (λds Post hf=>?_) h⟩;obtain⟨n,rfl,hn,q⟩:=hf;refine⟨by simp,?_⟩;dsimp only[startD,Wbi,Wbn,Wa5,Wao];refine Zaq (Zar (Zas ?_));refine Zba (λΔ=>∃x:L2.Slot,Δ = [.val (.int (n:Int)),.val (.int (rm n:Nat)),x]) ?_ ?_
 ·refine Zdf (Zi9 (Zab (Zas (Zab (Zae rfl (Zah ⟨2,n,rfl,by omega,λi Δ=>∃x:L2.Slot,Δ = [.val (.int (n:Int)),.val (.int (rm (i+2):Nat)),x],⟨_,rfl⟩,?_,?_⟩))))))
  ·rintro i d Δ2 hd ⟨x,rfl⟩
   obtain⟨hi,rfl⟩:=Zcj hd;refine Zbs (Zjk rfl (Zae rfl ⟨rfl,Zo2 (Or.inr ⟨by omega,by omega⟩) ⟨.val (.int (2+(i:Int))),?_⟩⟩));have e:((rm (i+2):Nat):Int)*(2+(i:Int))=((rm (i+1+2):Nat):Int):=by
    show _=((rm (i+2)*(i+2):Nat):Int);rw[Wcn];congr 1;omega
   rw[e];rfl
  ·rintro Δ2 ⟨x,rfl⟩
   rw[Zce];refine⟨x,?_⟩;have e:rm (((n:Int)-2).toNat+2)=rm n:=by
    by_cases h2:2<=n
    ·rw[show ((n:Int)-2).toNat+2=n by omega]
    ·rw[show ((n:Int)-2).toNat+2=2 by omega]
     match n,h2 with
     |0,_=>rfl
     |1,_=>rfl
     |n+2,h2=>omega
   rw[e]
 rintro Δ1 ⟨x,rfl⟩;exact Za6 (Zae rfl q)
end
def rowNum:List Int->List Int->Nat
 |_,[]=>0
 |rest,x::r=>rest.idxOf x*rm rest.length+rowNum (rest.eraseIdx (rest.idxOf x)) r
theorem Zdp:∀(r rest:List Int),r.Perm rest->rowNum rest r<rm (rest.length+1)
 |[],rest,h=>by
  rw[h.symm.eq_nil];exact Nat.one_pos
 |x::r,rest,h=>by
  have hx:x∈rest:=h.mem_iff.mp (by simp);obtain⟨i1,i2,_⟩:=Zew hx;have e:rest.eraseIdx (rest.idxOf x)=rest.erase x:=(Wbl rfl).symm;have hp:r.Perm (rest.eraseIdx (rest.idxOf x)):=by rw[e];exact List.Perm.cons_inv (h.trans (Wb3 hx))
  have ih:=Zdp r _ hp;have hl:(rest.eraseIdx (rest.idxOf x)).length+1=rest.length:=by rw[Wa0 i1];omega
  rw[hl]at ih;show rest.idxOf x*rm rest.length+_<_;obtain⟨k,hk⟩:∃k,rest.length=k+1:=⟨rest.length-1,by omega⟩;have e2:rm (rest.length+1)=rest.length*rm rest.length:=by rw[hk,Wbm];rfl
  rw[e2];have:(rest.idxOf x+1)*rm rest.length<=rest.length*rm rest.length:=Wco _ (by omega);rw[Nat.succ_mul]at this;omega
theorem Zjg {a b n:Nat}(h:b<n):(a*n+b) / n=a/\(a*n+b) % n=b:=by
 have hn:0<n:=by omega
 exact⟨by rw[Wbm,Nat.mul_add_div hn,Nat.div_eq_of_lt h,Nat.add_zero],by rw[Wbm,Nat.mul_add_mod,Nat.mod_eq_of_lt h]⟩
theorem Zky:∀(r rest:List Int),r.Perm rest->rowGo rest.length rest (rowNum rest r)=r
 |[],rest,h=>by rw[h.symm.eq_nil];rfl
 |x::r,rest,h=>by
  have hx:x∈rest:=h.mem_iff.mp (by simp);obtain⟨i1,i2,_⟩:=Zew hx;have e:rest.eraseIdx (rest.idxOf x)=rest.erase x:=(Wbl rfl).symm;have hp:r.Perm (rest.eraseIdx (rest.idxOf x)):=by rw[e];exact List.Perm.cons_inv (h.trans (Wb3 hx))
  have hl:(rest.eraseIdx (rest.idxOf x)).length+1=rest.length:=by rw[Wa0 i1];omega
  have lt:=Zdp r _ hp;rw[hl]at lt;have ih:=Zky r _ hp;rw[Zd7 hl.symm];show rest.getD ((rest.idxOf x*rm rest.length+_) / rm rest.length) 0::_=_;obtain⟨d1,d2⟩:=Zjg (a:=rest.idxOf x) lt;have u:rowNum rest (x::r)=rest.idxOf x*rm rest.length+rowNum (rest.eraseIdx (rest.idxOf x)) r:=rfl;rw[u,d1,d2,ih,Waq,i2];rfl
theorem Zlj:∀(k:Nat) (rest:List Int),rest.length=k->rest.Nodup->∀n,n<rm (k+1)->rowNum rest (rowGo k rest n)=n
 |0,rest,hl,_,n,hn=>by
  have:n=0:=by have:n<1:=hn;omega
  subst this;rfl
 |k+1,rest,hl,nd,n,hn=>by
  have hp:=Zc5 (k+1);have hn2:n<rm (k+1)*(k+1):=hn;have hat:n / rm (k+1)<rest.length:=by rw[hl];exact Wb5 hn2
  have hi:rest.idxOf (rest.getD (n / rm (k+1)) 0)=n / rm (k+1):=by
   rw[Waq,Wab hat];exact List.Nodup.idxOf_getElem nd _ hat
  show rowNum rest (rest.getD (n / rm (k+1)) 0::rowGo k (rest.eraseIdx (n / rm (k+1))) (n % rm (k+1)))=n;unfold rowNum;rw[hi,hl,Zlj k _ (by rw[Wa0 hat];omega) (List.Nodup.sublist (List.eraseIdx_sublist _ _) nd) _ (Wcv _ hp),Wbm];exact Nat.div_add_mod n (rm (k+1))
section
variable (E:Nat->List Int)
def numN (o:List (List Int)):Nat->Nat
 |0=>0
 |k+1=>numN o k*rm (E k).length+rowNum ((E k).drop 1) ((o.getD k []).drop 1)
def ordN:Nat->Nat->List (List Int)
 |0,_=>[]
 |k+1,n=>ordN k (n / rm (E k).length)++[rowNo (E k) (n % rm (E k).length)]
theorem Zbo:∀(k n:Nat),(ordN E k n).length=k
 |0,_=>rfl
 |k+1,n=>by
  show (ordN E k _++[_]).length=_;rw[Wan,Zbo k];rfl
theorem Zgx:∀(k n p:Nat) (r:List Int),(ordN E k n)[p]?=some r->r∈rowsA (E p)
 |0,_,p,r,h=>by simp[ordN]at h
 |k+1,n,p,r,h=>by
  have h:(ordN E k (n / rm (E k).length)++[rowNo (E k) (n % rm (E k).length)])[p]?=some r:=h;by_cases hp:p<k
  ·rw[Wa3 (by rw[Zbo];exact hp)]at h
   exact Zgx k _ p r h
  ·rw[Wap (by rw[Zbo];omega),Zbo]at h
   have h0:p-k=0:=by have:=(Wai.mp h).1;simpa using this
   rw[h0]at h;have e:rowNo (E k) (n % rm (E k).length)=r:=by simpa using h
   rw[show p=k by omega,<- e];exact Wbt.mpr ⟨_,Wbj.mpr (Wcv _ (Zc5 _)),rfl⟩
end
theorem Zgz {E r:List Int}(hp:r.Perm E) (hh:r.head?=E.head?):(r.drop 1).Perm (E.drop 1)/\r.take 1=E.take 1:=by
 cases E with
 |nil=>rw[hp.eq_nil];exact⟨List.Perm.refl _,rfl⟩
 |cons a l=>
  cases r with
  |nil=>cases hh
  |cons b t=>
   have e:b=a:=War.inj hh;subst e;exact⟨List.Perm.cons_inv hp,rfl⟩
theorem Zm8 (E:List Int):rm ((E.drop 1).length+1)=rm E.length:=by
 cases E with
 |nil=>rfl
 |cons a l=>rfl
theorem Zhu {E r:List Int}(hp:r.Perm E) (hh:r.head?=E.head?):rowNo E (rowNum (E.drop 1) (r.drop 1))=r/\rowNum (E.drop 1) (r.drop 1)<rm E.length:=by
 obtain⟨h1,h2⟩:=Zgz hp hh;refine⟨?_,by rw[<- Zm8];exact Zdp _ _ h1⟩;unfold rowNo;rw[<- h2,show E.length-1=(E.drop 1).length by rw[Wbh],Zky _ _ h1,List.take_append_drop]
theorem Zh5 {E:List Int}(nd:E.Nodup) {n:Nat}(hn:n<rm E.length):rowNum (E.drop 1) ((rowNo E n).drop 1)=n:=by
 cases E with
 |nil=>
  have:n=0:=by have:n<1:=hn;omega
  subst this;rfl
 |cons a l=>exact Zlj l.length l rfl (Wbs.mp nd).2 n hn
theorem Zih {E:Nat->List Int}(nd:∀p,(E p).Nodup):∀(k n:Nat),n<wayN (λp=>rm (E p).length) k->∀o,(∀p,p<k->o.getD p []=(ordN E k n).getD p [])->numN E o k=n
 |0,n,h,o,_=>by have:n<1:=h;show 0=n;omega
 |k+1,n,h,o,ho=>by
  have hw:n<wayN (λp=>rm (E p).length) k*rm (E k).length:=h;have hp:=Zc5 (E k).length;have hd:n / rm (E k).length<wayN (λp=>rm (E p).length) k:=Wb5 (by rw[Wbm];exact hw);have at1:o.getD k []=rowNo (E k) (n % rm (E k).length):=by
   rw[ho k (Nat.lt_succ_self k)];show (ordN E k _++[_]).getD k []=_;rw[Waq,Wap (by rw[Zbo];exact Wac _),Zbo,Nat.sub_self];rfl
  have pre:∀p,p<k->o.getD p []=(ordN E k (n / rm (E k).length)).getD p []:=λp hp=>by
   rw[ho p (by omega)];show (ordN E k _++[_]).getD p []=_;rw[Waq,Wa3 (by rw[Zbo];exact hp),<- Waq]
  show numN E o k*rm (E k).length+rowNum ((E k).drop 1) ((o.getD k []).drop 1)=n;rw[Zih nd k _ hd o pre,at1,Zh5 (nd k) (Wcv _ hp),Wbm];exact Nat.div_add_mod n _
theorem Zhs {E:Nat->List Int}{o:List (List Int)}(ho:∀p r,o[p]?=some r->r.Perm (E p)/\r.head?=(E p).head?):∀k,k<=o.length->numN E o k<wayN (λp=>rm (E p).length) k/\ordN E k (numN E o k)=o.take k
 |0,_=>⟨Nat.one_pos,by rw[List.take_zero];rfl⟩
 |k+1,hk=>by
  obtain⟨i1,i2⟩:=Zhs ho k (by omega);have hr:o[k]?=some (o.getD k []):=by rw[Waq,Wab (by omega)];rfl
  obtain⟨p1,p2⟩:=ho k _ hr;obtain⟨q1,q2⟩:=Zhu p1 p2;obtain⟨d1,d2⟩:=Zjg (a:=numN E o k) q2;constructor
  ·show numN E o k*rm (E k).length+_<wayN (λp=>rm (E p).length) k*rm (E k).length
   have:(numN E o k+1)*rm (E k).length<=wayN (λp=>rm (E p).length) k*rm (E k).length:=Wco _ (by omega);rw[Nat.succ_mul]at this;omega
  ·show ordN E k ((numN E o k*rm (E k).length+_) / rm (E k).length)++[rowNo (E k) ((numN E o k*rm (E k).length+_) % rm (E k).length)]=_
   rw[d1,d2,i2,q1,Wct,hr];rfl
section
variable {P:Program}{w:World}{K:W.Frag}{mg:Str->Option Value}{base:Heap}{f:Addr}{fd:FuncData}
theorem Zmb (mb:Mb mg) (F:Fun K "is_whole" "is_whole" s_is_whole f fd):FnOk P w K mg base CX0 1 f fd ["thing"] (spD K fWhole):=by
 refine F.ok sc_is_whole (Zbp λds Post h=>by obtain⟨_,rfl,_⟩:=h;rfl) (λcdv A outer s H vs Q E hr h=>?_);have hu:=Zb7 hr;refine⟨_,(Zam (Za4 (Zk8 (Zal (isiUK K) rfl (mb "isinstance" (by decide)) Zaj (Zaa (pv 0) (Zaa (Zdd rfl (mb "int" (by decide)) Zk9 (show RelV (.ty "int") _ from rfl)) Zac))) (Zlb (Zld (Zal (isiUK K) rfl (mb "isinstance" (by decide)) Zaj (Zaa (pv 0) (Zaa (Zdd rfl (mb "bool" (by decide)) Zi8 (show RelV (.ty "bool") _ from rfl)) Zac)))))))),Zdz (λds Post hf=>?_) h⟩;obtain⟨e,rfl,q⟩:=hf;refine⟨by simp,?_⟩;dsimp only[startD,Wbi,Wbn,Wa5];refine Za6 (Zbw (Za8 (Zab (Zae rfl (Zab (Zcu (Zah (Zbj (T:="int") (b:=true) rfl (λ_=>by rfl) ⟨_,rfl,?_⟩))))))));rw[if_pos rfl];refine Zev (Za8 (Zab (Zae rfl (Zab (Zcu (Zah (Zbj (T:="int") (b:=false) rfl (λ_=>by rfl) ⟨_,rfl,?_⟩)))))));exact q
end
theorem Zlf (a:Nat):∀b,rm a*rm b<=rm (a+b)
 |0=>by rw[Nat.add_zero];exact Nat.le_of_eq (Nat.mul_one _)
 |1=>by
  rw[show rm 1=1 from rfl,Nat.mul_one];exact Zjf (Nat.le_succ a)
 |b+2=>by
  have ih:=Zlf a (b+1);have e1:rm (b+2)=rm (b+1)*(b+1):=rfl;have e2:rm (a+(b+2))=rm (a+(b+1))*(a+(b+1)):=by
   rw[show a+(b+2)=a+b+2 by omega,show a+(b+1)=a+b+1 by omega];rfl
  rw[e1,e2,<- Nat.mul_assoc];exact Nat.mul_le_mul ih (by omega)
def sumE (ts:List (Int × Int)):Nat->Nat
 |0=>0
 |k+1=>sumE ts k+(endsP ts k).length
theorem Zhy (ts:List (Int × Int)):∀k,wayN (degW ts) k<=rm (sumE ts k)
 |0=>Wac 1
 |k+1=>Waz (Wco _ (Zhy ts k)) (Zlf _ _)
theorem Zfi (ts:List (Int × Int)):∀k,((Wa2 k).flatMap (endsP ts)).Nodup/\((Wa2 k).flatMap (endsP ts)).length=sumE ts k/\∀x∈(Wa2 k).flatMap (endsP ts),0<=x/\x<((2*ts.length:Nat):Int)/\placeAt ts x.toNat<(k:Int)
 |0=>⟨by simp,rfl,λx hx=>by simp at hx⟩
 |k+1=>by
  obtain⟨a,b,c⟩:=Zfi ts k;have m:∀x∈endsP ts k,0<=x/\x<((2*ts.length:Nat):Int)/\placeAt ts x.toNat=(k:Int):=λx hx=>by
   obtain⟨e,he,hp,rfl⟩:=Ze2.mp hx;exact⟨by omega,by omega,by rw[Wba];exact hp⟩
  rw[List.range_succ,List.flatMap_append,Wce,List.flatMap_nil,Wbc];refine⟨List.nodup_append.mpr ⟨a,Zbg ts _ _,λx hx y hy z=>?_⟩,by rw[Wan,b];rfl,λx hx=>?_⟩
  ·have h1:=(c x hx).2.2
   have h2:=(m y hy).2.2;rw[z]at h1;omega
  ·rcases Wbb.mp hx with h|h
   ·have:=c x h;exact⟨this.1,this.2.1,by omega⟩
   ·have:=m x h;exact⟨this.1,this.2.1,by omega⟩
theorem Znf (ts:List (Int × Int)) (k:Nat):sumE ts k<=2*ts.length:=by
 obtain⟨a,b,c⟩:=Zfi ts k;have:=Zd6 (m:=(Wa2 (2*ts.length)).map λe:Nat=>(e:Int)) a λx hx=>by
  have h:=c x hx;exact Wbt.mpr ⟨x.toNat,Wbj.mpr (by omega),by omega⟩
 rw[Wag,Wcu]at this;omega
theorem Zd1 {n:Nat}(h:n<=48):rm n<=258623241511168180642964355153611979969197632389120000000000:=Waz (Zjf h) (by decide +kernel)
theorem Zf9 {ts:List (Int × Int)}(h:ts.length<=24) (k:Nat):wayN (degW ts) k<=258623241511168180642964355153611979969197632389120000000000:=Waz (Zhy ts k) (Zd1 (Waz (Znf ts k) (by omega)))
theorem Zca {n:Nat}(h:n<=258623241511168180642964355153611979969197632389120000000000):(n:Int)<2 ^ 500:=by
 have h2:(n:Int)<=258623241511168180642964355153611979969197632389120000000000:=by omega
 exact Int.lt_of_le_of_lt h2 (by decide +kernel)
def fOmB:DSp:=λds Post=>∃(N:Nat) (ts:List (Int × Int)),ds=[encWeb (N:Int) ts]/\WebOk (N:Int) ts/\Post (.int (ways N ts:Nat))
def fRowAtB:DSp:=λds Post=>∃(E:List Int) (num:Nat),ds=[.lst (E.map .int),.int (num:Int)]/\E.length<=48/\num<rm E.length/\Post (encRow (rowNo E num))
def fOrdAt:DSp:=λds Post=>∃(N:Nat) (ts:List (Int × Int)) (n:Nat),ds=[encWeb (N:Int) ts,.int (n:Int)]/\WebOk (N:Int) ts/\n<ways N ts/\Post (encOrd (ordN (endsP ts) N n))
def fRowNum:DSp:=λds Post=>∃E r:List Int,ds=[.lst (E.map .int),encRow r]/\r.Perm E/\r.head?=E.head? /\ E.length<=48/\Post (.int (rowNum (E.drop 1) (r.drop 1):Nat))
def fNumOf:DSp:=λds Post=>∃(N:Nat) (ts:List (Int × Int)) (o:List (List Int)),ds=[encWeb (N:Int) ts,encOrd o]/\WebOk (N:Int) ts/\OrdOk (N:Int) ts o/\Post (.int (numN (endsP ts) o N:Nat))
section
variable {P:Program}{w:World}{K:W.Frag}{mg:Str->Option Value}{base:Heap}{f:Addr}{fd:FuncData}
theorem Zk3 (mb:Mb mg) (C28:Callee P w K mg base 1 "rows_many" ["many"] (spD K fRm)) (C20:Callee P w K mg base 2 "ends_at" ["web","place"] (spN K fEnds)) (F:Fun K "orders_many" "orders_many" s_orders_many f fd):FnOk P w K mg base CX0 3 f fd ["web"] (spD K fOmB):=by
 refine F.ok sc_orders_many (Zbp λds Post h=>by obtain⟨_,_,rfl,_⟩:=h;rfl) (λcdv A outer s H vs Q E hr h=>?_);have hu:=Zb7 hr;refine⟨_,(Zad (Zao (i:=1) sc_orders_many.nd rfl (Or.inl rfl) Zaf) (Zad (Zdm PassesOwn.never rfl (Zdr rfl (mb "range" (by decide)) (Zaa (Zb6 (ixK K hu) (pv 0) Zaf (λ_ _=>rfl)) Zac)) (Za0 (i:=2) sc_orders_many.nd rfl (Or.inl rfl)) (Zam (Zjj (i:=1) sc_orders_many.nd rfl (Or.inl rfl) (Zbb C28 (hr.mono (by decide)) (Zaa (Zal (lenK K) rfl (mb "len" (by decide)) Zb8 (Zaa (Zbb C20 (hr.mono (by decide)) (Zaa (pv 0) (Zaa (pv 2) Zac))) Zac)) Zac)) Zl9))) (Zam (Za4 (pv 1))))),Zdz (λds Post hf=>?_) h⟩;obtain⟨N,ts,rfl,hW,q⟩:=hf;refine⟨by simp,?_⟩;dsimp only[startD,Wbi,Wbn,Wa5,Wao];have hn:=hW.lo;have hn2:=hW.hi;have hts:=hW.len;refine Zaq (Zar (Zas ?_));refine Zba (λΔ=>∃x:L2.Slot,Δ = [.val (encWeb (N:Int) ts),.val (.int (ways N ts:Nat)),x]) ?_ ?_
 ·refine Zdf (Zdn (Zab (Zc6 (Zle (d:=.int (N:Int)) rfl rfl) (Zah ⟨_,rfl,by omega,by omega,λi Δ=>∃x:L2.Slot,Δ = [.val (encWeb (N:Int) ts),.val (.int (wayN (degW ts) i:Nat)),x],⟨_,rfl⟩,?_,?_⟩))))
  ·rintro i d Δ2 hd ⟨x,rfl⟩
   obtain⟨hi,rfl⟩:=Zcj hd;have hel:=Zdo ts i;have h1:=Zca (Zf9 hts i);have h2:=Zca (Zd1 (n:=(endsP ts i).length) (by omega));refine Zbs (Zjk rfl (Zaw (Zab (Za8 (Zab (Zc8 (Ze1 (Zab (Zae rfl (Zab (Zae rfl (Zah ⟨(N:Int),ts,0+(i:Int),rfl,hts,_,rfl,Zah (Zcc (Or.inl rfl) (Zah ⟨(endsP ts i).length,?_,by omega,rfl,Zng ⟨⟨by omega,h1⟩,by omega,h2⟩ ⟨.val (.int (0+(i:Int))),?_⟩⟩))⟩))))))))))))
   ·rw[Wag,Wcb]
    rfl
   rw[<- Wcn];rfl
  ·rintro Δ2 ⟨x,rfl⟩
   rw[Zce,Wba];exact⟨x,rfl⟩
 rintro Δ1 ⟨x,rfl⟩;exact Za6 (Zae rfl q)
theorem Zfn (mb:Mb mg) (C28:Callee P w K mg base 1 "rows_many" ["many"] (spD K fRm)) (F:Fun K "row_at" "row_at" s_row_at f fd):FnOk P w K mg base CX0 2 f fd ["ends","number"] (spD K fRowAtB):=by
 refine F.ok sc_row_at (Zbp λds Post h=>by obtain⟨_,_,rfl,_⟩:=h;rfl) (λcdv A outer s H vs Q E hr h=>?_);have hu:=Zb7 hr;refine⟨_,(Zad (Zao (i:=2) sc_row_at.nd rfl (Or.inl rfl) (Zcq (slK K) (pv 0) Zdw (Zcw Zaf))) (Zad (Zao (i:=3) sc_row_at.nd rfl (Or.inl rfl) (Zcq (slK K) (pv 0) (Zcw Zaf) Zdw)) (Zad (Zjx PassesOwn.never (truK K (pv 3) (λ_=>rfl)) (Zad (Zfw (Zal Zgk rfl (mb "divmod" (by decide)) Zfe (Zaa (pv 1) (Zaa (Zbb C28 (hr.mono (by decide)) (Zaa (Zal (lenK K) rfl (mb "len" (by decide)) Zb8 (Zaa (pv 3) Zac)) Zac)) Zac))) (gtupK (n:=2) K rfl (Zbn (Za0 (i:=4) sc_row_at.nd rfl (Or.inl rfl)) (Zbn (Za0 (i:=1) sc_row_at.nd rfl (Or.inl rfl)) Zex)))) (Zam (Ze0 (bmK K PySem.F.plainAttrs_list PySem.F.slot_list_append PySem.F.type_list_append Zcg (pv 2) (Zaa (bmK K PySem.F.plainAttrs_list PySem.F.slot_list_pop PySem.F.type_list_pop Zgv (pv 3) (Zaa (pv 4) Zac)) Zac)))))) (Zam (Za4 (Zck (tupK K) rfl (mb "tuple" (by decide)) Zed (Zaa (pv 2) Zac))))))),Zdz (λds Post hf=>?_) h⟩;obtain⟨E,num,rfl,hE,hnum,q⟩:=hf;refine⟨by simp,?_⟩;dsimp only[startD,Wbi,Wbn,Wa5,Wao];refine Zaq (Zcv (Zmo (Zae rfl (Zdx (Zdj (Zas ⟨_,rfl,E.map D.int,rfl,?_⟩))))));rw[Zls];refine Zaq (Zcv (Zmo (Zae rfl (Zdj (Zas ⟨_,rfl,Zdx ⟨E.map D.int,rfl,?_⟩⟩)))));rw[Zdt,<- List.map_take,<- List.map_drop];refine Zba (λΔ=>∃(m:Int) (x y:L2.Slot),Δ = [.val (.lst (E.map D.int)),.val (.int m),.own (.lst ((rowNo E num).map D.int)),x,y]) ?_ ?_
 ·refine Zkv (fun μ Δ=>∃(r R:List Int) (m:Nat) (x:L2.Slot),μ = R.length/\r++rowGo R.length R m=rowNo E num/\m<rm (R.length+1)/\r.length+R.length=E.length /\ Δ = [.val (.lst (E.map D.int)),.val (.int (m:Int)),.own (.lst (r.map D.int)),.own (.lst (R.map D.int)),x]) ⟨_,E.take 1,E.drop 1,num,.any,rfl,?_,?_,?_,rfl⟩ ?_
  ·rw[Wbh];rfl
  ·cases E with
   |nil=>exact hnum
   |cons a l=>exact hnum
  ·rw[Wb2,Wbh];omega
  rintro μ Δ1 ⟨r,R,m,x,rfl,hrow,hm,hl,rfl⟩;cases hR:R with
  |nil=>
   subst hR;refine Zh2 (i:=3) rfl rfl (Zdq (Zae rfl ⟨false,rfl,iteF ⟨m,.own (.lst []),x,?_⟩⟩));rw[<- hrow];show _=[_,_,Slot.own (OD.lst ((r++[]).map D.int)),_,_];rw[Wbc];rfl
  |cons b R'=>
   rw[<- hR];have hk:R.length=R'.length+1:=by rw[hR];rfl
   refine Zh2 (i:=3) rfl rfl (Zdq (Zae rfl ⟨true,by rw[hR];rfl,?_⟩));have hp:=Zc5 R.length;have hmul:m<rm R.length*R.length:=by rw[hk]at hm ⊢;exact hm
   have hat:m / rm R.length<R.length:=Wb5 hmul;have hbig:=Zca (Zd1 (n:=R.length) (by omega));refine iteT (Zaq (Zla (Za8 (Zab (Zae rfl (Zab (Zaw (Zab (Zei rfl rfl (Zah ⟨R.length,by rw[Wag],by omega,Zah (Zk6 (by omega) hbig ?_)⟩))))))))));rw[<- Int.natCast_ediv,<- Int.natCast_emod];refine Zh1 rfl (Zb3 (Zbs (Zb3 (Zbs (Zf6 ?_)))));refine Zh9 rfl rfl (Zim rfl rfl (Zae rfl ⟨_,_,m / rm R.length,.int (R.getD (m / rm R.length) 0),rfl,rfl,rfl,?_,?_,_,_,rfl,rfl,?_,?_⟩))
   ·rw[Wal,Waq,Wab hat];rfl
   ·rw[Wag];omega
   ·rw[Wag];exact small1000 (by omega)
   refine⟨R'.length,by omega,r++[R.getD (m / rm R.length) 0],R.eraseIdx (m / rm R.length),m % rm R.length,.val (.int ((m / rm R.length:Nat):Int)),?_,?_,?_,?_,?_⟩
   ·rw[Wa0 hat];omega
   ·rw[<- hrow,Zd7 hk,Wa0 hat,show R.length-1=R'.length by omega,List.append_assoc]
    rfl
   ·rw[Wa0 hat,show R.length-1+1=R.length by omega]
    exact Wcv _ hp
   ·rw[Wa0 hat,Wan,Wck];omega
   ·rw[Wbv,Zby]
    rfl
 rintro Δ1 ⟨m,x,y,rfl⟩;exact Za6 (Za8 (Zab (Zf3 rfl (Zah (Ze6 (Or.inl rfl) q)))))
end
theorem Ziu (E:Nat->List Int) (k n:Nat):ordN E (k+1) n=ordN E k (n / rm (E k).length)++[rowNo (E k) (n % rm (E k).length)]:=rfl
theorem Zf8 (rest:List Int) (x:Int) (r:List Int):rowNum rest (x::r)=rest.idxOf x*rm rest.length+rowNum (rest.eraseIdx (rest.idxOf x)) r:=rfl
section
variable {P:Program}{w:World}{K:W.Frag}{mg:Str->Option Value}{base:Heap}{f:Addr}{fd:FuncData}
theorem Zj1 (mb:Mb mg) (C21:Callee P w K mg base 1 "is_whole" ["thing"] (spD K fWhole)) (C24:Callee P w K mg base 3 "orders_many" ["web"] (spD K fOmB)) (C20:Callee P w K mg base 2 "ends_at" ["web","place"] (spN K fEnds)) (C28:Callee P w K mg base 1 "rows_many" ["many"] (spD K fRm)) (C26:Callee P w K mg base 2 "row_at" ["ends","number"] (spD K fRowAtB)) (F:Fun K "order_at" "order_at" s_order_at f fd):FnOk P w K mg base CX0 4 f fd ["web","number"] (spD K fOrdAt):=by
 refine F.ok sc_order_at (Zbp λds Post h=>by obtain⟨_,_,_,rfl,_⟩:=h;rfl) (λcdv A outer s H vs Q E hr h=>?_);have hu:=Zb7 hr;refine⟨_,(Zad (Zc7 (PW.pt (pw_or (Zgr (truK K (Zbb C21 (hr.mono (by decide)) (Zaa (pv 1) Zac)) (λ_=>rfl))) (pw_or1 (Zgr (Zgn Zoj Zlr Zaf (pv 1) (Zbb C24 (hr.mono (by decide)) (Zaa (pv 0) Zac))))))) Zfu Zbc) (Zad (Zao (i:=2) sc_order_at.nd rfl (Or.inl rfl) (Zbm Zac)) (Zad (Zdm PassesOwn.never rfl (Zf7 rfl (mb "reversed" (by decide)) rfl (mb "range" (by decide)) (Zaa (Zb6 (ixK K hu) (pv 0) Zaf (λ_ _=>rfl)) Zac)) (Za0 (i:=3) sc_order_at.nd rfl (Or.inl rfl)) (Zad (Zao (i:=4) sc_order_at.nd rfl (Or.inl rfl) (Zbb C20 (hr.mono (by decide)) (Zaa (pv 0) (Zaa (pv 3) Zac)))) (Zad (Zfw (Zal Zgk rfl (mb "divmod" (by decide)) Zfe (Zaa (pv 1) (Zaa (Zbb C28 (hr.mono (by decide)) (Zaa (Zal (lenK K) rfl (mb "len" (by decide)) Zb8 (Zaa (pv 4) Zac)) Zac)) Zac))) (gtupK (n:=2) K rfl (Zbn (Za0 (i:=1) sc_order_at.nd rfl (Or.inl rfl)) (Zbn (Za0 (i:=5) sc_order_at.nd rfl (Or.inl rfl)) Zex)))) (Zam (Ze0 (bmK K PySem.F.plainAttrs_list PySem.F.slot_list_append PySem.F.type_list_append Zcg (pv 2) (Zaa (Zbb C26 (hr.mono (by decide)) (Zaa (pv 4) (Zaa (pv 5) Zac))) Zac))))))) (Zam (Za4 (Zck (tupK K) rfl (mb "tuple" (by decide)) Zed (Zaa (slRLK K (pv 2)) Zac))))))),Zdz (λds Post hf=>?_) h⟩;obtain⟨N,ts,n,rfl,hW,hn,q⟩:=hf;refine⟨by simp,?_⟩;dsimp only[startD,Wbi,Wbn,Wa5,Wao];have hlo:=hW.lo;have hhi:=hW.hi;have hts:=hW.len;refine Zaq (Zec (Zll (Zfb (Zdq (Zaw (Zab (Zae rfl (Zah ⟨_,rfl,true,rfl,iteF ?_⟩))))))));refine Zfb (Zb0 (Zgp (Zas (Zae rfl (Ziv ⟨_,rfl,?_⟩)))));rw[if_pos (by simp)];refine Zaw (Zab (Zae rfl (Zah ⟨N,ts,rfl,hW,Ziv ⟨_,rfl,?_⟩⟩)));rw[decide_eq_true (show (n:Int)<(ways N ts:Nat) by omega)];refine iteF (Zbx ?_);refine Zaq (Zcv (Zh3 (Zah ⟨by decide,?_⟩)));refine Zba (λΔ=>∃x y z u:L2.Slot,Δ = [.val (encWeb (N:Int) ts),x,.own (.lst ((ordN (endsP ts) N n).reverse.map encRow)),y,z,u]) ?_ ?_
 ·refine Zdf (Zga (Zab (Zc6 (Zle (d:=.int (N:Int)) rfl rfl) (Zah ⟨N,rfl,by omega,λi Δ=>∃(m:Nat) (R:List (List Int)) (y z u:L2.Slot),i<=N/\R.length=i/\m<wayN (degW ts) (N-i)/\ordN (endsP ts) N n=ordN (endsP ts) (N-i) m++R.reverse /\ Δ = [.val (encWeb (N:Int) ts),.val (.int (m:Int)),.own (.lst (R.map encRow)),y,z,u],⟨n,[],_,_,_,Wcg _,rfl,hn,by rw[Nat.sub_zero,List.reverse_nil,Wbc],rfl⟩,?_,?_⟩))))
  ·rintro i d Δ2 hd ⟨m,R,y,z,u,hiN,hR,hm,ho,rfl⟩
   obtain⟨hi,rfl⟩:=Zgj hd;obtain⟨k,hk⟩:∃k,N-i=k+1:=⟨N-i-1,by omega⟩;rw[hk]at hm ho;have hp:((N:Int)-1+(i:Int) * -1)=(k:Int):=by omega
   rw[hp];have hel:=Zdo ts k;have hpos:=Zc5 (endsP ts k).length;have hbig:=Zca (Zd1 (n:=(endsP ts k).length) (by omega));refine Zbs (Zaq (Zar (Zc8 (Ze1 (Zab (Zae rfl (Zab (Zae rfl (Zah ⟨(N:Int),ts,(k:Int),rfl,hts,_,rfl,?_⟩)))))))));refine Zaq (Zla (Za8 (Zab (Zae rfl (Zab (Zaw (Zab (Za8 (Zab (Zae rfl (Zah (Zcc (Or.inl rfl) (Zah ⟨(endsP ts k).length,?_,by omega,Zah (Zk6 (by omega) hbig ?_)⟩)))))))))))))
   ·rw[Wag];rfl
   rw[<- Int.natCast_ediv,<- Int.natCast_emod];refine Zh1 rfl (Zb3 (Zbs (Zb3 (Zbs (Zf6 ?_)))));refine Zh9 rfl rfl (Zaw (Zab (Zae rfl (Zab (Zae rfl (Zah ⟨endsP ts k,m % rm (endsP ts k).length,rfl,by omega,Wcv _ hpos,_,_,rfl,rfl,?_,?_⟩))))))
   ·rw[Wag];exact small1000 (by omega)
   refine⟨m / rm (endsP ts k).length,R++[rowNo (endsP ts k) (m % rm (endsP ts k).length)],.val (.int (k:Int)),.val (.lst ((endsP ts k).map D.int)),.val (.int ((m % rm (endsP ts k).length:Nat):Int)),by omega,by rw[Wan,hR];rfl,?_,?_,?_⟩
   ·rw[show N-(i+1)=k by omega]
    exact Wb5 (by rw[Wbm];exact hm)
   ·rw[show N-(i+1)=k by omega,ho,Ziu,List.reverse_append,List.append_assoc]
    rfl
   ·rw[Wbv]
    rfl
  ·rintro Δ2 ⟨m,R,y,z,u,hiN,hR,hm,ho,rfl⟩
   rw[Zg0,Nat.sub_self]at ho;refine⟨.val (.int (m:Int)),y,z,u,?_⟩;rw[ho];show _=[_,_,Slot.own (OD.lst ((([]:List (List Int))++R.reverse).reverse.map encRow)),_,_,_];rw[List.nil_append,List.reverse_reverse]
 rintro Δ1 ⟨x,y,z,u,rfl⟩;refine Za6 (Za8 (Zab (Zlq (Zf3 rfl ⟨_,rfl,Zah (Ze6 (Or.inl rfl) ?_)⟩))));rw[<- List.map_reverse,List.reverse_reverse];exact q
theorem Zip (mb:Mb mg) (C28:Callee P w K mg base 1 "rows_many" ["many"] (spD K fRm)) (F:Fun K "row_number" "row_number" s_row_number f fd):FnOk P w K mg base CX0 2 f fd ["ends","row"] (spD K fRowNum):=by
 refine F.ok sc_row_number (Zbp λds Post h=>by obtain⟨_,_,rfl,_⟩:=h;rfl) (λcdv A outer s H vs Q E hr h=>?_);have hu:=Zb7 hr;refine⟨_,(Zad (Zao (i:=2) sc_row_number.nd rfl (Or.inl rfl) Zaf) (Zad (Zao (i:=3) sc_row_number.nd rfl (Or.inl rfl) (Zcq (slK K) (pv 0) (Zcw Zaf) Zdw)) (Zad (Zdm PassesOwn.never rfl (seqK K (Zcq (slK K) (pv 1) (Zcw Zaf) Zdw)) (Za0 (i:=4) sc_row_number.nd rfl (Or.inl rfl)) (Zad (Zao (i:=5) sc_row_number.nd rfl (Or.inl rfl) (bmK K PySem.F.plainAttrs_list PySem.F.slot_list_index PySem.F.type_list_index (idxLK K) (pv 3) (Zaa (pv 4) Zac))) (Zad (Zjj (i:=2) sc_row_number.nd rfl (Or.inl rfl) (Zap Zhr (pv 5) (Zbb C28 (hr.mono (by decide)) (Zaa (Zal (lenK K) rfl (mb "len" (by decide)) Zb8 (Zaa (pv 3) Zac)) Zac))) Zon) (Zam (Ze0 (bmK K PySem.F.plainAttrs_list PySem.F.slot_list_pop PySem.F.type_list_pop Zgv (pv 3) (Zaa (pv 5) Zac))))))) (Zam (Za4 (pv 2)))))),Zdz (λds Post hf=>?_) h⟩;obtain⟨E,r,rfl,hp,hh,hE,q⟩:=hf;refine⟨by simp,?_⟩;dsimp only[startD,Wbi,Wbn,Wa5,Wao];have hl:=hp.length_eq;refine Zaq (Zar (Zas ?_));refine Zaq (Zcv (Zmo (Zae rfl (Zdj (Zas ⟨_,rfl,Zdx ⟨E.map D.int,rfl,?_⟩⟩)))));rw[Zdt,<- List.map_drop];refine Zba (λΔ=>∃x y z:L2.Slot,Δ = [.val (.lst (E.map D.int)),.val (encRow r),.val (.int (rowNum (E.drop 1) (r.drop 1):Nat)),x,y,z]) ?_ ?_
 ·refine Zdf (Zl7 (Zpk (Zae rfl (Zdj (Zas ⟨_,rfl,Zdx ⟨.tup ((r.drop 1).map D.int),?_,_,rfl,λi Δ=>∃(m:Nat) (R:List Int) (y z:L2.Slot),((r.drop 1).drop i).Perm R/\m+rowNum R ((r.drop 1).drop i)=rowNum (E.drop 1) (r.drop 1) /\ Δ = [.val (.lst (E.map D.int)),.val (encRow r),.val (.int (m:Int)),.own (.lst (R.map D.int)),y,z],⟨0,E.drop 1,_,_,(Zgz hp hh).1,Nat.zero_add _,rfl⟩,?_,?_⟩⟩)))))
  ·show some (D.tup (cutD (r.map D.int) (some 1) none))=_
   rw[Zdt,List.map_drop]
  ·rintro i d Δ2 hd ⟨m,R,y,z,hR,hm,rfl⟩
   rw[Wal]at hd;cases hx:(r.drop 1)[i]? with
   |none=>rw[hx]at hd;cases hd
   |some x=>
    rw[hx]at hd;cases hd;have hi:=(Wai.mp hx).1;have e1:(r.drop 1).drop i=x::(r.drop 1).drop (i+1):=by
     rw[List.drop_eq_getElem_cons hi,(Wai.mp hx).2]
    rw[e1]at hR hm;rw[Zf8]at hm;have hxR:x∈R:=hR.mem_iff.mp (by simp);obtain⟨i1,i2,_⟩:=Zew hxR;have hRl:R.length<=48:=by rw[<- hR.length_eq,<- e1,Wbh,Wbh];omega
    have hbig:=Zca (Zd1 (n:=R.length) (by omega));refine Zbs (Zaq (Zar (Zm0 (i:=3) rfl rfl (Zi1 (Zae rfl ⟨R,rfl,by omega,Zae rfl ⟨x,rfl,hxR,trivial,?_⟩⟩)))));refine Zaq (Zjk rfl (Zbe (Zae rfl (Zaw (Zab (Zei rfl rfl (Zah ⟨R.length,by rw[Wag],by omega,jr_I ⟨⟨by omega,?_⟩,by omega,hbig⟩ ⟨rfl,Zpd ?_⟩⟩)))))))
    ·exact Int.lt_of_le_of_lt (show _<=(1000:Int) by omega) (by decide +kernel)
    refine Zne (Zim rfl rfl (Zae rfl ⟨_,_,R.idxOf x,.int x,rfl,rfl,rfl,?_,?_,?_⟩))
    ·rw[Wal,i2];rfl
    ·rw[Wag];omega
    have er:R.eraseIdx (R.idxOf x)=R.erase x:=(Wbl rfl).symm;refine⟨m+R.idxOf x*rm R.length,R.eraseIdx (R.idxOf x),.val (.int x),.val (.int (R.idxOf x:Nat)),?_,by omega,?_⟩
    ·rw[er];exact List.Perm.cons_inv (hR.trans (Wb3 hxR))
    ·rw[Zby,<- Wcn,<- Int.natCast_add]
     rfl
  ·rintro Δ2 ⟨m,R,y,z,hR,hm,rfl⟩
   have e0:(r.drop 1).drop ((r.drop 1).map D.int).length=[]:=by rw[Wag,List.drop_length]
   rw[e0]at hR hm;have:m=rowNum (E.drop 1) (r.drop 1):=by
    rw[<- hm];rfl
   rw[this];exact⟨_,_,_,rfl⟩
 rintro Δ1 ⟨x,y,z,rfl⟩;exact Za6 (Zae rfl q)
theorem Zjn (mb:Mb mg) (C28:Callee P w K mg base 1 "rows_many" ["many"] (spD K fRm)) (C27:Callee P w K mg base 2 "row_number" ["ends","row"] (spD K fRowNum)) (C20:Callee P w K mg base 2 "ends_at" ["web","place"] (spN K fEnds)) (F:Fun K "number_of" "number_of" s_number_of f fd):FnOk P w K mg base CX0 3 f fd ["web","order"] (spD K fNumOf):=by
 refine F.ok sc_number_of (Zbp λds Post h=>by obtain⟨_,_,_,rfl,_⟩:=h;rfl) (λcdv A outer s H vs Q E hr h=>?_);have hu:=Zb7 hr;refine⟨_,(Zad (Zao (i:=2) sc_number_of.nd rfl (Or.inl rfl) Zaf) (Zad (Zdm PassesOwn.never rfl (Zfa K rfl (mb "enumerate" (by decide)) (Zaa (pv 1) Zac)) (gtupK (n:=2) K rfl (Zbn (Za0 (i:=3) sc_number_of.nd rfl (Or.inl rfl)) (Zbn (Za0 (i:=4) sc_number_of.nd rfl (Or.inl rfl)) Zex))) (Zam (Zao (i:=2) sc_number_of.nd rfl (Or.inl rfl) (Zap (addK K) (Zap Zhr (pv 2) (Zbb C28 (hr.mono (by decide)) (Zaa (Zal (lenK K) rfl (mb "len" (by decide)) Zb8 (Zaa (pv 4) Zac)) Zac))) (Zbb C27 (hr.mono (by decide)) (Zaa (Zbb C20 (hr.mono (by decide)) (Zaa (pv 0) (Zaa (pv 3) Zac))) (Zaa (pv 4) Zac))))))) (Zam (Za4 (pv 2))))),Zdz (λds Post hf=>?_) h⟩;obtain⟨N,ts,o,rfl,hW,hO,q⟩:=hf;refine⟨by simp,?_⟩;dsimp only[startD,Wbi,Wbn,Wa5,Wao];have hlo:=hW.lo;have hhi:=hW.hi;have hts:=hW.len;have hol:=hO.len;refine Zaq (Zar (Zas ?_));refine Zba (λΔ=>∃x y:L2.Slot,Δ = [.val (encWeb (N:Int) ts),.val (encOrd o),.val (.int (numN (endsP ts) o N:Nat)),x,y]) ?_ ?_
 ·refine Zdf (Zmu (Zab (Zae rfl (Zah ⟨_,Or.inr rfl,λi Δ=>∃x y:L2.Slot,Δ = [.val (encWeb (N:Int) ts),.val (encOrd o),.val (.int (numN (endsP ts) o i:Nat)),x,y],⟨_,_,rfl⟩,?_,?_⟩))))
  ·rintro i d Δ2 hd ⟨x,y,rfl⟩
   obtain⟨d1,hd1,rfl⟩:=Zi5 hd;rw[Wal]at hd1;cases hx:o[i]? with
   |none=>rw[hx]at hd1;cases hd1
   |some r=>
    rw[hx]at hd1;cases hd1;have hi:=(Wai.mp hx).1;have R:=hO.row i r hx;have hgd:o.getD i []=r:=by rw[Waq,hx];rfl
    have hle:=R.perm.length_eq;have hel:=Zdo ts i;have hb:=Zhs (E:=endsP ts) (o:=o) (λp r h=>⟨(hO.row p r h).perm,(hO.row p r h).first⟩) i (by omega);have h1:=Zca (Waz (Wb1 hb.1) (Zf9 hts i));have hrl:r.length=(endsP ts i).length:=hle;have h2:=Zca (Zd1 (n:=r.length) (by omega));refine Zh1 rfl (Zb3 (Zbs (Zb3 (Zbs (Zf6 ?_)))));refine Zar (Zbe (Zbe (Zae rfl (Zaw (Zab (Za8 (Zab (Zae rfl (Zah (Zcc (Or.inr rfl) (Zah ⟨r.length,?_,by omega,jr_I ⟨⟨by omega,h1⟩,by omega,h2⟩ ?_⟩)))))))))))
    ·rw[Wag]
    refine Zaw (Zab (Zc8 (Ze1 (Zab (Zae rfl (Zab (Zae rfl (Zah ⟨(N:Int),ts,(i:Int),rfl,hts,_,rfl,Zab (Zae rfl (Zah ⟨endsP ts i,r,rfl,R.perm,R.first,by omega,Zeb ?_⟩))⟩))))))));refine⟨.val (.int (i:Int)),.val (encRow r),?_⟩;show _=[_,_,Slot.val (D.int ((numN (endsP ts) o i*rm (endsP ts i).length+rowNum ((endsP ts i).drop 1) ((o.getD i []).drop 1):Nat):Int)),_,_];rw[hgd,<- hrl,Int.natCast_add,Wcn];rfl
  ·rintro Δ2 ⟨x,y,rfl⟩
   refine⟨x,y,?_⟩;rw[Zjc,Wag,show o.length=N by omega]
 rintro Δ1 ⟨x,y,rfl⟩;exact Za6 (Zae rfl q)
def isIntX:D->Bool
 |.int _=>true
 |_=>false
def fIsWX:DSp:=λds Post=>∃d T,ds=[d]/\tyD d=some T/\Post (.bl (isIntX d))
theorem Zna (mb:Mb mg) (F:Fun K "is_whole" "is_whole" s_is_whole f fd):FnOk P w K mg base CX0 1 f fd ["thing"] (spD K fIsWX):=by
 refine F.ok sc_is_whole (Zbp λds Post h=>by obtain⟨_,_,rfl,_⟩:=h;rfl) (λcdv A outer s H vs Q E hr h=>?_);have hu:=Zb7 hr;refine⟨_,(Zam (Za4 (Zk8 (Zal (isiUK K) rfl (mb "isinstance" (by decide)) Zaj (Zaa (pv 0) (Zaa (Zdd rfl (mb "int" (by decide)) Zk9 (show RelV (.ty "int") _ from rfl)) Zac))) (Zlb (Zld (Zal (isiUK K) rfl (mb "isinstance" (by decide)) Zaj (Zaa (pv 0) (Zaa (Zdd rfl (mb "bool" (by decide)) Zi8 (show RelV (.ty "bool") _ from rfl)) Zac)))))))),Zdz (λds Post hf=>?_) h⟩;obtain⟨d,T,rfl,hT,q⟩:=hf;refine⟨by simp,?_⟩;dsimp only[startD,Wbi,Wbn,Wa5];cases d with
 |int i=>
  refine Za6 (Zbw (Za8 (Zab (Zae rfl (Zab (Zcu (Zah (Zbj (T:="int") (b:=true) rfl (λ_=>by rfl) ⟨_,rfl,?_⟩))))))));rw[if_pos rfl];exact Zev (Za8 (Zab (Zae rfl (Zab (Zcu (Zah (Zbj (T:="int") (b:=false) rfl (λ_=>by rfl) ⟨_,rfl,q⟩)))))))
 |bl b=>
  refine Za6 (Zbw (Za8 (Zab (Zae rfl (Zab (Zcu (Zah (Zbj (T:="bool") (b:=true) rfl (λ_=>by rfl) ⟨_,rfl,?_⟩))))))));rw[if_pos rfl];exact Zev (Za8 (Zab (Zae rfl (Zab (Zcu (Zah (Zbj (T:="bool") (b:=true) rfl (λ_=>by rfl) ⟨_,rfl,q⟩)))))))
 |non=>exact Za6 (Zbw (Za8 (Zab (Zae rfl (Zab (Zcu (Zah (Zbj (T:="NoneType") (b:=false) rfl (λ_=>by rfl) ⟨_,rfl,iteF q⟩))))))))
 |str x=>exact Za6 (Zbw (Za8 (Zab (Zae rfl (Zab (Zcu (Zah (Zbj (T:="str") (b:=false) rfl (λ_=>by rfl) ⟨_,rfl,iteF q⟩))))))))
 |tup l=>exact Za6 (Zbw (Za8 (Zab (Zae rfl (Zab (Zcu (Zah (Zbj (T:="tuple") (b:=false) rfl (λ_=>by rfl) ⟨_,rfl,iteF q⟩))))))))
 |lst l=>exact Za6 (Zbw (Za8 (Zab (Zae rfl (Zab (Zcu (Zah (Zbj (T:="list") (b:=false) rfl (λ_=>by rfl) ⟨_,rfl,iteF q⟩))))))))
 |dct k l=>exact Za6 (Zbw (Za8 (Zab (Zae rfl (Zab (Zcu (Zah (Zbj (T:="dict") (b:=false) rfl (λ_=>by rfl) ⟨_,rfl,iteF q⟩))))))))
 |_=>cases hT
theorem Zis:2<=sizeLine:=by decide
end
def fOaX (c:Addr):XSp:=λds Post Xp=>∃(N:Nat) (ts:List (Int × Int)) (d:D),ds=[encWeb (N:Int) ts,d]/\WebOk (N:Int) ts/\(∃T,tyD d=some T)/\(∀i:Int,d=.int i->i<0\/((ways N ts:Nat):Int)<=i)/\Xp c
theorem Zd8:1<=sizeLine:=by decide
section
variable {P:Program}{w:World}{K:W.Frag}{mg:Str->Option Value}{base:Heap}{f:Addr}{fd:FuncData}{c0 c1 c2 c3 c4 c5 c6 c7 c8 c9 c10 c11 c12 c13 c14 c15:Addr}
theorem Zom (mb:Mb mg) (cl:Cl K mg c0 c1 c2 c3 c4 c5 c6 c7 c8 c9 c10 c11 c12 c13 c14 c15) (C21:Callee P w K mg base 1 "is_whole" ["thing"] (spD K fIsWX)) (C24:Callee P w K mg base 3 "orders_many" ["web"] (spD K fOmB)) (C20:Callee P w K mg base 2 "ends_at" ["web","place"] (spN K fEnds)) (C28:Callee P w K mg base 1 "rows_many" ["many"] (spD K fRm)) (C26:Callee P w K mg base 2 "row_at" ["ends","number"] (spD K fRowAtB)) (F:Fun K "order_at" "order_at" s_order_at f fd):FnOk P w K mg base (CXE P w) 4 f fd ["web","number"] (spX K (fOaX c3)):=by
 refine F.okX sc_order_at (Znc λds Post Xp h=>by obtain⟨_,_,_,rfl,_⟩:=h;rfl) (λcdv A outer s H vs Q E hr h=>?_);have hu:=Zb7 hr;refine⟨_,(Zad (Zc7 (PW.pt (pw_or (Zgr (truK K (Zbb C21 (hr.mono (by decide)) (Zaa (pv 1) Zac)) (λ_=>rfl))) (pw_or1 (Zgr (Zgn Zoj Zlr Zaf (pv 1) (Zbb C24 (hr.mono (by decide)) (Zaa (pv 0) Zac))))))) (Zam (Zj3 cl.e_NoNumber rfl cl.n_NoNumber hr.hd Zjw (Zaa Zax Zac))) Zbc) Zfu),Zp5 (λds Post Xp hf=>?_) h⟩;obtain⟨N,ts,d,rfl,hW,⟨T,hT⟩,hb,hX⟩:=hf;refine⟨by simp,?_⟩;dsimp only[startD,Wbi,Wbn,Wa5,Wao];refine Zph (Zp9 (Zll (Zfb (Zdq (Zaw (Zab (Zae rfl (Zah ⟨d,T,rfl,hT,_,rfl,?_⟩))))))));cases c:isIntX d with
 |false=>exact iteT (iteT (Ze4 (Zab (Zc3 (Zah ⟨Zd8,hX⟩)))))
 |true=>
 obtain⟨i,rfl⟩:∃i,d=.int i:=by
  cases d with
  |int i=>exact⟨i,rfl⟩
  |_=>cases c
 refine iteF (Zfb (Zb0 (Zgp (Zas (Zae rfl (Ziv ⟨_,rfl,?_⟩))))));by_cases c1:0<=i
 ·rw[if_pos (decide_eq_true c1)]
  refine Zaw (Zab (Zae rfl (Zah ⟨N,ts,rfl,hW,Ziv ⟨_,rfl,?_⟩⟩)));rw[decide_eq_false (show ¬ i<((ways N ts:Nat):Int) by rcases hb i rfl with h|h <;> omega)]
  exact iteT (Ze4 (Zab (Zc3 (Zah ⟨Zd8,hX⟩))))
 ·rw[if_neg (by simp[c1])]
  exact⟨_,rfl,iteT (Ze4 (Zab (Zc3 (Zah ⟨Zd8,hX⟩))))⟩
end
def fWd (c:Addr) (xa:Addr):DSp:=λds Post=>ds=[.exc xa c]/\Post (.str "number")
theorem Za1 {K:W.Frag}{Δ:Evt}{Pd:List D->Evt->Prop}{x:Str}{a C c:Addr}{b:Bool}{tr:TA}(hx:Δ[0]?=some (.val (.exc a C))) (Z:ExcI K C) (e:PySem.W.kitOne K (.ref C) (.ref c)=some b) (h:JA K tr Δ λds Δ2=>Pd (.tup [.str x,.bl b]::ds) Δ2) :
  JA K (tCons (tTup (tCons (tC (.str x)) (tCons (tCB (rIsiE K) (tCons (tVar 0) (tCons (tC (.ref c)) tNil))) tNil))) tr) Δ Pd:=Zab (Zde (Zab (Zc3 (Zab (Za8 (Zab (Zae hx (Zab (Zpf (Zah (Zm2 Z e (Zah ⟨Zis,h⟩))))))))))))
def sndB:D->Bool
 |.tup [_,.bl b]=>b
 |_=>false
def fstD:D->D
 |.tup [a,_]=>a
 |d=>d
section
variable {P:Program}{w:World}{K:W.Frag}{mg:Str->Option Value}{base:Heap}{f:Addr}{fd:FuncData}{c0 c1 c2 c3 c4 c5 c6 c7 c8 c9 c10 c11 c12 c13 c14 c15:Addr}
theorem Zmh (mb:Mb mg) (cl:Cl K mg c0 c1 c2 c3 c4 c5 c6 c7 c8 c9 c10 c11 c12 c13 c14 c15) (F:Fun K "_law_word" "_law_word" s_law_word f fd) (xa:Addr):FnOkH xa P w K mg base CX0 1 f fd ["_law_e"] (spD K (fWd c3 xa)):=by
 refine F.okH sc_law_word (Zbp λds Post h=>by obtain⟨rfl,_⟩:=h;rfl) (λcdv A outer s H vs Q E hr h=>?_);have hu:(A.deeper (PyProof.Rows.envOfC "_law_word" (defScope s_law_word) s.heap.objs.size f cdv)).units+1<cLine:=Wbd (Wcp (by decide:1<=64) _) hr.units;refine⟨_,(Zad (Zao (i:=1) sc_law_word.nd rfl (Or.inl rfl) (Zbm (Zaa (Zaz (Zaa Zax (Zaa (Zal (isiEK K) rfl (mb "isinstance" (by decide)) Zaj (Zaa (pv 0) (Zaa (Za2 rfl cl.n_Apart (show RelV (.ref _) _ from rfl)) Zac))) Zac))) (Zaa (Zaz (Zaa Zax (Zaa (Zal (isiEK K) rfl (mb "isinstance" (by decide)) Zaj (Zaa (pv 0) (Zaa (Za2 rfl cl.n_NoEnd (show RelV (.ref _) _ from rfl)) Zac))) Zac))) (Zaa (Zaz (Zaa Zax (Zaa (Zal (isiEK K) rfl (mb "isinstance" (by decide)) Zaj (Zaa (pv 0) (Zaa (Za2 rfl cl.n_NoName (show RelV (.ref _) _ from rfl)) Zac))) Zac))) Zac))))) (Zad (Zao (i:=1) sc_law_word.nd rfl (Or.inl rfl) (Zap (addK K) (pv 1) (Zbm (Zaa (Zaz (Zaa Zax (Zaa (Zal (isiEK K) rfl (mb "isinstance" (by decide)) Zaj (Zaa (pv 0) (Zaa (Za2 rfl cl.n_NoNumber (show RelV (.ref _) _ from rfl)) Zac))) Zac))) (Zaa (Zaz (Zaa Zax (Zaa (Zal (isiEK K) rfl (mb "isinstance" (by decide)) Zaj (Zaa (pv 0) (Zaa (Za2 rfl cl.n_NoOrder (show RelV (.ref _) _ from rfl)) Zac))) Zac))) Zac))))) (Zad (Zao (i:=1) sc_law_word.nd rfl (Or.inl rfl) (Zap (addK K) (pv 1) (Zbm (Zaa (Zaz (Zaa Zax (Zaa (Zal (isiEK K) rfl (mb "isinstance" (by decide)) Zaj (Zaa (pv 0) (Zaa (Za2 rfl cl.n_NoPaper (show RelV (.ref _) _ from rfl)) Zac))) Zac))) (Zaa (Zaz (Zaa Zax (Zaa (Zal (isiEK K) rfl (mb "isinstance" (by decide)) Zaj (Zaa (pv 0) (Zaa (Za2 rfl cl.n_NoPlace (show RelV (.ref _) _ from rfl)) Zac))) Zac))) Zac))))) (Zad (Zao (i:=1) sc_law_word.nd rfl (Or.inl rfl) (Zap (addK K) (pv 1) (Zbm (Zaa (Zaz (Zaa Zax (Zaa (Zal (isiEK K) rfl (mb "isinstance" (by decide)) Zaj (Zaa (pv 0) (Zaa (Za2 rfl cl.n_NoRing (show RelV (.ref _) _ from rfl)) Zac))) Zac))) (Zaa (Zaz (Zaa Zax (Zaa (Zal (isiEK K) rfl (mb "isinstance" (by decide)) Zaj (Zaa (pv 0) (Zaa (Za2 rfl cl.n_NoRow (show RelV (.ref _) _ from rfl)) Zac))) Zac))) (Zaa (Zaz (Zaa Zax (Zaa (Zal (isiEK K) rfl (mb "isinstance" (by decide)) Zaj (Zaa (pv 0) (Zaa (Za2 rfl cl.n_NoTable (show RelV (.ref _) _ from rfl)) Zac))) Zac))) Zac)))))) (Zad (Zao (i:=1) sc_law_word.nd rfl (Or.inl rfl) (Zap (addK K) (pv 1) (Zbm (Zaa (Zaz (Zaa Zax (Zaa (Zal (isiEK K) rfl (mb "isinstance" (by decide)) Zaj (Zaa (pv 0) (Zaa (Za2 rfl cl.n_NoText (show RelV (.ref _) _ from rfl)) Zac))) Zac))) (Zaa (Zaz (Zaa Zax (Zaa (Zal (isiEK K) rfl (mb "isinstance" (by decide)) Zaj (Zaa (pv 0) (Zaa (Za2 rfl cl.n_NoTie (show RelV (.ref _) _ from rfl)) Zac))) Zac))) (Zaa (Zaz (Zaa Zax (Zaa (Zal (isiEK K) rfl (mb "isinstance" (by decide)) Zaj (Zaa (pv 0) (Zaa (Za2 rfl cl.n_NoWeb (show RelV (.ref _) _ from rfl)) Zac))) Zac))) Zac)))))) (Zad (Zao (i:=1) sc_law_word.nd rfl (Or.inl rfl) (Zap (addK K) (pv 1) (Zbm (Zaa (Zaz (Zaa Zax (Zaa (Zal (isiEK K) rfl (mb "isinstance" (by decide)) Zaj (Zaa (pv 0) (Zaa (Za2 rfl cl.n_TooGreat (show RelV (.ref _) _ from rfl)) Zac))) Zac))) (Zaa (Zaz (Zaa Zax (Zaa (Zal (isiEK K) rfl (mb "isinstance" (by decide)) Zaj (Zaa (pv 0) (Zaa (Za2 rfl cl.n_TooMany (show RelV (.ref _) _ from rfl)) Zac))) Zac))) Zac))))) (Zad (Zil (i:=2) ["_law_word_here","_law_one"] (show CompSc (defScope s_law_word) ["_law_e","_law_some","_law_found"] _ [] [] from ⟨rfl,by decide +kernel,by decide +kernel,by decide +kernel,rfl,by decide +kernel⟩) hr.hd sc_law_word.nd rfl (Or.inl rfl) (Zjs (pv 1)) (λ_ _ _ _ _=>(gtupH (n:=2) hr.hd (Zbn (Za0 (i:=0) (show List.Nodup (["_law_word_here","_law_one"]:List Str) from by decide) rfl (Or.inl rfl)) (Zbn (Za0 (i:=1) (show List.Nodup (["_law_word_here","_law_one"]:List Str) from by decide) rfl (Or.inl rfl)) Zex)))) (λ_ _ _ _ _=>(Zhx (truK K (pv 1) (λ_=>rfl)))) (λ_ _ _ _ _=>(pv 0))) (Zad (Zc7 (PW.pt (pw_and (Za7 Zcf (Zal (lenK K) rfl (mb "len" (by decide)) Zb8 (Zaa (pv 2) Zac)) Zaf (nomark _)) (pw_and1 (truK K (Zal (isiEK K) rfl (mb "isinstance" (by decide)) Zaj (Zaa (pv 0) (Zaa (Zdd rfl (mb "ValueError" (by decide)) Zeu (show RelV (.ty "ValueError") _ from rfl)) Zac))) (λ_=>rfl))))) (Zam (Za4 (Zb6 (ixK K hu) (pv 2) Zaf (λ_ _=>rfl)))) Zbc) (Zam (Za4 Zax)))))))))),Zdz (λds Post hf=>?_) h⟩
 obtain⟨rfl,q⟩:=hf;refine⟨by simp,?_⟩;dsimp only[startD,Wbi,Wbn,Wa5,Wao];refine Zaq (Zar (Zdu ?_));refine Za1 rfl cl.i_NoNumber cl.k_NoNumber_Apart ?_;refine Za1 rfl cl.i_NoNumber cl.k_NoNumber_NoEnd ?_;refine Za1 rfl cl.i_NoNumber cl.k_NoNumber_NoName ?_;refine Zah ⟨by decide,?_⟩;refine Zaq (Zar (Zbe (Zae rfl (Zdu ?_))));refine Za1 rfl cl.i_NoNumber cl.k_NoNumber_NoNumber ?_;refine Za1 rfl cl.i_NoNumber cl.k_NoNumber_NoOrder ?_;refine Zah ⟨by decide,Zcs (by decide) ?_⟩;refine Zaq (Zar (Zbe (Zae rfl (Zdu ?_))));refine Za1 rfl cl.i_NoNumber cl.k_NoNumber_NoPaper ?_;refine Za1 rfl cl.i_NoNumber cl.k_NoNumber_NoPlace ?_;refine Zah ⟨by decide,Zcs (by decide) ?_⟩;refine Zaq (Zar (Zbe (Zae rfl (Zdu ?_))));refine Za1 rfl cl.i_NoNumber cl.k_NoNumber_NoRing ?_;refine Za1 rfl cl.i_NoNumber cl.k_NoNumber_NoRow ?_;refine Za1 rfl cl.i_NoNumber cl.k_NoNumber_NoTable ?_;refine Zah ⟨by decide,Zcs (by decide) ?_⟩;refine Zaq (Zar (Zbe (Zae rfl (Zdu ?_))));refine Za1 rfl cl.i_NoNumber cl.k_NoNumber_NoText ?_;refine Za1 rfl cl.i_NoNumber cl.k_NoNumber_NoTie ?_;refine Za1 rfl cl.i_NoNumber cl.k_NoNumber_NoWeb ?_;refine Zah ⟨by decide,Zcs (by decide) ?_⟩;refine Zaq (Zar (Zbe (Zae rfl (Zdu ?_))));refine Za1 rfl cl.i_NoNumber cl.k_NoNumber_TooGreat ?_;refine Za1 rfl cl.i_NoNumber cl.k_NoNumber_TooMany ?_;refine Zah ⟨by decide,Zcs (by decide) ?_⟩;refine Zaq (Zar (Zj4 (Zj7 (by decide) (Zj0 (n:=0) (Zae rfl ⟨rfl,_,rfl,small1000 (by decide),sndB,fstD,λi d hd=>?_,?_⟩)))))
 ·have hm:=Wa4 hd
  obtain⟨x,b,rfl⟩:∃x b,d=.tup [.str x,.bl b]:=by
   simp only[Wa9,List.nil_append,Wat,Wbe,or_false]at hm;rcases hm with rfl|rfl|rfl|rfl|rfl|rfl|rfl|rfl|rfl|rfl|rfl|rfl|rfl|rfl|rfl <;> exact⟨_,_,rfl⟩
  refine⟨_,_,rfl,Zdq (Zae rfl ⟨b,rfl,rfl,?_⟩)⟩;exact ite2 (λ_=>Zae rfl ⟨rfl,_,_,rfl⟩) (λ_=>⟨_,_,rfl⟩)
 refine Zaq (Zec (Zi0 (Zb0 (Zbe (Za8 (Zab (Zae rfl (Zah (Zcc (Or.inl rfl) (Zas (Zg4 ⟨true,rfl,iteT ?_⟩)))))))))));refine Zdq (Za8 (Zab (Zae rfl (Zab (Zcu (Zah (Zkd cl.i_NoNumber cl.t_NoNumber ⟨true,rfl,iteT ?_⟩)))))));exact Za6 (Zc6 (Zpg rfl rfl) q)
end
def lam8:Expr:=callArg (cmpLeft (ifTest ((forBody ((defBody s_law).getD 5 (.Pass ⟨0,0,0,0⟩))).getD 0 (.Pass ⟨0,0,0,0⟩))))
abbrev qual8:Str:=(Str.ofString "law" ++ ".<locals>.") ++ "<lambda>"
abbrev fT8 (c:Addr):DSp:=fTold (fOaX c) (λC=>C=c) λ_=>"number"
section
variable {P:Program}{w:World}{K:W.Frag}{mg:Str->Option Value}{base:Heap}{f:Addr}{fd:FuncData}{c0 c1 c2 c3 c4 c5 c6 c7 c8 c9 c10 c11 c12 c13 c14 c15:Addr}
theorem Zo8 {l:Addr}{clos:List (Str × Addr)}{pm:Value}{c':Addr}{ctv:Value}{cs:List V}(C23:CalleeX P w K mg base 4 "order_at" ["web","number"] (spX K (fOaX c3))) (L:LamAt base l qual8 (lamOf lam8).1 (lamOf lam8).2.1 (lamOf lam8).2.2.1 clos pm c' ctv ["_law_web_here","_law_thing"] cs) :
  FnOk P w K mg base (CXE P w) 5 l (PySem.W.kla_fn "<lambda>" qual8 (lamOf lam8).1 (lamOf lam8).2.1 (lamOf lam8).2.2.1 clos pm (.ref c') ctv) [] (λvs H Q E=>vs=[]/\spX K (fOaX c3) cs H Q E):=by
 refine Zpq L λA outer s H Q E hr h=>⟨_,Zpo C23 (hr.mono (by decide)) Zke (Zaa (pv 0) (Zaa (pv 1) Zac)),?_⟩;have hl:=L.len
 match cs,hl,h with
 |[v0,v1],_,h=>exact⟨v0,rfl,v1,rfl,h⟩
theorem Zmc {l:Addr}{cs:List V}{fdl:FuncData}(mb:Mb mg) (cl:Cl K mg c0 c1 c2 c3 c4 c5 c6 c7 c8 c9 c10 c11 c12 c13 c14 c15) (C19:CalleeH P w K mg base 1 "_law_word" ["_law_e"] (λxa=>spD K (fWd c3 xa))) (FL:FnOk P w K mg base (CXE P w) 5 l fdl [] (λvs H Q E=>vs=[]/\spX K (fOaX c3) cs H Q E)) (hl:PySem.W.FnAt l base) (hb:∀s,BindsTo s fdl ⟨[],[]⟩ [])
  (F:Fun K "_law_told" "_law_told" s_law_told f fd):FnOk P w K mg base CX0 6 f fd ["_law_asked"] (λvs H Q E=>vs=[.ref l]/\spD K (fT8 c3) cs H Q E):=by
 refine F.ok sc_law_told (λvs H Q E h=>by rw[h.1];rfl) (λcdv A outer s H vs Q E hr h=>?_);obtain⟨rfl,h⟩:=h;have hu:=Zb7 hr;refine⟨_,(Zad (Zao (i:=1) sc_law_told.nd rfl (Or.inl rfl) Zk4) (Zad (Zos (i:=2) (n:=3) sc_law_told.nd rfl rfl rfl rfl rfl rfl rfl cl.n_FloorError cl.e_FloorError (λE pn xe hx=>(Zam (Zao (i:=1) sc_law_told.nd rfl (Or.inl rfl) (Zaz (Zaa Zax (Zaa (Zpa FL hl hb (hr.mono (by decide)) hx (i:=0) rfl (Or.inl rfl)) Zac)))))) (λa=>(Zam (Zao (i:=1) sc_law_told.nd rfl (Or.inl rfl) (Zaz (Zaa Zax (Zaa (Zpi C19 (Room.mark (hr.mono (by decide)) a) (Zaa (pv 2) Zac)) Zac))))))) (Zam (Za4 (pv 1))))),Zko h (λC hC=>?_)⟩;subst hC;exact⟨⟨cl.e_NoNumber,cl.m_NoNumber⟩,λa Post hp=>Zar (Zde (Zab (Zc3 (Zab (Zaw (Zab (Zae rfl (Zah ⟨rfl,Zah ⟨Zis,_,_,_,rfl,hp⟩⟩))))))))⟩
end
theorem Znb {P:Program}{w:World}{K:W.Frag}{mg:Str->Option Value}{h:Heap}{c0 c1 c2 c3 c4 c5 c6 c7 c8 c9 c10 c11 c12 c13 c14 c15:Addr}(mb:Mb mg) (cl:Cl K mg c0 c1 c2 c3 c4 c5 c6 c7 c8 c9 c10 c11 c12 c13 c14 c15) {f:Addr}{fd:FuncData}(F:Fun K "_law_told" "_law_told" s_law_told f fd) (hm:mg "_law_told" = some (.ref f))
  (CO:∀base,CalleeX P w K mg base 4 "order_at" ["web","number"] (spX K (fOaX c3))) (CW:∀base,CalleeH P w K mg base 1 "_law_word" ["_law_e"] (λxa=>spD K (fWd c3 xa))) :
  ToldL P w K mg 6 "_law_told" qual8 (lamOf lam8).1 (lamOf lam8).2.1 (lamOf lam8).2.2.1 ["_law_web_here","_law_thing"] (spD K (fT8 c3)):=
 ⟨⟨f,fd,F.binds λ_ _ _ _ _ _ us hl=>(match us,hl with | [_],_=>rfl),F.kp,hm,λbase' l clos pm c' ctv cs L=>Zmc mb cl (CW base') (Zo8 (CO base') L) ⟨_,_,_,_,L.obj⟩ (λs=>.of_eq rfl) F⟩⟩
section
variable {P:Program}{w:World}{K:W.Frag}{mg:Str->Option Value}{base:Heap}{f:Addr}{fd:FuncData}
theorem Zmw {N:Nat}{ts:List (Int × Int)}(n:Nat):OrdOk (N:Int) ts (ordN (endsP ts) N n):=by
 refine⟨by rw[Zbo],λp r h=>?_⟩;obtain⟨h1,h2⟩:=Zhc (Zbg ts _ _) r (Zgx (endsP ts) N n p r h);exact⟨h1,h2⟩
theorem Zjt {N:Nat}{ts:List (Int × Int)}{n:Nat}(h:n<ways N ts):numN (endsP ts) (ordN (endsP ts) N n) N=n:=Zih (λp=>Zbg ts _ _) N n h _ λ_ _=>rfl
end
abbrev pl8:List (Pos × Str):=[((lamOf lam8).2.2.2,qual8)]
theorem Zj6:(defScope s_law).names.lookup (Str.ofString "!0")=none:=by decide +kernel
def Bad8 (m:Int) (d:D):Prop:=(∃T,tyD d=some T)/\∀i:Int,d=.int i->i<0\/m<=i
theorem Zhh {m i:Int}(h:i<0\/m<=i):Bad8 m (.int i):=⟨⟨_,rfl⟩,λj e=>by cases e;exact h⟩
theorem Zcy {m:Int}{d:D}(T:String) (h:tyD d=some T) (hi:isIntX d=false):Bad8 m d:=⟨⟨T,h⟩,λj e=>by subst e;cases hi⟩
section
variable {P:Program}{w:World}{K:W.Frag}{mg:Str->Option Value}{base:Heap}{f c T:Addr}{fd:FuncData}{c0 c1 c2 c3 c4 c5 c6 c7 c8 c9 c10 c11 c12 c13 c14 c15:Addr}
theorem ok_law (mb:Mb mg) (KB:K.In base) (NB:base.Ns mainGlobals mg) (hC:codeOfF K f c T=true) (HB:base.BuiltinsAt mg T) (CT0:ToldL P w K mg 6 "_law_told" qual8 (lamOf lam8).1 (lamOf lam8).2.1 (lamOf lam8).2.2.1 ["_law_web_here","_law_thing"] (spD K (fT8 c3)))
  (C17:Callee P w K mg base 1 "_law_pen" ["_law_script"] (spN K fPen)) (C16:Callee P w K mg base 1 "_law_draw" ["_law_pen_here","_law_many"] (spB K fDraw)) (C18:Callee P w K mg base 2 "_law_web" ["_law_pen_here","_law_places","_law_ties"] (spB K fWeb)) (C24:Callee P w K mg base 3 "orders_many" ["web"] (spD K fOmB)) (C22:Callee P w K mg base 3 "number_of" ["web","order"] (spD K fNumOf)) (C23:Callee P w K mg base 4 "order_at" ["web","number"] (spD K fOrdAt))
  (F:Fun K "law" "law" s_law f fd):FnOk P w K mg base CX0 7 f fd ["_law_script"] (spLT K T fLaw):=by
 refine F.okT hC sc_law (Zj9 λds Post h=>by obtain⟨_,rfl,_⟩:=h;rfl) (λA outer s H vs Q E hr hCh h=>?_);have hu:=Zb7 hr;have hv:=Zqa hr;have CH:=PySem.W.codeHd_of_K KB hCh;refine⟨_,Znk (i:=7) rfl (λx hx=>?_) (by (refine' Zad ?s ?r); (case s=>exact(Zao (i:=1) sc_law.nd rfl (Or.inl rfl) (Zbb C17 (hr.mono (by decide)) (Zaa (pv 0) Zac)))); (case r=>exact(by (refine' Zad ?s ?r); (case s=>exact(Zao (i:=2) sc_law.nd rfl (Or.inr rfl) (Zbb C18 (hr.mono (by decide)) (Zaa (pv 1) (Zaa Zaf (Zaa Zaf Zac)))))); (case r=>exact(by (refine' Zad ?s ?r); (case s=>exact(Zao (i:=3) sc_law.nd rfl (Or.inl rfl) (Zbb C24 (hr.mono (by decide)) (Zaa (pv 2) Zac)))); (case r=>exact(by (refine' Zad ?s ?r); (case s=>exact(Zao (i:=4) sc_law.nd rfl (Or.inl rfl) (Zbb C16 (hr.mono (by decide)) (Zaa (pv 1) (Zaa (Zap Zk2 Zaf Zaf) Zac))))); (case r=>exact(by (refine' Zad ?s ?r); (case s=>exact(Zao (i:=5) sc_law.nd rfl (Or.inl rfl) (Zbm (Zaa (pv 3) (Zaa (Zap (addK K) (pv 3) Zaf) (Zaa (Zap (addK K) (pv 3) (pv 4)) (Zaa (Zap Zco Zaf Zaf) (Zaa (Zap Zco (Zap Zco Zaf Zaf) (pv 4)) (Zaa (Zap Zco Zaf (pv 3)) (Zaa Zm5 (Zaa Zm5 (Zaa Zk4 (Zaa Zax (Zaa Zax (Zaa (Zbm (Zaa Zaf Zac)) (Zaa (Zaz (Zaa Zaf Zac)) (Zaa Zkf (Zaa (Zbm Zac) (Zaa (Zaz Zac) Zac))))))))))))))))))); (case r=>exact(by (refine' Zad ?s ?r); (case s=>exact(Zdm PassesOwn.never rfl (seqK K (Zap (addK K) (pv 5) (Zbm (Zaa (Zck strUK rfl (mb "str" (by decide)) Zpc (Zaa (Zap Zco (pv 3) Zaf) Zac)) (Zaa (Zbm (Zaa (Zap Zco (pv 3) Zaf) Zac)) (Zaa (@Zqd _ _ _ _ _ _ _ _) Zac)))))) (Za0 (i:=6) sc_law.nd rfl (Or.inr rfl)) (Zam (Zc7 (Za7 (neSmTK K hv) (Zmg (i:=7) CT0 (show LamSc (defScope s_law) ["_law_script","_law_pen_here","_law_web_here","_law_many","_law_far","_law_some","_law_thing","!0"] _ ["_law_web_here","_law_thing"] [2,6] from ⟨rfl,rfl,rfl,by decide +kernel,by decide +kernel,rfl,by decide +kernel⟩) (hr.mono (by decide)) rfl CH HB) (Zaz (Zaa Zax (Zaa Zax Zac))) (nomark _)) (Zam (Za4 Zm5)) Zbc)))); (case r=>exact(Zam (Za4 (Znd Zcf (Zbb C22 (hr.mono (by decide)) (Zaa (pv 2) (Zaa (Zbb C23 (hr.mono (by decide)) (Zaa (pv 2) (Zaa (Zap Zco (pv 3) Zaf) Zac))) Zac))) (Zap Zco (pv 3) Zaf) (nomark _)))))))))))))))),Znv (pl:=pl8) (λds Post hf=>?_) h⟩
 ·cases hx
  rintro(z|z|z) <;> (have z:(defScope s_law).names.lookup (Str.ofString "!0")=_:=z;rw[Zj6]at z;cases z)
 obtain⟨ns,rfl,hl,q⟩:=hf;refine⟨by show 1<=7;decide,by show 7<8;decide,?_⟩;dsimp only[startD,Wbi,Wbn,Wa5,Wao];refine Zaq (Zcv (Ze1 (Zab (Zae rfl (Zah ⟨ns,rfl,hl,λps hp=>?_⟩)))));refine Zaq (Zar (Zfp rfl rfl (Zab (Zas (Zab (Zas (Zah (Zpw rfl rfl hp (by decide) (by decide) (by decide) (by decide) λn ts p1 hp1 hW _ _=>?_))))))));obtain⟨N,rfl⟩:∃N:Nat,n=(N:Int):=⟨n.toNat,by have:=hW.lo;omega⟩;have w1:1<=ways N ts:=Zgu (λp=>Zc5 _) N;have w2:ways N ts<=258623241511168180642964355153611979969197632389120000000000:=Zf9 hW.len N;refine Zaq (Zar (Zaw (Zab (Zae rfl (Zah ⟨N,ts,rfl,hW,?_⟩)))));generalize em:((ways N ts:Nat):Int)=m;refine Zaq (Zar (Zfp rfl rfl (Zab (Zc6 (Zbd Zau Zau (pr_I ⟨by decide,by decide,by decide⟩)) (Zah (Zcb (m:=10 ^ (59:Int).toNat) rfl rfl hp1 (by decide) (by decide) λfar p2 hp2 f0 f1=>?_))))));have f1:far<100000000000000000000000000000000000000000000000000000000000:=f1;refine Zba (λΔ=>∃ys:List D,ys.length=16/\(∀y∈ys,Bad8 m y) /\ Δ = [.val (.scr (ns.map .int)),.own (.lst p2),.val (encWeb (N:Int) ts),.val (.int m),.val (.int far),.val (.lst ys),.any,.bor (.ext (TabR T pl8))]) ?_ ?_
 ·refine Zar (Zc6 (Zfv (Zan (Zay rfl) (Zan (Zbd (Zay rfl) Zau Zdl) (Zan (Zbd (Zay rfl) (Zay rfl) Zdl) (Zan (Zbd Zau Zau Zek) (Zan (Zbd (Zbd Zau Zau Zek) (Zay rfl) Zek) (Zan (Zbd Zau (Zay rfl) Zek) (Zan Zob (Zan Zob (Zan Zoy (Zan Zk5 (Zan Zk5 (Zan (Zfv (Zan Zau Zbu) Zd8) (Zan (Zlc (Zan Zau Zbu) Zd8) (Zan Zmm (Zan (Zfv Zbu (by decide)) (Zan (Zlc Zbu (by decide)) Zbu)))))))))))))))) (by show 16<=sizeLine;decide)) ⟨_,rfl,?_,rfl⟩)
  intro y hy;simp only[Wat,Wbe,or_false]at hy;rcases hy with rfl|rfl|rfl|rfl|rfl|rfl|rfl|rfl|rfl|rfl|rfl|rfl|rfl|rfl|rfl|rfl
  ·exact Zhh (.inr (by omega))
  ·exact Zhh (.inr (by omega))
  ·exact Zhh (.inr (by omega))
  ·exact Zhh (.inl (by omega))
  ·exact Zhh (.inl (by omega))
  ·exact Zhh (.inl (by omega))
  ·exact Zcy "bool" rfl rfl
  ·exact Zcy "bool" rfl rfl
  ·exact Zcy "NoneType" rfl rfl
  ·exact Zcy "str" rfl rfl
  ·exact Zcy "str" rfl rfl
  ·exact Zcy "list" rfl rfl
  ·exact Zcy "tuple" rfl rfl
  ·exact Zcy "dict" rfl rfl
  ·exact Zcy "list" rfl rfl
  ·exact Zcy "tuple" rfl rfl
 rintro Δ1 ⟨ys,hyl,hys,rfl⟩;refine Zba (λΔ=>∃x6:L2.Slot,Δ = [.val (.scr (ns.map .int)),.own (.lst p2),.val (encWeb (N:Int) ts),.val (.int m),.val (.int far),.val (.lst ys),x6,.bor (.ext (TabR T pl8))]) ?_ ?_
 ·refine Zdf (Zlh (Zc6 (Zbd (Zay rfl) (Zfv (Zan (Zpz (Zan (Zbd (Zay rfl) Zau Zek) Zbu) λP p=>Zl1 (Zpl (by omega) (by omega)) p) (Zan (Zfv (Zan (Zbd (Zay rfl) Zau Zek) Zbu) Zd8) (Zan Zm1 Zbu))) (by show 3<=sizeLine;decide)) (Zm6 (by rw[hyl];show 16+3<=sizeLine;decide))) ⟨_,Or.inl rfl,λ_ Δ=>∃x6:L2.Slot,Δ = [.val (.scr (ns.map .int)),.own (.lst p2),.val (encWeb (N:Int) ts),.val (.int m),.val (.int far),.val (.lst ys),x6,.bor (.ext (TabR T pl8))],⟨_,rfl⟩,?_,λ_ h=>h⟩))
  rintro i d Δ2 hd ⟨x6,rfl⟩;have hbad:Bad8 m d:=by
   rcases Wbb.mp (Wa4 hd) with h|h
   ·exact hys d h
   ·simp only[Wat,Wbe,or_false]at h
    rcases h with rfl|rfl|rfl
    ·exact Zcy "str" rfl rfl
    ·exact Zcy "list" rfl rfl
    ·exact Zcy "dict" rfl rfl
  refine Zbs (Zec (Zb0 (Zbe (Zn9 (ds:=[encWeb (N:Int) ts,d]) base rfl Wa7 (λp hp _ _=>by rw[Wcr.mp hp]) rfl ⟨λC=>C=c3,⟨N,ts,d,rfl,hW,hbad.1,by rw[em];exact hbad.2,rfl⟩,λC hC=>⟨hC,?_⟩⟩))));exact Zde (Zab (Zc3 (Zab (Zc3 (Zah ⟨Zis,Zov (n:=1) (by decide) rfl ⟨_,rfl,iteF (Zbx ⟨_,rfl⟩)⟩⟩)))))
 rintro Δ1 ⟨x6,rfl⟩;have e1:m-1=((ways N ts-1:Nat):Int):=by omega
 refine Za6 (Zbe (Zaw (Zab (Zae rfl (Zab (Zaw (Zab (Zae rfl (Zab (Zc6 (Zbd (Zay rfl) Zau Zek) ?_))))))))));rw[e1];refine Zah ⟨N,ts,ways N ts-1,rfl,hW,by omega,Zah ⟨N,ts,_,rfl,hW,Zmw _,Zc6 (Zbd (Zay rfl) Zau Zek) (Zg4 ?_)⟩⟩;rw[Zjt (by omega),<- e1,decide_eq_true rfl];exact⟨rfl,q⟩
end
theorem lenS {us:List Value}{n:Nat}(h:us.length=n+1):∃a t,us=a::t/\t.length=n:=by
 cases us with
 |nil=>exact absurd h.symm (Nat.succ_ne_zero n)
 |cons a t=>exact⟨a,t,rfl,Nat.succ.inj h⟩
theorem bK1 {α:Type _}{g r:List Value -> α}(h:∀a0,g [a0]=r [a0]) (us:List Value) (l:us.length=1):g us=r us:=by
 obtain⟨a0,u0,rfl,h0⟩:=lenS l;obtain rfl:=Wbp h0;exact h a0
theorem bK2 {α:Type _}{g r:List Value -> α}(h:∀a0 a1,g [a0,a1]=r [a0,a1]) (us:List Value) (l:us.length=2):g us=r us:=by
 obtain⟨a0,u0,rfl,h0⟩:=lenS l;obtain⟨a1,u1,rfl,h1⟩:=lenS h0;obtain rfl:=Wbp h1;exact h a0 a1
theorem bK3 {α:Type _}{g r:List Value -> α}(h:∀a0 a1 a2,g [a0,a1,a2]=r [a0,a1,a2]) (us:List Value) (l:us.length=3):g us=r us:=by
 obtain⟨a0,u0,rfl,h0⟩:=lenS l;obtain⟨a1,u1,rfl,h1⟩:=lenS h0;obtain⟨a2,u2,rfl,h2⟩:=lenS h1;obtain rfl:=Wbp h2;exact h a0 a1 a2
def FnE (K:W.Frag) (x:Str) (st:Stmt):Prop:=∃(f:Addr) (fd:FuncData),W.nsIn K mainGlobals x=some (some (.ref f))/\Fun K x x st f fd
theorem fnE {K:W.Frag}{x:Str}{st:Stmt}{f:Addr}{oc kV doc pm cdv ct:Value}{od an:Option Addr}{sl:Array (Option Value)}(a:W.nsIn K mainGlobals x=some (some (.ref f))) (l:K.lookup f=some ⟨oc,od,.func (W.fnOf x x (defArgs st) (defBody st) (defScope st) .none kV doc pm an cdv ct),sl⟩) (c:W.codeIn K cdv x=true) (k:W.keepIn K (.ref f)=true):FnE K x st:=⟨f,_,a,Zno l c k⟩
theorem Zi2 {P:Program}{w:World}{K:W.Frag}{mg:Str->Option Value}{base h:Heap}(X:K.In h) (G:h.Ns mainGlobals mg) {x:Str}{st:Stmt}{ps:List Str}{lv:Nat}{sp:Sp}(e:FnE K x st) (ok:∀{f:Addr}{fd:FuncData},Fun K x x st f fd->FnOk P w K mg base CX0 lv f fd ps sp) (hb:∀(kV doc pm:Value) (an:Option Addr) (cdv ct:Value) (us:List Value),us.length=ps.length->bindArgs (W.fnOf x x (defArgs st) (defBody st) (defScope st) .none kV doc pm an cdv ct) ⟨us,[]⟩=pure (ps.zip us)):Callee P w K mg base lv x ps sp:=by
 obtain⟨f,fd,a,F⟩:=e;exact⟨⟨f,fd,ok F,F.binds hb,F.kp,W.mg_of X G a⟩⟩
theorem Zkt {P:Program}{w:World}{K:W.Frag}{mg:Str->Option Value}{base h:Heap}(X:K.In h) (G:h.Ns mainGlobals mg) {x:Str}{st:Stmt}{ps:List Str}{lv:Nat}{sp:Addr->Sp}(e:FnE K x st) (ok:∀{f:Addr}{fd:FuncData},Fun K x x st f fd->∀xa,FnOkH xa P w K mg base CX0 lv f fd ps (sp xa)) (hb:∀(kV doc pm:Value) (an:Option Addr) (cdv ct:Value) (us:List Value),us.length=ps.length->bindArgs (W.fnOf x x (defArgs st) (defBody st) (defScope st) .none kV doc pm an cdv ct) ⟨us,[]⟩=pure (ps.zip us)):CalleeH P w K mg base lv x ps sp:=by
 obtain⟨f,fd,a,F⟩:=e;exact⟨⟨f,fd,ok F,F.binds hb,F.kp,W.mg_of X G a⟩⟩
theorem Zku {P:Program}{w:World}{K:W.Frag}{mg:Str->Option Value}{base h:Heap}(X:K.In h) (G:h.Ns mainGlobals mg) {x:Str}{st:Stmt}{ps:List Str}{lv:Nat}{sp:Sp}(e:FnE K x st) (ok:∀{f:Addr}{fd:FuncData},Fun K x x st f fd->FnOk P w K mg base (CXE P w) lv f fd ps sp) (hb:∀(kV doc pm:Value) (an:Option Addr) (cdv ct:Value) (us:List Value),us.length=ps.length->bindArgs (W.fnOf x x (defArgs st) (defBody st) (defScope st) .none kV doc pm an cdv ct) ⟨us,[]⟩=pure (ps.zip us)):CalleeX P w K mg base lv x ps sp:=by
 obtain⟨f,fd,a,F⟩:=e;exact⟨⟨f,fd,ok F,F.binds hb,F.kp,W.mg_of X G a⟩⟩
theorem Zhf {K:W.Frag}{f c T:Addr}(h:codeOfF K f c T=true):PySem.W.codeHdIn K c T=true:=by
 unfold codeOfF at h;split at h
 ·rw[Wa1]at h;exact h.2
 ·cases h
theorem all_mk {l:PySem.W.OpenLaw}{w:World}{K:W.Frag}{h:Heap}{mg:Str->Option Value}{fa:Addr}(X:K.In h) (G:h.Ns mainGlobals mg) (hfa:mg "law" = some (.ref fa))
  (e1:FnE K "_law_draw" s_law_draw)
  (e2:FnE K "_law_pen" s_law_pen)
  (e3:FnE K "_law_web" s_law_web)
  (e4:FnE K "place_of" s_place_of)
  (e5:FnE K "ends_at" s_ends_at)
  (e6:FnE K "rows_many" s_rows_many)
  (e7:FnE K "is_whole" s_is_whole)
  (e8:FnE K "orders_many" s_orders_many)
  (e9:FnE K "row_at" s_row_at)
  (e10:FnE K "order_at" s_order_at)
  (e11:FnE K "row_number" s_row_number)
  (e12:FnE K "number_of" s_number_of)
  (e13:FnE K "_law_word" s_law_word)
  (e14:FnE K "_law_told" s_law_told)
  (e15:FnE K "law" s_law)
  (z0:W.nsIn K mainGlobals "ValueError" = some none)
  (z1:W.nsIn K mainGlobals "abs" = some none)
  (z2:W.nsIn K mainGlobals "bool" = some none)
  (z3:W.nsIn K mainGlobals "divmod" = some none)
  (z4:W.nsIn K mainGlobals "enumerate" = some none)
  (z5:W.nsIn K mainGlobals "int" = some none)
  (z6:W.nsIn K mainGlobals "isinstance" = some none)
  (z7:W.nsIn K mainGlobals "len" = some none)
  (z8:W.nsIn K mainGlobals "min" = some none)
  (z9:W.nsIn K mainGlobals "range" = some none)
  (z10:W.nsIn K mainGlobals "reversed" = some none)
  (z11:W.nsIn K mainGlobals "str" = some none)
  (z12:W.nsIn K mainGlobals "tuple" = some none)
  {c_FloorError c_NoWeb c_NoOrder c_NoNumber c_NoEnd c_NoTie c_NoPlace c_NoTable c_NoRing c_NoPaper c_Apart c_TooMany c_TooGreat c_NoText c_NoName c_NoRow:Addr}
  (n_FloorError:W.nsIn K mainGlobals "FloorError" = some (some (.ref c_FloorError)))
  (e_FloorError:PySem.W.excIn K c_FloorError [.type "ValueError",.type "Exception",.type "BaseException",.type "object"] "ValueError.__new__" = true)
  (n_NoWeb:W.nsIn K mainGlobals "NoWeb" = some (some (.ref c_NoWeb)))
  (n_NoOrder:W.nsIn K mainGlobals "NoOrder" = some (some (.ref c_NoOrder)))
  (n_NoNumber:W.nsIn K mainGlobals "NoNumber" = some (some (.ref c_NoNumber)))
  (e_NoNumber:PySem.W.excIn K c_NoNumber [.type "ValueError",.type "Exception",.type "BaseException",.type "object"] "ValueError.__new__" = true)
  (n_NoEnd:W.nsIn K mainGlobals "NoEnd" = some (some (.ref c_NoEnd)))
  (n_NoTie:W.nsIn K mainGlobals "NoTie" = some (some (.ref c_NoTie)))
  (n_NoPlace:W.nsIn K mainGlobals "NoPlace" = some (some (.ref c_NoPlace)))
  (n_NoTable:W.nsIn K mainGlobals "NoTable" = some (some (.ref c_NoTable)))
  (n_NoRing:W.nsIn K mainGlobals "NoRing" = some (some (.ref c_NoRing)))
  (n_NoPaper:W.nsIn K mainGlobals "NoPaper" = some (some (.ref c_NoPaper)))
  (n_Apart:W.nsIn K mainGlobals "Apart" = some (some (.ref c_Apart)))
  (n_TooMany:W.nsIn K mainGlobals "TooMany" = some (some (.ref c_TooMany)))
  (n_TooGreat:W.nsIn K mainGlobals "TooGreat" = some (some (.ref c_TooGreat)))
  (n_NoText:W.nsIn K mainGlobals "NoText" = some (some (.ref c_NoText)))
  (n_NoName:W.nsIn K mainGlobals "NoName" = some (some (.ref c_NoName)))
  (n_NoRow:W.nsIn K mainGlobals "NoRow" = some (some (.ref c_NoRow)))
  (gsx:PySem.W.specialIn K (.builtin "object.__class__") "__get__" = some (some (.builtin "getset_descriptor.__get__")))
  (tkx:PySem.W.takesIn K (.builtin "object.__class__")=some true)
  (ic_Apart:PySem.W.isClsIn K c_Apart=true)
  (ty_Apart:PySem.W.typeIn K (.ref c_Apart)=some (.type "type"))
  (ic_NoEnd:PySem.W.isClsIn K c_NoEnd=true)
  (ty_NoEnd:PySem.W.typeIn K (.ref c_NoEnd)=some (.type "type"))
  (ic_NoName:PySem.W.isClsIn K c_NoName=true)
  (ty_NoName:PySem.W.typeIn K (.ref c_NoName)=some (.type "type"))
  (ic_NoNumber:PySem.W.isClsIn K c_NoNumber=true)
  (ty_NoNumber:PySem.W.typeIn K (.ref c_NoNumber)=some (.type "type"))
  (ic_NoOrder:PySem.W.isClsIn K c_NoOrder=true)
  (ty_NoOrder:PySem.W.typeIn K (.ref c_NoOrder)=some (.type "type"))
  (ic_NoPaper:PySem.W.isClsIn K c_NoPaper=true)
  (ty_NoPaper:PySem.W.typeIn K (.ref c_NoPaper)=some (.type "type"))
  (ic_NoPlace:PySem.W.isClsIn K c_NoPlace=true)
  (ty_NoPlace:PySem.W.typeIn K (.ref c_NoPlace)=some (.type "type"))
  (ic_NoRing:PySem.W.isClsIn K c_NoRing=true)
  (ty_NoRing:PySem.W.typeIn K (.ref c_NoRing)=some (.type "type"))
  (ic_NoRow:PySem.W.isClsIn K c_NoRow=true)
  (ty_NoRow:PySem.W.typeIn K (.ref c_NoRow)=some (.type "type"))
  (ic_NoTable:PySem.W.isClsIn K c_NoTable=true)
  (ty_NoTable:PySem.W.typeIn K (.ref c_NoTable)=some (.type "type"))
  (ic_NoText:PySem.W.isClsIn K c_NoText=true)
  (ty_NoText:PySem.W.typeIn K (.ref c_NoText)=some (.type "type"))
  (ic_NoTie:PySem.W.isClsIn K c_NoTie=true)
  (ty_NoTie:PySem.W.typeIn K (.ref c_NoTie)=some (.type "type"))
  (ic_NoWeb:PySem.W.isClsIn K c_NoWeb=true)
  (ty_NoWeb:PySem.W.typeIn K (.ref c_NoWeb)=some (.type "type"))
  (ic_TooGreat:PySem.W.isClsIn K c_TooGreat=true)
  (ty_TooGreat:PySem.W.typeIn K (.ref c_TooGreat)=some (.type "type"))
  (ic_TooMany:PySem.W.isClsIn K c_TooMany=true)
  (ty_TooMany:PySem.W.typeIn K (.ref c_TooMany)=some (.type "type"))
  (ga_NoNumber:PySem.W.findIn K (.ref c_NoNumber) "__getattribute__" = some (some (.builtin "BaseException.__getattribute__")))
  (gt_NoNumber:PySem.W.findIn K (.ref c_NoNumber) "__getattr__" = some none)
  (ca_NoNumber:PySem.W.findIn K (.ref c_NoNumber) "__class__" = some (some (.builtin "object.__class__")))
  (ob_NoNumber:PySem.W.mroIn K c_NoNumber (.type "object")=some true)
  (be_NoNumber:PySem.W.mroIn K c_NoNumber (.type "BaseException")=some true)
  (ve_NoNumber:PySem.W.subIn K (.ref c_NoNumber) (.type "ValueError")=some true)
  (m_NoNumber:PySem.W.mroIn K c_NoNumber (.ref c_FloorError)=some true)
  (s_NoNumber_Apart:PySem.W.subIn K (.ref c_NoNumber) (.ref c_Apart)=some false)
  (d_NoNumber_Apart:(c_NoNumber == c_Apart)=false)
  (s_NoNumber_NoEnd:PySem.W.subIn K (.ref c_NoNumber) (.ref c_NoEnd)=some false)
  (d_NoNumber_NoEnd:(c_NoNumber == c_NoEnd)=false)
  (s_NoNumber_NoName:PySem.W.subIn K (.ref c_NoNumber) (.ref c_NoName)=some false)
  (d_NoNumber_NoName:(c_NoNumber == c_NoName)=false)
  (s_NoNumber_NoNumber:PySem.W.subIn K (.ref c_NoNumber) (.ref c_NoNumber)=some true)
  (s_NoNumber_NoOrder:PySem.W.subIn K (.ref c_NoNumber) (.ref c_NoOrder)=some false)
  (d_NoNumber_NoOrder:(c_NoNumber == c_NoOrder)=false)
  (s_NoNumber_NoPaper:PySem.W.subIn K (.ref c_NoNumber) (.ref c_NoPaper)=some false)
  (d_NoNumber_NoPaper:(c_NoNumber == c_NoPaper)=false)
  (s_NoNumber_NoPlace:PySem.W.subIn K (.ref c_NoNumber) (.ref c_NoPlace)=some false)
  (d_NoNumber_NoPlace:(c_NoNumber == c_NoPlace)=false)
  (s_NoNumber_NoRing:PySem.W.subIn K (.ref c_NoNumber) (.ref c_NoRing)=some false)
  (d_NoNumber_NoRing:(c_NoNumber == c_NoRing)=false)
  (s_NoNumber_NoRow:PySem.W.subIn K (.ref c_NoNumber) (.ref c_NoRow)=some false)
  (d_NoNumber_NoRow:(c_NoNumber == c_NoRow)=false)
  (s_NoNumber_NoTable:PySem.W.subIn K (.ref c_NoNumber) (.ref c_NoTable)=some false)
  (d_NoNumber_NoTable:(c_NoNumber == c_NoTable)=false)
  (s_NoNumber_NoText:PySem.W.subIn K (.ref c_NoNumber) (.ref c_NoText)=some false)
  (d_NoNumber_NoText:(c_NoNumber == c_NoText)=false)
  (s_NoNumber_NoTie:PySem.W.subIn K (.ref c_NoNumber) (.ref c_NoTie)=some false)
  (d_NoNumber_NoTie:(c_NoNumber == c_NoTie)=false)
  (s_NoNumber_NoWeb:PySem.W.subIn K (.ref c_NoNumber) (.ref c_NoWeb)=some false)
  (d_NoNumber_NoWeb:(c_NoNumber == c_NoWeb)=false)
  (s_NoNumber_TooGreat:PySem.W.subIn K (.ref c_NoNumber) (.ref c_TooGreat)=some false)
  (d_NoNumber_TooGreat:(c_NoNumber == c_TooGreat)=false)
  (s_NoNumber_TooMany:PySem.W.subIn K (.ref c_NoNumber) (.ref c_TooMany)=some false)
  (d_NoNumber_TooMany:(c_NoNumber == c_TooMany)=false)
  {T fl c:Addr}{oc kV doc pm ct:Value}{od an:Option Addr}{sl:Array (Option Value)}(t1:K.lookup T=none) (ta:W.nsIn K mainGlobals "law" = some (some (.ref fl))) (tl:K.lookup fl=some ⟨oc,od,.func (W.fnOf "law" "law" (defArgs s_law) (defBody s_law) (defScope s_law) .none kV doc pm an (.ref c) ct),sl⟩) (tc:codeOfF K fl c T=true) :
  K.lookup T=none/\(∃c,PySem.W.codeHdIn K c T=true)/\∃fd:FuncData,(∀(s:Shared) (v:Value),BindsTo s fd ⟨[v],[]⟩ [("_law_script",v)])/\∀base:Heap,K.In base->base.Ns mainGlobals mg->base.BuiltinsAt mg T->FnOk l.prog w K mg base CX0 7 fa fd ["_law_script"] (spLT K T fLaw):=by
 obtain⟨f,fd,a,F⟩:=e15;have e:=hfa.symm.trans (W.mg_of X G a);cases e;have e2:=a.symm.trans ta;cases e2;have mb:Mb mg:=by
  intro x hx;simp only[Wat,Wbe,or_false]at hx;rcases hx with rfl|rfl|rfl|rfl|rfl|rfl|rfl|rfl|rfl|rfl|rfl|rfl|rfl
  ·exact W.mg_none_of X G z0
  ·exact W.mg_none_of X G z1
  ·exact W.mg_none_of X G z2
  ·exact W.mg_none_of X G z3
  ·exact W.mg_none_of X G z4
  ·exact W.mg_none_of X G z5
  ·exact W.mg_none_of X G z6
  ·exact W.mg_none_of X G z7
  ·exact W.mg_none_of X G z8
  ·exact W.mg_none_of X G z9
  ·exact W.mg_none_of X G z10
  ·exact W.mg_none_of X G z11
  ·exact W.mg_none_of X G z12
 have cl:Cl K mg c_FloorError c_NoWeb c_NoOrder c_NoNumber c_NoEnd c_NoTie c_NoPlace c_NoTable c_NoRing c_NoPaper c_Apart c_TooMany c_TooGreat c_NoText c_NoName c_NoRow:=⟨W.mg_of X G n_FloorError,e_FloorError,W.mg_of X G n_NoWeb,W.mg_of X G n_NoOrder,W.mg_of X G n_NoNumber,e_NoNumber,W.mg_of X G n_NoEnd,W.mg_of X G n_NoTie,W.mg_of X G n_NoPlace,W.mg_of X G n_NoTable,W.mg_of X G n_NoRing,W.mg_of X G n_NoPaper,W.mg_of X G n_Apart,W.mg_of X G n_TooMany,W.mg_of X G n_TooGreat,W.mg_of X G n_NoText,W.mg_of X G n_NoName,W.mg_of X G n_NoRow,⟨e_NoNumber,ga_NoNumber,gt_NoNumber,ca_NoNumber,gsx,tkx,ob_NoNumber,be_NoNumber⟩,m_NoNumber,Zlp (by decide +kernel) ve_NoNumber,Zbh ic_Apart ty_Apart s_NoNumber_Apart λz=>(by rw[d_NoNumber_Apart]at z;exact z),Zbh ic_NoEnd ty_NoEnd s_NoNumber_NoEnd λz=>(by rw[d_NoNumber_NoEnd]at z;exact z),Zbh ic_NoName ty_NoName s_NoNumber_NoName λz=>(by rw[d_NoNumber_NoName]at z;exact z),Zbh ic_NoNumber ty_NoNumber s_NoNumber_NoNumber λ_=>rfl,Zbh ic_NoOrder ty_NoOrder s_NoNumber_NoOrder λz=>(by rw[d_NoNumber_NoOrder]at z;exact z),Zbh ic_NoPaper ty_NoPaper s_NoNumber_NoPaper λz=>(by rw[d_NoNumber_NoPaper]at z;exact z),Zbh ic_NoPlace ty_NoPlace s_NoNumber_NoPlace λz=>(by rw[d_NoNumber_NoPlace]at z;exact z),Zbh ic_NoRing ty_NoRing s_NoNumber_NoRing λz=>(by rw[d_NoNumber_NoRing]at z;exact z),Zbh ic_NoRow ty_NoRow s_NoNumber_NoRow λz=>(by rw[d_NoNumber_NoRow]at z;exact z),Zbh ic_NoTable ty_NoTable s_NoNumber_NoTable λz=>(by rw[d_NoNumber_NoTable]at z;exact z),Zbh ic_NoText ty_NoText s_NoNumber_NoText λz=>(by rw[d_NoNumber_NoText]at z;exact z),Zbh ic_NoTie ty_NoTie s_NoNumber_NoTie λz=>(by rw[d_NoNumber_NoTie]at z;exact z),Zbh ic_NoWeb ty_NoWeb s_NoNumber_NoWeb λz=>(by rw[d_NoNumber_NoWeb]at z;exact z),Zbh ic_TooGreat ty_TooGreat s_NoNumber_TooGreat λz=>(by rw[d_NoNumber_TooGreat]at z;exact z),Zbh ic_TooMany ty_TooMany s_NoNumber_TooMany λz=>(by rw[d_NoNumber_TooMany]at z;exact z)⟩;have AL:∀base:Heap,(CalleeX l.prog w K mg base 4 "order_at" ["web","number"] (spX K (fOaX c_NoNumber)))/\(CalleeH l.prog w K mg base 1 "_law_word" ["_law_e"] (λxa=>spD K (fWd c_NoNumber xa))):=λbase=>by
  have M:=@Zi2 l.prog w K mg base h X G;have MH:=@Zkt l.prog w K mg base h X G;have MX:=@Zku l.prog w K mg base h X G;have C4:=M e4 (Zgq mb) λ_ _ _ _ _ _=>bK2 λ_ _=>rfl;have C5:=M e5 (Zd9 mb C4) λ_ _ _ _ _ _=>bK2 λ_ _=>rfl;have C6:=M e6 (Zoq mb) λ_ _ _ _ _ _=>bK1 λ_=>rfl;have C8:=M e7 (Zna mb) λ_ _ _ _ _ _=>bK1 λ_=>rfl;have C9:=M e8 (Zk3 mb C6 C5) λ_ _ _ _ _ _=>bK1 λ_=>rfl;have C10:=M e9 (Zfn mb C6) λ_ _ _ _ _ _=>bK2 λ_ _=>rfl;have C12:=MX e10 (Zom mb cl C8 C9 C5 C6 C10) λ_ _ _ _ _ _=>bK2 λ_ _=>rfl;have C15:=MH e13 (Zmh mb cl) λ_ _ _ _ _ _=>bK1 λ_=>rfl;exact⟨C12,C15⟩
 obtain⟨ft,fdt,att,Ft⟩:=e14;have CT0:=Znb (P:=l.prog) (w:=w) (h:=h) mb cl Ft (W.mg_of X G att) (λbase=>(AL base).1) (λbase=>(AL base).2);have F2:=F;obtain⟨oc2,od2,kV2,doc2,pm2,an2,cdv2,ct2,osl2,rfl,lk,hcd⟩:=F2.ex;refine⟨t1,⟨_,Zhf tc⟩,W.fnOf "law" "law" (defArgs s_law) (defBody s_law) (defScope s_law) .none kV2 doc2 pm2 an2 cdv2 ct2,λs v=>.of_eq rfl,λbase KB NB HB=>?_⟩;have M:=@Zi2 l.prog w K mg base h X G;have C1:=M e1 (Zl3 mb) λ_ _ _ _ _ _=>bK2 λ_ _=>rfl;have C2:=M e2 (Zox mb) λ_ _ _ _ _ _=>bK1 λ_=>rfl;have C3:=M e3 (Zor mb C1) λ_ _ _ _ _ _=>bK3 λ_ _ _=>rfl;have C4:=M e4 (Zgq mb) λ_ _ _ _ _ _=>bK2 λ_ _=>rfl;have C5:=M e5 (Zd9 mb C4) λ_ _ _ _ _ _=>bK2 λ_ _=>rfl;have C6:=M e6 (Zoq mb) λ_ _ _ _ _ _=>bK1 λ_=>rfl;have C7:=M e7 (Zmb mb) λ_ _ _ _ _ _=>bK1 λ_=>rfl;have C9:=M e8 (Zk3 mb C6 C5) λ_ _ _ _ _ _=>bK1 λ_=>rfl;have C10:=M e9 (Zfn mb C6) λ_ _ _ _ _ _=>bK2 λ_ _=>rfl;have C11:=M e10 (Zj1 mb C7 C9 C5 C6 C10) λ_ _ _ _ _ _=>bK2 λ_ _=>rfl;have C13:=M e11 (Zip mb C6) λ_ _ _ _ _ _=>bK2 λ_ _=>rfl;have C14:=M e12 (Zjn mb C6 C13 C5) λ_ _ _ _ _ _=>bK2 λ_ _=>rfl;exact ok_law mb KB NB tc HB CT0 C2 C1 C3 C9 C14 C11 F
end Lw
open PySem PySem.W PyProof.Rows
namespace PySem.W.Fast
theorem te4605644289456413075:True:=trivial
def tw17160649642985144850:PySem.Program:=PySem.Challenge.pw_holefloor_k08_no_number_of_an_order
theorem te17160649642985144850:PySem.Challenge.pw_holefloor_k08_no_number_of_an_order=tw17160649642985144850:=rfl
def tw3312398727083133625:Unit:=()
def tw9099234255627774312:Unit:=()
def tw16807729834254870615:Unit:=()
def tw16856846217864676073:Unit:=()
def tw11883399678310180674:Unit:=()
def tw13069447648219042745:Unit:=()
def tw9860624175121870264:Unit:=()
def tw16326092982424688337:Unit:=()
def tw17502201233246876771:Unit:=()
def tw9819150121133485356:Unit:=()
def tw14519486342770280174:Unit:=()
def tw4791073678404221208:Unit:=()
def tw7992879182749328466:Unit:=()
def tw2473570831714755124:Unit:=()
def tw382060151290440:Unit:=()
def tw17687240685240946126:Unit:=()
def tw9080909303052241037:Unit:=()
def tw14426293038395671624:Unit:=()
def tw15588165707044883536:Unit:=()
def tw3478544451371056197:Unit:=()
def tw7526026588749793244:Unit:=()
def tw907971743156192757:Unit:=()
def tw3102384145931480258:Unit:=()
def tw16484941539992866888:Unit:=()
def tw520830912344117003:Unit:=()
def tw8010214692803378339:Unit:=()
end PySem.W.Fast
set_option maxRecDepth 100000 in
set_option maxHeartbeats 0 in
theorem PySem.Challenge.cw_holefloor_k08_no_number_of_an_order_holds : PySem.Challenge.rw_holefloor_k08_no_number_of_an_order.Holds := by
 w_on;o_law;k_head; (case hw=>w_witness2)
 k_fill
 refine L2.walk_lawT (k:=7) (x:="_law_script") (l:=PySem.Challenge.rw_holefloor_k08_no_number_of_an_order) ⟨rfl,by decide,by decide,rfl⟩ rfl rfl (λw h Y=>PySem.W.km_in_of Y) (λw h Y=>PySem.W.km_tabs_of Y _ Wa7) ?F
 case F=>
  intro w mg fa h KX G hmg;refine' Lw.all_mk KX G hmg ?e1 ?e2 ?e3 ?e4 ?e5 ?e6 ?e7 ?e8 ?e9 ?e10 ?e11 ?e12 ?e13 ?e14 ?e15 ?z0 ?z1 ?z2 ?z3 ?z4 ?z5 ?z6 ?z7 ?z8 ?z9 ?z10 ?z11 ?z12 ?n_FloorError ?e_FloorError ?n_NoWeb ?n_NoOrder ?n_NoNumber ?e_NoNumber ?n_NoEnd ?n_NoTie ?n_NoPlace ?n_NoTable ?n_NoRing ?n_NoPaper ?n_Apart ?n_TooMany ?n_TooGreat ?n_NoText ?n_NoName ?n_NoRow ?gsx ?tkx ?ic_Apart ?ty_Apart ?ic_NoEnd ?ty_NoEnd ?ic_NoName ?ty_NoName ?ic_NoNumber ?ty_NoNumber ?ic_NoOrder ?ty_NoOrder ?ic_NoPaper ?ty_NoPaper ?ic_NoPlace ?ty_NoPlace ?ic_NoRing ?ty_NoRing ?ic_NoRow ?ty_NoRow ?ic_NoTable ?ty_NoTable ?ic_NoText ?ty_NoText ?ic_NoTie ?ty_NoTie ?ic_NoWeb ?ty_NoWeb ?ic_TooGreat ?ty_TooGreat ?ic_TooMany ?ty_TooMany ?ga_NoNumber ?gt_NoNumber ?ca_NoNumber ?ob_NoNumber ?be_NoNumber ?ve_NoNumber ?m_NoNumber ?s_NoNumber_Apart ?d_NoNumber_Apart ?s_NoNumber_NoEnd ?d_NoNumber_NoEnd ?s_NoNumber_NoName ?d_NoNumber_NoName ?s_NoNumber_NoNumber ?s_NoNumber_NoOrder ?d_NoNumber_NoOrder ?s_NoNumber_NoPaper ?d_NoNumber_NoPaper ?s_NoNumber_NoPlace ?d_NoNumber_NoPlace ?s_NoNumber_NoRing ?d_NoNumber_NoRing ?s_NoNumber_NoRow ?d_NoNumber_NoRow ?s_NoNumber_NoTable ?d_NoNumber_NoTable ?s_NoNumber_NoText ?d_NoNumber_NoText ?s_NoNumber_NoTie ?d_NoNumber_NoTie ?s_NoNumber_NoWeb ?d_NoNumber_NoWeb ?s_NoNumber_TooGreat ?d_NoNumber_TooGreat ?s_NoNumber_TooMany ?d_NoNumber_TooMany ?t1 ?ta ?tl ?tc
  (case n_FloorError=>k_is)
  (case e_FloorError=>k_exc)
  (case n_NoWeb=>k_is)
  (case n_NoOrder=>k_is)
  (case n_NoNumber=>k_is)
  (case e_NoNumber=>k_exc)
  (case n_NoEnd=>k_is)
  (case n_NoTie=>k_is)
  (case n_NoPlace=>k_is)
  (case n_NoTable=>k_is)
  (case n_NoRing=>k_is)
  (case n_NoPaper=>k_is)
  (case n_Apart=>k_is)
  (case n_TooMany=>k_is)
  (case n_TooGreat=>k_is)
  (case n_NoText=>k_is)
  (case n_NoName=>k_is)
  (case n_NoRow=>k_is)
  (case gsx=>k_is)
  (case tkx=>k_is)
  (case ic_Apart=>k_is)
  (case ty_Apart=>k_is)
  (case ic_NoEnd=>k_is)
  (case ty_NoEnd=>k_is)
  (case ic_NoName=>k_is)
  (case ty_NoName=>k_is)
  (case ic_NoNumber=>k_is)
  (case ty_NoNumber=>k_is)
  (case ic_NoOrder=>k_is)
  (case ty_NoOrder=>k_is)
  (case ic_NoPaper=>k_is)
  (case ty_NoPaper=>k_is)
  (case ic_NoPlace=>k_is)
  (case ty_NoPlace=>k_is)
  (case ic_NoRing=>k_is)
  (case ty_NoRing=>k_is)
  (case ic_NoRow=>k_is)
  (case ty_NoRow=>k_is)
  (case ic_NoTable=>k_is)
  (case ty_NoTable=>k_is)
  (case ic_NoText=>k_is)
  (case ty_NoText=>k_is)
  (case ic_NoTie=>k_is)
  (case ty_NoTie=>k_is)
  (case ic_NoWeb=>k_is)
  (case ty_NoWeb=>k_is)
  (case ic_TooGreat=>k_is)
  (case ty_TooGreat=>k_is)
  (case ic_TooMany=>k_is)
  (case ty_TooMany=>k_is)
  (case ga_NoNumber=>k_is)
  (case gt_NoNumber=>k_is)
  (case ca_NoNumber=>k_is)
  (case ob_NoNumber=>k_is)
  (case be_NoNumber=>k_is)
  (case ve_NoNumber=>k_is)
  (case m_NoNumber=>k_is)
  (case s_NoNumber_Apart=>k_is)
  (case d_NoNumber_Apart=>rfl)
  (case s_NoNumber_NoEnd=>k_is)
  (case d_NoNumber_NoEnd=>rfl)
  (case s_NoNumber_NoName=>k_is)
  (case d_NoNumber_NoName=>rfl)
  (case s_NoNumber_NoNumber=>k_is)
  (case s_NoNumber_NoOrder=>k_is)
  (case d_NoNumber_NoOrder=>rfl)
  (case s_NoNumber_NoPaper=>k_is)
  (case d_NoNumber_NoPaper=>rfl)
  (case s_NoNumber_NoPlace=>k_is)
  (case d_NoNumber_NoPlace=>rfl)
  (case s_NoNumber_NoRing=>k_is)
  (case d_NoNumber_NoRing=>rfl)
  (case s_NoNumber_NoRow=>k_is)
  (case d_NoNumber_NoRow=>rfl)
  (case s_NoNumber_NoTable=>k_is)
  (case d_NoNumber_NoTable=>rfl)
  (case s_NoNumber_NoText=>k_is)
  (case d_NoNumber_NoText=>rfl)
  (case s_NoNumber_NoTie=>k_is)
  (case d_NoNumber_NoTie=>rfl)
  (case s_NoNumber_NoWeb=>k_is)
  (case d_NoNumber_NoWeb=>rfl)
  (case s_NoNumber_TooGreat=>k_is)
  (case d_NoNumber_TooGreat=>rfl)
  (case s_NoNumber_TooMany=>k_is)
  (case d_NoNumber_TooMany=>rfl)
  (case ta=>k_is)
  (case tl=>k_is)
  (case t1=>kernel_rfl)
  (case tc=>kernel_rfl)
  all_goals first|(refine' Lw.fnE ?a ?l ?c ?k; (case a=>k_is); (case l=>k_is); (case c=>k_is); (case k=>k_is))|k_is

