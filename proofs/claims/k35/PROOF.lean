import PyProof.Rows.All
import Wide.All
import OpenK.AllK
import Wide.FinOn
import Lean
import PyProof.EqAt
import PyProof.EqKinds
import PyProof.TupleCall
import KE.KSortTup
import PyProof.NeKinds
import PyProof.ExcBaseAll.ValueError
import PyProof.ExcArgsOwn
import PyProof.NsDelKeeps
import PyProof.RulesAs
import PyProof.FString
import PySem.Challenge.RW_holefloor_k35_whole_holes_as_ties_come_a
open List renaming getElem?_eq_getElem→Waa, length_map→Wab, getD_eq_getElem?_getD→Wac, getElem?_map→Wad, getElem?_eq_some_iff→Wah, mem_filter→Wai, size_toArray→Waj, replicate→Wal, mem_cons_self→Wam, length_append→Wan, getElem?_set_self→Wao, range→Wap, mem_cons→Waq, getElem?_set_ne→War, length_cons→Wat, mem_cons_of_mem→Wau, mem_range→Wav, mem_append_right→Waw, mem_of_getElem?→Way, map_append→Waz, getElem_mem→Wa0, getElem?_append_right→Wa1, mem_map→Wa3, append_nil→Wa4, length_take→Wa5, length→Wa6, mem_singleton→Wa7, length_replicate→Wa8, filter_congr→Wa9, map_map→Wbb, getElem?_append_left→Wbc, mem_append→Wbd, append_assoc→Wbe, nodup_cons→Wbf, map_cons→Wbg, all_eq_true→Wbi, tail→Wbk, filter_eq_self→Wbl, map→Wbm, filter_filter→Wbn, filter_append→Wbo, length_range→Wbq, length_drop→Wbr, filter_cons→Wbs, length_singleton→Wbt, take_append_drop→Wbu, take_length→Wbv, flatten_cons→Wbw, mem_iff_getElem?→Wbx, length_set→Wby, pairwise_iff_getElem→Wb2, nodup_append→Wb3, filter_map→Wb4, eq_nil_of_length_eq_zero→Wb5, pairwise_map→Wb6, map_congr_left→Wb8, getElem?_eq_none→Wb9, take_add_one→Wca, ext_getElem?→Wcb, mem_iff_getElem→Wcd, getElem?_zip_eq_some→Wce, lookup_cons→Wcf, length_filter_le→Wcg, getElem_toArray→Wch, pairwise_lt_range→Wci, getElem?_eraseIdx→Wcj, filter_sublist→Wck, mem_flatten→Wcm, mem_append_left→Wcn, length_pos_of_mem→Wco, find?_cons_of_neg→Wcp, perm_ext_iff_of_nodup→Wcr, perm_append_comm→Wcs, getElem_range→Wct, drop_eq_getElem_cons→Wcw, getElem?_set→Wcz, find?_cons→Wc0, map_take→Wc1, getElem?_replicate→Wc2, getElem?_range→Wc3, filter_cons_of_neg→Wc4, take_zero→Wc6, take_of_length_le→Wc8, zip_cons_cons→Wc9, mem_replicate→Wda, getElem?_drop→Wdb, length_nil→Wdd, getElem?_toArray→Wde, any_cons→Wdf, length_eraseIdx→Wdg, cons→Wdh, not_mem_nil→Wdi, replicate_succ→Wdj, set_eq_of_length_le→Wdk, mem_of_mem_eraseIdx→Wdl, nil_append→Wdm, map_drop→Wdn, find?_cons_of_pos→Wdq, eraseIdx_eq_take_drop_succ→Wdr, map_set→Wdt, map_id'→Wdu, mem_eraseIdx_iff_getElem→Wdw, getElem_inj→Wdx, idxOf_cons_self→Wdy, length_pos_iff→Wdz, getElem?_take→Wd0, drop_zero→Wd1, getElem?_take_of_lt→Wd3, length_eraseIdx_le→Wd5, all_cons→Wd6, perm_middle→Wd9, nodup_range→Wea, map_snd_zip→Web, filter_eq_nil_iff→Wed, nodup_nil→Wek, map_id→Wel, flatMap_append→Wem, filterMap_cons→Wen, set_comm→Weq, pairwise_cons→Wer, append_of_mem→Wes, mapM_toArray→Wev, all_map→Wey, isEmpty_iff→We1, cons_append→We2
open Int renaming toNat_natCast→Wae, zero_add→Wb1, emod_lt_of_pos→Wdc, emod_nonneg→Wdp, le_refl→Wds, toNat_of_nonneg→Weo
open PySem.Heap renaming get?_push_of_some→Waf, lt_size→Was, get?_push_size→Wax, get?_update_other→Wcq, get?_update_self→Wdv, size_push→Wd2, get?_push_ne→Wd4, size_update→Wec
open Bool renaming false_ne_true→Wag, false_eq_true→Wbh, and_eq_true→Wbj, eq_false_iff→Wcc, true_and→Wcu, false_and→Wcx, and_false→Wc7, eq_iff_iff→Wdo, and_true→Wd7, and_comm→Wd8, beq_eq_decide_eq→Wee, not_true→Wet
open Nat renaming le_refl→Wak, ne_of_lt→Wa2, lt_of_lt_of_le→Wbp, le_trans→Wbz, le_of_lt→Wb0, lt_succ_of_lt→Wb7, zero_le→Wcl, lt_of_le_of_lt→Wcv, le_succ→Wcy, lt_irrefl→Wc5, sub_zero→Wef, sub_self→Weg, ne_of_gt→Weh, min_eq_left→Wei, lt_or_ge→Wej, eq_zero_or_pos→Weu, mod_lt→Wew, lt_trichotomy→Wex, zero_add→Wez, min_self→We0
open Option renaming some→Wba, isSome_map→Wep
set_option Elab.async false
set_option linter.all false
set_option maxRecDepth 100000
namespace L2
open PySem PySem.Spec PyProof.Rows
abbrev Key:=Sum Int Str
def keyIs:Key->Value->Bool
 |.inl k,v=>Value.isInt k v
 |.inr x,v=>Value.isStrOf x v
def keyH (w:World):Key->Int
 |.inl k=>hashInt k
 |.inr x=>hashStr w x
theorem Zb5:∀{k:Key}{v:Value},keyIs k v=true->(∃i t,k=Sum.inl i/\v=Value.int i t)\/(∃x t,k=Sum.inr x/\v=Value.str x t)
 |.inl i,v,h=>by
  obtain⟨t,e⟩:=Value.isInt_shape (k:=i) (v:=v) h;exact .inl ⟨i,t,rfl,e⟩
 |.inr x,v,h=>by
  obtain⟨t,e⟩:=Value.isStrOf_shape (x:=x) (v:=v) h;exact .inr ⟨x,t,rfl,e⟩
theorem Zr3 (i:Int) (t:Tok):keyIs (.inl i) (.int i t)=true:=by simp[keyIs,Value.isInt]
theorem Zqt (x:Str) (t:Tok):keyIs (.inr x) (.str x t)=true:=by simp[keyIs,Value.isStrOf]
theorem Zyy (a b:Int):decide ((Sum.inl a:Key)=Sum.inl b)=(a == b):=by
 by_cases e:a=b
 ·subst e;simp
 ·have h:¬ (Sum.inl a:Key)=Sum.inl b:=λq=>e (Sum.inl.inj q)
  rw[decide_eq_false h];exact(beq_eq_false_iff_ne.mpr e).symm
theorem Zx0 (a b:Str):decide ((Sum.inr a:Key)=Sum.inr b)=decide (a=b):=by
 by_cases e:a=b
 ·subst e;simp
 ·have h:¬ (Sum.inr a:Key)=Sum.inr b:=λq=>e (Sum.inr.inj q)
  rw[decide_eq_false h,decide_eq_false e]
theorem Zw0 (a:Int) (b:Str):decide ((Sum.inl a:Key)=Sum.inr b)=false:=decide_eq_false λq=>nomatch q
theorem Zya (a:Str) (b:Int):decide ((Sum.inr a:Key)=Sum.inl b)=false:=decide_eq_false λq=>nomatch q
def mixKind (prog:Program) (w:World):PySem.KeyKind prog w Key where
 is:=keyIs
 hash:=keyH w
 inj:=λv a b ha hb=>by
  rcases Zb5 ha with ⟨i,t,rfl,rfl⟩|⟨x,t,rfl,rfl⟩
  ·rcases Zb5 hb with ⟨j,u,rfl,e⟩|⟨y,u,rfl,e⟩
   ·injection e with e1 _;rw[e1]
   ·exact nomatch e
  ·rcases Zb5 hb with ⟨j,u,rfl,e⟩|⟨y,u,rfl,e⟩
   ·exact nomatch e
   ·injection e with e1 _;rw[e1]
 byValue:=λk v h=>by
  rcases Zb5 h with ⟨i,t,rfl,rfl⟩|⟨x,t,rfl,rfl⟩ <;> rfl
 pyHash:=λhv h=>by
  rcases Zb5 hv with ⟨i,t,rfl,rfl⟩|⟨x,t,rfl,rfl⟩
  ·exact wpAny_pyHash_int h
  ·exact wpAny_pyHash_str h
 eqBool:=λhu hv h=>by
  rcases Zb5 hu with ⟨i,t,rfl,rfl⟩|⟨x,t,rfl,rfl⟩
  ·rcases Zb5 hv with ⟨j,u,rfl,rfl⟩|⟨y,u,rfl,rfl⟩
   ·rw[Zyy]at h;exact wpAny_eqBool_int h
   ·rw[Zw0]at h;exact SeqAt.EqAt.int_str i t y u _ _ _ _ h
  ·rcases Zb5 hv with ⟨j,u,rfl,rfl⟩|⟨y,u,rfl,rfl⟩
   ·rw[Zya]at h;exact SeqAt.EqAt.str_int x t j u _ _ _ _ h
   ·rw[Zx0]at h;exact wpAny_eqBool_str h
 «strs»:=λk x t v h=>by
  rcases Zb5 h with ⟨i,u,rfl,e⟩|⟨y,u,rfl,e⟩
  ·exact nomatch e
  ·injection e with e1 _
   subst e1;cases v <;> rfl
theorem Zlx (prog:Program) (w:World) (i:Int) (t:Tok):(mixKind prog w).is (.inl i) (.int i t)=true:=Zr3 i t
theorem Zll (prog:Program) (w:World) (x:Str) (t:Tok):(mixKind prog w).is (.inr x) (.str x t)=true:=Zqt x t
end L2
namespace L2
open PySem PySem.Spec PyProof.Rows
inductive V where
 |non|bl (b:Bool)|int (i:Int)|str (x:Str)|byt (b:Array UInt8)|flt (b:UInt64)|ref (a:Addr)|ty (n:String)
 deriving DecidableEq
def RelV:V->Value->Prop
 |.non,u=>u=Value.none
 |.bl b,u=>u=Value.bool b
 |.int i,u=>∃t,u=Value.int i t
 |.str x,u=>∃t,u=Value.str x t
 |.byt b,u=>∃t,u=Value.bytes b t
 |.flt b,u=>∃t,u=Value.float b t
 |.ref a,u=>u=Value.ref a
 |.ty n,u=>u=Value.type n
abbrev Vals:List V->List Value->Prop:=Paired RelV
theorem Vals.length {xs:List V}{us:List Value}(r:Vals xs us):xs.length=us.length:=Paired.length r
theorem Vals.get:∀{xs:List V}{us:List Value}{i:Nat}{x:V},Vals xs us->xs[i]?=some x->∃u,us[i]?=some u/\RelV x u
 |_,_,_,_,.nil,e=>by simp at e
 |_,_,0,_,.cons r _,e=>by simp at e;subst e;exact⟨_,rfl,r⟩
 |_,_,i+1,x,.cons _ t,e=>by
  obtain⟨u,h1,h2⟩:=Vals.get (i:=i) (x:=x) t (by simpa using e);exact⟨u,by simpa using h1,h2⟩
theorem Vals.set {x:V}{u:Value}(r:RelV x u):∀{xs:List V}{us:List Value}(i:Nat),Vals xs us->Vals (xs.set i x) (us.set i u)
 |_,_,_,.nil=>.nil
 |_,_,0,.cons _ t=>.cons r t
 |_,_,i+1,.cons q t=>.cons q (Vals.set r i t)
theorem Vals.append:∀{xs ys:List V}{us ws:List Value},Vals xs us->Vals ys ws->Vals (xs++ys) (us++ws)
 |_,_,_,_,.nil,s=>s
 |_,_,_,_,.cons r t,s=>.cons r (Vals.append t s)
theorem Vals.take:∀{xs:List V}{us:List Value}(n:Nat),Vals xs us->Vals (xs.take n) (us.take n)
 |_,_,0,_=>.nil
 |_,_,_+1,.nil=>.nil
 |_,_,n+1,.cons r t=>.cons r (Vals.take n t)
theorem Vals.drop:∀{xs:List V}{us:List Value}(n:Nat),Vals xs us->Vals (xs.drop n) (us.drop n)
 |_,_,0,r=>r
 |_,_,_+1,.nil=>.nil
 |_,_,n+1,.cons _ t=>Vals.drop n t
def RelO:Option V->Option Value->Prop
 |some v,some u=>RelV v u
 |none,none=>True
 |_,_=>False
def KV {κ:Type}:List (κ × V)->List (κ × Value)->Prop:=Paired λ(p:κ × V) (q:κ × Value)=>p.1=q.1/\RelV p.2 q.2
def kV:Key->V
 |.inl i=>.int i
 |.inr x=>.str x
inductive HO where
 /-- a list -/
 |lst (xs:List V)
 /-- a tuple (never changes) -/
 |tup (xs:List V)
 /-- a dict whose keys are ints and texts;one whose keys are tuples of ints and texts (the empty one is both) -/
 |dK (kvs:List (Key × V))|dT (kvs:List (List Key × V))
 /-- a set of ints: its members,its size -/
 |set (S:Int->Bool) (n:Nat)
 /-- an instance of the class at C,its dict at dx,its attributes -/
 |ins (C dx:Addr) (fs:List (Str × V))
 /-- the dict of the instance at x -/
 |own (x:Addr)
 /-- the dict of an exception -/
 |xd (fs:List (Str × V))
 /-- a bound method,f of x -/
 |met (f x:Addr)
 /-- a range object lo,lo+1,.. below hi -/
 |rng (lo hi:Int)
 /-- a thing that is known to the object (the script;a dict while a loop walks it): read,never written while it is so -/
 |frz (o:Obj) (u:HO)
 /-- a code object's table -/
 |tbl (ps:Array Value)
 /-- any other thing,by what is true of its one object (a def of one's own: SetO a S n:=HO.ext λh=>..) -/
 |ext (φ:Heap->Prop)
abbrev Hp:=Addr->Option HO
def upd (H:Hp) (a:Addr) (o:HO):Hp:=λb=>if b=a then some o else H b
theorem Za3 {H:Hp}{a:Addr}{o:HO}:upd H a o a=some o:=by unfold upd;rw[if_pos rfl]
theorem Za9 {H:Hp}{a b:Addr}{o:HO}(h:b≠a):upd H a o b=H b:=by unfold upd;rw[if_neg h]
theorem Zv8 {H:Hp}{a:Addr}{o u:HO}:upd (upd H a o) a u=upd H a u:=by
 funext b;unfold upd;split <;> rfl
theorem Zzm {H:Hp}{a b:Addr}{o u:HO}(h:H a=some o) (h':H b=some u) (d:o≠u):a≠b:=by
 intro e;subst e;rw[h]at h';exact d<|Wba.inj h'
theorem Zcb {H:Hp}{a b:Addr}{o:HO}(h:H a=some o) (h':H b=none):a≠b:=by
 intro e;subst e;rw[h]at h';cases h'
def IsTupN (h:Heap) (a:Addr) (its:Array Value):Prop:=∃o,h.get? a=some o/\(o.cls=.type "tuple" /\ ∃n,o.data=.seq its n)/\o.dict=none
theorem IsTupN.tup {h:Heap}{a:Addr}{its:Array Value}(x:IsTupN h a its):IsTup h a its:=let ⟨o,e,c,_⟩:=x; ⟨o,e,c⟩
theorem IsTupN.new (h:Heap) (items:Array Value):IsTupN (h.push { cls:=.type "tuple",data:=.seq items }) h.objs.size items:=⟨_,Wax _ rfl,⟨rfl,_,rfl⟩,rfl⟩
section
variable (P:Program) (w:World)
def ObjOk (H:Hp) (h:Heap) (a:Addr):HO->Prop
 |.lst xs=>xs.length<=sizeLine/\∃(its:List Value) (n:Nat),Vals xs its/\h.get? a=some { cls:=.type "list",data:=.seq its.toArray n }
 |.tup xs=>xs.length<=sizeLine/\∃its:List Value,Vals xs its/\IsTupN h a its.toArray
 |.dK kvs=>kvs.length<=sizeLine/\(a == sysModules)=false/\∃vs,KV kvs vs/\h.DictOf (mixKind P w) a vs
 |.dT kvs=>kvs.length<=sizeLine/\(a == sysModules)=false/\∃xs:List (List Key × Addr × Value),
   Paired (λ(p:List Key × V) (q:List Key × Addr × Value)=>p.1=q.1/\H q.2.1=some (.tup<|p.1.map kV)/\RelV p.2 q.2.2) kvs xs ∧
   ∃o es ep,h.get? a=some o/\o.ExactDict/\o.data=.dict es ep/\es.toList=xs.map (entryOfKey<|tupleKind<|mixKind P w)/\(xs.map (·.1)).Nodup
 |.set S n=>h.SetOf (intKind P w) a S n
 |.ins C dx fs=>H dx=some (.own a)/\fs.length<=1000/\dx≠a/\h.get? a=some (PySem.W.instObj C dx) ∧
   ∃mA,h.Ns1 dx mA/\(∀f,RelO (fs.lookup f) (mA f))/\PySem.Within mA (fs.map (·.1))
 |.own _=>∃o,h.get? a=some o
 |.xd fs=>∃mA,h.Ns1 a mA/\∀f,RelO (fs.lookup f) (mA f)
 |.rng lo hi=>∃t u v,h.get? a=some { cls:=.type "range",data:=.fields #[.int lo t,.int hi u,.int 1 v] }
 |.frz o u=>h.get? a=some o/\ObjOk H h a u
 |.tbl ps=>h.get? a=some { cls:=.none,data:=.fields ps }
 |.met f x=>h.get? a=some (PySem.W.methodObj (.ref f) (.ref x))
 |.ext φ=>φ h/\(∃o,h.get? a=some o)/\∀h1 h2:Heap,φ h1->(∀o,h1.get? a=some o->h2.get? a=some o) -> φ h2
def HOk (H:Hp) (h:Heap):Prop:=∀a o,H a=some o->ObjOk P w H h a o
end
section
variable {P:Program}{w:World}{H H':Hp}{h h':Heap}{a:Addr}{o:HO}
theorem ObjOk.lt (x:ObjOk P w H h a o):a<h.objs.size:=by
 cases o with
 |lst xs=>obtain⟨_,_,_,_,e⟩:=x;exact Was e
 |tup xs=>obtain⟨_,_,_,p⟩:=x;exact p.tup.lt
 |dK kvs=>obtain⟨_,_,_,_,o,_,_,e,_⟩:=x;exact Was e
 |dT kvs=>obtain⟨_,_,_,_,o,_,_,e,_⟩:=x;exact Was e
 |set S n=>obtain⟨o,_,_,_,e,_⟩:=x;exact Was e
 |ins C dx fs=>obtain⟨_,_,_,e,_⟩:=x;exact Was e
 |own y=>obtain⟨_,e⟩:=x;exact Was e
 |xd fs=>obtain⟨_,⟨_,_,_,e,_⟩,_⟩:=x;exact Was e
 |rng lo hi=>obtain⟨_,_,_,e⟩:=x;exact Was e
 |frz ob u=>obtain⟨e,_⟩:=x;exact Was e
 |tbl ps=>exact Was (show h.get? a=some _ from x)
 |met f y=>exact Was (show h.get? a=some _ from x)
 |ext φ=>obtain⟨_,⟨_,e⟩,_⟩:=x;exact Was e
theorem Paired.mapP {α β:Type}{F G:α -> β -> Prop}:∀{l₁:List α}{l₂:List β},Paired F l₁ l₂ -> (∀a b,F a b->G a b)->Paired G l₁ l₂
 |_,_,.nil,_=>.nil
 |_,_,.cons r t,f=>.cons (f _ _ r) (Paired.mapP t f)
theorem ObjOk.stay (x:ObjOk P w H h a o) (k:∀b u,(b=a\/H b=some (.own a))->h.get? b=some u->h'.get? b=some u)
  (ho:∀b,H b=some (.own a)->H' b=some (.own a)) (ht:∀b xs,H b=some (.tup xs)->H' b=some (.tup xs)):ObjOk P w H' h' a o:=by
 induction o with
 |lst xs=>obtain⟨z,its,n,r,e⟩:=x;exact⟨z,its,n,r,k _ _ (.inl rfl) e⟩
 |tup xs=>obtain⟨z,its,r,ob,e,c⟩:=x;exact⟨z,its,r,ob,k _ _ (.inl rfl) e,c⟩
 |dK kvs=>obtain⟨z,y,vs,r,ob,es,ep,e,c⟩:=x;exact⟨z,y,vs,r,ob,es,ep,k _ _ (.inl rfl) e,c⟩
 |dT kvs=>
  obtain⟨z,y,xs,r,ob,es,ep,e,c⟩:=x;exact⟨z,y,xs,Paired.mapP r λp q z=>⟨z.1,ht _ _ z.2.1,z.2.2⟩,ob,es,ep,k _ _ (.inl rfl) e,c⟩
 |set S n=>obtain⟨ob,es,ep,t,e,c⟩:=x;exact⟨ob,es,ep,t,k _ _ (.inl rfl) e,c⟩
 |ins C dx fs=>
  obtain⟨d,z,ne,e,mA,⟨od,es,ep,e2,c⟩,r⟩:=x;exact⟨ho _ d,z,ne,k _ _ (.inl rfl) e,mA,⟨od,es,ep,k _ _ (.inr d) e2,c⟩,r⟩
 |own y=>obtain⟨ob,e⟩:=x;exact⟨ob,k _ _ (.inl rfl) e⟩
 |xd fs=>obtain⟨mA,⟨od,es,ep,e,c⟩,r⟩:=x;exact⟨mA,⟨od,es,ep,k _ _ (.inl rfl) e,c⟩,r⟩
 |rng lo hi=>obtain⟨t,u,v,e⟩:=x;exact⟨t,u,v,k _ _ (.inl rfl) e⟩
 |frz ob u ih=>obtain⟨e,q⟩:=x;exact⟨k _ _ (.inl rfl) e,ih q⟩
 |tbl ps=>
  have e:h.get? a=some { cls:=.none,data:=.fields ps }:=x;show h'.get? a=some { cls:=.none,data:=.fields ps };exact k a _ (.inl rfl) e
 |met f y=>
  have e:h.get? a=some (PySem.W.methodObj (.ref f) (.ref y)):=x;show h'.get? a=some (PySem.W.methodObj (.ref f) (.ref y));exact k a _ (.inl rfl) e
 |ext φ=>obtain⟨p,⟨o,e⟩,st⟩:=x;exact⟨st _ _ p λo q=>k _ _ (.inl rfl) q,⟨o,k _ _ (.inl rfl) e⟩,st⟩
theorem HOk.lt (x:HOk P w H h) (e:H a=some o):a<h.objs.size:=(x a o e).lt
theorem HOk.fresh (x:HOk P w H h) (e:h.objs.size<=a):H a=none:=by
 cases q:H a with
 |none=>rfl
 |some u=>exact absurd (Wbp (x.lt q) e) (Wc5 _)
theorem HOk.kept (x:HOk P w H h) (k:∀b u,h.get? b=some u->h'.get? b=some u):HOk P w H h':=λa o e=>
 (x a o e).stay (λb u _ q=>k b u q) (λ_ q=>q) λ_ _ q=>q
theorem HOk.laid (x:HOk P w H h) (k:∀b u,h.get? b=some u->h'.get? b=some u) (hp:h.objs.size<=a) (new:ObjOk P w (upd H a o) h' a o):HOk P w (upd H a o) h':=λb u e=>by
 have hn:=x.fresh hp;by_cases hb:b=a
 ·subst hb;rw[Za3]at e;cases e;exact new
 ·rw[Za9 hb]at e
  exact(x b u e).stay (λc v _ q=>k c v q) (λc q=>by rw[Za9 (Zcb q hn)];exact q) λc xs q=>by rw[Za9 (Zcb q hn)];exact q
end
def Rd (H:Hp) (a:Addr) (u:HO):Prop:=H a=some u\/∃o,H a=some (.frz o u)
theorem Rd.ok {P:Program}{w:World}{H:Hp}{h:Heap}{a:Addr}{u:HO}(r:Rd H a u) (x:HOk P w H h):ObjOk P w H h a u:=by
 rcases r with r|⟨o,r⟩
 ·exact x a u r
 ·obtain⟨_,q⟩:=x a _ r
  exact q
def Mut:Option HO->Prop
 |some (.lst _)=>True
 |some (.dK _)=>True
 |some (.dT _)=>True
 |some (.set _ _)=>True
 |some (.ins _ _ _)=>True
 |some (.ext _)=>True
 |_=>False
section
variable {P:Program}{w:World}{H:Hp}{h h':Heap}{x e:Addr}{o':HO}
theorem HOk.write (ok:HOk P w H h) (mu:Mut (H x)) (he:e=x\/H e=some (.own x)) (k:∀b u,b≠e->h.get? b=some u->h'.get? b=some u) (heo:∃u,h'.get? e=some u)
  (new:ObjOk P w (upd H x o') h' x o'):HOk P w (upd H x o') h':=λb u q=>by
 have nown:∀c y,H c=some (.own y)->c≠x:=λc y r z=>by subst z;rw[r]at mu;exact mu
 have ntup:∀c xs,H c=some (.tup xs)->c≠x:=λc xs r z=>by subst z;rw[r]at mu;exact mu
 by_cases hb:b=x
 ·subst hb;rw[Za3]at q;cases q;exact new
 ·rw[Za9 hb]at q
  by_cases hbe:b=e
  ·have q':H b=some (.own x):=by
    rcases he with z|z
    ·exact absurd (hbe.trans z) hb
    ·rw[hbe];exact z
   rw[q]at q';cases q';obtain⟨v,hv⟩:=heo;exact⟨v,by rw[hbe];exact hv⟩
  ·refine(ok b u q).stay (λc v hc r=>k c v ?_ r) (λc r=>by rw[Za9 (nown c b r)];exact r) λc xs r=>by rw[Za9 (ntup c xs r)];exact r
   rcases hc with rfl|hc
   ·exact hbe
   ·rintro rfl
    rcases he with z|z
    ·exact nown c b hc z
    ·rw[hc]at z;cases z;exact hb rfl
end
structure Un (fs ex:List Addr) (H H':Hp) (h h':Heap):Prop where
 keep:∀b o,h.get? b=some o->H b=none->b ∉ fs->b ∉ ex->h'.get? b=some o
 slot:∀b o,h.get? b=some o->H b=none->b∈fs->b ∉ ex->∃sl,h'.get? b=some { o with slots:=sl }
 free:∀b o,h.get? b=some o->H b=none->b ∉ ex->H' b=none
 there:∀b o,h.get? b=some o->b ∉ ex->∃o',h'.get? b=some o'
 tups:∀b xs,H b=some (.tup xs)->H' b=some (.tup xs)
 frzs:∀b o u,H b=some (.frz o u)->H' b=some (.frz o u)
 tbls:∀b ps,H b=some (.tbl ps)->∃more,H' b=some (.tbl<|ps++more)
section
variable {fs fs' ex ex':List Addr}{H H1 H2:Hp}{h h1 h2 h':Heap}{a x e:Addr}{o:HO}
theorem Un.any (u:Un fs ex H H1 h h1) {b:Addr}{ob:Obj}(q:h.get? b=some ob) (n:H b=none) (hx:b ∉ ex):∃sl,h1.get? b=some { ob with slots:=sl }:=by
 by_cases hb:b∈fs
 ·exact u.slot b ob q n hb hx
 ·exact⟨ob.slots,u.keep b ob q n hb hx⟩
theorem Un.kept (k:∀b u,h.get? b=some u->h'.get? b=some u):Un fs ex H H h h':=
 ⟨λb ob q _ _ _=>k b ob q,λb ob q _ _ _=>⟨ob.slots,k b ob q⟩,λ_ _ _ n _=>n,λb ob q _=>⟨ob,k b ob q⟩,λ_ _ q=>q,λ_ _ _ q=>q,λ_ ps q=>⟨#[],by rw[q];simp⟩⟩
theorem Un.refl:Un fs ex H H h h:=Un.kept λ_ _ q=>q
theorem Un.laid (k:∀b u,h.get? b=some u->h'.get? b=some u) (hp:h.objs.size<=a) (hn:H a=none):Un fs ex H (upd H a o) h h' where
 keep:=λb u q _ _ _=>k b u q
 slot:=λb u q _ _ _=>⟨u.slots,k b u q⟩
 free:=λb u q n _=>by rw[Za9 (Wa2<|Wbp (Was q) hp)];exact n
 there:=λb u q _=>⟨u,k b u q⟩
 tups:=λb xs q=>by rw[Za9 (Zcb q hn)];exact q
 frzs:=λb u xs q=>by rw[Za9 (Zcb q hn)];exact q
 tbls:=λb ps q=>⟨#[],by rw[Za9 (Zcb q hn),q];simp⟩
theorem Un.write (mu:Mut (H x)) (he:e=x\/H e=some (.own x)) (k:∀b u,b≠e->h.get? b=some u->h'.get? b=some u) (heo:∃u,h'.get? e=some u):Un fs ex H (upd H x o) h h':=by
 have hx:∀b,H b=none->b≠x:=λb n z=>by subst z;rw[n]at mu;exact mu
 have hb:∀b,H b=none->b≠e:=λb n z=>by
  subst z;rcases he with r|r
  ·exact hx b n r
  ·rw[n]at r;cases r
 have hm:∀b u,H b=some u->¬ Mut (some u)->b≠x:=λb u q nm z=>by subst z;rw[q]at mu;exact nm mu
 refine⟨λb u q n _ _=>k b u (hb b n) q,λb u q n _ _=>⟨u.slots,k b u (hb b n) q⟩,λb u q n _=>by rw[Za9 (hx b n)];exact n,λb u q _=>?_,
  λb xs q=>by rw[Za9 (hm b _ q λz=>z)];exact q,λb u xs q=>by rw[Za9 (hm b _ q λz=>z)];exact q,λb ps q=>⟨#[],by rw[Za9 (hm b _ q λz=>z),q];simp⟩⟩
 by_cases hbe:b=e
 ·subst hbe;exact heo
 ·exact⟨u,k b u hbe q⟩
end
def trk (h:Heap) (H:Hp):List Addr:=(Wap h.objs.size).filter λa=>(H a).isSome
def hidT (h:Heap) (H:Hp):Heap:=PySem.W.hideAll h<|trk h H
theorem Zr0 (h:Heap) (H:Hp):(hidT h H).objs.size=h.objs.size:=PySem.W.hideAll_size _ _
theorem Ztq {h:Heap}{H:Hp}{b:Addr}{o:Obj}(e:h.get? b=some o) (n:H b=none):(hidT h H).get? b=some o:=
 PySem.W.hideAll_get _ e λhm=>by
  have q:(H b).isSome=true:=(Wai.mp hm).2;rw[n]at q;simp at q
theorem Zwu {h:Heap}{H:Hp}{b:Addr}{o:Obj}(e:(hidT h H).get? b=some o):h.get? b=some o/\H b=none:=by
 have e':h.get? b=some o:=PySem.W.of_hideAll (trk h H) e;refine⟨e',?_⟩;cases q:H b with
 |none=>rfl
 |some x=>
  have hm:b∈trk h H:=Wai.mpr ⟨Wav.mpr<|Was e',by simp[q]⟩;have z:(hidT h H).get? b=none:=PySem.W.hideAll_none (trk h H) hm;rw[z]at e;cases e
def allNews (g h:Heap) (L:Addr):List (Addr × Obj):=(Wap h.objs.size).filterMap λa=>if a=L\/(g.get? a).isSome=true then none else (h.get? a).map λo=>(a,o)
def rest (g h:Heap) (L d:Addr):List (Addr × Obj):=(allNews g h L).filter λp=>decide<|p.1≠d
end L2
namespace L2
open PySem PySem.Spec PyProof.Rows
structure Mod (K:W.Frag) (mg:Str->Option Value) (base:Heap):Prop where
 kin:K.In base
 glob:base.Ns mainGlobals mg
 blt:∃mb,base.Ns builtinsNs mb/\∀x:Str,x ≠ "__name__" -> mb x=bootBuiltins x
 nolimit:base.NoLimit
structure Cx where
 prog:Program
 w:World
 K:W.Frag
 mg:Str->Option Value
 base:Heap
 A:Around
 N:List Str
 s₀:Shared
 H₀:Hp
 env:Env
 outer:List Env
 stack:List Env
 ex:List Addr
 fn:Str->Bool
 calm:Bool
 pn:List (Addr × Obj)
 xe:Value->Shared->Prop
def frs (l:List Env):List Addr:=l.filterMap (·.frame)
abbrev Cx.fs (X:Cx):List Addr:=frs X.outer
def Vis (sc:Scope) (x:Str):Prop:=sc.names.lookup x=some .local\/sc.names.lookup x=some .cell\/sc.names.lookup x=some .free
def Loc (sc:Scope) (x:Str):Prop:=sc.names.lookup x=some .local\/sc.names.lookup x=some .cell
def Look (env:Env) (h:Heap) (m:Str->Option Value) (x:Str) (u:Value):Prop:=
 (env.kindOf x=some .local/\m x=some u)\/((env.kindOf x=some .cell\/env.kindOf x=some .free)/\∃c,env.cells.lookup x=some c/\h.IsCell c (some u))
structure Cx.Ok (X:Cx):Prop where
 mod:Mod X.K X.mg X.base
 kind:X.env.scope.kind=.function
 glob:X.env.globals=mainGlobals
 blt:X.env.builtins=builtinsNs
 above:X.s₀.heap.objs.size<=X.env.locals
 inj:∀x y c,X.env.cells.lookup x=some c->X.env.cells.lookup y=some c->x=y
 has:∀x,(X.env.kindOf x=some .cell\/X.env.kindOf x=some .free)->∃c,X.env.cells.lookup x=some c
 cab:∀x c,X.fn x=true->X.env.cells.lookup x=some c->X.s₀.heap.objs.size<=c
 hd:X.calm=true->X.A.handled=none
 frames:X.A.frames=some X.stack
 stk:X.stack=X.outer\/(X.stack=X.env::X.outer/\X.env.frame=some X.env.locals)
 exf:∀b∈X.ex,b≠X.env.locals/\∀x c,X.env.cells.lookup x=some c->c≠b
 bs:∀b o,X.base.get? b=some o->X.s₀.heap.get? b=some o/\X.H₀ b=none
 bsz:X.base.objs.size<=X.s₀.heap.objs.size
 noex:∀b o,X.base.get? b=some o->b ∉ X.ex
 exfs:∀b∈X.ex,b ∉ X.fs
 funs:X.s₀.heap.FunFrames X.base X.outer
 frf:∀b∈X.fs,X.H₀ b=none
structure Inv (X:Cx) (pins:List (Addr × Obj)) (σ:List (Option V)) (H:Hp) (s:Shared):Prop where
 ok:X.Ok
 os:s.os=X.s₀.os
 bare:AllBare s.gens
 base:Un X.fs X.ex X.H₀ H X.s₀.heap s.heap
 loc:∃m,s.heap.Ns X.env.locals m/\∀(i:Nat) (x:Str) (v:V),X.N[i]?=some x -> σ[i]?=some (some v)->Vis X.env.scope x->∃u,RelV v u/\Look X.env s.heap m x u
 cell:∀x c,X.env.cells.lookup x=some c->∃v,s.heap.IsCell c v
 free:H X.env.locals=none
 freeC:∀x c,X.env.cells.lookup x=some c->H c=none
 pin:∀p∈X.pn++pins,s.heap.get? p.1=some p.2/\H p.1=none/\p.1≠X.env.locals/\p.1 ∉ X.fs/\∀v,p.2.data≠.cell v
 hok:HOk X.prog X.w H s.heap
 len:σ.length=X.N.length
section
variable {X:Cx}{pins:List (Addr × Obj)}{σ:List (Option V)}{H H':Hp}{s:Shared}{h':Heap}
theorem Cx.Ok.nofr (ok:X.Ok) {b:Addr}{o:Obj}(e:X.base.get? b=some o):b ∉ X.fs:=λhb=>by
 have:=(ok.funs.mem hb).1;rw[e]at this;cases this
theorem Inv.bs (I:Inv X pins σ H s):∀b o,X.base.get? b=some o->s.heap.get? b=some o/\H b=none:=λb o e=>
 ⟨I.base.keep b o (I.ok.bs b o e).1 (I.ok.bs b o e).2 (I.ok.nofr e) (I.ok.noex b o e),I.base.free b o (I.ok.bs b o e).1 (I.ok.bs b o e).2 (I.ok.noex b o e)⟩
theorem Inv.bk (I:Inv X pins σ H s):∀b o,X.base.get? b=some o->s.heap.get? b=some o:=λb o e=>(I.bs b o e).1
theorem Inv.mod (I:Inv X pins σ H s):Mod X.K X.mg X.base:=I.ok.mod
theorem Inv.kIn (I:Inv X pins σ H s):X.K.In s.heap:=I.ok.mod.kin.keeps I.bk
theorem Inv.lt (I:Inv X pins σ H s):X.env.locals<s.heap.objs.size:=let ⟨_,hn,_⟩:=I.loc;hn.lt
theorem Inv.sz (I:Inv X pins σ H s):X.s₀.heap.objs.size<=s.heap.objs.size:=Wbz I.ok.above<|Wb0 I.lt
theorem Inv.nofs (I:Inv X pins σ H s) {a:Addr}(h:s.heap.objs.size<=a):a ∉ X.fs:=λhb=>by
 obtain⟨_,o,ho,_⟩:=I.ok.funs.mem hb;exact absurd (Wbp (Was ho)<|Wbz I.sz h)<|Wc5 _
theorem Inv.cne (I:Inv X pins σ H s):∀x c,X.env.cells.lookup x=some c->c≠X.env.locals:=λx c e z=>by
 obtain⟨v,o,ho,hd⟩:=I.cell x c e;obtain⟨m,⟨o',es,ep,ho',hd',_⟩,_⟩:=I.loc;rw[z,ho']at ho;cases ho;rw[hd']at hd;cases hd
theorem Inv.funs (I:Inv X pins σ H s):s.heap.FunFrames X.base X.outer:=by
 have all:∀(l:List Env),(∀b∈frs l,b∈X.fs)->X.s₀.heap.FunFrames X.base l->s.heap.FunFrames X.base l:=by
  intro l
  induction l with
  |nil=>intro _ _;trivial
  |cons env r ih=>
   intro hs hl;obtain⟨hk,⟨L,o,hf,hn,ho,hd⟩,hr⟩:=hl;have hL:L∈X.fs:=hs L (by unfold frs;rw[Wen,hf];exact Wam);obtain⟨sl,e⟩:=I.base.slot L o ho (I.ok.frf L hL) hL λz=>I.ok.exfs L z hL;exact⟨hk,⟨L,_,hf,hn,e,hd⟩,ih (λb hb=>hs b (by unfold frs;rw[Wen,hf];exact Wau _ hb)) hr⟩
 exact all X.outer (λ_ hb=>hb) I.ok.funs
theorem Inv.stack (I:Inv X pins σ H s):s.heap.FunFrames X.base X.stack:=by
 rcases I.ok.stk with e|⟨e,hf⟩
 ·rw[e];exact I.funs
 ·rw[e]
  obtain⟨m,hn,_⟩:=I.loc;refine .cons (by rw[I.ok.kind];decide) hf hn ?_ I.funs;exact Heap.get?_none_of_le<|Wbz I.ok.bsz I.ok.above
theorem Inv.stkSub (I:Inv X pins σ H s):∀b∈frs X.stack,b∈X.env.locals::X.fs:=λb hb=>by
 rcases I.ok.stk with e|⟨e,hf⟩
 ·rw[e]at hb;exact Wau _ hb
 ·rw[e]at hb
  unfold frs at hb;rw[Wen,hf]at hb;exact hb
theorem Inv.stkFree (I:Inv X pins σ H s):∀b∈frs X.stack,H b=none:=λb hb=>by
 rcases Waq.mp (I.stkSub b hb) with e|hb
 ·rw[e];exact I.free
 ·obtain⟨_,o,ho,_⟩:=I.ok.funs.mem hb
  exact I.base.free b o ho (I.ok.frf b hb) λz=>I.ok.exfs b z hb
theorem Inv.step {g':Array GenState}{t':Nat}{d':Drawn}{ch:List Addr}(I:Inv X pins σ H s)
  (hch:∀b∈ch,(b∈X.ex\/X.s₀.heap.objs.size<=b)/\b≠X.env.locals/\(∀x c,X.env.cells.lookup x=some c->c≠b)/\∀p∈X.pn++pins,p.1≠b)
  (keep:∀b o,b≠X.env.locals->b ∉ X.fs->b ∉ ch->s.heap.get? b=some o->H b=none->h'.get? b=some o)
  (slot:∀b o,b≠X.env.locals->b∈X.fs->b ∉ ch->s.heap.get? b=some o->H b=none->∃sl,h'.get? b=some { o with slots:=sl }) (free:∀b o,b ∉ ch->s.heap.get? b=some o->H b=none->H' b=none)
  (there:∀b o,b ∉ ch->s.heap.get? b=some o->∃o',h'.get? b=some o')
  (tups:∀b xs,H b=some (.tup xs)->H' b=some (.tup xs)) (frzs:∀b o u,H b=some (.frz o u)->H' b=some (.frz o u)) (tbls:∀b ps,H b=some (.tbl ps)->∃more,H' b=some (.tbl<|ps++more))
  (ns:∀m,s.heap.Ns X.env.locals m->h'.Ns X.env.locals m) (hok:HOk X.prog X.w H' h') (hg:AllBare g') :
  Inv X pins σ H' { s with heap:=h',gens:=g',drawn:=d',toks:=t' }:=by
 have neL:∀b o,X.s₀.heap.get? b=some o->b≠X.env.locals:=λb o e=>Wa2<|Wbp (Was e) I.ok.above;have neC:∀b o,X.s₀.heap.get? b=some o->b ∉ X.ex->b ∉ ch:=λb o e hx hb=>by
  rcases(hch b hb).1 with z|z
  ·exact hx z
  ·exact absurd (Wbp (Was e) z)<|Wc5 _
 have cellK:∀x c,X.env.cells.lookup x=some c->∀v,s.heap.IsCell c v->h'.IsCell c v:=λx c e v hq_=>by
  obtain⟨o,ho,hd⟩:=hq_;have nch:c ∉ ch:=λz=>(hch c z).2.2.1 x c e rfl;by_cases hc:c∈X.fs
  ·obtain⟨sl,q⟩:=slot c o (I.cne x c e) hc nch ho (I.freeC x c e)
   exact⟨_,q,hd⟩
  ·exact⟨o,keep c o (I.cne x c e) hc nch ho<|I.freeC x c e,hd⟩
 refine⟨I.ok,I.os,hg,⟨λb o e n hb hx=>?_,λb o e n hb hx=>?_,λb o e n hx=>?_,λb o e hx=>?_,λb xs e=>tups b xs<|I.base.tups b xs e,λb o xs e=>frzs b o xs<|I.base.frzs b o xs e,λb ps e=>?_⟩,?_,λx c e=>?_,?_,λx c e=>?_,λp hp=>?_,hok,I.len⟩
 ·exact keep b o (neL b o e) hb (neC b o e hx) (I.base.keep b o e n hb hx)<|I.base.free b o e n hx
 ·obtain⟨sl,e1⟩:=I.base.slot b o e n hb hx
  obtain⟨sl',e2⟩:=slot b _ (neL b o e) hb (neC b o e hx) e1<|I.base.free b o e n hx;exact⟨sl',e2⟩
 ·obtain⟨o',e1⟩:=I.base.there b o e hx
  exact free b o' (neC b o e hx) e1<|I.base.free b o e n hx
 ·obtain⟨o',e1⟩:=I.base.there b o e hx
  exact there b o' (neC b o e hx) e1
 ·obtain⟨m1,e1⟩:=I.base.tbls b ps e
  obtain⟨m2,e2⟩:=tbls b _ e1;exact⟨m1++m2,by rw[e2,Array.append_assoc]⟩
 ·obtain⟨m,hn,hl⟩:=I.loc
  refine⟨m,ns m hn,λi x v e1 e2 e3=>?_⟩;obtain⟨u,r,l⟩:=hl i x v e1 e2 e3;refine⟨u,r,?_⟩;rcases l with l|⟨k,c,e,z⟩
  ·exact .inl l
  ·exact .inr ⟨k,c,e,cellK x c e _ z⟩
 ·obtain⟨v,z⟩:=I.cell x c e
  exact⟨v,cellK x c e v z⟩
 ·obtain⟨m,⟨o,_,_,ho,_⟩,_⟩:=I.loc
  exact free _ o (λz=>(hch _ z).2.1 rfl) ho I.free
 ·obtain⟨v,o,ho,hd⟩:=I.cell x c e
  exact free c o (λz=>(hch c z).2.2.1 x c e rfl) ho<|I.freeC x c e
 ·obtain⟨e,n,ne,nf,d⟩:=I.pin p hp
  have nch:p.1 ∉ ch:=λz=>(hch p.1 z).2.2.2 p hp rfl;exact⟨keep p.1 p.2 ne nf nch e n,free p.1 p.2 nch e n,ne,nf,d⟩
theorem Inv.un {t':Nat}(I:Inv X pins σ H s) (u:Un X.fs [] H H' s.heap h') (hok:HOk X.prog X.w H' h'):Inv X pins σ H' { s with heap:=h',toks:=t' }:=by
 obtain⟨m,⟨o,es,ep,ho,r⟩,_⟩:=id I.loc;obtain⟨sl,hL⟩:=u.any ho I.free (by simp);exact I.step (g':=s.gens) (d':=s.drawn) (ch:=[]) (λ_ z=>nomatch z) (λb o _ hb _ e n=>u.keep b o e n hb (by simp)) (λb o _ hb _ e n=>u.slot b o e n hb (by simp)) (λb o _ e n=>u.free b o e n (by simp)) (λb o _ e=>u.there b o e (by simp)) u.tups u.frzs u.tbls (λm' hm=>by
  obtain⟨o',es',ep',ho',r'⟩:=hm;rw[ho]at ho';cases ho';exact⟨_,es',ep',hL,r'⟩) hok I.bare
theorem Inv.call {g':Array GenState}{t':Nat}{d':Drawn}{ch:List Addr}(I:Inv X pins σ H s) (u:Un (frs X.stack) ch H H' s.heap h') (hok:HOk X.prog X.w H' h') (hg:AllBare g')
  (hch:∀b∈ch,(b∈X.ex\/X.s₀.heap.objs.size<=b)/\b≠X.env.locals/\(∀x c,X.env.cells.lookup x=some c->c≠b)/\∀p∈X.pn++pins,p.1≠b) :
  Inv X pins σ H' { s with heap:=h',gens:=g',drawn:=d',toks:=t' }:=by
 obtain⟨m,⟨o,es,ep,ho,r⟩,_⟩:=id I.loc;obtain⟨sl,hL⟩:=u.any ho I.free λz=>(hch _ z).2.1 rfl;exact I.step (ch:=ch) hch (λb o hL hb hc e n=>u.keep b o e n (λz=>(Waq.mp (I.stkSub b z)).elim hL hb) hc) (λb o _ _ hc e n=>u.any e n hc) (λb o hc e n=>u.free b o e n hc) (λb o hc e=>u.there b o e hc) u.tups u.frzs u.tbls (λm' hm=>by
  obtain⟨o',es',ep',ho',r'⟩:=hm;rw[ho]at ho';cases ho';exact⟨_,es',ep',hL,r'⟩) hok hg
theorem Inv.turned {t':Nat}{it:Addr}(I:Inv X pins σ H s) (k:∀b o,b≠it->s.heap.get? b=some o->h'.get? b=some o) (hn:H it=none) (hL:it≠X.env.locals)
  (h1:it∈X.ex\/X.s₀.heap.objs.size<=it) (h2:∀x c,X.env.cells.lookup x=some c->c≠it) (h3:∀p∈X.pn++pins,p.1≠it):Inv X pins σ H { s with heap:=h',toks:=t' }:=by
 have nit:∀b u,H b=some u->b≠it:=λb u e z=>by rw[z,hn]at e;cases e
 refine I.step (g':=s.gens) (d':=s.drawn) (ch:=[it]) (λb hb=>?_) (λb o _ _ hc e _=>k b o (λz=>hc (by simp[z])) e) (λb o _ _ hc e _=>⟨o.slots,k b o (λz=>hc (by simp[z])) e⟩) (λ_ _ _ _ n=>n)
  (λb o hc e=>⟨o,k b o (λz=>hc (by simp[z])) e⟩) (λ_ _ e=>e) (λ_ _ _ e=>e) (λb ps e=>⟨#[],by rw[e];simp⟩) (λm hm=>?_) (λb u e=>?_) I.bare
 ·have e:b=it:=by simpa using hb
  subst e;exact⟨h1,hL,h2,h3⟩
 ·obtain⟨o,es,ep,ho,r⟩:=hm
  exact⟨o,es,ep,k _ o (Ne.symm hL) ho,r⟩
 ·refine(I.hok b u e).stay (λc v hc q=>k c v ?_ q) (λ_ q=>q) λ_ _ q=>q
  rcases hc with z|z
  ·rw[z];exact nit b u e
  ·exact nit c _ z
theorem Inv.tok (I:Inv X pins σ H s) (t:Nat):Inv X pins σ H { s with toks:=t }:=I.un (h':=s.heap) (t':=t) Un.refl I.hok
theorem Inv.kept {t':Nat}(I:Inv X pins σ H s) (k:∀b u,s.heap.get? b=some u->h'.get? b=some u):Inv X pins σ H { s with heap:=h',toks:=t' }:=I.un (Un.kept k)<|I.hok.kept k
theorem Inv.laid {a:Addr}{o:HO}{t':Nat}(I:Inv X pins σ H s) (k:∀b u,s.heap.get? b=some u->h'.get? b=some u) (hp:s.heap.objs.size<=a) (new:ObjOk X.prog X.w (upd H a o) h' a o) :
  Inv X pins σ (upd H a o) { s with heap:=h',toks:=t' }:=I.un (Un.laid k hp<|I.hok.fresh hp)<|I.hok.laid k hp new
theorem Inv.write {x e:Addr}{o:HO}{t':Nat}(I:Inv X pins σ H s) (mu:Mut (H x)) (he:e=x\/H e=some (.own x)) (k:∀b u,b≠e->s.heap.get? b=some u->h'.get? b=some u) (heo:∃u,h'.get? e=some u)
  (new:ObjOk X.prog X.w (upd H x o) h' x o):Inv X pins σ (upd H x o) { s with heap:=h',toks:=t' }:=I.un (Un.write mu he k heo)<|I.hok.write mu he k heo new
theorem Inv.pins_of {pins':List (Addr × Obj)}(I:Inv X pins σ H s) (h:∀p∈pins',s.heap.get? p.1=some p.2/\H p.1=none/\p.1≠X.env.locals/\p.1 ∉ X.fs/\∀v,p.2.data≠.cell v):Inv X pins' σ H s:=
 ⟨I.ok,I.os,I.bare,I.base,I.loc,I.cell,I.free,I.freeC,λp hp=>(Wbd.mp hp).elim (λz=>I.pin p<|Wcn _ z) (h p),I.hok,I.len⟩
theorem Znj {N:List Str}(hN:N.Nodup) {i j:Nat}{x:Str}(a:N[i]?=some x) (b:N[j]?=some x):i=j:=by
 obtain⟨h1,e1⟩:=Wah.mp a;obtain⟨h2,e2⟩:=Wah.mp b;exact(Wdx hN).mp (e1.trans e2.symm)
theorem Zk5 {M:Model}{A:Around}{E:Value->Shared->Prop}{i:Nat}{x:Str}{v:V}{u:Value}{Q:Unit->Shared->Prop}(I:Inv X pins σ H s) (hN:X.N.Nodup) (hi:X.N[i]?=some x) (hx:Loc X.env.scope x) (r:RelV v u)
  (h:∀s',Inv X pins (σ.set i<|some v) H s' -> (∃a,Heap.SameBut a s.heap s'.heap/\(a=X.env.locals\/X.env.cells.lookup x=some a))->Q () s') (hf:X.fn x=true\/X.env.scope.names.lookup x=some .local:=by first|exact .inl rfl|exact .inr rfl|assumption):wpAny M A (storeName X.env x u) Q E s:=by
 obtain⟨m,hn,hl⟩:=id I.loc;have hcls:(X.env.scope.kind == .class || (X.env.scope.kind == .module && X.env.locals != X.env.globals))=false:=by rw[I.ok.kind];rfl
 have hiσ:i < σ.length:=by rw[I.len];exact(Wah.mp hi).1
 have cne:=I.cne;have tracked:∀{a:Addr}{h':Heap},(∃o,s.heap.get? a=some o/\H a=none)->Heap.SameBut a s.heap h' -> HOk X.prog X.w H h':=λ{a h'} ha hs b ob e=>by
  obtain⟨_,_,hfree⟩:=ha;refine(I.hok b ob e).stay (λc w' hc q=>(hs.2 c ?_).trans q) (λ_ q=>q) λ_ _ q=>q;rintro rfl;rcases hc with rfl|hc
  ·rw[hfree]at e;cases e
  ·rw[hfree]at hc;cases hc
 rcases hx with hk|hk
 ·refine wpAny_storeName_local hk hn (λh' hn' hs=>?_) hcls
  obtain⟨oL,_,_,hoL,_⟩:=id hn;refine h _ ⟨I.ok,I.os,I.bare,⟨λb o e n hb hx=>?_,λb o e n hb hx=>?_,I.base.free,λb o e hx=>?_,I.base.tups,I.base.frzs,I.base.tbls⟩,⟨_,hn',λj y v' e1 e2 e3=>?_⟩,λy c e=>?_,I.free,I.freeC,λp hp=>?_,tracked ⟨oL,hoL,I.free⟩ hs,by simpa using I.len⟩ ⟨_,hs,.inl rfl⟩
  ·exact(hs.2 b<|Wa2<|Wbp (Was e) I.ok.above).trans (I.base.keep b o e n hb hx)
  ·obtain⟨sl,e1⟩:=I.base.slot b o e n hb hx
   exact⟨sl,(hs.2 b<|Wa2<|Wbp (Was e) I.ok.above).trans e1⟩
  ·obtain⟨o',e1⟩:=I.base.there b o e hx
   exact⟨o',(hs.2 b<|Wa2<|Wbp (Was e) I.ok.above).trans e1⟩
  ·by_cases hj:j=i
   ·subst hj
    rw[hi]at e1;cases e1;rw[Wao hiσ]at e2;cases e2;exact⟨u,r,.inl ⟨hk,by simp⟩⟩
   ·rw[War (Ne.symm hj)]at e2
    obtain⟨u',r',q⟩:=hl j y v' e1 e2 e3;refine⟨u',r',?_⟩;rcases q with ⟨k,e⟩|⟨k,c,e,z⟩
    ·refine .inl ⟨k,?_⟩
     have:y≠x:=λe=>hj<|Znj hN e1 (e ▸ hi);simp[this,e]
    ·exact .inr ⟨k,c,e,z.sameBut hs<|cne y c e⟩
  ·obtain⟨w',z⟩:=I.cell y c e
   exact⟨w',z.sameBut hs<|cne y c e⟩
  ·obtain⟨e,n,ne,nf,d⟩:=I.pin p hp
   exact⟨(hs.2 p.1 ne).trans e,n,ne,nf,d⟩
 ·have hfn:X.fn x=true:=by
   rcases hf with z|z
   ·exact z
   ·rw[z]at hk;cases hk
  obtain⟨c,hc⟩:=I.ok.has x (.inl hk);obtain⟨w',z⟩:=I.cell x c hc;refine wpAny_storeName_cell I.ok.kind hk hc z λh' hc' hs=>?_;obtain⟨oc,hoc,hocd⟩:=id z;refine h { s with heap:=h' } ⟨I.ok,I.os,I.bare,⟨λb o e n hb hx=>?_,λb o e n hb hx=>?_,I.base.free,λb o e hx=>?_,I.base.tups,I.base.frzs,I.base.tbls⟩,⟨m,hn.sameBut hs<|Ne.symm<|cne x c hc,λj y v' e1 e2 e3=>?_⟩,λy c' e=>?_,I.free,I.freeC,λp hp=>?_,tracked ⟨oc,hoc,I.freeC x c hc⟩ hs,by simpa using I.len⟩ ⟨c,hs,.inr hc⟩
  ·exact(hs.2 b<|Wa2<|Wbp (Was e)<|I.ok.cab x c hfn hc).trans (I.base.keep b o e n hb hx)
  ·obtain⟨sl,e1⟩:=I.base.slot b o e n hb hx
   exact⟨sl,(hs.2 b<|Wa2<|Wbp (Was e)<|I.ok.cab x c hfn hc).trans e1⟩
  ·obtain⟨o',e1⟩:=I.base.there b o e hx
   exact⟨o',(hs.2 b<|Wa2<|Wbp (Was e)<|I.ok.cab x c hfn hc).trans e1⟩
  ·by_cases hj:j=i
   ·subst hj
    rw[hi]at e1;cases e1;rw[Wao hiσ]at e2;cases e2;exact⟨u,r,.inr ⟨.inl hk,c,hc,hc'⟩⟩
   ·rw[War (Ne.symm hj)]at e2
    obtain⟨u',r',q⟩:=hl j y v' e1 e2 e3;refine⟨u',r',?_⟩;rcases q with q|⟨k,c',e,z'⟩
    ·exact .inl q
    ·refine .inr ⟨k,c',e,z'.sameBut hs ?_⟩
     rintro rfl;exact hj<|Znj hN e1 (I.ok.inj _ _ _ e hc ▸ hi)
  ·by_cases hcc:c'=c
   ·subst hcc;exact⟨_,hc'⟩
   ·obtain⟨w2,z2⟩:=I.cell y c' e
    exact⟨w2,z2.sameBut hs hcc⟩
  ·obtain⟨e,n,ne,nf,d⟩:=I.pin p hp
   refine⟨(hs.2 p.1 ?_).trans e,n,ne,nf,d⟩;intro q;rw[q,hoc]at e;have q':oc=p.2:=Wba.inj e;exact d w' (by rw[<- q'];exact hocd)
theorem Zep {M:Model}{A:Around}{E:Value->Shared->Prop}{i:Nat}{x:Str}{v:V}{u:Value}{Q:Unit->Shared->Prop}(I:Inv X pins σ H s) (hN:X.N.Nodup) (hi:X.N[i]?=some x) (hx:Loc X.env.scope x) (r:RelV v u)
  (h:∀s',Inv X pins (σ.set i<|some v) H s' -> Q () s') (hf:X.fn x=true\/X.env.scope.names.lookup x=some .local:=by first|exact .inl rfl|exact .inr rfl|assumption):wpAny M A (storeName X.env x u) Q E s:=
 Zk5 I hN hi hx r (λs' I' _=>h s' I') hf
theorem Inv.call' {s':Shared}{ch:List Addr}(I:Inv X pins σ H s) (ho:s'.os=s.os) (u:Un (frs X.stack) ch H H' s.heap s'.heap) (hok:HOk X.prog X.w H' s'.heap) (hg:AllBare s'.gens)
  (hch:∀b∈ch,(b∈X.ex\/X.s₀.heap.objs.size<=b)/\b≠X.env.locals/\(∀x c,X.env.cells.lookup x=some c->c≠b)/\∀p∈X.pn++pins,p.1≠b):Inv X pins σ H' s':=by
 obtain⟨h',g',d',t',o'⟩:=s';have e:o'=s.os:=ho;subst e;exact I.call (g':=g') (t':=t') (d':=d') u hok hg hch
end
abbrev XK:=Value->Option Addr->Hp->Prop
abbrev St:=List<|Option V
abbrev VK:=V->Hp->Prop
abbrev TE:=St->Hp->VK->Prop
abbrev TT:=St->Hp->(Bool->Hp->Prop)->Prop
abbrev TA:=St->Hp->(List V->Hp->Prop)->Prop
structure Ends where
 nx:St->Hp->Prop
 rt:VK
 bk:St->Hp->Prop:=λ_ _=>False
 ct:St->Hp->Prop:=λ_ _=>False
abbrev TS:=Ends->St->Hp->Prop
def EP (X:Cx) (pins:List (Addr × Obj)) (σ:St) (Q:VK) (u:Value) (s':Shared):Prop:=∃v H',Inv X pins σ H' s' /\ RelV v u/\Q v H'
def TP (X:Cx) (pins:List (Addr × Obj)) (σ:St) (Q:Bool->Hp->Prop) (b:Bool) (s':Shared):Prop:=∃H',Inv X pins σ H' s' /\ Q b H'
def AP (X:Cx) (pins:List (Addr × Obj)) (σ:St) (Q:List V->Hp->Prop) (us:List Value) (s':Shared):Prop:=∃vs H',Inv X pins σ H' s' /\ Vals vs us/\Q vs H'
def SP (X:Cx) (pins:List (Addr × Obj)) (D:Ends) (f:Flow) (s':Shared):Prop:=
 match f with
 |.next=>∃σ' H',Inv X pins σ' H' s' /\ D.nx σ' H'
 |.brk=>∃σ' H',Inv X pins σ' H' s' /\ D.bk σ' H'
 |.cont=>∃σ' H',Inv X pins σ' H' s' /\ D.ct σ' H'
 |.ret u=>∃v σ' H',Inv X pins σ' H' s' /\ RelV v u/\D.rt v H'
def PE (X:Cx) (e:Expr) (t:TE):Prop:=
 ∀(pins:List (Addr × Obj)) (s:Shared) (σ:St) (H:Hp) (Q:VK),Inv X pins σ H s->t σ H Q->wpAny (model X.prog X.w) X.A (eval e X.env) (EP X pins σ Q) X.xe s
def PT (X:Cx) (e:Expr) (t:TT):Prop:=
 ∀(pins:List (Addr × Obj)) (s:Shared) (σ:St) (H:Hp) (Q:Bool->Hp->Prop),Inv X pins σ H s->t σ H Q->wpAny (model X.prog X.w) X.A (isTrue e X.env<|eval e X.env) (TP X pins σ Q) X.xe s
def PW (X:Cx) (e:Expr) (t:TT):Prop:=
 ∀(whole:Sem Value) (pins:List (Addr × Obj)) (s:Shared) (σ:St) (H:Hp) (Q:Bool->Hp->Prop),Inv X pins σ H s->t σ H Q->wpAny (model X.prog X.w) X.A (isTrue e X.env whole) (TP X pins σ Q) X.xe s
theorem PW.pt {X:Cx}{e:Expr}{t:TT}(h:PW X e t):PT X e t:=h _
def PA (X:Cx) (es:List Expr) (t:TA):Prop:=
 ∀(pos:Pos) (pins:List (Addr × Obj)) (s:Shared) (σ:St) (H:Hp) (Q:List V->Hp->Prop),Inv X pins σ H s->t σ H Q->wpAny (model X.prog X.w) X.A (spliced<|backTo pos<|starEach es X.env) (AP X pins σ Q) X.xe s
def PS (X:Cx) (st:Stmt) (t:TS):Prop:=
 ∀(pins:List (Addr × Obj)) (s:Shared) (σ:St) (H:Hp) (D:Ends),Inv X pins σ H s->t D σ H->wpAny (model X.prog X.w) X.A (exec st X.env) (SP X pins D) X.xe s
def PSs (X:Cx) (st:List Stmt) (t:TS):Prop:=
 ∀(pins:List (Addr × Obj)) (s:Shared) (σ:St) (H:Hp) (D:Ends),Inv X pins σ H s->t D σ H->wpAny (model X.prog X.w) X.A (execs st X.env) (SP X pins D) X.xe s
theorem thn {α:Type}{t:Sem α}{Q Q':α -> Shared->Prop}{M:Model}{A:Around}{E:Value->Shared->Prop}{s:Shared}(h:wpAny M A t Q E s) (hQ:∀a s,Q a s->Q' a s):wpAny M A t Q' E s:=wpAny_mono h hQ λ_ _ x=>x
end L2
namespace L2
open PySem PySem.Spec PyProof.Rows
section
variable {X:Cx}
def tVar (i:Nat):TE:=λσ H Q=>∃v,σ[i]?=some (some v)/\Q v H
def tC (v:V):TE:=λ_ H Q=>Q v H
theorem Zyz {i:Nat}{x:Str}{pos:Pos}(hN:X.N[i]?=some x) (hv:Vis X.env.scope x) (hd:(x == ("__debug__":Str))=false:=by decide) (hcd:(x == ("__classdict__":Str))=false:=by decide):PE X (.Name x pos) (tVar i):=by
 intro pins s σ H Q I h;obtain⟨v,e,h⟩:=h;obtain⟨m,hn,hl⟩:=I.loc;obtain⟨u,r,l⟩:=hl i x v hN e hv;have fin:EP X pins σ Q u s:=⟨v,H,I,r,h⟩;rcases l with ⟨hk,hm⟩|⟨hk,c,hc,hcell⟩
 ·exact wpAny_Name (wpAny_loadName_local I.ok.kind hk hn hm fin) hd
 ·rcases hk with hk|hk
  ·exact wpAny_Name (wpAny_loadName_cell I.ok.kind hk hc hcell fin) hd
  ·exact wpAny_Name (wpAny_loadName_free I.ok.kind hk hc hcell fin hcd) hd
theorem Zag {i j pos}:PE X (.Constant (.int i) j pos) (tC (.int i)):=λ_ _ _ H _ I h=>wpAny_Constant_int ⟨.int i,H,I.tok _,⟨_,rfl⟩,h⟩
theorem Zkd {b j pos}:PE X (.Constant (.bool b) j pos) (tC (.bl b)):=λ_ _ _ H _ I h=>Constant_bool ⟨.bl b,H,I,rfl,h⟩
theorem Zun {x j pos}:PE X (.Constant (.str x) j pos) (tC (.str x)):=λ_ _ _ H _ I h=>Calls.Constant_str ⟨.str x,H,I.tok _,⟨_,rfl⟩,h⟩
def Gl (X:Cx) (x:Str):Prop:=X.env.kindOf x=some .globalImplicit
theorem Zpw {E:Value->Shared->Prop}{pins:List (Addr × Obj)}{s:Shared}{σ:St}{H:Hp}{x:Str}{u:Value}{pos:Pos}{Q:Value->Shared->Prop}(I:Inv X pins σ H s) (hg:Gl X x) (hm:X.mg x=some u) (h:Q u s)
  (hd:(x == ("__debug__":Str))=false:=by decide):wpAny (model X.prog X.w) X.A (eval (.Name x pos) X.env) Q E s:=
 Calls.Name_function_global I.ok.kind hg (Calls.loadGlobal_global (by rw[I.ok.glob];exact I.mod.glob.keeps I.bk) hm h) hd
theorem Zgc {E:Value->Shared->Prop}{pins:List (Addr × Obj)}{s:Shared}{σ:St}{H:Hp}{x:Str}{u:Value}{pos:Pos}{Q:Value->Shared->Prop}(I:Inv X pins σ H s) (hg:Gl X x) (hm:X.mg x=none) (hv:bootBuiltins x=some u) (h:Q u s)
  (hn:x ≠ "__name__":=by decide) (hd:(x == ("__debug__":Str))=false:=by decide):wpAny (model X.prog X.w) X.A (eval (.Name x pos) X.env) Q E s:=by
 obtain⟨mb,h1,h2⟩:=I.mod.blt;exact Calls.Name_function_global I.ok.kind hg (Calls.loadGlobal_builtin (by rw[I.ok.glob];exact I.mod.glob.keeps I.bk) hm (by rw[I.ok.blt];exact h1.keeps I.bk) ((h2 x hn).trans hv) h) hd
theorem Zv2 {x:Str}{v:V}{u:Value}{pos:Pos}(hg:Gl X x) (hm:X.mg x=some u) (r:RelV v u) (hd:(x == ("__debug__":Str))=false:=by decide):PE X (.Name x pos) (tC v):=
 λ_ _ _ H _ I h=>Zpw I hg hm ⟨v,H,I,r,h⟩ hd
theorem Zdm {x:Str}{v:V}{u:Value}{pos:Pos}(hg:Gl X x) (hm:X.mg x=none) (hv:bootBuiltins x=some u) (r:RelV v u) (hn:x ≠ "__name__":=by decide) (hd:(x == ("__debug__":Str))=false:=by decide):PE X (.Name x pos) (tC v):=
 λ_ _ _ H _ I h=>Zgc I hg hm hv ⟨v,H,I,r,h⟩ hn hd
variable {a b:Expr}{ta tb:TE}{pos:Pos}
variable {tA tB':TT}{rest:List Expr}
def tAnd (t u:TT):TT:=λσ H Q=>t σ H λc H1=>if c=true then u σ H1 Q else Q false H1
def tOr (t u:TT):TT:=λσ H Q=>t σ H λc H1=>if c=true then Q true H1 else u σ H1 Q
def tNot (t:TT):TT:=λσ H Q=>t σ H λc H1=>Q (!c) H1
theorem pw_and1 (ha:PT X a tA):PW X (.BoolOp .And [a] pos) tA:=by
 intro wh pins s σ H Q I h;refine isTrue_and (thn (ha pins s σ H Q I h) λc s1 e=>?_);cases c with
 |true=>exact isTrue_and_nil e
 |false=>exact e
theorem pw_or1 (ha:PT X a tA):PW X (.BoolOp .Or [a] pos) tA:=by
 intro wh pins s σ H Q I h;refine isTrue_or (thn (ha pins s σ H Q I h) λc s1 e=>?_);cases c with
 |false=>exact isTrue_or_nil e
 |true=>exact e
theorem pw_and (ha:PT X a tA) (hb:PW X (.BoolOp .And (b::rest) pos) tB'):PW X (.BoolOp .And (a::b::rest) pos) (tAnd tA tB'):=by
 intro wh pins s σ H Q I h;refine isTrue_and (thn (ha pins s σ H _ I h) λc s1 ⟨H1,I1,q1⟩=>?_);cases c with
 |true=>exact hb wh pins s1 σ H1 Q I1 q1
 |false=>exact⟨H1,I1,q1⟩
theorem pw_or (ha:PT X a tA) (hb:PW X (.BoolOp .Or (b::rest) pos) tB'):PW X (.BoolOp .Or (a::b::rest) pos) (tOr tA tB'):=by
 intro wh pins s σ H Q I h;refine isTrue_or (thn (ha pins s σ H _ I h) λc s1 ⟨H1,I1,q1⟩=>?_);cases c with
 |true=>exact⟨H1,I1,q1⟩
 |false=>exact hb wh pins s1 σ H1 Q I1 q1
theorem Ze7 (ha:PT X a tA):PT X (.UnaryOp .Not a pos) (tNot tA):=by
 intro pins s σ H Q I h;exact isTrue_not<|ha pins s σ H (λc H1=>Q (!c) H1) I h
def tAndV (ta tb:TE):TE:=λσ H Q=>ta σ H λx H1=>∃c,x=.bl c/\if c=true then tb σ H1 Q else Q (.bl false) H1
def tOrV (ta tb:TE):TE:=λσ H Q=>ta σ H λx H1=>∃c,x=.bl c/\if c=true then Q (.bl true) H1 else tb σ H1 Q
def tNotV (ta:TE):TE:=λσ H Q=>ta σ H λx H1=>∃c,x=.bl c/\Q (.bl (!c)) H1
theorem Zky {op} {t:TE}(h:PE X a t):PE X (.BoolOp op [a] pos) t:=λpins s σ H Q I hw=>BoolOp_one<|h pins s σ H Q I hw
theorem Zk0 (ha:PE X a ta) (hb:PE X (.BoolOp .And (b::rest) pos) tb):PE X (.BoolOp .And (a::b::rest) pos) (tAndV ta tb):=by
 intro pins s σ H Q I h;refine BoolOp_and (thn (ha pins s σ H _ I h) λv s1 ⟨x,H1,I1,r1,q1⟩=>?_);obtain⟨c,rfl,q1⟩:=q1;cases r1;refine wpAny_truthy_bool ?_;cases c with
 |true=>exact hb pins s1 σ H1 Q I1 q1
 |false=>exact⟨.bl false,H1,I1,rfl,q1⟩
theorem Zqj (ha:PE X a ta):PE X (.UnaryOp .Not a pos) (tNotV ta):=by
 intro pins s σ H Q I h;refine UnaryOp_ (thn (ha pins s σ H _ I h) λv s1 ⟨x,H1,I1,r1,q1⟩=>?_);obtain⟨c,rfl,q1⟩:=q1;cases r1;exact not_of<|wpAny_truthy_bool ⟨.bl (!c),H1,I1,rfl,q1⟩
def tIf (t:TT) (ta tb:TE):TE:=λσ H Q=>t σ H λc H1=>if c=true then ta σ H1 Q else tb σ H1 Q
theorem Zga {c:Expr}(hc:PT X c tA) (ha:PE X a ta) (hb:PE X b tb):PE X (.IfExp c a b pos) (tIf tA ta tb):=by
 intro pins s σ H Q I h;refine wpAny_IfExp (thn (hc pins s σ H _ I h) λd s1 ⟨H1,I1,q1⟩=>?_);cases d with
 |true=>exact ha pins s1 σ H1 Q I1 q1
 |false=>exact hb pins s1 σ H1 Q I1 q1
end
end L2
namespace L2
open PySem PySem.Spec PyProof.Rows
def SqL (K:W.Frag) (H:Hp) (a:Addr) (xs:List V):Prop:=
 Rd H a (.lst xs) ∨
  ∃(o:Obj) (its:Array Value) (n:Nat),K.lookup a=some o/\o.cls=.type "list" /\ o.dict=none/\o.data=.seq its n/\its.size<=sizeLine/\Vals xs its.toList
def SqT (K:W.Frag) (H:Hp) (a:Addr) (xs:List V):Prop:=
 Rd H a (.tup xs) ∨
  ∃(o:Obj) (its:Array Value) (n:Nat),K.lookup a=some o/\o.cls=.type "tuple" /\ o.data=.seq its n/\its.size<=sizeLine/\Vals xs its.toList
def absV:Value->Option V
 |.none=>some .non
 |.bool b=>some (.bl b)
 |.int i _=>some (.int i)
 |.str x _=>some (.str x)
 |.bytes b _=>some (.byt b)
 |.float b _=>some (.flt b)
 |.ref a=>some (.ref a)
 |.type n=>some (.ty n)
 |_=>none
theorem RelV.abs {x:V}{u:Value}(r:RelV x u):absV u=some x:=by
 cases x with
 |non=>cases r;rfl
 |bl _=>cases r;rfl
 |int _=>obtain⟨t,rfl⟩:=r;rfl
 |str _=>obtain⟨t,rfl⟩:=r;rfl
 |byt _=>obtain⟨t,rfl⟩:=r;rfl
 |flt _=>obtain⟨t,rfl⟩:=r;rfl
 |ref _=>cases r;rfl
 |ty _=>cases r;rfl
theorem RelV.inj {x y:V}{u:Value}(r:RelV x u) (q:RelV y u):x=y:=Wba.inj<|r.abs.symm.trans q.abs
theorem Vals.inj:∀{xs ys:List V}{us:List Value},Vals xs us->Vals ys us->xs=ys
 |_,_,_,.nil,.nil=>rfl
 |_,_,_,.cons r t,.cons r' t'=>by rw[r.inj r',Vals.inj t t']
section
variable {X:Cx}{pins:List (Addr × Obj)}{σ:St}{H:Hp}{s:Shared}{a:Addr}{xs ys:List V}
theorem SqL.of {K:W.Frag}(h:H a=some (.lst xs)):SqL K H a xs:=.inl (.inl h)
theorem SqT.of {K:W.Frag}(h:H a=some (.tup xs)):SqT K H a xs:=.inl (.inl h)
theorem Inv.list (I:Inv X pins σ H s) (h:SqL X.K H a xs):∃its:List Value,Vals xs its/\PlainL s.heap a its.toArray/\xs.length<=sizeLine:=by
 rcases h with h|⟨o,its,n,hk,hc,hd,hs,hz,r⟩
 ·obtain⟨z,its,n,r,e⟩:=h.ok I.hok
  exact⟨its,r,⟨_,n,e,rfl,rfl,rfl⟩,z⟩
 ·refine⟨its.toList,r,⟨o,n,I.kIn a o hk,hc,hd,by simpa using hs⟩,?_⟩
  have e:=r.length;simp only[Array.length_toList]at e;omega
theorem Inv.tuple (I:Inv X pins σ H s) (h:SqT X.K H a xs):∃its:List Value,Vals xs its/\IsTup s.heap a its.toArray/\xs.length<=sizeLine:=by
 rcases h with h|⟨o,its,n,hk,hc,hs,hz,r⟩
 ·obtain⟨z,its,r,p⟩:=h.ok I.hok
  exact⟨its,r,p.tup,z⟩
 ·refine⟨its.toList,r,⟨o,I.kIn a o hk,hc,n,by simpa using hs⟩,?_⟩
  have e:=r.length;simp only[Array.length_toList]at e;omega
theorem Inv.list_inj (I:Inv X pins σ H s) (h:SqL X.K H a xs) (h':SqL X.K H a ys):xs=ys:=by
 obtain⟨its,r,⟨o,n,e,_,_,d⟩,_⟩:=I.list h;obtain⟨its',r',⟨o',n',e',_,_,d'⟩,_⟩:=I.list h';rw[e]at e';cases e';rw[d]at d';injection d' with d1 _
 have:its=its':=by simpa using congrArg Array.toList d1
 subst this;exact r.inj r'
theorem Inv.tuple_inj (I:Inv X pins σ H s) (h:SqT X.K H a xs) (h':SqT X.K H a ys):xs=ys:=by
 obtain⟨its,r,⟨o,e,_,n,d⟩,_⟩:=I.tuple h;obtain⟨its',r',⟨o',e',_,n',d'⟩,_⟩:=I.tuple h';rw[e]at e';cases e';rw[d]at d';injection d' with d1 _
 have:its=its':=by simpa using congrArg Array.toList d1
 subst this;exact r.inj r'
end
abbrev Cx.wish (X:Cx) (E:Value->Shared->Prop):Cx:={ X with xe:=E }
abbrev Cx.nox (X:Cx):Cx:=X.wish λ_ _=>False
theorem Cx.Ok.wish {X:Cx}(ok:X.Ok) (E:Value->Shared->Prop):(X.wish E).Ok:=
 ⟨ok.mod,ok.kind,ok.glob,ok.blt,ok.above,ok.inj,ok.has,ok.cab,ok.hd,ok.frames,ok.stk,ok.exf,ok.bs,ok.bsz,ok.noex,ok.exfs,ok.funs,ok.frf⟩
theorem Cx.Ok.unwish {X:Cx}{E:Value->Shared->Prop}(ok:(X.wish E).Ok):X.Ok:=
 ⟨ok.mod,ok.kind,ok.glob,ok.blt,ok.above,ok.inj,ok.has,ok.cab,ok.hd,ok.frames,ok.stk,ok.exf,ok.bs,ok.bsz,ok.noex,ok.exfs,ok.funs,ok.frf⟩
section
variable {X:Cx}{pins:List (Addr × Obj)}{σ:St}{H:Hp}{s:Shared}{E:Value->Shared->Prop}
theorem Inv.wish (I:Inv X pins σ H s) (E:Value->Shared->Prop):Inv (X.wish E) pins σ H s:=⟨I.ok.wish E,I.os,I.bare,I.base,I.loc,I.cell,I.free,I.freeC,I.pin,I.hok,I.len⟩
theorem Inv.unwish (I:Inv (X.wish E) pins σ H s):Inv X pins σ H s:=⟨I.ok.unwish,I.os,I.bare,I.base,I.loc,I.cell,I.free,I.freeC,I.pin,I.hok,I.len⟩
theorem SP.unwish {D:Ends}{f:Flow}{s':Shared}(h:SP (X.wish E) pins D f s'):SP X pins D f s':=by
 cases f with
 |next=>obtain⟨σ',H',I,q⟩:=h;exact⟨σ',H',I.unwish,q⟩
 |brk=>obtain⟨σ',H',I,q⟩:=h;exact⟨σ',H',I.unwish,q⟩
 |cont=>obtain⟨σ',H',I,q⟩:=h;exact⟨σ',H',I.unwish,q⟩
 |ret u=>obtain⟨v,σ',H',I,r,q⟩:=h;exact⟨v,σ',H',I.unwish,r,q⟩
theorem PSs.nox {st:List Stmt}{t:TS}(h:PSs X.nox st t):PSs X st t:=λpins s σ H D I hw=>
 wpAny_mono (h pins s σ H D (I.wish _) hw) (λ_ _ q=>q.unwish) λ_ _ z=>False.elim z
end
section
variable {X:Cx}{st:Stmt}{rest:List Stmt}{t u:TS}{e:Expr}{te:TE}{pos:Pos}
def tNext:TS:=λD σ H=>D.nx σ H
def tSeq (t u:TS):TS:=λD σ H=>t { D with nx:=u D } σ H
theorem Za4:PSs X [] tNext:=λ_ _ σ H _ I h=>wpAny_execs_nil ⟨σ,H,I,h⟩
theorem Zae (h1:PS X st t) (h2:PSs X rest u):PSs X (st::rest) (tSeq t u):=by
 intro pins s σ H D I h;refine wpAny_execs_cons (thn (h1 pins s σ H { D with nx:=u D } I h) λf s1 q=>?_);cases f with
 |next=>
  obtain⟨σ',H',I',q⟩:=q;exact h2 pins s1 σ' H' D I' q
 |ret v=>exact q
 |brk=>exact q
 |cont=>exact q
theorem Zah (h1:PS X st t):PSs X [st] t:=by
 intro pins s σ H D I h;refine wpAny_execs_cons (thn (h1 pins s σ H D I h) λf s1 q=>?_);cases f with
 |next=>exact wpAny_execs_nil q
 |ret v=>exact q
 |brk=>exact q
 |cont=>exact q
theorem Inv.quiet {pins:List (Addr × Obj)}{σ:St}{H:Hp}{s:Shared}(I:Inv X pins σ H s):interactive X.env=false:=by simp[interactive,I.ok.kind]
def tDrop (te:TE):TS:=λD σ H=>te σ H λ_ H1=>D.nx σ H1
theorem Zfd (he:PE X e te) (hs:swapsWith e none pos.line X.env=pure false:=by rfl):PS X (.Expr e pos) (tDrop te):=by
 intro pins s σ H D I h;exact wpAny_Expr_any (thn (he pins s σ H _ I h) λv s1 ⟨x,H1,I1,r1,q1⟩=>⟨σ,H1,I1,q1⟩) I.quiet hs
def tRet (te:TE):TS:=λD σ H=>te σ H D.rt
theorem Zau (he:PE X e te):PS X (.Return (some e) pos) (tRet te):=by
 intro pins s σ H D I h;exact wpAny_Return_some (thn (he pins s σ H _ I h) λv s1 ⟨x,H1,I1,r1,q1⟩=>⟨x,σ,H1,I1,r1,q1⟩)
def tIfS (c:TT) (t u:TS):TS:=λD σ H=>c σ H λb H1=>if b=true then t D σ H1 else u D σ H1
theorem Zcf {c:Expr}{a b:List Stmt}{tc:TT}(hc:PT X c tc) (ha:PSs X a t) (hb:PSs X b u):PS X (.If c a b pos) (tIfS tc t u):=by
 intro pins s σ H D I h;refine wpAny_If (thn (hc pins s σ H _ I h) λd s1 ⟨H1,I1,q1⟩=>?_);cases d with
 |true=>exact ha pins s1 σ H1 D I1 q1
 |false=>exact hb pins s1 σ H1 D I1 q1
def tNever:TS:=λ_ _ _=>False
theorem Zf3 {sts:List Stmt}:PSs X sts tNever:=λ_ _ _ _ _ _ h=>h.elim
end
abbrev TG:=V->St->Hp->(St->Hp->Prop)->Prop
abbrev TGs:=List V->St->Hp->(St->Hp->Prop)->Prop
def PG (X:Cx) (target:Expr) (t:TG):Prop:=
 ∀(pins:List (Addr × Obj)) (s:Shared) (σ:St) (H:Hp) (v:V) (u:Value) (Q:St->Hp->Prop),Inv X pins σ H s->RelV v u->t v σ H Q →
  wpAny (model X.prog X.w) X.A (assign target X.env u) (λ_ s'=>∃σ' H',Inv X pins σ' H' s' /\ Q σ' H') X.xe s
def PGs (X:Cx) (ts:List Expr) (t:TGs):Prop:=
 ∀(pins:List (Addr × Obj)) (s:Shared) (σ:St) (H:Hp) (vs:List V) (us:List Value) (Q:St->Hp->Prop),Inv X pins σ H s->Vals vs us->t vs σ H Q →
  wpAny (model X.prog X.w) X.A (assignInOrder ((assignEach ts X.env).map (·.2)) us) (λ_ s'=>∃σ' H',Inv X pins σ' H' s' /\ Q σ' H') X.xe s
abbrev TSet:=V->V->V->Hp->(Hp->Prop)->Prop
def PSet (X:Cx) (t:TSet):Prop:=
 ∀(pins:List (Addr × Obj)) (s:Shared) (σ:St) (H:Hp) (o i v:V) (ov iv u:Value) (Q:Hp->Prop),Inv X pins σ H s->RelV o ov->RelV i iv->RelV v u->t o i v H Q →
  wpAny (model X.prog X.w) X.A (setItem ov iv u) (λ_ s'=>∃H',Inv X pins σ H' s' /\ Q H') X.xe s
section
variable {X:Cx}{pos:Pos}
def gName (i:Nat):TG:=λv σ H Q=>Q (σ.set i<|some v) H
theorem Zam {i:Nat}{x:Str}(hN:X.N.Nodup) (hi:X.N[i]?=some x) (hx:Loc X.env.scope x) (hf:X.fn x=true\/X.env.scope.names.lookup x=some .local:=by first|exact .inl rfl|exact .inr rfl|assumption):PG X (.Name x pos) (gName i):=by
 intro pins s σ H v u Q I r h;exact wpAny_assign_Name<|Zep I hN hi hx r (λs' I'=>⟨_,H,I',h⟩) hf
def gNil:TGs:=λvs σ H Q=>vs=[]/\Q σ H
def gCons (t:TG) (u:TGs):TGs:=λvs σ H Q=>∃v r,vs=v::r/\t v σ H λσ' H'=>u r σ' H' Q
theorem Zdr:PGs X [] gNil:=by
 intro pins s σ H vs us Q I r h;obtain⟨e,h⟩:=h;subst e;cases r;exact assignInOrder_nil ⟨σ,H,I,h⟩
theorem Za8 {e:Expr}{es:List Expr}{t:TG}{u:TGs}(h1:PG X e t) (h2:PGs X es u)
  (hs:(assignEach (e::es) X.env).map (·.2)=assign e X.env::(assignEach es X.env).map (·.2):=by rfl):PGs X (e::es) (gCons t u):=by
 intro pins s σ H vs us Q I r h;obtain⟨v,vr,e1,h⟩:=h;subst e1;cases r with
 |cons r rr=>
  rw[hs];refine assignInOrder_cons (thn (h1 pins s σ H _ _ _ I r h) λ_ s1 ⟨σ1,H1,I1,q1⟩=>?_);exact h2 pins s1 σ1 H1 _ _ Q I1 rr q1
def gTup (K:W.Frag) (n:Nat) (t:TGs):TG:=λv σ H Q=>∃a xs,v=.ref a/\SqT K H a xs/\xs.length=n/\t xs σ H Q
theorem Zyv {es:List Expr}{k:Nat}{t:TGs}{n:Nat}(hc:X.calm=true) (h:PGs X es t)
  (hn:(assignEach es X.env).length=n:=by rfl) (hst:(assignEach es X.env).findIdx? (·.1)=none:=by rfl):PG X (.Tuple es k pos) (gTup X.K n t):=by
 intro pins s σ H v u Q I r hw;obtain⟨a,xs,e1,hq,hl,hw⟩:=hw;subst e1;cases r;obtain⟨its,rv,ht,hz⟩:=I.tuple hq;refine assign_Tuple_tuple (I.ok.hd hc) ht (by simp[hn,<- hl,rv.length]) hst λh' hx=>?_;have I1:Inv X pins σ H { s with heap:=h' }:=I.kept (t':=s.toks) λb o e=>hx b o (Wa2<|Was e) e;exact h pins _ σ H xs _ Q I1 (by simpa using rv) hw
def gSub (to ti:TE) (t:TSet):TG:=λv σ H Q=>to σ H λo H1=>ti σ H1 λi H2=>t o i v H2 λH3=>Q σ H3
theorem Zfn {o i:Expr}{to ti:TE}{t:TSet}(ho:PE X o to) (hi:PE X i ti) (hs:PSet X t)
  (ha:∀v,assign (.Subscript o i pos) X.env v=(do
   let ov ← holding [v] (eval o X.env)
   let iv ← holding [v,ov] (eval i X.env)
   standAt pos
   holding [v,ov,iv] (setItem ov iv v)
   release [v,ov,iv] []):=by intro _;rfl):PG X (.Subscript o i pos) (gSub to ti t):=by
 intro pins s σ H v u Q I r h;rw[ha];refine wpAny_bind<|wpAny_holding (thn (ho pins s σ H _ I h) λov s1 ⟨x,H1,I1,r1,q1⟩=>?_);refine wpAny_bind<|wpAny_holding (thn (hi pins s1 σ H1 _ I1 q1) λiv s2 ⟨y,H2,I2,r2,q2⟩=>?_);refine wpAny_bind<|wpAny_standAt<|wpAny_bind<|wpAny_holding (thn (hs pins s2 σ H2 x y v ov iv u _ I2 r1 r2 r q2) λ_ s3 ⟨H3,I3,q3⟩=>?_);exact wpAny_release ⟨σ,H3,I3,q3⟩
def tAsg (te:TE) (g:TG):TS:=λD σ H=>te σ H λx H1=>g x σ H1 D.nx
theorem Zc1 {tg e:Expr}{te:TE}{g:TG}(he:PE X e te) (hg:PG X tg g) (hs:swapsWithSole [tg] e pos.line X.env=pure false:=by rfl) (hw:swappedStores [tg] e X.env=pure none:=by rfl)
  (h1:(assignEach [tg] X.env).map (·.2)=[assign tg X.env]:=by rfl):PS X (.Assign [tg] e pos) (tAsg te g):=by
 intro pins s σ H D I h;refine wpAny_Assign_stores (thn (he pins s σ H _ I h) λv s1 ⟨x,H1,I1,r1,q1⟩=>?_) hs hw;rw[h1];exact thn (hg pins s1 σ H1 x v _ I1 r1 q1) λ_ s2 q=>q
theorem Zat {i:Nat}{x:Str}{e:Expr}{te:TE}{pos':Pos}(hN:X.N.Nodup) (hi:X.N[i]?=some x) (hx:Loc X.env.scope x) (he:PE X e te) (hs:swapsWith e (some (.Name x pos')) pos.line X.env=pure false:=by rfl) (hf:X.fn x=true\/X.env.scope.names.lookup x=some .local:=by first|exact .inl rfl|exact .inr rfl|assumption) :
  PS X (.Assign [.Name x pos'] e pos) (tAsg te<|gName i):=by
 intro pins s σ H D I h;refine wpAny_Assign_Name (thn (he pins s σ H _ I h) λv s1 ⟨y,H1,I1,r1,q1⟩=>?_) hs;exact Zep I1 hN hi hx r1 (λs2 I2=>⟨_,H1,I2,q1⟩) hf
def tPar (i j:Nat) (ta:TA):TS:=λD σ H=>ta σ H λvs H1=>∃v w,vs=[v,w]/\D.nx ((σ.set i<|some v).set j (some w)) H1
theorem Zmz {i j:Nat}{x y:Str}{a b:Expr}{ta:TA}{px py pt:Pos}{kt k2 pt2} (hc:X.calm=true) (hN:X.N.Nodup) (hi:X.N[i]?=some x) (hj:X.N[j]?=some y) (hij:i≠j)
  (hx:X.env.scope.names.lookup x=some .local) (hy:X.env.scope.names.lookup y=some .local) (ha:PA X [a,b] ta)
  (hw:swappedStores [.Tuple [.Name x px,.Name y py] kt pt] (.Tuple [a,b] k2 pt2) X.env=pure (some [x,y]))
  (hs:swapsWithSole [.Tuple [.Name x px,.Name y py] kt pt] (.Tuple [a,b] k2 pt2) pos.line X.env=pure false:=by rfl) :
  PS X (.Assign [.Tuple [.Name x px,.Name y py] kt pt] (.Tuple [a,b] k2 pt2) pos) (tPar i j ta):=by
 intro pins s σ H D I h;rw[exec_Assign_arm];refine wpAny_bind<|wpAny_standAt ?_;rw[hs];refine wpAny_bind<|wpAny_pure ?_;rw[if_neg (by decide)];refine wpAny_bind<|Tuple_ (thn (ha _ pins s σ H _ I h) λus s1 ⟨vs,H1,I1,r1,q1⟩=>?_);obtain⟨v,w,e1,q1⟩:=q1;subst e1;obtain⟨u1,u2,rfl,rv,rw'⟩:∃u1 u2,us=[u1,u2]/\RelV v u1/\RelV w u2:=by
  cases r1 with
  |cons p q=>
   cases q with
   |cons p' q'=>
    cases q';exact⟨_,_,rfl,p,p'⟩
 refine wpAny_newObj_type ?_ (by show 2<=sizeLine;decide);have I2:Inv X pins σ H1 { s1 with heap:=s1.heap.push { cls:=.type "tuple",data:=.seq [u1,u2].toArray } }:=I1.kept (t':=s1.toks) λb o e=>Waf _ e;rw[hw];refine wpAny_bind<|wpAny_pure ?_;show wpAny (model X.prog X.w) X.A (do rule "assign.swapped-stores";let items ← unpackItems (.ref s1.heap.objs.size) 2 none;assignInOrder [λv=>bindName X.env y v,λv=>bindName X.env x v] items.reverse;pure Flow.next) _ _ _;refine wpAny_bind<|wpAny_rule<|wpAny_bind (unpackItems_tuple (items:=#[u1,u2]) (I.ok.hd hc) (IsTup.new s1.heap _) λh' hx'=>?_);have I3:=I2.kept (h':=h') (t':=s1.toks) λb o e=>hx' b o (Wa2<|Was e) e;show wpAny _ _ (assignInOrder [λv=>bindName X.env y v,λv=>bindName X.env x v] [u2,u1] >>= λ_=>pure Flow.next) _ _ _;refine wpAny_bind<|assignInOrder_cons<|wpAny_bindName<|Zep I3 hN hj (.inl hy) rw' (λs2 I4=>?_) (.inr hy);refine assignInOrder_cons<|wpAny_bindName<|Zep I4 hN hi (.inl hx) rv (λs3 I5=>assignInOrder_nil<|wpAny_pure ?_) (.inr hx);rw[Weq _ _ (Ne.symm hij)]at I5;exact⟨_,H1,I5,q1⟩
def tWhile (c:TT) (tb:TS):TS:=λD σ H=>∃W:Nat->St->Hp->Prop,(∃m,W m σ H)/\∀m σ H,W m σ H →
 c σ H λb H1=>if b=true then ∃N:St->Hp->Prop,(∀σ' H',N σ' H' -> ∃m',m'<m/\W m' σ' H')/\tb { D with nx:=N,ct:=N,bk:=D.nx } σ H1 else D.nx σ H1
theorem Znl {c:Expr}{body:List Stmt}{tc:TT}{tb:TS}(hp:PassesOwn (model X.prog X.w) X.A X.env X.xe) (hc:PT X c tc) (hb:PSs X body tb):PS X (.While c body [] pos) (tWhile tc tb):=by
 intro pins s σ H D I h;obtain⟨W,⟨m0,w0⟩,turn⟩:=h;refine wpAny_While<|codeAny_whileLoop (λn s'=>∃σ' H',Inv X pins σ' H' s' /\ W n σ' H') ?_ m0 ⟨σ,H,I,w0⟩;rintro n s1 ⟨σ1,H1,I1,w1⟩;refine wpAny_passesOwn hp (thn (hc pins s1 σ1 H1 _ I1<|turn n σ1 H1 w1) λb s2 ⟨H2,I2,q2⟩=>?_);cases b with
 |true=>
  obtain⟨N,hN,q2⟩:=q2;rw[if_pos rfl];refine wpAny_passesOwn hp (thn (hb pins s2 σ1 H2 _ I2 q2) λf s3 q3=>?_);cases f with
  |next=>
   obtain⟨σ3,H3,I3,n3⟩:=q3;obtain⟨m',hm,w3⟩:=hN σ3 H3 n3;exact⟨m',hm,σ3,H3,I3,w3⟩
  |cont=>
   obtain⟨σ3,H3,I3,n3⟩:=q3;obtain⟨m',hm,w3⟩:=hN σ3 H3 n3;exact⟨m',hm,σ3,H3,I3,w3⟩
  |brk=>exact q3
  |ret v=>exact q3
 |false=>
  rw[if_neg Wag];exact wpAny_execs_nil ⟨σ1,H2,I2,q2⟩
end
structure It where
 go:Nat->Hp->Prop
 yld:Nat->Hp->V->Hp->Prop
 stop:Nat->Hp->Prop
def FpOk (X:Cx) (pins:List (Addr × Obj)) (H:Hp) (b:Addr):Prop:=
 H b=none/\b≠X.env.locals/\b ∉ X.fs/\(b∈X.ex\/X.s₀.heap.objs.size<=b)/\(∀x c,X.env.cells.lookup x=some c->c≠b)/\∀p∈X.pn++pins,p.1≠b
theorem Inv.fpOk {X:Cx}{pins:List (Addr × Obj)}{σ:St}{H H':Hp}{s:Shared}{b:Addr}(I:Inv X pins σ H s) (hb:s.heap.objs.size<=b) (hn:H' b=none):FpOk X pins H' b:=by
 refine⟨hn,Weh<|Wbp I.lt hb,I.nofs hb,.inr<|Wbz I.sz hb,λx c e z=>?_,λp hp z=>?_⟩
 ·obtain⟨v,q⟩:=I.cell x c e
  exact absurd (Wbp q.lt (by rw[z];exact hb))<|Wc5 _
 ·exact absurd (Wbp (Was (I.pin p hp).1) (by rw[z];exact hb))<|Wc5 _
structure TurnG (Cm:Cx->Prop) (P:Program) (w:World) (K:W.Frag) (tg:Expr) (J:It) (fp:List Addr) (it:Addr) (tn:Nat->Heap->Prop):Prop where
 mem:it∈fp
 obj:∀i h,tn i h->∀b∈fp,∃o,h.get? b=some o/\∀v,o.data≠.cell v
 keep:∀i h h',tn i h->(∀b∈fp,∀o,h.get? b=some o->h'.get? b=some o)->tn i h'
 item:∀(X:Cx),X.prog=P->X.w=w->X.K=K->Cm X->∀(i:Nat) (pins:List (Addr × Obj)) (s:Shared) (σ:St) (H:Hp) (E:Value->Shared->Prop),Inv X pins σ H s->(∀b∈fp,FpOk X pins H b)->tn i s.heap->J.go i H →
  wpAny (model P w) X.A (pyNext (.ref it)) (λr s1=>∃u,r=some u ∧
   wpAny (model P w) X.A (letOwnedTupleGo tg (.ref it) u) (λ_ s2=>∃x H',Inv X pins σ H' s2/\RelV x u/\J.yld i H x H' /\ tn (i+1) s2.heap/\∀b∈fp,H' b=none) E s1) E s
 done:∀(X:Cx),X.prog=P->X.w=w->X.K=K->Cm X->∀(i:Nat) (pins:List (Addr × Obj)) (s:Shared) (σ:St) (H:Hp) (E:Value->Shared->Prop),Inv X pins σ H s->(∀b∈fp,FpOk X pins H b)->tn i s.heap->J.stop i H →
  wpAny (model P w) X.A (pyNext (.ref it)) (λr s1=>r=none/\Inv X pins σ H s1) E s
 self:∀(A:Around) (i:Nat) (s:Shared) (Q:Value->Shared->Prop) (E:Value->Shared->Prop),tn i s.heap->Q (.ref it) s->wpAny (model P w) A (pyIter (.ref it)) Q E s
abbrev Turn:=TurnG λX=>X.calm=true
abbrev TI:=St->Hp->(It->Hp->Prop)->Prop
def PIEG (Cm:Cx->Prop) (X:Cx) (pins:List (Addr × Obj)) (σ:St) (tg:Expr) (R:It->Hp->Prop) (itv:Value) (s2:Shared):Prop:=
 ∃(it:Addr) (fp:List Addr) (tn:Nat->Heap->Prop) (J:It) (H':Hp),itv=.ref it/\Inv X pins σ H' s2/\TurnG Cm X.prog X.w X.K tg J fp it tn/\tn 0 s2.heap/\(∀b∈fp,FpOk X pins H' b)/\R J H'
def PIG (Cm:Cx->Prop) (X:Cx) (tg iter:Expr) (wi:TI):Prop:=
 ∀(pins:List (Addr × Obj)) (s:Shared) (σ:St) (H:Hp) (R:It->Hp->Prop),Inv X pins σ H s->wi σ H R →
  wpAny (model X.prog X.w) X.A (eval iter X.env) (λv s1=>wpAny (model X.prog X.w) X.A (pyIter v) (PIEG Cm X pins σ tg R) X.xe s1) X.xe s
abbrev PIE:=PIEG λX=>X.calm=true
abbrev PI:=PIG λX=>X.calm=true
theorem Zu1 {M:Model}{A:Around}{E:Value->Shared->Prop}{s:Shared}{tg:Expr}{it:Addr}{u:Value}{o:Obj}{n:String}{vs:Array Value}{Q:Unit->Shared->Prop}(ho:s.heap.get? it=some o) (hc:o.cls=.type n) (hd:o.data=.fields vs)
  (hn:["enumerate","zip","dict_itemiterator","dict_reverseitemiterator","odict_iterator","itertools.zip_longest","itertools.pairwise"].contains n=false) (hQ:Q () s):wpAny M A (letOwnedTupleGo tg (.ref it) u) Q E s:=by
 unfold letOwnedTupleGo;cases tg <;> first
  |exact wpAny_pure hQ
  | (cases u <;> first
      |exact wpAny_pure hQ
      | (refine wpAny_bind (wpAny_load ho ?_)
         rw[hc,hd];show wpAny M A (if (["enumerate","zip","dict_itemiterator","dict_reverseitemiterator","odict_iterator","itertools.zip_longest","itertools.pairwise"].contains n && vs[0]? == some (rawInt _))=true then _ else _) Q E s;rw[if_neg (by intro h;rw[hn,Wcx]at h;cases h)];exact wpAny_pure hQ))
def Itl (K:W.Frag) (a:Addr):It:=
 ⟨λi H=>∃xs x,SqL K H a xs/\xs[i]?=some x,λi H x H'=>H'=H/\∀xs,SqL K H a xs->xs[i]?=some x,λi H=>∃xs,SqL K H a xs/\xs.length<=i⟩
def Itt (K:W.Frag) (a:Addr):It:=
 ⟨λi H=>∃xs x,SqT K H a xs/\xs[i]?=some x,λi H x H'=>H'=H/\∀xs,SqT K H a xs->xs[i]?=some x,λi H=>∃xs,SqT K H a xs/\xs.length<=i⟩
def Itr (lo:Int) (n:Nat):It:=⟨λi _=>i<n,λi H x H'=>H'=H/\x=.int (lo+i),λi _=>n<=i⟩
theorem Zpl {P:Program}{w:World}{K:W.Frag}{tg:Expr}(a it:Addr):Turn P w K tg (Itl K a) [it] it (λi h=>h.IsListIter it a i) where
 mem:=by simp
 obj:=λi h st b hb=>by
  have e:b=it:=by simpa using hb
  subst e;obtain⟨o,e,c,d⟩:=st;exact⟨o,e,λv z=>by rw[d]at z;cases z⟩
 keep:=λi h h' st k=>st.at λo e=>k it (by simp) o e
 item:=by
  intro X hP hw hK hc i pins s σ H E I hf st hg;subst hP hw hK;obtain⟨xs,x,hq,hx⟩:=hg;obtain⟨its,rv,p,hz⟩:=I.list hq;obtain⟨u,hu,ru⟩:=rv.get hx;obtain⟨f0,f1,f2,f3,f4,f5⟩:=hf it (by simp);refine wpAny_pyNext_list_item st p.isList (x:=u) (by simpa using hu) λh' st' sb=>?_;have I1:Inv X pins σ H { s with heap:=h' }:=I.turned (t':=s.toks) (λb o hb e=>(sb.2 b hb).trans e) f0 f1 f3 f4 f5;obtain⟨o,e,c,d⟩:=id st';exact⟨u,rfl,Zu1 (s:={ s with heap:=h' }) e c d (by decide) ⟨x,H,I1,ru,⟨rfl,λys hy=>by rw[I.list_inj hy hq];exact hx⟩,st',λb hb=>(hf b hb).1⟩⟩
 done:=by
  intro X hP hw hK hc i pins s σ H E I hf st hg;subst hP hw hK;obtain⟨xs,hq,hx⟩:=hg;obtain⟨its,rv,p,hz⟩:=I.list hq;obtain⟨f0,f1,f2,f3,f4,f5⟩:=hf it (by simp);have hl:=rv.length;exact wpAny_pyNext_list_end (I.ok.hd hc) st p.isList (by simp;omega) λh' eb=>⟨rfl,I.turned (t':=s.toks) (λb o hb e=>eb b o hb e) f0 f1 f3 f4 f5⟩
 self:=λ_ _ _ _ _ st h=>wpAny_pyIter_listiter st h
theorem Zn2 {P:Program}{w:World}{K:W.Frag}{tg:Expr}(a it:Addr):Turn P w K tg (Itt K a) [it] it (λi h=>h.IsTupleIter it a i) where
 mem:=by simp
 obj:=λi h st b hb=>by
  have e:b=it:=by simpa using hb
  subst e;obtain⟨o,e,c,d⟩:=st;exact⟨o,e,λv z=>by rw[d]at z;cases z⟩
 keep:=λi h h' st k=>st.at λo e=>k it (by simp) o e
 item:=by
  intro X hP hw hK hc i pins s σ H E I hf st hg;subst hP hw hK;obtain⟨xs,x,hq,hx⟩:=hg;obtain⟨its,rv,p,hz⟩:=I.tuple hq;obtain⟨u,hu,ru⟩:=rv.get hx;obtain⟨f0,f1,f2,f3,f4,f5⟩:=hf it (by simp);refine wpAny_pyNext_tuple_item st (show s.heap.IsTuple a its.toArray from p) (x:=u) (by simpa using hu) λh' st' sb=>?_;have I1:Inv X pins σ H { s with heap:=h' }:=I.turned (t':=s.toks) (λb o hb e=>(sb.2 b hb).trans e) f0 f1 f3 f4 f5;obtain⟨o,e,c,d⟩:=id st';exact⟨u,rfl,Zu1 (s:={ s with heap:=h' }) e c d (by decide) ⟨x,H,I1,ru,⟨rfl,λys hy=>by rw[I.tuple_inj hy hq];exact hx⟩,st',λb hb=>(hf b hb).1⟩⟩
 done:=by
  intro X hP hw hK hc i pins s σ H E I hf st hg;subst hP hw hK;obtain⟨xs,hq,hx⟩:=hg;obtain⟨its,rv,p,hz⟩:=I.tuple hq;obtain⟨f0,f1,f2,f3,f4,f5⟩:=hf it (by simp);have hl:=rv.length;exact wpAny_pyNext_tuple_end (I.ok.hd hc) st (show s.heap.IsTuple a its.toArray from p) (by simp;omega) λh' eb=>⟨rfl,I.turned (t':=s.toks) (λb o hb e=>eb b o hb e) f0 f1 f3 f4 f5⟩
 self:=λ_ _ _ _ _ st h=>wpAny_pyIter_tupleiter st h
theorem Zop {P:Program}{w:World}{K:W.Frag}{tg:Expr}(it:Addr) (lo:Int) (n:Nat):Turn P w K tg (Itr lo n) [it] it (λi h=>IsRangeIter h it (lo+(i:Nat)*1) ((n:Int)-(i:Nat)) 1) where
 mem:=by simp
 obj:=λi h st b hb=>by
  have e:b=it:=by simpa using hb
  subst e;exact⟨_,st,λv z=>by
   have z':Data.fields _=Data.cell v:=z;cases z'⟩
 keep:=λi h h' st k=>k it (by simp) _ st
 item:=by
  intro X hP hw hK hc i pins s σ H E I hf st hg;subst hP hw hK;obtain⟨f0,f1,f2,f3,f4,f5⟩:=hf it (by simp);have W:=Walks.range (prog:=X.prog) (w:=X.w) (I.ok.hd hc) it lo 1 n;refine W.item i s _ _ hg st λv h' tk hv st' kk=>?_;obtain⟨t,rfl⟩:=hv;have I1:Inv X pins σ H { s with heap:=h',toks:=tk }:=I.turned (λb o hb e=>kk b o (by simpa using hb) e) f0 f1 f3 f4 f5;refine⟨_,rfl,Zu1 (s:={ s with heap:=h',toks:=tk }) (n:="range_iterator") st' rfl rfl (by decide) ⟨.int<|lo+i,H,I1,⟨t,?_⟩,⟨rfl,rfl⟩,st',λb hb=>(hf b hb).1⟩⟩;rw[Int.mul_one]
 done:=by
  intro X hP hw hK hc i pins s σ H E I hf st hg;subst hP hw hK;obtain⟨f0,f1,f2,f3,f4,f5⟩:=hf it (by simp);exact wpAny_pyNext_range_end (I.ok.hd hc) st (by have:n<=i:=hg;omega) λh' eb=>⟨rfl,I.turned (t':=s.toks) (λb o hb e=>eb b o hb e) f0 f1 f3 f4 f5⟩
 self:=λ_ _ _ _ _ st h=>wpAny_pyIter_rangeiter st h
end L2
namespace L2
open PySem PySem.Spec PyProof.Rows
section
variable {X:Cx}{tg:Expr}
def iList (K:W.Frag) (tl:TE):TI:=λσ H R=>tl σ H λx H1=>∃a,x=.ref a/\(∃xs,SqL K H1 a xs)/\R (Itl K a) H1
def iTup (K:W.Frag) (tl:TE):TI:=λσ H R=>tl σ H λx H1=>∃a,x=.ref a/\(∃xs,SqT K H1 a xs)/\R (Itt K a) H1
theorem Zwg {l:Expr}{tl:TE}(hl:PE X l tl):PI X tg l (iList X.K tl):=by
 intro pins s σ H R I h;refine thn (hl pins s σ H _ I h) λv s1 ⟨x,H1,I1,r1,q1⟩=>?_;obtain⟨a,e,⟨xs,hq⟩,q⟩:=q1;subst e;cases r1;obtain⟨its,rv,p,hz⟩:=I1.list hq;refine wpAny_pyIter_list p.isList ?_;refine⟨s1.heap.objs.size,[s1.heap.objs.size],_,_,H1,rfl,I1.kept (t':=s1.toks) λb o e=>Waf _ e,Zpl a _,⟨_,Wax _ rfl,rfl,rfl⟩,λb hb=>?_,q⟩;have e:b=s1.heap.objs.size:=by simpa using hb
 subst e;exact I1.fpOk (Wak _)<|I1.hok.fresh<|Wak _
theorem Zxr {l:Expr}{tl:TE}(hl:PE X l tl):PI X tg l (iTup X.K tl):=by
 intro pins s σ H R I h;refine thn (hl pins s σ H _ I h) λv s1 ⟨x,H1,I1,r1,q1⟩=>?_;obtain⟨a,e,⟨xs,hq⟩,q⟩:=q1;subst e;cases r1;obtain⟨its,rv,p,hz⟩:=I1.tuple hq;refine wpAny_pyIter_tuple (show s1.heap.IsTuple a its.toArray from p) ?_;refine⟨s1.heap.objs.size,[s1.heap.objs.size],_,_,H1,rfl,I1.kept (t':=s1.toks) λb o e=>Waf _ e,Zn2 a _,⟨_,Wax _ rfl,rfl,rfl⟩,λb hb=>?_,q⟩;have e:b=s1.heap.objs.size:=by simpa using hb
 subst e;exact I1.fpOk (Wak _)<|I1.hok.fresh<|Wak _
theorem range_it {pins:List (Addr × Obj)}{σ:St}{H:Hp}{s:Shared}{R:It->Hp->Prop}{E:Value->Shared->Prop}{lo hi:Int}{t u v:Tok}{tk:Nat}(I:Inv X pins σ H s) (h1:-(2 ^ 62)<=lo) (h2:lo<2 ^ 62) (h3:-(2 ^ 62)<=hi) (h4:hi<2 ^ 62)
  (q:R (Itr lo (hi-lo).toNat) H):wpAny (model X.prog X.w) X.A (pyIter (.ref s.heap.objs.size)) (PIE X pins σ tg R) E { s with heap:=s.heap.push { cls:=.type "range",data:=.fields #[.int lo t,.int hi u,.int 1 v] },toks:=tk }:=by
 refine wpAny_pyIter_range (IsRange.new ..) (small_one h1 h2 h3 h4) ?_;have I1:Inv X pins σ H { s with heap:=s.heap.push { cls:=.type "range",data:=.fields #[.int lo t,.int hi u,.int 1 v] },toks:=tk }:=I.kept λb o e=>Waf _ e;refine⟨(s.heap.push { cls:=.type "range",data:=.fields #[.int lo t,.int hi u,.int 1 v] }).objs.size,[(s.heap.push { cls:=.type "range",data:=.fields #[.int lo t,.int hi u,.int 1 v] }).objs.size],_,_,H,rfl,
  I1.kept (t':=tk) λb o e=>Waf _ e,Zop _ lo (hi-lo).toNat,?_,λb hb=>?_,q⟩
 ·have e1:lo+((0:Nat):Int)*1=lo:=by simp
  have e2:(((hi-lo).toNat:Nat):Int)-((0:Nat):Int)=Builtin.Range.rangeSize lo hi 1:=by rw[rangeSize_one];split <;> omega
  show IsRangeIter _ _ (lo+((0:Nat):Int)*1) ((((hi-lo).toNat:Nat):Int)-((0:Nat):Int)) 1;rw[e1,e2];exact Wax _ rfl
 ·have e:b=(s.heap.push { cls:=.type "range",data:=.fields #[.int lo t,.int hi u,.int 1 v] }).objs.size:=by simpa using hb
  subst e;exact I1.fpOk (Wak _)<|I1.hok.fresh<|Wak _
def iRng1 (ta:TA):TI:=λσ H R=>ta σ H λvs H1=>∃j:Int,vs=[.int j] /\ -(2 ^ 62)<=j/\j<2 ^ 62/\R (Itr 0 j.toNat) H1
theorem Zbk {a:Expr}{ta:TA}{p pos:Pos}(hg:Gl X "range") (hm:X.mg "range" = none) (ha:PA X [a] ta) (hs:starEach [a] X.env=[(false,eval a X.env)]:=by rfl):PI X tg (.Call (.Name "range" p) [a] [] pos) (iRng1 ta):=by
 intro pins s σ H R I h;refine Call_<|Zgc I hg hm boot_range<|PyProof.Rows.callWith_type1 (thn (ha pos pins s σ H _ I h) λus s1 ⟨vs,H1,I1,r1,q1⟩=>?_) hs rfl;obtain⟨j,e,q1,q2,q⟩:=q1;subst e;cases r1 with
 |cons r rr=>
  cases rr;obtain⟨t,rfl⟩:=r;exact call_range_1<|range_it I1 (by omega) (by omega) q1 q2 (by simpa using q)
def tFor (wi:TI) (g:TG) (tb:TS):TS:=λD σ H=>wi σ H λJ H1=>∃W:Nat->Nat->St->Hp->Prop,(∃m,W 0 m σ H1)/\∀i m σ H,W i m σ H →
 (J.stop i H/\D.nx σ H)\/(J.go i H/\∃N:St->Hp->Prop,(∀σ' H',N σ' H' -> ∃m',m'<m/\W (i+1) m' σ' H')/\∀x H',J.yld i H x H' -> g x σ H' λσ2 H2=>tb { D with nx:=N,ct:=N,bk:=D.nx } σ2 H2)
def pinsAt (fp:List Addr) (h:Heap):List (Addr × Obj):=fp.filterMap λb=>(h.get? b).map λo=>(b,o)
theorem Zdj {fp:List Addr}{h:Heap}{b:Addr}{o:Obj}(hb:b∈fp) (e:h.get? b=some o):(b,o)∈pinsAt fp h:=List.mem_filterMap.mpr ⟨b,hb,by rw[e];rfl⟩
theorem Zps {fp:List Addr}{h:Heap}{p:Addr × Obj}(hp:p∈pinsAt fp h):p.1∈fp/\h.get? p.1=some p.2:=by
 obtain⟨b,hb,e⟩:=List.mem_filterMap.mp hp;cases q:h.get? b with
 |none=>rw[q]at e;cases e
 |some o=>
  rw[q]at e;have e':(b,o)=p:=Wba.inj e;subst e';exact⟨hb,q⟩
theorem Inv.pinned {pins:List (Addr × Obj)}{σ:St}{H:Hp}{s:Shared}{fp:List Addr}(I:Inv X pins σ H s) (hf:∀b∈fp,FpOk X pins H b) (ho:∀b∈fp,∃o,s.heap.get? b=some o/\∀v,o.data≠.cell v):Inv X (pins++pinsAt fp s.heap) σ H s:=
 I.pins_of λp hp=>(Wbd.mp hp).elim (λz=>I.pin p<|Waw _ z) λz=>by
  obtain⟨hb,e⟩:=Zps z;obtain⟨f0,f1,f2,_⟩:=hf p.1 hb;obtain⟨o,e',d⟩:=ho p.1 hb;rw[e]at e';cases e';exact⟨e,f0,f1,f2,d⟩
theorem Inv.unpinned {pins pl:List (Addr × Obj)}{σ:St}{H:Hp}{s:Shared}(I:Inv X (pins++pl) σ H s):Inv X pins σ H s:=I.pins_of λp hp=>I.pin p<|Waw _<|Wcn _ hp
theorem Zdt {iter:Expr}{body:List Stmt}{wi:TI}{g:TG}{tb:TS}{pos:Pos}(hp:PassesOwn (model X.prog X.w) X.A X.env X.xe) (hc:X.calm=true) (hi:PI X tg iter wi) (hg:PG X tg g) (hb:PSs X body tb)
  (hs:∀x,foldedSetIterable iter X.env x=pure x:=by intro _;rfl):PS X (.For tg iter body [] pos) (tFor wi g tb):=by
 intro pins s σ H D I h;refine wpAny_For (thn (hi pins s σ H _ I h) λv s1 h1=>thn h1 λitv s2 h2=>?_) hs;obtain⟨it,fp,tn,J,H2,e,I2,T,st2,f2,W,⟨m0,w0⟩,turn⟩:=h2;subst e
 -- what stays true of the iterator's objects through the loop
 have stat:∀{H':Hp},(∀b∈fp,H' b=none)->∀b∈fp,FpOk X pins H' b:=λhn b hb=>⟨hn b hb,(f2 b hb).2⟩;refine codeAny_forLoop_any (λn s'=>∃i σ' H',Inv X pins σ' H' s' /\ tn i s'.heap/\(∀b∈fp,H' b=none)/\W i n σ' H') ?_ m0 ⟨0,σ,H2,I2,st2,λb hb=>(f2 b hb).1,w0⟩;rintro n s3 ⟨i,σ3,H3,I3,st3,fr3,w3⟩;rcases turn i n σ3 H3 w3 with ⟨stop,qn⟩|⟨go,N,hN,step⟩
 ·refine wpAny_passesOwn hp (thn (T.done X rfl rfl rfl hc i pins s3 σ3 H3 X.xe I3 (stat fr3) st3 stop) λr s4 ⟨hr,I4⟩=>?_)
  subst hr;exact wpAny_execs_nil ⟨σ3,H3,I4,qn⟩
 ·refine wpAny_passesOwn hp (thn (T.item X rfl rfl rfl hc i pins s3 σ3 H3 X.xe I3 (stat fr3) st3 go) λr s4 ⟨u,hr,h4⟩=>?_)
  subst hr;refine wpAny_passesOwn hp (thn h4 λ_ s5 ⟨x,H5,I5,r5,y5,st5,fr5⟩=>?_);have I5':=I5.pinned (stat fr5)<|T.obj _ _ st5;refine wpAny_passesOwn hp (thn (hg _ s5 σ3 H5 x u _ I5' r5<|step x H5 y5) λ_ s6 ⟨σ6,H6,I6,q6⟩=>?_);refine wpAny_passesOwn hp (thn (hb _ s6 σ6 H6 _ I6 q6) λf s7 q7=>?_);have again:∀{σ7:St}{H7:Hp},Inv X (pins++pinsAt fp s5.heap) σ7 H7 s7->N σ7 H7->∃m,m<n/\∃i σ' H',Inv X pins σ' H' s7/\tn i s7.heap/\(∀b∈fp,H' b=none)/\W i m σ' H':=λ{σ7 H7} I7 n7=>by
   obtain⟨m',hm,w7⟩:=hN σ7 H7 n7;refine⟨m',hm,i+1,σ7,H7,I7.unpinned,T.keep _ _ _ st5 λb hb o e=>(I7.pin (b,o)<|Waw _<|Waw _<|Zdj hb e).1,λb hb=>?_,w7⟩;obtain⟨o,e,d⟩:=T.obj _ _ st5 b hb;exact(I7.pin (b,o)<|Waw _<|Waw _<|Zdj hb e).2.1
  cases f with
  |next=>obtain⟨σ7,H7,I7,n7⟩:=q7;exact again I7 n7
  |cont=>obtain⟨σ7,H7,I7,n7⟩:=q7;exact again I7 n7
  |brk=>obtain⟨σ7,H7,I7,q7⟩:=q7;exact⟨σ7,H7,I7.unpinned,q7⟩
  |ret v=>obtain⟨x7,σ7,H7,I7,r7,q7⟩:=q7;exact⟨x7,σ7,H7,I7.unpinned,r7,q7⟩
end
end L2
namespace L2
open PySem PySem.Spec PyProof.Rows
abbrev R2:=V->V->Hp->VK->Prop
def OpR (X:Cx) (f:Value->Value->Sem Value) (r:R2):Prop:=
 ∀(pins:List (Addr × Obj)) (s:Shared) (σ:St) (H:Hp) (x y:V) (v u:Value) (Q:VK),Inv X pins σ H s->RelV x v->RelV y u->r x y H Q →
  wpAny (model X.prog X.w) X.A (f v u) (EP X pins σ Q) X.xe s
def UnR (X:Cx) (f:Value->Sem Value) (r:V->Hp->VK->Prop):Prop:=
 ∀(pins:List (Addr × Obj)) (s:Shared) (σ:St) (H:Hp) (x:V) (v:Value) (Q:VK),Inv X pins σ H s->RelV x v->r x H Q →
  wpAny (model X.prog X.w) X.A (f v) (EP X pins σ Q) X.xe s
def CallR (X:Cx) (f:Value) (r:List V->Hp->VK->Prop):Prop:=
 ∀(pins:List (Addr × Obj)) (s:Shared) (σ:St) (H:Hp) (xs:List V) (us:List Value) (Q:VK),Inv X pins σ H s->Vals xs us->r xs H Q →
  wpAny (model X.prog X.w) X.A (call f us) (EP X pins σ Q) X.xe s
def TruR (X:Cx) (r:V->Hp->(Bool->Hp->Prop)->Prop):Prop:=
 ∀(pins:List (Addr × Obj)) (s:Shared) (σ:St) (H:Hp) (x:V) (v:Value) (Q:Bool->Hp->Prop),Inv X pins σ H s->RelV x v->r x H Q →
  wpAny (model X.prog X.w) X.A (truthy v) (TP X pins σ Q) X.xe s
def tOp (r:R2) (ta tb:TE):TE:=λσ H Q=>ta σ H λx H1=>tb σ H1 λy H2=>r x y H2 Q
def tUn (r:V->Hp->VK->Prop) (ta:TE):TE:=λσ H Q=>ta σ H λx H1=>r x H1 Q
def rI (C:Int->Int->Prop) (g:Int->Int->V):R2:=λx y H Q=>∃i j,x=.int i/\y=.int j/\C i j/\Q (g i j) H
def rI0 (g:Int->Int->V):R2:=λx y H Q=>∃i j,x=.int i/\y=.int j/\Q (g i j) H
def rU (g:Int->V):V->Hp->VK->Prop:=λx H Q=>∃i,x=.int i/\Q (g i) H
section
variable {X:Cx}{a b c:Expr}{ta tb tc:TE}{pos:Pos}
theorem binT (ha:PE X a ta) (hb:PE X b tb) {pins:List (Addr × Obj)}{s:Shared}{σ:St}{H:Hp}{R:V->V->Hp->Prop}(I:Inv X pins σ H s)
  (h:ta σ H λx H1=>tb σ H1 λy H2=>R x y H2) {Q:Value->Shared->Prop}{f:Value->Value->Sem Value}
  (hf:∀v u s2 x y H2,Inv X pins σ H2 s2->RelV x v->RelV y u->R x y H2->wpAny (model X.prog X.w) X.A (f v u) Q X.xe s2) :
  wpAny (model X.prog X.w) X.A (eval a X.env) (λv s₁=>wpAny (model X.prog X.w) X.A (eval b X.env) (λu s₂=>wpAny (model X.prog X.w) X.A (f v u) Q X.xe s₂) X.xe s₁) X.xe s:=by
 refine thn (ha pins s σ H _ I h) λv s1 ⟨x,H1,I1,r1,q1⟩=>?_;refine thn (hb pins s1 σ H1 _ I1 q1) λu s2 ⟨y,H2,I2,r2,q2⟩=>?_;exact hf v u s2 x y H2 I2 r1 r2 q2
theorem Zap {op:Operator}{r:R2}(ho:OpR X (binaryOp op) r) (ha:PE X a ta) (hb:PE X b tb):PE X (.BinOp a op b pos) (tOp r ta tb):=by
 intro pins s σ H Q I h;exact wpAny_BinOp (binT ha hb I h λv u s2 x y H2 I2 rx ry q=>ho pins s2 σ H2 x y v u Q I2 rx ry q)
theorem Zve {op:UnaryOp}{r:V->Hp->VK->Prop}(ho:UnR X (unaryOp op) r) (ha:PE X a ta):PE X (.UnaryOp op a pos) (tUn r ta):=by
 intro pins s σ H Q I h;exact UnaryOp_ (thn (ha pins s σ H _ I h) λv s1 ⟨x,H1,I1,r1,q1⟩=>ho pins s1 σ H1 x v Q I1 r1 q1)
theorem opI {f:Value->Value->Sem Value}{C:Int->Int->Prop}{g:Int->Int->Int}
  (rule:∀(i j:Int) (t u:Tok) (s:Shared) (Q:Value->Shared->Prop) (E:Value->Shared->Prop),C i j->Q (.int (g i j) s.toks) { s with toks:=s.toks+1 } -> wpAny (model X.prog X.w) X.A (f (.int i t) (.int j u)) Q E s) :
  OpR X f (rI C λi j=>.int<|g i j):=by
 intro pins s σ H x y v u Q I rx ry h;obtain⟨i,j,rfl,rfl,hc,q⟩:=h;obtain⟨t,rfl⟩:=rx;obtain⟨t',rfl⟩:=ry;exact rule i j t t' s _ _ hc ⟨.int<|g i j,H,I.tok _,⟨_,rfl⟩,q⟩
theorem opI0 {f:Value->Value->Sem Value}{g:Int->Int->Int}
  (rule:∀(i j:Int) (t u:Tok) (s:Shared) (Q:Value->Shared->Prop) (E:Value->Shared->Prop),Q (.int (g i j) s.toks) { s with toks:=s.toks+1 } -> wpAny (model X.prog X.w) X.A (f (.int i t) (.int j u)) Q E s) :
  OpR X f (rI0 λi j=>.int<|g i j):=by
 intro pins s σ H x y v u Q I rx ry h;obtain⟨i,j,rfl,rfl,q⟩:=h;obtain⟨t,rfl⟩:=rx;obtain⟨t',rfl⟩:=ry;exact rule i j t t' s _ _ ⟨.int<|g i j,H,I.tok _,⟨_,rfl⟩,q⟩
theorem opB0 {f:Value->Value->Sem Value}{g:Int->Int->Bool}
  (rule:∀(i j:Int) (t u:Tok) (s:Shared) (Q:Value->Shared->Prop) (E:Value->Shared->Prop),Q (.bool<|g i j) s->wpAny (model X.prog X.w) X.A (f (.int i t) (.int j u)) Q E s) :
  OpR X f (rI0 λi j=>.bl<|g i j):=by
 intro pins s σ H x y v u Q I rx ry h;obtain⟨i,j,rfl,rfl,q⟩:=h;obtain⟨t,rfl⟩:=rx;obtain⟨t',rfl⟩:=ry;exact rule i j t t' s _ _ ⟨.bl<|g i j,H,I,rfl,q⟩
def CDiv (i j:Int):Prop:=0<j/\j<1073741824
def CPow (i j:Int):Prop:=0<=j/\j<=1000000/\i.natAbs<2 ^ 64
def CMul (i j:Int):Prop:=(-(2 ^ 64)<i/\i<2 ^ 64)\/(-(2 ^ 64)<j/\j<2 ^ 64)
theorem CMul.ok {i j:Int}(h:CMul i j):IntMulOk i j:=by
 rcases h with ⟨h1,h2⟩|⟨h1,h2⟩
 ·exact .of_left<|intBits_le_64 h1 h2
 ·exact .of_right<|intBits_le_64 h1 h2
theorem Zw9:OpR X (binaryOp .Add) (rI0 λi j=>.int<|i+j):=opI0 λ_ _ _ _ _ _ _ q=>add_int q
theorem Ze1:OpR X (binaryOp .Sub) (rI0 λi j=>.int<|i-j):=opI0 λ_ _ _ _ _ _ _ q=>sub_int q
theorem Zcn:OpR X (binaryOp .Mult) (rI CMul λi j=>.int<|i*j):=opI λ_ _ _ _ _ _ _ hc q=>mul_int q hc.ok
theorem Zd5:OpR X (binaryOp .FloorDiv) (rI CDiv λi j=>.int<|i / j):=opI λi j _ _ _ _ _ hc q=>by
 have h1:(0:Int)<j:=hc.1;have h2:j<1073741824:=hc.2;exact floordiv_int (by omega) (by rw[Int.fdiv_eq_ediv_of_nonneg i (by omega)];exact q) (.inl<|PyProof.noPylong_small (by omega))
theorem Zcv:OpR X (binaryOp .Mod) (rI (λ_ j=>0<j) λi j=>.int<|i % j):=opI λi j _ _ _ _ _ hc q=>by
 have h1:(0:Int)<j:=hc;exact mod_int' (by omega) (by rw[Int.fmod_eq_emod_of_nonneg i (by omega)];exact q)
theorem Zxc:OpR X (binaryOp .Pow) (rI CPow λi j=>.int<|i ^ j.toNat):=opI λ_ _ _ _ _ _ _ hc q=>pow_int_small hc.1 hc.2.1 hc.2.2 q
theorem Zue:OpR X (binaryOp .BitXor) (rI0 λi j=>.int<|Builtin.bitXor i j):=opI0 λ_ _ _ _ _ _ _ q=>xor_int q
theorem unI {f:Value->Sem Value}{g:Int->Int}
  (rule:∀(i:Int) (t:Tok) (s:Shared) (Q:Value->Shared->Prop) (E:Value->Shared->Prop),Q (.int (g i) s.toks) { s with toks:=s.toks+1 } -> wpAny (model X.prog X.w) X.A (f (.int i t)) Q E s) :
  UnR X f (rU λi=>.int<|g i):=by
 intro pins s σ H x v Q I rx h;obtain⟨i,rfl,q⟩:=h;obtain⟨t,rfl⟩:=rx;exact rule i t s _ _ ⟨.int<|g i,H,I.tok _,⟨_,rfl⟩,q⟩
theorem Zr1:UnR X (unaryOp .USub) (rU λi=>.int (-i)):=unI λ_ _ _ _ _ q=>neg_int q
end
def scal:V->V->Bool
 |.non,.non=>true|.non,.int _=>true|.int _,.non=>true|.non,.bl _=>true|.bl _,.non=>true|.non,.str _=>true|.str _,.non=>true
 |.int _,.int _=>true|.bl _,.bl _=>true|.str _,.str _=>true|.byt _,.byt _=>true
 |.int _,.str _=>true|.str _,.int _=>true|.bl _,.str _=>true|.str _,.bl _=>true
 |_,_=>false
def rEq:R2:=λx y H Q=>scal x y=true/\Q (.bl<|decide (x=y)) H
def rNe:R2:=λx y H Q=>scal x y=true/\Q (.bl (!decide (x=y))) H
theorem Zjl {i j:Int}:decide (V.int i=V.int j)=(i == j):=by
 rw[Wdo];simp
theorem Zur {i j:Bool}:decide (V.bl i=V.bl j)=(i == j):=by
 rw[Wdo];simp
theorem Zpt {i j:Str}:decide (V.str i=V.str j)=(i == j):=by
 rw[Wdo];simp
theorem Zrc {i j:Array UInt8}:decide (V.byt i=V.byt j)=(i.toList == j.toList):=by
 rw[Wdo];cases i;cases j;simp
section
variable {X:Cx}{a b c:Expr}{ta tb tc:TE}{pos:Pos}
theorem Zbt {pins:List (Addr × Obj)}{σ:St}{H:Hp}{s:Shared}{Q:VK}{k k':Bool}(I:Inv X pins σ H s) (q:Q (.bl k) H) (e:k=k'):EP X pins σ Q (.bool k') s:=by
 subst e;exact⟨.bl k,H,I,rfl,q⟩
theorem Zy8:OpR X (compareOp .Eq) rEq:=by
 intro pins s σ H x y v u Q I rx ry h;obtain⟨hs,q⟩:=h;cases x with
 |non=>
  cases rx;cases y with
  |non=>cases ry;exact PySem.EqNone.eq_none_none (Zbt I q (by simp))
  |bl j=>cases ry;exact PySem.EqNone.eq_none_bool (Zbt I q (by simp))
  |int j=>obtain⟨t',rfl⟩:=ry;exact PySem.EqNone.eq_none_int (Zbt I q (by simp))
  |str j=>obtain⟨t',rfl⟩:=ry;exact PySem.EqNone.eq_none_str (Zbt I q (by simp))
  |_=>exact absurd (show false=true from hs) Wag
 |bl i=>
  cases rx;cases y with
  |non=>cases ry;exact PySem.EqNone.eq_bool_none (Zbt I q (by simp))
  |bl j=>cases ry;exact eq_bool (Zbt I q Zur)
  |str j=>obtain⟨t',rfl⟩:=ry;exact PySem.EqMixed.eq_bool_str (Zbt I q (by simp))
  |_=>exact absurd (show false=true from hs) Wag
 |int i=>
  obtain⟨t,rfl⟩:=rx;cases y with
  |non=>cases ry;exact PySem.EqNone.eq_int_none (Zbt I q (by simp))
  |int j=>obtain⟨t',rfl⟩:=ry;exact eq_int (Zbt I q Zjl)
  |str j=>obtain⟨t',rfl⟩:=ry;exact PySem.EqMixed.eq_int_str (Zbt I q (by simp))
  |_=>exact absurd (show false=true from hs) Wag
 |str i=>
  obtain⟨t,rfl⟩:=rx;cases y with
  |non=>cases ry;exact PySem.EqNone.eq_str_none (Zbt I q (by simp))
  |bl j=>cases ry;exact PySem.EqMixed.eq_str_bool (Zbt I q (by simp))
  |int j=>obtain⟨t',rfl⟩:=ry;exact PySem.EqMixed.eq_str_int (Zbt I q (by simp))
  |str j=>obtain⟨t',rfl⟩:=ry;exact eq_str (Zbt I q Zpt)
  |_=>exact absurd (show false=true from hs) Wag
 |byt i=>
  obtain⟨t,rfl⟩:=rx;cases y with
  |byt j=>obtain⟨t',rfl⟩:=ry;exact PySem.W.eq_bytes (Zbt I q Zrc)
  |_=>exact absurd (show false=true from hs) Wag
 |_=>cases y <;> exact absurd (show false=true from hs) Wag
theorem Zzl:OpR X (compareOp .NotEq) rNe:=by
 intro pins s σ H x y v u Q I rx ry h;obtain⟨hs,q⟩:=h;cases x with
 |non=>
  cases rx;cases y with
  |non=>cases ry;exact PySem.EqNone.ne_none_none (Zbt I q (by simp))
  |bl j=>cases ry;exact PySem.EqNone.ne_none_bool (Zbt I q (by simp))
  |int j=>obtain⟨t',rfl⟩:=ry;exact PySem.EqNone.ne_none_int (Zbt I q (by simp))
  |str j=>obtain⟨t',rfl⟩:=ry;exact PySem.EqNone.ne_none_str (Zbt I q (by simp))
  |_=>exact absurd (show false=true from hs) Wag
 |bl i=>
  cases rx;cases y with
  |non=>cases ry;exact PySem.EqNone.ne_bool_none (Zbt I q (by simp))
  |bl j=>cases ry;exact ne_bool (Zbt I q (congrArg not Zur))
  |str j=>obtain⟨t',rfl⟩:=ry;exact PySem.EqMixed.ne_bool_str (Zbt I q (by simp))
  |_=>exact absurd (show false=true from hs) Wag
 |int i=>
  obtain⟨t,rfl⟩:=rx;cases y with
  |non=>cases ry;exact PySem.EqNone.ne_int_none (Zbt I q (by simp))
  |int j=>obtain⟨t',rfl⟩:=ry;exact ne_int (Zbt I q (congrArg not Zjl))
  |str j=>obtain⟨t',rfl⟩:=ry;exact PySem.EqMixed.ne_int_str (Zbt I q (by simp))
  |_=>exact absurd (show false=true from hs) Wag
 |str i=>
  obtain⟨t,rfl⟩:=rx;cases y with
  |non=>cases ry;exact PySem.EqNone.ne_str_none (Zbt I q (by simp))
  |bl j=>cases ry;exact PySem.EqMixed.ne_str_bool (Zbt I q (by simp))
  |int j=>obtain⟨t',rfl⟩:=ry;exact PySem.EqMixed.ne_str_int (Zbt I q (by simp))
  |str j=>obtain⟨t',rfl⟩:=ry;exact ne_str (Zbt I q (congrArg not Zpt))
  |_=>exact absurd (show false=true from hs) Wag
 |byt i=>
  obtain⟨t,rfl⟩:=rx;cases y with
  |byt j=>obtain⟨t',rfl⟩:=ry;exact PySem.W.ne_bytes (Zbt I q (congrArg not Zrc))
  |_=>exact absurd (show false=true from hs) Wag
 |_=>cases y <;> exact absurd (show false=true from hs) Wag
theorem Zln:OpR X (compareOp .Lt) (rI0 λi j=>.bl<|decide (i<j)):=opB0 λ_ _ _ _ _ _ _ q=>lt_int q
theorem Zu5:OpR X (compareOp .LtE) (rI0 λi j=>.bl<|decide (i<=j)):=opB0 λ_ _ _ _ _ _ _ q=>le_int q
theorem Zk2:OpR X (compareOp .Gt) (rI0 λi j=>.bl<|decide (j<i)):=opB0 λ_ _ _ _ _ _ _ q=>gt_int q
theorem Zw6:OpR X (compareOp .GtE) (rI0 λi j=>.bl<|decide (j<=i)):=opB0 λ_ _ _ _ _ _ _ q=>ge_int q
theorem OpR.or {f:Value->Value->Sem Value}{r r':R2}(h:OpR X f r) (h':OpR X f r'):OpR X f (λx y H Q=>r x y H Q\/r' x y H Q):=by
 intro pins s σ H x y v u Q I rx ry q;rcases q with q|q
 ·exact h pins s σ H x y v u Q I rx ry q
 ·exact h' pins s σ H x y v u Q I rx ry q
theorem nomark (b:Expr) {op:CmpOp}(h:op≠.In:=by decide) (h2:op≠.NotIn:=by decide):behindInMarks op b=false:=by
 have e1:(op == CmpOp.In)=false:=by cases op <;> first|rfl|exact absurd rfl h
 have e2:(op == CmpOp.NotIn)=false:=by cases op <;> first|rfl|exact absurd rfl h2
 cases b <;> simp[behindInMarks,e1,e2]
theorem Zqz {op:CmpOp}{r:R2}(ho:OpR X (compareOp op) r) (ha:PE X a ta) (hb:PE X b tb) (hm:behindInMarks op b=false):PE X (.Compare a [op] [b] pos) (tOp r ta tb):=by
 intro pins s σ H Q I h;exact wpAny_Compare1 (binT ha hb I h λv u s2 x y H2 I2 rx ry q=>ho pins s2 σ H2 x y v u Q I2 rx ry q) hm
def tTest (t:TE):TT:=λσ H Q=>t σ H λx H'=>∃k,x=.bl k/\Q k H'
theorem Zao {op:CmpOp}{r:R2}(ho:OpR X (compareOp op) r) (ha:PE X a ta) (hb:PE X b tb) (hm:behindInMarks op b=false):PT X (.Compare a [op] [b] pos) (tTest<|tOp r ta tb):=by
 intro pins s σ H Q I h;refine wpAny_isTrue_Compare1 (thn (ha pins s σ H _ I h) λv s1 ⟨x,H1,I1,r1,q1⟩=>thn (hb pins s1 σ H1 _ I1 q1) λu s2 ⟨y,H2,I2,r2,q2⟩=>
  thn (ho pins s2 σ H2 x y v u _ I2 r1 r2 q2) λc s3 ⟨z,H3,I3,r3,k,e,q3⟩=>?_) hm
 subst e;cases r3;exact wpAny_truthy_bool ⟨H3,I3,q3⟩
def tChain (r r':R2) (ta tb tc:TE):TE:=λσ H Q=>ta σ H λx H1=>tb σ H1 λy H2=>r x y H2 λz H3=>∃k,z=.bl k ∧
 (if k=true then tc σ H3 λw' H4=>r' y w' H4 Q else Q (.bl false) H3)
theorem Zm8 {op op':CmpOp}{r r':R2}(ho:OpR X (compareOp op) r) (ho':OpR X (compareOp op') r') (ha:PE X a ta) (hb:PE X b tb) (hc:PE X c tc)
  (hm:lastMarks [op,op'] [b,c]=false:=by with_unfolding_all rfl):PE X (.Compare a [op,op'] [b,c] pos) (tChain r r' ta tb tc):=by
 intro pins s σ H Q I h;refine Compare_chain (thn (ha pins s σ H _ I h) λv s1 ⟨x,H1,I1,r1,q1⟩=>chain_link (thn (hb pins s1 σ H1 _ I1 q1) λu s2 ⟨y,H2,I2,r2,q2⟩=>
  thn (ho pins s2 σ H2 x y v u _ I2 r1 r2 q2) λd s3 ⟨z,H3,I3,r3,k,e,q3⟩=>?_)) hm
 subst e;cases r3;refine wpAny_truthy_bool ?_;cases k with
 |false=>exact ite_ff ⟨.bl false,H3,I3,rfl,q3⟩
 |true=>exact ite_tt (chain_last (thn (hc pins s3 σ H3 _ I3 q3) λw' s4 ⟨z',H4,I4,r4,q4⟩=>ho' pins s4 σ H4 y z' u w' Q I4 r2 r4 q4))
theorem Zr7 {op op':CmpOp}{r r':R2}(ho:OpR X (compareOp op) r) (ho':OpR X (compareOp op') r') (ha:PE X a ta) (hb:PE X b tb) (hc:PE X c tc)
  (hm:lastMarks [op,op'] [b,c]=false:=by with_unfolding_all rfl):PT X (.Compare a [op,op'] [b,c] pos) (tTest<|tChain r r' ta tb tc):=by
 intro pins s σ H Q I h;refine isTrue_chain (thn (ha pins s σ H _ I h) λv s1 ⟨x,H1,I1,r1,q1⟩=>test_link (thn (hb pins s1 σ H1 _ I1 q1) λu s2 ⟨y,H2,I2,r2,q2⟩=>
  thn (ho pins s2 σ H2 x y v u _ I2 r1 r2 q2) λd s3 ⟨z,H3,I3,r3,k,e,q3⟩=>?_)) hm
 subst e;cases r3;refine wpAny_truthy_bool ?_;cases k with
 |false=>
  obtain⟨k',e',q'⟩:=q3;cases e';exact ite_ff ⟨H3,I3,q'⟩
 |true=>
  refine ite_tt<|test_last (thn (hc pins s3 σ H3 _ I3 q3) λw' s4 ⟨z',H4,I4,r4,q4⟩=>thn (ho' pins s4 σ H4 y z' u w' _ I4 r2 r4 q4) λd' s5 ⟨z2,H5,I5,r5,k2,e2,q5⟩=>?_);subst e2;cases r5;exact wpAny_truthy_bool ⟨H5,I5,q5⟩
def TruV (K:W.Frag) (x:V) (H:Hp) (k:Bool):Prop:=
 match x with
 |.non=>k=false
 |.bl b=>k=b
 |.int i=>k=(i != 0)
 |.str y=>y.length<=sizeLine/\k=((y.length:Int) != 0)
 |.byt y=>y.size<=sizeLine/\k=((y.size:Int) != 0)
 |.ref p=>(∃xs,SqL K H p xs/\k = !xs.isEmpty)\/(∃xs,SqT K H p xs/\k = !xs.isEmpty)\/∃kvs,H p=some (.dK kvs)/\k = !kvs.isEmpty
 |_=>False
theorem Zn5 {κ:Type}{kvs:List (κ × V)}{vs:List (κ × Value)}(r:KV kvs vs):(!vs.isEmpty) = !kvs.isEmpty:=by
 cases r <;> rfl
theorem Zjd {xs:List V}{its:List Value}(r:Vals xs its):(!its.toArray.isEmpty) = !xs.isEmpty:=by
 cases r <;> simp
theorem line63:(sizeLine:Nat)<2 ^ 63:=by rw[sizeLine_eq];decide
theorem Zxt:TruR X (λx H Q=>∃k,TruV X.K x H k/\Q k H):=by
 intro pins s σ H x v Q I rx h;obtain⟨k,e,q⟩:=h;have hl:=line63;have hs:sizeLine=16777216:=sizeLine_eq;cases x with
 |non=>
  cases rx;have e':k=false:=e;subst e';exact truthy_none ⟨H,I,q⟩
 |bl b=>
  cases rx;have e':k=b:=e;subst e';exact wpAny_truthy_bool ⟨H,I,q⟩
 |int i=>
  obtain⟨t,rfl⟩:=rx;have e':k=(i != 0):=e;subst e';exact PySem.P.truthy_int ⟨H,I,q⟩
 |str y=>
  obtain⟨t,rfl⟩:=rx;obtain⟨hy,e'⟩:y.length<=sizeLine/\k=((y.length:Int) != 0):=e;subst e';exact PySem.P.truthy_str (by omega) ⟨H,I.tok _,q⟩
 |byt y=>
  obtain⟨t,rfl⟩:=rx;obtain⟨hy,e'⟩:y.size<=sizeLine/\k=((y.size:Int) != 0):=e;subst e';exact PySem.W.truthy_bytes (by omega) ⟨H,I.tok _,q⟩
 |ref p=>
  cases rx;have e':(∃xs,SqL X.K H p xs/\k = !xs.isEmpty)\/(∃xs,SqT X.K H p xs/\k = !xs.isEmpty)\/∃kvs,H p=some (.dK kvs)/\k = !kvs.isEmpty:=e;rcases e' with ⟨xs,hx,e'⟩|⟨xs,hx,e'⟩|⟨kvs,hx,e'⟩
  ·subst e'
   obtain⟨its,r,pl,hz⟩:=I.list hx;have hlen:=r.length;exact wpAny_truthy_list pl.isList (by simp only[Waj];omega) ⟨H,I.tok _,by rw[Zjd r];exact q⟩
  ·subst e'
   obtain⟨its,r,pl,hz⟩:=I.tuple hx;have hlen:=r.length;exact truthy_tuple pl (by simp only[Waj];omega) ⟨H,I.tok _,by rw[Zjd r];exact q⟩
  ·subst e'
   obtain⟨hz,hS,vs,r,m⟩:kvs.length<=sizeLine/\(p == sysModules)=false/\∃vs,KV kvs vs/\s.heap.DictOf (mixKind X.prog X.w) p vs:=I.hok p _ hx;have hlen:kvs.length=vs.length:=Paired.length r;exact wpAny_truthy_dict hS m (by omega) ⟨H,I.tok _,by rw[Zn5 r];exact q⟩
 |_=>exact(show False from e).elim
theorem Zsx (ha:PE X a ta) (he:∀whole,isTrue a X.env whole=(do let v ← whole;standAt a.pos;holding [v] (truthy v))) :
  PT X a (λσ H Q=>ta σ H λx H'=>∃k,TruV X.K x H' k/\Q k H'):=by
 intro pins s σ H Q I h;exact isTrue_plain (thn (ha pins s σ H _ I h) λv s1 ⟨x,H1,I1,r1,q1⟩=>Zxt pins s1 σ H1 x v Q I1 r1 q1)<|he _
theorem vals1 {x:V}{us:List Value}(r:Vals [x] us):∃u,us=[u]/\RelV x u:=by
 cases r with
 |cons r1 r2=>cases r2;exact⟨_,rfl,r1⟩
theorem vals2 {x y:V}{us:List Value}(r:Vals [x,y] us):∃u w',us=[u,w']/\RelV x u/\RelV y w':=by
 cases r with
 |cons r1 r2=>
  cases r2 with
  |cons r3 r4=>cases r4;exact⟨_,_,rfl,r1,r3⟩
theorem Zj8:CallR X (.builtin "abs") (λxs H Q=>∃i,xs=[.int i]/\Q (.int (if i<0 then -i else i)) H):=by
 intro pins s σ H xs us Q I r h;obtain⟨i,rfl,q⟩:=h;obtain⟨u,rfl,t,rfl⟩:=vals1 r;exact call_abs_int λu tk=>⟨.int (if i<0 then -i else i),H,I.tok _,⟨_,rfl⟩,q⟩
theorem Zig (hc:X.calm=true):CallR X (.builtin "max") (λxs H Q=>∃i j,xs=[.int i,.int j]/\Q (.int (if j > i then j else i)) H):=by
 intro pins s σ H xs us Q I r h;obtain⟨i,j,rfl,q⟩:=h;obtain⟨u,w',rfl,⟨t,rfl⟩,⟨t',rfl⟩⟩:=vals2 r;refine max_two_ints (I.ok.hd hc) λh' tk k=>⟨_,H,I.kept k,?_,q⟩;by_cases hj:j > i
 ·rw[if_pos hj,if_pos hj];exact⟨_,rfl⟩
 ·rw[if_neg hj,if_neg hj];exact⟨_,rfl⟩
theorem Zf0 (hc:X.calm=true):CallR X (.builtin "min") (λxs H Q=>∃i j,xs=[.int i,.int j]/\Q (.int (if j<i then j else i)) H):=by
 intro pins s σ H xs us Q I r h;obtain⟨i,j,rfl,q⟩:=h;obtain⟨u,w',rfl,⟨t,rfl⟩,⟨t',rfl⟩⟩:=vals2 r;refine min_two_ints (I.ok.hd hc) λh' tk k=>⟨_,H,I.kept k,?_,q⟩;by_cases hj:j<i
 ·rw[if_pos hj,if_pos hj];exact⟨_,rfl⟩
 ·rw[if_neg hj,if_neg hj];exact⟨_,rfl⟩
theorem Zh3:CallR X (.type "int") (λxs H Q=>(∃i,xs=[.int i]/\Q (.int i) H)\/∃k,xs=[.bl k]/\Q (.int (if k then 1 else 0)) H):=by
 intro pins s σ H xs us Q I r h;rcases h with ⟨i,rfl,q⟩|⟨k,rfl,q⟩
 ·obtain⟨u,rfl,t,rfl⟩:=vals1 r
  exact call_int_int ⟨.int i,H,I,⟨_,rfl⟩,q⟩
 ·obtain⟨u,rfl,r1⟩:=vals1 r
  cases r1;exact call_int_bool ⟨.int (if k then 1 else 0),H,I.tok _,⟨_,rfl⟩,q⟩
end
end L2
namespace L2
open PySem PySem.Spec PyProof.Rows
structure ObjM (h:Heap) (x dx C:Addr) (mA:Str->Option Value):Prop where
 obj:h.get? x=some (PySem.W.instObj C dx)
 ns:h.Ns1 dx mA
 ne:dx≠x
theorem Zro {h:Heap}{dx:Addr}{mA:Str->Option Value}(n:h.Ns1 dx mA):∃od,h.get? dx=some od/\∀name,PySem.W.lookIn name od=some (mA name):=by
 obtain⟨o,es,ep,ho,hd,hk,_,hm⟩:=n;refine⟨o,ho,λname=>?_⟩;have e:=hm name;unfold nsFind findBy at e;rw[<- Array.find?_toList]at e;unfold PySem.W.lookIn;rw[hd];dsimp only;split
 ·rename_i y q
  rw[q]at e;exact congrArg some e
 ·rename_i q
  rw[q]at e;have a:es.toList.any (·.refKey)=false:=by
   rw[List.any_eq_false];intro y hy;obtain⟨z,t,hkey⟩:=hk y<|Array.mem_toList_iff.mp hy;simp[DictEntry.refKey,hkey]
  have a':¬ es.toList.any (·.refKey)=true:=by rw[a];exact Wag
  rw[if_neg a'];exact congrArg some e
theorem ObjM.look {h:Heap}{x dx C:Addr}{mA:Str->Option Value}(I:ObjM h x dx C mA):∃od,PySem.W.InstAt h x (PySem.W.instObj C dx) C (some od)/\∀name,PySem.W.lookIn name od=some (mA name):=
 let ⟨od,ho,hl⟩:=Zro I.ns
 ⟨od,⟨I.obj,rfl,rfl,ho⟩,hl⟩
theorem RelO.some_of {v:V}{o:Option Value}(r:RelO (some v) o):∃u,o=some u/\RelV v u:=by
 cases o with
 |none=>exact(show False from r).elim
 |some u=>exact⟨u,rfl,r⟩
section
variable {P:Program}{w:World}{H H':Hp}{h h':Heap}{a C dx:Addr}{fs fs':List (Str × V)}
theorem Zv5 (hok:HOk P w H h) (e:H a=some (.ins C dx fs)):∃mA,ObjM h a dx C mA/\(∀f,RelO (fs.lookup f) (mA f))/\PySem.Within mA (fs.map (·.1))/\fs.length<=1000/\H dx=some (.own a):=by
 obtain⟨d,z,ne,ob,mA,n,r,q⟩:=(show ObjOk P w H h a (.ins C dx fs) from hok a _ e);exact⟨mA,⟨ob,n,ne⟩,r,q,z,d⟩
end
structure Cls (K:W.Frag) (C:Addr):Prop where
 pg:PySem.W.plainGet K C Str.empty=true
 hd:PySem.W.hasDictIn K C=true
 po:PySem.W.plainOver K C=true
 sa:PySem.W.findIn K (.ref C) "__setattr__" = some (some (.builtin "object.__setattr__"))
theorem Cls.get {K:W.Frag}{C:Addr}(c:Cls K C) (f:Str):PySem.W.plainGet K C f=true:=c.pg
section
variable {X:Cx}{pins:List (Addr × Obj)}{σ:St}{H:Hp}{s:Shared}{a C dx:Addr}{fs:List (Str × V)}{f:Str}{v:V}{A:Around}{E:Value->Shared->Prop}
end
section
variable {X:Cx}{pins:List (Addr × Obj)}{σ:St}{H:Hp}{s:Shared}{A:Around}{E:Value->Shared->Prop}{Q:Value->Shared->Prop}{c:Value}{b:Bool}
inductive TyOf (K:W.Frag) (H:Hp):V->Value->Prop where
 |non:TyOf K H .non (.type "NoneType")
 |bl (x:Bool):TyOf K H (.bl x) (.type "bool")
 |int (i:Int):TyOf K H (.int i) (.type "int")
 |str (x:Str):TyOf K H (.str x) (.type "str")
 |flt (x:UInt64):TyOf K H (.flt x) (.type "float")
 |lst {a:Addr}{xs:List V}(e:H a=some (.lst xs)):TyOf K H (.ref a) (.type "list")
 |frz {a:Addr}{o:Obj}{xs:List V}(e:H a=some (.frz o (.lst xs))):TyOf K H (.ref a) (.type "list")
 |tup {a:Addr}{xs:List V}(e:H a=some (.tup xs)):TyOf K H (.ref a) (.type "tuple")
 |dK {a:Addr}{kvs:List (Key × V)}(e:H a=some (.dK kvs)):TyOf K H (.ref a) (.type "dict")
 |dT {a:Addr}{kvs:List (List Key × V)}(e:H a=some (.dT kvs)):TyOf K H (.ref a) (.type "dict")
 |ins {a C dx:Addr}{fs:List (Str × V)}(e:H a=some (.ins C dx fs)) (cl:Cls K C) (ha:PySem.W.findIn K (.ref C) "__class__" = some (some (.builtin "object.__class__")))
   (hn:PySem.W.specialIn K (.builtin "object.__class__") "__get__" = some (some (.builtin "getset_descriptor.__get__"))) (htk:PySem.W.takesIn K (.builtin "object.__class__")=some true)
   (hm:PySem.W.mroIn K C (.type "object")=some true):TyOf K H (.ref a) (.ref C)
theorem Zox {x:V}{u t:Value}(I:Inv X pins σ H s) (rx:RelV x u) (ty:TyOf X.K H x t) (e:PySem.W.kitOne X.K t c=some b) (h:∀tk,Q (.bool b) { s with toks:=tk }) :
  wpAny (model X.prog X.w) A (call (.builtin "isinstance") [u,c]) Q E s:=by
 cases ty with
 |non=>cases (show u=Value.none from rx);exact PySem.W.kia_one PySem.W.kitx_none I.kIn True.intro e (λz=>nomatch z) h
 |bl y=>cases (show u=Value.bool y from rx);exact PySem.W.kia_one PySem.W.kitx_bool I.kIn True.intro e (λz=>nomatch z) h
 |int i=>obtain⟨t,q⟩:=(show ∃t,u=Value.int i t from rx);cases q;exact PySem.W.kia_one PySem.W.kitx_int I.kIn True.intro e (λz=>nomatch z) h
 |str y=>obtain⟨t,q⟩:=(show ∃t,u=Value.str y t from rx);cases q;exact PySem.W.kia_one PySem.W.kitx_str I.kIn True.intro e (λz=>nomatch z) h
 |flt y=>obtain⟨t,q⟩:=(show ∃t,u=Value.float y t from rx);cases q;exact PySem.W.kia_one PySem.W.kitx_float I.kIn True.intro e (λz=>nomatch z) h
 |@lst a xs ea=>
  cases (show u=Value.ref a from rx);obtain⟨_,_,n,_,h1⟩:=(show ObjOk X.prog X.w H s.heap a (.lst xs) from I.hok a _ ea);exact PySem.W.kia_one PySem.W.kitx_list I.kIn ⟨_,h1,rfl⟩ e (λz=>nomatch z) h
 |@frz a ob xs ea=>
  cases (show u=Value.ref a from rx);obtain⟨_,_,_,n,_,h1⟩:=(show ObjOk X.prog X.w H s.heap a (.frz ob (.lst xs)) from I.hok a _ ea);exact PySem.W.kia_one PySem.W.kitx_list I.kIn ⟨_,h1,rfl⟩ e (λz=>nomatch z) h
 |@tup a xs ea=>
  cases (show u=Value.ref a from rx);obtain⟨_,_,_,p⟩:=(show ObjOk X.prog X.w H s.heap a (.tup xs) from I.hok a _ ea);obtain⟨o,h1,⟨h2,_⟩,_⟩:=p;exact PySem.W.kia_one PySem.W.kitx_tuple I.kIn ⟨o,h1,h2⟩ e (λz=>nomatch z) h
 |@dK a kvs ea=>
  cases (show u=Value.ref a from rx);obtain⟨_,_,vs,_,p⟩:=(show ObjOk X.prog X.w H s.heap a (.dK kvs) from I.hok a _ ea);obtain⟨o,es,ep,h1,h2,_⟩:=p;exact PySem.W.kia_one PySem.W.kitx_dict I.kIn ⟨o,h1,h2.1⟩ e (λz=>nomatch z) h
 |@dT a kvs ea=>
  cases (show u=Value.ref a from rx);obtain⟨_,_,xs,_,o,es,ep,h1,h2,_⟩:=(show ObjOk X.prog X.w H s.heap a (.dT kvs) from I.hok a _ ea);exact PySem.W.kia_one PySem.W.kitx_dict I.kIn ⟨o,h1,h2.1⟩ e (λz=>nomatch z) h
 |@ins a C dx fs ea cl ha hn htk hm=>
  cases (show u=Value.ref a from rx);obtain⟨mA,O,_⟩:=Zv5 I.hok ea;obtain⟨od,J,_⟩:=O.look;exact PySem.W.kia_one (PySem.W.kitx_own (cl.get _) cl.hd ha hn htk hm) I.kIn J e (λz=>nomatch z) h
end
end L2
namespace L2
open PySem PySem.Spec PyProof.Rows
structure Room (k:Nat) (A:Around):Prop where
 hd:A.handled=none
 dp:A.depth+3*k+5<recursionLimit
 un:A.units+16*k+200<cLine
 gd:A.guards=some []
theorem Room.mono {j k:Nat}{A:Around}(r:Room k A) (h:j<=k):Room j A:=⟨r.hd,by have:=r.dp;omega,by have:=r.un;omega,r.gd⟩
theorem Room.deeper {k:Nat}{A:Around}(r:Room (k+1) A) (env:Env):Room k (A.deeper env):=
 ⟨r.hd,by have:=r.dp;show A.depth+1+3*k+5<_;omega,by have:=r.un;show A.units+3+16*k+200<_;omega,r.gd⟩
theorem Room.depth {k:Nat}{A:Around}(r:Room k A):A.depth<recursionLimit:=by have:=r.dp;omega
theorem Room.units {k:Nat}{A:Around}(r:Room k A):A.units+64<cLine:=by have:=r.un;omega
def tNil:TA:=λ_ H Q=>Q [] H
def tCons (ta:TE) (tr:TA):TA:=λσ H Q=>ta σ H λx H1=>tr σ H1 λxs H2=>Q (x::xs) H2
section
variable {X:Cx}{e:Expr}{es:List Expr}{te:TE}{t:TA}{pos:Pos}
theorem Zad:PA X [] tNil:=λ_ _ _ _ H Q I h=>Calls.spliced_nil ⟨[],H,I,.nil,h⟩
theorem Zaa (ha:PE X e te) (hr:PA X es t) (hs:starEach (e::es) X.env=(false,eval e X.env)::starEach es X.env:=by rfl):PA X (e::es) (tCons te t):=by
 intro pos pins s σ H Q I h;rw[hs];show wpAny _ _ (spliced ((false,eval e X.env)::backTo pos (starEach es X.env))) _ _ s;refine Calls.spliced_cons (thn (ha pins s σ H _ I h) λu s1 ⟨x,H1,I1,r1,q1⟩=>?_);exact thn (hr pos pins s1 σ H1 _ I1 q1) λus s2 ⟨xs,H2,I2,r2,q2⟩=>⟨x::xs,H2,I2,.cons r1 r2,q2⟩
def tTup (t:TA):TE:=λσ H Q=>t σ H λxs H1=>xs.length<=sizeLine/\∀p,H1 p=none->Q (.ref p) (upd H1 p (.tup xs))
def tLst (t:TA):TE:=λσ H Q=>t σ H λxs H1=>xs.length<=sizeLine/\∀p,H1 p=none->Q (.ref p) (upd H1 p (.lst xs))
theorem Zb8 {x1} (h:PA X es t):PE X (.Tuple es x1 pos) (tTup t):=by
 intro pins s σ H Q I hq;refine wpAny_Tuple_spliced (thn (h pos pins s σ H _ I hq) λus s1 ⟨xs,H1,I1,r,z,q⟩=>⟨by rw[<- r.length];exact z,?_⟩);have hf:H1 s1.heap.objs.size=none:=I1.hok.fresh<|Wak _;refine⟨.ref s1.heap.objs.size,upd H1 s1.heap.objs.size (.tup xs),I1.laid (t':=s1.toks) (λb u e=>Waf _ e) (Wak _) ?_,rfl,q _ hf⟩;exact⟨z,us,r,⟨_,Wax _ rfl,⟨rfl,_,rfl⟩,rfl⟩⟩
theorem Zg3 (h:PA X es t):PE X (.List es pos) (tLst t):=by
 intro pins s σ H Q I hq;refine wpAny_List_spliced (thn (h pos pins s σ H _ I hq) λus s1 ⟨xs,H1,I1,r,z,q⟩=>⟨by rw[<- r.length];exact z,?_⟩);have hf:H1 s1.heap.objs.size=none:=I1.hok.fresh<|Wak _;refine⟨.ref s1.heap.objs.size,upd H1 s1.heap.objs.size (.lst xs),I1.laid (t':=s1.toks) (λb u e=>Waf _ e) (Wak _) ?_,rfl,q _ hf⟩;exact⟨z,us,0,r,Wax _ rfl⟩
end
abbrev Sp:=List V->Hp->VK->XK->Prop
abbrev CXT:=List Env->Hp->Shared->XK->Value->Shared->Prop
structure Env0 (P:Program) (w:World) (K:W.Frag) (mg:Str->Option Value) (base:Heap) (A:Around) (outer:List Env) (s:Shared) (H:Hp):Prop where
 frames:A.frames=some outer
 mod:Mod K mg base
 bs:∀b o,base.get? b=some o->s.heap.get? b=some o/\H b=none
 bsz:base.objs.size<=s.heap.objs.size
 funs:s.heap.FunFrames base outer
 frf:∀b∈frs outer,H b=none
 hok:HOk P w H s.heap
 bare:AllBare s.gens
def CE (outer:List Env) (P:Program) (w:World) (H:Hp) (s:Shared) (Q:VK) (u:Value) (s':Shared):Prop:=
 ∃v H',s'.os=s.os/\AllBare s'.gens/\Un (frs outer) [] H H' s.heap s'.heap/\HOk P w H' s'.heap/\RelV v u/\Q v H'
def CR (CX:CXT) (outer:List Env) (P:Program) (w:World) (H:Hp) (s:Shared) (Q:VK) (E:XK) (r:Result) (s':Shared):Prop:=
 match r with
 |.ok (.ret u)=>CE outer P w H s Q u s'
 |.ok _=>False
 |.error e=>CX outer H s E e s'
structure FnOk (P:Program) (w:World) (K:W.Frag) (mg:Str->Option Value) (base:Heap) (CX:CXT) (k:Nat) (f:Addr) (fd:FuncData) (ps:List Str) (sp:Sp):Prop where
 len:∀vs H Q E,sp vs H Q E->vs.length=ps.length
 run:∀(A:Around) (outer:List Env) (s:Shared) (H:Hp) (args:Args) (us:List Value) (vs:List V) (Q:VK) (E:XK),Room k A->Env0 P w K mg base A outer s H->BindsTo s fd args (ps.zip us)->Vals vs us->sp vs H Q E →
  codeAny (model P w) A (.call (.ref f) args) (CR CX outer P w H s Q E) s
theorem FnOk.imp {P:Program}{w:World}{K:W.Frag}{mg:Str->Option Value}{base:Heap}{CX:CXT}{k:Nat}{f:Addr}{fd:FuncData}{ps:List Str}{sp sp':Sp}(F:FnOk P w K mg base CX k f fd ps sp)
  (h:∀vs H Q E,sp' vs H Q E->sp vs H Q E):FnOk P w K mg base CX k f fd ps sp':=
 ⟨λvs H Q E q=>F.len vs H Q E<|h _ _ _ _ q,λA outer s H args us vs Q E hr he hb hv hs=>F.run A outer s H args us vs Q E hr he hb hv<|h _ _ _ _ hs⟩
section
variable {X:Cx}{pins:List (Addr × Obj)}{σ:St}{H:Hp}{s s':Shared}
theorem Inv.env0 (I:Inv X pins σ H s):Env0 X.prog X.w X.K X.mg X.base X.A X.stack s H:=
 ⟨I.ok.frames,I.ok.mod,I.bs,Wbz I.ok.bsz I.sz,I.stack,I.stkFree,I.hok,I.bare⟩
theorem Inv.after {Q:VK}{u:Value}(I:Inv X pins σ H s) (h:CE X.stack X.prog X.w H s Q u s'):EP X pins σ Q u s':=by
 obtain⟨v,H',os,bare,un,hok,r,q⟩:=h;obtain⟨hh,g,d,t,os'⟩:=s';obtain rfl:os'=s.os:=os;exact⟨v,H',I.call (h':=hh) (g':=g) (d':=d) (t':=t) (ch:=[]) un hok bare (λb z=>absurd z<|by simp),r,q⟩
end
def tCall (sp:Sp) (dvs:List V) (E:XK) (t:TA):TE:=λσ H Q=>t σ H λvs H1=>sp (vs++dvs) H1 Q E
def Binds (K:W.Frag) (fd:FuncData) (ps:List Str) (ds:List Value):Prop:=
 ∀(s:Shared) (us:List Value),K.In s.heap->(us++ds).length=ps.length->BindsTo s fd ⟨us,[]⟩ (ps.zip<|us++ds)
theorem Binds.all {K:W.Frag}{fd:FuncData}{ps:List Str}(h:∀us:List Value,us.length=ps.length->bindArgs fd ⟨us,[]⟩=pure (ps.zip us)):Binds K fd ps []:=λs us _ hl=>by
 rw[Wa4]at hl ⊢;exact .of_eq<|h us hl
def Passes (CX:CXT) (X:Cx) (E:XK):Prop:=∀(pins:List (Addr × Obj)) (σ:St) (H:Hp) (s:Shared) (e:Value) (s':Shared),Inv X pins σ H s->CX X.stack H s E e s' -> X.xe e s'
section
variable {X:Cx}{CX:CXT}{k:Nat}{f C:Addr}{fd:FuncData}{ps:List Str}{sp:Sp}{dvs:List V}{ds:List Value}{E:XK}{x m:Str}{p pos apos:Pos}{e o:Expr}{es:List Expr}{ta:TE}{t:TA}
theorem Zyw {pins:List (Addr × Obj)}{σ:St}{H:Hp}{s:Shared}{Q:VK}{us:List Value}{vs:List V}(F:FnOk X.prog X.w X.K X.mg X.base CX k f fd ps sp) (hr:Room k X.A) (hb:Binds X.K fd ps ds) (hd:Vals dvs ds) (hx:Passes CX X E)
  (I:Inv X pins σ H s) (r:Vals vs us) (h:sp (vs++dvs) H Q E):wpAny (model X.prog X.w) X.A (call (.ref f) us) (EP X pins σ Q) X.xe s:=by
 have r2:Vals (vs++dvs) (us++ds):=r.append hd;have hl:(us++ds).length=ps.length:=by rw[<- r2.length];exact F.len _ _ _ _ h
 refine wpAny_call (codeAny_mono (F.run X.A X.stack s H ⟨us,[]⟩ (us++ds) (vs++dvs) Q E hr I.env0 (hb s us I.kIn hl) r2 h) λr s' hq=>?_);cases r with
 |error e=>exact hx pins σ H s e s' I hq
 |ok fl=>
  cases fl with
  |ret u=>exact I.after hq
  |next=>exact False.elim hq
  |brk=>exact False.elim hq
  |cont=>exact False.elim hq
theorem Zvd (F:FnOk X.prog X.w X.K X.mg X.base CX k f fd ps sp) (hr:Room k X.A) (hg:Gl X x) (hm:X.mg x=some (.ref f)) (hk:W.keepIn X.K (.ref f)=true) (hb:Binds X.K fd ps ds) (hd:Vals dvs ds) (hx:Passes CX X E)
  (ha:PA X (e::es) t) (hdb:(x == ("__debug__":Str))=false:=by decide) (he:starEach (e::es) X.env=(false,eval e X.env)::starEach es X.env:=by rfl) (hpl:(backTo pos<|starEach es X.env).any (·.1)=false:=by rfl) :
  PE X (.Call (.Name x p) (e::es) [] pos) (tCall sp dvs E t):=by
 intro pins s σ H Q I h;refine wpAny_Call_Name_kw<|Zpw I hg hm ?_ hdb;refine PySem.W.callWith_K (h₀:=X.base) I.ok.mod.kin hk (thn (ha pos pins s σ H _ I h) λus s1 ⟨vs,H1,I1,r,q⟩=>⟨I1.kIn,?_⟩) he hpl;exact Zyw F hr hb hd hx I1 r q
end
section
variable {X:Cx}{CX:CXT}{k:Nat}{f C:Addr}{fd:FuncData}{ps ks:List Str}{sp:Sp}{E:XK}{x m:Str}{p pos apos kpos:Pos}{e o:Expr}{es:List Expr}{kws:List Keyword}{te ta:TE}{t tk:TA}{nm:Option Str}
variable {g:List Value->List Value->List Value}{gV:List V->List V->List V}
end
structure FnScope (N P:List Str) (sc:Scope):Prop where
 kind:sc.kind=.function
 co:sc.isCoroutine=false
 gen:sc.isGenerator=false
 nd:N.Nodup
 pre:N.take P.length=P
 par:∀x∈P,sc.names.lookup x=some .local\/sc.names.lookup x=some .cell
 nofree:∀y∈sc.names,y.2≠.free
theorem Zkr {kindOf:Str->Option NameKind}{x:Str}:∀{binds:List (Str × Value)}{m:Str->Option Value},(∀v,(x,v) ∉ binds)->bindL kindOf binds m x=m x
 |[],_,_=>rfl
 | (n,v)::r,m,h=>by
  unfold bindL;rw[Zkr λw hw=>h w (Wau _ hw)];split
  ·have:x≠n:=by rintro rfl;exact h v Wam
   simp[this]
  ·rfl
theorem Zlf {kindOf:Str->Option NameKind}{x:Str}:∀{binds:List (Str × Value)}{m:Str->Option Value},(∀v,(x,v) ∉ binds)->bindC kindOf binds m x=m x
 |[],_,_=>rfl
 | (n,v)::r,m,h=>by
  unfold bindC;rw[Zlf λw hw=>h w (Wau _ hw)];split
  ·rfl
  ·have:x≠n:=by rintro rfl;exact h v Wam
   simp[this]
theorem Zle {kindOf:Str->Option NameKind}{x:Str}{v:Value}:∀{P:List Str}{vs:List Value}{i:Nat}{m:Str->Option Value},P.Nodup->P[i]?=some x->vs[i]?=some v->kindOf x=some .local →
  bindL kindOf (P.zip vs) m x=some v
 |[],_,_,_,_,h,_,_=>by simp at h
 |_::_,[],_,_,_,_,h,_=>by simp at h
 |p::P,w::vs,0,m,nd,h1,h2,hk=>by
  simp at h1 h2;subst h1;subst h2;show bindL kindOf ((p,w)::P.zip vs) m p=_;unfold bindL;rw[Zkr λv hv=>(Wbf.mp nd).1 (List.of_mem_zip hv).1,if_pos hk];simp
 |p::P,w::vs,i+1,m,nd,h1,h2,hk=>by
  show bindL kindOf ((p,w)::P.zip vs) m x=_;unfold bindL;exact Zle (i:=i) (Wbf.mp nd).2 (by simpa using h1) (by simpa using h2) hk
theorem Zlc {kindOf:Str->Option NameKind}{x:Str}{v:Value}:∀{P:List Str}{vs:List Value}{i:Nat}{m:Str->Option Value},P.Nodup->P[i]?=some x->vs[i]?=some v->kindOf x≠some .local →
  bindC kindOf (P.zip vs) m x=some v
 |[],_,_,_,_,h,_,_=>by simp at h
 |_::_,[],_,_,_,_,h,_=>by simp at h
 |p::P,w::vs,0,m,nd,h1,h2,hk=>by
  simp at h1 h2;subst h1;subst h2;show bindC kindOf ((p,w)::P.zip vs) m p=_;unfold bindC;rw[Zlf λv hv=>(Wbf.mp nd).1 (List.of_mem_zip hv).1,if_neg hk];simp
 |p::P,w::vs,i+1,m,nd,h1,h2,hk=>by
  show bindC kindOf ((p,w)::P.zip vs) m x=_;unfold bindC;exact Zlc (i:=i) (Wbf.mp nd).2 (by simpa using h1) (by simpa using h2) hk
def start (N:List Str) (vs:List V):St:=vs.map some++Wal (N.length-vs.length) none
def cxOf (CX:CXT) (P:Program) (w:World) (K:W.Frag) (mg:Str->Option Value) (base:Heap) (N:List Str) (qual:Str) (scope:Scope) (f:Addr) (cd:Value) (A:Around) (outer:List Env) (s:Shared) (H:Hp) (E:XK):Cx where
 prog:=P
 w:=w
 K:=K
 mg:=mg
 base:=base
 A:=A.deeper<|envOfC qual scope s.heap.objs.size f cd
 N:=N
 s₀:=s
 H₀:=H
 env:=envOfC qual scope s.heap.objs.size f cd
 outer:=outer
 stack:=envOfC qual scope s.heap.objs.size f cd::outer
 ex:=[]
 calm:=true
 fn:=λ_=>true
 pn:=[]
 xe:=λe s'=>wpAny (model P w) (A.deeper<|envOfC qual scope s.heap.objs.size f cd) (leaving (envOfC qual scope s.heap.objs.size f cd) e) (λ_ s''=>CX outer H s E e s'') (λe' s''=>CX outer H s E e' s'') s'
theorem Zm9 {sc:Scope}{n:Nat}{x:Str}(h:sc.names.lookup x=some .cell):∃c,(cellsFrom n sc.names []).lookup x=some c:=by
 have q:=PySem.W.cellsFrom_some sc.names n [] (.inl h);exact Option.isSome_iff_exists.mp q
theorem Zpk {CX:CXT}{P:Program}{w:World}{K:W.Frag}{mg:Str->Option Value}{base:Heap}{N ps:List Str}{qual:Str}{scope:Scope}{f:Addr}{cd:Value}{A:Around}{outer:List Env}{s s1:Shared}{H:Hp}{E:XK}{us:List Value}{vs:List V}
  (S:FnScope N ps scope) (hd:A.handled=none) (e0:Env0 P w K mg base A outer s H) (hl:vs.length=ps.length) (r:Vals vs us)
  (x:InCallC s s.heap.objs.size (bindL (envOfC qual scope s.heap.objs.size f cd).kindOf (ps.zip us) λ_=>none) (cellsFrom (s.heap.objs.size+1) scope.names []) (bindC (envOfC qual scope s.heap.objs.size f cd).kindOf (ps.zip us) λ_=>none) s1) :
  Inv (cxOf CX P w K mg base N qual scope f cd A outer s H E) [] (start N vs) H s1:=by
 have hpl:ps.length<=N.length:=by have:=congrArg Wa6 S.pre;rw[Wa5]at this;omega
 obtain⟨h1,tk,rfl,hk⟩:=x.done;have noA:∀b:Addr,b ∉ (cxOf CX P w K mg base N qual scope f cd A outer s H E).ex:=λb z=>absurd (show b∈([]:List Addr) from z) (by simp);refine⟨⟨e0.mod,S.kind,rfl,rfl,Wak _,λy z c h1 h2=>?_,λy hy=>?_,λy c _ h=>?_,λ_=>hd,Around.frames_deeper e0.frames,.inr ⟨rfl,rfl⟩,λb z=>absurd z (noA b),e0.bs,e0.bsz,λb _ _=>noA b,λb z=>absurd z (noA b),e0.funs,e0.frf⟩,
  rfl,e0.bare,Un.kept hk,⟨_,x.toInCall.ns,λi y v h1 h2 h3=>?_⟩,λy c h=>⟨_,x.cell y c h⟩,e0.hok.fresh (Wak _),λy c h=>?_,λp hp=>absurd (show p∈([]:List (Addr × Obj)) from hp) (by simp),e0.hok.kept hk,?_⟩
 ·exact name_of_addr x.apart (PySem.mem_of_lookup h1)<|PySem.mem_of_lookup h2
 ·have hy:scope.names.lookup y=some .cell\/scope.names.lookup y=some .free:=hy
  rcases hy with hy|hy
  ·exact Zm9 hy
  ·exact absurd rfl<|S.nofree _<|PySem.mem_of_lookup hy
 ·exact Wb0<|x.above y c<|PySem.mem_of_lookup h
 ·have hi:i<vs.length:=by
   unfold start at h2;by_cases hi:i<vs.length
   ·exact hi
   ·rw[Wa1 (by simpa using hi)]at h2
    rw[Wc2]at h2;split at h2 <;> cases h2
  have ha:vs[i]?=some v:=by
   unfold start at h2;rw[Wbc (by simpa using hi),Wad]at h2;cases e:vs[i]? with
   |none=>rw[e]at h2;cases h2
   |some a=>rw[e]at h2;cases h2;rfl
  obtain⟨u,hu,rv⟩:=r.get ha;have hp:ps[i]?=some y:=by
   rw[<- S.pre,Wd3 (by omega)];exact h1
  have ndP:ps.Nodup:=by rw[<- S.pre];exact S.nd.sublist<|List.take_sublist _ _
  refine⟨u,rv,?_⟩;rcases S.par y (Way hp) with k|k
  ·exact .inl ⟨k,Zle ndP hp hu k⟩
  ·obtain⟨c,e⟩:=Zm9 (n:=s.heap.objs.size+1) k
   refine .inr ⟨.inl k,c,e,?_⟩;have q:=x.cell y c e;rw[Zlc ndP hp hu (by show scope.names.lookup y≠_;rw[k];decide)]at q;exact q
 ·exact e0.hok.fresh<|Wb0<|x.above y c<|PySem.mem_of_lookup h
 ·unfold start
  show _=N.length;rw[Wan,Wab,Wa8];omega
theorem Zzg {CX:CXT}{P:Program}{w:World}{K:W.Frag}{mg:Str->Option Value}{base:Heap}{k:Nat}{f:Addr}{name qual:Str}{params:Arguments}{body:List Stmt}{scope:Scope}{dV kV doc pm cdv ct oc:Value}{an od:Option Addr}
  {osl:Array (Option Value)}{N ps:List Str}{sp:Sp}(lk:K.lookup f=some ⟨oc,od,.func<|W.fnOf name qual params body scope dV kV doc pm an cdv ct,osl⟩) (hcd:W.codeIn K cdv qual=true) (S:FnScope N ps scope)
  (len:∀vs H Q E,sp vs H Q E->vs.length=ps.length)
  (hbody:∀(A:Around) (outer:List Env) (s:Shared) (H:Hp) (vs:List V) (Q:VK) (E:XK),Room k (A.deeper (envOfC qual scope s.heap.objs.size f cdv))->sp vs H Q E →
   ∃t,PSs (cxOf CX P w K mg base N qual scope f cdv A outer s H E) body t/\t { nx:=λ_ H'=>Q .non H',rt:=Q } (start N vs) H) :
  FnOk P w K mg base CX (k+1) f (W.fnOf name qual params body scope dV kV doc pm an cdv ct) ps sp:=by
 refine⟨len,λA outer s H args us vs Q E hr e0 hb r hsp=>?_⟩;have hl:=len _ _ _ _ hsp;have KX:K.In s.heap:=e0.mod.kin.keeps λb o e=>(e0.bs b o e).1;have lim:s.heap.NoLimit:=e0.mod.nolimit.keeps λb o e=>(e0.bs b o e).1;have hkind:∀y∈ps.zip us,scope.names.lookup y.1=some .local\/(scope.names.lookup y.1=some .cell/\((cellsFrom (s.heap.objs.size+1) scope.names []).lookup y.1).isSome=true):=λ⟨n,v⟩ hy=>by
  rcases S.par n (List.of_mem_zip hy).1 with q|q
  ·exact .inl q
  ·exact .inr ⟨q,PySem.W.cellsFrom_some _ _ _ (.inl q)⟩
 refine codeAny_call_function hr.depth (KX _ _ lk) rfl S.co S.gen rfl (PySem.W.codeRec_of KX hcd)<|hb _ _ _ _ ?_;refine wpAny_newFunctionEnv_cells S.kind hkind λenv he s1 x=>?_;subst he;refine⟨lim.keeps x.toInCall.keep,codeAny_func ?_⟩;obtain⟨t,ht,hq⟩:=hbody A outer s H vs Q E (hr.deeper _) hsp;have I:Inv (cxOf CX P w K mg base N qual scope f cdv A outer s H E) [] (start N vs) H s1:=Zpk S hr.hd e0 hl r x;refine wpAny_mono (ht [] s1 (start N vs) H _ I hq) (λfl s' hs=>?_) λe s' hs=>hs;have fin:∀{σ':St}{H':Hp}{v:V}{u:Value},Inv (cxOf CX P w K mg base N qual scope f cdv A outer s H E) [] σ' H' s' -> RelV v u->Q v H' -> CE outer P w H s Q u s':=
  λ{σ' H' v u} J rv q=>⟨v,H',J.os,J.bare,J.base,J.hok,rv,q⟩
 cases fl with
 |ret u=>
  obtain⟨v,σ',H',J,rv,q⟩:=hs;exact fin J rv q
 |next=>
  obtain⟨σ',H',J,q⟩:=hs;exact fin (v:=V.non) (u:=Value.none) J rfl q
 |brk=>
  obtain⟨_,_,_,q⟩:=hs;exact False.elim q
 |cont=>
  obtain⟨_,_,_,q⟩:=hs;exact False.elim q
end L2
namespace L2
open PySem PySem.Spec PyProof.Rows
section
variable {X:Cx}{x:Str}{p pos:Pos}{e:Expr}{es:List Expr}{t:TA}{id T:String}{r:List V->Hp->VK->Prop}
def tCB (r:List V->Hp->VK->Prop) (t:TA):TE:=λσ H Q=>t σ H λvs H1=>r vs H1 Q
theorem Zai (hc:CallR X (.builtin id) r) (hg:Gl X x) (hm:X.mg x=none) (hv:bootBuiltins x=some (.builtin id)) (ha:PA X (e::es) t) (hn:x ≠ "__name__":=by decide) (hdb:(x == ("__debug__":Str))=false:=by decide)
  (he:starEach (e::es) X.env=(false,eval e X.env)::starEach es X.env:=by rfl) (hpl:(backTo pos<|starEach es X.env).any (·.1)=false:=by rfl):PE X (.Call (.Name x p) (e::es) [] pos) (tCB r t):=by
 intro pins s σ H Q I h;refine wpAny_Call_Name_kw<|Zgc I hg hm hv ?_ hn hdb;exact PyProof.Rows.callWith_builtin1 (thn (ha pos pins s σ H _ I h) λus s1 ⟨vs,H1,I1,r1,q1⟩=>hc pins s1 σ H1 vs us Q I1 r1 q1) he hpl
theorem Zbj (hc:CallR X (.type T) r) (hg:Gl X x) (hm:X.mg x=none) (hv:bootBuiltins x=some (.type T)) (ha:PA X (e::es) t) (hn:x ≠ "__name__":=by decide) (hdb:(x == ("__debug__":Str))=false:=by decide)
  (he:starEach (e::es) X.env=(false,eval e X.env)::starEach es X.env:=by rfl) (hpl:(backTo pos<|starEach es X.env).any (·.1)=false:=by rfl):PE X (.Call (.Name x p) (e::es) [] pos) (tCB r t):=by
 intro pins s σ H Q I h;refine wpAny_Call_Name_kw<|Zgc I hg hm hv ?_ hn hdb;exact PyProof.Rows.callWith_type1 (thn (ha pos pins s σ H _ I h) λus s1 ⟨vs,H1,I1,r1,q1⟩=>hc pins s1 σ H1 vs us Q I1 r1 q1) he hpl
theorem Znt (hc:CallR X (.type T) r) (hg:Gl X x) (hm:X.mg x=none) (hv:bootBuiltins x=some (.type T)) (hn:x ≠ "__name__":=by decide) (hdb:(x == ("__debug__":Str))=false:=by decide) :
  PE X (.Call (.Name x p) [] [] pos) (tCB r tNil):=by
 intro pins s σ H Q I h;refine wpAny_Call_Name_kw<|Zgc I hg hm hv ?_ hn hdb;exact PyProof.Rows.callWith_type0<|hc pins s σ H [] [] Q I .nil h
end
end L2
namespace HT
open PySem PyProof.Rows
def lexLt:List Int->List Int->Bool
 |[],[]=>false
 |[],_::_=>true
 |_::_,[]=>false
 |x::xs,y::ys=>if x=y then lexLt xs ys else decide (x<y)
theorem Zom (x y:Int) (xs ys:List Int):lexLt (x::xs) (y::ys)=if x=y then lexLt xs ys else decide (x<y):=rfl
theorem Zjm:lexLt [] []=false:=rfl
theorem Zij (y:Int) (ys:List Int):lexLt [] (y::ys)=true:=rfl
theorem Zil (x:Int) (xs:List Int):lexLt (x::xs) []=false:=rfl
theorem Zsh (A:Around) (s:Shared) (a:Int) (t:Tok) (c:Int) (u:Tok):∃e,SeqAt.EqAt A s (.int a t) (.int c u) e/\(e=true↔a=c):=
 ⟨(a == c),SeqAt.EqAt.int_int a t c u,by simp⟩
theorem Zs6 (A:Around) (s:Shared) (a:Int) (t:Tok) (c:Int) (u:Tok) (prog:Program) (w:World) (E:Value->Shared->Prop) (Q:Value->Shared->Prop) (h:Q (.bool<|decide (a<c)) s) :
  wpAny (model prog w) A (richCompare .Lt (.int a t) (.int c u)) Q E s:=
 (PyProof.Rows.lt_int h:wpAny (model prog w) A (compareOp .Lt (.int a t) (.int c u)) Q E s)
section
open PySem.SeqAt
open PySem.AutoSeq1 (wpAny_loadPart')
open PySem.MeetsSeq PySem.MeetsSeq2 PySem.MeetsSeq3
theorem tuple_lt_ints (l b:Addr) (items items2:Array Value) (n n2:Nat) (dd dd2:Option Addr) (sl sl2:Array (Option Value)) (ns ms:List Int) (hi:IntsAre items.toList ns) (hj:IntsAre items2.toList ms) :
  Meets (Builtin.«tuple.__lt__» ⟨[.ref l,.ref b],[]⟩)
   (λ_ R s=>s.heap.get? l=some { cls:=.type "tuple",dict:=dd,data:=.seq items n,slots:=sl } /\ s.heap.get? b=some { cls:=.type "tuple",dict:=dd2,data:=.seq items2 n2,slots:=sl2 } ∧
    R (.ok (.ret (.bool (lexLt ns ms)))) s):=
 .of_wp λprog w A R s h=>by
  obtain⟨hp,g,d,tk,os⟩:=s;obtain⟨hl,hb,h⟩:=h;have f2:=AutoSeq1.sub_tuple_tuple;have z1:items.size=ns.length:=by rw[<- hi.length];simp
  have z2:items2.size=ms.length:=by rw[<- hj.length];simp
  wp_walk using wpAny_loadPart' hl,wpAny_loadPart' hb,wpAny_forIn_list _ (λrest b s'=>b.1=none/\s'=⟨hp,g,d,tk,os⟩ /\ ∃(vs ws:List Value) (ns' ms':List Int),rest=vs.zip ws ∧
   IntsAre vs ns' /\ IntsAre ws ms' /\ ns'.length+items2.size=ms'.length+items.size/\R (.ok (.ret (.bool (lexLt ns' ms')))) ⟨hp,g,d,tk,os⟩) _
  case turn=>
   rintro⟨y,x⟩ rest b s' ⟨hb',rfl,vs,ws,ns',ms',hz,hvi,hwi,hlen,hR⟩;cases hvi with
   |nil=>rw[List.zip_nil_left]at hz;cases hz
   |cons a t hvi'=>
    cases hwi with
    |nil=>rw[List.zip_nil_right]at hz;cases hz
    |cons c u hwi'=>
     rw[Wc9]at hz;injection hz with hyx hrest
     injection hyx with hy hx
     subst hy hx;rw[Zom]at hR;simp only[Wat]at hlen;obtain⟨e,he,hiff⟩:=Zsh A.in1 ⟨hp,g,d,tk,os⟩ a t c u;refine wpAny_bind<|he prog w _ _ ?_;cases e with
     |true=>
      rw[if_pos (hiff.mp rfl)]at hR
      wp_walk
      exact⟨rfl,rfl,_,_,_,_,hrest,hvi',hwi',by omega,hR⟩
     |false=>
      rw[if_neg (λq=>absurd (hiff.mpr q) Wag)]at hR;have hri:=Zs6 A.in1 ⟨hp,g,d,tk,os⟩ a t c u prog w
      wp_walk using hri
      exact⟨_,rfl,by simpa using hR⟩
  case fin=>
   rintro⟨b1,b2⟩ s' ⟨hb',rfl,vs,ws,ns',ms',hz,hvi,hwi,hlen,hR⟩;simp only at hb';subst hb';have hv:lexLt ns' ms'=decide (items.size<items2.size):=by
    cases hvi with
    |nil=>
     cases hwi with
     |nil=>
      simp only[Wdd]at hlen;rw[Zjm];exact(decide_eq_false<|by omega).symm
     |cons c u hw=>
      simp only[Wdd,Wat]at hlen;rw[Zij];exact(decide_eq_true<|by omega).symm
    |cons a t hv=>
     cases hwi with
     |nil=>
      simp only[Wdd,Wat]at hlen;rw[Zil];exact(decide_eq_false<|by omega).symm
     |cons c u hw=>
      rw[Wc9]at hz;cases hz
   rw[hv]at hR
   wp_walk
   exact⟨_,rfl,by simpa [Builtin.Tuple.tupleCompareSizes] using hR⟩
  case h=>
   exact⟨rfl,rfl,items.toList,items2.toList,ns,ms,rfl,hi,hj,by omega,h⟩
end
section
variable {prog:Program}{w:World}{A:Around}{E:Value->Shared->Prop}{s:Shared}
theorem cat_tup {t b:Addr}{vs ws:List Value}{Q:Value->Shared->Prop}(ht:IsTup s.heap t vs.toArray) (hb:IsTup s.heap b ws.toArray) (hv:vs≠[])
  (h1:ws=[]->Q (.ref t) s) (h2:ws≠[]->Q (.ref s.heap.objs.size) { s with heap:=s.heap.push { cls:=.type "tuple",data:=.seq (vs++ws).toArray } })
  (hsz:vs.length+ws.length<=sizeLine):wpAny (model prog w) A (binaryOp .Add (.ref t) (.ref b)) Q E s:=by
 obtain⟨⟨cls,dd,data,sl⟩,ho,hc,n,hd⟩:=id ht;obtain⟨⟨cls2,dd2,data2,sl2⟩,ho2,hc2,n2,hd2⟩:=id hb;simp only at hc hd hc2 hd2;subst hc hd hc2 hd2;have e:vs.toArray++ws.toArray=(vs++ws).toArray:=by simp
 by_cases hw:ws=[]
 ·exact concat_meets ⟨_,ho,rfl⟩ ⟨_,ho2,rfl⟩ noFill_tuple_add seq_tuple_add PySem.F.slot_tuple_add PySem.F.entry_tuple_add (PySem.F.args_tuple_add_2 _ _)
   (tuple_addW1 t b vs.toArray ws.toArray n n2 dd dd2 sl sl2 (by simpa using hv) (by simp[hw])) ⟨ho,ho2,h1 hw⟩
 ·refine concat_meets ⟨_,ho,rfl⟩ ⟨_,ho2,rfl⟩ noFill_tuple_add seq_tuple_add PySem.F.slot_tuple_add PySem.F.entry_tuple_add (PySem.F.args_tuple_add_2 _ _)
   (tuple_addW2 t b vs.toArray ws.toArray n n2 dd dd2 sl sl2 (by simpa using hv) (by simpa using hw) (by rw[Waj,Waj];exact hsz)) ⟨ho,ho2,?_⟩
  rw[e];exact h2 hw
def sIx (n d:Nat):Option Int->Nat
 |none=>d
 |some v=>if v<0 then (v+(n:Int)).toNat else min v.toNat n
theorem sIx_none (n d:Nat):sIx n d none=d:=rfl
theorem sIx_nat (n d k:Nat):sIx n d (some (k:Int))=min k n:=by
 show (if (k:Int)<0 then ((k:Int)+(n:Int)).toNat else min (k:Int).toNat n)=min k n;rw[if_neg (by omega),Wae]
theorem Zw5 (n d:Nat) (hd:d<=n) (o:Option Int):sIx n d o<=n:=by
 cases o with
 |none=>exact hd
 |some v=>
  show (if v<0 then (v+(n:Int)).toNat else min v.toNat n)<=n;by_cases hv:v<0
  ·rw[if_pos hv];omega
  ·rw[if_neg hv];exact Nat.min_le_right _ _
theorem Zrh (v:Int) (n d:Nat):(if v<0 then max (v+(n:Int)) 0 else min v (n:Int))=((sIx n d (some v):Nat):Int):=by
 show (if v<0 then max (v+(n:Int)) 0 else min v (n:Int))=(((if v<0 then (v+(n:Int)).toNat else min v.toNat n):Nat):Int);by_cases hv:v<0
 ·simp only[if_pos hv];omega
 ·simp only[if_neg hv];omega
theorem Zn6 (lo hi:Option Int) (n:Nat):Builtin.Slice.sliceAdjust lo hi 1 (n:Int)=(((sIx n 0 lo:Nat):Int),((sIx n n hi:Nat):Int)):=by
 have h1:¬ ((1:Int)<0):=by omega
 unfold Builtin.Slice.sliceAdjust;simp only[h1,if_false];refine Prod.ext ?_ ?_
 ·cases lo with
  |none=>rfl
  |some v=>exact Zrh v n 0
 ·cases hi with
  |none=>rfl
  |some v=>exact Zrh v n n
theorem Zos (i j:Nat):Builtin.Slice.slicePlaces (i:Int) (j:Int) 1=j-i:=by
 unfold Builtin.Slice.slicePlaces;have h1:(1:Int) > 0:=by omega
 simp only[h1,if_true,Int.ediv_one];split <;> omega
theorem Ziv {v:Value}{o:Option Int}{Q:Option Int->Shared->Prop}(p:IsPart v o) (h:Q o s):wpAny (model prog w) A (Builtin.Slice.slicePartIndex v) Q E s:=by
 cases p with
 |none=>exact slicePart_none h
 |int i t=>exact slicePart_int h
theorem Zex {sl:Addr}{vl vu:Value}{lo hi:Option Int}{n:Nat}{Q:Int × Int × Nat->Shared->Prop}(hs:s.heap.IsSliceOf sl vl vu .none) (pl:IsPart vl lo) (pu:IsPart vu hi)
  (h:Q (((sIx n 0 lo:Nat):Int),1,sIx n n hi-sIx n 0 lo) s):wpAny (model prog w) A (Builtin.Slice.sliceApplied (.ref sl)<|pure (n:Int)) Q E s:=by
 obtain⟨os,hos,hcs,hds⟩:=id hs;unfold Builtin.Slice.sliceApplied Builtin.Slice.sliceFields;refine wpAny_bind<|wpAny_bind<|wpAny_field hos hds (x:=vl) rfl<|wpAny_bind<|wpAny_field hos hds (x:=vu) rfl<|wpAny_bind<|wpAny_field hos hds (x:=.none) rfl<|wpAny_pure ?_;refine wpAny_bind<|slicePart_none ?_;show wpAny _ _ (if ((1:Int) == 0)=true then _ else _) _ _ s;rw[if_neg (by decide)];refine wpAny_bind<|Ziv pl<|wpAny_bind<|Ziv pu<|wpAny_bind<|wpAny_pure ?_;show wpAny _ _ (match Builtin.Slice.sliceAdjust lo hi 1 (n:Int) with|(lo,hi)=>pure (lo,(1:Int),Builtin.Slice.slicePlaces lo hi 1)) _ _ s;rw[Zn6 lo hi n];show wpAny _ _ (pure (((sIx n 0 lo:Nat):Int),(1:Int),Builtin.Slice.slicePlaces ((sIx n 0 lo:Nat):Int) ((sIx n n hi:Nat):Int) 1)) _ _ s;rw[Zos];exact wpAny_pure h
theorem Zsk (xs:Array Value) (i k:Nat):((Wap k).filterMap λ(m:Nat)=>xs[((i:Int)+(m:Int)*1).toNat]?).toArray=((xs.toList.drop i).take k).toArray:=by
 have e:(λ(m:Nat)=>xs[((i:Int)+(m:Int)*1).toNat]?)=λm=>xs[i+m]?:=by
  funext m
  have:((i:Int)+(m:Int)*1).toNat=i+m:=by omega
  rw[this]
 rw[e];have:=pick_run xs i k;rw[List.filterMap_map]at this;have e2:((λx=>xs[x]?)∘λx=>i+x)=λm=>xs[i+m]?:=rfl;rw[e2]at this;rw[this]
theorem getItem_tuple_cut {t sl:Addr}{items:Array Value}{vl vu:Value}{lo hi:Option Int}{Q:Value->Shared->Prop}(ht:IsTup s.heap t items) (hs:s.heap.IsSliceOf sl vl vu .none) (pl:IsPart vl lo) (pu:IsPart vu hi)
  (hw:¬ (sIx items.size 0 lo=0/\sIx items.size items.size hi=items.size))
  (h:Q (.ref s.heap.objs.size) { s with heap:=s.heap.push { cls:=.type "tuple",data:=.seq ((items.toList.drop<|sIx items.size 0 lo).take (sIx items.size items.size hi-sIx items.size 0 lo)).toArray } })
  (hsz:items.size<=sizeLine):wpAny (model prog w) A (getItem (.ref t) (.ref sl)) Q E s:=by
 have htake:sizeOk (.seq ((items.toList.drop<|sIx items.size 0 lo).take (sIx items.size items.size hi-sIx items.size 0 lo)).toArray):=by
  show ((items.toList.drop<|sIx items.size 0 lo).take (sIx items.size items.size hi-sIx items.size 0 lo)).toArray.size<=sizeLine;rw[Waj,Wa5,Wbr,Array.length_toList];omega
 have hj:sIx items.size items.size hi<=items.size:=Zw5 _ _ (Wak _) hi;obtain⟨os,hos,hcs,hds⟩:=id hs;have hTs:s.TypeIs (.ref sl) "slice":=⟨os,hos,hcs⟩;unfold getItem
 try with_reducible refine wpAny_holding ?_
 first|refine wpAny_bind (wpAny_pure ?_)|skip
 refine wpAny_bind (wpAny_sequenceKey ht.typeIs (by decide) ?_);refine wpAny_bind (wpAny_callSpecial?_slot (name:=Str.ofString "__getitem__") ht.typeIs PyProof.Rows.slot_tuple_getitem
  (wpAny_call_entry PyProof.Rows.slot_tuple_getitem ht.typeIs entry_tuple_getitem ?_ (args_tuple_getitem _ _)))
 show wpAny _ _ (Builtin.Tuple.tupleItemsOf (.ref t) >>= _) _ _ s;refine wpAny_bind<|tupleItemsOf_ ht ?_;refine wpAny_bind<|wpAny_typeOf hTs ?_;rw[if_pos (by decide)];refine wpAny_bind<|Zex hs pl pu ?_;have hno:¬ ((((sIx items.size 0 lo:Nat):Int) == 0 && (1:Int) == 1 && (sIx items.size items.size hi-sIx items.size 0 lo) == items.size)=true):=by
  intro q;rw[Wbj,Wbj]at q;have q1:((sIx items.size 0 lo:Nat):Int)=0:=eq_of_beq q.1.1;have q2:sIx items.size items.size hi-sIx items.size 0 lo=items.size:=eq_of_beq q.2;exact hw ⟨by omega,by omega⟩
 show wpAny _ _ (if (((sIx items.size 0 lo:Nat):Int) == 0 && (1:Int) == 1 && (sIx items.size items.size hi-sIx items.size 0 lo) == items.size)=true then _ else _) _ _ s;rw[if_neg hno,Zsk]
 first
  |exact wpAny_bind (m:=Builtin.Tuple.tupleExact _) (wpAny_newObj_type (wpAny_pure ⟨_,rfl,wpAny_pure h⟩) htake)
  |exact wpAny_bind (m:=Builtin.Tuple.tupleExact _) (wpAny_newObj_type (wpAny_bind (wpAny_pure (wpAny_pure ⟨_,rfl,wpAny_pure h⟩))) htake)
  |exact wpAny_bind (wpAny_bind (m:=Builtin.Tuple.tupleExact _) (wpAny_newObj_type (wpAny_pure (wpAny_pure ⟨_,rfl,wpAny_pure h⟩)) htake))
  |exact wpAny_bind (wpAny_bind (m:=Builtin.Tuple.tupleExact _) (wpAny_newObj_type (wpAny_pure ⟨_,rfl,wpAny_pure h⟩) htake))
end
end HT
namespace L2
open PySem PySem.Spec PyProof.Rows
abbrev TO:=St->Hp->(Option Int->Hp->Prop)->Prop
def PO (X:Cx) (e:Option Expr) (t:TO):Prop:=
 ∀(pins:List (Addr × Obj)) (s:Shared) (σ:St) (H:Hp) (Q:Option Int->Hp->Prop),Inv X pins σ H s->t σ H Q →
  wpAny (model X.prog X.w) X.A (evalPart e X.env) (λu s'=>∃o H',Inv X pins σ H' s' /\ IsPart u o/\Q o H') X.xe s
def tNoPart:TO:=λ_ H Q=>Q none H
def tPart (t:TE):TO:=λσ H Q=>t σ H λx H1=>∃i,x=.int i/\Q (some i) H1
theorem Zdi {ns:List Int}:∀{us:List Value},Vals (ns.map V.int) us->IntsAre us ns:=by
 induction ns with
 |nil=>intro us r;rw[List.map_nil]at r;cases r;exact .nil
 |cons n ns ih=>
  intro us r;rw[Wbg]at r;cases r with
  |cons r1 r2=>
   obtain⟨t,e⟩:=r1;subst e;exact .cons n t<|ih r2
section
variable {X:Cx}{e:Expr}{te:TE}{lo hi:Option Expr}{tl th:TO}{pos p2:Pos}
theorem Zch:PO X none tNoPart:=by
 intro pins s σ H Q I h;rw[evalPart_none];exact wpAny_pure ⟨none,H,I,.none,h⟩
theorem Zcj (h:PE X e te):PO X (some e) (tPart te):=by
 intro pins s σ H Q I hw;rw[evalPart_some];refine thn (h pins s σ H _ I hw) λu s1 ⟨x,H1,I1,r1,q1⟩=>?_;obtain⟨i,rfl,q⟩:=q1;obtain⟨t,rfl⟩:=r1;exact⟨some i,H1,I1,.int i t,q⟩
def SlR (X:Cx) (r:V->Option Int->Option Int->Hp->VK->Prop):Prop:=
 ∀(pins:List (Addr × Obj)) (s:Shared) (σ:St) (H:Hp) (x:V) (v vl vu:Value) (lo hi:Option Int) (sl:Addr) (Q:VK),Inv X pins σ H s->RelV x v->s.heap.IsSliceOf sl vl vu .none->IsPart vl lo->IsPart vu hi->r x lo hi H Q →
  ∃T id,typeLookup (.type T) "__getitem__" = pure (some (.builtin id))/\s.TypeIs v T/\wpAny (model X.prog X.w) X.A (getItem v (.ref sl)) (EP X pins σ Q) X.xe s
theorem SlR.or {r r':V->Option Int->Option Int->Hp->VK->Prop}(h:SlR X r) (h':SlR X r'):SlR X (λx lo hi H Q=>r x lo hi H Q\/r' x lo hi H Q):=by
 intro pins s σ H x v vl vu lo hi sl Q I rx hs pl pu q;rcases q with q|q
 ·exact h pins s σ H x v vl vu lo hi sl Q I rx hs pl pu q
 ·exact h' pins s σ H x v vl vu lo hi sl Q I rx hs pl pu q
def tSl (r:V->Option Int->Option Int->Hp->VK->Prop) (te:TE) (tl th:TO):TE:=λσ H Q=>te σ H λx H1=>tl σ H1 λl H2=>th σ H2 λu H3=>r x l u H3 Q
theorem Zbx {r:V->Option Int->Option Int->Hp->VK->Prop}(hr:SlR X r) (he:PE X e te) (hl:PO X lo tl) (hu:PO X hi th):PE X (.Subscript e (.Slice lo hi none p2) pos) (tSl r te tl th):=by
 intro pins s σ H Q I h;refine Subscript_ (thn (he pins s σ H _ I h) λv s1 ⟨x,H1,I1,r1,q1⟩=>?_);refine wpAny_Slice (thn (hl pins s1 σ H1 _ I1 q1) λvl s2 ⟨l,H2,I2,pl,q2⟩=>thn (hu pins s2 σ H2 _ I2 q2) λvu s3 ⟨u,H3,I3,pu,q3⟩=>?_);rw[evalPart_none];refine wpAny_pure ?_;have I4:Inv X pins σ H3 { s3 with heap:=s3.heap.push { cls:=.type "slice",data:=.fields #[vl,vu,.none] } }:=I3.kept (t':=s3.toks) λb ob q=>Waf _ q;obtain⟨T,id,hT,ht,hg⟩:=hr pins { s3 with heap:=s3.heap.push { cls:=.type "slice",data:=.fields #[vl,vu,.none] } } σ H3 x v vl vu l u s3.heap.objs.size Q I4 r1 (Heap.IsSliceOf.new ..) pl pu q3;show wpAny (model X.prog X.w) X.A (subscriptTail e (.Slice lo hi none p2) v (.ref s3.heap.objs.size)) (EP X pins σ Q) X.xe { s3 with heap:=s3.heap.push { cls:=.type "slice",data:=.fields #[vl,vu,.none] } };exact tail_any (ops:=[.ref s3.heap.objs.size,v]) ht hT hg (by with_unfolding_all rfl)
def cutV (xs:List V) (lo hi:Option Int):List V:=(xs.drop<|HT.sIx xs.length 0 lo).take (HT.sIx xs.length xs.length hi-HT.sIx xs.length 0 lo)
theorem Zhz (xs:List V) (lo hi:Option Int):(cutV xs lo hi).length<=xs.length:=by
 unfold cutV;rw[Wa5,Wbr];omega
def rSlT (K:W.Frag):V->Option Int->Option Int->Hp->VK->Prop:=λx lo hi H Q=>∃a xs,x=.ref a/\SqT K H a xs ∧
 ¬ (HT.sIx xs.length 0 lo=0/\HT.sIx xs.length xs.length hi=xs.length)/\∀p,H p=none->Q (.ref p) (upd H p (.tup<|cutV xs lo hi))
theorem Zxy:SlR X (rSlT X.K):=by
 intro pins s σ H x v vl vu lo hi sl Q I rx hs pl pu h;obtain⟨a,xs,rfl,hx,hw,q⟩:=h;cases rx;obtain⟨its,r,ht,hz⟩:=I.tuple hx;have hlen:its.toArray.size=xs.length:=by rw[Waj];exact r.length.symm
 refine⟨"tuple",_,PyProof.Rows.slot_tuple_getitem.lookup,ht.typeIs,?_⟩;refine HT.getItem_tuple_cut ht hs pl pu (by rw[hlen];exact hw) ?_ (by rw[hlen];exact hz);rw[hlen];refine⟨.ref s.heap.objs.size,_,I.laid (t':=s.toks) (o:=.tup<|cutV xs lo hi) (λb ob q=>Waf _ q) (Wak _) ?_,rfl,q _<|I.hok.fresh<|Wak _⟩;exact⟨Wbz (Zhz xs lo hi) hz,_,(r.drop<|HT.sIx xs.length 0 lo).take (HT.sIx xs.length xs.length hi-HT.sIx xs.length 0 lo),IsTupN.new _ _⟩
def rCatT (K:W.Frag):R2:=λx y H Q=>∃a b xs ys,x=.ref a/\y=.ref b/\SqT K H a xs/\SqT K H b ys/\xs≠[]/\xs.length+ys.length<=sizeLine ∧
 (ys=[]->Q (.ref a) H)/\(ys≠[]->∀p,H p=none->Q (.ref p) (upd H p (.tup<|xs++ys)))
theorem Vals.nil_iff {xs:List V}{us:List Value}(r:Vals xs us):us=[]↔xs=[]:=by
 cases r with
 |nil=>simp
 |cons _ _=>simp
theorem Zwy:OpR X (binaryOp .Add) (rCatT X.K):=by
 intro pins s σ H x y v u Q I rx ry h;obtain⟨a,b,xs,ys,rfl,rfl,ha,hb,hx,hz,q1,q2⟩:=h;cases rx;cases ry;obtain⟨its,r1,p1,_⟩:=I.tuple ha;obtain⟨its2,r2,p2,_⟩:=I.tuple hb;refine HT.cat_tup p1 p2 (λz=>hx<|r1.nil_iff.mp z) (λz=>⟨.ref a,H,I,rfl,q1<|r2.nil_iff.mp z⟩) (λz=>?_) (by rw[<- r1.length,<- r2.length];exact hz);refine⟨.ref s.heap.objs.size,_,I.laid (t':=s.toks) (o:=.tup<|xs++ys) (λb ob q=>Waf _ q) (Wak _) ?_,rfl,q2 (λw=>z<|r2.nil_iff.mpr w) _<|I.hok.fresh<|Wak _⟩;exact⟨by rw[Wan];exact hz,_,r1.append r2,IsTupN.new _ _⟩
end
end L2
namespace L2
open PySem PySem.Spec PyProof.Rows
def ixN (n:Nat) (i:Int):Option Nat:=if 0<=i then (if i<n then some i.toNat else none) else if -(n:Int)<=i then some (i+n).toNat else none
def atI {α:Type}(xs:List α) (i:Int):Option α:=(ixN xs.length i).bind λj=>xs[j]?
theorem Zru {n:Nat}{i:Int}{j:Nat}(h:ixN n i=some j):seqIndex? i n=some j/\j<n /\ -(n:Int)<=i/\i<n:=by
 unfold ixN at h;by_cases h0:0<=i
 ·rw[if_pos h0]at h
  by_cases h1:i<n
  ·rw[if_pos h1]at h
   have e:i.toNat=j:=Wba.inj h;exact⟨by rw[seqIndex_of h0 h1,e],by omega,by omega,h1⟩
  ·rw[if_neg h1]at h;cases h
 ·rw[if_neg h0]at h
  by_cases h1:-(n:Int)<=i
  ·rw[if_pos h1]at h
   have e:(i+n).toNat=j:=Wba.inj h;exact⟨by rw[seqIndex_neg (by omega) h1,e],by omega,h1,by omega⟩
  ·rw[if_neg h1]at h;cases h
theorem Zlo {α:Type}{xs:List α}{i:Int}{v:α}(h:atI xs i=some v):∃j,seqIndex? i xs.length=some j/\xs[j]?=some v/\j<xs.length /\ -(xs.length:Int)<=i/\i<xs.length:=by
 unfold atI at h;cases e:ixN xs.length i with
 |none=>rw[e]at h;cases h
 |some j=>
  rw[e]at h;obtain⟨h1,h2,h3,h4⟩:=Zru e;exact⟨j,h1,h,h2,h3,h4⟩
theorem Zby {α:Type}{xs:List α}{j:Nat}{v:α}(h:xs[j]?=some v):atI xs (j:Int)=some v:=by
 have hj:j<xs.length:=(Wah.mp h).1;have e:ixN xs.length (j:Int)=some j:=by
  unfold ixN;rw[if_pos (by omega),if_pos (by omega)];simp
 unfold atI;rw[e];exact h
def PlainIx (b:Expr):Prop:=∀o i,subscripted b false o i=operate [o,i] (getItem o i)
def IxR (X:Cx) (r:R2):Prop:=
 ∀(value slice:Expr) (pins:List (Addr × Obj)) (s:Shared) (σ:St) (H:Hp) (x y:V) (v u:Value) (Q:VK),Inv X pins σ H s->RelV x v->RelV y u->r x y H Q →
  subscripted slice false v u=operate [v,u] (getItem v u)->wpAny (model X.prog X.w) X.A (subscriptTail value slice v u) (EP X pins σ Q) X.xe s
def MtR (X:Cx) (id:String) (r:V->List V->Hp->VK->Prop):Prop:=
 ∀(pins:List (Addr × Obj)) (s:Shared) (σ:St) (H:Hp) (x:V) (xs:List V) (v:Value) (us:List Value) (Q:VK),Inv X pins σ H s->RelV x v->Vals xs us->r x xs H Q →
  wpAny (model X.prog X.w) X.A (call (.builtin id) (v::us)) (EP X pins σ Q) X.xe s
section
variable {X:Cx}{a b:Expr}{ta tb:TE}{pos:Pos}
theorem IxR.or {r r':R2}(h:IxR X r) (h':IxR X r'):IxR X (λx y H Q=>r x y H Q\/r' x y H Q):=by
 intro value slice pins s σ H x y v u Q I rx ry q hs;rcases q with q|q
 ·exact h value slice pins s σ H x y v u Q I rx ry q hs
 ·exact h' value slice pins s σ H x y v u Q I rx ry q hs
theorem Zaq {r:R2}(hr:IxR X r) (ha:PE X a ta) (hb:PE X b tb) (hs:PlainIx b):PE X (.Subscript a b pos) (tOp r ta tb):=by
 intro pins s σ H Q I h;exact Subscript_ (binT ha hb I h λv u s2 x y H2 I2 rx ry q=>hr a b pins s2 σ H2 x y v u Q I2 rx ry q<|hs _ _)
def rIxL (K:W.Frag):R2:=λx y H Q=>∃p xs i v,x=.ref p/\y=.int i/\SqL K H p xs/\atI xs i=some v/\Q v H
def rIxT (K:W.Frag):R2:=λx y H Q=>∃p xs i v,x=.ref p/\y=.int i/\SqT K H p xs/\atI xs i=some v/\Q v H
def rIxS:R2:=λx y H Q=>∃z i c,x=.str z/\y=.int i/\z.length<=sizeLine/\atI z.cps.toList i=some c/\Q (.str ⟨#[c]⟩) H
theorem Zwi:IxR X (rIxL X.K):=by
 intro value slice pins s σ H x y v u Q I rx ry h hs;obtain⟨p,xs,i,z,rfl,rfl,hq,he,q⟩:=h;cases rx;obtain⟨t,rfl⟩:=ry;obtain⟨its,r,pl,hz⟩:=I.list hq;obtain⟨j,h1,h2,h3,h4,h5⟩:=Zlo he;obtain⟨w,ew,rw'⟩:=r.get h2;have hl:=r.length;have hn:=line63;have fin:EP X pins σ Q w s:=⟨z,H,I,rw',q⟩;by_cases h0:0<=i
 ·have hj:i.toNat=j:=by
   rw[seqIndex_of h0 h5]at h1;exact Wba.inj h1
  exact item_listR pl.isList h0 (by omega) (by rw[hj];simpa using ew) fin hs
 ·have hj:(i+(its.toArray.size:Int)).toNat=j:=by
   rw[seqIndex_neg (by omega) h4]at h1;rw[Waj,<- hl];exact Wba.inj h1
  exact subscriptTail_builtinR (x:=w) pl.isList.typeIs slot_list_getitem.lookup
   (wpAny_getItem_list_neg (Q:=λr s'=>r=w/\EP X pins σ Q r s') pl.isList (by omega) (by rw[Waj] <;> omega) (by omega) (by rw[hj];simpa using ew) ⟨rfl,fin⟩) hs
theorem Zxm:IxR X (rIxT X.K):=by
 intro value slice pins s σ H x y v u Q I rx ry h hs;obtain⟨p,xs,i,z,rfl,rfl,hq,he,q⟩:=h;cases rx;obtain⟨t,rfl⟩:=ry;obtain⟨its,r,pl,hz⟩:=I.tuple hq;obtain⟨j,h1,h2,h3,h4,h5⟩:=Zlo he;obtain⟨w,ew,rw'⟩:=r.get h2;have hl:=r.length;have hn:=line63;have fin:EP X pins σ Q w s:=⟨z,H,I,rw',q⟩;exact subscriptTail_builtinR (x:=w) pl.typeIs slot_tuple_getitem.lookup
  (getItem_tuple (j:=j) (Q:=λr s'=>r=w/\EP X pins σ Q r s') pl (by omega) (by omega) (by rw[Waj,<- hl];exact h1) (by simpa using ew) ⟨rfl,fin⟩) hs
theorem Zyo:IxR X rIxS:=by
 intro value slice pins s σ H x y v u Q I rx ry h hs;obtain⟨z,i,c,rfl,rfl,hz,he,q⟩:=h;obtain⟨t,rfl⟩:=rx;obtain⟨t',rfl⟩:=ry;obtain⟨j,h1,h2,h3,h4,h5⟩:=Zlo he;have hl:z.cps.toList.length=z.length:=by simp[Str.length]
 rw[hl]at h1 h4 h5;have hn:=line63;exact tail_any (typeIs_str s z t) slot_str_getitem.lookup (getItem_str (c:=c) (by
  have e1:decide (i < -(2 ^ 63:Int))=false:=decide_eq_false (by omega);have e2:decide (i ≥ 2 ^ 63)=false:=decide_eq_false (by omega);rw[e1,e2,Bool.or_false]) (by rw[h1];simpa using h2) ⟨.str ⟨#[c]⟩,H,I.tok _,⟨_,rfl⟩,q⟩) hs
def rIx (K:W.Frag):R2:=λx y H Q=>rIxL K x y H Q\/rIxT K x y H Q\/rIxS x y H Q
theorem Zw1:IxR X (rIx X.K):=Zwi.or<|Zxm.or Zyo
theorem Zoh (its:List Value) (n j:Nat) (u:Value):Obj.mapSeq (·.setIfInBounds j u) { cls:=.type "list",data:=.seq its.toArray n } = { cls:=.type "list",data:=.seq (its.set j u).toArray n }:=by
 simp[Obj.mapSeq]
theorem Inv.lst {pins:List (Addr × Obj)}{σ:St}{H:Hp}{s:Shared}{p:Addr}{xs:List V}(I:Inv X pins σ H s) (h:H p=some (.lst xs)) :
  ∃(its:List Value) (n:Nat),Vals xs its/\s.heap.get? p=some { cls:=.type "list",data:=.seq its.toArray n } /\ xs.length<=sizeLine:=by
 obtain⟨z,its,n,r,e⟩:=I.hok p _ h;exact⟨its,n,r,e,z⟩
theorem Inv.lstUpd {pins:List (Addr × Obj)}{σ:St}{H:Hp}{s:Shared}{p:Addr}{xs ys:List V}{its its':List Value}{n n':Nat}{f:Obj->Obj}(I:Inv X pins σ H s) (h:H p=some (.lst xs))
  (ho:s.heap.get? p=some { cls:=.type "list",data:=.seq its.toArray n }) (hf:f { cls:=.type "list",data:=.seq its.toArray n } = { cls:=.type "list",data:=.seq its'.toArray n' }) (r:Vals ys its') (hz:ys.length<=sizeLine) (t:Nat) :
  Inv X pins σ (upd H p (.lst ys)) { s with heap:=s.heap.update p f,toks:=t }:=by
 have e:(s.heap.update p f).get? p=some { cls:=.type "list",data:=.seq its'.toArray n' }:=by
  rw[Wdv f ho (by rw[hf] <;> rfl),hf]
 refine I.write (x:=p) (e:=p) (by rw[h];trivial) (.inl rfl) (λb u hb q=>(Wcq _ _<|Ne.symm hb).trans q) ⟨_,e⟩ ?_;exact⟨hz,its',n',r,e⟩
def rSetL:V->V->V->Hp->(Hp->Prop)->Prop:=λo i v H Q=>∃p xs k j,o=.ref p/\i=.int k/\H p=some (.lst xs)/\ixN xs.length k=some j/\Q (upd H p (.lst<|xs.set j v))
theorem Zsg:PSet X rSetL:=by
 intro pins s σ H o i v ov iv u Q I ro ri rv h;obtain⟨p,xs,k,j,rfl,rfl,hp,hj,q⟩:=h;cases ro;obtain⟨t,rfl⟩:=ri;obtain⟨its,n,r,ho,hz⟩:=I.lst hp;obtain⟨h1,h2,h3,h4⟩:=Zru hj;have hl:=r.length;have hn:=line63;have I':Inv X pins σ (upd H p (.lst<|xs.set j v)) { s with heap:=s.heap.update p (Obj.mapSeq (·.setIfInBounds j u)) }:=
  I.lstUpd hp ho (Zoh its n j u) (r.set rv j) (by rw[Wby];exact hz) s.toks
 by_cases h0:0<=k
 ·have hk:k.toNat=j:=by
   rw[seqIndex_of h0 h4]at h1;exact Wba.inj h1
  exact PySem.W.ki_setAt ho h0 (by omega) (by rw[Waj,<- hl];exact h4) (by rw[hk];exact⟨_,I',q⟩)
 ·have hk:(k+(its.toArray.size:Int)).toNat=j:=by
   rw[seqIndex_neg (by omega) h3]at h1;rw[Waj,<- hl];exact Wba.inj h1
  exact PySem.W.ki_setBack ho (by omega) (by rw[Waj,<- hl];exact h3) (by omega) (by rw[hk];exact⟨_,I',q⟩)
theorem Zkq (lo hi:Option Int) (n:Nat):(sliceBounds lo hi none n).1=((HT.sIx n 0 lo:Nat):Int)/\(sliceBounds lo hi none n).2.1=((HT.sIx n n hi:Nat):Int)/\(sliceBounds lo hi none n).2.2=1:=by
 refine⟨?_,?_,rfl⟩
 ·cases lo with
  |none=>simp[sliceBounds,HT.sIx]
  |some i=>
   simp only[sliceBounds,HT.sIx,Option.getD_none,show (1:Int) > 0 by decide,if_true];by_cases h:i<0
   ·simp only[h,if_true] <;> omega
   ·simp only[h,if_false] <;> omega
 ·cases hi with
  |none=>simp[sliceBounds,HT.sIx]
  |some i=>
   simp only[sliceBounds,HT.sIx,Option.getD_none,show (1:Int) > 0 by decide,if_true];by_cases h:i<0
   ·simp only[h,if_true] <;> omega
   ·simp only[h,if_false] <;> omega
theorem Zjf (its:List Value) (lo hi:Option Int):slicePick its.toArray lo hi none=((its.drop<|HT.sIx its.length 0 lo).take (HT.sIx its.length its.length hi-HT.sIx its.length 0 lo)).toArray:=by
 obtain⟨h1,h2,h3⟩:=Zkq lo hi its.toArray.size;unfold slicePick;rw[h1,h2,h3];simp only[sliceRange_one,pick_run,Waj] <;> rfl
def rSlL (K:W.Frag):V->Option Int->Option Int->Hp->VK->Prop:=λx lo hi H Q=>∃a xs,x=.ref a/\SqL K H a xs/\∀p,H p=none->Q (.ref p) (upd H p (.lst<|cutV xs lo hi))
theorem Zvz:SlR X (rSlL X.K):=by
 intro pins s σ H x v vl vu lo hi sl Q I rx hs pl pu h;obtain⟨a,xs,rfl,hx,q⟩:=h;cases rx;obtain⟨its,r,ht,hz⟩:=I.list hx;have hlen:=r.length;refine⟨"list",_,slot_list_getitem.lookup,ht.isList.typeIs,?_⟩;refine wpAny_getItem_list_slice ht.isList hs pl pu .none (by simp) ?_ (by rw[Waj] <;> omega)
 rw[Zjf,<- hlen];refine⟨.ref s.heap.objs.size,_,I.laid (t':=s.toks) (o:=.lst<|cutV xs lo hi) (λb ob q=>Waf _ q) (Wak _) ?_,rfl,q _<|I.hok.fresh<|Wak _⟩;exact⟨Wbz (Zhz xs lo hi) hz,_,0,(r.drop<|HT.sIx xs.length 0 lo).take (HT.sIx xs.length xs.length hi-HT.sIx xs.length 0 lo),Wax _ rfl⟩
def flatV:V->Bool
 |.non=>true
 |.bl _=>true
 |.int _=>true
 |.str _=>true
 |_=>false
def eqV:V->V->Bool
 |.non,.non=>true
 |.bl a,.bl b=>a == b
 |.bl a,.int b=>(if a then 1 else 0) == b
 |.int a,.bl b=>a == (if b then 1 else 0)
 |.int a,.int b=>a == b
 |.str a,.str b=>a == b
 |_,_=>false
theorem Zub {A:Around}{s:Shared}{y x:V}{u v:Value}(ry:RelV y u) (rx:RelV x v) (fy:flatV y=true) (fx:flatV x=true):SeqAt.EqAt A s u v (eqV y x):=by
 cases y with
 |non=>
  cases ry;cases x with
  |non=>cases rx;exact SeqAt.EqAt.same _
  |bl b=>cases rx;exact SeqAt.EqAt.none_bool b
  |int b=>obtain⟨t,rfl⟩:=rx;exact SeqAt.EqAt.none_int b t
  |str b=>obtain⟨t,rfl⟩:=rx;exact SeqAt.EqAt.none_str b t
  |_=>exact absurd (show false=true from fx) Wag
 |bl a=>
  cases ry;cases x with
  |non=>cases rx;exact SeqAt.EqAt.bool_none a
  |bl b=>cases rx;exact SeqAt.EqAt.bool_bool a b
  |int b=>obtain⟨t,rfl⟩:=rx;exact SeqAt.EqAt.bool_int a b t
  |str b=>obtain⟨t,rfl⟩:=rx;exact SeqAt.EqAt.bool_str a b t
  |_=>exact absurd (show false=true from fx) Wag
 |int a=>
  obtain⟨t',rfl⟩:=ry;cases x with
  |non=>cases rx;exact SeqAt.EqAt.int_none a t'
  |bl b=>cases rx;exact SeqAt.EqAt.int_bool a t' b
  |int b=>obtain⟨t,rfl⟩:=rx;exact SeqAt.EqAt.int_int a t' b t
  |str b=>obtain⟨t,rfl⟩:=rx;exact SeqAt.EqAt.int_str a t' b t
  |_=>exact absurd (show false=true from fx) Wag
 |str a=>
  obtain⟨t',rfl⟩:=ry;cases x with
  |non=>cases rx;exact SeqAt.EqAt.str_none a t'
  |bl b=>cases rx;exact SeqAt.EqAt.str_bool a t' b
  |int b=>obtain⟨t,rfl⟩:=rx;exact SeqAt.EqAt.str_int a t' b t
  |str b=>obtain⟨t,rfl⟩:=rx;exact SeqAt.EqAt.str_str a t' b t
  |_=>exact absurd (show false=true from fx) Wag
 |_=>exact absurd (show false=true from fy) Wag
def eqU (x:V) (u:Value):Bool:=match u with
 |.none=>eqV .non x
 |.bool b=>eqV (.bl b) x
 |.int i _=>eqV (.int i) x
 |.str z _=>eqV (.str z) x
 |_=>false
theorem Znn {x y:V}{u:Value}(r:RelV y u) (f:flatV y=true):eqU x u=eqV y x:=by
 cases y with
 |non=>cases r;rfl
 |bl b=>cases r;rfl
 |int i=>obtain⟨t,rfl⟩:=r;rfl
 |str z=>obtain⟨t,rfl⟩:=r;rfl
 |_=>exact absurd (show false=true from f) Wag
theorem Zhu {x:V}:∀{xs:List V}{us:List Value},Vals xs us->xs.all flatV=true->us.any (eqU x)=xs.any λy=>eqV y x
 |_,_,.nil,_=>rfl
 |y::xs,u::us,.cons r t,f=>by
  rw[Wd6,Wbj]at f;rw[Wdf,Wdf,Znn r f.1,Zhu t f.2]
theorem Zgb {A:Around}{s:Shared}{x:V}{v:Value}(rx:RelV x v) (fx:flatV x=true):∀{xs:List V}{us:List Value},Vals xs us->xs.all flatV=true->∀u∈us,SeqAt.EqAt A s u v (eqU x u)
 |_,_,.nil,_=>λu hu=>by cases hu
 |y::xs,u::us,.cons r t,f=>λu' hu=>by
  rw[Wd6,Wbj]at f;rcases Waq.mp hu with rfl|hu
  ·rw[Znn r f.1];exact Zub r rx f.1 fx
  ·exact Zgb rx fx t f.2 u' hu
def inV (x:V) (xs:List V):Bool:=xs.any λy=>eqV y x
def rIn (K:W.Frag) (neg:Bool):R2:=λx y H Q=>∃p xs,y=.ref p/\(SqL K H p xs\/SqT K H p xs)/\flatV x=true/\xs.all flatV=true/\Q (.bl (if neg then !inV x xs else inV x xs)) H
theorem Zpy:OpR X (compareOp .In) (rIn X.K false):=by
 intro pins s σ H x y v u Q I rx ry h;obtain⟨p,xs,rfl,hq,fx,fs,q⟩:=h;cases ry;rcases hq with hq|hq
 ·obtain⟨its,r,pl,hz⟩:=I.list hq
  refine SeqAt.in_listAt (eqU x) pl.isList (λw hw=>Zgb rx fx r fs w (by simpa using hw)) ⟨.bl _,H,I,rfl,?_⟩;rw[show its.toArray.any (eqU x)=its.any (eqU x) by simp,Zhu r fs];exact q
 ·obtain⟨its,r,pl,hz⟩:=I.tuple hq
  refine SeqAt.in_tupleAt (eqU x) pl (λw hw=>Zgb rx fx r fs w (by simpa using hw)) ⟨.bl _,H,I,rfl,?_⟩;rw[show its.toArray.any (eqU x)=its.any (eqU x) by simp,Zhu r fs];exact q
theorem Zld:OpR X (compareOp .NotIn) (rIn X.K true):=by
 intro pins s σ H x y v u Q I rx ry h;obtain⟨p,xs,rfl,hq,fx,fs,q⟩:=h;cases ry;rcases hq with hq|hq
 ·obtain⟨its,r,pl,hz⟩:=I.list hq
  refine SeqAt.notIn_listAt (eqU x) pl.isList (λw hw=>Zgb rx fx r fs w (by simpa using hw)) ⟨.bl _,H,I,rfl,?_⟩;rw[show its.toArray.any (eqU x)=its.any (eqU x) by simp,Zhu r fs];exact q
 ·obtain⟨its,r,pl,hz⟩:=I.tuple hq
  refine SeqAt.notIn_tupleAt (eqU x) pl (λw hw=>Zgb rx fx r fs w (by simpa using hw)) ⟨.bl _,H,I,rfl,?_⟩;rw[show its.toArray.any (eqU x)=its.any (eqU x) by simp,Zhu r fs];exact q
theorem Zkw:CallR X (.builtin "len") (λxs H Q=>∃p ys,xs=[.ref p]/\(SqL X.K H p ys\/SqT X.K H p ys)/\Q (.int ys.length) H):=by
 intro pins s σ H xs us Q I r h;obtain⟨p,ys,rfl,hq,q⟩:=h;obtain⟨u,rfl,rx⟩:=vals1 r;cases rx;have hn:=line63;rcases hq with hq|hq
 ·obtain⟨its,r',pl,hz⟩:=I.list hq
  have hlen:=r'.length;exact Calls.call_len_list pl.isList (by simp only[Waj] <;> omega) ⟨.int ys.length,H,I.tok _,⟨s.toks+1,by rw[Waj,hlen]⟩,q⟩
 ·obtain⟨its,r',pl,hz⟩:=I.tuple hq
  have hlen:=r'.length;exact len_tuple pl (by simp only[Waj] <;> omega) ⟨.int ys.length,H,I.tok _,⟨s.toks+1,by rw[Waj,hlen]⟩,q⟩
theorem CallR.or {f:Value}{r r':List V->Hp->VK->Prop}(h:CallR X f r) (h':CallR X f r'):CallR X f (λxs H Q=>r xs H Q\/r' xs H Q):=by
 intro pins s σ H xs us Q I rs q;rcases q with q|q
 ·exact h pins s σ H xs us Q I rs q
 ·exact h' pins s σ H xs us Q I rs q
theorem Zk3:CallR X (.type "list") (λxs H Q=>∃p ys,xs=[.ref p]/\(SqL X.K H p ys\/SqT X.K H p ys)/\∀l,H l=none->Q (.ref l) (upd H l (.lst ys))):=by
 intro pins s σ H xs us Q I r h;obtain⟨p,ys,rfl,hq,q⟩:=h;obtain⟨u,rfl,rx⟩:=vals1 r;cases rx;have fin:∀(its:List Value),Vals ys its->ys.length<=sizeLine->∀(h':Heap) (c':Nat),(∀b o',s.heap.get? b=some o' -> h'.get? b=some o') →
   h'.get? s.heap.objs.size=some { cls:=.type "list",dict:=none,data:=.seq its.toArray c',slots:=#[] } -> EP X pins σ Q (.ref s.heap.objs.size) { s with heap:=h' }:=λits r' hz h' c' kp e=>
  ⟨.ref s.heap.objs.size,_,I.laid (t':=s.toks) kp (Wak _) (show ObjOk X.prog X.w _ h' _ (.lst ys) from ⟨hz,its,c',r',e⟩),rfl,q _<|I.hok.fresh<|Wak _⟩
 rcases hq with hq|hq
 ·obtain⟨its,r',pl,hz⟩:=I.list hq
  have hlen:=r'.length;obtain⟨o,ho,hc,n,hd⟩:=pl.isList;exact call_list_seq p (.inl rfl) ho hc hd (λh' c' kp e=>fin its r' hz h' c' kp e) (by simp only[Waj] <;> omega)
 ·obtain⟨its,r',pl,hz⟩:=I.tuple hq
  have hlen:=r'.length;obtain⟨o,ho,hc,n,hd⟩:=pl;exact call_list_seq p (.inr rfl) ho hc hd (λh' c' kp e=>fin its r' hz h' c' kp e) (by simp only[Waj] <;> omega)
theorem Zjj:CallR X (.type "tuple") (λxs H Q=>∃p ys,xs=[.ref p]/\((SqL X.K H p ys/\∀l,H l=none->Q (.ref l) (upd H l (.tup ys)))\/(SqT X.K H p ys/\Q (.ref p) H))):=by
 intro pins s σ H xs us Q I r h;obtain⟨p,ys,rfl,h⟩:=h;obtain⟨u,rfl,rx⟩:=vals1 r;cases rx;rcases h with ⟨hq,q⟩|⟨hq,q⟩
 ·obtain⟨its,r',pl,hz⟩:=I.list hq
  have hlen:=r'.length;refine call_tuple_list pl.isList (λh' kp=>?_) (by simp only[Waj] <;> omega)
  have I1:Inv X pins σ H { s with heap:=h' }:=I.kept (t':=s.toks) kp;have I2:Inv X pins σ (upd H h'.objs.size (.tup ys)) { s with heap:=h'.push { cls:=.type "tuple",data:=.seq its.toArray } }:=
   I1.laid (t':=s.toks) (λb o e=>Waf _ e) (Wak _) (show ObjOk X.prog X.w _ _ _ (.tup ys) from ⟨hz,its,r',IsTupN.new _ _⟩)
  exact⟨.ref h'.objs.size,_,I2,rfl,q _<|I1.hok.fresh<|Wak _⟩
 ·obtain⟨its,r',pl,hz⟩:=I.tuple hq
  exact call_tuple_same pl ⟨.ref p,H,I,rfl,q⟩
def tyV (K:W.Frag) (T:String) (x:V) (H:Hp):Prop:=match x with
 |.str _=>T = "str"
 |.int _=>T = "int"
 |.ref p=>(T = "list" /\ ∃xs,SqL K H p xs)\/(T = "tuple" /\ ((∃o,K.lookup p=some o/\o.cls=.type "tuple" /\ o.dict=none)\/∃xs,H p=some (.tup xs))) ∨
   (T = "dict" /\ ((∃kvs,H p=some (.dK kvs))\/∃kvs,H p=some (.dT kvs)))\/(T = "set" /\ ∃S n,H p=some (.set S n))
 |_=>False
theorem Zx2 {pins:List (Addr × Obj)}{σ:St}{H:Hp}{s:Shared}{T:String}{x:V}{v:Value}(I:Inv X pins σ H s) (r:RelV x v) (ty:tyV X.K T x H) :
  s.TypeIs v T/\∀a,v=.ref a->∃ob,s.heap.get? a=some ob/\ob.dict=none:=by
 cases x with
 |str z=>
  obtain⟨t,rfl⟩:=r;cases (show T = "str" from ty);exact⟨typeIs_str s z t,λ_ e=>nomatch e⟩
 |int i=>
  obtain⟨t,rfl⟩:=r;cases (show T = "int" from ty);exact⟨typeIs_int s i t,λ_ e=>nomatch e⟩
 |ref p=>
  cases r;rcases ty with ⟨rfl,xs,hq⟩|⟨rfl,(⟨o,hk,hc,hd⟩|⟨xs,hk⟩)⟩|⟨rfl,hk⟩|⟨rfl,S,n,hk⟩
  ·obtain⟨its,_,pl,_⟩:=I.list hq
   refine⟨pl.isList.typeIs,λa e=>?_⟩;cases e;obtain⟨o,n,e,c,hd,_⟩:=pl;exact⟨o,e,hd⟩
  ·refine⟨⟨o,I.kIn p o hk,hc⟩,λa e=>?_⟩
   cases e;exact⟨o,I.kIn _ o hk,hd⟩
  ·obtain⟨_,_,_,o,e,⟨hc,_⟩,hd⟩:=I.hok p _ hk
   refine⟨⟨o,e,hc⟩,λa e2=>?_⟩;cases e2;exact⟨o,e,hd⟩
  ·have z:∃o,s.heap.get? p=some o/\o.ExactDict:=by
    rcases hk with ⟨kvs,hk⟩|⟨kvs,hk⟩
    ·obtain⟨_,_,_,_,o,_,_,e,ex,_⟩:=I.hok p _ hk
     exact⟨o,e,ex⟩
    ·obtain⟨_,_,_,_,o,_,_,e,ex,_⟩:=I.hok p _ hk
     exact⟨o,e,ex⟩
   obtain⟨o,e,ex⟩:=z;refine⟨⟨o,e,ex.1⟩,λa e2=>?_⟩;cases e2;exact⟨o,e,ex.2.1⟩
  ·obtain⟨o,_,_,_,e,ex,_⟩:=I.hok p _ hk
   refine⟨⟨o,e,ex.1⟩,λa e2=>?_⟩;cases e2;exact⟨o,e,ex.2.1⟩
 |_=>exact False.elim ty
def tBM (K:W.Frag) (T:String) (r:V->List V->Hp->VK->Prop) (to:TE) (t:TA):TE:=λσ H Q=>to σ H λx H1=>tyV K T x H1/\t σ H1 λxs H2=>r x xs H2 Q
variable {o e:Expr}{es:List Expr}{to:TE}{t:TA}{name:Str}{apos cpos:Pos}{T id:String}{r:V->List V->Hp->VK->Prop}
theorem Zzd (pa:PlainAttrs T) (slot:Slot T name id) (hty:typeOf (.builtin id)=pure (.type "method_descriptor")) (hm:MtR X id r) (ho:PE X o to) (ha:PA X (e::es) t)
  (hbase:attributeBase o name X.env (eval o X.env)=eval o X.env:=by rfl)
  (hfew:((backTo cpos (starEach (e::es) X.env)).all (λx=>!x.1) && (backToKw cpos (keywordEach [] X.env)).all (λx=>x.1.isSome)
   && decide ((e::es).length+([]:List Keyword).length+(if ([]:List Keyword).isEmpty then 0 else 1)<30))=true:=by rfl)
  (hline:(apos.endLine == cpos.line)=true:=by rfl) (hs:starEach (e::es) X.env=(false,eval e X.env)::starEach es X.env:=by rfl) (hplain:(backTo cpos<|starEach es X.env).any (·.1)=false:=by rfl) :
  PE X (.Call (.Attribute o name apos) (e::es) [] cpos) (tBM X.K T r to t):=by
 intro pins s σ H Q I h;refine wpAny_Call_method_late hbase hfew hline rfl (thn (ho pins s σ H _ I h) λv s1 ⟨x,H1,I1,r1,ty,q1⟩=>?_);obtain⟨h1,h2⟩:=Zx2 I1 r1 ty;refine⟨T,id,pa,slot,hty,h1,h2,?_⟩;have hA:=ha cpos pins s1 σ H1 _ I1 q1;rw[hs]at hA ⊢;refine Calls.callWith_builtin (by show (false || (backTo cpos<|starEach es X.env).any (·.1))=false;rw[hplain] <;> rfl)<|Calls.evalArgs_plain ?_
 exact thn hA λus s2 ⟨vs,H2,I2,r2,q2⟩=>hm pins s2 σ H2 x vs v us Q I2 r1 r2 q2
end
end L2
namespace L2
open PySem PySem.Spec PyProof.Rows
def MtM (X:Cx) (id:String) (r:V->List V->Hp->VK->Prop):Prop:=
 ∀(pins:List (Addr × Obj)) (s:Shared) (σ:St) (H:Hp) (x:V) (xs:List V) (v:Value) (us:List Value) (Q:VK),Inv X pins σ H s->RelV x v->Vals xs us->r x xs H Q →
  wpAny (model X.prog X.w) X.A (call (.builtin id) (v::us)) (EP X pins σ Q) X.xe s
theorem Vals.one:∀{x:V}{us:List Value},Vals [x] us->∃u,us=[u]/\RelV x u:=by
 intro x us h;cases h with|cons r t=>cases t;exact⟨_,rfl,r⟩
theorem Vals.two:∀{x y:V}{us:List Value},Vals [x,y] us->∃u v,us=[u,v]/\RelV x u/\RelV y v:=by
 intro x y us h;cases h with|cons r t=>cases t with|cons q t=>cases t;exact⟨_,_,rfl,r,q⟩
theorem Vals.eraseIdx:∀{xs:List V}{us:List Value}(i:Nat),Vals xs us->Vals (xs.eraseIdx i) (us.eraseIdx i)
 |_,_,_,.nil=>.nil
 |_,_,0,.cons _ t=>t
 |_,_,i+1,.cons r t=>.cons r (Vals.eraseIdx i t)
theorem Zkn {α:Type}:∀(l:List α) (i:Nat),(l.eraseIdx i).length<=l.length
 |[],_=>Wak _
 |_::_,0=>Wcy _
 |_::r,i+1=>Nat.succ_le_succ (Zkn r i)
section
variable {X:Cx}{pins:List (Addr × Obj)}{σ:St}{H:Hp}{s:Shared}{l b:Addr}{xs ys zs:List V}
theorem Inv.lset {its its':List Value}{n:Nat}{f:Array Value->Array Value}{t':Nat}(I:Inv X pins σ H s) (hH:H l=some (.lst xs))
  (e:s.heap.get? l=some { cls:=.type "list",data:=.seq its.toArray n }) (hf:f its.toArray=its'.toArray) (hv:Vals ys its') (hz:ys.length<=sizeLine) :
  Inv X pins σ (upd H l (.lst ys)) { s with heap:=s.heap.update l<|Obj.mapSeq f,toks:=t' }:=by
 have q:=PySem.IsL.update e f;rw[hf]at q;refine I.write (x:=l) (e:=l) (by rw[hH];exact trivial) (.inl rfl) (λb' u hb hu=>(Wcq s.heap (Obj.mapSeq f)<|Ne.symm hb).trans hu) ⟨_,q⟩ ?_;exact⟨hz,its',_,hv,q⟩
theorem Inv.lnew {its:List Value}{t':Nat}(I:Inv X pins σ H s) (hv:Vals ys its) (hz:ys.length<=sizeLine) :
  Inv X pins σ (upd H s.heap.objs.size (.lst ys)) { s with heap:=s.heap.push { cls:=.type "list",data:=.seq its.toArray },toks:=t' }:=
 I.laid (λ_ _ q=>Waf _ q) (Wak _) ⟨hz,its,0,hv,Wax _ rfl⟩
theorem Inv.fresh (I:Inv X pins σ H s):H s.heap.objs.size=none:=I.hok.fresh<|Wak _
theorem Inv.lstM (I:Inv X pins σ H s) (hH:H l=some (.lst xs)):xs.length<=sizeLine/\∃(its:List Value) (n:Nat),Vals xs its/\xs.length=its.length/\s.heap.get? l=some { cls:=.type "list",data:=.seq its.toArray n }:=by
 obtain⟨z,its,n,r,e⟩:=I.hok l _ hH;exact⟨z,its,n,r,r.length,e⟩
end
section
variable {X:Cx}
def rAppend:V->List V->Hp->VK->Prop:=λx vs H Q=>∃l xs y,x=.ref l/\vs=[y]/\H l=some (.lst xs)/\xs.length<sizeLine/\Q .non (upd H l (.lst<|xs++[y]))
theorem Zdd:MtM X "list.append" rAppend:=by
 intro pins s σ H x vs v us Q I rx rv h;obtain⟨l,xs,y,rfl,rfl,hH,hz,q⟩:=h;cases rx;obtain⟨u,rfl,ru⟩:=rv.one;obtain⟨z,its,n,r,hl,e⟩:=I.lstM hH;refine call_meets F.slot_list_append ⟨_,e,rfl⟩ F.entry_list_append (F.args_list_append_2 _ _) (PySem.list_append l its.toArray n u (by rw[Waj];omega)) ⟨e,?_⟩;refine⟨.non,_,I.lset (its':=its++[u]) hH e (by simp) (r.append (.cons ru .nil)) ?_,rfl,q⟩;rw[Wan,Wbt];omega
def rCat:R2:=λx y H Q=>∃l b xs zs,x=.ref l/\y=.ref b/\H l=some (.lst xs)/\H b=some (.lst zs)/\xs.length+zs.length<=sizeLine/\∀p,H p=none->Q (.ref p) (upd H p (.lst<|xs++zs))
theorem Zx5:OpR X (binaryOp .Add) rCat:=by
 intro pins s σ H x y v u Q I rx ry h;obtain⟨l,b,xs,zs,rfl,rfl,hH,hB,hz,q⟩:=h;cases rx;cases ry;obtain⟨z,its,n,r,hl,e⟩:=I.lstM hH;obtain⟨z2,its2,n2,r2,hl2,e2⟩:=I.lstM hB;refine PySem.P.add_list e e2 ?_ (by rw[Waj,Waj];omega);have ea:its.toArray++its2.toArray=(its++its2).toArray:=by simp
 rw[ea];exact⟨.ref _,_,I.lnew (t':=s.toks) (r.append r2) (by rw[Wan];omega),rfl,q _ I.fresh⟩
theorem Ztl {pins:List (Addr × Obj)}{s:Shared}{σ:St}{H:Hp}{l:Addr}{xs:List V}{i:Int}{t:Tok}{k:Nat}{Q:Unit->Shared->Prop}(I:Inv X pins σ H s) (hH:H l=some (.lst xs))
  (h1:-(2 ^ 63)<=i) (h2:i<2 ^ 63) (hk:seqIndex? i xs.length=some k) (h:∀s',Inv X pins σ (upd H l (.lst<|xs.eraseIdx k)) s' -> Q () s') :
  wpAny (model X.prog X.w) X.A (delItem (.ref l) (.int i t)) Q X.xe s:=by
 obtain⟨z,its,n,r,hl,e⟩:=I.lstM hH;refine PySem.P.delItem_list (k:=k) e (fitsIndex_both h1 h2) (by rw[Waj,<- hl];exact hk) (h _ ?_) (by rw[Waj];omega);refine I.lset (its':=its.eraseIdx k) (t':=s.toks) hH e ?_ (r.eraseIdx k) ?_
 ·show its.toArray.eraseIdxIfInBounds k=(its.eraseIdx k).toArray
  rw[List.eraseIdxIfInBounds_toArray]
 ·have:=Zkn xs k
  omega
end
end L2
namespace Att
open PySem PySem.W PySem.Calls PyProof.Rows
theorem Zh5 {P:Params}{h:Heap}:∀(ns:List Int) (vs:List Value),WellAll P h vs (ns.map WData.int)->IntsAre vs ns:=by
 intro ns
 induction ns with
 |nil=>
  intro vs w;rw[List.map_nil]at w;cases w;exact .nil
 |cons n ns ih=>
  intro vs w;rw[Wbg]at w;cases w with
  |cons a b=>
   cases a;exact .cons _ _<|ih _ b
theorem Zrs {l:OpenLaw}{n:Nat}(hn:l.most=some n) {P:Params}{h:Heap}{args:List WData}{vals:List Value}
  (hpre:l.row.toRowW.claim.pre args=true) (hwl:WellAll P h vals args) :
  ∃a vs ns,vals=[Value.ref a]/\args=[WData.list (ns.map WData.int)]/\h.get? a=some { cls:=.type "list",data:=.seq vs.toArray } /\ IntsAre vs ns/\ns.length<=n:=by
 have hsh:WShape.hasAll [] args [.list .int]=true:=(pre_splitW hpre).1;have hc:l.pre.holds [] { args:=args } = true:=(pre_splitW hpre).2;obtain⟨d,r,rfl,h1,h2⟩:=hasAllW_cons hsh;obtain rfl:=hasAllW_nil h2;obtain⟨xs,rfl,h3⟩:=hasW_list h1;obtain⟨ns,rfl⟩:=items_int h3;have hlen:ns.length<=n:=by
  unfold OpenLaw.pre at hc;have h4:(WTm.not (.lt (.lit (.int (n:Int))) (.len (.arg 0)))).holds [] { args:=[.list (ns.map .int)] } = true:=by
   have h4:=(holds_andW hc).1;rw[hn]at h4;exact h4
  have h5:=condW_of h4<|w_not<|w_lt w_lit<|w_len_list<|w_arg rfl;rw[Wab]at h5;refine Nat.le_of_not_lt λq=>?_;have q':(n:Int)<((ns.length:Nat):Int):=by omega
  first
   | (rw[decide_eq_true q']at h5;exact absurd h5 (by decide))
   | (simp at h5;omega)
 cases hwl with
 |cons w1 w2=>
  cases w2;cases w1 with
  |list ho hall=>exact⟨_,_,ns,rfl,rfl,ho,Zh5 ns _ hall,hlen⟩
theorem Zqi (l:OpenLaw) (args:List WData):l.row.toRowW.claim.post args (.bool true) args=true:=
 postW_of (r:=l.row.toRowW) (X:=(true == true))
  (show WShape.has [] (.bool true) .bool=true by first|rfl|decide|simp[WShape.has,WShape.arms,WShape.armsAll])
  (show (WTm.eq .res (.lit (.bool true))).value [] { args:=args,res:=some (.bool true),after:=args } = some (.bool (true == true)) from w_eq_bool (w_res rfl) w_lit) rfl
theorem attach_call {l:OpenLaw}{n:Nat}{q:Program}{loose:List Str}{XP:(Str->Option Value)->Heap->Prop}{YP:World->Heap->Prop}{d:DefRec}
  (hn:l.most=some n) (hdf:d.params.defaults=[])
  (call:∀(w:World) (s₀ s₁:Shared) (mg mb:Str->Option Value) (fa:Addr) (o:Obj) (pm cd doc:Value) (a:Addr) (vs:List Value) (ns:List Int),
   Ground q loose [] XP w s₀ mg mb s₁.heap->YP w s₁.heap →
   s₁.heap.get? fa=some o->o.data=.func (docDef d.name d.params d.body d.scope pm cd doc)->s₁.heap.CodeRec cd d.name->mg d.name=some (.ref fa) →
   s₁.heap.get? a=some { cls:=.type "list",data:=.seq vs.toArray } -> IntsAre vs ns->ns.length<=n->s₁.gens = #[] →
   codeAny (model l.prog w) callerA (.call (.ref fa) ⟨[.ref a],[]⟩) (λr s'=>r=.ok (.ret (.bool true))/\OldK s₁.heap s'.heap/\s'.os=s₁.os/\AllBare s'.gens) s₁) :
  WalkO q loose XP YP l.row.toRowW d [] (λf vs=>PySem.call f vs):=by
 intro w s₀ s₁ mg mb G Y fa o pm cd doc dV kV ho hd hcd hD hmg hg args vals as hpre hlay hrd hwl hlo;obtain rfl:dV=.none:=Dflts.none hD hdf;obtain rfl:kV=.none:=Dflts.noKw hD;obtain⟨a,vs,ns,rfl,rfl,hobj,hints,hlen⟩:=Zrs hn hpre hwl;refine enter_call (codeAny_mono (call w s₀ s₁ mg mb fa o pm cd doc a vs ns G Y ho (fd_plain hd) hcd hmg hobj hints hlen hg) λr s' hq=>?_);obtain⟨rfl,h2,h3,h4⟩:=hq;exact⟨.inl ⟨.bool true,.bool true,[],rfl,λ_=>rfl,.bool true,Zqi l _,λ_=>⟨List.Pairwise.nil,λ_ hm=>(nomatch hm)⟩⟩,h2,h3,h4⟩
end Att
namespace L2
open PySem PySem.Spec PyProof.Rows
theorem Zfc:∀{vs:List Value}{ns:List Int},IntsAre vs ns->Vals (ns.map V.int) vs
 |_,_,.nil=>.nil
 |_,_,.cons n t h=>.cons ⟨t,rfl⟩ (Zfc h)
def Only (H:Hp):Prop:=∀b,H b=none\/∃o xs,H b=some (.frz o (.lst xs))
theorem Zr8 {P:Program}{w:World}{K:W.Frag}{mg mb:Str->Option Value}{CX:CXT}{k:Nat}{fa a:Addr}{fd:FuncData}{x:Str}{sp:Sp}{s₁:Shared}{vs:List Value}{ns:List Int}
  (KX:K.In s₁.heap) (hns:s₁.heap.Ns mainGlobals mg) (hb:s₁.heap.Ns builtinsNs mb) (hbb:∀x:Str,x ≠ "__name__" -> mb x=bootBuiltins x) (hlim:s₁.heap.NoLimit) (hg:s₁.gens = #[])
  (ha:s₁.heap.get? a=some { cls:=.type "list",data:=.seq vs.toArray }) (hi:IntsAre vs ns) (hl:ns.length<=sizeLine) (hr:Room k callerA)
  (F:∀base:Heap,K.In base->base.Ns mainGlobals mg->FnOk P w K mg base CX k fa fd [x] sp) (hbind:∀(s:Shared) (u:Value),BindsTo s fd ⟨[u],[]⟩ [(x,u)])
  (hsp:∀H:Hp,Only H->SqL K H a (ns.map V.int)->sp [.ref a] H (λv _=>v=.bl true) λ_ _ _=>False)
  (hCX:∀H e s',CX [] H s₁ (λ_ _ _=>False) e s' -> False) :
  codeAny (model P w) callerA (.call (.ref fa) ⟨[.ref a],[]⟩) (λr s'=>r=.ok (.ret (.bool true))/\OldK s₁.heap s'.heap/\s'.os=s₁.os/\AllBare s'.gens) s₁:=by
 have rv:=Zfc hi;have lenV:=hi.length
 -- from an abstract heap in which nothing but the script may be tracked
 have core:∀H:Hp,Only H->SqL K H a (ns.map V.int)->HOk P w H s₁.heap->(∀b,H b≠none->b=a)->(H a≠none->K.lookup a=none) →
   codeAny (model P w) callerA (.call (.ref fa) ⟨[.ref a],[]⟩) (λr s'=>r=.ok (.ret (.bool true))/\OldK s₁.heap s'.heap/\s'.os=s₁.os/\AllBare s'.gens) s₁:=by
  intro H hO hS hok hA hK;have base_of:∀{b:Addr}{o:Obj},s₁.heap.get? b=some o->H b=none->(hidT s₁.heap H).get? b=some o:=λe n=>Ztq e n;have noA:∀{b:Addr}{o:Obj}{es:Array DictEntry}{ep:Nat},s₁.heap.get? b=some o->o.data=.dict es ep->H b=none:=λ{b o es ep} e d=>by
   cases q:H b with
   |none=>rfl
   |some u=>
    have e':b=a:=hA b (by rw[q];simp);subst e';rw[ha]at e;cases e;have d':Data.seq vs.toArray _=Data.dict es ep:=d;cases d'
  have nsK:∀{b:Addr}{m:Str->Option Value},s₁.heap.Ns b m->(hidT s₁.heap H).Ns b m:=λ{b m} ⟨o,es,ep,e,d,r⟩=>⟨o,es,ep,base_of e (noA e d),d,r⟩;have hKb:K.In (hidT s₁.heap H):=λb o e=>base_of (KX b o e) (by
   cases q:H b with
   |none=>rfl
   |some u=>
    have e':b=a:=hA b (by rw[q];simp);subst e';rw[hK (by rw[q];simp)]at e;cases e)
  have hM:Mod K mg (hidT s₁.heap H):=⟨hKb,nsK hns,⟨mb,nsK hb,hbb⟩,let ⟨mc,h1,h2⟩:=hlim; ⟨mc,nsK h1,h2⟩⟩;have e0:Env0 P w K mg (hidT s₁.heap H) callerA [] s₁ H:=⟨rfl,hM,λb o e=>Zwu e,Nat.le_of_eq<|Zr0 _ _,trivial,λb hb=>absurd (show b∈([]:List Addr) from hb) (by simp),hok,.of_eq hg⟩;refine codeAny_mono ((F _ hKb<|nsK hns).run callerA [] s₁ H ⟨[.ref a],[]⟩ [.ref a] [.ref a] _ _ hr e0 (hbind s₁ (.ref a)) (.cons rfl .nil) (hsp H hO hS)) λr s' h=>?_;cases r with
  |error e=>exact(hCX H e s' h).elim
  |ok fl=>
   cases fl with
   |next=>exact False.elim h
   |brk=>exact False.elim h
   |cont=>exact False.elim h
   |ret u=>
    obtain⟨v,H',os,bare,un,hok',r',q⟩:=h;have q':v=.bl true:=q;subst q';obtain rfl:u=Value.bool true:=r';refine⟨rfl,OldK.of_keep λb o e=>?_,os,bare⟩;cases q:H b with
    |none=>exact un.keep b o e q (by intro z;exact absurd (show b∈([]:List Addr) from z) (by simp)) (by simp)
    |some u=>
     rcases hO b with z|⟨ob,xs,z⟩
     ·rw[q]at z;cases z
     ·have z2:=un.frzs b ob _ z
      obtain⟨e1,_⟩:=hok b _ z;obtain⟨e2,_⟩:=hok' b _ z2;rw[e]at e1;cases e1;exact e2
 cases hk:K.lookup a with
 |some o=>
  -- the script is one of the module's own objects
  have e:=KX a o hk;rw[ha]at e;cases e;refine core (λ_=>none) (λ_=>.inl rfl) (.inr ⟨_,vs.toArray,_,hk,rfl,rfl,rfl,by rw[Waj,lenV];exact hl,by simpa using rv⟩) (λb u z=>by have z':(none:Option HO)=some u:=z;cases z') (λb z=>absurd rfl z) λz=>absurd rfl z
 |none=>
  refine core (λb=>if b=a then some (.frz { cls:=.type "list",data:=.seq vs.toArray } (.lst<|ns.map V.int)) else none) (λb=>?_) (.inl (.inr ⟨{ cls:=.type "list",data:=.seq vs.toArray },if_pos rfl⟩)) (λb u z=>?_) (λb z=>?_) λ_=>hk
  ·by_cases hb:b=a
   ·exact .inr ⟨_,_,if_pos hb⟩
   ·exact .inl<|if_neg hb
  ·by_cases hb:b=a
   ·have z':=(if_pos hb).symm.trans z
    cases z';subst hb;exact⟨ha,by rw[Wab];exact hl,vs,_,rv,ha⟩
   ·have z':=(if_neg hb).symm.trans z
    cases z'
  ·by_cases hb:b=a
   ·exact hb
   ·exact absurd (if_neg hb) z
end L2
namespace L2
open PySem PySem.Spec PyProof.Rows
theorem walk_of {l:PySem.W.OpenLaw}{n k:Nat}{q:Program}{loose:List Str}{XP:(Str->Option Value)->Heap->Prop}{YP:World->Heap->Prop}{d:DefRec}{K:Params->W.Frag}{CX:World->CXT}{sp:World->Sp}{x:Str}
  (hn:l.most=some n) (hn2:n<=sizeLine) (hdf:d.params.defaults=[]) (hr:Room k callerA)
  (hY:∀(w:World) (h:Heap),YP w h->(K w.params).In h)
  (F:∀(w:World) (mg:Str->Option Value) (fa:Addr) (h:Heap),(K w.params).In h->h.Ns mainGlobals mg->mg d.name=some (.ref fa) →
   ∃fd:FuncData,(∀(s:Shared) (u:Value),BindsTo s fd ⟨[u],[]⟩ [(x,u)]) ∧
    ∀base:Heap,(K w.params).In base->base.Ns mainGlobals mg->FnOk l.prog w (K w.params) mg base (CX w) k fa fd [x] (sp w))
  (hsp:∀(w:World) (H:Hp) (a:Addr) (ns:List Int),ns.length<=n->Only H->SqL (K w.params) H a (ns.map V.int)->sp w [.ref a] H (λv _=>v=.bl true) λ_ _ _=>False)
  (hCX:∀(w:World) (H:Hp) (s:Shared) (e:Value) (s':Shared),CX w [] H s (λ_ _ _=>False) e s' -> False) :
  PySem.W.WalkO q loose XP YP l.row.toRowW d [] (λf vs=>PySem.call f vs):=by
 refine Att.attach_call hn hdf λw s₀ s₁ mg mb fa o pm cd doc a vs ns G Y ho hd hcd hmg hobj hints hlen hg=>?_;have KX:=hY w _ Y;obtain⟨fd,hb,hF⟩:=F w mg fa _ KX G.T.g hmg;exact Zr8 KX G.T.g G.T.b G.T.builtins G.T.nolimit hg hobj hints (Wbz hlen hn2) hr hF hb (λH hO hS=>hsp w H a ns hlen hO hS) λH e s'=>hCX w H s₁ e s'
end L2
namespace L2
open PySem PySem.Spec PyProof.Rows
def defArgs (s:Stmt):Arguments:=match s with
 |.FunctionDef _ a _ _ _ _ _ _ _ _=>a
 |_=>{ posonlyargs:=[],args:=[],vararg:=none,kwonlyargs:=[],kw_defaults:=[],kwarg:=none,defaults:=[] }
def defBody (s:Stmt):List Stmt:=match s with
 |.FunctionDef _ _ b _ _ _ _ _ _ _=>b
 |_=>[]
def defScope (s:Stmt):Scope:=match s with
 |.FunctionDef _ _ _ _ _ _ sc _ _ _=>sc
 |_=>{ kind:=.function,names:=[],isGenerator:=false,isCoroutine:=false }
abbrev CX0:CXT:=λ_ _ _ _ _ _=>False
abbrev E0:XK:=λ_ _ _=>False
theorem pass0 {X:Cx}:Passes CX0 X E0:=λ_ _ _ _ _ _ _ h=>h.elim
structure Fun (K:W.Frag) (x qual:Str) (st:Stmt) (f:Addr) (fd:FuncData):Prop where
 ex:∃(oc:Value) (od:Option Addr) (kV doc pm:Value) (an:Option Addr) (cdv ct:Value) (osl:Array (Option Value)),
  fd=W.fnOf x qual (defArgs st) (defBody st) (defScope st) .none kV doc pm an cdv ct/\K.lookup f=some ⟨oc,od,.func fd,osl⟩ /\ W.codeIn K cdv qual=true
 kp:W.keepIn K (.ref f)=true
section
variable {P:Program}{w:World}{K:W.Frag}{mg:Str->Option Value}{base:Heap}
theorem Fun.ok {x qual:Str}{st:Stmt}{f:Addr}{fd:FuncData}{N ps:List Str}{k:Nat}{sp:Sp}(F:Fun K x qual st f fd) (S:FnScope N ps (defScope st)) (len:∀vs H Q E,sp vs H Q E->vs.length=ps.length)
  (hbody:∀(cdv:Value) (A:Around) (outer:List Env) (s:Shared) (H:Hp) (vs:List V) (Q:VK) (E:XK),Room k (A.deeper (envOfC qual (defScope st) s.heap.objs.size f cdv))->sp vs H Q E →
   ∃t,PSs (cxOf CX0 P w K mg base N qual (defScope st) f cdv A outer s H E).nox (defBody st) t/\t { nx:=λ_ H'=>Q .non H',rt:=Q } (start N vs) H):FnOk P w K mg base CX0 (k+1) f fd ps sp:=by
 obtain⟨oc,od,kV,doc,pm,an,cdv,ct,osl,rfl,lk,hcd⟩:=F.ex;refine Zzg lk hcd S len λA outer s H vs Q E hr hsp=>?_;obtain⟨t,h,q⟩:=hbody cdv A outer s H vs Q E hr hsp;exact⟨t,h.nox,q⟩
theorem Fun.binds {x qual:Str}{st:Stmt}{f:Addr}{fd:FuncData}{ps:List Str}(F:Fun K x qual st f fd)
  (h:∀(kV doc pm:Value) (an:Option Addr) (cdv ct:Value) (us:List Value),us.length=ps.length->bindArgs (W.fnOf x qual (defArgs st) (defBody st) (defScope st) .none kV doc pm an cdv ct) ⟨us,[]⟩=pure (ps.zip us)):Binds K fd ps []:=by
 obtain⟨oc,od,kV,doc,pm,an,cdv,ct,osl,rfl,lk,hcd⟩:=F.ex;exact .all<|h kV doc pm an cdv ct
theorem Zyk {x qual:Str}{st:Stmt}{f:Addr}{oc:Value}{od an:Option Addr}{osl:Array (Option Value)}{kV doc pm cdv ct:Value}(l:K.lookup f=some ⟨oc,od,.func<|W.fnOf x qual (defArgs st) (defBody st) (defScope st) .none kV doc pm an cdv ct,osl⟩)
  (c:W.codeIn K cdv qual=true) (k:W.keepIn K (.ref f)=true):Fun K x qual st f (W.fnOf x qual (defArgs st) (defBody st) (defScope st) .none kV doc pm an cdv ct):=⟨⟨oc,od,kV,doc,pm,an,cdv,ct,osl,rfl,l,c⟩,k⟩
end
theorem Zbz {A:Around}{k:Nat}(hr:Room k A):A.units+1<cLine:=Wcv (Nat.add_le_add_left (by decide:1<=64) _) hr.units
theorem small1000 {n:Nat}(h:n<=1000):n<sizeLine:=Wcv h (by decide)
section
variable {X:Cx}
theorem pv (i:Nat) {x:Str}{pos:Pos}(hN:X.N[i]?=some x:=by rfl) (hv:Vis X.env.scope x:=by first|exact Or.inl rfl|exact Or.inr (Or.inl rfl)|exact Or.inr<|Or.inr rfl) (hd:(x == ("__debug__":Str))=false:=by decide)
  (hcd:(x == ("__classdict__":Str))=false:=by decide):PE X (.Name x pos) (tVar i):=Zyz hN hv hd hcd
end
theorem iteF {A B:Prop}(h:B):if false=true then A else B:=by
 rw[if_neg Wag];exact h
theorem iteT {A B:Prop}(h:A):if true=true then A else B:=by
 rw[if_pos rfl];exact h
theorem ite2 {c A B:Prop}[Decidable c] (h1:c->A) (h2:¬ c->B):if c then A else B:=by
 by_cases h:c
 ·rw[if_pos h]
  exact h1 h
 ·rw[if_neg h]
  exact h2 h
def Same (H H':Hp):Prop:=∀b o,H b=some o->H' b=some o
theorem Same.refl (H:Hp):Same H H:=λ_ _ h=>h
theorem Same.trans {H H1 H2:Hp}(a:Same H H1) (b:Same H1 H2):Same H H2:=λc o h=>b c o<|a c o h
theorem Same.seq {K:W.Frag}{H H':Hp}{a:Addr}{xs:List V}(e:Same H H') (h:SqL K H a xs):SqL K H' a xs:=by
 rcases h with (h|⟨o,h⟩)|h
 ·exact .inl (.inl<|e _ _ h)
 ·exact .inl (.inr ⟨o,e _ _ h⟩)
 ·exact .inr h
end L2
namespace L2
open PySem PySem.Spec PyProof.Rows
section
variable {κ:Type}[DecidableEq κ]
def valV (kvs:List (κ × V)) (k:κ):Option V:=(kvs.find? λkv=>decide (kv.1=k)).map (·.2)
def putK (kvs:List (κ × V)) (k:κ) (v:V):List (κ × V):=
 if (kvs.any λkv=>decide (kv.1=k))=true then kvs.map (λkv=>if kv.1=k then (kv.1,v) else kv) else kvs++[(k,v)]
theorem Zhj {p:κ × V}{r:List (κ × V)}{k:κ}(e:p.1=k):valV (p::r) k=some p.2:=by simp[valV,Wc0,e]
theorem Zhf {p:κ × V}{r:List (κ × V)}{k:κ}(e:¬ p.1=k):valV (p::r) k=valV r k:=by simp[valV,Wc0,e]
theorem Zns (k:κ):∀kvs:List (κ × V),(kvs.any λkv=>decide (kv.1=k))=(valV kvs k).isSome
 |[]=>rfl
 |p::r=>by
  rw[Wdf];by_cases e:p.1=k
  ·simp only[Zhj e,decide_eq_true e,Bool.true_or,Option.isSome_some]
  ·rw[Zhf e,decide_eq_false e,Bool.false_or];exact Zns k r
theorem Zh1 (kvs:List (κ × V)) (k:κ) (v:V):(putK kvs k v).length<=kvs.length+1:=by
 unfold putK;split
 ·rw[Wab];omega
 ·rw[Wan,Wat,Wdd];omega
theorem RelO.isSome_eq {o:Option V}{u:Option Value}(r:RelO o u):o.isSome=u.isSome:=by
 cases o with
 |none=>cases u with
  |none=>rfl
  |some _=>exact(show False from r).elim
 |some _=>cases u with
  |none=>exact(show False from r).elim
  |some _=>rfl
theorem KV.val {kvs:List (κ × V)}{vs:List (κ × Value)}(r:KV kvs vs) (k:κ):RelO (valV kvs k) (valueAt vs k):=by
 unfold KV at r
 induction r with
 |nil=>exact True.intro
 |@cons p q ps qs h t ih=>
  obtain⟨h1,h2⟩:=h;by_cases e:p.1=k
  ·have e':q.1=k:=h1.symm.trans e
   have b:valueAt (q::qs) k=some q.2:=by simp[valueAt,Wc0,e']
   rw[Zhj e,b];exact h2
  ·have e':¬ q.1=k:=λz=>e (h1.trans z)
   have b:valueAt (q::qs) k=valueAt qs k:=by simp[valueAt,Wc0,e']
   rw[Zhf e,b];exact ih
theorem KV.any {kvs:List (κ × V)}{vs:List (κ × Value)}(r:KV kvs vs) (k:κ):(kvs.any λkv=>decide (kv.1=k))=vs.any λkv=>decide (kv.1=k):=by
 unfold KV at r
 induction r with
 |nil=>rfl
 |cons h t ih=>rw[Wdf,Wdf,ih,h.1]
theorem KV.repl {kvs:List (κ × V)}{vs:List (κ × Value)}(r:KV kvs vs) (k:κ) {y:V}{u:Value}(ry:RelV y u) :
  KV (kvs.map λkv=>if kv.1=k then (kv.1,y) else kv) (vs.map λkv=>if kv.1=k then (kv.1,u) else kv):=by
 unfold KV at r ⊢
 induction r with
 |nil=>exact .nil
 |@cons p q ps qs h t ih=>
  rw[Wbg,Wbg];refine .cons ?_ ih;obtain⟨h1,h2⟩:=h;by_cases e:p.1=k
  ·rw[if_pos e,if_pos (h1.symm.trans e)];exact⟨h1,ry⟩
  ·rw[if_neg e,if_neg (λz=>e<|h1.trans z)];exact⟨h1,h2⟩
theorem KV.put {kvs:List (κ × V)}{vs:List (κ × Value)}(r:KV kvs vs) (k:κ) {y:V}{u:Value}(ry:RelV y u):KV (putK kvs k y) (stored vs k u):=by
 unfold putK stored;rw[r.any k];by_cases e:(vs.any λkv=>decide (kv.1=k))=true
 ·rw[if_pos e,if_pos e];exact r.repl k ry
 ·rw[if_neg e,if_neg e];exact Paired.snoc r ⟨rfl,ry⟩
theorem KV.length {kvs:List (κ × V)}{vs:List (κ × Value)}(r:KV kvs vs):kvs.length=vs.length:=Paired.length r
end
theorem Zre {P:Program}{w:World}{k:Key}{u:Value}(r:RelV (kV k) u):(mixKind P w).is k u=true:=by
 cases k with
 |inl i=>obtain⟨t,e⟩:=(show ∃t,u=Value.int i t from r);subst e;exact Zlx P w i t
 |inr x=>obtain⟨t,e⟩:=(show ∃t,u=Value.str x t from r);subst e;exact Zll P w x t
theorem Zku {P:Program}{w:World}:∀{ks:List Key}{us:List Value},Vals (ks.map kV) us->ItemsAre (mixKind P w) ks us
 |[],_,r=>by rw[List.map_nil]at r;cases r;exact .nil
 |k::ks,_,r=>by
  rw[Wbg]at r;cases r with
  |cons h t=>exact .cons (Zre h) (Zku t)
abbrev KT (H:Hp):List (List Key × V)->List (List Key × Addr × Value)->Prop:=Paired λp q=>p.1=q.1/\H q.2.1=some (.tup<|p.1.map kV)/\RelV p.2 q.2.2
theorem KT.val {H:Hp}{kvs:List (List Key × V)}{xs:List (List Key × Addr × Value)}(r:KT H kvs xs) (k:List Key):RelO (valV kvs k) ((atKey xs k).map (·.2)):=by
 induction r with
 |nil=>exact True.intro
 |@cons p q ps qs h t ih=>
  obtain⟨h1,_,h2⟩:=h;by_cases e:p.1=k
  ·have e':q.1=k:=h1.symm.trans e
   have b:atKey (q::qs) k=some q.2:=by simp[atKey,Wc0,e']
   rw[Zhj e,b];exact h2
  ·have e':¬ q.1=k:=λz=>e (h1.trans z)
   have b:atKey (q::qs) k=atKey qs k:=by simp[atKey,Wc0,e']
   rw[Zhf e,b];exact ih
theorem KT.repl {H:Hp}{kvs:List (List Key × V)}{xs:List (List Key × Addr × Value)}(r:KT H kvs xs) (k:List Key) {y:V}{u:Value}(ry:RelV y u) :
  KT H (kvs.map λkv=>if kv.1=k then (kv.1,y) else kv) (xs.map<|putAt k u):=by
 induction r with
 |nil=>exact .nil
 |@cons p q ps qs h t ih=>
  rw[Wbg,Wbg];refine .cons ?_ ih;obtain⟨h1,h2,h3⟩:=h;unfold putAt;by_cases e:p.1=k
  ·rw[if_pos e,if_pos (h1.symm.trans e)];exact⟨h1,h2,ry⟩
  ·rw[if_neg e,if_neg (λz=>e<|h1.trans z)];exact⟨h1,h2,h3⟩
theorem KT.put {H:Hp}{kvs:List (List Key × V)}{xs:List (List Key × Addr × Value)}(r:KT H kvs xs) (k:List Key) {b:Addr}{y:V}{u:Value}(hb:H b=some (.tup<|k.map kV)) (ry:RelV y u) :
  KT H (putK kvs k y) (storedH xs k b u):=by
 have e:(kvs.any λkv=>decide (kv.1=k))=(atKey xs k).isSome:=by
  rw[Zns,(r.val k).isSome_eq,Wep]
 unfold putK storedH;rw[e];by_cases q:(atKey xs k).isSome=true
 ·rw[if_pos q,if_pos q];exact r.repl k ry
 ·rw[if_neg q,if_neg q];exact Paired.snoc r ⟨rfl,hb,ry⟩
theorem KT.keeps {H H':Hp}{kvs:List (List Key × V)}{xs:List (List Key × Addr × Value)}(r:KT H kvs xs) (ht:∀b ys,H b=some (.tup ys)->H' b=some (.tup ys)):KT H' kvs xs:=
 Paired.mapP r λ_ _ z=>⟨z.1,ht _ _ z.2.1,z.2.2⟩
section
variable {P:Program}{w:World}{H:Hp}{h:Heap}{a:Addr}
theorem Zxp {u:HO}(ok:HOk P w H h) (e:Rd H a u):ObjOk P w H h a u:=e.ok ok
theorem Zn9 {kvs:List (Key × V)}(ok:HOk P w H h) (e:Rd H a (.dK kvs)):kvs.length<=sizeLine/\(a == sysModules)=false/\∃vs,KV kvs vs/\h.DictOf (mixKind P w) a vs:=
 show ObjOk P w H h a (.dK kvs) from Zxp ok e
theorem Zzj {kvs:List (Key × V)}(ok:HOk P w H h) (e:H a=some (.dK kvs)):kvs.length<=sizeLine/\(a == sysModules)=false/\∃vs,KV kvs vs/\h.DictOf (mixKind P w) a vs:=Zn9 ok (.inl e)
theorem Zlb {ks:List Key}(ok:HOk P w H h) (e:H a=some (.tup<|ks.map kV)):(tupleKind<|mixKind P w).is h ks a:=by
 obtain⟨_,its,r,o,h1,⟨h2,n,h3⟩,_⟩:=(show ObjOk P w H h a (.tup<|ks.map kV) from ok a _ e);exact⟨o,its.toArray,n,h1,h2,h3,by simpa using Zku r⟩
theorem Zrk {kvs:List (List Key × V)}(ok:HOk P w H h) (e:Rd H a (.dT kvs)):kvs.length<=sizeLine/\(a == sysModules)=false ∧
  ∃xs,KT H kvs xs/\h.DictOfH (tupleKind<|mixKind P w) a xs:=by
 obtain⟨z,y,xs,r,o,es,ep,h1,h2,h3,h4,h5⟩:=(show ObjOk P w H h a (.dT kvs) from Zxp ok e);refine⟨z,y,xs,r,o,es,ep,h1,h2,h3,h4,λx hx=>?_,h5⟩;have all:∀{l:List (List Key × V)}{m:List (List Key × Addr × Value)},KT H l m->∀x∈m,(tupleKind<|mixKind P w).is h x.1 x.2.1:=by
  intro l m q
  induction q with
  |nil=>intro x hx;exact nomatch hx
  |@cons p q ps qs hq t ih=>
   intro x hx;rcases Waq.mp hx with e|hx
   ·subst e
    exact Zlb ok (by rw[<- hq.1];exact hq.2.1)
   ·exact ih x hx
 exact all r x hx
theorem Zzi {kvs:List (List Key × V)}(ok:HOk P w H h) (e:H a=some (.dT kvs)):kvs.length<=sizeLine/\(a == sysModules)=false ∧
  ∃xs,KT H kvs xs/\h.DictOfH (tupleKind<|mixKind P w) a xs:=Zrk ok (.inl e)
end
def DGet (H:Hp) (a:Addr) (y:V) (r:Option V):Prop:=
 (∃kvs k,Rd H a (.dK kvs)/\y=kV k/\r=valV kvs k)\/∃kvs k b,Rd H a (.dT kvs)/\y=.ref b/\H b=some (.tup<|k.map kV)/\r=valV kvs k
def DPut (H:Hp) (a:Addr) (y v:V) (H':Hp):Prop:=
 (∃kvs k,H a=some (.dK kvs)/\y=kV k/\kvs.length<sizeLine/\H'=upd H a (.dK<|putK kvs k v)) ∨
 ∃kvs k b,H a=some (.dT kvs)/\y=.ref b/\H b=some (.tup<|k.map kV)/\kvs.length<sizeLine/\H'=upd H a (.dT<|putK kvs k v)
theorem DGet.k {H:Hp}{a:Addr}{kvs:List (Key × V)}{k:Key}(e:H a=some (.dK kvs)):DGet H a (kV k) (valV kvs k):=.inl ⟨kvs,k,.inl e,rfl,rfl⟩
theorem DPut.k {H:Hp}{a:Addr}{kvs:List (Key × V)}{k:Key}{v:V}(e:H a=some (.dK kvs)) (hl:kvs.length<sizeLine):DPut H a (kV k) v (upd H a (.dK<|putK kvs k v)):=.inl ⟨kvs,k,e,rfl,hl,rfl⟩
section
variable {X:Cx}{pins:List (Addr × Obj)}{σ:St}{H:Hp}{s:Shared}{a:Addr}{y v:V}{u r:Value}{o:Option V}{A:Around}{E:Value->Shared->Prop}
theorem Inv.big (I:Inv X pins σ H s):sysModules<s.heap.objs.size:=by
 have h:mainGlobals<s.heap.objs.size:=(I.mod.glob.keeps I.bk).lt;exact Nat.lt_trans (by decide) h
theorem Zq1 {Q:Value->Shared->Prop}(hu:A.units+1<cLine) (I:Inv X pins σ H s) (g:DGet H a y (some v)) (ry:RelV y u) (h:∀w' s',Inv X pins σ H s' -> RelV v w' -> Q w' s') :
  wpAny (model X.prog X.w) A (getItem (.ref a) u) Q E s:=by
 rcases g with ⟨kvs,k,e,ey,l⟩|⟨kvs,k,b,e,ey,eb,l⟩
 ·subst ey
  obtain⟨z,hd,vs,rel,dd⟩:=Zn9 I.hok e;obtain⟨w',hw,rw'⟩:=RelO.some_of (v:=v) (o:=valueAt vs k) (by rw[l];exact rel.val k);exact wpAny_getItem_of (Zre ry) dd.mapOf hw<|h w' _ (I.tok _) rw'
 ·subst ey
  cases (show u=Value.ref b from ry);obtain⟨z,hd,xs,rel,dd⟩:=Zrk I.hok e;obtain⟨w',hw,rw'⟩:=RelO.some_of (v:=v) (o:=(atKey xs k).map (·.2)) (by rw[l];exact rel.val k);obtain⟨p,hp,hp2⟩:=Option.map_eq_some_iff.mp hw;refine wpAny_getItem_heap (tupleKind_room_in1 hu) (Zlb I.hok eb) dd hp ?_;rw[hp2];exact h w' _ (I.tok _) rw'
theorem d_in {Q:Value->Shared->Prop}(hu:A.units+1<cLine) (I:Inv X pins σ H s) (g:DGet H a y o) (ry:RelV y u) (h:∀s',Inv X pins σ H s' -> Q (.bool o.isSome) s') :
  wpAny (model X.prog X.w) A (compareOp .In u (.ref a)) Q E s:=by
 rcases g with ⟨kvs,k,e,ey,l⟩|⟨kvs,k,b,e,ey,eb,l⟩
 ·subst ey
  obtain⟨z,hd,vs,rel,dd⟩:=Zn9 I.hok e;refine wpAny_in_of (Zre ry) hd dd.mapOf ?_;rw[<- (rel.val k).isSome_eq,<- l];exact h _<|I.tok _
 ·subst ey
  cases (show u=Value.ref b from ry);obtain⟨z,hd,xs,rel,dd⟩:=Zrk I.hok e;refine wpAny_in_heap (tupleKind_room_in1 hu) (Zlb I.hok eb) hd dd ?_;have q:=(rel.val k).isSome_eq;rw[Wep]at q;rw[<- q,<- l];exact h _<|I.tok _
theorem Zwa {Q:Value->Shared->Prop}(hu:A.units+1<cLine) (I:Inv X pins σ H s) (g:DGet H a y o) (ry:RelV y u) (h:∀s',Inv X pins σ H s' -> Q (.bool (!o.isSome)) s') :
  wpAny (model X.prog X.w) A (compareOp .NotIn u (.ref a)) Q E s:=by
 rcases g with ⟨kvs,k,e,ey,l⟩|⟨kvs,k,b,e,ey,eb,l⟩
 ·subst ey
  obtain⟨z,hd,vs,rel,dd⟩:=Zn9 I.hok e;refine wpAny_notIn_of (Zre ry) hd dd.mapOf ?_;rw[<- (rel.val k).isSome_eq,<- l];exact h _<|I.tok _
 ·subst ey
  cases (show u=Value.ref b from ry);obtain⟨z,hd,xs,rel,dd⟩:=Zrk I.hok e;refine wpAny_notIn_heap (tupleKind_room_in1 hu) (Zlb I.hok eb) hd dd ?_;have q:=(rel.val k).isSome_eq;rw[Wep]at q;rw[<- q,<- l];exact h _<|I.tok _
theorem Zmj {h':Heap}{t':Nat}{ob:HO}(I:Inv X pins σ H s) (mu:Mut (H a)) (hs:Heap.SameBut a s.heap h') (he:∃q,h'.get? a=some q) (new:ObjOk X.prog X.w (upd H a ob) h' a ob) :
  Inv X pins σ (upd H a ob) { s with heap:=h',toks:=t' }:=
 I.write (x:=a) (e:=a) mu (.inl rfl) (λb q hb z=>(hs.2 b hb).trans z) he new
theorem Zx3 {P:Program}{w:World}{H':Hp}{h':Heap}{kvs:List (Key × V)}{vs:List (Key × Value)}(z:kvs.length<=sizeLine) (hd:(a == sysModules)=false) (rel:KV kvs vs) (dd:h'.DictOf (mixKind P w) a vs) :
  ObjOk P w H' h' a (.dK kvs):=⟨z,hd,vs,rel,dd⟩
theorem Zoy {H':Hp}{Q:Unit->Shared->Prop}(hu:A.units+1<cLine) (I:Inv X pins σ H s) (g:DPut H a y v H') (ry:RelV y u) (rv:RelV v r) (h:∀s',Inv X pins σ H' s' -> Q () s') :
  wpAny (model X.prog X.w) A (setItem (.ref a) u r) Q E s:=by
 rcases g with ⟨kvs,k,e,ey,l,eH⟩|⟨kvs,k,b,e,ey,eb,l,eH⟩
 ·subst ey eH
  obtain⟨z,hd,vs,rel,dd⟩:=Zzj I.hok e;have hz:vs.length<=sizeLine:=by rw[<- rel.length];exact z
  have hl:(putK kvs k v).length<=sizeLine:=by have:=Zh1 kvs k v;omega
  refine wpAny_setItem_pairs (hsz:=hz) (Zre ry) dd λh' dd' hs=>h _ ?_;have he:∃q,h'.get? a=some q:=let ⟨q,_,_,hq,_⟩:=dd'; ⟨q,hq⟩
  exact Zmj I (by rw[e];exact True.intro) hs he<|Zx3 hl hd (rel.put k rv) dd'
 ·subst ey eH
  cases (show u=Value.ref b from ry);obtain⟨z,hd,xs,rel,dd⟩:=Zzi I.hok e;have hz:xs.length<=sizeLine:=by rw[<- Paired.length rel];exact z
  have hl:(putK kvs k v).length<=sizeLine:=by have:=Zh1 kvs k v;omega
  refine wpAny_setItem_heap (hsz:=hz) (tupleKind_room_in1 hu) (Zlb I.hok eb) dd λh' dd' hs=>h _ ?_;obtain⟨q,es,ep,hq,h2,h3,h4,_,h5⟩:=dd';refine Zmj I (by rw[e];exact True.intro) hs ⟨q,hq⟩ ⟨hl,hd,_,(rel.put k eb rv).keeps λc ys ec=>?_,q,es,ep,hq,h2,h3,h4,h5⟩;rw[Za9 (Zzm ec e λz=>nomatch z)];exact ec
end
section
variable {X:Cx}{pins:List (Addr × Obj)}{σ:St}{H:Hp}{s:Shared}{a:Addr}{kvs:List (Key × V)}{k:Key}{u:Value}{A:Around}{E:Value->Shared->Prop}
theorem Zy9 {Q:Value->Shared->Prop}(I:Inv X pins σ H s) (e:Rd H a (.dK kvs)) (h:∀t s',Inv X pins σ H s' -> Q (.int kvs.length t) s'):wpAny (model X.prog X.w) A (call (.builtin "len") [.ref a]) Q E s:=by
 obtain⟨z,hd,vs,rel,dd⟩:=Zn9 I.hok e;refine call_len_dict hd dd (by rw[<- rel.length];rw[sizeLine_eq]at z;omega) ?_;rw[<- rel.length];exact h _ _<|I.tok _
end
theorem Zlk {X:Cx}{pins:List (Addr × Obj)}{σ:St}{H:Hp}{s:Shared}{a:Addr}{y:V}{o:Option V}(I:Inv X pins σ H s) (g:DGet H a y o):s.TypeIs (.ref a) "dict":=by
 rcases g with ⟨kvs,k,e,_,_⟩|⟨kvs,k,b,e,_,_,_⟩
 ·obtain⟨_,_,vs,_,dd⟩:=Zn9 I.hok e
  exact dd.typeIs
 ·obtain⟨_,_,xs,_,dd⟩:=Zrk I.hok e
  exact dd.typeIs
theorem Zso {P:Program}{w:World}{H:Hp}(h:Heap) (hb:sysModules<h.objs.size):ObjOk P w H (h.push { cls:=.type "dict",data:=.dict #[] }) h.objs.size (.dK []):=
 ⟨Wcl _,beq_eq_false_iff_ne.mpr<|Ne.symm<|Wa2 hb,[],.nil,Heap.DictOf.new h⟩
def tDNewK:TE:=λ_ H Q=>∀p,H p=none->Q (.ref p) (upd H p (.dK []))
section
variable {X:Cx}{pos:Pos}
theorem Zjo:PE X (.Dict [] [] pos) tDNewK:=λpins s σ H Q I h=>
 wpAny_Dict_empty ⟨.ref s.heap.objs.size,_,I.laid (a:=s.heap.objs.size) (o:=.dK []) (t':=s.toks) (λ_ _ q=>Waf _ q) (Wak _)<|Zso s.heap I.big,rfl,h _<|I.hok.fresh<|Wak _⟩
end
section
variable {X:Cx}{o e f:Expr}{apos cpos:Pos}{td ty tx:TE}
end
section
variable {X:Cx}{pins:List (Addr × Obj)}{σ:St}{H:Hp}{s:Shared}{a:Addr}{y:V}{u:Value}{A:Around}{E:Value->Shared->Prop}
end
end L2
namespace L2
open PySem PySem.Spec PyProof.Rows
section
variable {X:Cx}
theorem Zrx:CallR X (.builtin "len") (λxs H Q=>∃a kvs,xs=[V.ref a]/\H a=some (.dK kvs)/\Q (.int kvs.length) H):=by
 intro pins s σ H xs us Q I r h;obtain⟨a,kvs,rfl,ha,q⟩:=h;obtain⟨u,rfl,ru⟩:=vals1 r;cases ru;exact Zy9 I (.inl ha) λt s' I'=>⟨.int kvs.length,H,I',⟨t,rfl⟩,q⟩
end
def clOf (env:Env):List (Str × NameKind)->List (Str × Addr)->List (Str × Addr)
 |[],cs=>cs
 | (n,k)::r,cs=>if k == .free then (match env.cells.lookup n with
     |some a=>clOf env r ((n,a)::cs)
     |none=>clOf env r cs) else clOf env r cs
theorem Zib {env:Env}:∀(names:List (Str × NameKind)) (cs:List (Str × Addr)),(∀n,(n,NameKind.free)∈names->∃a,env.cells.lookup n=some a) →
  (forIn names cs λ(x:Str × NameKind) (cs:List (Str × Addr))=>if (x.2 == .free)=true then (do let a ← cellOf env x.1;pure (ForInStep.yield ((x.1,a)::cs))) else pure (ForInStep.yield cs):Sem (List<|Str × Addr))=pure (clOf env names cs)
 |[],cs,_=>rfl
 | (n,k)::r,cs,h=>by
  rw[List.forIn_cons];have hr:∀m,(m,NameKind.free)∈r->∃a,env.cells.lookup m=some a:=λm hm=>h m<|Wau _ hm;cases hk:k == NameKind.free with
  |false=>
   have e:clOf env ((n,k)::r) cs=clOf env r cs:=by simp[clOf,hk]
   rw[e,<- Zib r cs hr];simp only[hk,Wbh,if_false];rfl
  |true=>
   have hk':k=.free:=by simpa using hk
   subst hk';obtain⟨a,ha⟩:=h n Wam;have e:clOf env ((n,.free)::r) cs=clOf env r ((n,a)::cs):=by simp[clOf,ha]
   have ec:cellOf env n=pure a:=by simp[cellOf,ha]
   rw[e,<- Zib r ((n,a)::cs) hr];simp only[hk,if_true,ec];rfl
theorem Zdo {env:Env}{scope:Scope}(h:∀n,(n,NameKind.free)∈scope.names->∃a,env.cells.lookup n=some a):closureFor scope env=pure (clOf env scope.names []):=by
 rw[<- Zib scope.names [] h];simp only[closureFor];exact Eq.trans (bind_pure _) rfl
theorem Zb6 {env:Env}:∀(names:List (Str × NameKind)) (cs:List (Str × Addr)) {x:Str}{c:Addr},(∀y d,cs.lookup y=some d->env.cells.lookup y=some d)->(clOf env names cs).lookup x=some c->env.cells.lookup x=some c
 |[],cs,x,c,h,e=>h x c e
 | (n,k)::r,cs,x,c,h,e=>by
  unfold clOf at e;split at e
  ·split at e
   ·rename_i a ha
    refine Zb6 r ((n,a)::cs) (λy d q=>?_) e;rw[Wcf]at q;split at q
    ·rename_i hy
     have hy':y=n:=by simpa using hy
     cases q;rw[hy'];exact ha
    ·exact h y d q
   ·exact Zb6 r cs h e
  ·exact Zb6 r cs h e
theorem Zf9 {env:Env}:∀(names:List (Str × NameKind)) (cs:List (Str × Addr)) {x:Str},(∃c,cs.lookup x=some c)->∃c,(clOf env names cs).lookup x=some c
 |[],cs,x,h=>h
 | (n,k)::r,cs,x,h=>by
  have h2:∀a,∃c,((n,a)::cs).lookup x=some c:=λa=>by
   rw[Wcf];split
   ·exact⟨_,rfl⟩
   ·exact h
  unfold clOf;split
  ·split
   ·exact Zf9 r _<|h2 _
   ·exact Zf9 r cs h
  ·exact Zf9 r cs h
theorem Zem {env:Env}:∀(names:List (Str × NameKind)) (cs:List (Str × Addr)) {x:Str},(x,NameKind.free)∈names->(∃a,env.cells.lookup x=some a)->∃c,(clOf env names cs).lookup x=some c
 |[],_,_,h,_=>by simp at h
 | (n,k)::r,cs,x,h,⟨a,ha⟩=>by
  rcases Waq.mp h with e|hm
  ·have e1:n=x:=(congrArg Prod.fst e).symm
   have e2:k=.free:=(congrArg Prod.snd e).symm;subst e1;subst e2;have e:clOf env ((n,.free)::r) cs=clOf env r ((n,a)::cs):=by simp[clOf,ha]
   rw[e];exact Zf9 r _ ⟨a,by simp⟩
  ·unfold clOf
   split
   ·split
    ·exact Zem r _ hm ⟨a,ha⟩
    ·exact Zem r _ hm ⟨a,ha⟩
   ·exact Zem r _ hm ⟨a,ha⟩
def relab (osc scope:Scope):Scope:=
 { scope with names:=scope.names.map λ(n,k)=>if (k == .free && osc.kind == .function && osc.names.lookup n == some .cell) then (n,.cell) else (n,k) }
theorem Zks {osc scope:Scope}{x:Str}{k:NameKind}(hk:k=.cell\/k=.free) (hc:∀y∈scope.names,y.2≠.cell) (h:(relab osc scope).names.lookup x=some k):(x,NameKind.free)∈scope.names:=by
 have hm:=PySem.mem_of_lookup h;obtain⟨⟨n,j⟩,hy,e⟩:=Wa3.mp hm;dsimp only at e;split at e
 ·rename_i hj
  have e1:n=x:=congrArg Prod.fst e;have hj':j=.free:=by
   simp only[Wbj,beq_iff_eq]at hj;exact hj.1.1
  rw[<- e1,<- hj'];exact hy
 ·have e1:n=x:=congrArg Prod.fst e
  have e2:j=k:=congrArg Prod.snd e;rcases hk with z|z
  ·exact absurd (show ((n,j):Str × NameKind).2=.cell from e2.trans z)<|hc _ hy
  ·rw[<- e1,<- z,<- e2];exact hy
theorem Zgm {osc:Scope}{x:Str}:∀{names:List (Str × NameKind)},names.lookup x=some .free →
  (names.map λ(n,k)=>if (k == NameKind.free && osc.kind == .function && osc.names.lookup n == some .cell) then (n,NameKind.cell) else (n,k)).lookup x=some .cell ∨
  (names.map λ(n,k)=>if (k == NameKind.free && osc.kind == .function && osc.names.lookup n == some .cell) then (n,NameKind.cell) else (n,k)).lookup x=some .free
 |[],h=>by simp at h
 | (n,k)::r,h=>by
  have ih:=@Zgm osc x r;rw[Wbg];cases hx:x == n with
  |true=>
   simp only[Wcf,hx]at h;cases h;dsimp only;split
   ·left;simp[Wcf,hx]
   ·right;simp[Wcf,hx]
  |false=>
   simp only[Wcf,hx]at h;dsimp only;split
   ·simpa only[Wcf,hx] using ih h
   ·simpa only[Wcf,hx] using ih h
structure CompSc (osc:Scope) (oN:List Str) (scope:Scope) (fvs:List Str) (sel:List Nat):Prop where
 kind:scope.kind=.function
 nocell:∀y∈scope.names,y.2≠.cell
 names:∀y∈scope.names,y.2=.local->scope.names.lookup y.1=some .local
 free:∀y∈scope.names,y.2=.free->osc.names.lookup y.1=some .cell\/osc.names.lookup y.1=some .free
 len:fvs.length=sel.length
 fv:∀p∈fvs.zip sel,oN[p.2]?=some p.1/\scope.names.lookup p.1=some .free
def compCx (X:Cx) (scope:Scope) (N:List Str) (C:Addr) (s:Shared) (H:Hp) (ex:List Addr) (pn:List (Addr × Obj)):Cx where
 prog:=X.prog
 w:=X.w
 K:=X.K
 mg:=X.mg
 base:=X.base
 A:=X.A
 N:=N
 s₀:=s
 H₀:=H
 env:=compEnvC scope (clOf X.env scope.names []) C X.env
 outer:=X.stack
 stack:=X.stack
 ex:=ex
 fn:=λ_=>false
 calm:=X.calm
 pn:=pn
 xe:=λ_ _=>False
def compSt (n:Nat) (sel:List Nat) (σ:St):St:=Wal n none++sel.map λi=>(σ[i]?).getD none
section
variable {X:Cx}{pins:List (Addr × Obj)}{σ:St}{H:Hp}{s:Shared}{fp:List Addr}{scope:Scope}{tgs fvs:List Str}{sel:List Nat}
theorem Zgs (S:CompSc X.env.scope X.N scope fvs sel) (ok:X.Ok):∀n,(n,NameKind.free)∈scope.names->∃a,X.env.cells.lookup n=some a:=λn hn=>
 ok.has n (S.free _ hn rfl)
theorem Zvq (S:CompSc X.env.scope X.N scope fvs sel) (N:List Str) (I:Inv X pins σ H s) (hf:∀b∈fp,FpOk X pins H b) (hlt:∀b∈fp,b<s.heap.objs.size):(compCx X scope N s.heap.objs.size s H fp<|X.pn++pins).Ok where
 mod:=I.ok.mod
 kind:=S.kind
 glob:=I.ok.glob
 blt:=I.ok.blt
 above:=Wak _
 inj:=λx y c h1 h2=>I.ok.inj x y c (Zb6 _ _ (λ_ _ z=>by simp at z) h1)<|Zb6 _ _ (λ_ _ z=>by simp at z) h2
 has:=λx hx=>by
  have hm:(x,NameKind.free)∈scope.names:=by
   rcases hx with z|z
   ·exact Zks (osc:=X.env.scope) (.inl rfl) S.nocell z
   ·exact Zks (osc:=X.env.scope) (.inr rfl) S.nocell z
  exact Zem scope.names [] hm<|Zgs S I.ok x hm
 cab:=λx c h _=>by cases h
 hd:=I.ok.hd
 frames:=I.ok.frames
 stk:=.inl rfl
 exf:=λb hb=>⟨Wa2<|hlt b hb,λx c e=>(hf b hb).2.2.2.2.1 x c (Zb6 _ _ (λ_ _ z=>by simp at z) e)⟩
 bs:=I.bs
 bsz:=Wbz I.ok.bsz I.sz
 noex:=λb o e hb=>by
  rcases(hf b hb).2.2.2.1 with z|z
  ·exact I.ok.noex b o e z
  ·exact absurd (Wbp (Was e)<|Wbz I.ok.bsz z)<|Wc5 _
 exfs:=λb hb z=>by
  rcases Waq.mp (I.stkSub b z) with e|z
  ·exact(hf b hb).2.1 e
  ·exact(hf b hb).2.2.1 z
 funs:=I.stack
 frf:=I.stkFree
theorem Zsi (S:CompSc X.env.scope X.N scope fvs sel) (I:Inv X pins σ H s) (hf:∀b∈fp,FpOk X pins H b) (hlt:∀b∈fp,b<s.heap.objs.size) {h':Heap}{tk:Nat}{m:Str->Option Value}
  (hns:h'.Ns s.heap.objs.size m) (old:∀b o,s.heap.get? b=some o->h'.get? b=some o) :
  Inv (compCx X scope (tgs++fvs) s.heap.objs.size s H fp<|X.pn++pins) [] (compSt tgs.length sel σ) H { s with heap:=h',toks:=tk } where
 ok:=Zvq S _ I hf hlt
 os:=rfl
 bare:=I.bare
 base:=Un.kept old
 loc:=by
  refine⟨m,hns,λi x v h1 h2 h3=>?_⟩;have h1:(tgs++fvs)[i]?=some x:=h1;unfold compSt at h2;by_cases hi:i<tgs.length
  ·rw[Wbc (by simpa using hi),Wc2,if_pos hi]at h2
   cases h2
  ·have hi':tgs.length<=i:=Nat.le_of_not_lt hi
   rw[Wa1 (by simpa using hi'),Wad,Wa8]at h2;rw[Wa1 hi']at h1;cases hj:sel[i-tgs.length]? with
   |none=>rw[hj]at h2;cases h2
   |some j=>
    rw[hj]at h2;have h2:(σ[j]?).getD none=some v:=by simpa using h2
    have hz:(x,j)∈fvs.zip sel:=by
     refine Way (i:=i-tgs.length) ?_;rw[Wce];exact⟨h1,hj⟩
    obtain⟨hN,hfr⟩:=S.fv _ hz;have hσ:σ[j]?=some (some v):=by
     cases q:σ[j]? with
     |none=>rw[q]at h2;cases h2
     |some o=>rw[q]at h2;exact congrArg some h2
    have hko:X.env.scope.names.lookup x=some .cell\/X.env.scope.names.lookup x=some .free:=S.free (x,.free) (PySem.mem_of_lookup hfr) rfl;obtain⟨m0,hn0,hl0⟩:=I.loc;obtain⟨u,r,l⟩:=hl0 j x v hN hσ (.inr hko);refine⟨u,r,.inr ⟨Zgm hfr,?_⟩⟩;rcases l with ⟨hk,_⟩|⟨_,c,hc,hcell⟩
    ·have hk:X.env.scope.names.lookup x=some .local:=hk
     rcases hko with z|z <;> (rw[hk]at z;cases z)
    ·obtain⟨c',hc'⟩:=Zem scope.names [] (PySem.mem_of_lookup hfr) ⟨c,hc⟩
     have e:=Zb6 scope.names [] (λ_ _ z=>by simp at z) hc';rw[hc]at e;cases e;obtain⟨o,ho,hd⟩:=hcell;exact⟨c,hc',o,old _ _ ho,hd⟩
 cell:=λx c e=>by
  obtain⟨v,o,ho,hd⟩:=I.cell x c<|Zb6 _ _ (λ_ _ z=>by simp at z) e;exact⟨v,o,old _ _ ho,hd⟩
 free:=I.hok.fresh<|Wak _
 freeC:=λx c e=>I.freeC x c<|Zb6 _ _ (λ_ _ z=>by simp at z) e
 pin:=λp hp=>by
  have hp:p∈(X.pn++pins)++[]:=hp;rw[Wa4]at hp;obtain⟨e,n,ne,nf,d⟩:=I.pin p hp;refine⟨old _ _ e,n,Wa2<|Was e,λz=>?_,d⟩;rcases Waq.mp (I.stkSub p.1 z) with q|q
  ·exact ne q
  ·exact nf q
 hok:=I.hok.kept old
 len:=by
  unfold compSt;show _=(tgs++fvs).length;rw[Wan,Wan,Wa8,Wab,S.len]
theorem Zpp {N:List Str}{σ':St}{H':Hp}{s':Shared}{h':Heap}(I:Inv X pins σ H s) (hf:∀b∈fp,FpOk X pins H b)
  (J:Inv (compCx X scope N s.heap.objs.size s H fp<|X.pn++pins) [] σ' H' s') (sb:Heap.SameBut s.heap.objs.size s'.heap h'):Inv X pins σ H' { s' with heap:=h' }:=by
 have B:Un (frs X.stack) fp H H' s.heap s'.heap:=J.base;have ne:∀b o,s.heap.get? b=some o->b≠s.heap.objs.size:=λb o e=>Wa2<|Was e;have fr:H' s.heap.objs.size=none:=J.free;refine I.call' (s':={ s' with heap:=h' }) (ch:=fp) J.os ⟨λb o e n h1 h2=>?_,λb o e n h1 h2=>?_,B.free,λb o e h2=>?_,B.tups,B.frzs,B.tbls⟩ (λb ob e=>?_) J.bare λb hb=>?_
 ·exact(sb.2 b<|ne b o e).trans (B.keep b o e n h1 h2)
 ·obtain⟨sl,q⟩:=B.slot b o e n h1 h2
  exact⟨sl,(sb.2 b<|ne b o e).trans q⟩
 ·obtain⟨o',q⟩:=B.there b o e h2
  exact⟨o',(sb.2 b<|ne b o e).trans q⟩
 ·refine(J.hok b ob e).stay (λc w' hc q=>(sb.2 c ?_).trans q) (λ_ q=>q) λ_ _ q=>q
  intro z;rcases hc with hc|hc
  ·rw[<- hc,z,fr]at e;cases e
  ·rw[z,fr]at hc;cases hc
 ·exact⟨(hf b hb).2.2.2.1,(hf b hb).2.1,(hf b hb).2.2.2.2.1,(hf b hb).2.2.2.2.2⟩
end
def PTs (X:Cx) (ifs:List Expr) (t:TT):Prop:=
 ∀(pins:List (Addr × Obj)) (s:Shared) (σ:St) (H:Hp) (Q:Bool->Hp->Prop),Inv X pins σ H s->t σ H Q →
  wpAny (model X.prog X.w) X.A (forIn ifs true λc r=>if r=true then do let ok ← isTrue c X.env (eval c X.env);pure (ForInStep.yield ok) else pure (ForInStep.yield r)) (TP X pins σ Q) X.xe s
def tTrue:TT:=λ_ H Q=>Q true H
theorem Zd2 {X:Cx}:PTs X [] tTrue:=λpins s σ H Q I h=>wpAny_tests_nil ⟨H,I,h⟩
theorem Zc3 {X:Cx}{c:Expr}{t:TT}(h:PT X c t):PTs X [c] t:=λpins s σ H Q I hq=>wpAny_tests_one<|h pins s σ H Q I hq
def tComp (n:Nat) (sel:List Nat) (wi:TI) (g:TG) (tc:TT) (te:TE):TE:=λσ H Q=>wi σ H λJ H1=>∀acc,H1 acc=none->∃W:Nat->Nat->St->Hp->Prop,
 (∃m,W 0 m (compSt n sel σ) (upd H1 acc (.lst [])))/\∀i m σ' H',W i m σ' H' →
  (J.stop i H' /\ Q (.ref acc) H')\/(J.go i H' /\ ∃N:St->Hp->Prop,(∀σ2 H2,N σ2 H2->∃m',m'<m/\W (i+1) m' σ2 H2) ∧
   ∀x H2,J.yld i H' x H2->g x σ' H2 λσ2 H3=>tc σ2 H3 λb H4=>if b=true then te σ2 H4 λy H5=>∃ys,H5 acc=some (.lst ys)/\ys.length<sizeLine/\N σ2 (upd H5 acc (.lst (ys++[y]))) else N σ2 H4)
section
variable {X:Cx}
theorem Zkp {elt tg iter:Expr}{ifs:List Expr}{scope:Scope}{pos:Pos}{tgs fvs:List Str}{sel:List Nat}{g:TG}{tc:TT}{te:TE}(S:CompSc X.env.scope X.N scope fvs sel) {Cm:Cx->Prop}(hc:∀C s H ex pn,Cm (compCx X scope (tgs++fvs) C s H ex pn))
  (hg:∀C s H ex pn,PG (compCx X scope (tgs++fvs) C s H ex pn) tg g) (ht:∀C s H ex pn,PTs (compCx X scope (tgs++fvs) C s H ex pn) ifs tc) (he:∀C s H ex pn,PE (compCx X scope (tgs++fvs) C s H ex pn) elt te)
  {pins:List (Addr × Obj)}{σ:St}{s:Shared}{itv:Value}{Q:VK}{E:Value->Shared->Prop}{RR:Value->Addr->Result->Shared->Prop}
  (h2:PIEG Cm X pins σ tg (λJ H1=>∀acc,H1 acc=none->∃W:Nat->Nat->St->Hp->Prop,
   (∃m,W 0 m (compSt tgs.length sel σ) (upd H1 acc (.lst [])))/\∀i m σ' H',W i m σ' H' →
   (J.stop i H' /\ Q (.ref acc) H')\/(J.go i H' /\ ∃N:St->Hp->Prop,(∀σ2 H2,N σ2 H2->∃m',m'<m/\W (i+1) m' σ2 H2) ∧
   ∀x H2,J.yld i H' x H2->g x σ' H2 λσ2 H3=>tc σ2 H3 λb H4=>if b=true then te σ2 H4 λy H5=>∃ys,H5 acc=some (.lst ys)/\ys.length<sizeLine/\N σ2 (upd H5 acc (.lst (ys++[y]))) else N σ2 H4)) itv s)
  (fin:∀(s':Shared) (C acc:Addr) (H':Hp) (m:Str->Option Value),s'.heap.Ns C m->FpOk X pins H' C->(∀h',Heap.SameBut C s'.heap h' -> Inv X pins σ H' { s' with heap:=h' })->Q (.ref acc) H' -> RR (.ref acc) C (.ok .next) s') :
  wpAny (model X.prog X.w) X.A (newList []) (λacc s3=>wpAny (model X.prog X.w) X.A (newFunctionEnv scope X.env.globals (clOf X.env scope.names []) [] X.env.qual none .none (some X.env)) (λcenv s4=>
   codeAny (model X.prog X.w) X.A (.compStart (.ListComp elt [⟨tg,iter,ifs,0⟩] scope pos) 0 itv acc { cenv with scope:=relabel scope X.env }) (RR acc cenv.locals) s4) E s3) E s:=by
 obtain⟨it,fp,tn,J,H1,e,I,T,st,f2,h2⟩:=h2;subst e;have hlt:∀b∈fp,b<s.heap.objs.size:=λb hb=>let ⟨o,ho,_⟩:=T.obj 0 _ st b hb; Was ho
 refine wpAny_newObj_type<|wpAny_newFunctionEnv S.nocell (by intro y hy;simp at hy) (λh1 hns hsb=>?_) S.kind;dsimp only at hns hsb ⊢;have I3:Inv X pins σ (upd H1 s.heap.objs.size (.lst [])) { s with heap:=s.heap.push { cls:=.type "list",data:=.seq ([]:List Value).toArray },toks:=s.toks }:=I.lnew (its:=[]) .nil (by decide);have hacc:H1 s.heap.objs.size=none:=I.hok.fresh<|Wak _;obtain⟨W,⟨m0,w0⟩,turn⟩:=h2 s.heap.objs.size hacc;generalize hs3:({ s with heap:=s.heap.push { cls:=.type "list",data:=.seq ([]:List Value).toArray },toks:=s.toks }:Shared)=s3 at I3;have hh3:s3.heap=s.heap.push { cls:=.type "list",data:=.seq ([]:List Value).toArray }:=by rw[<- hs3]
 have old3:∀b o,s.heap.get? b=some o->s3.heap.get? b=some o:=λb o q=>by rw[hh3];exact Waf _ q
 have hf3:∀b∈fp,FpOk X pins (upd H1 s.heap.objs.size (.lst [])) b:=λb hb=>⟨by rw[Za9 (Wa2<|hlt b hb)];exact(f2 b hb).1,(f2 b hb).2⟩;have hlt3:∀b∈fp,b<s3.heap.objs.size:=λb hb=>by rw[hh3,Wd2];exact Wb7<|hlt b hb
 have tn3:tn 0 s3.heap:=T.keep 0 _ _ st λb hb o q=>old3 b o q;have old4:∀b o,s3.heap.get? b=some o->h1.get? b=some o:=λb o q=>by
  have hb:b≠s3.heap.objs.size:=Wa2<|Was q;rw[hh3]at hb q;exact(hsb.2 b hb).trans (Waf _ q)
 have tn4:tn 0 h1:=T.keep 0 _ _ tn3 λb hb o q=>old4 b o q;have hC:(s.heap.push { cls:=.type "list",data:=.seq ([]:List Value).toArray }).objs.size=s3.heap.objs.size:=by rw[hh3]
 rw[hC]at hns;have J0:=Zsi (tgs:=tgs) (tk:=s.toks+([]:List (Str × Value)).length) S I3 hf3 hlt3 hns old4;have es:({ s3 with heap:=h1,toks:=s.toks+([]:List (Str × Value)).length }:Shared) = { s with heap:=h1,toks:=s.toks+([]:List (Str × Value)).length }:=by rw[<- hs3]
 rw[es]at J0;generalize hY:compCx X scope (tgs++fvs) s3.heap.objs.size s3 (upd H1 s.heap.objs.size (.lst [])) fp (X.pn++pins)=Y at J0;have hYp:Y.prog=X.prog:=by rw[<- hY];rfl
 have hYw:Y.w=X.w:=by rw[<- hY];rfl
 have hYK:Y.K=X.K:=by rw[<- hY];rfl
 have hYA:Y.A=X.A:=by rw[<- hY];rfl
 have hYc:Cm Y:=by rw[<- hY];exact hc _ _ _ _ _
 have hYx:Y.xe=λ_ _=>False:=by rw[<- hY];rfl
 have hYe:Y.env=compEnvC scope (clOf X.env scope.names []) s3.heap.objs.size X.env:=by rw[<- hY];rfl
 have stat:∀{H':Hp},(∀b∈fp,H' b=none)->∀b∈fp,FpOk Y [] H' b:=λhn b hb=>by
  rw[<- hY];refine⟨hn b hb,Wa2<|hlt3 b hb,λz=>?_,.inl hb,λx c e=>?_,λp hp z=>?_⟩
  ·rcases Waq.mp (I3.stkSub b z) with q|q
   ·exact(hf3 b hb).2.1 q
   ·exact(hf3 b hb).2.2.1 q
  ·exact(hf3 b hb).2.2.2.2.1 x c (Zb6 _ _ (λ_ _ z=>by simp at z) e)
  ·have hp:p∈(X.pn++pins)++[]:=hp
   rw[Wa4]at hp;exact(hf3 b hb).2.2.2.2.2 p hp z
 have loop:codeAny (model X.prog X.w) X.A (.compLoop (.ListComp elt [⟨tg,iter,ifs,0⟩] scope pos) 0 (.ref it) (.ref s.heap.objs.size) Y.env) (RR (.ref s.heap.objs.size) s3.heap.objs.size)
   { s with heap:=h1,toks:=s.toks+([]:List (Str × Value)).length }:=by
  refine codeAny_loop rfl (λn s'=>∃i σ' H',Inv Y [] σ' H' s' /\ tn i s'.heap/\(∀b∈fp,H' b=none)/\W i n σ' H') ?_ m0 ⟨0,_,_,J0,tn4,λb hb=>(hf3 b hb).1,w0⟩;rintro n s5 ⟨i,σ5,H5,I5,st5,fr5,w5⟩;show wpAny _ X.A ((compTurn (.ListComp elt [⟨tg,iter,ifs,0⟩] scope pos) 0 (.ref it) (.ref s.heap.objs.size) Y.env).onRaise (λx=>do noteFrame x Y.env;theTreesLotGoes x)) _ _ s5;refine wpAny_noted (wpAny_mono (E:=λ_ _=>False) ?_ (λ_ _ q=>q) λ_ _ z=>z.elim);rw[compTurn_list];refine wpAny_bind<|wpAny_standAt<|wpAny_bind ?_;rcases turn i n σ5 H5 w5 with ⟨stop,qn⟩|⟨go,N,hN,step⟩
  ·have D:=T.done Y hYp hYw hYK hYc i [] s5 σ5 H5 (λ_ _=>False) I5 (stat fr5) st5 stop
   rw[hYA]at D;refine thn D λr s6 ⟨hr,I6⟩=>?_;subst hr;refine wpAny_pure ?_;obtain⟨m6,hn6,_⟩:=I6.loc;rw[hYe]at hn6;refine fin s6 _ _ H5 m6 hn6 (I3.fpOk (Wak _) (by have z:=I6.free;rw[hYe]at z;exact z)) (λh' sb=>?_) qn;have I6':Inv (compCx X scope (tgs++fvs) s3.heap.objs.size s3 (upd H1 s.heap.objs.size (.lst [])) fp<|X.pn++pins) [] σ5 H5 s6:=by rw[hY];exact I6
   exact Zpp I3 hf3 I6' sb
  ·have D:=T.item Y hYp hYw hYK hYc i [] s5 σ5 H5 (λ_ _=>False) I5 (stat fr5) st5 go
   rw[hYA]at D;refine thn D λr s6 ⟨u,hr,h6⟩=>?_;subst hr;refine wpAny_bind (thn h6 λ_ s7 ⟨x,H7,I7,r7,y7,st7,fr7⟩=>?_);have I7':=I7.pinned (stat fr7)<|T.obj _ _ st7;have G:=hg s3.heap.objs.size s3 (upd H1 s.heap.objs.size (.lst [])) fp<|X.pn++pins;have TT:=ht s3.heap.objs.size s3 (upd H1 s.heap.objs.size (.lst [])) fp<|X.pn++pins;have EE:=he s3.heap.objs.size s3 (upd H1 s.heap.objs.size (.lst [])) fp<|X.pn++pins;rw[hY]at G TT EE;have G1:=G _ s7 σ5 H7 x u _ I7' r7<|step x H7 y7;rw[hYp,hYw,hYA,hYx]at G1;refine wpAny_bind (thn G1 λ_ s8 ⟨σ8,H8,I8,q8⟩=>?_);have T1:=TT _ s8 σ8 H8 _ I8 q8;rw[hYp,hYw,hYA,hYx]at T1;refine wpAny_bind (thn T1 λok s9 ⟨H9,I9,q9⟩=>?_);have again:∀{s':Shared}{σ':St}{H':Hp},Inv Y ([]++pinsAt fp s7.heap) σ' H' s' -> N σ' H' -> ∃m,m<n/\∃i σ' H',Inv Y [] σ' H' s' /\ tn i s'.heap/\(∀b∈fp,H' b=none)/\W i m σ' H':=λ{s' σ' H'} K7 n7=>by
    obtain⟨m',hm,w7⟩:=hN σ' H' n7;refine⟨m',hm,i+1,σ',H',K7.unpinned,T.keep _ _ _ st7 λb hb o e=>(K7.pin (b,o)<|Waw _<|Waw _<|Zdj hb e).1,λb hb=>?_,w7⟩;obtain⟨o,e,d⟩:=T.obj _ _ st7 b hb;exact(K7.pin (b,o)<|Waw _<|Waw _<|Zdj hb e).2.1
   cases ok with
   |false=>
    have q9:N σ8 H9:=q9;exact wpAny_pure ⟨by rw[hYe],again I9 q9⟩
   |true=>
    have q9:te σ8 H9 λy H5=>∃ys,H5 s.heap.objs.size=some (.lst ys)/\ys.length<sizeLine/\N σ8 (upd H5 s.heap.objs.size (.lst<|ys++[y])):=q9;have E1:=EE _ s9 σ8 H9 _ I9 q9;rw[hYp,hYw,hYA,hYx]at E1;refine wpAny_bind<|wpAny_bind (thn E1 λv sa ⟨y,Ha,Ia,ra,ys,ea,za,na⟩=>?_);have M:=Zdd (X:=Y) _ sa σ8 Ha (.ref s.heap.objs.size) [y] (.ref s.heap.objs.size) [v] (λ_ H=>N σ8 H) Ia rfl (.cons ra .nil) ⟨_,ys,y,rfl,rfl,ea,za,na⟩;rw[hYp,hYw,hYA,hYx]at M;refine wpAny_bind (thn M λ_ sb ⟨_,Hb,Ib,_,nb⟩=>wpAny_pure<|wpAny_pure ⟨by rw[hYe],again Ib nb⟩)
 have hcs:(relabel scope X.env)=(relabel scope X.env):=rfl;have loop':=loop;rw[hYe]at loop';show codeAny (model X.prog X.w) X.A (.compStart (.ListComp elt [⟨tg,iter,ifs,0⟩] scope pos) 0 (.ref it) (.ref s.heap.objs.size)<|compEnvC scope (clOf X.env scope.names []) (s.heap.push { cls:=.type "list",data:=.seq ([]:List Value).toArray }).objs.size X.env) (RR (.ref s.heap.objs.size) (s.heap.push { cls:=.type "list",data:=.seq ([]:List Value).toArray }).objs.size) _;rw[hC];exact codeAny_compStart_list loop'<|T.self _ 0 _ _ _ tn4 loop'
theorem Zcr {elt tg iter:Expr}{ifs:List Expr}{scope:Scope}{pos:Pos}{fvs:List Str}{sel:List Nat}{wi:TI}{g:TG}{tc:TT}{te:TE}(tgs:List Str) (S:CompSc X.env.scope X.N scope fvs sel) (hc:X.calm=true)
  (hi:PI X tg iter wi) (hg:∀C s H ex pn,PG (compCx X scope (tgs++fvs) C s H ex pn) tg g) (ht:∀C s H ex pn,PTs (compCx X scope (tgs++fvs) C s H ex pn) ifs tc) (he:∀C s H ex pn,PE (compCx X scope (tgs++fvs) C s H ex pn) elt te)
  (hs:∀x,foldedSetIterable iter X.env x=pure x:=by intro _;rfl) :
  PE X (.ListComp elt [⟨tg,iter,ifs,0⟩] scope pos) (tComp tgs.length sel wi g tc te):=by
 intro pins s σ H Q I h;rw[eval_ListComp];refine wpAny_comprehension_free (use:=none) rfl hs (Zdo<|Zgs S I.ok) S.kind S.names (thn (hi pins s σ H _ I h) λv s1 h1=>thn h1 λitv s2 h2=>?_);refine Zkp (Cm:=λX=>X.calm=true) S (λ_ _ _ _ _=>hc) hg ht he (RR:=λacc C=>compPost (model X.prog X.w) X.A X.xe none (EP X pins σ Q) acc C) (Q:=Q) h2 ?_;intro s' C acc H' m hn _ hI q;exact⟨m,hn,λh' sb=>⟨.ref acc,H',hI h' sb,rfl,q⟩⟩
theorem Zdg {elt tg iter:Expr}{ifs:List Expr}{scope:Scope}{pos spos py:Pos}{fvs:List Str}{sel:List Nat}{wi:TI}{g:TG}{tc:TT}{te:TE}{i:Nat}{y:Str}(tgs:List Str) (S:CompSc X.env.scope X.N scope fvs sel) (hc:X.calm=true)
  (hN:X.N.Nodup) (hiy:X.N[i]?=some y) (hx:Loc X.env.scope y)
  (hi:PI X tg iter wi) (hg:∀C s H ex pn,PG (compCx X scope (tgs++fvs) C s H ex pn) tg g) (ht:∀C s H ex pn,PTs (compCx X scope (tgs++fvs) C s H ex pn) ifs tc) (he:∀C s H ex pn,PE (compCx X scope (tgs++fvs) C s H ex pn) elt te)
  (hs:∀x,foldedSetIterable iter X.env x=pure x:=by intro _;rfl) (hsw:swapsWith (.ListComp elt [⟨tg,iter,ifs,0⟩] scope pos) (some (.Name y py)) spos.line X.env=pure true:=by rfl)
  (hf:X.fn y=true\/X.env.scope.names.lookup y=some .local:=by first|exact .inl rfl|exact .inr rfl|assumption) :
  PS X (.Assign [.Name y py] (.ListComp elt [⟨tg,iter,ifs,0⟩] scope pos) spos) (tAsg (tComp tgs.length sel wi g tc te)<|gName i):=by
 intro pins s σ H D I h;rw[exec_Assign_Name_used _ _ _ _ hsw];refine wpAny_bind (wpAny_standAt (wpAny_bind ?_));show wpAny _ X.A (do let _ ← comprehension (.ListComp elt [⟨tg,iter,ifs,0⟩] scope pos) scope X.env _ (newList []) false (eval iter X.env) (some (assign (.Name y py) X.env))) _ _ s;refine wpAny_bind (wpAny_mono (wpAny_comprehension_free (use:=some (assign (.Name y py) X.env)) (Q:=λ_ s'=>SP X pins D .next s') rfl hs (Zdo (Zgs S I.ok)) S.kind S.names
  (thn (hi pins s σ H _ I h) λv s1 h1=>thn h1 λitv s2 h2=>?_)) (λ_ s' hq=>wpAny_pure (wpAny_pure hq)) λ_ _ e=>e)
 refine Zkp (Cm:=λX=>X.calm=true) S (λ_ _ _ _ _=>hc) hg ht he (RR:=λacc C=>compPost (model X.prog X.w) X.A X.xe (some<|assign (.Name y py) X.env) (λ_ s'=>SP X pins D .next s') acc C) (Q:=λv H'=>D.nx (σ.set i<|some v) H') h2 ?_;intro s' C acc H' m hn fp hI q;have I0:Inv X pins σ H' s':=hI s'.heap (.refl ..);show wpAny _ X.A (assign (.Name y py) X.env (.ref acc)) _ _ _;refine wpAny_assign_Name<|Zk5 (v:=.ref acc) I0 hN hiy hx rfl (λs2 I2 hsb=>?_) hf;obtain⟨a,sb,ha⟩:=hsb;have hCa:C≠a:=by
  rcases ha with z|z
  ·rw[z];exact fp.2.1
  ·exact Ne.symm<|fp.2.2.2.2.1 y a z
 refine⟨m,hn.sameBut sb hCa,λh' sb'=>?_⟩;obtain⟨f0,f1,f2,f3,f4,f5⟩:=fp;exact⟨_,H',I2.turned (t':=s2.toks) (it:=C) (λb o hb e=>(sb'.2 b hb).trans e) f0 f1 f3 f4 f5,q⟩
end
def InsC (a C:Addr) (h:Heap):Prop:=∃ox vs,h.get? a=some ox/\ox.cls=.ref C/\ox.data=.fields vs/\vs[2]?=some .none
inductive D where
 |non|bl (b:Bool)|int (i:Int)|str (x:Str)|ty (n:String)|tup (ds:List D)|lst (ds:List D)|scr (ds:List D)|adr (a:Addr)|dct (ks:List Key) (ds:List D)|exc (a C:Addr)
mutual
inductive Rep (K:W.Frag) (G:Hp):V->D->Prop
 |non:Rep K G .non .non
 |bl (b:Bool):Rep K G (.bl b) (.bl b)
 |int (i:Int):Rep K G (.int i) (.int i)
 |str (x:Str):Rep K G (.str x) (.str x)
 |ty (n:String):Rep K G (.ty n) (.ty n)
 |tup {a:Addr}{vs:List V}{ds:List D}:G a=some (.tup vs)->Reps K G vs ds->Rep K G (.ref a) (.tup ds)
 |lst {a:Addr}{vs:List V}{ds:List D}:G a=some (.lst vs)->Reps K G vs ds->Rep K G (.ref a) (.lst ds)
 |scr {a:Addr}{vs:List V}{ds:List D}:SqL K G a vs->Reps K G vs ds->Rep K G (.ref a) (.scr ds)
 |adr (a:Addr):Rep K G (.ref a) (.adr a)
 |dct {a:Addr}{ks:List Key}{vs:List V}{ds:List D}:G a=some (.dK (ks.zip vs))->ks.length=vs.length->Reps K G vs ds->Rep K G (.ref a) (.dct ks ds)
 |exc {a C:Addr}:G a=some (.ext (InsC a C))->Rep K G (.ref a) (.exc a C)
inductive Reps (K:W.Frag) (G:Hp):List V->List D->Prop
 |nil:Reps K G [] []
 |cons {v:V}{d:D}{vs:List V}{ds:List D}:Rep K G v d->Reps K G vs ds->Reps K G (v::vs) (d::ds)
end
def RepI (K:W.Frag) (G:Hp) (v:V):D->Prop
 |.non=>v=.non
 |.bl b=>v=.bl b
 |.int i=>v=.int i
 |.str x=>v=.str x
 |.ty n=>v=.ty n
 |.tup ds=>∃a vs,v=.ref a/\G a=some (.tup vs)/\Reps K G vs ds
 |.lst ds=>∃a vs,v=.ref a/\G a=some (.lst vs)/\Reps K G vs ds
 |.scr ds=>∃a vs,v=.ref a/\SqL K G a vs/\Reps K G vs ds
 |.adr a=>v=.ref a
 |.dct ks ds=>∃a vs,v=.ref a/\G a=some (.dK (ks.zip vs))/\ks.length=vs.length/\Reps K G vs ds
 |.exc a C=>v=.ref a/\G a=some (.ext (InsC a C))
theorem Rep.inv {K:W.Frag}{G:Hp}{v:V}{d:D}(r:Rep K G v d):RepI K G v d:=by
 cases r with
 |tup h r=>exact⟨_,_,rfl,h,r⟩
 |lst h r=>exact⟨_,_,rfl,h,r⟩
 |scr h r=>exact⟨_,_,rfl,h,r⟩
 |dct h l r=>exact⟨_,_,rfl,h,l,r⟩
 |exc h=>exact⟨rfl,h⟩
 |_=>rfl
def RepsI (K:W.Frag) (G:Hp) (vs:List V):List D->Prop
 |[]=>vs=[]
 |d::ds=>∃v ws,vs=v::ws/\Rep K G v d/\Reps K G ws ds
theorem Reps.inv {K:W.Frag}{G:Hp}{vs:List V}{ds:List D}(r:Reps K G vs ds):RepsI K G vs ds:=by
 cases r with
 |nil=>rfl
 |cons a b=>exact⟨_,_,rfl,a,b⟩
section
variable {K:W.Frag}{G G' H H':Hp}
mutual
theorem Rep.mono (s:Same G G'):∀{v:V}{d:D},Rep K G v d->Rep K G' v d
 |_,_,.non=>.non
 |_,_,.bl b=>.bl b
 |_,_,.int i=>.int i
 |_,_,.str x=>.str x
 |_,_,.ty n=>.ty n
 |_,_,.tup h r=>.tup (s _ _ h) (Reps.mono s r)
 |_,_,.lst h r=>.lst (s _ _ h) (Reps.mono s r)
 |_,_,.scr h r=>.scr (s.seq h) (Reps.mono s r)
 |_,_,.adr a=>.adr a
 |_,_,.dct h l r=>.dct (s _ _ h) l (Reps.mono s r)
 |_,_,.exc h=>.exc (s _ _ h)
theorem Reps.mono (s:Same G G'):∀{vs:List V}{ds:List D},Reps K G vs ds->Reps K G' vs ds
 |_,_,.nil=>.nil
 |_,_,.cons h r=>.cons (Rep.mono s h) (Reps.mono s r)
end
theorem Reps.length:∀{vs:List V}{ds:List D},Reps K G vs ds->vs.length=ds.length
 |_,_,.nil=>rfl
 |_,_,.cons _ r=>by rw[Wat,Wat,r.length]
theorem Reps.get:∀{vs:List V}{ds:List D}{i:Nat}{d:D},Reps K G vs ds->ds[i]?=some d->∃v,vs[i]?=some v/\Rep K G v d
 |_,_,_,_,.nil,e=>by simp at e
 |_,_,0,_,.cons r _,e=>by simp at e;subst e;exact⟨_,rfl,r⟩
 |_,_,i+1,d,.cons _ t,e=>by
  obtain⟨u,h1,h2⟩:=Reps.get (i:=i) (d:=d) t (by simpa using e);exact⟨u,by simpa using h1,h2⟩
theorem Reps.append:∀{vs ws:List V}{ds es:List D},Reps K G vs ds->Reps K G ws es->Reps K G (vs++ws) (ds++es)
 |_,_,_,_,.nil,s=>s
 |_,_,_,_,.cons r t,s=>.cons r (Reps.append t s)
theorem Reps.take:∀{vs:List V}{ds:List D}(n:Nat),Reps K G vs ds->Reps K G (vs.take n) (ds.take n)
 |_,_,0,_=>.nil
 |_,_,_+1,.nil=>.nil
 |_,_,n+1,.cons r t=>.cons r (Reps.take n t)
theorem Reps.drop:∀{vs:List V}{ds:List D}(n:Nat),Reps K G vs ds->Reps K G (vs.drop n) (ds.drop n)
 |_,_,0,r=>r
 |_,_,_+1,.nil=>.nil
 |_,_,n+1,.cons _ t=>Reps.drop n t
theorem Reps.reverse {vs:List V}{ds:List D}(h:Reps K G vs ds):Reps K G vs.reverse ds.reverse:=by
 induction vs generalizing ds with
 |nil=>cases h;exact .nil
 |cons v vs ih=>
  cases h with
  |cons r t=>rw[List.reverse_cons,List.reverse_cons];exact(ih t).append (.cons r .nil)
theorem Reps.set:∀{vs:List V}{ds:List D}{v:V}{d:D}(i:Nat),Reps K G vs ds->Rep K G v d->Reps K G (vs.set i v) (ds.set i d)
 |_,_,_,_,_,.nil,_=>.nil
 |_,_,_,_,0,.cons _ t,q=>.cons q t
 |_,_,_,_,i+1,.cons r t,q=>.cons r (Reps.set i t q)
theorem Reps.eraseIdx:∀{vs:List V}{ds:List D}(i:Nat),Reps K G vs ds->Reps K G (vs.eraseIdx i) (ds.eraseIdx i)
 |_,_,_,.nil=>.nil
 |_,_,0,.cons _ t=>t
 |_,_,i+1,.cons r t=>.cons r (Reps.eraseIdx i t)
theorem Reps.ints {vs:List V}:∀{ns:List Int},Reps K G vs (ns.map D.int)->vs=ns.map V.int:=by
 induction vs with
 |nil=>intro ns h;cases ns with
  |nil=>rfl
  |cons n ns=>cases h
 |cons v vs ih=>intro ns h;cases ns with
  |nil=>cases h
  |cons n ns=>
   cases h with
   |cons r t=>cases r.inv;rw[ih t];rfl
theorem Reps.ofInts:∀(ns:List Int),Reps K G (ns.map V.int) (ns.map D.int)
 |[]=>.nil
 |n::ns=>.cons (.int n) (Reps.ofInts ns)
theorem Zj4 {vs:List V}{ds:List D}{i:Int}{d:D}(r:Reps K G vs ds) (h:atI ds i=some d):∃v,atI vs i=some v/\Rep K G v d:=by
 unfold atI at h ⊢;rw[<- r.length]at h;cases e:ixN vs.length i with
 |none=>rw[e]at h;cases h
 |some j=>rw[e]at h;exact r.get h
end
inductive OD where
 |lst (ds:List D)|dct (kvs:List (Key × D))|set (S:Int->Bool) (n:Nat)|dtt (kvs:List (List Key × D))
def OwnRep (K:W.Frag) (G:Hp):HO->OD->Prop
 |.lst vs,.lst ds=>Reps K G vs ds
 |.dK kvs,.dct kds=>Paired (λ(p:Key × V) (q:Key × D)=>p.1=q.1/\Rep K G p.2 q.2) kvs kds
 |.set S n,.set S' n'=>S=S' /\ n=n'
 |.dT kvs,.dtt kds=>Paired (λ(p:List Key × V) (q:List Key × D)=>p.1=q.1/\Rep K G p.2 q.2) kvs kds
 |_,_=>False
theorem OwnRep.mono {K:W.Frag}{G G':Hp}(s:Same G G') {o:HO}{od:OD}(h:OwnRep K G o od):OwnRep K G' o od:=by
 cases o <;> cases od <;> first
  |exact h.elim
  |exact Reps.mono s h
  |exact Paired.mapP h λ_ _ z=>⟨z.1,z.2.mono s⟩
  |exact h
inductive Slot where
 |any|val (d:D)|own (o:OD)|bor (o:OD)|ownA (a:Addr) (o:OD)
abbrev Evt:=List Slot
def Slot.od:Slot->Option OD
 |.own o=>some o
 |.bor o=>some o
 |.ownA _ o=>some o
 |_=>none
structure Gm where
 B:Addr->Prop
 F:Hp
 Hz:Hp
 Xo:Hp
def SlotAt (g:Gm) (x:Slot) (a:Addr):Prop:=match x with
 |.own _=>g.Hz a=none
 |.bor _=>g.B a
 |.ownA b _=>b=a/\g.Hz a=none
 |_=>True
structure Ok (K:W.Frag) (g:Gm) (G H:Hp) (σ:St) (Δ:Evt):Prop where
 same:∀b o,¬ g.B b->g.Hz b=some o->H b=some o
 lent:∀b,g.B b->H b≠none
 sub:Same g.F G
 frz:∀b o,G b=some o->H b=some o/\(g.Hz b=none\/g.F b=some o)
 ext:∀b o,g.Xo b=some o->H b=some o/\G b=none/\∀(i:Nat) x od,Δ[i]?=some x->x.od=some od -> σ[i]?≠some (some (.ref b))
 len:Δ.length = σ.length
 val:∀(i:Nat) d,Δ[i]?=some (.val d)->∃v,σ[i]?=some (some v)/\Rep K G v d
 own:∀(i:Nat) x od,Δ[i]?=some x->x.od=some od->∃a o,σ[i]?=some (some (.ref a))/\H a=some o/\OwnRep K G o od/\G a=none/\SlotAt g x a
 dis:∀(i j:Nat) x y od od' a,Δ[i]?=some x->x.od=some od -> Δ[j]?=some y->y.od=some od' -> σ[i]?=some (some (.ref a)) -> σ[j]?=some (some (.ref a))->i=j
section
variable {K:W.Frag}{g:Gm}{G H G' H':Hp}{σ:St}{Δ:Evt}
theorem Ok.live (k:Ok K g G H σ Δ):Same G H:=λb o e=>(k.frz b o e).1
theorem Ok.there (k:Ok K g G H σ Δ) {b:Addr}(h:H b=none):g.Hz b=none:=by
 cases e:g.Hz b with
 |none=>rfl
 |some o=>
  by_cases hb:g.B b
  ·exact absurd h<|k.lent b hb
  ·have:=k.same b o hb e
   rw[h]at this;cases this
theorem Ok.grow (k:Ok K g G H σ Δ) (sg:Same G G') (sh:Same H H') (hg:∀b o,G' b=some o->H' b=some o/\(G b=some o\/H b=none)):Ok K g G' H' σ Δ where
 same:=λb o hb e=>sh b o<|k.same b o hb e
 lent:=λb hb z=>by
  cases e:H b with
  |none=>exact k.lent b hb e
  |some o=>rw[sh b o e]at z;cases z
 sub:=k.sub.trans sg
 frz:=λb o e=>by
  obtain⟨h1,h2⟩:=hg b o e;refine⟨h1,?_⟩;rcases h2 with z|z
  ·exact(k.frz b o z).2
  ·exact .inl<|k.there z
 ext:=λb o e=>by
  obtain⟨h1,h2,h3⟩:=k.ext b o e;refine⟨sh b o h1,?_,h3⟩;cases q:G' b with
  |none=>rfl
  |some o'=>
   rcases(hg b o' q).2 with z|z
   ·rw[h2]at z;cases z
   ·rw[h1]at z;cases z
 len:=k.len
 val:=λi d e=>by
  obtain⟨v,h1,h2⟩:=k.val i d e;exact⟨v,h1,h2.mono sg⟩
 own:=λi x od e1 e2=>by
  obtain⟨a,o,h1,h2,h3,h4,h5⟩:=k.own i x od e1 e2;refine⟨a,o,h1,sh a o h2,h3.mono sg,?_,h5⟩;cases q:G' a with
  |none=>rfl
  |some o'=>
   rcases(hg a o' q).2 with z|z
   ·rw[h4]at z;cases z
   ·rw[h2]at z;cases z
 dis:=k.dis
theorem Ok.laid (k:Ok K g G H σ Δ) {p:Addr}(hp:H p=none) (o:HO):Ok K g (upd G p o) (upd H p o) σ Δ /\ Same G (upd G p o):=by
 have hG:G p=none:=by
  cases e:G p with
  |none=>rfl
  |some u=>rw[k.live p u e]at hp;cases hp
 have sg:Same G (upd G p o):=λb u e=>by rw[Za9 (Zcb e hG)];exact e
 refine⟨k.grow sg (λb u e=>by rw[Za9 (Zcb e hp)];exact e) λb u e=>?_,sg⟩;by_cases hb:b=p
 ·subst hb;rw[Za3]at e ⊢;exact⟨e,.inr hp⟩
 ·rw[Za9 hb]at e ⊢;exact⟨k.live b u e,.inl e⟩
theorem Ok.lt (k:Ok K g G H σ Δ) {i:Nat}{x:Slot}(h:Δ[i]?=some x):i < σ.length:=by
 rw[<- k.len];exact(Wah.mp h).1
def Pend (K:W.Frag) (g:Gm) (G H:Hp) (σ:St) (Δ:Evt) (a:Addr) (od:OD):Prop:=
 ∃o,H a=some o/\OwnRep K G o od/\G a=none/\g.Hz a=none/\g.Xo a=none/\∀(i:Nat) x od',Δ[i]?=some x->x.od=some od' -> σ[i]?≠some (some (.ref a))
theorem Ok.setVal (k:Ok K g G H σ Δ) {v:V}{d:D}{i:Nat}(hi:i < Δ.length) (r:Rep K G v d):Ok K g G H (σ.set i<|some v) (Δ.set i (.val d)):=by
 have hs:i < σ.length:=by rw[<- k.len];exact hi
 have old:∀(j:Nat) x od,(Δ.set i (.val d))[j]?=some x->x.od=some od->j≠i /\ Δ[j]?=some x/\(σ.set i<|some v)[j]? = σ[j]?:=λj x od e1 e2=>by
  by_cases hj:j=i
  ·subst hj
   rw[Wao hi]at e1;cases e1;cases e2
  ·rw[War (Ne.symm hj)]at e1
   exact⟨hj,e1,War<|Ne.symm hj⟩
 refine⟨k.same,k.lent,k.sub,k.frz,λb o e=>?_,by simp[k.len],λj e h=>?_,λj x od e1 e2=>?_,λj l x y od od' a e1 e2 e3 e4 e5 e6=>?_⟩
 ·obtain⟨h1,h2,h3⟩:=k.ext b o e
  refine⟨h1,h2,λj x od e1 e2=>?_⟩;obtain⟨_,q1,q2⟩:=old j x od e1 e2;rw[q2];exact h3 j x od q1 e2
 ·by_cases hj:j=i
  ·subst hj
   rw[Wao hi]at h;cases h;exact⟨v,Wao hs,r⟩
  ·rw[War (Ne.symm hj)]at h ⊢
   exact k.val j e h
 ·obtain⟨_,q1,q2⟩:=old j x od e1 e2
  rw[q2];exact k.own j x od q1 e2
 ·obtain⟨_,q1,q2⟩:=old j x od e1 e2
  obtain⟨_,q3,q4⟩:=old l y od' e3 e4;rw[q2]at e5;rw[q4]at e6;exact k.dis j l x y od od' a q1 e2 q3 e4 e5 e6
theorem Ok.setOwn (k:Ok K g G H σ Δ) {a:Addr}{od:OD}{i:Nat}(hi:i < Δ.length) (p:Pend K g G H σ Δ a od):Ok K g G H (σ.set i<|some (.ref a)) (Δ.set i (.own od)):=by
 obtain⟨o,p1,p2,p3,p4,p5,p6⟩:=p;have hs:i < σ.length:=by rw[<- k.len];exact hi
 have old:∀(j:Nat) x,j≠i->(Δ.set i (.own od))[j]?=some x -> Δ[j]?=some x/\(σ.set i<|some (.ref a))[j]? = σ[j]?:=λj x hj e1=>by
  rw[War (Ne.symm hj)]at e1;exact⟨e1,War<|Ne.symm hj⟩
 refine⟨k.same,k.lent,k.sub,k.frz,λb ob e=>?_,by simp[k.len],λj e h=>?_,λj x od' e1 e2=>?_,λj l x y od1 od2 c e1 e2 e3 e4 e5 e6=>?_⟩
 ·obtain⟨h1,h2,h3⟩:=k.ext b ob e
  refine⟨h1,h2,λj x od' e1 e2=>?_⟩;by_cases hj:j=i
  ·subst hj
   rw[Wao hs];intro z;cases z;rw[p5]at e;cases e
  ·obtain⟨q1,q2⟩:=old j x hj e1
   rw[q2];exact h3 j x od' q1 e2
 ·by_cases hj:j=i
  ·subst hj
   rw[Wao hi]at h;cases h
  ·rw[War (Ne.symm hj)]at h ⊢
   exact k.val j e h
 ·by_cases hj:j=i
  ·subst hj
   rw[Wao hi]at e1;cases e1;cases e2;exact⟨a,o,Wao hs,p1,p2,p3,p4⟩
  ·obtain⟨q1,q2⟩:=old j x hj e1
   rw[q2];exact k.own j x od' q1 e2
 ·by_cases hj:j=i
  ·by_cases hl:l=i
   ·rw[hj,hl]
   ·obtain⟨q3,q4⟩:=old l y hl e3
    rw[q4]at e6;rw[hj,Wao hs]at e5;cases e5;exact absurd e6<|p6 l y od2 q3 e4
  ·obtain⟨q1,q2⟩:=old j x hj e1
   rw[q2]at e5;by_cases hl:l=i
   ·rw[hl,Wao hs]at e6
    cases e6;exact absurd e5<|p6 j x od1 q1 e2
   ·obtain⟨q3,q4⟩:=old l y hl e3
    rw[q4]at e6;exact k.dis j l x y od1 od2 c q1 e2 q3 e4 e5 e6
def Slot.put:Slot->OD->Slot
 |.own _,o=>.own o
 |.bor _,o=>.bor o
 |.ownA a _,o=>.ownA a o
 |x,_=>x
theorem SlotAt.put {g:Gm}{x:Slot}{a:Addr}{o:OD}(h:SlotAt g x a):SlotAt g (x.put o) a:=by cases x <;> exact h
theorem SlotAt.free {g:Gm}{x:Slot}{a:Addr}{od:OD}(h:SlotAt g x a) (ho:x.od=some od):g.Hz a=none\/g.B a:=by
 cases x with
 |any=>cases ho
 |val d=>cases ho
 |own o=>exact .inl h
 |bor o=>exact .inr h
 |ownA b o=>exact .inl h.2
theorem Slot.put_od {x:Slot}{od o:OD}(h:x.od=some od):(x.put o).od=some o:=by cases x <;> cases h <;> rfl
theorem Ok.write (k:Ok K g G H σ Δ) {a:Addr}{od od':OD}{x:Slot}{i:Nat}{o':HO}(hx:Δ[i]?=some x) (hod:x.od=some od) (ha:σ[i]?=some (some (.ref a))) (r:OwnRep K G o' od'):Ok K g G (upd H a o') σ (Δ.set i<|x.put od'):=by
 obtain⟨a',o,q1,q2,q3,q4,q5⟩:=k.own i x od hx hod;rw[ha]at q1;cases q1;have hi:i < Δ.length:=(Wah.mp hx).1;have other:∀(j:Nat) y od2,(Δ.set i<|x.put od')[j]?=some y->y.od=some od2->j≠i -> Δ[j]?=some y:=λj y od2 e1 e2 hj=>by
  rw[War (Ne.symm hj)]at e1;exact e1
 have anyOd:∀(j:Nat) y od2,(Δ.set i<|x.put od')[j]?=some y->y.od=some od2->∃y' od3,Δ[j]?=some y' /\ y'.od=some od3:=λj y od2 e1 e2=>by
  by_cases hj:j=i
  ·subst hj;exact⟨x,od,hx,hod⟩
  ·exact⟨y,od2,other j y od2 e1 e2 hj,e2⟩
 refine⟨λb u hb e=>?_,λb hb=>?_,k.sub,λb u e=>?_,λb u e=>?_,by simp[k.len],λj e h=>?_,λj y od2 e1 e2=>?_,λj l y z od1 od2 c e1 e2 e3 e4 e5 e6=>?_⟩
 ·have hba:b≠a:=by
   intro z;subst z;rcases q5.free hod with z|z
   ·rw[z]at e;cases e
   ·exact hb z
  rw[Za9 hba];exact k.same b u hb e
 ·by_cases hba:b=a
  ·subst hba;rw[Za3];intro z;cases z
  ·rw[Za9 hba];exact k.lent b hb
 ·have hba:b≠a:=by intro z;subst z;rw[q4]at e;cases e
  rw[Za9 hba];exact k.frz b u e
 ·obtain⟨h1,h2,h3⟩:=k.ext b u e
  have hba:b≠a:=by intro z;subst z;exact h3 i x od hx hod ha
  rw[Za9 hba];refine⟨h1,h2,λj y od2 e1 e2=>?_⟩;obtain⟨y',od3,z1,z2⟩:=anyOd j y od2 e1 e2;exact h3 j y' od3 z1 z2
 ·by_cases hj:j=i
  ·subst hj
   rw[Wao hi]at h;cases x <;> cases hod <;> cases h
  ·rw[War (Ne.symm hj)]at h
   exact k.val j e h
 ·by_cases hj:j=i
  ·subst hj
   rw[Wao hi]at e1;cases e1;rw[Slot.put_od hod]at e2;cases e2;exact⟨a,o',ha,Za3,r,q4,q5.put⟩
  ·have e1':=other j y od2 e1 e2 hj
   obtain⟨c,oc,w1,w2,w3,w4,w5⟩:=k.own j y od2 e1' e2;have hca:c≠a:=by
    intro z;subst z;exact hj<|k.dis j i y x od2 od c e1' e2 hx hod w1 ha
   exact⟨c,oc,w1,by rw[Za9 hca];exact w2,w3,w4,w5⟩
 ·obtain⟨y',od3,z1,z2⟩:=anyOd j y od1 e1 e2
  obtain⟨y'',od4,z3,z4⟩:=anyOd l z od2 e3 e4;exact k.dis j l y' y'' od3 od4 c z1 z2 z3 z4 e5 e6
theorem Ok.freeze (k:Ok K g G H σ Δ) {a:Addr}{ds:List D}{vs:List V}(p:Pend K g G H σ Δ a (.lst ds)) (hv:H a=some (.lst vs)):Ok K g (upd G a (.lst vs)) H σ Δ /\ Same G (upd G a (.lst vs))/\Rep K (upd G a (.lst vs)) (.ref a) (.lst ds):=by
 obtain⟨o,p1,p2,p3,p4,p5,p6⟩:=p;rw[hv]at p1;cases p1;have p2:Reps K G vs ds:=p2;have sg:Same G (upd G a (.lst vs)):=λb u e=>by rw[Za9 (Zcb e p3)];exact e
 refine⟨⟨k.same,k.lent,k.sub.trans sg,λb u e=>?_,λb u e=>?_,k.len,λj d h=>?_,λj x od e1 e2=>?_,k.dis⟩,sg,.lst Za3<|p2.mono sg⟩
 ·by_cases hb:b=a
  ·subst hb;rw[Za3]at e;cases e;exact⟨hv,.inl p4⟩
  ·rw[Za9 hb]at e;exact k.frz b u e
 ·obtain⟨h1,h2,h3⟩:=k.ext b u e
  have hb:b≠a:=by intro z;subst z;rw[p5]at e;cases e
  exact⟨h1,by rw[Za9 hb];exact h2,h3⟩
 ·obtain⟨v,h1,h2⟩:=k.val j d h
  exact⟨v,h1,h2.mono sg⟩
 ·obtain⟨c,o,w1,w2,w3,w4,w5⟩:=k.own j x od e1 e2
  have hc:c≠a:=by intro z;subst z;exact p6 j x od e1 e2 w1
  exact⟨c,o,w1,w2,w3.mono sg,by rw[Za9 hc];exact w4,w5⟩
theorem Ok.drop (k:Ok K g G H σ Δ) (i:Nat):Ok K g G H σ (Δ.set i .any):=by
 have old:∀(j:Nat) x,(Δ.set i .any)[j]?=some x->x=.any\/(Δ[j]?=some x/\j≠i):=λj x e1=>by
  by_cases hj:j=i
  ·subst hj
   rw[Wcz]at e1;simp at e1;exact .inl e1.2.symm
  ·rw[War (Ne.symm hj)]at e1
   exact .inr ⟨e1,hj⟩
 have oldO:∀(j:Nat) x od,(Δ.set i .any)[j]?=some x->x.od=some od -> Δ[j]?=some x:=λj x od e1 e2=>by
  rcases old j x e1 with z|z
  ·subst z;cases e2
  ·exact z.1
 refine⟨k.same,k.lent,k.sub,k.frz,λb o e=>?_,by simp[k.len],λj e h=>?_,λj x od e1 e2=>k.own j x od (oldO j x od e1 e2) e2,λj l x y od od' a e1 e2 e3 e4=>k.dis j l x y od od' a (oldO j x od e1 e2) e2 (oldO l y od' e3 e4) e4⟩
 ·obtain⟨h1,h2,h3⟩:=k.ext b o e
  exact⟨h1,h2,λj x od e1 e2=>h3 j x od (oldO j x od e1 e2) e2⟩
 ·rcases old j _ h with z|z
  ·cases z
  ·exact k.val j e z.1
theorem Ok.take (k:Ok K g G H σ Δ) {i:Nat}{od:OD}(h:Δ[i]?=some (.own od)):∃a,σ[i]?=some (some (.ref a))/\Pend K g G H σ (Δ.set i .any) a od:=by
 obtain⟨a,o,h1,h2,h3,h4,h5⟩:=k.own i _ od h rfl;have h5:g.Hz a=none:=h5;refine⟨a,h1,o,h2,h3,h4,h5,?_,λj x od' e1 e2 e3=>?_⟩
 ·cases q:g.Xo a with
  |none=>rfl
  |some u=>exact absurd h1 ((k.ext a u q).2.2 i _ od h rfl)
 ·by_cases hj:j=i
  ·subst hj
   rw[Wcz]at e1;simp at e1;obtain⟨_,e1⟩:=e1;subst e1;cases e2
  ·rw[War (Ne.symm hj)]at e1
   exact hj<|k.dis j i x _ od' od a e1 e2 h rfl e3 h1
end
def Cont (K:W.Frag) (g:Gm) (G:Hp) (σ:St) (P:D->Evt->Prop) (Q:VK):Prop:=
 ∀v d G' H' Δ',Ok K g G' H' σ Δ' -> Same G G' -> Rep K G' v d->P d Δ' -> Q v H'
def JE (K:W.Frag) (t:TE) (Δ:Evt) (P:D->Evt->Prop):Prop:=
 ∀g G H σ Q,Ok K g G H σ Δ -> Cont K g G σ P Q->t σ H Q
def JT (K:W.Frag) (t:TT) (Δ:Evt) (P:Bool->Evt->Prop):Prop:=
 ∀g G H σ Q,Ok K g G H σ Δ -> (∀b G' H' Δ',Ok K g G' H' σ Δ' -> Same G G' -> P b Δ' -> Q b H')->t σ H Q
def JA (K:W.Frag) (t:TA) (Δ:Evt) (P:List D->Evt->Prop):Prop:=
 ∀g G H σ Q,Ok K g G H σ Δ -> (∀vs ds G' H' Δ',Ok K g G' H' σ Δ' -> Same G G' -> Reps K G' vs ds->P ds Δ' -> Q vs H')->t σ H Q
def JO (K:W.Frag) (t:TE) (Δ:Evt) (P:OD->Evt->Prop):Prop:=
 ∀g G H σ Q,Ok K g G H σ Δ -> (∀a od G' H' Δ',Ok K g G' H' σ Δ' -> Same G G' -> Pend K g G' H' σ Δ' a od->P od Δ' -> Q (.ref a) H')->t σ H Q
def JR2 (K:W.Frag) (r:R2) (d e:D) (Δ:Evt) (P:D->Evt->Prop):Prop:=
 ∀g G H σ Q x y,Ok K g G H σ Δ -> Rep K G x d->Rep K G y e->Cont K g G σ P Q->r x y H Q
def JR1 (K:W.Frag) (r:V->Hp->VK->Prop) (d:D) (Δ:Evt) (P:D->Evt->Prop):Prop:=
 ∀g G H σ Q x,Ok K g G H σ Δ -> Rep K G x d->Cont K g G σ P Q->r x H Q
def JC (K:W.Frag) (r:List V->Hp->VK->Prop) (ds:List D) (Δ:Evt) (P:D->Evt->Prop):Prop:=
 ∀g G H σ Q vs,Ok K g G H σ Δ -> Reps K G vs ds->Cont K g G σ P Q->r vs H Q
structure Pst where
 nx:Evt->Prop
 rt:D->Evt->Prop
 bk:Evt->Prop:=λ_=>False
 ct:Evt->Prop:=λ_=>False
 ro:OD->Evt->Prop:=λ_ _=>False
structure SCont (K:W.Frag) (g:Gm) (P:Pst) (E:Ends):Prop where
 nx:∀σ G H Δ,Ok K g G H σ Δ -> P.nx Δ -> E.nx σ H
 rt:∀v d σ G H Δ,Ok K g G H σ Δ -> Rep K G v d->P.rt d Δ -> E.rt v H
 bk:∀σ G H Δ,Ok K g G H σ Δ -> P.bk Δ -> E.bk σ H
 ct:∀σ G H Δ,Ok K g G H σ Δ -> P.ct Δ -> E.ct σ H
 ro:∀a od σ G H Δ,Ok K g G H σ Δ -> Pend K g G H σ Δ a od->P.ro od Δ -> E.rt (.ref a) H
def JS (K:W.Frag) (t:TS) (Δ:Evt) (P:Pst):Prop:=
 ∀g G H σ E,Ok K g G H σ Δ -> SCont K g P E->t E σ H
def JG (K:W.Frag) (t:TG) (d:D) (Δ:Evt) (P:Evt->Prop):Prop:=
 ∀g G H σ v (R:St->Hp->Prop),Ok K g G H σ Δ -> Rep K G v d->(∀σ' G' H' Δ',Ok K g G' H' σ' Δ' -> Same G G' -> P Δ' -> R σ' H')->t v σ H R
def JGs (K:W.Frag) (t:TGs) (ds:List D) (Δ:Evt) (P:Evt->Prop):Prop:=
 ∀g G H σ vs (R:St->Hp->Prop),Ok K g G H σ Δ -> Reps K G vs ds->(∀σ' G' H' Δ',Ok K g G' H' σ' Δ' -> Same G G' -> P Δ' -> R σ' H')->t vs σ H R
section
variable {K:W.Frag}{Δ:Evt}
theorem Cont.up {g:Gm}{G G1:Hp}{σ:St}{P:D->Evt->Prop}{Q:VK}(c:Cont K g G σ P Q) (s:Same G G1):Cont K g G1 σ P Q:=
 λv d G' H' Δ' k s' r p=>c v d G' H' Δ' k (s.trans s') r p
theorem JE.mono {t:TE}{P P':D->Evt->Prop}(h:JE K t Δ P) (hp:∀d Δ,P d Δ -> P' d Δ):JE K t Δ P':=
 λg G H σ Q k c=>h g G H σ Q k λv d G' H' Δ' k' s r p=>c v d G' H' Δ' k' s r<|hp d Δ' p
theorem JS.mono {t:TS}{P P':Pst}(h:JS K t Δ P) (hn:∀Δ,P.nx Δ -> P'.nx Δ) (hr:∀d Δ,P.rt d Δ -> P'.rt d Δ) (hb:∀Δ,P.bk Δ -> P'.bk Δ) (hc:∀Δ,P.ct Δ -> P'.ct Δ) (ho:∀od Δ,P.ro od Δ -> P'.ro od Δ):JS K t Δ P':=
 λg G H σ E k c=>h g G H σ E k ⟨λσ' G' H' Δ' k' p=>c.nx σ' G' H' Δ' k'<|hn _ p,λv d σ' G' H' Δ' k' r p=>c.rt v d σ' G' H' Δ' k' r<|hr _ _ p,λσ' G' H' Δ' k' p=>c.bk σ' G' H' Δ' k'<|hb _ p,λσ' G' H' Δ' k' p=>c.ct σ' G' H' Δ' k'<|hc _ p,λa od σ' G' H' Δ' k' r p=>c.ro a od σ' G' H' Δ' k' r<|ho _ _ p⟩
theorem Zac {i:Nat}{d:D}{P:D->Evt->Prop}(h:Δ[i]?=some (.val d)) (p:P d Δ):JE K (tVar i) Δ P:=λg G H σ Q k c=>by
 obtain⟨v,h1,h2⟩:=k.val i d h;exact⟨v,h1,c v d G H Δ k (Same.refl _) h2 p⟩
theorem Zev {i:Nat}{ds:List D}{P:D->Evt->Prop}(h:Δ[i]?=some (.own (.lst ds))) (p:P (.lst ds) (Δ.set i (.val (.lst ds)))):JE K (tVar i) Δ P:=λg G H σ Q k c=>by
 obtain⟨a,h1,pd⟩:=k.take h;obtain⟨o,q1,q2,_⟩:=id pd;cases o with
 |lst vs=>
  obtain⟨k2,sg,r⟩:=(k.drop i).freeze pd q1;have k3:=k2.setVal (i:=i) (by simpa using (Wah.mp h).1) r;have e1:σ.set i (some (.ref a)) = σ:=by
   apply Wcb;intro j;by_cases hj:j=i
   ·subst hj;rw[Wao (k.lt h),h1]
   ·rw[War (Ne.symm hj)]
  rw[e1,List.set_set]at k3;exact⟨.ref a,h1,c _ _ _ H _ k3 sg r p⟩
 |_=>exact absurd q2 (λz=>z)
theorem Zak {i:Int}{P:D->Evt->Prop}(p:P (.int i) Δ):JE K (tC (.int i)) Δ P:=λg G H σ Q k c=>c _ _ G H Δ k (Same.refl _) (.int i) p
theorem Zsr {b:Bool}{P:D->Evt->Prop}(p:P (.bl b) Δ):JE K (tC (.bl b)) Δ P:=λg G H σ Q k c=>c _ _ G H Δ k (Same.refl _) (.bl b) p
theorem Zx8 {P:D->Evt->Prop}(p:P .non Δ):JE K (tC .non) Δ P:=λg G H σ Q k c=>c _ _ G H Δ k (Same.refl _) .non p
theorem Zt7 {x:Str}{P:D->Evt->Prop}(p:P (.str x) Δ):JE K (tC (.str x)) Δ P:=λg G H σ Q k c=>c _ _ G H Δ k (Same.refl _) (.str x) p
theorem Zfu {x:String}{P:D->Evt->Prop}(p:P (.ty x) Δ):JE K (tC (.ty x)) Δ P:=λg G H σ Q k c=>c _ _ G H Δ k (Same.refl _) (.ty x) p
theorem Zaj {r:R2}{ta tb:TE}{P:D->Evt->Prop}(h:JE K ta Δ λd Δ1=>JE K tb Δ1 λe Δ2=>JR2 K r d e Δ2 P):JE K (tOp r ta tb) Δ P:=λg G H σ Q k c=>
 h g G H σ _ k λx d G1 H1 Δ1 k1 s1 r1 p1=>p1 g G1 H1 σ _ k1 λy e G2 H2 Δ2 k2 s2 r2 p2=>p2 g G2 H2 σ Q x y k2 (r1.mono s2) r2<|c.up<|s1.trans s2
theorem Zt1 {r:V->Hp->VK->Prop}{ta:TE}{P:D->Evt->Prop}(h:JE K ta Δ λd Δ1=>JR1 K r d Δ1 P):JE K (tUn r ta) Δ P:=λg G H σ Q k c=>
 h g G H σ _ k λx d G1 H1 Δ1 k1 s1 r1 p1=>p1 g G1 H1 σ Q x k1 r1<|c.up s1
theorem Zaf {P:List D->Evt->Prop}(p:P [] Δ):JA K tNil Δ P:=λg G H σ Q k c=>c [] [] G H Δ k (Same.refl _) .nil p
theorem Zab {ta:TE}{tr:TA}{P:List D->Evt->Prop}(h:JE K ta Δ λd Δ1=>JA K tr Δ1 λds Δ2=>P (d::ds) Δ2):JA K (tCons ta tr) Δ P:=λg G H σ Q k c=>
 h g G H σ _ k λx d G1 H1 Δ1 k1 s1 r1 p1=>p1 g G1 H1 σ _ k1 λvs ds G2 H2 Δ2 k2 s2 r2 p2=>c _ _ G2 H2 Δ2 k2 (s1.trans s2) (.cons (r1.mono s2) r2) p2
theorem Za0 {r:List V->Hp->VK->Prop}{ta:TA}{P:D->Evt->Prop}(h:JA K ta Δ λds Δ1=>JC K r ds Δ1 P):JE K (tCB r ta) Δ P:=λg G H σ Q k c=>
 h g G H σ _ k λvs ds G1 H1 Δ1 k1 s1 r1 p1=>p1 g G1 H1 σ Q vs k1 r1<|c.up s1
theorem Zb7 {ta:TA}{P:D->Evt->Prop}(h:JA K ta Δ λds Δ1=>ds.length<=sizeLine/\P (.tup ds) Δ1):JE K (tTup ta) Δ P:=λg G H σ Q k c=>
 h g G H σ _ k λvs ds G1 H1 Δ1 k1 s1 r1 ⟨z,p1⟩=>⟨by rw[r1.length];exact z,λp hp=>by
  obtain⟨k2,sg⟩:=k1.laid hp (.tup vs);exact c _ _ _ _ Δ1 k2 (s1.trans sg) (.tup Za3 (r1.mono sg)) p1⟩
theorem Zut {ta:TA}{P:D->Evt->Prop}(h:JA K ta Δ λds Δ1=>ds.length<=sizeLine/\P (.lst ds) Δ1):JE K (tLst ta) Δ P:=λg G H σ Q k c=>
 h g G H σ _ k λvs ds G1 H1 Δ1 k1 s1 r1 ⟨z,p1⟩=>⟨by rw[r1.length];exact z,λp hp=>by
  obtain⟨k2,sg⟩:=k1.laid hp (.lst vs);exact c _ _ _ _ Δ1 k2 (s1.trans sg) (.lst Za3 (r1.mono sg)) p1⟩
theorem Ok.fresh {g:Gm}{G H:Hp}{σ:St}(k:Ok K g G H σ Δ) {p:Addr}{o:HO}{od:OD}(hp:H p=none) (r:OwnRep K G o od):Ok K g G (upd H p o) σ Δ /\ Pend K g G (upd H p o) σ Δ p od:=by
 have hG:G p=none:=by
  cases e:G p with
  |none=>rfl
  |some u=>rw[k.live p u e]at hp;cases hp
 refine⟨k.grow (Same.refl _) (λb u e=>by rw[Za9 (Zcb e hp)];exact e) λb u e=>⟨?_,.inl e⟩,o,Za3,r,hG,k.there hp,?_,λj x od' e1 e2 e3=>?_⟩
 ·have hb:b≠p:=by intro z;subst z;rw[hG]at e;cases e
  rw[Za9 hb];exact k.live b u e
 ·cases q:g.Xo p with
  |none=>rfl
  |some u=>have z:=(k.ext p u q).1;rw[hp]at z;cases z
 ·obtain⟨a,oo,w1,w2,_⟩:=k.own j x od' e1 e2
  rw[e3]at w1;cases w1;rw[hp]at w2;cases w2
theorem Zi6 {ta:TA}{P:OD->Evt->Prop}(h:JA K ta Δ λds Δ1=>ds.length<=sizeLine/\P (.lst ds) Δ1):JO K (tLst ta) Δ P:=λg G H σ Q k c=>
 h g G H σ _ k λvs ds G1 H1 Δ1 k1 s1 r1 ⟨z,p1⟩=>⟨by rw[r1.length];exact z,λp hp=>by
  obtain⟨k2,pd⟩:=k1.fresh (od:=.lst ds) hp (show OwnRep K G1 (.lst vs) (.lst ds) from r1);exact c p _ G1 _ Δ1 k2 s1 pd p1⟩
theorem Zbr {t:TE}{P:D->Evt->Prop}(h:JO K t Δ λod Δ1=>∃ds,od=.lst ds/\P (.lst ds) Δ1):JE K t Δ P:=λg G H σ Q k c=>
 h g G H σ Q k λa od G1 H1 Δ1 k1 s1 pd hq_=>by
  obtain⟨ds,e,p1⟩:=hq_;subst e;obtain⟨o,q1,q2,_⟩:=id pd;cases o with
  |lst vs=>
   obtain⟨k2,sg,r⟩:=k1.freeze pd q1;exact c _ _ _ H1 Δ1 k2 (s1.trans sg) r p1
  |_=>exact absurd q2 (λz=>z)
theorem Zgg {c:TT}{ta tb:TE}{P:D->Evt->Prop}(h:JT K c Δ λb Δ1=>if b=true then JE K ta Δ1 P else JE K tb Δ1 P):JE K (tIf c ta tb) Δ P:=λg G H σ Q k q=>
 h g G H σ _ k λb G1 H1 Δ1 k1 s1 p1=>by
  cases b with
  |true=>exact(show JE K ta Δ1 P from p1) g G1 H1 σ Q k1 (q.up s1)
  |false=>exact(show JE K tb Δ1 P from p1) g G1 H1 σ Q k1 (q.up s1)
theorem Zar {t:TE}{P:Bool->Evt->Prop}(h:JE K t Δ λd Δ1=>∃b,d=.bl b/\P b Δ1):JT K (tTest t) Δ P:=λg G H σ Q k c=>
 h g G H σ _ k λv d G1 H1 Δ1 k1 s1 r1 hq_=>by obtain⟨b,e,p1⟩:=hq_;subst e;cases r1.inv;exact⟨b,rfl,c b G1 H1 Δ1 k1 s1 p1⟩
theorem Zew {a b:TT}{P:Bool->Evt->Prop}(h:JT K a Δ λx Δ1=>if x=true then JT K b Δ1 P else P false Δ1):JT K (tAnd a b) Δ P:=λg G H σ Q k c=>
 h g G H σ _ k λx G1 H1 Δ1 k1 s1 p1=>by
  cases x with
  |true=>exact(show JT K b Δ1 P from p1) g G1 H1 σ _ k1 λy G2 H2 Δ2 k2 s2 p2=>c y G2 H2 Δ2 k2 (s1.trans s2) p2
  |false=>exact c false G1 H1 Δ1 k1 s1 p1
theorem Zjt {a b:TT}{P:Bool->Evt->Prop}(h:JT K a Δ λx Δ1=>if x=true then P true Δ1 else JT K b Δ1 P):JT K (tOr a b) Δ P:=λg G H σ Q k c=>
 h g G H σ _ k λx G1 H1 Δ1 k1 s1 p1=>by
  cases x with
  |true=>exact c true G1 H1 Δ1 k1 s1 p1
  |false=>exact(show JT K b Δ1 P from p1) g G1 H1 σ _ k1 λy G2 H2 Δ2 k2 s2 p2=>c y G2 H2 Δ2 k2 (s1.trans s2) p2
theorem Zd9 {a:TT}{P:Bool->Evt->Prop}(h:JT K a Δ λx Δ1=>P (!x) Δ1):JT K (tNot a) Δ P:=λg G H σ Q k c=>
 h g G H σ _ k λx G1 H1 Δ1 k1 s1 p1=>c (!x) G1 H1 Δ1 k1 s1 p1
theorem Zd4 {P:Bool->Evt->Prop}(p:P true Δ):JT K tTrue Δ P:=λg G H σ Q k c=>c true G H Δ k (Same.refl _) p
theorem Zva {P:Pst}(p:P.nx Δ):JS K tNext Δ P:=λg G H σ E k c=>c.nx σ G H Δ k p
theorem Zt8 {t u:TS}{P:Pst}(h:JS K t Δ { P with nx:=λΔ1=>JS K u Δ1 P }):JS K (tSeq t u) Δ P:=λg G H σ E k c=>
 h g G H σ _ k ⟨λσ1 G1 H1 Δ1 k1 p1=>p1 g G1 H1 σ1 E k1 c,c.rt,c.bk,c.ct,c.ro⟩
theorem Zxv {te:TE}{P:Pst}(h:JE K te Δ P.rt):JS K (tRet te) Δ P:=λg G H σ E k c=>
 h g G H σ _ k λv d G1 H1 Δ1 k1 s1 r1 p1=>c.rt v d σ G1 H1 Δ1 k1 r1 p1
theorem Zvu {te:TE}{P:Pst}(h:JO K te Δ P.ro):JS K (tRet te) Δ P:=λg G H σ E k c=>
 h g G H σ _ k λa od G1 H1 Δ1 k1 s1 pd p1=>c.ro a od σ G1 H1 Δ1 k1 pd p1
theorem Zxx {i:Nat}{od:OD}{P:OD->Evt->Prop}(h:Δ[i]?=some (.own od)) (p:P od (Δ.set i .any)):JO K (tVar i) Δ P:=λg G H σ Q k c=>by
 obtain⟨a,h1,pd⟩:=k.take h;exact⟨.ref a,h1,c a od G H _ (k.drop i) (Same.refl _) pd p⟩
theorem Zzo {c:TT}{t u:TS}{P:Pst}(h:JT K c Δ λb Δ1=>if b=true then JS K t Δ1 P else JS K u Δ1 P):JS K (tIfS c t u) Δ P:=λg G H σ E k q=>
 h g G H σ _ k λb G1 H1 Δ1 k1 s1 p1=>by
  cases b with
  |true=>exact(show JS K t Δ1 P from p1) g G1 H1 σ E k1 q
  |false=>exact(show JS K u Δ1 P from p1) g G1 H1 σ E k1 q
theorem Zxn {te:TE}{t:TG}{P:Pst}(h:JE K te Δ λd Δ1=>JG K t d Δ1 P.nx):JS K (tAsg te t) Δ P:=λg G H σ E k c=>
 h g G H σ _ k λv d G1 H1 Δ1 k1 s1 r1 p1=>p1 g G1 H1 σ v _ k1 r1 λσ2 G2 H2 Δ2 k2 s2 p2=>c.nx σ2 G2 H2 Δ2 k2 p2
theorem Zd6 {P:Evt->Prop}(p:P Δ):JGs K gNil [] Δ P:=λg G H σ vs R k r c=>by cases r;exact⟨rfl,c σ G H Δ k (Same.refl _) p⟩
theorem Zbe {t:TG}{u:TGs}{d:D}{ds:List D}{P:Evt->Prop}(h:JG K t d Δ λΔ1=>JGs K u ds Δ1 P):JGs K (gCons t u) (d::ds) Δ P:=λg G H σ vs R k r c=>by
 obtain⟨_,_,rfl,r1,rr⟩:=r.inv
 next=>exact⟨_,_,rfl,h g G H σ _ _ k r1 λσ1 G1 H1 Δ1 k1 s1 p1=>p1 g G1 H1 σ1 _ R k1 (rr.mono s1) λσ2 G2 H2 Δ2 k2 s2 p2=>c σ2 G2 H2 Δ2 k2 (s1.trans s2) p2⟩
theorem Zfp {n:Nat}{t:TGs}{ds:List D}{P:Evt->Prop}(hl:ds.length=n) (h:JGs K t ds Δ P):JG K (gTup K n t) (.tup ds) Δ P:=λg G H σ v R k r c=>by
 obtain⟨_,_,rfl,ha,rs⟩:=r.inv
 next=>exact⟨_,_,rfl,SqT.of<|k.live _ _ ha,by rw[rs.length];exact hl,h g G H σ _ R k rs c⟩
def ItOk (K:W.Frag) (G:Hp) (J:It) (ds:List D):Prop:=
 ∀G1 H1,Same G G1->Same G1 H1->J.stop ds.length H1/\∀(i:Nat) d,ds[i]?=some d->J.go i H1/\∀x H2,J.yld i H1 x H2->∃G2,Same G1 G2/\Same H1 H2/\(∀b o,G2 b=some o->H2 b=some o/\(G1 b=some o\/H1 b=none))/\Rep K G2 x d
def JI (K:W.Frag) (wi:TI) (Δ:Evt) (P:List D->Evt->Prop):Prop:=
 ∀g G H σ (R:It->Hp->Prop),Ok K g G H σ Δ -> (∀J ds G' H' Δ',Ok K g G' H' σ Δ' -> Same G G' -> ItOk K G' J ds->P ds Δ' -> R J H')->wi σ H R
theorem Zw8 {tl:TE}{P:List D->Evt->Prop}(h:JE K tl Δ λd Δ1=>∃ds,d=.tup ds/\P ds Δ1):JI K (iTup K tl) Δ P:=λg G H σ R k c=>
 h g G H σ _ k λv d G1 H1 Δ1 k1 s1 r1 hq_=>by
  obtain⟨ds,e,p1⟩:=hq_;subst e;obtain⟨a,vs,rfl,ha,rs⟩:=r1.inv
  next=>
   refine⟨a,rfl,⟨vs,SqT.of<|k1.live _ _ ha⟩,c _ ds G1 H1 Δ1 k1 s1 (λG2 H2 sg sh=>⟨⟨vs,SqT.of<|sh _ _<|sg _ _ ha,by rw[rs.length];exact Wak _⟩,λi d e=>?_⟩) p1⟩;obtain⟨v,hv,rv⟩:=rs.get e;refine⟨⟨vs,v,SqT.of<|sh _ _<|sg _ _ ha,hv⟩,λx H3 ⟨e3,y3⟩=>⟨G2,Same.refl _,by rw[e3];exact Same.refl _,λb o q=>⟨by rw[e3];exact sh b o q,.inl q⟩,?_⟩⟩;have:=y3 vs<|SqT.of<|sh _ _<|sg _ _ ha;rw[hv]at this;cases this;exact rv.mono sg
theorem Zwo {tl:TE}{P:List D->Evt->Prop}(h:JE K tl Δ λd Δ1=>∃ds,(d=.lst ds\/d=.scr ds)/\P ds Δ1):JI K (iList K tl) Δ P:=λg G H σ R k c=>
 h g G H σ _ k λv d G1 H1 Δ1 k1 s1 r1 hq_=>by
  obtain⟨ds,e,p1⟩:=hq_;obtain⟨a,vs,ea,hs,rs⟩:∃a vs,v=.ref a/\SqL K G1 a vs/\Reps K G1 vs ds:=by
   rcases e with e|e
   ·subst e;cases r1 with|lst ha rs=>exact⟨_,_,rfl,SqL.of ha,rs⟩
   ·subst e;cases r1 with|scr ha rs=>exact⟨_,_,rfl,ha,rs⟩
  subst ea;refine⟨a,rfl,⟨vs,k1.live.seq hs⟩,c _ ds G1 H1 Δ1 k1 s1 (λG2 H2 sg sh=>⟨⟨vs,sh.seq<|sg.seq hs,by rw[rs.length];exact Wak _⟩,λi d e=>?_⟩) p1⟩;obtain⟨v,hv,rv⟩:=rs.get e;refine⟨⟨vs,v,sh.seq<|sg.seq hs,hv⟩,λx H3 ⟨e3,y3⟩=>⟨G2,Same.refl _,by rw[e3];exact Same.refl _,λb o q=>⟨by rw[e3];exact sh b o q,.inl q⟩,?_⟩⟩;have:=y3 vs<|sh.seq<|sg.seq hs;rw[hv]at this;cases this;exact rv.mono sg
def rngD (lo:Int) (n:Nat):List D:=(Wap n).map λi:Nat=>D.int<|lo+(i:Int)
theorem Zbu (lo:Int) (n:Nat):(rngD lo n).length=n:=by simp[rngD]
theorem Zce {lo:Int}{n i:Nat}{d:D}(h:(rngD lo n)[i]?=some d):i<n/\d=.int (lo+(i:Int)):=by
 unfold rngD at h;rw[Wad]at h;cases e:(Wap n)[i]? with
 |none=>rw[e]at h;cases h
 |some j=>
  rw[e]at h;obtain⟨h1,h2⟩:=Wah.mp e;rw[Wct]at h2;subst h2;exact⟨by simpa using h1,(Wba.inj h).symm⟩
theorem Zsm {G:Hp}(lo:Int) (n:Nat):ItOk K G (Itr lo n) (rngD lo n):=λG1 H1 sg sh=>by
 refine⟨by show n<=(rngD lo n).length;rw[Zbu];exact Wak _,λi d e=>?_⟩;obtain⟨h1,h2⟩:=Zce e;subst h2;refine⟨h1,λx H2 ⟨e2,y2⟩=>⟨G1,Same.refl _,by rw[e2];exact Same.refl _,λb o q=>⟨by rw[e2];exact sh b o q,.inl q⟩,?_⟩⟩;subst y2;exact .int _
theorem Zbq {ta:TA}{P:List D->Evt->Prop}(h:JA K ta Δ λds Δ1=>∃n:Int,ds=[.int n] /\ -(2 ^ 62)<=n/\n<2 ^ 62/\P (rngD 0 n.toNat) Δ1):JI K (iRng1 ta) Δ P:=λg G H σ R k c=>
 h g G H σ _ k λvs ds G1 H1 Δ1 k1 s1 r1 hq_=>by
  obtain⟨n,e,h1,h2,p1⟩:=hq_;subst e;obtain⟨_,_,rfl,ra,rr⟩:=r1.inv
  next=>
   cases rr.inv;cases ra.inv;exact⟨n,rfl,h1,h2,c _ _ G1 H1 Δ1 k1 s1 (Zsm 0 _) p1⟩
theorem Zx9 {wi:TI}{t:TG}{tb:TS}{P:Pst}(h:JI K wi Δ λds Δ1=>∃I:Nat->Evt->Prop,I 0 Δ1/\(∀i d Δ2,ds[i]?=some d->I i Δ2->JG K t d Δ2 λΔ3=>JS K tb Δ3 ⟨I<|i+1,P.rt,P.nx,I<|i+1,P.ro⟩)/\∀Δ2,I ds.length Δ2->P.nx Δ2) :
  JS K (tFor wi t tb) Δ P:=λg G H σ E k c=>
 h g G H σ _ k λJ ds G1 H1 Δ1 k1 s1 it hq_=>by
  obtain⟨I,h0,ht,he⟩:=hq_;refine⟨λi m σ H=>m=ds.length-i/\i<=ds.length/\∃G Δ,Ok K g G H σ Δ /\ Same G1 G/\I i Δ,⟨ds.length,by simp,Wcl _,G1,Δ1,k1,Same.refl _,h0⟩,?_⟩;rintro i m σ2 H2 ⟨rfl,hi,G2,Δ2,k2,s2,h2⟩;obtain⟨stop,go⟩:=it G2 H2 s2 k2.live;by_cases hlt:i<ds.length
  ·obtain⟨g1,g2⟩:=go i _ (Waa hlt)
   refine .inr ⟨g1,λσ' H'=>i+1<=ds.length/\∃G Δ,Ok K g G H' σ' Δ /\ Same G1 G/\I (i+1) Δ,λσ' H' p'=>⟨ds.length-(i+1),by omega,rfl,p'.1,p'.2⟩,λx H3 y=>?_⟩;obtain⟨G3,a1,a2,a3,a4⟩:=g2 x H3 y;have k3:=k2.grow a1 a2 a3;refine ht i _ Δ2 (Waa hlt) h2 { g with F:=G3,Xo:=g.Xo } G3 H3 σ2 x _ ?_ a4 λσ4 G4 H4 Δ4 k4 s4 p4=>?_
   ·exact⟨k3.same,k3.lent,Same.refl _,λb o q=>⟨(k3.frz b o q).1,.inr q⟩,k3.ext,k3.len,k3.val,k3.own,k3.dis⟩
   ·have cv:∀{G5 H5:Hp}{σ5:St}{Δ5:Evt},Ok K { g with F:=G3,Xo:=g.Xo } G5 H5 σ5 Δ5->Ok K g G5 H5 σ5 Δ5/\Same G1 G5:=λ{G5 H5 σ5 Δ5} k5=>
     ⟨⟨k5.same,k5.lent,k3.sub.trans k5.sub,λb o q=>by
      obtain⟨q1,q2⟩:=k5.frz b o q;refine⟨q1,?_⟩;rcases q2 with z|z
      ·exact .inl z
      ·exact(k3.frz b o z).2,k5.ext,k5.len,k5.val,k5.own,k5.dis⟩,s2.trans (a1.trans k5.sub)⟩
    refine p4 _ G4 H4 σ4 _ k4 ⟨λσ5 G5 H5 Δ5 k5 p5=>?_,λv d σ5 G5 H5 Δ5 k5 r5 p5=>?_,λσ5 G5 H5 Δ5 k5 p5=>?_,λσ5 G5 H5 Δ5 k5 p5=>?_,λa od σ5 G5 H5 Δ5 k5 pd5 p5=>?_⟩
    ·exact⟨hlt,G5,Δ5,(cv k5).1,(cv k5).2,p5⟩
    ·exact c.rt v d σ5 G5 H5 Δ5 (cv k5).1 r5 p5
    ·exact c.nx σ5 G5 H5 Δ5 (cv k5).1 p5
    ·exact⟨hlt,G5,Δ5,(cv k5).1,(cv k5).2,p5⟩
    ·exact c.ro a od σ5 G5 H5 Δ5 (cv k5).1 pd5 p5
  ·have e:i=ds.length:=by omega
   subst e;exact .inl ⟨stop,c.nx σ2 G2 H2 Δ2 k2<|he Δ2 h2⟩
theorem Zt3 {c:TT}{tb:TS}{P:Pst}(I:Nat->Evt->Prop) (h0:∃m,I m Δ) (ht:∀m Δ1,I m Δ1->JT K c Δ1 λb Δ2=>if b=true then JS K tb Δ2 ⟨λΔ3=>∃m',m'<m/\I m' Δ3,P.rt,P.nx,λΔ3=>∃m',m'<m/\I m' Δ3,P.ro⟩ else P.nx Δ2) :
  JS K (tWhile c tb) Δ P:=λg G H σ E k q=>by
 obtain⟨m,h0⟩:=h0;refine⟨λm σ H=>∃G Δ,Ok K g G H σ Δ /\ I m Δ,⟨m,G,Δ,k,h0⟩,?_⟩;rintro m σ1 H1 ⟨G1,Δ1,k1,h1⟩;refine ht m Δ1 h1 g G1 H1 σ1 _ k1 λb G2 H2 Δ2 k2 s2 p2=>?_;cases b with
 |true=>
  refine⟨λσ' H'=>∃m',m'<m/\∃G Δ,Ok K g G H' σ' Δ /\ I m' Δ,λσ' H' ⟨m',hm,z⟩=>⟨m',hm,z⟩,?_⟩;refine(show JS K tb Δ2 _ from p2) g G2 H2 σ1 _ k2 ⟨λσ5 G5 H5 Δ5 k5 ⟨m',hm,p5⟩=>⟨m',hm,G5,Δ5,k5,p5⟩,q.rt,q.nx,λσ5 G5 H5 Δ5 k5 ⟨m',hm,p5⟩=>⟨m',hm,G5,Δ5,k5,p5⟩,q.ro⟩
 |false=>exact q.nx σ1 G2 H2 Δ2 k2 p2
end
section
variable {K:W.Frag}{Δ:Evt}{P:D->Evt->Prop}
theorem jr_I {C:Int->Int->Prop}{f:Int->Int->Int}{i j:Int}(hc:C i j) (p:P (.int<|f i j) Δ):JR2 K (rI C λi j=>.int<|f i j) (.int i) (.int j) Δ P:=λg G H σ Q x y k rx ry c=>by
 cases rx.inv;cases ry.inv;exact⟨i,j,rfl,rfl,hc,c _ _ G H Δ k (Same.refl _) (.int _) p⟩
theorem Zfz {f:Int->Int->Int}{i j:Int}(p:P (.int<|f i j) Δ):JR2 K (rI0 λi j=>.int<|f i j) (.int i) (.int j) Δ P:=λg G H σ Q x y k rx ry c=>by
 cases rx.inv;cases ry.inv;exact⟨i,j,rfl,rfl,c _ _ G H Δ k (Same.refl _) (.int _) p⟩
theorem Ze2 {f:Int->Int->Bool}{i j:Int}(p:P (.bl<|f i j) Δ):JR2 K (rI0 λi j=>.bl<|f i j) (.int i) (.int j) Δ P:=λg G H σ Q x y k rx ry c=>by
 cases rx.inv;cases ry.inv;exact⟨i,j,rfl,rfl,c _ _ G H Δ k (Same.refl _) (.bl _) p⟩
theorem Zer {i j:Int}(p:P (.bl<|decide (i=j)) Δ):JR2 K rEq (.int i) (.int j) Δ P:=λg G H σ Q x y k rx ry c=>by
 cases rx.inv;cases ry.inv;refine⟨rfl,?_⟩;have e:decide (V.int i=V.int j)=decide (i=j):=by rw[Zjl];exact(Wee i j)
 rw[e];exact c _ _ G H Δ k (Same.refl _) (.bl _) p
theorem Zju {i j:Int}(p:P (.bl (!decide (i=j))) Δ):JR2 K rNe (.int i) (.int j) Δ P:=λg G H σ Q x y k rx ry c=>by
 cases rx.inv;cases ry.inv;refine⟨rfl,?_⟩;have e:decide (V.int i=V.int j)=decide (i=j):=by rw[Zjl];exact(Wee i j)
 rw[e];exact c _ _ G H Δ k (Same.refl _) (.bl _) p
theorem Zyf {ds:List D}{i:Int}{d:D}(h:atI ds i=some d) (p:P d Δ):JR2 K (rIxT K) (.tup ds) (.int i) Δ P:=λg G H σ Q x y k rx ry c=>by
 obtain⟨_,_,rfl,ha,rs⟩:=rx.inv
 next=>
  cases ry.inv;obtain⟨v,h1,h2⟩:=Zj4 rs h;exact⟨_,_,i,v,rfl,rfl,SqT.of<|k.live _ _ ha,h1,c v d G H Δ k (Same.refl _) h2 p⟩
theorem Zw7 {ds:List D}{i:Int}{d:D}(h:atI ds i=some d) (p:P d Δ):JR2 K (rIxL K) (.lst ds) (.int i) Δ P:=λg G H σ Q x y k rx ry c=>by
 obtain⟨_,_,rfl,ha,rs⟩:=rx.inv
 next=>
  cases ry.inv;obtain⟨v,h1,h2⟩:=Zj4 rs h;exact⟨_,_,i,v,rfl,rfl,SqL.of<|k.live _ _ ha,h1,c v d G H Δ k (Same.refl _) h2 p⟩
theorem Zql {n:Nat}{te:TE}{Pp:Pst}{x:Slot}{od:OD}(hx:Δ[n]?=some x) (ho:x.od=some od) (hod:∃ds,od=.lst ds)
  (h:JE K te Δ λd Δ1=>∃y ds,Δ1[n]?=some y/\y.od=some (.lst ds)/\ds.length<sizeLine/\Pp.nx (Δ1.set n<|y.put (.lst<|ds++[d]))) :
  JS K (tDrop<|tBM K "list" rAppend (tVar n)<|tCons te tNil) Δ Pp:=λg G H σ E k c=>by
 obtain⟨a,o,h1,h2,h3,h4,h5⟩:=k.own n x _ hx ho;obtain⟨ds0,hod⟩:=hod;subst hod;cases o with
 |lst vs0=>
  refine⟨.ref a,h1,.inl ⟨rfl,_,SqL.of h2⟩,h g G H σ _ k λv d G1 H1 Δ1 k1 s1 r1 ⟨y,ds,q1,q2,q3,p⟩=>?_⟩;obtain⟨a',o',w1,w2,w3,w4,w5⟩:=k1.own n y _ q1 q2;rw[h1]at w1;cases w1;cases o' with
  |lst vs=>
   have w3:Reps K G1 vs ds:=w3;exact⟨a,vs,v,rfl,rfl,w2,by rw[w3.length];exact q3,c.nx σ G1 _ _ (k1.write q1 q2 h1 (show OwnRep K G1 (.lst<|vs++[v]) (.lst<|ds++[d]) from w3.append (.cons r1 .nil))) p⟩
  |_=>exact absurd w3 (λz=>z)
 |_=>exact absurd h3 (λz=>z)
theorem Zx6 {ds es:List D}(he:ds=[.lst es]\/ds=[.tup es]) (p:P (.int es.length) Δ) :
  JC K (λxs H Q=>∃p ys,xs=[.ref p]/\(SqL K H p ys\/SqT K H p ys)/\Q (.int ys.length) H) ds Δ P:=λg G H σ Q vs k rs c=>by
 rcases he with he|he <;> subst he
 ·obtain⟨_,_,rfl,r,t⟩:=rs.inv
  next=>
   cases t.inv;obtain⟨_,_,rfl,ha,rs⟩:=r.inv
   next=>
    refine⟨_,_,rfl,.inl<|SqL.of<|k.live _ _ ha,?_⟩;rw[rs.length];exact c _ _ G H Δ k (Same.refl _) (.int _) p
 ·obtain⟨_,_,rfl,r,t⟩:=rs.inv
  next=>
   cases t.inv;obtain⟨_,_,rfl,ha,rs⟩:=r.inv
   next=>
    refine⟨_,_,rfl,.inr<|SqT.of<|k.live _ _ ha,?_⟩;rw[rs.length];exact c _ _ G H Δ k (Same.refl _) (.int _) p
theorem Zvw {n:Nat}{x:Slot}{ds:List D}(hx:Δ[n]?=some x) (ho:x.od=some (.lst ds)) (p:P (.int ds.length) Δ) :
  JE K (tCB (λxs H Q=>∃p ys,xs=[.ref p]/\(SqL K H p ys\/SqT K H p ys)/\Q (.int ys.length) H)<|tCons (tVar n) tNil) Δ P:=λg G H σ Q k c=>by
 obtain⟨a,o,h1,h2,h3,h4,h5⟩:=k.own n x _ hx ho;cases o with
 |lst vs=>
  have h3:Reps K G vs ds:=h3;refine⟨.ref a,h1,a,vs,rfl,.inl<|SqL.of h2,?_⟩;rw[h3.length];exact c _ _ G H Δ k (Same.refl _) (.int _) p
 |_=>exact absurd h3 (λz=>z)
theorem Zy0 {i:Int}(p:P (.int (if i<0 then -i else i)) Δ):JC K (λxs H Q=>∃i,xs=[.int i]/\Q (.int (if i<0 then -i else i)) H) [.int i] Δ P:=λg G H σ Q vs k rs c=>by
 obtain⟨_,_,rfl,r,t⟩:=rs.inv
 next=>cases t.inv;cases r.inv;exact⟨i,rfl,c _ _ G H Δ k (Same.refl _) (.int _) p⟩
theorem Zgv {f:Int->Int->Int}{i j:Int}(p:P (.int<|f i j) Δ):JC K (λxs H Q=>∃i j,xs=[.int i,.int j]/\Q (.int<|f i j) H) [.int i,.int j] Δ P:=λg G H σ Q vs k rs c=>by
 obtain⟨_,_,rfl,r,t⟩:=rs.inv
 next=>
  obtain⟨_,_,rfl,r',t⟩:=t.inv
  next=>cases t.inv;cases r.inv;cases r'.inv;exact⟨i,j,rfl,c _ _ G H Δ k (Same.refl _) (.int _) p⟩
theorem Zsp {ds es:List D}(he:ds=[.lst es]\/ds=[.tup es]) (p:P (.tup es) Δ) :
  JC K (λxs H Q=>∃p ys,xs=[.ref p]/\((SqL K H p ys/\∀l,H l=none->Q (.ref l) (upd H l (.tup ys)))\/(SqT K H p ys/\Q (.ref p) H))) ds Δ P:=λg G H σ Q vs k rs c=>by
 rcases he with he|he <;> subst he
 ·obtain⟨_,_,rfl,r,t⟩:=rs.inv
  next=>
   cases t.inv;obtain⟨_,_,rfl,ha,rs⟩:=r.inv
   next=>
    refine⟨_,_,rfl,.inl ⟨SqL.of<|k.live _ _ ha,λl hl=>?_⟩⟩;obtain⟨k2,sg⟩:=k.laid hl (.tup _);exact c _ _ _ _ Δ k2 sg (.tup Za3<|rs.mono sg) p
 ·obtain⟨_,_,rfl,r,t⟩:=rs.inv
  next=>
   cases t.inv;obtain⟨_,_,rfl,ha,rs⟩:=r.inv
   next=>exact⟨_,_,rfl,.inr ⟨SqT.of<|k.live _ _ ha,c _ _ G H Δ k (Same.refl _) (.tup ha rs) p⟩⟩
def glue (F H H':Hp):Hp:=λb=>match H b with
 |none=>H' b
 |some _=>F b
theorem Zf6 {F H H':Hp}{b:Addr}(h:H b=none):glue F H H' b=H' b:=by unfold glue;rw[h]
theorem Zel {F H H':Hp}{b:Addr}{o:HO}(h:H b=some o):glue F H H' b=F b:=by unfold glue;rw[h]
theorem Zhh {G H H':Hp}(l:Same G H):Same G (glue G H H'):=λb o e=>by rw[Zel (l b o e)];exact e
theorem Zjv {G H H':Hp}(l:Same G H) (sh:∀b o,G b=some o->H b=some o->H' b=some o):∀b o,glue G H H' b=some o->H' b=some o/\(G b=some o\/H b=none):=λb o e=>by
 cases q:H b with
 |none=>rw[Zf6 q]at e;exact⟨e,.inr rfl⟩
 |some u=>rw[Zel q]at e;exact⟨sh b o e (l b o e),.inl e⟩
abbrev DSp:=List D->(D->Prop)->Prop
def spD (K:W.Frag) (f:DSp):Sp:=λvs H Q _=>∃F ds Post,Same F H/\Reps K F vs ds/\f ds Post/\∀r H' d,Same H H' -> Rep K (glue F H H') r d->Post d->Q r H'
theorem Zav {f:DSp}{ta:TA}{E:XK}(h:JA K ta Δ λds Δ1=>f ds λd=>P d Δ1):JE K (tCall (spD K f) [] E ta) Δ P:=λg G H σ Q k c=>
 h g G H σ _ k λvs ds G1 H1 Δ1 k1 s1 r1 p1=>by
  show spD K f (vs++[]) H1 Q E;rw[Wa4];refine⟨G1,ds,_,k1.live,r1,p1,λr H' d sh rr pd=>?_⟩;have sg:=Zhh (H':=H') k1.live;exact c r d _ H' Δ1 (k1.grow sg sh (Zjv k1.live λb o _ e=>sh b o e)) (s1.trans sg) rr pd
abbrev BSp:=List D->List D->(D->List D->Prop)->Prop
def spB (K:W.Frag) (f:BSp):Sp:=λvs H Q _=>∃F a us ws ps ds Post,vs=.ref a::ws/\Same F H/\F a=none/\H a=some (.lst us)/\Reps K F us ps/\Reps K F ws ds/\f ps ds Post ∧
 ∀r H' us' ps' d,(∀b o,b≠a->H b=some o->H' b=some o)->H' a=some (.lst us')->Reps K (glue F H H') us' ps' -> Rep K (glue F H H') r d->Post d ps' -> Q r H'
theorem Ok.lend {g:Gm}{G H H':Hp}{σ:St}(k:Ok K g G H σ Δ) {i:Nat}{x:Slot}{ps ps':List D}{us':List V}{a:Addr}(hx:Δ[i]?=some x) (ho:x.od=some (.lst ps)) (ha:σ[i]?=some (some (.ref a)))
  (sh:∀b o,b≠a->H b=some o->H' b=some o) (hn:H' a=some (.lst us')) (r:Reps K (glue G H H') us' ps'):Ok K g (glue G H H') H' σ (Δ.set i<|x.put (.lst ps'))/\Same G (glue G H H'):=by
 obtain⟨a',o,h1,h2,h3,h4,h5⟩:=k.own i x _ hx ho;rw[ha]at h1;cases h1;have sg:=Zhh (H':=H') k.live;have k2:Ok K g (glue G H H') (upd H' a o) σ Δ:=by
  refine k.grow sg (λb u e=>?_) λb u e=>?_
  ·by_cases hb:b=a
   ·subst hb;rw[Za3,<- h2];exact e
   ·rw[Za9 hb];exact sh b u hb e
  ·have hb:b≠a:=by intro z;subst z;rw[Zel h2,h4]at e;cases e
   rw[Za9 hb];exact Zjv k.live (λc w e1 e2=>sh c w (λz=>by subst z;rw[h4]at e1;cases e1) e2) b u e
 have k3:=k2.write hx ho ha (show OwnRep K (glue G H H') (.lst us') (.lst ps') from r);rw[Zv8]at k3;have e:upd H' a (.lst us')=H':=by
  funext b
  by_cases hb:b=a
  ·subst hb;rw[Za3,hn]
  ·rw[Za9 hb]
 rw[e]at k3;exact⟨k3,sg⟩
theorem Zdu {f:BSp}{ta:TA}{E:XK}{i:Nat}{x:Slot}{od:OD}(hx:Δ[i]?=some x) (ho:x.od=some od) (h:JA K ta Δ λds Δ1=>∃y ps,Δ1[i]?=some y/\y.od=some (.lst ps)/\f ps ds λd ps'=>P d (Δ1.set i<|y.put (.lst ps'))) :
  JE K (tCall (spB K f) [] E<|tCons (tVar i) ta) Δ P:=λg G H σ Q k c=>by
 obtain⟨a,o,h1,h2,h3,h4,h5⟩:=k.own i x _ hx ho;refine⟨.ref a,h1,h g G H σ _ k λvs ds G1 H1 Δ1 k1 s1 r1 ⟨y,ps,q1,q2,p1⟩=>?_⟩;show spB K f ((.ref a::vs)++[]) H1 Q E;rw[Wa4];obtain⟨a',o',w1,w2,w3,w4,w5⟩:=k1.own i y _ q1 q2;rw[h1]at w1;cases w1;cases o' with
 |lst us=>
  refine⟨G1,a,us,vs,ps,ds,_,rfl,k1.live,w4,w2,w3,r1,p1,λr H' us' ps' d sh hn rr rd pd=>?_⟩;obtain⟨k2,sg⟩:=k1.lend q1 q2 h1 sh hn rr;exact c r d _ H' _ k2 (s1.trans sg) rd pd
 |_=>exact absurd w3 (λz=>z)
abbrev NSp:=List D->(List D->Prop)->Prop
def spN (K:W.Frag) (f:NSp):Sp:=λvs H Q _=>∃F ds Post,Same F H/\Reps K F vs ds/\f ds Post ∧
 ∀a H' us ps,Same H H' -> H a=none->H' a=some (.lst us)->Reps K (λb=>if b=a then none else glue F H H' b) us ps->Post ps->Q (.ref a) H'
theorem Zc0 {f:NSp}{ta:TA}{E:XK}{Po:OD->Evt->Prop}(h:JA K ta Δ λds Δ1=>f ds λps=>Po (.lst ps) Δ1):JO K (tCall (spN K f) [] E ta) Δ Po:=λg G H σ Q k c=>
 h g G H σ _ k λvs ds G1 H1 Δ1 k1 s1 r1 p1=>by
  show spN K f (vs++[]) H1 Q E;rw[Wa4];refine⟨G1,ds,_,k1.live,r1,p1,λa H' us ps sh ha hn rr pd=>?_⟩;have sg:Same G1 (λb=>if b=a then none else glue G1 H1 H' b):=λb o e=>by
   have hb:b≠a:=by intro z;subst z;rw[k1.live _ _ e]at ha;cases ha
   try dsimp only
   rw[if_neg hb];exact Zhh k1.live b o e
  have k2:Ok K g (λb=>if b=a then none else glue G1 H1 H' b) H' σ Δ1:=k1.grow sg sh λb o e=>by
   try dsimp only at e
   by_cases hb:b=a
   ·rw[if_pos hb]at e;cases e
   ·rw[if_neg hb]at e;exact Zjv k1.live (λb o _ e=>sh b o e) b o e
  refine c a _ _ H' Δ1 k2 (s1.trans sg) ⟨.lst us,hn,(show OwnRep K _ (.lst us) (.lst ps) from rr),by simp,k1.there ha,?_,λj x od' e1 e2 e3=>?_⟩ pd
  ·cases q:g.Xo a with
   |none=>rfl
   |some u=>have z:=(k1.ext a u q).1;rw[ha]at z;cases z
  ·obtain⟨b,oo,w1,w2,_⟩:=k1.own j x od' e1 e2
   rw[e3]at w1;cases w1;rw[ha]at w2;cases w2
end
def startD (N:List Str) (ds:List D):Evt:=ds.map .val++Wal (N.length-ds.length) .any
section
variable {K:W.Frag}
theorem Zg7 {g:Gm}{G H:Hp}{N:List Str}{vs:List V}{ds:List D}(rs:Reps K G vs ds) (hl:ds.length<=N.length) (same:∀b o,¬ g.B b->g.Hz b=some o->H b=some o) (lent:∀b,g.B b->H b≠none) (sub:Same g.F G)
  (frz:∀b o,G b=some o->H b=some o/\(g.Hz b=none\/g.F b=some o)) (ext:∀b,g.Xo b=none):Ok K g G H (start N vs) (startD N ds):=by
 have noOd:∀(i:Nat) x od,(startD N ds)[i]?=some x->x.od=some od->False:=λi x od e1 e2=>by
  have hm:=Way e1;rcases Wbd.mp hm with z|z
  ·obtain⟨d,_,rfl⟩:=Wa3.mp z;cases e2
  ·rw[Wda]at z;rw[z.2]at e2;cases e2
 refine⟨same,lent,sub,frz,λb o e=>(by rw[ext b]at e;cases e),?_,λi d e=>?_,λi x od e1 e2=>(noOd i x od e1 e2).elim,λi j x y od od' a e1 e2=>(noOd i x od e1 e2).elim⟩
 ·unfold start startD
  rw[Wan,Wan,Wab,Wab,Wa8,Wa8,rs.length]
 ·unfold startD at e
  unfold start;by_cases hi:i<ds.length
  ·rw[Wbc (by simpa using hi),Wad]at e
   cases q:ds[i]? with
   |none=>rw[q]at e;cases e
   |some d'=>
    rw[q]at e;have e:Slot.val d'=Slot.val d:=by simpa using e
    cases e;obtain⟨v,h1,h2⟩:=rs.get q;refine⟨v,?_,h2⟩;rw[Wbc (by rw[Wab,rs.length];exact hi),Wad,h1];rfl
  ·rw[Wa1 (by simpa using hi),Wc2]at e
   split at e <;> cases e
theorem Zcx {f:DSp}{t:TS}{N:List Str}{vs:List V}{H:Hp}{Q:VK}{E:XK}(ht:∀ds Post,f ds Post->ds.length<=N.length/\JS K t (startD N ds) ⟨λ_=>Post .non,λd _=>Post d,λ_=>False,λ_=>False,λ_ _=>False⟩) (h:spD K f vs H Q E) :
  t { nx:=λ_ H'=>Q .non H',rt:=Q } (start N vs) H:=by
 obtain⟨F,ds,Post,l,rs,hf,q⟩:=h;obtain⟨hl,hj⟩:=ht ds Post hf;have fin:∀{v:V}{d:D}{σ:St}{G H':Hp}{Δ:Evt},Ok K ⟨λ_=>False,F,H,λ_=>none⟩ G H' σ Δ -> Rep K G v d->Post d->Q v H':=λ{v d σ G H' Δ} k r p=>by
  refine q v H' d (λb o e=>k.same b o (λz=>z) e) (r.mono λb o e=>?_) p;obtain⟨e1,e2⟩:=k.frz b o e;rcases e2 with z|z
  ·rw[Zf6 z];exact e1
  ·rw[Zel (l b o z)];exact z
 refine hj ⟨λ_=>False,F,H,λ_=>none⟩ F H (start N vs) _ (Zg7 rs hl (λ_ _ _ e=>e) (λ_ z=>z.elim) (Same.refl _) (λb o e=>⟨l b o e,.inr e⟩) λ_=>rfl) ⟨λσ G H' Δ k p=>fin k .non p,λv d σ G H' Δ k r p=>fin k r p,λ_ _ _ _ _ z=>z.elim,λ_ _ _ _ _ z=>z.elim,λ_ _ _ _ _ _ _ _ z=>z.elim⟩
theorem Zov {f:NSp}{t:TS}{N:List Str}{vs:List V}{H:Hp}{Q:VK}{E:XK}(ht:∀ds Post,f ds Post->ds.length<=N.length/\JS K t (startD N ds) ⟨λ_=>False,λ_ _=>False,λ_=>False,λ_=>False,λod _=>∃ps,od=.lst ps/\Post ps⟩) (h:spN K f vs H Q E) :
  t { nx:=λ_ H'=>Q .non H',rt:=Q } (start N vs) H:=by
 obtain⟨F,ds,Post,l,rs,hf,q⟩:=h;obtain⟨hl,hj⟩:=ht ds Post hf;refine hj ⟨λ_=>False,F,H,λ_=>none⟩ F H (start N vs) _ (Zg7 rs hl (λ_ _ _ e=>e) (λ_ z=>z.elim) (Same.refl _) (λb o e=>⟨l b o e,.inr e⟩) λ_=>rfl) ⟨λ_ _ _ _ _ z=>z.elim,λ_ _ _ _ _ _ _ _ z=>z.elim,λ_ _ _ _ _ z=>z.elim,λ_ _ _ _ _ z=>z.elim,λa od σ G H' Δ k pd ⟨ps,e,p⟩=>?_⟩;subst e;obtain⟨o,h1,h2,h3,h4,h5,h6⟩:=pd;cases o with
 |lst us=>
  refine q a H' us ps (λb o e=>k.same b o (λz=>z) e) h4 h1 (Reps.mono (λb o e=>?_) (show Reps K G us ps from h2)) p;have hb:b≠a:=by intro z;subst z;rw[h3]at e;cases e
  try dsimp only
  rw[if_neg hb];obtain⟨e1,e2⟩:=k.frz b o e;rcases e2 with z|z
  ·rw[Zf6 z];exact e1
  ·rw[Zel (l b o z)];exact z
 |_=>exact absurd h2 (λz=>z)
theorem Zn8 {f:BSp}{t:TS}{N:List Str}{vs:List V}{H:Hp}{Q:VK}{E:XK}(ht:∀ps ds Post,f ps ds Post->ds.length+1<=N.length/\JS K t (.bor (.lst ps)::startD N.tail ds) ⟨λΔ=>∃ps',Δ[0]?=some (.bor (.lst ps'))/\Post .non ps',λd Δ=>∃ps',Δ[0]?=some (.bor (.lst ps'))/\Post d ps',λ_=>False,λ_=>False,λ_ _=>False⟩) (h:spB K f vs H Q E) :
  t { nx:=λ_ H'=>Q .non H',rt:=Q } (start N vs) H:=by
 obtain⟨F,a,us,ws,ps,ds,Post,rfl,l,fa,ha,ru,rs,hf,q⟩:=h;obtain⟨hl,hj⟩:=ht ps ds Post hf;have fin:∀{v:V}{d:D}{σ:St}{G H':Hp}{Δ:Evt}{ps':List D},Ok K ⟨λb=>b=a,F,H,λ_=>none⟩ G H' σ Δ -> Δ[0]?=some (.bor (.lst ps'))->Rep K G v d->Post d ps' -> Q v H':=λ{v d σ G H' Δ ps'} k e0 r p=>by
  obtain⟨a',o,h1,h2,h3,h4,h5⟩:=k.own 0 _ _ e0 rfl;have ea:a'=a:=h5;subst ea;cases o with
  |lst us'=>
   have up:Same G (glue F H H'):=λb o e=>by
    obtain⟨e1,e2⟩:=k.frz b o e;rcases e2 with z|z
    ·rw[Zf6 z];exact e1
    ·rw[Zel (l b o z)];exact z
   exact q v H' us' ps' d (λb o hb e=>k.same b o hb e) h2 (Reps.mono up (show Reps K G us' ps' from h3)) (r.mono up) p
  |_=>exact absurd h3 (λz=>z)
 cases N with
 |nil=>simp at hl
 |cons n0 N=>
  have hl':ds.length<=N.length:=by simpa using hl
  have k0:=Zg7 (K:=K) (H:=H) (g:=⟨λb=>b=a,F,H,λ_=>none⟩) (N:=N) rs hl' (λ_ _ _ e=>e) (λb z=>by subst z;rw[ha];intro w;cases w) (Same.refl _) (λb o e=>⟨l b o e,.inr e⟩) λ_=>rfl;have e1:start (n0::N) (.ref a::ws)=some (.ref a)::start N ws:=by
   unfold start;rw[Wbg,Wat,Wat,Nat.add_sub_add_right];rfl
  rw[e1];have noOd:∀(i:Nat) x od,(startD N ds)[i]?=some x->x.od=some od->False:=λi x od e1 e2=>by
   have hm:=Way e1;rcases Wbd.mp hm with z|z
   ·obtain⟨d,_,rfl⟩:=Wa3.mp z;cases e2
   ·rw[Wda]at z;rw[z.2]at e2;cases e2
  have k1:Ok K ⟨λb=>b=a,F,H,λ_=>none⟩ F H (some (.ref a)::start N ws) (.bor (.lst ps)::startD N ds):=by
   refine⟨k0.same,k0.lent,k0.sub,k0.frz,λb o e=>(by cases e),(by rw[Wat,Wat,k0.len]),λi d e=>?_,λi x od e1 e2=>?_,λi j x y od od' c e1 e2 e3 e4 _ _=>?_⟩
   ·cases i with
    |zero=>cases e
    |succ i=>exact k0.val i d e
   ·cases i with
    |zero=>cases e1;cases e2;exact⟨a,.lst us,rfl,ha,ru,fa,rfl⟩
    |succ i=>exact(noOd i x od e1 e2).elim
   ·cases i with
    |zero=>cases j with
     |zero=>rfl
     |succ j=>exact(noOd j y od' e3 e4).elim
    |succ i=>exact(noOd i x od e1 e2).elim
  exact hj _ F H _ _ k1 ⟨λσ G H' Δ k ⟨ps',e,p⟩=>fin k e .non p,λv d σ G H' Δ k r ⟨ps',e,p⟩=>fin k e r p,λ_ _ _ _ _ z=>z.elim,λ_ _ _ _ _ z=>z.elim,λ_ _ _ _ _ _ _ _ z=>z.elim⟩
theorem Zbc {f:DSp}{n:Nat}(h:∀ds Post,f ds Post->ds.length=n):∀vs H Q E,spD K f vs H Q E->vs.length=n:=λvs H Q E hq_=>by obtain⟨F,ds,Post,l,rs,hf,q⟩:=hq_;rw[rs.length];exact h ds Post hf
theorem Zgq {f:NSp}{n:Nat}(h:∀ds Post,f ds Post->ds.length=n):∀vs H Q E,spN K f vs H Q E->vs.length=n:=λvs H Q E hq_=>by obtain⟨F,ds,Post,l,rs,hf,q⟩:=hq_;rw[rs.length];exact h ds Post hf
theorem Zgl {f:BSp}{n:Nat}(h:∀ps ds Post,f ps ds Post->ds.length+1=n):∀vs H Q E,spB K f vs H Q E->vs.length=n:=λvs H Q E hq_=>by obtain⟨F,a,us,ws,ps,ds,Post,e,l,fa,ha,ru,rs,hf,q⟩:=hq_;rw[e,Wat,rs.length];exact h ps ds Post hf
end
def JGn (K:W.Frag) (n:Nat) (t:TG) (d:D) (Δ:Evt) (P:Evt->Prop):Prop:=
 ∀g G H σ v (R:St->Hp->Prop),Ok K g G H σ Δ -> Rep K G v d->(∀σ' G' H' Δ',Ok K g G' H' σ' Δ' -> Same G G' -> (∀j,n<=j -> σ'[j]? = σ[j]?)->P Δ' -> R σ' H')->t v σ H R
def JGsn (K:W.Frag) (n:Nat) (t:TGs) (ds:List D) (Δ:Evt) (P:Evt->Prop):Prop:=
 ∀g G H σ vs (R:St->Hp->Prop),Ok K g G H σ Δ -> Reps K G vs ds->(∀σ' G' H' Δ',Ok K g G' H' σ' Δ' -> Same G G' -> (∀j,n<=j -> σ'[j]? = σ[j]?)->P Δ' -> R σ' H')->t vs σ H R
section
variable {K:W.Frag}{Δ:Evt}
theorem Zta {n:Nat}{P:Evt->Prop}(p:P Δ):JGsn K n gNil [] Δ P:=λg G H σ vs R k r c=>by cases r;exact⟨rfl,c σ G H Δ k (Same.refl _) (λ_ _=>rfl) p⟩
theorem Zli {n:Nat}{t:TG}{u:TGs}{d:D}{ds:List D}{P:Evt->Prop}(h:JGn K n t d Δ λΔ1=>JGsn K n u ds Δ1 P):JGsn K n (gCons t u) (d::ds) Δ P:=λg G H σ vs R k r c=>by
 obtain⟨_,_,rfl,r1,rr⟩:=r.inv
 next=>exact⟨_,_,rfl,h g G H σ _ _ k r1 λσ1 G1 H1 Δ1 k1 s1 e1 p1=>p1 g G1 H1 σ1 _ R k1 (rr.mono s1) λσ2 G2 H2 Δ2 k2 s2 e2 p2=>c σ2 G2 H2 Δ2 k2 (s1.trans s2) (λj hj=>(e2 j hj).trans (e1 j hj)) p2⟩
theorem Zv6 {n m:Nat}{t:TGs}{ds:List D}{P:Evt->Prop}(hl:ds.length=m) (h:JGsn K n t ds Δ P):JGn K n (gTup K m t) (.tup ds) Δ P:=λg G H σ v R k r c=>by
 obtain⟨_,_,rfl,ha,rs⟩:=r.inv
 next=>exact⟨_,_,rfl,SqT.of<|k.live _ _ ha,by rw[rs.length];exact hl,h g G H σ _ R k rs c⟩
end
def compD (n:Nat) (sel:List Nat) (Δ:Evt):Evt:=Wal n .any++sel.map λi=>(Δ[i]?).getD .any
def backAt (n:Nat) (sel:List Nat) (Δi:Evt) (i:Nat) (x:Slot):Slot:=match x with
 |.val d=>.val d
 |.any=>.any
 |x=>match sel.idxOf? i with
  |none=>x
  |some j=>match Δi[n+j]? with
   |some (.own o)=>.own o
   |some (.bor o)=>.bor o
   |some (.ownA a o)=>.ownA a o
   |_=>.any
def backD (n:Nat) (sel:List Nat) (Δi:Evt):Nat->Evt->Evt
 |_,[]=>[]
 |i,x::r=>backAt n sel Δi i x::backD n sel Δi (i+1) r
theorem Zec (n:Nat) (sel:List Nat) (Δi:Evt):∀(Δ:Evt) (k i:Nat),(backD n sel Δi k Δ)[i]?=(Δ[i]?).map (backAt n sel Δi<|k+i)
 |[],k,i=>by simp[backD]
 |x::r,k,0=>by simp[backD]
 |x::r,k,i+1=>by
  have:=Zec n sel Δi r (k+1) i;simp only[backD,List.getElem?_cons_succ];rw[this,show k+1+i=k+(i+1) by omega]
theorem Zla (n:Nat) (sel:List Nat) (Δi:Evt):∀(Δ:Evt) (k:Nat),(backD n sel Δi k Δ).length = Δ.length
 |[],k=>rfl
 |x::r,k=>by simp[backD,Zla n sel Δi r (k+1)]
theorem Zf7 {sel:List Nat}{i j:Nat}(h:sel.idxOf? i=some j):sel[j]?=some i:=by
 have h2:=List.idxOf?_eq_some_iff.mp h;obtain⟨hj,e,_⟩:=h2;rw[Waa hj,e]
theorem Zqd {n:Nat}{sel:List Nat}{Δi:Evt}{i:Nat}{x y:Slot}{od:OD}(h:backAt n sel Δi i x=y) (ho:y.od=some od) :
  (x=y/\sel.idxOf? i=none)\/∃j,sel[j]?=some i /\ Δi[n+j]?=some y/\∃od',x.od=some od':=by
 unfold backAt at h;cases x with
 |any=>subst h;cases ho
 |val d=>subst h;cases ho
 |own o=>
  dsimp only at h;cases q:sel.idxOf? i with
  |none=>rw[q]at h;exact .inl ⟨h,rfl⟩
  |some j=>
   rw[q]at h;dsimp only at h;refine .inr ⟨j,Zf7 q,?_,o,rfl⟩;cases e:Δi[n+j]? with
   |none=>rw[e]at h;subst h;cases ho
   |some z=>rw[e]at h;cases z <;> (subst h;first|rfl|cases ho)
 |ownA a o=>
  dsimp only at h;cases q:sel.idxOf? i with
  |none=>rw[q]at h;exact .inl ⟨h,rfl⟩
  |some j=>
   rw[q]at h;dsimp only at h;refine .inr ⟨j,Zf7 q,?_,o,rfl⟩;cases e:Δi[n+j]? with
   |none=>rw[e]at h;subst h;cases ho
   |some z=>rw[e]at h;cases z <;> (subst h;first|rfl|cases ho)
 |bor o=>
  dsimp only at h;cases q:sel.idxOf? i with
  |none=>rw[q]at h;exact .inl ⟨h,rfl⟩
  |some j=>
   rw[q]at h;dsimp only at h;refine .inr ⟨j,Zf7 q,?_,o,rfl⟩;cases e:Δi[n+j]? with
   |none=>rw[e]at h;subst h;cases ho
   |some z=>rw[e]at h;cases z <;> (subst h;first|rfl|cases ho)
section
variable {K:W.Frag}{Δ:Evt}
open Classical in
noncomputable def aside (g:Gm) (sel:List Nat) (σ:St) (Δ:Evt) (H:Hp) (acc:Addr) (ys:List V):Hp:=λb=>
 if b=acc then some (.lst ys) else if ∃(i:Nat) (x:Slot) (od:OD),Δ[i]?=some x/\x.od=some od/\i ∉ sel /\ σ[i]?=some (some (.ref b)) then H b else g.Xo b
theorem Zfk {n:Nat}{sel:List Nat}{σ:St}{j i:Nat}(h:sel[j]?=some i):(compSt n sel σ)[n+j]?=some ((σ[i]?).getD none):=by
 unfold compSt;rw[Wa1 (by rw[Wa8];omega),Wa8,Nat.add_sub_cancel_left,Wad,h];rfl
theorem Zdl {n:Nat}{sel:List Nat}{Δ:Evt}{k:Nat}{x:Slot}(h:(compD n sel Δ)[k]?=some x):x=.any\/∃j i,k=n+j/\sel[j]?=some i /\ Δ[i]?=some x:=by
 unfold compD at h;by_cases hk:k<n
 ·rw[Wbc (by simpa using hk),Wc2,if_pos hk]at h
  exact .inl (Wba.inj h).symm
 ·rw[Wa1 (by simpa using hk),Wa8,Wad]at h
  cases e:sel[k-n]? with
  |none=>rw[e]at h;cases h
  |some i=>
   rw[e]at h;have h:(Δ[i]?).getD .any=x:=by simpa using h
   cases q:Δ[i]? with
   |none=>rw[q]at h;exact .inl h.symm
   |some y=>rw[q]at h;cases h;exact .inr ⟨k-n,i,by omega,e,q⟩
theorem Zit {g:Gm}{G1 H1:Hp}{σ:St}{Δ1:Evt}{n:Nat}{sel:List Nat}{acc:Addr}{X0:Hp}(hsel:sel.Nodup) (k1:Ok K g G1 H1 σ Δ1) (hacc:H1 acc=none)
  (hX:∀b o,X0 b=some o->(b=acc/\o=.lst [])\/(b≠acc/\(((∃(i:Nat) (x:Slot) (od:OD),Δ1[i]?=some x/\x.od=some od/\i ∉ sel /\ σ[i]?=some (some (.ref b)))/\H1 b=some o)\/g.Xo b=some o))):Ok K ⟨g.B,G1,g.Hz,X0⟩ G1 (upd H1 acc (.lst [])) (compSt n sel σ) (compD n sel Δ1):=by
 have hsl:∀{j j' i:Nat},sel[j]?=some i->sel[j']?=some i->j=j':=λ{j j' i} a b=>by
  obtain⟨h1,e1⟩:=Wah.mp a;obtain⟨h2,e2⟩:=Wah.mp b;exact(Wdx hsel).mp (e1.trans e2.symm)
 have hGa:G1 acc=none:=by
  cases e:G1 acc with
  |none=>rfl
  |some u=>rw[k1.live _ _ e]at hacc;cases hacc
 have cs:∀{j i:Nat}{a:Addr},sel[j]?=some i->(compSt n sel σ)[n+j]?=some (some (.ref a)) -> σ[i]?=some (some (.ref a)):=λ{j i a} ej e3=>by
  rw[Zfk ej]at e3;cases q:σ[i]? with
  |none=>rw[q]at e3;cases e3
  |some w=>rw[q]at e3;cases e3;rfl
 have oldH:∀b o,H1 b=some o->(upd H1 acc (.lst [])) b=some o:=λb o e=>by rw[Za9 (Zcb e hacc)];exact e
 refine⟨λb o hb e=>oldH b o<|k1.same b o hb e,λb hb z=>?_,Same.refl _,λb o e=>⟨oldH b o<|k1.live b o e,.inr e⟩,λb o e=>?_,?_,λi d e=>?_,λi x od e1 e2=>?_,λi j x y od od' a e1 e2 e3 e4 e5 e6=>?_⟩
 ·cases q:H1 b with
  |none=>exact k1.lent b hb q
  |some u=>rw[oldH b u q]at z;cases z
 ·rcases hX b o e with ⟨rfl,rfl⟩|⟨hb,⟨⟨i0,x0,od0,f1,f2,f3,f4⟩,e⟩|e⟩
  ·refine⟨Za3,hGa,λi x od e1 e2 e3=>?_⟩
   rcases Zdl e1 with z|⟨j,i',ei,ej,z⟩
   ·subst z;cases e2
   ·subst ei
    obtain⟨a,o,w1,w2,_⟩:=k1.own i' x od z e2;rw[cs ej e3]at w1;cases w1;rw[hacc]at w2;cases w2
  ·obtain⟨a,oo,w1,w2,w3,w4,w5⟩:=k1.own i0 x0 od0 f1 f2
   rw[f4]at w1;cases w1;refine⟨oldH b o e,w4,λi x od e1 e2 e3=>?_⟩;rcases Zdl e1 with z|⟨j,i',ei,ej,z⟩
   ·subst z;cases e2
   ·subst ei
    have:=k1.dis i0 i' x0 x od0 od b f1 f2 z e2 f4<|cs ej e3;subst this;exact f3<|Way ej
  ·obtain⟨w1,w2,w3⟩:=k1.ext b o e
   refine⟨oldH b o w1,w2,λi x od e1 e2 e3=>?_⟩;rcases Zdl e1 with z|⟨j,i',ei,ej,z⟩
   ·subst z;cases e2
   ·subst ei;exact w3 i' x od z e2<|cs ej e3
 ·unfold compD compSt
  simp
 ·rcases Zdl e with z|⟨j,i',ei,ej,z⟩
  ·cases z
  ·subst ei
   obtain⟨v,w1,w2⟩:=k1.val i' d z;exact⟨v,by rw[Zfk ej,w1];rfl,w2⟩
 ·rcases Zdl e1 with z|⟨j,i',ei,ej,z⟩
  ·subst z;cases e2
  ·subst ei
   obtain⟨a,o,w1,w2,w3,w4,w5⟩:=k1.own i' x od z e2;exact⟨a,o,by rw[Zfk ej,w1];rfl,oldH a o w2,w3,w4,w5⟩
 ·rcases Zdl e1 with z|⟨j1,i1,ei,ej,z⟩
  ·subst z;cases e2
  ·rcases Zdl e3 with z'|⟨j2,i2,ei',ej',z'⟩
   ·subst z';cases e4
   ·subst ei;subst ei'
    have:=k1.dis i1 i2 x y od od' a z e2 z' e4 (cs ej e5)<|cs ej' e6;subst this;rw[hsl ej ej']
theorem Zj9 {σ σ2:St}{Δ1 Δ2:Evt}{n:Nat}{sel:List Nat}(hσ:∀j,n<=j -> σ2[j]?=(compSt n sel σ)[j]?) (i:Nat) (y:Slot) (od:OD) (e1:(backD n sel Δ2 0 Δ1)[i]?=some y) (e2:y.od=some od) :
  ∃x od',Δ1[i]?=some x/\x.od=some od' /\ ((x=y/\i ∉ sel)\/∃j,sel[j]?=some i /\ Δ2[n+j]?=some y /\ σ2[n+j]?=some ((σ[i]?).getD none)):=by
 rw[Zec]at e1;cases q:Δ1[i]? with
 |none=>rw[q]at e1;cases e1
 |some x=>
  rw[q]at e1;have e1:backAt n sel Δ2 i x=y:=by simpa using e1
  rcases Zqd e1 e2 with ⟨z1,z2⟩|⟨j,z1,z2,od',z3⟩
  ·refine⟨x,od,rfl,by rw[z1];exact e2,.inl ⟨z1,λhm=>?_⟩⟩
   rw[List.idxOf?_eq_none_iff]at z2;exact z2 hm
  ·exact⟨x,od',rfl,z3,.inr ⟨j,z1,z2,by rw[hσ (n+j) (by omega)];exact Zfk z1⟩⟩
theorem Zia {g:Gm}{G1 H1 G2 H2 Xv:Hp}{σ σ2:St}{Δ1 Δ2:Evt}{n:Nat}{sel:List Nat}{acc:Addr}(k1:Ok K g G1 H1 σ Δ1) (hacc:H1 acc=none) (k2:Ok K ⟨g.B,G1,g.Hz,Xv⟩ G2 H2 σ2 Δ2) (hσ:∀j,n<=j -> σ2[j]?=(compSt n sel σ)[j]?)
  (hX:∀b o,b≠acc->(∃(i:Nat) (x:Slot) (od:OD),Δ1[i]?=some x/\x.od=some od/\i ∉ sel /\ σ[i]?=some (some (.ref b)))->H1 b=some o->Xv b=some o) (hY:∀b o,b≠acc->¬ (∃(i:Nat) (x:Slot) (od:OD),Δ1[i]?=some x/\x.od=some od/\i ∉ sel /\ σ[i]?=some (some (.ref b)))->g.Xo b=some o->Xv b=some o):Ok K g G2 H2 σ (backD n sel Δ2 0 Δ1):=by
 have s2:Same G1 G2:=k2.sub;have src:=Zj9 (Δ1:=Δ1) (Δ2:=Δ2) hσ;refine⟨k2.same,k2.lent,k1.sub.trans s2,λb o e=>?_,λb o e=>?_,by rw[Zla,k1.len],λi d e=>?_,λi y od e1 e2=>?_,λi j x y od od' a e1 e2 e3 e4 e5 e6=>?_⟩
 ·obtain⟨q1,q2⟩:=k2.frz b o e
  refine⟨q1,?_⟩;rcases q2 with z|z
  ·exact .inl z
  ·exact(k1.frz b o z).2
 ·obtain⟨w1,w2,w3⟩:=k1.ext b o e
  have hne:b≠acc:=by intro z;subst z;rw[hacc]at w1;cases w1
  obtain⟨u1,u2,u3⟩:=k2.ext b o<|hY b o hne (λ⟨i,x,od,f1,f2,f3,f4⟩=>w3 i x od f1 f2 f4) e;refine⟨u1,u2,λi y od e1 e2 e3=>?_⟩;obtain⟨x,od',f1,f2,_⟩:=src i y od e1 e2;exact w3 i x od' f1 f2 e3
 ·rw[Zec]at e
  cases q:Δ1[i]? with
  |none=>rw[q]at e;cases e
  |some x=>
   rw[q]at e;have e:backAt n sel Δ2 (0+i) x=.val d:=by simpa using e
   have ex:x=.val d:=by
    unfold backAt at e;cases x with
    |any=>cases e
    |val d'=>exact e
    |own o=>dsimp only at e;split at e <;> first|cases e|(split at e <;> cases e)
    |bor o=>dsimp only at e;split at e <;> first|cases e|(split at e <;> cases e)
    |ownA a o=>dsimp only at e;split at e <;> first|cases e|(split at e <;> cases e)
   subst ex;obtain⟨v,w1,w2⟩:=k1.val i d q;exact⟨v,w1,w2.mono s2⟩
 ·obtain⟨x,od',f1,f2,f3⟩:=src i y od e1 e2
  rcases f3 with ⟨f3,f4⟩|⟨j,f3,f4,f5⟩
  ·subst f3
   obtain⟨a,o,w1,w2,w3,w4,w5⟩:=k1.own i x od f1 e2;have hne:a≠acc:=by intro z;subst z;rw[hacc]at w2;cases w2
   obtain⟨u1,u2,u3⟩:=k2.ext a o<|hX a o hne ⟨i,x,od,f1,e2,f4,w1⟩ w2;exact⟨a,o,w1,u1,w3.mono s2,u2,w5⟩
  ·obtain⟨a,o,w1,w2,w3,w4,w5⟩:=k2.own (n+j) y od f4 e2
   obtain⟨a0,o0,v1,_⟩:=k1.own i x od' f1 f2;rw[f5,v1]at w1;have ea:a0=a:=by cases w1;rfl
   subst ea;exact⟨a0,o,v1,w2,w3,w4,w5⟩
 ·obtain⟨x',od1,f1,f2,_⟩:=src i x od e1 e2
  obtain⟨y',od2,f3,f4,_⟩:=src j y od' e3 e4;exact k1.dis i j x' y' od1 od2 a f1 f2 f3 f4 e5 e6
theorem Ok.base {g:Gm}{G1 F X G5 H5:Hp}{σ5:St}{Δ5:Evt}(sF:Same G1 F) (hF:∀b o,F b=some o->(g.Hz b=none\/G1 b=some o)) (k5:Ok K ⟨g.B,F,g.Hz,X⟩ G5 H5 σ5 Δ5):Ok K ⟨g.B,G1,g.Hz,X⟩ G5 H5 σ5 Δ5:=
 ⟨k5.same,k5.lent,sF.trans k5.sub,λb o q=>by
  obtain⟨q1,q2⟩:=k5.frz b o q;refine⟨q1,?_⟩;rcases q2 with z|z
  ·exact .inl z
  ·exact hF b o z,k5.ext,k5.len,k5.val,k5.own,k5.dis⟩
theorem Zrn {n:Nat}{sel:List Nat}{wi:TI}{t:TG}{tc:TT}{te:TE}{P:OD->Evt->Prop}(hsel:sel.Nodup)
  (h:JI K wi Δ λds Δ1=>ds.length<sizeLine/\∃I:Nat->List D->Evt->Prop,I 0 [] (compD n sel Δ1) ∧
   (∀i d ys Δ2,ds[i]?=some d->I i ys Δ2->JGn K n t d Δ2 λΔ3=>JT K tc Δ3 λb Δ4=>if b=true then JE K te Δ4 λe Δ5=>I (i+1) (ys++[e]) Δ5 else I (i+1) ys Δ4) ∧
   ∀ys Δ2,I ds.length ys Δ2->P (.lst ys) (backD n sel Δ2 0 Δ1)):JO K (tComp n sel wi t tc te) Δ P:=λg G H σ Q k c=>
 h g G H σ _ k λJ ds G1 H1 Δ1 k1 s1 it ⟨hz,I,h0,ht,he⟩ acc hacc=>by
  have nacc:∀(i:Nat) x od,Δ1[i]?=some x->x.od=some od -> σ[i]?≠some (some (.ref acc)):=λi x od e1 e2 e3=>by
   obtain⟨a,o,w1,w2,_⟩:=k1.own i x od e1 e2;rw[e3]at w1;cases w1;rw[hacc]at w2;cases w2
  -- the word at each turn
  let Wd:Nat->St->Hp->Prop:=λi σ' H'=>i<=ds.length/\(∀j,n<=j -> σ'[j]?=(compSt n sel σ)[j]?)/\∃G ys vs Δi,ys.length<=i/\Reps K G vs ys/\Ok K ⟨g.B,G1,g.Hz,aside g sel σ Δ1 H1 acc vs⟩ G H' σ' Δi/\I i ys Δi
  refine⟨λi m σ' H'=>m=ds.length-i/\Wd i σ' H',⟨ds.length,by simp,Wcl _,λ_ _=>rfl,G1,[],[],compD n sel Δ1,Wak _,.nil,?_,h0⟩,?_⟩
  ·refine Zit hsel k1 hacc λb o e=>?_
   have e:aside g sel σ Δ1 H1 acc [] b=some o:=e;unfold aside at e;by_cases hb:b=acc
   ·rw[if_pos hb]at e;cases e;exact .inl ⟨hb,rfl⟩
   ·rw[if_neg hb]at e
    split at e
    case isTrue hx=>exact .inr ⟨hb,.inl ⟨hx,e⟩⟩
    case isFalse hx=>exact .inr ⟨hb,.inr e⟩
  ·rintro i m σ2 H2 ⟨rfl,hi,hσ,G2,ys,vs,Δ2,hy,ry,k2,h2⟩
   have s2:Same G1 G2:=k2.sub;obtain⟨stop,go⟩:=it G2 H2 s2 k2.live;have hacc2:∀{G' H':Hp}{σ':St}{Δ':Evt}{vs:List V}{F:Hp},Ok K ⟨g.B,F,g.Hz,aside g sel σ Δ1 H1 acc vs⟩ G' H' σ' Δ' -> H' acc=some (.lst vs)/\G' acc=none/\∀(i:Nat) x od,Δ'[i]?=some x->x.od=some od -> σ'[i]?≠some (some (.ref acc)):=λ{G' H' σ' Δ' vs F} kk=>
    kk.ext acc (.lst vs) (by show aside g sel σ Δ1 H1 acc vs acc=_;unfold aside;rw[if_pos rfl])
   by_cases hlt:i<ds.length
   ·obtain⟨g1,g2⟩:=go i _ (Waa hlt)
    refine .inr ⟨g1,λσ' H'=>Wd (i+1) σ' H',λσ' H' p'=>⟨ds.length-(i+1),by omega,rfl,p'⟩,λx H3 y=>?_⟩;obtain⟨G3,a1,a2,a3,a4⟩:=g2 x H3 y;have k3:=k2.grow a1 a2 a3;have hG3:∀b o,G3 b=some o->(g.Hz b=none\/G1 b=some o):=λb o q=>(k3.frz b o q).2;have k3':Ok K ⟨g.B,G3,g.Hz,aside g sel σ Δ1 H1 acc vs⟩ G3 H3 σ2 Δ2:=⟨k3.same,k3.lent,Same.refl _,λb o q=>⟨(k3.frz b o q).1,.inr q⟩,k3.ext,k3.len,k3.val,k3.own,k3.dis⟩;have ry3:Reps K G3 vs ys:=ry.mono a1;have s13:Same G1 G3:=s2.trans a1;refine ht i _ ys Δ2 (Waa hlt) h2 ⟨g.B,G3,g.Hz,aside g sel σ Δ1 H1 acc vs⟩ G3 H3 σ2 x _ k3' a4 λσ4 G4 H4 Δ4 k4 s4 e4 p4=>?_;have hσ4:∀j,n<=j -> σ4[j]?=(compSt n sel σ)[j]?:=λj hj=>(e4 j hj).trans (hσ j hj);refine p4 _ G4 H4 σ4 _ k4 λb G5 H5 Δ5 k5 s5 p5=>?_;cases b with
    |false=>exact⟨hlt,hσ4,G5,ys,vs,Δ5,by omega,ry3.mono (s4.trans s5),k5.base s13 hG3,p5⟩
    |true=>
     refine(show JE K te Δ5 _ from p5) _ G5 H5 σ4 _ k5 λv d G6 H6 Δ6 k6 s6 r6 p6=>?_;have ry6:Reps K G6 vs ys:=ry3.mono<|s4.trans<|s5.trans s6;obtain⟨b1,b2,b3⟩:=hacc2 k6;refine⟨vs,b1,by rw[ry6.length];omega,hlt,hσ4,G6,ys++[d],vs++[v],Δ6,by rw[Wan,Wbt];omega,ry6.append (.cons r6 .nil),?_,p6⟩;have k7:=k6.base s13 hG3;have oldH:∀b o,b≠acc->H6 b=some o->(upd H6 acc (.lst<|vs++[v])) b=some o:=λb o hb e=>by rw[Za9 hb];exact e
     have aNe:∀b o,b≠acc->aside g sel σ Δ1 H1 acc (vs++[v]) b=some o->aside g sel σ Δ1 H1 acc vs b=some o:=λb o hb e=>by
      unfold aside at e ⊢;rw[if_neg hb]at e ⊢;exact e
     refine⟨λb o hb e=>?_,λb hb=>?_,k7.sub,λb o e=>?_,λb o e=>?_,k7.len,k7.val,λi x od e1 e2=>?_,k7.dis⟩
     ·have hne:b≠acc:=by
       intro z;subst z;have e:g.Hz b=some o:=e;rw[k1.there hacc]at e;cases e
      exact oldH b o hne<|k7.same b o hb e
     ·by_cases hne:b=acc
      ·subst hne;rw[Za3];intro z;cases z
      ·rw[Za9 hne];exact k7.lent b hb
     ·have hne:b≠acc:=by intro z;subst z;rw[b2]at e;cases e
      exact⟨oldH b o hne (k7.frz b o e).1,(k7.frz b o e).2⟩
     ·by_cases hne:b=acc
      ·subst hne
       have e:aside g sel σ Δ1 H1 b (vs++[v]) b=some o:=e;unfold aside at e;rw[if_pos rfl]at e;cases e;exact⟨Za3,b2,b3⟩
      ·obtain⟨w1,w2,w3⟩:=k7.ext b o (aNe b o hne e)
       exact⟨oldH b o hne w1,w2,w3⟩
     ·obtain⟨a,o,w1,w2,w3,w4,w5⟩:=k7.own i x od e1 e2
      have hne:a≠acc:=by intro z;subst z;exact b3 i x od e1 e2 w1
      exact⟨a,o,w1,oldH a o hne w2,w3,w4,w5⟩
   ·have e:i=ds.length:=by omega
    subst e;refine .inl ⟨stop,?_⟩;obtain⟨b1,b2,b3⟩:=hacc2 k2;have src:=Zj9 (Δ1:=Δ1) (Δ2:=Δ2) hσ;have k9:Ok K g G2 H2 σ (backD n sel Δ2 0 Δ1):=Zia k1 hacc k2 hσ (λb o hb hx e=>by show aside g sel σ Δ1 H1 acc vs b=_;unfold aside;rw[if_neg hb,if_pos hx];exact e) (λb o hb hx e=>by show aside g sel σ Δ1 H1 acc vs b=_;unfold aside;rw[if_neg hb,if_neg hx];exact e);refine c acc _ G2 H2 _ k9 (s1.trans s2) ⟨.lst vs,b1,(show OwnRep K G2 (.lst vs) (.lst ys) from ry),b2,k1.there hacc,?_,λi y od e1 e2 e3=>?_⟩<|he ys Δ2 h2
    ·cases q:g.Xo acc with
     |none=>rfl
     |some u=>have z:=(k1.ext acc u q).1;rw[hacc]at z;cases z
    ·obtain⟨x',od1,f1,f2,_⟩:=src i y od e1 e2
     exact nacc i x' od1 f1 f2 e3
theorem Zwz {n:Nat}{sel:List Nat}{wi:TI}{t:TG}{tc:TT}{te:TE}{P:D->Evt->Prop}(hsel:sel.Nodup)
  (h:JI K wi Δ λds Δ1=>ds.length<sizeLine/\∃I:Nat->List D->Evt->Prop,I 0 [] (compD n sel Δ1) ∧
   (∀i d ys Δ2,ds[i]?=some d->I i ys Δ2->JGn K n t d Δ2 λΔ3=>JT K tc Δ3 λb Δ4=>if b=true then JE K te Δ4 λe Δ5=>I (i+1) (ys++[e]) Δ5 else I (i+1) ys Δ4) ∧
   ∀ys Δ2,I ds.length ys Δ2->P (.lst ys) (backD n sel Δ2 0 Δ1)):JE K (tComp n sel wi t tc te) Δ P:=
 Zbr (Zrn hsel λg G H σ R k c=>h g G H σ R k λJ ds G' H' Δ' k' s' it ⟨z,I,h0,ht,he⟩=>c J ds G' H' Δ' k' s' it ⟨z,I,h0,ht,λys Δ2 q=>⟨ys,rfl,he ys Δ2 q⟩⟩)
theorem Zno {n:Nat}{sel:List Nat}{wi:TI}{t:TG}{tc:TT}{te:TE}{P:D->Evt->Prop}(hsel:sel.Nodup)
  (h:JI K wi Δ λds Δ1=>ds.length<sizeLine/\∃(fix:Evt) (p:D->Bool) (f:D->D),compD n sel Δ1=Wal n .any++fix ∧
   (∀(i:Nat) d (ts:Evt),ds[i]?=some d->ts.length=n->JGn K n t d (ts++fix) λΔ3=>JT K tc Δ3 λb Δ4=>b=p d/\if b=true then JE K te Δ4 λe Δ5=>e=f d/\∃ts',ts'.length=n /\ Δ5=ts'++fix else ∃ts',ts'.length=n /\ Δ4=ts'++fix) ∧
   P (.lst ((ds.filter p).map f)) (backD n sel (Wal n .any++fix) 0 Δ1)):JE K (tComp n sel wi t tc te) Δ P:=by
 refine Zwz hsel λg G H σ R k c=>h g G H σ R k λJ ds G' H' Δ' k' s' it ⟨z,fix,p,f,e0,ht,he⟩=>c J ds G' H' Δ' k' s' it ⟨z,λi ys Δ=>ys=((ds.take i).filter p).map f/\∃ts:Evt,ts.length=n /\ Δ = ts++fix,?_,?_,?_⟩
 ·exact⟨by simp,_,by simp,e0⟩
 ·rintro i d ys Δ2 hd ⟨rfl,ts,hts,rfl⟩
  have tk:ds.take (i+1)=ds.take i++[d]:=by
   rw[Wca,hd];rfl
  intro g G H σ v R k r c;refine ht i d ts hd hts g G H σ v R k r λσ' G' H' Δ' k' s' e' q=>c σ' G' H' Δ' k' s' e' λg G H σ Q k c=>q g G H σ Q k λb G' H' Δ' k' s' ⟨eb,q⟩=>c b G' H' Δ' k' s' ?_;cases b with
  |true=>
   rw[if_pos rfl]at q ⊢;refine q.mono λe Δ5 ⟨e1,ts',h1,h2⟩=>⟨?_,ts',h1,h2⟩;rw[tk,Wbo,Waz,Wbs,<- eb,e1];rfl
  |false=>
   rw[if_neg Wag]at q ⊢;obtain⟨ts',h1,h2⟩:=q;refine⟨?_,ts',h1,h2⟩;rw[tk,Wbo,Waz,Wbs,<- eb];simp
 ·rintro ys Δ2 ⟨rfl,ts,hts,rfl⟩
  rw[Wbv];have e:backD n sel (ts++fix) 0 Δ'=backD n sel (Wal n .any++fix) 0 Δ':=by
   apply Wcb;intro i;rw[Zec,Zec];congr 1
   funext x
   unfold backAt;have e2:∀j,(ts++fix)[n+j]?=(Wal n Slot.any++fix)[n+j]?:=λj=>by
    rw[Wa1 (by omega),Wa1 (by simp),hts,Wa8]
   simp only[e2]
  rw[e];exact he
end
end L2
set_option Elab.async false
set_option linter.all false
set_option maxRecDepth 100000
namespace HT
open PySem PyProof.Rows
section
variable {prog:Program}{w:World}{A:Around}{E:Value->Shared->Prop}{s:Shared}
theorem getItem_tuple_whole {t sl:Addr}{items:Array Value}{vl vu:Value}{lo hi:Option Int}{Q:Value->Shared->Prop}(ht:IsTup s.heap t items) (hs:s.heap.IsSliceOf sl vl vu .none) (pl:IsPart vl lo) (pu:IsPart vu hi)
  (hw:sIx items.size 0 lo=0/\sIx items.size items.size hi=items.size) (h:Q (.ref t) s):wpAny (model prog w) A (getItem (.ref t) (.ref sl)) Q E s:=by
 obtain⟨os,hos,hcs,hds⟩:=id hs;have hTs:s.TypeIs (.ref sl) "slice":=⟨os,hos,hcs⟩;unfold getItem
 try with_reducible refine wpAny_holding ?_
 first|refine wpAny_bind (wpAny_pure ?_)|skip
 refine wpAny_bind (wpAny_sequenceKey ht.typeIs (by decide) ?_);refine wpAny_bind (wpAny_callSpecial?_slot (name:=Str.ofString "__getitem__") ht.typeIs PyProof.Rows.slot_tuple_getitem
  (wpAny_call_entry PyProof.Rows.slot_tuple_getitem ht.typeIs entry_tuple_getitem ?_ (args_tuple_getitem _ _)))
 show wpAny _ _ (Builtin.Tuple.tupleItemsOf (.ref t) >>= _) _ _ s;refine wpAny_bind<|tupleItemsOf_ ht ?_;refine wpAny_bind<|wpAny_typeOf hTs ?_;rw[if_pos (by decide)];refine wpAny_bind<|Zex hs pl pu ?_;have hyes:(((sIx items.size 0 lo:Nat):Int) == 0 && (1:Int) == 1 && (sIx items.size items.size hi-sIx items.size 0 lo) == items.size)=true:=by
  rw[hw.1,hw.2];simp
 show wpAny _ _ (if (((sIx items.size 0 lo:Nat):Int) == 0 && (1:Int) == 1 && (sIx items.size items.size hi-sIx items.size 0 lo) == items.size)=true then _ else _) _ _ s;rw[if_pos hyes]
 first
  |exact wpAny_pure ⟨_,rfl,wpAny_pure h⟩
  |exact wpAny_pure ⟨_,rfl,h⟩
  |exact wpAny_bind (wpAny_pure (wpAny_pure ⟨_,rfl,wpAny_pure h⟩))
  | (refine wpAny_bind (wpAny_bind (wpAny_typeOf ht.typeIs (wpAny_pure ?_)))
     rw[if_pos (by decide)];exact wpAny_bind (wpAny_rule (wpAny_pure ⟨_,rfl,wpAny_pure h⟩)))
theorem tuple_index {t:Addr}{items:Array Value}{x:Value}{e:Value->Bool}{j:Nat}{Q:Value->Shared->Prop}(ht:IsTup s.heap t items) (he:∀y∈items,PySem.SeqAt.EqAt A.in1 s y x (e y)) (hj:j<items.size)
  (hit:e items[j]=true) (hno:∀m (hm:m<items.size),m<j->e items[m]=false) (h:Q (.int j s.toks) { s with toks:=s.toks+1 }) :
  wpAny (model prog w) A (call (.builtin "tuple.index") [.ref t,x]) Q E s:=by
 refine wpAny_call_entry PySem.F.slot_tuple_index ht.typeIs PySem.F.entry_tuple_index ?_<|PySem.F.args_tuple_index_2 _ _;show wpAny _ _ (Builtin.Tuple.tupleItemsOf (.ref t) >>= _) _ _ s;refine wpAny_bind<|tupleItemsOf_ ht ?_;refine wpAny_bind<|wpAny_pure<|wpAny_bind<|wpAny_pure<|wpAny_bind ?_;rw[We0];simp only[Std.Legacy.Range.forIn_eq_forIn_range',Std.Legacy.Range.size,Wef,Nat.add_sub_cancel,Nat.div_one];refine wpAny_mono (Q:=λb s'=>s' = { s with toks:=s.toks+1 } /\ b.1=some (Fin.done (.ret (.int j s.toks)))) ?_ (λb s' hb=>?_) λ_ _ z=>z;refine wpAny_forIn_list _ (λl b s'=>s'=s/\∃i,l=List.range' i (items.size-i)/\i<=j) _ ?_ ?_ _ _ ⟨rfl,0,rfl,Wcl _⟩
 ·rintro i rest b s' ⟨rfl,k,hl,hk⟩
  have hk2:items.size-k=(items.size-k-1)+1:=by omega
  rw[hk2,List.range'_succ]at hl;injection hl with hl1 hl2
  subst hl1;have hi:i<items.size:=by omega
  rw[Array.getElem?_eq_getElem hi];refine wpAny_bind<|he _ (Array.getElem_mem hi) prog w _ _ ?_;by_cases hij:i=j
  ·subst hij
   rw[hit,if_pos rfl];exact wpAny_bind<|wpAny_bind<|wpAny_mkInt<|wpAny_pure<|wpAny_pure ⟨rfl,rfl⟩
  ·rw[hno i hi (by omega),if_neg Wag]
   exact wpAny_pure ⟨rfl,i+1,by rw[hl2,show items.size-i-1=items.size-(i+1) by omega],by omega⟩
 ·rintro b s' ⟨rfl,k,hl,hk⟩
  have:=congrArg Wa6 hl;simp at this;omega
 ·obtain⟨rfl,e1⟩:=hb
  obtain⟨b1,b2⟩:=b;dsimp only at e1;subst e1;exact wpAny_pure ⟨_,rfl,h⟩
end
end HT
namespace L2
open PySem PySem.Spec PyProof.Rows
section
variable {X:Cx}
def rSlT' (K:W.Frag):V->Option Int->Option Int->Hp->VK->Prop:=λx lo hi H Q=>∃a xs,x=.ref a/\SqT K H a xs ∧
 ((HT.sIx xs.length 0 lo=0/\HT.sIx xs.length xs.length hi=xs.length)->Q (.ref a) H) ∧
 (¬ (HT.sIx xs.length 0 lo=0/\HT.sIx xs.length xs.length hi=xs.length)->∀p,H p=none->Q (.ref p) (upd H p (.tup<|cutV xs lo hi)))
theorem Zu2:SlR X (rSlT' X.K):=by
 intro pins s σ H x v vl vu lo hi sl Q I rx hs pl pu h;obtain⟨a,xs,rfl,hx,q1,q2⟩:=h;by_cases hw:HT.sIx xs.length 0 lo=0/\HT.sIx xs.length xs.length hi=xs.length
 ·cases rx
  obtain⟨its,r,ht,hz⟩:=I.tuple hx;have hlen:its.toArray.size=xs.length:=by rw[Waj];exact r.length.symm
  exact⟨"tuple",_,PyProof.Rows.slot_tuple_getitem.lookup,ht.typeIs,HT.getItem_tuple_whole ht hs pl pu (by rw[hlen];exact hw) ⟨.ref a,H,I,rfl,q1 hw⟩⟩
 ·exact Zxy pins s σ H (.ref a) v vl vu lo hi sl Q I rx hs pl pu ⟨a,xs,rfl,hx,hw,q2 hw⟩
def rSlU (K:W.Frag):V->Option Int->Option Int->Hp->VK->Prop:=λx lo hi H Q=>rSlL K x lo hi H Q\/rSlT' K x lo hi H Q
theorem slU:SlR X (rSlU X.K):=Zvz.or Zu2
def tSlR (K:W.Frag) (te:TE):TE:=λσ H Q=>te σ H λx H1=>∃a xs,x=.ref a/\SqT K H1 a xs/\∀p,H1 p=none->Q (.ref p) (upd H1 p (.tup xs.reverse))
def rCatT' (K:W.Frag):R2:=λx y H Q=>∃a b xs ys,x=.ref a/\y=.ref b/\SqT K H a xs/\SqT K H b ys/\xs.length+ys.length<=sizeLine ∧
 (xs=[]->Q (.ref b) H)/\(xs≠[]->ys=[]->Q (.ref a) H)/\(xs≠[]->ys≠[]->∀p,H p=none->Q (.ref p) (upd H p (.tup<|xs++ys)))
theorem Zss:OpR X (binaryOp .Add) (rCatT' X.K):=by
 intro pins s σ H x y v u Q I rx ry h;obtain⟨a,b,xs,ys,rfl,rfl,ha,hb,hz,q0,q1,q2⟩:=h;by_cases hx:xs=[]
 ·cases rx
  cases ry;obtain⟨its,r1,p1,_⟩:=I.tuple ha;obtain⟨its2,r2,p2,_⟩:=I.tuple hb;obtain⟨⟨cls,dd,data,sl⟩,ho,hc,n,hd⟩:=id p1;obtain⟨⟨cls2,dd2,data2,sl2⟩,ho2,hc2,n2,hd2⟩:=id p2;simp only at hc hd hc2 hd2;subst hc hd hc2 hd2;exact concat_meets ⟨_,ho,rfl⟩ ⟨_,ho2,rfl⟩ noFill_tuple_add seq_tuple_add PySem.F.slot_tuple_add PySem.F.entry_tuple_add (PySem.F.args_tuple_add_2 _ _)
   (tuple_addW0 a b its.toArray its2.toArray n n2 dd dd2 sl sl2 (by simp[r1.nil_iff.mpr hx])) ⟨ho,ho2,⟨.ref b,H,I,rfl,q0 hx⟩⟩
 ·exact Zwy pins s σ H (.ref a) (.ref b) v u Q I rx ry ⟨a,b,xs,ys,rfl,rfl,ha,hb,hx,hz,q1 hx,q2 hx⟩
def rAddU (K:W.Frag):R2:=λx y H Q=>rI0 (λi j=>.int<|i+j) x y H Q\/(rCatT' K x y H Q\/rCat x y H Q)
theorem Zv4:OpR X (binaryOp .Add) (rAddU X.K):=Zw9.or<|Zss.or Zx5
theorem Zci:OpR X (compareOp .Eq) rEq:=Zy8
theorem Zg0:OpR X (compareOp .NotEq) rNe:=Zzl
def rIxD:R2:=λx y H Q=>∃a v,x=.ref a/\DGet H a y (some v)/\Q v H
theorem Zwd (hu:X.A.units+1<cLine):IxR X rIxD:=by
 intro value slice pins s σ H x y v u Q I rx ry h hs;obtain⟨a,w',rfl,g,q⟩:=h;cases rx;exact tail_any (Zlk I g) PySem.F.slot_dict_getitem.lookup (Zq1 hu I g ry λw2 s3 I3 rw'=>⟨w',H,I3,rw',q⟩) hs
def rIxU (K:W.Frag):R2:=λx y H Q=>rIx K x y H Q\/rIxD x y H Q
theorem ixU (hu:X.A.units+1<cLine):IxR X (rIxU X.K):=Zw1.or<|Zwd hu
def rSetD:V->V->V->Hp->(Hp->Prop)->Prop:=λo i v H Q=>∃a H',o=.ref a/\DPut H a i v H' /\ Q H'
theorem Ztx (hu:X.A.units+1<cLine):PSet X rSetD:=by
 intro pins s σ H o i v ov iv u Q I ro ri rv h;obtain⟨a,H',rfl,g,q⟩:=h;cases ro;exact Zoy hu I g ri rv λs' I'=>⟨H',I',q⟩
theorem PSet.or {t t':TSet}(h:PSet X t) (h':PSet X t'):PSet X (λo i v H Q=>t o i v H Q\/t' o i v H Q):=by
 intro pins s σ H o i v ov iv u Q I ro ri rv q;rcases q with q|q
 ·exact h pins s σ H o i v ov iv u Q I ro ri rv q
 ·exact h' pins s σ H o i v ov iv u Q I ro ri rv q
def rSetU:V->V->V->Hp->(Hp->Prop)->Prop:=λo i v H Q=>rSetL o i v H Q\/rSetD o i v H Q
theorem setU (hu:X.A.units+1<cLine):PSet X rSetU:=Zsg.or<|Ztx hu
def rLenU (K:W.Frag):List V->Hp->VK->Prop:=λxs H Q=>(∃p ys,xs=[.ref p]/\(SqL K H p ys\/SqT K H p ys)/\Q (.int ys.length) H)\/∃a kvs,xs=[V.ref a]/\H a=some (.dK kvs)/\Q (.int kvs.length) H
theorem Zqh:CallR X (.builtin "len") (rLenU X.K):=Zkw.or Zrx
def rIsi (K:W.Frag):List V->Hp->VK->Prop:=λxs H Q=>∃x n t b,xs=[x,.ty n]/\TyOf K H x t/\PySem.W.kitOne K t (.type n)=some b/\Q (.bl b) H
theorem Zmq:CallR X (.builtin "isinstance") (rIsi X.K):=by
 intro pins s σ H xs us Q I r h;obtain⟨x,n,t,b,rfl,ty,e,q⟩:=h;obtain⟨u,u',rfl,rx,rn⟩:=vals2 r;cases (show u'=Value.type n from rn);exact Zox I rx ty e λtk=>⟨.bl b,H,I.tok _,rfl,q⟩
def insI (n:Nat) (i:Int):Nat:=if i<0 then (i+(n:Int)).toNat else min i.toNat n
def rInsert:V->List V->Hp->VK->Prop:=λx vs H Q=>∃l xs i y,x=.ref l/\vs=[.int i,y]/\H l=some (.lst xs)/\xs.length<sizeLine /\ -(2 ^ 62)<=i/\i<2 ^ 62/\Q .non (upd H l (.lst (xs.take (insI xs.length i)++y::xs.drop (insI xs.length i))))
theorem Zp6:MtM X "list.insert" rInsert:=by
 intro pins s σ H x vs v us Q I rx rv h;obtain⟨l,xs,i,y,rfl,rfl,hH,hz,h1,h2,q⟩:=h;cases rx;obtain⟨ui,uy,rfl,⟨t,rfl⟩,ry⟩:=rv.two;obtain⟨z,its,n,r,hl,e⟩:=I.lstM hH;refine call_meets F.slot_list_insert ⟨_,e,rfl⟩ F.entry_list_insert (F.args_list_insert_3 _ _ _) (PySem.AutoSeq1.list_insert_list_int_val_1 l its.toArray n i t uy (by
  have hf:Builtin.List.listFitsIndex i=true:=by
   unfold Builtin.List.listFitsIndex;rw[decide_eq_true (by omega),decide_eq_true (by omega)];rfl
  rw[hf];decide) (by rw[Waj];omega)) ⟨e,?_⟩
 refine⟨.non,_,I.lset (its':=its.take (insI xs.length i)++uy::its.drop (insI xs.length i)) hH e ?_ ((r.take _).append (.cons ry<|r.drop _)) ?_,rfl,q⟩
 ·have e1:(if i<0 then (i+(its.toArray.size:Int)).toNat else min i.toNat its.toArray.size)=insI xs.length i:=by
   unfold insI;rw[Waj,hl]
  dsimp only;rw[e1];apply Array.ext';simp;rw[Wc8 (by rw[Wbr];exact Wak _)]
 ·rw[Wan,Wat,Wa5,Wbr]
  omega
def rIndexT (K:W.Frag):V->List V->Hp->VK->Prop:=λx vs H Q=>∃a xs y j,x=.ref a/\vs=[y]/\SqT K H a xs/\flatV y=true/\xs.all flatV=true/\j<xs.length ∧
 (∃z,xs[j]?=some z/\eqV z y=true)/\(∀m z,m<j->xs[m]?=some z->eqV z y=false)/\Q (.int j) H
theorem Zin:MtM X "tuple.index" (rIndexT X.K):=by
 intro pins s σ H x vs v us Q I rx rv h;obtain⟨a,xs,y,j,rfl,rfl,hx,fy,fx,hj,⟨z,hz1,hz2⟩,hno,q⟩:=h;cases rx;obtain⟨u,rfl,ru⟩:=rv.one;obtain⟨its,r,ht,hz⟩:=I.tuple hx;have hl:its.length=xs.length:=r.length.symm;have key:∀w∈its.toArray,SeqAt.EqAt X.A.in1 s w u (eqU y w):=λw hw=>by
  have hw:w∈its:=by simpa using hw
  obtain⟨k,hk,e⟩:=Wcd.mp hw;have hk':k<xs.length:=by omega
  obtain⟨w',hw',rw'⟩:=r.get<|Waa hk';have ew:w'=w:=by
   rw[Waa hk]at hw';exact(Wba.inj hw').symm.trans e
  subst ew;have fk:flatV xs[k]=true:=Wbi.mp fx _<|Wa0 hk';rw[Znn rw' fk];exact Zub rw' ru fk fy
 have at_:∀(k:Nat) (hk:k<its.toArray.size) (z:V),xs[k]?=some z->eqU y its.toArray[k]=eqV z y:=λk hk z e=>by
  obtain⟨w',hw',rw'⟩:=r.get e;have hk2:k<its.length:=by simpa using hk
  rw[Waa hk2]at hw';have ew:its.toArray[k]=w':=by simpa using Wba.inj hw'
  rw[ew];exact Znn rw'<|Wbi.mp fx _<|Way e
 have hj':j<its.toArray.size:=by simpa [hl] using hj
 refine HT.tuple_index ht key hj' (by rw[at_ j hj' z hz1];exact hz2) (λm hm hmj=>?_) ⟨.int j,H,I.tok _,⟨_,rfl⟩,q⟩;have hm2:m<xs.length:=by simpa [hl] using hm
 rw[at_ m hm _ (Waa hm2)];exact hno m _ hmj<|Waa hm2
end
end L2
namespace L2
open PySem PySem.Spec PyProof.Rows
section
variable {X:Cx}
theorem PI.or {tg iter:Expr}{w w':TI}(h:PI X tg iter w) (h':PI X tg iter w'):PI X tg iter (λσ H R=>w σ H R\/w' σ H R):=by
 intro pins s σ H R I q;rcases q with q|q
 ·exact h pins s σ H R I q
 ·exact h' pins s σ H R I q
def iSeq (K:W.Frag) (tl:TE):TI:=λσ H R=>iList K tl σ H R\/iTup K tl σ H R
theorem Zy3 {tg l:Expr}{tl:TE}(hl:PE X l tl):PI X tg l (iSeq X.K tl):=(Zwg hl).or (Zxr hl)
def tTru (K:W.Frag) (ta:TE):TT:=λσ H Q=>ta σ H λx H'=>∃k,TruV K x H' k/\Q k H'
theorem Zx1 {a:Expr}{ta:TE}(ha:PE X a ta) (he:∀whole,isTrue a X.env whole=(do let v ← whole;standAt a.pos;holding [v] (truthy v))):PT X a (tTru X.K ta):=Zsx ha he
end
section
variable {K:W.Frag}{Δ:Evt}{P:D->Evt->Prop}
theorem Zcd {i j:Int}(p:P (.int<|i+j) Δ):JR2 K (rAddU K) (.int i) (.int j) Δ P:=λg G H σ Q x y k rx ry c=>by
 cases rx.inv;cases ry.inv;exact .inl ⟨i,j,rfl,rfl,c _ _ G H Δ k (Same.refl _) (.int _) p⟩
theorem Zfw {ds es:List D}(hz:ds.length+es.length<=sizeLine) (p:P (.tup<|ds++es) Δ):JR2 K (rAddU K) (.tup ds) (.tup es) Δ P:=λg G H σ Q x y k rx ry c=>by
 cases rx with
 |tup ha ra=>
  cases ry with
  |tup hb rb=>
   refine .inr (.inl ⟨_,_,_,_,rfl,rfl,SqT.of<|k.live _ _ ha,SqT.of<|k.live _ _ hb,by rw[ra.length,rb.length];exact hz,λe=>?_,λ_ e=>?_,λ_ _ q hq=>?_⟩)
   ·subst e;cases ra;exact c _ _ G H Δ k (Same.refl _) (.tup hb rb) p
   ·subst e;cases rb;rw[Wa4]at p;exact c _ _ G H Δ k (Same.refl _) (.tup ha ra) p
   ·obtain⟨k2,sg⟩:=k.laid hq (.tup _)
    exact c _ _ _ _ Δ k2 sg (.tup Za3 ((ra.append rb).mono sg)) p
theorem Zmc {ds es:List D}(hz:ds.length+es.length<=sizeLine) (p:P (.lst<|ds++es) Δ):JR2 K (rAddU K) (.lst ds) (.lst es) Δ P:=λg G H σ Q x y k rx ry c=>by
 obtain⟨_,_,rfl,ha,ra⟩:=rx.inv
 next=>
  obtain⟨_,_,rfl,hb,rb⟩:=ry.inv
  next=>
   refine .inr (.inr ⟨_,_,_,_,rfl,rfl,k.live _ _ ha,k.live _ _ hb,by rw[ra.length,rb.length];exact hz,λq hq=>?_⟩);obtain⟨k2,sg⟩:=k.laid hq (.lst _);exact c _ _ _ _ Δ k2 sg (.lst Za3 ((ra.append rb).mono sg)) p
theorem Zas {ds:List D}{i:Int}{d:D}(h:atI ds i=some d) (p:P d Δ):JR2 K (rIxU K) (.tup ds) (.int i) Δ P:=λg G H σ Q x y k rx ry c=>
 .inl (.inr (.inl<|Zyf h p g G H σ Q x y k rx ry c))
theorem Zc4 {ds:List D}{i:Int}{d:D}(h:atI ds i=some d) (p:P d Δ):JR2 K (rIxU K) (.lst ds) (.int i) Δ P:=λg G H σ Q x y k rx ry c=>
 .inl (.inl<|Zw7 h p g G H σ Q x y k rx ry c)
theorem Zd3 {n:Nat}{tb:TE}{x:Slot}{ds:List D}(hx:Δ[n]?=some x) (ho:x.od=some (.lst ds)) (h:JE K tb Δ λe Δ1=>∃y es i d,Δ1[n]?=some y/\y.od=some (.lst es)/\e=.int i/\atI es i=some d/\P d Δ1):JE K (tOp (rIxU K) (tVar n) tb) Δ P:=λg G H σ Q k c=>by
 obtain⟨a,o,h1,h2,h3,h4,h5⟩:=k.own n x _ hx ho;refine⟨.ref a,h1,h g G H σ _ k λv e G1 H1 Δ1 k1 s1 r1 ⟨y,es,i,d,q1,q2,q3,q4,p⟩=>?_⟩;subst q3;cases r1.inv;obtain⟨a',o',w1,w2,w3,w4,w5⟩:=k1.own n y _ q1 q2;rw[h1]at w1;cases w1;cases o' with
 |lst vs=>
  obtain⟨u,z1,z2⟩:=Zj4 (show Reps K G1 vs es from w3) q4;exact .inl (.inl ⟨a,vs,i,u,rfl,rfl,SqL.of w2,z1,c u d G1 H1 Δ1 k1 s1 z2 p⟩)
 |_=>exact absurd w3 (λz=>z)
theorem Zqb {n:Nat}{ti te:TE}{Pp:Pst}(h:JE K te Δ λd Δ1=>(∃x od,Δ1[n]?=some x/\x.od=some od)/\JE K ti Δ1 λe Δ2=>∃x ds i j,Δ2[n]?=some x/\x.od=some (.lst ds)/\e=.int i/\ixN ds.length i=some j/\Pp.nx (Δ2.set n<|x.put (.lst<|ds.set j d))) :
  JS K (tAsg te<|gSub (tVar n) ti rSetU) Δ Pp:=λg G H σ E k c=>
 h g G H σ _ k λv d G1 H1 Δ1 k1 s1 r1 hq_=>by
  obtain⟨⟨x,od,hx,ho⟩,p1⟩:=hq_;obtain⟨a,o,h1,h2,h3,h4,h5⟩:=k1.own n x _ hx ho;refine⟨.ref a,h1,p1 g G1 H1 σ _ k1 λu e G2 H2 Δ2 k2 s2 r2 ⟨y,ds,i,j,q1,q2,q3,q4,p⟩=>?_⟩;subst q3;cases r2.inv;obtain⟨a',o',w1,w2,w3,w4,w5⟩:=k2.own n y _ q1 q2;rw[h1]at w1;cases w1;cases o' with
  |lst vs=>
   have w3:Reps K G2 vs ds:=w3;exact .inl ⟨a,vs,i,j,rfl,rfl,w2,by rw[w3.length];exact q4,c.nx σ G2 _ _ (k2.write q1 q2 h1 (show OwnRep K G2 (.lst<|vs.set j v) (.lst<|ds.set j d) from w3.set j (r1.mono s2))) p⟩
  |_=>exact absurd w3 (λz=>z)
def valD (kvs:List (Key × D)) (k:Key):Option D:=(kvs.find? λkv=>decide (kv.1=k)).map (·.2)
def putD (kvs:List (Key × D)) (k:Key) (v:D):List (Key × D):=if (kvs.any λkv=>decide (kv.1=k))=true then kvs.map (λkv=>if kv.1=k then (kv.1,v) else kv) else kvs++[(k,v)]
theorem Zlw {G:Hp}{k:Key}{d:D}:∀{kvs:List (Key × V)}{kds:List (Key × D)},Paired (λ(p:Key × V) (q:Key × D)=>p.1=q.1/\Rep K G p.2 q.2) kvs kds->valD kds k=some d->∃v,valV kvs k=some v/\Rep K G v d
 |_,_,.nil,h=>by cases h
 | (k1,v1)::kvs,(k2,d2)::kds,.cons ⟨e,r⟩ t,h=>by
  have e:k1=k2:=e;subst e;by_cases hk:k1=k
  ·subst hk
   have h:some d2=some d:=by simpa [valD,Wc0] using h
   cases h;exact⟨v1,Zhj rfl,r⟩
  ·have h:valD kds k=some d:=by simpa [valD,Wc0,hk] using h
   obtain⟨v,h1,h2⟩:=Zlw t h;exact⟨v,by rw[Zhf hk];exact h1,h2⟩
theorem Zp5 {G:Hp}{k:Key}:∀{kvs:List (Key × V)}{kds:List (Key × D)},Paired (λ(p:Key × V) (q:Key × D)=>p.1=q.1/\Rep K G p.2 q.2) kvs kds->(kvs.any λkv=>decide (kv.1=k))=(kds.any λkv=>decide (kv.1=k))
 |_,_,.nil=>rfl
 |_::_,_::_,.cons ⟨e,_⟩ t=>by rw[Wdf,Wdf,Zp5 t,e]
theorem Zp9 {G:Hp}{k:Key}{v:V}{d:D}(rv:Rep K G v d):∀{kvs:List (Key × V)}{kds:List (Key × D)},Paired (λ(p:Key × V) (q:Key × D)=>p.1=q.1/\Rep K G p.2 q.2) kvs kds →
  Paired (λ(p:Key × V) (q:Key × D)=>p.1=q.1/\Rep K G p.2 q.2) (kvs.map λkv=>if kv.1=k then (kv.1,v) else kv) (kds.map λkv=>if kv.1=k then (kv.1,d) else kv)
 |_,_,.nil=>.nil
 | (k1,v1)::kvs,(k2,d2)::kds,.cons ⟨e,r⟩ t=>by
  have e:k1=k2:=e;subst e;rw[Wbg,Wbg];refine .cons ?_<|Zp9 rv t;by_cases hk:k1=k
  ·rw[if_pos hk,if_pos hk];exact⟨rfl,rv⟩
  ·rw[if_neg hk,if_neg hk];exact⟨rfl,r⟩
theorem Zvk {G:Hp}{k:Key}{v:V}{d:D}{kvs:List (Key × V)}{kds:List (Key × D)}(rv:Rep K G v d) (h:Paired (λ(p:Key × V) (q:Key × D)=>p.1=q.1/\Rep K G p.2 q.2) kvs kds) :
  Paired (λ(p:Key × V) (q:Key × D)=>p.1=q.1/\Rep K G p.2 q.2) (putK kvs k v) (putD kds k d):=by
 unfold putK putD;rw[Zp5 h];split
 ·exact Zp9 rv h
 ·exact Paired.snoc h ⟨rfl,rv⟩
theorem Zmp {Po:OD->Evt->Prop}(p:Po (.dct []) Δ):JO K tDNewK Δ Po:=λg G H σ Q k c q hq=>by
 obtain⟨k2,pd⟩:=k.fresh (od:=.dct []) hq (show OwnRep K G (.dK []) (.dct []) from .nil);exact c q _ G _ Δ k2 (Same.refl _) pd p
theorem Zvi {n:Nat}{tb:TE}{x:Slot}{od:OD}(hx:Δ[n]?=some x) (ho:x.od=some od) (h:JE K tb Δ λe Δ1=>∃y kvs i d,Δ1[n]?=some y/\y.od=some (.dct kvs)/\e=.int i/\valD kvs (.inl i)=some d/\P d Δ1):JE K (tOp (rIxU K) (tVar n) tb) Δ P:=λg G H σ Q k c=>by
 obtain⟨a,o,h1,h2,h3,h4,h5⟩:=k.own n x _ hx ho;refine⟨.ref a,h1,h g G H σ _ k λv e G1 H1 Δ1 k1 s1 r1 ⟨y,kvs,i,d,q1,q2,q3,q4,p⟩=>?_⟩;subst q3;cases r1.inv;obtain⟨a',o',w1,w2,w3,w4,w5⟩:=k1.own n y _ q1 q2;rw[h1]at w1;cases w1;cases o' with
 |dK vs=>
  obtain⟨u,z1,z2⟩:=Zlw w3 q4;exact .inr ⟨a,u,rfl,(by have:=DGet.k (k:=Sum.inl i) w2;rw[z1]at this;exact this),c u d G1 H1 Δ1 k1 s1 z2 p⟩
 |_=>exact absurd w3 (λz=>z)
theorem Zwb {n:Nat}{ti te:TE}{Pp:Pst}(h:JE K te Δ λd Δ1=>(∃x od,Δ1[n]?=some x/\x.od=some od)/\JE K ti Δ1 λe Δ2=>∃x kvs i,Δ2[n]?=some x/\x.od=some (.dct kvs)/\e=.int i/\kvs.length<sizeLine/\Pp.nx (Δ2.set n<|x.put (.dct<|putD kvs (.inl i) d))) :
  JS K (tAsg te<|gSub (tVar n) ti rSetU) Δ Pp:=λg G H σ E k c=>
 h g G H σ _ k λv d G1 H1 Δ1 k1 s1 r1 hq_=>by
  obtain⟨⟨x,od,hx,ho⟩,p1⟩:=hq_;obtain⟨a,o,h1,h2,h3,h4,h5⟩:=k1.own n x _ hx ho;refine⟨.ref a,h1,p1 g G1 H1 σ _ k1 λu e G2 H2 Δ2 k2 s2 r2 ⟨y,kvs,i,q1,q2,q3,q4,p⟩=>?_⟩;subst q3;cases r2.inv;obtain⟨a',o',w1,w2,w3,w4,w5⟩:=k2.own n y _ q1 q2;rw[h1]at w1;cases w1;cases o' with
  |dK vs=>
   have w3':Paired (λ(p:Key × V) (q:Key × D)=>p.1=q.1/\Rep K G2 p.2 q.2) vs kvs:=w3;exact .inr ⟨a,_,rfl,DPut.k (k:=Sum.inl i) w2 (by rw[Paired.length w3'];exact q4),c.nx σ G2 _ _ (k2.write q1 q2 h1 (show OwnRep K G2 (.dK<|putK vs (.inl i) v) (.dct<|putD kvs (.inl i) d) from Zvk (r1.mono s2) w3')) p⟩
  |_=>exact absurd w3 (λz=>z)
theorem Za7 {ds es:List D}(he:ds=[.lst es]\/ds=[.tup es]) (p:P (.int es.length) Δ):JC K (rLenU K) ds Δ P:=λg G H σ Q vs k rs c=>.inl<|Zx6 he p g G H σ Q vs k rs c
theorem Zmt {n:Nat}{x:Slot}{ds:List D}(hx:Δ[n]?=some x) (ho:x.od=some (.lst ds)) (p:P (.int ds.length) Δ):JE K (tCB (rLenU K)<|tCons (tVar n) tNil) Δ P:=λg G H σ Q k c=>by
 obtain⟨v,h1,h2⟩:=Zvw hx ho p g G H σ Q k c;exact⟨v,h1,.inl h2⟩
def cutD (ds:List D) (lo hi:Option Int):List D:=(ds.drop<|HT.sIx ds.length 0 lo).take (HT.sIx ds.length ds.length hi-HT.sIx ds.length 0 lo)
theorem Zp7 {α:Type}(xs:List α) (lo hi:Option Int) (h:HT.sIx xs.length 0 lo=0/\HT.sIx xs.length xs.length hi=xs.length):(xs.drop<|HT.sIx xs.length 0 lo).take (HT.sIx xs.length xs.length hi-HT.sIx xs.length 0 lo)=xs:=by
 rw[h.1,h.2];simp
def JO2 (t:TO) (Δ:Evt) (K:W.Frag) (P:Option Int->Evt->Prop):Prop:=
 ∀g G H σ (Q:Option Int->Hp->Prop),Ok K g G H σ Δ -> (∀o G' H' Δ',Ok K g G' H' σ Δ' -> Same G G' -> P o Δ' -> Q o H')->t σ H Q
theorem Zcg {P:Option Int->Evt->Prop}(p:P none Δ):JO2 tNoPart Δ K P:=λg G H σ Q k c=>c none G H Δ k (Same.refl _) p
theorem Zck {te:TE}{P:Option Int->Evt->Prop}(h:JE K te Δ λd Δ1=>∃i,d=.int i/\P (some i) Δ1):JO2 (tPart te) Δ K P:=λg G H σ Q k c=>
 h g G H σ _ k λv d G1 H1 Δ1 k1 s1 r1 hq_=>by obtain⟨i,e,p⟩:=hq_;subst e;cases r1.inv;exact⟨i,rfl,c (some i) G1 H1 Δ1 k1 s1 p⟩
def slD (d:D) (lo hi:Option Int):Option D:=match d with
 |.lst ds=>some (.lst (cutD ds lo hi))
 |.scr ds=>some (.lst (cutD ds lo hi))
 |.tup ds=>some (.tup (cutD ds lo hi))
 |_=>none
theorem Zfe {te:TE}{tl th:TO}(h:JE K te Δ λd Δ1=>JO2 tl Δ1 K λlo Δ2=>JO2 th Δ2 K λhi Δ3=>∃e,slD d lo hi=some e/\P e Δ3):JE K (tSl (rSlU K) te tl th) Δ P:=λg G H σ Q k c=>
 h g G H σ _ k λv d G1 H1 Δ1 k1 s1 r1 p1=>p1 g G1 H1 σ _ k1 λlo G2 H2 Δ2 k2 s2 p2=>p2 g G2 H2 σ _ k2 λhi G3 H3 Δ3 k3 s3 hq_=>by
  obtain⟨e,he,p⟩:=hq_;have r3:=r1.mono<|s2.trans s3;have cc:=c.up<|s1.trans<|s2.trans s3;cases r3 with
  |lst ha rs=>
   cases he;refine .inl ⟨_,_,rfl,SqL.of<|k3.live _ _ ha,λq hq=>?_⟩;obtain⟨k4,sg⟩:=k3.laid hq (.lst _);refine cc _ _ _ _ Δ3 k4 sg (.lst Za3<|Reps.mono sg ?_) p;unfold cutV cutD;rw[rs.length];exact(rs.drop _).take _
  |scr ha rs=>
   cases he;refine .inl ⟨_,_,rfl,k3.live.seq ha,λq hq=>?_⟩;obtain⟨k4,sg⟩:=k3.laid hq (.lst _);refine cc _ _ _ _ Δ3 k4 sg (.lst Za3<|Reps.mono sg ?_) p;unfold cutV cutD;rw[rs.length];exact(rs.drop _).take _
  |tup ha rs=>
   cases he;refine .inr ⟨_,_,rfl,SqT.of<|k3.live _ _ ha,λhw=>?_,λhw q hq=>?_⟩
   ·rw[rs.length]at hw
    refine cc _ _ _ _ Δ3 k3 (Same.refl _) (.tup ha ?_) p;unfold cutD;rw[Zp7 _ _ _ hw];exact rs
   ·obtain⟨k4,sg⟩:=k3.laid hq (.tup _)
    refine cc _ _ _ _ Δ3 k4 sg (.tup Za3<|Reps.mono sg ?_) p;unfold cutV cutD;rw[rs.length];exact(rs.drop _).take _
  |_=>cases he
theorem Zyu {te:TE}(h:JE K te Δ λd Δ1=>∃ds,d=.tup ds/\P (.tup ds.reverse) Δ1):JE K (tSlR K te) Δ P:=λg G H σ Q k c=>
 h g G H σ _ k λv d G1 H1 Δ1 k1 s1 r1 hq_=>by
  obtain⟨ds,e,p⟩:=hq_;subst e;obtain⟨_,_,rfl,ha,rs⟩:=r1.inv
  next=>
   refine⟨_,_,rfl,SqT.of<|k1.live _ _ ha,λq hq=>?_⟩;obtain⟨k4,sg⟩:=k1.laid hq (.tup _);exact c _ _ _ _ Δ1 k4 (s1.trans sg) (.tup Za3<|rs.reverse.mono sg) p
theorem Ze3 {tl:TE}{P:List D->Evt->Prop}(h:JE K tl Δ λd Δ1=>∃ds,(d=.lst ds\/d=.scr ds)/\P ds Δ1):JI K (iSeq K tl) Δ P:=λg G H σ R k c=>.inl<|Zwo h g G H σ R k c
theorem Zdp {tl:TE}{P:List D->Evt->Prop}(h:JE K tl Δ λd Δ1=>∃ds,d=.tup ds/\P ds Δ1):JI K (iSeq K tl) Δ P:=λg G H σ R k c=>.inr<|Zw8 h g G H σ R k c
def truD:D->Option Bool
 |.non=>some false
 |.bl b=>some b
 |.int i=>some (i != 0)
 |.lst ds=>some !ds.isEmpty
 |.tup ds=>some !ds.isEmpty
 |_=>none
theorem Reps.isEmpty {G:Hp}{vs:List V}{ds:List D}(r:Reps K G vs ds):vs.isEmpty=ds.isEmpty:=by cases r <;> rfl
theorem Zcl {t:TE}{Pb:Bool->Evt->Prop}(h:JE K t Δ λd Δ1=>∃b,truD d=some b/\Pb b Δ1):JT K (tTru K t) Δ Pb:=λg G H σ Q k c=>
 h g G H σ _ k λv d G1 H1 Δ1 k1 s1 r1 hq_=>by
  obtain⟨b,e,p1⟩:=hq_;refine⟨b,?_,c b G1 H1 Δ1 k1 s1 p1⟩;cases r1 with
  |non=>cases e;rfl
  |bl b=>cases e;rfl
  |int i=>cases e;rfl
  |str x=>cases e
  |ty n=>cases e
  |scr ha rs=>cases e
  |adr a=>cases e
  |dct ha hl rs=>cases e
  |exc ha=>cases e
  |lst ha rs=>cases e;exact .inl ⟨_,SqL.of (k1.live _ _ ha),by rw[rs.isEmpty]⟩
  |tup ha rs=>cases e;exact .inr (.inl ⟨_,SqT.of (k1.live _ _ ha),by rw[rs.isEmpty]⟩)
def tyD:D->Option String
 |.non=>some "NoneType"
 |.bl _=>some "bool"
 |.int _=>some "int"
 |.str _=>some "str"
 |.lst _=>some "list"
 |.tup _=>some "tuple"
 |.dct _ _=>some "dict"
 |_=>none
theorem Zxi {d:D}{n T:String}{b:Bool}(ht:tyD d=some T) (e:∀K,PySem.W.kitOne K (.type T) (.type n)=some b) (p:P (.bl b) Δ):JC K (rIsi K) [d,.ty n] Δ P:=λg G H σ Q vs k rs c=>by
 obtain⟨_,_,rfl,r,t⟩:=rs.inv
 next=>
  obtain⟨_,_,rfl,r',t⟩:=t.inv
  next=>
   cases t.inv;cases r'.inv;refine⟨_,n,.type T,b,rfl,?_,e K,c _ _ G H Δ k (Same.refl _) (.bl b) p⟩;cases r with
   |non=>cases ht;exact .non
   |bl b=>cases ht;exact .bl b
   |int i=>cases ht;exact .int i
   |str x=>cases ht;exact .str x
   |ty n=>cases ht
   |scr ha rs=>cases ht
   |adr a=>cases ht
   |dct ha hl rs=>cases ht;exact .dK (k.live _ _ ha)
   |exc ha=>cases ht
   |lst ha rs=>cases ht;exact .lst (k.live _ _ ha)
   |tup ha rs=>cases ht;exact .tup (k.live _ _ ha)
theorem Zfy {ta tb:TE}(h:JE K ta Δ λd Δ1=>∃b,d=.bl b/\if b=true then JE K tb Δ1 P else P (.bl false) Δ1):JE K (tAndV ta tb) Δ P:=λg G H σ Q k c=>
 h g G H σ _ k λv d G1 H1 Δ1 k1 s1 r1 hq_=>by
  obtain⟨b,e,p1⟩:=hq_;subst e;cases r1.inv;refine⟨b,rfl,?_⟩;cases b with
  |true=>exact(show JE K tb Δ1 P from p1) g G1 H1 σ Q k1 (c.up s1)
  |false=>exact c _ _ G1 H1 Δ1 k1 s1 (.bl false) p1
theorem Zxk {ta tb:TE}(h:JE K ta Δ λd Δ1=>∃b,d=.bl b/\if b=true then P (.bl true) Δ1 else JE K tb Δ1 P):JE K (tOrV ta tb) Δ P:=λg G H σ Q k c=>
 h g G H σ _ k λv d G1 H1 Δ1 k1 s1 r1 hq_=>by
  obtain⟨b,e,p1⟩:=hq_;subst e;cases r1.inv;refine⟨b,rfl,?_⟩;cases b with
  |false=>exact(show JE K tb Δ1 P from p1) g G1 H1 σ Q k1 (c.up s1)
  |true=>exact c _ _ G1 H1 Δ1 k1 s1 (.bl true) p1
theorem Zjh {ta:TE}(h:JE K ta Δ λd Δ1=>∃b,d=.bl b/\P (.bl !b) Δ1):JE K (tNotV ta) Δ P:=λg G H σ Q k c=>
 h g G H σ _ k λv d G1 H1 Δ1 k1 s1 r1 hq_=>by
  obtain⟨b,e,p1⟩:=hq_;subst e;cases r1.inv;exact⟨b,rfl,c _ _ G1 H1 Δ1 k1 s1 (.bl !b) p1⟩
theorem Zha {to te:TE}(h:JE K to Δ λd Δ1=>∃ns:List Int,d=.tup (ns.map D.int)/\JE K te Δ1 λe Δ2=>∃i j,e=.int i/\ns[j]?=some i/\(∀m,m<j->ns[m]?≠some i)/\P (.int (j:Nat)) Δ2) :
  JE K (tBM K "tuple" (rIndexT K) to<|tCons te tNil) Δ P:=λg G H σ Q k c=>
 h g G H σ _ k λv d G1 H1 Δ1 k1 s1 r1 hq_=>by
  obtain⟨ns,e,p1⟩:=hq_;subst e;obtain⟨a,vs,rfl,ha,rs⟩:=r1.inv
  next=>
   refine⟨.inr (.inl ⟨rfl,.inr ⟨_,k1.live _ _ ha⟩⟩),p1 g G1 H1 σ _ k1 λu e G2 H2 Δ2 k2 s2 r2 ⟨i,j,q1,q2,q3,p⟩=>?_⟩;subst q1;cases r2.inv;have ev:vs=ns.map V.int:=rs.ints;subst ev;have hj:j<ns.length:=(Wah.mp q2).1;refine⟨a,_,.int i,j,rfl,rfl,SqT.of<|k2.live _ _<|s2 _ _ ha,rfl,?_,by simpa using hj,⟨.int i,by rw[Wad,q2];rfl,by simp[eqV]⟩,λm z hm hz=>?_,c _ _ G2 H2 Δ2 k2 (s1.trans s2) (.int _) p⟩
   ·rw[Wey];exact Wbi.mpr λ_ _=>rfl
   ·rw[Wad]at hz
    cases e:ns[m]? with
    |none=>rw[e]at hz;cases hz
    |some w=>
     rw[e]at hz;have hz:V.int w=z:=by simpa using hz
     subst hz;have hne:w≠i:=λq=>q3 m hm (by rw[e,q]);show (w == i)=false;exact beq_eq_false_iff_ne.mpr hne
end
section
variable {K:W.Frag}{g:Gm}{G H:Hp}{σ:St}{Δ:Evt}
theorem Ok.setVal' (k:Ok K g G H σ Δ) {v:V}{d:D}(i:Nat) (r:Rep K G v d):Ok K g G H (σ.set i<|some v) (Δ.set i (.val d)):=by
 by_cases hi:i < Δ.length
 ·exact k.setVal hi r
 ·have hl:=k.len
  rw[Wdk (l:=σ) (by omega),Wdk (l:=Δ) (by omega)];exact k
theorem Ok.setOwn' (k:Ok K g G H σ Δ) {a:Addr}{od:OD}(i:Nat) (p:Pend K g G H σ Δ a od):Ok K g G H (σ.set i<|some (.ref a)) (Δ.set i (.own od)):=by
 by_cases hi:i < Δ.length
 ·exact k.setOwn hi p
 ·have hl:=k.len
  rw[Wdk (l:=σ) (by omega),Wdk (l:=Δ) (by omega)];exact k
theorem Zxb {te:TE}{i:Nat}{P:Pst}(h:JE K te Δ λd Δ1=>P.nx (Δ1.set i (.val d))):JS K (tAsg te<|gName i) Δ P:=λg G H σ E k c=>
 h g G H σ _ k λv d G1 H1 Δ1 k1 s1 r1 p1=>c.nx _ G1 H1 _ (k1.setVal' i r1) p1
theorem Zvj {te:TE}{i:Nat}{P:Pst}(h:JO K te Δ λod Δ1=>P.nx (Δ1.set i (.own od))):JS K (tAsg te<|gName i) Δ P:=λg G H σ E k c=>
 h g G H σ _ k λa od G1 H1 Δ1 k1 s1 pd p1=>c.nx _ G1 H1 _ (k1.setOwn' i pd) p1
theorem Zuy {i j:Nat}{ta:TA}{P:Pst}(h:JA K ta Δ λds Δ1=>∃d e,ds=[d,e]/\P.nx ((Δ1.set i (.val d)).set j (.val e))):JS K (tPar i j ta) Δ P:=λg G H σ E k c=>
 h g G H σ _ k λvs ds G1 H1 Δ1 k1 s1 r1 hq_=>by
  obtain⟨d,e,hd,p1⟩:=hq_;subst hd;obtain⟨_,_,rfl,ra,rr⟩:=r1.inv
  next=>
   obtain⟨_,_,rfl,rb,rr⟩:=rr.inv
   next=>
    cases rr.inv;exact⟨_,_,rfl,c.nx _ G1 H1 _ ((k1.setVal' i ra).setVal' j rb) p1⟩
theorem Zbg {i:Nat}{d:D}{P:Evt->Prop}(p:P (Δ.set i (.val d))):JG K (gName i) d Δ P:=λg G H σ v R k r c=>c _ G H _ (k.setVal' i r) (Same.refl _) p
theorem Zh4 {n i:Nat}{d:D}{P:Evt->Prop}(hn:i<n) (p:P (Δ.set i (.val d))):JGn K n (gName i) d Δ P:=λg G H σ v R k r c=>
 c _ G H _ (k.setVal' i r) (Same.refl _) (λj hj=>War<|by omega) p
theorem Zw3 {n:Nat}{te:TE}{Pp:Pst}{x:Slot}{ds0:List D}(hx:Δ[n]?=some x) (ho:x.od=some (.lst ds0))
  (h:JE K te Δ λd Δ1=>∃y ds,Δ1[n]?=some y/\y.od=some (.lst ds)/\ds.length<sizeLine/\Pp.nx (Δ1.set n<|y.put (.lst<|ds++[d]))) :
  JS K (tDrop<|tBM K "list" rAppend (tVar n)<|tCons te tNil) Δ Pp:=Zql hx ho ⟨_,rfl⟩ h
end
section
variable {K:W.Frag}{Δ:Evt}{nx bk ct:Evt->Prop}{rt:D->Evt->Prop}{ro:OD->Evt->Prop}
theorem Zbb (p:nx Δ):JS K tNext Δ ⟨nx,rt,bk,ct,ro⟩:=Zva p
theorem Zal {t u:TS}(h:JS K t Δ ⟨λΔ1=>JS K u Δ1 ⟨nx,rt,bk,ct,ro⟩,rt,bk,ct,ro⟩):JS K (tSeq t u) Δ ⟨nx,rt,bk,ct,ro⟩:=Zt8 h
theorem Zca {t u:TS}(I:Evt->Prop) (h1:JS K t Δ ⟨I,rt,bk,ct,ro⟩) (h2:∀Δ1,I Δ1->JS K u Δ1 ⟨nx,rt,bk,ct,ro⟩):JS K (tSeq t u) Δ ⟨nx,rt,bk,ct,ro⟩:=
 Zt8 (h1.mono h2 (λ_ _ z=>z) (λ_ z=>z) (λ_ z=>z) λ_ _ z=>z)
theorem Za2 {te:TE}(h:JE K te Δ rt):JS K (tRet te) Δ ⟨nx,rt,bk,ct,ro⟩:=Zxv h
theorem Zfr {te:TE}(h:JO K te Δ ro):JS K (tRet te) Δ ⟨nx,rt,bk,ct,ro⟩:=Zvu h
theorem Zcc {c:TT}{t u:TS}(h:JT K c Δ λb Δ1=>if b=true then JS K t Δ1 ⟨nx,rt,bk,ct,ro⟩ else JS K u Δ1 ⟨nx,rt,bk,ct,ro⟩):JS K (tIfS c t u) Δ ⟨nx,rt,bk,ct,ro⟩:=Zzo h
theorem Zaw {te:TE}{i:Nat}(h:JE K te Δ λd Δ1=>nx (Δ1.set i (.val d))):JS K (tAsg te<|gName i) Δ ⟨nx,rt,bk,ct,ro⟩:=Zxb h
theorem Zcz {te:TE}{i:Nat}(h:JO K te Δ λod Δ1=>nx (Δ1.set i (.own od))):JS K (tAsg te<|gName i) Δ ⟨nx,rt,bk,ct,ro⟩:=Zvj h
theorem Zhl {i j:Nat}{ta:TA}(h:JA K ta Δ λds Δ1=>∃d e,ds=[d,e]/\nx ((Δ1.set i (.val d)).set j (.val e))):JS K (tPar i j ta) Δ ⟨nx,rt,bk,ct,ro⟩:=Zuy h
theorem Zg2 {te:TE}{t:TG}(h:JE K te Δ λd Δ1=>JG K t d Δ1 nx):JS K (tAsg te t) Δ ⟨nx,rt,bk,ct,ro⟩:=Zxn h
theorem Zi9 {n:Nat}{te:TE}{x:Slot}{ds0:List D}(hx:Δ[n]?=some x) (ho:x.od=some (.lst ds0))
  (h:JE K te Δ λd Δ1=>∃y ds,Δ1[n]?=some y/\y.od=some (.lst ds)/\ds.length<sizeLine/\nx (Δ1.set n<|y.put (.lst<|ds++[d]))) :
  JS K (tDrop<|tBM K "list" rAppend (tVar n)<|tCons te tNil) Δ ⟨nx,rt,bk,ct,ro⟩:=Zw3 hx ho h
theorem Zgd {n:Nat}{ti te:TE}(h:JE K te Δ λd Δ1=>(∃x ds,Δ1[n]?=some x/\x.od=some (.lst ds))/\JE K ti Δ1 λe Δ2=>∃x ds i j,Δ2[n]?=some x/\x.od=some (.lst ds)/\e=.int i/\ixN ds.length i=some j/\nx (Δ2.set n<|x.put (.lst<|ds.set j d))) :
  JS K (tAsg te<|gSub (tVar n) ti rSetU) Δ ⟨nx,rt,bk,ct,ro⟩:=Zqb (h.mono λd Δ1 ⟨⟨x,ds,h1,h2⟩,h3⟩=>⟨⟨x,_,h1,h2⟩,h3⟩)
theorem Zpe {n:Nat}{ti te:TE}(h:JE K te Δ λd Δ1=>(∃x kvs,Δ1[n]?=some x/\x.od=some (.dct kvs))/\JE K ti Δ1 λe Δ2=>∃x kvs i,Δ2[n]?=some x/\x.od=some (.dct kvs)/\e=.int i/\kvs.length<sizeLine/\nx (Δ2.set n<|x.put (.dct<|putD kvs (.inl i) d))) :
  JS K (tAsg te<|gSub (tVar n) ti rSetU) Δ ⟨nx,rt,bk,ct,ro⟩:=Zwb (h.mono λd Δ1 ⟨⟨x,ds,h1,h2⟩,h3⟩=>⟨⟨x,_,h1,h2⟩,h3⟩)
theorem Zea {wi:TI}{t:TG}{tb:TS}(h:JI K wi Δ λds Δ1=>∃I:Nat->Evt->Prop,I 0 Δ1/\(∀i d Δ2,ds[i]?=some d->I i Δ2->JG K t d Δ2 λΔ3=>JS K tb Δ3 ⟨I<|i+1,rt,nx,I<|i+1,ro⟩)/\∀Δ2,I ds.length Δ2->nx Δ2) :
  JS K (tFor wi t tb) Δ ⟨nx,rt,bk,ct,ro⟩:=Zx9 h
theorem Znc {c:TT}{tb:TS}(I:Nat->Evt->Prop) (h0:∃m,I m Δ) (ht:∀m Δ1,I m Δ1->JT K c Δ1 λb Δ2=>if b=true then JS K tb Δ2 ⟨λΔ3=>∃m',m'<m/\I m' Δ3,rt,nx,λΔ3=>∃m',m'<m/\I m' Δ3,ro⟩ else nx Δ2) :
  JS K (tWhile c tb) Δ ⟨nx,rt,bk,ct,ro⟩:=Zt3 I h0 ht
end
theorem Zqo {α β:Type}{f:α -> β}{xs:List α}{i:Int}(h0:0<=i) (h1:i<(xs.length:Int)):∃c,xs[i.toNat]?=some c/\atI (xs.map f) i=some (f c):=by
 have hk:i.toNat<xs.length:=by omega
 have e:i=((i.toNat:Nat):Int):=by omega
 have q:xs[i.toNat]?=some xs[i.toNat]:=Waa hk;generalize xs[i.toNat]=c at q;refine⟨c,q,?_⟩;have z:atI (xs.map f) ((i.toNat:Nat):Int)=some (f c):=Zby (by rw[Wad,q];rfl);rw[<- e]at z;exact z
theorem Zrb:bootBuiltins "abs" = some (.builtin "abs"):=by decide +kernel
theorem Za5:bootBuiltins "len" = some (.builtin "len"):=by decide +kernel
theorem Zgt:bootBuiltins "min" = some (.builtin "min"):=by decide +kernel
theorem Znm:bootBuiltins "max" = some (.builtin "max"):=by decide +kernel
theorem Zbd:bootBuiltins "isinstance" = some (.builtin "isinstance"):=by decide +kernel
theorem Zyr:bootBuiltins "all" = some (.builtin "all"):=by decide +kernel
theorem Ze5:bootBuiltins "sorted" = some (.builtin "sorted"):=by decide +kernel
theorem Zb3:bootBuiltins "tuple" = some (.type "tuple"):=by decide +kernel
theorem Zjk:bootBuiltins "list" = some (.type "list"):=by decide +kernel
theorem Zum:bootBuiltins "set" = some (.type "set"):=by decide +kernel
theorem Zi7:bootBuiltins "int" = some (.type "int"):=by decide +kernel
theorem Zlq:bootBuiltins "bool" = some (.type "bool"):=by decide +kernel
structure Callee (P:Program) (w:World) (K:W.Frag) (mg:Str->Option Value) (base:Heap) (k:Nat) (x:Str) (ps:List Str) (sp:Sp):Prop where
 ex:∃(f:Addr) (fd:FuncData),FnOk P w K mg base CX0 k f fd ps sp/\Binds K fd ps []/\W.keepIn K (.ref f)=true/\mg x=some (.ref f)
section
variable {X:Cx}{k:Nat}{x:Str}{ps:List Str}{sp:Sp}{e:Expr}{es:List Expr}{t:TA}{p pos:Pos}
theorem Zax (C:Callee X.prog X.w X.K X.mg X.base k x ps sp) (hr:Room k X.A) (ha:PA X (e::es) t) (hg:Gl X x:=by rfl) (hdb:(x == ("__debug__":Str))=false:=by decide)
  (he:starEach (e::es) X.env=(false,eval e X.env)::starEach es X.env:=by rfl) (hpl:(backTo pos<|starEach es X.env).any (·.1)=false:=by rfl):PE X (.Call (.Name x p) (e::es) [] pos) (tCall sp [] E0 t):=by
 obtain⟨f,fd,F,b,kp,m⟩:=C.ex;exact Zvd F hr hg m kp b .nil pass0 ha hdb he hpl
end
def fixD (sel:List Nat) (Δ:Evt):Evt:=sel.map λi=>(Δ[i]?).getD .any
theorem Zfh {n:Nat}{sel:List Nat}{ts Δ:Evt}(ht:ts.length=n):backD n sel (ts++fixD sel Δ) 0 Δ = Δ:=by
 apply Wcb;intro i;rw[Zec];cases q:Δ[i]? with
 |none=>rfl
 |some x=>
  show some (backAt n sel (ts++fixD sel Δ) (0+i) x)=some x;congr 1;rw[Wez];have key:∀j,sel.idxOf? i=some j->(ts++fixD sel Δ)[n+j]?=some x:=λj hj=>by
   rw[Wa1 (by omega),ht,Nat.add_sub_cancel_left];unfold fixD;rw[Wad,Zf7 hj];show some ((Δ[i]?).getD .any)=_;rw[q];rfl
  unfold backAt;cases x with
  |any=>rfl
  |val d=>rfl
  |own o=>
   dsimp only;cases e:sel.idxOf? i with
   |none=>rfl
   |some j=>dsimp only;rw[key j e]
  |bor o=>
   dsimp only;cases e:sel.idxOf? i with
   |none=>rfl
   |some j=>dsimp only;rw[key j e]
  |ownA a o=>
   dsimp only;cases e:sel.idxOf? i with
   |none=>rfl
   |some j=>dsimp only;rw[key j e]
section
variable {K:W.Frag}{Δ:Evt}{P:D->Evt->Prop}
theorem Zbw {sel:List Nat}{wi:TI}{tc:TT}{te:TE}(hsel:sel.Nodup)
  (h:JI K wi Δ λds Δ1=>ds.length<sizeLine/\∃(p:D->Bool) (f:D->D),
   (∀(i:Nat) d,ds[i]?=some d->JT K tc (.val d::fixD sel Δ1) λb Δ4=>b=p d/\if b=true then JE K te Δ4 λe Δ5=>e=f d/\∃x,Δ5=x::fixD sel Δ1 else ∃x,Δ4=x::fixD sel Δ1) ∧
   P (.lst ((ds.filter p).map f)) Δ1):JE K (tComp 1 sel wi (gName 0) tc te) Δ P:=by
 refine Zno hsel λg G H σ R k c=>h g G H σ R k λJ ds G' H' Δ' k' s' it ⟨z,p,f,ht,he⟩=>c J ds G' H' Δ' k' s' it ⟨z,fixD sel Δ',p,f,rfl,λi d ts hd hts=>?_,?_⟩
 ·refine Zh4 (by decide) ?_
  obtain⟨x,rfl⟩:∃x,ts=[x]:=by
   match ts,hts with
   |[x],_=>exact⟨x,rfl⟩
  intro g G H σ Q k c;refine ht i d hd g G H σ Q k λb G1 H1 Δ1 k1 s1 ⟨e1,q⟩=>c b G1 H1 Δ1 k1 s1 ⟨e1,?_⟩;cases b with
  |true=>
   rw[if_pos rfl]at q ⊢;exact q.mono λe Δ5 ⟨e2,x,e3⟩=>⟨e2,[x],rfl,e3⟩
  |false=>
   rw[if_neg Wag]at q ⊢;obtain⟨x,e3⟩:=q;exact⟨[x],rfl,e3⟩
 ·rw[Zfh (by simp)];exact he
theorem Zhe {sel:List Nat}{wi:TI}{tc:TT}{te:TE}{Po:OD->Evt->Prop}(hsel:sel.Nodup)
  (h:JI K wi Δ λds Δ1=>ds.length<sizeLine/\∃(p:D->Bool) (f:D->D),
   (∀(i:Nat) d,ds[i]?=some d->JT K tc (.val d::fixD sel Δ1) λb Δ4=>b=p d/\if b=true then JE K te Δ4 λe Δ5=>e=f d/\∃x,Δ5=x::fixD sel Δ1 else ∃x,Δ4=x::fixD sel Δ1) ∧
   Po (.lst ((ds.filter p).map f)) Δ1):JO K (tComp 1 sel wi (gName 0) tc te) Δ Po:=by
 refine Zrn hsel λg G H σ R k c=>h g G H σ R k λJ ds G' H' Δ' k' s' it ⟨z,p,f,ht,he⟩=>c J ds G' H' Δ' k' s' it ⟨z,λi ys Δ=>ys=((ds.take i).filter p).map f/\∃x,Δ = x::fixD sel Δ',⟨by simp,.any,rfl⟩,?_,?_⟩
 ·rintro i d ys Δ2 hd ⟨rfl,x,rfl⟩
  have tk:ds.take (i+1)=ds.take i++[d]:=by
   rw[Wca,hd];rfl
  refine Zh4 (by decide) ?_;intro g G H σ Q k c;refine ht i d hd g G H σ Q k λb G1 H1 Δ1 k1 s1 ⟨e1,q⟩=>c b G1 H1 Δ1 k1 s1 ?_;cases b with
  |true=>
   rw[if_pos rfl]at q ⊢;refine q.mono λe Δ5 ⟨e2,x,e3⟩=>⟨?_,x,e3⟩;rw[tk,Wbo,Waz,Wbs,<- e1,e2];rfl
  |false=>
   rw[if_neg Wag]at q ⊢;obtain⟨x,e3⟩:=q;refine⟨?_,x,e3⟩;rw[tk,Wbo,Waz,Wbs,<- e1];simp
 ·rintro ys Δ2 ⟨rfl,x,rfl⟩
  rw[Wbv,show (x::fixD sel Δ')=[x]++fixD sel Δ' from rfl,Zfh (by simp)];exact he
theorem Zs4 {sel:List Nat}{wi:TI}{tc:TT}{te:TE}(hsel:sel.Nodup)
  (h:JI K wi Δ λds Δ1=>ds.length<sizeLine/\∃(p:D->Bool) (f:D->D),
   (∀(i:Nat) d,ds[i]?=some d->∃a b,d=.tup [a,b]/\JT K tc (.val a::.val b::fixD sel Δ1) λt Δ4=>t=p d/\if t=true then JE K te Δ4 λe Δ5=>e=f d/\∃x y,Δ5=x::y::fixD sel Δ1 else ∃x y,Δ4=x::y::fixD sel Δ1) ∧
   P (.lst ((ds.filter p).map f)) Δ1):JE K (tComp 2 sel wi (gTup K 2 (gCons (gName 0) (gCons (gName 1) gNil))) tc te) Δ P:=by
 refine Zno hsel λg G H σ R k c=>h g G H σ R k λJ ds G' H' Δ' k' s' it ⟨z,p,f,ht,he⟩=>c J ds G' H' Δ' k' s' it ⟨z,fixD sel Δ',p,f,rfl,λi d ts hd hts=>?_,?_⟩
 ·obtain⟨a,b,rfl,hj⟩:=ht i d hd
  refine Zv6 rfl<|Zli<|Zh4 (by decide)<|Zli<|Zh4 (by decide)<|Zta ?_;obtain⟨x,y,rfl⟩:∃x y,ts=[x,y]:=by
   match ts,hts with
   |[x,y],_=>exact⟨x,y,rfl⟩
  intro g G H σ Q k c;refine hj g G H σ Q k λb G1 H1 Δ1 k1 s1 ⟨e1,q⟩=>c b G1 H1 Δ1 k1 s1 ⟨e1,?_⟩;cases b with
  |true=>
   rw[if_pos rfl]at q ⊢;exact q.mono λe Δ5 ⟨e2,x,y,e3⟩=>⟨e2,[x,y],rfl,e3⟩
  |false=>
   rw[if_neg Wag]at q ⊢;obtain⟨x,y,e3⟩:=q;exact⟨[x,y],rfl,e3⟩
 ·rw[Zfh (by simp)];exact he
end
def tGhost (base:Nat) (t:TS):TS:=λE σ H=>t { E with nx:=λσ' H'=>∃σ2:St,σ2.length = σ'.length/\(∀i,i<base -> σ2[i]? = σ'[i]?)/\E.nx σ2 H' } σ H
theorem Zsu {X:Cx}{st:Stmt}{t:TS}(base:Nat) (hv:∀x∈X.N.drop base,X.env.scope.names.lookup x=none) (h:PS X st t):PS X st (tGhost base t):=by
 intro pins s σ H E I hw;refine thn (h pins s σ H _ I hw) λf s1 q=>?_;cases f with
 |next=>
  obtain⟨σ',H',I',σ2,hl,hs,q⟩:=q;refine⟨σ2,H',⟨I'.ok,I'.os,I'.bare,I'.base,?_,I'.cell,I'.free,I'.freeC,I'.pin,I'.hok,hl.trans I'.len⟩,q⟩;obtain⟨m,hn,hl'⟩:=I'.loc;refine⟨m,hn,λi x v e1 e2 e3=>?_⟩;by_cases hi:i<base
  ·rw[hs i hi]at e2;exact hl' i x v e1 e2 e3
  ·have hm:x∈X.N.drop base:=by
    refine Way (i:=i-base) ?_;rw[Wdb,show base+(i-base)=i by omega];exact e1
   have z:=hv x hm;rcases e3 with w|w|w <;> (rw[z]at w;cases w)
 |ret v=>exact q
 |brk=>exact q
 |cont=>exact q
def Nest (K:W.Frag) (g:Gm) (G H:Hp) (σ:St) (Δ:Evt) (cs:List (Addr × HO)) (ods:List OD):Prop:=
 (cs.map (·.1)).Nodup/\Paired (λ(c:Addr × HO) (od:OD)=>OwnRep K G c.2 od) cs ods/\∀c∈cs,H c.1=some c.2/\G c.1=none/\g.Hz c.1=none/\g.Xo c.1=none/\∀(i:Nat) x od',Δ[i]?=some x->x.od=some od' -> σ[i]?≠some (some (.ref c.1))
def JN (K:W.Frag) (t:TE) (Δ:Evt) (P:List OD->Evt->Prop):Prop:=
 ∀g G H σ Q,Ok K g G H σ Δ -> (∀acc cs ods G' H' Δ',Ok K g G' H' σ Δ' -> Same G G' -> Rep K G' (.ref acc) (.lst (cs.map λ(c:Addr × HO)=>D.adr c.1))->g.Hz acc=none->Nest K g G' H' σ Δ' cs ods->P ods Δ' -> Q (.ref acc) H')->t σ H Q
section
variable {K:W.Frag}{Δ:Evt}
def cellAt (cs:List (Addr × HO)) (b:Addr):Option HO:=(cs.find? λc=>decide (c.1=b)).map (·.2)
theorem Zfs {cs:List (Addr × HO)}{b:Addr}:cellAt cs b=none ↔ ∀c∈cs,c.1≠b:=by
 unfold cellAt;rw[Option.map_eq_none_iff,List.find?_eq_none];constructor
 ·intro h c hc e;exact h c hc<|decide_eq_true e
 ·intro h c hc e;exact h c hc<|of_decide_eq_true e
theorem Zjc {cs:List (Addr × HO)}(nd:(cs.map (·.1)).Nodup) {c:Addr × HO}(hc:c∈cs):cellAt cs c.1=some c.2:=by
 induction cs with
 |nil=>cases hc
 |cons d r ih=>
  rw[Wbg,Wbf]at nd;unfold cellAt;rcases Waq.mp hc with e|hc
  ·subst e;simp
  ·have hne:d.1≠c.1:=λe=>nd.1 (by rw[e];exact Wa3.mpr ⟨c,hc,rfl⟩)
   rw[Wcp (by simpa using hne)];exact ih nd.2 hc
open Classical in
noncomputable def asideN (g:Gm) (sel:List Nat) (σ:St) (Δ:Evt) (H:Hp) (acc:Addr) (cs:List (Addr × HO)):Hp:=λb=>
 if b=acc then some (.lst (cs.map λc=>V.ref c.1)) else match cellAt cs b with
  |some o=>some o
  |none=>if ∃(i:Nat) (x:Slot) (od:OD),Δ[i]?=some x/\x.od=some od/\i ∉ sel /\ σ[i]?=some (some (.ref b)) then H b else g.Xo b
theorem Zeh {g:Gm}{sel:List Nat}{σ:St}{Δ:Evt}{H:Hp}{acc:Addr}{cs:List (Addr × HO)}:asideN g sel σ Δ H acc cs acc=some (.lst (cs.map λc=>V.ref c.1)):=by unfold asideN;rw[if_pos rfl]
theorem Zdw {g:Gm}{sel:List Nat}{σ:St}{Δ:Evt}{H:Hp}{acc b:Addr}{o:HO}{cs:List (Addr × HO)}(hb:b≠acc) (e:cellAt cs b=some o):asideN g sel σ Δ H acc cs b=some o:=by unfold asideN;rw[if_neg hb,e]
theorem Zef {g:Gm}{sel:List Nat}{σ:St}{Δ:Evt}{H:Hp}{acc b:Addr}{cs:List (Addr × HO)}(hb:b≠acc) (e:cellAt cs b=none) (hx:∃(i:Nat) (x:Slot) (od:OD),Δ[i]?=some x/\x.od=some od/\i ∉ sel /\ σ[i]?=some (some (.ref b))):asideN g sel σ Δ H acc cs b=H b:=by
 unfold asideN;rw[if_neg hb,e];exact if_pos hx
theorem Zdn {g:Gm}{sel:List Nat}{σ:St}{Δ:Evt}{H:Hp}{acc b:Addr}{cs:List (Addr × HO)}(hb:b≠acc) (e:cellAt cs b=none) (hx:¬ ∃(i:Nat) (x:Slot) (od:OD),Δ[i]?=some x/\x.od=some od/\i ∉ sel /\ σ[i]?=some (some (.ref b))):asideN g sel σ Δ H acc cs b=g.Xo b:=by
 unfold asideN;rw[if_neg hb,e];exact if_neg hx
theorem Zu8 {n:Nat}{sel:List Nat}{wi:TI}{t:TG}{tc:TT}{te:TE}{P:List OD->Evt->Prop}(hsel:sel.Nodup)
  (h:JI K wi Δ λds Δ1=>ds.length<sizeLine/\∃I:Nat->List OD->Evt->Prop,I 0 [] (compD n sel Δ1) ∧
   (∀i d ys Δ2,ds[i]?=some d->I i ys Δ2->JGn K n t d Δ2 λΔ3=>JT K tc Δ3 λb Δ4=>if b=true then JO K te Δ4 λe Δ5=>I (i+1) (ys++[e]) Δ5 else I (i+1) ys Δ4) ∧
   ∀ys Δ2,I ds.length ys Δ2->P ys (backD n sel Δ2 0 Δ1)):JN K (tComp n sel wi t tc te) Δ P:=λg G H σ Q k c=>
 h g G H σ _ k λJ ds G1 H1 Δ1 k1 s1 it ⟨hz,I,h0,ht,he⟩ acc hacc=>by
  have nacc:∀(i:Nat) x od,Δ1[i]?=some x->x.od=some od -> σ[i]?≠some (some (.ref acc)):=λi x od e1 e2 e3=>by
   obtain⟨a,o,w1,w2,_⟩:=k1.own i x od e1 e2;rw[e3]at w1;cases w1;rw[hacc]at w2;cases w2
  let Wd:Nat->St->Hp->Prop:=λi σ' H'=>i<=ds.length/\(∀j,n<=j -> σ'[j]?=(compSt n sel σ)[j]?)/\∃G ys cs Δi,cs.length<=i/\(cs.map (·.1)).Nodup/\(∀c∈cs,c.1≠acc/\g.Hz c.1=none/\g.Xo c.1=none/\∀(i:Nat) x od,Δ1[i]?=some x->x.od=some od->i ∉ sel -> σ[i]?≠some (some (.ref c.1)))/\Paired (λ(c:Addr × HO) (od:OD)=>OwnRep K G c.2 od) cs ys ∧
   Ok K ⟨g.B,G1,g.Hz,asideN g sel σ Δ1 H1 acc cs⟩ G H' σ' Δi/\I i ys Δi
  refine⟨λi m σ' H'=>m=ds.length-i/\Wd i σ' H',⟨ds.length,by simp,Wcl _,λ_ _=>rfl,G1,[],[],compD n sel Δ1,Wak _,Wek,λc hc=>(nomatch hc),.nil,?_,h0⟩,?_⟩
  ·refine Zit hsel k1 hacc λb o e=>?_
   have e:asideN g sel σ Δ1 H1 acc [] b=some o:=e;by_cases hb:b=acc
   ·subst hb;rw[Zeh]at e;cases e;exact .inl ⟨rfl,rfl⟩
   ·by_cases hx:∃(i:Nat) (x:Slot) (od:OD),Δ1[i]?=some x/\x.od=some od/\i ∉ sel /\ σ[i]?=some (some (.ref b))
    ·rw[Zef hb rfl hx]at e;exact .inr ⟨hb,.inl ⟨hx,e⟩⟩
    ·rw[Zdn hb rfl hx]at e;exact .inr ⟨hb,.inr e⟩
  ·rintro i m σ2 H2 ⟨rfl,hi,hσ,G2,ys,cs,Δ2,hy,nd,hcs,ry,k2,h2⟩
   have s2:Same G1 G2:=k2.sub;obtain⟨stop,go⟩:=it G2 H2 s2 k2.live;by_cases hlt:i<ds.length
   ·obtain⟨g1,g2⟩:=go i _ (Waa hlt)
    refine .inr ⟨g1,λσ' H'=>Wd (i+1) σ' H',λσ' H' p'=>⟨ds.length-(i+1),by omega,rfl,p'⟩,λx H3 y=>?_⟩;obtain⟨G3,a1,a2,a3,a4⟩:=g2 x H3 y;have k3:=k2.grow a1 a2 a3;have hG3:∀b o,G3 b=some o->(g.Hz b=none\/G1 b=some o):=λb o q=>(k3.frz b o q).2;have k3':Ok K ⟨g.B,G3,g.Hz,asideN g sel σ Δ1 H1 acc cs⟩ G3 H3 σ2 Δ2:=⟨k3.same,k3.lent,Same.refl _,λb o q=>⟨(k3.frz b o q).1,.inr q⟩,k3.ext,k3.len,k3.val,k3.own,k3.dis⟩;have ry3:Paired (λ(c:Addr × HO) (od:OD)=>OwnRep K G3 c.2 od) cs ys:=Paired.mapP ry λ_ _ z=>z.mono a1;have s13:Same G1 G3:=s2.trans a1;refine ht i _ ys Δ2 (Waa hlt) h2 ⟨g.B,G3,g.Hz,asideN g sel σ Δ1 H1 acc cs⟩ G3 H3 σ2 x _ k3' a4 λσ4 G4 H4 Δ4 k4 s4 e4 p4=>?_;have hσ4:∀j,n<=j -> σ4[j]?=(compSt n sel σ)[j]?:=λj hj=>(e4 j hj).trans (hσ j hj);refine p4 _ G4 H4 σ4 _ k4 λb G5 H5 Δ5 k5 s5 p5=>?_;cases b with
    |false=>exact⟨hlt,hσ4,G5,ys,cs,Δ5,by omega,nd,hcs,Paired.mapP ry3 λ_ _ z=>z.mono (s4.trans s5),k5.base s13 hG3,p5⟩
    |true=>
     refine(show JO K te Δ5 _ from p5) _ G5 H5 σ4 _ k5 λa od G6 H6 Δ6 k6 s6 pd p6=>?_;have ry6:Paired (λ(c:Addr × HO) (od:OD)=>OwnRep K G6 c.2 od) cs ys:=Paired.mapP ry3 λ_ _ z=>z.mono<|s4.trans<|s5.trans s6;obtain⟨b1,b2,b3⟩:=k6.ext acc _ Zeh;obtain⟨oa,d1,d2,d3,d4,d5,d6⟩:=pd;have d5:asideN g sel σ Δ1 H1 acc cs a=none:=d5;have hane:a≠acc:=by intro z;subst z;rw[Zeh]at d5;cases d5
     have hac:cellAt cs a=none:=by
      cases q:cellAt cs a with
      |none=>rfl
      |some o=>rw[Zdw hane q]at d5;cases d5
     have hax:∀(i:Nat) x od,Δ1[i]?=some x->x.od=some od->i ∉ sel -> σ[i]?≠some (some (.ref a)):=λi x od e1 e2 e3 e4=>by
      rw[Zef hane hac ⟨i,x,od,e1,e2,e3,e4⟩]at d5;obtain⟨a',o',w1,w2,_⟩:=k1.own i x od e1 e2;rw[e4]at w1;cases w1;rw[d5]at w2;cases w2
     have hagx:g.Xo a=none:=by
      rw[Zdn hane hac (λ⟨i,x,od,e1,e2,e3,e4⟩=>hax i x od e1 e2 e3 e4)]at d5;exact d5
     have hnm:=Zfs.mp hac;refine⟨cs.map λc=>V.ref c.1,b1,by rw[Wab];omega,hlt,hσ4,G6,ys++[od],cs++[(a,oa)],Δ6,by rw[Wan,Wbt];omega,?_,λc hc=>?_,Paired.snoc ry6 d2,?_,p6⟩
     ·rw[Waz]
      refine Wb3.mpr ⟨nd,by simp,λx hx y hy=>?_⟩;rw[List.map_singleton,Wa7]at hy;subst hy;obtain⟨c,hc,rfl⟩:=Wa3.mp hx;exact hnm c hc
     ·rcases Wbd.mp hc with hc|hc
      ·exact hcs c hc
      ·rw[Wa7.mp hc];exact⟨hane,d4,hagx,hax⟩
     ·have k7:=k6.base s13 hG3
      have nd':((cs++[(a,oa)]).map (·.1)).Nodup:=by
       rw[Waz];refine Wb3.mpr ⟨nd,by simp,λx hx y hy=>?_⟩;rw[List.map_singleton,Wa7]at hy;subst hy;obtain⟨c,hc,rfl⟩:=Wa3.mp hx;exact hnm c hc
      have er:(cs++[(a,oa)]).map (λc=>V.ref c.1)=(cs.map λc=>V.ref c.1)++[V.ref a]:=by simp
      have oldH:∀b o,b≠acc->H6 b=some o->(upd H6 acc (.lst ((cs.map λc=>V.ref c.1)++[V.ref a]))) b=some o:=λb o hb e=>by rw[Za9 hb];exact e
      refine⟨λb o hb e=>?_,λb hb=>?_,k7.sub,λb o e=>?_,λb o e=>?_,k7.len,k7.val,λi x od e1 e2=>?_,k7.dis⟩
      ·have hne:b≠acc:=by
        intro z;subst z;have e:g.Hz b=some o:=e;rw[k1.there hacc]at e;cases e
       exact oldH b o hne<|k7.same b o hb e
      ·by_cases hne:b=acc
       ·subst hne;rw[Za3];intro z;cases z
       ·rw[Za9 hne];exact k7.lent b hb
      ·have hne:b≠acc:=by intro z;subst z;rw[b2]at e;cases e
       exact⟨oldH b o hne (k7.frz b o e).1,(k7.frz b o e).2⟩
      ·have e:asideN g sel σ Δ1 H1 acc (cs++[(a,oa)]) b=some o:=e
       by_cases hne:b=acc
       ·subst hne
        rw[Zeh,er]at e;cases e;exact⟨Za3,b2,b3⟩
       ·by_cases hba:b=a
        ·subst hba
         rw[Zdw hne (Zjc nd' (c:=(b,oa))<|Waw _<|Wa7.mpr rfl)]at e;cases e;exact⟨oldH b _ hne d1,d3,d6⟩
        ·have ec:cellAt (cs++[(a,oa)]) b=cellAt cs b:=by
          unfold cellAt;rw[List.find?_append];cases (cs.find? λc=>decide (c.1=b)) with
          |some c=>rfl
          |none=>
           rw[Wcp (by simpa using Ne.symm hba)];rfl
         have e':asideN g sel σ Δ1 H1 acc cs b=some o:=by
          cases q:cellAt cs b with
          |some o'=>rw[Zdw hne (ec.trans q)]at e;rw[Zdw hne q];exact e
          |none=>
           by_cases hx:∃(i:Nat) (x:Slot) (od:OD),Δ1[i]?=some x/\x.od=some od/\i ∉ sel /\ σ[i]?=some (some (.ref b))
           ·rw[Zef hne (ec.trans q) hx]at e;rw[Zef hne q hx];exact e
           ·rw[Zdn hne (ec.trans q) hx]at e;rw[Zdn hne q hx];exact e
         obtain⟨w1,w2,w3⟩:=k7.ext b o e';exact⟨oldH b o hne w1,w2,w3⟩
      ·obtain⟨a',o,w1,w2,w3,w4,w5⟩:=k7.own i x od e1 e2
       have hne:a'≠acc:=by intro z;subst z;exact b3 i x od e1 e2 w1
       exact⟨a',o,w1,oldH a' o hne w2,w3,w4,w5⟩
   ·have e:i=ds.length:=by omega
    subst e;refine .inl ⟨stop,?_⟩;obtain⟨b1,b2,b3⟩:=k2.ext acc _ Zeh;have src:=Zj9 (Δ1:=Δ1) (Δ2:=Δ2) hσ;have k9:Ok K g G2 H2 σ (backD n sel Δ2 0 Δ1):=Zia k1 hacc k2 hσ (λb o hb hx e=>by
      show asideN g sel σ Δ1 H1 acc cs b=_;rw[Zef hb (Zfs.mpr λc hc z=>?_) hx]
      ·exact e
      ·obtain⟨i0,x0,od0,f1,f2,f3,f4⟩:=hx
       exact(hcs c hc).2.2.2 i0 x0 od0 f1 f2 f3 (by rw[z];exact f4)) (λb o hb hx e=>by
      show asideN g sel σ Δ1 H1 acc cs b=_;rw[Zdn hb (Zfs.mpr λc hc z=>?_) hx]
      ·exact e
      ·have:=(hcs c hc).2.2.1;rw[z,e]at this;cases this)
    -- the outer list is frozen
    have nslot:∀(i:Nat) y od,(backD n sel Δ2 0 Δ1)[i]?=some y->y.od=some od -> σ[i]?≠some (some (.ref acc)):=λi y od e1 e2=>by
     obtain⟨x',od1,f1,f2,_⟩:=src i y od e1 e2;exact nacc i x' od1 f1 f2
    have refs:∀{G:Hp}(l:List (Addr × HO)),Reps K G (l.map λc=>V.ref c.1) (l.map λc=>D.adr c.1):=λ{G} l=>by
     induction l with
     |nil=>exact .nil
     |cons c r ih=>exact .cons (.adr _) ih
    have gX:g.Xo acc=none:=by
     cases q:g.Xo acc with
     |none=>rfl
     |some u=>have z:=(k1.ext acc u q).1;rw[hacc]at z;cases z
    obtain⟨kf,sf,rf⟩:=k9.freeze (a:=acc) (ds:=cs.map λ(c:Addr × HO)=>D.adr c.1) (vs:=cs.map λ(c:Addr × HO)=>V.ref c.1) ⟨_,b1,(show Reps K G2 (cs.map λ(c:Addr × HO)=>V.ref c.1) (cs.map λ(c:Addr × HO)=>D.adr c.1) from refs cs),b2,k1.there hacc,gX,nslot⟩ b1;refine c acc cs ys _ H2 _ kf (s1.trans<|s2.trans sf) rf (k1.there hacc) ⟨nd,Paired.mapP ry λ_ _ z=>z.mono sf,λcc hc=>?_⟩<|he ys Δ2 h2;obtain⟨f1,f2,f3,f4⟩:=hcs cc hc;obtain⟨u1,u2,u3⟩:=k2.ext cc.1 cc.2<|Zdw f1<|Zjc nd hc;refine⟨u1,by rw[Za9 f1];exact u2,f2,f3,λi y od e1 e2 e3=>?_⟩;obtain⟨x,od',w1,w2,w3⟩:=src i y od e1 e2;rcases w3 with ⟨w3,w4⟩|⟨j,w3,w4,w5⟩
    ·exact f4 i x od' w1 w2 w4 e3
    ·exact u3 (n+j) y od w4 e2 (by rw[w5,e3];rfl)
def putN:Nat->List (Addr × OD)->Evt->Evt
 |_,[],Δ=>Δ
 |b,c::r,Δ=>putN (b+1) r (Δ.set b (.ownA c.1 c.2))
def putS:Nat->List Addr->St->St
 |_,[],σ=>σ
 |b,a::r,σ=>putS (b+1) r (σ.set b (some (.ref a)))
theorem Zm3:∀(as:List Addr) (b:Nat) (σ:St),(putS b as σ).length = σ.length
 |[],_,_=>rfl
 |a::r,b,σ=>by rw[putS,Zm3 r (b+1),Wby]
theorem Ziz:∀(as:List Addr) (b:Nat) (σ:St) (i:Nat),i<b->(putS b as σ)[i]? = σ[i]?
 |[],_,_,_,_=>rfl
 |a::r,b,σ,i,h=>by rw[putS,Ziz r (b+1) _ i (by omega),War (by omega)]
theorem Ok.setOwnA {g:Gm}{G H:Hp}{σ:St}(k:Ok K g G H σ Δ) {a:Addr}{od:OD}{i:Nat}(hi:i < Δ.length) (p:Pend K g G H σ Δ a od):Ok K g G H (σ.set i<|some (.ref a)) (Δ.set i (.ownA a od)):=by
 have k1:=k.setOwn hi p;obtain⟨o,p1,p2,p3,p4,p5,p6⟩:=p;have hs:i < σ.length:=by rw[<- k.len];exact hi
 have old:∀(j:Nat) x,j≠i->(Δ.set i (.ownA a od))[j]?=some x->(Δ.set i (.own od))[j]?=some x:=λj x hj e=>by
  rw[War (Ne.symm hj)]at e ⊢;exact e
 have cv:∀(j:Nat) x od',(Δ.set i (.ownA a od))[j]?=some x->x.od=some od' -> ∃y,(Δ.set i (.own od))[j]?=some y/\y.od=some od':=λj x od' e1 e2=>by
  by_cases hj:j=i
  ·subst hj
   rw[Wao hi]at e1;cases e1;cases e2;exact⟨.own od,Wao hi,rfl⟩
  ·exact⟨x,old j x hj e1,e2⟩
 refine⟨k1.same,k1.lent,k1.sub,k1.frz,λb u e=>?_,by simp[k.len],λj d e=>?_,λj x od' e1 e2=>?_,λj l x y od1 od2 c e1 e2 e3 e4 e5 e6=>?_⟩
 ·obtain⟨h1,h2,h3⟩:=k1.ext b u e
  refine⟨h1,h2,λj x od' e1 e2=>?_⟩;obtain⟨y,f1,f2⟩:=cv j x od' e1 e2;exact h3 j y od' f1 f2
 ·by_cases hj:j=i
  ·subst hj
   rw[Wao hi]at e;cases e
  ·exact k1.val j d<|old j _ hj e
 ·by_cases hj:j=i
  ·subst hj
   rw[Wao hi]at e1;cases e1;cases e2;exact⟨a,o,Wao hs,p1,p2,p3,rfl,p4⟩
  ·exact k1.own j x od' (old j x hj e1) e2
 ·obtain⟨x',f1,f2⟩:=cv j x od1 e1 e2
  obtain⟨y',f3,f4⟩:=cv l y od2 e3 e4;exact k1.dis j l x' y' od1 od2 c f1 f2 f3 f4 e5 e6
theorem Ok.putN {g:Gm}{G H:Hp}:∀(cs:List (Addr × HO)) (ods:List OD) (b:Nat) (σ:St) (Δ:Evt),Ok K g G H σ Δ -> b+ods.length <= Δ.length->Nest K g G H σ Δ cs ods →
  Ok K g G H (putS b (cs.map (·.1)) σ) (L2.putN b ((cs.map (·.1)).zip ods) Δ)
 |[],[],_,_,_,k,_,_=>k
 |[],_::_,_,_,_,_,_,n=>by cases n.2.1
 |_::_,[],_,_,_,_,_,n=>by cases n.2.1
 |c::cs,od::ods,b,σ,Δ,k,hl,⟨nd,pr,al⟩=>by
  cases pr with
  |cons r t=>
   obtain⟨h1,h2,h3,h4,h5⟩:=al c Wam;rw[Wbg,Wbf]at nd;have hb:b < Δ.length:=by rw[Wat]at hl;omega
   have k1:=k.setOwnA hb ⟨c.2,h1,r,h2,h3,h4,h5⟩;refine Ok.putN cs ods (b+1) _ _ k1 (by rw[Wby];rw[Wat]at hl;omega) ⟨nd.2,t,λd hd=>?_⟩;obtain⟨f1,f2,f3,f4,f5⟩:=al d<|Wau _ hd;have hne:d.1≠c.1:=λe=>nd.1 (by rw[<- e];exact Wa3.mpr ⟨d,hd,rfl⟩);refine⟨f1,f2,f3,f4,λj x od' e1 e2=>?_⟩;by_cases hj:j=b
   ·subst hj
    rw[Wao (by rw[<- k.len];exact hb)];intro z;have:c.1=d.1:=by
     have z1:=Wba.inj<|Wba.inj z;injection z1
    exact hne this.symm
   ·rw[War (Ne.symm hj)]at e1 ⊢
    exact f5 j x od' e1 e2
theorem Zp2:∀(l:List (Addr × OD)) (R T:Evt) (m:Nat),l.length<=m->L2.putN R.length l (R++Wal m Slot.any++T)=R++l.map (λc=>Slot.ownA c.1 c.2)++Wal (m-l.length) Slot.any++T
 |[],R,T,m,_=>by simp[L2.putN]
 |c::r,R,T,m,h=>by
  obtain⟨m',rfl⟩:∃m',m=m'+1:=⟨m-1,by rw[Wat]at h;omega⟩;have e:(R++Wal (m'+1) Slot.any++T).set R.length (.ownA c.1 c.2)=(R++[.ownA c.1 c.2])++Wal m' Slot.any++T:=by
   rw[Wdj];simp[List.set_append_right]
  rw[L2.putN,e];have:=Zp2 r (R++[.ownA c.1 c.2]) T m' (by rw[Wat]at h;omega);rw[Wan,Wbt]at this;rw[this];simp
theorem Zwm {te:TE}{i base:Nat}{nx bk ct:Evt->Prop}{rt:D->Evt->Prop}{ro:OD->Evt->Prop}
  (h:JN K te Δ λods Δ1=>i<base/\base+ods.length <= Δ1.length/\∀as:List Addr,as.length=ods.length->as.Nodup->nx (L2.putN base (as.zip ods) (Δ1.set i (.val (.lst<|as.map D.adr))))) :
  JS K (tGhost base<|tAsg te<|gName i) Δ ⟨nx,rt,bk,ct,ro⟩:=λg G H σ E k c=>
 h g G H σ _ k λacc cs ods G1 H1 Δ1 k1 s1 rr _ nn hq_=>by
  obtain⟨hi,hb,p⟩:=hq_;have hl:cs.length=ods.length:=Paired.length nn.2.1;have e0:(cs.map λc=>D.adr c.1)=(cs.map (·.1)).map D.adr:=by rw[Wbb];rfl
  have k2:=k1.setVal' i rr;have n2:Nest K g G1 H1 (σ.set i<|some (.ref acc)) (Δ1.set i (.val (.lst (cs.map λc=>D.adr c.1)))) cs ods:=by
   obtain⟨nd,pr,al⟩:=nn;refine⟨nd,pr,λd hd=>?_⟩;obtain⟨f1,f2,f3,f4,f5⟩:=al d hd;refine⟨f1,f2,f3,f4,λj x od' e1 e2=>?_⟩;by_cases hj:j=i
   ·subst hj
    by_cases hlt:j < Δ1.length
    ·rw[Wao hlt]at e1;cases e1;cases e2
    ·rw[Wb9 (by rw[Wby];omega)]at e1;cases e1
   ·rw[War (Ne.symm hj)]at e1 ⊢
    exact f5 j x od' e1 e2
  have k3:=Ok.putN cs ods base _ _ k2 (by rw[Wby];exact hb) n2;refine⟨putS base (cs.map (·.1)) (σ.set i<|some (.ref acc)),Zm3 _ _ _,λj hj=>Ziz _ _ _ j hj,?_⟩;rw[e0]at k3;exact c.nx _ G1 H1 _ k3<|p (cs.map (·.1)) (by rw[Wab,hl]) nn.1
theorem Zqa {n j:Nat}{a:Addr}{ds:List D}{P:D->Evt->Prop}(hx:Δ[n]?=some (.val (.adr a))) (hj:Δ[j]?=some (.ownA a (.lst ds))) (p:P (.int ds.length) Δ):JE K (tCB (rLenU K)<|tCons (tVar n) tNil) Δ P:=λg G H σ Q k c=>by
 obtain⟨v,h1,h2⟩:=k.val n _ hx;cases h2;obtain⟨a',o,w1,w2,w3,w4,w5⟩:=k.own j _ _ hj rfl;obtain⟨rfl,_⟩:=w5;cases o with
 |lst vs=>
  have w3:Reps K G vs ds:=w3;refine⟨_,h1,.inl ⟨_,vs,rfl,.inl<|SqL.of w2,?_⟩⟩;rw[w3.length];exact c _ _ G H Δ k (Same.refl _) (.int _) p
 |_=>exact absurd w3 (λz=>z)
theorem Zwe {n:Nat}{t1 t2:TE}{a:Addr}{j0:Nat}{ds0:List D}{nx bk ct:Evt->Prop}{rt:D->Evt->Prop}{ro:OD->Evt->Prop}(hx:Δ[n]?=some (.val (.adr a))) (hj0:Δ[j0]?=some (.ownA a (.lst ds0)))
  (h:JE K t1 Δ λe1 Δ1=>JE K t2 Δ1 λe2 Δ2=>∃j i ds,e1=.int i /\ Δ2[j]?=some (.ownA a (.lst ds))/\ds.length<sizeLine /\ -(2 ^ 62)<=i/\i<2 ^ 62/\nx (Δ2.set j (.ownA a (.lst (ds.take (insI ds.length i)++e2::ds.drop (insI ds.length i)))))) :
  JS K (tDrop<|tBM K "list" rInsert (tVar n)<|tCons t1<|tCons t2 tNil) Δ ⟨nx,rt,bk,ct,ro⟩:=λg G H σ E k c=>by
 obtain⟨v,h1,h2⟩:=k.val n _ hx;cases h2;obtain⟨a',o,w1,w2,w3,w4,w5⟩:=k.own j0 _ _ hj0 rfl;obtain⟨rfl,_⟩:=w5;cases o with
 |lst vs0=>
  refine⟨_,h1,.inl ⟨rfl,_,SqL.of w2⟩,h g G H σ _ k λv1 e1 G1 H1 Δ1 k1 s1 r1 p1=>p1 g G1 H1 σ _ k1 λv2 e2 G2 H2 Δ2 k2 s2 r2 ⟨j,i,ds,q1,q2,q3,q4,q5,p⟩=>?_⟩;subst q1;cases r1.inv;obtain⟨a2,o2,u1,u2,u3,u4,u5⟩:=k2.own j _ _ q2 rfl;obtain⟨rfl,_⟩:=u5;cases o2 with
  |lst vs=>
   have u3:Reps K G2 vs ds:=u3;refine⟨_,vs,i,v2,rfl,rfl,u2,by rw[u3.length];exact q3,q4,q5,?_⟩;have k3:=k2.write q2 rfl u1 (show OwnRep K G2 (.lst (vs.take (insI vs.length i)++v2::vs.drop (insI vs.length i))) (.lst (ds.take (insI ds.length i)++e2::ds.drop (insI ds.length i))) from by
    rw[u3.length];exact(u3.take _).append (.cons r2 (u3.drop _)))
   exact c.nx σ G2 _ _ k3 p
  |_=>exact absurd u3 (λz=>z)
 |_=>exact absurd w3 (λz=>z)
theorem JS.conv {t:TS}{Δ':Evt}{P:Pst}(hc:∀g G H σ,Ok K g G H σ Δ -> ∃G',Same G G' /\ Ok K g G' H σ Δ') (h:JS K t Δ' P):JS K t Δ P:=λg G H σ E k c=>by
 obtain⟨G',s,k'⟩:=hc g G H σ k;exact h g G' H σ E k' c
theorem Ok.freezeA {g:Gm}{G H:Hp}{σ:St}(k:Ok K g G H σ Δ) {i:Nat}{a:Addr}{ds:List D}(h:Δ[i]?=some (.ownA a (.lst ds))):∃G',Same G G' /\ Ok K g G' H σ (Δ.set i .any)/\Rep K G' (.ref a) (.lst ds):=by
 obtain⟨a',o,w1,w2,w3,w4,w5⟩:=k.own i _ _ h rfl;obtain⟨rfl,w6⟩:=w5;cases o with
 |lst vs=>
  have pd:Pend K g G H σ (Δ.set i .any) a (.lst ds):=by
   refine⟨.lst vs,w2,w3,w4,w6,?_,λj x od' e1 e2 e3=>?_⟩
   ·cases q:g.Xo a with
    |none=>rfl
    |some u=>exact absurd w1 ((k.ext a u q).2.2 i _ _ h rfl)
   ·by_cases hj:j=i
    ·subst hj
     rw[Wcz]at e1;simp at e1;obtain⟨_,e1⟩:=e1;subst e1;cases e2
    ·rw[War (Ne.symm hj)]at e1
     exact hj<|k.dis j i x _ od' _ a e1 e2 h rfl e3 w1
  obtain⟨k2,sg,r⟩:=(k.drop i).freeze pd w2;exact⟨_,sg,k2,r⟩
 |_=>exact absurd w3 (λz=>z)
theorem Ok.freezeN {g:Gm}{H:Hp}{σ:St}:∀(cs:List (Addr × List D)) (R T:Evt) (G:Hp),Ok K g G H σ (R++cs.map (λc=>Slot.ownA c.1 (.lst c.2))++T) →
  ∃G',Same G G' /\ Ok K g G' H σ (R++Wal cs.length .any++T)/\∀c∈cs,Rep K G' (.ref c.1) (.lst c.2)
 |[],R,T,G,k=>⟨G,Same.refl _,by simpa using k,λc hc=>nomatch hc⟩
 |c::r,R,T,G,k=>by
  have hi:(R++(c::r).map (λc=>Slot.ownA c.1 (.lst c.2))++T)[R.length]?=some (.ownA c.1 (.lst c.2)):=by simp
  obtain⟨G1,s1,k1,r1⟩:=k.freezeA hi;have e:(R++(c::r).map (λc=>Slot.ownA c.1 (.lst c.2))++T).set R.length .any=(R++[.any])++r.map (λc=>Slot.ownA c.1 (.lst c.2))++T:=by
   simp[List.set_append_right]
  rw[e]at k1;obtain⟨G2,s2,k2,r2⟩:=Ok.freezeN r (R++[.any]) T G1 k1;refine⟨G2,s1.trans s2,?_,λd hd=>?_⟩
  ·have e2:(R++[Slot.any])++Wal r.length Slot.any++T=R++Wal (c::r).length Slot.any++T:=by
    rw[Wat,Wdj];simp
   rw[e2]at k2;exact k2
  ·rcases Waq.mp hd with e|hd
   ·subst e;exact r1.mono s2
   ·exact r2 d hd
theorem Ok.thaw {g:Gm}{G H:Hp}{σ:St}{cs:List (Addr × List D)}{R T:Evt}{i:Nat}(k:Ok K g G H σ (R++cs.map (λc=>Slot.ownA c.1 (.lst c.2))++T)) (hi:R[i]?=some (.val (.lst (cs.map λc=>D.adr c.1)))) :
  ∃G',Same G G' /\ Ok K g G' H σ (R.set i (.val (.lst (cs.map λc=>D.lst c.2)))++Wal cs.length .any++T):=by
 have hlt:i<R.length:=(Wah.mp hi).1;obtain⟨v,h1,h2⟩:=k.val i _ (by rw[Wbe,Wbc hlt];exact hi);obtain⟨G1,s1,k1,r1⟩:=Ok.freezeN cs R T G k;refine⟨G1,s1,?_⟩;have rr:Rep K G1 v (.lst (cs.map λc=>D.lst c.2)):=by
  cases h2 with
  |lst ha rs=>
   refine .lst (s1 _ _ ha) ?_;have key:∀(l:List (Addr × List D)) (vs:List V),(∀c∈l,Rep K G1 (.ref c.1) (.lst c.2))->Reps K G vs (l.map λc=>D.adr c.1)->Reps K G1 vs (l.map λc=>D.lst c.2):=by
    intro l
    induction l with
    |nil=>intro vs _ h;cases h;exact .nil
    |cons c r ih=>
     intro vs hc h;cases h with
     |cons h1 h2=>
      cases h1;exact .cons (hc c Wam)<|ih _ (λd hd=>hc d<|Wau _ hd) h2
   exact key cs _ r1 rs
 have k2:=k1.setVal' i rr;have e1:σ.set i (some v) = σ:=by
  apply Wcb;intro j;by_cases hj:j=i
  ·subst hj;rw[Wao (by obtain⟨z,_⟩:=Wah.mp h1;exact z),h1]
  ·rw[War (Ne.symm hj)]
 rw[e1]at k2;have e2:(R++Wal cs.length Slot.any++T).set i (.val (.lst (cs.map λc=>D.lst c.2)))=R.set i (.val (.lst (cs.map λc=>D.lst c.2)))++Wal cs.length Slot.any++T:=by
  rw[Wbe,Wbe,List.set_append_left _ _ hlt]
 rw[e2]at k2;exact k2
end
section
variable {X:Cx}(K:W.Frag)
theorem ixK (hu:X.A.units+1<cLine) (hK:X.K=K:=by rfl):IxR X (rIxU K):=hK ▸ ixU hu
theorem slK (hK:X.K=K:=by rfl):SlR X (rSlU K):=hK ▸ slU
theorem addK (hK:X.K=K:=by rfl):OpR X (binaryOp .Add) (rAddU K):=hK ▸ Zv4
theorem lenK (hK:X.K=K:=by rfl):CallR X (.builtin "len") (rLenU K):=hK ▸ Zqh
def rTup (K:W.Frag):List V->Hp->VK->Prop:=λxs H Q=>∃p ys,xs=[.ref p]/\((SqL K H p ys/\∀l,H l=none->Q (.ref l) (upd H l (.tup ys)))\/(SqT K H p ys/\Q (.ref p) H))
theorem tupK (hK:X.K=K:=by rfl):CallR X (.type "tuple") (rTup K):=hK ▸ Zjj
def rLst (K:W.Frag):List V->Hp->VK->Prop:=λxs H Q=>∃p ys,xs=[.ref p]/\(SqL K H p ys\/SqT K H p ys)/\∀l,H l=none->Q (.ref l) (upd H l (.lst ys))
theorem lstK (hK:X.K=K:=by rfl):CallR X (.type "list") (rLst K):=hK ▸ Zk3
theorem idxK (hK:X.K=K:=by rfl):MtM X "tuple.index" (rIndexT K):=hK ▸ Zin
theorem seqK {tg l:Expr}{tl:TE}(hl:PE X l tl) (hK:X.K=K:=by rfl):PI X tg l (iSeq K tl):=hK ▸ Zy3 hl
theorem truK {a:Expr}{ta:TE}(ha:PE X a ta) (he:∀whole,isTrue a X.env whole=(do let v ← whole;standAt a.pos;holding [v] (truthy v))) (hK:X.K=K:=by rfl):PT X a (tTru K ta):=hK ▸ Zx1 ha he
theorem gtupK {es:List Expr}{k:Nat}{t:TGs}{n:Nat}{pos:Pos}(hc:X.calm=true) (h:PGs X es t)
  (hn:(assignEach es X.env).length=n:=by rfl) (hst:(assignEach es X.env).findIdx? (·.1)=none:=by rfl) (hK:X.K=K:=by rfl):PG X (.Tuple es k pos) (gTup K n t):=hK ▸ Zyv hc h hn hst
variable {o e:Expr}{es:List Expr}{to:TE}{t:TA}{name:Str}{apos cpos:Pos}{T id:String}{r:V->List V->Hp->VK->Prop}
theorem bmK (pa:PlainAttrs T) (slot:PySem.Slot T name id) (hty:typeOf (.builtin id)=pure (.type "method_descriptor")) (hm:MtR X id r) (ho:PE X o to) (ha:PA X (e::es) t)
  (hbase:attributeBase o name X.env (eval o X.env)=eval o X.env:=by rfl)
  (hfew:((backTo cpos (starEach (e::es) X.env)).all (λx=>!x.1) && (backToKw cpos (keywordEach [] X.env)).all (λx=>x.1.isSome)
   && decide ((e::es).length+([]:List Keyword).length+(if ([]:List Keyword).isEmpty then 0 else 1)<30))=true:=by rfl)
  (hline:(apos.endLine == cpos.line)=true:=by rfl) (hs:starEach (e::es) X.env=(false,eval e X.env)::starEach es X.env:=by rfl) (hplain:(backTo cpos<|starEach es X.env).any (·.1)=false:=by rfl) (hK:X.K=K:=by rfl) :
  PE X (.Call (.Attribute o name apos) (e::es) [] cpos) (tBM K T r to t):=hK ▸ Zzd pa slot hty hm ho ha hbase hfew hline hs hplain
end
section
variable {K:W.Frag}{Δ:Evt}{P:D->Evt->Prop}
theorem Zez {ds es:List D}(he:ds=[.lst es]\/ds=[.tup es]) (p:P (.tup es) Δ):JC K (rTup K) ds Δ P:=Zsp he p
theorem Zpq {ds es:List D}(he:ds=[.lst es]\/ds=[.tup es]) (p:P (.lst es) Δ):JC K (rLst K) ds Δ P:=λg G H σ Q vs k rs c=>by
 rcases he with he|he <;> subst he
 ·obtain⟨_,_,rfl,r,t⟩:=rs.inv
  next=>
   cases t.inv;obtain⟨_,_,rfl,ha,rs⟩:=r.inv
   next=>
    refine⟨_,_,rfl,.inl<|SqL.of<|k.live _ _ ha,λl hl=>?_⟩;obtain⟨k2,sg⟩:=k.laid hl (.lst _);exact c _ _ _ _ Δ k2 sg (.lst Za3<|rs.mono sg) p
 ·obtain⟨_,_,rfl,r,t⟩:=rs.inv
  next=>
   cases t.inv;obtain⟨_,_,rfl,ha,rs⟩:=r.inv
   next=>
    refine⟨_,_,rfl,.inr<|SqT.of<|k.live _ _ ha,λl hl=>?_⟩;obtain⟨k2,sg⟩:=k.laid hl (.lst _);exact c _ _ _ _ Δ k2 sg (.lst Za3<|rs.mono sg) p
theorem Zr6 {sel:List Nat}{wi:TI}{tc:TT}{te:TE}{Po:List OD->Evt->Prop}(hsel:sel.Nodup)
  (h:JI K wi Δ λds Δ1=>ds.length<sizeLine/\∃(p:D->Bool) (f:D->OD),
   (∀(i:Nat) d,ds[i]?=some d->JT K tc (.val d::fixD sel Δ1) λb Δ4=>b=p d/\if b=true then JO K te Δ4 λe Δ5=>e=f d/\∃x,Δ5=x::fixD sel Δ1 else ∃x,Δ4=x::fixD sel Δ1) ∧
   Po ((ds.filter p).map f) Δ1):JN K (tComp 1 sel wi (gName 0) tc te) Δ Po:=by
 refine Zu8 hsel λg G H σ R k c=>h g G H σ R k λJ ds G' H' Δ' k' s' it ⟨z,p,f,ht,he⟩=>c J ds G' H' Δ' k' s' it ⟨z,λi ys Δ=>ys=((ds.take i).filter p).map f/\∃x,Δ = x::fixD sel Δ',⟨by simp,.any,rfl⟩,?_,?_⟩
 ·rintro i d ys Δ2 hd ⟨rfl,x,rfl⟩
  have tk:ds.take (i+1)=ds.take i++[d]:=by
   rw[Wca,hd];rfl
  refine Zh4 (by decide) ?_;intro g G H σ Q k c;refine ht i d hd g G H σ Q k λb G1 H1 Δ1 k1 s1 ⟨e1,q⟩=>c b G1 H1 Δ1 k1 s1 ?_;cases b with
  |true=>
   rw[if_pos rfl]at q ⊢;intro g G H σ Q k c;refine q g G H σ Q k λa od G2 H2 Δ2 k2 s2 pd ⟨e2,x,e3⟩=>c a od G2 H2 Δ2 k2 s2 pd ⟨?_,x,e3⟩;rw[tk,Wbo,Waz,Wbs,<- e1,e2];rfl
  |false=>
   rw[if_neg Wag]at q ⊢;obtain⟨x,e3⟩:=q;refine⟨?_,x,e3⟩;rw[tk,Wbo,Waz,Wbs,<- e1];simp
 ·rintro ys Δ2 ⟨rfl,x,rfl⟩
  rw[Wbv,show (x::fixD sel Δ')=[x]++fixD sel Δ' from rfl,Zfh (by simp)];exact he
end
section
variable {K:W.Frag}{Δ:Evt}
abbrev OSp:=List D->(OD->Prop)->Prop
def spO (K:W.Frag) (f:OSp):Sp:=λvs H Q _=>∃F ds Post,Same F H/\Reps K F vs ds/\f ds Post ∧
 ∀a H' o od,Same H H' -> H a=none->H' a=some o->OwnRep K (λb=>if b=a then none else glue F H H' b) o od->Post od->Q (.ref a) H'
theorem Zte {f:OSp}{ta:TA}{E:XK}{Po:OD->Evt->Prop}(h:JA K ta Δ λds Δ1=>f ds λod=>Po od Δ1):JO K (tCall (spO K f) [] E ta) Δ Po:=λg G H σ Q k c=>
 h g G H σ _ k λvs ds G1 H1 Δ1 k1 s1 r1 p1=>by
  show spO K f (vs++[]) H1 Q E;rw[Wa4];refine⟨G1,ds,_,k1.live,r1,p1,λa H' o od sh ha hn rr pd=>?_⟩;have sg:Same G1 (λb=>if b=a then none else glue G1 H1 H' b):=λb o e=>by
   have hb:b≠a:=by intro z;subst z;rw[k1.live _ _ e]at ha;cases ha
   show (if b=a then none else glue G1 H1 H' b)=some o;rw[if_neg hb];exact Zhh k1.live b o e
  have k2:Ok K g (λb=>if b=a then none else glue G1 H1 H' b) H' σ Δ1:=k1.grow sg sh λb o e=>by
   have e:(if b=a then none else glue G1 H1 H' b)=some o:=e;by_cases hb:b=a
   ·rw[if_pos hb]at e;cases e
   ·rw[if_neg hb]at e;exact Zjv k1.live (λb o _ e=>sh b o e) b o e
  refine c a _ _ H' Δ1 k2 (s1.trans sg) ⟨o,hn,rr,by simp,k1.there ha,?_,λj x od' e1 e2 e3=>?_⟩ pd
  ·cases q:g.Xo a with
   |none=>rfl
   |some u=>have z:=(k1.ext a u q).1;rw[ha]at z;cases z
  ·obtain⟨b,oo,w1,w2,_⟩:=k1.own j x od' e1 e2
   rw[e3]at w1;cases w1;rw[ha]at w2;cases w2
theorem Zy6 {f:OSp}{t:TS}{N:List Str}{vs:List V}{H:Hp}{Q:VK}{E:XK}(ht:∀ds Post,f ds Post->ds.length<=N.length/\JS K t (startD N ds) ⟨λ_=>False,λ_ _=>False,λ_=>False,λ_=>False,λod _=>Post od⟩) (h:spO K f vs H Q E) :
  t { nx:=λ_ H'=>Q .non H',rt:=Q } (start N vs) H:=by
 obtain⟨F,ds,Post,l,rs,hf,q⟩:=h;obtain⟨hl,hj⟩:=ht ds Post hf;refine hj ⟨λ_=>False,F,H,λ_=>none⟩ F H (start N vs) _ (Zg7 rs hl (λ_ _ _ e=>e) (λ_ z=>z.elim) (Same.refl _) (λb o e=>⟨l b o e,.inr e⟩) λ_=>rfl) ⟨λ_ _ _ _ _ z=>z.elim,λ_ _ _ _ _ _ _ _ z=>z.elim,λ_ _ _ _ _ z=>z.elim,λ_ _ _ _ _ z=>z.elim,λa od σ G H' Δ k pd p=>?_⟩;obtain⟨o,h1,h2,h3,h4,h5,h6⟩:=pd;refine q a H' o od (λb o e=>k.same b o (λz=>z) e) h4 h1 (h2.mono λb o e=>?_) p;have hb:b≠a:=by intro z;subst z;rw[h3]at e;cases e
 show (if b=a then none else glue F H H' b)=some o;rw[if_neg hb];obtain⟨e1,e2⟩:=k.frz b o e;rcases e2 with z|z
 ·rw[Zf6 z];exact e1
 ·rw[Zel (l b o z)];exact z
theorem Zvv {f:OSp}{n:Nat}(h:∀ds Post,f ds Post->ds.length=n):∀vs H Q E,spO K f vs H Q E->vs.length=n:=λvs H Q E hq_=>by obtain⟨F,ds,Post,l,rs,hf,q⟩:=hq_;rw[rs.length];exact h ds Post hf
end
def fLaw:DSp:=λds Post=>∃ns:List Int,ds=[.scr (ns.map .int)]/\ns.length<=63/\Post (.bl true)
def spLaw (K:W.Frag):Sp:=λvs H Q _=>∃(a:Addr) (ns:List Int),vs=[.ref a]/\SqL K H a (ns.map V.int)/\ns.length<=63/\∀H',Q (.bl true) H'
theorem Zsq {K:W.Frag}{vs:List V}{H:Hp}{Q:VK}{E:XK}(h:spLaw K vs H Q E):spD K fLaw vs H Q E:=by
 obtain⟨a,ns,rfl,hs,hl,q⟩:=h;refine⟨H,[.scr (ns.map .int)],λd=>d=.bl true,Same.refl _,.cons (.scr hs<|Reps.ofInts ns) .nil,⟨ns,rfl,hl,rfl⟩,λr H' d sh rr e=>?_⟩;subst e;cases rr.inv;exact q H'
theorem walk_law {l:PySem.W.OpenLaw}{q:Program}{loose:List Str}{XP:(Str->Option Value)->Heap->Prop}{YP:World->Heap->Prop}{d:DefRec}{K:Params->W.Frag}{k:Nat}{x:Str}(hk:Room k callerA) (hn:l.most=some 63) (hdf:d.params.defaults=[])
  (hY:∀(w:World) (h:Heap),YP w h->(K w.params).In h)
  (F:∀(w:World) (mg:Str->Option Value) (fa:Addr) (h:Heap),(K w.params).In h->h.Ns mainGlobals mg->mg d.name=some (.ref fa) →
   ∃fd:FuncData,(∀(s:Shared) (u:Value),BindsTo s fd ⟨[u],[]⟩ [(x,u)])/\∀base:Heap,(K w.params).In base->base.Ns mainGlobals mg->FnOk l.prog w (K w.params) mg base CX0 k fa fd [x] (spD (K w.params) fLaw)) :
  PySem.W.WalkO q loose XP YP l.row.toRowW d [] (λf vs=>PySem.call f vs):=
 L2.walk_of (n:=63) (k:=k) (x:=x) (CX:=λ_=>CX0) (sp:=λw=>spLaw<|K w.params) hn (by decide) hdf hk hY
  (λw mg fa h h1 h2 h3=>by
   obtain⟨fd,b,f⟩:=F w mg fa h h1 h2 h3;exact⟨fd,b,λbase kb nb=>(f base kb nb).imp λvs H Q E z=>Zsq z⟩)
  (λ_ _ a ns hl _ hS=>⟨a,ns,rfl,hS,hl,λ_=>rfl⟩) λ_ _ _ _ _ z=>z
def SqB (b:Bool) (K:W.Frag) (H:Hp) (a:Addr) (xs:List V):Prop:=match b with|true=>SqT K H a xs|false=>SqL K H a xs
def HsB (b:Bool) (h:Heap) (a:Addr) (ws:Array Value):Prop:=match b with|true=>h.IsTuple a ws|false=>h.IsList a ws
theorem HsB.lt {b:Bool}{h:Heap}{a:Addr}{ws:Array Value}(x:HsB b h a ws):a<h.objs.size:=by
 cases b <;> (obtain⟨o,q,r⟩:=x;exact Was q)
theorem Inv.seqB {X:Cx}{pins:List (Addr × Obj)}{σ:St}{H:Hp}{s:Shared}{b:Bool}{a:Addr}{xs:List V}(I:Inv X pins σ H s) (h:SqB b X.K H a xs):∃its:List Value,Vals xs its/\HsB b s.heap a its.toArray:=by
 cases b
 ·obtain⟨its,r,p,_⟩:=I.list h
  exact⟨its,r,p.isList⟩
 ·obtain⟨its,r,p,_⟩:=I.tuple h
  exact⟨its,r,p⟩
section
variable {prog:Program}{w:World}{A:Around}{E:Value->Shared->Prop}{s:Shared}
end
section
variable {X:Cx}
def rAll (K:W.Frag):List V->Hp->VK->Prop:=λxs H Q=>∃(p:Addr) (bs:List Bool),xs=[.ref p]/\SqL K H p (bs.map V.bl)/\Q (.bl<|bs.all id) H
theorem allK (K:W.Frag) (hc:X.calm=true) (hK:X.K=K:=by rfl):CallR X (.builtin "all") (rAll K):=by
 subst hK;intro pins s σ H xs us Q I r h;obtain⟨p,bs,rfl,hx,q⟩:=h;obtain⟨u,rfl,ru⟩:=vals1 r;cases (show u=Value.ref p from ru);obtain⟨its,w1,p1,_⟩:=I.list hx;have hlt:p<s.heap.objs.size:=by obtain⟨o,e,_⟩:=p1.isList;exact Was e
 have hval:∀(bs:List Bool) (its:List Value),Vals (bs.map V.bl) its->its=bs.map Value.bool:=by
  intro bs
  induction bs with
  |nil=>intro its h;cases h;rfl
  |cons b r ih=>intro its h;cases h with|cons h1 h2=>cases (show _=Value.bool b from h1);rw[ih _ h2];rfl
 have e:=hval bs its w1;subst e;refine call_all_walk<|wpAny_pyIter_list p1.isList ?_;refine⟨s.heap.objs.size,_,_,_,_,_,λi=>bs.getD i false,rfl,Walks.list (prog:=X.prog) (w:=X.w) (A:=X.A.in1) (show X.A.in1.handled=none from I.ok.hd hc) s.heap.objs.size p (Wa2 hlt) (bs.map Value.bool).toArray,⟨⟨_,Wax _ rfl,rfl,rfl⟩,p1.isList.push _⟩,?_,λh' tk hk=>?_⟩
 ·intro i v s0 Q0 E0 hv hq
  have hv:(bs.map Value.bool).toArray[i]?=some v:=hv;have hv:(bs.map Value.bool)[i]?=some v:=by simpa using hv
  rw[Wad]at hv;cases z:bs[i]? with
  |none=>rw[z]at hv;cases hv
  |some b=>
   rw[z]at hv;have hv:Value.bool b=v:=by simpa using hv
   subst hv;have e0:bs.getD i false=b:=by rw[Wac,z];rfl
   have hq:Q0 (bs.getD i false) s0:=hq;rw[e0]at hq;exact wpAny_truthy_bool hq
 ·have e:(Wap (bs.map Value.bool).toArray.size).all (λi=>bs.getD i false)=bs.all id:=by
   rw[Waj,Wab];rw[Wdo,Wbi,Wbi];constructor
   ·intro hh b hb
    obtain⟨i,hi,rfl⟩:=Wcd.mp hb;have:=hh i<|Wav.mpr hi;rw[Wac,Waa hi]at this;exact this
   ·intro hh i hi
    rw[Wav]at hi;rw[Wac,Waa hi];exact hh _<|Wa0 hi
  rw[e];have I0:Inv X pins σ H { s with heap:=s.heap.push { cls:=.type "list_iterator",data:=.fields #[.ref p,.int 0 0] },toks:=s.toks }:=I.kept λb o e=>Waf _ e;refine⟨.bl<|bs.all id,H,I0.turned (it:=s.heap.objs.size) (λb o hb e=>hk b o (by simpa using hb) e) (I.hok.fresh<|Wak _) (Weh I.lt) (.inr I.sz) ?_ ?_,rfl,q⟩
  ·have:=I.fpOk (b:=s.heap.objs.size) (H':=H) (Wak _) (I.hok.fresh<|Wak _)
   exact this.2.2.2.2.1
  ·have:=I.fpOk (b:=s.heap.objs.size) (H':=H) (Wak _) (I.hok.fresh<|Wak _)
   exact this.2.2.2.2.2
def rIsiU (K:W.Frag):List V->Hp->VK->Prop:=λxs H Q=>rIsi K xs H Q\/∃(x:V) (p:Addr) (ns:List String) (T:String) (b:Bool),xs=[x,.ref p]/\H p=some (.tup<|ns.map V.ty)/\TyOf K H x (.type T)/\PySem.W.kitAny K (.type T) (ns.map Value.type)=some b/\Q (.bl b) H
theorem Znv {pins:List (Addr × Obj)}{σ:St}{H:Hp}{s:Shared}{x:V}{u t:Value}(I:Inv X pins σ H s) (rx:RelV x u) (ty:TyOf X.K H x t) (nt:∃T,t=.type T):∃Hh:Heap->Prop,PySem.W.KitX X.K u t Hh/\Hh s.heap/\u≠.builtin "__main__.__loader__#opaque":=by
 cases ty with
 |non=>cases (show u=Value.none from rx);exact⟨_,PySem.W.kitx_none,True.intro,λz=>nomatch z⟩
 |bl y=>cases (show u=Value.bool y from rx);exact⟨_,PySem.W.kitx_bool,True.intro,λz=>nomatch z⟩
 |int i=>obtain⟨t,q⟩:=(show ∃t,u=Value.int i t from rx);cases q;exact⟨_,PySem.W.kitx_int,True.intro,λz=>nomatch z⟩
 |str y=>obtain⟨t,q⟩:=(show ∃t,u=Value.str y t from rx);cases q;exact⟨_,PySem.W.kitx_str,True.intro,λz=>nomatch z⟩
 |flt y=>obtain⟨t,q⟩:=(show ∃t,u=Value.float y t from rx);cases q;exact⟨_,PySem.W.kitx_float,True.intro,λz=>nomatch z⟩
 |@lst a xs ea=>
  cases (show u=Value.ref a from rx);obtain⟨_,_,n,_,h1⟩:=(show ObjOk X.prog X.w H s.heap a (.lst xs) from I.hok a _ ea);exact⟨_,PySem.W.kitx_list,⟨_,h1,rfl⟩,λz=>nomatch z⟩
 |@frz a ob xs ea=>
  cases (show u=Value.ref a from rx);obtain⟨_,_,_,n,_,h1⟩:=(show ObjOk X.prog X.w H s.heap a (.frz ob (.lst xs)) from I.hok a _ ea);exact⟨_,PySem.W.kitx_list,⟨_,h1,rfl⟩,λz=>nomatch z⟩
 |@tup a xs ea=>
  cases (show u=Value.ref a from rx);obtain⟨_,_,_,p⟩:=(show ObjOk X.prog X.w H s.heap a (.tup xs) from I.hok a _ ea);obtain⟨o,h1,⟨h2,_⟩,_⟩:=p;exact⟨_,PySem.W.kitx_tuple,⟨o,h1,h2⟩,λz=>nomatch z⟩
 |@dK a kvs ea=>
  cases (show u=Value.ref a from rx);obtain⟨_,_,vs,_,p⟩:=(show ObjOk X.prog X.w H s.heap a (.dK kvs) from I.hok a _ ea);obtain⟨o,es,ep,h1,h2,_⟩:=p;exact⟨_,PySem.W.kitx_dict,⟨o,h1,h2.1⟩,λz=>nomatch z⟩
 |@dT a kvs ea=>
  cases (show u=Value.ref a from rx);obtain⟨_,_,xs,_,o,es,ep,h1,h2,_⟩:=(show ObjOk X.prog X.w H s.heap a (.dT kvs) from I.hok a _ ea);exact⟨_,PySem.W.kitx_dict,⟨o,h1,h2.1⟩,λz=>nomatch z⟩
 |@ins a C dx fs ea cl ha hn htk hm=>obtain⟨T,e⟩:=nt;cases e
theorem isiUK (K:W.Frag) (hK:X.K=K:=by rfl):CallR X (.builtin "isinstance") (rIsiU K):=by
 subst hK;refine CallR.or Zmq ?_;intro pins s σ H xs us Q I r h;obtain⟨x,p,ns,T,b,rfl,hp,ty,e,q⟩:=h;obtain⟨u,u',rfl,rx,rn⟩:=vals2 r;cases (show u'=Value.ref p from rn);obtain⟨Hh,Z,hz,hne⟩:=Znv I rx ty ⟨T,rfl⟩;obtain⟨_,its,rv,o,ho,⟨hc,n,hd⟩,hdd⟩:=I.hok p _ hp;have hv:∀(ns:List String) (its:List Value),Vals (ns.map V.ty) its->its=ns.map Value.type:=by
  intro ns
  induction ns with
  |nil=>intro its h;cases h;rfl
  |cons b r ih=>intro its h;cases h with|cons h1 h2=>cases (show _=Value.type b from h1);rw[ih _ h2];rfl
 have e2:=hv ns its rv;subst e2;obtain⟨cls,dd,data,sl⟩:=o;simp only at hc hd hdd;subst hc hd hdd;exact PySem.W.kia_tup Z I.kIn hz ho e hne λtk=>⟨.bl b,H,I.tok _,rfl,q⟩
end
section
variable {K:W.Frag}{Δ:Evt}
theorem Zyn {bs:List Bool}{P:D->Evt->Prop}(p:P (.bl<|bs.all id) Δ):JC K (rAll K) [.lst (bs.map D.bl)] Δ P:=λg G H σ Q vs k rs c=>by
 obtain⟨_,_,rfl,r,t⟩:=rs.inv
 next=>
  cases t.inv;obtain⟨a,ws,rfl,ha,rs⟩:=r.inv
  next=>
   have e:∀(bs:List Bool) (ws:List V),Reps K G ws (bs.map D.bl)->ws=bs.map V.bl:=by
    intro bs
    induction bs with
    |nil=>intro ws h;cases h;rfl
    |cons b r ih=>intro ws h;cases h with|cons h1 h2=>cases h1;rw[ih _ h2];rfl
   have:=e bs ws rs;subst this;exact⟨_,bs,rfl,SqL.of<|k.live _ _ ha,c _ _ G H Δ k (Same.refl _) (.bl _) p⟩
theorem Zcw {d:D}{n T:String}{b:Bool}{P:D->Evt->Prop}(ht:tyD d=some T) (e:∀K,PySem.W.kitOne K (.type T) (.type n)=some b) (p:P (.bl b) Δ):JC K (rIsiU K) [d,.ty n] Δ P:=λg G H σ Q vs k rs c=>.inl<|Zxi ht e p g G H σ Q vs k rs c
end
section
variable {X:Cx}
def rMin1 (K:W.Frag):List V->Hp->VK->Prop:=λxs H Q=>∃(b:Bool) (p:Addr) (ns:List Int),xs=[.ref p]/\SqB b K H p (ns.map V.int)/\0<ns.length/\∀m,m∈ns->(∀a∈ns,m<=a)->Q (.int m) H
theorem minK (K:W.Frag) (hc:X.calm=true) (hK:X.K=K:=by rfl):CallR X (.builtin "min") (rMin1 K):=by
 subst hK;intro pins s σ H xs us Q I r h;obtain⟨b,p,ns,rfl,hx,hne,q⟩:=h;obtain⟨u,rfl,ru⟩:=vals1 r;cases (show u=Value.ref p from ru);obtain⟨its,w1,p1⟩:=I.seqB hx;have hlt:=p1.lt;have hl:=w1.length;rw[Wab]at hl;have hv:∀(i:Nat) v,its.toArray[i]?=some v->∃t,v=Value.int (ns.getD i 0) t:=λi v e=>by
  have hi:i<its.length:=by simpa using (Array.getElem?_eq_some_iff.mp e).1
  obtain⟨v',e1,t,e2⟩:=w1.get (i:=i) (x:=.int<|ns.getD i 0) (by rw[Wad,Wac,Waa (by omega)];rfl);rw[Wde,e1]at e;cases e;exact⟨t,e2⟩
 have fin:∀{h':Heap}{tk:Nat}{v:Value},its.toArray[argBest (λi j=>decide (ns.getD i 0<ns.getD j 0)) (its.toArray.size-1)]?=some v->(∀c o,s.heap.get? c=some o->h'.get? c=some o)->EP X pins σ Q v { s with heap:=h',toks:=tk }:=λ{h' tk v} hP hk=>by
  obtain⟨t,rfl⟩:=hv _ _ hP;obtain⟨h1,h2⟩:=argBest_lt (λi=>ns.getD i 0)<|its.toArray.size-1;have hz:its.toArray.size=ns.length:=by simp[hl]
  rw[hz]at h1 h2 ⊢;refine⟨.int<|ns.getD (argBest (λi j=>decide (ns.getD i 0<ns.getD j 0))<|ns.length-1) 0,H,I.kept hk,⟨_,rfl⟩,q _ ?_ λa ha=>?_⟩
  ·rw[Wac,Waa (by omega)];exact Wa0 _
  ·obtain⟨j,hj,rfl⟩:=Wcd.mp ha
   have:=h2 j (by omega);rw[Wac (l:=ns) (i:=j),Waa hj]at this;exact this
 have old:∀{o:Obj}{h':Heap},(∀c u,c ∉ [s.heap.objs.size]->(s.heap.push o).get? c=some u->h'.get? c=some u)->∀c u,s.heap.get? c=some u->h'.get? c=some u:=λhk c u e=>hk c u (λhm=>by
  have:c=s.heap.objs.size:=by simpa using hm
  exact absurd (this ▸ Was e) (Wc5 _)) (Waf _ e)
 have fp:∀o:Obj,∀c∈[s.heap.objs.size,p],c<(s.heap.push o).objs.size:=λo c hc=>by
  rw[Wd2];simp only[Waq,Wdi,or_false]at hc;rcases hc with rfl|rfl
  ·exact Nat.lt_succ_self _
  ·exact Wb7 hlt
 cases b
 ·refine call_min_walk (wpAny_pyIter_list p1 ?_)
  exact⟨_,_,_,_,_,_,_,rfl,Walks.list (A:=X.A.in1) (I.ok.hd hc) _ p (Wa2 hlt) its.toArray,⟨⟨_,Wax _ rfl,rfl,rfl⟩,Heap.IsList.push p1 _⟩,fp _,by simp;omega,CmpOf.ints_lt (λi=>ns.getD i 0) hv,λv h' tk hP hk=>fin hP<|old hk⟩
 ·refine call_min_walk (wpAny_pyIter_tuple p1 ?_)
  exact⟨_,_,_,_,_,_,_,rfl,Walks.tuple (A:=X.A.in1) (I.ok.hd hc) _ p (Wa2 hlt) its.toArray,⟨⟨_,Wax _ rfl,rfl,rfl⟩,Heap.IsTuple.push p1 _⟩,fp _,by simp;omega,CmpOf.ints_lt (λi=>ns.getD i 0) hv,λv h' tk hP hk=>fin hP<|old hk⟩
end
section
variable {K:W.Frag}{Δ:Evt}
theorem Zjn {ns:List Int}{m:Int}{d:D}{P:D->Evt->Prop}(hd:d=.lst (ns.map .int)\/d=.tup (ns.map .int)) (hm:m∈ns) (hle:∀a∈ns,m<=a) (p:P (.int m) Δ):JC K (rMin1 K) [d] Δ P:=λg G H σ Q vs k rs c=>by
 have fin:∀m',m'∈ns->(∀a∈ns,m' <= a)->Q (.int m') H:=λm' h1 h2=>by
  have:m'=m:=Int.le_antisymm (h2 m hm)<|hle m' h1;subst this;exact c _ _ G H Δ k (Same.refl _) (.int _) p
 have pos:0<ns.length:=Wco hm;obtain⟨_,_,rfl,r,t⟩:=rs.inv
 next=>
  cases t.inv;rcases hd with hd|hd <;> subst hd
  ·obtain⟨_,_,rfl,ha,rs⟩:=r.inv
   next=>have:=rs.ints;subst this;exact⟨false,_,ns,rfl,SqL.of<|k.live _ _ ha,pos,fin⟩
  ·obtain⟨_,_,rfl,ha,rs⟩:=r.inv
   next=>have:=rs.ints;subst this;exact⟨true,_,ns,rfl,SqT.of<|k.live _ _ ha,pos,fin⟩
end
open PySem PySem.Spec PyProof.Rows PySem.SeqAt
section
variable {prog:Program}{w:World}{A:Around}{E:Value->Shared->Prop}{s:Shared}
def KeepBut (a:Addr) (h h':Heap):Prop:=∀b o,b≠a->h.get? b=some o->h'.get? b=some o
end
def RowAt (h:Heap) (v:Value) (r:List Int):Prop:=∃(a:Addr) (its:List Value),v=.ref a/\IsTup h a its.toArray/\IntsAre its r
theorem RowAt.keep {h h':Heap}{v:Value}{r:List Int}(x:RowAt h v r) (k:∀b o,h.get? b=some o->h'.get? b=some o):RowAt h' v r:=by
 obtain⟨a,its,e,⟨o,ho,hc⟩,i⟩:=x;exact⟨a,its,e,⟨o,k a o ho,hc⟩,i⟩
theorem Zgu {its:List Value}{x:Int}{r:List Int}(h:IntsAre its (x::r)):∃t us,its=.int x t::us/\IntsAre us r:=by
 cases its with
 |nil=>have:=h.length;simp at this
 |cons v us=>
  cases h with
  |cons _ _ b=>exact⟨_,_,rfl,b⟩
theorem Zma {its:List Value}(h:IntsAre its []):its=[]:=by
 cases its with
 |nil=>rfl
 |cons v us=>have:=h.length;simp at this
section
variable {prog:Program}{w:World}{A:Around}{E:Value->Shared->Prop}{s:Shared}
theorem Zfv:∀(vs:List Value) (rs:List (List Int)) {Q:List (Option Value)->Shared->Prop},Paired (RowAt s.heap) vs rs →
  (∀fs:List (Option Value),Paired (λ(f:Option Value) (r:List Int)=>(r=[]/\f=none)\/∃x t l,r=x::l/\f=some (.int x t)) fs rs->Q fs s)->wpAny (model prog w) A (vs.mapM firstOfTuple') Q E s
 |[],[],_,_,h=>by rw[List.mapM_nil];exact wpAny_pure (h [] .nil)
 |v::vs,r::rs,Q,.cons p t,h=>by
  obtain⟨a,its,rfl,⟨o,ho,hc,n,hd⟩,hi⟩:=p;rw[List.mapM_cons];refine wpAny_bind ?_;rw[PySem.W.kas_first_eq];refine wpAny_bind<|PySem.W.Looks.here (show PySem.W.Looks (model prog w) s.heap (typeOf (.ref a)) o.cls from (PySem.W.Looks.ld ho).andThen .now) ?_;rw[hc,if_neg (by first|decide|simp)];refine wpAny_bind<|listItems_at ho hd<|wpAny_pure ?_;refine wpAny_bind (Zfv vs rs (Q:=λbs s'=>wpAny _ A (pure (its.toArray[0]?::bs)) Q E s') t λfs pf=>wpAny_pure<|h _ (.cons ?_ pf));cases r with
  |nil=>rw[Zma hi];exact .inl ⟨rfl,rfl⟩
  |cons x l=>
   obtain⟨t,us,rfl,_⟩:=Zgu hi;exact .inr ⟨x,t,l,rfl,by simp⟩
theorem Zn0 {vs:List Value}{rs:List (List Int)}(p:Paired (RowAt s.heap) vs rs):∀v∈vs,PySem.W.Looks (model prog w) s.heap (typeOf v) (.type "tuple"):=by
 intro v hv
 induction p with
 |nil=>cases hv
 |cons q t ih=>
  rcases Waq.mp hv with e|hv
  ·subst e
   obtain⟨a,its,rfl,⟨o,ho,hc,_⟩,_⟩:=q;have z:PySem.W.Looks (model prog w) s.heap (typeOf (.ref a)) o.cls:=(PySem.W.Looks.ld ho).andThen .now;rw[hc]at z;exact z
  ·exact ih hv
theorem Zoc {vs:List Value}{rs:List (List Int)}{Q:SortKind->Shared->Prop}(p:Paired (RowAt s.heap) vs ([]::rs)) (h:Q oneType' s):wpAny (model prog w) A (keyKind' vs.toArray) Q E s:=by
 have hT:=Zn0 (prog:=prog) (w:=w) p;rw[keyKind'_eq,Wev,map_eq_pure_bind];refine wpAny_bind<|wpAny_bind (Zfv vs _ p λfs pf=>wpAny_pure ?_);cases pf with
 |@cons f _ fs _ hf _=>
  have hf:f=none:=by
   rcases hf with z|⟨x,t,l,z,_⟩
   ·exact z.2
   ·cases z
  subst hf;rw[if_neg (by simp),if_neg (by simp)];rw[oneTypeOnly'_eq,Wev,map_eq_pure_bind];refine wpAny_bind<|wpAny_bind<|wpAny_bind<|PySem.W.kas_mapM (r:=.type "tuple") _ (λv hv Q' hq=>(hT v hv).here hq)<|wpAny_pure ?_;cases p with
  |@cons v _ vs _ _ _=>
   have hall:((Wbm (λ_=>Value.type "tuple") (v::vs)).toArray.all λx=>x == Value.type "tuple")=true:=by
    simp only[List.all_toArray,Wey,Wbi];intro _ _;exact(by decide:(Value.type "tuple" == Value.type "tuple")=true)
   have h0:(Wbm (λ_=>Value.type "tuple") (v::vs)).toArray[0]?=some (Value.type "tuple"):=by simp
   rw[h0];simp only[hall,if_true];exact wpAny_pure<|wpAny_pure h
theorem Zn4 {vs:List Value}{rs:List (List Int)}{Q:SortKind->Shared->Prop}(p:Paired (RowAt s.heap) vs rs) (hne:∀r∈rs,r≠[]) (h1:rs≠[]) (h:Q (tuples' true) s):wpAny (model prog w) A (keyKind' vs.toArray) Q E s:=by
 have ex:∃fs:List Value,PySem.W.KatTups s.heap vs fs/\fs.length=rs.length/\∀v∈fs,PySem.W.Looks (model prog w) s.heap (typeOf v) (.type "int"):=by
  clear h h1
  induction p with
  |nil=>exact⟨[],trivial,rfl,λ_ h=>nomatch h⟩
  |@cons v r vs rs q t ih=>
   obtain⟨fs,k1,k2,k3⟩:=ih λr hr=>hne r<|Wau _ hr;obtain⟨a,its,rfl,⟨o,ho,hc,n,hd⟩,hi⟩:=q;cases r with
   |nil=>exact absurd rfl (hne [] Wam)
   |cons x l=>
    obtain⟨tk,us,rfl,_⟩:=Zgu hi;refine⟨.int x tk::fs,.cons ho hc hd (by simp) k1,by rw[Wat,Wat,k2],λv hv=>?_⟩;rcases Waq.mp hv with e|hv
    ·subst e;exact .now
    ·exact k3 v hv
 obtain⟨fs,k1,k2,k3⟩:=ex;have hpos:0<rs.length:=Wdz.mpr h1;exact PySem.W.kat_kind k1 (by omega) k3 (by decide) h
end
section
variable {X:Cx}
def rInU (K:W.Frag) (neg:Bool):R2:=λx y H Q=>rIn K neg x y H Q\/(∃a o,y=.ref a/\DGet H a x o/\Q (.bl (if neg then !o.isSome else o.isSome)) H) ∨
 ∃a S n i,y=.ref a/\x=.int i/\H a=some (.set S n)/\Q (.bl (if neg then !S i else S i)) H
theorem inK (K:W.Frag) (hu:X.A.units+1<cLine) (hK:X.K=K:=by rfl):OpR X (compareOp .In) (rInU K false):=by
 subst hK;intro pins s σ H x y v u Q I rx ry h;rcases h with h|⟨a,o,rfl,hd,q⟩|⟨a,S,n,i,rfl,rfl,hs,q⟩
 ·exact Zpy pins s σ H x y v u Q I rx ry h
 ·cases ry
  exact d_in hu I hd rx λs' I'=>⟨.bl _,H,I',rfl,q⟩
 ·cases ry
  obtain⟨t,rfl⟩:=rx;exact wpAny_inSet_of (knd:=intKind X.prog X.w) (k:=i) (by simp[intKind,Value.isInt]) rfl (I.hok a _ hs) ⟨.bl _,H,I.tok _,rfl,q⟩
theorem notinK (K:W.Frag) (hu:X.A.units+1<cLine) (hK:X.K=K:=by rfl):OpR X (compareOp .NotIn) (rInU K true):=by
 subst hK;intro pins s σ H x y v u Q I rx ry h;rcases h with h|⟨a,o,rfl,hd,q⟩|⟨a,S,n,i,rfl,rfl,hs,q⟩
 ·exact Zld pins s σ H x y v u Q I rx ry h
 ·cases ry
  exact Zwa hu I hd rx λs' I'=>⟨.bl _,H,I',rfl,q⟩
 ·cases ry
  obtain⟨t,rfl⟩:=rx;exact wpAny_notInSet_of (knd:=intKind X.prog X.w) (k:=i) (by simp[intKind,Value.isInt]) rfl (I.hok a _ hs) ⟨.bl _,H,I.tok _,rfl,q⟩
def rSet0:List V->Hp->VK->Prop:=λxs H Q=>xs=[]/\∀p,H p=none->Q (.ref p) (upd H p (.set (λ_=>false) 0))
theorem Zqr:CallR X (.type "set") rSet0:=by
 intro pins s σ H xs us Q I r h;obtain⟨rfl,q⟩:=h;cases r;refine call_set_0 λled=>⟨.ref s.heap.objs.size,_,I.laid (t':=s.toks) (λ_ _ z=>Waf _ z) (Wak _) ?_,rfl,q _<|I.hok.fresh<|Wak _⟩;exact(setObjOf_fresh (knd:=intKind X.prog X.w) led).setOf (Wax _ rfl) (by decide)
def rSAdd:V->List V->Hp->VK->Prop:=λx vs H Q=>∃a S n i,x=.ref a/\vs=[.int i]/\H a=some (.set S n)/\n+1<4096/\Q .non (upd H a (.set (λk=>S k || decide (k=i)) (if S i then n else n+1)))
theorem Zv1:MtM X "set.add" rSAdd:=by
 intro pins s σ H x vs v us Q I rx rv h;obtain⟨a,S,n,i,rfl,rfl,hs,hn,q⟩:=h;cases rx;obtain⟨u,rfl,ru⟩:=rv.one;obtain⟨t,rfl⟩:=ru;have hS:s.heap.SetOf (intKind X.prog X.w) a S n:=I.hok a _ hs;refine call_set_add (knd:=intKind X.prog X.w) (k:=i) (by simp[intKind,Value.isInt]) rfl hS hn λh' sb hS'=>?_;refine⟨.non,_,Zmj I (by rw[hs];trivial) sb ?_ ?_,rfl,q⟩
 ·obtain⟨o,_,_,_,ho,_⟩:=hS';exact⟨o,ho⟩
 ·exact hS'
def rIndexL (K:W.Frag):V->List V->Hp->VK->Prop:=λx vs H Q=>∃(a:Addr) (ns:List Int) (i:Int),x=.ref a/\vs=[.int i]/\SqL K H a (ns.map V.int)/\ns.length<=1000/\i∈ns/\Q (.int (ns.idxOf i:Nat)) H
theorem idxLK (K:W.Frag) (hK:X.K=K:=by rfl):MtM X "list.index" (rIndexL K):=by
 subst hK;intro pins s σ H x vs v us Q I rx rv h;obtain⟨a,ns,i,rfl,rfl,hx,hl,hm,q⟩:=h;cases rx;obtain⟨u,rfl,ru⟩:=rv.one;obtain⟨t,rfl⟩:=ru;obtain⟨its,r,pl,hz⟩:=I.list hx;have hi:=Zdi r;have hlen:=hi.length;obtain⟨⟨cls,dd,data,sl⟩,ho,hc,n,hd⟩:=pl.isList;simp only at hc hd;subst hc hd;have hj:ns.idxOf i<ns.length:=List.idxOf_lt_length_iff.mpr hm;refine call_meets PySem.F.slot_list_index ⟨_,ho,rfl⟩ PySem.F.entry_list_index (PySem.F.args_list_index_2 _ _)
  (list_indexAt a its.toArray n dd sl (.int i t) (isInt i) (ns.idxOf i) (by simpa [hlen] using hj) (by omega) ?_ ?_) ⟨ho,λy hy=>(eq_isInt i t hi y (by simpa using hy)).at _ _,⟨.int _,H,I.tok _,⟨_,rfl⟩,q⟩⟩
 ·show isInt i its[ns.idxOf i]=true
  rw[isInt_at i hi _ (by omega) hj];simpa using List.getElem_idxOf hj
 ·intro j hjs hlt
  show isInt i its[j]=false;rw[isInt_at i hi j (by simpa using hjs) (by omega)];exact ne_of_lt_idxOf hlt _
theorem Zl6 {pins:List (Addr × Obj)}{σ:St}{H:Hp}{s:Shared}(I:Inv X pins σ H s):∀{us:List V}{its:List Value}{rs:List (List Int)},Vals us its->Paired (λ(u:V) (r:List Int)=>∃a,u=.ref a/\SqT X.K H a (r.map V.int)) us rs->Paired (RowAt s.heap) its rs
 |_,_,_,.nil,.nil=>.nil
 |_,_,_,.cons r t,.cons p q=>by
  obtain⟨a,rfl,hs⟩:=p;cases r;obtain⟨its,r',pl,_⟩:=I.tuple hs;exact .cons ⟨a,its,rfl,pl,Zdi r'⟩<|Zl6 I t q
theorem Paired.len {R:Value->List Int->Prop}:∀{vs:List Value}{rs:List (List Int)},Paired R vs rs->vs.length=rs.length
 |_,_,.nil=>rfl
 |_,_,.cons _ t=>by rw[Wat,Wat,Paired.len t]
theorem Paired.up {R R':Value->List Int->Prop}(f:∀v r,R v r->R' v r):∀{vs:List Value}{rs:List (List Int)},Paired R vs rs->Paired R' vs rs
 |_,_,.nil=>.nil
 |_,_,.cons p t=>.cons (f _ _ p) (Paired.up f t)
end
section
variable {K:W.Frag}{Δ:Evt}{P:D->Evt->Prop}
theorem Zk7 {G:Hp}{k:Key}:∀{kvs:List (Key × V)}{kds:List (Key × D)},Paired (λ(p:Key × V) (q:Key × D)=>p.1=q.1/\Rep K G p.2 q.2) kvs kds->(valV kvs k).isSome=(valD kds k).isSome
 |_,_,.nil=>rfl
 | (k1,v1)::kvs,(k2,d2)::kds,.cons ⟨e,r⟩ t=>by
  have e:k1=k2:=e;subst e;have ih:=Zk7 (k:=k) t;unfold valV valD at ih ⊢;by_cases h:k1=k
  ·rw[Wdq (by simpa using h),Wdq (by simpa using h)];rfl
  ·rw[Wcp (by simpa using h),Wcp (by simpa using h)];exact ih
theorem Zxe {neg:Bool}{n:Nat}{ta:TE}(h:JE K ta Δ λd Δ1=>∃x kvs i,Δ1[n]?=some x/\x.od=some (.dct kvs)/\d=.int i/\P (.bl (if neg then !(valD kvs (.inl i)).isSome else (valD kvs (.inl i)).isSome)) Δ1):JE K (tOp (rInU K neg) ta<|tVar n) Δ P:=λg G H σ Q k c=>
 h g G H σ _ k λv d G1 H1 Δ1 k1 s1 r1 hq_=>by
  obtain⟨x,kvs,i,q1,q2,q3,p⟩:=hq_;subst q3;cases r1.inv;obtain⟨a,o,w1,w2,w3,w4,w5⟩:=k1.own n x _ q1 q2;cases o with
  |dK vs=>
   refine⟨.ref a,w1,.inr (.inl ⟨a,_,rfl,DGet.k (k:=Sum.inl i) w2,?_⟩)⟩;rw[Zk7 (K:=K) (G:=G1) w3];exact c _ _ G1 H1 Δ1 k1 s1 (.bl _) p
  |_=>exact absurd w3 (λz=>z)
theorem Zyl {neg:Bool}{n:Nat}{ta:TE}(h:JE K ta Δ λd Δ1=>∃x S m i,Δ1[n]?=some x/\x.od=some (.set S m)/\d=.int i/\P (.bl (if neg then !S i else S i)) Δ1):JE K (tOp (rInU K neg) ta<|tVar n) Δ P:=λg G H σ Q k c=>
 h g G H σ _ k λv d G1 H1 Δ1 k1 s1 r1 hq_=>by
  obtain⟨x,S,m,i,q1,q2,q3,p⟩:=hq_;subst q3;cases r1.inv;obtain⟨a,o,w1,w2,w3,w4,w5⟩:=k1.own n x _ q1 q2;cases o with
  |set S' m'=>
   obtain⟨e1,e2⟩:S'=S/\m'=m:=w3;subst e1 e2;exact⟨.ref a,w1,.inr (.inr ⟨a,S',m',i,rfl,rfl,w2,c _ _ G1 H1 Δ1 k1 s1 (.bl _) p⟩)⟩
  |_=>exact absurd w3 (λz=>z)
theorem Znp (i:Int) (ns:List Int):inV (.int i) (ns.map V.int)=decide (i∈ns):=by
 unfold inV;rw[List.any_map]
 induction ns with
 |nil=>rfl
 |cons n ns ih=>
  rw[Wdf,ih];show ((n == i) || decide (i∈ns))=_;by_cases h:n=i
  ·subst h;simp
  ·rw[beq_eq_false_iff_ne.mpr h,Bool.false_or]
   have:(i∈n::ns)↔i∈ns:=by simp[Ne.symm h]
   exact decide_eq_decide.mpr this.symm
theorem Zlj (ns:List Int):(ns.map V.int).all flatV=true:=by rw[Wey];exact Wbi.mpr λ_ _=>rfl
theorem Zpi {neg:Bool}{i:Int}{ns:List Int}(p:P (.bl (if neg then !decide (i∈ns) else decide (i∈ns))) Δ):JR2 K (rInU K neg) (.int i) (.tup<|ns.map .int) Δ P:=λg G H σ Q x y k rx ry c=>by
 cases rx.inv;obtain⟨_,_,rfl,ha,rs⟩:=ry.inv
 next=>
  have ev:=rs.ints;subst ev;refine .inl ⟨_,_,rfl,.inr<|SqT.of<|k.live _ _ ha,rfl,Zlj ns,?_⟩;rw[Znp];exact c _ _ G H Δ k (Same.refl _) (.bl _) p
theorem Zt6 {neg:Bool}{i:Int}{ns:List Int}(p:P (.bl (if neg then !decide (i∈ns) else decide (i∈ns))) Δ):JR2 K (rInU K neg) (.int i) (.lst<|ns.map .int) Δ P:=λg G H σ Q x y k rx ry c=>by
 cases rx.inv;obtain⟨_,_,rfl,ha,rs⟩:=ry.inv
 next=>
  have ev:=rs.ints;subst ev;refine .inl ⟨_,_,rfl,.inl<|SqL.of<|k.live _ _ ha,rfl,Zlj ns,?_⟩;rw[Znp];exact c _ _ G H Δ k (Same.refl _) (.bl _) p
theorem Zvf {Po:OD->Evt->Prop}(p:Po (.set (λ_=>false) 0) Δ):JO K (tCB rSet0 tNil) Δ Po:=λg G H σ Q k c=>by
 refine⟨rfl,λl hl=>?_⟩;obtain⟨k2,pd⟩:=k.fresh (od:=.set (λ_=>false) 0) hl (show OwnRep K G (.set (λ_=>false) 0) (.set (λ_=>false) 0) from ⟨rfl,rfl⟩);exact c l _ G _ Δ k2 (Same.refl _) pd p
theorem Zvs {n:Nat}{te:TE}{x:Slot}{S0:Int->Bool}{n0:Nat}{nx bk ct:Evt->Prop}{rt:D->Evt->Prop}{ro:OD->Evt->Prop}(hx:Δ[n]?=some x) (ho:x.od=some (.set S0 n0))
  (h:JE K te Δ λd Δ1=>∃y S m i,Δ1[n]?=some y/\y.od=some (.set S m)/\d=.int i/\m+1<4096/\nx (Δ1.set n<|y.put (.set (λk=>S k || decide (k=i)) (if S i then m else m+1)))) :
  JS K (tDrop<|tBM K "set" rSAdd (tVar n)<|tCons te tNil) Δ ⟨nx,rt,bk,ct,ro⟩:=λg G H σ E k c=>by
 obtain⟨a,o,h1,h2,h3,h4,h5⟩:=k.own n x _ hx ho;cases o with
 |set S1 n1=>
  refine⟨.ref a,h1,.inr (.inr (.inr ⟨rfl,_,_,h2⟩)),h g G H σ _ k λv d G1 H1 Δ1 k1 s1 r1 ⟨y,S,m,i,q1,q2,q3,q4,p⟩=>?_⟩;subst q3;cases r1.inv;obtain⟨a',o',w1,w2,w3,w4,w5⟩:=k1.own n y _ q1 q2;rw[h1]at w1;cases w1;cases o' with
  |set S' m'=>
   obtain⟨e1,e2⟩:S'=S/\m'=m:=w3;subst e1 e2;exact⟨a,S',m',i,rfl,rfl,w2,q4,c.nx σ G1 _ _ (k1.write q1 q2 h1 (show OwnRep K G1 (.set _ _) (.set _ _) from ⟨rfl,rfl⟩)) p⟩
  |_=>exact absurd w3 (λz=>z)
 |_=>exact absurd h3 (λz=>z)
theorem Zh9 {to te:TE}(h:JE K to Δ λd Δ1=>∃ns:List Int,d=.lst (ns.map D.int)/\ns.length<=1000/\JE K te Δ1 λe Δ2=>∃i,e=.int i/\i∈ns/\P (.int (ns.idxOf i:Nat)) Δ2) :
  JE K (tBM K "list" (rIndexL K) to<|tCons te tNil) Δ P:=λg G H σ Q k c=>
 h g G H σ _ k λv d G1 H1 Δ1 k1 s1 r1 hq_=>by
  obtain⟨ns,e,hl,p1⟩:=hq_;subst e;obtain⟨a,vs,rfl,ha,rs⟩:=r1.inv
  next=>
   refine⟨.inl ⟨rfl,_,SqL.of<|k1.live _ _ ha⟩,p1 g G1 H1 σ _ k1 λu e G2 H2 Δ2 k2 s2 r2 ⟨i,q1,q2,p⟩=>?_⟩;subst q1;cases r2.inv;have ev:vs=ns.map V.int:=rs.ints;subst ev;exact⟨a,ns,i,rfl,rfl,SqL.of<|k2.live _ _<|s2 _ _ ha,hl,q2,c _ _ G2 H2 Δ2 k2 (s1.trans s2) (.int _) p⟩
def rowD (r:List Int):D:=.tup<|r.map D.int
theorem Zmr {G H:Hp}(l:Same G H):∀{vs:List V}{rs:List (List Int)},Reps K G vs (rs.map rowD)->Paired (λ(u:V) (r:List Int)=>∃a,u=.ref a/\SqT K H a (r.map V.int)) vs rs
 |[],[],_=>.nil
 |[],_::_,h=>by cases h
 |_::_,[],h=>by cases h
 |v::vs,r::rs,h=>by
  cases h with
  |cons r1 t=>
   obtain⟨a,us,rfl,ha,rr⟩:=r1.inv
   next=>
    have ev:=rr.ints;subst ev;exact .cons ⟨a,rfl,SqT.of<|l _ _ ha⟩<|Zmr l t
end
theorem Zka {A:Around}{k:Nat}(hr:Room k A):A.units+8<cLine:=Wcv (Nat.add_le_add_left (by decide:8<=64) _) hr.units
open PySem PySem.Spec PyProof.Rows PySem.SeqAt
def flatD:D->Option V
 |.non=>some .non
 |.bl b=>some (.bl b)
 |.int i=>some (.int i)
 |.str x=>some (.str x)
 |_=>none
def eqFlat (d e:D):Bool:=match flatD d,flatD e with
 |some x,some y=>eqV x y
 |_,_=>false
def eqF:Nat->D->D->Bool
 |0,_,_=>false
 |n+1,.tup xs,.tup ys=>xs.length == ys.length && (xs.zip ys).all λp=>eqF n p.1 p.2
 |n+1,.lst xs,.lst ys=>xs.length == ys.length && (xs.zip ys).all λp=>eqF n p.1 p.2
 |_+1,d,e=>eqFlat d e
def Dp:Nat->D->Prop
 |0,_=>False
 |_+1,.int _=>True
 |n+1,.tup xs=>∀d∈xs,Dp n d
 |n+1,.lst xs=>∀d∈xs,Dp n d
 |_,_=>False
theorem Rep.uniq {K:W.Frag}{G:Hp}:∀(n:Nat) {v:V}{d e:D},Rep K G v d->Rep K G v e->Dp n d->Dp n e->d=e
 |0,_,_,_,_,_,h,_=>h.elim
 |n+1,v,d,e,hd,he,pd,pe=>by
  have all:∀{vs:List V}{xs ys:List D},Reps K G vs xs->Reps K G vs ys->(∀d∈xs,Dp n d)->(∀d∈ys,Dp n d)->xs=ys:=by
   intro vs
   induction vs with
   |nil=>intro xs ys h1 h2 _ _;cases h1;cases h2;rfl
   |cons v vs ih=>
    intro xs ys h1 h2 p1 p2;cases h1 with
    |cons a1 b1=>
     cases h2 with
     |cons a2 b2=>
      rw[Rep.uniq n a1 a2 (p1 _ Wam) (p2 _ Wam),ih b1 b2 (λd hd=>p1 d<|Wau _ hd) λd hd=>p2 d (Wau _ hd)]
  cases d with
  |int i=>cases hd;cases he;rfl
  |tup xs=>
   cases hd with
   |tup ha ra=>
    cases e with
    |tup ys=>cases he with|tup hb rb=>rw[ha]at hb;cases hb;rw[all ra rb pd pe]
    |lst ys=>cases he with|lst hb rb=>rw[ha]at hb;cases hb
    |int i=>cases he
    |_=>exact pe.elim
  |lst xs=>
   cases hd with
   |lst ha ra=>
    cases e with
    |lst ys=>cases he with|lst hb rb=>rw[ha]at hb;cases hb;rw[all ra rb pd pe]
    |tup ys=>cases he with|tup hb rb=>rw[ha]at hb;cases hb
    |int i=>cases he
    |_=>exact pe.elim
  |_=>exact pd.elim
theorem Zji:∀(n:Nat) (d:D),Dp n d->eqF n d d=true
 |0,_,h=>h.elim
 |n+1,.int i,_=>by show (i == i)=true;simp
 |n+1,.tup xs,h=>by
  show (xs.length == xs.length && (xs.zip xs).all λp=>eqF n p.1 p.2)=true;rw[beq_self_eq_true,Wcu,Wbi];intro p hp;obtain⟨i,hi⟩:=Wbx.mp hp;rw[Wce]at hi;have e:p.1=p.2:=Wba.inj<|hi.1.symm.trans hi.2;rw[<- e];exact Zji n _<|h _<|Way hi.1
 |n+1,.lst xs,h=>by
  show (xs.length == xs.length && (xs.zip xs).all λp=>eqF n p.1 p.2)=true;rw[beq_self_eq_true,Wcu,Wbi];intro p hp;obtain⟨i,hi⟩:=Wbx.mp hp;rw[Wce]at hi;have e:p.1=p.2:=Wba.inj<|hi.1.symm.trans hi.2;rw[<- e];exact Zji n _<|h _<|Way hi.1
 |_+1,.non,h=>h.elim
 |_+1,.bl _,h=>h.elim
 |_+1,.str _,h=>h.elim
 |_+1,.ty _,h=>h.elim
 |_+1,.scr _,h=>h.elim
 |_+1,.adr _,h=>h.elim
 |_+1,.dct _ _,h=>h.elim
 |_+1,.exc _ _,h=>h.elim
def atZip (n:Nat) (xs ys:List D) (j:Nat):Bool:=match xs[j]?,ys[j]? with
 |some a,some b=>eqF n a b
 |_,_=>false
theorem Zme (n:Nat):∀(xs ys:List D),(Wap<|min xs.length ys.length).all (atZip n xs ys)=(xs.zip ys).all λp=>eqF n p.1 p.2
 |[],ys=>by simp
 |_::_,[]=>by simp
 |x::xs,y::ys=>by
  rw[Wat,Wat,Nat.succ_min_succ,List.range_succ_eq_map,Wd6,Wey,Wc9,Wd6,<- Zme n xs ys];rfl
section
variable {X:Cx}
theorem Zua:∀(n:Nat) {A:Around}{pins:List (Addr × Obj)}{σ:St}{H G:Hp}{s:Shared}{x y:V}{v u:Value}{d e:D},Inv X pins σ H s->Same G H->Rep X.K G x d->Rep X.K G y e->RelV x v->RelV y u->Dp n d->Dp n e->A.units+n<cLine →
  EqAt A s v u (eqF n d e)/\(∀a b,v=.ref a->u=.ref b->RcAt A s v u (eqF n d e))
 |0,_,_,_,_,_,_,_,_,_,_,_,_,_,_,_,_,_,_,h,_,_=>h.elim
 |n+1,A,pins,σ,H,G,s,x,y,v,u,d,e,I,sg,rx,ry,rv,ru,pd,pe,hu=>by
  have hu0:A.units<cLine:=by omega
  have hu1:A.in1.units+n<cLine:=by show A.units+1+n<cLine;omega
  have items:∀{vs us:List V}{its its2:List Value}{xs ys:List D},Vals vs its->Vals us its2->Reps X.K G vs xs->Reps X.K G us ys->(∀d∈xs,Dp n d)->(∀d∈ys,Dp n d) →
    ∀j (h1:j<its.toArray.size) (h2:j<its2.toArray.size),EqAt A.in1 s its.toArray[j] its2.toArray[j] (atZip n xs ys j):=by
   intro vs us its its2 xs ys w1 w2 r1 r2 p1 p2 j h1 h2;have l1:=w1.length;have l2:=r1.length;have l3:=w2.length;have l4:=r2.length;have h1':j<its.length:=by simpa using h1
   have h2':j<its2.length:=by simpa using h2
   have hx:j<xs.length:=by omega
   have hy:j<ys.length:=by omega
   obtain⟨a,ha1,ha2⟩:=r1.get<|Waa hx;obtain⟨b,hb1,hb2⟩:=r2.get<|Waa hy;obtain⟨va,hv1,hv2⟩:=w1.get ha1;obtain⟨vb,hw1,hw2⟩:=w2.get hb1;have e1:its.toArray[j]=va:=by
    rw[Waa h1']at hv1;simpa using Wba.inj hv1
   have e2:its2.toArray[j]=vb:=by
    rw[Waa h2']at hw1;simpa using Wba.inj hw1
   have e3:atZip n xs ys j=eqF n xs[j] ys[j]:=by unfold atZip;rw[Waa hx,Waa hy]
   rw[e1,e2,e3];exact(Zua n I sg ha2 hb2 hv2 hw2 (p1 _<|Wa0 hx) (p2 _<|Wa0 hy) hu1).1
  have same:∀a,v=.ref a->u=.ref a->eqF (n+1) d e=true:=λa h1 h2=>by
   have hx:x=.ref a:=by cases x <;> simp[RelV,h1]at rv <;> first|(rw[rv])|skip
   have hy:y=.ref a:=by cases y <;> simp[RelV,h2]at ru <;> first|(rw[ru])|skip
   rw[hx]at rx;rw[hy]at ry;rw[Rep.uniq (n+1) rx ry pd pe];exact Zji (n+1) e pe
  have lift:(∃a,v=.ref a)->(∃b,u=.ref b)->(∀a b,v=.ref a->u=.ref b->RcAt A s v u (eqF (n+1) d e))->EqAt A s v u (eqF (n+1) d e)/\(∀a b,v=.ref a->u=.ref b->RcAt A s v u (eqF (n+1) d e)):=by
   rintro⟨a,rfl⟩ ⟨b,rfl⟩ h;refine⟨?_,h⟩;by_cases hab:a=b
   ·subst hab
    rw[same a rfl rfl];exact EqAt.same _
   ·exact .of_refs hab<|h a b rfl rfl
  cases d with
  |int i=>
   cases rx;obtain⟨t,rfl⟩:=rv;refine⟨?_,λa b z=>nomatch z⟩;cases e with
   |int j=>
    cases ry;obtain⟨t',rfl⟩:=ru;exact EqAt.int_int i t j t'
   |tup ys=>
    cases ry with
    |tup hb rb=>
     cases ru;obtain⟨its,w1,pl,_⟩:=I.tuple<|SqT.of<|sg _ _ hb;exact EqAt.int_tuple i t pl hu0
   |lst ys=>
    cases ry with
    |lst hb rb=>
     cases ru;obtain⟨its,w1,pl,_⟩:=I.list<|SqL.of<|sg _ _ hb;exact EqAt.int_list i t pl.isList hu0
   |_=>exact pe.elim
  |tup xs=>
   cases rx with
   |@tup a vs _ ha ra=>
    cases rv;obtain⟨its,w1,pl,_⟩:=I.tuple<|SqT.of<|sg _ _ ha;cases e with
    |int j=>
     cases ry;obtain⟨t',rfl⟩:=ru;exact⟨EqAt.tuple_int j t' pl hu0,λa b _ z=>nomatch z⟩
    |tup ys=>
     cases ry with
     |@tup b us _ hb rb=>
      cases ru;obtain⟨its2,w2,pl2,_⟩:=I.tuple<|SqT.of<|sg _ _ hb;refine lift ⟨_,rfl⟩ ⟨_,rfl⟩ λ_ _ _ _=>?_;have z:=RcAt.tuples (A:=A) (s:=s) pl pl2 hu0<|items w1 w2 ra rb pd pe;have e1:((Wap<|min its.toArray.size its2.toArray.size).all (atZip n xs ys) && its.toArray.size == its2.toArray.size)=eqF (n+1) (.tup xs) (.tup ys):=by
       show _=(xs.length == ys.length && (xs.zip ys).all λp=>eqF n p.1 p.2);rw[<- Zme,Waj,Waj,<- w1.length,<- w2.length,ra.length,rb.length,Wd8]
      rw[e1]at z;exact z
    |lst ys=>
     cases ry with
     |@lst b us _ hb rb=>
      cases ru;obtain⟨its2,w2,pl2,_⟩:=I.list<|SqL.of<|sg _ _ hb;exact⟨EqAt.tuple_list pl pl2.isList hu0,λ_ _ _ _=>RcAt.tuple_list pl pl2.isList hu0⟩
    |_=>exact pe.elim
  |lst xs=>
   cases rx with
   |@lst a vs _ ha ra=>
    cases rv;obtain⟨its,w1,pl,_⟩:=I.list<|SqL.of<|sg _ _ ha;cases e with
    |int j=>
     cases ry;obtain⟨t',rfl⟩:=ru;exact⟨EqAt.list_int j t' pl.isList hu0,λa b _ z=>nomatch z⟩
    |tup ys=>
     cases ry with
     |@tup b us _ hb rb=>
      cases ru;obtain⟨its2,w2,pl2,_⟩:=I.tuple<|SqT.of<|sg _ _ hb;exact⟨EqAt.list_tuple pl.isList pl2 hu0,λ_ _ _ _=>RcAt.list_tuple pl.isList pl2 hu0⟩
    |lst ys=>
     cases ry with
     |@lst b us _ hb rb=>
      cases ru;obtain⟨its2,w2,pl2,_⟩:=I.list<|SqL.of<|sg _ _ hb;refine lift ⟨_,rfl⟩ ⟨_,rfl⟩ λ_ _ _ _=>?_;have l1:=w1.length;have l2:=w2.length;have l3:=ra.length;have l4:=rb.length;by_cases hl:xs.length=ys.length
      ·have hsz:its.toArray.size=its2.toArray.size:=by rw[Waj,Waj];omega
       have z:=RcAt.lists (A:=A) (s:=s) pl.isList pl2.isList hsz hu0<|items w1 w2 ra rb pd pe;have e1:(Wap its.toArray.size).all (atZip n xs ys)=eqF (n+1) (.lst xs) (.lst ys):=by
        show _=(xs.length == ys.length && (xs.zip ys).all λp=>eqF n p.1 p.2);rw[<- Zme,Waj,hl,beq_self_eq_true,Wcu,We0,show its.length=ys.length by omega]
       rw[e1]at z;exact z
      ·have z:=RcAt.lists_lengths (A:=A) (s:=s) pl.isList pl2.isList (by rw[Waj,Waj];simp;omega) hu0
       have e1:eqF (n+1) (.lst xs) (.lst ys)=false:=by
        show (xs.length == ys.length && (xs.zip ys).all λp=>eqF n p.1 p.2)=false;rw[beq_eq_false_iff_ne.mpr hl,Wcx]
       rw[e1];exact z
    |_=>exact pe.elim
  |_=>exact pd.elim
def rEqD (K:W.Frag):R2:=λx y H Q=>∃G d e n,Same G H/\Rep K G x d/\Rep K G y e/\Dp n d/\Dp n e/\n<=5/\(∃a,x=.ref a)/\(∃b,y=.ref b)/\Q (.bl<|eqF n d e) H
theorem eqDK (K:W.Frag) (hv:X.A.units+8<cLine) (hK:X.K=K:=by rfl):OpR X (compareOp .Eq) (rEqD K):=by
 subst hK;intro pins s σ H x y v u Q I rx ry h;obtain⟨G,d,e,n,sg,r1,r2,p1,p2,hn,⟨a,rfl⟩,⟨b,rfl⟩,q⟩:=h;cases rx;cases ry;exact(Zua n I sg r1 r2 rfl rfl p1 p2 (A:=X.A)<|by omega).2 a b rfl rfl X.prog X.w _ _ ⟨.bl _,H,I,rfl,q⟩
theorem Zfq:∀{vs:List Value}{ns:List Int},vs.length=ns.length->(∀(i:Nat) v,vs[i]?=some v->∃t,v=.int (ns.getD i 0) t)->IntsAre vs ns
 |[],[],_,_=>.nil
 |[],_::_,h,_=>by simp at h
 |_::_,[],h,_=>by simp at h
 |v::vs,n::ns,h,g=>by
  obtain⟨t,rfl⟩:=g 0 v rfl;exact .cons n t (Zfq (by simpa using h) λi u e=>by simpa using g (i+1) u (by simpa using e))
def tLR (ta:TA):TE:=λσ H Q=>ta σ H λvs H1=>∃n:Nat,vs=[.int (n:Int)]/\n<=1000/\∀l,H1 l=none->Q (.ref l) (upd H1 l (.lst ((Wap n).map λi:Nat=>V.int (i:Int))))
theorem Zgy {a:Expr}{ta:TA}{p p2 pos pos2:Pos}(hc:X.calm=true) (hgL:Gl X "list") (hmL:X.mg "list" = none) (hgR:Gl X "range") (hmR:X.mg "range" = none) (ha:PA X [a] ta) (hs:starEach [a] X.env=[(false,eval a X.env)]:=by rfl)
  (he:starEach [.Call (.Name "range" p2) [a] [] pos2] X.env=[(false,eval (.Call (.Name "range" p2) [a] [] pos2) X.env)]:=by rfl) :
  PE X (.Call (.Name "list" p) [.Call (.Name "range" p2) [a] [] pos2] [] pos) (tLR ta):=by
 intro pins s σ H Q I h;refine wpAny_Call_Name_kw<|Zgc I hgL hmL Zjk ?_;refine PyProof.Rows.callWith_type1 ?_ he rfl;rw[he];show wpAny _ _ (spliced ((false,eval (.Call (.Name "range" p2) [a] [] pos2) X.env)::backTo pos [])) _ _ s;refine Calls.spliced_cons ?_;refine Call_<|Zgc I hgR hmR boot_range<|PyProof.Rows.callWith_type1 (thn (ha pos2 pins s σ H _ I h) λus s1 ⟨vs,H1,I1,r1,q1⟩=>?_) hs rfl;obtain⟨n,e,hn,q⟩:=q1;subst e;cases r1 with
 |cons r rr=>
  cases rr;obtain⟨t,rfl⟩:=r;refine call_range_1<|Calls.spliced_nil ?_;have I2:Inv X pins σ H1 { s1 with heap:=s1.heap.push { cls:=.type "range",data:=.fields #[.int 0 s1.toks,.int (n:Int) t,.int 1 (s1.toks+1)] },toks:=s1.toks+1+1 }:=I1.kept λb o e=>Waf _ e;refine call_list_range (a:=0) (b:=(n:Int)) (c:=1) (n:=n) (I1.ok.hd hc) (IsRange.new ..) (small_one (by decide) (by decide) (by omega)<|by omega) (by rw[rangeSize_one];split <;> omega) (by omega) λh' tk acc c' hk hD hI=>?_
  have hl:acc.size=n:=hI.1;refine⟨.ref _,_,I2.laid (t':=tk) hk (Wak _) (show ObjOk X.prog X.w _ h' _ (.lst ((Wap n).map λi:Nat=>V.int (i:Int))) from ⟨?_,acc.toList,c',?_,?_⟩),rfl,q _<|I2.hok.fresh<|Wak _⟩
  ·rw[Wab,Wbq];exact Wb0<|small1000 hn
  ·have:IntsAre acc.toList ((Wap n).map λi:Nat=>(i:Int)):=by
    refine Zfq (by rw[Array.length_toList,hl,Wab,Wbq]) λi v e=>?_;have hi:i<n:=by
     have:=(Wah.mp e).1;rw[Array.length_toList,hl]at this;exact this
    obtain⟨t',rfl⟩:=hI.2 i v (by rw[<- Array.getElem?_toList];exact e);refine⟨t',?_⟩;rw[Wac,Wad,Wc3 hi];show Value.int (0+(i:Int)*1) t'=Value.int (i:Int) t';rw[Wb1,Int.mul_one]
   have:=Zfc this;rw[Wbb]at this;exact this
  ·rw[Array.toArray_toList];exact hD
end
section
variable {K:W.Frag}{Δ:Evt}{P:D->Evt->Prop}
def isSeqD:D->Bool
 |.tup _=>true
 |.lst _=>true
 |_=>false
theorem Zq3 {G:Hp}{x:V}{d:D}(r:Rep K G x d) (h:isSeqD d=true):∃a,x=.ref a:=by
 cases r with
 |tup _ _=>exact⟨_,rfl⟩
 |lst _ _=>exact⟨_,rfl⟩
 |_=>cases h
theorem Zyd {n:Nat}{d e:D}(hn:n<=5) (pd:Dp n d) (pe:Dp n e) (sd:isSeqD d=true) (se:isSeqD e=true) (p:P (.bl<|eqF n d e) Δ):JR2 K (rEqD K) d e Δ P:=λg G H σ Q x y k rx ry c=>
 ⟨G,d,e,n,k.live,rx,ry,pd,pe,hn,Zq3 rx sd,Zq3 ry se,c _ _ G H Δ k (Same.refl _) (.bl _) p⟩
theorem Zy5 {ta:TA}{Po:OD->Evt->Prop}(h:JA K ta Δ λds Δ1=>∃n:Nat,ds=[.int (n:Int)]/\n<=1000/\Po (.lst ((Wap n).map λi:Nat=>D.int (i:Int))) Δ1):JO K (tLR ta) Δ Po:=λg G H σ Q k c=>
 h g G H σ _ k λvs ds G1 H1 Δ1 k1 s1 r1 hq_=>by
  obtain⟨n,e,hl,p⟩:=hq_;subst e;obtain⟨_,_,rfl,r,t⟩:=r1.inv
  next=>
   cases t.inv;cases r.inv;refine⟨n,rfl,hl,λl hl=>?_⟩;obtain⟨k2,pd⟩:=k1.fresh (od:=.lst ((Wap n).map λi:Nat=>D.int (i:Int))) hl (show OwnRep K G1 (.lst ((Wap n).map λi:Nat=>V.int (i:Int))) (.lst ((Wap n).map λi:Nat=>D.int (i:Int))) from by
    have:=Reps.ofInts (K:=K) (G:=G1) ((Wap n).map λi:Nat=>(i:Int));rw[Wbb,Wbb]at this;exact this)
   exact c l _ G1 _ Δ1 k2 s1 pd p
end
open PySem PySem.Spec PyProof.Rows PySem.SeqAt
def Ris (xs:Array Nat):Prop:=∀(i j a b:Nat),i<j->xs[i]?=some a->xs[j]?=some b->a<b
theorem Zjx (xs:Array Nat) (R:Ris xs) (j:Nat):∀(fuel lo hi:Nat),hi-lo<=fuel->lo<=hi->hi<=xs.size->(∀(i a:Nat),i<lo->xs[i]?=some a->a<j)->(∀(i a:Nat),hi<=i->xs[i]?=some a->j<=a) →
  SetTable.below.go xs j fuel lo hi<=xs.size/\(∀(i a:Nat),i<SetTable.below.go xs j fuel lo hi->xs[i]?=some a->a<j)/\∀(i a:Nat),SetTable.below.go xs j fuel lo hi<=i->xs[i]?=some a->j<=a
 |0,lo,hi,h1,h2,h3,h4,h5=>by
  have:lo=hi:=by omega
  subst this;show lo<=xs.size/\_;exact⟨h3,h4,h5⟩
 |fuel+1,lo,hi,h1,h2,h3,h4,h5=>by
  unfold SetTable.below.go;by_cases hlt:lo<hi
  ·rw[if_pos hlt]
   dsimp only;have hm:(lo+hi) / 2<xs.size:=by omega
   have hg:xs.getD ((lo+hi) / 2) j=xs[(lo+hi) / 2]:=by simp[Array.getD,hm]
   by_cases hc:xs.getD ((lo+hi) / 2) j<j
   ·rw[if_pos hc]
    refine Zjx xs R j fuel _ _ (by omega) (by omega) h3 (λi a hi' e=>?_) h5;by_cases hi2:i=(lo+hi) / 2
    ·subst hi2
     rw[Array.getElem?_eq_getElem hm]at e;cases e;omega
    ·have:=R i ((lo+hi) / 2) a _ (by omega) e (Array.getElem?_eq_getElem hm)
     omega
   ·rw[if_neg hc]
    refine Zjx xs R j fuel _ _ (by omega) (by omega) (by omega) h4 λi a hi' e=>?_;by_cases hi2:i=(lo+hi) / 2
    ·subst hi2
     rw[Array.getElem?_eq_getElem hm]at e;cases e;omega
    ·have:=R ((lo+hi) / 2) i _ a (by omega) (Array.getElem?_eq_getElem hm) e
     omega
  ·rw[if_neg hlt]
   have:lo=hi:=by omega
   subst this;exact⟨h3,h4,h5⟩
theorem Zis {xs:Array Nat}(R:Ris xs) (j:Nat):SetTable.below xs j<=xs.size/\(∀(i a:Nat),i<SetTable.below xs j->xs[i]?=some a->a<j)/\∀(i a:Nat),SetTable.below xs j<=i->xs[i]?=some a->j<=a:=
 Zjx xs R j xs.size 0 xs.size (by omega) (Wcl _) (Wak _) (λi a h=>by omega) λi a h e=>by
  have:=(Array.getElem?_eq_some_iff.mp e).1;omega
theorem Zjq {α:Type}(xs:Array α) (p:Nat) (x:α) (h:p<=xs.size):(SetTable.insertAt xs p x).toList=xs.toList.take p++x::xs.toList.drop p:=by
 unfold SetTable.insertAt;rw[Array.toList_append,Array.toList_push,Array.toList_extract,Array.toList_extract];simp[List.extract_eq_take_drop,Wbe];rw[Wc8 (by simp)]
theorem Zkv {α:Type}(xs:Array α) (p:Nat) (x:α) (h:p<=xs.size) (i:Nat):(SetTable.insertAt xs p x)[i]?=if i<p then xs[i]? else if i=p then some x else xs[i-1]?:=by
 rw[<- Array.getElem?_toList,Zjq xs p x h];by_cases h1:i<p
 ·rw[if_pos h1,Wbc (by rw[Wa5,Array.length_toList];omega),Wd3 h1,Array.getElem?_toList]
 ·rw[if_neg h1,Wa1 (by rw[Wa5,Array.length_toList];omega),Wa5,Array.length_toList,Wei h]
  by_cases h2:i=p
  ·rw[if_pos h2,h2,Weg];rfl
  ·rw[if_neg h2,show i-p=(i-1-p)+1 by omega,List.getElem?_cons_succ,Wdb,Array.getElem?_toList,show p+(i-1-p)=i-1 by omega]
theorem Zwt {xs:Array Nat}(R:Ris xs) {j:Nat}(hj:xs[SetTable.below xs j]?≠some j):Ris (SetTable.insertAt xs (SetTable.below xs j) j):=by
 obtain⟨b1,b2,b3⟩:=Zis R j;have b4:∀(i a:Nat),SetTable.below xs j<=i->xs[i]?=some a->j<a:=λi a h e=>by
  have h1:=b3 i a h e;by_cases hi:i=SetTable.below xs j
  ·subst hi
   rcases Nat.lt_or_eq_of_le h1 with z|z
   ·exact z
   ·subst z;exact absurd e hj
  ·obtain⟨s1,s2⟩:=Array.getElem?_eq_some_iff.mp e
   have hlt:SetTable.below xs j<xs.size:=by omega
   have h2:=b3 _ _ (Wak _)<|Array.getElem?_eq_getElem hlt;have:=R (SetTable.below xs j) i _ a (by omega) (Array.getElem?_eq_getElem hlt) e;omega
 intro i k a b hik ha hb;rw[Zkv _ _ _ b1]at ha hb;split at ha
 ·split at hb
  ·exact R i k a b hik ha hb
  ·split at hb
   ·cases hb;exact b2 i a (by omega) ha
   ·exact R i (k-1) a b (by omega) ha hb
 ·split at ha
  ·cases ha
   rw[if_neg (by omega),if_neg (by omega)]at hb;exact b4 (k-1) b (by omega) hb
  ·rw[if_neg (by omega),if_neg (by omega)]at hb
   exact R (i-1) (k-1) a b (by omega) ha hb
theorem Zvy:Ris #[]:=λi j a b _ e=>by simp at e
theorem Zqf (n:Nat):Ris (Array.range n):=λi j a b h e1 e2=>by
 simp[Array.getElem?_range]at e1 e2;omega
structure TabOk (led:Bool) (t:SetTable):Prop where
 led:t.led=led
 dum:t.dummies = #[]
 ris:Ris t.place
theorem TabOk.fresh (led:Bool):TabOk led (SetTable.fresh 0 0 led):=⟨rfl,rfl,Zvy⟩
theorem TabOk.standIn {led:Bool}{t:SetTable}(h:TabOk led t) (n:Nat):TabOk led (t.standIn n):=⟨h.led,rfl,Zqf n⟩
theorem Zpg (j:Nat):SetTable.has #[] j=false:=by unfold SetTable.has;simp
theorem Zhq {t:SetTable}(hd:t.dummies = #[]) {hashAt:Nat->Int}{h:Int}:∀(fuel:Nat) (p:SetTable.Probe) {j:Nat}{dm:Option Nat},p.dummy=none->SetTable.probe.go t hashAt h fuel p=some (.empty j dm)->dm=none/\t.place[SetTable.below t.place j]?≠some j
 |0,_,_,_,_,e=>by cases e
 |fuel+1,p,j,dm,hp,e=>by
  unfold SetTable.probe.go at e;have adv:(t.advance p).dummy=none:=by unfold SetTable.advance;split <;> exact hp
  unfold SetTable.slot at e;dsimp only at e;by_cases hl:(t.place[SetTable.below t.place p.j]? == some p.j)=true
  ·rw[if_pos hl]at e
   dsimp only at e;split at e
   ·cases e
   ·exact Zhq hd fuel _ adv e
  ·rw[if_neg hl,hd,Zpg]at e
   simp only[Wbh,if_false]at e;injection e with e
   injection e with e1 e2
   subst e1 e2;exact⟨hp,λz=>hl (by rw[z];simp)⟩
theorem TabOk.put {led:Bool}{t:SetTable}(h:TabOk led t) {j:Nat}(hj:t.place[SetTable.below t.place j]?≠some j):TabOk led (t.put j).1:=by
 refine⟨h.led,?_,Zwt h.ris hj⟩;show (if SetTable.has t.dummies j=true then _ else t.dummies) = #[];rw[h.dum,Zpg];rfl
theorem TabOk.layNew {led:Bool}{t:SetTable}(h:TabOk led t) (es:Array (Int × Value)) (hs:Int) (x:Value):TabOk led (layNew t es hs x).2.1:=by
 unfold PySem.layNew;unfold SetTable.freeSlot;cases q:t.probe (λ_=>hs+1) hs (t.probeStart hs) with
 |none=>exact h.standIn _
 |some m=>
  cases m with
  |candidate j i p=>exact h.standIn _
  |empty j dm=>
   obtain⟨e1,e2⟩:=Zhq h.dum _ (t.probeStart hs) rfl (show SetTable.probe.go t (λ_=>hs+1) hs (10*SetTable.turns t.mask) (t.probeStart hs)=some (.empty j dm) from q);subst e1;show TabOk led ((t.put j).1.orStandIn _);unfold SetTable.orStandIn;split
   ·exact h.put e2
   ·exact(h.put e2).standIn _
theorem Zsn (owner:Array (Option Nat)) (m:Nat):Ris ((((Wap m).filterMap λj=>(owner.getD j none).map (j,·)).map (·.1)).toArray):=by
 have pw:((Wap m).filterMap λj=>(owner.getD j none).map (j,·)).Pairwise (λa b=>a.1<b.1):=by
  rw[List.pairwise_filterMap];refine List.Pairwise.imp ?_ Wci;intro a b hab c hc d hd;cases qa:owner.getD a none with
  |none=>rw[qa]at hc;cases hc
  |some k=>
   cases qb:owner.getD b none with
   |none=>rw[qb]at hd;cases hd
   |some l=>
    rw[qa]at hc;rw[qb]at hd;have hc:(a,k)=c:=by simpa using hc
    have hd:(b,l)=d:=by simpa using hd
    subst hc hd;exact hab
 intro i j a b hij ea eb;rw[Wde,Wad]at ea eb;cases qa:((Wap m).filterMap λj=>(owner.getD j none).map (j,·))[i]? with
 |none=>rw[qa]at ea;cases ea
 |some c=>
  cases qb:((Wap m).filterMap λj=>(owner.getD j none).map (j,·))[j]? with
  |none=>rw[qb]at eb;cases eb
  |some d=>
   rw[qa]at ea;rw[qb]at eb;have ea:c.1=a:=by simpa using ea
   have eb:d.1=b:=by simpa using eb
   subst ea eb;obtain⟨i1,i2⟩:=Wah.mp qa;obtain⟨j1,j2⟩:=Wah.mp qb;have:=Wb2.mp pw i j i1 j1 hij;rw[i2,j2]at this;exact this
theorem TabOk.relay {led:Bool}{t:SetTable}(h:TabOk led t) (es:Array (Int × Value)) (wanted:Nat):TabOk led (relayAll t es wanted).2.1:=by
 unfold PySem.relayAll;cases q:t.relaid (es.map (·.1)) wanted with
 |none=>exact h.standIn _
 |some r=>
  obtain⟨t',order⟩:=r;dsimp only;split
  ·unfold SetTable.relaid SetTable.laid at q
   cases q2:SetTable.layClean (SetTable.sizeAbove wanted-1) (es.map (·.1)) with
   |none=>rw[q2]at q;cases q
   |some owner=>
    rw[q2]at q;have q:_=some (t',order):=q;have e:=congrArg Prod.fst<|Wba.inj q;dsimp only at e;rw[<- e];exact⟨h.led,rfl,Zsn owner _⟩
  ·exact h.standIn _
def numOf:Value->Int
 |.int i _=>i
 |_=>0
section
variable {prog:Program}{w:World}
def byTextB (w:World):Bool:=w.params.followText "set-order"
structure SetG (prog:Program) (w:World) (h:Heap) (a:Addr) (o:Obj) (es:Array (Int × Value)) (ep:Nat) (t:SetTable) (ks:List Int):Prop where
 get:h.get? a=some o
 ex:o.ExactSet
 dat:o.data=.set es ep t
 el:ElemsOf (intKind prog w) es.toList
 room:es.size<scanBound
 fit:t.fits es.size=true
 tab:TabOk (!byTextB w) t
 perm:(es.toList.map λe=>numOf e.2).Perm ks
 nd:ks.Nodup
def SetI (prog:Program) (w:World) (h:Heap) (a:Addr) (ks:List Int):Prop:=∃o es ep t,SetG prog w h a o es ep t ks
theorem SetI.keep {h h':Heap}{a:Addr}{ks:List Int}(x:SetI prog w h a ks) (k:∀o,h.get? a=some o->h'.get? a=some o):SetI prog w h' a ks:=by
 obtain⟨o,es,ep,t,g⟩:=x;exact⟨o,es,ep,t,k _ g.get,g.ex,g.dat,g.el,g.room,g.fit,g.tab,g.perm,g.nd⟩
theorem SetG.size {h:Heap}{a:Addr}{o:Obj}{es:Array (Int × Value)}{ep:Nat}{t:SetTable}{ks:List Int}(g:SetG prog w h a o es ep t ks):es.size=ks.length:=by
 have:=g.perm.length_eq;rw[Wab,Array.length_toList]at this;exact this
theorem Zkt {k:Int}{v:Value}(h:(intKind prog w).is k v=true):numOf v=k/\∃t,v=.int k t:=by
 obtain⟨t,rfl⟩:=Value.isInt_shape (show Value.isInt k v=true from h);exact⟨rfl,t,rfl⟩
theorem Zm4 {es:List (Int × Value)}(h:ElemsOf (intKind prog w) es) {e:Int × Value}(he:e∈es):∃t,e.2=.int (numOf e.2) t:=by
 obtain⟨⟨k,hk,_⟩,_⟩:=h e he;obtain⟨h1,t,h2⟩:=Zkt hk;exact⟨t,by rw[h2];rfl⟩
theorem Zqy {es:List (Int × Value)}(h:ElemsOf (intKind prog w) es) {k:Int}:(∃e∈es,(intKind prog w).is k e.2=true)↔k∈es.map λe=>numOf e.2:=by
 rw[Wa3];constructor
 ·rintro⟨e,he,hp⟩;exact⟨e,he,(Zkt hp).1⟩
 ·rintro⟨e,he,rfl⟩
  obtain⟨t,ht⟩:=Zm4 h he;exact⟨e,he,by rw[ht];exact intKind_is _ _ _ _⟩
section
variable {A:Around}{E:Value->Shared->Prop}{s:Shared}
theorem SetG.store {h:Heap}{a:Addr}{o:Obj}{es:Array (Int × Value)}{ep:Nat}{t:SetTable}{ks:List Int}(g:SetG prog w h a o es ep t ks) {es':Array (Int × Value)}{t':SetTable}{ks':List Int}
  (hel:ElemsOf (intKind prog w) es'.toList) (hb:es'.size<scanBound) (hf:t'.fits es'.size=true) (ht:TabOk (!byTextB w) t') (hp:(es'.toList.map λe=>numOf e.2).Perm ks') (hn:ks'.Nodup) :
  SetG prog w (h.update a<|Obj.putSet es' t') a { o with data:=.set es' (ep+1) t' } es' (ep+1) t' ks':=by
 have hg:(h.update a<|Obj.putSet es' t').get? a=some { o with data:=.set es' (ep+1) t' }:=by
  have:=Wdv (Obj.putSet es' t') g.get (by rw[putSet_of es' t' g.dat];rfl);rw[putSet_of es' t' g.dat]at this;exact this
 exact⟨hg,g.ex,rfl,hel,hb,hf,ht,hp,hn⟩
def addE (ks:List Int) (k:Int):List Int:=if k∈ks then ks else ks++[k]
theorem Ztv {a:Addr}{ks:List Int}{k:Int}{tk:Tok}{Q:Bool->Shared->Prop}(hS:SetI prog w s.heap a ks) (hroom:ks.length+1<scanBound)
  (h:∀b h',Heap.SameBut a s.heap h' -> SetI prog w h' a (addE ks k)->Q b { s with heap:=h' }) :
  wpAny (model prog w) A (setAddHashed a (.int k tk)<|hashInt k) Q E s:=by
 obtain⟨o,es,ep,t,g⟩:=hS;have hsz:=g.size;have hkey:(intKind prog w).is k (.int k tk)=true:=intKind_is _ _ _ _;unfold setAddHashed setAddHashedIn;refine wpAny_holding<|wpAny_bind<|wpAny_setState_of g.get g.dat g.fit ?_;dsimp only;rw[byScan_of (knd:=intKind prog w) rfl g.room g.el];simp only[↓reduceIte];unfold setAddByScan;refine wpAny_bind ?_;refine wpAny_bind<|wpAny_rule ?_;refine wpAny_bind<|wpAny_setScan_of (knd:=intKind prog w) (k:=k) hkey g.get g.dat g.fit g.el ?_;cases hr:List.findIdx? (λe=>(intKind prog w).is k e.2) es.toList with
 |some j=>
  dsimp only;obtain⟨hj,hpj,_⟩:=List.findIdx?_eq_some_iff_getElem.mp hr;have hk:k∈ks:=g.perm.mem_iff.mp ((Zqy g.el).mp ⟨es.toList[j],Wa0 hj,hpj⟩);refine wpAny_pure<|wpAny_pure ?_;have e:s = { s with heap:=s.heap }:=by cases s;rfl
  rw[e];refine h _ s.heap (Heap.SameBut.refl a s.heap) ?_;unfold addE;rw[if_pos hk];exact⟨o,es,ep,t,g⟩
 |none=>
  dsimp only;have hk:k ∉ ks:=λz=>by
   obtain⟨e,he,hp⟩:=(Zqy g.el).mpr (g.perm.mem_iff.mpr z);have:=List.findIdx?_eq_none_iff.mp hr e he;rw[hp]at this;cases this
  have hgw:∀(b:Bool) {s₁:Shared}{Q':Unit->Shared->Prop},Q' () s₁ -> wpAny (model prog w) A (match b with|true=>rule "set.scan.the-table-gave-way" |false=>pure ()) Q' E s₁:=
   λb s₁ Q' hq=>by cases b <;> first|exact wpAny_pure hq|exact wpAny_rule hq
  have hperm:=layNew_perm t es (hashInt k) (.int k tk);have hfits:=layNew_fits t es (hashInt k) (.int k tk);have htab:=g.tab.layNew es (hashInt k) (.int k tk);generalize hL:layNew t es (hashInt k) (.int k tk)=L at hperm hfits htab ⊢;obtain⟨es1,t1,wasDummy,gave⟩:=L;dsimp only at hperm hfits htab ⊢;rw[Array.toList_push]at hperm;have hel1:ElemsOf (intKind prog w) es1.toList:=(g.el.push (k:=k) hkey rfl).perm hperm;have hsz1:es1.size=es.size+1:=by rw[<- Array.length_toList,hperm.length_eq,Wan,Array.length_toList];rfl
  have hb1:es1.size<scanBound:=by omega
  have hp1:(es1.toList.map λe=>numOf e.2).Perm (ks++[k]):=by
   refine(hperm.map _).trans ?_;rw[Waz];exact List.Perm.append_right _ g.perm
  have hnd1:(ks++[k]).Nodup:=by
   rw[Wb3];refine⟨g.nd,by simp,λa ha b hb e=>?_⟩;rw[Wa7.mp hb]at e;exact hk (e ▸ ha)
  have eadd:addE ks k=ks++[k]:=by unfold addE;rw[if_neg hk]
  refine wpAny_bind<|hgw _ ?_;have tail:∀(Q2:Option Bool->Shared->Prop),(∀h',Heap.SameBut a s.heap h' -> SetI prog w h' a (ks++[k])->Q2 (some true) { s with heap:=h' })->∀(g0:Bool->Sem Unit),(∀(b:Bool) (s₁:Shared) (Q':Unit->Shared->Prop),Q' () s₁ -> wpAny (model prog w) A (g0 b) Q' E s₁) →
    wpAny (model prog w) A (do
     storeSet a es1 t1
     if (!wasDummy && t1.tooFull)=true then do
       g0 (relayAll t1 es1<|SetTable.grown es1.size).2.2
       storeSet a (relayAll t1 es1<|SetTable.grown es1.size).1 (relayAll t1 es1<|SetTable.grown es1.size).2.1
       pure (some true)
      else pure (some true)) Q2 E s:=by
   intro Q2 hq g0 hg0;refine wpAny_bind<|wpAny_storeSet_of g.get g.dat ?_<|fits_of_scanBound hb1;have g1:=g.store (es':=es1) (t':=t1) hel1 hb1 hfits htab hp1 hnd1;have sb1:=Heap.SameBut.update s.heap a<|Obj.putSet es1 t1;split
   ·have hp:=relayAll_perm t1 es1 (SetTable.grown es1.size)
    have hfr:=relayAll_fits t1 es1<|SetTable.grown es1.size;have htr:=htab.relay es1<|SetTable.grown es1.size;generalize hRl:relayAll t1 es1 (SetTable.grown es1.size)=Rl at hp hfr htr ⊢;obtain⟨es2,t3,gave2⟩:=Rl;dsimp only at hp hfr htr ⊢;have hsz2:es2.size=es1.size:=by rw[<- Array.length_toList,hp.length_eq,Array.length_toList]
    refine wpAny_bind<|hg0 _ _ _ ?_;refine wpAny_bind (wpAny_storeSet_of g1.get rfl ?_<|fits_of_scanBound (by omega));have g2:=g1.store (es':=es2) (t':=t3) (hel1.perm hp) (by omega) hfr htr ((hp.map _).trans hp1) hnd1;exact wpAny_pure<|hq _ (sb1.trans<|Heap.SameBut.update _ a _) ⟨_,_,_,_,g2⟩
   ·exact wpAny_pure<|hq _ sb1 ⟨_,_,_,_,g1⟩
  have hgv:∀(b:Bool) (s₁:Shared) (Q':Unit->Shared->Prop),Q' () s₁ -> wpAny (model prog w) A (match b with|true=>rule "set.scan.the-table-gave-way" |false=>pure ()) Q' E s₁:=λb s₁ Q' hq=>hgw b hq;split
  ·refine wpAny_bind ?_
   rw[hashByValue_scannable 8 (x:=.int k tk) rfl];refine wpAny_pure ?_;simp only[plainKind,if_true];exact tail _ (λh' sb hS'=>by dsimp only;exact wpAny_pure<|h _ h' sb (by rw[eadd];exact hS')) _ hgv
  ·refine wpAny_bind (wpAny_pure ?_)
   simp only[↓reduceIte];exact tail _ (λh' sb hS'=>by dsimp only;exact wpAny_pure<|h _ h' sb (by rw[eadd];exact hS')) _ hgv
end
end
def metK (val:Nat->Int):Nat->List Int
 |0=>[]
 |i+1=>addE (metK val i) (val i)
theorem Zm2 (val:Nat->Int) (i:Nat):(metK val i).length<=i:=by
 induction i with
 |zero=>exact Wak _
 |succ i ih=>
  show (addE (metK val i)<|val i).length<=i+1;unfold addE;split
  ·omega
  ·rw[Wan,Wbt];omega
theorem Zse {val:Nat->Int}{i:Nat}{x:Int}:x∈metK val i ↔ ∃j,j<i/\val j=x:=by
 induction i with
 |zero=>simp[metK]
 |succ i ih=>
  show x∈addE (metK val i) (val i)↔_;unfold addE;constructor
  ·intro h
   split at h
   ·obtain⟨j,hj,e⟩:=ih.mp h;exact⟨j,by omega,e⟩
   ·rcases Wbd.mp h with h|h
    ·obtain⟨j,hj,e⟩:=ih.mp h;exact⟨j,by omega,e⟩
    ·exact⟨i,by omega,(Wa7.mp h).symm⟩
  ·rintro⟨j,hj,rfl⟩
   by_cases hji:j=i
   ·subst hji
    split
    ·assumption
    ·exact Waw _ (by simp)
   ·have:=ih.mpr ⟨j,by omega,rfl⟩
    split
    ·exact this
    ·exact Wcn _ this
section
variable {prog:Program}{w:World}{A:Around}{R:Result->Shared->Prop}{I:Addr}{fp wr:List Addr}{G:Array GenState->Array GenState->Prop}{n:Nat}{P:Nat->Value->Prop}{St:Nat->Shared->Prop}
theorem Zmm (W:WalksS prog w A.in1 I fp wr G n P St) (S:Addr) (hSf:S ∉ fp)
  (val:Nat->Int) (hval:∀i v,P i v->∃t,v=.int (val i) t) (hb:n+1<scanBound) :
  ∀(k i:Nat) (s:Shared),n-i=k->i<=n->St i s->SetI prog w s.heap S (metK val i) →
   (∀s',Moved (S::wr) G s s' -> SetI prog w s'.heap S (metK val n)->R (.ok (.ret .none)) s') →
   codeAny (model prog w) A (.builtin "set.update.loop" ⟨[.ref S,.ref I],[]⟩) R s:=by
 have hSw:S ∉ wr:=λh=>hSf<|W.sub _ h;have hsub:∀b∈wr,b∈S::wr:=λb hb=>Wau _ hb;intro k
 induction k with
 |zero=>
  intro i s hk hi hst hS hR;have hin:i=n:=by omega
  subst hin;refine codeAny_builtin F.entry_set_update_loop ?_;rw[Around.under_plainId F.plain_set_update_loop _];show wpAny _ A.in1 (pyNext (.ref I) >>= _) _ _ s;refine wpAny_bind (W.done s _ _ hst λs' hm=>?_);show wpAny _ A.in1 (ret Value.none) _ _ s';exact wpAny_pure<|hR s' (hm.mono hsub) (hS.keep λo e=>hm.heap S o hSw e)
 |succ k ih=>
  intro i s hk hi hst hS hR;have hlt:i<n:=by omega
  refine codeAny_builtin F.entry_set_update_loop ?_;rw[Around.under_plainId F.plain_set_update_loop _];show wpAny _ A.in1 (pyNext (.ref I) >>= _) _ _ s;refine wpAny_bind (W.item i s _ _ hlt hst λv s' hP hst' hm=>?_);obtain⟨t,rfl⟩:=hval i v hP;have hS':SetI prog w s'.heap S (metK val i):=hS.keep λo e=>hm.heap S o hSw e;show wpAny _ A.in1 (holding [Value.int (val i) t] (setAdd S (.int (val i) t)) >>= _) _ _ s';refine wpAny_bind<|wpAny_holding ?_;unfold setAdd;refine wpAny_holding ?_;refine wpAny_bind ((intKind prog w).pyHash (k:=val i) (intKind_is _ _ _ _) ?_);have hroom:(metK val i).length+1<scanBound:=by have:=Zm2 val i;omega
  refine Ztv (s:={ s' with toks:=s'.toks+1 }) hS' hroom λb h' hsb hS2=>?_;refine wpAny_pure ⟨plainId_quiet F.plain_set_update_loop _,ih (i+1) _ (by omega) hlt (W.frame _ s' _ _ hst' (Wcy _) λb hb o e=>?_) hS2 λs'' hm'' hS''=>?_⟩
  ·rw[hsb.2 b (λh:b=S=>hSf (by rw[<- h];exact hb))];exact e
  ·refine hR s'' (Moved.trans W.gtrans ((hm.mono hsub).then_heap (Wcy _) λb o hb e=>?_) hm'') hS''
   rw[hsb.2 b (λh:b=S=>hb (by rw[h];exact Wam))];exact e
end
section
variable {prog:Program}{w:World}{A:Around}{E:Value->Shared->Prop}{s:Shared}
abbrev set0 (w:World):Obj:={ cls:=.type "set",dict:=none,data:=.set #[] 0 (.fresh 0 0 (!byTextB w)) }
theorem Zth (x:Value) {N:Value->Shared->Prop}(h:N (.ref s.heap.objs.size) { s with heap:=s.heap.push (set0 w) }) :
  codeAny (model prog w) A (.call (.builtin "set.__new__") ⟨[.type "set",x],[]⟩) (wants N E) s:=
 codeAny_of_tree (by
  have su:=sub_set_self;obtain⟨hp,g,d,tk,os⟩:=s;refine wpAny_bind (m:=checkBuiltinCall "set.__new__" ⟨[.type "set",x],[]⟩)<|wpAny_of_eq (F.newCall_set_1 x)<|wpAny_pure ⟨plainId_quiet F.plain_set_new _,codeAny_builtin F.entry_set_new ?_⟩;rw[Around.under_plainId F.plain_set_new _];unfold Builtin.«set.__new__» Builtin.Frozenset.newClass
  wp_walk
  refine wpAny_askSetting (wpAny_pure ?_);simp only[newObj];exact wpAny_bind (wpAny_alloc (wpAny_pure (wpAny_pure h))))
theorem Zr4 {S l:Addr}{its:Array Value}{ns:List Int}{N:Result->Shared->Prop}(hh:A.handled=none) (hS:s.heap.get? S=some (set0 w)) (hl:s.heap.IsList l its) (hi:IntsAre its.toList ns) (hb:its.size+1<scanBound)
  (q:∀h' tk,SetI prog w h' S (metK (λi=>ns.getD i 0) its.size)->(∀b o,b≠S->s.heap.get? b=some o->h'.get? b=some o)->N (.ok (.ret .none)) { s with heap:=h',toks:=tk }) :
  wpAny (model prog w) A.in1 (Builtin.«set.__init__» ⟨[.ref S,.ref l],[]⟩) (λfin s'=>match fin with|.done f=>N (.ok f) s'|.again c=>c.quiet=true/\codeAny (model prog w) A c N s') (λe s'=>N (.error e) s') s:=by
 have lS:l≠S:=by
  obtain⟨o,e,c,_⟩:=hl;intro z;subst z;rw[hS]at e;cases e;exact absurd (show Value.type "set" = Value.type "list" from c) (by decide)
 have lt:l<s.heap.objs.size:=by obtain⟨o,e,_⟩:=hl;exact Was e
 have ltS:S<s.heap.objs.size:=Was hS;obtain⟨⟨c0,d0,dt0,sl0⟩,e0,hc0,n0,hd0⟩:=id hl;simp only at hc0 hd0;subst hc0 hd0;have hT:s.TypeIs (.ref S) "set":=⟨_,hS,rfl⟩;have k1:=F.sub_list_set;have k2:=F.sub_list_frozenset;have k3:(Value.type "list" == Value.type "dict")=false:=by decide
 unfold Builtin.«set.__init__» noKeywords Builtin.Frozenset.updateFrom;generalize hPI:pyIter=PI
 wp_walk
 subst hPI;refine wpAny_pyIter_list hl<|wpAny_bind<|wpAny_runValue ?_;have ne1:l≠s.heap.objs.size:=Wa2 lt;have ne2:S ∉ [s.heap.objs.size,l]:=by
  simp only[Waq,Wdi,or_false,not_or];exact⟨Wa2 ltS,Ne.symm lS⟩
 refine Zmm (Walks.list (by simp[hh]) _ l ne1 its).toS S ne2 (λi=>ns.getD i 0) (λi v e=>IntsAre.int_at hi i v (by rw[Array.getElem?_toList];exact e)) hb its.size 0 _ (by omega) (Wcl _) ⟨⟨_,Wax _ rfl,rfl,rfl⟩,hl.push _⟩ ?_ λs2 mv fin=>?_
 ·exact⟨_,#[],0,_,Waf _ hS,⟨rfl,rfl,rfl⟩,rfl,λe he=>by simp at he,by decide,by rfl,TabOk.fresh _,List.Perm.refl _,Wek⟩
 ·rw[Moved.eq_with mv]
  refine wpAny_pure<|wpAny_pure (q _ _ fin λb o hb e=>mv.heap b o ?_<|Waf _ e);simp only[Waq,Wdi,or_false,not_or];exact⟨hb,Wa2<|Was e⟩
set_option maxHeartbeats 3200000 in
theorem Zqm {l:Addr}{its:Array Value}{ns:List Int}{Q:Value->Shared->Prop}(hh:A.handled=none) (hl:s.heap.IsList l its) (hi:IntsAre its.toList ns) (hb:its.size+1<scanBound)
  (q:∀(h':Heap) (tk:Nat),SetI prog w h' s.heap.objs.size (metK (λi=>ns.getD i 0) its.size)->(∀b o,s.heap.get? b=some o->h'.get? b=some o)->Q (.ref s.heap.objs.size) { s with heap:=h',toks:=tk }) :
  wpAny (model prog w) A (call (.type "set") [.ref l]) Q E s:=by
 have ft:=F.called_set;obtain⟨c,tl,e1⟩:=ft.mro;have e2:=ft.made;have e3:=ft.sub;have e4:=ft.notType;have e5:=ft.canCreate;have e6:=F.typeCall_set_1 (.ref l);refine wpAny_call<|codeAny_of_tree (show wpAny _ _ (callAny (.type "set") _) _ _ _ from wpAny_pure ⟨Code.quiet_builtin _ (by decide +kernel),codeAny_builtin F.entry_type_call ?_⟩);rw[Around.under_plain (weight_type_call_type _ _ _) rfl]
 repeat (any_goals (first|assumption|wp_step))
 refine codeAny_mono (Zth (.ref l) (E:=E) (N:=λv s1=>v=.ref s.heap.objs.size/\s1 = { s with heap:=s.heap.push (set0 w) }) ⟨rfl,rfl⟩) λr s1 hr=>?_;cases r with
 |error e=>exact hr
 |ok fl=>
  cases fl with
  |ret v=>
   obtain⟨rfl,rfl⟩:=hr;have hS:(s.heap.push<|set0 w).get? s.heap.objs.size=some (set0 w):=Wax _ rfl;have hT:Shared.TypeIs { s with heap:=s.heap.push (set0 w) } (.ref s.heap.objs.size) "set":=⟨_,hS,rfl⟩;have f1:=ft.init.lookup;have f2:=ft.init.bind (.ref s.heap.objs.size)
   repeat (any_goals (first|assumption|wp_step))
   refine codeAny_mono (codeAny_call_builtin (R:=wants (λr s2=>r=.none/\Q (.ref s.heap.objs.size) s2) E) ft.init.plain F.entry_set_init<|check_set_init_1 hT (Zr4 (by simp[hh]) hS (hl.push _) hi hb λh' tk z1 z2=>⟨rfl,q h' tk z1 λb o e=>z2 b o (Wa2<|Was e)<|Waf _ e⟩)) λr2 s2 hr2=>?_;cases r2 with
   |error e=>exact hr2
   |ok fl2=>
    cases fl2 with
    |ret r=>
     obtain⟨rfl,hq⟩:=hr2
     repeat (any_goals (first|assumption|wp_step))
    |_=>exact hr2.elim
  |_=>exact hr.elim
end
end L2
namespace L2
open PySem PySem.Spec PyProof.Rows PySem.SeqAt
theorem Zaz:PySem.Slot "set_iterator" "__next__" "set_iterator.__next__":=
 .of (owner:="set_iterator") (n:="__next__") (by rw[typeLookup_type,builtinLookup_eq_fast];kernel_rfl) (by decide +kernel) (by decide +kernel) (by decide +kernel)
  (by first|exact .inl (by decide +kernel)|exact .inr (by decide +kernel)) (by rw[isSubtype_type];kernel_rfl)
theorem Zcq:entryFor table "set_iterator.__next__" = some Builtin.«set_iterator.__next__»:=entryFor_of_tree (by kernel_rfl)
theorem Zim:entryFor table "set.__iter__" = some Builtin.«frozenset.__iter__»:=entryFor_alias (id':="frozenset.__iter__") (by kernel_rfl) rfl (by decide +kernel) (by kernel_rfl)
theorem Zcy (a:Value):argsOk "set_iterator.__next__" ⟨[a],[]⟩:=by
 unfold argsOk;kernel_rfl
abbrev setItO (first:Value) (i:Nat) (a:Addr) (n ep:Nat):Obj:={ cls:=.type "set_iterator",dict:=none,data:=.fields #[first,.int i 0,.ref a,.int n 0,.int ep 0],slots:=#[] }
section
variable {prog:Program}{w:World}{A:Around}{E:Value->Shared->Prop}{s:Shared}
theorem Zok {I a:Addr}{slot i next:Nat}{x:Value}{o:Obj}{es:Array (Int × Value)}{ep:Nat}{t:SetTable}{ks:List Int}{Q:Option Value->Shared->Prop}(hI:s.heap.get? I=some (setItO (.int slot 0) i a es.size ep)) (g:SetG prog w s.heap a o es ep t ks)
  (hn:∀(A:Around) (E:Value->Shared->Prop) (Q':Option (Value × Nat)->Shared->Prop),Q' (some (x,next)) s->wpAny (model prog w) A (setNext a slot i ep) Q' E s)
  (q:∀h',h'.get? I=some (setItO (.int next 0) (i+1) a es.size ep)->Heap.SameBut I s.heap h' -> Q (some x) { s with heap:=h' }):wpAny (model prog w) A (pyNext (.ref I)) Q E s:=by
 have hT:s.TypeIs (.ref I) "set_iterator":=⟨_,hI,rfl⟩;unfold pyNext;refine wpAny_bind<|wpAny_attempt<|wpAny_callSpecial?_slot (name:=Str.ofString "__next__") hT Zaz<|wpAny_call_entry Zaz hT Zcq ?_<|Zcy _;refine wpAny_bind<|wpAny_pure ?_;refine wpAny_bind<|wpAny_fieldsOf hI rfl ?_;refine wpAny_bind<|wpAny_setEntries_of g.get g.dat g.fit ?_;rw[if_neg (by simp)];refine wpAny_bind<|hn _ _ _ ?_;refine wpAny_bind (wpAny_setField_rec hI (by simp) λh1 e1 sb1=>?_);refine wpAny_bind (wpAny_setField_rec (s:={ s with heap:=h1 }) e1 (by simp) λh2 e2 sb2=>?_);exact wpAny_pure ⟨_,rfl,wpAny_pure<|q h2 (by rw[e2];rfl)<|sb1.trans sb2⟩
theorem Zny {I a:Addr}{slot i:Nat}{o:Obj}{es:Array (Int × Value)}{ep:Nat}{t:SetTable}{ks:List Int}{Q:Option Value->Shared->Prop}(hh:A.handled=none) (hI:s.heap.get? I=some (setItO (.int slot 0) i a es.size ep)) (g:SetG prog w s.heap a o es ep t ks)
  (hn:∀(A:Around) (E:Value->Shared->Prop) (Q':Option (Value × Nat)->Shared->Prop),Q' none s->wpAny (model prog w) A (setNext a slot i ep) Q' E s)
  (q:∀h',Heap.ExtBut I s.heap h' -> Q none { s with heap:=h' }):wpAny (model prog w) A (pyNext (.ref I)) Q E s:=by
 have hT:s.TypeIs (.ref I) "set_iterator":=⟨_,hI,rfl⟩;unfold pyNext;refine wpAny_bind<|wpAny_attempt<|wpAny_callSpecial?_slot (name:=Str.ofString "__next__") hT Zaz<|wpAny_call_entry Zaz hT Zcq ?_<|Zcy _;refine wpAny_bind<|wpAny_pure ?_;refine wpAny_bind<|wpAny_fieldsOf hI rfl ?_;refine wpAny_bind<|wpAny_setEntries_of g.get g.dat g.fit ?_;rw[if_neg (by simp)];refine wpAny_bind<|hn _ _ _ ?_;refine wpAny_bind (wpAny_setField_rec hI (by simp) λh1 e1 sb1=>wpAny_bind ?_);simp only[newExc,newTuple];refine wpAny_bind<|wpAny_newObj_type ?_ (by size_fits);refine wpAny_bind (m:=firstArgMember _ _)<|wpAny_of_eq (a:=Value.none) (by first|rfl|(simp only[firstArgMember];rfl)) ?_;refine wpAny_newObj_type ?_ (by size_fits);simp only[raiseNew];refine wpAny_bind<|wpAny_handled ?_;rw[show A.in1.handled=none from hh];refine wpAny_bind<|wpAny_pure<|wpAny_throw ?_;refine wpAny_bind<|wpAny_isInstance (T:="StopIteration") (b:=true) ⟨_,Wax _ rfl,rfl⟩ isSubtype_stop ?_;exact wpAny_pure<|q _ ((sb1.extBut.push _).push _)
theorem Zmi {I a T:Addr}{i k:Nat}{e:Int × Value}{o:Obj}{es:Array (Int × Value)}{ep:Nat}{t:SetTable}{ks:List Int}{pl:List Nat}{Q:Option Value->Shared->Prop}(hI:s.heap.get? I=some (setItO (.ref T) i a es.size ep)) (g:SetG prog w s.heap a o es ep t ks)
  (hT:s.heap.get? T=some { cls:=.type "tuple",data:=.seq (pl.map λj:Nat=>rawInt (j:Int)).toArray }) (hk:pl[i]?=some k) (he:es[k]?=some e)
  (q:∀h',h'.get? I=some (setItO (.ref T) (i+1) a es.size ep)->Heap.SameBut I s.heap h' -> Q (some e.2) { s with heap:=h' }):wpAny (model prog w) A (pyNext (.ref I)) Q E s:=by
 have hTy:s.TypeIs (.ref I) "set_iterator":=⟨_,hI,rfl⟩;unfold pyNext;refine wpAny_bind<|wpAny_attempt<|wpAny_callSpecial?_slot (name:=Str.ofString "__next__") hTy Zaz<|wpAny_call_entry Zaz hTy Zcq ?_<|Zcy _;refine wpAny_bind<|wpAny_pure ?_;refine wpAny_bind<|wpAny_fieldsOf hI rfl ?_;refine wpAny_bind<|wpAny_setEntries_of g.get g.dat g.fit ?_;rw[if_neg (by simp)];refine wpAny_bind<|wpAny_seqItems hT rfl ?_;have e1:(pl.map λj:Nat=>rawInt (j:Int)).toArray[(i:Int).toNat]?=some (.int (k:Int) 0):=by
  rw[Wae,Wde,Wad,hk];rfl
 dsimp only;rw[e1];dsimp only;unfold setNextDrawn;refine wpAny_bind<|wpAny_bind<|wpAny_setState_of g.get g.dat g.fit ?_;dsimp only;rw[if_neg (by simp)];rw[show es[(k:Int).toNat]?=some e from by rw[Wae];exact he];obtain⟨e1,e2⟩:=e;refine wpAny_pure ?_;refine wpAny_bind (wpAny_setField_rec hI (by simp) λh2 e2' sb2=>?_);exact wpAny_pure ⟨_,rfl,wpAny_pure<|q h2 (by rw[e2'];rfl) sb2⟩
theorem Zii {I a T:Addr}{i:Nat}{o:Obj}{es:Array (Int × Value)}{ep:Nat}{t:SetTable}{ks:List Int}{pl:List Nat}{Q:Option Value->Shared->Prop}(hh:A.handled=none) (hI:s.heap.get? I=some (setItO (.ref T) i a es.size ep)) (g:SetG prog w s.heap a o es ep t ks)
  (hT:s.heap.get? T=some { cls:=.type "tuple",data:=.seq (pl.map λj:Nat=>rawInt (j:Int)).toArray }) (hk:pl[i]?=none)
  (q:∀h',Heap.ExtBut I s.heap h' -> Q none { s with heap:=h' }):wpAny (model prog w) A (pyNext (.ref I)) Q E s:=by
 have hTy:s.TypeIs (.ref I) "set_iterator":=⟨_,hI,rfl⟩;unfold pyNext;refine wpAny_bind<|wpAny_attempt<|wpAny_callSpecial?_slot (name:=Str.ofString "__next__") hTy Zaz<|wpAny_call_entry Zaz hTy Zcq ?_<|Zcy _;refine wpAny_bind<|wpAny_pure ?_;refine wpAny_bind<|wpAny_fieldsOf hI rfl ?_;refine wpAny_bind<|wpAny_setEntries_of g.get g.dat g.fit ?_;rw[if_neg (by simp)];refine wpAny_bind<|wpAny_seqItems hT rfl ?_;have e1:(pl.map λj:Nat=>rawInt (j:Int)).toArray[(i:Int).toNat]?=none:=by
  rw[Wae,Wde,Wad,hk];rfl
 dsimp only;rw[e1];dsimp only;refine wpAny_bind (wpAny_setField_rec hI (by simp) λh1 e1 sb1=>?_);refine wpAny_bind (wpAny_setField_rec (s:={ s with heap:=h1 }) e1 (by simp) λh2 e2 sb2=>wpAny_bind ?_);simp only[newExc,newTuple];refine wpAny_bind<|wpAny_newObj_type ?_ (by size_fits);refine wpAny_bind (m:=firstArgMember _ _)<|wpAny_of_eq (a:=Value.none) (by first|rfl|(simp only[firstArgMember];rfl)) ?_;refine wpAny_newObj_type ?_ (by size_fits);simp only[raiseNew];refine wpAny_bind<|wpAny_handled ?_;rw[show A.in1.handled=none from hh];refine wpAny_bind<|wpAny_pure<|wpAny_throw ?_;refine wpAny_bind<|wpAny_isInstance (T:="StopIteration") (b:=true) ⟨_,Wax _ rfl,rfl⟩ isSubtype_stop ?_;exact wpAny_pure<|q _ (((sb1.trans sb2).extBut.push _).push _)
theorem Zi3 (a:Addr) (slot given ep:Nat):setNext a slot given ep=(do
  let (es,epoch,t) ← setState a
  if ← setsByText then
   if epoch != ep then unsupported "set_iterator.__next__:elements-changed"
   return ((← setWalk a)[given]?).map λe=>(e.2,slot)
  if !t.plain && es.size > 1 then unsupported "set_iterator.__next__:the-table-is-plain-no-more"
  let _ ← (if !t.led && !es.isEmpty then unsupported "set:maker-not-led" else pure ():Sem Unit)
  let i:=SetTable.below t.place slot
  return match es[i]?,t.place[i]? with
   |some (_,x),some j=>some (x,j+1)
   |_,_=>none):=rfl
theorem Zn7 (a:Addr):setWalk a=(do
  let (es,epoch,t) ← setState a
  if ← setsByText then return pickOrder ((← ask).params.setOrder a epoch) es
  if !t.plain && es.size > 1 then return (← drawOrder es.size es.toList).toArray
  let _ ← (if !t.led && es.size > 1 then unsupported "set:maker-not-led" else pure ():Sem Unit)
  return es):=rfl
theorem Zmd (a:Addr):setDrawn a=(do
  let (es,_,t) ← setState a
  let byText ← setsByText
  return !byText && (!t.plain && es.size > 1)):=rfl
end
end L2
namespace L2
open PySem PySem.Spec PyProof.Rows PySem.SeqAt
theorem Ze6:PySem.Slot "set_iterator" "__iter__" "set_iterator.__iter__":=
 .of (owner:="set_iterator") (n:="__iter__") (by rw[typeLookup_type,builtinLookup_eq_fast];kernel_rfl) (by decide +kernel) (by decide +kernel) (by decide +kernel)
  (by first|exact .inl (by decide +kernel)|exact .inr (by decide +kernel)) (by rw[isSubtype_type];kernel_rfl)
theorem Zg5:entryFor table "set_iterator.__iter__" = some Builtin.«dict_keyiterator.__iter__»:=entryFor_alias (id':="dict_keyiterator.__iter__") (by kernel_rfl) rfl (by decide +kernel) (by kernel_rfl)
theorem Zh8 (a:Value):argsOk "set_iterator.__iter__" ⟨[a],[]⟩:=by unfold argsOk;kernel_rfl
section
variable {prog:Program}{w:World}{A:Around}{E:Value->Shared->Prop}{s:Shared}
theorem Zi1 {I:Addr}{first:Value}{i n ep:Nat}{a:Addr}{Q:Value->Shared->Prop}(hI:s.heap.get? I=some (setItO first i a n ep)) (q:Q (.ref I) s):wpAny (model prog w) A (pyIter (.ref I)) Q E s:=by
 have hT:s.TypeIs (.ref I) "set_iterator":=⟨_,hI,rfl⟩;refine wpAny_pyIter_slot hT Ze6<|wpAny_call_entry Ze6 hT Zg5 ?_<|Zh8 _;show wpAny _ _ (ret (.ref I)) _ _ s;exact wpAny_pure ⟨_,rfl,"set_iterator",_,hT,Zaz.lookup,q⟩
theorem Zgf {Q:Bool->Shared->Prop}(q:Q (byTextB w) s):wpAny (model prog w) A setsByText Q E s:=by
 unfold setsByText;exact wpAny_bind<|wpAny_askSetting<|wpAny_pure q
theorem Zkx {a:Addr}{slot given ep:Nat}{o:Obj}{es:Array (Int × Value)}{t:SetTable}{ks:List Int}{Q:Option (Value × Nat)->Shared->Prop}(hb:byTextB w=true) (g:SetG prog w s.heap a o es ep t ks)
  (q:Q (((pickOrder (w.params.setOrder a ep) es)[given]?).map λe=>(e.2,slot)) s):wpAny (model prog w) A (setNext a slot given ep) Q E s:=by
 rw[Zi3];refine wpAny_bind<|wpAny_setState_of g.get g.dat g.fit<|wpAny_bind<|Zgf ?_;rw[hb];simp only[if_true];rw[if_neg (by simp),Zn7];refine wpAny_bind<|wpAny_bind<|wpAny_setState_of g.get g.dat g.fit<|wpAny_bind<|Zgf ?_;rw[hb];simp only[if_true];exact wpAny_bind<|wpAny_askSetting<|wpAny_pure<|wpAny_pure q
theorem Zi8 {a:Addr}{slot given ep:Nat}{o:Obj}{es:Array (Int × Value)}{t:SetTable}{ks:List Int}{Q:Option (Value × Nat)->Shared->Prop}(hb:byTextB w=false) (g:SetG prog w s.heap a o es ep t ks) (hd:(!t.plain && decide (es.size > 1))=false)
  (q:Q (match es[SetTable.below t.place slot]?,t.place[SetTable.below t.place slot]? with|some (_,x),some j=>some (x,j+1)|_,_=>none) s):wpAny (model prog w) A (setNext a slot given ep) Q E s:=by
 have hl:t.led=true:=by rw[g.tab.led,hb];rfl
 rw[Zi3];refine wpAny_bind<|wpAny_setState_of g.get g.dat g.fit<|wpAny_bind<|Zgf ?_;rw[hb];simp only[Wbh,if_false,hd,hl,Wet,Wcx];exact wpAny_bind<|wpAny_pure<|wpAny_pure q
theorem Zgo {α:Type}:∀{l:List α}{i:Nat}(h:i<l.length),(l[i]::l.eraseIdx i).Perm l
 |x::l,0,_=>List.Perm.refl _
 |x::l,i+1,h=>by
  have h':i<l.length:=by simpa using h
  show (l[i]::x::l.eraseIdx i).Perm (x::l);exact(List.Perm.swap _ _ _).trans (List.Perm.cons _<|Zgo h')
theorem Zo9 {α:Type}(next:Nat->Nat):∀(fuel k:Nat) (left:List α) (out:Array α),left.length=fuel->(pickOrder.go next fuel k left out).toList.Perm (out.toList++left)
 |0,k,left,out,h=>by
  have:left=[]:=Wb5 h;subst this;unfold pickOrder.go;rw[Wa4]
 |fuel+1,k,left,out,h=>by
  unfold pickOrder.go;have hi:next k % left.length<left.length:=Wew _ (by omega)
  rw[Waa hi];dsimp only;refine(Zo9 next fuel (k+1) _ _ (by rw[List.length_eraseIdx_of_lt hi];omega)).trans ?_;rw[Array.toList_push,Wbe];refine List.Perm.append_left _ ?_;exact Zgo hi
theorem Zqu {α:Type}(next:Nat->Nat) (xs:Array α):(pickOrder next xs).toList.Perm xs.toList:=by
 unfold pickOrder;exact Zo9 next xs.size 0 xs.toList #[] (by simp)
def slotAt (pl:Array Nat):Nat->Nat
 |0=>0
 |j+1=>pl.getD j 0+1
theorem Zgw {pl:Array Nat}(R:Ris pl) {j:Nat}(hj:j<=pl.size):SetTable.below pl (slotAt pl j)=j:=by
 obtain⟨b1,b2,b3⟩:=Zis R<|slotAt pl j;cases j with
 |zero=>
  apply Classical.byContradiction;intro h;have hlt:0<pl.size:=by omega
  have:=b2 0 _ (by omega)<|Array.getElem?_eq_getElem hlt;exact absurd this (by show ¬ _<0;omega)
 |succ j=>
  have hlt:j<pl.size:=by omega
  have hg:pl.getD j 0=pl[j]:=by simp[Array.getD,hlt]
  have es:slotAt pl (j+1)=pl[j]+1:=by show pl.getD j 0+1=_;rw[hg]
  rw[es]at b1 b2 b3 ⊢;rcases Wex (SetTable.below pl<|pl[j]+1) (j+1) with z|z|z
  ·have:=b3 j _ (by omega) (Array.getElem?_eq_getElem hlt)
   omega
  ·exact z
  ·have hlt2:j+1<pl.size:=by omega
   have h1:=b2 (j+1) _ z<|Array.getElem?_eq_getElem hlt2;have h2:=R j (j+1) _ _ (by omega) (Array.getElem?_eq_getElem hlt)<|Array.getElem?_eq_getElem hlt2;omega
theorem SetG.keep {h h':Heap}{a:Addr}{o:Obj}{es:Array (Int × Value)}{ep:Nat}{t:SetTable}{ks:List Int}(g:SetG prog w h a o es ep t ks) (k:∀o,h.get? a=some o->h'.get? a=some o):SetG prog w h' a o es ep t ks:=
 ⟨k _ g.get,g.ex,g.dat,g.el,g.room,g.fit,g.tab,g.perm,g.nd⟩
theorem Ziw (hh:A.handled=none) {I a:Addr}(hne:a≠I) {o:Obj}{es:Array (Int × Value)}{ep:Nat}{t:SetTable}{ks:List Int}(sl:Nat->Nat) (L:List (Int × Value))
  (hs:∀(s:Shared) j e,SetG prog w s.heap a o es ep t ks->L[j]?=some e->∀(A:Around) (E:Value->Shared->Prop) (Q':Option (Value × Nat)->Shared->Prop),Q' (some (e.2,sl (j+1))) s->wpAny (model prog w) A (setNext a (sl j) j ep) Q' E s)
  (hd:∀(s:Shared),SetG prog w s.heap a o es ep t ks->∀(A:Around) (E:Value->Shared->Prop) (Q':Option (Value × Nat)->Shared->Prop),Q' none s->wpAny (model prog w) A (setNext a (sl L.length) L.length ep) Q' E s) :
  Walks prog w A I [I,a] [I] L.length (λj v=>∃e,L[j]?=some e/\v=e.2) (λj h=>h.get? I=some (setItO (.int (sl j) 0) j a es.size ep)/\SetG prog w h a o es ep t ks) where
 sub:=λb hb=>by simp at hb;simp[hb]
 frame:=λ_ _ _ st hk=>⟨hk I (by simp) _ st.1,st.2.keep λo e=>hk a (by simp) o e⟩
 item:=λi s Q E hi st hQ=>by
  refine Zok st.1 st.2 (hs s i _ st.2<|Waa hi) λh' e sb=>?_;refine hQ _ h' s.toks ⟨_,Waa hi,rfl⟩ ⟨e,st.2.keep λo q=>(sb.2 a hne).trans q⟩ λb o hb q=>(sb.2 b λz=>hb (by simp[z])).trans q
 done:=λs Q E st hQ=>Zny hh st.1 st.2 (hd s st.2) λh' eb=>hQ h' s.toks λb o hb e=>eb b o (λz=>hb (by simp[z])) e
 self:=λ_ _ _ _ st hQ=>Zi1 st.1 hQ
theorem Zl5 (hh:A.handled=none) {I a T:Addr}(hne:a≠I) (hnt:T≠I) {o:Obj}{es:Array (Int × Value)}{ep:Nat}{t:SetTable}{ks:List Int}(pl:List Nat) (L:List (Int × Value)) (hl:L.length=pl.length) (hs:∀(j k:Nat) e,pl[j]?=some k->L[j]?=some e->es[k]?=some e) :
  Walks prog w A I [I,a,T] [I] L.length (λj v=>∃e,L[j]?=some e/\v=e.2) (λj h=>h.get? I=some (setItO (.ref T) j a es.size ep)/\SetG prog w h a o es ep t ks/\h.get? T=some { cls:=.type "tuple",data:=.seq (pl.map λj:Nat=>rawInt (j:Int)).toArray }) where
 sub:=λb hb=>by simp at hb;simp[hb]
 frame:=λ_ _ _ st hk=>⟨hk I (by simp) _ st.1,st.2.1.keep λo e=>hk a (by simp) o e,hk T (by simp) _ st.2.2⟩
 item:=λi s Q E hi st hQ=>by
  have hp:i<pl.length:=by omega
  refine Zmi st.1 st.2.1 st.2.2 (Waa hp) (hs i _ _ (Waa hp)<|Waa hi) λh' e sb=>?_;refine hQ _ h' s.toks ⟨_,Waa hi,rfl⟩ ⟨e,st.2.1.keep λo q=>(sb.2 a hne).trans q,(sb.2 T hnt).trans st.2.2⟩ λb o hb q=>(sb.2 b λz=>hb (by simp[z])).trans q
 done:=λs Q E st hQ=>Zii hh st.1 st.2.1 st.2.2 (Wb9<|by omega) λh' eb=>hQ h' s.toks λb o hb e=>eb b o (λz=>hb (by simp[z])) e
 self:=λ_ _ _ _ st hQ=>Zi1 st.1 hQ
theorem Zrv {src:Source}{n:Nat}{Q:Nat->Shared->Prop}(hn:n≠0) (q:∀k dr,k<n->Q k { s with drawn:=dr }):wpAny (model prog w) A (choose src n) Q E s:=by
 intro Γ p _;unfold choose;rw[Sem.wp_choose];refine⟨hn,?_⟩;show Sem.wp _ _ (Sem.pure _) _ _ _ _
 first|rw[Sem.wp_pure]|simp only[Sem.wp]
 exact q _ _<|Wew _<|Nat.pos_of_ne_zero hn
theorem Zpf:∀(n:Nat) {s:Shared}{xs:List Nat}{Q:List Nat->Shared->Prop},xs.length=n->(∀ys dr,ys.Perm xs->Q ys { s with drawn:=dr })->wpAny (model prog w) A (drawOrder n xs) Q E s
 |0,s,xs,Q,h,q=>by
  have:xs=[]:=Wb5 h;subst this;unfold drawOrder;exact wpAny_pure<|q [] s.drawn<|List.Perm.refl _
 |n+1,s,[],Q,h,q=>by simp at h
 |n+1,s,x::xs,Q,h,q=>by
  unfold drawOrder;refine wpAny_bind (Zrv (by simp) λk dr hk=>?_);rw[Waa hk];refine wpAny_bind (Zpf n (by rw[List.length_eraseIdx_of_lt hk];omega) λys dr' hy=>wpAny_pure<|q _ dr' ?_);exact(List.Perm.cons _ hy).trans (Zgo hk)
end
end L2
namespace L2
open PySem PySem.Spec PyProof.Rows PySem.SeqAt
section
variable {prog:Program}{w:World}{A:Around}{E:Value->Shared->Prop}{s:Shared}
structure SWalk (prog:Program) (w:World) (A:Around) (a:Addr) (es:Array (Int × Value)) (s s1:Shared) (I:Addr) where
 fp:List Addr
 L:List (Int × Value)
 St:Nat->Heap->Prop
 old:∀b o,s.heap.get? b=some o->s1.heap.get? b=some o
 new:s.heap.objs.size<=I
 fpo:∀b∈fp,b=a\/s.heap.objs.size<=b
 perm:L.Perm es.toList
 W:Walks prog w A I fp [I] L.length (λj v=>∃e,L[j]?=some e/\v=e.2) St
 st:St 0 s1.heap
theorem Zou (es:Array (Int × Value)):(Wap es.size).map (λk=>es.getD k (0,.none))=es.toList:=by
 apply List.ext_getElem
 ·simp
 ·intro i h1 h2
  simp only[List.getElem_map,Wct,Array.getElem_toList];simp only[Array.length_toList]at h2;simp[Array.getD,h2]
theorem set_iter {a:Addr}{o:Obj}{es:Array (Int × Value)}{ep:Nat}{t:SetTable}{ks:List Int}{Q:Value->Shared->Prop}(hh:A.handled=none) (g:SetG prog w s.heap a o es ep t ks)
  (q:∀(h1:Heap) dr (I:Addr),Nonempty (SWalk prog w A a es s { s with heap:=h1,drawn:=dr } I)->Q (.ref I) { s with heap:=h1,drawn:=dr }):wpAny (model prog w) A (pyIter (.ref a)) Q E s:=by
 have hT:s.TypeIs (.ref a) "set":=⟨o,g.get,g.ex.1⟩;have hlt:a<s.heap.objs.size:=Was g.get;have hne1:a≠s.heap.objs.size:=Wa2 hlt;have hne2:a≠s.heap.objs.size+1:=Wa2<|Wb7 hlt;have hroom:es.size<=sizeLine:=by
  have:=g.room;rw[sizeLine_eq];unfold scanBound at this;omega
 refine wpAny_pyIter_slot hT F.slot_set_iter<|wpAny_call_entry F.slot_set_iter hT Zim ?_<|F.args_set_iter_1 _;unfold Builtin.«frozenset.__iter__» Builtin.Frozenset.slot0 slotArgs;simp only[List.isEmpty_nil,Wet,Wbh,↓reduceIte,bind_assoc,Wdd,bne_self_eq_false];unfold Builtin.Frozenset.addrOf Builtin.Frozenset.sizeOf;refine wpAny_bind<|wpAny_pure ?_
 try dsimp only
 refine wpAny_bind<|wpAny_pure ?_;refine wpAny_bind<|wpAny_bind<|wpAny_setEntries_of g.get g.dat g.fit<|wpAny_pure ?_;rw[Zmd];refine wpAny_bind<|wpAny_bind<|wpAny_setState_of g.get g.dat g.fit<|wpAny_bind<|Zgf<|wpAny_pure ?_;by_cases hd:(!byTextB w && (!t.plain && decide (es.size > 1)))=true
 ·have hd2:=hd
  rw[if_pos hd];refine wpAny_bind (Zpf es.size (by simp) λys dr hy=>?_);have hyl:=hy.length_eq;rw[Wbq]at hyl;refine wpAny_bind<|wpAny_newTuple ?_ (by rw[Wab,hyl];exact hroom);have g1:=g.keep (h':=s.heap.push<|seqObj "tuple" (ys.map λi:Nat=>rawInt (i:Int)).toArray 0) λo e=>Waf _ e;refine wpAny_bind<|wpAny_setEpoch_of g1.get g1.dat g1.fit ?_;refine wpAny_bind<|wpAny_newObj_type ?_ (by size_fits);have hsz:(s.heap.push<|seqObj "tuple" (ys.map λi:Nat=>rawInt (i:Int)).toArray 0).objs.size=s.heap.objs.size+1:=size_push' _ _;have hI:((s.heap.push<|seqObj "tuple" (ys.map λi:Nat=>rawInt (i:Int)).toArray 0).push (setItO (.ref s.heap.objs.size) 0 a es.size ep)).get? (s.heap.objs.size+1)=some (setItO (.ref s.heap.objs.size) 0 a es.size ep):=by
   rw[<- hsz];exact Wax _ rfl
  have hTu:((s.heap.push<|seqObj "tuple" (ys.map λi:Nat=>rawInt (i:Int)).toArray 0).push (setItO (.ref s.heap.objs.size) 0 a es.size ep)).get? s.heap.objs.size=some { cls:=.type "tuple",data:=.seq (ys.map λj:Nat=>rawInt (j:Int)).toArray }:=
   Waf _ (Wax _ rfl)
  show wpAny _ _ (ret (.ref (s.heap.push<|seqObj "tuple" (ys.map λi:Nat=>rawInt (i:Int)).toArray 0).objs.size)) _ _ { s with heap:=(s.heap.push<|seqObj "tuple" (ys.map λi:Nat=>rawInt (i:Int)).toArray 0).push (setItO (.ref s.heap.objs.size) 0 a es.size ep),drawn:=dr };rw[hsz];refine wpAny_pure ⟨_,rfl,"set_iterator",_,⟨_,hI,rfl⟩,Zaz.lookup,?_⟩;have hin:∀k∈ys,k<es.size:=λk hk=>Wav.mp<|hy.mem_iff.mp hk;have hL:(ys.map λk=>es.getD k (0,.none)).length=ys.length:=Wab _;refine q _ dr (s.heap.objs.size+1) ⟨⟨[s.heap.objs.size+1,a,s.heap.objs.size],ys.map λk=>es.getD k (0,.none),_,λb o e=>Waf _<|Waf _ e,Wcy _,?_,?_,Zl5 hh hne2 (Wa2<|Nat.lt_succ_self _) ys _ hL ?_,hI,g1.keep λo e=>Waf _ e,hTu⟩⟩
  ·intro b hb
   simp only[Waq,Wdi,or_false]at hb;rcases hb with h|h|h
   ·exact .inr (by rw[h];exact Wcy _)
   ·exact .inl h
   ·exact .inr<|Nat.le_of_eq h.symm
  ·exact(hy.map _).trans (List.Perm.of_eq<|Zou es)
  ·intro j k e h1 h2
   rw[Wad,h1]at h2;cases h2;have:=hin k<|Way h1;simp[Array.getD,this]
 ·rw[if_neg hd]
  refine wpAny_bind<|wpAny_pure ?_;refine wpAny_bind<|wpAny_setEpoch_of g.get g.dat g.fit ?_;refine wpAny_bind<|wpAny_newObj_type ?_ (by size_fits);have hI:(s.heap.push<|setItO (.int 0 0) 0 a es.size ep).get? s.heap.objs.size=some (setItO (.int 0 0) 0 a es.size ep):=Wax _ rfl;refine wpAny_pure ⟨_,rfl,"set_iterator",_,⟨_,hI,rfl⟩,Zaz.lookup,?_⟩;have g1:=g.keep (h':=s.heap.push<|setItO (.int 0 0) 0 a es.size ep) λo e=>Waf _ e;have fpo:∀b∈[s.heap.objs.size,a],b=a\/s.heap.objs.size<=b:=λb hb=>by
   simp at hb;rcases hb with h|h
   ·right;omega
   ·exact .inl h
  cases hb:byTextB w with
  |true=>
   refine q _ s.drawn s.heap.objs.size ⟨⟨[s.heap.objs.size,a],(pickOrder (w.params.setOrder a ep) es).toList,_,λb o e=>Waf _ e,Wak _,fpo,Zqu _ _,Ziw hh hne1 (λ_=>0) _ ?_ ?_,hI,g1⟩⟩
   ·intro s j e g he A E Q' hq
    refine Zkx hb g ?_;rw[Array.getElem?_toList]at he;rw[he];exact hq
   ·intro s g A E Q' hq
    refine Zkx hb g ?_;rw[Array.getElem?_eq_none (by simp)];exact hq
  |false=>
   have hd':(!t.plain && decide (es.size > 1))=false:=by
    rw[hb]at hd;simpa using hd
   have hps:t.place.size=es.size:=by
    have:=g.fit;unfold SetTable.fits at this;simp only[Wbj,beq_iff_eq]at this;exact this.1
   refine q _ s.drawn s.heap.objs.size ⟨⟨[s.heap.objs.size,a],es.toList,_,λb o e=>Waf _ e,Wak _,fpo,List.Perm.refl _,Ziw hh hne1 (slotAt t.place) _ ?_ ?_,hI,g1⟩⟩
   ·intro s j e g he A E Q' hq
    refine Zi8 hb g hd' ?_;rw[Array.getElem?_toList]at he;have hj:=(Array.getElem?_eq_some_iff.mp he).1;rw[Zgw g.tab.ris (by omega),he,Array.getElem?_eq_getElem (by omega)];have:slotAt t.place (j+1)=t.place[j]+1:=by
     show t.place.getD j 0+1=_;simp[Array.getD,show j<t.place.size by omega]
    rw[this]at hq;exact hq
   ·intro s g A E Q' hq
    refine Zi8 hb g hd' ?_;rw[Array.length_toList,Zgw g.tab.ris (Nat.le_of_eq hps.symm),Array.getElem?_eq_none (Wak _)];exact hq
end
end L2
namespace L2
open PySem PySem.Spec PyProof.Rows PySem.SeqAt
section
variable {prog:Program}{w:World}{A:Around}{E:Value->Shared->Prop}{s:Shared}
theorem Zt4 {r:Addr}{Q:Bool->Shared->Prop}(hT:s.TypeIs (.ref r) "set") (h:Q false s):wpAny (model prog w) A (Builtin.List.listLengthHint (.ref r)) Q E s:=by
 unfold Builtin.List.listLengthHint;refine wpAny_bind<|wpAny_specialOf hT F.slot_set_len.lookup ?_;generalize hid:("set.__len__":String)=nm
 wp_delta
 rw[show splitId nm=some ("set","__len__") by subst hid;decide +kernel];subst hid;refine wpAny_bind<|wpAny_isInstance (T:="set") (b:=true) hT (by rw[isSubtype_type];kernel_rfl) ?_;refine wpAny_ite_split (λz=>absurd z<|by decide) λ_=>?_;refine wpAny_ite_split (λ_=>wpAny_bind<|wpAny_typeOf hT<|wpAny_pure h) λz=>absurd (by decide +kernel) z
theorem Zl8 {L:List (Int × Value)}{acc:Array Value}(h:ItemsOf (λj v=>∃e,L[j]?=some e/\v=e.2) acc L.length):acc.toList=L.map (·.2):=by
 obtain⟨h1,h2⟩:=h;apply Wcb;intro i;rw[Array.getElem?_toList,Wad];by_cases hi:i<acc.size
 ·obtain⟨e,e1,e2⟩:=h2 i _ (Array.getElem?_eq_getElem hi)
  rw[e1,Array.getElem?_eq_getElem hi,e2];rfl
 ·rw[Array.getElem?_eq_none (by omega),Wb9 (by omega)];rfl
theorem Zol {R:Result->Shared->Prop}{a S:Addr}{o:Obj}{es:Array (Int × Value)}{ep c₀:Nat}{t:SetTable}{ks:List Int}(hh:A.handled=none) (g:SetG prog w s.heap a o es ep t ks) (hSa:S≠a) (res:Value) (hS:s.heap.get? S=some { cls:=.type "list",data:=.seq #[] c₀ })
  (hR:∀h' tk dr c' (L:List (Int × Value)),(∀b o,b≠S->s.heap.get? b=some o->h'.get? b=some o)->L.Perm es.toList->h'.get? S=some { cls:=.type "list",dict:=none,data:=.seq (L.map (·.2)).toArray c',slots:=#[] } -> R (.ok (.ret res)) { s with heap:=h',toks:=tk,drawn:=dr }) :
  wpAny (model prog w) A.in1 (Builtin.List.listExtendWith (.ref S) (.ref a) res)
   (λfin s'=>match fin with|.done f=>R (.ok f) s'|.again c'=>c'.quiet=true/\codeAny (model prog w) A c' R s') (λe s'=>R (.error e) s') s:=by
 have hT:s.TypeIs (.ref a) "set":=⟨o,g.get,g.ex.1⟩;have hSl:S<s.heap.objs.size:=Was hS;unfold Builtin.List.listExtendWith;refine wpAny_bind<|wpAny_typeOf (T:="set") hT ?_;have h1:Builtin.List.listSameRef (.ref S) (.ref a)=false:=by simp[Builtin.List.listSameRef,hSa]
 have h2:(Value.type "set" == Value.type "list")=false:=by decide +kernel
 have h3:(Value.type "set" == Value.type "tuple")=false:=by decide +kernel
 simp only[h1,h2,h3,Bool.or_false,Wbh,if_false];refine wpAny_bind (set_iter hh g λh1 dr I ⟨K⟩=>?_);have hK:=K.perm.length_eq;have hn:K.L.length<=sizeLine:=by
  have:=g.room;rw[hK,Array.length_toList,sizeLine_eq];unfold scanBound at this;omega
 have hSf:S ∉ K.fp:=λz=>by
  rcases K.fpo S z with z|z
  ·exact hSa z
  ·exact absurd hSl<|Nat.not_lt.mpr z
 have key:∀(h:Heap) (c₁ tk:Nat),K.St 0 h->(∀b o,b≠S->s.heap.get? b=some o->h.get? b=some o) →
   h.get? S=some { cls:=.type "list",data:=.seq #[] c₁ } -> codeAny (model prog w) A (.builtin "list.extend.loop" ⟨[.ref S,.ref I,res],[]⟩) R { s with heap:=h,toks:=tk,drawn:=dr }:=by
  intro h c₁ tk hst hk hS₁;refine codeAny_extend_loopS K.W.toS hn S hSf res _ 0 _ #[] c₁ rfl (Wcl _) hst hS₁ (ItemsOf.nil _) λs' acc' c' hm hS' hacc=>?_;rw[Moved.eq_with hm];have ea:=Zl8 hacc;refine hR s'.heap s'.toks dr c' K.L (λb o hb e=>hm.heap b o (λhmem=>?_)<|hk b o hb e) K.perm ?_
  ·rcases Waq.mp hmem with e'|hmem
   ·exact hb e'
   ·exact absurd (Was e) (by rw[Wa7.mp hmem];exact Nat.not_lt.mpr K.new)
  ·rw[<- ea,Array.toArray_toList];exact hS'
 have hS₁:=K.old _ _ hS;refine wpAny_bind<|wpAny_holding<|Zt4 ⟨o,K.old _ _ g.get,g.ex.1⟩ ?_;refine wpAny_ite_split (λ_=>?_) λ_=>wpAny_pure ⟨plainId_quiet F.plain_extend_loop _,key _ c₀ _ K.st (λb o _ e=>K.old _ _ e) hS₁⟩;refine wpAny_bind<|wpAny_rule ?_;refine wpAny_bind ?_;show wpAny _ _ (updateSeq S (·.push .none) >>= λ_=>updateSeq S (·.pop)) _ _ _;refine wpAny_bind<|wpAny_updateSeq hS₁ rfl ?_;have hS₂:=Wdv (Obj.mapSeq (·.push Value.none)) hS₁ rfl;refine wpAny_updateSeq (hz:=by seq_fits) hS₂ rfl ?_;have hS₃:=Wdv (Obj.mapSeq (·.pop)) hS₂ rfl;refine wpAny_pure ⟨plainId_quiet F.plain_extend_loop _,key _ _ _ ?_ (λb o hb e=>?_) hS₃⟩
 ·refine K.W.frame 0 _ _ K.st λb hb o e=>?_
  have hbS:S≠b:=λh=>hSf (h ▸ hb);exact(Wcq _ _ hbS).trans ((Wcq _ _ hbS).trans e)
 ·exact(Wcq _ _<|Ne.symm hb).trans ((Wcq _ _<|Ne.symm hb).trans (K.old _ _ e))
theorem Zlm {R:List Value->Shared->Prop}{a:Addr}{o:Obj}{es:Array (Int × Value)}{ep:Nat}{t:SetTable}{ks:List Int}(hh:A.handled=none) (g:SetG prog w s.heap a o es ep t ks)
  (h:∀(h':Heap) (tk:Nat) dr (L:List (Int × Value)),(∀b o,s.heap.get? b=some o->h'.get? b=some o)->s.heap.objs.size<h'.objs.size->L.Perm es.toList->R (L.map (·.2)) { s with heap:=h',toks:=tk,drawn:=dr }) :
  wpAny (model prog w) A (collect (.ref a)) R E s:=by
 have hlt:a<s.heap.objs.size:=Was g.get;unfold collect;refine wpAny_bind<|wpAny_runValue<|codeAny_builtin entry_proto_collect' ?_;rw[Around.under_plainId F.plain_proto_collect _];show wpAny _ A.in1 (newList [] >>= λl=>again (.builtin "list.__iadd__" ⟨[l,.ref a],[]⟩)) _ _ s;refine wpAny_bind<|wpAny_newList ?_;refine wpAny_pure ⟨plainId_quiet F.plain_list_iadd _,codeAny_builtin entry_list_iadd' ?_⟩;rw[Around.under_plainId F.plain_list_iadd _];show wpAny _ A.in1 (Builtin.List.listExtendWith (.ref s.heap.objs.size) (.ref a) (.ref s.heap.objs.size)) _ _ _;have hS₁:(s.heap.push<|seqObj "list" ([]:List Value).toArray 0).get? s.heap.objs.size=some { cls:=.type "list",data:=.seq #[] 0 }:=Wax _ rfl;have z:=Zol (A:=A) (s:={ s with heap:=s.heap.push (seqObj "list" ([]:List Value).toArray 0) })
  (R:=λ(q:Result) (s':Shared)=>∃(h':Heap) (tk:Nat) (dr:_) (c':Nat) (L:List (Int × Value)),q=.ok (.ret (.ref s.heap.objs.size))/\s' = { s with heap:=h',toks:=tk,drawn:=dr } ∧
   (∀b o,s.heap.get? b=some o->h'.get? b=some o)/\L.Perm es.toList/\h'.get? s.heap.objs.size=some { cls:=.type "list",dict:=none,data:=.seq (L.map (·.2)).toArray c',slots:=#[] })
  hh (g.keep λo e=>Waf _ e) (Weh hlt) (.ref s.heap.objs.size) hS₁
  λh' tk dr c' L hk hp hS'=>⟨h',tk,dr,c',L,rfl,rfl,λb o e=>hk b o (Wa2<|Was e)<|Waf _ e,hp,hS'⟩
 refine wpAny_mono z (λfin s' x=>?_) λe s' x=>?_
 ·cases fin with
  |done f=>
   obtain⟨h',tk,dr,c',L,e,rfl,hk,hp,hS'⟩:=x;cases e;show wpAny _ A (load s.heap.objs.size >>= _) _ _ _;refine wpAny_bind<|wpAny_load hS' ?_;exact wpAny_pure<|h h' tk dr L hk (Was hS') hp
  |again c₁=>
   refine⟨x.1,codeAny_mono x.2 λq s₂ y=>?_⟩;obtain⟨h',tk,dr,c',L,rfl,rfl,hk,hp,hS'⟩:=y;show wpAny _ A (load s.heap.objs.size >>= _) _ _ _;refine wpAny_bind<|wpAny_load hS' ?_;exact wpAny_pure<|h h' tk dr L hk (Was hS') hp
 ·obtain⟨h',tk,dr,c',L,e,_⟩:=x
  cases e
theorem Zhn:∀{vs:List Value},(∀v∈vs,∃t,v=.int (numOf v) t)->IntsAre vs (vs.map numOf)
 |[],_=>.nil
 |v::vs,h=>by
  obtain⟨t,e⟩:=h v (by simp);have:=Zhn (vs:=vs) λu hu=>h u<|Wau _ hu;rw[Wbg];generalize numOf v=n at e ⊢;subst e;exact .cons _ t this
theorem Zof {a:Addr}{ks:List Int}{Q:Value->Shared->Prop}(hh:A.handled=none) (hS:SetI prog w s.heap a ks) (h64:ks.length<64)
  (h:∀(h':Heap) (tk:Nat) dr (l:Addr) (out:List Value) (ms:List Int) (c:Nat),(∀b o,s.heap.get? b=some o->h'.get? b=some o)->s.heap.objs.size<=l->h'.get? l=some (seqObj "list" out.toArray c)->IntsAre out ms->ms.Perm ks->ms.Pairwise (· <= ·)->Q (.ref l) { s with heap:=h',toks:=tk,drawn:=dr }) :
  wpAny (model prog w) A (call (.builtin "sorted") [.ref a]) Q E s:=by
 obtain⟨o,es,ep,t,g⟩:=hS;refine Calls.call_function_entry kind_sorted plain_sorted entry_sorted (args_sorted1 _) ?_;unfold Builtin.«sorted»;refine wpAny_bind (m:=checkCount "sorted" 1 1 _)<|wpAny_pure ?_;refine wpAny_bind (Zlm hh g λh' tk dr L hk hsz hp=>?_);have hI:IntsAre (L.map (·.2)) ((L.map (·.2)).map numOf):=Zhn λv hv=>by
  obtain⟨e,he,rfl⟩:=Wa3.mp hv;exact Zm4 g.el<|hp.mem_iff.mp he
 have hpk:((L.map (·.2)).map numOf).Perm ks:=by
  rw[Wbb];exact(hp.map _).trans g.perm
 have hlen:(L.map (·.2)).length<64:=by
  have:=hpk.length_eq;rw[Wab]at this;omega
 refine wpAny_bind<|wpAny_newList ?_ (by rw[sizeLine_eq];omega);have hoL:(h'.push<|seqObj "list" (L.map (·.2)).toArray 0).get? h'.objs.size=some (seqObj "list" (L.map (·.2)).toArray 0):=Wax _ rfl;refine wpAny_bind<|wpAny_holding<|wpAny_call_entry slot_list_sort ⟨_,hoL,rfl⟩ entry_list_sort (list_sort_tree hoL hI hlen λout ms a1 a2 a3=>⟨_,rfl,?_⟩)<|args_list_sort _;obtain⟨c,hc⟩:=sortedHeap_at (out:=out) hoL;refine wpAny_pure ⟨_,rfl,h _ tk dr _ out.toList ms c (λb o e=>?_) (Wb0 hsz) (by rw[Array.toArray_toList];exact hc) a1 (a2.trans hpk) a3⟩;have hb:=hk b o e;have hbl:=Was hb;rw[sortedHeap_old (Wa2 hbl) (by rw[size_push'];exact Wb7 hbl)];exact Waf _ hb
end
end L2
namespace L2
open PySem PySem.Spec PyProof.Rows PySem.SeqAt
section
variable {X:Cx}
theorem Inv.drew {pins:List (Addr × Obj)}{σ:List (Option V)}{H:Hp}{s:Shared}(I:Inv X pins σ H s) (dr:_):Inv X pins σ H { s with drawn:=dr }:=
 ⟨I.ok,I.os,I.bare,I.base,I.loc,I.cell,I.free,I.freeC,I.pin,I.hok,I.len⟩
theorem Zry {ms:List Int}(h1:ms.Pairwise (· <= ·)) (h2:ms.Nodup):ms.Pairwise (· < ·):=by
 have:=List.Pairwise.and h1 h2;exact this.imp λhq_=>by obtain⟨a,b⟩:=hq_;omega
theorem Zjw {ns:List Int}{x:Int}:x∈metK (λi=>ns.getD i 0) ns.length↔x∈ns:=by
 rw[Zse];constructor
 ·rintro⟨j,hj,rfl⟩
  rw[Wac,Waa hj];exact Wa0 hj
 ·intro h
  obtain⟨j,hj,rfl⟩:=List.getElem_of_mem h;exact⟨j,hj,by rw[Wac,Waa hj];rfl⟩
def tSS (K:W.Frag) (ta:TA):TE:=λσ H Q=>ta σ H λvs H1=>∃(p:Addr) (ns:List Int),vs=[.ref p]/\SqL K H1 p (ns.map V.int)/\ns.length<64/\∀(l:Addr) (ms:List Int),ms.Pairwise (· < ·)->(∀x,x∈ms↔x∈ns)->H1 l=none->Q (.ref l) (upd H1 l (.lst<|ms.map V.int))
theorem Zi5 {a:Expr}{ta:TA}{p p2 pos pos2:Pos}{K:W.Frag}(hK:X.K=K) (hc:X.calm=true) (hgL:Gl X "sorted") (hmL:X.mg "sorted" = none) (hgR:Gl X "set") (hmR:X.mg "set" = none) (ha:PA X [a] ta) (hs:starEach [a] X.env=[(false,eval a X.env)]:=by rfl)
  (he:starEach [.Call (.Name "set" p2) [a] [] pos2] X.env=[(false,eval (.Call (.Name "set" p2) [a] [] pos2) X.env)]:=by rfl) :
  PE X (.Call (.Name "sorted" p) [.Call (.Name "set" p2) [a] [] pos2] [] pos) (tSS K ta):=by
 subst hK;intro pins s σ H Q I h;refine wpAny_Call_Name_kw<|Zgc I hgL hmL Ze5 ?_;refine PyProof.Rows.callWith_builtin1 ?_ he rfl;rw[he];show wpAny _ _ (spliced ((false,eval (.Call (.Name "set" p2) [a] [] pos2) X.env)::backTo pos [])) _ _ s;refine Calls.spliced_cons ?_;refine wpAny_Call_Name_kw<|Zgc I hgR hmR Zum ?_;refine PyProof.Rows.callWith_type1 (thn (ha pos2 pins s σ H _ I h) λus s1 ⟨vs,H1,I1,r1,q1⟩=>?_) hs rfl;obtain⟨p,ns,e,hx,hl,q⟩:=q1;subst e;obtain⟨u,rfl,ru⟩:=vals1 r1;cases (show u=Value.ref p from ru);obtain⟨its,w1,p1,hz⟩:=I1.list hx;have hi:=Zdi w1;have hlen:=hi.length;refine Zqm (I1.ok.hd hc) p1.isList (by simpa using hi) (by rw[Waj];unfold scanBound;omega) λh' tk hS hk=>?_;rw[show its.toArray.size=ns.length by rw[Waj];exact hlen]at hS;refine Calls.spliced_nil ?_;have I2:Inv X pins σ H1 { s1 with heap:=h',toks:=tk }:=I1.kept hk;have hm:=Zm2 (λi=>ns.getD i 0) ns.length;refine Zof (s:={ s1 with heap:=h',toks:=tk }) (I1.ok.hd hc) hS (by omega) λh2 tk2 dr l out ms c k2 hl2 ho2 hi2 hp2 hs2=>?_;have hml:=hp2.length_eq;have nd:ms.Nodup:=by
  obtain⟨_,_,_,_,g⟩:=hS;exact hp2.nodup_iff.mpr g.nd
 have I3:=(I2.laid (t':=tk2) k2 hl2 (show ObjOk X.prog X.w _ h2 l (.lst<|ms.map V.int) from ⟨by rw[Wab];exact Wb0 (small1000<|by omega),out,c,Zfc hi2,ho2⟩)).drew dr;exact⟨.ref l,_,I3,rfl,q l ms (Zry hs2 nd) (λx=>hp2.mem_iff.trans Zjw)<|I2.hok.fresh hl2⟩
end
section
variable {K:W.Frag}{Δ:Evt}
theorem Zyc {ta:TA}{Po:OD->Evt->Prop}(h:JA K ta Δ λds Δ1=>∃ns:List Int,ds=[.lst (ns.map .int)]/\ns.length<64/\∀ms:List Int,ms.Pairwise (· < ·)->(∀x,x∈ms↔x∈ns)->Po (.lst<|ms.map .int) Δ1):JO K (tSS K ta) Δ Po:=λg G H σ Q k c=>
 h g G H σ _ k λvs ds G1 H1 Δ1 k1 s1 r1 hq_=>by
  obtain⟨ns,e,hl,p⟩:=hq_;subst e;obtain⟨_,_,rfl,r,t⟩:=r1.inv
  next=>
   cases t.inv;obtain⟨a,us,rfl,ha,rr⟩:=r.inv
   next=>
    have ev:=rr.ints;subst ev;refine⟨a,ns,rfl,SqL.of<|k1.live _ _ ha,hl,λl ms o1 o2 hl=>?_⟩;obtain⟨k2,pd⟩:=k1.fresh (od:=.lst<|ms.map .int) hl (show OwnRep K G1 (.lst<|ms.map V.int) (.lst<|ms.map .int) from Reps.ofInts ms);exact c l _ G1 _ Δ1 k2 s1 pd<|p ms o1 o2
end
structure CompScK (osc:Scope) (oN:List Str) (y:Str) (scope:Scope) (fvs:List Str) (sel:List Nat):Prop where
 kind:scope.kind=.function
 one:scope.names.filter (λz=>z.2 == .cell)=[(y,.cell)]
 own:∀z∈scope.names,z.1=y->z.2=.cell
 names:∀z∈scope.names,z.2=.local->scope.names.lookup z.1=some .local
 free:∀z∈scope.names,z.2=.free->osc.names.lookup z.1=some .cell\/osc.names.lookup z.1=some .free
 len:fvs.length=sel.length
 fv:∀p∈fvs.zip sel,oN[p.2]?=some p.1/\scope.names.lookup p.1=some .free
def compCxK (X:Cx) (y:Str) (scope:Scope) (N:List Str) (C:Addr) (s:Shared) (H:Hp) (ex:List Addr) (pn:List (Addr × Obj)):Cx:=
 { compCx X scope N C s H ex pn with env:=compEnvC scope ((y,C+1)::clOf X.env scope.names []) C X.env,fn:=λx=>x == y }
theorem Zes {y:Str}:∀(names:List (Str × NameKind)) (n:Nat) (acc:List (Str × Addr)),(names.filter (λz=>z.2 == .cell)=[]->cellsFrom n names acc=acc)/\(names.filter (λz=>z.2 == .cell)=[(y,.cell)]->cellsFrom n names acc=(y,n)::acc)
 |[],n,acc=>⟨λ_=>rfl,λh=>by simp at h⟩
 | (x,k)::r,n,acc=>by
  unfold cellsFrom;rw[Wbs];cases hk:k == NameKind.cell with
  |true=>
   simp only[hk,if_true];refine⟨λh=>by simp at h,λh=>?_⟩;have h1:=(Wdh.inj h).1;have h2:=(Wdh.inj h).2;cases h1;exact(Zes (y:=y) r (n+1) _).1 h2
  |false=>
   simp only[hk,Wbh,if_false];exact Zes r n acc
theorem Zeu {y:Str}:∀(names:List (Str × NameKind)) (h:Heap),(names.filter (λz=>z.2 == .cell)=[]->pushCells h names=h)/\(names.filter (λz=>z.2 == .cell)=[(y,.cell)]->pushCells h names=h.push { cls:=.type "cell",data:=.cell none })
 |[],h=>⟨λ_=>rfl,λh=>by simp at h⟩
 | (x,k)::r,h=>by
  unfold pushCells;rw[Wbs];cases hk:k == NameKind.cell with
  |true=>
   simp only[hk,if_true];exact⟨λh=>by simp at h,λe=>(Zeu (y:=y) r _).1 (Wdh.inj e).2⟩
  |false=>
   simp only[hk,Wbh,if_false];exact Zeu r h
section
variable {X:Cx}{pins:List (Addr × Obj)}{σ:St}{H:Hp}{s:Shared}{fp:List Addr}{scope:Scope}{tgs fvs:List Str}{sel:List Nat}{y:Str}
theorem newEnvK {M:Model}{A:Around}{E:Value->Shared->Prop}{osc:Scope}{oN:List Str}{g:Addr}{cl:List (Str × Addr)}{qual:Str}{env:Env}{Q:Env->Shared->Prop}(S:CompScK osc oN y scope fvs sel)
  (q:∀h',h'.Ns s.heap.objs.size (λ_=>none)->h'.IsCell (s.heap.objs.size+1) none->(∀b o,s.heap.get? b=some o->h'.get? b=some o) →
   Q { scope,locals:=s.heap.objs.size,globals:=g,cells:=(y,s.heap.objs.size+1)::cl,qual,func:=none,code:=env.code,frame:=env.frame,builtins:=env.builtins } { s with heap:=h' }) :
  wpAny M A (newFunctionEnv scope g cl [] qual none .none<|some env) Q E s:=by
 simp only[newFunctionEnv,Option.isSome_some,if_true];refine wpAny_bind<|wpAny_alloc ?_;refine wpAny_bind<|wpAny_layCells _ (λname kind cells=>by cases hkc:kind == NameKind.cell <;> simp[hkc]) _ _ _ _ ?_
 have hsz:(s.heap.push { cls:=.type "dict",data:=.dict #[] }).objs.size=s.heap.objs.size+1:=Wd2 ..;rw[(Zes (y:=y) _ _ _).2 S.one,(Zeu (y:=y) _ _).2 S.one];show wpAny M A _ Q E { s with heap:=(s.heap.push { cls:=.type "dict",data:=.dict #[] }).push { cls:=.type "cell",data:=.cell none } };refine wpAny_bind<|wpAny_pure<|wpAny_pure ?_;have hc:((s.heap.push { cls:=.type "dict",data:=.dict #[] }).push { cls:=.type "cell",data:=.cell none }).get? (s.heap.objs.size+1)=some { cls:=.type "cell",data:=.cell none }:=by
  rw[<- hsz];exact Wax _ rfl
 have z:=q _ ((Heap.Ns.new s.heap (.type "dict")).keeps λb o e=>Waf { cls:=.type "cell",data:=.cell none } e) ⟨_,hc,rfl⟩ λb o e=>Waf _<|Waf _ e;rw[<- hsz]at z;exact z
theorem ownK {env:Env}{names:List (Str × NameKind)}{n:Nat}{x:Str}{c:Addr}(e:((y,n)::clOf env names []).lookup x=some c):(x=y/\c=n)\/env.cells.lookup x=some c:=by
 rw[Wcf]at e;split at e
 ·rename_i h
  cases e;exact .inl ⟨by simpa using h,rfl⟩
 ·exact .inr<|Zb6 _ _ (λ_ _ z=>by simp at z) e
theorem Zhs (S:CompScK X.env.scope X.N y scope fvs sel) (ok:X.Ok):∀n,(n,NameKind.free)∈scope.names->∃a,X.env.cells.lookup n=some a:=λn hn=>
 ok.has n (S.free _ hn rfl)
theorem Zsa (S:CompScK X.env.scope X.N y scope fvs sel) (N:List Str) (I:Inv X pins σ H s) (hf:∀b∈fp,FpOk X pins H b) (hlt:∀b∈fp,b<s.heap.objs.size):(compCxK X y scope N s.heap.objs.size s H fp<|X.pn++pins).Ok where
 mod:=I.ok.mod
 kind:=S.kind
 glob:=I.ok.glob
 blt:=I.ok.blt
 above:=Wak _
 inj:=λx z c h1 h2=>by
  have old:∀x,X.env.cells.lookup x=some c->c≠s.heap.objs.size+1:=λx e=>by
   obtain⟨v,q⟩:=I.cell x c e;exact Wa2<|Wb7 q.lt
  rcases ownK h1 with ⟨a,b⟩|a
  ·rcases ownK h2 with ⟨a',b'⟩|a'
   ·rw[a,a']
   ·exact absurd b<|old _ a'
  ·rcases ownK h2 with ⟨a',b'⟩|a'
   ·exact absurd b'<|old _ a
   ·exact I.ok.inj x z c a a'
 has:=λx hx=>by
  by_cases hxy:x=y
  ·subst hxy
   exact⟨s.heap.objs.size+1,by show ((x,_)::clOf X.env scope.names []).lookup x=_;simp⟩
  have hm:(x,NameKind.free)∈scope.names:=by
   have key:∀k,(k=.cell\/k=.free)->(relab X.env.scope scope).names.lookup x=some k->(x,NameKind.free)∈scope.names:=λk hk h=>by
    obtain⟨⟨n,j⟩,hy,e⟩:=Wa3.mp<|PySem.mem_of_lookup h;dsimp only at e;split at e
    ·rename_i hj
     have e1:n=x:=congrArg Prod.fst e;have hj':j=.free:=by
      simp only[Wbj,beq_iff_eq]at hj;exact hj.1.1
     rw[<- e1,<- hj'];exact hy
    ·have e1:n=x:=congrArg Prod.fst e
     have e2:j=k:=congrArg Prod.snd e;rcases hk with z|z
     ·have hin:((n,j):Str × NameKind)∈scope.names.filter (λz=>z.2 == .cell):=Wai.mpr ⟨hy,by rw[e2,z];rfl⟩
      rw[S.one,Wa7]at hin;exact absurd (e1.symm.trans<|congrArg Prod.fst hin) hxy
     ·rw[<- e1,<- z,<- e2];exact hy
   rcases hx with z|z
   ·exact key _ (.inl rfl) z
   ·exact key _ (.inr rfl) z
  obtain⟨c,hc⟩:=Zem scope.names [] hm (Zhs S I.ok x hm);exact⟨c,by
   show ((y,_)::clOf X.env scope.names []).lookup x=_;rw[Wcf,show (x == y)=false from by simpa using hxy];exact hc⟩
 cab:=λx c h e=>by
  rcases ownK e with ⟨_,z⟩|z
  ·rw[z];exact Wcy _
  ·have hx:x=y:=by simpa using (show (x == y)=true from h)
   subst hx;have:((x,s.heap.objs.size+1)::clOf X.env scope.names []).lookup x=some c:=e;simp at this;rw[<- this];exact Wcy _
 hd:=I.ok.hd
 frames:=I.ok.frames
 stk:=.inl rfl
 exf:=λb hb=>⟨Wa2 (hlt b hb),λx c e=>by
  rcases ownK e with ⟨_,z⟩|z
  ·rw[z];exact Weh<|Wb7<|hlt b hb
  ·exact(hf b hb).2.2.2.2.1 x c z⟩
 bs:=I.bs
 bsz:=Wbz I.ok.bsz I.sz
 noex:=λb o e hb=>by
  rcases(hf b hb).2.2.2.1 with z|z
  ·exact I.ok.noex b o e z
  ·exact absurd (Wbp (Was e)<|Wbz I.ok.bsz z)<|Wc5 _
 exfs:=λb hb z=>by
  rcases Waq.mp (I.stkSub b z) with e|z
  ·exact(hf b hb).2.1 e
  ·exact(hf b hb).2.2.1 z
 funs:=I.stack
 frf:=I.stkFree
theorem Zpr (S:CompScK X.env.scope X.N y scope fvs sel) (I:Inv X pins σ H s) (hf:∀b∈fp,FpOk X pins H b) (hlt:∀b∈fp,b<s.heap.objs.size) {h':Heap}{tk:Nat}{m:Str->Option Value}
  (hns:h'.Ns s.heap.objs.size m) (hcl:h'.IsCell (s.heap.objs.size+1) none) (old:∀b o,s.heap.get? b=some o->h'.get? b=some o) :
  Inv (compCxK X y scope (tgs++fvs) s.heap.objs.size s H fp<|X.pn++pins) [] (compSt tgs.length sel σ) H { s with heap:=h',toks:=tk } where
 ok:=Zsa S _ I hf hlt
 os:=rfl
 bare:=I.bare
 base:=Un.kept old
 loc:=by
  refine⟨m,hns,λi x v h1 h2 h3=>?_⟩;have h1:(tgs++fvs)[i]?=some x:=h1;unfold compSt at h2;by_cases hi:i<tgs.length
  ·rw[Wbc (by simpa using hi),Wc2,if_pos hi]at h2
   cases h2
  ·have hi':tgs.length<=i:=Nat.le_of_not_lt hi
   rw[Wa1 (by simpa using hi'),Wad,Wa8]at h2;rw[Wa1 hi']at h1;cases hj:sel[i-tgs.length]? with
   |none=>rw[hj]at h2;cases h2
   |some j=>
    rw[hj]at h2;have h2:(σ[j]?).getD none=some v:=by simpa using h2
    have hz:(x,j)∈fvs.zip sel:=by
     refine Way (i:=i-tgs.length) ?_;rw[Wce];exact⟨h1,hj⟩
    obtain⟨hN,hfr⟩:=S.fv _ hz;have hσ:σ[j]?=some (some v):=by
     cases q:σ[j]? with
     |none=>rw[q]at h2;cases h2
     |some o=>rw[q]at h2;exact congrArg some h2
    have hko:X.env.scope.names.lookup x=some .cell\/X.env.scope.names.lookup x=some .free:=S.free (x,.free) (PySem.mem_of_lookup hfr) rfl;obtain⟨m0,hn0,hl0⟩:=I.loc;obtain⟨u,r,l⟩:=hl0 j x v hN hσ (.inr hko);refine⟨u,r,.inr ⟨Zgm hfr,?_⟩⟩;rcases l with ⟨hk,_⟩|⟨_,c,hc,hcell⟩
    ·have hk:X.env.scope.names.lookup x=some .local:=hk
     rcases hko with z|z <;> (rw[hk]at z;cases z)
    ·obtain⟨c',hc'⟩:=Zem scope.names [] (PySem.mem_of_lookup hfr) ⟨c,hc⟩
     have e:=Zb6 scope.names [] (λ_ _ z=>by simp at z) hc';rw[hc]at e;cases e;obtain⟨o,ho,hd⟩:=hcell;have hxy:(x == y)=false:=by
      cases q:x == y with
      |false=>rfl
      |true=>
       have:x=y:=by simpa using q
       have:=S.own (x,.free) (PySem.mem_of_lookup hfr) this;cases this
     exact⟨c,by show ((y,s.heap.objs.size+1)::clOf X.env scope.names []).lookup x=some c;rw[Wcf,hxy];exact hc',o,old _ _ ho,hd⟩
 cell:=λx c e=>by
  rcases ownK e with ⟨_,z⟩|z
  ·rw[z];exact⟨none,hcl⟩
  ·obtain⟨v,o,ho,hd⟩:=I.cell x c z
   exact⟨v,o,old _ _ ho,hd⟩
 free:=I.hok.fresh<|Wak _
 freeC:=λx c e=>by
  rcases ownK e with ⟨_,z⟩|z
  ·rw[z];exact I.hok.fresh<|Wcy _
  ·exact I.freeC x c z
 pin:=λp hp=>by
  have hp:p∈(X.pn++pins)++[]:=hp;rw[Wa4]at hp;obtain⟨e,n,ne,nf,d⟩:=I.pin p hp;refine⟨old _ _ e,n,Wa2<|Was e,λz=>?_,d⟩;rcases Waq.mp (I.stkSub p.1 z) with q|q
  ·exact ne q
  ·exact nf q
 hok:=I.hok.kept old
 len:=by
  unfold compSt;show _=(tgs++fvs).length;rw[Wan,Wan,Wa8,Wab,S.len]
theorem Zob {N:List Str}{σ':St}{H':Hp}{s':Shared}{h':Heap}(I:Inv X pins σ H s) (hf:∀b∈fp,FpOk X pins H b)
  (J:Inv (compCxK X y scope N s.heap.objs.size s H fp<|X.pn++pins) [] σ' H' s') (sb:Heap.SameBut s.heap.objs.size s'.heap h'):Inv X pins σ H' { s' with heap:=h' }:=by
 have B:Un (frs X.stack) fp H H' s.heap s'.heap:=J.base;have ne:∀b o,s.heap.get? b=some o->b≠s.heap.objs.size:=λb o e=>Wa2<|Was e;have fr:H' s.heap.objs.size=none:=J.free;refine I.call' (s':={ s' with heap:=h' }) (ch:=fp) J.os ⟨λb o e n h1 h2=>?_,λb o e n h1 h2=>?_,B.free,λb o e h2=>?_,B.tups,B.frzs,B.tbls⟩ (λb ob e=>?_) J.bare λb hb=>?_
 ·exact(sb.2 b<|ne b o e).trans (B.keep b o e n h1 h2)
 ·obtain⟨sl,q⟩:=B.slot b o e n h1 h2
  exact⟨sl,(sb.2 b<|ne b o e).trans q⟩
 ·obtain⟨o',q⟩:=B.there b o e h2
  exact⟨o',(sb.2 b<|ne b o e).trans q⟩
 ·refine(J.hok b ob e).stay (λc w' hc q=>(sb.2 c ?_).trans q) (λ_ q=>q) λ_ _ q=>q
  intro z;rcases hc with hc|hc
  ·rw[<- hc,z,fr]at e;cases e
  ·rw[z,fr]at hc;cases hc
 ·exact⟨(hf b hb).2.2.2.1,(hf b hb).2.1,(hf b hb).2.2.2.2.1,(hf b hb).2.2.2.2.2⟩
end
section
variable {X:Cx}
theorem Zn1 {y:Str}{elt tg iter:Expr}{ifs:List Expr}{scope:Scope}{pos:Pos}{tgs fvs:List Str}{sel:List Nat}{g:TG}{tc:TT}{te:TE}(S:CompScK X.env.scope X.N y scope fvs sel) (hc:X.calm=true)
  (hg:∀C s H ex pn,PG (compCxK X y scope (tgs++fvs) C s H ex pn) tg g) (ht:∀C s H ex pn,PTs (compCxK X y scope (tgs++fvs) C s H ex pn) ifs tc) (he:∀C s H ex pn,PE (compCxK X y scope (tgs++fvs) C s H ex pn) elt te)
  {pins:List (Addr × Obj)}{σ:St}{s:Shared}{itv:Value}{Q:VK}{E:Value->Shared->Prop}{RR:Value->Addr->Result->Shared->Prop}
  (h2:PIE X pins σ tg (λJ H1=>∀acc,H1 acc=none->∃W:Nat->Nat->St->Hp->Prop,
   (∃m,W 0 m (compSt tgs.length sel σ) (upd H1 acc (.lst [])))/\∀i m σ' H',W i m σ' H' →
   (J.stop i H' /\ Q (.ref acc) H')\/(J.go i H' /\ ∃N:St->Hp->Prop,(∀σ2 H2,N σ2 H2->∃m',m'<m/\W (i+1) m' σ2 H2) ∧
   ∀x H2,J.yld i H' x H2->g x σ' H2 λσ2 H3=>tc σ2 H3 λb H4=>if b=true then te σ2 H4 λy H5=>∃ys,H5 acc=some (.lst ys)/\ys.length<sizeLine/\N σ2 (upd H5 acc (.lst (ys++[y]))) else N σ2 H4)) itv s)
  (fin:∀(s':Shared) (C acc:Addr) (H':Hp) (m:Str->Option Value),s'.heap.Ns C m->FpOk X pins H' C->(∀h',Heap.SameBut C s'.heap h' -> Inv X pins σ H' { s' with heap:=h' })->Q (.ref acc) H' -> RR (.ref acc) C (.ok .next) s') :
  wpAny (model X.prog X.w) X.A (newList []) (λacc s3=>wpAny (model X.prog X.w) X.A (newFunctionEnv scope X.env.globals (clOf X.env scope.names []) [] X.env.qual none .none (some X.env)) (λcenv s4=>
   codeAny (model X.prog X.w) X.A (.compStart (.ListComp elt [⟨tg,iter,ifs,0⟩] scope pos) 0 itv acc { cenv with scope:=relabel scope X.env }) (RR acc cenv.locals) s4) E s3) E s:=by
 obtain⟨it,fp,tn,J,H1,e,I,T,st,f2,h2⟩:=h2;subst e;have hlt:∀b∈fp,b<s.heap.objs.size:=λb hb=>let ⟨o,ho,_⟩:=T.obj 0 _ st b hb; Was ho
 refine wpAny_newObj_type (newEnvK S λh1 hns hcl old=>?_);dsimp only at hns hcl old ⊢;have I3:Inv X pins σ (upd H1 s.heap.objs.size (.lst [])) { s with heap:=s.heap.push { cls:=.type "list",data:=.seq ([]:List Value).toArray },toks:=s.toks }:=I.lnew (its:=[]) .nil (by decide);have hacc:H1 s.heap.objs.size=none:=I.hok.fresh<|Wak _;obtain⟨W,⟨m0,w0⟩,turn⟩:=h2 s.heap.objs.size hacc;generalize hs3:({ s with heap:=s.heap.push { cls:=.type "list",data:=.seq ([]:List Value).toArray },toks:=s.toks }:Shared)=s3 at I3;have hh3:s3.heap=s.heap.push { cls:=.type "list",data:=.seq ([]:List Value).toArray }:=by rw[<- hs3]
 have old3:∀b o,s.heap.get? b=some o->s3.heap.get? b=some o:=λb o q=>by rw[hh3];exact Waf _ q
 have hf3:∀b∈fp,FpOk X pins (upd H1 s.heap.objs.size (.lst [])) b:=λb hb=>⟨by rw[Za9 (Wa2<|hlt b hb)];exact(f2 b hb).1,(f2 b hb).2⟩;have hlt3:∀b∈fp,b<s3.heap.objs.size:=λb hb=>by rw[hh3,Wd2];exact Wb7<|hlt b hb
 have tn3:tn 0 s3.heap:=T.keep 0 _ _ st λb hb o q=>old3 b o q;have old4:∀b o,s3.heap.get? b=some o->h1.get? b=some o:=λb o q=>by
  rw[hh3]at q;exact old b o q
 have tn4:tn 0 h1:=T.keep 0 _ _ tn3 λb hb o q=>old4 b o q;have hC:(s.heap.push { cls:=.type "list",data:=.seq ([]:List Value).toArray }).objs.size=s3.heap.objs.size:=by rw[hh3]
 rw[hC]at hns hcl;have J0:=Zpr (tgs:=tgs) (tk:=s.toks) S I3 hf3 hlt3 hns hcl old4;have es:({ s3 with heap:=h1,toks:=s.toks }:Shared) = { s with heap:=h1,toks:=s.toks }:=by rw[<- hs3]
 rw[es]at J0;generalize hY:compCxK X y scope (tgs++fvs) s3.heap.objs.size s3 (upd H1 s.heap.objs.size (.lst [])) fp (X.pn++pins)=Y at J0;have hYp:Y.prog=X.prog:=by rw[<- hY];rfl
 have hYw:Y.w=X.w:=by rw[<- hY];rfl
 have hYK:Y.K=X.K:=by rw[<- hY];rfl
 have hYA:Y.A=X.A:=by rw[<- hY];rfl
 have hYc:Y.calm=true:=by rw[<- hY];exact hc
 have hYx:Y.xe=λ_ _=>False:=by rw[<- hY];rfl
 have hYe:Y.env=compEnvC scope ((y,s3.heap.objs.size+1)::clOf X.env scope.names []) s3.heap.objs.size X.env:=by rw[<- hY];rfl
 have stat:∀{H':Hp},(∀b∈fp,H' b=none)->∀b∈fp,FpOk Y [] H' b:=λhn b hb=>by
  rw[<- hY];refine⟨hn b hb,Wa2<|hlt3 b hb,λz=>?_,.inl hb,λx c e=>?_,λp hp z=>?_⟩
  ·rcases Waq.mp (I3.stkSub b z) with q|q
   ·exact(hf3 b hb).2.1 q
   ·exact(hf3 b hb).2.2.1 q
  ·rcases ownK e with ⟨_,z⟩|z
   ·rw[z];exact Weh<|Wb7<|hlt3 b hb
   ·exact(hf3 b hb).2.2.2.2.1 x c z
  ·have hp:p∈(X.pn++pins)++[]:=hp
   rw[Wa4]at hp;exact(hf3 b hb).2.2.2.2.2 p hp z
 have loop:codeAny (model X.prog X.w) X.A (.compLoop (.ListComp elt [⟨tg,iter,ifs,0⟩] scope pos) 0 (.ref it) (.ref s.heap.objs.size) Y.env) (RR (.ref s.heap.objs.size) s3.heap.objs.size)
   { s with heap:=h1,toks:=s.toks }:=by
  refine codeAny_loop rfl (λn s'=>∃i σ' H',Inv Y [] σ' H' s' /\ tn i s'.heap/\(∀b∈fp,H' b=none)/\W i n σ' H') ?_ m0 ⟨0,_,_,J0,tn4,λb hb=>(hf3 b hb).1,w0⟩;rintro n s5 ⟨i,σ5,H5,I5,st5,fr5,w5⟩;show wpAny _ X.A ((compTurn (.ListComp elt [⟨tg,iter,ifs,0⟩] scope pos) 0 (.ref it) (.ref s.heap.objs.size) Y.env).onRaise (λx=>do noteFrame x Y.env;theTreesLotGoes x)) _ _ s5;refine wpAny_noted (wpAny_mono (E:=λ_ _=>False) ?_ (λ_ _ q=>q) λ_ _ z=>z.elim);rw[compTurn_list];refine wpAny_bind<|wpAny_standAt<|wpAny_bind ?_;rcases turn i n σ5 H5 w5 with ⟨stop,qn⟩|⟨go,N,hN,step⟩
  ·have D:=T.done Y hYp hYw hYK hYc i [] s5 σ5 H5 (λ_ _=>False) I5 (stat fr5) st5 stop
   rw[hYA]at D;refine thn D λr s6 ⟨hr,I6⟩=>?_;subst hr;refine wpAny_pure ?_;obtain⟨m6,hn6,_⟩:=I6.loc;rw[hYe]at hn6;refine fin s6 _ _ H5 m6 hn6 (I3.fpOk (Wak _) (by have z:=I6.free;rw[hYe]at z;exact z)) (λh' sb=>?_) qn;have I6':Inv (compCxK X y scope (tgs++fvs) s3.heap.objs.size s3 (upd H1 s.heap.objs.size (.lst [])) fp<|X.pn++pins) [] σ5 H5 s6:=by rw[hY];exact I6
   exact Zob I3 hf3 I6' sb
  ·have D:=T.item Y hYp hYw hYK hYc i [] s5 σ5 H5 (λ_ _=>False) I5 (stat fr5) st5 go
   rw[hYA]at D;refine thn D λr s6 ⟨u,hr,h6⟩=>?_;subst hr;refine wpAny_bind (thn h6 λ_ s7 ⟨x,H7,I7,r7,y7,st7,fr7⟩=>?_);have I7':=I7.pinned (stat fr7)<|T.obj _ _ st7;have G:=hg s3.heap.objs.size s3 (upd H1 s.heap.objs.size (.lst [])) fp<|X.pn++pins;have TT:=ht s3.heap.objs.size s3 (upd H1 s.heap.objs.size (.lst [])) fp<|X.pn++pins;have EE:=he s3.heap.objs.size s3 (upd H1 s.heap.objs.size (.lst [])) fp<|X.pn++pins;rw[hY]at G TT EE;have G1:=G _ s7 σ5 H7 x u _ I7' r7<|step x H7 y7;rw[hYp,hYw,hYA,hYx]at G1;refine wpAny_bind (thn G1 λ_ s8 ⟨σ8,H8,I8,q8⟩=>?_);have T1:=TT _ s8 σ8 H8 _ I8 q8;rw[hYp,hYw,hYA,hYx]at T1;refine wpAny_bind (thn T1 λok s9 ⟨H9,I9,q9⟩=>?_);have again:∀{s':Shared}{σ':St}{H':Hp},Inv Y ([]++pinsAt fp s7.heap) σ' H' s' -> N σ' H' -> ∃m,m<n/\∃i σ' H',Inv Y [] σ' H' s' /\ tn i s'.heap/\(∀b∈fp,H' b=none)/\W i m σ' H':=λ{s' σ' H'} K7 n7=>by
    obtain⟨m',hm,w7⟩:=hN σ' H' n7;refine⟨m',hm,i+1,σ',H',K7.unpinned,T.keep _ _ _ st7 λb hb o e=>(K7.pin (b,o)<|Waw _<|Waw _<|Zdj hb e).1,λb hb=>?_,w7⟩;obtain⟨o,e,d⟩:=T.obj _ _ st7 b hb;exact(K7.pin (b,o)<|Waw _<|Waw _<|Zdj hb e).2.1
   cases ok with
   |false=>
    have q9:N σ8 H9:=q9;exact wpAny_pure ⟨by rw[hYe],again I9 q9⟩
   |true=>
    have q9:te σ8 H9 λy H5=>∃ys,H5 s.heap.objs.size=some (.lst ys)/\ys.length<sizeLine/\N σ8 (upd H5 s.heap.objs.size (.lst<|ys++[y])):=q9;have E1:=EE _ s9 σ8 H9 _ I9 q9;rw[hYp,hYw,hYA,hYx]at E1;refine wpAny_bind<|wpAny_bind (thn E1 λv sa ⟨y,Ha,Ia,ra,ys,ea,za,na⟩=>?_);have M:=Zdd (X:=Y) _ sa σ8 Ha (.ref s.heap.objs.size) [y] (.ref s.heap.objs.size) [v] (λ_ H=>N σ8 H) Ia rfl (.cons ra .nil) ⟨_,ys,y,rfl,rfl,ea,za,na⟩;rw[hYp,hYw,hYA,hYx]at M;refine wpAny_bind (thn M λ_ sb ⟨_,Hb,Ib,_,nb⟩=>wpAny_pure<|wpAny_pure ⟨by rw[hYe],again Ib nb⟩)
 have hcs:(relabel scope X.env)=(relabel scope X.env):=rfl;have loop':=loop;rw[hYe]at loop';show codeAny (model X.prog X.w) X.A (.compStart (.ListComp elt [⟨tg,iter,ifs,0⟩] scope pos) 0 (.ref it) (.ref s.heap.objs.size)<|compEnvC scope ((y,(s.heap.push { cls:=.type "list",data:=.seq ([]:List Value).toArray }).objs.size+1)::clOf X.env scope.names []) (s.heap.push { cls:=.type "list",data:=.seq ([]:List Value).toArray }).objs.size X.env) (RR (.ref s.heap.objs.size) (s.heap.push { cls:=.type "list",data:=.seq ([]:List Value).toArray }).objs.size) _;rw[hC];exact codeAny_compStart_list loop'<|T.self _ 0 _ _ _ tn4 loop'
theorem Zlh {y:Str}{elt tg iter:Expr}{ifs:List Expr}{scope:Scope}{pos:Pos}{fvs:List Str}{sel:List Nat}{wi:TI}{g:TG}{tc:TT}{te:TE}(tgs:List Str) (S:CompScK X.env.scope X.N y scope fvs sel) (hc:X.calm=true)
  (hi:PI X tg iter wi) (hg:∀C s H ex pn,PG (compCxK X y scope (tgs++fvs) C s H ex pn) tg g) (ht:∀C s H ex pn,PTs (compCxK X y scope (tgs++fvs) C s H ex pn) ifs tc) (he:∀C s H ex pn,PE (compCxK X y scope (tgs++fvs) C s H ex pn) elt te)
  (hs:∀x,foldedSetIterable iter X.env x=pure x:=by intro _;rfl) :
  PE X (.ListComp elt [⟨tg,iter,ifs,0⟩] scope pos) (tComp tgs.length sel wi g tc te):=by
 intro pins s σ H Q I h;rw[eval_ListComp];refine wpAny_comprehension_free (use:=none) rfl hs (Zdo<|Zhs S I.ok) S.kind S.names (thn (hi pins s σ H _ I h) λv s1 h1=>thn h1 λitv s2 h2=>?_);refine Zn1 S hc hg ht he (RR:=λacc C=>compPost (model X.prog X.w) X.A X.xe none (EP X pins σ Q) acc C) (Q:=Q) h2 ?_;intro s' C acc H' m hn _ hI q;exact⟨m,hn,λh' sb=>⟨.ref acc,H',hI h' sb,rfl,q⟩⟩
end
open PySem PySem.Spec PyProof.Rows PySem.SeqAt
section
variable {X:Cx}
theorem intsAt {its:List Value}{ns:List Int}(hi:IntsAre its ns):∀j (h:j<its.length),∃t,its[j]=.int (ns.getD j 0) t:=by
 induction hi with
 |nil=>intro j h;simp at h
 |cons n t _ ih=>
  intro j h;cases j with
  |zero=>exact⟨t,rfl⟩
  |succ j=>simpa using ih j (by simpa using h)
def rNeI (K:W.Frag):R2:=λx y H Q=>∃(a b:Addr) (ns:List Int),x=.ref a/\y=.ref b/\SqL K H a (ns.map V.int)/\SqL K H b (ns.map V.int)/\Q (.bl false) H
theorem neIK (K:W.Frag) (hv:X.A.units+8<cLine) (hK:X.K=K:=by rfl):OpR X (compareOp .NotEq) (rNeI K):=by
 subst hK;intro pins s σ H x y v u Q I rx ry h;obtain⟨a,b,ns,rfl,rfl,ha,hb,q⟩:=h;cases rx;cases ry;obtain⟨its,w1,p1,_⟩:=I.list ha;obtain⟨its2,w2,p2,_⟩:=I.list hb;have i1:=Zdi w1;have i2:=Zdi w2;have l1:=i1.length;have l2:=i2.length;have hsz:its.toArray.size=its2.toArray.size:=by rw[Waj,Waj];omega
 refine RcNeAt.lists (A:=X.A) (s:=s) (e:=λ_=>true) p1.isList p2.isList hsz (by omega) (λj h1 h2=>?_) X.prog X.w _ _ ?_
 ·rw[Waj]at h1 h2
  obtain⟨t1,e1⟩:=intsAt i1 j h1;obtain⟨t2,e2⟩:=intsAt i2 j h2;rw[Wch,Wch,e1,e2];have:=EqAt.int_int (A:=X.A.in1) (s:=s) (ns.getD j 0) t1 (ns.getD j 0) t2;rw[beq_self_eq_true]at this;exact this
 ·have:(!(Wap its.toArray.size).all λ_=>true)=false:=by
   rw[Wbi.mpr (λ_ _=>rfl)];rfl
  rw[this];exact⟨.bl false,H,I,rfl,q⟩
end
section
variable {K:W.Frag}{Δ:Evt}{P:D->Evt->Prop}
theorem Zui {ns:List Int}(p:P (.bl false) Δ):JR2 K (rNeI K) (.lst<|ns.map .int) (.lst<|ns.map .int) Δ P:=λg G H σ Q x y k rx ry c=>by
 obtain⟨a,vs,rfl,ha,rs⟩:=rx.inv
 next=>
  obtain⟨b,us,rfl,hb,rt⟩:=ry.inv
  next=>
   have e1:=rs.ints;have e2:=rt.ints;subst e1 e2;exact⟨a,b,ns,rfl,rfl,SqL.of<|k.live _ _ ha,SqL.of<|k.live _ _ hb,c _ _ G H Δ k (Same.refl _) (.bl _) p⟩
theorem Zj1 {r r':R2}{ta tb tc:TE}(h:JE K ta Δ λd Δ1=>JE K tb Δ1 λe Δ2=>JR2 K r d e Δ2 λz Δ3=>∃k,z=.bl k/\if k=true then JE K tc Δ3 λu Δ4=>JR2 K r' e u Δ4 P else P (.bl false) Δ3):JE K (tChain r r' ta tb tc) Δ P:=λg G H σ Q k c=>
 h g G H σ _ k λx d G1 H1 Δ1 k1 s1 r1 p1=>p1 g G1 H1 σ _ k1 λy e G2 H2 Δ2 k2 s2 r2 p2=>p2 g G2 H2 σ _ x y k2 (r1.mono s2) r2 λz dz G3 H3 Δ3 k3 s3 r3 hq_=>by
  obtain⟨b,eb,p3⟩:=hq_;subst eb;cases r3.inv;refine⟨b,rfl,?_⟩;cases b with
  |true=>
   rw[if_pos rfl]at p3 ⊢;exact p3 g G3 H3 σ _ k3 λu du G4 H4 Δ4 k4 s4 r4 p4=>p4 g G4 H4 σ Q y u k4 (r2.mono<|s3.trans s4) r4<|c.up<|s1.trans<|s2.trans<|s3.trans s4
  |false=>
   rw[if_neg Wag]at p3 ⊢;exact c _ _ G3 H3 Δ3 k3 (s1.trans<|s2.trans s3) (.bl false) p3
theorem Zl2 {b:Bool}(p:P (.int (if b then 1 else 0)) Δ):JC K (λxs H Q=>(∃i,xs=[.int i]/\Q (.int i) H)\/∃k,xs=[.bl k]/\Q (.int (if k then 1 else 0)) H) [.bl b] Δ P:=λg G H σ Q vs k rs c=>by
 obtain⟨_,_,rfl,r,t⟩:=rs.inv
 next=>cases t.inv;cases r.inv;exact .inr ⟨b,rfl,c _ _ G H Δ k (Same.refl _) (.int _) p⟩
end
section
variable {X:Cx}
def rMax1 (K:W.Frag):List V->Hp->VK->Prop:=λxs H Q=>∃(b:Bool) (p:Addr) (ns:List Int),xs=[.ref p]/\SqB b K H p (ns.map V.int)/\0<ns.length/\∀m,m∈ns->(∀a∈ns,a<=m)->Q (.int m) H
theorem maxK (K:W.Frag) (hc:X.calm=true) (hK:X.K=K:=by rfl):CallR X (.builtin "max") (rMax1 K):=by
 subst hK;intro pins s σ H xs us Q I r h;obtain⟨b,p,ns,rfl,hx,hne,q⟩:=h;obtain⟨u,rfl,ru⟩:=vals1 r;cases (show u=Value.ref p from ru);obtain⟨its,w1,p1⟩:=I.seqB hx;have hlt:=p1.lt;have hl:=w1.length;rw[Wab]at hl;have hv:∀(i:Nat) v,its.toArray[i]?=some v->∃t,v=Value.int (ns.getD i 0) t:=λi v e=>by
  have hi:i<its.length:=by simpa using (Array.getElem?_eq_some_iff.mp e).1
  obtain⟨v',e1,t,e2⟩:=w1.get (i:=i) (x:=.int<|ns.getD i 0) (by rw[Wad,Wac,Waa (by omega)];rfl);rw[Wde,e1]at e;cases e;exact⟨t,e2⟩
 have fin:∀{h':Heap}{tk:Nat}{v:Value},its.toArray[argBest (λi j=>decide (ns.getD i 0 > ns.getD j 0)) (its.toArray.size-1)]?=some v->(∀c o,s.heap.get? c=some o->h'.get? c=some o)->EP X pins σ Q v { s with heap:=h',toks:=tk }:=λ{h' tk v} hP hk=>by
  obtain⟨t,rfl⟩:=hv _ _ hP;obtain⟨h1,h2⟩:=argBest_gt (λi=>ns.getD i 0)<|its.toArray.size-1;have hz:its.toArray.size=ns.length:=by simp[hl]
  rw[hz]at h1 h2 ⊢;refine⟨.int<|ns.getD (argBest (λi j=>decide (ns.getD i 0 > ns.getD j 0))<|ns.length-1) 0,H,I.kept hk,⟨_,rfl⟩,q _ ?_ λa ha=>?_⟩
  ·rw[Wac,Waa (by omega)];exact Wa0 _
  ·obtain⟨j,hj,rfl⟩:=Wcd.mp ha
   have:=h2 j (by omega);rw[Wac (l:=ns) (i:=j),Waa hj]at this;exact this
 have old:∀{o:Obj}{h':Heap},(∀c u,c ∉ [s.heap.objs.size]->(s.heap.push o).get? c=some u->h'.get? c=some u)->∀c u,s.heap.get? c=some u->h'.get? c=some u:=λhk c u e=>hk c u (λhm=>by
  have:c=s.heap.objs.size:=by simpa using hm
  exact absurd (this ▸ Was e) (Wc5 _)) (Waf _ e)
 have fp:∀o:Obj,∀c∈[s.heap.objs.size,p],c<(s.heap.push o).objs.size:=λo c hc=>by
  rw[Wd2];simp only[Waq,Wdi,or_false]at hc;rcases hc with rfl|rfl
  ·exact Nat.lt_succ_self _
  ·exact Wb7 hlt
 cases b
 ·refine call_max_walk (wpAny_pyIter_list p1 ?_)
  exact⟨_,_,_,_,_,_,_,rfl,Walks.list (A:=X.A.in1) (I.ok.hd hc) _ p (Wa2 hlt) its.toArray,⟨⟨_,Wax _ rfl,rfl,rfl⟩,Heap.IsList.push p1 _⟩,fp _,by simp;omega,CmpOf.ints_gt (λi=>ns.getD i 0) hv,λv h' tk hP hk=>fin hP<|old hk⟩
 ·refine call_max_walk (wpAny_pyIter_tuple p1 ?_)
  exact⟨_,_,_,_,_,_,_,rfl,Walks.tuple (A:=X.A.in1) (I.ok.hd hc) _ p (Wa2 hlt) its.toArray,⟨⟨_,Wax _ rfl,rfl,rfl⟩,Heap.IsTuple.push p1 _⟩,fp _,by simp;omega,CmpOf.ints_gt (λi=>ns.getD i 0) hv,λv h' tk hP hk=>fin hP<|old hk⟩
def sLDel (to ti:TE):TS:=λD σ H=>to σ H λx H1=>ti σ H1 λy H2=>∃l xs i k,x=.ref l/\y=.int i/\H2 l=some (.lst xs) /\ -(2 ^ 63)<=i/\i<2 ^ 63/\seqIndex? i xs.length=some k/\D.nx σ (upd H2 l (.lst<|xs.eraseIdx k))
theorem Zws {o i:Expr}{to ti:TE}{tpos pos:Pos}(ho:PE X o to) (hi:PE X i ti):PS X (.Delete [.Subscript o i tpos] pos) (sLDel to ti):=by
 intro pins s σ H D I h;refine wpAny_Delete<|wpAny_deleteEach_cons<|wpAny_delete_Subscript (thn (ho pins s σ H _ I h) λu s1 ⟨x,H1,I1,rx,q1⟩=>thn (hi pins s1 σ H1 _ I1 q1) λiv s2 ⟨y,H2,I2,ry,l,xs,i,k,ex,ey,e,b1,b2,hk,q2⟩=>?_);subst ex ey;obtain rfl:u=Value.ref l:=rx;obtain⟨t,rfl⟩:∃t,iv=Value.int i t:=ry;exact Ztl I2 e b1 b2 hk λs3 I3=>wpAny_deleteEach_nil ⟨σ,_,I3,q2⟩
end
section
variable {K:W.Frag}{Δ:Evt}
theorem Zvn {ns:List Int}{m:Int}{d:D}{P:D->Evt->Prop}(hd:d=.lst (ns.map .int)\/d=.tup (ns.map .int)) (hm:m∈ns) (hle:∀a∈ns,a<=m) (p:P (.int m) Δ):JC K (rMax1 K) [d] Δ P:=λg G H σ Q vs k rs c=>by
 have fin:∀m',m'∈ns->(∀a∈ns,a<=m')->Q (.int m') H:=λm' h1 h2=>by
  have:m'=m:=Int.le_antisymm (hle m' h1)<|h2 m hm;subst this;exact c _ _ G H Δ k (Same.refl _) (.int _) p
 have pos:0<ns.length:=Wco hm;obtain⟨_,_,rfl,r,t⟩:=rs.inv
 next=>
  cases t.inv;rcases hd with hd|hd <;> subst hd
  ·obtain⟨_,_,rfl,ha,rs⟩:=r.inv
   next=>have:=rs.ints;subst this;exact⟨false,_,ns,rfl,SqL.of<|k.live _ _ ha,pos,fin⟩
  ·obtain⟨_,_,rfl,ha,rs⟩:=r.inv
   next=>have:=rs.ints;subst this;exact⟨true,_,ns,rfl,SqT.of<|k.live _ _ ha,pos,fin⟩
theorem Zo0 {j n:Nat}(h:j<n):seqIndex? (j:Int) n=some j:=by
 unfold seqIndex?;simp;omega
theorem Zu7 {n:Nat}{ti:TE}{nx bk ct:Evt->Prop}{rt:D->Evt->Prop}{ro:OD->Evt->Prop}{x:Slot}{ds:List D}(hx:Δ[n]?=some x) (ho:x.od=some (.lst ds)) (h:JE K ti Δ λe Δ1=>∃y ds,∃j:Nat,Δ1[n]?=some y/\y.od=some (.lst ds)/\e=.int j/\j<ds.length/\ds.length<=1000/\nx (Δ1.set n<|y.put (.lst<|ds.eraseIdx j))) :
  JS K (sLDel (tVar n) ti) Δ ⟨nx,rt,bk,ct,ro⟩:=λg G H σ E k c=>by
 obtain⟨a,o,h1,h2,h3,h4,h5⟩:=k.own n x _ hx ho;refine⟨.ref a,h1,h g G H σ _ k λv e G1 H1 Δ1 k1 s1 r1 ⟨y,ds,j,q1,q2,q3,q4,q5,p⟩=>?_⟩;subst q3;cases r1.inv;obtain⟨a',o',w1,w2,w3,w4,w5⟩:=k1.own n y _ q1 q2;rw[h1]at w1;cases w1;cases o' with
 |lst vs=>
  have w3:Reps K G1 vs ds:=w3;refine⟨a,vs,j,j,rfl,rfl,w2,by omega,by omega,Zo0 (by rw[w3.length];exact q4),c.nx σ G1 _ _ (k1.write q1 q2 h1 (show OwnRep K G1 (.lst<|vs.eraseIdx j) (.lst<|ds.eraseIdx j) from w3.eraseIdx j)) p⟩
 |_=>exact absurd w3 (λz=>z)
theorem Zvl {i:Nat}{d:D}{ds:List D}{P:List D->Evt->Prop}(h:Δ[i]?=some (.val d)) (hd:d=.tup ds\/d=.lst ds) (p:P ds Δ):JI K (iSeq K<|tVar i) Δ P:=by
 rcases hd with rfl|rfl
 ·exact Zdp<|Zac h ⟨_,rfl,p⟩
 ·exact Ze3<|Zac h ⟨_,Or.inl rfl,p⟩
theorem Zpc {ta:TA}{Po:OD->Evt->Prop}(h:JA K ta Δ λds Δ1=>∃es,(ds=[.tup es]\/ds=[.lst es])/\Po (.lst es) Δ1):JO K (tCB (rLst K) ta) Δ Po:=λg G H σ Q k c=>
 h g G H σ _ k λvs ds G1 H1 Δ1 k1 s1 r1 hq_=>by
  obtain⟨es,e,p⟩:=hq_;rcases e with e|e <;> subst e
  ·obtain⟨_,_,rfl,r,t⟩:=r1.inv
   next=>
    cases t.inv;obtain⟨_,_,rfl,ha,rs⟩:=r.inv
    next=>
     refine⟨_,_,rfl,.inr<|SqT.of<|k1.live _ _ ha,λl hl=>?_⟩;obtain⟨k2,pd⟩:=k1.fresh (od:=.lst es) hl (show OwnRep K G1 (.lst _) (.lst es) from rs);exact c l _ G1 _ Δ1 k2 s1 pd p
  ·obtain⟨_,_,rfl,r,t⟩:=r1.inv
   next=>
    cases t.inv;obtain⟨_,_,rfl,ha,rs⟩:=r.inv
    next=>
     refine⟨_,_,rfl,.inl<|SqL.of<|k1.live _ _ ha,λl hl=>?_⟩;obtain⟨k2,pd⟩:=k1.fresh (od:=.lst es) hl (show OwnRep K G1 (.lst _) (.lst es) from rs);exact c l _ G1 _ Δ1 k2 s1 pd p
end
open PySem PySem.Spec PyProof.Rows PySem.SeqAt
section
variable {K:W.Frag}{Δ:Evt}{P:D->Evt->Prop}
theorem Zye {x:Str}(p:P (.bl true) Δ):JR2 K rEq (.str x) (.str x) Δ P:=λg G H σ Q v u k rx ry c=>by
 cases rx.inv;cases ry.inv;refine⟨rfl,?_⟩;rw[decide_eq_true rfl];exact c _ _ G H Δ k (Same.refl _) (.bl _) p
end
section
variable {K:W.Frag}{Δ:Evt}
end
section
variable {prog:Program}{w:World}{A:Around}{E:Value->Shared->Prop}{s:Shared}
theorem Zic {l:Addr}{vs:List Value}{Q:List Value->Shared->Prop}(hl:s.heap.IsTuple l vs.toArray)
  (h:Q vs { s with heap:=(s.heap.push<|seqObj "list" #[] 0).update s.heap.objs.size (Obj.mapSeq (· ++ vs.toArray)) }) (hsz:vs.length<=sizeLine) :
  wpAny (model prog w) A (collect (.ref l)) Q E s:=by
 obtain⟨o,ho,hc,n,hd⟩:=id hl;unfold collect;refine wpAny_bind<|wpAny_runValue<|codeAny_builtin entry_proto_collect' ?_;show wpAny _ _ (do again (.builtin "list.__iadd__" ⟨[← newList [],.ref l],[]⟩)) _ _ s;refine wpAny_bind<|wpAny_newList<|wpAny_pure ⟨Code.quiet_builtin _ (by decide +kernel),codeAny_builtin entry_list_iadd' ?_⟩;show wpAny _ _ (Builtin.List.listExtendWith (.ref s.heap.objs.size) (.ref l) (.ref s.heap.objs.size)) _ _ { s with heap:=s.heap.push (seqObj "list" #[] 0) };unfold Builtin.List.listExtendWith;have ho':(s.heap.push<|seqObj "list" #[] 0).get? l=some o:=Waf _ ho;refine wpAny_bind<|wpAny_typeOf (T:="tuple") ⟨o,ho',hc⟩ ?_;have ht:(Value.type "tuple" == Value.type "tuple")=true:=by rfl
 rw[if_pos (by rw[ht];simp)];refine wpAny_bind (listItems_at ho' hd ?_);refine wpAny_bind (listItems_at (xs:=#[]) (n:=0) (Wax _ rfl) rfl ?_);rw[if_neg (by simp)];refine wpAny_bind (listUpdate_at (xs:=#[]) (n:=0) (Wax _ rfl) rfl ?_ (Wcl _) (by show (#[]++vs.toArray).size<=sizeLine+1;simp only[Array.size_append,Waj,Wdd];omega));refine wpAny_pure ?_;show wpAny (model prog w) A (do
   let o ← load s.heap.objs.size
   match o.data with
   |.seq xs _=>pure xs.toList
   |_=>unsupported "internal:collect") Q E { s with heap:=(s.heap.push (seqObj "list" #[] 0)).update s.heap.objs.size (Obj.mapSeq (· ++ vs.toArray)) }
 refine wpAny_bind<|wpAny_load (get?_update_seq (Wax _ rfl) _) ?_;show wpAny _ _ (pure ((#[]:Array Value)++vs.toArray).toList) Q E _;rw[show ((#[]:Array Value)++vs.toArray).toList=vs by simp];exact wpAny_pure h
theorem Zlg {l:Addr}{vs:List Value}{ns:List Int}{Q:Value->Shared->Prop}(hl:s.heap.IsTuple l vs.toArray) (hI:IntsAre vs ns) (h64:vs.length<64)
  (h:∀(out:Array Value) (ns':List Int),IntsAre out.toList ns' -> ns'.Perm ns->ns'.Pairwise (· <= ·)->Q (.ref<|s.heap.objs.size+1) { s with heap:=sortedAll s.heap vs out }) :
  wpAny (model prog w) A (call (.builtin "sorted") [.ref l]) Q E s:=by
 refine Calls.call_function_entry kind_sorted plain_sorted entry_sorted (args_sorted1 _) ?_;unfold Builtin.«sorted»;refine wpAny_bind (m:=checkCount "sorted" 1 1 _)<|wpAny_pure ?_;refine wpAny_bind (Zic hl ?_<|Wb0 (small1000<|by omega));refine wpAny_bind<|wpAny_newList ?_;have hsz:((s.heap.push<|seqObj "list" #[] 0).update s.heap.objs.size (Obj.mapSeq (· ++ vs.toArray))).objs.size=s.heap.objs.size+1:=by
  rw[Wec,size_push']
 have hoL:(((s.heap.push<|seqObj "list" #[] 0).update s.heap.objs.size (Obj.mapSeq (· ++ vs.toArray))).push (seqObj "list" vs.toArray 0)).get? (s.heap.objs.size+1)=some (seqObj "list" vs.toArray 0):=by
  rw[<- hsz];exact Wax _ rfl
 show wpAny _ _ _ _ _ { s with heap:=((s.heap.push<|seqObj "list" #[] 0).update s.heap.objs.size (Obj.mapSeq (· ++ vs.toArray))).push (seqObj "list" vs.toArray 0) };rw[hsz];refine wpAny_bind<|wpAny_holding<|wpAny_call_entry slot_list_sort ⟨_,hoL,rfl⟩ entry_list_sort (list_sort_tree hoL hI h64 λout ns' a1 a2 a3=>⟨_,rfl,?_⟩)<|args_list_sort _;exact wpAny_pure ⟨_,rfl,h out ns' a1 a2 a3⟩
end
section
variable {X:Cx}
def rSortT (K:W.Frag):List V->Hp->VK->Prop:=λxs H Q=>∃(p:Addr) (ns:List Int),xs=[.ref p]/\SqT K H p (ns.map V.int)/\ns.length<64/\∀(l:Addr) (ms:List Int),ms.Perm ns->ms.Pairwise (· <= ·)->H l=none->Q (.ref l) (upd H l (.lst<|ms.map V.int))
theorem sortTK (K:W.Frag) (hK:X.K=K:=by rfl):CallR X (.builtin "sorted") (rSortT K):=by
 subst hK;intro pins s σ H xs us Q I r h;obtain⟨p,ns,rfl,hx,hl,q⟩:=h;obtain⟨u,rfl,ru⟩:=vals1 r;cases (show u=Value.ref p from ru);obtain⟨its,w1,p1⟩:=I.seqB (b:=true) hx;have hi:=Zdi w1;have hlen:=hi.length;refine Zlg p1 hi (by omega) λout ms o1 o2 o3=>?_;obtain⟨e,he⟩:=sortedAll_at s.heap its out;have hml:=o2.length_eq;refine⟨.ref<|s.heap.objs.size+1,_,I.laid (t':=s.toks) (λ_ _ z=>sortedAll_old z) (Wcy _) (show ObjOk X.prog X.w _ _ _ (.lst<|ms.map V.int) from ⟨?_,out.toList,e,Zfc o1,?_⟩),rfl,q _ ms o2 o3<|I.hok.fresh<|Wcy _⟩
 ·rw[Wab];exact Wb0 (small1000<|by omega)
 ·rw[Array.toArray_toList];exact he
end
section
variable {K:W.Frag}{Δ:Evt}{P:D->Evt->Prop}
theorem Ztm {ta:TA}{Po:OD->Evt->Prop}(h:JA K ta Δ λds Δ1=>∃ns:List Int,ds=[.tup (ns.map .int)]/\ns.length<64/\∀ms:List Int,ms.Perm ns->ms.Pairwise (· <= ·)->Po (.lst<|ms.map .int) Δ1):JO K (tCB (rSortT K) ta) Δ Po:=λg G H σ Q k c=>
 h g G H σ _ k λvs ds G1 H1 Δ1 k1 s1 r1 hq_=>by
  obtain⟨ns,e,hl,p⟩:=hq_;subst e;obtain⟨_,_,rfl,r,t⟩:=r1.inv
  next=>
   cases t.inv;obtain⟨a,us,rfl,ha,rr⟩:=r.inv
   next=>
    have ev:=rr.ints;subst ev;refine⟨a,ns,rfl,SqT.of<|k1.live _ _ ha,hl,λl ms o1 o2 hl=>?_⟩;obtain⟨k2,pd⟩:=k1.fresh (od:=.lst<|ms.map .int) hl (show OwnRep K G1 (.lst<|ms.map V.int) (.lst<|ms.map .int) from Reps.ofInts ms);exact c l _ G1 _ Δ1 k2 s1 pd<|p ms o1 o2
end
section
variable {X:Cx}
end
structure GB (kd:SortKind) (a0:Array Keyed) (t:SortSt):Prop where
 pm:(arrOf t).Perm a0
 kd:kindOf t=kd
 fl:failedOf t=none
 pd:pendingOf t = #[]
theorem GB.sz {kd:SortKind}{a0:Array Keyed}{t:SortSt}(g:GB kd a0 t):(arrOf t).size=a0.size:=g.pm.size_eq
theorem GB.put {kd:SortKind}{a0:Array Keyed}{t:SortSt}(g:GB kd a0 t) {xs:Array Keyed}(hp:xs.Perm (arrOf t)):GB kd a0 (setArr t xs):=⟨hp.trans g.pm,g.kd,g.fl,g.pd⟩
section
variable {prog:Program}{w:World}{A:Around}{E:Value->Shared->Prop}{s:Shared}{a0:Array Keyed}{κ:KeyKind}{kd:SortKind}
def Orc (prog:Program) (w:World) (A:Around) (E:Value->Shared->Prop) (s:Shared) (κ:KeyKind) (kd:SortKind) (a0:Array Keyed):Prop:=
 ∀t,GB kd a0 t->∀i j,i<a0.size->j<a0.size->∀Q:Option Bool->SortSt->Prop,Q (some (κ.blt (KK κ (arrOf t) i)<|KK κ (arrOf t) j)) t->wpS (model prog w) A E s (ltAt' i j) Q t
theorem Zxl {xs:Array Keyed}{m:Nat}(h:SortedToK κ xs m) (hl:m=0 \/ κ.kle (KK κ xs<|m-1) (KK κ xs m)):SortedToK κ xs (m+1):=λi j hij hj=>by
 rcases Wej j m with z|z
 ·exact h i j hij z
 ·have e:j=m:=by omega
  subst e;rcases Wej i j with y|y
  ·rcases hl with q|q
   ·omega
   ·exact KeyOrd.kle_trans (h i (j-1) (by omega)<|by omega) q
  ·have e:i=j:=by omega
   subst e;exact KeyOrd.kle_refl _
theorem Zf2 {xs:Array Keyed}{m:Nat}(h:NonIncK κ xs m) (hl:m=0 \/ κ.kle (KK κ xs m) (KK κ xs<|m-1)):NonIncK κ xs (m+1):=λi j hij hj=>by
 rcases Wej j m with z|z
 ·exact h i j hij z
 ·have e:j=m:=by omega
  subst e;rcases Wej i j with y|y
  ·rcases hl with q|q
   ·omega
   ·exact KeyOrd.kle_trans q (h i (j-1) (by omega)<|by omega)
  ·have e:i=j:=by omega
   subst e;exact KeyOrd.kle_refl _
theorem Zzk (O:Orc prog w A E s κ kd a0) {t:SortSt}{n ok:Nat}{Q:Bool->SortSt->Prop}(hn:n<=a0.size) (hok:ok<=n) (g:GB kd a0 t) (hs:SortedToK κ (arrOf t) ok)
  (h:∀u,GB kd a0 u->SortedToK κ (arrOf u) n->Q true u):wpS (model prog w) A E s (binarySort' 0 n ok) Q t:=by
 rw[binarySort'_eq];simp only[Wez];refine wpS_bind<|wpS_mono (wpS_forRange (I:=λk c u=>c=(none,())/\GB kd a0 u/\SortedToK κ (arrOf u) (min k n)) (Q:=λc u=>c=(none,())/\GB kd a0 u/\SortedToK κ (arrOf u) n) ?st ?fi ?be) ?po
 case po=>
  rintro c u ⟨rfl,g',h'⟩;exact wpS_pure<|h u g' h'
 case be=>
  refine⟨rfl,g,λi j hij hj=>?_⟩;rcases Weu ok with z|z
  ·have e:i=j:=by omega
   subst e;exact KeyOrd.kle_refl _
  ·exact hs i j hij (by omega)
 case fi=>
  rintro c u ⟨hc,g',h'⟩;rw[show min (max (max ok 1) n) n=n by omega]at h';exact⟨hc,g',h'⟩
 case st=>
  rintro k c u hak hkn ⟨rfl,g',h'⟩;rw[show min k n=k by omega]at h';have hk:k<a0.size:=by omega
  refine wpS_bind (wpS_mono (wpS_forRange
   (I:=λx c v=>v=u/\∃l r,c=(none,l,r)/\l<=r/\r<=k/\r-l<=k-x/\(∀i,i<l -> κ.kle (KK κ (arrOf u) i) (KK κ (arrOf u) k))/\∀i,r<=i->i<k -> κ.klt (KK κ (arrOf u) k) (KK κ (arrOf u) i))
   (Q:=λc v=>v=u/\∃l r,c=(none,l,r)/\l<=k/\(∀i,i<l -> κ.kle (KK κ (arrOf u) i) (KK κ (arrOf u) k))/\∀i,l<=i->i<k -> κ.klt (KK κ (arrOf u) k) (KK κ (arrOf u) i)) ?ist ?ifi ?ibe) ?ipo)
  case ibe=>exact⟨rfl,0,k,rfl,by omega,by omega,by omega,λi z=>by omega,λi z y=>by omega⟩
  case ifi=>
   rintro c v ⟨rfl,l,r,rfl,z1,z2,z3,lo,hi⟩;obtain rfl:l=r:=by omega
   exact⟨rfl,l,l,rfl,z2,lo,hi⟩
  case ist=>
   rintro x c v _ hx ⟨rfl,l,r,rfl,z1,z2,z3,lo,hi⟩;dsimp only;by_cases hge:l ≥ r
   ·obtain rfl:l=r:=by omega
    rw[if_pos hge];exact wpS_pure ⟨rfl,l,l,rfl,z2,lo,hi⟩
   ·rw[if_neg hge]
    refine wpS_bind<|O v g' _ _ hk (by omega) _ ?_;cases e:κ.blt (KK κ (arrOf v) k) (KK κ (arrOf v) ((l+r) / 2)) with
    |true=>
     simp only[if_true];exact wpS_pure ⟨rfl,l,(l+r) / 2,rfl,by omega,by omega,by omega,lo,λi y1 y2=>KeyOrd.klt_of_klt_of_kle e<|h' _ _ y1 y2⟩
    |false=>
     simp only[Wbh,if_false];exact wpS_pure ⟨rfl,(l+r) / 2+1,r,rfl,by omega,by omega,by omega,λi y1=>KeyOrd.kle_trans (h' i ((l+r) / 2) (by omega)<|by omega) e,hi⟩
  case ipo=>
   rintro c v ⟨rfl,l,r,rfl,hl,lo,hi⟩;show wpS _ _ _ _ (do moveDown' k l;pure (ForInStep.yield (none,()))) _ _;rw[moveDown'_eq];refine wpS_bind<|wpS_modify<|wpS_pure ⟨rfl,g'.put<|bubble_perm _ _ _,?_⟩;rw[show min (k+1) n=k+1 by omega];have hz:k<(arrOf v).size:=by rw[g'.sz];exact hk
   intro i j hij hj;show κ.kle (KK κ (bubble (arrOf v) k<|k-l) i) (KK κ (bubble (arrOf v) k<|k-l) j);rw[KK_bubble hz (by omega),KK_bubble hz (by omega),show k-(k-l)=l by omega];by_cases i1:i=l
   ·rw[if_pos i1]
    by_cases j1:j=l
    ·rw[if_pos j1];exact KeyOrd.kle_refl _
    ·rw[if_neg j1,if_pos (by omega)]
     exact KeyOrd.kle_of_klt (hi _ (by omega)<|by omega)
   ·rw[if_neg i1]
    by_cases j1:j=l
    ·rw[if_pos j1,if_neg (by omega)]
     exact lo _ (by omega)
    ·rw[if_neg j1]
     by_cases i2:l<i/\i<=k
     ·rw[if_pos i2,if_pos (by omega)]
      exact h' _ _ (by omega) (by omega)
     ·rw[if_neg i2]
      by_cases j2:l<j/\j<=k
      ·rw[if_pos j2]
       exact h' _ _ (by omega) (by omega)
      ·rw[if_neg j2]
       exact h' _ _ (by omega) (by omega)
theorem Zyp (O:Orc prog w A E s κ kd a0) {t:SortSt}{a nr:Nat}{Q:AscSt->SortSt->Prop}(hn:nr<=a0.size) (ha:1<=a) (han:a<=nr) (g:GB kd a0 t) (hs:SortedToK κ (arrOf t) a)
  (h:∀n,a<=n->n<=nr->SortedToK κ (arrOf t) n->(n=nr \/ κ.klt (KK κ (arrOf t) n) (KK κ (arrOf t)<|n-1))->Q (none,n) t):wpS (model prog w) A E s (ascLoop a nr) Q t:=by
 unfold ascLoop;refine wpS_forRange (I:=λx c u=>u=t/\c=(none,x)/\SortedToK κ (arrOf t) x) ?st ?fi ⟨rfl,rfl,hs⟩
 case fi=>
  rintro c u ⟨rfl,rfl,h'⟩;rw[show max a nr=nr by omega]at h' ⊢;exact h nr han (Wak _) h'<|Or.inl rfl
 case st=>
  rintro x c u hax hxn ⟨rfl,rfl,h'⟩;dsimp only;refine wpS_bind<|O u g _ _ (by omega) (by omega) _ ?_;cases e:κ.blt (KK κ (arrOf u) x) (KK κ (arrOf u)<|x-1) with
  |true=>
   simp only[if_true];exact wpS_pure<|h x hax (by omega) h'<|Or.inr e
  |false=>
   simp only[Wbh,if_false];exact wpS_pure ⟨rfl,rfl,Zxl h'<|Or.inr e⟩
theorem Zuc (O:Orc prog w A E s κ kd a0) {t:SortSt}{n nr:Nat}{Q:Option Nat->SortSt->Prop}(hn:nr<=a0.size) (h1:1<=n) (hnn:n<=nr) (g:GB kd a0 t) (hs:NonIncK κ (arrOf t) n)
  (h:∀m u,GB kd a0 u->1<=m->m<=nr->SortedToK κ (arrOf u) m->Q (some m) u):wpS (model prog w) A E s (tail3 n nr) Q t:=by
 unfold tail3;have hz:n<=(arrOf t).size:=by rw[g.sz];omega
 refine wpS_bind<|wpS_reverse ?_;have g2:GB kd a0 (setArr t<|mirror (arrOf t) 0 n ((n-0) / 2)):=g.put<|mirror_perm _ _ _ _;refine wpS_bind (Zyp O hn h1 hnn g2 (λi j hij hj=>?_) λm m1 m2 m3 _=>wpS_pure<|h m _ g2 (by omega) m2 m3);show κ.kle (KK κ (mirror (arrOf t) 0 n ((n-0) / 2)) i) (KK κ (mirror (arrOf t) 0 n ((n-0) / 2)) j);rw[KK_mirror hz,KK_mirror hz,if_pos (by omega),if_pos (by omega)];exact hs _ _ (by omega) (by omega)
theorem Zx4 (O:Orc prog w A E s κ kd a0) {t:SortSt}{n nr:Nat}{Q:DescSt->SortSt->Prop}(hn:nr<=a0.size) (h1:1<=n) (hnn:n<=nr) (g:GB kd a0 t) (hs:NonIncK κ (arrOf t) n)
  (h:∀m q u,GB kd a0 u->n<=m->m<=nr->NonIncK κ (arrOf u) m->q+1<=m->(∀i,m-(q+1)<=i->i<m->KK κ (arrOf u) i=KK κ (arrOf u) (m-1))->Q (none,m,q) u):wpS (model prog w) A E s (descLoop n nr) Q t:=by
 unfold descLoop;refine wpS_forRange (I:=λx c u=>∃q,c=(none,x,q)/\GB kd a0 u/\NonIncK κ (arrOf u) x/\q+1<=x/\∀i,x-(q+1)<=i->i<x->KK κ (arrOf u) i=KK κ (arrOf u) (x-1)) ?st ?fi ⟨0,rfl,g,hs,by omega,λi y1 y2=>by rw[show i=n-1 by omega]⟩
 case fi=>
  rintro c u ⟨q,rfl,g',h',q1,q2⟩;rw[show max n nr=nr by omega]at h' q1 q2 ⊢;exact h nr q u g' hnn (Wak _) h' q1 q2
 case st=>
  rintro x c u hax hxn ⟨q,rfl,g',h',q1,q2⟩;dsimp only;have hz:x<=(arrOf u).size:=by rw[g'.sz];omega
  refine wpS_bind<|O u g' _ _ (by omega) (by omega) _ ?_;cases e:κ.blt (KK κ (arrOf u) x) (KK κ (arrOf u)<|x-1) with
  |true=>
   simp only[if_true];by_cases hq:q > 0
   ·rw[if_pos hq]
    have same:=KK_mirror_equal hz q2;refine wpS_bind<|wpS_reverse<|wpS_pure ⟨0,rfl,g'.put<|mirror_perm _ _ _ _,?_,by omega,λi y1 y2=>by rw[show i=x+1-1 by omega]⟩;refine Zf2 (λi j hij hj=>?_)<|Or.inr ?_
    ·show κ.kle (KK κ (mirror (arrOf u) _ _ _) j) (KK κ (mirror (arrOf u) _ _ _) i)
     rw[same,same];exact h' i j hij hj
    ·show κ.kle (KK κ (mirror (arrOf u) _ _ _) x) (KK κ (mirror (arrOf u) _ _ _)<|x-1)
     rw[same,same];exact KeyOrd.kle_of_klt e
   ·rw[if_neg hq]
    exact wpS_pure ⟨0,rfl,g',Zf2 h'<|Or.inr<|KeyOrd.kle_of_klt e,by omega,λi y1 y2=>by rw[show i=x+1-1 by omega]⟩
  |false=>
   simp only[Wbh,if_false];refine wpS_bind<|O u g' _ _ (by omega) (by omega) _ ?_;cases e2:κ.blt (KK κ (arrOf u)<|x-1) (KK κ (arrOf u) x) with
   |true=>
    simp only[if_true];exact wpS_pure<|h x q u g' hax (by omega) h' q1 q2
   |false=>
    simp only[Wbh,if_false];have ex:KK κ (arrOf u) x=KK κ (arrOf u) (x-1):=KeyOrd.kle_antisymm e2 e;refine wpS_pure ⟨q+1,rfl,g',Zf2 h'<|Or.inr e2,by omega,λi y1 y2=>?_⟩;show _=KK κ (arrOf u) x;rcases Wej i x with y|y
    ·rw[ex];exact q2 i (by omega) y
    ·rw[show i=x by omega]
theorem Zi4 (O:Orc prog w A E s κ kd a0) {t:SortSt}{n nr:Nat}{Q:Option Nat->SortSt->Prop}(hn:nr<=a0.size) (hnn:n+1<=nr) (g:GB kd a0 t) (hs:NonIncK κ (arrOf t) (n+1))
  (h:∀m u,GB kd a0 u->1<=m->m<=nr->SortedToK κ (arrOf u) m->Q (some m) u):wpS (model prog w) A E s (descPart n nr) Q t:=by
 unfold descPart;refine wpS_bind<|wpS_lift<|wpAny_rule ⟨rfl,?_⟩;refine wpS_bind (Zx4 O hn (by omega) hnn g hs λm q u g' m1 m2 h' q1 q2=>?_);dsimp only;have hz:m<=(arrOf u).size:=by rw[g'.sz];omega
 by_cases hq:q > 0
 ·rw[if_pos hq]
  have same:=KK_mirror_equal hz q2;refine wpS_bind<|wpS_reverse<|Zuc O hn (by omega) m2 (g'.put<|mirror_perm _ _ _ _) (λi j hij hj=>?_) h;show κ.kle (KK κ (mirror (arrOf u) _ _ _) j) (KK κ (mirror (arrOf u) _ _ _) i);rw[same,same];exact h' i j hij hj
 ·rw[if_neg hq]
  exact Zuc O hn (by omega) m2 g' h' h
theorem Zvb (O:Orc prog w A E s κ kd a0) {t:SortSt}{nr:Nat}{Q:Option Nat->SortSt->Prop}(hn:nr<=a0.size) (h1:1<=nr) (g:GB kd a0 t)
  (h:∀m u,GB kd a0 u->1<=m->m<=nr->SortedToK κ (arrOf u) m->Q (some m) u):wpS (model prog w) A E s (countRun' 0 nr) Q t:=by
 rw[countRun0_eq];refine wpS_bind (Zyp O hn (Wak 1) h1 g (λi j hij hj=>by have e:i=j:=(by omega);subst e;exact KeyOrd.kle_refl _) λn n1 n2 n3 n4=>?_);dsimp only;by_cases hnn:n=nr
 ·rw[if_pos (by simpa using hnn)]
  exact wpS_pure<|h n t g n1 n2 n3
 ·rw[if_neg (by simpa using hnn)]
  have lt:=n4.resolve_left hnn;by_cases hg:n > 1
  ·rw[if_pos hg]
   refine wpS_bind<|O t g _ _ (by omega) (by omega) _ ?_;cases e:κ.blt (KK κ (arrOf t) 0) (KK κ (arrOf t)<|n-1) with
   |true=>
    simp only[if_true];exact wpS_pure<|h n t g n1 n2 n3
   |false=>
    simp only[Wbh,if_false];have hz:n<=(arrOf t).size:=by rw[g.sz];omega
    have all:∀k,0<=k->k<n->KK κ (arrOf t) k=KK κ (arrOf t) (n-1):=λk _ hk=>
     KeyOrd.kle_antisymm (n3 k (n-1) (by omega)<|by omega) (KeyOrd.kle_trans e<|n3 0 k (by omega) hk)
    have same:=KK_mirror_equal hz all;refine wpS_bind<|wpS_reverse<|Zi4 O hn (by omega) (g.put<|mirror_perm _ _ _ _) (Zf2 (λi j hij hj=>?_)<|Or.inr ?_) h
    ·show κ.kle (KK κ (mirror (arrOf t) _ _ _) j) (KK κ (mirror (arrOf t) _ _ _) i)
     rw[same,same,all i (by omega) (by omega),all j (by omega) hj];exact KeyOrd.kle_refl _
    ·show κ.kle (KK κ (mirror (arrOf t) _ _ _) n) (KK κ (mirror (arrOf t) _ _ _)<|n-1)
     rw[same,same];exact KeyOrd.kle_of_klt lt
  ·rw[if_neg hg]
   obtain rfl:n=1:=by omega
   refine Zi4 O hn (by omega) g (Zf2 (λi j hij hj=>?_)<|Or.inr<|KeyOrd.kle_of_klt lt) h;obtain rfl:i=j:=by omega
   exact KeyOrd.kle_refl _
theorem Zyt (O:Orc prog w A E s κ kd a0) {t:SortSt}{Q:Unit->SortSt->Prop}(g:GB kd a0 t) (h2:2<=a0.size) (h64:a0.size<64)
  (h:∀u,(arrOf u).Perm a0->failedOf u=none->SortedToK κ (arrOf u) a0.size->Q () u):wpS (model prog w) A E s sortRuns' Q t:=by
 have hmr:minRun' a0.size a0.size 0=a0.size:=by
  obtain⟨f,hf⟩:∃f,a0.size=f+1:=⟨a0.size-1,by omega⟩;have:=minRun'_succ f a0.size 0;rw[if_pos h64,<- hf]at this;exact this
 rw[sortRuns'_eq];refine wpS_bind (wpS_get ?_);dsimp only;simp only[g.sz,hmr];refine wpS_bind (wpS_mono (wpS_forRange
  (I:=λx c u=>(x=0/\c=(none,0)/\GB kd a0 u)\/(1<=x/\c=(none,a0.size)/\(arrOf u).Perm a0/\failedOf u=none/\pendingOf u = #[(0,a0.size,0)]/\SortedToK κ (arrOf u) a0.size))
  (Q:=λc u=>c=(none,a0.size)/\(arrOf u).Perm a0/\failedOf u=none/\pendingOf u = #[(0,a0.size,0)]/\SortedToK κ (arrOf u) a0.size) ?st ?fi (Or.inl ⟨rfl,rfl,g⟩)) ?po)
 case fi=>
  rintro c u (⟨z,_,_⟩|⟨_,z⟩)
  ·omega
  ·exact z
 case st=>
  rintro x c u _ hx (⟨rfl,rfl,g'⟩|⟨x1,rfl,z⟩)
  ·dsimp only
   rw[if_neg (by omega)];simp only[Wef,We0,Wez];refine wpS_bind (Zvb O (Wak _) (by omega) g' λm v gv m1 m2 m3=>?_);have fin:∀v',GB kd a0 v' -> SortedToK κ (arrOf v') a0.size->(arrOf<|setPending v' ((pendingOf v').push (0,a0.size,0))).Perm a0/\failedOf (setPending v' ((pendingOf v').push (0,a0.size,0)))=none/\pendingOf (setPending v' ((pendingOf v').push (0,a0.size,0))) = #[(0,a0.size,0)]/\SortedToK κ (arrOf<|setPending v' ((pendingOf v').push (0,a0.size,0))) a0.size:=λv' gw sw=>
    ⟨gw.pm,gw.fl,by show (pendingOf v').push _=_;rw[gw.pd];rfl,sw⟩
   dsimp only;by_cases hlt:m<a0.size
   ·rw[if_pos hlt]
    refine wpS_bind<|wpS_lift<|wpAny_rule ⟨rfl,?_⟩;refine wpS_bind (Zzk O (Wak _) m2 gv m3 λv' gw sw=>?_);simp only[Wet,Wbh,if_false];refine wpS_bind<|wpS_get ?_;rw[show (pendingOf v').back?=none by rw[gw.pd];rfl];dsimp only;exact wpS_bind<|wpS_modify<|wpS_pure<|Or.inr ⟨by omega,rfl,fin v' gw sw⟩
   ·rw[if_neg hlt]
    obtain rfl:m=a0.size:=by omega
    refine wpS_bind<|wpS_get ?_;rw[show (pendingOf v).back?=none by rw[gv.pd];rfl];dsimp only;exact wpS_bind<|wpS_modify<|wpS_pure<|Or.inr ⟨by omega,rfl,fin v gv m3⟩
  ·dsimp only
   rw[if_pos (Wak _)];exact wpS_pure ⟨rfl,z⟩
 case po=>
  rintro c u ⟨rfl,z1,z2,z3,z4⟩;dsimp only;refine wpS_bind<|wpS_mono (wpS_forRange (I:=λ_ c v=>v=u/\c=(none,())) (Q:=λc v=>v=u/\c=(none,())) ?_ (λ_ _ q=>q) ⟨rfl,rfl⟩) ?_
  ·rintro x c v _ _ ⟨rfl,rfl⟩
   refine wpS_bind<|wpS_get ?_;rw[if_pos (by rw[z3];exact Wak 1)];exact wpS_pure ⟨rfl,rfl⟩
  ·rintro c v ⟨rfl,rfl⟩
   exact wpS_pure<|h _ z1 z2 z4
end
abbrev rlt:=HT.lexLt
theorem Zg4 (x y:Int) (xs ys:List Int):rlt (x::xs) (y::ys)=if x=y then rlt xs ys else decide (x<y):=rfl
theorem Zqc:∀a:List Int,rlt a a=false
 |[]=>rfl
 |x::a=>by rw[Zg4,if_pos rfl];exact Zqc a
theorem Zul:∀a b c:List Int,rlt a b=true->rlt b c=true->rlt a c=true
 |[],[],_,h,_=>by cases h
 |[],_::_,[],_,h=>by cases h
 |[],_::_,_::_,_,_=>rfl
 |_::_,[],_,h,_=>by cases h
 |_::_,_::_,[],_,h=>by cases h
 |x::a,y::b,z::c,h1,h2=>by
  rw[Zg4]at h1 h2 ⊢;by_cases e1:x=y
  ·by_cases e2:y=z
   ·rw[if_pos e1]at h1;rw[if_pos e2]at h2;rw[if_pos (e1.trans e2)]
    exact Zul a b c h1 h2
   ·rw[if_neg e2,decide_eq_true_eq]at h2
    rw[if_neg (by omega),decide_eq_true_eq];omega
  ·rw[if_neg e1,decide_eq_true_eq]at h1
   by_cases e2:y=z
   ·rw[if_neg (by omega),decide_eq_true_eq];omega
   ·rw[if_neg e2,decide_eq_true_eq]at h2
    rw[if_neg (by omega),decide_eq_true_eq];omega
theorem Zrp:∀a b c:List Int,rlt a c=true->rlt a b=true\/rlt b c=true
 |[],[],_,h=>Or.inr h
 |[],_::_,_,_=>Or.inl rfl
 |_::_,_,[],h=>by cases h
 |_::_,[],_::_,_=>Or.inr rfl
 |x::a,y::b,z::c,h=>by
  rw[Zg4]at h;rw[Zg4,Zg4];by_cases e:x=z
  ·subst e
   rw[if_pos rfl]at h;by_cases e1:x=y
   ·subst e1;rw[if_pos rfl,if_pos rfl];exact Zrp a b c h
   ·rw[if_neg e1,if_neg (Ne.symm e1),decide_eq_true_eq,decide_eq_true_eq];omega
  ·rw[if_neg e,decide_eq_true_eq]at h
   by_cases e1:x=y
   ·subst e1;right;rw[if_neg e,decide_eq_true_eq];exact h
   ·rw[if_neg e1]
    by_cases e2:y=z
    ·left;rw[decide_eq_true_eq];omega
    ·rw[if_neg e2,decide_eq_true_eq,decide_eq_true_eq];omega
theorem Zmh:∀a b:List Int,rlt a b=false->rlt b a=false->a=b
 |[],[],_,_=>rfl
 |[],_::_,h,_=>by cases h
 |_::_,[],_,h=>by cases h
 |x::a,y::b,h1,h2=>by
  rw[Zg4]at h1 h2;by_cases e:x=y
  ·subst e
   rw[if_pos rfl]at h1 h2;rw[Zmh a b h1 h2]
  ·rw[if_neg e,decide_eq_false_iff_not]at h1
   rw[if_neg (Ne.symm e),decide_eq_false_iff_not]at h2;omega
theorem RowAt.inj {h:Heap}{v:Value}{a b:List Int}(x:RowAt h v a) (y:RowAt h v b):a=b:=by
 obtain⟨p,its,rfl,⟨o,ho,hc,n,hd⟩,hi⟩:=x;obtain⟨q,its2,e,⟨o2,ho2,hc2,n2,hd2⟩,hi2⟩:=y;cases e;rw[ho]at ho2;cases ho2;rw[hd]at hd2;have e:its=its2:=by
  have:=Data.seq.inj hd2;simpa using this.1
 subst e;clear hd hd2
 induction hi generalizing b with
 |nil=>cases hi2;rfl
 |cons n t _ ih=>cases hi2 with|cons _ _ r=>rw[ih r]
open Classical in
noncomputable def rowKey (h:Heap):PyProof.Rows.KeyKind where
 α:=List Int
 blt:=rlt
 irrefl:=Zqc
 trans:=Zul
 negTrans:=Zrp
 total:=Zmh
 keyOf:=λv=>if e:∃r,RowAt h v r then some (Classical.choose e) else none
 dflt:=[]
open Classical in
theorem Zhr {h:Heap}{v:Value}{r:List Int}(x:RowAt h v r):(rowKey h).keyOf v=some r:=by
 show (if e:∃r,RowAt h v r then some (Classical.choose e) else none)=some r;rw[dif_pos ⟨r,x⟩];exact congrArg some ((Classical.choose_spec (⟨r,x⟩:∃r,RowAt h v r)).inj x)
section
variable {prog:Program}{w:World}{A:Around}{E:Value->Shared->Prop}{s:Shared}
theorem Zni {Q:Bool->Shared->Prop}:∀{us vs:List Value}{as bs:List Int}(i:Nat),IntsAre us as->IntsAre vs bs->Q (rlt as bs) s->PySem.W.KatLex prog w A true (decide (as.length<bs.length)) Q (us.zip vs) i s
 |_,_,[],[],i,.nil,.nil,h=>h
 |_,_,[],b::bs,i,.nil,.cons _ _ _,h=>by
  rw[List.zip_nil_left];refine PySem.W.kat_nil ?_;rw[decide_eq_true (by simp)];exact h
 |_,_,a::as,[],i,.cons _ _ _,.nil,h=>by
  rw[List.zip_nil_right];refine PySem.W.kat_nil ?_;rw[decide_eq_false (by simp)];exact h
 |_,_,a::as,b::bs,i,.cons _ t x,.cons _ t' y,h=>by
  rw[Wc9];refine PySem.W.kat_cons<|SeqAt.EqAt.int_int a t b t' prog w _ _ ?_;rw[Zg4]at h;by_cases e:a=b
  ·rw[if_pos e]at h
   rw[show (a == b)=true by simp[e]];refine PySem.W.kat_yes ?_;have:=Zni (Q:=Q) (i+1) x y h;rw[Wat,Wat,show decide (as.length+1<bs.length+1)=decide (as.length<bs.length) by simp];exact this
  ·rw[if_neg e]at h
   rw[show (a == b)=false by simp[e]];refine PySem.W.kat_no ?_;cases z:(true && i == 0) with
   |true=>exact oneLt_int h
   |false=>exact PySem.W.kat_one _ _ (lt_int h)
theorem Ztg {v u:Value}{a b:List Int}{Q:Bool->Shared->Prop}(pa:RowAt s.heap v a) (pb:RowAt s.heap u b) (h:Q (rlt a b) s):wpAny (model prog w) A (keyLt' (tuples' true) v u) Q E s:=by
 obtain⟨l,its,rfl,⟨o1,ho,hc,n,hd⟩,hi⟩:=pa;obtain⟨k,its2,rfl,⟨o2,ho2,hc2,n2,hd2⟩,hi2⟩:=pb;refine PySem.W.kat_lt ho hd ho2 hd2 ?_;have:=Zni (prog:=prog) (w:=w) (A:=A) (Q:=Q) 0 hi hi2 h;rw[<- hi.length,<- hi2.length]at this;simpa using this
theorem Zty {v u:Value}{a b:List Int}{Q:Bool->Shared->Prop}(hu:A.units<cLine) (pa:RowAt s.heap v a) (pb:RowAt s.heap u b) (h:Q (rlt a b) s):wpAny (model prog w) A (keyLt' oneType' v u) Q E s:=by
 obtain⟨l,its,rfl,⟨⟨c1,d1,dt1,sl1⟩,ho,hc,n,hd⟩,hi⟩:=pa;obtain⟨k,its2,rfl,⟨⟨c2,d2,dt2,sl2⟩,ho2,hc2,n2,hd2⟩,hi2⟩:=pb;simp only at hc hd hc2 hd2;subst hc hd hc2 hd2;rw[keyLt'_oneType,oneLt'_eq];simp only[if_true];refine wpAny_bind<|wpAny_cRoomFor hu ?_;refine wpAny_bind<|wpAny_callSpecialIfBound?_slot (T:="tuple") ⟨_,ho,rfl⟩ F.slot_tuple_lt<|call_meets F.slot_tuple_lt ⟨_,ho,rfl⟩ F.entry_tuple_lt (F.args_tuple_lt_2 _ _) (HT.tuple_lt_ints l k its.toArray its2.toArray n n2 d1 d2 sl1 sl2 a b (by simpa using hi) (by simpa using hi2)) ⟨ho,ho2,?_⟩;exact wpAny_truthy_bool h
theorem Zr9 {v u:Value}{a b:List Int}{Q:Bool->Shared->Prop}(hu:A.units<cLine) (pa:RowAt s.heap v a) (pb:RowAt s.heap u b) (h:Q (rlt a b) s):wpAny (model prog w) A (keyLt' general' v u) Q E s:=by
 obtain⟨l,its,rfl,⟨⟨c1,d1,dt1,sl1⟩,ho,hc,n,hd⟩,hi⟩:=pa;obtain⟨k,its2,rfl,⟨⟨c2,d2,dt2,sl2⟩,ho2,hc2,n2,hd2⟩,hi2⟩:=pb;simp only at hc hd hc2 hd2;subst hc hd hc2 hd2;refine PySem.W.kat_one _ _ ?_;exact richCompare_meets_room (op:=.Lt) ⟨_,ho,rfl⟩ ⟨_,ho2,rfl⟩ PySem.F.slot_tuple_lt PySem.F.entry_tuple_lt (PySem.F.args_tuple_lt_2 _ _) (HT.tuple_lt_ints l k its.toArray its2.toArray n n2 d1 d2 sl1 sl2 a b (by simpa using hi) (by simpa using hi2))
  ⟨ho,ho2,show Value.bool (HT.lexLt a b)≠Value.notImplemented/\_ from ⟨(λx=>nomatch x),h⟩⟩ hu
theorem Zod {vs:List Value}{r:List Int}{rs:List (List Int)}{Q:SortKind->Shared->Prop}(p:Paired (RowAt s.heap) vs (r::rs)) (hr:r≠[]) (he:[]∈rs) (h:Q general' s):wpAny (model prog w) A (keyKind' vs.toArray) Q E s:=by
 rw[keyKind'_eq,Wev,map_eq_pure_bind];refine wpAny_bind<|wpAny_bind (Zfv vs _ p λfs pf=>wpAny_pure ?_);cases pf with
 |@cons f _ fs _ hf pt=>
  obtain⟨x,t,l,e1,rfl⟩:=hf.resolve_left λz=>hr z.1;have no:none∈fs:=by
   clear p h hf
   induction pt with
   |nil=>cases he
   |@cons f r' fs rs q t' ih=>
    rcases Waq.mp he with z|z
    ·subst z
     rcases q with ⟨_,y⟩|⟨_,_,_,y,_⟩
     ·subst y;exact Wam
     ·cases y
    ·exact Wau _<|ih z
  have:((some (Value.int x t)::fs).toArray.all λx=>x.isSome)=false:=by
   rw[List.all_toArray,Wcc];intro z;rw[Wbi]at z;have:=z none<|Wau _ no;cases this
  rw[this,if_neg (by simp),if_pos (by simp)];exact wpAny_pure h
end
def keyD (κ:PyProof.Rows.KeyKind) (v:Value):κ.α:=(κ.keyOf v).getD κ.dflt
def Sortd (κ:PyProof.Rows.KeyKind) (out:List Value):Prop:=out.Pairwise λa b=>κ.kle (keyD κ a)<|keyD κ b
theorem twins {vs:List Value}{xs:Array Keyed}(hp:xs.Perm (vs.toArray.zip vs.toArray)):∀p∈xs.toList,p.1=p.2/\p.1∈vs:=λp hm=>by
 have h1:p∈(vs.toArray.zip vs.toArray).toList:=(Array.perm_iff_toList_perm.mp hp).mem_iff.mp hm;rw[Array.toList_zip]at h1;have h1:p∈vs.zip vs:=h1;obtain⟨i,hi⟩:=Wbx.mp h1;rw[Wce]at hi;exact⟨Wba.inj<|hi.1.symm.trans hi.2,Way hi.1⟩
theorem Zs1 {κ:PyProof.Rows.KeyKind}{vs:List Value}{xs:Array Keyed}(hp:xs.Perm (vs.toArray.zip vs.toArray)) (hs:SortedToK κ xs (vs.toArray.zip vs.toArray).size):(xs.map (·.2)).toList.Perm vs/\Sortd κ (xs.map (·.2)).toList:=by
 have hsz:=hp.size_eq;refine⟨?_,?_⟩
 ·rw[Array.toList_map]
  have:=(Array.perm_iff_toList_perm.mp hp).map (·.2);rw[Array.toList_zip]at this;refine this.trans ?_;rw[show (vs.toArray.toList.zip vs.toArray.toList)=vs.zip vs from rfl,Web (Wak _)]
 ·unfold Sortd
  rw[Wb2];intro i j hi hj hij;rw[Array.length_toList,Array.size_map]at hi hj;have key:∀k (hk:k<xs.size),KK κ xs k=keyD κ (xs.map (·.2)).toList[k]!:=λk hk=>by
   unfold KK keyD;have e:xs[k]?=some xs[k]:=getElem?_pos xs k hk;rw[e];have e2:(xs.map (·.2)).toList[k]! = xs[k].2:=by simp[hk]
   rw[e2,<- (twins hp xs[k] (by simp)).1]
  have:=hs i j (Wb0 hij) (by omega);rw[key i hi,key j hj]at this;simpa [hi,hj] using this
section
variable {prog:Program}{w:World}{A:Around}{E:Value->Shared->Prop}{s:Shared}
theorem Zj3 {a:Addr}{vs:List Value}{n:Nat}{kd:SortKind}{κ:PyProof.Rows.KeyKind}{P:Fin->Shared->Prop}(ho:s.heap.get? a=some (seqObj "list" vs.toArray n)) (hz:vs.length<64)
  (hk:2<=vs.length->∀h',KeepBut a s.heap h' -> ∀Q:SortKind->Shared->Prop,Q kd { s with heap:=h' } -> wpAny (model prog w) A (keyKind' vs.toArray) Q E { s with heap:=h' })
  (hc:∀h',KeepBut a s.heap h' -> ∀x∈vs,∀y∈vs,∀(E:Value->Shared->Prop) (Q:Bool->Shared->Prop),Q (κ.blt (keyD κ x)<|keyD κ y) { s with heap:=h' } -> wpAny (model prog w) A (keyLt' kd x y) Q E { s with heap:=h' })
  (h:∀out:List Value,out.Perm vs->Sortd κ out->P (.done (.ret .none)) { s with heap:=sortedHeap s.heap a vs out.toArray }):wpAny (model prog w) A (Builtin.«list.sort» ⟨[.ref a],[]⟩) P E s:=by
 rw[list_sort_plain];have ha:a<s.heap.objs.size:=Was ho;have hsz:vs.toArray.size=vs.length:=by simp
 have hline:vs.length<=sizeLine:=by rw[sizeLine_eq];omega
 refine wpAny_bind<|listItems_at ho rfl ?_;refine wpAny_bind<|listUpdate_at ho rfl ?_ (by rw[hsz];exact hline)<|Wcl _;obtain⟨e1,ho1⟩:∃e1,(s.heap.update a (Obj.mapSeq λ_=>#[])).get? a=some (seqObj "list" #[] e1):=⟨_,get?_update_seq ho λ_=>#[]⟩;refine wpAny_bind<|seqEpoch_at ho1 rfl ?_;refine wpAny_bind<|wpAny_newTuple ?_ hline;refine wpAny_bind<|wpAny_newList ?_<|Wcl _;refine wpAny_holding ?_;have ho6:(((s.heap.update a (Obj.mapSeq λ_=>#[])).push (seqObj "tuple" vs.toArray 0)).push (seqObj "list" #[] 0)).get? a=some (seqObj "list" #[] e1):=by
  rw[Wd4 _ _ _ (by rw[size_push',Wec];exact Wa2<|Wb7 ha),Wd4 _ _ _ (by rw[Wec];exact Wa2 ha)];exact ho1
 have keep:KeepBut a s.heap (((s.heap.update a (Obj.mapSeq λ_=>#[])).push (seqObj "tuple" vs.toArray 0)).push (seqObj "list" #[] 0)):=λb o hb q=>
  Waf _ (Waf _ ((Heap.get?_update_ne _ _ _ _ hb).trans q))
 show wpAny (model prog w) A _ P E { s with heap:=((s.heap.update a (Obj.mapSeq λ_=>#[])).push (seqObj "tuple" vs.toArray 0)).push (seqObj "list" #[] 0) };dsimp only;have zsz:(vs.toArray.zip vs.toArray).size=vs.length:=by rw[Array.size_zip,hsz,We0]
 by_cases h2:vs.toArray.size<2
 ·have out:((vs.toArray.zip vs.toArray).map (·.2))=vs.toArray:=by
   apply Array.toList_inj.mp;rw[Array.toList_map,Array.toList_zip];exact Web<|Wak _
  rw[if_pos h2,if_pos h2];refine wpAny_bind<|wpAny_pure ?_;rw[StateT.run_pure];refine wpAny_bind<|wpAny_pure ?_;dsimp only;refine wpAny_bind<|seqEpoch_at ho6 rfl ?_;rw[show arrOf (SortSt.mk' general' (vs.toArray.zip vs.toArray) #[] 7 none)=vs.toArray.zip vs.toArray from rfl,out];refine wpAny_bind<|listUpdate_at ho6 rfl ?_ (Wcl _) (by rw[hsz];exact Nat.le_succ_of_le hline);simp only[bne_self_eq_false,Wbh,if_false];refine wpAny_pure<|h vs (List.Perm.refl _) ?_;unfold Sortd
  match vs,h2 with
  |[],_=>exact .nil
  |[_],_=>exact List.pairwise_singleton _ _
  |_::_::_,z=>simp at z;omega
 ·rw[if_neg h2,if_neg h2]
  refine wpAny_bind<|hk (by omega) _ keep _ ?_;have O:Orc prog w A E { s with heap:=((s.heap.update a (Obj.mapSeq λ_=>#[])).push (seqObj "tuple" vs.toArray 0)).push (seqObj "list" #[] 0) } κ kd (vs.toArray.zip vs.toArray):=λt g i j hi hj Q hq=>by
   have at':∀k,k<(vs.toArray.zip vs.toArray).size->∃p,(arrOf t)[k]?=some p/\p.1∈vs/\KK κ (arrOf t) k=keyD κ p.1:=λk hk=>by
    have hk':k<(arrOf t).size:=by rw[g.sz];exact hk
    have e:(arrOf t)[k]?=some (arrOf t)[k]:=getElem?_pos _ k hk';refine⟨_,e,(twins g.pm (arrOf t)[k] (by simp)).2,?_⟩;unfold KK keyD;rw[e]
   obtain⟨p,p1,p2,p3⟩:=at' i hi;obtain⟨q,q1,q2,q3⟩:=at' j hj;rw[p3,q3]at hq;rw[ltAt'_eq];refine wpS_bind<|wpS_get ?_;show wpS _ _ _ _ (do let x ← elem' (arrOf t) i;let y ← elem' (arrOf t) j;lt' x y) Q _;rw[elem'_eq,elem'_eq,p1,q1];refine wpS_bind<|wpS_pure<|wpS_bind<|wpS_pure ?_;rw[lt'_eq];refine wpS_bind<|wpS_get ?_;rw[g.kd];refine wpS_bind<|wpS_lift<|wpAny_attempt<|hc _ keep p.1 p2 q.1 q2 _ _ ⟨rfl,?_⟩;exact wpS_pure hq
  refine wpAny_bind (wpAny_mono (Zyt (t:=SortSt.mk' kd (vs.toArray.zip vs.toArray) #[] 7 none) O (Q:=λ_ u=>(arrOf u).Perm (vs.toArray.zip vs.toArray)/\failedOf u=none/\SortedToK κ (arrOf u) (vs.toArray.zip vs.toArray).size) ⟨Array.Perm.refl _,rfl,rfl,rfl⟩ (by rw[zsz];omega) (by rw[zsz];exact hz) λu u1 u2 u3=>⟨u1,u2,u3⟩) ?_ λ_ _ e=>e);rintro⟨⟨⟩,u⟩ s' ⟨rfl,hp,hf,hs⟩;dsimp only;obtain⟨o1,o2⟩:=Zs1 hp hs;have hfin:=h _ o1 o2;rw[Array.toArray_toList]at hfin;refine wpAny_bind<|seqEpoch_at ho6 rfl ?_;refine wpAny_bind<|listUpdate_at ho6 rfl ?_ (Wcl _) (by rw[Array.size_map,hp.size_eq,zsz];exact Nat.le_succ_of_le hline);rw[hf];simp only[bne_self_eq_false,Wbh,if_false];exact wpAny_pure hfin
theorem Zgj {l:Addr}{b:Bool}{vs:List Value}{kd:SortKind}{κ:PyProof.Rows.KeyKind}{Q:Value->Shared->Prop}(hl:HsB b s.heap l vs.toArray) (hz:vs.length<64)
  (hk:2<=vs.length->∀h',(∀b o,s.heap.get? b=some o->h'.get? b=some o)->∀(E:Value->Shared->Prop) (Q:SortKind->Shared->Prop),Q kd { s with heap:=h' } -> wpAny (model prog w) A.in1.in1 (keyKind' vs.toArray) Q E { s with heap:=h' })
  (hc:∀h',(∀b o,s.heap.get? b=some o->h'.get? b=some o)->∀x∈vs,∀y∈vs,∀(E:Value->Shared->Prop) (Q:Bool->Shared->Prop),Q (κ.blt (keyD κ x)<|keyD κ y) { s with heap:=h' } -> wpAny (model prog w) A.in1.in1 (keyLt' kd x y) Q E { s with heap:=h' })
  (h:∀out:List Value,out.Perm vs->Sortd κ out->Q (.ref<|s.heap.objs.size+1) { s with heap:=sortedAll s.heap vs out.toArray }):wpAny (model prog w) A (call (.builtin "sorted") [.ref l]) Q E s:=by
 have hline:vs.length<=sizeLine:=by rw[sizeLine_eq];omega
 refine Calls.call_function_entry kind_sorted plain_sorted entry_sorted (args_sorted1 _) ?_;unfold Builtin.«sorted»;refine wpAny_bind (m:=checkCount "sorted" 1 1 _)<|wpAny_pure ?_;refine wpAny_bind (show wpAny (model prog w) A.in1 (collect (.ref l)) _ _ s from ?_);have go:∀{Q':List Value->Shared->Prop}{E':Value->Shared->Prop},Q' vs { s with heap:=(s.heap.push<|seqObj "list" #[] 0).update s.heap.objs.size (Obj.mapSeq (· ++ vs.toArray)) } -> wpAny (model prog w) A.in1 (collect (.ref l)) Q' E' s:=λ{Q' E'} q=>by
  cases b with
  |true=>exact Zic hl q hline
  |false=>exact collect_list hl q hline
 refine go ?_;refine wpAny_bind<|wpAny_newList ?_ hline;have hsz:((s.heap.push<|seqObj "list" #[] 0).update s.heap.objs.size (Obj.mapSeq (· ++ vs.toArray))).objs.size=s.heap.objs.size+1:=by
  rw[Wec,size_push']
 have hoL:(((s.heap.push<|seqObj "list" #[] 0).update s.heap.objs.size (Obj.mapSeq (· ++ vs.toArray))).push (seqObj "list" vs.toArray 0)).get? (s.heap.objs.size+1)=some (seqObj "list" vs.toArray 0):=by
  rw[<- hsz];exact Wax _ rfl
 have keep:∀b o,s.heap.get? b=some o->(((s.heap.push<|seqObj "list" #[] 0).update s.heap.objs.size (Obj.mapSeq (· ++ vs.toArray))).push (seqObj "list" vs.toArray 0)).get? b=some o:=λb o q=>by
  have hlt:b<s.heap.objs.size:=Was q;rw[Wd4 _ _ _ (by rw[hsz];exact Wa2<|Wb7 hlt),Heap.get?_update_ne _ _ _ _ (Wa2 hlt),Wd4 _ _ _ (Wa2 hlt)];exact q
 have up:∀h',KeepBut (s.heap.objs.size+1) (((s.heap.push<|seqObj "list" #[] 0).update s.heap.objs.size (Obj.mapSeq (· ++ vs.toArray))).push (seqObj "list" vs.toArray 0)) h' -> ∀b o,s.heap.get? b=some o->h'.get? b=some o:=λh' k b o q=>
  k b o (Wa2<|Wb7<|Was q) (keep b o q)
 show wpAny _ _ _ _ _ { s with heap:=((s.heap.push<|seqObj "list" #[] 0).update s.heap.objs.size (Obj.mapSeq (· ++ vs.toArray))).push (seqObj "list" vs.toArray 0) };rw[hsz];refine wpAny_bind<|wpAny_holding<|wpAny_call_entry slot_list_sort ⟨_,hoL,rfl⟩ entry_list_sort (Zj3 (kd:=kd) (κ:=κ) hoL hz (λh2 h' k Q q=>hk h2 h' (up h' k) _ Q q) (λh' k x hx y hy E Q q=>hc h' (up h' k) x hx y hy E Q q) λout o1 o2=>⟨_,rfl,?_⟩)<|args_list_sort _;exact wpAny_pure ⟨_,rfl,h out o1 o2⟩
end
section
variable {X:Cx}
def SqU (K:W.Frag) (H:Hp) (p:Addr) (us:List V):Prop:=SqL K H p us\/SqT K H p us
def IsRows (K:W.Frag) (H:Hp) (us:List V) (rs:List (List Int)):Prop:=Paired (λ(u:V) (r:List Int)=>∃a,u=.ref a/\SqT K H a (r.map V.int)) us rs
def rSortG (K:W.Frag):List V->Hp->VK->Prop:=λxs H Q=>∃p us rs,xs=[.ref p]/\SqU K H p us/\us.length<64/\IsRows K H us rs ∧
 ∀(l:Addr) (ps:List (V × List Int)),ps.Perm (us.zip rs)->(ps.map (·.2)).Pairwise (λa b=>rlt b a=false)->H l=none->Q (.ref l) (upd H l (.lst<|ps.map (·.1)))
theorem Paired.mem {R:Value->List Int->Prop}:∀{vs:List Value}{rs:List (List Int)},Paired R vs rs->∀v∈vs,∃r∈rs,R v r
 |_,_,.nil,v,h=>by cases h
 |_,_,.cons p t,v,h=>by
  rcases Waq.mp h with e|e
  ·subst e;exact⟨_,Wam,p⟩
  ·obtain⟨r,h1,h2⟩:=Paired.mem t v e
   exact⟨r,Wau _ h1,h2⟩
theorem Zpv {R:V->List Int->Prop}{us:List V}{its:List Value}{rs:List (List Int)}{out:List Value}(hv:Vals us its) (hp:Paired R us rs) (ho:out.Perm its):∃ps:List (V × List Int),Vals (ps.map (·.1)) out/\Paired R (ps.map (·.1)) (ps.map (·.2))/\ps.Perm (us.zip rs):=by
 suffices key:∀{out its:List Value},out.Perm its->∀ps:List (V × List Int),Vals (ps.map (·.1)) its->Paired R (ps.map (·.1)) (ps.map (·.2))->∃qs:List (V × List Int),Vals (qs.map (·.1)) out/\Paired R (qs.map (·.1)) (qs.map (·.2))/\qs.Perm ps by
  have hl:us.length=rs.length:=by
   clear key hv ho
   induction hp with
   |nil=>rfl
   |cons _ _ ih=>rw[Wat,Wat,ih]
  refine key ho (us.zip rs) ?_ ?_
  ·rw[List.map_fst_zip (by omega)];exact hv
  ·rw[List.map_fst_zip (by omega),Web (by omega)];exact hp
 intro out its ho
 induction ho with
 |nil=>
  intro ps hv hp;cases ps with
  |nil=>exact⟨[],.nil,.nil,.refl _⟩
  |cons _ _=>cases hv
 |cons x h ih=>
  intro ps hv hp;cases ps with
  |nil=>cases hv
  |cons a ps=>
   cases hv with
   |cons r t=>
    cases hp with
    |cons p q=>
     obtain⟨qs,a1,a2,a3⟩:=ih ps t q;exact⟨a::qs,.cons r a1,.cons p a2,a3.cons _⟩
 |swap x y l=>
  intro ps hv hp;cases ps with
  |nil=>cases hv
  |cons a ps=>
   cases ps with
   |nil=>cases hv with|cons _ t=>cases t
   |cons b ps=>
    cases hv with
    |cons r t=>
     cases t with
     |cons r2 t=>
      cases hp with
      |cons p q=>
       cases q with
       |cons p2 q=>exact⟨b::a::ps,.cons r2 (.cons r t),.cons p2 (.cons p q),.swap _ _ _⟩
 |trans h1 h2 ih1 ih2=>
  intro ps hv hp;obtain⟨qs,a1,a2,a3⟩:=ih2 ps hv hp;obtain⟨qs2,b1,b2,b3⟩:=ih1 qs a1 a2;exact⟨qs2,b1,b2,b3.trans a3⟩
theorem Paired.get2 {R:Value->List Int->Prop}:∀{vs:List Value}{rs:List (List Int)}{i:Nat}{r:List Int},Paired R vs rs->rs[i]?=some r->∃v,vs[i]?=some v/\R v r
 |_,_,_,_,.nil,h=>by simp at h
 |_,_,0,_,.cons p _,h=>by simp at h;subst h;exact⟨_,rfl,p⟩
 |_,_,i+1,r,.cons _ t,h=>by
  obtain⟨v,h1,h2⟩:=Paired.get2 (i:=i) (r:=r) t (by simpa using h);exact⟨v,by simpa using h1,h2⟩
theorem sortGK (K:W.Frag) (hu:X.A.units+8<cLine) (hK:X.K=K:=by rfl):CallR X (.builtin "sorted") (rSortG K):=by
 subst hK;intro pins s σ H xs us Q I r h;obtain⟨p,ys,rs,rfl,hx,hl,hp,q⟩:=h;obtain⟨u,rfl,ru⟩:=vals1 r;cases (show u=Value.ref p from ru);obtain⟨b,hx⟩:∃b,SqB b X.K H p ys:=by
  rcases hx with z|z
  ·exact⟨false,z⟩
  ·exact⟨true,z⟩
 obtain⟨its,w1,p1⟩:=I.seqB hx;have pr:=Zl6 I w1 hp;have hlen:=w1.length;have hrl:=Paired.len pr;have hu2:X.A.in1.in1.units<cLine:=Wcv (by show X.A.units+1+1<=X.A.units+8;omega) hu;have fin:∀out:List Value,out.Perm its->Sortd (rowKey s.heap) out->EP X pins σ Q (.ref<|s.heap.objs.size+1) { s with heap:=sortedAll s.heap its out.toArray }:=λout o1 o2=>by
  obtain⟨ps,a1,a2,a3⟩:=Zpv w1 hp o1;have pr':=Zl6 I a1 a2;obtain⟨e,he⟩:=sortedAll_at s.heap its out.toArray;have hs:(ps.map (·.2)).Pairwise (λa b=>rlt b a=false):=by
   rw[Wb2];intro i j hi hj hij;obtain⟨v,v1,v2⟩:=Paired.get2 pr'<|Waa hi;obtain⟨u,u1,u2⟩:=Paired.get2 pr'<|Waa hj;obtain⟨g1,g2⟩:=Wah.mp v1;obtain⟨g3,g4⟩:=Wah.mp u1;have:=(Wb2.mp o2) i j g1 g3 hij;rw[g2,g4]at this;unfold keyD at this;rw[Zhr v2,Zhr u2]at this;exact this
  have hl':=a1.length;have ho':=o1.length_eq;refine⟨.ref<|s.heap.objs.size+1,_,I.laid (t':=s.toks) (λ_ _ z=>sortedAll_old z) (Wcy _) (show ObjOk X.prog X.w _ _ _ (.lst<|ps.map (·.1)) from ⟨Wb0 (small1000<|by omega),out,e,a1,he⟩),rfl,q _ ps a3 hs<|I.hok.fresh<|Wcy _⟩
 have cmp:∀h',(∀b o,s.heap.get? b=some o->h'.get? b=some o)->∀x∈its,∃a,RowAt h' x a/\keyD (rowKey s.heap) x=a:=λh' k x hx=>by
  obtain⟨a,_,ha⟩:=Paired.mem pr x hx;refine⟨a,ha.keep k,?_⟩;unfold keyD;rw[Zhr ha];rfl
 by_cases hne:∀r∈rs,r≠[]
 ·refine Zgj (b:=b) (kd:=tuples' true) (κ:=rowKey s.heap) p1 (by omega) (λh2 h' k E Q hq=>?_) (λh' k x hx y hy E Q hq=>?_) fin
  ·exact Zn4 (s:={ s with heap:=h' }) (Paired.up (λv r z=>z.keep k) pr) hne (by intro z;subst z;rw[Wdd]at hrl;omega) hq
  ·obtain⟨a,a1,a2⟩:=cmp h' k x hx
   obtain⟨c,c1,c2⟩:=cmp h' k y hy;rw[a2,c2]at hq;exact Ztg (s:={ s with heap:=h' }) a1 c1 hq
 ·cases rs with
  |nil=>exact absurd (λr h=>nomatch h) hne
  |cons r0 rs=>
   by_cases h0:r0=[]
   ·subst h0
    refine Zgj (b:=b) (kd:=oneType') (κ:=rowKey s.heap) p1 (by omega) (λh2 h' k E Q hq=>?_) (λh' k x hx y hy E Q hq=>?_) fin
    ·exact Zoc (s:={ s with heap:=h' }) (Paired.up (λv r z=>z.keep k) pr) hq
    ·obtain⟨a,a1,a2⟩:=cmp h' k x hx
     obtain⟨c,c1,c2⟩:=cmp h' k y hy;rw[a2,c2]at hq;exact Zty (s:={ s with heap:=h' }) hu2 a1 c1 hq
   ·have he:[]∈rs:=by
     apply Classical.byContradiction;intro z;refine hne λr hr e=>?_;subst e;rcases Waq.mp hr with y|y
     ·exact h0 y.symm
     ·exact z y
    refine Zgj (b:=b) (kd:=general') (κ:=rowKey s.heap) p1 (by omega) (λh2 h' k E Q hq=>?_) (λh' k x hx y hy E Q hq=>?_) fin
    ·exact Zod (s:={ s with heap:=h' }) (Paired.up (λv r z=>z.keep k) pr) h0 he hq
    ·obtain⟨a,a1,a2⟩:=cmp h' k x hx
     obtain⟨c,c1,c2⟩:=cmp h' k y hy;rw[a2,c2]at hq;exact Zr9 (s:={ s with heap:=h' }) hu2 a1 c1 hq
end
section
variable {K:W.Frag}{Δ:Evt}
theorem Zms {G:Hp}:∀{us:List V}{ds:List D},Reps K G us ds->∀p∈us.zip ds,Rep K G p.1 p.2
 |_,_,.nil,p,h=>by cases h
 |_,_,.cons r t,p,h=>by
  rcases Waq.mp h with e|e
  ·subst e;exact r
  ·exact Zms t p e
theorem Zja {G:Hp}:∀ps:List (V × List Int),(∀p∈ps,Rep K G p.1 (rowD p.2))->Reps K G (ps.map (·.1)) ((ps.map (·.2)).map rowD)
 |[],_=>.nil
 |p::ps,h=>.cons (h p Wam) (Zja ps λq hq=>h q (Wau _ hq))
theorem Zkb {ta:TA}{Po:OD->Evt->Prop}(h:JA K ta Δ λds Δ1=>∃rs:List (List Int),(ds=[.lst (rs.map rowD)]\/ds=[.tup (rs.map rowD)])/\rs.length<64/\∀ms:List (List Int),ms.Perm rs->ms.Pairwise (λa b=>rlt b a=false)->Po (.lst<|ms.map rowD) Δ1):JO K (tCB (rSortG K) ta) Δ Po:=λg G H σ Q k c=>
 h g G H σ _ k λvs ds G1 H1 Δ1 k1 s1 r1 hq_=>by
  obtain⟨rs,e,hl,p⟩:=hq_;obtain⟨a,us,ea,hs,rr⟩:∃a us,vs=[.ref a]/\SqU K H1 a us/\Reps K G1 us (rs.map rowD):=by
   rcases e with e|e <;> subst e
   ·obtain⟨_,_,rfl,r,t⟩:=r1.inv
    next=>cases t.inv;cases r with|lst ha' rr=>exact⟨_,_,rfl,.inl<|SqL.of<|k1.live _ _ ha',rr⟩
   ·obtain⟨_,_,rfl,r,t⟩:=r1.inv
    next=>cases t.inv;cases r with|tup ha' rr=>exact⟨_,_,rfl,.inr<|SqT.of<|k1.live _ _ ha',rr⟩
  subst ea;have hlen:=rr.length;rw[Wab]at hlen;refine⟨a,us,rs,rfl,hs,by omega,Zmr k1.live rr,λl ps a1 a2 hl=>?_⟩;have hr:Reps K G1 (ps.map (·.1)) ((ps.map (·.2)).map rowD):=Zja ps λp hp=>by
   have h1:=a1.mem_iff.mp hp;refine Zms rr (p.1,rowD p.2) ?_;obtain⟨i,hi⟩:=Wbx.mp h1;rw[Wce]at hi;refine Wbx.mpr ⟨i,?_⟩;rw[Wce,Wad,hi.2];exact⟨hi.1,rfl⟩
  have hp2:(ps.map (·.2)).Perm rs:=by
   have:=a1.map (·.2);rw[Web (by omega)]at this;exact this
  obtain⟨k2,pd⟩:=k1.fresh (od:=.lst ((ps.map (·.2)).map rowD)) hl (show OwnRep K G1 (.lst<|ps.map (·.1)) (.lst ((ps.map (·.2)).map rowD)) from hr);exact c l _ G1 _ Δ1 k2 s1 pd<|p _ hp2 a2
end
section
variable {K:W.Frag}{Δ:Evt}{P:D->Evt->Prop}
end
section
variable {X:Cx}{pins:List (Addr × Obj)}{σ:St}{H H':Hp}{s:Shared}{h':Heap}{b:Addr}
end
section
variable {X:Cx}{pins:List (Addr × Obj)}{σ:St}{H H':Hp}{s:Shared}{h':Heap}{a C T:Addr}
variable {M:Model}{E:Value->Shared->Prop}{Q:Unit->Shared->Prop}
end
section
variable {X:Cx}{pins:List (Addr × Obj)}{σ:St}{H:Hp}{s:Shared}{a C:Addr}
end
section
variable {X:Cx}
end
section
variable {P:Program}{w:World}{K:W.Frag}{mg:Str->Option Value}{base:Heap}
end
section
variable {K:W.Frag}{Δ:Evt}{E:XK}{Xp:Addr->Prop}{nx bk ct:Evt->Prop}{rt:D->Evt->Prop}{ro:OD->Evt->Prop}
end
open PySem PySem.Spec PyProof.Rows PySem.SeqAt
theorem Zde {A:Around}{s:Shared}{x:V}{v u:Value}(h:flatV x=true) (rv:RelV x v) (ru:RelV x u):EqAt A s v u true:=by
 cases x with
 |non=>cases (show v=Value.none from rv);cases (show u=Value.none from ru);exact EqAt.same _
 |bl b=>cases (show v=Value.bool b from rv);cases (show u=Value.bool b from ru);exact EqAt.same _
 |int i=>
  obtain⟨t,rfl⟩:=rv;obtain⟨t',rfl⟩:=ru;have:=EqAt.int_int (A:=A) (s:=s) i t i t'
  rwa [beq_self_eq_true]at this
 |str i=>
  obtain⟨t,rfl⟩:=rv;obtain⟨t',rfl⟩:=ru;have:=EqAt.str_str (A:=A) (s:=s) i t i t'
  rwa [beq_self_eq_true]at this
 |_=>cases h
section
variable {K:W.Frag}{Δ:Evt}{P:D->Evt->Prop}
def flatE:D->Bool
 |.non=>true
 |.bl _=>true
 |.int _=>true
 |.str _=>true
 |_=>false
end
section
variable {K:W.Frag}{Δ:Evt}
end
section
variable {X:Cx}
def CDivB (i j:Int):Prop:=0<j/\j<=100000000000000000000000000000000000000000000000000000000000
theorem Zke:OpR X (binaryOp .FloorDiv) (rI CDivB λi j=>.int<|i / j):=opI λi j _ _ _ _ _ hc q=>by
 have h1:(0:Int)<j:=hc.1;have h2:=hc.2;refine floordiv_int (by omega) (by rw[Int.fdiv_eq_ediv_of_nonneg i (by omega)];exact q) (.inl<|PyProof.noPylong_of_log2 ?_);have h3:j.natAbs<=100000000000000000000000000000000000000000000000000000000000:=by omega
 have h4:j.natAbs<2 ^ 200:=Wcv h3 (by decide);exact Nat.lt_trans ((Nat.log2_lt<|by omega).2 h4) (by decide)
end
section
variable {K:W.Frag}{Δ:Evt}{E:XK}{Xp:Addr->Prop}{P:D->Evt->Prop}
end
def keyPd:Key->PyData
 |.inl i=>.int i
 |.inr x=>.str x
mutual
def D.pd:D->PyData
 |.non=>.none
 |.bl b=>.bool b
 |.int i=>.int i
 |.str x=>.str x
 |.tup ds=>.tuple (D.pds ds)
 |.lst ds=>.list (D.pds ds)
 |.dct ks ds=>.dict ((ks.map keyPd).zip (D.pds ds))
 |_=>.none
def D.pds:List D->List PyData
 |[]=>[]
 |d::ds=>D.pd d::D.pds ds
end
section
variable {X:Cx}
end
def rEqT0 (K:W.Frag):R2:=λx y H Q=>∃(a b:Addr) (xs:List V),x=.ref a/\y=.ref b/\SqT K H a xs/\SqT K H b []/\Q (.bl xs.isEmpty) H
theorem eqT0K {X:Cx}(K:W.Frag) (hu:X.A.units+1<cLine) (hK:X.K=K:=by rfl):OpR X (compareOp .Eq) (rEqT0 K):=by
 subst hK;intro pins s σ H x y v u Q I rx ry h;obtain⟨a,b,xs,rfl,rfl,h1,h2,q⟩:=h;cases rx;cases ry;obtain⟨its,w1,p1,_⟩:=I.tuple h1;obtain⟨its2,w2,p2,_⟩:=I.tuple h2;cases w2;refine PySem.SeqAt.RcAt.tuples (A:=X.A) (s:=s) (e:=λ_=>true) p1 p2 (by omega) (λj _ z=>absurd z<|by simp) X.prog X.w _ _ ?_;have e:((Wap<|min its.toArray.size ([]:List Value).toArray.size).all (λ_=>true) && its.toArray.size == ([]:List Value).toArray.size)=xs.isEmpty:=by
  cases w1 with
  |nil=>rfl
  |cons _ _=>simp
 rw[e];exact⟨.bl _,H,I,rfl,q⟩
theorem Zwq {K:W.Frag}{Δ:Evt}{P:D->Evt->Prop}{ds:List D}(p:P (.bl ds.isEmpty) Δ):JR2 K (rEqT0 K) (.tup ds) (.tup []) Δ P:=λg G H σ Q x y k rx ry c=>by
 obtain⟨_,_,rfl,ha,ra⟩:=rx.inv
 next=>
  obtain⟨_,_,rfl,hb,rb⟩:=ry.inv
  next=>
   cases rb.inv;refine⟨_,_,_,rfl,rfl,SqT.of<|k.live _ _ ha,SqT.of<|k.live _ _ hb,?_⟩;rw[ra.isEmpty];exact c _ _ G H Δ k (Same.refl _) (.bl _) p
section
variable {K:W.Frag}{Δ:Evt}{P:D->Evt->Prop}
end
def PV (K:W.Frag) (te:TE) (Δ:Evt) (d:D):Prop:=∀P:D->Evt->Prop,P d Δ -> JE K te Δ P
def PVs (K:W.Frag) (ta:TA) (Δ:Evt) (ds:List D):Prop:=∀P:List D->Evt->Prop,P ds Δ -> JA K ta Δ P
def PR2 (K:W.Frag) (r:R2) (d e:D) (Δ:Evt) (x:D):Prop:=∀P:D->Evt->Prop,P x Δ -> JR2 K r d e Δ P
section
variable {K:W.Frag}{Δ:Evt}
theorem Zd1 {te:TE}{d:D}{P:D->Evt->Prop}(h:PV K te Δ d) (p:P d Δ):JE K te Δ P:=h P p
theorem Zgz {ta:TA}{ds:List D}{P:List D->Evt->Prop}(h:PVs K ta Δ ds) (p:P ds Δ):JA K ta Δ P:=h P p
theorem Za6 {i:Nat}{d:D}(h:Δ[i]?=some (.val d)):PV K (tVar i) Δ d:=λP p=>Zac h p
theorem Zc2 {i:Int}:PV K (tC (.int i)) Δ (.int i):=λP p=>Zak p
theorem Zd7:PVs K tNil Δ []:=λP p=>Zaf p
theorem Zay {ta:TE}{tr:TA}{d:D}{ds:List D}(h:PV K ta Δ d) (t:PVs K tr Δ ds):PVs K (tCons ta tr) Δ (d::ds):=λP p=>Zab<|h _<|t _ p
theorem Zy4 {ta:TA}{ds:List D}(h:PVs K ta Δ ds) (z:ds.length<=sizeLine):PV K (tTup ta) Δ (.tup ds):=λP p=>Zb7<|h _ ⟨z,p⟩
theorem Zym {ta:TA}{ds:List D}(h:PVs K ta Δ ds) (z:ds.length<=sizeLine):PV K (tLst ta) Δ (.lst ds):=λP p=>Zut<|h _ ⟨z,p⟩
theorem Ze4 {r:R2}{ta tb:TE}{d e x:D}(a:PV K ta Δ d) (b:PV K tb Δ e) (h:PR2 K r d e Δ x):PV K (tOp r ta tb) Δ x:=λP p=>Zaj<|a _<|b _<|h P p
theorem Zxf {ds:List D}{i:Int}{d:D}(h:atI ds i=some d):PR2 K (rIxU K) (.tup ds) (.int i) Δ d:=λP p=>Zas h p
theorem Zyb {ds:List D}{i:Int}{d:D}(h:atI ds i=some d):PR2 K (rIxU K) (.lst ds) (.int i) Δ d:=λP p=>Zc4 h p
theorem Zmb {i j:Int}:PR2 K (rAddU K) (.int i) (.int j) Δ (.int<|i+j):=λP p=>Zcd p
theorem Zy7 {f:Int->Int->Int}{i j:Int}:PR2 K (rI0 λi j=>.int<|f i j) (.int i) (.int j) Δ (.int<|f i j):=λP p=>Zfz p
theorem pr_I {C:Int->Int->Prop}{f:Int->Int->Int}{i j:Int}(hc:C i j):PR2 K (rI C λi j=>.int<|f i j) (.int i) (.int j) Δ (.int<|f i j):=λP p=>jr_I hc p
theorem Ze8 {ta tb:TE}{ds:List D}{i:Int}{d:D}(a:PV K ta Δ (.tup ds)) (b:PV K tb Δ (.int i)) (h:atI ds i=some d):PV K (tOp (rIxU K) ta tb) Δ d:=Ze4 a b<|Zxf h
theorem Zuj {ta tb:TE}{ds:List D}{i:Int}{d:D}(a:PV K ta Δ (.lst ds)) (b:PV K tb Δ (.int i)) (h:atI ds i=some d):PV K (tOp (rIxU K) ta tb) Δ d:=Ze4 a b<|Zyb h
theorem Zd0 {n:Nat}{ds:List D}{i:Int}{d:D}(hx:Δ[n]?=some (.val (.tup ds))) (h:atI ds i=some d):PV K (tOp (rIxU K) (tVar n)<|tC (.int i)) Δ d:=Ze8 (Za6 hx) Zc2 h
theorem Zuk {n:Nat}{ds:List D}{i:Int}{d:D}(hx:Δ[n]?=some (.val (.lst ds))) (h:atI ds i=some d):PV K (tOp (rIxU K) (tVar n)<|tC (.int i)) Δ d:=Zuj (Za6 hx) Zc2 h
theorem Zif {ta:TE}{ds:List D}(a:PV K ta Δ (.tup ds)):PV K (tCB (rLenU K)<|tCons ta tNil) Δ (.int ds.length):=λP p=>Za0<|Zab<|a _<|Zaf<|Za7 (.inr rfl) p
theorem Zq8 {ta:TE}{ds:List D}(a:PV K ta Δ (.lst ds)):PV K (tCB (rLenU K)<|tCons ta tNil) Δ (.int ds.length):=λP p=>Za0<|Zab<|a _<|Zaf<|Za7 (.inl rfl) p
end
open PySem PySem.Spec PyProof.Rows PySem.SeqAt
def Sm:Nat->D->Bool
 |0,d=>flatE d
 |n+1,d=>match d with
  |.lst ds=>ds.all (Sm n)
  |.tup ds=>ds.all (Sm n)
  |d=>flatE d
section
variable {X:Cx}
theorem Zhw:∀(n:Nat) {A:Around}{pins:List (Addr × Obj)}{σ:St}{H G:Hp}{s:Shared}{x y:V}{v u:Value}{d:D},Inv X pins σ H s->Same G H->Rep X.K G x d->Rep X.K G y d->RelV x v->RelV y u->Sm n d=true->A.units+n<cLine->EqAt A s v u true
 |0,A,pins,σ,H,G,s,x,y,v,u,d,I,sg,rx,ry,rv,ru,h,hu=>by
  cases d with
  |non=>cases rx;cases ry;exact Zde rfl rv ru
  |bl _=>cases rx;cases ry;exact Zde rfl rv ru
  |int _=>cases rx;cases ry;exact Zde rfl rv ru
  |str _=>cases rx;cases ry;exact Zde rfl rv ru
  |_=>exact nomatch h
 |n+1,A,pins,σ,H,G,s,x,y,v,u,d,I,sg,rx,ry,rv,ru,h,hu=>by
  cases d with
  |non=>cases rx;cases ry;exact Zde rfl rv ru
  |bl _=>cases rx;cases ry;exact Zde rfl rv ru
  |int _=>cases rx;cases ry;exact Zde rfl rv ru
  |str _=>cases rx;cases ry;exact Zde rfl rv ru
  |lst ds=>
   cases rx with
   |@lst a vs _ ha ra=>
    cases ry with
    |@lst b us _ hb rb=>
     cases rv;cases ru;obtain⟨its,w1,pl,_⟩:=I.list<|SqL.of<|sg _ _ ha;obtain⟨its2,w2,pl2,_⟩:=I.list<|SqL.of<|sg _ _ hb;have l1:=w1.length;have l2:=w2.length;have l3:=ra.length;have l4:=rb.length;have h:ds.all (Sm n)=true:=h;by_cases hab:a=b
     ·subst hab;exact EqAt.same _
     ·refine .of_refs hab ?_
      have z:=RcAt.lists (A:=A) (s:=s) (e:=λ_=>true) pl.isList pl2.isList (by rw[Waj,Waj];omega) (by omega) λj h1 h2=>by
       have h1':j<its.length:=by simpa using h1
       have h2':j<its2.length:=by simpa using h2
       have hx:j<ds.length:=by omega
       obtain⟨p,hp1,hp2⟩:=ra.get<|Waa hx;obtain⟨q,hq1,hq2⟩:=rb.get<|Waa hx;obtain⟨va,hv1,hv2⟩:=w1.get hp1;obtain⟨vb,hw1,hw2⟩:=w2.get hq1;rw[Waa h1']at hv1;rw[Waa h2']at hw1;rw[Wch,Wch,Wba.inj hv1,Wba.inj hw1];exact Zhw n I sg hp2 hq2 hv2 hw2 (Wbi.mp h _<|Wa0 hx) (by show A.units+1+n<cLine;omega)
      rw[Wbi.mpr (λ_ _=>rfl)]at z;exact z
  |tup ds=>
   cases rx with
   |@tup a vs _ ha ra=>
    cases ry with
    |@tup b us _ hb rb=>
     cases rv;cases ru;obtain⟨its,w1,pl,_⟩:=I.tuple<|SqT.of<|sg _ _ ha;obtain⟨its2,w2,pl2,_⟩:=I.tuple<|SqT.of<|sg _ _ hb;have l1:=w1.length;have l2:=w2.length;have l3:=ra.length;have l4:=rb.length;have h:ds.all (Sm n)=true:=h;by_cases hab:a=b
     ·subst hab;exact EqAt.same _
     ·refine .of_refs hab ?_
      have z:=RcAt.tuples (A:=A) (s:=s) (e:=λ_=>true) pl pl2 (by omega) λj h1 h2=>by
       have h1':j<its.length:=by simpa using h1
       have h2':j<its2.length:=by simpa using h2
       have hx:j<ds.length:=by omega
       obtain⟨p,hp1,hp2⟩:=ra.get<|Waa hx;obtain⟨q,hq1,hq2⟩:=rb.get<|Waa hx;obtain⟨va,hv1,hv2⟩:=w1.get hp1;obtain⟨vb,hw1,hw2⟩:=w2.get hq1;rw[Waa h1']at hv1;rw[Waa h2']at hw1;rw[Wch,Wch,Wba.inj hv1,Wba.inj hw1];exact Zhw n I sg hp2 hq2 hv2 hw2 (Wbi.mp h _<|Wa0 hx) (by show A.units+1+n<cLine;omega)
      rw[Wbi.mpr (λ_ _=>rfl),show (its.toArray.size == its2.toArray.size)=true by rw[Waj,Waj];exact beq_iff_eq.mpr (by omega),Bool.and_self]at z;exact z
  |_=>exact nomatch h
def rNeSm (K:W.Frag):R2:=λx y H Q=>Q (.bl false) H/\∃(G:Hp) (n:Nat) (a b:Addr) (xs ys:List V) (ds:List D),Same G H/\Reps K G xs ds/\Reps K G ys ds/\ds.all (Sm n)=true/\n<=5/\x=.ref a/\y=.ref b/\SqL K H a xs/\SqL K H b ys
theorem neSmK (K:W.Frag) (hv:X.A.units+8<cLine) (hK:X.K=K:=by rfl):OpR X (compareOp .NotEq) (rNeSm K):=by
 subst hK;intro pins s σ H x y v u Q I rx ry h;obtain⟨q,G,n,a,b,xs,ys,ds,sg,ra,rb,hd,hn,rfl,rfl,h1,h2⟩:=h;cases rx;cases ry;obtain⟨its,w1,p1,_⟩:=I.list h1;obtain⟨its2,w2,p2,_⟩:=I.list h2;have l1:=w1.length;have l2:=w2.length;have l3:=ra.length;have l4:=rb.length;refine RcNeAt.lists (A:=X.A) (s:=s) (e:=λ_=>true) p1.isList p2.isList (by rw[Waj,Waj];omega) (by omega) (λj h1 h2=>?_) X.prog X.w _ _ ?_
 ·have h1':j<its.length:=by simpa using h1
  have h2':j<its2.length:=by simpa using h2
  have hx:j<ds.length:=by omega
  obtain⟨p,hp1,hp2⟩:=ra.get<|Waa hx;obtain⟨q,hq1,hq2⟩:=rb.get<|Waa hx;obtain⟨va,hv1,hv2⟩:=w1.get hp1;obtain⟨vb,hw1,hw2⟩:=w2.get hq1;rw[Waa h1']at hv1;rw[Waa h2']at hw1;rw[Wch,Wch,Wba.inj hv1,Wba.inj hw1];exact Zhw n I sg hp2 hq2 hv2 hw2 (Wbi.mp hd _<|Wa0 hx) (by show X.A.units+1+n<cLine;omega)
 ·rw[Wbi.mpr (λ_ _=>rfl)]
  exact⟨.bl false,H,I,rfl,q⟩
end
theorem Zv0 {K:W.Frag}{Δ:Evt}{P:D->Evt->Prop}{n:Nat}{ds:List D}(hn:n<=5) (h:ds.all (Sm n)=true) (p:P (.bl false) Δ):JR2 K (rNeSm K) (.lst ds) (.lst ds) Δ P:=λg G H σ Q x y k rx ry c=>by
 obtain⟨_,_,rfl,ha,ra⟩:=rx.inv
 next=>
  obtain⟨_,_,rfl,hb,rb⟩:=ry.inv
  next=>exact⟨c _ _ G H Δ k (Same.refl _) (.bl false) p,G,n,_,_,_,_,ds,k.live,ra,rb,h,hn,rfl,rfl,SqL.of<|k.live _ _ ha,SqL.of<|k.live _ _ hb⟩
def rEqL0 (K:W.Frag):R2:=λx y H Q=>∃(a b:Addr) (xs:List V),x=.ref a/\y=.ref b/\SqL K H a xs/\SqL K H b []/\Q (.bl xs.isEmpty) H
theorem eqL0K {X:Cx}(K:W.Frag) (hu:X.A.units+1<cLine) (hK:X.K=K:=by rfl):OpR X (compareOp .Eq) (rEqL0 K):=by
 subst hK;intro pins s σ H x y v u Q I rx ry h;obtain⟨a,b,xs,rfl,rfl,h1,h2,q⟩:=h;cases rx;cases ry;obtain⟨its,w1,p1,_⟩:=I.list h1;obtain⟨its2,w2,p2,_⟩:=I.list h2;cases w2;cases w1 with
 |nil=>exact RcAt.lists (A:=X.A) (s:=s) (e:=λ_=>true) p1.isList p2.isList rfl (by omega) (λj _ z=>absurd z (by simp)) X.prog X.w _ _ ⟨.bl _,H,I,rfl,q⟩
 |cons r t=>exact RcAt.lists_lengths (A:=X.A) (s:=s) p1.isList p2.isList (by simp) (by omega) X.prog X.w _ _ ⟨.bl _,H,I,rfl,q⟩
theorem Zwv {K:W.Frag}{Δ:Evt}{P:D->Evt->Prop}{ds:List D}(p:P (.bl ds.isEmpty) Δ):JR2 K (rEqL0 K) (.lst ds) (.lst []) Δ P:=λg G H σ Q x y k rx ry c=>by
 obtain⟨_,_,rfl,ha,ra⟩:=rx.inv;obtain⟨_,_,rfl,hb,rb⟩:=ry.inv;cases rb.inv;refine⟨_,_,_,rfl,rfl,SqL.of<|k.live _ _ ha,SqL.of<|k.live _ _ hb,?_⟩;rw[ra.isEmpty];exact c _ _ G H Δ k (Same.refl _) (.bl _) p
open PySem PySem.Spec PyProof.Rows PySem.SeqAt
section
variable {K:W.Frag}{Δ:Evt}
end
def tPar3 (i j k:Nat) (ta:TA):TS:=λD σ H=>ta σ H λvs H1=>∃u v w,vs=[u,v,w]/\D.nx (((σ.set i<|some u).set j (some v)).set k (some w)) H1
section
variable {X:Cx}{pos:Pos}
theorem Zqn {i j k:Nat}{x y z:Str}{a b c:Expr}{ta:TA}{px py pz pt:Pos}{kt k2 pt2} (hc:X.calm=true) (hN:X.N.Nodup) (hi:X.N[i]?=some x) (hj:X.N[j]?=some y) (hk:X.N[k]?=some z) (hij:i≠j) (hik:i≠k) (hjk:j≠k)
  (hx:X.env.scope.names.lookup x=some .local) (hy:X.env.scope.names.lookup y=some .local) (hz:X.env.scope.names.lookup z=some .local) (ha:PA X [a,b,c] ta)
  (hw:swappedStores [.Tuple [.Name x px,.Name y py,.Name z pz] kt pt] (.Tuple [a,b,c] k2 pt2) X.env=pure (some [x,y,z]))
  (hs:swapsWithSole [.Tuple [.Name x px,.Name y py,.Name z pz] kt pt] (.Tuple [a,b,c] k2 pt2) pos.line X.env=pure false:=by rfl) :
  PS X (.Assign [.Tuple [.Name x px,.Name y py,.Name z pz] kt pt] (.Tuple [a,b,c] k2 pt2) pos) (tPar3 i j k ta):=by
 intro pins s σ H D I h;rw[exec_Assign_arm];refine wpAny_bind<|wpAny_standAt ?_;rw[hs];refine wpAny_bind<|wpAny_pure ?_;rw[if_neg (by decide)];refine wpAny_bind<|Tuple_ (thn (ha _ pins s σ H _ I h) λus s1 ⟨vs,H1,I1,r1,q1⟩=>?_);obtain⟨t,v,w,e1,q1⟩:=q1;subst e1;obtain⟨u0,u1,u2,rfl,rt,rv,rw'⟩:∃u0 u1 u2,us=[u0,u1,u2]/\RelV t u0/\RelV v u1/\RelV w u2:=by
  cases r1 with
  |cons p q=>
   cases q with
   |cons p' q'=>
    cases q' with
    |cons p'' q''=>cases q'';exact⟨_,_,_,rfl,p,p',p''⟩
 refine wpAny_newObj_type ?_ (by show 3<=sizeLine;decide);have I2:Inv X pins σ H1 { s1 with heap:=s1.heap.push { cls:=.type "tuple",data:=.seq [u0,u1,u2].toArray } }:=I1.kept (t':=s1.toks) λb o e=>Waf _ e;rw[hw];refine wpAny_bind<|wpAny_pure ?_;show wpAny (model X.prog X.w) X.A (do rule "assign.swapped-stores";let items ← unpackItems (.ref s1.heap.objs.size) 3 none;assignInOrder [λv=>bindName X.env z v,λv=>bindName X.env y v,λv=>bindName X.env x v] items.reverse;pure Flow.next) _ _ _;refine wpAny_bind<|wpAny_rule<|wpAny_bind (unpackItems_tuple (items:=#[u0,u1,u2]) (I.ok.hd hc) (IsTup.new s1.heap _) λh' hx'=>?_);have I3:=I2.kept (h':=h') (t':=s1.toks) λb o e=>hx' b o (Wa2<|Was e) e;show wpAny _ _ (assignInOrder [λv=>bindName X.env z v,λv=>bindName X.env y v,λv=>bindName X.env x v] [u2,u1,u0] >>= λ_=>pure Flow.next) _ _ _;refine wpAny_bind<|assignInOrder_cons<|wpAny_bindName<|Zep I3 hN hk (.inl hz) rw' (λs2 I4=>?_) (.inr hz);refine assignInOrder_cons<|wpAny_bindName<|Zep I4 hN hj (.inl hy) rv (λs3 I5=>?_) (.inr hy);refine assignInOrder_cons<|wpAny_bindName<|Zep I5 hN hi (.inl hx) rt (λs4 I6=>assignInOrder_nil<|wpAny_pure ?_) (.inr hx);rw[Weq _ _ (Ne.symm hjk),Weq (i:=k) (j:=i) _ _ (Ne.symm hik),Weq (i:=j) (j:=i) _ _ (Ne.symm hij)]at I6;exact⟨_,H1,I6,q1⟩
end
section
variable {K:W.Frag}{Δ:Evt}{P:D->Evt->Prop}
theorem Zpa {i j l:Nat}{ta:TA}{nx bk ct:Evt->Prop}{rt:D->Evt->Prop}{ro:OD->Evt->Prop}(h:JA K ta Δ λds Δ1=>∃d e f,ds=[d,e,f]/\i < Δ1.length/\j < Δ1.length/\l < Δ1.length/\nx (((Δ1.set i (.val d)).set j (.val e)).set l (.val f))):JS K (tPar3 i j l ta) Δ ⟨nx,rt,bk,ct,ro⟩:=λg G H σ D k c=>
 h g G H σ _ k λvs ds G1 H1 Δ1 k1 s1 r1 ⟨d,e,f,ed,hi,hj,hl,p⟩=>by
  subst ed;obtain⟨u,us,rfl,ru,r2⟩:=r1.inv;obtain⟨v,vs',rfl,rv,r3⟩:=r2.inv;obtain⟨w,ws,rfl,rw',r4⟩:=r3.inv;cases r4.inv;refine⟨u,v,w,rfl,c.nx _ G1 H1 _ (((k1.setVal hi ru).setVal (by rw[Wby];exact hj) rv).setVal (by rw[Wby,Wby];exact hl) rw') p⟩
theorem Ztr {n:Nat}{ta:TE}{i:Int}(hv:Δ[n]?=some (.val (.int i))) (h:JO K ta Δ λod Δ1=>∃kvs d,od=.dct kvs /\ Δ1 = Δ /\ valD kvs (.inl i)=some d/\P d Δ1):JE K (tOp (rIxU K) ta<|tVar n) Δ P:=λg G H σ Q k c=>
 h g G H σ _ k λa od G1 H1 Δ1 k1 s1 pd ⟨kvs,d,eo,eΔ,hval,p⟩=>by
  subst eo;subst eΔ;obtain⟨o,q1,q2,_⟩:=pd;obtain⟨v,w1,w2⟩:=k1.val n _ hv;cases w2.inv;cases o with
  |dK vs=>
   obtain⟨u,z1,z2⟩:=Zlw q2 hval;exact⟨.int i,w1,.inr ⟨a,u,rfl,(by have:=DGet.k (k:=Sum.inl i) q1;rw[z1]at this;exact this),c u d G1 H1 Δ1 k1 s1 z2 p⟩⟩
  |_=>exact absurd q2 (λz=>z)
end
end L2
set_option Elab.async false
set_option linter.all false
set_option maxRecDepth 100000
set_option maxHeartbeats 4000000
namespace Lw
open PySem L2
def top (i:Nat):Stmt:=PySem.Challenge.pw_holefloor_k35_whole_holes_as_ties_come_a.main.body.getD i (.Pass ⟨0,0,0,0⟩)
abbrev Yar:Stmt:=top 6
abbrev Ya8:Stmt:=top 9
abbrev Ya9:Stmt:=top 10
abbrev Yba:Stmt:=top 11
abbrev Yai:Stmt:=top 12
abbrev Yas:Stmt:=top 14
abbrev Ybb:Stmt:=top 15
abbrev Ybc:Stmt:=top 17
abbrev Ybd:Stmt:=top 18
abbrev Yat:Stmt:=top 19
abbrev Ybe:Stmt:=top 21
abbrev Ybf:Stmt:=top 22
abbrev Ybg:Stmt:=top 24
abbrev Ybh:Stmt:=top 25
abbrev Ybi:Stmt:=top 26
abbrev Ybj:Stmt:=top 27
abbrev Yam:Stmt:=top 28
abbrev Yau:Stmt:=top 29
abbrev Ybk:Stmt:=top 30
abbrev Ybl:Stmt:=top 31
abbrev Yav:Stmt:=top 33
abbrev Ybm:Stmt:=top 34
abbrev Ybn:Stmt:=top 35
abbrev Yaj:Stmt:=top 36
abbrev Ybo:Stmt:=top 37
abbrev Yaw:Stmt:=top 38
abbrev Yan:Stmt:=top 39
abbrev Ybp:Stmt:=top 40
abbrev Ybq:Stmt:=top 41
abbrev Yao:Stmt:=top 42
abbrev Ybr:Stmt:=top 43
abbrev Yax:Stmt:=top 44
abbrev Ybs:Stmt:=top 45
abbrev Yay:Stmt:=top 46
abbrev Yap:Stmt:=top 47
abbrev Ybt:Stmt:=top 48
abbrev Yaz:Stmt:=top 49
abbrev Ya0:Stmt:=top 50
abbrev Ya1:Stmt:=top 51
abbrev Yaf:Stmt:=top 52
theorem Ybx:FnScope ["thing"] ["thing"] (defScope Yar):=⟨rfl,rfl,rfl,by decide +kernel,rfl,by decide +kernel,by decide +kernel⟩
theorem Yb6:FnScope ["web","place"] ["web","place"] (defScope Ya8):=⟨rfl,rfl,rfl,by decide +kernel,rfl,by decide +kernel,by decide +kernel⟩
theorem Yb7:FnScope ["web","tie"] ["web","tie"] (defScope Ya9):=⟨rfl,rfl,rfl,by decide +kernel,rfl,by decide +kernel,by decide +kernel⟩
theorem Yb8:FnScope ["web","end"] ["web","end"] (defScope Yba):=⟨rfl,rfl,rfl,by decide +kernel,rfl,by decide +kernel,by decide +kernel⟩
theorem Yad:FnScope ["web","many","ties","firsts","a","b","low","high"] ["web"] (defScope Yai):=⟨rfl,rfl,rfl,by decide +kernel,rfl,by decide +kernel,by decide +kernel⟩
theorem Ya2:FnScope ["ends","at"] ["ends"] (defScope Yas):=⟨rfl,rfl,rfl,by decide +kernel,rfl,by decide +kernel,by decide +kernel⟩
theorem Yby:FnScope ["web","order","end","row"] ["web","order","end"] (defScope Ybb):=⟨rfl,rfl,rfl,by decide +kernel,rfl,by decide +kernel,by decide +kernel⟩
theorem Yb9:FnScope ["web","order","end"] ["web","order","end"] (defScope Ybc):=⟨rfl,rfl,rfl,by decide +kernel,rfl,by decide +kernel,by decide +kernel⟩
theorem Ya3:FnScope ["web","order","end","face","come"] ["web","order","end"] (defScope Ybd):=⟨rfl,rfl,rfl,by decide +kernel,rfl,by decide +kernel,by decide +kernel⟩
theorem Yak:FnScope ["web","order","told","gone","end","face","come"] ["web","order"] (defScope Yat):=⟨rfl,rfl,rfl,by decide +kernel,rfl,by decide +kernel,by decide +kernel⟩
theorem Yca:FnScope ["web","order"] ["web","order"] (defScope Ybe):=⟨rfl,rfl,rfl,by decide +kernel,rfl,by decide +kernel,by decide +kernel⟩
theorem Ybu:FnScope ["web","faces_many","many","ties"] ["web","faces_many"] (defScope Ybf):=⟨rfl,rfl,rfl,by decide +kernel,rfl,by decide +kernel,by decide +kernel⟩
theorem Yag:FnScope ["web","order","one","other","many","ties","first","second","end","rows"] ["web","order","one","other"] (defScope Ybg):=⟨rfl,rfl,rfl,by decide +kernel,rfl,by decide +kernel,by decide +kernel⟩
theorem Ybz:FnScope ["web","order","corner","place"] ["web","order","corner"] (defScope Ybh):=⟨rfl,rfl,rfl,by decide +kernel,rfl,by decide +kernel,by decide +kernel⟩
theorem Yb0:FnScope ["row","corner","end","at"] ["row","corner","end"] (defScope Ybi):=⟨rfl,rfl,rfl,by decide +kernel,rfl,by decide +kernel,by decide +kernel⟩
theorem Ybv:FnScope ["web","order","tie","many","ties"] ["web","order","tie"] (defScope Ybj):=⟨rfl,rfl,rfl,by decide +kernel,rfl,by decide +kernel,by decide +kernel⟩
theorem Ycb:FnScope ["rows","tie"] ["rows","tie"] (defScope Yam):=⟨rfl,rfl,rfl,by decide +kernel,rfl,by decide +kernel,by decide +kernel⟩
theorem Yae:FnScope ["web","order","tie","many","ties","low","high","end","rows","kept"] ["web","order","tie"] (defScope Yau):=⟨rfl,rfl,rfl,by decide +kernel,rfl,by decide +kernel,by decide +kernel⟩
theorem Yb1:FnScope ["row","end","at"] ["row","end"] (defScope Ybk):=⟨rfl,rfl,rfl,by decide +kernel,rfl,by decide +kernel,by decide +kernel⟩
theorem Ycc:FnScope ["place","low","high"] ["place","low","high"] (defScope Ybl):=⟨rfl,rfl,rfl,by decide +kernel,rfl,by decide +kernel,by decide +kernel⟩
theorem Ycd:FnScope ["_law_script"] ["_law_script"] (defScope Yav):=⟨rfl,rfl,rfl,by decide +kernel,rfl,by decide +kernel,by decide +kernel⟩
theorem Yah:FnScope ["_law_pen_here","_law_many","_law_digit","_law_at","_law_cell","_law_number"] ["_law_pen_here","_law_many"] (defScope Ybm):=⟨rfl,rfl,rfl,by decide +kernel,rfl,by decide +kernel,by decide +kernel⟩
theorem Yab:FnScope ["_law_pen_here","_law_places","_law_ties","_law_many","_law_way","_law_count","_law_found","_law_k","_law_a","_law_b"] ["_law_pen_here","_law_places","_law_ties"] (defScope Ybn):=⟨rfl,rfl,rfl,by decide +kernel,rfl,by decide +kernel,by decide +kernel⟩
theorem Ya4:FnScope ["_law_pen_here","_law_web_here","_law_rows","_law_k","_law_row","!0","!1","!2","!3","!4","!5","!6","!7","!8","!9","!10","!11","!12","!13","!14","!15","!16","!17","!18","!19","!20","!21","!22","!23","!24"] ["_law_pen_here","_law_web_here"] (defScope Yaj):=⟨rfl,rfl,rfl,by decide +kernel,rfl,by decide +kernel,by decide +kernel⟩
theorem Yce:FnScope ["_law_end"] ["_law_end"] (defScope Ybo):=⟨rfl,rfl,rfl,by decide +kernel,rfl,by decide +kernel,by decide +kernel⟩
theorem Yac:FnScope ["_law_order_here","_law_behind","_law_row","_law_k","_law_found","_law_met","_law_end","_law_walk","_law_at"] ["_law_order_here"] (defScope Yaw):=⟨rfl,rfl,rfl,by decide +kernel,rfl,by decide +kernel,by decide +kernel⟩
theorem Yal:FnScope ["_law_web_here","_law_marks","_law_a","_law_b","_law_low","_law_high","_law_place"] ["_law_web_here"] (defScope Yan):=⟨rfl,rfl,rfl,by decide +kernel,rfl,by decide +kernel,by decide +kernel⟩
theorem Yb2:FnScope ["_law_web_here","_law_order_here","_law_twice"] ["_law_web_here","_law_order_here"] (defScope Ybp):=⟨rfl,rfl,rfl,by decide +kernel,rfl,by decide +kernel,by decide +kernel⟩
theorem Ycf:FnScope ["_law_found"] ["_law_found"] (defScope Ybq):=⟨rfl,rfl,rfl,by decide +kernel,rfl,by decide +kernel,by decide +kernel⟩
theorem Ya5:FnScope ["_law_web_here","_law_found","_law_place","_law_due","_law_row"] ["_law_web_here","_law_found"] (defScope Yao):=⟨rfl,rfl,rfl,by decide +kernel,rfl,by decide +kernel,by decide +kernel⟩
theorem Yb3:FnScope ["_law_row","_law_at"] ["_law_row"] (defScope Ybr):=⟨rfl,rfl,rfl,by decide +kernel,rfl,by decide +kernel,by decide +kernel⟩
theorem Yb4:FnScope ["_law_pen_here","_law_web_here","_law_order_here","_law_bare"] ["_law_pen_here","_law_web_here","_law_order_here"] (defScope Yax):=⟨rfl,rfl,rfl,by decide +kernel,rfl,by decide +kernel,by decide +kernel⟩
theorem Ya6:FnScope ["_law_order_here","_law_after_here","_law_row","_law_k"] ["_law_order_here"] (defScope Ybs):=⟨rfl,rfl,rfl,by decide +kernel,rfl,by decide +kernel,by decide +kernel⟩
theorem Yb5:FnScope ["_law_order_here","_law_faces_here","_law_corner_here","_law_after_here"] ["_law_order_here","_law_faces_here","_law_corner_here"] (defScope Yay):=⟨rfl,rfl,rfl,by decide +kernel,rfl,by decide +kernel,by decide +kernel⟩
theorem Ycg:FnScope ["_law_web_here","_law_one","_law_other"] ["_law_web_here","_law_one","_law_other"] (defScope Yap):=⟨rfl,rfl,rfl,by decide +kernel,rfl,by decide +kernel,by decide +kernel⟩
theorem Ych:FnScope ["_law_web_here","_law_corner_here"] ["_law_web_here","_law_corner_here"] (defScope Ybt):=⟨rfl,rfl,rfl,by decide +kernel,rfl,by decide +kernel,by decide +kernel⟩
theorem Yaq:FnScope ["_law_pen_here","_law_web_here","_law_order_here","_law_one","_law_other","_law_faces_here","_law_found","_law_places"] ["_law_pen_here","_law_web_here","_law_order_here"] (defScope Yaz):=⟨rfl,rfl,rfl,by decide +kernel,rfl,by decide +kernel,by decide +kernel⟩
theorem Ybw:FnScope ["_law_pen_here","_law_web_here","_law_order_here","_law_tie","_law_found"] ["_law_pen_here","_law_web_here","_law_order_here"] (defScope Ya0):=⟨rfl,rfl,rfl,by decide +kernel,rfl,by decide +kernel,by decide +kernel⟩
theorem Ya7:FnScope ["_law_order_here","_law_tie","_law_found","_law_face","_law_left"] ["_law_order_here","_law_tie"] (defScope Ya1):=⟨rfl,rfl,rfl,by decide +kernel,rfl,by decide +kernel,by decide +kernel⟩
theorem Yaa:FnScope ["_law_script","_law_pen_here","_law_web_here","_law_order_here","_law_k","_law_ahead","_law_way","_law_some","_law_found","_law_more","_law_less","_law_tie","_law_told"] ["_law_script"] (defScope Yaf):=⟨rfl,rfl,rfl,by decide +kernel,rfl,by decide +kernel,by decide +kernel⟩
def Mb (mg:Str->Option Value):Prop:=∀x∈["abs","all","bool","int","isinstance","len","list","max","min","range","set","sorted","tuple"],mg x=none
local macro_rules | `(tactic| walk_at "js")=>`(tactic| first
 |with_reducible refine Zal (t:=tAsg _ _) ?_
 |with_reducible refine Zal (t:=tPar _ _ _) ?_
 |with_reducible refine Zal (t:=tDrop _) ?_
 |with_reducible refine iteF ?_
 |with_reducible refine iteT ?_
 |with_reducible refine Zbb ?_
 |with_reducible refine Za2 ?_
 |with_reducible refine Zcc ?_
 |with_reducible refine Zhl ?_
 |with_reducible refine Zaw ?_
 |refine Zd3 rfl rfl ?_
 |refine Zmt rfl rfl ?_
 |with_reducible refine Zaj ?_
 |with_reducible refine Zt1 ?_
 |with_reducible refine Zak ?_
 |with_reducible refine Zsr ?_
 |with_reducible refine Zx8 ?_
 |with_reducible refine Zfu ?_
 |with_reducible refine Za0 ?_
 |with_reducible refine Zav ?_
 |refine Zio rfl rfl ?_
 |refine Zdu rfl rfl ?_
 |with_reducible refine Zb7 ?_
 |with_reducible refine Zfy ?_
 |with_reducible refine Zxk ?_
 |with_reducible refine Zjh ?_
 |with_reducible refine Zfe ?_
 |with_reducible refine Zyu ?_
 |with_reducible refine Zha ?_
 |with_reducible refine Zcg ?_
 |with_reducible refine Zck ?_
 |with_reducible refine Zaf ?_
 |with_reducible refine Zab ?_
 |with_reducible refine Zar ?_
 |with_reducible refine Zew ?_
 |with_reducible refine Zjt ?_
 |with_reducible refine Zd9 ?_
 |with_reducible refine Zcl ?_
 |with_reducible refine Zd4 ?_
 |with_reducible refine Zcd ?_
 |with_reducible refine Zfz ?_
 |with_reducible refine Ze2 ?_
 |with_reducible refine Zer ?_
 |with_reducible refine Zju ?_
 |with_reducible refine Zy0 ?_
 |with_reducible refine Zgv ?_
 |with_reducible refine Zbg ?_
 |refine Zac rfl ?_
 |refine Zas rfl ?_
 |refine Zc4 rfl ?_
 |refine Za7 (Or.inl rfl) ?_
 |refine Za7 (Or.inr rfl) ?_
 |refine Zez (Or.inl rfl) ?_
 |refine Zez (Or.inr rfl) ?_
 |refine Zpq (Or.inl rfl) ?_
 |refine Zpq (Or.inr rfl) ?_
 |refine Zgd ?_
 |refine⟨⟨_,_,rfl,rfl⟩,?_⟩
 |refine⟨_,_,_,_,rfl,rfl,rfl,rfl,?_⟩
 |refine⟨_,rfl,?_⟩
 |refine jr_I (by first|(show (0:Int)<_;omega)|exact⟨by omega,by omega⟩|exact Or.inl ⟨by omega,by omega⟩|exact Or.inr ⟨by omega,by omega⟩|exact⟨by decide,by decide,by decide⟩) ?_)
local macro_rules | `(tactic| walk_at "draw")=>`(tactic| first|refine Zfa rfl rfl (by assumption) (by omega) (by omega) λ_ _ _ _ _=>?_|refine⟨_,_,rfl,rfl,by assumption,_,rfl,by omega,by omega,λ_ _ _ _ _=>?_⟩)
def Pen (ps:List D):Prop:=∃(cs:List Int) (at_ num:Int),ps=[.lst (cs.map .int),.int at_,.int num]/\0<=at_/\0<=num/\cs.length<=63
def fDraw:BSp:=λps ds Post=>Pen ps/\∃m:Int,ds=[.int m]/\1<=m/\m<=100000000000000000000000000000000000000000000000000000000000/\∀r ps',Pen ps' -> 0<=r->r<m->Post (.int r) ps'
abbrev LendQ (f:BSp) (i:Nat) (P:D->Evt->Prop):List D->Evt->Prop:=λds Δ1=>∃y ps,Δ1[i]?=some y/\y.od=some (.lst ps)/\f ps ds λd ps'=>P d (Δ1.set i<|y.put (.lst ps'))
theorem Zio {K:W.Frag}{Δ:Evt}{P:D->Evt->Prop}{f:BSp}{ta:TA}{E:XK}{i:Nat}{x:Slot}{od:OD}(hx:Δ[i]?=some x) (ho:x.od=some od) (h:JA K ta Δ (LendQ f i P)):JE K (tCall (spB K f) [] E<|tCons (tVar i) ta) Δ P:=Zdu hx ho h
theorem Zfa {Δ1:Evt}{i:Nat}{y:Slot}{ps:List D}{m:Int}{P:D->Evt->Prop}(hx:Δ1[i]?=some y) (ho:y.od=some (.lst ps)) (hp:Pen ps) (h1:1<=m) (h2:m<=100000000000000000000000000000000000000000000000000000000000) (h:∀r ps',Pen ps' -> 0<=r->r<m->P (.int r) (Δ1.set i<|y.put (.lst ps'))) :
  LendQ fDraw i P [.int m] Δ1:=⟨y,ps,hx,ho,hp,m,rfl,h1,h2,h⟩
theorem Zyg {K:W.Frag}{Δ:Evt}{E:XK}{i:Nat}{y:Slot}{ps:List D}{m:Int}{P:D->Evt->Prop}(hx:Δ[i]?=some y) (ho:y.od=some (.lst ps)) (hp:Pen ps) (h1:1<=m) (h2:m<=100000000000000000000000000000000000000000000000000000000000) (h:∀r ps',Pen ps' -> 0<=r->r<m->P (.int r) (Δ.set i<|y.put (.lst ps'))) :
  JE K (tCall (spB K fDraw) [] E<|tCons (tVar i)<|tCons (tC (.int m)) tNil) Δ P:=Zio hx ho<|Zab<|Zak<|Zaf<|Zfa hx ho hp h1 h2 h
section
variable {P:Program}{w:World}{K:W.Frag}{mg:Str->Option Value}{base:Heap}{f:Addr}{fd:FuncData}
theorem Zvx (mb:Mb mg) (F:Fun K "_law_draw" "_law_draw" Ybm f fd):FnOk P w K mg base CX0 1 f fd ["_law_pen_here","_law_many"] (spB K fDraw):=by
 refine F.ok Yah (Zgl λps ds Post h=>by obtain⟨_,m,rfl,_⟩:=h;rfl) λcdv A outer s H vs Q E hr h=>?_;have hu:=Zbz hr;refine⟨_,(Zae (Zcf (Zao Zk2 (Zaq (ixK K hu) (pv 0) Zag λ_ _=>rfl) Zag<|nomark _) (Zae (Zat (i:=2) Yah.nd rfl (Or.inl rfl)<|Zap Zcv (Zaq (ixK K hu) (pv 0) Zag λ_ _=>rfl)<|pv 1)<|Zae (Zc1 (Zap Zke (Zaq (ixK K hu) (pv 0) Zag λ_ _=>rfl)<|pv 1)<|Zfn (pv 0) Zag<|setU hu)<|Zah<|Zau<|pv 2) Za4)<|Zae (Zat (i:=3) Yah.nd rfl (Or.inl rfl)<|Zaq (ixK K hu) (pv 0) Zag λ_ _=>rfl)<|Zae (Zc1 (Zap (addK K) (pv 3) Zag)<|Zfn (pv 0) Zag<|setU hu)<|Zae (Zat (i:=4) Yah.nd rfl (Or.inl rfl) Zag)<|Zae (Zcf (Zao Zk2 (Zai (lenK K) rfl (mb "len"<|by decide) Za5<|Zaa (Zaq (ixK K hu) (pv 0) Zag λ_ _=>rfl) Zad) Zag<|nomark _) (Zah<|Zat (i:=4) Yah.nd rfl (Or.inl rfl)<|Zaq (ixK K hu) (Zaq (ixK K hu) (pv 0) Zag λ_ _=>rfl) (Zap Zcv (pv 3)<|Zai (lenK K) rfl (mb "len"<|by decide) Za5<|Zaa (Zaq (ixK K hu) (pv 0) Zag λ_ _=>rfl) Zad) λ_ _=>rfl) Za4)<|Zae (Zcf (PW.pt<|pw_and (Zao Zln (pv 3) (Zai (lenK K) rfl (mb "len"<|by decide) Za5<|Zaa (Zaq (ixK K hu) (pv 0) Zag λ_ _=>rfl) Zad)<|nomark _)<|pw_and1<|Zao Zw6 (Zai Zj8 rfl (mb "abs"<|by decide) Zrb<|Zaa (pv 4) Zad) (Zap Zxc Zag Zag)<|nomark _) (Zae (Zc1 (Zap Zke (Zai Zj8 rfl (mb "abs"<|by decide) Zrb<|Zaa (pv 4) Zad)<|pv 1)<|Zfn (pv 0) Zag<|setU hu)<|Zah<|Zau<|Zap Zcv (Zai Zj8 rfl (mb "abs"<|by decide) Zrb<|Zaa (pv 4) Zad)<|pv 1) Za4)<|Zae (Zat (i:=5) Yah.nd rfl (Or.inl rfl)<|Zap Zcv (Zap Zcn (Zap (addK K) (Zap (addK K) (Zap Zcv (pv 4) Zag)<|Zap Zcn Zag<|pv 3) Zag) Zag) Zag)<|Zae (Zat (i:=5) Yah.nd rfl (Or.inl rfl)<|Zap Zcv (Zap (addK K) (Zap (addK K) (Zap Zcn (pv 5)<|pv 5)<|Zap Zcn Zag<|pv 5)<|pv 3) Zag)<|Zah<|Zau<|Zap Zcv (Zap Zke (Zap Zcv (Zap Zcn (pv 5) Zag) Zag) Zag)<|pv 1),Zn8 (λps ds Post hf=>?_) h⟩;obtain⟨⟨cs,at_,num,rfl,h1,h2,h3⟩,m,rfl,h4,h5,q⟩:=hf;refine⟨by simp,?_⟩;dsimp only[cxOf,startD,Wbk,Wbm,Wa6,Wal];refine Zca (λΔ=>¬ 0<num /\ Δ = [.bor (.lst [.lst (cs.map .int),.int at_,.int num]),.val (.int m),.any,.any,.any,.any]) ?_ ?_
 ·repeat walk_at "js"
  refine ite2 (λc=>?_) λc=>?_
  ·have c:=of_decide_eq_true c
   repeat walk_at "js"
   exact q _ _ ⟨cs,at_,num / m,rfl,h1,Int.ediv_nonneg h2 (by omega),h3⟩ (Wdp _<|by omega) (Wdc _<|by omega)
  ·repeat walk_at "js"
   exact⟨of_decide_eq_false<|Wcc.mpr c,rfl⟩
 rintro Δ1 ⟨hn,rfl⟩
 repeat walk_at "js"
 refine Zca (λΔ=>∃c:Int,Δ = [.bor (.lst [.lst (cs.map .int),.int (at_+1),.int num]),.val (.int m),.any,.val (.int at_),.val (.int c),.any]) ?_ ?_
 ·repeat walk_at "js"
  refine ite2 (λc=>?_) λc=>?_
  ·have c:=of_decide_eq_true c
   rw[Wab]at c
   repeat walk_at "js"
   rw[Wab]
   repeat walk_at "js"
   obtain⟨cell,_,hc⟩:=Zqo (f:=D.int) (xs:=cs) (i:=at_ % (cs.length:Int)) (Wdp _<|by omega) (Wdc _<|by omega);refine Zc4 hc ?_;exact⟨cell,rfl⟩
  ·repeat walk_at "js"
   exact⟨11,rfl⟩
 rintro Δ1 ⟨cell,rfl⟩;refine Zca (λΔ=>Δ = [.bor (.lst [.lst (cs.map .int),.int (at_+1),.int num]),.val (.int m),.any,.val (.int at_),.val (.int cell),.any]) ?_ ?_
 ·repeat walk_at "js"
  refine ite2 (λc=>?_) λc=>?_
  ·repeat walk_at "js"
   refine ite2 (λc=>?_) λc=>?_
   ·repeat walk_at "js"
    have ha:0<=(if cell<0 then -cell else cell):=by split <;> omega
    exact q _ _ ⟨cs,at_+1,_,rfl,by omega,Int.ediv_nonneg ha (by omega),h3⟩ (Wdp _<|by omega) (Wdc _<|by omega)
   ·repeat walk_at "js"
    rfl
  ·repeat walk_at "js"
   rfl
 rintro Δ1 rfl
 repeat walk_at "js"
 exact q _ _ ⟨cs,at_+1,num,rfl,by omega,h2,h3⟩ (Wdp _<|by omega) (Wdc _<|by omega)
end
def fPen:NSp:=λds Post=>∃ns:List Int,ds=[.scr (ns.map .int)]/\ns.length<=63/\∀ps,Pen ps->Post ps
section
variable {P:Program}{w:World}{K:W.Frag}{mg:Str->Option Value}{base:Heap}{f:Addr}{fd:FuncData}
theorem Zxw (mb:Mb mg) (F:Fun K "_law_pen" "_law_pen" Yav f fd):FnOk P w K mg base CX0 1 f fd ["_law_script"] (spN K fPen):=by
 refine F.ok Ycd (Zgq λds Post h=>by obtain⟨ns,rfl,_⟩:=h;rfl) λcdv A outer s H vs Q E hr h=>?_;have hu:=Zbz hr;refine⟨_,(Zah<|Zau<|Zg3<|Zaa (Zcr ["_law_cell"] (show CompSc (defScope Yav) ["_law_script"] _ [] [] from ⟨rfl,by decide +kernel,by decide +kernel,by decide +kernel,rfl,by decide +kernel⟩) rfl (seqK K<|Zbx (slK K) (pv 0) Zch<|Zcj Zag) (λ_ _ _ _ _=>(Zam (i:=0) (show List.Nodup (["_law_cell"]:List Str) from by decide) rfl<|Or.inl rfl)) (λ_ _ _ _ _=>Zd2) λ_ _ _ _ _=>(pv 0))<|Zaa Zag<|Zaa Zag Zad),Zov (λds Post hf=>?_) h⟩;obtain⟨ns,rfl,h1,q⟩:=hf;refine⟨by simp,?_⟩;dsimp only[cxOf,startD,Wbk,Wbm,Wa6,Wal];refine Zfr<|Zi6<|Zab<|Zbw (by decide)<|Ze3 ?_
 repeat walk_at "js"
 have e:cutD (ns.map D.int) none (some 63)=ns.map D.int:=by
  unfold cutD;have e1:HT.sIx (ns.map D.int).length 0 none=0:=rfl;have e2:HT.sIx (ns.map D.int).length (ns.map D.int).length (some 63)=ns.length:=by
   rw[Wab];show min (Int.toNat 63) ns.length=_;omega
  rw[e1,e2,Wd1,Wef,Wc8 (by simp)]
 rw[e];refine⟨_,Or.inl rfl,by rw[Wab];exact Wcv h1 (by decide),λ_=>true,λd=>d,λi d hd=>?_,?_⟩
 ·repeat walk_at "js"
  exact⟨rfl,Zac rfl ⟨rfl,_,rfl⟩⟩
 ·repeat walk_at "js"
  refine⟨by show 3<=sizeLine;decide,_,rfl,q _ ⟨ns,0,0,?_,by decide,by decide,h1⟩⟩;simp
end
def encTie (t:Int × Int):D:=.tup [.int t.1,.int t.2]
def encWeb (n:Int) (ts:List (Int × Int)):D:=.tup [.int n,.tup (ts.map encTie)]
structure WebOk (n:Int) (ts:List (Int × Int)):Prop where
 lo:1<=n
 hi:n<=25
 len:ts.length<=24
 tie:∀t∈ts,0<=t.1/\t.1<n/\0<=t.2/\t.2<n
def fWeb:BSp:=λps ds Post=>Pen ps/\∃a b:Int,ds=[.int a,.int b]/\1<=a/\a<=25/\0<=b/\b<=24/\∀n ts ps',Pen ps' -> WebOk n ts->n<=a->(ts.length:Int)<=b->Post (encWeb n ts) ps'
theorem Zx7 {Δ1:Evt}{i:Nat}{y:Slot}{ps:List D}{a b:Int}{P:D->Evt->Prop}(hx:Δ1[i]?=some y) (ho:y.od=some (.lst ps)) (hp:Pen ps) (h1:1<=a) (h2:a<=25) (h3:0<=b) (h4:b<=24) (h:∀n ts ps',Pen ps' -> WebOk n ts->n<=a->(ts.length:Int)<=b->P (encWeb n ts) (Δ1.set i<|y.put (.lst ps'))) :
  LendQ fWeb i P [.int a,.int b] Δ1:=⟨y,ps,hx,ho,hp,a,b,rfl,h1,h2,h3,h4,h⟩
theorem Zo8:2<=sizeLine:=by decide
theorem Zki {K:W.Frag}{Δ:Evt}{i:Nat}{v c:Int}{P:Bool->Evt->Prop}(hx:Δ[i]?=some (.val (.int v))) (h1:v=c->P true Δ) (h2:¬ v=c->P false Δ):JT K (tTest<|tOp rEq (tVar i)<|tC (.int c)) Δ P:=
 Zar (Zaj (Zac hx (Zak (Zer ⟨_,rfl,by
  by_cases h:v=c
  ·rw[decide_eq_true h];exact h1 h
  ·rw[decide_eq_false h];exact h2 h⟩))))
def wSt (py:List D) (a b n way k:Int) (fs:List D) (i u v:Int):Evt:=[.bor (.lst py),.val (.int a),.val (.int b),.val (.int n),.val (.int way),.val (.int k),.own (.lst fs),.val (.int i),.val (.int u),.val (.int v)]
def wQ (py:List D) (a b n way k:Int) (fs:List D) (i:Int):Evt->Prop:=λΔ=>∃u v:Int,0<=u/\u<n/\0<=v/\v<n /\ Δ = wSt py a b n way k fs i u v
def wR (py:List D) (a b n way k:Int) (fs:List D) (i:Int):Evt->Prop:=λΔ=>∃u v:Int,0<=u/\u<n/\0<=v /\ Δ = wSt py a b n way k fs i u v
def wL (a b n way k:Int) (i:Nat):Evt->Prop:=λΔ=>∃(ps:List D) (ts:List (Int × Int)) (x7 x8 x9:Slot),Pen ps/\ts.length=i/\(∀t∈ts,0<=t.1/\t.1<n/\0<=t.2/\t.2<n) /\ Δ = [.bor (.lst ps),.val (.int a),.val (.int b),.val (.int n),.val (.int way),.val (.int k),.own (.lst<|ts.map encTie),x7,x8,x9]
section
variable {P:Program}{w:World}{K:W.Frag}{mg:Str->Option Value}{base:Heap}{f:Addr}{fd:FuncData}
theorem Zxd (mb:Mb mg) (C46:Callee P w K mg base 1 "_law_draw" ["_law_pen_here","_law_many"] (spB K fDraw)) (F:Fun K "_law_web" "_law_web" Ybn f fd):FnOk P w K mg base CX0 2 f fd ["_law_pen_here","_law_places","_law_ties"] (spB K fWeb):=by
 refine F.ok Yab (Zgl λps ds Post h=>by obtain⟨_,a,b,rfl,_⟩:=h;rfl) λcdv A outer s H vs Q E hr h=>?_;have hu:=Zbz hr;refine⟨_,(Zae (Zat (i:=3) Yab.nd rfl (Or.inl rfl)<|Zap (addK K) Zag<|Zax C46 (hr.mono<|by decide)<|Zaa (pv 0)<|Zaa (pv 1) Zad)<|Zae (Zat (i:=4) Yab.nd rfl (Or.inl rfl)<|Zax C46 (hr.mono<|by decide)<|Zaa (pv 0)<|Zaa Zag Zad)<|Zae (Zat (i:=5) Yab.nd rfl (Or.inl rfl)<|Zax C46 (hr.mono<|by decide)<|Zaa (pv 0)<|Zaa (Zap (addK K) (pv 2) Zag) Zad)<|Zae (Zcf (Zao Zci (pv 4) Zag<|nomark _) (Zae (Zat (i:=3) Yab.nd rfl (Or.inl rfl)<|pv 1)<|Zah<|Zat (i:=5) Yab.nd rfl (Or.inl rfl)<|pv 2) Za4)<|Zae (Zat (i:=6) Yab.nd rfl (Or.inl rfl)<|Zg3 Zad)<|Zae (Zdt PassesOwn.never rfl (Zbk rfl (mb "range"<|by decide)<|Zaa (pv 5) Zad) (Zam (i:=7) Yab.nd rfl<|Or.inl rfl)<|Zae (Zmz (i:=8) (j:=9) rfl Yab.nd rfl rfl (by decide) rfl rfl (Zaa (Zax C46 (hr.mono<|by decide)<|Zaa (pv 0)<|Zaa (pv 3) Zad)<|Zaa (Zax C46 (hr.mono<|by decide)<|Zaa (pv 0)<|Zaa (pv 3) Zad) Zad) rfl)<|Zae (Zcf (Zao Zci (pv 4) Zag<|nomark _) (Zah<|Zmz (i:=8) (j:=9) rfl Yab.nd rfl rfl (by decide) rfl rfl (Zaa (Zap Zcv (pv 7)<|pv 3)<|Zaa (Zap Zcv (Zap (addK K) (pv 7) Zag)<|pv 3) Zad) rfl) Za4)<|Zae (Zcf (Zao Zci (pv 4) Zag<|nomark _) (Zah<|Zat (i:=8) Yab.nd rfl (Or.inl rfl) Zag) Za4)<|Zae (Zcf (Zao Zci (pv 4) Zag<|nomark _) (Zah<|Zat (i:=9) Yab.nd rfl (Or.inl rfl)<|Zap (addK K) (Zap Zcv (pv 8) Zag)<|Zap Zcn (Zap Zd5 (pv 9) Zag) Zag) Za4)<|Zae (Zcf (PW.pt<|pw_and (Zao Zci (pv 4) Zag<|nomark _)<|pw_and1<|Zao Zci (Zap Zcv (pv 9) Zag) Zag<|nomark _) (Zah<|Zat (i:=9) Yab.nd rfl (Or.inl rfl)<|pv 8) Za4)<|Zah<|Zfd<|bmK K PySem.F.plainAttrs_list PySem.F.slot_list_append PySem.F.type_list_append Zdd (pv 6)<|Zaa (Zb8<|Zaa (pv 8)<|Zaa (Zai (Zf0 rfl) rfl (mb "min"<|by decide) Zgt<|Zaa (pv 9)<|Zaa (Zap Ze1 (pv 3) Zag) Zad) Zad) Zad)<|Zah<|Zau<|Zb8<|Zaa (pv 3)<|Zaa (Zbj (tupK K) rfl (mb "tuple"<|by decide) Zb3<|Zaa (pv 6) Zad) Zad),Zn8 (λps ds Post hf=>?_) h⟩;obtain⟨hp,a,b,rfl,h1,h2,h3,h4,q⟩:=hf;refine⟨by simp,?_⟩;dsimp only[cxOf,startD,Wbk,Wbm,Wa6,Wal];refine Zal<|Zaw<|Zaj<|Zak<|Zio rfl rfl<|Zab<|Zac rfl<|Zaf (Zfa (m:=a) rfl rfl hp h1 (Int.le_trans h2<|by decide) λr0 ps0 hp0 hr0 hs0=>Zcd ?_);refine Zal<|Zaw (Zyg rfl rfl hp0 (by decide) (by decide) λway ps1 hp1 hw0 hw1=>?_);refine Zal<|Zaw<|Zio rfl rfl<|Zab<|Zd1 (Ze4 (Za6 rfl) Zc2 Zmb)<|Zaf (Zfa (m:=b+1) rfl rfl hp1 (Int.add_le_add h3<|Wds 1) (Int.le_trans (Int.add_le_add h4<|Wds 1)<|by decide) λcnt ps2 hp2 hc0 hc1=>?_);refine Zca (λΔ=>∃n k:Int,1<=n/\n<=a/\0<=k/\k<=b /\ Δ = [.bor (.lst ps2),.val (.int a),.val (.int b),.val (.int n),.val (.int way),.val (.int k),.any,.any,.any,.any]) ?_ ?_
 ·refine Zcc (Zki rfl (λc=>iteT ?_) λc=>iteF<|Zbb ⟨1+r0,cnt,Int.le_add_of_nonneg_right hr0,by omega,hc0,Int.le_of_lt_add_one hc1,rfl⟩)
  exact Zal<|Zaw<|Zac rfl<|Zaw<|Zac rfl ⟨a,b,h1,Wds _,h3,Wds _,rfl⟩
 rintro Δ1 ⟨n,k,hn0,hn1,hk0,hk1,rfl⟩;have hn2:0<n:=Int.lt_of_lt_of_le (by decide) hn0;have hn3:n≠0:=Int.ne_of_gt hn2;refine Zal<|Zcz<|Zi6<|Zaf ⟨by decide,?_⟩;refine Zca (wL a b n way k k.toNat) ?_ ?_
 ·refine Zea (Zbq<|Zab<|Zac rfl<|Zaf ⟨_,rfl,by omega,by omega,?_⟩)
  refine⟨wL a b n way k,⟨ps2,[],.any,.any,.any,hp2,rfl,λ_ h=>(nomatch h),rfl⟩,?_,λΔ2 h=>by rw[Zbu]at h;exact h⟩;rintro i d Δ2 hd ⟨ps,ts,x7,x8,x9,hp',hl,ht,rfl⟩;obtain⟨hi,rfl⟩:=Zce hd;generalize (0+(i:Int))=I;refine Zbg<|Zal<|Zhl<|Zab<|Zio rfl rfl<|Zab<|Zac rfl<|Zaf (Zfa (m:=n) rfl rfl hp' hn0 (by omega) λx px hpx hx0 hx1=>?_);refine Zab<|Zio rfl rfl<|Zab<|Zac rfl<|Zaf (Zfa (m:=n) rfl rfl hpx hn0 (by omega) λy py hpy hy0 hy1=>Zaf ⟨_,_,rfl,?_⟩);refine Zca (wQ py a b n way k (ts.map encTie) I) ?_ ?_
  ·refine Zcc (Zki rfl (λc=>iteT ?_) λc=>iteF<|Zbb ⟨x,y,hx0,hx1,hy0,hy1,rfl⟩)
   exact Zhl<|Zgz (Zay (Ze4 (Za6 rfl) (Za6 rfl)<|pr_I hn2)<|Zay (Ze4 (Ze4 (Za6 rfl) Zc2 Zmb) (Za6 rfl)<|pr_I hn2) Zd7) ⟨_,_,rfl,_,_,Wdp _ hn3,Wdc _ hn2,Wdp _ hn3,Wdc _ hn2,rfl⟩
  rintro Δ3 ⟨u,v,hu0,hu1,hv0,hv1,rfl⟩;refine Zca (wQ py a b n way k (ts.map encTie) I) ?_ ?_
  ·exact Zcc<|Zki rfl (λc=>iteT<|Zaw<|Zak ⟨0,v,Wds _,hn2,hv0,hv1,rfl⟩) λc=>iteF<|Zbb ⟨u,v,hu0,hu1,hv0,hv1,rfl⟩
  rintro Δ3 ⟨u,v,hu0,hu1,hv0,hv1,rfl⟩;refine Zca (wR py a b n way k (ts.map encTie) I) ?_ ?_
  ·refine Zcc (Zki rfl (λc=>iteT ?_) λc=>iteF<|Zbb ⟨u,v,hu0,hu1,hv0,rfl⟩)
   exact Zaw<|Zd1 (Ze4 (Ze4 (Za6 rfl) Zc2<|pr_I (show (0:Int)<2 by decide)) (Ze4 (Ze4 (Za6 rfl) Zc2<|pr_I ⟨by decide,by decide⟩) Zc2<|pr_I<|Or.inr ⟨by decide,by decide⟩) Zmb) ⟨u,_,hu0,hu1,by omega,rfl⟩
  rintro Δ3 ⟨u,v,hu0,hu1,hv0,rfl⟩;refine Zca (wR py a b n way k (ts.map encTie) I) ?_ ?_
  ·refine Zcc (Zew<|Zki rfl (λc=>iteT ?_) λc=>iteF<|iteF<|Zbb ⟨u,v,hu0,hu1,hv0,rfl⟩)
   refine Zar<|Zaj<|Zd1 (Ze4 (Za6 rfl) Zc2<|pr_I (show (0:Int)<2 by decide))<|Zak<|Zer ⟨_,rfl,ite2 (λc=>?_) λc=>Zbb ⟨u,v,hu0,hu1,hv0,rfl⟩⟩;exact Zaw<|Zac rfl ⟨u,u,hu0,hu1,hu0,rfl⟩
  rintro Δ3 ⟨u,v,hu0,hu1,hv0,rfl⟩;refine Zi9 rfl rfl<|Zb7<|Zab<|Zac rfl<|Zab<|Za0<|Zab<|Zac rfl<|Zab<|Zd1 (Ze4 (Za6 rfl) Zc2 Zy7)<|Zaf<|Zgv<|Zaf ?_;refine⟨Zo8,_,_,rfl,rfl,?_,py,ts++[(u,if n-1<v then n-1 else v)],.val (.int I),.val (.int u),.val (.int v),hpy,by rw[Wan,hl];rfl,λt h=>?_,?_⟩
  ·rw[Wab];exact small1000 (by omega)
  ·rcases Wbd.mp h with h|h
   ·exact ht t h
   ·rw[Wa7.mp h]
    refine⟨hu0,hu1,?_,?_⟩
    ·show 0<=(if n-1<v then n-1 else v);split <;> omega
    ·show (if n-1<v then n-1 else v)<n;split <;> omega
  ·rw[Waz];rfl
 rintro Δ1 ⟨ps3,ts,x7,x8,x9,hp3,hl,ht,rfl⟩;refine Za2<|Zb7<|Zab<|Zac rfl<|Zab<|Za0<|Zab<|Zev rfl<|Zaf<|Zez (Or.inl rfl)<|Zaf ⟨Zo8,?_⟩;exact⟨_,rfl,q n ts _ hp3 ⟨hn0,by omega,by omega,ht⟩ hn1<|by omega⟩
end
def placeAt (ts:List (Int × Int)) (e:Nat):Int:=match ts[e / 2]? with
 |some t=>if e % 2=0 then t.1 else t.2
 |none=>-1
def encRow (r:List Int):D:=.tup<|r.map .int
def encOrd (o:List (List Int)):D:=.tup<|o.map encRow
def endsBelow (ts:List (Int × Int)) (m:Nat) (p:Int):List Int:=((Wap m).filter λe=>decide (placeAt ts e=p)).map λe:Nat=>(e:Int)
structure RowOk (ts:List (Int × Int)) (m:Nat) (p:Int) (r:List Int):Prop where
 perm:r.Perm (endsBelow ts m p)
 first:r.head?=(endsBelow ts m p).head?
structure OrdOk (n:Int) (ts:List (Int × Int)) (o:List (List Int)):Prop where
 len:(o.length:Int)=n
 row:∀(p:Nat) r,o[p]?=some r->RowOk ts (2*ts.length) (p:Int) r
theorem Zfo (ts:List (Int × Int)) (k:Nat) (p:Int):endsBelow ts (k+1) p=endsBelow ts k p++(if placeAt ts k=p then [(k:Int)] else []):=by
 unfold endsBelow;rw[List.range_succ,Wbo,Waz];congr 1;by_cases h:placeAt ts k=p
 ·simp[Wbs,h]
 ·simp[Wbs,h]
theorem Zje (ts:List (Int × Int)) (m:Nat) (p:Int):(endsBelow ts m p).length<=m:=by
 unfold endsBelow;rw[Wab];exact Wbz (Wcg _ _) (by rw[Wbq];exact Wak _)
theorem RowOk.len {ts:List (Int × Int)}{m:Nat}{p:Int}{r:List Int}(h:RowOk ts m p r):r.length<=m:=by rw[h.perm.length_eq];exact Zje ts m p
theorem RowOk.stay {ts:List (Int × Int)}{k:Nat}{p:Int}{r:List Int}(h:RowOk ts k p r) (hp:placeAt ts k≠p):RowOk ts (k+1) p r:=by
 have e:=Zfo ts k p;rw[if_neg hp,Wa4]at e;exact⟨by rw[e];exact h.perm,by rw[e];exact h.first⟩
theorem RowOk.put {ts:List (Int × Int)}{k j:Nat}{p:Int}{r:List Int}(h:RowOk ts k p r) (hp:placeAt ts k=p) (hj:j<=r.length) (h1:r≠[]->1<=j):RowOk ts (k+1) p (r.take j++(k:Int)::r.drop j):=by
 have e:=Zfo ts k p;rw[if_pos hp]at e;refine⟨?_,?_⟩
 ·rw[e]
  refine Wd9.trans ?_;rw[Wbu];exact(List.Perm.cons _ h.perm).trans (List.perm_append_singleton _ _).symm
 ·rw[e]
  cases r with
  |nil=>
   have z:endsBelow ts k p=[]:=List.Perm.eq_nil h.perm.symm;rw[z];have:j=0:=by simpa using hj
   subst this;rfl
  |cons x r'=>
   have h2:=h1 (by simp);obtain⟨j',rfl⟩:∃j',j=j'+1:=⟨j-1,by omega⟩;have h3:=h.first;show some x=_;cases q:endsBelow ts k p with
   |nil=>rw[q]at h3;cases h3
   |cons y l=>rw[q]at h3;exact h3
theorem Znh {ts:List (Int × Int)}{k:Nat}(h:k<2*ts.length):∃t,ts[k / 2]?=some t/\atI (ts.map encTie) ((0+(k:Int)) / 2)=some (encTie t)/\atI [D.int t.1,D.int t.2] ((0+(k:Int)) % 2)=some (.int<|placeAt ts k):=by
 have hk:k / 2<ts.length:=by omega
 refine⟨ts[k / 2],Waa hk,?_,?_⟩
 ·have e:(0+(k:Int)) / 2=((k / 2:Nat):Int):=by omega
  rw[e];exact Zby (by rw[Wad,Waa hk];rfl)
 ·have e2:placeAt ts k=if k % 2=0 then ts[k / 2].1 else ts[k / 2].2:=by
   unfold placeAt;rw[Waa hk]
  rw[e2];have e:(0+(k:Int)) % 2=((k % 2:Nat):Int):=by omega
  rw[e];by_cases h0:k % 2=0
  ·rw[if_pos h0,h0];exact Zby rfl
  ·have h1:k % 2=1:=by omega
   rw[if_neg h0,h1];exact Zby rfl
theorem Zcp {n:Int}{ts:List (Int × Int)}(hW:WebOk n ts) {k:Nat}(h:k<2*ts.length):0<=placeAt ts k/\placeAt ts k<n:=by
 have hk:k / 2<ts.length:=by omega
 have:=hW.tie _<|Wa0 hk;unfold placeAt;rw[Waa hk];dsimp only;split <;> omega
def fOrder:BSp:=λps ds Post=>Pen ps/\∃n ts,ds=[encWeb n ts]/\WebOk n ts/\∀o ps',Pen ps' -> OrdOk n ts o->Post (encOrd o) ps'
theorem Ztn {Δ1:Evt}{i:Nat}{y:L2.Slot}{ps:List D}{n:Int}{ts:List (Int × Int)}{P:D->Evt->Prop}(hx:Δ1[i]?=some y) (ho:y.od=some (.lst ps)) (hp:Pen ps) (hW:WebOk n ts) (h:∀o ps',Pen ps' -> OrdOk n ts o->P (encOrd o) (Δ1.set i<|y.put (.lst ps'))) :
  LendQ fOrder i P [encWeb n ts] Δ1:=⟨y,ps,hx,ho,hp,n,ts,rfl,hW,h⟩
def oSt (ps:List D) (n:Int) (ts:List (Int × Int)) (cs:List (Addr × List Int)) (x3 x4:L2.Slot):Evt:=.bor (.lst ps)::.val (encWeb n ts)::.val (.lst (cs.map λc=>D.adr c.1))::x3::x4::(cs.map (λc=>L2.Slot.ownA c.1 (.lst<|c.2.map D.int))++Wal (25-n.toNat) .any)
def oP (n:Int) (ts:List (Int × Int)) (k:Nat):Evt->Prop:=λΔ=>∃(ps:List D) (cs:List (Addr × List Int)) (x3 x4:L2.Slot),Pen ps/\cs.length=n.toNat/\(∀(p:Nat) c,cs[p]?=some c->RowOk ts k (p:Int) c.2) /\ Δ = oSt ps n ts cs x3 x4
theorem Zq9 {n:Int}{ts:List (Int × Int)}{ps:List D}{as:List Addr}(hn2:n<=25) (hal:as.length=(Wbm (λ_=>OD.lst []) ((rngD 0 n.toNat).filter λ_=>true)).length):∃cs:List (Addr × List Int),cs.length=n.toNat/\(∀(p:Nat) c,cs[p]?=some c->c.2=[]) ∧
  L2.putN 5 (as.zip<|Wbm (λ_=>OD.lst []) ((rngD 0 n.toNat).filter λ_=>true)) ([.bor (.lst ps),.val (encWeb n ts),.val (.lst<|as.map D.adr),.any,.any]++Wal 25 .any)=oSt ps n ts cs .any .any:=by
 have eR:(rngD 0 n.toNat).filter (λ_=>true)=rngD 0 n.toNat:=by simp
 rw[eR,Wab,Zbu]at hal;have eO:(rngD 0 n.toNat).map (λ_=>OD.lst [])=Wal n.toNat (OD.lst []):=by
  rw[List.map_const',Zbu]
 rw[eR,eO];generalize hcs:as.map (λa=>((a,[]):Addr × List Int))=cs;have hcl:cs.length=n.toNat:=by rw[<- hcs,Wab,hal]
 have e1:as.map D.adr=cs.map λc=>D.adr c.1:=by rw[<- hcs,Wbb];rfl
 have e2:as.zip (Wal n.toNat<|OD.lst [])=cs.map λc=>(c.1,OD.lst (c.2.map D.int)):=by
  rw[<- hcs,Wbb,<- hal];clear e1 hcl hcs hal
  induction as with
  |nil=>rfl
  |cons a r ih=>rw[Wat,Wdj,Wc9,ih];rfl
 have e3:=Zp2 (cs.map λc=>(c.1,OD.lst (c.2.map D.int))) [.bor (.lst ps),.val (encWeb n ts),.val (.lst (cs.map λc=>D.adr c.1)),.any,.any] [] 25 (by rw[Wab];omega);rw[Wa4,Wa4,Wbb,Wab,hcl]at e3;refine⟨cs,hcl,λp c hc=>?_,by rw[e1,e2];exact e3⟩;rw[<- hcs,Wad]at hc;cases q:as[p]? with
 |none=>rw[q]at hc;cases hc
 |some a=>rw[q]at hc;cases hc;rfl
theorem Zyh {ps:List D}{n:Int}{ts:List (Int × Int)}{cs:List (Addr × List Int)}{x3 x4:L2.Slot}{p:Nat}{c:Addr × List Int}(h:cs[p]?=some c):(oSt ps n ts cs x3 x4)[p+5]?=some (.ownA c.1 (.lst<|c.2.map D.int)):=by
 show (cs.map (λc=>L2.Slot.ownA c.1 (.lst<|c.2.map D.int))++Wal (25-n.toNat) .any)[p]?=_;rw[Wbc (by rw[Wab];exact(Wah.mp h).1),Wad,h];rfl
theorem Zv3 {ps ps':List D}{n:Int}{ts:List (Int × Int)}{cs:List (Addr × List Int)}{x3 x4:L2.Slot}{p:Nat}{c:Addr × List Int}{r:List Int}{v:L2.Slot}(h:cs[p]?=some c) (hv:v=.ownA c.1 (.lst<|r.map D.int)):(oSt ps n ts cs x3 x4).set (p+5) v=oSt ps n ts (cs.set p (c.1,r)) x3 x4:=by
 have hp:=(Wah.mp h).1;have ea:(cs.set p (c.1,r)).map (λc=>D.adr c.1)=cs.map λc=>D.adr c.1:=by
  rw[Wdt];apply Wcb;intro i;by_cases hii:i=p
  ·subst hii
   rw[Wao (by rw[Wab];exact hp),Wad,h];rfl
  ·rw[War (Ne.symm hii)]
 unfold oSt;rw[ea,Wdt,hv,<- List.set_append_left _ _ (by rw[Wab];exact hp)];rfl
section
variable {P:Program}{w:World}{K:W.Frag}{mg:Str->Option Value}{base:Heap}{f:Addr}{fd:FuncData}
theorem Ztw (mb:Mb mg) (C46:Callee P w K mg base 1 "_law_draw" ["_law_pen_here","_law_many"] (spB K fDraw)) (F:Fun K "_law_order" "_law_order" Yaj f fd):FnOk P w K mg base CX0 2 f fd ["_law_pen_here","_law_web_here"] (spB K fOrder):=by
 refine F.ok Ya4 (Zgl λps ds Post h=>by obtain⟨_,n,ts,rfl,_⟩:=h;rfl) λcdv A outer s H vs Q E hr h=>?_;have hu:=Zbz hr;refine⟨_,(Zae (Zsu 5 (show ∀x∈(["_law_pen_here","_law_web_here","_law_rows","_law_k","_law_row","!0","!1","!2","!3","!4","!5","!6","!7","!8","!9","!10","!11","!12","!13","!14","!15","!16","!17","!18","!19","!20","!21","!22","!23","!24"]:List Str).drop 5,(defScope Yaj).names.lookup x=none from by decide +kernel)<|Zdg (i:=2) ["_law_place"] (show CompSc (defScope Yaj) ["_law_pen_here","_law_web_here","_law_rows","_law_k","_law_row","!0","!1","!2","!3","!4","!5","!6","!7","!8","!9","!10","!11","!12","!13","!14","!15","!16","!17","!18","!19","!20","!21","!22","!23","!24"] _ [] [] from ⟨rfl,by decide +kernel,by decide +kernel,by decide +kernel,rfl,by decide +kernel⟩) rfl Ya4.nd rfl (Or.inl rfl) (Zbk rfl (mb "range"<|by decide)<|Zaa (Zaq (ixK K hu) (pv 1) Zag λ_ _=>rfl) Zad) (λ_ _ _ _ _=>(Zam (i:=0) (show List.Nodup (["_law_place"]:List Str) from by decide) rfl<|Or.inl rfl)) (λ_ _ _ _ _=>Zd2) λ_ _ _ _ _=>(Zg3 Zad))<|Zae (Zdt PassesOwn.never rfl (Zbk rfl (mb "range"<|by decide)<|Zaa (Zap Zcn Zag<|Zai (lenK K) rfl (mb "len"<|by decide) Za5<|Zaa (Zaq (ixK K hu) (pv 1) Zag λ_ _=>rfl) Zad) Zad) (Zam (i:=3) Ya4.nd rfl<|Or.inl rfl)<|Zae (Zat (i:=4) Ya4.nd rfl (Or.inl rfl)<|Zaq (ixK K hu) (pv 2) (Zaq (ixK K hu) (Zaq (ixK K hu) (Zaq (ixK K hu) (pv 1) Zag λ_ _=>rfl) (Zap Zd5 (pv 3) Zag) λ_ _=>rfl) (Zap Zcv (pv 3) Zag) λ_ _=>rfl) λ_ _=>rfl)<|Zah<|Zfd<|bmK K PySem.F.plainAttrs_list PySem.F.slot_list_insert PySem.F.type_list_insert Zp6 (pv 4)<|Zaa (Zai (Zf0 rfl) rfl (mb "min"<|by decide) Zgt<|Zaa (Zai (lenK K) rfl (mb "len"<|by decide) Za5<|Zaa (pv 4) Zad)<|Zaa (Zap (addK K) Zag<|Zax C46 (hr.mono<|by decide)<|Zaa (pv 0)<|Zaa (Zai (Zig rfl) rfl (mb "max"<|by decide) Znm<|Zaa Zag<|Zaa (Zai (lenK K) rfl (mb "len"<|by decide) Za5<|Zaa (pv 4) Zad) Zad) Zad) Zad)<|Zaa (pv 3) Zad)<|Zah<|Zau<|Zbj (tupK K) rfl (mb "tuple"<|by decide) Zb3<|Zaa (Zcr ["_law_row"] (show CompSc (defScope Yaj) ["_law_pen_here","_law_web_here","_law_rows","_law_k","_law_row","!0","!1","!2","!3","!4","!5","!6","!7","!8","!9","!10","!11","!12","!13","!14","!15","!16","!17","!18","!19","!20","!21","!22","!23","!24"] _ [] [] from ⟨rfl,by decide +kernel,by decide +kernel,by decide +kernel,rfl,by decide +kernel⟩) rfl (seqK K<|pv 2) (λ_ _ _ _ _=>(Zam (i:=0) (show List.Nodup (["_law_row"]:List Str) from by decide) rfl<|Or.inl rfl)) (λ_ _ _ _ _=>Zd2) λ_ _ _ _ _=>(Zbj (tupK K) rfl (mb "tuple"<|by decide) Zb3<|Zaa (pv 0) Zad)) Zad),Zn8 (λps ds Post hf=>?_) h⟩;obtain⟨hp,n,ts,rfl,hW,q⟩:=hf;refine⟨by simp,?_⟩;dsimp only[cxOf,startD,Wbk,Wbm,Wa6];have hn:=hW.lo;have hn2:=hW.hi;have hts:=hW.len
 -- the rows
 refine Zal<|Zwm<|Zr6 (by decide)<|Zbq ?_;refine Zab<|Zaj<|Zac rfl<|Zak<|Zas (d:=.int n) rfl<|Zaf ⟨n,rfl,by omega,by omega,?_⟩;refine⟨by rw[Zbu];exact small1000 (by omega),λ_=>true,λ_=>.lst [],λi d hd=>?_,by decide,?_,λas hal hnd=>?_⟩
 ·exact Zd4 ⟨rfl,Zi6<|Zaf ⟨by decide,rfl,_,rfl⟩⟩
 ·rw[Wab]
  have e:((rngD 0 n.toNat).filter λ_=>true).length<=25:=Wbz (Wcg _ _) (by rw[Zbu];omega);show 5+_<=30;omega
 obtain⟨cs,hcl,hce,e⟩:=Zq9 (ps:=ps) (ts:=ts) hn2 hal;refine Eq.mpr (congrArg (λΔ=>JS K _ Δ _) e) ?_
 -- the loop
 refine Zca (oP n ts (2*ts.length)) ?_ ?_
 ·refine Zea (Zbq<|Zab<|Zd1 (Ze4 Zc2 (Zif<|Zd0 (ds:=[.int n,.tup (ts.map encTie)]) rfl rfl)<|pr_I<|Or.inl ⟨by decide,by decide⟩)<|Zaf ⟨_,rfl,?_,?_,?_⟩)
  ·rw[Wab];omega
  ·rw[Wab];omega
  have eL:((2:Int)*((ts.map encTie).length:Int)).toNat=2*ts.length:=by rw[Wab];omega
  refine⟨oP n ts,⟨ps,cs,.any,.any,hp,hcl,λp c hc=>by rw[hce p c hc];exact⟨List.Perm.refl _,rfl⟩,rfl⟩,?_,λΔ h=>by rw[Zbu,eL]at h;exact h⟩
  ·rintro k d Δ2 hd ⟨ps,cs,x3,x4,hp,hcl,hrow,rfl⟩
   rw[eL]at hd;obtain⟨hk,rfl⟩:=Zce hd;obtain⟨t,ht1,ht2,ht3⟩:=Znh hk;obtain⟨pl0,pl1⟩:=Zcp hW hk;obtain⟨c,hc1,hc2⟩:=Zqo (f:=λc:Addr × List Int=>D.adr c.1) (xs:=cs) (i:=placeAt ts k) pl0 (by omega);have hR:=hrow _ c hc1;have hRl:=hR.len;have ep:((placeAt ts k).toNat:Int)=placeAt ts k:=Weo pl0;have hsl:∀(ps:List D) (x3 x4:L2.Slot),(oSt ps n ts cs x3 x4)[(placeAt ts k).toNat+5]?=some (.ownA c.1 (.lst<|c.2.map D.int)):=λps x3 x4=>Zyh hc1;have hlen:(c.2.map D.int).length=c.2.length:=Wab _;refine Zbg<|Zal<|Zaw<|Zd1 (Zuj (d:=.adr c.1) (Za6 rfl) (Ze8 (Ze8 (Zd0 (d:=.tup<|ts.map encTie) rfl rfl) (Ze4 (Za6 rfl) Zc2<|pr_I ⟨by decide,by decide⟩) ht2) (Ze4 (Za6 rfl) Zc2<|pr_I (by show (0:Int)<2;decide)) ht3) hc2) ?_;refine Zwe (a:=c.1) rfl (hsl ps _ _) ?_;refine Za0<|Zab<|Zqa rfl (hsl ps _ _)<|Zab<|Zaj<|Zak<|Zio rfl rfl<|Zab<|Za0<|Zab<|Zak<|Zab<|Zqa rfl (hsl ps _ _)<|Zaf<|Zgv<|Zaf ?_;refine Zfa rfl rfl hp (by split <;> omega) (by split <;> omega) λr ps' hp' hr0 hr1=>?_
   refine Zcd<|Zaf<|Zgv<|Zac rfl ⟨_,_,_,rfl,hsl ps' _ _,by rw[hlen];exact small1000 (by omega),by split <;> omega,by split <;> omega,?_⟩
   generalize hi:insI (c.2.map D.int).length (if 1+r<((c.2.map D.int).length:Int) then 1+r else ((c.2.map D.int).length:Int))=j;have hj:j<=c.2.length/\(c.2≠[]->1<=j):=by
    rw[<- hi,hlen];unfold insI;refine⟨?_,λh=>?_⟩
    ·split <;> split <;> omega
    ·have:=Wdz.mpr h
     split <;> split <;> omega
   refine⟨ps',cs.set (placeAt ts k).toNat (c.1,c.2.take j++(k:Int)::c.2.drop j),.val (.int (0+(k:Int))),.val (.adr c.1),hp',by rw[Wby];exact hcl,λp c' hc'=>?_,Zv3 (ps:=ps') (ps':=ps') hc1 ?_⟩
   ·by_cases hpp:p=(placeAt ts k).toNat
    ·subst hpp
     rw[Wao (by omega)]at hc';cases hc';exact hR.put (by omega) hj.1 hj.2
    ·rw[War (Ne.symm hpp)]at hc'
     exact(hrow p c' hc').stay (by omega)
   ·rw[Waz,Wc1,Wbg,Wdn,Wb1]
 -- the end
 rintro Δ1 ⟨ps3,cs3,x3,x4,hp3,hcl3,hrow3,rfl⟩;refine JS.conv (Δ':=.bor (.lst ps3)::.val (encWeb n ts)::.val (.lst (cs3.map λc=>D.lst<|c.2.map D.int))::x3::x4::(Wal cs3.length .any++Wal (25-n.toNat) .any)) (λg G H σ k=>?_) ?_
 ·have:=Ok.thaw (cs:=cs3.map λc=>(c.1,c.2.map D.int)) (R:=[.bor (.lst ps3),.val (encWeb n ts),.val (.lst (cs3.map λc=>D.adr c.1)),x3,x4]) (T:=Wal (25-n.toNat) .any) (i:=2) (g:=g) (G:=G) (H:=H) (σ:=σ) (K:=K) (by rw[Wbb];exact k) (by rw[Wbb];rfl)
  rw[Wbb,Wab]at this;exact this
 refine Za2<|Za0<|Zab<|Zbw (by decide)<|Ze3<|Zac rfl ⟨_,Or.inl rfl,?_,λ_=>true,λd=>match d with|.lst ds=>.tup ds|d=>d,λi d hd=>?_,?_⟩
 ·rw[Wab];exact small1000 (by omega)
 ·rw[Wad]at hd
  cases q:cs3[i]? with
  |none=>rw[q]at hd;cases hd
  |some c=>
   rw[q]at hd;have hd:D.lst (c.2.map D.int)=d:=by simpa using hd
   subst hd;exact Zd4 ⟨rfl,Za0<|Zab<|Zac rfl<|Zaf<|Zez (Or.inl rfl) ⟨rfl,_,rfl⟩⟩
 ·refine Zaf (Zez (Or.inl rfl) ⟨ps3,rfl,?_⟩)
  have e:((cs3.map λc=>D.lst<|c.2.map D.int).filter λ_=>true).map (λd=>match d with|.lst ds=>D.tup ds|d=>d)=(cs3.map (·.2)).map encRow:=by
   rw[Wbl.mpr (by simp),Wbb,Wbb];rfl
  rw[e];exact q _ _ hp3 ⟨by rw[Wab];omega,λp r hr=>by
   rw[Wad]at hr;cases z:cs3[p]? with
   |none=>rw[z]at hr;cases hr
   |some c=>rw[z]at hr;cases hr;exact hrow3 p c z⟩
end
def nextIn (r:List Int) (x:Int):Int:=r.getD ((r.idxOf x+1) % r.length) 0
def rowAt (ts:List (Int × Int)) (o:List (List Int)) (e:Nat):List Int:=o.getD (placeAt ts e).toNat []
def partner (e:Nat):Nat:=if e % 2=0 then e+1 else e-1
theorem Zbo {e m:Nat}(h:e<2*m):partner e<2*m:=by unfold partner;split <;> omega
theorem Zbm {ts:List (Int × Int)}{m:Nat}{p x:Int}:x∈endsBelow ts m p ↔ ∃e:Nat,e<m/\placeAt ts e=p/\(e:Int)=x:=by
 unfold endsBelow;rw[Wa3];constructor
 ·rintro⟨e,he,rfl⟩
  rw[Wai,Wav]at he;exact⟨e,he.1,of_decide_eq_true he.2,rfl⟩
 ·rintro⟨e,h1,h2,rfl⟩
  exact⟨e,by rw[Wai,Wav];exact⟨h1,decide_eq_true h2⟩,rfl⟩
theorem Zb2 (ts:List (Int × Int)) (m:Nat) (p:Int):(endsBelow ts m p).Nodup:=by
 unfold endsBelow;refine List.Pairwise.map _ (λa b h=>?_)<|List.Pairwise.filter _ Wea;intro e;exact h (by omega)
theorem RowOk.nodup {ts:List (Int × Int)}{m:Nat}{p:Int}{r:List Int}(h:RowOk ts m p r):r.Nodup:=h.perm.nodup_iff.mpr<|Zb2 ts m p
theorem RowOk.mem {ts:List (Int × Int)}{m:Nat}{p x:Int}{r:List Int}(h:RowOk ts m p r):x∈r ↔ ∃e:Nat,e<m/\placeAt ts e=p/\(e:Int)=x:=h.perm.mem_iff.trans Zbm
theorem Zb1 {n:Int}{ts:List (Int × Int)}{o:List (List Int)}(hW:WebOk n ts) (hO:OrdOk n ts o) {e:Nat}(he:e<2*ts.length) :
  o[(placeAt ts e).toNat]?=some (rowAt ts o e)/\RowOk ts (2*ts.length) (placeAt ts e) (rowAt ts o e)/\(e:Int)∈rowAt ts o e:=by
 obtain⟨p0,p1⟩:=Zcp hW he;have hl:=hO.len;have hk:(placeAt ts e).toNat<o.length:=by omega
 have q:o[(placeAt ts e).toNat]?=some (rowAt ts o e):=by
  unfold rowAt;rw[Waa hk,Wac,Waa hk];rfl
 have r:=hO.row _ _ q;rw[show ((placeAt ts e).toNat:Int)=placeAt ts e by omega]at r;exact⟨q,r,r.mem.mpr ⟨e,he,rfl,rfl⟩⟩
theorem OrdOk.flat {n:Int}{ts:List (Int × Int)}{o:List (List Int)}(h:OrdOk n ts o):o.flatten.Nodup:=by
 unfold List.Nodup;rw[List.pairwise_flatten];refine⟨λr hr=>?_,?_⟩
 ·obtain⟨p,hp,e⟩:=Wcd.mp hr
  exact(h.row p r<|by rw[Waa hp,e]).nodup
 ·rw[Wb2]
  intro i j hi hj hij x hx y hy hxy;subst hxy;obtain⟨e,_,e1,e2⟩:=(h.row i _<|Waa hi).mem.mp hx;obtain⟨f,_,f1,f2⟩:=(h.row j _<|Waa hj).mem.mp hy;have:e=f:=by omega
  subst this;omega
theorem Zb0 {r:List Int}{x:Int}(h:x∈r):r.idxOf x<r.length/\r[r.idxOf x]?=some x/\∀m,m<r.idxOf x->r[m]?≠some x:=by
 have hl:=List.idxOf_lt_length_of_mem h;refine⟨hl,?_,λm hm e=>?_⟩
 ·rw[Waa hl,List.getElem_idxOf hl]
 ·obtain⟨h1,h2⟩:=Wah.mp e
  have:=List.not_of_lt_findIdx (p:=(· == x)) (xs:=r) hm;rw[h2]at this;simp at this
def encPair (y:Int × Int):Key × D:=(.inl y.1,.int y.2)
theorem Zwf {l:List (Int × Int)}{x y:Int}(h:x ∉ l.map (·.1)):putD (l.map encPair) (.inl x) (.int y)=(l++[(x,y)]).map encPair:=by
 unfold putD;rw[if_neg,Waz]
 ·rfl
 ·rw[List.any_map,List.any_eq_true]
  rintro⟨z,hz,e⟩;have e:(Sum.inl z.1:Key)=Sum.inl x:=of_decide_eq_true e;injection e with e
  exact h<|Wa3.mpr ⟨z,hz,e⟩
theorem Zxh {l:List (Int × Int)}(nd:(l.map (·.1)).Nodup) {x y:Int}(h:(x,y)∈l):valD (l.map encPair) (.inl x)=some (.int y):=by
 induction l with
 |nil=>cases h
 |cons z r ih=>
  rw[Wbg,Wbf]at nd;rw[Wbg];unfold valD;rcases Waq.mp h with e|h
  ·subst e
   rw[Wdq (by simp[encPair])];rfl
  ·have hne:z.1≠x:=λe=>nd.1 (by rw[e];exact Wa3.mpr ⟨_,h,rfl⟩)
   rw[Wcp (by simp[encPair];exact λe=>hne e)];exact ih nd.2 h
theorem Zxu (k:Nat):k ||| 1=2*(k / 2)+1:=by
 apply Nat.eq_of_testBit_eq;intro i;rw[Nat.testBit_or];cases i with
 |zero=>rw[Nat.testBit_zero,Nat.testBit_zero,Nat.testBit_zero];simp
 |succ i=>
  rw[Nat.testBit_succ,Nat.testBit_succ,Nat.testBit_succ,show (2*(k / 2)+1) / 2=k / 2 by omega];simp
theorem Zo2 (k:Nat):Builtin.bitXor (k:Int) 1=(partner k:Int):=by
 have e1:Builtin.bitAnd (k:Int) 1=((k % 2:Nat):Int):=by
  unfold Builtin.bitAnd;rw[decide_eq_true (show (0:Int)<=(k:Int) by omega),decide_eq_true (show (0:Int)<=1 by decide)];show ((((k:Int).toNat &&& (1:Int).toNat:Nat)):Int)=_;rw[Wae,show (1:Int).toNat=1 from rfl,Nat.and_one_is_mod]
 have e2:Builtin.bitOr (k:Int) 1=((2*(k / 2)+1:Nat):Int):=by
  unfold Builtin.bitOr Builtin.bitAnd;rw[decide_eq_false (show ¬ (0:Int)<=Builtin.bitNot (k:Int) by unfold Builtin.bitNot;omega),decide_eq_false (show ¬ (0:Int)<=Builtin.bitNot 1 by decide)];show Builtin.bitNot (Builtin.bitNot (((Builtin.bitNot<|Builtin.bitNot (k:Int)).toNat ||| (Builtin.bitNot<|Builtin.bitNot 1).toNat:Nat):Int))=_;have n1:∀x:Int,Builtin.bitNot (Builtin.bitNot x)=x:=λx=>by unfold Builtin.bitNot;omega
  rw[n1,n1,n1,Wae,show (1:Int).toNat=1 from rfl,Zxu]
 unfold Builtin.bitXor;rw[e1,e2];unfold partner;split <;> omega
theorem Zct {α:Type}[DecidableEq α]:∀{l m:List α},l.Nodup->(∀x∈l,x∈m)->l.length<=m.length
 |[],_,_,_=>Wcl _
 |x::l,m,nd,h=>by
  rw[Wbf]at nd;have hx:=h x Wam;have:=Zct (l:=l) (m:=m.erase x) nd.2 λy hy=>by
   have hne:y≠x:=λe=>nd.1 (e ▸ hy);exact(List.mem_erase_of_ne hne).mpr (h y<|Wau _ hy)
  rw[List.length_erase_of_mem hx]at this;have hpos:0<m.length:=Wco hx;rw[Wat];omega
theorem OrdOk.flat_len {n:Int}{ts:List (Int × Int)}{o:List (List Int)}(h:OrdOk n ts o):o.flatten.length<=2*ts.length:=by
 have:=Zct (m:=(Wap (2*ts.length)).map λe:Nat=>(e:Int)) h.flat λx hx=>by
  obtain⟨r,hr,hx⟩:=Wcm.mp hx;obtain⟨p,hp,e⟩:=Wcd.mp hr;obtain⟨k,hk,_,rfl⟩:=(h.row p r<|by rw[Waa hp,e]).mem.mp hx;exact Wa3.mpr ⟨k,Wav.mpr hk,rfl⟩
 rw[Wab,Wbq]at this;exact this
theorem Ze9 (ts:List (Int × Int)) (m:Nat) (p:Int):(endsBelow ts m p).Pairwise (· < ·):=by
 unfold endsBelow;refine List.Pairwise.map _ (λa b h=>?_)<|List.Pairwise.filter _ Wci;omega
theorem RowOk.least {ts:List (Int × Int)}{m:Nat}{p x:Int}{r:List Int}(h:RowOk ts m p (x::r)):∀a∈r,x<=a:=by
 intro a ha;have h1:=h.first;have h2:=Ze9 ts m p;have h3:a∈endsBelow ts m p:=h.perm.mem_iff.mp<|Wau _ ha;cases q:endsBelow ts m p with
 |nil=>rw[q]at h1;cases h1
 |cons y l=>
  rw[q]at h1 h2 h3;have e:x=y:=Wba.inj h1;subst e;rcases Waq.mp h3 with z|z
  ·omega
  ·have:=(Wer.mp h2).1 a z;omega
def rotAt (l:List Int) (j:Nat):List Int:=l.drop j++l.take j
theorem Zdb:∀(l:List Int),l≠[]->∃m,m∈l/\∀a∈l,m<=a
 |[],h=>absurd rfl h
 |[x],_=>⟨x,Wam,λa ha=>by rw[Wa7.mp ha];exact Wds _⟩
 |x::y::l,_=>by
  obtain⟨m,h1,h2⟩:=Zdb (y::l) (by simp);by_cases h:x<=m
  ·refine⟨x,Wam,λa ha=>?_⟩
   rcases Waq.mp ha with z|z
   ·omega
   ·have:=h2 a z;omega
  ·refine⟨m,Wau _ h1,λa ha=>?_⟩
   rcases Waq.mp ha with z|z
   ·omega
   ·exact h2 a z
theorem Zuq {l:List Int}(nd:l.Nodup) {j:Nat}{x:Int}(h:l[j]?=some x):l.idxOf x=j:=by
 obtain⟨h1,h2⟩:=Wah.mp h;obtain⟨i1,i2,_⟩:=Zb0 (r:=l) (x:=x) (by rw[<- h2];exact Wa0 h1);obtain⟨i3,i4⟩:=Wah.mp i2;exact(Wdx nd).mp (i4.trans h2.symm)
def nxI (n k:Nat):Nat:=if k+1=n then 0 else k+1
theorem Zvr {n k:Nat}(h:k<n):(k+1) % n=nxI n k:=by
 unfold nxI;split
 ·rename_i e;rw[e,Nat.mod_self]
 ·rw[Nat.mod_eq_of_lt (by omega)]
theorem Zed {r:List Int}(nd:r.Nodup) {k:Nat}{x:Int}(h:r[k]?=some x):nextIn r x=r.getD (nxI r.length k) 0:=by
 unfold nextIn;rw[Zuq nd h,Zvr (Wah.mp h).1]
theorem Zej (ds:List D) {j:Nat}(h:j<=ds.length):cutD ds (some (j:Int)) none=ds.drop j:=by
 unfold cutD;rw[HT.sIx_nat,HT.sIx_none,Wei h,Wc8 (by rw[Wbr];exact Wak _)]
theorem Zhm (ds:List D) {j:Nat}(h:j<=ds.length):cutD ds none (some (j:Int))=ds.take j:=by
 unfold cutD;rw[HT.sIx_nat,HT.sIx_none,Wei h,Wd1,Wef]
section
variable {P:Program}{w:World}{K:W.Frag}{mg:Str->Option Value}{base:Heap}{f:Addr}{fd:FuncData}
def fPlace:DSp:=λds Post=>∃n ts,∃e:Nat,ds=[encWeb n ts,.int e]/\e<2*ts.length/\Post (.int<|placeAt ts e)
def folOf (ts:List (Int × Int)) (o:List (List Int)) (e:Nat):Int:=nextIn (rowAt ts o e) e
def fFol:DSp:=λds Post=>∃n ts o,∃e:Nat,ds=[encWeb n ts,encOrd o,.int e]/\WebOk n ts/\OrdOk n ts o/\e<2*ts.length/\Post (.int<|folOf ts o e)
def fOnw:DSp:=λds Post=>∃n ts o,∃e:Nat,ds=[encWeb n ts,encOrd o,.int e]/\WebOk n ts/\OrdOk n ts o/\e<2*ts.length/\Post (.int<|folOf ts o<|partner e)
def fPart:DSp:=λds Post=>∃e:Nat,ds=[.int e]/\Post (.int<|partner e)
def fWhole:DSp:=λds Post=>∃e:Int,ds=[.int e]/\Post (.bl true)
theorem Zsf (mb:Mb mg) (F:Fun K "place_of" "place_of" Yba f fd):FnOk P w K mg base CX0 1 f fd ["web","end"] (spD K fPlace):=by
 refine F.ok Yb8 (Zbc λds Post h=>by obtain⟨_,_,_,rfl,_⟩:=h;rfl) λcdv A outer s H vs Q E hr h=>?_;have hu:=Zbz hr;refine⟨_,(Zah<|Zau<|Zaq (ixK K hu) (Zaq (ixK K hu) (Zaq (ixK K hu) (pv 0) Zag λ_ _=>rfl) (Zap Zd5 (pv 1) Zag) λ_ _=>rfl) (Zap Zcv (pv 1) Zag) λ_ _=>rfl),Zcx (λds Post hf=>?_) h⟩;obtain⟨n,ts,e,rfl,he,q⟩:=hf;refine⟨by simp,?_⟩;dsimp only[startD,Wbk,Wbm,Wa6];obtain⟨t,h1,h2,h3⟩:=Znh he;rw[Wb1]at h2 h3;refine Za2<|Zaj<|Zaj<|Zaj<|Zac rfl<|Zak<|Zas (d:=.tup<|ts.map encTie) rfl ?_;refine Zaj<|Zac rfl<|Zak<|jr_I ⟨by omega,by omega⟩<|Zas h2 ?_;exact Zaj<|Zac rfl<|Zak<|jr_I (by show (0:Int)<2;omega)<|Zas h3 q
theorem Zl7 (mb:Mb mg) (C76:Callee P w K mg base 1 "place_of" ["web","end"] (spD K fPlace)) (F:Fun K "follower" "follower" Ybb f fd):FnOk P w K mg base CX0 2 f fd ["web","order","end"] (spD K fFol):=by
 refine F.ok Yby (Zbc λds Post h=>by obtain⟨_,_,_,_,rfl,_⟩:=h;rfl) λcdv A outer s H vs Q E hr h=>?_;have hu:=Zbz hr;refine⟨_,(Zae (Zat (i:=3) Yby.nd rfl (Or.inl rfl)<|Zaq (ixK K hu) (pv 1) (Zax C76 (hr.mono<|by decide)<|Zaa (pv 0)<|Zaa (pv 2) Zad) λ_ _=>rfl)<|Zah<|Zau<|Zaq (ixK K hu) (pv 3) (Zap Zcv (Zap (addK K) (bmK K PySem.F.plainAttrs_tuple PySem.F.slot_tuple_index PySem.F.type_tuple_index (idxK K) (pv 3)<|Zaa (pv 2) Zad) Zag)<|Zai (lenK K) rfl (mb "len"<|by decide) Za5<|Zaa (pv 3) Zad) λ_ _=>rfl),Zcx (λds Post hf=>?_) h⟩;obtain⟨n,ts,o,e,rfl,hW,hO,he,q⟩:=hf;refine⟨by simp,?_⟩;dsimp only[startD,Wbk,Wbm,Wa6];obtain⟨g1,g2,g3⟩:=Zb1 hW hO he;obtain⟨p0,p1⟩:=Zcp hW he;obtain⟨i1,i2,i3⟩:=Zb0 g3;have hat:atI (o.map encRow) (placeAt ts e)=some (encRow<|rowAt ts o e):=by
  have ep:placeAt ts e=(((placeAt ts e).toNat:Nat):Int):=by omega
  rw[ep];exact Zby (by rw[Wad,g1];rfl)
 refine Zal<|Zaw<|Zaj<|Zac rfl<|Zav<|Zab<|Zac rfl<|Zab<|Zac rfl<|Zaf ⟨n,ts,e,rfl,he,Zas hat ?_⟩;refine Za2<|Zaj<|Zac rfl<|Zaj<|Zaj<|Zha<|Zac rfl ⟨rowAt ts o e,rfl,Zac rfl ⟨e,(rowAt ts o e).idxOf (e:Int),rfl,i2,i3,?_⟩⟩;refine Zak<|Zcd ?_;refine Za0<|Zab<|Zac rfl<|Zaf<|Za7 (Or.inr rfl) ?_;rw[Wab];refine jr_I (by show (0:Int)<_;omega) ?_;have e1:(((rowAt ts o e).idxOf (e:Int):Int)+1) % ((rowAt ts o e).length:Int)=((((rowAt ts o e).idxOf (e:Int)+1) % (rowAt ts o e).length:Nat):Int):=by push_cast;rfl
 rw[e1];have hm:((rowAt ts o e).idxOf (e:Int)+1) % (rowAt ts o e).length<(rowAt ts o e).length:=Wew _ (by omega);refine Zas (d:=.int<|folOf ts o e) (Zby ?_) q;rw[Wad,Waa hm];unfold folOf nextIn;rw[Wac,Waa hm];rfl
theorem Zp0 (mb:Mb mg) (C65:Callee P w K mg base 2 "follower" ["web","order","end"] (spD K fFol)) (F:Fun K "onward" "onward" Ybc f fd):FnOk P w K mg base CX0 3 f fd ["web","order","end"] (spD K fOnw):=by
 refine F.ok Yb9 (Zbc λds Post h=>by obtain⟨_,_,_,_,rfl,_⟩:=h;rfl) λcdv A outer s H vs Q E hr h=>?_;have hu:=Zbz hr;refine⟨_,(Zah<|Zau<|Zax C65 (hr.mono<|by decide)<|Zaa (pv 0)<|Zaa (pv 1)<|Zaa (Zap Zue (pv 2) Zag) Zad),Zcx (λds Post hf=>?_) h⟩;obtain⟨n,ts,o,e,rfl,hW,hO,he,q⟩:=hf;refine⟨by simp,?_⟩;dsimp only[startD,Wbk,Wbm,Wa6];refine Za2<|Zav<|Zab<|Zac rfl<|Zab<|Zac rfl<|Zab<|Zaj<|Zac rfl<|Zak<|Zfz ?_;rw[Zo2];exact Zaf ⟨n,ts,o,partner e,rfl,hW,hO,Zbo he,q⟩
theorem Zoi (mb:Mb mg) (F:Fun K "_law_partner" "_law_partner" Ybo f fd):FnOk P w K mg base CX0 1 f fd ["_law_end"] (spD K fPart):=by
 refine F.ok Yce (Zbc λds Post h=>by obtain⟨_,rfl,_⟩:=h;rfl) λcdv A outer s H vs Q E hr h=>?_;have hu:=Zbz hr;refine⟨_,(Zah<|Zau<|Zap Ze1 (Zap (addK K) (pv 0) Zag)<|Zap Zcn Zag<|Zap Zcv (pv 0) Zag),Zcx (λds Post hf=>?_) h⟩;obtain⟨e,rfl,q⟩:=hf;refine⟨by simp,?_⟩;dsimp only[startD,Wbk,Wbm,Wa6]
 repeat walk_at "js"
 have e1:(e:Int)+1-2*((e:Int) % 2)=(partner e:Int):=by unfold partner;split <;> omega
 rw[e1];exact q
theorem Ztz (mb:Mb mg) (F:Fun K "_law_whole" "_law_whole" Ybq f fd):FnOk P w K mg base CX0 1 f fd ["_law_found"] (spD K fWhole):=by
 refine F.ok Ycf (Zbc λds Post h=>by obtain⟨_,rfl,_⟩:=h;rfl) λcdv A outer s H vs Q E hr h=>?_;have hu:=Zbz hr;refine⟨_,(Zah<|Zau<|Zk0 (Zai (isiUK K) rfl (mb "isinstance"<|by decide) Zbd<|Zaa (pv 0)<|Zaa (Zdm rfl (mb "int"<|by decide) Zi7 (show RelV (.ty "int") _ from rfl)) Zad)<|Zky<|Zqj<|Zai (isiUK K) rfl (mb "isinstance"<|by decide) Zbd<|Zaa (pv 0)<|Zaa (Zdm rfl (mb "bool"<|by decide) Zlq (show RelV (.ty "bool") _ from rfl)) Zad),Zcx (λds Post hf=>?_) h⟩;obtain⟨e,rfl,q⟩:=hf;refine⟨by simp,?_⟩;dsimp only[startD,Wbk,Wbm,Wa6];refine Za2<|Zfy<|Za0<|Zab<|Zac rfl<|Zab<|Zfu<|Zaf<|Zcw (T:="int") (b:=true) rfl (λ_=>by rfl) ⟨_,rfl,?_⟩;rw[if_pos rfl];refine Zjh<|Za0<|Zab<|Zac rfl<|Zab<|Zfu<|Zaf<|Zcw (T:="int") (b:=false) rfl (λ_=>by rfl) ⟨_,rfl,?_⟩;exact q
theorem Ze0:2<=sizeLine:=by decide
def floorD (n:Int) (ts:List (Int × Int)) (o:List (List Int)):D:=.tup [encWeb n ts,encOrd o]
end
noncomputable def lf (l:List Int):List Int:=if h:l=[] then [] else rotAt l (l.idxOf<|Classical.choose<|Zdb l h)
theorem Zfm:lf []=[]:=by unfold lf;rw[dif_pos rfl]
theorem Znw {l:List Int}{m:Int}(hm:m∈l) (hle:∀a∈l,m<=a):lf l=rotAt l (l.idxOf m):=by
 have h:l≠[]:=List.ne_nil_of_mem hm;unfold lf;rw[dif_neg h];obtain⟨c1,c2⟩:=Classical.choose_spec<|Zdb l h;have e:Classical.choose (Zdb l h)=m:=by
  have:=c2 m hm;have:=hle _ c1;omega
 rw[e]
theorem Ztd (l:List Int) (j:Nat):(rotAt l j).Perm l:=by
 unfold rotAt;refine Wcs.trans ?_;rw[Wbu]
theorem Zht (l:List Int):(lf l).Perm l:=by
 by_cases h:l=[]
 ·subst h;rw[Zfm]
 ·obtain⟨m,hm,hle⟩:=Zdb l h
  rw[Znw hm hle];exact Ztd _ _
theorem Zrw {l:List Int}{m:Int}(hm:m∈l) (hle:∀a∈l,m<=a):(lf l).head?=some m:=by
 obtain⟨i1,i2,_⟩:=Zb0 hm;rw[Znw hm hle];unfold rotAt;rw[Wcw i1,We2,List.head?_cons];rw[Waa i1]at i2;exact i2
theorem Zj2 {ts:List (Int × Int)}{m:Nat}{p:Int}{l:List Int}(h:l.Perm (endsBelow ts m p)):RowOk ts m p (lf l):=by
 refine⟨(Zht l).trans h,?_⟩;cases e:endsBelow ts m p with
 |nil=>
  rw[e]at h;rw[List.Perm.eq_nil h,Zfm]
 |cons x X=>
  have hs:=Ze9 ts m p;rw[e]at hs h;rw[List.head?_cons];refine Zrw (h.mem_iff.mpr Wam) λa ha=>?_;rcases Waq.mp (h.mem_iff.mp ha) with z|z
  ·omega
  ·have:=List.rel_of_pairwise_cons hs z
   omega
theorem Zy1 {ts:List (Int × Int)}{m:Nat}{p:Int}{r:List Int}(h:RowOk ts m p r):lf r=r:=by
 cases r with
 |nil=>exact Zfm
 |cons x r=>
  have hle:=h.least;rw[Znw (m:=x) Wam (λa ha=>by rcases Waq.mp ha with z|z;exact(by omega);exact hle a z),Wdy];unfold rotAt;rw[Wd1,Wc6,Wa4]
def outE (t:Nat) (e:Int):Int:=if e<2*(t:Int) then e else e-2
def keepE (t:Nat) (e:Int):Bool:=decide (¬ e / 2=(t:Int))
noncomputable def outRow (t:Nat) (r:List Int):List Int:=lf ((r.filter<|keepE t).map (outE t))
theorem Zek {ts:List (Int × Int)}{t e:Nat}(he:e / 2≠t):placeAt (ts.eraseIdx t) (if e<2*t then e else e-2)=placeAt ts e:=by
 unfold placeAt;rw[Wcj];by_cases h:e<2*t
 ·rw[if_pos h,if_pos (by omega)]
 ·rw[if_neg h,if_neg (by omega),show (e-2) / 2+1=e / 2 by omega,show (e-2) % 2=e % 2 by omega]
theorem Zhc {ts:List (Int × Int)}{t:Nat}(ht:t<ts.length) (p:Int):(((endsBelow ts (2*ts.length) p).filter (keepE t)).map (outE t)).Perm (endsBelow (ts.eraseIdx t) (2*(ts.eraseIdx t).length) p):=by
 have hl:(ts.eraseIdx t).length=ts.length-1:=by rw[Wdg,if_pos ht]
 rw[Wcr ?_ (Zb2 _ _ _)]
 ·intro x
  rw[Wa3,Zbm,hl];constructor
  ·rintro⟨y,hy,rfl⟩
   rw[Wai,Zbm]at hy;obtain⟨⟨e,he,hp,rfl⟩,hk⟩:=hy;have hk:¬ (e:Int) / 2=(t:Int):=of_decide_eq_true hk;have hk':e / 2≠t:=by omega
   refine⟨if e<2*t then e else e-2,by split <;> omega,(Zek hk').trans hp,?_⟩
   unfold outE;split <;> split <;> omega
  ·rintro⟨e,he,hp,rfl⟩
   refine⟨((if e<2*t then e else e+2:Nat):Int),?_,?_⟩
   ·rw[Wai,Zbm]
    have hk':(if e<2*t then e else e+2) / 2≠t:=by split <;> omega
    refine⟨⟨_,by split <;> omega,?_,rfl⟩,decide_eq_true (by split <;> omega)⟩
    rw[<- Zek (ts:=ts) hk',<- hp];congr 1
    repeat' split
    all_goals omega
   ·unfold outE
    split <;> split <;> omega
 ·refine List.Pairwise.map _ (λa b h=>?_) (List.Pairwise.and_mem.mp ((Zb2 ts (2*ts.length) p).filter (keepE t)))
  obtain⟨ha,hb,hne⟩:=h;have ka:¬ a / 2=(t:Int):=of_decide_eq_true (Wai.mp ha).2;have kb:¬ b / 2=(t:Int):=of_decide_eq_true (Wai.mp hb).2;unfold outE;intro e;apply hne;split at e <;> split at e <;> omega
theorem Zfb {n:Int}{ts:List (Int × Int)}(hW:WebOk n ts) (t:Nat):WebOk n (ts.eraseIdx t):=
 ⟨hW.lo,hW.hi,Wbz (Wd5 ..) hW.len,λu hu=>hW.tie u<|Wdl hu⟩
theorem Zpm {n:Int}{ts:List (Int × Int)}{o:List (List Int)}(hO:OrdOk n ts o) {t:Nat}(ht:t<ts.length):OrdOk n (ts.eraseIdx t) (o.map<|outRow t):=by
 refine⟨by rw[Wab];exact hO.len,λp r hr=>?_⟩;rw[Wad]at hr;cases z:o[p]? with
 |none=>rw[z]at hr;cases hr
 |some r0=>
  rw[z]at hr;have hr:outRow t r0=r:=by simpa using hr
  subst hr;exact Zj2 ((((hO.row p r0 z).perm.filter (keepE t)).map (outE t)).trans (Zhc ht _))
section
variable {P:Program}{w:World}{K:W.Frag}{mg:Str->Option Value}{base:Heap}{f:Addr}{fd:FuncData}
def fIsTie:DSp:=λds Post=>∃n ts,∃t:Nat,ds=[encWeb n ts,.int t]/\t<ts.length/\Post (.bl true)
def fLeastE:DSp:=λds Post=>∃ns:List Int,ds=[.lst (ns.map .int)]/\ns.length<=100/\Post (encRow<|lf ns)
def fRowsW:DSp:=λds Post=>∃(o:List (List Int)) (d:D) (t:Nat),ds=[d,.int t]/\(d=.tup (o.map encRow)\/d=.lst (o.map encRow))/\o.length<=25/\(∀r∈o,r.length<=96)/\Post (encOrd<|o.map<|outRow t)
theorem Zdx (n:Int) (ts:List (Int × Int)):atI [D.int n,D.tup (ts.map encTie)] 1=some (.tup<|ts.map encTie):=rfl
theorem Zhk {α:Type}(f:α -> D) (ts:List α) (t:Nat):(ts.map f).take t++(ts.map f).drop (t+1)=(ts.eraseIdx t).map f:=by
 rw[<- Wc1,<- Wdn,<- Waz,Wdr]
theorem OrdOk.rows {n:Int}{ts:List (Int × Int)}{o:List (List Int)}(hW:WebOk n ts) (hO:OrdOk n ts o):o.length<=25/\∀r∈o,r.length<=48:=by
 have h1:=hO.len;have h2:=hW.hi;have h3:=hW.len;refine⟨by omega,λr hr=>?_⟩;obtain⟨p,hp,e⟩:=Wcd.mp hr;have:=(hO.row p r<|by rw[Waa hp,e]).len;omega
theorem Zsw (mb:Mb mg) (C69:Callee P w K mg base 1 "is_whole" ["thing"] (spD K fWhole)) (F:Fun K "is_tie" "is_tie" Ya9 f fd):FnOk P w K mg base CX0 2 f fd ["web","tie"] (spD K fIsTie):=by
 refine F.ok Yb7 (Zbc λds Post h=>by obtain⟨_,_,_,rfl,_⟩:=h;rfl) λcdv A outer s H vs Q E hr h=>?_;have hu:=Zbz hr;refine⟨_,(Zah<|Zau<|Zk0 (Zax C69 (hr.mono<|by decide)<|Zaa (pv 1) Zad)<|Zky<|Zm8 Zu5 Zln Zag (pv 1)<|Zai (lenK K) rfl (mb "len"<|by decide) Za5<|Zaa (Zaq (ixK K hu) (pv 0) Zag λ_ _=>rfl) Zad),Zcx (λds Post hf=>?_) h⟩;obtain⟨n,ts,t,rfl,ht,q⟩:=hf;refine⟨by simp,?_⟩;dsimp only[startD,Wbk,Wbm,Wa6];refine Za2<|Zfy<|Zav<|Zab<|Zac rfl<|Zaf ⟨_,rfl,_,rfl,?_⟩;refine iteT<|Zj1<|Zak<|Zac rfl<|Ze2 ⟨_,rfl,?_⟩;rw[decide_eq_true (show (0:Int)<=(t:Int) by omega),if_pos rfl];refine Za0<|Zab<|Zaj<|Zac rfl<|Zak<|Zas (Zdx n ts)<|Zaf<|Za7 (Or.inr rfl) ?_;rw[Wab];refine Ze2 ?_;rw[decide_eq_true (show (t:Int)<(ts.length:Int) by omega)];exact q
theorem Zp1 (mb:Mb mg) (F:Fun K "least_first" "least_first" Yas f fd):FnOk P w K mg base CX0 1 f fd ["ends"] (spD K fLeastE):=by
 refine F.ok Ya2 (Zbc λds Post h=>by obtain⟨_,rfl,_⟩:=h;rfl) λcdv A outer s H vs Q E hr h=>?_;have hu:=Zbz hr;refine⟨_,(Zae (Zcf (Ze7<|truK K (pv 0) λ_=>rfl) (Zah<|Zau<|Zb8 Zad) Za4)<|Zae (Zat (i:=1) Ya2.nd rfl (Or.inl rfl)<|bmK K PySem.F.plainAttrs_list PySem.F.slot_list_index PySem.F.type_list_index (idxLK K) (pv 0)<|Zaa (Zai (minK K rfl) rfl (mb "min"<|by decide) Zgt<|Zaa (pv 0) Zad) Zad)<|Zah<|Zau<|Zbj (tupK K) rfl (mb "tuple"<|by decide) Zb3<|Zaa (Zap (addK K) (Zbx (slK K) (pv 0) (Zcj<|pv 1) Zch)<|Zbx (slK K) (pv 0) Zch<|Zcj<|pv 1) Zad),Zcx (λds Post hf=>?_) h⟩;obtain⟨ns,rfl,hl,q⟩:=hf;refine⟨by simp,?_⟩;dsimp only[startD,Wbk,Wbm,Wa6];by_cases hn:ns=[]
 ·subst hn
  refine Zal<|Zcc<|Zd9<|Zcl<|Zac rfl ⟨false,rfl,?_⟩;refine iteT<|Za2<|Zb7<|Zaf ⟨by decide,?_⟩;rw[Zfm]at q;exact q
 ·obtain⟨m,hm,hle⟩:=Zdb ns hn
  obtain⟨i1,i2,i3⟩:=Zb0 hm;refine Zal<|Zcc<|Zd9<|Zcl<|Zac rfl ⟨true,?_,?_⟩
  ·cases ns with
   |nil=>exact absurd rfl hn
   |cons x t=>rfl
  refine iteF<|Zbb ?_;refine Zal<|Zaw<|Zh9<|Zac rfl ⟨ns,rfl,by omega,Za0<|Zab<|Zac rfl<|Zaf<|Zjn (Or.inl rfl) hm hle ⟨m,rfl,hm,?_⟩⟩;have hj:ns.idxOf m<=(ns.map D.int).length:=by rw[Wab];omega
  refine Za2<|Za0<|Zab<|Zaj<|Zfe<|Zac rfl<|Zck<|Zac rfl ⟨_,rfl,Zcg ⟨.lst ((ns.map D.int).drop (ns.idxOf m)),?_,?_⟩⟩
  ·show some (D.lst<|cutD (ns.map D.int) (some ((ns.idxOf m:Nat):Int)) none)=_
   rw[Zej _ hj]
  refine Zfe<|Zac rfl<|Zcg<|Zck<|Zac rfl ⟨_,rfl,.lst ((ns.map D.int).take (ns.idxOf m)),?_,?_⟩
  ·show some (D.lst<|cutD (ns.map D.int) none<|some ((ns.idxOf m:Nat):Int))=_
   rw[Zhm _ hj]
  refine Zmc ?_<|Zaf<|Zez (Or.inl rfl) ?_
  ·rw[Wbr,Wa5,Wab]
   exact Wb0 (small1000<|by omega)
  rw[Znw hm hle]at q;unfold encRow rotAt at q;rw[Waz,Wdn,Wc1]at q;exact q
def intD:D->Int
 |.int i=>i
 |_=>0
def keepD (t:Nat):D->Bool:=λd=>keepE t<|intD d
def outED (t:Nat):D->D:=λd=>.int<|outE t<|intD d
noncomputable def outD (t:Nat):D->D
 |.tup ds=>encRow (outRow t (ds.map intD))
 |d=>d
theorem Zg6 (r:List Int):(r.map D.int).map intD=r:=by
 rw[Wbb]
 conv=>rhs;rw[<- Wel r]
 rfl
theorem Ztk (t:Nat) (r:List Int):((r.map D.int).filter (keepD t)).map (outED t)=((r.filter<|keepE t).map (outE t)).map D.int:=by
 rw[Wb4,Wbb,Wbb];rfl
theorem Zs0 (t:Nat) (o:List (List Int)):((o.map encRow).filter λ_=>true).map (outD t)=(o.map<|outRow t).map encRow:=by
 rw[Wbl.mpr (by simp),Wbb,Wbb];apply Wb8;intro r _;show encRow (outRow t ((r.map D.int).map intD))=encRow (outRow t r);rw[Zg6]
theorem Zv9 (mb:Mb mg) (C71:Callee P w K mg base 1 "least_first" ["ends"] (spD K fLeastE)) (F:Fun K "rows_without" "rows_without" Yam f fd):FnOk P w K mg base CX0 2 f fd ["rows","tie"] (spD K fRowsW):=by
 refine F.ok Ycb (Zbc λds Post h=>by obtain⟨_,_,_,rfl,_⟩:=h;rfl) λcdv A outer s H vs Q E hr h=>?_;have hu:=Zbz hr;refine⟨_,(Zah<|Zau<|Zbj (tupK K) rfl (mb "tuple"<|by decide) Zb3<|Zaa (Zcr ["row"] (show CompSc (defScope Yam) ["rows","tie"] _ ["tie"] [1] from ⟨rfl,by decide +kernel,by decide +kernel,by decide +kernel,rfl,by decide +kernel⟩) rfl (seqK K<|pv 0) (λ_ _ _ _ _=>(Zam (i:=0) (show List.Nodup (["row","tie"]:List Str) from by decide) rfl<|Or.inl rfl)) (λ_ _ _ _ _=>Zd2) λ_ _ _ _ _=>(Zax C71 (hr.mono<|by decide)<|Zaa (Zcr ["end"] (show CompSc (relab (defScope Yam) _) ["row","tie"] _ ["tie"] [1] from ⟨rfl,by decide +kernel,by decide +kernel,by decide +kernel,rfl,by decide +kernel⟩) rfl (seqK K<|pv 0) (λ_ _ _ _ _=>(Zam (i:=0) (show List.Nodup (["end","tie"]:List Str) from by decide) rfl<|Or.inl rfl)) (λ_ _ _ _ _=>(Zc3<|Zao Zg0 (Zap Zd5 (pv 0) Zag) (pv 1)<|nomark _)) λ_ _ _ _ _=>(Zga (Zao Zln (pv 0) (Zap Zcn Zag<|pv 1)<|nomark _) (pv 0)<|Zap Ze1 (pv 0) Zag)) Zad)) Zad),Zcx (λds Post hf=>?_) h⟩;obtain⟨o,d,t,rfl,hd,hl,hrl,q⟩:=hf;refine⟨by simp,?_⟩;dsimp only[startD,Wbk,Wbm,Wa6];refine Za2<|Za0<|Zab<|Zbw (by decide) ?_;have row:∀(i:Nat) d,(o.map encRow)[i]?=some d->∃r,d=encRow r/\r.length<=96:=λi d hd=>by
  rw[Wad]at hd;cases z:o[i]? with
  |none=>rw[z]at hd;cases hd
  |some r=>
   rw[z]at hd;have hd:encRow r=d:=by simpa using hd
   exact⟨r,hd.symm,hrl r<|Way z⟩
 refine Zvl rfl hd ⟨by rw[Wab];exact small1000 (by omega),λ_=>true,outD t,λi d hd=>?_,?_⟩
 ·obtain⟨r,rfl,hr1⟩:=row i d hd
  refine Zd4 ⟨rfl,Zav<|Zab<|Zbw (by decide)<|Zdp<|Zac rfl ⟨_,rfl,?_,keepD t,outED t,λj e he=>?_,?_⟩⟩
  ·rw[Wab];exact small1000 (by omega)
  ·rw[Wad]at he
   cases z:r[j]? with
   |none=>rw[z]at he;cases he
   |some x=>
    rw[z]at he;have he:D.int x=e:=by simpa using he
    subst he;refine Zar<|Zaj<|Zaj<|Zac rfl<|Zak<|jr_I ⟨by omega,by omega⟩<|Zac rfl<|Zju ⟨_,rfl,?_,?_⟩
    ·show (!decide (x / 2=(t:Int)))=decide (¬ x / 2=(t:Int))
     rw[decide_not]
    refine ite2 (λz=>?_) λz=>⟨_,rfl⟩;refine Zgg<|Zar<|Zaj<|Zac rfl<|Zaj<|Zak<|Zac rfl<|jr_I (Or.inl ⟨by omega,by omega⟩)<|Ze2 ⟨_,rfl,?_⟩;refine ite2 (λz=>?_) λz=>?_
    ·have z:x<2*(t:Int):=of_decide_eq_true z
     refine Zac rfl ⟨?_,_,rfl⟩;show D.int x=D.int (outE t x);unfold outE;rw[if_pos z]
    ·have z:¬ x<2*(t:Int):=of_decide_eq_false (Wcc.mpr z)
     refine Zaj<|Zac rfl<|Zak<|Zfz ⟨?_,_,rfl⟩;show D.int (x-2)=D.int (outE t x);unfold outE;rw[if_neg z]
  ·rw[Ztk]
   refine Zaf ⟨_,rfl,?_,?_,_,rfl⟩
   ·rw[Wab];exact Wbz (Wcg _ _) (by omega)
   ·show encRow (outRow t r)=encRow (outRow t ((r.map D.int).map intD))
    rw[Zg6]
 ·refine Zaf (Zez (Or.inl rfl) ?_)
  rw[Zs0];exact q
theorem Zsc (mb:Mb mg) (F:Fun K "_law_begun" "_law_begun" Ybr f fd):FnOk P w K mg base CX0 1 f fd ["_law_row"] (spD K fLeastE):=by
 refine F.ok Yb3 (Zbc λds Post h=>by obtain⟨_,rfl,_⟩:=h;rfl) λcdv A outer s H vs Q E hr h=>?_;have hu:=Zbz hr;refine⟨_,(Zae (Zcf (Zao Zci (Zai (lenK K) rfl (mb "len"<|by decide) Za5<|Zaa (pv 0) Zad) Zag<|nomark _) (Zah<|Zau<|Zb8 Zad) Za4)<|Zae (Zat (i:=1) Yb3.nd rfl (Or.inl rfl)<|bmK K PySem.F.plainAttrs_list PySem.F.slot_list_index PySem.F.type_list_index (idxLK K) (pv 0)<|Zaa (Zai (minK K rfl) rfl (mb "min"<|by decide) Zgt<|Zaa (pv 0) Zad) Zad)<|Zah<|Zau<|Zbj (tupK K) rfl (mb "tuple"<|by decide) Zb3<|Zaa (Zap (addK K) (Zbx (slK K) (pv 0) (Zcj<|pv 1) Zch)<|Zbx (slK K) (pv 0) Zch<|Zcj<|pv 1) Zad),Zcx (λds Post hf=>?_) h⟩;obtain⟨ns,rfl,hl,q⟩:=hf;refine⟨by simp,?_⟩;dsimp only[startD,Wbk,Wbm,Wa6];refine Zal<|Zcc<|Zar<|Zaj<|Za0<|Zab<|Zac rfl<|Zaf<|Za7 (Or.inl rfl)<|Zak<|Zer ⟨_,rfl,?_⟩;rw[Wab];by_cases hn:ns=[]
 ·subst hn
  refine iteT<|Za2<|Zb7<|Zaf ⟨by decide,?_⟩;rw[Zfm]at q;exact q
 ·obtain⟨m,hm,hle⟩:=Zdb ns hn
  obtain⟨i1,i2,i3⟩:=Zb0 hm;rw[decide_eq_false (by omega)];refine iteF<|Zbb ?_;refine Zal<|Zaw<|Zh9<|Zac rfl ⟨ns,rfl,by omega,Za0<|Zab<|Zac rfl<|Zaf<|Zjn (Or.inl rfl) hm hle ⟨m,rfl,hm,?_⟩⟩;have hj:ns.idxOf m<=(ns.map D.int).length:=by rw[Wab];omega
  refine Za2<|Za0<|Zab<|Zaj<|Zfe<|Zac rfl<|Zck<|Zac rfl ⟨_,rfl,Zcg ⟨.lst ((ns.map D.int).drop (ns.idxOf m)),?_,?_⟩⟩
  ·show some (D.lst<|cutD (ns.map D.int) (some ((ns.idxOf m:Nat):Int)) none)=_
   rw[Zej _ hj]
  refine Zfe<|Zac rfl<|Zcg<|Zck<|Zac rfl ⟨_,rfl,.lst ((ns.map D.int).take (ns.idxOf m)),?_,?_⟩
  ·show some (D.lst<|cutD (ns.map D.int) none<|some ((ns.idxOf m:Nat):Int))=_
   rw[Zhm _ hj]
  refine Zmc ?_<|Zaf<|Zez (Or.inl rfl) ?_
  ·rw[Wbr,Wa5,Wab]
   exact Wb0 (small1000<|by omega)
  rw[Znw hm hle]at q;unfold encRow rotAt at q;rw[Waz,Wdn,Wc1]at q;exact q
end
def corD:Nat ⊕ Nat->D
 |.inl e=>.int (e:Int)
 |.inr p=>.tup [.str "place",.int (p:Int)]
def corP (ts:List (Int × Int)):Nat ⊕ Nat->Nat
 |.inl e=>(placeAt ts e).toNat
 |.inr p=>p
def CorOk (n:Int) (ts:List (Int × Int)) (o:List (List Int)):Nat ⊕ Nat->Prop
 |.inl e=>e<2*ts.length
 |.inr p=>(p:Int)<n/\o.getD p []=[]
def jOf (r:List Int):Nat ⊕ Nat->Nat
 |.inl e=>r.idxOf (e:Int)+1
 |.inr _=>r.length
def rowW (r:List Int) (c:Nat ⊕ Nat) (x:Int):List Int:=r.take (jOf r c)++x::r.drop (jOf r c)
def put1 (o:List (List Int)) (p:Nat) (c:Nat ⊕ Nat) (x:Int):List (List Int):=o.set p<|rowW (o.getD p []) c x
def putTs (ts:List (Int × Int)) (c d:Nat ⊕ Nat):List (Int × Int):=ts++[((corP ts c:Int),(corP ts d:Int))]
def putO (ts:List (Int × Int)) (o:List (List Int)) (c d:Nat ⊕ Nat):List (List Int):=put1 (put1 o (corP ts c) c ((2*ts.length:Nat):Int)) (corP ts d) d ((2*ts.length+1:Nat):Int)
def RowsOk (ts:List (Int × Int)) (k:Nat) (o:List (List Int)):Prop:=∀(p:Nat) r,o[p]?=some r->RowOk ts k (p:Int) r
theorem Zl3 {ts us:List (Int × Int)}{e:Nat}(he:e<2*ts.length):placeAt (ts++us) e=placeAt ts e:=by
 unfold placeAt;rw[Wbc (by omega)]
theorem Zh0 (ts:List (Int × Int)) (a b:Int):placeAt (ts++[(a,b)]) (2*ts.length)=a/\placeAt (ts++[(a,b)]) (2*ts.length+1)=b:=by
 unfold placeAt;constructor
 ·rw[show 2*ts.length / 2=ts.length by omega,Wa1 (Wak _),Weg]
  show (if 2*ts.length % 2=0 then a else b)=a;rw[if_pos (by omega)]
 ·rw[show (2*ts.length+1) / 2=ts.length by omega,Wa1 (Wak _),Weg]
  show (if (2*ts.length+1) % 2=0 then a else b)=b;rw[if_neg (by omega)]
theorem Zoe {n:Int}{ts us:List (Int × Int)}{o:List (List Int)}(hO:OrdOk n ts o):RowsOk (ts++us) (2*ts.length) o:=by
 intro p r hr;have R:=hO.row p r hr;have e:endsBelow (ts++us) (2*ts.length) (p:Int)=endsBelow ts (2*ts.length) (p:Int):=by
  unfold endsBelow;congr 1;apply Wa9;intro e he;rw[Zl3 (Wav.mp he)]
 exact⟨by rw[e];exact R.perm,by rw[e];exact R.first⟩
theorem Zbi {o:List (List Int)}{p:Nat}(h:p<o.length):o[p]?=some (o.getD p []):=by
 rw[Wac,Waa h];rfl
theorem j_ok {r:List Int}{c:Nat ⊕ Nat}(h:∀e,c=.inl e->(e:Int)∈r):jOf r c<=r.length/\(r≠[]->1<=jOf r c):=by
 cases c with
 |inl e=>
  have:=(Zb0<|h e rfl).1;exact⟨by show r.idxOf (e:Int)+1<=_;omega,λ_=>by show 1<=r.idxOf (e:Int)+1;omega⟩
 |inr p=>exact⟨Wak _,λh=>Wdz.mpr h⟩
theorem Zmw {ts:List (Int × Int)}{k p:Nat}{o:List (List Int)}{c:Nat ⊕ Nat}(hR:RowsOk ts k o) (hp:p<o.length) (hk:placeAt ts k=(p:Int)) (hc:∀e,c=.inl e->(e:Int)∈o.getD p []):RowsOk ts (k+1) (put1 o p c (k:Int)):=by
 intro q r hr;unfold put1 at hr;obtain⟨j1,j2⟩:=j_ok hc;by_cases hq:q=p
 ·subst hq
  rw[Wao hp]at hr;cases hr;exact(hR q _<|Zbi hp).put hk j1 j2
 ·rw[War (Ne.symm hq)]at hr
  exact(hR q r hr).stay (by rw[hk];omega)
theorem Zbf {n:Int}{ts:List (Int × Int)}{o:List (List Int)}(hW:WebOk n ts) (hO:OrdOk n ts o) {c:Nat ⊕ Nat}(hc:CorOk n ts o c):corP ts c<o.length/\(∀e,c=.inl e->(e:Int)∈o.getD (corP ts c) []/\e<2*ts.length):=by
 have hl:=hO.len;cases c with
 |inl e=>
  have he:e<2*ts.length:=hc;obtain⟨p0,p1⟩:=Zcp hW he;have hp:corP ts (.inl e)<o.length:=by show (placeAt ts e).toNat<_;omega
  refine⟨hp,λe' h=>?_⟩;cases h;refine⟨(hO.row _ _<|Zbi hp).mem.mpr ⟨e,he,?_,rfl⟩,he⟩;show placeAt ts e=(((placeAt ts e).toNat:Nat):Int);omega
 |inr p=>exact⟨by have:=hc.1;show p<_;omega,λe h=>nomatch h⟩
theorem Zge (o:List (List Int)) (p:Nat) (c:Nat ⊕ Nat) (x:Int):(put1 o p c x).length=o.length:=by unfold put1;rw[Wby]
theorem Zm1 {r:List Int}{c:Nat ⊕ Nat}{x y:Int}(h:y∈r):y∈rowW r c x:=by
 unfold rowW;rw[<- Wbu (jOf r c) r]at h;rcases Wbd.mp h with z|z
 ·exact Wbd.mpr (.inl z)
 ·exact Wbd.mpr (.inr<|Wau _ z)
theorem Znr {o:List (List Int)}{p q:Nat}{c:Nat ⊕ Nat}{x y:Int}(hq:q<o.length) (h:y∈o.getD q []):y∈(put1 o p c x).getD q []:=by
 unfold put1;rw[Wac,Wcz];by_cases hp:p=q
 ·subst hp
  rw[if_pos rfl,if_pos hq];exact Zm1 h
 ·rw[if_neg hp,<- Wac]
  exact h
theorem Zmf {n:Int}{ts:List (Int × Int)}{o:List (List Int)}(hW:WebOk n ts) (hO:OrdOk n ts o) {c d:Nat ⊕ Nat}(hc:CorOk n ts o c) (hd:CorOk n ts o d) (hl:ts.length<24):WebOk n (putTs ts c d):=by
 have h1:=(Zbf hW hO hc).1;have h2:=(Zbf hW hO hd).1;have h3:=hO.len;refine⟨hW.lo,hW.hi,by unfold putTs;rw[Wan,Wbt];omega,λu hu=>?_⟩;rcases Wbd.mp hu with z|z
 ·exact hW.tie u z
 ·rw[Wa7]at z
  subst z;refine⟨?_,?_,?_,?_⟩ <;> dsimp only <;> omega
theorem Zml {n:Int}{ts:List (Int × Int)}{o:List (List Int)}(hW:WebOk n ts) (hO:OrdOk n ts o) {c d:Nat ⊕ Nat}(hc:CorOk n ts o c) (hd:CorOk n ts o d):OrdOk n (putTs ts c d) (putO ts o c d):=by
 obtain⟨c1,c2⟩:=Zbf hW hO hc;obtain⟨d1,d2⟩:=Zbf hW hO hd;obtain⟨n1,n2⟩:=Zh0 ts (corP ts c)<|corP ts d;refine⟨by unfold putO;rw[Zge,Zge];exact hO.len,?_⟩;have R1:=Zmw (Zoe (us:=[((corP ts c:Int),(corP ts d:Int))]) hO) c1 n1 λe h=>(c2 e h).1;have R2:=Zmw R1 (c:=d) (by rw[Zge];exact d1) n2 λe h=>Znr d1 (d2 e h).1;have e:2*(putTs ts c d).length=2*ts.length+1+1:=by unfold putTs;rw[Wan,Wbt];omega
 rw[e];exact R2
def pd (lo hi p:Int):Int:=if p=hi then lo else if hi<p then p-1 else p
def pdT (lo hi:Int) (u:Int × Int):Int × Int:=(pd lo hi u.1,pd lo hi u.2)
def obRow (r:List Int) (x:Int):List Int:=r.drop (r.idxOf x+1)++r.take (r.idxOf x)
noncomputable def inRows (t:Nat) (lo hi:Nat) (el eh:Int) (o:List (List Int)):List (List Int):=(o.set lo<|obRow (o.getD lo []) el++obRow (o.getD hi []) eh).eraseIdx hi
theorem Zuu {r:List Int}{x:Int}(h:x∈r):(x::obRow r x).Perm r:=by
 obtain⟨h1,h2,_⟩:=Zb0 h;unfold obRow;rw[Waa h1]at h2;have e:r[r.idxOf x]=x:=Wba.inj h2;have e2:r=r.take (r.idxOf x)++x::r.drop (r.idxOf x+1):=by
  conv=>lhs;rw[<- Wbu (r.idxOf x) r,Wcw h1,e]
 conv=>rhs;rw[e2]
 refine List.Perm.trans ?_ Wd9.symm;exact List.Perm.cons _ Wcs
theorem Zm6 (r:List Int) (x:Int):(obRow r x).length<=r.length:=by
 unfold obRow;rw[Wan,Wbr,Wa5];omega
theorem Zq5 {r:List Int}{x:Int}{t:Nat}(h:x∈r) (hx:x / 2=(t:Int)):((obRow r x).filter (keepE t)).Perm (r.filter<|keepE t):=by
 have:=(Zuu h).filter (keepE t);rw[Wbs,if_neg (by unfold keepE;simp[hx])]at this;exact this
theorem Zd8 {ts:List (Int × Int)}{lo hi:Int}{e:Nat}(he:e<2*ts.length):placeAt (ts.map<|pdT lo hi) e=pd lo hi (placeAt ts e):=by
 unfold placeAt;rw[Wad,Waa (by omega)];show (if e % 2=0 then (pdT lo hi ts[e / 2]).1 else (pdT lo hi ts[e / 2]).2)=pd lo hi (if e % 2=0 then ts[e / 2].1 else ts[e / 2].2);split <;> rfl
theorem Zoj {n:Int}{ts:List (Int × Int)}(hW:WebOk n ts) {lo hi:Nat}(hlt:lo<hi) {p q:Nat}(hq:q=if p<hi then p else p+1) (hp:p≠lo):endsBelow (ts.map<|pdT lo hi) (2*ts.length) (p:Int)=endsBelow ts (2*ts.length) (q:Int):=by
 unfold endsBelow;congr 1;apply Wa9;intro e he;rw[Wav]at he;obtain⟨p0,p1⟩:=Zcp hW he;rw[Zd8 he];congr 1;apply propext;unfold pd;subst hq;constructor
 ·intro h
  split at h
  ·omega
  ·split at h <;> split <;> omega
 ·intro h
  split at h
  ·rw[if_neg (by omega),if_neg (by omega)];exact h
  ·rw[if_neg (by omega),if_pos (by omega)];omega
theorem Zlu {n:Int}{ts:List (Int × Int)}(hW:WebOk n ts) {lo hi:Nat}(hlt:lo<hi):(endsBelow ts (2*ts.length) (lo:Int)++endsBelow ts (2*ts.length) (hi:Int)).Perm (endsBelow (ts.map<|pdT lo hi) (2*ts.length) (lo:Int)):=by
 rw[Wcr ?_ (Zb2 _ _ _)]
 ·intro x
  rw[Wbd,Zbm,Zbm,Zbm];constructor
  ·rintro(⟨e,he,hp,rfl⟩|⟨e,he,hp,rfl⟩)
   ·refine⟨e,he,?_,rfl⟩
    rw[Zd8 he,hp];unfold pd;rw[if_neg (by omega),if_neg (by omega)]
   ·refine⟨e,he,?_,rfl⟩
    rw[Zd8 he,hp];unfold pd;rw[if_pos rfl]
  ·rintro⟨e,he,hp,rfl⟩
   obtain⟨p0,p1⟩:=Zcp hW he;rw[Zd8 he]at hp;unfold pd at hp;split at hp
   ·exact Or.inr ⟨e,he,by assumption,rfl⟩
   ·split at hp
    ·omega
    ·exact Or.inl ⟨e,he,hp,rfl⟩
 ·refine Wb3.mpr ⟨Zb2 _ _ _,Zb2 _ _ _,λa ha b hb e=>?_⟩
  subst e;obtain⟨e1,_,h1,h2⟩:=Zbm.mp ha;obtain⟨e2,_,h3,h4⟩:=Zbm.mp hb;have:e1=e2:=by omega
  subst this;omega
theorem Zpj {n:Int}{ts:List (Int × Int)}(hW:WebOk n ts) {lo hi t:Nat}(hlt:lo<hi) (hh:(hi:Int)<n):WebOk (n-1) ((ts.eraseIdx t).map (pdT lo hi)):=by
 have h2:=hW.hi;refine⟨by omega,by omega,by rw[Wab];exact(Zfb hW t).len,λu hu=>?_⟩;obtain⟨v,hv,rfl⟩:=Wa3.mp hu;have:=(Zfb hW t).tie v hv;unfold pdT pd;refine⟨?_,?_,?_,?_⟩ <;> (dsimp only;repeat' split) <;> omega
theorem Zus {n:Int}{ts:List (Int × Int)}{o:List (List Int)}(hW:WebOk n ts) (hO:OrdOk n ts o) {t lo hi:Nat}{el eh:Nat}(ht:t<ts.length) (hlt:lo<hi) (hh:(hi:Int)<n) (h1:placeAt ts el=(lo:Int)) (h2:placeAt ts eh=(hi:Int)) (h3:el / 2=t) (h4:eh / 2=t) :
  OrdOk (n-1) ((ts.eraseIdx t).map (pdT lo hi)) ((inRows t lo hi el eh o).map (outRow t)):=by
 have ol:=hO.len;have W':=Zfb hW t;have hl:(ts.eraseIdx t).length=ts.length-1:=by rw[Wdg,if_pos ht]
 have hlo:lo<o.length:=by omega
 have hhi:hi<o.length:=by omega
 have gl:o.getD lo []=o[lo]:=by rw[Wac,Waa hlo];rfl
 have gh:o.getD hi []=o[hi]:=by rw[Wac,Waa hhi];rfl
 have rl:=hO.row lo _<|Waa hlo;have rh:=hO.row hi _<|Waa hhi;refine⟨?_,λp r hr=>?_⟩
 ·unfold inRows
  rw[Wab,Wdg,Wby,if_pos hhi];omega
 ·rw[Wad]at hr
  cases z:(inRows t lo hi el eh o)[p]? with
  |none=>rw[z]at hr;cases hr
  |some r0=>
   rw[z]at hr;have hr:outRow t r0=r:=by simpa using hr
   subst hr;unfold inRows at z;rw[Wcj]at z;rw[Wab];by_cases hp:p=lo
   ·subst hp
    rw[if_pos hlt,Wao hlo]at z;have z:=Wba.inj z;subst z;refine Zj2 ?_;rw[Wbo,Waz,gl,gh];refine List.Perm.trans ?_<|Zlu W' hlt;refine List.Perm.append ?_ ?_
    ·exact((Zq5 (rl.mem.mpr ⟨el,by omega,h1,rfl⟩)<|by omega).map (outE t)).trans (((rl.perm.filter<|keepE t).map (outE t)).trans (Zhc ht _))
    ·exact((Zq5 (rh.mem.mpr ⟨eh,by omega,h2,rfl⟩)<|by omega).map (outE t)).trans (((rh.perm.filter<|keepE t).map (outE t)).trans (Zhc ht _))
   ·have z':o[if p<hi then p else p+1]?=some r0:=by
     rw[<- z];split
     ·rw[War (by omega)]
     ·rw[War (by omega)]
    have R:=Zj2 ((((hO.row _ r0 z').perm.filter (keepE t)).map (outE t)).trans (Zhc ht _));have eE:=Zoj W' hlt (q:=if p<hi then p else p+1) rfl hp;exact⟨eE ▸ R.perm,eE ▸ R.first⟩
def iter (f:Int->Int) (e:Int):Nat->Int
 |0=>e
 |n+1=>f (iter f e n)
def walkL (f:Int->Int) (e:Int) (n:Nat):List Int:=(Wap n).map (iter f e)
structure OneOne (f:Int->Int) (m:Nat):Prop where
 to:∀x,0<=x->x<(m:Int)->0<=f x/\f x<(m:Int)
 inj:∀x y,0<=x->x<(m:Int)->0<=y->y<(m:Int)->f x=f y->x=y
def NdTo (f:Int->Int) (e:Int) (n:Nat):Prop:=∀i j,i<n->j<n->iter f e i=iter f e j->i=j
structure IsOrb (f:Int->Int) (e:Int) (n:Nat):Prop where
 pos:0<n
 back:iter f e n=e
 nd:NdTo f e n
theorem Zc9 (f:Int->Int) (e:Int) (j n:Nat):iter f (iter f e j) n=iter f e (j+n):=by
 induction n with
 |zero=>rfl
 |succ n ih=>show f (iter f (iter f e j) n)=f (iter f e (j+n));rw[ih]
theorem Zb9 (f:Int->Int) (e:Int) (n:Nat):(walkL f e n).length=n:=by unfold walkL;rw[Wab,Wbq]
theorem Zf4 (f:Int->Int) (e:Int) (a b:Nat):walkL f e (a+b)=walkL f e a++walkL f (iter f e a) b:=by
 unfold walkL;rw[List.range_add,Waz,Wbb];congr 1;apply Wb8;intro i _;exact(Zc9 f e a i).symm
theorem Zi2 (f:Int->Int) (e:Int) (n:Nat):walkL f e (n+1)=walkL f e n++[iter f e n]:=by rw[Zf4];rfl
theorem Zba {f:Int->Int}{e x:Int}{n:Nat}:x∈walkL f e n ↔ ∃i,i<n/\iter f e i=x:=by
 unfold walkL;rw[Wa3];constructor
 ·rintro⟨i,h,rfl⟩;exact⟨i,Wav.mp h,rfl⟩
 ·rintro⟨i,h,rfl⟩;exact⟨i,Wav.mpr h,rfl⟩
theorem Zf1 {f:Int->Int}{e:Int}{n i:Nat}(h:i<n):(walkL f e n)[i]?=some (iter f e i):=by
 unfold walkL;rw[Wad,Wc3 h];rfl
theorem IsOrb.uniq {f:Int->Int}{e:Int}{n k:Nat}(h:IsOrb f e n) (h':IsOrb f e k):n=k:=by
 rcases Wex n k with z|z|z
 ·have:=h'.nd n 0 z h'.pos (by rw[h.back];rfl)
  have:=h.pos;omega
 ·exact z
 ·have:=h.nd k 0 z h.pos (by rw[h'.back];rfl)
  have:=h'.pos;omega
noncomputable def per (f:Int->Int) (e:Int):Nat:=Classical.epsilon<|IsOrb f e
noncomputable def orb (f:Int->Int) (e:Int):List Int:=walkL f e<|per f e
theorem IsOrb.per {f:Int->Int}{e:Int}{n:Nat}(h:IsOrb f e n):Lw.per f e=n:=(Classical.epsilon_spec (p:=IsOrb f e) ⟨n,h⟩).uniq h
theorem IsOrb.orb {f:Int->Int}{e:Int}{n:Nat}(h:IsOrb f e n):Lw.orb f e=walkL f e n:=by unfold Lw.orb;rw[h.per]
section
variable {f:Int->Int}{m:Nat}(F:OneOne f m) {e:Int}(h0:0<=e) (h1:e<(m:Int))
include F h0 h1
theorem Zcs (n:Nat):0<=iter f e n/\iter f e n<(m:Int):=by
 induction n with
 |zero=>exact⟨h0,h1⟩
 |succ n ih=>exact F.to _ ih.1 ih.2
theorem Zkf {n:Nat}(hn:1<=n) (nd:NdTo f e n) (hne:iter f e n≠e):NdTo f e (n+1):=by
 have key:∀j,j<n->iter f e n≠iter f e j:=by
  intro j hj q;cases j with
  |zero=>exact hne q
  |succ j=>
   obtain⟨k,rfl⟩:∃k,n=k+1:=⟨n-1,by omega⟩;have a:=Zcs F h0 h1 k;have b:=Zcs F h0 h1 j;have:=nd k j (by omega) (by omega)<|F.inj _ _ a.1 a.2 b.1 b.2 q;omega
 intro i j hi hj q;by_cases hin:i=n
 ·by_cases hjn:j=n
  ·omega
  ·subst hin;exact absurd q (key j<|by omega)
 ·by_cases hjn:j=n
  ·subst hjn;exact absurd q.symm (key i<|by omega)
  ·exact nd i j (by omega) (by omega) q
theorem Zkj {n:Nat}(nd:NdTo f e n):n<=m:=by
 have hn:(walkL f e n).Nodup:=by
  unfold walkL List.Nodup;rw[Wb6,Wb2];intro i j hi hj hij;rw[Wbq]at hi hj;rw[Wct,Wct];intro q;have:=nd i j hi hj q;omega
 have:=Zct (m:=(Wap m).map λe:Nat=>(e:Int)) hn λx hx=>by
  obtain⟨i,hi,rfl⟩:=Zba.mp hx;have:=Zcs F h0 h1 i;exact Wa3.mpr ⟨(iter f e i).toNat,Wav.mpr (by omega),by omega⟩
 rw[Zb9,Wab,Wbq]at this;exact this
theorem Zo4:NdTo f e 1:=λi j hi hj _=>by omega
theorem Zxj:∃n,IsOrb f e n:=by
 apply Classical.byContradiction;intro hn;have all:∀n,NdTo f e (n+1):=by
  intro n
  induction n with
  |zero=>exact Zo4 F h0 h1
  |succ n ih=>
   refine Zkf F h0 h1 (by omega) ih λq=>hn ⟨n+1,by omega,q,ih⟩
 have:=Zkj F h0 h1<|all m;omega
theorem Zdz:IsOrb f e (per f e):=by
 obtain⟨n,h⟩:=Zxj F h0 h1;rw[h.per];exact h
theorem Zda:e∈orb f e:=Zba.mpr ⟨0,(Zdz F h0 h1).pos,rfl⟩
theorem Zoz:(orb f e).length<=m:=by
 unfold orb;rw[Zb9];exact Zkj F h0 h1 (Zdz F h0 h1).nd
theorem Zbv (k:Nat):iter f e k∈orb f e:=by
 have O:=Zdz F h0 h1
 induction k with
 |zero=>exact Zda F h0 h1
 |succ k ih=>
  obtain⟨i,hi,q⟩:=Zba.mp ih;show f (iter f e k)∈_;rw[<- q];by_cases hl:i+1=per f e
  ·have:f (iter f e i)=e:=by
    have:=O.back;rw[<- hl]at this;exact this
   rw[this];exact Zda F h0 h1
  ·exact Zba.mpr ⟨i+1,by omega,rfl⟩
theorem Zg1 {x:Int}(hx:x∈orb f e):0<=x/\x<(m:Int):=by
 obtain⟨i,_,rfl⟩:=Zba.mp hx;exact Zcs F h0 h1 i
theorem Ztf {x y:Int}(a0:0<=x) (a1:x<(m:Int)) (b0:0<=y) (b1:y<(m:Int)) (j:Nat) (q:iter f x j=iter f y j):x=y:=by
 induction j with
 |zero=>exact q
 |succ j ih=>
  have a:=Zcs F a0 a1 j;have b:=Zcs F b0 b1 j;exact ih<|F.inj _ _ a.1 a.2 b.1 b.2 q
theorem Zu4 (j:Nat):IsOrb f (iter f e j) (per f e):=by
 have O:=Zdz F h0 h1;refine⟨O.pos,?_,λi k hi hk q=>?_⟩
 ·rw[Zc9,Nat.add_comm,<- Zc9,O.back]
 ·rw[Zc9,Zc9,Nat.add_comm j i,Nat.add_comm j k,<- Zc9,<- Zc9]at q
  have a:=Zcs F h0 h1 i;have b:=Zcs F h0 h1 k;exact O.nd i k hi hk<|Ztf F h0 h1 a.1 a.2 b.1 b.2 j q
theorem Zbl {x:Int}(hx:x∈orb f e):e∈orb f x:=by
 have O:=Zdz F h0 h1;obtain⟨j,hj,rfl⟩:=Zba.mp hx;have a:=Zcs F h0 h1 j;have:=Zbv F a.1 a.2<|per f e-j;rw[Zc9,show j+(per f e-j)=per f e by omega,O.back]at this;exact this
theorem Za1 {x y:Int}(hx:x∈orb f e) (hy:y∈orb f x):y∈orb f e:=by
 obtain⟨j,_,rfl⟩:=Zba.mp hx;obtain⟨i,_,rfl⟩:=Zba.mp hy;rw[Zc9];exact Zbv F h0 h1 _
theorem Zvt {j:Nat}(hj:j<per f e):rotAt (orb f e) j=orb f (iter f e j):=by
 have O:=Zdz F h0 h1;rw[(Zu4 F h0 h1 j).orb];unfold orb rotAt;have e1:walkL f e (per f e)=walkL f e j++walkL f (iter f e j) (per f e-j):=by rw[<- Zf4,show j+(per f e-j)=per f e by omega]
 have e2:walkL f (iter f e j) (per f e)=walkL f (iter f e j) (per f e-j)++walkL f e j:=by
  conv=>lhs;rw[show per f e=(per f e-j)+j by omega]
  rw[Zf4,Zc9,show j+(per f e-j)=per f e by omega,O.back]
 rw[e2,e1,List.drop_left' (Zb9 ..),List.take_left' (Zb9 ..)]
theorem Zf5:(orb f e).Nodup:=by
 have O:=Zdz F h0 h1;unfold orb walkL List.Nodup;rw[Wb6,Wb2];intro i j hi hj hij;rw[Wbq]at hi hj;rw[Wct,Wct];intro q;have:=O.nd i j hi hj q;omega
theorem Zmy:∃l,orb f e=e::l:=by
 have O:=Zdz F h0 h1;unfold orb;obtain⟨n,hn⟩:∃n,per f e=1+n:=⟨per f e-1,by have:=O.pos;omega⟩;rw[hn,Zf4];exact⟨_,rfl⟩
end
open Classical in
noncomputable def leastB (f:Int->Int) (e:Nat):Bool:=decide (∀x∈orb f (e:Int),(e:Int)<=x)
noncomputable def facesTo (f:Int->Int) (k:Nat):List (List Int):=((Wap k).filter (leastB f)).map λe:Nat=>orb f (e:Int)
theorem Zdy (f:Int->Int) (k:Nat):facesTo f (k+1)=facesTo f k++(if leastB f k=true then [orb f (k:Int)] else []):=by
 unfold facesTo;rw[List.range_succ,Wbo,Waz];congr 1;by_cases h:leastB f k=true
 ·rw[if_pos h];simp[Wbs,h]
 ·rw[if_neg h];simp[Wbs,h]
theorem Zft (f:Int->Int) (k:Nat):(facesTo f k).length<=k:=by
 unfold facesTo;rw[Wab];exact Wbz (Wcg _ _) (by rw[Wbq];exact Wak _)
def MetTo (f:Int->Int) (k:Nat) (x:Int):Prop:=∃e:Nat,e<k/\x∈orb f (e:Int)
section
variable {f:Int->Int}{m:Nat}(F:OneOne f m)
include F
theorem Zeg {k:Nat}(hk:k<m):MetTo f k (k:Int)↔leastB f k=false:=by
 unfold leastB;rw[decide_eq_false_iff_not];constructor
 ·rintro⟨e,he,hx⟩ h
  have:=h _<|Zbl F (by omega) (by omega) hx;omega
 ·intro h
  apply Classical.byContradiction;intro hn;refine h λx hx=>?_;have r:=Zg1 F (by omega) (by omega) hx;apply Classical.byContradiction;intro hlt;refine hn ⟨x.toNat,by omega,?_⟩;rw[show ((x.toNat:Nat):Int)=x by omega];exact Zbl F (by omega) (by omega) hx
theorem Zhb {k:Nat}(hk:k<m) {x:Int}:MetTo f (k+1) x↔MetTo f k x\/(leastB f k=true/\x∈orb f (k:Int)):=by
 constructor
 ·rintro⟨e,he,hx⟩
  by_cases hek:e=k
  ·subst hek
   by_cases hl:leastB f e=true
   ·exact .inr ⟨hl,hx⟩
   ·obtain⟨e',he',hx'⟩:=(Zeg F hk).mpr (Wcc.mpr hl)
    exact .inl ⟨e',he',Za1 F (by omega) (by omega) hx' hx⟩
  ·exact .inl ⟨e,by omega,hx⟩
 ·rintro(⟨e,he,hx⟩|⟨_,hx⟩)
  ·exact⟨e,by omega,hx⟩
  ·exact⟨k,by omega,hx⟩
theorem Znf {k:Nat}(hk:k<=m) {x:Int}(h0:0<=x) (h1:x<(m:Int)) (j:Nat):MetTo f k (iter f x j)↔MetTo f k x:=by
 have hj:=Zcs F h0 h1 j;constructor
 ·rintro⟨e,he,hx⟩
  exact⟨e,he,Za1 F (by omega) (by omega) hx<|Zbl F h0 h1<|Zbv F h0 h1 j⟩
 ·rintro⟨e,he,hx⟩
  exact⟨e,he,Za1 F (by omega) (by omega) hx<|Zbv F h0 h1 j⟩
theorem Zhv {x:Int}(h0:0<=x) (h1:x<(m:Int)):∃e:Nat,e<m/\leastB f e=true/\(e:Int)∈orb f x/\∀r∈facesTo f m,x∈r↔r=orb f (e:Int):=by
 obtain⟨y,hy,hle⟩:=Zdb (orb f x) (by obtain⟨l,e⟩:=Zmy F h0 h1;rw[e];simp);have r:=Zg1 F h0 h1 hy;have ey:((y.toNat:Nat):Int)=y:=by omega
 have hl:leastB f y.toNat=true:=by
  unfold leastB;rw[decide_eq_true_iff,ey];exact λz hz=>hle z<|Za1 F h0 h1 hy hz
 refine⟨y.toNat,by omega,hl,by rw[ey];exact hy,λq hq=>?_⟩;unfold facesTo at hq;obtain⟨e,he,rfl⟩:=Wa3.mp hq;rw[Wai,Wav]at he;rw[ey];constructor
 ·intro hx
  have h2:y∈orb f (e:Int):=Za1 F (by omega) (by omega) hx hy;have h3:(e:Int)∈orb f x:=Zbl F (by omega) (by omega) hx;have a:=hle _ h3;have b:(e:Int)<=y:=by
   have:=he.2;unfold leastB at this;exact of_decide_eq_true this y h2
  rw[show (e:Int)=y by omega]
 ·intro q
  rw[q];exact Zbl F h0 h1 hy
theorem Zjy {e:Nat}(he:e<m) (hl:leastB f e=true):orb f (e:Int)∈facesTo f m:=by
 unfold facesTo;exact Wa3.mpr ⟨e,by rw[Wai,Wav];exact⟨he,hl⟩,rfl⟩
end
theorem Zbs {r:List Int}{x:Int}(h:x∈r):nextIn r x∈r:=by
 obtain⟨h1,_,_⟩:=Zb0 h;have hm:(r.idxOf x+1) % r.length<r.length:=Wew _ (by omega);unfold nextIn;rw[Wac,Waa hm];exact Wa0 hm
theorem Znk {r:List Int}(nd:r.Nodup) {x y:Int}(hx:x∈r) (hy:y∈r) (h:nextIn r x=nextIn r y):x=y:=by
 obtain⟨i,hi⟩:=Wbx.mp hx;obtain⟨j,hj⟩:=Wbx.mp hy;obtain⟨i1,i2⟩:=Wah.mp hi;obtain⟨j1,j2⟩:=Wah.mp hj;rw[Zed nd hi,Zed nd hj,Wac,Wac]at h;have a:nxI r.length i<r.length:=by unfold nxI;split <;> omega
 have b:nxI r.length j<r.length:=by unfold nxI;split <;> omega
 rw[Waa a,Waa b]at h;have e:=(Wdx nd).mp (show r[nxI r.length i]=r[nxI r.length j] from h);have:i=j:=by unfold nxI at e;split at e <;> split at e <;> omega
 subst this;rw[hi]at hj;exact Wba.inj hj
theorem Zbp (e:Nat):partner (partner e)=e:=by unfold partner;split <;> split <;> omega
def onI (ts:List (Int × Int)) (o:List (List Int)) (x:Int):Int:=folOf ts o<|partner x.toNat
theorem Zc5 {n:Int}{ts:List (Int × Int)}{o:List (List Int)}(hW:WebOk n ts) (hO:OrdOk n ts o) {e:Nat}(he:e<2*ts.length):∃g:Nat,g<2*ts.length/\placeAt ts g=placeAt ts e/\(g:Int)=folOf ts o e:=by
 obtain⟨g1,g2,g3⟩:=Zb1 hW hO he;exact g2.mem.mp<|Zbs g3
theorem Zcm {n:Int}{ts:List (Int × Int)}{o:List (List Int)}(hW:WebOk n ts) (hO:OrdOk n ts o):OneOne (onI ts o) (2*ts.length):=by
 refine⟨λx h0 h1=>?_,λx y h0 h1 h2 h3 q=>?_⟩
 ·obtain⟨g,hg,_,e⟩:=Zc5 hW hO (Zbo (show x.toNat<2*ts.length by omega))
  unfold onI;rw[<- e];omega
 ·have hx:=Zbo (show x.toNat<2*ts.length by omega)
  have hy:=Zbo (show y.toNat<2*ts.length by omega);obtain⟨g,hg,pg,eg⟩:=Zc5 hW hO hx;obtain⟨k,hk,pk,ek⟩:=Zc5 hW hO hy;unfold onI at q;have egk:g=k:=by omega
  subst egk;have hp:placeAt ts (partner x.toNat)=placeAt ts (partner y.toNat):=pg.symm.trans pk;obtain⟨_,r2,r3⟩:=Zb1 hW hO hx;obtain⟨_,_,r6⟩:=Zb1 hW hO hy;have er:rowAt ts o (partner y.toNat)=rowAt ts o (partner x.toNat):=by unfold rowAt;rw[hp]
  unfold folOf at q;rw[er]at q r6;have:=Znk r2.nodup r3 r6 q;have e1:partner x.toNat=partner y.toNat:=by omega
  have e2:=congrArg partner e1;rw[Zbp,Zbp]at e2;omega
def lone (o:List (List Int)):Nat:=(o.filter λr=>r.isEmpty).length
theorem Zl0 (o:List (List Int)):lone o<=o.length:=Wcg _ _
theorem Zkm (o:List (List Int)) (p:D->Bool) (hp:∀r:List Int,p (rowD r)=r.isEmpty) (g:D->D) (hg:∀d,g d=.tup []):((o.map rowD).filter p).map g=(Wal (lone o) ([]:List Int)).map rowD:=by
 unfold lone
 induction o with
 |nil=>rfl
 |cons r o ih=>
  rw[Wbg,Wbs,Wbs,hp];cases h:r.isEmpty with
  |true=>simp only[if_true];rw[Wbg,Wat,Wdj,Wbg,ih,hg];rfl
  |false=>simp only[Wbh,if_false];exact ih
theorem OrdOk.flat_eq {n:Int}{ts:List (Int × Int)}{o:List (List Int)}(hW:WebOk n ts) (h:OrdOk n ts o):o.flatten.length=2*ts.length:=by
 have h1:=h.flat_len;have h2:=Zct (l:=(Wap (2*ts.length)).map λe:Nat=>(e:Int)) (m:=o.flatten) ?_ λx hx=>by
  obtain⟨e,he,rfl⟩:=Wa3.mp hx;rw[Wav]at he;obtain⟨g1,g2,g3⟩:=Zb1 hW h he;exact Wcm.mpr ⟨_,Way g1,g3⟩
 ·rw[Wab,Wbq]at h2;omega
 ·refine List.Pairwise.map _ (λa b q=>?_) Wea
  intro e;exact q (by omega)
def fLeastL:DSp:=λds Post=>∃ns:List Int,ds=[.lst (ns.map .int)]/\0<ns.length/\ns.length<=100/\∀m,m∈ns->(∀a∈ns,m<=a)->Post (rowD<|rotAt ns<|ns.idxOf m)
def fFaceOf:DSp:=λds Post=>∃n ts o,∃e:Nat,ds=[encWeb n ts,encOrd o,.int e]/\WebOk n ts/\OrdOk n ts o/\e<2*ts.length/\∀g:Nat,g<2*ts.length->leastB (onI ts o) g=true->(g:Int)∈orb (onI ts o) e->Post (rowD<|orb (onI ts o) g)
noncomputable def allF (ts:List (Int × Int)) (o:List (List Int)):List (List Int):=Wal (lone o) []++facesTo (onI ts o) (2*ts.length)
def fFaces:NSp:=λds Post=>∃n ts o,ds=[encWeb n ts,encOrd o]/\WebOk n ts/\OrdOk n ts o/\Post ((allF ts o).map rowD)
theorem Zfl {n:Int}{ts:List (Int × Int)}{o:List (List Int)}(hW:WebOk n ts) (hO:OrdOk n ts o):(allF ts o).length<=100:=by
 unfold allF;rw[Wan,Wa8];have:=Zft (onI ts o) (2*ts.length);have:=Zl0 o;have:=hO.len;have:=hW.hi;have:=hW.len;omega
theorem Zp8 {n:Int}{ts:List (Int × Int)}{o:List (List Int)}(hW:WebOk n ts) (hO:OrdOk n ts o):∀r∈allF ts o,r.length<=48:=by
 intro r hr;unfold allF at hr;rcases Wbd.mp hr with h|h
 ·rw[(Wda.mp h).2];simp
 ·unfold facesTo at h
  obtain⟨e,he,rfl⟩:=Wa3.mp h;rw[Wai,Wav]at he;have:=Zoz (Zcm hW hO) (e:=(e:Int)) (by omega) (by omega);have:=hW.len;omega
def loI (a b:Int):Int:=if b<a then b else a
def hiI (a b:Int):Int:=if b > a then b else a
def mergeL (l:List Int) (a b:Int):List Int:=l.map λf=>if f=hiI (l.getD a.toNat 0) (l.getD b.toNat 0) then loI (l.getD a.toNat 0) (l.getD b.toNat 0) else f
def marksL (n:Nat) (ts:List (Int × Int)):List Int:=ts.foldl (λl t=>mergeL l t.1 t.2) ((Wap n).map λi:Nat=>(i:Int))
theorem Zip (l:List Int) (a b:Int):(mergeL l a b).length=l.length:=by unfold mergeL;rw[Wab]
theorem Zbh (n:Nat) (ts:List (Int × Int)):(marksL n ts).length=n:=by
 unfold marksL;have:∀(ts:List (Int × Int)) (l:List Int),(ts.foldl (λl t=>mergeL l t.1 t.2) l).length=l.length:=by
  intro ts
  induction ts with
  |nil=>intro l;rfl
  |cons t ts ih=>intro l;rw[List.foldl_cons,ih,Zip]
 rw[this,Wab,Wbq]
theorem Zc6 {n:Nat}{ts:List (Int × Int)}{i:Nat}{t:Int × Int}(h:ts[i]?=some t):marksL n (ts.take<|i+1)=mergeL (marksL n<|ts.take i) t.1 t.2:=by
 unfold marksL;rw[Wca,h,List.foldl_append];rfl
def Firsts (ms l:List Int):Prop:=ms.Pairwise (· < ·)/\∀x,x∈ms↔x∈l
theorem Zdq:∀{ms ms':List Int},ms.Pairwise (· < ·)->ms'.Pairwise (· < ·)->(∀x,x∈ms↔x∈ms')->ms=ms'
 |[],[],_,_,_=>rfl
 |[],y::l',_,_,h=>by have:=(h y).mpr (by simp);simp at this
 |x::l,[],_,_,h=>by have:=(h x).mp (by simp);simp at this
 |x::l,y::l',h1,h2,h=>by
  rw[Wer]at h1 h2;have exy:x=y:=by
   have a:=(h x).mp (by simp);have b:=(h y).mpr (by simp);rcases Waq.mp a with z|z
   ·exact z
   ·rcases Waq.mp b with z'|z'
    ·exact z'.symm
    ·have:=h1.1 _ z'
     have:=h2.1 _ z;omega
  subst exy;rw[Zdq h1.2 h2.2 λz=>?_];constructor
  ·intro hz
   have:=h1.1 _ hz;rcases Waq.mp ((h z).mp (Wau _ hz)) with q|q
   ·omega
   ·exact q
  ·intro hz
   have:=h2.1 _ hz;rcases Waq.mp ((h z).mpr (Wau _ hz)) with q|q
   ·omega
   ·exact q
theorem Firsts.uniq {ms ms' l:List Int}(h:Firsts ms l) (h':Firsts ms' l):ms=ms':=Zdq h.1 h'.1 λx=>(h.2 x).trans (h'.2 x).symm
theorem Zgr:∀{ms l:List Int},ms.Nodup->(∀x∈ms,x∈l)->ms.length<=l.length
 |[],_,_,_=>by simp
 |x::ms,l,h1,h2=>by
  rw[Wbf]at h1;have hx:=h2 x (by simp);have:=Zgr (ms:=ms) (l:=l.erase x) h1.2 λy hy=>(List.mem_erase_of_ne λz:y=x=>h1.1 (z ▸ hy)).mpr (h2 y (by simp[hy]));rw[List.length_erase_of_mem hx]at this;have:=Wco hx;rw[Wat];omega
theorem Firsts.len {ms l:List Int}(h:Firsts ms l):ms.length<=l.length:=Zgr (h.1.imp λz=>Int.ne_of_lt z) λx hx=>(h.2 x).mp hx
def partI (l:List Int) (n:Nat) (f:Int):List Int:=((Wap n).map λi:Nat=>(i:Int)).filter λp=>decide (l.getD p.toNat 0=f)
def lstI (r:List Int):D:=.lst<|r.map .int
def partsL (n:Nat) (ts:List (Int × Int)) (ms:List Int):List (List Int):=ms.map<|partI (marksL n ts) n
def fParts:NSp:=λds Post=>∃n ts,ds=[encWeb n ts]/\WebOk n ts/\∀ms,Firsts ms (marksL n.toNat ts)->Post ((partsL n.toNat ts ms).map lstI)
theorem Zuh (l:List Int) (n:Nat) (f:Int) (p:D->Bool) (hp:∀i:Int,p (.int i)=decide (l.getD i.toNat 0=f)) (g:D->D) (hg:∀d,g d=d):D.lst (((rngD 0 n).filter p).map g)=lstI (partI l n f):=by
 have e1:rngD 0 n=((Wap n).map λi:Nat=>(i:Int)).map D.int:=by
  unfold rngD;rw[Wbb];apply Wb8;intro i _;show D.int (0+(i:Int))=D.int (i:Int);rw[Wb1]
 unfold lstI partI;rw[e1,Wb4,show g=id from funext hg,Wel];have e2:(p∘D.int)=λq:Int=>decide (l.getD q.toNat 0=f):=funext hp;rw[e2]
theorem Zra {n:Nat}{l ms:List Int}(q:D->Bool) (hq:∀d,q d=true) (g:D->D) (hg:∀f:Int,g (.int f)=lstI (partI l n f)):((ms.map D.int).filter q).map g=(ms.map<|partI l n).map lstI:=by
 rw[Wbl.mpr (λd _=>hq d),Wbb,Wbb];apply Wb8;intro f _;exact hg f
section
variable {f:Int->Int}{m:Nat}(F:OneOne f m)
include F
theorem Zc7:(facesTo f m).flatten.Nodup:=by
 unfold List.Nodup;rw[List.pairwise_flatten];refine⟨λr hr=>?_,?_⟩
 ·unfold facesTo at hr
  obtain⟨e,he,rfl⟩:=Wa3.mp hr;rw[Wai,Wav]at he;exact Zf5 F (by omega) (by omega)
 ·unfold facesTo
  rw[Wb6,Wb2];intro i j hi hj hij x hx y hy hxy;subst hxy;have mi:=Wai.mp<|Wa0 hi;have mj:=Wai.mp<|Wa0 hj;rw[Wav]at mi mj;have pw:((Wap m).filter (leastB f)).Pairwise (· < ·):=List.Pairwise.filter _ Wci;have hlt:=Wb2.mp pw i j hi hj hij;generalize ((Wap m).filter (leastB f))[i]=a at *;generalize ((Wap m).filter (leastB f))[j]=b at *;have hb:(a:Int)∈orb f (b:Int):=Za1 F (by omega) (by omega) hy<|Zbl F (by omega) (by omega) hx;have:=of_decide_eq_true (show decide (∀x∈orb f (b:Int),(b:Int)<=x)=true from mj.2) _ hb;omega
theorem Zgp:(facesTo f m).flatten.Perm ((Wap m).map λe:Nat=>(e:Int)):=by
 rw[Wcr (Zc7 F)]
 ·intro x
  rw[Wcm,Wa3];constructor
  ·rintro⟨r,hr,hx⟩
   unfold facesTo at hr;obtain⟨e,he,rfl⟩:=Wa3.mp hr;rw[Wai,Wav]at he;have:=Zg1 F (by omega) (by omega) hx;exact⟨x.toNat,Wav.mpr (by omega),by omega⟩
  ·rintro⟨e,he,rfl⟩
   rw[Wav]at he;obtain⟨g,hg,hl,hm,ha⟩:=Zhv F (x:=(e:Int)) (by omega) (by omega);exact⟨_,Zjy F hg hl,(ha _<|Zjy F hg hl).mpr rfl⟩
 ·refine List.Pairwise.map _ (λa b q=>?_) Wea
  intro e;exact q (by omega)
end
theorem Zqs (ts:List (Int × Int)) (o:List (List Int)):(allF ts o).flatten=(facesTo (onI ts o) (2*ts.length)).flatten:=by
 unfold allF;rw[List.flatten_append];have:∀z:Nat,(Wal z ([]:List Int)).flatten=[]:=λz=>by induction z with
  |zero=>rfl
  |succ z ih=>rw[Wdj,Wbw,ih];rfl
 rw[this,Wdm]
theorem Zee (l:List Int) (a b:Int) {p:Nat}(hp:p<l.length):(mergeL l a b).getD p 0=if l.getD p 0=hiI (l.getD a.toNat 0) (l.getD b.toNat 0) then loI (l.getD a.toNat 0) (l.getD b.toNat 0) else l.getD p 0:=by
 unfold mergeL;rw[Wac,Wad,Waa hp,Wac (l:=l) (i:=p),Waa hp];rfl
theorem lohi (a b:Int):(a=loI a b\/a=hiI a b)/\(b=loI a b\/b=hiI a b):=by
 unfold loI hiI;constructor
 ·by_cases h:b<a
  ·right;rw[if_neg (by omega)]
  ·left;rw[if_neg h]
 ·by_cases h:b<a
  ·left;rw[if_pos h]
  ·by_cases h2:b > a
   ·right;rw[if_pos h2]
   ·left;rw[if_neg h];omega
theorem Zon (l:List Int) {t:Int × Int}(h1:t.1.toNat<l.length) (h2:t.2.toNat<l.length):(mergeL l t.1 t.2).getD t.1.toNat 0=loI (l.getD t.1.toNat 0) (l.getD t.2.toNat 0)/\(mergeL l t.1 t.2).getD t.2.toNat 0=loI (l.getD t.1.toNat 0) (l.getD t.2.toNat 0):=by
 obtain⟨a,b⟩:=lohi (l.getD t.1.toNat 0)<|l.getD t.2.toNat 0;rw[Zee _ _ _ h1,Zee _ _ _ h2];constructor
 ·split
  ·rfl
  ·rename_i h;rcases a with a|a
   ·exact a
   ·exact absurd a h
 ·split
  ·rfl
  ·rename_i h;rcases b with b|b
   ·exact b
   ·exact absurd b h
section
variable {N:Nat}{ts:List (Int × Int)}(hW:WebOk (N:Int) ts)
include hW
theorem Zh7:∀i,i<=ts.length->∀t∈ts.take i,(marksL N<|ts.take i).getD t.1.toNat 0=(marksL N<|ts.take i).getD t.2.toNat 0
 |0,_,t,ht=>by simp at ht
 |i+1,hi,t,ht=>by
  have hlt:i<ts.length:=hi;have z:=Waa hlt;rw[Zc6 z];have hl:=Zbh N<|ts.take i;have hu:=hW.tie _<|Wa0 hlt;rw[Wca,z]at ht;rcases Wbd.mp ht with h|h
  ·have ih:=Zh7 i (by omega) t h
   have hr:=hW.tie t<|List.mem_of_mem_take h;rw[Zee _ _ _ (by omega),Zee _ _ _ (by omega),ih]
  ·have e:t=ts[i]:=by simpa using h
   subst e;obtain⟨a,b⟩:=Zon (marksL N<|ts.take i) (t:=ts[i]) (by omega) (by omega);rw[a,b]
theorem Znb {t:Int × Int}(ht:t∈ts):(marksL N ts).getD t.1.toNat 0=(marksL N ts).getD t.2.toNat 0:=by
 have:=Zh7 hW ts.length (Wak _) t (by rw[Wbv];exact ht);rw[Wbv]at this;exact this
end
theorem Zh6 {l:List Int}{n:Nat}{g x:Int}:x∈partI l n g↔0<=x/\x<(n:Int)/\l.getD x.toNat 0=g:=by
 unfold partI;rw[Wai,Wa3,decide_eq_true_iff];constructor
 ·rintro⟨⟨i,hi,rfl⟩,h⟩
  rw[Wav]at hi;exact⟨by omega,by omega,h⟩
 ·rintro⟨h0,h1,h⟩
  exact⟨⟨x.toNat,Wav.mpr (by omega),by omega⟩,h⟩
section
variable {N:Nat}{ts:List (Int × Int)}{o:List (List Int)}(hW:WebOk (N:Int) ts) (hO:OrdOk (N:Int) ts o)
include hW
theorem Zko {e:Nat}(he:e<2*ts.length):(marksL N ts).getD (placeAt ts<|partner e).toNat 0=(marksL N ts).getD (placeAt ts e).toNat 0:=by
 have hk:e / 2<ts.length:=by omega
 have z:=Waa hk;have ht:=Znb hW<|Wa0 hk;have e2:partner e / 2=e / 2:=by unfold partner;split <;> omega
 unfold placeAt;rw[e2,z];dsimp only;by_cases h:e % 2=0
 ·rw[if_pos h,if_neg (by unfold partner;rw[if_pos h];omega)];exact ht.symm
 ·rw[if_neg h,if_pos (by unfold partner;rw[if_neg h];omega)];exact ht
include hO
theorem Zuv {x:Int}(h0:0<=x) (h1:x<((2*ts.length:Nat):Int)):(marksL N ts).getD (placeAt ts (onI ts o x).toNat).toNat 0=(marksL N ts).getD (placeAt ts x.toNat).toNat 0:=by
 have hx:x.toNat<2*ts.length:=by omega
 obtain⟨g,hg,pg,eg⟩:=Zc5 hW hO<|Zbo hx;unfold onI;rw[<- eg,Wae,pg];exact Zko hW hx
theorem Zti {x y:Int}(h0:0<=x) (h1:x<((2*ts.length:Nat):Int)) (hy:y∈orb (onI ts o) x):(marksL N ts).getD (placeAt ts y.toNat).toNat 0=(marksL N ts).getD (placeAt ts x.toNat).toNat 0:=by
 obtain⟨j,hj,rfl⟩:=Zba.mp hy;clear hy hj
 induction j with
 |zero=>rfl
 |succ j ih=>
  have r:=Zcs (Zcm hW hO) h0 h1 j;show (marksL N ts).getD (placeAt ts (onI ts o<|iter (onI ts o) x j).toNat).toNat 0=_;rw[Zuv hW hO r.1 r.2];exact ih
include hW hO
theorem Zor:(allF ts o).length=lone o+((Wap (2*ts.length)).filter λe=>leastB (onI ts o) e && true).length:=by
 unfold allF facesTo;rw[Wan,Wa8,Wab];congr 3
 funext e
 rw[Wd7]
end
theorem Zj6 {l:List Int}{a b:Int}(h:l.getD a.toNat 0=l.getD b.toNat 0):mergeL l a b=l:=by
 unfold mergeL
 conv=>rhs;rw[<- Wel l]
 apply Wb8;intro f _;have e1:hiI (l.getD a.toNat 0) (l.getD b.toNat 0)=l.getD a.toNat 0:=by rw[<- h];unfold hiI;split <;> rfl
 have e2:loI (l.getD a.toNat 0) (l.getD b.toNat 0)=l.getD a.toNat 0:=by rw[<- h];unfold loI;split <;> rfl
 rw[e1,e2];split
 ·rename_i z;exact z.symm
 ·rfl
structure Goes (N:Nat) (l l':List Int) (lo hi:Int):Prop where
 len:l.length=N
 len':l'.length=N
 lt:lo<hi
 inL:lo∈l
 inH:hi∈l
 to:∀p:Nat,p<N->l'.getD p 0=if l.getD p 0=hi then lo else l.getD p 0
theorem Zgn {N:Nat}{l:List Int}{t:Int × Int}(hl:l.length=N) (h1:t.1.toNat<N) (h2:t.2.toNat<N) (hne:l.getD t.1.toNat 0≠l.getD t.2.toNat 0) :
  Goes N l (mergeL l t.1 t.2) (loI (l.getD t.1.toNat 0)<|l.getD t.2.toNat 0) (hiI (l.getD t.1.toNat 0)<|l.getD t.2.toNat 0):=by
 have m1:l.getD t.1.toNat 0∈l:=by rw[Wac,Waa (by omega:t.1.toNat<l.length)];exact Wa0 _
 have m2:l.getD t.2.toNat 0∈l:=by rw[Wac,Waa (by omega:t.2.toNat<l.length)];exact Wa0 _
 refine⟨hl,by rw[Zip,hl],?_,?_,?_,λp hp=>Zee _ _ _<|by omega⟩
 ·unfold loI hiI;split <;> split <;> omega
 ·unfold loI;split
  ·exact m2
  ·exact m1
 ·unfold hiI;split
  ·exact m2
  ·exact m1
section
variable {N:Nat}{l l' ms ms':List Int}{lo hi:Int}(G:Goes N l l' lo hi)
theorem Zug {l:List Int}{x:Int}(h:x∈l):∃p:Nat,p<l.length/\l.getD p 0=x:=by
 obtain⟨p,hp,rfl⟩:=List.getElem_of_mem h;exact⟨p,hp,by rw[Wac,Waa hp];rfl⟩
theorem Zpb {l:List Int}{p:Nat}(h:p<l.length):l.getD p 0∈l:=by
 rw[Wac,Waa h];exact Wa0 h
include G
theorem Goes.mem {x:Int}:x∈l'↔x∈l/\x≠hi:=by
 have h1:=G.len;have h2:=G.len';have h3:=G.lt;constructor
 ·intro h
  obtain⟨p,hp,e⟩:=Zug h;rw[G.to p (by omega)]at e;split at e
  ·rw[<- e];exact⟨G.inL,by omega⟩
  ·rename_i z
   rw[<- e];exact⟨Zpb (by omega),z⟩
 ·rintro⟨h,hne⟩
  obtain⟨p,hp,e⟩:=Zug h;have:l'.getD p 0=x:=by rw[G.to p (by omega),e,if_neg hne]
  rw[<- this];exact Zpb (by omega)
theorem Goes.firsts (h:Firsts ms l) (h':Firsts ms' l'):ms'=ms.filter λg=>decide (g≠hi):=by
 refine Zdq h'.1 (List.Pairwise.filter _ h.1) λx=>?_;rw[h'.2,Wai,decide_eq_true_iff,h.2];exact G.mem
omit G in
theorem Zmx {ms:List Int}{lo:Int}(h1:ms.Pairwise (· < ·)) (h3:lo∈ms):(ms.filter λg=>decide (g=lo))=[lo]:=by
 refine Zdq (List.Pairwise.filter _ h1) (by simp) λx=>?_;rw[Wai,decide_eq_true_iff,Wa7];exact⟨λh=>h.2,λh=>⟨h ▸ h3,h⟩⟩
omit G in
theorem Zbn {α:Type}(p:α -> Bool):∀l:List α,l.length=(l.filter p).length+(l.filter λx=>!p x).length
 |[]=>rfl
 |x::l=>by
  have ih:=Zbn p l;rw[Wbs,Wbs];cases h:p x with
  |true=>simp only[if_true,Wet,Wbh,if_false,Wat];omega
  |false=>simp only[if_true,Bool.not_false,Wbh,if_false,Wat];omega
theorem Goes.count (h:Firsts ms l) (h':Firsts ms' l'):ms.length=ms'.length+1:=by
 rw[G.firsts h h'];have e:=Zmx h.1 ((h.2 _).mpr G.inH);have q:=Zbn (λg:Int=>decide (g=hi)) ms;rw[e,Wbt]at q;have e2:(ms.filter λg=>!decide (g=hi))=ms.filter λg=>decide (g≠hi):=by
  apply Wa9;intro g _;by_cases c:g=hi
  ·rw[decide_eq_true c,decide_eq_false (by simpa using c)];rfl
  ·rw[decide_eq_false c,decide_eq_true c];rfl
 rw[e2]at q;omega
end
theorem Zdk {f:Int->Int}{e:Int}{S:Int->Prop}(h:S e) (hc:∀x,S x->S (f x)):∀y∈orb f e,S y:=by
 intro y hy;obtain⟨j,hj,rfl⟩:=Zba.mp hy;clear hj hy
 induction j with
 |zero=>exact h
 |succ j ih=>exact hc _ ih
def swapF (f:Int->Int) (a b:Int) (x:Int):Int:=if x=a then f b else if x=b then f a else f x
theorem Zf8 (f:Int->Int) (a b:Int):swapF f a b a=f b:=by unfold swapF;rw[if_pos rfl]
theorem Zgx (f:Int->Int) (a b:Int):swapF f a b b=f a:=by
 unfold swapF;by_cases h:b=a
 ·rw[if_pos h,h]
 ·rw[if_neg h,if_pos rfl]
theorem Zey {f:Int->Int}{a b x:Int}(h1:x≠a) (h2:x≠b):swapF f a b x=f x:=by unfold swapF;rw[if_neg h1,if_neg h2]
theorem Zpu (f:Int->Int) (a b:Int):swapF (swapF f a b) a b=f:=by
 funext x
 by_cases h1:x=a
 ·subst h1;rw[Zf8,Zgx]
 ·by_cases h2:x=b
  ·subst h2;rw[Zgx,Zf8]
  ·rw[Zey h1 h2,Zey h1 h2]
theorem Zen {f:Int->Int}{m:Nat}(F:OneOne f m) {a b:Int}(a0:0<=a) (a1:a<(m:Int)) (b0:0<=b) (b1:b<(m:Int)):OneOne (swapF f a b) m:=by
 refine⟨λx h0 h1=>?_,λx y x0 x1 y0 y1 q=>?_⟩
 ·unfold swapF
  split
  ·exact F.to _ b0 b1
  ·split
   ·exact F.to _ a0 a1
   ·exact F.to _ h0 h1
 ·-- the preimage through the exchange
  have key:∀z:Int,∃z',swapF f a b z=f z' /\ (z=a->z'=b)/\(z=b->z'=a)/\(z≠a->z≠b->z'=z):=λz=>by
   by_cases h1:z=a
   ·refine⟨b,by rw[h1,Zf8],λ_=>rfl,λh=>?_,λh=>absurd h1 h⟩
    rw[<- h,h1]
   ·by_cases h2:z=b
    ·exact⟨a,by rw[h2,Zgx],λh=>absurd h h1,λ_=>rfl,λ_ h=>absurd h2 h⟩
    ·exact⟨z,Zey h1 h2,λh=>absurd h h1,λh=>absurd h h2,λ_ _=>rfl⟩
  obtain⟨x',ex,xa,xb,xo⟩:=key x;obtain⟨y',ey,ya,yb,yo⟩:=key y;have rx:0<=x' /\ x'<(m:Int):=by
   by_cases h1:x=a
   ·rw[xa h1];exact⟨b0,b1⟩
   ·by_cases h2:x=b
    ·rw[xb h2];exact⟨a0,a1⟩
    ·rw[xo h1 h2];exact⟨x0,x1⟩
  have ry:0<=y' /\ y'<(m:Int):=by
   by_cases h1:y=a
   ·rw[ya h1];exact⟨b0,b1⟩
   ·by_cases h2:y=b
    ·rw[yb h2];exact⟨a0,a1⟩
    ·rw[yo h1 h2];exact⟨y0,y1⟩
  have e:=F.inj x' y' rx.1 rx.2 ry.1 ry.2 (by rw[<- ex,<- ey];exact q);by_cases h1:x=a
  ·by_cases h2:y=a
   ·rw[h1,h2]
   ·by_cases h3:y=b
    ·have:=xa h1;have:=yb h3;omega
    ·have:=xa h1;have:=yo h2 h3;omega
  ·by_cases h1':x=b
   ·by_cases h2:y=a
    ·have:=xb h1';have:=ya h2;omega
    ·by_cases h3:y=b
     ·rw[h1',h3]
     ·have:=xb h1';have:=yo h2 h3;omega
   ·have hx:=xo h1 h1'
    by_cases h2:y=a
    ·have:=ya h2;omega
    ·by_cases h3:y=b
     ·have:=yb h3;omega
     ·have:=yo h2 h3;omega
noncomputable def cnt (f:Int->Int) (m:Nat) (Pd:Nat->Bool):Nat:=((Wap m).filter λe=>leastB f e && Pd e).length
section
variable {f:Int->Int}{m:Nat}(F:OneOne f m)
include F
theorem Zh2 {x:Int}(h0:0<=x) (h1:x<(m:Int)) (p:Nat->Bool) (hp:∀e:Nat,e<m->(p e=true↔(e:Int)∈orb f x)):((Wap m).filter λe=>leastB f e && p e).length=1:=by
 obtain⟨g,hg,hl,hin,_⟩:=Zhv F h0 h1;have mem:∀e,e∈((Wap m).filter λe=>leastB f e && p e)↔e=g:=λe=>by
  rw[Wai,Wav,Wbj];constructor
  ·rintro⟨he,l1,l2⟩
   have l2:=(hp e he).mp l2;have m1:=Za1 F (by omega) (by omega) (Zbl F h0 h1 l2) hin;have m2:=Za1 F (by omega) (by omega) (Zbl F h0 h1 hin) l2;have a:=of_decide_eq_true (show decide (∀z∈orb f (e:Int),(e:Int)<=z)=true from l1) _ m1;have b:=of_decide_eq_true (show decide (∀z∈orb f (g:Int),(g:Int)<=z)=true from hl) _ m2;omega
  ·rintro rfl
   exact⟨hg,hl,(hp e hg).mpr hin⟩
 have nd:((Wap m).filter λe=>leastB f e && p e).Nodup:=List.Pairwise.filter _ Wea;have a:=Zct (m:=[g]) nd λe he=>by rw[Wa7];exact(mem e).mp he
 have b:=Wco ((mem g).mpr rfl);rw[Wbt]at a;omega
theorem Zqg {g:Int->Int}{S:Int->Prop}(hS:∀x,0<=x->x<(m:Int)->¬ S x->g x=f x) (hc:∀x,0<=x->x<(m:Int)->¬ S x->¬ S (f x)) (G:OneOne g m) {e:Int}(h0:0<=e) (h1:e<(m:Int)) (hn:¬ S e):∀y,y∈orb g e↔y∈orb f e:=by
 have it:∀j,iter g e j=iter f e j/\¬ S (iter f e j):=λj=>by
  induction j with
  |zero=>exact⟨rfl,hn⟩
  |succ j ih=>
   have r:=Zcs F h0 h1 j;refine⟨?_,hc _ r.1 r.2 ih.2⟩;show g (iter g e j)=f (iter f e j);rw[ih.1,hS _ r.1 r.2 ih.2]
 intro y;constructor
 ·intro hy
  obtain⟨j,_,rfl⟩:=Zba.mp hy;rw[(it j).1];exact Zbv F h0 h1 j
 ·intro hy
  obtain⟨j,_,rfl⟩:=Zba.mp hy;rw[<- (it j).1];exact Zbv G h0 h1 j
end
section
variable {f:Int->Int}{m:Nat}(F:OneOne f m) {a b:Int}(a0:0<=a) (a1:a<(m:Int)) (b0:0<=b) (b1:b<(m:Int)) (hab:a≠b) (hin:b∈orb f a)
include F a0 a1 b0 b1 hab hin
theorem halves:∃j,0<j/\j<per f a/\iter f a j=b/\(∀y,y∈orb (swapF f a b) b ↔ ∃i,1<=i/\i<=j/\iter f a i=y)/\(∀y,y∈orb (swapF f a b) a ↔ ∃i,(i=0\/j<i)/\i<per f a/\iter f a i=y):=by
 have O:=Zdz F a0 a1;have G:=Zen F a0 a1 b0 b1;obtain⟨j,hj,ej⟩:=Zba.mp hin;have hj0:0<j:=by
  rcases Weu j with z|z
  ·rw[z]at ej;exact absurd ej hab
  ·exact z
 have nea:∀i,0<i->i<per f a->iter f a i≠a:=λi h1 h2 q=>by
  have:=O.nd i 0 h2 O.pos q;omega
 have neb:∀i,i≠j->i<per f a->iter f a i≠b:=λi h1 h2 q=>by
  have:=O.nd i j h2 hj<|q.trans ej.symm;omega
 have up1:∀i,1<=i->i<=j->iter (swapF f a b) b i=iter f a i:=λi h1 h2=>by
  induction i with
  |zero=>omega
  |succ i ih=>
   cases i with
   |zero=>exact Zgx f a b
   |succ i=>
    show swapF f a b (iter (swapF f a b) b<|i+1)=f (iter f a<|i+1);rw[ih (by omega) (by omega),Zey (nea _ (by omega)<|by omega) (neb _ (by omega)<|by omega)]
 have up2:∀i,1<=i->j+i<=per f a->iter (swapF f a b) a i=iter f a (j+i):=λi h1 h2=>by
  induction i with
  |zero=>omega
  |succ i ih=>
   cases i with
   |zero=>
    show swapF f a b a=f (iter f a j);rw[Zf8,ej]
   |succ i=>
    show swapF f a b (iter (swapF f a b) a<|i+1)=f (iter f a<|j+(i+1));rw[ih (by omega) (by omega),Zey (nea _ (by omega)<|by omega) (neb _ (by omega)<|by omega)]
 refine⟨j,hj0,hj,ej,λy=>⟨λhy=>?_,?_⟩,λy=>⟨λhy=>?_,?_⟩⟩
 ·refine Zdk (S:=λy=>∃i,1<=i/\i<=j/\iter f a i=y) ⟨j,hj0,Wak _,ej⟩ (λx ⟨i,h1,h2,e⟩=>?_) y hy
  by_cases c:i=j
  ·have:x=b:=by rw[<- e,c,ej]
   exact⟨1,Wak _,hj0,by rw[this,Zgx];rfl⟩
  ·refine⟨i+1,by omega,by omega,?_⟩
   rw[<- e,Zey (nea _ (by omega)<|by omega) (neb _ c<|by omega)];rfl
 ·rintro⟨i,h1,h2,rfl⟩
  rw[<- up1 i h1 h2];exact Zbv G b0 b1 i
 ·refine Zdk (S:=λy=>∃i,(i=0\/j<i)/\i<per f a/\iter f a i=y) ⟨0,.inl rfl,O.pos,rfl⟩ (λx ⟨i,h1,h2,e⟩=>?_) y hy
  have step:∀k,j<k+1->k+1<=per f a->∃i,(i=0\/j<i)/\i<per f a/\iter f a i=f (iter f a k):=λk hk1 hk2=>by
   by_cases c:k+1=per f a
   ·refine⟨0,.inl rfl,O.pos,?_⟩
    have:=O.back;rw[<- c]at this;exact this.symm
   ·exact⟨k+1,.inr hk1,by omega,rfl⟩
  rcases h1 with h1|h1
  ·subst h1
   have:x=a:=e.symm;rw[this,Zf8,<- ej];exact step j (by omega) (by omega)
  ·rw[<- e,Zey (nea _ (by omega) h2) (neb _ (by omega) h2)]
   exact step i (by omega) (by omega)
 ·rintro⟨i,h1,h2,rfl⟩
  rcases h1 with h1|h1
  ·subst h1;exact Zda G a0 a1
  ·have:=up2 (i-j) (by omega) (by omega)
   rw[show j+(i-j)=i by omega]at this;rw[<- this];exact Zbv G a0 a1 _
theorem Zjr (Pd:Nat->Bool) (hP:∀e:Nat,(e:Int)∈orb f a->Pd e=Pd a.toNat):cnt (swapF f a b) m Pd=cnt f m Pd+(if Pd a.toNat=true then 1 else 0):=by
 have O:=Zdz F a0 a1;have G:=Zen F a0 a1 b0 b1;obtain⟨j,hj0,hj,ej,L1,L2⟩:=halves F a0 a1 b0 b1 hab hin;have whole:∀y,y∈orb f a↔y∈orb (swapF f a b) b\/y∈orb (swapF f a b) a:=λy=>by
  rw[L1,L2];constructor
  ·intro hy
   obtain⟨i,hi,e⟩:=Zba.mp hy;by_cases c:1<=i/\i<=j
   ·exact .inl ⟨i,c.1,c.2,e⟩
   ·exact .inr ⟨i,by omega,hi,e⟩
  ·rintro(⟨i,h1,h2,rfl⟩|⟨i,h1,h2,rfl⟩) <;> exact Zbv F a0 a1 i
 have apart:∀y,y∈orb (swapF f a b) b->y∈orb (swapF f a b) a->False:=λy h1 h2=>by
  obtain⟨i,i1,i2,e1⟩:=(L1 y).mp h1;obtain⟨k,k1,k2,e2⟩:=(L2 y).mp h2;have:=O.nd i k (by omega) k2<|e1.trans e2.symm;omega
 -- outside nothing changes
 have out:∀e:Nat,e<m->(e:Int) ∉ orb f a->leastB (swapF f a b) e=leastB f e:=λe he hn=>by
  have:=Zqg F (g:=swapF f a b) (S:=λx=>x∈orb f a) (λx h0 h1 hx=>Zey (λz=>hx (by rw[z];exact Zda F a0 a1)) λz=>hx (by rw[z];exact hin))
   (λx h0 h1 hx hf=>hx<|Za1 F a0 a1 hf<|Zbl F h0 h1<|Zbv F h0 h1 1) G (e:=(e:Int)) (by omega) (by omega) hn
  unfold leastB;rw[decide_eq_decide];exact⟨λh x hx=>h x ((this x).mpr hx),λh x hx=>h x ((this x).mp hx)⟩
 unfold cnt;rw[Zbn (λe:Nat=>decide ((e:Int)∈orb f a)) ((Wap m).filter λe=>leastB (swapF f a b) e && Pd e),Zbn (λe:Nat=>decide ((e:Int)∈orb f a)) ((Wap m).filter λe=>leastB f e && Pd e)];rw[Wbn,Wbn,Wbn,Wbn];have eout:(Wap m).filter (λe:Nat=>(!decide ((e:Int)∈orb f a)) && (leastB (swapF f a b) e && Pd e))=(Wap m).filter λe:Nat=>(!decide ((e:Int)∈orb f a)) && (leastB f e && Pd e):=by
  apply Wa9;intro e he;rw[Wav]at he;by_cases c:(e:Int)∈orb f a
  ·rw[decide_eq_true c];rfl
  ·rw[out e he c]
 rw[eout];by_cases hp:Pd a.toNat=true
 ·rw[if_pos hp]
  have i1:((Wap m).filter λe:Nat=>decide ((e:Int)∈orb f a) && (leastB f e && Pd e)).length=1:=by
   rw[<- Zh2 F a0 a1 (λe:Nat=>decide ((e:Int)∈orb f a)) λe he=>decide_eq_true_iff];congr 1;apply Wa9;intro e he;by_cases c:(e:Int)∈orb f a
   ·rw[decide_eq_true c,hP e c,hp,Wd7,Wcu]
   ·rw[decide_eq_false c,Wcx,Wc7]
  have i2:((Wap m).filter λe:Nat=>decide ((e:Int)∈orb f a) && (leastB (swapF f a b) e && Pd e)).length=2:=by
   rw[Zbn (λe:Nat=>decide ((e:Int)∈orb (swapF f a b) b)) ((Wap m).filter λe:Nat=>decide ((e:Int)∈orb f a) && (leastB (swapF f a b) e && Pd e)),Wbn,Wbn];have k1:=Zh2 G b0 b1 (λe:Nat=>decide ((e:Int)∈orb (swapF f a b) b)) λe he=>decide_eq_true_iff;have k2:=Zh2 G a0 a1 (λe:Nat=>decide ((e:Int)∈orb (swapF f a b) a)) λe he=>decide_eq_true_iff;have e1:(Wap m).filter (λe:Nat=>decide ((e:Int)∈orb (swapF f a b) b) && (decide ((e:Int)∈orb f a) && (leastB (swapF f a b) e && Pd e)))=(Wap m).filter λe:Nat=>leastB (swapF f a b) e && decide ((e:Int)∈orb (swapF f a b) b):=by
    apply Wa9;intro e he;by_cases c:(e:Int)∈orb (swapF f a b) b
    ·have c2:=(whole _).mpr (.inl c)
     rw[decide_eq_true c,decide_eq_true c2,hP e c2,hp,Wcu,Wcu]
    ·rw[decide_eq_false c,Wcx,Wc7]
   have e2:(Wap m).filter (λe:Nat=>(!decide ((e:Int)∈orb (swapF f a b) b)) && (decide ((e:Int)∈orb f a) && (leastB (swapF f a b) e && Pd e)))=(Wap m).filter λe:Nat=>leastB (swapF f a b) e && decide ((e:Int)∈orb (swapF f a b) a):=by
    apply Wa9;intro e he;by_cases c:(e:Int)∈orb (swapF f a b) a
    ·have c2:=(whole _).mpr (.inr c)
     have c3:(e:Int) ∉ orb (swapF f a b) b:=λz=>apart _ z c;rw[decide_eq_true c,decide_eq_false c3,decide_eq_true c2,hP e c2,hp,Bool.not_false,Wcu,Wcu]
    ·rw[decide_eq_false c,Wc7]
     by_cases c3:(e:Int)∈orb (swapF f a b) b
     ·rw[decide_eq_true c3];rfl
     ·have c4:(e:Int) ∉ orb f a:=λz=>((whole _).mp z).elim c3 c
      rw[decide_eq_false c4,Wcx,Wc7]
   rw[e1,e2,k1,k2]
  rw[i1,i2];omega
 ·rw[if_neg hp]
  have z:∀g:Int->Int,(Wap m).filter (λe:Nat=>decide ((e:Int)∈orb f a) && (leastB g e && Pd e))=[]:=λg=>by
   rw[Wed];intro e he;by_cases c:(e:Int)∈orb f a
   ·rw[hP e c,Wcc.mpr hp,Wc7,Wc7];exact Wag
   ·rw[decide_eq_false c,Wcx];exact Wag
  rw[z,z];rfl
end
section
variable {P:Program}{w:World}{K:W.Frag}{mg:Str->Option Value}{base:Heap}{f:Addr}{fd:FuncData}
theorem Zdc:∀l:List Int,∃ms,Firsts ms l
 |[]=>⟨[],.nil,λx=>Iff.rfl⟩
 |x::l=>by
  obtain⟨ms,h1,h2⟩:=Zdc l;by_cases c:x∈ms
  ·refine⟨ms,h1,λy=>?_⟩
   rw[Waq,h2];exact⟨.inr,λz=>z.elim (λq=>q ▸ (h2 x).mp c) id⟩
  ·refine⟨(ms.filter λy=>decide (y<x))++x::(ms.filter λy=>decide (x<y)),?_,λy=>?_⟩
   ·rw[List.pairwise_append,Wer]
    refine⟨List.Pairwise.filter _ h1,⟨λa ha=>?_,List.Pairwise.filter _ h1⟩,λa ha b hb=>?_⟩
    ·rw[Wai,decide_eq_true_iff]at ha;exact ha.2
    ·rw[Wai,decide_eq_true_iff]at ha
     rcases Waq.mp hb with z|z
     ·rw[z];exact ha.2
     ·rw[Wai,decide_eq_true_iff]at z;omega
   ·rw[Wbd,Waq,Waq,Wai,Wai,decide_eq_true_iff,decide_eq_true_iff,h2]
    constructor
    ·rintro(z|z|z)
     ·exact .inr z.1
     ·exact .inl z
     ·exact .inr z.1
    ·rintro(z|z)
     ·exact .inr (.inl z)
     ·rcases Int.lt_trichotomy y x with q|q|q
      ·exact .inl ⟨z,q⟩
      ·exact .inr (.inl q)
      ·exact .inr (.inr ⟨z,q⟩)
theorem Zwl {N r:Nat}(hr:r<N):(marksL N []).getD r 0=(r:Int):=by
 show ((Wap N).map λi:Nat=>(i:Int)).getD r 0=_;rw[Wac,Wad,Wc3 hr];rfl
theorem Zhy {N:Nat}{ms:List Int}(h:Firsts ms (marksL N [])):ms=(Wap N).map λi:Nat=>(i:Int):=by
 refine Zdq h.1 ?_ λx=>(h.2 x).trans Iff.rfl;rw[Wb6];exact Wci.imp λh=>by omega
end
section
variable {f:Int->Int}{m:Nat}(F:OneOne f m) {a b:Int}(a0:0<=a) (a1:a<(m:Int)) (b0:0<=b) (b1:b<(m:Int)) (hout:b ∉ orb f a)
include F a0 a1 b0 b1 hout
theorem joined:b∈orb (swapF f a b) a:=by
 have O:=Zdz F b0 b1;have G:=Zen F a0 a1 b0 b1;have nea:∀i,iter f b i≠a:=λi q=>by
  have:=Zbv F b0 b1 i;rw[q]at this;exact hout (Zbl F b0 b1 this)
 have neb:∀i,0<i->i<per f b->iter f b i≠b:=λi h1 h2 q=>by
  have:=O.nd i 0 h2 O.pos q;omega
 have up:∀i,1<=i->i<=per f b->iter (swapF f a b) a i=iter f b i:=λi h1 h2=>by
  induction i with
  |zero=>omega
  |succ i ih=>
   cases i with
   |zero=>exact Zf8 f a b
   |succ i=>
    show swapF f a b (iter (swapF f a b) a<|i+1)=f (iter f b<|i+1);rw[ih (by omega) (by omega),Zey (nea _) (neb _ (by omega)<|by omega)]
 have:=Zbv G a0 a1<|per f b;rw[up _ O.pos (Wak _),O.back]at this;exact this
theorem Zq0:∀y∈orb (swapF f a b) a,y∈orb f a\/y∈orb f b:=by
 refine Zdk (S:=λy=>y∈orb f a\/y∈orb f b) (.inl<|Zda F a0 a1) λx hx=>?_;have st:∀{e x:Int},0<=e->e<(m:Int)->x∈orb f e->f x∈orb f e:=λ{e x} e0 e1 h=>by
  have r:=Zg1 F e0 e1 h;exact Za1 F e0 e1 h<|Zbv F r.1 r.2 1
 by_cases h1:x=a
 ·rw[h1,Zf8];exact .inr<|st b0 b1<|Zda F b0 b1
 ·by_cases h2:x=b
  ·rw[h2,Zgx];exact .inl<|st a0 a1<|Zda F a0 a1
  ·rw[Zey h1 h2]
   rcases hx with hx|hx
   ·exact .inl<|st a0 a1 hx
   ·exact .inr<|st b0 b1 hx
theorem Zm0 (Pd:Nat->Bool) (hPa:∀e:Nat,(e:Int)∈orb f a->Pd e=Pd a.toNat) (hPb:∀e:Nat,(e:Int)∈orb f b->Pd e=Pd a.toNat):cnt f m Pd=cnt (swapF f a b) m Pd+(if Pd a.toNat=true then 1 else 0):=by
 have G:=Zen F a0 a1 b0 b1;have hab:a≠b:=λz=>hout (by rw[<- z];exact Zda F a0 a1);have:=Zjr G a0 a1 b0 b1 hab (joined F a0 a1 b0 b1 hout) Pd λe he=>(Zq0 F a0 a1 b0 b1 hout _ he).elim (hPa e) (hPb e);rw[Zpu]at this;exact this
end
def sgI (ts:List (Int × Int)) (o:List (List Int)) (k:Nat) (x:Int):Int:=if x.toNat / 2<k then onI ts o x else onI ts o ((partner x.toNat:Nat):Int)
section
variable {N:Nat}{ts:List (Int × Int)}{o:List (List Int)}(hW:WebOk (N:Int) ts) (hO:OrdOk (N:Int) ts o)
include hW hO
theorem Zmn:OneOne (sgI ts o 0) (2*ts.length):=by
 have F:=Zcm hW hO;have e:∀x:Int,sgI ts o 0 x=onI ts o ((partner x.toNat:Nat):Int):=λx=>by unfold sgI;rw[if_neg (by omega)]
 refine⟨λx h0 h1=>?_,λx y x0 x1 y0 y1 q=>?_⟩
 ·rw[e]
  have:=Zbo (show x.toNat<2*ts.length by omega);exact F.to _ (by omega) (by omega)
 ·rw[e,e]at q
  have hx:=Zbo (show x.toNat<2*ts.length by omega);have hy:=Zbo (show y.toNat<2*ts.length by omega);have:=F.inj _ _ (by omega) (by omega) (by omega) (by omega) q;have e1:partner x.toNat=partner y.toNat:=by omega
  have:=congrArg partner e1;rw[Zbp,Zbp]at this;omega
omit hW hO in
theorem Zjg (k:Nat) (x:Int) (h0:0<=x):sgI ts o (k+1) x=swapF (sgI ts o k) ((2*k:Nat):Int) ((2*k+1:Nat):Int) x:=by
 have p1:partner (2*k)=2*k+1:=by unfold partner;rw[if_pos (by omega)]
 have p2:partner (2*k+1)=2*k:=by unfold partner;rw[if_neg (by omega)];omega
 by_cases h1:x=((2*k:Nat):Int)
 ·subst h1
  rw[Zf8];unfold sgI;rw[if_pos (by omega),if_neg (by omega),Wae,p2]
 ·by_cases h2:x=((2*k+1:Nat):Int)
  ·subst h2
   rw[Zgx];unfold sgI;rw[if_pos (by omega),if_neg (by omega),Wae,p1]
  ·rw[Zey h1 h2]
   unfold sgI;by_cases c:x.toNat / 2<k
   ·rw[if_pos (by omega),if_pos c]
   ·rw[if_neg (by omega),if_neg c]
theorem Zjb:∀k,k<=ts.length->OneOne (sgI ts o k) (2*ts.length)
 |0,_=>Zmn hW hO
 |k+1,hk=>by
  have F:=Zjb k (by omega);have G:=Zen F (a:=((2*k:Nat):Int)) (b:=((2*k+1:Nat):Int)) (by omega) (by omega) (by omega) (by omega);exact⟨λx h0 h1=>by rw[Zjg k x h0];exact G.to x h0 h1,λx y x0 x1 y0 y1 q=>G.inj x y x0 x1 y0 y1 (by rw[<- Zjg k x x0,<- Zjg k y y0];exact q)⟩
theorem Zuw {k:Nat}(hk:k<=ts.length) {x:Int}(h0:0<=x) (h1:x<((2*ts.length:Nat):Int)):(marksL N<|ts.take k).getD (placeAt ts (sgI ts o k x).toNat).toNat 0=(marksL N<|ts.take k).getD (placeAt ts x.toNat).toNat 0:=by
 have hx:x.toNat<2*ts.length:=by omega
 unfold sgI;split
 ·rename_i c
  obtain⟨g,hg,pg,eg⟩:=Zc5 hW hO<|Zbo hx;have ht:x.toNat / 2<ts.length:=by omega
  have hm:ts[x.toNat / 2]∈ts.take k:=by
   refine Way (i:=x.toNat / 2) ?_;rw[Wd0,if_pos c,Waa ht]
  have tm:=Zh7 hW k hk _ hm;unfold onI;rw[<- eg,Wae,pg];have e2:partner x.toNat / 2=x.toNat / 2:=by unfold partner;split <;> omega
  unfold placeAt;rw[e2,Waa ht];dsimp only;by_cases c2:x.toNat % 2=0
  ·rw[if_pos c2,if_neg (by unfold partner;rw[if_pos c2];omega)];exact tm.symm
  ·rw[if_neg c2,if_pos (by unfold partner;rw[if_neg c2];omega)];exact tm
 ·obtain⟨g,hg,pg,eg⟩:=Zc5 hW hO hx
  unfold onI;rw[Wae,Zbp,<- eg,Wae,pg]
theorem Zih {k:Nat}(hk:k<=ts.length) {x y:Int}(h0:0<=x) (h1:x<((2*ts.length:Nat):Int)) (hy:y∈orb (sgI ts o k) x):(marksL N<|ts.take k).getD (placeAt ts y.toNat).toNat 0=(marksL N<|ts.take k).getD (placeAt ts x.toNat).toNat 0:=by
 obtain⟨j,hj,rfl⟩:=Zba.mp hy;clear hy hj
 induction j with
 |zero=>rfl
 |succ j ih=>
  have r:=Zcs (Zjb hW hO k hk) h0 h1 j;show (marksL N<|ts.take k).getD (placeAt ts (sgI ts o k<|iter (sgI ts o k) x j).toNat).toNat 0=_;rw[Zuw hW hO hk r.1 r.2];exact ih
end
structure Own (N:Nat) (ts:List (Int × Int)) (S:Int->Bool):Prop where
 tie:∀t∈ts,S t.1=S t.2
theorem Zfg {N:Nat}{ts:List (Int × Int)}{S:Int->Bool}(hW:WebOk (N:Int) ts) (hS:Own N ts S):∀k,k<=ts.length->∀p:Nat,p<N->S ((marksL N<|ts.take k).getD p 0)=S (p:Int)
 |0,_,p,hp=>by
  rw[Wc6];show S (((Wap N).map λi:Nat=>(i:Int)).getD p 0)=_;rw[Wac,Wad,Wc3 hp];rfl
 |k+1,hk,p,hp=>by
  have hlt:k<ts.length:=hk;have hl:=Zbh N<|ts.take k;have ht:=hW.tie _<|Wa0 hlt;have ih:=Zfg hW hS k (by omega);rw[Zc6 (Waa hlt),Zee _ _ _ (by omega)];have s1:=ih ts[k].1.toNat (by omega);have s2:=ih ts[k].2.toNat (by omega);have st:=hS.tie _<|Wa0 hlt;rw[show ((ts[k].1.toNat:Nat):Int)=ts[k].1 by omega]at s1;rw[show ((ts[k].2.toNat:Nat):Int)=ts[k].2 by omega]at s2;split
  ·rename_i c
   have sp:=ih p hp;rw[c]at sp;rw[<- sp];unfold loI hiI;split <;> split
   all_goals first|rfl|rw[s2,s1,st]|rw[s1,s2,st]
  ·exact ih p hp
def inS (S:Int->Bool) (l:List Int):Nat:=(l.filter S).length
def tiesS (S:Int->Bool) (ts:List (Int × Int)):Nat:=(ts.filter λt=>S t.1).length
def endS (ts:List (Int × Int)) (S:Int->Bool) (e:Nat):Bool:=S<|placeAt ts e
section
variable {N:Nat}{ts:List (Int × Int)}{o:List (List Int)}{S:Int->Bool}(hW:WebOk (N:Int) ts) (hO:OrdOk (N:Int) ts o) (hS:Own N ts S)
include hW hO hS
theorem Zjs {k:Nat}(hk:k<=ts.length) {x:Int}(h0:0<=x) (h1:x<((2*ts.length:Nat):Int)) (e:Nat) (he:(e:Int)∈orb (sgI ts o k) x):endS ts S e=endS ts S x.toNat:=by
 have r:=Zg1 (Zjb hW hO k hk) h0 h1 he;have q:=Zih hW hO hk h0 h1 he;rw[Wae]at q;have p1:=Zcp hW (show e<2*ts.length by omega);have p2:=Zcp hW (show x.toNat<2*ts.length by omega);have m1:=Zfg hW hS k hk (placeAt ts e).toNat (by omega);have m2:=Zfg hW hS k hk (placeAt ts x.toNat).toNat (by omega);rw[q,m2]at m1;unfold endS;rw[show ((placeAt ts e).toNat:Int)=placeAt ts e by omega,show ((placeAt ts x.toNat).toNat:Int)=placeAt ts x.toNat by omega]at m1;exact m1.symm
omit hW hO hS in
theorem Zkk {f g:Int->Int}{m:Nat}(F:OneOne f m) (h:∀x,0<=x->x<(m:Int)->g x=f x) (G:OneOne g m) (Pd:Nat->Bool):cnt g m Pd=cnt f m Pd:=by
 unfold cnt;congr 1;apply Wa9;intro e he;rw[Wav]at he;have:=Zqg F (g:=g) (S:=λ_=>False) (λx h0 h1 _=>h x h0 h1) (λ_ _ _ h=>h) G (e:=(e:Int)) (by omega) (by omega) λh=>h;congr 1;unfold leastB;rw[decide_eq_decide];exact⟨λh x hx=>h x ((this x).mpr hx),λh x hx=>h x ((this x).mp hx)⟩
theorem Ztc {k:Nat}(hk:k<ts.length) :
  (cnt (sgI ts o<|k+1) (2*ts.length) (endS ts S)=cnt (sgI ts o k) (2*ts.length) (endS ts S)+(if S ts[k].1=true then 1 else 0)/\(marksL N<|ts.take k).getD ts[k].1.toNat 0=(marksL N<|ts.take k).getD ts[k].2.toNat 0) ∨
  cnt (sgI ts o k) (2*ts.length) (endS ts S)=cnt (sgI ts o<|k+1) (2*ts.length) (endS ts S)+(if S ts[k].1=true then 1 else 0):=by
 have F:=Zjb hW hO k (by omega);have F2:=Zjb hW hO (k+1) (by omega);have a0:(0:Int)<=((2*k:Nat):Int):=by omega
 have a1:((2*k:Nat):Int)<((2*ts.length:Nat):Int):=by omega
 have b0:(0:Int)<=((2*k+1:Nat):Int):=by omega
 have b1:((2*k+1:Nat):Int)<((2*ts.length:Nat):Int):=by omega
 have G:=Zen F a0 a1 b0 b1;have pa:placeAt ts (2*k)=ts[k].1:=by
  unfold placeAt;rw[show 2*k / 2=k by omega,Waa hk];dsimp only;rw[if_pos (by omega)]
 have pb:placeAt ts (2*k+1)=ts[k].2:=by
  unfold placeAt;rw[show (2*k+1) / 2=k by omega,Waa hk];dsimp only;rw[if_neg (by omega)]
 have ea:endS ts S (((2*k:Nat):Int)).toNat=S ts[k].1:=by unfold endS;rw[Wae,pa]
 have eb:endS ts S (((2*k+1:Nat):Int)).toNat=S ts[k].1:=by unfold endS;rw[Wae,pb,hS.tie _ (Wa0 hk)]
 rw[Zkk G (λx h0 h1=>Zjg k x h0) F2];by_cases c:((2*k+1:Nat):Int)∈orb (sgI ts o k) ((2*k:Nat):Int)
 ·left
  have q:=Zjr F a0 a1 b0 b1 (by omega) c (endS ts S) λe he=>Zjs hW hO hS (by omega) a0 a1 e he;rw[ea]at q;refine⟨q,?_⟩;have mk:=Zih hW hO (k:=k) (by omega) a0 a1 c;rw[Wae,Wae,pa,pb]at mk;exact mk.symm
 ·right
  have q:=Zm0 F a0 a1 b0 b1 c (endS ts S) (λe he=>Zjs hW hO hS (by omega) a0 a1 e he) λe he=>by
   rw[Zjs hW hO hS (by omega) b0 b1 e he,ea,eb]
  rw[ea]at q;exact q
omit hO in
theorem Zot {k:Nat}(hk:k<ts.length) {ms ms2:List Int}(h:Firsts ms (marksL N<|ts.take k)) (h2:Firsts ms2 (marksL N<|ts.take<|k+1)) :
  ((marksL N<|ts.take k).getD ts[k].1.toNat 0=(marksL N<|ts.take k).getD ts[k].2.toNat 0->inS S ms2=inS S ms)/\inS S ms<=inS S ms2+(if S ts[k].1=true then 1 else 0)/\(S ts[k].1=false->inS S ms2=inS S ms):=by
 have hl:=Zbh N<|ts.take k;have ht:=hW.tie _<|Wa0 hk;rw[Zc6 (Waa hk)]at h2;by_cases c:(marksL N<|ts.take k).getD ts[k].1.toNat 0=(marksL N<|ts.take k).getD ts[k].2.toNat 0
 ·rw[Zj6 c]at h2
  rw[h2.uniq h];exact⟨λ_=>rfl,Nat.le_add_right _ _,λ_=>rfl⟩
 ·have G:=Zgn hl (by omega) (by omega) c
  have e:=G.firsts h h2;have s1:=Zfg hW hS k (by omega) ts[k].1.toNat (by omega);have s2:=Zfg hW hS k (by omega) ts[k].2.toNat (by omega);have st:=hS.tie _<|Wa0 hk;rw[show ((ts[k].1.toNat:Nat):Int)=ts[k].1 by omega]at s1;rw[show ((ts[k].2.toNat:Nat):Int)=ts[k].2 by omega]at s2;have sh:S (hiI ((marksL N<|ts.take k).getD ts[k].1.toNat 0) ((marksL N<|ts.take k).getD ts[k].2.toNat 0))=S ts[k].1:=by
   unfold hiI;split
   ·rw[s2,st]
   ·exact s1
  obtain⟨hi,ehi⟩:∃hi,hiI ((marksL N<|ts.take k).getD ts[k].1.toNat 0) ((marksL N<|ts.take k).getD ts[k].2.toNat 0)=hi:=⟨_,rfl⟩;rw[ehi]at e sh;have q:=Zbn (λg:Int=>decide (g=hi))<|ms.filter S;rw[Wbn,Wbn]at q;have e2:ms2.filter S=ms.filter λg=>(!decide (g=hi)) && S g:=by
   rw[e,Wbn];apply Wa9;intro g _;by_cases z:g=hi
   ·rw[decide_eq_true z,decide_eq_false (by simpa using z),Wc7];rfl
   ·rw[decide_eq_false z,decide_eq_true z,Wd7];rfl
  have hone:(ms.filter λg=>decide (g=hi) && S g).length<=(if S ts[k].1=true then 1 else 0):=by
   by_cases z:S ts[k].1=true
   ·rw[if_pos z]
    have:=Zct (l:=ms.filter λg=>decide (g=hi) && S g) (m:=[hi]) (List.Pairwise.filter _ (h.1.imp λz=>Int.ne_of_lt z)) λx hx=>by
     rw[Wai,Wbj,decide_eq_true_iff]at hx;rw[Wa7];exact hx.2.1
    exact this
   ·rw[if_neg z]
    have:(ms.filter λg=>decide (g=hi) && S g)=[]:=by
     rw[Wed];intro x hx w;rw[Wbj,decide_eq_true_iff]at w;rw[w.1,sh]at w;exact z w.2
    rw[this];exact Wak _
  unfold inS;rw[e2];refine⟨λz=>absurd z c,by omega,λz=>?_⟩;rw[if_neg (by rw[z];exact Wag)]at hone;omega
omit hW hO hS in
theorem Zqq {k:Nat}(hk:k<ts.length):tiesS S (ts.take<|k+1)=tiesS S (ts.take k)+(if S ts[k].1=true then 1 else 0):=by
 unfold tiesS;rw[Wca,Waa hk,Wbo,Wan];congr 1;show (List.filter _ [ts[k]]).length=_;rw[Wbs];by_cases z:S ts[k].1=true
 ·rw[if_pos z,if_pos z];rfl
 ·rw[if_neg z,if_neg z];rfl
theorem euler {c0:Nat}{ms0:List Int}(h0:Firsts ms0 (marksL N [])) (hc:cnt (sgI ts o 0) (2*ts.length) (endS ts S)+c0=inS S ms0):∀k,k<=ts.length->∀ms,Firsts ms (marksL N<|ts.take k) →
  cnt (sgI ts o k) (2*ts.length) (endS ts S)+c0+inS S ms0<=2*inS S ms+tiesS S (ts.take k)/\(cnt (sgI ts o k) (2*ts.length) (endS ts S)+c0+inS S ms0) % 2=tiesS S (ts.take k) % 2
 |0,_,ms,h=>by
  rw[Wc6]at h ⊢;rw[h.uniq h0];show _<=2*inS S ms0+0/\_=0 % 2;omega
 |k+1,hk,ms,h=>by
  obtain⟨ms1,h1⟩:=Zdc<|marksL N<|ts.take k;obtain⟨i1,i2⟩:=euler h0 hc k (by omega) ms1 h1;obtain⟨p1,p2,p3⟩:=Zot hW hS (show k<ts.length from hk) h1 h;rw[Zqq (show k<ts.length from hk)];rcases Ztc hW hO hS (show k<ts.length from hk) with ⟨q,mk⟩|q
  ·have:=p1 mk
   rw[this,q];split <;> omega
  ·by_cases z:S ts[k].1=true
   ·rw[if_pos z]at q p2 ⊢
    omega
   ·have:=p3 (Wcc.mpr z)
    rw[if_neg z]at q p2 ⊢;omega
end
def rowP (o:List (List Int)) (p:Nat):List Int:=o.getD p []
def loneS (S:Int->Bool) (N:Nat) (o:List (List Int)):Nat:=((Wap N).filter λp:Nat=>S (p:Int) && (rowP o p).isEmpty).length
section
variable {N:Nat}{ts:List (Int × Int)}{o:List (List Int)}{S:Int->Bool}(hW:WebOk (N:Int) ts) (hO:OrdOk (N:Int) ts o)
include hW hO
theorem Zrz {e:Nat}:sgI ts o 0 (e:Int)=folOf ts o e:=by
 unfold sgI;rw[if_neg (by omega),Wae];unfold onI;rw[Wae,Zbp]
theorem Zsy {p:Nat}{x:Int}{r:List Int}(hp:p<N) (hr:rowP o p=x::r):∃e:Nat,e<2*ts.length/\x=(e:Int)/\placeAt ts e=(p:Int)/\rowAt ts o e=x::r/\leastB (sgI ts o 0) e=true:=by
 have hl:=hO.len;have q:o[p]?=some (x::r):=by
  unfold rowP at hr;rw[Wac,Waa (by omega:p<o.length)]at hr;rw[Waa (by omega:p<o.length)];exact congrArg some hr
 have R:=hO.row p _ q;obtain⟨e,he,pe,ee⟩:=R.mem.mp<|Wam ..;have er:rowAt ts o e=x::r:=by
  unfold rowAt;rw[pe,Wae];exact hr
 refine⟨e,he,ee.symm,pe,er,?_⟩;unfold leastB;rw[decide_eq_true_iff];have F:=Zmn hW hO;have inr:∀y∈orb (sgI ts o 0) (e:Int),y∈x::r:=Zdk (S:=λy=>y∈x::r) (by rw[ee];exact Wam ..) λy hy=>by
  obtain⟨k,hk,pk,ek⟩:=R.mem.mp hy;rw[<- ek,Zrz hW hO];obtain⟨g,hg,pg,eg⟩:=Zc5 hW hO hk;rw[<- eg];exact R.mem.mpr ⟨g,hg,pg.trans pk,rfl⟩
 intro y hy;rcases Waq.mp (inr y hy) with z|z
 ·rw[z,ee];exact Wds _
 ·rw[ee];exact R.least y z
theorem Zgi {e:Nat}(he:e<2*ts.length) (hl:leastB (sgI ts o 0) e=true):∃r,rowAt ts o e=(e:Int)::r:=by
 obtain⟨g1,g2,g3⟩:=Zb1 hW hO he;have nd:=g2.nodup;obtain⟨i,hi⟩:=Wbx.mp g3;have hil:=(Wah.mp hi).1;have F:=Zmn hW hO;obtain⟨r,er⟩:∃r,rowAt ts o e=r:=⟨_,rfl⟩;have nxt:∀a (ha:a<r.length),sgI ts o 0 r[a]=r.getD (nxI r.length a) 0:=λa ha=>by
  subst er;obtain⟨k,hk,pk,ek⟩:=g2.mem.mp<|Wa0 ha;rw[<- ek,Zrz hW hO];unfold folOf;have:rowAt ts o k=rowAt ts o e:=by unfold rowAt;rw[pk]
  rw[this];exact Zed nd (by rw[ek];exact Waa ha)
 rw[er]at hi hil;have up:∀j,i+j<r.length->iter (sgI ts o 0) (e:Int) j=r.getD (i+j) 0:=λj=>by
  induction j with
  |zero=>
   intro _;rw[Wac,Nat.add_zero,hi];rfl
  |succ j ih=>
   intro hj;show sgI ts o 0 (iter (sgI ts o 0) (e:Int) j)=_;rw[ih (by omega),Wac (i:=i+j),Waa (by omega:i+j<r.length)];show sgI ts o 0 r[i+j]=_;rw[nxt _ (by omega)];unfold nxI;rw[if_neg (by omega)];rfl
 have hmem:r.getD 0 0∈orb (sgI ts o 0) (e:Int):=by
  have:=Zbv F (e:=(e:Int)) (by omega) (by omega)<|r.length-i;rw[show r.length-i=(r.length-1-i)+1 by omega]at this;have e1:iter (sgI ts o 0) (e:Int) ((r.length-1-i)+1)=sgI ts o 0 (iter (sgI ts o 0) (e:Int)<|r.length-1-i):=rfl;rw[e1,up _ (by omega),Wac,Waa (by omega:i+(r.length-1-i)<r.length)]at this;have e2:sgI ts o 0 r[i+(r.length-1-i)]=r.getD 0 0:=by
   rw[nxt _ (by omega)];unfold nxI;rw[if_pos (by omega)]
  rw[<- e2];exact this
 have hle:=of_decide_eq_true (show decide (∀z∈orb (sgI ts o 0) (e:Int),(e:Int)<=z)=true from hl) _ hmem;rw[er]at g2 g3;rw[er];cases r with
 |nil=>simp at g3
 |cons x r=>
  refine⟨r,?_⟩;have hle:(e:Int)<=x:=hle;rcases Waq.mp g3 with z|z
  ·rw[z]
  ·have:=g2.least _ z
   rw[show (e:Int)=x by omega]
theorem Ztb:cnt (sgI ts o 0) (2*ts.length) (endS ts S)=((Wap N).filter λp:Nat=>S (p:Int) && !(rowP o p).isEmpty).length:=by
 unfold cnt;have rowEq:∀e:Nat,rowAt ts o e=rowP o (placeAt ts e).toNat:=λe=>rfl;apply Nat.le_antisymm
 ·rw[<- Wab (f:=λe=>(placeAt ts e).toNat)]
  refine Zct ?_ λp hp=>?_
  ·unfold List.Nodup
   rw[Wb6];refine List.Pairwise.imp_of_mem (R:=(· < ·)) (λ{a b} ha hb hab hq=>?_)<|List.Pairwise.filter _ Wci;rw[Wai,Wav,Wbj]at ha hb;obtain⟨r1,e1⟩:=Zgi hW hO ha.1 ha.2.1;obtain⟨r2,e2⟩:=Zgi hW hO hb.1 hb.2.1;rw[rowEq]at e1 e2;rw[hq,e2]at e1;have:=(Wdh.inj e1).1;omega
  ·obtain⟨e,he,rfl⟩:=Wa3.mp hp
   rw[Wai,Wav,Wbj]at he;have pl:=Zcp hW he.1;obtain⟨r1,e1⟩:=Zgi hW hO he.1 he.2.1;rw[rowEq]at e1;rw[Wai,Wav,Wbj,e1,show (((placeAt ts e).toNat:Nat):Int)=placeAt ts e by omega];exact⟨by omega,he.2.2,rfl⟩
 ·rw[<- Wab (f:=λp=>((rowP o p).headD 0).toNat) (as:=(Wap N).filter λp:Nat=>S (p:Int) && !(rowP o p).isEmpty)]
  have hd:∀p:Nat,p<N->(!(rowP o p).isEmpty)=true->∃e:Nat,e<2*ts.length/\((rowP o p).headD 0).toNat=e/\placeAt ts e=(p:Int)/\leastB (sgI ts o 0) e=true:=λp hp hne=>by
   cases z:rowP o p with
   |nil=>rw[z]at hne;cases hne
   |cons x r=>
    obtain⟨e,he,ex,pe,_,hl⟩:=Zsy hW hO hp z;refine⟨e,he,?_,pe,hl⟩;show x.toNat=e;rw[ex,Wae]
  refine Zct ?_ λq hq=>?_
  ·unfold List.Nodup
   rw[Wb6];refine List.Pairwise.imp_of_mem (R:=(· < ·)) (λ{a b} ha hb hab hq=>?_)<|List.Pairwise.filter _ Wci;rw[Wai,Wav,Wbj]at ha hb;obtain⟨e1,_,q1,p1,_⟩:=hd a ha.1 ha.2.2;obtain⟨e2,_,q2,p2,_⟩:=hd b hb.1 hb.2.2;have:e1=e2:=by rw[<- q1,<- q2];exact hq
   subst this;rw[p1]at p2;omega
  ·obtain⟨p,hp,rfl⟩:=Wa3.mp hq
   rw[Wai,Wav,Wbj]at hp;obtain⟨e,he,q1,p1,hl⟩:=hd p hp.1 hp.2.2;rw[q1,Wai,Wav,Wbj];refine⟨he,hl,?_⟩;unfold endS;rw[p1];exact hp.2.1
theorem Zvp {ms0:List Int}(h:Firsts ms0 (marksL N [])):cnt (sgI ts o 0) (2*ts.length) (endS ts S)+loneS S N o=inS S ms0:=by
 rw[Ztb hW hO,Zhy h];unfold inS loneS;rw[Wb4,Wab];have:=Zbn (λp:Nat=>(rowP o p).isEmpty) ((Wap N).filter λp:Nat=>S (p:Int));rw[Wbn,Wbn]at this;have e0:((Wap N).filter (S∘λi:Nat=>(i:Int)))=(Wap N).filter λp:Nat=>S (p:Int):=rfl;rw[e0,this];have e1:((Wap N).filter λp:Nat=>S (p:Int) && (rowP o p).isEmpty)=(Wap N).filter λp:Nat=>(rowP o p).isEmpty && S (p:Int):=by
  apply Wa9;intro p _;exact Wd8 _ _
 have e2:((Wap N).filter λp:Nat=>S (p:Int) && !(rowP o p).isEmpty)=(Wap N).filter λp:Nat=>(!(rowP o p).isEmpty) && S (p:Int):=by
  apply Wa9;intro p _;exact Wd8 _ _
 rw[e1,e2];omega
theorem Zww {e:Int}(h0:0<=e) (h1:e<((2*ts.length:Nat):Int)):onI ts o e=sgI ts o ts.length e:=by
 unfold sgI;rw[if_pos (by omega)]
theorem Zrq (hS:Own N ts S) {ms:List Int}(hm:Firsts ms (marksL N ts)):cnt (onI ts o) (2*ts.length) (endS ts S)+loneS S N o+inS S ((Wap N).map λi:Nat=>(i:Int))<=2*inS S ms+tiesS S ts/\(cnt (onI ts o) (2*ts.length) (endS ts S)+loneS S N o+inS S ((Wap N).map λi:Nat=>(i:Int))) % 2=tiesS S ts % 2:=by
 obtain⟨ms0,h0⟩:=Zdc<|marksL N [];have b:=Zvp (S:=S) hW hO h0;have e:=euler hW hO hS h0 b ts.length (Wak _) ms (by rw[Wbv];exact hm);rw[Wbv]at e;rw[Zhy h0]at e;rw[Zkk (Zjb hW hO ts.length<|Wak _) (λx h0 h1=>Zww hW hO h0 h1) (Zcm hW hO)];exact e
end
noncomputable def holesI (n:Int) (ts:List (Int × Int)) (o:List (List Int)) (ms:List Int):Int:=(2*(ms.length:Int)-n+(ts.length:Int)-((allF ts o).length:Int)) / 2
theorem Zk8 {N:Nat}{ts:List (Int × Int)}(hW:WebOk (N:Int) ts):∀k,k<=ts.length->∀g∈marksL N (ts.take k),0<=g/\g<(N:Int)/\(marksL N<|ts.take k).getD g.toNat 0=g
 |0,_,g,hg=>by
  rw[Wc6]at hg ⊢;obtain⟨p,hp,rfl⟩:=Wa3.mp hg;rw[Wav]at hp;exact⟨by omega,by omega,by rw[Wae];exact Zwl hp⟩
 |k+1,hk,g,hg=>by
  have hlt:k<ts.length:=hk;have hl:=Zbh N<|ts.take k;have ht:=hW.tie _<|Wa0 hlt;have ih:=Zk8 hW k (by omega);rw[Zc6 (Waa hlt)]at hg ⊢;by_cases c:(marksL N<|ts.take k).getD ts[k].1.toNat 0=(marksL N<|ts.take k).getD ts[k].2.toNat 0
  ·rw[Zj6 c]at hg ⊢
   exact ih g hg
  ·have G:=Zgn hl (by omega) (by omega) c
   obtain⟨h1,h2⟩:=G.mem.mp hg;obtain⟨a,b,e⟩:=ih g h1;exact⟨a,b,by rw[G.to _ (by omega),e,if_neg h2]⟩
section
variable {N:Nat}{ts:List (Int × Int)}{o:List (List Int)}(hW:WebOk (N:Int) ts) (hO:OrdOk (N:Int) ts o)
include hW
include hO
theorem Zdf {ms:List Int}(hm:Firsts ms (marksL N ts)):0<=holesI (N:Int) ts o ms/\2*holesI (N:Int) ts o ms+((allF ts o).length:Int)+(N:Int)=2*(ms.length:Int)+(ts.length:Int):=by
 obtain⟨h1,h2⟩:=Zrq (S:=λ_=>true) hW hO ⟨λ_ _=>rfl⟩ hm;have al:=Zor hW hO;have e1:cnt (onI ts o) (2*ts.length) (endS ts λ_=>true)=((Wap (2*ts.length)).filter λe=>leastB (onI ts o) e && true).length:=rfl;have e2:inS (λ_=>true) ms=ms.length:=by unfold inS;rw[Wbl.mpr (λ_ _=>rfl)]
 have e3:inS (λ_=>true) ((Wap N).map λi:Nat=>(i:Int))=N:=by unfold inS;rw[Wbl.mpr (λ_ _=>rfl),Wab,Wbq]
 have e4:tiesS (λ_=>true) ts=ts.length:=by unfold tiesS;rw[Wbl.mpr (λ_ _=>rfl)]
 have e5:loneS (λ_=>true) N o=lone o:=by
  have hl:=hO.len;unfold loneS lone;have eo:o=(Wap N).map λp=>rowP o p:=by
   apply List.ext_getElem
   ·rw[Wab,Wbq];omega
   ·intro i h1 h2
    rw[List.getElem_map,Wct];unfold rowP;rw[Wac,Waa h1];rfl
  conv=>rhs;rw[eo]
  rw[Wb4,Wab];rfl
 rw[e1,e2,e3,e4,e5]at h1;rw[e1,e3,e4,e5]at h2;unfold holesI;omega
end
section
variable {N:Nat}{ts:List (Int × Int)}{o:List (List Int)}(hW:WebOk (N:Int) ts) (hO:OrdOk (N:Int) ts o) {ms:List Int}(hm:Firsts ms (marksL N ts))
include hW hm
include hO
end
def Rising (R:List (List Int)):Prop:=R.Pairwise λa b=>rlt b a=false
theorem Zho {A B:List (List Int)}(ha:Rising A) (hb:Rising B) (h:A.Perm B):A=B:=
 List.Perm.eq_of_pairwise (le:=λa b=>rlt b a=false) (λa b _ _ h1 h2=>Zmh a b h2 h1) ha hb h
section
variable {n:Int}{ts:List (Int × Int)}{o:List (List Int)}(hW:WebOk n ts) (hO:OrdOk n ts o)
include hW hO
theorem Zkl {e:Nat}(he:e<2*ts.length) (hl:leastB (onI ts o) e=true):∃l,orb (onI ts o) (e:Int)=(e:Int)::l/\∀a∈l,(e:Int)<=a:=by
 obtain⟨l,hl'⟩:=Zmy (Zcm hW hO) (show (0:Int)<=(e:Int) by omega) (show (e:Int)<((2*ts.length:Nat):Int) by omega);refine⟨l,hl',λa ha=>?_⟩;unfold leastB at hl;rw[decide_eq_true_iff]at hl;exact hl a (by rw[hl'];exact Wau _ ha)
theorem Zfx:Rising (allF ts o):=by
 unfold Rising allF;rw[List.pairwise_append];refine⟨?_,?_,λa ha b hb=>?_⟩
 ·rw[List.pairwise_replicate]
  exact Or.inr rfl
 ·unfold facesTo
  rw[Wb6];have:=List.Pairwise.filter (leastB<|onI ts o)<|Wci (n:=2*ts.length);refine List.Pairwise.imp_of_mem (λ{a b} ha hb hab=>?_) this;have ha:=Wai.mp ha;have hb:=Wai.mp hb;obtain⟨l,h1,_⟩:=Zkl hW hO (Wav.mp ha.1) ha.2;obtain⟨k,h2,_⟩:=Zkl hW hO (Wav.mp hb.1) hb.2;rw[h1,h2,Zg4,if_neg (by omega)];exact decide_eq_false (by omega)
 ·rw[(Wda.mp ha).2]
  cases b <;> rfl
theorem Zj5:(allF ts o).length<64:=by
 obtain⟨N,rfl⟩:∃N:Nat,n=(N:Int):=⟨n.toNat,by have:=hW.lo;omega⟩;obtain⟨ms,hm⟩:=Zdc<|marksL N ts;have h:=Zdf hW hO hm;have h1:=hm.len;rw[Zbh]at h1;have h2:=hW.hi;have h3:=hW.len;omega
end
section
variable {P:Program}{w:World}{K:W.Frag}{mg:Str->Option Value}{base:Heap}{f:Addr}{fd:FuncData}
theorem Zqx (mb:Mb mg) (F:Fun K "least_first" "least_first" Yas f fd):FnOk P w K mg base CX0 1 f fd ["ends"] (spD K fLeastL):=by
 refine F.ok Ya2 (Zbc λds Post h=>by obtain⟨_,rfl,_⟩:=h;rfl) λcdv A outer s H vs Q E hr h=>?_;have hu:=Zbz hr;refine⟨_,(Zae (Zcf (Ze7<|truK K (pv 0) λ_=>rfl) (Zah<|Zau<|Zb8 Zad) Za4)<|Zae (Zat (i:=1) Ya2.nd rfl (Or.inl rfl)<|bmK K PySem.F.plainAttrs_list PySem.F.slot_list_index PySem.F.type_list_index (idxLK K) (pv 0)<|Zaa (Zai (minK K rfl) rfl (mb "min"<|by decide) Zgt<|Zaa (pv 0) Zad) Zad)<|Zah<|Zau<|Zbj (tupK K) rfl (mb "tuple"<|by decide) Zb3<|Zaa (Zap (addK K) (Zbx (slK K) (pv 0) (Zcj<|pv 1) Zch)<|Zbx (slK K) (pv 0) Zch<|Zcj<|pv 1) Zad),Zcx (λds Post hf=>?_) h⟩;obtain⟨ns,rfl,hp,hl,q⟩:=hf;refine⟨by simp,?_⟩;dsimp only[startD,Wbk,Wbm,Wa6];obtain⟨m,hm,hle⟩:=Zdb ns<|Wdz.mp hp;obtain⟨i1,i2,i3⟩:=Zb0 hm;refine Zal<|Zcc<|Zd9<|Zcl<|Zac rfl ⟨true,?_,?_⟩
 ·cases ns with
  |nil=>simp at hp
  |cons x t=>rfl
 refine iteF<|Zbb ?_;refine Zal<|Zaw<|Zh9<|Zac rfl ⟨ns,rfl,by omega,Za0<|Zab<|Zac rfl<|Zaf<|Zjn (Or.inl rfl) hm hle ⟨m,rfl,hm,?_⟩⟩;have hj:ns.idxOf m<=(ns.map D.int).length:=by rw[Wab];omega
 refine Za2<|Za0<|Zab<|Zaj<|Zfe<|Zac rfl<|Zck<|Zac rfl ⟨_,rfl,Zcg ⟨.lst ((ns.map D.int).drop (ns.idxOf m)),?_,?_⟩⟩
 ·show some (D.lst<|cutD (ns.map D.int) (some ((ns.idxOf m:Nat):Int)) none)=_
  rw[Zej _ hj]
 refine Zfe<|Zac rfl<|Zcg<|Zck<|Zac rfl ⟨_,rfl,.lst ((ns.map D.int).take (ns.idxOf m)),?_,?_⟩
 ·show some (D.lst<|cutD (ns.map D.int) none<|some ((ns.idxOf m:Nat):Int))=_
  rw[Zhm _ hj]
 refine Zmc ?_<|Zaf<|Zez (Or.inl rfl) ?_
 ·rw[Wbr,Wa5,Wab]
  exact Wb0 (small1000<|by omega)
 have q':=q m hm hle;unfold rowD rotAt at q';rw[Waz,Wdn,Wc1]at q';exact q'
theorem Znx (mb:Mb mg) (C72:Callee P w K mg base 3 "onward" ["web","order","end"] (spD K fOnw)) (C71:Callee P w K mg base 1 "least_first" ["ends"] (spD K fLeastL)) (F:Fun K "face_of" "face_of" Ybd f fd):FnOk P w K mg base CX0 4 f fd ["web","order","end"] (spD K fFaceOf):=by
 refine F.ok Ya3 (Zbc λds Post h=>by obtain⟨_,_,_,_,rfl,_⟩:=h;rfl) λcdv A outer s H vs Q E hr h=>?_;have hu:=Zbz hr;refine⟨_,(Zae (Zat (i:=3) Ya3.nd rfl (Or.inl rfl)<|Zg3<|Zaa (pv 2) Zad)<|Zae (Zat (i:=4) Ya3.nd rfl (Or.inl rfl)<|Zax C72 (hr.mono<|by decide)<|Zaa (pv 0)<|Zaa (pv 1)<|Zaa (pv 2) Zad)<|Zae (Znl PassesOwn.never (Zao Zg0 (pv 4) (pv 2)<|nomark _)<|Zae (Zfd<|bmK K PySem.F.plainAttrs_list PySem.F.slot_list_append PySem.F.type_list_append Zdd (pv 3)<|Zaa (pv 4) Zad)<|Zah<|Zat (i:=4) Ya3.nd rfl (Or.inl rfl)<|Zax C72 (hr.mono<|by decide)<|Zaa (pv 0)<|Zaa (pv 1)<|Zaa (pv 4) Zad)<|Zah<|Zau<|Zax C71 (hr.mono<|by decide)<|Zaa (pv 3) Zad),Zcx (λds Post hf=>?_) h⟩;obtain⟨n,ts,o,e,rfl,hW,hO,he,q⟩:=hf;refine⟨by simp,?_⟩;dsimp only[startD,Wbk,Wbm,Wa6,Wal];have O:=Zcm hW hO;have hw:=hW.len;have h0:(0:Int)<=(e:Int):=by omega
 have h1:(e:Int)<((2*ts.length:Nat):Int):=by omega
 have onw:∀j:Nat,folOf ts o (partner (iter (onI ts o) e j).toNat)=iter (onI ts o) e (j+1):=λj=>rfl;refine Zal<|Zcz<|Zi6<|Zab<|Zac rfl<|Zaf ⟨by show 1<=sizeLine;decide,?_⟩;refine Zal<|Zaw<|Zav<|Zab<|Zac rfl<|Zab<|Zac rfl<|Zab<|Zac rfl<|Zaf ⟨n,ts,o,e,rfl,hW,hO,he,?_⟩;refine Zca (λΔ=>∃k:Nat,IsOrb (onI ts o) e k /\ Δ = [.val (encWeb n ts),.val (encOrd o),.val (.int e),.own (.lst ((walkL (onI ts o) e k).map .int)),.val (.int<|iter (onI ts o) e k)]) ?_ ?_
 ·refine Znc (fun μ Δ=>∃k:Nat,1<=k/\NdTo (onI ts o) e k /\ μ = 2*ts.length-k /\ Δ = [.val (encWeb n ts),.val (encOrd o),.val (.int e),.own (.lst ((walkL (onI ts o) e k).map .int)),.val (.int<|iter (onI ts o) e k)]) ⟨_,1,Wak _,Zo4 O h0 h1,rfl,rfl⟩ ?_
  rintro μ Δ1 ⟨k,hk,nd,rfl,rfl⟩;have hkm:=Zkj O h0 h1 nd;refine Zar<|Zaj<|Zac rfl<|Zac rfl<|Zju ⟨_,rfl,?_⟩;by_cases hb:iter (onI ts o) e k=e
  ·rw[decide_eq_true hb]
   exact iteF ⟨k,⟨by omega,hb,nd⟩,rfl⟩
  ·rw[decide_eq_false hb]
   have nd2:=Zkf O h0 h1 hk nd hb;have hkm2:=Zkj O h0 h1 nd2;have r:=Zcs O h0 h1 k;refine iteT<|Zal<|Zi9 rfl rfl<|Zac rfl ⟨_,_,rfl,rfl,?_,?_⟩
   ·rw[Wab,Zb9];exact small1000 (by omega)
   refine Zaw<|Zav<|Zab<|Zac rfl<|Zab<|Zac rfl<|Zab<|Zac rfl<|Zaf ⟨n,ts,o,(iter (onI ts o) e k).toNat,?_,hW,hO,by omega,?_⟩
   ·rw[show (((iter (onI ts o) e k).toNat:Nat):Int)=iter (onI ts o) e k by omega]
   refine⟨2*ts.length-(k+1),by omega,k+1,by omega,nd2,rfl,?_⟩;rw[Zi2,Waz];rfl
 rintro Δ1 ⟨k,O1,rfl⟩;have hkm:=Zkj O h0 h1 O1.nd;refine Za2<|Zav<|Zab<|Zev rfl<|Zaf ⟨walkL (onI ts o) e k,rfl,?_,?_,λx hx hle=>?_⟩
 ·rw[Zb9];exact O1.pos
 ·rw[Zb9];omega
 ·have eo:=O1.orb
  rw[<- eo]at hx hle ⊢;have rx:=Zg1 O h0 h1 hx;obtain⟨j,hj,ej⟩:=Zba.mp hx;have ei:(orb (onI ts o) e).idxOf x=j:=Zuq (Zf5 O h0 h1) (by rw[<- ej];exact Zf1 hj);rw[ei,Zvt O h0 h1 hj,ej];have ex:((x.toNat:Nat):Int)=x:=by omega
  have:=q x.toNat (by omega) (by
   unfold leastB;rw[decide_eq_true_iff,ex];exact λz hz=>hle z (Za1 O h0 h1 hx hz)) (by rw[ex];exact hx)
  rw[ex]at this;exact this
theorem Zs7 (mb:Mb mg) (C63:Callee P w K mg base 4 "face_of" ["web","order","end"] (spD K fFaceOf)) (F:Fun K "faces" "faces" Yat f fd):FnOk P w K mg base CX0 5 f fd ["web","order"] (spN K fFaces):=by
 refine F.ok Yak (Zgq λds Post h=>by obtain⟨_,_,_,rfl,_⟩:=h;rfl) λcdv A outer s H vs Q E hr h=>?_;have hu:=Zbz hr;have hv:=Zka hr;refine⟨_,(Zae (Zdg (i:=2) ["row"] (show CompSc (defScope Yat) ["web","order","told","gone","end","face","come"] _ [] [] from ⟨rfl,by decide +kernel,by decide +kernel,by decide +kernel,rfl,by decide +kernel⟩) rfl Yak.nd rfl (Or.inl rfl) (seqK K<|pv 1) (λ_ _ _ _ _=>(Zam (i:=0) (show List.Nodup (["row"]:List Str) from by decide) rfl<|Or.inl rfl)) (λ_ _ _ _ _=>(Zc3<|Ze7<|truK K (pv 0) λ_=>rfl)) λ_ _ _ _ _=>(Zb8 Zad))<|Zae (Zat (i:=3) Yak.nd rfl (Or.inl rfl)<|Znt Zqr rfl (mb "set"<|by decide) Zum)<|Zae (Zdt PassesOwn.never rfl (Zbk rfl (mb "range"<|by decide)<|Zaa (Zap Zcn Zag<|Zai (lenK K) rfl (mb "len"<|by decide) Za5<|Zaa (Zaq (ixK K hu) (pv 0) Zag λ_ _=>rfl) Zad) Zad) (Zam (i:=4) Yak.nd rfl<|Or.inl rfl)<|Zah<|Zcf (Zao (notinK K hu) (pv 4) (pv 3) rfl) (Zae (Zat (i:=5) Yak.nd rfl (Or.inl rfl)<|Zax C63 (hr.mono<|by decide)<|Zaa (pv 0)<|Zaa (pv 1)<|Zaa (pv 4) Zad)<|Zae (Zfd<|bmK K PySem.F.plainAttrs_list PySem.F.slot_list_append PySem.F.type_list_append Zdd (pv 2)<|Zaa (pv 5) Zad)<|Zah<|Zdt PassesOwn.never rfl (seqK K<|pv 5) (Zam (i:=6) Yak.nd rfl<|Or.inl rfl)<|Zah<|Zfd<|bmK K PySem.F.plainAttrs_set PySem.F.slot_set_add PySem.F.type_set_add Zv1 (pv 3)<|Zaa (pv 6) Zad) Za4)<|Zah<|Zau<|Zai (sortGK K hv) rfl (mb "sorted"<|by decide) Ze5<|Zaa (pv 2) Zad),Zov (λds Post hf=>?_) h⟩;obtain⟨n,ts,o,rfl,hW,hO,q⟩:=hf;refine⟨by simp,?_⟩;dsimp only[startD,Wbk,Wbm,Wa6,Wal];have O:=Zcm hW hO;have hw:=hW.len;have hn:=hW.hi;have ho:=hO.len;have hlone:=Zl0 o;refine Zal<|Zcz<|Zhe (by decide)<|Zdp<|Zac rfl ⟨_,rfl,?_,λd=>match d with|.tup ds=>ds.isEmpty|_=>false,λ_=>.tup [],λi d hd=>?_,?_⟩
 ·rw[Wab];exact small1000 (by omega)
 ·rw[Wad]at hd
  cases z:o[i]? with
  |none=>rw[z]at hd;cases hd
  |some r=>
   rw[z]at hd;have hd:encRow r=d:=by simpa using hd
   subst hd;refine Zd9<|Zcl<|Zac rfl ⟨_,rfl,?_,?_⟩
   ·cases r <;> rfl
   ·cases r with
    |nil=>exact iteT (Zb7 (Zaf ⟨by decide,rfl,_,rfl⟩))
    |cons x t=>exact iteF ⟨_,rfl⟩
 rw[show o.map encRow=o.map rowD from rfl,Zkm o _ (λr=>by cases r <;> rfl) _ λ_=>rfl]
 refine Zal<|Zcz<|Zvf ?_;refine Zca (λΔ=>∃(S:Int->Bool) (c:Nat) (x4 x5 x6:L2.Slot),Δ = [.val (encWeb n ts),.val (encOrd o),.own (.lst ((allF ts o).map rowD)),.own (.set S c),x4,x5,x6]) ?_ ?_
 ·refine Zea (Zbq ?_)
  refine Zab<|Zaj<|Zak<|Za0 ?_;refine Zab<|Zaj<|Zac rfl<|Zak<|Zas (d:=.tup<|ts.map encTie) rfl ?_;refine Zaf<|Za7 (Or.inr rfl) ?_;rw[Wab];refine jr_I (Or.inl ⟨by omega,by omega⟩)<|Zaf ⟨_,rfl,by omega,by omega,?_⟩;have eL:((2:Int)*(ts.length:Int)).toNat=2*ts.length:=by omega
  rw[eL];refine⟨λk Δ=>∃(S:Int->Bool) (c:Nat) (x4 x5 x6:L2.Slot),(∀x,S x=true↔MetTo (onI ts o) k x)/\c<=48*k /\ Δ = [.val (encWeb n ts),.val (encOrd o),.own (.lst ((Wal (lone o) []++facesTo (onI ts o) k).map rowD)),.own (.set S c),x4,x5,x6],⟨λ_=>false,0,.any,.any,.any,λx=>?_,by omega,?_⟩,?_,?_⟩
  ·constructor
   ·intro z;cases z
   ·rintro⟨e,he,_⟩;omega
  ·rw[show facesTo (onI ts o) 0=[] from rfl,Wa4];rfl
  ·rintro k d Δ2 hd ⟨S,c,x4,x5,x6,hS,hc,rfl⟩
   obtain⟨hk,rfl⟩:=Zce hd;rw[Wb1];have fl:=Zft (onI ts o) k;refine Zbg<|Zcc<|Zar<|Zyl<|Zac rfl ⟨_,S,c,_,rfl,rfl,rfl,_,rfl,?_⟩;by_cases hm:S (k:Int)=true
   ·rw[hm]
    refine iteF<|Zbb ⟨S,c,.val (.int (k:Int)),x5,x6,λx=>?_,by omega,?_⟩
    ·have hl:=(Zeg O hk).mp ((hS _).mp hm)
     rw[hS,Zhb O hk,hl];simp
    ·have hl:=(Zeg O hk).mp ((hS _).mp hm)
     rw[Zdy,if_neg (by rw[hl];exact Wag),Wa4];rfl
   ·have hl:leastB (onI ts o) k=true:=by
     cases z:leastB (onI ts o) k with
     |true=>rfl
     |false=>exact absurd ((hS _).mpr ((Zeg O hk).mpr z)) hm
    rw[Wcc.mpr hm];have ol:=Zoz O (e:=(k:Int)) (by omega) (by omega);refine iteT<|Zal<|Zaw<|Zav<|Zab<|Zac rfl<|Zab<|Zac rfl<|Zab<|Zac rfl<|Zaf ⟨n,ts,o,k,rfl,hW,hO,hk,λg hg hlg hin=>?_⟩;have egk:g=k:=by
     have a:=of_decide_eq_true (show decide (∀x∈orb (onI ts o) (k:Int),(k:Int)<=x)=true from hl) _ hin;have b:=of_decide_eq_true (show decide (∀x∈orb (onI ts o) (g:Int),(g:Int)<=x)=true from hlg) _<|Zbl O (by omega) (by omega) hin;omega
    subst egk;refine Zal<|Zi9 rfl rfl<|Zac rfl ⟨_,_,rfl,rfl,?_,?_⟩
    ·rw[Wab,Wan,Wa8];exact small1000 (by omega)
    refine Zea<|Zdp<|Zac rfl ⟨_,rfl,λi Δ=>∃(S2:Int->Bool) (c2:Nat) (x6:L2.Slot),(∀x,S2 x=true↔MetTo (onI ts o) g x\/x∈(orb (onI ts o) (g:Int)).take i)/\c2<=48*g+i /\ Δ = [.val (encWeb n ts),.val (encOrd o),.own (.lst ((Wal (lone o) []++facesTo (onI ts o) g).map rowD++[rowD (orb (onI ts o) (g:Int))])),.own (.set S2 c2),.val (.int (g:Int)),.val (rowD<|orb (onI ts o) (g:Int)),x6],⟨S,c,_,λx=>by rw[Wc6];simp[hS],by omega,rfl⟩,?_,?_⟩
    ·rintro i d Δ3 hd ⟨S2,c2,x6,hS2,hc2,rfl⟩
     rw[Wad]at hd;cases z:(orb (onI ts o) (g:Int))[i]? with
     |none=>rw[z]at hd;cases hd
     |some y=>
      rw[z]at hd;have hd:D.int y=d:=by simpa using hd
      subst hd;have hi:=(Wah.mp z).1;refine Zbg<|Zvs rfl rfl<|Zac rfl ⟨_,S2,c2,y,rfl,rfl,rfl,by omega,_,_,_,λx=>?_,?_,rfl⟩
      ·rw[Wca,z]
       simp only[Bool.or_eq_true,decide_eq_true_eq,hS2,Option.toList_some,Wbd,Wa7];exact or_assoc
      ·split <;> omega
    ·rintro Δ3 ⟨S2,c2,x6,hS2,hc2,rfl⟩
     rw[Wab]at hS2 hc2;rw[Wbv]at hS2;refine⟨S2,c2,.val (.int (g:Int)),.val<|rowD<|orb (onI ts o) (g:Int),x6,λx=>?_,by omega,?_⟩
     ·rw[hS2,Zhb O hk,hl];simp
     ·rw[Zdy,if_pos hl,<- Wbe,Waz (l₂:=[orb (onI ts o) (g:Int)])]
      rfl
  ·rintro Δ2 ⟨S,c,x4,x5,x6,hS,hc,rfl⟩
   rw[Zbu];exact⟨S,c,_,_,_,rfl⟩
 rintro Δ1 ⟨S,c,x4,x5,x6,rfl⟩;have al:=Zfl hW hO;refine Zfr<|Zkb<|Zab<|Zev rfl<|Zaf ⟨allF ts o,Or.inl rfl,Zj5 hW hO,λms hpm hsm=>?_⟩;cases Zho hsm (Zfx hW hO) hpm;exact⟨_,rfl,q⟩
end
def rowPairsF (r:List Int):List (Int × Int):=(Wap r.length).map λk=>(r.getD k 0,r.getD ((k+1) % r.length) 0)
theorem Zeo (r:List Int):(rowPairsF r).length=r.length:=by simp[rowPairsF]
theorem Zeq {r:List Int}{k:Nat}(h:k<r.length):(rowPairsF r)[k]?=some (r.getD k 0,r.getD ((k+1) % r.length) 0):=by
 unfold rowPairsF;rw[Wad,Wc3 h];rfl
theorem Zik (r:List Int):(rowPairsF r).map (·.1)=r:=by
 apply Wcb;intro k;rw[Wad];by_cases h:k<r.length
 ·rw[Zeq h,Waa h,Wac,Waa h];rfl
 ·rw[Wb9 (by rw[Zeo];omega),Wb9 (by omega)];rfl
theorem Zoo {r:List Int}{x:Int}(h:x∈r):(x,nextIn r x)∈rowPairsF r:=by
 obtain⟨h1,h2,_⟩:=Zb0 h;refine Way (i:=r.idxOf x) ?_;rw[Zeq h1];congr 1;rw[Wac,h2];rfl
theorem Zds (o:List (List Int)):(o.flatMap rowPairsF).map (·.1)=o.flatten:=by
 induction o with
 |nil=>rfl
 |cons r o ih=>rw[List.flatMap_cons,Waz,ih,Zik,Wbw]
theorem Znq {n:Int}{ts:List (Int × Int)}{o:List (List Int)}(hW:WebOk n ts) (hO:OrdOk n ts o) {e:Nat}(he:e<2*ts.length):valD ((o.flatMap rowPairsF).map encPair) (.inl (e:Int))=some (.int<|folOf ts o e):=by
 obtain⟨g1,g2,g3⟩:=Zb1 hW hO he;exact Zxh (by rw[Zds];exact hO.flat)<|List.mem_flatMap.mpr ⟨_,Way g1,Zoo g3⟩
theorem Zoa {A B:List (Int × Int)}{y:Int × Int}(h:((A++y::B).map (·.1)).Nodup):y.1 ∉ A.map (·.1):=by
 rw[Waz,Wb3]at h;intro hm;exact h.2.2 _ hm _ (by rw[Wbg];exact Wam) rfl
def encMet (x:Int):Key × D:=(.inl x,.bl true)
theorem Zu6 (ms:List Int) (x:Int):(valD (ms.map encMet) (.inl x)).isSome=decide (x∈ms):=by
 induction ms with
 |nil=>rfl
 |cons y ms ih=>
  unfold valD at ih ⊢;rw[Wbg];by_cases h:y=x
  ·subst h
   rw[Wdq (by simp[encMet])];simp
  ·rw[Wcp (by simp[encMet];exact h),ih]
   have:(x∈y::ms)↔x∈ms:=by simp[Ne.symm h]
   exact decide_eq_decide.mpr this.symm
theorem Zuz {ms:List Int}{x:Int}(h:x ∉ ms):putD (ms.map encMet) (.inl x) (.bl true)=(ms++[x]).map encMet:=by
 unfold putD;rw[if_neg,Waz]
 ·rfl
 ·rw[List.any_map,List.any_eq_true]
  rintro⟨z,hz,e⟩;have e:(Sum.inl z:Key)=Sum.inl x:=of_decide_eq_true e;injection e with e
  exact h (e ▸ hz)
def fLFaces:NSp:=λds Post=>∃n ts o,ds=[encOrd o]/\WebOk n ts/\OrdOk n ts o/\Post ((allF ts o).map rowD)
section
variable {P:Program}{w:World}{K:W.Frag}{mg:Str->Option Value}{base:Heap}{f:Addr}{fd:FuncData}
theorem Zi0 {K:W.Frag}{n:Int}{ts:List (Int × Int)}{o:List (List Int)}(hW:WebOk n ts) (hO:OrdOk n ts o) (R:List L2.Slot) {y2 y3:L2.Slot}{rt:D->Evt->Prop}{bk ct:Evt->Prop}{ro:OD->Evt->Prop}:JS K (tFor (iSeq K<|tVar 0) (gName 2)<|tFor (iRng1<|tCons (tCB (rLenU K)<|tCons (tVar 2) tNil) tNil) (gName 3)<|tAsg (tOp (rIxU K) (tVar 2)<|tOp (rI (λx j=>0<j) λi j=>V.int<|i % j) (tOp (rAddU K) (tVar 3)<|tC<|V.int 1)<|tCB (rLenU K)<|tCons (tVar 2) tNil)<|gSub (tVar 1) (tOp (rIxU K) (tVar 2)<|tVar 3) rSetU)
  ([.val (encOrd o),.own (.dct []),y2,y3]++R) ⟨λΔ=>∃x2 x3:L2.Slot,Δ = [.val (encOrd o),.own (.dct ((o.flatMap rowPairsF).map encPair)),x2,x3]++R,rt,bk,ct,ro⟩:=by
 have hw:=hW.len;have hfe:=hO.flat_eq hW;have hpn:((o.flatMap rowPairsF).map (·.1)).Nodup:=by rw[Zds];exact hO.flat
 have hpl:(o.flatMap rowPairsF).length=2*ts.length:=by rw[<- hfe,<- Zds,Wab]
 refine Zea<|Zdp<|Zac rfl ⟨o.map encRow,rfl,λi Δ=>∃x2 x3:L2.Slot,Δ = [.val (encOrd o),.own (.dct (((o.take i).flatMap rowPairsF).map encPair)),x2,x3]++R,⟨_,_,rfl⟩,?_,?_⟩
 ·rintro i d Δ2 hd ⟨x2,x3,rfl⟩
  rw[Wad]at hd;cases z:o[i]? with
  |none=>rw[z]at hd;cases hd
  |some r=>
   rw[z]at hd;have hd:encRow r=d:=by simpa using hd
   subst hd;have hi:i<o.length:=(Wah.mp z).1;have tk:o.take (i+1)=o.take i++[r]:=by rw[Wca,z];rfl
   have eo:o.flatMap rowPairsF=(o.take i).flatMap rowPairsF++(rowPairsF r++(o.drop<|i+1).flatMap rowPairsF):=by
    conv=>lhs;rw[<- Wbu (i+1) o,tk]
    rw[Wem,Wem];simp[Wbe]
   have hrl:r.length<=48:=by have:=(hO.row i r z).len;omega
   refine Zbg<|Zea<|Zbq<|Zab<|Za0<|Zab<|Zac rfl<|Zaf<|Za7 (Or.inr rfl)<|Zaf ⟨_,rfl,?_,?_,?_⟩
   ·rw[Wab];omega
   ·rw[Wab];omega
   rw[Wab,Wae];refine⟨λk Δ=>∃x3:L2.Slot,Δ = [.val (encOrd o),.own (.dct (((o.take i).flatMap rowPairsF++(rowPairsF r).take k).map encPair)),.val (encRow r),x3]++R,⟨_,by rw[Wc6,Wa4];rfl⟩,?_,?_⟩
   ·rintro k d Δ2 hd ⟨x3,rfl⟩
    obtain⟨hk,rfl⟩:=Zce hd;have hg:=Zeq hk;have a1:atI (r.map D.int) (0+(k:Int))=some (.int<|r.getD k 0):=by
     rw[Wb1];exact Zby (by rw[Wad,Wac,Waa hk];rfl)
    have hm:(k+1) % r.length<r.length:=Wew _ (by omega);have a2:atI (r.map D.int) ((0+(k:Int)+1) % (r.length:Int))=some (.int<|r.getD ((k+1) % r.length) 0):=by
     rw[show (0+(k:Int)+1) % (r.length:Int)=(((k+1) % r.length:Nat):Int) by push_cast;rw[Wb1]];exact Zby (by rw[Wad,Wac,Waa hm];rfl)
    refine Zbg<|Zpe<|Zaj<|Zac rfl<|Zaj<|Zaj<|Zac rfl<|Zak<|Zcd ?_;refine Za0<|Zab<|Zac rfl<|Zaf<|Za7 (Or.inr rfl) ?_;rw[Wab];refine jr_I (by show (0:Int)<_;omega)<|Zas a2 ⟨⟨_,_,rfl,rfl⟩,Zaj<|Zac rfl<|Zac rfl<|Zas a1 ⟨_,_,_,rfl,rfl,rfl,?_,?_⟩⟩
    ·rw[Wab,Wan,Wa5]
     rw[eo,Wan,Wan,Zeo]at hpl;exact small1000 (by omega)
    ·have eT:(rowPairsF r).take (k+1)=(rowPairsF r).take k++[(r.getD k 0,r.getD ((k+1) % r.length) 0)]:=by rw[Wca,hg];rfl
     have eD:rowPairsF r=(rowPairsF r).take k++(r.getD k 0,r.getD ((k+1) % r.length) 0)::(rowPairsF r).drop (k+1):=by
      conv=>lhs;rw[<- Wbu (k+1) (rowPairsF r),eT]
      simp
     have hk2:=hpn;rw[eo,eD,Wbe,<- Wbe,We2]at hk2;refine⟨.val (.int (0+(k:Int))),?_⟩;show L2.Slot.val _::L2.Slot.own (.dct<|putD _ _ _)::_::_::_=_;rw[Zwf (Zoa hk2),eT,Wbe];rfl
   ·rintro Δ2 ⟨x3,rfl⟩
    rw[Zbu];refine⟨.val<|encRow r,x3,?_⟩;rw[Wc8 (l:=rowPairsF r) (by rw[Zeo];exact Wak _),tk,Wem];simp
 ·rintro Δ2 ⟨x2,x3,rfl⟩
  rw[Wab,Wbv];exact⟨x2,x3,rfl⟩
theorem Zwn {Δ:Evt}{Pd:D->Evt->Prop}{n:Nat}{x:L2.Slot}{kvs:List (Key × D)}(hx:Δ[n]?=some x) (ho:x.od=some (.dct kvs)) (p:Pd (.int kvs.length) Δ):JE K (tCB (rLenU K)<|tCons (tVar n) tNil) Δ Pd:=λg G H σ Q k c=>by
 obtain⟨a,o,h1,h2,h3,h4,h5⟩:=k.own n x _ hx ho;cases o with
 |dK vs=>
  have hl:vs.length=kvs.length:=Paired.length h3;refine⟨.ref a,h1,.inr ⟨a,vs,rfl,h2,?_⟩⟩;rw[hl];exact c _ _ G H Δ k (Same.refl _) (.int _) p
 |_=>exact absurd h3 (λz=>z)
theorem Zr5 (mb:Mb mg) (C54:Callee P w K mg base 1 "_law_partner" ["_law_end"] (spD K fPart)) (F:Fun K "_law_faces" "_law_faces" Yaw f fd):FnOk P w K mg base CX0 2 f fd ["_law_order_here"] (spN K fLFaces):=by
 refine F.ok Yac (Zgq λds Post h=>by obtain⟨_,_,_,rfl,_⟩:=h;rfl) λcdv A outer s H vs Q E hr h=>?_;have hu:=Zbz hr;have hv:=Zka hr;refine⟨_,(Zae (Zat (i:=1) Yac.nd rfl (Or.inl rfl) Zjo)<|Zae (Zdt PassesOwn.never rfl (seqK K<|pv 0) (Zam (i:=2) Yac.nd rfl<|Or.inl rfl)<|Zah<|Zdt PassesOwn.never rfl (Zbk rfl (mb "range"<|by decide)<|Zaa (Zai (lenK K) rfl (mb "len"<|by decide) Za5<|Zaa (pv 2) Zad) Zad) (Zam (i:=3) Yac.nd rfl<|Or.inl rfl)<|Zah<|Zc1 (Zaq (ixK K hu) (pv 2) (Zap Zcv (Zap (addK K) (pv 3) Zag)<|Zai (lenK K) rfl (mb "len"<|by decide) Za5<|Zaa (pv 2) Zad) λ_ _=>rfl)<|Zfn (pv 1) (Zaq (ixK K hu) (pv 2) (pv 3) λ_ _=>rfl)<|setU hu)<|Zae (Zdg (i:=4) ["_law_row"] (show CompSc (defScope Yaw) ["_law_order_here","_law_behind","_law_row","_law_k","_law_found","_law_met","_law_end","_law_walk","_law_at"] _ [] [] from ⟨rfl,by decide +kernel,by decide +kernel,by decide +kernel,rfl,by decide +kernel⟩) rfl Yac.nd rfl (Or.inl rfl) (seqK K<|pv 0) (λ_ _ _ _ _=>(Zam (i:=0) (show List.Nodup (["_law_row"]:List Str) from by decide) rfl<|Or.inl rfl)) (λ_ _ _ _ _=>(Zc3<|Zao Zci (Zai (lenK K) rfl (mb "len"<|by decide) Za5<|Zaa (pv 0) Zad) Zag<|nomark _)) λ_ _ _ _ _=>(Zb8 Zad))<|Zae (Zat (i:=5) Yac.nd rfl (Or.inl rfl) Zjo)<|Zae (Zdt PassesOwn.never rfl (Zbk rfl (mb "range"<|by decide)<|Zaa (Zai (lenK K) rfl (mb "len"<|by decide) Za5<|Zaa (pv 1) Zad) Zad) (Zam (i:=6) Yac.nd rfl<|Or.inl rfl)<|Zae (Zat (i:=7) Yac.nd rfl (Or.inl rfl)<|Zg3 Zad)<|Zae (Zat (i:=8) Yac.nd rfl (Or.inl rfl)<|pv 6)<|Zae (Znl PassesOwn.never (Zao (notinK K hu) (pv 8) (pv 5) rfl)<|Zae (Zc1 Zkd<|Zfn (pv 5) (pv 8)<|setU hu)<|Zae (Zfd<|bmK K PySem.F.plainAttrs_list PySem.F.slot_list_append PySem.F.type_list_append Zdd (pv 7)<|Zaa (pv 8) Zad)<|Zah<|Zat (i:=8) Yac.nd rfl (Or.inl rfl)<|Zaq (ixK K hu) (pv 1) (Zax C54 (hr.mono<|by decide)<|Zaa (pv 8) Zad) λ_ _=>rfl)<|Zah<|Zcf (Zao Zk2 (Zai (lenK K) rfl (mb "len"<|by decide) Za5<|Zaa (pv 7) Zad) Zag<|nomark _) (Zah<|Zfd<|bmK K PySem.F.plainAttrs_list PySem.F.slot_list_append PySem.F.type_list_append Zdd (pv 4)<|Zaa (Zbj (tupK K) rfl (mb "tuple"<|by decide) Zb3<|Zaa (pv 7) Zad) Zad) Za4)<|Zah<|Zau<|Zai (sortGK K hv) rfl (mb "sorted"<|by decide) Ze5<|Zaa (pv 4) Zad),Zov (λds Post hf=>?_) h⟩;obtain⟨n,ts,o,rfl,hW,hO,q⟩:=hf;refine⟨by simp,?_⟩;dsimp only[startD,Wbk,Wbm,Wa6,Wal];have O:=Zcm hW hO;have hw:=hW.len;have hn:=hW.hi;have ho:=hO.len;have hlone:=Zl0 o;have hfe:=hO.flat_eq hW;have hpn:((o.flatMap rowPairsF).map (·.1)).Nodup:=by rw[Zds];exact hO.flat
 have hpl:(o.flatMap rowPairsF).length=2*ts.length:=by rw[<- hfe,<- Zds,Wab]
 refine Zal<|Zcz<|Zmp ?_;refine Zca (λΔ=>∃x2 x3:L2.Slot,Δ = [.val (encOrd o),.own (.dct ((o.flatMap rowPairsF).map encPair)),x2,x3,.any,.any,.any,.any,.any]) ?_ ?_
 ·exact Zi0 hW hO [.any,.any,.any,.any,.any]
 rintro Δ1 ⟨x2,x3,rfl⟩;refine Zal<|Zcz<|Zhe (by decide)<|Zdp<|Zac rfl ⟨_,rfl,?_,λd=>match d with|.tup ds=>decide ((ds.length:Int)=0)|_=>false,λ_=>.tup [],λi d hd=>?_,?_⟩
 ·rw[Wab];exact small1000 (by omega)
 ·rw[Wad]at hd
  cases z:o[i]? with
  |none=>rw[z]at hd;cases hd
  |some r=>
   rw[z]at hd;have hd:encRow r=d:=by simpa using hd
   subst hd;refine Zar<|Zaj<|Za0<|Zab<|Zac rfl<|Zaf<|Za7 (Or.inr rfl)<|Zak<|Zer ⟨_,rfl,rfl,?_⟩;by_cases hz:((r.map D.int).length:Int)=0
   ·rw[decide_eq_true hz]
    exact iteT<|Zb7<|Zaf ⟨by decide,rfl,_,rfl⟩
   ·rw[decide_eq_false hz]
    exact iteF ⟨_,rfl⟩
 rw[show o.map encRow=o.map rowD from rfl,Zkm o _ (λr=>by
  show decide (((r.map D.int).length:Int)=0)=r.isEmpty;cases r with
  |nil=>rfl
  |cons x t=>rw[Wab,Wat];exact decide_eq_false (by omega)) _ λ_=>rfl]
 refine Zal<|Zcz<|Zmp ?_;refine Zca (λΔ=>∃(ms:List Int) (x6 x7 x8:L2.Slot),Δ = [.val (encOrd o),.own (.dct ((o.flatMap rowPairsF).map encPair)),x2,x3,.own (.lst ((allF ts o).map rowD)),.own (.dct<|ms.map encMet),x6,x7,x8]) ?_ ?_
 ·refine Zea (Zbq<|Zab<|Zwn rfl rfl<|Zaf ⟨_,rfl,?_,?_,?_⟩)
  ·omega
  ·rw[Wab,hpl];omega
  rw[Wab,hpl,Wae];refine⟨λk Δ=>∃(ms:List Int) (x6 x7 x8:L2.Slot),(∀x,x∈ms↔MetTo (onI ts o) k x)/\ms.length<=48*k /\ Δ = [.val (encOrd o),.own (.dct ((o.flatMap rowPairsF).map encPair)),x2,x3,.own (.lst ((Wal (lone o) []++facesTo (onI ts o) k).map rowD)),.own (.dct<|ms.map encMet),x6,x7,x8],⟨[],.any,.any,.any,λx=>?_,by simp,?_⟩,?_,?_⟩
  ·constructor
   ·intro z;cases z
   ·rintro⟨e,he,_⟩;omega
  ·rw[show facesTo (onI ts o) 0=[] from rfl,Wa4];rfl
  ·rintro k d Δ2 hd ⟨ms,x6,x7,x8,hms,hml,rfl⟩
   obtain⟨hk,rfl⟩:=Zce hd;rw[Wb1];have h0:(0:Int)<=(k:Int):=by omega
   have h1:(k:Int)<((2*ts.length:Nat):Int):=by omega
   have fl:=Zft (onI ts o) k;refine Zbg<|Zal<|Zcz<|Zi6<|Zaf ⟨by decide,?_⟩;refine Zal<|Zaw<|Zac rfl ?_;refine Zca (λΔ=>∃j:Nat,((j=0/\MetTo (onI ts o) k (k:Int))\/(IsOrb (onI ts o) (k:Int) j/\¬ MetTo (onI ts o) k (k:Int))) /\ Δ = [.val (encOrd o),.own (.dct ((o.flatMap rowPairsF).map encPair)),x2,x3,.own (.lst ((Wal (lone o) []++facesTo (onI ts o) k).map rowD)),.own (.dct ((ms++walkL (onI ts o) (k:Int) j).map encMet)),.val (.int (k:Int)),.own (.lst ((walkL (onI ts o) (k:Int) j).map .int)),.val (.int<|iter (onI ts o) (k:Int) j)]) ?_ ?_
   ·refine Znc (fun μ Δ=>∃j:Nat,(j=0\/¬ MetTo (onI ts o) k (k:Int))/\NdTo (onI ts o) (k:Int) j /\ μ = 2*ts.length-j /\ Δ = [.val (encOrd o),.own (.dct ((o.flatMap rowPairsF).map encPair)),x2,x3,.own (.lst ((Wal (lone o) []++facesTo (onI ts o) k).map rowD)),.own (.dct ((ms++walkL (onI ts o) (k:Int) j).map encMet)),.val (.int (k:Int)),.own (.lst ((walkL (onI ts o) (k:Int) j).map .int)),.val (.int<|iter (onI ts o) (k:Int) j)]) ⟨_,0,.inl rfl,λi j hi=>by omega,rfl,?_⟩ ?_
    ·rw[show walkL (onI ts o) (k:Int) 0=[] from rfl,Wa4];rfl
    rintro μ Δ1 ⟨j,hj,nd,rfl,rfl⟩;have hjm:=Zkj O h0 h1 nd;have r:=Zcs O h0 h1 j;refine Zar<|Zxe<|Zac rfl ⟨_,_,_,rfl,rfl,rfl,_,rfl,?_⟩;rw[Zu6];by_cases hb:iter (onI ts o) (k:Int) j∈ms++walkL (onI ts o) (k:Int) j
    ·rw[decide_eq_true hb]
     refine iteF ⟨j,?_,rfl⟩;rcases Wbd.mp hb with hb|hb
     ·have hM:MetTo (onI ts o) k (k:Int):=(Znf O (by omega) h0 h1 j).mp ((hms _).mp hb)
      rcases hj with hj|hj
      ·exact .inl ⟨hj,hM⟩
      ·exact absurd hM hj
     ·obtain⟨i,hi,e⟩:=Zba.mp hb
      have hj1:1<=j:=by omega
      have hj2:¬ MetTo (onI ts o) k (k:Int):=by
       rcases hj with hj|hj
       ·omega
       ·exact hj
      refine .inr ⟨⟨by omega,?_,nd⟩,hj2⟩;apply Classical.byContradiction;intro hne;have:=Zkf O h0 h1 hj1 nd hne i j (by omega) (by omega) e;omega
    ·rw[decide_eq_false hb]
     rw[Wbd,not_or]at hb;have hM:¬ MetTo (onI ts o) k (k:Int):=λz=>hb.1 ((hms _).mpr ((Znf O (by omega) h0 h1 j).mpr z));have nd2:NdTo (onI ts o) (k:Int) (j+1):=by
      by_cases hj0:j=0
      ·subst hj0;exact Zo4 O h0 h1
      ·refine Zkf O h0 h1 (by omega) nd λz=>hb.2<|Zba.mpr ⟨0,by omega,z.symm⟩
     have hjm2:=Zkj O h0 h1 nd2;refine iteT<|Zal<|Zpe<|Zsr ⟨⟨_,_,rfl,rfl⟩,Zac rfl ⟨_,_,_,rfl,rfl,rfl,?_,?_⟩⟩
     ·rw[Wab,Wan,Zb9]
      refine Wcv (m:=48*48+48) (by omega) (by decide)
     refine Zal<|Zi9 rfl rfl<|Zac rfl ⟨_,_,rfl,rfl,?_,?_⟩
     ·rw[Wab,Zb9];exact small1000 (by omega)
     have hp:=Zbo (show (iter (onI ts o) (k:Int) j).toNat<2*ts.length by omega);refine Zaw<|Zvi rfl rfl<|Zav<|Zab<|Zac rfl<|Zaf ⟨(iter (onI ts o) (k:Int) j).toNat,?_,_,_,_,_,rfl,rfl,rfl,Znq hW hO hp,?_⟩
     ·rw[show (((iter (onI ts o) (k:Int) j).toNat:Nat):Int)=iter (onI ts o) (k:Int) j by omega]
     refine⟨2*ts.length-(j+1),by omega,j+1,.inr hM,nd2,rfl,?_⟩;show [_,_,_,_,_,L2.Slot.own (.dct<|putD _ _ _),_,L2.Slot.own (.lst _),_]=_;rw[Zuz (by rw[Wbd,not_or];exact hb),Zi2,Wbe,Waz (f:=D.int)];rfl
   rintro Δ1 ⟨j,hj,rfl⟩;refine Zcc<|Zar<|Zaj<|Zmt rfl rfl<|Zak<|Ze2 ⟨_,rfl,?_⟩;rw[Wab,Zb9];rcases hj with ⟨rfl,hM⟩|⟨hI,hM⟩
   ·have hl:=(Zeg O hk).mp hM
    refine iteF<|Zbb ⟨ms,.val (.int (k:Int)),.own (.lst []),.val (.int (k:Int)),λx=>?_,by omega,?_⟩
    ·rw[hms,Zhb O hk,hl];simp
    ·rw[Zdy,if_neg (by rw[hl];exact Wag),Wa4,show walkL (onI ts o) (k:Int) 0=[] from rfl,Wa4]
     rfl
   ·have hl:leastB (onI ts o) k=true:=by
     cases z:leastB (onI ts o) k with
     |true=>rfl
     |false=>exact absurd ((Zeg O hk).mpr z) hM
    have hjm:=Zkj O h0 h1 hI.nd;have eo:=hI.orb;rw[show decide ((0:Int)<(j:Int))=true from decide_eq_true (by have:=hI.pos;omega)];refine iteT<|Zi9 rfl rfl<|Za0<|Zab<|Zev rfl<|Zaf<|Zez (Or.inl rfl) ⟨_,_,rfl,rfl,?_,ms++walkL (onI ts o) (k:Int) j,.val (.int (k:Int)),.val (.lst ((walkL (onI ts o) (k:Int) j).map .int)),.val (.int<|iter (onI ts o) (k:Int) j),λx=>?_,?_,?_⟩
    ·rw[Wab,Wan,Wa8];exact small1000 (by omega)
    ·rw[Wbd,hms,Zhb O hk,hl,<- eo];simp
    ·rw[Wan,Zb9];omega
    ·rw[Zdy,if_pos hl,<- Wbe,Waz (l₂:=[orb (onI ts o) (k:Int)]),eo]
     rfl
  ·rintro Δ2 ⟨ms,x6,x7,x8,hms,hml,rfl⟩
   rw[Zbu];exact⟨ms,_,_,_,rfl⟩
 rintro Δ1 ⟨ms,x6,x7,x8,rfl⟩;have al:=Zfl hW hO;refine Zfr<|Zkb<|Zab<|Zev rfl<|Zaf ⟨allF ts o,Or.inl rfl,Zj5 hW hO,λms hpm hsm=>?_⟩;cases Zho hsm (Zfx hW hO) hpm;exact⟨_,rfl,q⟩
theorem Zfi {l:List Int}{x:Int}{n:Nat}(hl:l.length=n) (h0:0<=x) (h1:x<(n:Int)):atI (l.map D.int) x=some (.int<|l.getD x.toNat 0):=by
 rw[show x=((x.toNat:Nat):Int) by omega];refine Zby ?_;rw[Wad,Wac,Wae,Waa (by omega:x.toNat<l.length)];rfl
theorem Zlz (mb:Mb mg) (F:Fun K "parts_of" "parts_of" Yai f fd):FnOk P w K mg base CX0 1 f fd ["web"] (spN K fParts):=by
 refine F.ok Yad (Zgq λds Post h=>by obtain⟨_,_,rfl,_⟩:=h;rfl) λcdv A outer s H vs Q E hr h=>?_;have hu:=Zbz hr;have hv:=Zka hr;refine⟨_,(Zae (Zc1 (pv 0)<|gtupK (n:=2) K rfl<|Za8 (Zam (i:=1) Yad.nd rfl<|Or.inr rfl)<|Za8 (Zam (i:=2) Yad.nd rfl<|Or.inl rfl) Zdr)<|Zae (Zat (i:=3) Yad.nd rfl (Or.inr rfl)<|Zgy rfl rfl (mb "list"<|by decide) rfl (mb "range"<|by decide)<|Zaa (pv 1) Zad)<|Zae (Zdt PassesOwn.never rfl (seqK K<|pv 2) (gtupK (n:=2) K rfl<|Za8 (Zam (i:=4) Yad.nd rfl<|Or.inl rfl)<|Za8 (Zam (i:=5) Yad.nd rfl<|Or.inl rfl) Zdr)<|Zae (Zat (i:=6) Yad.nd rfl (Or.inr rfl)<|Zai (Zf0 rfl) rfl (mb "min"<|by decide) Zgt<|Zaa (Zaq (ixK K hu) (pv 3) (pv 4) λ_ _=>rfl)<|Zaa (Zaq (ixK K hu) (pv 3) (pv 5) λ_ _=>rfl) Zad)<|Zae (Zat (i:=7) Yad.nd rfl (Or.inr rfl)<|Zai (Zig rfl) rfl (mb "max"<|by decide) Znm<|Zaa (Zaq (ixK K hu) (pv 3) (pv 4) λ_ _=>rfl)<|Zaa (Zaq (ixK K hu) (pv 3) (pv 5) λ_ _=>rfl) Zad)<|Zah<|Zat (i:=3) Yad.nd rfl (Or.inr rfl)<|Zcr ["first"] (show CompSc (defScope Yai) ["web","many","ties","firsts","a","b","low","high"] _ ["low","high"] [6,7] from ⟨rfl,by decide +kernel,by decide +kernel,by decide +kernel,rfl,by decide +kernel⟩) rfl (seqK K<|pv 3) (λ_ _ _ _ _=>(Zam (i:=0) (show List.Nodup (["first","low","high"]:List Str) from by decide) rfl<|Or.inl rfl)) (λ_ _ _ _ _=>Zd2) λ_ _ _ _ _=>(Zga (Zao Zci (pv 0) (pv 2)<|nomark _) (pv 1)<|pv 0))<|Zah<|Zau<|Zlh ["first"] (show CompScK (defScope Yai) ["web","many","ties","firsts","a","b","low","high"] "first" _ ["many","firsts"] [1,3] from ⟨rfl,by decide +kernel,by decide +kernel,by decide +kernel,by decide +kernel,rfl,by decide +kernel⟩) rfl (seqK K<|Zi5 rfl rfl rfl (mb "sorted"<|by decide) rfl (mb "set"<|by decide)<|Zaa (pv 3) Zad) (λ_ _ _ _ _=>(Zam (i:=0) (show List.Nodup (["first","many","firsts"]:List Str) from by decide) rfl<|Or.inr rfl)) (λ_ _ _ _ _=>Zd2) λ_ _ _ _ _=>(Zcr ["place"] (show CompSc (relab (defScope Yai) _) ["first","many","firsts"] _ ["first","firsts"] [0,2] from ⟨rfl,by decide +kernel,by decide +kernel,by decide +kernel,rfl,by decide +kernel⟩) rfl (Zbk rfl (mb "range"<|by decide)<|Zaa (pv 1) Zad) (λ_ _ _ _ _=>(Zam (i:=0) (show List.Nodup (["place","first","firsts"]:List Str) from by decide) rfl<|Or.inl rfl)) (λ_ _ _ _ _=>(Zc3<|Zao Zci (Zaq (ixK K hu) (pv 2) (pv 0) λ_ _=>rfl) (pv 1)<|nomark _)) λ_ _ _ _ _=>(pv 0))),Zov (λds Post hf=>?_) h⟩;obtain⟨n,ts,rfl,hW,q⟩:=hf;refine⟨by simp,?_⟩;dsimp only[startD,Wbk,Wbm,Wa6,Wal];have hn0:=hW.lo;have hn1:=hW.hi;have hts:=hW.len;obtain⟨N,rfl⟩:∃N:Nat,n=(N:Int):=⟨n.toNat,by omega⟩;rw[Wae]at q;refine Zal<|Zg2<|Zac rfl<|Zfp rfl<|Zbe<|Zbg<|Zbe<|Zbg<|Zd6 ?_;refine Zal<|Zaw<|Zbr<|Zy5<|Zab<|Zac rfl<|Zaf ⟨N,rfl,by omega,_,rfl,?_⟩;have e0:(Wap N).map (λi:Nat=>D.int (i:Int))=(marksL N<|ts.take 0).map D.int:=by
  show _=((Wap N).map λi:Nat=>(i:Int)).map D.int;rw[Wbb];rfl
 rw[e0];refine Zca (λΔ=>∃(x4 x5 x6 x7:L2.Slot),Δ = [.val (encWeb (N:Int) ts),.val (.int (N:Int)),.val (.tup<|ts.map encTie),.val (.lst ((marksL N ts).map D.int)),x4,x5,x6,x7]) ?_ ?_
 ·refine Zea (Zdp<|Zac rfl ⟨_,rfl,λi Δ=>∃(x4 x5 x6 x7:L2.Slot),Δ = [.val (encWeb (N:Int) ts),.val (.int (N:Int)),.val (.tup<|ts.map encTie),.val (.lst ((marksL N<|ts.take i).map D.int)),x4,x5,x6,x7],⟨_,_,_,_,rfl⟩,?_,?_⟩)
  ·rintro i d Δ2 hd ⟨x4,x5,x6,x7,rfl⟩
   rw[Wad]at hd;cases z:ts[i]? with
   |none=>rw[z]at hd;cases hd
   |some t=>
    rw[z]at hd;have hd:encTie t=d:=by simpa using hd
    subst hd;have ht:=hW.tie t<|Way z;have hl:=Zbh N<|ts.take i;have hs:=Zc6 (n:=N) z;obtain⟨l,el⟩:∃l,marksL N (ts.take i)=l:=⟨_,rfl⟩;rw[el]at hl hs ⊢;have a1:=Zfi hl ht.1 ht.2.1;have a2:=Zfi hl ht.2.2.1 ht.2.2.2;refine Zfp rfl<|Zbe<|Zbg<|Zbe<|Zbg<|Zd6 ?_;refine Zal<|Zaw<|Za0<|Zab<|Zaj<|Zac rfl<|Zac rfl<|Zc4 a1<|Zab<|Zaj<|Zac rfl<|Zac rfl<|Zc4 a2<|Zaf<|Zgv ?_;refine Zal<|Zaw<|Za0<|Zab<|Zaj<|Zac rfl<|Zac rfl<|Zc4 a1<|Zab<|Zaj<|Zac rfl<|Zac rfl<|Zc4 a2<|Zaf<|Zgv ?_;refine Zaw<|Zbw (by decide)<|Ze3<|Zac rfl ⟨_,Or.inl rfl,?_,λ_=>true,λd=>match d with|.int g=>.int (if g=hiI (l.getD t.1.toNat 0) (l.getD t.2.toNat 0) then loI (l.getD t.1.toNat 0) (l.getD t.2.toNat 0) else g)|d=>d,λj d hd=>?_,?_⟩
    ·rw[Wab];exact small1000 (by omega)
    ·rw[Wad]at hd
     cases zz:l[j]? with
     |none=>rw[zz]at hd;cases hd
     |some g=>
      rw[zz]at hd;have hd:D.int g=d:=by simpa using hd
      subst hd;refine Zd4 ⟨rfl,Zgg<|Zar<|Zaj<|Zac rfl<|Zac rfl<|Zer ⟨_,rfl,?_⟩⟩;show if decide (g=hiI (l.getD t.1.toNat 0) (l.getD t.2.toNat 0))=true then _ else _
      by_cases hg:g=hiI (l.getD t.1.toNat 0) (l.getD t.2.toNat 0)
      ·rw[decide_eq_true hg]
       refine iteT<|Zac rfl ⟨?_,_,rfl⟩;dsimp only;rw[if_pos hg];rfl
      ·rw[decide_eq_false hg]
       refine iteF<|Zac rfl ⟨?_,_,rfl⟩;dsimp only;rw[if_neg hg]
    ·have e1:((l.map D.int).filter λ_=>true).map (λd=>match d with|.int g=>D.int (if g=hiI (l.getD t.1.toNat 0) (l.getD t.2.toNat 0) then loI (l.getD t.1.toNat 0) (l.getD t.2.toNat 0) else g)|d=>d)=(marksL N<|ts.take<|i+1).map D.int:=by
      rw[hs,Wbl.mpr (by simp),Wbb];unfold mergeL;rw[Wbb];rfl
     rw[e1];exact⟨_,_,_,_,rfl⟩
  ·rintro Δ2 ⟨x4,x5,x6,x7,rfl⟩
   rw[Wab,Wbv];exact⟨_,_,_,_,rfl⟩
 rintro Δ1 ⟨x4,x5,x6,x7,rfl⟩;have hl:=Zbh N ts;refine Zfr<|Zhe (by decide)<|Ze3<|Zbr<|Zyc<|Zab<|Zac rfl<|Zaf ⟨_,rfl,by omega,λms m1 m2=>⟨_,rfl,_,Or.inl rfl,?_,λ_=>true,λd=>match d with|.int g=>lstI (partI (marksL N ts) N g)|d=>d,λi d hd=>?_,?_⟩⟩
 ·have:=Firsts.len ⟨m1,m2⟩
  rw[Wab];exact small1000 (by omega)
 ·rw[Wad]at hd
  cases zz:ms[i]? with
  |none=>rw[zz]at hd;cases hd
  |some g=>
   rw[zz]at hd;have hd:D.int g=d:=by simpa using hd
   subst hd;refine Zd4 ⟨rfl,Zbw (by decide)<|Zbq<|Zab<|Zac rfl<|Zaf ⟨_,rfl,by omega,by omega,?_,λd=>match d with|.int p=>decide ((marksL N ts).getD p.toNat 0=g)|_=>false,λd=>d,λj d hd=>?_,?_⟩⟩
   ·rw[Zbu];exact small1000 (by omega)
   ·obtain⟨hj,rfl⟩:=Zce hd
    refine Zar<|Zaj<|Zaj<|Zac rfl<|Zac rfl<|Zc4 (Zfi hl (by omega)<|by omega)<|Zac rfl<|Zer ⟨_,rfl,rfl,?_⟩;split
    ·exact Zac rfl ⟨rfl,_,rfl⟩
    ·exact⟨_,rfl⟩
   ·refine⟨?_,_,rfl⟩
    rw[Wae];exact Zuh _ _ _ _ (λ_=>rfl) _ λ_=>rfl
 ·refine⟨_,rfl,?_⟩
  rw[Zra (l:=marksL N ts) (n:=N) _ (λ_=>rfl) _ λ_=>rfl];exact q ms ⟨m1,m2⟩
end
def stepM (l:List Int) (h lo:Int) (k:Nat):List Int:=(l.take k).map (λf=>if f=h then lo else f)++l.drop k
theorem Zhp (l:List Int) (h lo:Int) (k:Nat):(stepM l h lo k).length=l.length:=by
 unfold stepM;rw[Wan,Wab,Wa5,Wbr];omega
theorem Zrm {l:List Int}{h lo:Int}{k:Nat}(hk:k<l.length):(stepM l h lo k)[k]?=some l[k]:=by
 unfold stepM;rw[Wa1 (by rw[Wab,Wa5];omega),Wab,Wa5,Wei (Wb0 hk),Weg,Wdb];exact Waa hk
theorem Znz {l:List Int}{h lo:Int}{k:Nat}(hk:k<l.length):stepM l h lo (k+1)=(stepM l h lo k).set k (if l[k]=h then lo else l[k]):=by
 apply Wcb;intro j;rw[Wcz,Zhp];unfold stepM;rcases Wex j k with hj|hj|hj
 ·rw[if_neg (by omega),Wbc (by rw[Wab,Wa5];omega),Wbc (by rw[Wab,Wa5];omega),Wad,Wad,Wd0,Wd0,if_pos (by omega),if_pos (by omega)]
 ·subst hj
  rw[if_pos rfl,if_pos hk,Wbc (by rw[Wab,Wa5];omega),Wad,Wd0,if_pos (by omega),Waa hk];rfl
 ·rw[if_neg (by omega),Wa1 (by rw[Wab,Wa5];omega),Wa1 (by rw[Wab,Wa5];omega),Wab,Wab,Wa5,Wa5,Wdb,Wdb]
  congr 1;omega
theorem Zo7 {l:List Int}{h lo:Int}:stepM l h lo l.length=l.map λf=>if f=h then lo else f:=by
 unfold stepM;rw[Wbv,List.drop_length,Wa4]
section
variable {P:Program}{w:World}{K:W.Frag}{mg:Str->Option Value}{base:Heap}{f:Addr}{fd:FuncData}
theorem Zq6 (mb:Mb mg) (F:Fun K "_law_parts" "_law_parts" Yan f fd):FnOk P w K mg base CX0 1 f fd ["_law_web_here"] (spN K fParts):=by
 refine F.ok Yal (Zgq λds Post h=>by obtain⟨_,_,rfl,_⟩:=h;rfl) λcdv A outer s H vs Q E hr h=>?_;have hu:=Zbz hr;have hv:=Zka hr;refine⟨_,(Zae (Zat (i:=1) Yal.nd rfl (Or.inr rfl)<|Zgy rfl rfl (mb "list"<|by decide) rfl (mb "range"<|by decide)<|Zaa (Zaq (ixK K hu) (pv 0) Zag λ_ _=>rfl) Zad)<|Zae (Zdt PassesOwn.never rfl (seqK K<|Zaq (ixK K hu) (pv 0) Zag λ_ _=>rfl) (gtupK (n:=2) K rfl<|Za8 (Zam (i:=2) Yal.nd rfl<|Or.inl rfl)<|Za8 (Zam (i:=3) Yal.nd rfl<|Or.inl rfl) Zdr)<|Zae (Zmz (i:=4) (j:=5) rfl Yal.nd rfl rfl (by decide) rfl rfl (Zaa (Zai (Zf0 rfl) rfl (mb "min"<|by decide) Zgt<|Zaa (Zaq (ixK K hu) (pv 1) (pv 2) λ_ _=>rfl)<|Zaa (Zaq (ixK K hu) (pv 1) (pv 3) λ_ _=>rfl) Zad)<|Zaa (Zai (Zig rfl) rfl (mb "max"<|by decide) Znm<|Zaa (Zaq (ixK K hu) (pv 1) (pv 2) λ_ _=>rfl)<|Zaa (Zaq (ixK K hu) (pv 1) (pv 3) λ_ _=>rfl) Zad) Zad) rfl)<|Zah<|Zdt PassesOwn.never rfl (Zbk rfl (mb "range"<|by decide)<|Zaa (Zaq (ixK K hu) (pv 0) Zag λ_ _=>rfl) Zad) (Zam (i:=6) Yal.nd rfl<|Or.inl rfl)<|Zah<|Zcf (Zao Zci (Zaq (ixK K hu) (pv 1) (pv 6) λ_ _=>rfl) (pv 5)<|nomark _) (Zah<|Zc1 (pv 4)<|Zfn (pv 1) (pv 6)<|setU hu) Za4)<|Zah<|Zau<|Zlh ["_law_first"] (show CompScK (defScope Yan) ["_law_web_here","_law_marks","_law_a","_law_b","_law_low","_law_high","_law_place"] "_law_first" _ ["_law_web_here","_law_marks"] [0,1] from ⟨rfl,by decide +kernel,by decide +kernel,by decide +kernel,by decide +kernel,rfl,by decide +kernel⟩) rfl (seqK K<|Zi5 rfl rfl rfl (mb "sorted"<|by decide) rfl (mb "set"<|by decide)<|Zaa (pv 1) Zad) (λ_ _ _ _ _=>(Zam (i:=0) (show List.Nodup (["_law_first","_law_web_here","_law_marks"]:List Str) from by decide) rfl<|Or.inr rfl)) (λ_ _ _ _ _=>Zd2) λ_ _ _ _ _=>(Zcr ["_law_place"] (show CompSc (relab (defScope Yan) _) ["_law_first","_law_web_here","_law_marks"] _ ["_law_first","_law_marks"] [0,2] from ⟨rfl,by decide +kernel,by decide +kernel,by decide +kernel,rfl,by decide +kernel⟩) rfl (Zbk rfl (mb "range"<|by decide)<|Zaa (Zaq (ixK K hu) (pv 1) Zag λ_ _=>rfl) Zad) (λ_ _ _ _ _=>(Zam (i:=0) (show List.Nodup (["_law_place","_law_first","_law_marks"]:List Str) from by decide) rfl<|Or.inl rfl)) (λ_ _ _ _ _=>(Zc3<|Zao Zci (Zaq (ixK K hu) (pv 2) (pv 0) λ_ _=>rfl) (pv 1)<|nomark _)) λ_ _ _ _ _=>(pv 0))),Zov (λds Post hf=>?_) h⟩;obtain⟨n,ts,rfl,hW,q⟩:=hf;refine⟨by simp,?_⟩;dsimp only[startD,Wbk,Wbm,Wa6,Wal];have hn0:=hW.lo;have hn1:=hW.hi;have hts:=hW.len;obtain⟨N,rfl⟩:∃N:Nat,n=(N:Int):=⟨n.toNat,by omega⟩;rw[Wae]at q;refine Zal<|Zcz<|Zy5<|Zab<|Zaj<|Zac rfl<|Zak<|Zas (d:=.int (N:Int)) rfl<|Zaf ⟨N,rfl,by omega,?_⟩;have e0:(Wap N).map (λi:Nat=>D.int (i:Int))=(marksL N<|ts.take 0).map D.int:=by
  show _=((Wap N).map λi:Nat=>(i:Int)).map D.int;rw[Wbb];rfl
 rw[e0];refine Zca (λΔ=>∃(x4 x5 x6 x7 x8:L2.Slot),Δ = [.val (encWeb (N:Int) ts),.own (.lst ((marksL N ts).map D.int)),x4,x5,x6,x7,x8]) ?_ ?_
 ·refine Zea (Zdp<|Zaj<|Zac rfl<|Zak<|Zas (d:=.tup<|ts.map encTie) rfl ⟨_,rfl,λi Δ=>∃(x4 x5 x6 x7 x8:L2.Slot),Δ = [.val (encWeb (N:Int) ts),.own (.lst ((marksL N<|ts.take i).map D.int)),x4,x5,x6,x7,x8],⟨_,_,_,_,_,rfl⟩,?_,?_⟩)
  ·rintro i d Δ2 hd ⟨x4,x5,x6,x7,x8,rfl⟩
   rw[Wad]at hd;cases z:ts[i]? with
   |none=>rw[z]at hd;cases hd
   |some t=>
    rw[z]at hd;have hd:encTie t=d:=by simpa using hd
    subst hd;have ht:=hW.tie t<|Way z;have hl:=Zbh N<|ts.take i;have hs:=Zc6 (n:=N) z;obtain⟨l,el⟩:∃l,marksL N (ts.take i)=l:=⟨_,rfl⟩;rw[el]at hl hs ⊢;have a1:=Zfi hl ht.1 ht.2.1;have a2:=Zfi hl ht.2.2.1 ht.2.2.2;refine Zfp rfl<|Zbe<|Zbg<|Zbe<|Zbg<|Zd6 ?_;refine Zal<|Zhl<|Zab<|Za0<|Zab<|Zd3 rfl rfl<|Zac rfl ⟨_,_,_,_,rfl,rfl,rfl,a1,Zab<|Zd3 rfl rfl<|Zac rfl ⟨_,_,_,_,rfl,rfl,rfl,a2,Zaf<|Zgv ?_⟩⟩;refine Zab<|Za0<|Zab<|Zd3 rfl rfl<|Zac rfl ⟨_,_,_,_,rfl,rfl,rfl,a1,Zab<|Zd3 rfl rfl<|Zac rfl ⟨_,_,_,_,rfl,rfl,rfl,a2,Zaf<|Zgv<|Zaf ⟨_,_,rfl,?_⟩⟩⟩;obtain⟨lo,elo⟩:∃lo,loI (l.getD t.1.toNat 0) (l.getD t.2.toNat 0)=lo:=⟨_,rfl⟩;obtain⟨hi,ehi⟩:∃hi,hiI (l.getD t.1.toNat 0) (l.getD t.2.toNat 0)=hi:=⟨_,rfl⟩;refine Zea<|Zbq<|Zab<|Zaj<|Zac rfl<|Zak<|Zas (d:=.int (N:Int)) rfl<|Zaf ⟨_,rfl,by omega,by omega,λk Δ=>∃x8:L2.Slot,Δ = [.val (encWeb (N:Int) ts),.own (.lst ((stepM l hi lo k).map D.int)),.val (.int t.1),.val (.int t.2),.val (.int lo),.val (.int hi),x8],⟨x8,?_⟩,?_,?_⟩
    ·rw[<- elo,<- ehi];rfl
    ·rintro k d Δ3 hd ⟨x8,rfl⟩
     rw[Wae]at hd;obtain⟨hk,rfl⟩:=Zce hd;rw[Wb1];have hkl:k<l.length:=by omega
     have hg:=Zrm (h:=hi) (lo:=lo) hkl;have hat:atI ((stepM l hi lo k).map D.int) (k:Int)=some (.int l[k]):=Zby (by rw[Wad,hg];rfl);have hsu:=Znz (h:=hi) (lo:=lo) hkl;refine Zbg<|Zcc<|Zar<|Zaj<|Zd3 rfl rfl<|Zac rfl ⟨_,_,_,_,rfl,rfl,rfl,hat,Zac rfl<|Zer ⟨_,rfl,?_⟩⟩;by_cases hb:l[k]=hi
     ·rw[decide_eq_true hb]
      rw[if_pos hb]at hsu;refine iteT<|Zgd<|Zac rfl ⟨⟨_,_,rfl,rfl⟩,Zac rfl ⟨_,_,_,k,rfl,rfl,rfl,?_,.val (.int (k:Int)),?_⟩⟩
      ·unfold ixN
       rw[if_pos (by omega),if_pos (by rw[Wab,Zhp];omega),Wae]
      ·rw[hsu,Wdt];rfl
     ·rw[decide_eq_false hb]
      rw[if_neg hb]at hsu;refine iteF<|Zbb ⟨.val (.int (k:Int)),?_⟩;have:stepM l hi lo (k+1)=stepM l hi lo k:=by
       rw[hsu];apply Wcb;intro j;rw[Wcz];split
       ·rename_i hj
        subst hj;rw[if_pos (by rw[Zhp];omega),hg]
       ·rfl
      rw[this];rfl
    ·rintro Δ3 ⟨x8,rfl⟩
     have e2:stepM l hi lo (rngD 0 ((N:Int)).toNat).length=marksL N (ts.take<|i+1):=by
      rw[Zbu,Wae,hs];unfold mergeL;rw[elo,ehi,<- Zo7,hl]
     rw[e2];exact⟨_,_,_,_,_,rfl⟩
  ·rintro Δ2 ⟨x4,x5,x6,x7,x8,rfl⟩
   rw[Wab,Wbv];exact⟨_,_,_,_,_,rfl⟩
 rintro Δ1 ⟨x4,x5,x6,x7,x8,rfl⟩;have hl:=Zbh N ts;refine Zfr<|Zhe (by decide)<|Ze3<|Zbr<|Zyc<|Zab<|Zev rfl<|Zaf ⟨_,rfl,by omega,λms m1 m2=>⟨_,rfl,_,Or.inl rfl,?_,λ_=>true,λd=>match d with|.int g=>lstI (partI (marksL N ts) N g)|d=>d,λi d hd=>?_,?_⟩⟩
 ·have:=Firsts.len ⟨m1,m2⟩
  rw[Wab];exact small1000 (by omega)
 ·rw[Wad]at hd
  cases zz:ms[i]? with
  |none=>rw[zz]at hd;cases hd
  |some g=>
   rw[zz]at hd;have hd:D.int g=d:=by simpa using hd
   subst hd;refine Zd4 ⟨rfl,Zbw (by decide)<|Zbq<|Zab<|Zaj<|Zac rfl<|Zak<|Zas (d:=.int (N:Int)) rfl<|Zaf ⟨_,rfl,by omega,by omega,?_,λd=>match d with|.int p=>decide ((marksL N ts).getD p.toNat 0=g)|_=>false,λd=>d,λj d hd=>?_,?_⟩⟩
   ·rw[Zbu];exact small1000 (by omega)
   ·obtain⟨hj,rfl⟩:=Zce hd
    refine Zar<|Zaj<|Zaj<|Zac rfl<|Zac rfl<|Zc4 (Zfi hl (by omega)<|by omega)<|Zac rfl<|Zer ⟨_,rfl,rfl,?_⟩;split
    ·exact Zac rfl ⟨rfl,_,rfl⟩
    ·exact⟨_,rfl⟩
   ·refine⟨?_,_,rfl⟩
    rw[Wae];exact Zuh _ _ _ _ (λ_=>rfl) _ λ_=>rfl
 ·refine⟨_,rfl,?_⟩
  rw[Zra (l:=marksL N ts) (n:=N) _ (λ_=>rfl) _ λ_=>rfl];exact q ms ⟨m1,m2⟩
def fHoles:DSp:=λds Post=>∃n ts o,ds=[encWeb n ts,encOrd o]/\WebOk n ts/\OrdOk n ts o/\∀ms,Firsts ms (marksL n.toNat ts)->Post (.int<|holesI n ts o ms)
def fLack:DSp:=λds Post=>∃n ts,∃c:Int,ds=[encWeb n ts,.int c]/\WebOk n ts/\∀ms,Firsts ms (marksL n.toNat ts)->Post (.int (2*(ms.length:Int)-n+(ts.length:Int)-c))
theorem Znu (mb:Mb mg) (C74:Callee P w K mg base 1 "parts_of" ["web"] (spN K fParts)) (F:Fun K "lacking" "lacking" Ybf f fd):FnOk P w K mg base CX0 2 f fd ["web","faces_many"] (spD K fLack):=by
 refine F.ok Ybu (Zbc λds Post h=>by obtain⟨_,_,_,rfl,_⟩:=h;rfl) λcdv A outer s H vs Q E hr h=>?_;have hu:=Zbz hr;refine⟨_,(Zae (Zc1 (pv 0)<|gtupK (n:=2) K rfl<|Za8 (Zam (i:=2) Ybu.nd rfl<|Or.inl rfl)<|Za8 (Zam (i:=3) Ybu.nd rfl<|Or.inl rfl) Zdr)<|Zah<|Zau<|Zap Ze1 (Zap (addK K) (Zap Ze1 (Zap Zcn Zag<|Zai (lenK K) rfl (mb "len"<|by decide) Za5<|Zaa (Zax C74 (hr.mono<|by decide)<|Zaa (pv 0) Zad) Zad)<|pv 2)<|Zai (lenK K) rfl (mb "len"<|by decide) Za5<|Zaa (pv 3) Zad)<|pv 1),Zcx (λds Post hf=>?_) h⟩;obtain⟨n,ts,c,rfl,hW,q⟩:=hf;refine⟨by simp,?_⟩;dsimp only[startD,Wbk,Wbm,Wa6,Wal];have hn0:=hW.lo;have hn1:=hW.hi;have hts:=hW.len;have hl:=Zbh n.toNat ts;refine Zal<|Zg2<|Zac rfl<|Zfp rfl<|Zbe<|Zbg<|Zbe<|Zbg<|Zd6 ?_;refine Za2<|Zaj<|Zaj<|Zaj<|Zaj<|Zak<|Za0<|Zab<|Zbr<|Zc0<|Zab<|Zac rfl<|Zaf ⟨n,ts,rfl,hW,λms hm=>⟨_,rfl,?_⟩⟩;have hml:=hm.len;refine Zaf<|Za7 (Or.inl rfl) ?_;rw[Wab,show (partsL n.toNat ts ms).length=ms.length from Wab _];refine jr_I (Or.inl ⟨by omega,by omega⟩)<|Zac rfl<|Zfz<|Za0<|Zab<|Zac rfl<|Zaf<|Za7 (Or.inr rfl) ?_;rw[Wab];refine Zcd<|Zac rfl<|Zfz ?_;exact q ms hm
theorem Zsd (mb:Mb mg) (C70:Callee P w K mg base 2 "lacking" ["web","faces_many"] (spD K fLack)) (C64:Callee P w K mg base 5 "faces" ["web","order"] (spN K fFaces)) (F:Fun K "holes" "holes" Ybe f fd):FnOk P w K mg base CX0 6 f fd ["web","order"] (spD K fHoles):=by
 refine F.ok Yca (Zbc λds Post h=>by obtain⟨_,_,_,rfl,_⟩:=h;rfl) λcdv A outer s H vs Q E hr h=>?_;have hu:=Zbz hr;refine⟨_,(Zah<|Zau<|Zap Zd5 (Zax C70 (hr.mono<|by decide)<|Zaa (pv 0)<|Zaa (Zai (lenK K) rfl (mb "len"<|by decide) Za5<|Zaa (Zax C64 (hr.mono<|by decide)<|Zaa (pv 0)<|Zaa (pv 1) Zad) Zad) Zad) Zag),Zcx (λds Post hf=>?_) h⟩;obtain⟨n,ts,o,rfl,hW,hO,q⟩:=hf;refine⟨by simp,?_⟩;dsimp only[startD,Wbk,Wbm,Wa6,Wal];refine Za2<|Zaj<|Zav<|Zab<|Zac rfl<|Zab<|Za0<|Zab<|Zbr<|Zc0<|Zab<|Zac rfl<|Zab<|Zac rfl<|Zaf ⟨n,ts,o,rfl,hW,hO,_,rfl,?_⟩;refine Zaf<|Za7 (Or.inl rfl) ?_;rw[Wab];exact Zaf ⟨n,ts,_,rfl,hW,λms hm=>Zak<|jr_I ⟨by omega,by omega⟩<|q ms hm⟩
theorem Zpx (mb:Mb mg) (C55:Callee P w K mg base 1 "_law_parts" ["_law_web_here"] (spN K fParts)) (C48:Callee P w K mg base 2 "_law_faces" ["_law_order_here"] (spN K fLFaces)) (F:Fun K "_law_holes" "_law_holes" Ybp f fd):FnOk P w K mg base CX0 3 f fd ["_law_web_here","_law_order_here"] (spD K fHoles):=by
 refine F.ok Yb2 (Zbc λds Post h=>by obtain⟨_,_,_,rfl,_⟩:=h;rfl) λcdv A outer s H vs Q E hr h=>?_;have hu:=Zbz hr;refine⟨_,(Zae (Zat (i:=2) Yb2.nd rfl (Or.inl rfl)<|Zap (addK K) (Zap Ze1 (Zap Zcn Zag<|Zai (lenK K) rfl (mb "len"<|by decide) Za5<|Zaa (Zax C55 (hr.mono<|by decide)<|Zaa (pv 0) Zad) Zad)<|Zaq (ixK K hu) (pv 0) Zag λ_ _=>rfl)<|Zai (lenK K) rfl (mb "len"<|by decide) Za5<|Zaa (Zaq (ixK K hu) (pv 0) Zag λ_ _=>rfl) Zad)<|Zah<|Zau<|Zap Zd5 (Zap Ze1 (pv 2)<|Zai (lenK K) rfl (mb "len"<|by decide) Za5<|Zaa (Zax C48 (hr.mono<|by decide)<|Zaa (pv 1) Zad) Zad) Zag),Zcx (λds Post hf=>?_) h⟩;obtain⟨n,ts,o,rfl,hW,hO,q⟩:=hf;refine⟨by simp,?_⟩;dsimp only[startD,Wbk,Wbm,Wa6,Wal];have hn0:=hW.lo;have hn1:=hW.hi;have hts:=hW.len;have hl:=Zbh n.toNat ts;have al:=Zfl hW hO;refine Zal<|Zaw<|Zaj<|Zaj<|Zaj<|Zak<|Za0<|Zab<|Zbr<|Zc0<|Zab<|Zac rfl<|Zaf ⟨n,ts,rfl,hW,λms hm=>⟨_,rfl,?_⟩⟩;have hml:=hm.len;refine Zaf<|Za7 (Or.inl rfl) ?_;rw[Wab,show (partsL n.toNat ts ms).length=ms.length from Wab _];refine jr_I (Or.inl ⟨by omega,by omega⟩)<|Zaj<|Zac rfl<|Zak<|Zas (d:=.int n) rfl<|Zfz<|Za0<|Zab<|Zaj<|Zac rfl<|Zak<|Zas (d:=.tup<|ts.map encTie) rfl<|Zaf<|Za7 (Or.inr rfl) ?_;rw[Wab];refine Zcd ?_;refine Za2<|Zaj<|Zaj<|Zac rfl<|Za0<|Zab<|Zbr<|Zc0<|Zab<|Zac rfl<|Zaf ⟨n,ts,o,rfl,hW,hO,_,rfl,?_⟩;refine Zaf<|Za7 (Or.inl rfl) ?_;rw[Wab];refine Zfz<|Zak<|jr_I ⟨by omega,by omega⟩ ?_;exact q ms hm
end
def loN (ts:List (Int × Int)) (t:Nat):Nat:=(min (placeAt ts (2*t))<|placeAt ts (2*t+1)).toNat
def hiN (ts:List (Int × Int)) (t:Nat):Nat:=(max (placeAt ts (2*t))<|placeAt ts (2*t+1)).toNat
def elN (ts:List (Int × Int)) (t:Nat):Nat:=if placeAt ts (2*t)<placeAt ts (2*t+1) then 2*t else 2*t+1
noncomputable def inOrd (ts:List (Int × Int)) (t:Nat) (o:List (List Int)):List (List Int):=(inRows t (loN ts t) (hiN ts t) (elN ts t) (partner<|elN ts t) o).map (outRow t)
def inTs (ts:List (Int × Int)) (t:Nat):List (Int × Int):=(ts.eraseIdx t).map (pdT (loN ts t)<|hiN ts t)
def fInn:DSp:=λds Post=>∃n ts o,∃t:Nat,ds=[encWeb n ts,encOrd o,.int t]/\WebOk n ts/\OrdOk n ts o/\t<ts.length/\placeAt ts (2*t)≠placeAt ts (2*t+1)/\Post (floorD (n-1) (inTs ts t)<|inOrd ts t o)
def fOb:DSp:=λds Post=>∃(r:List Int) (x:Int),ds=[encRow r,.int x]/\x∈r/\r.length<=96/\Post (encRow<|obRow r x)
def fPd:DSp:=λds Post=>∃p lo hi:Int,ds=[.int p,.int lo,.int hi]/\Post (.int<|pd lo hi p)
structure TieIs (n:Int) (ts:List (Int × Int)) (t:Nat) (a b:Int):Prop where
 at_:ts[t]?=some (a,b)
 pa:placeAt ts (2*t)=a
 pb:placeAt ts (2*t+1)=b
 atD:atI (ts.map encTie) (t:Int)=some (.tup [.int a,.int b])
 ra:0<=a/\a<n
 rb:0<=b/\b<n
theorem Zmu {n:Int}{ts:List (Int × Int)}(hW:WebOk n ts) {t:Nat}(ht:t<ts.length):∃a b,TieIs n ts t a b:=by
 obtain⟨h1,h2,h3,h4⟩:=hW.tie _<|Wa0 ht;refine⟨ts[t].1,ts[t].2,Waa ht,?_,?_,Zby (by rw[Wad,Waa ht];rfl),⟨h1,h2⟩,⟨h3,h4⟩⟩
 ·unfold placeAt
  rw[show 2*t / 2=t by omega,Waa ht];show (if 2*t % 2=0 then _ else _)=_;rw[if_pos (by omega)]
 ·unfold placeAt
  rw[show (2*t+1) / 2=t by omega,Waa ht];show (if (2*t+1) % 2=0 then _ else _)=_;rw[if_neg (by omega)]
structure DrawIs (n:Int) (ts:List (Int × Int)) (t:Nat):Prop where
 lt:loN ts t<hiN ts t
 hi:(hiN ts t:Int)<n
 p1:placeAt ts (elN ts t)=(loN ts t:Int)
 p2:placeAt ts (partner<|elN ts t)=(hiN ts t:Int)
 e1:elN ts t / 2=t
 e2:partner (elN ts t) / 2=t
theorem Zph {n:Int}{ts:List (Int × Int)}{t:Nat}{a b:Int}(T:TieIs n ts t a b) (hne:a≠b):DrawIs n ts t:=by
 obtain⟨_,pa,pb,_,ra,rb⟩:=T;have pp:partner (2*t)=2*t+1:=by unfold partner;rw[if_pos (by omega)]
 have pq:partner (2*t+1)=2*t:=by unfold partner;rw[if_neg (by omega)];omega
 by_cases h:a<b
 ·have e1:loN ts t=a.toNat:=by unfold loN;rw[pa,pb,Int.min_eq_left (by omega)]
  have e2:hiN ts t=b.toNat:=by unfold hiN;rw[pa,pb,Int.max_eq_right (by omega)]
  have e3:elN ts t=2*t:=by unfold elN;rw[pa,pb,if_pos h]
  exact⟨by omega,by omega,by rw[e3,pa,e1];omega,by rw[e3,pp,pb,e2];omega,by omega,by rw[e3,pp];omega⟩
 ·have e1:loN ts t=b.toNat:=by unfold loN;rw[pa,pb,Int.min_eq_right (by omega)]
  have e2:hiN ts t=a.toNat:=by unfold hiN;rw[pa,pb,Int.max_eq_left (by omega)]
  have e3:elN ts t=2*t+1:=by unfold elN;rw[pa,pb,if_neg h]
  exact⟨by omega,by omega,by rw[e3,pb,e1];omega,by rw[e3,pq,pa,e2];omega,by omega,by rw[e3,pq];omega⟩
theorem Zn3 {n:Int}{ts:List (Int × Int)}{o:List (List Int)}(hW:WebOk n ts) (hO:OrdOk n ts o) (t lo hi:Nat) (el eh:Int):(inRows t lo hi el eh o).length<=25/\∀r∈inRows t lo hi el eh o,r.length<=96:=by
 obtain⟨o1,o2⟩:=hO.rows hW;have g:∀i:Nat,(o.getD i []).length<=48:=λi=>by
  rw[Wac];cases z:o[i]? with
  |none=>simp
  |some r=>exact o2 r (Way z)
 unfold inRows;refine⟨Wbz (Wd5 ..) (by rw[Wby];exact o1),λr hr=>?_⟩;rcases List.mem_or_eq_of_mem_set (Wdl hr) with z|z
 ·have:=o2 r z;omega
 ·subst z
  have h1:=Zm6 (o.getD lo []) el;have h2:=Zm6 (o.getD hi []) eh;have h3:=g lo;have h4:=g hi;rw[Wan];omega
section
variable {P:Program}{w:World}{K:W.Frag}{mg:Str->Option Value}{base:Heap}{f:Addr}{fd:FuncData}
theorem Zza (mb:Mb mg) (F:Fun K "others_behind" "others_behind" Ybk f fd):FnOk P w K mg base CX0 1 f fd ["row","end"] (spD K fOb):=by
 refine F.ok Yb1 (Zbc λds Post h=>by obtain⟨_,_,rfl,_⟩:=h;rfl) λcdv A outer s H vs Q E hr h=>?_;have hu:=Zbz hr;refine⟨_,(Zae (Zat (i:=2) Yb1.nd rfl (Or.inl rfl)<|bmK K PySem.F.plainAttrs_tuple PySem.F.slot_tuple_index PySem.F.type_tuple_index (idxK K) (pv 0)<|Zaa (pv 1) Zad)<|Zah<|Zau<|Zap (addK K) (Zbx (slK K) (pv 0) (Zcj<|Zap (addK K) (pv 2) Zag) Zch)<|Zbx (slK K) (pv 0) Zch<|Zcj<|pv 2),Zcx (λds Post hf=>?_) h⟩;obtain⟨r,x,rfl,hx,hl,q⟩:=hf;refine⟨by simp,?_⟩;dsimp only[startD,Wbk,Wbm,Wa6];obtain⟨i1,i2,i3⟩:=Zb0 hx;refine Zal<|Zaw<|Zha<|Zac rfl ⟨r,rfl,Zac rfl ⟨x,r.idxOf x,rfl,i2,i3,?_⟩⟩;refine Za2<|Zaj<|Zfe<|Zac rfl<|Zck<|Zaj<|Zac rfl<|Zak<|Zcd ⟨_,rfl,Zcg ⟨.tup ((r.map D.int).drop (r.idxOf x+1)),?_,?_⟩⟩
 ·show some (D.tup<|cutD (r.map D.int) (some ((r.idxOf x:Int)+1)) none)=_
  rw[show ((r.idxOf x:Int)+1)=((r.idxOf x+1:Nat):Int) by omega,Zej _ (by rw[Wab];omega)]
 refine Zfe<|Zac rfl<|Zcg<|Zck<|Zac rfl ⟨_,rfl,.tup ((r.map D.int).take (r.idxOf x)),?_,Zfw ?_ ?_⟩
 ·show some (D.tup<|cutD (r.map D.int) none<|some ((r.idxOf x:Nat):Int))=_
  rw[Zhm _ (by rw[Wab];omega)]
 ·rw[Wbr,Wa5,Wab]
  exact Wb0 (small1000<|by omega)
 unfold encRow obRow at q;rw[Waz,Wdn,Wc1]at q;exact q
theorem Zzc (mb:Mb mg) (F:Fun K "place_drawn" "place_drawn" Ybl f fd):FnOk P w K mg base CX0 1 f fd ["place","low","high"] (spD K fPd):=by
 refine F.ok Ycc (Zbc λds Post h=>by obtain⟨_,_,_,rfl,_⟩:=h;rfl) λcdv A outer s H vs Q E hr h=>?_;have hu:=Zbz hr;refine⟨_,(Zae (Zcf (Zao Zci (pv 0) (pv 2)<|nomark _) (Zah<|Zau<|pv 1) Za4)<|Zah<|Zau<|Zga (Zao Zk2 (pv 0) (pv 2)<|nomark _) (Zap Ze1 (pv 0) Zag)<|pv 0),Zcx (λds Post hf=>?_) h⟩;obtain⟨p,lo,hi,rfl,q⟩:=hf;refine⟨by simp,?_⟩;dsimp only[startD,Wbk,Wbm,Wa6];unfold pd at q;refine Zal<|Zcc<|Zar<|Zaj<|Zac rfl<|Zac rfl<|Zer ⟨_,rfl,ite2 (λz=>?_) λz=>?_⟩
 ·rw[if_pos (of_decide_eq_true z)]at q
  exact Za2<|Zac rfl q
 ·rw[if_neg (of_decide_eq_false<|Wcc.mpr z)]at q
  refine Zbb<|Za2<|Zgg<|Zar<|Zaj<|Zac rfl<|Zac rfl<|Ze2 ⟨_,rfl,ite2 (λz=>?_) λz=>?_⟩
  ·rw[if_pos (of_decide_eq_true z)]at q
   exact Zaj<|Zac rfl<|Zak<|Zfz q
  ·rw[if_neg (of_decide_eq_false<|Wcc.mpr z)]at q
   exact Zac rfl q
theorem Zrj {n:Int}{ts:List (Int × Int)}{o:List (List Int)}(hO:OrdOk n ts o) {p:Nat}(hp:(p:Int)<n):(o.map encRow)[p]?=some (encRow<|o.getD p [])/\o[p]?=some (o.getD p []):=by
 have h:=hO.len;have hp':p<o.length:=by omega
 have e:o[p]?=some (o.getD p []):=by rw[Wac,Waa hp'];rfl
 exact⟨by rw[Wad,e];rfl,e⟩
theorem Zxz (mb:Mb mg) (C68:Callee P w K mg base 2 "is_tie" ["web","tie"] (spD K fIsTie)) (C73:Callee P w K mg base 1 "others_behind" ["row","end"] (spD K fOb)) (C75:Callee P w K mg base 1 "place_drawn" ["place","low","high"] (spD K fPd)) (C79:Callee P w K mg base 2 "rows_without" ["rows","tie"] (spD K fRowsW)) (F:Fun K "drawn_in" "drawn_in" Yau f fd):FnOk P w K mg base CX0 3 f fd ["web","order","tie"] (spD K fInn):=by
 refine F.ok Yae (Zbc λds Post h=>by obtain⟨_,_,_,_,rfl,_⟩:=h;rfl) λcdv A outer s H vs Q E hr h=>?_;have hu:=Zbz hr;refine⟨_,(Zae (Zc1 (pv 0)<|gtupK (n:=2) K rfl<|Za8 (Zam (i:=3) Yae.nd rfl<|Or.inl rfl)<|Za8 (Zam (i:=4) Yae.nd rfl<|Or.inl rfl) Zdr)<|Zae (Zcf (PW.pt<|pw_or (Ze7<|truK K (Zax C68 (hr.mono<|by decide)<|Zaa (pv 0)<|Zaa (pv 2) Zad) λ_=>rfl)<|pw_or1<|Zao Zci (Zaq (ixK K hu) (Zaq (ixK K hu) (pv 4) (pv 2) λ_ _=>rfl) Zag λ_ _=>rfl) (Zaq (ixK K hu) (Zaq (ixK K hu) (pv 4) (pv 2) λ_ _=>rfl) Zag λ_ _=>rfl)<|nomark _) Zf3 Za4)<|Zae (Zat (i:=5) Yae.nd rfl (Or.inr rfl)<|Zai (minK K rfl) rfl (mb "min"<|by decide) Zgt<|Zaa (Zaq (ixK K hu) (pv 4) (pv 2) λ_ _=>rfl) Zad)<|Zae (Zat (i:=6) Yae.nd rfl (Or.inr rfl)<|Zai (maxK K rfl) rfl (mb "max"<|by decide) Znm<|Zaa (Zaq (ixK K hu) (pv 4) (pv 2) λ_ _=>rfl) Zad)<|Zae (Zat (i:=7) Yae.nd rfl (Or.inl rfl)<|Zga (Zao Zci (Zaq (ixK K hu) (Zaq (ixK K hu) (pv 4) (pv 2) λ_ _=>rfl) Zag λ_ _=>rfl) (pv 5)<|nomark _) (Zap Zcn Zag<|pv 2)<|Zap (addK K) (Zap Zcn Zag<|pv 2) Zag)<|Zae (Zat (i:=8) Yae.nd rfl (Or.inl rfl)<|Zbj (lstK K) rfl (mb "list"<|by decide) Zjk<|Zaa (pv 1) Zad)<|Zae (Zc1 (Zap (addK K) (Zax C73 (hr.mono<|by decide)<|Zaa (Zaq (ixK K hu) (pv 8) (pv 5) λ_ _=>rfl)<|Zaa (pv 7) Zad)<|Zax C73 (hr.mono<|by decide)<|Zaa (Zaq (ixK K hu) (pv 8) (pv 6) λ_ _=>rfl)<|Zaa (Zap Zue (pv 7) Zag) Zad)<|Zfn (pv 8) (pv 5)<|setU hu)<|Zae (Zws (pv 8)<|pv 6)<|Zae (Zdg (i:=9) ["a","b"] (show CompSc (defScope Yau) ["web","order","tie","many","ties","low","high","end","rows","kept"] _ ["low","high"] [5,6] from ⟨rfl,by decide +kernel,by decide +kernel,by decide +kernel,rfl,by decide +kernel⟩) rfl Yae.nd rfl (Or.inl rfl) (seqK K<|Zap (addK K) (Zbx (slK K) (pv 4) Zch<|Zcj<|pv 2)<|Zbx (slK K) (pv 4) (Zcj<|Zap (addK K) (pv 2) Zag) Zch) (λ_ _ _ _ _=>(gtupK (n:=2) K rfl<|Za8 (Zam (i:=0) (show List.Nodup (["a","b","low","high"]:List Str) from by decide) rfl<|Or.inl rfl)<|Za8 (Zam (i:=1) (show List.Nodup (["a","b","low","high"]:List Str) from by decide) rfl<|Or.inl rfl) Zdr)) (λ_ _ _ _ _=>Zd2) λ_ _ _ _ _=>(Zb8<|Zaa (Zax C75 (hr.mono<|by decide)<|Zaa (pv 0)<|Zaa (pv 2)<|Zaa (pv 3) Zad)<|Zaa (Zax C75 (hr.mono<|by decide)<|Zaa (pv 1)<|Zaa (pv 2)<|Zaa (pv 3) Zad) Zad))<|Zah<|Zau<|Zb8<|Zaa (Zb8<|Zaa (Zap Ze1 (pv 3) Zag)<|Zaa (Zbj (tupK K) rfl (mb "tuple"<|by decide) Zb3<|Zaa (pv 9) Zad) Zad)<|Zaa (Zax C79 (hr.mono<|by decide)<|Zaa (pv 8)<|Zaa (pv 2) Zad) Zad),Zcx (λds Post hf=>?_) h⟩;obtain⟨n,ts,o,t,rfl,hW,hO,ht,hne,q⟩:=hf;refine⟨by simp,?_⟩;dsimp only[startD,Wbk,Wbm,Wa6,Wal];have hw2:=hW.len;have ol:=hO.len;have hn1:=hW.hi;obtain⟨a,b,T⟩:=Zmu hW ht;rw[T.pa,T.pb]at hne;have Dr:=Zph T hne;obtain⟨i1,i2⟩:=Zn3 hW hO t (loN ts t) (hiN ts t) (elN ts t)<|partner<|elN ts t;have dlt:=Dr.lt;have dhi:=Dr.hi;obtain⟨l1,l2⟩:=Zrj hO (p:=loN ts t) (by omega);obtain⟨h1,h2⟩:=Zrj hO (p:=hiN ts t) (by omega);have ml:(elN ts t:Int)∈o.getD (loN ts t) []:=(hO.row _ _ l2).mem.mpr ⟨elN ts t,by have:=Dr.e1;omega,Dr.p1,rfl⟩;have mh:((partner (elN ts t):Nat):Int)∈o.getD (hiN ts t) []:=(hO.row _ _ h2).mem.mpr ⟨_,by have:=Dr.e2;omega,Dr.p2,rfl⟩;have q48:∀i:Nat,(o.getD i []).length<=48:=λi=>by
  rw[Wac];cases z:o[i]? with
  |none=>simp
  |some r=>exact(hO.rows hW).2 r (Way z)
 have elo:min a b=(loN ts t:Int):=by unfold loN;rw[T.pa,T.pb];have:=T.ra;have:=T.rb;omega
 have ehi:max a b=(hiN ts t:Int):=by unfold hiN;rw[T.pa,T.pb];have:=T.ra;have:=T.rb;omega
 refine Zal<|Zg2<|Zac rfl<|Zfp rfl<|Zbe<|Zbg<|Zbe<|Zbg<|Zd6 ?_;refine Zal<|Zcc<|Zjt<|Zd9<|Zcl<|Zav<|Zab<|Zac rfl<|Zab<|Zac rfl<|Zaf ⟨n,ts,t,rfl,ht,true,rfl,iteF ?_⟩;refine Zar<|Zaj<|Zaj<|Zaj<|Zac rfl<|Zac rfl<|Zas T.atD<|Zak<|Zas (d:=.int a) rfl ?_;refine Zaj<|Zaj<|Zac rfl<|Zac rfl<|Zas T.atD<|Zak<|Zas (d:=.int b) rfl<|Zer ⟨_,rfl,?_⟩;rw[decide_eq_false hne];refine iteF<|Zbb ?_;refine Zal<|Zaw<|Za0<|Zab<|Zaj<|Zac rfl<|Zac rfl<|Zas T.atD<|Zaf<|Zjn (ns:=[a,b]) (m:=(loN ts t:Int)) (Or.inr rfl) ?_ ?_ ?_
 ·rw[<- elo];have:=Int.min_def a b;rw[this];split <;> simp
 ·intro x hx;rw[<- elo];simp at hx;omega
 refine Zal<|Zaw<|Za0<|Zab<|Zaj<|Zac rfl<|Zac rfl<|Zas T.atD<|Zaf<|Zvn (ns:=[a,b]) (m:=(hiN ts t:Int)) (Or.inr rfl) ?_ ?_ ?_
 ·rw[<- ehi];have:=Int.max_def a b;rw[this];split <;> simp
 ·intro x hx;rw[<- ehi];simp at hx;omega
 refine Zca (λΔ=>Δ = [.val (encWeb n ts),.val (encOrd o),.val (.int t),.val (.int n),.val (.tup<|ts.map encTie),.val (.int (loN ts t:Int)),.val (.int (hiN ts t:Int)),.val (.int (elN ts t:Int)),.any,.any]) ?_ ?_
 ·refine Zaw (Zgg<|Zar<|Zaj<|Zaj<|Zaj<|Zac rfl<|Zac rfl<|Zas T.atD<|Zak<|Zas (d:=.int a) rfl<|Zac rfl<|Zer ⟨_,rfl,ite2 (λz=>?_) λz=>?_⟩)
  ·have z:a=(loN ts t:Int):=of_decide_eq_true z
   refine Zaj<|Zak<|Zac rfl<|jr_I (Or.inl ⟨by omega,by omega⟩) ?_;rw[show (2:Int)*(t:Int)=(elN ts t:Int) by unfold elN;rw[T.pa,T.pb,if_pos (by omega)];omega];rfl
  ·have z:¬ a=(loN ts t:Int):=of_decide_eq_false (Wcc.mpr z)
   refine Zaj<|Zaj<|Zak<|Zac rfl<|jr_I (Or.inl ⟨by omega,by omega⟩)<|Zak<|Zcd ?_;rw[show (2:Int)*(t:Int)+1=(elN ts t:Int) by unfold elN;rw[T.pa,T.pb,if_neg (by omega)];omega];rfl
 rintro Δ1 rfl;refine Zal<|Zcz<|Zpc<|Zab<|Zac rfl<|Zaf ⟨_,Or.inl rfl,?_⟩;have aL:atI (o.map encRow) (loN ts t:Int)=some (encRow<|o.getD (loN ts t) []):=Zby l1;have aH:atI (o.map encRow) (hiN ts t:Int)=some (encRow<|o.getD (hiN ts t) []):=Zby h1;have zl:=q48<|loN ts t;have zh:=q48<|hiN ts t;refine Zal<|Zgd<|Zaj<|Zav<|Zab<|Zd3 rfl rfl<|Zac rfl ⟨_,_,_,_,rfl,rfl,rfl,aL,Zab<|Zac rfl<|Zaf ⟨_,_,rfl,ml,by omega,?_⟩⟩;refine Zav<|Zab<|Zd3 rfl rfl<|Zac rfl ⟨_,_,_,_,rfl,rfl,rfl,aH,Zab<|Zaj<|Zac rfl<|Zak<|Zfz ?_⟩;rw[Zo2];have b1:=Zm6 (o.getD (loN ts t) [])<|elN ts t;have b2:=Zm6 (o.getD (hiN ts t) []) (partner (elN ts t):Nat);refine Zaf ⟨_,_,rfl,mh,by omega,Zfw ?_ ⟨⟨_,_,rfl,rfl⟩,Zac rfl ⟨_,_,_,loN ts t,rfl,rfl,rfl,?_,?_⟩⟩⟩
 ·rw[Wab,Wab];exact Wb0 (small1000<|by omega)
 ·unfold ixN
  rw[Wab,if_pos (by omega),if_pos (by omega)];rfl
 have e1:(o.map encRow).set (loN ts t) (.tup ((obRow (o.getD (loN ts t) [])<|elN ts t).map D.int++(obRow (o.getD (hiN ts t) []) (partner (elN ts t):Nat)).map D.int))=(o.set (loN ts t)<|obRow (o.getD (loN ts t) []) (elN ts t)++obRow (o.getD (hiN ts t) []) (partner (elN ts t):Nat)).map encRow:=by
  rw[Wdt,<- Waz];rfl
 rw[e1];refine Zal<|Zu7 rfl rfl<|Zac rfl ⟨_,_,hiN ts t,rfl,rfl,rfl,?_,?_,?_⟩
 ·rw[Wab,Wby];omega
 ·rw[Wab,Wby];omega
 have e2:((o.set (loN ts t)<|obRow (o.getD (loN ts t) []) (elN ts t)++obRow (o.getD (hiN ts t) []) (partner (elN ts t):Nat)).map encRow).eraseIdx (hiN ts t)=(inRows t (loN ts t) (hiN ts t) (elN ts t) (partner (elN ts t):Nat) o).map encRow:=by
  unfold inRows;rw[Wdr,Zhk]
 rw[e2];refine Zal<|Zaw<|Zs4 (by decide)<|Zdp<|Zaj<|Zfe<|Zac rfl<|Zcg<|Zck<|Zac rfl ⟨_,rfl,.tup ((ts.map encTie).take t),?_,?_⟩
 ·show some (D.tup<|cutD (ts.map encTie) none<|some ((t:Nat):Int))=_
  rw[Zhm _ (by rw[Wab];omega)]
 refine Zfe<|Zac rfl<|Zck<|Zaj<|Zac rfl<|Zak<|Zcd ⟨_,rfl,Zcg ⟨.tup ((ts.map encTie).drop (t+1)),?_,Zfw ?_ ?_⟩⟩
 ·show some (D.tup<|cutD (ts.map encTie) (some ((t:Int)+1)) none)=_
  rw[show ((t:Int)+1)=((t+1:Nat):Int) by omega,Zej _ (by rw[Wab];omega)]
 ·rw[Wbr,Wa5,Wab]
  exact Wb0 (small1000<|by omega)
 rw[Zhk];have hel:=Wd5 (l:=ts) (i:=t);refine⟨_,rfl,?_,λ_=>true,λd=>match d with|.tup [.int x,.int y]=>.tup [.int (pd (loN ts t) (hiN ts t) x),.int (pd (loN ts t) (hiN ts t) y)]|d=>d,λj d hd=>?_,?_⟩
 ·rw[Wab];exact small1000 (by omega)
 ·rw[Wad]at hd
  cases z:(ts.eraseIdx t)[j]? with
  |none=>rw[z]at hd;cases hd
  |some u=>
   rw[z]at hd;have hd:encTie u=d:=by simpa using hd
   subst hd;refine⟨_,_,rfl,Zd4 ⟨rfl,?_⟩⟩;rw[if_pos rfl];refine Zb7<|Zab<|Zav<|Zab<|Zac rfl<|Zab<|Zac rfl<|Zab<|Zac rfl<|Zaf ⟨_,_,_,rfl,?_⟩;exact Zab<|Zav<|Zab<|Zac rfl<|Zab<|Zac rfl<|Zab<|Zac rfl<|Zaf ⟨_,_,_,rfl,Zaf ⟨Ze0,rfl,_,_,rfl⟩⟩
 have e3:(((ts.eraseIdx t).map encTie).filter λ_=>true).map (λd=>match d with|.tup [.int x,.int y]=>D.tup [.int (pd (loN ts t) (hiN ts t) x),.int (pd (loN ts t) (hiN ts t) y)]|d=>d)=(inTs ts t).map encTie:=by
  unfold inTs;rw[Wbl.mpr (by simp),Wbb,Wbb];rfl
 rw[e3];refine Za2<|Zb7<|Zab<|Zb7<|Zab<|Zaj<|Zac rfl<|Zak<|Zfz<|Zab<|Za0<|Zab<|Zac rfl<|Zaf<|Zez (Or.inl rfl)<|Zaf ⟨Ze0,?_⟩;exact Zab<|Zav<|Zab<|Zev rfl<|Zab<|Zac rfl<|Zaf ⟨_,_,t,rfl,Or.inr rfl,i1,i2,Zaf ⟨Ze0,q⟩⟩
end
theorem Zmg {r:List Int}{c:Nat ⊕ Nat}{x:Int}{f:Int->Bool}(h:f x=false):(rowW r c x).filter f=r.filter f:=by
 unfold rowW;rw[Wbo,Wc4 (by rw[h];decide),<- Wbo,Wbu]
theorem Zie {o:List (List Int)}{p:Nat}{c:Nat ⊕ Nat}{x:Int}{f:Int->Bool}(h:f x=false) (hp:p<o.length):(put1 o p c x).map (λr=>r.filter f)=o.map (λr=>r.filter f):=by
 unfold put1;rw[Wdt,Zmg h];apply Wcb;intro i;by_cases hi:i=p
 ·subst hi
  rw[Wao (by rw[Wab];exact hp),Wad,Zbi hp];rfl
 ·rw[War (Ne.symm hi)]
theorem Zog {n:Int}{ts:List (Int × Int)}{o:List (List Int)}(hW:WebOk n ts) (hO:OrdOk n ts o) {c d:Nat ⊕ Nat}(hc:CorOk n ts o c) (hd:CorOk n ts o d) :
  (putO ts o c d).map (λr=>r.filter<|keepE ts.length)=o.map (λr=>r.filter<|keepE ts.length):=by
 unfold putO;have c1:=(Zbf hW hO hc).1;have d1:=(Zbf hW hO hd).1;rw[Zie (decide_eq_false<|by omega) (by rw[Zge];exact d1),Zie (decide_eq_false<|by omega) c1]
theorem Zk6 {ts:List (Int × Int)}{p:Int}{r:List Int}(h:RowOk ts (2*ts.length) p r) {x:Int}(hx:x∈r):0<=x/\x<2*(ts.length:Int):=by
 obtain⟨e,he,_,rfl⟩:=h.mem.mp hx;omega
theorem Zq7 {ts:List (Int × Int)}{p:Int}{r:List Int}(h:RowOk ts (2*ts.length) p r):(r.filter<|keepE ts.length).map (outE ts.length)=r:=by
 have e:r.filter (keepE ts.length)=r:=Wbl.mpr λx hx=>decide_eq_true (by have:=Zk6 h hx;omega);rw[e]
 conv=>rhs;rw[<- Wel r]
 refine Wb8 λx hx=>?_;unfold outE;rw[if_pos (Zk6 h hx).2];rfl
theorem Zrf {n:Int}{ts:List (Int × Int)}{o:List (List Int)}(hW:WebOk n ts) (hO:OrdOk n ts o) {c d:Nat ⊕ Nat}(hc:CorOk n ts o c) (hd:CorOk n ts o d) :
  (putTs ts c d).eraseIdx ts.length=ts/\(putO ts o c d).map (outRow ts.length)=o:=by
 constructor
 ·unfold putTs
  rw[List.eraseIdx_append_of_length_le (Wak _),Weg];exact Wa4 ts
 ·have e:=congrArg (Wbm λr=>lf<|r.map<|outE ts.length) (Zog hW hO hc hd)
  rw[Wbb,Wbb]at e;refine Eq.trans (show _=_ from e) ?_
  conv=>rhs;rw[<- Wel o]
  refine Wb8 λr hr=>?_;obtain⟨p,hp⟩:=Wbx.mp hr;have R:=hO.row p r hp;show lf ((r.filter<|keepE ts.length).map (outE ts.length))=r;rw[Zq7 R,Zy1 R]
theorem Zdh {o:List (List Int)}{p:Nat}{r:List Int}(h:p<o.length):(o.set p r).getD p []=r:=by
 rw[Wac,Wao h];rfl
theorem Zid {o:List (List Int)}{p q:Nat}{r:List Int}(h:p≠q):(o.set p r).getD q []=o.getD q []:=by
 rw[Wac,War h,Wac]
theorem Zrt (c:Nat ⊕ Nat) (g:Nat) (x:Int) (h:c=.inr g):rowW [] c x=[x]:=by subst h;rfl
def Rot (l m:List Int):Prop:=∃a b,l=a++b/\m=b++a
theorem Rot.refl (l:List Int):Rot l l:=⟨[],l,rfl,(Wa4 l).symm⟩
theorem Rot.symm {l m:List Int}(h:Rot l m):Rot m l:=let ⟨a,b,h1,h2⟩:=h; ⟨b,a,h2,h1⟩
theorem Rot.trans {l m k:List Int}(h1:Rot l m) (h2:Rot m k):Rot l k:=by
 obtain⟨a,b,rfl,e⟩:=h1;obtain⟨c,d,e',rfl⟩:=h2;rw[e]at e';rcases List.append_eq_append_iff.mp e' with ⟨x,rfl,rfl⟩|⟨x,rfl,rfl⟩
 ·exact⟨x,d++b,by simp,by simp⟩
 ·exact⟨a++c,x,by simp,by simp⟩
theorem Rot.perm {l m:List Int}(h:Rot l m):l.Perm m:=by
 obtain⟨a,b,rfl,rfl⟩:=h;exact Wcs
theorem Rot.map {l m:List Int}(f:Int->Int) (h:Rot l m):Rot (l.map f) (m.map f):=by
 obtain⟨a,b,rfl,rfl⟩:=h;exact⟨a.map f,b.map f,Waz,Waz⟩
theorem Rot.filter {l m:List Int}(f:Int->Bool) (h:Rot l m):Rot (l.filter f) (m.filter f):=by
 obtain⟨a,b,rfl,rfl⟩:=h;exact⟨a.filter f,b.filter f,Wbo ..,Wbo ..⟩
theorem Zk1 (l:List Int) (j:Nat):Rot l (rotAt l j):=⟨l.take j,l.drop j,(Wbu j l).symm,rfl⟩
theorem Zyi (l:List Int):Rot l (lf l):=by
 by_cases h:l=[]
 ·subst h;rw[Zfm];exact Rot.refl _
 ·unfold lf;rw[dif_neg h];exact Zk1 _ _
theorem Zs5 {a:List Int}{l m:List Int}{y:Int}(nd:(l++[y]).Nodup) (h:Rot (l++[y]) (m++[y])):l=m:=by
 obtain⟨a,b,h1,h2⟩:=h;rcases List.eq_nil_or_concat a with rfl|⟨a',x,rfl⟩
 ·rw[Wa4]at h2;rw[Wdm]at h1
  exact(List.append_cancel_right<|h1.trans h2.symm)
 rcases List.eq_nil_or_concat b with rfl|⟨b',z,rfl⟩
 ·rw[Wa4]at h1;rw[Wdm]at h2
  exact(List.append_cancel_right<|h1.trans h2.symm)
 ·simp only[List.concat_eq_append,<- Wbe]at h1 h2
  have e1:x=y:=by have:=(List.append_inj' h2 rfl).2;simpa using this.symm
  have e2:z=y:=by have:=(List.append_inj' h1 rfl).2;simpa using this.symm
  subst e1;subst e2;rw[h1,Wbe,Wbe]at nd;have:=(Wb3.mp (Wb3.mp nd).2.1).2.2 z (Wa7.mpr rfl) z (Waw _<|Wa7.mpr rfl);exact absurd rfl this
theorem Zux {r l:List Int}{x:Int}(nd:(x::r).Nodup) (hle:∀a∈x::r,x<=a) (h:Rot (x::r) l):lf l=x::r:=by
 obtain⟨a,b,h1,rfl⟩:=h;have hp:(b++a).Perm (x::r):=by rw[h1];exact Wcs
 rw[Znw (hp.mem_iff.mpr Wam) λc hc=>hle c (hp.mem_iff.mp hc)];cases a with
 |nil=>
  rw[Wdm]at h1;rw[Wa4,<- h1,Wdy];unfold rotAt;rw[Wd1,Wc6,Wa4]
 |cons y a=>
  rw[We2]at h1;obtain⟨rfl,rfl⟩:=Wdh.inj h1;have hx:x ∉ b:=λz=>(Wbf.mp nd).1 (Waw _ z);rw[List.idxOf_append,if_neg hx,Wdy,Wez];unfold rotAt;rw[List.drop_left,List.take_left];rfl
theorem Zu3 {s n:List Int}{y:Nat}{x:Int}(nd:(n++[(y:Int)]).Nodup) (h:Rot s (n++[(y:Int)])):Rot (rowW s (.inl y) x) (n++[(y:Int)]++[x]):=by
 have hy:(y:Int)∈s:=h.perm.mem_iff.mpr (by simp);obtain⟨h1,h2,_⟩:=Zb0 hy;show Rot (s.take (s.idxOf (y:Int)+1)++x::s.drop (s.idxOf (y:Int)+1)) _;have et:s.take (s.idxOf (y:Int)+1)=s.take (s.idxOf (y:Int))++[(y:Int)]:=by
  rw[Wca,h2];rfl
 have hr:Rot s (s.drop (s.idxOf (y:Int)+1)++s.take (s.idxOf (y:Int))++[(y:Int)]):=by
  rw[Wbe,<- et];exact⟨s.take<|s.idxOf (y:Int)+1,s.drop<|s.idxOf (y:Int)+1,(Wbu _ _).symm,rfl⟩
 have e:=Zs5 (a:=[]) (h.perm.nodup_iff.mp<|h.perm.nodup_iff.mpr nd)<|h.symm.trans hr;rw[e];refine⟨s.take (s.idxOf (y:Int)+1)++[x],s.drop<|s.idxOf (y:Int)+1,by simp,?_⟩;rw[et];simp
theorem Zto {l m:List Int}{y:Int}(nd:(y::l).Nodup) (h:Rot (y::l) (y::m)):l=m:=by
 obtain⟨a,b,h1,h2⟩:=h;cases a with
 |nil=>
  rw[Wa4]at h2;rw[Wdm]at h1;exact(Wdh.inj<|h1.trans h2.symm).2
 |cons x a=>
  cases b with
  |nil=>
   rw[Wa4]at h1;rw[Wdm]at h2;exact(Wdh.inj<|h1.trans h2.symm).2
  |cons z b=>
   obtain⟨rfl,rfl⟩:=Wdh.inj h1;obtain⟨rfl,_⟩:=Wdh.inj h2;exact absurd (Waw _ Wam) (Wbf.mp nd).1
structure Good (u:List Int):Prop where
 nd:u.Nodup
 le:∀h∈u.head?,∀a∈u,h<=a
theorem Zpz {u l:List Int}(g:Good u) (h:Rot u l):lf l=u:=by
 cases u with
 |nil=>rw[Wb5 (h.perm.length_eq.symm:l.length=0)];exact Zfm
 |cons x u=>exact Zux g.nd (g.le x rfl) h
theorem RowOk.good {ts:List (Int × Int)}{m:Nat}{p:Int}{r:List Int}(R:RowOk ts m p r):Good r:=by
 refine⟨R.nodup,λh hh a ha=>?_⟩;cases r with
 |nil=>cases hh
 |cons x r=>
  cases hh;rcases Waq.mp ha with rfl|ha
  ·exact Wds _
  ·exact R.least a ha
theorem Zix {r:List Int}{e:Int}(h:e∈r):∃q,rotAt r (r.idxOf e)=e::q/\Rot r (e::q):=by
 obtain⟨h1,h2,_⟩:=Zb0 h;have e1:r.drop (r.idxOf e)=e::r.drop (r.idxOf e+1):=by
  rw[Wcw h1];rw[Waa h1]at h2;rw[Wba.inj h2]
 refine⟨r.drop (r.idxOf e+1)++r.take (r.idxOf e),?_,?_⟩
 ·unfold rotAt;rw[e1];rfl
 ·have:=Zk1 r (r.idxOf e)
  unfold rotAt at this;rw[e1]at this;exact this
theorem Zb4 {r q:List Int}{e:Int}(nd:r.Nodup) (h:Rot r (e::q)):(e::q).Nodup:=h.perm.nodup_iff.mp nd
theorem Ztj {r q:List Int}{e z:Int}(h:e∈r) (hq:rotAt r (r.idxOf e)=e::z::q):nextIn r e=z:=by
 obtain⟨h1,h2,_⟩:=Zb0 h;have e1:(rotAt r<|r.idxOf e)[1]?=some z:=by rw[hq];rfl
 unfold rotAt at e1;unfold nextIn;rw[Wac];by_cases hl:r.idxOf e+1<r.length
 ·rw[Wbc (by rw[Wbr];omega),Wdb]at e1
  rw[Nat.mod_eq_of_lt hl,e1];rfl
 ·have hl:r.idxOf e+1=r.length:=by omega
  rw[Wa1 (by rw[Wbr];omega),Wbr,show 1-(r.length-r.idxOf e)=0 by omega]at e1;rw[hl,Nat.mod_self];have hi:0<r.idxOf e:=by
   rcases Weu (r.idxOf e) with z0|z0
   ·rw[z0,Wc6]at e1;cases e1
   ·exact z0
  rw[Wd3 hi]at e1;rw[e1];rfl
theorem Zan {s q:List Int}{y z:Int}(nd:s.Nodup) (h:Rot s (y::z::q)):nextIn s y=z:=by
 have hy:y∈s:=h.perm.mem_iff.mpr Wam;obtain⟨q',hq,hr⟩:=Zix hy;have e:=Zto (Zb4 nd hr)<|hr.symm.trans h;subst e;exact Ztj hy hq
theorem Zc8 (y:Int):nextIn [y] y=y:=by
 unfold nextIn;rw[Wdy,show (0+1) % [y].length=0 from Nat.mod_self 1];rfl
theorem Zhd {r:List Int}{c:Nat}{x:Int}(nd:r.Nodup) (hc:(c:Int)∈r) (hx:x ∉ r) :
  nextIn (rowW r (.inl c) x) (c:Int)=x/\nextIn (rowW r (.inl c) x) x=nextIn r (c:Int)/\∀y∈r,y≠(c:Int)->nextIn (rowW r (.inl c) x) y=nextIn r y:=by
 obtain⟨q,_,hr⟩:=Zix hc;have ndq:=Zb4 nd hr;have hr':Rot r (q++[(c:Int)]):=hr.trans ⟨[(c:Int)],q,rfl,rfl⟩;have hi:=Zu3 (x:=x) (hr'.perm.nodup_iff.mp nd) hr';have ndi:(rowW r (.inl c) x).Nodup:=by
  refine hi.perm.nodup_iff.mpr ?_;refine Wb3.mpr ⟨hr'.perm.nodup_iff.mp nd,by simp,λa ha b hb z=>?_⟩;rw[Wa7.mp hb]at z;exact hx<|hr'.perm.mem_iff.mpr (z ▸ ha)
 refine⟨?_,?_,λy hy hne=>?_⟩
 ·exact Zan (q:=q) ndi<|hi.trans ⟨q,[(c:Int)]++[x],by simp,rfl⟩
 ·cases q with
  |nil=>
   have e1:r=[(c:Int)]:=by
    obtain⟨a,b,h1,h2⟩:=hr;have hl:=hr'.perm.length_eq;have:r.length=1:=hl
    match r,this,hc with
    |[w],_,hc=>rw[Wa7.mp hc]
   rw[Zan (q:=[]) (z:=(c:Int)) ndi (hi.trans ⟨[(c:Int)],[x],rfl,rfl⟩),e1,Zc8]
  |cons z q=>
   rw[Zan (q:=q) nd hr,Zan (z:=z) (q:=q++[(c:Int)]) ndi (hi.trans ⟨z::q++[(c:Int)],[x],rfl,rfl⟩)]
 ·have hyq:y∈q:=by
   rcases Waq.mp (hr.perm.mem_iff.mp hy) with z|z
   ·exact absurd z hne
   ·exact z
  obtain⟨a,b,rfl⟩:=Wes hyq;cases b with
  |nil=>
   rw[Zan (z:=(c:Int)) (q:=a) nd (hr'.trans ⟨a,[y]++[(c:Int)],by simp,rfl⟩),Zan (z:=(c:Int)) (q:=x::a) ndi (hi.trans ⟨a,[y]++[(c:Int)]++[x],by simp,rfl⟩)]
  |cons w b=>
   rw[Zan (z:=w) (q:=b++[(c:Int)]++a) nd (hr'.trans ⟨a,y::w::b++[(c:Int)],by simp,by simp⟩),Zan (z:=w) (q:=b++[(c:Int)]++[x]++a) ndi (hi.trans ⟨a,y::w::b++[(c:Int)]++[x],by simp,by simp⟩)]
section
variable {P:Program}{w:World}{K:W.Frag}{mg:Str->Option Value}{base:Heap}{f:Addr}{fd:FuncData}
theorem Zlt {f:Int->Int}{r:List Int}(nd:r.Nodup) {x:Int}{t:List Int}(hr:r=x::t) (hf:∀y∈r,f y=nextIn r y):orb f x=r:=by
 have h0:0<r.length:=by rw[hr];simp
 have it:∀i,i<r.length->iter f x i=r.getD i 0:=λi=>by
  induction i with
  |zero=>intro _;rw[hr];rfl
  |succ i ih=>
   intro hi;have hg:r[i]?=some (r.getD i 0):=by rw[Wac,Waa (by omega)];rfl
   show f (iter f x i)=_;rw[ih (by omega),hf _ (Way hg),Zed nd hg];unfold nxI;rw[if_neg (by omega)]
 have O:IsOrb f x r.length:=by
  refine⟨h0,?_,λi j hi hj q=>?_⟩
  ·have hg:r[r.length-1]?=some (r.getD (r.length-1) 0):=by rw[Wac,Waa (by omega)];rfl
   rw[show r.length=(r.length-1)+1 by omega];show f (iter f x<|r.length-1)=x;rw[it _ (by omega),hf _ (Way hg),Zed nd hg];unfold nxI;rw[if_pos (by omega),hr];rfl
  ·rw[it i hi,it j hj,Wac,Wac,Waa hi,Waa hj]at q
   exact(Wdx nd).mp q
 rw[O.orb];unfold walkL;apply Wcb;intro i;by_cases hi:i<r.length
 ·rw[Wad,Wc3 hi,Waa hi]
  show some (iter f x i)=_;rw[it i hi,Wac,Waa hi];rfl
 ·rw[Wb9 (by rw[Wab,Wbq];omega),Wb9 (by omega)]
end
theorem Zgk {f:Int->Int}{m:Nat}(F:OneOne f m) {e:Int}(h0:0<=e) (h1:e<(m:Int)) {x:Int}(hx:x∈orb f e):nextIn (orb f e) x=f x:=by
 obtain⟨i,hi,rfl⟩:=Zba.mp hx;have O:=Zdz F h0 h1;have hl:(orb f e).length=per f e:=by unfold orb;rw[Zb9]
 have hg:(orb f e)[i]?=some (iter f e i):=Zf1 hi;rw[Zed (Zf5 F h0 h1) hg];unfold nxI;rw[hl];by_cases z:i+1=per f e
 ·rw[if_pos z,Wac,show (orb f e)[0]?=some (iter f e 0) from Zf1 O.pos]
  show e=f (iter f e i);have:=O.back;rw[<- z]at this;exact this.symm
 ·rw[if_neg z,Wac,show (orb f e)[i+1]?=some (iter f e<|i+1) from Zf1 (by omega)]
  rfl
def skip (t:Nat) (f:Int->Int) (e:Int):Int:=if keepE t (f e)=true then f e else if keepE t (f<|f e)=true then f (f e) else f (f<|f e)
theorem Zfj {r:List Int}{y:Int}(h:Rot r [y]):r=[y]:=by
 have hl:r.length=1:=h.perm.length_eq
 match r,hl,h with
 |[w],_,h=>rw[Wa7.mp (h.perm.mem_iff.mp Wam)]
theorem Zg9 {r s:List Int}{y:Int}(nd:r.Nodup) (h:Rot r s) (hy:y∈r):nextIn s y=nextIn r y:=by
 obtain⟨q,_,hr⟩:=Zix hy;cases q with
 |nil=>rw[Zfj hr,Zfj (h.symm.trans hr)]
 |cons z q=>rw[Zan nd hr,Zan (h.perm.nodup_iff.mp nd) (h.symm.trans hr)]
theorem Ztp {r q:List Int}{z y:Int}(nd:r.Nodup) (hq:Rot r (z::q)) (hy:y∈q):nextIn q y=if nextIn r y=z then nextIn r z else nextIn r y:=by
 have ndq:=Zb4 nd hq;obtain⟨n1,n2⟩:=Wbf.mp ndq;obtain⟨a,b,rfl⟩:=Wes hy;cases b with
 |nil=>
  have e1:nextIn r y=z:=Zan (q:=a) nd<|hq.trans ⟨z::a,[y],rfl,rfl⟩;rw[if_pos e1];cases a with
  |nil=>rw[Zan (q:=[]) nd hq];exact Zc8 y
  |cons w a=>rw[Zan (q:=a++[y]) nd hq,Zan (z:=w) (q:=a) n2 ⟨w::a,[y],rfl,rfl⟩]
 |cons w b=>
  have e1:nextIn r y=w:=Zan (q:=b++z::a) nd<|hq.trans ⟨z::a,y::w::b,rfl,rfl⟩;have hw:w≠z:=λe=>n1 (by rw[<- e];simp);rw[e1,if_neg hw,Zan (z:=w) (q:=b++a) n2 ⟨a,y::w::b,rfl,rfl⟩]
theorem Zkg {r:List Int}{k:Int->Bool}{z y:Int}(nd:r.Nodup) (hk:k z=false) (hz:∀a∈r,k a=false->a=z) (hy:y∈r) (ky:k y=true):nextIn (r.filter k) y=if nextIn r y=z then nextIn r z else nextIn r y:=by
 by_cases hm:z∈r
 ·obtain⟨q,_,hr⟩:=Zix hm
  have ndq:=Zb4 nd hr;have fq:(z::q).filter k=q:=by
   rw[Wc4 (by rw[hk];exact Wag)];refine Wbl.mpr λa ha=>?_;cases e:k a with
   |true=>rfl
   |false=>exact absurd (hz a (hr.perm.mem_iff.mpr (Wau _ ha)) e ▸ ha) (Wbf.mp ndq).1
  have hf:=hr.filter k;rw[fq]at hf;have hyq:y∈q:=by
   rcases Waq.mp (hr.perm.mem_iff.mp hy) with e|e
   ·rw[e,hk]at ky;cases ky
   ·exact e
  rw[<- Ztp nd hr hyq];exact(Zg9 (nd.sublist Wck) hf<|hf.perm.mem_iff.mpr hyq).symm
 ·have e1:r.filter k=r:=Wbl.mpr λa ha=>by
   cases e:k a with
   |true=>rfl
   |false=>exact absurd (hz a ha e ▸ ha) hm
  rw[e1,if_neg λe:nextIn r y=z=>hm (e ▸ Zbs hy)]
theorem Zlr {t:Nat}{r:List Int}{y:Int}(nd:r.Nodup) (hy:y∈r) (ky:keepE t y=true):nextIn (r.filter<|keepE t) y=skip t (nextIn r) y:=by
 have kd:∀a:Int,keepE t a=false↔a=2*(t:Int)\/a=2*(t:Int)+1:=λa=>by
  unfold keepE;rw[decide_eq_false_iff_not];omega
 have kx:keepE t (2*(t:Int))=false:=(kd _).mpr (Or.inl rfl);have kyy:keepE t (2*(t:Int)+1)=false:=(kd _).mpr (Or.inr rfl);generalize hX:2*(t:Int)=X at kd kx kyy;generalize hY:X+1=Y at kd kyy;have hXY:X≠Y:=by omega
 have yX:y≠X:=λe=>by rw[e,kx]at ky;cases ky
 have yY:y≠Y:=λe=>by rw[e,kyy]at ky;cases ky
 have A:∀w∈r,w≠X->nextIn (r.filter λa=>decide<|a≠X) w=if nextIn r w=X then nextIn r X else nextIn r w:=λw hw hne=>
  Zkg nd (by simp) (λa _ h=>by simpa using h) hw (by simpa using hne)
 have ff:(r.filter λa=>decide<|a≠X).filter (keepE t)=r.filter (keepE t):=by
  rw[Wbn];refine Wa9 λa _=>?_;by_cases e:a=X
  ·rw[e,kx];rfl
  ·rw[decide_eq_true e,Wd7]
 have nd1:(r.filter λa=>decide (a≠X)).Nodup:=nd.sublist Wck;have hy1:y∈r.filter λa=>decide (a≠X):=Wai.mpr ⟨hy,decide_eq_true yX⟩;have B:=Zkg (k:=keepE t) (z:=Y) nd1 kyy (λa ha h=>by
  rcases(kd a).mp h with e|e
  ·exact absurd e<|of_decide_eq_true (Wai.mp ha).2
  ·exact e) hy1 ky
 rw[ff]at B;rw[B,A y hy yX];have iny:=Zbs hy;have inj:∀{a b:Int},a∈r->b∈r->nextIn r a=nextIn r b->a=b:=λha hb h=>Znk nd ha hb h;unfold skip;by_cases e1:nextIn r y=X
 ·rw[if_pos e1,e1,kx,if_neg Wag]
  have hX':X∈r:=e1 ▸ iny;have nX:nextIn r X≠X:=λe=>yX<|inj hy hX'<|e1.trans e.symm;by_cases e2:nextIn r X=Y
  ·have hY':Y∈r:=e2 ▸ Zbs hX'
   have nY:nextIn r Y≠X:=λe=>yY<|inj hy hY'<|e1.trans e.symm;rw[if_pos e2,e2,kyy,if_neg Wag,A Y hY' (Ne.symm hXY),if_neg nY]
  ·rw[if_neg e2,if_pos]
   cases e:keepE t (nextIn r X) with
   |true=>rfl
   |false=>rcases(kd _).mp e with z|z;exact absurd z nX;exact absurd z e2
 ·rw[if_neg e1]
  by_cases e2:nextIn r y=Y
  ·rw[if_pos e2,e2,kyy,if_neg Wag]
   have hY':Y∈r:=e2 ▸ iny;have nY:nextIn r Y≠Y:=λe=>yY<|inj hy hY'<|e2.trans e.symm;rw[A Y hY' (Ne.symm hXY)];by_cases e3:nextIn r Y=X
   ·rw[if_pos e3,e3,kx,if_neg Wag]
   ·rw[if_neg e3,if_pos]
    cases e:keepE t (nextIn r Y) with
    |true=>rfl
    |false=>rcases(kd _).mp e with z|z;exact absurd z e3;exact absurd z nY
  ·rw[if_neg e2,if_pos]
   cases e:keepE t (nextIn r y) with
   |true=>rfl
   |false=>rcases(kd _).mp e with z|z;exact absurd z e1;exact absurd z e2
theorem Ztu {g:Int->Int}{r:List Int}{y:Int}(nd:r.Nodup) (hg:∀a∈r,∀b∈r,g a=g b->a=b) (hy:y∈r):nextIn (r.map g) (g y)=g (nextIn r y):=by
 have ndm:(r.map g).Nodup:=Wb6.mpr<|List.Pairwise.imp_of_mem (λha hb hne e=>hne<|hg _ ha _ hb e) nd;obtain⟨q,_,hr⟩:=Zix hy;have hm:=hr.map g;cases q with
 |nil=>rw[Zfj hr];show nextIn [g y] (g y)=g (nextIn [y] y);rw[Zc8,Zc8]
 |cons z q=>rw[Zan nd hr,Zan (z:=g z) (q:=q.map g) ndm hm]
theorem Zkc {t:Nat}{a b:Int}(ha:keepE t a=true) (hb:keepE t b=true) (h:outE t a=outE t b):a=b:=by
 have ha:=of_decide_eq_true ha;have hb:=of_decide_eq_true hb;unfold outE at h;split at h <;> split at h <;> omega
theorem Zdv {t:Nat}{r:List Int}{y:Int}(nd:r.Nodup) (hy:y∈r) (ky:keepE t y=true):nextIn (outRow t r) (outE t y)=outE t (skip t (nextIn r) y):=by
 have ndf:(r.filter<|keepE t).Nodup:=nd.sublist Wck;have inj:∀a∈r.filter (keepE t),∀b∈r.filter (keepE t),outE t a=outE t b->a=b:=λa ha b hb h=>Zkc (Wai.mp ha).2 (Wai.mp hb).2 h;have hyf:y∈r.filter (keepE t):=Wai.mpr ⟨hy,ky⟩;have ndm:((r.filter<|keepE t).map (outE t)).Nodup:=Wb6.mpr<|List.Pairwise.imp_of_mem (λha hb hne e=>hne<|inj _ ha _ hb e) ndf;unfold outRow;rw[Zg9 ndm (Zyi _) (Wa3.mpr ⟨y,hyf,rfl⟩),Ztu ndf inj hyf,Zlr nd hy ky]
theorem Zcu {t:Nat}{r:List Int}{x:Int}:x∈outRow t r ↔ ∃y∈r,keepE t y=true/\outE t y=x:=by
 unfold outRow;rw[(Zht _).mem_iff,Wa3];constructor
 ·rintro⟨y,hy,rfl⟩;exact⟨y,(Wai.mp hy).1,(Wai.mp hy).2,rfl⟩
 ·rintro⟨y,h1,h2,rfl⟩;exact⟨y,Wai.mpr ⟨h1,h2⟩,rfl⟩
theorem Zk4 {t:Nat}{r:List Int}(nd:r.Nodup):(outRow t r).Nodup:=by
 unfold outRow;rw[(Zht _).nodup_iff];exact Wb6.mpr<|List.Pairwise.imp_of_mem (λha hb hne e=>hne<|Zkc (Wai.mp ha).2 (Wai.mp hb).2 e)<|nd.sublist Wck
theorem Zqv {l:List Int}{x:Int}{t:List Int}(e:lf l=x::t):∀a∈lf l,x<=a:=λa ha=>by
 by_cases h:l=[]
 ·rw[h,Zfm]at e;cases e
 ·obtain⟨m,hm,hle⟩:=Zdb l h
  have hh:=Zrw hm hle;rw[e]at hh;cases hh;exact hle a ((Zht l).mem_iff.mp ha)
theorem Zeb {l:List (List Int)}:l.flatten.Nodup->(l.filter λr=>!r.isEmpty).Nodup:=by
 induction l with
 |nil=>intro _;exact Wek
 |cons r l ih=>
  intro h;rw[Wbw,Wb3]at h;cases r with
  |nil=>exact ih h.2.1
  |cons x t=>
   rw[List.filter_cons_of_pos (by rfl),Wbf];refine⟨λz=>?_,ih h.2.1⟩;have:=(Wai.mp z).1;exact h.2.2 x Wam x (Wcm.mpr ⟨_,this,Wam⟩) rfl
theorem Zne (t:Nat):∀R:List (List Int),(R.map<|outRow t).flatten.Perm ((R.flatten.filter<|keepE t).map (outE t))
 |[]=>.refl _
 |r::R=>by
  rw[Wbg,Wbw,Wbw,Wbo,Waz];exact List.Perm.append (Zht _)<|Zne t R
theorem Zco {f:Int->Int}{m:Nat}(F:OneOne f m) {r:List Int}(hr:r∈facesTo f m):∃e:Nat,e<m/\leastB f e=true/\r=orb f (e:Int)/\(e:Int)∈r:=by
 unfold facesTo at hr;obtain⟨e,he,rfl⟩:=Wa3.mp hr;have he:=Wai.mp he;have hm:=Wav.mp he.1;exact⟨e,hm,he.2,rfl,Zda F (by omega)<|by omega⟩
theorem Zkz {f:Int->Int}{m:Nat}(F:OneOne f m) {r s:List Int}(hr:r∈facesTo f m) (hs:s∈facesTo f m) {x:Int}(h0:0<=x) (h1:x<(m:Int)) (xr:x∈r) (xs:x∈s):r=s:=by
 obtain⟨e,_,_,_,h⟩:=Zhv F h0 h1;rw[(h r hr).mp xr,(h s hs).mp xs]
section
variable {f G:Int->Int}{m t:Nat}(F:OneOne f (2*m)) (GG:OneOne G (2*(m-1))) (ht:t<m) (hG:∀e:Int,0<=e->e<((2*m:Nat):Int)->keepE t e=true->G (outE t e)=outE t (skip t f e))
include F GG ht hG
theorem Zjp {r:List Int}(hr:r∈facesTo f (2*m)) (hne:outRow t r≠[]):outRow t r∈facesTo G (2*(m-1)):=by
 obtain⟨e,he,_,rfl,_⟩:=Zco F hr;have e0:(0:Int)<=(e:Int):=by omega
 have e1:(e:Int)<((2*m:Nat):Int):=by omega
 have nd:=Zf5 F e0 e1;cases hu:outRow t (orb f (e:Int)) with
 |nil=>exact absurd hu hne
 |cons h tl=>
  have step:∀y∈outRow t (orb f (e:Int)),G y=nextIn (outRow t<|orb f (e:Int)) y:=λy hy=>by
   obtain⟨x,hx,kx,rfl⟩:=Zcu.mp hy;have rx:=Zg1 F e0 e1 hx;rw[hG x rx.1 rx.2 kx,Zdv nd hx kx];have n1:=Zgk F e0 e1 hx;have m1:f x∈orb f (e:Int):=by rw[<- n1];exact Zbs hx
   have n2:=Zgk F e0 e1 m1;have m2:f (f x)∈orb f (e:Int):=by rw[<- n2];exact Zbs m1
   have n3:=Zgk F e0 e1 m2;unfold skip;rw[n1,n2,n3]
  have oe:=Zlt (Zk4 nd) hu step;have hh:h∈outRow t (orb f (e:Int)):=by rw[hu];exact Wam
  obtain⟨x,hx,kx,ex⟩:=Zcu.mp hh;have rx:=Zg1 F e0 e1 hx;have kx':=of_decide_eq_true kx;have hb:0<=h/\h<((2*(m-1):Nat):Int):=by
   rw[<- ex];unfold outE;split <;> omega
  have hn:((h.toNat:Nat):Int)=h:=by omega
  have hle:∀x∈orb G ((h.toNat:Nat):Int),((h.toNat:Nat):Int)<=x:=by
   rw[hn,oe];exact Zqv hu
  have:=Zjy GG (e:=h.toNat) (by omega)<|decide_eq_true hle;rw[show ((h.toNat:Nat):Int)=h by omega,oe]at this;rw[<- hu];exact this
theorem Ziq:(facesTo G (2*(m-1))).Perm (((facesTo f (2*m)).map (outRow t)).filter λr=>!r.isEmpty):=by
 have ndG:=Zeb<|Zc7 GG;have eG:((facesTo G (2*(m-1))).filter λr=>!r.isEmpty)=facesTo G (2*(m-1)):=Wbl.mpr λr hr=>by
  obtain⟨e,_,_,_,h⟩:=Zco GG hr;cases r with
  |nil=>cases h
  |cons _ _=>rfl
 rw[eG]at ndG;have ndF:(((facesTo f (2*m)).map (outRow t)).filter λr=>!r.isEmpty).Nodup:=by
  refine Zeb ?_;rw[(Zne t _).nodup_iff];exact Wb6.mpr<|List.Pairwise.imp_of_mem (λha hb hne e=>hne<|Zkc (Wai.mp ha).2 (Wai.mp hb).2 e) ((Zc7 F).sublist Wck)
 rw[Wcr ndG ndF];intro r;rw[Wai,Wa3];constructor
 ·intro hr
  obtain⟨g,hg,_,er,hgr⟩:=Zco GG hr
  -- the end that got this number
  obtain⟨x,x0,x1,kx,ex⟩:∃x:Int,0<=x/\x<((2*m:Nat):Int)/\keepE t x=true/\outE t x=(g:Int):=by
   by_cases c:g<2*t
   ·exact⟨(g:Int),by omega,by omega,decide_eq_true (by omega),by unfold outE;rw[if_pos (by omega)]⟩
   ·exact⟨(g:Int)+2,by omega,by omega,decide_eq_true (by omega),by unfold outE;rw[if_neg (by omega)];omega⟩
  have hx:x∈(facesTo f (2*m)).flatten:=(Zgp F).mem_iff.mpr (Wa3.mpr ⟨x.toNat,Wav.mpr (by omega),by omega⟩);obtain⟨s,hs,hxs⟩:=Wcm.mp hx;have hgs:(g:Int)∈outRow t s:=Zcu.mpr ⟨x,hxs,kx,ex⟩;have hne:outRow t s≠[]:=λe=>by rw[e]at hgs;cases hgs
  have e1:=Zkz GG hr (Zjp F GG ht hG hs hne) (by omega) (by omega) hgr hgs;refine⟨⟨s,hs,e1.symm⟩,?_⟩;rw[e1];cases h:outRow t s with
  |nil=>exact absurd h hne
  |cons _ _=>rfl
 ·rintro⟨⟨s,hs,rfl⟩,hne⟩
  exact Zjp F GG ht hG hs λe=>by rw[e]at hne;cases hne
theorem Zst {e y:Int}(e0:0<=e) (e1:e<((2*m:Nat):Int)) (ke:keepE t e=true) (y0:0<=y) (y1:y<((2*m:Nat):Int)) (ky:keepE t y=true):outE t y∈orb G (outE t e)↔y∈orb f e:=by
 have hx:e∈(facesTo f (2*m)).flatten:=(Zgp F).mem_iff.mpr (Wa3.mpr ⟨e.toNat,Wav.mpr (by omega),by omega⟩);obtain⟨s,hs,hes⟩:=Wcm.mp hx;have hgs:outE t e∈outRow t s:=Zcu.mpr ⟨e,hes,ke,rfl⟩;have hG2:=Zjp F GG ht hG hs λz=>by rw[z]at hgs;cases hgs
 obtain⟨g,hg,_,eg,_⟩:=Zco GG hG2;obtain⟨d,hd,_,ed,_⟩:=Zco F hs;have kk:=of_decide_eq_true ke;have hb:0<=outE t e/\outE t e<((2*(m-1):Nat):Int):=by unfold outE;split <;> omega
 have a1:outE t y∈orb G (outE t e)↔outE t y∈outRow t s:=by
  rw[eg]at hgs ⊢;exact⟨λh=>Za1 GG (by omega) (by omega) hgs h,λh=>Za1 GG hb.1 hb.2 (Zbl GG (by omega) (by omega) hgs) h⟩
 have a2:y∈orb f e↔y∈s:=by
  rw[ed]at hes ⊢;exact⟨λh=>Za1 F (by omega) (by omega) hes h,λh=>Za1 F e0 e1 (Zbl F (by omega) (by omega) hes) h⟩
 rw[a1,a2,Zcu];exact⟨λ⟨x,h1,h2,h3⟩=>Zkc h2 ky h3 ▸ h1,λh=>⟨y,h,ky,rfl⟩⟩
end
theorem Zl4 (f:Int->Int) (k:Nat):(facesTo f k).length=cnt f k λ_=>true:=by
 unfold facesTo cnt;rw[Wab];congr 1;refine Wa9 λe _=>?_;rw[Wd7]
theorem Zei {n:Int}{ts:List (Int × Int)}{o:List (List Int)}(hW:WebOk n ts) (hO:OrdOk n ts o) {p:Nat}{r:List Int}(hr:o[p]?=some r) {y:Int}(hy:y∈r):0<=y/\y<((2*ts.length:Nat):Int)/\rowAt ts o y.toNat=r/\folOf ts o y.toNat=nextIn r y:=by
 obtain⟨k,hk,hp,rfl⟩:=(hO.row p r hr).mem.mp hy;have er:rowAt ts o k=r:=by unfold rowAt;rw[hp,Wae,Wac,hr];rfl
 rw[Wae];refine⟨by omega,by omega,er,?_⟩;unfold folOf;rw[er]
noncomputable def unF (ts:List (Int × Int)) (o:List (List Int)) (t:Nat):Int->Int:=swapF (onI ts o) ((2*t:Nat):Int) ((2*t+1:Nat):Int)
theorem Zet (t:Nat):partner (2*t)=2*t+1/\partner (2*t+1)=2*t:=by
 unfold partner;constructor <;> split <;> omega
theorem Zhg {t:Nat}{y:Int}(h:keepE t y=false):y=((2*t:Nat):Int)\/y=((2*t+1:Nat):Int):=by
 have:=of_decide_eq_false h;have:=Decidable.not_not.mp this;omega
theorem Zff {ts:List (Int × Int)}{o:List (List Int)}{t:Nat}{y:Int}(h:keepE t y=false):unF ts o t y=folOf ts o y.toNat:=by
 obtain⟨p1,p2⟩:=Zet t;unfold unF;rcases Zhg h with rfl|rfl
 ·rw[Zf8];unfold onI;rw[Wae,Wae,p2]
 ·rw[Zgx];unfold onI;rw[Wae,Wae,p1]
theorem Zm5 {ts:List (Int × Int)}{o:List (List Int)}{t:Nat}{y:Int}(h:keepE t y=true):unF ts o t y=onI ts o y:=by
 have:=of_decide_eq_true h;exact Zey (by omega) (by omega)
section
variable {n:Int}{ts:List (Int × Int)}{o:List (List Int)}(hW:WebOk n ts) (hO:OrdOk n ts o) {t:Nat}(ht:t<ts.length)
include hW hO ht
theorem Zj0:OneOne (unF ts o t) (2*ts.length):=Zen (Zcm hW hO) (by omega) (by omega) (by omega) (by omega)
theorem Zup {e:Int}(e0:0<=e) (e1:e<((2*ts.length:Nat):Int)) (ke:keepE t e=true):onI (ts.eraseIdx t) (o.map<|outRow t) (outE t e)=outE t (skip t (unF ts o t) e):=by
 have kk:=of_decide_eq_true ke
 -- the partner
 have hg:=Zbo (show e.toNat<2*ts.length by omega);have hge:(partner e.toNat) / 2=e.toNat / 2:=by unfold partner;split <;> omega
 have kg:keepE t ((partner e.toNat:Nat):Int)=true:=decide_eq_true (by omega);obtain⟨g1,g2,g3⟩:=Zb1 hW hO hg;have pe:partner (outE t e).toNat=(if partner e.toNat<2*t then partner e.toNat else partner e.toNat-2):=by
  unfold outE partner
  (repeat' split) <;> omega
 have oe:((if partner e.toNat<2*t then partner e.toNat else partner e.toNat-2:Nat):Int)=outE t ((partner e.toNat:Nat):Int):=by
  unfold outE
  (repeat' split) <;> omega
 generalize hρ:rowAt ts o (partner e.toNat)=r at g1 g2 g3;have lhs:onI (ts.eraseIdx t) (o.map<|outRow t) (outE t e)=nextIn (outRow t r) (outE t ((partner e.toNat:Nat):Int)):=by
  unfold onI folOf;rw[pe];have hrow:rowAt (ts.eraseIdx t) (o.map<|outRow t) (if partner e.toNat<2*t then partner e.toNat else partner e.toNat-2)=outRow t r:=by
   unfold rowAt;rw[Zek (by omega),Wac,Wad,g1];rfl
  rw[hrow,oe]
 rw[lhs,Zdv g2.nodup g3 kg];congr 1;have fr:∀{y:Int},y∈r->folOf ts o y.toNat=nextIn r y:=λhy=>(Zei hW hO g1 hy).2.2.2;have a1:unF ts o t e=nextIn r ((partner e.toNat:Nat):Int):=by
  rw[Zm5 ke];have:=fr g3;rw[Wae]at this;exact this
 have i1:=Zbs g3;have stp:∀{y:Int},y∈r->keepE t y=false->unF ts o t y=nextIn r y:=λhy h=>(Zff h).trans (fr hy);unfold skip;rw[a1];cases k1:keepE t (nextIn r ((partner e.toNat:Nat):Int)) with
 |true=>rfl
 |false=>
  rw[if_neg Wag,if_neg Wag,stp i1 k1];have i2:=Zbs i1;cases k2:keepE t (nextIn r<|nextIn r ((partner e.toNat:Nat):Int)) with
  |true=>rfl
  |false=>rw[if_neg Wag,if_neg Wag,stp i2 k2]
theorem Zgh:(ts.eraseIdx t).length=ts.length-1:=by rw[Wdg,if_pos ht]
theorem Zpd:OneOne (onI (ts.eraseIdx t)<|o.map<|outRow t) (2*(ts.length-1)):=by
 have:=Zcm (Zfb hW t)<|Zpm hO ht;rw[Zgh hW hO ht]at this;exact this
theorem Zsj:(o.filter λr=>!r.isEmpty && (outRow t r).isEmpty).Perm ((facesTo (unF ts o t) (2*ts.length)).filter λr=>!r.isEmpty && (outRow t r).isEmpty):=by
 have U:=Zj0 hW hO ht;have ndo:(o.filter λr=>!r.isEmpty && (outRow t r).isEmpty).Nodup:=by
  have e:(o.filter λr=>!r.isEmpty && (outRow t r).isEmpty)=(o.filter λr=>!r.isEmpty).filter λr=>(outRow t r).isEmpty:=by
   rw[Wbn];exact Wa9 λr _=>Wd8 ..
  rw[e];exact(Zeb hO.flat).sublist Wck
 have ndf:((facesTo (unF ts o t) (2*ts.length)).filter λr=>!r.isEmpty && (outRow t r).isEmpty).Nodup:=by
  have e:((facesTo (unF ts o t) (2*ts.length)).filter λr=>!r.isEmpty && (outRow t r).isEmpty)=((facesTo (unF ts o t) (2*ts.length)).filter λr=>!r.isEmpty).filter λr=>(outRow t r).isEmpty:=by
   rw[Wbn];exact Wa9 λr _=>Wd8 ..
  rw[e];exact(Zeb<|Zc7 U).sublist Wck
 rw[Wcr ndo ndf];intro r;rw[Wai,Wai];have gone:(outRow t r).isEmpty=true->∀y∈r,keepE t y=false:=λh y hy=>by
  cases k:keepE t y with
  |false=>rfl
  |true=>
   have:outE t y∈outRow t r:=Zcu.mpr ⟨y,hy,k,rfl⟩;rw[We1.mp h]at this;cases this
 constructor
 ·rintro⟨hr,hp⟩
  refine⟨?_,hp⟩;rw[Wbj]at hp;have gn:=gone hp.2;obtain⟨p,hpo⟩:=Wbx.mp hr;have R:=hO.row p r hpo;cases r with
  |nil=>cases hp.1
  |cons h tl=>
   have step:∀y∈h::tl,unF ts o t y=nextIn (h::tl) y:=λy hy=>(Zff<|gn y hy).trans (Zei hW hO hpo hy).2.2.2;have oe:=Zlt R.nodup rfl step;obtain⟨h0,h1,_,_⟩:=Zei hW hO hpo<|Wam (a:=h);have hn:((h.toNat:Nat):Int)=h:=by omega
   have hle:∀x∈orb (unF ts o t) ((h.toNat:Nat):Int),((h.toNat:Nat):Int)<=x:=by
    rw[hn,oe];intro x hx;rcases Waq.mp hx with z|z
    ·omega
    ·exact R.least x z
   have:=Zjy U (e:=h.toNat) (by omega)<|decide_eq_true hle;rw[hn,oe]at this;exact this
 ·rintro⟨hr,hp⟩
  refine⟨?_,hp⟩;rw[Wbj]at hp;have gn:=gone hp.2;obtain⟨e,he,hl,er,her⟩:=Zco U hr;obtain⟨g1,g2,g3⟩:=Zb1 hW hO he;obtain⟨q,_,hq⟩:=Zix g3;have ndq:=Zb4 g2.nodup hq
  -- the follower alone
  have o2:orb (λy=>folOf ts o y.toNat) (e:Int)=(e:Int)::q:=Zlt ndq rfl λy hy=>by
   have hy':=hq.perm.mem_iff.mpr hy;rw[(Zei hW hO g1 hy').2.2.2,<- Zg9 g2.nodup hq hy']
  have it:∀j,iter (unF ts o t) (e:Int) j=iter (λy=>folOf ts o y.toNat) (e:Int) j:=λj=>by
   induction j with
   |zero=>rfl
   |succ j ih=>
    show unF ts o t (iter (unF ts o t) (e:Int) j)=folOf ts o (iter (λy=>folOf ts o y.toNat) (e:Int) j).toNat;rw[<- ih];exact Zff<|gn _ (by rw[er];exact Zbv U (by omega) (by omega) j)
  have O:=Zdz U (e:=(e:Int)) (by omega) (by omega);have O2:IsOrb (λy=>folOf ts o y.toNat) (e:Int) (per (unF ts o t) (e:Int)):=⟨O.pos,by rw[<- it];exact O.back,λi j hi hj z=>O.nd i j hi hj (by rw[it,it];exact z)⟩;have e3:r=(e:Int)::q:=by
   rw[er,<- o2,O2.orb];unfold orb walkL;exact Wb8 λi _=>it i
  have lz:=of_decide_eq_true (show decide (∀x∈orb (unF ts o t) (e:Int),(e:Int)<=x)=true from hl);rw[<- er]at lz;have gr:Good r:=⟨by rw[e3];exact ndq,λh hh a ha=>by rw[e3]at hh;cases hh;exact lz a ha⟩;have e4:lf r=rowAt ts o e:=Zpz g2.good (by rw[e3];exact hq);have e5:lf r=r:=Zpz gr<|Rot.refl _;rw[<- e5,e4];exact Way g1
theorem Zk9:((allF (ts.eraseIdx t)<|o.map<|outRow t).length:Int)=((allF ts o).length:Int)+(if ((2*t+1:Nat):Int)∈orb (onI ts o) ((2*t:Nat):Int) then 1 else -1):=by
 have U:=Zj0 hW hO ht;have hp:=(Zsj hW hO ht).length_eq;have sf:=(Ziq U (Zpd hW hO ht) ht λe e0 e1 ke=>Zup hW hO ht e0 e1 ke).length_eq;rw[Wb4,Wab]at sf
 -- rows left bare
 have lo:lone (o.map<|outRow t)=lone o+(o.filter λr=>!r.isEmpty && (outRow t r).isEmpty).length:=by
  unfold lone;rw[Wb4,Wab,Zbn (λr=>r.isEmpty) (o.filter ((λr=>r.isEmpty)∘outRow t)),Wbn,Wbn];congr 1;refine congrArg Wa6 (Wa9 λr _=>?_);cases r with
  |nil=>
   have:outRow t []=[]:=Zfm;show (([]:List Int).isEmpty && (outRow t []).isEmpty)=([]:List Int).isEmpty;rw[this];rfl
  |cons _ _=>rfl
 have fs:=Zbn (λr=>!r.isEmpty && (outRow t r).isEmpty)<|facesTo (unF ts o t) (2*ts.length);have e1:((facesTo (unF ts o t) (2*ts.length)).filter λr=>!(!r.isEmpty && (outRow t r).isEmpty))=(facesTo (unF ts o t) (2*ts.length)).filter ((λr=>!r.isEmpty)∘outRow t):=Wa9 λr hr=>by
  obtain⟨e,_,_,_,her⟩:=Zco U hr;cases r with
  |nil=>cases her
  |cons _ _=>rfl
 rw[e1]at fs;have al:(allF (ts.eraseIdx t)<|o.map<|outRow t).length=lone o+(facesTo (unF ts o t) (2*ts.length)).length:=by
  unfold allF;rw[Wan,Wa8,Zgh hW hO ht,sf,lo];omega
 have al2:(allF ts o).length=lone o+(facesTo (onI ts o) (2*ts.length)).length:=by
  unfold allF;rw[Wan,Wa8]
 rw[Zl4]at al al2;have O:=Zcm hW hO;by_cases h:((2*t+1:Nat):Int)∈orb (onI ts o) ((2*t:Nat):Int)
 ·have c:=Zjr O (a:=((2*t:Nat):Int)) (b:=((2*t+1:Nat):Int)) (by omega) (by omega) (by omega) (by omega) (by omega) h (λ_=>true) λ_ _=>rfl
  rw[if_pos rfl]at c;rw[if_pos h,al,al2];show ((lone o+cnt (swapF (onI ts o) ((2*t:Nat):Int) ((2*t+1:Nat):Int)) (2*ts.length) λ_=>true:Nat):Int)=_;rw[c];omega
 ·have c:=Zm0 O (a:=((2*t:Nat):Int)) (b:=((2*t+1:Nat):Int)) (by omega) (by omega) (by omega) (by omega) h (λ_=>true) (λ_ _=>rfl) λ_ _=>rfl
  rw[if_pos rfl]at c;rw[if_neg h,al,al2,c];show ((lone o+cnt (swapF (onI ts o) ((2*t:Nat):Int) ((2*t+1:Nat):Int)) (2*ts.length) λ_=>true:Nat):Int)=_;omega
end
def mk (N:Nat) (ts:List (Int × Int)) (p:Int):Int:=(marksL N ts).getD p.toNat 0
theorem Zo5 {N:Nat}{ts:List (Int × Int)}(hW:WebOk (N:Int) ts) {g:Int->Int}(hg:∀t∈ts,g t.1=g t.2) {p:Int}(p0:0<=p) (p1:p<(N:Int)):g (mk N ts p)=g p:=by
 have:=Zfg (S:=λx=>decide (g x=g p)) hW ⟨λt ht=>by rw[hg t ht]⟩ ts.length (Wak _) p.toNat (by omega);rw[Wbv,show ((p.toNat:Nat):Int)=p by omega,decide_eq_true rfl]at this;exact of_decide_eq_true this
theorem Zwx {N:Nat}{ts:List (Int × Int)}(hW:WebOk (N:Int) ts) {g:Int->Int}(hg:∀t∈ts,g t.1=g t.2) {p q:Int}(p0:0<=p) (p1:p<(N:Int)) (q0:0<=q) (q1:q<(N:Int)) (h:mk N ts p=mk N ts q):g p=g q:=by
 rw[<- Zo5 hW hg p0 p1,<- Zo5 hW hg q0 q1,h]
theorem Ziu {N:Nat}{ts:List (Int × Int)}(hW:WebOk (N:Int) ts) {t:Int × Int}(ht:t∈ts):mk N ts t.1=mk N ts t.2:=Znb hW ht
theorem Zud {N:Nat}{ts:List (Int × Int)}{p:Int}(p0:0<=p) (p1:p<(N:Int)):mk N ts p∈marksL N ts:=Zpb (by rw[Zbh];omega)
theorem Znd {N M:Nat}{ts us:List (Int × Int)}(hW:WebOk (N:Int) ts) (hV:WebOk (M:Int) us) {f g:Int->Int}(hf:∀p,0<=p->p<(N:Int)->0<=f p/\f p<(M:Int)) (h2:∀u∈us,mk N ts (g u.1)=mk N ts (g u.2)) (h3:∀p,0<=p->p<(N:Int)->mk N ts (g<|f p)=mk N ts p)
  {ms ns:List Int}(hm:Firsts ms (marksL N ts)) (hn:Firsts ns (marksL M us)):ms.length<=ns.length:=by
 have rep:∀a∈ms,0<=a/\a<(N:Int)/\mk N ts a=a:=λa ha=>by
  obtain⟨h1,h2,h3⟩:=Zk8 hW ts.length (Wak _) a (by rw[Wbv];exact(hm.2 a).mp ha);rw[Wbv]at h3;exact⟨h1,h2,h3⟩
 have nd:(ms.map λa=>mk M us<|f a).Nodup:=by
  refine Wb6.mpr<|List.Pairwise.imp_of_mem (λ{a b} ha hb hab e=>?_) hm.1;obtain⟨a0,a1,a2⟩:=rep a ha;obtain⟨b0,b1,b2⟩:=rep b hb;have fa:=hf a a0 a1;have fb:=hf b b0 b1;have:=Zwx hV (g:=λx=>mk N ts<|g x) h2 fa.1 fa.2 fb.1 fb.2 e;have:mk N ts (g<|f a)=mk N ts (g<|f b):=this;rw[h3 a a0 a1,h3 b b0 b1,a2,b2]at this;omega
 have:=Zgr nd (l:=ns) λx hx=>by
  obtain⟨a,ha,rfl⟩:=Wa3.mp hx;obtain⟨a0,a1,_⟩:=rep a ha;have fa:=hf a a0 a1;exact(hn.2 _).mpr (Zud fa.1 fa.2)
 rwa [Wab]at this
theorem Zng {N M:Nat}{ts us:List (Int × Int)}(hW:WebOk (N:Int) ts) (hV:WebOk (M:Int) us) {f g:Int->Int}(hf:∀p,0<=p->p<(N:Int)->0<=f p/\f p<(M:Int)) (hg:∀q,0<=q->q<(M:Int)->0<=g q/\g q<(N:Int))
  (h1:∀t∈ts,mk M us (f t.1)=mk M us (f t.2)) (h2:∀u∈us,mk N ts (g u.1)=mk N ts (g u.2)) (h3:∀p,0<=p->p<(N:Int)->mk N ts (g<|f p)=mk N ts p) (h4:∀q,0<=q->q<(M:Int)->mk M us (f<|g q)=mk M us q)
  {ms ns:List Int}(hm:Firsts ms (marksL N ts)) (hn:Firsts ns (marksL M us)):ms.length=ns.length:=
 Nat.le_antisymm (Znd hW hV hf h2 h3 hm hn) (Znd hV hW hg h1 h4 hn hm)
theorem Zir {N:Nat}{ts:List (Int × Int)}{a b:Int}(hW:WebOk (N:Int) ts) (ha:0<=a/\a<(N:Int)) (hb:0<=b/\b<(N:Int)) {ms ns:List Int}(hm:Firsts ms (marksL N ts)) (hn:Firsts ns (marksL N<|ts++[(a,b)])) :
  (ms.length:Int)=(ns.length:Int)+(if mk N ts a=mk N ts b then 0 else 1):=by
 have e:marksL N (ts++[(a,b)])=mergeL (marksL N ts) a b:=by unfold marksL;rw[List.foldl_append];rfl
 rw[e]at hn;by_cases h:mk N ts a=mk N ts b
 ·rw[if_pos h]
  rw[Zj6 h]at hn;rw[hm.uniq hn];omega
 ·rw[if_neg h]
  have:=(Zgn (t:=(a,b)) (Zbh N ts) (by show a.toNat<N;omega) (by show b.toNat<N;omega) h).count hm hn;omega
theorem Zow {N:Nat}{ts:List (Int × Int)}(hW:WebOk (N:Int) ts) {t:Nat}(ht:t<ts.length) {ms ns:List Int}(hm:Firsts ms (marksL N ts)) (hn:Firsts ns (marksL N<|ts.eraseIdx t)) :
  (ns.length:Int)=(ms.length:Int)+(if mk N (ts.eraseIdx t) ts[t].1=mk N (ts.eraseIdx t) ts[t].2 then 0 else 1):=by
 have hr:=hW.tie ts[t] (Wa0 ht);obtain⟨ns2,hn2⟩:=Zdc (marksL N (ts.eraseIdx t++[ts[t]]));have W1:=Zfb hW t;have W2:WebOk (N:Int) (ts.eraseIdx t++[ts[t]]):=⟨hW.lo,hW.hi,by
  have:=hW.len;rw[Wan,Wdg,if_pos ht,Wbt];omega,λu hu=>by
  rcases Wbd.mp hu with z|z
  ·exact W1.tie u z
  ·rw[Wa7.mp z];exact hr⟩
 have m1:∀u∈ts,u∈ts.eraseIdx t++[ts[t]]:=λu hu=>by
  obtain⟨i,hi,rfl⟩:=Wcd.mp hu;by_cases c:i=t
  ·subst c;exact Waw _<|Wa7.mpr rfl
  ·exact Wcn _<|Wdw.mpr ⟨i,hi,c,rfl⟩
 have m2:∀u∈ts.eraseIdx t++[ts[t]],u∈ts:=λu hu=>by
  rcases Wbd.mp hu with z|z
  ·exact Wdl z
  ·rw[Wa7.mp z];exact Wa0 ht
 have e1:=Zng hW W2 (f:=id) (g:=id) (λp h0 h1=>⟨h0,h1⟩) (λp h0 h1=>⟨h0,h1⟩) (λu hu=>Ziu W2<|m1 u hu) (λu hu=>Ziu hW<|m2 u hu) (λ_ _ _=>rfl) (λ_ _ _=>rfl) hm hn2;have e2:=Zir W1 ⟨hr.1,hr.2.1⟩ ⟨hr.2.2.1,hr.2.2.2⟩ hn hn2;rw[e1,e2]
theorem Zmk {N:Nat}{ts:List (Int × Int)}(hW:WebOk (N:Int) ts) {t lo hi:Nat}(ht:t<ts.length) (hlt:lo<hi) (hh:hi<N) (h:(ts[t].1=(lo:Int)/\ts[t].2=(hi:Int))\/(ts[t].1=(hi:Int)/\ts[t].2=(lo:Int)))
  {ms ns:List Int}(hm:Firsts ms (marksL N ts)) (hn:Firsts ns (marksL (N-1) ((ts.eraseIdx t).map (pdT lo hi)))):ms.length=ns.length:=by
 have V:=Zpj (t:=t) hW hlt (show (hi:Int)<(N:Int) by omega);rw[show (N:Int)-1=((N-1:Nat):Int) by omega]at V;have lh:mk N ts (lo:Int)=mk N ts (hi:Int):=by
  have:=Ziu hW<|Wa0 ht;rcases h with ⟨a,b⟩|⟨a,b⟩
  ·rw[a,b]at this;exact this
  ·rw[a,b]at this;exact this.symm
 have h3:∀p:Int,0<=p->p<(N:Int)->mk N ts (if pd lo hi p<(hi:Int) then pd lo hi p else pd lo hi p+1)=mk N ts p:=λp p0 p1=>by
  unfold pd;by_cases c:p=(hi:Int)
  ·rw[if_pos c,if_pos (by omega),c];exact lh
  ·rw[if_neg c]
   by_cases d:(hi:Int)<p
   ·rw[if_pos d,if_neg (by omega)];congr 1;omega
   ·rw[if_neg d,if_pos (by omega)]
 refine Zng hW V (f:=pd lo hi) (g:=λq=>if q<(hi:Int) then q else q+1) (λp p0 p1=>?_) (λq q0 q1=>?_) (λu hu=>?_) (λu hu=>?_) h3 (λq q0 q1=>?_) hm hn
 ·unfold pd; (repeat' split) <;> omega
 ·split <;> omega
 ·obtain⟨i,hi',rfl⟩:=Wcd.mp hu
  by_cases c:i=t
  ·subst c
   have e:pd (lo:Int) hi (lo:Int)=pd (lo:Int) hi (hi:Int):=by unfold pd;rw[if_neg (by omega),if_neg (by omega),if_pos rfl]
   rcases h with ⟨a,b⟩|⟨a,b⟩
   ·rw[a,b,e]
   ·rw[a,b,e]
  ·have:=Ziu V (Wa3.mpr ⟨ts[i],Wdw.mpr ⟨i,hi',c,rfl⟩,rfl⟩)
   exact this
 ·obtain⟨v,hv,rfl⟩:=Wa3.mp hu
  have hv':=Wdl hv;have r:=hW.tie v hv';show mk N ts (if pd lo hi v.1<(hi:Int) then pd lo hi v.1 else pd lo hi v.1+1)=mk N ts (if pd lo hi v.2<(hi:Int) then pd lo hi v.2 else pd lo hi v.2+1);rw[h3 _ r.1 r.2.1,h3 _ r.2.2.1 r.2.2.2];exact Ziu hW hv'
 ·congr 1
  unfold pd
  (repeat' split) <;> omega
theorem Zq2 {N:Nat}{ts:List (Int × Int)}{o:List (List Int)}(hW:WebOk (N:Int) ts) (hO:OrdOk (N:Int) ts o) {t:Nat}(ht:t<ts.length) (h:((2*t+1:Nat):Int) ∉ orb (onI ts o) ((2*t:Nat):Int)) :
  mk N (ts.eraseIdx t) ts[t].1=mk N (ts.eraseIdx t) ts[t].2:=by
 have O:=Zcm hW hO;have U:=Zj0 hW hO ht;have W1:=Zfb hW t;have j:=joined O (a:=((2*t:Nat):Int)) (b:=((2*t+1:Nat):Int)) (by omega) (by omega) (by omega) (by omega) h
 -- the mark of an end's place without the tie
 have step:∀x:Int,0<=x/\x<((2*ts.length:Nat):Int)->mk N (ts.eraseIdx t) (placeAt ts (unF ts o t x).toNat)=mk N (ts.eraseIdx t) (placeAt ts x.toNat):=λx hx=>by
  have fp:∀e:Nat,e<2*ts.length->placeAt ts (folOf ts o e).toNat=placeAt ts e:=λe he=>by
   obtain⟨g1,g2,g3⟩:=Zb1 hW hO he;obtain⟨k,hk,hp,ek⟩:=g2.mem.mp<|Zbs g3;show placeAt ts (nextIn (rowAt ts o e) (e:Int)).toNat=_;rw[<- ek,Wae,hp]
  cases k:keepE t x with
  |false=>rw[Zff k,fp _ (by omega)]
  |true=>
   rw[Zm5 k];have kk:=of_decide_eq_true k;have hg:=Zbo (show x.toNat<2*ts.length by omega);show mk N (ts.eraseIdx t) (placeAt ts (folOf ts o<|partner x.toNat).toNat)=_;rw[fp _ hg]
   -- both places of another tie
   have hi:x.toNat / 2<ts.length:=by omega
   have tm:=Ziu W1 (t:=ts[x.toNat / 2])<|Wdw.mpr ⟨x.toNat / 2,hi,by omega,rfl⟩;have pl:∀e:Nat,e / 2=x.toNat / 2->placeAt ts e=ts[x.toNat / 2].1\/placeAt ts e=ts[x.toNat / 2].2:=λe he=>by
    unfold placeAt;rw[he,Waa hi];dsimp only;split
    ·exact Or.inl rfl
    ·exact Or.inr rfl
   rcases pl (partner x.toNat) (by unfold partner;split <;> omega) with a|a <;> rcases pl x.toNat rfl with b|b <;> rw[a,b]
   ·exact tm
   ·exact tm.symm
 have all:=Zdk (f:=unF ts o t) (e:=((2*t:Nat):Int)) (S:=λx=>(0<=x/\x<((2*ts.length:Nat):Int))/\mk N (ts.eraseIdx t) (placeAt ts x.toNat)=mk N (ts.eraseIdx t) (placeAt ts (2*t))) ⟨⟨by omega,by omega⟩,by rw[Wae]⟩ (λx hx=>⟨U.to x hx.1.1 hx.1.2,(step x hx.1).trans hx.2⟩) _ j;have e:=all.2;rw[Wae]at e;have p0:placeAt ts (2*t)=ts[t].1:=by
  unfold placeAt;rw[show 2*t / 2=t by omega,Waa ht];dsimp only;rw[if_pos (by omega)]
 have p1:placeAt ts (2*t+1)=ts[t].2:=by
  unfold placeAt;rw[show (2*t+1) / 2=t by omega,Waa ht];dsimp only;rw[if_neg (by omega)]
 rw[p0,p1]at e;exact e.symm
theorem Zoq {f:Int->Int}{m:Nat}(F:OneOne f m) {a b:Int}(a0:0<=a) (a1:a<(m:Int)) (b0:0<=b) (b1:b<(m:Int)) (hab:a≠b) (hin:b∈orb f a):b ∉ orb (swapF f a b) a:=λh=>by
 obtain⟨j,hj0,hj,ej,L1,L2⟩:=halves F a0 a1 b0 b1 hab hin;obtain⟨i,i1,i2,ei⟩:=(L2 b).mp h;have:=(Zdz F a0 a1).nd i j i2 hj (ei.trans ej.symm);omega
def SameC (ts:List (Int × Int)) (o:List (List Int)):Nat ⊕ Nat->Nat ⊕ Nat->Prop
 |.inl a,.inl b=>folOf ts o b∈orb (onI ts o) (folOf ts o a)
 |.inr p,.inr q=>p=q
 |_,_=>False
theorem Zmo {f:Int->Int}{x:Int}(h:f x=x):∀y∈orb f x,y=x:=Zdk (S:=λy=>y=x) rfl λy hy=>by rw[hy];exact h
structure InsNd (r s:List Int) (x:Int):Prop where
 nd:s.Nodup
 sub:∀y∈s,y=x\/y∈r
 new:x∈s
theorem Zlp {r:List Int}{c:Nat}{x:Int}(nd:r.Nodup) (hc:(c:Int)∈r) (hx:x ∉ r):InsNd r (rowW r (.inl c) x) x:=by
 have hp:(rowW r (.inl c) x).Perm (x::r):=by
  show (r.take (r.idxOf (c:Int)+1)++x::r.drop (r.idxOf (c:Int)+1)).Perm _;refine Wd9.trans ?_;rw[Wbu]
 exact⟨hp.nodup_iff.mpr<|Wbf.mpr ⟨hx,nd⟩,λy hy=>Waq.mp<|hp.mem_iff.mp hy,hp.mem_iff.mpr Wam⟩
section
variable {n:Int}{ts:List (Int × Int)}{o:List (List Int)}(hW:WebOk n ts) (hO:OrdOk n ts o) {c d:Nat ⊕ Nat}(hc:CorOk n ts o c) (hd:CorOk n ts o d) (hl:ts.length<24)
include hW hO hc hd hl
theorem Zt2:(putO ts o c d).getD (corP ts c) []=(if corP ts c=corP ts d then rowW (rowW (o.getD (corP ts c) []) c ((2*ts.length:Nat):Int)) d ((2*ts.length+1:Nat):Int) else rowW (o.getD (corP ts c) []) c ((2*ts.length:Nat):Int)) ∧
  (putO ts o c d).getD (corP ts d) []=rowW (if corP ts c=corP ts d then rowW (o.getD (corP ts c) []) c ((2*ts.length:Nat):Int) else o.getD (corP ts d) []) d ((2*ts.length+1:Nat):Int):=by
 have h1:=(Zbf hW hO hc).1;have h2:=(Zbf hW hO hd).1;unfold putO put1;by_cases e:corP ts c=corP ts d
 ·rw[if_pos e,if_pos e,<- e]
  have l2:corP ts c<(o.set (corP ts c)<|rowW (o.getD (corP ts c) []) c ((2*ts.length:Nat):Int)).length:=by rw[Wby];exact h1
  rw[Zdh l2,Zdh h1];exact⟨rfl,rfl⟩
 ·rw[if_neg e,if_neg e]
  have l2:corP ts d<(o.set (corP ts c)<|rowW (o.getD (corP ts c) []) c ((2*ts.length:Nat):Int)).length:=by rw[Wby];exact h2
  rw[Zid (Ne.symm e),Zdh h1,Zdh l2,Zid e];exact⟨rfl,rfl⟩
theorem Zwj:folOf (putTs ts c d) (putO ts o c d) (2*ts.length)=nextIn ((putO ts o c d).getD (corP ts c) []) ((2*ts.length:Nat):Int)/\folOf (putTs ts c d) (putO ts o c d) (2*ts.length+1)=nextIn ((putO ts o c d).getD (corP ts d) []) ((2*ts.length+1:Nat):Int):=by
 obtain⟨p1,p2⟩:=Zh0 ts (corP ts c:Int) (corP ts d:Int);unfold folOf rowAt putTs;rw[p1,p2,Wae,Wae];exact⟨rfl,rfl⟩
theorem Zzf:unF (putTs ts c d) (putO ts o c d) ts.length ((2*ts.length:Nat):Int)=(match c,d with
  |.inl a,_=>folOf ts o a
  |.inr p,.inr q=>if p=q then ((2*ts.length+1:Nat):Int) else ((2*ts.length:Nat):Int)
  |.inr _,.inl _=>((2*ts.length:Nat):Int)) ∧
  unF (putTs ts c d) (putO ts o c d) ts.length ((2*ts.length+1:Nat):Int)=(match c,d with
  |.inl a,.inl b=>if a=b then ((2*ts.length:Nat):Int) else folOf ts o b
  |.inr _,.inl b=>folOf ts o b
  |.inl _,.inr _=>((2*ts.length+1:Nat):Int)
  |.inr p,.inr q=>if p=q then ((2*ts.length:Nat):Int) else ((2*ts.length+1:Nat):Int)):=by
 rw[Zff (decide_eq_false<|by omega),Zff (decide_eq_false<|by omega),Wae,Wae];obtain⟨f1,f2⟩:=Zwj hW hO hc hd hl;obtain⟨r1,r2⟩:=Zt2 hW hO hc hd hl;rw[f1,f2,r1,r2];have hol:=hO.len;have below:∀p:Nat,∀x∈o.getD p [],x<((2*ts.length:Nat):Int):=λp x hx=>by
  by_cases hp:p<o.length
  ·exact(Zei hW hO (Zbi hp) hx).2.1
  ·rw[Wac,Wb9 (by omega)]at hx;cases hx
 have nd:∀p:Nat,(o.getD p []).Nodup:=λp=>by
  by_cases hp:p<o.length
  ·exact(hO.row p _<|Zbi hp).nodup
  ·rw[Wac,Wb9 (by omega)];exact Wek
 have fo:∀a:Nat,a<2*ts.length->folOf ts o a=nextIn (o.getD (placeAt ts a).toNat []) (a:Int):=λa _=>rfl;have X1:∀p:Nat,((2*ts.length:Nat):Int) ∉ o.getD p []:=λp h=>by have:=below p _ h;omega
 have Y1:∀p:Nat,((2*ts.length+1:Nat):Int) ∉ o.getD p []:=λp h=>by have:=below p _ h;omega
 cases c with
 |inl a=>
  have ha:a<2*ts.length:=hc;have ma:=((Zbf hW hO hc).2 a rfl).1;obtain⟨i1,i2,i3⟩:=Zhd (x:=((2*ts.length:Nat):Int)) (nd _) ma<|X1 _;have gc:=Zlp (nd _) ma<|X1<|corP ts (.inl a);cases d with
  |inl b=>
   have hb:b<2*ts.length:=hd;have mb:=((Zbf hW hO hd).2 b rfl).1;dsimp only;by_cases e:corP ts (.inl a)=corP ts (.inl b)
   ·rw[if_pos e,if_pos e]
    rw[<- e]at mb;have mb':(b:Int)∈rowW (o.getD (corP ts (.inl a)) []) (.inl a) ((2*ts.length:Nat):Int):=Zm1 mb;have Y2:((2*ts.length+1:Nat):Int) ∉ rowW (o.getD (corP ts (.inl a)) []) (.inl a) ((2*ts.length:Nat):Int):=λh=>by
     rcases gc.sub _ h with z|z
     ·omega
     ·exact Y1 _ z
    obtain⟨j1,j2,j3⟩:=Zhd gc.nd mb' Y2;refine⟨?_,?_⟩
    ·rw[j3 _ (gc.new) (by omega),i2];rfl
    ·rw[j2]
     by_cases ab:a=b
     ·subst ab;rw[if_pos rfl,i1]
     ·rw[if_neg ab,i3 _ mb (by omega),fo b hb]
      have:corP ts (.inl a)=(placeAt ts b).toNat:=e;rw[this]
   ·rw[if_neg e,if_neg e]
    obtain⟨j1,j2,j3⟩:=Zhd (x:=((2*ts.length+1:Nat):Int)) (nd _) mb<|Y1 _;have ab:a≠b:=λz=>e (by rw[z]);rw[if_neg ab];exact⟨i2,j2⟩
  |inr q=>
   have hq:(q:Int)<n/\o.getD q []=[]:=hd;have e:corP ts (.inl a)≠corP ts (.inr q):=λe=>by
    rw[e]at ma;have ma:(a:Int)∈o.getD q []:=ma;rw[hq.2]at ma;cases ma
   dsimp only;rw[if_neg e,if_neg e];refine⟨i2,?_⟩;show nextIn (rowW (o.getD q []) (.inr q) _) _=_;rw[hq.2,Zrt _ q _ rfl,Zc8]
 |inr p=>
  have hp:(p:Int)<n/\o.getD p []=[]:=hc;have ep:rowW (o.getD (corP ts (.inr p)) []) (.inr p) ((2*ts.length:Nat):Int)=[((2*ts.length:Nat):Int)]:=by
   show rowW (o.getD p []) (.inr p) _=_;rw[hp.2];rfl
  rw[ep];cases d with
  |inl b=>
   have hb:b<2*ts.length:=hd;have mb:=((Zbf hW hO hd).2 b rfl).1;have e:corP ts (.inr p)≠corP ts (.inl b):=λe=>by
    rw[<- e]at mb;have mb:(b:Int)∈o.getD p []:=mb;rw[hp.2]at mb;cases mb
   obtain⟨j1,j2,j3⟩:=Zhd (x:=((2*ts.length+1:Nat):Int)) (nd _) mb<|Y1 _;dsimp only;rw[if_neg e,if_neg e];exact⟨Zc8 _,j2⟩
  |inr q=>
   have hq:(q:Int)<n/\o.getD q []=[]:=hd;dsimp only;by_cases e:p=q
   ·subst e
    rw[if_pos rfl,if_pos rfl,if_pos rfl,if_pos rfl];have e2:rowW [((2*ts.length:Nat):Int)] (.inr p) ((2*ts.length+1:Nat):Int)=[((2*ts.length:Nat):Int),((2*ts.length+1:Nat):Int)]:=rfl;rw[e2];have nd2:[((2*ts.length:Nat):Int),((2*ts.length+1:Nat):Int)].Nodup:=Wbf.mpr ⟨λh=>by have:=Wa7.mp h;omega,by simp⟩;exact⟨Zan (q:=[]) nd2<|Rot.refl _,Zan (q:=[]) nd2 ⟨[((2*ts.length:Nat):Int)],[((2*ts.length+1:Nat):Int)],rfl,rfl⟩⟩
   ·have e':¬ corP ts (.inr p)=corP ts (.inr q):=e
    rw[if_neg e',if_neg e',if_neg e,if_neg e];refine⟨Zc8 _,?_⟩;show nextIn (rowW (o.getD q []) (.inr q) _) _=_;rw[hq.2,Zrt _ q _ rfl,Zc8]
end
section
variable {N:Nat}{ts:List (Int × Int)}{o:List (List Int)}(hW:WebOk (N:Int) ts) (hO:OrdOk (N:Int) ts o) {c d:Nat ⊕ Nat}(hc:CorOk (N:Int) ts o c) (hd:CorOk (N:Int) ts o d) (hl:ts.length<24)
include hW hO hc hd hl
theorem Zl9:(putTs ts c d).length=ts.length+1:=by unfold putTs;rw[Wan];rfl
theorem Zts:((2*ts.length+1:Nat):Int)∈orb (unF (putTs ts c d) (putO ts o c d) ts.length) ((2*ts.length:Nat):Int)↔SameC ts o c d:=by
 have W':=Zmf hW hO hc hd hl;have O':=Zml hW hO hc hd;have ll:=Zl9 hW hO hc hd hl;have ht:ts.length<(putTs ts c d).length:=by omega
 have U:=Zj0 W' O' ht;obtain⟨b1,b2⟩:=Zrf hW hO hc hd;obtain⟨fx,fy⟩:=Zzf hW hO hc hd hl;have x1:((2*ts.length:Nat):Int)<((2*(putTs ts c d).length:Nat):Int):=by omega
 have y1:((2*ts.length+1:Nat):Int)<((2*(putTs ts c d).length:Nat):Int):=by omega
 have one:∀{x:Int},0<=x->x<((2*(putTs ts c d).length:Nat):Int)->unF (putTs ts c d) (putO ts o c d) ts.length x∈orb (unF (putTs ts c d) (putO ts o c d) ts.length) x:=λh0 h1=>Zbv U h0 h1 1;have ne:((2*ts.length+1:Nat):Int)≠((2*ts.length:Nat):Int):=by omega
 cases c with
 |inl a=>
  have ha:a<2*ts.length:=hc;obtain⟨ga,hga,_,ea⟩:=Zc5 hW hO ha;have fx:unF (putTs ts (.inl a) d) (putO ts o (.inl a) d) ts.length ((2*ts.length:Nat):Int)=folOf ts o a:=fx;have mx:=one (x:=((2*ts.length:Nat):Int)) (by omega) x1;rw[fx]at mx;cases d with
  |inl b=>
   have hb:b<2*ts.length:=hd;obtain⟨gb,hgb,_,eb⟩:=Zc5 hW hO hb;have fy:unF (putTs ts (.inl a) (.inl b)) (putO ts o (.inl a) (.inl b)) ts.length ((2*ts.length+1:Nat):Int)=if a=b then ((2*ts.length:Nat):Int) else folOf ts o b:=fy
   have my:=one (x:=((2*ts.length+1:Nat):Int)) (by omega) y1;rw[fy]at my;show _↔folOf ts o b∈orb (onI ts o) (folOf ts o a);by_cases ab:a=b
   ·subst ab
    rw[if_pos rfl]at my;exact⟨λ_=>by rw[<- ea];exact Zda (Zcm hW hO) (by omega) (by omega),λ_=>Zbl U (by omega) y1 my⟩
   ·rw[if_neg ab]at my
    have GG:=Zpd W' O' ht;have hG:=λe e0 e1 ke=>Zup W' O' ht (e:=e) e0 e1 ke;rw[b1,b2]at GG;rw[b1,b2]at hG;have ka:keepE ts.length (folOf ts o a)=true:=decide_eq_true (by rw[<- ea];omega);have kb:keepE ts.length (folOf ts o b)=true:=decide_eq_true (by rw[<- eb];omega);have oa:outE ts.length (folOf ts o a)=folOf ts o a:=by unfold outE;rw[if_pos (by rw[<- ea];omega)]
    have ob:outE ts.length (folOf ts o b)=folOf ts o b:=by unfold outE;rw[if_pos (by rw[<- eb];omega)]
    have sm:=Zst U GG ht hG (e:=folOf ts o a) (y:=folOf ts o b) (by omega) (by omega) ka (by omega) (by omega) kb;rw[oa,ob]at sm;rw[sm];constructor
    ·intro h
     exact Za1 U (by omega) (by omega) (Za1 U (by omega) (by omega) (Zbl U (by omega) x1 mx) h) my
    ·intro h
     exact Za1 U (by omega) x1 (Za1 U (by omega) x1 mx h)<|Zbl U (by omega) y1 my
  |inr q=>
   have fy:unF (putTs ts (.inl a) (.inr q)) (putO ts o (.inl a) (.inr q)) ts.length ((2*ts.length+1:Nat):Int)=((2*ts.length+1:Nat):Int):=fy;refine⟨λh=>?_,λh=>h.elim⟩;exact absurd (Zmo fy _<|Zbl U (by omega) x1 h).symm ne
 |inr p=>
  cases d with
  |inl b=>
   have fx:unF (putTs ts (.inr p) (.inl b)) (putO ts o (.inr p) (.inl b)) ts.length ((2*ts.length:Nat):Int)=((2*ts.length:Nat):Int):=fx;exact⟨λh=>absurd (Zmo fx _ h) ne,λh=>h.elim⟩
  |inr q=>
   have fx:unF (putTs ts (.inr p) (.inr q)) (putO ts o (.inr p) (.inr q)) ts.length ((2*ts.length:Nat):Int)=if p=q then ((2*ts.length+1:Nat):Int) else ((2*ts.length:Nat):Int):=fx
   show _↔p=q;by_cases e:p=q
   ·rw[if_pos e]at fx
    refine⟨λ_=>e,λ_=>?_⟩;have:=one (x:=((2*ts.length:Nat):Int)) (by omega) x1;rw[fx]at this;exact this
   ·rw[if_neg e]at fx
    exact⟨λh=>absurd (Zmo fx _ h) ne,λh=>absurd h e⟩
open Classical in
theorem Zrl:((allF (putTs ts c d)<|putO ts o c d).length:Int)=((allF ts o).length:Int)+(if SameC ts o c d then 1 else -1):=by
 have W':=Zmf hW hO hc hd hl;have O':=Zml hW hO hc hd;have ll:=Zl9 hW hO hc hd hl;have ht:ts.length<(putTs ts c d).length:=by omega
 obtain⟨b1,b2⟩:=Zrf hW hO hc hd;have h:=Zk9 W' O' ht;rw[b1,b2]at h;have F:=Zcm W' O';have ps:=Zts hW hO hc hd hl;by_cases s:SameC ts o c d
 ·have:=ps.mpr s
  have na:((2*ts.length+1:Nat):Int) ∉ orb (onI (putTs ts c d)<|putO ts o c d) ((2*ts.length:Nat):Int):=λz=>Zoq F (by omega) (by omega) (by omega) (by omega) (by omega) z this;rw[if_neg na]at h;rw[if_pos s];omega
 ·have:((2*ts.length+1:Nat):Int)∈orb (onI (putTs ts c d)<|putO ts o c d) ((2*ts.length:Nat):Int):=by
   by_cases z:((2*ts.length+1:Nat):Int)∈orb (onI (putTs ts c d)<|putO ts o c d) ((2*ts.length:Nat):Int)
   ·exact z
   ·exact absurd (ps.mp<|joined F (by omega) (by omega) (by omega) (by omega) z) s
  rw[if_pos this]at h;rw[if_neg s];omega
theorem Zr2 (s:SameC ts o c d):mk N ts (corP ts c:Int)=mk N ts (corP ts d:Int):=by
 have fp:∀e:Nat,e<2*ts.length->placeAt ts (folOf ts o e).toNat=placeAt ts e:=λe he=>by
  obtain⟨g1,g2,g3⟩:=Zb1 hW hO he;obtain⟨k,hk,hp,ek⟩:=g2.mem.mp<|Zbs g3;show placeAt ts (nextIn (rowAt ts o e) (e:Int)).toNat=_;rw[<- ek,Wae,hp]
 cases c with
 |inl a=>
  cases d with
  |inl b=>
   have ha:a<2*ts.length:=hc;have hb:b<2*ts.length:=hd;obtain⟨ga,hga,_,ea⟩:=Zc5 hW hO ha;have s:folOf ts o b∈orb (onI ts o) (folOf ts o a):=s;have:=Zti hW hO (x:=folOf ts o a) (by omega) (by omega) s;rw[fp a ha,fp b hb]at this;show (marksL N ts).getD (((placeAt ts a).toNat:Nat):Int).toNat 0=(marksL N ts).getD (((placeAt ts b).toNat:Nat):Int).toNat 0;rw[Wae,Wae];exact this.symm
  |inr q=>exact s.elim
 |inr p=>
  cases d with
  |inl b=>exact s.elim
  |inr q=>have s:p=q:=s;rw[s]
end
theorem Zt9 {r:List Int}{x:Int}(h:x∈r):Rot r (x::obRow r x):=by
 obtain⟨h1,h2,_⟩:=Zb0 h;have e1:r.drop (r.idxOf x)=x::r.drop (r.idxOf x+1):=by
  rw[Wcw h1];rw[Waa h1]at h2;rw[Wba.inj h2]
 refine⟨r.take<|r.idxOf x,r.drop<|r.idxOf x,(Wbu _ _).symm,?_⟩;rw[e1];rfl
theorem Zkh {rl rh A B:List Int}{x y g:Int}(nl:rl.Nodup) (nh:rh.Nodup) (hA:Rot rl (x::A)) (hB:Rot rh (y::B)) (nd:(A++B).Nodup) (hg:g∈A) :
  nextIn (A++B) g=if nextIn rl g=x then (if nextIn rh y=y then nextIn rl x else nextIn rh y) else nextIn rl g:=by
 have ndA:=Zb4 nl hA;have ndB:=Zb4 nh hB;obtain⟨a,b,rfl⟩:=Wes hg;cases b with
 |cons w b=>
  have e1:nextIn rl g=w:=Zan (q:=b++x::a) nl<|hA.trans ⟨x::a,g::w::b,rfl,rfl⟩;have hw:w≠x:=λe=>(Wbf.mp ndA).1 (by rw[<- e];simp);rw[e1,if_neg hw];exact Zan (q:=b++B++a) nd ⟨a,g::w::b++B,by simp,by simp⟩
 |nil=>
  have e1:nextIn rl g=x:=Zan (q:=a) nl<|hA.trans ⟨x::a,[g],rfl,rfl⟩;rw[if_pos e1];cases B with
  |cons w B=>
   have e2:nextIn rh y=w:=Zan (q:=B) nh hB;have hw:w≠y:=λe=>(Wbf.mp ndB).1 (by rw[<- e];simp);rw[e2,if_neg hw];exact Zan (q:=B++a) nd ⟨a,g::w::B,by simp,by simp⟩
  |nil=>
   rw[Zfj hB,Zc8,if_pos rfl];rw[Wa4]at nd ⊢;cases a with
   |nil=>rw[Zan (q:=[]) nl hA];exact Zc8 g
   |cons w a=>rw[Zan (q:=a++[g]) nl hA];exact Zan (q:=a) nd ⟨w::a,[g],rfl,rfl⟩
section
variable {N:Nat}{ts:List (Int × Int)}{o:List (List Int)}(hW:WebOk (N:Int) ts) (hO:OrdOk (N:Int) ts o) {t:Nat}(ht:t<ts.length) (Dr:DrawIs (N:Int) ts t)
include hW hO ht Dr
theorem Zp4:∃rl rh A B:List Int,o[loN ts t]?=some rl/\o[hiN ts t]?=some rh/\rl.Nodup/\rh.Nodup/\Rot rl (((elN ts t:Nat):Int)::A)/\Rot rh (((partner (elN ts t):Nat):Int)::B)/\(∀y∈A,keepE t y=true)/\(∀y∈B,keepE t y=true)/\(A++B).Nodup/\inRows t (loN ts t) (hiN ts t) (elN ts t) (partner<|elN ts t) o=(o.set (loN ts t)<|A++B).eraseIdx (hiN ts t):=by
 have ol:=hO.len;have d1:=Dr.lt;have d2:=Dr.hi;have e1:=Dr.e1;have e2:=Dr.e2;have hlo:loN ts t<o.length:=by omega
 have hhi:hiN ts t<o.length:=by omega
 have Rl:=hO.row _ _<|Zbi hlo;have Rh:=hO.row _ _<|Zbi hhi;have ml:((elN ts t:Nat):Int)∈o.getD (loN ts t) []:=Rl.mem.mpr ⟨elN ts t,by omega,Dr.p1,rfl⟩;have mh:((partner (elN ts t):Nat):Int)∈o.getD (hiN ts t) []:=Rh.mem.mpr ⟨partner<|elN ts t,by omega,Dr.p2,rfl⟩;have Al:=Zt9 ml;have Ah:=Zt9 mh;have ndA:=Zb4 Rl.nodup Al;have ndB:=Zb4 Rh.nodup Ah;have two:∀k:Nat,k / 2=t->k=elN ts t\/k=partner (elN ts t):=λk hk=>by
  have:partner (elN ts t)≠elN ts t:=by unfold partner;split <;> omega
  omega
 have pne:(loN ts t:Int)≠(hiN ts t:Int):=by omega
 refine⟨_,_,obRow (o.getD (loN ts t) [])<|elN ts t,obRow (o.getD (hiN ts t) [])<|partner<|elN ts t,Zbi hlo,Zbi hhi,Rl.nodup,Rh.nodup,Al,Ah,λy hy=>?_,λy hy=>?_,?_,rfl⟩
 ·obtain⟨k,hk,hp,rfl⟩:=Rl.mem.mp (Al.perm.mem_iff.mpr<|Wau _ hy)
  refine decide_eq_true λz=>?_;rcases two k (by omega) with c|c
  ·subst c;exact(Wbf.mp ndA).1 hy
  ·rw[c,Dr.p2]at hp;exact pne hp.symm
 ·obtain⟨k,hk,hp,rfl⟩:=Rh.mem.mp (Ah.perm.mem_iff.mpr<|Wau _ hy)
  refine decide_eq_true λz=>?_;rcases two k (by omega) with c|c
  ·rw[c,Dr.p1]at hp;exact pne hp
  ·subst c;exact(Wbf.mp ndB).1 hy
 ·refine Wb3.mpr ⟨(Wbf.mp ndA).2,(Wbf.mp ndB).2,λa ha b hb z=>?_⟩
  subst z;obtain⟨k,hk,hp,ek⟩:=Rl.mem.mp<|Al.perm.mem_iff.mpr<|Wau _ ha;obtain⟨j,hj,hp',ej⟩:=Rh.mem.mp<|Ah.perm.mem_iff.mpr<|Wau _ hb;have:k=j:=by omega
  subst this;omega
theorem Zzn {e:Int}(e0:0<=e) (e1:e<((2*ts.length:Nat):Int)) (ke:keepE t e=true):onI (inTs ts t) (inOrd ts t o) (outE t e)=outE t (skip t (onI ts o) e):=by
 obtain⟨rl,rh,A,B,gl,gh,nl,nh,hA,hB,kA,kB,ndM,eI⟩:=Zp4 hW hO ht Dr;have ol:=hO.len;have d1:=Dr.lt;have d2:=Dr.hi;have kk:=of_decide_eq_true ke;have hg:=Zbo (show e.toNat<2*ts.length by omega);have hge:(partner e.toNat) / 2=e.toNat / 2:=by unfold partner;split <;> omega
 have kg:keepE t ((partner e.toNat:Nat):Int)=true:=decide_eq_true (by omega);obtain⟨g1,g2,g3⟩:=Zb1 hW hO hg;have pl:=Zcp hW hg;have pe:partner (outE t e).toNat=(if partner e.toNat<2*t then partner e.toNat else partner e.toNat-2):=by
  unfold outE partner
  (repeat' split) <;> omega
 have oe:((if partner e.toNat<2*t then partner e.toNat else partner e.toNat-2:Nat):Int)=outE t ((partner e.toNat:Nat):Int):=by
  unfold outE
  (repeat' split) <;> omega
 have fr:∀{p:Nat}{r:List Int},o[p]?=some r->∀{y:Int},y∈r->folOf ts o y.toNat=nextIn r y:=λhr _ hy=>(Zei hW hO hr hy).2.2.2;have fe:onI ts o e=folOf ts o (partner e.toNat):=rfl
 -- the row that has the partner then
 have lhs:∀row:List Int,(inRows t (loN ts t) (hiN ts t) (elN ts t) (partner<|elN ts t) o)[(pd (loN ts t) (hiN ts t)<|placeAt ts<|partner e.toNat).toNat]?=some row->onI (inTs ts t) (inOrd ts t o) (outE t e)=nextIn (outRow t row) (outE t ((partner e.toNat:Nat):Int)):=λrow hrow=>by
  unfold onI folOf;rw[pe];have hr2:rowAt (inTs ts t) (inOrd ts t o) (if partner e.toNat<2*t then partner e.toNat else partner e.toNat-2)=outRow t row:=by
   unfold rowAt inTs inOrd;rw[Zd8 (by rw[Zgh hW hO ht];split <;> omega),Zek (by omega),Wac,Wad,hrow];rfl
  rw[hr2,oe]
 have x1:=Dr.p1;have x2:=Dr.p2;have ex:=Dr.e1;have ey:=Dr.e2;have pp:partner (partner<|elN ts t)=elN ts t:=Zbp _;have Fx:onI ts o ((elN ts t:Nat):Int)=nextIn rh ((partner (elN ts t):Nat):Int):=by
  have:=fr gh<|hB.perm.mem_iff.mpr Wam;rw[Wae]at this;rw[<- this];unfold onI;rw[Wae]
 have Fy:onI ts o ((partner (elN ts t):Nat):Int)=nextIn rl ((elN ts t:Nat):Int):=by
  have:=fr gl<|hA.perm.mem_iff.mpr Wam;rw[Wae]at this;rw[<- this];unfold onI;rw[Wae,pp]
 have kx:keepE t ((elN ts t:Nat):Int)=false:=decide_eq_false (by omega);have ky:keepE t ((partner (elN ts t):Nat):Int)=false:=decide_eq_false (by omega);have keepl:∀u∈rl,u≠((elN ts t:Nat):Int)->keepE t u=true:=λu hu hne=>by
  rcases Waq.mp (hA.perm.mem_iff.mp hu) with z|z
  ·exact absurd z hne
  ·exact kA u z
 have keeph:∀u∈rh,u≠((partner (elN ts t):Nat):Int)->keepE t u=true:=λu hu hne=>by
  rcases Waq.mp (hB.perm.mem_iff.mp hu) with z|z
  ·exact absurd z hne
  ·exact kB u z
 have kM:∀u∈A++B,keepE t u=true:=λu hu=>by
  rcases Wbd.mp hu with z|z
  ·exact kA u z
  ·exact kB u z
 have skM:∀{g:Int},g∈A++B->skip t (nextIn<|A++B) g=nextIn (A++B) g:=λhgM=>by
  unfold skip;rw[if_pos (kM _<|Zbs hgM)]
 by_cases cl:placeAt ts (partner e.toNat)=(loN ts t:Int)
 ·-- at the lesser place
  have hrow:(inRows t (loN ts t) (hiN ts t) (elN ts t) (partner<|elN ts t) o)[(pd (loN ts t) (hiN ts t)<|placeAt ts<|partner e.toNat).toNat]?=some (A++B):=by
   rw[eI,cl];unfold pd;rw[if_neg (by omega),if_neg (by omega),Wae,Wcj,if_pos d1,Wao (by omega)]
  have er:rowAt ts o (partner e.toNat)=rl:=by
   rw[cl,Wae,gl]at g1;exact(Wba.inj g1).symm
  rw[er]at g3;have hgA:((partner e.toNat:Nat):Int)∈A:=by
   rcases Waq.mp (hA.perm.mem_iff.mp g3) with z|z
   ·rw[z,kx]at kg;cases kg
   ·exact z
  rw[lhs _ hrow,Zdv ndM (Wcn _ hgA) kg,skM (Wcn _ hgA),Zkh nl nh hA hB ndM hgA];congr 1;have f1:onI ts o e=nextIn rl ((partner e.toNat:Nat):Int):=by
   have:=fr gl g3;rw[Wae]at this;rw[fe,this]
  unfold skip;rw[f1];by_cases c1:nextIn rl ((partner e.toNat:Nat):Int)=((elN ts t:Nat):Int)
  ·rw[if_pos c1,c1,kx,if_neg Wag,Fx]
   by_cases c2:nextIn rh ((partner (elN ts t):Nat):Int)=((partner (elN ts t):Nat):Int)
   ·rw[if_pos c2,c2,ky,if_neg Wag,Fy]
   ·rw[if_neg c2,if_pos (keeph _ (Zbs<|hB.perm.mem_iff.mpr Wam) c2)]
  ·rw[if_neg c1,if_pos (keepl _ (Zbs g3) c1)]
 ·by_cases ch:placeAt ts (partner e.toNat)=(hiN ts t:Int)
  ·have hrow:(inRows t (loN ts t) (hiN ts t) (elN ts t) (partner<|elN ts t) o)[(pd (loN ts t) (hiN ts t)<|placeAt ts<|partner e.toNat).toNat]?=some (A++B):=by
    rw[eI,ch];unfold pd;rw[if_pos rfl,Wae,Wcj,if_pos d1,Wao (by omega)]
   have er:rowAt ts o (partner e.toNat)=rh:=by
    rw[ch,Wae,gh]at g1;exact(Wba.inj g1).symm
   rw[er]at g3;have hgB:((partner e.toNat:Nat):Int)∈B:=by
    rcases Waq.mp (hB.perm.mem_iff.mp g3) with z|z
    ·rw[z,ky]at kg;cases kg
    ·exact z
   have ndM':(B++A).Nodup:=Wcs.nodup_iff.mp ndM;rw[lhs _ hrow,Zdv ndM (Waw _ hgB) kg,skM (Waw _ hgB),Zg9 ndM' ⟨B,A,rfl,rfl⟩ (Wcn _ hgB),Zkh nh nl hB hA ndM' hgB];congr 1;have f1:onI ts o e=nextIn rh ((partner e.toNat:Nat):Int):=by
    have:=fr gh g3;rw[Wae]at this;rw[fe,this]
   unfold skip;rw[f1];by_cases c1:nextIn rh ((partner e.toNat:Nat):Int)=((partner (elN ts t):Nat):Int)
   ·rw[if_pos c1,c1,ky,if_neg Wag,Fy]
    by_cases c2:nextIn rl ((elN ts t:Nat):Int)=((elN ts t:Nat):Int)
    ·rw[if_pos c2,c2,kx,if_neg Wag,Fx]
    ·rw[if_neg c2,if_pos (keepl _ (Zbs<|hA.perm.mem_iff.mpr Wam) c2)]
   ·rw[if_neg c1,if_pos (keeph _ (Zbs g3) c1)]
  ·-- elsewhere
   have hrow:(inRows t (loN ts t) (hiN ts t) (elN ts t) (partner<|elN ts t) o)[(pd (loN ts t) (hiN ts t)<|placeAt ts<|partner e.toNat).toNat]?=some (rowAt ts o<|partner e.toNat):=by
    rw[eI];unfold pd;rw[if_neg ch];by_cases c:(hiN ts t:Int)<placeAt ts (partner e.toNat)
    ·rw[if_pos c,Wcj,if_neg (by omega),War (by omega),show (placeAt ts (partner e.toNat)-1).toNat+1=(placeAt ts<|partner e.toNat).toNat by omega]
     exact g1
    ·rw[if_neg c,Wcj,if_pos (by omega),War (by omega)]
     exact g1
   have ka:∀u∈rowAt ts o (partner e.toNat),keepE t u=true:=λu hu=>by
    obtain⟨k,hk,hp,rfl⟩:=g2.mem.mp hu;refine decide_eq_true λz=>?_;have:partner (elN ts t)≠elN ts t:=by unfold partner;split <;> omega
    rcases(show k=elN ts t\/k=partner (elN ts t) by omega) with c|c
    ·rw[c,x1]at hp;exact cl hp.symm
    ·rw[c,x2]at hp;exact ch hp.symm
   rw[lhs _ hrow,Zdv g2.nodup g3 kg];have f1:onI ts o e=nextIn (rowAt ts o<|partner e.toNat) ((partner e.toNat:Nat):Int):=rfl;congr 1;unfold skip;rw[f1,if_pos (ka _<|Zbs g3),if_pos (ka _<|Zbs g3)]
end
theorem Zjz {l:List (List Int)}{i:Nat}{r:List Int}(h:l[i]?=some r):l.Perm (r::l.eraseIdx i):=by
 obtain⟨hi,rfl⟩:=Wah.mp h;rw[Wdr];have e:l=l.take i++l[i]::l.drop (i+1):=by rw[<- Wcw hi,Wbu]
 conv=>lhs;rw[e]
 exact Wd9
theorem Zrr {A B:List (List Int)}(h:A.Perm B):A.flatten.Perm B.flatten:=by
 induction h with
 |nil=>exact .refl _
 |cons x _ ih=>rw[Wbw,Wbw];exact List.Perm.append_left _ ih
 |swap x y l=>
  rw[Wbw,Wbw,Wbw,Wbw,<- Wbe,<- Wbe];exact List.Perm.append_right _ Wcs
 |trans _ _ a b=>exact a.trans b
theorem Ziy (t:Nat):outRow t []=[]:=Zfm
theorem Zls {t:Nat}{r:List Int}(h:∀y∈r,keepE t y=true):(outRow t r).isEmpty=r.isEmpty:=by
 cases r with
 |nil=>rw[Ziy]
 |cons x l=>
  have:outE t x∈outRow t (x::l):=Zcu.mpr ⟨x,Wam,h x Wam,rfl⟩;cases e:outRow t (x::l) with
  |nil=>rw[e]at this;cases this
  |cons _ _=>rfl
section
variable {N:Nat}{ts:List (Int × Int)}{o:List (List Int)}(hW:WebOk (N:Int) ts) (hO:OrdOk (N:Int) ts o) {t:Nat}(ht:t<ts.length) (Dr:DrawIs (N:Int) ts t)
include hW hO ht Dr
theorem Zwh:lone (inOrd ts t o)=lone o\/lone (inOrd ts t o)=lone o+1:=by
 obtain⟨rl,rh,A,B,gl,gh,nl,nh,hA,hB,kA,kB,ndM,eI⟩:=Zp4 hW hO ht Dr;have d1:=Dr.lt;have ol:=hO.len;have hlo:=(Wah.mp gl).1;have hhi:=(Wah.mp gh).1
 -- the others
 have gh2:(o.eraseIdx<|loN ts t)[hiN ts t-1]?=some rh:=by
  rw[Wcj,if_neg (by omega),show hiN ts t-1+1=hiN ts t by omega];exact gh
 have p1:=Zjz gl;have p2:=Zjz gh2;have p3:o.Perm (rl::rh::(o.eraseIdx<|loN ts t).eraseIdx (hiN ts t-1)):=p1.trans<|List.Perm.cons _ p2;have gs:(o.set (loN ts t)<|A++B)[loN ts t]?=some (A++B):=Wao hlo;have gt:(o.set (loN ts t)<|A++B)[hiN ts t]?=some rh:=by rw[War (by omega)];exact gh
 have p4:=Zjz gs;rw[List.eraseIdx_set_eq]at p4;have p5:=Zjz gt;have p6:((o.set (loN ts t)<|A++B).eraseIdx (hiN ts t)).Perm ((A++B)::(o.eraseIdx<|loN ts t).eraseIdx (hiN ts t-1)):=by
  have:(rh::(o.set (loN ts t)<|A++B).eraseIdx (hiN ts t)).Perm (rh::(A++B)::(o.eraseIdx<|loN ts t).eraseIdx (hiN ts t-1)):=
   p5.symm.trans (p4.trans ((List.Perm.cons _ p2).trans (List.Perm.swap ..)))
  exact this.cons_inv
 generalize hR:(o.eraseIdx<|loN ts t).eraseIdx (hiN ts t-1)=rest at p3 p6
 -- the others have none of the tie's ends
 have nd3:(rl::rh::rest).flatten.Nodup:=(Zrr p3).nodup_iff.mp hO.flat;rw[Wbw,Wbw,Wb3,Wb3]at nd3;have kR:∀r∈rest,∀y∈r,keepE t y=true:=λr hr y hy=>by
  have hy2:y∈rest.flatten:=Wcm.mpr ⟨r,hr,hy⟩;cases k:keepE t y with
  |true=>rfl
  |false=>
   have ex:=Dr.e1;have ey:=Dr.e2;have:partner (elN ts t)≠elN ts t:=by unfold partner;split <;> omega
   have h1:((elN ts t:Nat):Int)∈rl:=hA.perm.mem_iff.mpr Wam;have h2:((partner (elN ts t):Nat):Int)∈rh:=hB.perm.mem_iff.mpr Wam;rcases Zhg k with z|z
   ·rcases(show y=((elN ts t:Nat):Int)\/y=((partner (elN ts t):Nat):Int) by omega) with c|c
    ·exact absurd rfl<|nd3.2.2 y (c ▸ h1) y<|Waw _ hy2
    ·exact absurd rfl<|nd3.2.1.2.2 y (c ▸ h2) y hy2
   ·rcases(show y=((elN ts t:Nat):Int)\/y=((partner (elN ts t):Nat):Int) by omega) with c|c
    ·exact absurd rfl<|nd3.2.2 y (c ▸ h1) y<|Waw _ hy2
    ·exact absurd rfl<|nd3.2.1.2.2 y (c ▸ h2) y hy2
 have lo:lone o=lone rest:=by
  unfold lone;rw[(p3.filter _).length_eq];have e1:rl≠[]:=λe=>by rw[e]at hA;have:=hA.perm.length_eq;simp at this
  have e2:rh≠[]:=λe=>by rw[e]at hB;have:=hB.perm.length_eq;simp at this
  rw[Wc4 (by cases rl with|nil=>exact absurd rfl e1|cons _ _=>exact Wag),Wc4 (by cases rh with|nil=>exact absurd rfl e2|cons _ _=>exact Wag)]
 have li:lone (inOrd ts t o)=((if (outRow t<|A++B).isEmpty=true then 1 else 0)+lone rest):=by
  unfold lone inOrd;rw[eI,((p6.map<|outRow t).filter _).length_eq,Wbg];have er:((rest.map<|outRow t).filter λr=>r.isEmpty).length=(rest.filter λr=>r.isEmpty).length:=by
   rw[Wb4,Wab];congr 1;exact Wa9 λr hr=>Zls<|kR r hr
  by_cases c:(outRow t<|A++B).isEmpty=true
  ·rw[if_pos c,List.filter_cons_of_pos c,Wat,er];omega
  ·rw[if_neg c,Wc4 c,er];omega
 rw[li,lo];split <;> omega
theorem Zw2:OneOne (onI (inTs ts t)<|inOrd ts t o) (2*(ts.length-1)):=by
 have:=Zcm (Zpj (t:=t) hW Dr.lt Dr.hi)<|Zus hW hO ht Dr.lt Dr.hi Dr.p1 Dr.p2 Dr.e1 Dr.e2;rw[Wab,Zgh hW hO ht]at this;exact this
theorem Zuo:(inTs ts t).length=ts.length-1:=by unfold inTs;rw[Wab,Zgh hW hO ht]
theorem Zxg:(((facesTo (onI ts o) (2*ts.length)).map (outRow t)).filter λr=>r.isEmpty).length<=1:=by
 have F:=Zcm hW hO;have pne:placeAt ts (2*t)≠placeAt ts (2*t+1):=by
  have e1:=Dr.e1;have x1:=Dr.p1;have x2:=Dr.p2;have d1:=Dr.lt;obtain⟨q1,q2⟩:=Zet t;rcases(show elN ts t=2*t\/elN ts t=2*t+1 by omega) with c|c
  ·rw[c]at x1 x2;rw[q1]at x2;omega
  ·rw[c]at x1 x2;rw[q2]at x2;omega
 have fp:∀e:Nat,e<2*ts.length->placeAt ts (folOf ts o e).toNat=placeAt ts e:=λe he=>by
  obtain⟨g1,g2,g3⟩:=Zb1 hW hO he;obtain⟨k,hk,hp,ek⟩:=g2.mem.mp<|Zbs g3;show placeAt ts (nextIn (rowAt ts o e) (e:Int)).toNat=_;rw[<- ek,Wae,hp]
 rw[Wb4,Wab];have nd:((facesTo (onI ts o) (2*ts.length)).filter ((λr=>r.isEmpty)∘outRow t)).Nodup:=by
  have:=Zeb<|Zc7 F;have eF:((facesTo (onI ts o) (2*ts.length)).filter λr=>!r.isEmpty)=facesTo (onI ts o) (2*ts.length):=Wbl.mpr λr hr=>by
   obtain⟨e,_,_,_,h⟩:=Zco F hr;cases r with
   |nil=>cases h
   |cons _ _=>rfl
  rw[eF]at this;exact this.sublist Wck
 have all:∀r∈(facesTo (onI ts o) (2*ts.length)).filter ((λr=>r.isEmpty)∘outRow t),r∈facesTo (onI ts o) (2*ts.length)/\((2*t:Nat):Int)∈r:=λr hr=>by
  obtain⟨h1,h2⟩:=Wai.mp hr;refine⟨h1,?_⟩;have gone:∀y∈r,keepE t y=false:=λy hy=>by
   cases k:keepE t y with
   |false=>rfl
   |true=>
    have:outE t y∈outRow t r:=Zcu.mpr ⟨y,hy,k,rfl⟩;have h2:(outRow t r).isEmpty=true:=h2;rw[We1.mp h2]at this;cases this
  obtain⟨e,he,_,er,her⟩:=Zco F h1;rcases Zhg (gone _ her) with z|z
  ·rw[<- z];exact her
  ·-- then the next one is the other end
   have ee:e=2*t+1:=by omega
   subst ee;have nx:onI ts o ((2*t+1:Nat):Int)∈r:=by rw[er];exact Zbv F (by omega) (by omega) 1
   rcases Zhg (gone _ nx) with w|w
   ·rw[<- w];exact nx
   ·have:=fp (2*t) (by omega)
    have e2:onI ts o ((2*t+1:Nat):Int)=folOf ts o (2*t):=by unfold onI;rw[Wae,(Zet t).2]
    rw[<- e2,w,Wae]at this;exact absurd this.symm pne
 generalize (facesTo (onI ts o) (2*ts.length)).filter ((λr=>r.isEmpty)∘outRow t)=L at nd all
 match L,nd,all with
 |[],_,_=>exact Wcl _
 |[_],_,_=>exact Wak _
 |r::s::L,nd,all=>
  have a:=all r Wam;have b:=all s<|Wau _ Wam;have:=Zkz F a.1 b.1 (by omega) (by omega) a.2 b.2;exact absurd (this ▸ Wam) (Wbf.mp nd).1
theorem Zy2:(ts[t].1=(loN ts t:Int)/\ts[t].2=(hiN ts t:Int))\/(ts[t].1=(hiN ts t:Int)/\ts[t].2=(loN ts t:Int)):=by
 have e1:=Dr.e1;have x1:=Dr.p1;have x2:=Dr.p2;obtain⟨q1,q2⟩:=Zet t;have p0:placeAt ts (2*t)=ts[t].1:=by
  unfold placeAt;rw[show 2*t / 2=t by omega,Waa ht];dsimp only;rw[if_pos (by omega)]
 have p1:placeAt ts (2*t+1)=ts[t].2:=by
  unfold placeAt;rw[show (2*t+1) / 2=t by omega,Waa ht];dsimp only;rw[if_neg (by omega)]
 rcases(show elN ts t=2*t\/elN ts t=2*t+1 by omega) with c|c
 ·rw[c,p0]at x1;rw[c,q1,p1]at x2;exact Or.inl ⟨x1,x2⟩
 ·rw[c,p1]at x1;rw[c,q2,p0]at x2;exact Or.inr ⟨x2,x1⟩
theorem Zuf:WebOk ((N-1:Nat):Int) (inTs ts t):=by
 have:=Zpj (t:=t) hW Dr.lt Dr.hi;rw[show (N:Int)-1=((N-1:Nat):Int) by have:=hW.lo;omega]at this;exact this
theorem Zyq:OrdOk ((N-1:Nat):Int) (inTs ts t) (inOrd ts t o):=by
 have:=Zus hW hO ht Dr.lt Dr.hi Dr.p1 Dr.p2 Dr.e1 Dr.e2;rw[show (N:Int)-1=((N-1:Nat):Int) by have:=hW.lo;omega]at this;exact this
theorem Zmv {ms ns:List Int}(hm:Firsts ms (marksL N ts)) (hn:Firsts ns (marksL (N-1)<|inTs ts t)):ms.length=ns.length:=
 Zmk hW ht Dr.lt (by have:=Dr.hi;omega) (Zy2 hW hO ht Dr) hm hn
theorem Zq4:(allF (inTs ts t)<|inOrd ts t o).Perm ((allF ts o).map (outRow t)):=by
 have F:=Zcm hW hO;have sf:=Ziq F (Zw2 hW hO ht Dr) ht λe e0 e1 ke=>Zzn hW hO ht Dr e0 e1 ke;have il:=Zuo hW hO ht Dr;have few:=Zxg hW hO ht Dr;have lo:=Zwh hW hO ht Dr;obtain⟨ms,hm⟩:=Zdc<|marksL N ts;obtain⟨ns,hn⟩:=Zdc<|marksL (N-1)<|inTs ts t;have pq:=Zmv hW hO ht Dr hm hn;have w1:=(Zdf hW hO hm).2;have w2:=(Zdf (Zuf hW hO ht Dr) (Zyq hW hO ht Dr) hn).2;have n1:=hW.lo;have sp:=Zbn (λr:List Int=>r.isEmpty) ((facesTo (onI ts o) (2*ts.length)).map (outRow t));rw[Wab]at sp;have sl:=sf.length_eq;have al:(allF ts o).length=lone o+(facesTo (onI ts o) (2*ts.length)).length:=by unfold allF;rw[Wan,Wa8]
 have al2:(allF (inTs ts t)<|inOrd ts t o).length=lone (inOrd ts t o)+(facesTo (onI (inTs ts t)<|inOrd ts t o) (2*(ts.length-1))).length:=by unfold allF;rw[Wan,Wa8,il]
 -- as many without ends,by parity
 have key:lone (inOrd ts t o)=lone o+(((facesTo (onI ts o) (2*ts.length)).map (outRow t)).filter λr=>r.isEmpty).length:=by
  rw[il]at w2;omega
 unfold allF;rw[il,key,Waz,List.map_replicate,Ziy];have emp:(((facesTo (onI ts o) (2*ts.length)).map (outRow t)).filter λr=>r.isEmpty)=Wal (((facesTo (onI ts o) (2*ts.length)).map (outRow t)).filter λr=>r.isEmpty).length []:=List.eq_replicate_iff.mpr ⟨rfl,λr hr=>We1.mp (Wai.mp hr).2⟩;have pp:((((facesTo (onI ts o) (2*ts.length)).map (outRow t)).filter λr=>r.isEmpty)++((facesTo (onI ts o) (2*ts.length)).map (outRow t)).filter λr=>!r.isEmpty).Perm ((facesTo (onI ts o) (2*ts.length)).map (outRow t)):=List.filter_append_perm _ _;rw[<- List.replicate_append_replicate,Wbe];refine List.Perm.append_left _ ?_;rw[<- emp];exact(List.Perm.append_left _ sf).trans pp
end
section
variable {P:Program}{w:World}{K:W.Frag}{mg:Str->Option Value}{base:Heap}{f:Addr}{fd:FuncData}
def faceIx (R:List (List Int)) (e:Int):Nat:=R.findIdx λr=>decide<|e∈r
theorem Zqp:∀{R:List (List Int)}{p:Nat}{r:List Int}{e:Int},R.flatten.Nodup->R[p]?=some r->e∈r->faceIx R e=p
 |[],_,_,_,_,h,_=>by simp at h
 |r0::R,0,r,e,_,h,he=>by
  have h:r0=r:=by simpa using h
  subst h;unfold faceIx;rw[List.findIdx_cons,decide_eq_true he];rfl
 |r0::R,p+1,r,e,nd,h,he=>by
  rw[Wbw,Wb3]at nd;have h:R[p]?=some r:=by simpa using h
  have hm:e∈R.flatten:=Wcm.mpr ⟨r,Way h,he⟩;have hn:e ∉ r0:=λz=>nd.2.2 e z e hm rfl;have ih:=Zqp nd.2.1 h he;unfold faceIx at ih ⊢;rw[List.findIdx_cons,decide_eq_false hn];show _+1=p+1;rw[ih]
end
noncomputable def faIx (ts:List (Int × Int)) (o:List (List Int)):Nat ⊕ Nat->Int
 |.inl a=>(faceIx (allF ts o) (folOf ts o a):Nat)
 |.inr p=>-1-(p:Int)
theorem Zl1 {n:Int}{ts:List (Int × Int)}{o:List (List Int)}(hW:WebOk n ts) (hO:OrdOk n ts o):(allF ts o).flatten.Nodup:=by rw[Zqs];exact Zc7<|Zcm hW hO
theorem Zg8 {n:Int}{ts:List (Int × Int)}{o:List (List Int)}(hW:WebOk n ts) (hO:OrdOk n ts o) {x:Int}(h0:0<=x) (h1:x<((2*ts.length:Nat):Int)):∃r,(allF ts o)[faceIx (allF ts o) x]?=some r/\x∈r/\r∈facesTo (onI ts o) (2*ts.length):=by
 have hx:x∈(facesTo (onI ts o) (2*ts.length)).flatten:=(Zgp<|Zcm hW hO).mem_iff.mpr (Wa3.mpr ⟨x.toNat,Wav.mpr (by omega),by omega⟩);obtain⟨r,hr,hxr⟩:=Wcm.mp hx;have hm:r∈allF ts o:=Waw _ hr;obtain⟨p,hp⟩:=Wbx.mp hm;have e:=Zqp (Zl1 hW hO) hp hxr;rw[e];exact⟨r,hp,hxr,hr⟩
theorem Zvo {n:Int}{ts:List (Int × Int)}{o:List (List Int)}(hW:WebOk n ts) (hO:OrdOk n ts o) {c d:Nat ⊕ Nat}(hc:CorOk n ts o c) (hd:CorOk n ts o d):faIx ts o c=faIx ts o d↔SameC ts o c d:=by
 have F:=Zcm hW hO;cases c with
 |inl a=>
  have ha:a<2*ts.length:=hc;obtain⟨ga,hga,_,ea⟩:=Zc5 hW hO ha;cases d with
  |inl b=>
   have hb:b<2*ts.length:=hd;obtain⟨gb,hgb,_,eb⟩:=Zc5 hW hO hb;obtain⟨r,h1,h2,h3⟩:=Zg8 hW hO (x:=folOf ts o a) (by omega) (by omega);obtain⟨s,k1,k2,k3⟩:=Zg8 hW hO (x:=folOf ts o b) (by omega) (by omega);obtain⟨e,he,_,er,_⟩:=Zco F h3;show ((faceIx (allF ts o) (folOf ts o a):Nat):Int)=((faceIx (allF ts o) (folOf ts o b):Nat):Int)↔folOf ts o b∈orb (onI ts o) (folOf ts o a);constructor
   ·intro h
    have h:faceIx (allF ts o) (folOf ts o a)=faceIx (allF ts o) (folOf ts o b):=by omega
    rw[h,k1]at h1;cases h1;rw[er]at h2 k2;exact Za1 F (by omega) (by omega) (Zbl F (by omega) (by omega) h2) k2
   ·intro h
    have:folOf ts o b∈r:=by rw[er]at h2 ⊢;exact Za1 F (by omega) (by omega) h2 h
    rw[Zqp (Zl1 hW hO) h1 this]
  |inr q=>
   show ((faceIx (allF ts o) (folOf ts o a):Nat):Int) = -1-(q:Int)↔False;exact⟨λh=>by omega,λh=>h.elim⟩
 |inr p=>
  cases d with
  |inl b=>
   show -1-(p:Int)=((faceIx (allF ts o) (folOf ts o b):Nat):Int)↔False;exact⟨λh=>by omega,λh=>h.elim⟩
  |inr q=>
   show -1-(p:Int) = -1-(q:Int)↔p=q;omega
structure Deed (N:Nat) (ts:List (Int × Int)) (o:List (List Int)) (M:Nat) (us:List (Int × Int)) (v:List (List Int)) (more less:Int):Prop where
 web:WebOk (M:Int) us
 ord:OrdOk (M:Int) us v
 fac:((allF us v).length:Int)=((allF ts o).length:Int)+more
 hol:∀ms ns,Firsts ms (marksL N ts)->Firsts ns (marksL M us)->holesI (M:Int) us v ns=holesI (N:Int) ts o ms+less
theorem Zri {N:Nat}{ts:List (Int × Int)}{p:Int}(p0:0<=p) (p1:p<(N:Int)) {ms:List Int}(hm:Firsts ms (marksL N ts)):(partsL N ts ms).filter (λr=>decide<|p∈r)=[partI (marksL N ts) N (mk N ts p)]:=by
 unfold partsL;rw[Wb4];have e:ms.filter ((λr=>decide<|p∈r)∘partI (marksL N ts) N)=ms.filter λg=>decide (g=mk N ts p):=Wa9 λg _=>by
  show decide (p∈partI (marksL N ts) N g)=_;rw[decide_eq_decide,Zh6];exact⟨λh=>h.2.2.symm,λh=>⟨p0,p1,h.symm⟩⟩
 rw[e,Zmx hm.1 ((hm.2 _).mpr (Zud p0 p1))];rfl
theorem Zrd {N:Nat}{ts:List (Int × Int)}{p q:Int}(p0:0<=p) (p1:p<(N:Int)):[partI (marksL N ts) N (mk N ts p)]=[partI (marksL N ts) N (mk N ts q)]↔mk N ts p=mk N ts q:=by
 constructor
 ·intro h
  have h:=(Wdh.inj h).1;have:p∈partI (marksL N ts) N (mk N ts q):=by rw[<- h];exact Zh6.mpr ⟨p0,p1,rfl⟩
  exact(Zh6.mp this).2.2
 ·intro h;rw[h]
section
variable {N:Nat}{ts:List (Int × Int)}{o:List (List Int)}(hW:WebOk (N:Int) ts) (hO:OrdOk (N:Int) ts o)
include hW hO
theorem Zqw:Deed N ts o N ts o 0 0:=⟨hW,hO,by omega,λms ns h1 h2=>by rw[h1.uniq h2];omega⟩
theorem Zt0 {c d:Nat ⊕ Nat}(hc:CorOk (N:Int) ts o c) (hd:CorOk (N:Int) ts o d) (hl:ts.length<24) {b1 b2:Bool}(h1:b1=true↔SameC ts o c d) (h2:b2=true↔mk N ts (corP ts c:Int)=mk N ts (corP ts d:Int)) :
  Deed N ts o N (putTs ts c d) (putO ts o c d) (if b1=true then 1 else -1) (if b1=true then 0 else if b2=true then 1 else 0):=by
 have W':=Zmf hW hO hc hd hl;have O':=Zml hW hO hc hd;have pf:=Zrl hW hO hc hd hl;have ll:=Zl9 hW hO hc hd hl;have pc:=(Zbf hW hO hc).1;have pd':=(Zbf hW hO hd).1;have ol:=hO.len;have e1:((allF (putTs ts c d)<|putO ts o c d).length:Int)=((allF ts o).length:Int)+(if b1=true then 1 else -1):=by
  rw[pf];by_cases s:SameC ts o c d
  ·rw[if_pos s,if_pos (h1.mpr s)]
  ·rw[if_neg s,if_neg λz=>s (h1.mp z)]
 refine⟨W',O',e1,λms ns hm hn=>?_⟩;have w1:=(Zdf hW hO hm).2;have w2:=(Zdf W' O' hn).2;have pm:=Zir hW (a:=(corP ts c:Int)) (b:=(corP ts d:Int)) ⟨by omega,by omega⟩ ⟨by omega,by omega⟩ hm hn;rw[ll]at w2;rw[e1]at w2;by_cases s:b1=true
 ·have hg:=Zr2 hW hO hc hd hl (h1.mp s)
  rw[if_pos hg]at pm;rw[if_pos s]at w2 ⊢;omega
 ·rw[if_neg s]at w2 ⊢
  by_cases z:b2=true
  ·rw[if_pos (h2.mp z)]at pm
   rw[if_pos z];omega
  ·rw[if_neg λq=>z (h2.mpr q)]at pm
   rw[if_neg z];omega
theorem Zsl {t:Nat}(ht:t<ts.length) {b1 b2:Bool}(h1:b1=true↔((2*t+1:Nat):Int)∈orb (onI ts o) ((2*t:Nat):Int)) (h2:b2=true↔mk N (ts.eraseIdx t) ts[t].1=mk N (ts.eraseIdx t) ts[t].2) :
  Deed N ts o N (ts.eraseIdx t) (o.map<|outRow t) (if b1=true then 1 else -1) (if b1=true then (if b2=true then -1 else 0) else 0):=by
 have W':=Zfb hW t;have O':=Zpm hO ht;have of:=Zk9 hW hO ht;have ll:=Zgh hW hO ht;have e1:((allF (ts.eraseIdx t)<|o.map<|outRow t).length:Int)=((allF ts o).length:Int)+(if b1=true then 1 else -1):=by
  rw[of];by_cases s:((2*t+1:Nat):Int)∈orb (onI ts o) ((2*t:Nat):Int)
  ·rw[if_pos s,if_pos (h1.mpr s)]
  ·rw[if_neg s,if_neg λz=>s (h1.mp z)]
 refine⟨W',O',e1,λms ns hm hn=>?_⟩;have w1:=(Zdf hW hO hm).2;have w2:=(Zdf W' O' hn).2;have pl:=Zow hW ht hm hn;rw[ll]at w2;rw[e1]at w2;by_cases s:b1=true
 ·rw[if_pos s]at w2 ⊢
  by_cases z:b2=true
  ·rw[if_pos (h2.mp z)]at pl
   rw[if_pos z];omega
  ·rw[if_neg λq=>z (h2.mpr q)]at pl
   rw[if_neg z];omega
 ·have nb:=Zq2 hW hO ht λz=>s (h1.mpr z)
  rw[if_pos nb]at pl;rw[if_neg s]at w2 ⊢;omega
theorem Zv7 {t:Nat}(ht:t<ts.length) (Dr:DrawIs (N:Int) ts t):Deed N ts o (N-1) (inTs ts t) (inOrd ts t o) 0 0:=by
 have W':=Zuf hW hO ht Dr;have O':=Zyq hW hO ht Dr;have pl:=(Zq4 hW hO ht Dr).length_eq;rw[Wab]at pl;refine⟨W',O',by omega,λms ns hm hn=>?_⟩;have w1:=(Zdf hW hO hm).2;have w2:=(Zdf W' O' hn).2;have pq:=Zmv hW hO ht Dr hm hn;have il:=Zuo hW hO ht Dr;have n1:=hW.lo;rw[il]at w2;omega
end
section
variable {P:Program}{w:World}{K:W.Frag}{mg:Str->Option Value}{base:Heap}{f:Addr}{fd:FuncData}
theorem Zly (ts:List (Int × Int)) (m:Nat) (p:Int) (q:D->Bool) (hq:∀k:Nat,q (.int (0+(k:Int)))=decide (placeAt ts k=p)):(rngD 0 m).filter q=(endsBelow ts m p).map .int:=by
 unfold rngD endsBelow;rw[Wb4,Wbb];have e:(q∘λi:Nat=>D.int (0+(i:Int)))=λe=>decide (placeAt ts e=p):=by
  funext k;exact hq k
 rw[e];apply Wb8;intro k _;show D.int (0+(k:Int))=D.int (k:Int);rw[Wb1]
theorem Zvh {n:Int}{ts:List (Int × Int)}{o:List (List Int)}(hO:OrdOk n ts o) {p:Nat}(hp:(p:Int)<n):o[p]?=some (o.getD p []):=by
 have:=hO.len;have h:p<o.length:=by omega
 rw[Wac,Waa h];rfl
theorem Zsv (n:Nat):(Wal n true).all id=true:=by
 rw[Wbi];intro x hx;rw[(Wda.mp hx).2];rfl
end
def fIsO:DSp:=λds Post=>∃n ts o,ds=[encWeb n ts,encOrd o]/\WebOk n ts/\OrdOk n ts o/\Post (.bl true)
theorem Zo3 {r L:List Int}(h:r.head?=L.head?):r.take 1=L.take 1:=by
 cases r <;> cases L <;> simp_all
theorem Zo6 {ts:List (Int × Int)}{m:Nat}{p:Int}{r ms:List Int}(h:RowOk ts m p r) (h1:ms.Perm r) (h2:ms.Pairwise (· <= ·)):ms=endsBelow ts m p:=
 List.Perm.eq_of_pairwise (le:=λa b=>a<=b) (λa b _ _ h1 h2=>by omega) h2 ((Ze9 ts m p).imp λh=>Int.le_of_lt h) (h1.trans h.perm)
section
variable {P:Program}{w:World}{K:W.Frag}{mg:Str->Option Value}{base:Heap}{f:Addr}{fd:FuncData}
theorem Zpn (ds:List D):cutD ds none (some 1)=ds.take 1:=by
 unfold cutD;show (ds.drop 0).take (min (Int.toNat 1) ds.length-0)=_;rw[Wd1,Wef];cases ds with
 |nil=>rfl
 |cons x t=>rfl
theorem Zyx (mb:Mb mg) (C60:Callee P w K mg base 1 "_law_whole" ["_law_found"] (spD K fWhole)) (F:Fun K "_law_is_order" "_law_is_order" Yao f fd):FnOk P w K mg base CX0 2 f fd ["_law_web_here","_law_found"] (spD K fIsO):=by
 refine F.ok Ya5 (Zbc λds Post h=>by obtain⟨_,_,_,rfl,_⟩:=h;rfl) λcdv A outer s H vs Q E hr h=>?_;have hu:=Zbz hr;have hv:=Zka hr;refine⟨_,(Zae (Zcf (PW.pt<|pw_or (Ze7<|truK K (Zai (isiUK K) rfl (mb "isinstance"<|by decide) Zbd<|Zaa (pv 1)<|Zaa (Zdm rfl (mb "tuple"<|by decide) Zb3 (show RelV (.ty "tuple") _ from rfl)) Zad) λ_=>rfl)<|pw_or1<|Zao Zg0 (Zai (lenK K) rfl (mb "len"<|by decide) Za5<|Zaa (pv 1) Zad) (Zaq (ixK K hu) (pv 0) Zag λ_ _=>rfl)<|nomark _) (Zah<|Zau Zkd) Za4)<|Zae (Zdt PassesOwn.never rfl (Zbk rfl (mb "range"<|by decide)<|Zaa (Zaq (ixK K hu) (pv 0) Zag λ_ _=>rfl) Zad) (Zam (i:=2) Ya5.nd rfl<|Or.inr rfl)<|Zae (Zdg (i:=3) ["_law_k"] (show CompSc (defScope Yao) ["_law_web_here","_law_found","_law_place","_law_due","_law_row"] _ ["_law_web_here","_law_place"] [0,2] from ⟨rfl,by decide +kernel,by decide +kernel,by decide +kernel,rfl,by decide +kernel⟩) rfl Ya5.nd rfl (Or.inl rfl) (Zbk rfl (mb "range"<|by decide)<|Zaa (Zap Zcn Zag<|Zai (lenK K) rfl (mb "len"<|by decide) Za5<|Zaa (Zaq (ixK K hu) (pv 0) Zag λ_ _=>rfl) Zad) Zad) (λ_ _ _ _ _=>(Zam (i:=0) (show List.Nodup (["_law_k","_law_web_here","_law_place"]:List Str) from by decide) rfl<|Or.inl rfl)) (λ_ _ _ _ _=>(Zc3<|Zao Zci (Zaq (ixK K hu) (Zaq (ixK K hu) (Zaq (ixK K hu) (pv 1) Zag λ_ _=>rfl) (Zap Zd5 (pv 0) Zag) λ_ _=>rfl) (Zap Zcv (pv 0) Zag) λ_ _=>rfl) (pv 2)<|nomark _)) λ_ _ _ _ _=>(pv 0))<|Zae (Zat (i:=4) Ya5.nd rfl (Or.inl rfl)<|Zaq (ixK K hu) (pv 1) (pv 2) λ_ _=>rfl)<|Zae (Zcf (PW.pt<|pw_or (Ze7<|truK K (Zai (isiUK K) rfl (mb "isinstance"<|by decide) Zbd<|Zaa (pv 4)<|Zaa (Zdm rfl (mb "tuple"<|by decide) Zb3 (show RelV (.ty "tuple") _ from rfl)) Zad) λ_=>rfl)<|pw_or1<|Ze7<|truK K (Zai (allK K rfl) rfl (mb "all"<|by decide) Zyr<|Zaa (Zcr ["_law_end"] (show CompSc (defScope Yao) ["_law_web_here","_law_found","_law_place","_law_due","_law_row"] _ [] [] from ⟨rfl,by decide +kernel,by decide +kernel,by decide +kernel,rfl,by decide +kernel⟩) rfl (seqK K<|pv 4) (λ_ _ _ _ _=>(Zam (i:=0) (show List.Nodup (["_law_end"]:List Str) from by decide) rfl<|Or.inl rfl)) (λ_ _ _ _ _=>Zd2) λ_ _ _ _ _=>(Zax C60 (hr.mono<|by decide)<|Zaa (pv 0) Zad)) Zad) λ_=>rfl) (Zah<|Zau Zkd) Za4)<|Zah<|Zcf (PW.pt<|pw_or (Zao (neIK K hv) (Zai (sortTK K) rfl (mb "sorted"<|by decide) Ze5<|Zaa (pv 4) Zad) (pv 3)<|nomark _)<|pw_or1<|Zao (neIK K hv) (Zbj (lstK K) rfl (mb "list"<|by decide) Zjk<|Zaa (Zbx (slK K) (pv 4) Zch<|Zcj Zag) Zad) (Zbx (slK K) (pv 3) Zch<|Zcj Zag)<|nomark _) (Zah<|Zau Zkd) Za4)<|Zah<|Zau Zkd),Zcx (λds Post hf=>?_) h⟩;obtain⟨n,ts,o,rfl,hW,hO,q⟩:=hf;refine⟨by simp,?_⟩;dsimp only[startD,Wbk,Wbm,Wa6,Wal];have hl:=hW.len;have ho:=hO.len;have hn:=hW.hi;have eL:((2:Int)*(ts.length:Int)).toNat=2*ts.length:=by omega
 refine Zal<|Zcc<|Zjt<|Zd9<|Zcl<|Za0<|Zab<|Zac rfl<|Zab<|Zfu<|Zaf<|Zcw (T:="tuple") (b:=true) rfl (λ_=>by rfl) ⟨_,rfl,iteF ?_⟩;refine Zar<|Zaj<|Za0<|Zab<|Zac rfl<|Zaf<|Za7 (Or.inr rfl)<|Zaj<|Zac rfl<|Zak<|Zas (d:=.int n) rfl<|Zju ⟨_,rfl,?_⟩;rw[Wab,decide_eq_true ho];refine iteF<|Zbb ?_;refine Zca (λ_=>True) ?_ λΔ1 _=>Za2<|Zsr q;refine Zea<|Zbq<|Zab<|Zaj<|Zac rfl<|Zak<|Zas (d:=.int n) rfl<|Zaf ⟨_,rfl,by omega,by omega,λi Δ=>∃x1 x2 x3:L2.Slot,Δ = [.val (encWeb n ts),.val (encOrd o),x1,x2,x3],⟨_,_,_,rfl⟩,?_,λ_ _=>trivial⟩;rintro i d Δ2 hd ⟨x1,x2,x3,rfl⟩;obtain⟨hi,rfl⟩:=Zce hd;have hi':(i:Int)<n:=by omega
 have hg:=Zvh hO hi';have R:=hO.row i _ hg;have rl:=R.len;refine Zbg<|Zal<|Zaw<|Zbw (by decide)<|Zbq<|Zab<|Zaj<|Zak<|Za0<|Zab<|Zaj<|Zac rfl<|Zak<|Zas (Zdx n ts)<|Zaf<|Za7 (Or.inr rfl) ?_;rw[Wab];refine jr_I (Or.inl ⟨by omega,by omega⟩)<|Zaf ⟨_,rfl,by omega,by omega,?_⟩;rw[eL];refine⟨by rw[Zbu];exact small1000 (by omega),λd=>match d with|.int e=>decide (placeAt ts e.toNat=(0+(i:Int)))|_=>false,λd=>d,λj d hd=>?_,?_⟩
 ·obtain⟨hj,rfl⟩:=Zce hd
  obtain⟨t,h1,h2,h3⟩:=Znh hj;refine Zar<|Zaj<|Zaj<|Zaj<|Zaj<|Zac rfl<|Zak<|Zas (Zdx n ts) ?_;refine Zaj<|Zac rfl<|Zak<|jr_I ⟨by omega,by omega⟩<|Zas h2 ?_;refine Zaj<|Zac rfl<|Zak<|jr_I (by show (0:Int)<2;omega)<|Zas h3 ?_;refine Zac rfl<|Zer ⟨_,rfl,?_,?_⟩
  ·show _=decide (placeAt ts (0+(j:Int)).toNat=(0+(i:Int)))
   rw[show (0+(j:Int)).toNat=j by omega]
  ·by_cases hp:placeAt ts j=(0+(i:Int))
   ·rw[decide_eq_true hp,if_pos rfl];exact Zac rfl ⟨rfl,_,rfl⟩
   ·rw[decide_eq_false hp,if_neg Wag];exact⟨_,rfl⟩
 rw[Wdu,Zly ts _ (0+(i:Int)) _ λk=>by show decide (placeAt ts (0+(k:Int)).toNat=(0+(i:Int)))=_;rw[show (0+(k:Int)).toNat=k by omega]];rw[Wb1];refine Zal<|Zaw<|Zaj<|Zac rfl<|Zac rfl<|Zas (d:=encRow<|o.getD i []) (Zby ?_) ?_
 ·rw[Wad,hg];rfl
 refine Zal<|Zcc<|Zjt<|Zd9<|Zcl<|Za0<|Zab<|Zac rfl<|Zab<|Zfu<|Zaf<|Zcw (T:="tuple") (b:=true) rfl (λ_=>by rfl) ⟨_,rfl,iteF ?_⟩;refine Zd9<|Zcl<|Za0<|Zab<|Zbw (by decide)<|Zdp<|Zac rfl ⟨_,rfl,?_,λ_=>true,λ_=>.bl true,λj d hd=>?_,?_⟩
 ·rw[Wab];exact small1000 (by omega)
 ·rw[Wad]at hd
  cases z:(o.getD i [])[j]? with
  |none=>rw[z]at hd;cases hd
  |some x=>
   rw[z]at hd;cases hd;exact Zd4 ⟨rfl,Zav<|Zab<|Zac rfl<|Zaf ⟨_,rfl,rfl,_,rfl⟩⟩
 have eA:(((o.getD i []).map D.int).filter λ_=>true).map (λ_=>D.bl true)=(Wal (o.getD i []).length true).map D.bl:=by
  rw[Wbl.mpr (by simp),List.map_const',List.map_replicate,Wab]
 refine Zaf ?_;rw[eA];refine Zyn ⟨_,rfl,?_⟩;rw[Zsv];refine iteF<|Zbb ?_;refine Zcc<|Zjt<|Zar<|Zaj<|Zbr<|Ztm<|Zab<|Zac rfl<|Zaf ⟨_,rfl,by omega,λms m1 m2=>⟨_,rfl,Zac rfl ?_⟩⟩;rw[Zo6 R m1 m2];refine Zui ⟨_,rfl,iteF ?_⟩;refine Zar<|Zaj<|Za0<|Zab<|Zfe<|Zac rfl<|Zcg<|Zck<|Zak ⟨_,rfl,.tup (((o.getD i []).take 1).map D.int),?_,?_⟩
 ·show some (D.tup<|cutD ((o.getD i []).map D.int) none<|some 1)=_
  rw[Zpn,Wc1]
 refine Zaf<|Zpq (Or.inr rfl)<|Zfe<|Zac rfl<|Zcg<|Zck<|Zak ⟨_,rfl,.lst (((o.getD i []).take 1).map D.int),?_,?_⟩
 ·show some (D.lst<|cutD ((endsBelow ts (2*ts.length) i).map D.int) none<|some 1)=_
  rw[Zpn,Zo3 R.first,Wc1]
 exact Zui ⟨_,rfl,iteF<|Zbb ⟨_,_,_,rfl⟩⟩
end
def isIntP:D->Option Bool
 |.int _=>some true
 |.tup _=>some false
 |_=>none
def fIsWP:DSp:=λds Post=>∃d b,ds=[d]/\isIntP d=some b/\Post (.bl b)
def fIsPl:DSp:=λds Post=>∃n ts,∃p:Int,ds=[encWeb n ts,.int p]/\0<=p/\p<n/\Post (.bl true)
section
variable {P:Program}{w:World}{K:W.Frag}{mg:Str->Option Value}{base:Heap}{f:Addr}{fd:FuncData}
theorem Zwk (mb:Mb mg) (F:Fun K "is_whole" "is_whole" Yar f fd):FnOk P w K mg base CX0 1 f fd ["thing"] (spD K fIsWP):=by
 refine F.ok Ybx (Zbc λds Post h=>by obtain⟨_,_,rfl,_⟩:=h;rfl) λcdv A outer s H vs Q E hr h=>?_;have hu:=Zbz hr;refine⟨_,(Zah<|Zau<|Zk0 (Zai (isiUK K) rfl (mb "isinstance"<|by decide) Zbd<|Zaa (pv 0)<|Zaa (Zdm rfl (mb "int"<|by decide) Zi7 (show RelV (.ty "int") _ from rfl)) Zad)<|Zky<|Zqj<|Zai (isiUK K) rfl (mb "isinstance"<|by decide) Zbd<|Zaa (pv 0)<|Zaa (Zdm rfl (mb "bool"<|by decide) Zlq (show RelV (.ty "bool") _ from rfl)) Zad),Zcx (λds Post hf=>?_) h⟩;obtain⟨d,b,rfl,hb,q⟩:=hf;refine⟨by simp,?_⟩;dsimp only[startD,Wbk,Wbm,Wa6];cases d with
 |int i=>
  cases hb;refine Za2<|Zfy<|Za0<|Zab<|Zac rfl<|Zab<|Zfu<|Zaf<|Zcw (T:="int") (b:=true) rfl (λ_=>by rfl) ⟨_,rfl,?_⟩;rw[if_pos rfl];refine Zjh<|Za0<|Zab<|Zac rfl<|Zab<|Zfu<|Zaf<|Zcw (T:="int") (b:=false) rfl (λ_=>by rfl) ⟨_,rfl,?_⟩;exact q
 |tup l=>
  cases hb;exact Za2<|Zfy<|Za0<|Zab<|Zac rfl<|Zab<|Zfu<|Zaf<|Zcw (T:="tuple") (b:=false) rfl (λ_=>by rfl) ⟨_,rfl,iteF q⟩
 |_=>cases hb
theorem Zwc (mb:Mb mg) (C69:Callee P w K mg base 1 "is_whole" ["thing"] (spD K fIsWP)) (F:Fun K "is_place" "is_place" Ya8 f fd):FnOk P w K mg base CX0 2 f fd ["web","place"] (spD K fIsPl):=by
 refine F.ok Yb6 (Zbc λds Post h=>by obtain⟨_,_,_,rfl,_⟩:=h;rfl) λcdv A outer s H vs Q E hr h=>?_;have hu:=Zbz hr;refine⟨_,(Zah<|Zau<|Zk0 (Zax C69 (hr.mono<|by decide)<|Zaa (pv 1) Zad)<|Zky<|Zm8 Zu5 Zln Zag (pv 1)<|Zaq (ixK K hu) (pv 0) Zag λ_ _=>rfl),Zcx (λds Post hf=>?_) h⟩;obtain⟨n,ts,p,rfl,h0,h1,q⟩:=hf;refine⟨by simp,?_⟩;dsimp only[startD,Wbk,Wbm,Wa6];refine Za2<|Zfy<|Zav<|Zab<|Zac rfl<|Zaf ⟨_,_,rfl,rfl,_,rfl,iteT ?_⟩;refine Zj1<|Zak<|Zac rfl<|Ze2 ⟨_,rfl,?_⟩;rw[decide_eq_true h0,if_pos rfl];refine Zaj<|Zac rfl<|Zak<|Zas (d:=.int n) rfl<|Ze2 ?_;rw[decide_eq_true h1];exact q
def fOut:DSp:=λds Post=>∃n ts o,∃t:Nat,ds=[encWeb n ts,encOrd o,.int t]/\WebOk n ts/\OrdOk n ts o/\t<ts.length/\Post (floorD n (ts.eraseIdx t)<|o.map<|outRow t)
theorem Zxs (mb:Mb mg) (F:Fun K "is_whole" "is_whole" Yar f fd):FnOk P w K mg base CX0 1 f fd ["thing"] (spD K fWhole):=by
 refine F.ok Ybx (Zbc λds Post h=>by obtain⟨_,rfl,_⟩:=h;rfl) λcdv A outer s H vs Q E hr h=>?_;have hu:=Zbz hr;refine⟨_,(Zah<|Zau<|Zk0 (Zai (isiUK K) rfl (mb "isinstance"<|by decide) Zbd<|Zaa (pv 0)<|Zaa (Zdm rfl (mb "int"<|by decide) Zi7 (show RelV (.ty "int") _ from rfl)) Zad)<|Zky<|Zqj<|Zai (isiUK K) rfl (mb "isinstance"<|by decide) Zbd<|Zaa (pv 0)<|Zaa (Zdm rfl (mb "bool"<|by decide) Zlq (show RelV (.ty "bool") _ from rfl)) Zad),Zcx (λds Post hf=>?_) h⟩;obtain⟨e,rfl,q⟩:=hf;refine⟨by simp,?_⟩;dsimp only[startD,Wbk,Wbm,Wa6];refine Za2<|Zfy<|Za0<|Zab<|Zac rfl<|Zab<|Zfu<|Zaf<|Zcw (T:="int") (b:=true) rfl (λ_=>by rfl) ⟨_,rfl,?_⟩;rw[if_pos rfl];refine Zjh<|Za0<|Zab<|Zac rfl<|Zab<|Zfu<|Zaf<|Zcw (T:="int") (b:=false) rfl (λ_=>by rfl) ⟨_,rfl,?_⟩;exact q
theorem Zxa (mb:Mb mg) (C68:Callee P w K mg base 2 "is_tie" ["web","tie"] (spD K fIsTie)) (C79:Callee P w K mg base 2 "rows_without" ["rows","tie"] (spD K fRowsW)) (F:Fun K "taken_out" "taken_out" Ybj f fd):FnOk P w K mg base CX0 3 f fd ["web","order","tie"] (spD K fOut):=by
 refine F.ok Ybv (Zbc λds Post h=>by obtain⟨_,_,_,_,rfl,_⟩:=h;rfl) λcdv A outer s H vs Q E hr h=>?_;have hu:=Zbz hr;refine⟨_,(Zae (Zc1 (pv 0)<|gtupK (n:=2) K rfl<|Za8 (Zam (i:=3) Ybv.nd rfl<|Or.inl rfl)<|Za8 (Zam (i:=4) Ybv.nd rfl<|Or.inl rfl) Zdr)<|Zae (Zcf (Ze7<|truK K (Zax C68 (hr.mono<|by decide)<|Zaa (pv 0)<|Zaa (pv 2) Zad) λ_=>rfl) Zf3 Za4)<|Zah<|Zau<|Zb8<|Zaa (Zb8<|Zaa (pv 3)<|Zaa (Zap (addK K) (Zbx (slK K) (pv 4) Zch<|Zcj<|pv 2)<|Zbx (slK K) (pv 4) (Zcj<|Zap (addK K) (pv 2) Zag) Zch) Zad)<|Zaa (Zax C79 (hr.mono<|by decide)<|Zaa (pv 1)<|Zaa (pv 2) Zad) Zad),Zcx (λds Post hf=>?_) h⟩;obtain⟨n,ts,o,t,rfl,hW,hO,ht,q⟩:=hf;refine⟨by simp,?_⟩;dsimp only[startD,Wbk,Wbm,Wa6,Wal];have hw2:=hW.len;obtain⟨o1,o2⟩:=hO.rows hW;refine Zal<|Zg2<|Zac rfl<|Zfp rfl<|Zbe<|Zbg<|Zbe<|Zbg<|Zd6 ?_;refine Zal<|Zcc<|Zd9<|Zcl<|Zav<|Zab<|Zac rfl<|Zab<|Zac rfl<|Zaf ⟨n,ts,t,rfl,ht,true,rfl,iteF<|Zbb ?_⟩;refine Za2<|Zb7<|Zab<|Zb7<|Zab<|Zac rfl<|Zab<|Zaj<|Zfe<|Zac rfl<|Zcg<|Zck<|Zac rfl ⟨_,rfl,.tup ((ts.map encTie).take t),?_,?_⟩
 ·show some (D.tup<|cutD (ts.map encTie) none<|some ((t:Nat):Int))=_
  rw[Zhm _ (by rw[Wab];omega)]
 refine Zfe<|Zac rfl<|Zck<|Zaj<|Zac rfl<|Zak<|Zcd ⟨_,rfl,Zcg ⟨.tup ((ts.map encTie).drop (t+1)),?_,Zfw ?_<|Zaf ⟨Ze0,?_⟩⟩⟩
 ·show some (D.tup<|cutD (ts.map encTie) (some ((t:Int)+1)) none)=_
  rw[show ((t:Int)+1)=((t+1:Nat):Int) by omega,Zej _ (by rw[Wab];omega)]
 ·rw[Wbr,Wa5,Wab]
  exact Wb0 (small1000<|by omega)
 rw[Zhk];exact Zab<|Zav<|Zab<|Zac rfl<|Zab<|Zac rfl<|Zaf ⟨o,_,t,rfl,Or.inl rfl,o1,λr hr=>by have:=o2 r hr;omega,Zaf ⟨Ze0,q⟩⟩
theorem _root_.L2.JT.imp {K:W.Frag}{c:TT}{Δ:Evt}{P Q:Bool->Evt->Prop}(h:JT K c Δ P) (f:∀b Δ1,P b Δ1->Q b Δ1):JT K c Δ Q:=λg G H σ R k z=>h g G H σ R k λb G' H' Δ' k' s' p=>z b G' H' Δ' k' s'<|f b Δ' p
def intP:D->Int
 |.int i=>i
 |_=>0
def bareN (o:List (List Int)) (N:Nat):List Nat:=(Wap N).filter λp=>(o.getD p []).isEmpty
def natD (p:Nat):D:=.int (p:Int)
theorem Zxq (o:List (List Int)) (N:Nat):((rngD 0 N).filter λd=>(o.getD (intP d).toNat []).isEmpty).map (λd=>d)=(bareN o N).map natD:=by
 unfold bareN rngD;rw[Wdu,Wb4];congr 1
 ·funext p;show D.int (0+(p:Int))=D.int (p:Int);rw[Wb1]
 ·apply Wa9
  intro p _;show (o.getD (0+(p:Int)).toNat []).isEmpty=_;rw[Wb1,Wae]
theorem Zt5 {n:Int}{ts:List (Int × Int)}{o:List (List Int)}(hW:WebOk n ts):(bareN o n.toNat).length<=25:=by
 have:=hW.hi;unfold bareN;exact Wbz (Wcg _ _) (by rw[Wbq];omega)
theorem Zs2 {n:Int}{ts:List (Int × Int)}{o:List (List Int)}(hW:WebOk n ts) (hO:OrdOk n ts o) (h:ts.length=0):0<(bareN o n.toNat).length:=by
 have h1:=hW.lo;have h2:=hO.len;refine Wco (a:=0) ?_;unfold bareN;rw[Wai,Wav];refine⟨by omega,?_⟩;have R:=hO.row 0 _ (Zbi<|by omega);rw[h]at R;have:o.getD 0 []=[]:=List.Perm.eq_nil R.perm;rw[this];rfl
theorem Zsb {n:Int}{ts:List (Int × Int)}{o:List (List Int)}(hW:WebOk n ts) {k:Nat}(hk:k<(bareN o n.toNat).length):∃p,(bareN o n.toNat)[k]?=some p/\CorOk n ts o (.inr p):=by
 have h1:=hW.lo;refine⟨_,Waa hk,?_⟩;have hm:(bareN o n.toNat)[k]∈bareN o n.toNat:=Wa0 hk;generalize (bareN o n.toNat)[k]=p at hm;unfold bareN at hm;rw[Wai,Wav]at hm;exact⟨by omega,by simpa using hm.2⟩
def fCorner:BSp:=λps ds Post=>Pen ps/\∃n ts o,ds=[encWeb n ts,encOrd o]/\WebOk n ts/\OrdOk n ts o/\∀c ps',Pen ps' -> CorOk n ts o c->Post (corD c) ps'
theorem Zo1 (mb:Mb mg) (C46:Callee P w K mg base 1 "_law_draw" ["_law_pen_here","_law_many"] (spB K fDraw)) (F:Fun K "_law_corner" "_law_corner" Yax f fd):FnOk P w K mg base CX0 2 f fd ["_law_pen_here","_law_web_here","_law_order_here"] (spB K fCorner):=by
 refine F.ok Yb4 (Zgl λps ds Post h=>by obtain⟨_,_,_,_,rfl,_⟩:=h;rfl) λcdv A outer s H vs Q E hr h=>?_;have hu:=Zbz hr;have hv:=Zka hr;refine⟨_,(Zae (Zdg (i:=3) ["_law_place"] (show CompSc (defScope Yax) ["_law_pen_here","_law_web_here","_law_order_here","_law_bare"] _ ["_law_order_here"] [2] from ⟨rfl,by decide +kernel,by decide +kernel,by decide +kernel,rfl,by decide +kernel⟩) rfl Yb4.nd rfl (Or.inl rfl) (Zbk rfl (mb "range"<|by decide)<|Zaa (Zaq (ixK K hu) (pv 1) Zag λ_ _=>rfl) Zad) (λ_ _ _ _ _=>(Zam (i:=0) (show List.Nodup (["_law_place","_law_order_here"]:List Str) from by decide) rfl<|Or.inl rfl)) (λ_ _ _ _ _=>(Zc3<|Zao (eqT0K K hu) (Zaq (ixK K hu) (pv 1) (pv 0) λ_ _=>rfl) (Zb8 Zad)<|nomark _)) λ_ _ _ _ _=>(pv 0))<|Zae (Zcf (PW.pt<|pw_or (Zao Zci (Zai (lenK K) rfl (mb "len"<|by decide) Za5<|Zaa (Zaq (ixK K hu) (pv 1) Zag λ_ _=>rfl) Zad) Zag<|nomark _)<|pw_or1<|PW.pt<|pw_and (Zao Zk2 (Zai (lenK K) rfl (mb "len"<|by decide) Za5<|Zaa (pv 3) Zad) Zag<|nomark _)<|pw_and1<|Zao Zci (Zax C46 (hr.mono<|by decide)<|Zaa (pv 0)<|Zaa Zag Zad) Zag<|nomark _) (Zah<|Zau<|Zb8<|Zaa Zun<|Zaa (Zaq (ixK K hu) (pv 3) (Zax C46 (hr.mono<|by decide)<|Zaa (pv 0)<|Zaa (Zai (lenK K) rfl (mb "len"<|by decide) Za5<|Zaa (pv 3) Zad) Zad) λ_ _=>rfl) Zad) Za4)<|Zah<|Zau<|Zax C46 (hr.mono<|by decide)<|Zaa (pv 0)<|Zaa (Zap Zcn Zag<|Zai (lenK K) rfl (mb "len"<|by decide) Za5<|Zaa (Zaq (ixK K hu) (pv 1) Zag λ_ _=>rfl) Zad) Zad),Zn8 (λps ds Post hf=>?_) h⟩;obtain⟨hp,n,ts,o,rfl,hW,hO,q⟩:=hf;refine⟨by simp,?_⟩;dsimp only[cxOf,startD,Wbk,Wbm,Wa6,Wal];have hn0:=hW.lo;have hn1:=hW.hi;have hw2:=hW.len;have hol:=hO.len;have hbl:=Zt5 (o:=o) hW;have hba:=Zs2 hW hO;have hbc:=λ{k:Nat}=>Zsb (o:=o) (k:=k) hW;refine Zal<|Zaw<|Zbw (by decide)<|Zbq<|Zab<|Zaj<|Zac rfl<|Zak<|Zas (d:=.int n) rfl<|Zaf ⟨_,rfl,by omega,by omega,by rw[Zbu];exact small1000 (by omega),λd=>(o.getD (intP d).toNat []).isEmpty,λd=>d,λi d hd=>?_,?_⟩
 ·obtain⟨hi,rfl⟩:=Zce hd
  rw[Wb1];refine Zar<|Zaj<|Zaj<|Zac rfl<|Zac rfl<|Zas (d:=encRow<|o.getD i []) (Zby (by rw[Wad,Zbi (by omega)];rfl))<|Zb7<|Zaf ⟨by decide,Zwq ⟨_,rfl,?_,?_⟩⟩
  ·show ((o.getD i []).map D.int).isEmpty=(o.getD ((i:Int)).toNat []).isEmpty;rw[Wae,List.isEmpty_map]
  ·exact ite2 (λz=>Zac rfl ⟨rfl,_,rfl⟩) λz=>⟨_,rfl⟩
 rw[Zxq];generalize hB:bareN o n.toNat=B at *;refine Zca (λΔ=>∃psx,Pen psx/\0<ts.length /\ Δ = [.bor (.lst psx),.val (encWeb n ts),.val (encOrd o),.val (.lst<|B.map natD)]) ?_ ?_
 ·refine Zcc (L2.JT.imp (P:=λb Δ=>∃psx,Pen psx/\(b=true->0<B.length)/\(b=false->0<ts.length) /\ Δ = [.bor (.lst psx),.val (encWeb n ts),.val (encOrd o),.val (.lst<|B.map natD)]) ?_ ?_)
  ·refine Zjt (Zar<|Zaj<|Za0<|Zab<|Zaj<|Zac rfl<|Zak<|Zas (Zdx n ts)<|Zaf<|Za7 (Or.inr rfl) ?_)
   rw[Wab];refine Zak<|Zer ⟨_,rfl,ite2 (λz=>?_) λz=>?_⟩
   ·have z:(ts.length:Int)=0:=of_decide_eq_true z
    exact⟨ps,hp,λ_=>hba (by omega),(λz=>nomatch z),rfl⟩
   ·have z:¬ (ts.length:Int)=0:=of_decide_eq_false (Wcc.mpr z)
    refine Zew<|Zar<|Zaj<|Za0<|Zab<|Zac rfl<|Zaf<|Za7 (Or.inl rfl)<|Zak<|Ze2 ⟨_,rfl,ite2 (λy=>?_) λy=>?_⟩
    ·rw[Wab]at y
     have y:(0:Int)<(B.length:Int):=of_decide_eq_true y;refine Zar<|Zaj<|Zdu rfl rfl<|Zab<|Zak<|Zaf ⟨_,_,rfl,rfl,hp,3,rfl,by omega,by omega,λr ps' hp' r0 r1=>Zak<|Zer ⟨_,rfl,?_⟩⟩;exact⟨ps',hp',λ_=>by omega,λ_=>by omega,rfl⟩
    ·exact⟨ps,hp,λz=>(nomatch z),λ_=>by omega,rfl⟩
  ·rintro b Δ1 ⟨psx,hpx,hb1,hb2,rfl⟩
   cases b with
   |true=>
    have hpos:=hb1 rfl;refine iteT<|Za2<|Zb7<|Zab<|Zt7<|Zab<|Zaj<|Zac rfl<|Zdu rfl rfl<|Zab<|Za0<|Zab<|Zac rfl<|Zaf<|Za7 (Or.inl rfl) ?_;rw[Wab];refine Zaf ⟨_,_,rfl,rfl,hpx,_,rfl,by omega,by omega,λr ps' hp' r0 r1=>?_⟩;obtain⟨k,rfl⟩:∃k:Nat,r=(k:Int):=⟨r.toNat,by omega⟩;obtain⟨p,hk,hc⟩:=hbc (k:=k) (by omega);exact Zc4 (d:=natD p) (Zby (by rw[Wad,hk];rfl))<|Zaf ⟨Ze0,ps',rfl,q _ _ hp' hc⟩
   |false=>exact iteF (Zbb ⟨psx,hpx,hb2 rfl,rfl⟩)
 rintro Δ1 ⟨psx,hpx,hlt,rfl⟩;refine Za2<|Zdu rfl rfl<|Zab<|Zaj<|Zak<|Za0<|Zab<|Zaj<|Zac rfl<|Zak<|Zas (Zdx n ts)<|Zaf<|Za7 (Or.inr rfl) ?_;rw[Wab];refine jr_I (Or.inl ⟨by omega,by omega⟩)<|Zaf ⟨_,_,rfl,rfl,hpx,_,rfl,by omega,by omega,λr ps' hp' r0 r1=>?_⟩;obtain⟨e,rfl⟩:∃e:Nat,r=(e:Int):=⟨r.toNat,by omega⟩;exact⟨ps',rfl,q (.inl e) ps' hp' (by show e<2*ts.length;omega)⟩
end
def fCP:DSp:=λds Post=>∃n ts o c,ds=[encWeb n ts,encOrd o,corD c]/\WebOk n ts/\OrdOk n ts o/\CorOk n ts o c/\Post (.int (corP ts c:Int))
def fRW:DSp:=λds Post=>∃(r:List Int) (c:Nat ⊕ Nat) (x:Int),ds=[encRow r,corD c,.int x]/\(∀e,c=.inl e->(e:Int)∈r)/\r.length<=60/\Post (encRow<|rowW r c x)
def fPut:DSp:=λds Post=>∃n ts o c d,ds=[encWeb n ts,encOrd o,corD c,corD d]/\WebOk n ts/\OrdOk n ts o/\CorOk n ts o c/\CorOk n ts o d/\ts.length<24/\Post (floorD n (putTs ts c d)<|putO ts o c d)
theorem Zwp (c:Nat ⊕ Nat):isIntP (corD c)=some (match c with|.inl _=>true|.inr _=>false):=by cases c <;> rfl
section
variable {P:Program}{w:World}{K:W.Frag}{mg:Str->Option Value}{base:Heap}{f:Addr}{fd:FuncData}
theorem Zzh (mb:Mb mg) (C69:Callee P w K mg base 1 "is_whole" ["thing"] (spD K fIsWP)) (C67:Callee P w K mg base 2 "is_place" ["web","place"] (spD K fIsPl)) (C76:Callee P w K mg base 1 "place_of" ["web","end"] (spD K fPlace)) (F:Fun K "corner_place" "corner_place" Ybh f fd):FnOk P w K mg base CX0 3 f fd ["web","order","corner"] (spD K fCP):=by
 refine F.ok Ybz (Zbc λds Post h=>by obtain⟨_,_,_,_,rfl,_⟩:=h;rfl) λcdv A outer s H vs Q E hr h=>?_;have hu:=Zbz hr;refine⟨_,(Zae (Zcf (PW.pt<|pw_and (truK K (Zax C69 (hr.mono<|by decide)<|Zaa (pv 2) Zad) λ_=>rfl)<|pw_and1<|Zr7 Zu5 Zln Zag (pv 2)<|Zap Zcn Zag<|Zai (lenK K) rfl (mb "len"<|by decide) Za5<|Zaa (Zaq (ixK K hu) (pv 0) Zag λ_ _=>rfl) Zad) (Zah<|Zau<|Zax C76 (hr.mono<|by decide)<|Zaa (pv 0)<|Zaa (pv 2) Zad) Za4)<|Zae (Zcf (PW.pt<|pw_and (truK K (Zai (isiUK K) rfl (mb "isinstance"<|by decide) Zbd<|Zaa (pv 2)<|Zaa (Zdm rfl (mb "tuple"<|by decide) Zb3 (show RelV (.ty "tuple") _ from rfl)) Zad) λ_=>rfl)<|pw_and (Zao Zci (Zai (lenK K) rfl (mb "len"<|by decide) Za5<|Zaa (pv 2) Zad) Zag<|nomark _)<|pw_and1<|Zao Zci (Zaq (ixK K hu) (pv 2) Zag λ_ _=>rfl) Zun<|nomark _) (Zae (Zat (i:=3) Ybz.nd rfl (Or.inl rfl)<|Zaq (ixK K hu) (pv 2) Zag λ_ _=>rfl)<|Zah<|Zcf (PW.pt<|pw_and (truK K (Zax C67 (hr.mono<|by decide)<|Zaa (pv 0)<|Zaa (pv 3) Zad) λ_=>rfl)<|pw_and1<|Ze7<|truK K (Zaq (ixK K hu) (pv 1) (pv 3) λ_ _=>rfl) λ_=>rfl) (Zah<|Zau<|pv 3) Za4) Za4) Zf3),Zcx (λds Post hf=>?_) h⟩;obtain⟨n,ts,o,c,rfl,hW,hO,hc,q⟩:=hf;refine⟨by simp,?_⟩;dsimp only[startD,Wbk,Wbm,Wa6,Wal];have hw2:=hW.len;have hol:=hO.len;cases c with
 |inl e=>
  have he:e<2*ts.length:=hc;obtain⟨p0,p1⟩:=Zcp hW he;refine Zal<|Zcc<|Zew<|Zcl<|Zav<|Zab<|Zac rfl<|Zaf ⟨_,_,rfl,rfl,_,rfl,iteT ?_⟩;refine Zar<|Zj1<|Zak<|Zac rfl<|Ze2 ⟨_,rfl,?_⟩;rw[decide_eq_true (show (0:Int)<=(e:Int) by omega),if_pos rfl];refine Zaj<|Zak<|Za0<|Zab<|Zaj<|Zac rfl<|Zak<|Zas (Zdx n ts)<|Zaf<|Za7 (Or.inr rfl) ?_;rw[Wab];refine jr_I (Or.inl ⟨by omega,by omega⟩)<|Ze2 ⟨_,rfl,?_⟩;rw[decide_eq_true (show (e:Int)<2*(ts.length:Int) by omega)];refine iteT<|Za2<|Zav<|Zab<|Zac rfl<|Zab<|Zac rfl<|Zaf ⟨n,ts,e,rfl,he,?_⟩;have q':Post (.int (((placeAt ts e).toNat:Nat):Int)):=q;rw[show (((placeAt ts e).toNat:Nat):Int)=placeAt ts e by omega]at q';exact q'
 |inr p=>
  obtain⟨hp,hb⟩:=hc;have hp':p<o.length:=by omega
  refine Zal<|Zcc<|Zew<|Zcl<|Zav<|Zab<|Zac rfl<|Zaf ⟨_,_,rfl,rfl,_,rfl,iteF<|iteF<|Zbb ?_⟩;refine Zal<|Zcc<|Zew<|Zcl<|Za0<|Zab<|Zac rfl<|Zab<|Zfu<|Zaf<|Zcw (T:="tuple") (b:=true) rfl (λ_=>by rfl) ⟨_,rfl,iteT ?_⟩;refine Zew<|Zar<|Zaj<|Za0<|Zab<|Zac rfl<|Zaf<|Za7 (Or.inr rfl)<|Zak<|Zer ⟨_,rfl,?_⟩;refine iteT ?_;refine Zar<|Zaj<|Zaj<|Zac rfl<|Zak<|Zas (d:=.str "place") rfl<|Zt7<|Zye ⟨_,rfl,iteT ?_⟩;refine Zal<|Zaw<|Zaj<|Zac rfl<|Zak<|Zas (d:=.int (p:Int)) rfl ?_;refine Zcc<|Zew<|Zcl<|Zav<|Zab<|Zac rfl<|Zab<|Zac rfl<|Zaf ⟨n,ts,p,rfl,by omega,hp,_,rfl,iteT ?_⟩;refine Zd9<|Zcl<|Zaj<|Zac rfl<|Zac rfl<|Zas (d:=encRow<|o.getD p []) (Zby ?_) ⟨false,?_,iteT ?_⟩
  ·rw[Wad,Zbi hp'];rfl
  ·rw[hb];rfl
  exact Za2<|Zac rfl q
theorem Zrg {j n:Nat}(h:j<n):ixN n (j:Int)=some j:=by
 unfold ixN;rw[if_pos (by omega),if_pos (by omega)];rfl
theorem Zze (mb:Mb mg) (C69:Callee P w K mg base 1 "is_whole" ["thing"] (spD K fIsWP)) (F:Fun K "row_with" "row_with" Ybi f fd):FnOk P w K mg base CX0 2 f fd ["row","corner","end"] (spD K fRW):=by
 refine F.ok Yb0 (Zbc λds Post h=>by obtain⟨_,_,_,rfl,_⟩:=h;rfl) λcdv A outer s H vs Q E hr h=>?_;have hu:=Zbz hr;refine⟨_,(Zae (Zat (i:=3) Yb0.nd rfl (Or.inl rfl)<|Zga (truK K (Zax C69 (hr.mono<|by decide)<|Zaa (pv 1) Zad) λ_=>rfl) (Zap (addK K) (bmK K PySem.F.plainAttrs_tuple PySem.F.slot_tuple_index PySem.F.type_tuple_index (idxK K) (pv 0)<|Zaa (pv 1) Zad) Zag)<|Zai (lenK K) rfl (mb "len"<|by decide) Za5<|Zaa (pv 0) Zad)<|Zah<|Zau<|Zap (addK K) (Zap (addK K) (Zbx (slK K) (pv 0) Zch<|Zcj<|pv 3)<|Zb8<|Zaa (pv 2) Zad)<|Zbx (slK K) (pv 0) (Zcj<|pv 3) Zch),Zcx (λds Post hf=>?_) h⟩;obtain⟨r,c,x,rfl,hc,hl,q⟩:=hf;refine⟨by simp,?_⟩;dsimp only[startD,Wbk,Wbm,Wa6,Wal];obtain⟨j1,_⟩:=j_ok hc;refine Zca (λΔ=>Δ = [.val (encRow r),.val (corD c),.val (.int x),.val (.int (jOf r c:Nat))]) ?_ ?_
 ·refine Zaw (Zgg<|Zcl<|Zav<|Zab<|Zac rfl<|Zaf ⟨_,_,rfl,Zwp c,_,rfl,?_⟩)
  cases c with
  |inl e=>
   obtain⟨i1,i2,i3⟩:=Zb0<|hc e rfl;refine iteT<|Zaj<|Zha<|Zac rfl ⟨r,rfl,Zac rfl ⟨(e:Int),r.idxOf (e:Int),rfl,i2,i3,Zak<|Zcd ?_⟩⟩;show _=[_,_,_,L2.Slot.val (.int ((r.idxOf (e:Int)+1:Nat):Int))];rw[show ((r.idxOf (e:Int)+1:Nat):Int)=(r.idxOf (e:Int):Int)+1 by omega];rfl
  |inr p=>
   refine iteF<|Za0<|Zab<|Zac rfl<|Zaf<|Za7 (Or.inr rfl) ?_;rw[Wab];rfl
 rintro Δ1 rfl;have hj:jOf r c<=(r.map D.int).length:=by rw[Wab];exact j1
 refine Za2<|Zaj<|Zaj<|Zfe<|Zac rfl<|Zcg<|Zck<|Zac rfl ⟨_,rfl,.tup ((r.map D.int).take (jOf r c)),?_,?_⟩
 ·show some (D.tup<|cutD (r.map D.int) none<|some ((jOf r c:Nat):Int))=_
  rw[Zhm _ hj]
 refine Zb7<|Zab<|Zac rfl<|Zaf ⟨(show 1<=sizeLine from by decide),Zfw ?_ ?_⟩
 ·rw[Wa5,Wab,Wbt];exact Wb0 (small1000<|by omega)
 refine Zfe<|Zac rfl<|Zck<|Zac rfl ⟨_,rfl,Zcg ⟨.tup ((r.map D.int).drop (jOf r c)),?_,Zfw ?_ ?_⟩⟩
 ·show some (D.tup<|cutD (r.map D.int) (some ((jOf r c:Nat):Int)) none)=_
  rw[Zej _ hj]
 ·rw[Wan,Wa5,Wbr,Wab,Wbt];exact Wb0 (small1000<|by omega)
 unfold encRow rowW at q;rw[Waz,Wc1,Wbg,Wdn]at q;rw[Wbe];exact q
theorem Zxo (mb:Mb mg) {tk:Tok}(g_MOST_TIES:mg "MOST_TIES" = some (.int 24 tk)) (C61:Callee P w K mg base 3 "corner_place" ["web","order","corner"] (spD K fCP)) (C78:Callee P w K mg base 2 "row_with" ["row","corner","end"] (spD K fRW)) (F:Fun K "put_in" "put_in" Ybg f fd):FnOk P w K mg base CX0 4 f fd ["web","order","one","other"] (spD K fPut):=by
 refine F.ok Yag (Zbc λds Post h=>by obtain⟨_,_,_,_,_,rfl,_⟩:=h;rfl) λcdv A outer s H vs Q E hr h=>?_;have hu:=Zbz hr;refine⟨_,(Zae (Zc1 (pv 0)<|gtupK (n:=2) K rfl<|Za8 (Zam (i:=4) Yag.nd rfl<|Or.inl rfl)<|Za8 (Zam (i:=5) Yag.nd rfl<|Or.inl rfl) Zdr)<|Zae (Zat (i:=6) Yag.nd rfl (Or.inl rfl)<|Zax C61 (hr.mono<|by decide)<|Zaa (pv 0)<|Zaa (pv 1)<|Zaa (pv 2) Zad)<|Zae (Zat (i:=7) Yag.nd rfl (Or.inl rfl)<|Zax C61 (hr.mono<|by decide)<|Zaa (pv 0)<|Zaa (pv 1)<|Zaa (pv 3) Zad)<|Zae (Zcf (Zao Zw6 (Zai (lenK K) rfl (mb "len"<|by decide) Za5<|Zaa (pv 5) Zad) (Zv2 rfl g_MOST_TIES (show RelV (.int 24) _ from ⟨_,rfl⟩))<|nomark _) Zf3 Za4)<|Zae (Zat (i:=8) Yag.nd rfl (Or.inl rfl)<|Zap Zcn Zag<|Zai (lenK K) rfl (mb "len"<|by decide) Za5<|Zaa (pv 5) Zad)<|Zae (Zat (i:=9) Yag.nd rfl (Or.inl rfl)<|Zbj (lstK K) rfl (mb "list"<|by decide) Zjk<|Zaa (pv 1) Zad)<|Zae (Zc1 (Zax C78 (hr.mono<|by decide)<|Zaa (Zaq (ixK K hu) (pv 9) (pv 6) λ_ _=>rfl)<|Zaa (pv 2)<|Zaa (pv 8) Zad)<|Zfn (pv 9) (pv 6)<|setU hu)<|Zae (Zc1 (Zax C78 (hr.mono<|by decide)<|Zaa (Zaq (ixK K hu) (pv 9) (pv 7) λ_ _=>rfl)<|Zaa (pv 3)<|Zaa (Zap (addK K) (pv 8) Zag) Zad)<|Zfn (pv 9) (pv 7)<|setU hu)<|Zah<|Zau<|Zb8<|Zaa (Zb8<|Zaa (pv 4)<|Zaa (Zap (addK K) (pv 5)<|Zb8<|Zaa (Zb8<|Zaa (pv 6)<|Zaa (pv 7) Zad) Zad) Zad)<|Zaa (Zbj (tupK K) rfl (mb "tuple"<|by decide) Zb3<|Zaa (pv 9) Zad) Zad),Zcx (λds Post hf=>?_) h⟩;obtain⟨n,ts,o,c,d,rfl,hW,hO,hc,hd,hl,q⟩:=hf;refine⟨by simp,?_⟩;dsimp only[startD,Wbk,Wbm,Wa6,Wal];obtain⟨o1,o2⟩:=hO.rows hW;obtain⟨c1,c2⟩:=Zbf hW hO hc;obtain⟨d1,d2⟩:=Zbf hW hO hd;have g48:∀i:Nat,(o.getD i []).length<=48:=λi=>by
  rw[Wac];cases z:o[i]? with
  |none=>simp
  |some r=>exact o2 r (Way z)
 refine Zal<|Zg2<|Zac rfl<|Zfp rfl<|Zbe<|Zbg<|Zbe<|Zbg<|Zd6 ?_;refine Zal<|Zaw<|Zav<|Zab<|Zac rfl<|Zab<|Zac rfl<|Zab<|Zac rfl<|Zaf ⟨n,ts,o,c,rfl,hW,hO,hc,?_⟩;refine Zal<|Zaw<|Zav<|Zab<|Zac rfl<|Zab<|Zac rfl<|Zab<|Zac rfl<|Zaf ⟨n,ts,o,d,rfl,hW,hO,hd,?_⟩;refine Zal<|Zcc<|Zar<|Zaj<|Za0<|Zab<|Zac rfl<|Zaf<|Za7 (Or.inr rfl)<|Zak<|Ze2 ⟨_,rfl,?_⟩;rw[Wab,decide_eq_false (by omega)];refine iteF<|Zbb ?_;refine Zal<|Zaw<|Zaj<|Zak<|Za0<|Zab<|Zac rfl<|Zaf<|Za7 (Or.inr rfl) ?_;rw[Wab];refine jr_I (Or.inl ⟨by omega,by omega⟩) ?_;rw[show (2:Int)*(ts.length:Int)=((2*ts.length:Nat):Int) by omega];refine Zal<|Zcz<|Zpc<|Zab<|Zac rfl<|Zaf ⟨_,Or.inl rfl,?_⟩;have aC:atI (o.map encRow) (corP ts c:Int)=some (encRow<|o.getD (corP ts c) []):=Zby (by rw[Wad,Zbi c1];rfl);have zc:=g48<|corP ts c;refine Zal<|Zgd<|Zav<|Zab<|Zd3 rfl rfl<|Zac rfl ⟨_,_,_,_,rfl,rfl,rfl,aC,Zab<|Zac rfl<|Zab<|Zac rfl<|Zaf ⟨_,c,_,rfl,λe h=>(c2 e h).1,by omega,⟨_,_,rfl,rfl⟩,Zac rfl ⟨_,_,_,corP ts c,rfl,rfl,rfl,?_,?_⟩⟩⟩
 ·refine Zrg ?_
  rw[Wab];exact c1
 have e1:(o.map encRow).set (corP ts c) (encRow<|rowW (o.getD (corP ts c) []) c ((2*ts.length:Nat):Int))=(put1 o (corP ts c) c ((2*ts.length:Nat):Int)).map encRow:=by
  unfold put1;rw[Wdt]
 rw[e1];generalize hO1:put1 o (corP ts c) c ((2*ts.length:Nat):Int)=O1;have l1:O1.length=o.length:=by rw[<- hO1,Zge]
 have zO:∀i:Nat,(O1.getD i []).length<=49:=λi=>by
  rw[<- hO1];unfold put1;rw[Wac,Wcz];by_cases hp:corP ts c=i
  ·subst hp
   rw[if_pos rfl,if_pos c1];show (rowW _ _ _).length<=49;unfold rowW;rw[Wan,Wat,Wa5,Wbr];omega
  ·rw[if_neg hp,<- Wac];have:=g48 i;omega
 have aD:atI (O1.map encRow) (corP ts d:Int)=some (encRow<|O1.getD (corP ts d) []):=Zby (by rw[Wad,Zbi (by omega)];rfl);have zd:=zO<|corP ts d;have hin:∀e,d=.inl e->(e:Int)∈O1.getD (corP ts d) []:=λe h=>by rw[<- hO1];exact Znr d1 (d2 e h).1
 refine Zal<|Zgd<|Zav<|Zab<|Zd3 rfl rfl<|Zac rfl ⟨_,_,_,_,rfl,rfl,rfl,aD,?_⟩;refine Zab<|Zac rfl<|Zab<|Zaj<|Zac rfl<|Zak<|Zcd<|Zaf ⟨_,d,_,rfl,hin,by omega,⟨_,_,rfl,rfl⟩,Zac rfl ⟨_,_,_,corP ts d,rfl,rfl,rfl,?_,?_⟩⟩
 ·refine Zrg ?_
  rw[Wab];omega
 rw[show ((2*ts.length:Nat):Int)+1=((2*ts.length+1:Nat):Int) by omega];have e2:(O1.map encRow).set (corP ts d) (encRow<|rowW (O1.getD (corP ts d) []) d ((2*ts.length+1:Nat):Int))=(putO ts o c d).map encRow:=by
  unfold putO;rw[hO1];unfold put1;rw[Wdt]
 rw[e2];refine Za2<|Zb7<|Zab<|Zb7<|Zab<|Zac rfl<|Zab<|Zaj<|Zac rfl<|Zb7<|Zab<|Zb7<|Zab<|Zac rfl<|Zab<|Zac rfl<|Zaf ⟨Ze0,Zaf ⟨(show 1<=sizeLine from by decide),Zfw ?_<|Zaf ⟨Ze0,?_⟩⟩⟩
 ·rw[Wab,Wbt];exact Wb0 (small1000<|by omega)
 refine Zab<|Za0<|Zab<|Zev rfl<|Zaf<|Zez (Or.inl rfl)<|Zaf ⟨Ze0,?_⟩;have q':=q;unfold floorD encWeb putTs at q';rw[Waz]at q';exact q'
theorem eqL {α:Type}[DecidableEq α] (f:α -> D) (n:Nat) (h:∀x y,eqF n (f x) (f y)=decide (x=y)):∀a b:List α,((a.map f).length == (b.map f).length && ((a.map f).zip (b.map f)).all λp=>eqF n p.1 p.2)=decide (a=b)
 |[],[]=>rfl
 |[],y::b=>by rw[decide_eq_false (by simp)];rfl
 |x::a,[]=>by rw[decide_eq_false (by simp)];rfl
 |x::a,y::b=>by
  have ih:=eqL f n h a b;rw[Wbg,Wbg,Wat,Wat,Wc9,Wd6,h];have e:((a.map f).length+1 == (b.map f).length+1)=((a.map f).length == (b.map f).length):=by
   rw[Wdo,beq_iff_eq,beq_iff_eq];omega
  rw[e];by_cases c:x=y
  ·rw[decide_eq_true c,Wcu,ih]
   by_cases c2:a=b
   ·rw[decide_eq_true c2,decide_eq_true (by rw[c,c2])]
   ·rw[decide_eq_false c2,decide_eq_false (λz=>c2 (Wdh.inj z).2)]
  ·rw[decide_eq_false c,Wcx,Wc7,decide_eq_false (λz=>c (Wdh.inj z).1)]
theorem Zsz (a b:List Int):eqF 2 (lstI a) (lstI b)=decide (a=b):=eqL D.int 1 (λx y=>by show (x == y)=_;exact Wee x y) a b
theorem Zqk (A B:List (List Int)):eqF 3 (.lst<|A.map lstI) (.lst<|B.map lstI)=decide (A=B):=eqL lstI 2 Zsz A B
theorem Zu9 (a:List Int):Dp 2 (lstI a):=λd hd=>by
 obtain⟨x,_,rfl⟩:=Wa3.mp hd
 trivial
theorem Zna (A:List (List Int)):Dp 3 (.lst<|A.map lstI):=λd hd=>by
 obtain⟨x,_,rfl⟩:=Wa3.mp hd;exact Zu9 x
theorem Zlv {K:W.Frag}{Δ:Evt}{Pd:D->Evt->Prop}{i:Int}(p:Pd (.int (-i)) Δ):JR1 K (rU λi=>.int (-i)) (.int i) Δ Pd:=λg G H σ Q x k r c=>by
 cases r;exact⟨i,rfl,c _ _ G H Δ k (Same.refl _) (.int _) p⟩
def lessD (t:Nat):D->D:=λd=>.int<|intD d-2*(if (decide ((t:Int)<intD d / 2))=true then 1 else 0)
theorem Zs9 (t:Nat) (r:List Int):(((((r.map D.int).filter (keepD t)).map λd=>d).filter λ_=>true).map (lessD t))=((r.filter<|keepE t).map (outE t)).map D.int:=by
 rw[Wbl.mpr (by simp),Wdu,Wb4,Wbb,Wbb];apply Wb8;intro x hx;have hk:¬ x / 2=(t:Int):=of_decide_eq_true (Wai.mp hx).2;show D.int (x-2*(if (decide ((t:Int)<x / 2))=true then 1 else 0))=D.int (outE t x);unfold outE;by_cases h:(t:Int)<x / 2
 ·rw[decide_eq_true h,if_pos rfl,if_neg (by omega)];rfl
 ·rw[decide_eq_false h,if_neg Wag,if_pos (by omega)];simp
end
def fAfter:OSp:=λds Post=>∃n ts o,ds=[encOrd o]/\WebOk n ts/\OrdOk n ts o/\Post (.dct ((o.flatMap rowPairsF).map encPair))
def fFA:DSp:=λds Post=>∃n ts o c,ds=[encOrd o,.lst ((allF ts o).map rowD),corD c]/\WebOk n ts/\OrdOk n ts o/\CorOk n ts o c/\Post (.int<|faIx ts o c)
def fHang:DSp:=λds Post=>∃(N:Nat) (ts:List (Int × Int)) (p q:Int),ds=[encWeb (N:Int) ts,.int p,.int q]/\WebOk (N:Int) ts/\0<=p/\p<(N:Int)/\0<=q/\q<(N:Int)/\Post (.bl<|decide (mk N ts p=mk N ts q))
def fLCP:DSp:=λds Post=>∃n ts o c,ds=[encWeb n ts,corD c]/\WebOk n ts/\CorOk n ts o c/\Post (.int (corP ts c:Int))
def deedD (N:Nat) (ts:List (Int × Int)) (o:List (List Int)) (more less:Int):D:=.tup [floorD (N:Int) ts o,.int more,.int less]
def fLPut:BSp:=λps ds Post=>Pen ps/\∃(N:Nat) (ts:List (Int × Int)) (o:List (List Int)),ds=[encWeb (N:Int) ts,encOrd o]/\WebOk (N:Int) ts/\OrdOk (N:Int) ts o/\ts.length<24/\∀us v m l ps',Pen ps' -> Deed N ts o N us v m l->Post (deedD N us v m l) ps'
def fLOut:BSp:=λps ds Post=>Pen ps/\∃(N:Nat) (ts:List (Int × Int)) (o:List (List Int)),ds=[encWeb (N:Int) ts,encOrd o]/\WebOk (N:Int) ts/\OrdOk (N:Int) ts o/\0<ts.length/\∀us v m l ps',Pen ps' -> Deed N ts o N us v m l->Post (deedD N us v m l) ps'
def fKept:NSp:=λds Post=>∃n ts o,∃t:Nat,ds=[encOrd o,.int t]/\WebOk n ts/\OrdOk n ts o/\∀ms:List (List Int),ms.Perm ((allF ts o).map (outRow t))->Rising ms->Post (ms.map rowD)
theorem Zp3 {L p:Nat}(h:p<L):(Wap L).filter (λk=>decide (k=p))=[p]:=by
 induction L with
 |zero=>omega
 |succ L ih=>
  rw[List.range_succ,Wbo];by_cases e:p=L
  ·subst e
   rw[Wed.mpr λa ha=>by have:=Wav.mp ha;simp;omega];simp
  ·rw[ih (by omega)]
   simp[Ne.symm e]
theorem Zpo {R:List (List Int)}{x:Int}(nd:R.flatten.Nodup) {p:Nat}{r:List Int}(hp:R[p]?=some r) (hx:x∈r):((rngD 0 R.length).filter λd=>decide<|x∈R.getD (intP d).toNat []).map (λd=>d)=[.int (p:Int)]:=by
 have hl:p<R.length:=(Wah.mp hp).1;unfold rngD;rw[Wdu,Wb4];have e:(Wap R.length).filter ((λd=>decide<|x∈R.getD (intP d).toNat [])∘λk:Nat=>D.int (0+(k:Int)))=(Wap R.length).filter λk=>decide (k=p):=Wa9 λk hk=>by
  have hk:=Wav.mp hk;show decide (x∈R.getD (0+(k:Int)).toNat [])=_;rw[Wb1,Wae,decide_eq_decide];constructor
  ·intro h
   have g:R[k]?=some (R.getD k []):=Zbi hk;rw[<- Zqp nd g h,Zqp nd hp hx]
  ·rintro rfl
   rw[Wac,hp];exact hx
 rw[e,Zp3 hl];show [D.int (0+(p:Int))]=_;rw[Wb1]
def rowI:D->List Int
 |.lst ds=>ds.map intD
 |.tup ds=>ds.map intD
 |_=>[]
theorem Zhi (r:List Int):rowI (lstI r)=r:=Zg6 r
theorem Zm7 (r:List Int):rowI (rowD r)=r:=Zg6 r
theorem Zhx (g:List Int->D) (hg:∀r,rowI (g r)=r) (A:List (List Int)) (c:List Int->Bool):((A.map g).filter λd=>c<|rowI d).map (λd=>d)=(A.filter c).map g:=by
 rw[Wdu,Wb4];congr 1;exact Wa9 λr _=>by show c (rowI<|g r)=_;rw[hg]
theorem Zqe {n:Int}{ts:List (Int × Int)}{o:List (List Int)}(hW:WebOk n ts) (hO:OrdOk n ts o) {t:Nat}(ht:t<ts.length):((allF ts o).filter λr=>decide (2*(t:Int)∈r) && decide (2*(t:Int)+1∈r)).isEmpty=false↔((2*t+1:Nat):Int)∈orb (onI ts o) ((2*t:Nat):Int):=by
 have F:=Zcm hW hO;rw[List.isEmpty_eq_false_iff_exists_mem];constructor
 ·rintro⟨r,h⟩
  obtain⟨h1,h2⟩:=Wai.mp h;rw[Wbj,decide_eq_true_iff,decide_eq_true_iff]at h2;rcases Wbd.mp h1 with z|z
  ·rw[(Wda.mp z).2]at h2
   cases h2.1
  obtain⟨e,he,_,er,_⟩:=Zco F z;rw[er]at h2;rw[show ((2*t+1:Nat):Int)=2*(t:Int)+1 by omega,show ((2*t:Nat):Int)=2*(t:Int) by omega];exact Za1 F (by omega) (by omega) (Zbl F (by omega) (by omega) h2.1) h2.2
 ·intro h
  obtain⟨r,h1,h2,h3⟩:=Zg8 hW hO (x:=((2*t:Nat):Int)) (by omega) (by omega);obtain⟨e,he,_,er,_⟩:=Zco F h3;refine⟨r,Wai.mpr ⟨Waw _ h3,?_⟩⟩;rw[Wbj,decide_eq_true_iff,decide_eq_true_iff];rw[show ((2*t+1:Nat):Int)=2*(t:Int)+1 by omega,show ((2*t:Nat):Int)=2*(t:Int) by omega]at h;rw[show ((2*t:Nat):Int)=2*(t:Int) by omega]at h2;refine⟨h2,?_⟩;rw[er]at h2 ⊢;exact Za1 F (by omega) (by omega) h2 h
def corPD (ts:List (Int × Int)):D->D
 |.int e=>.int (((placeAt ts e.toNat).toNat:Nat):Int)
 |.tup [_,.int p]=>.int p
 |d=>d
theorem Zj7 (ts:List (Int × Int)) (c:Nat ⊕ Nat):corPD ts (corD c)=.int (corP ts c:Int):=by cases c <;> rfl
section
variable {P:Program}{w:World}{K:W.Frag}{mg:Str->Option Value}{base:Heap}{f:Addr}{fd:FuncData}
theorem Zs8 (mb:Mb mg) (F:Fun K "_law_after" "_law_after" Ybs f fd):FnOk P w K mg base CX0 1 f fd ["_law_order_here"] (spO K fAfter):=by
 refine F.ok Ya6 (Zvv λds Post h=>by obtain⟨_,_,_,rfl,_⟩:=h;rfl) λcdv A outer s H vs Q E hr h=>?_;have hu:=Zbz hr;refine⟨_,(Zae (Zat (i:=1) Ya6.nd rfl (Or.inl rfl) Zjo)<|Zae (Zdt PassesOwn.never rfl (seqK K<|pv 0) (Zam (i:=2) Ya6.nd rfl<|Or.inl rfl)<|Zah<|Zdt PassesOwn.never rfl (Zbk rfl (mb "range"<|by decide)<|Zaa (Zai (lenK K) rfl (mb "len"<|by decide) Za5<|Zaa (pv 2) Zad) Zad) (Zam (i:=3) Ya6.nd rfl<|Or.inl rfl)<|Zah<|Zc1 (Zaq (ixK K hu) (pv 2) (Zap Zcv (Zap (addK K) (pv 3) Zag)<|Zai (lenK K) rfl (mb "len"<|by decide) Za5<|Zaa (pv 2) Zad) λ_ _=>rfl)<|Zfn (pv 1) (Zaq (ixK K hu) (pv 2) (pv 3) λ_ _=>rfl)<|setU hu)<|Zah<|Zau<|pv 1),Zy6 (λds Post hf=>?_) h⟩;obtain⟨n,ts,o,rfl,hW,hO,q⟩:=hf;refine⟨by simp,?_⟩;dsimp only[startD,Wbk,Wbm,Wa6,Wal];refine Zal<|Zcz<|Zmp ?_;refine Zca (λΔ=>∃x2 x3:L2.Slot,Δ = [.val (encOrd o),.own (.dct ((o.flatMap rowPairsF).map encPair)),x2,x3]) (Zi0 hW hO []) ?_;rintro Δ1 ⟨x2,x3,rfl⟩;exact Zfr<|Zxx rfl q
theorem Zzb (mb:Mb mg) (C42:Callee P w K mg base 1 "_law_after" ["_law_order_here"] (spO K fAfter)) (F:Fun K "_law_face_at" "_law_face_at" Yay f fd):FnOk P w K mg base CX0 2 f fd ["_law_order_here","_law_faces_here","_law_corner_here"] (spD K fFA):=by
 refine F.ok Yb5 (Zbc λds Post h=>by obtain⟨_,_,_,_,rfl,_⟩:=h;rfl) λcdv A outer s H vs Q E hr h=>?_;have hu:=Zbz hr;refine⟨_,(Zae (Zcf (truK K (Zai (isiUK K) rfl (mb "isinstance"<|by decide) Zbd<|Zaa (pv 2)<|Zaa (Zdm rfl (mb "tuple"<|by decide) Zb3 (show RelV (.ty "tuple") _ from rfl)) Zad) λ_=>rfl) (Zah<|Zau<|Zap Ze1 (Zve Zr1 Zag)<|Zaq (ixK K hu) (pv 2) Zag λ_ _=>rfl) Za4)<|Zae (Zat (i:=3) Yb5.nd rfl (Or.inr rfl)<|Zaq (ixK K hu) (Zax C42 (hr.mono<|by decide)<|Zaa (pv 0) Zad) (pv 2) λ_ _=>rfl)<|Zah<|Zau<|Zaq (ixK K hu) (Zcr ["_law_k"] (show CompSc (defScope Yay) ["_law_order_here","_law_faces_here","_law_corner_here","_law_after_here"] _ ["_law_faces_here","_law_after_here"] [1,3] from ⟨rfl,by decide +kernel,by decide +kernel,by decide +kernel,rfl,by decide +kernel⟩) rfl (Zbk rfl (mb "range"<|by decide)<|Zaa (Zai (lenK K) rfl (mb "len"<|by decide) Za5<|Zaa (pv 1) Zad) Zad) (λ_ _ _ _ _=>(Zam (i:=0) (show List.Nodup (["_law_k","_law_faces_here","_law_after_here"]:List Str) from by decide) rfl<|Or.inl rfl)) (λ_ _ _ _ _=>(Zc3<|Zao (inK K hu) (pv 2) (Zaq (ixK K hu) (pv 1) (pv 0) λ_ _=>rfl) rfl)) λ_ _ _ _ _=>(pv 0)) Zag λ_ _=>rfl),Zcx (λds Post hf=>?_) h⟩;obtain⟨n,ts,o,c,rfl,hW,hO,hc,q⟩:=hf;refine⟨by simp,?_⟩;dsimp only[startD,Wbk,Wbm,Wa6,Wal];cases c with
 |inr p=>
  refine Zal<|Zcc<|Zcl<|Za0<|Zab<|Zac rfl<|Zab<|Zfu<|Zaf<|Zcw (T:="tuple") (b:=true) rfl (λ_=>by rfl) ⟨_,rfl,iteT ?_⟩;exact Za2<|Zaj<|Zt1<|Zak<|Zlv<|Zaj<|Zac rfl<|Zak<|Zas (d:=.int (p:Int)) rfl<|Zfz q
 |inl e=>
  have he:e<2*ts.length:=hc;have al:=Zfl hW hO;obtain⟨g,hg,_,eg⟩:=Zc5 hW hO he;obtain⟨r,r1,r2,_⟩:=Zg8 hW hO (x:=folOf ts o e) (by omega) (by omega);refine Zal<|Zcc<|Zcl<|Za0<|Zab<|Zac rfl<|Zab<|Zfu<|Zaf<|Zcw (T:="int") (b:=false) rfl (λ_=>by rfl) ⟨_,rfl,iteF<|Zbb ?_⟩;refine Zal<|Zaw<|Ztr rfl<|Zte<|Zab<|Zac rfl<|Zaf ⟨n,ts,o,rfl,hW,hO,_,_,rfl,rfl,Znq hW hO he,?_⟩;refine Za2<|Zaj<|Zbw (by decide)<|Zbq<|Zab<|Za0<|Zab<|Zac rfl<|Zaf<|Za7 (Or.inl rfl)<|Zaf ⟨_,rfl,by omega,?_,?_⟩
  ·rw[Wab];omega
  rw[Wab,Wae];refine⟨by rw[Zbu];exact small1000 (by omega),λd=>decide<|folOf ts o e∈(allF ts o).getD (intP d).toNat [],λd=>d,λi d hd=>?_,?_⟩
  ·obtain⟨hi,rfl⟩:=Zce hd
   rw[Wb1];refine Zar<|Zaj<|Zac rfl<|Zaj<|Zac rfl<|Zac rfl<|Zc4 (d:=rowD ((allF ts o).getD i [])) (Zby (by rw[Wad,Zbi (by omega)];rfl))<|Zpi ⟨_,rfl,?_,?_⟩
   ·show decide _=decide (_∈(allF ts o).getD ((i:Int)).toNat []);rw[Wae]
   ·exact ite2 (λz=>Zac rfl ⟨rfl,_,rfl⟩) λz=>⟨_,rfl⟩
  rw[Zpo (Zl1 hW hO) r1 r2];exact Zak<|Zc4 (d:=.int (faceIx (allF ts o) (folOf ts o e):Nat)) rfl q
theorem Zvg (mb:Mb mg) (C55:Callee P w K mg base 1 "_law_parts" ["_law_web_here"] (spN K fParts)) (F:Fun K "_law_hang" "_law_hang" Yap f fd):FnOk P w K mg base CX0 2 f fd ["_law_web_here","_law_one","_law_other"] (spD K fHang):=by
 refine F.ok Ycg (Zbc λds Post h=>by obtain⟨_,_,_,_,rfl,_⟩:=h;rfl) λcdv A outer s H vs Q E hr h=>?_;have hu:=Zbz hr;have hv:=Zka hr;refine⟨_,(Zah<|Zau<|Zqz (eqDK K hv) (Zcr ["_law_part"] (show CompSc (defScope Yap) ["_law_web_here","_law_one","_law_other"] _ ["_law_one"] [1] from ⟨rfl,by decide +kernel,by decide +kernel,by decide +kernel,rfl,by decide +kernel⟩) rfl (seqK K<|Zax C55 (hr.mono<|by decide)<|Zaa (pv 0) Zad) (λ_ _ _ _ _=>(Zam (i:=0) (show List.Nodup (["_law_part","_law_one"]:List Str) from by decide) rfl<|Or.inl rfl)) (λ_ _ _ _ _=>(Zc3<|Zao (inK K hu) (pv 1) (pv 0) rfl)) λ_ _ _ _ _=>(pv 0)) (Zcr ["_law_part"] (show CompSc (defScope Yap) ["_law_web_here","_law_one","_law_other"] _ ["_law_other"] [2] from ⟨rfl,by decide +kernel,by decide +kernel,by decide +kernel,rfl,by decide +kernel⟩) rfl (seqK K<|Zax C55 (hr.mono<|by decide)<|Zaa (pv 0) Zad) (λ_ _ _ _ _=>(Zam (i:=0) (show List.Nodup (["_law_part","_law_other"]:List Str) from by decide) rfl<|Or.inl rfl)) (λ_ _ _ _ _=>(Zc3<|Zao (inK K hu) (pv 1) (pv 0) rfl)) λ_ _ _ _ _=>(pv 0))<|nomark _),Zcx (λds Post hf=>?_) h⟩;obtain⟨N,ts,p,p',rfl,hW,h1,h2,h3,h4,q⟩:=hf;refine⟨by simp,?_⟩;dsimp only[startD,Wbk,Wbm,Wa6,Wal];have hn:=hW.hi;have ml:=Zbh N ts;refine Za2<|Zaj<|Zbw (by decide)<|Ze3<|Zbr<|Zc0<|Zab<|Zac rfl<|Zaf ⟨_,ts,rfl,hW,λms hm=>⟨_,rfl,_,Or.inl rfl,?_⟩⟩;rw[Wae]at hm ⊢;have pl:(partsL N ts ms).length<=25:=by have:=hm.len;unfold partsL;rw[Wab];omega
 refine⟨by rw[Wab];exact small1000 (by omega),λd=>decide<|p∈rowI d,λd=>d,λi d hd=>?_,?_⟩
 ·rw[Wad]at hd
  cases z:(partsL N ts ms)[i]? with
  |none=>rw[z]at hd;cases hd
  |some r=>
   rw[z]at hd;have hd:lstI r=d:=by simpa using hd
   subst hd;refine Zar<|Zaj<|Zac rfl<|Zac rfl<|Zt6 (ns:=r) ⟨_,rfl,?_,?_⟩
   ·show decide _=decide _;rw[Zhi]
   ·exact ite2 (λz=>Zac rfl ⟨rfl,_,rfl⟩) λz=>⟨_,rfl⟩
 rw[Zhx lstI Zhi _ λr=>decide<|p∈r,Zri h1 h2 hm];refine Zbw (by decide)<|Ze3<|Zbr<|Zc0<|Zab<|Zac rfl<|Zaf ⟨_,ts,rfl,hW,λms' hm'=>⟨_,rfl,_,Or.inl rfl,?_⟩⟩;rw[Wae]at hm' ⊢;cases hm.uniq hm';refine⟨by rw[Wab];exact small1000 (by omega),λd=>decide<|p'∈rowI d,λd=>d,λi d hd=>?_,?_⟩
 ·rw[Wad]at hd
  cases z:(partsL N ts ms)[i]? with
  |none=>rw[z]at hd;cases hd
  |some r=>
   rw[z]at hd;have hd:lstI r=d:=by simpa using hd
   subst hd;refine Zar<|Zaj<|Zac rfl<|Zac rfl<|Zt6 (ns:=r) ⟨_,rfl,?_,?_⟩
   ·show decide _=decide _;rw[Zhi]
   ·exact ite2 (λz=>Zac rfl ⟨rfl,_,rfl⟩) λz=>⟨_,rfl⟩
 rw[Zhx lstI Zhi _ λr=>decide<|p'∈r,Zri h3 h4 hm];refine Zyd (n:=3) (by omega) (Zna _) (Zna _) rfl rfl ?_;rw[Zqk,decide_eq_decide.mpr (Zrd h1 h2)];exact q
theorem Zyj (mb:Mb mg) (F:Fun K "_law_corner_place" "_law_corner_place" Ybt f fd):FnOk P w K mg base CX0 1 f fd ["_law_web_here","_law_corner_here"] (spD K fLCP):=by
 refine F.ok Ych (Zbc λds Post h=>by obtain⟨_,_,_,_,rfl,_⟩:=h;rfl) λcdv A outer s H vs Q E hr h=>?_;have hu:=Zbz hr;refine⟨_,(Zae (Zcf (truK K (Zai (isiUK K) rfl (mb "isinstance"<|by decide) Zbd<|Zaa (pv 1)<|Zaa (Zdm rfl (mb "tuple"<|by decide) Zb3 (show RelV (.ty "tuple") _ from rfl)) Zad) λ_=>rfl) (Zah<|Zau<|Zaq (ixK K hu) (pv 1) Zag λ_ _=>rfl) Za4)<|Zah<|Zau<|Zaq (ixK K hu) (Zaq (ixK K hu) (Zaq (ixK K hu) (pv 0) Zag λ_ _=>rfl) (Zap Zd5 (pv 1) Zag) λ_ _=>rfl) (Zap Zcv (pv 1) Zag) λ_ _=>rfl),Zcx (λds Post hf=>?_) h⟩;obtain⟨n,ts,o,c,rfl,hW,hc,q⟩:=hf;refine⟨by simp,?_⟩;dsimp only[startD,Wbk,Wbm,Wa6,Wal];cases c with
 |inr p=>
  refine Zal<|Zcc<|Zcl<|Za0<|Zab<|Zac rfl<|Zab<|Zfu<|Zaf<|Zcw (T:="tuple") (b:=true) rfl (λ_=>by rfl) ⟨_,rfl,iteT ?_⟩;exact Za2<|Zaj<|Zac rfl<|Zak<|Zas (d:=.int (p:Int)) rfl q
 |inl e=>
  have he:e<2*ts.length:=hc;obtain⟨t,h1,h2,h3⟩:=Znh he;rw[Wb1]at h2 h3;obtain⟨p0,p1⟩:=Zcp hW he;refine Zal<|Zcc<|Zcl<|Za0<|Zab<|Zac rfl<|Zab<|Zfu<|Zaf<|Zcw (T:="int") (b:=false) rfl (λ_=>by rfl) ⟨_,rfl,iteF<|Zbb ?_⟩;refine Za2<|Zaj<|Zaj<|Zaj<|Zac rfl<|Zak<|Zas (Zdx n ts) ?_;refine Zaj<|Zac rfl<|Zak<|jr_I ⟨by omega,by omega⟩<|Zas h2 ?_;refine Zaj<|Zac rfl<|Zak<|jr_I (by show (0:Int)<2;omega)<|Zas h3 ?_;have q':Post (.int (((placeAt ts e).toNat:Nat):Int)):=q;rw[show (((placeAt ts e).toNat:Nat):Int)=placeAt ts e by omega]at q';exact q'
theorem Zwr (mb:Mb mg) (C44:Callee P w K mg base 2 "_law_corner" ["_law_pen_here","_law_web_here","_law_order_here"] (spB K fCorner)) (C48:Callee P w K mg base 2 "_law_faces" ["_law_order_here"] (spN K fLFaces)) (C77:Callee P w K mg base 4 "put_in" ["web","order","one","other"] (spD K fPut)) (C47:Callee P w K mg base 2 "_law_face_at" ["_law_order_here","_law_faces_here","_law_corner_here"] (spD K fFA))
  (C45:Callee P w K mg base 1 "_law_corner_place" ["_law_web_here","_law_corner_here"] (spD K fLCP)) (C49:Callee P w K mg base 2 "_law_hang" ["_law_web_here","_law_one","_law_other"] (spD K fHang)) (F:Fun K "_law_put_in" "_law_put_in" Yaz f fd):FnOk P w K mg base CX0 5 f fd ["_law_pen_here","_law_web_here","_law_order_here"] (spB K fLPut):=by
 refine F.ok Yaq (Zgl λps ds Post h=>by obtain⟨_,_,_,_,rfl,_⟩:=h;rfl) λcdv A outer s H vs Q E hr h=>?_;have hu:=Zbz hr;refine⟨_,(Zae (Zmz (i:=3) (j:=4) rfl Yaq.nd rfl rfl (by decide) rfl rfl (Zaa (Zax C44 (hr.mono<|by decide)<|Zaa (pv 0)<|Zaa (pv 1)<|Zaa (pv 2) Zad)<|Zaa (Zax C44 (hr.mono<|by decide)<|Zaa (pv 0)<|Zaa (pv 1)<|Zaa (pv 2) Zad) Zad) rfl)<|Zae (Zat (i:=5) Yaq.nd rfl (Or.inl rfl)<|Zax C48 (hr.mono<|by decide)<|Zaa (pv 2) Zad)<|Zae (Zat (i:=6) Yaq.nd rfl (Or.inl rfl)<|Zax C77 (hr.mono<|by decide)<|Zaa (pv 1)<|Zaa (pv 2)<|Zaa (pv 3)<|Zaa (pv 4) Zad)<|Zae (Zcf (Zao Zci (Zax C47 (hr.mono<|by decide)<|Zaa (pv 2)<|Zaa (pv 5)<|Zaa (pv 3) Zad) (Zax C47 (hr.mono<|by decide)<|Zaa (pv 2)<|Zaa (pv 5)<|Zaa (pv 4) Zad)<|nomark _) (Zah<|Zau<|Zb8<|Zaa (pv 6)<|Zaa Zag<|Zaa Zag Zad) Za4)<|Zae (Zdg (i:=7) ["_law_corner_here"] (show CompSc (defScope Yaz) ["_law_pen_here","_law_web_here","_law_order_here","_law_one","_law_other","_law_faces_here","_law_found","_law_places"] _ ["_law_web_here"] [1] from ⟨rfl,by decide +kernel,by decide +kernel,by decide +kernel,rfl,by decide +kernel⟩) rfl Yaq.nd rfl (Or.inl rfl) (seqK K<|Zg3<|Zaa (pv 3)<|Zaa (pv 4) Zad) (λ_ _ _ _ _=>(Zam (i:=0) (show List.Nodup (["_law_corner_here","_law_web_here"]:List Str) from by decide) rfl<|Or.inl rfl)) (λ_ _ _ _ _=>Zd2) λ_ _ _ _ _=>(Zax C45 (hr.mono<|by decide)<|Zaa (pv 1)<|Zaa (pv 0) Zad))<|Zah<|Zau<|Zb8<|Zaa (pv 6)<|Zaa (Zve Zr1 Zag)<|Zaa (Zbj Zh3 rfl (mb "int"<|by decide) Zi7<|Zaa (Zax C49 (hr.mono<|by decide)<|Zaa (pv 1)<|Zaa (Zaq (ixK K hu) (pv 7) Zag λ_ _=>rfl)<|Zaa (Zaq (ixK K hu) (pv 7) Zag λ_ _=>rfl) Zad) Zad) Zad),Zn8 (λps ds Post hf=>?_) h⟩;obtain⟨hp,N,ts,o,rfl,hW,hO,hL,q⟩:=hf;refine⟨by simp,?_⟩;dsimp only[cxOf,startD,Wbk,Wbm,Wa6,Wal];have ol:=hO.len;refine Zal<|Zhl<|Zab<|Zdu rfl rfl<|Zab<|Zac rfl<|Zab<|Zac rfl<|Zaf ⟨_,_,rfl,rfl,hp,(N:Int),ts,o,rfl,hW,hO,λc pa hpa hc=>?_⟩;refine Zab<|Zdu rfl rfl<|Zab<|Zac rfl<|Zab<|Zac rfl<|Zaf ⟨_,_,rfl,rfl,hpa,(N:Int),ts,o,rfl,hW,hO,λd pb hpb hd=>Zaf ⟨_,_,rfl,?_⟩⟩;have pc:=(Zbf hW hO hc).1;have pd':=(Zbf hW hO hd).1;refine Zal<|Zaw<|Zbr<|Zc0<|Zab<|Zac rfl<|Zaf ⟨(N:Int),ts,o,rfl,hW,hO,_,rfl,?_⟩;refine Zal<|Zaw<|Zav<|Zgz (Zay (Za6 rfl)<|Zay (Za6 rfl)<|Zay (Za6 rfl)<|Zay (Za6 rfl) Zd7) ⟨(N:Int),ts,o,c,d,rfl,hW,hO,hc,hd,hL,?_⟩;refine Zal<|Zcc<|Zar<|Zaj<|Zav<|Zgz (Zay (Za6 rfl)<|Zay (Za6 rfl)<|Zay (Za6 rfl) Zd7) ⟨(N:Int),ts,o,c,rfl,hW,hO,hc,?_⟩;refine Zav<|Zgz (Zay (Za6 rfl)<|Zay (Za6 rfl)<|Zay (Za6 rfl) Zd7) ⟨(N:Int),ts,o,d,rfl,hW,hO,hd,Zer ⟨_,rfl,?_⟩⟩;have D0:=Zt0 hW hO hc hd hL (b1:=decide (faIx ts o c=faIx ts o d)) (b2:=decide (mk N ts (corP ts c:Int)=mk N ts (corP ts d:Int))) (decide_eq_true_iff.trans<|Zvo hW hO hc hd) decide_eq_true_iff;refine ite2 (λz=>?_) λz=>Zbb ?_
 ·rw[if_pos z,if_pos z]at D0
  exact Za2<|Zb7<|Zab<|Zac rfl<|Zab<|Zak<|Zab<|Zak<|Zaf ⟨(by show 3<=sizeLine;decide),pb,rfl,q _ _ _ _ _ hpb D0⟩
 rw[if_neg z,if_neg z]at D0;refine Zal<|Zaw<|Zbw (by decide)<|Ze3<|Zd1 (Zym (Zay (Za6 rfl)<|Zay (Za6 rfl) Zd7) Ze0) ⟨_,Or.inl rfl,(by show 2<sizeLine;decide),λ_=>true,corPD ts,λi x hx=>?_,?_⟩
 ·obtain⟨y,hy,rfl⟩:∃y,CorOk (N:Int) ts o y/\corD y=x:=by
   rcases i with _|_|i
   ·cases hx;exact⟨c,hc,rfl⟩
   ·cases hx;exact⟨d,hd,rfl⟩
   ·cases hx
  exact Zd4 ⟨rfl,Zav<|Zab<|Zac rfl<|Zab<|Zac rfl<|Zaf ⟨(N:Int),ts,o,y,rfl,hW,hy,(Zj7 ts y).symm,_,rfl⟩⟩
 have e2:([corD c,corD d].filter λ_=>true).map (corPD ts)=[.int (corP ts c:Int),.int (corP ts d:Int)]:=by
  show [corPD ts (corD c),corPD ts (corD d)]=_;rw[Zj7,Zj7]
 rw[e2];refine Za2<|Zb7<|Zab<|Zac rfl<|Zab<|Zt1<|Zak<|Zlv<|Zab<|Za0<|Zab<|Zav<|Zgz (Zay (Za6 rfl)<|Zay (Zuk rfl rfl)<|Zay (Zuk rfl rfl) Zd7) ⟨N,ts,(corP ts c:Int),(corP ts d:Int),rfl,hW,by omega,by omega,by omega,by omega,Zaf<|Zl2<|Zaf ⟨(by show 3<=sizeLine;decide),pb,rfl,?_⟩⟩;exact q _ _ _ _ _ hpb D0
theorem Zw4 (mb:Mb mg) (C46:Callee P w K mg base 1 "_law_draw" ["_law_pen_here","_law_many"] (spB K fDraw)) (C80:Callee P w K mg base 3 "taken_out" ["web","order","tie"] (spD K fOut)) (C48:Callee P w K mg base 2 "_law_faces" ["_law_order_here"] (spN K fLFaces)) (C49:Callee P w K mg base 2 "_law_hang" ["_law_web_here","_law_one","_law_other"] (spD K fHang))
  (F:Fun K "_law_taken_out" "_law_taken_out" Ya0 f fd):FnOk P w K mg base CX0 4 f fd ["_law_pen_here","_law_web_here","_law_order_here"] (spB K fLOut):=by
 refine F.ok Ybw (Zgl λps ds Post h=>by obtain⟨_,_,_,_,rfl,_⟩:=h;rfl) λcdv A outer s H vs Q E hr h=>?_;have hu:=Zbz hr;refine⟨_,(Zae (Zat (i:=3) Ybw.nd rfl (Or.inr rfl)<|Zax C46 (hr.mono<|by decide)<|Zaa (pv 0)<|Zaa (Zai (lenK K) rfl (mb "len"<|by decide) Za5<|Zaa (Zaq (ixK K hu) (pv 1) Zag λ_ _=>rfl) Zad) Zad)<|Zae (Zat (i:=4) Ybw.nd rfl (Or.inl rfl)<|Zax C80 (hr.mono<|by decide)<|Zaa (pv 1)<|Zaa (pv 2)<|Zaa (pv 3) Zad)<|Zae (Zcf (Zao (eqL0K K hu) (Zcr ["_law_face"] (show CompSc (defScope Ya0) ["_law_pen_here","_law_web_here","_law_order_here","_law_tie","_law_found"] _ ["_law_tie"] [3] from ⟨rfl,by decide +kernel,by decide +kernel,by decide +kernel,rfl,by decide +kernel⟩) rfl (seqK K<|Zax C48 (hr.mono<|by decide)<|Zaa (pv 2) Zad) (λ_ _ _ _ _=>(Zam (i:=0) (show List.Nodup (["_law_face","_law_tie"]:List Str) from by decide) rfl<|Or.inl rfl)) (λ_ _ _ _ _=>(Zc3<|PW.pt<|pw_and (Zao (inK K hu) (Zap Zcn Zag<|pv 1) (pv 0) rfl)<|pw_and1<|Zao (inK K hu) (Zap (addK K) (Zap Zcn Zag<|pv 1) Zag) (pv 0) rfl)) λ_ _ _ _ _=>(pv 0)) (Zg3 Zad)<|nomark _) (Zah<|Zau<|Zb8<|Zaa (pv 4)<|Zaa (Zve Zr1 Zag)<|Zaa Zag Zad) Za4)<|Zah<|Zau<|Zb8<|Zaa (pv 4)<|Zaa Zag<|Zaa (Zap Ze1 Zag<|Zbj Zh3 rfl (mb "int"<|by decide) Zi7<|Zaa (Zax C49 (hr.mono<|by decide)<|Zaa (Zaq (ixK K hu) (pv 4) Zag λ_ _=>rfl)<|Zaa (Zaq (ixK K hu) (Zaq (ixK K hu) (Zaq (ixK K hu) (pv 1) Zag λ_ _=>rfl) (pv 3) λ_ _=>rfl) Zag λ_ _=>rfl)<|Zaa (Zaq (ixK K hu) (Zaq (ixK K hu) (Zaq (ixK K hu) (pv 1) Zag λ_ _=>rfl) (pv 3) λ_ _=>rfl) Zag λ_ _=>rfl) Zad) Zad) Zad),Zn8 (λps ds Post hf=>?_) h⟩;obtain⟨hp,N,ts,o,rfl,hW,hO,hL,q⟩:=hf;refine⟨by simp,?_⟩;dsimp only[cxOf,startD,Wbk,Wbm,Wa6,Wal];have hw:=hW.len;have al:=Zfl hW hO;refine Zal<|Zaw<|Zdu rfl rfl<|Zab<|Zd1 (Zif<|Zd0 rfl<|Zdx (N:Int) ts) ?_;rw[Wab];refine Zaf ⟨_,_,rfl,rfl,hp,(ts.length:Int),rfl,by omega,by omega,λt0 pa hpa t00 t01=>?_⟩;obtain⟨t,rfl⟩:∃t:Nat,t0=(t:Int):=⟨t0.toNat,(Weo t00).symm⟩;have ht:t<ts.length:=by omega
 obtain⟨a,b,T⟩:=Zmu hW ht;have W':=Zfb hW t;refine Zal<|Zaw<|Zav<|Zgz (Zay (Za6 rfl)<|Zay (Za6 rfl)<|Zay (Za6 rfl) Zd7) ⟨(N:Int),ts,o,t,rfl,hW,hO,ht,?_⟩;refine Zal<|Zcc<|Zar<|Zaj<|Zbw (by decide)<|Ze3<|Zbr<|Zc0<|Zab<|Zac rfl<|Zaf ⟨(N:Int),ts,o,rfl,hW,hO,_,rfl,_,Or.inl rfl,by rw[Wab];exact small1000 (by omega),λd=>decide (2*(t:Int)∈rowI d) && decide (2*(t:Int)+1∈rowI d),λd=>d,λi d hd=>?_,?_⟩
 ·rw[Wad]at hd
  cases z:(allF ts o)[i]? with
  |none=>rw[z]at hd;cases hd
  |some r=>
   rw[z]at hd;have hd:rowD r=d:=by simpa using hd
   subst hd;show JT K _ _ λb Δ4=>b=(decide (2*(t:Int)∈rowI (rowD r)) && decide (2*(t:Int)+1∈rowI (rowD r)))/\_;rw[Zm7];refine Zew<|Zar<|Zaj<|Zd1 (Ze4 Zc2 (Za6 rfl)<|pr_I<|Or.inl ⟨by decide,by decide⟩)<|Zac rfl<|Zpi (ns:=r) ⟨_,rfl,?_⟩;by_cases y:2*(t:Int)∈r
   ·rw[decide_eq_true y,Wcu]
    refine iteT<|Zar<|Zaj<|Zaj<|Zd1 (Ze4 Zc2 (Za6 rfl)<|pr_I<|Or.inl ⟨by decide,by decide⟩)<|Zak<|Zcd<|Zac rfl<|Zpi (ns:=r) ⟨_,rfl,rfl,?_⟩;exact ite2 (λz=>Zac rfl ⟨rfl,_,rfl⟩) λz=>⟨_,rfl⟩
   ·rw[decide_eq_false y,Wcx]
    exact iteF ⟨rfl,iteF ⟨_,rfl⟩⟩
 rw[Zhx rowD Zm7 _ λr=>decide (2*(t:Int)∈r) && decide (2*(t:Int)+1∈r)];refine Zut<|Zaf ⟨by decide,Zwv ⟨_,rfl,?_⟩⟩;rw[List.isEmpty_map];have bf:=Zqe hW hO ht;generalize ((allF ts o).filter λr=>decide (2*(t:Int)∈r) && decide (2*(t:Int)+1∈r)).isEmpty=bb at bf ⊢;have ea:ts[t].1=a/\ts[t].2=b:=by have:=T.at_;rw[Waa ht]at this;have:=Wba.inj this;rw[this];exact⟨rfl,rfl⟩
 have D0:=Zsl hW hO ht (b1:=!bb) (b2:=decide (mk N (ts.eraseIdx t) ts[t].1=mk N (ts.eraseIdx t) ts[t].2)) (by rw[Bool.not_eq_true'];exact bf) decide_eq_true_iff;rw[ea.1,ea.2]at D0;cases bb with
 |true=>
  rw[if_neg (by decide),if_neg (by decide)]at D0;exact iteT<|Za2<|Zb7<|Zab<|Zac rfl<|Zab<|Zt1<|Zak<|Zlv<|Zab<|Zak<|Zaf ⟨(by show 3<=sizeLine;decide),pa,rfl,q _ _ _ _ _ hpa D0⟩
 |false=>
  rw[if_pos (by decide),if_pos (by decide)]at D0;refine iteF<|Zbb<|Za2<|Zb7<|Zab<|Zac rfl<|Zab<|Zak<|Zab<|Zaj<|Zak<|Za0<|Zab<|Zav<|Zgz (Zay (Zd0 (d:=encWeb (N:Int)<|ts.eraseIdx t) rfl rfl)<|Zay (Ze8 (Ze8 (Zd0 rfl<|Zdx (N:Int) ts) (Za6 rfl) T.atD) Zc2 rfl)<|Zay (Ze8 (Ze8 (Zd0 rfl<|Zdx (N:Int) ts) (Za6 rfl) T.atD) Zc2 rfl) Zd7) ⟨N,ts.eraseIdx t,a,b,rfl,W',T.ra.1,T.ra.2,T.rb.1,T.rb.2,Zaf<|Zl2<|Zfz<|Zaf ⟨(by show 3<=sizeLine;decide),pa,rfl,?_⟩⟩;have e3:(0:Int)-(if decide (mk N (ts.eraseIdx t) a=mk N (ts.eraseIdx t) b) then 1 else 0)=if decide (mk N (ts.eraseIdx t) a=mk N (ts.eraseIdx t) b)=true then -1 else 0:=by split <;> rfl
  rw[e3];exact q _ _ _ _ _ hpa D0
theorem Zu0 (mb:Mb mg) (C48:Callee P w K mg base 2 "_law_faces" ["_law_order_here"] (spN K fLFaces)) (C43:Callee P w K mg base 1 "_law_begun" ["_law_row"] (spD K fLeastE)) (F:Fun K "_law_kept_faces" "_law_kept_faces" Ya1 f fd):FnOk P w K mg base CX0 3 f fd ["_law_order_here","_law_tie"] (spN K fKept):=by
 refine F.ok Ya7 (Zgq λds Post h=>by obtain⟨_,_,_,_,rfl,_⟩:=h;rfl) λcdv A outer s H vs Q E hr h=>?_;have hu:=Zbz hr;have hv:=Zka hr;refine⟨_,(Zae (Zat (i:=2) Ya7.nd rfl (Or.inl rfl)<|Zg3 Zad)<|Zae (Zdt PassesOwn.never rfl (seqK K<|Zax C48 (hr.mono<|by decide)<|Zaa (pv 0) Zad) (Zam (i:=3) Ya7.nd rfl<|Or.inl rfl)<|Zae (Zdg (i:=4) ["_law_end"] (show CompSc (defScope Ya1) ["_law_order_here","_law_tie","_law_found","_law_face","_law_left"] _ ["_law_tie"] [1] from ⟨rfl,by decide +kernel,by decide +kernel,by decide +kernel,rfl,by decide +kernel⟩) rfl Ya7.nd rfl (Or.inl rfl) (seqK K<|pv 3) (λ_ _ _ _ _=>(Zam (i:=0) (show List.Nodup (["_law_end","_law_tie"]:List Str) from by decide) rfl<|Or.inl rfl)) (λ_ _ _ _ _=>(Zc3<|Zao Zg0 (Zap Zd5 (pv 0) Zag) (pv 1)<|nomark _)) λ_ _ _ _ _=>(Zap Ze1 (pv 0)<|Zap Zcn Zag<|Zbj Zh3 rfl (mb "int"<|by decide) Zi7<|Zaa (Zqz Zk2 (Zap Zd5 (pv 0) Zag) (pv 1)<|nomark _) Zad))<|Zah<|Zfd<|bmK K PySem.F.plainAttrs_list PySem.F.slot_list_append PySem.F.type_list_append Zdd (pv 2)<|Zaa (Zax C43 (hr.mono<|by decide)<|Zaa (pv 4) Zad) Zad)<|Zah<|Zau<|Zai (sortGK K hv) rfl (mb "sorted"<|by decide) Ze5<|Zaa (pv 2) Zad),Zov (λds Post hf=>?_) h⟩;obtain⟨n,ts,o,t,rfl,hW,hO,q⟩:=hf;refine⟨by simp,?_⟩;dsimp only[startD,Wbk,Wbm,Wa6,Wal];have al:=Zfl hW hO;have fl:(allF ts o).length<64:=by
  obtain⟨N,rfl⟩:∃N:Nat,n=(N:Int):=⟨n.toNat,by have:=hW.lo;omega⟩;exact Zj5 hW hO
 have rr:=Zp8 hW hO;refine Zal<|Zcz<|Zi6<|Zaf ⟨by decide,?_⟩;refine Zca (λΔ=>∃x y:L2.Slot,Δ = [.val (encOrd o),.val (.int t),.own (.lst (((allF ts o).map (outRow t)).map rowD)),x,y]) ?_ ?_
 ·refine Zea (Ze3<|Zbr<|Zc0<|Zab<|Zac rfl<|Zaf ⟨n,ts,o,rfl,hW,hO,_,rfl,_,Or.inl rfl,λi Δ=>∃x y:L2.Slot,Δ = [.val (encOrd o),.val (.int t),.own (.lst ((((allF ts o).take i).map (outRow t)).map rowD)),x,y],⟨_,_,rfl⟩,?_,?_⟩)
  ·rintro i d Δ2 hd ⟨x,y,rfl⟩
   rw[Wad]at hd;cases z:(allF ts o)[i]? with
   |none=>rw[z]at hd;cases hd
   |some r=>
    rw[z]at hd;have hd:rowD r=d:=by simpa using hd
    subst hd;have hrl:=rr r<|Way z;have tk:(allF ts o).take (i+1)=(allF ts o).take i++[r]:=by rw[Wca,z];rfl
    refine Zbg<|Zal<|Zaw<|Zbw (by decide)<|Zdp<|Zac rfl ⟨_,rfl,?_,keepD t,lessD t,λj e he=>?_,?_⟩
    ·rw[Wab];exact small1000 (by omega)
    ·rw[Wad]at he
     cases z:r[j]? with
     |none=>rw[z]at he;cases he
     |some x=>
      rw[z]at he;have he:D.int x=e:=by simpa using he
      subst he;refine Zar<|Zaj<|Zaj<|Zac rfl<|Zak<|jr_I ⟨by omega,by omega⟩<|Zac rfl<|Zju ⟨_,rfl,?_,?_⟩
      ·show (!decide (x / 2=(t:Int)))=decide (¬ x / 2=(t:Int))
       rw[decide_not]
      refine ite2 (λz=>?_) λz=>⟨_,rfl⟩;exact Zaj<|Zac rfl<|Zaj<|Zak<|Za0<|Zab<|Zaj<|Zaj<|Zac rfl<|Zak<|jr_I ⟨by omega,by omega⟩<|Zac rfl<|Ze2<|Zaf<|Zl2<|jr_I (Or.inl ⟨by omega,by omega⟩)<|Zfz ⟨rfl,_,rfl⟩
    have e1:((r.map D.int).filter (keepD t)).map (lessD t)=((r.filter<|keepE t).map (outE t)).map D.int:=by
     have e0:=Zs9 t r;rw[Wdu,(Wbl (p:=λ_=>true)).mpr λ_ _=>rfl]at e0;exact e0
    rw[e1];refine Zi9 rfl rfl<|Zav<|Zab<|Zac rfl<|Zaf ⟨_,rfl,?_,?_⟩
    ·rw[Wab];exact Wbz (Wcg _ _) (by omega)
    refine⟨_,_,rfl,rfl,?_,.val<|rowD r,.val (.lst (((r.filter<|keepE t).map (outE t)).map D.int)),?_⟩
    ·rw[Wab,Wab,Wa5];exact small1000 (by omega)
    ·rw[tk,Waz,Waz];rfl
  ·rintro Δ2 ⟨x,y,rfl⟩
   rw[Wab,Wbv];exact⟨_,_,rfl⟩
 rintro Δ1 ⟨x,y,rfl⟩;exact Zfr<|Zkb<|Zab<|Zev rfl<|Zaf ⟨(allF ts o).map (outRow t),Or.inl rfl,by rw[Wab];exact fl,λms hpm hsm=>⟨_,rfl,q ms hpm hsm⟩⟩
end
def kSt (ns:List Int) (ps:List D) (N:Nat) (ts:List (Int × Int)) (o:List (List Int)) (r:List L2.Slot):Evt:=.val (.scr<|ns.map .int)::.own (.lst ps)::.val (encWeb (N:Int) ts)::.val (encOrd o)::r
def someN (ts:List (Int × Int)):List Nat:=(Wap ts.length).filter λt=>!decide (placeAt ts (2*t)=placeAt ts (2*t+1))
noncomputable def kT (ns:List Int) (ps:List D) (N:Nat) (ts:List (Int × Int)) (o:List (List Int)) (h:Int) (d0:D) (wy:Int) (r:List L2.Slot):Evt:=kSt ns ps N ts o (.val d0::.val (.tup [.int ((allF ts o).length:Int),.int h])::.val (.int wy)::.val (.lst ((someN ts).map natD))::r)
def kP (ns:List Int) (N:Nat) (ts:List (Int × Int)) (o:List (List Int)) (h:Int) (d0:D) (wy:Int) (x:L2.Slot):Evt->Prop:=λΔ=>∃(psx:List D) (M:Nat) (us:List (Int × Int)) (v:List (List Int)) (m l:Int) (y:L2.Slot),Pen psx/\Deed N ts o M us v m l /\ Δ = kT ns psx N ts o h d0 wy [.val (floorD (M:Int) us v),.val (.int m),.val (.int l),y,x]
theorem Zys (ts:List (Int × Int)):((rngD 0 ts.length).filter λd=>!decide (placeAt ts (2*(intP d).toNat)=placeAt ts (2*(intP d).toNat+1))).map (λd=>d)=(someN ts).map natD:=by
 unfold someN rngD;rw[Wdu,Wb4];congr 1
 ·funext p;show D.int (0+(p:Int))=D.int (p:Int);rw[Wb1]
 ·apply Wa9
  intro p _;show (!decide (placeAt ts (2*(0+(p:Int)).toNat)=placeAt ts (2*(0+(p:Int)).toNat+1)))=_;rw[Wb1,Wae]
theorem Ztt (ts:List (Int × Int)):(someN ts).length<=ts.length:=by
 unfold someN;exact Wbz (Wcg _ _) (by rw[Wbq];exact Wak _)
theorem Zs3 {ts:List (Int × Int)}{k:Nat}(hk:k<(someN ts).length):∃t,(someN ts)[k]?=some t/\t<ts.length/\placeAt ts (2*t)≠placeAt ts (2*t+1):=by
 refine⟨_,Waa hk,?_⟩;have hm:(someN ts)[k]∈someN ts:=Wa0 hk;generalize (someN ts)[k]=p at hm;unfold someN at hm;rw[Wai,Wav]at hm;exact⟨hm.1,by simpa using hm.2⟩
theorem Zvm (R:List (List Int)):(R.map rowD).all (Sm 1)=true:=by
 rw[Wbi];intro d hd;obtain⟨r,_,rfl⟩:=Wa3.mp hd;show (r.map D.int).all (Sm 0)=true;rw[Wbi];intro d hd;obtain⟨x,_,rfl⟩:=Wa3.mp hd;rfl
section
variable {P:Program}{w:World}{K:W.Frag}{mg:Str->Option Value}{base:Heap}{f:Addr}{fd:FuncData}
theorem ok_law (mb:Mb mg) (C56:Callee P w K mg base 1 "_law_pen" ["_law_script"] (spN K fPen)) (C59:Callee P w K mg base 2 "_law_web" ["_law_pen_here","_law_places","_law_ties"] (spB K fWeb)) (C53:Callee P w K mg base 2 "_law_order" ["_law_pen_here","_law_web_here"] (spB K fOrder)) (C46:Callee P w K mg base 1 "_law_draw" ["_law_pen_here","_law_many"] (spB K fDraw))
  (C48:Callee P w K mg base 2 "_law_faces" ["_law_order_here"] (spN K fLFaces)) (C50:Callee P w K mg base 3 "_law_holes" ["_law_web_here","_law_order_here"] (spD K fHoles)) (C57:Callee P w K mg base 5 "_law_put_in" ["_law_pen_here","_law_web_here","_law_order_here"] (spB K fLPut)) (C58:Callee P w K mg base 4 "_law_taken_out" ["_law_pen_here","_law_web_here","_law_order_here"] (spB K fLOut))
  (C62:Callee P w K mg base 3 "drawn_in" ["web","order","tie"] (spD K fInn)) (C52:Callee P w K mg base 3 "_law_kept_faces" ["_law_order_here","_law_tie"] (spN K fKept)) (C51:Callee P w K mg base 2 "_law_is_order" ["_law_web_here","_law_found"] (spD K fIsO)) (C66:Callee P w K mg base 6 "holes" ["web","order"] (spD K fHoles)) (C60:Callee P w K mg base 1 "_law_whole" ["_law_found"] (spD K fWhole))
  (F:Fun K "law" "law" Yaf f fd):FnOk P w K mg base CX0 8 f fd ["_law_script"] (spD K fLaw):=by
 refine F.ok Yaa (Zbc λds Post h=>by obtain⟨_,rfl,_⟩:=h;rfl) λcdv A outer s H vs Q E hr h=>?_;have hu:=Zbz hr;have hv:=Zka hr;refine⟨_,(Zae (Zat (i:=1) Yaa.nd rfl (Or.inl rfl)<|Zax C56 (hr.mono<|by decide)<|Zaa (pv 0) Zad)<|Zae (Zat (i:=2) Yaa.nd rfl (Or.inr rfl)<|Zax C59 (hr.mono<|by decide)<|Zaa (pv 1)<|Zaa Zag<|Zaa Zag Zad)<|Zae (Zat (i:=3) Yaa.nd rfl (Or.inl rfl)<|Zax C53 (hr.mono<|by decide)<|Zaa (pv 1)<|Zaa (pv 2) Zad)<|Zae (Zdt PassesOwn.never rfl (Zbk rfl (mb "range"<|by decide)<|Zaa (Zap (addK K) Zag<|Zax C46 (hr.mono<|by decide)<|Zaa (pv 1)<|Zaa Zag Zad) Zad) (Zam (i:=4) Yaa.nd rfl<|Or.inl rfl)<|Zae (Zat (i:=5) Yaa.nd rfl (Or.inl rfl)<|Zb8<|Zaa (Zai (lenK K) rfl (mb "len"<|by decide) Za5<|Zaa (Zax C48 (hr.mono<|by decide)<|Zaa (pv 3) Zad) Zad)<|Zaa (Zax C50 (hr.mono<|by decide)<|Zaa (pv 2)<|Zaa (pv 3) Zad) Zad)<|Zae (Zat (i:=6) Yaa.nd rfl (Or.inl rfl)<|Zax C46 (hr.mono<|by decide)<|Zaa (pv 1)<|Zaa Zag Zad)<|Zae (Zdg (i:=7) ["_law_tie"] (show CompSc (defScope Yaf) ["_law_script","_law_pen_here","_law_web_here","_law_order_here","_law_k","_law_ahead","_law_way","_law_some","_law_found","_law_more","_law_less","_law_tie","_law_told"] _ ["_law_web_here"] [2] from ⟨rfl,by decide +kernel,by decide +kernel,by decide +kernel,rfl,by decide +kernel⟩) rfl Yaa.nd rfl (Or.inl rfl) (Zbk rfl (mb "range"<|by decide)<|Zaa (Zai (lenK K) rfl (mb "len"<|by decide) Za5<|Zaa (Zaq (ixK K hu) (pv 2) Zag λ_ _=>rfl) Zad) Zad) (λ_ _ _ _ _=>(Zam (i:=0) (show List.Nodup (["_law_tie","_law_web_here"]:List Str) from by decide) rfl<|Or.inl rfl)) (λ_ _ _ _ _=>(Zc3<|Zao Zg0 (Zaq (ixK K hu) (Zaq (ixK K hu) (Zaq (ixK K hu) (pv 1) Zag λ_ _=>rfl) (pv 0) λ_ _=>rfl) Zag λ_ _=>rfl) (Zaq (ixK K hu) (Zaq (ixK K hu) (Zaq (ixK K hu) (pv 1) Zag λ_ _=>rfl) (pv 0) λ_ _=>rfl) Zag λ_ _=>rfl)<|nomark _)) λ_ _ _ _ _=>(pv 0))<|Zae (Zcf (PW.pt<|pw_and (Zao Zln (pv 6) Zag<|nomark _)<|pw_and1<|Zao Zln (Zai (lenK K) rfl (mb "len"<|by decide) Za5<|Zaa (Zaq (ixK K hu) (pv 2) Zag λ_ _=>rfl) Zad) Zag<|nomark _) (Zah<|Zc1 (Zax C57 (hr.mono<|by decide)<|Zaa (pv 1)<|Zaa (pv 2)<|Zaa (pv 3) Zad)<|gtupK (n:=3) K rfl<|Za8 (Zam (i:=8) Yaa.nd rfl<|Or.inl rfl)<|Za8 (Zam (i:=9) Yaa.nd rfl<|Or.inl rfl)<|Za8 (Zam (i:=10) Yaa.nd rfl<|Or.inl rfl) Zdr)<|Zah<|Zcf (PW.pt<|pw_and (Zao Zci (pv 6) Zag<|nomark _)<|pw_and1<|Zao Zk2 (Zai (lenK K) rfl (mb "len"<|by decide) Za5<|Zaa (Zaq (ixK K hu) (pv 2) Zag λ_ _=>rfl) Zad) Zag<|nomark _) (Zah<|Zc1 (Zax C58 (hr.mono<|by decide)<|Zaa (pv 1)<|Zaa (pv 2)<|Zaa (pv 3) Zad)<|gtupK (n:=3) K rfl<|Za8 (Zam (i:=8) Yaa.nd rfl<|Or.inl rfl)<|Za8 (Zam (i:=9) Yaa.nd rfl<|Or.inl rfl)<|Za8 (Zam (i:=10) Yaa.nd rfl<|Or.inl rfl) Zdr)<|Zah<|Zcf (PW.pt<|pw_and (Zao Zci (pv 6) Zag<|nomark _)<|pw_and1<|Zao Zk2 (Zai (lenK K) rfl (mb "len"<|by decide) Za5<|Zaa (pv 7) Zad) Zag<|nomark _) (Zae (Zat (i:=11) Yaa.nd rfl (Or.inl rfl)<|Zaq (ixK K hu) (pv 7) (Zax C46 (hr.mono<|by decide)<|Zaa (pv 1)<|Zaa (Zai (lenK K) rfl (mb "len"<|by decide) Za5<|Zaa (pv 7) Zad) Zad) λ_ _=>rfl)<|Zae (Zqn (i:=8) (j:=9) (k:=10) rfl Yaa.nd rfl rfl rfl (by decide) (by decide) (by decide) rfl rfl rfl (Zaa (Zax C62 (hr.mono<|by decide)<|Zaa (pv 2)<|Zaa (pv 3)<|Zaa (pv 11) Zad)<|Zaa Zag<|Zaa Zag Zad) rfl)<|Zah<|Zcf (Zao (neSmK K hv) (Zax C48 (hr.mono<|by decide)<|Zaa (Zaq (ixK K hu) (pv 8) Zag λ_ _=>rfl) Zad) (Zax C52 (hr.mono<|by decide)<|Zaa (pv 3)<|Zaa (pv 11) Zad)<|nomark _) (Zah<|Zau Zkd) Za4)<|Zah<|Zqn (i:=8) (j:=9) (k:=10) rfl Yaa.nd rfl rfl rfl (by decide) (by decide) (by decide) rfl rfl rfl (Zaa (Zb8<|Zaa (pv 2)<|Zaa (pv 3) Zad)<|Zaa Zag<|Zaa Zag Zad) rfl)<|Zae (Zc1 (pv 8)<|gtupK (n:=2) K rfl<|Za8 (Zam (i:=2) Yaa.nd rfl<|Or.inr rfl)<|Za8 (Zam (i:=3) Yaa.nd rfl<|Or.inl rfl) Zdr)<|Zae (Zcf (PW.pt<|pw_or (Ze7<|truK K (Zax C51 (hr.mono<|by decide)<|Zaa (pv 2)<|Zaa (pv 3) Zad) λ_=>rfl)<|pw_or1<|Zao Zg0 (Zai (lenK K) rfl (mb "len"<|by decide) Za5<|Zaa (Zax C48 (hr.mono<|by decide)<|Zaa (pv 3) Zad) Zad) (Zap (addK K) (Zaq (ixK K hu) (pv 5) Zag λ_ _=>rfl)<|pv 9)<|nomark _) (Zah<|Zau Zkd) Za4)<|Zae (Zat (i:=12) Yaa.nd rfl (Or.inl rfl)<|Zax C66 (hr.mono<|by decide)<|Zaa (pv 2)<|Zaa (pv 3) Zad)<|Zah<|Zcf (PW.pt<|pw_or (Ze7<|truK K (Zax C60 (hr.mono<|by decide)<|Zaa (pv 12) Zad) λ_=>rfl)<|pw_or (Zao Zg0 (pv 12) (Zap (addK K) (Zaq (ixK K hu) (pv 5) Zag λ_ _=>rfl)<|pv 10)<|nomark _)<|pw_or1<|Zao Zg0 (pv 12) (Zax C50 (hr.mono<|by decide)<|Zaa (pv 2)<|Zaa (pv 3) Zad)<|nomark _) (Zah<|Zau Zkd) Za4)<|Zah<|Zau Zkd),Zcx (λds Post hf=>?_) h⟩
 obtain⟨ns,rfl,hl,q⟩:=hf;refine⟨by simp,?_⟩;dsimp only[startD,Wbk,Wbm,Wa6];refine Zal<|Zcz<|Zc0<|Zab<|Zac rfl<|Zaf ⟨ns,rfl,hl,λps hp=>?_⟩;refine Zal<|Zaw<|Zio rfl rfl<|Zab<|Zak<|Zab<|Zak<|Zaf (Zx7 rfl rfl hp (by decide) (by decide) (by decide) (by decide) λn0 ts0 ps1 hp1 hW0 _ _=>?_);refine Zal<|Zaw<|Zio rfl rfl<|Zab<|Zac rfl<|Zaf (Ztn rfl rfl hp1 hW0 λo0 ps2 hp2 hO0=>?_);obtain⟨N0,rfl⟩:∃N:Nat,n0=(N:Int):=⟨n0.toNat,by have:=hW0.lo;omega⟩;refine Zca (λ_=>True) ?_ λΔ1 _=>Za2<|Zsr q;refine Zea<|Zbq<|Zab<|Zaj<|Zak (Zyg rfl rfl hp2 (by decide) (by decide) λr ps3 hp3 r0 r1=>Zcd<|Zaf ⟨_,rfl,by omega,by omega,?_⟩);refine⟨λ_ Δ=>∃(psx:List D) (N:Nat) (ts:List (Int × Int)) (o:List (List Int)) (x4 x5 x6 x7 x8 x9 x10 x11 x12:L2.Slot),Pen psx/\WebOk (N:Int) ts/\OrdOk (N:Int) ts o /\ Δ = kSt ns psx N ts o [x4,x5,x6,x7,x8,x9,x10,x11,x12],⟨ps3,N0,ts0,o0,_,_,_,_,_,_,_,_,_,hp3,hW0,hO0,rfl⟩,?_,λ_ _=>trivial⟩;rintro i d0 Δ2 hd0 ⟨psx,N,ts,o,x4,x5,x6,x7,x8,x9,x10,x11,x12,hpx,hW,hO,rfl⟩;have hw:=hW.len;have hn:=hW.hi;obtain⟨ms,hm⟩:=Zdc<|marksL N ts;refine Zbg<|Zal<|Zaw<|Zb7<|Zab<|Za0<|Zab<|Zbr<|Zc0<|Zab<|Zac rfl<|Zaf ⟨(N:Int),ts,o,rfl,hW,hO,_,rfl,?_⟩;refine Zaf<|Za7 (Or.inl rfl) ?_;rw[Wab];refine Zab<|Zav<|Zab<|Zac rfl<|Zab<|Zac rfl<|Zaf ⟨(N:Int),ts,o,rfl,hW,hO,λms' hm'=>?_⟩;rw[Wae]at hm';cases hm.uniq hm';refine Zaf ⟨Ze0,?_⟩;refine Zal<|Zaw<|Zdu rfl rfl<|Zab<|Zak<|Zaf ⟨_,_,rfl,rfl,hpx,4,rfl,by omega,by omega,λwy ps4 hp4 w0 w1=>?_⟩;refine Zal<|Zaw<|Zbw (by decide)<|Zbq<|Zab<|Zd1 (Zif<|Zd0 rfl<|Zdx (N:Int) ts) ?_;rw[Wab];refine Zaf ⟨_,rfl,by omega,by omega,?_⟩;rw[Wae];refine⟨by rw[Zbu];exact small1000 (by omega),λd=>!decide (placeAt ts (2*(intP d).toNat)=placeAt ts (2*(intP d).toNat+1)),λd=>d,λi d hd=>?_,?_⟩
 ·obtain⟨hi,rfl⟩:=Zce hd
  rw[Wb1];obtain⟨a,b,T⟩:=Zmu hW hi;refine Zar<|Zaj<|Zd1 (Ze8 (Ze8 (Zd0 rfl<|Zdx (N:Int) ts) (Za6 rfl) T.atD) Zc2 (d:=.int a) rfl)<|Zd1 (Ze8 (Ze8 (Zd0 rfl<|Zdx (N:Int) ts) (Za6 rfl) T.atD) Zc2 (d:=.int b) rfl)<|Zju ⟨_,rfl,?_,?_⟩
  ·show _ = !decide (placeAt ts (2*((i:Int)).toNat)=placeAt ts (2*((i:Int)).toNat+1))
   rw[Wae,T.pa,T.pb]
  ·exact ite2 (λz=>Zac rfl ⟨rfl,_,rfl⟩) λz=>⟨_,rfl⟩
 rw[Zys];refine Zca (kP ns N ts o (holesI (N:Int) ts o ms) d0 wy x12) ?_ ?_
 ·refine Zcc (L2.JT.imp (P:=λb Δ=>(b=true->ts.length<24) /\ Δ = kT ns ps4 N ts o (holesI (N:Int) ts o ms) d0 wy [x8,x9,x10,x11,x12]) ?_ ?_)
  ·refine Zew (Zar<|Zaj<|Zac rfl<|Zak<|Ze2 ⟨_,rfl,ite2 (λz=>?_) λz=>⟨(λh=>nomatch h),rfl⟩⟩)
   refine Zar<|Zaj<|Zd1 (Zif<|Zd0 rfl<|Zdx (N:Int) ts)<|Zak<|Ze2 ⟨_,rfl,λh=>?_,rfl⟩;have h:=of_decide_eq_true h;rw[Wab]at h;omega
  rintro b Δ3 ⟨hb,rfl⟩;refine ite2 (λz=>?_) λz=>?_
  ·exact Zg2<|Zdu rfl rfl<|Zab<|Zac rfl<|Zab<|Zac rfl<|Zaf ⟨_,_,rfl,rfl,hp4,N,ts,o,rfl,hW,hO,hb z,λus v m l ps' hp' Dd=>Zfp rfl<|Zbe<|Zbg<|Zbe<|Zbg<|Zbe<|Zbg<|Zd6 ⟨ps',N,us,v,m,l,x11,hp',Dd,rfl⟩⟩
  refine Zcc<|L2.JT.imp (P:=λb Δ=>(b=true->0<ts.length) /\ Δ = kT ns ps4 N ts o (holesI (N:Int) ts o ms) d0 wy [x8,x9,x10,x11,x12]) ?_ ?_
  ·refine Zew (Zar<|Zaj<|Zac rfl<|Zak<|Zer ⟨_,rfl,ite2 (λz=>?_) λz=>⟨(λh=>nomatch h),rfl⟩⟩)
   refine Zar<|Zaj<|Zd1 (Zif<|Zd0 rfl<|Zdx (N:Int) ts)<|Zak<|Ze2 ⟨_,rfl,λh=>?_,rfl⟩;have h:=of_decide_eq_true h;rw[Wab]at h;omega
  rintro b Δ3 ⟨hb,rfl⟩;refine ite2 (λz=>?_) λz=>?_
  ·exact Zg2<|Zdu rfl rfl<|Zab<|Zac rfl<|Zab<|Zac rfl<|Zaf ⟨_,_,rfl,rfl,hp4,N,ts,o,rfl,hW,hO,hb z,λus v m l ps' hp' Dd=>Zfp rfl<|Zbe<|Zbg<|Zbe<|Zbg<|Zbe<|Zbg<|Zd6 ⟨ps',N,us,v,m,l,x11,hp',Dd,rfl⟩⟩
  refine Zcc<|L2.JT.imp (P:=λb Δ=>(b=true->0<(someN ts).length) /\ Δ = kT ns ps4 N ts o (holesI (N:Int) ts o ms) d0 wy [x8,x9,x10,x11,x12]) ?_ ?_
  ·refine Zew (Zar<|Zaj<|Zac rfl<|Zak<|Zer ⟨_,rfl,ite2 (λz=>?_) λz=>⟨(λh=>nomatch h),rfl⟩⟩)
   refine Zar<|Zaj<|Zd1 (Zq8<|Za6 rfl)<|Zak<|Ze2 ⟨_,rfl,λh=>?_,rfl⟩;have h:=of_decide_eq_true h;rw[Wab]at h;omega
  rintro b Δ3 ⟨hb,rfl⟩;refine ite2 (λz=>?_) λz=>?_
  ·have hs:=hb z
   have sl:=Ztt ts;refine Zal<|Zaw<|Zaj<|Zac rfl<|Zio rfl rfl<|Zab<|Zd1 (Zq8<|Za6 rfl) ?_;rw[Wab];refine Zaf (Zfa (m:=((someN ts).length:Int)) rfl rfl hp4 (by omega) (by omega) λb0 pe hpe b00 b01=>?_);obtain⟨kb,rfl⟩:∃kb:Nat,b0=(kb:Int):=⟨b0.toNat,(Weo b00).symm⟩;obtain⟨t,hk,ht,hne⟩:=Zs3 (ts:=ts) (k:=kb) (by omega);obtain⟨a,b,T⟩:=Zmu hW ht;have Dr:=Zph T (by rw[<- T.pa,<- T.pb];exact hne);have Dd:=Zv7 hW hO ht Dr;have ip:=Zq4 hW hO ht Dr;have eN:((N-1:Nat):Int)=(N:Int)-1:=by have:=hW.lo;omega
   refine Zc4 (d:=natD t) (Zby (by rw[Wad,hk];rfl)) ?_;refine Zal<|Zpa<|Zab<|Zav<|Zgz (Zay (Za6 rfl)<|Zay (Za6 rfl)<|Zay (Za6 rfl) Zd7) ⟨(N:Int),ts,o,t,rfl,hW,hO,ht,hne,?_⟩;rw[<- eN];refine Zab<|Zak<|Zab<|Zak<|Zaf ⟨_,_,_,rfl,(by show 8<13;decide),(by show 9<13;decide),(by show 10<13;decide),?_⟩;refine Zcc<|Zar<|Zaj<|Zbr<|Zc0<|Zab<|Zd1 (Zd0 rfl (d:=encOrd<|inOrd ts t o) rfl)<|Zaf ⟨_,inTs ts t,inOrd ts t o,rfl,Dd.web,Dd.ord,_,rfl,?_⟩;refine Zbr<|Zc0<|Zab<|Zac rfl<|Zab<|Zac rfl<|Zaf ⟨(N:Int),ts,o,t,rfl,hW,hO,λks k1 k2=>⟨_,rfl,?_⟩⟩;cases Zho k2 (Zfx Dd.web Dd.ord) (k1.trans ip.symm);exact Zv0 (n:=1) (by decide) (Zvm _) ⟨_,rfl,iteF<|Zbb ⟨pe,N-1,inTs ts t,inOrd ts t o,0,0,.val<|natD t,hpe,Dd,rfl⟩⟩
  ·exact Zpa<|Zab<|Zd1 (Zy4 (Zay (Za6 rfl)<|Zay (Za6 rfl) Zd7) Ze0)<|Zab<|Zak<|Zab<|Zak<|Zaf ⟨_,_,_,rfl,(by show 8<13;decide),(by show 9<13;decide),(by show 10<13;decide),ps4,N,ts,o,0,0,x11,hp4,Zqw hW hO,rfl⟩
 rintro Δ3 ⟨psy,M,us,v,m,l,y11,hpy,Dd,rfl⟩;refine Zal<|Zg2<|Zac rfl<|Zfp rfl<|Zbe<|Zbg<|Zbe<|Zbg<|Zd6 ?_;refine Zal<|Zcc<|Zjt<|Zd9<|Zcl<|Zav<|Zab<|Zac rfl<|Zab<|Zac rfl<|Zaf ⟨(M:Int),us,v,rfl,Dd.web,Dd.ord,_,rfl,iteF ?_⟩;refine Zar<|Zaj<|Za0<|Zab<|Zbr<|Zc0<|Zab<|Zac rfl<|Zaf ⟨(M:Int),us,v,rfl,Dd.web,Dd.ord,_,rfl,?_⟩;refine Zaf<|Za7 (Or.inl rfl) ?_;rw[Wab];refine Zaj<|Zd1 (Zd0 rfl (d:=.int ((allF ts o).length:Int)) rfl)<|Zac rfl<|Zcd<|Zju ⟨_,rfl,?_⟩;rw[decide_eq_true Dd.fac];refine iteF<|Zbb ?_;refine Zal<|Zaw<|Zav<|Zab<|Zac rfl<|Zab<|Zac rfl<|Zaf ⟨(M:Int),us,v,rfl,Dd.web,Dd.ord,λks hk=>?_⟩;rw[Wae]at hk;refine Zcc<|Zjt<|Zd9<|Zcl<|Zav<|Zab<|Zac rfl<|Zaf ⟨_,rfl,_,rfl,iteF ?_⟩;refine Zjt<|Zar<|Zaj<|Zac rfl<|Zaj<|Zd1 (Zd0 rfl (d:=.int<|holesI (N:Int) ts o ms) rfl)<|Zac rfl<|Zcd<|Zju ⟨_,rfl,?_⟩;rw[decide_eq_true (Dd.hol ms ks hm hk)];refine iteF<|Zar<|Zaj<|Zac rfl<|Zav<|Zab<|Zac rfl<|Zab<|Zac rfl<|Zaf ⟨(M:Int),us,v,rfl,Dd.web,Dd.ord,λks' hk'=>?_⟩;rw[Wae]at hk';cases hk.uniq hk';refine Zju ⟨_,rfl,?_⟩;rw[decide_eq_true rfl];exact iteF<|Zbb ⟨psy,M,us,v,_,_,_,_,_,_,_,_,_,hpy,Dd.web,Dd.ord,rfl⟩
end
theorem lenS {us:List Value}{n:Nat}(h:us.length=n+1):∃a t,us=a::t/\t.length=n:=by
 cases us with
 |nil=>exact absurd h.symm (Nat.succ_ne_zero n)
 |cons a t=>exact⟨a,t,rfl,Nat.succ.inj h⟩
theorem bK1 {α:Type _}{g r:List Value -> α}(h:∀a0,g [a0]=r [a0]) (us:List Value) (l:us.length=1):g us=r us:=by
 obtain⟨a0,u0,rfl,h0⟩:=lenS l;obtain rfl:=Wb5 h0;exact h a0
theorem bK2 {α:Type _}{g r:List Value -> α}(h:∀a0 a1,g [a0,a1]=r [a0,a1]) (us:List Value) (l:us.length=2):g us=r us:=by
 obtain⟨a0,u0,rfl,h0⟩:=lenS l;obtain⟨a1,u1,rfl,h1⟩:=lenS h0;obtain rfl:=Wb5 h1;exact h a0 a1
theorem bK3 {α:Type _}{g r:List Value -> α}(h:∀a0 a1 a2,g [a0,a1,a2]=r [a0,a1,a2]) (us:List Value) (l:us.length=3):g us=r us:=by
 obtain⟨a0,u0,rfl,h0⟩:=lenS l;obtain⟨a1,u1,rfl,h1⟩:=lenS h0;obtain⟨a2,u2,rfl,h2⟩:=lenS h1;obtain rfl:=Wb5 h2;exact h a0 a1 a2
theorem bK4 {α:Type _}{g r:List Value -> α}(h:∀a0 a1 a2 a3,g [a0,a1,a2,a3]=r [a0,a1,a2,a3]) (us:List Value) (l:us.length=4):g us=r us:=by
 obtain⟨a0,u0,rfl,h0⟩:=lenS l;obtain⟨a1,u1,rfl,h1⟩:=lenS h0;obtain⟨a2,u2,rfl,h2⟩:=lenS h1;obtain⟨a3,u3,rfl,h3⟩:=lenS h2;obtain rfl:=Wb5 h3;exact h a0 a1 a2 a3
def FnE (K:W.Frag) (x:Str) (st:Stmt):Prop:=∃(f:Addr) (fd:FuncData),W.nsIn K mainGlobals x=some (some (.ref f))/\Fun K x x st f fd
theorem fnE {K:W.Frag}{x:Str}{st:Stmt}{f:Addr}{oc kV doc pm cdv ct:Value}{od an:Option Addr}{sl:Array (Option Value)}(a:W.nsIn K mainGlobals x=some (some (.ref f))) (l:K.lookup f=some ⟨oc,od,.func<|W.fnOf x x (defArgs st) (defBody st) (defScope st) .none kV doc pm an cdv ct,sl⟩) (c:W.codeIn K cdv x=true) (k:W.keepIn K (.ref f)=true):FnE K x st:=⟨f,_,a,Zyk l c k⟩
theorem Zvc {P:Program}{w:World}{K:W.Frag}{mg:Str->Option Value}{base h:Heap}(X:K.In h) (G:h.Ns mainGlobals mg) {x:Str}{st:Stmt}{ps:List Str}{lv:Nat}{sp:Sp}(e:FnE K x st) (ok:∀{f:Addr}{fd:FuncData},Fun K x x st f fd->FnOk P w K mg base CX0 lv f fd ps sp) (hb:∀(kV doc pm:Value) (an:Option Addr) (cdv ct:Value) (us:List Value),us.length=ps.length->bindArgs (W.fnOf x x (defArgs st) (defBody st) (defScope st) .none kV doc pm an cdv ct) ⟨us,[]⟩=pure (ps.zip us)):Callee P w K mg base lv x ps sp:=by
 obtain⟨f,fd,a,F⟩:=e;exact⟨⟨f,fd,ok F,F.binds hb,F.kp,W.mg_of X G a⟩⟩
theorem all_mk {l:PySem.W.OpenLaw}{w:World}{K:W.Frag}{h:Heap}{mg:Str->Option Value}{fa:Addr}(X:K.In h) (G:h.Ns mainGlobals mg) (hfa:mg "law" = some (.ref fa))
  (e1:FnE K "_law_draw" Ybm)
  (e2:FnE K "_law_pen" Yav)
  (e3:FnE K "_law_web" Ybn)
  (e4:FnE K "_law_order" Yaj)
  (e5:FnE K "is_whole" Yar)
  (e6:FnE K "place_of" Yba)
  (e7:FnE K "is_place" Ya8)
  (e8:FnE K "is_tie" Ya9)
  (e9:FnE K "least_first" Yas)
  (e10:FnE K "follower" Ybb)
  (e11:FnE K "onward" Ybc)
  (e12:FnE K "face_of" Ybd)
  (e13:FnE K "faces" Yat)
  (e14:FnE K "parts_of" Yai)
  (e15:FnE K "lacking" Ybf)
  (e16:FnE K "holes" Ybe)
  (e17:FnE K "corner_place" Ybh)
  (e18:FnE K "row_with" Ybi)
  (e19:FnE K "put_in" Ybg)
  (e20:FnE K "rows_without" Yam)
  (e21:FnE K "taken_out" Ybj)
  (e22:FnE K "others_behind" Ybk)
  (e23:FnE K "place_drawn" Ybl)
  (e24:FnE K "drawn_in" Yau)
  (e25:FnE K "_law_parts" Yan)
  (e26:FnE K "_law_partner" Ybo)
  (e27:FnE K "_law_faces" Yaw)
  (e28:FnE K "_law_holes" Ybp)
  (e29:FnE K "_law_whole" Ybq)
  (e30:FnE K "_law_begun" Ybr)
  (e31:FnE K "_law_is_order" Yao)
  (e32:FnE K "_law_corner" Yax)
  (e33:FnE K "_law_after" Ybs)
  (e34:FnE K "_law_face_at" Yay)
  (e35:FnE K "_law_hang" Yap)
  (e36:FnE K "_law_corner_place" Ybt)
  (e37:FnE K "_law_put_in" Yaz)
  (e38:FnE K "_law_taken_out" Ya0)
  (e39:FnE K "_law_kept_faces" Ya1)
  (e40:FnE K "law" Yaf)
  {tk_MOST_TIES:Tok}(y_MOST_TIES:W.nsIn K mainGlobals "MOST_TIES" = some (some (.int 24 tk_MOST_TIES)))
  (z0:W.nsIn K mainGlobals "abs" = some none)
  (z1:W.nsIn K mainGlobals "all" = some none)
  (z2:W.nsIn K mainGlobals "bool" = some none)
  (z3:W.nsIn K mainGlobals "int" = some none)
  (z4:W.nsIn K mainGlobals "isinstance" = some none)
  (z5:W.nsIn K mainGlobals "len" = some none)
  (z6:W.nsIn K mainGlobals "list" = some none)
  (z7:W.nsIn K mainGlobals "max" = some none)
  (z8:W.nsIn K mainGlobals "min" = some none)
  (z9:W.nsIn K mainGlobals "range" = some none)
  (z10:W.nsIn K mainGlobals "set" = some none)
  (z11:W.nsIn K mainGlobals "sorted" = some none)
  (z12:W.nsIn K mainGlobals "tuple" = some none) :
  ∃fd:FuncData,(∀(s:Shared) (v:Value),BindsTo s fd ⟨[v],[]⟩ [("_law_script",v)])/\∀base:Heap,K.In base->base.Ns mainGlobals mg->FnOk l.prog w K mg base CX0 8 fa fd ["_law_script"] (spD K fLaw):=by
 obtain⟨f,fd,a,F⟩:=e40;have e:=hfa.symm.trans<|W.mg_of X G a;cases e;have mb:Mb mg:=by
  intro x hx;simp only[Waq,Wdi,or_false]at hx;rcases hx with rfl|rfl|rfl|rfl|rfl|rfl|rfl|rfl|rfl|rfl|rfl|rfl|rfl
  ·exact W.mg_none_of X G z0
  ·exact W.mg_none_of X G z1
  ·exact W.mg_none_of X G z2
  ·exact W.mg_none_of X G z3
  ·exact W.mg_none_of X G z4
  ·exact W.mg_none_of X G z5
  ·exact W.mg_none_of X G z6
  ·exact W.mg_none_of X G z7
  ·exact W.mg_none_of X G z8
  ·exact W.mg_none_of X G z9
  ·exact W.mg_none_of X G z10
  ·exact W.mg_none_of X G z11
  ·exact W.mg_none_of X G z12
 obtain⟨oc,od,kV,doc,pm,an,cdv,ct,osl,rfl,lk,hcd⟩:=F.ex;refine⟨W.fnOf "law" "law" (defArgs Yaf) (defBody Yaf) (defScope Yaf) .none kV doc pm an cdv ct,λs v=>.of_eq rfl,λbase _ _=>?_⟩;have M:=@Zvc l.prog w K mg base h X G;have C1:=M e1 (Zvx mb) λ_ _ _ _ _ _=>bK2 λ_ _=>rfl;have C2:=M e2 (Zxw mb) λ_ _ _ _ _ _=>bK1 λ_=>rfl;have C3:=M e3 (Zxd mb C1) λ_ _ _ _ _ _=>bK3 λ_ _ _=>rfl;have C4:=M e4 (Ztw mb C1) λ_ _ _ _ _ _=>bK2 λ_ _=>rfl;have C5:=M e5 (Zwk mb) λ_ _ _ _ _ _=>bK1 λ_=>rfl;have C6:=M e5 (Zxs mb) λ_ _ _ _ _ _=>bK1 λ_=>rfl;have C7:=M e6 (Zsf mb) λ_ _ _ _ _ _=>bK2 λ_ _=>rfl;have C8:=M e7 (Zwc mb C5) λ_ _ _ _ _ _=>bK2 λ_ _=>rfl;have C9:=M e8 (Zsw mb C6) λ_ _ _ _ _ _=>bK2 λ_ _=>rfl;have C10:=M e9 (Zp1 mb) λ_ _ _ _ _ _=>bK1 λ_=>rfl;have C11:=M e9 (Zqx mb) λ_ _ _ _ _ _=>bK1 λ_=>rfl;have C12:=M e10 (Zl7 mb C7) λ_ _ _ _ _ _=>bK3 λ_ _ _=>rfl;have C13:=M e11 (Zp0 mb C12) λ_ _ _ _ _ _=>bK3 λ_ _ _=>rfl;have C14:=M e12 (Znx mb C13 C11) λ_ _ _ _ _ _=>bK3 λ_ _ _=>rfl;have C15:=M e13 (Zs7 mb C14) λ_ _ _ _ _ _=>bK2 λ_ _=>rfl;have C16:=M e14 (Zlz mb) λ_ _ _ _ _ _=>bK1 λ_=>rfl;have C17:=M e15 (Znu mb C16) λ_ _ _ _ _ _=>bK2 λ_ _=>rfl;have C18:=M e16 (Zsd mb C17 C15) λ_ _ _ _ _ _=>bK2 λ_ _=>rfl;have C19:=M e17 (Zzh mb C5 C8 C7) λ_ _ _ _ _ _=>bK3 λ_ _ _=>rfl;have C20:=M e18 (Zze mb C5) λ_ _ _ _ _ _=>bK3 λ_ _ _=>rfl;have C21:=M e19 (Zxo mb (W.mg_of X G y_MOST_TIES) C19 C20) λ_ _ _ _ _ _=>bK4 λ_ _ _ _=>rfl;have C22:=M e20 (Zv9 mb C10) λ_ _ _ _ _ _=>bK2 λ_ _=>rfl;have C23:=M e21 (Zxa mb C9 C22) λ_ _ _ _ _ _=>bK3 λ_ _ _=>rfl;have C24:=M e22 (Zza mb) λ_ _ _ _ _ _=>bK2 λ_ _=>rfl;have C25:=M e23 (Zzc mb) λ_ _ _ _ _ _=>bK3 λ_ _ _=>rfl;have C26:=M e24 (Zxz mb C9 C24 C25 C22) λ_ _ _ _ _ _=>bK3 λ_ _ _=>rfl;have C27:=M e25 (Zq6 mb) λ_ _ _ _ _ _=>bK1 λ_=>rfl;have C28:=M e26 (Zoi mb) λ_ _ _ _ _ _=>bK1 λ_=>rfl;have C29:=M e27 (Zr5 mb C28) λ_ _ _ _ _ _=>bK1 λ_=>rfl;have C30:=M e28 (Zpx mb C27 C29) λ_ _ _ _ _ _=>bK2 λ_ _=>rfl;have C31:=M e29 (Ztz mb) λ_ _ _ _ _ _=>bK1 λ_=>rfl;have C32:=M e30 (Zsc mb) λ_ _ _ _ _ _=>bK1 λ_=>rfl;have C33:=M e31 (Zyx mb C31) λ_ _ _ _ _ _=>bK2 λ_ _=>rfl;have C34:=M e32 (Zo1 mb C1) λ_ _ _ _ _ _=>bK3 λ_ _ _=>rfl;have C35:=M e33 (Zs8 mb) λ_ _ _ _ _ _=>bK1 λ_=>rfl;have C36:=M e34 (Zzb mb C35) λ_ _ _ _ _ _=>bK3 λ_ _ _=>rfl;have C37:=M e35 (Zvg mb C27) λ_ _ _ _ _ _=>bK3 λ_ _ _=>rfl;have C38:=M e36 (Zyj mb) λ_ _ _ _ _ _=>bK2 λ_ _=>rfl;have C39:=M e37 (Zwr mb C34 C29 C21 C36 C38 C37) λ_ _ _ _ _ _=>bK3 λ_ _ _=>rfl;have C40:=M e38 (Zw4 mb C1 C23 C29 C37) λ_ _ _ _ _ _=>bK3 λ_ _ _=>rfl;have C41:=M e39 (Zu0 mb C29 C32) λ_ _ _ _ _ _=>bK2 λ_ _=>rfl;exact ok_law mb C2 C3 C4 C1 C29 C30 C39 C40 C26 C41 C33 C18 C31 F
end Lw
open PySem PySem.W PyProof.Rows
theorem PySem.W.Fast.te6914548757250726390:True:=trivial
def PySem.W.Fast.tw10827605492042755461:PySem.Program:=PySem.Challenge.pw_holefloor_k35_whole_holes_as_ties_come_a
theorem PySem.W.Fast.te10827605492042755461:PySem.Challenge.pw_holefloor_k35_whole_holes_as_ties_come_a=PySem.W.Fast.tw10827605492042755461:=rfl
def PySem.W.Fast.tw6961931229774699095:Unit:=()
def PySem.W.Fast.tw16784813352633832787:Unit:=()
def PySem.W.Fast.tw9372295665167486939:Unit:=()
def PySem.W.Fast.tw1556278354525601276:Unit:=()
def PySem.W.Fast.tw1333466798261989579:Unit:=()
def PySem.W.Fast.tw16498741309923634905:Unit:=()
def PySem.W.Fast.tw13460836313862547008:Unit:=()
def PySem.W.Fast.tw7123765261597170358:Unit:=()
def PySem.W.Fast.tw689444163689369594:Unit:=()
def PySem.W.Fast.tw15144898478653023196:Unit:=()
def PySem.W.Fast.tw2657682950678954325:Unit:=()
def PySem.W.Fast.tw4516512511651650898:Unit:=()
def PySem.W.Fast.tw7108838419069396223:Unit:=()
def PySem.W.Fast.tw15931984890635519629:Unit:=()
def PySem.W.Fast.tw15315674327879360710:Unit:=()
def PySem.W.Fast.tw5176326311281420457:Unit:=()
def PySem.W.Fast.tw14986471831538365355:Unit:=()
def PySem.W.Fast.tw4374917608602285105:Unit:=()
def PySem.W.Fast.tw9584942246738997114:Unit:=()
def PySem.W.Fast.tw9015899388747036176:Unit:=()
def PySem.W.Fast.tw11803002439164317310:Unit:=()
def PySem.W.Fast.tw1570055496766268061:Unit:=()
def PySem.W.Fast.tw9219771050760981582:Unit:=()
def PySem.W.Fast.tw3849518618240342545:Unit:=()
def PySem.W.Fast.tw13893058080113490302:Unit:=()
def PySem.W.Fast.tw10695182368723814135:Unit:=()
def PySem.W.Fast.tw13707312929967057900:Unit:=()
def PySem.W.Fast.tw4349124593280554992:Unit:=()
def PySem.W.Fast.tw289556051611024705:Unit:=()
def PySem.W.Fast.tw14788377819722170301:Unit:=()
def PySem.W.Fast.tw7813212508865614340:Unit:=()
def PySem.W.Fast.tw3739395939716548090:Unit:=()
def PySem.W.Fast.tw12259321429261907165:Unit:=()
def PySem.W.Fast.tw13256749423421321255:Unit:=()
def PySem.W.Fast.tw7106633778387402083:Unit:=()
def PySem.W.Fast.tw8917594957171936508:Unit:=()
def PySem.W.Fast.tw11218575975788020433:Unit:=()
def PySem.W.Fast.tw11089637426720123888:Unit:=()
def PySem.W.Fast.tw3004463861323045817:Unit:=()
def PySem.W.Fast.tw2180650208805969362:Unit:=()
def PySem.W.Fast.tw11372713288381492538:Unit:=()
def PySem.W.Fast.tw9363288222754814446:Unit:=()
def PySem.W.Fast.tw1119910765200803397:Unit:=()
def PySem.W.Fast.tw5025683623360750104:Unit:=()
def PySem.W.Fast.tw14518342512569022615:Unit:=()
def PySem.W.Fast.tw5731664307784735462:Unit:=()
def PySem.W.Fast.tw12735544641839375389:Unit:=()
def PySem.W.Fast.tw1512125747448796131:Unit:=()
def PySem.W.Fast.tw8626251713261927987:Unit:=()
def PySem.W.Fast.tw2483581967246268535:Unit:=()
def PySem.W.Fast.tw16170440301931202444:Unit:=()
def PySem.W.Fast.tw2027966922770737900:Unit:=()
def PySem.W.Fast.tw3304320309091834011:Unit:=()
def PySem.W.Fast.tw15440584229255877634:Unit:=()
def PySem.W.Fast.tw3726060079910637718:Unit:=()
def PySem.W.Fast.tw10838111218932083051:Unit:=()
def PySem.W.Fast.tw18421930250476436365:Unit:=()
def PySem.W.Fast.tw2134243741895616375:Unit:=()
def PySem.W.Fast.tw4618382879513435625:Unit:=()
def PySem.W.Fast.tw12427811609912064892:Unit:=()
def PySem.W.Fast.tw8913593085497594482:Unit:=()
def PySem.W.Fast.tw400178970488044679:Unit:=()
def PySem.W.Fast.tw15867839938659133537:Unit:=()
def PySem.W.Fast.tw230770539432993528:Unit:=()
def PySem.W.Fast.tw15253887535106926589:Unit:=()
def PySem.W.Fast.tw13240954850359803279:Unit:=()
def PySem.W.Fast.tw14475669600861249434:Unit:=()
def PySem.W.Fast.tw3408573570722337592:Unit:=()
def PySem.W.Fast.tw13628784962357176725:Unit:=()
def PySem.W.Fast.tw13478704775847768961:Unit:=()
def PySem.W.Fast.tw16782210346763561426:Unit:=()
def PySem.W.Fast.tw3505908865146255485:Unit:=()
def PySem.W.Fast.tw2310097352692836177:Unit:=()
def PySem.W.Fast.tw12133444365579307809:Unit:=()
def PySem.W.Fast.tw10503523610102344:Unit:=()
def PySem.W.Fast.tw15874908598373419925:Unit:=()
def PySem.W.Fast.tw482810391541000402:Unit:=()
def PySem.W.Fast.tw17833509451383393394:Unit:=()
def PySem.W.Fast.tw10669945570869786541:Unit:=()
def PySem.W.Fast.tw14487689082594158096:Unit:=()
def PySem.W.Fast.tw16212415158872676266:Unit:=()
def PySem.W.Fast.tw12109393284671872198:Unit:=()
def PySem.W.Fast.tw3307201437224026277:Unit:=()
def PySem.W.Fast.tw4853010459149871836:Unit:=()
def PySem.W.Fast.tw13583481222399524996:Unit:=()
def PySem.W.Fast.tw16198338395305808359:Unit:=()
def PySem.W.Fast.tw3643223498552869065:Unit:=()
def PySem.W.Fast.tw12754132036799131983:Unit:=()
def PySem.W.Fast.tw5132356201011641635:Unit:=()
def PySem.W.Fast.tw15653673826820775988:Unit:=()
def PySem.W.Fast.tw8853779483710308134:Unit:=()
def PySem.W.Fast.tw235021533498825122:Unit:=()
def PySem.W.Fast.tw13945033082332228923:Unit:=()
def PySem.W.Fast.tw13774057188358038466:Unit:=()
def PySem.W.Fast.tw7671187333938774897:Unit:=()
def PySem.W.Fast.tw11740620638347998598:Unit:=()
def PySem.W.Fast.tw14196308596884285737:Unit:=()
def PySem.W.Fast.tw15958304045522111475:Unit:=()
def PySem.W.Fast.tw11446455038908215945:Unit:=()
def PySem.W.Fast.tw8427473563314275892:Unit:=()
def PySem.W.Fast.tw7413535494508131770:Unit:=()
def PySem.W.Fast.tw1519318606964872122:Unit:=()
def PySem.W.Fast.tw1157344559537439309:Unit:=()
def PySem.W.Fast.tw18018157883718300267:Unit:=()
def PySem.W.Fast.tw10269526292711122663:Unit:=()
def PySem.W.Fast.tw1246737802701517440:Unit:=()
def PySem.W.Fast.tw10104659969054733346:Unit:=()
def PySem.W.Fast.tw16770101335183569251:Unit:=()
def PySem.W.Fast.tw12724775264223057946:Unit:=()
def PySem.W.Fast.tw9932350974213166732:Unit:=()
def PySem.W.Fast.tw863320354818065678:Unit:=()
def PySem.W.Fast.tw7130168361021298880:Unit:=()
def PySem.W.Fast.tw7909240225737518243:Unit:=()
def PySem.W.Fast.tw4019381757804651023:Unit:=()
def PySem.W.Fast.tw16551967642468684093:Unit:=()
def PySem.W.Fast.tw2592455952986126231:Unit:=()
def PySem.W.Fast.tw3122996793153362815:Unit:=()
def PySem.W.Fast.tw15489449166626152869:Unit:=()
def PySem.W.Fast.tw1011300756805900859:Unit:=()
def PySem.W.Fast.tw7786432464264703741:Unit:=()
def PySem.W.Fast.tw8228556531284867706:Unit:=()
def PySem.W.Fast.tw4352416153726685165:Unit:=()
def PySem.W.Fast.tw18146725092449997432:Unit:=()
def PySem.W.Fast.tw11819614179105922792:Unit:=()
def PySem.W.Fast.tw10462897258550555830:Unit:=()
set_option maxRecDepth 100000 in
set_option maxHeartbeats 0 in
theorem PySem.Challenge.cw_holefloor_k35_whole_holes_as_ties_come_a_holds : PySem.Challenge.rw_holefloor_k35_whole_holes_as_ties_come_a.Holds := by
 w_on;o_law;k_head; (case hw=>w_witness2)
 k_fill
 refine L2.walk_law (k:=8) (x:="_law_script") (l:=PySem.Challenge.rw_holefloor_k35_whole_holes_as_ties_come_a) ⟨rfl,by decide,by decide,rfl⟩ rfl rfl (λw h Y=>PySem.W.kIn_of Y) ?F
 case F=>
  intro w mg fa h KX G hmg;refine' Lw.all_mk KX G hmg ?e1 ?e2 ?e3 ?e4 ?e5 ?e6 ?e7 ?e8 ?e9 ?e10 ?e11 ?e12 ?e13 ?e14 ?e15 ?e16 ?e17 ?e18 ?e19 ?e20 ?e21 ?e22 ?e23 ?e24 ?e25 ?e26 ?e27 ?e28 ?e29 ?e30 ?e31 ?e32 ?e33 ?e34 ?e35 ?e36 ?e37 ?e38 ?e39 ?e40 ?y_MOST_TIES ?z0 ?z1 ?z2 ?z3 ?z4 ?z5 ?z6 ?z7 ?z8 ?z9 ?z10 ?z11 ?z12
  (case y_MOST_TIES=>k_is)
  all_goals first|(refine' Lw.fnE ?a ?l ?c ?k; (case a=>k_is); (case l=>k_is); (case c=>k_is); (case k=>k_is))|k_is

