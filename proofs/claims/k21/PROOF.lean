import PyProof.Rows.All
import Wide.All
import OpenK.AllK
import Wide.FinOn
import Lean
import PyProof.EqAt
import PyProof.EqKinds
import PyProof.TupleCall
import KE.KSortTup
import PyProof.NeKinds
import PyProof.ExcBaseAll.ValueError
import PyProof.ExcArgsOwn
import PyProof.NsDelKeeps
import PyProof.RulesAs
import PyProof.FString
import PyProof.AttrMissSeq
import PyProof.WalksS
import KE.KDictList
import KE.KDictSum
import PyProof.MinMaxWalk
import KE.KMinKey
import PyProof.Rows.CallKwBuiltin
import PyProof.Rows.RuleDivmod
import PyProof.ListMulAny
import PyProof.FactsAll.tuple
import KE.KRevIter
import PyProof.EnumMake
import KE.KMulAny
import PyProof.FactsAll.range
import PySem.Challenge.RW_holefloor_k21_whole_lack
open PySem.Str renaming ofString→oS
open List renaming getElem?_eq_getElem->AQ, length_map->AK, getD_eq_getElem?_getD->Ao, getElem?_map->AZ, getElem?_eq_some_iff->BB, length_cons->Aj, range->AR, length_append->Aw, size_toArray->Az, replicate->Am, mem_map->Af, mem_range->Ax, mem_cons->Ar, mem_cons_of_mem->BQ, map_append->BD, mem_of_getElem?->Bk, getElem?_set_self->Bt, mem_singleton->Bc, length_range->BS, append_assoc->Ba, mem_cons_self->Bh, map_map->A5, getElem?_append_right->CP, getElem?_set_ne->Bx, length_take->Bj, mem_append->Bb, getElem_mem->Br, length_replicate->CJ, mem_filter->Bo, map_cons->BX, append_nil->Bs, getElem?_append_left->Cu, mem_append_right->CV, pairwise_iff_getElem->DF, take_length->B2, length->BN, pairwise_append->Cg, mem_iff_getElem?->Cv, filter_cons->CC, map->A9, length_singleton->DS, eq_nil_of_length_eq_zero->Es, all_eq_true->Ci, getElem?_zip_eq_some->EN, extract_eq_take_drop->EO, pairwise_lt_range->D2, nodup_cons->Ck, filter_append->DT, take_append_drop->D0, tail->Bf, length_drop->DD, filter_congr->DQ, ext_getElem?->DR, length_nil->DE, getElem?_eq_none->EL, flatMap_append->D1, take_add_one->Dl, take_of_length_le->Et, find?_cons->DU, lookup_cons->Dm, map_congr_left->ES, getElem?_range->ET, filter_eq_self->EU, pairwise_map->D6, nodup_append->D7, flatMap_cons->D8, getElem?_drop->EV, length_pos_of_mem->FL, getElem_range->Eu, filter_filter->Ew, getElem?_replicate->Fv, nodup_nil->D9, zip_cons_cons->FH, mem_replicate->FI, getElem?_cons_succ->Gp, not_mem_nil->FN, range_succ->FO, length_set->FP, getElem?_toArray->Gw, mem_iff_getElem->Gx, mem_append_left->Gy, take_zero->FR, map_snd_zip->Fw, getElem_inj->Fx, countP_cons->Fy, replicate_succ->Gz, set_eq_of_length_le->ID, length_erase_of_mem->IE, map_singleton->G7, filter_map->F0, filter_cons_of_pos->IF, any_cons->FT, mapM_toArray->G8, getElem?_set->G9, length_filter_le->H0, cons->EA, nodup_range->Gr, mem_flatMap->Gu, flatMap_nil->Gv, mem_erase_of_ne->IA, getElem_toArray->IB, getElem?_of_mem->IC, dropLast_concat_getLast->J6, filterMap_cons->IP, map_replicate->IS, getElem?_take->IT, reverse_cons->IU, getElem?_take_of_lt->KA, map_id->F4, filter_cons_of_neg->KC, find?_cons_of_neg->KD, perm_append_comm->KG, range'->HB, mem_map_of_mem->KI, length_reverse->KJ, length_pos_iff->KL, getElem_of_mem->KN, zip_nil_right->KO, pairwise_cons->KP, mem_filterMap->KQ, zip_nil_left->J8, flatten_cons->J9, map_nil->IH, all_map->II, perm_middle->KR, isEmpty_nil->KS, all_toArray->KU
open PySem.Heap renaming get?_push_of_some->Au, lt_size->Al, get?_push_size->BP, get?_update_other->EK, get?_update_self->EM, get?_push_ne->Ey, size_update->Fz, get?_update_ne->IQ
open Nat renaming le_refl->AS, ne_of_lt->As, lt_of_lt_of_le->CQ, zero_le->BZ, zero_add->By, lt_succ_of_lt->Cw, le_trans->CW, lt_of_le_of_lt->EW, lt_or_eq_of_le->Ex, mod_eq_of_lt->EX, le_of_lt->DW, not_lt_zero->EY, lt_or_ge->Dk, lt_irrefl->D4, le_of_lt_succ->FK, le_succ->Dq, ne_of_gt->E2, mod_lt->EB, min_eq_left->F2, le_succ_of_le->Gq, sub_zero->F3, lt_trichotomy->IX, add_mod_right->IY, min_self->IJ, lt_trans->IK, le_of_eq->IL, add_zero->IM
open Bool renaming false_eq_true->Av, false_ne_true->BR, and_eq_true->Cj, not_true->DV, false_and->Dn, eq_false_iff->Ez, true_and->D3, and_false->ER, eq_iff_iff->F1, not_false->HA, not_eq_true'->IV, beq_eq_decide_eq->KH, and_comm->IG
open Int renaming toNat_natCast->Bi, emod_lt_of_pos->FJ, zero_add->D5, emod_nonneg->FQ, le_refl->FU
open Option renaming some->BY, getD_some->IW, getD_none->J7
set_option Elab.async false
set_option linter.all false
set_option maxRecDepth 100000
open PySem renaming wpAny_bind -> AA, wpAny_pure -> AH, wpAny_holding -> Bq, wpAny_rule -> DO, wpAny_mono -> Dz, wpAny_attempt -> Ep, wpAny_tryCatch -> Gn
theorem AB {h:Decidable c}(k:¬c):ite c t e=e:=if_neg k
theorem AD {h:Decidable c}(k:c):ite c t e=t:=if_pos k
theorem A1 {h:Decidable p}(k:p):decide p=true:=decide_eq_true k
theorem A7 {h:Decidable p}(k:¬p):decide p=false:=decide_eq_false k
open PySem in
abbrev Ai:=List (Addr × Obj)
open PySem in
abbrev AX:=Value->Shared->Prop
abbrev AW:=List (Int × Int)
abbrev Aa:=List (List Int)
abbrev Bw:=List (Int × List Int)
local macro_rules|`(($a,$b,*))=>`(⟨$a,$b,*⟩)
set_option compiler.extract_closed false
namespace L2
open PySem PySem.Spec PyProof.Rows
abbrev AO:=Sum Int Str
def keyIs:AO->Value->Bool
 |.inl k,v=>Value.isInt k v
 |.inr x,v=>Value.isStrOf x v
def keyH (w:World):AO->Int
 |.inl k=>hashInt k
 |.inr x=>hashStr w x
theorem Ec:∀{k:AO}{v:Value},keyIs k v=true->(∃i t,k=Sum.inl i/\v=Value.int i t)\/(∃x t,k=Sum.inr x/\v=Value.str x t)
 |.inl i,v,h=>by
  obtain⟨t,e⟩:=Value.isInt_shape (k:=i) (v:=v) h;exact .inl (i,t,rfl,e)
 |.inr x,v,h=>by
  obtain⟨t,e⟩:=Value.isStrOf_shape (x:=x) (v:=v) h;exact .inr (x,t,rfl,e)
theorem TB (i:Int) (t:Tok):keyIs (.inl i) (.int i t)=true:=by simp[keyIs,Value.isInt]
theorem SN (x:Str) (t:Tok):keyIs (.inr x) (.str x t)=true:=by simp[keyIs,Value.isStrOf]
theorem Zya (a b:Int):decide ((Sum.inl a:AO)=Sum.inl b)=(a == b):=by
 by_cases e:a=b
 ·subst e;simp
 ·have h:¬ (Sum.inl a:AO)=Sum.inl b:=λq=>e (Sum.inl.inj q)
  rw[A7 h];exact(beq_eq_false_iff_ne.mpr e).symm
theorem Wg (a b:Str):decide ((Sum.inr a:AO)=Sum.inr b)=decide (a=b):=by
 by_cases e:a=b
 ·subst e;simp
 ·have h:¬ (Sum.inr a:AO)=Sum.inr b:=λq=>e (Sum.inr.inj q)
  rw[A7 h,A7 e]
theorem Zyj (a:Int) (b:Str):decide ((Sum.inl a:AO)=Sum.inr b)=false:=A7 λq=>nomatch q
theorem Wi (a:Str) (b:Int):decide ((Sum.inr a:AO)=Sum.inl b)=false:=A7 λq=>nomatch q
def mixKind (prog:Program) (w:World):PySem.KeyKind prog w AO where
 is:=keyIs
 hash:=keyH w
 inj:=λv a b A B=>by
  rcases Ec A with ⟨i,t,rfl,rfl⟩|⟨x,t,rfl,rfl⟩
  ·rcases Ec B with ⟨j,u,rfl,e⟩|⟨y,u,rfl,e⟩
   ·injection e with e1 _;rw[e1]
   ·exact nomatch e
  ·rcases Ec B with ⟨j,u,rfl,e⟩|⟨y,u,rfl,e⟩
   ·exact nomatch e
   ·injection e with e1 _;rw[e1]
 byValue:=λk v h=>by
  rcases Ec h with ⟨i,t,rfl,rfl⟩|⟨x,t,rfl,rfl⟩ <;> rfl
 pyHash:=λV h=>by
  rcases Ec V with ⟨i,t,rfl,rfl⟩|⟨x,t,rfl,rfl⟩
  ·exact wpAny_pyHash_int h
  ·exact wpAny_pyHash_str h
 eqBool:=λU V h=>by
  rcases Ec U with ⟨i,t,rfl,rfl⟩|⟨x,t,rfl,rfl⟩
  ·rcases Ec V with ⟨j,u,rfl,rfl⟩|⟨y,u,rfl,rfl⟩
   ·rw[Zya]at h;exact wpAny_eqBool_int h
   ·rw[Zyj]at h;exact SeqAt.EqAt.int_str i t y u _ _ _ _ h
  ·rcases Ec V with ⟨j,u,rfl,rfl⟩|⟨y,u,rfl,rfl⟩
   ·rw[Wi]at h;exact SeqAt.EqAt.str_int x t j u _ _ _ _ h
   ·rw[Wg]at h;exact wpAny_eqBool_str h
 «strs»:=λk x t v h=>by
  rcases Ec h with ⟨i,u,rfl,e⟩|⟨y,u,rfl,e⟩
  ·exact nomatch e
  ·injection e with e1 _
   subst e1;cases v <;> rfl
theorem RO (prog:Program) (w:World) (i:Int) (t:Tok):(mixKind prog w).is (.inl i) (.int i t)=true:=TB i t
theorem RW (prog:Program) (w:World) (x:Str) (t:Tok):(mixKind prog w).is (.inr x) (.str x t)=true:=SN x t
inductive V where
 |non|bl (b:Bool)|int (i:Int)|str (x:Str)|byt (b:Array UInt8)|flt (b:UInt64)|ref (a:Addr)|ty (n:String)
 deriving DecidableEq
def RelV:V->Value->Prop
 |.non,u=>u=Value.none
 |.bl b,u=>u=Value.bool b
 |.int i,u=>∃t,u=Value.int i t
 |.str x,u=>∃t,u=Value.str x t
 |.byt b,u=>∃t,u=Value.bytes b t
 |.flt b,u=>∃t,u=Value.float b t
 |.ref a,u=>u=Value.ref a
 |.ty n,u=>u=Value.type n
abbrev Vals:List V->List Value->Prop:=Paired RelV
theorem Vals.length (r:Vals xs us):xs.length=us.length:=Paired.length r
theorem Vals.get:∀{xs:List V}{us:List Value}{i:Nat}{x:V},Vals xs us->xs[i]?=some x->∃u,us[i]?=some u/\RelV x u
 |_,_,_,_,.nil,e=>by simp at e
 |_,_,0,_,.cons r _,e=>by simp at e;subst e;exact(_,rfl,r)
 |_,_,i+1,x,.cons _ t,e=>by
  obtain⟨u,h,H⟩:=Vals.get (i:=i) (x:=x) t (by simpa using e);exact(u,by simpa using h,H)
theorem Vals.set (r:RelV x u):∀{xs:List V}{us:List Value}(i:Nat),Vals xs us->Vals (xs.set i x) (us.set i u)
 |_,_,_,.nil=>.nil
 |_,_,0,.cons _ t=>.cons r t
 |_,_,i+1,.cons q t=>.cons q (Vals.set r i t)
theorem Vals.append:∀{xs ys:List V}{us ws:List Value},Vals xs us->Vals ys ws->Vals (xs++ys) (us++ws)
 |_,_,_,_,.nil,s=>s
 |_,_,_,_,.cons r t,s=>.cons r (Vals.append t s)
theorem Vals.take:∀{xs:List V}{us:List Value}(n:Nat),Vals xs us->Vals (xs.take n) (us.take n)
 |_,_,0,_=>.nil
 |_,_,_+1,.nil=>.nil
 |_,_,n+1,.cons r t=>.cons r (Vals.take n t)
theorem Vals.drop:∀{xs:List V}{us:List Value}(n:Nat),Vals xs us->Vals (xs.drop n) (us.drop n)
 |_,_,0,r=>r
 |_,_,_+1,.nil=>.nil
 |_,_,n+1,.cons _ t=>Vals.drop n t
def RelO:Option V->Option Value->Prop
 |some v,some u=>RelV v u
 |none,none=>True
 |_,_=>False
def KV {κ:Type}:List (κ × V)->List (κ × Value)->Prop:=Paired λ(p:κ × V) (q:κ × Value)=>p.1=q.1/\RelV p.2 q.2
def kV:AO->V
 |.inl i=>.int i
 |.inr x=>.str x
inductive HO where
 /-- a list -/
 |lst (xs:List V)
 /-- a tuple (never changes) -/
 |tup (xs:List V)
 /-- a dict whose keys are ints and texts;one whose keys are tuples of ints and texts (the empty one is both) -/
 |dK (kvs:List (AO × V))|dT (kvs:List (List AO × V))
 /-- a set of ints: its members,its size -/
 |set (S:Int->Bool) (n:Nat)
 /-- an instance of the class at C,its dict at dx,its attributes -/
 |ins (C dx:Addr) (fs:List (Str × V))
 /-- the dict of the instance at x -/
 |own (x:Addr)
 /-- the dict of an exception -/
 |xd (fs:List (Str × V))
 /-- a bound method,f of x -/
 |met (f x:Addr)
 /-- a range object lo,lo+1,.. below hi -/
 |rng (lo hi:Int)
 /-- a thing that is known to the object (the script;a dict while a loop walks it): read,never written while it is so -/
 |frz (o:Obj) (u:HO)
 /-- a code object's table -/
 |tbl (ps:Array Value)
 /-- any other thing,by what is true of its one object (a def of one's own: SetO a S n:=HO.ext λh=>..) -/
 |ext (φ:Heap->Prop)
abbrev Hp:=Addr->Option HO
def upd (H:Hp) (a:Addr) (o:HO):Hp:=λb=>if b=a then some o else H b
theorem Bm:upd H a o a=some o:=by unfold upd;rw[AD rfl]
theorem BA (h:b≠a):upd H a o b=H b:=by unfold upd;rw[AB h]
theorem V1:upd (upd H a o) a u=upd H a u:=by
 funext b;unfold upd;split <;> rfl
theorem Zzx {H:Hp}(h:H a=some o) (h':H b=some u) (d:o≠u):a≠b:=by
 intro e;subst e;rw[h]at h';exact d<|BY.inj h'
theorem Dr {H:Hp}(h:H a=some o) (h':H b=none):a≠b:=by
 intro e;subst e;rw[h]at h';cases h'
def IsTupN (h:Heap) (a:Addr) (its:Array Value):Prop:=∃o,h.get? a=some o/\(o.cls=.type "tuple" /\ ∃n,o.data=.seq its n)/\o.dict=none
theorem IsTupN.tup {h:Heap}{a:Addr}{its:Array Value}(x:IsTupN h a its):IsTup h a its:=let ⟨o,e,c,_⟩:=x; (o,e,c)
theorem IsTupN.new (h:Heap) (items:Array Value):IsTupN (h.push { cls:=.type "tuple",data:=.seq items }) h.objs.size items:=(_,BP _ rfl,(rfl,_,rfl),rfl)
section
variable (P:Program) (w:World)
def ObjOk (H:Hp) (h:Heap) (a:Addr):HO->Prop
 |.lst xs=>xs.length<=sizeLine/\∃(its:List Value) (n:Nat),Vals xs its/\h.get? a=some { cls:=.type "list",data:=.seq its.toArray n }
 |.tup xs=>xs.length<=sizeLine/\∃its:List Value,Vals xs its/\IsTupN h a its.toArray
 |.dK kvs=>kvs.length<=sizeLine/\(a == sysModules)=false/\∃vs,KV kvs vs/\h.DictOf (mixKind P w) a vs
 |.dT kvs=>kvs.length<=sizeLine/\(a == sysModules)=false/\∃xs:List (List AO × Addr × Value),
   Paired (λ(p:List AO × V) (q:List AO × Addr × Value)=>p.1=q.1/\H q.2.1=some (.tup<|p.1.map kV)/\RelV p.2 q.2.2) kvs xs /\
   ∃o es ep,h.get? a=some o/\o.ExactDict/\o.data=.dict es ep/\es.toList=xs.map (entryOfKey<|tupleKind<|mixKind P w)/\(xs.map (·.1)).Nodup
 |.set S n=>h.SetOf (intKind P w) a S n
 |.ins C dx fs=>H dx=some (.own a)/\fs.length<=1000/\dx≠a/\h.get? a=some (PySem.W.instObj C dx) /\
   ∃mA,h.Ns1 dx mA/\(∀f,RelO (fs.lookup f) (mA f))/\PySem.Within mA (fs.map (·.1))
 |.own _=>∃o,h.get? a=some o
 |.xd fs=>∃mA,h.Ns1 a mA/\∀f,RelO (fs.lookup f) (mA f)
 |.rng lo hi=>∃t u v,h.get? a=some { cls:=.type "range",data:=.fields #[.int lo t,.int hi u,.int 1 v] }
 |.frz o u=>h.get? a=some o/\ObjOk H h a u
 |.tbl ps=>h.get? a=some { cls:=.none,data:=.fields ps }
 |.met f x=>h.get? a=some (PySem.W.methodObj (.ref f) (.ref x))
 |.ext φ=>φ h/\(∃o,h.get? a=some o)/\∀h1 h2:Heap,φ h1->(∀o,h1.get? a=some o->h2.get? a=some o) -> φ h2
def HOk (H:Hp) (h:Heap):Prop:=∀a o,H a=some o->ObjOk P w H h a o
end
section
variable {P:Program}{w:World}{H H':Hp}{h h':Heap}{a:Addr}{o:HO}
theorem ObjOk.lt (x:ObjOk P w H h a o):a<h.objs.size:=by
 cases o with
 |lst xs=>obtain⟨_,_,_,_,e⟩:=x;exact Al e
 |tup xs=>obtain⟨_,_,_,p⟩:=x;exact p.tup.lt
 |dK kvs=>obtain⟨_,_,_,_,o,_,_,e,_⟩:=x;exact Al e
 |dT kvs=>obtain⟨_,_,_,_,o,_,_,e,_⟩:=x;exact Al e
 |set S n=>obtain⟨o,_,_,_,e,_⟩:=x;exact Al e
 |ins C dx fs=>obtain⟨_,_,_,e,_⟩:=x;exact Al e
 |own y=>obtain⟨_,e⟩:=x;exact Al e
 |xd fs=>obtain⟨_,⟨_,_,_,e,_⟩,_⟩:=x;exact Al e
 |rng lo hi=>obtain⟨_,_,_,e⟩:=x;exact Al e
 |frz ob u=>obtain⟨e,_⟩:=x;exact Al e
 |tbl ps=>exact Al (show h.get? a=some _ from x)
 |met f y=>exact Al (show h.get? a=some _ from x)
 |ext φ=>obtain⟨_,⟨_,e⟩,_⟩:=x;exact Al e
theorem Paired.mapP:∀{l₁:List α}{l₂:List β},Paired F l₁ l₂ -> (∀a b,F a b->G a b)->Paired G l₁ l₂
 |_,_,.nil,_=>.nil
 |_,_,.cons r t,f=>.cons (f _ _ r) (Paired.mapP t f)
theorem ObjOk.stay (x:ObjOk P w H h a o) (k:∀b u,(b=a\/H b=some (.own a))->h.get? b=some u->h'.get? b=some u)
  (ho:∀b,H b=some (.own a)->H' b=some (.own a)) (ht:∀b xs,H b=some (.tup xs)->H' b=some (.tup xs)):ObjOk P w H' h' a o:=by
 induction o with
 |lst xs=>obtain⟨z,i,n,r,e⟩:=x;exact(z,i,n,r,k _ _ (.inl rfl) e)
 |tup xs=>obtain⟨z,i,r,B,e,c⟩:=x;exact(z,i,r,B,k _ _ (.inl rfl) e,c)
 |dK kvs=>obtain⟨z,y,V,r,B,s,E,e,c⟩:=x;exact(z,y,V,r,B,s,E,k _ _ (.inl rfl) e,c)
 |dT kvs=>
  obtain⟨z,y,xs,r,B,s,E,e,c⟩:=x;exact(z,y,xs,Paired.mapP r λp q z=>(z.1,ht _ _ z.2.1,z.2.2),B,s,E,k _ _ (.inl rfl) e,c)
 |set S n=>obtain⟨B,s,E,t,e,c⟩:=x;exact(B,s,E,t,k _ _ (.inl rfl) e,c)
 |ins C dx fs=>
  obtain⟨d,z,ne,e,A,⟨D,s,E,g,c⟩,r⟩:=x;exact(ho _ d,z,ne,k _ _ (.inl rfl) e,A,(D,s,E,k _ _ (.inr d) g,c),r)
 |own y=>obtain⟨B,e⟩:=x;exact(B,k _ _ (.inl rfl) e)
 |xd fs=>obtain⟨A,⟨D,s,E,e,c⟩,r⟩:=x;exact(A,(D,s,E,k _ _ (.inl rfl) e,c),r)
 |rng lo hi=>obtain⟨t,u,v,e⟩:=x;exact(t,u,v,k _ _ (.inl rfl) e)
 |frz B u ih=>obtain⟨e,q⟩:=x;exact(k _ _ (.inl rfl) e,ih q)
 |tbl ps=>
  have e:h.get? a=some { cls:=.none,data:=.fields ps }:=x;show h'.get? a=some { cls:=.none,data:=.fields ps };exact k a _ (.inl rfl) e
 |met f y=>
  have e:h.get? a=some (PySem.W.methodObj (.ref f) (.ref y)):=x;show h'.get? a=some (PySem.W.methodObj (.ref f) (.ref y));exact k a _ (.inl rfl) e
 |ext φ=>obtain⟨p,⟨o,e⟩,T⟩:=x;exact(T _ _ p λo q=>k _ _ (.inl rfl) q,(o,k _ _ (.inl rfl) e),T)
theorem HOk.lt (x:HOk P w H h) (e:H a=some o):a<h.objs.size:=(x a o e).lt
theorem HOk.fresh (x:HOk P w H h) (e:h.objs.size<=a):H a=none:=by
 cases q:H a with
 |none=>rfl
 |some u=>exact absurd (CQ (x.lt q) e) (D4 _)
theorem HOk.kept (x:HOk P w H h) (k:∀b u,h.get? b=some u->h'.get? b=some u):HOk P w H h':=λa o e=>
 (x a o e).stay (λb u _ q=>k b u q) (λ_ q=>q) λ_ _ q=>q
theorem HOk.laid (x:HOk P w H h) (k:∀b u,h.get? b=some u->h'.get? b=some u) (hp:h.objs.size<=a) (new:ObjOk P w (upd H a o) h' a o):HOk P w (upd H a o) h':=λb u e=>by
 have n:=x.fresh hp;by_cases hb:b=a
 ·subst hb;rw[Bm]at e;cases e;exact new
 ·rw[BA hb]at e
  exact(x b u e).stay (λc v _ q=>k c v q) (λc q=>by rw[BA (Dr q n)];exact q) λc s q=>by rw[BA (Dr q n)];exact q
end
def Rd (H:Hp) (a:Addr) (u:HO):Prop:=H a=some u\/∃o,H a=some (.frz o u)
theorem Rd.ok (r:Rd H a u) (x:HOk P w H h):ObjOk P w H h a u:=by
 rcases r with r|⟨o,r⟩
 ·exact x a u r
 ·obtain⟨_,q⟩:=x a _ r
  exact q
def Gj:Option HO->Prop
 |some (.lst _)=>True
 |some (.dK _)=>True
 |some (.dT _)=>True
 |some (.set _ _)=>True
 |some (.ins _ _ _)=>True
 |some (.ext _)=>True
 |_=>False
section
variable {P:Program}{w:World}{H:Hp}{h h':Heap}{x e:Addr}{o':HO}
theorem HOk.write (ok:HOk P w H h) (mu:Gj (H x)) (he:e=x\/H e=some (.own x)) (k:∀b u,b≠e->h.get? b=some u->h'.get? b=some u) (heo:∃u,h'.get? e=some u)
  (new:ObjOk P w (upd H x o') h' x o'):HOk P w (upd H x o') h':=λb u q=>by
 have n:∀c y,H c=some (.own y)->c≠x:=λc y r z=>by subst z;rw[r]at mu;exact mu
 have p:∀c s,H c=some (.tup s)->c≠x:=λc s r z=>by subst z;rw[r]at mu;exact mu
 by_cases hb:b=x
 ·subst hb;rw[Bm]at q;cases q;exact new
 ·rw[BA hb]at q
  by_cases hbe:b=e
  ·have Q:H b=some (.own x):=by
    rcases he with z|z
    ·exact absurd (hbe.trans z) hb
    ·rw[hbe];exact z
   rw[q]at Q;cases Q;obtain⟨v,V⟩:=heo;exact(v,by rw[hbe];exact V)
  ·refine(ok b u q).stay (λc v C r=>k c v ?_ r) (λc r=>by rw[BA (n c b r)];exact r) λc s r=>by rw[BA (p c s r)];exact r
   rcases C with rfl|C
   ·exact hbe
   ·rintro rfl
    rcases he with z|z
    ·exact n c b C z
    ·rw[C]at z;cases z;exact hb rfl
end
structure Un (fs ex:List Addr) (H H':Hp) (h h':Heap):Prop where
 keep:∀b o,h.get? b=some o->H b=none->b ∉ fs->b ∉ ex->h'.get? b=some o
 slot:∀b o,h.get? b=some o->H b=none->b∈fs->b ∉ ex->∃sl,h'.get? b=some { o with slots:=sl }
 free:∀b o,h.get? b=some o->H b=none->b ∉ ex->H' b=none
 there:∀b o,h.get? b=some o->b ∉ ex->∃o',h'.get? b=some o'
 tups:∀b xs,H b=some (.tup xs)->H' b=some (.tup xs)
 frzs:∀b o u,H b=some (.frz o u)->H' b=some (.frz o u)
 tbls:∀b ps,H b=some (.tbl ps)->∃more,H' b=some (.tbl<|ps++more)
section
variable {fs fs' ex ex':List Addr}{H H1 H2:Hp}{h h1 h2 h':Heap}{a x e:Addr}{o:HO}
theorem Un.any (u:Un fs ex H H1 h h1) (q:h.get? b=some ob) (n:H b=none) (hx:b ∉ ex):∃sl,h1.get? b=some { ob with slots:=sl }:=by
 by_cases hb:b∈fs
 ·exact u.slot b ob q n hb hx
 ·exact(ob.slots,u.keep b ob q n hb hx)
theorem Un.kept (k:∀b u,h.get? b=some u->h'.get? b=some u):Un fs ex H H h h':=
 (λb o q _ _ _=>k b o q,λb o q _ _ _=>(o.slots,k b o q),λ_ _ _ n _=>n,λb o q _=>(o,k b o q),λ_ _ q=>q,λ_ _ _ q=>q,λ_ s q=>(#[],by rw[q];simp))
theorem Un.refl:Un fs ex H H h h:=Un.kept λ_ _ q=>q
theorem Un.laid (k:∀b u,h.get? b=some u->h'.get? b=some u) (hp:h.objs.size<=a) (hn:H a=none):Un fs ex H (upd H a o) h h' where
 keep:=λb u q _ _ _=>k b u q
 slot:=λb u q _ _ _=>(u.slots,k b u q)
 free:=λb u q n _=>by rw[BA (As<|CQ (Al q) hp)];exact n
 there:=λb u q _=>(u,k b u q)
 tups:=λb s q=>by rw[BA (Dr q hn)];exact q
 frzs:=λb u s q=>by rw[BA (Dr q hn)];exact q
 tbls:=λb p q=>(#[],by rw[BA (Dr q hn),q];simp)
theorem Un.write (mu:Gj (H x)) (he:e=x\/H e=some (.own x)) (k:∀b u,b≠e->h.get? b=some u->h'.get? b=some u) (heo:∃u,h'.get? e=some u):Un fs ex H (upd H x o) h h':=by
 have X:∀b,H b=none->b≠x:=λb n z=>by subst z;rw[n]at mu;exact mu
 have B:∀b,H b=none->b≠e:=λb n z=>by
  subst z;rcases he with r|r
  ·exact X b n r
  ·rw[n]at r;cases r
 have m:∀b u,H b=some u->¬ Gj (some u)->b≠x:=λb u q M z=>by subst z;rw[q]at mu;exact M mu
 refine(λb u q n _ _=>k b u (B b n) q,λb u q n _ _=>(u.slots,k b u (B b n) q),λb u q n _=>by rw[BA (X b n)];exact n,λb u q _=>?_,
  λb s q=>by rw[BA (m b _ q λz=>z)];exact q,λb u s q=>by rw[BA (m b _ q λz=>z)];exact q,λb p q=>(#[],by rw[BA (m b _ q λz=>z),q];simp))
 by_cases hbe:b=e
 ·subst hbe;exact heo
 ·exact(u,k b u hbe q)
end
def trk (h:Heap) (H:Hp):List Addr:=(AR h.objs.size).filter λa=>(H a).isSome
def hidT (h:Heap) (H:Hp):Heap:=PySem.W.hideAll h<|trk h H
theorem Sz (h:Heap) (H:Hp):(hidT h H).objs.size=h.objs.size:=PySem.W.hideAll_size _ _
theorem Uz (e:h.get? b=some o) (n:H b=none):(hidT h H).get? b=some o:=
 PySem.W.hideAll_get _ e λm=>by
  have q:(H b).isSome=true:=(Bo.mp m).2;rw[n]at q;simp at q
theorem WW (e:(hidT h H).get? b=some o):h.get? b=some o/\H b=none:=by
 have E:h.get? b=some o:=PySem.W.of_hideAll (trk h H) e;refine(E,?_);cases q:H b with
 |none=>rfl
 |some x=>
  have m:b∈trk h H:=Bo.mpr (Ax.mpr<|Al E,by simp[q]);have z:(hidT h H).get? b=none:=PySem.W.hideAll_none (trk h H) m;rw[z]at e;cases e
def allNews (g h:Heap) (L:Addr):Ai:=(AR h.objs.size).filterMap λa=>if a=L\/(g.get? a).isSome=true then none else (h.get? a).map λo=>(a,o)
def rest (g h:Heap) (L d:Addr):Ai:=(allNews g h L).filter λp=>decide<|p.1≠d
structure Mod (K:W.Frag) (mg:Str->Option Value) (base:Heap):Prop where
 kin:K.In base
 glob:base.Ns mainGlobals mg
 blt:∃mb,base.Ns builtinsNs mb/\∀x:Str,x ≠ "__name__" -> mb x=bootBuiltins x
 nolimit:base.NoLimit
structure Cx where
 prog:Program
 w:World
 K:W.Frag
 mg:Str->Option Value
 base:Heap
 A:Around
 N:List Str
 s₀:Shared
 H₀:Hp
 env:Env
 outer:List Env
 stack:List Env
 ex:List Addr
 fn:Str->Bool
 calm:Bool
 pn:Ai
 xe:Value->Shared->Prop
def frs (l:List Env):List Addr:=l.filterMap (·.frame)
abbrev Cx.fs (X:Cx):List Addr:=frs X.outer
def J5 (sc:Scope) (x:Str):Prop:=sc.names.lookup x=some .local\/sc.names.lookup x=some .cell\/sc.names.lookup x=some .free
def Gi (sc:Scope) (x:Str):Prop:=sc.names.lookup x=some .local\/sc.names.lookup x=some .cell
def Look (env:Env) (h:Heap) (m:Str->Option Value) (x:Str) (u:Value):Prop:=
 (env.kindOf x=some .local/\m x=some u)\/((env.kindOf x=some .cell\/env.kindOf x=some .free)/\∃c,env.cells.lookup x=some c/\h.IsCell c (some u))
structure Cx.Ok (X:Cx):Prop where
 mod:Mod X.K X.mg X.base
 kind:X.env.scope.kind=.function
 glob:X.env.globals=mainGlobals
 blt:X.env.builtins=builtinsNs
 above:X.s₀.heap.objs.size<=X.env.locals
 inj:∀x y c,X.env.cells.lookup x=some c->X.env.cells.lookup y=some c->x=y
 has:∀x,(X.env.kindOf x=some .cell\/X.env.kindOf x=some .free)->∃c,X.env.cells.lookup x=some c
 cab:∀x c,X.fn x=true->X.env.cells.lookup x=some c->X.s₀.heap.objs.size<=c
 hd:X.calm=true->X.A.handled=none
 frames:X.A.frames=some X.stack
 stk:X.stack=X.outer\/(X.stack=X.env::X.outer/\X.env.frame=some X.env.locals)
 exf:∀b∈X.ex,b≠X.env.locals/\∀x c,X.env.cells.lookup x=some c->c≠b
 bs:∀b o,X.base.get? b=some o->X.s₀.heap.get? b=some o/\X.H₀ b=none
 bsz:X.base.objs.size<=X.s₀.heap.objs.size
 noex:∀b o,X.base.get? b=some o->b ∉ X.ex
 exfs:∀b∈X.ex,b ∉ X.fs
 funs:X.s₀.heap.FunFrames X.base X.outer
 frf:∀b∈X.fs,X.H₀ b=none
structure AG (X:Cx) (pins:Ai) (Z:List (Option V)) (H:Hp) (s:Shared):Prop where
 ok:X.Ok
 os:s.os=X.s₀.os
 bare:AllBare s.gens
 base:Un X.fs X.ex X.H₀ H X.s₀.heap s.heap
 loc:∃m,s.heap.Ns X.env.locals m/\∀(i:Nat) (x:Str) (v:V),X.N[i]?=some x -> Z[i]?=some (some v)->J5 X.env.scope x->∃u,RelV v u/\Look X.env s.heap m x u
 cell:∀x c,X.env.cells.lookup x=some c->∃v,s.heap.IsCell c v
 free:H X.env.locals=none
 freeC:∀x c,X.env.cells.lookup x=some c->H c=none
 pin:∀p∈X.pn++pins,s.heap.get? p.1=some p.2/\H p.1=none/\p.1≠X.env.locals/\p.1 ∉ X.fs/\∀v,p.2.data≠.cell v
 hok:HOk X.prog X.w H s.heap
 len:Z.length=X.N.length
section
variable {X:Cx}{pins:Ai}{Z:List (Option V)}{H H':Hp}{s:Shared}{h':Heap}
theorem Cx.Ok.nofr (ok:X.Ok) (e:X.base.get? b=some o):b ∉ X.fs:=λh=>by
 have:=(ok.funs.mem h).1;rw[e]at this;cases this
theorem AG.bs (I:AG X pins Z H s):∀b o,X.base.get? b=some o->s.heap.get? b=some o/\H b=none:=λb o e=>
 (I.base.keep b o (I.ok.bs b o e).1 (I.ok.bs b o e).2 (I.ok.nofr e) (I.ok.noex b o e),I.base.free b o (I.ok.bs b o e).1 (I.ok.bs b o e).2 (I.ok.noex b o e))
theorem AG.bk (I:AG X pins Z H s):∀b o,X.base.get? b=some o->s.heap.get? b=some o:=λb o e=>(I.bs b o e).1
theorem AG.mod (I:AG X pins Z H s):Mod X.K X.mg X.base:=I.ok.mod
theorem AG.kIn (I:AG X pins Z H s):X.K.In s.heap:=I.ok.mod.kin.keeps I.bk
theorem AG.lt (I:AG X pins Z H s):X.env.locals<s.heap.objs.size:=let ⟨_,hn,_⟩:=I.loc;hn.lt
theorem AG.sz (I:AG X pins Z H s):X.s₀.heap.objs.size<=s.heap.objs.size:=CW I.ok.above<|DW I.lt
theorem AG.nofs (I:AG X pins Z H s) (h:s.heap.objs.size<=a):a ∉ X.fs:=λb=>by
 obtain⟨_,o,O,_⟩:=I.ok.funs.mem b;exact absurd (CQ (Al O)<|CW I.sz h)<|D4 _
theorem AG.cne (I:AG X pins Z H s):∀x c,X.env.cells.lookup x=some c->c≠X.env.locals:=λx c e z=>by
 obtain⟨v,o,O,D⟩:=I.cell x c e;obtain⟨m,⟨a,S,p,h,d,_⟩,_⟩:=I.loc;rw[z,h]at O;cases O;rw[d]at D;cases D
theorem AG.funs (I:AG X pins Z H s):s.heap.FunFrames X.base X.outer:=by
 have a:∀(l:List Env),(∀b∈frs l,b∈X.fs)->X.s₀.heap.FunFrames X.base l->s.heap.FunFrames X.base l:=by
  intro l
  induction l with
  |nil=>intro _ _;trivial
  |cons env r ih=>
   intro hs hl;obtain⟨k,⟨L,o,f,n,O,d⟩,R⟩:=hl;have h:L∈X.fs:=hs L (by unfold frs;rw[IP,f];exact Bh);obtain⟨S,e⟩:=I.base.slot L o O (I.ok.frf L h) h λz=>I.ok.exfs L z h;exact(k,(L,_,f,n,e,d),ih (λb B=>hs b (by unfold frs;rw[IP,f];exact BQ _ B)) R)
 exact a X.outer (λ_ B=>B) I.ok.funs
theorem AG.stack (I:AG X pins Z H s):s.heap.FunFrames X.base X.stack:=by
 rcases I.ok.stk with e|⟨e,f⟩
 ·rw[e];exact I.funs
 ·rw[e]
  obtain⟨m,n,_⟩:=I.loc;refine .cons (by rw[I.ok.kind];decide) f n ?_ I.funs;exact Heap.get?_none_of_le<|CW I.ok.bsz I.ok.above
theorem AG.stkSub (I:AG X pins Z H s):∀b∈frs X.stack,b∈X.env.locals::X.fs:=λb h=>by
 rcases I.ok.stk with e|⟨e,f⟩
 ·rw[e]at h;exact BQ _ h
 ·rw[e]at h
  unfold frs at h;rw[IP,f]at h;exact h
theorem AG.stkFree (I:AG X pins Z H s):∀b∈frs X.stack,H b=none:=λb h=>by
 rcases Ar.mp (I.stkSub b h) with e|h
 ·rw[e];exact I.free
 ·obtain⟨_,o,O,_⟩:=I.ok.funs.mem h
  exact I.base.free b o O (I.ok.frf b h) λz=>I.ok.exfs b z h
theorem AG.step {g':Array GenState}{t':Nat}{d':Drawn}{ch:List Addr}(I:AG X pins Z H s)
  (hch:∀b∈ch,(b∈X.ex\/X.s₀.heap.objs.size<=b)/\b≠X.env.locals/\(∀x c,X.env.cells.lookup x=some c->c≠b)/\∀p∈X.pn++pins,p.1≠b)
  (keep:∀b o,b≠X.env.locals->b ∉ X.fs->b ∉ ch->s.heap.get? b=some o->H b=none->h'.get? b=some o)
  (slot:∀b o,b≠X.env.locals->b∈X.fs->b ∉ ch->s.heap.get? b=some o->H b=none->∃sl,h'.get? b=some { o with slots:=sl }) (free:∀b o,b ∉ ch->s.heap.get? b=some o->H b=none->H' b=none)
  (there:∀b o,b ∉ ch->s.heap.get? b=some o->∃o',h'.get? b=some o')
  (tups:∀b xs,H b=some (.tup xs)->H' b=some (.tup xs)) (frzs:∀b o u,H b=some (.frz o u)->H' b=some (.frz o u)) (tbls:∀b ps,H b=some (.tbl ps)->∃more,H' b=some (.tbl<|ps++more))
  (ns:∀m,s.heap.Ns X.env.locals m->h'.Ns X.env.locals m) (hok:HOk X.prog X.w H' h') (hg:AllBare g') :
  AG X pins Z H' { s with heap:=h',gens:=g',drawn:=d',toks:=t' }:=by
 have L:∀b o,X.s₀.heap.get? b=some o->b≠X.env.locals:=λb o e=>As<|CQ (Al e) I.ok.above;have N:∀b o,X.s₀.heap.get? b=some o->b ∉ X.ex->b ∉ ch:=λb o e h B=>by
  rcases(hch b B).1 with z|z
  ·exact h z
  ·exact absurd (CQ (Al e) z)<|D4 _
 have K:∀x c,X.env.cells.lookup x=some c->∀v,s.heap.IsCell c v->h'.IsCell c v:=λx c e v Q=>by
  obtain⟨o,O,D⟩:=Q;have C:c ∉ ch:=λz=>(hch c z).2.2.1 x c e rfl;by_cases hc:c∈X.fs
  ·obtain⟨sl,q⟩:=slot c o (I.cne x c e) hc C O (I.freeC x c e)
   exact(_,q,D)
  ·exact(o,keep c o (I.cne x c e) hc C O<|I.freeC x c e,D)
 refine(I.ok,I.os,hg,(λb o e n B h=>?_,λb o e n B h=>?_,λb o e n h=>?_,λb o e h=>?_,λb xs e=>tups b xs<|I.base.tups b xs e,λb o xs e=>frzs b o xs<|I.base.frzs b o xs e,λb ps e=>?_),?_,λx c e=>?_,?_,λx c e=>?_,λp P=>?_,hok,I.len)
 ·exact keep b o (L b o e) B (N b o e h) (I.base.keep b o e n B h)<|I.base.free b o e n h
 ·obtain⟨sl,E⟩:=I.base.slot b o e n B h
  obtain⟨S,a⟩:=slot b _ (L b o e) B (N b o e h) E<|I.base.free b o e n h;exact(S,a)
 ·obtain⟨o',E⟩:=I.base.there b o e h
  exact free b o' (N b o e h) E<|I.base.free b o e n h
 ·obtain⟨o',E⟩:=I.base.there b o e h
  exact there b o' (N b o e h) E
 ·obtain⟨M,E⟩:=I.base.tbls b ps e
  obtain⟨y,a⟩:=tbls b _ E;exact(M++y,by rw[a,Array.append_assoc])
 ·obtain⟨m,t,j⟩:=I.loc
  refine(m,ns m t,λi x v E a g=>?_);obtain⟨u,r,l⟩:=j i x v E a g;refine(u,r,?_);rcases l with l|⟨k,c,e,z⟩
  ·exact .inl l
  ·exact .inr (k,c,e,K x c e _ z)
 ·obtain⟨v,z⟩:=I.cell x c e
  exact(v,K x c e v z)
 ·obtain⟨m,⟨o,_,_,O,_⟩,_⟩:=I.loc
  exact free _ o (λz=>(hch _ z).2.1 rfl) O I.free
 ·obtain⟨v,o,O,D⟩:=I.cell x c e
  exact free c o (λz=>(hch c z).2.2.1 x c e rfl) O<|I.freeC x c e
 ·obtain⟨e,n,ne,f,d⟩:=I.pin p P
  have C:p.1 ∉ ch:=λz=>(hch p.1 z).2.2.2 p P rfl;exact(keep p.1 p.2 ne f C e n,free p.1 p.2 C e n,ne,f,d)
theorem AG.un (I:AG X pins Z H s) (u:Un X.fs [] H H' s.heap h') (hok:HOk X.prog X.w H' h'):AG X pins Z H' { s with heap:=h',toks:=t' }:=by
 obtain⟨m,⟨o,E,P,O,r⟩,_⟩:=id I.loc;obtain⟨l,L⟩:=u.any O I.free (by simp);exact I.step (g':=s.gens) (d':=s.drawn) (ch:=[]) (λ_ z=>nomatch z) (λb o _ B _ e n=>u.keep b o e n B (by simp)) (λb o _ B _ e n=>u.slot b o e n B (by simp)) (λb o _ e n=>u.free b o e n (by simp)) (λb o _ e=>u.there b o e (by simp)) u.tups u.frzs u.tbls (λa M=>by
  obtain⟨c,S,p,h,R⟩:=M;rw[O]at h;cases h;exact(_,S,p,L,R)) hok I.bare
theorem AG.call {g':Array GenState}{t':Nat}{d':Drawn}{ch:List Addr}(I:AG X pins Z H s) (u:Un (frs X.stack) ch H H' s.heap h') (hok:HOk X.prog X.w H' h') (hg:AllBare g')
  (hch:∀b∈ch,(b∈X.ex\/X.s₀.heap.objs.size<=b)/\b≠X.env.locals/\(∀x c,X.env.cells.lookup x=some c->c≠b)/\∀p∈X.pn++pins,p.1≠b) :
  AG X pins Z H' { s with heap:=h',gens:=g',drawn:=d',toks:=t' }:=by
 obtain⟨m,⟨o,d,E,a,r⟩,_⟩:=id I.loc;obtain⟨l,L⟩:=u.any a I.free λz=>(hch _ z).2.1 rfl;exact I.step (ch:=ch) hch (λb o L B h e n=>u.keep b o e n (λz=>(Ar.mp (I.stkSub b z)).elim L B) h) (λb o _ _ h e n=>u.any e n h) (λb o h e n=>u.free b o e n h) (λb o h e=>u.there b o e h) u.tups u.frzs u.tbls (λf M=>by
  obtain⟨g,S,P,O,R⟩:=M;rw[a]at O;cases O;exact(_,S,P,L,R)) hok hg
theorem AG.turned (I:AG X pins Z H s) (k:∀b o,b≠it->s.heap.get? b=some o->h'.get? b=some o) (hn:H it=none) (hL:it≠X.env.locals)
  (h1:it∈X.ex\/X.s₀.heap.objs.size<=it) (h2:∀x c,X.env.cells.lookup x=some c->c≠it) (h3:∀p∈X.pn++pins,p.1≠it):AG X pins Z H { s with heap:=h',toks:=t' }:=by
 have t:∀b u,H b=some u->b≠it:=λb u e z=>by rw[z,hn]at e;cases e
 refine I.step (g':=s.gens) (d':=s.drawn) (ch:=[it]) (λb B=>?_) (λb o _ _ h e _=>k b o (λz=>h (by simp[z])) e) (λb o _ _ h e _=>(o.slots,k b o (λz=>h (by simp[z])) e)) (λ_ _ _ _ n=>n)
  (λb o h e=>(o,k b o (λz=>h (by simp[z])) e)) (λ_ _ e=>e) (λ_ _ _ e=>e) (λb a e=>(#[],by rw[e];simp)) (λm M=>?_) (λb u e=>?_) I.bare
 ·have e:b=it:=by simpa using B
  subst e;exact(h1,hL,h2,h3)
 ·obtain⟨o,S,P,O,r⟩:=M
  exact(o,S,P,k _ o (Ne.symm hL) O,r)
 ·refine(I.hok b u e).stay (λc v h q=>k c v ?_ q) (λ_ q=>q) λ_ _ q=>q
  rcases h with z|z
  ·rw[z];exact t b u e
  ·exact t c _ z
theorem AG.tok (I:AG X pins Z H s) (t:Nat):AG X pins Z H { s with toks:=t }:=I.un (h':=s.heap) (t':=t) Un.refl I.hok
theorem AG.kept (I:AG X pins Z H s) (k:∀b u,s.heap.get? b=some u->h'.get? b=some u):AG X pins Z H { s with heap:=h',toks:=t' }:=I.un (Un.kept k)<|I.hok.kept k
theorem AG.laid {a:Addr}{o:HO}{t':Nat}(I:AG X pins Z H s) (k:∀b u,s.heap.get? b=some u->h'.get? b=some u) (hp:s.heap.objs.size<=a) (new:ObjOk X.prog X.w (upd H a o) h' a o) :
  AG X pins Z (upd H a o) { s with heap:=h',toks:=t' }:=I.un (Un.laid k hp<|I.hok.fresh hp)<|I.hok.laid k hp new
theorem AG.write (I:AG X pins Z H s) (mu:Gj (H x)) (he:e=x\/H e=some (.own x)) (k:∀b u,b≠e->s.heap.get? b=some u->h'.get? b=some u) (heo:∃u,h'.get? e=some u)
  (new:ObjOk X.prog X.w (upd H x o) h' x o):AG X pins Z (upd H x o) { s with heap:=h',toks:=t' }:=I.un (Un.write mu he k heo)<|I.hok.write mu he k heo new
theorem AG.pins_of (I:AG X pins Z H s) (h:∀p∈pins',s.heap.get? p.1=some p.2/\H p.1=none/\p.1≠X.env.locals/\p.1 ∉ X.fs/\∀v,p.2.data≠.cell v):AG X pins' Z H s:=
 (I.ok,I.os,I.bare,I.base,I.loc,I.cell,I.free,I.freeC,λp P=>(Bb.mp P).elim (λz=>I.pin p<|Gy _ z) (h p),I.hok,I.len)
theorem Oc {N:List Str}(hN:N.Nodup) {i j:Nat}(a:N[i]?=some x) (b:N[j]?=some x):i=j:=by
 obtain⟨h,e⟩:=BB.mp a;obtain⟨H,E⟩:=BB.mp b;exact(Fx hN).mp (e.trans E.symm)
theorem Nn (I:AG X pins Z H s) (hN:X.N.Nodup) (hi:X.N[i]?=some x) (hx:Gi X.env.scope x) (r:RelV v u)
  (h:∀s',AG X pins (Z.set i<|some v) H s' -> (∃a,Heap.SameBut a s.heap s'.heap/\(a=X.env.locals\/X.env.cells.lookup x=some a))->Q () s') (hf:X.fn x=true\/X.env.scope.names.lookup x=some .local:=by first|exact .inl rfl|exact .inr rfl|assumption):wpAny M A (storeName X.env x u) Q E s:=by
 obtain⟨m,V,hl⟩:=id I.loc;have L:(X.env.scope.kind == .class || (X.env.scope.kind == .module && X.env.locals != X.env.globals))=false:=by rw[I.ok.kind];rfl
 have J:i < Z.length:=by rw[I.len];exact(BB.mp hi).1
 have l:=I.cne;have t:∀{a:Addr}{D:Heap},(∃o,s.heap.get? a=some o/\H a=none)->Heap.SameBut a s.heap D -> HOk X.prog X.w H D:=λ{a D} ha S b ob e=>by
  obtain⟨_,_,R⟩:=ha;refine(I.hok b ob e).stay (λc W C q=>(S.2 c ?_).trans q) (λ_ q=>q) λ_ _ q=>q;rintro rfl;rcases C with rfl|C
  ·rw[R]at e;cases e
  ·rw[R]at C;cases C
 rcases hx with K|K
 ·refine wpAny_storeName_local K V (λD Y S=>?_) L
  obtain⟨oL,_,_,a0,_⟩:=id V;refine h _ (I.ok,I.os,I.bare,(λb o e n B hx=>?_,λb o e n B hx=>?_,I.base.free,λb o e hx=>?_,I.base.tups,I.base.frzs,I.base.tbls),(_,Y,λj y v' f g U=>?_),λy c e=>?_,I.free,I.freeC,λp hp=>?_,t (oL,a0,I.free) S,by simpa using I.len) (_,S,.inl rfl)
  ·exact(S.2 b<|As<|CQ (Al e) I.ok.above).trans (I.base.keep b o e n B hx)
  ·obtain⟨sl,f⟩:=I.base.slot b o e n B hx
   exact(sl,(S.2 b<|As<|CQ (Al e) I.ok.above).trans f)
  ·obtain⟨o',f⟩:=I.base.there b o e hx
   exact(o',(S.2 b<|As<|CQ (Al e) I.ok.above).trans f)
  ·by_cases hj:j=i
   ·subst hj
    rw[hi]at f;cases f;rw[Bt J]at g;cases g;exact(u,r,.inl (K,by simp))
   ·rw[Bx (Ne.symm hj)]at g
    obtain⟨u',r',q⟩:=hl j y v' f g U;refine(u',r',?_);rcases q with ⟨k,e⟩|⟨k,c,e,z⟩
    ·refine .inl (k,?_)
     have:y≠x:=λe=>hj<|Oc hN f (e ▸ hi);simp[this,e]
    ·exact .inr (k,c,e,z.sameBut S<|l y c e)
  ·obtain⟨W,z⟩:=I.cell y c e
   exact(W,z.sameBut S<|l y c e)
  ·obtain⟨e,n,ne,nf,d⟩:=I.pin p hp
   exact((S.2 p.1 ne).trans e,n,ne,nf,d)
 ·have F:X.fn x=true:=by
   rcases hf with z|z
   ·exact z
   ·rw[z]at K;cases K
  obtain⟨c,C⟩:=I.ok.has x (.inl K);obtain⟨W,z⟩:=I.cell x c C;refine wpAny_storeName_cell I.ok.kind K C z λD G S=>?_;obtain⟨oc,O,P⟩:=id z;refine h { s with heap:=D } (I.ok,I.os,I.bare,(λb o e n B hx=>?_,λb o e n B hx=>?_,I.base.free,λb o e hx=>?_,I.base.tups,I.base.frzs,I.base.tbls),(m,V.sameBut S<|Ne.symm<|l x c C,λj y v' f g U=>?_),λy T e=>?_,I.free,I.freeC,λp hp=>?_,t (oc,O,I.freeC x c C) S,by simpa using I.len) (c,S,.inr C)
  ·exact(S.2 b<|As<|CQ (Al e)<|I.ok.cab x c F C).trans (I.base.keep b o e n B hx)
  ·obtain⟨sl,f⟩:=I.base.slot b o e n B hx
   exact(sl,(S.2 b<|As<|CQ (Al e)<|I.ok.cab x c F C).trans f)
  ·obtain⟨o',f⟩:=I.base.there b o e hx
   exact(o',(S.2 b<|As<|CQ (Al e)<|I.ok.cab x c F C).trans f)
  ·by_cases hj:j=i
   ·subst hj
    rw[hi]at f;cases f;rw[Bt J]at g;cases g;exact(u,r,.inr (.inl K,c,C,G))
   ·rw[Bx (Ne.symm hj)]at g
    obtain⟨u',r',q⟩:=hl j y v' f g U;refine(u',r',?_);rcases q with q|⟨k,T,e,z'⟩
    ·exact .inl q
    ·refine .inr (k,T,e,z'.sameBut S ?_)
     rintro rfl;exact hj<|Oc hN f (I.ok.inj _ _ _ e C ▸ hi)
  ·by_cases hcc:T=c
   ·subst hcc;exact(_,G)
   ·obtain⟨w2,z2⟩:=I.cell y T e
    exact(w2,z2.sameBut S hcc)
  ·obtain⟨e,n,ne,nf,d⟩:=I.pin p hp
   refine((S.2 p.1 ?_).trans e,n,ne,nf,d);intro q;rw[q,O]at e;have q':oc=p.2:=BY.inj e;exact d W (by rw[<- q'];exact P)
theorem JH (I:AG X pins Z H s) (hN:X.N.Nodup) (hi:X.N[i]?=some x) (hx:Gi X.env.scope x) (r:RelV v u)
  (h:∀s',AG X pins (Z.set i<|some v) H s' -> Q () s') (hf:X.fn x=true\/X.env.scope.names.lookup x=some .local:=by first|exact .inl rfl|exact .inr rfl|assumption):wpAny M A (storeName X.env x u) Q E s:=
 Nn I hN hi hx r (λs' a _=>h s' a) hf
theorem AG.call' (I:AG X pins Z H s) (ho:s'.os=s.os) (u:Un (frs X.stack) ch H H' s.heap s'.heap) (hok:HOk X.prog X.w H' s'.heap) (hg:AllBare s'.gens)
  (hch:∀b∈ch,(b∈X.ex\/X.s₀.heap.objs.size<=b)/\b≠X.env.locals/\(∀x c,X.env.cells.lookup x=some c->c≠b)/\∀p∈X.pn++pins,p.1≠b):AG X pins Z H' s':=by
 obtain⟨h,g',d',t',o⟩:=s';have e:o=s.os:=ho;subst e;exact I.call (g':=g') (t':=t') (d':=d') u hok hg hch
end
abbrev XK:=Value->Option Addr->Hp->Prop
abbrev St:=List<|Option V
abbrev VK:=V->Hp->Prop
abbrev TE:=St->Hp->VK->Prop
abbrev TT:=St->Hp->(Bool->Hp->Prop)->Prop
abbrev TA:=St->Hp->(List V->Hp->Prop)->Prop
structure Ends where
 nx:St->Hp->Prop
 rt:VK
 bk:St->Hp->Prop:=λ_ _=>False
 ct:St->Hp->Prop:=λ_ _=>False
abbrev TS:=Ends->St->Hp->Prop
def EP (X:Cx) (pins:Ai) (Z:St) (Q:VK) (u:Value) (s':Shared):Prop:=∃v H',AG X pins Z H' s' /\ RelV v u/\Q v H'
def TP (X:Cx) (pins:Ai) (Z:St) (Q:Bool->Hp->Prop) (b:Bool) (s':Shared):Prop:=∃H',AG X pins Z H' s' /\ Q b H'
def AP (X:Cx) (pins:Ai) (Z:St) (Q:List V->Hp->Prop) (us:List Value) (s':Shared):Prop:=∃vs H',AG X pins Z H' s' /\ Vals vs us/\Q vs H'
def SP (X:Cx) (pins:Ai) (D:Ends) (f:Flow) (s':Shared):Prop:=
 match f with
 |.next=>∃Z' H',AG X pins Z' H' s' /\ D.nx Z' H'
 |.brk=>∃Z' H',AG X pins Z' H' s' /\ D.bk Z' H'
 |.cont=>∃Z' H',AG X pins Z' H' s' /\ D.ct Z' H'
 |.ret u=>∃v Z' H',AG X pins Z' H' s' /\ RelV v u/\D.rt v H'
def PE (X:Cx) (e:Expr) (t:TE):Prop:=
 ∀(pins:Ai) (s:Shared) (Z:St) (H:Hp) (Q:VK),AG X pins Z H s->t Z H Q->wpAny (model X.prog X.w) X.A (eval e X.env) (EP X pins Z Q) X.xe s
def PT (X:Cx) (e:Expr) (t:TT):Prop:=
 ∀(pins:Ai) (s:Shared) (Z:St) (H:Hp) (Q:Bool->Hp->Prop),AG X pins Z H s->t Z H Q->wpAny (model X.prog X.w) X.A (isTrue e X.env<|eval e X.env) (TP X pins Z Q) X.xe s
def PW (X:Cx) (e:Expr) (t:TT):Prop:=
 ∀(whole:Sem Value) (pins:Ai) (s:Shared) (Z:St) (H:Hp) (Q:Bool->Hp->Prop),AG X pins Z H s->t Z H Q->wpAny (model X.prog X.w) X.A (isTrue e X.env whole) (TP X pins Z Q) X.xe s
theorem PW.pt (h:PW X e t):PT X e t:=h _
def PA (X:Cx) (es:List Expr) (t:TA):Prop:=
 ∀(pos:Pos) (pins:Ai) (s:Shared) (Z:St) (H:Hp) (Q:List V->Hp->Prop),AG X pins Z H s->t Z H Q->wpAny (model X.prog X.w) X.A (spliced<|backTo pos<|starEach es X.env) (AP X pins Z Q) X.xe s
def PS (X:Cx) (st:Stmt) (t:TS):Prop:=
 ∀(pins:Ai) (s:Shared) (Z:St) (H:Hp) (D:Ends),AG X pins Z H s->t D Z H->wpAny (model X.prog X.w) X.A (exec st X.env) (SP X pins D) X.xe s
def PSs (X:Cx) (st:List Stmt) (t:TS):Prop:=
 ∀(pins:Ai) (s:Shared) (Z:St) (H:Hp) (D:Ends),AG X pins Z H s->t D Z H->wpAny (model X.prog X.w) X.A (execs st X.env) (SP X pins D) X.xe s
theorem thn (h:wpAny M A t Q E s) (hQ:∀a s,Q a s->Q' a s):wpAny M A t Q' E s:=Dz h hQ λ_ _ x=>x
section
variable {X:Cx}
def tVar (i:Nat):TE:=λZ H Q=>∃v,Z[i]?=some (some v)/\Q v H
def tC (v:V):TE:=λ_ H Q=>Q v H
theorem Zye (hN:X.N[i]?=some x) (hv:J5 X.env.scope x) (hd:(x == ("__debug__":Str))=false:=by decide) (hcd:(x == ("__classdict__":Str))=false:=by decide):PE X (.Name x pos) (tVar i):=by
 intro pins s Z H Q I h;obtain⟨v,e,h⟩:=h;obtain⟨m,b,a⟩:=I.loc;obtain⟨u,r,l⟩:=a i x v hN e hv;have n:EP X pins Z Q u s:=(v,H,I,r,h);rcases l with ⟨k,M⟩|⟨k,c,C,L⟩
 ·exact wpAny_Name (wpAny_loadName_local I.ok.kind k b M n) hd
 ·rcases k with k|k
  ·exact wpAny_Name (wpAny_loadName_cell I.ok.kind k C L n) hd
  ·exact wpAny_Name (wpAny_loadName_free I.ok.kind k C L n hcd) hd
theorem AN {i j pos}:PE X (.Constant (.int i) j pos) (tC (.int i)):=λ_ _ _ H _ I h=>wpAny_Constant_int (.int i,H,I.tok _,(_,rfl),h)
theorem Fq {b j pos}:PE X (.Constant (.bool b) j pos) (tC (.bl b)):=λ_ _ _ H _ I h=>Constant_bool (.bl b,H,I,rfl,h)
def Gl (X:Cx) (x:Str):Prop:=X.env.kindOf x=some .globalImplicit
theorem Vo (I:AG X pins Z H s) (hg:Gl X x) (hm:X.mg x=some u) (h:Q u s)
  (hd:(x == ("__debug__":Str))=false:=by decide):wpAny (model X.prog X.w) X.A (eval (.Name x pos) X.env) Q E s:=
 Calls.Name_function_global I.ok.kind hg (Calls.loadGlobal_global (by rw[I.ok.glob];exact I.mod.glob.keeps I.bk) hm h) hd
theorem Ej (I:AG X pins Z H s) (hg:Gl X x) (hm:X.mg x=none) (hv:bootBuiltins x=some u) (h:Q u s)
  (hn:x ≠ "__name__":=by decide) (hd:(x == ("__debug__":Str))=false:=by decide):wpAny (model X.prog X.w) X.A (eval (.Name x pos) X.env) Q E s:=by
 obtain⟨m,a,b⟩:=I.mod.blt;exact Calls.Name_function_global I.ok.kind hg (Calls.loadGlobal_builtin (by rw[I.ok.glob];exact I.mod.glob.keeps I.bk) hm (by rw[I.ok.blt];exact a.keeps I.bk) ((b x hn).trans hv) h) hd
theorem Hk (hg:Gl X x) (hm:X.mg x=none) (hv:bootBuiltins x=some u) (r:RelV v u) (hn:x ≠ "__name__":=by decide) (hd:(x == ("__debug__":Str))=false:=by decide):PE X (.Name x pos) (tC v):=
 λ_ _ _ H _ I h=>Ej I hg hm hv (v,H,I,r,h) hn hd
variable {a b:Expr}{ta tb:TE}{pos:Pos}
variable {tA tB':TT}{rest:List Expr}
def tAnd (t u:TT):TT:=λZ H Q=>t Z H λc h=>if c=true then u Z h Q else Q false h
def tOr (t u:TT):TT:=λZ H Q=>t Z H λc h=>if c=true then Q true h else u Z h Q
def tNot (t:TT):TT:=λZ H Q=>t Z H λc h=>Q (!c) h
theorem pw_and1 (ha:PT X a tA):PW X (.BoolOp .And [a] pos) tA:=by
 intro wh pins s Z H Q I h;refine isTrue_and (thn (ha pins s Z H Q I h) λc S e=>?_);cases c with
 |true=>exact isTrue_and_nil e
 |false=>exact e
theorem pw_or1 (ha:PT X a tA):PW X (.BoolOp .Or [a] pos) tA:=by
 intro wh pins s Z H Q I h;refine isTrue_or (thn (ha pins s Z H Q I h) λc S e=>?_);cases c with
 |false=>exact isTrue_or_nil e
 |true=>exact e
theorem pw_and (ha:PT X a tA) (hb:PW X (.BoolOp .And (b::rest) pos) tB'):PW X (.BoolOp .And (a::b::rest) pos) (tAnd tA tB'):=by
 intro wh pins s Z H Q I h;refine isTrue_and (thn (ha pins s Z H _ I h) λc s1 (H1,I1,q1)=>?_);cases c with
 |true=>exact hb wh pins s1 Z H1 Q I1 q1
 |false=>exact(H1,I1,q1)
theorem pw_or (ha:PT X a tA) (hb:PW X (.BoolOp .Or (b::rest) pos) tB'):PW X (.BoolOp .Or (a::b::rest) pos) (tOr tA tB'):=by
 intro wh pins s Z H Q I h;refine isTrue_or (thn (ha pins s Z H _ I h) λc s1 (H1,I1,q1)=>?_);cases c with
 |true=>exact(H1,I1,q1)
 |false=>exact hb wh pins s1 Z H1 Q I1 q1
theorem Fn (ha:PT X a tA):PT X (.UnaryOp .Not a pos) (tNot tA):=by
 intro pins s Z H Q I h;exact isTrue_not<|ha pins s Z H (λc b=>Q (!c) b) I h
def tAndV (ta tb:TE):TE:=λZ H Q=>ta Z H λx h=>∃c,x=.bl c/\if c=true then tb Z h Q else Q (.bl false) h
def tOrV (ta tb:TE):TE:=λZ H Q=>ta Z H λx h=>∃c,x=.bl c/\if c=true then Q (.bl true) h else tb Z h Q
def tNotV (ta:TE):TE:=λZ H Q=>ta Z H λx h=>∃c,x=.bl c/\Q (.bl (!c)) h
theorem Jm {op} (h:PE X a t):PE X (.BoolOp op [a] pos) t:=λn s Z H Q I w=>BoolOp_one<|h n s Z H Q I w
theorem Hn (ha:PE X a ta) (hb:PE X (.BoolOp .And (b::rest) pos) tb):PE X (.BoolOp .And (a::b::rest) pos) (tAndV ta tb):=by
 intro pins s Z H Q I h;refine BoolOp_and (thn (ha pins s Z H _ I h) λv s1 (x,H1,I1,r1,q)=>?_);obtain⟨c,rfl,q⟩:=q;cases r1;refine wpAny_truthy_bool ?_;cases c with
 |true=>exact hb pins s1 Z H1 Q I1 q
 |false=>exact(.bl false,H1,I1,rfl,q)
theorem Zzb (ha:PE X a ta):PE X (.UnaryOp .Not a pos) (tNotV ta):=by
 intro pins s Z H Q I h;refine UnaryOp_ (thn (ha pins s Z H _ I h) λv s1 (x,H1,I1,r1,q)=>?_);obtain⟨c,rfl,q⟩:=q;cases r1;exact not_of<|wpAny_truthy_bool (.bl (!c),H1,I1,rfl,q)
def tIf (t:TT) (ta tb:TE):TE:=λZ H Q=>t Z H λc h=>if c=true then ta Z h Q else tb Z h Q
theorem OO (hc:PT X c tA) (ha:PE X a ta) (hb:PE X b tb):PE X (.IfExp c a b pos) (tIf tA ta tb):=by
 intro pins s Z H Q I h;refine wpAny_IfExp (thn (hc pins s Z H _ I h) λd s1 (H1,I1,q1)=>?_);cases d with
 |true=>exact ha pins s1 Z H1 Q I1 q1
 |false=>exact hb pins s1 Z H1 Q I1 q1
end
def SqL (K:W.Frag) (H:Hp) (a:Addr) (xs:List V):Prop:=
 Rd H a (.lst xs) \/
  ∃(o:Obj) (its:Array Value) (n:Nat),K.lookup a=some o/\o.cls=.type "list" /\ o.dict=none/\o.data=.seq its n/\its.size<=sizeLine/\Vals xs its.toList
def SqT (K:W.Frag) (H:Hp) (a:Addr) (xs:List V):Prop:=
 Rd H a (.tup xs) \/
  ∃(o:Obj) (its:Array Value) (n:Nat),K.lookup a=some o/\o.cls=.type "tuple" /\ o.data=.seq its n/\its.size<=sizeLine/\Vals xs its.toList
def absV:Value->Option V
 |.none=>some .non
 |.bool b=>some (.bl b)
 |.int i _=>some (.int i)
 |.str x _=>some (.str x)
 |.bytes b _=>some (.byt b)
 |.float b _=>some (.flt b)
 |.ref a=>some (.ref a)
 |.type n=>some (.ty n)
 |_=>none
theorem RelV.abs (r:RelV x u):absV u=some x:=by
 cases x with
 |non=>cases r;rfl
 |bl _=>cases r;rfl
 |int _=>obtain⟨t,rfl⟩:=r;rfl
 |str _=>obtain⟨t,rfl⟩:=r;rfl
 |byt _=>obtain⟨t,rfl⟩:=r;rfl
 |flt _=>obtain⟨t,rfl⟩:=r;rfl
 |ref _=>cases r;rfl
 |ty _=>cases r;rfl
theorem RelV.inj (r:RelV x u) (q:RelV y u):x=y:=BY.inj<|r.abs.symm.trans q.abs
theorem Vals.inj:∀{xs ys:List V}{us:List Value},Vals xs us->Vals ys us->xs=ys
 |_,_,_,.nil,.nil=>rfl
 |_,_,_,.cons r t,.cons r' t'=>by rw[r.inj r',Vals.inj t t']
section
variable {X:Cx}{pins:Ai}{Z:St}{H:Hp}{s:Shared}{a:Addr}{xs ys:List V}
theorem SqL.of {K:W.Frag}(h:H a=some (.lst xs)):SqL K H a xs:=.inl (.inl h)
theorem SqT.of {K:W.Frag}(h:H a=some (.tup xs)):SqT K H a xs:=.inl (.inl h)
theorem AG.list (I:AG X pins Z H s) (h:SqL X.K H a xs):∃its:List Value,Vals xs its/\PlainL s.heap a its.toArray/\xs.length<=sizeLine:=by
 rcases h with h|⟨o,its,n,k,c,d,S,b,r⟩
 ·obtain⟨z,its,n,r,e⟩:=h.ok I.hok
  exact(its,r,(_,n,e,rfl,rfl,rfl),z)
 ·refine(its.toList,r,(o,n,I.kIn a o k,c,d,by simpa using S),?_)
  have e:=r.length;simp only[Array.length_toList]at e;lia
theorem AG.tuple (I:AG X pins Z H s) (h:SqT X.K H a xs):∃its:List Value,Vals xs its/\IsTup s.heap a its.toArray/\xs.length<=sizeLine:=by
 rcases h with h|⟨o,its,n,k,c,S,b,r⟩
 ·obtain⟨z,its,r,p⟩:=h.ok I.hok
  exact(its,r,p.tup,z)
 ·refine(its.toList,r,(o,I.kIn a o k,c,n,by simpa using S),?_)
  have e:=r.length;simp only[Array.length_toList]at e;omega
theorem AG.list_inj (I:AG X pins Z H s) (h:SqL X.K H a xs) (h':SqL X.K H a ys):xs=ys:=by
 obtain⟨i,r,⟨o,n,e,_,_,d⟩,_⟩:=I.list h;obtain⟨t,R,⟨O,N,E,_,_,D⟩,_⟩:=I.list h';rw[e]at E;cases E;rw[d]at D;injection D with d1 _
 have:i=t:=by simpa using congrArg Array.toList d1
 subst this;exact r.inj R
theorem AG.tuple_inj (I:AG X pins Z H s) (h:SqT X.K H a xs) (h':SqT X.K H a ys):xs=ys:=by
 obtain⟨i,r,⟨o,e,_,n,d⟩,_⟩:=I.tuple h;obtain⟨t,R,⟨O,E,_,N,D⟩,_⟩:=I.tuple h';rw[e]at E;cases E;rw[d]at D;injection D with d1 _
 have:i=t:=by simpa using congrArg Array.toList d1
 subst this;exact r.inj R
end
abbrev Cx.wish (X:Cx) (E:AX):Cx:={ X with xe:=E }
abbrev Cx.nox (X:Cx):Cx:=X.wish λ_ _=>False
theorem Cx.Ok.wish {X:Cx}(ok:X.Ok) (E:AX):(X.wish E).Ok:=
 (ok.mod,ok.kind,ok.glob,ok.blt,ok.above,ok.inj,ok.has,ok.cab,ok.hd,ok.frames,ok.stk,ok.exf,ok.bs,ok.bsz,ok.noex,ok.exfs,ok.funs,ok.frf)
theorem Cx.Ok.unwish {X:Cx}(ok:(X.wish E).Ok):X.Ok:=
 (ok.mod,ok.kind,ok.glob,ok.blt,ok.above,ok.inj,ok.has,ok.cab,ok.hd,ok.frames,ok.stk,ok.exf,ok.bs,ok.bsz,ok.noex,ok.exfs,ok.funs,ok.frf)
section
variable {X:Cx}{pins:Ai}{Z:St}{H:Hp}{s:Shared}{E:AX}
theorem AG.wish (I:AG X pins Z H s) (E:AX):AG (X.wish E) pins Z H s:=(I.ok.wish E,I.os,I.bare,I.base,I.loc,I.cell,I.free,I.freeC,I.pin,I.hok,I.len)
theorem AG.unwish (I:AG (X.wish E) pins Z H s):AG X pins Z H s:=(I.ok.unwish,I.os,I.bare,I.base,I.loc,I.cell,I.free,I.freeC,I.pin,I.hok,I.len)
theorem SP.unwish (h:SP (X.wish E) pins D f s'):SP X pins D f s':=by
 cases f with
 |next=>obtain⟨Z,H,I,q⟩:=h;exact(Z,H,I.unwish,q)
 |brk=>obtain⟨Z,H,I,q⟩:=h;exact(Z,H,I.unwish,q)
 |cont=>obtain⟨Z,H,I,q⟩:=h;exact(Z,H,I.unwish,q)
 |ret u=>obtain⟨v,Z,H,I,r,q⟩:=h;exact(v,Z,H,I.unwish,r,q)
theorem PSs.nox {st:List Stmt}(h:PSs X.nox st t):PSs X st t:=λn s Z H D I w=>
 Dz (h n s Z H D (I.wish _) w) (λ_ _ q=>q.unwish) λ_ _ z=>False.elim z
end
section
variable {X:Cx}{st:Stmt}{rest:List Stmt}{t u:TS}{e:Expr}{te:TE}{pos:Pos}
def tNext:TS:=λD Z H=>D.nx Z H
def tSeq (t u:TS):TS:=λD Z H=>t { D with nx:=u D } Z H
theorem B5:PSs X [] tNext:=λ_ _ Z H _ I h=>wpAny_execs_nil (Z,H,I,h)
theorem AV (h1:PS X st t) (h2:PSs X rest u):PSs X (st::rest) (tSeq t u):=by
 intro pins s Z H D I h;refine wpAny_execs_cons (thn (h1 pins s Z H { D with nx:=u D } I h) λf S q=>?_);cases f with
 |next=>
  obtain⟨z,a,i,q⟩:=q;exact h2 pins S z a D i q
 |ret v=>exact q
 |brk=>exact q
 |cont=>exact q
theorem Ag (h1:PS X st t):PSs X [st] t:=by
 intro pins s Z H D I h;refine wpAny_execs_cons (thn (h1 pins s Z H D I h) λf S q=>?_);cases f with
 |next=>exact wpAny_execs_nil q
 |ret v=>exact q
 |brk=>exact q
 |cont=>exact q
theorem AG.quiet (I:AG X pins Z H s):interactive X.env=false:=by simp[interactive,I.ok.kind]
def tDrop (te:TE):TS:=λD Z H=>te Z H λ_ h=>D.nx Z h
theorem EG (he:PE X e te) (hs:swapsWith e none pos.line X.env=pure false:=by rfl):PS X (.Expr e pos) (tDrop te):=by
 intro pins s Z H D I h;exact wpAny_Expr_any (thn (he pins s Z H _ I h) λv s1 (x,H1,I1,r1,q1)=>(Z,H1,I1,q1)) I.quiet hs
def tRet (te:TE):TS:=λD Z H=>te Z H D.rt
theorem BF (he:PE X e te):PS X (.Return (some e) pos) (tRet te):=by
 intro pins s Z H D I h;exact wpAny_Return_some (thn (he pins s Z H _ I h) λv s1 (x,H1,I1,r1,q1)=>(x,Z,H1,I1,r1,q1))
def tIfS (c:TT) (t u:TS):TS:=λD Z H=>c Z H λb h=>if b=true then t D Z h else u D Z h
theorem B6 (hc:PT X c tc) (ha:PSs X a t) (hb:PSs X b u):PS X (.If c a b pos) (tIfS tc t u):=by
 intro pins s Z H D I h;refine wpAny_If (thn (hc pins s Z H _ I h) λd s1 (H1,I1,q1)=>?_);cases d with
 |true=>exact ha pins s1 Z H1 D I1 q1
 |false=>exact hb pins s1 Z H1 D I1 q1
end
abbrev TG:=V->St->Hp->(St->Hp->Prop)->Prop
abbrev TGs:=List V->St->Hp->(St->Hp->Prop)->Prop
def PG (X:Cx) (target:Expr) (t:TG):Prop:=
 ∀(pins:Ai) (s:Shared) (Z:St) (H:Hp) (v:V) (u:Value) (Q:St->Hp->Prop),AG X pins Z H s->RelV v u->t v Z H Q ->
  wpAny (model X.prog X.w) X.A (assign target X.env u) (λ_ S=>∃Z' H',AG X pins Z' H' S /\ Q Z' H') X.xe s
def PGs (X:Cx) (ts:List Expr) (t:TGs):Prop:=
 ∀(pins:Ai) (s:Shared) (Z:St) (H:Hp) (vs:List V) (us:List Value) (Q:St->Hp->Prop),AG X pins Z H s->Vals vs us->t vs Z H Q ->
  wpAny (model X.prog X.w) X.A (assignInOrder ((assignEach ts X.env).map (·.2)) us) (λ_ S=>∃Z' H',AG X pins Z' H' S /\ Q Z' H') X.xe s
abbrev TSet:=V->V->V->Hp->(Hp->Prop)->Prop
def PSet (X:Cx) (t:TSet):Prop:=
 ∀(pins:Ai) (s:Shared) (Z:St) (H:Hp) (o i v:V) (ov iv u:Value) (Q:Hp->Prop),AG X pins Z H s->RelV o ov->RelV i iv->RelV v u->t o i v H Q ->
  wpAny (model X.prog X.w) X.A (setItem ov iv u) (λ_ S=>∃H',AG X pins Z H' S /\ Q H') X.xe s
section
variable {X:Cx}{pos:Pos}
def gName (i:Nat):TG:=λv Z H Q=>Q (Z.set i<|some v) H
theorem A2 (hN:X.N.Nodup) (hi:X.N[i]?=some x) (hx:Gi X.env.scope x) (hf:X.fn x=true\/X.env.scope.names.lookup x=some .local:=by first|exact .inl rfl|exact .inr rfl|assumption):PG X (.Name x pos) (gName i):=by
 intro pins s Z H v u Q I r h;exact wpAny_assign_Name<|JH I hN hi hx r (λS a=>(_,H,a,h)) hf
def gNil:TGs:=λs Z H Q=>s=[]/\Q Z H
def gCons (t:TG) (u:TGs):TGs:=λs Z H Q=>∃v r,s=v::r/\t v Z H λz h=>u r z h Q
theorem E8:PGs X [] gNil:=by
 intro pins s Z H vs us Q I r h;obtain⟨e,h⟩:=h;subst e;cases r;exact assignInOrder_nil (Z,H,I,h)
theorem CY (h1:PG X e t) (h2:PGs X es u)
  (hs:(assignEach (e::es) X.env).map (·.2)=assign e X.env::(assignEach es X.env).map (·.2):=by rfl):PGs X (e::es) (gCons t u):=by
 intro pins s Z H vs us Q I r h;obtain⟨v,R,E,h⟩:=h;subst E;cases r with
 |cons r rr=>
  rw[hs];refine assignInOrder_cons (thn (h1 pins s Z H _ _ _ I r h) λ_ s1 (Z1,H1,I1,q1)=>?_);exact h2 pins s1 Z1 H1 _ _ Q I1 rr q1
def gTup (K:W.Frag) (n:Nat) (t:TGs):TG:=λv Z H Q=>∃a xs,v=.ref a/\SqT K H a xs/\xs.length=n/\t xs Z H Q
theorem Zza (hc:X.calm=true) (h:PGs X es t)
  (hn:(assignEach es X.env).length=n:=by rfl) (hst:(assignEach es X.env).findIdx? (·.1)=none:=by rfl):PG X (.Tuple es k pos) (gTup X.K n t):=by
 intro pins s Z H v u Q I r w;obtain⟨a,d,E,q,l,w⟩:=w;subst E;cases r;obtain⟨S,V,T,z⟩:=I.tuple q;refine assign_Tuple_tuple (I.ok.hd hc) T (by simp[hn,<- l,V.length]) hst λc x=>?_;have i:AG X pins Z H { s with heap:=c }:=I.kept (t':=s.toks) λb o e=>x b o (As<|Al e) e;exact h pins _ Z H d _ Q i (by simpa using V) w
def gSub (to ti:TE) (t:TSet):TG:=λv Z H Q=>to Z H λo h=>ti Z h λi a=>t o i v a λb=>Q Z b
theorem Fm {o i:Expr}{to ti:TE}{t:TSet}(ho:PE X o to) (hi:PE X i ti) (hs:PSet X t)
  (ha:∀v,assign (.Subscript o i pos) X.env v=(do
   let ov <- holding [v] (eval o X.env)
   let iv <- holding [v,ov] (eval i X.env)
   standAt pos
   holding [v,ov,iv] (setItem ov iv v)
   release [v,ov,iv] []):=by intro _;rfl):PG X (.Subscript o i pos) (gSub to ti t):=by
 intro pins s Z H v u Q I r h;rw[ha];refine AA<|Bq (thn (ho pins s Z H _ I h) λov s1 (x,H1,I1,r1,q1)=>?_);refine AA<|Bq (thn (hi pins s1 Z H1 _ I1 q1) λiv s2 (y,H2,I2,r2,q2)=>?_);refine AA<|wpAny_standAt<|AA<|Bq (thn (hs pins s2 Z H2 x y v ov iv u _ I2 r1 r2 r q2) λ_ s3 (H3,I3,q3)=>?_);exact wpAny_release (Z,H3,I3,q3)
def tAsg (te:TE) (g:TG):TS:=λD Z H=>te Z H λx h=>g x Z h D.nx
theorem Dy (he:PE X e te) (hg:PG X tg g) (hs:swapsWithSole [tg] e pos.line X.env=pure false:=by rfl) (hw:swappedStores [tg] e X.env=pure none:=by rfl)
  (h1:(assignEach [tg] X.env).map (·.2)=[assign tg X.env]:=by rfl):PS X (.Assign [tg] e pos) (tAsg te g):=by
 intro pins s Z H D I h;refine wpAny_Assign_stores (thn (he pins s Z H _ I h) λv s1 (x,H1,I1,r1,q1)=>?_) hs hw;rw[h1];exact thn (hg pins s1 Z H1 x v _ I1 r1 q1) λ_ S q=>q
theorem Ap {i:Nat}{x:Str}{e:Expr}{te:TE}{pos':Pos}(hN:X.N.Nodup) (hi:X.N[i]?=some x) (hx:Gi X.env.scope x) (he:PE X e te) (hs:swapsWith e (some (.Name x pos')) pos.line X.env=pure false:=by rfl) (hf:X.fn x=true\/X.env.scope.names.lookup x=some .local:=by first|exact .inl rfl|exact .inr rfl|assumption) :
  PS X (.Assign [.Name x pos'] e pos) (tAsg te<|gName i):=by
 intro pins s Z H D I h;refine wpAny_Assign_Name (thn (he pins s Z H _ I h) λv s1 (y,H1,I1,r1,q1)=>?_) hs;exact JH I1 hN hi hx r1 (λS a=>(_,H1,a,q1)) hf
def tPar (i j:Nat) (ta:TA):TS:=λD Z H=>ta Z H λs h=>∃v w,s=[v,w]/\D.nx ((Z.set i<|some v).set j (some w)) h
theorem L4 {i j:Nat}{x y:Str}{a b:Expr}{ta:TA}{px py pt:Pos}{kt k2 pt2} (hc:X.calm=true) (hN:X.N.Nodup) (hi:X.N[i]?=some x) (hj:X.N[j]?=some y) (hij:i≠j)
  (hx:X.env.scope.names.lookup x=some .local) (hy:X.env.scope.names.lookup y=some .local) (ha:PA X [a,b] ta)
  (hw:swappedStores [.Tuple [.Name x px,.Name y py] kt pt] (.Tuple [a,b] k2 pt2) X.env=pure (some [x,y]))
  (hs:swapsWithSole [.Tuple [.Name x px,.Name y py] kt pt] (.Tuple [a,b] k2 pt2) pos.line X.env=pure false:=by rfl) :
  PS X (.Assign [.Tuple [.Name x px,.Name y py] kt pt] (.Tuple [a,b] k2 pt2) pos) (tPar i j ta):=by
 intro pins s Z H D I h;rw[exec_Assign_arm];refine AA<|wpAny_standAt ?_;rw[hs];refine AA<|AH ?_;rw[AB (by decide)];refine AA<|Tuple_ (thn (ha _ pins s Z H _ I h) λus s1 (vs,H1,I1,r1,q1)=>?_);obtain⟨v,w,e1,q1⟩:=q1;subst e1;obtain⟨u1,u2,rfl,rv,rw'⟩:∃u1 u2,us=[u1,u2]/\RelV v u1/\RelV w u2:=by
  cases r1 with
  |cons p q=>
   cases q with
   |cons p' q'=>
    cases q';exact(_,_,rfl,p,p')
 refine wpAny_newObj_type ?_ (by show 2<=sizeLine;decide);have I2:AG X pins Z H1 { s1 with heap:=s1.heap.push { cls:=.type "tuple",data:=.seq [u1,u2].toArray } }:=I1.kept (t':=s1.toks) λb o e=>Au _ e;rw[hw];refine AA<|AH ?_;show wpAny (model X.prog X.w) X.A (do rule "assign.swapped-stores";let items <- unpackItems (.ref s1.heap.objs.size) 2 none;assignInOrder [λv=>bindName X.env y v,λv=>bindName X.env x v] items.reverse;pure Flow.next) _ _ _;refine AA<|DO<|AA (unpackItems_tuple (items:=#[u1,u2]) (I.ok.hd hc) (IsTup.new s1.heap _) λh' hx'=>?_);have I3:=I2.kept (h':=h') (t':=s1.toks) λb o e=>hx' b o (As<|Al e) e;show wpAny _ _ (assignInOrder [λv=>bindName X.env y v,λv=>bindName X.env x v] [u2,u1] >>= λ_=>pure Flow.next) _ _ _;refine AA<|assignInOrder_cons<|wpAny_bindName<|JH I3 hN hj (.inl hy) rw' (λs2 I4=>?_) (.inr hy);refine assignInOrder_cons<|wpAny_bindName<|JH I4 hN hi (.inl hx) rv (λs3 I5=>assignInOrder_nil<|AH ?_) (.inr hx);rw[List.set_comm _ _ (Ne.symm hij)]at I5;exact(_,H1,I5,q1)
def tWhile (c:TT) (tb:TS):TS:=λD Z H=>∃W:Nat->St->Hp->Prop,(∃m,W m Z H)/\∀m Z H,W m Z H ->
 c Z H λb h=>if b=true then ∃N:St->Hp->Prop,(∀Z' H',N Z' H' -> ∃m',m'<m/\W m' Z' H')/\tb { D with nx:=N,ct:=N,bk:=D.nx } Z h else D.nx Z h
theorem Tu (hp:PassesOwn (model X.prog X.w) X.A X.env X.xe) (hc:PT X c tc) (hb:PSs X body tb):PS X (.While c body [] pos) (tWhile tc tb):=by
 intro pins s Z H D I h;obtain⟨W,⟨o,t⟩,r⟩:=h;refine wpAny_While<|codeAny_whileLoop (λn S=>∃Z' H',AG X pins Z' H' S /\ W n Z' H') ?_ o (Z,H,I,t);rintro n p ⟨d,j,l,u⟩;refine wpAny_passesOwn hp (thn (hc pins p d j _ l<|r n d j u) λb s2 (H2,I2,q)=>?_);cases b with
 |true=>
  obtain⟨N,k,q⟩:=q;rw[AD rfl];refine wpAny_passesOwn hp (thn (hb pins s2 d H2 _ I2 q) λf x Q=>?_);cases f with
  |next=>
   obtain⟨z,a,i,e⟩:=Q;obtain⟨M,m,g⟩:=k z a e;exact(M,m,z,a,i,g)
  |cont=>
   obtain⟨z,a,i,e⟩:=Q;obtain⟨M,m,g⟩:=k z a e;exact(M,m,z,a,i,g)
  |brk=>exact Q
  |ret v=>exact Q
 |false=>
  rw[AB BR];exact wpAny_execs_nil (d,H2,I2,q)
end
structure It where
 go:Nat->Hp->Prop
 yld:Nat->Hp->V->Hp->Prop
 stop:Nat->Hp->Prop
def FpOk (X:Cx) (pins:Ai) (H:Hp) (b:Addr):Prop:=
 H b=none/\b≠X.env.locals/\b ∉ X.fs/\(b∈X.ex\/X.s₀.heap.objs.size<=b)/\(∀x c,X.env.cells.lookup x=some c->c≠b)/\∀p∈X.pn++pins,p.1≠b
theorem AG.fpOk (I:AG X pins Z H s) (hb:s.heap.objs.size<=b) (hn:H' b=none):FpOk X pins H' b:=by
 refine(hn,E2<|CQ I.lt hb,I.nofs hb,.inr<|CW I.sz hb,λx c e z=>?_,λp h z=>?_)
 ·obtain⟨v,q⟩:=I.cell x c e
  exact absurd (CQ q.lt (by rw[z];exact hb))<|D4 _
 ·exact absurd (CQ (Al (I.pin p h).1) (by rw[z];exact hb))<|D4 _
structure TurnG (Cm:Cx->Prop) (P:Program) (w:World) (K:W.Frag) (tg:Expr) (J:It) (fp:List Addr) (it:Addr) (tn:Nat->Heap->Prop):Prop where
 mem:it∈fp
 obj:∀i h,tn i h->∀b∈fp,∃o,h.get? b=some o/\∀v,o.data≠.cell v
 keep:∀i h h',tn i h->(∀b∈fp,∀o,h.get? b=some o->h'.get? b=some o)->tn i h'
 item:∀(X:Cx),X.prog=P->X.w=w->X.K=K->Cm X->∀(i:Nat) (pins:Ai) (s:Shared) (Z:St) (H:Hp) (E:AX),AG X pins Z H s->(∀b∈fp,FpOk X pins H b)->tn i s.heap->J.go i H ->
  wpAny (model P w) X.A (pyNext (.ref it)) (λr s1=>∃u,r=some u /\
   wpAny (model P w) X.A (letOwnedTupleGo tg (.ref it) u) (λ_ s2=>∃x H',AG X pins Z H' s2/\RelV x u/\J.yld i H x H' /\ tn (i+1) s2.heap/\∀b∈fp,H' b=none) E s1) E s
 done:∀(X:Cx),X.prog=P->X.w=w->X.K=K->Cm X->∀(i:Nat) (pins:Ai) (s:Shared) (Z:St) (H:Hp) (E:AX),AG X pins Z H s->(∀b∈fp,FpOk X pins H b)->tn i s.heap->J.stop i H ->
  wpAny (model P w) X.A (pyNext (.ref it)) (λr s1=>r=none/\AG X pins Z H s1) E s
 self:∀(A:Around) (i:Nat) (s:Shared) (Q:AX) (E:AX),tn i s.heap->Q (.ref it) s->wpAny (model P w) A (pyIter (.ref it)) Q E s
abbrev Turn:=TurnG λX=>X.calm=true
abbrev TI:=St->Hp->(It->Hp->Prop)->Prop
def PIEG (Cm:Cx->Prop) (X:Cx) (pins:Ai) (Z:St) (tg:Expr) (R:It->Hp->Prop) (itv:Value) (s2:Shared):Prop:=
 ∃(it:Addr) (fp:List Addr) (tn:Nat->Heap->Prop) (J:It) (H':Hp),itv=.ref it/\AG X pins Z H' s2/\TurnG Cm X.prog X.w X.K tg J fp it tn/\tn 0 s2.heap/\(∀b∈fp,FpOk X pins H' b)/\R J H'
def PIG (Cm:Cx->Prop) (X:Cx) (tg iter:Expr) (wi:TI):Prop:=
 ∀(pins:Ai) (s:Shared) (Z:St) (H:Hp) (R:It->Hp->Prop),AG X pins Z H s->wi Z H R ->
  wpAny (model X.prog X.w) X.A (eval iter X.env) (λv S=>wpAny (model X.prog X.w) X.A (pyIter v) (PIEG Cm X pins Z tg R) X.xe S) X.xe s
abbrev PIE:=PIEG λX=>X.calm=true
abbrev PI:=PIG λX=>X.calm=true
theorem MG (ho:s.heap.get? it=some o) (hc:o.cls=.type n) (hd:o.data=.fields vs)
  (hn:["enumerate","zip","dict_itemiterator","dict_reverseitemiterator","odict_iterator","itertools.zip_longest","itertools.pairwise"].contains n=false) (hQ:Q () s):wpAny M A (letOwnedTupleGo tg (.ref it) u) Q E s:=by
 unfold letOwnedTupleGo;cases tg <;> first
  |exact AH hQ
  | (cases u <;> first
      |exact AH hQ
      | (refine AA (wpAny_load ho ?_)
         rw[hc,hd];show wpAny M A (if (["enumerate","zip","dict_itemiterator","dict_reverseitemiterator","odict_iterator","itertools.zip_longest","itertools.pairwise"].contains n && vs[0]? == some (rawInt _))=true then _ else _) Q E s;rw[AB (by intro h;rw[hn,Dn]at h;cases h)];exact AH hQ))
def MS (K:W.Frag) (a:Addr):It:=
 (λi H=>∃xs x,SqL K H a xs/\xs[i]?=some x,λi H x h=>h=H/\∀xs,SqL K H a xs->xs[i]?=some x,λi H=>∃xs,SqL K H a xs/\xs.length<=i)
def MT (K:W.Frag) (a:Addr):It:=
 (λi H=>∃xs x,SqT K H a xs/\xs[i]?=some x,λi H x h=>h=H/\∀xs,SqT K H a xs->xs[i]?=some x,λi H=>∃xs,SqT K H a xs/\xs.length<=i)
def Hx (lo:Int) (n:Nat):It:=(λi _=>i<n,λi H x h=>h=H/\x=.int (lo+i),λi _=>n<=i)
theorem TF {P:Program}{w:World}{K:W.Frag}{tg:Expr}(a it:Addr):Turn P w K tg (MS K a) [it] it (λi h=>h.IsListIter it a i) where
 mem:=by simp
 obj:=λi h t b B=>by
  have e:b=it:=by simpa using B
  subst e;obtain⟨o,e,c,d⟩:=t;exact(o,e,λv z=>by rw[d]at z;cases z)
 keep:=λi h f t k=>t.at λo e=>k it (by simp) o e
 item:=by
  intro X hP hw hK hc i pins s Z H E I hf t hg;subst hP hw hK;obtain⟨J,x,q,n⟩:=hg;obtain⟨S,r,p,D⟩:=I.list q;obtain⟨u,U,R⟩:=r.get n;obtain⟨F,g,C,j,l,m⟩:=hf it (by simp);refine wpAny_pyNext_list_item t p.isList (x:=u) (by simpa using U) λf T G=>?_;have y:AG X pins Z H { s with heap:=f }:=I.turned (t':=s.toks) (λb o B e=>(G.2 b B).trans e) F g j l m;obtain⟨o,e,c,d⟩:=id T;exact(u,rfl,MG (s:={ s with heap:=f }) e c d (by decide) (x,H,y,R,(rfl,λM Y=>by rw[I.list_inj Y q];exact n),T,λb B=>(hf b B).1))
 done:=by
  intro X hP hw hK hc i pins s Z H E I hf t hg;subst hP hw hK;obtain⟨J,q,n⟩:=hg;obtain⟨S,r,p,D⟩:=I.list q;obtain⟨F,g,C,j,l,m⟩:=hf it (by simp);have L:=r.length;exact wpAny_pyNext_list_end (I.ok.hd hc) t p.isList (by simp;lia) λf A=>(rfl,I.turned (t':=s.toks) (λb o B e=>A b o B e) F g j l m)
 self:=λ_ _ _ _ _ t h=>wpAny_pyIter_listiter t h
theorem Rw {P:Program}{w:World}{K:W.Frag}{tg:Expr}(a it:Addr):Turn P w K tg (MT K a) [it] it (λi h=>h.IsTupleIter it a i) where
 mem:=by simp
 obj:=λi h t b B=>by
  have e:b=it:=by simpa using B
  subst e;obtain⟨o,e,c,d⟩:=t;exact(o,e,λv z=>by rw[d]at z;cases z)
 keep:=λi h f t k=>t.at λo e=>k it (by simp) o e
 item:=by
  intro X hP hw hK hc i pins s Z H E I hf t hg;subst hP hw hK;obtain⟨J,x,q,n⟩:=hg;obtain⟨S,r,p,D⟩:=I.tuple q;obtain⟨u,U,R⟩:=r.get n;obtain⟨F,g,C,j,l,m⟩:=hf it (by simp);refine wpAny_pyNext_tuple_item t (show s.heap.IsTuple a S.toArray from p) (x:=u) (by simpa using U) λf T G=>?_;have y:AG X pins Z H { s with heap:=f }:=I.turned (t':=s.toks) (λb o B e=>(G.2 b B).trans e) F g j l m;obtain⟨o,e,c,d⟩:=id T;exact(u,rfl,MG (s:={ s with heap:=f }) e c d (by decide) (x,H,y,R,(rfl,λM Y=>by rw[I.tuple_inj Y q];exact n),T,λb B=>(hf b B).1))
 done:=by
  intro X hP hw hK hc i pins s Z H E I hf t hg;subst hP hw hK;obtain⟨J,q,n⟩:=hg;obtain⟨S,r,p,D⟩:=I.tuple q;obtain⟨F,g,C,j,l,m⟩:=hf it (by simp);have L:=r.length;exact wpAny_pyNext_tuple_end (I.ok.hd hc) t (show s.heap.IsTuple a S.toArray from p) (by simp;omega) λf A=>(rfl,I.turned (t':=s.toks) (λb o B e=>A b o B e) F g j l m)
 self:=λ_ _ _ _ _ t h=>wpAny_pyIter_tupleiter t h
theorem Ry {P:Program}{w:World}{K:W.Frag}{tg:Expr}(it:Addr) (lo:Int) (n:Nat):Turn P w K tg (Hx lo n) [it] it (λi h=>IsRangeIter h it (lo+(i:Nat)*1) ((n:Int)-(i:Nat)) 1) where
 mem:=by simp
 obj:=λi h T b B=>by
  have e:b=it:=by simpa using B
  subst e;exact(_,T,λv z=>by
   have r:Data.fields _=Data.cell v:=z;cases r)
 keep:=λi h a T k=>k it (by simp) _ T
 item:=by
  intro X hP hw hK hc i pins s Z H E I hf T hg;subst hP hw hK;obtain⟨f,F,p,c,d,g⟩:=hf it (by simp);have W:=Walks.range (prog:=X.prog) (w:=X.w) (I.ok.hd hc) it lo 1 n;refine W.item i s _ _ hg T λv a j V S q=>?_;obtain⟨t,rfl⟩:=V;have l:AG X pins Z H { s with heap:=a,toks:=j }:=I.turned (λb o B e=>q b o (by simpa using B) e) f F c d g;refine(_,rfl,MG (s:={ s with heap:=a,toks:=j }) (n:="range_iterator") S rfl rfl (by decide) (.int<|lo+i,H,l,(t,?_),(rfl,rfl),S,λb B=>(hf b B).1));rw[Int.mul_one]
 done:=by
  intro X hP hw hK hc i pins s Z H E I hf T hg;subst hP hw hK;obtain⟨f,F,p,c,d,g⟩:=hf it (by simp);exact wpAny_pyNext_range_end (I.ok.hd hc) T (by have:n<=i:=hg;lia) λa m=>(rfl,I.turned (t':=s.toks) (λb o B e=>m b o B e) f F c d g)
 self:=λ_ _ _ _ _ T h=>wpAny_pyIter_rangeiter T h
section
variable {X:Cx}{tg:Expr}
def iList (K:W.Frag) (tl:TE):TI:=λZ H R=>tl Z H λx h=>∃a,x=.ref a/\(∃xs,SqL K h a xs)/\R (MS K a) h
def iTup (K:W.Frag) (tl:TE):TI:=λZ H R=>tl Z H λx h=>∃a,x=.ref a/\(∃xs,SqT K h a xs)/\R (MT K a) h
theorem Va (hl:PE X l tl):PI X tg l (iList X.K tl):=by
 intro pins s Z H R I h;refine thn (hl pins s Z H _ I h) λv s1 (x,H1,I1,r1,q1)=>?_;obtain⟨a,e,⟨S,Q⟩,q⟩:=q1;subst e;cases r1;obtain⟨t,r,p,z⟩:=I1.list Q;refine wpAny_pyIter_list p.isList ?_;refine(s1.heap.objs.size,[s1.heap.objs.size],_,_,H1,rfl,I1.kept (t':=s1.toks) λb o e=>Au _ e,TF a _,(_,BP _ rfl,rfl,rfl),λb B=>?_,q);have e:b=s1.heap.objs.size:=by simpa using B
 subst e;exact I1.fpOk (AS _)<|I1.hok.fresh<|AS _
theorem Zy2 (hl:PE X l tl):PI X tg l (iTup X.K tl):=by
 intro pins s Z H R I h;refine thn (hl pins s Z H _ I h) λv s1 (x,H1,I1,r1,q1)=>?_;obtain⟨a,e,⟨S,Q⟩,q⟩:=q1;subst e;cases r1;obtain⟨t,r,p,z⟩:=I1.tuple Q;refine wpAny_pyIter_tuple (show s1.heap.IsTuple a t.toArray from p) ?_;refine(s1.heap.objs.size,[s1.heap.objs.size],_,_,H1,rfl,I1.kept (t':=s1.toks) λb o e=>Au _ e,Rw a _,(_,BP _ rfl,rfl,rfl),λb B=>?_,q);have e:b=s1.heap.objs.size:=by simpa using B
 subst e;exact I1.fpOk (AS _)<|I1.hok.fresh<|AS _
theorem range_it {lo hi:Int}(I:AG X pins Z H s) (h1:-(2 ^ 62)<=lo) (h2:lo<2 ^ 62) (h3:-(2 ^ 62)<=hi) (h4:hi<2 ^ 62)
  (q:R (Hx lo (hi-lo).toNat) H):wpAny (model X.prog X.w) X.A (pyIter (.ref s.heap.objs.size)) (PIE X pins Z tg R) E { s with heap:=s.heap.push { cls:=.type "range",data:=.fields #[.int lo t,.int hi u,.int 1 v] },toks:=tk }:=by
 refine wpAny_pyIter_range (IsRange.new ..) (small_one h1 h2 h3 h4) ?_;have i:AG X pins Z H { s with heap:=s.heap.push { cls:=.type "range",data:=.fields #[.int lo t,.int hi u,.int 1 v] },toks:=tk }:=I.kept λb o e=>Au _ e;refine((s.heap.push { cls:=.type "range",data:=.fields #[.int lo t,.int hi u,.int 1 v] }).objs.size,[(s.heap.push { cls:=.type "range",data:=.fields #[.int lo t,.int hi u,.int 1 v] }).objs.size],_,_,H,rfl,
  i.kept (t':=tk) λb o e=>Au _ e,Ry _ lo (hi-lo).toNat,?_,λb h=>?_,q)
 ·have a:lo+((0:Nat):Int)*1=lo:=by simp
  have c:(((hi-lo).toNat:Nat):Int)-((0:Nat):Int)=Builtin.Range.rangeSize lo hi 1:=by rw[rangeSize_one];split <;> lia
  show IsRangeIter _ _ (lo+((0:Nat):Int)*1) ((((hi-lo).toNat:Nat):Int)-((0:Nat):Int)) 1;rw[a,c];exact BP _ rfl
 ·have e:b=(s.heap.push { cls:=.type "range",data:=.fields #[.int lo t,.int hi u,.int 1 v] }).objs.size:=by simpa using h
  subst e;exact i.fpOk (AS _)<|i.hok.fresh<|AS _
def iRng1 (ta:TA):TI:=λZ H R=>ta Z H λs h=>∃j:Int,s=[.int j] /\ -(2 ^ 62)<=j/\j<2 ^ 62/\R (Hx 0 j.toNat) h
theorem DX (hg:Gl X "range") (hm:X.mg "range" = none) (ha:PA X [a] ta) (hs:starEach [a] X.env=[(false,eval a X.env)]:=by rfl):PI X tg (.Call (.Name "range" p) [a] [] pos) (iRng1 ta):=by
 intro pins s Z H R I h;refine Call_<|Ej I hg hm boot_range<|PyProof.Rows.callWith_type1 (thn (ha pos pins s Z H _ I h) λus s1 (vs,H1,I1,r1,Q)=>?_) hs rfl;obtain⟨j,e,Q,b,q⟩:=Q;subst e;cases r1 with
 |cons r rr=>
  cases rr;obtain⟨t,rfl⟩:=r;exact call_range_1<|range_it I1 (by lia) (by lia) Q b (by simpa using q)
def tFor (wi:TI) (g:TG) (tb:TS):TS:=λD Z H=>wi Z H λJ h=>∃W:Nat->Nat->St->Hp->Prop,(∃m,W 0 m Z h)/\∀i m Z H,W i m Z H ->
 (J.stop i H/\D.nx Z H)\/(J.go i H/\∃N:St->Hp->Prop,(∀Z' H',N Z' H' -> ∃m',m'<m/\W (i+1) m' Z' H')/\∀x H',J.yld i H x H' -> g x Z H' λz a=>tb { D with nx:=N,ct:=N,bk:=D.nx } z a)
def pinsAt (fp:List Addr) (h:Heap):Ai:=fp.filterMap λb=>(h.get? b).map λo=>(b,o)
theorem GG (hb:b∈fp) (e:h.get? b=some o):(b,o)∈pinsAt fp h:=KQ.mpr (b,hb,by rw[e];rfl)
theorem Sb (hp:p∈pinsAt fp h):p.1∈fp/\h.get? p.1=some p.2:=by
 obtain⟨b,B,e⟩:=KQ.mp hp;cases q:h.get? b with
 |none=>rw[q]at e;cases e
 |some o=>
  rw[q]at e;have E:(b,o)=p:=BY.inj e;subst E;exact(B,q)
theorem AG.pinned (I:AG X pins Z H s) (hf:∀b∈fp,FpOk X pins H b) (ho:∀b∈fp,∃o,s.heap.get? b=some o/\∀v,o.data≠.cell v):AG X (pins++pinsAt fp s.heap) Z H s:=
 I.pins_of λp P=>(Bb.mp P).elim (λz=>I.pin p<|CV _ z) λz=>by
  obtain⟨h,e⟩:=Sb z;obtain⟨f,F,a,_⟩:=hf p.1 h;obtain⟨o,E,d⟩:=ho p.1 h;rw[e]at E;cases E;exact(e,f,F,a,d)
theorem AG.unpinned (I:AG X (pins++pl) Z H s):AG X pins Z H s:=I.pins_of λp h=>I.pin p<|CV _<|Gy _ h
theorem Cd (hp:PassesOwn (model X.prog X.w) X.A X.env X.xe) (hc:X.calm=true) (hi:PI X tg iter wi) (hg:PG X tg g) (hb:PSs X body tb)
  (hs:∀x,foldedSetIterable iter X.env x=pure x:=by intro _;rfl):PS X (.For tg iter body [] pos) (tFor wi g tb):=by
 intro pins s Z H D I h;refine wpAny_For (thn (hi pins s Z H _ I h) λv s1 h1=>thn h1 λa0 s2 h2=>?_) hs;obtain⟨it,p,M,J,Q,e,V,T,C,F,W,⟨m0,w0⟩,U⟩:=h2;subst e
 -- what stays true of the iterator's objects through the loop
 have t:∀{H':Hp},(∀b∈p,H' b=none)->∀b∈p,FpOk X pins H' b:=λhn b hb=>(hn b hb,(F b hb).2);refine codeAny_forLoop_any (λn K=>∃i Z' H',AG X pins Z' H' K /\ M i K.heap/\(∀b∈p,H' b=none)/\W i n Z' H') ?_ m0 (0,Z,Q,V,C,λb hb=>(F b hb).1,w0);rintro n L ⟨i,j,l,E,S,R,w3⟩;rcases U i n j l w3 with ⟨O,qn⟩|⟨Y,N,hN,P⟩
 ·refine wpAny_passesOwn hp (thn (T.done X rfl rfl rfl hc i pins L j l X.xe E (t R) S O) λr s4 (hr,I4)=>?_)
  subst hr;exact wpAny_execs_nil (j,l,I4,qn)
 ·refine wpAny_passesOwn hp (thn (T.item X rfl rfl rfl hc i pins L j l X.xe E (t R) S Y) λr s4 (u,hr,h4)=>?_)
  subst hr;refine wpAny_passesOwn hp (thn h4 λ_ s5 (x,H5,I5,r5,y5,st5,fr5)=>?_);have y:=I5.pinned (t fr5)<|T.obj _ _ st5;refine wpAny_passesOwn hp (thn (hg _ s5 j H5 x u _ y r5<|P x H5 y5) λ_ s6 (Z6,H6,I6,q6)=>?_);refine wpAny_passesOwn hp (thn (hb _ s6 Z6 H6 _ I6 q6) λf B q=>?_);have G:∀{z:St}{a:Hp},AG X (pins++pinsAt p s5.heap) z a B->N z a->∃m,m<n/\∃i Z' H',AG X pins Z' H' B/\M i B.heap/\(∀b∈p,H' b=none)/\W i m Z' H':=λ{z a} c k=>by
   obtain⟨m',hm,w7⟩:=hN z a k;refine(m',hm,i+1,z,a,c.unpinned,T.keep _ _ _ st5 λb hb o e=>(c.pin (b,o)<|CV _<|CV _<|GG hb e).1,λb hb=>?_,w7);obtain⟨o,e,d⟩:=T.obj _ _ st5 b hb;exact(c.pin (b,o)<|CV _<|CV _<|GG hb e).2.1
  cases f with
  |next=>obtain⟨z,a,c,k⟩:=q;exact G c k
  |cont=>obtain⟨z,a,c,k⟩:=q;exact G c k
  |brk=>obtain⟨z,a,c,q⟩:=q;exact(z,a,c.unpinned,q)
  |ret v=>obtain⟨x7,z,a,c,r7,q⟩:=q;exact(x7,z,a,c.unpinned,r7,q)
end
abbrev R2:=V->V->Hp->VK->Prop
def OpR (X:Cx) (f:Value->Value->Sem Value) (r:R2):Prop:=
 ∀(pins:Ai) (s:Shared) (Z:St) (H:Hp) (x y:V) (v u:Value) (Q:VK),AG X pins Z H s->RelV x v->RelV y u->r x y H Q ->
  wpAny (model X.prog X.w) X.A (f v u) (EP X pins Z Q) X.xe s
def UnR (X:Cx) (f:Value->Sem Value) (r:V->Hp->VK->Prop):Prop:=
 ∀(pins:Ai) (s:Shared) (Z:St) (H:Hp) (x:V) (v:Value) (Q:VK),AG X pins Z H s->RelV x v->r x H Q ->
  wpAny (model X.prog X.w) X.A (f v) (EP X pins Z Q) X.xe s
def CallR (X:Cx) (f:Value) (r:List V->Hp->VK->Prop):Prop:=
 ∀(pins:Ai) (s:Shared) (Z:St) (H:Hp) (xs:List V) (us:List Value) (Q:VK),AG X pins Z H s->Vals xs us->r xs H Q ->
  wpAny (model X.prog X.w) X.A (call f us) (EP X pins Z Q) X.xe s
def TruR (X:Cx) (r:V->Hp->(Bool->Hp->Prop)->Prop):Prop:=
 ∀(pins:Ai) (s:Shared) (Z:St) (H:Hp) (x:V) (v:Value) (Q:Bool->Hp->Prop),AG X pins Z H s->RelV x v->r x H Q ->
  wpAny (model X.prog X.w) X.A (truthy v) (TP X pins Z Q) X.xe s
def tOp (r:R2) (ta tb:TE):TE:=λZ H Q=>ta Z H λx h=>tb Z h λy a=>r x y a Q
def tUn (r:V->Hp->VK->Prop) (ta:TE):TE:=λZ H Q=>ta Z H λx h=>r x h Q
def rI (C:Int->Int->Prop) (g:Int->Int->V):R2:=λx y H Q=>∃i j,x=.int i/\y=.int j/\C i j/\Q (g i j) H
def rI0 (g:Int->Int->V):R2:=λx y H Q=>∃i j,x=.int i/\y=.int j/\Q (g i j) H
def rU (g:Int->V):V->Hp->VK->Prop:=λx H Q=>∃i,x=.int i/\Q (g i) H
section
variable {X:Cx}{a b c:Expr}{ta tb tc:TE}{pos:Pos}
theorem binT (ha:PE X a ta) (hb:PE X b tb) {pins:Ai}{s:Shared}{Z:St}{H:Hp}{R:V->V->Hp->Prop}(I:AG X pins Z H s)
  (h:ta Z H λx H1=>tb Z H1 λy H2=>R x y H2) {Q:AX}{f:Value->Value->Sem Value}
  (hf:∀v u s2 x y H2,AG X pins Z H2 s2->RelV x v->RelV y u->R x y H2->wpAny (model X.prog X.w) X.A (f v u) Q X.xe s2) :
  wpAny (model X.prog X.w) X.A (eval a X.env) (λv s₁=>wpAny (model X.prog X.w) X.A (eval b X.env) (λu s₂=>wpAny (model X.prog X.w) X.A (f v u) Q X.xe s₂) X.xe s₁) X.xe s:=by
 refine thn (ha pins s Z H _ I h) λv s1 (x,H1,I1,r1,q1)=>?_;refine thn (hb pins s1 Z H1 _ I1 q1) λu s2 (y,H2,I2,r2,q2)=>?_;exact hf v u s2 x y H2 I2 r1 r2 q2
theorem Ab (ho:OpR X (binaryOp op) r) (ha:PE X a ta) (hb:PE X b tb):PE X (.BinOp a op b pos) (tOp r ta tb):=by
 intro pins s Z H Q I h;exact wpAny_BinOp (binT ha hb I h λv u S x y c i R Y q=>ho pins S Z c x y v u Q i R Y q)
theorem Zzw (ho:UnR X (unaryOp op) r) (ha:PE X a ta):PE X (.UnaryOp op a pos) (tUn r ta):=by
 intro pins s Z H Q I h;exact UnaryOp_ (thn (ha pins s Z H _ I h) λv s1 (x,H1,I1,r1,q1)=>ho pins s1 Z H1 x v Q I1 r1 q1)
theorem opI {f:Value->Value->Sem Value}{C:Int->Int->Prop}{g:Int->Int->Int}
  (rule:∀(i j:Int) (t u:Tok) (s:Shared) (Q:AX) (E:AX),C i j->Q (.int (g i j) s.toks) { s with toks:=s.toks+1 } -> wpAny (model X.prog X.w) X.A (f (.int i t) (.int j u)) Q E s) :
  OpR X f (rI C λi j=>.int<|g i j):=by
 intro pins s Z H x y v u Q I rx ry h;obtain⟨i,j,rfl,rfl,c,q⟩:=h;obtain⟨t,rfl⟩:=rx;obtain⟨T,rfl⟩:=ry;exact rule i j t T s _ _ c (.int<|g i j,H,I.tok _,(_,rfl),q)
theorem opI0 {f:Value->Value->Sem Value}{g:Int->Int->Int}
  (rule:∀(i j:Int) (t u:Tok) (s:Shared) (Q:AX) (E:AX),Q (.int (g i j) s.toks) { s with toks:=s.toks+1 } -> wpAny (model X.prog X.w) X.A (f (.int i t) (.int j u)) Q E s) :
  OpR X f (rI0 λi j=>.int<|g i j):=by
 intro pins s Z H x y v u Q I rx ry h;obtain⟨i,j,rfl,rfl,q⟩:=h;obtain⟨t,rfl⟩:=rx;obtain⟨T,rfl⟩:=ry;exact rule i j t T s _ _ (.int<|g i j,H,I.tok _,(_,rfl),q)
theorem opB0 {f:Value->Value->Sem Value}{g:Int->Int->Bool}
  (rule:∀(i j:Int) (t u:Tok) (s:Shared) (Q:AX) (E:AX),Q (.bool<|g i j) s->wpAny (model X.prog X.w) X.A (f (.int i t) (.int j u)) Q E s) :
  OpR X f (rI0 λi j=>.bl<|g i j):=by
 intro pins s Z H x y v u Q I rx ry h;obtain⟨i,j,rfl,rfl,q⟩:=h;obtain⟨t,rfl⟩:=rx;obtain⟨T,rfl⟩:=ry;exact rule i j t T s _ _ (.bl<|g i j,H,I,rfl,q)
def CDiv (i j:Int):Prop:=0<j/\j<1073741824
def CPow (i j:Int):Prop:=0<=j/\j<=1000000/\i.natAbs<2 ^ 64
def CMul (i j:Int):Prop:=(-(2 ^ 64)<i/\i<2 ^ 64)\/(-(2 ^ 64)<j/\j<2 ^ 64)
theorem CMul.ok (h:CMul i j):IntMulOk i j:=by
 rcases h with ⟨H,a⟩|⟨H,a⟩
 ·exact .of_left<|intBits_le_64 H a
 ·exact .of_right<|intBits_le_64 H a
theorem Zyw:OpR X (binaryOp .Add) (rI0 λi j=>.int<|i+j):=opI0 λ_ _ _ _ _ _ _ q=>add_int q
theorem EI:OpR X (binaryOp .Sub) (rI0 λi j=>.int<|i-j):=opI0 λ_ _ _ _ _ _ _ q=>sub_int q
theorem Dh:OpR X (binaryOp .Mult) (rI CMul λi j=>.int<|i*j):=opI λ_ _ _ _ _ _ _ c q=>mul_int q c.ok
theorem GX:OpR X (binaryOp .FloorDiv) (rI CDiv λi j=>.int<|i / j):=opI λi j _ _ _ _ _ c q=>by
 have h:(0:Int)<j:=c.1;have H:j<1073741824:=c.2;exact floordiv_int (by lia) (by rw[Int.fdiv_eq_ediv_of_nonneg i (by lia)];exact q) (.inl<|PyProof.noPylong_small (by omega))
theorem CL:OpR X (binaryOp .Mod) (rI (λ_ j=>0<j) λi j=>.int<|i % j):=opI λi j _ _ _ _ _ c q=>by
 have h:(0:Int)<j:=c;exact mod_int' (by lia) (by rw[Int.fmod_eq_emod_of_nonneg i (by lia)];exact q)
theorem Zyo:OpR X (binaryOp .Pow) (rI CPow λi j=>.int<|i ^ j.toNat):=opI λ_ _ _ _ _ _ _ c q=>pow_int_small c.1 c.2.1 c.2.2 q
theorem QD:OpR X (binaryOp .BitXor) (rI0 λi j=>.int<|Builtin.bitXor i j):=opI0 λ_ _ _ _ _ _ _ q=>xor_int q
theorem unI {f:Value->Sem Value}{g:Int->Int}
  (rule:∀(i:Int) (t:Tok) (s:Shared) (Q:AX) (E:AX),Q (.int (g i) s.toks) { s with toks:=s.toks+1 } -> wpAny (model X.prog X.w) X.A (f (.int i t)) Q E s) :
  UnR X f (rU λi=>.int<|g i):=by
 intro pins s Z H x v Q I rx h;obtain⟨i,rfl,q⟩:=h;obtain⟨t,rfl⟩:=rx;exact rule i t s _ _ (.int<|g i,H,I.tok _,(_,rfl),q)
theorem Zzk:UnR X (unaryOp .USub) (rU λi=>.int (-i)):=unI λ_ _ _ _ _ q=>neg_int q
end
def scal:V->V->Bool
 |.non,.non=>true|.non,.int _=>true|.int _,.non=>true|.non,.bl _=>true|.bl _,.non=>true|.non,.str _=>true|.str _,.non=>true
 |.int _,.int _=>true|.bl _,.bl _=>true|.str _,.str _=>true|.byt _,.byt _=>true
 |.int _,.str _=>true|.str _,.int _=>true|.bl _,.str _=>true|.str _,.bl _=>true
 |_,_=>false
def rEq:R2:=λx y H Q=>scal x y=true/\Q (.bl<|decide (x=y)) H
def rNe:R2:=λx y H Q=>scal x y=true/\Q (.bl (!decide (x=y))) H
theorem Ll:decide (V.int i=V.int j)=(i == j):=by
 rw[F1];simp
theorem Zyt:decide (V.bl i=V.bl j)=(i == j):=by
 rw[F1];simp
theorem WA:decide (V.str i=V.str j)=(i == j):=by
 rw[F1];simp
theorem Vz:decide (V.byt i=V.byt j)=(i.toList == j.toList):=by
 rw[F1];cases i;cases j;simp
section
variable {X:Cx}{a b c:Expr}{ta tb tc:TE}{pos:Pos}
theorem Cr (I:AG X pins Z H s) (q:Q (.bl k) H) (e:k=k'):EP X pins Z Q (.bool k') s:=by
 subst e;exact(.bl k,H,I,rfl,q)
theorem Zz8:OpR X (compareOp .Eq) rEq:=by
 intro pins s Z H x y v u Q I rx ry h;obtain⟨S,q⟩:=h;cases x with
 |non=>
  cases rx;cases y with
  |non=>cases ry;exact PySem.EqNone.eq_none_none (Cr I q (by simp))
  |bl j=>cases ry;exact PySem.EqNone.eq_none_bool (Cr I q (by simp))
  |int j=>obtain⟨T,rfl⟩:=ry;exact PySem.EqNone.eq_none_int (Cr I q (by simp))
  |str j=>obtain⟨T,rfl⟩:=ry;exact PySem.EqNone.eq_none_str (Cr I q (by simp))
  |_=>exact absurd (show false=true from S) BR
 |bl i=>
  cases rx;cases y with
  |non=>cases ry;exact PySem.EqNone.eq_bool_none (Cr I q (by simp))
  |bl j=>cases ry;exact eq_bool (Cr I q Zyt)
  |str j=>obtain⟨T,rfl⟩:=ry;exact PySem.EqMixed.eq_bool_str (Cr I q (by simp))
  |_=>exact absurd (show false=true from S) BR
 |int i=>
  obtain⟨t,rfl⟩:=rx;cases y with
  |non=>cases ry;exact PySem.EqNone.eq_int_none (Cr I q (by simp))
  |int j=>obtain⟨T,rfl⟩:=ry;exact eq_int (Cr I q Ll)
  |str j=>obtain⟨T,rfl⟩:=ry;exact PySem.EqMixed.eq_int_str (Cr I q (by simp))
  |_=>exact absurd (show false=true from S) BR
 |str i=>
  obtain⟨t,rfl⟩:=rx;cases y with
  |non=>cases ry;exact PySem.EqNone.eq_str_none (Cr I q (by simp))
  |bl j=>cases ry;exact PySem.EqMixed.eq_str_bool (Cr I q (by simp))
  |int j=>obtain⟨T,rfl⟩:=ry;exact PySem.EqMixed.eq_str_int (Cr I q (by simp))
  |str j=>obtain⟨T,rfl⟩:=ry;exact eq_str (Cr I q WA)
  |_=>exact absurd (show false=true from S) BR
 |byt i=>
  obtain⟨t,rfl⟩:=rx;cases y with
  |byt j=>obtain⟨T,rfl⟩:=ry;exact PySem.W.eq_bytes (Cr I q Vz)
  |_=>exact absurd (show false=true from S) BR
 |_=>cases y <;> exact absurd (show false=true from S) BR
theorem MK:OpR X (compareOp .Lt) (rI0 λi j=>.bl<|decide (i<j)):=opB0 λ_ _ _ _ _ _ _ q=>lt_int q
theorem MQ:OpR X (compareOp .Gt) (rI0 λi j=>.bl<|decide (j<i)):=opB0 λ_ _ _ _ _ _ _ q=>gt_int q
theorem Zz2:OpR X (compareOp .GtE) (rI0 λi j=>.bl<|decide (j<=i)):=opB0 λ_ _ _ _ _ _ _ q=>ge_int q
theorem OpR.or (h:OpR X f r) (h':OpR X f r'):OpR X f (λx y H Q=>r x y H Q\/r' x y H Q):=by
 intro pins s Z H x y v u Q I rx ry q;rcases q with q|q
 ·exact h pins s Z H x y v u Q I rx ry q
 ·exact h' pins s Z H x y v u Q I rx ry q
theorem nomark (b:Expr) (h:op≠.In:=by decide) (h2:op≠.NotIn:=by decide):behindInMarks op b=false:=by
 have e:(op == CmpOp.In)=false:=by cases op <;> first|rfl|exact absurd rfl h
 have E:(op == CmpOp.NotIn)=false:=by cases op <;> first|rfl|exact absurd rfl h2
 cases b <;> simp[behindInMarks,e,E]
theorem Hj (ho:OpR X (compareOp op) r) (ha:PE X a ta) (hb:PE X b tb) (hm:behindInMarks op b=false):PE X (.Compare a [op] [b] pos) (tOp r ta tb):=by
 intro pins s Z H Q I h;exact wpAny_Compare1 (binT ha hb I h λv u S x y c i R Y q=>ho pins S Z c x y v u Q i R Y q) hm
def tTest (t:TE):TT:=λZ H Q=>t Z H λx h=>∃k,x=.bl k/\Q k h
theorem Bn (ho:OpR X (compareOp op) r) (ha:PE X a ta) (hb:PE X b tb) (hm:behindInMarks op b=false):PT X (.Compare a [op] [b] pos) (tTest<|tOp r ta tb):=by
 intro pins s Z H Q I h;refine wpAny_isTrue_Compare1 (thn (ha pins s Z H _ I h) λv s1 (x,H1,I1,r1,q1)=>thn (hb pins s1 Z H1 _ I1 q1) λu s2 (y,H2,I2,r2,q2)=>
  thn (ho pins s2 Z H2 x y v u _ I2 r1 r2 q2) λc s3 (z,H3,I3,r3,k,e,q3)=>?_) hm
 subst e;cases r3;exact wpAny_truthy_bool (H3,I3,q3)
def TruV (K:W.Frag) (x:V) (H:Hp) (k:Bool):Prop:=
 match x with
 |.non=>k=false
 |.bl b=>k=b
 |.int i=>k=(i != 0)
 |.str y=>y.length<=sizeLine/\k=((y.length:Int) != 0)
 |.byt y=>y.size<=sizeLine/\k=((y.size:Int) != 0)
 |.ref p=>(∃xs,SqL K H p xs/\k = !xs.isEmpty)\/(∃xs,SqT K H p xs/\k = !xs.isEmpty)\/∃kvs,H p=some (.dK kvs)/\k = !kvs.isEmpty
 |_=>False
theorem SH (r:KV kvs vs):(!vs.isEmpty) = !kvs.isEmpty:=by
 cases r <;> rfl
theorem NK (r:Vals xs its):(!its.toArray.isEmpty) = !xs.isEmpty:=by
 cases r <;> simp
theorem line63:(sizeLine:Nat)<2 ^ 63:=by rw[sizeLine_eq];decide
theorem Zyc:TruR X (λx H Q=>∃k,TruV X.K x H k/\Q k H):=by
 intro pins s Z H x v Q I rx h;obtain⟨k,e,q⟩:=h;have L:=line63;have f:sizeLine=16777216:=sizeLine_eq;cases x with
 |non=>
  cases rx;have E:k=false:=e;subst E;exact truthy_none (H,I,q)
 |bl b=>
  cases rx;have E:k=b:=e;subst E;exact wpAny_truthy_bool (H,I,q)
 |int i=>
  obtain⟨t,rfl⟩:=rx;have E:k=(i != 0):=e;subst E;exact PySem.P.truthy_int (H,I,q)
 |str y=>
  obtain⟨t,rfl⟩:=rx;obtain⟨Y,E⟩:y.length<=sizeLine/\k=((y.length:Int) != 0):=e;subst E;exact PySem.P.truthy_str (by lia) (H,I.tok _,q)
 |byt y=>
  obtain⟨t,rfl⟩:=rx;obtain⟨Y,E⟩:y.size<=sizeLine/\k=((y.size:Int) != 0):=e;subst E;exact PySem.W.truthy_bytes (by lia) (H,I.tok _,q)
 |ref p=>
  cases rx;have E:(∃a,SqL X.K H p a/\k = !a.isEmpty)\/(∃a,SqT X.K H p a/\k = !a.isEmpty)\/∃S,H p=some (.dK S)/\k = !S.isEmpty:=e;rcases E with ⟨a,c,E⟩|⟨a,c,E⟩|⟨S,c,E⟩
  ·subst E
   obtain⟨T,r,l,z⟩:=I.list c;have n:=r.length;exact wpAny_truthy_list l.isList (by simp only[Az];lia) (H,I.tok _,by rw[NK r];exact q)
  ·subst E
   obtain⟨T,r,l,z⟩:=I.tuple c;have n:=r.length;exact truthy_tuple l (by simp only[Az];omega) (H,I.tok _,by rw[NK r];exact q)
  ·subst E
   obtain⟨z,d,V,r,m⟩:S.length<=sizeLine/\(p == sysModules)=false/\∃V,KV S V/\s.heap.DictOf (mixKind X.prog X.w) p V:=I.hok p _ c;have n:S.length=V.length:=Paired.length r;exact wpAny_truthy_dict d m (by lia) (H,I.tok _,by rw[SH r];exact q)
 |_=>exact(show False from e).elim
theorem Tv (ha:PE X a ta) (he:∀whole,isTrue a X.env whole=(do let v <- whole;standAt a.pos;holding [v] (truthy v))) :
  PT X a (λZ H Q=>ta Z H λx H'=>∃k,TruV X.K x H' k/\Q k H'):=by
 intro pins s Z H Q I h;exact isTrue_plain (thn (ha pins s Z H _ I h) λv s1 (x,H1,I1,r1,q1)=>Zyc pins s1 Z H1 x v Q I1 r1 q1)<|he _
theorem vals1 (r:Vals [x] us):∃u,us=[u]/\RelV x u:=by
 cases r with
 |cons r1 r2=>cases r2;exact(_,rfl,r1)
theorem vals2 (r:Vals [x,y] us):∃u w',us=[u,w']/\RelV x u/\RelV y w':=by
 cases r with
 |cons r1 r2=>
  cases r2 with
  |cons r3 r4=>cases r4;exact(_,_,rfl,r1,r3)
theorem LM:CallR X (.builtin "abs") (λxs H Q=>∃i,xs=[.int i]/\Q (.int (if i<0 then -i else i)) H):=by
 intro pins s Z H xs us Q I r h;obtain⟨i,rfl,q⟩:=h;obtain⟨u,rfl,t,rfl⟩:=vals1 r;exact call_abs_int λu k=>(.int (if i<0 then -i else i),H,I.tok _,(_,rfl),q)
theorem LB (hc:X.calm=true):CallR X (.builtin "max") (λxs H Q=>∃i j,xs=[.int i,.int j]/\Q (.int (if j > i then j else i)) H):=by
 intro pins s Z H xs us Q I r h;obtain⟨i,j,rfl,q⟩:=h;obtain⟨u,w,rfl,⟨t,rfl⟩,⟨T,rfl⟩⟩:=vals2 r;refine max_two_ints (I.ok.hd hc) λa K k=>(_,H,I.kept k,?_,q);by_cases hj:j > i
 ·rw[AD hj,AD hj];exact(_,rfl)
 ·rw[AB hj,AB hj];exact(_,rfl)
theorem Iy (hc:X.calm=true):CallR X (.builtin "min") (λxs H Q=>∃i j,xs=[.int i,.int j]/\Q (.int (if j<i then j else i)) H):=by
 intro pins s Z H xs us Q I r h;obtain⟨i,j,rfl,q⟩:=h;obtain⟨u,w,rfl,⟨t,rfl⟩,⟨T,rfl⟩⟩:=vals2 r;refine min_two_ints (I.ok.hd hc) λa K k=>(_,H,I.kept k,?_,q);by_cases hj:j<i
 ·rw[AD hj,AD hj];exact(_,rfl)
 ·rw[AB hj,AB hj];exact(_,rfl)
end
structure ObjM (h:Heap) (x dx C:Addr) (mA:Str->Option Value):Prop where
 obj:h.get? x=some (PySem.W.instObj C dx)
 ns:h.Ns1 dx mA
 ne:dx≠x
theorem Tf {h:Heap}(n:h.Ns1 dx mA):∃od,h.get? dx=some od/\∀name,PySem.W.lookIn name od=some (mA name):=by
 obtain⟨o,s,p,O,d,K,_,m⟩:=n;refine(o,O,λname=>?_);have e:=m name;unfold nsFind findBy at e;rw[<- Array.find?_toList]at e;unfold PySem.W.lookIn;rw[d];dsimp only;split
 ·rename_i y q
  rw[q]at e;exact congrArg some e
 ·rename_i q
  rw[q]at e;have a:s.toList.any (·.refKey)=false:=by
   rw[List.any_eq_false];intro y hy;obtain⟨z,t,k⟩:=K y<|Array.mem_toList_iff.mp hy;simp[DictEntry.refKey,k]
  have A:¬ s.toList.any (·.refKey)=true:=by rw[a];exact BR
  rw[AB A];exact congrArg some e
theorem ObjM.look (I:ObjM h x dx C mA):∃od,PySem.W.InstAt h x (PySem.W.instObj C dx) C (some od)/\∀name,PySem.W.lookIn name od=some (mA name):=
 let ⟨od,ho,hl⟩:=Tf I.ns
 (od,(I.obj,rfl,rfl,ho),hl)
theorem RelO.some_of (r:RelO (some v) o):∃u,o=some u/\RelV v u:=by
 cases o with
 |none=>exact(show False from r).elim
 |some u=>exact(u,rfl,r)
section
variable {P:Program}{w:World}{H H':Hp}{h h':Heap}{a C dx:Addr}{fs fs':List (Str × V)}
theorem V9 (hok:HOk P w H h) (e:H a=some (.ins C dx fs)):∃mA,ObjM h a dx C mA/\(∀f,RelO (fs.lookup f) (mA f))/\PySem.Within mA (fs.map (·.1))/\fs.length<=1000/\H dx=some (.own a):=by
 obtain⟨d,z,ne,b,mA,n,r,q⟩:=(show ObjOk P w H h a (.ins C dx fs) from hok a _ e);exact(mA,(b,n,ne),r,q,z,d)
end
structure Jw (K:W.Frag) (C:Addr):Prop where
 pg:PySem.W.plainGet K C Str.empty=true
 hd:PySem.W.hasDictIn K C=true
 po:PySem.W.plainOver K C=true
 sa:PySem.W.findIn K (.ref C) "__setattr__" = some (some (.builtin "object.__setattr__"))
theorem Jw.get {K:W.Frag}(c:Jw K C) (f:Str):PySem.W.plainGet K C f=true:=c.pg
section
variable {X:Cx}{pins:Ai}{Z:St}{H:Hp}{s:Shared}{a C dx:Addr}{fs:List (Str × V)}{f:Str}{v:V}{A:Around}{E:AX}
end
section
variable {X:Cx}{pins:Ai}{Z:St}{H:Hp}{s:Shared}{A:Around}{E:AX}{Q:AX}{c:Value}{b:Bool}
inductive TyOf (K:W.Frag) (H:Hp):V->Value->Prop where
 |non:TyOf K H .non (.type "NoneType")
 |bl (x:Bool):TyOf K H (.bl x) (.type "bool")
 |int (i:Int):TyOf K H (.int i) (.type "int")
 |str (x:Str):TyOf K H (.str x) (.type "str")
 |flt (x:UInt64):TyOf K H (.flt x) (.type "float")
 |lst {a:Addr}{xs:List V}(e:H a=some (.lst xs)):TyOf K H (.ref a) (.type "list")
 |frz {a:Addr}{o:Obj}{xs:List V}(e:H a=some (.frz o (.lst xs))):TyOf K H (.ref a) (.type "list")
 |tup {a:Addr}{xs:List V}(e:H a=some (.tup xs)):TyOf K H (.ref a) (.type "tuple")
 |dK {a:Addr}{kvs:List (AO × V)}(e:H a=some (.dK kvs)):TyOf K H (.ref a) (.type "dict")
 |dT {a:Addr}{kvs:List (List AO × V)}(e:H a=some (.dT kvs)):TyOf K H (.ref a) (.type "dict")
 |ins {a C dx:Addr}{fs:List (Str × V)}(e:H a=some (.ins C dx fs)) (cl:Jw K C) (ha:PySem.W.findIn K (.ref C) "__class__" = some (some (.builtin "object.__class__")))
   (hn:PySem.W.specialIn K (.builtin "object.__class__") "__get__" = some (some (.builtin "getset_descriptor.__get__"))) (htk:PySem.W.takesIn K (.builtin "object.__class__")=some true)
   (hm:PySem.W.mroIn K C (.type "object")=some true):TyOf K H (.ref a) (.ref C)
theorem Tn {x:V}{u t:Value}(I:AG X pins Z H s) (rx:RelV x u) (ty:TyOf X.K H x t) (e:PySem.W.kitOne X.K t c=some b) (h:∀tk,Q (.bool b) { s with toks:=tk }) :
  wpAny (model X.prog X.w) A (call (.builtin "isinstance") [u,c]) Q E s:=by
 cases ty with
 |non=>cases (show u=Value.none from rx);exact PySem.W.kia_one PySem.W.kitx_none I.kIn True.intro e (λz=>nomatch z) h
 |bl y=>cases (show u=Value.bool y from rx);exact PySem.W.kia_one PySem.W.kitx_bool I.kIn True.intro e (λz=>nomatch z) h
 |int i=>obtain⟨t,q⟩:=(show ∃t,u=Value.int i t from rx);cases q;exact PySem.W.kia_one PySem.W.kitx_int I.kIn True.intro e (λz=>nomatch z) h
 |str y=>obtain⟨t,q⟩:=(show ∃t,u=Value.str y t from rx);cases q;exact PySem.W.kia_one PySem.W.kitx_str I.kIn True.intro e (λz=>nomatch z) h
 |flt y=>obtain⟨t,q⟩:=(show ∃t,u=Value.float y t from rx);cases q;exact PySem.W.kia_one PySem.W.kitx_float I.kIn True.intro e (λz=>nomatch z) h
 |@lst a S ea=>
  cases (show u=Value.ref a from rx);obtain⟨_,_,n,_,d⟩:=(show ObjOk X.prog X.w H s.heap a (.lst S) from I.hok a _ ea);exact PySem.W.kia_one PySem.W.kitx_list I.kIn (_,d,rfl) e (λz=>nomatch z) h
 |@frz a ob S ea=>
  cases (show u=Value.ref a from rx);obtain⟨_,_,_,n,_,d⟩:=(show ObjOk X.prog X.w H s.heap a (.frz ob (.lst S)) from I.hok a _ ea);exact PySem.W.kia_one PySem.W.kitx_list I.kIn (_,d,rfl) e (λz=>nomatch z) h
 |@tup a S ea=>
  cases (show u=Value.ref a from rx);obtain⟨_,_,_,p⟩:=(show ObjOk X.prog X.w H s.heap a (.tup S) from I.hok a _ ea);obtain⟨o,d,⟨f,_⟩,_⟩:=p;exact PySem.W.kia_one PySem.W.kitx_tuple I.kIn (o,d,f) e (λz=>nomatch z) h
 |@dK a kvs ea=>
  cases (show u=Value.ref a from rx);obtain⟨_,_,v,_,p⟩:=(show ObjOk X.prog X.w H s.heap a (.dK kvs) from I.hok a _ ea);obtain⟨o,g,P,d,f,_⟩:=p;exact PySem.W.kia_one PySem.W.kitx_dict I.kIn (o,d,f.1) e (λz=>nomatch z) h
 |@dT a kvs ea=>
  cases (show u=Value.ref a from rx);obtain⟨_,_,S,_,o,g,P,d,f,_⟩:=(show ObjOk X.prog X.w H s.heap a (.dT kvs) from I.hok a _ ea);exact PySem.W.kia_one PySem.W.kitx_dict I.kIn (o,d,f.1) e (λz=>nomatch z) h
 |@ins a C dx fs ea cl ha hn htk hm=>
  cases (show u=Value.ref a from rx);obtain⟨m,O,_⟩:=V9 I.hok ea;obtain⟨D,J,_⟩:=O.look;exact PySem.W.kia_one (PySem.W.kitx_own (cl.get _) cl.hd ha hn htk hm) I.kIn J e (λz=>nomatch z) h
end
structure Room (k:Nat) (A:Around):Prop where
 hd:A.handled=none
 dp:A.depth+3*k+5<recursionLimit
 un:A.units+16*k+200<cLine
 gd:A.guards=some []
theorem Room.mono (r:Room k A) (h:j<=k):Room j A:=(r.hd,by have:=r.dp;lia,by have:=r.un;lia,r.gd)
theorem Room.deeper (r:Room (k+1) A) (env:Env):Room k (A.deeper env):=
 (r.hd,by have:=r.dp;show A.depth+1+3*k+5<_;lia,by have:=r.un;show A.units+3+16*k+200<_;lia,r.gd)
theorem Room.depth (r:Room k A):A.depth<recursionLimit:=by have:=r.dp;lia
theorem Room.units (r:Room k A):A.units+64<cLine:=by have:=r.un;lia
def tNil:TA:=λ_ H Q=>Q [] H
def tCons (ta:TE) (tr:TA):TA:=λZ H Q=>ta Z H λx h=>tr Z h λs a=>Q (x::s) a
section
variable {X:Cx}{e:Expr}{es:List Expr}{te:TE}{t:TA}{pos:Pos}
theorem AL:PA X [] tNil:=λ_ _ _ _ H Q I h=>Calls.spliced_nil ([],H,I,.nil,h)
theorem AE (ha:PE X e te) (hr:PA X es t) (hs:starEach (e::es) X.env=(false,eval e X.env)::starEach es X.env:=by rfl):PA X (e::es) (tCons te t):=by
 intro pos pins s Z H Q I h;rw[hs];show wpAny _ _ (spliced ((false,eval e X.env)::backTo pos (starEach es X.env))) _ _ s;refine Calls.spliced_cons (thn (ha pins s Z H _ I h) λu s1 (x,H1,I1,r1,q1)=>?_);exact thn (hr pos pins s1 Z H1 _ I1 q1) λus s2 (xs,H2,I2,r2,q2)=>(x::xs,H2,I2,.cons r1 r2,q2)
def tTup (t:TA):TE:=λZ H Q=>t Z H λs h=>s.length<=sizeLine/\∀p,h p=none->Q (.ref p) (upd h p (.tup s))
def tLst (t:TA):TE:=λZ H Q=>t Z H λs h=>s.length<=sizeLine/\∀p,h p=none->Q (.ref p) (upd h p (.lst s))
theorem CS {x1} (h:PA X es t):PE X (.Tuple es x1 pos) (tTup t):=by
 intro pins s Z H Q I hq;refine wpAny_Tuple_spliced (thn (h pos pins s Z H _ I hq) λus s1 (xs,H1,I1,r,z,q)=>(by rw[<- r.length];exact z,?_));have f:H1 s1.heap.objs.size=none:=I1.hok.fresh<|AS _;refine(.ref s1.heap.objs.size,upd H1 s1.heap.objs.size (.tup xs),I1.laid (t':=s1.toks) (λb u e=>Au _ e) (AS _) ?_,rfl,q _ f);exact(z,us,r,(_,BP _ rfl,(rfl,_,rfl),rfl))
theorem FE (h:PA X es t):PE X (.List es pos) (tLst t):=by
 intro pins s Z H Q I hq;refine wpAny_List_spliced (thn (h pos pins s Z H _ I hq) λus s1 (xs,H1,I1,r,z,q)=>(by rw[<- r.length];exact z,?_));have f:H1 s1.heap.objs.size=none:=I1.hok.fresh<|AS _;refine(.ref s1.heap.objs.size,upd H1 s1.heap.objs.size (.lst xs),I1.laid (t':=s1.toks) (λb u e=>Au _ e) (AS _) ?_,rfl,q _ f);exact(z,us,0,r,BP _ rfl)
end
abbrev Sp:=List V->Hp->VK->XK->Prop
abbrev CXT:=List Env->Hp->Shared->XK->Value->Shared->Prop
structure Env0 (P:Program) (w:World) (K:W.Frag) (mg:Str->Option Value) (base:Heap) (A:Around) (outer:List Env) (s:Shared) (H:Hp):Prop where
 frames:A.frames=some outer
 mod:Mod K mg base
 bs:∀b o,base.get? b=some o->s.heap.get? b=some o/\H b=none
 bsz:base.objs.size<=s.heap.objs.size
 funs:s.heap.FunFrames base outer
 frf:∀b∈frs outer,H b=none
 hok:HOk P w H s.heap
 bare:AllBare s.gens
def CE (outer:List Env) (P:Program) (w:World) (H:Hp) (s:Shared) (Q:VK) (u:Value) (s':Shared):Prop:=
 ∃v H',s'.os=s.os/\AllBare s'.gens/\Un (frs outer) [] H H' s.heap s'.heap/\HOk P w H' s'.heap/\RelV v u/\Q v H'
def CR (CX:CXT) (outer:List Env) (P:Program) (w:World) (H:Hp) (s:Shared) (Q:VK) (E:XK) (r:Result) (s':Shared):Prop:=
 match r with
 |.ok (.ret u)=>CE outer P w H s Q u s'
 |.ok _=>False
 |.error e=>CX outer H s E e s'
structure FnOk (P:Program) (w:World) (K:W.Frag) (mg:Str->Option Value) (base:Heap) (CX:CXT) (k:Nat) (f:Addr) (fd:FuncData) (ps:List Str) (sp:Sp):Prop where
 len:∀vs H Q E,sp vs H Q E->vs.length=ps.length
 run:∀(A:Around) (outer:List Env) (s:Shared) (H:Hp) (args:Args) (us:List Value) (vs:List V) (Q:VK) (E:XK),Room k A->Env0 P w K mg base A outer s H->BindsTo s fd args (ps.zip us)->Vals vs us->sp vs H Q E ->
  codeAny (model P w) A (.call (.ref f) args) (CR CX outer P w H s Q E) s
theorem FnOk.imp {K:W.Frag}(F:FnOk P w K mg base CX k f fd ps sp)
  (h:∀vs H Q E,sp' vs H Q E->sp vs H Q E):FnOk P w K mg base CX k f fd ps sp':=
 (λvs H Q E q=>F.len vs H Q E<|h _ _ _ _ q,λA r s H g u vs Q E R e b v S=>F.run A r s H g u vs Q E R e b v<|h _ _ _ _ S)
section
variable {X:Cx}{pins:Ai}{Z:St}{H:Hp}{s s':Shared}
theorem AG.env0 (I:AG X pins Z H s):Env0 X.prog X.w X.K X.mg X.base X.A X.stack s H:=
 (I.ok.frames,I.ok.mod,I.bs,CW I.ok.bsz I.sz,I.stack,I.stkFree,I.hok,I.bare)
theorem AG.after (I:AG X pins Z H s) (h:CE X.stack X.prog X.w H s Q u s'):EP X pins Z Q u s':=by
 obtain⟨v,a,S,e,n,k,r,q⟩:=h;obtain⟨c,g,d,t,o⟩:=s';obtain rfl:o=s.os:=S;exact(v,a,I.call (h':=c) (g':=g) (d':=d) (t':=t) (ch:=[]) n k e (λb z=>absurd z<|by simp),r,q)
end
def tCall (sp:Sp) (dvs:List V) (E:XK) (t:TA):TE:=λZ H Q=>t Z H λs h=>sp (s++dvs) h Q E
def Binds (K:W.Frag) (fd:FuncData) (ps:List Str) (ds:List Value):Prop:=
 ∀(s:Shared) (us:List Value),K.In s.heap->(us++ds).length=ps.length->BindsTo s fd (us,[]) (ps.zip<|us++ds)
theorem Binds.all {K:W.Frag}(h:∀us:List Value,us.length=ps.length->bindArgs fd (us,[])=pure (ps.zip us)):Binds K fd ps []:=λs us _ l=>by
 rw[Bs]at l ⊢;exact .of_eq<|h us l
def Passes (CX:CXT) (X:Cx) (E:XK):Prop:=∀(pins:Ai) (Z:St) (H:Hp) (s:Shared) (e:Value) (s':Shared),AG X pins Z H s->CX X.stack H s E e s' -> X.xe e s'
section
variable {X:Cx}{CX:CXT}{k:Nat}{f C:Addr}{fd:FuncData}{ps:List Str}{sp:Sp}{dvs:List V}{ds:List Value}{E:XK}{x m:Str}{p pos apos:Pos}{e o:Expr}{es:List Expr}{ta:TE}{t:TA}
theorem Zzi (F:FnOk X.prog X.w X.K X.mg X.base CX k f fd ps sp) (hr:Room k X.A) (hb:Binds X.K fd ps ds) (hd:Vals dvs ds) (hx:Passes CX X E)
  (I:AG X pins Z H s) (r:Vals vs us) (h:sp (vs++dvs) H Q E):wpAny (model X.prog X.w) X.A (call (.ref f) us) (EP X pins Z Q) X.xe s:=by
 have R:Vals (vs++dvs) (us++ds):=r.append hd;have l:(us++ds).length=ps.length:=by rw[<- R.length];exact F.len _ _ _ _ h
 refine wpAny_call (codeAny_mono (F.run X.A X.stack s H (us,[]) (us++ds) (vs++dvs) Q E hr I.env0 (hb s us I.kIn l) R h) λr S q=>?_);cases r with
 |error e=>exact hx pins Z H s e S I q
 |ok fl=>
  cases fl with
  |ret u=>exact I.after q
  |next=>exact False.elim q
  |brk=>exact False.elim q
  |cont=>exact False.elim q
theorem U9 (F:FnOk X.prog X.w X.K X.mg X.base CX k f fd ps sp) (hr:Room k X.A) (hg:Gl X x) (hm:X.mg x=some (.ref f)) (hk:W.keepIn X.K (.ref f)=true) (hb:Binds X.K fd ps ds) (hd:Vals dvs ds) (hx:Passes CX X E)
  (ha:PA X (e::es) t) (hdb:(x == ("__debug__":Str))=false:=by decide) (he:starEach (e::es) X.env=(false,eval e X.env)::starEach es X.env:=by rfl) (hpl:(backTo pos<|starEach es X.env).any (·.1)=false:=by rfl) :
  PE X (.Call (.Name x p) (e::es) [] pos) (tCall sp dvs E t):=by
 intro pins s Z H Q I h;refine wpAny_Call_Name_kw<|Vo I hg hm ?_ hdb;refine PySem.W.callWith_K (h₀:=X.base) I.ok.mod.kin hk (thn (ha pos pins s Z H _ I h) λus s1 (vs,H1,I1,r,q)=>(I1.kIn,?_)) he hpl;exact Zzi F hr hb hd hx I1 r q
end
section
variable {X:Cx}{CX:CXT}{k:Nat}{f C:Addr}{fd:FuncData}{ps ks:List Str}{sp:Sp}{E:XK}{x m:Str}{p pos apos kpos:Pos}{e o:Expr}{es:List Expr}{kws:List Keyword}{te ta:TE}{t tk:TA}{nm:Option Str}
variable {g:List Value->List Value->List Value}{gV:List V->List V->List V}
end
structure FnScope (N P:List Str) (sc:Scope):Prop where
 kind:sc.kind=.function
 co:sc.isCoroutine=false
 gen:sc.isGenerator=false
 nd:N.Nodup
 pre:N.take P.length=P
 par:∀x∈P,sc.names.lookup x=some .local\/sc.names.lookup x=some .cell
 nofree:∀y∈sc.names,y.2≠.free
theorem Nd {kindOf:Str->Option NameKind}:∀{binds:List (Str × Value)}{m:Str->Option Value},(∀v,(x,v) ∉ binds)->bindL kindOf binds m x=m x
 |[],_,_=>rfl
 | (n,v)::r,m,h=>by
  unfold bindL;rw[Nd λw W=>h w (BQ _ W)];split
  ·have:x≠n:=by rintro rfl;exact h v Bh
   simp[this]
  ·rfl
theorem Na {kindOf:Str->Option NameKind}:∀{binds:List (Str × Value)}{m:Str->Option Value},(∀v,(x,v) ∉ binds)->bindC kindOf binds m x=m x
 |[],_,_=>rfl
 | (n,v)::r,m,h=>by
  unfold bindC;rw[Na λw W=>h w (BQ _ W)];split
  ·rfl
  ·have:x≠n:=by rintro rfl;exact h v Bh
   simp[this]
theorem NQ {kindOf:Str->Option NameKind}:∀{P:List Str}{vs:List Value}{i:Nat}{m:Str->Option Value},P.Nodup->P[i]?=some x->vs[i]?=some v->kindOf x=some .local ->
  bindL kindOf (P.zip vs) m x=some v
 |[],_,_,_,_,h,_,_=>by simp at h
 |_::_,[],_,_,_,_,h,_=>by simp at h
 |p::P,w::vs,0,m,nd,h1,h2,hk=>by
  simp at h1 h2;subst h1;subst h2;show bindL kindOf ((p,w)::P.zip vs) m p=_;unfold bindL;rw[Nd λv V=>(Ck.mp nd).1 (List.of_mem_zip V).1,AD hk];simp
 |p::P,w::vs,i+1,m,nd,h1,h2,hk=>by
  show bindL kindOf ((p,w)::P.zip vs) m x=_;unfold bindL;exact NQ (i:=i) (Ck.mp nd).2 (by simpa using h1) (by simpa using h2) hk
theorem NS {kindOf:Str->Option NameKind}:∀{P:List Str}{vs:List Value}{i:Nat}{m:Str->Option Value},P.Nodup->P[i]?=some x->vs[i]?=some v->kindOf x≠some .local ->
  bindC kindOf (P.zip vs) m x=some v
 |[],_,_,_,_,h,_,_=>by simp at h
 |_::_,[],_,_,_,_,h,_=>by simp at h
 |p::P,w::vs,0,m,nd,h1,h2,hk=>by
  simp at h1 h2;subst h1;subst h2;show bindC kindOf ((p,w)::P.zip vs) m p=_;unfold bindC;rw[Na λv V=>(Ck.mp nd).1 (List.of_mem_zip V).1,AB hk];simp
 |p::P,w::vs,i+1,m,nd,h1,h2,hk=>by
  show bindC kindOf ((p,w)::P.zip vs) m x=_;unfold bindC;exact NS (i:=i) (Ck.mp nd).2 (by simpa using h1) (by simpa using h2) hk
def start (N:List Str) (vs:List V):St:=vs.map some++Am (N.length-vs.length) none
def cxOf (CX:CXT) (P:Program) (w:World) (K:W.Frag) (mg:Str->Option Value) (base:Heap) (N:List Str) (qual:Str) (scope:Scope) (f:Addr) (cd:Value) (A:Around) (outer:List Env) (s:Shared) (H:Hp) (E:XK):Cx where
 prog:=P
 w:=w
 K:=K
 mg:=mg
 base:=base
 A:=A.deeper<|envOfC qual scope s.heap.objs.size f cd
 N:=N
 s₀:=s
 H₀:=H
 env:=envOfC qual scope s.heap.objs.size f cd
 outer:=outer
 stack:=envOfC qual scope s.heap.objs.size f cd::outer
 ex:=[]
 calm:=true
 fn:=λ_=>true
 pn:=[]
 xe:=λe b=>wpAny (model P w) (A.deeper<|envOfC qual scope s.heap.objs.size f cd) (leaving (envOfC qual scope s.heap.objs.size f cd) e) (λ_ S=>CX outer H s E e S) (λa S=>CX outer H s E a S) b
theorem OE {sc:Scope}(h:sc.names.lookup x=some .cell):∃c,(cellsFrom n sc.names []).lookup x=some c:=by
 have q:=PySem.W.cellsFrom_some sc.names n [] (.inl h);exact Option.isSome_iff_exists.mp q
theorem TR {CX:CXT}{P:Program}{w:World}{K:W.Frag}{mg:Str->Option Value}{base:Heap}{N ps:List Str}{qual:Str}{scope:Scope}{f:Addr}{cd:Value}{A:Around}{outer:List Env}{s s1:Shared}{H:Hp}{E:XK}{us:List Value}{vs:List V}
  (S:FnScope N ps scope) (hd:A.handled=none) (e0:Env0 P w K mg base A outer s H) (hl:vs.length=ps.length) (r:Vals vs us)
  (x:InCallC s s.heap.objs.size (bindL (envOfC qual scope s.heap.objs.size f cd).kindOf (ps.zip us) λ_=>none) (cellsFrom (s.heap.objs.size+1) scope.names []) (bindC (envOfC qual scope s.heap.objs.size f cd).kindOf (ps.zip us) λ_=>none) s1) :
  AG (cxOf CX P w K mg base N qual scope f cd A outer s H E) [] (start N vs) H s1:=by
 have L:ps.length<=N.length:=by have:=congrArg BN S.pre;rw[Bj]at this;lia
 obtain⟨j,T,rfl,l⟩:=x.done;have o:∀b:Addr,b ∉ (cxOf CX P w K mg base N qual scope f cd A outer s H E).ex:=λb z=>absurd (show b∈([]:List Addr) from z) (by simp);refine((e0.mod,S.kind,rfl,rfl,AS _,λy z c j d=>?_,λy Y=>?_,λy c _ h=>?_,λ_=>hd,Around.frames_deeper e0.frames,.inr (rfl,rfl),λb z=>absurd z (o b),e0.bs,e0.bsz,λb _ _=>o b,λb z=>absurd z (o b),e0.funs,e0.frf),
  rfl,e0.bare,Un.kept l,(_,x.toInCall.ns,λi y v j d t=>?_),λy c h=>(_,x.cell y c h),e0.hok.fresh (AS _),λy c h=>?_,λp g=>absurd (show p∈([]:Ai) from g) (by simp),e0.hok.kept l,?_)
 ·exact name_of_addr x.apart (PySem.mem_of_lookup j)<|PySem.mem_of_lookup d
 ·have Y:scope.names.lookup y=some .cell\/scope.names.lookup y=some .free:=Y
  rcases Y with Y|Y
  ·exact OE Y
  ·exact absurd rfl<|S.nofree _<|PySem.mem_of_lookup Y
 ·exact DW<|x.above y c<|PySem.mem_of_lookup h
 ·have I:i<vs.length:=by
   unfold start at d;by_cases I:i<vs.length
   ·exact I
   ·rw[CP (by simpa using I)]at d
    rw[Fv]at d;split at d <;> cases d
  have m:vs[i]?=some v:=by
   unfold start at d;rw[Cu (by simpa using I),AZ]at d;cases e:vs[i]? with
   |none=>rw[e]at d;cases d
   |some a=>rw[e]at d;cases d;rfl
  obtain⟨u,U,R⟩:=r.get m;have g:ps[i]?=some y:=by
   rw[<- S.pre,KA (by lia)];exact j
  have D:ps.Nodup:=by rw[<- S.pre];exact S.nd.sublist<|List.take_sublist _ _
  refine(u,R,?_);rcases S.par y (Bk g) with k|k
  ·exact .inl (k,NQ D g U k)
  ·obtain⟨c,e⟩:=OE (n:=s.heap.objs.size+1) k
   refine .inr (.inl k,c,e,?_);have q:=x.cell y c e;rw[NS D g U (by show scope.names.lookup y≠_;rw[k];decide)]at q;exact q
 ·exact e0.hok.fresh<|DW<|x.above y c<|PySem.mem_of_lookup h
 ·unfold start
  show _=N.length;rw[Aw,AK,CJ];lia
theorem Zz9 {CX:CXT}{P:Program}{w:World}{K:W.Frag}{mg:Str->Option Value}{base:Heap}{k:Nat}{f:Addr}{name qual:Str}{params:Arguments}{body:List Stmt}{scope:Scope}{dV kV doc pm cdv ct oc:Value}{an od:Option Addr}
  {osl:Array (Option Value)}{N ps:List Str}{sp:Sp}(lk:K.lookup f=some (oc,od,.func<|W.fnOf name qual params body scope dV kV doc pm an cdv ct,osl)) (hcd:W.codeIn K cdv qual=true) (S:FnScope N ps scope)
  (len:∀vs H Q E,sp vs H Q E->vs.length=ps.length)
  (hbody:∀(A:Around) (outer:List Env) (s:Shared) (H:Hp) (vs:List V) (Q:VK) (E:XK),Room k (A.deeper (envOfC qual scope s.heap.objs.size f cdv))->sp vs H Q E ->
   ∃t,PSs (cxOf CX P w K mg base N qual scope f cdv A outer s H E) body t/\t { nx:=λ_ H'=>Q .non H',rt:=Q } (start N vs) H) :
  FnOk P w K mg base CX (k+1) f (W.fnOf name qual params body scope dV kV doc pm an cdv ct) ps sp:=by
 refine(len,λA outer s H G U vs Q E R a B r p=>?_);have C:=len _ _ _ _ p;have X:K.In s.heap:=a.mod.kin.keeps λb o e=>(a.bs b o e).1;have m:s.heap.NoLimit:=a.mod.nolimit.keeps λb o e=>(a.bs b o e).1;have d:∀y∈ps.zip U,scope.names.lookup y.1=some .local\/(scope.names.lookup y.1=some .cell/\((cellsFrom (s.heap.objs.size+1) scope.names []).lookup y.1).isSome=true):=λ(n,v) hy=>by
  rcases S.par n (List.of_mem_zip hy).1 with q|q
  ·exact .inl q
  ·exact .inr (q,PySem.W.cellsFrom_some _ _ _ (.inl q))
 refine codeAny_call_function R.depth (X _ _ lk) rfl S.co S.gen rfl (PySem.W.codeRec_of X hcd)<|B _ _ _ _ ?_;refine wpAny_newFunctionEnv_cells S.kind d λl z j x=>?_;subst z;refine(m.keeps x.toInCall.keep,codeAny_func ?_);obtain⟨t,T,D⟩:=hbody A outer s H vs Q E (R.deeper _) p;have I:AG (cxOf CX P w K mg base N qual scope f cdv A outer s H E) [] (start N vs) H j:=TR S R.hd a C r x;refine Dz (T [] j (start N vs) H _ I D) (λL g h=>?_) λe g h=>h;have i:∀{Z:St}{H':Hp}{v:V}{u:Value},AG (cxOf CX P w K mg base N qual scope f cdv A outer s H E) [] Z H' g -> RelV v u->Q v H' -> CE outer P w H s Q u g:=
  λ{Z H' v u} J c q=>(v,H',J.os,J.bare,J.base,J.hok,c,q)
 cases L with
 |ret u=>
  obtain⟨v,Z,H',J,c,q⟩:=h;exact i J c q
 |next=>
  obtain⟨Z,H',J,q⟩:=h;exact i (v:=V.non) (u:=Value.none) J rfl q
 |brk=>
  obtain⟨_,_,_,q⟩:=h;exact False.elim q
 |cont=>
  obtain⟨_,_,_,q⟩:=h;exact False.elim q
section
variable {X:Cx}{x:Str}{p pos:Pos}{e:Expr}{es:List Expr}{t:TA}{id T:String}{r:List V->Hp->VK->Prop}
def tCB (r:List V->Hp->VK->Prop) (t:TA):TE:=λZ H Q=>t Z H λs h=>r s h Q
theorem A4 (hc:CallR X (.builtin id) r) (hg:Gl X x) (hm:X.mg x=none) (hv:bootBuiltins x=some (.builtin id)) (ha:PA X (e::es) t) (hn:x ≠ "__name__":=by decide) (hdb:(x == ("__debug__":Str))=false:=by decide)
  (he:starEach (e::es) X.env=(false,eval e X.env)::starEach es X.env:=by rfl) (hpl:(backTo pos<|starEach es X.env).any (·.1)=false:=by rfl):PE X (.Call (.Name x p) (e::es) [] pos) (tCB r t):=by
 intro pins s Z H Q I h;refine wpAny_Call_Name_kw<|Ej I hg hm hv ?_ hn hdb;exact PyProof.Rows.callWith_builtin1 (thn (ha pos pins s Z H _ I h) λus s1 (vs,H1,I1,r1,q1)=>hc pins s1 Z H1 vs us Q I1 r1 q1) he hpl
theorem FY (hc:CallR X (.type T) r) (hg:Gl X x) (hm:X.mg x=none) (hv:bootBuiltins x=some (.type T)) (ha:PA X (e::es) t) (hn:x ≠ "__name__":=by decide) (hdb:(x == ("__debug__":Str))=false:=by decide)
  (he:starEach (e::es) X.env=(false,eval e X.env)::starEach es X.env:=by rfl) (hpl:(backTo pos<|starEach es X.env).any (·.1)=false:=by rfl):PE X (.Call (.Name x p) (e::es) [] pos) (tCB r t):=by
 intro pins s Z H Q I h;refine wpAny_Call_Name_kw<|Ej I hg hm hv ?_ hn hdb;exact PyProof.Rows.callWith_type1 (thn (ha pos pins s Z H _ I h) λus s1 (vs,H1,I1,r1,q1)=>hc pins s1 Z H1 vs us Q I1 r1 q1) he hpl
theorem SK (hc:CallR X (.type T) r) (hg:Gl X x) (hm:X.mg x=none) (hv:bootBuiltins x=some (.type T)) (hn:x ≠ "__name__":=by decide) (hdb:(x == ("__debug__":Str))=false:=by decide) :
  PE X (.Call (.Name x p) [] [] pos) (tCB r tNil):=by
 intro pins s Z H Q I h;refine wpAny_Call_Name_kw<|Ej I hg hm hv ?_ hn hdb;exact PyProof.Rows.callWith_type0<|hc pins s Z H [] [] Q I .nil h
end
end L2
namespace HT
open PySem PyProof.Rows
def lexLt:List Int->List Int->Bool
 |[],[]=>false
 |[],_::_=>true
 |_::_,[]=>false
 |x::xs,y::ys=>if x=y then lexLt xs ys else decide (x<y)
theorem Rn (x y:Int) (xs ys:List Int):lexLt (x::xs) (y::ys)=if x=y then lexLt xs ys else decide (x<y):=rfl
theorem Qo:lexLt [] []=false:=rfl
theorem Qr (y:Int) (ys:List Int):lexLt [] (y::ys)=true:=rfl
theorem Qv (x:Int) (xs:List Int):lexLt (x::xs) []=false:=rfl
theorem T6 (A:Around) (s:Shared) (a:Int) (t:Tok) (c:Int) (u:Tok):∃e,SeqAt.EqAt A s (.int a t) (.int c u) e/\(e=true↔a=c):=
 ((a == c),SeqAt.EqAt.int_int a t c u,by simp)
theorem VF (A:Around) (s:Shared) (a:Int) (t:Tok) (c:Int) (u:Tok) (prog:Program) (w:World) (E:AX) (Q:AX) (h:Q (.bool<|decide (a<c)) s) :
  wpAny (model prog w) A (richCompare .Lt (.int a t) (.int c u)) Q E s:=
 (PyProof.Rows.lt_int h:wpAny (model prog w) A (compareOp .Lt (.int a t) (.int c u)) Q E s)
section
open PySem.SeqAt
open PySem.AutoSeq1 (wpAny_loadPart')
open PySem.MeetsSeq PySem.MeetsSeq2 PySem.MeetsSeq3
theorem tuple_lt_ints (l b:Addr) (items items2:Array Value) (n n2:Nat) (dd dd2:Option Addr) (sl sl2:Array (Option Value)) (ns ms:List Int) (hi:IntsAre items.toList ns) (hj:IntsAre items2.toList ms) :
  Meets (Builtin.«tuple.__lt__» ([.ref l,.ref b],[]))
   (λ_ R s=>s.heap.get? l=some { cls:=.type "tuple",dict:=dd,data:=.seq items n,slots:=sl } /\ s.heap.get? b=some { cls:=.type "tuple",dict:=dd2,data:=.seq items2 n2,slots:=sl2 } /\
    R (.ok (.ret (.bool (lexLt ns ms)))) s):=
 .of_wp λo w A R s h=>by
  obtain⟨p,g,d,k,O⟩:=s;obtain⟨L,D,h⟩:=h;have J:=AutoSeq1.sub_tuple_tuple;have Z:items.size=ns.length:=by rw[<- hi.length];simp
  have K:items2.size=ms.length:=by rw[<- hj.length];simp
  wp_walk using wpAny_loadPart' L,wpAny_loadPart' D,wpAny_forIn_list _ (λr b j=>b.1=none/\j=(p,g,d,k,O) /\ ∃(V W:List Value) (S m:List Int),r=V.zip W /\
   IntsAre V S /\ IntsAre W m /\ S.length+items2.size=m.length+items.size/\R (.ok (.ret (.bool (lexLt S m)))) (p,g,d,k,O)) _
  case turn=>
   rintro⟨y,x⟩ r b j ⟨B,rfl,V,W,S,m,z,v,i,N,H⟩;cases v with
   |nil=>rw[J8]at z;cases z
   |cons a t hvi'=>
    cases i with
    |nil=>rw[KO]at z;cases z
    |cons c u hwi'=>
     rw[FH]at z;injection z with hyx hrest
     injection hyx with hy hx
     subst hy hx;rw[Rn]at H;simp only[Aj]at N;obtain⟨e,E,f⟩:=T6 A.in1 (p,g,d,k,O) a t c u;refine AA<|E o w _ _ ?_;cases e with
     |true=>
      rw[AD (f.mp rfl)]at H
      wp_walk
      exact(rfl,rfl,_,_,_,_,hrest,hvi',hwi',by lia,H)
     |false=>
      rw[AB (λq=>absurd (f.mpr q) BR)]at H;have I:=VF A.in1 (p,g,d,k,O) a t c u o w
      wp_walk using I
      exact(_,rfl,by simpa using H)
  case fin=>
   rintro⟨F,G⟩ j ⟨B,rfl,V,W,S,m,z,v,i,N,H⟩;simp only at B;subst B;have C:lexLt S m=decide (items.size<items2.size):=by
    cases v with
    |nil=>
     cases i with
     |nil=>
      simp only[DE]at N;rw[Qo];exact(A7<|by lia).symm
     |cons c u hw=>
      simp only[DE,Aj]at N;rw[Qr];exact(A1<|by lia).symm
    |cons a t C=>
     cases i with
     |nil=>
      simp only[DE,Aj]at N;rw[Qv];exact(A7<|by lia).symm
     |cons c u hw=>
      rw[FH]at z;cases z
   rw[C]at H
   wp_walk
   exact(_,rfl,by simpa [Builtin.Tuple.tupleCompareSizes] using H)
  case h=>
   exact(rfl,rfl,items.toList,items2.toList,ns,ms,rfl,hi,hj,by lia,h)
end
section
variable {prog:Program}{w:World}{A:Around}{E:AX}{s:Shared}
theorem cat_tup (ht:IsTup s.heap t vs.toArray) (hb:IsTup s.heap b ws.toArray) (hv:vs≠[])
  (h1:ws=[]->Q (.ref t) s) (h2:ws≠[]->Q (.ref s.heap.objs.size) { s with heap:=s.heap.push { cls:=.type "tuple",data:=.seq (vs++ws).toArray } })
  (hsz:vs.length+ws.length<=sizeLine):wpAny (model prog w) A (binaryOp .Add (.ref t) (.ref b)) Q E s:=by
 obtain⟨⟨cls,D,data,L⟩,O,C,n,H⟩:=id ht;obtain⟨⟨S,d,a,l⟩,o,c,N,h⟩:=id hb;simp only at C H c h;subst C H c h;have e:vs.toArray++ws.toArray=(vs++ws).toArray:=by simp
 by_cases hw:ws=[]
 ·exact concat_meets (_,O,rfl) (_,o,rfl) noFill_tuple_add seq_tuple_add PySem.F.slot_tuple_add PySem.F.entry_tuple_add (PySem.F.args_tuple_add_2 _ _)
   (tuple_addW1 t b vs.toArray ws.toArray n N D d L l (by simpa using hv) (by simp[hw])) (O,o,h1 hw)
 ·refine concat_meets (_,O,rfl) (_,o,rfl) noFill_tuple_add seq_tuple_add PySem.F.slot_tuple_add PySem.F.entry_tuple_add (PySem.F.args_tuple_add_2 _ _)
   (tuple_addW2 t b vs.toArray ws.toArray n N D d L l (by simpa using hv) (by simpa using hw) (by rw[Az,Az];exact hsz)) (O,o,?_)
  rw[e];exact h2 hw
def sIx (n d:Nat):Option Int->Nat
 |none=>d
 |some v=>if v<0 then (v+(n:Int)).toNat else min v.toNat n
theorem WQ (n d:Nat) (hd:d<=n) (o:Option Int):sIx n d o<=n:=by
 cases o with
 |none=>exact hd
 |some v=>
  show (if v<0 then (v+(n:Int)).toNat else min v.toNat n)<=n;by_cases hv:v<0
  ·rw[AD hv];lia
  ·rw[AB hv];exact Nat.min_le_right _ _
theorem Ph (v:Int) (n d:Nat):(if v<0 then max (v+(n:Int)) 0 else min v (n:Int))=((sIx n d (some v):Nat):Int):=by
 show (if v<0 then max (v+(n:Int)) 0 else min v (n:Int))=(((if v<0 then (v+(n:Int)).toNat else min v.toNat n):Nat):Int);by_cases hv:v<0
 ·simp only[AD hv];lia
 ·simp only[AB hv];lia
theorem Rv (lo hi:Option Int) (n:Nat):Builtin.Slice.sliceAdjust lo hi 1 (n:Int)=(((sIx n 0 lo:Nat):Int),((sIx n n hi:Nat):Int)):=by
 have h:¬ ((1:Int)<0):=by lia
 unfold Builtin.Slice.sliceAdjust;simp only[h,if_false];refine Prod.ext ?_ ?_
 ·cases lo with
  |none=>rfl
  |some v=>exact Ph v n 0
 ·cases hi with
  |none=>rfl
  |some v=>exact Ph v n n
theorem Rr (i j:Nat):Builtin.Slice.slicePlaces (i:Int) (j:Int) 1=j-i:=by
 unfold Builtin.Slice.slicePlaces;have h:(1:Int) > 0:=by lia
 simp only[h,if_true,Int.ediv_one];split <;> lia
theorem K3 (p:IsPart v o) (h:Q o s):wpAny (model prog w) A (Builtin.Slice.slicePartIndex v) Q E s:=by
 cases p with
 |none=>exact slicePart_none h
 |int i t=>exact slicePart_int h
theorem Mf {sl:Addr}{vl vu:Value}{lo hi:Option Int}{n:Nat}{Q:Int × Int × Nat->Shared->Prop}(hs:s.heap.IsSliceOf sl vl vu .none) (pl:IsPart vl lo) (pu:IsPart vu hi)
  (h:Q (((sIx n 0 lo:Nat):Int),1,sIx n n hi-sIx n 0 lo) s):wpAny (model prog w) A (Builtin.Slice.sliceApplied (.ref sl)<|pure (n:Int)) Q E s:=by
 obtain⟨S,o,c,d⟩:=id hs;unfold Builtin.Slice.sliceApplied Builtin.Slice.sliceFields;refine AA<|AA<|wpAny_field o d (x:=vl) rfl<|AA<|wpAny_field o d (x:=vu) rfl<|AA<|wpAny_field o d (x:=.none) rfl<|AH ?_;refine AA<|slicePart_none ?_;show wpAny _ _ (if ((1:Int) == 0)=true then _ else _) _ _ s;rw[AB (by decide)];refine AA<|K3 pl<|AA<|K3 pu<|AA<|AH ?_;show wpAny _ _ (match Builtin.Slice.sliceAdjust lo hi 1 (n:Int) with|(lo,hi)=>pure ((lo,(1:Int),Builtin.Slice.slicePlaces lo hi 1):_×_×_)) _ _ s;rw[Rv lo hi n];show wpAny _ _ (pure ((((sIx n 0 lo:Nat):Int),(1:Int),Builtin.Slice.slicePlaces ((sIx n 0 lo:Nat):Int) ((sIx n n hi:Nat):Int) 1):_×_×_)) _ _ s;rw[Rr];exact AH h
theorem VB (xs:Array Value) (i k:Nat):((AR k).filterMap λ(m:Nat)=>xs[((i:Int)+(m:Int)*1).toNat]?).toArray=((xs.toList.drop i).take k).toArray:=by
 have e:(λ(m:Nat)=>xs[((i:Int)+(m:Int)*1).toNat]?)=λm=>xs[i+m]?:=by
  funext m
  have:((i:Int)+(m:Int)*1).toNat=i+m:=by lia
  rw[this]
 rw[e];have:=pick_run xs i k;rw[List.filterMap_map]at this;have E:((λx=>xs[x]?)∘λx=>i+x)=λm=>xs[i+m]?:=rfl;rw[E]at this;rw[this]
theorem getItem_tuple_cut {lo hi:Option Int}(ht:IsTup s.heap t items) (hs:s.heap.IsSliceOf sl vl vu .none) (pl:IsPart vl lo) (pu:IsPart vu hi)
  (hw:¬ (sIx items.size 0 lo=0/\sIx items.size items.size hi=items.size))
  (h:Q (.ref s.heap.objs.size) { s with heap:=s.heap.push { cls:=.type "tuple",data:=.seq ((items.toList.drop<|sIx items.size 0 lo).take (sIx items.size items.size hi-sIx items.size 0 lo)).toArray } })
  (hsz:items.size<=sizeLine):wpAny (model prog w) A (getItem (.ref t) (.ref sl)) Q E s:=by
 have e:sizeOk (.seq ((items.toList.drop<|sIx items.size 0 lo).take (sIx items.size items.size hi-sIx items.size 0 lo)).toArray):=by
  show ((items.toList.drop<|sIx items.size 0 lo).take (sIx items.size items.size hi-sIx items.size 0 lo)).toArray.size<=sizeLine;rw[Az,Bj,DD,Array.length_toList];omega
 have j:sIx items.size items.size hi<=items.size:=WQ _ _ (AS _) hi;obtain⟨O,S,c,d⟩:=id hs;have T:s.TypeIs (.ref sl) "slice":=(O,S,c);unfold getItem
 try with_reducible refine Bq ?_
 first|refine AA (AH ?_)|skip
 refine AA (wpAny_sequenceKey ht.typeIs (by decide) ?_);refine AA (wpAny_callSpecial?_slot (name:=Str.ofString "__getitem__") ht.typeIs PyProof.Rows.slot_tuple_getitem
  (wpAny_call_entry PyProof.Rows.slot_tuple_getitem ht.typeIs entry_tuple_getitem ?_ (args_tuple_getitem _ _)))
 show wpAny _ _ (Builtin.Tuple.tupleItemsOf (.ref t) >>= _) _ _ s;refine AA<|tupleItemsOf_ ht ?_;refine AA<|wpAny_typeOf T ?_;rw[AD (by decide)];refine AA<|Mf hs pl pu ?_;have o:¬ ((((sIx items.size 0 lo:Nat):Int) == 0 && (1:Int) == 1 && (sIx items.size items.size hi-sIx items.size 0 lo) == items.size)=true):=by
  intro q;rw[Cj,Cj]at q;have a:((sIx items.size 0 lo:Nat):Int)=0:=eq_of_beq q.1.1;have b:sIx items.size items.size hi-sIx items.size 0 lo=items.size:=eq_of_beq q.2;exact hw (by lia,by omega)
 show wpAny _ _ (if (((sIx items.size 0 lo:Nat):Int) == 0 && (1:Int) == 1 && (sIx items.size items.size hi-sIx items.size 0 lo) == items.size)=true then _ else _) _ _ s;rw[AB o,VB]
 first
  |exact AA (m:=Builtin.Tuple.tupleExact _) (wpAny_newObj_type (AH (_,rfl,AH h)) e)
  |exact AA (m:=Builtin.Tuple.tupleExact _) (wpAny_newObj_type (AA (AH (AH (_,rfl,AH h)))) e)
  |exact AA (AA (m:=Builtin.Tuple.tupleExact _) (wpAny_newObj_type (AH (AH (_,rfl,AH h))) e))
  |exact AA (AA (m:=Builtin.Tuple.tupleExact _) (wpAny_newObj_type (AH (_,rfl,AH h)) e))
end
end HT
namespace L2
open PySem PySem.Spec PyProof.Rows
abbrev TO:=St->Hp->(Option Int->Hp->Prop)->Prop
def PO (X:Cx) (e:Option Expr) (t:TO):Prop:=
 ∀(pins:Ai) (s:Shared) (Z:St) (H:Hp) (Q:Option Int->Hp->Prop),AG X pins Z H s->t Z H Q ->
  wpAny (model X.prog X.w) X.A (evalPart e X.env) (λu S=>∃o H',AG X pins Z H' S /\ IsPart u o/\Q o H') X.xe s
def tNoPart:TO:=λ_ H Q=>Q none H
def tPart (t:TE):TO:=λZ H Q=>t Z H λx h=>∃i,x=.int i/\Q (some i) h
theorem K5:∀{us:List Value},Vals (ns.map V.int) us->IntsAre us ns:=by
 induction ns with
 |nil=>intro us r;rw[IH]at r;cases r;exact .nil
 |cons n ns ih=>
  intro us r;rw[BX]at r;cases r with
  |cons r1 r2=>
   obtain⟨t,e⟩:=r1;subst e;exact .cons n t<|ih r2
section
variable {X:Cx}{e:Expr}{te:TE}{lo hi:Option Expr}{tl th:TO}{pos p2:Pos}
theorem Lo:PO X none tNoPart:=by
 intro pins s Z H Q I h;rw[evalPart_none];exact AH (none,H,I,.none,h)
theorem Ja (h:PE X e te):PO X (some e) (tPart te):=by
 intro pins s Z H Q I hw;rw[evalPart_some];refine thn (h pins s Z H _ I hw) λu s1 (x,H1,I1,r1,q1)=>?_;obtain⟨i,rfl,q⟩:=q1;obtain⟨t,rfl⟩:=r1;exact(some i,H1,I1,.int i t,q)
def SlR (X:Cx) (r:V->Option Int->Option Int->Hp->VK->Prop):Prop:=
 ∀(pins:Ai) (s:Shared) (Z:St) (H:Hp) (x:V) (v vl vu:Value) (lo hi:Option Int) (sl:Addr) (Q:VK),AG X pins Z H s->RelV x v->s.heap.IsSliceOf sl vl vu .none->IsPart vl lo->IsPart vu hi->r x lo hi H Q ->
  ∃T id,typeLookup (.type T) "__getitem__" = pure (some (.builtin id))/\s.TypeIs v T/\wpAny (model X.prog X.w) X.A (getItem v (.ref sl)) (EP X pins Z Q) X.xe s
theorem SlR.or (h:SlR X r) (h':SlR X r'):SlR X (λx lo hi H Q=>r x lo hi H Q\/r' x lo hi H Q):=by
 intro pins s Z H x v vl vu lo hi sl Q I rx hs pl pu q;rcases q with q|q
 ·exact h pins s Z H x v vl vu lo hi sl Q I rx hs pl pu q
 ·exact h' pins s Z H x v vl vu lo hi sl Q I rx hs pl pu q
def tSl (r:V->Option Int->Option Int->Hp->VK->Prop) (te:TE) (tl th:TO):TE:=λZ H Q=>te Z H λx h=>tl Z h λl a=>th Z a λu b=>r x l u b Q
theorem LS (hr:SlR X r) (he:PE X e te) (hl:PO X lo tl) (hu:PO X hi th):PE X (.Subscript e (.Slice lo hi none p2) pos) (tSl r te tl th):=by
 intro pins s Z H Q I h;refine Subscript_ (thn (he pins s Z H _ I h) λv s1 (x,H1,I1,r1,q1)=>?_);refine wpAny_Slice (thn (hl pins s1 Z H1 _ I1 q1) λvl s2 (l,H2,I2,pl,q2)=>thn (hu pins s2 Z H2 _ I2 q2) λvu s3 (u,H3,I3,pu,q3)=>?_);rw[evalPart_none];refine AH ?_;have i:AG X pins Z H3 { s3 with heap:=s3.heap.push { cls:=.type "slice",data:=.fields #[vl,vu,.none] } }:=I3.kept (t':=s3.toks) λb o q=>Au _ q;obtain⟨T,id,t,a,g⟩:=hr pins { s3 with heap:=s3.heap.push { cls:=.type "slice",data:=.fields #[vl,vu,.none] } } Z H3 x v vl vu l u s3.heap.objs.size Q i r1 (Heap.IsSliceOf.new ..) pl pu q3;show wpAny (model X.prog X.w) X.A (subscriptTail e (.Slice lo hi none p2) v (.ref s3.heap.objs.size)) (EP X pins Z Q) X.xe { s3 with heap:=s3.heap.push { cls:=.type "slice",data:=.fields #[vl,vu,.none] } };exact tail_any (ops:=[.ref s3.heap.objs.size,v]) a t g (by with_unfolding_all rfl)
def cutV (xs:List V) (lo hi:Option Int):List V:=(xs.drop<|HT.sIx xs.length 0 lo).take (HT.sIx xs.length xs.length hi-HT.sIx xs.length 0 lo)
theorem Mv (xs:List V) (lo hi:Option Int):(cutV xs lo hi).length<=xs.length:=by
 unfold cutV;rw[Bj,DD];lia
def rSlT (K:W.Frag):V->Option Int->Option Int->Hp->VK->Prop:=λx o i H Q=>∃a xs,x=.ref a/\SqT K H a xs /\
 ¬ (HT.sIx xs.length 0 o=0/\HT.sIx xs.length xs.length i=xs.length)/\∀p,H p=none->Q (.ref p) (upd H p (.tup<|cutV xs o i))
theorem Wk:SlR X (rSlT X.K):=by
 intro pins s Z H x v vl vu lo hi sl Q I rx hs pl pu h;obtain⟨a,S,rfl,c,w,q⟩:=h;cases rx;obtain⟨t,r,T,z⟩:=I.tuple c;have n:t.toArray.size=S.length:=by rw[Az];exact r.length.symm
 refine("tuple",_,PyProof.Rows.slot_tuple_getitem.lookup,T.typeIs,?_);refine HT.getItem_tuple_cut T hs pl pu (by rw[n];exact w) ?_ (by rw[n];exact z);rw[n];refine(.ref s.heap.objs.size,_,I.laid (t':=s.toks) (o:=.tup<|cutV S lo hi) (λb B q=>Au _ q) (AS _) ?_,rfl,q _<|I.hok.fresh<|AS _);exact(CW (Mv S lo hi) z,_,(r.drop<|HT.sIx S.length 0 lo).take (HT.sIx S.length S.length hi-HT.sIx S.length 0 lo),IsTupN.new _ _)
def rCatT (K:W.Frag):R2:=λx y H Q=>∃a b xs ys,x=.ref a/\y=.ref b/\SqT K H a xs/\SqT K H b ys/\xs≠[]/\xs.length+ys.length<=sizeLine /\
 (ys=[]->Q (.ref a) H)/\(ys≠[]->∀p,H p=none->Q (.ref p) (upd H p (.tup<|xs++ys)))
theorem Vals.nil_iff (r:Vals xs us):us=[]↔xs=[]:=by
 cases r with
 |nil=>simp
 |cons _ _=>simp
theorem WY:OpR X (binaryOp .Add) (rCatT X.K):=by
 intro pins s Z H x y v u Q I rx ry h;obtain⟨a,b,S,Y,rfl,rfl,A,B,d,c,e,f⟩:=h;cases rx;cases ry;obtain⟨i,R,p,_⟩:=I.tuple A;obtain⟨t,r,P,_⟩:=I.tuple B;refine HT.cat_tup p P (λz=>d<|R.nil_iff.mp z) (λz=>(.ref a,H,I,rfl,e<|r.nil_iff.mp z)) (λz=>?_) (by rw[<- R.length,<- r.length];exact c);refine(.ref s.heap.objs.size,_,I.laid (t':=s.toks) (o:=.tup<|S++Y) (λb O q=>Au _ q) (AS _) ?_,rfl,f (λw=>z<|r.nil_iff.mpr w) _<|I.hok.fresh<|AS _);exact(by rw[Aw];exact c,_,R.append r,IsTupN.new _ _)
end
def ixN (n:Nat) (i:Int):Option Nat:=if 0<=i then (if i<n then some i.toNat else none) else if -(n:Int)<=i then some (i+n).toNat else none
def atI {α:Type}(xs:List α) (i:Int):Option α:=(ixN xs.length i).bind λj=>xs[j]?
theorem PN (h:ixN n i=some j):seqIndex? i n=some j/\j<n /\ -(n:Int)<=i/\i<n:=by
 unfold ixN at h;by_cases h0:0<=i
 ·rw[AD h0]at h
  by_cases h1:i<n
  ·rw[AD h1]at h
   have e:i.toNat=j:=BY.inj h;exact(by rw[seqIndex_of h0 h1,e],by lia,by lia,h1)
  ·rw[AB h1]at h;cases h
 ·rw[AB h0]at h
  by_cases h1:-(n:Int)<=i
  ·rw[AD h1]at h
   have e:(i+n).toNat=j:=BY.inj h;exact(by rw[seqIndex_neg (by lia) h1,e],by lia,h1,by lia)
  ·rw[AB h1]at h;cases h
theorem Lu (h:atI xs i=some v):∃j,seqIndex? i xs.length=some j/\xs[j]?=some v/\j<xs.length /\ -(xs.length:Int)<=i/\i<xs.length:=by
 unfold atI at h;cases e:ixN xs.length i with
 |none=>rw[e]at h;cases h
 |some j=>
  rw[e]at h;obtain⟨H,a,b,c⟩:=PN e;exact(j,H,h,a,b,c)
theorem CG {xs:List α}{j:Nat}{v:α}(h:xs[j]?=some v):atI xs (j:Int)=some v:=by
 have J:j<xs.length:=(BB.mp h).1;have e:ixN xs.length (j:Int)=some j:=by
  unfold ixN;rw[AD (by lia),AD (by lia)];simp
 unfold atI;rw[e];exact h
theorem LY (xs:List α) (v:α):atI (xs++[v]) (-1)=some v:=by
 have l:(xs++[v]).length=xs.length+1:=by simp
 have e:ixN (xs++[v]).length (-1)=some xs.length:=by
  unfold ixN;rw[l,AB (by decide),AD (by lia)];congr 1;lia
 unfold atI;rw[e];show (xs++[v])[xs.length]?=some v;simp
def PlainIx (b:Expr):Prop:=∀o i,subscripted b false o i=operate [o,i] (getItem o i)
def IxR (X:Cx) (r:R2):Prop:=
 ∀(value slice:Expr) (pins:Ai) (s:Shared) (Z:St) (H:Hp) (x y:V) (v u:Value) (Q:VK),AG X pins Z H s->RelV x v->RelV y u->r x y H Q ->
  subscripted slice false v u=operate [v,u] (getItem v u)->wpAny (model X.prog X.w) X.A (subscriptTail value slice v u) (EP X pins Z Q) X.xe s
def MtR (X:Cx) (id:String) (r:V->List V->Hp->VK->Prop):Prop:=
 ∀(pins:Ai) (s:Shared) (Z:St) (H:Hp) (x:V) (xs:List V) (v:Value) (us:List Value) (Q:VK),AG X pins Z H s->RelV x v->Vals xs us->r x xs H Q ->
  wpAny (model X.prog X.w) X.A (call (.builtin id) (v::us)) (EP X pins Z Q) X.xe s
section
variable {X:Cx}{a b:Expr}{ta tb:TE}{pos:Pos}
theorem IxR.or (h:IxR X r) (h':IxR X r'):IxR X (λx y H Q=>r x y H Q\/r' x y H Q):=by
 intro value slice pins s Z H x y v u Q I rx ry q hs;rcases q with q|q
 ·exact h value slice pins s Z H x y v u Q I rx ry q hs
 ·exact h' value slice pins s Z H x y v u Q I rx ry q hs
theorem Ak (hr:IxR X r) (ha:PE X a ta) (hb:PE X b tb) (hs:PlainIx b):PE X (.Subscript a b pos) (tOp r ta tb):=by
 intro pins s Z H Q I h;exact Subscript_ (binT ha hb I h λv u S x y c i R Y q=>hr a b pins S Z c x y v u Q i R Y q<|hs _ _)
def rIxL (K:W.Frag):R2:=λx y H Q=>∃p xs i v,x=.ref p/\y=.int i/\SqL K H p xs/\atI xs i=some v/\Q v H
def rIxT (K:W.Frag):R2:=λx y H Q=>∃p xs i v,x=.ref p/\y=.int i/\SqT K H p xs/\atI xs i=some v/\Q v H
def rIxS:R2:=λx y H Q=>∃z i c,x=.str z/\y=.int i/\z.length<=sizeLine/\atI z.cps.toList i=some c/\Q (.str ⟨#[c]⟩) H
theorem WL:IxR X (rIxL X.K):=by
 intro value slice pins s Z H x y v u Q I rx ry h hs;obtain⟨p,o,i,z,rfl,rfl,f,E,q⟩:=h;cases rx;obtain⟨t,rfl⟩:=ry;obtain⟨S,r,l,m⟩:=I.list f;obtain⟨j,a,b,k,c,d⟩:=Lu E;obtain⟨w,e,W⟩:=r.get b;have L:=r.length;have N:=line63;have n:EP X pins Z Q w s:=(z,H,I,W,q);by_cases h0:0<=i
 ·have J:i.toNat=j:=by
   rw[seqIndex_of h0 d]at a;exact BY.inj a
  exact item_listR l.isList h0 (by lia) (by rw[J];simpa using e) n hs
 ·have J:(i+(S.toArray.size:Int)).toNat=j:=by
   rw[seqIndex_neg (by lia) c]at a;rw[Az,<- L];exact BY.inj a
  exact subscriptTail_builtinR (x:=w) l.isList.typeIs slot_list_getitem.lookup
   (wpAny_getItem_list_neg (Q:=λr g=>r=w/\EP X pins Z Q r g) l.isList (by omega) (by rw[Az] <;> lia) (by lia) (by rw[J];simpa using e) (rfl,n)) hs
theorem Zy6:IxR X (rIxT X.K):=by
 intro value slice pins s Z H x y v u Q I rx ry h hs;obtain⟨p,o,i,z,rfl,rfl,c,E,q⟩:=h;cases rx;obtain⟨t,rfl⟩:=ry;obtain⟨S,r,l,m⟩:=I.tuple c;obtain⟨j,a,b,f,g,k⟩:=Lu E;obtain⟨w,e,W⟩:=r.get b;have L:=r.length;have N:=line63;have n:EP X pins Z Q w s:=(z,H,I,W,q);exact subscriptTail_builtinR (x:=w) l.typeIs slot_tuple_getitem.lookup
  (getItem_tuple (j:=j) (Q:=λr d=>r=w/\EP X pins Z Q r d) l (by lia) (by lia) (by rw[Az,<- L];exact a) (by simpa using e) (rfl,n)) hs
theorem Zzo:IxR X rIxS:=by
 intro value slice pins s Z H x y v u Q I rx ry h hs;obtain⟨z,i,c,rfl,rfl,m,g,q⟩:=h;obtain⟨t,rfl⟩:=rx;obtain⟨T,rfl⟩:=ry;obtain⟨j,a,b,k,d,f⟩:=Lu g;have l:z.cps.toList.length=z.length:=by simp[Str.length]
 rw[l]at a d f;have n:=line63;exact tail_any (typeIs_str s z t) slot_str_getitem.lookup (getItem_str (c:=c) (by
  have e:decide (i < -(2 ^ 63:Int))=false:=A7 (by lia);have E:decide (i >= 2 ^ 63)=false:=A7 (by lia);rw[e,E,Bool.or_false]) (by rw[a];simpa using b) (.str ⟨#[c]⟩,H,I.tok _,(_,rfl),q)) hs
def rIx (K:W.Frag):R2:=λx y H Q=>rIxL K x y H Q\/rIxT K x y H Q\/rIxS x y H Q
theorem Wj:IxR X (rIx X.K):=WL.or<|Zy6.or Zzo
theorem R0 (its:List Value) (n j:Nat) (u:Value):Obj.mapSeq (·.setIfInBounds j u) { cls:=.type "list",data:=.seq its.toArray n } = { cls:=.type "list",data:=.seq (its.set j u).toArray n }:=by
 simp[Obj.mapSeq]
theorem AG.lst {pins:Ai}{Z:St}{H:Hp}{s:Shared}{p:Addr}{xs:List V}(I:AG X pins Z H s) (h:H p=some (.lst xs)) :
  ∃(its:List Value) (n:Nat),Vals xs its/\s.heap.get? p=some { cls:=.type "list",data:=.seq its.toArray n } /\ xs.length<=sizeLine:=by
 obtain⟨z,its,n,r,e⟩:=I.hok p _ h;exact(its,n,r,e,z)
theorem AG.lstUpd {pins:Ai}{Z:St}{H:Hp}{s:Shared}{p:Addr}{xs ys:List V}{its its':List Value}{n n':Nat}{f:Obj->Obj}(I:AG X pins Z H s) (h:H p=some (.lst xs))
  (ho:s.heap.get? p=some { cls:=.type "list",data:=.seq its.toArray n }) (hf:f { cls:=.type "list",data:=.seq its.toArray n } = { cls:=.type "list",data:=.seq its'.toArray n' }) (r:Vals ys its') (hz:ys.length<=sizeLine) (t:Nat) :
  AG X pins Z (upd H p (.lst ys)) { s with heap:=s.heap.update p f,toks:=t }:=by
 have e:(s.heap.update p f).get? p=some { cls:=.type "list",data:=.seq its'.toArray n' }:=by
  rw[EM f ho (by rw[hf] <;> rfl),hf]
 refine I.write (x:=p) (e:=p) (by rw[h];trivial) (.inl rfl) (λb u B q=>(EK _ _<|Ne.symm B).trans q) (_,e) ?_;exact(hz,its',n',r,e)
def rSetL:V->V->V->Hp->(Hp->Prop)->Prop:=λo i v H Q=>∃p xs k j,o=.ref p/\i=.int k/\H p=some (.lst xs)/\ixN xs.length k=some j/\Q (upd H p (.lst<|xs.set j v))
theorem Uk:PSet X rSetL:=by
 intro pins s Z H o i v ov iv u Q I ro ri rv h;obtain⟨p,x,k,j,rfl,rfl,P,J,q⟩:=h;cases ro;obtain⟨t,rfl⟩:=ri;obtain⟨S,n,r,O,z⟩:=I.lst P;obtain⟨a,e,c,d⟩:=PN J;have l:=r.length;have N:=line63;have b:AG X pins Z (upd H p (.lst<|x.set j v)) { s with heap:=s.heap.update p (Obj.mapSeq (·.setIfInBounds j u)) }:=
  I.lstUpd P O (R0 S n j u) (r.set rv j) (by rw[FP];exact z) s.toks
 by_cases h0:0<=k
 ·have K:k.toNat=j:=by
   rw[seqIndex_of h0 d]at a;exact BY.inj a
  exact PySem.W.ki_setAt O h0 (by lia) (by rw[Az,<- l];exact d) (by rw[K];exact(_,b,q))
 ·have K:(k+(S.toArray.size:Int)).toNat=j:=by
   rw[seqIndex_neg (by lia) c]at a;rw[Az,<- l];exact BY.inj a
  exact PySem.W.ki_setBack O (by omega) (by rw[Az,<- l];exact c) (by lia) (by rw[K];exact(_,b,q))
theorem RA (lo hi:Option Int) (n:Nat):(sliceBounds lo hi none n).1=((HT.sIx n 0 lo:Nat):Int)/\(sliceBounds lo hi none n).2.1=((HT.sIx n n hi:Nat):Int)/\(sliceBounds lo hi none n).2.2=1:=by
 refine(?_,?_,rfl)
 ·cases lo with
  |none=>simp[sliceBounds,HT.sIx]
  |some i=>
   simp only[sliceBounds,HT.sIx,J7,show (1:Int) > 0 by decide,if_true];by_cases h:i<0
   ·simp only[h,if_true] <;> lia
   ·simp only[h,if_false] <;> lia
 ·cases hi with
  |none=>simp[sliceBounds,HT.sIx]
  |some i=>
   simp only[sliceBounds,HT.sIx,J7,show (1:Int) > 0 by decide,if_true];by_cases h:i<0
   ·simp only[h,if_true] <;> omega
   ·simp only[h,if_false] <;> omega
theorem Q6 (its:List Value) (lo hi:Option Int):slicePick its.toArray lo hi none=((its.drop<|HT.sIx its.length 0 lo).take (HT.sIx its.length its.length hi-HT.sIx its.length 0 lo)).toArray:=by
 obtain⟨h,H,a⟩:=RA lo hi its.toArray.size;unfold slicePick;rw[h,H,a];simp only[sliceRange_one,pick_run,Az] <;> rfl
def rSlL (K:W.Frag):V->Option Int->Option Int->Hp->VK->Prop:=λx o i H Q=>∃a xs,x=.ref a/\SqL K H a xs/\∀p,H p=none->Q (.ref p) (upd H p (.lst<|cutV xs o i))
theorem VR:SlR X (rSlL X.K):=by
 intro pins s Z H x v vl vu lo hi sl Q I rx hs pl pu h;obtain⟨a,S,rfl,c,q⟩:=h;cases rx;obtain⟨i,r,t,z⟩:=I.list c;have n:=r.length;refine("list",_,slot_list_getitem.lookup,t.isList.typeIs,?_);refine wpAny_getItem_list_slice t.isList hs pl pu .none (by simp) ?_ (by rw[Az] <;> lia)
 rw[Q6,<- n];refine(.ref s.heap.objs.size,_,I.laid (t':=s.toks) (o:=.lst<|cutV S lo hi) (λb B q=>Au _ q) (AS _) ?_,rfl,q _<|I.hok.fresh<|AS _);exact(CW (Mv S lo hi) z,_,0,(r.drop<|HT.sIx S.length 0 lo).take (HT.sIx S.length S.length hi-HT.sIx S.length 0 lo),BP _ rfl)
def flatV:V->Bool
 |.non=>true
 |.bl _=>true
 |.int _=>true
 |.str _=>true
 |_=>false
def eqV:V->V->Bool
 |.non,.non=>true
 |.bl a,.bl b=>a == b
 |.bl a,.int b=>(if a then 1 else 0) == b
 |.int a,.bl b=>a == (if b then 1 else 0)
 |.int a,.int b=>a == b
 |.str a,.str b=>a == b
 |_,_=>false
theorem Zyh (ry:RelV y u) (rx:RelV x v) (fy:flatV y=true) (fx:flatV x=true):SeqAt.EqAt A s u v (eqV y x):=by
 cases y with
 |non=>
  cases ry;cases x with
  |non=>cases rx;exact SeqAt.EqAt.same _
  |bl b=>cases rx;exact SeqAt.EqAt.none_bool b
  |int b=>obtain⟨t,rfl⟩:=rx;exact SeqAt.EqAt.none_int b t
  |str b=>obtain⟨t,rfl⟩:=rx;exact SeqAt.EqAt.none_str b t
  |_=>exact absurd (show false=true from fx) BR
 |bl a=>
  cases ry;cases x with
  |non=>cases rx;exact SeqAt.EqAt.bool_none a
  |bl b=>cases rx;exact SeqAt.EqAt.bool_bool a b
  |int b=>obtain⟨t,rfl⟩:=rx;exact SeqAt.EqAt.bool_int a b t
  |str b=>obtain⟨t,rfl⟩:=rx;exact SeqAt.EqAt.bool_str a b t
  |_=>exact absurd (show false=true from fx) BR
 |int a=>
  obtain⟨T,rfl⟩:=ry;cases x with
  |non=>cases rx;exact SeqAt.EqAt.int_none a T
  |bl b=>cases rx;exact SeqAt.EqAt.int_bool a T b
  |int b=>obtain⟨t,rfl⟩:=rx;exact SeqAt.EqAt.int_int a T b t
  |str b=>obtain⟨t,rfl⟩:=rx;exact SeqAt.EqAt.int_str a T b t
  |_=>exact absurd (show false=true from fx) BR
 |str a=>
  obtain⟨T,rfl⟩:=ry;cases x with
  |non=>cases rx;exact SeqAt.EqAt.str_none a T
  |bl b=>cases rx;exact SeqAt.EqAt.str_bool a T b
  |int b=>obtain⟨t,rfl⟩:=rx;exact SeqAt.EqAt.str_int a T b t
  |str b=>obtain⟨t,rfl⟩:=rx;exact SeqAt.EqAt.str_str a T b t
  |_=>exact absurd (show false=true from fx) BR
 |_=>exact absurd (show false=true from fy) BR
def eqU (x:V) (u:Value):Bool:=match u with
 |.none=>eqV .non x
 |.bool b=>eqV (.bl b) x
 |.int i _=>eqV (.int i) x
 |.str z _=>eqV (.str z) x
 |_=>false
theorem P1 (r:RelV y u) (f:flatV y=true):eqU x u=eqV y x:=by
 cases y with
 |non=>cases r;rfl
 |bl b=>cases r;rfl
 |int i=>obtain⟨t,rfl⟩:=r;rfl
 |str z=>obtain⟨t,rfl⟩:=r;rfl
 |_=>exact absurd (show false=true from f) BR
theorem RB:CallR X (.builtin "len") (λxs H Q=>∃p ys,xs=[.ref p]/\(SqL X.K H p ys\/SqT X.K H p ys)/\Q (.int ys.length) H):=by
 intro pins s Z H xs us Q I r h;obtain⟨p,ys,rfl,a,q⟩:=h;obtain⟨u,rfl,x⟩:=vals1 r;cases x;have N:=line63;rcases a with a|a
 ·obtain⟨t,R,l,z⟩:=I.list a
  have n:=R.length;exact Calls.call_len_list l.isList (by simp only[Az] <;> lia) (.int ys.length,H,I.tok _,(s.toks+1,by rw[Az,n]),q)
 ·obtain⟨t,R,l,z⟩:=I.tuple a
  have n:=R.length;exact len_tuple l (by simp only[Az] <;> omega) (.int ys.length,H,I.tok _,(s.toks+1,by rw[Az,n]),q)
theorem CallR.or (h:CallR X f r) (h':CallR X f r'):CallR X f (λxs H Q=>r xs H Q\/r' xs H Q):=by
 intro pins s Z H xs us Q I rs q;rcases q with q|q
 ·exact h pins s Z H xs us Q I rs q
 ·exact h' pins s Z H xs us Q I rs q
theorem Qw:CallR X (.type "tuple") (λxs H Q=>∃p ys,xs=[.ref p]/\((SqL X.K H p ys/\∀l,H l=none->Q (.ref l) (upd H l (.tup ys)))\/(SqT X.K H p ys/\Q (.ref p) H))):=by
 intro pins s Z H xs us Q I r h;obtain⟨p,ys,rfl,h⟩:=h;obtain⟨u,rfl,x⟩:=vals1 r;cases x;rcases h with ⟨c,q⟩|⟨c,q⟩
 ·obtain⟨t,R,L,z⟩:=I.list c
  have n:=R.length;refine call_tuple_list L.isList (λa k=>?_) (by simp only[Az] <;> omega)
  have i:AG X pins Z H { s with heap:=a }:=I.kept (t':=s.toks) k;have d:AG X pins Z (upd H a.objs.size (.tup ys)) { s with heap:=a.push { cls:=.type "tuple",data:=.seq t.toArray } }:=
   i.laid (t':=s.toks) (λb o e=>Au _ e) (AS _) (show ObjOk X.prog X.w _ _ _ (.tup ys) from (z,t,R,IsTupN.new _ _))
  exact(.ref a.objs.size,_,d,rfl,q _<|i.hok.fresh<|AS _)
 ·obtain⟨t,R,L,z⟩:=I.tuple c
  exact call_tuple_same L (.ref p,H,I,rfl,q)
def tyV (K:W.Frag) (T:String) (x:V) (H:Hp):Prop:=match x with
 |.str _=>T = "str"
 |.int _=>T = "int"
 |.ref p=>(T = "list" /\ ∃xs,SqL K H p xs)\/(T = "tuple" /\ ((∃o,K.lookup p=some o/\o.cls=.type "tuple" /\ o.dict=none)\/∃xs,H p=some (.tup xs))) \/
   (T = "dict" /\ ((∃kvs,H p=some (.dK kvs))\/∃kvs,H p=some (.dT kvs)))\/(T = "set" /\ ∃S n,H p=some (.set S n))
 |_=>False
theorem Wf {pins:Ai}{Z:St}{H:Hp}{s:Shared}{T:String}{x:V}{v:Value}(I:AG X pins Z H s) (r:RelV x v) (ty:tyV X.K T x H) :
  s.TypeIs v T/\∀a,v=.ref a->∃ob,s.heap.get? a=some ob/\ob.dict=none:=by
 cases x with
 |str z=>
  obtain⟨t,rfl⟩:=r;cases (show T = "str" from ty);exact(typeIs_str s z t,λ_ e=>nomatch e)
 |int i=>
  obtain⟨t,rfl⟩:=r;cases (show T = "int" from ty);exact(typeIs_int s i t,λ_ e=>nomatch e)
 |ref p=>
  cases r;rcases ty with ⟨rfl,j,q⟩|⟨rfl,(⟨o,k,h,d⟩|⟨j,k⟩)⟩|⟨rfl,k⟩|⟨rfl,S,n,k⟩
  ·obtain⟨g,_,l,_⟩:=I.list q
   refine(l.isList.typeIs,λa e=>?_);cases e;obtain⟨o,n,e,c,d,_⟩:=l;exact(o,e,d)
  ·refine((o,I.kIn p o k,h),λa e=>?_)
   cases e;exact(o,I.kIn _ o k,d)
  ·obtain⟨_,_,_,o,e,⟨h,_⟩,d⟩:=I.hok p _ k
   refine((o,e,h),λa b=>?_);cases b;exact(o,e,d)
  ·have z:∃o,s.heap.get? p=some o/\o.ExactDict:=by
    rcases k with ⟨f,k⟩|⟨f,k⟩
    ·obtain⟨_,_,_,_,o,_,_,e,E,_⟩:=I.hok p _ k
     exact(o,e,E)
    ·obtain⟨_,_,_,_,o,_,_,e,E,_⟩:=I.hok p _ k
     exact(o,e,E)
   obtain⟨o,e,E⟩:=z;refine((o,e,E.1),λa b=>?_);cases b;exact(o,e,E.2.1)
  ·obtain⟨o,_,_,_,e,E,_⟩:=I.hok p _ k
   refine((o,e,E.1),λa b=>?_);cases b;exact(o,e,E.2.1)
 |_=>exact False.elim ty
def tBM (K:W.Frag) (T:String) (r:V->List V->Hp->VK->Prop) (to:TE) (t:TA):TE:=λZ H Q=>to Z H λx h=>tyV K T x h/\t Z h λs a=>r x s a Q
variable {o e:Expr}{es:List Expr}{to:TE}{t:TA}{name:Str}{apos cpos:Pos}{T id:String}{r:V->List V->Hp->VK->Prop}
theorem Zzz (pa:PlainAttrs T) (slot:Slot T name id) (hty:typeOf (.builtin id)=pure (.type "method_descriptor")) (hm:MtR X id r) (ho:PE X o to) (ha:PA X (e::es) t)
  (hbase:attributeBase o name X.env (eval o X.env)=eval o X.env:=by rfl)
  (hfew:((backTo cpos (starEach (e::es) X.env)).all (λx=>!x.1) && (backToKw cpos (keywordEach [] X.env)).all (λx=>x.1.isSome)
   && decide ((e::es).length+([]:List Keyword).length+(if ([]:List Keyword).isEmpty then 0 else 1)<30))=true:=by rfl)
  (hline:(apos.endLine == cpos.line)=true:=by rfl) (hs:starEach (e::es) X.env=(false,eval e X.env)::starEach es X.env:=by rfl) (hplain:(backTo cpos<|starEach es X.env).any (·.1)=false:=by rfl) :
  PE X (.Call (.Attribute o name apos) (e::es) [] cpos) (tBM X.K T r to t):=by
 intro pins s Z H Q I h;refine wpAny_Call_method_late hbase hfew hline rfl (thn (ho pins s Z H _ I h) λv s1 (x,H1,I1,r1,ty,q1)=>?_);obtain⟨a,b⟩:=Wf I1 r1 ty;refine(T,id,pa,slot,hty,a,b,?_);have A:=ha cpos pins s1 Z H1 _ I1 q1;rw[hs]at A ⊢;refine Calls.callWith_builtin (by show (false || (backTo cpos<|starEach es X.env).any (·.1))=false;rw[hplain] <;> rfl)<|Calls.evalArgs_plain ?_
 exact thn A λus s2 (vs,H2,I2,r2,q2)=>hm pins s2 Z H2 x vs v us Q I2 r1 r2 q2
end
def MtM (X:Cx) (id:String) (r:V->List V->Hp->VK->Prop):Prop:=
 ∀(pins:Ai) (s:Shared) (Z:St) (H:Hp) (x:V) (xs:List V) (v:Value) (us:List Value) (Q:VK),AG X pins Z H s->RelV x v->Vals xs us->r x xs H Q ->
  wpAny (model X.prog X.w) X.A (call (.builtin id) (v::us)) (EP X pins Z Q) X.xe s
theorem Vals.one:∀{x:V}{us:List Value},Vals [x] us->∃u,us=[u]/\RelV x u:=by
 intro x us h;cases h with|cons r t=>cases t;exact(_,rfl,r)
theorem Vals.two:∀{x y:V}{us:List Value},Vals [x,y] us->∃u v,us=[u,v]/\RelV x u/\RelV y v:=by
 intro x y us h;cases h with|cons r t=>cases t with|cons q t=>cases t;exact(_,_,rfl,r,q)
theorem Vals.reverse (h:Vals xs us):Vals xs.reverse us.reverse:=by
 induction h with
 |nil=>exact .nil
 |cons r t ih=>rw[IU,IU];exact Vals.append ih (.cons r .nil)
section
variable {X:Cx}{pins:Ai}{Z:St}{H:Hp}{s:Shared}{l b:Addr}{xs ys zs:List V}
theorem AG.lset {its its':List Value}{n:Nat}{f:Array Value->Array Value}{t':Nat}(I:AG X pins Z H s) (hH:H l=some (.lst xs))
  (e:s.heap.get? l=some { cls:=.type "list",data:=.seq its.toArray n }) (hf:f its.toArray=its'.toArray) (hv:Vals ys its') (hz:ys.length<=sizeLine) :
  AG X pins Z (upd H l (.lst ys)) { s with heap:=s.heap.update l<|Obj.mapSeq f,toks:=t' }:=by
 have q:=PySem.IsL.update e f;rw[hf]at q;refine I.write (x:=l) (e:=l) (by rw[hH];exact trivial) (.inl rfl) (λB u b h=>(EK s.heap (Obj.mapSeq f)<|Ne.symm b).trans h) (_,q) ?_;exact(hz,its',_,hv,q)
theorem AG.lnew {its:List Value}{t':Nat}(I:AG X pins Z H s) (hv:Vals ys its) (hz:ys.length<=sizeLine) :
  AG X pins Z (upd H s.heap.objs.size (.lst ys)) { s with heap:=s.heap.push { cls:=.type "list",data:=.seq its.toArray },toks:=t' }:=
 I.laid (λ_ _ q=>Au _ q) (AS _) (hz,its,0,hv,BP _ rfl)
theorem AG.fresh (I:AG X pins Z H s):H s.heap.objs.size=none:=I.hok.fresh<|AS _
theorem AG.lstM (I:AG X pins Z H s) (hH:H l=some (.lst xs)):xs.length<=sizeLine/\∃(its:List Value) (n:Nat),Vals xs its/\xs.length=its.length/\s.heap.get? l=some { cls:=.type "list",data:=.seq its.toArray n }:=by
 obtain⟨z,its,n,r,e⟩:=I.hok l _ hH;exact(z,its,n,r,r.length,e)
theorem notLongL (h:n<=sizeLine):Builtin.List.listTooLong n=false:=by
 unfold Builtin.List.listTooLong;exact A7 (by lia)
end
section
variable {X:Cx}
def rAppend:V->List V->Hp->VK->Prop:=λx s H Q=>∃l xs y,x=.ref l/\s=[y]/\H l=some (.lst xs)/\xs.length<sizeLine/\Q .non (upd H l (.lst<|xs++[y]))
theorem Fb:MtM X "list.append" rAppend:=by
 intro pins s Z H x vs v us Q I rx rv h;obtain⟨l,S,y,rfl,rfl,a,b,q⟩:=h;cases rx;obtain⟨u,rfl,U⟩:=rv.one;obtain⟨z,t,n,r,L,e⟩:=I.lstM a;refine call_meets F.slot_list_append (_,e,rfl) F.entry_list_append (F.args_list_append_2 _ _) (PySem.list_append l t.toArray n u (by rw[Az];lia)) (e,?_);refine(.non,_,I.lset (its':=t++[u]) a e (by simp) (r.append (.cons U .nil)) ?_,rfl,q);rw[Aw,DS];lia
def rCat:R2:=λx y H Q=>∃l b xs zs,x=.ref l/\y=.ref b/\H l=some (.lst xs)/\H b=some (.lst zs)/\xs.length+zs.length<=sizeLine/\∀p,H p=none->Q (.ref p) (upd H p (.lst<|xs++zs))
theorem Zy0:OpR X (binaryOp .Add) rCat:=by
 intro pins s Z H x y v u Q I rx ry h;obtain⟨l,b,S,j,rfl,rfl,c,B,f,q⟩:=h;cases rx;cases ry;obtain⟨z,i,n,r,d,e⟩:=I.lstM c;obtain⟨g,t,N,R,L,E⟩:=I.lstM B;refine PySem.P.add_list e E ?_ (by rw[Az,Az];lia);have a:i.toArray++t.toArray=(i++t).toArray:=by simp
 rw[a];exact(.ref _,_,I.lnew (t':=s.toks) (r.append R) (by rw[Aw];omega),rfl,q _ I.fresh)
end
end L2
namespace Att
open PySem PySem.W PySem.Calls PyProof.Rows
theorem Qn:∀(ns:List Int) (vs:List Value),WellAll P h vs (ns.map WData.int)->IntsAre vs ns:=by
 intro ns
 induction ns with
 |nil=>
  intro vs w;rw[IH]at w;cases w;exact .nil
 |cons n ns ih=>
  intro vs w;rw[BX]at w;cases w with
  |cons a b=>
   cases a;exact .cons _ _<|ih _ b
theorem Sn {l:OpenLaw}{n:Nat}(hn:l.most=some n) {P:Params}{h:Heap}{args:List WData}{vals:List Value}
  (hpre:l.row.toRowW.claim.pre args=true) (hwl:WellAll P h vals args) :
  ∃a vs ns,vals=[Value.ref a]/\args=[WData.list (ns.map WData.int)]/\h.get? a=some { cls:=.type "list",data:=.seq vs.toArray } /\ IntsAre vs ns/\ns.length<=n:=by
 have s:WShape.hasAll [] args [.list .int]=true:=(pre_splitW hpre).1;have c:l.pre.holds [] { args:=args } = true:=(pre_splitW hpre).2;obtain⟨d,r,rfl,f,g⟩:=hasAllW_cons s;obtain rfl:=hasAllW_nil g;obtain⟨x,rfl,i⟩:=hasW_list f;obtain⟨ns,rfl⟩:=items_int i;have e:ns.length<=n:=by
  unfold OpenLaw.pre at c;have H:(WTm.not (.lt (.lit (.int (n:Int))) (.len (.arg 0)))).holds [] { args:=[.list (ns.map .int)] } = true:=by
   have H:=(holds_andW c).1;rw[hn]at H;exact H
  have b:=condW_of H<|w_not<|w_lt w_lit<|w_len_list<|w_arg rfl;rw[AK]at b;refine Nat.le_of_not_lt λq=>?_;have Q:(n:Int)<((ns.length:Nat):Int):=by omega
  first
   | (rw[A1 Q]at b;exact absurd b (by decide))
   | (simp at b;omega)
 cases hwl with
 |cons w1 w2=>
  cases w2;cases w1 with
  |list ho hall=>exact(_,_,ns,rfl,rfl,ho,Qn ns _ hall,e)
theorem Sx (l:OpenLaw) (args:List WData):l.row.toRowW.claim.post args (.bool true) args=true:=
 postW_of (r:=l.row.toRowW) (X:=(true == true))
  (show WShape.has [] (.bool true) .bool=true by first|rfl|decide|simp[WShape.has,WShape.arms,WShape.armsAll])
  (show (WTm.eq .res (.lit (.bool true))).value [] { args:=args,res:=some (.bool true),after:=args } = some (.bool (true == true)) from w_eq_bool (w_res rfl) w_lit) rfl
theorem attach_call {l:OpenLaw}{n:Nat}{q:Program}{loose:List Str}{XP:(Str->Option Value)->Heap->Prop}{YP:World->Heap->Prop}{d:DefRec}
  (hn:l.most=some n) (hdf:d.params.defaults=[])
  (call:∀(w:World) (s₀ s₁:Shared) (mg mb:Str->Option Value) (fa:Addr) (o:Obj) (pm cd doc:Value) (a:Addr) (vs:List Value) (ns:List Int),
   Ground q loose [] XP w s₀ mg mb s₁.heap->YP w s₁.heap ->
   s₁.heap.get? fa=some o->o.data=.func (docDef d.name d.params d.body d.scope pm cd doc)->s₁.heap.CodeRec cd d.name->mg d.name=some (.ref fa) ->
   s₁.heap.get? a=some { cls:=.type "list",data:=.seq vs.toArray } -> IntsAre vs ns->ns.length<=n->s₁.gens = #[] ->
   codeAny (model l.prog w) callerA (.call (.ref fa) ([.ref a],[])) (λr s'=>r=.ok (.ret (.bool true))/\OldK s₁.heap s'.heap/\s'.os=s₁.os/\AllBare s'.gens) s₁) :
  WalkO q loose XP YP l.row.toRowW d [] (λf vs=>PySem.call f vs):=by
 intro w s₀ s₁ mg mb G Y fa o pm cd doc dV kV ho hd hcd hD hmg hg args vals as hpre hlay hrd hwl hlo;obtain rfl:dV=.none:=Dflts.none hD hdf;obtain rfl:kV=.none:=Dflts.noKw hD;obtain⟨a,vs,ns,rfl,rfl,j,s,e⟩:=Sn hn hpre hwl;refine enter_call (codeAny_mono (call w s₀ s₁ mg mb fa o pm cd doc a vs ns G Y ho (fd_plain hd) hcd hmg j s e hg) λr s' Q=>?_);obtain⟨rfl,h,H,b⟩:=Q;exact(.inl (.bool true,.bool true,[],rfl,λ_=>rfl,.bool true,Sx l _,λ_=>(List.Pairwise.nil,λ_ m=>(nomatch m))),h,H,b)
end Att
namespace L2
open PySem PySem.Spec PyProof.Rows
theorem Iu:∀{vs:List Value}{ns:List Int},IntsAre vs ns->Vals (ns.map V.int) vs
 |_,_,.nil=>.nil
 |_,_,.cons n t h=>.cons (t,rfl) (Iu h)
def Only (H:Hp):Prop:=∀b,H b=none\/∃o xs,H b=some (.frz o (.lst xs))
theorem UK {P:Program}{w:World}{K:W.Frag}{mg mb:Str->Option Value}{CX:CXT}{k:Nat}{fa a:Addr}{fd:FuncData}{x:Str}{sp:Sp}{s₁:Shared}{vs:List Value}{ns:List Int}
  (KX:K.In s₁.heap) (hns:s₁.heap.Ns mainGlobals mg) (hb:s₁.heap.Ns builtinsNs mb) (hbb:∀x:Str,x ≠ "__name__" -> mb x=bootBuiltins x) (hlim:s₁.heap.NoLimit) (hg:s₁.gens = #[])
  (ha:s₁.heap.get? a=some { cls:=.type "list",data:=.seq vs.toArray }) (hi:IntsAre vs ns) (hl:ns.length<=sizeLine) (hr:Room k callerA)
  (F:∀base:Heap,K.In base->base.Ns mainGlobals mg->FnOk P w K mg base CX k fa fd [x] sp) (hbind:∀(s:Shared) (u:Value),BindsTo s fd ([u],[]) [(x,u)])
  (hsp:∀H:Hp,Only H->SqL K H a (ns.map V.int)->sp [.ref a] H (λv _=>v=.bl true) λ_ _ _=>False)
  (hCX:∀H e s',CX [] H s₁ (λ_ _ _=>False) e s' -> False) :
  codeAny (model P w) callerA (.call (.ref fa) ([.ref a],[])) (λr s'=>r=.ok (.ret (.bool true))/\OldK s₁.heap s'.heap/\s'.os=s₁.os/\AllBare s'.gens) s₁:=by
 have R:=Iu hi;have l:=hi.length
 -- from an abstract heap in which nothing but the script may be tracked
 have c:∀H:Hp,Only H->SqL K H a (ns.map V.int)->HOk P w H s₁.heap->(∀b,H b≠none->b=a)->(H a≠none->K.lookup a=none) ->
   codeAny (model P w) callerA (.call (.ref fa) ([.ref a],[])) (λr s'=>r=.ok (.ret (.bool true))/\OldK s₁.heap s'.heap/\s'.os=s₁.os/\AllBare s'.gens) s₁:=by
  intro H hO hS hok hA hK;have f:∀{b:Addr}{o:Obj},s₁.heap.get? b=some o->H b=none->(hidT s₁.heap H).get? b=some o:=λe n=>Uz e n;have A:∀{b:Addr}{o:Obj}{es:Array DictEntry}{ep:Nat},s₁.heap.get? b=some o->o.data=.dict es ep->H b=none:=λ{b o es ep} e d=>by
   cases q:H b with
   |none=>rfl
   |some u=>
    have g:b=a:=hA b (by rw[q];simp);subst g;rw[ha]at e;cases e;have D:Data.seq vs.toArray _=Data.dict es ep:=d;cases D
  have S:∀{b:Addr}{m:Str->Option Value},s₁.heap.Ns b m->(hidT s₁.heap H).Ns b m:=λ{b m} (o,es,ep,e,d,r)=>(o,es,ep,f e (A e d),d,r);have B:K.In (hidT s₁.heap H):=λb o e=>f (KX b o e) (by
   cases q:H b with
   |none=>rfl
   |some u=>
    have g:b=a:=hA b (by rw[q];simp);subst g;rw[hK (by rw[q];simp)]at e;cases e)
  have M:Mod K mg (hidT s₁.heap H):=(B,S hns,(mb,S hb,hbb),let ⟨mc,h1,h2⟩:=hlim; (mc,S h1,h2));have j:Env0 P w K mg (hidT s₁.heap H) callerA [] s₁ H:=(rfl,M,λb o e=>WW e,IL<|Sz _ _,trivial,λb hb=>absurd (show b∈([]:List Addr) from hb) (by simp),hok,.of_eq hg);refine codeAny_mono ((F _ B<|S hns).run callerA [] s₁ H ([.ref a],[]) [.ref a] [.ref a] _ _ hr j (hbind s₁ (.ref a)) (.cons rfl .nil) (hsp H hO hS)) λr s' h=>?_;cases r with
  |error e=>exact(hCX H e s' h).elim
  |ok fl=>
   cases fl with
   |next=>exact False.elim h
   |brk=>exact False.elim h
   |cont=>exact False.elim h
   |ret u=>
    obtain⟨v,G,os,E,N,O,y,q⟩:=h;have Q:v=.bl true:=q;subst Q;obtain rfl:u=Value.bool true:=y;refine(rfl,OldK.of_keep λb o e=>?_,os,E);cases q:H b with
    |none=>exact N.keep b o e q (by intro z;exact absurd (show b∈([]:List Addr) from z) (by simp)) (by simp)
    |some u=>
     rcases hO b with z|⟨t,X,z⟩
     ·rw[q]at z;cases z
     ·have C:=N.frzs b t _ z
      obtain⟨i,_⟩:=hok b _ z;obtain⟨p,_⟩:=O b _ C;rw[e]at i;cases i;exact p
 cases hk:K.lookup a with
 |some o=>
  -- the script is one of the module's own objects
  have e:=KX a o hk;rw[ha]at e;cases e;refine c (λ_=>none) (λ_=>.inl rfl) (.inr (_,vs.toArray,_,hk,rfl,rfl,rfl,by rw[Az,l];exact hl,by simpa using R)) (λb u z=>by have Z:(none:Option HO)=some u:=z;cases Z) (λb z=>absurd rfl z) λz=>absurd rfl z
 |none=>
  refine c (λb=>if b=a then some (.frz { cls:=.type "list",data:=.seq vs.toArray } (.lst<|ns.map V.int)) else none) (λb=>?_) (.inl (.inr ({ cls:=.type "list",data:=.seq vs.toArray },AD rfl))) (λb u z=>?_) (λb z=>?_) λ_=>hk
  ·by_cases hb:b=a
   ·exact .inr (_,_,AD hb)
   ·exact .inl<|AB hb
  ·by_cases hb:b=a
   ·have Z:=(AD hb).symm.trans z
    cases Z;subst hb;exact(ha,by rw[AK];exact hl,vs,_,R,ha)
   ·have Z:=(AB hb).symm.trans z
    cases Z
  ·by_cases hb:b=a
   ·exact hb
   ·exact absurd (AB hb) z
theorem walk_of {l:PySem.W.OpenLaw}{n k:Nat}{q:Program}{loose:List Str}{XP:(Str->Option Value)->Heap->Prop}{YP:World->Heap->Prop}{d:DefRec}{K:Params->W.Frag}{CX:World->CXT}{sp:World->Sp}{x:Str}
  (hn:l.most=some n) (hn2:n<=sizeLine) (hdf:d.params.defaults=[]) (hr:Room k callerA)
  (hY:∀(w:World) (h:Heap),YP w h->(K w.params).In h)
  (F:∀(w:World) (mg:Str->Option Value) (fa:Addr) (h:Heap),(K w.params).In h->h.Ns mainGlobals mg->mg d.name=some (.ref fa) ->
   ∃fd:FuncData,(∀(s:Shared) (u:Value),BindsTo s fd ([u],[]) [(x,u)]) /\
    ∀base:Heap,(K w.params).In base->base.Ns mainGlobals mg->FnOk l.prog w (K w.params) mg base (CX w) k fa fd [x] (sp w))
  (hsp:∀(w:World) (H:Hp) (a:Addr) (ns:List Int),ns.length<=n->Only H->SqL (K w.params) H a (ns.map V.int)->sp w [.ref a] H (λv _=>v=.bl true) λ_ _ _=>False)
  (hCX:∀(w:World) (H:Hp) (s:Shared) (e:Value) (s':Shared),CX w [] H s (λ_ _ _=>False) e s' -> False) :
  PySem.W.WalkO q loose XP YP l.row.toRowW d [] (λf vs=>PySem.call f vs):=by
 refine Att.attach_call hn hdf λw s₀ s₁ mg mb fa o pm cd doc a vs ns G Y ho hd hcd hmg hobj hints hlen hg=>?_;have X:=hY w _ Y;obtain⟨fd,B,c⟩:=F w mg fa _ X G.T.g hmg;exact UK X G.T.g G.T.b G.T.builtins G.T.nolimit hg hobj hints (CW hlen hn2) hr c B (λH O S=>hsp w H a ns hlen O S) λH e s'=>hCX w H s₁ e s'
def defArgs (s:Stmt):Arguments:=match s with
 |.FunctionDef _ a _ _ _ _ _ _ _ _=>a
 |_=>{ posonlyargs:=[],args:=[],vararg:=none,kwonlyargs:=[],kw_defaults:=[],kwarg:=none,defaults:=[] }
def defBody (s:Stmt):List Stmt:=match s with
 |.FunctionDef _ _ b _ _ _ _ _ _ _=>b
 |_=>[]
def defScope (s:Stmt):Scope:=match s with
 |.FunctionDef _ _ _ _ _ _ sc _ _ _=>sc
 |_=>{ kind:=.function,names:=[],isGenerator:=false,isCoroutine:=false }
abbrev CX0:CXT:=λ_ _ _ _ _ _=>False
abbrev E0:XK:=λ_ _ _=>False
theorem pass0:Passes CX0 X E0:=λ_ _ _ _ _ _ _ h=>h.elim
structure BH (K:W.Frag) (x qual:Str) (st:Stmt) (f:Addr) (fd:FuncData):Prop where
 ex:∃(oc:Value) (od:Option Addr) (kV doc pm:Value) (an:Option Addr) (cdv ct:Value) (osl:Array (Option Value)),
  fd=W.fnOf x qual (defArgs st) (defBody st) (defScope st) .none kV doc pm an cdv ct/\K.lookup f=some (oc,od,.func fd,osl) /\ W.codeIn K cdv qual=true
 kp:W.keepIn K (.ref f)=true
section
variable {P:Program}{w:World}{K:W.Frag}{mg:Str->Option Value}{base:Heap}
theorem BH.ok {st:Stmt}(F:BH K x qual st f fd) (S:FnScope N ps (defScope st)) (len:∀vs H Q E,sp vs H Q E->vs.length=ps.length)
  (hbody:∀(cdv:Value) (A:Around) (outer:List Env) (s:Shared) (H:Hp) (vs:List V) (Q:VK) (E:XK),Room k (A.deeper (envOfC qual (defScope st) s.heap.objs.size f cdv))->sp vs H Q E ->
   ∃t,PSs (cxOf CX0 P w K mg base N qual (defScope st) f cdv A outer s H E).nox (defBody st) t/\t { nx:=λ_ H'=>Q .non H',rt:=Q } (start N vs) H):FnOk P w K mg base CX0 (k+1) f fd ps sp:=by
 obtain⟨C,D,v,c,m,n,cdv,T,o,rfl,l,d⟩:=F.ex;refine Zz9 l d S len λA outer s H vs Q E r p=>?_;obtain⟨t,h,q⟩:=hbody cdv A outer s H vs Q E r p;exact(t,h.nox,q)
theorem BH.binds {st:Stmt}(F:BH K x qual st f fd)
  (h:∀(kV doc pm:Value) (an:Option Addr) (cdv ct:Value) (us:List Value),us.length=ps.length->bindArgs (W.fnOf x qual (defArgs st) (defBody st) (defScope st) .none kV doc pm an cdv ct) (us,[])=pure (ps.zip us)):Binds K fd ps []:=by
 obtain⟨c,o,kV,doc,pm,an,cdv,ct,l,rfl,k,d⟩:=F.ex;exact .all<|h kV doc pm an cdv ct
theorem Zyx {st:Stmt}{kV doc pm cdv ct:Value}(l:K.lookup f=some (oc,od,.func<|W.fnOf x qual (defArgs st) (defBody st) (defScope st) .none kV doc pm an cdv ct,osl))
  (c:W.codeIn K cdv qual=true) (k:W.keepIn K (.ref f)=true):BH K x qual st f (W.fnOf x qual (defArgs st) (defBody st) (defScope st) .none kV doc pm an cdv ct):=((oc,od,kV,doc,pm,an,cdv,ct,osl,rfl,l,c),k)
end
theorem Bg (hr:Room k A):A.units+1<cLine:=EW (Nat.add_le_add_left (by decide:1<=64) _) hr.units
theorem small1000 (h:n<=1000):n<sizeLine:=EW h (by decide)
section
variable {X:Cx}
theorem pv (i:Nat) (hN:X.N[i]?=some x:=by rfl) (hv:J5 X.env.scope x:=by first|exact Or.inl rfl|exact Or.inr (Or.inl rfl)|exact Or.inr<|Or.inr rfl) (hd:(x == ("__debug__":Str))=false:=by decide)
  (hcd:(x == ("__classdict__":Str))=false:=by decide):PE X (.Name x pos) (tVar i):=Zye hN hv hd hcd
end
theorem iteF {A B:Prop}(h:B):if false=true then A else B:=by
 rw[AB BR];exact h
theorem iteT {A B:Prop}(h:A):if true=true then A else B:=by
 rw[AD rfl];exact h
theorem ite2 {c A B:Prop}[Decidable c] (h1:c->A) (h2:¬ c->B):if c then A else B:=by
 by_cases h:c
 ·rw[AD h]
  exact h1 h
 ·rw[AB h]
  exact h2 h
def Same (H H':Hp):Prop:=∀b o,H b=some o->H' b=some o
theorem Same.refl (H:Hp):Same H H:=λ_ _ h=>h
theorem Same.trans (a:Same H H1) (b:Same H1 H2):Same H H2:=λc o h=>b c o<|a c o h
theorem Same.seq {K:W.Frag}(e:Same H H') (h:SqL K H a xs):SqL K H' a xs:=by
 rcases h with (h|⟨o,h⟩)|h
 ·exact .inl (.inl<|e _ _ h)
 ·exact .inl (.inr (o,e _ _ h))
 ·exact .inr h
section
variable {κ:Type}[DecidableEq κ]
def valV (kvs:List (κ × V)) (k:κ):Option V:=(kvs.find? λv=>decide (v.1=k)).map (·.2)
def putK (kvs:List (κ × V)) (k:κ) (v:V):List (κ × V):=
 if (kvs.any λK=>decide (K.1=k))=true then kvs.map (λK=>if K.1=k then (K.1,v) else K) else kvs++[(k,v)]
theorem Hd {p:κ × V}{r:List (κ × V)}{k:κ}(e:p.1=k):valV (p::r) k=some p.2:=by simp[valV,DU,e]
theorem HZ {p:κ × V}{r:List (κ × V)}{k:κ}(e:¬ p.1=k):valV (p::r) k=valV r k:=by simp[valV,DU,e]
theorem N1 (k:κ):∀kvs:List (κ × V),(kvs.any λkv=>decide (kv.1=k))=(valV kvs k).isSome
 |[]=>rfl
 |p::r=>by
  rw[FT];by_cases e:p.1=k
  ·simp only[Hd e,A1 e,Bool.true_or,Option.isSome_some]
  ·rw[HZ e,A7 e,Bool.false_or];exact N1 k r
theorem Mr (kvs:List (κ × V)) (k:κ) (v:V):(putK kvs k v).length<=kvs.length+1:=by
 unfold putK;split
 ·rw[AK];lia
 ·rw[Aw,Aj,DE];lia
theorem RelO.isSome_eq (r:RelO o u):o.isSome=u.isSome:=by
 cases o with
 |none=>cases u with
  |none=>rfl
  |some _=>exact(show False from r).elim
 |some _=>cases u with
  |none=>exact(show False from r).elim
  |some _=>rfl
theorem RelO.getD (r:RelO o u) (rd:RelV d d'):RelV (o.getD d) (u.getD d'):=by
 cases o with
 |none=>cases u with
  |none=>exact rd
  |some _=>exact(show False from r).elim
 |some _=>cases u with
  |none=>exact(show False from r).elim
  |some _=>exact r
theorem KV.val (r:KV kvs vs) (k:κ):RelO (valV kvs k) (valueAt vs k):=by
 unfold KV at r
 induction r with
 |nil=>exact True.intro
 |@cons p q ps qs h t ih=>
  obtain⟨H,a⟩:=h;by_cases e:p.1=k
  ·have E:q.1=k:=H.symm.trans e
   have b:valueAt (q::qs) k=some q.2:=by simp[valueAt,DU,E]
   rw[Hd e,b];exact a
  ·have E:¬ q.1=k:=λz=>e (H.trans z)
   have b:valueAt (q::qs) k=valueAt qs k:=by simp[valueAt,DU,E]
   rw[HZ e,b];exact ih
theorem KV.any (r:KV kvs vs) (k:κ):(kvs.any λkv=>decide (kv.1=k))=vs.any λkv=>decide (kv.1=k):=by
 unfold KV at r
 induction r with
 |nil=>rfl
 |cons h t ih=>rw[FT,FT,ih,h.1]
theorem KV.repl {kvs:List (κ × V)}{vs:List (κ × Value)}(r:KV kvs vs) (k:κ) {y:V}{u:Value}(ry:RelV y u) :
  KV (kvs.map λkv=>if kv.1=k then (kv.1,y) else kv) (vs.map λkv=>if kv.1=k then (kv.1,u) else kv):=by
 unfold KV at r ⊢
 induction r with
 |nil=>exact .nil
 |@cons p q ps qs h t ih=>
  rw[BX,BX];refine .cons ?_ ih;obtain⟨H,a⟩:=h;by_cases e:p.1=k
  ·rw[AD e,AD (H.symm.trans e)];exact(H,ry)
  ·rw[AB e,AB (λz=>e<|H.trans z)];exact(H,a)
theorem KV.put (r:KV kvs vs) (k:κ) (ry:RelV y u):KV (putK kvs k y) (stored vs k u):=by
 unfold putK stored;rw[r.any k];by_cases e:(vs.any λv=>decide (v.1=k))=true
 ·rw[AD e,AD e];exact r.repl k ry
 ·rw[AB e,AB e];exact Paired.snoc r (rfl,ry)
theorem KV.length (r:KV kvs vs):kvs.length=vs.length:=Paired.length r
end
theorem Jn (r:RelV (kV k) u):(mixKind P w).is k u=true:=by
 cases k with
 |inl i=>obtain⟨t,e⟩:=(show ∃t,u=Value.int i t from r);subst e;exact RO P w i t
 |inr x=>obtain⟨t,e⟩:=(show ∃t,u=Value.str x t from r);subst e;exact RW P w x t
theorem NZ:∀{ks:List AO}{us:List Value},Vals (ks.map kV) us->ItemsAre (mixKind P w) ks us
 |[],_,r=>by rw[IH]at r;cases r;exact .nil
 |k::ks,_,r=>by
  rw[BX]at r;cases r with
  |cons h t=>exact .cons (Jn h) (NZ t)
abbrev KT (H:Hp):List (List AO × V)->List (List AO × Addr × Value)->Prop:=Paired λp q=>p.1=q.1/\H q.2.1=some (.tup<|p.1.map kV)/\RelV p.2 q.2.2
theorem KT.val (r:KT H kvs xs) (k:List AO):RelO (valV kvs k) ((atKey xs k).map (·.2)):=by
 induction r with
 |nil=>exact True.intro
 |@cons p q ps qs h t ih=>
  obtain⟨a,_,c⟩:=h;by_cases e:p.1=k
  ·have E:q.1=k:=a.symm.trans e
   have b:atKey (q::qs) k=some q.2:=by simp[atKey,DU,E]
   rw[Hd e,b];exact c
  ·have E:¬ q.1=k:=λz=>e (a.trans z)
   have b:atKey (q::qs) k=atKey qs k:=by simp[atKey,DU,E]
   rw[HZ e,b];exact ih
theorem KT.repl {H:Hp}{kvs:List (List AO × V)}{xs:List (List AO × Addr × Value)}(r:KT H kvs xs) (k:List AO) {y:V}{u:Value}(ry:RelV y u) :
  KT H (kvs.map λkv=>if kv.1=k then (kv.1,y) else kv) (xs.map<|putAt k u):=by
 induction r with
 |nil=>exact .nil
 |@cons p q ps qs h t ih=>
  rw[BX,BX];refine .cons ?_ ih;obtain⟨a,b,c⟩:=h;unfold putAt;by_cases e:p.1=k
  ·rw[AD e,AD (a.symm.trans e)];exact(a,b,ry)
  ·rw[AB e,AB (λz=>e<|a.trans z)];exact(a,b,c)
theorem KT.put {H:Hp}{kvs:List (List AO × V)}{xs:List (List AO × Addr × Value)}(r:KT H kvs xs) (k:List AO) {b:Addr}{y:V}{u:Value}(hb:H b=some (.tup<|k.map kV)) (ry:RelV y u) :
  KT H (putK kvs k y) (storedH xs k b u):=by
 have e:(kvs.any λv=>decide (v.1=k))=(atKey xs k).isSome:=by
  rw[N1,(r.val k).isSome_eq,Option.isSome_map]
 unfold putK storedH;rw[e];by_cases q:(atKey xs k).isSome=true
 ·rw[AD q,AD q];exact r.repl k ry
 ·rw[AB q,AB q];exact Paired.snoc r (rfl,hb,ry)
theorem KT.keeps (r:KT H kvs xs) (ht:∀b ys,H b=some (.tup ys)->H' b=some (.tup ys)):KT H' kvs xs:=
 Paired.mapP r λ_ _ z=>(z.1,ht _ _ z.2.1,z.2.2)
section
variable {P:Program}{w:World}{H:Hp}{h:Heap}{a:Addr}
theorem QS (ok:HOk P w H h) (e:Rd H a u):ObjOk P w H h a u:=e.ok ok
theorem Hu (ok:HOk P w H h) (e:Rd H a (.dK kvs)):kvs.length<=sizeLine/\(a == sysModules)=false/\∃vs,KV kvs vs/\h.DictOf (mixKind P w) a vs:=
 show ObjOk P w H h a (.dK kvs) from QS ok e
theorem Qh (ok:HOk P w H h) (e:H a=some (.dK kvs)):kvs.length<=sizeLine/\(a == sysModules)=false/\∃vs,KV kvs vs/\h.DictOf (mixKind P w) a vs:=Hu ok (.inl e)
theorem Jk (ok:HOk P w H h) (e:H a=some (.tup<|ks.map kV)):(tupleKind<|mixKind P w).is h ks a:=by
 obtain⟨_,s,r,o,b,⟨c,n,d⟩,_⟩:=(show ObjOk P w H h a (.tup<|ks.map kV) from ok a _ e);exact(o,s.toArray,n,b,c,d,by simpa using NZ r)
theorem Js (ok:HOk P w H h) (e:Rd H a (.dT kvs)):kvs.length<=sizeLine/\(a == sysModules)=false /\
  ∃xs,KT H kvs xs/\h.DictOfH (tupleKind<|mixKind P w) a xs:=by
 obtain⟨z,y,xs,r,o,s,E,b,c,d,f,g⟩:=(show ObjOk P w H h a (.dT kvs) from QS ok e);refine(z,y,xs,r,o,s,E,b,c,d,f,λx X=>?_,g);have L:∀{l:List (List AO × V)}{m:List (List AO × Addr × Value)},KT H l m->∀x∈m,(tupleKind<|mixKind P w).is h x.1 x.2.1:=by
  intro l m q
  induction q with
  |nil=>intro x X;exact nomatch X
  |@cons p q ps qs hq t ih=>
   intro x X;rcases Ar.mp X with e|X
   ·subst e
    exact Jk ok (by rw[<- hq.1];exact hq.2.1)
   ·exact ih x X
 exact L r x X
theorem Zzr (ok:HOk P w H h) (e:H a=some (.dT kvs)):kvs.length<=sizeLine/\(a == sysModules)=false /\
  ∃xs,KT H kvs xs/\h.DictOfH (tupleKind<|mixKind P w) a xs:=Js ok (.inl e)
end
def DGet (H:Hp) (a:Addr) (y:V) (r:Option V):Prop:=
 (∃kvs k,Rd H a (.dK kvs)/\y=kV k/\r=valV kvs k)\/∃kvs k b,Rd H a (.dT kvs)/\y=.ref b/\H b=some (.tup<|k.map kV)/\r=valV kvs k
def DPut (H:Hp) (a:Addr) (y v:V) (H':Hp):Prop:=
 (∃kvs k,H a=some (.dK kvs)/\y=kV k/\kvs.length<sizeLine/\H'=upd H a (.dK<|putK kvs k v)) \/
 ∃kvs k b,H a=some (.dT kvs)/\y=.ref b/\H b=some (.tup<|k.map kV)/\kvs.length<sizeLine/\H'=upd H a (.dT<|putK kvs k v)
theorem DGet.k {H:Hp}{a:Addr}{kvs:List (AO × V)}{k:AO}(e:H a=some (.dK kvs)):DGet H a (kV k) (valV kvs k):=.inl (kvs,k,.inl e,rfl,rfl)
theorem DGet.t {H:Hp}{a b:Addr}{kvs:List (List AO × V)}{k:List AO}(e:H a=some (.dT kvs)) (eb:H b=some (.tup<|k.map kV)):DGet H a (.ref b) (valV kvs k):=.inr (kvs,k,b,.inl e,rfl,eb,rfl)
theorem DPut.k {H:Hp}{a:Addr}{kvs:List (AO × V)}{k:AO}{v:V}(e:H a=some (.dK kvs)) (hl:kvs.length<sizeLine):DPut H a (kV k) v (upd H a (.dK<|putK kvs k v)):=.inl (kvs,k,e,rfl,hl,rfl)
theorem DPut.t {H:Hp}{a b:Addr}{kvs:List (List AO × V)}{k:List AO}{v:V}(e:H a=some (.dT kvs)) (eb:H b=some (.tup<|k.map kV)) (hl:kvs.length<sizeLine) :
  DPut H a (.ref b) v (upd H a (.dT<|putK kvs k v)):=.inr (kvs,k,b,e,rfl,eb,hl,rfl)
section
variable {X:Cx}{pins:Ai}{Z:St}{H:Hp}{s:Shared}{a:Addr}{y v:V}{u r:Value}{o:Option V}{A:Around}{E:AX}
theorem AG.big (I:AG X pins Z H s):sysModules<s.heap.objs.size:=by
 have h:mainGlobals<s.heap.objs.size:=(I.mod.glob.keeps I.bk).lt;exact IK (by decide) h
theorem SU {Q:AX}(hu:A.units+1<cLine) (I:AG X pins Z H s) (g:DGet H a y (some v)) (ry:RelV y u) (h:∀w' s',AG X pins Z H s' -> RelV v w' -> Q w' s') :
  wpAny (model X.prog X.w) A (getItem (.ref a) u) Q E s:=by
 rcases g with ⟨S,k,e,Y,l⟩|⟨S,k,b,e,Y,B,l⟩
 ·subst Y
  obtain⟨z,D,V,r,d⟩:=Hu I.hok e;obtain⟨w',c,W⟩:=RelO.some_of (v:=v) (o:=valueAt V k) (by rw[l];exact r.val k);exact wpAny_getItem_of (Jn ry) d.mapOf c<|h w' _ (I.tok _) W
 ·subst Y
  cases (show u=Value.ref b from ry);obtain⟨z,D,x,r,d⟩:=Js I.hok e;obtain⟨w',c,W⟩:=RelO.some_of (v:=v) (o:=(atKey x k).map (·.2)) (by rw[l];exact r.val k);obtain⟨p,f,P⟩:=Option.map_eq_some_iff.mp c;refine wpAny_getItem_heap (tupleKind_room_in1 hu) (Jk I.hok B) d f ?_;rw[P];exact h w' _ (I.tok _) W
theorem Le {h':Heap}{t':Nat}{ob:HO}(I:AG X pins Z H s) (mu:Gj (H a)) (hs:Heap.SameBut a s.heap h') (he:∃q,h'.get? a=some q) (new:ObjOk X.prog X.w (upd H a ob) h' a ob) :
  AG X pins Z (upd H a ob) { s with heap:=h',toks:=t' }:=
 I.write (x:=a) (e:=a) mu (.inl rfl) (λb q h z=>(hs.2 b h).trans z) he new
theorem Zy4 {P:Program}{w:World}{H':Hp}{h':Heap}{kvs:List (AO × V)}{vs:List (AO × Value)}(z:kvs.length<=sizeLine) (hd:(a == sysModules)=false) (rel:KV kvs vs) (dd:h'.DictOf (mixKind P w) a vs) :
  ObjOk P w H' h' a (.dK kvs):=(z,hd,vs,rel,dd)
theorem TM {H':Hp}{Q:Unit->Shared->Prop}(hu:A.units+1<cLine) (I:AG X pins Z H s) (g:DPut H a y v H') (ry:RelV y u) (rv:RelV v r) (h:∀s',AG X pins Z H' s' -> Q () s') :
  wpAny (model X.prog X.w) A (setItem (.ref a) u r) Q E s:=by
 rcases g with ⟨S,k,e,Y,l,i⟩|⟨S,k,b,e,Y,B,l,i⟩
 ·subst Y i
  obtain⟨z,j,V,L,D⟩:=Qh I.hok e;have o:V.length<=sizeLine:=by rw[<- L.length];exact z
  have m:(putK S k v).length<=sizeLine:=by have:=Mr S k v;lia
  refine wpAny_setItem_pairs (hsz:=o) (Jn ry) D λp d n=>h _ ?_;have K:∃q,p.get? a=some q:=let ⟨q,_,_,f,_⟩:=d; (q,f)
  exact Le I (by rw[e];exact True.intro) n K<|Zy4 m j (L.put k rv) d
 ·subst Y i
  cases (show u=Value.ref b from ry);obtain⟨z,j,M,L,D⟩:=Zzr I.hok e;have o:M.length<=sizeLine:=by rw[<- Paired.length L];exact z
  have m:(putK S k v).length<=sizeLine:=by have:=Mr S k v;lia
  refine wpAny_setItem_heap (hsz:=o) (tupleKind_room_in1 hu) (Jk I.hok B) D λp d n=>h _ ?_;obtain⟨q,t,P,f,x,F,G,_,J⟩:=d;refine Le I (by rw[e];exact True.intro) n (q,f) (m,j,_,(L.put k B rv).keeps λc N C=>?_,q,t,P,f,x,F,G,J);rw[BA (Zzx C e λz=>nomatch z)];exact C
end
section
variable {X:Cx}{pins:Ai}{Z:St}{H:Hp}{s:Shared}{a:Addr}{kvs:List (AO × V)}{k:AO}{u:Value}{A:Around}{E:AX}
theorem Zzu (I:AG X pins Z H s) (e:Rd H a (.dK kvs)) (h:∀t s',AG X pins Z H s' -> Q (.int kvs.length t) s'):wpAny (model X.prog X.w) A (call (.builtin "len") [.ref a]) Q E s:=by
 obtain⟨z,D,v,l,d⟩:=Hu I.hok e;refine call_len_dict D d (by rw[<- l.length];rw[sizeLine_eq]at z;lia) ?_;rw[<- l.length];exact h _ _<|I.tok _
end
theorem RS (I:AG X pins Z H s) (g:DGet H a y o):s.TypeIs (.ref a) "dict":=by
 rcases g with ⟨v,k,e,_,_⟩|⟨v,k,b,e,_,_,_⟩
 ·obtain⟨_,_,S,_,d⟩:=Hu I.hok e
  exact d.typeIs
 ·obtain⟨_,_,x,_,d⟩:=Js I.hok e
  exact d.typeIs
theorem Uw (h:Heap) (hb:sysModules<h.objs.size):ObjOk P w H (h.push { cls:=.type "dict",data:=.dict #[] }) h.objs.size (.dK []):=
 (BZ _,beq_eq_false_iff_ne.mpr<|Ne.symm<|As hb,[],.nil,Heap.DictOf.new h)
theorem TV (h:Heap) (hb:sysModules<h.objs.size):ObjOk P w H (h.push { cls:=.type "dict",data:=.dict #[] }) h.objs.size (.dT []):=
 (BZ _,beq_eq_false_iff_ne.mpr<|Ne.symm<|As hb,[],.nil,_,#[],0,BP _ rfl,(rfl,rfl,rfl),rfl,rfl,D9)
def tDNewK:TE:=λ_ H Q=>∀p,H p=none->Q (.ref p) (upd H p (.dK []))
def tDNewT:TE:=λ_ H Q=>∀p,H p=none->Q (.ref p) (upd H p (.dT []))
section
variable {X:Cx}{pos:Pos}
theorem Ts:PE X (.Dict [] [] pos) tDNewK:=λn s Z H Q I h=>
 wpAny_Dict_empty (.ref s.heap.objs.size,_,I.laid (a:=s.heap.objs.size) (o:=.dK []) (t':=s.toks) (λ_ _ q=>Au _ q) (AS _)<|Uw s.heap I.big,rfl,h _<|I.hok.fresh<|AS _)
theorem Up:PE X (.Dict [] [] pos) tDNewT:=λn s Z H Q I h=>
 wpAny_Dict_empty (.ref s.heap.objs.size,_,I.laid (a:=s.heap.objs.size) (o:=.dT []) (t':=s.toks) (λ_ _ q=>Au _ q) (AS _)<|TV s.heap I.big,rfl,h _<|I.hok.fresh<|AS _)
end
section
variable {X:Cx}{pins:Ai}{Z:St}{H:Hp}{s:Shared}{a:Addr}{y d:V}{u r:Value}{o:Option V}{A:Around}{E:AX}
theorem Zzg {Q:AX}(hu:A.units+1<cLine) (I:AG X pins Z H s) (g:DGet H a y o) (ry:RelV y u) (h:∀w' s',AG X pins Z H s' -> RelV (o.getD .non) w' -> Q w' s') :
  wpAny (model X.prog X.w) A (call (.builtin "dict.get") [.ref a,u]) Q E s:=by
 rcases g with ⟨v,k,e,Y,l⟩|⟨v,k,b,e,Y,B,l⟩
 ·subst Y
  obtain⟨z,D,S,r,d⟩:=Hu I.hok e;refine call_meetsIn PySem.F.slot_dict_get d.typeIs PySem.F.entry_dict_get (PySem.F.args_dict_get_2 _ _) (meets_dict_get (mixKind X.prog X.w) a (Jn ry) D) (_,d.mapOf,h _ _ (I.tok _) ?_);rw[l];exact(r.val k).getD rfl
 ·subst Y
  cases (show u=Value.ref b from ry);obtain⟨z,D,x,r,d⟩:=Js I.hok e;refine call_meetsIn PySem.F.slot_dict_get d.typeIs PySem.F.entry_dict_get (PySem.F.args_dict_get_2 _ _) (meetsH_dict_get (tupleKind<|mixKind X.prog X.w) a b D) (tupleKind_room_in1 hu,k,x,Jk I.hok B,d,h _ _ (I.tok _) ?_);rw[l];exact(r.val k).getD rfl
end
section
variable {X:Cx}{pins:Ai}{Z:St}{H:Hp}{s:Shared}{a:Addr}{kvs:List (AO × V)}{A:Around}{E:AX}
end
section
variable {X:Cx}
theorem Sr:CallR X (.builtin "len") (λxs H Q=>∃a kvs,xs=[V.ref a]/\H a=some (.dK kvs)/\Q (.int kvs.length) H):=by
 intro pins s Z H xs us Q I r h;obtain⟨a,kvs,rfl,A,q⟩:=h;obtain⟨u,rfl,U⟩:=vals1 r;cases U;exact Zzu I (.inl A) λt S i=>(.int kvs.length,H,i,(t,rfl),q)
end
def clOf (env:Env):List (Str × NameKind)->List (Str × Addr)->List (Str × Addr)
 |[],cs=>cs
 | (n,k)::r,cs=>if k == .free then (match env.cells.lookup n with
     |some a=>clOf env r ((n,a)::cs)
     |none=>clOf env r cs) else clOf env r cs
theorem LH:∀(names:List (Str × NameKind)) (cs:List (Str × Addr)),(∀n,(n,NameKind.free)∈names->∃a,env.cells.lookup n=some a) ->
  (forIn names cs λ(x:Str × NameKind) (cs:List (Str × Addr))=>if (x.2 == .free)=true then (do let a <- cellOf env x.1;pure (ForInStep.yield ((x.1,a)::cs))) else pure (ForInStep.yield cs):Sem (List<|Str × Addr))=pure (clOf env names cs)
 |[],cs,_=>rfl
 | (n,k)::r,cs,h=>by
  rw[List.forIn_cons];have hr:∀m,(m,NameKind.free)∈r->∃a,env.cells.lookup m=some a:=λm hm=>h m<|BQ _ hm;cases hk:k == NameKind.free with
  |false=>
   have e:clOf env ((n,k)::r) cs=clOf env r cs:=by simp[clOf,hk]
   rw[e,<- LH r cs hr];simp only[hk,Av,if_false];rfl
  |true=>
   have hk':k=.free:=by simpa using hk
   subst hk';obtain⟨a,ha⟩:=h n Bh;have e:clOf env ((n,.free)::r) cs=clOf env r ((n,a)::cs):=by simp[clOf,ha]
   have ec:cellOf env n=pure a:=by simp[cellOf,ha]
   rw[e,<- LH r ((n,a)::cs) hr];simp only[hk,if_true,ec];rfl
theorem Kq (h:∀n,(n,NameKind.free)∈scope.names->∃a,env.cells.lookup n=some a):closureFor scope env=pure (clOf env scope.names []):=by
 rw[<- LH scope.names [] h];simp only[closureFor];exact Eq.trans (bind_pure _) rfl
theorem DZ:∀(names:List (Str × NameKind)) (cs:List (Str × Addr)) {x:Str}{c:Addr},(∀y d,cs.lookup y=some d->env.cells.lookup y=some d)->(clOf env names cs).lookup x=some c->env.cells.lookup x=some c
 |[],cs,x,c,h,e=>h x c e
 | (n,k)::r,cs,x,c,h,e=>by
  unfold clOf at e;split at e
  ·split at e
   ·rename_i a ha
    refine DZ r ((n,a)::cs) (λy d q=>?_) e;rw[Dm]at q;split at q
    ·rename_i hy
     have Y:y=n:=by simpa using hy
     cases q;rw[Y];exact ha
    ·exact h y d q
   ·exact DZ r cs h e
  ·exact DZ r cs h e
theorem JB:∀(names:List (Str × NameKind)) (cs:List (Str × Addr)) {x:Str},(∃c,cs.lookup x=some c)->∃c,(clOf env names cs).lookup x=some c
 |[],cs,x,h=>h
 | (n,k)::r,cs,x,h=>by
  have H:∀a,∃c,((n,a)::cs).lookup x=some c:=λa=>by
   rw[Dm];split
   ·exact(_,rfl)
   ·exact h
  unfold clOf;split
  ·split
   ·exact JB r _<|H _
   ·exact JB r cs h
  ·exact JB r cs h
theorem Fc:∀(names:List (Str × NameKind)) (cs:List (Str × Addr)) {x:Str},(x,NameKind.free)∈names->(∃a,env.cells.lookup x=some a)->∃c,(clOf env names cs).lookup x=some c
 |[],_,_,h,_=>by simp at h
 | (n,k)::r,cs,x,h,(a,ha)=>by
  rcases Ar.mp h with e|m
  ·have E:n=x:=(congrArg Prod.fst e).symm
   have b:k=.free:=(congrArg Prod.snd e).symm;subst E;subst b;have e:clOf env ((n,.free)::r) cs=clOf env r ((n,a)::cs):=by simp[clOf,ha]
   rw[e];exact JB r _ (a,by simp)
  ·unfold clOf
   split
   ·split
    ·exact Fc r _ m (a,ha)
    ·exact Fc r _ m (a,ha)
   ·exact Fc r _ m (a,ha)
def relab (osc scope:Scope):Scope:=
 { scope with names:=scope.names.map λ(n,k)=>if (k == .free && osc.kind == .function && osc.names.lookup n == some .cell) then (n,.cell) else (n,k) }
theorem Nl (hk:k=.cell\/k=.free) (hc:∀y∈scope.names,y.2≠.cell) (h:(relab osc scope).names.lookup x=some k):(x,NameKind.free)∈scope.names:=by
 have m:=PySem.mem_of_lookup h;obtain⟨⟨n,j⟩,Y,e⟩:=Af.mp m;dsimp only at e;split at e
 ·rename_i hj
  have E:n=x:=congrArg Prod.fst e;have J:j=.free:=by
   simp only[Cj,beq_iff_eq]at hj;exact hj.1.1
  rw[<- E,<- J];exact Y
 ·have E:n=x:=congrArg Prod.fst e
  have a:j=k:=congrArg Prod.snd e;rcases hk with z|z
  ·exact absurd (show ((n,j):Str × NameKind).2=.cell from a.trans z)<|hc _ Y
  ·rw[<- E,<- z,<- a];exact Y
theorem K2 {osc:Scope}{x:Str}:∀{names:List (Str × NameKind)},names.lookup x=some .free ->
  (names.map λ(n,k)=>if (k == NameKind.free && osc.kind == .function && osc.names.lookup n == some .cell) then (n,NameKind.cell) else (n,k)).lookup x=some .cell \/
  (names.map λ(n,k)=>if (k == NameKind.free && osc.kind == .function && osc.names.lookup n == some .cell) then (n,NameKind.cell) else (n,k)).lookup x=some .free
 |[],h=>by simp at h
 | (n,k)::r,h=>by
  have i:=@K2 osc x r;rw[BX];cases hx:x == n with
  |true=>
   simp only[Dm,hx]at h;cases h;dsimp only;split
   ·left;simp[Dm,hx]
   ·right;simp[Dm,hx]
  |false=>
   simp only[Dm,hx]at h;dsimp only;split
   ·simpa only[Dm,hx] using i h
   ·simpa only[Dm,hx] using i h
structure CompSc (osc:Scope) (oN:List Str) (scope:Scope) (fvs:List Str) (sel:List Nat):Prop where
 kind:scope.kind=.function
 nocell:∀y∈scope.names,y.2≠.cell
 names:∀y∈scope.names,y.2=.local->scope.names.lookup y.1=some .local
 free:∀y∈scope.names,y.2=.free->osc.names.lookup y.1=some .cell\/osc.names.lookup y.1=some .free
 len:fvs.length=sel.length
 fv:∀p∈fvs.zip sel,oN[p.2]?=some p.1/\scope.names.lookup p.1=some .free
def compCx (X:Cx) (scope:Scope) (N:List Str) (C:Addr) (s:Shared) (H:Hp) (ex:List Addr) (pn:Ai):Cx where
 prog:=X.prog
 w:=X.w
 K:=X.K
 mg:=X.mg
 base:=X.base
 A:=X.A
 N:=N
 s₀:=s
 H₀:=H
 env:=compEnvC scope (clOf X.env scope.names []) C X.env
 outer:=X.stack
 stack:=X.stack
 ex:=ex
 fn:=λ_=>false
 calm:=X.calm
 pn:=pn
 xe:=λ_ _=>False
def compSt (n:Nat) (sel:List Nat) (Z:St):St:=Am n none++sel.map λi=>(Z[i]?).getD none
section
variable {X:Cx}{pins:Ai}{Z:St}{H:Hp}{s:Shared}{fp:List Addr}{scope:Scope}{tgs fvs:List Str}{sel:List Nat}
theorem K6 (S:CompSc X.env.scope X.N scope fvs sel) (ok:X.Ok):∀n,(n,NameKind.free)∈scope.names->∃a,X.env.cells.lookup n=some a:=λn h=>
 ok.has n (S.free _ h rfl)
theorem WD (S:CompSc X.env.scope X.N scope fvs sel) (N:List Str) (I:AG X pins Z H s) (hf:∀b∈fp,FpOk X pins H b) (hlt:∀b∈fp,b<s.heap.objs.size):(compCx X scope N s.heap.objs.size s H fp<|X.pn++pins).Ok where
 mod:=I.ok.mod
 kind:=S.kind
 glob:=I.ok.glob
 blt:=I.ok.blt
 above:=AS _
 inj:=λx y c a d=>I.ok.inj x y c (DZ _ _ (λ_ _ z=>by simp at z) a)<|DZ _ _ (λ_ _ z=>by simp at z) d
 has:=λx f=>by
  have m:(x,NameKind.free)∈scope.names:=by
   rcases f with z|z
   ·exact Nl (osc:=X.env.scope) (.inl rfl) S.nocell z
   ·exact Nl (osc:=X.env.scope) (.inr rfl) S.nocell z
  exact Fc scope.names [] m<|K6 S I.ok x m
 cab:=λx c h _=>by cases h
 hd:=I.ok.hd
 frames:=I.ok.frames
 stk:=.inl rfl
 exf:=λb B=>(As<|hlt b B,λx c e=>(hf b B).2.2.2.2.1 x c (DZ _ _ (λ_ _ z=>by simp at z) e))
 bs:=I.bs
 bsz:=CW I.ok.bsz I.sz
 noex:=λb o e B=>by
  rcases(hf b B).2.2.2.1 with z|z
  ·exact I.ok.noex b o e z
  ·exact absurd (CQ (Al e)<|CW I.ok.bsz z)<|D4 _
 exfs:=λb B z=>by
  rcases Ar.mp (I.stkSub b z) with e|z
  ·exact(hf b B).2.1 e
  ·exact(hf b B).2.2.1 z
 funs:=I.stack
 frf:=I.stkFree
theorem UN (S:CompSc X.env.scope X.N scope fvs sel) (I:AG X pins Z H s) (hf:∀b∈fp,FpOk X pins H b) (hlt:∀b∈fp,b<s.heap.objs.size) {h':Heap}{tk:Nat}{m:Str->Option Value}
  (hns:h'.Ns s.heap.objs.size m) (old:∀b o,s.heap.get? b=some o->h'.get? b=some o) :
  AG (compCx X scope (tgs++fvs) s.heap.objs.size s H fp<|X.pn++pins) [] (compSt tgs.length sel Z) H { s with heap:=h',toks:=tk } where
 ok:=WD S _ I hf hlt
 os:=rfl
 bare:=I.bare
 base:=Un.kept old
 loc:=by
  refine(m,hns,λi x v g h J=>?_);have g:(tgs++fvs)[i]?=some x:=g;unfold compSt at h;by_cases hi:i<tgs.length
  ·rw[Cu (by simpa using hi),Fv,AD hi]at h
   cases h
  ·have a:tgs.length<=i:=Nat.le_of_not_lt hi
   rw[CP (by simpa using a),AZ,CJ]at h;rw[CP a]at g;cases hj:sel[i-tgs.length]? with
   |none=>rw[hj]at h;cases h
   |some j=>
    rw[hj]at h;have h:(Z[j]?).getD none=some v:=by simpa using h
    have E:(x,j)∈fvs.zip sel:=by
     refine Bk (i:=i-tgs.length) ?_;rw[EN];exact(g,hj)
    obtain⟨y,f⟩:=S.fv _ E;have A:Z[j]?=some (some v):=by
     cases q:Z[j]? with
     |none=>rw[q]at h;cases h
     |some o=>rw[q]at h;exact congrArg some h
    have k:X.env.scope.names.lookup x=some .cell\/X.env.scope.names.lookup x=some .free:=S.free (x,.free) (PySem.mem_of_lookup f) rfl;obtain⟨M,B,t⟩:=I.loc;obtain⟨u,r,l⟩:=t j x v y A (.inr k);refine(u,r,.inr (K2 f,?_));rcases l with ⟨K,_⟩|⟨_,c,w,L⟩
    ·have K:X.env.scope.names.lookup x=some .local:=K
     rcases k with z|z <;> (rw[K]at z;cases z)
    ·obtain⟨G,C⟩:=Fc scope.names [] (PySem.mem_of_lookup f) (c,w)
     have e:=DZ scope.names [] (λ_ _ z=>by simp at z) C;rw[w]at e;cases e;obtain⟨o,O,D⟩:=L;exact(c,C,o,old _ _ O,D)
 cell:=λx c e=>by
  obtain⟨v,o,O,D⟩:=I.cell x c<|DZ _ _ (λ_ _ z=>by simp at z) e;exact(v,o,old _ _ O,D)
 free:=I.hok.fresh<|AS _
 freeC:=λx c e=>I.freeC x c<|DZ _ _ (λ_ _ z=>by simp at z) e
 pin:=λp P=>by
  have P:p∈(X.pn++pins)++[]:=P;rw[Bs]at P;obtain⟨e,n,ne,F,d⟩:=I.pin p P;refine(old _ _ e,n,As<|Al e,λz=>?_,d);rcases Ar.mp (I.stkSub p.1 z) with q|q
  ·exact ne q
  ·exact F q
 hok:=I.hok.kept old
 len:=by
  unfold compSt;show _=(tgs++fvs).length;rw[Aw,Aw,CJ,AK,S.len]
theorem TN (I:AG X pins Z H s) (hf:∀b∈fp,FpOk X pins H b)
  (J:AG (compCx X scope N s.heap.objs.size s H fp<|X.pn++pins) [] Z' H' s') (sb:Heap.SameBut s.heap.objs.size s'.heap h'):AG X pins Z H' { s' with heap:=h' }:=by
 have B:Un (frs X.stack) fp H H' s.heap s'.heap:=J.base;have ne:∀b o,s.heap.get? b=some o->b≠s.heap.objs.size:=λb o e=>As<|Al e;have r:H' s.heap.objs.size=none:=J.free;refine I.call' (s':={ s' with heap:=h' }) (ch:=fp) J.os (λb o e n f a=>?_,λb o e n f a=>?_,B.free,λb o e a=>?_,B.tups,B.frzs,B.tbls) (λb g e=>?_) J.bare λb d=>?_
 ·exact(sb.2 b<|ne b o e).trans (B.keep b o e n f a)
 ·obtain⟨l,q⟩:=B.slot b o e n f a
  exact(l,(sb.2 b<|ne b o e).trans q)
 ·obtain⟨O,q⟩:=B.there b o e a
  exact(O,(sb.2 b<|ne b o e).trans q)
 ·refine(J.hok b g e).stay (λc w h q=>(sb.2 c ?_).trans q) (λ_ q=>q) λ_ _ q=>q
  intro z;rcases h with h|h
  ·rw[<- h,z,r]at e;cases e
  ·rw[z,r]at h;cases h
 ·exact((hf b d).2.2.2.1,(hf b d).2.1,(hf b d).2.2.2.2.1,(hf b d).2.2.2.2.2)
end
def PTs (X:Cx) (ifs:List Expr) (t:TT):Prop:=
 ∀(pins:Ai) (s:Shared) (Z:St) (H:Hp) (Q:Bool->Hp->Prop),AG X pins Z H s->t Z H Q ->
  wpAny (model X.prog X.w) X.A (forIn ifs true λc r=>if r=true then do let ok <- isTrue c X.env (eval c X.env);pure (ForInStep.yield ok) else pure (ForInStep.yield r)) (TP X pins Z Q) X.xe s
def tTrue:TT:=λ_ H Q=>Q true H
theorem C0:PTs X [] tTrue:=λn s Z H Q I h=>wpAny_tests_nil (H,I,h)
theorem Hg (h:PT X c t):PTs X [c] t:=λn s Z H Q I q=>wpAny_tests_one<|h n s Z H Q I q
def tComp (n:Nat) (sel:List Nat) (wi:TI) (g:TG) (tc:TT) (te:TE):TE:=λZ H Q=>wi Z H λJ h=>∀acc,h acc=none->∃W:Nat->Nat->St->Hp->Prop,
 (∃m,W 0 m (compSt n sel Z) (upd h acc (.lst [])))/\∀i m Z' H',W i m Z' H' ->
  (J.stop i H' /\ Q (.ref acc) H')\/(J.go i H' /\ ∃N:St->Hp->Prop,(∀z H2,N z H2->∃m',m'<m/\W (i+1) m' z H2) /\
   ∀x H2,J.yld i H' x H2->g x Z' H2 λz d=>tc z d λb a=>if b=true then te z a λy c=>∃ys,c acc=some (.lst ys)/\ys.length<sizeLine/\N z (upd c acc (.lst (ys++[y]))) else N z a)
section
variable {X:Cx}
theorem Nj {elt tg iter:Expr}{ifs:List Expr}{scope:Scope}{pos:Pos}{tgs fvs:List Str}{sel:List Nat}{g:TG}{tc:TT}{te:TE}(S:CompSc X.env.scope X.N scope fvs sel) {Cm:Cx->Prop}(hc:∀C s H ex pn,Cm (compCx X scope (tgs++fvs) C s H ex pn))
  (hg:∀C s H ex pn,PG (compCx X scope (tgs++fvs) C s H ex pn) tg g) (ht:∀C s H ex pn,PTs (compCx X scope (tgs++fvs) C s H ex pn) ifs tc) (he:∀C s H ex pn,PE (compCx X scope (tgs++fvs) C s H ex pn) elt te)
  {pins:Ai}{Z:St}{s:Shared}{itv:Value}{Q:VK}{E:AX}{RR:Value->Addr->Result->Shared->Prop}
  (h2:PIEG Cm X pins Z tg (λJ H1=>∀acc,H1 acc=none->∃W:Nat->Nat->St->Hp->Prop,
   (∃m,W 0 m (compSt tgs.length sel Z) (upd H1 acc (.lst [])))/\∀i m Z' H',W i m Z' H' ->
   (J.stop i H' /\ Q (.ref acc) H')\/(J.go i H' /\ ∃N:St->Hp->Prop,(∀Z2 H2,N Z2 H2->∃m',m'<m/\W (i+1) m' Z2 H2) /\
   ∀x H2,J.yld i H' x H2->g x Z' H2 λZ2 H3=>tc Z2 H3 λb H4=>if b=true then te Z2 H4 λy H5=>∃ys,H5 acc=some (.lst ys)/\ys.length<sizeLine/\N Z2 (upd H5 acc (.lst (ys++[y]))) else N Z2 H4)) itv s)
  (fin:∀(s':Shared) (C acc:Addr) (H':Hp) (m:Str->Option Value),s'.heap.Ns C m->FpOk X pins H' C->(∀h',Heap.SameBut C s'.heap h' -> AG X pins Z H' { s' with heap:=h' })->Q (.ref acc) H' -> RR (.ref acc) C (.ok .next) s') :
  wpAny (model X.prog X.w) X.A (newList []) (λacc s3=>wpAny (model X.prog X.w) X.A (newFunctionEnv scope X.env.globals (clOf X.env scope.names []) [] X.env.qual none .none (some X.env)) (λcenv s4=>
   codeAny (model X.prog X.w) X.A (.compStart (.ListComp elt [(tg,iter,ifs,0)] scope pos) 0 itv acc { cenv with scope:=relabel scope X.env }) (RR acc cenv.locals) s4) E s3) E s:=by
 obtain⟨it,fp,tn,J,H1,e,I,T,st,f2,h2⟩:=h2;subst e;have hlt:∀b∈fp,b<s.heap.objs.size:=λb hb=>let ⟨o,ho,_⟩:=T.obj 0 _ st b hb; Al ho
 refine wpAny_newObj_type<|wpAny_newFunctionEnv S.nocell (by intro y hy;simp at hy) (λh1 hns hsb=>?_) S.kind;dsimp only at hns hsb ⊢;have I3:AG X pins Z (upd H1 s.heap.objs.size (.lst [])) { s with heap:=s.heap.push { cls:=.type "list",data:=.seq ([]:List Value).toArray },toks:=s.toks }:=I.lnew (its:=[]) .nil (by decide);have hacc:H1 s.heap.objs.size=none:=I.hok.fresh<|AS _;obtain⟨W,⟨m0,w0⟩,turn⟩:=h2 s.heap.objs.size hacc;generalize hs3:({ s with heap:=s.heap.push { cls:=.type "list",data:=.seq ([]:List Value).toArray },toks:=s.toks }:Shared)=s3 at I3;have hh3:s3.heap=s.heap.push { cls:=.type "list",data:=.seq ([]:List Value).toArray }:=by rw[<- hs3]
 have old3:∀b o,s.heap.get? b=some o->s3.heap.get? b=some o:=λb o q=>by rw[hh3];exact Au _ q
 have hf3:∀b∈fp,FpOk X pins (upd H1 s.heap.objs.size (.lst [])) b:=λb hb=>(by rw[BA (As<|hlt b hb)];exact(f2 b hb).1,(f2 b hb).2);have hlt3:∀b∈fp,b<s3.heap.objs.size:=λb hb=>by rw[hh3,Heap.size_push];exact Cw<|hlt b hb
 have tn3:tn 0 s3.heap:=T.keep 0 _ _ st λb hb o q=>old3 b o q;have old4:∀b o,s3.heap.get? b=some o->h1.get? b=some o:=λb o q=>by
  have hb:b≠s3.heap.objs.size:=As<|Al q;rw[hh3]at hb q;exact(hsb.2 b hb).trans (Au _ q)
 have tn4:tn 0 h1:=T.keep 0 _ _ tn3 λb hb o q=>old4 b o q;have hC:(s.heap.push { cls:=.type "list",data:=.seq ([]:List Value).toArray }).objs.size=s3.heap.objs.size:=by rw[hh3]
 rw[hC]at hns;have J0:=UN (tgs:=tgs) (tk:=s.toks+([]:List (Str × Value)).length) S I3 hf3 hlt3 hns old4;have es:({ s3 with heap:=h1,toks:=s.toks+([]:List (Str × Value)).length }:Shared) = { s with heap:=h1,toks:=s.toks+([]:List (Str × Value)).length }:=by rw[<- hs3]
 rw[es]at J0;generalize hY:compCx X scope (tgs++fvs) s3.heap.objs.size s3 (upd H1 s.heap.objs.size (.lst [])) fp (X.pn++pins)=Y at J0;have hYp:Y.prog=X.prog:=by rw[<- hY];rfl
 have hYw:Y.w=X.w:=by rw[<- hY];rfl
 have hYK:Y.K=X.K:=by rw[<- hY];rfl
 have hYA:Y.A=X.A:=by rw[<- hY];rfl
 have hYc:Cm Y:=by rw[<- hY];exact hc _ _ _ _ _
 have hYx:Y.xe=λ_ _=>False:=by rw[<- hY];rfl
 have hYe:Y.env=compEnvC scope (clOf X.env scope.names []) s3.heap.objs.size X.env:=by rw[<- hY];rfl
 have stat:∀{H':Hp},(∀b∈fp,H' b=none)->∀b∈fp,FpOk Y [] H' b:=λhn b hb=>by
  rw[<- hY];refine(hn b hb,As<|hlt3 b hb,λz=>?_,.inl hb,λx c e=>?_,λp hp z=>?_)
  ·rcases Ar.mp (I3.stkSub b z) with q|q
   ·exact(hf3 b hb).2.1 q
   ·exact(hf3 b hb).2.2.1 q
  ·exact(hf3 b hb).2.2.2.2.1 x c (DZ _ _ (λ_ _ z=>by simp at z) e)
  ·have hp:p∈(X.pn++pins)++[]:=hp
   rw[Bs]at hp;exact(hf3 b hb).2.2.2.2.2 p hp z
 have loop:codeAny (model X.prog X.w) X.A (.compLoop (.ListComp elt [(tg,iter,ifs,0)] scope pos) 0 (.ref it) (.ref s.heap.objs.size) Y.env) (RR (.ref s.heap.objs.size) s3.heap.objs.size)
   { s with heap:=h1,toks:=s.toks+([]:List (Str × Value)).length }:=by
  refine codeAny_loop rfl (λn s'=>∃i Z' H',AG Y [] Z' H' s' /\ tn i s'.heap/\(∀b∈fp,H' b=none)/\W i n Z' H') ?_ m0 (0,_,_,J0,tn4,λb hb=>(hf3 b hb).1,w0);rintro n s5 ⟨i,Z5,H5,I5,st5,fr5,w5⟩;show wpAny _ X.A ((compTurn (.ListComp elt [(tg,iter,ifs,0)] scope pos) 0 (.ref it) (.ref s.heap.objs.size) Y.env).onRaise (λx=>do noteFrame x Y.env;theTreesLotGoes x)) _ _ s5;refine wpAny_noted (Dz (E:=λ_ _=>False) ?_ (λ_ _ q=>q) λ_ _ z=>z.elim);rw[compTurn_list];refine AA<|wpAny_standAt<|AA ?_;rcases turn i n Z5 H5 w5 with ⟨stop,qn⟩|⟨go,N,hN,step⟩
  ·have D:=T.done Y hYp hYw hYK hYc i [] s5 Z5 H5 (λ_ _=>False) I5 (stat fr5) st5 stop
   rw[hYA]at D;refine thn D λr s6 (hr,I6)=>?_;subst hr;refine AH ?_;obtain⟨m6,hn6,_⟩:=I6.loc;rw[hYe]at hn6;refine fin s6 _ _ H5 m6 hn6 (I3.fpOk (AS _) (by have z:=I6.free;rw[hYe]at z;exact z)) (λh' sb=>?_) qn;have I6':AG (compCx X scope (tgs++fvs) s3.heap.objs.size s3 (upd H1 s.heap.objs.size (.lst [])) fp<|X.pn++pins) [] Z5 H5 s6:=by rw[hY];exact I6
   exact TN I3 hf3 I6' sb
  ·have D:=T.item Y hYp hYw hYK hYc i [] s5 Z5 H5 (λ_ _=>False) I5 (stat fr5) st5 go
   rw[hYA]at D;refine thn D λr s6 (u,hr,h6)=>?_;subst hr;refine AA (thn h6 λ_ s7 (x,H7,I7,r7,y7,st7,fr7)=>?_);have I7':=I7.pinned (stat fr7)<|T.obj _ _ st7;have G:=hg s3.heap.objs.size s3 (upd H1 s.heap.objs.size (.lst [])) fp<|X.pn++pins;have TT:=ht s3.heap.objs.size s3 (upd H1 s.heap.objs.size (.lst [])) fp<|X.pn++pins;have EE:=he s3.heap.objs.size s3 (upd H1 s.heap.objs.size (.lst [])) fp<|X.pn++pins;rw[hY]at G TT EE;have G1:=G _ s7 Z5 H7 x u _ I7' r7<|step x H7 y7;rw[hYp,hYw,hYA,hYx]at G1;refine AA (thn G1 λ_ s8 (Z8,H8,I8,q8)=>?_);have T1:=TT _ s8 Z8 H8 _ I8 q8;rw[hYp,hYw,hYA,hYx]at T1;refine AA (thn T1 λok s9 (H9,I9,q9)=>?_);have again:∀{s':Shared}{Z':St}{H':Hp},AG Y ([]++pinsAt fp s7.heap) Z' H' s' -> N Z' H' -> ∃m,m<n/\∃i Z' H',AG Y [] Z' H' s' /\ tn i s'.heap/\(∀b∈fp,H' b=none)/\W i m Z' H':=λ{s' Z' H'} K7 n7=>by
    obtain⟨m',hm,w7⟩:=hN Z' H' n7;refine(m',hm,i+1,Z',H',K7.unpinned,T.keep _ _ _ st7 λb hb o e=>(K7.pin (b,o)<|CV _<|CV _<|GG hb e).1,λb hb=>?_,w7);obtain⟨o,e,d⟩:=T.obj _ _ st7 b hb;exact(K7.pin (b,o)<|CV _<|CV _<|GG hb e).2.1
   cases ok with
   |false=>
    have q9:N Z8 H9:=q9;exact AH (by rw[hYe],again I9 q9)
   |true=>
    have q9:te Z8 H9 λy H5=>∃ys,H5 s.heap.objs.size=some (.lst ys)/\ys.length<sizeLine/\N Z8 (upd H5 s.heap.objs.size (.lst<|ys++[y])):=q9;have E1:=EE _ s9 Z8 H9 _ I9 q9;rw[hYp,hYw,hYA,hYx]at E1;refine AA<|AA (thn E1 λv sa (y,Ha,Ia,ra,ys,ea,za,na)=>?_);have M:=Fb (X:=Y) _ sa Z8 Ha (.ref s.heap.objs.size) [y] (.ref s.heap.objs.size) [v] (λ_ H=>N Z8 H) Ia rfl (.cons ra .nil) (_,ys,y,rfl,rfl,ea,za,na);rw[hYp,hYw,hYA,hYx]at M;refine AA (thn M λ_ sb (_,Hb,Ib,_,nb)=>AH<|AH (by rw[hYe],again Ib nb))
 have hcs:(relabel scope X.env)=(relabel scope X.env):=rfl;have loop':=loop;rw[hYe]at loop';show codeAny (model X.prog X.w) X.A (.compStart (.ListComp elt [(tg,iter,ifs,0)] scope pos) 0 (.ref it) (.ref s.heap.objs.size)<|compEnvC scope (clOf X.env scope.names []) (s.heap.push { cls:=.type "list",data:=.seq ([]:List Value).toArray }).objs.size X.env) (RR (.ref s.heap.objs.size) (s.heap.push { cls:=.type "list",data:=.seq ([]:List Value).toArray }).objs.size) _;rw[hC];exact codeAny_compStart_list loop'<|T.self _ 0 _ _ _ tn4 loop'
theorem DI {elt tg iter:Expr}{ifs:List Expr}{scope:Scope}{pos:Pos}{fvs:List Str}{sel:List Nat}{wi:TI}{g:TG}{tc:TT}{te:TE}(tgs:List Str) (S:CompSc X.env.scope X.N scope fvs sel) (hc:X.calm=true)
  (hi:PI X tg iter wi) (hg:∀C s H ex pn,PG (compCx X scope (tgs++fvs) C s H ex pn) tg g) (ht:∀C s H ex pn,PTs (compCx X scope (tgs++fvs) C s H ex pn) ifs tc) (he:∀C s H ex pn,PE (compCx X scope (tgs++fvs) C s H ex pn) elt te)
  (hs:∀x,foldedSetIterable iter X.env x=pure x:=by intro _;rfl) :
  PE X (.ListComp elt [(tg,iter,ifs,0)] scope pos) (tComp tgs.length sel wi g tc te):=by
 intro pins s Z H Q I h;rw[eval_ListComp];refine wpAny_comprehension_free (use:=none) rfl hs (Kq<|K6 S I.ok) S.kind S.names (thn (hi pins s Z H _ I h) λv e b=>thn b λt f d=>?_);refine Nj (Cm:=λX=>X.calm=true) S (λ_ _ _ _ _=>hc) hg ht he (RR:=λc C=>compPost (model X.prog X.w) X.A X.xe none (EP X pins Z Q) c C) (Q:=Q) d ?_;intro s' C c H' m hn _ hI q;exact(m,hn,λa B=>(.ref c,H',hI a B,rfl,q))
theorem JP {elt tg iter:Expr}{ifs:List Expr}{scope:Scope}{pos spos py:Pos}{fvs:List Str}{sel:List Nat}{wi:TI}{g:TG}{tc:TT}{te:TE}{i:Nat}{y:Str}(tgs:List Str) (S:CompSc X.env.scope X.N scope fvs sel) (hc:X.calm=true)
  (hN:X.N.Nodup) (hiy:X.N[i]?=some y) (hx:Gi X.env.scope y)
  (hi:PI X tg iter wi) (hg:∀C s H ex pn,PG (compCx X scope (tgs++fvs) C s H ex pn) tg g) (ht:∀C s H ex pn,PTs (compCx X scope (tgs++fvs) C s H ex pn) ifs tc) (he:∀C s H ex pn,PE (compCx X scope (tgs++fvs) C s H ex pn) elt te)
  (hs:∀x,foldedSetIterable iter X.env x=pure x:=by intro _;rfl) (hsw:swapsWith (.ListComp elt [(tg,iter,ifs,0)] scope pos) (some (.Name y py)) spos.line X.env=pure true:=by rfl)
  (hf:X.fn y=true\/X.env.scope.names.lookup y=some .local:=by first|exact .inl rfl|exact .inr rfl|assumption) :
  PS X (.Assign [.Name y py] (.ListComp elt [(tg,iter,ifs,0)] scope pos) spos) (tAsg (tComp tgs.length sel wi g tc te)<|gName i):=by
 intro pins s Z H D I h;rw[exec_Assign_Name_used _ _ _ _ hsw];refine AA (wpAny_standAt (AA ?_));show wpAny _ X.A (do let _ <- comprehension (.ListComp elt [⟨tg,iter,ifs,0⟩] scope pos) scope X.env _ (newList []) false (eval iter X.env) (some (assign (.Name y py) X.env))) _ _ s;refine AA (Dz (wpAny_comprehension_free (use:=some (assign (.Name y py) X.env)) (Q:=λ_ s'=>SP X pins D .next s') rfl hs (Kq (K6 S I.ok)) S.kind S.names
  (thn (hi pins s Z H _ I h) λv s1 h1=>thn h1 λitv s2 h2=>?_)) (λ_ s' hq=>AH (AH hq)) λ_ _ e=>e)
 refine Nj (Cm:=λX=>X.calm=true) S (λ_ _ _ _ _=>hc) hg ht he (RR:=λacc C=>compPost (model X.prog X.w) X.A X.xe (some<|assign (.Name y py) X.env) (λ_ s'=>SP X pins D .next s') acc C) (Q:=λv H'=>D.nx (Z.set i<|some v) H') h2 ?_;intro s' C acc H' m hn fp hI q;have I0:AG X pins Z H' s':=hI s'.heap (.refl ..);show wpAny _ X.A (assign (.Name y py) X.env (.ref acc)) _ _ _;refine wpAny_assign_Name<|Nn (v:=.ref acc) I0 hN hiy hx rfl (λs2 I2 hsb=>?_) hf;obtain⟨a,sb,ha⟩:=hsb;have hCa:C≠a:=by
  rcases ha with z|z
  ·rw[z];exact fp.2.1
  ·exact Ne.symm<|fp.2.2.2.2.1 y a z
 refine(m,hn.sameBut sb hCa,λh' sb'=>?_);obtain⟨f0,f1,f2,f3,f4,f5⟩:=fp;exact(_,H',I2.turned (t':=s2.toks) (it:=C) (λb o hb e=>(sb'.2 b hb).trans e) f0 f1 f3 f4 f5,q)
end
def InsC (a C:Addr) (h:Heap):Prop:=∃ox vs,h.get? a=some ox/\ox.cls=.ref C/\ox.data=.fields vs/\vs[2]?=some .none
def InsR (a C dx:Addr) (h:Heap):Prop:=∃ox vs,h.get? a=some ox/\ox.cls=.ref C/\ox.data=.fields vs/\vs[2]?=some .none/\ox.dict=some dx
inductive D where
 |non|bl (b:Bool)|int (i:Int)|str (x:Str)|ty (n:String)|tup (ds:List D)|lst (ds:List D)|scr (ds:List D)|adr (a:Addr)|dct (ks:List AO) (ds:List D)|exc (a C:Addr)|excR (a C:Addr) (i:Int)
mutual
inductive AY (K:W.Frag) (G:Hp):V->D->Prop
 |non:AY K G .non .non
 |bl (b:Bool):AY K G (.bl b) (.bl b)
 |int (i:Int):AY K G (.int i) (.int i)
 |str (x:Str):AY K G (.str x) (.str x)
 |ty (n:String):AY K G (.ty n) (.ty n)
 |tup {a:Addr}{vs:List V}{ds:List D}:G a=some (.tup vs)->Reps K G vs ds->AY K G (.ref a) (.tup ds)
 |lst {a:Addr}{vs:List V}{ds:List D}:G a=some (.lst vs)->Reps K G vs ds->AY K G (.ref a) (.lst ds)
 |scr {a:Addr}{vs:List V}{ds:List D}:SqL K G a vs->Reps K G vs ds->AY K G (.ref a) (.scr ds)
 |adr (a:Addr):AY K G (.ref a) (.adr a)
 |dct {a:Addr}{ks:List AO}{vs:List V}{ds:List D}:G a=some (.dK (ks.zip vs))->ks.length=vs.length->Reps K G vs ds->AY K G (.ref a) (.dct ks ds)
 |exc {a C:Addr}:G a=some (.ext (InsC a C))->AY K G (.ref a) (.exc a C)
 |excR {a C dx:Addr}{i:Int}:G a=some (.ext (InsR a C dx))->G dx=some (.xd [("row",.int i)])->AY K G (.ref a) (.excR a C i)
inductive Reps (K:W.Frag) (G:Hp):List V->List D->Prop
 |nil:Reps K G [] []
 |cons {v:V}{d:D}{vs:List V}{ds:List D}:AY K G v d->Reps K G vs ds->Reps K G (v::vs) (d::ds)
end
def RepI (K:W.Frag) (G:Hp) (v:V):D->Prop
 |.non=>v=.non
 |.bl b=>v=.bl b
 |.int i=>v=.int i
 |.str x=>v=.str x
 |.ty n=>v=.ty n
 |.tup ds=>∃a vs,v=.ref a/\G a=some (.tup vs)/\Reps K G vs ds
 |.lst ds=>∃a vs,v=.ref a/\G a=some (.lst vs)/\Reps K G vs ds
 |.scr ds=>∃a vs,v=.ref a/\SqL K G a vs/\Reps K G vs ds
 |.adr a=>v=.ref a
 |.dct ks ds=>∃a vs,v=.ref a/\G a=some (.dK (ks.zip vs))/\ks.length=vs.length/\Reps K G vs ds
 |.exc a C=>v=.ref a/\G a=some (.ext (InsC a C))
 |.excR a C i=>v=.ref a/\∃dx,G a=some (.ext (InsR a C dx))/\G dx=some (.xd [("row",.int i)])
theorem AY.inv {K:W.Frag}(r:AY K G v d):RepI K G v d:=by
 cases r with
 |tup h r=>exact(_,_,rfl,h,r)
 |lst h r=>exact(_,_,rfl,h,r)
 |scr h r=>exact(_,_,rfl,h,r)
 |dct h l r=>exact(_,_,rfl,h,l,r)
 |exc h=>exact(rfl,h)
 |excR h h2=>exact(rfl,_,h,h2)
 |_=>rfl
def RepsI (K:W.Frag) (G:Hp) (vs:List V):List D->Prop
 |[]=>vs=[]
 |d::ds=>∃v ws,vs=v::ws/\AY K G v d/\Reps K G ws ds
theorem Reps.inv {K:W.Frag}(r:Reps K G vs ds):RepsI K G vs ds:=by
 cases r with
 |nil=>rfl
 |cons a b=>exact(_,_,rfl,a,b)
section
variable {K:W.Frag}{G G' H H':Hp}
mutual
theorem AY.mono (s:Same G G'):∀{v:V}{d:D},AY K G v d->AY K G' v d
 |_,_,.non=>.non
 |_,_,.bl b=>.bl b
 |_,_,.int i=>.int i
 |_,_,.str x=>.str x
 |_,_,.ty n=>.ty n
 |_,_,.tup h r=>.tup (s _ _ h) (Reps.mono s r)
 |_,_,.lst h r=>.lst (s _ _ h) (Reps.mono s r)
 |_,_,.scr h r=>.scr (s.seq h) (Reps.mono s r)
 |_,_,.adr a=>.adr a
 |_,_,.dct h l r=>.dct (s _ _ h) l (Reps.mono s r)
 |_,_,.exc h=>.exc (s _ _ h)
 |_,_,.excR h h2=>.excR (s _ _ h) (s _ _ h2)
theorem Reps.mono (s:Same G G'):∀{vs:List V}{ds:List D},Reps K G vs ds->Reps K G' vs ds
 |_,_,.nil=>.nil
 |_,_,.cons h r=>.cons (AY.mono s h) (Reps.mono s r)
end
theorem Reps.length:∀{vs:List V}{ds:List D},Reps K G vs ds->vs.length=ds.length
 |_,_,.nil=>rfl
 |_,_,.cons _ r=>by rw[Aj,Aj,r.length]
theorem Reps.get:∀{vs:List V}{ds:List D}{i:Nat}{d:D},Reps K G vs ds->ds[i]?=some d->∃v,vs[i]?=some v/\AY K G v d
 |_,_,_,_,.nil,e=>by simp at e
 |_,_,0,_,.cons r _,e=>by simp at e;subst e;exact(_,rfl,r)
 |_,_,i+1,d,.cons _ t,e=>by
  obtain⟨u,h,H⟩:=Reps.get (i:=i) (d:=d) t (by simpa using e);exact(u,by simpa using h,H)
theorem Reps.append:∀{vs ws:List V}{ds es:List D},Reps K G vs ds->Reps K G ws es->Reps K G (vs++ws) (ds++es)
 |_,_,_,_,.nil,s=>s
 |_,_,_,_,.cons r t,s=>.cons r (Reps.append t s)
theorem Reps.take:∀{vs:List V}{ds:List D}(n:Nat),Reps K G vs ds->Reps K G (vs.take n) (ds.take n)
 |_,_,0,_=>.nil
 |_,_,_+1,.nil=>.nil
 |_,_,n+1,.cons r t=>.cons r (Reps.take n t)
theorem Reps.drop:∀{vs:List V}{ds:List D}(n:Nat),Reps K G vs ds->Reps K G (vs.drop n) (ds.drop n)
 |_,_,0,r=>r
 |_,_,_+1,.nil=>.nil
 |_,_,n+1,.cons _ t=>Reps.drop n t
theorem Reps.reverse (h:Reps K G vs ds):Reps K G vs.reverse ds.reverse:=by
 induction vs generalizing ds with
 |nil=>cases h;exact .nil
 |cons v vs ih=>
  cases h with
  |cons r t=>rw[IU,IU];exact(ih t).append (.cons r .nil)
theorem Reps.set:∀{vs:List V}{ds:List D}{v:V}{d:D}(i:Nat),Reps K G vs ds->AY K G v d->Reps K G (vs.set i v) (ds.set i d)
 |_,_,_,_,_,.nil,_=>.nil
 |_,_,_,_,0,.cons _ t,q=>.cons q t
 |_,_,_,_,i+1,.cons r t,q=>.cons r (Reps.set i t q)
theorem Reps.ints:∀{ns:List Int},Reps K G vs (ns.map D.int)->vs=ns.map V.int:=by
 induction vs with
 |nil=>intro ns h;cases ns with
  |nil=>rfl
  |cons n ns=>cases h
 |cons v vs ih=>intro ns h;cases ns with
  |nil=>cases h
  |cons n ns=>
   cases h with
   |cons r t=>cases r.inv;rw[ih t];rfl
theorem Reps.ofInts:∀(ns:List Int),Reps K G (ns.map V.int) (ns.map D.int)
 |[]=>.nil
 |n::ns=>.cons (.int n) (Reps.ofInts ns)
theorem LO (r:Reps K G vs ds) (h:atI ds i=some d):∃v,atI vs i=some v/\AY K G v d:=by
 unfold atI at h ⊢;rw[<- r.length]at h;cases e:ixN vs.length i with
 |none=>rw[e]at h;cases h
 |some j=>rw[e]at h;exact r.get h
end
inductive OD where
 |lst (ds:List D)|dct (kvs:List (AO × D))|set (S:Int->Bool) (n:Nat)|dtt (kvs:List (List AO × D))|ext (R:Hp->(Heap->Prop)->Prop)
def OwnRep (K:W.Frag) (G:Hp):HO->OD->Prop
 |.lst vs,.lst ds=>Reps K G vs ds
 |.dK kvs,.dct kds=>Paired (λ(p:AO × V) (q:AO × D)=>p.1=q.1/\AY K G p.2 q.2) kvs kds
 |.set S n,.set S' n'=>S=S' /\ n=n'
 |.dT kvs,.dtt kds=>Paired (λ(p:List AO × V) (q:List AO × D)=>p.1=q.1/\AY K G p.2 q.2) kvs kds
 |.ext φ,.ext R=>∃G0,Same G0 G/\R G0 φ
 |_,_=>False
theorem OwnRep.mono {K:W.Frag}(s:Same G G') (h:OwnRep K G o od):OwnRep K G' o od:=by
 cases o <;> cases od <;> first
  |exact h.elim
  |exact Reps.mono s h
  |exact Paired.mapP h λ_ _ z=>(z.1,z.2.mono s)
  |exact(let ⟨g0,s0,r⟩:=h; (g0,s0.trans s,r))
  |exact h
inductive Slot where
 |any|val (d:D)|own (o:OD)|bor (o:OD)|ownA (a:Addr) (o:OD)
abbrev AI:=List Slot
def Slot.od:Slot->Option OD
 |.own o=>some o
 |.bor o=>some o
 |.ownA _ o=>some o
 |_=>none
structure Gm where
 B:Addr->Prop
 F:Hp
 Hz:Hp
 Xo:Hp
def SlotAt (g:Gm) (x:Slot) (a:Addr):Prop:=match x with
 |.own _=>g.Hz a=none
 |.bor _=>g.B a
 |.ownA b _=>b=a/\g.Hz a=none
 |_=>True
structure Ok (K:W.Frag) (g:Gm) (G H:Hp) (Z:St) (U:AI):Prop where
 same:∀b o,¬ g.B b->g.Hz b=some o->H b=some o
 lent:∀b,g.B b->H b≠none
 sub:Same g.F G
 frz:∀b o,G b=some o->H b=some o/\(g.Hz b=none\/g.F b=some o)
 ext:∀b o,g.Xo b=some o->H b=some o/\G b=none/\∀(i:Nat) x od,U[i]?=some x->x.od=some od -> Z[i]?≠some (some (.ref b))
 len:U.length = Z.length
 val:∀(i:Nat) d,U[i]?=some (.val d)->∃v,Z[i]?=some (some v)/\AY K G v d
 own:∀(i:Nat) x od,U[i]?=some x->x.od=some od->∃a o,Z[i]?=some (some (.ref a))/\H a=some o/\OwnRep K G o od/\G a=none/\SlotAt g x a
 dis:∀(i j:Nat) x y od od' a,U[i]?=some x->x.od=some od -> U[j]?=some y->y.od=some od' -> Z[i]?=some (some (.ref a)) -> Z[j]?=some (some (.ref a))->i=j
section
variable {K:W.Frag}{g:Gm}{G H G' H':Hp}{Z:St}{U:AI}
theorem Ok.live (k:Ok K g G H Z U):Same G H:=λb o e=>(k.frz b o e).1
theorem Ok.there (k:Ok K g G H Z U) (h:H b=none):g.Hz b=none:=by
 cases e:g.Hz b with
 |none=>rfl
 |some o=>
  by_cases hb:g.B b
  ·exact absurd h<|k.lent b hb
  ·have:=k.same b o hb e
   rw[h]at this;cases this
theorem Ok.grow (k:Ok K g G H Z U) (sg:Same G G') (sh:Same H H') (hg:∀b o,G' b=some o->H' b=some o/\(G b=some o\/H b=none)):Ok K g G' H' Z U where
 same:=λb o B e=>sh b o<|k.same b o B e
 lent:=λb B z=>by
  cases e:H b with
  |none=>exact k.lent b B e
  |some o=>rw[sh b o e]at z;cases z
 sub:=k.sub.trans sg
 frz:=λb o e=>by
  obtain⟨h,c⟩:=hg b o e;refine(h,?_);rcases c with z|z
  ·exact(k.frz b o z).2
  ·exact .inl<|k.there z
 ext:=λb o e=>by
  obtain⟨h,c,f⟩:=k.ext b o e;refine(sh b o h,?_,f);cases q:G' b with
  |none=>rfl
  |some o'=>
   rcases(hg b o' q).2 with z|z
   ·rw[c]at z;cases z
   ·rw[h]at z;cases z
 len:=k.len
 val:=λi d e=>by
  obtain⟨v,h,c⟩:=k.val i d e;exact(v,h,c.mono sg)
 own:=λi x D E j=>by
  obtain⟨a,o,h,c,f,l,m⟩:=k.own i x D E j;refine(a,o,h,sh a o c,f.mono sg,?_,m);cases q:G' a with
  |none=>rfl
  |some o'=>
   rcases(hg a o' q).2 with z|z
   ·rw[l]at z;cases z
   ·rw[c]at z;cases z
 dis:=k.dis
theorem Ok.laid (k:Ok K g G H Z U) (hp:H p=none) (o:HO):Ok K g (upd G p o) (upd H p o) Z U /\ Same G (upd G p o):=by
 have h:G p=none:=by
  cases e:G p with
  |none=>rfl
  |some u=>rw[k.live p u e]at hp;cases hp
 have s:Same G (upd G p o):=λb u e=>by rw[BA (Dr e h)];exact e
 refine(k.grow s (λb u e=>by rw[BA (Dr e hp)];exact e) λb u e=>?_,s);by_cases hb:b=p
 ·subst hb;rw[Bm]at e ⊢;exact(e,.inr hp)
 ·rw[BA hb]at e ⊢;exact(k.live b u e,.inl e)
theorem Ok.lt (k:Ok K g G H Z U) (h:U[i]?=some x):i < Z.length:=by
 rw[<- k.len];exact(BB.mp h).1
def Pend (K:W.Frag) (g:Gm) (G H:Hp) (Z:St) (U:AI) (a:Addr) (od:OD):Prop:=
 ∃o,H a=some o/\OwnRep K G o od/\G a=none/\g.Hz a=none/\g.Xo a=none/\∀(i:Nat) x od',U[i]?=some x->x.od=some od' -> Z[i]?≠some (some (.ref a))
theorem Ok.setVal (k:Ok K g G H Z U) (hi:i < U.length) (r:AY K G v d):Ok K g G H (Z.set i<|some v) (U.set i (.val d)):=by
 have S:i < Z.length:=by rw[<- k.len];exact hi
 have L:∀(j:Nat) x D,(U.set i (.val d))[j]?=some x->x.od=some D->j≠i /\ U[j]?=some x/\(Z.set i<|some v)[j]? = Z[j]?:=λj x D E c=>by
  by_cases hj:j=i
  ·subst hj
   rw[Bt hi]at E;cases E;cases c
  ·rw[Bx (Ne.symm hj)]at E
   exact(hj,E,Bx<|Ne.symm hj)
 refine(k.same,k.lent,k.sub,k.frz,λb o e=>?_,by simp[k.len],λj e h=>?_,λj x D E c=>?_,λj l x y D O a E c p f m n=>?_)
 ·obtain⟨s,t,u⟩:=k.ext b o e
  refine(s,t,λj x D E c=>?_);obtain⟨_,q,Q⟩:=L j x D E c;rw[Q];exact u j x D q c
 ·by_cases hj:j=i
  ·subst hj
   rw[Bt hi]at h;cases h;exact(v,Bt S,r)
  ·rw[Bx (Ne.symm hj)]at h ⊢
   exact k.val j e h
 ·obtain⟨_,q,Q⟩:=L j x D E c
  rw[Q];exact k.own j x D q c
 ·obtain⟨_,q,Q⟩:=L j x D E c
  obtain⟨_,w,z⟩:=L l y O p f;rw[Q]at m;rw[z]at n;exact k.dis j l x y D O a q c w f m n
theorem Ok.setOwn (k:Ok K g G H Z U) (hi:i < U.length) (p:Pend K g G H Z U a od):Ok K g G H (Z.set i<|some (.ref a)) (U.set i (.own od)):=by
 obtain⟨o,I,L,M,N,R,P⟩:=p;have s:i < Z.length:=by rw[<- k.len];exact hi
 have d:∀(j:Nat) x,j≠i->(U.set i (.own od))[j]?=some x -> U[j]?=some x/\(Z.set i<|some (.ref a))[j]? = Z[j]?:=λj x J E=>by
  rw[Bx (Ne.symm J)]at E;exact(E,Bx<|Ne.symm J)
 refine(k.same,k.lent,k.sub,k.frz,λb F e=>?_,by simp[k.len],λj e h=>?_,λj x D E f=>?_,λj l x y O r c E f v w n m=>?_)
 ·obtain⟨A,B,C⟩:=k.ext b F e
  refine(A,B,λj x D E f=>?_);by_cases J:j=i
  ·subst J
   rw[Bt s];intro z;cases z;rw[R]at e;cases e
  ·obtain⟨q,Q⟩:=d j x J E
   rw[Q];exact C j x D q f
 ·by_cases J:j=i
  ·subst J
   rw[Bt hi]at h;cases h
  ·rw[Bx (Ne.symm J)]at h ⊢
   exact k.val j e h
 ·by_cases J:j=i
  ·subst J
   rw[Bt hi]at E;cases E;cases f;exact(a,o,Bt s,I,L,M,N)
  ·obtain⟨q,Q⟩:=d j x J E
   rw[Q];exact k.own j x D q f
 ·by_cases J:j=i
  ·by_cases hl:l=i
   ·rw[J,hl]
   ·obtain⟨t,u⟩:=d l y hl v
    rw[u]at m;rw[J,Bt s]at n;cases n;exact absurd m<|P l y r t w
  ·obtain⟨q,Q⟩:=d j x J E
   rw[Q]at n;by_cases hl:l=i
   ·rw[hl,Bt s]at m
    cases m;exact absurd n<|P j x O q f
   ·obtain⟨t,u⟩:=d l y hl v
    rw[u]at m;exact k.dis j l x y O r c q f t w n m
def Slot.put:Slot->OD->Slot
 |.own _,o=>.own o
 |.bor _,o=>.bor o
 |.ownA a _,o=>.ownA a o
 |x,_=>x
theorem SlotAt.put (h:SlotAt g x a):SlotAt g (x.put o) a:=by cases x <;> exact h
theorem SlotAt.free (h:SlotAt g x a) (ho:x.od=some od):g.Hz a=none\/g.B a:=by
 cases x with
 |any=>cases ho
 |val d=>cases ho
 |own o=>exact .inl h
 |bor o=>exact .inr h
 |ownA b o=>exact .inl h.2
theorem Slot.put_od {x:Slot}{od o:OD}(h:x.od=some od):(x.put o).od=some o:=by cases x <;> cases h <;> rfl
theorem Ok.write (k:Ok K g G H Z U) (hx:U[i]?=some x) (hod:x.od=some od) (ha:Z[i]?=some (some (.ref a))) (r:OwnRep K G o' od'):Ok K g G (upd H a o') Z (U.set i<|x.put od'):=by
 obtain⟨a',o,Q,q2,q3,F,L⟩:=k.own i x od hx hod;rw[ha]at Q;cases Q;have I:i < U.length:=(BB.mp hx).1;have t:∀(j:Nat) y d,(U.set i<|x.put od')[j]?=some y->y.od=some d->j≠i -> U[j]?=some y:=λj y d f E J=>by
  rw[Bx (Ne.symm J)]at f;exact f
 have O:∀(j:Nat) y d,(U.set i<|x.put od')[j]?=some y->y.od=some d->∃Y D,U[j]?=some Y /\ Y.od=some D:=λj y d f E=>by
  by_cases J:j=i
  ·subst J;exact(x,od,hx,hod)
  ·exact(y,d,t j y d f E J,E)
 refine(λb u B e=>?_,λb B=>?_,k.sub,λb u e=>?_,λb u e=>?_,by simp[k.len],λj e h=>?_,λj y d f E=>?_,λj l y z n d c f E M N P R=>?_)
 ·have A:b≠a:=by
   intro z;subst z;rcases L.free hod with z|z
   ·rw[z]at e;cases e
   ·exact B z
  rw[BA A];exact k.same b u B e
 ·by_cases A:b=a
  ·subst A;rw[Bm];intro z;cases z
  ·rw[BA A];exact k.lent b B
 ·have A:b≠a:=by intro z;subst z;rw[F]at e;cases e
  rw[BA A];exact k.frz b u e
 ·obtain⟨S,T,w⟩:=k.ext b u e
  have A:b≠a:=by intro z;subst z;exact w i x od hx hod ha
  rw[BA A];refine(S,T,λj y d f E=>?_);obtain⟨Y,D,s,v⟩:=O j y d f E;exact w j Y D s v
 ·by_cases J:j=i
  ·subst J
   rw[Bt I]at h;cases x <;> cases hod <;> cases h
  ·rw[Bx (Ne.symm J)]at h
   exact k.val j e h
 ·by_cases J:j=i
  ·subst J
   rw[Bt I]at f;cases f;rw[Slot.put_od hod]at E;cases E;exact(a,o',ha,Bm,r,F,L.put)
  ·have m:=t j y d f E J
   obtain⟨c,V,W,X,w3,w4,w5⟩:=k.own j y d m E;have C:c≠a:=by
    intro z;subst z;exact J<|k.dis j i y x d od c m E hx hod W ha
   exact(c,V,W,by rw[BA C];exact X,w3,w4,w5)
 ·obtain⟨Y,D,s,v⟩:=O j y n f E
  obtain⟨q,p,z3,z4⟩:=O l z d M N;exact k.dis j l Y q D p c s v z3 z4 P R
theorem Ok.freeze (k:Ok K g G H Z U) (p:Pend K g G H Z U a (.lst ds)) (hv:H a=some (.lst vs)):Ok K g (upd G a (.lst vs)) H Z U /\ Same G (upd G a (.lst vs))/\AY K (upd G a (.lst vs)) (.ref a) (.lst ds):=by
 obtain⟨o,m,P,q,r,t,y⟩:=p;rw[hv]at m;cases m;have P:Reps K G vs ds:=P;have s:Same G (upd G a (.lst vs)):=λb u e=>by rw[BA (Dr e q)];exact e
 refine((k.same,k.lent,k.sub.trans s,λb u e=>?_,λb u e=>?_,k.len,λj d h=>?_,λj x D E l=>?_,k.dis),s,.lst Bm<|P.mono s)
 ·by_cases B:b=a
  ·subst B;rw[Bm]at e;cases e;exact(hv,.inl r)
  ·rw[BA B]at e;exact k.frz b u e
 ·obtain⟨f,i,n⟩:=k.ext b u e
  have B:b≠a:=by intro z;subst z;rw[t]at e;cases e
  exact(f,by rw[BA B];exact i,n)
 ·obtain⟨v,f,i⟩:=k.val j d h
  exact(v,f,i.mono s)
 ·obtain⟨c,o,w,W,A,F,I⟩:=k.own j x D E l
  have C:c≠a:=by intro z;subst z;exact y j x D E l w
  exact(c,o,w,W,A.mono s,by rw[BA C];exact F,I)
theorem Ok.drop (k:Ok K g G H Z U) (i:Nat):Ok K g G H Z (U.set i .any):=by
 have L:∀(j:Nat) x,(U.set i .any)[j]?=some x->x=.any\/(U[j]?=some x/\j≠i):=λj x E=>by
  by_cases hj:j=i
  ·subst hj
   rw[G9]at E;simp at E;exact .inl E.2.symm
  ·rw[Bx (Ne.symm hj)]at E
   exact .inr (E,hj)
 have O:∀(j:Nat) x d,(U.set i .any)[j]?=some x->x.od=some d -> U[j]?=some x:=λj x d E c=>by
  rcases L j x E with z|z
  ·subst z;cases c
  ·exact z.1
 refine(k.same,k.lent,k.sub,k.frz,λb o e=>?_,by simp[k.len],λj e h=>?_,λj x d E c=>k.own j x d (O j x d E c) c,λj l x y d D a E c m f=>k.dis j l x y d D a (O j x d E c) c (O l y D m f) f)
 ·obtain⟨n,p,q⟩:=k.ext b o e
  exact(n,p,λj x d E c=>q j x d (O j x d E c) c)
 ·rcases L j _ h with z|z
  ·cases z
  ·exact k.val j e z.1
theorem Ok.take (k:Ok K g G H Z U) (h:U[i]?=some (.own od)):∃a,Z[i]?=some (some (.ref a))/\Pend K g G H Z (U.set i .any) a od:=by
 obtain⟨a,o,b,l,m,n,c⟩:=k.own i _ od h rfl;have c:g.Hz a=none:=c;refine(a,b,o,l,m,n,c,?_,λj x d e E f=>?_)
 ·cases q:g.Xo a with
  |none=>rfl
  |some u=>exact absurd b ((k.ext a u q).2.2 i _ od h rfl)
 ·by_cases hj:j=i
  ·subst hj
   rw[G9]at e;simp at e;obtain⟨_,e⟩:=e;subst e;cases E
  ·rw[Bx (Ne.symm hj)]at e
   exact hj<|k.dis j i x _ d od a e E h rfl f b
end
def Cont (K:W.Frag) (g:Gm) (G:Hp) (Z:St) (P:D->AI->Prop) (Q:VK):Prop:=
 ∀v d G' H' U',Ok K g G' H' Z U' -> Same G G' -> AY K G' v d->P d U' -> Q v H'
def JE (K:W.Frag) (t:TE) (U:AI) (P:D->AI->Prop):Prop:=
 ∀g G H Z Q,Ok K g G H Z U -> Cont K g G Z P Q->t Z H Q
def JT (K:W.Frag) (t:TT) (U:AI) (P:Bool->AI->Prop):Prop:=
 ∀g G H Z Q,Ok K g G H Z U -> (∀b G' H' U',Ok K g G' H' Z U' -> Same G G' -> P b U' -> Q b H')->t Z H Q
def JA (K:W.Frag) (t:TA) (U:AI) (P:List D->AI->Prop):Prop:=
 ∀g G H Z Q,Ok K g G H Z U -> (∀vs ds G' H' U',Ok K g G' H' Z U' -> Same G G' -> Reps K G' vs ds->P ds U' -> Q vs H')->t Z H Q
def JO (K:W.Frag) (t:TE) (U:AI) (P:OD->AI->Prop):Prop:=
 ∀g G H Z Q,Ok K g G H Z U -> (∀a od G' H' U',Ok K g G' H' Z U' -> Same G G' -> Pend K g G' H' Z U' a od->P od U' -> Q (.ref a) H')->t Z H Q
def JR2 (K:W.Frag) (r:R2) (d e:D) (U:AI) (P:D->AI->Prop):Prop:=
 ∀g G H Z Q x y,Ok K g G H Z U -> AY K G x d->AY K G y e->Cont K g G Z P Q->r x y H Q
def JR1 (K:W.Frag) (r:V->Hp->VK->Prop) (d:D) (U:AI) (P:D->AI->Prop):Prop:=
 ∀g G H Z Q x,Ok K g G H Z U -> AY K G x d->Cont K g G Z P Q->r x H Q
def JC (K:W.Frag) (r:List V->Hp->VK->Prop) (ds:List D) (U:AI) (P:D->AI->Prop):Prop:=
 ∀g G H Z Q vs,Ok K g G H Z U -> Reps K G vs ds->Cont K g G Z P Q->r vs H Q
structure Em where
 nx:AI->Prop
 rt:D->AI->Prop
 bk:AI->Prop:=λ_=>False
 ct:AI->Prop:=λ_=>False
 ro:OD->AI->Prop:=λ_ _=>False
structure SCont (K:W.Frag) (g:Gm) (P:Em) (E:Ends):Prop where
 nx:∀Z G H U,Ok K g G H Z U -> P.nx U -> E.nx Z H
 rt:∀v d Z G H U,Ok K g G H Z U -> AY K G v d->P.rt d U -> E.rt v H
 bk:∀Z G H U,Ok K g G H Z U -> P.bk U -> E.bk Z H
 ct:∀Z G H U,Ok K g G H Z U -> P.ct U -> E.ct Z H
 ro:∀a od Z G H U,Ok K g G H Z U -> Pend K g G H Z U a od->P.ro od U -> E.rt (.ref a) H
def JS (K:W.Frag) (t:TS) (U:AI) (P:Em):Prop:=
 ∀g G H Z E,Ok K g G H Z U -> SCont K g P E->t E Z H
def JG (K:W.Frag) (t:TG) (d:D) (U:AI) (P:AI->Prop):Prop:=
 ∀g G H Z v (R:St->Hp->Prop),Ok K g G H Z U -> AY K G v d->(∀Z' G' H' U',Ok K g G' H' Z' U' -> Same G G' -> P U' -> R Z' H')->t v Z H R
def JGs (K:W.Frag) (t:TGs) (ds:List D) (U:AI) (P:AI->Prop):Prop:=
 ∀g G H Z vs (R:St->Hp->Prop),Ok K g G H Z U -> Reps K G vs ds->(∀Z' G' H' U',Ok K g G' H' Z' U' -> Same G G' -> P U' -> R Z' H')->t vs Z H R
section
variable {K:W.Frag}{U:AI}
theorem Cont.up (c:Cont K g G Z P Q) (s:Same G G1):Cont K g G1 Z P Q:=
 λv d a H U k S r p=>c v d a H U k (s.trans S) r p
theorem JE.mono (h:JE K t U P) (hp:∀d U,P d U -> P' d U):JE K t U P':=
 λg G H Z Q k c=>h g G H Z Q k λv d a b u e s r p=>c v d a b u e s r<|hp d u p
theorem JS.mono (h:JS K t U P) (hn:∀U,P.nx U -> P'.nx U) (hr:∀d U,P.rt d U -> P'.rt d U) (hb:∀U,P.bk U -> P'.bk U) (hc:∀U,P.ct U -> P'.ct U) (ho:∀od U,P.ro od U -> P'.ro od U):JS K t U P':=
 λg G H Z E k c=>h g G H Z E k (λz b e u f p=>c.nx z b e u f<|hn _ p,λv d z b e u f r p=>c.rt v d z b e u f r<|hr _ _ p,λz b e u f p=>c.bk z b e u f<|hb _ p,λz b e u f p=>c.ct z b e u f<|hc _ p,λa od z b e u f r p=>c.ro a od z b e u f r<|ho _ _ p)
theorem AF (h:U[i]?=some (.val d)) (p:P d U):JE K (tVar i) U P:=λg G H Z Q k c=>by
 obtain⟨v,a,b⟩:=k.val i d h;exact(v,a,c v d G H U k (Same.refl _) b p)
theorem Ef (h:U[i]?=some (.own (.lst ds))) (p:P (.lst ds) (U.set i (.val (.lst ds)))):JE K (tVar i) U P:=λg G H Z Q k c=>by
 obtain⟨a,b,D⟩:=k.take h;obtain⟨o,q,l,_⟩:=id D;cases o with
 |lst vs=>
  obtain⟨f,s,r⟩:=(k.drop i).freeze D q;have d:=f.setVal (i:=i) (by simpa using (BB.mp h).1) r;have e:Z.set i (some (.ref a)) = Z:=by
   apply DR;intro j;by_cases hj:j=i
   ·subst hj;rw[Bt (k.lt h),b]
   ·rw[Bx (Ne.symm hj)]
  rw[e,List.set_set]at d;exact(.ref a,b,c _ _ _ H _ d s r p)
 |_=>exact absurd l (λz=>z)
theorem Ac (p:P (.int i) U):JE K (tC (.int i)) U P:=λg G H Z Q k c=>c _ _ G H U k (Same.refl _) (.int i) p
theorem QR (p:P (.bl b) U):JE K (tC (.bl b)) U P:=λg G H Z Q k c=>c _ _ G H U k (Same.refl _) (.bl b) p
theorem Zxz (p:P .non U):JE K (tC .non) U P:=λg G H Z Q k c=>c _ _ G H U k (Same.refl _) .non p
theorem Gd (p:P (.ty x) U):JE K (tC (.ty x)) U P:=λg G H Z Q k c=>c _ _ G H U k (Same.refl _) (.ty x) p
theorem AU (h:JE K ta U λd U1=>JE K tb U1 λe U2=>JR2 K r d e U2 P):JE K (tOp r ta tb) U P:=λg G H Z Q k c=>
 h g G H Z _ k λx d a f U1 j S R p=>p g a f Z _ j λy e b i U2 l s n m=>m g b i Z Q x y l (R.mono s) n<|c.up<|S.trans s
theorem Qi (h:JE K ta U λd U1=>JR1 K r d U1 P):JE K (tUn r ta) U P:=λg G H Z Q k c=>
 h g G H Z _ k λx d a b U1 e s R p=>p g a b Z Q x e R<|c.up s
theorem AM (p:P [] U):JA K tNil U P:=λg G H Z Q k c=>c [] [] G H U k (Same.refl _) .nil p
theorem AJ (h:JE K ta U λd U1=>JA K tr U1 λds U2=>P (d::ds) U2):JA K (tCons ta tr) U P:=λg G H Z Q k c=>
 h g G H Z _ k λx d a e U1 i S r p=>p g a e Z _ i λv ds b f U2 j s R l=>c _ _ b f U2 j (S.trans s) (.cons (r.mono s) R) l
theorem BC (h:JA K ta U λds U1=>JC K r ds U1 P):JE K (tCB r ta) U P:=λg G H Z Q k c=>
 h g G H Z _ k λv ds a b U1 d s R p=>p g a b Z Q v d R<|c.up s
theorem CK (h:JA K ta U λds U1=>ds.length<=sizeLine/\P (.tup ds) U1):JE K (tTup ta) U P:=λg G H Z Q k c=>
 h g G H Z _ k λvs ds G1 H1 U1 k1 s1 r1 (z,p1)=>(by rw[r1.length];exact z,λp a=>by
  obtain⟨b,s⟩:=k1.laid a (.tup vs);exact c _ _ _ _ U1 b (s1.trans s) (.tup Bm (r1.mono s)) p1)
theorem Ws (h:JA K ta U λds U1=>ds.length<=sizeLine/\P (.lst ds) U1):JE K (tLst ta) U P:=λg G H Z Q k c=>
 h g G H Z _ k λvs ds G1 H1 U1 k1 s1 r1 (z,p1)=>(by rw[r1.length];exact z,λp a=>by
  obtain⟨b,s⟩:=k1.laid a (.lst vs);exact c _ _ _ _ U1 b (s1.trans s) (.lst Bm (r1.mono s)) p1)
theorem Ok.fresh (k:Ok K g G H Z U) (hp:H p=none) (r:OwnRep K G o od):Ok K g G (upd H p o) Z U /\ Pend K g G (upd H p o) Z U p od:=by
 have h:G p=none:=by
  cases e:G p with
  |none=>rfl
  |some u=>rw[k.live p u e]at hp;cases hp
 refine(k.grow (Same.refl _) (λb u e=>by rw[BA (Dr e hp)];exact e) λb u e=>(?_,.inl e),o,Bm,r,h,k.there hp,?_,λj x d E c f=>?_)
 ·have B:b≠p:=by intro z;subst z;rw[h]at e;cases e
  rw[BA B];exact k.live b u e
 ·cases q:g.Xo p with
  |none=>rfl
  |some u=>have z:=(k.ext p u q).1;rw[hp]at z;cases z
 ·obtain⟨a,O,w,W,_⟩:=k.own j x d E c
  rw[f]at w;cases w;rw[hp]at W;cases W
theorem Fp (h:JA K ta U λds U1=>ds.length<=sizeLine/\P (.lst ds) U1):JO K (tLst ta) U P:=λg G H Z Q k c=>
 h g G H Z _ k λvs ds G1 H1 U1 k1 s1 r1 (z,p1)=>(by rw[r1.length];exact z,λp a=>by
  obtain⟨b,d⟩:=k1.fresh (od:=.lst ds) a (show OwnRep K G1 (.lst vs) (.lst ds) from r1);exact c p _ G1 _ U1 b s1 d p1)
theorem EH (h:JO K t U λod U1=>∃ds,od=.lst ds/\P (.lst ds) U1):JE K t U P:=λg G H Z Q k c=>
 h g G H Z Q k λa od m b U1 f s d q=>by
  obtain⟨ds,e,p⟩:=q;subst e;obtain⟨o,j,l,_⟩:=id d;cases o with
  |lst vs=>
   obtain⟨i,S,r⟩:=f.freeze d j;exact c _ _ _ b U1 i (s.trans S) r p
  |_=>exact absurd l (λz=>z)
theorem OI (h:JT K c U λb U1=>if b=true then JE K ta U1 P else JE K tb U1 P):JE K (tIf c ta tb) U P:=λg G H Z Q k q=>
 h g G H Z _ k λb a d U1 e s p=>by
  cases b with
  |true=>exact(show JE K ta U1 P from p) g a d Z Q e (q.up s)
  |false=>exact(show JE K tb U1 P from p) g a d Z Q e (q.up s)
theorem B8 (h:JE K t U λd U1=>∃b,d=.bl b/\P b U1):JT K (tTest t) U P:=λg G H Z Q k c=>
 h g G H Z _ k λv d a f U1 i s r q=>by obtain⟨b,e,p⟩:=q;subst e;cases r.inv;exact(b,rfl,c b a f U1 i s p)
theorem P2 (h:JT K a U λx U1=>if x=true then JT K b U1 P else P false U1):JT K (tAnd a b) U P:=λg G H Z Q k c=>
 h g G H Z _ k λx d e U1 f s p=>by
  cases x with
  |true=>exact(show JT K b U1 P from p) g d e Z _ f λy i j u l S m=>c y i j u l (s.trans S) m
  |false=>exact c false d e U1 f s p
theorem Jt (h:JT K a U λx U1=>if x=true then P true U1 else JT K b U1 P):JT K (tOr a b) U P:=λg G H Z Q k c=>
 h g G H Z _ k λx d e U1 f s p=>by
  cases x with
  |true=>exact c true d e U1 f s p
  |false=>exact(show JT K b U1 P from p) g d e Z _ f λy i j u l S m=>c y i j u l (s.trans S) m
theorem FA (h:JT K a U λx U1=>P (!x) U1):JT K (tNot a) U P:=λg G H Z Q k c=>
 h g G H Z _ k λx b d U1 e s p=>c (!x) b d U1 e s p
theorem Cz (p:P true U):JT K tTrue U P:=λg G H Z Q k c=>c true G H U k (Same.refl _) p
theorem VA (p:P.nx U):JS K tNext U P:=λg G H Z E k c=>c.nx Z G H U k p
theorem QB (h:JS K t U { P with nx:=λU1=>JS K u U1 P }):JS K (tSeq t u) U P:=λg G H Z E k c=>
 h g G H Z _ k (λz a b U1 d p=>p g a b z E d c,c.rt,c.bk,c.ct,c.ro)
theorem WM (h:JE K te U P.rt):JS K (tRet te) U P:=λg G H Z E k c=>
 h g G H Z _ k λv d a b u e s r p=>c.rt v d Z a b u e r p
theorem Vp (h:JO K te U P.ro):JS K (tRet te) U P:=λg G H Z E k c=>
 h g G H Z _ k λa o b d u e s D p=>c.ro a o Z b d u e D p
theorem QF (h:U[i]?=some (.own od)) (p:P od (U.set i .any)):JO K (tVar i) U P:=λg G H Z Q k c=>by
 obtain⟨a,b,d⟩:=k.take h;exact(.ref a,b,c a od G H _ (k.drop i) (Same.refl _) d p)
theorem Qf (h:JT K c U λb U1=>if b=true then JS K t U1 P else JS K u U1 P):JS K (tIfS c t u) U P:=λg G H Z E k q=>
 h g G H Z _ k λb a d U1 e s p=>by
  cases b with
  |true=>exact(show JS K t U1 P from p) g a d Z E e q
  |false=>exact(show JS K u U1 P from p) g a d Z E e q
theorem Zy9 (h:JE K te U λd U1=>JG K t d U1 P.nx):JS K (tAsg te t) U P:=λg G H Z E k c=>
 h g G H Z _ k λv d a e U1 i s r p=>p g a e Z v _ i r λz b f u j S l=>c.nx z b f u j l
theorem GW (p:P U):JGs K gNil [] U P:=λg G H Z s R k r c=>by cases r;exact(rfl,c Z G H U k (Same.refl _) p)
theorem Dd (h:JG K t d U λU1=>JGs K u ds U1 P):JGs K (gCons t u) (d::ds) U P:=λg G H Z v R k r c=>by
 obtain⟨_,_,rfl,o,q⟩:=r.inv
 next=>exact(_,_,rfl,h g G H Z _ _ k o λz a e U1 l s p=>p g a e z _ R l (q.mono s) λj b f i m S n=>c j b f i m (s.trans S) n)
theorem GZ (hl:ds.length=n) (h:JGs K t ds U P):JG K (gTup K n t) (.tup ds) U P:=λg G H Z v R k r c=>by
 obtain⟨_,_,rfl,a,s⟩:=r.inv
 next=>exact(_,_,rfl,SqT.of<|k.live _ _ a,by rw[s.length];exact hl,h g G H Z _ R k s c)
def ItOk (K:W.Frag) (G:Hp) (J:It) (ds:List D):Prop:=
 ∀G1 H1,Same G G1->Same G1 H1->J.stop ds.length H1/\∀(i:Nat) d,ds[i]?=some d->J.go i H1/\∀x H2,J.yld i H1 x H2->∃G2,Same G1 G2/\Same H1 H2/\(∀b o,G2 b=some o->H2 b=some o/\(G1 b=some o\/H1 b=none))/\AY K G2 x d
def JI (K:W.Frag) (wi:TI) (U:AI) (P:List D->AI->Prop):Prop:=
 ∀g G H Z (R:It->Hp->Prop),Ok K g G H Z U -> (∀J ds G' H' U',Ok K g G' H' Z U' -> Same G G' -> ItOk K G' J ds->P ds U' -> R J H')->wi Z H R
theorem Zyf (h:JE K tl U λd U1=>∃ds,d=.tup ds/\P ds U1):JI K (iTup K tl) U P:=λg G H Z R k c=>
 h g G H Z _ k λv d l n U1 j w t Q=>by
  obtain⟨ds,e,p⟩:=Q;subst e;obtain⟨a,V,rfl,A,r⟩:=t.inv
  next=>
   refine(a,rfl,(V,SqT.of<|j.live _ _ A),c _ ds l n U1 j w (λm y s S=>((V,SqT.of<|S _ _<|s _ _ A,by rw[r.length];exact AS _),λi d e=>?_)) p);obtain⟨v,f,u⟩:=r.get e;refine((V,v,SqT.of<|S _ _<|s _ _ A,f),λx H3 (e3,y3)=>(m,Same.refl _,by rw[e3];exact Same.refl _,λb o q=>(by rw[e3];exact S b o q,.inl q),?_));have:=y3 V<|SqT.of<|S _ _<|s _ _ A;rw[f]at this;cases this;exact u.mono s
theorem VP (h:JE K tl U λd U1=>∃ds,(d=.lst ds\/d=.scr ds)/\P ds U1):JI K (iList K tl) U P:=λg G H Z R k c=>
 h g G H Z _ k λv d l t U1 m y n Q=>by
  obtain⟨ds,e,u⟩:=Q;obtain⟨a,s,A,S,r⟩:∃a s,v=.ref a/\SqL K l a s/\Reps K l s ds:=by
   rcases e with e|e
   ·subst e;cases n with|lst ha r=>exact(_,_,rfl,SqL.of ha,r)
   ·subst e;cases n with|scr ha r=>exact(_,_,rfl,ha,r)
  subst A;refine(a,rfl,(s,m.live.seq S),c _ ds l t U1 m y (λp z f j=>((s,j.seq<|f.seq S,by rw[r.length];exact AS _),λi d e=>?_)) u);obtain⟨v,V,w⟩:=r.get e;refine((s,v,j.seq<|f.seq S,V),λx H3 (e3,y3)=>(p,Same.refl _,by rw[e3];exact Same.refl _,λb o q=>(by rw[e3];exact j b o q,.inl q),?_));have:=y3 s<|j.seq<|f.seq S;rw[V]at this;cases this;exact w.mono f
def rngD (lo:Int) (n:Nat):List D:=(AR n).map λi:Nat=>D.int<|lo+(i:Int)
theorem Cn (lo:Int) (n:Nat):(rngD lo n).length=n:=by simp[rngD]
theorem De {lo:Int}(h:(rngD lo n)[i]?=some d):i<n/\d=.int (lo+(i:Int)):=by
 unfold rngD at h;rw[AZ]at h;cases e:(AR n)[i]? with
 |none=>rw[e]at h;cases h
 |some j=>
  rw[e]at h;obtain⟨a,H⟩:=BB.mp e;rw[Eu]at H;subst H;exact(by simpa using a,(BY.inj h).symm)
theorem UL (lo:Int) (n:Nat):ItOk K G (Hx lo n) (rngD lo n):=λg a S s=>by
 refine(by show n<=(rngD lo n).length;rw[Cn];exact AS _,λi d e=>?_);obtain⟨h,H⟩:=De e;subst H;refine(h,λx H2 (e2,y2)=>(g,Same.refl _,by rw[e2];exact Same.refl _,λb o q=>(by rw[e2];exact s b o q,.inl q),?_));subst y2;exact .int _
theorem DY (h:JA K ta U λds U1=>∃n:Int,ds=[.int n] /\ -(2 ^ 62)<=n/\n<2 ^ 62/\P (rngD 0 n.toNat) U1):JI K (iRng1 ta) U P:=λg G H Z R k c=>
 h g G H Z _ k λv ds a b U1 i s r q=>by
  obtain⟨n,e,d,f,p⟩:=q;subst e;obtain⟨_,_,rfl,A,j⟩:=r.inv
  next=>
   cases j.inv;cases A.inv;exact(n,rfl,d,f,c _ _ a b U1 i s (UL 0 _) p)
theorem Zyb {wi:TI}{t:TG}{tb:TS}{P:Em}(h:JI K wi U λds U1=>∃I:Nat->AI->Prop,I 0 U1/\(∀i d U2,ds[i]?=some d->I i U2->JG K t d U2 λU3=>JS K tb U3 (I<|i+1,P.rt,P.nx,I<|i+1,P.ro))/\∀U2,I ds.length U2->P.nx U2) :
  JS K (tFor wi t tb) U P:=λg G H Z E k c=>
 h g G H Z _ k λJ ds w H1 U1 k1 s1 it Q=>by
  obtain⟨I,h0,ht,he⟩:=Q;refine(λi m Z H=>m=ds.length-i/\i<=ds.length/\∃G U,Ok K g G H Z U /\ Same w G/\I i U,(ds.length,by simp,BZ _,w,U1,k1,Same.refl _,h0),?_);rintro i m R M ⟨rfl,hi,C,U2,B,X,T⟩;obtain⟨s,go⟩:=it C M X B.live;by_cases hlt:i<ds.length
  ·obtain⟨g1,g2⟩:=go i _ (AQ hlt)
   refine .inr (g1,λO L=>i+1<=ds.length/\∃G U,Ok K g G L O U /\ Same w G/\I (i+1) U,λO L W=>(ds.length-(i+1),by omega,rfl,W.1,W.2),λx N y=>?_);obtain⟨A,S,a2,a3,a4⟩:=g2 x N y;have p:=B.grow S a2 a3;refine ht i _ U2 (AQ hlt) T { g with F:=A,Xo:=g.Xo } A N R x _ ?_ a4 λZ4 Y H4 U4 k4 s4 p4=>?_
   ·exact(p.same,p.lent,Same.refl _,λb o q=>((p.frz b o q).1,.inr q),p.ext,p.len,p.val,p.own,p.dis)
   ·have V:∀{j l:Hp}{n:St}{u:AI},Ok K { g with F:=A,Xo:=g.Xo } j l n u->Ok K g j l n u/\Same w j:=λ{j l n u} f=>
     ⟨⟨f.same,f.lent,p.sub.trans f.sub,λb o q=>by
      obtain⟨q1,q2⟩:=f.frz b o q;refine(q1,?_);rcases q2 with z|z
      ·exact .inl z
      ·exact(p.frz b o z).2,f.ext,f.len,f.val,f.own,f.dis⟩,X.trans (S.trans f.sub)⟩
    refine p4 _ Y H4 Z4 _ k4 (λn j l u f r=>?_,λv d n j l u f r5 r=>?_,λn j l u f r=>?_,λn j l u f r=>?_,λa od n j l u f D r=>?_)
    ·exact(hlt,j,u,(V f).1,(V f).2,r)
    ·exact c.rt v d n j l u (V f).1 r5 r
    ·exact c.nx n j l u (V f).1 r
    ·exact(hlt,j,u,(V f).1,(V f).2,r)
    ·exact c.ro a od n j l u (V f).1 D r
  ·have e:i=ds.length:=by lia
   subst e;exact .inl (s,c.nx R C M U2 B<|he U2 T)
theorem T9 {c:TT}{tb:TS}{P:Em}(I:Nat->AI->Prop) (h0:∃m,I m U) (ht:∀m U1,I m U1->JT K c U1 λb U2=>if b=true then JS K tb U2 (λU3=>∃m',m'<m/\I m' U3,P.rt,P.nx,λU3=>∃m',m'<m/\I m' U3,P.ro) else P.nx U2) :
  JS K (tWhile c tb) U P:=λg G H Z E k q=>by
 obtain⟨m,h0⟩:=h0;refine(λm Z H=>∃G U,Ok K g G H Z U /\ I m U,(m,G,U,k,h0),?_);rintro m a l ⟨j,U1,o,n⟩;refine ht m U1 n g j l a _ o λb d e U2 i s p=>?_;cases b with
 |true=>
  refine(λf h=>∃m',m'<m/\∃G U,Ok K g G h f U /\ I m' U,λf h (m',hm,z)=>(m',hm,z),?_);refine(show JS K tb U2 _ from p) g d e a _ i (λZ5 G5 H5 U5 k5 (m',hm,p5)=>(m',hm,G5,U5,k5,p5),q.rt,q.nx,λZ5 G5 H5 U5 k5 (m',hm,p5)=>(m',hm,G5,U5,k5,p5),q.ro)
 |false=>exact q.nx a d e U2 i p
end
section
variable {K:W.Frag}{U:AI}{P:D->AI->Prop}
theorem jr_I {f:Int->Int->Int}(hc:C i j) (p:P (.int<|f i j) U):JR2 K (rI C λi j=>.int<|f i j) (.int i) (.int j) U P:=λg G H Z Q x y k r Y c=>by
 cases r.inv;cases Y.inv;exact(i,j,rfl,rfl,hc,c _ _ G H U k (Same.refl _) (.int _) p)
theorem Di {f:Int->Int->Int}(p:P (.int<|f i j) U):JR2 K (rI0 λi j=>.int<|f i j) (.int i) (.int j) U P:=λg G H Z Q x y k r Y c=>by
 cases r.inv;cases Y.inv;exact(i,j,rfl,rfl,c _ _ G H U k (Same.refl _) (.int _) p)
theorem Jp {f:Int->Int->Bool}(p:P (.bl<|f i j) U):JR2 K (rI0 λi j=>.bl<|f i j) (.int i) (.int j) U P:=λg G H Z Q x y k r Y c=>by
 cases r.inv;cases Y.inv;exact(i,j,rfl,rfl,c _ _ G H U k (Same.refl _) (.bl _) p)
theorem Cf (p:P (.bl<|decide (i=j)) U):JR2 K rEq (.int i) (.int j) U P:=λg G H Z Q x y k r Y c=>by
 cases r.inv;cases Y.inv;refine(rfl,?_);have e:decide (V.int i=V.int j)=decide (i=j):=by rw[Ll];exact(KH i j)
 rw[e];exact c _ _ G H U k (Same.refl _) (.bl _) p
theorem Zzt (p:P (.bl (!decide (i=j))) U):JR2 K rNe (.int i) (.int j) U P:=λg G H Z Q x y k r Y c=>by
 cases r.inv;cases Y.inv;refine(rfl,?_);have e:decide (V.int i=V.int j)=decide (i=j):=by rw[Ll];exact(KH i j)
 rw[e];exact c _ _ G H U k (Same.refl _) (.bl _) p
theorem Zyz (h:atI ds i=some d) (p:P d U):JR2 K (rIxT K) (.tup ds) (.int i) U P:=λg G H Z Q x y k r Y c=>by
 obtain⟨_,_,rfl,A,s⟩:=r.inv
 next=>
  cases Y.inv;obtain⟨v,a,b⟩:=LO s h;exact(_,_,i,v,rfl,rfl,SqT.of<|k.live _ _ A,a,c v d G H U k (Same.refl _) b p)
theorem Zzj (h:atI ds i=some d) (p:P d U):JR2 K (rIxL K) (.lst ds) (.int i) U P:=λg G H Z Q x y k r Y c=>by
 obtain⟨_,_,rfl,A,s⟩:=r.inv
 next=>
  cases Y.inv;obtain⟨v,a,b⟩:=LO s h;exact(_,_,i,v,rfl,rfl,SqL.of<|k.live _ _ A,a,c v d G H U k (Same.refl _) b p)
theorem Sg {n:Nat}{te:TE}{Pp:Em}{x:Slot}{od:OD}(hx:U[n]?=some x) (ho:x.od=some od) (hod:∃ds,od=.lst ds)
  (h:JE K te U λd U1=>∃y ds,U1[n]?=some y/\y.od=some (.lst ds)/\ds.length<sizeLine/\Pp.nx (U1.set n<|y.put (.lst<|ds++[d]))) :
  JS K (tDrop<|tBM K "list" rAppend (tVar n)<|tCons te tNil) U Pp:=λg G H Z E k c=>by
 obtain⟨a,o,b,e,f,j,l⟩:=k.own n x _ hx ho;obtain⟨s,hod⟩:=hod;subst hod;cases o with
 |lst vs0=>
  refine(.ref a,b,.inl (rfl,_,SqL.of e),h g G H Z _ k λv d G1 H1 U1 k1 s1 r1 (y,ds,q1,q2,q3,p)=>?_);obtain⟨A,O,W,i,w,m,q⟩:=k1.own n y _ q1 q2;rw[b]at W;cases W;cases O with
  |lst vs=>
   have w:Reps K G1 vs ds:=w;exact(a,vs,v,rfl,rfl,i,by rw[w.length];exact q3,c.nx Z G1 _ _ (k1.write q1 q2 b (show OwnRep K G1 (.lst<|vs++[v]) (.lst<|ds++[d]) from w.append (.cons r1 .nil))) p)
  |_=>exact absurd w (λz=>z)
 |_=>exact absurd f (λz=>z)
theorem Wl {ds es:List D}(he:ds=[.lst es]\/ds=[.tup es]) (p:P (.int es.length) U) :
  JC K (λxs H Q=>∃p ys,xs=[.ref p]/\(SqL K H p ys\/SqT K H p ys)/\Q (.int ys.length) H) ds U P:=λg G H Z Q v k s c=>by
 rcases he with he|he <;> subst he
 ·obtain⟨_,_,rfl,r,t⟩:=s.inv
  next=>
   cases t.inv;obtain⟨_,_,rfl,a,s⟩:=r.inv
   next=>
    refine(_,_,rfl,.inl<|SqL.of<|k.live _ _ a,?_);rw[s.length];exact c _ _ G H U k (Same.refl _) (.int _) p
 ·obtain⟨_,_,rfl,r,t⟩:=s.inv
  next=>
   cases t.inv;obtain⟨_,_,rfl,a,s⟩:=r.inv
   next=>
    refine(_,_,rfl,.inr<|SqT.of<|k.live _ _ a,?_);rw[s.length];exact c _ _ G H U k (Same.refl _) (.int _) p
theorem Vx {n:Nat}{x:Slot}{ds:List D}(hx:U[n]?=some x) (ho:x.od=some (.lst ds)) (p:P (.int ds.length) U) :
  JE K (tCB (λxs H Q=>∃p ys,xs=[.ref p]/\(SqL K H p ys\/SqT K H p ys)/\Q (.int ys.length) H)<|tCons (tVar n) tNil) U P:=λg G H Z Q k c=>by
 obtain⟨a,o,b,d,h,e,f⟩:=k.own n x _ hx ho;cases o with
 |lst vs=>
  have h:Reps K G vs ds:=h;refine(.ref a,b,a,vs,rfl,.inl<|SqL.of d,?_);rw[h.length];exact c _ _ G H U k (Same.refl _) (.int _) p
 |_=>exact absurd h (λz=>z)
theorem WO (p:P (.int (if i<0 then -i else i)) U):JC K (λxs H Q=>∃i,xs=[.int i]/\Q (.int (if i<0 then -i else i)) H) [.int i] U P:=λg G H Z Q v k s c=>by
 obtain⟨_,_,rfl,r,t⟩:=s.inv
 next=>cases t.inv;cases r.inv;exact(i,rfl,c _ _ G H U k (Same.refl _) (.int _) p)
theorem FD {f:Int->Int->Int}(p:P (.int<|f i j) U):JC K (λxs H Q=>∃i j,xs=[.int i,.int j]/\Q (.int<|f i j) H) [.int i,.int j] U P:=λg G H Z Q v k s c=>by
 obtain⟨_,_,rfl,r,t⟩:=s.inv
 next=>
  obtain⟨_,_,rfl,R,t⟩:=t.inv
  next=>cases t.inv;cases r.inv;cases R.inv;exact(i,j,rfl,c _ _ G H U k (Same.refl _) (.int _) p)
theorem Ur {ds es:List D}(he:ds=[.lst es]\/ds=[.tup es]) (p:P (.tup es) U) :
  JC K (λxs H Q=>∃p ys,xs=[.ref p]/\((SqL K H p ys/\∀l,H l=none->Q (.ref l) (upd H l (.tup ys)))\/(SqT K H p ys/\Q (.ref p) H))) ds U P:=λg G H Z Q v k s c=>by
 rcases he with he|he <;> subst he
 ·obtain⟨_,_,rfl,r,t⟩:=s.inv
  next=>
   cases t.inv;obtain⟨_,_,rfl,a,s⟩:=r.inv
   next=>
    refine(_,_,rfl,.inl (SqL.of<|k.live _ _ a,λl h=>?_));obtain⟨b,S⟩:=k.laid h (.tup _);exact c _ _ _ _ U b S (.tup Bm<|s.mono S) p
 ·obtain⟨_,_,rfl,r,t⟩:=s.inv
  next=>
   cases t.inv;obtain⟨_,_,rfl,a,s⟩:=r.inv
   next=>exact(_,_,rfl,.inr (SqT.of<|k.live _ _ a,c _ _ G H U k (Same.refl _) (.tup a s) p))
def glue (F H H':Hp):Hp:=λb=>match H b with
 |none=>H' b
 |some _=>F b
theorem HV (h:H b=none):glue F H H' b=H' b:=by unfold glue;rw[h]
theorem Fd (h:H b=some o):glue F H H' b=F b:=by unfold glue;rw[h]
theorem JL (l:Same G H):Same G (glue G H H'):=λb o e=>by rw[Fd (l b o e)];exact e
theorem Je (l:Same G H) (sh:∀b o,G b=some o->H b=some o->H' b=some o):∀b o,glue G H H' b=some o->H' b=some o/\(G b=some o\/H b=none):=λb o e=>by
 cases q:H b with
 |none=>rw[HV q]at e;exact(e,.inr rfl)
 |some u=>rw[Fd q]at e;exact(sh b o e (l b o e),.inl e)
abbrev DSp:=List D->(D->Prop)->Prop
def spD (K:W.Frag) (f:DSp):Sp:=λs H Q _=>∃F ds Post,Same F H/\Reps K F s ds/\f ds Post/\∀r H' d,Same H H' -> AY K (glue F H H') r d->Post d->Q r H'
theorem B4 (h:JA K ta U λds U1=>f ds λd=>P d U1):JE K (tCall (spD K f) [] E ta) U P:=λg G H Z Q k c=>
 h g G H Z _ k λv ds i j U1 a m R p=>by
  show spD K f (v++[]) j Q E;rw[Bs];refine(i,ds,_,a.live,R,p,λr H' d S l D=>?_);have s:=JL (H':=H') a.live;exact c r d _ H' U1 (a.grow s S (Je a.live λb o _ e=>S b o e)) (m.trans s) l D
abbrev BSp:=List D->List D->(D->List D->Prop)->Prop
def spB (K:W.Frag) (f:BSp):Sp:=λs H Q _=>∃F a us ws ps ds Post,s=.ref a::ws/\Same F H/\F a=none/\H a=some (.lst us)/\Reps K F us ps/\Reps K F ws ds/\f ps ds Post /\
 ∀r H' us' ps' d,(∀b o,b≠a->H b=some o->H' b=some o)->H' a=some (.lst us')->Reps K (glue F H H') us' ps' -> AY K (glue F H H') r d->Post d ps' -> Q r H'
theorem Ok.lend (k:Ok K g G H Z U) (hx:U[i]?=some x) (ho:x.od=some (.lst ps)) (ha:Z[i]?=some (some (.ref a)))
  (sh:∀b o,b≠a->H b=some o->H' b=some o) (hn:H' a=some (.lst us')) (r:Reps K (glue G H H') us' ps'):Ok K g (glue G H H') H' Z (U.set i<|x.put (.lst ps'))/\Same G (glue G H H'):=by
 obtain⟨A,o,f,j,p,l,q⟩:=k.own i x _ hx ho;rw[ha]at f;cases f;have s:=JL (H':=H') k.live;have n:Ok K g (glue G H H') (upd H' a o) Z U:=by
  refine k.grow s (λb u e=>?_) λb u e=>?_
  ·by_cases h:b=a
   ·subst h;rw[Bm,<- j];exact e
   ·rw[BA h];exact sh b u h e
  ·have h:b≠a:=by intro z;subst z;rw[Fd j,l]at e;cases e
   rw[BA h];exact Je k.live (λc w E m=>sh c w (λz=>by subst z;rw[l]at E;cases E) m) b u e
 have d:=n.write hx ho ha (show OwnRep K (glue G H H') (.lst us') (.lst ps') from r);rw[V1]at d;have e:upd H' a (.lst us')=H':=by
  funext b
  by_cases h:b=a
  ·subst h;rw[Bm,hn]
  ·rw[BA h]
 rw[e]at d;exact(d,s)
theorem Dt {f:BSp}{ta:TA}{E:XK}{i:Nat}{x:Slot}{od:OD}(hx:U[i]?=some x) (ho:x.od=some od) (h:JA K ta U λds U1=>∃y ps,U1[i]?=some y/\y.od=some (.lst ps)/\f ps ds λd ps'=>P d (U1.set i<|y.put (.lst ps'))) :
  JE K (tCall (spB K f) [] E<|tCons (tVar i) ta) U P:=λg G H Z Q k c=>by
 obtain⟨a,o,b,q,t,v,B⟩:=k.own i x _ hx ho;refine(.ref a,b,h g G H Z _ k λvs ds G1 H1 U1 k1 s1 r1 (y,ps,q1,q2,p1)=>?_);show spB K f ((.ref a::vs)++[]) H1 Q E;rw[Bs];obtain⟨A,O,w,l,W,m,C⟩:=k1.own i y _ q1 q2;rw[b]at w;cases w;cases O with
 |lst us=>
  refine(G1,a,us,vs,ps,ds,_,rfl,k1.live,m,l,W,r1,p1,λr e u ps' d S n R D p=>?_);obtain⟨j,s⟩:=k1.lend q1 q2 b S n R;exact c r d _ e _ j (s1.trans s) D p
 |_=>exact absurd W (λz=>z)
abbrev NSp:=List D->(List D->Prop)->Prop
def spN (K:W.Frag) (f:NSp):Sp:=λs H Q _=>∃F ds Post,Same F H/\Reps K F s ds/\f ds Post /\
 ∀a H' us ps,Same H H' -> H a=none->H' a=some (.lst us)->Reps K (λb=>if b=a then none else glue F H H' b) us ps->Post ps->Q (.ref a) H'
theorem He (h:JA K ta U λds U1=>f ds λps=>Po (.lst ps) U1):JO K (tCall (spN K f) [] E ta) U Po:=λg G H Z Q k c=>
 h g G H Z _ k λV ds i m U1 d F R P=>by
  show spN K f (V++[]) m Q E;rw[Bs];refine(i,ds,_,d.live,R,P,λa l n ps S A N C y=>?_);have s:Same i (λb=>if b=a then none else glue i m l b):=λb o e=>by
   have B:b≠a:=by intro z;subst z;rw[d.live _ _ e]at A;cases A
   try dsimp only
   rw[AB B];exact JL d.live b o e
  have v:Ok K g (λb=>if b=a then none else glue i m l b) l Z U1:=d.grow s S λb o e=>by
   try dsimp only at e
   by_cases B:b=a
   ·rw[AD B]at e;cases e
   ·rw[AB B]at e;exact Je d.live (λb o _ e=>S b o e) b o e
  refine c a _ _ l U1 v (F.trans s) (.lst n,N,(show OwnRep K _ (.lst n) (.lst ps) from C),by simp,d.there A,?_,λj x D p r t=>?_) y
  ·cases q:g.Xo a with
   |none=>rfl
   |some u=>have z:=(d.ext a u q).1;rw[A]at z;cases z
  ·obtain⟨b,O,w,W,_⟩:=d.own j x D p r
   rw[t]at w;cases w;rw[A]at W;cases W
end
def startD (N:List Str) (ds:List D):AI:=ds.map .val++Am (N.length-ds.length) .any
section
variable {K:W.Frag}
theorem JM (rs:Reps K G vs ds) (hl:ds.length<=N.length) (same:∀b o,¬ g.B b->g.Hz b=some o->H b=some o) (lent:∀b,g.B b->H b≠none) (sub:Same g.F G)
  (frz:∀b o,G b=some o->H b=some o/\(g.Hz b=none\/g.F b=some o)) (ext:∀b,g.Xo b=none):Ok K g G H (start N vs) (startD N ds):=by
 have O:∀(i:Nat) x D,(startD N ds)[i]?=some x->x.od=some D->False:=λi x D c E=>by
  have m:=Bk c;rcases Bb.mp m with z|z
  ·obtain⟨d,_,rfl⟩:=Af.mp z;cases E
  ·rw[FI]at z;rw[z.2]at E;cases E
 refine(same,lent,sub,frz,λb o e=>(by rw[ext b]at e;cases e),?_,λi d e=>?_,λi x D c E=>(O i x D c E).elim,λi j x y D k a c E=>(O i x D c E).elim)
 ·unfold start startD
  rw[Aw,Aw,AK,AK,CJ,CJ,rs.length]
 ·unfold startD at e
  unfold start;by_cases hi:i<ds.length
  ·rw[Cu (by simpa using hi),AZ]at e
   cases q:ds[i]? with
   |none=>rw[q]at e;cases e
   |some d'=>
    rw[q]at e;have e:Slot.val d'=Slot.val d:=by simpa using e
    cases e;obtain⟨v,h,f⟩:=rs.get q;refine(v,?_,f);rw[Cu (by rw[AK,rs.length];exact hi),AZ,h];rfl
  ·rw[CP (by simpa using hi),Fv]at e
   split at e <;> cases e
theorem Ce {f:DSp}{t:TS}{N:List Str}{vs:List V}{H:Hp}{Q:VK}{E:XK}(ht:∀ds Post,f ds Post->ds.length<=N.length/\JS K t (startD N ds) (λ_=>Post .non,λd _=>Post d,λ_=>False,λ_=>False,λ_ _=>False)) (h:spD K f vs H Q E) :
  t { nx:=λ_ H'=>Q .non H',rt:=Q } (start N vs) H:=by
 obtain⟨F,ds,Post,l,s,g,q⟩:=h;obtain⟨L,j⟩:=ht ds Post g;have n:∀{v:V}{d:D}{Z:St}{G H':Hp}{U:AI},Ok K (λ_=>False,F,H,λ_=>none) G H' Z U -> AY K G v d->Post d->Q v H':=λ{v d Z G H' U} k r p=>by
  refine q v H' d (λb o e=>k.same b o (λz=>z) e) (r.mono λb o e=>?_) p;obtain⟨a,c⟩:=k.frz b o e;rcases c with z|z
  ·rw[HV z];exact a
  ·rw[Fd (l b o z)];exact z
 refine j (λ_=>False,F,H,λ_=>none) F H (start N vs) _ (JM s L (λ_ _ _ e=>e) (λ_ z=>z.elim) (Same.refl _) (λb o e=>(l b o e,.inr e)) λ_=>rfl) (λZ G H' U k p=>n k .non p,λv d Z G H' U k r p=>n k r p,λ_ _ _ _ _ z=>z.elim,λ_ _ _ _ _ z=>z.elim,λ_ _ _ _ _ _ _ _ z=>z.elim)
theorem Ju {f:NSp}{t:TS}{N:List Str}{vs:List V}{H:Hp}{Q:VK}{E:XK}(ht:∀ds Post,f ds Post->ds.length<=N.length/\JS K t (startD N ds) (λ_=>False,λ_ _=>False,λ_=>False,λ_=>False,λod _=>∃ps,od=.lst ps/\Post ps)) (h:spN K f vs H Q E) :
  t { nx:=λ_ H'=>Q .non H',rt:=Q } (start N vs) H:=by
 obtain⟨F,ds,Post,l,s,n,q⟩:=h;obtain⟨L,J⟩:=ht ds Post n;refine J (λ_=>False,F,H,λ_=>none) F H (start N vs) _ (JM s L (λ_ _ _ e=>e) (λ_ z=>z.elim) (Same.refl _) (λb o e=>(l b o e,.inr e)) λ_=>rfl) (λ_ _ _ _ _ z=>z.elim,λ_ _ _ _ _ _ _ _ z=>z.elim,λ_ _ _ _ _ z=>z.elim,λ_ _ _ _ _ z=>z.elim,λa od Z G H' U k pd (ps,e,p)=>?_);subst e;obtain⟨o,i,c,j,m,r,u⟩:=pd;cases o with
 |lst us=>
  refine q a H' us ps (λb o e=>k.same b o (λz=>z) e) m i (Reps.mono (λb o e=>?_) (show Reps K G us ps from c)) p;have B:b≠a:=by intro z;subst z;rw[j]at e;cases e
  try dsimp only
  rw[AB B];obtain⟨d,g⟩:=k.frz b o e;rcases g with z|z
  ·rw[HV z];exact d
  ·rw[Fd (l b o z)];exact z
 |_=>exact absurd c (λz=>z)
theorem Ge {f:BSp}{t:TS}{N:List Str}{vs:List V}{H:Hp}{Q:VK}{E:XK}(ht:∀ps ds Post,f ps ds Post->ds.length+1<=N.length/\JS K t (.bor (.lst ps)::startD N.tail ds) (λU=>∃ps',U[0]?=some (.bor (.lst ps'))/\Post .non ps',λd U=>∃ps',U[0]?=some (.bor (.lst ps'))/\Post d ps',λ_=>False,λ_=>False,λ_ _=>False)) (h:spB K f vs H Q E) :
  t { nx:=λ_ H'=>Q .non H',rt:=Q } (start N vs) H:=by
 obtain⟨F,a,us,S,ps,ds,Post,rfl,l,X,C,ru,rs,hf,q⟩:=h;obtain⟨J,hj⟩:=ht ps ds Post hf;have I:∀{v:V}{d:D}{Z:St}{G H':Hp}{U:AI}{ps':List D},Ok K (λb=>b=a,F,H,λ_=>none) G H' Z U -> U[0]?=some (.bor (.lst ps'))->AY K G v d->Post d ps' -> Q v H':=λ{v d Z G H' U ps'} k e0 r p=>by
  obtain⟨M,o,h1,Y,B,h4,h5⟩:=k.own 0 _ _ e0 rfl;have W:M=a:=h5;subst W;cases o with
  |lst us'=>
   have P:Same G (glue F H H'):=λb o e=>by
    obtain⟨m,n⟩:=k.frz b o e;rcases n with z|z
    ·rw[HV z];exact m
    ·rw[Fd (l b o z)];exact z
   exact q v H' us' ps' d (λb o hb e=>k.same b o hb e) Y (Reps.mono P (show Reps K G us' ps' from B)) (r.mono P) p
  |_=>exact absurd B (λz=>z)
 cases N with
 |nil=>simp at J
 |cons n0 N=>
  have L:ds.length<=N.length:=by simpa using J
  have s:=JM (K:=K) (H:=H) (g:=(λb=>b=a,F,H,λ_=>none)) (N:=N) rs L (λ_ _ _ e=>e) (λb z=>by subst z;rw[C];intro w;cases w) (Same.refl _) (λb o e=>(l b o e,.inr e)) λ_=>rfl;have m:start (n0::N) (.ref a::S)=some (.ref a)::start N S:=by
   unfold start;rw[BX,Aj,Aj,Nat.add_sub_add_right];rfl
  rw[m];have O:∀(i:Nat) x u,(startD N ds)[i]?=some x->x.od=some u->False:=λi x u m n=>by
   have hm:=Bk m;rcases Bb.mp hm with z|z
   ·obtain⟨d,_,rfl⟩:=Af.mp z;cases n
   ·rw[FI]at z;rw[z.2]at n;cases n
  have k1:Ok K (λb=>b=a,F,H,λ_=>none) F H (some (.ref a)::start N S) (.bor (.lst ps)::startD N ds):=by
   refine(s.same,s.lent,s.sub,s.frz,λb o e=>(by cases e),(by rw[Aj,Aj,s.len]),λi d e=>?_,λi x u m n=>?_,λi j x y u A c m n R T _ _=>?_)
   ·cases i with
    |zero=>cases e
    |succ i=>exact s.val i d e
   ·cases i with
    |zero=>cases m;cases n;exact(a,.lst us,rfl,C,ru,X,rfl)
    |succ i=>exact(O i x u m n).elim
   ·cases i with
    |zero=>cases j with
     |zero=>rfl
     |succ j=>exact(O j y A R T).elim
    |succ i=>exact(O i x u m n).elim
  exact hj _ F H _ _ k1 (λZ G H' U k (ps',e,p)=>I k e .non p,λv d Z G H' U k r (ps',e,p)=>I k e r p,λ_ _ _ _ _ z=>z.elim,λ_ _ _ _ _ z=>z.elim,λ_ _ _ _ _ _ _ _ z=>z.elim)
theorem Ca (h:∀ds Post,f ds Post->ds.length=n):∀vs H Q E,spD K f vs H Q E->vs.length=n:=λvs H Q E a=>by obtain⟨F,ds,Post,l,s,b,q⟩:=a;rw[s.length];exact h ds Post b
theorem JY (h:∀ds Post,f ds Post->ds.length=n):∀vs H Q E,spN K f vs H Q E->vs.length=n:=λvs H Q E a=>by obtain⟨F,ds,Post,l,s,b,q⟩:=a;rw[s.length];exact h ds Post b
theorem GS (h:∀ps ds Post,f ps ds Post->ds.length+1=n):∀vs H Q E,spB K f vs H Q E->vs.length=n:=λvs H Q E b=>by obtain⟨F,a,S,w,ps,ds,Post,e,l,A,d,u,s,c,q⟩:=b;rw[e,Aj,s.length];exact h ps ds Post c
end
def JGn (K:W.Frag) (n:Nat) (t:TG) (d:D) (U:AI) (P:AI->Prop):Prop:=
 ∀g G H Z v (R:St->Hp->Prop),Ok K g G H Z U -> AY K G v d->(∀Z' G' H' U',Ok K g G' H' Z' U' -> Same G G' -> (∀j,n<=j -> Z'[j]? = Z[j]?)->P U' -> R Z' H')->t v Z H R
def JGsn (K:W.Frag) (n:Nat) (t:TGs) (ds:List D) (U:AI) (P:AI->Prop):Prop:=
 ∀g G H Z vs (R:St->Hp->Prop),Ok K g G H Z U -> Reps K G vs ds->(∀Z' G' H' U',Ok K g G' H' Z' U' -> Same G G' -> (∀j,n<=j -> Z'[j]? = Z[j]?)->P U' -> R Z' H')->t vs Z H R
section
variable {K:W.Frag}{U:AI}
theorem Ud (p:P U):JGsn K n gNil [] U P:=λg G H Z s R k r c=>by cases r;exact(rfl,c Z G H U k (Same.refl _) (λ_ _=>rfl) p)
theorem Ni (h:JGn K n t d U λU1=>JGsn K n u ds U1 P):JGsn K n (gCons t u) (d::ds) U P:=λg G H Z V R k r c=>by
 obtain⟨_,_,rfl,w,x⟩:=r.inv
 next=>exact(_,_,rfl,h g G H Z _ _ k w λz a e U1 o s E q=>q g a e z _ R o (x.mono s) λl b f i p S m v=>c l b f i p (s.trans S) (λj J=>(m j J).trans (E j J)) v)
theorem VU (hl:ds.length=m) (h:JGsn K n t ds U P):JGn K n (gTup K m t) (.tup ds) U P:=λg G H Z v R k r c=>by
 obtain⟨_,_,rfl,a,s⟩:=r.inv
 next=>exact(_,_,rfl,SqT.of<|k.live _ _ a,by rw[s.length];exact hl,h g G H Z _ R k s c)
end
def compD (n:Nat) (sel:List Nat) (U:AI):AI:=Am n .any++sel.map λi=>(U[i]?).getD .any
def backAt (n:Nat) (sel:List Nat) (Ui:AI) (i:Nat) (x:Slot):Slot:=match x with
 |.val d=>.val d
 |.any=>.any
 |x=>match sel.idxOf? i with
  |none=>x
  |some j=>match Ui[n+j]? with
   |some (.own o)=>.own o
   |some (.bor o)=>.bor o
   |some (.ownA a o)=>.ownA a o
   |_=>.any
def backD (n:Nat) (sel:List Nat) (Ui:AI):Nat->AI->AI
 |_,[]=>[]
 |i,x::r=>backAt n sel Ui i x::backD n sel Ui (i+1) r
theorem GD (n:Nat) (sel:List Nat) (Ui:AI):∀(U:AI) (k i:Nat),(backD n sel Ui k U)[i]?=(U[i]?).map (backAt n sel Ui<|k+i)
 |[],k,i=>by simp[backD]
 |x::r,k,0=>by simp[backD]
 |x::r,k,i+1=>by
  have:=GD n sel Ui r (k+1) i;simp only[backD,Gp];rw[this,show k+1+i=k+(i+1) by lia]
theorem Nb (n:Nat) (sel:List Nat) (Ui:AI):∀(U:AI) (k:Nat),(backD n sel Ui k U).length = U.length
 |[],k=>rfl
 |x::r,k=>by simp[backD,Nb n sel Ui r (k+1)]
theorem Iw {sel:List Nat}(h:sel.idxOf? i=some j):sel[j]?=some i:=by
 have H:=List.idxOf?_eq_some_iff.mp h;obtain⟨J,e,_⟩:=H;rw[AQ J,e]
theorem Th {n:Nat}{sel:List Nat}{Ui:AI}{i:Nat}{x y:Slot}{od:OD}(h:backAt n sel Ui i x=y) (ho:y.od=some od) :
  (x=y/\sel.idxOf? i=none)\/∃j,sel[j]?=some i /\ Ui[n+j]?=some y/\∃od',x.od=some od':=by
 unfold backAt at h;cases x with
 |any=>subst h;cases ho
 |val d=>subst h;cases ho
 |own o=>
  dsimp only at h;cases q:sel.idxOf? i with
  |none=>rw[q]at h;exact .inl (h,rfl)
  |some j=>
   rw[q]at h;dsimp only at h;refine .inr (j,Iw q,?_,o,rfl);cases e:Ui[n+j]? with
   |none=>rw[e]at h;subst h;cases ho
   |some z=>rw[e]at h;cases z <;> (subst h;first|rfl|cases ho)
 |ownA a o=>
  dsimp only at h;cases q:sel.idxOf? i with
  |none=>rw[q]at h;exact .inl (h,rfl)
  |some j=>
   rw[q]at h;dsimp only at h;refine .inr (j,Iw q,?_,o,rfl);cases e:Ui[n+j]? with
   |none=>rw[e]at h;subst h;cases ho
   |some z=>rw[e]at h;cases z <;> (subst h;first|rfl|cases ho)
 |bor o=>
  dsimp only at h;cases q:sel.idxOf? i with
  |none=>rw[q]at h;exact .inl (h,rfl)
  |some j=>
   rw[q]at h;dsimp only at h;refine .inr (j,Iw q,?_,o,rfl);cases e:Ui[n+j]? with
   |none=>rw[e]at h;subst h;cases ho
   |some z=>rw[e]at h;cases z <;> (subst h;first|rfl|cases ho)
section
variable {K:W.Frag}{U:AI}
open Classical in
noncomputable def aside (g:Gm) (sel:List Nat) (Z:St) (U:AI) (H:Hp) (acc:Addr) (ys:List V):Hp:=λb=>
 if b=acc then some (.lst ys) else if ∃(i:Nat) (x:Slot) (od:OD),U[i]?=some x/\x.od=some od/\i ∉ sel /\ Z[i]?=some (some (.ref b)) then H b else g.Xo b
theorem Ir (h:sel[j]?=some i):(compSt n sel Z)[n+j]?=some ((Z[i]?).getD none):=by
 unfold compSt;rw[CP (by rw[CJ];lia),CJ,Nat.add_sub_cancel_left,AZ,h];rfl
theorem FZ (h:(compD n sel U)[k]?=some x):x=.any\/∃j i,k=n+j/\sel[j]?=some i /\ U[i]?=some x:=by
 unfold compD at h;by_cases hk:k<n
 ·rw[Cu (by simpa using hk),Fv,AD hk]at h
  exact .inl (BY.inj h).symm
 ·rw[CP (by simpa using hk),CJ,AZ]at h
  cases e:sel[k-n]? with
  |none=>rw[e]at h;cases h
  |some i=>
   rw[e]at h;have h:(U[i]?).getD .any=x:=by simpa using h
   cases q:U[i]? with
   |none=>rw[q]at h;exact .inl h.symm
   |some y=>rw[q]at h;cases h;exact .inr (k-n,i,by lia,e,q)
theorem M3 (hsel:sel.Nodup) (k1:Ok K g G1 H1 Z U1) (hacc:H1 acc=none)
  (hX:∀b o,X0 b=some o->(b=acc/\o=.lst [])\/(b≠acc/\(((∃(i:Nat) (x:Slot) (od:OD),U1[i]?=some x/\x.od=some od/\i ∉ sel /\ Z[i]?=some (some (.ref b)))/\H1 b=some o)\/g.Xo b=some o))):Ok K (g.B,G1,g.Hz,X0) G1 (upd H1 acc (.lst [])) (compSt n sel Z) (compD n sel U1):=by
 have L:∀{j j' i:Nat},sel[j]?=some i->sel[j']?=some i->j=j':=λ{j j' i} a b=>by
  obtain⟨Y,f⟩:=BB.mp a;obtain⟨h2,E⟩:=BB.mp b;exact(Fx hsel).mp (f.trans E.symm)
 have G:G1 acc=none:=by
  cases e:G1 acc with
  |none=>rfl
  |some u=>rw[k1.live _ _ e]at hacc;cases hacc
 have s:∀{j i:Nat}{a:Addr},sel[j]?=some i->(compSt n sel Z)[n+j]?=some (some (.ref a)) -> Z[i]?=some (some (.ref a)):=λ{j i a} J c=>by
  rw[Ir J]at c;cases q:Z[i]? with
  |none=>rw[q]at c;cases c
  |some w=>rw[q]at c;cases c;rfl
 have H:∀b o,H1 b=some o->(upd H1 acc (.lst [])) b=some o:=λb o e=>by rw[BA (Dr e hacc)];exact e
 refine(λb o m e=>H b o<|k1.same b o m e,λb m z=>?_,Same.refl _,λb o e=>(H b o<|k1.live b o e,.inr e),λb o e=>?_,?_,λi d e=>?_,λi x od f E=>?_,λi j x y od O a f E c C R S=>?_)
 ·cases q:H1 b with
  |none=>exact k1.lent b m q
  |some u=>rw[H b u q]at z;cases z
 ·rcases hX b o e with ⟨rfl,rfl⟩|⟨m,⟨⟨P,X,D,F,M,T,N⟩,e⟩|e⟩
  ·refine(Bm,G,λi x od f E c=>?_)
   rcases FZ f with z|⟨j,h,I,J,z⟩
   ·subst z;cases E
   ·subst I
    obtain⟨a,o,W,k,_⟩:=k1.own h x od z E;rw[s J c]at W;cases W;rw[hacc]at k;cases k
  ·obtain⟨a,oo,W,k,p,t,Q⟩:=k1.own P X D F M
   rw[N]at W;cases W;refine(H b o e,t,λi x od f E c=>?_);rcases FZ f with z|⟨j,h,I,J,z⟩
   ·subst z;cases E
   ·subst I
    have:=k1.dis P h X x D od b F M z E N<|s J c;subst this;exact T<|Bk J
  ·obtain⟨W,k,p⟩:=k1.ext b o e
   refine(H b o W,k,λi x od f E c=>?_);rcases FZ f with z|⟨j,h,I,J,z⟩
   ·subst z;cases E
   ·subst I;exact p h x od z E<|s J c
 ·unfold compD compSt
  simp
 ·rcases FZ e with z|⟨j,h,I,J,z⟩
  ·cases z
  ·subst I
   obtain⟨v,W,k⟩:=k1.val h d z;exact(v,by rw[Ir J,W];rfl,k)
 ·rcases FZ f with z|⟨j,h,I,J,z⟩
  ·subst z;cases E
  ·subst I
   obtain⟨a,o,W,k,p,t,Q⟩:=k1.own h x od z E;exact(a,o,by rw[Ir J,W];rfl,H a o k,p,t,Q)
 ·rcases FZ f with z|⟨j1,U,I,J,z⟩
  ·subst z;cases E
  ·rcases FZ c with A|⟨j2,V,r,l,A⟩
   ·subst A;cases C
   ·subst I;subst r
    have:=k1.dis U V x y od O a z E A C (s J R)<|s l S;subst this;rw[L J l]
theorem La {Z Z2:St}{U1 U2:AI}{n:Nat}{sel:List Nat}(hZ:∀j,n<=j -> Z2[j]?=(compSt n sel Z)[j]?) (i:Nat) (y:Slot) (od:OD) (e1:(backD n sel U2 0 U1)[i]?=some y) (e2:y.od=some od) :
  ∃x od',U1[i]?=some x/\x.od=some od' /\ ((x=y/\i ∉ sel)\/∃j,sel[j]?=some i /\ U2[n+j]?=some y /\ Z2[n+j]?=some ((Z[i]?).getD none)):=by
 rw[GD]at e1;cases q:U1[i]? with
 |none=>rw[q]at e1;cases e1
 |some x=>
  rw[q]at e1;have e1:backAt n sel U2 i x=y:=by simpa using e1
  rcases Th e1 e2 with ⟨z,a⟩|⟨j,z,a,od',b⟩
  ·refine(x,od,rfl,by rw[z];exact e2,.inl (z,λm=>?_))
   rw[List.idxOf?_eq_none_iff]at a;exact a m
  ·exact(x,od',rfl,b,.inr (j,z,a,by rw[hZ (n+j) (by omega)];exact Ir z))
theorem Mz (k1:Ok K g G1 H1 Z U1) (hacc:H1 acc=none) (k2:Ok K (g.B,G1,g.Hz,Xv) G2 H2 Z2 U2) (hZ:∀j,n<=j -> Z2[j]?=(compSt n sel Z)[j]?)
  (hX:∀b o,b≠acc->(∃(i:Nat) (x:Slot) (od:OD),U1[i]?=some x/\x.od=some od/\i ∉ sel /\ Z[i]?=some (some (.ref b)))->H1 b=some o->Xv b=some o) (hY:∀b o,b≠acc->¬ (∃(i:Nat) (x:Slot) (od:OD),U1[i]?=some x/\x.od=some od/\i ∉ sel /\ Z[i]?=some (some (.ref b)))->g.Xo b=some o->Xv b=some o):Ok K g G2 H2 Z (backD n sel U2 0 U1):=by
 have s:Same G1 G2:=k2.sub;have c:=La (U1:=U1) (U2:=U2) hZ;refine(k2.same,k2.lent,k1.sub.trans s,λb o e=>?_,λb o e=>?_,by rw[Nb,k1.len],λi d e=>?_,λi y od m E=>?_,λi j x y od D a m E p G H I=>?_)
 ·obtain⟨Q,M⟩:=k2.frz b o e
  refine(Q,?_);rcases M with z|z
  ·exact .inl z
  ·exact(k1.frz b o z).2
 ·obtain⟨w,W,l⟩:=k1.ext b o e
  have N:b≠acc:=by intro z;subst z;rw[hacc]at w;cases w
  obtain⟨u,U,P⟩:=k2.ext b o<|hY b o N (λ(i,x,od,f,F,h,k)=>l i x od f F k) e;refine(u,U,λi y od m E p=>?_);obtain⟨x,D,f,F,_⟩:=c i y od m E;exact l i x D f F p
 ·rw[GD]at e
  cases q:U1[i]? with
  |none=>rw[q]at e;cases e
  |some x=>
   rw[q]at e;have e:backAt n sel U2 (0+i) x=.val d:=by simpa using e
   have X:x=.val d:=by
    unfold backAt at e;cases x with
    |any=>cases e
    |val d'=>exact e
    |own o=>dsimp only at e;split at e <;> first|cases e|(split at e <;> cases e)
    |bor o=>dsimp only at e;split at e <;> first|cases e|(split at e <;> cases e)
    |ownA a o=>dsimp only at e;split at e <;> first|cases e|(split at e <;> cases e)
   subst X;obtain⟨v,w,W⟩:=k1.val i d q;exact(v,w,W.mono s)
 ·obtain⟨x,D,f,F,h⟩:=c i y od m E
  rcases h with ⟨h,k⟩|⟨j,h,k,L⟩
  ·subst h
   obtain⟨a,o,w,W,l,C,t⟩:=k1.own i x od f E;have N:a≠acc:=by intro z;subst z;rw[hacc]at W;cases W
   obtain⟨u,U,P⟩:=k2.ext a o<|hX a o N (i,x,od,f,E,k,w) W;exact(a,o,w,u,l.mono s,U,t)
  ·obtain⟨a,o,w,W,l,C,t⟩:=k2.own (n+j) y od k E
   obtain⟨A,S,V,_⟩:=k1.own i x D f F;rw[L,V]at w;have J:A=a:=by cases w;rfl
   subst J;exact(A,o,V,W,l,C,t)
 ·obtain⟨R,O,f,F,_⟩:=c i x od m E
  obtain⟨Y,r,h,k,_⟩:=c j y D p G;exact k1.dis i j R Y O r a f F h k H I
theorem Ok.base {g:Gm}(sF:Same G1 F) (hF:∀b o,F b=some o->(g.Hz b=none\/G1 b=some o)) (k5:Ok K (g.B,F,g.Hz,X) G5 H5 Z5 U5):Ok K (g.B,G1,g.Hz,X) G5 H5 Z5 U5:=
 ⟨k5.same,k5.lent,sF.trans k5.sub,λb o q=>by
  obtain⟨Q,a⟩:=k5.frz b o q;refine(Q,?_);rcases a with z|z
  ·exact .inl z
  ·exact hF b o z,k5.ext,k5.len,k5.val,k5.own,k5.dis⟩
theorem Ot (hsel:sel.Nodup)
  (h:JI K wi U λds U1=>ds.length<sizeLine/\∃I:Nat->List D->AI->Prop,I 0 [] (compD n sel U1) /\
   (∀i d ys U2,ds[i]?=some d->I i ys U2->JGn K n t d U2 λU3=>JT K tc U3 λb U4=>if b=true then JE K te U4 λe U5=>I (i+1) (ys++[e]) U5 else I (i+1) ys U4) /\
   ∀ys U2,I ds.length ys U2->P (.lst ys) (backD n sel U2 0 U1)):JO K (tComp n sel wi t tc te) U P:=λg G H Z Q k c=>
 h g G H Z _ k λJ ds G1 H1 U1 k1 s1 it (hz,I,h0,ht,he) acc hacc=>by
  have a0:∀(i:Nat) x O,U1[i]?=some x->x.od=some O -> Z[i]?≠some (some (.ref acc)):=λi x O M N e3=>by
   obtain⟨a,o,W,R,_⟩:=k1.own i x O M N;rw[e3]at W;cases W;rw[hacc]at R;cases R
  -- the word at each turn
  let Wd:Nat->St->Hp->Prop:=λi p r=>i<=ds.length/\(∀j,n<=j -> p[j]?=(compSt n sel Z)[j]?)/\∃G ys s Ui,ys.length<=i/\Reps K G s ys/\Ok K (g.B,G1,g.Hz,aside g sel Z U1 H1 acc s) G r p Ui/\I i ys Ui
  refine(λi m p r=>m=ds.length-i/\Wd i p r,(ds.length,by simp,BZ _,λ_ _=>rfl,G1,[],[],compD n sel U1,AS _,.nil,?_,h0),?_)
  ·refine M3 hsel k1 hacc λb o e=>?_
   have e:aside g sel Z U1 H1 acc [] b=some o:=e;unfold aside at e;by_cases f:b=acc
   ·rw[AD f]at e;cases e;exact .inl (f,rfl)
   ·rw[AB f]at e
    split at e
    case isTrue X=>exact .inr (f,.inl (X,e))
    case isFalse X=>exact .inr (f,.inr e)
  ·rintro i m Z2 H2 ⟨rfl,hi,hZ,S,ys,s,U2,hy,ry,k2,h2⟩
   have s2:Same G1 S:=k2.sub;obtain⟨a8,go⟩:=it S H2 s2 k2.live;have C:∀{G' r:Hp}{p:St}{U':AI}{s:List V}{F:Hp},Ok K (g.B,F,g.Hz,aside g sel Z U1 H1 acc s) G' r p U' -> r acc=some (.lst s)/\G' acc=none/\∀(i:Nat) x O,U'[i]?=some x->x.od=some O -> p[i]?≠some (some (.ref acc)):=λ{G' r p U' s F} kk=>
    kk.ext acc (.lst s) (by show aside g sel Z U1 H1 acc s acc=_;unfold aside;rw[AD rfl])
   by_cases hlt:i<ds.length
   ·obtain⟨g1,g2⟩:=go i _ (AQ hlt)
    refine .inr (g1,λp r=>Wd (i+1) p r,λp r p'=>(ds.length-(i+1),by omega,rfl,p'),λx H3 y=>?_);obtain⟨L,a1,a2,a3,a4⟩:=g2 x H3 y;have A:=k2.grow a1 a2 a3;have T:∀b o,L b=some o->(g.Hz b=none\/G1 b=some o):=λb o q=>(A.frz b o q).2;have b0:Ok K (g.B,L,g.Hz,aside g sel Z U1 H1 acc s) L H3 Z2 U2:=(A.same,A.lent,Same.refl _,λb o q=>((A.frz b o q).1,.inr q),A.ext,A.len,A.val,A.own,A.dis);have a5:Reps K L s ys:=ry.mono a1;have a7:Same G1 L:=s2.trans a1;refine ht i _ ys U2 (AQ hlt) h2 (g.B,L,g.Hz,aside g sel Z U1 H1 acc s) L H3 Z2 x _ b0 a4 λZ4 G4 H4 U4 k4 s4 e4 p4=>?_;have Y:∀j,n<=j -> Z4[j]?=(compSt n sel Z)[j]?:=λj hj=>(e4 j hj).trans (hZ j hj);refine p4 _ G4 H4 Z4 _ k4 λb G5 H5 U5 k5 s5 p5=>?_;cases b with
    |false=>exact(hlt,Y,G5,ys,s,U5,by lia,a5.mono (s4.trans s5),k5.base a7 T,p5)
    |true=>
     refine(show JE K te U5 _ from p5) _ G5 H5 Z4 _ k5 λv d G6 H6 U6 k6 s6 r6 p6=>?_;have a6:Reps K G6 s ys:=a5.mono<|s4.trans<|s5.trans s6;obtain⟨b1,b2,b3⟩:=C k6;refine(s,b1,by rw[a6.length];omega,hlt,Y,G6,ys++[d],s++[v],U6,by rw[Aw,DS];lia,a6.append (.cons r6 .nil),?_,p6);have w:=k6.base a7 T;have l:∀b o,b≠acc->H6 b=some o->(upd H6 acc (.lst<|s++[v])) b=some o:=λb o f e=>by rw[BA f];exact e
     have a9:∀b o,b≠acc->aside g sel Z U1 H1 acc (s++[v]) b=some o->aside g sel Z U1 H1 acc s b=some o:=λb o f e=>by
      unfold aside at e ⊢;rw[AB f]at e ⊢;exact e
     refine(λb o f e=>?_,λb f=>?_,w.sub,λb o e=>?_,λb o e=>?_,w.len,w.val,λi x O M N=>?_,w.dis)
     ·have E:b≠acc:=by
       intro z;subst z;have e:g.Hz b=some o:=e;rw[k1.there hacc]at e;cases e
      exact l b o E<|w.same b o f e
     ·by_cases E:b=acc
      ·subst E;rw[Bm];intro z;cases z
      ·rw[BA E];exact w.lent b f
     ·have E:b≠acc:=by intro z;subst z;rw[b2]at e;cases e
      exact(l b o E (w.frz b o e).1,(w.frz b o e).2)
     ·by_cases E:b=acc
      ·subst E
       have e:aside g sel Z U1 H1 b (s++[v]) b=some o:=e;unfold aside at e;rw[AD rfl]at e;cases e;exact(Bm,b2,b3)
      ·obtain⟨W,R,w3⟩:=w.ext b o (a9 b o E e)
       exact(l b o E W,R,w3)
     ·obtain⟨a,o,W,R,w3,w4,w5⟩:=w.own i x O M N
      have E:a≠acc:=by intro z;subst z;exact b3 i x O M N W
      exact(a,o,W,l a o E R,w3,w4,w5)
   ·have e:i=ds.length:=by lia
    subst e;refine .inl (a8,?_);obtain⟨b1,b2,b3⟩:=C k2;have b5:=La (U1:=U1) (U2:=U2) hZ;have k9:Ok K g S H2 Z (backD n sel U2 0 U1):=Mz k1 hacc k2 hZ (λb o f X e=>by show aside g sel Z U1 H1 acc s b=_;unfold aside;rw[AB f,AD X];exact e) (λb o f X e=>by show aside g sel Z U1 H1 acc s b=_;unfold aside;rw[AB f,AB X];exact e);refine c acc _ S H2 _ k9 (s1.trans s2) (.lst s,b1,(show OwnRep K S (.lst s) (.lst ys) from ry),b2,k1.there hacc,?_,λi y O M N e3=>?_)<|he ys U2 h2
    ·cases q:g.Xo acc with
     |none=>rfl
     |some u=>have z:=(k1.ext acc u q).1;rw[hacc]at z;cases z
    ·obtain⟨x',b4,f1,f2,_⟩:=b5 i y O M N
     exact a0 i x' b4 f1 f2 e3
theorem Pw (hsel:sel.Nodup)
  (h:JI K wi U λds U1=>ds.length<sizeLine/\∃I:Nat->List D->AI->Prop,I 0 [] (compD n sel U1) /\
   (∀i d ys U2,ds[i]?=some d->I i ys U2->JGn K n t d U2 λU3=>JT K tc U3 λb U4=>if b=true then JE K te U4 λe U5=>I (i+1) (ys++[e]) U5 else I (i+1) ys U4) /\
   ∀ys U2,I ds.length ys U2->P (.lst ys) (backD n sel U2 0 U1)):JE K (tComp n sel wi t tc te) U P:=
 EH (Ot hsel λg G H Z R k c=>h g G H Z R k λJ ds G' H' U' k' s' it (z,I,h0,ht,he)=>c J ds G' H' U' k' s' it (z,I,h0,ht,λys U2 q=>(ys,rfl,he ys U2 q)))
theorem Nr (hsel:sel.Nodup)
  (h:JI K wi U λds U1=>ds.length<sizeLine/\∃(fix:AI) (p:D->Bool) (f:D->D),compD n sel U1=Am n .any++fix /\
   (∀(i:Nat) d (ts:AI),ds[i]?=some d->ts.length=n->JGn K n t d (ts++fix) λU3=>JT K tc U3 λb U4=>b=p d/\if b=true then JE K te U4 λe U5=>e=f d/\∃ts',ts'.length=n /\ U5=ts'++fix else ∃ts',ts'.length=n /\ U4=ts'++fix) /\
   P (.lst ((ds.filter p).map f)) (backD n sel (Am n .any++fix) 0 U1)):JE K (tComp n sel wi t tc te) U P:=by
 refine Pw hsel λg G H Z R k c=>h g G H Z R k λJ ds a l u m S it (z,fix,p,f,e0,ht,he)=>c J ds a l u m S it (z,λi y U=>y=((ds.take i).filter p).map f/\∃ts:AI,ts.length=n /\ U = ts++fix,?_,?_,?_)
 ·exact(by simp,_,by simp,e0)
 ·rintro i d y B A ⟨rfl,ts,s,rfl⟩
  have T:ds.take (i+1)=ds.take i++[d]:=by
   rw[Dl,A];rfl
  intro g G H Z v R k r c;refine ht i d ts A s g G H Z v R k r λC a l u m S E q=>c C a l u m S E λg G H Z Q k c=>q g G H Z Q k λb a l u m S (eb,q)=>c b a l u m S ?_;cases b with
  |true=>
   rw[AD rfl]at q ⊢;refine q.mono λe U5 (e1,ts',o,w)=>(?_,ts',o,w);rw[T,DT,BD,CC,<- eb,e1];rfl
  |false=>
   rw[AB BR]at q ⊢;obtain⟨ts',o,w⟩:=q;refine(?_,ts',o,w);rw[T,DT,BD,CC,<- eb];simp
 ·rintro y B ⟨rfl,ts,s,rfl⟩
  rw[B2];have e:backD n sel (ts++fix) 0 u=backD n sel (Am n .any++fix) 0 u:=by
   apply DR;intro i;rw[GD,GD];congr 1
   funext x
   unfold backAt;have F:∀j,(ts++fix)[n+j]?=(Am n Slot.any++fix)[n+j]?:=λj=>by
    rw[CP (by lia),CP (by simp),s,CJ]
   simp only[F]
  rw[e];exact he
end
end L2
set_option Elab.async false
set_option linter.all false
set_option maxRecDepth 100000
namespace HT
open PySem PyProof.Rows
section
variable {prog:Program}{w:World}{A:Around}{E:AX}{s:Shared}
theorem getItem_tuple_whole {lo hi:Option Int}(ht:IsTup s.heap t items) (hs:s.heap.IsSliceOf sl vl vu .none) (pl:IsPart vl lo) (pu:IsPart vu hi)
  (hw:sIx items.size 0 lo=0/\sIx items.size items.size hi=items.size) (h:Q (.ref t) s):wpAny (model prog w) A (getItem (.ref t) (.ref sl)) Q E s:=by
 obtain⟨S,o,c,d⟩:=id hs;have T:s.TypeIs (.ref sl) "slice":=(S,o,c);unfold getItem
 try with_reducible refine Bq ?_
 first|refine AA (AH ?_)|skip
 refine AA (wpAny_sequenceKey ht.typeIs (by decide) ?_);refine AA (wpAny_callSpecial?_slot (name:=Str.ofString "__getitem__") ht.typeIs PyProof.Rows.slot_tuple_getitem
  (wpAny_call_entry PyProof.Rows.slot_tuple_getitem ht.typeIs entry_tuple_getitem ?_ (args_tuple_getitem _ _)))
 show wpAny _ _ (Builtin.Tuple.tupleItemsOf (.ref t) >>= _) _ _ s;refine AA<|tupleItemsOf_ ht ?_;refine AA<|wpAny_typeOf T ?_;rw[AD (by decide)];refine AA<|Mf hs pl pu ?_;have e:(((sIx items.size 0 lo:Nat):Int) == 0 && (1:Int) == 1 && (sIx items.size items.size hi-sIx items.size 0 lo) == items.size)=true:=by
  rw[hw.1,hw.2];simp
 show wpAny _ _ (if (((sIx items.size 0 lo:Nat):Int) == 0 && (1:Int) == 1 && (sIx items.size items.size hi-sIx items.size 0 lo) == items.size)=true then _ else _) _ _ s;rw[AD e]
 first
  |exact AH (_,rfl,AH h)
  |exact AH (_,rfl,h)
  |exact AA (AH (AH (_,rfl,AH h)))
  | (refine AA (AA (wpAny_typeOf ht.typeIs (AH ?_)))
     rw[AD (by decide)];exact AA (DO (AH (_,rfl,AH h))))
theorem Qk {n:Nat}(hs:s.heap.IsSliceOf sl .none .none (.int (-1) t))
  (h:Q (((n:Int)-1),-1,n) s):wpAny (model prog w) A (Builtin.Slice.sliceApplied (.ref sl)<|pure (n:Int)) Q E s:=by
 obtain⟨S,o,c,d⟩:=id hs;unfold Builtin.Slice.sliceApplied Builtin.Slice.sliceFields;refine AA<|AA<|wpAny_field o d (x:=.none) rfl<|AA<|wpAny_field o d (x:=.none) rfl<|AA<|wpAny_field o d (x:=.int (-1) t) rfl<|AH ?_;refine AA<|K3 (.int (-1) t) ?_;show wpAny _ _ (if ((-1:Int) == 0)=true then _ else _) _ _ s;rw[AB (by decide)];refine AA<|slicePart_none<|AA<|slicePart_none<|AA<|AH ?_;have e:Builtin.Slice.sliceAdjust none none (-1) (n:Int)=((n:Int)-1,-1):=by
  simp[Builtin.Slice.sliceAdjust]
 show wpAny _ _ (match Builtin.Slice.sliceAdjust none none (-1) (n:Int) with|(lo,hi)=>pure ((lo,(-1:Int),Builtin.Slice.slicePlaces lo hi (-1)):_×_×_)) _ _ s;rw[e];have a:Builtin.Slice.slicePlaces ((n:Int)-1) (-1) (-1)=n:=by
  unfold Builtin.Slice.slicePlaces;rw[AB (by decide)];by_cases hn:n=0
  ·subst hn;rfl
  ·rw[AD (by lia),show (n:Int)-1 - -1-1=(n:Int)-1 by lia,show -(-1:Int)=1 by rfl,Int.ediv_one]
   lia
 show wpAny _ _ (pure (((n:Int)-1,(-1:Int),Builtin.Slice.slicePlaces ((n:Int)-1) (-1) (-1)):_×_×_)) _ _ s;rw[a];exact AH h
theorem Uj (xs:Array Value):((AR xs.size).filterMap λ(m:Nat)=>xs[(((xs.size:Int)-1)+(m:Int) * -1).toNat]?).toArray=xs.toList.reverse.toArray:=by
 congr 1;apply DR;intro i;have y:∀(l:List Nat),(∀m∈l,m<xs.size)->(l.filterMap λ(m:Nat)=>xs[(((xs.size:Int)-1)+(m:Int) * -1).toNat]?)=l.map λm=>xs.toList.reverse.getD m .none:=by
  intro l
  induction l with
  |nil=>intro _;rfl
  |cons a r ih=>
   intro h;have A:=h a Bh;have e:(((xs.size:Int)-1)+(a:Int) * -1).toNat=xs.size-1-a:=by lia
   have E:xs[(((xs.size:Int)-1)+(a:Int) * -1).toNat]?=some (xs.toList.reverse.getD a .none):=by
    rw[e,Ao,List.getElem?_reverse (by simpa using A)];simp only[Array.length_toList,Array.getElem?_toList];rw[Array.getElem?_eq_getElem (by omega)];rfl
   rw[IP,E,BX,ih λm M=>h m (BQ _ M)]
 rw[y _ (λm M=>Ax.mp M),AZ];by_cases hi:i<xs.size
 ·rw[ET hi,AQ (by simpa using hi)]
  simp[Ao,hi]
 ·rw[EL (by simpa using hi),EL (by simpa using hi)]
  rfl
theorem getItem_tuple_rev (ht:IsTup s.heap t items) (hs:s.heap.IsSliceOf sl .none .none (.int (-1) tk))
  (h:Q (.ref s.heap.objs.size) { s with heap:=s.heap.push { cls:=.type "tuple",data:=.seq items.toList.reverse.toArray } })
  (hsz:items.size<=sizeLine):wpAny (model prog w) A (getItem (.ref t) (.ref sl)) Q E s:=by
 have e:sizeOk (.seq items.toList.reverse.toArray):=by
  show items.toList.reverse.toArray.size<=sizeLine;simpa using hsz
 obtain⟨O,S,c,d⟩:=id hs;have T:s.TypeIs (.ref sl) "slice":=(O,S,c);unfold getItem
 try with_reducible refine Bq ?_
 first|refine AA (AH ?_)|skip
 refine AA (wpAny_sequenceKey ht.typeIs (by decide) ?_);refine AA (wpAny_callSpecial?_slot (name:=Str.ofString "__getitem__") ht.typeIs PyProof.Rows.slot_tuple_getitem
  (wpAny_call_entry PyProof.Rows.slot_tuple_getitem ht.typeIs entry_tuple_getitem ?_ (args_tuple_getitem _ _)))
 show wpAny _ _ (Builtin.Tuple.tupleItemsOf (.ref t) >>= _) _ _ s;refine AA<|tupleItemsOf_ ht ?_;refine AA<|wpAny_typeOf T ?_;rw[AD (by decide)];refine AA<|Qk (n:=items.size) hs ?_;have o:¬ ((((items.size:Int)-1) == 0 && (-1:Int) == 1 && items.size == items.size)=true):=by simp
 show wpAny _ _ (if ((((items.size:Int)-1) == 0 && (-1:Int) == 1 && items.size == items.size))=true then _ else _) _ _ s;rw[AB o,Uj]
 first
  |exact AA (m:=Builtin.Tuple.tupleExact _) (wpAny_newObj_type (AH (_,rfl,AH h)) e)
  |exact AA (m:=Builtin.Tuple.tupleExact _) (wpAny_newObj_type (AA (AH (AH (_,rfl,AH h)))) e)
  |exact AA (AA (m:=Builtin.Tuple.tupleExact _) (wpAny_newObj_type (AH (AH (_,rfl,AH h))) e))
  |exact AA (AA (m:=Builtin.Tuple.tupleExact _) (wpAny_newObj_type (AH (_,rfl,AH h)) e))
theorem tuple_index {t:Addr}{items:Array Value}{x:Value}{e:Value->Bool}{j:Nat}{Q:AX}(ht:IsTup s.heap t items) (he:∀y∈items,PySem.SeqAt.EqAt A.in1 s y x (e y)) (hj:j<items.size)
  (hit:e items[j]=true) (hno:∀m (hm:m<items.size),m<j->e items[m]=false) (h:Q (.int j s.toks) { s with toks:=s.toks+1 }) :
  wpAny (model prog w) A (call (.builtin "tuple.index") [.ref t,x]) Q E s:=by
 refine wpAny_call_entry PySem.F.slot_tuple_index ht.typeIs PySem.F.entry_tuple_index ?_<|PySem.F.args_tuple_index_2 _ _;show wpAny _ _ (Builtin.Tuple.tupleItemsOf (.ref t) >>= _) _ _ s;refine AA<|tupleItemsOf_ ht ?_;refine AA<|AH<|AA<|AH<|AA ?_;rw[IJ];simp only[Std.Legacy.Range.forIn_eq_forIn_range',Std.Legacy.Range.size,F3,Nat.add_sub_cancel,Nat.div_one];refine Dz (Q:=λb S=>S = { s with toks:=s.toks+1 } /\ b.1=some (Fin.done (.ret (.int j s.toks)))) ?_ (λb S B=>?_) λ_ _ z=>z;refine wpAny_forIn_list _ (λl b S=>S=s/\∃i,l=HB i (items.size-i)/\i<=j) _ ?_ ?_ _ _ (rfl,0,rfl,BZ _)
 ·rintro i r b S ⟨rfl,k,L,H⟩
  have K:items.size-k=(items.size-k-1)+1:=by lia
  rw[K,List.range'_succ]at L;injection L with hl1 hl2
  subst hl1;have I:i<items.size:=by lia
  rw[Array.getElem?_eq_getElem I];refine AA<|he _ (Array.getElem_mem I) prog w _ _ ?_;by_cases hij:i=j
  ·subst hij
   rw[hit,AD rfl];exact AA<|AA<|wpAny_mkInt<|AH<|AH (rfl,rfl)
  ·rw[hno i I (by lia),AB BR]
   exact AH (rfl,i+1,by rw[hl2,show items.size-i-1=items.size-(i+1) by lia],by lia)
 ·rintro b S ⟨rfl,k,L,H⟩
  have:=congrArg BN L;simp at this;lia
 ·obtain⟨rfl,a⟩:=B
  obtain⟨c,d⟩:=b;dsimp only at a;subst a;exact AH (_,rfl,h)
end
end HT
namespace L2
open PySem PySem.Spec PyProof.Rows
section
variable {X:Cx}
def rSlT' (K:W.Frag):V->Option Int->Option Int->Hp->VK->Prop:=λx o i H Q=>∃a xs,x=.ref a/\SqT K H a xs /\
 ((HT.sIx xs.length 0 o=0/\HT.sIx xs.length xs.length i=xs.length)->Q (.ref a) H) /\
 (¬ (HT.sIx xs.length 0 o=0/\HT.sIx xs.length xs.length i=xs.length)->∀p,H p=none->Q (.ref p) (upd H p (.tup<|cutV xs o i)))
theorem WC:SlR X (rSlT' X.K):=by
 intro pins s Z H x v vl vu lo hi sl Q I rx hs pl pu h;obtain⟨a,S,rfl,b,q,c⟩:=h;by_cases hw:HT.sIx S.length 0 lo=0/\HT.sIx S.length S.length hi=S.length
 ·cases rx
  obtain⟨t,r,T,z⟩:=I.tuple b;have n:t.toArray.size=S.length:=by rw[Az];exact r.length.symm
  exact("tuple",_,PyProof.Rows.slot_tuple_getitem.lookup,T.typeIs,HT.getItem_tuple_whole T hs pl pu (by rw[n];exact hw) (.ref a,H,I,rfl,q hw))
 ·exact Wk pins s Z H (.ref a) v vl vu lo hi sl Q I rx hs pl pu (a,S,rfl,b,hw,c hw)
def rSlU (K:W.Frag):V->Option Int->Option Int->Hp->VK->Prop:=λx o i H Q=>rSlL K x o i H Q\/rSlT' K x o i H Q
theorem slU:SlR X (rSlU X.K):=VR.or WC
def tSlR (K:W.Frag) (te:TE):TE:=λZ H Q=>te Z H λx h=>∃a xs,x=.ref a/\SqT K h a xs/\∀p,h p=none->Q (.ref p) (upd h p (.tup xs.reverse))
theorem TQ (he:PE X e te):PE X (.Subscript e (.Slice none none (some (.UnaryOp .USub (.Constant (.int 1) k p4) p3)) p2) pos) (tSlR X.K te):=by
 intro pins s Z H Q I h;refine Subscript_ (thn (he pins s Z H _ I h) λv s1 (x,H1,I1,r1,q1)=>?_);obtain⟨a,l,rfl,f,q⟩:=q1;cases r1;refine wpAny_Slice ?_;rw[evalPart_none];refine AH<|AH ?_;have g:=Ja (X:=X) (Zzw Zzk<|AN (X:=X) (i:=1) (j:=k) (pos:=p4)) (e:=.UnaryOp .USub (.Constant (.int 1) k p4) p3) pins s1 Z H1 (λo c=>o=some (-1)/\c=H1) I1 (1,rfl,-1,rfl,rfl,rfl);refine thn g λu s2 (o,c,I2,pu,e1,e2)=>?_;subst e1;subst e2;cases pu with
 |int i t=>
  have d:AG X pins Z c { s2 with heap:=s2.heap.push { cls:=.type "slice",data:=.fields #[.none,.none,.int (-1) t] } }:=I2.kept (t':=s2.toks) λb B q=>Au _ q;obtain⟨S,r,T,z⟩:=d.tuple f;show wpAny (model X.prog X.w) X.A (subscriptTail e (.Slice none none (some (.UnaryOp .USub (.Constant (.int 1) k p4) p3)) p2) (.ref a) (.ref s2.heap.objs.size)) (EP X pins Z Q) X.xe { s2 with heap:=s2.heap.push { cls:=.type "slice",data:=.fields #[.none,.none,.int (-1) t] } };refine tail_any (ops:=[.ref a,.ref s2.heap.objs.size]) T.typeIs PyProof.Rows.slot_tuple_getitem.lookup (HT.getItem_tuple_rev T (tk:=t) (Heap.IsSliceOf.new ..) ?_ (by rw[Az,<- r.length];exact z)) (by with_unfolding_all rfl);refine(.ref _,_,d.laid (t':=s2.toks) (o:=.tup l.reverse) (λb B q=>Au _ q) (AS _) ?_,rfl,q _<|d.hok.fresh<|AS _);exact(by rw[KJ];exact z,_,r.reverse,IsTupN.new _ _)
def rCatT' (K:W.Frag):R2:=λx y H Q=>∃a b xs ys,x=.ref a/\y=.ref b/\SqT K H a xs/\SqT K H b ys/\xs.length+ys.length<=sizeLine /\
 (xs=[]->Q (.ref b) H)/\(xs≠[]->ys=[]->Q (.ref a) H)/\(xs≠[]->ys≠[]->∀p,H p=none->Q (.ref p) (upd H p (.tup<|xs++ys)))
theorem UD:OpR X (binaryOp .Add) (rCatT' X.K):=by
 intro pins s Z H x y v u Q I rx ry h;obtain⟨a,b,g,Y,rfl,rfl,e,B,z,q,k,m⟩:=h;by_cases hx:g=[]
 ·cases rx
  cases ry;obtain⟨i,r,p,_⟩:=I.tuple e;obtain⟨t,R,P,_⟩:=I.tuple B;obtain⟨⟨L,j,T,w⟩,O,C,n,f⟩:=id p;obtain⟨⟨S,D,A,l⟩,o,c,N,d⟩:=id P;simp only at C f c d;subst C f c d;exact concat_meets (_,O,rfl) (_,o,rfl) noFill_tuple_add seq_tuple_add PySem.F.slot_tuple_add PySem.F.entry_tuple_add (PySem.F.args_tuple_add_2 _ _)
   (tuple_addW0 a b i.toArray t.toArray n N j D w l (by simp[r.nil_iff.mpr hx])) (O,o,(.ref b,H,I,rfl,q hx))
 ·exact WY pins s Z H (.ref a) (.ref b) v u Q I rx ry (a,b,g,Y,rfl,rfl,e,B,hx,z,k hx,m hx)
def rAddU (K:W.Frag):R2:=λx y H Q=>rI0 (λi j=>.int<|i+j) x y H Q\/(rCatT' K x y H Q\/rCat x y H Q)
theorem Vm:OpR X (binaryOp .Add) (rAddU X.K):=Zyw.or<|UD.or Zy0
theorem CF:OpR X (compareOp .Eq) rEq:=Zz8
def rIxD:R2:=λx y H Q=>∃a v,x=.ref a/\DGet H a y (some v)/\Q v H
theorem VO (hu:X.A.units+1<cLine):IxR X rIxD:=by
 intro value slice pins s Z H x y v u Q I rx ry h hs;obtain⟨a,W,rfl,g,q⟩:=h;cases rx;exact tail_any (RS I g) PySem.F.slot_dict_getitem.lookup (SU hu I g ry λb S i w=>(W,H,i,w,q)) hs
def rIxU (K:W.Frag):R2:=λx y H Q=>rIx K x y H Q\/rIxD x y H Q
theorem ixU (hu:X.A.units+1<cLine):IxR X (rIxU X.K):=Wj.or<|VO hu
def rSetD:V->V->V->Hp->(Hp->Prop)->Prop:=λo i v H Q=>∃a H',o=.ref a/\DPut H a i v H' /\ Q H'
theorem UI (hu:X.A.units+1<cLine):PSet X rSetD:=by
 intro pins s Z H o i v ov iv u Q I ro ri rv h;obtain⟨a,b,rfl,g,q⟩:=h;cases ro;exact TM hu I g ri rv λS c=>(b,c,q)
theorem PSet.or (h:PSet X t) (h':PSet X t'):PSet X (λo i v H Q=>t o i v H Q\/t' o i v H Q):=by
 intro pins s Z H o i v ov iv u Q I ro ri rv q;rcases q with q|q
 ·exact h pins s Z H o i v ov iv u Q I ro ri rv q
 ·exact h' pins s Z H o i v ov iv u Q I ro ri rv q
def rSetU:V->V->V->Hp->(Hp->Prop)->Prop:=λo i v H Q=>rSetL o i v H Q\/rSetD o i v H Q
theorem setU (hu:X.A.units+1<cLine):PSet X rSetU:=Uk.or<|UI hu
def rLenU (K:W.Frag):List V->Hp->VK->Prop:=λs H Q=>(∃p ys,s=[.ref p]/\(SqL K H p ys\/SqT K H p ys)/\Q (.int ys.length) H)\/∃a kvs,s=[V.ref a]/\H a=some (.dK kvs)/\Q (.int kvs.length) H
theorem Te:CallR X (.builtin "len") (rLenU X.K):=RB.or Sr
def rIsi (K:W.Frag):List V->Hp->VK->Prop:=λs H Q=>∃x n t b,s=[x,.ty n]/\TyOf K H x t/\PySem.W.kitOne K t (.type n)=some b/\Q (.bl b) H
theorem RZ:CallR X (.builtin "isinstance") (rIsi X.K):=by
 intro pins s Z H xs us Q I r h;obtain⟨x,n,t,b,rfl,y,e,q⟩:=h;obtain⟨u,U,rfl,R,N⟩:=vals2 r;cases (show U=Value.type n from N);exact Tn I R y e λk=>(.bl b,H,I.tok _,rfl,q)
def insI (n:Nat) (i:Int):Nat:=if i<0 then (i+(n:Int)).toNat else min i.toNat n
def rInsert:V->List V->Hp->VK->Prop:=λx s H Q=>∃l xs i y,x=.ref l/\s=[.int i,y]/\H l=some (.lst xs)/\xs.length<sizeLine /\ -(2 ^ 62)<=i/\i<2 ^ 62/\Q .non (upd H l (.lst (xs.take (insI xs.length i)++y::xs.drop (insI xs.length i))))
theorem NR:MtM X "list.insert" rInsert:=by
 intro pins s Z H x vs v us Q I rx rv h;obtain⟨l,a,i,y,rfl,rfl,b,g,c,d,q⟩:=h;cases rx;obtain⟨U,u,rfl,⟨t,rfl⟩,Y⟩:=rv.two;obtain⟨z,S,n,r,L,e⟩:=I.lstM b;refine call_meets F.slot_list_insert (_,e,rfl) F.entry_list_insert (F.args_list_insert_3 _ _ _) (PySem.AutoSeq1.list_insert_list_int_val_1 l S.toArray n i t u (by
  have f:Builtin.List.listFitsIndex i=true:=by
   unfold Builtin.List.listFitsIndex;rw[A1 (by lia),A1 (by lia)];rfl
  rw[f];decide) (by rw[Az];lia)) (e,?_)
 refine(.non,_,I.lset (its':=S.take (insI a.length i)++u::S.drop (insI a.length i)) b e ?_ ((r.take _).append (.cons Y<|r.drop _)) ?_,rfl,q)
 ·have E:(if i<0 then (i+(S.toArray.size:Int)).toNat else min i.toNat S.toArray.size)=insI a.length i:=by
   unfold insI;rw[Az,L]
  dsimp only;rw[E];apply Array.ext';simp;rw[Et (by rw[DD];exact AS _)]
 ·rw[Aw,Aj,Bj,DD]
  omega
def rIndexT (K:W.Frag):V->List V->Hp->VK->Prop:=λx s H Q=>∃a xs y j,x=.ref a/\s=[y]/\SqT K H a xs/\flatV y=true/\xs.all flatV=true/\j<xs.length /\
 (∃z,xs[j]?=some z/\eqV z y=true)/\(∀m z,m<j->xs[m]?=some z->eqV z y=false)/\Q (.int j) H
theorem Qq:MtM X "tuple.index" (rIndexT X.K):=by
 intro pins s Z H x vs v us Q I rx rv h;obtain⟨a,S,y,j,rfl,rfl,N,C,p,D,⟨z,i,l⟩,o,q⟩:=h;cases rx;obtain⟨u,rfl,U⟩:=rv.one;obtain⟨t,r,G,O⟩:=I.tuple N;have L:t.length=S.length:=r.length.symm;have Y:∀w∈t.toArray,SeqAt.EqAt X.A.in1 s w u (eqU y w):=λw g=>by
  have g:w∈t:=by simpa using g
  obtain⟨k,c,e⟩:=Gx.mp g;have b:k<S.length:=by lia
  obtain⟨n,W,R⟩:=r.get<|AQ b;have E:n=w:=by
   rw[AQ c]at W;exact(BY.inj W).symm.trans e
  subst E;have F:flatV S[k]=true:=Ci.mp p _<|Br b;rw[P1 R F];exact Zyh R U F C
 have T:∀(k:Nat) (c:k<t.toArray.size) (z:V),S[k]?=some z->eqU y t.toArray[k]=eqV z y:=λk c z e=>by
  obtain⟨n,W,R⟩:=r.get e;have d:k<t.length:=by simpa using c
  rw[AQ d]at W;have E:t.toArray[k]=n:=by simpa using BY.inj W
  rw[E];exact P1 R<|Ci.mp p _<|Bk e
 have J:j<t.toArray.size:=by simpa [L] using D
 refine HT.tuple_index G Y J (by rw[T j J z i];exact l) (λm B f=>?_) (.int j,H,I.tok _,(_,rfl),q);have M:m<S.length:=by simpa [L] using B
 rw[T m B _ (AQ M)];exact o m _ f<|AQ M
end
section
variable {X:Cx}
theorem PI.or (h:PI X tg iter w) (h':PI X tg iter w'):PI X tg iter (λZ H R=>w Z H R\/w' Z H R):=by
 intro pins s Z H R I q;rcases q with q|q
 ·exact h pins s Z H R I q
 ·exact h' pins s Z H R I q
def iSeq (K:W.Frag) (tl:TE):TI:=λZ H R=>iList K tl Z H R\/iTup K tl Z H R
theorem Zy5 (hl:PE X l tl):PI X tg l (iSeq X.K tl):=(Va hl).or (Zy2 hl)
def tTru (K:W.Frag) (ta:TE):TT:=λZ H Q=>ta Z H λx h=>∃k,TruV K x h k/\Q k h
theorem Wh (ha:PE X a ta) (he:∀whole,isTrue a X.env whole=(do let v <- whole;standAt a.pos;holding [v] (truthy v))):PT X a (tTru X.K ta):=Tv ha he
end
section
variable {K:W.Frag}{U:AI}{P:D->AI->Prop}
theorem Co (p:P (.int<|i+j) U):JR2 K (rAddU K) (.int i) (.int j) U P:=λg G H Z Q x y k r Y c=>by
 cases r.inv;cases Y.inv;exact .inl (i,j,rfl,rfl,c _ _ G H U k (Same.refl _) (.int _) p)
theorem V0 (hz:ds.length+es.length<=sizeLine) (p:P (.tup<|ds++es) U):JR2 K (rAddU K) (.tup ds) (.tup es) U P:=λg G H Z Q x y k r Y c=>by
 cases r with
 |tup ha ra=>
  cases Y with
  |tup hb rb=>
   refine .inr (.inl (_,_,_,_,rfl,rfl,SqT.of<|k.live _ _ ha,SqT.of<|k.live _ _ hb,by rw[ra.length,rb.length];exact hz,λe=>?_,λ_ e=>?_,λ_ _ q h=>?_))
   ·subst e;cases ra;exact c _ _ G H U k (Same.refl _) (.tup hb rb) p
   ·subst e;cases rb;rw[Bs]at p;exact c _ _ G H U k (Same.refl _) (.tup ha ra) p
   ·obtain⟨a,s⟩:=k.laid h (.tup _)
    exact c _ _ _ _ U a s (.tup Bm ((ra.append rb).mono s)) p
theorem WK (hz:ds.length+es.length<=sizeLine) (p:P (.lst<|ds++es) U):JR2 K (rAddU K) (.lst ds) (.lst es) U P:=λg G H Z Q x y k r Y c=>by
 obtain⟨_,_,rfl,h,a⟩:=r.inv
 next=>
  obtain⟨_,_,rfl,B,b⟩:=Y.inv
  next=>
   refine .inr (.inr (_,_,_,_,rfl,rfl,k.live _ _ h,k.live _ _ B,by rw[a.length,b.length];exact hz,λq d=>?_));obtain⟨e,s⟩:=k.laid d (.lst _);exact c _ _ _ _ U e s (.lst Bm ((a.append b).mono s)) p
theorem BK (h:atI ds i=some d) (p:P d U):JR2 K (rIxU K) (.tup ds) (.int i) U P:=λg G H Z Q x y k r Y c=>
 .inl (.inr (.inl<|Zyz h p g G H Z Q x y k r Y c))
theorem Du (h:atI ds i=some d) (p:P d U):JR2 K (rIxU K) (.lst ds) (.int i) U P:=λg G H Z Q x y k r Y c=>
 .inl (.inl<|Zzj h p g G H Z Q x y k r Y c)
theorem GV (hx:U[n]?=some x) (ho:x.od=some (.lst ds)) (h:JE K tb U λe U1=>∃y es i d,U1[n]?=some y/\y.od=some (.lst es)/\e=.int i/\atI es i=some d/\P d U1):JE K (tOp (rIxU K) (tVar n) tb) U P:=λg G H Z Q k c=>by
 obtain⟨a,o,b,m,q,r,s⟩:=k.own n x _ hx ho;refine(.ref a,b,h g G H Z _ k λv e G1 H1 U1 k1 s1 r1 (y,es,i,d,q1,q2,q3,q4,p)=>?_);subst q3;cases r1.inv;obtain⟨A,O,w,f,W,t,B⟩:=k1.own n y _ q1 q2;rw[b]at w;cases w;cases O with
 |lst vs=>
  obtain⟨u,j,l⟩:=LO (show Reps K G1 vs es from W) q4;exact .inl (.inl (a,vs,i,u,rfl,rfl,SqL.of f,j,c u d G1 H1 U1 k1 s1 l p))
 |_=>exact absurd W (λz=>z)
theorem Td {n:Nat}{ti te:TE}{Pp:Em}(h:JE K te U λd U1=>(∃x od,U1[n]?=some x/\x.od=some od)/\JE K ti U1 λe U2=>∃x ds i j,U2[n]?=some x/\x.od=some (.lst ds)/\e=.int i/\ixN ds.length i=some j/\Pp.nx (U2.set n<|x.put (.lst<|ds.set j d))) :
  JS K (tAsg te<|gSub (tVar n) ti rSetU) U Pp:=λg G H Z E k c=>
 h g G H Z _ k λv d l m U1 f S R q=>by
  obtain⟨⟨x,od,X,O⟩,P⟩:=q;obtain⟨a,o,b,t,B,C,D⟩:=f.own n x _ X O;refine(.ref a,b,P g l m Z _ f λu e G2 H2 U2 k2 s2 r2 (y,ds,i,j,q1,q2,q3,q4,p)=>?_);subst q3;cases r2.inv;obtain⟨A,r,W,s,w,F,I⟩:=k2.own n y _ q1 q2;rw[b]at W;cases W;cases r with
  |lst vs=>
   have w:Reps K G2 vs ds:=w;exact .inl (a,vs,i,j,rfl,rfl,s,by rw[w.length];exact q4,c.nx Z G2 _ _ (k2.write q1 q2 b (show OwnRep K G2 (.lst<|vs.set j v) (.lst<|ds.set j d) from w.set j (R.mono s2))) p)
  |_=>exact absurd w (λz=>z)
def valD (kvs:List (AO × D)) (k:AO):Option D:=(kvs.find? λv=>decide (v.1=k)).map (·.2)
def putD (kvs:List (AO × D)) (k:AO) (v:D):List (AO × D):=if (kvs.any λV=>decide (V.1=k))=true then kvs.map (λV=>if V.1=k then (V.1,v) else V) else kvs++[(k,v)]
theorem O7:∀{kvs:List (AO × V)}{kds:List (AO × D)},Paired (λ(p:AO × V) (q:AO × D)=>p.1=q.1/\AY K G p.2 q.2) kvs kds->valD kds k=some d->∃v,valV kvs k=some v/\AY K G v d
 |_,_,.nil,h=>by cases h
 | (k1,v1)::kvs,(k2,d2)::kds,.cons (e,r) t,h=>by
  have e:k1=k2:=e;subst e;by_cases hk:k1=k
  ·subst hk
   have h:some d2=some d:=by simpa [valD,DU] using h
   cases h;exact(v1,Hd rfl,r)
  ·have h:valD kds k=some d:=by simpa [valD,DU,hk] using h
   obtain⟨v,H,a⟩:=O7 t h;exact(v,by rw[HZ hk];exact H,a)
theorem PD:∀{kvs:List (AO × V)}{kds:List (AO × D)},Paired (λ(p:AO × V) (q:AO × D)=>p.1=q.1/\AY K G p.2 q.2) kvs kds->(kvs.any λkv=>decide (kv.1=k))=(kds.any λkv=>decide (kv.1=k))
 |_,_,.nil=>rfl
 |_::_,_::_,.cons (e,_) t=>by rw[FT,FT,PD t,e]
theorem Oj (rv:AY K G v d):∀{kvs:List (AO × V)}{kds:List (AO × D)},Paired (λ(p:AO × V) (q:AO × D)=>p.1=q.1/\AY K G p.2 q.2) kvs kds ->
  Paired (λ(p:AO × V) (q:AO × D)=>p.1=q.1/\AY K G p.2 q.2) (kvs.map λkv=>if kv.1=k then (kv.1,v) else kv) (kds.map λkv=>if kv.1=k then (kv.1,d) else kv)
 |_,_,.nil=>.nil
 | (k1,v1)::kvs,(k2,d2)::kds,.cons (e,r) t=>by
  have e:k1=k2:=e;subst e;rw[BX,BX];refine .cons ?_<|Oj rv t;by_cases hk:k1=k
  ·rw[AD hk,AD hk];exact(rfl,rv)
  ·rw[AB hk,AB hk];exact(rfl,r)
theorem VI {G:Hp}{k:AO}{v:V}{d:D}{kvs:List (AO × V)}{kds:List (AO × D)}(rv:AY K G v d) (h:Paired (λ(p:AO × V) (q:AO × D)=>p.1=q.1/\AY K G p.2 q.2) kvs kds) :
  Paired (λ(p:AO × V) (q:AO × D)=>p.1=q.1/\AY K G p.2 q.2) (putK kvs k v) (putD kds k d):=by
 unfold putK putD;rw[PD h];split
 ·exact Oj rv h
 ·exact Paired.snoc h (rfl,rv)
theorem Vs (p:Po (.dct []) U):JO K tDNewK U Po:=λg G H Z Q k c q h=>by
 obtain⟨a,d⟩:=k.fresh (od:=.dct []) h (show OwnRep K G (.dK []) (.dct []) from .nil);exact c q _ G _ U a (Same.refl _) d p
theorem O9 (hx:U[n]?=some x) (ho:x.od=some od) (h:JE K tb U λe U1=>∃y kvs i d,U1[n]?=some y/\y.od=some (.dct kvs)/\e=.int i/\valD kvs (.inl i)=some d/\P d U1):JE K (tOp (rIxU K) (tVar n) tb) U P:=λg G H Z Q k c=>by
 obtain⟨a,o,b,m,q,r,s⟩:=k.own n x _ hx ho;refine(.ref a,b,h g G H Z _ k λv e G1 H1 U1 k1 s1 r1 (y,kvs,i,d,q1,q2,q3,q4,p)=>?_);subst q3;cases r1.inv;obtain⟨A,O,w,f,W,t,B⟩:=k1.own n y _ q1 q2;rw[b]at w;cases w;cases O with
 |dK vs=>
  obtain⟨u,j,l⟩:=O7 W q4;exact .inr (a,u,rfl,(by have:=DGet.k (k:=Sum.inl i) f;rw[j]at this;exact this),c u d G1 H1 U1 k1 s1 l p)
 |_=>exact absurd W (λz=>z)
theorem VV {n:Nat}{ti te:TE}{Pp:Em}(h:JE K te U λd U1=>(∃x od,U1[n]?=some x/\x.od=some od)/\JE K ti U1 λe U2=>∃x kvs i,U2[n]?=some x/\x.od=some (.dct kvs)/\e=.int i/\kvs.length<sizeLine/\Pp.nx (U2.set n<|x.put (.dct<|putD kvs (.inl i) d))) :
  JS K (tAsg te<|gSub (tVar n) ti rSetU) U Pp:=λg G H Z E k c=>
 h g G H Z _ k λv d l m U1 f S R Q=>by
  obtain⟨⟨x,od,X,O⟩,P⟩:=Q;obtain⟨a,o,b,t,B,C,F⟩:=f.own n x _ X O;refine(.ref a,b,P g l m Z _ f λu e G2 H2 U2 k2 s2 r2 (y,kvs,i,q1,q2,q3,q4,p)=>?_);subst q3;cases r2.inv;obtain⟨A,r,W,s,j,I,J⟩:=k2.own n y _ q1 q2;rw[b]at W;cases W;cases r with
  |dK vs=>
   have w:Paired (λ(p:AO × V) (q:AO × D)=>p.1=q.1/\AY K G2 p.2 q.2) vs kvs:=j;exact .inr (a,_,rfl,DPut.k (k:=Sum.inl i) s (by rw[Paired.length w];exact q4),c.nx Z G2 _ _ (k2.write q1 q2 b (show OwnRep K G2 (.dK<|putK vs (.inl i) v) (.dct<|putD kvs (.inl i) d) from VI (R.mono s2) w)) p)
  |_=>exact absurd j (λz=>z)
theorem CM (he:ds=[.lst es]\/ds=[.tup es]) (p:P (.int es.length) U):JC K (rLenU K) ds U P:=λg G H Z Q v k s c=>.inl<|Wl he p g G H Z Q v k s c
theorem OH (hx:U[n]?=some x) (ho:x.od=some (.lst ds)) (p:P (.int ds.length) U):JE K (tCB (rLenU K)<|tCons (tVar n) tNil) U P:=λg G H Z Q k c=>by
 obtain⟨v,h,a⟩:=Vx hx ho p g G H Z Q k c;exact(v,h,.inl a)
def cutD (ds:List D) (lo hi:Option Int):List D:=(ds.drop<|HT.sIx ds.length 0 lo).take (HT.sIx ds.length ds.length hi-HT.sIx ds.length 0 lo)
theorem So {α:Type}(xs:List α) (lo hi:Option Int) (h:HT.sIx xs.length 0 lo=0/\HT.sIx xs.length xs.length hi=xs.length):(xs.drop<|HT.sIx xs.length 0 lo).take (HT.sIx xs.length xs.length hi-HT.sIx xs.length 0 lo)=xs:=by
 rw[h.1,h.2];simp
def JO2 (t:TO) (U:AI) (K:W.Frag) (P:Option Int->AI->Prop):Prop:=
 ∀g G H Z (Q:Option Int->Hp->Prop),Ok K g G H Z U -> (∀o G' H' U',Ok K g G' H' Z U' -> Same G G' -> P o U' -> Q o H')->t Z H Q
theorem Ln {P:Option Int->AI->Prop}(p:P none U):JO2 tNoPart U K P:=λg G H Z Q k c=>c none G H U k (Same.refl _) p
theorem Lp {P:Option Int->AI->Prop}(h:JE K te U λd U1=>∃i,d=.int i/\P (some i) U1):JO2 (tPart te) U K P:=λg G H Z Q k c=>
 h g G H Z _ k λv d a b U1 f s r q=>by obtain⟨i,e,p⟩:=q;subst e;cases r.inv;exact(i,rfl,c (some i) a b U1 f s p)
def slD (d:D) (lo hi:Option Int):Option D:=match d with
 |.lst ds=>some (.lst (cutD ds lo hi))
 |.scr ds=>some (.lst (cutD ds lo hi))
 |.tup ds=>some (.tup (cutD ds lo hi))
 |_=>none
theorem MO (h:JE K te U λd U1=>JO2 tl U1 K λlo U2=>JO2 th U2 K λhi U3=>∃e,slD d lo hi=some e/\P e U3):JE K (tSl (rSlU K) te tl th) U P:=λg G H Z Q k c=>
 h g G H Z _ k λv d l n U1 r z R u=>u g l n Z _ r λlo m o U2 t S x=>x g m o Z _ t λhi A B U3 a j i=>by
  obtain⟨e,E,p⟩:=i;have y:=R.mono<|S.trans j;have C:=c.up<|z.trans<|S.trans j;cases y with
  |lst ha rs=>
   cases E;refine .inl (_,_,rfl,SqL.of<|a.live _ _ ha,λq b=>?_);obtain⟨f,s⟩:=a.laid b (.lst _);refine C _ _ _ _ U3 f s (.lst Bm<|Reps.mono s ?_) p;unfold cutV cutD;rw[rs.length];exact(rs.drop _).take _
  |scr ha rs=>
   cases E;refine .inl (_,_,rfl,a.live.seq ha,λq b=>?_);obtain⟨f,s⟩:=a.laid b (.lst _);refine C _ _ _ _ U3 f s (.lst Bm<|Reps.mono s ?_) p;unfold cutV cutD;rw[rs.length];exact(rs.drop _).take _
  |tup ha rs=>
   cases E;refine .inr (_,_,rfl,SqT.of<|a.live _ _ ha,λw=>?_,λw q b=>?_)
   ·rw[rs.length]at w
    refine C _ _ _ _ U3 a (Same.refl _) (.tup ha ?_) p;unfold cutD;rw[So _ _ _ w];exact rs
   ·obtain⟨f,s⟩:=a.laid b (.tup _)
    refine C _ _ _ _ U3 f s (.tup Bm<|Reps.mono s ?_) p;unfold cutV cutD;rw[rs.length];exact(rs.drop _).take _
  |_=>cases E
theorem P4 (h:JE K te U λd U1=>∃ds,d=.tup ds/\P (.tup ds.reverse) U1):JE K (tSlR K te) U P:=λg G H Z Q k c=>
 h g G H Z _ k λv d l m U1 b j r a=>by
  obtain⟨ds,e,p⟩:=a;subst e;obtain⟨_,_,rfl,A,S⟩:=r.inv
  next=>
   refine(_,_,rfl,SqT.of<|b.live _ _ A,λq f=>?_);obtain⟨i,s⟩:=b.laid f (.tup _);exact c _ _ _ _ U1 i (j.trans s) (.tup Bm<|S.reverse.mono s) p
theorem Dx {P:List D->AI->Prop}(h:JE K tl U λd U1=>∃ds,(d=.lst ds\/d=.scr ds)/\P ds U1):JI K (iSeq K tl) U P:=λg G H Z R k c=>.inl<|VP h g G H Z R k c
theorem Df {P:List D->AI->Prop}(h:JE K tl U λd U1=>∃ds,d=.tup ds/\P ds U1):JI K (iSeq K tl) U P:=λg G H Z R k c=>.inr<|Zyf h g G H Z R k c
def truD:D->Option Bool
 |.non=>some false
 |.bl b=>some b
 |.int i=>some (i != 0)
 |.lst ds=>some !ds.isEmpty
 |.tup ds=>some !ds.isEmpty
 |_=>none
theorem Reps.isEmpty (r:Reps K G vs ds):vs.isEmpty=ds.isEmpty:=by cases r <;> rfl
theorem FC (h:JE K t U λd U1=>∃b,truD d=some b/\Pb b U1):JT K (tTru K t) U Pb:=λg G H Z Q k c=>
 h g G H Z _ k λv d j l U1 f s r q=>by
  obtain⟨b,e,p⟩:=q;refine(b,?_,c b j l U1 f s p);cases r with
  |non=>cases e;rfl
  |bl b=>cases e;rfl
  |int i=>cases e;rfl
  |str x=>cases e
  |ty n=>cases e
  |scr ha rs=>cases e
  |adr a=>cases e
  |dct ha hl rs=>cases e
  |exc ha=>cases e
  |excR ha hb=>cases e
  |lst ha rs=>cases e;exact .inl (_,SqL.of (f.live _ _ ha),by rw[rs.isEmpty])
  |tup ha rs=>cases e;exact .inr (.inl (_,SqT.of (f.live _ _ ha),by rw[rs.isEmpty]))
def tyD:D->Option String
 |.non=>some "NoneType"
 |.bl _=>some "bool"
 |.int _=>some "int"
 |.str _=>some "str"
 |.lst _=>some "list"
 |.tup _=>some "tuple"
 |.dct _ _=>some "dict"
 |_=>none
theorem Zzd (ht:tyD d=some T) (e:∀K,PySem.W.kitOne K (.type T) (.type n)=some b) (p:P (.bl b) U):JC K (rIsi K) [d,.ty n] U P:=λg G H Z Q v k s c=>by
 obtain⟨_,_,rfl,r,t⟩:=s.inv
 next=>
  obtain⟨_,_,rfl,R,t⟩:=t.inv
  next=>
   cases t.inv;cases R.inv;refine(_,n,.type T,b,rfl,?_,e K,c _ _ G H U k (Same.refl _) (.bl b) p);cases r with
   |non=>cases ht;exact .non
   |bl b=>cases ht;exact .bl b
   |int i=>cases ht;exact .int i
   |str x=>cases ht;exact .str x
   |ty n=>cases ht
   |scr ha s=>cases ht
   |adr a=>cases ht
   |dct ha hl s=>cases ht;exact .dK (k.live _ _ ha)
   |exc ha=>cases ht
   |excR ha hb=>cases ht
   |lst ha s=>cases ht;exact .lst (k.live _ _ ha)
   |tup ha s=>cases ht;exact .tup (k.live _ _ ha)
theorem GU (h:JE K ta U λd U1=>∃b,d=.bl b/\if b=true then JE K tb U1 P else P (.bl false) U1):JE K (tAndV ta tb) U P:=λg G H Z Q k c=>
 h g G H Z _ k λv d a f U1 i s r q=>by
  obtain⟨b,e,p⟩:=q;subst e;cases r.inv;refine(b,rfl,?_);cases b with
  |true=>exact(show JE K tb U1 P from p) g a f Z Q i (c.up s)
  |false=>exact c _ _ a f U1 i s (.bl false) p
theorem WV (h:JE K ta U λd U1=>∃b,d=.bl b/\if b=true then P (.bl true) U1 else JE K tb U1 P):JE K (tOrV ta tb) U P:=λg G H Z Q k c=>
 h g G H Z _ k λv d a f U1 i s r q=>by
  obtain⟨b,e,p⟩:=q;subst e;cases r.inv;refine(b,rfl,?_);cases b with
  |false=>exact(show JE K tb U1 P from p) g a f Z Q i (c.up s)
  |true=>exact c _ _ a f U1 i s (.bl true) p
theorem Ox (h:JE K ta U λd U1=>∃b,d=.bl b/\P (.bl !b) U1):JE K (tNotV ta) U P:=λg G H Z Q k c=>
 h g G H Z _ k λv d a f U1 i s r q=>by
  obtain⟨b,e,p⟩:=q;subst e;cases r.inv;exact(b,rfl,c _ _ a f U1 i s (.bl !b) p)
theorem LQ {to te:TE}(h:JE K to U λd U1=>∃ns:List Int,d=.tup (ns.map D.int)/\JE K te U1 λe U2=>∃i j,e=.int i/\ns[j]?=some i/\(∀m,m<j->ns[m]?≠some i)/\P (.int (j:Nat)) U2) :
  JE K (tBM K "tuple" (rIndexT K) to<|tCons te tNil) U P:=λg G H Z Q k c=>
 h g G H Z _ k λv d o r U1 l t R f=>by
  obtain⟨ns,e,s⟩:=f;subst e;obtain⟨a,x,rfl,A,S⟩:=R.inv
  next=>
   refine(.inr (.inl (rfl,.inr (_,l.live _ _ A))),s g o r Z _ l λu e G2 H2 U2 k2 s2 r2 (i,j,q1,q2,q3,p)=>?_);subst q1;cases r2.inv;have E:x=ns.map V.int:=S.ints;subst E;have J:j<ns.length:=(BB.mp q2).1;refine(a,_,.int i,j,rfl,rfl,SqT.of<|k2.live _ _<|s2 _ _ A,rfl,?_,by simpa using J,(.int i,by rw[AZ,q2];rfl,by simp[eqV]),λm z M b=>?_,c _ _ G2 H2 U2 k2 (t.trans s2) (.int _) p)
   ·rw[II];exact Ci.mpr λ_ _=>rfl
   ·rw[AZ]at b
    cases e:ns[m]? with
    |none=>rw[e]at b;cases b
    |some w=>
     rw[e]at b;have b:V.int w=z:=by simpa using b
     subst b;have n:w≠i:=λq=>q3 m M (by rw[e,q]);show (w == i)=false;exact beq_eq_false_iff_ne.mpr n
end
section
variable {K:W.Frag}{g:Gm}{G H:Hp}{Z:St}{U:AI}
theorem Ok.setVal' (k:Ok K g G H Z U) (i:Nat) (r:AY K G v d):Ok K g G H (Z.set i<|some v) (U.set i (.val d)):=by
 by_cases hi:i < U.length
 ·exact k.setVal hi r
 ·have h:=k.len
  rw[ID (l:=Z) (by lia),ID (l:=U) (by lia)];exact k
theorem Ok.setOwn' (k:Ok K g G H Z U) (i:Nat) (p:Pend K g G H Z U a od):Ok K g G H (Z.set i<|some (.ref a)) (U.set i (.own od)):=by
 by_cases hi:i < U.length
 ·exact k.setOwn hi p
 ·have h:=k.len
  rw[ID (l:=Z) (by omega),ID (l:=U) (by omega)];exact k
theorem WT (h:JE K te U λd U1=>P.nx (U1.set i (.val d))):JS K (tAsg te<|gName i) U P:=λg G H Z E k c=>
 h g G H Z _ k λv d a b U1 e s r p=>c.nx _ a b _ (e.setVal' i r) p
theorem Vj (h:JO K te U λod U1=>P.nx (U1.set i (.own od))):JS K (tAsg te<|gName i) U P:=λg G H Z E k c=>
 h g G H Z _ k λa od b d U1 e s D p=>c.nx _ b d _ (e.setOwn' i D) p
theorem VT (h:JA K ta U λds U1=>∃d e,ds=[d,e]/\P.nx ((U1.set i (.val d)).set j (.val e))):JS K (tPar i j ta) U P:=λg G H Z E k c=>
 h g G H Z _ k λv ds a b U1 f s R q=>by
  obtain⟨d,e,D,p⟩:=q;subst D;obtain⟨_,_,rfl,A,r⟩:=R.inv
  next=>
   obtain⟨_,_,rfl,B,r⟩:=r.inv
   next=>
    cases r.inv;exact(_,_,rfl,c.nx _ a b _ ((f.setVal' i A).setVal' j B) p)
theorem Bl (p:P (U.set i (.val d))):JG K (gName i) d U P:=λg G H Z v R k r c=>c _ G H _ (k.setVal' i r) (Same.refl _) p
theorem GP (hn:i<n) (p:P (U.set i (.val d))):JGn K n (gName i) d U P:=λg G H Z v R k r c=>
 c _ G H _ (k.setVal' i r) (Same.refl _) (λj h=>Bx<|by lia) p
theorem Wc {n:Nat}{te:TE}{Pp:Em}{x:Slot}{ds0:List D}(hx:U[n]?=some x) (ho:x.od=some (.lst ds0))
  (h:JE K te U λd U1=>∃y ds,U1[n]?=some y/\y.od=some (.lst ds)/\ds.length<sizeLine/\Pp.nx (U1.set n<|y.put (.lst<|ds++[d]))) :
  JS K (tDrop<|tBM K "list" rAppend (tVar n)<|tCons te tNil) U Pp:=Sg hx ho (_,rfl) h
end
section
variable {K:W.Frag}{U:AI}{nx bk ct:AI->Prop}{rt:D->AI->Prop}{ro:OD->AI->Prop}
theorem B3 (p:nx U):JS K tNext U (nx,rt,bk,ct,ro):=VA p
theorem Ah (h:JS K t U (λU1=>JS K u U1 (nx,rt,bk,ct,ro),rt,bk,ct,ro)):JS K (tSeq t u) U (nx,rt,bk,ct,ro):=QB h
theorem Bv (I:AI->Prop) (h1:JS K t U (I,rt,bk,ct,ro)) (h2:∀U1,I U1->JS K u U1 (nx,rt,bk,ct,ro)):JS K (tSeq t u) U (nx,rt,bk,ct,ro):=
 QB (h1.mono h2 (λ_ _ z=>z) (λ_ z=>z) (λ_ z=>z) λ_ _ z=>z)
theorem Bz (h:JE K te U rt):JS K (tRet te) U (nx,rt,bk,ct,ro):=WM h
theorem GQ (h:JO K te U ro):JS K (tRet te) U (nx,rt,bk,ct,ro):=Vp h
theorem CH (h:JT K c U λb U1=>if b=true then JS K t U1 (nx,rt,bk,ct,ro) else JS K u U1 (nx,rt,bk,ct,ro)):JS K (tIfS c t u) U (nx,rt,bk,ct,ro):=Qf h
theorem BE (h:JE K te U λd U1=>nx (U1.set i (.val d))):JS K (tAsg te<|gName i) U (nx,rt,bk,ct,ro):=WT h
theorem Cp (h:JO K te U λod U1=>nx (U1.set i (.own od))):JS K (tAsg te<|gName i) U (nx,rt,bk,ct,ro):=Vj h
theorem JX (h:JA K ta U λds U1=>∃d e,ds=[d,e]/\nx ((U1.set i (.val d)).set j (.val e))):JS K (tPar i j ta) U (nx,rt,bk,ct,ro):=VT h
theorem Jf (h:JE K te U λd U1=>JG K t d U1 nx):JS K (tAsg te t) U (nx,rt,bk,ct,ro):=Zy9 h
theorem Hq {n:Nat}{te:TE}{x:Slot}{ds0:List D}(hx:U[n]?=some x) (ho:x.od=some (.lst ds0))
  (h:JE K te U λd U1=>∃y ds,U1[n]?=some y/\y.od=some (.lst ds)/\ds.length<sizeLine/\nx (U1.set n<|y.put (.lst<|ds++[d]))) :
  JS K (tDrop<|tBM K "list" rAppend (tVar n)<|tCons te tNil) U (nx,rt,bk,ct,ro):=Wc hx ho h
theorem OS {n:Nat}{ti te:TE}(h:JE K te U λd U1=>(∃x ds,U1[n]?=some x/\x.od=some (.lst ds))/\JE K ti U1 λe U2=>∃x ds i j,U2[n]?=some x/\x.od=some (.lst ds)/\e=.int i/\ixN ds.length i=some j/\nx (U2.set n<|x.put (.lst<|ds.set j d))) :
  JS K (tAsg te<|gSub (tVar n) ti rSetU) U (nx,rt,bk,ct,ro):=Td (h.mono λd U1 ((x,ds,h1,h2),h3)=>((x,_,h1,h2),h3))
theorem Vl {n:Nat}{ti te:TE}(h:JE K te U λd U1=>(∃x kvs,U1[n]?=some x/\x.od=some (.dct kvs))/\JE K ti U1 λe U2=>∃x kvs i,U2[n]?=some x/\x.od=some (.dct kvs)/\e=.int i/\kvs.length<sizeLine/\nx (U2.set n<|x.put (.dct<|putD kvs (.inl i) d))) :
  JS K (tAsg te<|gSub (tVar n) ti rSetU) U (nx,rt,bk,ct,ro):=VV (h.mono λd U1 ((x,ds,h1,h2),h3)=>((x,_,h1,h2),h3))
theorem Cb {wi:TI}{t:TG}{tb:TS}(h:JI K wi U λds U1=>∃I:Nat->AI->Prop,I 0 U1/\(∀i d U2,ds[i]?=some d->I i U2->JG K t d U2 λU3=>JS K tb U3 (I<|i+1,rt,nx,I<|i+1,ro))/\∀U2,I ds.length U2->nx U2) :
  JS K (tFor wi t tb) U (nx,rt,bk,ct,ro):=Zyb h
theorem UZ {c:TT}{tb:TS}(I:Nat->AI->Prop) (h0:∃m,I m U) (ht:∀m U1,I m U1->JT K c U1 λb U2=>if b=true then JS K tb U2 (λU3=>∃m',m'<m/\I m' U3,rt,nx,λU3=>∃m',m'<m/\I m' U3,ro) else nx U2) :
  JS K (tWhile c tb) U (nx,rt,bk,ct,ro):=T9 I h0 ht
end
theorem Pj {α β:Type}{f:α -> β}{xs:List α}(h0:0<=i) (h1:i<(xs.length:Int)):∃c,xs[i.toNat]?=some c/\atI (xs.map f) i=some (f c):=by
 have k:i.toNat<xs.length:=by lia
 have e:i=((i.toNat:Nat):Int):=by lia
 have q:xs[i.toNat]?=some xs[i.toNat]:=AQ k;generalize xs[i.toNat]=c at q;refine(c,q,?_);have z:atI (xs.map f) ((i.toNat:Nat):Int)=some (f c):=CG (by rw[AZ,q];rfl);rw[<- e]at z;exact z
theorem MB:bootBuiltins "abs" = some (.builtin "abs"):=by decide +kernel
theorem B0:bootBuiltins "len" = some (.builtin "len"):=by decide +kernel
theorem Ho:bootBuiltins "min" = some (.builtin "min"):=by decide +kernel
theorem ME:bootBuiltins "max" = some (.builtin "max"):=by decide +kernel
theorem HH:bootBuiltins "isinstance" = some (.builtin "isinstance"):=by decide +kernel
theorem L6:bootBuiltins "all" = some (.builtin "all"):=by decide +kernel
theorem HQ:bootBuiltins "sorted" = some (.builtin "sorted"):=by decide +kernel
theorem Ed:bootBuiltins "tuple" = some (.type "tuple"):=by decide +kernel
theorem Oo:bootBuiltins "list" = some (.type "list"):=by decide +kernel
theorem QG:bootBuiltins "set" = some (.type "set"):=by decide +kernel
theorem WR:bootBuiltins "int" = some (.type "int"):=by decide +kernel
theorem WI:bootBuiltins "bool" = some (.type "bool"):=by decide +kernel
structure Callee (P:Program) (w:World) (K:W.Frag) (mg:Str->Option Value) (base:Heap) (k:Nat) (x:Str) (ps:List Str) (sp:Sp):Prop where
 ex:∃(f:Addr) (fd:FuncData),FnOk P w K mg base CX0 k f fd ps sp/\Binds K fd ps []/\W.keepIn K (.ref f)=true/\mg x=some (.ref f)
section
variable {X:Cx}{k:Nat}{x:Str}{ps:List Str}{sp:Sp}{e:Expr}{es:List Expr}{t:TA}{p pos:Pos}
theorem A3 (C:Callee X.prog X.w X.K X.mg X.base k x ps sp) (hr:Room k X.A) (ha:PA X (e::es) t) (hg:Gl X x:=by rfl) (hdb:(x == ("__debug__":Str))=false:=by decide)
  (he:starEach (e::es) X.env=(false,eval e X.env)::starEach es X.env:=by rfl) (hpl:(backTo pos<|starEach es X.env).any (·.1)=false:=by rfl):PE X (.Call (.Name x p) (e::es) [] pos) (tCall sp [] E0 t):=by
 obtain⟨f,d,F,b,P,m⟩:=C.ex;exact U9 F hr hg m P b .nil pass0 ha hdb he hpl
end
def fixD (sel:List Nat) (U:AI):AI:=sel.map λi=>(U[i]?).getD .any
theorem Ip (ht:ts.length=n):backD n sel (ts++fixD sel U) 0 U = U:=by
 apply DR;intro i;rw[GD];cases q:U[i]? with
 |none=>rfl
 |some x=>
  show some (backAt n sel (ts++fixD sel U) (0+i) x)=some x;congr 1;rw[By];have y:∀j,sel.idxOf? i=some j->(ts++fixD sel U)[n+j]?=some x:=λj h=>by
   rw[CP (by lia),ht,Nat.add_sub_cancel_left];unfold fixD;rw[AZ,Iw h];show some ((U[i]?).getD .any)=_;rw[q];rfl
  unfold backAt;cases x with
  |any=>rfl
  |val d=>rfl
  |own o=>
   dsimp only;cases e:sel.idxOf? i with
   |none=>rfl
   |some j=>dsimp only;rw[y j e]
  |bor o=>
   dsimp only;cases e:sel.idxOf? i with
   |none=>rfl
   |some j=>dsimp only;rw[y j e]
  |ownA a o=>
   dsimp only;cases e:sel.idxOf? i with
   |none=>rfl
   |some j=>dsimp only;rw[y j e]
section
variable {K:W.Frag}{U:AI}{P:D->AI->Prop}
theorem Dc (hsel:sel.Nodup)
  (h:JI K wi U λds U1=>ds.length<sizeLine/\∃(p:D->Bool) (f:D->D),
   (∀(i:Nat) d,ds[i]?=some d->JT K tc (.val d::fixD sel U1) λb U4=>b=p d/\if b=true then JE K te U4 λe U5=>e=f d/\∃x,U5=x::fixD sel U1 else ∃x,U4=x::fixD sel U1) /\
   P (.lst ((ds.filter p).map f)) U1):JE K (tComp 1 sel wi (gName 0) tc te) U P:=by
 refine Nr hsel λg G H Z R k c=>h g G H Z R k λJ ds G' H' U' k' s' it (z,p,f,ht,he)=>c J ds G' H' U' k' s' it (z,fixD sel U',p,f,rfl,λi d t a s=>?_,?_)
 ·refine GP (by decide) ?_
  obtain⟨x,rfl⟩:∃x,t=[x]:=by
   match t,s with
   |[x],_=>exact(x,rfl)
  intro g G H Z Q k c;refine ht i d a g G H Z Q k λb G1 H1 U1 k1 s1 (e1,q)=>c b G1 H1 U1 k1 s1 (e1,?_);cases b with
  |true=>
   rw[AD rfl]at q ⊢;exact q.mono λe U5 (e2,x,E)=>(e2,[x],rfl,E)
  |false=>
   rw[AB BR]at q ⊢;obtain⟨x,E⟩:=q;exact([x],rfl,E)
 ·rw[Ip (by simp)];exact he
theorem LU (hsel:sel.Nodup)
  (h:JI K wi U λds U1=>ds.length<sizeLine/\∃(p:D->Bool) (f:D->D),
   (∀(i:Nat) d,ds[i]?=some d->JT K tc (.val d::fixD sel U1) λb U4=>b=p d/\if b=true then JE K te U4 λe U5=>e=f d/\∃x,U5=x::fixD sel U1 else ∃x,U4=x::fixD sel U1) /\
   Po (.lst ((ds.filter p).map f)) U1):JO K (tComp 1 sel wi (gName 0) tc te) U Po:=by
 refine Ot hsel λg G H Z R k c=>h g G H Z R k λJ ds G' H' U' k' s' it (z,p,f,ht,he)=>c J ds G' H' U' k' s' it (z,λi s U=>s=((ds.take i).filter p).map f/\∃x,U = x::fixD sel U',(by simp,.any,rfl),?_,?_)
 ·rintro i d s u a ⟨rfl,x,rfl⟩
  have t:ds.take (i+1)=ds.take i++[d]:=by
   rw[Dl,a];rfl
  refine GP (by decide) ?_;intro g G H Z Q k c;refine ht i d a g G H Z Q k λb G1 H1 U1 k1 s1 (e1,q)=>c b G1 H1 U1 k1 s1 ?_;cases b with
  |true=>
   rw[AD rfl]at q ⊢;refine q.mono λe U5 (e2,x,E)=>(?_,x,E);rw[t,DT,BD,CC,<- e1,e2];rfl
  |false=>
   rw[AB BR]at q ⊢;obtain⟨x,E⟩:=q;refine(?_,x,E);rw[t,DT,BD,CC,<- e1];simp
 ·rintro s u ⟨rfl,x,rfl⟩
  rw[B2,show (x::fixD sel U')=[x]++fixD sel U' from rfl,Ip (by simp)];exact he
theorem N7 (hsel:sel.Nodup)
  (h:JI K wi U λds U1=>ds.length<sizeLine/\∃(p:D->Bool) (f:D->D),
   (∀(i:Nat) d,ds[i]?=some d->∃a b,d=.tup [a,b]/\JT K tc (.val a::.val b::fixD sel U1) λt U4=>t=p d/\if t=true then JE K te U4 λe U5=>e=f d/\∃x y,U5=x::y::fixD sel U1 else ∃x y,U4=x::y::fixD sel U1) /\
   P (.lst ((ds.filter p).map f)) U1):JE K (tComp 2 sel wi (gTup K 2 (gCons (gName 0) (gCons (gName 1) gNil))) tc te) U P:=by
 refine Nr hsel λg G H Z R k c=>h g G H Z R k λJ ds G' H' U' k' s' it (z,p,f,ht,he)=>c J ds G' H' U' k' s' it (z,fixD sel U',p,f,rfl,λi d S j s=>?_,?_)
 ·obtain⟨a,b,rfl,l⟩:=ht i d j
  refine VU rfl<|Ni<|GP (by decide)<|Ni<|GP (by decide)<|Ud ?_;obtain⟨x,y,rfl⟩:∃x y,S=[x,y]:=by
   match S,s with
   |[x,y],_=>exact(x,y,rfl)
  intro g G H Z Q k c;refine l g G H Z Q k λb G1 H1 U1 k1 s1 (e1,q)=>c b G1 H1 U1 k1 s1 (e1,?_);cases b with
  |true=>
   rw[AD rfl]at q ⊢;exact q.mono λe U5 (e2,x,y,E)=>(e2,[x,y],rfl,E)
  |false=>
   rw[AB BR]at q ⊢;obtain⟨x,y,E⟩:=q;exact([x,y],rfl,E)
 ·rw[Ip (by simp)];exact he
end
def tGhost (base:Nat) (t:TS):TS:=λE Z H=>t { E with nx:=λz h=>∃Z2:St,Z2.length = z.length/\(∀i,i<base -> Z2[i]? = z[i]?)/\E.nx Z2 h } Z H
theorem VG {st:Stmt}(base:Nat) (hv:∀x∈X.N.drop base,X.env.scope.names.lookup x=none) (h:PS X st t):PS X st (tGhost base t):=by
 intro pins s Z H E I hw;refine thn (h pins s Z H _ I hw) λf k q=>?_;cases f with
 |next=>
  obtain⟨j,d,a,g,L,S,q⟩:=q;refine(g,d,(a.ok,a.os,a.bare,a.base,?_,a.cell,a.free,a.freeC,a.pin,a.hok,L.trans a.len),q);obtain⟨m,n,l⟩:=a.loc;refine(m,n,λi x v e b c=>?_);by_cases hi:i<base
  ·rw[S i hi]at b;exact l i x v e b c
  ·have M:x∈X.N.drop base:=by
    refine Bk (i:=i-base) ?_;rw[EV,show base+(i-base)=i by lia];exact e
   have z:=hv x M;rcases c with w|w|w <;> (rw[z]at w;cases w)
 |ret v=>exact q
 |brk=>exact q
 |cont=>exact q
def Nest (K:W.Frag) (g:Gm) (G H:Hp) (Z:St) (U:AI) (cs:List (Addr × HO)) (ods:List OD):Prop:=
 (cs.map (·.1)).Nodup/\Paired (λ(c:Addr × HO) (od:OD)=>OwnRep K G c.2 od) cs ods/\∀c∈cs,H c.1=some c.2/\G c.1=none/\g.Hz c.1=none/\g.Xo c.1=none/\∀(i:Nat) x od',U[i]?=some x->x.od=some od' -> Z[i]?≠some (some (.ref c.1))
def JN (K:W.Frag) (t:TE) (U:AI) (P:List OD->AI->Prop):Prop:=
 ∀g G H Z Q,Ok K g G H Z U -> (∀acc cs ods G' H' U',Ok K g G' H' Z U' -> Same G G' -> AY K G' (.ref acc) (.lst (cs.map λ(c:Addr × HO)=>D.adr c.1))->g.Hz acc=none->Nest K g G' H' Z U' cs ods->P ods U' -> Q (.ref acc) H')->t Z H Q
section
variable {K:W.Frag}{U:AI}
def cellAt (cs:List (Addr × HO)) (b:Addr):Option HO:=(cs.find? λc=>decide (c.1=b)).map (·.2)
theorem K0:cellAt cs b=none ↔ ∀c∈cs,c.1≠b:=by
 unfold cellAt;rw[Option.map_eq_none_iff,List.find?_eq_none];constructor
 ·intro h c hc e;exact h c hc<|A1 e
 ·intro h c hc e;exact h c hc<|of_decide_eq_true e
theorem M8 (nd:(cs.map (·.1)).Nodup) (hc:c∈cs):cellAt cs c.1=some c.2:=by
 induction cs with
 |nil=>cases hc
 |cons d r ih=>
  rw[BX,Ck]at nd;unfold cellAt;rcases Ar.mp hc with e|hc
  ·subst e;simp
  ·have n:d.1≠c.1:=λe=>nd.1 (by rw[e];exact Af.mpr (c,hc,rfl))
   rw[KD (by simpa using n)];exact ih nd.2 hc
open Classical in
noncomputable def asideN (g:Gm) (sel:List Nat) (Z:St) (U:AI) (H:Hp) (acc:Addr) (cs:List (Addr × HO)):Hp:=λb=>
 if b=acc then some (.lst (cs.map λc=>V.ref c.1)) else match cellAt cs b with
  |some o=>some o
  |none=>if ∃(i:Nat) (x:Slot) (od:OD),U[i]?=some x/\x.od=some od/\i ∉ sel /\ Z[i]?=some (some (.ref b)) then H b else g.Xo b
theorem HI:asideN g sel Z U H acc cs acc=some (.lst (cs.map λc=>V.ref c.1)):=by unfold asideN;rw[AD rfl]
theorem HP (hb:b≠acc) (e:cellAt cs b=some o):asideN g sel Z U H acc cs b=some o:=by unfold asideN;rw[AB hb,e]
theorem HK (hb:b≠acc) (e:cellAt cs b=none) (hx:∃(i:Nat) (x:Slot) (od:OD),U[i]?=some x/\x.od=some od/\i ∉ sel /\ Z[i]?=some (some (.ref b))):asideN g sel Z U H acc cs b=H b:=by
 unfold asideN;rw[AB hb,e];exact AD hx
theorem HM (hb:b≠acc) (e:cellAt cs b=none) (hx:¬ ∃(i:Nat) (x:Slot) (od:OD),U[i]?=some x/\x.od=some od/\i ∉ sel /\ Z[i]?=some (some (.ref b))):asideN g sel Z U H acc cs b=g.Xo b:=by
 unfold asideN;rw[AB hb,e];exact AB hx
theorem V8 (hsel:sel.Nodup)
  (h:JI K wi U λds U1=>ds.length<sizeLine/\∃I:Nat->List OD->AI->Prop,I 0 [] (compD n sel U1) /\
   (∀i d ys U2,ds[i]?=some d->I i ys U2->JGn K n t d U2 λU3=>JT K tc U3 λb U4=>if b=true then JO K te U4 λe U5=>I (i+1) (ys++[e]) U5 else I (i+1) ys U4) /\
   ∀ys U2,I ds.length ys U2->P ys (backD n sel U2 0 U1)):JN K (tComp n sel wi t tc te) U P:=λg G H Z Q k c=>
 h g G H Z _ k λJ ds G1 H1 U1 k1 s1 it (hz,I,h0,ht,he) acc hacc=>by
  have b4:∀(i:Nat) x O,U1[i]?=some x->x.od=some O -> Z[i]?≠some (some (.ref acc)):=λi x O v p R=>by
   obtain⟨a,o,w,W,_⟩:=k1.own i x O v p;rw[R]at w;cases w;rw[hacc]at W;cases W
  let Wd:Nat->St->Hp->Prop:=λi Y H'=>i<=ds.length/\(∀j,n<=j -> Y[j]?=(compSt n sel Z)[j]?)/\∃G ys s Ui,s.length<=i/\(s.map (·.1)).Nodup/\(∀c∈s,c.1≠acc/\g.Hz c.1=none/\g.Xo c.1=none/\∀(i:Nat) x O,U1[i]?=some x->x.od=some O->i ∉ sel -> Z[i]?≠some (some (.ref c.1)))/\Paired (λ(c:Addr × HO) (O:OD)=>OwnRep K G c.2 O) s ys /\
   Ok K (g.B,G1,g.Hz,asideN g sel Z U1 H1 acc s) G H' Y Ui/\I i ys Ui
  refine(λi m Y H'=>m=ds.length-i/\Wd i Y H',(ds.length,by simp,BZ _,λ_ _=>rfl,G1,[],[],compD n sel U1,AS _,D9,λc C=>(nomatch C),.nil,?_,h0),?_)
  ·refine M3 hsel k1 hacc λb o e=>?_
   have e:asideN g sel Z U1 H1 acc [] b=some o:=e;by_cases f:b=acc
   ·subst f;rw[HI]at e;cases e;exact .inl (rfl,rfl)
   ·by_cases X:∃(i:Nat) (x:Slot) (O:OD),U1[i]?=some x/\x.od=some O/\i ∉ sel /\ Z[i]?=some (some (.ref b))
    ·rw[HK f rfl X]at e;exact .inr (f,.inl (X,e))
    ·rw[HM f rfl X]at e;exact .inr (f,.inr e)
  ·rintro i m Z2 H2 ⟨rfl,hi,hZ,G2,ys,s,U2,hy,nd,S,ry,k2,h2⟩
   have s2:Same G1 G2:=k2.sub;obtain⟨b9,go⟩:=it G2 H2 s2 k2.live;by_cases hlt:i<ds.length
   ·obtain⟨g1,g2⟩:=go i _ (AQ hlt)
    refine .inr (g1,λY H'=>Wd (i+1) Y H',λY H' p'=>(ds.length-(i+1),by omega,rfl,p'),λx H3 y=>?_);obtain⟨T,a1,a2,a3,a4⟩:=g2 x H3 y;have M:=k2.grow a1 a2 a3;have a6:∀b o,T b=some o->(g.Hz b=none\/G1 b=some o):=λb o q=>(M.frz b o q).2;have c0:Ok K (g.B,T,g.Hz,asideN g sel Z U1 H1 acc s) T H3 Z2 U2:=(M.same,M.lent,Same.refl _,λb o q=>((M.frz b o q).1,.inr q),M.ext,M.len,M.val,M.own,M.dis);have b6:Paired (λ(c:Addr × HO) (O:OD)=>OwnRep K T c.2 O) s ys:=Paired.mapP ry λ_ _ z=>z.mono a1;have b7:Same G1 T:=s2.trans a1;refine ht i _ ys U2 (AQ hlt) h2 (g.B,T,g.Hz,asideN g sel Z U1 H1 acc s) T H3 Z2 x _ c0 a4 λZ4 G4 H4 U4 k4 s4 e4 p4=>?_;have a7:∀j,n<=j -> Z4[j]?=(compSt n sel Z)[j]?:=λj hj=>(e4 j hj).trans (hZ j hj);refine p4 _ G4 H4 Z4 _ k4 λb G5 H5 U5 k5 s5 p5=>?_;cases b with
    |false=>exact(hlt,a7,G5,ys,s,U5,by lia,nd,S,Paired.mapP b6 λ_ _ z=>z.mono (s4.trans s5),k5.base b7 a6,p5)
    |true=>
     refine(show JO K te U5 _ from p5) _ G5 H5 Z4 _ k5 λa O G6 H6 U6 k6 s6 pd p6=>?_;have c5:Paired (λ(c:Addr × HO) (O:OD)=>OwnRep K G6 c.2 O) s ys:=Paired.mapP b6 λ_ _ z=>z.mono<|s4.trans<|s5.trans s6;obtain⟨b1,b2,b3⟩:=k6.ext acc _ HI;obtain⟨oa,d1,d2,d3,d4,A,d6⟩:=pd;have A:asideN g sel Z U1 H1 acc s a=none:=A;have N:a≠acc:=by intro z;subst z;rw[HI]at A;cases A
     have a0:cellAt s a=none:=by
      cases q:cellAt s a with
      |none=>rfl
      |some o=>rw[HP N q]at A;cases A
     have a9:∀(i:Nat) x O,U1[i]?=some x->x.od=some O->i ∉ sel -> Z[i]?≠some (some (.ref a)):=λi x O v p R e4=>by
      rw[HK N a0 (i,x,O,v,p,R,e4)]at A;obtain⟨a',o',w,W,_⟩:=k1.own i x O v p;rw[e4]at w;cases w;rw[A]at W;cases W
     have a8:g.Xo a=none:=by
      rw[HM N a0 (λ(i,x,O,v,p,R,e4)=>a9 i x O v p R e4)]at A;exact A
     have b0:=K0.mp a0;refine(s.map λc=>V.ref c.1,b1,by rw[AK];omega,hlt,a7,G6,ys++[O],s++[(a,oa)],U6,by rw[Aw,DS];lia,?_,λc C=>?_,Paired.snoc c5 d2,?_,p6)
     ·rw[BD]
      refine D7.mpr (nd,by simp,λx X y hy=>?_);rw[G7,Bc]at hy;subst hy;obtain⟨c,C,rfl⟩:=Af.mp X;exact b0 c C
     ·rcases Bb.mp C with C|C
      ·exact S c C
      ·rw[Bc.mp C];exact(N,d4,a8,a9)
     ·have F:=k6.base b7 a6
      have c1:((s++[((a,oa):_×_)]).map (·.1)).Nodup:=by
       rw[BD];refine D7.mpr (nd,by simp,λx X y hy=>?_);rw[G7,Bc]at hy;subst hy;obtain⟨c,C,rfl⟩:=Af.mp X;exact b0 c C
      have er:(s++[((a,oa):_×_)]).map (λc=>V.ref c.1)=(s.map λc=>V.ref c.1)++[V.ref a]:=by simp
      have L:∀b o,b≠acc->H6 b=some o->(upd H6 acc (.lst ((s.map λc=>V.ref c.1)++[V.ref a]))) b=some o:=λb o f e=>by rw[BA f];exact e
      refine(λb o f e=>?_,λb f=>?_,F.sub,λb o e=>?_,λb o e=>?_,F.len,F.val,λi x O v p=>?_,F.dis)
      ·have E:b≠acc:=by
        intro z;subst z;have e:g.Hz b=some o:=e;rw[k1.there hacc]at e;cases e
       exact L b o E<|F.same b o f e
      ·by_cases E:b=acc
       ·subst E;rw[Bm];intro z;cases z
       ·rw[BA E];exact F.lent b f
      ·have E:b≠acc:=by intro z;subst z;rw[b2]at e;cases e
       exact(L b o E (F.frz b o e).1,(F.frz b o e).2)
      ·have e:asideN g sel Z U1 H1 acc (s++[(a,oa)]) b=some o:=e
       by_cases E:b=acc
       ·subst E
        rw[HI,er]at e;cases e;exact(Bm,b2,b3)
       ·by_cases hba:b=a
        ·subst hba
         rw[HP E (M8 c1 (c:=(b,oa))<|CV _<|Bc.mpr rfl)]at e;cases e;exact(L b _ E d1,d3,d6)
        ·have ec:cellAt (s++[(a,oa)]) b=cellAt s b:=by
          unfold cellAt;rw[List.find?_append];cases (s.find? λc=>decide (c.1=b)) with
          |some c=>rfl
          |none=>
           rw[KD (by simpa using Ne.symm hba)];rfl
         have e':asideN g sel Z U1 H1 acc s b=some o:=by
          cases q:cellAt s b with
          |some o'=>rw[HP E (ec.trans q)]at e;rw[HP E q];exact e
          |none=>
           by_cases X:∃(i:Nat) (x:Slot) (O:OD),U1[i]?=some x/\x.od=some O/\i ∉ sel /\ Z[i]?=some (some (.ref b))
           ·rw[HK E (ec.trans q) X]at e;rw[HK E q X];exact e
           ·rw[HM E (ec.trans q) X]at e;rw[HM E q X];exact e
         obtain⟨w,W,w3⟩:=F.ext b o e';exact(L b o E w,W,w3)
      ·obtain⟨a',o,w,W,w3,w4,w5⟩:=F.own i x O v p
       have E:a'≠acc:=by intro z;subst z;exact b3 i x O v p w
       exact(a',o,w,L a' o E W,w3,w4,w5)
   ·have e:i=ds.length:=by lia
    subst e;refine .inl (b9,?_);obtain⟨b1,b2,b3⟩:=k2.ext acc _ HI;have b8:=La (U1:=U1) (U2:=U2) hZ;have k9:Ok K g G2 H2 Z (backD n sel U2 0 U1):=Mz k1 hacc k2 hZ (λb o f X e=>by
      show asideN g sel Z U1 H1 acc s b=_;rw[HK f (K0.mpr λc C z=>?_) X]
      ·exact e
      ·obtain⟨i0,x0,c3,f1,f2,f3,f4⟩:=X
       exact(S c C).2.2.2 i0 x0 c3 f1 f2 f3 (by rw[z];exact f4)) (λb o f X e=>by
      show asideN g sel Z U1 H1 acc s b=_;rw[HM f (K0.mpr λc C z=>?_) X]
      ·exact e
      ·have:=(S c C).2.2.1;rw[z,e]at this;cases this)
    -- the outer list is frozen
    have a5:∀(i:Nat) y O,(backD n sel U2 0 U1)[i]?=some y->y.od=some O -> Z[i]?≠some (some (.ref acc)):=λi y O v p=>by
     obtain⟨x',c4,f1,f2,_⟩:=b8 i y O v p;exact b4 i x' c4 f1 f2
    have b5:∀{G:Hp}(l:List (Addr × HO)),Reps K G (l.map λc=>V.ref c.1) (l.map λc=>D.adr c.1):=λ{G} l=>by
     induction l with
     |nil=>exact .nil
     |cons c r ih=>exact .cons (.adr _) ih
    have gX:g.Xo acc=none:=by
     cases q:g.Xo acc with
     |none=>rfl
     |some u=>have z:=(k1.ext acc u q).1;rw[hacc]at z;cases z
    obtain⟨kf,sf,rf⟩:=k9.freeze (a:=acc) (ds:=s.map λ(c:Addr × HO)=>D.adr c.1) (vs:=s.map λ(c:Addr × HO)=>V.ref c.1) (_,b1,(show Reps K G2 (s.map λ(c:Addr × HO)=>V.ref c.1) (s.map λ(c:Addr × HO)=>D.adr c.1) from b5 s),b2,k1.there hacc,gX,a5) b1;refine c acc s ys _ H2 _ kf (s1.trans<|s2.trans sf) rf (k1.there hacc) (nd,Paired.mapP ry λ_ _ z=>z.mono sf,λcc C=>?_)<|he ys U2 h2;obtain⟨f1,f2,f3,f4⟩:=S cc C;obtain⟨u1,u2,u3⟩:=k2.ext cc.1 cc.2<|HP f1<|M8 nd C;refine(u1,by rw[BA f1];exact u2,f2,f3,λi y O v p R=>?_);obtain⟨x,c2,w,W,w3⟩:=b8 i y O v p;rcases w3 with ⟨w3,w4⟩|⟨j,w3,w4,w5⟩
    ·exact f4 i x c2 w W w4 R
    ·exact u3 (n+j) y O w4 p (by rw[w5,R];rfl)
def putN:Nat->List (Addr × OD)->AI->AI
 |_,[],U=>U
 |b,c::r,U=>putN (b+1) r (U.set b (.ownA c.1 c.2))
def putS:Nat->List Addr->St->St
 |_,[],Z=>Z
 |b,a::r,Z=>putS (b+1) r (Z.set b (some (.ref a)))
theorem N5:∀(as:List Addr) (b:Nat) (Z:St),(putS b as Z).length = Z.length
 |[],_,_=>rfl
 |a::r,b,Z=>by rw[putS,N5 r (b+1),FP]
theorem M9:∀(as:List Addr) (b:Nat) (Z:St) (i:Nat),i<b->(putS b as Z)[i]? = Z[i]?
 |[],_,_,_,_=>rfl
 |a::r,b,Z,i,h=>by rw[putS,M9 r (b+1) _ i (by lia),Bx (by lia)]
theorem Ok.setOwnA (k:Ok K g G H Z U) (hi:i < U.length) (p:Pend K g G H Z U a od):Ok K g G H (Z.set i<|some (.ref a)) (U.set i (.ownA a od)):=by
 have m:=k.setOwn hi p;obtain⟨o,P,J,M,N,Q,R⟩:=p;have S:i < Z.length:=by rw[<- k.len];exact hi
 have L:∀(j:Nat) x,j≠i->(U.set i (.ownA a od))[j]?=some x->(U.set i (.own od))[j]?=some x:=λj x h e=>by
  rw[Bx (Ne.symm h)]at e ⊢;exact e
 have v:∀(j:Nat) x D,(U.set i (.ownA a od))[j]?=some x->x.od=some D -> ∃y,(U.set i (.own od))[j]?=some y/\y.od=some D:=λj x D E f=>by
  by_cases h:j=i
  ·subst h
   rw[Bt hi]at E;cases E;cases f;exact(.own od,Bt hi,rfl)
  ·exact(x,L j x h E,f)
 refine(m.same,m.lent,m.sub,m.frz,λb u e=>?_,by simp[k.len],λj d e=>?_,λj x D E f=>?_,λj l x y O n c E f r s t w=>?_)
 ·obtain⟨B,C,I⟩:=m.ext b u e
  refine(B,C,λj x D E f=>?_);obtain⟨y,F,q⟩:=v j x D E f;exact I j y D F q
 ·by_cases h:j=i
  ·subst h
   rw[Bt hi]at e;cases e
  ·exact m.val j d<|L j _ h e
 ·by_cases h:j=i
  ·subst h
   rw[Bt hi]at E;cases E;cases f;exact(a,o,Bt S,P,J,M,rfl,N)
  ·exact m.own j x D (L j x h E) f
 ·obtain⟨X,F,q⟩:=v j x O E f
  obtain⟨Y,z,A⟩:=v l y n r s;exact m.dis j l X Y O n c F q z A t w
theorem Ok.putN:∀(cs:List (Addr × HO)) (ods:List OD) (b:Nat) (Z:St) (U:AI),Ok K g G H Z U -> b+ods.length <= U.length->Nest K g G H Z U cs ods ->
  Ok K g G H (putS b (cs.map (·.1)) Z) (L2.putN b ((cs.map (·.1)).zip ods) U)
 |[],[],_,_,_,k,_,_=>k
 |[],_::_,_,_,_,_,_,n=>by cases n.2.1
 |_::_,[],_,_,_,_,_,n=>by cases n.2.1
 |c::cs,od::ods,b,Z,U,k,hl,(nd,pr,al)=>by
  cases pr with
  |cons r t=>
   obtain⟨p,q,s,u,v⟩:=al c Bh;rw[BX,Ck]at nd;have B:b < U.length:=by rw[Aj]at hl;lia
   have w:=k.setOwnA B (c.2,p,r,q,s,u,v);refine Ok.putN cs ods (b+1) _ _ w (by rw[FP];rw[Aj]at hl;lia) (nd.2,t,λd D=>?_);obtain⟨f,F,i,l,m⟩:=al d<|BQ _ D;have h:d.1≠c.1:=λe=>nd.1 (by rw[<- e];exact Af.mpr (d,D,rfl));refine(f,F,i,l,λj x o E a=>?_);by_cases hj:j=b
   ·subst hj
    rw[Bt (by rw[<- k.len];exact B)];intro z;have:c.1=d.1:=by
     have y:=BY.inj<|BY.inj z;injection y
    exact h this.symm
   ·rw[Bx (Ne.symm hj)]at E ⊢
    exact m j x o E a
theorem PM:∀(l:List (Addr × OD)) (R T:AI) (m:Nat),l.length<=m->L2.putN R.length l (R++Am m Slot.any++T)=R++l.map (λc=>Slot.ownA c.1 c.2)++Am (m-l.length) Slot.any++T
 |[],R,T,m,_=>by simp[L2.putN]
 |c::r,R,T,m,h=>by
  obtain⟨M,rfl⟩:∃M,m=M+1:=(m-1,by rw[Aj]at h;lia);have e:(R++Am (M+1) Slot.any++T).set R.length (.ownA c.1 c.2)=(R++[.ownA c.1 c.2])++Am M Slot.any++T:=by
   rw[Gz];simp[List.set_append_right]
  rw[L2.putN,e];have:=PM r (R++[.ownA c.1 c.2]) T M (by rw[Aj]at h;lia);rw[Aw,DS]at this;rw[this];simp
theorem WJ {te:TE}{i base:Nat}{nx bk ct:AI->Prop}{rt:D->AI->Prop}{ro:OD->AI->Prop}
  (h:JN K te U λods U1=>i<base/\base+ods.length <= U1.length/\∀as:List Addr,as.length=ods.length->as.Nodup->nx (L2.putN base (as.zip ods) (U1.set i (.val (.lst<|as.map D.adr))))) :
  JS K (tGhost base<|tAsg te<|gName i) U (nx,rt,bk,ct,ro):=λg G H Z E k c=>
 h g G H Z _ k λa s ods b f U1 A S M _ n q=>by
  obtain⟨O,B,p⟩:=q;have z:s.length=ods.length:=Paired.length n.2.1;have r:(s.map λc=>D.adr c.1)=(s.map (·.1)).map D.adr:=by rw[A5];rfl
  have C:=A.setVal' i M;have N:Nest K g b f (Z.set i<|some (.ref a)) (U1.set i (.val (.lst (s.map λc=>D.adr c.1)))) s ods:=by
   obtain⟨I,R,L⟩:=n;refine(I,R,λd y=>?_);obtain⟨F,t,u,v,w⟩:=L d y;refine(F,t,u,v,λj x o e l=>?_);by_cases J:j=i
   ·subst J
    by_cases hlt:j < U1.length
    ·rw[Bt hlt]at e;cases e;cases l
    ·rw[EL (by rw[FP];lia)]at e;cases e
   ·rw[Bx (Ne.symm J)]at e ⊢
    exact w j x o e l
  have m:=Ok.putN s ods base _ _ C (by rw[FP];exact B) N;refine⟨putS base (s.map (·.1)) (Z.set i<|some (.ref a)),N5 _ _ _,λj J=>M9 _ _ _ j J,?_⟩;rw[r]at m;exact c.nx _ b f _ m<|p (s.map (·.1)) (by rw[AK,z]) n.1
theorem PZ {n j:Nat}(hx:U[n]?=some (.val (.adr a))) (hj:U[j]?=some (.ownA a (.lst ds))) (p:P (.int ds.length) U):JE K (tCB (rLenU K)<|tCons (tVar n) tNil) U P:=λg G H Z Q k c=>by
 obtain⟨v,h,b⟩:=k.val n _ hx;cases b;obtain⟨A,o,e,W,w,f,d⟩:=k.own j _ _ hj rfl;obtain⟨rfl,_⟩:=d;cases o with
 |lst vs=>
  have w:Reps K G vs ds:=w;refine(_,h,.inl (_,vs,rfl,.inl<|SqL.of W,?_));rw[w.length];exact c _ _ G H U k (Same.refl _) (.int _) p
 |_=>exact absurd w (λz=>z)
theorem V6 {n:Nat}{t1 t2:TE}{a:Addr}{j0:Nat}{ds0:List D}{nx bk ct:AI->Prop}{rt:D->AI->Prop}{ro:OD->AI->Prop}(hx:U[n]?=some (.val (.adr a))) (hj0:U[j0]?=some (.ownA a (.lst ds0)))
  (h:JE K t1 U λe1 U1=>JE K t2 U1 λe2 U2=>∃j i ds,e1=.int i /\ U2[j]?=some (.ownA a (.lst ds))/\ds.length<sizeLine /\ -(2 ^ 62)<=i/\i<2 ^ 62/\nx (U2.set j (.ownA a (.lst (ds.take (insI ds.length i)++e2::ds.drop (insI ds.length i)))))) :
  JS K (tDrop<|tBM K "list" rInsert (tVar n)<|tCons t1<|tCons t2 tNil) U (nx,rt,bk,ct,ro):=λg G H Z E k c=>by
 obtain⟨v,e,f⟩:=k.val n _ hx;cases f;obtain⟨A,o,C,w,W,F,x⟩:=k.own j0 _ _ hj0 rfl;obtain⟨rfl,_⟩:=x;cases o with
 |lst vs0=>
  refine(_,e,.inl (rfl,_,SqL.of w),h g G H Z _ k λV e1 b d U1 l S r P=>P g b d Z _ l λv2 e2 G2 H2 U2 k2 s2 r2 (j,i,ds,q1,q2,q3,q4,q5,p)=>?_);subst q1;cases r.inv;obtain⟨y,O,q,s,u,B,t⟩:=k2.own j _ _ q2 rfl;obtain⟨rfl,_⟩:=t;cases O with
  |lst vs=>
   have u:Reps K G2 vs ds:=u;refine(_,vs,i,v2,rfl,rfl,s,by rw[u.length];exact q3,q4,q5,?_);have m:=k2.write q2 rfl q (show OwnRep K G2 (.lst (vs.take (insI vs.length i)++v2::vs.drop (insI vs.length i))) (.lst (ds.take (insI ds.length i)++e2::ds.drop (insI ds.length i))) from by
    rw[u.length];exact(u.take _).append (.cons r2 (u.drop _)))
   exact c.nx Z G2 _ _ m p
  |_=>exact absurd u (λz=>z)
 |_=>exact absurd W (λz=>z)
theorem JS.conv (hc:∀g G H Z,Ok K g G H Z U -> ∃G',Same G G' /\ Ok K g G' H Z U') (h:JS K t U' P):JS K t U P:=λg G H Z E k c=>by
 obtain⟨G',s,a⟩:=hc g G H Z k;exact h g G' H Z E a c
theorem Ok.freezeA (k:Ok K g G H Z U) (h:U[i]?=some (.ownA a (.lst ds))):∃G',Same G G' /\ Ok K g G' H Z (U.set i .any)/\AY K G' (.ref a) (.lst ds):=by
 obtain⟨A,o,w,W,b,l,m⟩:=k.own i _ _ h rfl;obtain⟨rfl,n⟩:=m;cases o with
 |lst vs=>
  have p:Pend K g G H Z (U.set i .any) a (.lst ds):=by
   refine(.lst vs,W,b,l,n,?_,λj x d e E c=>?_)
   ·cases q:g.Xo a with
    |none=>rfl
    |some u=>exact absurd w ((k.ext a u q).2.2 i _ _ h rfl)
   ·by_cases hj:j=i
    ·subst hj
     rw[G9]at e;simp at e;obtain⟨_,e⟩:=e;subst e;cases E
    ·rw[Bx (Ne.symm hj)]at e
     exact hj<|k.dis j i x _ d _ a e E h rfl c w
  obtain⟨f,s,r⟩:=(k.drop i).freeze p W;exact(_,s,f,r)
 |_=>exact absurd b (λz=>z)
theorem Ok.freezeN:∀(cs:List (Addr × List D)) (R T:AI) (G:Hp),Ok K g G H Z (R++cs.map (λc=>Slot.ownA c.1 (.lst c.2))++T) ->
  ∃G',Same G G' /\ Ok K g G' H Z (R++Am cs.length .any++T)/\∀c∈cs,AY K G' (.ref c.1) (.lst c.2)
 |[],R,T,G,k=>(G,Same.refl _,by simpa using k,λc C=>nomatch C)
 |c::r,R,T,G,k=>by
  have I:(R++(c::r).map (λc=>Slot.ownA c.1 (.lst c.2))++T)[R.length]?=some (.ownA c.1 (.lst c.2)):=by simp
  obtain⟨f,S,a,j⟩:=k.freezeA I;have e:(R++(c::r).map (λc=>Slot.ownA c.1 (.lst c.2))++T).set R.length .any=(R++[.any])++r.map (λc=>Slot.ownA c.1 (.lst c.2))++T:=by
   simp[List.set_append_right]
  rw[e]at a;obtain⟨i,s,b,l⟩:=Ok.freezeN r (R++[.any]) T f a;refine(i,S.trans s,?_,λd h=>?_)
  ·have E:(R++[Slot.any])++Am r.length Slot.any++T=R++Am (c::r).length Slot.any++T:=by
    rw[Aj,Gz];simp
   rw[E]at b;exact b
  ·rcases Ar.mp h with e|h
   ·subst e;exact j.mono s
   ·exact l d h
theorem Ok.thaw {g:Gm}{G H:Hp}{Z:St}{cs:List (Addr × List D)}{R T:AI}{i:Nat}(k:Ok K g G H Z (R++cs.map (λc=>Slot.ownA c.1 (.lst c.2))++T)) (hi:R[i]?=some (.val (.lst (cs.map λc=>D.adr c.1)))) :
  ∃G',Same G G' /\ Ok K g G' H Z (R.set i (.val (.lst (cs.map λc=>D.lst c.2)))++Am cs.length .any++T):=by
 have t:i<R.length:=(BB.mp hi).1;obtain⟨v,b,e⟩:=k.val i _ (by rw[Ba,Cu t];exact hi);obtain⟨a,s,o,p⟩:=Ok.freezeN cs R T G k;refine(a,s,?_);have q:AY K a v (.lst (cs.map λc=>D.lst c.2)):=by
  cases e with
  |lst ha rs=>
   refine .lst (s _ _ ha) ?_;have y:∀(l:List (Addr × List D)) (vs:List V),(∀c∈l,AY K a (.ref c.1) (.lst c.2))->Reps K G vs (l.map λc=>D.adr c.1)->Reps K a vs (l.map λc=>D.lst c.2):=by
    intro l
    induction l with
    |nil=>intro vs _ h;cases h;exact .nil
    |cons c r ih=>
     intro vs hc h;cases h with
     |cons b e=>
      cases b;exact .cons (hc c Bh)<|ih _ (λd n=>hc d<|BQ _ n) e
   exact y cs _ p rs
 have f:=o.setVal' i q;have E:Z.set i (some v) = Z:=by
  apply DR;intro j;by_cases hj:j=i
  ·subst hj;rw[Bt (by obtain⟨z,_⟩:=BB.mp b;exact z),b]
  ·rw[Bx (Ne.symm hj)]
 rw[E]at f;have m:(R++Am cs.length Slot.any++T).set i (.val (.lst (cs.map λc=>D.lst c.2)))=R.set i (.val (.lst (cs.map λc=>D.lst c.2)))++Am cs.length Slot.any++T:=by
  rw[Ba,Ba,List.set_append_left _ _ t]
 rw[m]at f;exact f
end
section
variable {X:Cx}(K:W.Frag)
theorem ixK (hu:X.A.units+1<cLine) (hK:X.K=K:=by rfl):IxR X (rIxU K):=hK ▸ ixU hu
theorem slK (hK:X.K=K:=by rfl):SlR X (rSlU K):=hK ▸ slU
theorem slRK {e:Expr}{te:TE}{pos p2 p3 p4:Pos}{k:Nat}(he:PE X e te) (hK:X.K=K:=by rfl):PE X (.Subscript e (.Slice none none (some (.UnaryOp .USub (.Constant (.int 1) k p4) p3)) p2) pos) (tSlR K te):=hK ▸ TQ he
theorem addK (hK:X.K=K:=by rfl):OpR X (binaryOp .Add) (rAddU K):=hK ▸ Vm
theorem lenK (hK:X.K=K:=by rfl):CallR X (.builtin "len") (rLenU K):=hK ▸ Te
def rTup (K:W.Frag):List V->Hp->VK->Prop:=λs H Q=>∃p ys,s=[.ref p]/\((SqL K H p ys/\∀l,H l=none->Q (.ref l) (upd H l (.tup ys)))\/(SqT K H p ys/\Q (.ref p) H))
theorem tupK (hK:X.K=K:=by rfl):CallR X (.type "tuple") (rTup K):=hK ▸ Qw
def rLst (K:W.Frag):List V->Hp->VK->Prop:=λs H Q=>∃p ys,s=[.ref p]/\(SqL K H p ys\/SqT K H p ys)/\∀l,H l=none->Q (.ref l) (upd H l (.lst ys))
theorem idxK (hK:X.K=K:=by rfl):MtM X "tuple.index" (rIndexT K):=hK ▸ Qq
theorem seqK {tg l:Expr}{tl:TE}(hl:PE X l tl) (hK:X.K=K:=by rfl):PI X tg l (iSeq K tl):=hK ▸ Zy5 hl
theorem truK {a:Expr}{ta:TE}(ha:PE X a ta) (he:∀whole,isTrue a X.env whole=(do let v <- whole;standAt a.pos;holding [v] (truthy v))) (hK:X.K=K:=by rfl):PT X a (tTru K ta):=hK ▸ Wh ha he
theorem gtupK {es:List Expr}{k:Nat}{t:TGs}{n:Nat}{pos:Pos}(hc:X.calm=true) (h:PGs X es t)
  (hn:(assignEach es X.env).length=n:=by rfl) (hst:(assignEach es X.env).findIdx? (·.1)=none:=by rfl) (hK:X.K=K:=by rfl):PG X (.Tuple es k pos) (gTup K n t):=hK ▸ Zza hc h hn hst
variable {o e:Expr}{es:List Expr}{to:TE}{t:TA}{name:Str}{apos cpos:Pos}{T id:String}{r:V->List V->Hp->VK->Prop}
theorem bmK (pa:PlainAttrs T) (slot:PySem.Slot T name id) (hty:typeOf (.builtin id)=pure (.type "method_descriptor")) (hm:MtR X id r) (ho:PE X o to) (ha:PA X (e::es) t)
  (hbase:attributeBase o name X.env (eval o X.env)=eval o X.env:=by rfl)
  (hfew:((backTo cpos (starEach (e::es) X.env)).all (λx=>!x.1) && (backToKw cpos (keywordEach [] X.env)).all (λx=>x.1.isSome)
   && decide ((e::es).length+([]:List Keyword).length+(if ([]:List Keyword).isEmpty then 0 else 1)<30))=true:=by rfl)
  (hline:(apos.endLine == cpos.line)=true:=by rfl) (hs:starEach (e::es) X.env=(false,eval e X.env)::starEach es X.env:=by rfl) (hplain:(backTo cpos<|starEach es X.env).any (·.1)=false:=by rfl) (hK:X.K=K:=by rfl) :
  PE X (.Call (.Attribute o name apos) (e::es) [] cpos) (tBM K T r to t):=hK ▸ Zzz pa slot hty hm ho ha hbase hfew hline hs hplain
end
section
variable {K:W.Frag}{U:AI}{P:D->AI->Prop}
theorem Ei (he:ds=[.lst es]\/ds=[.tup es]) (p:P (.tup es) U):JC K (rTup K) ds U P:=Ur he p
theorem QH (he:ds=[.lst es]\/ds=[.tup es]) (p:P (.lst es) U):JC K (rLst K) ds U P:=λg G H Z Q v k s c=>by
 rcases he with he|he <;> subst he
 ·obtain⟨_,_,rfl,r,t⟩:=s.inv
  next=>
   cases t.inv;obtain⟨_,_,rfl,a,s⟩:=r.inv
   next=>
    refine(_,_,rfl,.inl<|SqL.of<|k.live _ _ a,λl h=>?_);obtain⟨b,S⟩:=k.laid h (.lst _);exact c _ _ _ _ U b S (.lst Bm<|s.mono S) p
 ·obtain⟨_,_,rfl,r,t⟩:=s.inv
  next=>
   cases t.inv;obtain⟨_,_,rfl,a,s⟩:=r.inv
   next=>
    refine(_,_,rfl,.inr<|SqT.of<|k.live _ _ a,λl h=>?_);obtain⟨b,S⟩:=k.laid h (.lst _);exact c _ _ _ _ U b S (.lst Bm<|s.mono S) p
theorem T4 (hsel:sel.Nodup)
  (h:JI K wi U λds U1=>ds.length<sizeLine/\∃(p:D->Bool) (f:D->OD),
   (∀(i:Nat) d,ds[i]?=some d->JT K tc (.val d::fixD sel U1) λb U4=>b=p d/\if b=true then JO K te U4 λe U5=>e=f d/\∃x,U5=x::fixD sel U1 else ∃x,U4=x::fixD sel U1) /\
   Po ((ds.filter p).map f) U1):JN K (tComp 1 sel wi (gName 0) tc te) U Po:=by
 refine V8 hsel λg G H Z R k c=>h g G H Z R k λJ ds G' H' U' k' s' it (z,p,f,ht,he)=>c J ds G' H' U' k' s' it (z,λi s U=>s=((ds.take i).filter p).map f/\∃x,U = x::fixD sel U',(by simp,.any,rfl),?_,?_)
 ·rintro i d s u j ⟨rfl,x,rfl⟩
  have t:ds.take (i+1)=ds.take i++[d]:=by
   rw[Dl,j];rfl
  refine GP (by decide) ?_;intro g G H Z Q k c;refine ht i d j g G H Z Q k λb G1 H1 U1 k1 s1 (e1,q)=>c b G1 H1 U1 k1 s1 ?_;cases b with
  |true=>
   rw[AD rfl]at q ⊢;intro g G H Z Q k c;refine q g G H Z Q k λa od G2 H2 u k2 s2 pd (e2,x,E)=>c a od G2 H2 u k2 s2 pd (?_,x,E);rw[t,DT,BD,CC,<- e1,e2];rfl
  |false=>
   rw[AB BR]at q ⊢;obtain⟨x,E⟩:=q;refine(?_,x,E);rw[t,DT,BD,CC,<- e1];simp
 ·rintro s u ⟨rfl,x,rfl⟩
  rw[B2,show (x::fixD sel U')=[x]++fixD sel U' from rfl,Ip (by simp)];exact he
end
section
variable {K:W.Frag}{U:AI}
abbrev OSp:=List D->(OD->Prop)->Prop
def spO (K:W.Frag) (f:OSp):Sp:=λs H Q _=>∃F ds Post,Same F H/\Reps K F s ds/\f ds Post /\
 ∀a H' o od,Same H H' -> H a=none->H' a=some o->OwnRep K (λb=>if b=a then none else glue F H H' b) o od->Post od->Q (.ref a) H'
theorem Lb (h:JA K ta U λds U1=>f ds λod=>Po od U1):JO K (tCall (spO K f) [] E ta) U Po:=λg G H Z Q k c=>
 h g G H Z _ k λV ds i m U1 d C R P=>by
  show spO K f (V++[]) m Q E;rw[Bs];refine(i,ds,_,d.live,R,P,λa l o od S A N y v=>?_);have s:Same i (λb=>if b=a then none else glue i m l b):=λb o e=>by
   have B:b≠a:=by intro z;subst z;rw[d.live _ _ e]at A;cases A
   show (if b=a then none else glue i m l b)=some o;rw[AB B];exact JL d.live b o e
  have t:Ok K g (λb=>if b=a then none else glue i m l b) l Z U1:=d.grow s S λb o e=>by
   have e:(if b=a then none else glue i m l b)=some o:=e;by_cases B:b=a
   ·rw[AD B]at e;cases e
   ·rw[AB B]at e;exact Je d.live (λb o _ e=>S b o e) b o e
  refine c a _ _ l U1 t (C.trans s) (o,N,y,by simp,d.there A,?_,λj x D n p r=>?_) v
  ·cases q:g.Xo a with
   |none=>rfl
   |some u=>have z:=(d.ext a u q).1;rw[A]at z;cases z
  ·obtain⟨b,O,w,W,_⟩:=d.own j x D n p
   rw[r]at w;cases w;rw[A]at W;cases W
theorem QL {f:OSp}{t:TS}{N:List Str}{vs:List V}{H:Hp}{Q:VK}{E:XK}(ht:∀ds Post,f ds Post->ds.length<=N.length/\JS K t (startD N ds) (λ_=>False,λ_ _=>False,λ_=>False,λ_=>False,λod _=>Post od)) (h:spO K f vs H Q E) :
  t { nx:=λ_ H'=>Q .non H',rt:=Q } (start N vs) H:=by
 obtain⟨F,ds,Post,l,s,n,q⟩:=h;obtain⟨L,J⟩:=ht ds Post n;refine J (λ_=>False,F,H,λ_=>none) F H (start N vs) _ (JM s L (λ_ _ _ e=>e) (λ_ z=>z.elim) (Same.refl _) (λb o e=>(l b o e,.inr e)) λ_=>rfl) (λ_ _ _ _ _ z=>z.elim,λ_ _ _ _ _ _ _ _ z=>z.elim,λ_ _ _ _ _ z=>z.elim,λ_ _ _ _ _ z=>z.elim,λa od Z G H' U k D p=>?_);obtain⟨o,g,i,j,m,r,u⟩:=D;refine q a H' o od (λb o e=>k.same b o (λz=>z) e) m g (i.mono λb o e=>?_) p;have B:b≠a:=by intro z;subst z;rw[j]at e;cases e
 show (if b=a then none else glue F H H' b)=some o;rw[AB B];obtain⟨c,d⟩:=k.frz b o e;rcases d with z|z
 ·rw[HV z];exact c
 ·rw[Fd (l b o z)];exact z
theorem O8 (h:∀ds Post,f ds Post->ds.length=n):∀vs H Q E,spO K f vs H Q E->vs.length=n:=λvs H Q E a=>by obtain⟨F,ds,Post,l,s,b,q⟩:=a;rw[s.length];exact h ds Post b
end
def fLaw:DSp:=λs t=>∃ns:List Int,s=[.scr (ns.map .int)]/\ns.length<=63/\t (.bl true)
def spLaw (K:W.Frag):Sp:=λs H Q _=>∃(a:Addr) (ns:List Int),s=[.ref a]/\SqL K H a (ns.map V.int)/\ns.length<=63/\∀H',Q (.bl true) H'
theorem Tt {K:W.Frag}(h:spLaw K vs H Q E):spD K fLaw vs H Q E:=by
 obtain⟨a,s,rfl,S,l,q⟩:=h;refine(H,[.scr (s.map .int)],λd=>d=.bl true,Same.refl _,.cons (.scr S<|Reps.ofInts s) .nil,(s,rfl,l,rfl),λr b d c R e=>?_);subst e;cases R.inv;exact q b
theorem walk_law {l:PySem.W.OpenLaw}{q:Program}{loose:List Str}{XP:(Str->Option Value)->Heap->Prop}{YP:World->Heap->Prop}{d:DefRec}{K:Params->W.Frag}{k:Nat}{x:Str}(hk:Room k callerA) (hn:l.most=some 63) (hdf:d.params.defaults=[])
  (hY:∀(w:World) (h:Heap),YP w h->(K w.params).In h)
  (F:∀(w:World) (mg:Str->Option Value) (fa:Addr) (h:Heap),(K w.params).In h->h.Ns mainGlobals mg->mg d.name=some (.ref fa) ->
   ∃fd:FuncData,(∀(s:Shared) (u:Value),BindsTo s fd ([u],[]) [(x,u)])/\∀base:Heap,(K w.params).In base->base.Ns mainGlobals mg->FnOk l.prog w (K w.params) mg base CX0 k fa fd [x] (spD (K w.params) fLaw)) :
  PySem.W.WalkO q loose XP YP l.row.toRowW d [] (λf vs=>PySem.call f vs):=
 L2.walk_of (n:=63) (k:=k) (x:=x) (CX:=λ_=>CX0) (sp:=λw=>spLaw<|K w.params) hn (by decide) hdf hk hY
  (λw mg fa h c e g=>by
   obtain⟨fd,b,f⟩:=F w mg fa h c e g;exact(fd,b,λbase B N=>(f base B N).imp λvs H Q E z=>Tt z))
  (λ_ _ a i L _ S=>(a,i,rfl,S,L,λ_=>rfl)) λ_ _ _ _ _ z=>z
def SqB (b:Bool) (K:W.Frag) (H:Hp) (a:Addr) (xs:List V):Prop:=match b with|true=>SqT K H a xs|false=>SqL K H a xs
def HsB (b:Bool) (h:Heap) (a:Addr) (ws:Array Value):Prop:=match b with|true=>h.IsTuple a ws|false=>h.IsList a ws
theorem AG.seqB (I:AG X pins Z H s) (h:SqB b X.K H a xs):∃its:List Value,Vals xs its/\HsB b s.heap a its.toArray:=by
 cases b
 ·obtain⟨its,r,p,_⟩:=I.list h
  exact(its,r,p.isList)
 ·obtain⟨its,r,p,_⟩:=I.tuple h
  exact(its,r,p)
section
variable {prog:Program}{w:World}{A:Around}{E:AX}{s:Shared}
end
section
variable {X:Cx}
def rAll (K:W.Frag):List V->Hp->VK->Prop:=λs H Q=>∃(p:Addr) (bs:List Bool),s=[.ref p]/\SqL K H p (bs.map V.bl)/\Q (.bl<|bs.all id) H
theorem allK (K:W.Frag) (hc:X.calm=true) (hK:X.K=K:=by rfl):CallR X (.builtin "all") (rAll K):=by
 subst hK;intro pins s Z H xs us Q I r h;obtain⟨p,S,rfl,x,q⟩:=h;obtain⟨u,rfl,U⟩:=vals1 r;cases (show u=Value.ref p from U);obtain⟨t,g,P,_⟩:=I.list x;have T:p<s.heap.objs.size:=by obtain⟨o,e,_⟩:=P.isList;exact Al e
 have l:∀(S:List Bool) (t:List Value),Vals (S.map V.bl) t->t=S.map Value.bool:=by
  intro S
  induction S with
  |nil=>intro t h;cases h;rfl
  |cons b r ih=>intro t h;cases h with|cons h1 h2=>cases (show _=Value.bool b from h1);rw[ih _ h2];rfl
 have e:=l S t g;subst e;refine call_all_walk<|wpAny_pyIter_list P.isList ?_;refine(s.heap.objs.size,_,_,_,_,_,λi=>S.getD i false,rfl,Walks.list (prog:=X.prog) (w:=X.w) (A:=X.A.in1) (show X.A.in1.handled=none from I.ok.hd hc) s.heap.objs.size p (As T) (S.map Value.bool).toArray,((_,BP _ rfl,rfl,rfl),P.isList.push _),?_,λj m k=>?_)
 ·intro i v s0 Q0 E0 a d
  have a:(S.map Value.bool).toArray[i]?=some v:=a;have a:(S.map Value.bool)[i]?=some v:=by simpa using a
  rw[AZ]at a;cases z:S[i]? with
  |none=>rw[z]at a;cases a
  |some b=>
   rw[z]at a;have a:Value.bool b=v:=by simpa using a
   subst a;have E:S.getD i false=b:=by rw[Ao,z];rfl
   have d:Q0 (S.getD i false) s0:=d;rw[E]at d;exact wpAny_truthy_bool d
 ·have e:(AR (S.map Value.bool).toArray.size).all (λi=>S.getD i false)=S.all id:=by
   rw[Az,AK];rw[F1,Ci,Ci];constructor
   ·intro hh b B
    obtain⟨i,c,rfl⟩:=Gx.mp B;have:=hh i<|Ax.mpr c;rw[Ao,AQ c]at this;exact this
   ·intro hh i c
    rw[Ax]at c;rw[Ao,AQ c];exact hh _<|Br c
  rw[e];have f:AG X pins Z H { s with heap:=s.heap.push { cls:=.type "list_iterator",data:=.fields #[.ref p,.int 0 0] },toks:=s.toks }:=I.kept λb o e=>Au _ e;refine(.bl<|S.all id,H,f.turned (it:=s.heap.objs.size) (λb o B e=>k b o (by simpa using B) e) (I.hok.fresh<|AS _) (E2 I.lt) (.inr I.sz) ?_ ?_,rfl,q)
  ·have:=I.fpOk (b:=s.heap.objs.size) (H':=H) (AS _) (I.hok.fresh<|AS _)
   exact this.2.2.2.2.1
  ·have:=I.fpOk (b:=s.heap.objs.size) (H':=H) (AS _) (I.hok.fresh<|AS _)
   exact this.2.2.2.2.2
def rIsiU (K:W.Frag):List V->Hp->VK->Prop:=λs H Q=>rIsi K s H Q\/∃(x:V) (p:Addr) (ns:List String) (T:String) (b:Bool),s=[x,.ref p]/\H p=some (.tup<|ns.map V.ty)/\TyOf K H x (.type T)/\PySem.W.kitAny K (.type T) (ns.map Value.type)=some b/\Q (.bl b) H
theorem R5 (I:AG X pins Z H s) (rx:RelV x u) (ty:TyOf X.K H x t) (nt:∃T,t=.type T):∃Hh:Heap->Prop,PySem.W.KitX X.K u t Hh/\Hh s.heap/\u≠.builtin "__main__.__loader__#opaque":=by
 cases ty with
 |non=>cases (show u=Value.none from rx);exact(_,PySem.W.kitx_none,True.intro,λz=>nomatch z)
 |bl y=>cases (show u=Value.bool y from rx);exact(_,PySem.W.kitx_bool,True.intro,λz=>nomatch z)
 |int i=>obtain⟨t,q⟩:=(show ∃t,u=Value.int i t from rx);cases q;exact(_,PySem.W.kitx_int,True.intro,λz=>nomatch z)
 |str y=>obtain⟨t,q⟩:=(show ∃t,u=Value.str y t from rx);cases q;exact(_,PySem.W.kitx_str,True.intro,λz=>nomatch z)
 |flt y=>obtain⟨t,q⟩:=(show ∃t,u=Value.float y t from rx);cases q;exact(_,PySem.W.kitx_float,True.intro,λz=>nomatch z)
 |@lst a S ea=>
  cases (show u=Value.ref a from rx);obtain⟨_,_,n,_,h⟩:=(show ObjOk X.prog X.w H s.heap a (.lst S) from I.hok a _ ea);exact(_,PySem.W.kitx_list,(_,h,rfl),λz=>nomatch z)
 |@frz a ob S ea=>
  cases (show u=Value.ref a from rx);obtain⟨_,_,_,n,_,h⟩:=(show ObjOk X.prog X.w H s.heap a (.frz ob (.lst S)) from I.hok a _ ea);exact(_,PySem.W.kitx_list,(_,h,rfl),λz=>nomatch z)
 |@tup a S ea=>
  cases (show u=Value.ref a from rx);obtain⟨_,_,_,p⟩:=(show ObjOk X.prog X.w H s.heap a (.tup S) from I.hok a _ ea);obtain⟨o,h,⟨b,_⟩,_⟩:=p;exact(_,PySem.W.kitx_tuple,(o,h,b),λz=>nomatch z)
 |@dK a kvs ea=>
  cases (show u=Value.ref a from rx);obtain⟨_,_,v,_,p⟩:=(show ObjOk X.prog X.w H s.heap a (.dK kvs) from I.hok a _ ea);obtain⟨o,E,P,h,b,_⟩:=p;exact(_,PySem.W.kitx_dict,(o,h,b.1),λz=>nomatch z)
 |@dT a kvs ea=>
  cases (show u=Value.ref a from rx);obtain⟨_,_,S,_,o,E,P,h,b,_⟩:=(show ObjOk X.prog X.w H s.heap a (.dT kvs) from I.hok a _ ea);exact(_,PySem.W.kitx_dict,(o,h,b.1),λz=>nomatch z)
 |@ins a C dx fs ea cl ha hn htk hm=>obtain⟨T,e⟩:=nt;cases e
theorem isiUK (K:W.Frag) (hK:X.K=K:=by rfl):CallR X (.builtin "isinstance") (rIsiU K):=by
 subst hK;refine CallR.or RZ ?_;intro pins s Z H xs us Q I r h;obtain⟨x,p,S,T,b,rfl,P,y,e,q⟩:=h;obtain⟨u,U,rfl,i,N⟩:=vals2 r;cases (show U=Value.ref p from N);obtain⟨j,z,g,E⟩:=R5 I i y (T,rfl);obtain⟨_,t,R,o,O,⟨c,n,D⟩,d⟩:=I.hok p _ P;have v:∀(S:List String) (t:List Value),Vals (S.map V.ty) t->t=S.map Value.type:=by
  intro S
  induction S with
  |nil=>intro t h;cases h;rfl
  |cons b r ih=>intro t h;cases h with|cons h1 h2=>cases (show _=Value.type b from h1);rw[ih _ h2];rfl
 have f:=v S t R;subst f;obtain⟨l,k,a,L⟩:=o;simp only at c D d;subst c D d;exact PySem.W.kia_tup z I.kIn g O e E λm=>(.bl b,H,I.tok _,rfl,q)
end
section
variable {K:W.Frag}{U:AI}
theorem MF {bs:List Bool}(p:P (.bl<|bs.all id) U):JC K (rAll K) [.lst (bs.map D.bl)] U P:=λg G H Z Q v k S c=>by
 obtain⟨_,_,rfl,r,t⟩:=S.inv
 next=>
  cases t.inv;obtain⟨a,s,rfl,A,S⟩:=r.inv
  next=>
   have e:∀(bs:List Bool) (s:List V),Reps K G s (bs.map D.bl)->s=bs.map V.bl:=by
    intro bs
    induction bs with
    |nil=>intro s h;cases h;rfl
    |cons b r ih=>intro s h;cases h with|cons h1 h2=>cases h1;rw[ih _ h2];rfl
   have:=e bs s S;subst this;exact(_,bs,rfl,SqL.of<|k.live _ _ A,c _ _ G H U k (Same.refl _) (.bl _) p)
theorem Hf (ht:tyD d=some T) (e:∀K,PySem.W.kitOne K (.type T) (.type n)=some b) (p:P (.bl b) U):JC K (rIsiU K) [d,.ty n] U P:=λg G H Z Q v k s c=>.inl<|Zzd ht e p g G H Z Q v k s c
end
section
variable {X:Cx}
end
open PySem PySem.Spec PyProof.Rows PySem.SeqAt
theorem SY:∀n:Nat,n<200->minRun' n n 0<=n:=by decide +kernel
section
variable {prog:Program}{w:World}{A:Around}{E:AX}{s:Shared}
theorem Vd {st:SortSt}{nrem a:Nat}{Q:AscSt->SortSt->Prop}(hc:∀i,1<=i->i<nrem->∀Q:Option Bool->SortSt->Prop,Q (some false) st->wpS (model prog w) A E s (ltAt' i<|i-1) Q st) (ha:1<=a) (han:a<=nrem) (h:Q (none,nrem) st) :
  wpS (model prog w) A E s (ascLoop a nrem) Q st:=by
 unfold ascLoop;refine wpS_forRange (I:=λx c t=>t=st/\c=(none,x)) ?step ?fin (rfl,rfl)
 case fin=>
  rintro c t ⟨rfl,rfl⟩;rw[show max a nrem=nrem by lia];exact h
 case step=>
  rintro x c t X n ⟨rfl,rfl⟩;dsimp only;refine wpS_bind<|hc x (by lia) n _ ?_;simp only[Av,if_false];exact wpS_pure (rfl,rfl)
theorem UH {st:SortSt}(hs:(arrOf st).size=n) (hp:pendingOf st = #[]) (h2:2<=n) (hn:n<200) (hc:∀i,1<=i->i<n->∀Q:Option Bool->SortSt->Prop,Q (some false) st->wpS (model prog w) A E s (ltAt' i<|i-1) Q st)
  (h:∀st',arrOf st'=arrOf st->failedOf st'=failedOf st->Q () st'):wpS (model prog w) A E s sortRuns' Q st:=by
 have r:=SY n hn;rw[sortRuns'_eq];refine wpS_bind (wpS_get ?_);dsimp only;simp only[hs];refine wpS_bind (wpS_mono (wpS_forRange
  (I:=λx c st'=>(x=0/\c=(none,0)/\st'=st)\/(1<=x/\c=(none,n)/\st'=setPending st #[(0,n,0)]))
  (Q:=λc st'=>c=(none,n)/\st'=setPending st #[(0,n,0)]) ?step ?fin (.inl (rfl,rfl,rfl))) ?post)
 case fin=>
  rintro c st' (⟨X,_,_⟩|⟨_,hc,D⟩)
  ·lia
  ·exact(hc,D)
 case step=>
  rintro x c st' _ X (⟨rfl,rfl,rfl⟩|⟨a,rfl,rfl⟩)
  ·dsimp only
   rw[AB (by lia)];simp only[F3,By];rw[countRun0_eq];refine wpS_bind<|wpS_bind<|Vd hc (AS 1) (by lia) ?_;dsimp only;rw[AD (by simp)];refine wpS_pure ?_;dsimp only;rw[AB (by lia)];refine wpS_bind<|wpS_get ?_;rw[hp];refine wpS_bind<|wpS_modify<|wpS_pure (.inr (by lia,rfl,?_));rw[hp];rfl
  ·dsimp only
   rw[AD (AS _)];exact wpS_pure (rfl,rfl)
 case post=>
  rintro c st' ⟨rfl,rfl⟩;dsimp only;refine wpS_bind<|wpS_mono (wpS_forRange (I:=λ_ c t=>t=setPending st #[(0,n,0)]/\c=(none,())) (Q:=λc t=>t=setPending st #[(0,n,0)]/\c=(none,())) ?_ (λ_ _ H=>H) (rfl,rfl)) ?_
  ·rintro x c t _ _ ⟨rfl,rfl⟩
   refine wpS_bind<|wpS_get ?_;rw[AD (show (pendingOf<|setPending st #[(0,n,0)]).size<=1 from AS 1)];exact wpS_pure (rfl,rfl)
  ·rintro c t ⟨rfl,rfl⟩
   exact wpS_pure<|h _ rfl rfl
def KeepBut (a:Addr) (h h':Heap):Prop:=∀b o,b≠a->h.get? b=some o->h'.get? b=some o
theorem Qz (ho:s.heap.get? a=some (seqObj "list" vs.toArray n)) (hz:vs.length<200)
  (hk:2<=vs.length->∀h',KeepBut a s.heap h' -> ∀Q:SortKind->Shared->Prop,Q κ { s with heap:=h' } -> wpAny (model prog w) A (keyKind' vs.toArray) Q E { s with heap:=h' })
  (hc:∀h',KeepBut a s.heap h' -> ∀i,1<=i->i<vs.length->∀(E:AX) (Q:Bool->Shared->Prop),Q false { s with heap:=h' } -> wpAny (model prog w) A (keyLt' κ (vs.getD i .none)<|vs.getD (i-1) .none) Q E { s with heap:=h' })
  (h:P (.done (.ret .none)) { s with heap:=sortedHeap s.heap a vs vs.toArray }):wpAny (model prog w) A (Builtin.«list.sort» ([.ref a],[])) P E s:=by
 rw[list_sort_plain];have ha:a<s.heap.objs.size:=Al ho;have hsz:vs.toArray.size=vs.length:=by simp
 have hline:vs.length<=sizeLine:=by rw[sizeLine_eq];lia
 refine AA<|listItems_at ho rfl ?_;refine AA<|listUpdate_at ho rfl ?_ (by rw[hsz];exact hline)<|BZ _;obtain⟨e1,ho1⟩:∃e1,(s.heap.update a (Obj.mapSeq λ_=>#[])).get? a=some (seqObj "list" #[] e1):=(_,get?_update_seq ho λ_=>#[]);refine AA<|seqEpoch_at ho1 rfl ?_;refine AA<|wpAny_newTuple ?_ hline;refine AA<|wpAny_newList ?_<|BZ _;refine Bq ?_;have ho6:(((s.heap.update a (Obj.mapSeq λ_=>#[])).push (seqObj "tuple" vs.toArray 0)).push (seqObj "list" #[] 0)).get? a=some (seqObj "list" #[] e1):=by
  rw[Ey _ _ _ (by rw[size_push',Fz];exact As<|Cw ha),Ey _ _ _ (by rw[Fz];exact As ha)];exact ho1
 have keep:KeepBut a s.heap (((s.heap.update a (Obj.mapSeq λ_=>#[])).push (seqObj "tuple" vs.toArray 0)).push (seqObj "list" #[] 0)):=λb o hb q=>
  Au _ (Au _ ((IQ _ _ _ _ hb).trans q))
 show wpAny (model prog w) A _ P E { s with heap:=((s.heap.update a (Obj.mapSeq λ_=>#[])).push (seqObj "tuple" vs.toArray 0)).push (seqObj "list" #[] 0) };dsimp only;have out:((vs.toArray.zip vs.toArray).map (·.2))=vs.toArray:=by
  apply Array.toList_inj.mp;rw[Array.toList_map,Array.toList_zip];exact Fw<|AS _
 by_cases h2:vs.toArray.size<2
 ·rw[AD h2,AD h2]
  refine AA<|AH ?_;rw[StateT.run_pure];refine AA<|AH ?_;dsimp only;refine AA<|seqEpoch_at ho6 rfl ?_;rw[show arrOf (SortSt.mk' general' (vs.toArray.zip vs.toArray) #[] 7 none)=vs.toArray.zip vs.toArray from rfl,out];refine AA<|listUpdate_at ho6 rfl ?_ (BZ _) (by rw[hsz];exact Gq hline);simp only[bne_self_eq_false,Av,if_false];exact AH h
 ·rw[AB h2,AB h2]
  refine AA<|hk (by lia) _ keep _ ?_;refine AA (Dz (UH (n:=vs.length) (st:=SortSt.mk' κ (vs.toArray.zip vs.toArray) #[] 7 none) (Q:=λ_ st'=>arrOf st'=vs.toArray.zip vs.toArray/\failedOf st'=none) ?_ rfl (by omega) hz ?_ ?_) ?_ λ_ _ e=>e)
  ·show (vs.toArray.zip vs.toArray).size=_
   rw[Array.size_zip,hsz,IJ]
  ·intro i h1 hi Q hq
   have g:∀j,j<vs.length->(arrOf<|SortSt.mk' κ (vs.toArray.zip vs.toArray) #[] 7 none)[j]?=some (vs.getD j .none,vs.getD j .none):=λj hj=>by
    show (vs.toArray.zip vs.toArray)[j]?=_;rw[<- Array.getElem?_toList,Array.toList_zip];show (vs.zip vs)[j]?=_;rw[EN,Ao,AQ hj];exact(rfl,rfl)
   rw[ltAt'_eq];refine wpS_bind<|wpS_get ?_;show wpS _ _ _ _ (do let x <- elem' (arrOf<|SortSt.mk' κ (vs.toArray.zip vs.toArray) #[] 7 none) i;let y <- elem' (arrOf<|SortSt.mk' κ (vs.toArray.zip vs.toArray) #[] 7 none) (i-1);lt' x y) Q _;rw[elem'_eq,elem'_eq,g i hi,g (i-1) (by lia)];refine wpS_bind<|wpS_pure<|wpS_bind<|wpS_pure ?_;rw[lt'_eq];refine wpS_bind<|wpS_get ?_;refine wpS_bind<|wpS_lift<|Ep<|hc _ keep i h1 hi _ _ (rfl,?_);exact wpS_pure hq
  ·exact λst' a1 a2=>(a1,a2)
  rintro⟨⟨⟩,st'⟩ s' ⟨rfl,har,hf⟩;dsimp only;refine AA<|seqEpoch_at ho6 rfl ?_;rw[har,out];refine AA<|listUpdate_at ho6 rfl ?_ (BZ _) (by rw[hsz];exact Gq hline);rw[hf];simp only[bne_self_eq_false,Av,if_false];exact AH h
theorem NF (hl:s.heap.IsList l vs.toArray) (hz:vs.length<200)
  (hk:2<=vs.length->∀h',(∀b o,s.heap.get? b=some o->h'.get? b=some o)->∀(E:AX) (Q:SortKind->Shared->Prop),Q κ { s with heap:=h' } -> wpAny (model prog w) A.in1.in1 (keyKind' vs.toArray) Q E { s with heap:=h' })
  (hc:∀h',(∀b o,s.heap.get? b=some o->h'.get? b=some o)->∀i,1<=i->i<vs.length->∀(E:AX) (Q:Bool->Shared->Prop),Q false { s with heap:=h' } -> wpAny (model prog w) A.in1.in1 (keyLt' κ (vs.getD i .none)<|vs.getD (i-1) .none) Q E { s with heap:=h' })
  (h:Q (.ref<|s.heap.objs.size+1) { s with heap:=sortedAll s.heap vs vs.toArray }):wpAny (model prog w) A (call (.builtin "sorted") [.ref l]) Q E s:=by
 have e:vs.length<=sizeLine:=by rw[sizeLine_eq];lia
 refine Calls.call_function_entry kind_sorted plain_sorted entry_sorted (args_sorted1 _) ?_;unfold Builtin.«sorted»;refine AA (m:=checkCount "sorted" 1 1 _)<|AH ?_;refine AA<|collect_list hl ?_ e;refine AA<|wpAny_newList ?_ e;have z:((s.heap.push<|seqObj "list" #[] 0).update s.heap.objs.size (Obj.mapSeq (· ++ vs.toArray))).objs.size=s.heap.objs.size+1:=by
  rw[Fz,size_push']
 have L:(((s.heap.push<|seqObj "list" #[] 0).update s.heap.objs.size (Obj.mapSeq (· ++ vs.toArray))).push (seqObj "list" vs.toArray 0)).get? (s.heap.objs.size+1)=some (seqObj "list" vs.toArray 0):=by
  rw[<- z];exact BP _ rfl
 have p:∀b o,s.heap.get? b=some o->(((s.heap.push<|seqObj "list" #[] 0).update s.heap.objs.size (Obj.mapSeq (· ++ vs.toArray))).push (seqObj "list" vs.toArray 0)).get? b=some o:=λb o q=>by
  have t:b<s.heap.objs.size:=Al q;rw[Ey _ _ _ (by rw[z];exact As<|Cw t),IQ _ _ _ _ (As t),Ey _ _ _ (As t)];exact q
 have u:∀h',KeepBut (s.heap.objs.size+1) (((s.heap.push<|seqObj "list" #[] 0).update s.heap.objs.size (Obj.mapSeq (· ++ vs.toArray))).push (seqObj "list" vs.toArray 0)) h' -> ∀b o,s.heap.get? b=some o->h'.get? b=some o:=λh' k b o q=>
  k b o (As<|Cw<|Al q) (p b o q)
 show wpAny _ _ _ _ _ { s with heap:=((s.heap.push<|seqObj "list" #[] 0).update s.heap.objs.size (Obj.mapSeq (· ++ vs.toArray))).push (seqObj "list" vs.toArray 0) };rw[z];refine AA<|Bq<|wpAny_call_entry slot_list_sort (_,L,rfl) entry_list_sort (Qz (κ:=κ) L hz (λa h' k Q q=>hk a h' (u h' k) _ Q q) (λh' k i H I E Q q=>hc h' (u h' k) i H I E Q q) (_,rfl,?_))<|args_list_sort _;exact AH (_,rfl,h)
end
def RowAt (h:Heap) (v:Value) (r:List Int):Prop:=∃(a:Addr) (its:List Value),v=.ref a/\IsTup h a its.toArray/\IntsAre its r
theorem RowAt.keep (x:RowAt h v r) (k:∀b o,h.get? b=some o->h'.get? b=some o):RowAt h' v r:=by
 obtain⟨a,s,e,⟨o,O,c⟩,i⟩:=x;exact(a,s,e,(o,k a o O,c),i)
theorem Mm (h:IntsAre its (x::r)):∃t us,its=.int x t::us/\IntsAre us r:=by
 cases its with
 |nil=>have:=h.length;simp at this
 |cons v us=>
  cases h with
  |cons _ _ b=>exact(_,_,rfl,b)
theorem Ra (h:IntsAre its []):its=[]:=by
 cases its with
 |nil=>rfl
 |cons v us=>have:=h.length;simp at this
section
variable {prog:Program}{w:World}{A:Around}{E:AX}{s:Shared}
theorem Kx:∀(vs:List Value) (rs:Aa) {Q:List (Option Value)->Shared->Prop},Paired (RowAt s.heap) vs rs ->
  (∀fs:List (Option Value),Paired (λ(f:Option Value) (r:List Int)=>(r=[]/\f=none)\/∃x t l,r=x::l/\f=some (.int x t)) fs rs->Q fs s)->wpAny (model prog w) A (vs.mapM firstOfTuple') Q E s
 |[],[],_,_,h=>by rw[List.mapM_nil];exact AH (h [] .nil)
 |v::vs,r::rs,Q,.cons p t,h=>by
  obtain⟨a,i,rfl,⟨o,O,c,n,d⟩,I⟩:=p;rw[List.mapM_cons];refine AA ?_;rw[PySem.W.kas_first_eq];refine AA<|PySem.W.Looks.here (show PySem.W.Looks (model prog w) s.heap (typeOf (.ref a)) o.cls from (PySem.W.Looks.ld O).andThen .now) ?_;rw[c,AB (by first|decide|simp)];refine AA<|listItems_at O d<|AH ?_;refine AA (Kx vs rs (Q:=λb S=>wpAny _ A (pure (i.toArray[0]?::b)) Q E S) t λfs F=>AH<|h _ (.cons ?_ F));cases r with
  |nil=>rw[Ra I];exact .inl (rfl,rfl)
  |cons x l=>
   obtain⟨t,u,rfl,_⟩:=Mm I;exact .inr (x,t,l,rfl,by simp)
theorem SF (p:Paired (RowAt s.heap) vs rs):∀v∈vs,PySem.W.Looks (model prog w) s.heap (typeOf v) (.type "tuple"):=by
 intro v h
 induction p with
 |nil=>cases h
 |cons q t ih=>
  rcases Ar.mp h with e|h
  ·subst e
   obtain⟨a,i,rfl,⟨o,O,c,_⟩,_⟩:=q;have z:PySem.W.Looks (model prog w) s.heap (typeOf (.ref a)) o.cls:=(PySem.W.Looks.ld O).andThen .now;rw[c]at z;exact z
  ·exact ih h
theorem Rm (p:Paired (RowAt s.heap) vs ([]::rs)) (h:Q oneType' s):wpAny (model prog w) A (keyKind' vs.toArray) Q E s:=by
 have T:=SF (prog:=prog) (w:=w) p;rw[keyKind'_eq,G8,map_eq_pure_bind];refine AA<|AA (Kx vs _ p λS P=>AH ?_);cases P with
 |@cons f _ S _ F _=>
  have F:f=none:=by
   rcases F with z|⟨x,t,l,z,_⟩
   ·exact z.2
   ·cases z
  subst F;rw[AB (by simp),AB (by simp)];rw[oneTypeOnly'_eq,G8,map_eq_pure_bind];refine AA<|AA<|AA<|PySem.W.kas_mapM (r:=.type "tuple") _ (λv V b q=>(T v V).here q)<|AH ?_;cases p with
  |@cons v _ vs _ _ _=>
   have a:((A9 (λ_=>Value.type "tuple") (v::vs)).toArray.all λx=>x == Value.type "tuple")=true:=by
    simp only[KU,II,Ci];intro _ _;exact(by decide:(Value.type "tuple" == Value.type "tuple")=true)
   have H:(A9 (λ_=>Value.type "tuple") (v::vs)).toArray[0]?=some (Value.type "tuple"):=by simp
   rw[H];simp only[a,if_true];exact AH<|AH h
theorem M5 (p:Paired (RowAt s.heap) vs rs) (hne:∀r∈rs,r≠[]) (h1:rs≠[]) (h:Q (tuples' true) s):wpAny (model prog w) A (keyKind' vs.toArray) Q E s:=by
 have X:∃f:List Value,PySem.W.KatTups s.heap vs f/\f.length=rs.length/\∀v∈f,PySem.W.Looks (model prog w) s.heap (typeOf v) (.type "int"):=by
  clear h h1
  induction p with
  |nil=>exact([],trivial,rfl,λ_ h=>nomatch h)
  |@cons v r vs rs q t ih=>
   obtain⟨f,k,b,K⟩:=ih λr R=>hne r<|BQ _ R;obtain⟨a,T,rfl,⟨o,O,c,n,d⟩,i⟩:=q;cases r with
   |nil=>exact absurd rfl (hne [] Bh)
   |cons x l=>
    obtain⟨g,u,rfl,_⟩:=Mm i;refine(.int x g::f,.cons O c d (by simp) k,by rw[Aj,Aj,b],λv V=>?_);rcases Ar.mp V with e|V
    ·subst e;exact .now
    ·exact K v V
 obtain⟨f,k,b,K⟩:=X;have S:0<rs.length:=KL.mpr h1;exact PySem.W.kat_kind k (by lia) K (by decide) h
end
section
variable {X:Cx}
theorem GY (I:AG X pins Z H s):∀{us:List V}{its:List Value}{rs:Aa},Vals us its->Paired (λ(u:V) (r:List Int)=>∃a,u=.ref a/\SqT X.K H a (r.map V.int)) us rs->Paired (RowAt s.heap) its rs
 |_,_,_,.nil,.nil=>.nil
 |_,_,_,.cons r t,.cons p q=>by
  obtain⟨a,rfl,h⟩:=p;cases r;obtain⟨its,R,l,_⟩:=I.tuple h;exact .cons (a,its,rfl,l,K5 R)<|GY I t q
theorem Paired.len:∀{vs:List Value}{rs:Aa},Paired R vs rs->vs.length=rs.length
 |_,_,.nil=>rfl
 |_,_,.cons _ t=>by rw[Aj,Aj,Paired.len t]
theorem Paired.up (f:∀v r,R v r->R' v r):∀{vs:List Value}{rs:Aa},Paired R vs rs->Paired R' vs rs
 |_,_,.nil=>.nil
 |_,_,.cons p t=>.cons (f _ _ p) (Paired.up f t)
end
section
variable {K:W.Frag}{U:AI}{P:D->AI->Prop}
def rowD (r:List Int):D:=.tup<|r.map D.int
theorem N8 (l:Same G H):∀{vs:List V}{rs:Aa},Reps K G vs (rs.map rowD)->Paired (λ(u:V) (r:List Int)=>∃a,u=.ref a/\SqT K H a (r.map V.int)) vs rs
 |[],[],_=>.nil
 |[],_::_,h=>by cases h
 |_::_,[],h=>by cases h
 |v::vs,r::rs,h=>by
  cases h with
  |cons r1 t=>
   obtain⟨a,s,rfl,A,R⟩:=r1.inv
   next=>
    have e:=R.ints;subst e;exact .cons (a,rfl,SqT.of<|l _ _ A)<|N8 l t
end
theorem Ek (hr:Room k A):A.units+8<cLine:=EW (Nat.add_le_add_left (by decide:8<=64) _) hr.units
open PySem PySem.Spec PyProof.Rows PySem.SeqAt
def flatD:D->Option V
 |.non=>some .non
 |.bl b=>some (.bl b)
 |.int i=>some (.int i)
 |.str x=>some (.str x)
 |_=>none
def eqFlat (d e:D):Bool:=match flatD d,flatD e with
 |some x,some y=>eqV x y
 |_,_=>false
def eqF:Nat->D->D->Bool
 |0,_,_=>false
 |n+1,.tup xs,.tup ys=>xs.length == ys.length && (xs.zip ys).all λp=>eqF n p.1 p.2
 |n+1,.lst xs,.lst ys=>xs.length == ys.length && (xs.zip ys).all λp=>eqF n p.1 p.2
 |_+1,d,e=>eqFlat d e
def Dp:Nat->D->Prop
 |0,_=>False
 |_+1,.int _=>True
 |n+1,.tup xs=>∀d∈xs,Dp n d
 |n+1,.lst xs=>∀d∈xs,Dp n d
 |_,_=>False
theorem AY.uniq {K:W.Frag}:∀(n:Nat) {v:V}{d e:D},AY K G v d->AY K G v e->Dp n d->Dp n e->d=e
 |0,_,_,_,_,_,h,_=>h.elim
 |n+1,v,d,e,H,he,pd,pe=>by
  have l:∀{vs:List V}{xs ys:List D},Reps K G vs xs->Reps K G vs ys->(∀d∈xs,Dp n d)->(∀d∈ys,Dp n d)->xs=ys:=by
   intro vs
   induction vs with
   |nil=>intro xs ys h1 h2 _ _;cases h1;cases h2;rfl
   |cons v vs ih=>
    intro xs ys h1 h2 p1 p2;cases h1 with
    |cons a1 b1=>
     cases h2 with
     |cons a2 b2=>
      rw[AY.uniq n a1 a2 (p1 _ Bh) (p2 _ Bh),ih b1 b2 (λd H=>p1 d<|BQ _ H) λd H=>p2 d (BQ _ H)]
  cases d with
  |int i=>cases H;cases he;rfl
  |tup xs=>
   cases H with
   |tup ha ra=>
    cases e with
    |tup ys=>cases he with|tup hb rb=>rw[ha]at hb;cases hb;rw[l ra rb pd pe]
    |lst ys=>cases he with|lst hb rb=>rw[ha]at hb;cases hb
    |int i=>cases he
    |_=>exact pe.elim
  |lst xs=>
   cases H with
   |lst ha ra=>
    cases e with
    |lst ys=>cases he with|lst hb rb=>rw[ha]at hb;cases hb;rw[l ra rb pd pe]
    |tup ys=>cases he with|tup hb rb=>rw[ha]at hb;cases hb
    |int i=>cases he
    |_=>exact pe.elim
  |_=>exact pd.elim
theorem HW:∀(n:Nat) (d:D),Dp n d->eqF n d d=true
 |0,_,h=>h.elim
 |n+1,.int i,_=>by show (i == i)=true;simp
 |n+1,.tup xs,h=>by
  show (xs.length == xs.length && (xs.zip xs).all λp=>eqF n p.1 p.2)=true;rw[beq_self_eq_true,D3,Ci];intro p hp;obtain⟨i,I⟩:=Cv.mp hp;rw[EN]at I;have e:p.1=p.2:=BY.inj<|I.1.symm.trans I.2;rw[<- e];exact HW n _<|h _<|Bk I.1
 |n+1,.lst xs,h=>by
  show (xs.length == xs.length && (xs.zip xs).all λp=>eqF n p.1 p.2)=true;rw[beq_self_eq_true,D3,Ci];intro p hp;obtain⟨i,I⟩:=Cv.mp hp;rw[EN]at I;have e:p.1=p.2:=BY.inj<|I.1.symm.trans I.2;rw[<- e];exact HW n _<|h _<|Bk I.1
 |_+1,.non,h=>h.elim
 |_+1,.bl _,h=>h.elim
 |_+1,.str _,h=>h.elim
 |_+1,.ty _,h=>h.elim
 |_+1,.scr _,h=>h.elim
 |_+1,.adr _,h=>h.elim
 |_+1,.dct _ _,h=>h.elim
 |_+1,.exc _ _,h=>h.elim
 |_+1,.excR _ _ _,h=>h.elim
def atZip (n:Nat) (xs ys:List D) (j:Nat):Bool:=match xs[j]?,ys[j]? with
 |some a,some b=>eqF n a b
 |_,_=>false
theorem JU (n:Nat):∀(xs ys:List D),(AR<|min xs.length ys.length).all (atZip n xs ys)=(xs.zip ys).all λp=>eqF n p.1 p.2
 |[],ys=>by simp
 |_::_,[]=>by simp
 |x::xs,y::ys=>by
  rw[Aj,Aj,Nat.succ_min_succ,List.range_succ_eq_map,List.all_cons,II,FH,List.all_cons,<- JU n xs ys];rfl
section
variable {X:Cx}
theorem L8:∀(n:Nat) {A:Around}{pins:Ai}{Z:St}{H G:Hp}{s:Shared}{x y:V}{v u:Value}{d e:D},AG X pins Z H s->Same G H->AY X.K G x d->AY X.K G y e->RelV x v->RelV y u->Dp n d->Dp n e->A.units+n<cLine ->
  EqAt A s v u (eqF n d e)/\(∀a b,v=.ref a->u=.ref b->RcAt A s v u (eqF n d e))
 |0,_,_,_,_,_,_,_,_,_,_,_,_,_,_,_,_,_,_,h,_,_=>h.elim
 |n+1,A,pins,Z,H,G,s,x,y,v,u,d,e,I,sg,rx,ry,rv,ru,pd,pe,hu=>by
  have U:A.units<cLine:=by lia
  have Q:A.in1.units+n<cLine:=by show A.units+1+n<cLine;lia
  have m:∀{vs us:List V}{T S:List Value}{xs ys:List D},Vals vs T->Vals us S->Reps X.K G vs xs->Reps X.K G us ys->(∀d∈xs,Dp n d)->(∀d∈ys,Dp n d) ->
    ∀j (q:j<T.toArray.size) (r:j<S.toArray.size),EqAt A.in1 s T.toArray[j] S.toArray[j] (atZip n xs ys j):=by
   intro vs us T S xs ys w W r1 r2 p1 p2 j q r;have l1:=w.length;have l2:=r1.length;have l3:=W.length;have l4:=r2.length;have B:j<T.length:=by simpa using q
   have C:j<S.length:=by simpa using r
   have k:j<xs.length:=by lia
   have Y:j<ys.length:=by lia
   obtain⟨a,F,J⟩:=r1.get<|AQ k;obtain⟨b,N,O⟩:=r2.get<|AQ Y;obtain⟨va,c,R⟩:=w.get F;obtain⟨vb,g,a0⟩:=W.get N;have E:T.toArray[j]=va:=by
    rw[AQ B]at c;simpa using BY.inj c
   have e2:S.toArray[j]=vb:=by
    rw[AQ C]at g;simpa using BY.inj g
   have e3:atZip n xs ys j=eqF n xs[j] ys[j]:=by unfold atZip;rw[AQ k,AQ Y]
   rw[E,e2,e3];exact(L8 n I sg J O R a0 (p1 _<|Br k) (p2 _<|Br Y) Q).1
  have M:∀a,v=.ref a->u=.ref a->eqF (n+1) d e=true:=λa q r=>by
   have k:x=.ref a:=by cases x <;> simp[RelV,q]at rv <;> first|(rw[rv])|skip
   have Y:y=.ref a:=by cases y <;> simp[RelV,r]at ru <;> first|(rw[ru])|skip
   rw[k]at rx;rw[Y]at ry;rw[AY.uniq (n+1) rx ry pd pe];exact HW (n+1) e pe
  have f:(∃a,v=.ref a)->(∃b,u=.ref b)->(∀a b,v=.ref a->u=.ref b->RcAt A s v u (eqF (n+1) d e))->EqAt A s v u (eqF (n+1) d e)/\(∀a b,v=.ref a->u=.ref b->RcAt A s v u (eqF (n+1) d e)):=by
   rintro⟨a,rfl⟩ ⟨b,rfl⟩ h;refine(?_,h);by_cases hab:a=b
   ·subst hab
    rw[M a rfl rfl];exact EqAt.same _
   ·exact .of_refs hab<|h a b rfl rfl
  cases d with
  |int i=>
   cases rx;obtain⟨t,rfl⟩:=rv;refine(?_,λa b z=>nomatch z);cases e with
   |int j=>
    cases ry;obtain⟨o,rfl⟩:=ru;exact EqAt.int_int i t j o
   |tup ys=>
    cases ry with
    |tup hb rb=>
     cases ru;obtain⟨T,w,L,_⟩:=I.tuple<|SqT.of<|sg _ _ hb;exact EqAt.int_tuple i t L U
   |lst ys=>
    cases ry with
    |lst hb rb=>
     cases ru;obtain⟨T,w,L,_⟩:=I.list<|SqL.of<|sg _ _ hb;exact EqAt.int_list i t L.isList U
   |_=>exact pe.elim
  |tup xs=>
   cases rx with
   |@tup a vs _ ha ra=>
    cases rv;obtain⟨T,w,L,_⟩:=I.tuple<|SqT.of<|sg _ _ ha;cases e with
    |int j=>
     cases ry;obtain⟨o,rfl⟩:=ru;exact(EqAt.tuple_int j o L U,λa b _ z=>nomatch z)
    |tup ys=>
     cases ry with
     |@tup b us _ hb rb=>
      cases ru;obtain⟨S,W,l,_⟩:=I.tuple<|SqT.of<|sg _ _ hb;refine f (_,rfl) (_,rfl) λ_ _ _ _=>?_;have z:=RcAt.tuples (A:=A) (s:=s) L l U<|m w W ra rb pd pe;have E:((AR<|min T.toArray.size S.toArray.size).all (atZip n xs ys) && T.toArray.size == S.toArray.size)=eqF (n+1) (.tup xs) (.tup ys):=by
       show _=(xs.length == ys.length && (xs.zip ys).all λp=>eqF n p.1 p.2);rw[<- JU,Az,Az,<- w.length,<- W.length,ra.length,rb.length,IG]
      rw[E]at z;exact z
    |lst ys=>
     cases ry with
     |@lst b us _ hb rb=>
      cases ru;obtain⟨S,W,l,_⟩:=I.list<|SqL.of<|sg _ _ hb;exact(EqAt.tuple_list L l.isList U,λ_ _ _ _=>RcAt.tuple_list L l.isList U)
    |_=>exact pe.elim
  |lst xs=>
   cases rx with
   |@lst a vs _ ha ra=>
    cases rv;obtain⟨T,w,L,_⟩:=I.list<|SqL.of<|sg _ _ ha;cases e with
    |int j=>
     cases ry;obtain⟨o,rfl⟩:=ru;exact(EqAt.list_int j o L.isList U,λa b _ z=>nomatch z)
    |tup ys=>
     cases ry with
     |@tup b us _ hb rb=>
      cases ru;obtain⟨S,W,l,_⟩:=I.tuple<|SqT.of<|sg _ _ hb;exact(EqAt.list_tuple L.isList l U,λ_ _ _ _=>RcAt.list_tuple L.isList l U)
    |lst ys=>
     cases ry with
     |@lst b us _ hb rb=>
      cases ru;obtain⟨S,W,l,_⟩:=I.list<|SqL.of<|sg _ _ hb;refine f (_,rfl) (_,rfl) λ_ _ _ _=>?_;have l1:=w.length;have l2:=W.length;have l3:=ra.length;have l4:=rb.length;by_cases hl:xs.length=ys.length
      ·have P:T.toArray.size=S.toArray.size:=by rw[Az,Az];lia
       have z:=RcAt.lists (A:=A) (s:=s) L.isList l.isList P U<|m w W ra rb pd pe;have E:(AR T.toArray.size).all (atZip n xs ys)=eqF (n+1) (.lst xs) (.lst ys):=by
        show _=(xs.length == ys.length && (xs.zip ys).all λp=>eqF n p.1 p.2);rw[<- JU,Az,hl,beq_self_eq_true,D3,IJ,show T.length=ys.length by lia]
       rw[E]at z;exact z
      ·have z:=RcAt.lists_lengths (A:=A) (s:=s) L.isList l.isList (by rw[Az,Az];simp;lia) U
       have E:eqF (n+1) (.lst xs) (.lst ys)=false:=by
        show (xs.length == ys.length && (xs.zip ys).all λp=>eqF n p.1 p.2)=false;rw[beq_eq_false_iff_ne.mpr hl,Dn]
       rw[E];exact z
    |_=>exact pe.elim
  |_=>exact pd.elim
def rEqD (K:W.Frag):R2:=λx y H Q=>∃G d e n,Same G H/\AY K G x d/\AY K G y e/\Dp n d/\Dp n e/\n<=5/\(∃a,x=.ref a)/\(∃b,y=.ref b)/\Q (.bl<|eqF n d e) H
theorem eqDK (K:W.Frag) (hv:X.A.units+8<cLine) (hK:X.K=K:=by rfl):OpR X (compareOp .Eq) (rEqD K):=by
 subst hK;intro pins s Z H x y v u Q I rx ry h;obtain⟨G,d,e,n,g,r,R,p,P,N,⟨a,rfl⟩,⟨b,rfl⟩,q⟩:=h;cases rx;cases ry;exact(L8 n I g r R rfl rfl p P (A:=X.A)<|by lia).2 a b rfl rfl X.prog X.w _ _ (.bl _,H,I,rfl,q)
theorem Mk:∀{vs:List Value}{ns:List Int},vs.length=ns.length->(∀(i:Nat) v,vs[i]?=some v->∃t,v=.int (ns.getD i 0) t)->IntsAre vs ns
 |[],[],_,_=>.nil
 |[],_::_,h,_=>by simp at h
 |_::_,[],h,_=>by simp at h
 |v::vs,n::ns,h,g=>by
  obtain⟨t,rfl⟩:=g 0 v rfl;exact .cons n t (Mk (by simpa using h) λi u e=>by simpa using g (i+1) u (by simpa using e))
def tLR (ta:TA):TE:=λZ H Q=>ta Z H λs h=>∃n:Nat,s=[.int (n:Int)]/\n<=1000/\∀l,h l=none->Q (.ref l) (upd h l (.lst ((AR n).map λi:Nat=>V.int (i:Int))))
theorem Ku {a:Expr}{ta:TA}{p p2 pos pos2:Pos}(hc:X.calm=true) (hgL:Gl X "list") (hmL:X.mg "list" = none) (hgR:Gl X "range") (hmR:X.mg "range" = none) (ha:PA X [a] ta) (hs:starEach [a] X.env=[(false,eval a X.env)]:=by rfl)
  (he:starEach [.Call (.Name "range" p2) [a] [] pos2] X.env=[(false,eval (.Call (.Name "range" p2) [a] [] pos2) X.env)]:=by rfl) :
  PE X (.Call (.Name "list" p) [.Call (.Name "range" p2) [a] [] pos2] [] pos) (tLR ta):=by
 intro pins s Z H Q I h;refine wpAny_Call_Name_kw<|Ej I hgL hmL Oo ?_;refine PyProof.Rows.callWith_type1 ?_ he rfl;rw[he];show wpAny _ _ (spliced ((false,eval (.Call (.Name "range" p2) [a] [] pos2) X.env)::backTo pos [])) _ _ s;refine Calls.spliced_cons ?_;refine Call_<|Ej I hgR hmR boot_range<|PyProof.Rows.callWith_type1 (thn (ha pos2 pins s Z H _ I h) λus s1 (vs,H1,I1,r1,q1)=>?_) hs rfl;obtain⟨n,e,N,q⟩:=q1;subst e;cases r1 with
 |cons r rr=>
  cases rr;obtain⟨t,rfl⟩:=r;refine call_range_1<|Calls.spliced_nil ?_;have d:AG X pins Z H1 { s1 with heap:=s1.heap.push { cls:=.type "range",data:=.fields #[.int 0 s1.toks,.int (n:Int) t,.int 1 (s1.toks+1)] },toks:=s1.toks+1+1 }:=I1.kept λb o e=>Au _ e;refine call_list_range (a:=0) (b:=(n:Int)) (c:=1) (n:=n) (I1.ok.hd hc) (IsRange.new ..) (small_one (by decide) (by decide) (by lia)<|by lia) (by rw[rangeSize_one];split <;> lia) (by lia) λj T C g K D f=>?_
  have l:C.size=n:=f.1;refine(.ref _,_,d.laid (t':=T) K (AS _) (show ObjOk X.prog X.w _ j _ (.lst ((AR n).map λi:Nat=>V.int (i:Int))) from (?_,C.toList,g,?_,?_)),rfl,q _<|d.hok.fresh<|AS _)
  ·rw[AK,BS];exact DW<|small1000 N
  ·have:IntsAre C.toList ((AR n).map λi:Nat=>(i:Int)):=by
    refine Mk (by rw[Array.length_toList,l,AK,BS]) λi v e=>?_;have k:i<n:=by
     have:=(BB.mp e).1;rw[Array.length_toList,l]at this;exact this
    obtain⟨t',rfl⟩:=f.2 i v (by rw[<- Array.getElem?_toList];exact e);refine(t',?_);rw[Ao,AZ,ET k];show Value.int (0+(i:Int)*1) t'=Value.int (i:Int) t';rw[D5,Int.mul_one]
   have:=Iu this;rw[A5]at this;exact this
  ·rw[Array.toArray_toList];exact D
end
section
variable {K:W.Frag}{U:AI}{P:D->AI->Prop}
def isSeqD:D->Bool
 |.tup _=>true
 |.lst _=>true
 |_=>false
theorem Lq (r:AY K G x d) (h:isSeqD d=true):∃a,x=.ref a:=by
 cases r with
 |tup _ _=>exact(_,rfl)
 |lst _ _=>exact(_,rfl)
 |_=>cases h
theorem Zzc (hn:n<=5) (pd:Dp n d) (pe:Dp n e) (sd:isSeqD d=true) (se:isSeqD e=true) (p:P (.bl<|eqF n d e) U):JR2 K (rEqD K) d e U P:=λg G H Z Q x y k r Y c=>
 (G,d,e,n,k.live,r,Y,pd,pe,hn,Lq r sd,Lq Y se,c _ _ G H U k (Same.refl _) (.bl _) p)
theorem MP (h:JA K ta U λds U1=>∃n:Nat,ds=[.int (n:Int)]/\n<=1000/\Po (.lst ((AR n).map λi:Nat=>D.int (i:Int))) U1):JO K (tLR ta) U Po:=λg G H Z Q k c=>
 h g G H Z _ k λv ds a f U1 b s R q=>by
  obtain⟨n,e,L,p⟩:=q;subst e;obtain⟨_,_,rfl,r,t⟩:=R.inv
  next=>
   cases t.inv;cases r.inv;refine(n,rfl,L,λl L=>?_);obtain⟨d,P⟩:=b.fresh (od:=.lst ((AR n).map λi:Nat=>D.int (i:Int))) L (show OwnRep K a (.lst ((AR n).map λi:Nat=>V.int (i:Int))) (.lst ((AR n).map λi:Nat=>D.int (i:Int))) from by
    have:=Reps.ofInts (K:=K) (G:=a) ((AR n).map λi:Nat=>(i:Int));rw[A5,A5]at this;exact this)
   exact c l _ a _ U1 d s P p
theorem WZ {n:Nat}{t1 t2:TE}{x:Slot}{ds0:List D}{nx bk ct:AI->Prop}{rt:D->AI->Prop}{ro:OD->AI->Prop}(hx:U[n]?=some x) (ho:x.od=some (.lst ds0))
  (h:JE K t1 U λe1 U1=>JE K t2 U1 λe2 U2=>∃y i ds,e1=.int i /\ U2[n]?=some y/\y.od=some (.lst ds)/\ds.length<sizeLine /\ -(2 ^ 62)<=i/\i<2 ^ 62/\nx (U2.set n<|y.put (.lst (ds.take (insI ds.length i)++e2::ds.drop (insI ds.length i))))) :
  JS K (tDrop<|tBM K "list" rInsert (tVar n)<|tCons t1<|tCons t2 tNil) U (nx,rt,bk,ct,ro):=λg G H Z E k c=>by
 obtain⟨a,o,b,j,l,t,v⟩:=k.own n x _ hx ho;cases o with
 |lst vs0=>
  refine(.ref a,b,.inl (rfl,_,SqL.of j),h g G H Z _ k λV e1 e f U1 m S r P=>P g e f Z _ m λv2 e2 G2 H2 U2 k2 s2 r2 (y,i,ds,q1,q2,q2',q3,q4,q5,p)=>?_);subst q1;cases r.inv;obtain⟨A,O,d,s,u,w,B⟩:=k2.own n y _ q2 q2';rw[b]at d;cases d;cases O with
  |lst vs=>
   have u:Reps K G2 vs ds:=u;refine(_,vs,i,v2,rfl,rfl,s,by rw[u.length];exact q3,q4,q5,?_);have q:=k2.write q2 q2' b (show OwnRep K G2 (.lst (vs.take (insI vs.length i)++v2::vs.drop (insI vs.length i))) (.lst (ds.take (insI ds.length i)++e2::ds.drop (insI ds.length i))) from by
    rw[u.length];exact(u.take _).append (.cons r2 (u.drop _)))
   exact c.nx Z G2 _ _ q p
  |_=>exact absurd u (λz=>z)
 |_=>exact absurd l (λz=>z)
end
open PySem PySem.Spec PyProof.Rows PySem.SeqAt
def DP (xs:Array Nat):Prop:=∀(i j a b:Nat),i<j->xs[i]?=some a->xs[j]?=some b->a<b
theorem LX (xs:Array Nat) (R:DP xs) (j:Nat):∀(fuel lo hi:Nat),hi-lo<=fuel->lo<=hi->hi<=xs.size->(∀(i a:Nat),i<lo->xs[i]?=some a->a<j)->(∀(i a:Nat),hi<=i->xs[i]?=some a->j<=a) ->
  SetTable.below.go xs j fuel lo hi<=xs.size/\(∀(i a:Nat),i<SetTable.below.go xs j fuel lo hi->xs[i]?=some a->a<j)/\∀(i a:Nat),SetTable.below.go xs j fuel lo hi<=i->xs[i]?=some a->j<=a
 |0,lo,hi,h1,h2,h3,h4,h5=>by
  have:lo=hi:=by lia
  subst this;show lo<=xs.size/\_;exact(h3,h4,h5)
 |fuel+1,lo,hi,h1,h2,h3,h4,h5=>by
  unfold SetTable.below.go;by_cases hlt:lo<hi
  ·rw[AD hlt]
   dsimp only;have m:(lo+hi) / 2<xs.size:=by lia
   have g:xs.getD ((lo+hi) / 2) j=xs[(lo+hi) / 2]:=by simp[Array.getD,m]
   by_cases hc:xs.getD ((lo+hi) / 2) j<j
   ·rw[AD hc]
    refine LX xs R j fuel _ _ (by omega) (by lia) h3 (λi a h e=>?_) h5;by_cases hi2:i=(lo+hi) / 2
    ·subst hi2
     rw[Array.getElem?_eq_getElem m]at e;cases e;lia
    ·have:=R i ((lo+hi) / 2) a _ (by lia) e (Array.getElem?_eq_getElem m)
     lia
   ·rw[AB hc]
    refine LX xs R j fuel _ _ (by omega) (by lia) (by lia) h4 λi a h e=>?_;by_cases hi2:i=(lo+hi) / 2
    ·subst hi2
     rw[Array.getElem?_eq_getElem m]at e;cases e;lia
    ·have:=R ((lo+hi) / 2) i _ a (by lia) (Array.getElem?_eq_getElem m) e
     lia
  ·rw[AB hlt]
   have:lo=hi:=by lia
   subst this;exact(h3,h4,h5)
theorem Iq (R:DP xs) (j:Nat):SetTable.below xs j<=xs.size/\(∀(i a:Nat),i<SetTable.below xs j->xs[i]?=some a->a<j)/\∀(i a:Nat),SetTable.below xs j<=i->xs[i]?=some a->j<=a:=
 LX xs R j xs.size 0 xs.size (by lia) (BZ _) (AS _) (λi a h=>by lia) λi a h e=>by
  have:=(Array.getElem?_eq_some_iff.mp e).1;lia
theorem Ks (xs:Array α) (p:Nat) (x:α) (h:p<=xs.size):(SetTable.insertAt xs p x).toList=xs.toList.take p++x::xs.toList.drop p:=by
 unfold SetTable.insertAt;rw[Array.toList_append,Array.toList_push,Array.toList_extract,Array.toList_extract];simp[EO,Ba];rw[Et (by simp)]
theorem GB (xs:Array α) (p:Nat) (x:α) (h:p<=xs.size) (i:Nat):(SetTable.insertAt xs p x)[i]?=if i<p then xs[i]? else if i=p then some x else xs[i-1]?:=by
 rw[<- Array.getElem?_toList,Ks xs p x h];by_cases h1:i<p
 ·rw[AD h1,Cu (by rw[Bj,Array.length_toList];lia),KA h1,Array.getElem?_toList]
 ·rw[AB h1,CP (by rw[Bj,Array.length_toList];lia),Bj,Array.length_toList,F2 h]
  by_cases h2:i=p
  ·rw[AD h2,h2,Nat.sub_self];rfl
  ·rw[AB h2,show i-p=(i-1-p)+1 by lia,Gp,EV,Array.getElem?_toList,show p+(i-1-p)=i-1 by lia]
theorem Oi (R:DP xs) (hj:xs[SetTable.below xs j]?≠some j):DP (SetTable.insertAt xs (SetTable.below xs j) j):=by
 obtain⟨c,d,B⟩:=Iq R j;have f:∀(i a:Nat),SetTable.below xs j<=i->xs[i]?=some a->j<a:=λi a h e=>by
  have H:=B i a h e;by_cases hi:i=SetTable.below xs j
  ·subst hi
   rcases Ex H with z|z
   ·exact z
   ·subst z;exact absurd e hj
  ·obtain⟨s,S⟩:=Array.getElem?_eq_some_iff.mp e
   have t:SetTable.below xs j<xs.size:=by lia
   have g:=B _ _ (AS _)<|Array.getElem?_eq_getElem t;have:=R (SetTable.below xs j) i _ a (by lia) (Array.getElem?_eq_getElem t) e;lia
 intro i k a b hik ha hb;rw[GB _ _ _ c]at ha hb;split at ha
 ·split at hb
  ·exact R i k a b hik ha hb
  ·split at hb
   ·cases hb;exact d i a (by omega) ha
   ·exact R i (k-1) a b (by lia) ha hb
 ·split at ha
  ·cases ha
   rw[AB (by lia),AB (by lia)]at hb;exact f (k-1) b (by lia) hb
  ·rw[AB (by lia),AB (by lia)]at hb
   exact R (i-1) (k-1) a b (by lia) ha hb
theorem PU:DP #[]:=λi j a b _ e=>by simp at e
theorem Sh (n:Nat):DP (Array.range n):=λi j a b h e E=>by
 simp[Array.getElem?_range]at e E;lia
structure TabOk (led:Bool) (t:SetTable):Prop where
 led:t.led=led
 dum:t.dummies = #[]
 ris:DP t.place
theorem TabOk.fresh (led:Bool):TabOk led (SetTable.fresh 0 0 led):=(rfl,rfl,PU)
theorem TabOk.standIn {led:Bool}{t:SetTable}(h:TabOk led t) (n:Nat):TabOk led (t.standIn n):=(h.led,rfl,Sh n)
theorem Jb (j:Nat):SetTable.has #[] j=false:=by unfold SetTable.has;simp
theorem M1 (hd:t.dummies = #[]):∀(fuel:Nat) (p:SetTable.Probe) {j:Nat}{dm:Option Nat},p.dummy=none->SetTable.probe.go t hashAt h fuel p=some (.empty j dm)->dm=none/\t.place[SetTable.below t.place j]?≠some j
 |0,_,_,_,_,e=>by cases e
 |fuel+1,p,j,dm,hp,e=>by
  unfold SetTable.probe.go at e;have v:(t.advance p).dummy=none:=by unfold SetTable.advance;split <;> exact hp
  unfold SetTable.slot at e;dsimp only at e;by_cases hl:(t.place[SetTable.below t.place p.j]? == some p.j)=true
  ·rw[AD hl]at e
   dsimp only at e;split at e
   ·cases e
   ·exact M1 hd fuel _ v e
  ·rw[AB hl,hd,Jb]at e
   simp only[Av,if_false]at e;injection e with e
   injection e with e1 e2
   subst e1 e2;exact(hp,λz=>hl (by rw[z];simp))
theorem TabOk.put {led:Bool}{t:SetTable}(h:TabOk led t) {j:Nat}(hj:t.place[SetTable.below t.place j]?≠some j):TabOk led (t.put j).1:=by
 refine(h.led,?_,Oi h.ris hj);show (if SetTable.has t.dummies j=true then _ else t.dummies) = #[];rw[h.dum,Jb];rfl
theorem TabOk.layNew {led:Bool}{t:SetTable}(h:TabOk led t) (es:Array (Int × Value)) (hs:Int) (x:Value):TabOk led (layNew t es hs x).2.1:=by
 unfold PySem.layNew;unfold SetTable.freeSlot;cases q:t.probe (λ_=>hs+1) hs (t.probeStart hs) with
 |none=>exact h.standIn _
 |some m=>
  cases m with
  |candidate j i p=>exact h.standIn _
  |empty j dm=>
   obtain⟨E,e⟩:=M1 h.dum _ (t.probeStart hs) rfl (show SetTable.probe.go t (λ_=>hs+1) hs (10*SetTable.turns t.mask) (t.probeStart hs)=some (.empty j dm) from q);subst E;show TabOk led ((t.put j).1.orStandIn _);unfold SetTable.orStandIn;split
   ·exact h.put e
   ·exact(h.put e).standIn _
theorem N3 (owner:Array (Option Nat)) (m:Nat):DP ((((AR m).filterMap λj=>(owner.getD j none).map (λx=>((j,x):_×_))).map (·.1)).toArray):=by
 have w:((AR m).filterMap λj=>(owner.getD j none).map (λx=>((j,x):_×_))).Pairwise (λa b=>a.1<b.1):=by
  rw[List.pairwise_filterMap];refine List.Pairwise.imp ?_ D2;intro a b hab c h d D;cases qa:owner.getD a none with
  |none=>rw[qa]at h;cases h
  |some k=>
   cases qb:owner.getD b none with
   |none=>rw[qb]at D;cases D
   |some l=>
    rw[qa]at h;rw[qb]at D;have h:(a,k)=c:=by simpa using h
    have D:(b,l)=d:=by simpa using D
    subst h D;exact hab
 intro i j a b hij e B;rw[Gw,AZ]at e B;cases qa:((AR m).filterMap λj=>(owner.getD j none).map (λx=>((j,x):_×_)))[i]? with
 |none=>rw[qa]at e;cases e
 |some c=>
  cases qb:((AR m).filterMap λj=>(owner.getD j none).map (λx=>((j,x):_×_)))[j]? with
  |none=>rw[qb]at B;cases B
  |some d=>
   rw[qa]at e;rw[qb]at B;have e:c.1=a:=by simpa using e
   have B:d.1=b:=by simpa using B
   subst e B;obtain⟨I,f⟩:=BB.mp qa;obtain⟨J,g⟩:=BB.mp qb;have:=DF.mp w i j I J hij;rw[f,g]at this;exact this
theorem TabOk.relay {led:Bool}{t:SetTable}(h:TabOk led t) (es:Array (Int × Value)) (wanted:Nat):TabOk led (relayAll t es wanted).2.1:=by
 unfold PySem.relayAll;cases q:t.relaid (es.map (·.1)) wanted with
 |none=>exact h.standIn _
 |some r=>
  obtain⟨T,d⟩:=r;dsimp only;split
  ·unfold SetTable.relaid SetTable.laid at q
   cases q2:SetTable.layClean (SetTable.sizeAbove wanted-1) (es.map (·.1)) with
   |none=>rw[q2]at q;cases q
   |some owner=>
    rw[q2]at q;have q:_=some ((T,d):_×_):=q;have e:=congrArg Prod.fst<|BY.inj q;dsimp only at e;rw[<- e];exact(h.led,rfl,N3 owner _)
  ·exact h.standIn _
def numOf:Value->Int
 |.int i _=>i
 |_=>0
section
variable {prog:Program}{w:World}
def byTextB (w:World):Bool:=w.params.followText "set-order"
structure SetG (prog:Program) (w:World) (h:Heap) (a:Addr) (o:Obj) (es:Array (Int × Value)) (ep:Nat) (t:SetTable) (ks:List Int):Prop where
 get:h.get? a=some o
 ex:o.ExactSet
 dat:o.data=.set es ep t
 el:ElemsOf (intKind prog w) es.toList
 room:es.size<scanBound
 fit:t.fits es.size=true
 tab:TabOk (!byTextB w) t
 perm:(es.toList.map λe=>numOf e.2).Perm ks
 nd:ks.Nodup
def SetI (prog:Program) (w:World) (h:Heap) (a:Addr) (ks:List Int):Prop:=∃o es ep t,SetG prog w h a o es ep t ks
theorem SetI.keep (x:SetI prog w h a ks) (k:∀o,h.get? a=some o->h'.get? a=some o):SetI prog w h' a ks:=by
 obtain⟨o,s,p,t,g⟩:=x;exact(o,s,p,t,k _ g.get,g.ex,g.dat,g.el,g.room,g.fit,g.tab,g.perm,g.nd)
theorem SetG.size (g:SetG prog w h a o es ep t ks):es.size=ks.length:=by
 have:=g.perm.length_eq;rw[AK,Array.length_toList]at this;exact this
theorem Nk (h:(intKind prog w).is k v=true):numOf v=k/\∃t,v=.int k t:=by
 obtain⟨t,rfl⟩:=Value.isInt_shape (show Value.isInt k v=true from h);exact(rfl,t,rfl)
theorem OM (h:ElemsOf (intKind prog w) es) (he:e∈es):∃t,e.2=.int (numOf e.2) t:=by
 obtain⟨⟨k,K,_⟩,_⟩:=h e he;obtain⟨a,t,H⟩:=Nk K;exact(t,by rw[H];rfl)
theorem PF (h:ElemsOf (intKind prog w) es):(∃e∈es,(intKind prog w).is k e.2=true)↔k∈es.map λe=>numOf e.2:=by
 rw[Af];constructor
 ·rintro⟨e,E,p⟩;exact(e,E,(Nk p).1)
 ·rintro⟨e,E,rfl⟩
  obtain⟨t,T⟩:=OM h E;exact(e,E,by rw[T];exact intKind_is _ _ _ _)
section
variable {A:Around}{E:AX}{s:Shared}
theorem SetG.store {h:Heap}{a:Addr}{o:Obj}{es:Array (Int × Value)}{ep:Nat}{t:SetTable}{ks:List Int}(g:SetG prog w h a o es ep t ks) {es':Array (Int × Value)}{t':SetTable}{ks':List Int}
  (hel:ElemsOf (intKind prog w) es'.toList) (hb:es'.size<scanBound) (hf:t'.fits es'.size=true) (ht:TabOk (!byTextB w) t') (hp:(es'.toList.map λe=>numOf e.2).Perm ks') (hn:ks'.Nodup) :
  SetG prog w (h.update a<|Obj.putSet es' t') a { o with data:=.set es' (ep+1) t' } es' (ep+1) t' ks':=by
 have G:(h.update a<|Obj.putSet es' t').get? a=some { o with data:=.set es' (ep+1) t' }:=by
  have:=EM (Obj.putSet es' t') g.get (by rw[putSet_of es' t' g.dat];rfl);rw[putSet_of es' t' g.dat]at this;exact this
 exact(G,g.ex,rfl,hel,hb,hf,ht,hp,hn)
def addE (ks:List Int) (k:Int):List Int:=if k∈ks then ks else ks++[k]
theorem UT {a:Addr}{ks:List Int}{k:Int}{tk:Tok}{Q:Bool->Shared->Prop}(hS:SetI prog w s.heap a ks) (hroom:ks.length+1<scanBound)
  (h:∀b h',Heap.SameBut a s.heap h' -> SetI prog w h' a (addE ks k)->Q b { s with heap:=h' }) :
  wpAny (model prog w) A (setAddHashed a (.int k tk)<|hashInt k) Q E s:=by
 obtain⟨o,es,ep,t,g⟩:=hS;have hsz:=g.size;have hkey:(intKind prog w).is k (.int k tk)=true:=intKind_is _ _ _ _;unfold setAddHashed setAddHashedIn;refine Bq<|AA<|wpAny_setState_of g.get g.dat g.fit ?_;dsimp only;rw[byScan_of (knd:=intKind prog w) rfl g.room g.el];simp only[↓reduceIte];unfold setAddByScan;refine AA ?_;refine AA<|DO ?_;refine AA<|wpAny_setScan_of (knd:=intKind prog w) (k:=k) hkey g.get g.dat g.fit g.el ?_;cases hr:List.findIdx? (λe=>(intKind prog w).is k e.2) es.toList with
 |some j=>
  dsimp only;obtain⟨hj,hpj,_⟩:=List.findIdx?_eq_some_iff_getElem.mp hr;have hk:k∈ks:=g.perm.mem_iff.mp ((PF g.el).mp (es.toList[j],Br hj,hpj));refine AH<|AH ?_;have e:s = { s with heap:=s.heap }:=by cases s;rfl
  rw[e];refine h _ s.heap (Heap.SameBut.refl a s.heap) ?_;unfold addE;rw[AD hk];exact(o,es,ep,t,g)
 |none=>
  dsimp only;have hk:k ∉ ks:=λz=>by
   obtain⟨e,he,hp⟩:=(PF g.el).mpr (g.perm.mem_iff.mpr z);have:=List.findIdx?_eq_none_iff.mp hr e he;rw[hp]at this;cases this
  have hgw:∀(b:Bool) {s₁:Shared}{Q':Unit->Shared->Prop},Q' () s₁ -> wpAny (model prog w) A (match b with|true=>rule "set.scan.the-table-gave-way" |false=>pure ()) Q' E s₁:=
   λb s₁ Q' hq=>by cases b <;> first|exact AH hq|exact DO hq
  have hperm:=layNew_perm t es (hashInt k) (.int k tk);have hfits:=layNew_fits t es (hashInt k) (.int k tk);have htab:=g.tab.layNew es (hashInt k) (.int k tk);generalize hL:layNew t es (hashInt k) (.int k tk)=L at hperm hfits htab ⊢;obtain⟨es1,t1,wasDummy,gave⟩:=L;dsimp only at hperm hfits htab ⊢;rw[Array.toList_push]at hperm;have hel1:ElemsOf (intKind prog w) es1.toList:=(g.el.push (k:=k) hkey rfl).perm hperm;have hsz1:es1.size=es.size+1:=by rw[<- Array.length_toList,hperm.length_eq,Aw,Array.length_toList];rfl
  have hb1:es1.size<scanBound:=by lia
  have hp1:(es1.toList.map λe=>numOf e.2).Perm (ks++[k]):=by
   refine(hperm.map _).trans ?_;rw[BD];exact List.Perm.append_right _ g.perm
  have hnd1:(ks++[k]).Nodup:=by
   rw[D7];refine(g.nd,by simp,λa ha b hb e=>?_);rw[Bc.mp hb]at e;exact hk (e ▸ ha)
  have eadd:addE ks k=ks++[k]:=by unfold addE;rw[AB hk]
  refine AA<|hgw _ ?_;have tail:∀(Q2:Option Bool->Shared->Prop),(∀h',Heap.SameBut a s.heap h' -> SetI prog w h' a (ks++[k])->Q2 (some true) { s with heap:=h' })->∀(g0:Bool->Sem Unit),(∀(b:Bool) (s₁:Shared) (Q':Unit->Shared->Prop),Q' () s₁ -> wpAny (model prog w) A (g0 b) Q' E s₁) ->
    wpAny (model prog w) A (do
     storeSet a es1 t1
     if (!wasDummy && t1.tooFull)=true then do
       g0 (relayAll t1 es1<|SetTable.grown es1.size).2.2
       storeSet a (relayAll t1 es1<|SetTable.grown es1.size).1 (relayAll t1 es1<|SetTable.grown es1.size).2.1
       pure (some true)
      else pure (some true)) Q2 E s:=by
   intro Q2 hq g0 hg0;refine AA<|wpAny_storeSet_of g.get g.dat ?_<|fits_of_scanBound hb1;have g1:=g.store (es':=es1) (t':=t1) hel1 hb1 hfits htab hp1 hnd1;have sb1:=Heap.SameBut.update s.heap a<|Obj.putSet es1 t1;split
   ·have hp:=relayAll_perm t1 es1 (SetTable.grown es1.size)
    have hfr:=relayAll_fits t1 es1<|SetTable.grown es1.size;have htr:=htab.relay es1<|SetTable.grown es1.size;generalize hRl:relayAll t1 es1 (SetTable.grown es1.size)=Rl at hp hfr htr ⊢;obtain⟨es2,t3,gave2⟩:=Rl;dsimp only at hp hfr htr ⊢;have hsz2:es2.size=es1.size:=by rw[<- Array.length_toList,hp.length_eq,Array.length_toList]
    refine AA<|hg0 _ _ _ ?_;refine AA (wpAny_storeSet_of g1.get rfl ?_<|fits_of_scanBound (by lia));have g2:=g1.store (es':=es2) (t':=t3) (hel1.perm hp) (by omega) hfr htr ((hp.map _).trans hp1) hnd1;exact AH<|hq _ (sb1.trans<|Heap.SameBut.update _ a _) (_,_,_,_,g2)
   ·exact AH<|hq _ sb1 (_,_,_,_,g1)
  have hgv:∀(b:Bool) (s₁:Shared) (Q':Unit->Shared->Prop),Q' () s₁ -> wpAny (model prog w) A (match b with|true=>rule "set.scan.the-table-gave-way" |false=>pure ()) Q' E s₁:=λb s₁ Q' hq=>hgw b hq;split
  ·refine AA ?_
   rw[hashByValue_scannable 8 (x:=.int k tk) rfl];refine AH ?_;simp only[plainKind,if_true];exact tail _ (λh' sb hS'=>by dsimp only;exact AH<|h _ h' sb (by rw[eadd];exact hS')) _ hgv
  ·refine AA (AH ?_)
   simp only[↓reduceIte];exact tail _ (λh' sb hS'=>by dsimp only;exact AH<|h _ h' sb (by rw[eadd];exact hS')) _ hgv
end
end
def metK (val:Nat->Int):Nat->List Int
 |0=>[]
 |i+1=>addE (metK val i) (val i)
theorem OX (val:Nat->Int) (i:Nat):(metK val i).length<=i:=by
 induction i with
 |zero=>exact AS _
 |succ i ih=>
  show (addE (metK val i)<|val i).length<=i+1;unfold addE;split
  ·lia
  ·rw[Aw,DS];lia
theorem Uy:x∈metK val i ↔ ∃j,j<i/\val j=x:=by
 induction i with
 |zero=>simp[metK]
 |succ i ih=>
  show x∈addE (metK val i) (val i)↔_;unfold addE;constructor
  ·intro h
   split at h
   ·obtain⟨j,J,e⟩:=ih.mp h;exact(j,by lia,e)
   ·rcases Bb.mp h with h|h
    ·obtain⟨j,J,e⟩:=ih.mp h;exact(j,by omega,e)
    ·exact(i,by lia,(Bc.mp h).symm)
  ·rintro⟨j,J,rfl⟩
   by_cases hji:j=i
   ·subst hji
    split
    ·assumption
    ·exact CV _ (by simp)
   ·have:=ih.mpr (j,by lia,rfl)
    split
    ·exact this
    ·exact Gy _ this
section
variable {prog:Program}{w:World}{A:Around}{R:Result->Shared->Prop}{I:Addr}{fp wr:List Addr}{G:Array GenState->Array GenState->Prop}{n:Nat}{P:Nat->Value->Prop}{St:Nat->Shared->Prop}
theorem RV (W:WalksS prog w A.in1 I fp wr G n P St) (S:Addr) (hSf:S ∉ fp)
  (val:Nat->Int) (hval:∀i v,P i v->∃t,v=.int (val i) t) (hb:n+1<scanBound) :
  ∀(k i:Nat) (s:Shared),n-i=k->i<=n->St i s->SetI prog w s.heap S (metK val i) ->
   (∀s',Moved (S::wr) G s s' -> SetI prog w s'.heap S (metK val n)->R (.ok (.ret .none)) s') ->
   codeAny (model prog w) A (.builtin "set.update.loop" ([.ref S,.ref I],[])) R s:=by
 have a:S ∉ wr:=λh=>hSf<|W.sub _ h;have u:∀b∈wr,b∈S::wr:=λb hb=>BQ _ hb;intro k
 induction k with
 |zero=>
  intro i s hk hi hst hS hR;have N:i=n:=by lia
  subst N;refine codeAny_builtin F.entry_set_update_loop ?_;rw[Around.under_plainId F.plain_set_update_loop _];show wpAny _ A.in1 (pyNext (.ref I) >>= _) _ _ s;refine AA (W.done s _ _ hst λs' M=>?_);show wpAny _ A.in1 (ret Value.none) _ _ s';exact AH<|hR s' (M.mono u) (hS.keep λo e=>M.heap S o a e)
 |succ k ih=>
  intro i s hk hi hst hS hR;have l:i<n:=by omega
  refine codeAny_builtin F.entry_set_update_loop ?_;rw[Around.under_plainId F.plain_set_update_loop _];show wpAny _ A.in1 (pyNext (.ref I) >>= _) _ _ s;refine AA (W.item i s _ _ l hst λv s' p T M=>?_);obtain⟨t,rfl⟩:=hval i v p;have d:SetI prog w s'.heap S (metK val i):=hS.keep λo e=>M.heap S o a e;show wpAny _ A.in1 (holding [Value.int (val i) t] (setAdd S (.int (val i) t)) >>= _) _ _ s';refine AA<|Bq ?_;unfold setAdd;refine Bq ?_;refine AA ((intKind prog w).pyHash (k:=val i) (intKind_is _ _ _ _) ?_);have m:(metK val i).length+1<scanBound:=by have:=OX val i;lia
  refine UT (s:={ s' with toks:=s'.toks+1 }) d m λb j B f=>?_;refine AH (plainId_quiet F.plain_set_update_loop _,ih (i+1) _ (by lia) l (W.frame _ s' _ _ T (Dq _) λb hb o e=>?_) f λg c H=>?_)
  ·rw[B.2 b (λh:b=S=>hSf (by rw[<- h];exact hb))];exact e
  ·refine hR g (Moved.trans W.gtrans ((M.mono u).then_heap (Dq _) λb o hb e=>?_) c) H
   rw[B.2 b (λh:b=S=>hb (by rw[h];exact Bh))];exact e
end
section
variable {prog:Program}{w:World}{A:Around}{E:AX}{s:Shared}
abbrev set0 (w:World):Obj:={ cls:=.type "set",dict:=none,data:=.set #[] 0 (.fresh 0 0 (!byTextB w)) }
theorem UO (x:Value) {N:AX}(h:N (.ref s.heap.objs.size) { s with heap:=s.heap.push (set0 w) }) :
  codeAny (model prog w) A (.call (.builtin "set.__new__") ([.type "set",x],[])) (wants N E) s:=
 codeAny_of_tree (by
  have u:=sub_set_self;obtain⟨p,g,d,k,o⟩:=s;refine AA (m:=checkBuiltinCall "set.__new__" ([.type "set",x],[]))<|wpAny_of_eq (F.newCall_set_1 x)<|AH (plainId_quiet F.plain_set_new _,codeAny_builtin F.entry_set_new ?_);rw[Around.under_plainId F.plain_set_new _];unfold Builtin.«set.__new__» Builtin.Frozenset.newClass
  wp_walk
  refine wpAny_askSetting (AH ?_);simp only[newObj];exact AA (wpAny_alloc (AH (AH h))))
theorem Sf {S l:Addr}{its:Array Value}{ns:List Int}{N:Result->Shared->Prop}(hh:A.handled=none) (hS:s.heap.get? S=some (set0 w)) (hl:s.heap.IsList l its) (hi:IntsAre its.toList ns) (hb:its.size+1<scanBound)
  (q:∀h' tk,SetI prog w h' S (metK (λi=>ns.getD i 0) its.size)->(∀b o,b≠S->s.heap.get? b=some o->h'.get? b=some o)->N (.ok (.ret .none)) { s with heap:=h',toks:=tk }) :
  wpAny (model prog w) A.in1 (Builtin.«set.__init__» ([.ref S,.ref l],[])) (λfin s'=>match fin with|.done f=>N (.ok f) s'|.again c=>c.quiet=true/\codeAny (model prog w) A c N s') (λe s'=>N (.error e) s') s:=by
 have L:l≠S:=by
  obtain⟨o,e,c,_⟩:=hl;intro z;subst z;rw[hS]at e;cases e;exact absurd (show Value.type "set" = Value.type "list" from c) (by decide)
 have lt:l<s.heap.objs.size:=by obtain⟨o,e,_⟩:=hl;exact Al e
 have t:S<s.heap.objs.size:=Al hS;obtain⟨⟨C,D,T,a⟩,g,h,r,d⟩:=id hl;simp only at h d;subst h d;have j:s.TypeIs (.ref S) "set":=(_,hS,rfl);have k:=F.sub_list_set;have K:=F.sub_list_frozenset;have p:(Value.type "list" == Value.type "dict")=false:=by decide
 unfold Builtin.«set.__init__» noKeywords Builtin.Frozenset.updateFrom;generalize hPI:pyIter=PI
 wp_walk
 subst hPI;refine wpAny_pyIter_list hl<|AA<|wpAny_runValue ?_;have n:l≠s.heap.objs.size:=As lt;have E:S ∉ [s.heap.objs.size,l]:=by
  simp only[Ar,FN,or_false,not_or];exact(As t,Ne.symm L)
 refine RV (Walks.list (by simp[hh]) _ l n its).toS S E (λi=>ns.getD i 0) (λi v e=>IntsAre.int_at hi i v (by rw[Array.getElem?_toList];exact e)) hb its.size 0 _ (by lia) (BZ _) ((_,BP _ rfl,rfl,rfl),hl.push _) ?_ λu m fin=>?_
 ·exact(_,#[],0,_,Au _ hS,(rfl,rfl,rfl),rfl,λe H=>by simp at H,by decide,by rfl,TabOk.fresh _,List.Perm.refl _,D9)
 ·rw[Moved.eq_with m]
  refine AH<|AH (q _ _ fin λb o hb e=>m.heap b o ?_<|Au _ e);simp only[Ar,FN,or_false,not_or];exact(hb,As<|Al e)
set_option maxHeartbeats 3200000 in
theorem Ti {l:Addr}{its:Array Value}{ns:List Int}{Q:AX}(hh:A.handled=none) (hl:s.heap.IsList l its) (hi:IntsAre its.toList ns) (hb:its.size+1<scanBound)
  (q:∀(h':Heap) (tk:Nat),SetI prog w h' s.heap.objs.size (metK (λi=>ns.getD i 0) its.size)->(∀b o,s.heap.get? b=some o->h'.get? b=some o)->Q (.ref s.heap.objs.size) { s with heap:=h',toks:=tk }) :
  wpAny (model prog w) A (call (.type "set") [.ref l]) Q E s:=by
 have t:=F.called_set;obtain⟨c,L,g⟩:=t.mro;have j:=t.made;have k:=t.sub;have m:=t.notType;have n:=t.canCreate;have p:=F.typeCall_set_1 (.ref l);refine wpAny_call<|codeAny_of_tree (show wpAny _ _ (callAny (.type "set") _) _ _ _ from AH (Code.quiet_builtin _ (by decide +kernel),codeAny_builtin F.entry_type_call ?_));rw[Around.under_plain (weight_type_call_type _ _ _) rfl]
 repeat (any_goals (first|assumption|wp_step))
 refine codeAny_mono (UO (.ref l) (E:=E) (N:=λv a=>v=.ref s.heap.objs.size/\a = { s with heap:=s.heap.push (set0 w) }) (rfl,rfl)) λr a H=>?_;cases r with
 |error e=>exact H
 |ok fl=>
  cases fl with
  |ret v=>
   obtain⟨rfl,rfl⟩:=H;have S:(s.heap.push<|set0 w).get? s.heap.objs.size=some (set0 w):=BP _ rfl;have T:Shared.TypeIs { s with heap:=s.heap.push (set0 w) } (.ref s.heap.objs.size) "set":=(_,S,rfl);have u:=t.init.lookup;have x:=t.init.bind (.ref s.heap.objs.size)
   repeat (any_goals (first|assumption|wp_step))
   refine codeAny_mono (codeAny_call_builtin (R:=wants (λr d=>r=.none/\Q (.ref s.heap.objs.size) d) E) t.init.plain F.entry_set_init<|check_set_init_1 T (Sf (by simp[hh]) S (hl.push _) hi hb λh' tk z Z=>(rfl,q h' tk z λb o e=>Z b o (As<|Al e)<|Au _ e))) λf d h=>?_;cases f with
   |error e=>exact h
   |ok fl2=>
    cases fl2 with
    |ret r=>
     obtain⟨rfl,y⟩:=h
     repeat (any_goals (first|assumption|wp_step))
    |_=>exact h.elim
  |_=>exact H.elim
end
end L2
namespace L2
open PySem PySem.Spec PyProof.Rows PySem.SeqAt
theorem Ds:PySem.Slot "set_iterator" "__next__" "set_iterator.__next__":=
 .of (owner:="set_iterator") (n:="__next__") (by rw[typeLookup_type,builtinLookup_eq_fast];kernel_rfl) (by decide +kernel) (by decide +kernel) (by decide +kernel)
  (by first|exact .inl (by decide +kernel)|exact .inr (by decide +kernel)) (by rw[isSubtype_type];kernel_rfl)
theorem Im:entryFor table "set_iterator.__next__" = some Builtin.«set_iterator.__next__»:=entryFor_of_tree (by kernel_rfl)
theorem Qs:entryFor table "set.__iter__" = some Builtin.«frozenset.__iter__»:=entryFor_alias (id':="frozenset.__iter__") (by kernel_rfl) rfl (by decide +kernel) (by kernel_rfl)
theorem Il (a:Value):argsOk "set_iterator.__next__" ([a],[]):=by
 unfold argsOk;kernel_rfl
abbrev setItO (first:Value) (i:Nat) (a:Addr) (n ep:Nat):Obj:={ cls:=.type "set_iterator",dict:=none,data:=.fields #[first,.int i 0,.ref a,.int n 0,.int ep 0],slots:=#[] }
section
variable {prog:Program}{w:World}{A:Around}{E:AX}{s:Shared}
theorem SI {slot i next:Nat}(hI:s.heap.get? I=some (setItO (.int slot 0) i a es.size ep)) (g:SetG prog w s.heap a o es ep t ks)
  (hn:∀(A:Around) (E:AX) (Q':Option (Value × Nat)->Shared->Prop),Q' (some (x,next)) s->wpAny (model prog w) A (setNext a slot i ep) Q' E s)
  (q:∀h',h'.get? I=some (setItO (.int next 0) (i+1) a es.size ep)->Heap.SameBut I s.heap h' -> Q (some x) { s with heap:=h' }):wpAny (model prog w) A (pyNext (.ref I)) Q E s:=by
 have T:s.TypeIs (.ref I) "set_iterator":=(_,hI,rfl);unfold pyNext;refine AA<|Ep<|wpAny_callSpecial?_slot (name:=Str.ofString "__next__") T Ds<|wpAny_call_entry Ds T Im ?_<|Il _;refine AA<|AH ?_;refine AA<|wpAny_fieldsOf hI rfl ?_;refine AA<|wpAny_setEntries_of g.get g.dat g.fit ?_;rw[AB (by simp)];refine AA<|hn _ _ _ ?_;refine AA (wpAny_setField_rec hI (by simp) λh e b=>?_);refine AA (wpAny_setField_rec (s:={ s with heap:=h }) e (by simp) λH c B=>?_);exact AH (_,rfl,AH<|q H (by rw[c];rfl)<|b.trans B)
theorem Rq {slot i:Nat}(hh:A.handled=none) (hI:s.heap.get? I=some (setItO (.int slot 0) i a es.size ep)) (g:SetG prog w s.heap a o es ep t ks)
  (hn:∀(A:Around) (E:AX) (Q':Option (Value × Nat)->Shared->Prop),Q' none s->wpAny (model prog w) A (setNext a slot i ep) Q' E s)
  (q:∀h',Heap.ExtBut I s.heap h' -> Q none { s with heap:=h' }):wpAny (model prog w) A (pyNext (.ref I)) Q E s:=by
 have h:s.TypeIs (.ref I) "set_iterator":=(_,hI,rfl);unfold pyNext;refine AA<|Ep<|wpAny_callSpecial?_slot (name:=Str.ofString "__next__") h Ds<|wpAny_call_entry Ds h Im ?_<|Il _;refine AA<|AH ?_;refine AA<|wpAny_fieldsOf hI rfl ?_;refine AA<|wpAny_setEntries_of g.get g.dat g.fit ?_;rw[AB (by simp)];refine AA<|hn _ _ _ ?_;refine AA (wpAny_setField_rec hI (by simp) λH e B=>AA ?_);simp only[newExc,newTuple];refine AA<|wpAny_newObj_type ?_ (by size_fits);refine AA (m:=firstArgMember _ _)<|wpAny_of_eq (a:=Value.none) (by first|rfl|(simp only[firstArgMember];rfl)) ?_;refine wpAny_newObj_type ?_ (by size_fits);simp only[raiseNew];refine AA<|wpAny_handled ?_;rw[show A.in1.handled=none from hh];refine AA<|AH<|wpAny_throw ?_;refine AA<|wpAny_isInstance (T:="StopIteration") (b:=true) (_,BP _ rfl,rfl) isSubtype_stop ?_;exact AH<|q _ ((B.extBut.push _).push _)
theorem Rh {pl:List Nat}(hI:s.heap.get? I=some (setItO (.ref T) i a es.size ep)) (g:SetG prog w s.heap a o es ep t ks)
  (hT:s.heap.get? T=some { cls:=.type "tuple",data:=.seq (pl.map λj:Nat=>rawInt (j:Int)).toArray }) (hk:pl[i]?=some k) (he:es[k]?=some e)
  (q:∀h',h'.get? I=some (setItO (.ref T) (i+1) a es.size ep)->Heap.SameBut I s.heap h' -> Q (some e.2) { s with heap:=h' }):wpAny (model prog w) A (pyNext (.ref I)) Q E s:=by
 have y:s.TypeIs (.ref I) "set_iterator":=(_,hI,rfl);unfold pyNext;refine AA<|Ep<|wpAny_callSpecial?_slot (name:=Str.ofString "__next__") y Ds<|wpAny_call_entry Ds y Im ?_<|Il _;refine AA<|AH ?_;refine AA<|wpAny_fieldsOf hI rfl ?_;refine AA<|wpAny_setEntries_of g.get g.dat g.fit ?_;rw[AB (by simp)];refine AA<|wpAny_seqItems hT rfl ?_;have c:(pl.map λj:Nat=>rawInt (j:Int)).toArray[(i:Int).toNat]?=some (.int (k:Int) 0):=by
  rw[Bi,Gw,AZ,hk];rfl
 dsimp only;rw[c];dsimp only;unfold setNextDrawn;refine AA<|AA<|wpAny_setState_of g.get g.dat g.fit ?_;dsimp only;rw[AB (by simp)];rw[show es[(k:Int).toNat]?=some e from by rw[Bi];exact he];obtain⟨c,d⟩:=e;refine AH ?_;refine AA (wpAny_setField_rec hI (by simp) λh b B=>?_);exact AH (_,rfl,AH<|q h (by rw[b];rfl) B)
theorem Qt {pl:List Nat}(hh:A.handled=none) (hI:s.heap.get? I=some (setItO (.ref T) i a es.size ep)) (g:SetG prog w s.heap a o es ep t ks)
  (hT:s.heap.get? T=some { cls:=.type "tuple",data:=.seq (pl.map λj:Nat=>rawInt (j:Int)).toArray }) (hk:pl[i]?=none)
  (q:∀h',Heap.ExtBut I s.heap h' -> Q none { s with heap:=h' }):wpAny (model prog w) A (pyNext (.ref I)) Q E s:=by
 have y:s.TypeIs (.ref I) "set_iterator":=(_,hI,rfl);unfold pyNext;refine AA<|Ep<|wpAny_callSpecial?_slot (name:=Str.ofString "__next__") y Ds<|wpAny_call_entry Ds y Im ?_<|Il _;refine AA<|AH ?_;refine AA<|wpAny_fieldsOf hI rfl ?_;refine AA<|wpAny_setEntries_of g.get g.dat g.fit ?_;rw[AB (by simp)];refine AA<|wpAny_seqItems hT rfl ?_;have e:(pl.map λj:Nat=>rawInt (j:Int)).toArray[(i:Int).toNat]?=none:=by
  rw[Bi,Gw,AZ,hk];rfl
 dsimp only;rw[e];dsimp only;refine AA (wpAny_setField_rec hI (by simp) λh e B=>?_);refine AA (wpAny_setField_rec (s:={ s with heap:=h }) e (by simp) λH c S=>AA ?_);simp only[newExc,newTuple];refine AA<|wpAny_newObj_type ?_ (by size_fits);refine AA (m:=firstArgMember _ _)<|wpAny_of_eq (a:=Value.none) (by first|rfl|(simp only[firstArgMember];rfl)) ?_;refine wpAny_newObj_type ?_ (by size_fits);simp only[raiseNew];refine AA<|wpAny_handled ?_;rw[show A.in1.handled=none from hh];refine AA<|AH<|wpAny_throw ?_;refine AA<|wpAny_isInstance (T:="StopIteration") (b:=true) (_,BP _ rfl,rfl) isSubtype_stop ?_;exact AH<|q _ (((B.trans S).extBut.push _).push _)
theorem ND (a:Addr) (slot given ep:Nat):setNext a slot given ep=(do
  let (es,epoch,t) <- setState a
  if <- setsByText then
   if epoch != ep then unsupported "set_iterator.__next__:elements-changed"
   return ((<- setWalk a)[given]?).map λe=>(e.2,slot)
  if !t.plain && es.size > 1 then unsupported "set_iterator.__next__:the-table-is-plain-no-more"
  let _ <- (if !t.led && !es.isEmpty then unsupported "set:maker-not-led" else pure ():Sem Unit)
  let i:=SetTable.below t.place slot
  return match es[i]?,t.place[i]? with
   |some (_,x),some j=>some (x,j+1)
   |_,_=>none):=rfl
theorem SA (a:Addr):setWalk a=(do
  let (es,epoch,t) <- setState a
  if <- setsByText then return pickOrder ((<- ask).params.setOrder a epoch) es
  if !t.plain && es.size > 1 then return (<- drawOrder es.size es.toList).toArray
  let _ <- (if !t.led && es.size > 1 then unsupported "set:maker-not-led" else pure ():Sem Unit)
  return es):=rfl
theorem RQ (a:Addr):setDrawn a=(do
  let (es,_,t) <- setState a
  let byText <- setsByText
  return !byText && (!t.plain && es.size > 1)):=rfl
end
theorem Mg:PySem.Slot "set_iterator" "__iter__" "set_iterator.__iter__":=
 .of (owner:="set_iterator") (n:="__iter__") (by rw[typeLookup_type,builtinLookup_eq_fast];kernel_rfl) (by decide +kernel) (by decide +kernel) (by decide +kernel)
  (by first|exact .inl (by decide +kernel)|exact .inr (by decide +kernel)) (by rw[isSubtype_type];kernel_rfl)
theorem Qj:entryFor table "set_iterator.__iter__" = some Builtin.«dict_keyiterator.__iter__»:=entryFor_alias (id':="dict_keyiterator.__iter__") (by kernel_rfl) rfl (by decide +kernel) (by kernel_rfl)
theorem Qm (a:Value):argsOk "set_iterator.__iter__" ([a],[]):=by unfold argsOk;kernel_rfl
section
variable {prog:Program}{w:World}{A:Around}{E:AX}{s:Shared}
theorem NC (hI:s.heap.get? I=some (setItO first i a n ep)) (q:Q (.ref I) s):wpAny (model prog w) A (pyIter (.ref I)) Q E s:=by
 have T:s.TypeIs (.ref I) "set_iterator":=(_,hI,rfl);refine wpAny_pyIter_slot T Mg<|wpAny_call_entry Mg T Qj ?_<|Qm _;show wpAny _ _ (ret (.ref I)) _ _ s;exact AH (_,rfl,"set_iterator",_,T,Ds.lookup,q)
theorem JF (q:Q (byTextB w) s):wpAny (model prog w) A setsByText Q E s:=by
 unfold setsByText;exact AA<|wpAny_askSetting<|AH q
theorem Nh (hb:byTextB w=true) (g:SetG prog w s.heap a o es ep t ks)
  (q:Q (((pickOrder (w.params.setOrder a ep) es)[given]?).map λe=>(e.2,slot)) s):wpAny (model prog w) A (setNext a slot given ep) Q E s:=by
 rw[ND];refine AA<|wpAny_setState_of g.get g.dat g.fit<|AA<|JF ?_;rw[hb];simp only[if_true];rw[AB (by simp),SA];refine AA<|AA<|wpAny_setState_of g.get g.dat g.fit<|AA<|JF ?_;rw[hb];simp only[if_true];exact AA<|wpAny_askSetting<|AH<|AH q
theorem NB (hb:byTextB w=false) (g:SetG prog w s.heap a o es ep t ks) (hd:(!t.plain && decide (es.size > 1))=false)
  (q:Q (match es[SetTable.below t.place slot]?,t.place[SetTable.below t.place slot]? with|some (_,x),some j=>some (x,j+1)|_,_=>none) s):wpAny (model prog w) A (setNext a slot given ep) Q E s:=by
 have l:t.led=true:=by rw[g.tab.led,hb];rfl
 rw[ND];refine AA<|wpAny_setState_of g.get g.dat g.fit<|AA<|JF ?_;rw[hb];simp only[Av,if_false,hd,l,DV,Dn];exact AA<|AH<|AH q
theorem K8 {α:Type}:∀{l:List α}{i:Nat}(h:i<l.length),(l[i]::l.eraseIdx i).Perm l
 |x::l,0,_=>List.Perm.refl _
 |x::l,i+1,h=>by
  have H:i<l.length:=by simpa using h
  show (l[i]::x::l.eraseIdx i).Perm (x::l);exact(List.Perm.swap _ _ _).trans (List.Perm.cons _<|K8 H)
theorem Pm (next:Nat->Nat):∀(fuel k:Nat) (left:List α) (out:Array α),left.length=fuel->(pickOrder.go next fuel k left out).toList.Perm (out.toList++left)
 |0,k,left,out,h=>by
  have:left=[]:=Es h;subst this;unfold pickOrder.go;rw[Bs]
 |fuel+1,k,left,out,h=>by
  unfold pickOrder.go;have i:next k % left.length<left.length:=EB _ (by lia)
  rw[AQ i];dsimp only;refine(Pm next fuel (k+1) _ _ (by rw[List.length_eraseIdx_of_lt i];lia)).trans ?_;rw[Array.toList_push,Ba];refine List.Perm.append_left _ ?_;exact K8 i
theorem S4 (next:Nat->Nat) (xs:Array α):(pickOrder next xs).toList.Perm xs.toList:=by
 unfold pickOrder;exact Pm next xs.size 0 xs.toList #[] (by simp)
def slotAt (pl:Array Nat):Nat->Nat
 |0=>0
 |j+1=>pl.getD j 0+1
theorem Mp (R:DP pl) (hj:j<=pl.size):SetTable.below pl (slotAt pl j)=j:=by
 obtain⟨a,b,B⟩:=Iq R<|slotAt pl j;cases j with
 |zero=>
  apply Classical.byContradiction;intro h;have t:0<pl.size:=by lia
  have:=b 0 _ (by lia)<|Array.getElem?_eq_getElem t;exact absurd this (by show ¬ _<0;lia)
 |succ j=>
  have t:j<pl.size:=by lia
  have g:pl.getD j 0=pl[j]:=by simp[Array.getD,t]
  have s:slotAt pl (j+1)=pl[j]+1:=by show pl.getD j 0+1=_;rw[g]
  rw[s]at a b B ⊢;rcases IX (SetTable.below pl<|pl[j]+1) (j+1) with z|z|z
  ·have:=B j _ (by lia) (Array.getElem?_eq_getElem t)
   lia
  ·exact z
  ·have l:j+1<pl.size:=by lia
   have H:=b (j+1) _ z<|Array.getElem?_eq_getElem l;have c:=R j (j+1) _ _ (by lia) (Array.getElem?_eq_getElem t)<|Array.getElem?_eq_getElem l;lia
theorem SetG.keep (g:SetG prog w h a o es ep t ks) (k:∀o,h.get? a=some o->h'.get? a=some o):SetG prog w h' a o es ep t ks:=
 (k _ g.get,g.ex,g.dat,g.el,g.room,g.fit,g.tab,g.perm,g.nd)
theorem NN (hh:A.handled=none) {I a:Addr}(hne:a≠I) {o:Obj}{es:Array (Int × Value)}{ep:Nat}{t:SetTable}{ks:List Int}(sl:Nat->Nat) (L:List (Int × Value))
  (hs:∀(s:Shared) j e,SetG prog w s.heap a o es ep t ks->L[j]?=some e->∀(A:Around) (E:AX) (Q':Option (Value × Nat)->Shared->Prop),Q' (some (e.2,sl (j+1))) s->wpAny (model prog w) A (setNext a (sl j) j ep) Q' E s)
  (hd:∀(s:Shared),SetG prog w s.heap a o es ep t ks->∀(A:Around) (E:AX) (Q':Option (Value × Nat)->Shared->Prop),Q' none s->wpAny (model prog w) A (setNext a (sl L.length) L.length ep) Q' E s) :
  Walks prog w A I [I,a] [I] L.length (λj v=>∃e,L[j]?=some e/\v=e.2) (λj h=>h.get? I=some (setItO (.int (sl j) 0) j a es.size ep)/\SetG prog w h a o es ep t ks) where
 sub:=λb B=>by simp at B;simp[B]
 frame:=λ_ _ _ T k=>(k I (by simp) _ T.1,T.2.keep λo e=>k a (by simp) o e)
 item:=λi s Q E d T H=>by
  refine SI T.1 T.2 (hs s i _ T.2<|AQ d) λc e S=>?_;refine H _ c s.toks (_,AQ d,rfl) (e,T.2.keep λo q=>(S.2 a hne).trans q) λb o B q=>(S.2 b λz=>B (by simp[z])).trans q
 done:=λs Q E T H=>Rq hh T.1 T.2 (hd s T.2) λc f=>H c s.toks λb o B e=>f b o (λz=>B (by simp[z])) e
 self:=λ_ _ _ _ T H=>NC T.1 H
theorem RF (hh:A.handled=none) {I a T:Addr}(hne:a≠I) (hnt:T≠I) {o:Obj}{es:Array (Int × Value)}{ep:Nat}{t:SetTable}{ks:List Int}(pl:List Nat) (L:List (Int × Value)) (hl:L.length=pl.length) (hs:∀(j k:Nat) e,pl[j]?=some k->L[j]?=some e->es[k]?=some e) :
  Walks prog w A I [I,a,T] [I] L.length (λj v=>∃e,L[j]?=some e/\v=e.2) (λj h=>h.get? I=some (setItO (.ref T) j a es.size ep)/\SetG prog w h a o es ep t ks/\h.get? T=some { cls:=.type "tuple",data:=.seq (pl.map λj:Nat=>rawInt (j:Int)).toArray }) where
 sub:=λb B=>by simp at B;simp[B]
 frame:=λ_ _ _ S K=>(K I (by simp) _ S.1,S.2.1.keep λo e=>K a (by simp) o e,K T (by simp) _ S.2.2)
 item:=λi s Q E f S H=>by
  have p:i<pl.length:=by lia
  refine Rh S.1 S.2.1 S.2.2 (AQ p) (hs i _ _ (AQ p)<|AQ f) λc e d=>?_;refine H _ c s.toks (_,AQ f,rfl) (e,S.2.1.keep λo q=>(d.2 a hne).trans q,(d.2 T hnt).trans S.2.2) λb o B q=>(d.2 b λz=>B (by simp[z])).trans q
 done:=λs Q E S H=>Qt hh S.1 S.2.1 S.2.2 (EL<|by lia) λc g=>H c s.toks λb o B e=>g b o (λz=>B (by simp[z])) e
 self:=λ_ _ _ _ S H=>NC S.1 H
theorem Su (hn:n≠0) (q:∀k dr,k<n->Q k { s with drawn:=dr }):wpAny (model prog w) A (choose src n) Q E s:=by
 intro Γ p _;unfold choose;rw[Sem.wp_choose];refine(hn,?_);show Sem.wp _ _ (Sem.pure _) _ _ _ _
 first|rw[Sem.wp_pure]|simp only[Sem.wp]
 exact q _ _<|EB _<|Nat.pos_of_ne_zero hn
theorem Pl:∀(n:Nat) {s:Shared}{xs:List Nat}{Q:List Nat->Shared->Prop},xs.length=n->(∀ys dr,ys.Perm xs->Q ys { s with drawn:=dr })->wpAny (model prog w) A (drawOrder n xs) Q E s
 |0,s,xs,Q,h,q=>by
  have:xs=[]:=Es h;subst this;unfold drawOrder;exact AH<|q [] s.drawn<|List.Perm.refl _
 |n+1,s,[],Q,h,q=>by simp at h
 |n+1,s,x::xs,Q,h,q=>by
  unfold drawOrder;refine AA (Su (by simp) λk dr K=>?_);rw[AQ K];refine AA (Pl n (by rw[List.length_eraseIdx_of_lt K];lia) λys r y=>AH<|q _ r ?_);exact(List.Perm.cons _ y).trans (K8 K)
end
section
variable {prog:Program}{w:World}{A:Around}{E:AX}{s:Shared}
structure SWalk (prog:Program) (w:World) (A:Around) (a:Addr) (es:Array (Int × Value)) (s s1:Shared) (I:Addr) where
 fp:List Addr
 L:List (Int × Value)
 St:Nat->Heap->Prop
 old:∀b o,s.heap.get? b=some o->s1.heap.get? b=some o
 new:s.heap.objs.size<=I
 fpo:∀b∈fp,b=a\/s.heap.objs.size<=b
 perm:L.Perm es.toList
 W:Walks prog w A I fp [I] L.length (λj v=>∃e,L[j]?=some e/\v=e.2) St
 st:St 0 s1.heap
theorem Rp (es:Array (Int × Value)):(AR es.size).map (λk=>es.getD k (0,.none))=es.toList:=by
 apply List.ext_getElem
 ·simp
 ·intro i h1 h2
  simp only[List.getElem_map,Eu,Array.getElem_toList];simp only[Array.length_toList]at h2;simp[Array.getD,h2]
theorem set_iter (hh:A.handled=none) (g:SetG prog w s.heap a o es ep t ks)
  (q:∀(h1:Heap) dr (I:Addr),Nonempty (SWalk prog w A a es s { s with heap:=h1,drawn:=dr } I)->Q (.ref I) { s with heap:=h1,drawn:=dr }):wpAny (model prog w) A (pyIter (.ref a)) Q E s:=by
 have T:s.TypeIs (.ref a) "set":=(o,g.get,g.ex.1);have l:a<s.heap.objs.size:=Al g.get;have n:a≠s.heap.objs.size:=As l;have N:a≠s.heap.objs.size+1:=As<|Cw l;have m:es.size<=sizeLine:=by
  have:=g.room;rw[sizeLine_eq];unfold scanBound at this;lia
 refine wpAny_pyIter_slot T F.slot_set_iter<|wpAny_call_entry F.slot_set_iter T Qs ?_<|F.args_set_iter_1 _;unfold Builtin.«frozenset.__iter__» Builtin.Frozenset.slot0 slotArgs;simp only[KS,DV,Av,↓reduceIte,bind_assoc,DE,bne_self_eq_false];unfold Builtin.Frozenset.addrOf Builtin.Frozenset.sizeOf;refine AA<|AH ?_
 try dsimp only
 refine AA<|AH ?_;refine AA<|AA<|wpAny_setEntries_of g.get g.dat g.fit<|AH ?_;rw[RQ];refine AA<|AA<|wpAny_setState_of g.get g.dat g.fit<|AA<|JF<|AH ?_;by_cases hd:(!byTextB w && (!t.plain && decide (es.size > 1)))=true
 ·have D:=hd
  rw[AD hd];refine AA (Pl es.size (by simp) λy dr Y=>?_);have L:=Y.length_eq;rw[BS]at L;refine AA<|wpAny_newTuple ?_ (by rw[AK,L];exact m);have G:=g.keep (h':=s.heap.push<|seqObj "tuple" (y.map λi:Nat=>rawInt (i:Int)).toArray 0) λo e=>Au _ e;refine AA<|wpAny_setEpoch_of G.get G.dat G.fit ?_;refine AA<|wpAny_newObj_type ?_ (by size_fits);have z:(s.heap.push<|seqObj "tuple" (y.map λi:Nat=>rawInt (i:Int)).toArray 0).objs.size=s.heap.objs.size+1:=size_push' _ _;have H:((s.heap.push<|seqObj "tuple" (y.map λi:Nat=>rawInt (i:Int)).toArray 0).push (setItO (.ref s.heap.objs.size) 0 a es.size ep)).get? (s.heap.objs.size+1)=some (setItO (.ref s.heap.objs.size) 0 a es.size ep):=by
   rw[<- z];exact BP _ rfl
  have u:((s.heap.push<|seqObj "tuple" (y.map λi:Nat=>rawInt (i:Int)).toArray 0).push (setItO (.ref s.heap.objs.size) 0 a es.size ep)).get? s.heap.objs.size=some { cls:=.type "tuple",data:=.seq (y.map λj:Nat=>rawInt (j:Int)).toArray }:=
   Au _ (BP _ rfl)
  show wpAny _ _ (ret (.ref (s.heap.push<|seqObj "tuple" (y.map λi:Nat=>rawInt (i:Int)).toArray 0).objs.size)) _ _ { s with heap:=(s.heap.push<|seqObj "tuple" (y.map λi:Nat=>rawInt (i:Int)).toArray 0).push (setItO (.ref s.heap.objs.size) 0 a es.size ep),drawn:=dr };rw[z];refine AH (_,rfl,"set_iterator",_,(_,H,rfl),Ds.lookup,?_);have c:∀k∈y,k<es.size:=λk K=>Ax.mp<|Y.mem_iff.mp K;have f:(y.map λk=>es.getD k (0,.none)).length=y.length:=AK _;refine q _ dr (s.heap.objs.size+1) ⟨([s.heap.objs.size+1,a,s.heap.objs.size],y.map λk=>es.getD k (0,.none),_,λb o e=>Au _<|Au _ e,Dq _,?_,?_,RF hh N (As<|Nat.lt_succ_self _) y _ f ?_,H,G.keep λo e=>Au _ e,u)⟩
  ·intro b B
   simp only[Ar,FN,or_false]at B;rcases B with h|h|h
   ·exact .inr (by rw[h];exact Dq _)
   ·exact .inl h
   ·exact .inr<|IL h.symm
  ·exact(Y.map _).trans (List.Perm.of_eq<|Rp es)
  ·intro j k e h1 h2
   rw[AZ,h1]at h2;cases h2;have:=c k<|Bk h1;simp[Array.getD,this]
 ·rw[AB hd]
  refine AA<|AH ?_;refine AA<|wpAny_setEpoch_of g.get g.dat g.fit ?_;refine AA<|wpAny_newObj_type ?_ (by size_fits);have H:(s.heap.push<|setItO (.int 0 0) 0 a es.size ep).get? s.heap.objs.size=some (setItO (.int 0 0) 0 a es.size ep):=BP _ rfl;refine AH (_,rfl,"set_iterator",_,(_,H,rfl),Ds.lookup,?_);have G:=g.keep (h':=s.heap.push<|setItO (.int 0 0) 0 a es.size ep) λo e=>Au _ e;have p:∀b∈[s.heap.objs.size,a],b=a\/s.heap.objs.size<=b:=λb B=>by
   simp at B;rcases B with h|h
   ·right;lia
   ·exact .inl h
  cases B:byTextB w with
  |true=>
   refine q _ s.drawn s.heap.objs.size ⟨([s.heap.objs.size,a],(pickOrder (w.params.setOrder a ep) es).toList,_,λb o e=>Au _ e,AS _,p,S4 _ _,NN hh n (λ_=>0) _ ?_ ?_,H,G)⟩
   ·intro s j e g he A E Q' hq
    refine Nh B g ?_;rw[Array.getElem?_toList]at he;rw[he];exact hq
   ·intro s g A E Q' hq
    refine Nh B g ?_;rw[Array.getElem?_eq_none (by simp)];exact hq
  |false=>
   have d:(!t.plain && decide (es.size > 1))=false:=by
    rw[B]at hd;simpa using hd
   have S:t.place.size=es.size:=by
    have:=g.fit;unfold SetTable.fits at this;simp only[Cj,beq_iff_eq]at this;exact this.1
   refine q _ s.drawn s.heap.objs.size ⟨([s.heap.objs.size,a],es.toList,_,λb o e=>Au _ e,AS _,p,List.Perm.refl _,NN hh n (slotAt t.place) _ ?_ ?_,H,G)⟩
   ·intro s j e g he A E Q' hq
    refine NB B g d ?_;rw[Array.getElem?_toList]at he;have J:=(Array.getElem?_eq_some_iff.mp he).1;rw[Mp g.tab.ris (by lia),he,Array.getElem?_eq_getElem (by lia)];have:slotAt t.place (j+1)=t.place[j]+1:=by
     show t.place.getD j 0+1=_;simp[Array.getD,show j<t.place.size by omega]
    rw[this]at hq;exact hq
   ·intro s g A E Q' hq
    refine NB B g d ?_;rw[Array.length_toList,Mp g.tab.ris (IL S.symm),Array.getElem?_eq_none (AS _)];exact hq
end
section
variable {prog:Program}{w:World}{A:Around}{E:AX}{s:Shared}
theorem UU (hT:s.TypeIs (.ref r) "set") (h:Q false s):wpAny (model prog w) A (Builtin.List.listLengthHint (.ref r)) Q E s:=by
 unfold Builtin.List.listLengthHint;refine AA<|wpAny_specialOf hT F.slot_set_len.lookup ?_;generalize hid:("set.__len__":String)=nm
 wp_delta
 rw[show splitId nm=some ("set","__len__") by subst hid;decide +kernel];subst hid;refine AA<|wpAny_isInstance (T:="set") (b:=true) hT (by rw[isSubtype_type];kernel_rfl) ?_;refine wpAny_ite_split (λz=>absurd z<|by decide) λ_=>?_;refine wpAny_ite_split (λ_=>AA<|wpAny_typeOf hT<|AH h) λz=>absurd (by decide +kernel) z
theorem RJ {L:List (Int × Value)}(h:ItemsOf (λj v=>∃e,L[j]?=some e/\v=e.2) acc L.length):acc.toList=L.map (·.2):=by
 obtain⟨b,H⟩:=h;apply DR;intro i;rw[Array.getElem?_toList,AZ];by_cases hi:i<acc.size
 ·obtain⟨e,E,a⟩:=H i _ (Array.getElem?_eq_getElem hi)
  rw[E,Array.getElem?_eq_getElem hi,a];rfl
 ·rw[Array.getElem?_eq_none (by lia),EL (by lia)];rfl
theorem R9 {R:Result->Shared->Prop}{a S:Addr}{o:Obj}{es:Array (Int × Value)}{ep c₀:Nat}{t:SetTable}{ks:List Int}(hh:A.handled=none) (g:SetG prog w s.heap a o es ep t ks) (hSa:S≠a) (res:Value) (hS:s.heap.get? S=some { cls:=.type "list",data:=.seq #[] c₀ })
  (hR:∀h' tk dr c' (L:List (Int × Value)),(∀b o,b≠S->s.heap.get? b=some o->h'.get? b=some o)->L.Perm es.toList->h'.get? S=some { cls:=.type "list",dict:=none,data:=.seq (L.map (·.2)).toArray c',slots:=#[] } -> R (.ok (.ret res)) { s with heap:=h',toks:=tk,drawn:=dr }) :
  wpAny (model prog w) A.in1 (Builtin.List.listExtendWith (.ref S) (.ref a) res)
   (λfin s'=>match fin with|.done f=>R (.ok f) s'|.again c'=>c'.quiet=true/\codeAny (model prog w) A c' R s') (λe s'=>R (.error e) s') s:=by
 have r:s.TypeIs (.ref a) "set":=(o,g.get,g.ex.1);have l:S<s.heap.objs.size:=Al hS;unfold Builtin.List.listExtendWith;refine AA<|wpAny_typeOf (T:="set") r ?_;have j:Builtin.List.listSameRef (.ref S) (.ref a)=false:=by simp[Builtin.List.listSameRef,hSa]
 have n:(Value.type "set" == Value.type "list")=false:=by decide +kernel
 have p:(Value.type "set" == Value.type "tuple")=false:=by decide +kernel
 simp only[j,n,p,Bool.or_false,Av,if_false];refine AA (set_iter hh g λj dr I ⟨K⟩=>?_);have q:=K.perm.length_eq;have N:K.L.length<=sizeLine:=by
  have:=g.room;rw[q,Array.length_toList,sizeLine_eq];unfold scanBound at this;lia
 have H:S ∉ K.fp:=λz=>by
  rcases K.fpo S z with z|z
  ·exact hSa z
  ·exact absurd l<|Nat.not_lt.mpr z
 have y:∀(h:Heap) (c₁ tk:Nat),K.St 0 h->(∀b o,b≠S->s.heap.get? b=some o->h.get? b=some o) ->
   h.get? S=some { cls:=.type "list",data:=.seq #[] c₁ } -> codeAny (model prog w) A (.builtin "list.extend.loop" ([.ref S,.ref I,res],[])) R { s with heap:=h,toks:=tk,drawn:=dr }:=by
  intro h c₁ tk hst hk hS₁;refine codeAny_extend_loopS K.W.toS N S H res _ 0 _ #[] c₁ rfl (BZ _) hst hS₁ (ItemsOf.nil _) λs' C c' M i c=>?_;rw[Moved.eq_with M];have k:=RJ c;refine hR s'.heap s'.toks dr c' K.L (λb o B e=>M.heap b o (λm=>?_)<|hk b o B e) K.perm ?_
  ·rcases Ar.mp m with E|m
   ·exact B E
   ·exact absurd (Al e) (by rw[Bc.mp m];exact Nat.not_lt.mpr K.new)
  ·rw[<- k,Array.toArray_toList];exact i
 have hS₁:=K.old _ _ hS;refine AA<|Bq<|UU (o,K.old _ _ g.get,g.ex.1) ?_;refine wpAny_ite_split (λ_=>?_) λ_=>AH (plainId_quiet F.plain_extend_loop _,y _ c₀ _ K.st (λb o _ e=>K.old _ _ e) hS₁);refine AA<|DO ?_;refine AA ?_;show wpAny _ _ (updateSeq S (·.push .none) >>= λ_=>updateSeq S (·.pop)) _ _ _;refine AA<|wpAny_updateSeq hS₁ rfl ?_;have hS₂:=EM (Obj.mapSeq (·.push Value.none)) hS₁ rfl;refine wpAny_updateSeq (hz:=by seq_fits) hS₂ rfl ?_;have hS₃:=EM (Obj.mapSeq (·.pop)) hS₂ rfl;refine AH (plainId_quiet F.plain_extend_loop _,y _ _ _ ?_ (λb o B e=>?_) hS₃)
 ·refine K.W.frame 0 _ _ K.st λb B o e=>?_
  have d:S≠b:=λh=>H (h ▸ B);exact(EK _ _ d).trans ((EK _ _ d).trans e)
 ·exact(EK _ _<|Ne.symm B).trans ((EK _ _<|Ne.symm B).trans (K.old _ _ e))
theorem RN {R:List Value->Shared->Prop}{a:Addr}{o:Obj}{es:Array (Int × Value)}{ep:Nat}{t:SetTable}{ks:List Int}(hh:A.handled=none) (g:SetG prog w s.heap a o es ep t ks)
  (h:∀(h':Heap) (tk:Nat) dr (L:List (Int × Value)),(∀b o,s.heap.get? b=some o->h'.get? b=some o)->s.heap.objs.size<h'.objs.size->L.Perm es.toList->R (L.map (·.2)) { s with heap:=h',toks:=tk,drawn:=dr }) :
  wpAny (model prog w) A (collect (.ref a)) R E s:=by
 have T:a<s.heap.objs.size:=Al g.get;unfold collect;refine AA<|wpAny_runValue<|codeAny_builtin entry_proto_collect' ?_;rw[Around.under_plainId F.plain_proto_collect _];show wpAny _ A.in1 (newList [] >>= λl=>again (.builtin "list.__iadd__" ([l,.ref a],[]))) _ _ s;refine AA<|wpAny_newList ?_;refine AH (plainId_quiet F.plain_list_iadd _,codeAny_builtin entry_list_iadd' ?_);rw[Around.under_plainId F.plain_list_iadd _];show wpAny _ A.in1 (Builtin.List.listExtendWith (.ref s.heap.objs.size) (.ref a) (.ref s.heap.objs.size)) _ _ _;have hS₁:(s.heap.push<|seqObj "list" ([]:List Value).toArray 0).get? s.heap.objs.size=some { cls:=.type "list",data:=.seq #[] 0 }:=BP _ rfl;have z:=R9 (A:=A) (s:={ s with heap:=s.heap.push (seqObj "list" ([]:List Value).toArray 0) })
  (R:=λ(q:Result) (d:Shared)=>∃(h':Heap) (tk:Nat) (dr:_) (c:Nat) (L:List (Int × Value)),q=.ok (.ret (.ref s.heap.objs.size))/\d = { s with heap:=h',toks:=tk,drawn:=dr } /\
   (∀b o,s.heap.get? b=some o->h'.get? b=some o)/\L.Perm es.toList/\h'.get? s.heap.objs.size=some { cls:=.type "list",dict:=none,data:=.seq (L.map (·.2)).toArray c,slots:=#[] })
  hh (g.keep λo e=>Au _ e) (E2 T) (.ref s.heap.objs.size) hS₁
  λh' tk dr c L k p S=>(h',tk,dr,c,L,rfl,rfl,λb o e=>k b o (As<|Al e)<|Au _ e,p,S)
 refine Dz z (λn d x=>?_) λe d x=>?_
 ·cases n with
  |done f=>
   obtain⟨h',tk,dr,c,L,e,rfl,k,p,S⟩:=x;cases e;show wpAny _ A (load s.heap.objs.size >>= _) _ _ _;refine AA<|wpAny_load S ?_;exact AH<|h h' tk dr L k (Al S) p
  |again c₁=>
   refine(x.1,codeAny_mono x.2 λq s₂ y=>?_);obtain⟨h',tk,dr,c,L,rfl,rfl,k,p,S⟩:=y;show wpAny _ A (load s.heap.objs.size >>= _) _ _ _;refine AA<|wpAny_load S ?_;exact AH<|h h' tk dr L k (Al S) p
 ·obtain⟨h',tk,dr,c,L,e,_⟩:=x
  cases e
theorem My:∀{vs:List Value},(∀v∈vs,∃t,v=.int (numOf v) t)->IntsAre vs (vs.map numOf)
 |[],_=>.nil
 |v::vs,h=>by
  obtain⟨t,e⟩:=h v (by simp);have:=My (vs:=vs) λu U=>h u<|BQ _ U;rw[BX];generalize numOf v=n at e ⊢;subst e;exact .cons _ t this
theorem R4 {a:Addr}{ks:List Int}{Q:AX}(hh:A.handled=none) (hS:SetI prog w s.heap a ks) (h64:ks.length<64)
  (h:∀(h':Heap) (tk:Nat) dr (l:Addr) (out:List Value) (ms:List Int) (c:Nat),(∀b o,s.heap.get? b=some o->h'.get? b=some o)->s.heap.objs.size<=l->h'.get? l=some (seqObj "list" out.toArray c)->IntsAre out ms->ms.Perm ks->ms.Pairwise (· <= ·)->Q (.ref l) { s with heap:=h',toks:=tk,drawn:=dr }) :
  wpAny (model prog w) A (call (.builtin "sorted") [.ref a]) Q E s:=by
 obtain⟨o,S,P,t,g⟩:=hS;refine Calls.call_function_entry kind_sorted plain_sorted entry_sorted (args_sorted1 _) ?_;unfold Builtin.«sorted»;refine AA (m:=checkCount "sorted" 1 1 _)<|AH ?_;refine AA (RN hh g λh' tk dr L K z p=>?_);have I:IntsAre (L.map (·.2)) ((L.map (·.2)).map numOf):=My λv V=>by
  obtain⟨e,j,rfl⟩:=Af.mp V;exact OM g.el<|p.mem_iff.mp j
 have k:((L.map (·.2)).map numOf).Perm ks:=by
  rw[A5];exact(p.map _).trans g.perm
 have n:(L.map (·.2)).length<64:=by
  have:=k.length_eq;rw[AK]at this;lia
 refine AA<|wpAny_newList ?_ (by rw[sizeLine_eq];lia);have O:(h'.push<|seqObj "list" (L.map (·.2)).toArray 0).get? h'.objs.size=some (seqObj "list" (L.map (·.2)).toArray 0):=BP _ rfl;refine AA<|Bq<|wpAny_call_entry slot_list_sort (_,O,rfl) entry_list_sort (list_sort_tree O I n λout ms d f i=>(_,rfl,?_))<|args_list_sort _;obtain⟨c,C⟩:=sortedHeap_at (out:=out) O;refine AH (_,rfl,h _ tk dr _ out.toList ms c (λb o e=>?_) (DW z) (by rw[Array.toArray_toList];exact C) d (f.trans k) i);have H:=K b o e;have B:=Al H;rw[sortedHeap_old (As B) (by rw[size_push'];exact Cw B)];exact Au _ H
end
section
variable {X:Cx}
theorem AG.drew (I:AG X pins Z H s) (dr:_):AG X pins Z H { s with drawn:=dr }:=
 (I.ok,I.os,I.bare,I.base,I.loc,I.cell,I.free,I.freeC,I.pin,I.hok,I.len)
theorem TZ {ms:List Int}(h1:ms.Pairwise (· <= ·)) (h2:ms.Nodup):ms.Pairwise (· < ·):=by
 have:=List.Pairwise.and h1 h2;exact this.imp λq=>by obtain⟨a,b⟩:=q;lia
theorem Qx {ns:List Int}:x∈metK (λi=>ns.getD i 0) ns.length↔x∈ns:=by
 rw[Uy];constructor
 ·rintro⟨j,J,rfl⟩
  rw[Ao,AQ J];exact Br J
 ·intro h
  obtain⟨j,J,rfl⟩:=KN h;exact(j,J,by rw[Ao,AQ J];rfl)
def tSS (K:W.Frag) (ta:TA):TE:=λZ H Q=>ta Z H λs h=>∃(p:Addr) (ns:List Int),s=[.ref p]/\SqL K h p (ns.map V.int)/\ns.length<64/\∀(l:Addr) (ms:List Int),ms.Pairwise (· < ·)->(∀x,x∈ms↔x∈ns)->h l=none->Q (.ref l) (upd h l (.lst<|ms.map V.int))
theorem NM {a:Expr}{ta:TA}{p p2 pos pos2:Pos}{K:W.Frag}(hK:X.K=K) (hc:X.calm=true) (hgL:Gl X "sorted") (hmL:X.mg "sorted" = none) (hgR:Gl X "set") (hmR:X.mg "set" = none) (ha:PA X [a] ta) (hs:starEach [a] X.env=[(false,eval a X.env)]:=by rfl)
  (he:starEach [.Call (.Name "set" p2) [a] [] pos2] X.env=[(false,eval (.Call (.Name "set" p2) [a] [] pos2) X.env)]:=by rfl) :
  PE X (.Call (.Name "sorted" p) [.Call (.Name "set" p2) [a] [] pos2] [] pos) (tSS K ta):=by
 subst hK;intro pins s Z H Q I h;refine wpAny_Call_Name_kw<|Ej I hgL hmL HQ ?_;refine PyProof.Rows.callWith_builtin1 ?_ he rfl;rw[he];show wpAny _ _ (spliced ((false,eval (.Call (.Name "set" p2) [a] [] pos2) X.env)::backTo pos [])) _ _ s;refine Calls.spliced_cons ?_;refine wpAny_Call_Name_kw<|Ej I hgR hmR QG ?_;refine PyProof.Rows.callWith_type1 (thn (ha pos2 pins s Z H _ I h) λus s1 (vs,H1,I1,r1,q1)=>?_) hs rfl;obtain⟨p,N,e,B,G,q⟩:=q1;subst e;obtain⟨u,rfl,U⟩:=vals1 r1;cases (show u=Value.ref p from U);obtain⟨t,F,E,O⟩:=I1.list B;have r:=K5 F;have n:=r.length;refine Ti (I1.ok.hd hc) E.isList (by simpa using r) (by rw[Az];unfold scanBound;lia) λj v S A=>?_;rw[show t.toArray.size=N.length by rw[Az];exact n]at S;refine Calls.spliced_nil ?_;have f:AG X pins Z H1 { s1 with heap:=j,toks:=v }:=I1.kept A;have J:=OX (λi=>N.getD i 0) N.length;refine R4 (s:={ s1 with heap:=j,toks:=v }) (I1.ok.hd hc) S (by lia) λz k R l T m c C L o b P d=>?_;have M:=P.length_eq;have D:m.Nodup:=by
  obtain⟨_,_,_,_,g⟩:=S;exact P.nodup_iff.mpr g.nd
 have y:=(f.laid (t':=k) C L (show ObjOk X.prog X.w _ z l (.lst<|m.map V.int) from (by rw[AK];exact DW (small1000<|by lia),T,c,Iu b,o))).drew R;exact(.ref l,_,y,rfl,q l m (TZ d D) (λx=>P.mem_iff.trans Qx)<|f.hok.fresh L)
end
section
variable {K:W.Frag}{U:AI}
theorem QQ (h:JA K ta U λds U1=>∃ns:List Int,ds=[.lst (ns.map .int)]/\ns.length<64/\∀ms:List Int,ms.Pairwise (· < ·)->(∀x,x∈ms↔x∈ns)->Po (.lst<|ms.map .int) U1):JO K (tSS K ta) U Po:=λg G H Z Q k c=>
 h g G H Z _ k λS ds b j U1 d s R q=>by
  obtain⟨ns,e,L,p⟩:=q;subst e;obtain⟨_,_,rfl,r,t⟩:=R.inv
  next=>
   cases t.inv;obtain⟨a,u,rfl,A,i⟩:=r.inv
   next=>
    have v:=i.ints;subst v;refine(a,ns,rfl,SqL.of<|d.live _ _ A,L,λl ms o O L=>?_);obtain⟨f,D⟩:=d.fresh (od:=.lst<|ms.map .int) L (show OwnRep K b (.lst<|ms.map V.int) (.lst<|ms.map .int) from Reps.ofInts ms);exact c l _ b _ U1 f s D<|p ms o O
end
structure CompScK (osc:Scope) (oN:List Str) (y:Str) (scope:Scope) (fvs:List Str) (sel:List Nat):Prop where
 kind:scope.kind=.function
 one:scope.names.filter (λz=>z.2 == .cell)=[(y,.cell)]
 own:∀z∈scope.names,z.1=y->z.2=.cell
 names:∀z∈scope.names,z.2=.local->scope.names.lookup z.1=some .local
 free:∀z∈scope.names,z.2=.free->osc.names.lookup z.1=some .cell\/osc.names.lookup z.1=some .free
 len:fvs.length=sel.length
 fv:∀p∈fvs.zip sel,oN[p.2]?=some p.1/\scope.names.lookup p.1=some .free
def compCxK (X:Cx) (y:Str) (scope:Scope) (N:List Str) (C:Addr) (s:Shared) (H:Hp) (ex:List Addr) (pn:Ai):Cx:=
 { compCx X scope N C s H ex pn with env:=compEnvC scope ((y,C+1)::clOf X.env scope.names []) C X.env,fn:=λx=>x == y }
theorem Kr:∀(names:List (Str × NameKind)) (n:Nat) (acc:List (Str × Addr)),(names.filter (λz=>z.2 == .cell)=[]->cellsFrom n names acc=acc)/\(names.filter (λz=>z.2 == .cell)=[(y,.cell)]->cellsFrom n names acc=(y,n)::acc)
 |[],n,acc=>(λ_=>rfl,λh=>by simp at h)
 | (x,k)::r,n,acc=>by
  unfold cellsFrom;rw[CC];cases hk:k == NameKind.cell with
  |true=>
   simp only[hk,if_true];refine(λh=>by simp at h,λh=>?_);have H:=(EA.inj h).1;have a:=(EA.inj h).2;cases H;exact(Kr (y:=y) r (n+1) _).1 a
  |false=>
   simp only[hk,Av,if_false];exact Kr r n acc
theorem Kt:∀(names:List (Str × NameKind)) (h:Heap),(names.filter (λz=>z.2 == .cell)=[]->pushCells h names=h)/\(names.filter (λz=>z.2 == .cell)=[(y,.cell)]->pushCells h names=h.push { cls:=.type "cell",data:=.cell none })
 |[],h=>(λ_=>rfl,λh=>by simp at h)
 | (x,k)::r,h=>by
  unfold pushCells;rw[CC];cases hk:k == NameKind.cell with
  |true=>
   simp only[hk,if_true];exact(λh=>by simp at h,λe=>(Kt (y:=y) r _).1 (EA.inj e).2)
  |false=>
   simp only[hk,Av,if_false];exact Kt r h
section
variable {X:Cx}{pins:Ai}{Z:St}{H:Hp}{s:Shared}{fp:List Addr}{scope:Scope}{tgs fvs:List Str}{sel:List Nat}{y:Str}
theorem newEnvK {M:Model}{A:Around}{E:AX}{osc:Scope}{oN:List Str}{g:Addr}{cl:List (Str × Addr)}{qual:Str}{env:Env}{Q:Env->Shared->Prop}(S:CompScK osc oN y scope fvs sel)
  (q:∀h',h'.Ns s.heap.objs.size (λ_=>none)->h'.IsCell (s.heap.objs.size+1) none->(∀b o,s.heap.get? b=some o->h'.get? b=some o) ->
   Q { scope,locals:=s.heap.objs.size,globals:=g,cells:=(y,s.heap.objs.size+1)::cl,qual,func:=none,code:=env.code,frame:=env.frame,builtins:=env.builtins } { s with heap:=h' }) :
  wpAny M A (newFunctionEnv scope g cl [] qual none .none<|some env) Q E s:=by
 simp only[newFunctionEnv,Option.isSome_some,if_true];refine AA<|wpAny_alloc ?_;refine AA<|wpAny_layCells _ (λm d cells=>by cases hkc:d == NameKind.cell <;> simp[hkc]) _ _ _ _ ?_
 have h:(s.heap.push { cls:=.type "dict",data:=.dict #[] }).objs.size=s.heap.objs.size+1:=Heap.size_push ..;rw[(Kr (y:=y) _ _ _).2 S.one,(Kt (y:=y) _ _).2 S.one];show wpAny M A _ Q E { s with heap:=(s.heap.push { cls:=.type "dict",data:=.dict #[] }).push { cls:=.type "cell",data:=.cell none } };refine AA<|AH<|AH ?_;have c:((s.heap.push { cls:=.type "dict",data:=.dict #[] }).push { cls:=.type "cell",data:=.cell none }).get? (s.heap.objs.size+1)=some { cls:=.type "cell",data:=.cell none }:=by
  rw[<- h];exact BP _ rfl
 have z:=q _ ((Heap.Ns.new s.heap (.type "dict")).keeps λb o e=>Au { cls:=.type "cell",data:=.cell none } e) (_,c,rfl) λb o e=>Au _<|Au _ e;rw[<- h]at z;exact z
theorem ownK (e:((y,n)::clOf env names []).lookup x=some c):(x=y/\c=n)\/env.cells.lookup x=some c:=by
 rw[Dm]at e;split at e
 ·rename_i h
  cases e;exact .inl (by simpa using h,rfl)
 ·exact .inr<|DZ _ _ (λ_ _ z=>by simp at z) e
theorem Mt (S:CompScK X.env.scope X.N y scope fvs sel) (ok:X.Ok):∀n,(n,NameKind.free)∈scope.names->∃a,X.env.cells.lookup n=some a:=λn h=>
 ok.has n (S.free _ h rfl)
theorem Tx (S:CompScK X.env.scope X.N y scope fvs sel) (N:List Str) (I:AG X pins Z H s) (hf:∀b∈fp,FpOk X pins H b) (hlt:∀b∈fp,b<s.heap.objs.size):(compCxK X y scope N s.heap.objs.size s H fp<|X.pn++pins).Ok where
 mod:=I.ok.mod
 kind:=S.kind
 glob:=I.ok.glob
 blt:=I.ok.blt
 above:=AS _
 inj:=λx z c r p=>by
  have d:∀x,X.env.cells.lookup x=some c->c≠s.heap.objs.size+1:=λx e=>by
   obtain⟨v,q⟩:=I.cell x c e;exact As<|Cw q.lt
  rcases ownK r with ⟨a,b⟩|a
  ·rcases ownK p with ⟨A,l⟩|A
   ·rw[a,A]
   ·exact absurd b<|d _ A
  ·rcases ownK p with ⟨A,l⟩|A
   ·exact absurd l<|d _ a
   ·exact I.ok.inj x z c a A
 has:=λx f=>by
  by_cases hxy:x=y
  ·subst hxy
   exact(s.heap.objs.size+1,by show ((x,_)::clOf X.env scope.names []).lookup x=_;simp)
  have M:(x,NameKind.free)∈scope.names:=by
   have Y:∀k,(k=.cell\/k=.free)->(relab X.env.scope scope).names.lookup x=some k->(x,NameKind.free)∈scope.names:=λk K h=>by
    obtain⟨⟨n,j⟩,g,e⟩:=Af.mp<|PySem.mem_of_lookup h;dsimp only at e;split at e
    ·rename_i hj
     have E:n=x:=congrArg Prod.fst e;have J:j=.free:=by
      simp only[Cj,beq_iff_eq]at hj;exact hj.1.1
     rw[<- E,<- J];exact g
    ·have E:n=x:=congrArg Prod.fst e
     have m:j=k:=congrArg Prod.snd e;rcases K with z|z
     ·have i:((n,j):Str × NameKind)∈scope.names.filter (λz=>z.2 == .cell):=Bo.mpr (g,by rw[m,z];rfl)
      rw[S.one,Bc]at i;exact absurd (E.symm.trans<|congrArg Prod.fst i) hxy
     ·rw[<- E,<- z,<- m];exact g
   rcases f with z|z
   ·exact Y _ (.inl rfl) z
   ·exact Y _ (.inr rfl) z
  obtain⟨c,C⟩:=Fc scope.names [] M (Mt S I.ok x M);exact(c,by
   show ((y,_)::clOf X.env scope.names []).lookup x=_;rw[Dm,show (x == y)=false from by simpa using hxy];exact C)
 cab:=λx c h e=>by
  rcases ownK e with ⟨_,z⟩|z
  ·rw[z];exact Dq _
  ·have f:x=y:=by simpa using (show (x == y)=true from h)
   subst f;have:((x,s.heap.objs.size+1)::clOf X.env scope.names []).lookup x=some c:=e;simp at this;rw[<- this];exact Dq _
 hd:=I.ok.hd
 frames:=I.ok.frames
 stk:=.inl rfl
 exf:=λb B=>⟨As (hlt b B),λx c e=>by
  rcases ownK e with ⟨_,z⟩|z
  ·rw[z];exact E2<|Cw<|hlt b B
  ·exact(hf b B).2.2.2.2.1 x c z⟩
 bs:=I.bs
 bsz:=CW I.ok.bsz I.sz
 noex:=λb o e B=>by
  rcases(hf b B).2.2.2.1 with z|z
  ·exact I.ok.noex b o e z
  ·exact absurd (CQ (Al e)<|CW I.ok.bsz z)<|D4 _
 exfs:=λb B z=>by
  rcases Ar.mp (I.stkSub b z) with e|z
  ·exact(hf b B).2.1 e
  ·exact(hf b B).2.2.1 z
 funs:=I.stack
 frf:=I.stkFree
theorem SX (S:CompScK X.env.scope X.N y scope fvs sel) (I:AG X pins Z H s) (hf:∀b∈fp,FpOk X pins H b) (hlt:∀b∈fp,b<s.heap.objs.size) {h':Heap}{tk:Nat}{m:Str->Option Value}
  (hns:h'.Ns s.heap.objs.size m) (hcl:h'.IsCell (s.heap.objs.size+1) none) (old:∀b o,s.heap.get? b=some o->h'.get? b=some o) :
  AG (compCxK X y scope (tgs++fvs) s.heap.objs.size s H fp<|X.pn++pins) [] (compSt tgs.length sel Z) H { s with heap:=h',toks:=tk } where
 ok:=Tx S _ I hf hlt
 os:=rfl
 bare:=I.bare
 base:=Un.kept old
 loc:=by
  refine(m,hns,λi x v g h M=>?_);have g:(tgs++fvs)[i]?=some x:=g;unfold compSt at h;by_cases hi:i<tgs.length
  ·rw[Cu (by simpa using hi),Fv,AD hi]at h
   cases h
  ·have a:tgs.length<=i:=Nat.le_of_not_lt hi
   rw[CP (by simpa using a),AZ,CJ]at h;rw[CP a]at g;cases hj:sel[i-tgs.length]? with
   |none=>rw[hj]at h;cases h
   |some j=>
    rw[hj]at h;have h:(Z[j]?).getD none=some v:=by simpa using h
    have F:(x,j)∈fvs.zip sel:=by
     refine Bk (i:=i-tgs.length) ?_;rw[EN];exact(g,hj)
    obtain⟨A,f⟩:=S.fv _ F;have B:Z[j]?=some (some v):=by
     cases q:Z[j]? with
     |none=>rw[q]at h;cases h
     |some o=>rw[q]at h;exact congrArg some h
    have k:X.env.scope.names.lookup x=some .cell\/X.env.scope.names.lookup x=some .free:=S.free (x,.free) (PySem.mem_of_lookup f) rfl;obtain⟨Q,E,t⟩:=I.loc;obtain⟨u,r,l⟩:=t j x v A B (.inr k);refine(u,r,.inr (K2 f,?_));rcases l with ⟨K,_⟩|⟨_,c,w,L⟩
    ·have K:X.env.scope.names.lookup x=some .local:=K
     rcases k with z|z <;> (rw[K]at z;cases z)
    ·obtain⟨J,C⟩:=Fc scope.names [] (PySem.mem_of_lookup f) (c,w)
     have e:=DZ scope.names [] (λ_ _ z=>by simp at z) C;rw[w]at e;cases e;obtain⟨o,O,D⟩:=L;have Y:(x == y)=false:=by
      cases q:x == y with
      |false=>rfl
      |true=>
       have:x=y:=by simpa using q
       have:=S.own (x,.free) (PySem.mem_of_lookup f) this;cases this
     exact(c,by show ((y,s.heap.objs.size+1)::clOf X.env scope.names []).lookup x=some c;rw[Dm,Y];exact C,o,old _ _ O,D)
 cell:=λx c e=>by
  rcases ownK e with ⟨_,z⟩|z
  ·rw[z];exact(none,hcl)
  ·obtain⟨v,o,O,D⟩:=I.cell x c z
   exact(v,o,old _ _ O,D)
 free:=I.hok.fresh<|AS _
 freeC:=λx c e=>by
  rcases ownK e with ⟨_,z⟩|z
  ·rw[z];exact I.hok.fresh<|Dq _
  ·exact I.freeC x c z
 pin:=λp P=>by
  have P:p∈(X.pn++pins)++[]:=P;rw[Bs]at P;obtain⟨e,n,ne,G,d⟩:=I.pin p P;refine(old _ _ e,n,As<|Al e,λz=>?_,d);rcases Ar.mp (I.stkSub p.1 z) with q|q
  ·exact ne q
  ·exact G q
 hok:=I.hok.kept old
 len:=by
  unfold compSt;show _=(tgs++fvs).length;rw[Aw,Aw,CJ,AK,S.len]
theorem SR (I:AG X pins Z H s) (hf:∀b∈fp,FpOk X pins H b)
  (J:AG (compCxK X y scope N s.heap.objs.size s H fp<|X.pn++pins) [] Z' H' s') (sb:Heap.SameBut s.heap.objs.size s'.heap h'):AG X pins Z H' { s' with heap:=h' }:=by
 have B:Un (frs X.stack) fp H H' s.heap s'.heap:=J.base;have ne:∀b o,s.heap.get? b=some o->b≠s.heap.objs.size:=λb o e=>As<|Al e;have r:H' s.heap.objs.size=none:=J.free;refine I.call' (s':={ s' with heap:=h' }) (ch:=fp) J.os (λb o e n f a=>?_,λb o e n f a=>?_,B.free,λb o e a=>?_,B.tups,B.frzs,B.tbls) (λb g e=>?_) J.bare λb d=>?_
 ·exact(sb.2 b<|ne b o e).trans (B.keep b o e n f a)
 ·obtain⟨l,q⟩:=B.slot b o e n f a
  exact(l,(sb.2 b<|ne b o e).trans q)
 ·obtain⟨O,q⟩:=B.there b o e a
  exact(O,(sb.2 b<|ne b o e).trans q)
 ·refine(J.hok b g e).stay (λc w h q=>(sb.2 c ?_).trans q) (λ_ q=>q) λ_ _ q=>q
  intro z;rcases h with h|h
  ·rw[<- h,z,r]at e;cases e
  ·rw[z,r]at h;cases h
 ·exact((hf b d).2.2.2.1,(hf b d).2.1,(hf b d).2.2.2.2.1,(hf b d).2.2.2.2.2)
end
section
variable {X:Cx}
theorem R3 {y:Str}{elt tg iter:Expr}{ifs:List Expr}{scope:Scope}{pos:Pos}{tgs fvs:List Str}{sel:List Nat}{g:TG}{tc:TT}{te:TE}(S:CompScK X.env.scope X.N y scope fvs sel) (hc:X.calm=true)
  (hg:∀C s H ex pn,PG (compCxK X y scope (tgs++fvs) C s H ex pn) tg g) (ht:∀C s H ex pn,PTs (compCxK X y scope (tgs++fvs) C s H ex pn) ifs tc) (he:∀C s H ex pn,PE (compCxK X y scope (tgs++fvs) C s H ex pn) elt te)
  {pins:Ai}{Z:St}{s:Shared}{itv:Value}{Q:VK}{E:AX}{RR:Value->Addr->Result->Shared->Prop}
  (h2:PIE X pins Z tg (λJ H1=>∀acc,H1 acc=none->∃W:Nat->Nat->St->Hp->Prop,
   (∃m,W 0 m (compSt tgs.length sel Z) (upd H1 acc (.lst [])))/\∀i m Z' H',W i m Z' H' ->
   (J.stop i H' /\ Q (.ref acc) H')\/(J.go i H' /\ ∃N:St->Hp->Prop,(∀Z2 H2,N Z2 H2->∃m',m'<m/\W (i+1) m' Z2 H2) /\
   ∀x H2,J.yld i H' x H2->g x Z' H2 λZ2 H3=>tc Z2 H3 λb H4=>if b=true then te Z2 H4 λy H5=>∃ys,H5 acc=some (.lst ys)/\ys.length<sizeLine/\N Z2 (upd H5 acc (.lst (ys++[y]))) else N Z2 H4)) itv s)
  (fin:∀(s':Shared) (C acc:Addr) (H':Hp) (m:Str->Option Value),s'.heap.Ns C m->FpOk X pins H' C->(∀h',Heap.SameBut C s'.heap h' -> AG X pins Z H' { s' with heap:=h' })->Q (.ref acc) H' -> RR (.ref acc) C (.ok .next) s') :
  wpAny (model X.prog X.w) X.A (newList []) (λacc s3=>wpAny (model X.prog X.w) X.A (newFunctionEnv scope X.env.globals (clOf X.env scope.names []) [] X.env.qual none .none (some X.env)) (λcenv s4=>
   codeAny (model X.prog X.w) X.A (.compStart (.ListComp elt [(tg,iter,ifs,0)] scope pos) 0 itv acc { cenv with scope:=relabel scope X.env }) (RR acc cenv.locals) s4) E s3) E s:=by
 obtain⟨it,fp,tn,J,H1,e,I,T,st,f2,h2⟩:=h2;subst e;have hlt:∀b∈fp,b<s.heap.objs.size:=λb hb=>let ⟨o,ho,_⟩:=T.obj 0 _ st b hb; Al ho
 refine wpAny_newObj_type (newEnvK S λh1 hns hcl old=>?_);dsimp only at hns hcl old ⊢;have I3:AG X pins Z (upd H1 s.heap.objs.size (.lst [])) { s with heap:=s.heap.push { cls:=.type "list",data:=.seq ([]:List Value).toArray },toks:=s.toks }:=I.lnew (its:=[]) .nil (by decide);have hacc:H1 s.heap.objs.size=none:=I.hok.fresh<|AS _;obtain⟨W,⟨m0,w0⟩,turn⟩:=h2 s.heap.objs.size hacc;generalize hs3:({ s with heap:=s.heap.push { cls:=.type "list",data:=.seq ([]:List Value).toArray },toks:=s.toks }:Shared)=s3 at I3;have hh3:s3.heap=s.heap.push { cls:=.type "list",data:=.seq ([]:List Value).toArray }:=by rw[<- hs3]
 have old3:∀b o,s.heap.get? b=some o->s3.heap.get? b=some o:=λb o q=>by rw[hh3];exact Au _ q
 have hf3:∀b∈fp,FpOk X pins (upd H1 s.heap.objs.size (.lst [])) b:=λb hb=>(by rw[BA (As<|hlt b hb)];exact(f2 b hb).1,(f2 b hb).2);have hlt3:∀b∈fp,b<s3.heap.objs.size:=λb hb=>by rw[hh3,Heap.size_push];exact Cw<|hlt b hb
 have tn3:tn 0 s3.heap:=T.keep 0 _ _ st λb hb o q=>old3 b o q;have old4:∀b o,s3.heap.get? b=some o->h1.get? b=some o:=λb o q=>by
  rw[hh3]at q;exact old b o q
 have tn4:tn 0 h1:=T.keep 0 _ _ tn3 λb hb o q=>old4 b o q;have hC:(s.heap.push { cls:=.type "list",data:=.seq ([]:List Value).toArray }).objs.size=s3.heap.objs.size:=by rw[hh3]
 rw[hC]at hns hcl;have J0:=SX (tgs:=tgs) (tk:=s.toks) S I3 hf3 hlt3 hns hcl old4;have es:({ s3 with heap:=h1,toks:=s.toks }:Shared) = { s with heap:=h1,toks:=s.toks }:=by rw[<- hs3]
 rw[es]at J0;generalize hY:compCxK X y scope (tgs++fvs) s3.heap.objs.size s3 (upd H1 s.heap.objs.size (.lst [])) fp (X.pn++pins)=Y at J0;have hYp:Y.prog=X.prog:=by rw[<- hY];rfl
 have hYw:Y.w=X.w:=by rw[<- hY];rfl
 have hYK:Y.K=X.K:=by rw[<- hY];rfl
 have hYA:Y.A=X.A:=by rw[<- hY];rfl
 have hYc:Y.calm=true:=by rw[<- hY];exact hc
 have hYx:Y.xe=λ_ _=>False:=by rw[<- hY];rfl
 have hYe:Y.env=compEnvC scope ((y,s3.heap.objs.size+1)::clOf X.env scope.names []) s3.heap.objs.size X.env:=by rw[<- hY];rfl
 have stat:∀{H':Hp},(∀b∈fp,H' b=none)->∀b∈fp,FpOk Y [] H' b:=λhn b hb=>by
  rw[<- hY];refine(hn b hb,As<|hlt3 b hb,λz=>?_,.inl hb,λx c e=>?_,λp hp z=>?_)
  ·rcases Ar.mp (I3.stkSub b z) with q|q
   ·exact(hf3 b hb).2.1 q
   ·exact(hf3 b hb).2.2.1 q
  ·rcases ownK e with ⟨_,z⟩|z
   ·rw[z];exact E2<|Cw<|hlt3 b hb
   ·exact(hf3 b hb).2.2.2.2.1 x c z
  ·have hp:p∈(X.pn++pins)++[]:=hp
   rw[Bs]at hp;exact(hf3 b hb).2.2.2.2.2 p hp z
 have loop:codeAny (model X.prog X.w) X.A (.compLoop (.ListComp elt [(tg,iter,ifs,0)] scope pos) 0 (.ref it) (.ref s.heap.objs.size) Y.env) (RR (.ref s.heap.objs.size) s3.heap.objs.size)
   { s with heap:=h1,toks:=s.toks }:=by
  refine codeAny_loop rfl (λn s'=>∃i Z' H',AG Y [] Z' H' s' /\ tn i s'.heap/\(∀b∈fp,H' b=none)/\W i n Z' H') ?_ m0 (0,_,_,J0,tn4,λb hb=>(hf3 b hb).1,w0);rintro n s5 ⟨i,Z5,H5,I5,st5,fr5,w5⟩;show wpAny _ X.A ((compTurn (.ListComp elt [(tg,iter,ifs,0)] scope pos) 0 (.ref it) (.ref s.heap.objs.size) Y.env).onRaise (λx=>do noteFrame x Y.env;theTreesLotGoes x)) _ _ s5;refine wpAny_noted (Dz (E:=λ_ _=>False) ?_ (λ_ _ q=>q) λ_ _ z=>z.elim);rw[compTurn_list];refine AA<|wpAny_standAt<|AA ?_;rcases turn i n Z5 H5 w5 with ⟨stop,qn⟩|⟨go,N,hN,step⟩
  ·have D:=T.done Y hYp hYw hYK hYc i [] s5 Z5 H5 (λ_ _=>False) I5 (stat fr5) st5 stop
   rw[hYA]at D;refine thn D λr s6 (hr,I6)=>?_;subst hr;refine AH ?_;obtain⟨m6,hn6,_⟩:=I6.loc;rw[hYe]at hn6;refine fin s6 _ _ H5 m6 hn6 (I3.fpOk (AS _) (by have z:=I6.free;rw[hYe]at z;exact z)) (λh' sb=>?_) qn;have I6':AG (compCxK X y scope (tgs++fvs) s3.heap.objs.size s3 (upd H1 s.heap.objs.size (.lst [])) fp<|X.pn++pins) [] Z5 H5 s6:=by rw[hY];exact I6
   exact SR I3 hf3 I6' sb
  ·have D:=T.item Y hYp hYw hYK hYc i [] s5 Z5 H5 (λ_ _=>False) I5 (stat fr5) st5 go
   rw[hYA]at D;refine thn D λr s6 (u,hr,h6)=>?_;subst hr;refine AA (thn h6 λ_ s7 (x,H7,I7,r7,y7,st7,fr7)=>?_);have I7':=I7.pinned (stat fr7)<|T.obj _ _ st7;have G:=hg s3.heap.objs.size s3 (upd H1 s.heap.objs.size (.lst [])) fp<|X.pn++pins;have TT:=ht s3.heap.objs.size s3 (upd H1 s.heap.objs.size (.lst [])) fp<|X.pn++pins;have EE:=he s3.heap.objs.size s3 (upd H1 s.heap.objs.size (.lst [])) fp<|X.pn++pins;rw[hY]at G TT EE;have G1:=G _ s7 Z5 H7 x u _ I7' r7<|step x H7 y7;rw[hYp,hYw,hYA,hYx]at G1;refine AA (thn G1 λ_ s8 (Z8,H8,I8,q8)=>?_);have T1:=TT _ s8 Z8 H8 _ I8 q8;rw[hYp,hYw,hYA,hYx]at T1;refine AA (thn T1 λok s9 (H9,I9,q9)=>?_);have again:∀{s':Shared}{Z':St}{H':Hp},AG Y ([]++pinsAt fp s7.heap) Z' H' s' -> N Z' H' -> ∃m,m<n/\∃i Z' H',AG Y [] Z' H' s' /\ tn i s'.heap/\(∀b∈fp,H' b=none)/\W i m Z' H':=λ{s' Z' H'} K7 n7=>by
    obtain⟨m',hm,w7⟩:=hN Z' H' n7;refine(m',hm,i+1,Z',H',K7.unpinned,T.keep _ _ _ st7 λb hb o e=>(K7.pin (b,o)<|CV _<|CV _<|GG hb e).1,λb hb=>?_,w7);obtain⟨o,e,d⟩:=T.obj _ _ st7 b hb;exact(K7.pin (b,o)<|CV _<|CV _<|GG hb e).2.1
   cases ok with
   |false=>
    have q9:N Z8 H9:=q9;exact AH (by rw[hYe],again I9 q9)
   |true=>
    have q9:te Z8 H9 λy H5=>∃ys,H5 s.heap.objs.size=some (.lst ys)/\ys.length<sizeLine/\N Z8 (upd H5 s.heap.objs.size (.lst<|ys++[y])):=q9;have E1:=EE _ s9 Z8 H9 _ I9 q9;rw[hYp,hYw,hYA,hYx]at E1;refine AA<|AA (thn E1 λv sa (y,Ha,Ia,ra,ys,ea,za,na)=>?_);have M:=Fb (X:=Y) _ sa Z8 Ha (.ref s.heap.objs.size) [y] (.ref s.heap.objs.size) [v] (λ_ H=>N Z8 H) Ia rfl (.cons ra .nil) (_,ys,y,rfl,rfl,ea,za,na);rw[hYp,hYw,hYA,hYx]at M;refine AA (thn M λ_ sb (_,Hb,Ib,_,nb)=>AH<|AH (by rw[hYe],again Ib nb))
 have hcs:(relabel scope X.env)=(relabel scope X.env):=rfl;have loop':=loop;rw[hYe]at loop';show codeAny (model X.prog X.w) X.A (.compStart (.ListComp elt [(tg,iter,ifs,0)] scope pos) 0 (.ref it) (.ref s.heap.objs.size)<|compEnvC scope ((y,(s.heap.push { cls:=.type "list",data:=.seq ([]:List Value).toArray }).objs.size+1)::clOf X.env scope.names []) (s.heap.push { cls:=.type "list",data:=.seq ([]:List Value).toArray }).objs.size X.env) (RR (.ref s.heap.objs.size) (s.heap.push { cls:=.type "list",data:=.seq ([]:List Value).toArray }).objs.size) _;rw[hC];exact codeAny_compStart_list loop'<|T.self _ 0 _ _ _ tn4 loop'
theorem NV {y:Str}{elt tg iter:Expr}{ifs:List Expr}{scope:Scope}{pos:Pos}{fvs:List Str}{sel:List Nat}{wi:TI}{g:TG}{tc:TT}{te:TE}(tgs:List Str) (S:CompScK X.env.scope X.N y scope fvs sel) (hc:X.calm=true)
  (hi:PI X tg iter wi) (hg:∀C s H ex pn,PG (compCxK X y scope (tgs++fvs) C s H ex pn) tg g) (ht:∀C s H ex pn,PTs (compCxK X y scope (tgs++fvs) C s H ex pn) ifs tc) (he:∀C s H ex pn,PE (compCxK X y scope (tgs++fvs) C s H ex pn) elt te)
  (hs:∀x,foldedSetIterable iter X.env x=pure x:=by intro _;rfl) :
  PE X (.ListComp elt [(tg,iter,ifs,0)] scope pos) (tComp tgs.length sel wi g tc te):=by
 intro pins s Z H Q I h;rw[eval_ListComp];refine wpAny_comprehension_free (use:=none) rfl hs (Kq<|Mt S I.ok) S.kind S.names (thn (hi pins s Z H _ I h) λv e b=>thn b λt f d=>?_);refine R3 S hc hg ht he (RR:=λc C=>compPost (model X.prog X.w) X.A X.xe none (EP X pins Z Q) c C) (Q:=Q) d ?_;intro s' C c H' m hn _ hI q;exact(m,hn,λa B=>(.ref c,H',hI a B,rfl,q))
end
open PySem PySem.Spec PyProof.Rows PySem.SeqAt
section
variable {K:W.Frag}{U:AI}{P:D->AI->Prop}
end
section
variable {K:W.Frag}{U:AI}
end
open PySem PySem.Spec PyProof.Rows PySem.SeqAt
section
variable {K:W.Frag}{U:AI}{P:D->AI->Prop}
end
section
variable {K:W.Frag}{U:AI}
end
section
variable {prog:Program}{w:World}{A:Around}{E:AX}{s:Shared}
theorem RM {l:Addr}{vs:List Value}{Q:List Value->Shared->Prop}(hl:s.heap.IsTuple l vs.toArray)
  (h:Q vs { s with heap:=(s.heap.push<|seqObj "list" #[] 0).update s.heap.objs.size (Obj.mapSeq (· ++ vs.toArray)) }) (hsz:vs.length<=sizeLine) :
  wpAny (model prog w) A (collect (.ref l)) Q E s:=by
 obtain⟨o,ho,hc,n,hd⟩:=id hl;unfold collect;refine AA<|wpAny_runValue<|codeAny_builtin entry_proto_collect' ?_;show wpAny _ _ (do again (.builtin "list.__iadd__" ([<- newList [],.ref l],[]))) _ _ s;refine AA<|wpAny_newList<|AH (Code.quiet_builtin _ (by decide +kernel),codeAny_builtin entry_list_iadd' ?_);show wpAny _ _ (Builtin.List.listExtendWith (.ref s.heap.objs.size) (.ref l) (.ref s.heap.objs.size)) _ _ { s with heap:=s.heap.push (seqObj "list" #[] 0) };unfold Builtin.List.listExtendWith;have ho':(s.heap.push<|seqObj "list" #[] 0).get? l=some o:=Au _ ho;refine AA<|wpAny_typeOf (T:="tuple") (o,ho',hc) ?_;have ht:(Value.type "tuple" == Value.type "tuple")=true:=by rfl
 rw[AD (by rw[ht];simp)];refine AA (listItems_at ho' hd ?_);refine AA (listItems_at (xs:=#[]) (n:=0) (BP _ rfl) rfl ?_);rw[AB (by simp)];refine AA (listUpdate_at (xs:=#[]) (n:=0) (BP _ rfl) rfl ?_ (BZ _) (by show (#[]++vs.toArray).size<=sizeLine+1;simp only[Array.size_append,Az,DE];lia));refine AH ?_;show wpAny (model prog w) A (do
   let o <- load s.heap.objs.size
   match o.data with
   |.seq xs _=>pure xs.toList
   |_=>unsupported "internal:collect") Q E { s with heap:=(s.heap.push (seqObj "list" #[] 0)).update s.heap.objs.size (Obj.mapSeq (· ++ vs.toArray)) }
 refine AA<|wpAny_load (get?_update_seq (BP _ rfl) _) ?_;show wpAny _ _ (pure ((#[]:Array Value)++vs.toArray).toList) Q E _;rw[show ((#[]:Array Value)++vs.toArray).toList=vs by simp];exact AH h
end
section
variable {K:W.Frag}{U:AI}{P:D->AI->Prop}
end
section
variable {X:Cx}
end
abbrev rlt:=HT.lexLt
theorem EJ (x y:Int) (xs ys:List Int):rlt (x::xs) (y::ys)=if x=y then rlt xs ys else decide (x<y):=rfl
theorem Pk:∀a:List Int,rlt a a=false
 |[]=>rfl
 |x::a=>by rw[EJ,AD rfl];exact Pk a
theorem QE:∀a b c:List Int,rlt a b=true->rlt b c=true->rlt a c=true
 |[],[],_,h,_=>by cases h
 |[],_::_,[],_,h=>by cases h
 |[],_::_,_::_,_,_=>rfl
 |_::_,[],_,h,_=>by cases h
 |_::_,_::_,[],_,h=>by cases h
 |x::a,y::b,z::c,h1,h2=>by
  rw[EJ]at h1 h2 ⊢;by_cases e1:x=y
  ·by_cases e2:y=z
   ·rw[AD e1]at h1;rw[AD e2]at h2;rw[AD (e1.trans e2)]
    exact QE a b c h1 h2
   ·rw[AB e2,decide_eq_true_eq]at h2
    rw[AB (by lia),decide_eq_true_eq];lia
  ·rw[AB e1,decide_eq_true_eq]at h1
   by_cases e2:y=z
   ·rw[AB (by lia),decide_eq_true_eq];lia
   ·rw[AB e2,decide_eq_true_eq]at h2
    rw[AB (by lia),decide_eq_true_eq];lia
theorem Pr:∀a b c:List Int,rlt a c=true->rlt a b=true\/rlt b c=true
 |[],[],_,h=>Or.inr h
 |[],_::_,_,_=>Or.inl rfl
 |_::_,_,[],h=>by cases h
 |_::_,[],_::_,_=>Or.inr rfl
 |x::a,y::b,z::c,h=>by
  rw[EJ]at h;rw[EJ,EJ];by_cases e:x=z
  ·subst e
   rw[AD rfl]at h;by_cases e1:x=y
   ·subst e1;rw[AD rfl,AD rfl];exact Pr a b c h
   ·rw[AB e1,AB (Ne.symm e1),decide_eq_true_eq,decide_eq_true_eq];lia
  ·rw[AB e,decide_eq_true_eq]at h
   by_cases e1:x=y
   ·subst e1;right;rw[AB e,decide_eq_true_eq];exact h
   ·rw[AB e1]
    by_cases e2:y=z
    ·left;rw[decide_eq_true_eq];lia
    ·rw[AB e2,decide_eq_true_eq,decide_eq_true_eq];omega
theorem Jd:∀a b:List Int,rlt a b=false->rlt b a=false->a=b
 |[],[],_,_=>rfl
 |[],_::_,h,_=>by cases h
 |_::_,[],_,h=>by cases h
 |x::a,y::b,h1,h2=>by
  rw[EJ]at h1 h2;by_cases e:x=y
  ·subst e
   rw[AD rfl]at h1 h2;rw[Jd a b h1 h2]
  ·rw[AB e,decide_eq_false_iff_not]at h1
   rw[AB (Ne.symm e),decide_eq_false_iff_not]at h2;lia
theorem RowAt.inj (x:RowAt h v a) (y:RowAt h v b):a=b:=by
 obtain⟨p,S,rfl,⟨o,H,C,n,D⟩,I⟩:=x;obtain⟨q,s,e,⟨f,O,c,N,d⟩,i⟩:=y;cases e;rw[H]at O;cases O;rw[D]at d;have e:S=s:=by
  have:=Data.seq.inj d;simpa using this.1
 subst e;clear D d
 induction I generalizing b with
 |nil=>cases i;rfl
 |cons n t _ ih=>cases i with|cons _ _ r=>rw[ih r]
open Classical in
noncomputable def rowKey (h:Heap):PyProof.Rows.KeyKind where
 α:=List Int
 blt:=rlt
 irrefl:=Pk
 trans:=QE
 negTrans:=Pr
 total:=Jd
 keyOf:=λv=>if e:∃r,RowAt h v r then some (Classical.choose e) else none
 dflt:=[]
open Classical in
theorem GF (x:RowAt h v r):(rowKey h).keyOf v=some r:=by
 show (if e:∃r,RowAt h v r then some (Classical.choose e) else none)=some r;rw[dif_pos (r,x)];exact congrArg some ((Classical.choose_spec ((r,x):∃r,RowAt h v r)).inj x)
section
variable {prog:Program}{w:World}{A:Around}{E:AX}{s:Shared}
theorem N4:∀{us vs:List Value}{as bs:List Int}(i:Nat),IntsAre us as->IntsAre vs bs->Q (rlt as bs) s->PySem.W.KatLex prog w A true (decide (as.length<bs.length)) Q (us.zip vs) i s
 |_,_,[],[],i,.nil,.nil,h=>h
 |_,_,[],b::bs,i,.nil,.cons _ _ _,h=>by
  rw[J8];refine PySem.W.kat_nil ?_;rw[A1 (by simp)];exact h
 |_,_,a::as,[],i,.cons _ _ _,.nil,h=>by
  rw[KO];refine PySem.W.kat_nil ?_;rw[A7 (by simp)];exact h
 |_,_,a::as,b::bs,i,.cons _ t x,.cons _ t' y,h=>by
  rw[FH];refine PySem.W.kat_cons<|SeqAt.EqAt.int_int a t b t' prog w _ _ ?_;rw[EJ]at h;by_cases e:a=b
  ·rw[AD e]at h
   rw[show (a == b)=true by simp[e]];refine PySem.W.kat_yes ?_;have:=N4 (Q:=Q) (i+1) x y h;rw[Aj,Aj,show decide (as.length+1<bs.length+1)=decide (as.length<bs.length) by simp];exact this
  ·rw[AB e]at h
   rw[show (a == b)=false by simp[e]];refine PySem.W.kat_no ?_;cases z:(true && i == 0) with
   |true=>exact oneLt_int h
   |false=>exact PySem.W.kat_one _ _ (lt_int h)
theorem Nw (pa:RowAt s.heap v a) (pb:RowAt s.heap u b) (h:Q (rlt a b) s):wpAny (model prog w) A (keyLt' (tuples' true) v u) Q E s:=by
 obtain⟨l,S,rfl,⟨e,O,C,n,D⟩,I⟩:=pa;obtain⟨k,t,rfl,⟨f,o,c,N,d⟩,i⟩:=pb;refine PySem.W.kat_lt O D o d ?_;have:=N4 (prog:=prog) (w:=w) (A:=A) (Q:=Q) 0 I i h;rw[<- I.length,<- i.length]at this;simpa using this
theorem UC (hu:A.units<cLine) (pa:RowAt s.heap v a) (pb:RowAt s.heap u b) (h:Q (rlt a b) s):wpAny (model prog w) A (keyLt' oneType' v u) Q E s:=by
 obtain⟨l,S,rfl,⟨⟨p,f,j,L⟩,o,C,n,D⟩,I⟩:=pa;obtain⟨k,t,rfl,⟨⟨q,g,m,e⟩,O,c,N,d⟩,i⟩:=pb;simp only at C D c d;subst C D c d;rw[keyLt'_oneType,oneLt'_eq];simp only[if_true];refine AA<|wpAny_cRoomFor hu ?_;refine AA<|wpAny_callSpecialIfBound?_slot (T:="tuple") (_,o,rfl) F.slot_tuple_lt<|call_meets F.slot_tuple_lt (_,o,rfl) F.entry_tuple_lt (F.args_tuple_lt_2 _ _) (HT.tuple_lt_ints l k S.toArray t.toArray n N f g L e a b (by simpa using I) (by simpa using i)) (o,O,?_);exact wpAny_truthy_bool h
theorem Ut (hu:A.units<cLine) (pa:RowAt s.heap v a) (pb:RowAt s.heap u b) (h:Q (rlt a b) s):wpAny (model prog w) A (keyLt' general' v u) Q E s:=by
 obtain⟨l,S,rfl,⟨⟨m,f,T,L⟩,O,C,n,D⟩,I⟩:=pa;obtain⟨k,t,rfl,⟨⟨p,g,j,e⟩,o,c,N,d⟩,i⟩:=pb;simp only at C D c d;subst C D c d;refine PySem.W.kat_one _ _ ?_;exact richCompare_meets_room (op:=.Lt) (_,O,rfl) (_,o,rfl) PySem.F.slot_tuple_lt PySem.F.entry_tuple_lt (PySem.F.args_tuple_lt_2 _ _) (HT.tuple_lt_ints l k S.toArray t.toArray n N f g L e a b (by simpa using I) (by simpa using i))
  (O,o,show Value.bool (HT.lexLt a b)≠Value.notImplemented/\_ from ((λx=>nomatch x),h)) hu
theorem SJ (p:Paired (RowAt s.heap) vs (r::rs)) (hr:r≠[]) (he:[]∈rs) (h:Q general' s):wpAny (model prog w) A (keyKind' vs.toArray) Q E s:=by
 rw[keyKind'_eq,G8,map_eq_pure_bind];refine AA<|AA (Kx vs _ p λS F=>AH ?_);cases F with
 |@cons f _ S _ hf pt=>
  obtain⟨x,t,l,e,rfl⟩:=hf.resolve_left λz=>hr z.1;have o:none∈S:=by
   clear p h hf
   induction pt with
   |nil=>cases he
   |@cons f r' S rs q t' ih=>
    rcases Ar.mp he with z|z
    ·subst z
     rcases q with ⟨_,y⟩|⟨_,_,_,y,_⟩
     ·subst y;exact Bh
     ·cases y
    ·exact BQ _<|ih z
  have:((some (Value.int x t)::S).toArray.all λx=>x.isSome)=false:=by
   rw[KU,Ez];intro z;rw[Ci]at z;have:=z none<|BQ _ o;cases this
  rw[this,AB (by simp),AD (by simp)];exact AH h
end
def keyD (κ:PyProof.Rows.KeyKind) (v:Value):κ.α:=(κ.keyOf v).getD κ.dflt
def Sortd (κ:PyProof.Rows.KeyKind) (out:List Value):Prop:=out.Pairwise λa b=>κ.kle (keyD κ a)<|keyD κ b
theorem twins {vs:List Value}{xs:Array Keyed}(hp:xs.Perm (vs.toArray.zip vs.toArray)):∀p∈xs.toList,p.1=p.2/\p.1∈vs:=λp m=>by
 have h:p∈(vs.toArray.zip vs.toArray).toList:=(Array.perm_iff_toList_perm.mp hp).mem_iff.mp m;rw[Array.toList_zip]at h;have h:p∈vs.zip vs:=h;obtain⟨i,I⟩:=Cv.mp h;rw[EN]at I;exact(BY.inj<|I.1.symm.trans I.2,Bk I.1)
theorem T5 (hp:xs.Perm (vs.toArray.zip vs.toArray)) (hs:SortedToK κ xs (vs.toArray.zip vs.toArray).size):(xs.map (·.2)).toList.Perm vs/\Sortd κ (xs.map (·.2)).toList:=by
 have z:=hp.size_eq;refine(?_,?_)
 ·rw[Array.toList_map]
  have:=(Array.perm_iff_toList_perm.mp hp).map (·.2);rw[Array.toList_zip]at this;refine this.trans ?_;rw[show (vs.toArray.toList.zip vs.toArray.toList)=vs.zip vs from rfl,Fw (AS _)]
 ·unfold Sortd
  rw[DF];intro i j hi hj hij;rw[Array.length_toList,Array.size_map]at hi hj;have y:∀k (h:k<xs.size),KK κ xs k=keyD κ (xs.map (·.2)).toList[k]!:=λk h=>by
   unfold KK keyD;have e:xs[k]?=some xs[k]:=getElem?_pos xs k h;rw[e];have E:(xs.map (·.2)).toList[k]! = xs[k].2:=by simp[h]
   rw[E,<- (twins hp xs[k] (by simp)).1]
  have:=hs i j (DW hij) (by lia);rw[y i hi,y j hj]at this;simpa [hi,hj] using this
section
variable {X:Cx}
def SqU (K:W.Frag) (H:Hp) (p:Addr) (us:List V):Prop:=SqL K H p us\/SqT K H p us
def IsRows (K:W.Frag) (H:Hp) (us:List V) (rs:Aa):Prop:=Paired (λ(u:V) (r:List Int)=>∃a,u=.ref a/\SqT K H a (r.map V.int)) us rs
theorem Paired.mem:∀{vs:List Value}{rs:Aa},Paired R vs rs->∀v∈vs,∃r∈rs,R v r
 |_,_,.nil,v,h=>by cases h
 |_,_,.cons p t,v,h=>by
  rcases Ar.mp h with e|e
  ·subst e;exact(_,Bh,p)
  ·obtain⟨r,H,a⟩:=Paired.mem t v e
   exact(r,BQ _ H,a)
theorem Nc (hv:Vals us its) (hp:Paired R us rs) (ho:out.Perm its):∃ps:List (V × List Int),Vals (ps.map (·.1)) out/\Paired R (ps.map (·.1)) (ps.map (·.2))/\ps.Perm (us.zip rs):=by
 suffices key:∀{out its:List Value},out.Perm its->∀ps:List (V × List Int),Vals (ps.map (·.1)) its->Paired R (ps.map (·.1)) (ps.map (·.2))->∃s:List (V × List Int),Vals (s.map (·.1)) out/\Paired R (s.map (·.1)) (s.map (·.2))/\s.Perm ps by
  have L:us.length=rs.length:=by
   clear key hv ho
   induction hp with
   |nil=>rfl
   |cons _ _ ih=>rw[Aj,Aj,ih]
  refine key ho (us.zip rs) ?_ ?_
  ·rw[List.map_fst_zip (by lia)];exact hv
  ·rw[List.map_fst_zip (by omega),Fw (by lia)];exact hp
 intro out its ho
 induction ho with
 |nil=>
  intro ps hv hp;cases ps with
  |nil=>exact([],.nil,.nil,.refl _)
  |cons _ _=>cases hv
 |cons x h ih=>
  intro ps hv hp;cases ps with
  |nil=>cases hv
  |cons a ps=>
   cases hv with
   |cons r t=>
    cases hp with
    |cons p q=>
     obtain⟨s,A,c,d⟩:=ih ps t q;exact(a::s,.cons r A,.cons p c,d.cons _)
 |swap x y l=>
  intro ps hv hp;cases ps with
  |nil=>cases hv
  |cons a ps=>
   cases ps with
   |nil=>cases hv with|cons _ t=>cases t
   |cons b ps=>
    cases hv with
    |cons r t=>
     cases t with
     |cons r2 t=>
      cases hp with
      |cons p q=>
       cases q with
       |cons p2 q=>exact(b::a::ps,.cons r2 (.cons r t),.cons p2 (.cons p q),.swap _ _ _)
 |trans h1 h2 ih1 ih2=>
  intro ps hv hp;obtain⟨s,A,c,d⟩:=ih2 ps hv hp;obtain⟨S,B,e,f⟩:=ih1 s A c;exact(S,B,e,f.trans d)
theorem Paired.get2:∀{vs:List Value}{rs:Aa}{i:Nat}{r:List Int},Paired R vs rs->rs[i]?=some r->∃v,vs[i]?=some v/\R v r
 |_,_,_,_,.nil,h=>by simp at h
 |_,_,0,_,.cons p _,h=>by simp at h;subst h;exact(_,rfl,p)
 |_,_,i+1,r,.cons _ t,h=>by
  obtain⟨v,H,a⟩:=Paired.get2 (i:=i) (r:=r) t (by simpa using h);exact(v,by simpa using H,a)
end
section
variable {K:W.Frag}{U:AI}
theorem OB:∀{us:List V}{ds:List D},Reps K G us ds->∀p∈us.zip ds,AY K G p.1 p.2
 |_,_,.nil,p,h=>by cases h
 |_,_,.cons r t,p,h=>by
  rcases Ar.mp h with e|e
  ·subst e;exact r
  ·exact OB t p e
theorem NH:∀ps:List (V × List Int),(∀p∈ps,AY K G p.1 (rowD p.2))->Reps K G (ps.map (·.1)) ((ps.map (·.2)).map rowD)
 |[],_=>.nil
 |p::ps,h=>.cons (h p Bh) (NH ps λq Q=>h q (BQ _ Q))
end
section
variable {K:W.Frag}{U:AI}{P:D->AI->Prop}
end
section
variable {X:Cx}{pins:Ai}{Z:St}{H H':Hp}{s:Shared}{h':Heap}{b:Addr}
end
section
variable {X:Cx}{pins:Ai}{Z:St}{H H':Hp}{s:Shared}{h':Heap}{a C T:Addr}
variable {M:Model}{E:AX}{Q:Unit->Shared->Prop}
end
section
variable {X:Cx}{pins:Ai}{Z:St}{H:Hp}{s:Shared}{a C:Addr}
end
section
variable {X:Cx}
end
section
variable {P:Program}{w:World}{K:W.Frag}{mg:Str->Option Value}{base:Heap}
end
section
variable {K:W.Frag}{U:AI}{E:XK}{Xp:Addr->Prop}{nx bk ct:AI->Prop}{rt:D->AI->Prop}{ro:OD->AI->Prop}
end
open PySem PySem.Spec PyProof.Rows PySem.SeqAt
section
variable {K:W.Frag}{U:AI}{P:D->AI->Prop}
end
section
variable {K:W.Frag}{U:AI}
end
section
variable {X:Cx}
def CDivB (i j:Int):Prop:=0<j/\j<=100000000000000000000000000000000000000000000000000000000000
theorem LZ:OpR X (binaryOp .FloorDiv) (rI CDivB λi j=>.int<|i / j):=opI λi j _ _ _ _ _ c q=>by
 have a:(0:Int)<j:=c.1;have b:=c.2;refine floordiv_int (by lia) (by rw[Int.fdiv_eq_ediv_of_nonneg i (by lia)];exact q) (.inl<|PyProof.noPylong_of_log2 ?_);have h:j.natAbs<=100000000000000000000000000000000000000000000000000000000000:=by omega
 have H:j.natAbs<2 ^ 200:=EW h (by decide);exact IK ((Nat.log2_lt<|by lia).2 H) (by decide)
end
section
variable {K:W.Frag}{U:AI}{E:XK}{Xp:Addr->Prop}{P:D->AI->Prop}
end
def keyPd:AO->PyData
 |.inl i=>.int i
 |.inr x=>.str x
mutual
def D.pd:D->PyData
 |.non=>.none
 |.bl b=>.bool b
 |.int i=>.int i
 |.str x=>.str x
 |.tup ds=>.tuple (D.pds ds)
 |.lst ds=>.list (D.pds ds)
 |.dct ks ds=>.dict ((ks.map keyPd).zip (D.pds ds))
 |_=>.none
def D.pds:List D->List PyData
 |[]=>[]
 |d::ds=>D.pd d::D.pds ds
end
section
variable {X:Cx}
end
def PV (K:W.Frag) (te:TE) (U:AI) (d:D):Prop:=∀P:D->AI->Prop,P d U -> JE K te U P
def PVs (K:W.Frag) (ta:TA) (U:AI) (ds:List D):Prop:=∀P:List D->AI->Prop,P ds U -> JA K ta U P
def PR2 (K:W.Frag) (r:R2) (d e:D) (U:AI) (x:D):Prop:=∀P:D->AI->Prop,P x U -> JR2 K r d e U P
section
variable {K:W.Frag}{U:AI}
theorem Gf (h:PV K te U d) (p:P d U):JE K te U P:=h P p
theorem Wq (h:PVs K ta U ds) (p:P ds U):JA K ta U P:=h P p
theorem DJ (h:U[i]?=some (.val d)):PV K (tVar i) U d:=λP p=>AF h p
theorem Dv:PV K (tC (.int i)) U (.int i):=λP p=>Ac p
theorem V5:PVs K tNil U []:=λP p=>AM p
theorem OQ (h:PV K ta U d) (t:PVs K tr U ds):PVs K (tCons ta tr) U (d::ds):=λP p=>AJ<|h _<|t _ p
theorem Cs (a:PV K ta U d) (b:PV K tb U e) (h:PR2 K r d e U x):PV K (tOp r ta tb) U x:=λP p=>AU<|a _<|b _<|h P p
theorem Zzf (h:atI ds i=some d):PR2 K (rIxU K) (.tup ds) (.int i) U d:=λP p=>BK h p
theorem Zyq (h:atI ds i=some d):PR2 K (rIxU K) (.lst ds) (.int i) U d:=λP p=>Du h p
theorem Lc:PR2 K (rAddU K) (.int i) (.int j) U (.int<|i+j):=λP p=>Co p
theorem Zzv {f:Int->Int->Int}:PR2 K (rI0 λi j=>.int<|f i j) (.int i) (.int j) U (.int<|f i j):=λP p=>Di p
theorem pr_I {f:Int->Int->Int}(hc:C i j):PR2 K (rI C λi j=>.int<|f i j) (.int i) (.int j) U (.int<|f i j):=λP p=>jr_I hc p
theorem L5 (a:PV K ta U (.tup ds)) (b:PV K tb U (.int i)) (h:atI ds i=some d):PV K (tOp (rIxU K) ta tb) U d:=Cs a b<|Zzf h
theorem Zyg (a:PV K ta U (.lst ds)) (b:PV K tb U (.int i)) (h:atI ds i=some d):PV K (tOp (rIxU K) ta tb) U d:=Cs a b<|Zyq h
theorem QA (hx:U[n]?=some (.val (.tup ds))) (h:atI ds i=some d):PV K (tOp (rIxU K) (tVar n)<|tC (.int i)) U d:=L5 (DJ hx) Dv h
theorem Vc (a:PV K ta U (.tup ds)):PV K (tCB (rLenU K)<|tCons ta tNil) U (.int ds.length):=λP p=>BC<|AJ<|a _<|AM<|CM (.inr rfl) p
end
open PySem PySem.Spec PyProof.Rows PySem.SeqAt
section
variable {K:W.Frag}{U:AI}{P:D->AI->Prop}
end
open PySem PySem.Spec PyProof.Rows PySem.SeqAt
section
variable {K:W.Frag}{U:AI}
def valT (kvs:List (List AO × D)) (k:List AO):Option D:=(kvs.find? λv=>decide (v.1=k)).map (·.2)
def putT (kvs:List (List AO × D)) (k:List AO) (v:D):List (List AO × D):=if (kvs.any λV=>decide (V.1=k))=true then kvs.map (λV=>if V.1=k then (V.1,v) else V) else kvs++[(k,v)]
def KTD (K:W.Frag) (G:Hp):List (List AO × V)->List (List AO × D)->Prop:=Paired λ(p:List AO × V) (q:List AO × D)=>p.1=q.1/\AY K G p.2 q.2
theorem PL (rz:AY K G z d):∀{kvs:List (List AO × V)}{kds:List (List AO × D)},KTD K G kvs kds->AY K G ((valV kvs k).getD z) ((valT kds k).getD d)
 |_,_,.nil=>rz
 | (k1,v1)::kvs,(k2,d2)::kds,.cons (e,r) t=>by
  have e:k1=k2:=e;subst e;by_cases hk:k1=k
  ·subst hk
   rw[Hd (p:=(k1,v1)) rfl,show valT ((k1,d2)::kds) k1=some d2 by simp[valT,DU]];exact r
  ·rw[HZ (p:=(k1,v1)) hk,show valT ((k1,d2)::kds) k=valT kds k by simp[valT,DU,hk]]
   exact PL rz t
theorem Pf:∀{kvs:List (List AO × V)}{kds:List (List AO × D)},KTD K G kvs kds->(kvs.any λkv=>decide (kv.1=k))=kds.any λkv=>decide (kv.1=k)
 |_,_,.nil=>rfl
 |_::_,_::_,.cons (e,_) t=>by
  rw[FT,FT,Pf t,e]
theorem Pt (rv:AY K G v d):∀{kvs:List (List AO × V)}{kds:List (List AO × D)},KTD K G kvs kds->KTD K G (kvs.map λkv=>if kv.1=k then (kv.1,v) else kv) (kds.map λkv=>if kv.1=k then (kv.1,d) else kv)
 |_,_,.nil=>.nil
 |p::_,q::_,.cons (e,r) t=>by
  refine .cons ?_<|Pt rv t;dsimp only;by_cases hk:p.1=k
  ·rw[AD hk,AD (e ▸ hk)];exact(e,rv)
  ·rw[AB hk,AB (e ▸ hk)];exact(e,r)
theorem Vy (rv:AY K G v d) (h:KTD K G kvs kds):KTD K G (putK kvs k v) (putT kds k d):=by
 unfold putK putT;rw[Pf h];split
 ·exact Pt rv h
 ·exact Paired.snoc h (rfl,rv)
theorem Nf (ks:List Int):((ks.map Sum.inl:List AO).map kV)=ks.map V.int:=by rw[A5];rfl
end
def SqX (K:W.Frag) (H:Hp) (t:Bool) (a:Addr) (z:List V):Prop:=if t=true then SqL K H a z else SqT K H a z
def rCount0 (K:W.Frag):V->List V->Hp->VK->Prop:=λx s H Q=>∃(l b:Addr) (t:Bool) (xs:List V) (zs:List (List V)),x=.ref l/\s=[.ref b]/\SqL K H l xs/\Paired (λ(x:V) (z:List V)=>∃a,x=.ref a/\SqX K H t a z) xs zs/\SqX K H t b []/\Q (.int (zs.countP (·.isEmpty):Nat)) H
def bareAt (h:Heap):Value->Bool
 |.ref a=>match h.get? a with
  |some o=>match o.data with
   |.seq items _=>items.isEmpty
   |_=>false
  |none=>false
 |_=>false
theorem TY (I:AG X pins Z H s) (hv:X.A.units+8<cLine) (ha:SqX X.K H t a z) (hb:SqX X.K H t b []):bareAt s.heap (.ref a)=z.isEmpty/\EqAt X.A.in1 s (.ref a) (.ref b) z.isEmpty:=by
 have u:X.A.in1.units<cLine:=by show X.A.units+1<cLine;lia
 cases t with
 |true=>
  have ha:SqL X.K H a z:=ha;obtain⟨S,w,p,_⟩:=I.list ha;obtain⟨i,W,P,_⟩:=I.list (show SqL X.K H b [] from hb);cases W;refine(?_,?_)
  ·obtain⟨o,e,_,n,d⟩:=p.isList
   show (match s.heap.get? a with|some o=>(match o.data with|.seq items _=>items.isEmpty|_=>false)|none=>false)=_;rw[e];dsimp only;rw[d];cases w <;> rfl
  ·by_cases hab:a=b
   ·subst hab
    rw[I.list_inj ha hb];exact EqAt.same _
   ·refine EqAt.of_refs hab ?_
    cases w with
    |nil=>exact RcAt.lists (e:=λ_=>true) p.isList P.isList rfl u (λj _ z=>absurd z (by simp))
    |cons r t=>exact RcAt.lists_lengths p.isList P.isList (by simp) u
 |false=>
  have ha:SqT X.K H a z:=ha;obtain⟨S,w,p,_⟩:=I.tuple ha;obtain⟨i,W,P,_⟩:=I.tuple (show SqT X.K H b [] from hb);cases W;refine(?_,?_)
  ·obtain⟨o,e,_,n,d⟩:=p
   show (match s.heap.get? a with|some o=>(match o.data with|.seq items _=>items.isEmpty|_=>false)|none=>false)=_;rw[e];dsimp only;rw[d];cases w <;> rfl
  ·by_cases hab:a=b
   ·subst hab
    rw[I.tuple_inj ha hb];exact EqAt.same _
   ·refine EqAt.of_refs hab ?_
    have r:=RcAt.tuples (s:=s) (e:=λ_=>true) p P u (λj _ z=>absurd z<|by simp);cases w with
    |nil=>exact r
    |cons _ _=>simpa using r
theorem count0K (K:W.Frag) (hv:X.A.units+8<cLine) (hK:X.K=K:=by rfl):MtM X "list.count" (rCount0 K):=by
 subst hK;intro pins s Z H x vs v us Q I rx rv h;obtain⟨l,b,t,c,S,rfl,rfl,G,P,B,q⟩:=h;cases rx;obtain⟨u,rfl,U⟩:=rv.one;cases U;obtain⟨i,R,N,hz⟩:=I.list G;obtain⟨⟨L,g,T,O⟩,o,C,m,D⟩:=N.isList;simp only at C D;subst C D;have k:∀{c:List V}{i:List Value}{S:List (List V)},Vals c i->Paired (λ(x:V) (z:List V)=>∃a,x=.ref a/\SqX X.K H t a z) c S->(∀w∈i,EqAt X.A.in1 s w (.ref b) (bareAt s.heap w))/\i.countP (bareAt s.heap)=S.countP (·.isEmpty):=by
  intro c i S w p
  induction w generalizing S with
  |nil=>cases p;exact(λw e=>(nomatch e),rfl)
  |cons r t ih=>
   cases p with
   |cons hx t2=>
    obtain⟨a,rfl,n⟩:=hx;cases r;obtain⟨E,j⟩:=TY I hv n B;obtain⟨J,M⟩:=ih t2;refine(λw e=>?_,by rw[Fy,Fy,M,E]);rcases Ar.mp e with z|z
    ·rw[z,E];exact j
    ·exact J w z
 obtain⟨f,d⟩:=k R P;refine call_meets PySem.F.slot_list_count (_,o,rfl) PySem.F.entry_list_count (PySem.F.args_list_count_2 _ _) (list_countAt l i.toArray m g O (.ref b)<|bareAt s.heap) (o,λy Y=>f y (by simpa using Y),?_);rw[show i.toArray.toList=i from rfl,d];exact(.int _,H,I.tok _,(_,rfl),q)
def kindD:Bool->List D->D
 |true,ds=>.lst ds
 |false,ds=>.tup ds
theorem Sm {K:W.Frag}{U:AI}{P:D->AI->Prop}{to te:TE}(t:Bool) (h:JE K to U λd U1=>∃zs:List (List D),d=.lst (zs.map<|kindD t)/\JE K te U1 λe U2=>e=kindD t []/\P (.int (zs.countP (·.isEmpty):Nat)) U2) :
  JE K (tBM K "list" (rCount0 K) to<|tCons te tNil) U P:=λg G H Z Q k c=>
 h g G H Z _ k λv d G1 H1 U1 k1 s1 r1 (zs,ed,p1)=>by
  subst ed;obtain⟨l,S,rfl,L,j⟩:=r1.inv;refine(.inl (rfl,_,SqL.of<|k1.live _ _ L),p1 g G1 H1 Z _ k1 λu e G2 H2 U2 k2 s2 r2 (ee,p2)=>?_);subst ee;have y:∀{S:List V}{zs:List (List D)},Reps K G2 S (zs.map<|kindD t)->∃s:List (List V),Paired (λ(x:V) (z:List V)=>∃a,x=.ref a/\SqX K H2 t a z) S s/\s.countP (·.isEmpty)=zs.countP (·.isEmpty):=by
   intro S zs r
   induction zs generalizing S with
   |nil=>cases r;exact([],.nil,rfl)
   |cons z zs ih=>
    cases r with
    |cons ra rb=>
     obtain⟨s,i,I⟩:=ih rb;cases t with
     |true=>
      obtain⟨a,f,rfl,A,R⟩:=ra.inv;exact(f::s,.cons (a,rfl,SqL.of<|k2.live _ _ A) i,by rw[Fy,Fy,I,R.isEmpty])
     |false=>
      obtain⟨a,f,rfl,A,R⟩:=ra.inv;exact(f::s,.cons (a,rfl,SqT.of<|k2.live _ _ A) i,by rw[Fy,Fy,I,R.isEmpty])
  obtain⟨s,i,I⟩:=y<|j.mono s2;have B:∃b,u=.ref b/\SqX K H2 t b []:=by
   cases t with
   |true=>obtain⟨b,f,rfl,B,R⟩:=r2.inv;cases R.inv;exact(b,rfl,SqL.of (k2.live _ _ B))
   |false=>obtain⟨b,f,rfl,B,R⟩:=r2.inv;cases R.inv;exact(b,rfl,SqT.of (k2.live _ _ B))
  obtain⟨b,rfl,B⟩:=B;refine(l,b,t,S,s,rfl,rfl,SqL.of<|k2.live _ _<|s2 _ _ L,i,B,?_);rw[I];exact c _ _ G2 H2 U2 k2 (s1.trans s2) (.int _) p2
section
variable {K:W.Frag}{U:AI}{nx bk ct:AI->Prop}{rt:D->AI->Prop}{ro:OD->AI->Prop}
end
section
variable {K:W.Frag}{U:AI}{P:D->AI->Prop}
end
end L2
set_option Elab.async false
set_option linter.all false
set_option maxRecDepth 100000
namespace HT
open PySem PyProof.Rows
end HT
namespace L2
open PySem PySem.Spec PyProof.Rows
section
variable {K:W.Frag}{U:AI}{P:D->AI->Prop}
end
section
variable {prog:Program}{w:World}{A:Around}{R:Result->Shared->Prop}{I:Addr}{fp wr:List Addr}{G:Array GenState->Array GenState->Prop}{n:Nat}{P:Nat->Value->Prop}{St:Nat->Shared->Prop}{K:Type}[DecidableEq K] {knd:KeyKind prog w K}
end
section
variable {X:Cx}
end
section
variable {prog:Program}{w:World}{A:Around}{E:AX}{s:Shared}
end
section
variable {K:W.Frag}{U:AI}{P:D->AI->Prop}
end
open PySem PySem.Spec PyProof.Rows PySem.SeqAt
section
variable {prog:Program}{w:World}{A:Around}{E:AX}{s:Shared}
end
section
variable {K:W.Frag}{U:AI}
end
open PySem PySem.Spec PyProof.Rows PySem.SeqAt
theorem Sw (a b:List Int):(((AR<|min a.length b.length).all λj=>decide (a.getD j 0=b.getD j 0)) && a.length == b.length)=decide (a=b):=by
 rw[F1,Cj,Ci,beq_iff_eq,decide_eq_true_iff];constructor
 ·rintro⟨h,H⟩
  apply List.ext_getElem H;intro i hi hj;have:=of_decide_eq_true (h i<|Ax.mpr (by lia));rw[Ao,Ao,AQ hi,AQ hj]at this;exact this
 ·rintro rfl
  exact(λj _=>A1 rfl,rfl)
section
variable {A:Around}{s:Shared}
theorem OJ (hx:RowAt s.heap x a) (hy:RowAt s.heap y b) (hu:A.units<cLine):EqAt A s x y (decide (a=b)):=by
 obtain⟨p,S,rfl,k,I⟩:=id hx;obtain⟨q,i,rfl,m,c⟩:=id hy;by_cases e:p=q
 ·subst e
  rw[A1 (hx.inj hy)];exact EqAt.same _
 ·have l:=I.length
  have L:=c.length;have:=RcAt.tuples (A:=A) (s:=s) (e:=λj=>decide (a.getD j 0=b.getD j 0)) k m hu λj d f=>by
   have h:j<S.length:=by simpa using d
   have H:j<i.length:=by simpa using f
   obtain⟨t,E⟩:=IntsAre.int_at I j _<|AQ h;obtain⟨g,T⟩:=IntsAre.int_at c j _<|AQ H;rw[IB,IB,E,T];have z:=EqAt.int_int (A:=A.in1) (s:=s) (a.getD j 0) t (b.getD j 0) g;rw[KH]at z;exact z
  rw[Az,Az,l,L,Sw]at this;exact EqAt.of_refs e this
end
def cLt:Aa->Aa->Bool
 |[],[]=>false
 |[],_::_=>true
 |_::_,[]=>false
 |x::xs,y::ys=>if x=y then cLt xs ys else rlt x y
def CodeAt (h:Heap) (v:Value) (c:Aa):Prop:=∃(a:Addr) (its:List Value),v=.ref a/\IsTup h a its.toArray/\Paired (RowAt h) its c
theorem CodeAt.keep (x:CodeAt h v c) (k:∀b o,h.get? b=some o->h'.get? b=some o):CodeAt h' v c:=by
 obtain⟨a,s,e,⟨o,O,C⟩,i⟩:=x;exact(a,s,e,(o,k a o O,C),Paired.mapP i λ_ _ z=>z.keep k)
section
open PySem.AutoSeq1 (wpAny_loadPart')
open PySem.MeetsSeq PySem.MeetsSeq2 PySem.MeetsSeq3
theorem Q7 (l b:Addr) (items items2:Array Value) (n n2:Nat) (dd dd2:Option Addr) (sl sl2:Array (Option Value)) (ns ms:Aa) :
  Meets (Builtin.«tuple.__lt__» ([.ref l,.ref b],[]))
   (λA R s=>A.units+1<cLine/\(Paired (RowAt s.heap) items.toList ns/\Paired (RowAt s.heap) items2.toList ms)/\s.heap.get? l=some { cls:=.type "tuple",dict:=dd,data:=.seq items n,slots:=sl } /\ s.heap.get? b=some { cls:=.type "tuple",dict:=dd2,data:=.seq items2 n2,slots:=sl2 } /\
    R (.ok (.ret (.bool (cLt ns ms)))) s):=
 .of_wp λo w A R s h=>by
  obtain⟨p,g,d,k,O⟩:=s;obtain⟨Y,⟨P,U⟩,hl,hb,h⟩:=h;have f2:=AutoSeq1.sub_tuple_tuple;have z1:items.size=ns.length:=by rw[<- Paired.length P];simp
  have z2:items2.size=ms.length:=by rw[<- Paired.length U];simp
  wp_walk using wpAny_loadPart' hl,wpAny_loadPart' hb,wpAny_forIn_list _ (λt b G=>b.1=none/\G=(p,g,d,k,O) /\ ∃(V W:List Value) (S m:Aa),t=V.zip W /\
   Paired (RowAt p) V S /\ Paired (RowAt p) W m /\ S.length+items2.size=m.length+items.size/\R (.ok (.ret (.bool (cLt S m)))) (p,g,d,k,O)) _
  case turn=>
   rintro⟨y,x⟩ t b G ⟨B,rfl,V,W,S,m,z,v,i,N,H⟩;cases v with
   |nil=>rw[J8]at z;cases z
   |@cons _ a _ _ ra hvi'=>
    cases i with
    |nil=>rw[KO]at z;cases z
    |@cons _ c _ _ rc hwi'=>
     rw[FH]at z;injection z with hyx hrest
     injection hyx with hy hx
     subst hy hx;have H:R (.ok (.ret (.bool (if a=c then cLt _ _ else rlt a c)))) (p,g,d,k,O):=H;simp only[Aj]at N;have he:=OJ (A:=A.in1) (s:=(p,g,d,k,O)) ra rc (by show A.units+1<cLine;exact Y);refine AA<|he o w _ _ ?_;by_cases e:a=c
     ·rw[AD e]at H
      rw[A1 e]
      wp_walk
      exact(rfl,rfl,_,_,_,_,hrest,hvi',hwi',by lia,H)
     ·rw[AB e]at H
      rw[A7 e];have u:∀(Q:AX) (E:AX),Q (.bool<|rlt a c) (p,g,d,k,O) -> wpAny (model o w) A.in1 (richCompare .Lt y x) Q E (p,g,d,k,O):=λQ E q=>by
       obtain⟨l',j,rfl,⟨⟨c1,d1,a0,J⟩,X,K,k1,M⟩,r⟩:=ra;obtain⟨l2,T,rfl,⟨⟨c2,d2,a1,L⟩,f,C,k2,D⟩,I⟩:=rc;simp only at K M C D;subst K M C D;exact richCompare_meets_room (op:=.Lt) (_,X,rfl) (_,f,rfl) PySem.F.slot_tuple_lt PySem.F.entry_tuple_lt (PySem.F.args_tuple_lt_2 _ _) (HT.tuple_lt_ints l' l2 j.toArray T.toArray k1 k2 d1 d2 J L a c (by simpa using r) (by simpa using I))
        (X,f,show Value.bool (HT.lexLt a c)≠Value.notImplemented/\_ from ((λx=>nomatch x),q)) (by show A.units+1<cLine;exact Y)
      wp_walk using u
      exact(_,rfl,by simpa using H)
  case fin=>
   rintro⟨b1,b2⟩ G ⟨B,rfl,V,W,S,m,z,v,i,N,H⟩;simp only at B;subst B;have Z:cLt S m=decide (items.size<items2.size):=by
    cases v with
    |nil=>
     cases i with
     |nil=>
      simp only[DE]at N;exact(A7<|by lia).symm
     |cons _ hw=>
      simp only[DE,Aj]at N;exact(A1<|by lia).symm
    |cons _ Z=>
     cases i with
     |nil=>
      simp only[DE,Aj]at N;exact(A7<|by lia).symm
     |cons _ hw=>
      rw[FH]at z;cases z
   rw[Z]at H
   wp_walk
   exact(_,rfl,by simpa [Builtin.Tuple.tupleCompareSizes] using H)
  ·exact(rfl,rfl,_,_,_,_,rfl,P,U,by lia,h)
end
theorem Paired.getC:∀{vs:List α}{rs:List β}{i:Nat}{v:α},Paired R vs rs->vs[i]?=some v->∃r,rs[i]?=some r/\R v r
 |_,_,_,_,.nil,e=>by simp at e
 |_,_,0,_,.cons r _,e=>by simp at e;subst e;exact(_,rfl,r)
 |_,_,i+1,_,.cons _ t,e=>Paired.getC (i:=i) t (by simpa using e)
section
variable {prog:Program}{w:World}{A:Around}{E:AX}{s:Shared}
end
end L2
namespace L2
open PySem PySem.Spec PyProof.Rows PySem.SeqAt
def RowV (K:W.Frag) (H:Hp) (y:V) (r:List Int):Prop:=∃b,y=.ref b/\SqT K H b (r.map V.int)
def CodeV (K:W.Frag) (H:Hp) (y:V) (c:Aa):Prop:=∃b zs,y=.ref b/\SqT K H b zs/\Paired (RowV K H) zs c
section
variable {X:Cx}
theorem LF {R:V -> α -> Prop}{T:Value -> α -> Prop}(h:∀y u c,RelV y u->R y c->T u c):∀{ys:List V}{us:List Value}{cs:List α},Vals ys us->Paired R ys cs->Paired T us cs
 |_,_,_,.nil,.nil=>.nil
 |_,_,_,.cons a b,.cons c d=>.cons (h _ _ _ a c) (LF h b d)
theorem Wn (I:AG X pins Z H s) (ru:RelV y u) (h:RowV X.K H y r):RowAt s.heap u r:=by
 obtain⟨b,rfl,S⟩:=h;obtain⟨t,w,p,_⟩:=I.tuple S;exact(b,t,ru,p,K5 w)
theorem V2 (I:AG X pins Z H s) (ru:RelV y u) (h:CodeV X.K H y c):CodeAt s.heap u c:=by
 obtain⟨b,z,rfl,S,p⟩:=h;obtain⟨t,w,P,_⟩:=I.tuple S;exact(b,t,ru,P,LF (R:=RowV X.K H) (T:=RowAt s.heap) (λy u c a b=>Wn I a b) w p)
end
section
variable {K:W.Frag}{U:AI}{P:D->AI->Prop}
theorem V4 (hs:Same G H) (h:AY K G v (rowD r)):RowV K H v r:=by
 obtain⟨a,S,rfl,A,s⟩:=h.inv;have e:=s.ints;subst e;exact(a,rfl,SqT.of<|hs _ _ A)
theorem LL (hs:Same G H):∀{vs:List V}{c:Aa},Reps K G vs (c.map rowD)->Paired (RowV K H) vs c
 |_,[],.nil=>.nil
 |_,r::c,.cons a b=>.cons (V4 hs a) (LL hs b)
theorem NL (hs:Same G H):∀{vs:List V}{cs:List (List<|List Int)},Reps K G vs (cs.map λc=>D.tup<|c.map rowD)->Paired (CodeV K H) vs cs
 |_,[],.nil=>.nil
 |_,c::cs,.cons a b=>by
  obtain⟨p,w,rfl,h,s⟩:=a.inv;exact .cons (p,w,rfl,SqT.of<|hs _ _ h,LL hs s)<|NL hs b
end
open PySem PySem.Spec PyProof.Rows PySem.SeqAt
def rNeT (K:W.Frag):R2:=λx y H Q=>∃(G:Hp) (n:Nat) (xs ys:List D) (a b:Addr) (vs ws:List V),Same G H/\SqT K H a vs/\SqT K H b ws/\Reps K G vs xs/\Reps K G ws ys/\(∀d∈xs,Dp n d)/\(∀d∈ys,Dp n d)/\n<=5/\x=.ref a/\y=.ref b/\Q (.bl (!(eqF (n+1) (.tup xs) (.tup ys)))) H
section
variable {X:Cx}
theorem neTK (K:W.Frag) (hv:X.A.units+8<cLine) (hK:X.K=K:=by rfl):OpR X (compareOp .NotEq) (rNeT K):=by
 subst hK;intro pins s Z H x y v u Q I rx ry h;obtain⟨G,n,S,Y,a,b,vs,ws,sg,M,N,R,C,pd,pe,hn,rfl,rfl,q⟩:=h;cases rx;cases ry;obtain⟨i,D,p1,_⟩:=I.tuple M;obtain⟨t,E,p2,_⟩:=I.tuple N;have O:=D.length;have T:=E.length;have U:=R.length;have l4:=C.length;have z:=RcNeAt.tuples (A:=X.A) (s:=s) (e:=atZip n S Y) p1 p2 (by lia) λj J L=>by
  have g:j<i.length:=by simpa using J
  have d:j<t.length:=by simpa using L
  have r:j<S.length:=by lia
  have B:j<Y.length:=by lia
  obtain⟨p,P,f⟩:=R.get<|AQ r;obtain⟨q,k,l⟩:=C.get<|AQ B;obtain⟨va,V,m⟩:=D.get P;obtain⟨vb,c,o⟩:=E.get k;rw[AQ g]at V;rw[AQ d]at c;rw[IB,IB,BY.inj V,BY.inj c];have:=(L8 n (A:=X.A.in1) I sg f l m o (pd _<|Br r) (pe _<|Br B) (by show X.A.units+1+n<cLine;lia)).1;unfold atZip;rw[AQ r,AQ B];exact this
 have F:(!((AR<|min i.toArray.size t.toArray.size).all (atZip n S Y) && i.toArray.size == t.toArray.size)) = !(eqF (n+1) (.tup S) (.tup Y)):=by
  show _ = !(S.length == Y.length && (S.zip Y).all λp=>eqF n p.1 p.2);rw[<- JU,Az,Az,<- O,<- T,U,l4,IG]
 rw[F]at z;exact z X.prog X.w _ _ (.bl _,H,I,rfl,q)
end
section
variable {K:W.Frag}{U:AI}{P:D->AI->Prop}
theorem L0 (hn:n<=5) (pd:∀d∈xs,Dp n d) (pe:∀d∈ys,Dp n d) (p:P (.bl (!(eqF (n+1) (.tup xs) (.tup ys)))) U):JR2 K (rNeT K) (.tup xs) (.tup ys) U P:=λg G H Z Q x y k r Y c=>by
 obtain⟨a,v,rfl,h,s⟩:=r.inv;obtain⟨b,w,rfl,B,t⟩:=Y.inv;exact(G,n,xs,ys,a,b,v,w,k.live,SqT.of<|k.live _ _ h,SqT.of<|k.live _ _ B,s,t,pd,pe,hn,rfl,rfl,c _ _ G H U k (Same.refl _) (.bl _) p)
end
open PySem PySem.Spec PyProof.Rows PySem.SeqAt
section
variable {X:Cx}
theorem RE (l:Addr) (items:Array Value) (n:Nat) (b:Addr) (items2:Array Value) (n2:Nat) (hbl:b≠l) (hs0:¬(!items.isEmpty && Builtin.List.listTooLong (items.size+items2.size))=true) (hs1:items.size<=sizeLine) (hs2:items.size+items2.size<=sizeLine+1) :
  Meets (Builtin.«list.extend» ([.ref l,.ref b],[])) (λ_ R s=>s.heap.get? l=some { cls:=.type "list",dict:=none,data:=.seq items n,slots:=#[] } /\ s.heap.get? b=some { cls:=.type "list",dict:=none,data:=.seq items2 n2,slots:=#[] } /\ R (.ok (.ret Value.none)) { s with heap:=s.heap.update l (Obj.mapSeq λx=>x++items2),toks:=s.toks }):=
 .of_wp λo w A R s h=>by
  obtain⟨p,g,d,k,S⟩:=s;obtain⟨L,B,h⟩:=h;have f:=AutoSeq1.sub_tuple_tuple;have F:=AutoSeq1.sub_list_list;have a:=AutoSeq1.sub_tuple_list;have c:=AutoSeq1.sub_list_tuple;have z:(items++items2).size<=sizeLine+1:=by rw[Array.size_append];exact hs2
  wp_walk using (wpAny_updateSeq L rfl (hz:=hs1) (_hz':=z)),AutoSeq1.wpAny_loadPart' L,AutoSeq1.wpAny_loadPart' B;exact(_,rfl,h)
def rExtendL:V->List V->Hp->VK->Prop:=λx s H Q=>∃l b xs zs,x=.ref l/\s=[.ref b]/\b≠l/\H l=some (.lst xs)/\H b=some (.lst zs)/\xs.length+zs.length<=1000/\Q .non (upd H l (.lst<|xs++zs))
theorem extLK:MtM X "list.extend" rExtendL:=by
 intro pins s Z H x vs v us Q I rx rv h;obtain⟨l,b,m,p,rfl,rfl,L,a,B,k,q⟩:=h;cases rx;obtain⟨u,rfl,U⟩:=rv.one;cases U;obtain⟨z,i,n,r,j,e⟩:=I.lstM a;obtain⟨o,t,N,R,c,E⟩:=I.lstM B;have d:=R.length;have f:sizeLine >= 1000:=by decide
 have S:i.toArray.size+t.toArray.size<=sizeLine:=by rw[Az,Az];lia
 have g:¬ (!i.toArray.isEmpty && Builtin.List.listTooLong (i.toArray.size+t.toArray.size))=true:=by
  rw[notLongL S,ER];exact BR
 refine call_meets F.slot_list_extend (_,e,rfl) F.entry_list_extend (F.args_list_extend_2 _ _)
  (RE l i.toArray n b t.toArray N L g (by rw[Az];lia)<|by lia) (e,E,?_)
 refine(.non,_,I.lset (its':=i++t) a e (by simp) (r.append R) ?_,rfl,q);rw[Aw];lia
end
section
variable {K:W.Frag}{U:AI}{P:D->AI->Prop}
theorem O3 {n:Nat}{te:TE}{x:Slot}{ds0:List D}{nx bk ct:AI->Prop}{rt:D->AI->Prop}{ro:OD->AI->Prop}(hx:U[n]?=some x) (ho:x.od=some (.lst ds0))
  (h:JE K te U λd U1=>∃y ds es,U1[n]?=some y/\y.od=some (.lst ds)/\d=.lst es/\ds.length+es.length<=1000/\nx (U1.set n<|y.put (.lst<|ds++es))) :
  JS K (tDrop<|tBM K "list" rExtendL (tVar n)<|tCons te tNil) U (nx,rt,bk,ct,ro):=λg G H Z E k c=>by
 obtain⟨a,o,e,i,j,m,q⟩:=k.own n x _ hx ho;cases o with
 |lst vs0=>
  refine(.ref a,e,.inl (rfl,_,SqL.of i),h g G H Z _ k λv d G1 H1 U1 k1 s1 r1 (y,ds,es,q1,q2,q3,q4,p)=>?_);subst q3;obtain⟨b,s,rfl,B,r⟩:=r1.inv
  next=>
   obtain⟨A,O,W,l,w,f,t⟩:=k1.own n y _ q1 q2;rw[e]at W;cases W;cases O with
   |lst vs=>
    have w:Reps K G1 vs ds:=w;exact(a,b,vs,s,rfl,rfl,λz=>(by subst z;rw[B]at f;cases f),l,k1.live _ _ B,by rw[w.length,r.length];exact q4,c.nx Z G1 _ _ (k1.write q1 q2 e (show OwnRep K G1 (.lst<|vs++s) (.lst<|ds++es) from w.append r)) p)
   |_=>exact absurd w (λz=>z)
 |_=>exact absurd j (λz=>z)
end
open PySem PySem.Spec PyProof.Rows PySem.SeqAt
open PySem PySem.Spec PyProof.Rows PySem.SeqAt
section
variable {X:Cx}
end
section
variable {prog:Program}{w:World}{A:Around}{E:AX}{s:Shared}
end
section
variable {K:W.Frag}{U:AI}{P:D->AI->Prop}
end
open PySem PySem.Spec PyProof.Rows PySem.SeqAt
section
variable {prog:Program}{w:World}{A:Around}{E:AX}{s:Shared}
end
section
variable {K:W.Frag}{U:AI}
end
section
variable {K:W.Frag}{U:AI}{P:D->AI->Prop}
end
section
variable {X:Cx}
end
def advM (m:Nat) (p:SetTable.Probe):SetTable.Probe:=
 if p.more > 0 then { p with j:=p.j+1,more:=p.more-1 } else
 let (i,perturb):=SetTable.leap m p.i p.perturb
 { p with j:=i,more:=SetTable.runEnd m i-i,i,perturb }
def prb (m:Nat) (h:Int):Nat->SetTable.Probe
 |0=>{ j:=SetTable.bits h % (m+1),more:=SetTable.runEnd m (SetTable.bits h % (m+1))-SetTable.bits h % (m+1),i:=SetTable.bits h % (m+1),perturb:=SetTable.bits h,dummy:=none }
 |n+1=>advM m (prb m h n)
def lp (m:Nat) (h:Int):Nat->Nat × Nat
 |0=>(SetTable.bits h % (m+1),SetTable.bits h)
 |k+1=>SetTable.leap m (lp m h k).1 (lp m h k).2
def runL (m i:Nat):Nat:=SetTable.runEnd m i-i
theorem O4 (m i:Nat):runL m i<=9:=by unfold runL SetTable.runEnd;split <;> lia
theorem Ls (h:i<=m) (hr:r<=runL m i):i+r<=m:=by
 unfold runL SetTable.runEnd at hr;split at hr <;> lia
theorem MR (m:Nat) (h:Int):∀k,(lp m h k).1<=m
 |0=>FK (EB _ (Nat.succ_pos m))
 |k+1=>FK (EB _ (Nat.succ_pos m))
theorem Hi (e:prb m h n=(i,runL m i,i,q,none)):∀r,r<=runL m i->prb m h (n+r)=(i+r,runL m i-r,i,q,none)
 |0,_=>e
 |r+1,hr=>by
  show advM m (prb m h<|n+r)=_;rw[Hi e r (by lia)];unfold advM;rw[AD (show runL m i-r > 0 by lia)];rfl
theorem Jl (m:Nat) (h:Int):∀k,∃n,n<=10*k/\k<=n/\prb m h n=((lp m h k).1,runL m (lp m h k).1,(lp m h k).1,(lp m h k).2,none) /\ ∀n',n'<n->∃k' r,k'<k/\r<=runL m (lp m h k').1/\(prb m h n').j=(lp m h k').1+r
 |0=>(0,AS _,AS _,rfl,λn' h=>absurd h (EY _))
 |k+1=>by
  obtain⟨n,f,e,H,d⟩:=Jl m h k;have g:=O4 m (lp m h k).1;refine(n+runL m (lp m h k).1+1,by lia,by lia,?_,λn' N=>?_)
  ·show advM m (prb m h<|n+runL m (lp m h k).1)=_
   rw[Hi H _ (AS _)];unfold advM;rw[AB (show ¬ runL m (lp m h k).1-runL m (lp m h k).1 > 0 by lia)];rfl
  ·by_cases hc:n'<n
   ·obtain⟨k',r,a,b,c⟩:=d n' hc
    exact(k',r,by lia,b,c)
   ·refine(k,n'-n,by lia,by lia,?_)
    have:=Hi H (n'-n) (by omega);rw[show n+(n'-n)=n' by lia]at this;rw[this]
theorem Wb (m:Nat) (h:Int) (n:Nat):(prb m h n).j<=m:=by
 obtain⟨N,_,A,_,a⟩:=Jl m h<|n+1;obtain⟨k,r,_,b,c⟩:=a n (by lia);rw[c];exact Ls (MR m h k) b
def stp (m:Nat):Nat->Nat->Nat
 |0,i=>i
 |k+1,i=>(stp m k i*5+1) % (m+1)
def DB (m:Nat):Prop:=∀i j,i<=m->j<=m->∃k,k<=m/\stp m k i=j
theorem JV (m:Nat) (a:Nat):∀b i,stp m (a+b) i=stp m b (stp m a i)
 |0,i=>rfl
 |b+1,i=>by show (stp m (a+b) i*5+1) % (m+1)=_;rw[JV m a b i];rfl
theorem Zzl (h1:stp m (m+1) 0=0) (h2:∀j,j<m+1->∃k,k<m+1/\stp m k 0=j):DB m:=by
 intro i j hi hj;obtain⟨a,h,rfl⟩:=h2 i (by lia);obtain⟨b,B,rfl⟩:=h2 j (by lia);by_cases c:a<=b
 ·exact(b-a,by lia,by rw[<- JV,show a+(b-a)=b by lia])
 ·refine(m+1-a+b,by lia,?_)
  rw[<- JV,show a+(m+1-a+b)=(m+1)+b by lia,JV,h1]
def orb (m:Nat):Nat->Nat->List Nat
 |0,_=>[]
 |f+1,i=>i::orb m f ((i*5+1) % (m+1))
theorem Ng (m:Nat):∀k i,stp m (k+1) i=stp m k ((i*5+1) % (m+1))
 |0,i=>rfl
 |k+1,i=>by show (stp m (k+1) i*5+1) % (m+1)=_;rw[Ng m k i];rfl
theorem Pu (m:Nat):∀f i j,j∈orb m f i->∃k,k<f/\stp m k i=j
 |0,i,j,h=>by cases h
 |f+1,i,j,h=>by
  rcases Ar.mp h with e|e
  ·exact(0,by lia,e.symm)
  ·obtain⟨k,a,b⟩:=Pu m f _ j e
   exact(k+1,by lia,by rw[Ng];exact b)
def cycB (m:Nat):Bool:=stp m (m+1) 0 == 0 && (AR<|m+1).all λj=>(orb m (m+1) 0).contains j
theorem Jq (h:cycB m=true):DB m:=by
 unfold cycB at h;rw[Cj]at h;refine Zzl (by simpa using h.1) λj J=>?_;have:=Ci.mp h.2 j<|Ax.mpr J;exact Pu m _ _ j (by simpa using this)
theorem cyc7:DB 7:=Jq (by decide +kernel)
theorem cyc31:DB 31:=Jq (by decide +kernel)
theorem cyc127:DB 127:=Jq (by decide +kernel)
theorem cyc511:DB 511:=Jq (by decide +kernel)
theorem P5 (m:Nat) (h:Int):∀k,(lp m h k).2=SetTable.bits h / 32 ^ k
 |0=>by show SetTable.bits h=_;rw[Nat.pow_zero,Nat.div_one]
 |k+1=>by show (lp m h k).2 / 32=_;rw[P5 m h k,Nat.div_div_eq_div_mul,Nat.pow_succ]
theorem Ve (h:Int):SetTable.bits h<2 ^ 64:=by
 unfold SetTable.bits;have H:=FJ h (show (0:Int)<2 ^ 64 by decide);have a:=FQ h (show (2 ^ 64:Int)≠0 by decide);have:((2:Int) ^ 64)=((2 ^ 64:Nat):Int):=by decide
 lia
theorem Pe (m:Nat) (h:Int):∀k,lp m h (13+k)=(stp m k (lp m h 13).1,0)
 |0=>by
  have e:=P5 m h 13;have b:=Ve h;rw[Nat.div_eq_of_lt (CQ b<|by decide)]at e;show lp m h 13=((lp m h 13).1,0);rw[<- e]
 |k+1=>by
  show SetTable.leap m (lp m h (13+k)).1 (lp m h (13+k)).2=_;rw[Pe m h k];unfold SetTable.leap;show (((stp m k (lp m h 13).1*5+1+0 / 32) % (m+1),0 / 32):_×_)=_;rw[Nat.zero_div];rfl
theorem Nx (hc:DB m) (h:Int) (hj:j<=m):∃k,k<=m+13/\(lp m h k).1=j:=by
 obtain⟨k,a,H⟩:=hc _ _ (MR m h 13) hj;exact(13+k,by lia,by rw[Pe,H])
theorem Sd (hc:DB m) (h:Int) (hj:j<=m):∃n,n<10*(m+15)/\(prb m h n).j=j:=by
 obtain⟨k,c,H⟩:=Nx hc h hj;obtain⟨n,a,_,b,_⟩:=Jl m h k;exact(n,by lia,by rw[b];exact H)
def Dj (m:Nat) (pl:Nat->Prop) (h:Int) (j:Nat):Prop:=∃n,n<10*(m+15)/\(prb m h n).j=j/\∀n',n'<n->pl (prb m h n').j
theorem Dj.mono (r:Dj m pl h j) (i:∀x,pl x->pl' x):Dj m pl' h j:=
 let ⟨n,a,b,c⟩:=r; (n,a,b,λd N=>i _<|c d N)
structure STb (t:SetTable) (hs:List Int):Prop where
 dm:t.dummies = #[]
 cy:DB t.mask
 rs:DP t.place
 sz:t.place.size=hs.length
 le:∀(i j:Nat),t.place[i]?=some j->j<=t.mask
 rc:∀(i j:Nat) (h:Int),t.place[i]?=some j->hs[i]?=some h->Dj t.mask (λx=>∃y:Nat,t.place[y]?=some x) h j
 ro:t.place.size<t.mask
theorem T3 (R:DP xs) (h:xs[i]?=some j):SetTable.below xs j=i:=by
 obtain⟨a,b,B⟩:=Iq R j;have I:=(Array.getElem?_eq_some_iff.mp h).1;rcases IX (SetTable.below xs j) i with c|c|c
 ·have H:SetTable.below xs j<xs.size:=by lia
  have e:=Array.getElem?_eq_getElem H;have d:=R _ _ _ _ c e h;have f:=B _ _ (AS _) e;lia
 ·exact c
 ·have:=b i j c h;lia
theorem Iz {t:SetTable}(R:DP t.place) (h:t.place[i]?=some j):t.slot j=.live i:=by
 unfold SetTable.slot;dsimp only;rw[T3 R h,h];simp
theorem Ri {t:SetTable}(hd:t.dummies = #[]) (h:∀i:Nat,t.place[i]?≠some j):t.slot j=.empty:=by
 unfold SetTable.slot;dsimp only;rw[AB (by simpa using h _),hd,Jb];simp
theorem LD (m:Nat) (h:Int):∀n,(prb m h n).dummy=none
 |0=>rfl
 |n+1=>by
  show (advM m<|prb m h n).dummy=none;unfold advM;split
  ·exact LD m h n
  ·exact LD m h n
theorem Ov {t:SetTable}{hs:List Int}(T:STb t hs) {hashAt:Nat->Int}{h:Int}(hn:∀i,i<t.place.size->hashAt i≠h) {n0:Nat}(h0:∀i:Nat,t.place[i]?≠some (prb t.mask h n0).j) :
  ∀fuel n,n<=n0->n0<n+fuel->n0<10*(t.mask+15)->(∀n',n'<n->∃y:Nat,t.place[y]?=some (prb t.mask h n').j) ->
   ∃j,SetTable.probe.go t hashAt h fuel (prb t.mask h n)=some (.empty j none)/\j<=t.mask/\(∀i:Nat,t.place[i]?≠some j)/\Dj t.mask (λx=>∃y:Nat,t.place[y]?=some x) h j
 |0,n,h1,h2,_,_=>by omega
 |fuel+1,n,h1,h2,h3,h4=>by
  unfold SetTable.probe.go;by_cases c:∃i:Nat,t.place[i]?=some (prb t.mask h n).j
  ·obtain⟨i,I⟩:=c
   rw[Iz T.rs I];dsimp only;have s:=(Array.getElem?_eq_some_iff.mp I).1;rw[AB (by simpa using hn i s)];have E:n≠n0:=λe=>by subst e;exact h0 i I
   exact Ov T hn h0 fuel (n+1) (by lia) (by lia) h3 λn' N=>by
    rcases Ex (FK N) with z|z
    ·exact h4 n' z
    ·subst z;exact(i,I)
  ·have C:∀i:Nat,t.place[i]?≠some (prb t.mask h n).j:=λi z=>c (i,z)
   rw[Ri T.dm C];dsimp only;rw[LD];exact(_,rfl,Wb _ _ _,C,n,by lia,rfl,h4)
theorem Nu (T:STb t hs) (hi0:hashAt i0=h) (hn:∀i,i<t.place.size->hashAt i=h->i=i0) (h0:t.place[i0]?=some (prb t.mask h n0).j)
  (hb:∀n',n'<n0->∃y:Nat,t.place[y]?=some (prb t.mask h n').j):∀fuel n,n<=n0->n0<n+fuel->∃j nx,SetTable.probe.go t hashAt h fuel (prb t.mask h n)=some (.candidate j i0 nx)/\t.place[i0]?=some j
 |0,n,h1,h2=>by omega
 |fuel+1,n,h1,h2=>by
  unfold SetTable.probe.go;rcases Ex h1 with c|c
  ·obtain⟨i,I⟩:=hb n c
   rw[Iz T.rs I];dsimp only;have s:=(Array.getElem?_eq_some_iff.mp I).1;by_cases q:hashAt i=h
   ·have:=hn i s q
    subst this;rw[AD (by simpa using q)];exact(_,_,rfl,I)
   ·rw[AB (by simpa using q)]
    exact Nu T hi0 hn h0 hb fuel (n+1) (by lia) (by lia)
  ·subst c
   rw[Iz T.rs h0];dsimp only;rw[AD (by simpa using hi0)];exact(_,_,rfl,h0)
theorem PY:∀{ms l:List Nat},ms.Nodup->(∀x∈ms,x∈l)->ms.length<=l.length
 |[],_,_,_=>BZ _
 |x::ms,l,h1,h2=>by
  rw[Ck]at h1;have h:=h2 x (by simp);have:=PY (ms:=ms) (l:=l.erase x) h1.2 λy Y=>(IA λz:y=x=>h1.1 (z ▸ Y)).mpr (h2 y (by simp[Y]));rw[IE h]at this;have:=FL h;rw[Aj];lia
theorem S8 {xs:Array Nat}(h:xs.size<m):∃j,j<=m/\∀i:Nat,xs[i]?≠some j:=by
 refine Classical.byContradiction λc=>?_;have l:∀j,j<=m->∃i:Nat,xs[i]?=some j:=λj J=>Classical.byContradiction λz=>c (j,J,λi e=>z (i,e));have b:(AR<|m+1).length<=xs.toList.length:=PY Gr λx X=>by
  obtain⟨i,e⟩:=l x (by have:=Ax.mp X;lia);exact Array.mem_toList_iff.mpr<|Array.mem_of_getElem? e
 rw[BS,Array.length_toList]at b;lia
theorem SM {t:SetTable}{hs:List Int}(T:STb t hs) {hashAt:Nat->Int}{h:Int}(hn:∀i,i<t.place.size->hashAt i≠h) :
  ∃j,t.probe hashAt h (t.probeStart h)=some (.empty j none)/\j<=t.mask/\(∀i:Nat,t.place[i]?≠some j)/\Dj t.mask (λx=>∃y:Nat,t.place[y]?=some x) h j:=by
 obtain⟨j,H,b⟩:=S8 T.ro;obtain⟨n,a,rfl⟩:=Sd T.cy h H;exact Ov T hn b _ 0 (BZ _) (by show n<0+10*SetTable.turns t.mask;unfold SetTable.turns;lia) a λN h=>absurd h<|EY _
theorem RX {t:SetTable}{hs:List Int}(T:STb t hs) {hashAt:Nat->Int}{h:Int}{i0:Nat}(h0:hs[i0]?=some h) (ha:hashAt i0=h) (hn:∀i,i<t.place.size->hashAt i=h->i=i0) :
  ∃j nx,t.probe hashAt h (t.probeStart h)=some (.candidate j i0 nx)/\t.place[i0]?=some j:=by
 have l:=(BB.mp h0).1;rw[<- T.sz]at l;have e:=Array.getElem?_eq_getElem l;obtain⟨n,a,b,c⟩:=T.rc _ _ _ e h0;exact Nu T ha hn (by rw[b];exact e) c _ 0 (BZ _) (by show n<0+10*SetTable.turns t.mask;unfold SetTable.turns;lia)
theorem Ua {α:Type}(l:List α) (p:Nat) (x:α) (h:p<=l.length) (i:Nat):(l.take p++x::l.drop p)[i]?=if i<p then l[i]? else if i=p then some x else l[i-1]?:=by
 by_cases h1:i<p
 ·rw[AD h1,Cu (by rw[Bj];lia),KA h1]
 ·rw[AB h1,CP (by rw[Bj];lia),Bj,F2 h]
  by_cases h2:i=p
  ·rw[AD h2,h2,Nat.sub_self];rfl
  ·rw[AB h2,show i-p=(i-1-p)+1 by lia,Gp,EV,show p+(i-1-p)=i-1 by lia]
theorem O5 (hp:SetTable.below xs j<=xs.size) (y:Nat):(∃i:Nat,(SetTable.insertAt xs (SetTable.below xs j) j)[i]?=some y)↔y=j\/∃i:Nat,xs[i]?=some y:=by
 constructor
 ·rintro⟨i,e⟩
  rw[GB _ _ _ hp]at e;split at e
  ·exact .inr (_,e)
  ·split at e
   ·exact .inl (BY.inj e).symm
   ·exact .inr (_,e)
 ·rintro(rfl|⟨i,e⟩)
  ·exact(SetTable.below xs y,by rw[GB _ _ _ hp,AB (D4 _),AD rfl])
  ·by_cases c:i<SetTable.below xs j
   ·exact(i,by rw[GB _ _ _ hp,AD c];exact e)
   ·exact(i+1,by rw[GB _ _ _ hp,AB (by lia),AB (by lia)];exact e)
theorem STb.put {t:SetTable}{hs:List Int}(T:STb t hs) {h:Int}{j:Nat}(hj:j<=t.mask) (hf:∀i:Nat,t.place[i]?≠some j) (hr:Dj t.mask (λx=>∃y:Nat,t.place[y]?=some x) h j) (hro:t.place.size+1<t.mask) :
  STb (t.put j).1 (hs.take (t.put j).2++h::hs.drop (t.put j).2)/\(t.put j).2<=hs.length:=by
 have p:SetTable.below t.place j<=t.place.size:=(Iq T.rs j).1;have d:(t.put j).1.dummies = #[]:=by
  show (if SetTable.has t.dummies j=true then _ else t.dummies) = #[];rw[T.dm,Jb];rfl
 have z:(SetTable.insertAt t.place (SetTable.below t.place j) j).size=t.place.size+1:=by
  rw[<- Array.length_toList,Ks _ _ _ p,Aw,Aj,Bj,DD,Array.length_toList];lia
 have s:=T.sz;have u:∀x,(∃y:Nat,t.place[y]?=some x)->∃y:Nat,(t.put j).1.place[y]?=some x:=λx X=>(O5 p x).mpr (.inr X);refine((d,T.cy,Oi T.rs<|hf _,?_,λi y e=>?_,λi y g E a=>?_,?_),by rw[<- s];exact p)
 ·show (SetTable.insertAt t.place (SetTable.below t.place j) j).size=_
  rw[z,Aw,Aj,Bj,DD];show _=min (SetTable.below t.place j) hs.length+(hs.length-SetTable.below t.place j+1);lia
 ·rcases(O5 p y).mp (i,e) with rfl|⟨i',e'⟩
  ·exact hj
  ·exact T.le i' y e'
 ·have E:(SetTable.insertAt t.place (SetTable.below t.place j) j)[i]?=some y:=E
  have a:(hs.take (SetTable.below t.place j)++h::hs.drop (SetTable.below t.place j))[i]?=some g:=a;rw[GB _ _ _ p]at E;rw[Ua _ _ _ (by lia)]at a;by_cases c1:i<SetTable.below t.place j
  ·rw[AD c1]at E a
   exact(T.rc i y g E a).mono u
  ·rw[AB c1]at E a
   by_cases c2:i=SetTable.below t.place j
   ·rw[AD c2]at E a
    cases E;cases a;exact hr.mono u
   ·rw[AB c2]at E a
    exact(T.rc _ y g E a).mono u
 ·show (SetTable.insertAt t.place (SetTable.below t.place j) j).size<t.mask
  rw[z];exact hro
def fil (ow:Array (Option Nat)):Nat:=ow.toList.countP (·.isSome)
def Er (ow:Array (Option Nat)) (x:Nat):Prop:=∃q,ow[x]?=some (some q)
theorem Od (hz:ow.size=m+1) (h0:ow[(lp m h k0).1]?=some none) (hk0:k0<=m+13):∀fuel k,k<=k0->k0<k+fuel ->
  (∀k' r,k'<k->r<=runL m (lp m h k').1->Er ow ((lp m h k').1+r))->∃j,SetTable.layClean.free m ow fuel (lp m h k).1 (lp m h k).2=some j/\j<=m/\ow[j]?=some none/\Dj m (Er ow) h j
 |0,k,h1,h2,_=>by lia
 |fuel+1,k,h1,h2,hb=>by
  have E:=MR m h k;have get:∀r,r<=runL m (lp m h k).1->((ow.getD ((lp m h k).1+r)<|some 0).isNone=true↔ow[(lp m h k).1+r]?=some none)/\(¬ (ow.getD ((lp m h k).1+r)<|some 0).isNone=true->Er ow ((lp m h k).1+r)):=λr R=>by
   have i:=Ls E R;have t:(lp m h k).1+r<ow.size:=by lia
   have e:=Array.getElem?_eq_getElem t;rw[Array.getD_eq_getD_getElem?,e,IW];constructor
   ·cases ow[(lp m h k).1+r] <;> simp
   ·intro z
    cases q:ow[(lp m h k).1+r] with
    |none=>rw[q]at z;exact absurd rfl z
    |some v=>exact(v,by rw[e,q])
  have L:SetTable.runEnd m (lp m h k).1+1-(lp m h k).1=runL m (lp m h k).1+1:=by
   unfold runL SetTable.runEnd;split <;> lia
  obtain⟨n,y,A,f,s⟩:=Jl m h k;unfold SetTable.layClean.free;rw[L];cases q:(AR<|runL m (lp m h k).1+1).find? λr=>(ow.getD ((lp m h k).1+r)<|some 0).isNone with
  |some r=>
   dsimp only;obtain⟨Q,u,w⟩:=List.find?_range_eq_some.mp q;have R:r<=runL m (lp m h k).1:=by have:=Ax.mp u;lia
   have p:=O4 m (lp m h k).1;refine(_,rfl,Ls E R,((get r R).1).mp Q,n+r,by lia,by rw[Hi f r R],λN g=>?_);by_cases c:N<n
   ·obtain⟨k',x,a,b,d⟩:=s N c
    rw[d];exact hb k' x a b
   ·have H:N-n<r:=by lia
    have e:=Hi f (N-n) (by lia);rw[show n+(N-n)=N by lia]at e;rw[e];exact(get _<|by omega).2 (by have z:=w (N-n) H;intro z';rw[z']at z;cases z)
  |none=>
   dsimp only;have l:∀r,r<=runL m (lp m h k).1->Er ow ((lp m h k).1+r):=λr R=>(get r R).2 (by have z:=List.find?_range_eq_none.mp q r (by lia);intro z';rw[z']at z;cases z);have o:k≠k0:=λe=>by
    subst e;obtain⟨v,V⟩:=l 0<|BZ _;rw[IM,h0]at V;cases V
   refine Od hz h0 hk0 fuel (k+1) (by lia) (by lia) λk' r K R=>?_;rcases Ex (FK K) with z|z
   ·exact hb k' r z R
   ·subst z;exact l r R
structure Ft (m:Nat) (hs:List Int) (k:Nat) (ow:Array (Option Nat)):Prop where
 sz:ow.size=m+1
 cn:fil ow=k
 at_:∀(j q:Nat),ow[j]?=some (some q)->q<k/\∀h,hs[q]?=some h->Dj m (Er ow) h j
 ex:∀q,q<k->∃j:Nat,ow[j]?=some (some q)
 inj:∀(j j' q:Nat),ow[j]?=some (some q)->ow[j']?=some (some q)->j=j'
theorem WB (m:Nat) (hs:List Int):Ft m hs 0 (Array.replicate (m+1) none):=by
 have o:∀(j q:Nat),(Array.replicate (m+1) (none:Option Nat))[j]?≠some (some q):=λj q e=>by
  rw[Array.getElem?_replicate]at e;split at e <;> cases e
 refine(Array.size_replicate,?_,λj q e=>absurd e<|o j q,λq h=>absurd h<|EY _,λj _ q e=>absurd e<|o j q);unfold fil;rw[Array.toList_replicate,List.countP_replicate];rfl
theorem UR (hz:ow.size=m+1) (h:fil ow<m+1):∃j,j<=m/\ow[j]?=some none:=by
 refine Classical.byContradiction λc=>?_;have l:∀x∈ow.toList,x.isSome=true:=λx X=>by
  obtain⟨i,I⟩:=IC X;rw[Array.getElem?_toList]at I;cases x with
  |some v=>rfl
  |none=>exact absurd (i,by have:=(Array.getElem?_eq_some_iff.mp I).1;lia,I) c
 have:=List.countP_eq_length.mpr l;unfold fil at h;rw[this,Array.length_toList]at h;lia
theorem S7 {l:List (Option Nat)}(v:Nat) (h:l[j]?=some none):(l.set j<|some v).countP (·.isSome)=l.countP (·.isSome)+1:=by
 obtain⟨H,a⟩:=BB.mp h;rw[List.countP_set H,a];simp
theorem Tp {m:Nat}{hs:List Int}{k:Nat}{ow:Array (Option Nat)}(L:Ft m hs k ow) (hc:DB m) (hk:k<=m) {h:Int}(hh:hs[k]?=some h) :
  ∃j,SetTable.layClean.free m ow (SetTable.turns m) (SetTable.bits h % (m+1)) (SetTable.bits h)=some j/\Ft m hs (k+1) (ow.setIfInBounds j<|some k):=by
 obtain⟨t,H,l⟩:=UR L.sz (by rw[L.cn];lia);obtain⟨k0,n,o⟩:=Nx hc h H;obtain⟨j,f,s,E,i⟩:=Od L.sz (h:=h) (k0:=k0) (by rw[o];exact l) n (SetTable.turns m) 0 (BZ _) (by unfold SetTable.turns;lia) λK r h=>absurd h<|EY _;have J:j<ow.size:=by rw[L.sz];lia
 have get:∀x:Nat,(ow.setIfInBounds j<|some k)[x]?=if j=x then some (some k) else ow[x]?:=λx=>by
  rw[Array.getElem?_setIfInBounds];by_cases c:j=x
  ·rw[AD c,AD c,AD (by omega)]
  ·rw[AB c,AB c]
 have p:∀x,Er ow x->Er (ow.setIfInBounds j<|some k) x:=λx (q,Q)=>by
  by_cases c:j=x
  ·exact(k,by rw[get,AD c])
  ·exact(q,by rw[get,AB c];exact Q)
 refine(j,f,(by rw[Array.size_setIfInBounds];exact L.sz,?_,λx q e=>?_,λq Q=>?_,λx d q a b=>?_))
 ·unfold fil
  rw[Array.toList_setIfInBounds,S7 k (by rw[Array.getElem?_toList];exact E)];have:=L.cn;unfold fil at this;lia
 ·rw[get]at e
  by_cases c:j=x
  ·rw[AD c]at e
   cases e;refine(by lia,λg G=>?_);rw[hh]at G;cases G;rw[<- c];exact i.mono p
  ·rw[AB c]at e
   obtain⟨a,b⟩:=L.at_ x q e;exact(by lia,λg G=>(b g G).mono p)
 ·rcases Ex (FK Q) with z|z
  ·obtain⟨x,X⟩:=L.ex q z
   have c:j≠x:=λc=>by rw[<- c,E]at X;cases X
   exact(x,by rw[get,AB c];exact X)
  ·subst z
   exact(j,by rw[get,AD rfl])
 ·rw[get]at a b
  by_cases c:j=x
  ·by_cases c':j=d
   ·rw[<- c,c']
   ·rw[AD c]at a;rw[AB c']at b
    cases a;have:=(L.at_ _ _ b).1;lia
  ·by_cases c':j=d
   ·rw[AB c]at a;rw[AD c']at b
    cases b;have:=(L.at_ _ _ a).1;omega
   ·rw[AB c]at a;rw[AB c']at b
    exact L.inj x d q a b
def layStep (m:Nat) (acc:Option (Array (Option Nat) × Nat)) (h:Int):Option (Array (Option Nat) × Nat):=do
 let (owner,k) <- acc
 let j <- SetTable.layClean.free m owner (SetTable.turns m) (SetTable.bits h % (m+1)) (SetTable.bits h)
 pure (owner.setIfInBounds j<|some k,k+1)
theorem RL (m:Nat) (hs:Array Int):SetTable.layClean m hs=(hs.toList.foldl (layStep m)<|some (Array.replicate (m+1) none,0)).map (·.1):=by
 rw[Array.foldl_toList];rfl
theorem OL (hc:DB m) (hm:hs.length<=m):∀(rest:List Int) (k:Nat) (ow:Array (Option Nat)),Ft m hs k ow->hs.drop k=rest->k<=hs.length->∃ow',rest.foldl (layStep m) (some (ow,k))=some (ow',hs.length)/\Ft m hs hs.length ow'
 |[],k,ow,L,e,hk=>by
  have:k=hs.length:=by
   have:=congrArg BN e;rw[DD,DE]at this;lia
  subst this;exact(ow,rfl,L)
 |h::rest,k,ow,L,e,hk=>by
  have t:k<hs.length:=by
   have:=congrArg BN e;rw[DD,Aj]at this;lia
  have H:hs[k]?=some h:=by
   have:=EV (xs:=hs) (i:=k) (j:=0);rw[e]at this;simpa using this.symm
  obtain⟨j,E,l⟩:=Tp L hc (by lia) H;have s:layStep m (some (ow,k)) h=some (ow.setIfInBounds j<|some k,k+1):=by
   show (SetTable.layClean.free m ow (SetTable.turns m) (SetTable.bits h % (m+1))<|SetTable.bits h).bind (λj=>some ((ow.setIfInBounds j<|some k,k+1):_×_))=_;rw[E];rfl
  rw[List.foldl_cons,s];refine OL hc hm rest (k+1) _ l ?_ (by lia);rw[<- List.drop_drop,e];rfl
def liveL (ow:Array (Option Nat)) (m:Nat):List (Nat × Nat):=(AR<|m+1).filterMap λj=>(ow.getD j none).map (λx=>((j,x):_×_))
theorem Ff (hz:ow.size=m+1) (j q:Nat):(j,q)∈liveL ow m↔ow[j]?=some (some q):=by
 unfold liveL;rw[KQ];constructor
 ·rintro⟨x,h,e⟩
  have h:=Ax.mp h;have g:=Array.getElem?_eq_getElem (show x<ow.size by lia);rw[Array.getD_eq_getD_getElem?,g,IW]at e;cases z:ow[x] with
  |none=>rw[z]at e;cases e
  |some v=>
   rw[z]at e;cases e;rw[g,z]
 ·intro e
  have h:=(Array.getElem?_eq_some_iff.mp e).1;refine(j,Ax.mpr (by lia),?_);rw[Array.getD_eq_getD_getElem?,e];rfl
theorem Rx (m:Nat) (ow:Array (Option Nat)):(liveL ow m).Pairwise λa b=>a.1<b.1:=by
 unfold liveL;rw[List.pairwise_filterMap];refine List.Pairwise.imp ?_ D2;intro a b hab c h d D;cases qa:ow.getD a none with
 |none=>rw[qa]at h;cases h
 |some k=>
  cases qb:ow.getD b none with
  |none=>rw[qb]at D;cases D
  |some l=>
   rw[qa]at h;rw[qb]at D;have h:(a,k)=c:=by simpa using h
   have D:(b,l)=d:=by simpa using D
   subst h D;exact hab
theorem Tc (L:Ft m hs k ow):((liveL ow m).map (·.2)).Perm (AR k):=by
 have d:((liveL ow m).map (·.2)).Nodup:=by
  rw[List.nodup_iff_pairwise_ne,D6];refine List.Pairwise.imp_of_mem ?_<|Rx m ow;intro a b ha hb hab e;obtain⟨j,q⟩:=a;obtain⟨c,Q⟩:=b;simp only at hab e;subst e;have:=L.inj _ _ _ ((Ff L.sz _ _).mp ha) ((Ff L.sz _ _).mp hb);lia
 refine(List.perm_ext_iff_of_nodup d Gr).mpr λq=>?_;rw[Af,Ax];constructor
 ·rintro⟨⟨j,Q⟩,H,rfl⟩
  exact(L.at_ _ _ ((Ff L.sz _ _).mp H)).1
 ·intro h
  obtain⟨j,J⟩:=L.ex q h;exact((j,q),(Ff L.sz _ _).mpr J,rfl)
theorem Jj {α:Type}{es:Array α}:∀(l:List Nat),(∀q∈l,q<es.size)->(l.filterMap (es[·]?)).length=l.length/\∀x:Nat,(l.filterMap (es[·]?))[x]?=(l[x]?).bind (es[·]?)
 |[],_=>(rfl,λx=>by simp)
 |q::l,h=>by
  obtain⟨i,I⟩:=Jj l λx X=>h x<|BQ _ X;have e:=Array.getElem?_eq_getElem (h q<|by simp);rw[List.filterMap_cons_some e];refine(by rw[Aj,Aj,i],λx=>?_);cases x with
  |zero=>show some _=_;rw[<- e];rfl
  |succ x=>show (l.filterMap (es[·]?))[x]?=_;rw[I];rfl
theorem Tw {α:Type}(es:Array α):(AR es.size).filterMap (es[·]?)=es.toList:=by
 apply DR;intro i;rw[(Jj (es:=es) (AR es.size) λq h=>Ax.mp h).2];by_cases c:i<es.size
 ·rw[ET c,Array.getElem?_toList];rfl
 ·rw[EL (show (AR es.size).length<=i by rw[BS];lia),EL (show es.toList.length<=i by rw[Array.length_toList];omega)];rfl
theorem Vh {ld pn:Bool}(hc:DB m) (hm:hs.size<m):∃t' order,SetTable.laid m fg mv ld pn hs=some (t',order)/\t'.mask=m/\t'.led=ld/\t'.plain=pn/\STb t' (order.toList.filterMap (hs[·]?))/\order.toList.Perm (AR hs.size):=by
 obtain⟨w,c,L⟩:=OL (m:=m) (hs:=hs.toList) hc (by rw[Array.length_toList];lia) hs.toList 0 _ (WB m hs.toList) (by simp)<|BZ _;rw[Array.length_toList]at c L;have E:SetTable.layClean m hs=some w:=by rw[RL,c];rfl
 have M:=Tc L;refine⟨{ mask:=m,place:=((liveL w m).map (·.1)).toArray,dummies:=#[],finger:=fg,led:=ld,moves:=mv,plain:=pn },((liveL w m).map (·.2)).toArray,?_,rfl,rfl,rfl,?_,by simpa using M⟩
 ·unfold SetTable.laid
  rw[E];rfl
 have d:∀q∈(liveL w m).map (·.2),q<hs.size:=λq h=>Ax.mp ((M.mem_iff).mp h);obtain⟨f,F⟩:=Jj (es:=hs) _ d;have H:(liveL w m).length=hs.size:=by have:=M.length_eq;rwa [AK,BS]at this
 have l:∀(i j:Nat),((liveL w m).map (·.1)).toArray[i]?=some j->∃q,(liveL w m)[i]?=some (j,q):=λi j e=>by
  rw[Gw,AZ]at e;cases z:(liveL w m)[i]? with
  |none=>rw[z]at e;cases e
  |some p=>rw[z]at e;obtain⟨a,b⟩:=p;cases e;exact(b,rfl)
 have k:∀x,Er w x->∃y:Nat,((liveL w m).map (·.1)).toArray[y]?=some x:=λx (q,hx)=>by
  obtain⟨y,Y⟩:=IC ((Ff L.sz x q).mpr hx);exact(y,by rw[Gw,AZ,Y];rfl)
 refine(rfl,hc,N3 w<|m+1,?_,λi j e=>?_,λi j h c E=>?_,?_)
 ·show ((liveL w m).map (·.1)).toArray.size=_
  rw[Az,AK,f,AK]
 ·obtain⟨q,Q⟩:=l i j e
  have:=(Ff L.sz _ _).mp (Bk Q);have:=(Array.getElem?_eq_some_iff.mp this).1;have Z:=L.sz;show j<=m;lia
 ·obtain⟨q,Q⟩:=l i j c
  rw[F,AZ,Q]at E;have E:hs[q]?=some h:=E;have:=(L.at_ _ _ ((Ff L.sz _ _).mp (Bk Q))).2 h (by rw[Array.getElem?_toList];exact E);exact this.mono k
 ·show ((liveL w m).map (·.1)).toArray.size<m
  rw[Az,AK,H];exact hm
def hashP (k:Int × Int):Int:=reduceHash<|Builtin.Tuple.tupleHashOf [hashInt k.1,hashInt k.2]
def SmP (k:Int × Int):Prop:=0<=k.1/\k.1<64/\0<=k.2/\k.2<2
def allP:AW:=(AR 64).flatMap λi:Nat=>[((i:Int),0),((i:Int),1)]
theorem OV (h:SmP k):k∈allP:=by
 obtain⟨H,a,b,c⟩:=h;unfold allP;rw[Gu];refine(k.1.toNat,Ax.mpr (by lia),?_);have:k.2=0\/k.2=1:=by lia
 rcases this with e|e
 ·exact Ar.mpr (.inl<|Prod.ext (by show k.1=((k.1.toNat:Nat):Int);lia) e)
 ·exact Ar.mpr (.inr<|Bc.mpr<|Prod.ext (by show k.1=((k.1.toNat:Nat):Int);omega) e)
def nodB:List Int->Bool
 |[]=>true
 |x::l=>l.all (λy=>y != x) && nodB l
theorem Pn:∀{l:List Int},nodB l=true->l.Nodup
 |[],_=>D9
 |x::l,h=>by
  unfold nodB at h;rw[Cj,Ci]at h;exact Ck.mpr (λX=>by have:=h.1 x X;simp at this,Pn h.2)
theorem TX:(allP.map hashP).Nodup:=Pn (by decide +kernel)
theorem Mx {α β:Type}{f:α -> β}:∀{l:List α},(l.map f).Nodup->∀{a b:α},a∈l->b∈l->f a=f b->a=b
 |[],_,a,b,A,_,_=>by cases A
 |x::l,h,a,b,A,B,e=>by
  rw[BX,Ck]at h;rcases Ar.mp A with A|A
  ·rcases Ar.mp B with B|B
   ·rw[A,B]
   ·rw[A]at e;exact absurd (e ▸ KI B) h.1
  ·rcases Ar.mp B with B|B
   ·rw[B]at e;exact absurd (e ▸ KI A) h.1
   ·exact Mx h.2 A B e
theorem N0 (ha:SmP a) (hb:SmP b) (e:hashP a=hashP b):a=b:=Mx TX (OV ha) (OV hb) e
def entP (hf:Int × Int->Int) (x:(Int × Int) × Addr):Int × Value:=(hf x.1,.ref x.2)
structure StG (hf:Int × Int->Int) (h:Heap) (a:Addr) (o:Obj) (es:Array (Int × Value)) (ep:Nat) (t:SetTable) (xs:List ((Int × Int) × Addr)):Prop where
 ob:h.get? a=some o
 ex:o.ExactSet
 da:o.data=.set es ep t
 el:es.toList.Perm (xs.map<|entP hf)
 tb:STb t (es.toList.map (·.1))
 nf:es.size*5<t.mask*3
 mks:t.mask=7\/t.mask=31\/t.mask=127\/t.mask=511
def PSt (hf:Int × Int->Int) (a:Addr) (xs:List ((Int × Int) × Addr)) (h:Heap):Prop:=∃o es ep t,StG hf h a o es ep t xs
theorem PSt.keep (x:PSt hf a xs h) (k:∀o,h.get? a=some o->h'.get? a=some o):PSt hf a xs h':=by
 obtain⟨o,s,p,t,g⟩:=x;exact(o,s,p,t,k _ g.ob,g.ex,g.da,g.el,g.tb,g.nf,g.mks)
theorem StG.size (g:StG hf h a o es ep t xs):es.size=xs.length:=by
 have:=g.el.length_eq
 rwa [Array.length_toList,AK]at this
theorem StG.psz (g:StG hf h a o es ep t xs):t.place.size=es.size:=by
 have:=g.tb.sz
 rwa [AK,Array.length_toList]at this
theorem StG.fits (g:StG hf h a o es ep t xs):t.fits es.size=true:=by
 unfold SetTable.fits SetTable.fill;rw[g.tb.dm,g.psz];have:=g.tb.ro;rw[g.psz]at this;simp;lia
theorem StG.gave (g:StG hf h a o es ep t xs):t.gaveWay=false:=by
 unfold SetTable.gaveWay;rcases g.mks with e|e|e|e <;> rw[e] <;> rfl
section
variable {prog:Program}{w:World}{A:Around}{E:AX}{s:Shared}
abbrev IsP (prog:Program) (w:World) (h:Heap) (k:Int × Int) (a:Addr):Prop:=IsTupleKey (PySem.intKind prog w) h [k.1,k.2] a
theorem Mh (hk:IsP prog w s.heap k a) (h:Q false s):wpAny (model prog w) A (ofAClassStatement 8 (.ref a)) Q E s:=by
 have T:=hk.typeIs;obtain⟨o,m,n,O,_,d,i⟩:=hk;unfold ofAClassStatement;refine AA<|wpAny_typeOf T ?_;dsimp only;refine AA<|AH ?_;simp only[DV,Av,↓reduceIte];refine AA<|wpAny_seqItems O d ?_;dsimp only;refine AA ?_;rw[<- Array.forIn_toList];refine wpAny_forIn_list _ (λt (r:Option Bool × Unit) S=>r.1=none/\S=s/\∀v∈t,carriedByValue v=true) _ ?_ ?_ _ _ (rfl,rfl,i.byValue)
 ·rintro v t r S ⟨R,rfl,l⟩
  have e:ofAClassStatement 7 v=pure false:=by
   have:=l v Bh;cases v with
   |ref a=>simp[carriedByValue]at this
   |_=>rfl
  rw[e];refine AA<|AH ?_;simp only[Av,if_false];exact AH (rfl,rfl,λu U=>l u<|BQ _ U)
 ·rintro⟨b,c⟩ S ⟨R,rfl,_⟩
  simp only at R;subst R;exact AH h
theorem noneSeen (hk:IsP prog w s.heap k b):∀(ys:List Value) {Q:Bool->Shared->Prop},(∀y∈ys,∃k' c,y=.ref c/\IsP prog w s.heap k' c)->Q false s->wpAny (model prog w) A (searchCouldBeSeen (.ref b) ys) Q E s:=by
 intro ys Q hy h;unfold searchCouldBeSeen;refine AA ?_;refine wpAny_forIn_list _ (λt (r:Option Bool × Unit) S=>r.1=none/\S=s/\∀y∈t,∃k' c,y=.ref c/\IsP prog w s.heap k' c) _ ?_ ?_ _ _ (rfl,rfl,hy)
 ·rintro v t r S ⟨R,rfl,l⟩
  obtain⟨k',c,rfl,K⟩:=l v Bh;dsimp only;split
  ·exact AH (rfl,rfl,λu U=>l u<|BQ _ U)
  ·refine AA (wpAny_eqIsQuiet_tuple hk ?_)
   simp only[DV,Av,↓reduceIte];refine AA<|wpAny_eqIsQuiet_tuple K ?_;simp only[DV,Av,↓reduceIte];refine AA<|Mh hk ?_;simp only[Av,↓reduceIte];refine AA<|Mh K ?_;simp only[Av,↓reduceIte];exact AH (rfl,rfl,λu U=>l u<|BQ _ U)
 ·rintro⟨a,d⟩ S ⟨R,rfl,_⟩
  simp only at R;subst R;exact AH h
theorem nodH (hfi:∀{a b:Int × Int},SmP a->SmP b->hf a=hf b->a=b):∀{xs:List ((Int × Int) × Addr)},(xs.map (·.1)).Nodup->(∀x∈xs,SmP x.1)->(xs.map ((·.1)∘entP hf)).Nodup
 |[],_,_=>D9
 |x::xs,h,hs=>by
  rw[BX,Ck]at h ⊢;refine(λX=>?_,nodH hfi h.2 λy Y=>hs y<|BQ _ Y);obtain⟨y,Y,e⟩:=Af.mp X;exact h.1<|Af.mpr (y,Y,hfi (hs y<|BQ _ Y) (hs x<|by simp) e)
theorem NJ {hf:Int × Int->Int}(hfi:∀{a b:Int × Int},SmP a->SmP b->hf a=hf b->a=b) {adding:Bool}{a b:Addr}{o:Obj}{es:Array (Int × Value)}{ep:Nat}{t:SetTable}{xs:List ((Int × Int) × Addr)}{k:Int × Int}{Q:SetFound->Shared->Prop}(hu:A.units<cLine) (g:StG hf s.heap a o es ep t xs)
  (hm:∀x∈xs,SmP x.1/\IsP prog w s.heap x.1 x.2) (nd:(xs.map (·.1)).Nodup) (hk:SmP k) (hkb:IsP prog w s.heap k b)
  (hin:k∈xs.map (·.1)->∀i:Option Nat,(adding=false->i.isSome=true)->Q (.there i) s)
  (hout:k ∉ xs.map (·.1)->∀j,j<=t.mask->(∀i:Nat,t.place[i]?≠some j)->Dj t.mask (λx=>∃y:Nat,t.place[y]?=some x) (hf k) j->Q (.free j false) s) :
  wpAny (model prog w) A (setSearch a (.ref b) (hf k) adding) Q E s:=by
 unfold setSearch setSearchFrom;refine AA<|wpAny_setState_of g.ob g.da g.fits ?_;dsimp only;rw[g.gave];simp only[Av,↓reduceIte,J7];have n:∀(i:Nat) (e:Int × Value),es[i]?=some e->∃x∈xs,e=entP hf x:=λi e H=>by
  have:e∈xs.map (entP hf):=g.el.mem_iff.mp (by rw[Array.mem_toList_iff];exact Array.mem_of_getElem? H);obtain⟨x,d,rfl⟩:=Af.mp this;exact(x,d,rfl)
 by_cases c:k∈xs.map (·.1)
 ·obtain⟨X,u,rfl⟩:=Af.mp c
  have:entP hf X∈es.toList:=g.el.mem_iff.mpr<|KI u;obtain⟨i0,f⟩:=IC this;have I:es[i0]?=some (hf X.1,Value.ref X.2):=by rw[<- Array.getElem?_toList];exact f
  have D:∀i,i<t.place.size->(es[i]?.map (·.1)).getD 0=hf X.1->i=i0:=λi q e=>by
   rw[g.psz]at q;have H:=Array.getElem?_eq_getElem q;obtain⟨x,d,B⟩:=n _ _ H;rw[H]at e;have e:es[i].1=hf X.1:=e;rw[B]at e;have l:=hfi (hm x d).1 hk e;have F:(es.toList.map (·.1)).Nodup:=by
    have p:=g.el.map (·.1);refine p.nodup_iff.mpr ?_;rw[A5];exact nodH hfi nd λy Y=>(hm y Y).1
   have K:(es.toList.map (·.1))[i]?=some (hf X.1):=by rw[AZ,Array.getElem?_toList,H,B,<- l];rfl
   have L:(es.toList.map (·.1))[i0]?=some (hf X.1):=by rw[AZ,f];rfl
   obtain⟨P,V⟩:=BB.mp K;obtain⟨R,O⟩:=BB.mp L;exact(Fx F).mp (V.trans O.symm)
  obtain⟨j,M,C,l⟩:=RX g.tb (h:=hf X.1) (i0:=i0) (by rw[AZ,f];rfl) (hashAt:=λi=>(es[i]?.map (·.1)).getD 0) (by show (es[i0]?.map (·.1)).getD 0=_;rw[I];rfl) D;have S:=Iz g.tb.rs l;generalize hp:t.probe _ (hf X.1) (t.probeStart<|hf X.1)=r;obtain rfl:r=some (.candidate j i0 M):=hp.symm.trans C;dsimp only;have N:∀y∈((es.filter λx=>x.1 == hf X.1).toList.map (·.2)),∃k' c,y=Value.ref c/\IsP prog w s.heap k' c:=λy Y=>by
   obtain⟨e,H,rfl⟩:=Af.mp Y;have H:e∈es.toList:=by
    rw[Array.toList_filter]at H;exact(Bo.mp H).1
   obtain⟨x,d,rfl⟩:=Af.mp<|g.el.mem_iff.mp H;exact(x.1,x.2,rfl,(hm x d).2)
  have v:=(hm X u).2;have m:t.sameMemory t.moves t.mask=some true:=by unfold SetTable.sameMemory;rw[AD (by simp)]
  rw[I];dsimp only;by_cases hl:t.led=true
  ·rw[hl]
   simp only[DV,Av,↓reduceIte];refine AA<|Bq<|wpAny_eqBool_tuple hu v hkb ?_;refine AA<|wpAny_setState_of g.ob g.da g.fits ?_;dsimp only;rw[m,A1 rfl];cases adding
   ·simp only[Dn,Av,↓reduceIte]
    rw[S];dsimp only;rw[I];dsimp only;refine AA<|wpAny_isSame_ref_self ?_;refine AA<|AH ?_;simp only[↓reduceIte];exact AH (hin c _ λ_=>rfl)
   ·simp only[Bool.and_self,↓reduceIte]
    exact AH (hin c _ λz=>Bool.noConfusion z)
  ·rw[Ez.mpr hl]
   simp only[HA,↓reduceIte];refine AA<|noneSeen hkb _ N ?_;simp only[Av,↓reduceIte];refine AA<|Bq<|wpAny_eqBool_tuple hu v hkb ?_;refine AA<|wpAny_setState_of g.ob g.da g.fits ?_;dsimp only;rw[m,A1 rfl];cases adding
   ·simp only[Dn,Av,↓reduceIte]
    rw[S];dsimp only;rw[I];dsimp only;refine AA<|wpAny_isSame_ref_self ?_;refine AA<|AH ?_;simp only[↓reduceIte];exact AH (hin c _ λ_=>rfl)
   ·simp only[Bool.and_self,↓reduceIte]
    exact AH (hin c _ λz=>Bool.noConfusion z)
 ·have D:∀i,i<t.place.size->(es[i]?.map (·.1)).getD 0≠hf k:=λi q e=>by
   rw[g.psz]at q;have H:=Array.getElem?_eq_getElem q;obtain⟨x,d,B⟩:=n _ _ H;rw[H]at e;have e:es[i].1=hf k:=e;rw[B]at e;exact c<|Af.mpr (x,d,hfi (hm x d).1 hk e)
  obtain⟨j,C,l,G,J⟩:=SM g.tb D;generalize hp:t.probe _ (hf k) (t.probeStart<|hf k)=r;obtain rfl:r=some (.empty j none):=hp.symm.trans C;exact AH<|hout c j l G J
theorem noScan (es:Array (Int × Value)):byScan (.ref b) es=false:=rfl
variable {hf:Int × Int->Int}(hfi:∀{a b:Int × Int},SmP a->SmP b->hf a=hf b->a=b)
include hfi
theorem UP {a b:Addr}{xs:List ((Int × Int) × Addr)}{k:Int × Int}{Q:Option Nat->Shared->Prop}(hu:A.units<cLine) (g:PSt hf a xs s.heap)
  (hm:∀x∈xs,SmP x.1/\IsP prog w s.heap x.1 x.2) (nd:(xs.map (·.1)).Nodup) (hk:SmP k) (hkb:IsP prog w s.heap k b)
  (h:∀r:Option Nat,r.isSome=decide (k∈xs.map (·.1))->Q r s):wpAny (model prog w) A (setFind a (.ref b)<|hf k) Q E s:=by
 obtain⟨o,e,p,t,g⟩:=g;unfold setFind setFindIn;refine AA<|wpAny_setState_of g.ob g.da g.fits ?_;dsimp only;rw[noScan];simp only[Av,↓reduceIte];refine AA (NJ hfi hu g hm nd hk hkb (λc i I=>?_) λc j _ _ _=>?_)
 ·exact AH<|h i (by rw[A1 c];exact I rfl)
 ·exact AH<|h none (by rw[A7 c];rfl)
theorem PSt.typeIs {a:Addr}{xs:List ((Int × Int) × Addr)}(g:PSt hf a xs s.heap):s.TypeIs (.ref a) "set":=let ⟨o,_,_,_,g⟩:=g; (o,g.ob,g.ex.1)
theorem OT {k:Int × Int}{b:Addr}(hfe:∀(k:Int × Int),tupleKeyHash (PySem.intKind prog w) [k.1,k.2]=hf k) {Q:Int->Shared->Prop}(hu:A.units<cLine) (hkb:IsP prog w s.heap k b) (h:Q (hf k) { s with toks:=s.toks+3 }):wpAny (model prog w) A (pyHash (.ref b)) Q E s:=
 wpAny_pyHash_tuple hu hkb (by rw[hfe];exact h)
theorem RK {a b:Addr}{xs:List ((Int × Int) × Addr)}{k:Int × Int}(hfe:∀(k:Int × Int),tupleKeyHash (PySem.intKind prog w) [k.1,k.2]=hf k) {Q:Bool->Shared->Prop}(hu:A.units+1<cLine) (g:PSt hf a xs s.heap)
  (hm:∀x∈xs,SmP x.1/\IsP prog w s.heap x.1 x.2) (nd:(xs.map (·.1)).Nodup) (hk:SmP k) (hkb:IsP prog w s.heap k b)
  (h:Q (decide<|k∈xs.map (·.1)) { s with toks:=s.toks+3 }):wpAny (model prog w) A (contains (.ref a) (.ref b)) Q E s:=by
 unfold contains
 try with_reducible refine Bq ?_
 have T:=g.typeIs hfi;refine AA (wpAny_specialOf T F.slot_set_contains.lookup ?_);show wpAny _ _ (if (some (Value.builtin "set.__contains__") == some Value.none)=true then _ else _) _ E s;rw[AB (by rw[beq_builtin_none];exact BR)];refine AA (wpAny_callSpecialUnlessNone?_slot (name:=Str.ofString "__contains__") T F.slot_set_contains
  (wpAny_call_entry F.slot_set_contains T entry_set_contains ?_ (F.args_set_contains_2 _ _)))
 unfold Builtin.«frozenset.__contains__» Builtin.Frozenset.oneOther;simp only[KS,bind_assoc];unfold Builtin.Frozenset.addrOf Builtin.Frozenset.withSetAsKey setContains;refine AA<|AH ?_
 try dsimp only
 refine AA<|AH ?_
 try dsimp only
 refine AA<|Gn ?_;refine Bq ?_;refine AA<|OT hfi hfe ?_ hkb ?_
 ·exact hu
 refine AA (UP hfi ?_ (s:={ s with toks:=s.toks+3 }) g hm nd hk hkb λr R=>?_)
 ·exact hu
 refine AH ?_;show wpAny _ _ (ret<|Value.bool r.isSome) _ _ _;rw[R];exact AH (_,rfl,wpAny_truthy_bool h)
theorem Tb {a b:Addr}{xs:List ((Int × Int) × Addr)}{k:Int × Int}(hfe:∀(k:Int × Int),tupleKeyHash (PySem.intKind prog w) [k.1,k.2]=hf k) {Q:AX}(hu:A.units+1<cLine) (g:PSt hf a xs s.heap)
  (hm:∀x∈xs,SmP x.1/\IsP prog w s.heap x.1 x.2) (nd:(xs.map (·.1)).Nodup) (hk:SmP k) (hkb:IsP prog w s.heap k b)
  (h:Q (.bool (!decide (k∈xs.map (·.1)))) { s with toks:=s.toks+3 }):wpAny (model prog w) A (compareOp .NotIn (.ref b) (.ref a)) Q E s:=by
 show wpAny _ _ (do return .bool (!(<- contains (.ref a) (.ref b)))) Q E s;exact AA<|RK hfi hfe hu g hm nd hk hkb<|AH h
omit hfi in
theorem Rb (hk:IsP prog w s.heap k a) (h:Q true s):wpAny (model prog w) A (hashByValue 8 (.ref a)) Q E s:=by
 have T:=hk.typeIs;obtain⟨o,m,n,O,_,d,i⟩:=hk;unfold hashByValue;refine AA<|wpAny_specialOf T F.slot_tuple_hash.lookup ?_;dsimp only;refine AA<|wpAny_seqItems O d ?_;rw[IW];refine AA ?_;rw[<- Array.forIn_toList];refine wpAny_forIn_list _ (λe (r:Option Bool × Unit) S=>r.1=none/\S=s/\∃K,ItemsAre (PySem.intKind prog w) K e) _ ?_ ?_ _ _ (rfl,rfl,_,i)
 ·rintro v e r S ⟨R,rfl,K,l⟩
  cases l with
  |cons h1 h2=>
   obtain⟨t,rfl⟩:=Value.isInt_shape h1;unfold hashByValue;refine AA<|AH ?_;simp only[DV,Av,if_false];exact AH (rfl,rfl,_,h2)
 ·rintro⟨b,c⟩ S ⟨R,rfl,_⟩
  simp only at R;subst R;exact AH h
omit hfi in
theorem RI (a:Addr) (wanted:Nat):setRelay a wanted=(do
  let (es,_,t) <- setState a
  if SetTable.sizeAbove wanted > sizeLine then unsupported "set:memory"
  let (es,t) <- (do
   let some (t,order):=t.relaid (es.map (·.1)) wanted|unsupported "internal:set-table-without-room"
   let es':=order.filterMap (es[·]?)
   if es'.size != es.size then unsupported "internal:set-table-lost-an-element"
   pure ((es',t):_×_))
  storeSet a es t):=rfl
omit hfi in
theorem StG.store {h:Heap}{a:Addr}{o:Obj}{es:Array (Int × Value)}{ep:Nat}{t:SetTable}(ho:h.get? a=some o) (hx:o.ExactSet) (hd:o.data=.set es ep t) (es':Array (Int × Value)) (t':SetTable) :
  (h.update a<|Obj.putSet es' t').get? a=some { o with data:=.set es' (ep+1) t' }:=by
 have:=EM (Obj.putSet es' t') ho (by rw[putSet_of es' t' hd];rfl);rw[putSet_of es' t' hd]at this;exact this
theorem Uh {a b:Addr}{o:Obj}{es:Array (Int × Value)}{ep:Nat}{t:SetTable}{xs:List ((Int × Int) × Addr)}{k:Int × Int}{Q:Bool->Shared->Prop}(g:StG hf s.heap a o es ep t xs) (hb:xs.length<=200)
  {j:Nat}(j1:j<=t.mask) (j2:∀i:Nat,t.place[i]?≠some j) (j3:Dj t.mask (λx=>∃y:Nat,t.place[y]?=some x) (hf k) j)
  (h:∀h',Heap.SameBut a s.heap h' -> PSt hf a (xs++[(k,b)]) h' -> Q true { s with heap:=h' }) :
  wpAny (model prog w) A (do
   storeSet a (SetTable.insertAt es (t.put j).2 (hf k,Value.ref b)) (t.put j).1
   if (!false && (t.put j).1.tooFull)=true then do
    setRelay a (SetTable.grown<|es.size+1)
    pure true
   else pure true) Q E s:=by
 have hsz:=g.size;have hps:=g.psz;have hnf:=g.nf;have hmk:=g.mks;obtain⟨T,hp⟩:=g.tb.put j1 j2 j3 (by lia);rw[AK,Array.length_toList]at hp;obtain⟨p,ep'⟩:∃p,(t.put j).2=p:=(_,rfl);obtain⟨t1,et⟩:∃t1,(t.put j).1=t1:=(_,rfl);have em:t1.mask=t.mask:=by rw[<- et];rfl
 rw[ep',et]at T ⊢;rw[ep']at hp;obtain⟨es1,ee⟩:∃es1,SetTable.insertAt es p (hf k,Value.ref b)=es1:=(_,rfl);have hl1:es1.toList=es.toList.take p++(hf k,Value.ref b)::es.toList.drop p:=by rw[<- ee];exact Ks _ _ _ hp
 have T1:STb t1 (es1.toList.map (·.1)):=by
  rw[hl1,BD,BX,List.map_take,List.map_drop];exact T
 have el1:es1.toList.Perm ((xs++[((k,b):_×_)]).map (entP hf)):=by
  rw[hl1,BD];refine KR.trans ?_;rw[D0];exact(KG (l₁:=[_]) (l₂:=es.toList)).trans (g.el.append<|List.Perm.refl _)
 have z1:es1.size=es.size+1:=by
  rw[<- Array.length_toList,hl1,Aw,Aj,Bj,DD,Array.length_toList];lia
 have pz1:t1.place.size=es1.size:=by have:=T1.sz;rwa [AK,Array.length_toList]at this
 have f1:t1.fits es1.size=true:=by
  unfold SetTable.fits SetTable.fill;rw[T1.dm,pz1];have:=T1.ro;rw[pz1]at this;simp;lia
 rw[ee];refine AA<|wpAny_storeSet_of g.ob g.da ?_ (by rw[z1,sizeLine_eq];lia);have ho1:=StG.store g.ob g.ex g.da es1 t1;have sb:=Heap.SameBut.update s.heap a<|Obj.putSet es1 t1;by_cases c:t1.tooFull=true
 ·rw[c]
  simp only[HA,Bool.and_self,↓reduceIte];have c':(t1.place.size+t1.dummies.size)*5 >= t1.mask*3:=by simpa [SetTable.tooFull,SetTable.fill] using c
  rw[T1.dm,pz1,z1,em]at c';have c':(es.size+1+0)*5 >= t.mask*3:=c';obtain⟨M,e1,e2,e3,e4⟩:∃M,SetTable.sizeAbove (SetTable.grown<|es.size+1)-1=M/\DB M/\(M=7\/M=31\/M=127\/M=511)/\(es.size+1)*5<M*3/\SetTable.sizeAbove (SetTable.grown<|es.size+1)<=sizeLine:=by
   rcases hmk with m|m|m|m
   ·obtain e:es.size+1=5:=by lia
    rw[e];exact(31,by decide,cyc31,.inr (.inl rfl),by decide,by decide)
   ·obtain e:es.size+1=19:=by lia
    rw[e];exact(127,by decide,cyc127,.inr (.inr (.inl rfl)),by decide,by decide)
   ·obtain e:es.size+1=77:=by lia
    rw[e];exact(511,by decide,cyc511,.inr (.inr (.inr rfl)),by decide,by decide)
   ·lia
  rw[RI];refine AA<|AA<|wpAny_setState_of ho1 rfl f1 ?_;dsimp only;rw[AB (by lia)];obtain⟨t2,order,q1,q2,q3,q4,T2,pm⟩:=Vh (m:=M) (fg:=t1.finger) (mv:=t1.movedTo M) (ld:=t1.led) (pn:=t1.plain) (hs:=es1.map (·.1)) e2 (by rw[Array.size_map,z1];lia);have q:t1.relaid (es1.map (·.1)) (SetTable.grown<|es.size+1)=some (t2,order):=by
   unfold SetTable.relaid;rw[e1];exact q1
  rw[q];dsimp only;rw[Array.size_map]at pm;have hq:∀x∈order.toList,x<es1.size:=λx hx=>Ax.mp<|pm.mem_iff.mp hx;obtain⟨f2,f3⟩:=Jj (es:=es1) order.toList hq;have ol:order.toList.length=es1.size:=by have:=pm.length_eq;rwa [BS]at this
  have fl:(order.filterMap (es1[·]?)).toList=order.toList.filterMap (es1[·]?):=Array.toList_filterMap;have z2:(order.filterMap (es1[·]?)).size=es1.size:=by rw[<- Array.length_toList,fl,f2,ol]
  have el2:(order.filterMap (es1[·]?)).toList.Perm ((xs++[((k,b):_×_)]).map (entP hf)):=by
   rw[fl];refine(pm.filterMap _).trans ?_;rw[Tw];exact el1
  have T2':STb t2 ((order.filterMap (es1[·]?)).toList.map (·.1)):=by
   have:(order.filterMap (es1[·]?)).toList.map (·.1)=order.toList.filterMap ((es1.map (·.1))[·]?):=by
    rw[fl,List.map_filterMap];congr 1
    funext x
    rw[Array.getElem?_map]
   rw[this];exact T2
  rw[AB (by rw[z2];simp)];refine AA<|AH ?_;dsimp only;refine wpAny_storeSet_of ho1 rfl ?_ (by rw[z2,z1,sizeLine_eq];lia);refine AH<|h _ (sb.trans<|Heap.SameBut.update _ a _) (_,_,_,t2,StG.store ho1 g.ex rfl _ t2,g.ex,rfl,el2,T2',?_,by rw[q2];exact e3);rw[z2,z1,q2];exact e4.1
 ·rw[Ez.mpr c]
  simp only[ER,Av,↓reduceIte];refine AH<|h _ sb (_,es1,ep+1,t1,ho1,g.ex,rfl,el1,T1,?_,by rw[em];exact hmk);have c':¬ (t1.place.size+t1.dummies.size)*5 >= t1.mask*3:=by simpa [SetTable.tooFull,SetTable.fill] using c
  rw[T1.dm,pz1]at c';have c':¬ (es1.size+0)*5 >= t1.mask*3:=c';lia
theorem Qy {a b:Addr}{xs:List ((Int × Int) × Addr)}{k:Int × Int}{Q:Bool->Shared->Prop}(hu:A.units<cLine) (g:PSt hf a xs s.heap)
  (hm:∀x∈xs,SmP x.1/\IsP prog w s.heap x.1 x.2) (nd:(xs.map (·.1)).Nodup) (hk:SmP k) (hkb:IsP prog w s.heap k b) (hb:xs.length<=200)
  (h:∀(r:Bool) h',Heap.SameBut a s.heap h' -> PSt hf a (if k∈xs.map (·.1) then xs else xs++[(k,b)]) h' -> Q r { s with heap:=h' }) :
  wpAny (model prog w) A (setAddHashed a (.ref b)<|hf k) Q E s:=by
 obtain⟨o,es,ep,t,g⟩:=g;unfold setAddHashed setAddHashedIn;refine Bq ?_;refine AA<|wpAny_setState_of g.ob g.da g.fits ?_;dsimp only;rw[noScan];simp only[Av,↓reduceIte];refine AA (NJ hfi hu g hm nd hk hkb (λc i hi=>?_) λc j j1 j2 j3=>?_)
 ·dsimp only
  have:=h false s.heap<|Heap.SameBut.refl _ _;rw[AD c]at this;exact AH (this (o,es,ep,t,g))
 ·dsimp only
  refine AA (wpAny_setState_of g.ob g.da g.fits ?_);dsimp only;have tail:wpAny (model prog w) A (do
   storeSet a (SetTable.insertAt es (t.put j).2 (hf k,Value.ref b)) (t.put j).1
   if (!false && (t.put j).1.tooFull)=true then do
    setRelay a (SetTable.grown<|es.size+1)
    pure true
   else pure true) Q E s:=Uh hfi g hb j1 j2 j3 λh' sb P=>h true h' sb (by rw[AB c];exact P)
  split
  ·refine AA (Rb hkb ?_)
   simpa only[↓reduceIte] using tail
  ·refine AA (AH ?_)
   simpa only[↓reduceIte] using tail
theorem Rf {a b:Addr}{xs:List ((Int × Int) × Addr)}{k:Int × Int}(hfe:∀(k:Int × Int),tupleKeyHash (PySem.intKind prog w) [k.1,k.2]=hf k) {Q:AX}(hu:A.units+1<cLine) (g:PSt hf a xs s.heap)
  (hm:∀x∈xs,SmP x.1/\IsP prog w s.heap x.1 x.2) (nd:(xs.map (·.1)).Nodup) (hk:SmP k) (hkb:IsP prog w s.heap k b) (hb:xs.length<=200)
  (h:∀h',Heap.SameBut a s.heap h' -> PSt hf a (if k∈xs.map (·.1) then xs else xs++[(k,b)]) h' -> Q .none { s with heap:=h',toks:=s.toks+3 }) :
  wpAny (model prog w) A (call (.builtin "set.add") [.ref a,.ref b]) Q E s:=by
 refine wpAny_call_entry F.slot_set_add (g.typeIs hfi) F.entry_set_add ?_<|F.args_set_add_2 _ _;unfold Builtin.«set.add» Builtin.Frozenset.oneOther;simp only[KS,bind_assoc];unfold Builtin.Frozenset.addrOf setAdd;refine AA<|AH ?_
 try dsimp only
 refine AA<|AH ?_
 try dsimp only
 refine AA ?_;refine Bq ?_;refine AA<|OT hfi hfe ?_ hkb ?_
 ·exact hu
 refine Qy hfi ?_ (s:={ s with toks:=s.toks+3 }) g hm nd hk hkb hb λr h' B S=>?_
 ·exact hu
 show wpAny _ _ (ret Value.none) _ _ _;exact AH (_,rfl,h h' B S)
end
def MemT (H:Hp) (xs:List ((Int × Int) × Addr)):Prop:=(xs.map (·.1)).Nodup/\∀x∈xs,SmP x.1/\H x.2=some (.tup [.int x.1.1,.int x.1.2])
theorem MC (ok:HOk P w H h) (e:H b=some (.tup [.int k.1,.int k.2])):IsP P w h k b:=by
 obtain⟨_,s,r,o,a,⟨c,n,d⟩,_⟩:=(show ObjOk P w H h b (.tup [.int k.1,.int k.2]) from ok b _ e);obtain⟨u,v,rfl,⟨t,rfl⟩,⟨T,rfl⟩⟩:=r.two;exact(o,_,n,a,c,d,.cons (by simp[PySem.intKind,Value.isInt]) (.cons (by simp[PySem.intKind,Value.isInt]) .nil))
theorem Oz (ok:HOk P w H h) (m:MemT H xs):∀x∈xs,SmP x.1/\IsP P w h x.1 x.2:=λx X=>((m.2 x X).1,MC ok (m.2 x X).2)
theorem ML (ok:HOk P w H h) (e:H p=some (.ext<|PSt hashP p' xs)):p'=p/\PSt hashP p xs h:=by
 obtain⟨f,⟨o,O⟩,T⟩:=(show ObjOk P w H h p (.ext<|PSt hashP p' xs) from ok p _ e);by_cases c:p'=p
 ·subst c;exact(rfl,f)
 ·have F:=f
  obtain⟨i,S,d,t,g⟩:=F;have b:=T h (h.update p' λo=>{ o with data:=.seq #[] 0 }) f λo q=>by
   rw[(Heap.SameBut.update h p' _).2 p (Ne.symm c)];exact q
  obtain⟨j,s,a,k,G⟩:=b;have E:=EM (λo:Obj=>{ o with data:=.seq #[] 0 }) g.ob rfl;have:=G.ob;rw[E]at this;cases this;exact absurd G.da (λz=>by cases z)
theorem QC (f:PSt hashP p xs h):ObjOk P w H h p (.ext<|PSt hashP p xs):=
 (f,let ⟨o,_,_,_,g⟩:=f; (o,g.ob),λc d a b=>a.keep b)
section
variable {X:Cx}
def rSet0T:List V->Hp->VK->Prop:=λs H Q=>s=[]/\∀p,H p=none->Q (.ref p) (upd H p (.ext<|PSt hashP p []))
theorem U8 (led:Bool):STb (SetTable.fresh 0 0 led) []:=(rfl,cyc7,PU,rfl,λi j e=>by simp[SetTable.fresh]at e,λi j h e=>by simp[SetTable.fresh]at e,by show 0<7;decide)
theorem R1:CallR X (.type "set") rSet0T:=by
 intro pins s Z H xs us Q I r h;obtain⟨rfl,q⟩:=h;cases r;refine call_set_0 λd=>(.ref s.heap.objs.size,_,I.laid (t':=s.toks) (λ_ _ z=>Au _ z) (AS _) ?_,rfl,q _<|I.hok.fresh<|AS _);exact QC (_,#[],0,_,BP _ rfl,(rfl,rfl,rfl),rfl,List.Perm.refl _,U8 d,by show 0*5<7*3;decide,.inl rfl)
def rNinT:R2:=λx y H Q=>∃a a' b xs k,y=.ref a/\x=.ref b/\H a=some (.ext<|PSt hashP a' xs)/\MemT H xs/\SmP k/\H b=some (.tup [.int k.1,.int k.2])/\Q (.bl (!decide (k∈xs.map (·.1)))) H
theorem ninT (hu:X.A.units+1<cLine):OpR X (compareOp .NotIn) rNinT:=by
 intro pins s Z H x y v u Q I rx ry h;obtain⟨a,d,b,S,k,rfl,rfl,c,m,K,B,q⟩:=h;cases rx;cases ry;obtain⟨rfl,f⟩:=ML I.hok c;exact Tb N0 (λ_=>rfl) hu f (Oz I.hok m) m.1 K (MC I.hok B) (.bl _,H,I.tok _,rfl,q)
def rSAddT:V->List V->Hp->VK->Prop:=λx s H Q=>∃a a' b xs k,x=.ref a/\s=[.ref b]/\H a=some (.ext<|PSt hashP a' xs)/\MemT H xs/\SmP k/\H b=some (.tup [.int k.1,.int k.2])/\xs.length<=200 /\
 Q .non (upd H a (.ext<|PSt hashP a (if k∈xs.map (·.1) then xs else xs++[(k,b)])))
theorem OY (hu:X.A.units+1<cLine):MtM X "set.add" rSAddT:=by
 intro pins s Z H x vs v us Q I rx rv h;obtain⟨a,d,b,i,k,rfl,rfl,c,m,K,B,n,q⟩:=h;cases rx;obtain⟨u,rfl,r⟩:=rv.one;cases r;obtain⟨rfl,f⟩:=ML I.hok c;refine Rf N0 (λ_=>rfl) hu f (Oz I.hok m) m.1 K (MC I.hok B) n λe S P=>?_;refine(.non,_,Le I (by rw[c];trivial) S ?_<|QC P,rfl,q);obtain⟨o,_,_,_,g⟩:=P;exact(o,g.ob)
def tyS (x:V) (H:Hp):Prop:=∃p p' xs,x=.ref p/\H p=some (.ext<|PSt hashP p' xs)
def tBMS (r:V->List V->Hp->VK->Prop) (to:TE) (t:TA):TE:=λZ H Q=>to Z H λx h=>tyS x h/\t Z h λs a=>r x s a Q
theorem Zy7 {pins:Ai}{Z:St}{H:Hp}{s:Shared}{x:V}{v:Value}(I:AG X pins Z H s) (r:RelV x v) (ty:tyS x H) :
  s.TypeIs v "set" /\ ∀a,v=.ref a->∃ob,s.heap.get? a=some ob/\ob.dict=none:=by
 obtain⟨p,b,c,rfl,e⟩:=ty;cases r;obtain⟨rfl,o,S,P,t,g⟩:=ML I.hok e;exact((o,g.ob,g.ex.1),λa E=>by cases E;exact(o,g.ob,g.ex.2.1))
variable {o e:Expr}{es:List Expr}{to:TE}{t:TA}{name:Str}{apos cpos:Pos}{id:String}{r:V->List V->Hp->VK->Prop}
theorem bmS (pa:PlainAttrs "set") (slot:PySem.Slot "set" name id) (hty:typeOf (.builtin id)=pure (.type "method_descriptor")) (hm:MtM X id r) (ho:PE X o to) (ha:PA X (e::es) t)
  (hbase:attributeBase o name X.env (eval o X.env)=eval o X.env:=by rfl)
  (hfew:((backTo cpos (starEach (e::es) X.env)).all (λx=>!x.1) && (backToKw cpos (keywordEach [] X.env)).all (λx=>x.1.isSome)
   && decide ((e::es).length+([]:List Keyword).length+(if ([]:List Keyword).isEmpty then 0 else 1)<30))=true:=by rfl)
  (hline:(apos.endLine == cpos.line)=true:=by rfl) (hs:starEach (e::es) X.env=(false,eval e X.env)::starEach es X.env:=by rfl) (hplain:(backTo cpos<|starEach es X.env).any (·.1)=false:=by rfl) :
  PE X (.Call (.Attribute o name apos) (e::es) [] cpos) (tBMS r to t):=by
 intro pins s Z H Q I h;refine wpAny_Call_method_late hbase hfew hline rfl (thn (ho pins s Z H _ I h) λv s1 (x,H1,I1,r1,ty,q1)=>?_);obtain⟨a,b⟩:=Zy7 I1 r1 ty;refine("set",id,pa,slot,hty,a,b,?_);have A:=ha cpos pins s1 Z H1 _ I1 q1;rw[hs]at A ⊢;refine Calls.callWith_builtin (by show (false || (backTo cpos<|starEach es X.env).any (·.1))=false;rw[hplain] <;> rfl)<|Calls.evalArgs_plain ?_
 exact thn A λus s2 (vs,H2,I2,r2,q2)=>hm pins s2 Z H2 x vs v us Q I2 r1 r2 q2
end
def stR (ks:AW):Hp->(Heap->Prop)->Prop:=λG φ=>∃a xs,φ = PSt hashP a xs/\xs.map (·.1)=ks/\MemT G xs
def stO (ks:AW):OD:=.ext<|stR ks
def dP (k:Int × Int):D:=.tup [.int k.1,.int k.2]
theorem MemT.mono (s:Same G G') (m:MemT G xs):MemT G' xs:=(m.1,λx h=>((m.2 x h).1,s _ _ (m.2 x h).2))
def addP (ks:AW) (k:Int × Int):AW:=if k∈ks then ks else ks++[k]
section
variable {K:W.Frag}{U:AI}{P:D->AI->Prop}
theorem Ly (h:OwnRep K G o (stO ks)):∃a xs,o=.ext (PSt hashP a xs)/\xs.map (·.1)=ks/\MemT G xs:=by
 cases o with
 |ext φ=>
  obtain⟨g,s,a,xs,rfl,e,m⟩:=h;exact(a,xs,rfl,e,m.mono s)
 |_=>exact h.elim
theorem QO (r:AY K G v (dP k)):∃b,v=.ref b/\G b=some (.tup [.int k.1,.int k.2]):=by
 obtain⟨b,V,rfl,a,d⟩:=r.inv;obtain⟨u,f,rfl,R,s⟩:=d.inv;obtain⟨e,U,rfl,c,S⟩:=s.inv;cases R.inv;cases c.inv;cases S.inv;exact(b,rfl,a)
theorem WX (p:Po (stO []) U):JO K (tCB rSet0T tNil) U Po:=λg G H Z Q k c=>by
 refine(rfl,λl L=>?_);obtain⟨a,d⟩:=k.fresh (od:=stO []) L (show OwnRep K G (.ext<|PSt hashP l []) (stO []) from (G,Same.refl _,l,[],rfl,rfl,D9,λx h=>nomatch h));exact c l _ G _ U a (Same.refl _) d p
theorem Wa (h:JE K ta U λd U1=>∃x ks k,U1[n]?=some x/\x.od=some (stO ks)/\d=dP k/\SmP k/\P (.bl (!decide (k∈ks))) U1):JE K (tOp rNinT ta<|tVar n) U P:=λg G H Z Q k c=>
 h g G H Z _ k λv d i j U1 f S R q=>by
  obtain⟨x,ks,l,r,s,t,u,p⟩:=q;subst t;obtain⟨b,rfl,B⟩:=QO R;obtain⟨a,o,w,W,y,z,C⟩:=f.own n x _ r s;obtain⟨A,X,rfl,e,m⟩:=Ly y;refine(.ref a,w,a,A,b,X,l,rfl,rfl,W,m.mono λb o B=>f.live b o B,u,f.live _ _ B,?_);rw[e];exact c _ _ i j U1 f S (.bl _) p
theorem OF {n:Nat}{te:TE}{x:Slot}{ks0:AW}{nx bk ct:AI->Prop}{rt:D->AI->Prop}{ro:OD->AI->Prop}(hx:U[n]?=some x) (ho:x.od=some (stO ks0))
  (h:JE K te U λd U1=>∃y ks k,U1[n]?=some y/\y.od=some (stO ks)/\d=dP k/\SmP k/\ks.length<=200/\nx (U1.set n<|y.put<|stO<|addP ks k)) :
  JS K (tDrop<|tBMS rSAddT (tVar n)<|tCons te tNil) U (nx,rt,bk,ct,ro):=λg G H Z E k c=>by
 obtain⟨a,o,f,j,l,t,u⟩:=k.own n x _ hx ho;obtain⟨A,s,rfl,_,_⟩:=Ly l;refine(.ref a,f,(a,A,s,rfl,j),h g G H Z _ k λv d G1 H1 U1 k1 s1 r1 (y,ks,kk,q1,q2,q3,q4,q5,p)=>?_);subst q3;obtain⟨b,rfl,B⟩:=QO r1;obtain⟨r,O,w,W,q,C,F⟩:=k1.own n y _ q1 q2;rw[f]at w;cases w;obtain⟨i,S,rfl,e,m⟩:=Ly q;refine(a,i,b,S,kk,rfl,rfl,W,m.mono λb o B=>k1.live b o B,q4,k1.live _ _ B,by rw[<- e,AK]at q5;exact q5,c.nx Z G1 _ _ (k1.write q1 q2 f ?_) p);refine(G1,Same.refl _,a,_,rfl,?_,?_)
 ·unfold addP
  rw[e];split
  ·exact e
  ·rw[BD,e];rfl
 ·rw[e]
  by_cases cc:kk∈ks
  ·rw[AD cc];exact m
  ·rw[AB cc]
   refine(?_,λx hx=>?_)
   ·rw[BD,e]
    exact D7.mpr (e ▸ m.1,by simp,λx hx y Y=>by
     have:y=kk:=by simpa using Y
     subst this;exact λz=>cc (z ▸ hx))
   ·rcases Bb.mp hx with hx|hx
    ·exact m.2 x hx
    ·have:x=(kk,b):=by simpa using hx
     subst this;exact(q4,B)
end
end L2
namespace L2
open PySem PySem.Spec PyProof.Rows
section
variable {K:W.Frag}{U:AI}{P:D->AI->Prop}
theorem UX (p:Po (.dtt []) U):JO K tDNewT U Po:=λg G H Z Q k c q h=>by
 obtain⟨a,d⟩:=k.fresh (od:=.dtt []) h (show OwnRep K G (.dT []) (.dtt []) from .nil);exact c q _ G _ U a (Same.refl _) d p
theorem UE {ks:List Int}(r:AY K G v (.tup<|ks.map D.int)):∃b,v=.ref b/\G b=some (.tup ((ks.map (Sum.inl:Int->AO)).map kV)):=by
 obtain⟨b,S,rfl,a,s⟩:=r.inv;have:=s.ints;subst this;exact(b,rfl,by rw[a,A5];rfl)
theorem Ob {n:Nat}{ti te:TE}{nx bk ct:AI->Prop}{rt:D->AI->Prop}{ro:OD->AI->Prop}(h:JE K te U λd U1=>(∃x od,U1[n]?=some x/\x.od=some od)/\JE K ti U1 λe U2=>∃(x:Slot) (kvs:List (List AO × D)) (ks:List Int),U2[n]?=some x/\x.od=some (.dtt kvs)/\e=.tup (ks.map D.int)/\kvs.length<sizeLine/\nx (U2.set n<|x.put (.dtt<|putT kvs (ks.map .inl) d))) :
  JS K (tAsg te<|gSub (tVar n) ti rSetU) U (nx,rt,bk,ct,ro):=λg G H Z E k c=>
 h g G H Z _ k λv d l m U1 i S R q=>by
  obtain⟨⟨x,od,X,O⟩,P⟩:=q;obtain⟨a,o,f,C,F,I,J⟩:=i.own n x _ X O;refine(.ref a,f,P g l m Z _ i λu e G2 H2 U2 k2 s2 r2 (y,kvs,ks,q1,q2,q3,q4,p)=>?_);subst q3;obtain⟨b,rfl,B⟩:=UE r2;obtain⟨A,r,W,s,j,L,M⟩:=k2.own n y _ q1 q2;rw[f]at W;cases W;cases r with
  |dT vs=>
   have w:KTD K G2 vs kvs:=j;exact .inr (a,_,rfl,DPut.t s (k2.live _ _ B) (by rw[Paired.length w];exact q4),c.nx Z G2 _ _ (k2.write q1 q2 f (show OwnRep K G2 (.dT<|putK vs (ks.map .inl) v) (.dtt<|putT kvs (ks.map .inl) d) from Vy (R.mono s2) w)) p)
  |_=>exact absurd j (λz=>z)
end
open PySem PySem.Spec PyProof.Rows PySem.SeqAt
def codLe (a b:Aa):Prop:=a=[]\/∃x y s t,a=x::s/\b=y::t/\x≠y/\rlt y x=false
def AscC (cs:List (List<|List Int)):Prop:=∀i a b,cs[i]?=some a->cs[i+1]?=some b->codLe a b
theorem VE (h:codLe a b):cLt b a=false:=by
 rcases h with rfl|⟨x,y,s,t,rfl,rfl,H,c⟩
 ·cases b <;> rfl
 ·show (if y=x then _ else rlt y x)=false
  rw[AB (Ne.symm H)];exact c
section
variable {prog:Program}{w:World}{A:Around}{E:AX}{s:Shared}
theorem P9 (hu:A.units<cLine) (hx:RowAt s.heap x a) (hy:RowAt s.heap y b) (h:Q (.bool<|rlt a b) s):wpAny (model prog w) A (richCompare .Lt x y) Q E s:=by
 obtain⟨l,S,rfl,⟨⟨n,f,T,L⟩,O,C,k,D⟩,I⟩:=hx;obtain⟨m,t,rfl,⟨⟨p,g,j,e⟩,o,c,K,d⟩,i⟩:=hy;simp only at C D c d;subst C D c d;exact richCompare_meets_room (op:=.Lt) (_,O,rfl) (_,o,rfl) PySem.F.slot_tuple_lt PySem.F.entry_tuple_lt (PySem.F.args_tuple_lt_2 _ _) (HT.tuple_lt_ints l m S.toArray t.toArray k K f g L e a b (by simpa using I) (by simpa using i))
  (O,o,show Value.bool (HT.lexLt a b)≠Value.notImplemented/\_ from ((λx=>nomatch x),h)) hu
theorem Rt (p:Paired (CodeAt s.heap) vs cs):∀v∈vs,PySem.W.Looks (model prog w) s.heap (typeOf v) (.type "tuple"):=by
 intro v h
 induction p with
 |nil=>cases h
 |cons q t ih=>
  rcases Ar.mp h with e|h
  ·subst e
   obtain⟨a,i,rfl,⟨o,O,c,_⟩,_⟩:=q;have z:PySem.W.Looks (model prog w) s.heap (typeOf (.ref a)) o.cls:=(PySem.W.Looks.ld O).andThen .now;rw[c]at z;exact z
  ·exact ih h
theorem Ms:∀(vs:List Value) (cs:List (List<|List Int)) {Q:List (Option Value)->Shared->Prop},Paired (CodeAt s.heap) vs cs ->
  (∀fs:List (Option Value),Paired (λ(f:Option Value) (c:Aa)=>c=[]->f=none) fs cs->Q fs s)->wpAny (model prog w) A (vs.mapM firstOfTuple') Q E s
 |[],[],_,_,h=>by rw[List.mapM_nil];exact AH (h [] .nil)
 |v::vs,c::cs,Q,.cons p t,h=>by
  obtain⟨a,i,rfl,⟨o,O,C,n,d⟩,I⟩:=p;rw[List.mapM_cons];refine AA ?_;rw[PySem.W.kas_first_eq];refine AA<|PySem.W.Looks.here (show PySem.W.Looks (model prog w) s.heap (typeOf (.ref a)) o.cls from (PySem.W.Looks.ld O).andThen .now) ?_;rw[C,AB (by first|decide|simp)];refine AA<|listItems_at O d<|AH ?_;refine AA (Ms vs cs (Q:=λb S=>wpAny _ A (pure (i.toArray[0]?::b)) Q E S) t λfs F=>AH<|h _ (.cons ?_ F));intro e;subst e;cases I;rfl
theorem Rj (p:Paired (CodeAt s.heap) vs ([]::cs)) (h:Q oneType' s):wpAny (model prog w) A (keyKind' vs.toArray) Q E s:=by
 have T:=Rt (prog:=prog) (w:=w) p;rw[keyKind'_eq,G8,map_eq_pure_bind];refine AA<|AA (Ms vs _ p λS P=>AH ?_);cases P with
 |@cons f _ S _ F _=>
  have F:f=none:=F rfl;subst F;rw[AB (by simp),AB (by simp)];rw[oneTypeOnly'_eq,G8,map_eq_pure_bind];refine AA<|AA<|AA<|PySem.W.kas_mapM (r:=.type "tuple") _ (λv V a q=>(T v V).here q)<|AH ?_;cases p with
  |@cons v _ vs _ _ _=>
   have l:((A9 (λ_=>Value.type "tuple") (v::vs)).toArray.all λx=>x == Value.type "tuple")=true:=by
    simp only[KU,II,Ci];intro _ _;exact(by decide:(Value.type "tuple" == Value.type "tuple")=true)
   have H:(A9 (λ_=>Value.type "tuple") (v::vs)).toArray[0]?=some (Value.type "tuple"):=by simp
   rw[H];simp only[l,if_true];exact AH<|AH h
theorem Ro (p:Paired (CodeAt s.heap) vs cs) (hne:∀r∈cs,r≠[]) (h1:cs≠[]) (h:Q (tuples' false) s):wpAny (model prog w) A (keyKind' vs.toArray) Q E s:=by
 have X:∃f:List Value,PySem.W.KatTups s.heap vs f/\f.length=cs.length/\∀v∈f,PySem.W.Looks (model prog w) s.heap (typeOf v) (.type "tuple"):=by
  clear h h1
  induction p with
  |nil=>exact([],trivial,rfl,λ_ h=>nomatch h)
  |@cons v r vs cs q t ih=>
   obtain⟨f,k,d,K⟩:=ih λr R=>hne r<|BQ _ R;obtain⟨a,T,rfl,⟨o,H,C,n,D⟩,I⟩:=q;cases I with
   |nil=>exact absurd rfl (hne [] Bh)
   |@cons u x us l hx hl=>
    refine(u::f,.cons H C D (by simp) k,by rw[Aj,Aj,d],λv V=>?_);rcases Ar.mp V with e|V
    ·subst e
     obtain⟨b,i,rfl,⟨g,O,c,_⟩,_⟩:=hx;have z:PySem.W.Looks (model prog w) s.heap (typeOf (.ref b)) g.cls:=(PySem.W.Looks.ld O).andThen .now;rw[c]at z;exact z
    ·exact K v V
 obtain⟨f,k,d,K⟩:=X;have S:0<cs.length:=KL.mpr h1;exact PySem.W.kat_kind k (by lia) K (by decide) h
theorem Us (hu:A.units+2<cLine) (pa:CodeAt s.heap u a) (pb:CodeAt s.heap v b) (hle:codLe a b) (h:Q false s):wpAny (model prog w) A (keyLt' oneType' v u) Q E s:=by
 obtain⟨l,S,rfl,⟨⟨p,f,j,L⟩,o,C,n,D⟩,I⟩:=pb;obtain⟨k,t,rfl,⟨⟨q,g,m,e⟩,O,c,N,d⟩,i⟩:=pa;simp only at C D c d;subst C D c d;rw[keyLt'_oneType,oneLt'_eq];simp only[if_true];refine AA<|wpAny_cRoomFor (by lia) ?_;refine AA<|wpAny_callSpecialIfBound?_slot (T:="tuple") (_,o,rfl) F.slot_tuple_lt<|call_meets F.slot_tuple_lt (_,o,rfl) F.entry_tuple_lt (F.args_tuple_lt_2 _ _) (Q7 l k S.toArray t.toArray n N f g L e b a) (?_,(by simpa using I,by simpa using i),o,O,?_)
 ·show A.units+1<cLine;lia
 ·rw[VE hle]
  exact wpAny_truthy_bool h
theorem Tq (hu:A.units+2<cLine) (pa:CodeAt s.heap u a) (pb:CodeAt s.heap v b) (hne:a≠[]) (hle:codLe a b) (h:Q false s):wpAny (model prog w) A (keyLt' (tuples' false) v u) Q E s:=by
 obtain⟨l,S,rfl,⟨f,O,e,n,D⟩,I⟩:=pb;obtain⟨k,t,rfl,⟨g,o,C,N,d⟩,i⟩:=pa;rcases hle with z|⟨x,y,j,T,rfl,rfl,H,c⟩
 ·exact absurd z hne
 ·cases I with
  |@cons u1 _ us1 _ q1 _=>
   cases i with
   |@cons u2 _ us2 _ q2 _=>
    refine PySem.W.kat_lt O D o d ?_;show PySem.W.KatLex prog w A false _ Q ((u1,u2)::us1.zip us2) 0 s;refine PySem.W.kat_cons<|OJ q1 q2 (by omega) prog w _ _ ?_;rw[A7 (Ne.symm H)];refine PySem.W.kat_no ?_;rw[oneLt'_eq];simp only[Dn,Av,if_false];refine AA<|P9 (by omega) q1 q2 ?_;rw[c];exact wpAny_truthy_bool h
end
section
variable {X:Cx}
def rSortC (K:W.Frag):List V->Hp->VK->Prop:=λs H Q=>∃p us cs,s=[.ref p]/\SqL K H p us/\us.length<200/\Paired (CodeV K H) us cs/\AscC cs/\∀l,H l=none->Q (.ref l) (upd H l (.lst us))
theorem Vi (h:AscC cs) (h0:∀r,cs[0]?=some r->r≠[]):∀r∈cs,r≠[]:=by
 intro r hr;obtain⟨i,I⟩:=IC hr;cases i with
 |zero=>exact h0 r I
 |succ i=>
  have l:=(BB.mp I).1;have e:=AQ (show i<cs.length by lia);have:∀j,j<cs.length->∀c,cs[j]?=some c->c≠[]:=by
   intro j
   induction j with
   |zero=>intro _ c hc;exact h0 c hc
   |succ j ih=>
    intro hj c hc;have e:=AQ (show j<cs.length by lia);rcases h j _ _ e hc with z|⟨x,y,s,t,_,z,_⟩
    ·exact absurd z<|ih (by omega) _ e
    ·rw[z];exact λz=>nomatch z
  exact this _ l _ I
theorem Paired.getV {R:Value -> β -> Prop}{rs:List β}(p:Paired R vs rs) (h:i<vs.length):∃r,rs[i]?=some r/\R (vs.getD i .none) r:=by
 obtain⟨r,H,a⟩:=Paired.getC p<|AQ h;refine(r,H,?_);rw[Ao,AQ h];exact a
theorem sortCK (K:W.Frag) (hu:X.A.units+8<cLine) (hK:X.K=K:=by rfl):CallR X (.builtin "sorted") (rSortC K):=by
 subst hK;intro pins s Z H xs us Q I r h;obtain⟨p,ys,S,rfl,hx,hl,hp,M,q⟩:=h;obtain⟨u,rfl,G⟩:=vals1 r;cases (show u=Value.ref p from G);obtain⟨t,J,V,hz⟩:=I.list hx;have P:Paired (CodeAt s.heap) t S:=LF (R:=CodeV X.K H) (T:=CodeAt s.heap) (λy u c G h=>V2 I G h) J hp;have O:=J.length;have L:=Paired.length P;have n:EP X pins Z Q (.ref<|s.heap.objs.size+1) { s with heap:=sortedAll s.heap t t.toArray }:=by
  obtain⟨e,he⟩:=sortedAll_at s.heap t t.toArray;refine(.ref<|s.heap.objs.size+1,_,I.laid (t':=s.toks) (λ_ _ z=>sortedAll_old z) (Dq _) (show ObjOk X.prog X.w _ _ _ (.lst ys) from (hz,t,e,J,he)),rfl,q _<|I.hok.fresh<|Dq _)
 have U:X.A.in1.in1.units+2<cLine:=EW (by show X.A.units+1+1+2<=X.A.units+8;lia) hu;have m:∀i,1<=i->i<t.length->∃a b,S[i-1]?=some a/\CodeAt s.heap (t.getD (i-1) .none) a/\CodeAt s.heap (t.getD i .none) b/\codLe a b:=λi l j=>by
  obtain⟨a,g,B⟩:=Paired.getV (i:=i-1) P (by lia);obtain⟨b,D,F⟩:=Paired.getV (i:=i) P j;exact(a,b,g,B,F,M (i-1) a b g (by rw[show i-1+1=i by lia];exact D))
 by_cases h0:S[0]?=some []
 ·refine NF (κ:=oneType') V.isList (by lia) (λ_ d k E Q f=>?_) (λd k i l j E Q f=>?_) n
  ·cases S with
   |nil=>cases h0
   |cons r0 S=>
    have:r0=[]:=by simpa using h0
    subst this;exact Rj (s:={ s with heap:=d }) (Paired.mapP P λv r z=>z.keep k) f
  ·obtain⟨a,b,_,C,o,x⟩:=m i l j
   exact Us (s:={ s with heap:=d }) U (C.keep k) (o.keep k) x f
 ·have N:∀r∈S,r≠[]:=Vi M λr hr e=>h0 (by rw[hr,e])
  refine NF (κ:=tuples' false) V.isList (by omega) (λh2 d k E Q f=>?_) (λd k i l j E Q f=>?_) n
  ·exact Ro (s:={ s with heap:=d }) (Paired.mapP P λv r z=>z.keep k) N (by intro z;subst z;rw[DE]at L;lia) f
  ·obtain⟨a,b,Y,C,o,x⟩:=m i l j
   exact Tq (s:={ s with heap:=d }) U (C.keep k) (o.keep k) (N a<|Bk Y) x f
end
section
variable {K:W.Frag}{U:AI}{P:D->AI->Prop}
def codD (c:Aa):D:=.tup<|c.map rowD
theorem Nq (h:JA K ta U λds U1=>∃cs:List (List<|List Int),ds=[.lst (cs.map codD)]/\cs.length<200/\AscC cs/\Po (.lst<|cs.map codD) U1):JO K (tCB (rSortC K) ta) U Po:=λg G H Z Q k c=>
 h g G H Z _ k λv ds d m U1 b S j q=>by
  obtain⟨cs,e,L,f,p⟩:=q;subst e;obtain⟨_,_,rfl,r,t⟩:=j.inv;cases t.inv;obtain⟨a,s,rfl,A,R⟩:=r.inv;have n:=R.length;rw[AK]at n;refine(a,s,cs,rfl,SqL.of<|b.live _ _ A,by lia,NL b.live R,f,λl L=>?_);obtain⟨i,D⟩:=b.fresh (od:=.lst<|cs.map codD) L (show OwnRep K d (.lst s) (.lst<|cs.map codD) from R);exact c l _ d _ U1 i S D p
end
section
variable {K:W.Frag}{U:AI}
end
open PySem PySem.Spec PyProof.Rows PySem.SeqAt
section
variable {K:W.Frag}{U:AI}
end
open PySem PySem.Spec PyProof.Rows PySem.SeqAt
section
variable {K:W.Frag}{U:AI}{P:D->AI->Prop}
end
def gallop':Bool->Keyed->Array Keyed->Nat->Nat->Nat->StateT SortSt Sem (Option Nat):=sortPriv% PySem.Builtin.gallop
def mergeLo':Array Keyed->Array Keyed->StateT SortSt Sem (Array Keyed):=sortPriv% PySem.Builtin.mergeLo
def mergeHi':Array Keyed->Array Keyed->StateT SortSt Sem (Array Keyed):=sortPriv% PySem.Builtin.mergeHi
def beyond' (left:Bool) (key:Keyed) (arr:Array Keyed) (base i:Nat):StateT SortSt Sem (Option Bool):=do
 let x <- elem' arr (base+i)
 if left then lt' x key else return (<- lt' key x).map (!·)
theorem gallop'_eq (left:Bool) (key:Keyed) (arr:Array Keyed) (base n hint:Nat):gallop' left key arr base n hint=(do
 let mut lastofs:=0
 let mut ofs:=1
 let mut lo:=0
 let mut hi:=0
 let some right <- beyond' left key arr base hint|return none
 if right then
  let maxofs:=n-hint
  for _ in [0:n] do
   if ofs >= maxofs then break
   let some more <- beyond' left key arr base (hint+ofs)|return none
   if !more then break
   lastofs:=ofs
   ofs:=2*ofs+1
  lo:=hint+lastofs+1
  hi:=hint+min ofs maxofs
 else
  let maxofs:=hint+1
  for _ in [0:n] do
   if ofs >= maxofs then break
   let some found <- beyond' left key arr base (hint-ofs)|return none
   if found then break
   lastofs:=ofs
   ofs:=2*ofs+1
  lo:=hint+1-min ofs maxofs
  hi:=hint-lastofs
 for _ in [0:n] do
  if lo >= hi then break
  let m:=lo+(hi-lo) / 2
  let some more <- beyond' left key arr base m|return none
  if more then lo:=m+1 else hi:=m
 return some hi):=rfl
def k1 (κ:PyProof.Rows.KeyKind) (p:Keyed):κ.α:=(κ.keyOf p.1).getD κ.dflt
theorem CT (h:xs[i]?=some p):KK κ xs i=k1 κ p:=by unfold KK k1;rw[h]
def bey (κ:PyProof.Rows.KeyKind) (left:Bool) (key:Keyed) (arr:Array Keyed) (i:Nat):Bool:=if left then κ.blt (KK κ arr i) (k1 κ key) else !κ.blt (k1 κ key) (KK κ arr i)
section
variable {prog:Program}{w:World}{A:Around}{E:AX}{s:Shared}{a0:Array Keyed}{κ:PyProof.Rows.KeyKind}{kd:SortKind}
def OrcL (prog:Program) (w:World) (A:Around) (E:AX) (s:Shared) (κ:PyProof.Rows.KeyKind) (kd:SortKind) (a0:Array Keyed):Prop:=
 ∀t:SortSt,kindOf t=kd->∀x y:Keyed,x∈a0->y∈a0->∀Q:Option Bool->SortSt->Prop,Q (some (κ.blt (k1 κ x)<|k1 κ y)) t->wpS (model prog w) A E s (lt' x y) Q t
def Jx (a0 arr:Array Keyed) (base n:Nat):Prop:=∀i,i<n->∃x,x∈a0/\arr[base+i]?=some x
theorem Jr (O:OrcL prog w A E s κ kd a0) (hk:kindOf t=kd) (hkey:key∈a0) (ha:Jx a0 arr base n) (hi:i<n)
  (h:Q (some<|bey κ left key arr<|base+i) t):wpS (model prog w) A E s (beyond' left key arr base i) Q t:=by
 obtain⟨x,X,a⟩:=ha i hi;unfold bey at h;rw[CT a]at h;unfold beyond';rw[elem'_eq,a];refine wpS_bind<|wpS_pure ?_;cases left with
 |true=>exact O t hk _ _ X hkey _ h
 |false=>
  simp only[Av,if_false]at h ⊢;exact wpS_bind<|O t hk _ _ hkey X _<|wpS_pure h
theorem OW (h:κ.kle (KK κ arr i) (KK κ arr j)) (hb:bey κ left key arr j=true):bey κ left key arr i=true:=by
 unfold bey at hb ⊢;cases left with
 |true=>
  simp only[if_true]at hb ⊢;exact KeyOrd.klt_of_kle_of_klt h hb
 |false=>
  simp only[Av,if_false,IV]at hb ⊢;exact KeyOrd.kle_trans h hb
theorem Wr (h:κ.kle (KK κ arr i) (KK κ arr j)) (hb:bey κ left key arr i=false):bey κ left key arr j=false:=by
 cases e:bey κ left key arr j with
 |false=>rfl
 |true=>rw[OW h e]at hb;exact hb
def gtail' (left:Bool) (key:Keyed) (arr:Array Keyed) (base n lo0 hi0:Nat):StateT SortSt Sem (Option Nat):=do
 let mut lo:=lo0
 let mut hi:=hi0
 for _ in [0:n] do
  if lo >= hi then break
  let m:=lo+(hi-lo) / 2
  let some more <- beyond' left key arr base m|return none
  if more then lo:=m+1 else hi:=m
 return some hi
theorem Om (O:OrcL prog w A E s κ kd a0) (hk:kindOf t=kd) {base n lo hi:Nat}(hkey:key∈a0) (ha:Jx a0 arr base n) (hl:lo<=hi) (hn:hi<=n)
  (up:∀i j,i<=j->j<n->bey κ left key arr (base+i)=false->bey κ left key arr (base+j)=false)
  (dn:∀i j,i<=j->j<n->bey κ left key arr (base+j)=true->bey κ left key arr (base+i)=true)
  (a:∀i,i<lo->bey κ left key arr (base+i)=true) (b:∀i,hi<=i->i<n->bey κ left key arr (base+i)=false)
  (h:∀r,r<=n->(∀i,i<r->bey κ left key arr (base+i)=true)->(∀i,r<=i->i<n->bey κ left key arr (base+i)=false)->Q (some r) t):wpS (model prog w) A E s (gtail' left key arr base n lo hi) Q t:=by
 unfold gtail';refine wpS_bind (wpS_mono (wpS_forRange
  (I:=λx c u=>u=t/\∃l r,c=(none,l,r)/\l<=r/\r<=n/\r-l<=n-x/\(∀i,i<l->bey κ left key arr (base+i)=true)/\∀i,r<=i->i<n->bey κ left key arr (base+i)=false)
  (Q:=λc u=>u=t/\∃l,c=(none,l,l)/\l<=n/\(∀i,i<l->bey κ left key arr (base+i)=true)/\∀i,l<=i->i<n->bey κ left key arr (base+i)=false) ?st ?fi (rfl,lo,hi,rfl,hl,hn,by lia,a,b)) ?po)
 case po=>
  rintro c u ⟨rfl,l,rfl,f,z,g⟩;exact wpS_pure<|h l f z g
 case fi=>
  rintro c u ⟨rfl,l,r,rfl,f,z,g,Z,d⟩;obtain rfl:l=r:=by lia
  exact(rfl,l,rfl,z,Z,d)
 case st=>
  rintro x c u _ X ⟨rfl,l,r,rfl,f,z,g,Z,d⟩;dsimp only;by_cases hge:l >= r
  ·obtain rfl:l=r:=by lia
   rw[AD hge];exact wpS_pure (rfl,l,rfl,z,Z,d)
  ·rw[AB hge]
   have m:l+(r-l) / 2<n:=by lia
   refine wpS_bind<|Jr O hk hkey ha m ?_;dsimp only;cases e:bey κ left key arr (base+(l+(r-l) / 2)) with
   |true=>
    simp only[if_true];exact wpS_pure (rfl,_,_,rfl,by lia,by omega,by omega,λi q=>dn i _ (by lia) m e,d)
   |false=>
    simp only[Av,if_false];exact wpS_pure (rfl,_,_,rfl,by lia,by lia,by omega,Z,λi q k=>up _ i q k e)
theorem Ug (O:OrcL prog w A E s κ kd a0) (hk:kindOf t=kd) (hkey:key∈a0) (ha:Jx a0 arr base n) (hh:hint<n)
  (hs:∀i j,i<=j->j<n -> κ.kle (KK κ arr<|base+i) (KK κ arr<|base+j))
  (h:∀r,r<=n->(∀i,i<r->bey κ left key arr (base+i)=true)->(∀i,r<=i->i<n->bey κ left key arr (base+i)=false)->Q (some r) t):wpS (model prog w) A E s (gallop' left key arr base n hint) Q t:=by
 rw[gallop'_eq];dsimp only;refine wpS_bind<|Jr O hk hkey ha hh ?_;dsimp only;have p:∀i j,i<=j->j<n->bey κ left key arr (base+i)=false->bey κ left key arr (base+j)=false:=λi j H f q=>Wr (hs i j H f) q;have d:∀i j,i<=j->j<n->bey κ left key arr (base+j)=true->bey κ left key arr (base+i)=true:=λi j H f q=>OW (hs i j H f) q;cases e:bey κ left key arr (base+hint) with
 |true=>
  simp only[if_true];refine wpS_bind (wpS_mono (wpS_forRange
   (I:=λx c u=>u=t/\∃l o,c=(none,l,o)/\l<o/\x<o/\hint+l<n/\bey κ left key arr (base+(hint+l))=true)
   (Q:=λc u=>u=t/\∃l o,c=(none,l,o)/\l<o/\hint+l<n/\bey κ left key arr (base+(hint+l))=true/\(n-hint<=o\/(hint+o<n/\bey κ left key arr (base+(hint+o))=false))) ?st ?fi (rfl,0,1,rfl,by lia,by omega,hh,e)) ?po)
  case fi=>
   rintro c u ⟨rfl,l,o,rfl,a,b,z,Z⟩;exact(rfl,l,o,rfl,a,z,Z,Or.inl<|by lia)
  case st=>
   rintro x c u _ X ⟨rfl,l,o,rfl,a,b,z,Z⟩;dsimp only;by_cases hge:o >= n-hint
   ·rw[AD hge]
    exact wpS_pure (rfl,l,o,rfl,a,z,Z,Or.inl hge)
   ·rw[AB hge]
    refine wpS_bind<|Jr O hk hkey ha (by lia) ?_;dsimp only;cases e2:bey κ left key arr (base+(hint+o)) with
    |true=>
     simp only[DV,Av,if_false];exact wpS_pure (rfl,o,2*o+1,rfl,by lia,by lia,by omega,e2)
    |false=>
     simp only[HA,if_true];exact wpS_pure (rfl,l,o,rfl,a,z,Z,Or.inr (by omega,e2))
  case po=>
   rintro c u ⟨rfl,l,o,rfl,a,b,z,Z⟩;refine Om O hk hkey ha (lo:=hint+l+1) (hi:=hint+min o (n-hint)) (by omega) (by omega) p d (λi q=>d i _ (by lia) b z) (λi q g=>?_) h;rcases Z with y|⟨k,Y⟩
   ·lia
   ·exact p (hint+o) i (by lia) g Y
 |false=>
  simp only[Av,if_false];refine wpS_bind (wpS_mono (wpS_forRange
   (I:=λx c u=>u=t/\∃l o,c=(none,l,o)/\l<o/\x<o/\l<=hint/\bey κ left key arr (base+(hint-l))=false)
   (Q:=λc u=>u=t/\∃l o,c=(none,l,o)/\l<o/\l<=hint/\bey κ left key arr (base+(hint-l))=false/\(hint+1<=o\/(o<=hint/\bey κ left key arr (base+(hint-o))=true))) ?st ?fi (rfl,0,1,rfl,by omega,by omega,by lia,e)) ?po)
  case fi=>
   rintro c u ⟨rfl,l,o,rfl,a,b,z,Z⟩;exact(rfl,l,o,rfl,a,z,Z,Or.inl<|by lia)
  case st=>
   rintro x c u _ X ⟨rfl,l,o,rfl,a,b,z,Z⟩;dsimp only;by_cases hge:o >= hint+1
   ·rw[AD hge]
    exact wpS_pure (rfl,l,o,rfl,a,z,Z,Or.inl hge)
   ·rw[AB hge]
    refine wpS_bind<|Jr O hk hkey ha (by omega) ?_;dsimp only;cases e2:bey κ left key arr (base+(hint-o)) with
    |true=>
     simp only[if_true];exact wpS_pure (rfl,l,o,rfl,a,z,Z,Or.inr (by lia,e2))
    |false=>
     simp only[Av,if_false];exact wpS_pure (rfl,o,2*o+1,rfl,by omega,by omega,by omega,e2)
  case po=>
   rintro c u ⟨rfl,l,o,rfl,a,b,z,Z⟩;refine Om O hk hkey ha (lo:=hint+1-min o (hint+1)) (hi:=hint-l) (by omega) (by omega) p d (λi q=>?_) (λi q g=>p _ i q g z) h;rcases Z with y|⟨k,Y⟩
   ·omega
   ·exact d i (hint-o) (by omega) (by omega) Y
theorem ifc {α:Type}[Decidable c] {x u y v:α}(h1:x=u) (h2:y=v):(if c then x else y)=if c then u else v:=by rw[h1,h2]
abbrev GSt:=Option (Array Keyed) × Array Keyed × Nat × Nat × Nat × Nat × Nat
abbrev ISt:=Option (Array Keyed) × Array Keyed × Nat × Nat × Nat × Nat
def setG (g:Nat):StateT SortSt Sem Unit:=modify λs=>SortSt.mk' (kindOf s) (arrOf s) (pendingOf s) g<|failedOf s
def loD (a b out:Array Keyed) (ia ib:Nat):Array Keyed:=out++a.extract ia a.size++b.extract ib b.size
def loE (a b out:Array Keyed) (ia ib:Nat):Array Keyed:=out++b.extract ib b.size++a.extract ia a.size
def lo3 (a b out:Array Keyed) (ia ib mg ac bc:Nat):StateT SortSt Sem (ForInStep GSt):=do
 let x <- elem' a ia
 if ia+1+1 == a.size then pure (.done (some<|loE a b (out.push x) (ia+1) ib,out.push x,ia+1,ib,mg,ac,bc))
 else if ac<7 && bc<7 then pure (.done (none,out.push x,ia+1,ib,mg,ac,bc)) else pure (.yield (none,out.push x,ia+1,ib,mg,ac,bc))
def lo2 (a b out:Array Keyed) (ia ib mg ac bc:Nat):StateT SortSt Sem (ForInStep GSt):=do
 let y <- elem' b ib
 if ib+1 == b.size then pure (.done (some<|loD a b (out.push y) ia<|ib+1,out.push y,ia,ib+1,mg,ac,bc))
 else
  let x <- elem' a ia
  match <- gallop' true x b (ib+1) (b.size-(ib+1)) 0 with
  |some k=>
   if k > 0 then
    if ib+1+k == b.size then pure (.done (some<|loD a b (out.push y++b.extract (ib+1) (ib+1+k)) ia<|ib+1+k,out.push y++b.extract (ib+1) (ib+1+k),ia,ib+1+k,mg,ac,k))
    else lo3 a b (out.push y++b.extract (ib+1) (ib+1+k)) ia (ib+1+k) mg ac k
   else lo3 a b (out.push y) ia (ib+1) mg ac k
  |none=>pure (.done (some (loD a b (out.push y) ia (ib+1)),out.push y,ia,ib+1,mg,ac,bc))
def lo1 (a b out:Array Keyed) (ia ib mg ac bc:Nat):StateT SortSt Sem (ForInStep GSt):=do
 setG mg
 let y <- elem' b ib
 match <- gallop' false y a ia (a.size-ia) 0 with
 |some k=>
  if k > 0 then
   if ia+k+1 == a.size then pure (.done (some<|loE a b (out++a.extract ia (ia+k)) (ia+k) ib,out++a.extract ia (ia+k),ia+k,ib,mg,k,bc))
   else if ia+k == a.size then pure (.done (some<|loD a b (out++a.extract ia (ia+k)) (ia+k) ib,out++a.extract ia (ia+k),ia+k,ib,mg,k,bc))
   else lo2 a b (out++a.extract ia (ia+k)) (ia+k) ib mg k bc
  else lo2 a b out ia ib mg k bc
 |none=>pure (.done (some (loD a b out ia ib),out,ia,ib,mg,ac,bc))
def loG (a b:Array Keyed) (c:GSt):StateT SortSt Sem GSt:=forIn [0:a.size+b.size] c λ_ c=>
 if c.2.2.2.2.1 > 1 then lo1 a b c.2.1 c.2.2.1 c.2.2.2.1 (c.2.2.2.2.1-1) c.2.2.2.2.2.1 c.2.2.2.2.2.2 else lo1 a b c.2.1 c.2.2.1 c.2.2.2.1 c.2.2.2.2.1 c.2.2.2.2.2.1 c.2.2.2.2.2.2
def loI (a b:Array Keyed) (mg:Nat) (c:ISt):StateT SortSt Sem ISt:=forIn [0:a.size+b.size] c λ_ c=>do
 let y <- elem' b c.2.2.2.1
 let x <- elem' a c.2.2.1
 match <- lt' y x with
 |some w=>
  if w then do
   let y <- elem' b c.2.2.2.1
   if c.2.2.2.1+1 == b.size then pure (.done (some<|loD a b (c.2.1.push y) c.2.2.1<|c.2.2.2.1+1,c.2.1.push y,c.2.2.1,c.2.2.2.1+1,0,c.2.2.2.2.2+1))
   else if c.2.2.2.2.2+1 >= mg then pure (.done (none,c.2.1.push y,c.2.2.1,c.2.2.2.1+1,0,c.2.2.2.2.2+1))
   else pure (.yield (none,c.2.1.push y,c.2.2.1,c.2.2.2.1+1,0,c.2.2.2.2.2+1))
  else do
   let x <- elem' a c.2.2.1
   if c.2.2.1+1+1 == a.size then pure (.done (some<|loE a b (c.2.1.push x) (c.2.2.1+1) c.2.2.2.1,c.2.1.push x,c.2.2.1+1,c.2.2.2.1,c.2.2.2.2.1+1,0))
   else if c.2.2.2.2.1+1 >= mg then pure (.done (none,c.2.1.push x,c.2.2.1+1,c.2.2.2.1,c.2.2.2.2.1+1,0))
   else pure (.yield (none,c.2.1.push x,c.2.2.1+1,c.2.2.2.1,c.2.2.2.2.1+1,0))
 |none=>pure (.done (some (loD a b c.2.1 c.2.2.1 c.2.2.2.1),c.2.1,c.2.2.1,c.2.2.2.1,c.2.2.2.2.1,c.2.2.2.2.2))
theorem mergeLo'_eq (a b:Array Keyed):mergeLo' a b=(do
 liftM (rule "list.sort.merge-lo")
 let y <- elem' b 0
 if (1 == b.size)=true then pure (loD a b #[y] 0 1)
 else if (0+1 == a.size)=true then pure (loE a b #[y] 0 1)
 else
  let g <- get
  let c <- (forIn [0:a.size+b.size] ((none,#[y],0,1,gallopOf g):Option (Array Keyed) × Array Keyed × Nat × Nat × Nat) λ_ c=>do
   let d <- loI a b c.2.2.2.2 (none,c.2.1,c.2.2.1,c.2.2.2.1,0,0)
   match d.1 with
   |some r=>pure (.done (some r,d.2.1,d.2.2.1,d.2.2.2.1,c.2.2.2.2))
   |none=>
    liftM (rule "list.sort.gallop")
    let e <- loG a b (none,d.2.1,d.2.2.1,d.2.2.2.1,c.2.2.2.2+1,d.2.2.2.2.1,d.2.2.2.2.2)
    match e.1 with
    |some r=>pure (.done (some r,e.2.1,e.2.2.1,e.2.2.2.1,e.2.2.2.2.1))
    |none=>
     setG (e.2.2.2.2.1+1)
     pure (.yield (none,e.2.1,e.2.2.1,e.2.2.2.1,e.2.2.2.2.1+1)))
  match c.1 with
  |some r=>pure r
  |none=>unsupported "internal:list.sort.merge-bound"):=by
 show Bind.bind (liftM<|rule "list.sort.merge-lo") _=_;refine bind_congr λ_=>?_;dsimp only;refine bind_congr λy=>?_;refine ifc rfl<|ifc rfl ?_;refine bind_congr λg=>?_;refine congr (congrArg Bind.bind ?_) (funext λc=>?_)
 ·refine congrArg (forIn _ _) (funext λ_=>funext λc=>?_)
  refine congr (congrArg Bind.bind ?_) (funext λd=>?_)
  ·unfold loI
   refine congrArg (forIn _ _) (funext λ_=>funext λd=>?_);refine bind_congr λy=>bind_congr λx=>bind_congr λr=>?_;cases r with
   |none=>rfl
   |some w=>exact ifc rfl rfl
  ·obtain⟨r,d⟩:=d
   cases r with
   |some r=>rfl
   |none=>
    dsimp only;refine bind_congr λ_=>?_;refine congr (congrArg Bind.bind ?_) (funext λe=>?_)
    ·unfold loG
     refine congrArg (forIn _ _) (funext λ_=>funext λd=>?_);refine ifc ?_ ?_
     all_goals
      unfold lo1;refine bind_congr λ_=>bind_congr λy=>bind_congr λr=>?_;cases r with
      |none=>rfl
      |some k=>
       dsimp only;refine ifc (ifc rfl<|ifc rfl ?_) ?_
       all_goals
        unfold lo2;refine bind_congr λy=>?_;refine ifc rfl (bind_congr λx=>bind_congr λr=>?_);cases r with
        |none=>rfl
        |some k=>exact ifc (ifc rfl rfl) rfl
    ·obtain⟨r,e⟩:=e
     cases r <;> rfl
 ·obtain⟨r,c⟩:=c
  cases r <;> rfl
def le1 (κ:PyProof.Rows.KeyKind) (x y:Keyed):Prop:=κ.kle (k1 κ x)<|k1 κ y
def Srt1 (κ:PyProof.Rows.KeyKind) (l:List Keyed):Prop:=l.Pairwise<|le1 κ
structure MI (κ:PyProof.Rows.KeyKind) (L out ra rb:List Keyed):Prop where
 pm:(out++ra++rb).Perm L
 sa:Srt1 κ (out++ra)
 sb:Srt1 κ (out++rb)
def Good1 (κ:PyProof.Rows.KeyKind) (L r:List Keyed):Prop:=r.Perm L/\Srt1 κ r
theorem MI.stepA (m:MI κ L out (p++ra) rb) (h:∀x∈p,∀y∈rb,le1 κ x y):MI κ L (out++p) ra rb:=by
 obtain⟨b,M,a⟩:=m;refine(by simpa [Ba] using b,by simpa [Ba] using M,?_);unfold Srt1 at M a ⊢;rw[<- Ba,Cg]at M;rw[Cg]at a ⊢;refine(M.1,a.2.1,λx X y Y=>?_);rcases Bb.mp X with q|q
 ·exact a.2.2 x q y Y
 ·exact h x q y Y
theorem MI.stepB (m:MI κ L out ra (p++rb)) (h:∀x∈p,∀y∈ra,le1 κ x y):MI κ L (out++p) ra rb:=by
 obtain⟨b,M,a⟩:=m;refine(?_,?_,by simpa [Ba] using a)
 ·refine List.Perm.trans ?_ b
  simp only[Ba];refine List.Perm.append_left out ?_;rw[<- Ba,<- Ba];exact List.Perm.append_right rb KG
 ·unfold Srt1 at M a ⊢
  rw[<- Ba,Cg]at a;rw[Cg]at M ⊢;refine(a.1,M.2.1,λx X y Y=>?_);rcases Bb.mp X with q|q
  ·exact M.2.2 x q y Y
  ·exact h x q y Y
theorem MI.done (m:MI κ L out ra rb) (h:ra=[]\/rb=[]):Good1 κ L (out++ra++rb):=by
 obtain⟨M,a,b⟩:=m;refine(M,?_);rcases h with rfl|rfl
 ·simpa using b
 ·simpa using a
theorem MI.last (m:MI κ L out ra rb) (h:∀x∈rb,∀y∈ra,le1 κ x y):Good1 κ L (out++rb++ra):=by
 have M:MI κ L out ra (rb++[]):=by rw[Bs];exact m
 have:=(M.stepB h).done (Or.inr rfl)
 rwa [Bs]at this
def BG (t u:SortSt):Prop:=kindOf u=kindOf t/\arrOf u=arrOf t/\pendingOf u=pendingOf t/\failedOf u=failedOf t
theorem B9 (h:xs[i]?=some x) (q:Q x t):wpS (model prog w) A E s (elem' xs i) Q t:=by
 rw[elem'_eq,h];exact wpS_pure q
theorem Fg (xs:Array Keyed) (i:Nat):(xs.extract i xs.size).toList=xs.toList.drop i:=by
 rw[Array.toList_extract,EO,<- Array.length_toList,<- DD,B2]
theorem getE {xs:Array Keyed}(h:i<xs.size):xs[i]?=some xs[i]:=getElem?_pos xs i h
theorem LC {xs:Array Keyed}(h:i<xs.size):xs.toList.drop i=xs[i]::xs.toList.drop (i+1):=by
 rw[List.drop_eq_getElem_cons (by simpa using h),Array.getElem_toList]
theorem OU {xs:Array Keyed}:(xs.extract i<|i+k).toList++xs.toList.drop (i+k)=xs.toList.drop i:=by
 rw[Array.toList_extract,EO,show i+k-i=k by lia,<- List.drop_drop,D0]
theorem Oh {xs:Array Keyed}(h:x∈xs.toList.drop i):∃j,xs[i+j]?=some x:=by
 obtain⟨j,J⟩:=Cv.mp h;rw[EV,Array.getElem?_toList]at J;exact(j,J)
theorem Fh {xs:Array Keyed}(h:x∈(xs.extract i k).toList):∃j,i+j<k/\xs[i+j]?=some x:=by
 rw[Array.toList_extract,EO]at h;obtain⟨j,J⟩:=Cv.mp h;rw[IT]at J;split at J
 ·rw[EV,Array.getElem?_toList]at J
  exact(j,by omega,J)
 ·cases J
theorem Cc {xs:Array Keyed}{i:Nat}(h:xs[i]?=some x):x∈xs:=Array.mem_of_getElem? h
theorem Fo (h:Srt1 κ xs.toList) (hij:i<=j) (hj:j<xs.size):κ.kle (KK κ xs i) (KK κ xs j):=by
 rw[CT (getE (xs:=xs) (i:=i)<|by lia),CT (getE hj)];rcases Dk i j with q|q
 ·have:=(DF.mp h) i j (by rw[Array.length_toList];lia) (by rw[Array.length_toList];omega) q
  rwa [Array.getElem_toList,Array.getElem_toList]at this
 ·obtain rfl:i=j:=by lia
  exact KeyOrd.kle_refl _
theorem Gh (O:OrcL prog w A E s κ kd a0) (hk:kindOf t=kd) (hkey:key∈a0) (hm:∀x∈arr,x∈a0) (hn:base+n<=arr.size) (hh:hint<n)
  (hs:∀i j,i<=j->j<n -> κ.kle (KK κ arr<|base+i) (KK κ arr<|base+j))
  (h:∀k,k<=n->(∀x∈(arr.extract base<|base+k).toList,le1 κ x key)->(∀x∈(arr.extract (base+k)<|base+n).toList,le1 κ key x)->Q (some k) t):wpS (model prog w) A E s (gallop' left key arr base n hint) Q t:=by
 refine Ug O hk hkey (λi I=>(_,hm _ (Cc<|getE (xs:=arr) (i:=base+i) (by lia)),getE<|by omega)) hh hs λr R b c=>h r R (λx X=>?_) λx X=>?_
 ·obtain⟨j,a,J⟩:=Fh X
  have:=b j (by lia);unfold bey at this;rw[CT J]at this;cases left with
  |true=>exact KeyOrd.kle_of_klt this
  |false=>
   simp only[Av,if_false,IV]at this;exact this
 ·obtain⟨j,a,J⟩:=Fh X
  have:=c (r+j) (by lia) (by lia);unfold bey at this;rw[show base+(r+j)=base+r+j by lia,CT J]at this;cases left with
  |true=>exact this
  |false=>
   simp only[Av,if_false,Bool.not_eq_false']at this;exact KeyOrd.kle_of_klt this
structure MH (κ:PyProof.Rows.KeyKind) (a0 a b:Array Keyed):Prop where
 ha:∀x∈a,x∈a0
 hb:∀x∈b,x∈a0
 sa:Srt1 κ a.toList
 sb:Srt1 κ b.toList
 lo:∀(y:Keyed),b[0]?=some y->∀x∈a,le1 κ y x
 hi:∀(y:Keyed),a[a.size-1]?=some y->∀x∈b,le1 κ x y
theorem Hw (m:MI κ (a.toList++b.toList) out.toList (a.toList.drop ia) (b.toList.drop ib)) (h:a.size<=ia\/b.size<=ib):Good1 κ (a.toList++b.toList) (loD a b out ia ib).toList:=by
 unfold loD;rw[Array.toList_append,Array.toList_append,Fg,Fg];refine m.done (h.imp (λq=>?_) λq=>?_) <;> exact List.drop_of_length_le (by rw[Array.length_toList];exact q)
theorem Jo (M:MH κ a0 a b) (m:MI κ (a.toList++b.toList) out.toList (a.toList.drop ia) (b.toList.drop ib)) (h:ia+1=a.size):Good1 κ (a.toList++b.toList) (loE a b out ia ib).toList:=by
 unfold loE;rw[Array.toList_append,Array.toList_append,Fg,Fg];refine m.last λx X y Y=>?_;obtain⟨j,J⟩:=Oh X;rw[LC (by lia),List.drop_of_length_le (by rw[Array.length_toList];lia),Bc]at Y;subst Y;exact M.hi _ (by rw[show a.size-1=ia by lia];exact getE<|by omega) x<|Cc J
def GM (κ:PyProof.Rows.KeyKind) (a b:Array Keyed) (n:Nat) (c:Option (Array Keyed)) (out:Array Keyed) (ia ib:Nat):Prop:=
 (∀r,c=some r->Good1 κ (a.toList++b.toList) r.toList)/\(c=none->n<=ia+ib/\ia+1<a.size/\ib<b.size/\MI κ (a.toList++b.toList) out.toList (a.toList.drop ia) (b.toList.drop ib))
def RG (κ:PyProof.Rows.KeyKind) (a b:Array Keyed) (n:Nat) (t:SortSt) (r:ForInStep GSt) (u:SortSt):Prop:=
 BG t u/\match r with
 |.done c=>GM κ a b n c.1 c.2.1 c.2.2.1 c.2.2.2.1
 |.yield c=>c.1=none/\GM κ a b n c.1 c.2.1 c.2.2.1 c.2.2.2.1
theorem GM.ret (h:Good1 κ (a.toList++b.toList) r.toList):GM κ a b n (some r) out ia ib:=(λ_ e=>(by cases e;exact h),λe=>(by cases e))
theorem GM.go (h1:n<=ia+ib) (h2:ia+1<a.size) (h3:ib<b.size) (m:MI κ (a.toList++b.toList) out.toList (a.toList.drop ia) (b.toList.drop ib)):GM κ a b n none out ia ib:=(λ_ e=>(by cases e),λ_=>(h1,h2,h3,m))
theorem MI.pushA {a b out:Array Keyed}(h:ia<a.size) (m:MI κ (a.toList++b.toList) out.toList (a.toList.drop ia) (b.toList.drop ib)) (hle:∀y∈b.toList.drop ib,le1 κ a[ia] y):MI κ (a.toList++b.toList) (out.push a[ia]).toList (a.toList.drop<|ia+1) (b.toList.drop ib):=by
 rw[LC h]at m;rw[Array.toList_push];exact MI.stepA (p:=[a[ia]]) m λx X y Y=>by rw[Bc.mp X];exact hle y Y
theorem MI.pushB {a b out:Array Keyed}(h:ib<b.size) (m:MI κ (a.toList++b.toList) out.toList (a.toList.drop ia) (b.toList.drop ib)) (hle:∀y∈a.toList.drop ia,le1 κ b[ib] y):MI κ (a.toList++b.toList) (out.push b[ib]).toList (a.toList.drop ia) (b.toList.drop<|ib+1):=by
 rw[LC h]at m;rw[Array.toList_push];exact MI.stepB (p:=[b[ib]]) m λx X y Y=>by rw[Bc.mp X];exact hle y Y
theorem QM {a b out:Array Keyed}{t u:SortSt}{ia ib mg ac bc n:Nat}(M:MH κ a0 a b) (S:BG t u) (h1:ia+1<a.size) (h2:ib<b.size) (hn:n<=ia+ib) (m:MI κ (a.toList++b.toList) out.toList (a.toList.drop ia) (b.toList.drop ib)) (hle:∀y∈b.toList.drop ib,le1 κ a[ia] y) :
  wpS (model prog w) A E s (lo3 a b out ia ib mg ac bc) (RG κ a b (n+1) t) u:=by
 unfold lo3;refine wpS_bind<|B9 (getE<|by omega) ?_;have c:=m.pushA (by omega) hle;by_cases q:ia+1+1=a.size
 ·rw[AD (by simpa using q)]
  exact wpS_pure (S,GM.ret<|Jo M c q)
 ·rw[AB (by simpa using q)]
  have g:=GM.go (n:=n+1) (by lia) (by lia) h2 c;by_cases q2:(ac<7 && bc<7)=true
  ·rw[AD q2];exact wpS_pure (S,g)
  ·rw[AB q2];exact wpS_pure (S,rfl,g)
theorem Lj {xs:Array Keyed}(h:Srt1 κ xs.toList) (hi:i<xs.size):∀y∈xs.toList.drop i,le1 κ xs[i] y:=λy Y=>by
 obtain⟨j,J⟩:=Oh Y;have t:i+j<xs.size:=by
  rcases Dk (i+j) xs.size with q|q
  ·exact q
  ·rw[Array.getElem?_eq_none q]at J;cases J
 have:=Fo h (show i<=i+j by lia) t
 rwa [CT (getE hi),CT J]at this
theorem QP (O:OrcL prog w A E s κ kd a0) {a b out:Array Keyed}{t u:SortSt}(hk:kindOf t=kd) {ia ib mg ac bc n:Nat}(M:MH κ a0 a b) (S:BG t u) (h1:ia+1<a.size) (h2:ib<b.size) (hn:n<=ia+ib) (m:MI κ (a.toList++b.toList) out.toList (a.toList.drop ia) (b.toList.drop ib)) (hle:∀y∈a.toList.drop ia,le1 κ b[ib] y) :
  wpS (model prog w) A E s (lo2 a b out ia ib mg ac bc) (RG κ a b (n+1) t) u:=by
 unfold lo2;refine wpS_bind<|B9 (getE h2) ?_;have c:=m.pushB h2 hle;by_cases q:ib+1=b.size
 ·rw[AD (by simpa using q)]
  exact wpS_pure (S,GM.ret<|Hw c (Or.inr<|by lia))
 ·rw[AB (by simpa using q)]
  refine wpS_bind<|B9 (getE<|by omega) ?_;refine wpS_bind (Gh O (S.1.trans hk) (M.ha _<|Cc (getE<|by omega)) M.hb (by omega) (by lia) (λi j h J=>Fo M.sb (by lia)<|by omega) λk f e K=>?_);rw[show ib+1+(b.size-(ib+1))=b.size by lia,Fg]at K;dsimp only;by_cases kz:k > 0
  ·rw[AD kz]
   have d:MI κ (a.toList++b.toList) (out.push b[ib]++b.extract (ib+1) (ib+1+k)).toList (a.toList.drop ia) (b.toList.drop<|ib+1+k):=by
    rw[Array.toList_append];refine MI.stepB (by rw[OU];exact c) λx X y Y=>?_;exact KeyOrd.kle_trans (e x X)<|Lj M.sa (by lia) y Y
   by_cases q2:ib+1+k=b.size
   ·rw[AD (by simpa using q2)]
    exact wpS_pure (S,GM.ret<|Hw d (Or.inr<|by lia))
   ·rw[AB (by simpa using q2)]
    exact QM M S h1 (by omega) (by lia) d K
  ·rw[AB kz]
   obtain rfl:k=0:=by lia
   exact QM M S h1 (by lia) (by lia) c K
theorem BG.g (S:BG t u) (g:Nat):BG t (SortSt.mk' (kindOf u) (arrOf u) (pendingOf u) g<|failedOf u):=S
theorem Zz7 (O:OrcL prog w A E s κ kd a0) {a b out:Array Keyed}{t u:SortSt}(hk:kindOf t=kd) {ia ib mg ac bc n:Nat}(M:MH κ a0 a b) (S:BG t u) (h1:ia+1<a.size) (h2:ib<b.size) (hn:n<=ia+ib) (m:MI κ (a.toList++b.toList) out.toList (a.toList.drop ia) (b.toList.drop ib)) :
  wpS (model prog w) A E s (lo1 a b out ia ib mg ac bc) (RG κ a b (n+1) t) u:=by
 unfold lo1 setG;refine wpS_bind<|wpS_modify ?_;have S:=S.g mg;refine wpS_bind<|B9 (getE h2) ?_;refine wpS_bind (Gh O (S.1.trans hk) (M.hb _<|Cc<|getE h2) M.ha (by lia) (by lia) (λi j h J=>Fo M.sa (by lia)<|by lia) λk e d K=>?_);rw[show ia+(a.size-ia)=a.size by lia,Fg]at K;dsimp only;by_cases kz:k > 0
 ·rw[AD kz]
  have c:MI κ (a.toList++b.toList) (out++a.extract ia (ia+k)).toList (a.toList.drop<|ia+k) (b.toList.drop ib):=by
   rw[Array.toList_append];refine MI.stepA (by rw[OU];exact m) λx X y Y=>?_;exact KeyOrd.kle_trans (d x X)<|Lj M.sb (by omega) y Y
  by_cases q:ia+k+1=a.size
  ·rw[AD (by simpa using q)]
   exact wpS_pure (S,GM.ret<|Jo M c q)
  ·rw[AB (by simpa using q)]
   by_cases q2:ia+k=a.size
   ·rw[AD (by simpa using q2)]
    exact wpS_pure (S,GM.ret<|Hw c (Or.inl<|by lia))
   ·rw[AB (by simpa using q2)]
    exact QP O hk M S (by lia) h2 (by lia) c K
 ·rw[AB kz]
  obtain rfl:k=0:=by omega
  exact QP O hk M S h1 h2 hn m K
theorem Zz0 (O:OrcL prog w A E s κ kd a0) (hk:kindOf t=kd) (M:MH κ a0 a b) (S:BG t u) (h1:ia+1<a.size) (h2:ib<b.size) (hn:n<=ia+ib) (m:MI κ (a.toList++b.toList) out.toList (a.toList.drop ia) (b.toList.drop ib))
  (h:∀c v,BG t v->GM κ a b (n+1) c.1 c.2.1 c.2.2.1 c.2.2.2.1->Q c v):wpS (model prog w) A E s (loG a b (none,out,ia,ib,mg,ac,bc)) Q u:=by
 unfold loG;refine wpS_forRange (I:=λx c v=>BG t v/\c.1=none/\GM κ a b (if x=0 then n else n+1) c.1 c.2.1 c.2.2.1 c.2.2.2.1) ?st ?fi (S,rfl,GM.go (by rw[AD rfl];exact hn) h1 h2 m)
 case fi=>
  rintro c v ⟨d,D,g⟩;rw[AB (by lia)]at g;exact h c v d g
 case st=>
  rintro x ⟨D,o,i,f,j,C,B⟩ v _ X ⟨d,rfl,g⟩;obtain⟨k,l,p,z⟩:=g.2 rfl;dsimp only at k l p z ⊢;have y:∀G,wpS (model prog w) A E s (lo1 a b o i f G C B) (RG κ a b (n+1) t) v:=λG=>Zz7 O hk M d l p (n:=n) (by by_cases e:x=0 <;> simp[e]at k <;> lia) z
  have out:∀r V,RG κ a b (n+1) t r V -> match r with
   |.done c'=>Q c' V
   |.yield c'=>BG t V /\ c'.1=none/\GM κ a b (if x+1=0 then n else n+1) c'.1 c'.2.1 c'.2.2.1 c'.2.2.2.1:=λr V R=>by
   cases r with
   |done c=>exact h c V R.1 R.2
   |yield c=>exact(R.1,R.2.1,by rw[AB (by lia)];exact R.2.2)
  by_cases q:j > 1
  ·rw[AD q];refine wpS_mono (y _) λr V R=>?_;have:=out r V R;cases r <;> exact this
  ·rw[AB q];refine wpS_mono (y _) λr V R=>?_;have:=out r V R;cases r <;> exact this
theorem g_lt (O:OrcL prog w A E s κ kd a0) (hk:kindOf t=kd) (hx:x∈a0) (hy:y∈a0) (h1:κ.blt (k1 κ x) (k1 κ y)=true->Q (some true) t) (h2:le1 κ y x->Q (some false) t):wpS (model prog w) A E s (lt' x y) Q t:=by
 refine O t hk x y hx hy Q ?_;cases e:κ.blt (k1 κ x) (k1 κ y) with
 |true=>exact h1 e
 |false=>exact h2 e
theorem O2 {xs:Array Keyed}(h:Srt1 κ xs.toList) (hi:i<xs.size) (hy:le1 κ y xs[i]):∀x∈xs.toList.drop i,le1 κ y x:=λx X=>KeyOrd.kle_trans hy<|Lj h hi x X
theorem Qg (O:OrcL prog w A E s κ kd a0) (hk:kindOf t=kd) (M:MH κ a0 a b) (S:BG t u) (h1:ia+1<a.size) (h2:ib<b.size) (hn:n<=ia+ib) (m:MI κ (a.toList++b.toList) out.toList (a.toList.drop ia) (b.toList.drop ib))
  (h:∀c v,BG t v->GM κ a b n c.1 c.2.1 c.2.2.1 c.2.2.2.1->Q c v):wpS (model prog w) A E s (loI a b mg (none,out,ia,ib,ac,bc)) Q u:=by
 unfold loI;refine wpS_forRange (I:=λx c v=>BG t v/\c.1=none/\GM κ a b n c.1 c.2.1 c.2.2.1 c.2.2.2.1) ?st ?fi (S,rfl,GM.go hn h1 h2 m)
 case fi=>
  rintro c v ⟨d,p,g⟩;exact h c v d g
 case st=>
  rintro x ⟨p,o,i,B,C,j⟩ v _ X ⟨d,rfl,g⟩;obtain⟨r,l,e,k⟩:=g.2 rfl;dsimp only at r l e k ⊢;refine wpS_bind<|B9 (getE e)<|wpS_bind<|B9 (getE<|by lia)<|wpS_bind ?_;refine g_lt O (d.1.trans hk) (M.hb _<|Cc<|getE e) (M.ha _<|Cc (getE<|by omega)) (λq=>?_) λq=>?_
  ·have f:=k.pushB e (O2 M.sa (by omega)<|KeyOrd.kle_of_klt q)
   dsimp only;rw[AD rfl];refine wpS_bind<|B9 (getE e) ?_;by_cases q1:B+1=b.size
   ·rw[AD (by simpa using q1)]
    exact wpS_pure (h _ v d<|GM.ret (Hw f<|Or.inr (by lia)))
   ·rw[AB (by simpa using q1)]
    have G:GM κ a b n none (o.push b[B]) i (B+1):=GM.go (by lia) l (by lia) f;by_cases q2:j+1 >= mg
    ·rw[AD q2];exact wpS_pure<|h _ v d G
    ·rw[AB q2];exact wpS_pure (d,rfl,G)
  ·have f:=k.pushA (by omega) (O2 M.sb e q)
   dsimp only;rw[AB (by simp)];refine wpS_bind<|B9 (getE<|by omega) ?_;by_cases q1:i+1+1=a.size
   ·rw[AD (by simpa using q1)]
    exact wpS_pure<|h _ v d<|GM.ret<|Jo M f q1
   ·rw[AB (by simpa using q1)]
    have G:GM κ a b n none (o.push a[i]) (i+1) B:=GM.go (by lia) (by lia) e f;by_cases q2:C+1 >= mg
    ·rw[AD q2];exact wpS_pure<|h _ v d G
    ·rw[AB q2];exact wpS_pure (d,rfl,G)
theorem g_lo (O:OrcL prog w A E s κ kd a0) (hk:kindOf t=kd) (M:MH κ a0 a b) (na:0<a.size) (nb:0<b.size)
  (h:∀(r:Array Keyed) u,BG t u->Good1 κ (a.toList++b.toList) r.toList->Q r u):wpS (model prog w) A E s (mergeLo' a b) Q t:=by
 rw[mergeLo'_eq];refine wpS_bind<|wpS_lift<|DO (rfl,?_);refine wpS_bind<|B9 (getE nb) ?_;have f:BG t t:=(rfl,rfl,rfl,rfl);have m:MI κ (a.toList++b.toList) (#[b[0]]:Array Keyed).toList (a.toList.drop 0) (b.toList.drop 1):=by
  have:MI κ (a.toList++b.toList) (#[]:Array Keyed).toList (a.toList.drop 0) (b.toList.drop 0):=(by simp,by simpa using M.sa,by simpa using M.sb);exact this.pushB nb λy Y=>M.lo _ (getE nb) y (by simpa using Y)
 by_cases q1:1=b.size
 ·rw[AD (by simpa using q1)]
  exact wpS_pure (h _ _ f<|Hw m (Or.inr<|by lia))
 rw[AB (by simpa using q1)];by_cases q2:0+1=a.size
 ·rw[AD (by simpa using q2)]
  exact wpS_pure<|h _ _ f<|Jo M m q2
 rw[AB (by simpa using q2)];refine wpS_bind (wpS_get ?_);refine wpS_bind (wpS_mono (wpS_forRange
  (I:=λx c v=>BG t v/\c.1=none/\GM κ a b (x+1) c.1 c.2.1 c.2.2.1 c.2.2.2.1)
  (Q:=λc v=>BG t v/\∃r,c.1=some r/\Good1 κ (a.toList++b.toList) r.toList) ?st ?fi (f,rfl,GM.go (by lia) (by lia) (by lia) m)) ?po)
 case fi=>
  rintro c v ⟨S,C,g⟩;obtain⟨G,i,j,k⟩:=g.2 C;lia
 case po=>
  rintro⟨C,c⟩ v ⟨S,r,rfl,g⟩;exact wpS_pure<|h r v S g
 case st=>
  rintro x ⟨C,T,R,X,a2⟩ v _ hx ⟨S,rfl,g⟩;obtain⟨G,i,j,k⟩:=g.2 rfl;dsimp only at G i j k ⊢;refine wpS_bind (Qg O hk M S i j G k λd v2 o l=>?_);obtain⟨N,U,V,Z,F,J⟩:=d;cases N with
  |some r=>exact wpS_pure (o,r,rfl,l.1 r rfl)
  |none=>
   obtain⟨K,q,z,B⟩:=l.2 rfl;dsimp only at K q z B ⊢;refine wpS_bind<|wpS_lift<|DO (rfl,?_);refine wpS_bind (Zz0 O hk M o q z K B λe v3 p n=>?_);obtain⟨P,D,W,a1,a3,H,L⟩:=e;cases P with
   |some r=>exact wpS_pure (p,r,rfl,n.1 r rfl)
   |none=>
    unfold setG;exact wpS_bind<|wpS_modify<|wpS_pure (p.g _,rfl,n)
end
abbrev HSt:=Option (Array Keyed) × Nat × Nat × Array Keyed × Nat × Nat × Nat
abbrev KSt:=Option (Array Keyed) × Nat × Nat × Array Keyed × Nat × Nat
def hiD (a b out:Array Keyed) (na nb:Nat):Array Keyed:=a.extract 0 na++b.extract 0 nb++out.reverse
def hiE (a b out:Array Keyed) (na nb:Nat):Array Keyed:=b.extract 0 nb++a.extract 0 na++out.reverse
def hi3 (a b out:Array Keyed) (na nb mg ac bc:Nat):StateT SortSt Sem (ForInStep HSt):=do
 let x <- elem' a (na-1)
 if na-1 == 0 then pure (.done (some<|hiD a b (out.push x) (na-1) nb,na-1,nb,out.push x,mg,ac,bc))
 else if ac<7 && bc<7 then pure (.done (none,na-1,nb,out.push x,mg,ac,bc)) else pure (.yield (none,na-1,nb,out.push x,mg,ac,bc))
def hi2 (a b out:Array Keyed) (na nb mg ac bc:Nat):StateT SortSt Sem (ForInStep HSt):=do
 let y <- elem' b (nb-1)
 if nb-1 == 1 then pure (.done (some<|hiE a b (out.push y) na<|nb-1,na,nb-1,out.push y,mg,ac,bc))
 else
  let x <- elem' a (na-1)
  match <- gallop' true x b 0 (nb-1) (nb-1-1) with
  |some k=>
   if nb-1-k > 0 then
    if k == 1 then pure (.done (some<|hiE a b (out.push y++(b.extract k<|nb-1).reverse) na k,na,k,out.push y++(b.extract k<|nb-1).reverse,mg,ac,nb-1-k))
    else if k == 0 then pure (.done (some<|hiD a b (out.push y++(b.extract k<|nb-1).reverse) na k,na,k,out.push y++(b.extract k<|nb-1).reverse,mg,ac,nb-1-k))
    else hi3 a b (out.push y++(b.extract k<|nb-1).reverse) na k mg ac (nb-1-k)
   else hi3 a b (out.push y) na (nb-1) mg ac (nb-1-k)
  |none=>pure (.done (some (hiD a b (out.push y) na (nb-1)),na,nb-1,out.push y,mg,ac,bc))
def hi1 (a b out:Array Keyed) (na nb mg ac bc:Nat):StateT SortSt Sem (ForInStep HSt):=do
 setG mg
 let y <- elem' b (nb-1)
 match <- gallop' false y a 0 na (na-1) with
 |some k=>
  if na-k > 0 then
   if k == 0 then pure (.done (some<|hiD a b (out++(a.extract k na).reverse) k nb,k,nb,out++(a.extract k na).reverse,mg,na-k,bc))
   else hi2 a b (out++(a.extract k na).reverse) k nb mg (na-k) bc
  else hi2 a b out na nb mg (na-k) bc
 |none=>pure (.done (some (hiD a b out na nb),na,nb,out,mg,ac,bc))
def hiG (a b:Array Keyed) (c:HSt):StateT SortSt Sem HSt:=forIn [0:a.size+b.size] c λ_ c=>
 if c.2.2.2.2.1 > 1 then hi1 a b c.2.2.2.1 c.2.1 c.2.2.1 (c.2.2.2.2.1-1) c.2.2.2.2.2.1 c.2.2.2.2.2.2 else hi1 a b c.2.2.2.1 c.2.1 c.2.2.1 c.2.2.2.2.1 c.2.2.2.2.2.1 c.2.2.2.2.2.2
def hiI (a b:Array Keyed) (mg:Nat) (c:KSt):StateT SortSt Sem KSt:=forIn [0:a.size+b.size] c λ_ c=>do
 let y <- elem' b (c.2.2.1-1)
 let x <- elem' a (c.2.1-1)
 match <- lt' y x with
 |some w=>
  if w then do
   let x <- elem' a (c.2.1-1)
   if c.2.1-1 == 0 then pure (.done (some<|hiD a b (c.2.2.2.1.push x) (c.2.1-1) c.2.2.1,c.2.1-1,c.2.2.1,c.2.2.2.1.push x,c.2.2.2.2.1+1,0))
   else if c.2.2.2.2.1+1 >= mg then pure (.done (none,c.2.1-1,c.2.2.1,c.2.2.2.1.push x,c.2.2.2.2.1+1,0))
   else pure (.yield (none,c.2.1-1,c.2.2.1,c.2.2.2.1.push x,c.2.2.2.2.1+1,0))
  else do
   let y <- elem' b (c.2.2.1-1)
   if c.2.2.1-1 == 1 then pure (.done (some<|hiE a b (c.2.2.2.1.push y) c.2.1<|c.2.2.1-1,c.2.1,c.2.2.1-1,c.2.2.2.1.push y,0,c.2.2.2.2.2+1))
   else if c.2.2.2.2.2+1 >= mg then pure (.done (none,c.2.1,c.2.2.1-1,c.2.2.2.1.push y,0,c.2.2.2.2.2+1))
   else pure (.yield (none,c.2.1,c.2.2.1-1,c.2.2.2.1.push y,0,c.2.2.2.2.2+1))
 |none=>pure (.done (some (hiD a b c.2.2.2.1 c.2.1 c.2.2.1),c.2.1,c.2.2.1,c.2.2.2.1,c.2.2.2.2.1,c.2.2.2.2.2))
theorem mergeHi'_eq (a b:Array Keyed):mergeHi' a b=(do
 liftM (rule "list.sort.merge-hi")
 let x <- elem' a (a.size-1)
 if (a.size-1 == 0)=true then pure (hiD a b #[x] (a.size-1) b.size)
 else if (b.size == 1)=true then pure (hiE a b #[x] (a.size-1) b.size)
 else
  let g <- get
  let c <- (forIn [0:a.size+b.size] ((none,a.size-1,b.size,#[x],gallopOf g):Option (Array Keyed) × Nat × Nat × Array Keyed × Nat) λ_ c=>do
   let d <- hiI a b c.2.2.2.2 (none,c.2.1,c.2.2.1,c.2.2.2.1,0,0)
   match d.1 with
   |some r=>pure (.done (some r,d.2.1,d.2.2.1,d.2.2.2.1,c.2.2.2.2))
   |none=>
    liftM (rule "list.sort.gallop")
    let e <- hiG a b (none,d.2.1,d.2.2.1,d.2.2.2.1,c.2.2.2.2+1,d.2.2.2.2.1,d.2.2.2.2.2)
    match e.1 with
    |some r=>pure (.done (some r,e.2.1,e.2.2.1,e.2.2.2.1,e.2.2.2.2.1))
    |none=>
     setG (e.2.2.2.2.1+1)
     pure (.yield (none,e.2.1,e.2.2.1,e.2.2.2.1,e.2.2.2.2.1+1)))
  match c.1 with
  |some r=>pure r
  |none=>unsupported "internal:list.sort.merge-bound"):=by
 show Bind.bind (liftM<|rule "list.sort.merge-hi") _=_;refine bind_congr λ_=>?_;dsimp only;refine bind_congr λy=>?_;refine ifc rfl<|ifc rfl ?_;refine bind_congr λg=>?_;refine congr (congrArg Bind.bind ?_) (funext λc=>?_)
 ·refine congrArg (forIn _ _) (funext λ_=>funext λc=>?_)
  refine congr (congrArg Bind.bind ?_) (funext λd=>?_)
  ·unfold hiI
   refine congrArg (forIn _ _) (funext λ_=>funext λd=>?_);refine bind_congr λy=>bind_congr λx=>bind_congr λr=>?_;cases r with
   |none=>rfl
   |some w=>exact ifc rfl rfl
  ·obtain⟨r,d⟩:=d
   cases r with
   |some r=>rfl
   |none=>
    dsimp only;refine bind_congr λ_=>?_;refine congr (congrArg Bind.bind ?_) (funext λe=>?_)
    ·unfold hiG
     refine congrArg (forIn _ _) (funext λ_=>funext λd=>?_);refine ifc ?_ ?_
     all_goals
      unfold hi1;refine bind_congr λ_=>bind_congr λy=>bind_congr λr=>?_;cases r with
      |none=>rfl
      |some k=>
       dsimp only;refine ifc (ifc rfl ?_) ?_
       all_goals
        unfold hi2;refine bind_congr λy=>?_;refine ifc rfl (bind_congr λx=>bind_congr λr=>?_);cases r with
        |none=>rfl
        |some k=>exact ifc (ifc rfl (ifc rfl rfl)) rfl
    ·obtain⟨r,e⟩:=e
     cases r <;> rfl
 ·obtain⟨r,c⟩:=c
  cases r <;> rfl
section
variable {prog:Program}{w:World}{A:Around}{E:AX}{s:Shared}{a0:Array Keyed}{κ:PyProof.Rows.KeyKind}{kd:SortKind}
structure MJ (κ:PyProof.Rows.KeyKind) (L out ra rb:List Keyed):Prop where
 pm:(ra++rb++out).Perm L
 sa:Srt1 κ (ra++out)
 sb:Srt1 κ (rb++out)
theorem MJ.stepA (m:MJ κ L out (ra++p) rb) (h:∀x∈p,∀y∈rb,le1 κ y x):MJ κ L (p++out) ra rb:=by
 obtain⟨b,M,a⟩:=m;refine(?_,by simpa [Ba] using M,?_)
 ·refine List.Perm.trans ?_ b
  simp only[Ba];refine List.Perm.append_left ra ?_;rw[<- Ba,<- Ba];exact List.Perm.append_right out KG
 ·unfold Srt1 at M a ⊢
  rw[Ba,Cg]at M;rw[Cg]at a ⊢;refine(a.1,M.2.1,λy Y x X=>?_);rcases Bb.mp X with q|q
  ·exact h x q y Y
  ·exact a.2.2 y Y x q
theorem MJ.stepB (m:MJ κ L out ra (rb++p)) (h:∀x∈p,∀y∈ra,le1 κ y x):MJ κ L (p++out) ra rb:=by
 obtain⟨b,M,a⟩:=m;refine(by simpa [Ba] using b,?_,by simpa [Ba] using a);unfold Srt1 at M a ⊢;rw[Ba,Cg]at a;rw[Cg]at M ⊢;refine(M.1,a.2.1,λy Y x X=>?_);rcases Bb.mp X with q|q
 ·exact h x q y Y
 ·exact M.2.2 y Y x q
theorem MJ.done (m:MJ κ L out ra rb) (h:ra=[]\/rb=[]):Good1 κ L (ra++rb++out):=by
 obtain⟨M,a,b⟩:=m;refine(M,?_);rcases h with rfl|rfl
 ·simpa using b
 ·simpa using a
theorem MJ.last (m:MJ κ L out ra rb) (h:∀x∈ra,∀y∈rb,le1 κ y x):Good1 κ L (rb++ra++out):=by
 have M:MJ κ L out ([]++ra) rb:=m;have:=(M.stepA h).done (Or.inl rfl);simpa [Ba] using this
theorem Ee (xs:Array Keyed) (i:Nat):(xs.extract 0 i).toList=xs.toList.take i:=by
 rw[Array.toList_extract,EO,List.drop_zero,F3]
theorem NP {xs:Array Keyed}(h:0<i) (h2:i<=xs.size):xs.toList.take i=xs.toList.take (i-1)++[xs[i-1]]:=by
 have l:i-1<xs.toList.length:=by rw[Array.length_toList];omega
 have:=List.take_append_getElem l;rw[show i-1+1=i by lia,Array.getElem_toList]at this;exact this.symm
theorem OG {xs:Array Keyed}(h:r<=n):xs.toList.take r++(xs.extract r n).toList=xs.toList.take n:=by
 rw[Array.toList_extract,EO,<- List.drop_take];have:xs.toList.take r=(xs.toList.take n).take r:=by rw[List.take_take,F2 h]
 rw[this,D0]
theorem JK {xs:Array Keyed}(h:x∈xs.toList.take n):∃j,j<n/\xs[j]?=some x:=by
 rw[<- Ee]at h;obtain⟨j,H,a⟩:=Fh h;rw[By]at H a;exact(j,H,a)
theorem Jg {xs:Array Keyed}(h:Srt1 κ xs.toList) (h0:0<n) (hn:n<=xs.size):∀y∈xs.toList.take n,le1 κ y xs[n-1]:=λy Y=>by
 obtain⟨j,a,H⟩:=JK Y;have:=Fo h (show j<=n-1 by lia) (by omega)
 rwa [CT H,CT (getE<|by omega)]at this
abbrev rvL (out:Array Keyed):List Keyed:=out.toList.reverse
theorem PJ (out:Array Keyed) (x:Keyed):rvL (out.push x)=[x]++rvL out:=by simp
theorem QJ (out p:Array Keyed):rvL (out++p.reverse)=p.toList++rvL out:=by simp
theorem Hr (m:MJ κ (a.toList++b.toList) (rvL out) (a.toList.take na) (b.toList.take nb)) (h:na=0\/nb=0):Good1 κ (a.toList++b.toList) (hiD a b out na nb).toList:=by
 unfold hiD;rw[Array.toList_append,Array.toList_append,Ee,Ee,Array.toList_reverse];refine m.done (h.imp (λq=>?_) λq=>?_) <;> rw[q,FR]
theorem Ji (M:MH κ a0 a b) (m:MJ κ (a.toList++b.toList) (rvL out) (a.toList.take na) (b.toList.take nb)) (h:nb=1):Good1 κ (a.toList++b.toList) (hiE a b out na nb).toList:=by
 unfold hiE;rw[Array.toList_append,Array.toList_append,Ee,Ee,Array.toList_reverse];refine m.last λx X y Y=>?_;obtain⟨j,d,H⟩:=JK X;obtain⟨i,e,c⟩:=JK Y;obtain rfl:i=0:=by lia
 exact M.lo y c x<|Cc H
def GH (κ:PyProof.Rows.KeyKind) (a b:Array Keyed) (n:Nat) (c:Option (Array Keyed)) (out:Array Keyed) (na nb:Nat):Prop:=
 (∀r,c=some r->Good1 κ (a.toList++b.toList) r.toList)/\(c=none->n+na+nb<=a.size+b.size/\na<=a.size/\nb<=b.size/\0<na/\1<nb/\MJ κ (a.toList++b.toList) (rvL out) (a.toList.take na) (b.toList.take nb))
def RH (κ:PyProof.Rows.KeyKind) (a b:Array Keyed) (n:Nat) (t:SortSt) (r:ForInStep HSt) (u:SortSt):Prop:=
 BG t u/\match r with
 |.done c=>GH κ a b n c.1 c.2.2.2.1 c.2.1 c.2.2.1
 |.yield c=>c.1=none/\GH κ a b n c.1 c.2.2.2.1 c.2.1 c.2.2.1
theorem GH.ret (h:Good1 κ (a.toList++b.toList) r.toList):GH κ a b n (some r) out na nb:=(λ_ e=>(by cases e;exact h),λe=>(by cases e))
theorem GH.go (h1:n+na+nb<=a.size+b.size) (h2:na<=a.size) (h3:nb<=b.size) (h4:0<na) (h5:1<nb) (m:MJ κ (a.toList++b.toList) (rvL out) (a.toList.take na) (b.toList.take nb)):GH κ a b n none out na nb:=(λ_ e=>(by cases e),λ_=>(h1,h2,h3,h4,h5,m))
theorem MJ.pushA {a b out:Array Keyed}(h:0<na) (h2:na<=a.size) (m:MJ κ (a.toList++b.toList) (rvL out) (a.toList.take na) (b.toList.take nb)) (hle:∀y∈b.toList.take nb,le1 κ y a[na-1]):MJ κ (a.toList++b.toList) (rvL<|out.push a[na-1]) (a.toList.take<|na-1) (b.toList.take nb):=by
 rw[NP h h2]at m;rw[PJ];exact MJ.stepA m λx X y Y=>by rw[Bc.mp X];exact hle y Y
theorem MJ.pushB {a b out:Array Keyed}(h:0<nb) (h2:nb<=b.size) (m:MJ κ (a.toList++b.toList) (rvL out) (a.toList.take na) (b.toList.take nb)) (hle:∀y∈a.toList.take na,le1 κ y b[nb-1]):MJ κ (a.toList++b.toList) (rvL<|out.push b[nb-1]) (a.toList.take na) (b.toList.take<|nb-1):=by
 rw[NP h h2]at m;rw[PJ];exact MJ.stepB m λx X y Y=>by rw[Bc.mp X];exact hle y Y
theorem QT {a b out:Array Keyed}{t u:SortSt}{na nb mg ac bc n:Nat}(S:BG t u) (h1:na<=a.size) (h2:nb<=b.size) (h3:0<na) (h4:1<nb) (hn:n+na+nb<=a.size+b.size) (m:MJ κ (a.toList++b.toList) (rvL out) (a.toList.take na) (b.toList.take nb)) (hle:∀y∈b.toList.take nb,le1 κ y a[na-1]) :
  wpS (model prog w) A E s (hi3 a b out na nb mg ac bc) (RH κ a b (n+1) t) u:=by
 unfold hi3;refine wpS_bind<|B9 (getE<|by omega) ?_;have M:=m.pushA h3 h1 hle;by_cases q:na-1=0
 ·rw[AD (by simpa using q)]
  exact wpS_pure (S,GH.ret<|Hr M<|Or.inl q)
 ·rw[AB (by simpa using q)]
  have g:=GH.go (n:=n+1) (by lia) (by lia) h2 (by lia) h4 M;by_cases q2:(ac<7 && bc<7)=true
  ·rw[AD q2];exact wpS_pure (S,g)
  ·rw[AB q2];exact wpS_pure (S,rfl,g)
theorem QN (O:OrcL prog w A E s κ kd a0) {a b out:Array Keyed}{t u:SortSt}(hk:kindOf t=kd) {na nb mg ac bc n:Nat}(M:MH κ a0 a b) (S:BG t u) (h1:na<=a.size) (h2:nb<=b.size) (h3:0<na) (h4:1<nb) (hn:n+na+nb<=a.size+b.size) (m:MJ κ (a.toList++b.toList) (rvL out) (a.toList.take na) (b.toList.take nb)) (hle:∀y∈a.toList.take na,le1 κ y b[nb-1]) :
  wpS (model prog w) A E s (hi2 a b out na nb mg ac bc) (RH κ a b (n+1) t) u:=by
 unfold hi2;refine wpS_bind<|B9 (getE<|by omega) ?_;have c:=m.pushB (by lia) h2 hle;by_cases q:nb-1=1
 ·rw[AD (by simpa using q)]
  exact wpS_pure (S,GH.ret<|Ji M c q)
 ·rw[AB (by simpa using q)]
  refine wpS_bind<|B9 (getE<|by omega) ?_;refine wpS_bind (Gh O (S.1.trans hk) (M.ha _<|Cc (getE<|by omega)) M.hb (by lia) (by lia) (λi j h J=>Fo M.sb (by lia)<|by lia) λk f K e=>?_);rw[By,Ee]at K;rw[By,By]at e;dsimp only;by_cases kz:nb-1-k > 0
  ·rw[AD kz]
   have d:MJ κ (a.toList++b.toList) (rvL<|out.push b[nb-1]++(b.extract k<|nb-1).reverse) (a.toList.take na) (b.toList.take k):=by
    rw[QJ];refine MJ.stepB (by rw[OG (by omega)];exact c) λx X y Y=>?_;exact KeyOrd.kle_trans (Jg M.sa h3 h1 y Y)<|e x X
   by_cases q2:k=1
   ·rw[AD (by simpa using q2)]
    exact wpS_pure (S,GH.ret<|Ji M d q2)
   ·rw[AB (by simpa using q2)]
    by_cases q3:k=0
    ·rw[AD (by simpa using q3)]
     exact wpS_pure (S,GH.ret<|Hr d<|Or.inr q3)
    ·rw[AB (by simpa using q3)]
     exact QT S h1 (by lia) h3 (by lia) (by lia) d K
  ·rw[AB kz]
   obtain rfl:k=nb-1:=by omega
   exact QT S h1 (by lia) h3 (by lia) (by lia) c K
theorem Zz4 (O:OrcL prog w A E s κ kd a0) {a b out:Array Keyed}{t u:SortSt}(hk:kindOf t=kd) {na nb mg ac bc n:Nat}(M:MH κ a0 a b) (S:BG t u) (h1:na<=a.size) (h2:nb<=b.size) (h3:0<na) (h4:1<nb) (hn:n+na+nb<=a.size+b.size) (m:MJ κ (a.toList++b.toList) (rvL out) (a.toList.take na) (b.toList.take nb)) :
  wpS (model prog w) A E s (hi1 a b out na nb mg ac bc) (RH κ a b (n+1) t) u:=by
 unfold hi1 setG;refine wpS_bind<|wpS_modify ?_;have S:=S.g mg;refine wpS_bind<|B9 (getE<|by omega) ?_;refine wpS_bind (Gh O (S.1.trans hk) (M.hb _<|Cc (getE<|by omega)) M.ha (by lia) (by omega) (λi j h J=>Fo M.sa (by omega)<|by lia) λk e K c=>?_);rw[By,Ee]at K;rw[By,By]at c;dsimp only;by_cases kz:na-k > 0
 ·rw[AD kz]
  have d:MJ κ (a.toList++b.toList) (rvL<|out++(a.extract k na).reverse) (a.toList.take k) (b.toList.take nb):=by
   rw[QJ];refine MJ.stepA (by rw[OG (by omega)];exact m) λx X y Y=>?_;exact KeyOrd.kle_trans (Jg M.sb (by lia) h2 y Y)<|c x X
  by_cases q:k=0
  ·rw[AD (by simpa using q)]
   exact wpS_pure (S,GH.ret<|Hr d<|Or.inl q)
  ·rw[AB (by simpa using q)]
   exact QN O hk M S (by lia) h2 (by lia) h4 (by lia) d K
 ·rw[AB kz]
  obtain rfl:k=na:=by lia
  exact QN O hk M S h1 h2 h3 h4 hn m K
theorem Zzs (O:OrcL prog w A E s κ kd a0) (hk:kindOf t=kd) (M:MH κ a0 a b) (S:BG t u) (h1:na<=a.size) (h2:nb<=b.size) (h3:0<na) (h4:1<nb) (hn:n+na+nb<=a.size+b.size) (m:MJ κ (a.toList++b.toList) (rvL out) (a.toList.take na) (b.toList.take nb))
  (h:∀c v,BG t v->GH κ a b (n+1) c.1 c.2.2.2.1 c.2.1 c.2.2.1->Q c v):wpS (model prog w) A E s (hiG a b (none,na,nb,out,mg,ac,bc)) Q u:=by
 unfold hiG;refine wpS_forRange (I:=λx c v=>BG t v/\c.1=none/\GH κ a b (if x=0 then n else n+1) c.1 c.2.2.2.1 c.2.1 c.2.2.1) ?st ?fi (S,rfl,GH.go (by rw[AD rfl];exact hn) h1 h2 h3 h4 m)
 case fi=>
  rintro c v ⟨d,F,g⟩;rw[AB (by lia)]at g;exact h c v d g
 case st=>
  rintro x ⟨F,N,i,o,f,C,B⟩ v _ X ⟨d,rfl,g⟩;obtain⟨j,k,l,p,z,D⟩:=g.2 rfl;dsimp only at j k l p z D ⊢;have y:∀G,wpS (model prog w) A E s (hi1 a b o N i G C B) (RH κ a b (n+1) t) v:=λG=>Zz4 O hk M d k l p z (n:=n) (by by_cases e:x=0 <;> simp[e]at j <;> lia) D
  have out:∀r V,RH κ a b (n+1) t r V -> match r with
   |.done c'=>Q c' V
   |.yield c'=>BG t V /\ c'.1=none/\GH κ a b (if x+1=0 then n else n+1) c'.1 c'.2.2.2.1 c'.2.1 c'.2.2.1:=λr V R=>by
   cases r with
   |done c=>exact h c V R.1 R.2
   |yield c=>exact(R.1,R.2.1,by rw[AB (by omega)];exact R.2.2)
  by_cases q:f > 1
  ·rw[AD q];refine wpS_mono (y _) λr V R=>?_;have:=out r V R;cases r <;> exact this
  ·rw[AB q];refine wpS_mono (y _) λr V R=>?_;have:=out r V R;cases r <;> exact this
theorem Zz5 (O:OrcL prog w A E s κ kd a0) (hk:kindOf t=kd) (M:MH κ a0 a b) (S:BG t u) (h1:na<=a.size) (h2:nb<=b.size) (h3:0<na) (h4:1<nb) (hn:n+na+nb<=a.size+b.size) (m:MJ κ (a.toList++b.toList) (rvL out) (a.toList.take na) (b.toList.take nb))
  (h:∀c v,BG t v->GH κ a b n c.1 c.2.2.2.1 c.2.1 c.2.2.1->Q c v):wpS (model prog w) A E s (hiI a b mg (none,na,nb,out,ac,bc)) Q u:=by
 unfold hiI;refine wpS_forRange (I:=λx c v=>BG t v/\c.1=none/\GH κ a b n c.1 c.2.2.2.1 c.2.1 c.2.2.1) ?st ?fi (S,rfl,GH.go hn h1 h2 h3 h4 m)
 case fi=>
  rintro c v ⟨d,r,g⟩;exact h c v d g
 case st=>
  rintro x ⟨r,N,B,o,C,k⟩ v _ X ⟨d,rfl,g⟩;obtain⟨z,f,i,j,p,l⟩:=g.2 rfl;dsimp only at z f i j p l ⊢;refine wpS_bind<|B9 (getE<|by lia)<|wpS_bind<|B9 (getE<|by lia)<|wpS_bind ?_;refine g_lt O (d.1.trans hk) (M.hb _<|Cc (getE<|by omega)) (M.ha _<|Cc (getE<|by omega)) (λq=>?_) λq=>?_
  ·have e:=l.pushA j f λy Y=>KeyOrd.kle_trans (Jg M.sb (by lia) i y Y) (KeyOrd.kle_of_klt q)
   dsimp only;rw[AD rfl];refine wpS_bind<|B9 (getE<|by omega) ?_;by_cases q1:N-1=0
   ·rw[AD (by simpa using q1)]
    exact wpS_pure<|h _ v d<|GH.ret<|Hr e<|Or.inl q1
   ·rw[AB (by simpa using q1)]
    have G:GH κ a b n none (o.push a[N-1]) (N-1) B:=GH.go (by lia) (by lia) i (by lia) p e;by_cases q2:C+1 >= mg
    ·rw[AD q2];exact wpS_pure<|h _ v d G
    ·rw[AB q2];exact wpS_pure (d,rfl,G)
  ·have e:=l.pushB (by omega) i λy Y=>KeyOrd.kle_trans (Jg M.sa j f y Y) q
   dsimp only;rw[AB (by simp)];refine wpS_bind<|B9 (getE<|by omega) ?_;by_cases q1:B-1=1
   ·rw[AD (by simpa using q1)]
    exact wpS_pure<|h _ v d<|GH.ret<|Ji M e q1
   ·rw[AB (by simpa using q1)]
    have G:GH κ a b n none (o.push b[B-1]) N (B-1):=GH.go (by lia) f (by lia) j (by lia) e;by_cases q2:k+1 >= mg
    ·rw[AD q2];exact wpS_pure<|h _ v d G
    ·rw[AB q2];exact wpS_pure (d,rfl,G)
theorem g_hi (O:OrcL prog w A E s κ kd a0) (hk:kindOf t=kd) (M:MH κ a0 a b) (na:0<a.size) (nb:0<b.size)
  (h:∀(r:Array Keyed) u,BG t u->Good1 κ (a.toList++b.toList) r.toList->Q r u):wpS (model prog w) A E s (mergeHi' a b) Q t:=by
 rw[mergeHi'_eq];refine wpS_bind<|wpS_lift<|DO (rfl,?_);refine wpS_bind<|B9 (getE<|by omega) ?_;have f:BG t t:=(rfl,rfl,rfl,rfl);have o:MJ κ (a.toList++b.toList) (rvL #[a[a.size-1]]) (a.toList.take<|a.size-1) (b.toList.take b.size):=by
  have:MJ κ (a.toList++b.toList) (rvL #[]) (a.toList.take a.size) (b.toList.take b.size):=by
   rw[Et (by rw[Array.length_toList];lia),Et (by rw[Array.length_toList];lia)];have e:rvL (#[]:Array Keyed)=[]:=rfl;rw[e];exact(by simp,by simpa using M.sa,by simpa using M.sb)
  refine this.pushA na (AS _) λy hy=>?_;obtain⟨j,_,Z⟩:=JK hy;exact M.hi _ (getE<|by omega) y<|Cc Z
 by_cases q1:a.size-1=0
 ·rw[AD (by simpa using q1)]
  exact wpS_pure<|h _ _ f<|Hr o<|Or.inl q1
 rw[AB (by simpa using q1)];by_cases q2:b.size=1
 ·rw[AD (by simpa using q2)]
  exact wpS_pure<|h _ _ f<|Ji M o q2
 rw[AB (by simpa using q2)];refine wpS_bind (wpS_get ?_);refine wpS_bind (wpS_mono (wpS_forRange
  (I:=λx c v=>BG t v/\c.1=none/\GH κ a b (x+1) c.1 c.2.2.2.1 c.2.1 c.2.2.1)
  (Q:=λc v=>BG t v/\∃r,c.1=some r/\Good1 κ (a.toList++b.toList) r.toList) ?st ?fi (f,rfl,GH.go (by lia) (by omega) (by omega) (by lia) (by lia) o)) ?po)
 case fi=>
  rintro c v ⟨S,C,g⟩;obtain⟨G,i,k,l,m,n⟩:=g.2 C;lia
 case po=>
  rintro⟨C,c⟩ v ⟨S,r,rfl,g⟩;exact wpS_pure<|h r v S g
 case st=>
  rintro x ⟨C,a3,a6,T,a1⟩ v _ hx ⟨S,rfl,g⟩;obtain⟨G,i,k,l,m,n⟩:=g.2 rfl;dsimp only at G i k l m n ⊢;refine wpS_bind (Zz5 O hk M S i k l m G n λd v2 z p=>?_);obtain⟨X,a4,a7,U,P,V⟩:=d;cases X with
  |some r=>exact wpS_pure (z,r,rfl,p.1 r rfl)
  |none=>
   obtain⟨K,D,F,H,J,L⟩:=p.2 rfl;dsimp only at K D F H J L ⊢;refine wpS_bind<|wpS_lift<|DO (rfl,?_);refine wpS_bind (Zzs O hk M z D F H J K L λe v3 B q=>?_);obtain⟨Y,a5,a8,N,a2,R,W⟩:=e;cases Y with
   |some r=>exact wpS_pure (B,r,rfl,q.1 r rfl)
   |none=>
    unfold setG;exact wpS_bind<|wpS_modify<|wpS_pure (B.g _,rfl,q)
end
abbrev AscS:=Option (Option Nat) × Nat
abbrev DescS:=Option (Option Nat) × Nat × Nat
def ascL (lo a nrem:Nat):StateT SortSt Sem AscS:=
 forIn [a:nrem] ((none,a):AscS) λ_ __s=>do
  let __x <- ltAt' (lo+__s.snd) (lo+__s.snd-1)
  match __x with
  |some smaller=>if smaller=true then pure (ForInStep.done (none,__s.snd)) else pure (ForInStep.yield (none,__s.snd+1))
  |_=>pure (ForInStep.done (some none,__s.snd))
def tailL (lo n nrem:Nat):StateT SortSt Sem (Option Nat):=do
 reverseSlice' lo (lo+n)
 let __s <- ascL lo n nrem
 match __s.fst with
 |some r=>pure r
 |none=>pure (some __s.snd)
def descL (lo n nrem:Nat):StateT SortSt Sem DescS:=
 forIn [n:nrem] ((none,n,0):DescS) λ_ __s=>do
  let __x <- ltAt' (lo+__s.snd.fst) (lo+__s.snd.fst-1)
  match __x with
  |some smaller=>
   if smaller=true then
    if __s.snd.snd > 0 then do
     reverseSlice' (lo+__s.snd.fst-(__s.snd.snd+1)) (lo+__s.snd.fst)
     pure (ForInStep.yield (none,__s.snd.fst+1,0))
    else pure (ForInStep.yield (none,__s.snd.fst+1,0))
   else do
    let __x <- ltAt' (lo+__s.snd.fst-1) (lo+__s.snd.fst)
    match __x with
    |some larger=>
     if larger=true then pure (ForInStep.done (none,__s.snd.fst,__s.snd.snd))
     else pure (ForInStep.yield (none,__s.snd.fst+1,__s.snd.snd+1))
    |_=>pure (ForInStep.done (some none,__s.snd.fst,__s.snd.snd))
  |_=>pure (ForInStep.done (some none,__s.snd.fst,__s.snd.snd))
def descPL (lo n nrem:Nat):StateT SortSt Sem (Option Nat):=do
 liftM (rule "list.sort.descending-run")
 let __s <- descL lo (n+1) nrem
 match __s.fst with
 |some r=>pure r
 |none=>
  if __s.snd.snd > 0 then do
   reverseSlice' (lo+__s.snd.fst-(__s.snd.snd+1)) (lo+__s.snd.fst)
   tailL lo __s.snd.fst nrem
  else tailL lo __s.snd.fst nrem
theorem RC (lo nrem:Nat):countRun' lo nrem=(do
  let __s <- ascL lo 1 nrem
  match __s.fst with
  |some r=>pure r
  |none=>
   if (__s.snd == nrem)=true then pure (some __s.snd)
   else if __s.snd > 1 then do
    let __x <- ltAt' lo (lo+__s.snd-1)
    match __x with
    |some rose=>if rose=true then pure (some __s.snd) else do
      reverseSlice' lo (lo+__s.snd)
      descPL lo __s.snd nrem
    |_=>pure none
   else descPL lo __s.snd nrem):=by
 rw[countRun'_eq];dsimp only;refine congr (congrArg Bind.bind rfl) (funext λc=>?_);obtain⟨r,n⟩:=c;cases r with
 |some r=>rfl
 |none=>
  dsimp only;refine ifc rfl<|ifc (bind_congr λx=>?_) ?_
  ·cases x with
   |none=>rfl
   |some rose=>
    refine ifc rfl (bind_congr λ_=>?_);unfold descPL;refine bind_congr λ_=>?_;refine congr (congrArg Bind.bind rfl) (funext λd=>?_);obtain⟨r,m,q⟩:=d;cases r with
    |some r=>rfl
    |none=>
     refine ifc (bind_congr λ_=>?_) ?_
     all_goals
      unfold tailL;refine bind_congr λ_=>?_;refine congr (congrArg Bind.bind rfl) (funext λe=>?_);obtain⟨r,e⟩:=e;cases r <;> rfl
  ·unfold descPL
   refine bind_congr λ_=>?_;refine congr (congrArg Bind.bind rfl) (funext λd=>?_);obtain⟨r,m,q⟩:=d;cases r with
   |some r=>rfl
   |none=>
    refine ifc (bind_congr λ_=>?_) ?_
    all_goals
     unfold tailL;refine bind_congr λ_=>?_;refine congr (congrArg Bind.bind rfl) (funext λe=>?_);obtain⟨r,e⟩:=e;cases r <;> rfl
section
variable {prog:Program}{w:World}{A:Around}{E:AX}{s:Shared}{a0:Array Keyed}{κ:PyProof.Rows.KeyKind}{kd:SortKind}
theorem Hs (O:OrcL prog w A E s κ kd a0) (pm:(arrOf t).Perm a0) (hk:kindOf t=kd) (hi:i<a0.size) (hj:j<a0.size) (h:Q (some (κ.blt (KK κ (arrOf t) i)<|KK κ (arrOf t) j)) t):wpS (model prog w) A E s (ltAt' i j) Q t:=by
 have at':∀k,k<a0.size->∃p,(arrOf t)[k]?=some p/\p∈a0:=λk hk=>by
  have hk':k<(arrOf t).size:=by rw[pm.size_eq];exact hk
  refine(_,getE hk',?_);have h1:(arrOf t)[k]∈(arrOf t).toList:=by simp
  exact Array.mem_toList_iff.mp ((Array.perm_iff_toList_perm.mp pm).mem_iff.mp h1)
 obtain⟨p,p1,p2⟩:=at' i hi;obtain⟨q,q1,q2⟩:=at' j hj;rw[CT p1,CT q1]at h;rw[ltAt'_eq];refine wpS_bind<|wpS_get ?_;show wpS _ _ _ _ (do let x <- elem' (arrOf t) i;let y <- elem' (arrOf t) j;lt' x y) Q _;rw[elem'_eq,elem'_eq,p1,q1];exact wpS_bind<|wpS_pure<|wpS_bind<|wpS_pure<|O t hk p q p2 q2 Q h
structure GL (κ:PyProof.Rows.KeyKind) (kd:SortKind) (a0:Array Keyed) (pd:Array (Nat × Nat × Nat)) (lo:Nat) (f:Nat -> κ.α) (t:SortSt):Prop where
 pm:(arrOf t).Perm a0
 kd:kindOf t=kd
 fl:failedOf t=none
 pd:pendingOf t=pd
 fr:∀i,i<lo->KK κ (arrOf t) i=f i
variable {pd:Array (Nat × Nat × Nat)}{lo:Nat}{f:Nat -> κ.α}
theorem GL.sz (g:GL κ kd a0 pd lo f t):(arrOf t).size=a0.size:=g.pm.size_eq
theorem GL.mir (g:GL κ kd a0 pd lo f t) (hi:lo<=i) (hj:j<=a0.size):GL κ kd a0 pd lo f (setArr t<|mirror (arrOf t) i j ((j-i) / 2)):=
 ((mirror_perm _ _ _ _).trans g.pm,g.kd,g.fl,g.pd,λk h=>by
  show KK κ (mirror (arrOf t) i j ((j-i) / 2)) k=_;rw[KK_mirror (by rw[g.sz];exact hj),AB (by lia)];exact g.fr k h)
def SLo (κ:PyProof.Rows.KeyKind) (lo:Nat) (xs:Array Keyed) (k:Nat):Prop:=∀i j,i<=j->j<k -> κ.kle (KK κ xs<|lo+i) (KK κ xs<|lo+j)
def NLo (κ:PyProof.Rows.KeyKind) (lo:Nat) (xs:Array Keyed) (k:Nat):Prop:=∀i j,i<=j->j<k -> κ.kle (KK κ xs<|lo+j) (KK κ xs<|lo+i)
theorem VL (h:SLo κ lo xs m) (hl:m=0 \/ κ.kle (KK κ xs<|lo+m-1) (KK κ xs<|lo+m)):SLo κ lo xs (m+1):=λi j J H=>by
 rcases Dk j m with z|z
 ·exact h i j J z
 ·have e:j=m:=by lia
  subst e;rcases Dk i j with y|y
  ·rcases hl with q|q
   ·lia
   ·rw[show lo+j-1=lo+(j-1) by lia]at q
    exact KeyOrd.kle_trans (h i (j-1) (by omega)<|by omega) q
  ·have e:i=j:=by lia
   subst e;exact KeyOrd.kle_refl _
theorem HU (h:NLo κ lo xs m) (hl:m=0 \/ κ.kle (KK κ xs<|lo+m) (KK κ xs<|lo+m-1)):NLo κ lo xs (m+1):=λi j J H=>by
 rcases Dk j m with z|z
 ·exact h i j J z
 ·have e:j=m:=by omega
  subst e;rcases Dk i j with y|y
  ·rcases hl with q|q
   ·omega
   ·rw[show lo+j-1=lo+(j-1) by omega]at q
    exact KeyOrd.kle_trans q (h i (j-1) (by omega)<|by omega)
  ·have e:i=j:=by omega
   subst e;exact KeyOrd.kle_refl _
theorem QW (O:OrcL prog w A E s κ kd a0) (hn:lo+n<=a0.size) (hok:ok<=n) (g:GL κ kd a0 pd lo f t) (hs:SLo κ lo (arrOf t) ok)
  (h:∀u,GL κ kd a0 pd lo f u->SLo κ lo (arrOf u) n->Q true u):wpS (model prog w) A E s (binarySort' lo n ok) Q t:=by
 rw[binarySort'_eq];refine wpS_bind<|wpS_mono (wpS_forRange (I:=λk c u=>c=(none,())/\GL κ kd a0 pd lo f u/\SLo κ lo (arrOf u) (min k n)) (Q:=λc u=>c=(none,())/\GL κ kd a0 pd lo f u/\SLo κ lo (arrOf u) n) ?st ?fi ?be) ?po
 case po=>
  rintro c u ⟨rfl,g',h'⟩;exact wpS_pure<|h u g' h'
 case be=>
  refine(rfl,g,λi j hij hj=>?_);rcases Nat.eq_zero_or_pos ok with z|z
  ·have e:i=j:=by lia
   subst e;exact KeyOrd.kle_refl _
  ·exact hs i j hij (by lia)
 case fi=>
  rintro c u ⟨hc,g',h'⟩;rw[show min (max (max ok 1) n) n=n by lia]at h';exact(hc,g',h')
 case st=>
  rintro k c u hak hkn ⟨rfl,g',h'⟩;rw[show min k n=k by lia]at h';have hk:lo+k<a0.size:=by omega
  refine wpS_bind (wpS_mono (wpS_forRange
   (I:=λx c v=>v=u/\∃l r,c=(none,l,r)/\l<=r/\r<=k/\r-l<=k-x/\(∀i,i<l -> κ.kle (KK κ (arrOf u)<|lo+i) (KK κ (arrOf u)<|lo+k))/\∀i,r<=i->i<k -> κ.klt (KK κ (arrOf u)<|lo+k) (KK κ (arrOf u)<|lo+i))
   (Q:=λc v=>v=u/\∃l r,c=(none,l,r)/\l<=k/\(∀i,i<l -> κ.kle (KK κ (arrOf u) (lo+i)) (KK κ (arrOf u) (lo+k)))/\∀i,l<=i->i<k -> κ.klt (KK κ (arrOf u) (lo+k)) (KK κ (arrOf u) (lo+i))) ?ist ?ifi ?ibe) ?ipo)
  case ibe=>exact(rfl,0,k,rfl,by lia,by lia,by lia,λi z=>by lia,λi z y=>by lia)
  case ifi=>
   rintro c v ⟨rfl,l,r,rfl,z1,z2,z3,lo',hi⟩;obtain rfl:l=r:=by lia
   exact(rfl,l,l,rfl,z2,lo',hi)
  case ist=>
   rintro x c v _ hx ⟨rfl,l,r,rfl,z1,z2,z3,lo',hi⟩;dsimp only;by_cases hge:l >= r
   ·obtain rfl:l=r:=by lia
    rw[AD hge];exact wpS_pure (rfl,l,l,rfl,z2,lo',hi)
   ·rw[AB hge]
    refine wpS_bind<|Hs O g'.pm g'.kd hk (by lia) ?_;cases e:κ.blt (KK κ (arrOf v)<|lo+k) (KK κ (arrOf v)<|lo+(l+r) / 2) with
    |true=>
     simp only[if_true];exact wpS_pure (rfl,l,(l+r) / 2,rfl,by lia,by lia,by omega,lo',λi y1 y2=>KeyOrd.klt_of_klt_of_kle e<|h' _ _ y1 y2)
    |false=>
     simp only[Av,if_false];exact wpS_pure (rfl,(l+r) / 2+1,r,rfl,by lia,by omega,by omega,λi y1=>KeyOrd.kle_trans (h' i ((l+r) / 2) (by lia)<|by lia) e,hi)
  case ipo=>
   rintro c v ⟨rfl,l,r,rfl,hl,lo',hi⟩;show wpS _ _ _ _ (do moveDown' (lo+k) (lo+l);pure (ForInStep.yield ((none,()):_×_))) _ _;rw[moveDown'_eq];have hz:lo+k<(arrOf v).size:=by rw[g'.sz];exact hk
   have kb:∀i,KK κ (bubble (arrOf v) (lo+k)<|lo+k-(lo+l)) i=if i=lo+l then KK κ (arrOf v) (lo+k) else if lo+l<i/\i<=lo+k then KK κ (arrOf v) (i-1) else KK κ (arrOf v) i:=λi=>by
    rw[KK_bubble hz (by lia),show lo+k-(lo+k-(lo+l))=lo+l by lia]
   refine wpS_bind<|wpS_modify<|wpS_pure (rfl,((bubble_perm _ _ _).trans g'.pm,g'.kd,g'.fl,g'.pd,λi hi=>?_),?_)
   ·show KK κ (bubble (arrOf v) (lo+k)<|lo+k-(lo+l)) i=_
    rw[kb,AB (by lia),AB (by lia)];exact g'.fr i hi
   rw[show min (k+1) n=k+1 by lia];intro i j hij hj;show κ.kle (KK κ (bubble (arrOf v) (lo+k)<|lo+k-(lo+l))<|lo+i) (KK κ (bubble (arrOf v) (lo+k)<|lo+k-(lo+l))<|lo+j);rw[kb,kb];by_cases i1:i=l
   ·rw[AD (by lia)]
    by_cases j1:j=l
    ·rw[AD (by lia)];exact KeyOrd.kle_refl _
    ·rw[AB (by lia),AD (by lia),show lo+j-1=lo+(j-1) by lia]
     exact KeyOrd.kle_of_klt (hi _ (by lia)<|by lia)
   ·rw[AB (by lia)]
    by_cases j1:j=l
    ·rw[AD (show lo+j=lo+l by lia),AB (by lia)]
     exact lo' _ (by lia)
    ·rw[AB (show ¬ lo+j=lo+l by lia)]
     by_cases i2:l<i/\i<=k
     ·rw[AD (by lia),AD (by lia),show lo+j-1=lo+(j-1) by lia,show lo+i-1=lo+(i-1) by lia]
      exact h' _ _ (by omega) (by lia)
     ·rw[AB (by lia)]
      by_cases j2:l<j/\j<=k
      ·rw[AD (by lia),show lo+j-1=lo+(j-1) by lia]
       exact h' _ _ (by lia) (by lia)
      ·rw[AB (by lia)]
       exact h' _ _ (by omega) (by lia)
theorem QU (O:OrcL prog w A E s κ kd a0) (hn:lo+nr<=a0.size) (ha:1<=a) (han:a<=nr) (g:GL κ kd a0 pd lo f t) (hs:SLo κ lo (arrOf t) a)
  (h:∀n,a<=n->n<=nr->SLo κ lo (arrOf t) n->(n=nr \/ κ.klt (KK κ (arrOf t)<|lo+n) (KK κ (arrOf t)<|lo+n-1))->Q (none,n) t):wpS (model prog w) A E s (ascL lo a nr) Q t:=by
 unfold ascL;refine wpS_forRange (I:=λx c u=>u=t/\c=(none,x)/\SLo κ lo (arrOf t) x) ?st ?fi (rfl,rfl,hs)
 case fi=>
  rintro c u ⟨rfl,rfl,H⟩;rw[show max a nr=nr by lia]at H ⊢;exact h nr han (AS _) H<|Or.inl rfl
 case st=>
  rintro x c u X N ⟨rfl,rfl,H⟩;dsimp only;refine wpS_bind<|Hs O g.pm g.kd (by lia) (by lia) ?_;cases e:κ.blt (KK κ (arrOf u)<|lo+x) (KK κ (arrOf u)<|lo+x-1) with
  |true=>
   simp only[if_true];exact wpS_pure<|h x X (by lia) H<|Or.inr e
  |false=>
   simp only[Av,if_false];exact wpS_pure (rfl,rfl,VL H<|Or.inr e)
theorem Px (O:OrcL prog w A E s κ kd a0) (hn:lo+nr<=a0.size) (h1:1<=n) (hnn:n<=nr) (g:GL κ kd a0 pd lo f t) (hs:NLo κ lo (arrOf t) n)
  (h:∀m u,GL κ kd a0 pd lo f u->1<=m->m<=nr->SLo κ lo (arrOf u) m->Q (some m) u):wpS (model prog w) A E s (tailL lo n nr) Q t:=by
 unfold tailL;have z:lo+n<=(arrOf t).size:=by rw[g.sz];lia
 refine wpS_bind<|wpS_reverse ?_;have G:=g.mir (i:=lo) (j:=lo+n) (AS _) (by lia);refine wpS_bind (QU O hn h1 hnn G (λi j J H=>?_) λm b M a _=>wpS_pure<|h m _ G (by lia) M a);show κ.kle (KK κ (mirror (arrOf t) lo (lo+n) ((lo+n-lo) / 2))<|lo+i) (KK κ (mirror (arrOf t) lo (lo+n) ((lo+n-lo) / 2))<|lo+j);rw[KK_mirror z,KK_mirror z,AD (by lia),AD (by lia),show lo+(lo+n)-1-(lo+i)=lo+(n-1-i) by lia,show lo+(lo+n)-1-(lo+j)=lo+(n-1-j) by lia];exact hs _ _ (by omega) (by omega)
theorem WU (O:OrcL prog w A E s κ kd a0) (hn:lo+nr<=a0.size) (h1:1<=n) (hnn:n<=nr) (g:GL κ kd a0 pd lo f t) (hs:NLo κ lo (arrOf t) n)
  (h:∀m q u,GL κ kd a0 pd lo f u->n<=m->m<=nr->NLo κ lo (arrOf u) m->q+1<=m->(∀i,lo+m-(q+1)<=i->i<lo+m->KK κ (arrOf u) i=KK κ (arrOf u) (lo+m-1))->Q (none,m,q) u):wpS (model prog w) A E s (descL lo n nr) Q t:=by
 unfold descL;refine wpS_forRange (I:=λx c u=>∃q,c=(none,x,q)/\GL κ kd a0 pd lo f u/\NLo κ lo (arrOf u) x/\q+1<=x/\∀i,lo+x-(q+1)<=i->i<lo+x->KK κ (arrOf u) i=KK κ (arrOf u) (lo+x-1)) ?st ?fi (0,rfl,g,hs,by omega,λi Y k=>by rw[show i=lo+n-1 by lia])
 case fi=>
  rintro c u ⟨q,rfl,G,H,d,b⟩;rw[show max n nr=nr by lia]at H d b ⊢;exact h nr q u G hnn (AS _) H d b
 case st=>
  rintro x c u X N ⟨q,rfl,G,H,d,b⟩;dsimp only;have z:lo+x<=(arrOf u).size:=by rw[G.sz];lia
  refine wpS_bind<|Hs O G.pm G.kd (by lia) (by lia) ?_;cases e:κ.blt (KK κ (arrOf u)<|lo+x) (KK κ (arrOf u)<|lo+x-1) with
  |true=>
   simp only[if_true];by_cases hq:q > 0
   ·rw[AD hq]
    have a:=KK_mirror_equal z b;refine wpS_bind<|wpS_reverse<|wpS_pure (0,rfl,G.mir (by lia) (by lia),?_,by lia,λi Y k=>by rw[show i=lo+(x+1)-1 by lia]);refine HU (λi j J o=>?_)<|Or.inr ?_
    ·show κ.kle (KK κ (mirror (arrOf u) _ _ _)<|lo+j) (KK κ (mirror (arrOf u) _ _ _)<|lo+i)
     rw[a,a];exact H i j J o
    ·show κ.kle (KK κ (mirror (arrOf u) _ _ _)<|lo+x) (KK κ (mirror (arrOf u) _ _ _)<|lo+x-1)
     rw[a,a];exact KeyOrd.kle_of_klt e
   ·rw[AB hq]
    exact wpS_pure (0,rfl,G,HU H<|Or.inr<|KeyOrd.kle_of_klt e,by omega,λi Y k=>by rw[show i=lo+(x+1)-1 by omega])
  |false=>
   simp only[Av,if_false];refine wpS_bind<|Hs O G.pm G.kd (by omega) (by omega) ?_;cases e2:κ.blt (KK κ (arrOf u)<|lo+x-1) (KK κ (arrOf u)<|lo+x) with
   |true=>
    simp only[if_true];exact wpS_pure<|h x q u G X (by lia) H d b
   |false=>
    simp only[Av,if_false];have l:KK κ (arrOf u) (lo+x)=KK κ (arrOf u) (lo+x-1):=KeyOrd.kle_antisymm e2 e;refine wpS_pure (q+1,rfl,G,HU H<|Or.inr e2,by lia,λi Y k=>?_);rw[show lo+(x+1)-1=lo+x by lia];rcases Dk i (lo+x) with y|y
    ·rw[l];exact b i (by lia) y
    ·rw[show i=lo+x by lia]
theorem O0 (O:OrcL prog w A E s κ kd a0) (hn:lo+nr<=a0.size) (hnn:n+1<=nr) (g:GL κ kd a0 pd lo f t) (hs:NLo κ lo (arrOf t) (n+1))
  (h:∀m u,GL κ kd a0 pd lo f u->1<=m->m<=nr->SLo κ lo (arrOf u) m->Q (some m) u):wpS (model prog w) A E s (descPL lo n nr) Q t:=by
 unfold descPL;refine wpS_bind<|wpS_lift<|DO (rfl,?_);refine wpS_bind (WU O hn (by lia) hnn g hs λm q u G c M H d b=>?_);dsimp only;have z:lo+m<=(arrOf u).size:=by rw[G.sz];lia
 by_cases hq:q > 0
 ·rw[AD hq]
  have e:=KK_mirror_equal z b;refine wpS_bind<|wpS_reverse<|Px O hn (by lia) M (G.mir (by lia)<|by lia) (λi j J a=>?_) h;show κ.kle (KK κ (mirror (arrOf u) _ _ _)<|lo+j) (KK κ (mirror (arrOf u) _ _ _)<|lo+i);rw[e,e];exact H i j J a
 ·rw[AB hq]
  exact Px O hn (by lia) M G H h
theorem Pg (O:OrcL prog w A E s κ kd a0) (hn:lo+nr<=a0.size) (h1:1<=nr) (g:GL κ kd a0 pd lo f t)
  (h:∀m u,GL κ kd a0 pd lo f u->1<=m->m<=nr->SLo κ lo (arrOf u) m->Q (some m) u):wpS (model prog w) A E s (countRun' lo nr) Q t:=by
 rw[RC];refine wpS_bind (QU O hn (AS 1) h1 g (λi j J H=>by have e:i=j:=(by lia);subst e;exact KeyOrd.kle_refl _) λn d o N p=>?_);dsimp only;by_cases hnn:n=nr
 ·rw[AD (by simpa using hnn)]
  exact wpS_pure<|h n t g d o N
 ·rw[AB (by simpa using hnn)]
  have lt:=p.resolve_left hnn;by_cases hg:n > 1
  ·rw[AD hg]
   refine wpS_bind<|Hs O g.pm g.kd (by lia) (by lia) ?_;cases e:κ.blt (KK κ (arrOf t) lo) (KK κ (arrOf t)<|lo+n-1) with
   |true=>
    simp only[if_true];exact wpS_pure<|h n t g d o N
   |false=>
    simp only[Av,if_false];have z:lo+n<=(arrOf t).size:=by rw[g.sz];lia
    have l:∀k,lo<=k->k<lo+n->KK κ (arrOf t) k=KK κ (arrOf t) (lo+n-1):=λk K q=>by
     have b:=N (k-lo) (n-1) (by omega) (by lia);have c:=N 0 (k-lo) (by lia) (by omega);rw[show lo+(k-lo)=k by omega]at b c;rw[show lo+(n-1)=lo+n-1 by lia]at b;exact KeyOrd.kle_antisymm b<|KeyOrd.kle_trans e c
    have a:=KK_mirror_equal z l;refine wpS_bind<|wpS_reverse<|O0 O hn (by lia) (g.mir (AS _)<|by lia) (HU (λi j J H=>?_)<|Or.inr ?_) h
    ·show κ.kle (KK κ (mirror (arrOf t) _ _ _)<|lo+j) (KK κ (mirror (arrOf t) _ _ _)<|lo+i)
     rw[a,a,l (lo+i) (by lia) (by lia),l (lo+j) (by lia) (by lia)];exact KeyOrd.kle_refl _
    ·show κ.kle (KK κ (mirror (arrOf t) _ _ _)<|lo+n) (KK κ (mirror (arrOf t) _ _ _)<|lo+n-1)
     rw[a,a];exact KeyOrd.kle_of_klt lt
  ·rw[AB hg]
   obtain rfl:n=1:=by lia
   refine O0 O hn (by lia) g (HU (λi j J H=>?_)<|Or.inr<|KeyOrd.kle_of_klt lt) h;obtain rfl:i=j:=by omega
   exact KeyOrd.kle_refl _
end
theorem mergeAt'_eq (i:Nat):mergeAt' i=(do
 let s <- get
 let (some (sa,na,power),some (sb,nb,_)):=(((pendingOf s)[i]?,(pendingOf s)[i+1]?):_×_)|liftM (unsupported "internal:list.sort.pending")
 set (setPending s (((pendingOf s).setIfInBounds i (sa,na+nb,power)).eraseIdxIfInBounds (i+1)))
 let some k <- gallop' false (<- elem' (arrOf s) sb) (arrOf s) sa na 0|return false
 let (sa,na):=((sa+k,na-k):_×_)
 if na == 0 then return true
 let some nb <- gallop' true (<- elem' (arrOf s) (sa+na-1)) (arrOf s) sb nb (nb-1)|return false
 if nb == 0 then return true
 let x:=(arrOf s).extract sa sb
 let y:=(arrOf s).extract sb (sb+nb)
 let merged <- if na<=nb then mergeLo' x y else mergeHi' x y
 modify λs=>setArr s<|merged.toList.zipIdx.foldl (λa (p,j)=>a.setIfInBounds (sa+j) p)<|arrOf s
 return (failedOf (<- get)).isNone):=rfl
def putRun (xs:Array Keyed) (at_:Nat) (r:List (Keyed × Nat)):Array Keyed:=r.foldl (λa (p:Keyed × Nat)=>a.setIfInBounds (at_+p.2) p.1) xs
theorem NU (at_:Nat):∀(r:List Keyed) (xs:Array Keyed) (j:Nat),at_+j+r.length<=xs.size->(putRun xs at_<|r.zipIdx j).toList=xs.toList.take (at_+j)++r++xs.toList.drop (at_+j+r.length)
 |[],xs,j,h=>by
  show xs.toList=_;simp
 |x::r,xs,j,h=>by
  rw[Aj]at h;show (putRun (xs.setIfInBounds (at_+j) x) at_<|r.zipIdx<|j+1).toList=_;rw[NU at_ r (xs.setIfInBounds (at_+j) x) (j+1) (by rw[Array.size_setIfInBounds];lia),Array.toList_setIfInBounds];have l:at_+j<xs.toList.length:=by rw[Array.length_toList];lia
  have e:(xs.toList.set (at_+j) x).take (at_+(j+1))=xs.toList.take (at_+j)++[x]:=by
   rw[show at_+(j+1)=at_+j+1 by lia,List.take_succ_eq_append_getElem (by rw[FP];exact l),List.getElem_set_self,List.take_set_of_le (AS _)]
  have E:(xs.toList.set (at_+j) x).drop (at_+(j+1)+r.length)=xs.toList.drop (at_+j+(x::r).length):=by
   rw[List.drop_set_of_lt (by lia),Aj,show at_+(j+1)+r.length=at_+j+(r.length+1) by lia]
  rw[e,E];simp
section
variable {prog:Program}{w:World}{A:Around}{E:AX}{s:Shared}{a0:Array Keyed}{κ:PyProof.Rows.KeyKind}{kd:SortKind}
theorem VM {u st:Z}{Q:PUnit -> Z -> Prop}(h:Q ⟨⟩ u):wpS M A E s (set u:StateT Z Sem PUnit) Q st:=by
 unfold wpS;rw[StateT.run_set];exact AH (rfl,h)
theorem PB {lo n:Nat}(hn:lo+n<=xs.size) (h:SLo κ lo xs n):Srt1 κ (xs.extract lo<|lo+n).toList:=by
 unfold Srt1;rw[DF];intro i j hi hj hij;have z:(xs.extract lo<|lo+n).toList.length=n:=by rw[Array.length_toList,Array.size_extract];lia
 have:=h i j (by lia) (by lia);rw[CT (getE (xs:=xs) (i:=lo+i)<|by lia),CT (getE (xs:=xs) (i:=lo+j)<|by lia)]at this;unfold le1;rw[Array.getElem_toList,Array.getElem_toList,Array.getElem_extract,Array.getElem_extract];exact this
theorem LI {xs:Array Keyed}(h1:i<=j) (h2:j<=k):(xs.extract i k).toList=(xs.extract i j).toList++(xs.extract j k).toList:=by
 rw[Array.toList_extract,Array.toList_extract,Array.toList_extract,EO,EO,EO];have:xs.toList.drop j=(xs.toList.drop i).drop (j-i):=by rw[List.drop_drop,show i+(j-i)=j by lia]
 rw[this,show k-i=(j-i)+(k-j) by lia,List.take_add]
theorem M4 (h:Srt1 κ xs.toList):SortedToK κ xs xs.size:=λi j J H=>Fo h J H
theorem Zyv:((#[(0,n1,p1),(n1,n2,p2)]:Array (Nat × Nat × Nat)).setIfInBounds 0 (0,n1+n2,p1)).eraseIdxIfInBounds (0+1) = #[(0,n1+n2,p1)]:=by
 simp[Array.eraseIdxIfInBounds,Array.eraseIdx]
theorem Tg (O:OrcL prog w A E s κ kd a0) (pm:(arrOf t).Perm a0) (hk:kindOf t=kd) (hf:failedOf t=none) (hp:pendingOf t = #[(0,n1,p1),(n1,n2,p2)]) (z1:0<n1) (z2:0<n2) (hz:n1+n2=a0.size)
  (s1:SLo κ 0 (arrOf t) n1) (s2:SLo κ n1 (arrOf t) n2) 
  (h:∀u,(arrOf u).Perm a0->failedOf u=none->pendingOf u = #[(0,a0.size,p1)]->SortedToK κ (arrOf u) a0.size->Q true u):wpS (model prog w) A E s (mergeAt' 0) Q t:=by
 have sz:(arrOf t).size=n1+n2:=by rw[pm.size_eq,hz]
 have mem0:∀x∈arrOf t,x∈a0:=λx hx=>Array.mem_toList_iff.mp ((Array.perm_iff_toList_perm.mp pm).mem_iff.mp (Array.mem_toList_iff.mpr hx));rw[mergeAt'_eq];refine wpS_bind<|wpS_get ?_;rw[hp];rw[show (#[(0,n1,p1),(n1,n2,p2)]:Array (Nat × Nat × Nat))[0]?=some (0,n1,p1) from rfl,show (#[(0,n1,p1),(n1,n2,p2)]:Array (Nat × Nat × Nat))[0+1]?=some (n1,n2,p2) from rfl];dsimp only;rw[Zyv];refine wpS_bind<|VM ?_;have toA:(arrOf t).toList=((arrOf t).extract 0 n1).toList++((arrOf t).extract n1 (n1+n2)).toList:=by
  rw[<- LI (by lia) (by lia),Ee,Et (by rw[Array.length_toList];lia)]
 have sA:Srt1 κ ((arrOf t).extract 0 n1).toList:=by have:=PB (lo:=0) (n:=n1) (by lia) s1;rwa [By]at this
 have sB:Srt1 κ ((arrOf t).extract n1 (n1+n2)).toList:=PB (by lia) s2;have e1:n1<(arrOf t).size:=by lia
 have e0:n1-1<(arrOf t).size:=by lia
 have bB:∀y∈((arrOf t).extract n1 (n1+n2)).toList,le1 κ (arrOf t)[n1] y:=λy hy=>by
  obtain⟨j,j1,j2⟩:=Fh hy;have:=s2 0 j (by lia) (by lia)
  rwa [CT (getE (xs:=arrOf t) (i:=n1+0)<|by omega),CT j2]at this
 have tA:∀y∈((arrOf t).extract 0 n1).toList,le1 κ y (arrOf t)[n1-1]:=λy hy=>by
  obtain⟨j,j1,j2⟩:=Fh hy;have:=s1 j (n1-1) (by lia) (by lia);rw[CT j2,CT (getE (xs:=arrOf t) (i:=0+(n1-1))<|by lia)]at this;unfold le1;simpa using this
 have fin:∀u,BG (setPending t #[(0,n1+n2,p1)]) u->Srt1 κ (arrOf t).toList->Q true u:=λu S hs=>by
  refine h u (by rw[S.2.1];exact pm) (S.2.2.2.trans hf) (S.2.2.1.trans<|by rw[<- hz]) ?_;rw[S.2.1];have:=M4 hs
  rwa [pm.size_eq]at this
 have S0:BG (setPending t #[(0,n1+n2,p1)]) (setPending t #[(0,n1+n2,p1)]):=(rfl,rfl,rfl,rfl);refine wpS_bind<|B9 (getE e1) ?_;have hk':kindOf (setPending t #[(0,n1+n2,p1)])=kd:=hk;refine wpS_bind (Gh O hk' (mem0 _<|Cc<|getE e1) mem0 (by lia) z1 s1 λk k1 k2 k3=>?_);rw[By]at k2;rw[By,By]at k3;dsimp only;simp only[By];by_cases q:n1-k=0
 ·rw[AD (by simpa using q)]
  obtain rfl:k=n1:=by lia
  refine wpS_pure<|fin _ S0 ?_;rw[toA];exact Cg.mpr (sA,sB,λx hx y hy=>KeyOrd.kle_trans (k2 x hx)<|bB y hy)
 rw[AB (by simpa using q)];have eA:((arrOf t).extract 0 n1).toList=((arrOf t).extract 0 k).toList++((arrOf t).extract k n1).toList:=LI (by omega) (by omega);have en:k+(n1-k)-1=n1-1:=by lia
 simp only[en];refine wpS_bind<|B9 (getE e0) ?_;refine wpS_bind (Gh O hk' (mem0 _<|Cc<|getE e0) mem0 (by lia) (by lia) s2 λm m1 m2 m3=>?_);dsimp only;by_cases q2:m=0
 ·rw[AD (by simpa using q2)]
  refine wpS_pure<|fin _ S0 ?_;rw[toA];refine Cg.mpr (sA,sB,λx hx y hy=>KeyOrd.kle_trans (tA x hx)<|m3 y ?_);rw[q2,IM];exact hy
 rw[AB (by simpa using q2)];have eB:((arrOf t).extract n1 (n1+n2)).toList=((arrOf t).extract n1 (n1+m)).toList++((arrOf t).extract (n1+m) (n1+n2)).toList:=LI (by lia) (by lia);rw[eA]at sA tA;rw[eB]at sB bB;obtain⟨sP,sX,PX⟩:=Cg.mp sA;obtain⟨sY,sZ,YZ⟩:=Cg.mp sB;have sx:((arrOf t).extract k n1).size=n1-k:=by rw[Array.size_extract];lia
 have sy:((arrOf t).extract n1 (n1+m)).size=m:=by rw[Array.size_extract];lia
 have M:MH κ a0 ((arrOf t).extract k n1) ((arrOf t).extract n1 (n1+m)):=by
  refine(λx hx=>?_,λx hx=>?_,sX,sY,λy hy x hx=>?_,λy hy x hx=>?_)
  ·obtain⟨j,_,j2⟩:=Fh<|Array.mem_toList_iff.mpr hx;exact mem0 x<|Cc j2
  ·obtain⟨j,_,j2⟩:=Fh<|Array.mem_toList_iff.mpr hx;exact mem0 x<|Cc j2
  ·have:y=(arrOf t)[n1]:=by
    rw[getE (by lia)]at hy;have:=BY.inj hy;rw[Array.getElem_extract]at this;simpa using this.symm
   rw[this];exact k3 x<|Array.mem_toList_iff.mpr hx
  ·have:y=(arrOf t)[n1-1]:=by
    rw[getE (by lia)]at hy;have:=BY.inj hy;rw[Array.getElem_extract]at this;have e:k+(((arrOf t).extract k n1).size-1)=n1-1:=by lia
    simp only[e]at this;exact this.symm
   rw[this];exact m2 x<|Array.mem_toList_iff.mpr hx
 have last:∀(r:Array Keyed) u,BG (setPending t #[(0,n1+n2,p1)]) u->Good1 κ (((arrOf t).extract k n1).toList++((arrOf t).extract n1 (n1+m)).toList) r.toList->wpS (model prog w) A E s (do
   modify λs=>setArr s<|r.toList.zipIdx.foldl (λa (p,j)=>a.setIfInBounds (k+j) p)<|arrOf s
   return (failedOf (<- get)).isNone) Q u:=λr u S g=>by
  refine wpS_bind<|wpS_modify<|wpS_bind<|wpS_get<|wpS_pure ?_;have hf':(failedOf u).isNone=true:=by rw[S.2.2.2];show (failedOf t).isNone=true;rw[hf];rfl
  show Q (failedOf u).isNone (setArr u<|putRun (arrOf u) k<|r.toList.zipIdx 0);rw[hf'];have rl:r.toList.length=n1-k+m:=by rw[g.1.length_eq,Aw,Array.length_toList,Array.length_toList,sx,sy]
  have ar:arrOf u=arrOf t:=S.2.1;have new:(putRun (arrOf u) k<|r.toList.zipIdx 0).toList=((arrOf t).extract 0 k).toList++r.toList++((arrOf t).extract (n1+m) (n1+n2)).toList:=by
   rw[ar,NU k r.toList (arrOf t) 0 (by omega),rl,IM,Ee,show k+(n1-k+m)=n1+m by lia,<- sz,Fg]
  have pmn:(putRun (arrOf u) k<|r.toList.zipIdx 0).Perm a0:=by
   refine Array.Perm.trans (Array.perm_iff_toList_perm.mpr ?_) pm;rw[new,toA,eA,eB];simp only[Ba];refine List.Perm.append_left _ ?_;rw[<- Ba];exact List.Perm.append_right _ g.1
  have mr:∀x∈r.toList,x∈((arrOf t).extract k n1).toList\/x∈((arrOf t).extract n1 (n1+m)).toList:=λx hx=>Bb.mp<|g.1.mem_iff.mp hx;have sn:Srt1 κ (putRun (arrOf u) k<|r.toList.zipIdx 0).toList:=by
   rw[new];refine Cg.mpr (Cg.mpr (sP,g.2,λx hx y hy=>?_),sZ,λx hx y hy=>?_)
   ·rcases mr y hy with v|v
    ·exact PX x hx y v
    ·exact KeyOrd.kle_trans (k2 x hx)<|bB y<|Bb.mpr<|Or.inl v
   ·rcases Bb.mp hx with v|v
    ·exact KeyOrd.kle_trans (k2 x v)<|bB y<|Bb.mpr<|Or.inr hy
    ·rcases mr x v with v|v
     ·exact KeyOrd.kle_trans (tA x<|Bb.mpr<|Or.inr v)<|m3 y hy
     ·exact YZ x v y hy
  refine h _ pmn (S.2.2.2.trans hf) (S.2.2.1.trans<|by rw[<- hz]) ?_;have:=M4 sn
  rwa [pmn.size_eq]at this
 by_cases q3:n1-k<=m
 ·rw[AD q3]
  exact wpS_bind (g_lo O hk' M (by lia) (by omega) λr u S g=>last r u S g)
 ·rw[AB q3]
  exact wpS_bind (g_hi O hk' M (by lia) (by omega) λr u S g=>last r u S g)
theorem TJ (h1:2<=n) (h2:n<128):∃mr,minRun' n n 0=mr/\n<=2*mr/\mr<=n/\0<mr:=by
 obtain⟨f,rfl⟩:∃f,n=f+2:=(n-2,by lia);rw[show minRun' (f+2) (f+2) 0=minRun' (f+1+1) (f+2) 0 from rfl,minRun'_succ];split
 ·exact(_,rfl,by lia,by lia,by lia)
 ·rw[minRun'_succ,AD (by lia)]
  exact(_,rfl,by lia,by lia,by lia)
def OneRun (κ:PyProof.Rows.KeyKind) (kd:SortKind) (a0:Array Keyed) (m:Nat) (u:SortSt):Prop:=
 (arrOf u).Perm a0/\kindOf u=kd/\failedOf u=none/\pendingOf u = #[(0,m,0)]/\SLo κ 0 (arrOf u) m
def TwoRuns (κ:PyProof.Rows.KeyKind) (kd:SortKind) (a0:Array Keyed) (m pw:Nat) (u:SortSt):Prop:=
 (arrOf u).Perm a0/\kindOf u=kd/\failedOf u=none/\pendingOf u = #[(0,m,pw),(m,a0.size-m,0)]/\SLo κ 0 (arrOf u) m/\SLo κ m (arrOf u) (a0.size-m)
def AllDone (κ:PyProof.Rows.KeyKind) (a0:Array Keyed) (u:SortSt):Prop:=
 (arrOf u).Perm a0/\failedOf u=none/\(∃p,pendingOf u = #[(0,a0.size,p)])/\SortedToK κ (arrOf u) a0.size
theorem Zyr (O:OrcL prog w A E s κ kd a0) (pm:(arrOf t).Perm a0) (hk:kindOf t=kd) (hf:failedOf t=none) (hp:pendingOf t = #[]) (h1:2<=a0.size) (h2:a0.size<128)
  (h:∀u,(arrOf u).Perm a0->failedOf u=none->SortedToK κ (arrOf u) a0.size->Q () u):wpS (model prog w) A E s sortRuns' Q t:=by
 have S:=pm.size_eq;rw[sortRuns'_eq];refine wpS_bind (wpS_get ?_);dsimp only;obtain⟨r,R,a1,a2,a3⟩:=TJ h1 h2;simp only[S,R];refine wpS_bind (wpS_mono (wpS_forRange
  (I:=λx c u=>(x=0/\c=(none,0)/\u=t)\/(x=1/\∃m,r<=m/\m<a0.size/\c=(none,m)/\OneRun κ kd a0 m u)\/(1<=x/\c=(none,a0.size)/\(AllDone κ a0 u\/∃m W,0<m/\m<a0.size/\TwoRuns κ kd a0 m W u)))
  (Q:=λc u=>c=(none,a0.size)/\(AllDone κ a0 u\/∃m W,0<m/\m<a0.size/\TwoRuns κ kd a0 m W u)) ?st ?fi (Or.inl (rfl,rfl,rfl))) ?po)
 case fi=>
  rintro c u (⟨z,_,_⟩|⟨z,_⟩|⟨_,z⟩)
  ·lia
  ·lia
  ·exact z
 case st=>
  rintro x c u _ hx (⟨rfl,rfl,rfl⟩|⟨rfl,m,o,M,rfl,z⟩|⟨x1,rfl,z⟩)
  ·dsimp only
   rw[AB (by lia)];have g:GL κ kd a0 #[] 0 (λ_=>κ.dflt) u:=(pm,hk,hf,hp,λi X=>by lia);simp only[F3];refine wpS_bind (Pg O (by lia) (by lia) g λm v V o M T=>?_);dsimp only;have f:∀k v,r<=k->k<=a0.size->GL κ kd a0 #[] 0 (λ_=>κ.dflt) v->SLo κ 0 (arrOf v) k ->
     ((∃m,r<=m/\m<a0.size/\((none,0+k):Option Unit × Nat)=(none,m)/\OneRun κ kd a0 m (setPending v ((pendingOf v).push (0,k,0)))) \/
      (((none,0+k):Option Unit × Nat)=(none,a0.size)/\AllDone κ a0 (setPending v ((pendingOf v).push (0,k,0))))):=λk v N k2 V K=>by
    have e:(pendingOf v).push (0,k,0) = #[(0,k,0)]:=by rw[V.pd];rfl
    rcases Dk k a0.size with q|q
    ·exact Or.inl (k,N,q,by rw[By],V.pm,V.kd,V.fl,e,K)
    ·obtain rfl:k=a0.size:=by lia
     refine Or.inr (by rw[By],V.pm,V.fl,(0,e),λi j J H=>?_);have:=K i j J H
     rwa [By,By]at this
   by_cases hlt:m<r
   ·rw[AD hlt]
    refine wpS_bind<|wpS_lift<|DO (rfl,?_);have n:min a0.size r=r:=by lia
    simp only[n];refine wpS_bind (QW O (by lia) (by lia) V T λa G B=>?_);simp only[DV,Av,if_false];refine wpS_bind<|wpS_get ?_;rw[show (pendingOf a).back?=none by rw[G.pd];rfl];dsimp only;refine wpS_bind<|wpS_modify<|wpS_pure ?_;rcases f r a (AS _) (by omega) G B with y|⟨Y,l⟩
    ·exact Or.inr<|Or.inl (trivial,y)
    ·exact Or.inr<|Or.inr (by lia,Y,Or.inl l)
   ·rw[AB hlt]
    refine wpS_bind<|wpS_get ?_;rw[show (pendingOf v).back?=none by rw[V.pd];rfl];dsimp only;refine wpS_bind<|wpS_modify<|wpS_pure ?_;rcases f m v (by lia) M V T with y|⟨Y,l⟩
    ·exact Or.inr<|Or.inl (trivial,y)
    ·exact Or.inr<|Or.inr (by omega,Y,Or.inl l)
  ·dsimp only
   rw[AB (by lia)];obtain⟨C,D,F,Z,L⟩:=z;have g:GL κ kd a0 #[(0,m,0)] m (KK κ<|arrOf u) u:=(C,D,F,Z,λi X=>rfl);have f:∀W v,GL κ kd a0 #[(0,m,0)] m (KK κ<|arrOf u) v->SLo κ m (arrOf v) (a0.size-m)->∀d,d = #[(0,m,W),(m,a0.size-m,0)]->TwoRuns κ kd a0 m W (setPending v d):=λW v V K d e=>by
    refine(V.pm,V.kd,V.fl,e,λi j J H=>?_,K);show κ.kle (KK κ (arrOf v) (0+i)) (KK κ (arrOf v) (0+j));rw[V.fr (0+i) (by lia),V.fr (0+j) (by lia)];exact L i j J H
   refine wpS_bind (Pg O (by lia) (by lia) g λk v V N k2 P=>?_);dsimp only;by_cases hlt:k<r
   ·rw[AD hlt]
    refine wpS_bind<|wpS_lift<|DO (rfl,?_);have n:min (a0.size-m) r=a0.size-m:=by lia
    simp only[n];refine wpS_bind (QW O (by lia) (by omega) V P λa G B=>?_);simp only[DV,Av,if_false];refine wpS_bind<|wpS_get ?_;rw[show (pendingOf a).back?=some (0,m,0) by rw[G.pd];rfl];dsimp only;refine wpS_bind<|wpS_mono (wpS_forRange (I:=λ_ c y=>y=a /\ c=(none,())) (Q:=λc y=>y=a /\ c=(none,())) ?_ (λ_ _ q=>q) (rfl,rfl)) ?_
    ·rintro x c y _ _ ⟨rfl,rfl⟩
     refine wpS_bind<|wpS_get ?_;rw[G.pd];exact wpS_pure (rfl,rfl)
    rintro c y ⟨rfl,rfl⟩;refine wpS_bind<|wpS_modify<|wpS_bind<|wpS_modify<|wpS_pure ?_;refine Or.inr<|Or.inr (by lia,by rw[show m+(a0.size-m)=a0.size by lia],Or.inr (m,power' a0.size (2*0+m) (2*0+m+m+(a0.size-m)) a0.size,by lia,M,f _ y G B _ ?_));show ((pendingOf y).modify ((pendingOf y).size-1) _).push _=_;rw[G.pd];rfl
   ·rw[AB hlt]
    obtain rfl:k=a0.size-m:=by lia
    refine wpS_bind<|wpS_get ?_;rw[show (pendingOf v).back?=some (0,m,0) by rw[V.pd];rfl];dsimp only;refine wpS_bind<|wpS_mono (wpS_forRange (I:=λ_ c y=>y=v/\c=(none,())) (Q:=λc y=>y=v/\c=(none,())) ?_ (λ_ _ q=>q) (rfl,rfl)) ?_
    ·rintro x c y _ _ ⟨rfl,rfl⟩
     refine wpS_bind<|wpS_get ?_;rw[V.pd];exact wpS_pure (rfl,rfl)
    rintro c y ⟨rfl,rfl⟩;refine wpS_bind<|wpS_modify<|wpS_bind<|wpS_modify<|wpS_pure ?_;refine Or.inr<|Or.inr (by lia,by rw[show m+(a0.size-m)=a0.size by lia],Or.inr (m,power' a0.size (2*0+m) (2*0+m+m+(a0.size-m)) a0.size,by lia,M,f _ y V P _ ?_));show ((pendingOf y).modify ((pendingOf y).size-1) _).push _=_;rw[V.pd];rfl
  ·dsimp only
   rw[AD (AS _)];exact wpS_pure (rfl,z)
 case po=>
  rintro c u ⟨rfl,z⟩;dsimp only;refine wpS_bind<|wpS_mono (wpS_forRange (I:=λx c v=>c=(none,())/\(AllDone κ a0 v\/(x=0/\∃m W,0<m/\m<a0.size/\TwoRuns κ kd a0 m W v))) (Q:=λc v=>c=(none,())/\AllDone κ a0 v) ?_ (λc v q=>(q.1,q.2.resolve_right λy=>by lia)) (rfl,z.imp id λy=>(rfl,y))) ?_
  ·rintro x c v _ _ ⟨rfl,z|⟨rfl,m,W,o,M,C,D,F,Z,L,z6⟩⟩
   ·refine wpS_bind (wpS_get ?_)
    obtain⟨p,e⟩:=z.2.2.1;rw[AD (by rw[e];exact AS 1)];exact wpS_pure (rfl,z)
   ·refine wpS_bind (wpS_get ?_)
    rw[AB (by rw[Z];show ¬ 2<=1;lia)];have U:∀(b:Bool),(if b=true then (pendingOf v).size-2-1 else (pendingOf v).size-2)=0:=λb=>by rw[Z];cases b <;> rfl
    rw[U];refine wpS_bind (Tg O C D F Z o (by lia) (by lia) L z6 λy Y l y3 y4=>?_);simp only[DV,Av,if_false];exact wpS_pure (rfl,Or.inl (Y,l,(_,y3),y4))
  ·rintro c v ⟨rfl,z⟩
   exact wpS_pure<|h _ z.1 z.2.1 z.2.2.2
end
section
variable {prog:Program}{w:World}{A:Around}{E:AX}{s:Shared}
theorem Mj (ho:s.heap.get? a=some (seqObj "list" vs.toArray n)) (hz:vs.length<128)
  (hk:2<=vs.length->∀h',KeepBut a s.heap h' -> ∀Q:SortKind->Shared->Prop,Q kd { s with heap:=h' } -> wpAny (model prog w) A (keyKind' vs.toArray) Q E { s with heap:=h' })
  (hc:∀h',KeepBut a s.heap h' -> ∀x∈vs,∀y∈vs,∀(E:AX) (Q:Bool->Shared->Prop),Q (κ.blt (keyD κ x)<|keyD κ y) { s with heap:=h' } -> wpAny (model prog w) A (keyLt' kd x y) Q E { s with heap:=h' })
  (h:∀out:List Value,out.Perm vs->Sortd κ out->P (.done (.ret .none)) { s with heap:=sortedHeap s.heap a vs out.toArray }):wpAny (model prog w) A (Builtin.«list.sort» ([.ref a],[])) P E s:=by
 rw[list_sort_plain];have j:a<s.heap.objs.size:=Al ho;have Z:vs.toArray.size=vs.length:=by simp
 have i:vs.length<=sizeLine:=by rw[sizeLine_eq];lia
 refine AA<|listItems_at ho rfl ?_;refine AA<|listUpdate_at ho rfl ?_ (by rw[Z];exact i)<|BZ _;obtain⟨g,c⟩:∃g,(s.heap.update a (Obj.mapSeq λ_=>#[])).get? a=some (seqObj "list" #[] g):=(_,get?_update_seq ho λ_=>#[]);refine AA<|seqEpoch_at c rfl ?_;refine AA<|wpAny_newTuple ?_ i;refine AA<|wpAny_newList ?_<|BZ _;refine Bq ?_;have H:(((s.heap.update a (Obj.mapSeq λ_=>#[])).push (seqObj "tuple" vs.toArray 0)).push (seqObj "list" #[] 0)).get? a=some (seqObj "list" #[] g):=by
  rw[Ey _ _ _ (by rw[size_push',Fz];exact As<|Cw j),Ey _ _ _ (by rw[Fz];exact As j)];exact c
 have k:KeepBut a s.heap (((s.heap.update a (Obj.mapSeq λ_=>#[])).push (seqObj "tuple" vs.toArray 0)).push (seqObj "list" #[] 0)):=λb o B q=>
  Au _ (Au _ ((IQ _ _ _ _ B).trans q))
 show wpAny (model prog w) A _ P E { s with heap:=((s.heap.update a (Obj.mapSeq λ_=>#[])).push (seqObj "tuple" vs.toArray 0)).push (seqObj "list" #[] 0) };dsimp only;have S:(vs.toArray.zip vs.toArray).size=vs.length:=by rw[Array.size_zip,Z,IJ]
 by_cases h2:vs.toArray.size<2
 ·have out:((vs.toArray.zip vs.toArray).map (·.2))=vs.toArray:=by
   apply Array.toList_inj.mp;rw[Array.toList_map,Array.toList_zip];exact Fw<|AS _
  rw[AD h2,AD h2];refine AA<|AH ?_;rw[StateT.run_pure];refine AA<|AH ?_;dsimp only;refine AA<|seqEpoch_at H rfl ?_;rw[show arrOf (SortSt.mk' general' (vs.toArray.zip vs.toArray) #[] 7 none)=vs.toArray.zip vs.toArray from rfl,out];refine AA<|listUpdate_at H rfl ?_ (BZ _) (by rw[Z];exact Gq i);simp only[bne_self_eq_false,Av,if_false];refine AH<|h vs (List.Perm.refl _) ?_;unfold Sortd
  match vs,h2 with
  |[],_=>exact .nil
  |[_],_=>exact List.pairwise_singleton _ _
  |_::_::_,z=>simp at z;lia
 ·rw[AB h2,AB h2]
  refine AA<|hk (by lia) _ k _ ?_;have O:OrcL prog w A E { s with heap:=((s.heap.update a (Obj.mapSeq λ_=>#[])).push (seqObj "tuple" vs.toArray 0)).push (seqObj "list" #[] 0) } κ kd (vs.toArray.zip vs.toArray):=λt T x y X Y Q l=>by
   have V:∀p:Keyed,p∈vs.toArray.zip vs.toArray->p.1∈vs:=λp d=>(twins (Array.Perm.refl _) p<|Array.mem_toList_iff.mpr d).2;rw[lt'_eq];refine wpS_bind<|wpS_get ?_;rw[T];refine wpS_bind<|wpS_lift<|Ep<|hc _ k x.1 (V x X) y.1 (V y Y) _ _ (rfl,?_);exact wpS_pure l
  refine AA (Dz (Zyr (t:=SortSt.mk' kd (vs.toArray.zip vs.toArray) #[] 7 none) O (Q:=λ_ u=>(arrOf u).Perm (vs.toArray.zip vs.toArray)/\failedOf u=none/\SortedToK κ (arrOf u) (vs.toArray.zip vs.toArray).size) (Array.Perm.refl _) rfl rfl rfl (by rw[S];omega) (by rw[S];exact hz) λu U C D=>(U,C,D)) ?_ λ_ _ e=>e);rintro⟨⟨⟩,u⟩ G ⟨rfl,d,F,m⟩;dsimp only;obtain⟨r,v⟩:=T5 d m;have f:=h _ r v;rw[Array.toArray_toList]at f;refine AA<|seqEpoch_at H rfl ?_;refine AA<|listUpdate_at H rfl ?_ (BZ _) (by rw[Array.size_map,d.size_eq,S];exact Gq i);rw[F];simp only[bne_self_eq_false,Av,if_false];exact AH f
theorem Ky (hl:HsB b s.heap l vs.toArray) (hz:vs.length<128)
  (hk:2<=vs.length->∀h',(∀b o,s.heap.get? b=some o->h'.get? b=some o)->∀(E:AX) (Q:SortKind->Shared->Prop),Q kd { s with heap:=h' } -> wpAny (model prog w) A.in1.in1 (keyKind' vs.toArray) Q E { s with heap:=h' })
  (hc:∀h',(∀b o,s.heap.get? b=some o->h'.get? b=some o)->∀x∈vs,∀y∈vs,∀(E:AX) (Q:Bool->Shared->Prop),Q (κ.blt (keyD κ x)<|keyD κ y) { s with heap:=h' } -> wpAny (model prog w) A.in1.in1 (keyLt' kd x y) Q E { s with heap:=h' })
  (h:∀out:List Value,out.Perm vs->Sortd κ out->Q (.ref<|s.heap.objs.size+1) { s with heap:=sortedAll s.heap vs out.toArray }):wpAny (model prog w) A (call (.builtin "sorted") [.ref l]) Q E s:=by
 have e:vs.length<=sizeLine:=by rw[sizeLine_eq];lia
 refine Calls.call_function_entry kind_sorted plain_sorted entry_sorted (args_sorted1 _) ?_;unfold Builtin.«sorted»;refine AA (m:=checkCount "sorted" 1 1 _)<|AH ?_;refine AA (show wpAny (model prog w) A.in1 (collect (.ref l)) _ _ s from ?_);have g:∀{Q':List Value->Shared->Prop}{E':AX},Q' vs { s with heap:=(s.heap.push<|seqObj "list" #[] 0).update s.heap.objs.size (Obj.mapSeq (· ++ vs.toArray)) } -> wpAny (model prog w) A.in1 (collect (.ref l)) Q' E' s:=λ{Q' E'} q=>by
  cases b with
  |true=>exact RM hl q e
  |false=>exact collect_list hl q e
 refine g ?_;refine AA<|wpAny_newList ?_ e;have z:((s.heap.push<|seqObj "list" #[] 0).update s.heap.objs.size (Obj.mapSeq (· ++ vs.toArray))).objs.size=s.heap.objs.size+1:=by
  rw[Fz,size_push']
 have L:(((s.heap.push<|seqObj "list" #[] 0).update s.heap.objs.size (Obj.mapSeq (· ++ vs.toArray))).push (seqObj "list" vs.toArray 0)).get? (s.heap.objs.size+1)=some (seqObj "list" vs.toArray 0):=by
  rw[<- z];exact BP _ rfl
 have p:∀b o,s.heap.get? b=some o->(((s.heap.push<|seqObj "list" #[] 0).update s.heap.objs.size (Obj.mapSeq (· ++ vs.toArray))).push (seqObj "list" vs.toArray 0)).get? b=some o:=λb o q=>by
  have t:b<s.heap.objs.size:=Al q;rw[Ey _ _ _ (by rw[z];exact As<|Cw t),IQ _ _ _ _ (As t),Ey _ _ _ (As t)];exact q
 have u:∀h',KeepBut (s.heap.objs.size+1) (((s.heap.push<|seqObj "list" #[] 0).update s.heap.objs.size (Obj.mapSeq (· ++ vs.toArray))).push (seqObj "list" vs.toArray 0)) h' -> ∀b o,s.heap.get? b=some o->h'.get? b=some o:=λh' k b o q=>
  k b o (As<|Cw<|Al q) (p b o q)
 show wpAny _ _ _ _ _ { s with heap:=((s.heap.push<|seqObj "list" #[] 0).update s.heap.objs.size (Obj.mapSeq (· ++ vs.toArray))).push (seqObj "list" vs.toArray 0) };rw[z];refine AA<|Bq<|wpAny_call_entry slot_list_sort (_,L,rfl) entry_list_sort (Mj (kd:=kd) (κ:=κ) L hz (λH h' k Q q=>hk H h' (u h' k) _ Q q) (λh' k x X y Y E Q q=>hc h' (u h' k) x X y Y E Q q) λout O a=>(_,rfl,?_))<|args_list_sort _;exact AH (_,rfl,h out O a)
end
section
variable {X:Cx}
def rSortGL (K:W.Frag):List V->Hp->VK->Prop:=λs H Q=>∃p us rs,s=[.ref p]/\SqU K H p us/\us.length<128/\IsRows K H us rs /\
 ∀(l:Addr) (ps:List (V × List Int)),ps.Perm (us.zip rs)->(ps.map (·.2)).Pairwise (λa b=>rlt b a=false)->H l=none->Q (.ref l) (upd H l (.lst<|ps.map (·.1)))
theorem sortGLK (K:W.Frag) (hu:X.A.units+8<cLine) (hK:X.K=K:=by rfl):CallR X (.builtin "sorted") (rSortGL K):=by
 subst hK;intro pins s Z H xs us Q I r h;obtain⟨p,ys,D,rfl,g,hl,hp,q⟩:=h;obtain⟨u,rfl,ru⟩:=vals1 r;cases (show u=Value.ref p from ru);obtain⟨b,g⟩:∃b,SqB b X.K H p ys:=by
  rcases g with z|z
  ·exact(false,z)
  ·exact(true,z)
 obtain⟨S,M,G⟩:=I.seqB g;have R:=GY I M hp;have V:=M.length;have L:=Paired.len R;have U:X.A.in1.in1.units<cLine:=EW (by show X.A.units+1+1<=X.A.units+8;lia) hu;have N:∀t:List Value,t.Perm S->Sortd (rowKey s.heap) t->EP X pins Z Q (.ref<|s.heap.objs.size+1) { s with heap:=sortedAll s.heap S t.toArray }:=λt o1 o2=>by
  obtain⟨J,l,n,a3⟩:=Nc M hp o1;have P:=GY I l n;obtain⟨e,F⟩:=sortedAll_at s.heap S t.toArray;have hs:(J.map (·.2)).Pairwise (λa b=>rlt b a=false):=by
   rw[DF];intro i j hi hj hij;obtain⟨v,v1,v2⟩:=Paired.get2 P<|AQ hi;obtain⟨u,u1,u2⟩:=Paired.get2 P<|AQ hj;obtain⟨g1,g2⟩:=BB.mp v1;obtain⟨g3,g4⟩:=BB.mp u1;have:=(DF.mp o2) i j g1 g3 hij;rw[g2,g4]at this;unfold keyD at this;rw[GF v2,GF u2]at this;exact this
  have a0:=l.length;have a4:=o1.length_eq;refine⟨.ref<|s.heap.objs.size+1,_,I.laid (t':=s.toks) (λ_ _ z=>sortedAll_old z) (Dq _) (show ObjOk X.prog X.w _ _ _ (.lst<|J.map (·.1)) from (DW (small1000<|by lia),t,e,l,F)),rfl,q _ J a3 hs<|I.hok.fresh<|Dq _⟩
 have m:∀d,(∀b o,s.heap.get? b=some o->d.get? b=some o)->∀x∈S,∃a,RowAt d x a/\keyD (rowKey s.heap) x=a:=λd k x g=>by
  obtain⟨a,_,T⟩:=Paired.mem R x g;refine(a,T.keep k,?_);unfold keyD;rw[GF T];rfl
 by_cases hne:∀r∈D,r≠[]
 ·refine Ky (b:=b) (kd:=tuples' true) (κ:=rowKey s.heap) G (by lia) (λO d k E Q f=>?_) (λd k x g y Y E Q f=>?_) N
  ·exact M5 (s:={ s with heap:=d }) (Paired.up (λv r z=>z.keep k) R) hne (by intro z;subst z;rw[DE]at L;lia) f
  ·obtain⟨a,l,n⟩:=m d k x g
   obtain⟨c,C,B⟩:=m d k y Y;rw[n,B]at f;exact Nw (s:={ s with heap:=d }) l C f
 ·cases D with
  |nil=>exact absurd (λr h=>nomatch h) hne
  |cons r0 D=>
   by_cases h0:r0=[]
   ·subst h0
    refine Ky (b:=b) (kd:=oneType') (κ:=rowKey s.heap) G (by lia) (λO d k E Q f=>?_) (λd k x g y Y E Q f=>?_) N
    ·exact Rm (s:={ s with heap:=d }) (Paired.up (λv r z=>z.keep k) R) f
    ·obtain⟨a,l,n⟩:=m d k x g
     obtain⟨c,C,B⟩:=m d k y Y;rw[n,B]at f;exact UC (s:={ s with heap:=d }) U l C f
   ·have F:[]∈D:=by
     apply Classical.byContradiction;intro z;refine hne λr hr e=>?_;subst e;rcases Ar.mp hr with y|y
     ·exact h0 y.symm
     ·exact z y
    refine Ky (b:=b) (kd:=general') (κ:=rowKey s.heap) G (by lia) (λO d k E Q f=>?_) (λd k x g y Y E Q f=>?_) N
    ·exact SJ (s:={ s with heap:=d }) (Paired.up (λv r z=>z.keep k) R) h0 F f
    ·obtain⟨a,l,n⟩:=m d k x g
     obtain⟨c,C,B⟩:=m d k y Y;rw[n,B]at f;exact Ut (s:={ s with heap:=d }) U l C f
end
section
variable {K:W.Frag}{U:AI}
theorem TK (h:JA K ta U λds U1=>∃rs:Aa,(ds=[.lst (rs.map rowD)]\/ds=[.tup (rs.map rowD)])/\rs.length<128/\∀ms:Aa,ms.Perm rs->ms.Pairwise (λa b=>rlt b a=false)->Po (.lst<|ms.map rowD) U1):JO K (tCB (rSortGL K) ta) U Po:=λg G H Z Q k c=>
 h g G H Z _ k λV ds d m U1 f z j q=>by
  obtain⟨rs,e,L,p⟩:=q;obtain⟨a,u,E,S,R⟩:∃a u,V=[.ref a]/\SqU K m a u/\Reps K d u (rs.map rowD):=by
   rcases e with e|e <;> subst e
   ·obtain⟨_,_,rfl,r,t⟩:=j.inv
    next=>cases t.inv;cases r with|lst ha' R=>exact(_,_,rfl,.inl<|SqL.of<|f.live _ _ ha',R)
   ·obtain⟨_,_,rfl,r,t⟩:=j.inv
    next=>cases t.inv;cases r with|tup ha' R=>exact(_,_,rfl,.inr<|SqT.of<|f.live _ _ ha',R)
  subst E;have n:=R.length;rw[AK]at n;refine(a,u,rs,rfl,S,by lia,N8 f.live R,λl s A o L=>?_);have x:Reps K d (s.map (·.1)) ((s.map (·.2)).map rowD):=NH s λp w=>by
   have v:=A.mem_iff.mp w;refine OB R (p.1,rowD p.2) ?_;obtain⟨i,I⟩:=Cv.mp v;rw[EN]at I;refine Cv.mpr (i,?_);rw[EN,AZ,I.2];exact(I.1,rfl)
  have P:(s.map (·.2)).Perm rs:=by
   have:=A.map (·.2);rw[Fw (by lia)]at this;exact this
  obtain⟨y,D⟩:=f.fresh (od:=.lst ((s.map (·.2)).map rowD)) L (show OwnRep K d (.lst<|s.map (·.1)) (.lst ((s.map (·.2)).map rowD)) from x);exact c l _ d _ U1 y z D<|p _ P o
end
open PySem.W (KdlSrc)
def DAt (h:Heap) (a:Addr) (es:Array DictEntry) (ep:Nat):Prop:=∃o,h.get? a=some o/\o.ExactDict/\o.data=.dict es ep
section
variable {prog:Program}{w:World}{A:Around}{E:AX}{s:Shared}{d:Addr}{es:Array DictEntry}{ep:Nat}
theorem DAt.type (x:DAt s.heap d es ep):s.TypeIs (.ref d) "dict":=let ⟨o,ho,hc,_⟩:=x; (o,ho,hc.1)
theorem DAt.but (x:DAt h d es ep) (hs:Heap.ExtBut b h h') (hab:d≠b):DAt h' d es ep:=let ⟨o,ho,r⟩:=x; (o,hs d o hab ho,r)
theorem DAt.lt (x:DAt h d es ep):d<h.objs.size:=let ⟨_,ho,_⟩:=x; Al ho
theorem WH (hd:(d == sysModules)=false) (hm:DAt s.heap d es ep)
  (hQ:Q (.ref s.heap.objs.size) { s with heap:=s.heap.push { cls:=.type "dict_keyiterator",data:=.fields #[.ref d,.int 0 0,.int es.size 0,.int ep 0] } }):wpAny (model prog w) A (pyIter (.ref d)) Q E s:=by
 obtain⟨o,h,c,t⟩:=id hm;have T:=hm.type;refine wpAny_pyIter_slot T F.slot_dict_iter<|wpAny_call_entry F.slot_dict_iter T F.entry_dict_iter ?_<|F.args_dict_iter_1 _;unfold Builtin.«dict.__iter__»;refine AA ?_;unfold Builtin.Dict.dictSlotNone;refine AA<|wpAny_notOrdered_dict T<|AH ?_;show wpAny _ _ (Builtin.Dict.showsAll d >>= _) _ _ s;unfold Builtin.Dict.showsAll;rw[AB (by rw[hd];exact BR)];refine AA<|AH<|AA<|wpAny_dictEntries h t<|AA<|wpAny_dictEpoch h t ?_;refine AA<|wpAny_newObj_type<|AH (_,rfl,"dict_keyiterator",_,(_,BP _ rfl,rfl),F.slot_dict_keyiterator_next.lookup,?_);simpa [rawInt] using hQ
theorem V7 (hit:s.heap.IsKeyIter it d i es.size ep) (hm:DAt s.heap d es ep) (hx:es[i]?=some e)
  (hQ:∀h',h'.IsKeyIter it d (i+1) es.size ep->Heap.SameBut it s.heap h' -> Q (some e.key) { s with heap:=h' }):wpAny (model prog w) A (pyNext (.ref it)) Q E s:=by
 obtain⟨o,O,c,H⟩:=id hit;obtain⟨a,D,C,h⟩:=id hm;unfold pyNext;refine AA<|Ep<|wpAny_callSpecial?_slot (name:=Str.ofString "__next__") hit.typeIs F.slot_dict_keyiterator_next<|wpAny_call_entry F.slot_dict_keyiterator_next hit.typeIs F.entry_dict_keyiterator_next ?_<|F.args_dict_keyiterator_next_1 _;refine AA<|AH<|AA<|AA ?_
 first|refine AA (wpAny_typeNameOfWhole_keyiter hit.typeIs<|AH ?_)|refine AA<|wpAny_typeNameOf_keyiter hit.typeIs<|AH ?_
 refine AA<|wpAny_fieldsOf O H ?_;have n:Builtin.Dict_items.ownsTuple "dict_keyiterator" = false:=by decide
 simp only[n,Av,if_false];show wpAny _ _ (if (Value.ref d == Value.none)=true then _ else _) _ _ s;rw[AB (show ¬ ((Value.ref d == Value.none)=true) from BR)];refine AA<|AH<|AA<|wpAny_dictEntries D h ?_;rw[AB (by simp)];refine AA<|AH<|AA<|wpAny_dictEpoch D h ?_;rw[AB (by simp)];refine AH ?_;simp only[show ¬ ((i:Int)<0) from by lia,if_false,Bi,hx];refine AA ?_
 first|refine AA (wpAny_typeNameOfWhole_keyiter hit.typeIs<|AH ?_)|refine AA<|wpAny_typeNameOf_keyiter hit.typeIs<|AH ?_
 refine AA<|wpAny_isOneOf_keyiter hit.typeIs ?_;show wpAny _ _ (setField (.ref it) 1 (rawInt ((i:Int)+1)) >>= _) _ _ s;refine AA<|wpAny_setField O H (by simp) ?_;have t:(s.heap.update it<|Obj.mapFields (·.setIfInBounds 1 (rawInt ((i:Int)+1)))).IsKeyIter it d (i+1) es.size ep:=
  (_,EM _ O<|Obj.isFreed_of_fields<|Obj.data_mapFields H _,(Obj.cls_mapFields ..).trans c,by rw[Obj.data_mapFields H];simp[rawInt])
 refine AA<|Bq ?_;refine AA<|wpAny_isOneOf_keyiter (s:={ s with heap:=s.heap.update it (Obj.mapFields (·.setIfInBounds 1 (rawInt ((i:Int)+1)))) }) t.typeIs ?_;show wpAny _ _ (pure e.key) _ _ _;exact AH<|AH (_,rfl,AH<|hQ _ t<|Heap.SameBut.update ..)
theorem Zym (hh:A.handled=none) (hit:s.heap.IsKeyIter it d i es.size ep) (hm:DAt s.heap d es ep) (hge:es.size<=i)
  (hQ:∀h',Heap.ExtBut it s.heap h' -> Q none { s with heap:=h' }):wpAny (model prog w) A (pyNext (.ref it)) Q E s:=by
 obtain⟨o,O,C,H⟩:=id hit;obtain⟨e,D,c,h⟩:=id hm;unfold pyNext;refine AA<|Ep<|wpAny_callSpecial?_slot (name:=Str.ofString "__next__") hit.typeIs F.slot_dict_keyiterator_next<|wpAny_call_entry F.slot_dict_keyiterator_next hit.typeIs F.entry_dict_keyiterator_next ?_<|F.args_dict_keyiterator_next_1 _;refine AA<|AH<|AA<|AA ?_
 first|refine AA (wpAny_typeNameOfWhole_keyiter hit.typeIs<|AH ?_)|refine AA<|wpAny_typeNameOf_keyiter hit.typeIs<|AH ?_
 refine AA<|wpAny_fieldsOf O H ?_;have n:Builtin.Dict_items.ownsTuple "dict_keyiterator" = false:=by decide
 simp only[n,Av,if_false];show wpAny _ _ (if (Value.ref d == Value.none)=true then _ else _) _ _ s;rw[AB (show ¬ ((Value.ref d == Value.none)=true) from BR)];refine AA<|AH<|AA<|wpAny_dictEntries D h ?_;rw[AB (by simp)];refine AA<|AH<|AA<|wpAny_dictEpoch D h ?_;rw[AB (by simp)];refine AH ?_;simp only[show ¬ ((i:Int)<0) from by lia,if_false,Bi,Array.getElem?_eq_none hge];refine AA ?_
 first|refine AA (wpAny_typeNameOfWhole_keyiter hit.typeIs<|AH ?_)|refine AA<|wpAny_typeNameOf_keyiter hit.typeIs<|AH ?_
 show wpAny _ _ (setField (.ref it) 0 .none >>= _) _ _ s;refine AA<|wpAny_setField O H (by simp) ?_;show wpAny _ _ (newExc (.type "StopIteration") [] >>= _) _ _ _;refine AA ?_;simp only[newExc,newTuple];refine AA<|wpAny_newObj_type ?_ (by size_fits);refine AA (m:=firstArgMember _ _)<|wpAny_of_eq (a:=Value.none) (by first|rfl|(simp only[firstArgMember];rfl)) ?_;refine wpAny_newObj_type ?_ (by size_fits);simp only[raiseNew];refine AA<|wpAny_handled ?_;rw[show A.in1.handled=none from hh];refine AA<|AH<|wpAny_throw ?_;refine AA<|wpAny_isInstance (T:="StopIteration") (b:=true) (_,BP _ rfl,rfl) isSubtype_stop ?_;exact AH<|hQ _ (((Heap.SameBut.update ..).extBut.push _).push _)
theorem VC (hh:A.handled=none) (I d:Addr) (hne:d≠I):Walks prog w A I [I,d] [I] es.size (λi v=>∃e,es[i]?=some e/\e.key=v) (λi h=>h.IsKeyIter I d i es.size ep/\DAt h d es ep) where
 sub:=λb B=>by simp at B;simp[B]
 frame:=λ_ _ _ t k=>(t.1.at λo e=>k I (by simp) o e,(λx=>let ⟨o,ho,r⟩:=x; (o,k d (by simp) o ho,r):∀_:DAt _ d es ep,_) t.2)
 item:=λi s Q E f t H=>by
  have X:es[i]?=some es[i]:=getElem?_pos es i f;refine V7 t.1 t.2 X λa T S=>?_;exact H es[i].key a s.toks (_,X,rfl) (T,t.2.but S.extBut hne) λb o B e=>S.extBut b o (λh=>B (by simp[h])) e
 done:=λs Q E t H=>Zym hh t.1 t.2 (AS _) λa c=>H a s.toks λb o B e=>c b o (λh=>B (by simp[h])) e
 self:=λ_ _ _ _ t H=>wpAny_pyIter_keyiter t.1 H
theorem Wm (lo:(d == sysModules)=false):KdlSrc prog w "dict" d d es.size (λi v=>∃e,es[i]?=some e/\e.key=v) (λh=>DAt h d es ep) where
 type:=λ_ m=>m.type
 there:=λ_ m=>(m.lt,m.lt)
 keep:=λ_ _ m k=>let ⟨o,ho,r⟩:=m; (o,k d (.inl rfl) o ho,r)
 notList:=by decide
 notTuple:=by decide
 hint:=λ_ _ _ _ m q=>PySem.W.kdl_hint_dict m.type q
 iter:=λA s H m=>(_,_,(λ_ _ q=>WH lo m q),VC H _ d<|As m.lt,((_,BP _ rfl,rfl,rfl),let ⟨o,ho,r⟩:=m; (o,Au _ ho,r)))
theorem Qp {ks:Aa}{Q:AX}(hh:A.handled=none) (lo:(d == sysModules)=false) (hD:DAt s.heap d es ep) (hp:Paired (RowAt s.heap) (es.toList.map (·.key)) ks) (hne:∀r∈ks,r≠[]) (hl:ks.length<128)
  (h:∀(h1 h':Heap) (tk:Nat) (out:List Value) (c:Nat),(∀b o,s.heap.get? b=some o->h1.get? b=some o)->(∀b o,h1.get? b=some o->h'.get? b=some o)->h'.get? h1.objs.size=some (seqObj "list" out.toArray c)->out.Perm (es.toList.map (·.key))->Sortd (rowKey s.heap) out->Q (.ref h1.objs.size) { s with heap:=h',toks:=tk }) :
  wpAny (model prog w) A (call (.builtin "sorted") [.ref d]) Q E s:=by
 have S:es.size=ks.length:=by have:=Paired.len hp;rw[AK,Array.length_toList]at this;exact this
 refine Calls.call_function_entry kind_sorted plain_sorted entry_sorted (args_sorted1 _) ?_;unfold Builtin.«sorted»;refine AA (m:=checkCount "sorted" 1 1 _)<|AH ?_;refine AA (PySem.W.kdu_collect (A:=A.in1) (Wm (es:=es) (ep:=ep) lo) hh hD (by rw[sizeLine_eq];lia) λh' tk C K f=>?_);have V:C.toList=es.toList.map (·.key):=by
  apply DR;intro i;rw[AZ,Array.getElem?_toList,Array.getElem?_toList];by_cases hi:i<C.size
  ·obtain⟨e,G,I⟩:=f.2 i C[i] (getElem?_pos C i hi)
   rw[G,getElem?_pos C i hi,<- I];rfl
  ·rw[Array.getElem?_eq_none (by lia),Array.getElem?_eq_none (by have:=f.1;lia)];rfl
 rw[V];have n:(es.toList.map (·.key)).length=ks.length:=by rw[AK,Array.length_toList,S]
 refine AA<|wpAny_newList ?_ (by rw[sizeLine_eq];lia);have L:(h'.push<|seqObj "list" (es.toList.map (·.key)).toArray 0).get? h'.objs.size=some (seqObj "list" (es.toList.map (·.key)).toArray 0):=BP _ rfl;have p:∀H,KeepBut h'.objs.size (h'.push<|seqObj "list" (es.toList.map (·.key)).toArray 0) H -> ∀b o,s.heap.get? b=some o->H.get? b=some o:=λH k b o q=>by
  have j:=K b o q;exact k b o (As<|Al j)<|Au _ j
 have P:∀H,(∀b o,s.heap.get? b=some o->H.get? b=some o)->∀x∈es.toList.map (·.key),∃a,RowAt H x a/\keyD (rowKey s.heap) x=a:=λH k x X=>by
  obtain⟨a,_,g⟩:=Paired.mem hp x X;refine(a,g.keep k,?_);unfold keyD;rw[GF g];rfl
 refine AA<|Bq<|wpAny_call_entry slot_list_sort (_,L,rfl) entry_list_sort (Mj (kd:=tuples' true) (κ:=rowKey s.heap) L (by lia) (λN H k Q q=>?_) (λH k x X y Y E Q q=>?_) λout O M=>(_,rfl,?_))<|args_list_sort _
 ·exact M5 (Paired.up (λv r z=>z.keep<|p H k) hp) hne (by intro z;rw[z,DE]at n;lia) q
 ·obtain⟨a,t,u⟩:=P H (p H k) x X
  obtain⟨c,D,F⟩:=P H (p H k) y Y;rw[u,F]at q;exact Nw t D q
 ·obtain⟨c,J⟩:=sortedHeap_at (out:=out.toArray) L
  refine AH (_,rfl,h h' _ tk out c K (λb o B=>?_) J O M);have l:=Al B;rw[sortedHeap_old (As l) (by rw[size_push'];exact Cw l)];exact Au _ B
end
def rSortKT (K:W.Frag):List V->Hp->VK->Prop:=λs H Q=>∃(p:Addr) (kvs:List (List AO × V)) (ks:Aa),s=[.ref p]/\H p=some (.dT kvs)/\kvs.map (·.1)=ks.map (λr=>r.map .inl)/\(∀r∈ks,r≠[])/\ks.length<128 /\
 ∀(l:Addr) (ps:List (V × List Int)),(∀q∈ps,∃b,q.1=.ref b/\H b=some (.tup<|q.2.map V.int))->(ps.map (·.2)).Perm ks->(ps.map (·.2)).Pairwise (λa b=>rlt b a=false)->H l=none->Q (.ref l) (upd H l (.lst<|ps.map (·.1)))
theorem PK {K:W.Frag}:∀{us:List V}{ks:Aa},Paired (λ(u:V) (r:List Int)=>∃b,u=.ref b/\H b=some (.tup<|r.map V.int)) us ks->Paired (λ(u:V) (r:List Int)=>∃a,u=.ref a/\SqT K H a (r.map V.int)) us ks
 |_,_,.nil=>.nil
 |_,_,.cons h t=>.cons (let ⟨b,e1,e2⟩:=h; (b,e1,.inl (.inl e2))) (PK t)
theorem Of:∀{us:List V}{ks:Aa}{i:Nat}{r:List Int},Paired R us ks->ks[i]?=some r->∃v,us[i]?=some v/\R v r
 |_,_,_,_,.nil,h=>by simp at h
 |_,_,0,_,.cons p _,h=>by simp at h;subst h;exact(_,rfl,p)
 |_,_,i+1,r,.cons _ t,h=>by
  obtain⟨v,H,a⟩:=Of (i:=i) (r:=r) t (by simpa using h);exact(v,by simpa using H,a)
theorem NX:∀xs:List (List AO × Addr × Value),Vals (xs.map λx=>V.ref x.2.1) (xs.map λx=>Value.ref x.2.1)
 |[]=>.nil
 |_::xs=>.cons rfl (NX xs)
theorem M7 {K:W.Frag}:∀{vs:List (List AO × V)}{kvs:List (List AO × D)},Paired (λ(p:List AO × V) (q:List AO × D)=>p.1=q.1/\AY K G p.2 q.2) vs kvs->vs.map (·.1)=kvs.map (·.1)
 |_,_,.nil=>rfl
 |_,_,.cons h t=>by rw[BX,BX,M7 t,h.1]
theorem NA {H:Hp}:∀{kvs:List (List AO × V)}{xs:List (List AO × Addr × Value)}{ks:Aa},Paired (λ(p:List AO × V) (q:List AO × Addr × Value)=>p.1=q.1/\H q.2.1=some (.tup<|p.1.map kV)/\RelV p.2 q.2.2) kvs xs->kvs.map (·.1)=ks.map (λr=>r.map .inl) ->
  Paired (λ(u:V) (r:List Int)=>∃b,u=.ref b/\H b=some (.tup<|r.map V.int)) (xs.map λx=>V.ref x.2.1) ks
 |_,_,[],.nil,_=>.nil
 |_,_,_::_,.nil,e=>by cases e
 |_,_,[],.cons _ _,e=>by cases e
 |_,_,r::ks,.cons (a:=p) (b:=q) h t,e=>by
  have E:p.1=r.map .inl:=(EA.inj e).1;refine .cons (_,rfl,?_)<|NA t (EA.inj e).2;rw[h.2.1,E,Nf]
section
variable {X:Cx}
theorem sortKTK (K:W.Frag) (hc:X.calm=true) (hK:X.K=K:=by rfl):CallR X (.builtin "sorted") (rSortKT K):=by
 subst hK;intro pins s Z H zs us Q I r h;obtain⟨p,B,y,rfl,hp,l,n,hl,q⟩:=h;obtain⟨u,rfl,ru⟩:=vals1 r;cases (show u=Value.ref p from ru);obtain⟨_,lo,f,pr,o,Y,ep,ho,hx,hd,he,_⟩:=(show ObjOk X.prog X.w H s.heap p (.dT B) from I.hok p _ hp);have J:=NA pr l;have E:Y.toList.map (·.key)=f.map λx=>Value.ref x.2.1:=by rw[he,A5];rfl
 have N:=NX f;have k:Paired (λ(u:V) (r:List Int)=>∃a,u=.ref a/\SqT X.K H a (r.map V.int)) (f.map λx=>V.ref x.2.1) y:=PK J;have M:=GY I N k;refine Qp (I.ok.hd hc) lo (o,ho,hx,hd) (by rw[E];exact M) n hl λF h' tk T c k1 k2 O G o2=>?_;rw[E]at G;obtain⟨S,A,U,g⟩:=Nc N k G;have D:AG X pins Z H { s with heap:=F }:=I.kept (t':=s.toks) k1;have ol:=A.length;have pl:=g.length_eq;have kl:(f.map λx=>V.ref x.2.1).length=y.length:=by have:=Paired.len M;rw[AK]at this ⊢;exact this
 have m:∀z∈S,∃b,z.1=.ref b/\H b=some (.tup<|z.2.map V.int):=λz hz=>by
  have t:=g.mem_iff.mp hz;obtain⟨i,d⟩:=Cv.mp t;rw[EN]at d;obtain⟨v,e,C⟩:=Of J d.2;rw[d.1]at e;cases e;exact C
 have P:(S.map (·.2)).Perm y:=by
  have:=g.map (·.2);rw[Fw (by lia)]at this;exact this
 have hs:(S.map (·.2)).Pairwise (λa b=>rlt b a=false):=by
  have R:=GY I A U;rw[DF];intro i j d hj hij;obtain⟨v,e,C⟩:=Paired.get2 R<|AQ d;obtain⟨u,u1,u2⟩:=Paired.get2 R<|AQ hj;obtain⟨g1,g2⟩:=BB.mp e;obtain⟨g3,g4⟩:=BB.mp u1;have:=(DF.mp o2) i j g1 g3 hij;rw[g2,g4]at this;unfold keyD at this;rw[GF C,GF u2]at this;exact this
 have L:=P.length_eq;rw[AK]at L;exact⟨.ref F.objs.size,_,D.laid (t':=tk) k2 (AS _) (show ObjOk X.prog X.w _ h' _ (.lst<|S.map (·.1)) from (by rw[AK];exact DW (small1000<|by lia),T,c,A,O)),rfl,q _ S m P hs<|D.hok.fresh<|AS _⟩
end
section
variable {K:W.Frag}{U:AI}
theorem RT {ta:TE}{n:Nat}{P:D->AI->Prop}(h:JE K ta U λd U1=>∃(x:Slot) (kvs:List (List AO × D)) (ks:Aa),U1[n]?=some x/\x.od=some (.dtt kvs)/\kvs.map (·.1)=ks.map (λr=>r.map .inl)/\(∀r∈ks,r≠[])/\ks.length<128/\isSeqD d=true/\Dp 3 d /\
   ∀ms:Aa,ms.Perm ks->ms.Pairwise (λa b=>rlt b a=false)->P (.bl (eqF 3 d (.lst (ms.map rowD)))) U1) :
  JE K (tOp (rEqD K) ta<|tCB (rSortKT K)<|tCons (tVar n) tNil) U P:=λg G H Z Q k c=>
 h g G H Z _ k λv d G1 H1 U1 k1 s1 r1 (x,kvs,ks,e1,e2,hk,hne,hl,sd,pd,p)=>by
  obtain⟨a,o,W,A,w,C,F⟩:=k1.own n x _ e1 e2;cases o with
  |dT vs=>
   have w:Paired (λ(p:List AO × V) (q:List AO × D)=>p.1=q.1/\AY K G1 p.2 q.2) vs kvs:=w;have E:vs.map (·.1)=kvs.map (·.1):=M7 w;refine(_,W,a,vs,ks,rfl,A,E.trans hk,hne,hl,λl S M i j L=>?_);have f:Same H1 (upd H1 l (.lst<|S.map (·.1))):=λb u e=>by rw[BA (Dr e L)];exact e
   have m:Ok K g G1 (upd H1 l (.lst<|S.map (·.1))) Z U1:=k1.grow (Same.refl _) f λb u e=>(f b u<|k1.live b u e,.inl e);refine⟨upd H1 l (.lst<|S.map (·.1)),d,.lst ((S.map (·.2)).map rowD),3,Same.refl _,r1.mono<|k1.live.trans f,?_,pd,?_,by lia,Lq r1 sd,(l,rfl),?_⟩
   ·refine AY.lst Bm ?_
    clear i j m;have:∀s:List (V × List Int),(∀q∈s,∃b,q.1=.ref b/\H1 b=some (.tup<|q.2.map V.int))->Reps K (upd H1 l (.lst<|S.map (·.1))) (s.map (·.1)) ((s.map (·.2)).map rowD):=λs=>by
     induction s with
     |nil=>intro _;exact .nil
     |cons q qs ih=>
      intro hq;obtain⟨b,B,t⟩:=hq q Bh;refine .cons ?_ (ih λz y=>hq z<|BQ _ y);show AY K _ q.1 (rowD q.2);rw[B];exact AY.tup (f _ _ t)<|Reps.ofInts q.2
    exact this S M
   ·intro e he
    obtain⟨r,_,rfl⟩:=Af.mp he;intro e he;obtain⟨z,_,rfl⟩:=Af.mp he
    trivial
   ·exact c _ _ G1 _ U1 m s1 (.bl _)<|p _ i j
  |_=>exact absurd w (λz=>z)
end
def rGetT1:V->List V->Hp->VK->Prop:=λx s H Q=>∃a b kvs k,x=.ref a/\s=[.ref b]/\H a=some (.dT kvs)/\H b=some (.tup<|k.map kV)/\Q ((valV kvs k).getD .non) H
section
variable {X:Cx}
theorem U0 (hu:X.A.units+1<cLine):MtM X "dict.get" rGetT1:=by
 intro pins s Z H x vs v us Q I rx rv h;obtain⟨a,b,S,k,rfl,rfl,c,B,q⟩:=h;cases rx;obtain⟨u,rfl,r⟩:=rv.one;exact Zzg hu I (DGet.t c B) r λW d i w=>(_,H,i,w,q)
end
section
variable {K:W.Frag}{U:AI}
theorem UW {P:D->AI->Prop}{n:Nat}{te:TE}{x:Slot}{kvs0:List (List AO × D)}(hx:U[n]?=some x) (ho:x.od=some (.dtt kvs0)) (h:JE K te U λe U1=>∃(y:Slot) (kvs:List (List AO × D)) (ks:List Int),U1[n]?=some y/\y.od=some (.dtt kvs)/\e=.tup (ks.map D.int)/\P ((valT kvs<|ks.map .inl).getD .non) U1) :
  JE K (tBM K "dict" rGetT1 (tVar n)<|tCons te tNil) U P:=λg G H Z Q k c=>by
 obtain⟨a,o,d,f,i,l,m⟩:=k.own n x _ hx ho;cases o with
 |dT vs0=>
  refine(.ref a,d,.inr (.inr (.inl (rfl,.inr (_,f)))),h g G H Z _ k λv e G1 H1 U1 k1 s1 r1 (y,kvs,ks,q1,q2,q3,p)=>?_);subst q3;obtain⟨b,S,rfl,B,s⟩:=r1.inv;have V:=s.ints;subst V;obtain⟨A,O,w,j,W,q,r⟩:=k1.own n y _ q1 q2;rw[d]at w;cases w;cases O with
  |dT kv=>exact(a,b,kv,ks.map .inl,rfl,rfl,j,by rw[Nf];exact k1.live _ _ B,c _ _ G1 H1 U1 k1 s1 (PL .non W) p)
  |_=>exact absurd W (λz=>z)
 |_=>exact absurd i (λz=>z)
end
open PySem PySem.Spec PyProof.Rows PySem.SeqAt
def bestR (f:Nat->List Int):Nat->Nat
 |0=>0
 |k+1=>if rlt (f (k+1)) (f (bestR f k))=true then k+1 else bestR f k
theorem OP (f:Nat->List Int):∀k,bestR f k<=k
 |0=>AS _
 |k+1=>by
  have:=OP f k;show (if rlt (f<|k+1) (f<|bestR f k)=true then k+1 else bestR f k)<=_;split <;> lia
section
variable {prog:Program}{w:World}{A:Around}{R:Result->Shared->Prop}{I:Addr}{fp wr:List Addr}{n:Nat}{P:Nat->Value->Prop}{St:Nat->Heap->Prop}
theorem Vq (W:Walks prog w A.in1 I fp wr n P St) (f:Nat->List Int) (hu:A.units+2<cLine) (S:Addr) (hSf:S ∉ fp) (kw:List (Str × Value)) (OK:Heap->Prop) (hOK:∀h h',OK h->(∀b o,b ∉ wr->b≠S->h.get? b=some o->h'.get? b=some o)->OK h') (hP:∀h i v,OK h->P i v->RowAt h v (f i)) :
  ∀(k j:Nat) (s:Shared) (vb:Value) (c:Nat),n-(j+1)=k->j+1<=n->St (j+1) s.heap->OK s.heap->P (bestR f j) vb ->
  s.heap.get? S=some { cls:=.type "list",dict:=none,data:=.seq #[vb,vb] c,slots:=#[] } ->
  (∀v h' tk,P (bestR f<|n-1) v->(∀b o,b ∉ wr->b≠S->s.heap.get? b=some o->h'.get? b=some o)->R (.ok (.ret v)) { s with heap:=h',toks:=tk }) ->
  codeAny (model prog w) A (.builtin "min.loop" ([.ref I,.none,.ref S],kw)) R s:=by
 have q:S ∉ wr:=λh=>hSf<|W.sub _ h;have m:(toString "min" ++ toString ".loop":String) = "min.loop":=by decide
 intro k
 induction k with
 |zero=>
  intro j s vb c hk hj hst hok hPb hS hR;have N:j+1=n:=by lia
  refine codeAny_builtin F.entry_min_loop ((Around.under_plainId F.plain_min_loop _) ▸ (show wpAny _ A.in1 (seqItems? (.ref S) >>= _) _ _ s from AA (wpAny_seqItems hS rfl (show wpAny _ A.in1 (tryCatch (pyNext (.ref I)) _ >>= _) _ _ s from AA (Gn (W.done s _ _ (N ▸ hst) λh' tk K=>?_))))));have a:=K S _ q hS;refine(show wpAny _ A.in1 (updateSeq S (λ_=>#[]) >>= _) _ _ _ from AA (wpAny_updateSeq a rfl<|AA<|wpAny_letGo<|AH ?_));exact hR vb _ tk (by rw[<- N];exact hPb) λb o H B e=>(EK _ _<|Ne.symm B).trans (K b o H e)
 |succ k ih=>
  intro j s vb c hk hj hst hok hPb hS hR;have l:j+1<n:=by omega
  refine codeAny_builtin F.entry_min_loop ((Around.under_plainId F.plain_min_loop _) ▸ (show wpAny _ A.in1 (seqItems? (.ref S) >>= _) _ _ s from AA (wpAny_seqItems hS rfl (show wpAny _ A.in1 (tryCatch (pyNext (.ref I)) _ >>= _) _ _ s from AA (Gn (W.item (j+1) s _ _ l hst λv h' tk V T K=>?_))))));have a:=K S _ q hS;have O:OK h':=hOK _ _ hok λb o r _ e=>K b o r e;refine(show wpAny _ A.in1 (tryCatch (holding [v,v] (richCompare .Lt v vb >>= _)) _ >>= _) _ _ _ from AA (Gn<|Bq<|AA<|P9 (by show A.units+1<cLine;lia) (hP _ _ _ O V) (hP _ _ _ O hPb) ?_));refine AA<|Bq<|wpAny_truthy_bool<|AA<|wpAny_letGo<|AH ?_;cases r:rlt (f<|j+1) (f<|bestR f j) with
  |true=>
   simp only[if_true];refine AA<|wpAny_updateSeq a rfl<|AA<|wpAny_letGo ?_;rw[m];have U:∀b o,b≠S->h'.get? b=some o->(h'.update S (Obj.mapSeq λ_=>#[v,v])).get? b=some o:=λb o B e=>(EK _ _<|Ne.symm B).trans e;refine AH (plainId_quiet F.plain_min_loop _,ih (j+1) _ v _ (by omega) l (W.frame _ _ _ T λb u o e=>U b o (λh:b=S=>hSf (by rw[<- h];exact u)) e) (hOK _ _ O λb o _ B e=>U b o B e) ?_ (EM _ a rfl) λx g t p d=>hR x g t p λb o H B e=>d b o H B<|U b o B<|K b o H e);show P (if rlt (f<|j+1) (f<|bestR f j)=true then j+1 else bestR f j) v;rw[AD r];exact V
  |false=>
   simp only[Av,if_false];refine AA<|wpAny_letGo ?_;rw[m];refine AH (plainId_quiet F.plain_min_loop _,ih (j+1) _ vb c (by omega) l T O ?_ a λx g t p d=>hR x g t p λb o H B e=>d b o H B<|K b o H e);show P (if rlt (f<|j+1) (f<|bestR f j)=true then j+1 else bestR f j) vb;rw[AB (by rw[r];decide)];exact hPb
end
section
variable {prog:Program}{w:World}{A:Around}{E:AX}{s:Shared}
theorem Q1 {l:Addr}{vs:List Value}{cs:Aa}{Q:AX}(hh:A.handled=none) (hu:A.units+2<cLine) (hl:s.heap.IsList l vs.toArray) (hc:Paired (RowAt s.heap) vs cs) (hn0:0<cs.length)
  (q:∀(v:Value) (h':Heap) (tk:Nat),vs[bestR (λi=>cs.getD i []) (cs.length-1)]?=some v->(∀b o,s.heap.get? b=some o->h'.get? b=some o)->Q v { s with heap:=h',toks:=tk }) :
  wpAny (model prog w) A (call (.builtin "min") [.ref l]) Q E s:=by
 have m:(toString "min" ++ toString ".loop":String) = "min.loop":=by decide
 have n:vs.length=cs.length:=Paired.length hc;obtain⟨ol,O,_⟩:=id hl;have L:l<s.heap.objs.size:=Al O;refine call_function_tree F.kind_min F.plain_min F.entry_min (F.args_min1 _) ?_;show wpAny _ A.in1 (Builtin.Builtins.bindParams "min" ["key","default"] 0 ([],[]) >>= _) _ _ s;refine AA<|wpAny_of_eq (show Builtin.Builtins.bindParams "min" ["key","default"] 0 ([],[])=pure [none,none] from rfl) ?_;refine AA<|AH<|AA<|wpAny_pyIter_list hl<|AA<|wpAny_newList ?_<|BZ _;rw[m];generalize hI:s.heap.objs.size=I at *;generalize hH:(s.heap.push { cls:=.type "list_iterator",data:=.fields #[.ref l,.int 0 0] })=H1;have g:∀b o,s.heap.get? b=some o->H1.get? b=some o:=λb o e=>by rw[<- hH];exact Au _ e
 have J:H1.get? I=some { cls:=.type "list_iterator",data:=.fields #[.ref l,.int 0 0] }:=by rw[<- hH,<- hI];exact BP _ rfl
 have S:I<H1.objs.size:=Al J;have y:l≠I:=As L;have W:=Walks.list (prog:=prog) (w:=w) (A:=A.in1) hh I l y vs.toArray;have Z:vs.toArray.size=vs.length:=Az ..;have f:H1.objs.size ∉ [I,l]:=by
  simp only[Ar,FN,or_false,not_or];exact(E2 S,E2<|IK L S)
 have H:∀b o,s.heap.get? b=some o->(H1.push<|seqObj "list" #[] 0).get? b=some o:=λb o e=>Au _<|g b o e;have M:(H1.push<|seqObj "list" #[] 0).get? H1.objs.size=some (seqObj "list" #[] 0):=BP _ rfl;have T:(H1.push<|seqObj "list" #[] 0).IsListIter I l 0/\(H1.push<|seqObj "list" #[] 0).IsList l vs.toArray:=((_,Au _ J,rfl,rfl),by obtain⟨o,X,r⟩:=hl;exact(o,H _ _ X,r));refine AH (plainId_quiet F.plain_min_loop _,?_);refine codeAny_builtin F.entry_min_loop ((Around.under_plainId F.plain_min_loop _) ▸ (show wpAny _ A.in1 (seqItems? (.ref H1.objs.size) >>= _) _ _ _ from AA (wpAny_seqItems M rfl (show wpAny _ A.in1 (tryCatch (pyNext (.ref I)) _ >>= _) _ _ _ from ?_))));refine AA<|Gn (W.item 0 _ _ _ (by rw[Z];lia) T λv h' tk V t K=>?_);have a:=K H1.objs.size _ (by simp only[Bc];exact E2 S) M;have d:∀b o,s.heap.get? b=some o->b≠I/\b≠H1.objs.size:=λb o e=>by
  have:=Al e;rw[hI]at this;exact(As this,As (IK this S))
 have R:∀b o,s.heap.get? b=some o->h'.get? b=some o:=λb o e=>K b o (by simp only[Bc];exact(d b o e).1)<|H b o e;refine(show wpAny _ A.in1 (updateSeq H1.objs.size (λ_=>#[v,v]) >>= _) _ _ _ from AA (wpAny_updateSeq a rfl ?_));rw[m];have U:∀b o,b≠H1.objs.size->h'.get? b=some o->(h'.update H1.objs.size (Obj.mapSeq λ_=>#[v,v])).get? b=some o:=λb o B e=>(EK _ _<|Ne.symm B).trans e;refine AH (plainId_quiet F.plain_min_loop _,Vq W (λi=>cs.getD i []) hu H1.objs.size f _ (λh=>∀b o,s.heap.get? b=some o->h.get? b=some o) (λh N D k b o e=>k b o (by simp only[Bc];exact(d b o e).1) (d b o e).2 (D b o e)) (λh i u D p=>?_) _ 0 _ v _ rfl (by rw[Z];lia) (W.frame _ _ _ t λb j o e=>U b o (λz=>f (by rw[<- z];exact j)) e) (λb o e=>U b o (d b o e).2 (R b o e)) V (EM _ a rfl) λu N G P Y=>?_)
 ·have p:vs[i]?=some u:=by simpa using p
  obtain⟨c,C,x⟩:=Paired.getC hc p;have:cs.getD i []=c:=by rw[Ao,C];rfl
  rw[this];exact x.keep D
 ·rw[Z,n]at P
  refine q u N G (by simpa using P) λb o e=>Y b o (by simp only[Bc];exact(d b o e).1) (d b o e).2 (U b o (d b o e).2 (R b o e))
end
theorem M0 (h:Heap) (f:Nat->List Int):∀k j,j<=k->rlt (f j) (f<|bestR f k)=false
 |0,j,hj=>by
  obtain rfl:j=0:=by lia
  exact(rowKey h).irrefl (f 0)
 |k+1,j,hj=>by
  have i:=M0 h f k;show rlt (f j) (f (if rlt (f<|k+1) (f<|bestR f k)=true then k+1 else bestR f k))=false;by_cases c:rlt (f<|k+1) (f<|bestR f k)=true
  ·rw[AD c]
   rcases Dk j (k+1) with z|z
   ·exact KeyOrd.kle_trans (O:=(rowKey h).toKeyOrd) (KeyOrd.kle_of_klt c) (i j<|by lia)
   ·obtain rfl:j=k+1:=by lia
    exact(rowKey h).irrefl _
  ·rw[AB c]
   rcases Dk j (k+1) with z|z
   ·exact i j (by omega)
   ·obtain rfl:j=k+1:=by omega
    simpa using c
def rMinR (K:W.Frag):List V->Hp->VK->Prop:=λs H Q=>∃(p:Addr) (ys:List V) (rs:Aa),s=[.ref p]/\SqL K H p ys/\Paired (RowV K H) ys rs/\0<rs.length/\∀(i:Nat) y r,ys[i]?=some y->rs[i]?=some r->(∀r'∈rs,rlt r' r=false)->Q y H
section
variable {X:Cx}
theorem minRK (K:W.Frag) (hc:X.calm=true) (hu:X.A.units+8<cLine) (hK:X.K=K:=by rfl):CallR X (.builtin "min") (rMinR K):=by
 subst hK;intro pins s Z H zs us Q I r h;obtain⟨p,y,S,rfl,f,d,c,q⟩:=h;obtain⟨u,rfl,U⟩:=vals1 r;cases (show u=Value.ref p from U);obtain⟨t,w,l⟩:=I.seqB (b:=false) f;have P:=GY I w d;have n:=Paired.len P;have B:=w.length;refine Q1 (I.ok.hd hc) (by lia) l P c λv m T V k=>?_;have L:=OP (λi=>S.getD i [])<|S.length-1;have a:bestR (λi=>S.getD i []) (S.length-1)<S.length:=by lia
 obtain⟨z,e,E⟩:=w.get (i:=bestR (λi=>S.getD i [])<|S.length-1) (x:=y[bestR (λi=>S.getD i []) (S.length-1)]'(by lia))<|AQ _;rw[V]at e;cases e;refine(_,H,I.kept k,E,q _ _ _ (AQ _) (AQ a) λo R=>?_);obtain⟨j,J,rfl⟩:=Gx.mp R;have:=M0 s.heap (λi=>S.getD i []) (S.length-1) j (by lia);have g:S.getD j []=S[j]:=by rw[Ao,AQ J];rfl
 have G:S.getD (bestR (λi=>S.getD i [])<|S.length-1) []=S[bestR (λi=>S.getD i []) (S.length-1)]:=by rw[Ao,AQ a];rfl
 show rlt S[j] S[bestR (λi=>S.getD i []) (S.length-1)]=false;rw[<- g,<- G];exact this
end
section
variable {K:W.Frag}{U:AI}
theorem VJ {rs:Aa}(hm:r∈rs) (hle:∀r'∈rs,rlt r' r=false) (p:P (rowD r) U):JC K (rMinR K) [.lst (rs.map rowD)] U P:=λg G H Z Q m k f c=>by
 obtain⟨_,_,rfl,b,t⟩:=f.inv;cases t.inv;obtain⟨a,S,rfl,A,s⟩:=b.inv;refine(a,S,rs,rfl,SqL.of<|k.live _ _ A,LL k.live s,FL hm,λi y R Y h l=>?_);have e:R=r:=Jd _ _ (hle R<|Bk h)<|l r hm;subst e;obtain⟨v,V,j⟩:=s.get (i:=i) (d:=rowD R) (by rw[AZ,h];rfl);rw[Y]at V;cases V;exact c _ _ G H U k (Same.refl _) j p
end
end L2
set_option Elab.async false
set_option linter.all false
set_option maxRecDepth 100000
set_option maxHeartbeats 4000000
namespace Lw
open PySem L2
def top (i:Nat):Stmt:=PySem.Challenge.pw_holefloor_k21_whole_lack.main.body.getD i (.Pass (0,0,0,0))
abbrev Kh:Stmt:=top 1
abbrev F5:Stmt:=top 2
abbrev KW:Stmt:=top 4
abbrev KY:Stmt:=top 5
abbrev KZ:Stmt:=top 7
abbrev Ka:Stmt:=top 9
abbrev Kb:Stmt:=top 10
abbrev Kc:Stmt:=top 11
abbrev Kd:Stmt:=top 12
abbrev IZ:Stmt:=top 13
abbrev Ke:Stmt:=top 14
abbrev Ic:Stmt:=top 16
abbrev Kf:Stmt:=top 17
abbrev Kg:Stmt:=top 18
abbrev F6:Stmt:=top 19
abbrev Ki:Stmt:=top 20
abbrev HC:Stmt:=top 21
abbrev Kj:Stmt:=top 22
abbrev Kk:Stmt:=top 23
abbrev HD:Stmt:=top 24
abbrev HE:Stmt:=top 25
abbrev Ie:Stmt:=top 26
abbrev Kl:Stmt:=top 27
abbrev Ig:Stmt:=top 28
abbrev Km:Stmt:=top 29
abbrev HF:Stmt:=top 30
abbrev HG:Stmt:=top 31
abbrev F7:Stmt:=top 32
local macro_rules | `(tactic| walk_at "sc")=>`(tactic| exact (rfl,rfl,rfl,by decide +kernel,rfl,by decide +kernel,by decide +kernel))
theorem QX:FnScope ["web","end"] ["web","end"] (defScope Kh):=by walk_at "sc"
theorem EZ:FnScope ["web","many","ties","firsts","a","b","low","high"] ["web"] (defScope F5):=by walk_at "sc"
theorem Ma:FnScope ["web","order","end","row"] ["web","order","end"] (defScope KW):=by walk_at "sc"
theorem Mc:FnScope ["web","order","end","row"] ["web","order","end"] (defScope KY):=by walk_at "sc"
theorem Kn:FnScope ["web","faces_many","many","ties"] ["web","faces_many"] (defScope KZ):=by walk_at "sc"
theorem Md:FnScope ["web","order","crossings","state","partner"] ["web","order","crossings","state"] (defScope Ka):=by walk_at "sc"
theorem QY:FnScope ["web","crossings","state"] ["web","crossings","state"] (defScope Kb):=by walk_at "sc"
theorem Ko:FnScope ["crossings","state","end","hand"] ["crossings","state"] (defScope Kc):=by walk_at "sc"
theorem Ih:FnScope ["web","order","crossings","state","come_through","come"] ["web","order","crossings","state"] (defScope Kd):=by walk_at "sc"
theorem F8:FnScope ["web","order","crossings","told","gone","end","face","state"] ["web","order","crossings"] (defScope IZ):=by walk_at "sc"
theorem QZ:FnScope ["web","order","crossings"] ["web","order","crossings"] (defScope Ke):=by walk_at "sc"
theorem Qa:FnScope ["_law_script"] ["_law_script"] (defScope Ic):=by walk_at "sc"
theorem FV:FnScope ["_law_pen_here","_law_many","_law_digit","_law_at","_law_cell","_law_number"] ["_law_pen_here","_law_many"] (defScope Kf):=by walk_at "sc"
theorem DG:FnScope ["_law_pen_here","_law_places","_law_ties","_law_many","_law_way","_law_count","_law_found","_law_k","_law_a","_law_b"] ["_law_pen_here","_law_places","_law_ties"] (defScope Kg):=by walk_at "sc"
theorem Ii:FnScope ["_law_pen_here","_law_web_here","_law_rows","_law_k","_law_row_here","!0","!1","!2","!3","!4","!5","!6","!7","!8","!9","!10","!11","!12","!13","!14","!15","!16","!17","!18","!19","!20","!21","!22","!23","!24"] ["_law_pen_here","_law_web_here"] (defScope F6):=by walk_at "sc"
theorem Qb:FnScope ["_law_end"] ["_law_end"] (defScope Ki):=by walk_at "sc"
theorem F9:FnScope ["_law_web_here","_law_marks","_law_a","_law_b","_law_low","_law_high","_law_place"] ["_law_web_here"] (defScope HC):=by walk_at "sc"
theorem Qc:FnScope ["_law_found"] ["_law_found"] (defScope Kj):=by walk_at "sc"
theorem Kp:FnScope ["_law_pen_here","_law_things","_law_found","_law_thing"] ["_law_pen_here","_law_things"] (defScope Kk):=by walk_at "sc"
theorem E3:FnScope ["_law_pen_here","_law_many","_law_ties","_law_turn","_law_web_here","_law_names"] ["_law_pen_here"] (defScope HD):=by walk_at "sc"
theorem Ij:FnScope ["_law_pen_here","_law_web_here","_law_way","_law_found"] ["_law_pen_here","_law_web_here"] (defScope HE):=by walk_at "sc"
theorem Qd:FnScope ["_law_found"] ["_law_found"] (defScope Ie):=by walk_at "sc"
theorem Ik:FnScope ["_law_order_here","_law_behind_here","_law_row_here","_law_k"] ["_law_order_here"] (defScope Kl):=by walk_at "sc"
theorem Qe:FnScope ["_law_order_here"] ["_law_order_here"] (defScope Ig):=by walk_at "sc"
theorem FW:FnScope ["_law_order_here","_law_crossings_here","_law_behind_here","_law_ahead","_law_steps_here","_law_end","_law_other","_law_hand"] ["_law_order_here","_law_crossings_here"] (defScope Km):=by walk_at "sc"
theorem Me:FnScope ["_law_told_here","_law_face"] ["_law_told_here"] (defScope HF):=by walk_at "sc"
theorem EC:FnScope ["_law_order_here","_law_crossings_here","_law_told_here","_law_steps_here","_law_met","_law_face","_law_both","_law_k","_law_end","_law_hand","_law_first","_law_lone"] ["_law_order_here","_law_crossings_here","_law_told_here"] (defScope HG):=by walk_at "sc"
theorem Ea:FnScope ["_law_script","_law_pen_here","_law_web_here","_law_order_here","_law_crossings_here","_law_told_here","_law_found","_law_many"] ["_law_script"] (defScope F7):=by walk_at "sc"
def Mb (mg:Str->Option Value):Prop:=∀x∈["abs","all","bool","int","isinstance","len","list","max","min","range","set","sorted","tuple"],mg x=none
local macro_rules | `(tactic| walk_at "js")=>`(tactic| first
 |with_reducible refine Ah (t:=tAsg _ _) ?_
 |with_reducible refine Ah (t:=tPar _ _ _) ?_
 |with_reducible refine Ah (t:=tDrop _) ?_
 |with_reducible refine iteF ?_
 |with_reducible refine iteT ?_
 |with_reducible refine B3 ?_
 |with_reducible refine Bz ?_
 |with_reducible refine CH ?_
 |with_reducible refine JX ?_
 |with_reducible refine BE ?_
 |refine GV rfl rfl ?_
 |refine OH rfl rfl ?_
 |with_reducible refine AU ?_
 |with_reducible refine Qi ?_
 |with_reducible refine Ac ?_
 |with_reducible refine QR ?_
 |with_reducible refine Zxz ?_
 |with_reducible refine Gd ?_
 |with_reducible refine BC ?_
 |with_reducible refine B4 ?_
 |refine El rfl rfl ?_
 |refine Dt rfl rfl ?_
 |with_reducible refine CK ?_
 |with_reducible refine GU ?_
 |with_reducible refine WV ?_
 |with_reducible refine Ox ?_
 |with_reducible refine MO ?_
 |with_reducible refine P4 ?_
 |with_reducible refine LQ ?_
 |with_reducible refine Ln ?_
 |with_reducible refine Lp ?_
 |with_reducible refine AM ?_
 |with_reducible refine AJ ?_
 |with_reducible refine B8 ?_
 |with_reducible refine P2 ?_
 |with_reducible refine Jt ?_
 |with_reducible refine FA ?_
 |with_reducible refine FC ?_
 |with_reducible refine Cz ?_
 |with_reducible refine Co ?_
 |with_reducible refine Di ?_
 |with_reducible refine Jp ?_
 |with_reducible refine Cf ?_
 |with_reducible refine Zzt ?_
 |with_reducible refine WO ?_
 |with_reducible refine FD ?_
 |with_reducible refine Bl ?_
 |refine AF rfl ?_
 |refine BK rfl ?_
 |refine Du rfl ?_
 |refine CM (Or.inl rfl) ?_
 |refine CM (Or.inr rfl) ?_
 |refine Ei (Or.inl rfl) ?_
 |refine Ei (Or.inr rfl) ?_
 |refine QH (Or.inl rfl) ?_
 |refine QH (Or.inr rfl) ?_
 |refine OS ?_
 |refine((_,_,rfl,rfl),?_)
 |refine(_,_,_,_,rfl,rfl,rfl,rfl,?_)
 |refine(_,rfl,?_)
 |refine jr_I (by first|(show (0:Int)<_;omega)|exact(by omega,by omega)|exact Or.inl (by omega,by omega)|exact Or.inr (by omega,by omega)|exact(by decide,by decide,by decide)) ?_)
local macro_rules | `(tactic| walk_at "draw")=>`(tactic| first|refine Fl rfl rfl (by assumption) (by omega) (by omega) λ_ _ _ _ _=>?_|refine(_,_,rfl,rfl,by assumption,_,rfl,by omega,by omega,λ_ _ _ _ _=>?_))
def BU (ps:List D):Prop:=∃(cs:List Int) (at_ num:Int),ps=[.lst (cs.map .int),.int at_,.int num]/\0<=at_/\0<=num/\cs.length<=63
def Eo:BSp:=λp s t=>BU p/\∃m:Int,s=[.int m]/\1<=m/\m<=100000000000000000000000000000000000000000000000000000000000/\∀r ps',BU ps' -> 0<=r->r<m->t (.int r) ps'
abbrev LendQ (f:BSp) (i:Nat) (P:D->AI->Prop):List D->AI->Prop:=λds U1=>∃y ps,U1[i]?=some y/\y.od=some (.lst ps)/\f ps ds λd ps'=>P d (U1.set i<|y.put (.lst ps'))
theorem El (hx:U[i]?=some x) (ho:x.od=some od) (h:JA K ta U (LendQ f i P)):JE K (tCall (spB K f) [] E<|tCons (tVar i) ta) U P:=Dt hx ho h
theorem Fl {U1:AI}{i:Nat}{y:Slot}{ps:List D}{m:Int}{P:D->AI->Prop}(hx:U1[i]?=some y) (ho:y.od=some (.lst ps)) (hp:BU ps) (h1:1<=m) (h2:m<=100000000000000000000000000000000000000000000000000000000000) (h:∀r ps',BU ps' -> 0<=r->r<m->P (.int r) (U1.set i<|y.put (.lst ps'))) :
  LendQ Eo i P [.int m] U1:=(y,ps,hx,ho,hp,m,rfl,h1,h2,h)
theorem Zz6 {K:W.Frag}{U:AI}{E:XK}{i:Nat}{y:Slot}{ps:List D}{m:Int}{P:D->AI->Prop}(hx:U[i]?=some y) (ho:y.od=some (.lst ps)) (hp:BU ps) (h1:1<=m) (h2:m<=100000000000000000000000000000000000000000000000000000000000) (h:∀r ps',BU ps' -> 0<=r->r<m->P (.int r) (U.set i<|y.put (.lst ps'))) :
  JE K (tCall (spB K Eo) [] E<|tCons (tVar i)<|tCons (tC (.int m)) tNil) U P:=El hx ho<|AJ<|Ac<|AM<|Fl hx ho hp h1 h2 h
section
variable {P:Program}{w:World}{K:W.Frag}{mg:Str->Option Value}{base:Heap}{f:Addr}{fd:FuncData}
theorem Vg (mb:Mb mg) (F:BH K "_law_draw" "_law_draw" Kf f fd):FnOk P w K mg base CX0 1 f fd ["_law_pen_here","_law_many"] (spB K Eo):=by
 refine F.ok FV (GS λp g o h=>by obtain⟨_,m,rfl,_⟩:=h;rfl) λv A r s H V Q E R h=>?_;have a:=Bg R;refine(_,(AV (B6 (Bn MQ (Ak (ixK K a) (pv 0) AN λ_ _=>rfl) AN<|nomark _) (AV (Ap (i:=2) FV.nd rfl (Or.inl rfl)<|Ab CL (Ak (ixK K a) (pv 0) AN λ_ _=>rfl)<|pv 1)<|AV (Dy (Ab LZ (Ak (ixK K a) (pv 0) AN λ_ _=>rfl)<|pv 1)<|Fm (pv 0) AN<|setU a)<|Ag<|BF<|pv 2) B5)<|AV (Ap (i:=3) FV.nd rfl (Or.inl rfl)<|Ak (ixK K a) (pv 0) AN λ_ _=>rfl)<|AV (Dy (Ab (addK K) (pv 3) AN)<|Fm (pv 0) AN<|setU a)<|AV (Ap (i:=4) FV.nd rfl (Or.inl rfl) AN)<|AV (B6 (Bn MQ (A4 (lenK K) rfl (mb "len"<|by decide) B0<|AE (Ak (ixK K a) (pv 0) AN λ_ _=>rfl) AL) AN<|nomark _) (Ag<|Ap (i:=4) FV.nd rfl (Or.inl rfl)<|Ak (ixK K a) (Ak (ixK K a) (pv 0) AN λ_ _=>rfl) (Ab CL (pv 3)<|A4 (lenK K) rfl (mb "len"<|by decide) B0<|AE (Ak (ixK K a) (pv 0) AN λ_ _=>rfl) AL) λ_ _=>rfl) B5)<|AV (B6 (PW.pt<|pw_and (Bn MK (pv 3) (A4 (lenK K) rfl (mb "len"<|by decide) B0<|AE (Ak (ixK K a) (pv 0) AN λ_ _=>rfl) AL)<|nomark _)<|pw_and1<|Bn Zz2 (A4 LM rfl (mb "abs"<|by decide) MB<|AE (pv 4) AL) (Ab Zyo AN AN)<|nomark _) (AV (Dy (Ab LZ (A4 LM rfl (mb "abs"<|by decide) MB<|AE (pv 4) AL)<|pv 1)<|Fm (pv 0) AN<|setU a)<|Ag<|BF<|Ab CL (A4 LM rfl (mb "abs"<|by decide) MB<|AE (pv 4) AL)<|pv 1) B5)<|AV (Ap (i:=5) FV.nd rfl (Or.inl rfl)<|Ab CL (Ab Dh (Ab (addK K) (Ab (addK K) (Ab CL (pv 4) AN)<|Ab Dh AN<|pv 3) AN) AN) AN)<|AV (Ap (i:=5) FV.nd rfl (Or.inl rfl)<|Ab CL (Ab (addK K) (Ab (addK K) (Ab Dh (pv 5)<|pv 5)<|Ab Dh AN<|pv 5)<|pv 3) AN)<|Ag<|BF<|Ab CL (Ab LZ (Ab CL (Ab Dh (pv 5) AN) AN) AN)<|pv 1),Ge (λp g o n=>?_) h);obtain⟨⟨S,t,u,rfl,j,e,b⟩,m,rfl,x,y,q⟩:=n;refine(by simp,?_);dsimp only[cxOf,startD,Bf,A9,BN,Am];refine Bv (λU=>¬ 0<u /\ U = [.bor (.lst [.lst (S.map .int),.int t,.int u]),.val (.int m),.any,.any,.any,.any]) ?_ ?_
 ·repeat walk_at "js"
  refine ite2 (λc=>?_) λc=>?_
  ·have c:=of_decide_eq_true c
   repeat walk_at "js"
   exact q _ _ (S,t,u / m,rfl,j,Int.ediv_nonneg e (by lia),b) (FQ _<|by lia) (FJ _<|by omega)
  ·repeat walk_at "js"
   exact(of_decide_eq_false<|Ez.mpr c,rfl)
 rintro d ⟨N,rfl⟩
 repeat walk_at "js"
 refine Bv (λU=>∃c:Int,U = [.bor (.lst [.lst (S.map .int),.int (t+1),.int u]),.val (.int m),.any,.val (.int t),.val (.int c),.any]) ?_ ?_
 ·repeat walk_at "js"
  refine ite2 (λc=>?_) λc=>?_
  ·have c:=of_decide_eq_true c
   rw[AK]at c
   repeat walk_at "js"
   rw[AK]
   repeat walk_at "js"
   obtain⟨l,_,C⟩:=Pj (f:=D.int) (xs:=S) (i:=t % (S.length:Int)) (FQ _<|by lia) (FJ _<|by omega);refine Du C ?_;exact(l,rfl)
  ·repeat walk_at "js"
   exact(11,rfl)
 rintro d ⟨l,rfl⟩;refine Bv (λU=>U = [.bor (.lst [.lst (S.map .int),.int (t+1),.int u]),.val (.int m),.any,.val (.int t),.val (.int l),.any]) ?_ ?_
 ·repeat walk_at "js"
  refine ite2 (λc=>?_) λc=>?_
  ·repeat walk_at "js"
   refine ite2 (λc=>?_) λc=>?_
   ·repeat walk_at "js"
    have k:0<=(if l<0 then -l else l):=by split <;> omega
    exact q _ _ (S,t+1,_,rfl,by lia,Int.ediv_nonneg k (by lia),b) (FQ _<|by lia) (FJ _<|by lia)
   ·repeat walk_at "js"
    rfl
  ·repeat walk_at "js"
   rfl
 rintro d rfl
 repeat walk_at "js"
 exact q _ _ (S,t+1,u,rfl,by lia,e,b) (FQ _<|by omega) (FJ _<|by omega)
end
def fPen:NSp:=λs t=>∃ns:List Int,s=[.scr (ns.map .int)]/\ns.length<=63/\∀ps,BU ps->t ps
section
variable {P:Program}{w:World}{K:W.Frag}{mg:Str->Option Value}{base:Heap}{f:Addr}{fd:FuncData}
theorem Zzh (mb:Mb mg) (F:BH K "_law_pen" "_law_pen" Ic f fd):FnOk P w K mg base CX0 1 f fd ["_law_script"] (spN K fPen):=by
 refine F.ok Qa (JY λS t h=>by obtain⟨n,rfl,_⟩:=h;rfl) λv A r s H V Q E R h=>?_;have u:=Bg R;refine(_,(Ag<|BF<|FE<|AE (DI ["_law_cell"] (show CompSc (defScope Ic) ["_law_script"] _ [] [] from (rfl,by decide +kernel,by decide +kernel,by decide +kernel,rfl,by decide +kernel)) rfl (seqK K<|LS (slK K) (pv 0) Lo<|Ja AN) (λ_ _ _ _ _=>(A2 (i:=0) (show List.Nodup (["_law_cell"]:List Str) from by decide) rfl<|Or.inl rfl)) (λ_ _ _ _ _=>C0) λ_ _ _ _ _=>(pv 0))<|AE AN<|AE AN AL),Ju (λS t g=>?_) h);obtain⟨n,rfl,a,q⟩:=g;refine(by simp,?_);dsimp only[cxOf,startD,Bf,A9,BN,Am];refine GQ<|Fp<|AJ<|Dc (by decide)<|Dx ?_
 repeat walk_at "js"
 have e:cutD (n.map D.int) none (some 63)=n.map D.int:=by
  unfold cutD;have b:HT.sIx (n.map D.int).length 0 none=0:=rfl;have c:HT.sIx (n.map D.int).length (n.map D.int).length (some 63)=n.length:=by
   rw[AK];show min (Int.toNat 63) n.length=_;lia
  rw[b,c,List.drop_zero,F3,Et (by simp)]
 rw[e];refine(_,Or.inl rfl,by rw[AK];exact EW a (by decide),λ_=>true,λd=>d,λi d j=>?_,?_)
 ·repeat walk_at "js"
  exact(rfl,AF rfl (rfl,_,rfl))
 ·repeat walk_at "js"
  refine(by show 3<=sizeLine;decide,_,rfl,q _ (n,0,0,?_,by decide,by decide,a));simp
end
def BL (t:Int × Int):D:=.tup [.int t.1,.int t.2]
def BJ (n:Int) (ts:AW):D:=.tup [.int n,.tup (ts.map BL)]
structure An (n:Int) (ts:AW):Prop where
 lo:1<=n
 hi:n<=25
 len:ts.length<=24
 tie:∀t∈ts,0<=t.1/\t.1<n/\0<=t.2/\t.2<n
def fWeb:BSp:=λp s t=>BU p/\∃a b:Int,s=[.int a,.int b]/\1<=a/\a<=25/\0<=b/\b<=24/\∀n ts ps',BU ps' -> An n ts->n<=a->(ts.length:Int)<=b->t (BJ n ts) ps'
theorem We {U1:AI}{i:Nat}{y:Slot}{ps:List D}{a b:Int}{P:D->AI->Prop}(hx:U1[i]?=some y) (ho:y.od=some (.lst ps)) (hp:BU ps) (h1:1<=a) (h2:a<=25) (h3:0<=b) (h4:b<=24) (h:∀n ts ps',BU ps' -> An n ts->n<=a->(ts.length:Int)<=b->P (BJ n ts) (U1.set i<|y.put (.lst ps'))) :
  LendQ fWeb i P [.int a,.int b] U1:=(y,ps,hx,ho,hp,a,b,rfl,h1,h2,h3,h4,h)
theorem Pq:2<=sizeLine:=by decide
theorem Hl (hx:U[i]?=some (.val (.int v))) (h1:v=c->P true U) (h2:¬ v=c->P false U):JT K (tTest<|tOp rEq (tVar i)<|tC (.int c)) U P:=
 B8 (AU (AF hx (Ac (Cf ⟨_,rfl,by
  by_cases h:v=c
  ·rw[A1 h];exact h1 h
  ·rw[A7 h];exact h2 h⟩))))
def wSt (py:List D) (a b n way k:Int) (fs:List D) (i u v:Int):AI:=[.bor (.lst py),.val (.int a),.val (.int b),.val (.int n),.val (.int way),.val (.int k),.own (.lst fs),.val (.int i),.val (.int u),.val (.int v)]
def wQ (py:List D) (a b n way k:Int) (fs:List D) (i:Int):AI->Prop:=λU=>∃u v:Int,0<=u/\u<n/\0<=v/\v<n /\ U = wSt py a b n way k fs i u v
def wR (py:List D) (a b n way k:Int) (fs:List D) (i:Int):AI->Prop:=λU=>∃u v:Int,0<=u/\u<n/\0<=v /\ U = wSt py a b n way k fs i u v
def wL (a b n way k:Int) (i:Nat):AI->Prop:=λU=>∃(ps:List D) (ts:AW) (x7 x8 x9:Slot),BU ps/\ts.length=i/\(∀t∈ts,0<=t.1/\t.1<n/\0<=t.2/\t.2<n) /\ U = [.bor (.lst ps),.val (.int a),.val (.int b),.val (.int n),.val (.int way),.val (.int k),.own (.lst<|ts.map BL),x7,x8,x9]
section
variable {P:Program}{w:World}{K:W.Frag}{mg:Str->Option Value}{base:Heap}{f:Addr}{fd:FuncData}
theorem WN (mb:Mb mg) (C31:Callee P w K mg base 1 "_law_draw" ["_law_pen_here","_law_many"] (spB K Eo)) (F:BH K "_law_web" "_law_web" Kg f fd):FnOk P w K mg base CX0 2 f fd ["_law_pen_here","_law_places","_law_ties"] (spB K fWeb):=by
 refine F.ok DG (GS λps ds T h=>by obtain⟨_,a,b,rfl,_⟩:=h;rfl) λa7 A a6 s H vs Q E r h=>?_;have hu:=Bg r;refine(_,(AV (Ap (i:=3) DG.nd rfl (Or.inl rfl)<|Ab (addK K) AN<|A3 C31 (r.mono<|by decide)<|AE (pv 0)<|AE (pv 1) AL)<|AV (Ap (i:=4) DG.nd rfl (Or.inl rfl)<|A3 C31 (r.mono<|by decide)<|AE (pv 0)<|AE AN AL)<|AV (Ap (i:=5) DG.nd rfl (Or.inl rfl)<|A3 C31 (r.mono<|by decide)<|AE (pv 0)<|AE (Ab (addK K) (pv 2) AN) AL)<|AV (B6 (Bn CF (pv 4) AN<|nomark _) (AV (Ap (i:=3) DG.nd rfl (Or.inl rfl)<|pv 1)<|Ag<|Ap (i:=5) DG.nd rfl (Or.inl rfl)<|pv 2) B5)<|AV (Ap (i:=6) DG.nd rfl (Or.inl rfl)<|FE AL)<|AV (Cd PassesOwn.never rfl (DX rfl (mb "range"<|by decide)<|AE (pv 5) AL) (A2 (i:=7) DG.nd rfl<|Or.inl rfl)<|AV (L4 (i:=8) (j:=9) rfl DG.nd rfl rfl (by decide) rfl rfl (AE (A3 C31 (r.mono<|by decide)<|AE (pv 0)<|AE (pv 3) AL)<|AE (A3 C31 (r.mono<|by decide)<|AE (pv 0)<|AE (pv 3) AL) AL) rfl)<|AV (B6 (Bn CF (pv 4) AN<|nomark _) (Ag<|L4 (i:=8) (j:=9) rfl DG.nd rfl rfl (by decide) rfl rfl (AE (Ab CL (pv 7)<|pv 3)<|AE (Ab CL (Ab (addK K) (pv 7) AN)<|pv 3) AL) rfl) B5)<|AV (B6 (Bn CF (pv 4) AN<|nomark _) (Ag<|Ap (i:=8) DG.nd rfl (Or.inl rfl) AN) B5)<|AV (B6 (Bn CF (pv 4) AN<|nomark _) (Ag<|Ap (i:=9) DG.nd rfl (Or.inl rfl)<|Ab (addK K) (Ab CL (pv 8) AN)<|Ab Dh (Ab GX (pv 9) AN) AN) B5)<|AV (B6 (PW.pt<|pw_and (Bn CF (pv 4) AN<|nomark _)<|pw_and1<|Bn CF (Ab CL (pv 9) AN) AN<|nomark _) (Ag<|Ap (i:=9) DG.nd rfl (Or.inl rfl)<|pv 8) B5)<|Ag<|EG<|bmK K PySem.F.plainAttrs_list PySem.F.slot_list_append PySem.F.type_list_append Fb (pv 6)<|AE (CS<|AE (pv 8)<|AE (A4 (Iy rfl) rfl (mb "min"<|by decide) Ho<|AE (pv 9)<|AE (Ab EI (pv 3) AN) AL) AL) AL)<|Ag<|BF<|CS<|AE (pv 3)<|AE (FY (tupK K) rfl (mb "tuple"<|by decide) Ed<|AE (pv 6) AL) AL),Ge (λps ds T hf=>?_) h);obtain⟨hp,a,b,rfl,h1,h2,h3,h4,q⟩:=hf;refine(by simp,?_);dsimp only[cxOf,startD,Bf,A9,BN,Am];refine Ah<|BE<|AU<|Ac<|El rfl rfl<|AJ<|AF rfl<|AM (Fl (m:=a) rfl rfl hp h1 (Int.le_trans h2<|by decide) λr0 b3 O a1 b0=>Co ?_);refine Ah<|BE (Zz6 rfl rfl O (by decide) (by decide) λY b4 R b1 b2=>?_);refine Ah<|BE<|El rfl rfl<|AJ<|Gf (Cs (DJ rfl) Dv Lc)<|AM (Fl (m:=b+1) rfl rfl R (Int.add_le_add h3<|FU 1) (Int.le_trans (Int.add_le_add h4<|FU 1)<|by decide) λD z W G J=>?_);refine Bv (λU=>∃n k:Int,1<=n/\n<=a/\0<=k/\k<=b /\ U = [.bor (.lst z),.val (.int a),.val (.int b),.val (.int n),.val (.int Y),.val (.int k),.any,.any,.any,.any]) ?_ ?_
 ·refine CH (Hl rfl (λc=>iteT ?_) λc=>iteF<|B3 (1+r0,D,Int.le_add_of_nonneg_right a1,by lia,G,Int.le_of_lt_add_one J,rfl))
  exact Ah<|BE<|AF rfl<|BE<|AF rfl (a,b,h1,FU _,h3,FU _,rfl)
 rintro U1 ⟨n,k,l,L,a8,a9,rfl⟩;have N:0<n:=Int.lt_of_lt_of_le (by decide) l;have p:n≠0:=Int.ne_of_gt N;refine Ah<|Cp<|Fp<|AM (by decide,?_);refine Bv (wL a b n Y k k.toNat) ?_ ?_
 ·refine Cb (DY<|AJ<|AF rfl<|AM (_,rfl,by lia,by lia,?_))
  refine(wL a b n Y k,(z,[],.any,.any,.any,W,rfl,λ_ h=>(nomatch h),rfl),?_,λU2 h=>by rw[Cn]at h;exact h);rintro i d U2 hd ⟨ps,S,x7,x8,x9,M,hl,ht,rfl⟩;obtain⟨hi,rfl⟩:=De hd;generalize (0+(i:Int))=I;refine Bl<|Ah<|JX<|AJ<|El rfl rfl<|AJ<|AF rfl<|AM (Fl (m:=n) rfl rfl M l (by lia) λx px Z a2 a3=>?_);refine AJ<|El rfl rfl<|AJ<|AF rfl<|AM (Fl (m:=n) rfl rfl Z l (by lia) λy B a0 a4 a5=>AM (_,_,rfl,?_));refine Bv (wQ B a b n Y k (S.map BL) I) ?_ ?_
  ·refine CH (Hl rfl (λc=>iteT ?_) λc=>iteF<|B3 (x,y,a2,a3,a4,a5,rfl))
   exact JX<|Wq (OQ (Cs (DJ rfl) (DJ rfl)<|pr_I N)<|OQ (Cs (Cs (DJ rfl) Dv Lc) (DJ rfl)<|pr_I N) V5) (_,_,rfl,_,_,FQ _ p,FJ _ N,FQ _ p,FJ _ N,rfl)
  rintro C ⟨u,v,e,g,V,o,rfl⟩;refine Bv (wQ B a b n Y k (S.map BL) I) ?_ ?_
  ·exact CH<|Hl rfl (λc=>iteT<|BE<|Ac (0,v,FU _,N,V,o,rfl)) λc=>iteF<|B3 (u,v,e,g,V,o,rfl)
  rintro C ⟨u,v,e,g,V,o,rfl⟩;refine Bv (wR B a b n Y k (S.map BL) I) ?_ ?_
  ·refine CH (Hl rfl (λc=>iteT ?_) λc=>iteF<|B3 (u,v,e,g,V,rfl))
   exact BE<|Gf (Cs (Cs (DJ rfl) Dv<|pr_I (show (0:Int)<2 by decide)) (Cs (Cs (DJ rfl) Dv<|pr_I (by decide,by decide)) Dv<|pr_I<|Or.inr (by decide,by decide)) Lc) (u,_,e,g,by lia,rfl)
  rintro C ⟨u,v,e,g,V,rfl⟩;refine Bv (wR B a b n Y k (S.map BL) I) ?_ ?_
  ·refine CH (P2<|Hl rfl (λc=>iteT ?_) λc=>iteF<|iteF<|B3 (u,v,e,g,V,rfl))
   refine B8<|AU<|Gf (Cs (DJ rfl) Dv<|pr_I (show (0:Int)<2 by decide))<|Ac<|Cf (_,rfl,ite2 (λc=>?_) λc=>B3 (u,v,e,g,V,rfl));exact BE<|AF rfl (u,u,e,g,e,rfl)
  rintro C ⟨u,v,e,g,V,rfl⟩;refine Hq rfl rfl<|CK<|AJ<|AF rfl<|AJ<|BC<|AJ<|AF rfl<|AJ<|Gf (Cs (DJ rfl) Dv Zzv)<|AM<|FD<|AM ?_;refine(Pq,_,_,rfl,rfl,?_,B,S++[(u,if n-1<v then n-1 else v)],.val (.int I),.val (.int u),.val (.int v),a0,by rw[Aw,hl];rfl,λt h=>?_,?_)
  ·rw[AK];exact small1000 (by lia)
  ·rcases Bb.mp h with h|h
   ·exact ht t h
   ·rw[Bc.mp h]
    refine(e,g,?_,?_)
    ·show 0<=(if n-1<v then n-1 else v);split <;> lia
    ·show (if n-1<v then n-1 else v)<n;split <;> lia
  ·rw[BD];rfl
 rintro U1 ⟨b5,S,x7,x8,x9,X,hl,ht,rfl⟩;refine Bz<|CK<|AJ<|AF rfl<|AJ<|BC<|AJ<|Ef rfl<|AM<|Ei (Or.inl rfl)<|AM (Pq,?_);exact(_,rfl,q n S _ X (l,by lia,by lia,ht) L<|by lia)
end
def Ad (ts:AW) (e:Nat):Int:=match ts[e / 2]? with
 |some t=>if e % 2=0 then t.1 else t.2
 |none=>-1
def A8 (r:List Int):D:=.tup<|r.map .int
def Bd (o:Aa):D:=.tup<|o.map A8
def CO (ts:AW) (m:Nat) (p:Int):List Int:=((AR m).filter λe=>decide (Ad ts e=p)).map λe:Nat=>(e:Int)
structure B7 (ts:AW) (m:Nat) (p:Int) (r:List Int):Prop where
 perm:r.Perm (CO ts m p)
 first:r.head?=(CO ts m p).head?
structure Ay (n:Int) (ts:AW) (o:Aa):Prop where
 len:(o.length:Int)=n
 row:∀(p:Nat) r,o[p]?=some r->B7 ts (2*ts.length) (p:Int) r
theorem Ml (ts:AW) (k:Nat) (p:Int):CO ts (k+1) p=CO ts k p++(if Ad ts k=p then [(k:Int)] else []):=by
 unfold CO;rw[FO,DT,BD];congr 1;by_cases h:Ad ts k=p
 ·simp[CC,h]
 ·simp[CC,h]
theorem Q4 (ts:AW) (m:Nat) (p:Int):(CO ts m p).length<=m:=by
 unfold CO;rw[AK];exact CW (H0 _ _) (by rw[BS];exact AS _)
theorem B7.len (h:B7 ts m p r):r.length<=m:=by rw[h.perm.length_eq];exact Q4 ts m p
theorem B7.stay (h:B7 ts k p r) (hp:Ad ts k≠p):B7 ts (k+1) p r:=by
 have e:=Ml ts k p;rw[AB hp,Bs]at e;exact(by rw[e];exact h.perm,by rw[e];exact h.first)
theorem B7.put (h:B7 ts k p r) (hp:Ad ts k=p) (hj:j<=r.length) (h1:r≠[]->1<=j):B7 ts (k+1) p (r.take j++(k:Int)::r.drop j):=by
 have e:=Ml ts k p;rw[AD hp]at e;refine(?_,?_)
 ·rw[e]
  refine KR.trans ?_;rw[D0];exact(List.Perm.cons _ h.perm).trans (List.perm_append_singleton _ _).symm
 ·rw[e]
  cases r with
  |nil=>
   have z:CO ts k p=[]:=List.Perm.eq_nil h.perm.symm;rw[z];have:j=0:=by simpa using hj
   subst this;rfl
  |cons x r'=>
   have a:=h1 (by simp);obtain⟨J,rfl⟩:∃J,j=J+1:=(j-1,by lia);have H:=h.first;show some x=_;cases q:CO ts k p with
   |nil=>rw[q]at H;cases H
   |cons y l=>rw[q]at H;exact H
theorem P8 {ts:AW}{k:Nat}(h:k<2*ts.length):∃t,ts[k / 2]?=some t/\atI (ts.map BL) ((0+(k:Int)) / 2)=some (BL t)/\atI [D.int t.1,D.int t.2] ((0+(k:Int)) % 2)=some (.int<|Ad ts k):=by
 have K:k / 2<ts.length:=by lia
 refine(ts[k / 2],AQ K,?_,?_)
 ·have e:(0+(k:Int)) / 2=((k / 2:Nat):Int):=by lia
  rw[e];exact CG (by rw[AZ,AQ K];rfl)
 ·have E:Ad ts k=if k % 2=0 then ts[k / 2].1 else ts[k / 2].2:=by
   unfold Ad;rw[AQ K]
  rw[E];have e:(0+(k:Int)) % 2=((k % 2:Nat):Int):=by lia
  rw[e];by_cases h0:k % 2=0
  ·rw[AD h0,h0];exact CG rfl
  ·have H:k % 2=1:=by lia
   rw[AB h0,H];exact CG rfl
theorem Fe (hW:An n ts) (h:k<2*ts.length):0<=Ad ts k/\Ad ts k<n:=by
 have K:k / 2<ts.length:=by omega
 have:=hW.tie _<|Br K;unfold Ad;rw[AQ K];dsimp only;split <;> omega
def J2:BSp:=λp s t=>BU p/\∃n ts,s=[BJ n ts]/\An n ts/\∀o ps',BU ps' -> Ay n ts o->t (Bd o) ps'
theorem UY {U1:AI}{i:Nat}{y:L2.Slot}{ps:List D}{n:Int}{ts:AW}{P:D->AI->Prop}(hx:U1[i]?=some y) (ho:y.od=some (.lst ps)) (hp:BU ps) (hW:An n ts) (h:∀o ps',BU ps' -> Ay n ts o->P (Bd o) (U1.set i<|y.put (.lst ps'))) :
  LendQ J2 i P [BJ n ts] U1:=(y,ps,hx,ho,hp,n,ts,rfl,hW,h)
def oSt (ps:List D) (n:Int) (ts:AW) (cs:List (Addr × List Int)) (x3 x4:L2.Slot):AI:=.bor (.lst ps)::.val (BJ n ts)::.val (.lst (cs.map λc=>D.adr c.1))::x3::x4::(cs.map (λc=>L2.Slot.ownA c.1 (.lst<|c.2.map D.int))++Am (25-n.toNat) .any)
def oP (n:Int) (ts:AW) (k:Nat):AI->Prop:=λU=>∃(ps:List D) (cs:List (Addr × List Int)) (x3 x4:L2.Slot),BU ps/\cs.length=n.toNat/\(∀(p:Nat) c,cs[p]?=some c->B7 ts k (p:Int) c.2) /\ U = oSt ps n ts cs x3 x4
theorem SW {as:List Addr}(hn2:n<=25) (hal:as.length=(A9 (λ_=>OD.lst []) ((rngD 0 n.toNat).filter λ_=>true)).length):∃cs:List (Addr × List Int),cs.length=n.toNat/\(∀(p:Nat) c,cs[p]?=some c->c.2=[]) /\
  L2.putN 5 (as.zip<|A9 (λ_=>OD.lst []) ((rngD 0 n.toNat).filter λ_=>true)) ([.bor (.lst ps),.val (BJ n ts),.val (.lst<|as.map D.adr),.any,.any]++Am 25 .any)=oSt ps n ts cs .any .any:=by
 have R:(rngD 0 n.toNat).filter (λ_=>true)=rngD 0 n.toNat:=by simp
 rw[R,AK,Cn]at hal;have O:(rngD 0 n.toNat).map (λ_=>OD.lst [])=Am n.toNat (OD.lst []):=by
  rw[List.map_const',Cn]
 rw[R,O];generalize hcs:as.map (λa=>((a,[]):Addr × List Int))=cs;have l:cs.length=n.toNat:=by rw[<- hcs,AK,hal]
 have e:as.map D.adr=cs.map λc=>D.adr c.1:=by rw[<- hcs,A5];rfl
 have b:as.zip (Am n.toNat<|OD.lst [])=cs.map λc=>(c.1,OD.lst (c.2.map D.int)):=by
  rw[<- hcs,A5,<- hal];clear e l hcs hal
  induction as with
  |nil=>rfl
  |cons a r ih=>rw[Aj,Gz,FH,ih];rfl
 have E:=PM (cs.map λc=>(c.1,OD.lst (c.2.map D.int))) [.bor (.lst ps),.val (BJ n ts),.val (.lst (cs.map λc=>D.adr c.1)),.any,.any] [] 25 (by rw[AK];lia);rw[Bs,Bs,A5,AK,l]at E;refine(cs,l,λp c h=>?_,by rw[e,b];exact E);rw[<- hcs,AZ]at h;cases q:as[p]? with
 |none=>rw[q]at h;cases h
 |some a=>rw[q]at h;cases h;rfl
theorem Zyn (h:cs[p]?=some c):(oSt ps n ts cs x3 x4)[p+5]?=some (.ownA c.1 (.lst<|c.2.map D.int)):=by
 show (cs.map (λc=>L2.Slot.ownA c.1 (.lst<|c.2.map D.int))++Am (25-n.toNat) .any)[p]?=_;rw[Cu (by rw[AK];exact(BB.mp h).1),AZ,h];rfl
theorem VY {ps ps':List D}{n:Int}{ts:AW}{cs:List (Addr × List Int)}{x3 x4:L2.Slot}{p:Nat}{c:Addr × List Int}{r:List Int}{v:L2.Slot}(h:cs[p]?=some c) (hv:v=.ownA c.1 (.lst<|r.map D.int)):(oSt ps n ts cs x3 x4).set (p+5) v=oSt ps n ts (cs.set p (c.1,r)) x3 x4:=by
 have P:=(BB.mp h).1;have a:(cs.set p (c.1,r)).map (λc=>D.adr c.1)=cs.map λc=>D.adr c.1:=by
  rw[List.map_set];apply DR;intro i;by_cases hii:i=p
  ·subst hii
   rw[Bt (by rw[AK];exact P),AZ,h];rfl
  ·rw[Bx (Ne.symm hii)]
 unfold oSt;rw[a,List.map_set,hv,<- List.set_append_left _ _ (by rw[AK];exact P)];rfl
section
variable {P:Program}{w:World}{K:W.Frag}{mg:Str->Option Value}{base:Heap}{f:Addr}{fd:FuncData}
theorem Um (mb:Mb mg) (C31:Callee P w K mg base 1 "_law_draw" ["_law_pen_here","_law_many"] (spB K Eo)) (F:BH K "_law_order" "_law_order" F6 f fd):FnOk P w K mg base CX0 2 f fd ["_law_pen_here","_law_web_here"] (spB K J2):=by
 refine F.ok Ii (GS λps ds O h=>by obtain⟨_,n,ts,rfl,_⟩:=h;rfl) λa7 A a5 s H vs Q E m h=>?_;have y:=Bg m;refine(_,(AV (VG 5 (show ∀x∈(["_law_pen_here","_law_web_here","_law_rows","_law_k","_law_row_here","!0","!1","!2","!3","!4","!5","!6","!7","!8","!9","!10","!11","!12","!13","!14","!15","!16","!17","!18","!19","!20","!21","!22","!23","!24"]:List Str).drop 5,(defScope F6).names.lookup x=none from by decide +kernel)<|JP (i:=2) ["_law_place"] (show CompSc (defScope F6) ["_law_pen_here","_law_web_here","_law_rows","_law_k","_law_row_here","!0","!1","!2","!3","!4","!5","!6","!7","!8","!9","!10","!11","!12","!13","!14","!15","!16","!17","!18","!19","!20","!21","!22","!23","!24"] _ [] [] from (rfl,by decide +kernel,by decide +kernel,by decide +kernel,rfl,by decide +kernel)) rfl Ii.nd rfl (Or.inl rfl) (DX rfl (mb "range"<|by decide)<|AE (Ak (ixK K y) (pv 1) AN λ_ _=>rfl) AL) (λ_ _ _ _ _=>(A2 (i:=0) (show List.Nodup (["_law_place"]:List Str) from by decide) rfl<|Or.inl rfl)) (λ_ _ _ _ _=>C0) λ_ _ _ _ _=>(FE AL))<|AV (Cd PassesOwn.never rfl (DX rfl (mb "range"<|by decide)<|AE (Ab Dh AN<|A4 (lenK K) rfl (mb "len"<|by decide) B0<|AE (Ak (ixK K y) (pv 1) AN λ_ _=>rfl) AL) AL) (A2 (i:=3) Ii.nd rfl<|Or.inl rfl)<|AV (Ap (i:=4) Ii.nd rfl (Or.inl rfl)<|Ak (ixK K y) (pv 2) (Ak (ixK K y) (Ak (ixK K y) (Ak (ixK K y) (pv 1) AN λ_ _=>rfl) (Ab GX (pv 3) AN) λ_ _=>rfl) (Ab CL (pv 3) AN) λ_ _=>rfl) λ_ _=>rfl)<|Ag<|EG<|bmK K PySem.F.plainAttrs_list PySem.F.slot_list_insert PySem.F.type_list_insert NR (pv 4)<|AE (A4 (Iy rfl) rfl (mb "min"<|by decide) Ho<|AE (A4 (lenK K) rfl (mb "len"<|by decide) B0<|AE (pv 4) AL)<|AE (Ab (addK K) AN<|A3 C31 (m.mono<|by decide)<|AE (pv 0)<|AE (A4 (LB rfl) rfl (mb "max"<|by decide) ME<|AE AN<|AE (A4 (lenK K) rfl (mb "len"<|by decide) B0<|AE (pv 4) AL) AL) AL) AL)<|AE (pv 3) AL)<|Ag<|BF<|FY (tupK K) rfl (mb "tuple"<|by decide) Ed<|AE (DI ["_law_row_here"] (show CompSc (defScope F6) ["_law_pen_here","_law_web_here","_law_rows","_law_k","_law_row_here","!0","!1","!2","!3","!4","!5","!6","!7","!8","!9","!10","!11","!12","!13","!14","!15","!16","!17","!18","!19","!20","!21","!22","!23","!24"] _ [] [] from (rfl,by decide +kernel,by decide +kernel,by decide +kernel,rfl,by decide +kernel)) rfl (seqK K<|pv 2) (λ_ _ _ _ _=>(A2 (i:=0) (show List.Nodup (["_law_row_here"]:List Str) from by decide) rfl<|Or.inl rfl)) (λ_ _ _ _ _=>C0) λ_ _ _ _ _=>(FY (tupK K) rfl (mb "tuple"<|by decide) Ed<|AE (pv 0) AL)) AL),Ge (λps ds O hf=>?_) h);obtain⟨hp,n,ts,rfl,J,q⟩:=hf;refine(by simp,?_);dsimp only[cxOf,startD,Bf,A9,BN];have hn:=J.lo;have a0:=J.hi;have b3:=J.len
 -- the rows
 refine Ah<|WJ<|T4 (by decide)<|DY ?_;refine AJ<|AU<|AF rfl<|Ac<|BK (d:=.int n) rfl<|AM (n,rfl,by lia,by lia,?_);refine(by rw[Cn];exact small1000 (by lia),λ_=>true,λ_=>.lst [],λi d b=>?_,by decide,?_,λas M a9=>?_)
 ·exact Cz (rfl,Fp<|AM (by decide,rfl,_,rfl))
 ·rw[AK]
  have e:((rngD 0 n.toNat).filter λ_=>true).length<=25:=CW (H0 _ _) (by rw[Cn];lia);show 5+_<=30;lia
 obtain⟨cs,L,Y,e⟩:=SW (ps:=ps) (ts:=ts) a0 M;refine Eq.mpr (congrArg (λU=>JS K _ U _) e) ?_
 -- the loop
 refine Bv (oP n ts (2*ts.length)) ?_ ?_
 ·refine Cb (DY<|AJ<|Gf (Cs Dv (Vc<|QA (ds:=[.int n,.tup (ts.map BL)]) rfl rfl)<|pr_I<|Or.inl (by decide,by decide))<|AM (_,rfl,?_,?_,?_))
  ·rw[AK];lia
  ·rw[AK];lia
  have eL:((2:Int)*((ts.map BL).length:Int)).toNat=2*ts.length:=by rw[AK];lia
  refine(oP n ts,(ps,cs,.any,.any,hp,L,λp c hc=>by rw[Y p c hc];exact(List.Perm.refl _,rfl),rfl),?_,λU h=>by rw[Cn,eL]at h;exact h)
  ·rintro k d U2 b ⟨ps,cs,X,B,hp,L,o,rfl⟩
   rw[eL]at b;obtain⟨hk,rfl⟩:=De b;obtain⟨t,b2,a3,a4⟩:=P8 hk;obtain⟨I,b4⟩:=Fe J hk;obtain⟨c,u,V⟩:=Pj (f:=λc:Addr × List Int=>D.adr c.1) (xs:=cs) (i:=Ad ts k) I (by lia);have hR:=o _ c u;have a8:=hR.len;have ep:((Ad ts k).toNat:Int)=Ad ts k:=Int.toNat_of_nonneg I;have l:∀(ps:List D) (X B:L2.Slot),(oSt ps n ts cs X B)[(Ad ts k).toNat+5]?=some (.ownA c.1 (.lst<|c.2.map D.int)):=λps X B=>Zyn u;have N:(c.2.map D.int).length=c.2.length:=AK _;refine Bl<|Ah<|BE<|Gf (Zyg (d:=.adr c.1) (DJ rfl) (L5 (L5 (QA (d:=.tup<|ts.map BL) rfl rfl) (Cs (DJ rfl) Dv<|pr_I (by decide,by decide)) a3) (Cs (DJ rfl) Dv<|pr_I (by show (0:Int)<2;decide)) a4) V) ?_;refine V6 (a:=c.1) rfl (l ps _ _) ?_;refine BC<|AJ<|PZ rfl (l ps _ _)<|AJ<|AU<|Ac<|El rfl rfl<|AJ<|BC<|AJ<|Ac<|AJ<|PZ rfl (l ps _ _)<|AM<|FD<|AM ?_;refine Fl rfl rfl hp (by split <;> lia) (by split <;> lia) λr ps' a1 b0 b1=>?_
   refine Co<|AM<|FD<|AF rfl (_,_,_,rfl,l ps' _ _,by rw[N];exact small1000 (by lia),by split <;> lia,by split <;> lia,?_)
   generalize hi:insI (c.2.map D.int).length (if 1+r<((c.2.map D.int).length:Int) then 1+r else ((c.2.map D.int).length:Int))=j;have hj:j<=c.2.length/\(c.2≠[]->1<=j):=by
    rw[<- hi,N];unfold insI;refine(?_,λh=>?_)
    ·split <;> split <;> lia
    ·have:=KL.mpr h
     split <;> split <;> lia
   refine(ps',cs.set (Ad ts k).toNat (c.1,c.2.take j++(k:Int)::c.2.drop j),.val (.int (0+(k:Int))),.val (.adr c.1),a1,by rw[FP];exact L,λp c' C=>?_,VY (ps:=ps') (ps':=ps') u ?_)
   ·by_cases hpp:p=(Ad ts k).toNat
    ·subst hpp
     rw[Bt (by lia)]at C;cases C;exact hR.put (by lia) hj.1 hj.2
    ·rw[Bx (Ne.symm hpp)]at C
     exact(o p c' C).stay (by lia)
   ·rw[BD,List.map_take,BX,List.map_drop,D5]
 -- the end
 rintro U1 ⟨v,S,X,B,a2,a6,W,rfl⟩;refine JS.conv (U':=.bor (.lst v)::.val (BJ n ts)::.val (.lst (S.map λc=>D.lst<|c.2.map D.int))::X::B::(Am S.length .any++Am (25-n.toNat) .any)) (λg G H Z k=>?_) ?_
 ·have:=Ok.thaw (cs:=S.map λc=>(c.1,c.2.map D.int)) (R:=[.bor (.lst v),.val (BJ n ts),.val (.lst (S.map λc=>D.adr c.1)),X,B]) (T:=Am (25-n.toNat) .any) (i:=2) (g:=g) (G:=G) (H:=H) (Z:=Z) (K:=K) (by rw[A5];exact k) (by rw[A5];rfl)
  rw[A5,AK]at this;exact this
 refine Bz<|BC<|AJ<|Dc (by decide)<|Dx<|AF rfl (_,Or.inl rfl,?_,λ_=>true,λd=>match d with|.lst ds=>.tup ds|d=>d,λi d b=>?_,?_)
 ·rw[AK];exact small1000 (by lia)
 ·rw[AZ]at b
  cases q:S[i]? with
  |none=>rw[q]at b;cases b
  |some c=>
   rw[q]at b;have b:D.lst (c.2.map D.int)=d:=by simpa using b
   subst b;exact Cz (rfl,BC<|AJ<|AF rfl<|AM<|Ei (Or.inl rfl) (rfl,_,rfl))
 ·refine AM (Ei (Or.inl rfl) (v,rfl,?_))
  have e:((S.map λc=>D.lst<|c.2.map D.int).filter λ_=>true).map (λd=>match d with|.lst ds=>D.tup ds|d=>d)=(S.map (·.2)).map A8:=by
   rw[EU.mpr (by simp),A5,A5];rfl
  rw[e];exact q _ _ a2 (by rw[AK];lia,λp r m=>by
   rw[AZ]at m;cases z:S[p]? with
   |none=>rw[z]at m;cases m
   |some c=>rw[z]at m;cases m;exact W p c z)
end
def DL (r:List Int) (x:Int):Int:=r.getD ((r.idxOf x+1) % r.length) 0
def BI (r:List Int):AW:=(AR r.length).map λk=>(r.getD ((k+r.length-1) % r.length) 0,r.getD k 0)
def A0 (ts:AW) (o:Aa) (e:Nat):List Int:=o.getD (Ad ts e).toNat []
def Bp (r:List Int):List Int:=r.take 1++(r.drop 1).reverse
def partner (e:Nat):Nat:=if e % 2=0 then e+1 else e-1
theorem CZ (h:e<2*m):partner e<2*m:=by unfold partner;split <;> omega
theorem Q3:x∈CO ts m p ↔ ∃e:Nat,e<m/\Ad ts e=p/\(e:Int)=x:=by
 unfold CO;rw[Af];constructor
 ·rintro⟨e,h,rfl⟩
  rw[Bo,Ax]at h;exact(e,h.1,of_decide_eq_true h.2,rfl)
 ·rintro⟨e,H,a,rfl⟩
  exact(e,by rw[Bo,Ax];exact(H,A1 a),rfl)
theorem Ql (ts:AW) (m:Nat) (p:Int):(CO ts m p).Nodup:=by
 unfold CO;refine List.Pairwise.map _ (λa b h=>?_)<|List.Pairwise.filter _ Gr;intro e;exact h (by lia)
theorem B7.nodup (h:B7 ts m p r):r.Nodup:=h.perm.nodup_iff.mpr<|Ql ts m p
theorem B7.mem (h:B7 ts m p r):x∈r ↔ ∃e:Nat,e<m/\Ad ts e=p/\(e:Int)=x:=h.perm.mem_iff.trans Q3
theorem B7.turn (h:B7 ts m p r):B7 ts m p (Bp r):=by
 refine(List.Perm.trans ?_ h.perm,?_)
 ·unfold Bp
  exact(List.Perm.append_left _<|List.reverse_perm _).trans (by rw[D0])
 ·rw[<- h.first]
  unfold Bp;cases r with
  |nil=>rfl
  |cons x r=>rfl
theorem Ay.turn (h:Ay n ts o):Ay n ts (o.map Bp):=by
 refine(by rw[AK];exact h.len,λp r R=>?_);rw[AZ]at R;cases q:o[p]? with
 |none=>rw[q]at R;cases R
 |some r'=>rw[q]at R;cases R;exact(h.row p r' q).turn
theorem EF {n:Int}{ts:AW}{o:Aa}(hW:An n ts) (hO:Ay n ts o) {e:Nat}(he:e<2*ts.length) :
  o[(Ad ts e).toNat]?=some (A0 ts o e)/\B7 ts (2*ts.length) (Ad ts e) (A0 ts o e)/\(e:Int)∈A0 ts o e:=by
 obtain⟨p,P⟩:=Fe hW he;have l:=hO.len;have k:(Ad ts e).toNat<o.length:=by lia
 have q:o[(Ad ts e).toNat]?=some (A0 ts o e):=by
  unfold A0;rw[AQ k,Ao,AQ k];rfl
 have r:=hO.row _ _ q;rw[show ((Ad ts e).toNat:Int)=Ad ts e by lia]at r;exact(q,r,r.mem.mpr (e,he,rfl,rfl))
theorem Ay.flat (h:Ay n ts o):o.flatten.Nodup:=by
 unfold List.Nodup;rw[List.pairwise_flatten];refine(λr R=>?_,?_)
 ·obtain⟨p,P,e⟩:=Gx.mp R
  exact(h.row p r<|by rw[AQ P,e]).nodup
 ·rw[DF]
  intro i j hi hj hij x hx y hy hxy;subst hxy;obtain⟨e,_,E,a⟩:=(h.row i _<|AQ hi).mem.mp hx;obtain⟨f,_,F,b⟩:=(h.row j _<|AQ hj).mem.mp hy;have:e=f:=by lia
  subst this;lia
theorem HX {r:List Int}(h:x∈r):r.idxOf x<r.length/\r[r.idxOf x]?=some x/\∀m,m<r.idxOf x->r[m]?≠some x:=by
 have l:=List.idxOf_lt_length_of_mem h;refine(l,?_,λm M e=>?_)
 ·rw[AQ l,List.getElem_idxOf l]
 ·obtain⟨a,H⟩:=BB.mp e
  have:=List.not_of_lt_findIdx (p:=(· == x)) (xs:=r) M;rw[H]at this;simp at this
theorem Kv (r:List Int):(BI r).length=r.length:=by simp[BI]
theorem Mn (h:k<r.length):(BI r)[k]?=some (r.getD ((k+r.length-1) % r.length) 0,r.getD k 0):=by
 unfold BI;rw[AZ,ET h];rfl
theorem S9 (h:x∈r):(x,DL r x)∈BI r:=by
 obtain⟨H,a,_⟩:=HX h;have s:0<r.length:=by lia
 have m:(r.idxOf x+1) % r.length<r.length:=EB _ s;refine Bk (i:=(r.idxOf x+1) % r.length) ?_;rw[Mn m];congr 1;have e:((r.idxOf x+1) % r.length+r.length-1) % r.length=r.idxOf x:=by
  by_cases hl:r.idxOf x+1=r.length
  ·rw[hl,Nat.mod_self,By,EX (by omega)];lia
  ·rw[EX (by lia:r.idxOf x+1<r.length),show r.idxOf x+1+r.length-1=r.idxOf x+r.length by lia,IY,EX H]
 rw[e,Ao,a];rfl
theorem Mi (h:y∈BI r):y.1∈r:=by
 unfold BI at h;obtain⟨k,K,rfl⟩:=Af.mp h;rw[Ax]at K;have:(k+r.length-1) % r.length<r.length:=EB _ (by lia);dsimp only;rw[Ao,AQ this];exact Br this
theorem Qu (h:r.Nodup):((BI r).map (·.1)).Nodup:=by
 unfold BI;rw[A5];unfold List.Nodup;rw[D6,DF];intro i j hi hj hij;rw[BS]at hi hj;rw[Eu,Eu];have H:(i+r.length-1) % r.length<r.length:=EB _ (by lia);have a:(j+r.length-1) % r.length<r.length:=EB _ (by omega);show r.getD ((i+r.length-1) % r.length) 0≠r.getD ((j+r.length-1) % r.length) 0;rw[Ao,Ao,AQ H,AQ a];intro e;have E:=(Fx h).mp (show r[(i+r.length-1) % r.length]=r[(j+r.length-1) % r.length] from e);have f:(i+r.length-1) % r.length=if i=0 then r.length-1 else i-1:=by
  split
  ·subst_vars;rw[By,EX (by lia)]
  ·rw[show i+r.length-1=(i-1)+r.length by lia,IY,EX (by lia)]
 have F:(j+r.length-1) % r.length=j-1:=by
  rw[show j+r.length-1=(j-1)+r.length by lia,IY,EX (by lia)]
 rw[f,F]at E;split at E <;> lia
def CU (y:Int × Int):AO × D:=(.inl y.1,.int y.2)
theorem VW (h:x ∉ l.map (·.1)):putD (l.map CU) (.inl x) (.int y)=(l++[((x,y):_×_)]).map CU:=by
 unfold putD;rw[AB,BD]
 ·rfl
 ·rw[List.any_map,List.any_eq_true]
  rintro⟨z,Z,e⟩;have e:(Sum.inl z.1:AO)=Sum.inl x:=of_decide_eq_true e;injection e with e
  exact h<|Af.mpr (z,Z,e)
theorem Zy3 {l:AW}(nd:(l.map (·.1)).Nodup) (h:(x,y)∈l):valD (l.map CU) (.inl x)=some (.int y):=by
 induction l with
 |nil=>cases h
 |cons z r ih=>
  rw[BX,Ck]at nd;rw[BX];unfold valD;rcases Ar.mp h with e|h
  ·subst e
   rw[List.find?_cons_of_pos (by simp[CU])];rfl
  ·have n:z.1≠x:=λe=>nd.1 (by rw[e];exact Af.mpr (_,h,rfl))
   rw[KD (by simp[CU];exact λe=>n e)];exact ih nd.2 h
theorem SE {o:Aa}(h:x∈(o.flatMap BI).map (·.1)):x∈o.flatten:=by
 obtain⟨y,Y,rfl⟩:=Af.mp h;obtain⟨r,R,Y⟩:=Gu.mp Y;exact List.mem_flatten.mpr (r,R,Mi Y)
theorem Kz:∀{o:Aa},o.flatten.Nodup->((o.flatMap BI).map (·.1)).Nodup
 |[],_=>D9
 |r::o,h=>by
  rw[J9,D7]at h;rw[D8,BD,D7];refine(Qu h.1,Kz h.2.1,λa A b B=>?_);obtain⟨y,Y,rfl⟩:=Af.mp A;exact h.2.2 _ (Mi Y) _<|SE B
theorem Zyd (k:Nat):k ||| 1=2*(k / 2)+1:=by
 apply Nat.eq_of_testBit_eq;intro i;rw[Nat.testBit_or];cases i with
 |zero=>rw[Nat.testBit_zero,Nat.testBit_zero,Nat.testBit_zero];simp
 |succ i=>
  rw[Nat.testBit_succ,Nat.testBit_succ,Nat.testBit_succ,show (2*(k / 2)+1) / 2=k / 2 by lia];simp
theorem Pa (k:Nat):Builtin.bitXor (k:Int) 1=(partner k:Int):=by
 have e:Builtin.bitAnd (k:Int) 1=((k % 2:Nat):Int):=by
  unfold Builtin.bitAnd;rw[A1 (show (0:Int)<=(k:Int) by lia),A1 (show (0:Int)<=1 by decide)];show ((((k:Int).toNat &&& (1:Int).toNat:Nat)):Int)=_;rw[Bi,show (1:Int).toNat=1 from rfl,Nat.and_one_is_mod]
 have E:Builtin.bitOr (k:Int) 1=((2*(k / 2)+1:Nat):Int):=by
  unfold Builtin.bitOr Builtin.bitAnd;rw[A7 (show ¬ (0:Int)<=Builtin.bitNot (k:Int) by unfold Builtin.bitNot;lia),A7 (show ¬ (0:Int)<=Builtin.bitNot 1 by decide)];show Builtin.bitNot (Builtin.bitNot (((Builtin.bitNot<|Builtin.bitNot (k:Int)).toNat ||| (Builtin.bitNot<|Builtin.bitNot 1).toNat:Nat):Int))=_;have n:∀x:Int,Builtin.bitNot (Builtin.bitNot x)=x:=λx=>by unfold Builtin.bitNot;lia
  rw[n,n,n,Bi,show (1:Int).toNat=1 from rfl,Zyd]
 unfold Builtin.bitXor;rw[e,E];unfold partner;split <;> lia
theorem GI {α:Type}[DecidableEq α]:∀{l m:List α},l.Nodup->(∀x∈l,x∈m)->l.length<=m.length
 |[],_,_,_=>BZ _
 |x::l,m,nd,h=>by
  rw[Ck]at nd;have X:=h x Bh;have:=GI (l:=l) (m:=m.erase x) nd.2 λy Y=>by
   have n:y≠x:=λe=>nd.1 (e ▸ Y);exact(IA n).mpr (h y<|BQ _ Y)
  rw[IE X]at this;have s:0<m.length:=FL X;rw[Aj];lia
theorem Ay.flat_len (h:Ay n ts o):o.flatten.length<=2*ts.length:=by
 have:=GI (m:=(AR (2*ts.length)).map λe:Nat=>(e:Int)) h.flat λx X=>by
  obtain⟨r,R,X⟩:=List.mem_flatten.mp X;obtain⟨p,P,e⟩:=Gx.mp R;obtain⟨k,K,_,rfl⟩:=(h.row p r<|by rw[AQ P,e]).mem.mp X;exact Af.mpr (k,Ax.mpr K,rfl)
 rw[AK,BS]at this;exact this
theorem PH (hW:An n ts) (hO:Ay n ts o) (he:e<2*ts.length):valD ((o.flatMap BI).map CU) (.inl (e:Int))=some (.int<|DL (A0 ts o e) e):=by
 obtain⟨g,a,G⟩:=EF hW hO he;exact Zy3 (Kz hO.flat)<|Gu.mpr (_,Bk g,S9 G)
theorem Q9 (ts:AW) (m:Nat) (p:Int):(CO ts m p).Pairwise (· < ·):=by
 unfold CO;refine List.Pairwise.map _ (λa b h=>?_)<|List.Pairwise.filter _ D2;lia
theorem B7.least (h:B7 ts m p (x::r)):∀a∈r,x<=a:=by
 intro a ha;have H:=h.first;have b:=Q9 ts m p;have c:a∈CO ts m p:=h.perm.mem_iff.mp<|BQ _ ha;cases q:CO ts m p with
 |nil=>rw[q]at H;cases H
 |cons y l=>
  rw[q]at H b c;have e:x=y:=BY.inj H;subst e;rcases Ar.mp c with z|z
  ·lia
  ·have:=(KP.mp b).1 a z;lia
theorem Nz:∀(l:List Int),l≠[]->∃m,m∈l/\∀a∈l,m<=a
 |[],h=>absurd rfl h
 |[x],_=>(x,Bh,λa A=>by rw[Bc.mp A];exact FU _)
 |x::y::l,_=>by
  obtain⟨m,b,H⟩:=Nz (y::l) (by simp);by_cases h:x<=m
  ·refine(x,Bh,λa A=>?_)
   rcases Ar.mp A with z|z
   ·lia
   ·have:=H a z;lia
  ·refine(m,BQ _ b,λa A=>?_)
   rcases Ar.mp A with z|z
   ·lia
   ·exact H a z
theorem P0 {l:List Int}(nd:l.Nodup) (h:l[j]?=some x):l.idxOf x=j:=by
 obtain⟨a,H⟩:=BB.mp h;obtain⟨b,i,_⟩:=HX (r:=l) (x:=x) (by rw[<- H];exact Br a);obtain⟨c,I⟩:=BB.mp i;exact(Fx nd).mp (I.trans H.symm)
theorem To (r:List Int):(Bp r).length=r.length:=by
 cases r with
 |nil=>rfl
 |cons x t=>show (x::t.reverse).length=_;rw[Aj,KJ];rfl
def nxI (n k:Nat):Nat:=if k+1=n then 0 else k+1
def pvI (n k:Nat):Nat:=if k=0 then n-1 else k-1
def ngI (n k:Nat):Nat:=if k=0 then 0 else n-k
theorem Vv (h:k<n):(k+1) % n=nxI n k:=by
 unfold nxI;split
 ·rename_i e;rw[e,Nat.mod_self]
 ·rw[EX (by lia)]
theorem Ld (r:List Int) (h:k<r.length):(Bp r)[k]?=r[ngI r.length k]?:=by
 cases r with
 |nil=>simp at h
 |cons x t=>
  unfold ngI;cases k with
  |zero=>rfl
  |succ k=>
   show (x::t.reverse)[k+1]?=_;rw[Aj]at h ⊢;rw[AB (by lia),Gp,List.getElem?_reverse (by lia),show t.length+1-(k+1)=(t.length-1-k)+1 by lia,Gp]
def FF (r:List Int) (x:Int):Int:=r.getD (pvI r.length<|r.idxOf x) 0
theorem GC (nd:r.Nodup) (h:r[k]?=some x):DL r x=r.getD (nxI r.length k) 0:=by
 unfold DL;rw[P0 nd h,Vv (BB.mp h).1]
theorem LN (nd:r.Nodup) (h:r[k]?=some x):FF r x=r.getD (pvI r.length k) 0:=by
 unfold FF;rw[P0 nd h]
theorem NO (nd:r.Nodup):(Bp r).Nodup:=by
 have p:(Bp r).Perm r:=by
  unfold Bp;exact(List.Perm.append_left _<|List.reverse_perm _).trans (by rw[D0])
 exact p.nodup_iff.mpr nd
theorem TU (nd:r.Nodup) (h:x∈r):DL (Bp r) x=FF r x/\FF (Bp r) x=DL r x:=by
 obtain⟨k,K⟩:=Cv.mp h;have l:=(BB.mp K).1;have H:(Bp r)[ngI r.length k]?=some x:=by
  rw[Ld r (by unfold ngI;split <;> lia),<- K]
  congr 1;unfold ngI;split <;> split <;> lia
 rw[GC nd K,LN nd K,GC (NO nd) H,LN (NO nd) H,To];rw[Ao,Ao,Ao,Ao,Ld r (by unfold ngI nxI;split <;> split <;> lia),Ld r (by unfold ngI pvI;split <;> split <;> omega)]
 constructor
 ·congr 2
  unfold ngI nxI pvI;repeat' split
  all_goals lia
 ·congr 2
  unfold ngI nxI pvI;repeat' split
  all_goals lia
theorem WG {r:List Int}(hk:k<r.length):atI (r.map D.int) ((k:Int)-1)=some (.int<|r.getD (pvI r.length k) 0):=by
 unfold pvI;by_cases h0:k=0
 ·subst h0
  rw[AD rfl];obtain⟨R,y,rfl⟩:∃R y,r=R++[y]:=(r.dropLast,r.getLast (by intro z;subst z;simp at hk),(J6 _).symm);show atI ((R++[y]).map D.int) (-1)=_;rw[BD,G7,LY];simp
 ·rw[AB h0,show (k:Int)-1=((k-1:Nat):Int) by lia]
  exact CG (by rw[AZ,Ao,AQ (by omega:k-1<r.length)];rfl)
section
variable {P:Program}{w:World}{K:W.Frag}{mg:Str->Option Value}{base:Heap}{f:Addr}{fd:FuncData}
def J1:DSp:=λs t=>∃n ts,∃e:Nat,s=[BJ n ts,.int e]/\e<2*ts.length/\t (.int<|Ad ts e)
def BW (ts:AW) (o:Aa) (e:Nat):Int:=DL (A0 ts o e) e
def fFol:DSp:=λs t=>∃n ts o,∃e:Nat,s=[BJ n ts,Bd o,.int e]/\An n ts/\Ay n ts o/\e<2*ts.length/\t (.int<|BW ts o e)
def fPart:DSp:=λs t=>∃e:Nat,s=[.int e]/\t (.int<|partner e)
theorem Uo (mb:Mb mg) (F:BH K "place_of" "place_of" Kh f fd):FnOk P w K mg base CX0 1 f fd ["web","end"] (spD K J1):=by
 refine F.ok QX (Ca λS o h=>by obtain⟨_,_,_,rfl,_⟩:=h;rfl) λv A r s H V Q E R h=>?_;have u:=Bg R;refine(_,(Ag<|BF<|Ak (ixK K u) (Ak (ixK K u) (Ak (ixK K u) (pv 0) AN λ_ _=>rfl) (Ab GX (pv 1) AN) λ_ _=>rfl) (Ab CL (pv 1) AN) λ_ _=>rfl),Ce (λS o g=>?_) h);obtain⟨n,T,e,rfl,c,q⟩:=g;refine(by simp,?_);dsimp only[startD,Bf,A9,BN];obtain⟨t,i,a,b⟩:=P8 c;rw[D5]at a b;refine Bz<|AU<|AU<|AU<|AF rfl<|Ac<|BK (d:=.tup<|T.map BL) rfl ?_;refine AU<|AF rfl<|Ac<|jr_I (by lia,by lia)<|BK a ?_;exact AU<|AF rfl<|Ac<|jr_I (by show (0:Int)<2;omega)<|BK b q
theorem RY (mb:Mb mg) (C53:Callee P w K mg base 1 "place_of" ["web","end"] (spD K J1)) (F:BH K "follower" "follower" KW f fd):FnOk P w K mg base CX0 2 f fd ["web","order","end"] (spD K fFol):=by
 refine F.ok Ma (Ca λS T h=>by obtain⟨_,_,_,_,rfl,_⟩:=h;rfl) λv A r s H V Q E R h=>?_;have u:=Bg R;refine(_,(AV (Ap (i:=3) Ma.nd rfl (Or.inl rfl)<|Ak (ixK K u) (pv 1) (A3 C53 (R.mono<|by decide)<|AE (pv 0)<|AE (pv 2) AL) λ_ _=>rfl)<|Ag<|BF<|Ak (ixK K u) (pv 3) (Ab CL (Ab (addK K) (bmK K PySem.F.plainAttrs_tuple PySem.F.slot_tuple_index PySem.F.type_tuple_index (idxK K) (pv 3)<|AE (pv 2) AL) AN)<|A4 (lenK K) rfl (mb "len"<|by decide) B0<|AE (pv 3) AL) λ_ _=>rfl),Ce (λS T j=>?_) h);obtain⟨n,t,o,e,rfl,W,O,b,q⟩:=j;refine(by simp,?_);dsimp only[startD,Bf,A9,BN];obtain⟨g,l,G⟩:=EF W O b;obtain⟨y,z⟩:=Fe W b;obtain⟨x,I,k⟩:=HX G;have a:atI (o.map A8) (Ad t e)=some (A8<|A0 t o e):=by
  have p:Ad t e=(((Ad t e).toNat:Nat):Int):=by lia
  rw[p];exact CG (by rw[AZ,g];rfl)
 refine Ah<|BE<|AU<|AF rfl<|B4<|AJ<|AF rfl<|AJ<|AF rfl<|AM (n,t,e,rfl,b,BK a ?_);refine Bz<|AU<|AF rfl<|AU<|AU<|LQ<|AF rfl (A0 t o e,rfl,AF rfl (e,(A0 t o e).idxOf (e:Int),rfl,I,k,?_));refine Ac<|Co ?_;refine BC<|AJ<|AF rfl<|AM<|CM (Or.inr rfl) ?_;rw[AK];refine jr_I (by show (0:Int)<_;lia) ?_;have c:(((A0 t o e).idxOf (e:Int):Int)+1) % ((A0 t o e).length:Int)=((((A0 t o e).idxOf (e:Int)+1) % (A0 t o e).length:Nat):Int):=by push_cast;rfl
 rw[c];have m:((A0 t o e).idxOf (e:Int)+1) % (A0 t o e).length<(A0 t o e).length:=EB _ (by lia);refine BK (d:=.int<|BW t o e) (CG ?_) q;rw[AZ,AQ m];unfold BW DL;rw[Ao,AQ m];rfl
theorem R6 (mb:Mb mg) (F:BH K "_law_partner" "_law_partner" Ki f fd):FnOk P w K mg base CX0 1 f fd ["_law_end"] (spD K fPart):=by
 refine F.ok Qb (Ca λd t h=>by obtain⟨_,rfl,_⟩:=h;rfl) λv A r s H S Q E R h=>?_;have u:=Bg R;refine(_,(Ag<|BF<|Ab EI (Ab (addK K) (pv 0) AN)<|Ab Dh AN<|Ab CL (pv 0) AN),Ce (λd t b=>?_) h);obtain⟨e,rfl,q⟩:=b;refine(by simp,?_);dsimp only[startD,Bf,A9,BN]
 repeat walk_at "js"
 have a:(e:Int)+1-2*((e:Int) % 2)=(partner e:Int):=by unfold partner;split <;> lia
 rw[a];exact q
def fFore:DSp:=λs t=>∃n ts o,∃e:Nat,s=[BJ n ts,Bd o,.int e]/\An n ts/\Ay n ts o/\e<2*ts.length/\t (.int<|FF (A0 ts o e) e)
theorem Q5 (mb:Mb mg) (C53:Callee P w K mg base 1 "place_of" ["web","end"] (spD K J1)) (F:BH K "forerunner" "forerunner" KY f fd):FnOk P w K mg base CX0 2 f fd ["web","order","end"] (spD K fFore):=by
 refine F.ok Mc (Ca λd T h=>by obtain⟨_,_,_,_,rfl,_⟩:=h;rfl) λv A r s H S Q E R h=>?_;have u:=Bg R;refine(_,(AV (Ap (i:=3) Mc.nd rfl (Or.inl rfl)<|Ak (ixK K u) (pv 1) (A3 C53 (R.mono<|by decide)<|AE (pv 0)<|AE (pv 2) AL) λ_ _=>rfl)<|Ag<|BF<|Ak (ixK K u) (pv 3) (Ab EI (bmK K PySem.F.plainAttrs_tuple PySem.F.slot_tuple_index PySem.F.type_tuple_index (idxK K) (pv 3)<|AE (pv 2) AL) AN) λ_ _=>rfl),Ce (λd T c=>?_) h);obtain⟨n,t,o,e,rfl,W,O,b,q⟩:=c;refine(by simp,?_);dsimp only[startD,Bf,A9,BN];obtain⟨g,l,G⟩:=EF W O b;obtain⟨m,x⟩:=Fe W b;obtain⟨I,j,k⟩:=HX G;have a:atI (o.map A8) (Ad t e)=some (A8<|A0 t o e):=by
  have p:Ad t e=(((Ad t e).toNat:Nat):Int):=by omega
  rw[p];exact CG (by rw[AZ,g];rfl)
 refine Ah<|BE<|AU<|AF rfl<|B4<|AJ<|AF rfl<|AJ<|AF rfl<|AM (n,t,e,rfl,b,BK a ?_);refine Bz<|AU<|AF rfl<|AU<|LQ<|AF rfl (A0 t o e,rfl,AF rfl (e,(A0 t o e).idxOf (e:Int),rfl,j,k,?_));exact Ac<|Di<|BK (WG I) q
end
def iter (f:Int->Int) (e:Int):Nat->Int
 |0=>e
 |n+1=>f (iter f e n)
def CB (f:Int->Int) (e:Int) (n:Nat):List Int:=(AR n).map (iter f e)
structure CI (f:Int->Int) (m:Nat):Prop where
 to:∀x,0<=x->x<(m:Int)->0<=f x/\f x<(m:Int)
 inj:∀x y,0<=x->x<(m:Int)->0<=y->y<(m:Int)->f x=f y->x=y
def NdTo (f:Int->Int) (e:Int) (n:Nat):Prop:=∀i j,i<n->j<n->iter f e i=iter f e j->i=j
structure DM (f:Int->Int) (e:Int) (n:Nat):Prop where
 pos:0<n
 back:iter f e n=e
 nd:NdTo f e n
theorem LR (f:Int->Int) (e:Int) (j n:Nat):iter f (iter f e j) n=iter f e (j+n):=by
 induction n with
 |zero=>rfl
 |succ n ih=>show f (iter f (iter f e j) n)=f (iter f e (j+n));rw[ih]
theorem Iv (f:Int->Int) (e:Int) (n:Nat):(CB f e n).length=n:=by unfold CB;rw[AK,BS]
theorem Np (f:Int->Int) (e:Int) (a b:Nat):CB f e (a+b)=CB f e a++CB f (iter f e a) b:=by
 unfold CB;rw[List.range_add,BD,A5];congr 1;apply ES;intro i _;exact(LR f e a i).symm
theorem SG (f:Int->Int) (e:Int) (n:Nat):CB f e (n+1)=CB f e n++[iter f e n]:=by rw[Np];rfl
theorem Bu:x∈CB f e n ↔ ∃i,i<n/\iter f e i=x:=by
 unfold CB;rw[Af];constructor
 ·rintro⟨i,h,rfl⟩;exact(i,Ax.mp h,rfl)
 ·rintro⟨i,h,rfl⟩;exact(i,Ax.mpr h,rfl)
theorem S1 (h:i<n):(CB f e n)[i]?=some (iter f e i):=by
 unfold CB;rw[AZ,ET h];rfl
theorem DM.uniq (h:DM f e n) (h':DM f e k):n=k:=by
 rcases IX n k with z|z|z
 ·have:=h'.nd n 0 z h'.pos (by rw[h.back];rfl)
  have:=h.pos;lia
 ·exact z
 ·have:=h.nd k 0 z h.pos (by rw[h'.back];rfl)
  have:=h'.pos;lia
noncomputable def per (f:Int->Int) (e:Int):Nat:=Classical.epsilon<|DM f e
noncomputable def orb (f:Int->Int) (e:Int):List Int:=CB f e<|per f e
theorem DM.per (h:DM f e n):Lw.per f e=n:=(Classical.epsilon_spec (p:=DM f e) (n,h)).uniq h
theorem DM.orb (h:DM f e n):Lw.orb f e=CB f e n:=by unfold Lw.orb;rw[h.per]
section
variable {f:Int->Int}{m:Nat}(F:CI f m) {e:Int}(h0:0<=e) (h1:e<(m:Int))
include F h0 h1
theorem CN (n:Nat):0<=iter f e n/\iter f e n<(m:Int):=by
 induction n with
 |zero=>exact(h0,h1)
 |succ n ih=>exact F.to _ ih.1 ih.2
theorem Oq {n:Nat}(hn:1<=n) (nd:NdTo f e n) (hne:iter f e n≠e):NdTo f e (n+1):=by
 have y:∀j,j<n->iter f e n≠iter f e j:=by
  intro j hj q;cases j with
  |zero=>exact hne q
  |succ j=>
   obtain⟨k,rfl⟩:∃k,n=k+1:=(n-1,by lia);have a:=CN F h0 h1 k;have b:=CN F h0 h1 j;have:=nd k j (by lia) (by lia)<|F.inj _ _ a.1 a.2 b.1 b.2 q;lia
 intro i j hi hj q;by_cases hin:i=n
 ·by_cases hjn:j=n
  ·lia
  ·subst hin;exact absurd q (y j<|by lia)
 ·by_cases hjn:j=n
  ·subst hjn;exact absurd q.symm (y i<|by lia)
  ·exact nd i j (by lia) (by lia) q
theorem Ht {n:Nat}(nd:NdTo f e n):n<=m:=by
 have N:(CB f e n).Nodup:=by
  unfold CB List.Nodup;rw[D6,DF];intro i j h hj hij;rw[BS]at h hj;rw[Eu,Eu];intro q;have:=nd i j h hj q;lia
 have:=GI (m:=(AR m).map λe:Nat=>(e:Int)) N λx X=>by
  obtain⟨i,h,rfl⟩:=Bu.mp X;have:=CN F h0 h1 i;exact Af.mpr ((iter f e i).toNat,Ax.mpr (by lia),by lia)
 rw[Iv,AK,BS]at this;exact this
theorem P6:NdTo f e 1:=λi j h J _=>by lia
theorem Zyp:∃n,DM f e n:=by
 apply Classical.byContradiction;intro hn;have l:∀n,NdTo f e (n+1):=by
  intro n
  induction n with
  |zero=>exact P6 F h0 h1
  |succ n ih=>
   refine Oq F h0 h1 (by lia) ih λq=>hn (n+1,by lia,q,ih)
 have:=Ht F h0 h1<|l m;lia
theorem Dw:DM f e (per f e):=by
 obtain⟨n,h⟩:=Zyp F h0 h1;rw[h.per];exact h
theorem DA:e∈orb f e:=Bu.mpr (0,(Dw F h0 h1).pos,rfl)
theorem Lr:(orb f e).length<=m:=by
 unfold orb;rw[Iv];exact Ht F h0 h1 (Dw F h0 h1).nd
theorem CD (k:Nat):iter f e k∈orb f e:=by
 have O:=Dw F h0 h1
 induction k with
 |zero=>exact DA F h0 h1
 |succ k ih=>
  obtain⟨i,h,q⟩:=Bu.mp ih;show f (iter f e k)∈_;rw[<- q];by_cases hl:i+1=per f e
  ·have:f (iter f e i)=e:=by
    have:=O.back;rw[<- hl]at this;exact this
   rw[this];exact DA F h0 h1
  ·exact Bu.mpr (i+1,by lia,rfl)
theorem Cq {x:Int}(hx:x∈orb f e):0<=x/\x<(m:Int):=by
 obtain⟨i,_,rfl⟩:=Bu.mp hx;exact CN F h0 h1 i
theorem ED {x:Int}(hx:x∈orb f e):e∈orb f x:=by
 have O:=Dw F h0 h1;obtain⟨j,h,rfl⟩:=Bu.mp hx;have a:=CN F h0 h1 j;have:=CD F a.1 a.2<|per f e-j;rw[LR,show j+(per f e-j)=per f e by lia,O.back]at this;exact this
theorem Eb {x y:Int}(hx:x∈orb f e) (hy:y∈orb f x):y∈orb f e:=by
 obtain⟨j,_,rfl⟩:=Bu.mp hx;obtain⟨i,_,rfl⟩:=Bu.mp hy;rw[LR];exact CD F h0 h1 _
theorem Se:(orb f e).Nodup:=by
 have O:=Dw F h0 h1;unfold orb CB List.Nodup;rw[D6,DF];intro i j hi hj hij;rw[BS]at hi hj;rw[Eu,Eu];intro q;have:=O.nd i j hi hj q;lia
theorem LP:∃l,orb f e=e::l:=by
 have O:=Dw F h0 h1;unfold orb;obtain⟨n,h⟩:∃n,per f e=1+n:=(per f e-1,by have:=O.pos;lia);rw[h,Np];exact(_,rfl)
end
open Classical in
noncomputable def A6 (f:Int->Int) (e:Nat):Bool:=decide (∀x∈orb f (e:Int),(e:Int)<=x)
noncomputable def MV (f:Int->Int) (k:Nat):Aa:=((AR k).filter (A6 f)).map λe:Nat=>orb f (e:Int)
section
variable {f:Int->Int}{m:Nat}(F:CI f m)
include F
theorem S6 {x:Int}(h0:0<=x) (h1:x<(m:Int)):∃e:Nat,e<m/\A6 f e=true/\(e:Int)∈orb f x/\∀r∈MV f m,x∈r↔r=orb f (e:Int):=by
 obtain⟨y,Y,h⟩:=Nz (orb f x) (by obtain⟨l,e⟩:=LP F h0 h1;rw[e];simp);have r:=Cq F h0 h1 Y;have E:((y.toNat:Nat):Int)=y:=by lia
 have L:A6 f y.toNat=true:=by
  unfold A6;rw[decide_eq_true_iff,E];exact λz Z=>h z<|Eb F h0 h1 Y Z
 refine(y.toNat,by lia,L,by rw[E];exact Y,λq Q=>?_);unfold MV at Q;obtain⟨e,H,rfl⟩:=Af.mp Q;rw[Bo,Ax]at H;rw[E];constructor
 ·intro hx
  have c:y∈orb f (e:Int):=Eb F (by lia) (by lia) hx Y;have d:(e:Int)∈orb f x:=ED F (by omega) (by omega) hx;have a:=h _ d;have b:(e:Int)<=y:=by
   have:=H.2;unfold A6 at this;exact of_decide_eq_true this y c
  rw[show (e:Int)=y by lia]
 ·intro q
  rw[q];exact ED F h0 h1 Y
end
theorem Tz (h:x∈r):DL r x∈r:=by
 obtain⟨H,_,_⟩:=HX h;have m:(r.idxOf x+1) % r.length<r.length:=EB _ (by omega);unfold DL;rw[Ao,AQ m];exact Br m
theorem Uv (nd:r.Nodup) (hx:x∈r) (hy:y∈r) (h:DL r x=DL r y):x=y:=by
 obtain⟨i,I⟩:=Cv.mp hx;obtain⟨j,J⟩:=Cv.mp hy;obtain⟨c,d⟩:=BB.mp I;obtain⟨f,g⟩:=BB.mp J;rw[GC nd I,GC nd J,Ao,Ao]at h;have a:nxI r.length i<r.length:=by unfold nxI;split <;> lia
 have b:nxI r.length j<r.length:=by unfold nxI;split <;> lia
 rw[AQ a,AQ b]at h;have e:=(Fx nd).mp (show r[nxI r.length i]=r[nxI r.length j] from h);have:i=j:=by unfold nxI at e;split at e <;> split at e <;> lia
 subst this;rw[I]at J;exact BY.inj J
theorem Cy (e:Nat):partner (partner e)=e:=by unfold partner;split <;> split <;> lia
def onI (ts:AW) (o:Aa) (x:Int):Int:=BW ts o<|partner x.toNat
theorem Fi (hW:An n ts) (hO:Ay n ts o) (he:e<2*ts.length):∃g:Nat,g<2*ts.length/\Ad ts g=Ad ts e/\(g:Int)=BW ts o e:=by
 obtain⟨b,G,a⟩:=EF hW hO he;exact G.mem.mp<|Tz a
theorem QI (hW:An n ts) (hO:Ay n ts o):CI (onI ts o) (2*ts.length):=by
 refine(λx H b=>?_,λx y H b l m q=>?_)
 ·obtain⟨g,G,_,e⟩:=Fi hW hO (CZ (show x.toNat<2*ts.length by lia))
  unfold onI;rw[<- e];lia
 ·have h:=CZ (show x.toNat<2*ts.length by lia)
  have Y:=CZ (show y.toNat<2*ts.length by lia);obtain⟨g,G,P,i⟩:=Fi hW hO h;obtain⟨k,s,c,j⟩:=Fi hW hO Y;unfold onI at q;have K:g=k:=by lia
  subst K;have p:Ad ts (partner x.toNat)=Ad ts (partner y.toNat):=P.symm.trans c;obtain⟨_,d,f⟩:=EF hW hO h;obtain⟨_,_,r⟩:=EF hW hO Y;have R:A0 ts o (partner y.toNat)=A0 ts o (partner x.toNat):=by unfold A0;rw[p]
  unfold BW at q;rw[R]at q r;have:=Uv d.nodup f r q;have E:partner x.toNat=partner y.toNat:=by lia
  have a:=congrArg partner E;rw[Cy,Cy]at a;lia
def lone (o:Aa):Nat:=(o.filter λr=>r.isEmpty).length
theorem PQ (o:Aa):lone o<=o.length:=H0 _ _
theorem Sy (o:Aa) (p:D->Bool) (hp:∀r:List Int,p (rowD r)=r.isEmpty) (g:D->D) (hg:∀d,g d=.tup []):((o.map rowD).filter p).map g=(Am (lone o) ([]:List Int)).map rowD:=by
 unfold lone
 induction o with
 |nil=>rfl
 |cons r o ih=>
  rw[BX,CC,CC,hp];cases h:r.isEmpty with
  |true=>simp only[if_true];rw[BX,Aj,Gz,BX,ih,hg];rfl
  |false=>simp only[Av,if_false];exact ih
section
variable {P:Program}{w:World}{K:W.Frag}{mg:Str->Option Value}{base:Heap}{f:Addr}{fd:FuncData}
theorem DK:2<=sizeLine:=by decide
end
def loI (a b:Int):Int:=if b<a then b else a
def hiI (a b:Int):Int:=if b > a then b else a
def CA (l:List Int) (a b:Int):List Int:=l.map λf=>if f=hiI (l.getD a.toNat 0) (l.getD b.toNat 0) then loI (l.getD a.toNat 0) (l.getD b.toNat 0) else f
def Ae (n:Nat) (ts:AW):List Int:=ts.foldl (λl t=>CA l t.1 t.2) ((AR n).map λi:Nat=>(i:Int))
theorem M6 (l:List Int) (a b:Int):(CA l a b).length=l.length:=by unfold CA;rw[AK]
theorem DH (n:Nat) (ts:AW):(Ae n ts).length=n:=by
 unfold Ae;have:∀(ts:AW) (l:List Int),(ts.foldl (λl t=>CA l t.1 t.2) l).length=l.length:=by
  intro ts
  induction ts with
  |nil=>intro l;rfl
  |cons t ts ih=>intro l;rw[List.foldl_cons,ih,M6]
 rw[this,AK,BS]
theorem FX {ts:AW}(h:ts[i]?=some t):Ae n (ts.take<|i+1)=CA (Ae n<|ts.take i) t.1 t.2:=by
 unfold Ae;rw[Dl,h,List.foldl_append];rfl
def Be (ms l:List Int):Prop:=ms.Pairwise (· < ·)/\∀x,x∈ms↔x∈l
theorem HN:∀{ms ms':List Int},ms.Pairwise (· < ·)->ms'.Pairwise (· < ·)->(∀x,x∈ms↔x∈ms')->ms=ms'
 |[],[],_,_,_=>rfl
 |[],y::l',_,_,h=>by have:=(h y).mpr (by simp);simp at this
 |x::l,[],_,_,h=>by have:=(h x).mp (by simp);simp at this
 |x::l,y::l',h1,h2,h=>by
  rw[KP]at h1 h2;have e:x=y:=by
   have a:=(h x).mp (by simp);have b:=(h y).mpr (by simp);rcases Ar.mp a with z|z
   ·exact z
   ·rcases Ar.mp b with Z|Z
    ·exact Z.symm
    ·have:=h1.1 _ Z
     have:=h2.1 _ z;lia
  subst e;rw[HN h1.2 h2.2 λz=>?_];constructor
  ·intro hz
   have:=h1.1 _ hz;rcases Ar.mp ((h z).mp (BQ _ hz)) with q|q
   ·lia
   ·exact q
  ·intro hz
   have:=h2.1 _ hz;rcases Ar.mp ((h z).mpr (BQ _ hz)) with q|q
   ·omega
   ·exact q
theorem Be.uniq (h:Be ms l) (h':Be ms' l):ms=ms':=HN h.1 h'.1 λx=>(h.2 x).trans (h'.2 x).symm
theorem GJ:∀{ms l:List Int},ms.Nodup->(∀x∈ms,x∈l)->ms.length<=l.length
 |[],_,_,_=>by simp
 |x::ms,l,h1,h2=>by
  rw[Ck]at h1;have h:=h2 x (by simp);have:=GJ (ms:=ms) (l:=l.erase x) h1.2 λy Y=>(IA λz:y=x=>h1.1 (z ▸ Y)).mpr (h2 y (by simp[Y]));rw[IE h]at this;have:=FL h;rw[Aj];lia
theorem Be.len (h:Be ms l):ms.length<=l.length:=GJ (h.1.imp λz=>Int.ne_of_lt z) λx X=>(h.2 x).mp X
def FG (l:List Int) (n:Nat) (f:Int):List Int:=((AR n).map λi:Nat=>(i:Int)).filter λp=>decide (l.getD p.toNat 0=f)
def lstI (r:List Int):D:=.lst<|r.map .int
def Jy (n:Nat) (ts:AW) (ms:List Int):Aa:=ms.map<|FG (Ae n ts) n
def Hy:NSp:=λs t=>∃n ts,s=[BJ n ts]/\An n ts/\∀ms,Be ms (Ae n.toNat ts)->t ((Jy n.toNat ts ms).map lstI)
theorem Py (l:List Int) (n:Nat) (f:Int) (p:D->Bool) (hp:∀i:Int,p (.int i)=decide (l.getD i.toNat 0=f)) (g:D->D) (hg:∀d,g d=d):D.lst (((rngD 0 n).filter p).map g)=lstI (FG l n f):=by
 have e:rngD 0 n=((AR n).map λi:Nat=>(i:Int)).map D.int:=by
  unfold rngD;rw[A5];apply ES;intro i _;show D.int (0+(i:Int))=D.int (i:Int);rw[D5]
 unfold lstI FG;rw[e,F0,show g=id from funext hg,F4];have E:(p∘D.int)=λq:Int=>decide (l.getD q.toNat 0=f):=funext hp;rw[E]
theorem Oy {l ms:List Int}(q:D->Bool) (hq:∀d,q d=true) (g:D->D) (hg:∀f:Int,g (.int f)=lstI (FG l n f)):((ms.map D.int).filter q).map g=(ms.map<|FG l n).map lstI:=by
 rw[EU.mpr (λd _=>hq d),A5,A5];apply ES;intro f _;exact hg f
section
variable {f:Int->Int}{m:Nat}(F:CI f m)
include F
theorem U7 {e:Int}(h0:0<=e) (h1:e<(m:Int)) {k:Nat}(hk:k<(orb f e).length):f ((orb f e).getD (pvI (orb f e).length k) 0)=(orb f e).getD k 0/\0<=(orb f e).getD (pvI (orb f e).length k) 0/\(orb f e).getD (pvI (orb f e).length k) 0<(m:Int):=by
 have O:=Dw F h0 h1;have l:(orb f e).length=per f e:=Iv ..;have g:∀i,i<per f e->(orb f e).getD i 0=iter f e i:=λi h=>by
  rw[Ao,show (orb f e)[i]?=some (iter f e i) from S1 h];rfl
 rw[l]at hk ⊢;unfold pvI;by_cases hk0:k=0
 ·subst hk0
  rw[AD rfl,g _ (by omega),g 0 hk];have:=CN F h0 h1<|per f e-1;refine(?_,this);have:=O.back;rw[show per f e=(per f e-1)+1 by lia]at this;exact this
 ·rw[AB hk0,g _ (by omega),g k hk]
  have:=CN F h0 h1<|k-1;refine(?_,this);obtain⟨j,rfl⟩:∃j,k=j+1:=(k-1,by lia);rfl
end
theorem E4 (l:List Int) (a b:Int) (hp:p<l.length):(CA l a b).getD p 0=if l.getD p 0=hiI (l.getD a.toNat 0) (l.getD b.toNat 0) then loI (l.getD a.toNat 0) (l.getD b.toNat 0) else l.getD p 0:=by
 unfold CA;rw[Ao,AZ,AQ hp,Ao (l:=l) (i:=p),AQ hp];rfl
theorem lohi (a b:Int):(a=loI a b\/a=hiI a b)/\(b=loI a b\/b=hiI a b):=by
 unfold loI hiI;constructor
 ·by_cases h:b<a
  ·right;rw[AB (by lia)]
  ·left;rw[AB h]
 ·by_cases h:b<a
  ·left;rw[AD h]
  ·by_cases h2:b > a
   ·right;rw[AD h2]
   ·left;rw[AB h];lia
theorem NI (l:List Int) {t:Int × Int}(h1:t.1.toNat<l.length) (h2:t.2.toNat<l.length):(CA l t.1 t.2).getD t.1.toNat 0=loI (l.getD t.1.toNat 0) (l.getD t.2.toNat 0)/\(CA l t.1 t.2).getD t.2.toNat 0=loI (l.getD t.1.toNat 0) (l.getD t.2.toNat 0):=by
 obtain⟨a,b⟩:=lohi (l.getD t.1.toNat 0)<|l.getD t.2.toNat 0;rw[E4 _ _ _ h1,E4 _ _ _ h2];constructor
 ·split
  ·rfl
  ·rename_i h;rcases a with a|a
   ·exact a
   ·exact absurd a h
 ·split
  ·rfl
  ·rename_i h;rcases b with b|b
   ·exact b
   ·exact absurd b h
section
variable {N:Nat}{ts:AW}(hW:An (N:Int) ts)
include hW
theorem NY:∀i,i<=ts.length->∀t∈ts.take i,(Ae N<|ts.take i).getD t.1.toNat 0=(Ae N<|ts.take i).getD t.2.toNat 0
 |0,_,t,ht=>by simp at ht
 |i+1,hi,t,ht=>by
  have l:i<ts.length:=hi;have z:=AQ l;rw[FX z];have L:=DH N<|ts.take i;have u:=hW.tie _<|Br l;rw[Dl,z]at ht;rcases Bb.mp ht with h|h
  ·have H:=NY i (by lia) t h
   have r:=hW.tie t<|List.mem_of_mem_take h;rw[E4 _ _ _ (by omega),E4 _ _ _ (by omega),H]
  ·have e:t=ts[i]:=by simpa using h
   subst e;obtain⟨a,b⟩:=NI (Ae N<|ts.take i) (t:=ts[i]) (by omega) (by omega);rw[a,b]
theorem US {t:Int × Int}(ht:t∈ts):(Ae N ts).getD t.1.toNat 0=(Ae N ts).getD t.2.toNat 0:=by
 have:=NY hW ts.length (AS _) t (by rw[B2];exact ht);rw[B2]at this;exact this
end
section
variable {N:Nat}{ts:AW}{o:Aa}(hW:An (N:Int) ts) (hO:Ay (N:Int) ts o)
include hW
theorem RD {e:Nat}(he:e<2*ts.length):(Ae N ts).getD (Ad ts<|partner e).toNat 0=(Ae N ts).getD (Ad ts e).toNat 0:=by
 have k:e / 2<ts.length:=by omega
 have z:=AQ k;have t:=US hW<|Br k;have E:partner e / 2=e / 2:=by unfold partner;split <;> lia
 unfold Ad;rw[E,z];dsimp only;by_cases h:e % 2=0
 ·rw[AD h,AB (by unfold partner;rw[AD h];lia)];exact t.symm
 ·rw[AB h,AD (by unfold partner;rw[AB h];lia)];exact t
include hO
include hW hO
end
theorem N2 (h:l.getD a.toNat 0=l.getD b.toNat 0):CA l a b=l:=by
 unfold CA
 conv=>rhs;rw[<- F4 l]
 apply ES;intro f _;have e:hiI (l.getD a.toNat 0) (l.getD b.toNat 0)=l.getD a.toNat 0:=by rw[<- h];unfold hiI;split <;> rfl
 have E:loI (l.getD a.toNat 0) (l.getD b.toNat 0)=l.getD a.toNat 0:=by rw[<- h];unfold loI;split <;> rfl
 rw[e,E];split
 ·rename_i z;exact z.symm
 ·rfl
structure Goes (N:Nat) (l l':List Int) (lo hi:Int):Prop where
 len:l.length=N
 len':l'.length=N
 lt:lo<hi
 inL:lo∈l
 inH:hi∈l
 to:∀p:Nat,p<N->l'.getD p 0=if l.getD p 0=hi then lo else l.getD p 0
theorem NG {N:Nat}{l:List Int}{t:Int × Int}(hl:l.length=N) (h1:t.1.toNat<N) (h2:t.2.toNat<N) (hne:l.getD t.1.toNat 0≠l.getD t.2.toNat 0) :
  Goes N l (CA l t.1 t.2) (loI (l.getD t.1.toNat 0)<|l.getD t.2.toNat 0) (hiI (l.getD t.1.toNat 0)<|l.getD t.2.toNat 0):=by
 have m:l.getD t.1.toNat 0∈l:=by rw[Ao,AQ (by lia:t.1.toNat<l.length)];exact Br _
 have M:l.getD t.2.toNat 0∈l:=by rw[Ao,AQ (by lia:t.2.toNat<l.length)];exact Br _
 refine(hl,by rw[M6,hl],?_,?_,?_,λp h=>E4 _ _ _<|by lia)
 ·unfold loI hiI;split <;> split <;> omega
 ·unfold loI;split
  ·exact M
  ·exact m
 ·unfold hiI;split
  ·exact M
  ·exact m
section
variable {N:Nat}{l l' ms ms':List Int}{lo hi:Int}(G:Goes N l l' lo hi)
theorem L9 (h:x∈l):∃p:Nat,p<l.length/\l.getD p 0=x:=by
 obtain⟨p,P,rfl⟩:=KN h;exact(p,P,by rw[Ao,AQ P];rfl)
theorem L3 (h:p<l.length):l.getD p 0∈l:=by
 rw[Ao,AQ h];exact Br h
include G
theorem Goes.mem {x:Int}:x∈l'↔x∈l/\x≠hi:=by
 have H:=G.len;have a:=G.len';have b:=G.lt;constructor
 ·intro h
  obtain⟨p,P,e⟩:=L9 h;rw[G.to p (by lia)]at e;split at e
  ·rw[<- e];exact(G.inL,by lia)
  ·rename_i z
   rw[<- e];exact(L3 (by lia),z)
 ·rintro⟨h,n⟩
  obtain⟨p,P,e⟩:=L9 h;have:l'.getD p 0=x:=by rw[G.to p (by lia),e,AB n]
  rw[<- this];exact L3 (by lia)
theorem Goes.firsts (h:Be ms l) (h':Be ms' l'):ms'=ms.filter λg=>decide (g≠hi):=by
 refine HN h'.1 (List.Pairwise.filter _ h.1) λx=>?_;rw[h'.2,Bo,decide_eq_true_iff,h.2];exact G.mem
omit G in
theorem Uq (h1:ms.Pairwise (· < ·)) (h3:lo∈ms):(ms.filter λg=>decide (g=lo))=[lo]:=by
 refine HN (List.Pairwise.filter _ h1) (by simp) λx=>?_;rw[Bo,decide_eq_true_iff,Bc];exact(λh=>h.2,λh=>(h ▸ h3,h))
omit G in
theorem GA {α:Type}(p:α -> Bool):∀l:List α,l.length=(l.filter p).length+(l.filter λx=>!p x).length
 |[]=>rfl
 |x::l=>by
  have i:=GA p l;rw[CC,CC];cases h:p x with
  |true=>simp only[if_true,DV,Av,if_false,Aj];lia
  |false=>simp only[if_true,HA,Av,if_false,Aj];lia
theorem Goes.count (h:Be ms l) (h':Be ms' l'):ms.length=ms'.length+1:=by
 rw[G.firsts h h'];have e:=Uq h.1 ((h.2 _).mpr G.inH);have q:=GA (λg:Int=>decide (g=hi)) ms;rw[e,DS]at q;have E:(ms.filter λg=>!decide (g=hi))=ms.filter λg=>decide (g≠hi):=by
  apply DQ;intro g _;by_cases c:g=hi
  ·rw[A1 c,A7 (by simpa using c)];rfl
  ·rw[A7 c,A1 c];rfl
 rw[E]at q;lia
end
theorem Io {S:Int->Prop}(h:S e) (hc:∀x,S x->S (f x)):∀y∈orb f e,S y:=by
 intro y hy;obtain⟨j,J,rfl⟩:=Bu.mp hy;clear J hy
 induction j with
 |zero=>exact h
 |succ j ih=>exact hc _ ih
def Aq (f:Int->Int) (a b:Int) (x:Int):Int:=if x=a then f b else if x=b then f a else f x
theorem Eh (f:Int->Int) (a b:Int):Aq f a b a=f b:=by unfold Aq;rw[AD rfl]
theorem E9 (f:Int->Int) (a b:Int):Aq f a b b=f a:=by
 unfold Aq;by_cases h:b=a
 ·rw[AD h,h]
 ·rw[AB h,AD rfl]
theorem Dg (h1:x≠a) (h2:x≠b):Aq f a b x=f x:=by unfold Aq;rw[AB h1,AB h2]
theorem Ta (f:Int->Int) (a b:Int):Aq (Aq f a b) a b=f:=by
 funext x
 by_cases h1:x=a
 ·subst h1;rw[Eh,E9]
 ·by_cases h2:x=b
  ·subst h2;rw[E9,Eh]
  ·rw[Dg h1 h2,Dg h1 h2]
theorem GN (F:CI f m) (a0:0<=a) (a1:a<(m:Int)) (b0:0<=b) (b1:b<(m:Int)):CI (Aq f a b) m:=by
 refine(λx i H=>?_,λx y j l n p q=>?_)
 ·unfold Aq
  split
  ·exact F.to _ b0 b1
  ·split
   ·exact F.to _ a0 a1
   ·exact F.to _ i H
 ·-- the preimage through the exchange
  have k:∀z:Int,∃z',Aq f a b z=f z' /\ (z=a->z'=b)/\(z=b->z'=a)/\(z≠a->z≠b->z'=z):=λz=>by
   by_cases H:z=a
   ·refine(b,by rw[H,Eh],λ_=>rfl,λh=>?_,λh=>absurd H h)
    rw[<- h,H]
   ·by_cases h2:z=b
    ·exact(a,by rw[h2,E9],λh=>absurd h H,λ_=>rfl,λ_ h=>absurd h2 h)
    ·exact(z,Dg H h2,λh=>absurd h H,λh=>absurd h h2,λ_ _=>rfl)
  obtain⟨X,E,A,B,O⟩:=k x;obtain⟨Y,g,c,d,o⟩:=k y;have r:0<=X /\ X<(m:Int):=by
   by_cases H:x=a
   ·rw[A H];exact(b0,b1)
   ·by_cases h2:x=b
    ·rw[B h2];exact(a0,a1)
    ·rw[O H h2];exact(j,l)
  have R:0<=Y /\ Y<(m:Int):=by
   by_cases H:y=a
   ·rw[c H];exact(b0,b1)
   ·by_cases h2:y=b
    ·rw[d h2];exact(a0,a1)
    ·rw[o H h2];exact(n,p)
  have e:=F.inj X Y r.1 r.2 R.1 R.2 (by rw[<- E,<- g];exact q);by_cases H:x=a
  ·by_cases h2:y=a
   ·rw[H,h2]
   ·by_cases h3:y=b
    ·have:=A H;have:=d h3;lia
    ·have:=A H;have:=o h2 h3;lia
  ·by_cases h1':x=b
   ·by_cases h2:y=a
    ·have:=B h1';have:=c h2;lia
    ·by_cases h3:y=b
     ·rw[h1',h3]
     ·have:=B h1';have:=o h2 h3;lia
   ·have s:=O H h1'
    by_cases h2:y=a
    ·have:=c h2;lia
    ·by_cases h3:y=b
     ·have:=d h3;lia
     ·have:=o h2 h3;lia
noncomputable def cnt (f:Int->Int) (m:Nat) (Pd:Nat->Bool):Nat:=((AR m).filter λe=>A6 f e && Pd e).length
section
variable {f:Int->Int}{m:Nat}(F:CI f m)
include F
theorem HR {x:Int}(h0:0<=x) (h1:x<(m:Int)) (p:Nat->Bool) (hp:∀e:Nat,e<m->(p e=true↔(e:Int)∈orb f x)):((AR m).filter λe=>A6 f e && p e).length=1:=by
 obtain⟨g,G,L,n,_⟩:=S6 F h0 h1;have M:∀e,e∈((AR m).filter λe=>A6 f e && p e)↔e=g:=λe=>by
  rw[Bo,Ax,Cj];constructor
  ·rintro⟨h,c,l⟩
   have l:=(hp e h).mp l;have d:=Eb F (by lia) (by lia) (ED F h0 h1 l) n;have i:=Eb F (by lia) (by lia) (ED F h0 h1 n) l;have a:=of_decide_eq_true (show decide (∀z∈orb f (e:Int),(e:Int)<=z)=true from c) _ d;have b:=of_decide_eq_true (show decide (∀z∈orb f (g:Int),(g:Int)<=z)=true from L) _ i;lia
  ·rintro rfl
   exact(G,L,(hp e G).mpr n)
 have D:((AR m).filter λe=>A6 f e && p e).Nodup:=List.Pairwise.filter _ Gr;have a:=GI (m:=[g]) D λe h=>by rw[Bc];exact(M e).mp h
 have b:=FL ((M g).mpr rfl);rw[DS]at a;lia
theorem Ou {g:Int->Int}{S:Int->Prop}(hS:∀x,0<=x->x<(m:Int)->¬ S x->g x=f x) (hc:∀x,0<=x->x<(m:Int)->¬ S x->¬ S (f x)) (G:CI g m) {e:Int}(h0:0<=e) (h1:e<(m:Int)) (hn:¬ S e):∀y,y∈orb g e↔y∈orb f e:=by
 have t:∀j,iter g e j=iter f e j/\¬ S (iter f e j):=λj=>by
  induction j with
  |zero=>exact(rfl,hn)
  |succ j ih=>
   have r:=CN F h0 h1 j;refine(?_,hc _ r.1 r.2 ih.2);show g (iter g e j)=f (iter f e j);rw[ih.1,hS _ r.1 r.2 ih.2]
 intro y;constructor
 ·intro hy
  obtain⟨j,_,rfl⟩:=Bu.mp hy;rw[(t j).1];exact CD F h0 h1 j
 ·intro hy
  obtain⟨j,_,rfl⟩:=Bu.mp hy;rw[<- (t j).1];exact CD G h0 h1 j
end
section
variable {f:Int->Int}{m:Nat}(F:CI f m) {a b:Int}(a0:0<=a) (a1:a<(m:Int)) (b0:0<=b) (b1:b<(m:Int)) (hab:a≠b) (hin:b∈orb f a)
include F a0 a1 b0 b1 hab hin
theorem halves:∃j,0<j/\j<per f a/\iter f a j=b/\(∀y,y∈orb (Aq f a b) b ↔ ∃i,1<=i/\i<=j/\iter f a i=y)/\(∀y,y∈orb (Aq f a b) a ↔ ∃i,(i=0\/j<i)/\i<per f a/\iter f a i=y):=by
 have O:=Dw F a0 a1;have G:=GN F a0 a1 b0 b1;obtain⟨j,g,J⟩:=Bu.mp hin;have d:0<j:=by
  rcases Nat.eq_zero_or_pos j with z|z
  ·rw[z]at J;exact absurd J hab
  ·exact z
 have n:∀i,0<i->i<per f a->iter f a i≠a:=λi h H q=>by
  have:=O.nd i 0 H O.pos q;lia
 have B:∀i,i≠j->i<per f a->iter f a i≠b:=λi h H q=>by
  have:=O.nd i j H g<|q.trans J.symm;lia
 have u:∀i,1<=i->i<=j->iter (Aq f a b) b i=iter f a i:=λi h H=>by
  induction i with
  |zero=>lia
  |succ i ih=>
   cases i with
   |zero=>exact E9 f a b
   |succ i=>
    show Aq f a b (iter (Aq f a b) b<|i+1)=f (iter f a<|i+1);rw[ih (by lia) (by lia),Dg (n _ (by lia)<|by lia) (B _ (by lia)<|by omega)]
 have P:∀i,1<=i->j+i<=per f a->iter (Aq f a b) a i=iter f a (j+i):=λi h H=>by
  induction i with
  |zero=>omega
  |succ i ih=>
   cases i with
   |zero=>
    show Aq f a b a=f (iter f a j);rw[Eh,J]
   |succ i=>
    show Aq f a b (iter (Aq f a b) a<|i+1)=f (iter f a<|j+(i+1));rw[ih (by omega) (by lia),Dg (n _ (by lia)<|by lia) (B _ (by lia)<|by omega)]
 refine(j,d,g,J,λy=>(λY=>?_,?_),λy=>(λY=>?_,?_))
 ·refine Io (S:=λy=>∃i,1<=i/\i<=j/\iter f a i=y) (j,d,AS _,J) (λx (i,h,H,e)=>?_) y Y
  by_cases c:i=j
  ·have:x=b:=by rw[<- e,c,J]
   exact(1,AS _,d,by rw[this,E9];rfl)
  ·refine(i+1,by lia,by lia,?_)
   rw[<- e,Dg (n _ (by lia)<|by lia) (B _ c<|by omega)];rfl
 ·rintro⟨i,h,H,rfl⟩
  rw[<- u i h H];exact CD G b0 b1 i
 ·refine Io (S:=λy=>∃i,(i=0\/j<i)/\i<per f a/\iter f a i=y) (0,.inl rfl,O.pos,rfl) (λx (i,h,H,e)=>?_) y Y
  have p:∀k,j<k+1->k+1<=per f a->∃i,(i=0\/j<i)/\i<per f a/\iter f a i=f (iter f a k):=λk K l=>by
   by_cases c:k+1=per f a
   ·refine(0,.inl rfl,O.pos,?_)
    have:=O.back;rw[<- c]at this;exact this.symm
   ·exact(k+1,.inr K,by lia,rfl)
  rcases h with h|h
  ·subst h
   have:x=a:=e.symm;rw[this,Eh,<- J];exact p j (by lia) (by lia)
  ·rw[<- e,Dg (n _ (by lia) H) (B _ (by lia) H)]
   exact p i (by lia) (by lia)
 ·rintro⟨i,h,H,rfl⟩
  rcases h with h|h
  ·subst h;exact DA G a0 a1
  ·have:=P (i-j) (by lia) (by lia)
   rw[show j+(i-j)=i by lia]at this;rw[<- this];exact CD G a0 a1 _
theorem OA (Pd:Nat->Bool) (hP:∀e:Nat,(e:Int)∈orb f a->Pd e=Pd a.toNat):cnt (Aq f a b) m Pd=cnt f m Pd+(if Pd a.toNat=true then 1 else 0):=by
 have O:=Dw F a0 a1;have G:=GN F a0 a1 b0 b1;obtain⟨j,J,M,D,L,r⟩:=halves F a0 a1 b0 b1 hab hin;have l:∀y,y∈orb f a↔y∈orb (Aq f a b) b\/y∈orb (Aq f a b) a:=λy=>by
  rw[L,r];constructor
  ·intro hy
   obtain⟨i,B,e⟩:=Bu.mp hy;by_cases c:1<=i/\i<=j
   ·exact .inl (i,c.1,c.2,e)
   ·exact .inr (i,by lia,B,e)
  ·rintro(⟨i,H,q,rfl⟩|⟨i,H,q,rfl⟩) <;> exact CD F a0 a1 i
 have t:∀y,y∈orb (Aq f a b) b->y∈orb (Aq f a b) a->False:=λy H q=>by
  obtain⟨i,I,s,n⟩:=(L y).mp H;obtain⟨k,v,K,o⟩:=(r y).mp q;have:=O.nd i k (by lia) K<|n.trans o.symm;lia
 -- outside nothing changes
 have T:∀e:Nat,e<m->(e:Int) ∉ orb f a->A6 (Aq f a b) e=A6 f e:=λe E N=>by
  have:=Ou F (g:=Aq f a b) (S:=λx=>x∈orb f a) (λx p H X=>Dg (λz=>X (by rw[z];exact DA F a0 a1)) λz=>X (by rw[z];exact hin))
   (λx p H X A=>X<|Eb F a0 a1 A<|ED F p H<|CD F p H 1) G (e:=(e:Int)) (by lia) (by lia) N
  unfold A6;rw[decide_eq_decide];exact(λh x X=>h x ((this x).mpr X),λh x X=>h x ((this x).mp X))
 unfold cnt;rw[GA (λe:Nat=>decide ((e:Int)∈orb f a)) ((AR m).filter λe=>A6 (Aq f a b) e && Pd e),GA (λe:Nat=>decide ((e:Int)∈orb f a)) ((AR m).filter λe=>A6 f e && Pd e)];rw[Ew,Ew,Ew,Ew];have u:(AR m).filter (λe:Nat=>(!decide ((e:Int)∈orb f a)) && (A6 (Aq f a b) e && Pd e))=(AR m).filter λe:Nat=>(!decide ((e:Int)∈orb f a)) && (A6 f e && Pd e):=by
  apply DQ;intro e E;rw[Ax]at E;by_cases c:(e:Int)∈orb f a
  ·rw[A1 c];rfl
  ·rw[T e E c]
 rw[u];by_cases hp:Pd a.toNat=true
 ·rw[AD hp]
  have I:((AR m).filter λe:Nat=>decide ((e:Int)∈orb f a) && (A6 f e && Pd e)).length=1:=by
   rw[<- HR F a0 a1 (λe:Nat=>decide ((e:Int)∈orb f a)) λe E=>decide_eq_true_iff];congr 1;apply DQ;intro e E;by_cases c:(e:Int)∈orb f a
   ·rw[A1 c,hP e c,hp,Bool.and_true,D3]
   ·rw[A7 c,Dn,ER]
  have s:((AR m).filter λe:Nat=>decide ((e:Int)∈orb f a) && (A6 (Aq f a b) e && Pd e)).length=2:=by
   rw[GA (λe:Nat=>decide ((e:Int)∈orb (Aq f a b) b)) ((AR m).filter λe:Nat=>decide ((e:Int)∈orb f a) && (A6 (Aq f a b) e && Pd e)),Ew,Ew];have v:=HR G b0 b1 (λe:Nat=>decide ((e:Int)∈orb (Aq f a b) b)) λe E=>decide_eq_true_iff;have K:=HR G a0 a1 (λe:Nat=>decide ((e:Int)∈orb (Aq f a b) a)) λe E=>decide_eq_true_iff;have n:(AR m).filter (λe:Nat=>decide ((e:Int)∈orb (Aq f a b) b) && (decide ((e:Int)∈orb f a) && (A6 (Aq f a b) e && Pd e)))=(AR m).filter λe:Nat=>A6 (Aq f a b) e && decide ((e:Int)∈orb (Aq f a b) b):=by
    apply DQ;intro e E;by_cases c:(e:Int)∈orb (Aq f a b) b
    ·have C:=(l _).mpr (.inl c)
     rw[A1 c,A1 C,hP e C,hp,D3,D3]
    ·rw[A7 c,Dn,ER]
   have o:(AR m).filter (λe:Nat=>(!decide ((e:Int)∈orb (Aq f a b) b)) && (decide ((e:Int)∈orb f a) && (A6 (Aq f a b) e && Pd e)))=(AR m).filter λe:Nat=>A6 (Aq f a b) e && decide ((e:Int)∈orb (Aq f a b) a):=by
    apply DQ;intro e E;by_cases c:(e:Int)∈orb (Aq f a b) a
    ·have C:=(l _).mpr (.inr c)
     have d:(e:Int) ∉ orb (Aq f a b) b:=λz=>t _ z c;rw[A1 c,A7 d,A1 C,hP e C,hp,HA,D3,D3]
    ·rw[A7 c,ER]
     by_cases d:(e:Int)∈orb (Aq f a b) b
     ·rw[A1 d];rfl
     ·have w:(e:Int) ∉ orb f a:=λz=>((l _).mp z).elim d c
      rw[A7 w,Dn,ER]
   rw[n,o,v,K]
  rw[I,s];lia
 ·rw[AB hp]
  have z:∀g:Int->Int,(AR m).filter (λe:Nat=>decide ((e:Int)∈orb f a) && (A6 g e && Pd e))=[]:=λg=>by
   rw[List.filter_eq_nil_iff];intro e E;by_cases c:(e:Int)∈orb f a
   ·rw[hP e c,Ez.mpr hp,ER,ER];exact BR
   ·rw[A7 c,Dn];exact BR
  rw[z,z];rfl
end
section
variable {P:Program}{w:World}{K:W.Frag}{mg:Str->Option Value}{base:Heap}{f:Addr}{fd:FuncData}
theorem LK:∀l:List Int,∃ms,Be ms l
 |[]=>([],.nil,λx=>Iff.rfl)
 |x::l=>by
  obtain⟨ms,H,d⟩:=LK l;by_cases c:x∈ms
  ·refine(ms,H,λy=>?_)
   rw[Ar,d];exact(.inr,λz=>z.elim (λq=>q ▸ (d x).mp c) id)
  ·refine((ms.filter λy=>decide (y<x))++x::(ms.filter λy=>decide (x<y)),?_,λy=>?_)
   ·rw[Cg,KP]
    refine(List.Pairwise.filter _ H,(λa h=>?_,List.Pairwise.filter _ H),λa h b B=>?_)
    ·rw[Bo,decide_eq_true_iff]at h;exact h.2
    ·rw[Bo,decide_eq_true_iff]at h
     rcases Ar.mp B with z|z
     ·rw[z];exact h.2
     ·rw[Bo,decide_eq_true_iff]at z;lia
   ·rw[Bb,Ar,Ar,Bo,Bo,decide_eq_true_iff,decide_eq_true_iff,d]
    constructor
    ·rintro(z|z|z)
     ·exact .inr z.1
     ·exact .inl z
     ·exact .inr z.1
    ·rintro(z|z)
     ·exact .inr (.inl z)
     ·rcases Int.lt_trichotomy y x with q|q|q
      ·exact .inl (z,q)
      ·exact .inr (.inl q)
      ·exact .inr (.inr (z,q))
theorem Vt (hr:r<N):(Ae N []).getD r 0=(r:Int):=by
 show ((AR N).map λi:Nat=>(i:Int)).getD r 0=_;rw[Ao,AZ,ET hr];rfl
theorem RP (h:Be ms (Ae N [])):ms=(AR N).map λi:Nat=>(i:Int):=by
 refine HN h.1 ?_ λx=>(h.2 x).trans Iff.rfl;rw[D6];exact D2.imp λh=>by omega
end
section
variable {f:Int->Int}{m:Nat}(F:CI f m) {a b:Int}(a0:0<=a) (a1:a<(m:Int)) (b0:0<=b) (b1:b<(m:Int)) (hout:b ∉ orb f a)
include F a0 a1 b0 b1 hout
theorem joined:b∈orb (Aq f a b) a:=by
 have O:=Dw F b0 b1;have G:=GN F a0 a1 b0 b1;have e:∀i,iter f b i≠a:=λi q=>by
  have:=CD F b0 b1 i;rw[q]at this;exact hout (ED F b0 b1 this)
 have n:∀i,0<i->i<per f b->iter f b i≠b:=λi H h q=>by
  have:=O.nd i 0 h O.pos q;lia
 have p:∀i,1<=i->i<=per f b->iter (Aq f a b) a i=iter f b i:=λi H h=>by
  induction i with
  |zero=>lia
  |succ i ih=>
   cases i with
   |zero=>exact Eh f a b
   |succ i=>
    show Aq f a b (iter (Aq f a b) a<|i+1)=f (iter f b<|i+1);rw[ih (by lia) (by lia),Dg (e _) (n _ (by lia)<|by lia)]
 have:=CD G a0 a1<|per f b;rw[p _ O.pos (AS _),O.back]at this;exact this
theorem Sl:∀y∈orb (Aq f a b) a,y∈orb f a\/y∈orb f b:=by
 refine Io (S:=λy=>y∈orb f a\/y∈orb f b) (.inl<|DA F a0 a1) λx X=>?_;have t:∀{e x:Int},0<=e->e<(m:Int)->x∈orb f e->f x∈orb f e:=λ{e x} e0 e1 h=>by
  have r:=Cq F e0 e1 h;exact Eb F e0 e1 h<|CD F r.1 r.2 1
 by_cases h1:x=a
 ·rw[h1,Eh];exact .inr<|t b0 b1<|DA F b0 b1
 ·by_cases h2:x=b
  ·rw[h2,E9];exact .inl<|t a0 a1<|DA F a0 a1
  ·rw[Dg h1 h2]
   rcases X with X|X
   ·exact .inl<|t a0 a1 X
   ·exact .inr<|t b0 b1 X
theorem Oe (Pd:Nat->Bool) (hPa:∀e:Nat,(e:Int)∈orb f a->Pd e=Pd a.toNat) (hPb:∀e:Nat,(e:Int)∈orb f b->Pd e=Pd a.toNat):cnt f m Pd=cnt (Aq f a b) m Pd+(if Pd a.toNat=true then 1 else 0):=by
 have G:=GN F a0 a1 b0 b1;have h:a≠b:=λz=>hout (by rw[<- z];exact DA F a0 a1);have:=OA G a0 a1 b0 b1 h (joined F a0 a1 b0 b1 hout) Pd λe E=>(Sl F a0 a1 b0 b1 hout _ E).elim (hPa e) (hPb e);rw[Ta]at this;exact this
end
def sgI (ts:AW) (o:Aa) (k:Nat) (x:Int):Int:=if x.toNat / 2<k then onI ts o x else onI ts o ((partner x.toNat:Nat):Int)
section
variable {N:Nat}{ts:AW}{o:Aa}(hW:An (N:Int) ts) (hO:Ay (N:Int) ts o)
include hW hO
theorem Lh:CI (sgI ts o 0) (2*ts.length):=by
 have F:=QI hW hO;have e:∀x:Int,sgI ts o 0 x=onI ts o ((partner x.toNat:Nat):Int):=λx=>by unfold sgI;rw[AB (by lia)]
 refine(λx h H=>?_,λx y a b c d q=>?_)
 ·rw[e]
  have:=CZ (show x.toNat<2*ts.length by omega);exact F.to _ (by lia) (by lia)
 ·rw[e,e]at q
  have X:=CZ (show x.toNat<2*ts.length by omega);have Y:=CZ (show y.toNat<2*ts.length by omega);have:=F.inj _ _ (by lia) (by lia) (by lia) (by lia) q;have E:partner x.toNat=partner y.toNat:=by lia
  have:=congrArg partner E;rw[Cy,Cy]at this;lia
end
structure MU (N:Nat) (ts:AW) (S:Int->Bool):Prop where
 tie:∀t∈ts,S t.1=S t.2
theorem OC {N:Nat}(hW:An (N:Int) ts) (hS:MU N ts S):∀k,k<=ts.length->∀p:Nat,p<N->S ((Ae N<|ts.take k).getD p 0)=S (p:Int)
 |0,_,p,hp=>by
  rw[FR];show S (((AR N).map λi:Nat=>(i:Int)).getD p 0)=_;rw[Ao,AZ,ET hp];rfl
 |k+1,hk,p,hp=>by
  have t:k<ts.length:=hk;have l:=DH N<|ts.take k;have H:=hW.tie _<|Br t;have h:=OC hW hS k (by lia);rw[FX (AQ t),E4 _ _ _ (by lia)];have s:=h ts[k].1.toNat (by lia);have a:=h ts[k].2.toNat (by lia);have T:=hS.tie _<|Br t;rw[show ((ts[k].1.toNat:Nat):Int)=ts[k].1 by lia]at s;rw[show ((ts[k].2.toNat:Nat):Int)=ts[k].2 by lia]at a;split
  ·rename_i c
   have P:=h p hp;rw[c]at P;rw[<- P];unfold loI hiI;split <;> split
   all_goals first|rfl|rw[a,s,T]|rw[s,a,T]
  ·exact h p hp
def inS (S:Int->Bool) (l:List Int):Nat:=(l.filter S).length
def endS (ts:AW) (S:Int->Bool) (e:Nat):Bool:=S<|Ad ts e
section
variable {N:Nat}{ts:AW}{o:Aa}{S:Int->Bool}(hW:An (N:Int) ts) (hO:Ay (N:Int) ts o) (hS:MU N ts S)
include hW hO hS
omit hW hO hS in
theorem K9 (F:CI f m) (h:∀x,0<=x->x<(m:Int)->g x=f x) (G:CI g m) (Pd:Nat->Bool):cnt g m Pd=cnt f m Pd:=by
 unfold cnt;congr 1;apply DQ;intro e he;rw[Ax]at he;have:=Ou F (g:=g) (S:=λ_=>False) (λx H a _=>h x H a) (λ_ _ _ h=>h) G (e:=(e:Int)) (by lia) (by lia) λh=>h;congr 1;unfold A6;rw[decide_eq_decide];exact(λh x X=>h x ((this x).mpr X),λh x X=>h x ((this x).mp X))
end
def rowP (o:Aa) (p:Nat):List Int:=o.getD p []
def loneS (S:Int->Bool) (N:Nat) (o:Aa):Nat:=((AR N).filter λp:Nat=>S (p:Int) && (rowP o p).isEmpty).length
section
variable {N:Nat}{ts:AW}{o:Aa}{S:Int->Bool}(hW:An (N:Int) ts) (hO:Ay (N:Int) ts o)
include hW hO
theorem Lk {e:Nat}:sgI ts o 0 (e:Int)=BW ts o e:=by
 unfold sgI;rw[AB (by lia),Bi];unfold onI;rw[Bi,Cy]
theorem T8 {p:Nat}{x:Int}{r:List Int}(hp:p<N) (hr:rowP o p=x::r):∃e:Nat,e<2*ts.length/\x=(e:Int)/\Ad ts e=(p:Int)/\A0 ts o e=x::r/\A6 (sgI ts o 0) e=true:=by
 have l:=hO.len;have q:o[p]?=some (x::r):=by
  unfold rowP at hr;rw[Ao,AQ (by lia:p<o.length)]at hr;rw[AQ (by omega:p<o.length)];exact congrArg some hr
 have R:=hO.row p _ q;obtain⟨e,H,P,E⟩:=R.mem.mp<|Bh ..;have a:A0 ts o e=x::r:=by
  unfold A0;rw[P,Bi];exact hr
 refine(e,H,E.symm,P,a,?_);unfold A6;rw[decide_eq_true_iff];have F:=Lh hW hO;have inr:∀y∈orb (sgI ts o 0) (e:Int),y∈x::r:=Io (S:=λy=>y∈x::r) (by rw[E];exact Bh ..) λy h=>by
  obtain⟨k,c,f,K⟩:=R.mem.mp h;rw[<- K,Lk hW hO];obtain⟨g,b,d,G⟩:=Fi hW hO c;rw[<- G];exact R.mem.mpr (g,b,d.trans f,rfl)
 intro y h;rcases Ar.mp (inr y h) with z|z
 ·rw[z,E];exact FU _
 ·rw[E];exact R.least y z
theorem K4 {e:Nat}(he:e<2*ts.length) (hl:A6 (sgI ts o 0) e=true):∃r,A0 ts o e=(e:Int)::r:=by
 obtain⟨c,g,G⟩:=EF hW hO he;have d:=g.nodup;obtain⟨i,I⟩:=Cv.mp G;have L:=(BB.mp I).1;have F:=Lh hW hO;obtain⟨r,R⟩:∃r,A0 ts o e=r:=(_,rfl);have t:∀a (h:a<r.length),sgI ts o 0 r[a]=r.getD (nxI r.length a) 0:=λa h=>by
  subst R;obtain⟨k,H,p,K⟩:=g.mem.mp<|Br h;rw[<- K,Lk hW hO];unfold BW;have:A0 ts o k=A0 ts o e:=by unfold A0;rw[p]
  rw[this];exact GC d (by rw[K];exact AQ h)
 rw[R]at I L;have u:∀j,i+j<r.length->iter (sgI ts o 0) (e:Int) j=r.getD (i+j) 0:=λj=>by
  induction j with
  |zero=>
   intro _;rw[Ao,IM,I];rfl
  |succ j ih=>
   intro hj;show sgI ts o 0 (iter (sgI ts o 0) (e:Int) j)=_;rw[ih (by lia),Ao (i:=i+j),AQ (by omega:i+j<r.length)];show sgI ts o 0 r[i+j]=_;rw[t _ (by omega)];unfold nxI;rw[AB (by lia)];rfl
 have m:r.getD 0 0∈orb (sgI ts o 0) (e:Int):=by
  have:=CD F (e:=(e:Int)) (by lia) (by lia)<|r.length-i;rw[show r.length-i=(r.length-1-i)+1 by lia]at this;have E:iter (sgI ts o 0) (e:Int) ((r.length-1-i)+1)=sgI ts o 0 (iter (sgI ts o 0) (e:Int)<|r.length-1-i):=rfl;rw[E,u _ (by omega),Ao,AQ (by omega:i+(r.length-1-i)<r.length)]at this;have b:sgI ts o 0 r[i+(r.length-1-i)]=r.getD 0 0:=by
   rw[t _ (by omega)];unfold nxI;rw[AD (by omega)]
  rw[<- b];exact this
 have l:=of_decide_eq_true (show decide (∀z∈orb (sgI ts o 0) (e:Int),(e:Int)<=z)=true from hl) _ m;rw[R]at g G;rw[R];cases r with
 |nil=>simp at G
 |cons x r=>
  refine(r,?_);have l:(e:Int)<=x:=l;rcases Ar.mp G with z|z
  ·rw[z]
  ·have:=g.least _ z
   rw[show (e:Int)=x by lia]
theorem Ux:cnt (sgI ts o 0) (2*ts.length) (endS ts S)=((AR N).filter λp:Nat=>S (p:Int) && !(rowP o p).isEmpty).length:=by
 unfold cnt;have E:∀e:Nat,A0 ts o e=rowP o (Ad ts e).toNat:=λe=>rfl;apply Nat.le_antisymm
 ·rw[<- AK (f:=λe=>(Ad ts e).toNat)]
  refine GI ?_ λp P=>?_
  ·unfold List.Nodup
   rw[D6];refine List.Pairwise.imp_of_mem (R:=(· < ·)) (λ{a b} ha hb hab Q=>?_)<|List.Pairwise.filter _ D2;rw[Bo,Ax,Cj]at ha hb;obtain⟨s,c⟩:=K4 hW hO ha.1 ha.2.1;obtain⟨t,d⟩:=K4 hW hO hb.1 hb.2.1;rw[E]at c d;rw[Q,d]at c;have:=(EA.inj c).1;lia
  ·obtain⟨e,h,rfl⟩:=Af.mp P
   rw[Bo,Ax,Cj]at h;have L:=Fe hW h.1;obtain⟨s,c⟩:=K4 hW hO h.1 h.2.1;rw[E]at c;rw[Bo,Ax,Cj,c,show (((Ad ts e).toNat:Nat):Int)=Ad ts e by lia];exact(by lia,h.2.2,rfl)
 ·rw[<- AK (f:=λp=>((rowP o p).headD 0).toNat) (as:=(AR N).filter λp:Nat=>S (p:Int) && !(rowP o p).isEmpty)]
  have D:∀p:Nat,p<N->(!(rowP o p).isEmpty)=true->∃e:Nat,e<2*ts.length/\((rowP o p).headD 0).toNat=e/\Ad ts e=(p:Int)/\A6 (sgI ts o 0) e=true:=λp P n=>by
   cases z:rowP o p with
   |nil=>rw[z]at n;cases n
   |cons x r=>
    obtain⟨e,h,X,k,_,l⟩:=T8 hW hO P z;refine(e,h,?_,k,l);show x.toNat=e;rw[X,Bi]
  refine GI ?_ λq Q=>?_
  ·unfold List.Nodup
   rw[D6];refine List.Pairwise.imp_of_mem (R:=(· < ·)) (λ{a b} ha hb hab Q=>?_)<|List.Pairwise.filter _ D2;rw[Bo,Ax,Cj]at ha hb;obtain⟨c,_,i,g,_⟩:=D a ha.1 ha.2.2;obtain⟨d,_,m,j,_⟩:=D b hb.1 hb.2.2;have:c=d:=by rw[<- i,<- m];exact Q
   subst this;rw[g]at j;lia
  ·obtain⟨p,P,rfl⟩:=Af.mp Q
   rw[Bo,Ax,Cj]at P;obtain⟨e,h,i,g,l⟩:=D p P.1 P.2.2;rw[i,Bo,Ax,Cj];refine(h,l,?_);unfold endS;rw[g];exact P.2.1
theorem Ow {ms0:List Int}(h:Be ms0 (Ae N [])):cnt (sgI ts o 0) (2*ts.length) (endS ts S)+loneS S N o=inS S ms0:=by
 rw[Ux hW hO,RP h];unfold inS loneS;rw[F0,AK];have:=GA (λp:Nat=>(rowP o p).isEmpty) ((AR N).filter λp:Nat=>S (p:Int));rw[Ew,Ew]at this;have e:((AR N).filter (S∘λi:Nat=>(i:Int)))=(AR N).filter λp:Nat=>S (p:Int):=rfl;rw[e,this];have E:((AR N).filter λp:Nat=>S (p:Int) && (rowP o p).isEmpty)=(AR N).filter λp:Nat=>(rowP o p).isEmpty && S (p:Int):=by
  apply DQ;intro p _;exact IG _ _
 have a:((AR N).filter λp:Nat=>S (p:Int) && !(rowP o p).isEmpty)=(AR N).filter λp:Nat=>(!(rowP o p).isEmpty) && S (p:Int):=by
  apply DQ;intro p _;exact IG _ _
 rw[E,a];lia
end
theorem LA {N:Nat}(hW:An (N:Int) ts):∀k,k<=ts.length->∀g∈Ae N (ts.take k),0<=g/\g<(N:Int)/\(Ae N<|ts.take k).getD g.toNat 0=g
 |0,_,g,hg=>by
  rw[FR]at hg ⊢;obtain⟨p,h,rfl⟩:=Af.mp hg;rw[Ax]at h;exact(by lia,by lia,by rw[Bi];exact Vt h)
 |k+1,hk,g,hg=>by
  have t:k<ts.length:=hk;have l:=DH N<|ts.take k;have T:=hW.tie _<|Br t;have i:=LA hW k (by omega);rw[FX (AQ t)]at hg ⊢;by_cases c:(Ae N<|ts.take k).getD ts[k].1.toNat 0=(Ae N<|ts.take k).getD ts[k].2.toNat 0
  ·rw[N2 c]at hg ⊢
   exact i g hg
  ·have G:=NG l (by omega) (by omega) c
   obtain⟨H,d⟩:=G.mem.mp hg;obtain⟨a,b,e⟩:=i g H;exact(a,b,by rw[G.to _ (by lia),e,AB d])
section
variable {N:Nat}{ts:AW}{o:Aa}(hW:An (N:Int) ts) (hO:Ay (N:Int) ts o)
include hW
include hO
end
section
variable {N:Nat}{ts:AW}{o:Aa}(hW:An (N:Int) ts) (hO:Ay (N:Int) ts o) {ms:List Int}(hm:Be ms (Ae N ts))
include hW hm
include hO
end
section
variable {P:Program}{w:World}{K:W.Frag}{mg:Str->Option Value}{base:Heap}{f:Addr}{fd:FuncData}
theorem GO {l:List Int}(hl:l.length=n) (h0:0<=x) (h1:x<(n:Int)):atI (l.map D.int) x=some (.int<|l.getD x.toNat 0):=by
 rw[show x=((x.toNat:Nat):Int) by lia];refine CG ?_;rw[AZ,Ao,Bi,AQ (by lia:x.toNat<l.length)];rfl
theorem Rc (mb:Mb mg) (F:BH K "parts_of" "parts_of" F5 f fd):FnOk P w K mg base CX0 1 f fd ["web"] (spN K Hy):=by
 refine F.ok EZ (JY λC o h=>by obtain⟨_,_,rfl,_⟩:=h;rfl) λV A r s H vs Q E R h=>?_;have u:=Bg R;have hv:=Ek R;refine(_,(AV (Dy (pv 0)<|gtupK (n:=2) K rfl<|CY (A2 (i:=1) EZ.nd rfl<|Or.inr rfl)<|CY (A2 (i:=2) EZ.nd rfl<|Or.inl rfl) E8)<|AV (Ap (i:=3) EZ.nd rfl (Or.inr rfl)<|Ku rfl rfl (mb "list"<|by decide) rfl (mb "range"<|by decide)<|AE (pv 1) AL)<|AV (Cd PassesOwn.never rfl (seqK K<|pv 2) (gtupK (n:=2) K rfl<|CY (A2 (i:=4) EZ.nd rfl<|Or.inl rfl)<|CY (A2 (i:=5) EZ.nd rfl<|Or.inl rfl) E8)<|AV (Ap (i:=6) EZ.nd rfl (Or.inr rfl)<|A4 (Iy rfl) rfl (mb "min"<|by decide) Ho<|AE (Ak (ixK K u) (pv 3) (pv 4) λ_ _=>rfl)<|AE (Ak (ixK K u) (pv 3) (pv 5) λ_ _=>rfl) AL)<|AV (Ap (i:=7) EZ.nd rfl (Or.inr rfl)<|A4 (LB rfl) rfl (mb "max"<|by decide) ME<|AE (Ak (ixK K u) (pv 3) (pv 4) λ_ _=>rfl)<|AE (Ak (ixK K u) (pv 3) (pv 5) λ_ _=>rfl) AL)<|Ag<|Ap (i:=3) EZ.nd rfl (Or.inr rfl)<|DI ["first"] (show CompSc (defScope F5) ["web","many","ties","firsts","a","b","low","high"] _ ["low","high"] [6,7] from (rfl,by decide +kernel,by decide +kernel,by decide +kernel,rfl,by decide +kernel)) rfl (seqK K<|pv 3) (λ_ _ _ _ _=>(A2 (i:=0) (show List.Nodup (["first","low","high"]:List Str) from by decide) rfl<|Or.inl rfl)) (λ_ _ _ _ _=>C0) λ_ _ _ _ _=>(OO (Bn CF (pv 0) (pv 2)<|nomark _) (pv 1)<|pv 0))<|Ag<|BF<|NV ["first"] (show CompScK (defScope F5) ["web","many","ties","firsts","a","b","low","high"] "first" _ ["many","firsts"] [1,3] from (rfl,by decide +kernel,by decide +kernel,by decide +kernel,by decide +kernel,rfl,by decide +kernel)) rfl (seqK K<|NM rfl rfl rfl (mb "sorted"<|by decide) rfl (mb "set"<|by decide)<|AE (pv 3) AL) (λ_ _ _ _ _=>(A2 (i:=0) (show List.Nodup (["first","many","firsts"]:List Str) from by decide) rfl<|Or.inr rfl)) (λ_ _ _ _ _=>C0) λ_ _ _ _ _=>(DI ["place"] (show CompSc (relab (defScope F5) _) ["first","many","firsts"] _ ["first","firsts"] [0,2] from (rfl,by decide +kernel,by decide +kernel,by decide +kernel,rfl,by decide +kernel)) rfl (DX rfl (mb "range"<|by decide)<|AE (pv 1) AL) (λ_ _ _ _ _=>(A2 (i:=0) (show List.Nodup (["place","first","firsts"]:List Str) from by decide) rfl<|Or.inl rfl)) (λ_ _ _ _ _=>(Hg<|Bn CF (Ak (ixK K u) (pv 2) (pv 0) λ_ _=>rfl) (pv 1)<|nomark _)) λ_ _ _ _ _=>(pv 0))),Ju (λC o O=>?_) h);obtain⟨n,S,rfl,W,q⟩:=O;refine(by simp,?_);dsimp only[startD,Bf,A9,BN,Am];have Y:=W.lo;have Z:=W.hi;have a0:=W.len;obtain⟨N,rfl⟩:∃N:Nat,n=(N:Int):=(n.toNat,by lia);rw[Bi]at q;refine Ah<|Jf<|AF rfl<|GZ rfl<|Dd<|Bl<|Dd<|Bl<|GW ?_;refine Ah<|BE<|EH<|MP<|AJ<|AF rfl<|AM (N,rfl,by lia,_,rfl,?_);have G:(AR N).map (λi:Nat=>D.int (i:Int))=(Ae N<|S.take 0).map D.int:=by
  show _=((AR N).map λi:Nat=>(i:Int)).map D.int;rw[A5];rfl
 rw[G];refine Bv (λU=>∃(x X b c:L2.Slot),U = [.val (BJ (N:Int) S),.val (.int (N:Int)),.val (.tup<|S.map BL),.val (.lst ((Ae N S).map D.int)),x,X,b,c]) ?_ ?_
 ·refine Cb (Df<|AF rfl (_,rfl,λi U=>∃(x X b c:L2.Slot),U = [.val (BJ (N:Int) S),.val (.int (N:Int)),.val (.tup<|S.map BL),.val (.lst ((Ae N<|S.take i).map D.int)),x,X,b,c],(_,_,_,_,rfl),?_,?_))
  ·rintro i d B a ⟨x,X,b,c,rfl⟩
   rw[AZ]at a;cases z:S[i]? with
   |none=>rw[z]at a;cases a
   |some t=>
    rw[z]at a;have a:BL t=d:=by simpa using a
    subst a;have T:=W.tie t<|Bk z;have L:=DH N<|S.take i;have m:=FX (n:=N) z;obtain⟨l,J⟩:∃l,Ae N (S.take i)=l:=(_,rfl);rw[J]at L m ⊢;have e:=GO L T.1 T.2.1;have k:=GO L T.2.2.1 T.2.2.2;refine GZ rfl<|Dd<|Bl<|Dd<|Bl<|GW ?_;refine Ah<|BE<|BC<|AJ<|AU<|AF rfl<|AF rfl<|Du e<|AJ<|AU<|AF rfl<|AF rfl<|Du k<|AM<|FD ?_;refine Ah<|BE<|BC<|AJ<|AU<|AF rfl<|AF rfl<|Du e<|AJ<|AU<|AF rfl<|AF rfl<|Du k<|AM<|FD ?_;refine BE<|Dc (by decide)<|Dx<|AF rfl (_,Or.inl rfl,?_,λ_=>true,λd=>match d with|.int g=>.int (if g=hiI (l.getD t.1.toNat 0) (l.getD t.2.toNat 0) then loI (l.getD t.1.toNat 0) (l.getD t.2.toNat 0) else g)|d=>d,λj d a=>?_,?_)
    ·rw[AK];exact small1000 (by lia)
    ·rw[AZ]at a
     cases zz:l[j]? with
     |none=>rw[zz]at a;cases a
     |some g=>
      rw[zz]at a;have a:D.int g=d:=by simpa using a
      subst a;refine Cz (rfl,OI<|B8<|AU<|AF rfl<|AF rfl<|Cf (_,rfl,?_));show if decide (g=hiI (l.getD t.1.toNat 0) (l.getD t.2.toNat 0))=true then _ else _
      by_cases hg:g=hiI (l.getD t.1.toNat 0) (l.getD t.2.toNat 0)
      ·rw[A1 hg]
       refine iteT<|AF rfl (?_,_,rfl);dsimp only;rw[AD hg];rfl
      ·rw[A7 hg]
       refine iteF<|AF rfl (?_,_,rfl);dsimp only;rw[AB hg]
    ·have I:((l.map D.int).filter λ_=>true).map (λd=>match d with|.int g=>D.int (if g=hiI (l.getD t.1.toNat 0) (l.getD t.2.toNat 0) then loI (l.getD t.1.toNat 0) (l.getD t.2.toNat 0) else g)|d=>d)=(Ae N<|S.take<|i+1).map D.int:=by
      rw[m,EU.mpr (by simp),A5];unfold CA;rw[A5];rfl
     rw[I];exact(_,_,_,_,rfl)
  ·rintro B ⟨x,X,b,c,rfl⟩
   rw[AK,B2];exact(_,_,_,_,rfl)
 rintro U1 ⟨x,X,b,c,rfl⟩;have L:=DH N S;refine GQ<|LU (by decide)<|Dx<|EH<|QQ<|AJ<|AF rfl<|AM (_,rfl,by lia,λy M v=>(_,rfl,_,Or.inl rfl,?_,λ_=>true,λd=>match d with|.int g=>lstI (FG (Ae N S) N g)|d=>d,λi d a=>?_,?_))
 ·have:=Be.len (M,v)
  rw[AK];exact small1000 (by lia)
 ·rw[AZ]at a
  cases zz:y[i]? with
  |none=>rw[zz]at a;cases a
  |some g=>
   rw[zz]at a;have a:D.int g=d:=by simpa using a
   subst a;refine Cz (rfl,Dc (by decide)<|DY<|AJ<|AF rfl<|AM (_,rfl,by lia,by lia,?_,λd=>match d with|.int p=>decide ((Ae N S).getD p.toNat 0=g)|_=>false,λd=>d,λj d a=>?_,?_))
   ·rw[Cn];exact small1000 (by lia)
   ·obtain⟨hj,rfl⟩:=De a
    refine B8<|AU<|AU<|AF rfl<|AF rfl<|Du (GO L (by lia)<|by lia)<|AF rfl<|Cf (_,rfl,rfl,?_);split
    ·exact AF rfl (rfl,_,rfl)
    ·exact(_,rfl)
   ·refine(?_,_,rfl)
    rw[Bi];exact Py _ _ _ _ (λ_=>rfl) _ λ_=>rfl
 ·refine(_,rfl,?_)
  rw[Oy (l:=Ae N S) (n:=N) _ (λ_=>rfl) _ λ_=>rfl];exact q y (M,v)
end
def Ct (l:List Int) (h lo:Int) (k:Nat):List Int:=(l.take k).map (λf=>if f=h then lo else f)++l.drop k
theorem LG (l:List Int) (h lo:Int) (k:Nat):(Ct l h lo k).length=l.length:=by
 unfold Ct;rw[Aw,AK,Bj,DD];lia
theorem Sj (hk:k<l.length):(Ct l h lo k)[k]?=some l[k]:=by
 unfold Ct;rw[CP (by rw[AK,Bj];lia),AK,Bj,F2 (DW hk),Nat.sub_self,EV];exact AQ hk
theorem SD (hk:k<l.length):Ct l h lo (k+1)=(Ct l h lo k).set k (if l[k]=h then lo else l[k]):=by
 apply DR;intro j;rw[G9,LG];unfold Ct;rcases IX j k with J|J|J
 ·rw[AB (by lia),Cu (by rw[AK,Bj];lia),Cu (by rw[AK,Bj];lia),AZ,AZ,IT,IT,AD (by lia),AD (by omega)]
 ·subst J
  rw[AD rfl,AD hk,Cu (by rw[AK,Bj];lia),AZ,IT,AD (by lia),AQ hk];rfl
 ·rw[AB (by lia),CP (by rw[AK,Bj];lia),CP (by rw[AK,Bj];lia),AK,AK,Bj,Bj,EV,EV]
  congr 1;lia
theorem Sa:Ct l h lo l.length=l.map λf=>if f=h then lo else f:=by
 unfold Ct;rw[B2,List.drop_length,Bs]
section
variable {P:Program}{w:World}{K:W.Frag}{mg:Str->Option Value}{base:Heap}{f:Addr}{fd:FuncData}
theorem SQ (mb:Mb mg) (F:BH K "_law_parts" "_law_parts" HC f fd):FnOk P w K mg base CX0 1 f fd ["_law_web_here"] (spN K Hy):=by
 refine F.ok F9 (JY λds o h=>by obtain⟨_,_,rfl,_⟩:=h;rfl) λa0 A R s H vs Q E M h=>?_;have u:=Bg M;have hv:=Ek M;refine(_,(AV (Ap (i:=1) F9.nd rfl (Or.inr rfl)<|Ku rfl rfl (mb "list"<|by decide) rfl (mb "range"<|by decide)<|AE (Ak (ixK K u) (pv 0) AN λ_ _=>rfl) AL)<|AV (Cd PassesOwn.never rfl (seqK K<|Ak (ixK K u) (pv 0) AN λ_ _=>rfl) (gtupK (n:=2) K rfl<|CY (A2 (i:=2) F9.nd rfl<|Or.inl rfl)<|CY (A2 (i:=3) F9.nd rfl<|Or.inl rfl) E8)<|AV (L4 (i:=4) (j:=5) rfl F9.nd rfl rfl (by decide) rfl rfl (AE (A4 (Iy rfl) rfl (mb "min"<|by decide) Ho<|AE (Ak (ixK K u) (pv 1) (pv 2) λ_ _=>rfl)<|AE (Ak (ixK K u) (pv 1) (pv 3) λ_ _=>rfl) AL)<|AE (A4 (LB rfl) rfl (mb "max"<|by decide) ME<|AE (Ak (ixK K u) (pv 1) (pv 2) λ_ _=>rfl)<|AE (Ak (ixK K u) (pv 1) (pv 3) λ_ _=>rfl) AL) AL) rfl)<|Ag<|Cd PassesOwn.never rfl (DX rfl (mb "range"<|by decide)<|AE (Ak (ixK K u) (pv 0) AN λ_ _=>rfl) AL) (A2 (i:=6) F9.nd rfl<|Or.inl rfl)<|Ag<|B6 (Bn CF (Ak (ixK K u) (pv 1) (pv 6) λ_ _=>rfl) (pv 5)<|nomark _) (Ag<|Dy (pv 4)<|Fm (pv 1) (pv 6)<|setU u) B5)<|Ag<|BF<|NV ["_law_first"] (show CompScK (defScope HC) ["_law_web_here","_law_marks","_law_a","_law_b","_law_low","_law_high","_law_place"] "_law_first" _ ["_law_web_here","_law_marks"] [0,1] from (rfl,by decide +kernel,by decide +kernel,by decide +kernel,by decide +kernel,rfl,by decide +kernel)) rfl (seqK K<|NM rfl rfl rfl (mb "sorted"<|by decide) rfl (mb "set"<|by decide)<|AE (pv 1) AL) (λ_ _ _ _ _=>(A2 (i:=0) (show List.Nodup (["_law_first","_law_web_here","_law_marks"]:List Str) from by decide) rfl<|Or.inr rfl)) (λ_ _ _ _ _=>C0) λ_ _ _ _ _=>(DI ["_law_place"] (show CompSc (relab (defScope HC) _) ["_law_first","_law_web_here","_law_marks"] _ ["_law_first","_law_marks"] [0,2] from (rfl,by decide +kernel,by decide +kernel,by decide +kernel,rfl,by decide +kernel)) rfl (DX rfl (mb "range"<|by decide)<|AE (Ak (ixK K u) (pv 1) AN λ_ _=>rfl) AL) (λ_ _ _ _ _=>(A2 (i:=0) (show List.Nodup (["_law_place","_law_first","_law_marks"]:List Str) from by decide) rfl<|Or.inl rfl)) (λ_ _ _ _ _=>(Hg<|Bn CF (Ak (ixK K u) (pv 2) (pv 0) λ_ _=>rfl) (pv 1)<|nomark _)) λ_ _ _ _ _=>(pv 0))),Ju (λds o hf=>?_) h);obtain⟨n,S,rfl,W,q⟩:=hf;refine(by simp,?_);dsimp only[startD,Bf,A9,BN,Am];have a3:=W.lo;have a4:=W.hi;have a5:=W.len;obtain⟨N,rfl⟩:∃N:Nat,n=(N:Int):=(n.toNat,by omega);rw[Bi]at q;refine Ah<|Cp<|MP<|AJ<|AU<|AF rfl<|Ac<|BK (d:=.int (N:Int)) rfl<|AM (N,rfl,by omega,?_);have e0:(AR N).map (λi:Nat=>D.int (i:Int))=(Ae N<|S.take 0).map D.int:=by
  show _=((AR N).map λi:Nat=>(i:Int)).map D.int;rw[A5];rfl
 rw[e0];refine Bv (λU=>∃(X c e m x:L2.Slot),U = [.val (BJ (N:Int) S),.own (.lst ((Ae N S).map D.int)),X,c,e,m,x]) ?_ ?_
 ·refine Cb (Df<|AU<|AF rfl<|Ac<|BK (d:=.tup<|S.map BL) rfl (_,rfl,λi U=>∃(X c e m x:L2.Slot),U = [.val (BJ (N:Int) S),.own (.lst ((Ae N<|S.take i).map D.int)),X,c,e,m,x],(_,_,_,_,_,rfl),?_,?_))
  ·rintro i d U2 a ⟨X,c,e,m,x,rfl⟩
   rw[AZ]at a;cases z:S[i]? with
   |none=>rw[z]at a;cases a
   |some t=>
    rw[z]at a;have a:BL t=d:=by simpa using a
    subst a;have T:=W.tie t<|Bk z;have L:=DH N<|S.take i;have V:=FX (n:=N) z;obtain⟨l,el⟩:∃l,Ae N (S.take i)=l:=(_,rfl);rw[el]at L V ⊢;have B:=GO L T.1 T.2.1;have C:=GO L T.2.2.1 T.2.2.2;refine GZ rfl<|Dd<|Bl<|Dd<|Bl<|GW ?_;refine Ah<|JX<|AJ<|BC<|AJ<|GV rfl rfl<|AF rfl (_,_,_,_,rfl,rfl,rfl,B,AJ<|GV rfl rfl<|AF rfl (_,_,_,_,rfl,rfl,rfl,C,AM<|FD ?_));refine AJ<|BC<|AJ<|GV rfl rfl<|AF rfl (_,_,_,_,rfl,rfl,rfl,B,AJ<|GV rfl rfl<|AF rfl (_,_,_,_,rfl,rfl,rfl,C,AM<|FD<|AM (_,_,rfl,?_)));obtain⟨lo,O⟩:∃lo,loI (l.getD t.1.toNat 0) (l.getD t.2.toNat 0)=lo:=(_,rfl);obtain⟨I,r⟩:∃I,hiI (l.getD t.1.toNat 0) (l.getD t.2.toNat 0)=I:=(_,rfl);refine Cb<|DY<|AJ<|AU<|AF rfl<|Ac<|BK (d:=.int (N:Int)) rfl<|AM (_,rfl,by lia,by lia,λk U=>∃x:L2.Slot,U = [.val (BJ (N:Int) S),.own (.lst ((Ct l I lo k).map D.int)),.val (.int t.1),.val (.int t.2),.val (.int lo),.val (.int I),x],(x,?_),?_,?_)
    ·rw[<- O,<- r];rfl
    ·rintro k d U3 a ⟨x,rfl⟩
     rw[Bi]at a;obtain⟨hk,rfl⟩:=De a;rw[D5];have v:k<l.length:=by lia
     have G:=Sj (h:=I) (lo:=lo) v;have y:atI ((Ct l I lo k).map D.int) (k:Int)=some (.int l[k]):=CG (by rw[AZ,G];rfl);have b:=SD (h:=I) (lo:=lo) v;refine Bl<|CH<|B8<|AU<|GV rfl rfl<|AF rfl (_,_,_,_,rfl,rfl,rfl,y,AF rfl<|Cf (_,rfl,?_));by_cases hb:l[k]=I
     ·rw[A1 hb]
      rw[AD hb]at b;refine iteT<|OS<|AF rfl ((_,_,rfl,rfl),AF rfl (_,_,_,k,rfl,rfl,rfl,?_,.val (.int (k:Int)),?_))
      ·unfold ixN
       rw[AD (by lia),AD (by rw[AK,LG];lia),Bi]
      ·rw[b,List.map_set];rfl
     ·rw[A7 hb]
      rw[AB hb]at b;refine iteF<|B3 (.val (.int (k:Int)),?_);have:Ct l I lo (k+1)=Ct l I lo k:=by
       rw[b];apply DR;intro j;rw[G9];split
       ·rename_i J
        subst J;rw[AD (by rw[LG];omega),G]
       ·rfl
      rw[this];rfl
    ·rintro U3 ⟨x,rfl⟩
     have e2:Ct l I lo (rngD 0 ((N:Int)).toNat).length=Ae N (S.take<|i+1):=by
      rw[Cn,Bi,V];unfold CA;rw[O,r,<- Sa,L]
     rw[e2];exact(_,_,_,_,_,rfl)
  ·rintro U2 ⟨X,c,e,m,x,rfl⟩
   rw[AK,B2];exact(_,_,_,_,_,rfl)
 rintro U1 ⟨X,c,e,m,x,rfl⟩;have L:=DH N S;refine GQ<|LU (by decide)<|Dx<|EH<|QQ<|AJ<|Ef rfl<|AM (_,rfl,by omega,λms Y Z=>(_,rfl,_,Or.inl rfl,?_,λ_=>true,λd=>match d with|.int g=>lstI (FG (Ae N S) N g)|d=>d,λi d a=>?_,?_))
 ·have:=Be.len (Y,Z)
  rw[AK];exact small1000 (by omega)
 ·rw[AZ]at a
  cases zz:ms[i]? with
  |none=>rw[zz]at a;cases a
  |some g=>
   rw[zz]at a;have a:D.int g=d:=by simpa using a
   subst a;refine Cz (rfl,Dc (by decide)<|DY<|AJ<|AU<|AF rfl<|Ac<|BK (d:=.int (N:Int)) rfl<|AM (_,rfl,by omega,by omega,?_,λd=>match d with|.int p=>decide ((Ae N S).getD p.toNat 0=g)|_=>false,λd=>d,λj d a=>?_,?_))
   ·rw[Cn];exact small1000 (by omega)
   ·obtain⟨J,rfl⟩:=De a
    refine B8<|AU<|AU<|AF rfl<|AF rfl<|Du (GO L (by omega)<|by omega)<|AF rfl<|Cf (_,rfl,rfl,?_);split
    ·exact AF rfl (rfl,_,rfl)
    ·exact(_,rfl)
   ·refine(?_,_,rfl)
    rw[Bi];exact Py _ _ _ _ (λ_=>rfl) _ λ_=>rfl
 ·refine(_,rfl,?_)
  rw[Oy (l:=Ae N S) (n:=N) _ (λ_=>rfl) _ λ_=>rfl];exact q ms (Y,Z)
def fLack:DSp:=λs t=>∃n ts,∃c:Int,s=[BJ n ts,.int c]/\An n ts/\∀ms,Be ms (Ae n.toNat ts)->t (.int (2*(ms.length:Int)-n+(ts.length:Int)-c))
theorem R8 (mb:Mb mg) (C52:Callee P w K mg base 1 "parts_of" ["web"] (spN K Hy)) (F:BH K "lacking" "lacking" KZ f fd):FnOk P w K mg base CX0 2 f fd ["web","faces_many"] (spD K fLack):=by
 refine F.ok Kn (Ca λd t h=>by obtain⟨_,_,_,rfl,_⟩:=h;rfl) λv A r s H V Q E R h=>?_;have u:=Bg R;refine(_,(AV (Dy (pv 0)<|gtupK (n:=2) K rfl<|CY (A2 (i:=2) Kn.nd rfl<|Or.inl rfl)<|CY (A2 (i:=3) Kn.nd rfl<|Or.inl rfl) E8)<|Ag<|BF<|Ab EI (Ab (addK K) (Ab EI (Ab Dh AN<|A4 (lenK K) rfl (mb "len"<|by decide) B0<|AE (A3 C52 (R.mono<|by decide)<|AE (pv 0) AL) AL)<|pv 2)<|A4 (lenK K) rfl (mb "len"<|by decide) B0<|AE (pv 3) AL)<|pv 1),Ce (λd t a=>?_) h);obtain⟨n,S,c,rfl,W,q⟩:=a;refine(by simp,?_);dsimp only[startD,Bf,A9,BN,Am];have N:=W.lo;have b:=W.hi;have T:=W.len;have L:=DH n.toNat S;refine Ah<|Jf<|AF rfl<|GZ rfl<|Dd<|Bl<|Dd<|Bl<|GW ?_;refine Bz<|AU<|AU<|AU<|AU<|Ac<|BC<|AJ<|EH<|He<|AJ<|AF rfl<|AM (n,S,rfl,W,λm M=>(_,rfl,?_));have l:=M.len;refine AM<|CM (Or.inl rfl) ?_;rw[AK,show (Jy n.toNat S m).length=m.length from AK _];refine jr_I (Or.inl (by lia,by lia))<|AF rfl<|Di<|BC<|AJ<|AF rfl<|AM<|CM (Or.inr rfl) ?_;rw[AK];refine Co<|AF rfl<|Di ?_;exact q m M
def mk (N:Nat) (ts:AW) (p:Int):Int:=(Ae N ts).getD p.toNat 0
theorem Vb {N:Nat}(hW:An (N:Int) ts) {g:Int->Int}(hg:∀t∈ts,g t.1=g t.2) (p0:0<=p) (p1:p<(N:Int)):g (mk N ts p)=g p:=by
 have:=OC (S:=λx=>decide (g x=g p)) hW ⟨λt h=>by rw[hg t h]⟩ ts.length (AS _) p.toNat (by lia);rw[B2,show ((p.toNat:Nat):Int)=p by lia,A1 rfl]at this;exact of_decide_eq_true this
theorem Pz {N:Nat}(p0:0<=p) (p1:p<(N:Int)):mk N ts p∈Ae N ts:=L3 (by rw[DH];omega)
end
def fMixed:BSp:=λp s t=>BU p/\∃xs:List D,s=[.lst xs]/\xs.length<=60/\∀ys ps',BU ps' -> ys.Perm xs->t (.lst ys) ps'
def MY:BSp:=λp s t=>BU p/\s=[]/\∀n ts ps',BU ps' -> An n ts->t (BJ n ts) ps'
theorem UA {α:Type}(l:List α) (j:Nat) (x:α):(l.take j++x::l.drop j).Perm (l++[x]):=by
 refine KR.trans ?_;rw[D0];exact(List.perm_append_singleton _ _).symm
section
variable {P:Program}{w:World}{K:W.Frag}{mg:Str->Option Value}{base:Heap}{f:Addr}{fd:FuncData}
theorem Uc (mb:Mb mg) (C31:Callee P w K mg base 1 "_law_draw" ["_law_pen_here","_law_many"] (spB K Eo)) (F:BH K "_law_mixed" "_law_mixed" Kk f fd):FnOk P w K mg base CX0 2 f fd ["_law_pen_here","_law_things"] (spB K fMixed):=by
 refine F.ok Kp (GS λg j t h=>by obtain⟨_,_,rfl,_⟩:=h;rfl) λv A e s H V Q E R h=>?_;have B:=Bg R;refine(_,(AV (Ap (i:=2) Kp.nd rfl (Or.inl rfl)<|FE AL)<|AV (Cd PassesOwn.never rfl (seqK K<|pv 1) (A2 (i:=3) Kp.nd rfl<|Or.inl rfl)<|Ag<|EG<|bmK K PySem.F.plainAttrs_list PySem.F.slot_list_insert PySem.F.type_list_insert NR (pv 2)<|AE (A3 C31 (R.mono<|by decide)<|AE (pv 0)<|AE (Ab (addK K) (A4 (lenK K) rfl (mb "len"<|by decide) B0<|AE (pv 2) AL) AN) AL)<|AE (pv 3) AL)<|Ag<|BF<|pv 2),Ge (λg j t k=>?_) h);obtain⟨m,S,rfl,L,q⟩:=k;refine(by simp,?_);dsimp only[cxOf,startD,Bf,A9,BN,Am];refine Ah<|Cp<|Fp<|AM (by decide,?_);refine Bv (λU=>∃(x y:List D) (X:L2.Slot),BU x/\y.Perm S /\ U = [.bor (.lst x),.val (.lst S),.own (.lst y),X]) ?_ ?_
 ·refine Cb (Dx<|AF rfl (_,Or.inl rfl,λi U=>∃(x y:List D) (X:L2.Slot),BU x/\y.Perm (S.take i) /\ U = [.bor (.lst x),.val (.lst S),.own (.lst y),X],(g,[],.any,m,by rw[FR],rfl),?_,?_))
  ·rintro i d u c ⟨x,y,X,p,Y,rfl⟩
   have I:=(BB.mp c).1;have l:=Y.length_eq;rw[Bj]at l;refine Bl<|WZ rfl rfl<|Dt rfl rfl<|AJ<|AU<|OH rfl rfl<|Ac<|Co<|AM (_,_,rfl,rfl,p,_,rfl,by lia,by lia,λr b a n o=>?_);refine AF rfl (_,r,y,rfl,rfl,rfl,small1000 (by lia),by lia,by lia,b,_,_,a,?_,rfl);rw[Dl,c];exact(UA y _ d).trans (List.Perm.append_right _ Y)
  ·rintro u ⟨x,y,X,p,Y,rfl⟩
   rw[B2]at Y;exact(x,y,X,p,Y,rfl)
 rintro z ⟨x,y,X,p,Y,rfl⟩;exact Bz<|Ef rfl (_,rfl,q y _ p Y)
theorem Ss (mb:Mb mg) (C42:Callee P w K mg base 2 "_law_web" ["_law_pen_here","_law_places","_law_ties"] (spB K fWeb)) (C32:Callee P w K mg base 2 "_law_mixed" ["_law_pen_here","_law_things"] (spB K fMixed)) (F:BH K "_law_beside" "_law_beside" HD f fd):FnOk P w K mg base CX0 3 f fd ["_law_pen_here"] (spB K MY):=by
 refine F.ok E3 (GS λps ds O h=>by obtain⟨_,rfl,_⟩:=h;rfl) λa5 A a4 s H vs Q E Y h=>?_;have Z:=Bg Y;refine(_,(AV (Ap (i:=1) E3.nd rfl (Or.inr rfl) AN)<|AV (Ap (i:=2) E3.nd rfl (Or.inl rfl)<|FE AL)<|AV (Cd PassesOwn.never rfl (DX rfl (mb "range"<|by decide)<|AE AN AL) (A2 (i:=3) E3.nd rfl<|Or.inl rfl)<|AV (Ap (i:=4) E3.nd rfl (Or.inl rfl)<|A3 C42 (Y.mono<|by decide)<|AE (pv 0)<|AE AN<|AE AN AL)<|AV (Ap (i:=2) E3.nd rfl (Or.inl rfl)<|Ab (addK K) (pv 2)<|DI ["_law_a","_law_b"] (show CompSc (defScope HD) ["_law_pen_here","_law_many","_law_ties","_law_turn","_law_web_here","_law_names"] _ ["_law_many"] [1] from (rfl,by decide +kernel,by decide +kernel,by decide +kernel,rfl,by decide +kernel)) rfl (seqK K<|Ak (ixK K Z) (pv 4) AN λ_ _=>rfl) (λ_ _ _ _ _=>(gtupK (n:=2) K rfl<|CY (A2 (i:=0) (show List.Nodup (["_law_a","_law_b","_law_many"]:List Str) from by decide) rfl<|Or.inl rfl)<|CY (A2 (i:=1) (show List.Nodup (["_law_a","_law_b","_law_many"]:List Str) from by decide) rfl<|Or.inl rfl) E8)) (λ_ _ _ _ _=>C0) λ_ _ _ _ _=>(CS<|AE (Ab (addK K) (pv 0)<|pv 2)<|AE (Ab (addK K) (pv 1)<|pv 2) AL))<|Ag<|Ap (i:=1) E3.nd rfl (Or.inr rfl)<|Ab (addK K) (pv 1)<|Ak (ixK K Z) (pv 4) AN λ_ _=>rfl)<|AV (Ap (i:=5) E3.nd rfl (Or.inr rfl)<|A3 C32 (Y.mono<|by decide)<|AE (pv 0)<|AE (Ku rfl rfl (mb "list"<|by decide) rfl (mb "range"<|by decide)<|AE (pv 1) AL) AL)<|Ag<|BF<|CS<|AE (pv 1)<|AE (FY (tupK K) rfl (mb "tuple"<|by decide) Ed<|AE (A3 C32 (Y.mono<|by decide)<|AE (pv 0)<|AE (DI ["_law_a","_law_b"] (show CompSc (defScope HD) ["_law_pen_here","_law_many","_law_ties","_law_turn","_law_web_here","_law_names"] _ ["_law_names"] [5] from (rfl,by decide +kernel,by decide +kernel,by decide +kernel,rfl,by decide +kernel)) rfl (seqK K<|pv 2) (λ_ _ _ _ _=>(gtupK (n:=2) K rfl<|CY (A2 (i:=0) (show List.Nodup (["_law_a","_law_b","_law_names"]:List Str) from by decide) rfl<|Or.inl rfl)<|CY (A2 (i:=1) (show List.Nodup (["_law_a","_law_b","_law_names"]:List Str) from by decide) rfl<|Or.inl rfl) E8)) (λ_ _ _ _ _=>C0) λ_ _ _ _ _=>(CS<|AE (Ak (ixK K Z) (pv 2) (pv 0) λ_ _=>rfl)<|AE (Ak (ixK K Z) (pv 2) (pv 1) λ_ _=>rfl) AL)) AL) AL) AL),Ge (λps ds O hf=>?_) h);obtain⟨hp,rfl,q⟩:=hf;refine(by simp,?_);dsimp only[cxOf,startD,Bf,A9,BN,Am];refine Ah<|BE<|Ac ?_;refine Ah<|BE<|Ws<|AM (by decide,?_);refine Bv (λU=>∃(p:List D) (n:Int) (S:AW) (B C:L2.Slot),BU p/\An n S /\ U = [.bor (.lst p),.val (.int n),.val (.lst<|S.map BL),B,C,.any]) ?_ ?_
 ·refine Cb (DY<|AJ<|Ac<|AM (3,rfl,by lia,by lia,?_))
  refine(λi U=>∃(p:List D) (n:Int) (S:AW) (B C:L2.Slot),BU p/\(i:Int)<=n/\n<=8*i/\S.length<=8*i/\(∀t∈S,0<=t.1/\t.1<n/\0<=t.2/\t.2<n) /\ U = [.bor (.lst p),.val (.int n),.val (.lst<|S.map BL),B,C,.any],(ps,0,[],.any,.any,hp,by lia,by lia,by simp,λ_ h=>(nomatch h),rfl),?_,?_)
  ·rintro i d U2 c ⟨p,n,S,B,C,X,g,k,I,r,rfl⟩
   obtain⟨hi,rfl⟩:=De c;have hi:i<3:=hi;refine Bl<|Ah<|BE<|Dt rfl rfl<|AJ<|Ac<|AJ<|Ac<|AM (_,_,rfl,rfl,X,8,8,rfl,by lia,by lia,by lia,by lia,λm e V o W hm a2=>?_);have a6:=W.lo;refine Ah<|BE<|AU<|AF rfl<|N7 (by decide)<|Df<|AU<|AF rfl<|Ac<|BK (d:=.tup<|e.map BL) rfl (_,rfl,?_,λ_=>true,λd=>match d with|.tup [.int a,.int b]=>.tup [.int (a+n),.int (b+n)]|d=>d,λj d c=>?_,?_)
   ·rw[AK];exact small1000 (by lia)
   ·rw[AZ]at c
    cases z:e[j]? with
    |none=>rw[z]at c;cases c
    |some t=>
     rw[z]at c;have c:BL t=d:=by simpa using c
     subst c;exact(_,_,rfl,Cz (rfl,CK<|AJ<|AU<|AF rfl<|AF rfl<|Co<|AJ<|AU<|AF rfl<|AF rfl<|Co<|AM (DK,rfl,_,_,rfl)))
   have e1:((e.map BL).filter λ_=>true).map (λd=>match d with|.tup [.int a,.int b]=>D.tup [.int (a+n),.int (b+n)]|d=>d)=(e.map λt=>(t.1+n,t.2+n)).map BL:=by
    rw[EU.mpr (by simp),A5,A5];rfl
   rw[e1];refine WK ?_ ?_
   ·rw[AK,AK,AK];exact DW (small1000<|by lia)
   refine BE<|AU<|AF rfl<|AU<|AF rfl<|Ac<|BK (d:=.int m) rfl<|Co ?_;refine(V,n+m,S++e.map (λt=>(t.1+n,t.2+n)),.val (.int (0+(i:Int))),.val<|BJ m e,o,by lia,by lia,by rw[Aw,AK];lia,λt T=>?_,?_)
   ·rcases Bb.mp T with z|z
    ·have:=r t z;lia
    ·obtain⟨u,v,rfl⟩:=Af.mp z
     have:=W.tie u v;show 0<=u.1+n/\u.1+n<n+m/\0<=u.2+n/\u.2+n<n+m;lia
   ·rw[BD]
    rfl
  ·rintro U2 ⟨p,n,S,B,C,X,g,k,I,r,rfl⟩
   have e3:(rngD 0 (3:Int).toNat).length=3:=by rw[Cn];rfl
   rw[e3]at g k I;exact(p,n,S,B,C,X,(by lia,by lia,by omega,r),rfl)
 rintro U1 ⟨p,n,S,B,C,X,W,rfl⟩;have g:=W.lo;have k:=W.hi;have a8:=W.len;obtain⟨N,rfl⟩:∃N:Nat,n=(N:Int):=(n.toNat,by omega);refine Ah<|BE<|Dt rfl rfl<|AJ<|EH<|MP<|AJ<|AF rfl<|AM (N,rfl,by omega,_,rfl,AM (_,_,rfl,rfl,X,_,rfl,?_,λys V o hy=>?_))
 ·rw[AK,BS];lia
 obtain⟨M,rfl,a7,a0⟩:∃M:List Int,ys=M.map D.int/\M.length=N/\∀x∈M,0<=x/\x<(N:Int):=by
  have L:=hy.length_eq;rw[AK,BS]at L;have l:∀d∈ys,∃x:Int,d=.int x/\0<=x/\x<(N:Int):=λd c=>by
   obtain⟨x,J,rfl⟩:=Af.mp<|hy.mem_iff.mp c;rw[Ax]at J;exact(x,rfl,by lia,by lia)
  clear hy;refine(ys.map λd=>match d with|.int x=>x|_=>0,?_,by rw[AK];exact L,λx J=>?_)
  ·rw[A5]
   conv=>lhs;rw[<- F4 ys]
   apply ES;intro d c;obtain⟨x,rfl,_⟩:=l d c;rfl
  ·obtain⟨d,c,rfl⟩:=Af.mp J
   obtain⟨y,rfl,h⟩:=l d c;exact h
 have G:∀x:Int,0<=x->x<(N:Int)->atI (M.map D.int) x=some (.int<|M.getD x.toNat 0):=λx h0 h1=>by
  rw[show x=((x.toNat:Nat):Int) by lia];refine CG ?_;rw[AZ,Ao,Bi,AQ (by lia:x.toNat<M.length)];rfl
 have R:∀x:Int,0<=x->x<(N:Int)->0<=M.getD x.toNat 0/\M.getD x.toNat 0<(N:Int):=λx h0 h1=>by
  rw[Ao,AQ (by omega:x.toNat<M.length)];exact a0 _<|Br _
 refine Bz<|CK<|AJ<|AF rfl<|AJ<|BC<|AJ<|Dt rfl rfl<|AJ<|N7 (by decide)<|Dx<|AF rfl (_,Or.inl rfl,?_,λ_=>true,λd=>match d with|.tup [.int a,.int b]=>.tup [.int (M.getD a.toNat 0),.int (M.getD b.toNat 0)]|d=>d,λj d c=>?_,?_)
 ·rw[AK];exact small1000 (by lia)
 ·rw[AZ]at c
  cases z:S[j]? with
  |none=>rw[z]at c;cases c
  |some t=>
   rw[z]at c;have c:BL t=d:=by simpa using c
   subst c;have T:=W.tie t<|Bk z;exact(_,_,rfl,Cz (rfl,CK<|AJ<|AU<|AF rfl<|AF rfl<|Du (G t.1 T.1 T.2.1)<|AJ<|AU<|AF rfl<|AF rfl<|Du (G t.2 T.2.2.1 T.2.2.2)<|AM (DK,rfl,_,_,rfl)))
 have e1:((S.map BL).filter λ_=>true).map (λd=>match d with|.tup [.int a,.int b]=>D.tup [.int (M.getD a.toNat 0),.int (M.getD b.toNat 0)]|d=>d)=(S.map λt=>(M.getD t.1.toNat 0,M.getD t.2.toNat 0)).map BL:=by
  rw[EU.mpr (by simp),A5,A5];rfl
 rw[e1];refine AM (_,_,rfl,rfl,o,_,rfl,?_,λzs a9 a1 hz=>?_)
 ·rw[AK,AK];lia
 obtain⟨e,rfl,a2,a3⟩:∃e:AW,zs=e.map BL/\e.length=S.length/\∀t∈e,0<=t.1/\t.1<(N:Int)/\0<=t.2/\t.2<(N:Int):=by
  have L:=hz.length_eq;rw[AK,AK]at L;have l:∀d∈zs,∃t:Int × Int,d=BL t/\0<=t.1/\t.1<(N:Int)/\0<=t.2/\t.2<(N:Int):=λd c=>by
   obtain⟨t,T,rfl⟩:=Af.mp<|hz.mem_iff.mp c;obtain⟨u,v,rfl⟩:=Af.mp T;have h:=W.tie u v;have a:=R u.1 h.1 h.2.1;have b:=R u.2 h.2.2.1 h.2.2.2;exact(_,rfl,a.1,a.2,b.1,b.2)
  clear hz;refine(zs.map λd=>match d with|.tup [.int a,.int b]=>(a,b)|_=>(0,0),?_,by rw[AK];exact L,λx J=>?_)
  ·rw[A5]
   conv=>lhs;rw[<- F4 zs]
   apply ES;intro d c;obtain⟨t,rfl,_⟩:=l d c;rfl
  ·obtain⟨d,c,rfl⟩:=Af.mp J
   obtain⟨t,rfl,h⟩:=l d c;exact h
 refine AM<|Ei (Or.inl rfl)<|AM (DK,_,rfl,?_);exact q (N:Int) e _ a1 (g,k,by lia,a3)
end
def stD (s:Int):D:=.tup [.int (s / 2),.int (s % 2)]
theorem MM (x:Int):stD (2*x)=.tup [.int x,.int 0]:=by unfold stD;rw[show 2*x / 2=x by lia,show 2*x % 2=0 by lia]
theorem Zzy (x:Int):stD (2*x+1)=.tup [.int x,.int 1]:=by unfold stD;rw[show (2*x+1) / 2=x by lia,show (2*x+1) % 2=1 by lia]
structure CrOk (ts:AW) (cs:List Int):Prop where
 len:cs.length=ts.length
 bit:∀c∈cs,c=0\/c=1
def B1 (cs:List Int) (s:Int):Int:=(s % 2+cs.getD (s / 4).toNat 0) % 2
def DN (ts:AW) (o:Aa) (e:Nat):Int:=FF (A0 ts o e) e
def cOn (ts:AW) (o:Aa) (cs:List Int) (s:Int):Int:=if B1 cs s=0 then 2*BW ts o (partner (s / 2).toNat) else 2*DN ts o (partner (s / 2).toNat)+1
def bkI (cs:List Int) (s:Int):Int:=2*((partner (s / 2).toNat:Nat):Int)+(1-B1 cs s)
theorem CrOk.at (h:CrOk ts cs) (hk:k<ts.length):∃c,cs[k]?=some c/\cs.getD k 0=c/\(c=0\/c=1):=by
 have K:k<cs.length:=by rw[h.len];exact hk
 refine(cs[k],AQ K,?_,h.bit _<|Br K);rw[Ao,AQ K];rfl
theorem LJ (cs:List Int) (s:Int):B1 cs s=0\/B1 cs s=1:=by unfold B1;lia
theorem ON (hW:An n ts) (hO:Ay n ts o) (he:e<2*ts.length):BW ts (o.map Bp) e=DN ts o e:=by
 obtain⟨g,G,a⟩:=EF hW hO he;obtain⟨h,H,b⟩:=EF hW hO.turn he;have E:A0 ts (o.map Bp) e=Bp (A0 ts o e):=by
  rw[AZ,g]at h;exact(BY.inj h).symm
 unfold BW DN;rw[E];exact(TU G.nodup a).1
def fHand:DSp:=λd t=>∃(ts:AW) (cs:List Int) (s:Nat),d=[A8 cs,stD s]/\CrOk ts cs/\s<4*ts.length/\t (.int<|B1 cs s)
def fCrOn:DSp:=λd t=>∃n ts o cs,∃s:Nat,d=[BJ n ts,Bd o,A8 cs,stD s]/\An n ts/\Ay n ts o/\CrOk ts cs/\s<4*ts.length/\t (stD<|cOn ts o cs s)
def fCross:BSp:=λp s t=>BU p/\∃n ts,s=[BJ n ts]/\An n ts/\∀cs ps',BU ps' -> CrOk ts cs->t (A8 cs) ps'
section
variable {P:Program}{w:World}{K:W.Frag}{mg:Str->Option Value}{base:Heap}{f:Addr}{fd:FuncData}
theorem V3 (mb:Mb mg) (F:BH K "hand_beyond" "hand_beyond" Kc f fd):FnOk P w K mg base CX0 1 f fd ["crossings","state"] (spD K fHand):=by
 refine F.ok Ko (Ca λd o h=>by obtain⟨_,_,_,rfl,_⟩:=h;rfl) λv A r s H V Q E R h=>?_;have u:=Bg R;refine(_,(AV (Dy (pv 1)<|gtupK (n:=2) K rfl<|CY (A2 (i:=2) Ko.nd rfl<|Or.inl rfl)<|CY (A2 (i:=3) Ko.nd rfl<|Or.inl rfl) E8)<|Ag<|BF<|OO (Bn CF (Ak (ixK K u) (pv 0) (Ab GX (pv 2) AN) λ_ _=>rfl) AN<|nomark _) (Ab EI AN<|pv 3)<|pv 3),Ce (λd o j=>?_) h);obtain⟨m,S,t,rfl,e,T,q⟩:=j;refine(by simp,?_);dsimp only[startD,Bf,A9,BN,Am];obtain⟨c,C,b,l⟩:=e.at (k:=t / 4) (by lia);have a:atI (S.map D.int) ((t:Int) / 2 / 2)=some (.int c):=by
  rw[show (t:Int) / 2 / 2=((t / 4:Nat):Int) by lia];exact CG (by rw[AZ,C];rfl)
 have g:B1 S t=((t:Int) % 2+c) % 2:=by unfold B1;rw[show ((t:Int) / 4).toNat=t / 4 by lia,b]
 refine Ah<|Jf<|AF rfl<|GZ rfl<|Dd<|Bl<|Dd<|Bl<|GW ?_;refine Bz<|OI<|B8<|AU<|AU<|AF rfl<|AU<|AF rfl<|Ac<|jr_I (by lia,by lia)<|BK a<|Ac<|Cf (_,rfl,?_);refine ite2 (λz=>?_) λz=>?_
 ·have z:c=1:=of_decide_eq_true z
  refine AU<|Ac<|AF rfl<|Di ?_;rw[g]at q;rw[show (1:Int)-(t:Int) % 2=((t:Int) % 2+c) % 2 by lia];exact q
 ·have z:¬ c=1:=of_decide_eq_false (Ez.mpr z)
  refine AF rfl ?_;rw[g]at q;rw[show (t:Int) % 2=((t:Int) % 2+c) % 2 by lia];exact q
theorem VN (mb:Mb mg) (C49:Callee P w K mg base 1 "hand_beyond" ["crossings","state"] (spD K fHand)) (C47:Callee P w K mg base 2 "follower" ["web","order","end"] (spD K fFol)) (C48:Callee P w K mg base 2 "forerunner" ["web","order","end"] (spD K fFore)) (F:BH K "crossed_onward" "crossed_onward" Ka f fd):FnOk P w K mg base CX0 3 f fd ["web","order","crossings","state"] (spD K fCrOn):=by
 refine F.ok Md (Ca λD T h=>by obtain⟨_,_,_,_,_,rfl,_⟩:=h;rfl) λv A e s H V Q E r h=>?_;have u:=Bg r;refine(_,(AV (Ap (i:=4) Md.nd rfl (Or.inl rfl)<|Ab QD (Ak (ixK K u) (pv 3) AN λ_ _=>rfl) AN)<|AV (B6 (Bn CF (A3 C49 (r.mono<|by decide)<|AE (pv 2)<|AE (pv 3) AL) AN<|nomark _) (Ag<|BF<|CS<|AE (A3 C47 (r.mono<|by decide)<|AE (pv 0)<|AE (pv 1)<|AE (pv 4) AL)<|AE AN AL) B5)<|Ag<|BF<|CS<|AE (A3 C48 (r.mono<|by decide)<|AE (pv 0)<|AE (pv 1)<|AE (pv 4) AL)<|AE AN AL),Ce (λD T j=>?_) h);obtain⟨n,S,o,c,t,rfl,W,O,C,k,q⟩:=j;refine(by simp,?_);dsimp only[startD,Bf,A9,BN,Am];have g:t / 2<2*S.length:=by lia
 refine Ah<|BE<|AU<|AU<|AF rfl<|Ac<|BK (d:=.int ((t / 2:Nat):Int)) (by rw[show ((t / 2:Nat):Int)=(t:Int) / 2 by lia];rfl)<|Ac<|Di ?_;rw[Pa];have b:((t:Int) / 2).toNat=t / 2:=by lia
 refine Ah<|CH<|B8<|AU<|B4<|AJ<|AF rfl<|AJ<|AF rfl<|AM (S,c,t,rfl,C,k,Ac<|Cf (_,rfl,?_));refine ite2 (λz=>?_) λz=>?_
 ·have z:B1 c t=0:=of_decide_eq_true z
  refine Bz<|CK<|AJ<|B4<|AJ<|AF rfl<|AJ<|AF rfl<|AJ<|AF rfl<|AM (n,S,o,partner<|t / 2,rfl,W,O,CZ g,AJ<|Ac<|AM (DK,?_));have a:=q;unfold cOn at a;rw[AD z,MM,b]at a;exact a
 ·have z:¬ B1 c t=0:=of_decide_eq_false (Ez.mpr z)
  refine B3<|Bz<|CK<|AJ<|B4<|AJ<|AF rfl<|AJ<|AF rfl<|AJ<|AF rfl<|AM (n,S,o,partner<|t / 2,rfl,W,O,CZ g,AJ<|Ac<|AM (DK,?_));have a:=q;unfold cOn at a;rw[AB z,Zzy,b]at a;exact a
theorem UB (mb:Mb mg) (C31:Callee P w K mg base 1 "_law_draw" ["_law_pen_here","_law_many"] (spB K Eo)) (F:BH K "_law_crossings" "_law_crossings" HE f fd):FnOk P w K mg base CX0 2 f fd ["_law_pen_here","_law_web_here"] (spB K fCross):=by
 refine F.ok Ij (GS λZ J o h=>by obtain⟨_,_,_,rfl,_⟩:=h;rfl) λV A u s H vs Q E R h=>?_;have v:=Bg R;refine(_,(AV (Ap (i:=2) Ij.nd rfl (Or.inr rfl)<|A3 C31 (R.mono<|by decide)<|AE (pv 0)<|AE AN AL)<|AV (JP (i:=3) ["_law_tie"] (show CompSc (defScope HE) ["_law_pen_here","_law_web_here","_law_way","_law_found"] _ ["_law_pen_here"] [0] from (rfl,by decide +kernel,by decide +kernel,by decide +kernel,rfl,by decide +kernel)) rfl Ij.nd rfl (Or.inl rfl) (seqK K<|Ak (ixK K v) (pv 1) AN λ_ _=>rfl) (λ_ _ _ _ _=>(A2 (i:=0) (show List.Nodup (["_law_tie","_law_pen_here"]:List Str) from by decide) rfl<|Or.inl rfl)) (λ_ _ _ _ _=>C0) λ_ _ _ _ _=>(A3 C31 (R.mono<|by decide)<|AE (pv 1)<|AE AN AL))<|AV (B6 (Bn MK (pv 2) AN<|nomark _) (Ag<|JP (i:=3) ["_law_tie"] (show CompSc (defScope HE) ["_law_pen_here","_law_web_here","_law_way","_law_found"] _ ["_law_way"] [2] from (rfl,by decide +kernel,by decide +kernel,by decide +kernel,rfl,by decide +kernel)) rfl Ij.nd rfl (Or.inl rfl) (seqK K<|Ak (ixK K v) (pv 1) AN λ_ _=>rfl) (λ_ _ _ _ _=>(A2 (i:=0) (show List.Nodup (["_law_tie","_law_way"]:List Str) from by decide) rfl<|Or.inl rfl)) (λ_ _ _ _ _=>C0) λ_ _ _ _ _=>(pv 1)) B5)<|Ag<|BF<|FY (tupK K) rfl (mb "tuple"<|by decide) Ed<|AE (pv 3) AL),Ge (λZ J o M=>?_) h);obtain⟨N,n,T,rfl,W,q⟩:=M;refine(by simp,?_);dsimp only[cxOf,startD,Bf,A9,BN,Am];have O:=W.len;refine Ah<|BE<|Dt rfl rfl<|AJ<|Ac<|AM (_,_,rfl,rfl,N,4,rfl,by lia,by lia,λy m j w0 w1=>?_);refine Bv (λU=>∃(S:List Int) (p:List D),BU p/\CrOk T S /\ U = [.bor (.lst p),.val (BJ n T),.val (.int y),.val (.lst<|S.map .int)]) ?_ ?_
 ·refine BE (Pw (by decide)<|Df<|AU<|AF rfl<|Ac<|BK (d:=.tup<|T.map BL) rfl (_,rfl,?_,λi Y U=>∃(S:List Int) (p:List D) (x:L2.Slot),BU p/\S.length=i/\(∀c∈S,c=0\/c=1)/\Y=S.map .int /\ U = [x,.bor (.lst p)],?_,?_,?_))
  ·rw[AK];exact small1000 (by lia)
  ·exact([],m,.any,j,rfl,λ_ h=>(nomatch h),rfl,rfl)
  ·rintro i d Y I L ⟨S,p,x,X,l,B,rfl,rfl⟩
   refine GP (by decide)<|Cz ?_;rw[AD rfl];refine Dt rfl rfl<|AJ<|Ac<|AM (_,_,rfl,rfl,X,2,rfl,by lia,by lia,λr k g r0 r1=>?_);refine(S++[r],k,.val d,g,by rw[Aw,l];rfl,λc a=>?_,by rw[BD];rfl,rfl);rcases Bb.mp a with z|z
   ·exact B c z
   ·rw[Bc]at z;subst z;lia
  ·rintro Y I ⟨S,p,x,X,l,B,rfl,rfl⟩
   rw[AK]at l;exact(S,p,X,(l,B),rfl)
 rintro G ⟨S,p,X,C,rfl⟩;refine Bv (λU=>∃(S:List Int),CrOk T S /\ U = [.bor (.lst p),.val (BJ n T),.val (.int y),.val (.lst<|S.map .int)]) ?_ ?_
 ·refine CH (B8<|AU<|AF rfl<|Ac<|Jp (_,rfl,ite2 (λz=>?_) λz=>?_))
  ·have z:y<2:=of_decide_eq_true z
   refine BE<|Dc (by decide)<|Df<|AU<|AF rfl<|Ac<|BK (d:=.tup<|T.map BL) rfl (_,rfl,?_,λ_=>true,λ_=>.int y,λi d L=>?_,?_)
   ·rw[AK];exact small1000 (by omega)
   ·exact Cz (rfl,AF rfl (rfl,_,rfl))
   ·refine(Am T.length y,(by rw[CJ],λc a=>?_),?_)
    ·rw[FI]at a;lia
    ·have e:((T.map BL).filter λ_=>true).map (λ_=>D.int y)=(Am T.length y).map D.int:=by
      rw[EU.mpr (by simp),A5,IS,List.eq_replicate_iff];refine(by rw[AK],λb B=>?_);obtain⟨t,_,rfl⟩:=Af.mp B;rfl
     rw[e];rfl
  ·exact B3 (S,C,rfl)
 rintro G ⟨S,C,rfl⟩;exact Bz<|BC<|AJ<|AF rfl<|AM<|Ei (Or.inl rfl) (p,rfl,q S p X C)
end
theorem HL (e:Nat):partner e / 2=e / 2:=by unfold partner;split <;> lia
section
variable {n:Int}{ts:AW}{o:Aa}{cs:List Int}
theorem MA (hW:An n ts) (hO:Ay n ts o) (hx:x<2*ts.length):∃k:Nat,k<2*ts.length/\DN ts o x=(k:Int)/\BW ts o k=(x:Int):=by
 obtain⟨a,g,G⟩:=EF hW hO hx;have d:=g.nodup;obtain⟨i,h⟩:=Cv.mp G;have l:=(BB.mp h).1;have p:=LN d h;have j:pvI (A0 ts o x).length i<(A0 ts o x).length:=by unfold pvI;split <;> omega
 rw[Ao,AQ j]at p;have m:FF (A0 ts o x) x∈A0 ts o x:=by rw[p];exact Br j
 obtain⟨k,K,P,e⟩:=g.mem.mp m;refine(k,K,e.symm,?_);have r:A0 ts o k=A0 ts o x:=by unfold A0;rw[P]
 have J:(A0 ts o x)[pvI (A0 ts o x).length i]?=some (k:Int):=by
  rw[AQ j,e,p];rfl
 unfold BW;rw[r,GC d J];have:nxI (A0 ts o x).length (pvI (A0 ts o x).length i)=i:=by
  unfold nxI pvI;repeat' split
  all_goals lia
 rw[this,Ao,h];rfl
theorem Zys (hW:An n ts) (hO:Ay n ts o) (hx:x<2*ts.length):∃k:Nat,k<2*ts.length/\BW ts o x=(k:Int)/\DN ts o k=(x:Int):=by
 obtain⟨g,G,_,e⟩:=Fi hW hO hx;obtain⟨k,K,H,a⟩:=MA hW hO G;have c:=(QI hW hO).inj ((partner k:Nat):Int) ((partner x:Nat):Int) (by lia) (by have:=CZ K;lia) (by lia) (by have:=CZ hx;lia) (by unfold onI;rw[Bi,Bi,Cy,Cy,a,e]);have b:partner k=partner x:=by lia
 have h:=congrArg partner b;rw[Cy,Cy]at h;subst h;exact(g,G,e.symm,H)
theorem Jc (cs:List Int) (e:Nat) (hh:h=0\/h=1):B1 cs (2*(e:Int)+h)=(h+cs.getD (e / 2) 0) % 2:=by
 unfold B1;rw[show ((2*(e:Int)+h) / 4).toNat=e / 2 by lia,show (2*(e:Int)+h) % 2=h by lia]
theorem GK (ts:AW) (o:Aa) (cs:List Int) (e:Nat) (hh:h=0\/h=1):cOn ts o cs (2*(e:Int)+h)=if (h+cs.getD (e / 2) 0) % 2=0 then 2*BW ts o (partner e) else 2*DN ts o (partner e)+1:=by
 unfold cOn;rw[Jc cs e hh,show ((2*(e:Int)+h) / 2).toNat=e by lia]
theorem Fj (cs:List Int) (e:Nat) (hh:h=0\/h=1):bkI cs (2*(e:Int)+h)=2*((partner e:Nat):Int)+(1-(h+cs.getD (e / 2) 0) % 2):=by
 unfold bkI;rw[Jc cs e hh,show ((2*(e:Int)+h) / 2).toNat=e by omega]
theorem Eg (h0:0<=x) (h1:x<((4*m:Nat):Int)):∃(e:Nat) (h:Int),e<2*m/\(h=0\/h=1)/\x=2*(e:Int)+h:=((x / 2).toNat,x % 2,by lia,by lia,by lia)
theorem cbit (hC:CrOk ts cs) (he:e<2*ts.length):cs.getD (e / 2) 0=0\/cs.getD (e / 2) 0=1:=by
 obtain⟨c,_,h,H⟩:=hC.at (k:=e / 2) (by omega);rw[h];exact H
theorem Jv (hC:CrOk ts cs) (h0:0<=x) (h1:x<((4*ts.length:Nat):Int)):bkI cs (bkI cs x)=x/\0<=bkI cs x/\bkI cs x<((4*ts.length:Nat):Int):=by
 obtain⟨e,h,E,H,rfl⟩:=Eg h0 h1;have c:=cbit hC E;have p:=CZ E;rw[Fj cs e H];refine(?_,by lia,by lia);rw[Fj cs (partner e) (by lia),Cy,HL];omega
theorem Hv (hW:An n ts) (hO:Ay n ts o) (hC:CrOk ts cs) (h0:0<=x) (h1:x<((4*ts.length:Nat):Int)):cOn ts o cs (bkI cs<|cOn ts o cs x)=bkI cs x/\0<=cOn ts o cs x/\cOn ts o cs x<((4*ts.length:Nat):Int):=by
 obtain⟨e,h,E,H,rfl⟩:=Eg h0 h1;have C:=cbit hC E;have p:=CZ E;rw[Fj cs e H,GK ts o cs e H];by_cases z:(h+cs.getD (e / 2) 0) % 2=0
 ·rw[AD z]
  obtain⟨k,K,a,b⟩:=Zys hW hO p;have c:=cbit hC K;rw[a];refine(?_,by lia,by lia);rw[show 2*(k:Int)=2*(k:Int)+0 by lia,Fj cs k (Or.inl rfl),GK ts o cs (partner k) (by lia),HL,Cy,AB (by lia),b];lia
 ·rw[AB z]
  obtain⟨k,K,a,b⟩:=MA hW hO p;have c:=cbit hC K;rw[a];refine(?_,by lia,by lia);rw[Fj cs k (Or.inr rfl),GK ts o cs (partner k) (by lia),HL,Cy,AD (by lia),b];lia
theorem Gb (hW:An n ts) (hO:Ay n ts o) (hC:CrOk ts cs):CI (cOn ts o cs) (4*ts.length):=by
 refine(λx h H=>(Hv hW hO hC h H).2,λx y h H a b q=>?_);have e:=(Hv hW hO hC h H).1;have E:=(Hv hW hO hC a b).1;rw[q,E]at e;rw[<- (Jv hC h H).1,<- e,(Jv hC a b).1]
theorem Zz1 (hC:CrOk ts cs) (h0:0<=x) (h1:x<((4*ts.length:Nat):Int)):bkI cs x≠x/\bkI cs x≠cOn ts o cs x:=by
 obtain⟨e,h,E,H,rfl⟩:=Eg h0 h1;have c:=cbit hC E;rw[Fj cs e H,GK ts o cs e H];constructor
 ·have:partner e≠e:=by unfold partner;split <;> lia
  lia
 ·split <;> lia
theorem Zxy (hW:An n ts) (hO:Ay n ts o) (hC:CrOk ts cs) (h0:0<=x) (h1:x<((4*ts.length:Nat):Int)) (k:Nat):iter (cOn ts o cs) x k≠bkI cs x:=by
 intro q;have F:=Gb hW hO hC;have y:∀j,j<=k->bkI cs (iter (cOn ts o cs) x j)=iter (cOn ts o cs) x (k-j):=by
  intro j
  induction j with
  |zero=>intro _;exact q.symm
  |succ j ih=>
   intro hj;have i:=ih (by lia);have r:=CN F h0 h1 j;have R:=CN F h0 h1<|j+1;have a:=CN F h0 h1<|k-(j+1);have b:=(Jv hC R.1 R.2).2;refine F.inj _ _ b.1 b.2 a.1 a.2 ?_;have E:=(Hv hW hO hC r.1 r.2).1;rw[show cOn ts o cs (iter (cOn ts o cs) x<|k-(j+1))=iter (cOn ts o cs) x (k-j) by rw[show k-j=(k-(j+1))+1 by lia];rfl,<- i];exact E
 have r:=CN F h0 h1<|k / 2;have z:=Zz1 (o:=o) hC r.1 r.2;have e:=y (k / 2) (by lia);by_cases hk:k % 2=0
 ·rw[show k-k / 2=k / 2 by lia]at e
  exact z.1 e
 ·rw[show k-k / 2=k / 2+1 by lia]at e
  exact z.2 e
end
section
variable {P:Program}{w:World}{K:W.Frag}{mg:Str->Option Value}{base:Heap}{f:Addr}{fd:FuncData}
theorem Gg (s:Int):Dp 2 (stD s):=by
 intro e he;rcases Ar.mp he with z|z
 ·subst z;exact trivial
 ·rcases Ar.mp z with z|z
  ·subst z;exact trivial
  ·cases z
theorem Lx (s t:Int):eqF 2 (stD s) (stD t)=decide (s=t):=by
 show (true && ((s / 2 == t / 2) && ((s % 2 == t % 2) && true)))=_;by_cases h:s=t
 ·subst h;simp
 ·rw[A7 h,D3,Bool.and_true,Bool.and_eq_false_iff]
  by_cases h2:s / 2=t / 2
  ·right;simp;lia
  ·left;simpa using h2
def fBack:DSp:=λS t=>∃(d:D) (ts:AW) (cs:List Int) (s:Nat),S=[d,A8 cs,stD s]/\CrOk ts cs/\s<4*ts.length/\t (stD<|bkI cs s)
theorem QK (cs:List Int) (t:Nat):stD (bkI cs t)=.tup [.int ((partner (t / 2):Nat):Int),.int (1-B1 cs t)]:=by
 have:=LJ cs t;unfold stD bkI;rw[show ((t:Int) / 2).toNat=t / 2 by lia,show (2*((partner (t / 2):Nat):Int)+(1-B1 cs t)) / 2=((partner (t / 2):Nat):Int) by lia,show (2*((partner (t / 2):Nat):Int)+(1-B1 cs t)) % 2=1-B1 cs t by lia]
theorem Vw (mb:Mb mg) (C49:Callee P w K mg base 1 "hand_beyond" ["crossings","state"] (spD K fHand)) (F:BH K "back_of" "back_of" Kb f fd):FnOk P w K mg base CX0 2 f fd ["web","crossings","state"] (spD K fBack):=by
 refine F.ok QY (Ca λS o h=>by obtain⟨_,_,_,_,rfl,_⟩:=h;rfl) λv A r s H V Q E R h=>?_;have u:=Bg R;refine(_,(Ag<|BF<|CS<|AE (Ab QD (Ak (ixK K u) (pv 2) AN λ_ _=>rfl) AN)<|AE (Ab EI AN<|A3 C49 (R.mono<|by decide)<|AE (pv 1)<|AE (pv 2) AL) AL),Ce (λS o a=>?_) h);obtain⟨d,b,c,t,rfl,C,T,q⟩:=a;refine(by simp,?_);dsimp only[startD,Bf,A9,BN,Am];rw[QK]at q;refine Bz<|CK<|AJ<|AU<|AU<|AF rfl<|Ac<|BK (d:=.int ((t / 2:Nat):Int)) (by rw[show ((t / 2:Nat):Int)=(t:Int) / 2 by omega];rfl)<|Ac<|Di ?_;rw[Pa];exact AJ<|AU<|Ac<|B4<|AJ<|AF rfl<|AJ<|AF rfl<|AM (b,c,t,rfl,C,T,Di<|AM (DK,q))
end
section
variable {n:Int}{ts:AW}{o:Aa}{cs:List Int}
structure StB (f b:Int->Int) (m:Nat):Prop where
 one:CI f m
 bb:∀x,0<=x->x<(m:Int)->b (b x)=x/\0<=b x/\b x<(m:Int)
 fb:∀x,0<=x->x<(m:Int)->f (b<|f x)=b x
 out:∀x,0<=x->x<(m:Int)->∀k,iter f x k≠b x
theorem Hm (hW:An n ts) (hO:Ay n ts o) (hC:CrOk ts cs):StB (cOn ts o cs) (bkI cs) (4*ts.length):=
 (Gb hW hO hC,λx h H=>Jv hC h H,λx h H=>(Hv hW hO hC h H).1,λx h H k=>Zxy hW hO hC h H k)
end
def CrM (f b:Int->Int) (k:Nat) (x:Int):Prop:=∃e:Nat,e<k/\(x∈orb f (2*(e:Int))\/∃y∈orb f (2*(e:Int)),b y=x)
open Classical in
noncomputable def frB (f b:Int->Int) (k:Nat):Bool:=!decide (CrM f b k (2*(k:Int)))
noncomputable def crTo (f b:Int->Int) (k:Nat):Aa:=((AR k).filter (frB f b)).map λe:Nat=>orb f (2*(e:Int))
theorem E7:frB f b k=true ↔ ¬ CrM f b k (2*(k:Int)):=by
 unfold frB;rw[IV,decide_eq_false_iff_not]
theorem HS (f b:Int->Int) (k:Nat):crTo f b (k+1)=crTo f b k++(if frB f b k=true then [orb f (2*(k:Int))] else []):=by
 unfold crTo;rw[FO,DT,BD];congr 1;by_cases h:frB f b k=true
 ·rw[AD h,IF h];rfl
 ·rw[AB h,KC h];rfl
theorem Nv (f b:Int->Int) (k:Nat):(crTo f b k).length<=k:=by
 unfold crTo;rw[AK];exact CW (H0 _ _) (by rw[BS];exact AS _)
section
variable {f b:Int->Int}{m:Nat}(S:StB f b m)
include S
theorem PR {e x:Int}(h0:0<=e) (h1:e<(m:Int)) (hx:x∈orb f e):∃z∈orb f e,f z=x:=by
 obtain⟨i,h,rfl⟩:=Bu.mp hx;cases i with
 |zero=>
  have O:=Dw S.one h0 h1;have p:=O.pos;refine(iter f e<|per f e-1,CD S.one h0 h1 _,?_);have:=O.back;rw[show per f e=(per f e-1)+1 by omega]at this;exact this
 |succ i=>exact(iter f e i,CD S.one h0 h1 _,rfl)
theorem E5 {k:Nat}(hk:2*k<=m) {x:Int}(h:CrM f b k x):0<=x/\x<(m:Int)/\CrM f b k (f x)/\CrM f b k (b x):=by
 obtain⟨e,H,h⟩:=h;have E:(0:Int)<=2*(e:Int):=by lia
 have a:2*(e:Int)<(m:Int):=by lia
 rcases h with h|⟨y,Y,rfl⟩
 ·obtain⟨r,R⟩:=Cq S.one E a h
  obtain⟨i,_,I⟩:=Bu.mp h;exact(r,R,(e,H,.inl (by rw[<- I];exact CD S.one E a<|i+1)),(e,H,.inr (x,h,rfl)))
 ·obtain⟨z,Z,rfl⟩:=PR S E a Y
  obtain⟨r,R⟩:=Cq S.one E a Z;obtain⟨q,Q⟩:=Cq S.one E a Y;obtain⟨d,B,c⟩:=S.bb _ q Q;refine(B,c,(e,H,.inr (z,Z,(S.fb z r R).symm)),(e,H,.inl (by rw[d];exact Y)))
theorem JJ {k:Nat}(hk:2*k<=m) {x:Int}(h:CrM f b k x):∀j,CrM f b k (iter f x j)
 |0=>h
 |j+1=>(E5 S hk (JJ hk h j)).2.2.1
theorem E6 {k:Nat}(hk:2*k<=m) {x:Int}(h0:0<=x) (h1:x<(m:Int)) {y:Int}(hy:y∈orb f x) (h:CrM f b k y):CrM f b k x:=by
 obtain⟨r,R⟩:=Cq S.one h0 h1 hy;have:=ED S.one h0 h1 hy;obtain⟨i,_,rfl⟩:=Bu.mp this;exact JJ S hk h i
theorem HY {k:Nat}(hk:2*k+2<=m) {x:Int}:CrM f b (k+1) x↔CrM f b k x\/(frB f b k=true/\(x∈orb f (2*(k:Int))\/∃y∈orb f (2*(k:Int)),b y=x)):=by
 constructor
 ·rintro⟨e,E,h⟩
  rcases Ex (FK E) with c|c
  ·exact .inl (e,c,h)
  ·subst c
   by_cases q:CrM f b e (2*(e:Int))
   ·left
    rcases h with h|⟨y,Y,rfl⟩
    ·obtain⟨i,_,rfl⟩:=Bu.mp h
     exact JJ S (by lia) q i
    ·obtain⟨i,_,rfl⟩:=Bu.mp Y
     exact(E5 S (by omega)<|JJ S (by omega) q i).2.2.2
   ·right
    exact(E7.mpr q,h)
 ·rintro(⟨e,E,h⟩|⟨_,h⟩)
  ·exact(e,by lia,h)
  ·exact(k,by lia,h)
end
def BM (s:Int):List Int:=[s / 2,s % 2]
def crD (r:List Int):D:=.tup<|r.map stD
theorem Vr (r:List Int):crD r=codD (r.map BM):=by
 unfold crD codD;rw[A5];rfl
noncomputable def allC (ts:AW) (o:Aa) (cs:List Int):Aa:=Am (lone o) []++crTo (cOn ts o cs) (bkI cs) (2*ts.length)
theorem Li (S:StB f b m) (hk:2*k<=m) {i:Nat}(h:(crTo f b k)[i]?=some r):∃(e:Nat) (l:List Int),((AR k).filter (frB f b))[i]?=some e/\e<k/\r=2*(e:Int)::l:=by
 unfold crTo at h;rw[AZ]at h;cases z:((AR k).filter (frB f b))[i]? with
 |none=>rw[z]at h;cases h
 |some e=>
  rw[z]at h;have h:orb f (2*(e:Int))=r:=by simpa using h
  have E:=Ax.mp (Bo.mp<|Bk z).1;obtain⟨l,L⟩:=LP S.one (e:=2*(e:Int)) (by omega) (by omega);exact(e,l,rfl,E,by rw[<- h,L])
theorem VD (S:StB f b m) (hk:2*k<=m) (z:Nat):AscC ((Am z []++crTo f b k).map (A9 BM)):=by
 intro i a c A C;rw[AZ]at A C;by_cases h:i<z
 ·rw[Cu (by rw[CJ];exact h),Fv,AD h]at A
  left
  have:([]:Aa)=a:=by simpa using A
  exact this.symm
 ·rw[CP (by rw[CJ];lia),CJ]at A C
  cases za:(crTo f b k)[i-z]? with
  |none=>rw[za]at A;cases A
  |some ra=>
   cases zc:(crTo f b k)[i+1-z]? with
   |none=>rw[zc]at C;cases C
   |some rc=>
    rw[za]at A;rw[zc]at C;obtain⟨e,l,q,n,rfl⟩:=Li S hk za;obtain⟨E,L,Q,o,rfl⟩:=Li S hk zc;have t:e<E:=by
     have p:((AR k).filter (frB f b)).Pairwise (· < ·):=List.Pairwise.filter _ D2;obtain⟨d,g⟩:=BB.mp q;obtain⟨B,j⟩:=BB.mp Q;have:=DF.mp p (i-z) (i+1-z) d B (by lia);rw[g,j]at this;exact this
    have A:BM (2*(e:Int))::l.map BM=a:=by simpa using A
    have C:BM (2*(E:Int))::L.map BM=c:=by simpa using C
    refine .inr (_,_,_,_,A.symm,C.symm,?_,?_)
    ·unfold BM
     rw[show 2*(e:Int) / 2=e by lia,show 2*(E:Int) / 2=E by lia];intro w;have:=(EA.inj w).1;lia
    ·unfold BM
     rw[show 2*(e:Int) / 2=e by omega,show 2*(E:Int) / 2=E by omega,EJ,AB (by lia)];exact A7 (by lia)
section
variable {n:Int}{ts:AW}{o:Aa}{cs:List Int}
theorem LW (hW:An n ts) (hO:Ay n ts o):(allC ts o cs).length<=100:=by
 unfold allC;rw[Aw,CJ];have:=Nv (cOn ts o cs) (bkI cs) (2*ts.length);have:=PQ o;have:=hO.len;have:=hW.hi;have:=hW.len;lia
theorem N9 (hW:An n ts) (hO:Ay n ts o) (hC:CrOk ts cs):AscC ((allC ts o cs).map (A9 BM)):=VD (Hm hW hO hC) (by lia) _
end
theorem MD (l:Aa):l.map crD=(l.map<|A9 BM).map codD:=by
 rw[A5];exact ES λr _=>Vr r
def prI (x:Int):Int × Int:=(x / 2,x % 2)
theorem MN (x:Int):dP (prI x)=stD x:=rfl
theorem VX (h:prI x=prI y):x=y:=by
 have H:x / 2=y / 2:=congrArg Prod.fst h;have a:x % 2=y % 2:=congrArg Prod.snd h;lia
structure StK (m:Nat) (ks:AW) (M:Int->Prop):Prop where
 nd:ks.Nodup
 rg:∀p∈ks,∃x:Nat,x<m/\p=prI (x:Int)
 mem:∀x:Nat,x<m->(prI (x:Int)∈ks↔M (x:Int))
theorem StK.len (h:StK m ks M):ks.length<=m:=by
 have H:ks.length<=((AR m).map λx:Nat=>prI (x:Int)).length:=by
  have n:∀{ms l:AW},ms.Nodup->(∀x∈ms,x∈l)->ms.length<=l.length:=by
   intro ms
   induction ms with
   |nil=>intro l _ _;exact BZ _
   |cons x ms ih=>
    intro l H h2;rw[Ck]at H;have X:=h2 x (by simp);have:=ih (l:=l.erase x) H.2 λy Y=>(IA λz:y=x=>H.1 (z ▸ Y)).mpr (h2 y (by simp[Y]));rw[IE X]at this;have:=FL X;rw[Aj];lia
  exact n h.nd λp P=>by
   obtain⟨x,X,rfl⟩:=h.rg p P;exact Af.mpr (x,Ax.mpr X,rfl)
 rwa [AK,BS]at H
theorem N6:q∈addP ks k↔q∈ks\/q=k:=by
 unfold addP;split
 ·rename_i h
  exact(.inl,λz=>by rcases z with z|z;exact z;rw[z];exact h)
 ·rw[Bb,Bc]
theorem StK.add (h:StK m ks M) (hx:x<m):StK m (addP ks<|prI (x:Int)) λy=>M y\/y=(x:Int):=by
 refine(?_,λp P=>?_,λy Y=>?_)
 ·unfold addP
  split
  ·exact h.nd
  ·rename_i hn
   exact D7.mpr (h.nd,by simp,λa A b B=>by
    have:b=prI (x:Int):=by simpa using B
    subst this;exact λz=>hn (z ▸ A))
 ·rcases N6.mp P with P|P
  ·exact h.rg p P
  ·exact(x,hx,P)
 ·rw[N6,h.mem y Y]
  constructor
  ·rintro(z|z)
   ·exact .inl z
   ·exact .inr<|VX z
  ·rintro(z|z)
   ·exact .inl z
   ·exact .inr (by rw[z])
theorem StK.cong (h:StK m ks M) (e:∀x:Nat,x<m->(M (x:Int)↔M' (x:Int))):StK m ks M':=(h.nd,h.rg,λx X=>(h.mem x X).trans (e x X))
theorem VS (m:Nat) (h:∀x:Nat,x<m->¬ M (x:Int)):StK m [] M:=(D9,(λp P=>nomatch P),λx X=>(λz=>(nomatch z),λz=>(h x X z).elim))
theorem smP {T x:Nat}(hT:T<=24) (hx:x<4*T):SmP (prI (x:Int)):=by
 unfold SmP prI;simp only;lia
def fRnd:DSp:=λd t=>∃n ts o cs,∃s:Nat,d=[BJ n ts,Bd o,A8 cs,stD s]/\An n ts/\Ay n ts o/\CrOk ts cs/\s<4*ts.length/\t (crD<|orb (cOn ts o cs) s)
def fCrF:NSp:=λs t=>∃n ts o cs,s=[BJ n ts,Bd o,A8 cs]/\An n ts/\Ay n ts o/\CrOk ts cs/\t ((allC ts o cs).map crD)
theorem UM (o:Aa) (p:D->Bool) (hp:∀r:List Int,p (rowD r)=r.isEmpty) (g:D->D) (hg:∀d,g d=.tup []):((o.map rowD).filter p).map g=(Am (lone o) ([]:List Int)).map crD:=by
 rw[Sy o p hp g hg];rw[IS,IS];rfl
section
variable {P:Program}{w:World}{K:W.Frag}{mg:Str->Option Value}{base:Heap}{f:Addr}{fd:FuncData}
theorem Zy1 (mb:Mb mg) (C46:Callee P w K mg base 3 "crossed_onward" ["web","order","crossings","state"] (spD K fCrOn)) (F:BH K "round_from" "round_from" Kd f fd):FnOk P w K mg base CX0 4 f fd ["web","order","crossings","state"] (spD K fRnd):=by
 refine F.ok Ih (Ca λS T h=>by obtain⟨_,_,_,_,_,rfl,_⟩:=h;rfl) λv A u s H B Q E R h=>?_;have y:=Bg R;have V:=Ek R;refine(_,(AV (Ap (i:=4) Ih.nd rfl (Or.inl rfl)<|FE<|AE (pv 3) AL)<|AV (Ap (i:=5) Ih.nd rfl (Or.inl rfl)<|A3 C46 (R.mono<|by decide)<|AE (pv 0)<|AE (pv 1)<|AE (pv 2)<|AE (pv 3) AL)<|AV (Tu PassesOwn.never (Bn (neTK K V) (pv 5) (pv 3)<|nomark _)<|AV (EG<|bmK K PySem.F.plainAttrs_list PySem.F.slot_list_append PySem.F.type_list_append Fb (pv 4)<|AE (pv 5) AL)<|Ag<|Ap (i:=5) Ih.nd rfl (Or.inl rfl)<|A3 C46 (R.mono<|by decide)<|AE (pv 0)<|AE (pv 1)<|AE (pv 2)<|AE (pv 5) AL)<|Ag<|BF<|FY (tupK K) rfl (mb "tuple"<|by decide) Ed<|AE (pv 4) AL),Ce (λS T x=>?_) h);obtain⟨n,t,o,c,e,rfl,W,g,C,p,q⟩:=x;refine(by simp,?_);dsimp only[startD,Bf,A9,BN,Am];have O:=Gb W g C;have z:=W.len;have a:(0:Int)<=(e:Int):=by lia
 have b:(e:Int)<((4*t.length:Nat):Int):=by lia
 refine Ah<|Cp<|Fp<|AJ<|AF rfl<|AM (by show 1<=sizeLine;decide,?_);refine Ah<|BE<|B4<|AJ<|AF rfl<|AJ<|AF rfl<|AJ<|AF rfl<|AJ<|AF rfl<|AM (n,t,o,c,e,rfl,W,g,C,p,?_);refine Bv (λU=>∃k:Nat,DM (cOn t o c) e k /\ U = [.val (BJ n t),.val (Bd o),.val (A8 c),.val (stD e),.own (.lst ((CB (cOn t o c) e k).map stD)),.val (stD<|iter (cOn t o c) e k)]) ?_ ?_
 ·refine UZ (fun μ U=>∃k:Nat,1<=k/\NdTo (cOn t o c) e k /\ μ = 4*t.length-k /\ U = [.val (BJ n t),.val (Bd o),.val (A8 c),.val (stD e),.own (.lst ((CB (cOn t o c) e k).map stD)),.val (stD<|iter (cOn t o c) e k)]) (_,1,AS _,P6 O a b,rfl,rfl) ?_
  rintro μ l ⟨k,hk,nd,rfl,rfl⟩;have m:=Ht O a b nd;have r:=CN O a b k;refine B8<|AU<|AF rfl<|AF rfl<|L0 (n:=1) (by decide) (Gg _) (Gg _) (_,rfl,?_);show if (!(eqF 2 (stD _)<|stD _))=true then _ else _
  rw[Lx];by_cases hb:iter (cOn t o c) e k=e
  ·rw[A1 hb]
   exact iteF (k,(by lia,hb,nd),rfl)
  ·rw[A7 hb]
   have d:=Oq O a b hk nd hb;have M:=Ht O a b d;refine iteT<|Ah<|Hq rfl rfl<|AF rfl (_,_,rfl,rfl,?_,?_)
   ·rw[AK,Iv];exact small1000 (by lia)
   refine BE<|B4<|AJ<|AF rfl<|AJ<|AF rfl<|AJ<|AF rfl<|AJ<|AF rfl<|AM (n,t,o,c,(iter (cOn t o c) e k).toNat,?_,W,g,C,by lia,?_)
   ·rw[show (((iter (cOn t o c) e k).toNat:Nat):Int)=iter (cOn t o c) e k by lia]
   refine(4*t.length-(k+1),by lia,k+1,by lia,d,rfl,?_);rw[SG,BD,show (((iter (cOn t o c) e k).toNat:Nat):Int)=iter (cOn t o c) e k by omega];rfl
 rintro l ⟨k,j,rfl⟩;have m:=Ht O a b j.nd;rw[j.orb]at q;exact Bz<|BC<|AJ<|Ef rfl<|AM<|Ei (Or.inl rfl) q
theorem Wo (mb:Mb mg) (C54:Callee P w K mg base 4 "round_from" ["web","order","crossings","state"] (spD K fRnd)) (C44:Callee P w K mg base 2 "back_of" ["web","crossings","state"] (spD K fBack)) (F:BH K "crossed_faces" "crossed_faces" IZ f fd):FnOk P w K mg base CX0 5 f fd ["web","order","crossings"] (spN K fCrF):=by
 refine F.ok F8 (JY λM p h=>by obtain⟨_,_,_,_,rfl,_⟩:=h;rfl) λa1 A a0 s H vs Q E R h=>?_;have J:=Bg R;have hv:=Ek R;refine(_,(AV (JP (i:=3) ["row"] (show CompSc (defScope IZ) ["web","order","crossings","told","gone","end","face","state"] _ [] [] from (rfl,by decide +kernel,by decide +kernel,by decide +kernel,rfl,by decide +kernel)) rfl F8.nd rfl (Or.inl rfl) (seqK K<|pv 1) (λ_ _ _ _ _=>(A2 (i:=0) (show List.Nodup (["row"]:List Str) from by decide) rfl<|Or.inl rfl)) (λ_ _ _ _ _=>(Hg<|Fn<|truK K (pv 0) λ_=>rfl)) λ_ _ _ _ _=>(CS AL))<|AV (Ap (i:=4) F8.nd rfl (Or.inl rfl)<|SK R1 rfl (mb "set"<|by decide) QG)<|AV (Cd PassesOwn.never rfl (DX rfl (mb "range"<|by decide)<|AE (Ab Dh AN<|A4 (lenK K) rfl (mb "len"<|by decide) B0<|AE (Ak (ixK K J) (pv 0) AN λ_ _=>rfl) AL) AL) (A2 (i:=5) F8.nd rfl<|Or.inl rfl)<|Ag<|B6 (Bn (ninT J) (CS<|AE (pv 5)<|AE AN AL) (pv 4) rfl) (AV (Ap (i:=6) F8.nd rfl (Or.inl rfl)<|A3 C54 (R.mono<|by decide)<|AE (pv 0)<|AE (pv 1)<|AE (pv 2)<|AE (CS<|AE (pv 5)<|AE AN AL) AL)<|AV (EG<|bmK K PySem.F.plainAttrs_list PySem.F.slot_list_append PySem.F.type_list_append Fb (pv 3)<|AE (pv 6) AL)<|Ag<|Cd PassesOwn.never rfl (seqK K<|pv 6) (A2 (i:=7) F8.nd rfl<|Or.inl rfl)<|AV (EG<|bmS PySem.F.plainAttrs_set PySem.F.slot_set_add PySem.F.type_set_add (OY J) (pv 4)<|AE (pv 7) AL)<|Ag<|EG<|bmS PySem.F.plainAttrs_set PySem.F.slot_set_add PySem.F.type_set_add (OY J) (pv 4)<|AE (A3 C44 (R.mono<|by decide)<|AE (pv 0)<|AE (pv 2)<|AE (pv 7) AL) AL) B5)<|Ag<|BF<|A4 (sortCK K hv) rfl (mb "sorted"<|by decide) HQ<|AE (pv 3) AL),Ju (λM p hf=>?_) h);obtain⟨n,T,o,cs,rfl,W,C,I,q⟩:=hf;refine(by simp,?_);dsimp only[startD,Bf,A9,BN,Am];have S:=Hm W C I;have O:=S.one;have hw:=W.len;have hn:=W.hi;have ho:=C.len;have Z:=PQ o;refine Ah<|Cp<|LU (by decide)<|Df<|AF rfl (_,rfl,?_,λd=>match d with|.tup M=>M.isEmpty|_=>false,λ_=>.tup [],λi d D=>?_,?_)
 ·rw[AK];exact small1000 (by lia)
 ·rw[AZ]at D
  cases z:o[i]? with
  |none=>rw[z]at D;cases D
  |some r=>
   rw[z]at D;have D:A8 r=d:=by simpa using D
   subst D;refine FA<|FC<|AF rfl (_,rfl,?_,?_)
   ·cases r <;> rfl
   ·cases r with
    |nil=>exact iteT (CK (AM (by decide,rfl,_,rfl)))
    |cons x t=>exact iteF (_,rfl)
 rw[show o.map A8=o.map rowD from rfl,UM o _ (λr=>by cases r <;> rfl) _ λ_=>rfl]
 refine Ah<|Cp<|WX ?_;refine Bv (λU=>∃(j:AW) (m l X:L2.Slot),U = [.val (BJ n T),.val (Bd o),.val (A8 cs),.own (.lst ((allC T o cs).map crD)),.own (stO j),m,l,X]) ?_ ?_
 ·refine Cb (DY ?_)
  refine AJ<|AU<|Ac<|BC ?_;refine AJ<|AU<|AF rfl<|Ac<|BK (d:=.tup<|T.map BL) rfl ?_;refine AM<|CM (Or.inr rfl) ?_;rw[AK];refine jr_I (Or.inl (by lia,by lia))<|AM (_,rfl,by lia,by lia,?_);have eL:((2:Int)*(T.length:Int)).toNat=2*T.length:=by lia
  rw[eL];refine(λk U=>∃(j:AW) (m l X:L2.Slot),StK (4*T.length) j (CrM (cOn T o cs) (bkI cs) k) /\ U = [.val (BJ n T),.val (Bd o),.val (A8 cs),.own (.lst ((Am (lone o) []++crTo (cOn T o cs) (bkI cs) k).map crD)),.own (stO j),m,l,X],([],.any,.any,.any,VS _ λx _ (e,he,_)=>absurd he<|EY _,?_),?_,?_)
  ·rw[show crTo (cOn T o cs) (bkI cs) 0=[] from rfl,Bs];rfl
  ·rintro k d U2 D ⟨j,m,l,X,G,rfl⟩
   obtain⟨hk,rfl⟩:=De D;rw[D5];have fl:=Nv (cOn T o cs) (bkI cs) k;have u:((2*k:Nat):Int)=2*(k:Int):=by lia
   refine Bl<|CH<|B8<|Wa<|CK<|AJ<|AF rfl<|AJ<|Ac<|AM (DK,_,j,prI ((2*k:Nat):Int),rfl,rfl,?_,smP hw (by lia),_,rfl,?_)
   ·rw[MN,u,MM]
   by_cases hm:CrM (cOn T o cs) (bkI cs) k ((2*k:Nat):Int)
   ·rw[A1 ((G.mem (2*k)<|by omega).mpr hm)]
    have L:frB (cOn T o cs) (bkI cs) k=false:=by
     rw[Ez];intro z;exact E7.mp z (u ▸ hm)
    refine iteF<|B3 (j,.val (.int (k:Int)),l,X,G.cong λx hx=>?_,?_)
    ·rw[HY S (by lia),L];simp
    ·rw[HS,AB (by rw[L];exact BR),Bs];rfl
   ·rw[A7 (λz=>hm ((G.mem (2*k)<|by omega).mp z))]
    have L:frB (cOn T o cs) (bkI cs) k=true:=E7.mpr (u ▸ hm);have ol:=Lr O (e:=2*(k:Int)) (by lia) (by lia);refine iteT<|Ah<|BE<|B4<|AJ<|AF rfl<|AJ<|AF rfl<|AJ<|AF rfl<|AJ<|CK<|AJ<|AF rfl<|AJ<|Ac<|AM (DK,AM (n,T,o,cs,2*k,?_,W,C,I,by omega,?_))
    ·rw[u,MM]
    rw[u];refine Ah<|Hq rfl rfl<|AF rfl (_,_,rfl,rfl,?_,?_)
    ·rw[AK,Aw,CJ];exact small1000 (by lia)
    refine Cb<|Df<|AF rfl (_,rfl,λi U=>∃(g:AW) (X:L2.Slot),StK (4*T.length) g (λx=>CrM (cOn T o cs) (bkI cs) k x\/x∈(orb (cOn T o cs) (2*(k:Int))).take i\/∃y∈(orb (cOn T o cs) (2*(k:Int))).take i,bkI cs y=x) /\ U = [.val (BJ n T),.val (Bd o),.val (A8 cs),.own (.lst ((Am (lone o) []++crTo (cOn T o cs) (bkI cs) k).map crD++[crD (orb (cOn T o cs) (2*(k:Int)))])),.own (stO g),.val (.int (k:Int)),.val (crD<|orb (cOn T o cs) (2*(k:Int))),X],(j,_,G.cong λx hx=>by rw[FR];simp,rfl),?_,?_)
    ·rintro i d U3 D ⟨g,X,c,rfl⟩
     rw[AZ]at D;cases z:(orb (cOn T o cs) (2*(k:Int)))[i]? with
     |none=>rw[z]at D;cases D
     |some y=>
      rw[z]at D;have D:stD y=d:=by simpa using D
      subst D;obtain⟨r0,r1⟩:=Cq O (by omega) (by omega)<|Bk z;obtain⟨Y,rfl⟩:∃Y:Nat,y=(Y:Int):=(y.toNat,by lia);have V:Y<4*T.length:=by lia
      obtain⟨_,b0,b1⟩:=S.bb _ r0 r1;obtain⟨B,N⟩:∃B:Nat,bkI cs (Y:Int)=(B:Int):=((bkI cs (Y:Int)).toNat,by lia);have v:B<4*T.length:=by lia
      have l2:=c.len;have S3:=c.add V;have l3:=S3.len;refine Bl<|Ah<|OF rfl rfl<|AF rfl (_,g,prI (Y:Int),rfl,rfl,MN _,smP hw V,by lia,?_);refine OF rfl rfl<|B4<|AJ<|AF rfl<|AJ<|AF rfl<|AJ<|AF rfl<|AM (_,T,cs,Y,rfl,I,V,_,_,prI (B:Int),rfl,rfl,?_,smP hw v,by lia,_,_,(S3.add v).cong λx hx=>?_,rfl)
      ·rw[MN,<- N]
      ·rw[Dl,z]
       simp only[Option.toList_some,Bb,Bc];constructor
       ·rintro((a|a)|a)
        ·rcases a with a|a|⟨y,a,b⟩
         ·exact .inl a
         ·exact .inr (.inl (.inl a))
         ·exact .inr (.inr (y,.inl a,b))
        ·exact .inr (.inl (.inr a))
        ·exact .inr (.inr (_,.inr rfl,by rw[N,a]))
       ·rintro(a|(a|a)|⟨y,a|a,b⟩)
        ·exact .inl (.inl (.inl a))
        ·exact .inl (.inl (.inr (.inl a)))
        ·exact .inl (.inr a)
        ·exact .inl (.inl (.inr (.inr (y,a,b))))
        ·subst a;exact .inr (by rw[<- b,N])
    ·rintro U3 ⟨g,X,c,rfl⟩
     rw[AK]at c;rw[B2]at c;refine(g,.val (.int (k:Int)),.val<|crD<|orb (cOn T o cs) (2*(k:Int)),X,c.cong λx hx=>?_,?_)
     ·rw[HY S (by omega),L];simp
     ·rw[HS,AD L,<- Ba,BD (l₂:=[orb (cOn T o cs) (2*(k:Int))])]
      rfl
  ·rintro U2 ⟨j,m,l,X,G,rfl⟩
   rw[Cn];exact(j,_,_,_,rfl)
 rintro U1 ⟨j,m,l,X,rfl⟩;have al:=LW (cs:=cs) W C;rw[MD]at q ⊢;exact GQ<|Nq<|AJ<|Ef rfl<|AM (_,rfl,by rw[AK];lia,N9 W C I,_,rfl,q)
end
noncomputable def Gk (n:Int) (ts:AW) (o:Aa) (cs:List Int) (ms:List Int):Int:=2*(ms.length:Int)-n+(ts.length:Int)-((allC ts o cs).length:Int)
def fLk:DSp:=λs t=>∃n ts o cs,s=[BJ n ts,Bd o,A8 cs]/\An n ts/\Ay n ts o/\CrOk ts cs/\∀ms,Be ms (Ae n.toNat ts)->t (.int<|Gk n ts o cs ms)
section
variable {P:Program}{w:World}{K:W.Frag}{mg:Str->Option Value}{base:Heap}{f:Addr}{fd:FuncData}
theorem VZ (mb:Mb mg) (C51:Callee P w K mg base 2 "lacking" ["web","faces_many"] (spD K fLack)) (C45:Callee P w K mg base 5 "crossed_faces" ["web","order","crossings"] (spN K fCrF)) (F:BH K "lack" "lack" Ke f fd):FnOk P w K mg base CX0 6 f fd ["web","order","crossings"] (spD K fLk):=by
 refine F.ok QZ (Ca λd t h=>by obtain⟨_,_,_,_,rfl,_⟩:=h;rfl) λv A e s H b Q E r h=>?_;have u:=Bg r;have V:=Ek r;refine(_,(Ag<|BF<|A3 C51 (r.mono<|by decide)<|AE (pv 0)<|AE (A4 (lenK K) rfl (mb "len"<|by decide) B0<|AE (A3 C45 (r.mono<|by decide)<|AE (pv 0)<|AE (pv 1)<|AE (pv 2) AL) AL) AL),Ce (λd t a=>?_) h);obtain⟨n,S,o,c,rfl,W,O,C,q⟩:=a;refine(by simp,?_);dsimp only[startD,Bf,A9,BN,Am];refine Bz<|B4<|AJ<|AF rfl<|AJ<|BC<|AJ<|EH<|He<|AJ<|AF rfl<|AJ<|AF rfl<|AJ<|AF rfl<|AM (n,S,o,c,rfl,W,O,C,_,rfl,?_);refine AM<|CM (Or.inl rfl)<|AM (n,S,_,rfl,W,λM m=>?_);rw[AK];exact q M m
end
section
variable {n:Int}{ts:AW}{o:Aa}{cs:List Int}{p:Nat}
theorem Sq (hW:An n ts) (hO:Ay n ts o) (hx:x<2*ts.length):∃k:Nat,k<2*ts.length/\DN ts o x=(k:Int)/\Ad ts k=Ad ts x:=by
 obtain⟨k,h,K,b⟩:=MA hW hO hx;refine(k,h,K,?_);obtain⟨g,H,G,a⟩:=Fi hW hO h;rw[b]at a;have:g=x:=by lia
 subst this;exact G.symm
end
section
variable {f b:Int->Int}{m:Nat}(S:StB f b m)
include S
open Classical in
theorem Si {k:Nat}(hk:2*k<=m):((AR m).filter λe=>A6 f e && decide (CrM f b k (e:Int))).length=2*(crTo f b k).length:=by
 induction k with
 |zero=>
  have:((AR m).filter λe=>A6 f e && decide (CrM f b 0 (e:Int)))=[]:=List.filter_eq_nil_iff.mpr λe _=>by
   rw[A7 (λ(_,h,_)=>absurd h<|EY _),ER];exact BR
  rw[this];rfl
 |succ k H=>
  have H:=H (by lia);rw[HS,Aw];by_cases hf:frB f b k=true
  ·rw[AD hf,DS]
   have E:(0:Int)<=2*(k:Int):=by lia
   have a:2*(k:Int)<(m:Int):=by lia
   have K:=E7.mp hf;obtain⟨P,B,d⟩:=S.bb _ E a;have n:∀y,y∈orb f (b (2*(k:Int))) ↔ ∃z∈orb f (2*(k:Int)),b z=y:=λy=>by
    constructor
    ·intro Y
     obtain⟨i,D,rfl⟩:=Bu.mp Y;clear Y D
     induction i with
     |zero=>exact(_,DA S.one E a,rfl)
     |succ i ihi=>
      obtain⟨z,Z,u⟩:=ihi;obtain⟨w,W,o⟩:=PR S E a Z;obtain⟨L,O⟩:=Cq S.one E a W;refine(w,W,?_);show b w=f (iter f (b (2*(k:Int))) i);rw[<- u,<- o,S.fb w L O]
    ·rintro⟨z,Z,rfl⟩
     have c:∀i,b (iter f (2*(k:Int)) i)∈orb f (b (2*(k:Int))):=λi=>by
      induction i with
      |zero=>exact DA S.one B d
      |succ i ihi=>
       have r:=CN S.one E a i;have R:=CN S.one E a<|i+1;obtain⟨_,g,C⟩:=S.bb _ R.1 R.2;have q:=S.fb _ r.1 r.2;have F:b (iter f (2*(k:Int)) i)∈orb f (b<|iter f (2*(k:Int))<|i+1):=by
        rw[<- q];exact CD S.one g C 1
       exact Eb S.one B d ihi<|ED S.one g C F
     obtain⟨i,_,rfl⟩:=Bu.mp Z;exact c i
   have I:∀y,y∈orb f (2*(k:Int))->¬ y∈orb f (b (2*(k:Int))):=λy v A=>by
    have:=Eb S.one E a v<|ED S.one B d A;obtain⟨i,_,e⟩:=Bu.mp this;exact S.out _ E a i e
   have C:=HR S.one E a (λe:Nat=>decide ((e:Int)∈orb f (2*(k:Int)))) λe _=>decide_eq_true_iff;have j:=HR S.one B d (λe:Nat=>decide ((e:Int)∈orb f (b (2*(k:Int))))) λe _=>decide_eq_true_iff;have t:∀l:List Nat,(l.filter λe=>A6 f e && decide (CrM f b (k+1) (e:Int))).length=(l.filter λe=>A6 f e && decide (CrM f b k (e:Int))).length+(l.filter λe=>A6 f e && decide ((e:Int)∈orb f (2*(k:Int)))).length+(l.filter λe=>A6 f e && decide ((e:Int)∈orb f (b (2*(k:Int))))).length:=λl=>by
    induction l with
    |nil=>rfl
    |cons e l ihl=>
     rw[CC,CC,CC,CC];cases hl:A6 f e with
     |false=>simp only[Dn,Av,if_false];exact ihl
     |true=>
      simp only[D3,decide_eq_true_eq];have M:=HY S (k:=k) (by omega) (x:=(e:Int));by_cases a1:CrM f b k (e:Int)
      ·have G:¬ (e:Int)∈orb f (2*(k:Int)):=λz=>K (E6 S (by lia) E a z a1)
       have J:¬ (e:Int)∈orb f (b (2*(k:Int))):=λz=>by
        obtain⟨y,Y,p⟩:=(n _).mp z;have r:=Cq S.one E a Y;have:=(E5 S (by lia) a1).2.2.2;rw[<- p,(S.bb _ r.1 r.2).1]at this;exact K (E6 S (by omega) E a Y this)
       rw[AD (M.mpr (.inl a1)),AD a1,AB G,AB J,Aj,Aj];lia
      ·by_cases a2:(e:Int)∈orb f (2*(k:Int))
       ·rw[AD (M.mpr (.inr (hf,.inl a2))),AB a1,AD a2,AB (I _ a2),Aj,Aj]
        lia
       ·by_cases a3:(e:Int)∈orb f (b (2*(k:Int)))
        ·rw[AD (M.mpr (.inr (hf,.inr ((n _).mp a3)))),AB a1,AB a2,AD a3,Aj,Aj]
         lia
        ·have N:¬ CrM f b (k+1) (e:Int):=λz=>by
          rcases M.mp z with z|⟨_,z|z⟩
          ·exact a1 z
          ·exact a2 z
          ·exact a3 ((n _).mpr z)
         rw[AB N,AB a1,AB a2,AB a3];exact ihl
   rw[t,H,C,j];lia
  ·rw[AB hf]
   have s:((AR m).filter λe=>A6 f e && decide (CrM f b (k+1) (e:Int)))=((AR m).filter λe=>A6 f e && decide (CrM f b k (e:Int))):=by
    congr 1
    funext e
    congr 1;refine decide_eq_decide.mpr ?_;rw[HY S (by omega)];exact(λz=>z.elim id λz=>absurd z.1 hf,.inl)
   rw[s,H];rfl
theorem VH {k:Nat}(hk:m=2*k) (hand:∀x,0<=x->x<(m:Int)->x % 2=0\/f x % 2=0\/b x % 2=0):cnt f m (λ_=>true)=2*(crTo f b k).length:=by
 classical
 rw[<- Si S (by lia)];unfold cnt;congr 1;refine DQ λe E=>?_;have E:=Ax.mp E;congr 1;symm;refine A1 ?_;have v:∀x,0<=x->x<(m:Int)->x % 2=0->CrM f b k x:=λx h H z=>((x / 2).toNat,by lia,.inl (by
  rw[show 2*(((x / 2).toNat:Nat):Int)=x by lia];exact DA S.one h H))
 have h:(0:Int)<=(e:Int):=by lia
 have H:(e:Int)<(m:Int):=by lia
 rcases hand _ h H with z|z|z
 ·exact v _ h H z
 ·have r:=S.one.to _ h H
  exact E6 S (by lia) h H (CD S.one h H 1)<|v _ r.1 r.2 z
 ·obtain⟨c,B,a⟩:=S.bb _ h H
  have:=(E5 S (by omega)<|v _ B a z).2.2.2;rw[c]at this;exact this
end
section
variable {n:Int}{ts:AW}{o:Aa}{cs:List Int}{p:Nat}
theorem WS (hW:An n ts) (hO:Ay n ts o) (hC:CrOk ts cs):cnt (cOn ts o cs) (4*ts.length) (λ_=>true)=2*(crTo (cOn ts o cs) (bkI cs) (2*ts.length)).length:=by
 refine VH (Hm hW hO hC) (by lia) λx a b=>?_;obtain⟨e,h,E,H,rfl⟩:=Eg a b;rw[GK ts o cs e H,Fj cs e H];split <;> lia
end
inductive Fu (N:Nat) (ts:AW):Int->List Int->Prop
 |nil {p:Int}(h0:0<=p) (h1:p<(N:Int)) (h:mk N ts p=p):Fu N ts p []
 |snoc {q p:Int}{r:List Int}{e:Nat}(h:Fu N ts q r) (he:e<2*ts.length) (h1:Ad ts e=q) (h2:Ad ts (partner e)=p):Fu N ts p (r++[(e:Int)])
def encP (z:Int × List Int):AO × D:=(.inl z.1,A8 z.2)
theorem valP (l:Bw) (x:Int):valD (l.map encP) (.inl x)=(l.find? λz=>decide (z.1=x)).map λz=>A8 z.2:=by
 unfold valD
 induction l with
 |nil=>rfl
 |cons z r ih=>
  rw[BX,DU,DU];by_cases h:z.1=x
  ·rw[A1 h,show decide ((encP z).1=Sum.inl x)=true from A1 (by show (Sum.inl z.1:AO)=_;rw[h])]
   rfl
  ·rw[A7 h,show decide ((encP z).1=Sum.inl x)=false from A7 (λq=>h<|Sum.inl.inj q)]
   exact ih
theorem JR {l:Bw}(h:(l.find? λz=>decide (z.1=x))=some z):z∈l/\z.1=x:=(List.mem_of_find?_eq_some h,of_decide_eq_true<|List.find?_some (p:=λz:Int × List Int=>decide (z.1=x)) h)
theorem K1 {l:Bw}:(l.find? λz=>decide (z.1=x))=none↔x ∉ l.map (·.1):=by
 rw[List.find?_eq_none,Af];constructor
 ·rintro h ⟨z,Z,e⟩
  exact h z Z<|A1 e
 ·intro h z Z e
  exact h (z,Z,of_decide_eq_true e)
def En (ts:AW) (d:Bw) (e:Nat):Bw:=
 match d.find? λz=>decide (z.1=Ad ts e) with
 |some z=>match d.find? λz=>decide (z.1=Ad ts (partner e)) with
  |some _=>d
  |none=>d++[(Ad ts (partner e),z.2++[(e:Int)])]
 |none=>d
def DC (ts:AW) (k:Nat) (d:Bw):Bw:=(AR k).foldl (En ts) d
theorem Mu (ts:AW) (k:Nat) (d:Bw):DC ts (k+1) d=En ts (DC ts k d) k:=by
 unfold DC;rw[FO,List.foldl_append];rfl
def pIt (ts:AW) (d:Bw):Nat->Bw
 |0=>d
 |k+1=>DC ts (2*ts.length) (pIt ts d k)
def pBeg (ms:List Int):Bw:=ms.map λg=>(g,[])
def Jz (N:Nat) (ts:AW) (ms:List Int):Bw:=pIt ts (pBeg ms) N
structure PInv (N:Nat) (ts:AW) (d:Bw):Prop where
 nd:(d.map (·.1)).Nodup
 rg:∀z∈d,0<=z.1/\z.1<(N:Int)
 pt:∀z∈d,Fu N ts z.1 z.2
 rt:∀p:Int,0<=p->p<(N:Int)->mk N ts p=p->p∈d.map (·.1)
 ln:∀z∈d,z.2.length<d.length
theorem Mq (ts:AW) (d:Bw) (e:Nat):(En ts d e=d/\(Ad ts e∈d.map (·.1)->Ad ts (partner e)∈d.map (·.1)))\/∃z∈d,z.1=Ad ts e/\Ad ts (partner e) ∉ d.map (·.1)/\En ts d e=d++[(Ad ts<|partner e,z.2++[(e:Int)])]:=by
 unfold En;cases h:d.find? λz=>decide (z.1=Ad ts e) with
 |none=>exact .inl (rfl,λz=>absurd z (K1.mp h))
 |some z=>
  cases h2:d.find? λz=>decide (z.1=Ad ts (partner e)) with
  |some y=>
   refine .inl (rfl,λ_=>?_);obtain⟨a,b⟩:=JR h2;exact Af.mpr (y,a,b)
  |none=>exact .inr (z,(JR h).1,(JR h).2,K1.mp h2,rfl)
section
variable {N:Nat}{ts:AW}(hW:An (N:Int) ts)
include hW
theorem QV {p:Int}(p0:0<=p) (p1:p<(N:Int)):0<=mk N ts p/\mk N ts p<(N:Int)/\mk N ts (mk N ts p)=mk N ts p:=by
 have:=LA hW ts.length (AS _) (mk N ts p) (by rw[B2];exact Pz p0 p1);rw[B2]at this;exact this
theorem JD {ms:List Int}(hm:Be ms (Ae N ts)) {g:Int}:g∈ms↔0<=g/\g<(N:Int)/\mk N ts g=g:=by
 rw[hm.2];constructor
 ·intro hg
  have r:=LA hW ts.length (AS _) g (by rw[B2];exact hg);rw[B2]at r;exact r
 ·rintro⟨a,b,c⟩
  rw[<- c];exact Pz a b
theorem UQ {ms:List Int}(hm:Be ms (Ae N ts)):PInv N ts (pBeg ms):=by
 have k:(pBeg ms).map (·.1)=ms:=by unfold pBeg;rw[A5];exact F4 _
 refine(by rw[k];exact hm.1.imp λz=>Int.ne_of_lt z,λz h=>?_,λz h=>?_,λp P a e=>by rw[k];exact(JD hW hm).mpr (P,a,e),λz h=>?_)
 ·obtain⟨g,G,rfl⟩:=Af.mp h
  have:=(JD hW hm).mp G;exact(this.1,this.2.1)
 ·obtain⟨g,G,rfl⟩:=Af.mp h
  have:=(JD hW hm).mp G;exact .nil this.1 this.2.1 this.2.2
 ·have:=FL h
  obtain⟨g,G,rfl⟩:=Af.mp h;exact this
theorem NW {d:Bw}(h:PInv N ts d) {e:Nat}(he:e<2*ts.length):PInv N ts (En ts d e)/\d.length<=(En ts d e).length/\∀x∈d.map (·.1),x∈(En ts d e).map (·.1):=by
 rcases Mq ts d e with ⟨q,_⟩|⟨z,Z,E,c,q⟩
 ·rw[q];exact(h,AS _,λx X=>X)
 ·rw[q]
  have P:=Fe hW<|CZ he;refine((?_,λy Y=>?_,λy Y=>?_,λp f g m=>?_,λy Y=>?_),by rw[Aw];lia,λx X=>by rw[BD];exact Gy _ X)
  ·rw[BD]
   refine D7.mpr (h.nd,by simp,λa A b B=>?_);have:b=Ad ts (partner e):=by simpa using B
   subst this;exact λw=>c (w ▸ A)
  ·rcases Bb.mp Y with w|w
   ·exact h.rg y w
   ·rw[Bc]at w;subst w;exact P
  ·rcases Bb.mp Y with w|w
   ·exact h.pt y w
   ·rw[Bc]at w;subst w
    exact .snoc (h.pt z Z) he E.symm rfl
  ·rw[BD];exact Gy _<|h.rt p f g m
  ·rw[Aw,DS]
   rcases Bb.mp Y with w|w
   ·have:=h.ln y w;lia
   ·rw[Bc]at w;subst w
    have:=h.ln z Z;show (z.2++[(e:Int)]).length<_;rw[Aw,DS];lia
theorem HJ {d:Bw}(h:PInv N ts d):∀k,k<=2*ts.length->PInv N ts (DC ts k d)/\d.length<=(DC ts k d).length/\(∀x∈d.map (·.1),x∈(DC ts k d).map (·.1))
 |0,_=>(h,AS _,λx X=>X)
 |k+1,hk=>by
  obtain⟨a,b,c⟩:=HJ h k (by lia);rw[Mu];obtain⟨A,B,C⟩:=NW hW a (e:=k) (by lia);exact(A,CW b B,λx X=>C x<|c x X)
theorem Kw {d:Bw}(h:PInv N ts d):∀k,k<=2*ts.length->(DC ts k d).length=d.length->DC ts k d=d/\∀e,e<k->Ad ts e∈d.map (·.1)->Ad ts (partner e)∈d.map (·.1)
 |0,_,_=>(rfl,λe E=>absurd E (EY _))
 |k+1,hk,hl=>by
  obtain⟨a,b,c⟩:=HJ hW h k (by lia);rw[Mu]at hl ⊢;obtain⟨A,B,_⟩:=NW hW a (e:=k) (by omega);obtain⟨f,g⟩:=Kw h k (by omega) (by lia);rw[f]at hl ⊢;rcases Mq ts d k with ⟨q,Q⟩|⟨z,_,_,_,q⟩
  ·refine(q,λe E=>?_)
   rcases Ex (FK E) with z|z
   ·exact g e z
   ·subst z;exact Q
  ·rw[q,Aw,DS]at hl
   lia
theorem LV {d:Bw}(h:PInv N ts d):d.length<=N:=by
 have:=GJ (l:=(AR N).map λi:Nat=>(i:Int)) h.nd λx X=>by
  obtain⟨z,Z,rfl⟩:=Af.mp X;have:=h.rg z Z;exact Af.mpr (z.1.toNat,Ax.mpr (by omega),by lia)
 rw[AK,AK,BS]at this;exact this
theorem Ub {d:Bw}(h:PInv N ts d) (hl:N<=d.length) {p:Int}(p0:0<=p) (p1:p<(N:Int)):p∈d.map (·.1):=by
 apply Classical.byContradiction;intro hn;have:=GJ (ms:=p::d.map (·.1)) (l:=(AR N).map λi:Nat=>(i:Int)) (Ck.mpr (hn,h.nd)) λx X=>by
  rcases Ar.mp X with e|X
  ·subst e;exact Af.mpr (x.toNat,Ax.mpr (by lia),by lia)
  ·obtain⟨z,Z,rfl⟩:=Af.mp X
   have:=h.rg z Z;exact Af.mpr (z.1.toNat,Ax.mpr (by lia),by lia)
 rw[Aj,AK,AK,BS]at this;lia
theorem WE {d:Bw}(h:PInv N ts d) (hl:d.length<N):d.length<(DC ts (2*ts.length) d).length:=by
 obtain⟨_,b,_⟩:=HJ hW h (2*ts.length)<|AS _;rcases Ex b with z|z
 ·exact z
 ·exfalso
  obtain⟨_,C⟩:=Kw hW h (2*ts.length) (AS _) z.symm;have L:∀p:Int,0<=p->p<(N:Int)->p∈d.map (·.1):=λp P j=>by
   obtain⟨m,M,k⟩:=QV hW P j;have r:=h.rt _ m M k;have:=Vb hW (g:=λx=>if x∈d.map (·.1) then 1 else 0) (λt T=>by
    obtain⟨i,I,rfl⟩:=KN T;have A:Ad ts (2*i)=ts[i].1:=by unfold Ad;rw[show 2*i / 2=i by lia,AQ I];show (if _ then _ else _)=_;rw[AD (by lia)]
    have f:Ad ts (2*i+1)=ts[i].2:=by unfold Ad;rw[show (2*i+1) / 2=i by lia,AQ I];show (if _ then _ else _)=_;rw[AB (by lia)]
    have q:=C (2*i) (by lia);have Q:=C (2*i+1) (by lia);rw[show partner (2*i)=2*i+1 by unfold partner;rw[AD (by lia)],A,f]at q;rw[show partner (2*i+1)=2*i by unfold partner;rw[AB (by omega)];lia,A,f]at Q;by_cases c:ts[i].1∈d.map (·.1)
    ·show (if _ then _ else _)=(if _ then _ else _)
     rw[AD c,AD (q c)]
    ·show (if _ then _ else _)=(if _ then _ else _)
     rw[AB c,AB (λz=>c (Q z))]) P j
   have this:(if mk N ts p∈d.map (·.1) then (1:Int) else 0)=if p∈d.map (·.1) then 1 else 0:=this
   rw[AD r]at this;apply Classical.byContradiction;intro hn;rw[AB hn]at this;lia
  have:=GJ (ms:=(AR N).map λi:Nat=>(i:Int)) (l:=d.map (·.1)) (by
   rw[List.nodup_iff_pairwise_ne,D6];exact D2.imp λ{a b} hab e=>by lia) λx X=>by
   obtain⟨i,I,rfl⟩:=Af.mp X;rw[Ax]at I;exact L _ (by lia) (by lia)
  rw[AK,AK,BS]at this;lia
theorem Rg {d:Bw}(h:PInv N ts d) (hl:N<=d.length):DC ts (2*ts.length) d=d:=by
 obtain⟨a,b,_⟩:=HJ hW h (2*ts.length)<|AS _;have:=LV hW a;exact(Kw hW h (2*ts.length) (AS _)<|by lia).1
section
variable {ms:List Int}(hm:Be ms (Ae N ts))
include hm
theorem Lm:∀k,PInv N ts (pIt ts (pBeg ms) k)
 |0=>UQ hW hm
 |k+1=>(HJ hW (Lm k) _ (AS _)).1
theorem PC:∀k,k<=(pIt ts (pBeg ms) k).length\/(pIt ts (pBeg ms) k).length=N
 |0=>.inl (BZ _)
 |k+1=>by
  have I:=Lm hW hm k;have h:=LV hW I;rcases Dk (pIt ts (pBeg ms) k).length N with z|z
  ·have:=WE hW I z
   rcases PC k with y|y
   ·left
    show k+1<=(DC ts (2*ts.length)<|pIt ts (pBeg ms) k).length;lia
   ·lia
  ·right
   show (DC ts (2*ts.length)<|pIt ts (pBeg ms) k).length=N;rw[Rg hW I z];lia
theorem Sv:PInv N ts (Jz N ts ms)/\(Jz N ts ms).length=N:=by
 have I:=Lm hW hm N;have:=LV hW I;refine(I,?_);rcases PC hW hm N with z|z
 ·unfold Jz;lia
 ·exact z
end
end
def J3 (d:Bw) (p:Int):List Int:=((d.find? λz=>decide (z.1=p)).map λz=>z.2).getD []
theorem Vn {N:Nat}(hW:An (N:Int) ts) (h:PInv N ts d) (hl:N<=d.length) (p0:0<=p) (p1:p<(N:Int)):valD (d.map encP) (.inl p)=some (A8<|J3 d p)/\Fu N ts p (J3 d p):=by
 have P:=Ub hW h hl p0 p1;rw[valP];unfold J3;cases e:d.find? λz=>decide (z.1=p) with
 |none=>exact absurd P (K1.mp e)
 |some z=>
  obtain⟨a,b⟩:=JR e;exact(rfl,b ▸ h.pt z a)
section
variable {N:Nat}{ts:AW}{cs:List Int}{d:Bw}
theorem Ru (hW:An (N:Int) ts) (he:e<2*ts.length):mk N ts (Ad ts<|partner e)=mk N ts (Ad ts e):=RD hW he
end
structure SwapsG (m M:Nat) (pl:Int->Int) (f:Nat->Int->Int) (a b:Nat->Int) (us:AW):Prop where
 one:CI (f 0) m
 keep:∀x,0<=x->x<(m:Int)->pl (f 0 x)=pl x
 pin:∀x,0<=x->x<(m:Int)->0<=pl x/\pl x<(M:Int)
 step:∀j,j<us.length->∀x,0<=x->x<(m:Int)->f (j+1) x=Aq (f j) (a j) (b j) x
 ain:∀j,j<us.length->0<=a j/\a j<(m:Int)/\0<=b j/\b j<(m:Int)/\a j≠b j
 tie:∀j,j<us.length->us[j]?=some (pl<|a j,pl (b j))
section
variable {m M:Nat}{pl:Int->Int}{f:Nat->Int->Int}{a b:Nat->Int}{us:AW}(S:SwapsG m M pl f a b us)
include S
theorem Ga:∀j,j<=us.length->CI (f j) m
 |0,_=>S.one
 |j+1,hj=>by
  obtain⟨A,c,B,d,_⟩:=S.ain j (by lia);have G:=GN (Ga j (by lia)) A c B d;exact(λx h H=>by rw[S.step j (by lia) x h H];exact G.to x h H,λx y h H a b e=>by
   rw[S.step j (by lia) x h H,S.step j (by omega) y a b]at e;exact G.inj x y h H a b e)
theorem Lf:∀j,j<=us.length->∀x,0<=x->x<(m:Int)->(Ae M<|us.take j).getD (pl<|f j x).toNat 0=(Ae M<|us.take j).getD (pl x).toNat 0
 |0,_,x,h0,h1=>by rw[S.keep x h0 h1]
 |j+1,hj,x,h0,h1=>by
  have l:j<us.length:=by lia
  obtain⟨A,c,d,g,_⟩:=S.ain j l;have F:=Ga S j (by lia);have h:=Lf j (by omega);have L:=DH M<|us.take j;have P:=S.pin _ A c;have k:=S.pin _ d g;rw[S.step j l x h0 h1,FX (S.tie j l)];have r:∀y z:Int,0<=pl y->pl y<(M:Int)->0<=pl z->pl z<(M:Int)->(Ae M<|us.take j).getD (pl y).toNat 0=(Ae M<|us.take j).getD (pl z).toNat 0->(CA (Ae M<|us.take j) (pl<|a j)<|pl<|b j).getD (pl y).toNat 0=(CA (Ae M<|us.take j) (pl<|a j)<|pl<|b j).getD (pl z).toNat 0:=λy z Y i Z n e=>by
   rw[E4 _ _ _ (by lia),E4 _ _ _ (by lia),e]
  have s:=NI (Ae M<|us.take j) (t:=(pl<|a j,pl (b j))) (by show (pl<|a j).toNat<_;lia) (by show (pl<|b j).toNat<_;lia);have B:(CA (Ae M<|us.take j) (pl<|a j)<|pl<|b j).getD (pl<|a j).toNat 0=(CA (Ae M<|us.take j) (pl<|a j)<|pl<|b j).getD (pl<|b j).toNat 0:=s.1.trans s.2.symm;have p:∀y,0<=y->y<(m:Int)->0<=pl (f j y)/\pl (f j y)<(M:Int):=λy Y i=>S.pin _ (F.to y Y i).1 (F.to y Y i).2;by_cases ea:x=a j
  ·rw[ea,Eh]
   exact(r _ _ (p _ d g).1 (p _ d g).2 k.1 k.2 (h _ d g)).trans B.symm
  ·by_cases eb:x=b j
   ·rw[eb,E9]
    exact(r _ _ (p _ A c).1 (p _ A c).2 P.1 P.2 (h _ A c)).trans B
   ·rw[Dg ea eb]
    exact r _ _ (p _ h0 h1).1 (p _ h0 h1).2 (S.pin _ h0 h1).1 (S.pin _ h0 h1).2 (h _ h0 h1)
theorem Zzn {j:Nat}(hj:j<=us.length) {x y:Int}(h0:0<=x) (h1:x<(m:Int)) (hy:y∈orb (f j) x):(Ae M<|us.take j).getD (pl y).toNat 0=(Ae M<|us.take j).getD (pl x).toNat 0:=by
 have F:=Ga S j hj;obtain⟨i,h,rfl⟩:=Bu.mp hy;clear hy h
 induction i with
 |zero=>rfl
 |succ i ih=>
  have r:=CN F h0 h1 i;exact(Lf S j hj _ r.1 r.2).trans ih
theorem Nt {c0:Nat}(hc:cnt (f 0) m (λ_=>true)<=c0):∀j,j<=us.length->∀ms,Be ms (Ae M<|us.take j)->cnt (f j) m (λ_=>true)+2*M<=2*ms.length+c0+j
 |0,_,ms,h=>by
  rw[FR]at h;have:Be ((AR M).map λi:Nat=>(i:Int)) (Ae M []):=by
   refine(?_,λx=>Iff.rfl);rw[D6];exact D2.imp λ{a b} H=>by lia
  rw[h.uniq this,AK,BS];lia
 |j+1,hj,ms,h=>by
  have l:j<us.length:=by lia
  obtain⟨A,d,B,e,H⟩:=S.ain j l;have F:=Ga S j (by lia);have G:=Ga S (j+1) hj;have p:=S.pin _ A d;have P:=S.pin _ B e;obtain⟨o,n⟩:=LK<|Ae M<|us.take j;have I:=Nt hc j (by lia) o n;have eq:cnt (f<|j+1) m (λ_=>true)=cnt (Aq (f j) (a j)<|b j) m (λ_=>true):=K9 (GN F A d B e) (λx g k=>S.step j l x g k) G _;rw[eq];rw[FX (S.tie j l)]at h;by_cases c:(Ae M<|us.take j).getD (pl<|a j).toNat 0=(Ae M<|us.take j).getD (pl<|b j).toNat 0
  ·have h:Be ms (CA (Ae M<|us.take j) (pl<|a j)<|pl<|b j):=h
   rw[N2 c]at h;rw[h.uniq n];by_cases hin:b j∈orb (f j) (a j)
   ·have:=OA F A d B e H hin (λ_=>true) (λ_ _=>rfl)
    rw[AD rfl]at this;lia
   ·have:=Oe F A d B e hin (λ_=>true) (λ_ _=>rfl) (λ_ _=>rfl)
    rw[AD rfl]at this;lia
  ·have u:b j ∉ orb (f j) (a j):=λz=>c (Zzn S (by lia) A d z).symm
   have L:=Oe F A d B e u (λ_=>true) (λ_ _=>rfl) λ_ _=>rfl;rw[AD rfl]at L;have s:=NG (N:=M) (t:=(pl<|a j,pl (b j))) (DH M<|us.take j) (by show (pl<|a j).toNat<M;lia) (by show (pl<|b j).toNat<M;lia) c;have:=s.count n h;lia
end
def rotI (ts:AW) (o:Aa) (x:Int):Int:=if x % 2=0 then 2*BW ts o (x / 2).toNat else 2*DN ts o (x / 2).toNat+1
def crI (cs:List Int) (x:Int):Int:=2*((partner (x / 2).toNat:Nat):Int)+B1 cs x
def plI (ts:AW) (x:Int):Int:=2*Ad ts (x / 2).toNat+x % 2
def hfI (cs:List Int) (x:Int):Nat:=2*(x.toNat / 4)+(if x.toNat % 4 / 2=0 then x.toNat % 2 else (B1 cs x).toNat)
def dbI (ts:AW) (o:Aa) (cs:List Int) (j:Nat) (x:Int):Int:=if hfI cs x<j then rotI ts o (crI cs x) else rotI ts o x
def aI (j:Nat):Int:=((4*(j / 2)+j % 2:Nat):Int)
def dbU (ts:AW) (cs:List Int):AW:=(AR (2*ts.length)).map λj=>(plI ts<|aI j,plI ts (crI cs<|aI j))
section
variable {N:Nat}{ts:AW}{o:Aa}{cs:List Int}
theorem JW (cs:List Int) (e:Nat) (hh:h=0\/h=1):crI cs (2*(e:Int)+h)=2*((partner e:Nat):Int)+(h+cs.getD (e / 2) 0) % 2:=by
 unfold crI;rw[Jc cs e hh,show ((2*(e:Int)+h) / 2).toNat=e by omega]
theorem JQ (ts:AW) (o:Aa) (e:Nat) (hh:h=0\/h=1):rotI ts o (2*(e:Int)+h)=if h=0 then 2*BW ts o e else 2*DN ts o e+1:=by
 unfold rotI;rw[show ((2*(e:Int)+h) / 2).toNat=e by omega,show (2*(e:Int)+h) % 2=h by omega]
theorem GR (ts:AW) (e:Nat) (hh:h=0\/h=1):plI ts (2*(e:Int)+h)=2*Ad ts e+h:=by
 unfold plI;rw[show ((2*(e:Int)+h) / 2).toNat=e by omega,show (2*(e:Int)+h) % 2=h by omega]
theorem JZ (cs:List Int) (e:Nat) (hh:h=0\/h=1):hfI cs (2*(e:Int)+h)=2*(e / 2)+(if e % 2=0 then h.toNat else ((h+cs.getD (e / 2) 0) % 2).toNat):=by
 unfold hfI;rw[Jc cs e hh];have E:(2*(e:Int)+h).toNat=2*e+h.toNat:=by lia
 rw[E,show (2*e+h.toNat) / 4=e / 2 by lia,show (2*e+h.toNat) % 4 / 2=e % 2 by lia,show (2*e+h.toNat) % 2=h.toNat by omega]
theorem Fs (hC:CrOk ts cs) (h0:0<=x) (h1:x<((4*ts.length:Nat):Int)):0<=crI cs x/\crI cs x<((4*ts.length:Nat):Int)/\crI cs (crI cs x)=x/\hfI cs (crI cs x)=hfI cs x/\crI cs x≠x/\hfI cs x<2*ts.length:=by
 obtain⟨e,h,E,H,rfl⟩:=Eg h0 h1;have c:=cbit hC E;have a:=CZ E;have P:=Cy e;have p:=HL e;rw[JW cs e H,JW cs (partner e) (by lia),JZ cs e H,JZ cs (partner e) (by omega),P,p];refine(by lia,by lia,by omega,?_,?_,?_)
 ·unfold partner
  by_cases z:e % 2=0
  ·rw[AD z,AB (by lia),AD z];omega
  ·rw[AB z,AD (by lia),AB z]
 ·have:partner e≠e:=by unfold partner;split <;> lia
  lia
 ·split <;> lia
theorem a_in (hj:j<2*ts.length):0<=aI j/\aI j<((4*ts.length:Nat):Int)/\hfI cs (aI j)=j:=by
 unfold aI;refine(by lia,by lia,?_);have:=JZ cs (2*(j / 2)) (h:=((j % 2:Nat):Int)) (by lia);rw[show 2*(((2*(j / 2):Nat)):Int)+((j % 2:Nat):Int)=((4*(j / 2)+j % 2:Nat):Int) by lia]at this;rw[this,AD (by lia)];lia
theorem Zz3 (hC:CrOk ts cs) (h0:0<=x) (h1:x<((4*ts.length:Nat):Int)) (hj:hfI cs x=j):x=aI j\/x=crI cs (aI j):=by
 have k:∀y:Int,0<=y->y<((4*ts.length:Nat):Int)->(y / 2) % 2=0->hfI cs y=j->y=aI j:=λy d f z Y=>by
  obtain⟨e,h,E,H,rfl⟩:=Eg d f;rw[JZ cs e H,AD (by lia)]at Y;unfold aI;lia
 obtain⟨c,C,a,b,_⟩:=Fs hC h0 h1;by_cases z:(x / 2) % 2=0
 ·exact .inl<|k x h0 h1 z hj
 ·right
  have:=k (crI cs x) c C (by
   obtain⟨e,h,E,H,rfl⟩:=Eg h0 h1;rw[JW cs e H];have:partner e=e-1:=by unfold partner;rw[AB (by lia)]
   have g:=cbit hC E;lia) (by rw[b];exact hj)
  rw[<- this,a]
theorem Jh (x:Int):rotI ts o (crI cs x)=cOn ts o cs x:=by
 have b:=LJ cs x;have:=JQ ts o (partner (x / 2).toNat) (h:=B1 cs x) b;unfold crI cOn;rw[this]
theorem L7 (hW:An (N:Int) ts) (hO:Ay (N:Int) ts o) (h0:0<=x) (h1:x<((4*ts.length:Nat):Int)):plI ts (rotI ts o x)=plI ts x/\0<=rotI ts o x/\rotI ts o x<((4*ts.length:Nat):Int):=by
 obtain⟨e,h,E,H,rfl⟩:=Eg h0 h1;rw[JQ ts o e H,GR ts e H];obtain⟨g,c,G,a⟩:=Fi hW hO E;obtain⟨k,d,K,b⟩:=Sq hW hO E;rcases H with rfl|rfl
 ·rw[AD rfl,<- a]
  have:=GR ts g (h:=0) (.inl rfl);rw[Int.add_zero]at this;rw[this,G];lia
 ·rw[AB (by decide),K,GR ts k (.inr rfl),b]
  lia
theorem Lg (hW:An (N:Int) ts) (hO:Ay (N:Int) ts o) (hC:CrOk ts cs):CI (rotI ts o) (4*ts.length):=by
 have O:=Gb hW hO hC;refine(λx h H=>(L7 hW hO h H).2,λx y h H f g e=>?_);obtain⟨A,c,a,_⟩:=Fs hC h H;obtain⟨B,d,b,_⟩:=Fs hC f g;have r:=Jh (ts:=ts) (o:=o) (cs:=cs)<|crI cs x;have R:=Jh (ts:=ts) (o:=o) (cs:=cs)<|crI cs y;rw[a]at r;rw[b]at R;rw[r,R]at e;have:=O.inj _ _ A c B d e;rw[<- a,this,b]
theorem OZ (hW:An (N:Int) ts) (hO:Ay (N:Int) ts o) (hC:CrOk ts cs):SwapsG (4*ts.length) (2*N) (plI ts) (dbI ts o cs) aI (λj=>crI cs<|aI j) (dbU ts cs):=by
 have l:(dbU ts cs).length=2*ts.length:=by unfold dbU;rw[AK,BS]
 have D:∀x,dbI ts o cs 0 x=rotI ts o x:=λx=>by unfold dbI;rw[AB (EY _)]
 refine(?_,λx H f=>?_,λx H f=>?_,λj J x H f=>?_,λj J=>?_,λj J=>?_)
 ·have R:=Lg hW hO hC
  exact(λx H f=>by rw[D];exact R.to x H f,λx y a b c d e=>R.inj x y a b c d (by rw[D,D]at e;exact e))
 ·rw[D];exact(L7 hW hO H f).1
 ·obtain⟨e,h,E,q,rfl⟩:=Eg H f
  rw[GR ts e q];have:=Fe hW E;lia
 ·rw[l]at J
  obtain⟨A,g,i⟩:=a_in (cs:=cs) J;obtain⟨C,k,p,m,n,_⟩:=Fs hC A g;by_cases ea:x=aI j
  ·rw[ea,Eh]
   unfold dbI;rw[i,AD (Nat.lt_succ_self _),m,i,AB (D4 _)]
  ·by_cases eb:x=crI cs (aI j)
   ·rw[eb,E9]
    unfold dbI;rw[m,i,AD (Nat.lt_succ_self _),AB (D4 _),p]
   ·rw[Dg ea eb]
    have r:hfI cs x≠j:=λz=>(Zz3 hC H f z).elim ea eb;unfold dbI;by_cases z:hfI cs x<j
    ·rw[AD z,AD (by lia)]
    ·rw[AB z,AB (by lia)]
 ·rw[l]at J
  obtain⟨A,g,i⟩:=a_in (cs:=cs) J;obtain⟨C,k,_,_,n,_⟩:=Fs hC A g;exact(A,g,C,k,Ne.symm n)
 ·rw[l]at J
  unfold dbU;rw[AZ,ET J];rfl
theorem Ol (hC:CrOk ts cs) (h0:0<=x) (h1:x<((4*ts.length:Nat):Int)):dbI ts o cs (2*ts.length) x=cOn ts o cs x:=by
 unfold dbI;rw[AD (Fs hC h0 h1).2.2.2.2.2,Jh]
def lmI (N:Nat) (ts:AW) (cs:List Int) (p:Int):Int:=(Ae (2*N)<|dbU ts cs).getD p.toNat 0
theorem Uu (hW:An (N:Int) ts) (hO:Ay (N:Int) ts o) (hC:CrOk ts cs) (hm:Be ms (Ae N ts)) (hn:Be ns (Ae (2*N)<|dbU ts cs)):ns.length<=2*ms.length:=by
 have S:=OZ hW hO hC;have L:(dbU ts cs).length=2*ts.length:=by unfold dbU;rw[AK,BS]
 have M:∀x,0<=x->x<((4*ts.length:Nat):Int)->lmI N ts cs (plI ts<|crI cs x)=lmI N ts cs (plI ts x):=λx c H=>by
  have:=Lf S (2*ts.length) (by lia) x c H;rw[<- L,B2,L,Ol hC c H,<- Jh]at this;obtain⟨C,f,_⟩:=Fs hC c H;rw[(L7 hW hO C f).1]at this;exact this
 have O:∀{p:Int}{r:List Int},Fu N ts p r->∀h:Int,(h=0\/h=1)->∃b:Int,(b=0\/b=1)/\lmI N ts cs (2*p+h)=lmI N ts cs (2*mk N ts p+b):=λ{p r} d=>by
  induction d with
  |nil c H h=>intro k hk;exact(k,hk,by rw[h])
  |@snoc q p r e hq he H h2 ih=>
   intro h hh;have j:=cbit hC he;obtain⟨b,a,E⟩:=ih ((h+cs.getD (e / 2) 0) % 2) (by lia);refine(b,a,?_);have m:=Ru hW he;rw[H,h2]at m;rw[m,<- E];have:=M (2*((partner e:Nat):Int)+h) (by lia) (by have:=CZ he;lia);rw[JW cs (partner e) hh,Cy,HL,GR ts e (by lia),GR ts (partner e) hh,H,h2]at this;exact this.symm
 obtain⟨I,n⟩:=Sv hW hm;have u:∀x∈ns,x∈ms.flatMap λg=>[lmI N ts cs (2*g),lmI N ts cs (2*g+1)]:=λx X=>by
  obtain⟨P,i,rfl⟩:=L9 ((hn.2 x).mp X);rw[DH]at i;obtain⟨_,d⟩:=Vn hW I (by lia) (p:=((P / 2:Nat):Int)) (by lia) (by lia);obtain⟨b,a,E⟩:=O d ((P % 2:Nat):Int) (by lia);have E:_=_:=(congrArg (λz:Nat=>(Ae (2*N)<|dbU ts cs).getD z 0) (show P=(2*((P / 2:Nat):Int)+((P % 2:Nat):Int)).toNat by lia)).trans E;rw[E];refine Gu.mpr (mk N ts ((P / 2:Nat):Int),(JD hW hm).mpr (QV hW (by lia)<|by lia),?_);rcases a with rfl|rfl
  ·rw[Int.add_zero];exact Bh
  ·exact BQ _ Bh
 have:=GJ (hn.1.imp λz=>Int.ne_of_lt z) u;have F:∀l:List Int,(l.flatMap λg=>[lmI N ts cs (2*g),lmI N ts cs (2*g+1)]).length=2*l.length:=λl=>by
  induction l with
  |nil=>rfl
  |cons g l ih=>rw[D8,Aw,ih,Aj];simp;lia
 rw[F]at this;exact this
theorem Nm (Pd:Nat->Bool):∀n:Nat,((AR (2*n)).filter Pd).length=((AR n).filter λe=>Pd (2*e)).length+((AR n).filter λe=>Pd (2*e+1)).length
 |0=>rfl
 |n+1=>by
  rw[show 2*(n+1)=2*n+1+1 by lia,FO,FO,FO,DT,DT,DT,DT,Aw,Aw,Aw,Aw,Nm Pd n];have o:∀(q:Nat->Bool) (k:Nat),([k].filter q).length=if q k=true then 1 else 0:=λq k=>by
   by_cases z:q k=true
   ·rw[IF z,AD z];rfl
   ·rw[KC z,AB z];rfl
  rw[o,o,o,o];lia
theorem NT {α:Type}{p q:α -> Bool}(h:∀x,p x=true->q x=true):∀l:List α,(l.filter p).length<=(l.filter q).length
 |[]=>AS _
 |x::l=>by
  have i:=NT h l;by_cases z:p x=true
  ·rw[IF z,IF (h x z)];exact Nat.succ_le_succ i
  ·rw[KC z,CC]
   split
   ·exact Gq i
   ·exact i
theorem P7 (hO:Ay (N:Int) ts o):loneS (λ_=>true) N o=lone o:=by
 have l:=hO.len;unfold loneS lone;have:o=(AR N).map λp=>rowP o p:=by
  refine DR λp=>?_;by_cases hp:p<N
  ·rw[AZ,ET hp]
   rw[AQ (show p<o.length by lia)];show some _=some (o.getD p []);rw[Ao,AQ (show p<o.length by omega)];rfl
  ·rw[EL (by lia),EL (by rw[AK,BS];lia)]
 conv=>rhs;rw[this]
 rw[F0,AK];rfl
theorem Ny (hW:An (N:Int) ts) (hO:Ay (N:Int) ts o) (hC:CrOk ts cs) (hO':Ay (N:Int) ts o') {h:Nat}(hh:h<2) (he:∀y:Nat,y<2*ts.length->rotI ts o (2*(y:Int)+(h:Int))=2*BW ts o' y+(h:Int)):((AR (2*ts.length)).filter λe=>A6 (rotI ts o) (2*e+h) && true).length<=cnt (sgI ts o' 0) (2*ts.length) (endS ts λ_=>true):=by
 have R:=Lg hW hO hC;have G:=Lh hW hO';have t:∀(e:Nat),e<2*ts.length->∀i,iter (rotI ts o) (2*(e:Int)+(h:Int)) i=2*iter (sgI ts o' 0) (e:Int) i+(h:Int):=λe l i=>by
  induction i with
  |zero=>rfl
  |succ i ih=>
   have r:=CN G (e:=(e:Int)) (by lia) (by lia) i;show rotI ts o (iter (rotI ts o) (2*(e:Int)+(h:Int)) i)=2*sgI ts o' 0 (iter (sgI ts o' 0) (e:Int) i)+(h:Int);rw[ih];obtain⟨y,Y⟩:∃y:Nat,iter (sgI ts o' 0) (e:Int) i=(y:Int):=(_,(Int.toNat_of_nonneg r.1).symm);rw[Y,he y (by lia),Lk hW hO']
 unfold cnt;rw[DQ (q:=λe=>A6 (rotI ts o) (2*e+h) && decide (e<2*ts.length)) λe he=>by rw[A1 (Ax.mp he)]];refine NT (λe Q=>?_) _;obtain⟨a,H⟩:=Bool.and_eq_true_iff.mp Q;have H:=of_decide_eq_true H;refine Bool.and_eq_true_iff.mpr (A1 λz Z=>?_,rfl);obtain⟨i,_,rfl⟩:=Bu.mp Z;have:=of_decide_eq_true a _ (by rw[show ((2*e+h:Nat):Int)=2*(e:Int)+(h:Int) by lia];exact CD R (e:=2*(e:Int)+(h:Int)) (by lia) (by lia) i);rw[t e H i]at this;lia
theorem Vf (hW:An (N:Int) ts) (hO:Ay (N:Int) ts o) (hC:CrOk ts cs):cnt (rotI ts o) (4*ts.length) (λ_=>true)+2*lone o<=2*N:=by
 have f:Be ((AR N).map λi:Nat=>(i:Int)) (Ae N []):=by
  refine(?_,λx=>Iff.rfl);rw[D6];exact D2.imp λ{a b} hab=>by omega
 have B:=Ow (S:=λ_=>true) hW hO f;have c:=Ow (S:=λ_=>true) hW hO.turn f;have s:inS (λ_=>true) ((AR N).map λi:Nat=>(i:Int))=N:=by unfold inS;rw[EU.mpr (λ_ _=>rfl),AK,BS]
 have lt:lone (o.map Bp)=lone o:=by
  unfold lone;rw[F0,AK];congr 1;exact DQ λr _=>by cases r <;> rfl
 rw[s,P7 hO]at B;rw[s,P7 hO.turn,lt]at c;have E:=Ny hW hO hC hO (h:=0) (by lia) λy _=>(JQ ts o y (h:=0) (.inl rfl)).trans (by rw[AD rfl];lia);have d:=Ny hW hO hC hO.turn (h:=1) (by lia) λy Y=>(JQ ts o y (h:=1) (.inr rfl)).trans (by rw[AB (by decide),ON hW hO Y];lia);have p:=Nm (λe=>A6 (rotI ts o) e && true) (2*ts.length);have C:cnt (rotI ts o) (4*ts.length) (λ_=>true)=((AR (2*(2*ts.length))).filter λe=>A6 (rotI ts o) e && true).length:=by
  unfold cnt;rw[show 4*ts.length=2*(2*ts.length) by lia]
 rw[C,p];have E:((AR (2*ts.length)).filter λe=>A6 (rotI ts o) (2*e) && true).length<=_:=E;lia
theorem Tr (hW:An (N:Int) ts) (hO:Ay (N:Int) ts o) (hC:CrOk ts cs) (hm:Be ms (Ae N ts)):0<=Gk (N:Int) ts o cs ms:=by
 have S:=OZ hW hO hC;have l:(dbU ts cs).length=2*ts.length:=by unfold dbU;rw[AK,BS]
 have r:=Vf hW hO hC;have c:cnt (dbI ts o cs 0) (4*ts.length) (λ_=>true)<=2*N-2*lone o:=by
  have:cnt (dbI ts o cs 0) (4*ts.length) (λ_=>true)=cnt (rotI ts o) (4*ts.length) (λ_=>true):=K9 (Lg hW hO hC) (λx _ _=>by unfold dbI;rw[AB (EY _)]) S.one _;lia
 obtain⟨s,n⟩:=LK<|Ae (2*N)<|dbU ts cs;have k:=Nt S c (2*ts.length) (by lia) s (by rw[<- l,B2];exact n);have e:cnt (dbI ts o cs (2*ts.length)) (4*ts.length) (λ_=>true)=cnt (cOn ts o cs) (4*ts.length) (λ_=>true):=K9 (Gb hW hO hC) (λx h H=>Ol hC h H) (Ga S _<|by lia) _;rw[e,WS hW hO hC]at k;have L:=Uu hW hO hC hm n;unfold Gk allC;rw[Aw,CJ];lia
end
section
variable {P:Program}{w:World}{K:W.Frag}{mg:Str->Option Value}{base:Heap}{f:Addr}{fd:FuncData}
def J4:DSp:=λs t=>∃e:Int,s=[.int e]/\t (.bl true)
theorem Ul (mb:Mb mg) (F:BH K "_law_whole" "_law_whole" Kj f fd):FnOk P w K mg base CX0 1 f fd ["_law_found"] (spD K J4):=by
 refine F.ok Qc (Ca λd t h=>by obtain⟨_,rfl,_⟩:=h;rfl) λv A r s H S Q E R h=>?_;have u:=Bg R;refine(_,(Ag<|BF<|Hn (A4 (isiUK K) rfl (mb "isinstance"<|by decide) HH<|AE (pv 0)<|AE (Hk rfl (mb "int"<|by decide) WR (show RelV (.ty "int") _ from rfl)) AL)<|Jm<|Zzb<|A4 (isiUK K) rfl (mb "isinstance"<|by decide) HH<|AE (pv 0)<|AE (Hk rfl (mb "bool"<|by decide) WI (show RelV (.ty "bool") _ from rfl)) AL),Ce (λd t a=>?_) h);obtain⟨e,rfl,q⟩:=a;refine(by simp,?_);dsimp only[startD,Bf,A9,BN];refine Bz<|GU<|BC<|AJ<|AF rfl<|AJ<|Gd<|AM<|Hf (T:="int") (b:=true) rfl (λ_=>by rfl) (_,rfl,?_);rw[AD rfl];refine Ox<|BC<|AJ<|AF rfl<|AJ<|Gd<|AM<|Hf (T:="int") (b:=false) rfl (λ_=>by rfl) (_,rfl,?_);exact q
theorem Lv {α:Type}(l:List α):((l.filter λ_=>true).map λ_=>D.bl true)=(Am l.length true).map D.bl:=by
 rw[EU.mpr (by simp),List.map_const',IS]
def fLRow:DSp:=λs t=>∃r:List Int,s=[rowD r]/\r.length<=1000/\t (.bl true)
theorem VQ (mb:Mb mg) (C43:Callee P w K mg base 1 "_law_whole" ["_law_found"] (spD K J4)) (F:BH K "_law_row" "_law_row" Ie f fd):FnOk P w K mg base CX0 2 f fd ["_law_found"] (spD K fLRow):=by
 refine F.ok Qd (Ca λS t h=>by obtain⟨_,rfl,_⟩:=h;rfl) λv A e s H V Q E R h=>?_;have u:=Bg R;refine(_,(Ag<|BF<|Hn (A4 (isiUK K) rfl (mb "isinstance"<|by decide) HH<|AE (pv 0)<|AE (Hk rfl (mb "tuple"<|by decide) Ed (show RelV (.ty "tuple") _ from rfl)) AL)<|Jm<|A4 (allK K rfl) rfl (mb "all"<|by decide) L6<|AE (DI ["_law_one"] (show CompSc (defScope Ie) ["_law_found"] _ [] [] from (rfl,by decide +kernel,by decide +kernel,by decide +kernel,rfl,by decide +kernel)) rfl (seqK K<|pv 0) (λ_ _ _ _ _=>(A2 (i:=0) (show List.Nodup (["_law_one"]:List Str) from by decide) rfl<|Or.inl rfl)) (λ_ _ _ _ _=>C0) λ_ _ _ _ _=>(A3 C43 (R.mono<|by decide)<|AE (pv 0) AL)) AL),Ce (λS t c=>?_) h);obtain⟨r,rfl,l,q⟩:=c;refine(by simp,?_);dsimp only[startD,Bf,A9,BN];refine Bz<|GU<|BC<|AJ<|AF rfl<|AJ<|Gd<|AM<|Hf (T:="tuple") (b:=true) rfl (λ_=>by rfl) (_,rfl,iteT ?_);refine BC<|AJ<|Dc (by decide)<|Df<|AF rfl (_,rfl,?_,λ_=>true,λ_=>.bl true,λi d a=>?_,?_)
 ·rw[AK];exact small1000 l
 ·rw[AZ]at a
  cases z:r[i]? with
  |none=>rw[z]at a;cases a
  |some x=>
   rw[z]at a;have a:D.int x=d:=by simpa using a
   subst a;exact Cz (rfl,B4<|AJ<|AF rfl<|AM (x,rfl,rfl,_,rfl))
 ·refine AM ?_
  rw[Lv];refine MF ?_;rw[show ∀n:Nat,(Am n true).all id=true from λn=>by rw[Ci];intro x hx;rw[(FI.mp hx).2];rfl];exact q
end
def MW:DSp:=λs t=>∃rs:Aa,s=[.lst (rs.map crD)]/\rs.length<=100/\(∀r∈rs,r.length<=100)/\t (.bl true)
section
variable {P:Program}{w:World}{K:W.Frag}{mg:Str->Option Value}{base:Heap}{f:Addr}{fd:FuncData}
theorem Pc (n:Nat):(Am n true).all id=true:=by rw[Ci];intro x hx;rw[(FI.mp hx).2];rfl
theorem Sk (mb:Mb mg) (C38:Callee P w K mg base 2 "_law_row" ["_law_found"] (spD K fLRow)) (F:BH K "_law_told" "_law_told" HF f fd):FnOk P w K mg base CX0 3 f fd ["_law_told_here"] (spD K MW):=by
 refine F.ok Me (Ca λa t h=>by obtain⟨_,rfl,_⟩:=h;rfl) λv A e s H n Q E R h=>?_;have m:=Bg R;have V:=Ek R;refine(_,(AV (B6 (PW.pt<|pw_or (Fn<|truK K (A4 (isiUK K) rfl (mb "isinstance"<|by decide) HH<|AE (pv 0)<|AE (Hk rfl (mb "list"<|by decide) Oo (show RelV (.ty "list") _ from rfl)) AL) λ_=>rfl)<|pw_or1<|Fn<|truK K (A4 (allK K rfl) rfl (mb "all"<|by decide) L6<|AE (DI ["_law_face"] (show CompSc (defScope HF) ["_law_told_here","_law_face"] _ [] [] from (rfl,by decide +kernel,by decide +kernel,by decide +kernel,rfl,by decide +kernel)) rfl (seqK K<|pv 0) (λ_ _ _ _ _=>(A2 (i:=0) (show List.Nodup (["_law_face"]:List Str) from by decide) rfl<|Or.inl rfl)) (λ_ _ _ _ _=>C0) λ_ _ _ _ _=>(A4 (isiUK K) rfl (mb "isinstance"<|by decide) HH<|AE (pv 0)<|AE (Hk rfl (mb "tuple"<|by decide) Ed (show RelV (.ty "tuple") _ from rfl)) AL)) AL) λ_=>rfl) (Ag<|BF Fq) B5)<|AV (Cd PassesOwn.never rfl (seqK K<|pv 0) (A2 (i:=1) Me.nd rfl<|Or.inl rfl)<|Ag<|B6 (Fn<|truK K (A4 (allK K rfl) rfl (mb "all"<|by decide) L6<|AE (DI ["_law_state"] (show CompSc (defScope HF) ["_law_told_here","_law_face"] _ [] [] from (rfl,by decide +kernel,by decide +kernel,by decide +kernel,rfl,by decide +kernel)) rfl (seqK K<|pv 1) (λ_ _ _ _ _=>(A2 (i:=0) (show List.Nodup (["_law_state"]:List Str) from by decide) rfl<|Or.inl rfl)) (λ_ _ _ _ _=>C0) λ_ _ _ _ _=>(Hn (A3 C38 (R.mono<|by decide)<|AE (pv 0) AL)<|Jm<|Hj CF (A4 (lenK K) rfl (mb "len"<|by decide) B0<|AE (pv 0) AL) AN<|nomark _)) AL) λ_=>rfl) (Ag<|BF Fq) B5)<|Ag<|BF Fq),Ce (λa t c=>?_) h);obtain⟨S,rfl,L,l,q⟩:=c;refine(by simp,?_);dsimp only[startD,Bf,A9,BN,Am];refine Ah<|CH<|Jt<|FA<|FC<|BC<|AJ<|AF rfl<|AJ<|Gd<|AM<|Hf (T:="list") (b:=true) rfl (λ_=>by rfl) (_,rfl,iteF ?_);refine FA<|FC<|BC<|AJ<|Dc (by decide)<|Dx<|AF rfl (_,Or.inl rfl,?_,λ_=>true,λ_=>.bl true,λi d D=>?_,?_)
 ·rw[AK];exact small1000 (by lia)
 ·rw[AZ]at D
  cases z:S[i]? with
  |none=>rw[z]at D;cases D
  |some r=>
   rw[z]at D;have D:crD r=d:=by simpa using D
   subst D;exact Cz (rfl,BC<|AJ<|AF rfl<|AJ<|Gd<|AM<|Hf (T:="tuple") (b:=true) rfl (λ_=>by rfl) (rfl,_,rfl))
 refine AM ?_;rw[Lv];refine MF (true,?_,iteF<|B3 ?_)
 ·rw[Pc];rfl
 refine Bv (λU=>∃X:L2.Slot,U = [.val (.lst<|S.map crD),X]) ?_ ?_
 ·refine Cb (Dx<|AF rfl (_,Or.inl rfl,λi U=>∃X:L2.Slot,U = [.val (.lst<|S.map crD),X],(_,rfl),?_,?_))
  ·rintro i d u D ⟨X,rfl⟩
   rw[AZ]at D;cases z:S[i]? with
   |none=>rw[z]at D;cases D
   |some r=>
    rw[z]at D;have D:crD r=d:=by simpa using D
    subst D;have g:=l r<|Bk z;refine Bl<|CH<|FA<|FC<|BC<|AJ<|Dc (by decide)<|Df<|AF rfl (_,rfl,?_,λ_=>true,λ_=>.bl true,λj d D=>?_,?_)
    ·rw[AK];exact small1000 (by lia)
    ·rw[AZ]at D
     cases z2:r[j]? with
     |none=>rw[z2]at D;cases D
     |some x=>
      rw[z2]at D;have D:stD x=d:=by simpa using D
      subst D;refine Cz (rfl,?_);refine iteT<|GU<|B4<|AJ<|AF rfl<|AM (BM x,rfl,by show 2<=1000;lia,_,rfl,iteT ?_);refine AU<|BC<|AJ<|AF rfl<|AM<|CM (Or.inr rfl)<|Ac<|Cf (?_,_,rfl);rfl
    refine AM ?_;rw[Lv];refine MF (true,?_,iteF<|B3 (_,rfl));rw[Pc];rfl
  ·rintro u ⟨X,rfl⟩
   exact(X,rfl)
 rintro k ⟨X,rfl⟩;exact Bz<|QR q
def fBeh:OSp:=λs t=>∃o:Aa,s=[Bd o]/\o.flatten.Nodup/\o.length<=25/\o.flatten.length<=48/\t (.dct ((o.flatMap BI).map CU))
def MX:DSp:=λs t=>∃o:Aa,s=[Bd o]/\o.length<=25/\o.flatten.length<=48/\t (Bd<|o.map Bp)
theorem Mo {o:Aa}(h:r∈o):r.length<=o.flatten.length:=by
 obtain⟨s,t,rfl⟩:=List.append_of_mem h;rw[List.flatten_append,J9,Aw,Aw];lia
theorem Vk (n:Nat):HT.sIx n n (some 1)=min 1 n:=rfl
theorem TC (ds:List D):cutD ds none (some 1)=ds.take 1:=by
 unfold cutD;rw[Vk,show HT.sIx ds.length 0 none=0 from rfl,List.drop_zero,F3];by_cases h:1<=ds.length
 ·rw[F2 h]
 ·have:ds=[]:=Es (by lia)
  subst this;rfl
theorem UJ (ds:List D):cutD ds (some 1) none=ds.drop 1:=by
 unfold cutD;rw[show HT.sIx ds.length 0 (some 1)=min 1 ds.length from rfl,show HT.sIx ds.length ds.length none=ds.length from rfl];by_cases h:1<=ds.length
 ·rw[F2 h,Et (by rw[DD];exact AS _)]
 ·have:ds=[]:=Es (by omega)
  subst this;rfl
theorem TH {A B:AW}{y:Int × Int}(h:((A++y::B).map (·.1)).Nodup):y.1 ∉ A.map (·.1):=by
 rw[BD,D7]at h;intro hm;exact h.2.2 _ hm _ (by rw[BX];exact Bh) rfl
theorem SV (mb:Mb mg) (F:BH K "_law_turned" "_law_turned" Ig f fd):FnOk P w K mg base CX0 1 f fd ["_law_order_here"] (spD K MX):=by
 refine F.ok Qe (Ca λS t h=>by obtain⟨_,rfl,_⟩:=h;rfl) λv A u s H V Q E R h=>?_;have U:=Bg R;refine(_,(Ag<|BF<|FY (tupK K) rfl (mb "tuple"<|by decide) Ed<|AE (DI ["_law_row_here"] (show CompSc (defScope Ig) ["_law_order_here"] _ [] [] from (rfl,by decide +kernel,by decide +kernel,by decide +kernel,rfl,by decide +kernel)) rfl (seqK K<|pv 0) (λ_ _ _ _ _=>(A2 (i:=0) (show List.Nodup (["_law_row_here"]:List Str) from by decide) rfl<|Or.inl rfl)) (λ_ _ _ _ _=>C0) λ_ _ _ _ _=>(Ab (addK K) (LS (slK K) (pv 0) Lo<|Ja AN)<|slRK K<|LS (slK K) (pv 0) (Ja AN) Lo)) AL),Ce (λS t b=>?_) h);obtain⟨o,rfl,l,b,q⟩:=b;refine(by simp,?_);dsimp only[startD,Bf,A9,BN];refine Bz<|BC<|AJ<|Dc (by decide)<|Df<|AF rfl (_,rfl,?_,λ_=>true,λd=>match d with|.tup S=>.tup (S.take 1++(S.drop 1).reverse)|d=>d,λi d a=>?_,?_)
 ·rw[AK];exact small1000 (by lia)
 ·rw[AZ]at a
  cases z:o[i]? with
  |none=>rw[z]at a;cases a
  |some r=>
   rw[z]at a;have a:A8 r=d:=by simpa using a
   subst a;have R:=Mo<|Bk z;refine Cz (rfl,AU<|MO<|AF rfl<|Ln<|Lp<|Ac (1,rfl,.tup ((r.map D.int).take 1),?_,?_))
   ·show some (D.tup<|cutD (r.map D.int) none<|some 1)=_
    rw[TC]
   refine P4<|MO<|AF rfl<|Lp<|Ac (1,rfl,Ln (.tup ((r.map D.int).drop 1),?_,(_,rfl,?_)))
   ·show some (D.tup<|cutD (r.map D.int) (some 1) none)=_
    rw[UJ]
   refine V0 ?_ (rfl,_,rfl);rw[KJ,Bj,DD,AK];exact DW (small1000<|by lia)
 ·refine AM (Ei (Or.inl rfl) ?_)
  have e:((o.map A8).filter λ_=>true).map (λd=>match d with|.tup S=>D.tup (S.take 1++(S.drop 1).reverse)|d=>d)=(o.map Bp).map A8:=by
   rw[EU.mpr (by simp),A5,A5];apply ES;intro r _;show D.tup ((r.map D.int).take 1++((r.map D.int).drop 1).reverse)=D.tup ((Bp r).map D.int);unfold Bp;rw[BD,List.map_take,List.map_reverse,List.map_drop]
  rw[e];exact q
theorem SS (mb:Mb mg) (F:BH K "_law_behind" "_law_behind" Kl f fd):FnOk P w K mg base CX0 1 f fd ["_law_order_here"] (spO K fBeh):=by
 refine F.ok Ik (O8 λS t h=>by obtain⟨_,rfl,_⟩:=h;rfl) λV A R s H vs Q E J h=>?_;have g:=Bg J;refine(_,(AV (Ap (i:=1) Ik.nd rfl (Or.inl rfl) Ts)<|AV (Cd PassesOwn.never rfl (seqK K<|pv 0) (A2 (i:=2) Ik.nd rfl<|Or.inl rfl)<|Ag<|Cd PassesOwn.never rfl (DX rfl (mb "range"<|by decide)<|AE (A4 (lenK K) rfl (mb "len"<|by decide) B0<|AE (pv 2) AL) AL) (A2 (i:=3) Ik.nd rfl<|Or.inl rfl)<|Ag<|Dy (Ak (ixK K g) (pv 2) (pv 3) λ_ _=>rfl)<|Fm (pv 1) (Ak (ixK K g) (pv 2) (Ab EI (pv 3) AN) λ_ _=>rfl)<|setU g)<|Ag<|BF<|pv 1),QL (λS t G=>?_) h);obtain⟨o,rfl,n,Z,L,q⟩:=G;refine(by simp,?_);dsimp only[startD,Bf,A9,BN];have N:=Kz n;have p:∀l:Aa,(l.flatMap BI).length=l.flatten.length:=λl=>by
  induction l with
  |nil=>rfl
  |cons r l ih=>rw[D8,J9,Aw,Aw,Kv,ih]
 refine Ah<|Cp<|Vs ?_;refine Bv (λU=>∃X x:L2.Slot,U = [.val (Bd o),.own (.dct ((o.flatMap BI).map CU)),X,x]) ?_ ?_
 ·refine Cb (Df<|AF rfl (o.map A8,rfl,λi U=>∃X x:L2.Slot,U = [.val (Bd o),.own (.dct (((o.take i).flatMap BI).map CU)),X,x],(_,_,rfl),?_,?_))
  ·rintro i d u a ⟨X,x,rfl⟩
   rw[AZ]at a;cases z:o[i]? with
   |none=>rw[z]at a;cases a
   |some r=>
    rw[z]at a;have a:A8 r=d:=by simpa using a
    subst a;have Y:i<o.length:=(BB.mp z).1;have m:o.take (i+1)=o.take i++[r]:=by rw[Dl,z];rfl
    have O:o.flatMap BI=(o.take i).flatMap BI++(BI r++(o.drop<|i+1).flatMap BI):=by
     conv=>lhs;rw[<- D0 (i+1) o,m]
     rw[D1,D1];simp[Ba]
    have M:=Mo<|Bk z;refine Bl<|Cb<|DY<|AJ<|BC<|AJ<|AF rfl<|AM<|CM (Or.inr rfl)<|AM (_,rfl,?_,?_,?_)
    ·rw[AK];lia
    ·rw[AK];lia
    rw[AK,Bi];refine(λk U=>∃x:L2.Slot,U = [.val (Bd o),.own (.dct (((o.take i).flatMap BI++(BI r).take k).map CU)),.val (A8 r),x],(_,by rw[FR,Bs];rfl),?_,?_)
    ·rintro k d u a ⟨x,rfl⟩
     obtain⟨c,rfl⟩:=De a;have I:=Mn c;have v:atI (r.map D.int) (0+(k:Int))=some (.int<|r.getD k 0):=by
      rw[D5];exact CG (by rw[AZ,Ao,AQ c];rfl)
     have B:atI (r.map D.int) (0+(k:Int)-1)=some (.int<|r.getD ((k+r.length-1) % r.length) 0):=by
      by_cases h0:k=0
      ·subst h0
       have e:(0+r.length-1) % r.length=r.length-1:=by rw[By,EX (by lia)]
       rw[e];obtain⟨j,y,rfl⟩:∃j y,r=j++[y]:=(r.dropLast,r.getLast (by intro z;subst z;simp at c),(J6 _).symm);show atI ((j++[y]).map D.int) (-1)=_;rw[BD,G7,LY];simp
      ·have e:(k+r.length-1) % r.length=k-1:=by rw[show k+r.length-1=(k-1)+r.length by lia,IY,EX (by omega)]
       rw[e,show 0+(k:Int)-1=((k-1:Nat):Int) by lia];exact CG (by rw[AZ,Ao,AQ (by omega:k-1<r.length)];rfl)
     refine Bl<|Vl<|AU<|AF rfl<|AF rfl<|BK v ((_,_,rfl,rfl),AU<|AF rfl<|AU<|AF rfl<|Ac<|Di<|BK B (_,_,_,rfl,rfl,rfl,?_,?_))
     ·rw[AK,Aw,Bj]
      have:=p o;rw[O,Aw,Aw,Kv]at this;exact small1000 (by lia)
     ·have T:(BI r).take (k+1)=(BI r).take k++[(r.getD ((k+r.length-1) % r.length) 0,r.getD k 0)]:=by rw[Dl,I];rfl
      have C:BI r=(BI r).take k++(r.getD ((k+r.length-1) % r.length) 0,r.getD k 0)::(BI r).drop (k+1):=by
       conv=>lhs;rw[<- D0 (k+1) (BI r),T]
       simp
      have b:=N;rw[O,C,Ba,<- Ba,List.cons_append]at b;refine(.val (.int (0+(k:Int))),?_);show [_,L2.Slot.own (.dct<|putD _ _ _),_,_]=_;rw[VW (TH b),T,Ba]
    ·rintro u ⟨x,rfl⟩
     rw[Cn];refine(.val<|A8 r,x,?_);rw[Et (l:=BI r) (by rw[Kv];exact AS _),m,D1];simp
  ·rintro u ⟨X,x,rfl⟩
   rw[AK,B2];exact(X,x,rfl)
 rintro W ⟨X,x,rfl⟩;exact GQ<|QF rfl q
def keyI (x:Int):List AO:=(BM x).map .inl
theorem Og (h:keyI x=keyI y):x=y:=by
 have H:(Sum.inl (x / 2):AO)=.inl (y / 2):=(EA.inj h).1;have a:(Sum.inl (x % 2):AO)=.inl (y % 2):=(EA.inj (EA.inj h).2).1;injection H with H
 injection a with a
 omega
end
theorem O6 (h:x≠y):keyI x≠keyI y:=λe=>h<|Og e
def BO (g:Int->Int) (k:Nat):List (List AO × D):=(AR k).map λx:Nat=>(keyI (x:Int),stD (g x))
theorem Mw (g:Int->Int) (k:Nat):BO g (k+1)=BO g k++[(keyI (k:Int),stD (g k))]:=by
 unfold BO;rw[FO,BD];rfl
theorem Rk (g:Int->Int) (k:Nat):(BO g k).length=k:=by unfold BO;rw[AK,BS]
theorem Tj (g:Int->Int) (k:Nat) (v:D):putT (BO g k) (keyI (k:Int)) v=BO g k++[(keyI (k:Int),v)]:=by
 unfold putT;rw[AB];intro h;obtain⟨V,H,a⟩:=List.any_eq_true.mp h;obtain⟨x,X,rfl⟩:=Af.mp H;have:=Og<|of_decide_eq_true a;have:=Ax.mp X;lia
theorem RU (g:Int->Int) (k:Nat) (v v':D):putT (BO g k++[(keyI (k:Int),v)]) (keyI (k:Int)) v'=BO g k++[(keyI (k:Int),v')]:=by
 unfold putT;rw[AD (by rw[List.any_append];simp),BD];congr 1
 ·conv=>rhs;rw[<- F4 (BO g k)]
  refine ES λV h=>?_;obtain⟨x,X,rfl⟩:=Af.mp h;have:=Ax.mp X;exact AB (O6<|by lia)
 ·simp
theorem Rz (g:Int->Int) (k:Nat):(BO g k).map (·.1)=((AR k).map λx:Nat=>BM (x:Int)).map (λr=>r.map .inl):=by
 unfold BO;rw[A5,A5];rfl
theorem TL (g:Int->Int) (h:x<k):valT (BO g k) (keyI (x:Int))=some (stD<|g x):=by
 unfold valT;have:(BO g k).find? (λv=>decide (v.1=keyI (x:Int)))=some (keyI (x:Int),stD (g x)):=by
  rw[List.find?_eq_some_iff_append];refine(by simp,BO g x,((HB (x+1)<|k-(x+1)).map λy:Nat=>(keyI (y:Int),stD (g y))),?_,λv K=>?_)
  ·unfold BO
   have e:AR k=AR x++x::HB (x+1) (k-(x+1)):=by
    rw[List.range_eq_range',List.range_eq_range',show x::HB (x+1) (k-(x+1))=HB x (k-x) from by
     rw[show k-x=(k-(x+1))+1 by lia,List.range'_succ]]
    have:=List.range'_append_1 (s:=0) (m:=x) (n:=k-x);rw[By,show x+(k-x)=k by lia]at this;exact this.symm
   rw[e,BD];rfl
  ·obtain⟨y,Y,rfl⟩:=Af.mp K
   have:=Ax.mp Y;simp only[IV,decide_eq_false_iff_not];exact O6 (by lia)
 rw[this];rfl
def fSteps:OSp:=λs t=>∃n ts o cs,s=[Bd o,A8 cs]/\An n ts/\Ay n ts o/\CrOk ts cs/\t (.dtt<|BO (cOn ts o cs) (4*ts.length))
section
variable {P:Program}{w:World}{K:W.Frag}{mg:Str->Option Value}{base:Heap}{f:Addr}{fd:FuncData}
theorem Ue (mb:Mb mg) (C28:Callee P w K mg base 1 "_law_behind" ["_law_order_here"] (spO K fBeh)) (C41:Callee P w K mg base 1 "_law_turned" ["_law_order_here"] (spD K MX)) (C34:Callee P w K mg base 1 "_law_partner" ["_law_end"] (spD K fPart)) (F:BH K "_law_steps" "_law_steps" Km f fd):FnOk P w K mg base CX0 2 f fd ["_law_order_here","_law_crossings_here"] (spO K fSteps):=by
 refine F.ok FW (O8 λY T h=>by obtain⟨_,_,_,_,rfl,_⟩:=h;rfl) λV A R s H vs Q E r h=>?_;have u:=Bg r;have hv:=Ek r;refine(_,(AV (Ap (i:=2) FW.nd rfl (Or.inl rfl)<|A3 C28 (r.mono<|by decide)<|AE (pv 0) AL)<|AV (Ap (i:=3) FW.nd rfl (Or.inl rfl)<|A3 C28 (r.mono<|by decide)<|AE (A3 C41 (r.mono<|by decide)<|AE (pv 0) AL) AL)<|AV (Ap (i:=4) FW.nd rfl (Or.inl rfl) Up)<|AV (Cd PassesOwn.never rfl (DX rfl (mb "range"<|by decide)<|AE (Ab Dh AN<|A4 (lenK K) rfl (mb "len"<|by decide) B0<|AE (pv 1) AL) AL) (A2 (i:=5) FW.nd rfl<|Or.inl rfl)<|AV (Ap (i:=6) FW.nd rfl (Or.inl rfl)<|A3 C34 (r.mono<|by decide)<|AE (pv 5) AL)<|Ag<|Cd PassesOwn.never rfl (DX rfl (mb "range"<|by decide)<|AE AN AL) (A2 (i:=7) FW.nd rfl<|Or.inl rfl)<|AV (Dy (CS<|AE (Ak (ixK K u) (pv 2) (pv 6) λ_ _=>rfl)<|AE AN AL)<|Fm (pv 4) (CS<|AE (pv 5)<|AE (pv 7) AL)<|setU u)<|Ag<|B6 (Bn CF (Ab CL (Ab (addK K) (pv 7)<|Ak (ixK K u) (pv 1) (Ab GX (pv 5) AN) λ_ _=>rfl) AN) AN<|nomark _) (Ag<|Dy (CS<|AE (Ak (ixK K u) (pv 3) (pv 6) λ_ _=>rfl)<|AE AN AL)<|Fm (pv 4) (CS<|AE (pv 5)<|AE (pv 7) AL)<|setU u) B5)<|Ag<|BF<|pv 4),QL (λY T hf=>?_) h);obtain⟨n,t,o,cs,rfl,W,O,B,q⟩:=hf;refine(by simp,?_);dsimp only[startD,Bf,A9,BN,Am];have ho:=O.len;have hn:=W.hi;have hw:=W.len;have a0:=O.flat_len;have b:=O.turn;have Z:=b.len;have L:=b.flat_len;refine Ah<|Cp<|Lb<|AJ<|AF rfl<|AM (o,rfl,O.flat,by lia,by lia,?_);refine Ah<|Cp<|Lb<|AJ<|B4<|AJ<|AF rfl<|AM (o,rfl,by omega,by omega,AM (o.map Bp,rfl,b.flat,by lia,by lia,?_));refine Ah<|Cp<|UX ?_;have e:∀k,(BO (cOn t o cs) k).length=k:=λk=>Rk _ k;have l:∀k,k<=4*t.length->k<sizeLine:=λk G=>EW (m:=96) (by lia) (by decide);refine Bv (λU=>∃X a x:L2.Slot,U = [.val (Bd o),.val (A8 cs),.own (.dct ((o.flatMap BI).map CU)),.own (.dct (((o.map Bp).flatMap BI).map CU)),.own (.dtt<|BO (cOn t o cs) (4*t.length)),X,a,x]) ?_ ?_
 ·refine Cb (DY<|AJ<|AU<|Ac<|BC<|AJ<|AF rfl<|AM<|CM (Or.inr rfl) ?_)
  rw[AK,B.1];refine jr_I (Or.inl (by omega,by omega))<|AM (_,rfl,by omega,by omega,?_);rw[show ((2:Int)*(t.length:Int)).toNat=2*t.length by omega];refine(λk U=>∃X a x:L2.Slot,U = [.val (Bd o),.val (A8 cs),.own (.dct ((o.flatMap BI).map CU)),.own (.dct (((o.map Bp).flatMap BI).map CU)),.own (.dtt<|BO (cOn t o cs) (2*k)),X,a,x],(_,_,_,rfl),?_,?_)
  ·rintro k d I v ⟨X,a,x,rfl⟩
   obtain⟨G,rfl⟩:=De v;rw[D5];have y:=CZ G;refine Bl<|Ah<|BE<|B4<|AJ<|AF rfl<|AM (k,rfl,?_);refine Cb<|DY<|AJ<|Ac<|AM (_,rfl,by lia,by lia,?_);rw[show ((2:Int)).toNat=2 from rfl];refine(λh U=>∃x:L2.Slot,U = [.val (Bd o),.val (A8 cs),.own (.dct ((o.flatMap BI).map CU)),.own (.dct (((o.map Bp).flatMap BI).map CU)),.own (.dtt<|BO (cOn t o cs) (2*k+h)),.val (.int (k:Int)),.val (.int (partner k:Nat)),x],(_,rfl),?_,?_)
   ·rintro h d J v ⟨x,rfl⟩
    obtain⟨hh,rfl⟩:=De v;rw[D5];obtain⟨c,N,S,c3⟩:=B.at (show k / 2<t.length by lia);have z:D.tup [.int (k:Int),.int (h:Int)]=.tup ((BM ((2*k+h:Nat):Int)).map D.int):=by
     unfold BM;rw[show ((2*k+h:Nat):Int) / 2=(k:Int) by lia,show ((2*k+h:Nat):Int) % 2=(h:Int) by lia];rfl
    have C:=GK (cs:=cs) t o k (h:=(h:Int)) (by lia);have M:atI (cs.map D.int) ((k:Int) / 2)=some (.int c):=by
     rw[show (k:Int) / 2=((k / 2:Nat):Int) by lia];exact CG (by rw[AZ,N];rfl)
    refine Bl<|Ah<|Ob<|CK<|AJ<|O9 rfl rfl<|AF rfl (_,_,_,_,rfl,rfl,rfl,PH W O y,AJ<|Ac<|AM (DK,(_,_,rfl,rfl),CK<|AJ<|AF rfl<|AJ<|AF rfl<|AM (DK,_,_,BM ((2*k+h:Nat):Int),rfl,rfl,z,?_,?_)))
    ·rw[e];exact l _ (by lia)
    have g:putT (BO (cOn t o cs) (2*k+h)) ((BM ((2*k+h:Nat):Int)).map Sum.inl) (.tup [.int (BW t o<|partner k),.int 0])=BO (cOn t o cs) (2*k+h)++[(keyI ((2*k+h:Nat):Int),.tup [.int (BW t o<|partner k),.int 0])]:=Tj _ _ _;have p:((2*k+h:Nat):Int)=2*(k:Int)+(h:Int):=by lia
    refine CH<|B8<|AU<|AU<|AU<|AF rfl<|AU<|AF rfl<|AU<|AF rfl<|Ac<|jr_I (by lia,by lia)<|BK M<|Co<|Ac<|jr_I (by show (0:Int)<2;decide)<|Ac<|Cf (_,rfl,?_);rw[S]at C;by_cases hb:((h:Int)+c) % 2=1
    ·rw[A1 hb]
     have j:putT (putT (BO (cOn t o cs) (2*k+h)) ((BM ((2*k+h:Nat):Int)).map Sum.inl) (.tup [.int (BW t o<|partner k),.int 0])) ((BM ((2*k+h:Nat):Int)).map Sum.inl) (.tup [.int (BW t (o.map Bp)<|partner k),.int 1])=BO (cOn t o cs) (2*k+(h+1)):=by
      rw[g,show 2*k+(h+1)=2*k+h+1 by lia,Mw,p,C,AB (by lia),ON W O y,<- p];refine(RU _ _ _ _).trans ?_;unfold stD;rw[show (2*DN t o (partner k)+1) / 2=DN t o (partner k) by lia,show (2*DN t o (partner k)+1) % 2=1 by lia]
     refine iteT<|Ob<|CK<|AJ<|O9 rfl rfl<|AF rfl (_,_,_,_,rfl,rfl,rfl,PH W b y,AJ<|Ac<|AM (DK,(_,_,rfl,rfl),CK<|AJ<|AF rfl<|AJ<|AF rfl<|AM (DK,_,_,BM ((2*k+h:Nat):Int),rfl,rfl,z,?_,.val (.int (h:Int)),?_)))
     ·refine EW (IL<|congrArg BN g) ?_
      rw[Aw,e];exact l (2*k+h+1) (by lia)
     ·rw[<- j];rfl
    ·rw[A7 hb]
     have j:putT (BO (cOn t o cs) (2*k+h)) ((BM ((2*k+h:Nat):Int)).map Sum.inl) (.tup [.int (BW t o<|partner k),.int 0])=BO (cOn t o cs) (2*k+(h+1)):=by
      rw[g,show 2*k+(h+1)=2*k+h+1 by omega,Mw,p,C,AD (by lia)];unfold stD;rw[show 2*BW t o (partner k) / 2=BW t o (partner k) by lia,show 2*BW t o (partner k) % 2=0 by lia]
     refine iteF<|B3 (.val (.int (h:Int)),?_);rw[<- j];rfl
   ·rintro J ⟨x,rfl⟩
    exact(_,_,_,rfl)
  ·rintro I ⟨X,a,x,rfl⟩
   rw[Cn,show 2*(2*t.length)=4*t.length by lia];exact(_,_,_,rfl)
 rintro U1 ⟨X,a,x,rfl⟩;exact GQ<|QF rfl q
end
def BV (b:Int->Int) (r:List Int):List Int:=r.flatMap λx=>[x,b x]
theorem Hc:x∈BV b r↔x∈r\/∃y∈r,b y=x:=by
 unfold BV;rw[Gu];constructor
 ·rintro⟨y,Y,h⟩
  rcases Ar.mp h with e|h
  ·exact .inl (e ▸ Y)
  ·exact .inr (y,Y,(Bc.mp h).symm)
 ·rintro(h|⟨y,Y,e⟩)
  ·exact(x,h,Bh)
  ·exact(y,Y,by rw[e];simp)
section
variable {f b:Int->Int}{m:Nat}(S:StB f b m)
include S
theorem R7 {e:Int}(h0:0<=e) (h1:e<(m:Int)):(BV b<|orb f e).Nodup:=by
 have d:=Se S.one h0 h1;have n:∀x∈orb f e,0<=x/\x<(m:Int):=λx h=>Cq S.one h0 h1 h;have t:∀x∈orb f e,∀y∈orb f e,x≠b y:=λx h y Y z=>by
  obtain⟨a,c⟩:=n y Y;have:x∈orb f y:=Eb S.one a c (ED S.one h0 h1 Y) h;obtain⟨i,_,I⟩:=Bu.mp this;exact S.out y a c i<|I.trans z
 have j:∀x∈orb f e,∀y∈orb f e,b x=b y->x=y:=λx h y Y z=>by
  have:=(S.bb x (n x h).1 (n x h).2).1;rw[z,(S.bb y (n y Y).1 (n y Y).2).1]at this;exact this.symm
 unfold BV;unfold List.Nodup at d ⊢;rw[List.pairwise_flatMap];refine(λx h=>?_,?_)
 ·have:=t x h x h
  simp[this]
 ·refine List.Pairwise.imp_of_mem (λ{x y} h Y hne u hu v hv=>?_) d
  simp only[Ar,FN,or_false]at hu hv;rcases hu with rfl|rfl <;> rcases hv with rfl|rfl
  ·exact hne
  ·exact t u h y Y
  ·exact λz=>t v Y x h z.symm
  ·exact λz=>hne<|j x h y Y z
theorem Lz {x:Int}:∀k,2*k<=m->(x∈(crTo f b k).flatMap (BV b)↔CrM f b k x)
 |0,_=>by
  constructor
  ·intro h
   have:x∈([]:List Int):=h;cases this
  ·rintro⟨e,E,_⟩;lia
 |k+1,hk=>by
  rw[HS,D1,Bb,Lz k (by omega),HY S (by omega)];refine or_congr Iff.rfl ?_;by_cases h:frB f b k=true
  ·rw[AD h]
   simp only[D8,Gv,Bs];rw[Hc];exact(λz=>(h,z),λz=>z.2)
  ·rw[AB h]
   constructor
   ·intro z
    have z:x∈([]:List Int):=z;cases z
   ·exact λz=>absurd z.1 h
theorem Oa:∀k,2*k<=m->((crTo f b k).flatMap (BV b)).Nodup
 |0,_=>D9
 |k+1,hk=>by
  rw[HS,D1,D7];refine(Oa k (by omega),?_,λx X y Y z=>?_)
  ·by_cases h:frB f b k=true
   ·rw[AD h]
    simp only[D8,Gv,Bs];exact R7 S (by lia) (by lia)
   ·rw[AB h];exact D9
  ·subst z
   by_cases h:frB f b k=true
   ·rw[AD h]at Y
    simp only[D8,Gv,Bs]at Y;have c:=(Lz S k<|by omega).mp X;have H:(0:Int)<=2*(k:Int):=by omega
    have a:2*(k:Int)<(m:Int):=by omega
    rcases Hc.mp Y with q|⟨y,q,rfl⟩
    ·exact E7.mp h<|E6 S (by omega) H a q c
    ·have:=(E5 S (by omega) c).2.2.2
     obtain⟨d,e⟩:=Cq S.one H a q;rw[(S.bb y d e).1]at this;exact E7.mp h (E6 S (by lia) H a q this)
   ·rw[AB h]at Y
    have Y:x∈([]:List Int):=Y;cases Y
theorem UG {k:Nat}(hk:2*k<m) (h:frB f b k=true) {y:Int}(hy:y∈BV b (orb f (2*(k:Int)))) (he:y % 2=0):2*(k:Int)<=y:=by
 have H:(0:Int)<=2*(k:Int):=by lia
 have a:2*(k:Int)<(m:Int):=by lia
 apply Classical.byContradiction;intro hlt;have n:0<=y/\y<(m:Int):=by
  rcases Hc.mp hy with q|⟨z,q,rfl⟩
  ·exact Cq S.one H a q
  ·obtain⟨Z,c⟩:=Cq S.one H a q
   exact(S.bb z Z c).2
 obtain⟨e,rfl⟩:∃e:Nat,y=2*(e:Int):=((y / 2).toNat,by lia);have C:CrM f b k (2*(e:Int)):=(e,by lia,.inl<|DA S.one (by lia) (by lia));rcases Hc.mp hy with q|⟨z,q,E⟩
 ·exact E7.mp h<|E6 S (by lia) H a q C
 ·obtain⟨Z,c⟩:=Cq S.one H a q
  have:=(E5 S (by lia) C).2.2.2;rw[<- E,(S.bb z Z c).1]at this;exact E7.mp h (E6 S (by omega) H a q this)
end
section
variable {n:Int}{ts:AW}{o:Aa}{cs:List Int}
theorem Zze (hW:An n ts) (hO:Ay n ts o) (hC:CrOk ts cs):((crTo (cOn ts o cs) (bkI cs) (2*ts.length)).flatMap (BV<|bkI cs)).Perm ((AR (4*ts.length)).map λx:Nat=>(x:Int)):=by
 have S:=Hm hW hO hC;rw[List.perm_ext_iff_of_nodup (Oa S _<|by omega) (List.Pairwise.map _ (λa b q e=>q<|by omega) Gr)];intro x;rw[Lz S _ (by omega),Af];constructor
 ·intro h
  obtain⟨d,f,_⟩:=E5 S (by omega) h;exact(x.toNat,Ax.mpr (by lia),by lia)
 ·rintro⟨X,H,rfl⟩
  have H:=Ax.mp H;have v:∀e:Nat,e<2*ts.length->CrM (cOn ts o cs) (bkI cs) (2*ts.length) (2*(e:Int)):=λe E=>(e,E,.inl<|DA S.one (by lia) (by lia));have d:(0:Int)<=(X:Int):=by lia
  have f:(X:Int)<((4*ts.length:Nat):Int):=by lia
  rcases LJ cs (X:Int) with g|g
  ·-- onward comes to a state of hand nought
   have j:cOn ts o cs (X:Int)=2*BW ts o (partner ((X:Int) / 2).toNat):=by unfold cOn;rw[AD g]
   obtain⟨F,i⟩:=CN S.one d f 1;have F:0<=cOn ts o cs (X:Int):=F;have i:cOn ts o cs (X:Int)<((4*ts.length:Nat):Int):=i;rw[j]at F i;have c:=v (BW ts o<|partner ((X:Int) / 2).toNat).toNat (by lia);rw[show ((BW ts o<|partner ((X:Int) / 2).toNat).toNat:Int)=BW ts o (partner ((X:Int) / 2).toNat) by lia,<- j]at c;exact E6 S (by lia) d f (CD S.one d f 1) c
  ·have B:bkI cs (X:Int)=2*((partner ((X:Int) / 2).toNat:Nat):Int):=by unfold bkI;lia
   obtain⟨l,m,k⟩:=S.bb _ d f;rw[B]at k;have c:=v (partner ((X:Int) / 2).toNat) (by lia);rw[<- B]at c;have:=(E5 S (by lia) c).2.2.2
   rwa [l]at this
end
def MZ:DSp:=λs t=>∃n ts o cs,s=[Bd o,A8 cs,.lst ((allC ts o cs).map crD)]/\An n ts/\Ay n ts o/\CrOk ts cs/\t (.bl true)
theorem Q8 (g:List Int->List Int) (l:Aa) (i:Nat):((l.take i).flatMap g).length<=(l.flatMap g).length:=by
 conv=>rhs;rw[<- D0 i l]
 rw[D1,Aw];lia
theorem T7 {r:List Int}(hk:k<r.length):atI (r.map stD) ((k:Int)-1)=some (stD<|r.getD (pvI r.length k) 0):=by
 unfold pvI;by_cases h0:k=0
 ·subst h0
  rw[AD rfl];obtain⟨R,y,rfl⟩:∃R y,r=R++[y]:=(r.dropLast,r.getLast (by intro z;subst z;simp at hk),(J6 _).symm);show atI ((R++[y]).map stD) (-1)=_;rw[BD,G7,LY];simp
 ·rw[AB h0,show (k:Int)-1=((k-1:Nat):Int) by omega]
  exact CG (by rw[AZ,Ao,AQ (by omega:k-1<r.length)];rfl)
theorem S5 {r:List Int}(hk:k<r.length):BV b (r.take<|k+1)=BV b (r.take k)++[r.getD k 0,b (r.getD k 0)]:=by
 unfold BV;rw[Dl,AQ hk,D1,Ao,AQ hk];simp
theorem OR (b:Int->Int) (r:List Int):(BV b r).length=2*r.length:=by
 unfold BV
 induction r with
 |nil=>rfl
 |cons x r ih=>rw[D8,Aw,ih,Aj];simp;lia
section
variable {P:Program}{w:World}{K:W.Frag}{mg:Str->Option Value}{base:Heap}{f:Addr}{fd:FuncData}
theorem SO (mb:Mb mg) (C39:Callee P w K mg base 2 "_law_steps" ["_law_order_here","_law_crossings_here"] (spO K fSteps)) (C34:Callee P w K mg base 1 "_law_partner" ["_law_end"] (spD K fPart)) (F:BH K "_law_rounds" "_law_rounds" HG f fd):FnOk P w K mg base CX0 3 f fd ["_law_order_here","_law_crossings_here","_law_told_here"] (spD K MZ):=by
 refine F.ok EC (Ca λds a0 h=>by obtain⟨_,_,_,_,rfl,_⟩:=h;rfl) λb3 A b1 s H vs Q E R h=>?_;have B:=Bg R;have V:=Ek R;refine(_,(AV (Ap (i:=3) EC.nd rfl (Or.inl rfl)<|A3 C39 (R.mono<|by decide)<|AE (pv 0)<|AE (pv 1) AL)<|AV (Ap (i:=4) EC.nd rfl (Or.inl rfl)<|FE AL)<|AV (Cd PassesOwn.never rfl (seqK K<|pv 2) (A2 (i:=5) EC.nd rfl<|Or.inl rfl)<|AV (Ap (i:=6) EC.nd rfl (Or.inl rfl)<|FE AL)<|AV (Cd PassesOwn.never rfl (DX rfl (mb "range"<|by decide)<|AE (A4 (lenK K) rfl (mb "len"<|by decide) B0<|AE (pv 5) AL) AL) (A2 (i:=7) EC.nd rfl<|Or.inl rfl)<|AV (B6 (Bn (neTK K V) (bmK K PySem.F.plainAttrs_dict PySem.F.slot_dict_get PySem.F.type_dict_get (U0 B) (pv 3)<|AE (Ak (ixK K B) (pv 5) (Ab EI (pv 7) AN) λ_ _=>rfl) AL) (Ak (ixK K B) (pv 5) (pv 7) λ_ _=>rfl)<|nomark _) (Ag<|BF Fq) B5)<|AV (Dy (Ak (ixK K B) (pv 5) (pv 7) λ_ _=>rfl)<|gtupK (n:=2) K rfl<|CY (A2 (i:=8) EC.nd rfl<|Or.inl rfl)<|CY (A2 (i:=9) EC.nd rfl<|Or.inl rfl) E8)<|AV (EG<|bmK K PySem.F.plainAttrs_list PySem.F.slot_list_append PySem.F.type_list_append Fb (pv 6)<|AE (Ak (ixK K B) (pv 5) (pv 7) λ_ _=>rfl) AL)<|Ag<|EG<|bmK K PySem.F.plainAttrs_list PySem.F.slot_list_append PySem.F.type_list_append Fb (pv 6)<|AE (CS<|AE (A3 C34 (R.mono<|by decide)<|AE (pv 8) AL)<|AE (Ab EI AN<|Ab CL (Ab (addK K) (pv 9)<|Ak (ixK K B) (pv 1) (Ab GX (pv 8) AN) λ_ _=>rfl) AN) AL) AL)<|AV (B6 (Bn MQ (A4 (lenK K) rfl (mb "len"<|by decide) B0<|AE (pv 5) AL) AN<|nomark _) (AV (Ap (i:=10) EC.nd rfl (Or.inl rfl)<|A4 (minRK K rfl V) rfl (mb "min"<|by decide) Ho<|AE (DI ["_law_state"] (show CompSc (defScope HG) ["_law_order_here","_law_crossings_here","_law_told_here","_law_steps_here","_law_met","_law_face","_law_both","_law_k","_law_end","_law_hand","_law_first","_law_lone"] _ [] [] from (rfl,by decide +kernel,by decide +kernel,by decide +kernel,rfl,by decide +kernel)) rfl (seqK K<|pv 6) (λ_ _ _ _ _=>(A2 (i:=0) (show List.Nodup (["_law_state"]:List Str) from by decide) rfl<|Or.inl rfl)) (λ_ _ _ _ _=>(Hg<|Bn CF (Ak (ixK K B) (pv 0) AN λ_ _=>rfl) AN<|nomark _)) λ_ _ _ _ _=>(pv 0)) AL)<|Ag<|B6 (Bn (neTK K V) (Ak (ixK K B) (pv 5) AN λ_ _=>rfl) (pv 10)<|nomark _) (Ag<|BF Fq) B5) B5)<|Ag<|EG<|bmK K PySem.F.plainAttrs_list PySem.F.slot_list_extend PySem.F.type_list_extend extLK (pv 4)<|AE (pv 6) AL)<|AV (Ap (i:=11) EC.nd rfl (Or.inl rfl)<|A4 (lenK K) rfl (mb "len"<|by decide) B0<|AE (DI ["_law_row_here"] (show CompSc (defScope HG) ["_law_order_here","_law_crossings_here","_law_told_here","_law_steps_here","_law_met","_law_face","_law_both","_law_k","_law_end","_law_hand","_law_first","_law_lone"] _ [] [] from (rfl,by decide +kernel,by decide +kernel,by decide +kernel,rfl,by decide +kernel)) rfl (seqK K<|pv 0) (λ_ _ _ _ _=>(A2 (i:=0) (show List.Nodup (["_law_row_here"]:List Str) from by decide) rfl<|Or.inl rfl)) (λ_ _ _ _ _=>(Hg<|Bn CF (A4 (lenK K) rfl (mb "len"<|by decide) B0<|AE (pv 0) AL) AN<|nomark _)) λ_ _ _ _ _=>(pv 0)) AL)<|Ag<|BF<|Hn (Hj (eqDK K V) (A4 (sortGLK K V) rfl (mb "sorted"<|by decide) HQ<|AE (pv 4) AL) (A4 (sortKTK K rfl) rfl (mb "sorted"<|by decide) HQ<|AE (pv 3) AL)<|nomark _)<|Hn (Hj (eqDK K V) (pv 2) (A4 (sortCK K V) rfl (mb "sorted"<|by decide) HQ<|AE (pv 2) AL)<|nomark _)<|Jm<|Hj CF (bmK K PySem.F.plainAttrs_list PySem.F.slot_list_count PySem.F.type_list_count (count0K K V) (pv 2)<|AE (CS AL) AL) (pv 11)<|nomark _),Ce (λds a0 hf=>?_) h);obtain⟨n,T,o,cs,rfl,G,J,hC,q⟩:=hf;refine(by simp,?_);dsimp only[startD,Bf,A9,BN,Am];have S:=Hm G J hC;have O:=S.one;have hw:=G.len;have hn:=G.hi;have ho:=J.len;have al:=LW (cs:=cs) G J;have L:=Zze G J hC;have a3:(allC T o cs).flatMap (BV<|bkI cs)=(crTo (cOn T o cs) (bkI cs) (2*T.length)).flatMap (BV<|bkI cs):=by
  unfold allC;rw[D1];have:∀k:Nat,(Am k ([]:List Int)).flatMap (BV<|bkI cs)=[]:=λk=>by induction k with
   |zero=>rfl
   |succ k ih=>rw[Gz,D8,ih];rfl
  rw[this,List.nil_append]
 have a4:((allC T o cs).flatMap (BV<|bkI cs)).length=4*T.length:=by rw[a3,L.length_eq,AK,BS]
 refine Ah<|Cp<|Lb<|AJ<|AF rfl<|AJ<|AF rfl<|AM (n,T,o,cs,rfl,G,J,hC,?_);refine Ah<|Cp<|Fp<|AM (by decide,?_);refine Bv (λU=>∃Z x6 p u v m:L2.Slot,U = [.val (Bd o),.val (A8 cs),.val (.lst ((allC T o cs).map crD)),.own (.dtt<|BO (cOn T o cs) (4*T.length)),.own (.lst (((allC T o cs).flatMap (BV<|bkI cs)).map stD)),Z,x6,p,u,v,m,.any]) ?_ ?_
 ·refine Cb (Dx<|AF rfl (_,Or.inl rfl,λi U=>∃Z x6 p u v m:L2.Slot,U = [.val (Bd o),.val (A8 cs),.val (.lst ((allC T o cs).map crD)),.own (.dtt<|BO (cOn T o cs) (4*T.length)),.own (.lst ((((allC T o cs).take i).flatMap (BV<|bkI cs)).map stD)),Z,x6,p,u,v,m,.any],(_,_,_,_,_,_,rfl),?_,?_))
  ·rintro i d U2 g ⟨Z,x6,p,u,v,m,rfl⟩
   rw[AZ]at g;cases z:(allC T o cs)[i]? with
   |none=>rw[z]at g;cases g
   |some r=>
    rw[z]at g;have g:crD r=d:=by simpa using g
    subst g;refine Bl<|Ah<|Cp<|Fp<|AM (by decide,?_);have a6:=Bk z;have W:r=[]\/∃e:Nat,e<2*T.length/\frB (cOn T o cs) (bkI cs) e=true/\r=orb (cOn T o cs) (2*(e:Int)):=by
     unfold allC at a6;rcases Bb.mp a6 with h|h
     ·exact .inl (FI.mp h).2
     ·unfold crTo at h
      obtain⟨e,M,rfl⟩:=Af.mp h;rw[Bo,Ax]at M;exact .inr (e,M.1,M.2,rfl)
    have b4:r.length<=96:=by
     rcases W with h|⟨e,M,_,rfl⟩
     ·rw[h];exact BZ _
     ·have:=Lr O (e:=2*(e:Int)) (by omega) (by omega);lia
    have tk:(allC T o cs).take (i+1)=(allC T o cs).take i++[r]:=by rw[Dl,z];rfl
    refine Bv (λU=>∃p u v:L2.Slot,U = [.val (Bd o),.val (A8 cs),.val (.lst ((allC T o cs).map crD)),.own (.dtt<|BO (cOn T o cs) (4*T.length)),.own (.lst ((((allC T o cs).take i).flatMap (BV<|bkI cs)).map stD)),.val (crD r),.own (.lst ((BV (bkI cs) r).map stD)),p,u,v,m,.any]) ?_ ?_
    ·refine Cb (DY<|AJ<|BC<|AJ<|AF rfl<|AM<|CM (Or.inr rfl)<|AM (_,rfl,?_,?_,?_))
     ·lia
     ·rw[AK];lia
     rw[AK,Bi];refine(λk U=>∃p u v:L2.Slot,U = [.val (Bd o),.val (A8 cs),.val (.lst ((allC T o cs).map crD)),.own (.dtt<|BO (cOn T o cs) (4*T.length)),.own (.lst ((((allC T o cs).take i).flatMap (BV<|bkI cs)).map stD)),.val (crD r),.own (.lst ((BV (bkI cs)<|r.take k).map stD)),p,u,v,m,.any],(_,_,_,rfl),?_,?_)
     ·rintro k d U3 g ⟨p,u,v,rfl⟩
      obtain⟨N,rfl⟩:=De g;rw[D5];obtain⟨e,M,a5,rfl⟩:=W.resolve_left (by intro w;subst w;simp at N);obtain⟨p1,p2,p3⟩:=U7 O (e:=2*(e:Int)) (by lia) (by lia) N;have a1:atI ((orb (cOn T o cs) (2*(e:Int))).map stD) (k:Int)=some (stD ((orb (cOn T o cs) (2*(e:Int))).getD k 0)):=CG (by rw[AZ,Ao,AQ N];rfl);have pa:=T7 N;have bs:=S5 (b:=bkI cs) N;have bl:=OR (bkI cs) ((orb (cOn T o cs) (2*(e:Int))).take k);rw[Bj]at bl;have ym:(orb (cOn T o cs) (2*(e:Int))).getD k 0∈orb (cOn T o cs) (2*(e:Int)):=by rw[Ao,AQ N];exact Br _
      obtain⟨y0,y1⟩:=Cq O (by omega) (by omega) ym;generalize (orb (cOn T o cs) (2*(e:Int))).getD (pvI (orb (cOn T o cs) (2*(e:Int))).length k) 0=x at p1 p2 p3 pa;generalize (orb (cOn T o cs) (2*(e:Int))).getD k 0=y at p1 a1 bs y0 y1;obtain⟨X,rfl⟩:∃X:Nat,x=(X:Int):=(x.toNat,by lia);obtain⟨Y,rfl⟩:∃Y:Nat,y=(Y:Int):=(y.toNat,by lia);refine Bl<|Ah<|CH<|B8<|AU<|UW rfl rfl<|AU<|AF rfl<|AU<|AF rfl<|Ac<|Di<|BK pa (_,_,BM (X:Int),rfl,rfl,rfl,?_);rw[show valT (BO (cOn T o cs) (4*T.length)) ((BM (X:Int)).map .inl)=some (stD<|cOn T o cs X) from TL _ (by lia),IW,p1];refine AU<|AF rfl<|AF rfl<|BK a1<|L0 (n:=1) (by decide) (Gg _) (Gg _) (_,rfl,?_);show if (!(eqF 2 (stD _)<|stD _))=true then _ else _
      rw[Lx,A1 rfl];refine iteF<|B3 ?_;refine Ah<|Jf<|AU<|AF rfl<|AF rfl<|BK a1<|GZ rfl<|Dd<|Bl<|Dd<|Bl<|GW ?_;have a7:((Y / 2:Nat):Int)=(Y:Int) / 2:=by lia
      obtain⟨c,c1,c2,c3⟩:=hC.at (show Y / 4<T.length by lia);have a2:atI (cs.map D.int) ((Y:Int) / 2 / 2)=some (.int c):=by
       rw[show (Y:Int) / 2 / 2=((Y / 4:Nat):Int) by lia];exact CG (by rw[AZ,c1];rfl)
      have hg:B1 cs (Y:Int)=((Y:Int) % 2+c) % 2:=by
       unfold B1;rw[show ((Y:Int) / 4).toNat=Y / 4 by lia,c2]
      have eb:=QK cs Y;refine Ah<|Hq rfl rfl<|AU<|AF rfl<|AF rfl<|BK a1 (_,_,rfl,rfl,?_,?_)
      ·rw[AK];exact small1000 (by lia)
      refine Hq rfl rfl<|CK<|AJ<|B4<|AJ<|AF rfl<|AM (Y / 2,by rw[<- a7],?_);refine AJ<|AU<|Ac<|AU<|AU<|AF rfl<|AU<|AF rfl<|AU<|AF rfl<|Ac<|jr_I (by lia,by lia)<|BK a2<|Co<|Ac<|jr_I (by show (0:Int)<2;decide)<|Di<|AM (DK,_,_,rfl,rfl,?_,?_)
      ·rw[Aw,AK,DS];exact small1000 (by lia)
      rw[<- hg,<- eb];refine(.val (.int (k:Int)),.val (.int ((Y:Int) / 2)),.val (.int ((Y:Int) % 2)),?_);rw[bs,BD];simp only[BX,IH];rw[show ∀(l:List D) (a b:D),l++[a,b]=(l++[a])++[b] from λl a b=>by simp];rfl
     ·rintro U3 ⟨p,u,v,rfl⟩
      rw[Cn,B2];exact(_,_,_,rfl)
    rintro U3 ⟨p,u,v,rfl⟩;have bl:=OR (bkI cs) r;have fl:=Q8 (BV<|bkI cs) (allC T o cs) i;rw[a4]at fl;refine Ah<|CH<|B8<|AU<|BC<|AJ<|AF rfl<|AM<|CM (Or.inr rfl)<|Ac<|Jp (_,rfl,?_);rcases W with rfl|⟨e,M,a5,rfl⟩
    ·refine iteF (B3 ?_)
     refine O3 rfl rfl<|Ef rfl (_,_,_,rfl,rfl,rfl,?_,?_)
     ·rw[AK,AK];lia
     ·refine(.val<|crD [],.val (.lst ((BV (bkI cs) []).map stD)),p,u,v,m,?_)
      rw[tk,D1,BD];simp only[D8,Gv,Bs];rfl
    ·obtain⟨l,el⟩:=LP O (e:=2*(e:Int)) (by omega) (by omega)
     rw[show decide (0<(((orb (cOn T o cs) (2*(e:Int))).map stD).length:Int))=true from A1 (by rw[el,BX,Aj];lia)];refine iteT<|Ah<|BE<|BC<|AJ<|Dc (by decide)<|Dx<|Ef rfl (_,Or.inl rfl,?_,λd=>match d with|.tup [_,.int h]=>decide (h=0)|_=>false,λd=>d,λj d g=>?_,?_)
     ·rw[AK];exact small1000 (by lia)
     ·rw[AZ]at g
      cases z2:(BV (bkI cs)<|orb (cOn T o cs) (2*(e:Int)))[j]? with
      |none=>rw[z2]at g;cases g
      |some y=>
       rw[z2]at g;have g:stD y=d:=by simpa using g
       subst g;refine B8<|AU<|AU<|AF rfl<|Ac<|BK (d:=.int<|y % 2) rfl<|Ac<|Cf (_,rfl,rfl,?_);by_cases hz:y % 2=0
       ·rw[A1 hz]
        exact iteT<|AF rfl (rfl,_,rfl)
       ·rw[A7 hz]
        exact iteF (_,rfl)
     have ef:((((BV (bkI cs)<|orb (cOn T o cs) (2*(e:Int))).map stD).filter λd=>match d with|.tup [_,.int h]=>decide (h=0)|_=>false).map λd=>d)=(((BV (bkI cs)<|orb (cOn T o cs) (2*(e:Int))).filter λy=>decide (y % 2=0)).map BM).map rowD:=by
      rw[List.map_id',F0,A5];rfl
     refine AM ?_;rw[ef];refine VJ (r:=BM (2*(e:Int))) ?_ ?_ ?_
     ·refine Af.mpr (2*(e:Int),Bo.mpr (Hc.mpr (.inl<|DA O (by omega) (by omega)),A1<|by lia),rfl)
     ·intro r' hr'
      obtain⟨y,hy,rfl⟩:=Af.mp hr';obtain⟨a9,I⟩:=Bo.mp hy;have I:=of_decide_eq_true I;have:=UG S (k:=e) (by lia) a5 a9 I;unfold BM;rw[EJ];split
      ·rw[EJ,AD (by lia)];rfl
      ·exact A7 (by lia)
     refine Ah<|CH<|B8<|AU<|AU<|AF rfl<|Ac<|BK (d:=stD (2*(e:Int))) ?_<|AF rfl<|L0 (n:=1) (by decide) (Gg _) (Gg _) (_,rfl,?_)
     ·exact CG (j:=0) (by rw[el];rfl)
     show if (!(eqF 2 (stD _)<|stD _))=true then _ else _
     rw[Lx,A1 rfl];refine iteF<|B3<|B3 ?_;refine O3 rfl rfl<|AF rfl (_,_,_,rfl,rfl,rfl,?_,?_)
     ·rw[AK,AK];lia
     ·refine(.val<|crD<|orb (cOn T o cs) (2*(e:Int)),.val (.lst ((BV (bkI cs)<|orb (cOn T o cs) (2*(e:Int))).map stD)),p,u,v,.val<|rowD<|BM (2*(e:Int)),?_)
      rw[tk,D1,BD];simp only[D8,Gv,Bs];rfl
  ·rintro U2 ⟨Z,x6,p,u,v,m,rfl⟩
   rw[AK,B2];exact(_,_,_,_,_,_,rfl)
 rintro U1 ⟨Z,x6,p,u,v,m,rfl⟩;refine Ah<|BE<|BC<|AJ<|Dc (by decide)<|Df<|AF rfl (_,rfl,?_,λd=>match d with|.tup ds=>decide ((ds.length:Int)=0)|_=>false,λd=>d,λi d g=>?_,?_)
 ·rw[AK];exact small1000 (by lia)
 ·rw[AZ]at g
  cases z:o[i]? with
  |none=>rw[z]at g;cases g
  |some r=>
   rw[z]at g;have g:A8 r=d:=by simpa using g
   subst g;refine B8<|AU<|BC<|AJ<|AF rfl<|AM<|CM (Or.inr rfl)<|Ac<|Cf (_,rfl,rfl,?_);by_cases hz:((r.map D.int).length:Int)=0
   ·rw[A1 hz]
    exact iteT<|AF rfl (rfl,_,rfl)
   ·rw[A7 hz]
    exact iteF (_,rfl)
 refine AM<|CM (Or.inl rfl) ?_;have el:(((o.map A8).filter λd=>match d with|.tup ds=>decide ((ds.length:Int)=0)|_=>false).map λd=>d).length=lone o:=by
  rw[List.map_id',F0,AK];unfold lone;congr 1;apply DQ;intro r _;show decide (((r.map D.int).length:Int)=0)=r.isEmpty;cases r with
  |nil=>rfl
  |cons x t=>rw[AK,Aj];exact A7 (by lia)
 rw[el];have a8:∀l:List Int,l.map stD=(l.map BM).map rowD:=λl=>by rw[A5];rfl
 have b2:(((allC T o cs).flatMap (BV<|bkI cs)).map BM).Perm ((AR (4*T.length)).map λx:Nat=>BM (x:Int)):=by
  rw[a3];have:=L.map BM
  rwa [A5]at this
 refine Bz<|GU<|RT<|EH<|TK<|AJ<|Ef rfl<|AM (_,Or.inl (by rw[<- a8]),by rw[AK,a4];lia,λms m1 m2=>?_);refine(_,rfl,_,_,_,rfl,rfl,Rz _ _,λr R=>?_,by rw[AK,BS];omega,rfl,?_,λb0 p1 p2=>?_)
 ·obtain⟨x,_,rfl⟩:=Af.mp R
  unfold BM;simp
 ·intro d g
  obtain⟨r,_,rfl⟩:=Af.mp g;intro d g;obtain⟨x,_,rfl⟩:=Af.mp g
  trivial
 have em:b0=ms:=List.Perm.eq_of_pairwise (le:=λa b=>rlt b a=false) (λa b _ _ h1 h2=>Jd _ _ h2 h1) p2 m2<|p1.trans<|b2.symm.trans m1.symm;subst em;refine(true,?_,iteT ?_)
 ·congr 1
  refine HW 3 _ ?_;intro d g;obtain⟨r,_,rfl⟩:=Af.mp g;intro d g;obtain⟨x,_,rfl⟩:=Af.mp g
  trivial
 have C:Dp 4 (.lst ((allC T o cs).map crD)):=by
  intro d g;obtain⟨r,_,rfl⟩:=Af.mp g;intro d g;obtain⟨x,_,rfl⟩:=Af.mp g;intro d g;simp only[Ar,FN,or_false]at g;rcases g with rfl|rfl <;> trivial
 refine GU<|AU<|AF rfl<|EH<|Nq<|AJ<|AF rfl<|AM ((allC T o cs).map (A9 BM),by rw[<- MD],by rw[AK];omega,N9 G J hC,_,rfl,?_);rw[<- MD];refine Zzc (n:=4) (by lia) C C rfl rfl (true,by rw[HW 4 _ C],iteT ?_);have cl:((allC T o cs).map (A9 stD)).countP (·.isEmpty)=lone o:=by
  rw[List.countP_map];have e:((λl:List D=>l.isEmpty)∘A9 stD)=λr:List Int=>r.isEmpty:=by funext r;cases r <;> rfl
  rw[e];unfold allC;rw[List.countP_append,List.countP_replicate,AD (show ([]:List Int).isEmpty=true from rfl)];have:(crTo (cOn T o cs) (bkI cs) (2*T.length)).countP (λr=>r.isEmpty)=0:=by
   rw[List.countP_eq_zero];intro r R;obtain⟨i,hi⟩:=Cv.mp R;obtain⟨e,l,_,_,rfl⟩:=Li S (by lia) hi;simp
  lia
 refine AU<|Sm false<|AF rfl ((allC T o cs).map (A9 stD),by rw[A5];rfl,CK<|AM (by decide,rfl,?_));rw[cl];refine AF rfl<|Cf ?_;rw[A1 rfl];exact q
theorem ok_law (mb:Mb mg) (C36:Callee P w K mg base 1 "_law_pen" ["_law_script"] (spN K fPen)) (C42:Callee P w K mg base 2 "_law_web" ["_law_pen_here","_law_places","_law_ties"] (spB K fWeb)) (C31:Callee P w K mg base 1 "_law_draw" ["_law_pen_here","_law_many"] (spB K Eo)) (C29:Callee P w K mg base 3 "_law_beside" ["_law_pen_here"] (spB K MY))
  (C33:Callee P w K mg base 2 "_law_order" ["_law_pen_here","_law_web_here"] (spB K J2)) (C30:Callee P w K mg base 2 "_law_crossings" ["_law_pen_here","_law_web_here"] (spB K fCross)) (C45:Callee P w K mg base 5 "crossed_faces" ["web","order","crossings"] (spN K fCrF)) (C40:Callee P w K mg base 3 "_law_told" ["_law_told_here"] (spD K MW))
  (C37:Callee P w K mg base 3 "_law_rounds" ["_law_order_here","_law_crossings_here","_law_told_here"] (spD K MZ)) (C50:Callee P w K mg base 6 "lack" ["web","order","crossings"] (spD K fLk)) (C43:Callee P w K mg base 1 "_law_whole" ["_law_found"] (spD K J4)) (C35:Callee P w K mg base 1 "_law_parts" ["_law_web_here"] (spN K Hy))
  (F:BH K "law" "law" F7 f fd):FnOk P w K mg base CX0 7 f fd ["_law_script"] (spD K fLaw):=by
 refine F.ok Ea (Ca λz T h=>by obtain⟨_,rfl,_⟩:=h;rfl) λV A u s H vs Q E R h=>?_;have v:=Bg R;have hv:=Ek R;refine(_,(AV (Ap (i:=1) Ea.nd rfl (Or.inl rfl)<|A3 C36 (R.mono<|by decide)<|AE (pv 0) AL)<|AV (Ap (i:=2) Ea.nd rfl (Or.inl rfl)<|A3 C42 (R.mono<|by decide)<|AE (pv 1)<|AE AN<|AE AN AL)<|AV (B6 (Bn CF (A3 C31 (R.mono<|by decide)<|AE (pv 1)<|AE AN AL) AN<|nomark _) (Ag<|Ap (i:=2) Ea.nd rfl (Or.inl rfl)<|A3 C29 (R.mono<|by decide)<|AE (pv 1) AL) B5)<|AV (Ap (i:=3) Ea.nd rfl (Or.inl rfl)<|A3 C33 (R.mono<|by decide)<|AE (pv 1)<|AE (pv 2) AL)<|AV (Ap (i:=4) Ea.nd rfl (Or.inl rfl)<|A3 C30 (R.mono<|by decide)<|AE (pv 1)<|AE (pv 2) AL)<|AV (Ap (i:=5) Ea.nd rfl (Or.inl rfl)<|A3 C45 (R.mono<|by decide)<|AE (pv 2)<|AE (pv 3)<|AE (pv 4) AL)<|AV (B6 (PW.pt<|pw_or (Fn<|truK K (A3 C40 (R.mono<|by decide)<|AE (pv 5) AL) λ_=>rfl)<|pw_or1<|Fn<|truK K (A3 C37 (R.mono<|by decide)<|AE (pv 3)<|AE (pv 4)<|AE (pv 5) AL) λ_=>rfl) (Ag<|BF Fq) B5)<|AV (Ap (i:=6) Ea.nd rfl (Or.inl rfl)<|A3 C50 (R.mono<|by decide)<|AE (pv 2)<|AE (pv 3)<|AE (pv 4) AL)<|AV (B6 (PW.pt<|pw_or (Fn<|truK K (A3 C43 (R.mono<|by decide)<|AE (pv 6) AL) λ_=>rfl)<|pw_or1<|Bn MK (pv 6) AN<|nomark _) (Ag<|BF Fq) B5)<|AV (Ap (i:=7) Ea.nd rfl (Or.inl rfl)<|Ab (addK K) (Ab (addK K) (pv 6)<|Ak (ixK K v) (pv 2) AN λ_ _=>rfl)<|A4 (lenK K) rfl (mb "len"<|by decide) B0<|AE (pv 5) AL)<|Ag<|BF<|Hj CF (pv 7) (Ab (addK K) (Ab Dh AN<|A4 (lenK K) rfl (mb "len"<|by decide) B0<|AE (A3 C35 (R.mono<|by decide)<|AE (pv 2) AL) AL)<|A4 (lenK K) rfl (mb "len"<|by decide) B0<|AE (Ak (ixK K v) (pv 2) AN λ_ _=>rfl) AL)<|nomark _),Ce (λz T I=>?_) h);obtain⟨y,rfl,J,q⟩:=I;refine(by simp,?_);dsimp only[startD,Bf,A9,BN,Am];refine Ah<|Cp<|He<|AJ<|AF rfl<|AM (y,rfl,J,λps hp=>?_);refine Ah<|BE<|El rfl rfl<|AJ<|Ac<|AJ<|Ac<|AM (We rfl rfl hp (by lia) (by lia) (by lia) (by lia) λn t a3 k W _ _=>?_);refine Bv (λU=>∃(n:Int) (t:AW) (x:List D),BU x/\An n t /\ U = [.val (.scr<|y.map .int),.own (.lst x),.val (BJ n t),.any,.any,.any,.any,.any]) ?_ ?_
 ·refine CH (B8<|AU<|Dt rfl rfl<|AJ<|Ac<|AM (_,_,rfl,rfl,k,_,rfl,by lia,by lia,λr S p a1 a2=>Ac<|Cf (_,rfl,?_)))
  split
  ·exact BE<|Dt rfl rfl<|AM (_,_,rfl,rfl,p,rfl,λn2 l c b j=>(n2,l,c,b,j,rfl))
  ·exact B3 (n,t,S,p,W,rfl)
 rintro U1 ⟨n,t,x,X,W,rfl⟩;refine Ah<|BE<|El rfl rfl<|AJ<|AF rfl<|AM (UY rfl rfl X W λo S p a=>?_);have Z:=W.lo;have a0:=W.hi;have hw:=W.len;refine Ah<|BE<|Dt rfl rfl<|AJ<|AF rfl<|AM (_,_,rfl,rfl,p,n,t,rfl,W,λcs c b C=>?_);refine Ah<|Cp<|He<|AJ<|AF rfl<|AJ<|AF rfl<|AJ<|AF rfl<|AM (n,t,o,cs,rfl,W,a,C,?_);have L:=LW (cs:=cs) W a;have O:=Gb W a C;have rl:∀r∈allC t o cs,r.length<=100:=λr R=>by
  unfold allC at R;rcases Bb.mp R with h|h
  ·rw[(FI.mp h).2];exact BZ _
  ·unfold crTo at h
   obtain⟨e,G,rfl⟩:=Af.mp h;rw[Bo,Ax]at G;have:=Lr O (e:=2*(e:Int)) (by lia) (by lia);lia
 refine Ah<|CH<|Jt<|FA<|FC<|B4<|AJ<|Ef rfl<|AM (allC t o cs,rfl,L,rl,true,rfl,iteF ?_);refine FA<|FC<|B4<|AJ<|AF rfl<|AJ<|AF rfl<|AJ<|AF rfl<|AM (n,t,o,cs,rfl,W,a,C,true,rfl,iteF<|B3 ?_);refine Ah<|BE<|B4<|AJ<|AF rfl<|AJ<|AF rfl<|AJ<|AF rfl<|AM (n,t,o,cs,rfl,W,a,C,λms g=>?_);obtain⟨N,rfl⟩:∃N:Nat,n=(N:Int):=(n.toNat,by lia);rw[Bi]at g;have lp:=Tr W a C g;refine Ah<|CH<|Jt<|FA<|FC<|B4<|AJ<|AF rfl<|AM (_,rfl,true,rfl,iteF ?_);refine B8<|AU<|AF rfl<|Ac<|Jp (_,rfl,?_);rw[A7 (by lia)];refine iteF<|B3 ?_;refine Ah<|BE<|AU<|AU<|AF rfl<|AU<|AF rfl<|Ac<|BK (d:=.int (N:Int)) rfl<|Co<|BC<|AJ<|AF rfl<|AM<|CM (Or.inl rfl)<|Co ?_;rw[AK];refine Bz<|AU<|AF rfl<|AU<|AU<|Ac<|BC<|AJ<|EH<|He<|AJ<|AF rfl<|AM ((N:Int),t,rfl,W,λm M=>(_,rfl,?_));rw[Bi]at M;have B:=M.uniq g;subst B;have Y:=g.len;have ml:=DH N t;have pl:(Jy (N:Int).toNat t m).length=m.length:=AK _;refine AM<|CM (Or.inl rfl) ?_;rw[AK,pl];refine jr_I (Or.inl (by lia,by lia)) ?_;refine BC<|AJ<|AU<|AF rfl<|Ac<|BK (d:=.tup<|t.map BL) rfl<|AM<|CM (Or.inr rfl)<|Co<|Cf ?_;rw[AK,A1 (show Gk (N:Int) t o cs m+(N:Int)+((allC t o cs).length:Int)=2*(m.length:Int)+(t.length:Int) by unfold Gk;lia)];exact q
end
theorem lenS {us:List Value}(h:us.length=n+1):∃a t,us=a::t/\t.length=n:=by
 cases us with
 |nil=>exact absurd h.symm (Nat.succ_ne_zero n)
 |cons a t=>exact(a,t,rfl,Nat.succ.inj h)
theorem bK1 {α:Type _}{g r:List Value -> α}(h:∀a0,g [a0]=r [a0]) (us:List Value) (l:us.length=1):g us=r us:=by
 obtain⟨a0,u,rfl,H⟩:=lenS l;obtain rfl:=Es H;exact h a0
theorem bK2 {α:Type _}{g r:List Value -> α}(h:∀a0 a1,g [a0,a1]=r [a0,a1]) (us:List Value) (l:us.length=2):g us=r us:=by
 obtain⟨a0,u,rfl,H⟩:=lenS l;obtain⟨a1,U,rfl,a⟩:=lenS H;obtain rfl:=Es a;exact h a0 a1
theorem bK3 {α:Type _}{g r:List Value -> α}(h:∀a0 a1 a2,g [a0,a1,a2]=r [a0,a1,a2]) (us:List Value) (l:us.length=3):g us=r us:=by
 obtain⟨a0,u,rfl,H⟩:=lenS l;obtain⟨a1,U,rfl,a⟩:=lenS H;obtain⟨a2,c,rfl,b⟩:=lenS a;obtain rfl:=Es b;exact h a0 a1 a2
theorem bK4 {α:Type _}{g r:List Value -> α}(h:∀a0 a1 a2 a3,g [a0,a1,a2,a3]=r [a0,a1,a2,a3]) (us:List Value) (l:us.length=4):g us=r us:=by
 obtain⟨a0,u,rfl,H⟩:=lenS l;obtain⟨a1,U,rfl,a⟩:=lenS H;obtain⟨a2,d,rfl,b⟩:=lenS a;obtain⟨a3,e,rfl,c⟩:=lenS b;obtain rfl:=Es c;exact h a0 a1 a2 a3
def FnE (K:W.Frag) (x:Str) (st:Stmt):Prop:=∃(f:Addr) (fd:FuncData),W.nsIn K mainGlobals x=some (some (.ref f))/\BH K x x st f fd
theorem fnE {oc kV doc pm cdv ct:Value}(a:W.nsIn K mainGlobals x=some (some (.ref f))) (l:K.lookup f=some (oc,od,.func<|W.fnOf x x (defArgs st) (defBody st) (defScope st) .none kV doc pm an cdv ct,sl)) (c:W.codeIn K cdv x=true) (k:W.keepIn K (.ref f)=true):FnE K x st:=(f,_,a,Zyx l c k)
theorem Vu {P:Program}{w:World}{K:W.Frag}{mg:Str->Option Value}{base h:Heap}(X:K.In h) (G:h.Ns mainGlobals mg) {x:Str}{st:Stmt}{ps:List Str}{lv:Nat}{sp:Sp}(e:FnE K x st) (ok:∀{f:Addr}{fd:FuncData},BH K x x st f fd->FnOk P w K mg base CX0 lv f fd ps sp) (hb:∀(kV doc pm:Value) (an:Option Addr) (cdv ct:Value) (us:List Value),us.length=ps.length->bindArgs (W.fnOf x x (defArgs st) (defBody st) (defScope st) .none kV doc pm an cdv ct) (us,[])=pure (ps.zip us)):Callee P w K mg base lv x ps sp:=by
 obtain⟨f,fd,a,F⟩:=e;exact⟨(f,fd,ok F,F.binds hb,F.kp,W.mg_of X G a)⟩
theorem all_mk {l:PySem.W.OpenLaw}{w:World}{K:W.Frag}{h:Heap}{mg:Str->Option Value}{fa:Addr}(X:K.In h) (G:h.Ns mainGlobals mg) (hfa:mg "law" = some (.ref fa))
  (e1:FnE K "_law_draw" Kf)
  (e2:FnE K "_law_pen" Ic)
  (e3:FnE K "_law_web" Kg)
  (e4:FnE K "_law_order" F6)
  (e5:FnE K "place_of" Kh)
  (e6:FnE K "follower" KW)
  (e7:FnE K "forerunner" KY)
  (e8:FnE K "hand_beyond" Kc)
  (e9:FnE K "crossed_onward" Ka)
  (e10:FnE K "back_of" Kb)
  (e11:FnE K "round_from" Kd)
  (e12:FnE K "crossed_faces" IZ)
  (e13:FnE K "_law_partner" Ki)
  (e14:FnE K "_law_mixed" Kk)
  (e15:FnE K "_law_beside" HD)
  (e16:FnE K "parts_of" F5)
  (e17:FnE K "_law_parts" HC)
  (e18:FnE K "lacking" KZ)
  (e19:FnE K "lack" Ke)
  (e20:FnE K "_law_whole" Kj)
  (e21:FnE K "_law_row" Ie)
  (e22:FnE K "_law_told" HF)
  (e23:FnE K "_law_behind" Kl)
  (e24:FnE K "_law_turned" Ig)
  (e25:FnE K "_law_steps" Km)
  (e26:FnE K "_law_rounds" HG)
  (e27:FnE K "_law_crossings" HE)
  (e28:FnE K "law" F7)
  (z0:W.nsIn K mainGlobals "abs" = some none)
  (z1:W.nsIn K mainGlobals "all" = some none)
  (z2:W.nsIn K mainGlobals "bool" = some none)
  (z3:W.nsIn K mainGlobals "int" = some none)
  (z4:W.nsIn K mainGlobals "isinstance" = some none)
  (z5:W.nsIn K mainGlobals "len" = some none)
  (z6:W.nsIn K mainGlobals "list" = some none)
  (z7:W.nsIn K mainGlobals "max" = some none)
  (z8:W.nsIn K mainGlobals "min" = some none)
  (z9:W.nsIn K mainGlobals "range" = some none)
  (z10:W.nsIn K mainGlobals "set" = some none)
  (z11:W.nsIn K mainGlobals "sorted" = some none)
  (z12:W.nsIn K mainGlobals "tuple" = some none) :
  ∃fd:FuncData,(∀(s:Shared) (v:Value),BindsTo s fd ([v],[]) [("_law_script",v)])/\∀base:Heap,K.In base->base.Ns mainGlobals mg->FnOk l.prog w K mg base CX0 7 fa fd ["_law_script"] (spD K fLaw):=by
 obtain⟨f,fd,a,F⟩:=e28;have e:=hfa.symm.trans<|W.mg_of X G a;cases e;have b:Mb mg:=by
  intro x hx;simp only[Ar,FN,or_false]at hx;rcases hx with rfl|rfl|rfl|rfl|rfl|rfl|rfl|rfl|rfl|rfl|rfl|rfl|rfl
  ·exact W.mg_none_of X G z0
  ·exact W.mg_none_of X G z1
  ·exact W.mg_none_of X G z2
  ·exact W.mg_none_of X G z3
  ·exact W.mg_none_of X G z4
  ·exact W.mg_none_of X G z5
  ·exact W.mg_none_of X G z6
  ·exact W.mg_none_of X G z7
  ·exact W.mg_none_of X G z8
  ·exact W.mg_none_of X G z9
  ·exact W.mg_none_of X G z10
  ·exact W.mg_none_of X G z11
  ·exact W.mg_none_of X G z12
 obtain⟨oc,od,S,O,Y,Q,V,T,U,rfl,Z,R⟩:=F.ex;refine(W.fnOf "law" "law" (defArgs F7) (defBody F7) (defScope F7) .none S O Y Q V T,λs v=>.of_eq rfl,λbase _ _=>?_);have M:=@Vu l.prog w K mg base h X G;have C:=M e1 (Vg b) λ_ _ _ _ _ _=>bK2 λ_ _=>rfl;have I:=M e2 (Zzh b) λ_ _ _ _ _ _=>bK1 λ_=>rfl;have D:=M e3 (WN b C) λ_ _ _ _ _ _=>bK3 λ_ _ _=>rfl;have J:=M e4 (Um b C) λ_ _ _ _ _ _=>bK2 λ_ _=>rfl;have E:=M e5 (Uo b) λ_ _ _ _ _ _=>bK2 λ_ _=>rfl;have L:=M e6 (RY b E) λ_ _ _ _ _ _=>bK3 λ_ _ _=>rfl;have N:=M e7 (Q5 b E) λ_ _ _ _ _ _=>bK3 λ_ _ _=>rfl;have H:=M e8 (V3 b) λ_ _ _ _ _ _=>bK2 λ_ _=>rfl;have P:=M e9 (VN b H L N) λ_ _ _ _ _ _=>bK4 λ_ _ _ _=>rfl;have i:=M e10 (Vw b H) λ_ _ _ _ _ _=>bK3 λ_ _ _=>rfl;have j:=M e11 (Zy1 b P) λ_ _ _ _ _ _=>bK4 λ_ _ _ _=>rfl;have c:=M e12 (Wo b j i) λ_ _ _ _ _ _=>bK3 λ_ _ _=>rfl;have d:=M e13 (R6 b) λ_ _ _ _ _ _=>bK1 λ_=>rfl;have k:=M e14 (Uc b C) λ_ _ _ _ _ _=>bK2 λ_ _=>rfl;have m:=M e15 (Ss b D k) λ_ _ _ _ _ _=>bK1 λ_=>rfl;have n:=M e16 (Rc b) λ_ _ _ _ _ _=>bK1 λ_=>rfl;have o:=M e17 (SQ b) λ_ _ _ _ _ _=>bK1 λ_=>rfl;have p:=M e18 (R8 b n) λ_ _ _ _ _ _=>bK2 λ_ _=>rfl;have q:=M e19 (VZ b p c) λ_ _ _ _ _ _=>bK3 λ_ _ _=>rfl;have g:=M e20 (Ul b) λ_ _ _ _ _ _=>bK1 λ_=>rfl;have r:=M e21 (VQ b g) λ_ _ _ _ _ _=>bK1 λ_=>rfl;have t:=M e22 (Sk b r) λ_ _ _ _ _ _=>bK1 λ_=>rfl;have u:=M e23 (SS b) λ_ _ _ _ _ _=>bK1 λ_=>rfl;have y:=M e24 (SV b) λ_ _ _ _ _ _=>bK1 λ_=>rfl;have z:=M e25 (Ue b u y d) λ_ _ _ _ _ _=>bK2 λ_ _=>rfl;have A:=M e26 (SO b z d) λ_ _ _ _ _ _=>bK3 λ_ _ _=>rfl;have B:=M e27 (UB b C) λ_ _ _ _ _ _=>bK2 λ_ _=>rfl;exact ok_law b I D C m J B c t A q g o F
end Lw
open PySem PySem.W PyProof.Rows
namespace PySem.W.Fast
theorem te6051423287640393289:True:=trivial
def tw7712207343143461002:PySem.Program:=PySem.Challenge.pw_holefloor_k21_whole_lack
theorem te7712207343143461002:PySem.Challenge.pw_holefloor_k21_whole_lack=tw7712207343143461002:=rfl
def tw13474151477551826910:Unit:=()
def tw5156486899683615105:Unit:=()
def tw17290389594389849718:Unit:=()
def tw14159639445499003150:Unit:=()
def tw10584441228748296105:Unit:=()
def tw6153476713074545119:Unit:=()
def tw13102501474158794781:Unit:=()
def tw13957630792924773136:Unit:=()
def tw17795443729537868182:Unit:=()
def tw2631002442306818675:Unit:=()
def tw14952612451865075552:Unit:=()
def tw8827666101709472642:Unit:=()
def tw13950849533548676128:Unit:=()
def tw10921773366905336313:Unit:=()
def tw12172953735960156074:Unit:=()
def tw4596601659592988279:Unit:=()
def tw8891454574629136581:Unit:=()
def tw3909102703768488225:Unit:=()
def tw14125536297168102828:Unit:=()
def tw11372379868854830557:Unit:=()
def tw12013745786809224098:Unit:=()
def tw17024279638104560805:Unit:=()
def tw1164882240152343025:Unit:=()
def tw16867647631712631116:Unit:=()
def tw8153532843190476790:Unit:=()
def tw9545620490053291620:Unit:=()
def tw11895466454360772443:Unit:=()
def tw14071742427163399338:Unit:=()
def tw16136492645916231546:Unit:=()
def tw15654784718297557771:Unit:=()
def tw3953685790583038166:Unit:=()
def tw15981468634733459727:Unit:=()
def tw12063580874289702835:Unit:=()
def tw9309846281709126805:Unit:=()
def tw3922569547300200611:Unit:=()
def tw2653444048119506625:Unit:=()
def tw16077019078453249546:Unit:=()
def tw17692098173406987597:Unit:=()
def tw16713179017537816180:Unit:=()
def tw1575539480053846114:Unit:=()
def tw17926206649669903575:Unit:=()
def tw17921153078699948031:Unit:=()
def tw2650674202332840597:Unit:=()
def tw4652050297295458122:Unit:=()
def tw8355238898676059707:Unit:=()
def tw1452748680944508877:Unit:=()
def tw16126948223203528958:Unit:=()
def tw7071459937714044869:Unit:=()
def tw12688952094143141885:Unit:=()
end PySem.W.Fast
set_option maxRecDepth 100000 in
set_option maxHeartbeats 0 in
theorem PySem.Challenge.cw_holefloor_k21_whole_lack_holds : PySem.Challenge.rw_holefloor_k21_whole_lack.Holds := by
 w_on;o_law;k_head; (case hw=>w_witness2)
 k_fill
 refine L2.walk_law (k:=7) (x:="_law_script") (l:=PySem.Challenge.rw_holefloor_k21_whole_lack) ⟨rfl,by decide,by decide,rfl⟩ rfl rfl (λw h Y=>PySem.W.kIn_of Y) ?F
 case F=>
  intro w mg fa h KX G hmg;refine' Lw.all_mk KX G hmg ?e1 ?e2 ?e3 ?e4 ?e5 ?e6 ?e7 ?e8 ?e9 ?e10 ?e11 ?e12 ?e13 ?e14 ?e15 ?e16 ?e17 ?e18 ?e19 ?e20 ?e21 ?e22 ?e23 ?e24 ?e25 ?e26 ?e27 ?e28 ?z0 ?z1 ?z2 ?z3 ?z4 ?z5 ?z6 ?z7 ?z8 ?z9 ?z10 ?z11 ?z12
  all_goals first|(refine' Lw.fnE ?a ?l ?c ?k; (case a=>k_is); (case l=>k_is); (case c=>k_is); (case k=>k_is))|k_is

