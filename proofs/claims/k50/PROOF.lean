import PyProof.Rows.All
import Wide.All
import OpenK.AllK
import Wide.FinOn
import Lean
import PyProof.EqAt
import PyProof.EqKinds
import PyProof.TupleCall
import KE.KSortTup
import PyProof.NeKinds
import PyProof.ExcBaseAll.ValueError
import PyProof.ExcArgsOwn
import PyProof.NsDelKeeps
import PyProof.RulesAs
import PyProof.FString
import PyProof.AttrMissSeq
import PyProof.WalksS
import KE.KDictList
import KE.KDictSum
import PyProof.MinMaxWalk
import KE.KMinKey
import PyProof.Rows.CallKwBuiltin
import PyProof.Rows.RuleDivmod
import PyProof.ListMulAny
import PyProof.FactsAll.tuple
import KE.KRevIter
import PyProof.EnumMake
import KE.KMulAny
import PyProof.FactsAll.range
import PySem.Challenge.RW_holefloor_k50_whole_crossed_orders_count
open PySem.Str renaming ofString→oS
open List renaming length_map->AJ, getElem?_eq_getElem->AZ, getD_eq_getElem?_getD->Av, getElem?_map->Ad, length_append->Ar, getElem?_eq_some_iff->BQ, range->AV, replicate->Az, mem_of_getElem?->Be, map_append->BA, size_toArray->BR, length_cons->BH, mem_range->BB, mem_cons->A5, mem_cons_of_mem->Bl, mem_map->A6, take_length->Bm, getElem?_append_right->Cf, append_nil->Bj, length_range->Bt, length_take->Bo, map_map->BS, mem_cons_self->B5, getElem?_set_self->CT, length_replicate->CU, length->BP, mem_append_right->Ce, getElem_mem->B6, mem_singleton->CK, getElem?_set_ne->Cg, getElem?_append_left->DT, mem_filter->CB, length_singleton->DE, map_cons->Bz, map->A7, tail->BZ, mem_append->CV, take_add_one->Cu, map_congr_left->DU, getElem?_eq_none->Ds, flatMap_cons->DL, append_assoc->DM, pairwise_lt_range->D5, not_mem_nil->DF, filter_cons->DV, filter_congr->De, eq_nil_of_length_eq_zero->Fn, filter_eq_self->D6, length_drop->Dd, nodup_cons->DS, length_nil->Dq, getElem?_range->Ek, pairwise_map->ET, ext_getElem?->EU, length_eraseIdx_of_lt->GA, filter_append->Em, find?_cons->D7, mem_flatMap->EV, lookup_cons->EW, all_eq_true->EX, flatMap_append->FE, getElem?_replicate->GB, filter_filter->FF, take_zero->EY, take_append_drop->GC, length_erase_of_mem->Gw, nodup_append->Fp, length_pos_of_mem->Gx, any_cons->Es, pairwise_iff_getElem->IH, getElem?_zip_eq_some->II, getElem?_cons_succ->IC, filter_cons_of_pos->ID, filter_cons_of_neg->IE, take_of_length_le->IG, getElem_range->Gu, getElem?_drop->Gv, range_succ->GF, mem_iff_getElem?->IM, getElem?_toArray->IP, filter_map->GG, sum_cons->Fq, mem_iff_getElem->IQ, mem_append_left->IS, nodup_nil->GH, getElem_inj->HA, set_eq_of_length_le->KH, zip_cons_cons->IT, getElem?_set->IV, nodup_range->IX, flatMap_nil->IY, mem_of_mem_take->KJ, mem_erase_of_ne->KL, getElem?_of_mem->KN, length_set->IZ, length_reverse->Jy, getElem_of_mem->Jz, filterMap_cons->KA, pairwise_cons->KC, map_nil->Gz, reverse_cons->KW, getElem?_take_of_lt->ME, foldl_append->KY, cons->Ft, ext_getElem->Kc, find?_cons_of_pos->MF, find?_cons_of_neg->MG, length_zip->Kd, length_filter_le->MH, mem_map_of_mem->MJ, map_id->Ie, mem_replicate->MK, mem_filterMap->ML, map_take->Kf, map_replicate->MM, getElem?_take->MN, find?_eq_none->MP, flatten_cons->MA, any_map->KO, mem_flatten->MB, isEmpty_nil->MC, any_eq_true->MD
open PySem.Heap renaming get?_push_of_some->Ap, lt_size->A4, get?_push_size->Bn, get?_update_self->GD, size_push->Ep, get?_update_other->Gy, get?_push_ne->KZ, size_update->MT
open Nat renaming le_refl->AU, ne_of_lt->BN, le_trans->Bg, lt_of_lt_of_le->Ct, zero_le->Bp, lt_succ_of_lt->Dp, le_of_lt->Cj, lt_or_eq_of_le->ES, not_lt_zero->Dr, le_of_lt_succ->En, lt_of_le_of_lt->FG, mod_eq_of_lt->Eo, lt_irrefl->EZ, ne_of_gt->El, le_mul_of_pos_right->IF, le_succ->Et, mod_lt->Ea, lt_succ_self->HB, le_mul_of_pos_left->KI, le_succ_of_le->IW, min_eq_left->IJ, zero_add->HD, lt_trichotomy->Ka, add_mod_right->Kb, sub_zero->Ic, succ_pos->KP, succ_mul->KQ, sub_self->KR, pow_succ->KS, mul_comm->KU
open Bool renaming false_ne_true->BV, false_eq_true->Bu, and_eq_true->Cv, eq_false_iff->FH, false_and->Er, and_false->FD, eq_iff_iff->Fo, not_true->Fs, true_and->HC, beq_eq_decide_eq->MI, not_false->Ke
open Int renaming toNat_natCast->BO, zero_add->B0, emod_lt_of_pos->IU, natCast_mul->IK, emod_nonneg->IL, fdiv_eq_ediv_of_nonneg->L9, ne_of_lt->Kg
open Option renaming some->CL, isSome_map->KG, getD_some->MQ, getD_none->MS
set_option Elab.async false
set_option linter.all false
set_option maxRecDepth 100000
open PySem renaming wpAny_bind -> AB, wpAny_pure -> AL, wpAny_holding -> CO, wpAny_mono -> D2, wpAny_standAt -> EL, wpAny_rule -> Eh, wpAny_attempt -> FC
theorem AK {h:Decidable c}(k:¬c):ite c t e=e:=if_neg k
theorem AN {h:Decidable c}(k:c):ite c t e=t:=if_pos k
theorem BD {h:Decidable p}(k:p):decide p=true:=decide_eq_true k
theorem BI {h:Decidable p}(k:¬p):decide p=false:=decide_eq_false k
open PySem in
abbrev Ax:=List (Addr × Obj)
open PySem in
abbrev Au:=Value->Shared->Prop
abbrev AQ:=List (Int × Int)
abbrev Ak:=List (List Int)
abbrev B4:=List (Int × List Int)
local macro_rules|`(($a,$b,*))=>`(⟨$a,$b,*⟩)
set_option hygiene false in
local macro_rules
|`(#[0])=>`(by decide)
|`(#[1])=>`(by decide +kernel)
|`(#[2])=>`(by lia)
|`(#[3])=>`(by simp)
|`(#[4])=>`(by omega)
|`(#[5])=>`(by walk_at "sc")
|`(#[6])=>`(by obtain⟨_,_,_,rfl,_⟩:=h;rfl)
|`(#[7])=>`(by show 1<=sizeLine;decide)
|`(#[8])=>`(by obtain⟨_,_,rfl,_⟩:=h;rfl)
|`(#[9])=>`(by simpa using h)
|`(#[10])=>`(by rw[<- hY];rfl)
|`(#[11])=>`(by obtain⟨_,_,_,_,rfl,_⟩:=h;rfl)
|`(#[12])=>`(by simpa using B)
set_option hygiene false in
local macro_rules
|`(command|#check 0)=>`(section variable {X:Cx})
|`(command|#check 1)=>`(section variable {K:W.Frag}{J:AM}{P:D->AM->Prop})
|`(command|#check 2)=>`(section variable {P:Program}{w:World}{K:W.Frag}{mg:Str->Option Value}{base:Heap}{f:Addr}{fd:FuncData})
|`(command|#check 3)=>`(open PySem PySem.Spec PyProof.Rows PySem.SeqAt)
|`(command|#check 4)=>`(section variable {K:W.Frag}{J:AM})
|`(command|#check 5)=>`(section variable {prog:Program}{w:World}{A:Around}{E:Au}{s:Shared})
|`(command|#check 6)=>`(section variable {K:W.Frag}{J:AM}{nx bk ct:AM->Prop}{rt:D->AM->Prop}{ro:OD->AM->Prop})
set_option hygiene false in
local macro_rules
|`(tactic|sleep 0)=>`(tactic|(refine(#[3],?_);dsimp only[startD,BZ,A7,BP,Az]))
|`(tactic|exists 0,$a:ident,$b:ident)=>`(tactic|(rw[$a:ident]at $b:ident;cases $b:ident))
|`(tactic|exists 1,$a:ident)=>`(tactic|(have $a:ident:s.TypeIs (.ref I) "set_iterator":=(_,hI,rfl);unfold pyNext;refine AB<|FC<|wpAny_callSpecial?_slot (name:=Str.ofString "__next__") $a:ident Eb<|wpAny_call_entry Eb $a:ident K0 ?_<|K1 _;refine AB<|AL ?_;refine AB<|wpAny_fieldsOf hI rfl ?_;refine AB<|wpAny_setEntries_of g.get g.dat g.fit ?_;rw[AK #[3]]))
|`(tactic|exists 2,$a:ident)=>`(tactic|(unfold pyNext;refine AB<|FC<|wpAny_callSpecial?_slot (name:=Str.ofString "__next__") $a:ident F.slot_zip_next<|wpAny_call_entry F.slot_zip_next $a:ident F.entry_zip_next ?_<|F.args_zip_next_1 _;refine(show wpAny _ _ (field (.ref z) 2 >>= _) _ _ _ from AB (wpAny_field gz rfl (x:=.bool false) rfl ?_));refine(show wpAny _ _ (field (.ref z) 3 >>= _) _ _ _ from AB (wpAny_field gz rfl (x:=.ref U) rfl<|AB<|wpAny_seqItems gU rfl ?_));refine(show wpAny _ _ (Builtin.SmallTypes.ownedTupleIsFree (.ref z) >>= _) _ _ _ from AB ?_);unfold Builtin.SmallTypes.ownedTupleIsFree;refine AB<|wpAny_field gz rfl (x:=.none) rfl<|AL ?_;simp only[if_true];refine AB<|Eh<|AB<|wpAny_field gz rfl (x:=.ref O) rfl<|AB (wpAny_setField_rec gz #[3] λh₁ z₁ s₁=>AB ?_)))
local macro_rules|`(tactic|sleep 90)=>`(tactic|first|exact .inl rfl|exact .inr rfl|assumption)
set_option compiler.extract_closed false
namespace L2
open PySem PySem.Spec PyProof.Rows
abbrev AS:=Sum Int Str
def keyIs:AS->Value->Bool
 |.inl k,v=>Value.isInt k v
 |.inr x,v=>Value.isStrOf x v
def keyH (w:World):AS->Int
 |.inl k=>hashInt k
 |.inr x=>hashStr w x
theorem FJ:∀{k:AS}{v:Value},keyIs k v=true->(∃i t,k=Sum.inl i/\v=Value.int i t)\/(∃x t,k=Sum.inr x/\v=Value.str x t)
 |.inl i,v,h=>by
  obtain⟨t,e⟩:=Value.isInt_shape (k:=i) (v:=v) h;exact .inl (i,t,rfl,e)
 |.inr x,v,h=>by
  obtain⟨t,e⟩:=Value.isStrOf_shape (x:=x) (v:=v) h;exact .inr (x,t,rfl,e)
theorem Zsh (i:Int) (t:Tok):keyIs (.inl i) (.int i t)=true:=by simp[keyIs,Value.isInt]
theorem Zsq (x:Str) (t:Tok):keyIs (.inr x) (.str x t)=true:=by simp[keyIs,Value.isStrOf]
theorem Vk (a b:Int):decide ((Sum.inl a:AS)=Sum.inl b)=(a == b):=by
 by_cases e:a=b
 ·subst e;simp
 ·have h:¬ (Sum.inl a:AS)=Sum.inl b:=λq=>e (Sum.inl.inj q)
  rw[BI h];exact(beq_eq_false_iff_ne.mpr e).symm
theorem VY (a b:Str):decide ((Sum.inr a:AS)=Sum.inr b)=decide (a=b):=by
 by_cases e:a=b
 ·subst e;simp
 ·have h:¬ (Sum.inr a:AS)=Sum.inr b:=λq=>e (Sum.inr.inj q)
  rw[BI h,BI e]
theorem VB (a:Int) (b:Str):decide ((Sum.inl a:AS)=Sum.inr b)=false:=BI λq=>nomatch q
theorem VG (a:Str) (b:Int):decide ((Sum.inr a:AS)=Sum.inl b)=false:=BI λq=>nomatch q
def mixKind (prog:Program) (w:World):PySem.KeyKind prog w AS where
 is:=keyIs
 hash:=keyH w
 inj:=λv a b A B=>by
  rcases FJ A with ⟨i,t,rfl,rfl⟩|⟨x,t,rfl,rfl⟩
  ·rcases FJ B with ⟨j,u,rfl,e⟩|⟨y,u,rfl,e⟩
   ·injection e with e1 _;rw[e1]
   ·exact nomatch e
  ·rcases FJ B with ⟨j,u,rfl,e⟩|⟨y,u,rfl,e⟩
   ·exact nomatch e
   ·injection e with e1 _;rw[e1]
 byValue:=λk v h=>by
  rcases FJ h with ⟨i,t,rfl,rfl⟩|⟨x,t,rfl,rfl⟩ <;> rfl
 pyHash:=λV h=>by
  rcases FJ V with ⟨i,t,rfl,rfl⟩|⟨x,t,rfl,rfl⟩
  ·exact wpAny_pyHash_int h
  ·exact wpAny_pyHash_str h
 eqBool:=λU V h=>by
  rcases FJ U with ⟨i,t,rfl,rfl⟩|⟨x,t,rfl,rfl⟩
  ·rcases FJ V with ⟨j,u,rfl,rfl⟩|⟨y,u,rfl,rfl⟩
   ·rw[Vk]at h;exact wpAny_eqBool_int h
   ·rw[VB]at h;exact SeqAt.EqAt.int_str i t y u _ _ _ _ h
  ·rcases FJ V with ⟨j,u,rfl,rfl⟩|⟨y,u,rfl,rfl⟩
   ·rw[VG]at h;exact SeqAt.EqAt.str_int x t j u _ _ _ _ h
   ·rw[VY]at h;exact wpAny_eqBool_str h
 «strs»:=λk x t v h=>by
  rcases FJ h with ⟨i,u,rfl,e⟩|⟨y,u,rfl,e⟩
  ·exact nomatch e
  ·injection e with e1 _
   subst e1;cases v <;> rfl
theorem W8 (prog:Program) (w:World) (i:Int) (t:Tok):(mixKind prog w).is (.inl i) (.int i t)=true:=Zsh i t
theorem W2 (prog:Program) (w:World) (x:Str) (t:Tok):(mixKind prog w).is (.inr x) (.str x t)=true:=Zsq x t
inductive V where
 |non|bl (b:Bool)|int (i:Int)|str (x:Str)|byt (b:Array UInt8)|flt (b:UInt64)|ref (a:Addr)|ty (n:String)
 deriving DecidableEq
def RelV:V->Value->Prop
 |.non,u=>u=Value.none
 |.bl b,u=>u=Value.bool b
 |.int i,u=>∃t,u=Value.int i t
 |.str x,u=>∃t,u=Value.str x t
 |.byt b,u=>∃t,u=Value.bytes b t
 |.flt b,u=>∃t,u=Value.float b t
 |.ref a,u=>u=Value.ref a
 |.ty n,u=>u=Value.type n
abbrev Vals:List V->List Value->Prop:=Paired RelV
theorem Vals.length (r:Vals xs us):xs.length=us.length:=Paired.length r
theorem Vals.get:∀{xs:List V}{us:List Value}{i:Nat}{x:V},Vals xs us->xs[i]?=some x->∃u,us[i]?=some u/\RelV x u
 |_,_,_,_,.nil,e=>by simp at e
 |_,_,0,_,.cons r _,e=>by simp at e;subst e;exact(_,rfl,r)
 |_,_,i+1,x,.cons _ t,e=>by
  obtain⟨u,h,H⟩:=Vals.get (i:=i) (x:=x) t (by simpa using e);exact(u,#[9],H)
theorem Vals.set (r:RelV x u):∀{xs:List V}{us:List Value}(i:Nat),Vals xs us->Vals (xs.set i x) (us.set i u)
 |_,_,_,.nil=>.nil
 |_,_,0,.cons _ t=>.cons r t
 |_,_,i+1,.cons q t=>.cons q (Vals.set r i t)
theorem Vals.append:∀{xs ys:List V}{us ws:List Value},Vals xs us->Vals ys ws->Vals (xs++ys) (us++ws)
 |_,_,_,_,.nil,s=>s
 |_,_,_,_,.cons r t,s=>.cons r (Vals.append t s)
theorem Vals.take:∀{xs:List V}{us:List Value}(n:Nat),Vals xs us->Vals (xs.take n) (us.take n)
 |_,_,0,_=>.nil
 |_,_,_+1,.nil=>.nil
 |_,_,n+1,.cons r t=>.cons r (Vals.take n t)
theorem Vals.drop:∀{xs:List V}{us:List Value}(n:Nat),Vals xs us->Vals (xs.drop n) (us.drop n)
 |_,_,0,r=>r
 |_,_,_+1,.nil=>.nil
 |_,_,n+1,.cons _ t=>Vals.drop n t
def RelO:Option V->Option Value->Prop
 |some v,some u=>RelV v u
 |none,none=>True
 |_,_=>False
def KV {κ:Type}:List (κ × V)->List (κ × Value)->Prop:=Paired λ(p:κ × V) (q:κ × Value)=>p.1=q.1/\RelV p.2 q.2
def kV:AS->V
 |.inl i=>.int i
 |.inr x=>.str x
inductive HO where
 /-- a list -/
 |lst (xs:List V)
 /-- a tuple (never changes) -/
 |tup (xs:List V)
 /-- a dict whose keys are ints and texts;one whose keys are tuples of ints and texts (the empty one is both) -/
 |dK (kvs:List (AS × V))|dT (kvs:List (List AS × V))
 /-- a set of ints: its members,its size -/
 |set (S:Int->Bool) (n:Nat)
 /-- an instance of the class at C,its dict at dx,its attributes -/
 |ins (C dx:Addr) (fs:List (Str × V))
 /-- the dict of the instance at x -/
 |own (x:Addr)
 /-- the dict of an exception -/
 |xd (fs:List (Str × V))
 /-- a bound method,f of x -/
 |met (f x:Addr)
 /-- a range object lo,lo+1,.. below hi -/
 |rng (lo hi:Int)
 /-- a thing that is known to the object (the script;a dict while a loop walks it): read,never written while it is so -/
 |frz (o:Obj) (u:HO)
 /-- a code object's table -/
 |tbl (ps:Array Value)
 /-- any other thing,by what is true of its one object (a def of one's own: SetO a S n:=HO.ext λh=>..) -/
 |ext (φ:Heap->Prop)
abbrev Hp:=Addr->Option HO
def upd (H:Hp) (a:Addr) (o:HO):Hp:=λb=>if b=a then some o else H b
theorem Bd:upd H a o a=some o:=by unfold upd;rw[AN rfl]
theorem Ai (h:b≠a):upd H a o b=H b:=by unfold upd;rw[AK h]
theorem Zz2:upd (upd H a o) a u=upd H a u:=by
 funext b;unfold upd;split <;> rfl
theorem Vz {H:Hp}(h:H a=some o) (h':H b=some u) (d:o≠u):a≠b:=by
 intro e;subst e;rw[h]at h';exact d<|CL.inj h'
theorem Bq {H:Hp}(h:H a=some o) (h':H b=none):a≠b:=by
 intro e;subst e;exists 0,h,h'
def IsTupN (h:Heap) (a:Addr) (its:Array Value):Prop:=∃o,h.get? a=some o/\(o.cls=.type "tuple" /\ ∃n,o.data=.seq its n)/\o.dict=none
theorem IsTupN.tup {h:Heap}{a:Addr}{its:Array Value}(x:IsTupN h a its):IsTup h a its:=let ⟨o,e,c,_⟩:=x; (o,e,c)
theorem IsTupN.new (h:Heap) (items:Array Value):IsTupN (h.push { cls:=.type "tuple",data:=.seq items }) h.objs.size items:=(_,Bn _ rfl,(rfl,_,rfl),rfl)
section
variable (P:Program) (w:World)
def ObjOk (H:Hp) (h:Heap) (a:Addr):HO->Prop
 |.lst xs=>xs.length<=sizeLine/\∃(its:List Value) (n:Nat),Vals xs its/\h.get? a=some { cls:=.type "list",data:=.seq its.toArray n }
 |.tup xs=>xs.length<=sizeLine/\∃its:List Value,Vals xs its/\IsTupN h a its.toArray
 |.dK kvs=>kvs.length<=sizeLine/\(a == sysModules)=false/\∃vs,KV kvs vs/\h.DictOf (mixKind P w) a vs
 |.dT kvs=>kvs.length<=sizeLine/\(a == sysModules)=false/\∃xs:List (List AS × Addr × Value),
   Paired (λ(p:List AS × V) (q:List AS × Addr × Value)=>p.1=q.1/\H q.2.1=some (.tup<|p.1.map kV)/\RelV p.2 q.2.2) kvs xs /\
   ∃o es ep,h.get? a=some o/\o.ExactDict/\o.data=.dict es ep/\es.toList=xs.map (entryOfKey<|tupleKind<|mixKind P w)/\(xs.map (·.1)).Nodup
 |.set S n=>h.SetOf (intKind P w) a S n
 |.ins C dx fs=>H dx=some (.own a)/\fs.length<=1000/\dx≠a/\h.get? a=some (PySem.W.instObj C dx) /\
   ∃mA,h.Ns1 dx mA/\(∀f,RelO (fs.lookup f) (mA f))/\PySem.Within mA (fs.map (·.1))
 |.own _=>∃o,h.get? a=some o
 |.xd fs=>∃mA,h.Ns1 a mA/\∀f,RelO (fs.lookup f) (mA f)
 |.rng lo hi=>∃t u v,h.get? a=some { cls:=.type "range",data:=.fields #[.int lo t,.int hi u,.int 1 v] }
 |.frz o u=>h.get? a=some o/\ObjOk H h a u
 |.tbl ps=>h.get? a=some { cls:=.none,data:=.fields ps }
 |.met f x=>h.get? a=some (PySem.W.methodObj (.ref f) (.ref x))
 |.ext φ=>φ h/\(∃o,h.get? a=some o)/\∀h1 h2:Heap,φ h1->(∀o,h1.get? a=some o->h2.get? a=some o) -> φ h2
def HOk (H:Hp) (h:Heap):Prop:=∀a o,H a=some o->ObjOk P w H h a o
end
section
variable {P:Program}{w:World}{H H':Hp}{h h':Heap}{a:Addr}{o:HO}
theorem ObjOk.lt (x:ObjOk P w H h a o):a<h.objs.size:=by
 cases o with
 |lst xs=>obtain⟨_,_,_,_,e⟩:=x;exact A4 e
 |tup xs=>obtain⟨_,_,_,p⟩:=x;exact p.tup.lt
 |dK kvs=>obtain⟨_,_,_,_,o,_,_,e,_⟩:=x;exact A4 e
 |dT kvs=>obtain⟨_,_,_,_,o,_,_,e,_⟩:=x;exact A4 e
 |set S n=>obtain⟨o,_,_,_,e,_⟩:=x;exact A4 e
 |ins C dx fs=>obtain⟨_,_,_,e,_⟩:=x;exact A4 e
 |own y=>obtain⟨_,e⟩:=x;exact A4 e
 |xd fs=>obtain⟨_,⟨_,_,_,e,_⟩,_⟩:=x;exact A4 e
 |rng lo hi=>obtain⟨_,_,_,e⟩:=x;exact A4 e
 |frz ob u=>obtain⟨e,_⟩:=x;exact A4 e
 |tbl ps=>exact A4 (show h.get? a=some _ from x)
 |met f y=>exact A4 (show h.get? a=some _ from x)
 |ext φ=>obtain⟨_,⟨_,e⟩,_⟩:=x;exact A4 e
theorem Paired.mapP:∀{l₁:List α}{l₂:List β},Paired F l₁ l₂ -> (∀a b,F a b->G a b)->Paired G l₁ l₂
 |_,_,.nil,_=>.nil
 |_,_,.cons r t,f=>.cons (f _ _ r) (Paired.mapP t f)
theorem ObjOk.stay (x:ObjOk P w H h a o) (k:∀b u,(b=a\/H b=some (.own a))->h.get? b=some u->h'.get? b=some u)
  (ho:∀b,H b=some (.own a)->H' b=some (.own a)) (ht:∀b xs,H b=some (.tup xs)->H' b=some (.tup xs)):ObjOk P w H' h' a o:=by
 induction o with
 |lst xs=>obtain⟨z,i,n,r,e⟩:=x;exact(z,i,n,r,k _ _ (.inl rfl) e)
 |tup xs=>obtain⟨z,i,r,B,e,c⟩:=x;exact(z,i,r,B,k _ _ (.inl rfl) e,c)
 |dK kvs=>obtain⟨z,y,V,r,B,s,E,e,c⟩:=x;exact(z,y,V,r,B,s,E,k _ _ (.inl rfl) e,c)
 |dT kvs=>
  obtain⟨z,y,xs,r,B,s,E,e,c⟩:=x;exact(z,y,xs,Paired.mapP r λp q z=>(z.1,ht _ _ z.2.1,z.2.2),B,s,E,k _ _ (.inl rfl) e,c)
 |set S n=>obtain⟨B,s,E,t,e,c⟩:=x;exact(B,s,E,t,k _ _ (.inl rfl) e,c)
 |ins C dx fs=>
  obtain⟨d,z,ne,e,A,⟨D,s,E,g,c⟩,r⟩:=x;exact(ho _ d,z,ne,k _ _ (.inl rfl) e,A,(D,s,E,k _ _ (.inr d) g,c),r)
 |own y=>obtain⟨B,e⟩:=x;exact(B,k _ _ (.inl rfl) e)
 |xd fs=>obtain⟨A,⟨D,s,E,e,c⟩,r⟩:=x;exact(A,(D,s,E,k _ _ (.inl rfl) e,c),r)
 |rng lo hi=>obtain⟨t,u,v,e⟩:=x;exact(t,u,v,k _ _ (.inl rfl) e)
 |frz B u ih=>obtain⟨e,q⟩:=x;exact(k _ _ (.inl rfl) e,ih q)
 |tbl ps=>
  have e:h.get? a=some { cls:=.none,data:=.fields ps }:=x;show h'.get? a=some { cls:=.none,data:=.fields ps };exact k a _ (.inl rfl) e
 |met f y=>
  have e:h.get? a=some (PySem.W.methodObj (.ref f) (.ref y)):=x;show h'.get? a=some (PySem.W.methodObj (.ref f) (.ref y));exact k a _ (.inl rfl) e
 |ext φ=>obtain⟨p,⟨o,e⟩,T⟩:=x;exact(T _ _ p λo q=>k _ _ (.inl rfl) q,(o,k _ _ (.inl rfl) e),T)
theorem HOk.lt (x:HOk P w H h) (e:H a=some o):a<h.objs.size:=(x a o e).lt
theorem HOk.fresh (x:HOk P w H h) (e:h.objs.size<=a):H a=none:=by
 cases q:H a with
 |none=>rfl
 |some u=>exact absurd (Ct (x.lt q) e) (EZ _)
theorem HOk.kept (x:HOk P w H h) (k:∀b u,h.get? b=some u->h'.get? b=some u):HOk P w H h':=λa o e=>
 (x a o e).stay (λb u _ q=>k b u q) (λ_ q=>q) λ_ _ q=>q
theorem HOk.laid (x:HOk P w H h) (k:∀b u,h.get? b=some u->h'.get? b=some u) (z:h.objs.size<=a) (j:ObjOk P w (upd H a o) h' a o):HOk P w (upd H a o) h':=λb u e=>by
 have n:=x.fresh z;by_cases hb:b=a
 ·subst hb;exists 0,Bd,e;exact j
 ·rw[Ai hb]at e
  exact(x b u e).stay (λc v _ q=>k c v q) (λc q=>by rw[Ai (Bq q n)];exact q) λc s q=>by rw[Ai (Bq q n)];exact q
end
def Rd (H:Hp) (a:Addr) (u:HO):Prop:=H a=some u\/∃o,H a=some (.frz o u)
theorem Rd.ok (r:Rd H a u) (x:HOk P w H h):ObjOk P w H h a u:=by
 rcases r with r|⟨o,r⟩
 ·exact x a u r
 ·obtain⟨_,q⟩:=x a _ r
  exact q
def Hw:Option HO->Prop
 |some (.lst _)=>True
 |some (.dK _)=>True
 |some (.dT _)=>True
 |some (.set _ _)=>True
 |some (.ins _ _ _)=>True
 |some (.ext _)=>True
 |_=>False
section
variable {P:Program}{w:World}{H:Hp}{h h':Heap}{x e:Addr}{o':HO}
theorem HOk.write (L:HOk P w H h) (U:Hw (H x)) (B:e=x\/H e=some (.own x)) (k:∀b u,b≠e->h.get? b=some u->h'.get? b=some u) (O:∃u,h'.get? e=some u)
  (j:ObjOk P w (upd H x o') h' x o'):HOk P w (upd H x o') h':=λb u q=>by
 have n:∀c y,H c=some (.own y)->c≠x:=λc y r z=>by subst z;rw[r]at U;exact U
 have p:∀c s,H c=some (.tup s)->c≠x:=λc s r z=>by subst z;rw[r]at U;exact U
 by_cases hb:b=x
 ·subst hb;exists 0,Bd,q;exact j
 ·rw[Ai hb]at q
  by_cases hbe:b=e
  ·have Q:H b=some (.own x):=by
    rcases B with z|z
    ·exact absurd (hbe.trans z) hb
    ·rw[hbe];exact z
   exists 0,q,Q;obtain⟨v,V⟩:=O;exact(v,by rw[hbe];exact V)
  ·refine(L b u q).stay (λc v C r=>k c v ?_ r) (λc r=>by rw[Ai (n c b r)];exact r) λc s r=>by rw[Ai (p c s r)];exact r
   rcases C with rfl|C
   ·exact hbe
   ·rintro rfl
    rcases B with z|z
    ·exact n c b C z
    ·exists 0,C,z;exact hb rfl
end
structure Un (fs ex:List Addr) (H H':Hp) (h h':Heap):Prop where
 keep:∀b o,h.get? b=some o->H b=none->b ∉ fs->b ∉ ex->h'.get? b=some o
 slot:∀b o,h.get? b=some o->H b=none->b∈fs->b ∉ ex->∃sl,h'.get? b=some { o with slots:=sl }
 free:∀b o,h.get? b=some o->H b=none->b ∉ ex->H' b=none
 there:∀b o,h.get? b=some o->b ∉ ex->∃o',h'.get? b=some o'
 tups:∀b xs,H b=some (.tup xs)->H' b=some (.tup xs)
 frzs:∀b o u,H b=some (.frz o u)->H' b=some (.frz o u)
 tbls:∀b ps,H b=some (.tbl ps)->∃more,H' b=some (.tbl<|ps++more)
section
variable {fs fs' ex ex':List Addr}{H H1 H2:Hp}{h h1 h2 h':Heap}{a x e:Addr}{o:HO}
theorem Un.any (u:Un fs ex H H1 h h1) (q:h.get? b=some ob) (n:H b=none) (hx:b ∉ ex):∃sl,h1.get? b=some { ob with slots:=sl }:=by
 by_cases hb:b∈fs
 ·exact u.slot b ob q n hb hx
 ·exact(ob.slots,u.keep b ob q n hb hx)
theorem Un.kept (k:∀b u,h.get? b=some u->h'.get? b=some u):Un fs ex H H h h':=
 (λb o q _ _ _=>k b o q,λb o q _ _ _=>(o.slots,k b o q),λ_ _ _ n _=>n,λb o q _=>(o,k b o q),λ_ _ q=>q,λ_ _ _ q=>q,λ_ s q=>(#[],by rw[q];simp))
theorem Un.refl:Un fs ex H H h h:=Un.kept λ_ _ q=>q
theorem Un.laid (k:∀b u,h.get? b=some u->h'.get? b=some u) (hp:h.objs.size<=a) (hn:H a=none):Un fs ex H (upd H a o) h h' where
 keep:=λb u q _ _ _=>k b u q
 slot:=λb u q _ _ _=>(u.slots,k b u q)
 free:=λb u q n _=>by rw[Ai (BN<|Ct (A4 q) hp)];exact n
 there:=λb u q _=>(u,k b u q)
 tups:=λb s q=>by rw[Ai (Bq q hn)];exact q
 frzs:=λb u s q=>by rw[Ai (Bq q hn)];exact q
 tbls:=λb p q=>(#[],by rw[Ai (Bq q hn),q];simp)
theorem Un.write (U:Hw (H x)) (j:e=x\/H e=some (.own x)) (k:∀b u,b≠e->h.get? b=some u->h'.get? b=some u) (O:∃u,h'.get? e=some u):Un fs ex H (upd H x o) h h':=by
 have X:∀b,H b=none->b≠x:=λb n z=>by subst z;rw[n]at U;exact U
 have B:∀b,H b=none->b≠e:=λb n z=>by
  subst z;rcases j with r|r
  ·exact X b n r
  ·exists 0,n,r
 have m:∀b u,H b=some u->¬ Hw (some u)->b≠x:=λb u q M z=>by subst z;rw[q]at U;exact M U
 refine(λb u q n _ _=>k b u (B b n) q,λb u q n _ _=>(u.slots,k b u (B b n) q),λb u q n _=>by rw[Ai (X b n)];exact n,λb u q _=>?_,
  λb s q=>by rw[Ai (m b _ q λz=>z)];exact q,λb u s q=>by rw[Ai (m b _ q λz=>z)];exact q,λb p q=>(#[],by rw[Ai (m b _ q λz=>z),q];simp))
 by_cases hbe:b=e
 ·subst hbe;exact O
 ·exact(u,k b u hbe q)
end
def trk (h:Heap) (H:Hp):List Addr:=(AV h.objs.size).filter λa=>(H a).isSome
def hidT (h:Heap) (H:Hp):Heap:=PySem.W.hideAll h<|trk h H
theorem Ztu (h:Heap) (H:Hp):(hidT h H).objs.size=h.objs.size:=PySem.W.hideAll_size _ _
theorem Zwv (e:h.get? b=some o) (n:H b=none):(hidT h H).get? b=some o:=
 PySem.W.hideAll_get _ e λm=>by
  have q:(H b).isSome=true:=(CB.mp m).2;rw[n]at q;simp at q
theorem Zyt (e:(hidT h H).get? b=some o):h.get? b=some o/\H b=none:=by
 have E:h.get? b=some o:=PySem.W.of_hideAll (trk h H) e;refine(E,?_);cases q:H b with
 |none=>rfl
 |some x=>
  have m:b∈trk h H:=CB.mpr (BB.mpr<|A4 E,by simp[q]);have z:(hidT h H).get? b=none:=PySem.W.hideAll_none (trk h H) m;exists 0,z,e
def allNews (g h:Heap) (L:Addr):Ax:=(AV h.objs.size).filterMap λa=>if a=L\/(g.get? a).isSome=true then none else (h.get? a).map λo=>(a,o)
def rest (g h:Heap) (L d:Addr):Ax:=(allNews g h L).filter λp=>decide<|p.1≠d
structure Mod (K:W.Frag) (mg:Str->Option Value) (base:Heap):Prop where
 kin:K.In base
 glob:base.Ns mainGlobals mg
 blt:∃mb,base.Ns builtinsNs mb/\∀x:Str,x ≠ "__name__" -> mb x=bootBuiltins x
 nolimit:base.NoLimit
structure Cx where
 prog:Program
 w:World
 K:W.Frag
 mg:Str->Option Value
 base:Heap
 A:Around
 N:List Str
 s₀:Shared
 H₀:Hp
 env:Env
 outer:List Env
 stack:List Env
 ex:List Addr
 fn:Str->Bool
 calm:Bool
 pn:Ax
 xe:Value->Shared->Prop
def frs (l:List Env):List Addr:=l.filterMap (·.frame)
abbrev Cx.fs (X:Cx):List Addr:=frs X.outer
def Jx (j:Scope) (x:Str):Prop:=j.names.lookup x=some .local\/j.names.lookup x=some .cell\/j.names.lookup x=some .free
def Fg (j:Scope) (x:Str):Prop:=j.names.lookup x=some .local\/j.names.lookup x=some .cell
def Look (env:Env) (h:Heap) (m:Str->Option Value) (x:Str) (u:Value):Prop:=
 (env.kindOf x=some .local/\m x=some u)\/((env.kindOf x=some .cell\/env.kindOf x=some .free)/\∃c,env.cells.lookup x=some c/\h.IsCell c (some u))
structure Cx.Ok (X:Cx):Prop where
 mod:Mod X.K X.mg X.base
 kind:X.env.scope.kind=.function
 glob:X.env.globals=mainGlobals
 blt:X.env.builtins=builtinsNs
 above:X.s₀.heap.objs.size<=X.env.locals
 inj:∀x y c,X.env.cells.lookup x=some c->X.env.cells.lookup y=some c->x=y
 has:∀x,(X.env.kindOf x=some .cell\/X.env.kindOf x=some .free)->∃c,X.env.cells.lookup x=some c
 cab:∀x c,X.fn x=true->X.env.cells.lookup x=some c->X.s₀.heap.objs.size<=c
 hd:X.calm=true->X.A.handled=none
 frames:X.A.frames=some X.stack
 stk:X.stack=X.outer\/(X.stack=X.env::X.outer/\X.env.frame=some X.env.locals)
 exf:∀b∈X.ex,b≠X.env.locals/\∀x c,X.env.cells.lookup x=some c->c≠b
 bs:∀b o,X.base.get? b=some o->X.s₀.heap.get? b=some o/\X.H₀ b=none
 bsz:X.base.objs.size<=X.s₀.heap.objs.size
 noex:∀b o,X.base.get? b=some o->b ∉ X.ex
 exfs:∀b∈X.ex,b ∉ X.fs
 funs:X.s₀.heap.FunFrames X.base X.outer
 frf:∀b∈X.fs,X.H₀ b=none
structure AH (X:Cx) (pins:Ax) (Z:List (Option V)) (H:Hp) (s:Shared):Prop where
 ok:X.Ok
 os:s.os=X.s₀.os
 bare:AllBare s.gens
 base:Un X.fs X.ex X.H₀ H X.s₀.heap s.heap
 loc:∃m,s.heap.Ns X.env.locals m/\∀(i:Nat) (x:Str) (v:V),X.N[i]?=some x -> Z[i]?=some (some v)->Jx X.env.scope x->∃u,RelV v u/\Look X.env s.heap m x u
 cell:∀x c,X.env.cells.lookup x=some c->∃v,s.heap.IsCell c v
 free:H X.env.locals=none
 freeC:∀x c,X.env.cells.lookup x=some c->H c=none
 pin:∀p∈X.pn++pins,s.heap.get? p.1=some p.2/\H p.1=none/\p.1≠X.env.locals/\p.1 ∉ X.fs/\∀v,p.2.data≠.cell v
 hok:HOk X.prog X.w H s.heap
 len:Z.length=X.N.length
section
variable {X:Cx}{pins:Ax}{Z:List (Option V)}{H H':Hp}{s:Shared}{h':Heap}
theorem Cx.Ok.nofr (O:X.Ok) (e:X.base.get? b=some o):b ∉ X.fs:=λh=>by
 have:=(O.funs.mem h).1;rw[e]at this;cases this
theorem AH.bs (I:AH X pins Z H s):∀b o,X.base.get? b=some o->s.heap.get? b=some o/\H b=none:=λb o e=>
 (I.base.keep b o (I.ok.bs b o e).1 (I.ok.bs b o e).2 (I.ok.nofr e) (I.ok.noex b o e),I.base.free b o (I.ok.bs b o e).1 (I.ok.bs b o e).2 (I.ok.noex b o e))
theorem AH.bk (I:AH X pins Z H s):∀b o,X.base.get? b=some o->s.heap.get? b=some o:=λb o e=>(I.bs b o e).1
theorem AH.mod (I:AH X pins Z H s):Mod X.K X.mg X.base:=I.ok.mod
theorem AH.kIn (I:AH X pins Z H s):X.K.In s.heap:=I.ok.mod.kin.keeps I.bk
theorem AH.lt (I:AH X pins Z H s):X.env.locals<s.heap.objs.size:=let ⟨_,hn,_⟩:=I.loc;hn.lt
theorem AH.sz (I:AH X pins Z H s):X.s₀.heap.objs.size<=s.heap.objs.size:=Bg I.ok.above<|Cj I.lt
theorem AH.nofs (I:AH X pins Z H s) (h:s.heap.objs.size<=a):a ∉ X.fs:=λb=>by
 obtain⟨_,o,O,_⟩:=I.ok.funs.mem b;exact absurd (Ct (A4 O)<|Bg I.sz h)<|EZ _
theorem AH.cne (I:AH X pins Z H s):∀x c,X.env.cells.lookup x=some c->c≠X.env.locals:=λx c e z=>by
 obtain⟨v,o,O,D⟩:=I.cell x c e;obtain⟨m,⟨a,S,p,h,d,_⟩,_⟩:=I.loc;rw[z,h]at O;cases O;exists 0,d,D
theorem AH.funs (I:AH X pins Z H s):s.heap.FunFrames X.base X.outer:=by
 have a:∀(l:List Env),(∀b∈frs l,b∈X.fs)->X.s₀.heap.FunFrames X.base l->s.heap.FunFrames X.base l:=by
  intro l
  induction l with
  |nil=>intro _ _;trivial
  |cons env r ih=>
   intro hs hl;obtain⟨k,⟨L,o,f,n,O,d⟩,R⟩:=hl;have h:L∈X.fs:=hs L (by unfold frs;rw[KA,f];exact B5);obtain⟨S,e⟩:=I.base.slot L o O (I.ok.frf L h) h λz=>I.ok.exfs L z h;exact(k,(L,_,f,n,e,d),ih (λb B=>hs b (by unfold frs;rw[KA,f];exact Bl _ B)) R)
 exact a X.outer (λ_ B=>B) I.ok.funs
theorem AH.stack (I:AH X pins Z H s):s.heap.FunFrames X.base X.stack:=by
 rcases I.ok.stk with e|⟨e,f⟩
 ·rw[e];exact I.funs
 ·rw[e]
  obtain⟨m,n,_⟩:=I.loc;refine .cons (by rw[I.ok.kind];decide) f n ?_ I.funs;exact Heap.get?_none_of_le<|Bg I.ok.bsz I.ok.above
theorem AH.stkSub (I:AH X pins Z H s):∀b∈frs X.stack,b∈X.env.locals::X.fs:=λb h=>by
 rcases I.ok.stk with e|⟨e,f⟩
 ·rw[e]at h;exact Bl _ h
 ·rw[e]at h
  unfold frs at h;rw[KA,f]at h;exact h
theorem AH.stkFree (I:AH X pins Z H s):∀b∈frs X.stack,H b=none:=λb h=>by
 rcases A5.mp (I.stkSub b h) with e|h
 ·rw[e];exact I.free
 ·obtain⟨_,o,O,_⟩:=I.ok.funs.mem h
  exact I.base.free b o O (I.ok.frf b h) λz=>I.ok.exfs b z h
theorem AH.step {g':Array GenState}{t':Nat}{d':Drawn}{ch:List Addr}(I:AH X pins Z H s)
  (hch:∀b∈ch,(b∈X.ex\/X.s₀.heap.objs.size<=b)/\b≠X.env.locals/\(∀x c,X.env.cells.lookup x=some c->c≠b)/\∀p∈X.pn++pins,p.1≠b)
  (keep:∀b o,b≠X.env.locals->b ∉ X.fs->b ∉ ch->s.heap.get? b=some o->H b=none->h'.get? b=some o)
  (slot:∀b o,b≠X.env.locals->b∈X.fs->b ∉ ch->s.heap.get? b=some o->H b=none->∃sl,h'.get? b=some { o with slots:=sl }) (free:∀b o,b ∉ ch->s.heap.get? b=some o->H b=none->H' b=none)
  (there:∀b o,b ∉ ch->s.heap.get? b=some o->∃o',h'.get? b=some o')
  (tups:∀b xs,H b=some (.tup xs)->H' b=some (.tup xs)) (frzs:∀b o u,H b=some (.frz o u)->H' b=some (.frz o u)) (tbls:∀b ps,H b=some (.tbl ps)->∃more,H' b=some (.tbl<|ps++more))
  (ns:∀m,s.heap.Ns X.env.locals m->h'.Ns X.env.locals m) (hok:HOk X.prog X.w H' h') (hg:AllBare g') :
  AH X pins Z H' { s with heap:=h',gens:=g',drawn:=d',toks:=t' }:=by
 have L:∀b o,X.s₀.heap.get? b=some o->b≠X.env.locals:=λb o e=>BN<|Ct (A4 e) I.ok.above;have N:∀b o,X.s₀.heap.get? b=some o->b ∉ X.ex->b ∉ ch:=λb o e h B=>by
  rcases(hch b B).1 with z|z
  ·exact h z
  ·exact absurd (Ct (A4 e) z)<|EZ _
 have K:∀x c,X.env.cells.lookup x=some c->∀v,s.heap.IsCell c v->h'.IsCell c v:=λx c e v Q=>by
  obtain⟨o,O,D⟩:=Q;have C:c ∉ ch:=λz=>(hch c z).2.2.1 x c e rfl;by_cases hc:c∈X.fs
  ·obtain⟨sl,q⟩:=slot c o (I.cne x c e) hc C O (I.freeC x c e)
   exact(_,q,D)
  ·exact(o,keep c o (I.cne x c e) hc C O<|I.freeC x c e,D)
 refine(I.ok,I.os,hg,(λb o e n B h=>?_,λb o e n B h=>?_,λb o e n h=>?_,λb o e h=>?_,λb xs e=>tups b xs<|I.base.tups b xs e,λb o xs e=>frzs b o xs<|I.base.frzs b o xs e,λb ps e=>?_),?_,λx c e=>?_,?_,λx c e=>?_,λp P=>?_,hok,I.len)
 ·exact keep b o (L b o e) B (N b o e h) (I.base.keep b o e n B h)<|I.base.free b o e n h
 ·obtain⟨sl,E⟩:=I.base.slot b o e n B h
  obtain⟨S,a⟩:=slot b _ (L b o e) B (N b o e h) E<|I.base.free b o e n h;exact(S,a)
 ·obtain⟨o',E⟩:=I.base.there b o e h
  exact free b o' (N b o e h) E<|I.base.free b o e n h
 ·obtain⟨o',E⟩:=I.base.there b o e h
  exact there b o' (N b o e h) E
 ·obtain⟨M,E⟩:=I.base.tbls b ps e
  obtain⟨y,a⟩:=tbls b _ E;exact(M++y,by rw[a,Array.append_assoc])
 ·obtain⟨m,t,j⟩:=I.loc
  refine(m,ns m t,λi x v E a g=>?_);obtain⟨u,r,l⟩:=j i x v E a g;refine(u,r,?_);rcases l with l|⟨k,c,e,z⟩
  ·exact .inl l
  ·exact .inr (k,c,e,K x c e _ z)
 ·obtain⟨v,z⟩:=I.cell x c e
  exact(v,K x c e v z)
 ·obtain⟨m,⟨o,_,_,O,_⟩,_⟩:=I.loc
  exact free _ o (λz=>(hch _ z).2.1 rfl) O I.free
 ·obtain⟨v,o,O,D⟩:=I.cell x c e
  exact free c o (λz=>(hch c z).2.2.1 x c e rfl) O<|I.freeC x c e
 ·obtain⟨e,n,ne,f,d⟩:=I.pin p P
  have C:p.1 ∉ ch:=λz=>(hch p.1 z).2.2.2 p P rfl;exact(keep p.1 p.2 ne f C e n,free p.1 p.2 C e n,ne,f,d)
theorem AH.un (I:AH X pins Z H s) (u:Un X.fs [] H H' s.heap h') (hok:HOk X.prog X.w H' h'):AH X pins Z H' { s with heap:=h',toks:=t' }:=by
 obtain⟨m,⟨o,E,P,O,r⟩,_⟩:=id I.loc;obtain⟨l,L⟩:=u.any O I.free #[3];exact I.step (g':=s.gens) (d':=s.drawn) (ch:=[]) (λ_ z=>nomatch z) (λb o _ B _ e n=>u.keep b o e n B #[3]) (λb o _ B _ e n=>u.slot b o e n B #[3]) (λb o _ e n=>u.free b o e n #[3]) (λb o _ e=>u.there b o e #[3]) u.tups u.frzs u.tbls (λa M=>by
  obtain⟨c,S,p,h,R⟩:=M;rw[O]at h;cases h;exact(_,S,p,L,R)) hok I.bare
theorem AH.call {g':Array GenState}{t':Nat}{d':Drawn}{ch:List Addr}(I:AH X pins Z H s) (u:Un (frs X.stack) ch H H' s.heap h') (hok:HOk X.prog X.w H' h') (hg:AllBare g')
  (hch:∀b∈ch,(b∈X.ex\/X.s₀.heap.objs.size<=b)/\b≠X.env.locals/\(∀x c,X.env.cells.lookup x=some c->c≠b)/\∀p∈X.pn++pins,p.1≠b) :
  AH X pins Z H' { s with heap:=h',gens:=g',drawn:=d',toks:=t' }:=by
 obtain⟨m,⟨o,d,E,a,r⟩,_⟩:=id I.loc;obtain⟨l,L⟩:=u.any a I.free λz=>(hch _ z).2.1 rfl;exact I.step (ch:=ch) hch (λb o L B h e n=>u.keep b o e n (λz=>(A5.mp (I.stkSub b z)).elim L B) h) (λb o _ _ h e n=>u.any e n h) (λb o h e n=>u.free b o e n h) (λb o h e=>u.there b o e h) u.tups u.frzs u.tbls (λf M=>by
  obtain⟨g,S,P,O,R⟩:=M;rw[a]at O;cases O;exact(_,S,P,L,R)) hok hg
theorem AH.turned (I:AH X pins Z H s) (k:∀b o,b≠it->s.heap.get? b=some o->h'.get? b=some o) (hn:H it=none) (hL:it≠X.env.locals)
  (h1:it∈X.ex\/X.s₀.heap.objs.size<=it) (h2:∀x c,X.env.cells.lookup x=some c->c≠it) (h3:∀p∈X.pn++pins,p.1≠it):AH X pins Z H { s with heap:=h',toks:=t' }:=by
 have t:∀b u,H b=some u->b≠it:=λb u e z=>by rw[z,hn]at e;cases e
 refine I.step (g':=s.gens) (d':=s.drawn) (ch:=[it]) (λb B=>?_) (λb o _ _ h e _=>k b o (λz=>h (by simp[z])) e) (λb o _ _ h e _=>(o.slots,k b o (λz=>h (by simp[z])) e)) (λ_ _ _ _ n=>n)
  (λb o h e=>(o,k b o (λz=>h (by simp[z])) e)) (λ_ _ e=>e) (λ_ _ _ e=>e) (λb a e=>(#[],by rw[e];simp)) (λm M=>?_) (λb u e=>?_) I.bare
 ·have e:b=it:=by simpa using B
  subst e;exact(h1,hL,h2,h3)
 ·obtain⟨o,S,P,O,r⟩:=M
  exact(o,S,P,k _ o (Ne.symm hL) O,r)
 ·refine(I.hok b u e).stay (λc v h q=>k c v ?_ q) (λ_ q=>q) λ_ _ q=>q
  rcases h with z|z
  ·rw[z];exact t b u e
  ·exact t c _ z
theorem AH.tok (I:AH X pins Z H s) (t:Nat):AH X pins Z H { s with toks:=t }:=I.un (h':=s.heap) (t':=t) Un.refl I.hok
theorem AH.kept (I:AH X pins Z H s) (k:∀b u,s.heap.get? b=some u->h'.get? b=some u):AH X pins Z H { s with heap:=h',toks:=t' }:=I.un (Un.kept k)<|I.hok.kept k
theorem AH.laid {a:Addr}{o:HO}{t':Nat}(I:AH X pins Z H s) (k:∀b u,s.heap.get? b=some u->h'.get? b=some u) (hp:s.heap.objs.size<=a) (new:ObjOk X.prog X.w (upd H a o) h' a o) :
  AH X pins Z (upd H a o) { s with heap:=h',toks:=t' }:=I.un (Un.laid k hp<|I.hok.fresh hp)<|I.hok.laid k hp new
theorem AH.write (I:AH X pins Z H s) (mu:Hw (H x)) (he:e=x\/H e=some (.own x)) (k:∀b u,b≠e->s.heap.get? b=some u->h'.get? b=some u) (heo:∃u,h'.get? e=some u)
  (new:ObjOk X.prog X.w (upd H x o) h' x o):AH X pins Z (upd H x o) { s with heap:=h',toks:=t' }:=I.un (Un.write mu he k heo)<|I.hok.write mu he k heo new
theorem AH.pins_of (I:AH X pins Z H s) (h:∀p∈pins',s.heap.get? p.1=some p.2/\H p.1=none/\p.1≠X.env.locals/\p.1 ∉ X.fs/\∀v,p.2.data≠.cell v):AH X pins' Z H s:=
 (I.ok,I.os,I.bare,I.base,I.loc,I.cell,I.free,I.freeC,λp P=>(CV.mp P).elim (λz=>I.pin p<|IS _ z) (h p),I.hok,I.len)
theorem RZ {N:List Str}(q:N.Nodup) {i j:Nat}(a:N[i]?=some x) (b:N[j]?=some x):i=j:=by
 obtain⟨h,e⟩:=BQ.mp a;obtain⟨H,E⟩:=BQ.mp b;exact(HA q).mp (e.trans E.symm)
theorem LF (I:AH X pins Z H s) (hN:X.N.Nodup) (hi:X.N[i]?=some x) (hx:Fg X.env.scope x) (r:RelV v u)
  (h:∀s',AH X pins (Z.set i<|some v) H s' -> (∃a,Heap.SameBut a s.heap s'.heap/\(a=X.env.locals\/X.env.cells.lookup x=some a))->Q () s') (hf:X.fn x=true\/X.env.scope.names.lookup x=some .local:=by sleep 90):wpAny M A (storeName X.env x u) Q E s:=by
 obtain⟨m,V,hl⟩:=id I.loc;have L:(X.env.scope.kind == .class || (X.env.scope.kind == .module && X.env.locals != X.env.globals))=false:=by rw[I.ok.kind];rfl
 have J:i < Z.length:=by rw[I.len];exact(BQ.mp hi).1
 have l:=I.cne;have t:∀{a:Addr}{D:Heap},(∃o,s.heap.get? a=some o/\H a=none)->Heap.SameBut a s.heap D -> HOk X.prog X.w H D:=λ{a D} ha S b ob e=>by
  obtain⟨_,_,R⟩:=ha;refine(I.hok b ob e).stay (λc W C q=>(S.2 c ?_).trans q) (λ_ q=>q) λ_ _ q=>q;rintro rfl;rcases C with rfl|C
  ·exists 0,R,e
  ·exists 0,R,C
 rcases hx with K|K
 ·refine wpAny_storeName_local K V (λD Y S=>?_) L
  obtain⟨oL,_,_,a0,_⟩:=id V;refine h _ (I.ok,I.os,I.bare,(λb o e n B hx=>?_,λb o e n B hx=>?_,I.base.free,λb o e hx=>?_,I.base.tups,I.base.frzs,I.base.tbls),(_,Y,λj y v' f g U=>?_),λy c e=>?_,I.free,I.freeC,λp hp=>?_,t (oL,a0,I.free) S,by simpa using I.len) (_,S,.inl rfl)
  ·exact(S.2 b<|BN<|Ct (A4 e) I.ok.above).trans (I.base.keep b o e n B hx)
  ·obtain⟨sl,f⟩:=I.base.slot b o e n B hx
   exact(sl,(S.2 b<|BN<|Ct (A4 e) I.ok.above).trans f)
  ·obtain⟨o',f⟩:=I.base.there b o e hx
   exact(o',(S.2 b<|BN<|Ct (A4 e) I.ok.above).trans f)
  ·by_cases hj:j=i
   ·subst hj
    exists 0,hi,f;rw[CT J]at g;cases g;exact(u,r,.inl (K,#[3]))
   ·rw[Cg (Ne.symm hj)]at g
    obtain⟨u',r',q⟩:=hl j y v' f g U;refine(u',r',?_);rcases q with ⟨k,e⟩|⟨k,c,e,z⟩
    ·refine .inl (k,?_)
     have:y≠x:=λe=>hj<|RZ hN f (e ▸ hi);simp[this,e]
    ·exact .inr (k,c,e,z.sameBut S<|l y c e)
  ·obtain⟨W,z⟩:=I.cell y c e
   exact(W,z.sameBut S<|l y c e)
  ·obtain⟨e,n,ne,nf,d⟩:=I.pin p hp
   exact((S.2 p.1 ne).trans e,n,ne,nf,d)
 ·have F:X.fn x=true:=by
   rcases hf with z|z
   ·exact z
   ·exists 0,z,K
  obtain⟨c,C⟩:=I.ok.has x (.inl K);obtain⟨W,z⟩:=I.cell x c C;refine wpAny_storeName_cell I.ok.kind K C z λD G S=>?_;obtain⟨oc,O,P⟩:=id z;refine h { s with heap:=D } (I.ok,I.os,I.bare,(λb o e n B hx=>?_,λb o e n B hx=>?_,I.base.free,λb o e hx=>?_,I.base.tups,I.base.frzs,I.base.tbls),(m,V.sameBut S<|Ne.symm<|l x c C,λj y v' f g U=>?_),λy T e=>?_,I.free,I.freeC,λp hp=>?_,t (oc,O,I.freeC x c C) S,by simpa using I.len) (c,S,.inr C)
  ·exact(S.2 b<|BN<|Ct (A4 e)<|I.ok.cab x c F C).trans (I.base.keep b o e n B hx)
  ·obtain⟨sl,f⟩:=I.base.slot b o e n B hx
   exact(sl,(S.2 b<|BN<|Ct (A4 e)<|I.ok.cab x c F C).trans f)
  ·obtain⟨o',f⟩:=I.base.there b o e hx
   exact(o',(S.2 b<|BN<|Ct (A4 e)<|I.ok.cab x c F C).trans f)
  ·by_cases hj:j=i
   ·subst hj
    exists 0,hi,f;rw[CT J]at g;cases g;exact(u,r,.inr (.inl K,c,C,G))
   ·rw[Cg (Ne.symm hj)]at g
    obtain⟨u',r',q⟩:=hl j y v' f g U;refine(u',r',?_);rcases q with q|⟨k,T,e,z'⟩
    ·exact .inl q
    ·refine .inr (k,T,e,z'.sameBut S ?_)
     rintro rfl;exact hj<|RZ hN f (I.ok.inj _ _ _ e C ▸ hi)
  ·by_cases hcc:T=c
   ·subst hcc;exact(_,G)
   ·obtain⟨w2,z2⟩:=I.cell y T e
    exact(w2,z2.sameBut S hcc)
  ·obtain⟨e,n,ne,nf,d⟩:=I.pin p hp
   refine((S.2 p.1 ?_).trans e,n,ne,nf,d);intro q;rw[q,O]at e;have q':oc=p.2:=CL.inj e;exact d W (by rw[<- q'];exact P)
theorem JQ (I:AH X pins Z H s) (j:X.N.Nodup) (hi:X.N[i]?=some x) (q:Fg X.env.scope x) (r:RelV v u)
  (h:∀s',AH X pins (Z.set i<|some v) H s' -> Q () s') (hf:X.fn x=true\/X.env.scope.names.lookup x=some .local:=by sleep 90):wpAny M A (storeName X.env x u) Q E s:=
 LF I j hi q r (λs' a _=>h s' a) hf
theorem AH.call' (I:AH X pins Z H s) (ho:s'.os=s.os) (u:Un (frs X.stack) ch H H' s.heap s'.heap) (O:HOk X.prog X.w H' s'.heap) (q:AllBare s'.gens)
  (j:∀b∈ch,(b∈X.ex\/X.s₀.heap.objs.size<=b)/\b≠X.env.locals/\(∀x c,X.env.cells.lookup x=some c->c≠b)/\∀p∈X.pn++pins,p.1≠b):AH X pins Z H' s':=by
 obtain⟨h,g',d',t',o⟩:=s';have e:o=s.os:=ho;subst e;exact I.call (g':=g') (t':=t') (d':=d') u O q j
end
abbrev XK:=Value->Option Addr->Hp->Prop
abbrev St:=List<|Option V
abbrev VK:=V->Hp->Prop
abbrev TE:=St->Hp->VK->Prop
abbrev TT:=St->Hp->(Bool->Hp->Prop)->Prop
abbrev TA:=St->Hp->(List V->Hp->Prop)->Prop
structure Ends where
 nx:St->Hp->Prop
 rt:VK
 bk:St->Hp->Prop:=λ_ _=>False
 ct:St->Hp->Prop:=λ_ _=>False
abbrev TS:=Ends->St->Hp->Prop
def EP (X:Cx) (pins:Ax) (Z:St) (Q:VK) (u:Value) (s':Shared):Prop:=∃v H',AH X pins Z H' s' /\ RelV v u/\Q v H'
def TP (X:Cx) (pins:Ax) (Z:St) (Q:Bool->Hp->Prop) (b:Bool) (s':Shared):Prop:=∃H',AH X pins Z H' s' /\ Q b H'
def AP (X:Cx) (pins:Ax) (Z:St) (Q:List V->Hp->Prop) (us:List Value) (s':Shared):Prop:=∃vs H',AH X pins Z H' s' /\ Vals vs us/\Q vs H'
def SP (X:Cx) (pins:Ax) (D:Ends) (f:Flow) (s':Shared):Prop:=
 match f with
 |.next=>∃Z' H',AH X pins Z' H' s' /\ D.nx Z' H'
 |.brk=>∃Z' H',AH X pins Z' H' s' /\ D.bk Z' H'
 |.cont=>∃Z' H',AH X pins Z' H' s' /\ D.ct Z' H'
 |.ret u=>∃v Z' H',AH X pins Z' H' s' /\ RelV v u/\D.rt v H'
def PE (X:Cx) (e:Expr) (t:TE):Prop:=
 ∀(pins:Ax) (s:Shared) (Z:St) (H:Hp) (Q:VK),AH X pins Z H s->t Z H Q->wpAny (model X.prog X.w) X.A (eval e X.env) (EP X pins Z Q) X.xe s
def PT (X:Cx) (e:Expr) (t:TT):Prop:=
 ∀(pins:Ax) (s:Shared) (Z:St) (H:Hp) (Q:Bool->Hp->Prop),AH X pins Z H s->t Z H Q->wpAny (model X.prog X.w) X.A (isTrue e X.env<|eval e X.env) (TP X pins Z Q) X.xe s
def PW (X:Cx) (e:Expr) (t:TT):Prop:=
 ∀(whole:Sem Value) (pins:Ax) (s:Shared) (Z:St) (H:Hp) (Q:Bool->Hp->Prop),AH X pins Z H s->t Z H Q->wpAny (model X.prog X.w) X.A (isTrue e X.env whole) (TP X pins Z Q) X.xe s
theorem PW.pt (h:PW X e t):PT X e t:=h _
def PA (X:Cx) (es:List Expr) (t:TA):Prop:=
 ∀(pos:Pos) (pins:Ax) (s:Shared) (Z:St) (H:Hp) (Q:List V->Hp->Prop),AH X pins Z H s->t Z H Q->wpAny (model X.prog X.w) X.A (spliced<|backTo pos<|starEach es X.env) (AP X pins Z Q) X.xe s
def PS (X:Cx) (st:Stmt) (t:TS):Prop:=
 ∀(pins:Ax) (s:Shared) (Z:St) (H:Hp) (D:Ends),AH X pins Z H s->t D Z H->wpAny (model X.prog X.w) X.A (exec st X.env) (SP X pins D) X.xe s
def PSs (X:Cx) (st:List Stmt) (t:TS):Prop:=
 ∀(pins:Ax) (s:Shared) (Z:St) (H:Hp) (D:Ends),AH X pins Z H s->t D Z H->wpAny (model X.prog X.w) X.A (execs st X.env) (SP X pins D) X.xe s
theorem thn (h:wpAny M A t Q E s) (q:∀a s,Q a s->Q' a s):wpAny M A t Q' E s:=D2 h q λ_ _ x=>x
#check 0
def tVar (i:Nat):TE:=λZ H Q=>∃v,Z[i]?=some (some v)/\Q v H
def tC (v:V):TE:=λ_ H Q=>Q v H
theorem VH (z:X.N[i]?=some x) (B:Jx X.env.scope x) (q:(x == ("__debug__":Str))=false:=by decide) (j:(x == ("__classdict__":Str))=false:=by decide):PE X (.Name x pos) (tVar i):=by
 intro pins s Z H Q I h;obtain⟨v,e,h⟩:=h;obtain⟨m,b,a⟩:=I.loc;obtain⟨u,r,l⟩:=a i x v z e B;have n:EP X pins Z Q u s:=(v,H,I,r,h);rcases l with ⟨k,M⟩|⟨k,c,C,L⟩
 ·exact wpAny_Name (wpAny_loadName_local I.ok.kind k b M n) q
 ·rcases k with k|k
  ·exact wpAny_Name (wpAny_loadName_cell I.ok.kind k C L n) q
  ·exact wpAny_Name (wpAny_loadName_free I.ok.kind k C L n j) q
theorem AG {i j pos}:PE X (.Constant (.int i) j pos) (tC (.int i)):=λ_ _ _ H _ I h=>wpAny_Constant_int (.int i,H,I.tok _,(_,rfl),h)
theorem Gh {b j pos}:PE X (.Constant (.bool b) j pos) (tC (.bl b)):=λ_ _ _ H _ I h=>Constant_bool (.bl b,H,I,rfl,h)
theorem OH {x j pos}:PE X (.Constant (.str x) j pos) (tC (.str x)):=λ_ _ _ H _ I h=>Calls.Constant_str (.str x,H,I.tok _,(_,rfl),h)
def Gl (X:Cx) (x:Str):Prop:=X.env.kindOf x=some .globalImplicit
theorem SX (I:AH X pins Z H s) (q:Gl X x) (hm:X.mg x=some u) (h:Q u s)
  (j:(x == ("__debug__":Str))=false:=by decide):wpAny (model X.prog X.w) X.A (eval (.Name x pos) X.env) Q E s:=
 Calls.Name_function_global I.ok.kind q (Calls.loadGlobal_global (by rw[I.ok.glob];exact I.mod.glob.keeps I.bk) hm h) j
theorem EJ (I:AH X pins Z H s) (q:Gl X x) (hm:X.mg x=none) (B:bootBuiltins x=some u) (h:Q u s)
  (z:x ≠ "__name__":=by decide) (j:(x == ("__debug__":Str))=false:=by decide):wpAny (model X.prog X.w) X.A (eval (.Name x pos) X.env) Q E s:=by
 obtain⟨m,a,b⟩:=I.mod.blt;exact Calls.Name_function_global I.ok.kind q (Calls.loadGlobal_builtin (by rw[I.ok.glob];exact I.mod.glob.keeps I.bk) hm (by rw[I.ok.blt];exact a.keeps I.bk) ((b x z).trans B) h) j
theorem UR (q:Gl X x) (hm:X.mg x=some u) (r:RelV v u) (j:(x == ("__debug__":Str))=false:=by decide):PE X (.Name x pos) (tC v):=
 λ_ _ _ H _ I h=>SX I q hm (v,H,I,r,h) j
theorem EC (q:Gl X x) (hm:X.mg x=none) (B:bootBuiltins x=some u) (r:RelV v u) (z:x ≠ "__name__":=by decide) (j:(x == ("__debug__":Str))=false:=by decide):PE X (.Name x pos) (tC v):=
 λ_ _ _ H _ I h=>EJ I q hm B (v,H,I,r,h) z j
variable {a b:Expr}{ta tb:TE}{pos:Pos}
variable {tA tB':TT}{rest:List Expr}
def tAnd (t u:TT):TT:=λZ H Q=>t Z H λc h=>if c=true then u Z h Q else Q false h
def tOr (t u:TT):TT:=λZ H Q=>t Z H λc h=>if c=true then Q true h else u Z h Q
def tNot (t:TT):TT:=λZ H Q=>t Z H λc h=>Q (!c) h
theorem pw_and1 (j:PT X a tA):PW X (.BoolOp .And [a] pos) tA:=by
 intro wh pins s Z H Q I h;refine isTrue_and (thn (j pins s Z H Q I h) λc S e=>?_);cases c with
 |true=>exact isTrue_and_nil e
 |false=>exact e
theorem pw_or1 (j:PT X a tA):PW X (.BoolOp .Or [a] pos) tA:=by
 intro wh pins s Z H Q I h;refine isTrue_or (thn (j pins s Z H Q I h) λc S e=>?_);cases c with
 |false=>exact isTrue_or_nil e
 |true=>exact e
theorem pw_and (j:PT X a tA) (B:PW X (.BoolOp .And (b::rest) pos) tB'):PW X (.BoolOp .And (a::b::rest) pos) (tAnd tA tB'):=by
 intro wh pins s Z H Q I h;refine isTrue_and (thn (j pins s Z H _ I h) λc s1 (H1,I1,q1)=>?_);cases c with
 |true=>exact B wh pins s1 Z H1 Q I1 q1
 |false=>exact(H1,I1,q1)
theorem pw_or (j:PT X a tA) (B:PW X (.BoolOp .Or (b::rest) pos) tB'):PW X (.BoolOp .Or (a::b::rest) pos) (tOr tA tB'):=by
 intro wh pins s Z H Q I h;refine isTrue_or (thn (j pins s Z H _ I h) λc s1 (H1,I1,q1)=>?_);cases c with
 |true=>exact(H1,I1,q1)
 |false=>exact B wh pins s1 Z H1 Q I1 q1
theorem Jm (j:PT X a tA):PT X (.UnaryOp .Not a pos) (tNot tA):=by
 intro pins s Z H Q I h;exact isTrue_not<|j pins s Z H (λc b=>Q (!c) b) I h
def tAndV (ta tb:TE):TE:=λZ H Q=>ta Z H λx h=>∃c,x=.bl c/\if c=true then tb Z h Q else Q (.bl false) h
theorem VV {op} (h:PE X a t):PE X (.BoolOp op [a] pos) t:=λn s Z H Q I w=>BoolOp_one<|h n s Z H Q I w
theorem VF (j:PE X a ta) (B:PE X (.BoolOp .And (b::rest) pos) tb):PE X (.BoolOp .And (a::b::rest) pos) (tAndV ta tb):=by
 intro pins s Z H Q I h;refine BoolOp_and (thn (j pins s Z H _ I h) λv s1 (x,H1,I1,r1,q)=>?_);obtain⟨c,rfl,q⟩:=q;cases r1;refine wpAny_truthy_bool ?_;cases c with
 |true=>exact B pins s1 Z H1 Q I1 q
 |false=>exact(.bl false,H1,I1,rfl,q)
def tIf (t:TT) (ta tb:TE):TE:=λZ H Q=>t Z H λc h=>if c=true then ta Z h Q else tb Z h Q
theorem Ng (q:PT X c tA) (j:PE X a ta) (B:PE X b tb):PE X (.IfExp c a b pos) (tIf tA ta tb):=by
 intro pins s Z H Q I h;refine wpAny_IfExp (thn (q pins s Z H _ I h) λd s1 (H1,I1,q1)=>?_);cases d with
 |true=>exact j pins s1 Z H1 Q I1 q1
 |false=>exact B pins s1 Z H1 Q I1 q1
end
def SqL (K:W.Frag) (H:Hp) (a:Addr) (xs:List V):Prop:=
 Rd H a (.lst xs) \/
  ∃(o:Obj) (its:Array Value) (n:Nat),K.lookup a=some o/\o.cls=.type "list" /\ o.dict=none/\o.data=.seq its n/\its.size<=sizeLine/\Vals xs its.toList
def SqT (K:W.Frag) (H:Hp) (a:Addr) (xs:List V):Prop:=
 Rd H a (.tup xs) \/
  ∃(o:Obj) (its:Array Value) (n:Nat),K.lookup a=some o/\o.cls=.type "tuple" /\ o.data=.seq its n/\its.size<=sizeLine/\Vals xs its.toList
def absV:Value->Option V
 |.none=>some .non
 |.bool b=>some (.bl b)
 |.int i _=>some (.int i)
 |.str x _=>some (.str x)
 |.bytes b _=>some (.byt b)
 |.float b _=>some (.flt b)
 |.ref a=>some (.ref a)
 |.type n=>some (.ty n)
 |_=>none
theorem RelV.abs (r:RelV x u):absV u=some x:=by
 cases x with
 |non=>cases r;rfl
 |bl _=>cases r;rfl
 |int _=>obtain⟨t,rfl⟩:=r;rfl
 |str _=>obtain⟨t,rfl⟩:=r;rfl
 |byt _=>obtain⟨t,rfl⟩:=r;rfl
 |flt _=>obtain⟨t,rfl⟩:=r;rfl
 |ref _=>cases r;rfl
 |ty _=>cases r;rfl
theorem RelV.inj (r:RelV x u) (q:RelV y u):x=y:=CL.inj<|r.abs.symm.trans q.abs
theorem Vals.inj:∀{xs ys:List V}{us:List Value},Vals xs us->Vals ys us->xs=ys
 |_,_,_,.nil,.nil=>rfl
 |_,_,_,.cons r t,.cons r' t'=>by rw[r.inj r',Vals.inj t t']
section
variable {X:Cx}{pins:Ax}{Z:St}{H:Hp}{s:Shared}{a:Addr}{xs ys:List V}
theorem SqL.of {K:W.Frag}(h:H a=some (.lst xs)):SqL K H a xs:=.inl (.inl h)
theorem SqT.of {K:W.Frag}(h:H a=some (.tup xs)):SqT K H a xs:=.inl (.inl h)
theorem AH.list (I:AH X pins Z H s) (h:SqL X.K H a xs):∃its:List Value,Vals xs its/\PlainL s.heap a its.toArray/\xs.length<=sizeLine:=by
 rcases h with h|⟨o,its,n,k,c,d,S,b,r⟩
 ·obtain⟨z,its,n,r,e⟩:=h.ok I.hok
  exact(its,r,(_,n,e,rfl,rfl,rfl),z)
 ·refine(its.toList,r,(o,n,I.kIn a o k,c,d,by simpa using S),?_)
  have e:=r.length;simp only[Array.length_toList]at e;lia
theorem AH.tuple (I:AH X pins Z H s) (h:SqT X.K H a xs):∃its:List Value,Vals xs its/\IsTup s.heap a its.toArray/\xs.length<=sizeLine:=by
 rcases h with h|⟨o,its,n,k,c,S,b,r⟩
 ·obtain⟨z,its,r,p⟩:=h.ok I.hok
  exact(its,r,p.tup,z)
 ·refine(its.toList,r,(o,I.kIn a o k,c,n,by simpa using S),?_)
  have e:=r.length;simp only[Array.length_toList]at e;omega
theorem AH.list_inj (I:AH X pins Z H s) (h:SqL X.K H a xs) (h':SqL X.K H a ys):xs=ys:=by
 obtain⟨i,r,⟨o,n,e,_,_,d⟩,_⟩:=I.list h;obtain⟨t,R,⟨O,N,E,_,_,D⟩,_⟩:=I.list h';exists 0,e,E;rw[d]at D;injection D with d1 _
 have:i=t:=by simpa using congrArg Array.toList d1
 subst this;exact r.inj R
theorem AH.tuple_inj (I:AH X pins Z H s) (h:SqT X.K H a xs) (h':SqT X.K H a ys):xs=ys:=by
 obtain⟨i,r,⟨o,e,_,n,d⟩,_⟩:=I.tuple h;obtain⟨t,R,⟨O,E,_,N,D⟩,_⟩:=I.tuple h';exists 0,e,E;rw[d]at D;injection D with d1 _
 have:i=t:=by simpa using congrArg Array.toList d1
 subst this;exact r.inj R
end
abbrev Cx.wish (X:Cx) (E:Au):Cx:={ X with xe:=E }
abbrev Cx.nox (X:Cx):Cx:=X.wish λ_ _=>False
theorem Cx.Ok.wish {X:Cx}(O:X.Ok) (E:Au):(X.wish E).Ok:=
 (O.mod,O.kind,O.glob,O.blt,O.above,O.inj,O.has,O.cab,O.hd,O.frames,O.stk,O.exf,O.bs,O.bsz,O.noex,O.exfs,O.funs,O.frf)
theorem Cx.Ok.unwish {X:Cx}(O:(X.wish E).Ok):X.Ok:=
 (O.mod,O.kind,O.glob,O.blt,O.above,O.inj,O.has,O.cab,O.hd,O.frames,O.stk,O.exf,O.bs,O.bsz,O.noex,O.exfs,O.funs,O.frf)
section
variable {X:Cx}{pins:Ax}{Z:St}{H:Hp}{s:Shared}{E:Au}
theorem AH.wish (I:AH X pins Z H s) (E:Au):AH (X.wish E) pins Z H s:=(I.ok.wish E,I.os,I.bare,I.base,I.loc,I.cell,I.free,I.freeC,I.pin,I.hok,I.len)
theorem AH.unwish (I:AH (X.wish E) pins Z H s):AH X pins Z H s:=(I.ok.unwish,I.os,I.bare,I.base,I.loc,I.cell,I.free,I.freeC,I.pin,I.hok,I.len)
theorem SP.unwish (h:SP (X.wish E) pins D f s'):SP X pins D f s':=by
 cases f with
 |next=>obtain⟨Z,H,I,q⟩:=h;exact(Z,H,I.unwish,q)
 |brk=>obtain⟨Z,H,I,q⟩:=h;exact(Z,H,I.unwish,q)
 |cont=>obtain⟨Z,H,I,q⟩:=h;exact(Z,H,I.unwish,q)
 |ret u=>obtain⟨v,Z,H,I,r,q⟩:=h;exact(v,Z,H,I.unwish,r,q)
theorem PSs.nox {st:List Stmt}(h:PSs X.nox st t):PSs X st t:=λn s Z H D I w=>
 D2 (h n s Z H D (I.wish _) w) (λ_ _ q=>q.unwish) λ_ _ z=>False.elim z
end
section
variable {X:Cx}{st:Stmt}{rest:List Stmt}{t u:TS}{e:Expr}{te:TE}{pos:Pos}
def tNext:TS:=λD Z H=>D.nx Z H
def tSeq (t u:TS):TS:=λD Z H=>t { D with nx:=u D } Z H
theorem CM:PSs X [] tNext:=λ_ _ Z H _ I h=>wpAny_execs_nil (Z,H,I,h)
theorem AR (h1:PS X st t) (h2:PSs X rest u):PSs X (st::rest) (tSeq t u):=by
 intro pins s Z H D I h;refine wpAny_execs_cons (thn (h1 pins s Z H { D with nx:=u D } I h) λf S q=>?_);cases f with
 |next=>
  obtain⟨z,a,i,q⟩:=q;exact h2 pins S z a D i q
 |ret v=>exact q
 |brk=>exact q
 |cont=>exact q
theorem AY (h1:PS X st t):PSs X [st] t:=by
 intro pins s Z H D I h;refine wpAny_execs_cons (thn (h1 pins s Z H D I h) λf S q=>?_);cases f with
 |next=>exact wpAny_execs_nil q
 |ret v=>exact q
 |brk=>exact q
 |cont=>exact q
theorem AH.quiet (I:AH X pins Z H s):interactive X.env=false:=by simp[interactive,I.ok.kind]
def tDrop (te:TE):TS:=λD Z H=>te Z H λ_ h=>D.nx Z h
theorem CW (j:PE X e te) (hs:swapsWith e none pos.line X.env=pure false:=by rfl):PS X (.Expr e pos) (tDrop te):=by
 intro pins s Z H D I h;exact wpAny_Expr_any (thn (j pins s Z H _ I h) λv s1 (x,H1,I1,r1,q1)=>(Z,H1,I1,q1)) I.quiet hs
def tRet (te:TE):TS:=λD Z H=>te Z H D.rt
theorem BF (j:PE X e te):PS X (.Return (some e) pos) (tRet te):=by
 intro pins s Z H D I h;exact wpAny_Return_some (thn (j pins s Z H _ I h) λv s1 (x,H1,I1,r1,q1)=>(x,Z,H1,I1,r1,q1))
def tIfS (c:TT) (t u:TS):TS:=λD Z H=>c Z H λb h=>if b=true then t D Z h else u D Z h
theorem CF (q:PT X c tc) (j:PSs X a t) (B:PSs X b u):PS X (.If c a b pos) (tIfS tc t u):=by
 intro pins s Z H D I h;refine wpAny_If (thn (q pins s Z H _ I h) λd s1 (H1,I1,q1)=>?_);cases d with
 |true=>exact j pins s1 Z H1 D I1 q1
 |false=>exact B pins s1 Z H1 D I1 q1
def tNever:TS:=λ_ _ _=>False
theorem Ztv:PSs X sts tNever:=λ_ _ _ _ _ _ h=>h.elim
end
abbrev TG:=V->St->Hp->(St->Hp->Prop)->Prop
abbrev TGs:=List V->St->Hp->(St->Hp->Prop)->Prop
def PG (X:Cx) (j:Expr) (t:TG):Prop:=
 ∀(pins:Ax) (s:Shared) (Z:St) (H:Hp) (v:V) (u:Value) (Q:St->Hp->Prop),AH X pins Z H s->RelV v u->t v Z H Q ->
  wpAny (model X.prog X.w) X.A (assign j X.env u) (λ_ S=>∃Z' H',AH X pins Z' H' S /\ Q Z' H') X.xe s
def PGs (X:Cx) (ts:List Expr) (t:TGs):Prop:=
 ∀(pins:Ax) (s:Shared) (Z:St) (H:Hp) (vs:List V) (us:List Value) (Q:St->Hp->Prop),AH X pins Z H s->Vals vs us->t vs Z H Q ->
  wpAny (model X.prog X.w) X.A (assignInOrder ((assignEach ts X.env).map (·.2)) us) (λ_ S=>∃Z' H',AH X pins Z' H' S /\ Q Z' H') X.xe s
abbrev TSet:=V->V->V->Hp->(Hp->Prop)->Prop
def PSet (X:Cx) (t:TSet):Prop:=
 ∀(pins:Ax) (s:Shared) (Z:St) (H:Hp) (o i v:V) (ov iv u:Value) (Q:Hp->Prop),AH X pins Z H s->RelV o ov->RelV i iv->RelV v u->t o i v H Q ->
  wpAny (model X.prog X.w) X.A (setItem ov iv u) (λ_ S=>∃H',AH X pins Z H' S /\ Q H') X.xe s
abbrev TIp:=V->V->Hp->VK->Prop
def PIp (X:Cx) (op:Operator) (t:TIp):Prop:=
 ∀(pins:Ax) (s:Shared) (Z:St) (H:Hp) (x y:V) (v u:Value) (Q:VK),AH X pins Z H s->RelV x v->RelV y u->t x y H Q ->
  wpAny (model X.prog X.w) X.A (inplaceOp op v u) (EP X pins Z Q) X.xe s
section
variable {X:Cx}{pos:Pos}
def gName (i:Nat):TG:=λv Z H Q=>Q (Z.set i<|some v) H
theorem Ao (j:X.N.Nodup) (hi:X.N[i]?=some x) (q:Fg X.env.scope x) (hf:X.fn x=true\/X.env.scope.names.lookup x=some .local:=by sleep 90):PG X (.Name x pos) (gName i):=by
 intro pins s Z H v u Q I r h;exact wpAny_assign_Name<|JQ I j hi q r (λS a=>(_,H,a,h)) hf
def gNil:TGs:=λs Z H Q=>s=[]/\Q Z H
def gCons (t:TG) (u:TGs):TGs:=λs Z H Q=>∃v r,s=v::r/\t v Z H λz h=>u r z h Q
theorem Dy:PGs X [] gNil:=by
 intro pins s Z H vs us Q I r h;obtain⟨e,h⟩:=h;subst e;cases r;exact assignInOrder_nil (Z,H,I,h)
theorem B8 (h1:PG X e t) (h2:PGs X es u)
  (hs:(assignEach (e::es) X.env).map (·.2)=assign e X.env::(assignEach es X.env).map (·.2):=by rfl):PGs X (e::es) (gCons t u):=by
 intro pins s Z H vs us Q I r h;obtain⟨v,R,E,h⟩:=h;subst E;cases r with
 |cons r rr=>
  rw[hs];refine assignInOrder_cons (thn (h1 pins s Z H _ _ _ I r h) λ_ s1 (Z1,H1,I1,q1)=>?_);exact h2 pins s1 Z1 H1 _ _ Q I1 rr q1
def gTup (K:W.Frag) (n:Nat) (t:TGs):TG:=λv Z H Q=>∃a xs,v=.ref a/\SqT K H a xs/\xs.length=n/\t xs Z H Q
theorem Vd (hc:X.calm=true) (h:PGs X es t)
  (hn:(assignEach es X.env).length=n:=by rfl) (hst:(assignEach es X.env).findIdx? (·.1)=none:=by rfl):PG X (.Tuple es k pos) (gTup X.K n t):=by
 intro pins s Z H v u Q I r w;obtain⟨a,d,E,q,l,w⟩:=w;subst E;cases r;obtain⟨S,V,T,z⟩:=I.tuple q;refine assign_Tuple_tuple (I.ok.hd hc) T (by simp[hn,<- l,V.length]) hst λc x=>?_;have i:AH X pins Z H { s with heap:=c }:=I.kept (t':=s.toks) λb o e=>x b o (BN<|A4 e) e;exact h pins _ Z H d _ Q i (by simpa using V) w
def gSub (to j:TE) (t:TSet):TG:=λv Z H Q=>to Z H λo h=>j Z h λi a=>t o i v a λb=>Q Z b
theorem E7 {o i:Expr}{to ti:TE}{t:TSet}(ho:PE X o to) (hi:PE X i ti) (hs:PSet X t)
  (ha:∀v,assign (.Subscript o i pos) X.env v=(do
   let ov <- holding [v] (eval o X.env)
   let iv <- holding [v,ov] (eval i X.env)
   standAt pos
   holding [v,ov,iv] (setItem ov iv v)
   release [v,ov,iv] []):=by intro _;rfl):PG X (.Subscript o i pos) (gSub to ti t):=by
 intro pins s Z H v u Q I r h;rw[ha];refine AB<|CO (thn (ho pins s Z H _ I h) λov s1 (x,H1,I1,r1,q1)=>?_);refine AB<|CO (thn (hi pins s1 Z H1 _ I1 q1) λiv s2 (y,H2,I2,r2,q2)=>?_);refine AB<|EL<|AB<|CO (thn (hs pins s2 Z H2 x y v ov iv u _ I2 r1 r2 r q2) λ_ s3 (H3,I3,q3)=>?_);exact wpAny_release (Z,H3,I3,q3)
def tAsg (te:TE) (g:TG):TS:=λD Z H=>te Z H λx h=>g x Z h D.nx
theorem DI (j:PE X e te) (z:PG X tg g) (hs:swapsWithSole [tg] e pos.line X.env=pure false:=by rfl) (B:swappedStores [tg] e X.env=pure none:=by rfl)
  (h1:(assignEach [tg] X.env).map (·.2)=[assign tg X.env]:=by rfl):PS X (.Assign [tg] e pos) (tAsg te g):=by
 intro pins s Z H D I h;refine wpAny_Assign_stores (thn (j pins s Z H _ I h) λv s1 (x,H1,I1,r1,q1)=>?_) hs B;rw[h1];exact thn (z pins s1 Z H1 x v _ I1 r1 q1) λ_ S q=>q
theorem Aj {i:Nat}{x:Str}{e:Expr}{te:TE}{O:Pos}(j:X.N.Nodup) (hi:X.N[i]?=some x) (z:Fg X.env.scope x) (q:PE X e te) (hs:swapsWith e (some (.Name x O)) pos.line X.env=pure false:=by rfl) (hf:X.fn x=true\/X.env.scope.names.lookup x=some .local:=by sleep 90) :
  PS X (.Assign [.Name x O] e pos) (tAsg te<|gName i):=by
 intro pins s Z H D I h;refine wpAny_Assign_Name (thn (q pins s Z H _ I h) λv s1 (y,H1,I1,r1,q1)=>?_) hs;exact JQ I1 j hi z r1 (λS a=>(_,H1,a,q1)) hf
def tPar (i j:Nat) (ta:TA):TS:=λD Z H=>ta Z H λs h=>∃v w,s=[v,w]/\D.nx ((Z.set i<|some v).set j (some w)) h
theorem OP {i j:Nat}{x y:Str}{a b:Expr}{ta:TA}{px py pt:Pos}{kt k2 pt2} (hc:X.calm=true) (hN:X.N.Nodup) (hi:X.N[i]?=some x) (hj:X.N[j]?=some y) (hij:i≠j)
  (hx:X.env.scope.names.lookup x=some .local) (hy:X.env.scope.names.lookup y=some .local) (ha:PA X [a,b] ta)
  (hw:swappedStores [.Tuple [.Name x px,.Name y py] kt pt] (.Tuple [a,b] k2 pt2) X.env=pure (some [x,y]))
  (hs:swapsWithSole [.Tuple [.Name x px,.Name y py] kt pt] (.Tuple [a,b] k2 pt2) pos.line X.env=pure false:=by rfl) :
  PS X (.Assign [.Tuple [.Name x px,.Name y py] kt pt] (.Tuple [a,b] k2 pt2) pos) (tPar i j ta):=by
 intro pins s Z H D I h;rw[exec_Assign_arm];refine AB<|EL ?_;rw[hs];refine AB<|AL ?_;rw[AK #[0]];refine AB<|Tuple_ (thn (ha _ pins s Z H _ I h) λus s1 (vs,H1,I1,r1,q1)=>?_);obtain⟨v,w,e1,q1⟩:=q1;subst e1;obtain⟨u1,u2,rfl,rv,rw'⟩:∃u1 u2,us=[u1,u2]/\RelV v u1/\RelV w u2:=by
  cases r1 with
  |cons p q=>
   cases q with
   |cons p' q'=>
    cases q';exact(_,_,rfl,p,p')
 refine wpAny_newObj_type ?_ (by show 2<=sizeLine;decide);have I2:AH X pins Z H1 { s1 with heap:=s1.heap.push { cls:=.type "tuple",data:=.seq [u1,u2].toArray } }:=I1.kept (t':=s1.toks) λb o e=>Ap _ e;rw[hw];refine AB<|AL ?_;show wpAny (model X.prog X.w) X.A (do rule "assign.swapped-stores";let items <- unpackItems (.ref s1.heap.objs.size) 2 none;assignInOrder [λv=>bindName X.env y v,λv=>bindName X.env x v] items.reverse;pure Flow.next) _ _ _;refine AB<|Eh<|AB (unpackItems_tuple (items:=#[u1,u2]) (I.ok.hd hc) (IsTup.new s1.heap _) λh' hx'=>?_);have I3:=I2.kept (h':=h') (t':=s1.toks) λb o e=>hx' b o (BN<|A4 e) e;show wpAny _ _ (assignInOrder [λv=>bindName X.env y v,λv=>bindName X.env x v] [u2,u1] >>= λ_=>pure Flow.next) _ _ _;refine AB<|assignInOrder_cons<|wpAny_bindName<|JQ I3 hN hj (.inl hy) rw' (λs2 I4=>?_) (.inr hy);refine assignInOrder_cons<|wpAny_bindName<|JQ I4 hN hi (.inl hx) rv (λs3 I5=>assignInOrder_nil<|AL ?_) (.inr hx);rw[List.set_comm _ _ (Ne.symm hij)]at I5;exact(_,H1,I5,q1)
def tAug (i:Nat) (te:TE) (j:TIp):TS:=λD Z H=>∃x,Z[i]?=some (some x)/\te Z H λy h=>j x y h λz a=>D.nx (Z.set i<|some z) a
theorem Lq {i:Nat}{x:Str}{e:Expr}{te:TE}{op:Operator}{q:TIp}{O:Pos}(B:X.N.Nodup) (hi:X.N[i]?=some x) (j:Fg X.env.scope x) (U:PE X e te) (ho:PIp X op q) (hf:X.fn x=true\/X.env.scope.names.lookup x=some .local:=by sleep 90) :
  PS X (.AugAssign (.Name x O) op e pos) (tAug i te q):=by
 intro pins s Z H D I h;obtain⟨v,E,h⟩:=h;obtain⟨m,n,b⟩:=I.loc;have S:Jx X.env.scope x:=by rcases j with k|k;exact .inl k;exact .inr (.inl k)
 obtain⟨u,r,l⟩:=b i x v hi E S;refine wpAny_AugAssign_Name ?_;have o:wpAny (model X.prog X.w) X.A (eval e X.env) (λw s₂=>wpAny (model X.prog X.w) X.A (inplaceOp op u w) (λr s₃=>wpAny (model X.prog X.w) X.A (storeName X.env x r) (λ_=>SP X pins D .next) X.xe s₃) X.xe s₂) X.xe s:=by
  refine thn (U pins s Z H _ I h) λw s1 (y,H1,I1,r1,q1)=>?_;refine thn (ho pins s1 Z H1 v y u w _ I1 r r1 q1) λz s2 (zv,H2,I2,r2,q2)=>?_;exact JQ I2 B hi j r2 (λd a=>(_,H2,a,q2)) hf
 rcases l with ⟨K,M⟩|⟨K,c,C,L⟩
 ·exact wpAny_loadName_local I.ok.kind K n M o
 ·rcases K with K|K
  ·exact wpAny_loadName_cell I.ok.kind K C L o
  ·rcases j with k|k
   ·have:X.env.scope.names.lookup x=some .free:=K
    rw[k]at this;cases this
   ·have:X.env.scope.names.lookup x=some .free:=K
    rw[k]at this;cases this
def tAugS (to L te:TE) (j:V->V->Hp->VK->Prop) (B:TIp) (q:TSet):TS:=λD Z H=>to Z H λo h=>L Z h λi a=>j o i a λx b=>te Z b λy c=>B x y c λz d=>q o i z d λe=>D.nx Z e
def PGet (X:Cx) (t:V->V->Hp->VK->Prop):Prop:=
 ∀(pins:Ax) (s:Shared) (Z:St) (H:Hp) (o i:V) (ov iv:Value) (Q:VK),AH X pins Z H s->RelV o ov->RelV i iv->t o i H Q ->
  wpAny (model X.prog X.w) X.A (getItem ov iv) (EP X pins Z Q) X.xe s
theorem Zyh (ho:PE X o to) (hi:PE X i ti) (hg:PGet X tget) (he:PE X e te) (hp:PIp X op tip) (hs:PSet X tset)
  (ha:∀ov iv new,augStore i ov iv new=(do holding [new,ov,iv] (setItem ov iv new);release [new,ov,iv] [];pure .next):=by intros;rfl):PS X (.AugAssign (.Subscript o i tpos) op e pos) (tAugS to ti te tget tip tset):=by
 intro pins s Z H D I h;refine wpAny_AugAssign_SubscriptAny (thn (ho pins s Z H _ I h) λov s1 (x1,H1,I1,r1,q1)=>?_) ha;refine thn (hi pins s1 Z H1 _ I1 q1) λiv s2 (x2,H2,I2,r2,q2)=>?_;refine thn (hg pins s2 Z H2 x1 x2 ov iv _ I2 r1 r2 q2) λold s3 (x3,H3,I3,r3,q3)=>?_;refine thn (he pins s3 Z H3 _ I3 q3) λv s4 (x4,H4,I4,r4,q4)=>?_;refine thn (hp pins s4 Z H4 x3 x4 old v _ I4 r3 r4 q4) λnew s5 (x5,H5,I5,r5,q5)=>?_;exact thn (hs pins s5 Z H5 x1 x2 x5 ov iv new _ I5 r1 r2 r5 q5) λ_ s6 (H6,I6,q6)=>(Z,H6,I6,q6)
def ipI (f:Int->Int->Int):TIp:=λx y H Q=>∃i j,x=.int i/\y=.int j/\Q (.int<|f i j) H
theorem U0:PIp X .Add (ipI λi j=>i+j):=by
 intro pins s Z H x y v u Q I r1 r2 h;obtain⟨i,j,e,E,q⟩:=h;subst e;subst E;obtain⟨t,rfl⟩:=r1;obtain⟨T,rfl⟩:=r2;exact iadd_int (.int _,H,I.tok _,(_,rfl),q)
def tWhile (c:TT) (tb:TS):TS:=λD Z H=>∃W:Nat->St->Hp->Prop,(∃m,W m Z H)/\∀m Z H,W m Z H ->
 c Z H λb h=>if b=true then ∃N:St->Hp->Prop,(∀Z' H',N Z' H' -> ∃m',m'<m/\W m' Z' H')/\tb { D with nx:=N,ct:=N,bk:=D.nx } Z h else D.nx Z h
theorem FK (B:PassesOwn (model X.prog X.w) X.A X.env X.xe) (O:PT X c tc) (L:PSs X body tb):PS X (.While c body [] pos) (tWhile tc tb):=by
 intro pins s Z H D I h;obtain⟨W,⟨o,t⟩,r⟩:=h;refine wpAny_While<|codeAny_whileLoop (λn S=>∃Z' H',AH X pins Z' H' S /\ W n Z' H') ?_ o (Z,H,I,t);rintro n p ⟨d,j,l,u⟩;refine wpAny_passesOwn B (thn (O pins p d j _ l<|r n d j u) λb s2 (H2,I2,q)=>?_);cases b with
 |true=>
  obtain⟨N,k,q⟩:=q;rw[AN rfl];refine wpAny_passesOwn B (thn (L pins s2 d H2 _ I2 q) λf x Q=>?_);cases f with
  |next=>
   obtain⟨z,a,i,e⟩:=Q;obtain⟨M,m,g⟩:=k z a e;exact(M,m,z,a,i,g)
  |cont=>
   obtain⟨z,a,i,e⟩:=Q;obtain⟨M,m,g⟩:=k z a e;exact(M,m,z,a,i,g)
  |brk=>exact Q
  |ret v=>exact Q
 |false=>
  rw[AK BV];exact wpAny_execs_nil (d,H2,I2,q)
end
structure It where
 go:Nat->Hp->Prop
 yld:Nat->Hp->V->Hp->Prop
 stop:Nat->Hp->Prop
def FpOk (X:Cx) (pins:Ax) (H:Hp) (b:Addr):Prop:=
 H b=none/\b≠X.env.locals/\b ∉ X.fs/\(b∈X.ex\/X.s₀.heap.objs.size<=b)/\(∀x c,X.env.cells.lookup x=some c->c≠b)/\∀p∈X.pn++pins,p.1≠b
theorem AH.fpOk (I:AH X pins Z H s) (B:s.heap.objs.size<=b) (j:H' b=none):FpOk X pins H' b:=by
 refine(j,El<|Ct I.lt B,I.nofs B,.inr<|Bg I.sz B,λx c e z=>?_,λp h z=>?_)
 ·obtain⟨v,q⟩:=I.cell x c e
  exact absurd (Ct q.lt (by rw[z];exact B))<|EZ _
 ·exact absurd (Ct (A4 (I.pin p h).1) (by rw[z];exact B))<|EZ _
structure TurnG (Cm:Cx->Prop) (P:Program) (w:World) (K:W.Frag) (tg:Expr) (J_:It) (fp:List Addr) (it:Addr) (tn:Nat->Heap->Prop):Prop where
 mem:it∈fp
 obj:∀i h,tn i h->∀b∈fp,∃o,h.get? b=some o/\∀v,o.data≠.cell v
 keep:∀i h h',tn i h->(∀b∈fp,∀o,h.get? b=some o->h'.get? b=some o)->tn i h'
 item:∀(X:Cx),X.prog=P->X.w=w->X.K=K->Cm X->∀(i:Nat) (pins:Ax) (s:Shared) (Z:St) (H:Hp) (E:Au),AH X pins Z H s->(∀b∈fp,FpOk X pins H b)->tn i s.heap->J_.go i H ->
  wpAny (model P w) X.A (pyNext (.ref it)) (λr s1=>∃u,r=some u /\
   wpAny (model P w) X.A (letOwnedTupleGo tg (.ref it) u) (λ_ s2=>∃x H',AH X pins Z H' s2/\RelV x u/\J_.yld i H x H' /\ tn (i+1) s2.heap/\∀b∈fp,H' b=none) E s1) E s
 done:∀(X:Cx),X.prog=P->X.w=w->X.K=K->Cm X->∀(i:Nat) (pins:Ax) (s:Shared) (Z:St) (H:Hp) (E:Au),AH X pins Z H s->(∀b∈fp,FpOk X pins H b)->tn i s.heap->J_.stop i H ->
  wpAny (model P w) X.A (pyNext (.ref it)) (λr s1=>r=none/\AH X pins Z H s1) E s
 self:∀(A:Around) (i:Nat) (s:Shared) (Q:Au) (E:Au),tn i s.heap->Q (.ref it) s->wpAny (model P w) A (pyIter (.ref it)) Q E s
abbrev Turn:=TurnG λX=>X.calm=true
abbrev TI:=St->Hp->(It->Hp->Prop)->Prop
def PIEG (Cm:Cx->Prop) (X:Cx) (pins:Ax) (Z:St) (tg:Expr) (R:It->Hp->Prop) (j:Value) (q:Shared):Prop:=
 ∃(it:Addr) (fp:List Addr) (tn:Nat->Heap->Prop) (J_:It) (H':Hp),j=.ref it/\AH X pins Z H' q/\TurnG Cm X.prog X.w X.K tg J_ fp it tn/\tn 0 q.heap/\(∀b∈fp,FpOk X pins H' b)/\R J_ H'
def PIG (Cm:Cx->Prop) (X:Cx) (tg j:Expr) (q:TI):Prop:=
 ∀(pins:Ax) (s:Shared) (Z:St) (H:Hp) (R:It->Hp->Prop),AH X pins Z H s->q Z H R ->
  wpAny (model X.prog X.w) X.A (eval j X.env) (λv S=>wpAny (model X.prog X.w) X.A (pyIter v) (PIEG Cm X pins Z tg R) X.xe S) X.xe s
abbrev PIE:=PIEG λX=>X.calm=true
abbrev PI:=PIG λX=>X.calm=true
theorem Od (ho:s.heap.get? it=some o) (j:o.cls=.type n) (z:o.data=.fields vs)
  (B:["enumerate","zip","dict_itemiterator","dict_reverseitemiterator","odict_iterator","itertools.zip_longest","itertools.pairwise"].contains n=false) (q:Q () s):wpAny M A (letOwnedTupleGo tg (.ref it) u) Q E s:=by
 unfold letOwnedTupleGo;cases tg <;> first
  |exact AL q
  | (cases u <;> first
      |exact AL q
      | (refine AB (wpAny_load ho ?_)
         rw[j,z];show wpAny M A (if (["enumerate","zip","dict_itemiterator","dict_reverseitemiterator","odict_iterator","itertools.zip_longest","itertools.pairwise"].contains n && vs[0]? == some (rawInt _))=true then _ else _) Q E s;rw[AK (by intro h;rw[B,Er]at h;cases h)];exact AL q))
def Og (K:W.Frag) (a:Addr):It:=
 (λi H=>∃xs x,SqL K H a xs/\xs[i]?=some x,λi H x h=>h=H/\∀xs,SqL K H a xs->xs[i]?=some x,λi H=>∃xs,SqL K H a xs/\xs.length<=i)
def Oh (K:W.Frag) (a:Addr):It:=
 (λi H=>∃xs x,SqT K H a xs/\xs[i]?=some x,λi H x h=>h=H/\∀xs,SqT K H a xs->xs[i]?=some x,λi H=>∃xs,SqT K H a xs/\xs.length<=i)
def Hv (lo:Int) (n:Nat):It:=(λi _=>i<n,λi H x h=>h=H/\x=.int (lo+i),λi _=>n<=i)
theorem Zsv {P:Program}{w:World}{K:W.Frag}{tg:Expr}(a it:Addr):Turn P w K tg (Og K a) [it] it (λi h=>h.IsListIter it a i) where
 mem:=#[3]
 obj:=λi h t b B=>by
  have e:b=it:=#[12]
  subst e;obtain⟨o,e,c,d⟩:=t;exact(o,e,λv z=>by exists 0,d,z)
 keep:=λi h f t k=>t.at λo e=>k it #[3] o e
 item:=by
  intro X hP hw hK hc i pins s Z H E I hf t hg;subst hP hw hK;obtain⟨J,x,q,n⟩:=hg;obtain⟨S,r,p,D⟩:=I.list q;obtain⟨u,U,R⟩:=r.get n;obtain⟨F,g,C,j,l,m⟩:=hf it #[3];refine wpAny_pyNext_list_item t p.isList (x:=u) (by simpa using U) λf T G=>?_;have y:AH X pins Z H { s with heap:=f }:=I.turned (t':=s.toks) (λb o B e=>(G.2 b B).trans e) F g j l m;obtain⟨o,e,c,d⟩:=id T;exact(u,rfl,Od (s:={ s with heap:=f }) e c d #[0] (x,H,y,R,(rfl,λM Y=>by rw[I.list_inj Y q];exact n),T,λb B=>(hf b B).1))
 done:=by
  intro X hP hw hK hc i pins s Z H E I hf t hg;subst hP hw hK;obtain⟨J,q,n⟩:=hg;obtain⟨S,r,p,D⟩:=I.list q;obtain⟨F,g,C,j,l,m⟩:=hf it #[3];have L:=r.length;exact wpAny_pyNext_list_end (I.ok.hd hc) t p.isList (by simp;lia) λf A=>(rfl,I.turned (t':=s.toks) (λb o B e=>A b o B e) F g j l m)
 self:=λ_ _ _ _ _ t h=>wpAny_pyIter_listiter t h
theorem Zpu {P:Program}{w:World}{K:W.Frag}{tg:Expr}(a it:Addr):Turn P w K tg (Oh K a) [it] it (λi h=>h.IsTupleIter it a i) where
 mem:=#[3]
 obj:=λi h t b B=>by
  have e:b=it:=#[12]
  subst e;obtain⟨o,e,c,d⟩:=t;exact(o,e,λv z=>by exists 0,d,z)
 keep:=λi h f t k=>t.at λo e=>k it #[3] o e
 item:=by
  intro X hP hw hK hc i pins s Z H E I hf t hg;subst hP hw hK;obtain⟨J,x,q,n⟩:=hg;obtain⟨S,r,p,D⟩:=I.tuple q;obtain⟨u,U,R⟩:=r.get n;obtain⟨F,g,C,j,l,m⟩:=hf it #[3];refine wpAny_pyNext_tuple_item t (show s.heap.IsTuple a S.toArray from p) (x:=u) (by simpa using U) λf T G=>?_;have y:AH X pins Z H { s with heap:=f }:=I.turned (t':=s.toks) (λb o B e=>(G.2 b B).trans e) F g j l m;obtain⟨o,e,c,d⟩:=id T;exact(u,rfl,Od (s:={ s with heap:=f }) e c d #[0] (x,H,y,R,(rfl,λM Y=>by rw[I.tuple_inj Y q];exact n),T,λb B=>(hf b B).1))
 done:=by
  intro X hP hw hK hc i pins s Z H E I hf t hg;subst hP hw hK;obtain⟨J,q,n⟩:=hg;obtain⟨S,r,p,D⟩:=I.tuple q;obtain⟨F,g,C,j,l,m⟩:=hf it #[3];have L:=r.length;exact wpAny_pyNext_tuple_end (I.ok.hd hc) t (show s.heap.IsTuple a S.toArray from p) (by simp;omega) λf A=>(rfl,I.turned (t':=s.toks) (λb o B e=>A b o B e) F g j l m)
 self:=λ_ _ _ _ _ t h=>wpAny_pyIter_tupleiter t h
theorem Zpv {P:Program}{w:World}{K:W.Frag}{tg:Expr}(it:Addr) (lo:Int) (n:Nat):Turn P w K tg (Hv lo n) [it] it (λi h=>IsRangeIter h it (lo+(i:Nat)*1) ((n:Int)-(i:Nat)) 1) where
 mem:=#[3]
 obj:=λi h T b B=>by
  have e:b=it:=#[12]
  subst e;exact(_,T,λv z=>by
   have r:Data.fields _=Data.cell v:=z;cases r)
 keep:=λi h a T k=>k it #[3] _ T
 item:=by
  intro X hP hw hK hc i pins s Z H E I hf T hg;subst hP hw hK;obtain⟨f,F,p,c,d,g⟩:=hf it #[3];have W:=Walks.range (prog:=X.prog) (w:=X.w) (I.ok.hd hc) it lo 1 n;refine W.item i s _ _ hg T λv a j V S q=>?_;obtain⟨t,rfl⟩:=V;have l:AH X pins Z H { s with heap:=a,toks:=j }:=I.turned (λb o B e=>q b o #[12] e) f F c d g;refine(_,rfl,Od (s:={ s with heap:=a,toks:=j }) (n:="range_iterator") S rfl rfl #[0] (.int<|lo+i,H,l,(t,?_),(rfl,rfl),S,λb B=>(hf b B).1));rw[Int.mul_one]
 done:=by
  intro X hP hw hK hc i pins s Z H E I hf T hg;subst hP hw hK;obtain⟨f,F,p,c,d,g⟩:=hf it #[3];exact wpAny_pyNext_range_end (I.ok.hd hc) T (by have:n<=i:=hg;lia) λa m=>(rfl,I.turned (t':=s.toks) (λb o B e=>m b o B e) f F c d g)
 self:=λ_ _ _ _ _ T h=>wpAny_pyIter_rangeiter T h
section
variable {X:Cx}{tg:Expr}
def iList (K:W.Frag) (tl:TE):TI:=λZ H R=>tl Z H λx h=>∃a,x=.ref a/\(∃xs,SqL K h a xs)/\R (Og K a) h
def iTup (K:W.Frag) (tl:TE):TI:=λZ H R=>tl Z H λx h=>∃a,x=.ref a/\(∃xs,SqT K h a xs)/\R (Oh K a) h
theorem Zze (L:PE X l tl):PI X tg l (iList X.K tl):=by
 intro pins s Z H R I h;refine thn (L pins s Z H _ I h) λv s1 (x,H1,I1,r1,q1)=>?_;obtain⟨a,e,⟨S,Q⟩,q⟩:=q1;subst e;cases r1;obtain⟨t,r,p,z⟩:=I1.list Q;refine wpAny_pyIter_list p.isList ?_;refine(s1.heap.objs.size,[s1.heap.objs.size],_,_,H1,rfl,I1.kept (t':=s1.toks) λb o e=>Ap _ e,Zsv a _,(_,Bn _ rfl,rfl,rfl),λb B=>?_,q);have e:b=s1.heap.objs.size:=#[12]
 subst e;exact I1.fpOk (AU _)<|I1.hok.fresh<|AU _
theorem Up (L:PE X l tl):PI X tg l (iTup X.K tl):=by
 intro pins s Z H R I h;refine thn (L pins s Z H _ I h) λv s1 (x,H1,I1,r1,q1)=>?_;obtain⟨a,e,⟨S,Q⟩,q⟩:=q1;subst e;cases r1;obtain⟨t,r,p,z⟩:=I1.tuple Q;refine wpAny_pyIter_tuple (show s1.heap.IsTuple a t.toArray from p) ?_;refine(s1.heap.objs.size,[s1.heap.objs.size],_,_,H1,rfl,I1.kept (t':=s1.toks) λb o e=>Ap _ e,Zpu a _,(_,Bn _ rfl,rfl,rfl),λb B=>?_,q);have e:b=s1.heap.objs.size:=#[12]
 subst e;exact I1.fpOk (AU _)<|I1.hok.fresh<|AU _
theorem range_it {lo hi:Int}(I:AH X pins Z H s) (h1:-(2 ^ 62)<=lo) (h2:lo<2 ^ 62) (h3:-(2 ^ 62)<=hi) (h4:hi<2 ^ 62)
  (q:R (Hv lo (hi-lo).toNat) H):wpAny (model X.prog X.w) X.A (pyIter (.ref s.heap.objs.size)) (PIE X pins Z tg R) E { s with heap:=s.heap.push { cls:=.type "range",data:=.fields #[.int lo t,.int hi u,.int 1 v] },toks:=tk }:=by
 refine wpAny_pyIter_range (IsRange.new ..) (small_one h1 h2 h3 h4) ?_;have i:AH X pins Z H { s with heap:=s.heap.push { cls:=.type "range",data:=.fields #[.int lo t,.int hi u,.int 1 v] },toks:=tk }:=I.kept λb o e=>Ap _ e;refine((s.heap.push { cls:=.type "range",data:=.fields #[.int lo t,.int hi u,.int 1 v] }).objs.size,[(s.heap.push { cls:=.type "range",data:=.fields #[.int lo t,.int hi u,.int 1 v] }).objs.size],_,_,H,rfl,
  i.kept (t':=tk) λb o e=>Ap _ e,Zpv _ lo (hi-lo).toNat,?_,λb h=>?_,q)
 ·have a:lo+((0:Nat):Int)*1=lo:=by simp
  have c:(((hi-lo).toNat:Nat):Int)-((0:Nat):Int)=Builtin.Range.rangeSize lo hi 1:=by rw[rangeSize_one];split <;> lia
  show IsRangeIter _ _ (lo+((0:Nat):Int)*1) ((((hi-lo).toNat:Nat):Int)-((0:Nat):Int)) 1;rw[a,c];exact Bn _ rfl
 ·have e:b=(s.heap.push { cls:=.type "range",data:=.fields #[.int lo t,.int hi u,.int 1 v] }).objs.size:=by simpa using h
  subst e;exact i.fpOk (AU _)<|i.hok.fresh<|AU _
def iRng1 (ta:TA):TI:=λZ H R=>ta Z H λs h=>∃j:Int,s=[.int j] /\ -(2 ^ 62)<=j/\j<2 ^ 62/\R (Hv 0 j.toNat) h
def iRng2 (ta:TA):TI:=λZ H R=>ta Z H λs h=>∃i j:Int,s=[.int i,.int j]/\(-(2 ^ 62)<=i/\i<2 ^ 62 /\ -(2 ^ 62)<=j/\j<2 ^ 62)/\R (Hv i (j-i).toNat) h
theorem CP (B:Gl X "range") (hm:X.mg "range" = none) (z:PA X [a] ta) (hs:starEach [a] X.env=[(false,eval a X.env)]:=by rfl):PI X tg (.Call (.Name "range" p) [a] [] pos) (iRng1 ta):=by
 intro pins s Z H R I h;refine Call_<|EJ I B hm boot_range<|PyProof.Rows.callWith_type1 (thn (z pos pins s Z H _ I h) λus s1 (vs,H1,I1,r1,Q)=>?_) hs rfl;obtain⟨j,e,Q,b,q⟩:=Q;subst e;cases r1 with
 |cons r rr=>
  cases rr;obtain⟨t,rfl⟩:=r;exact call_range_1<|range_it I1 #[2] #[2] Q b (by simpa using q)
theorem NZ {a b:Expr}{ta:TA}{p pos:Pos}(L:Gl X "range") (hm:X.mg "range" = none) (B:PA X [a,b] ta) (hs:starEach [a,b] X.env=[(false,eval a X.env),(false,eval b X.env)]:=by rfl) (z:starEach [b] X.env=[(false,eval b X.env)]:=by rfl) :
  PI X tg (.Call (.Name "range" p) [a,b] [] pos) (iRng2 ta):=by
 intro pins s Z H R I h;refine Call_<|EJ I L hm boot_range<|PyProof.Rows.callWith_type1 (thn (B pos pins s Z H _ I h) λus s1 (vs,H1,I1,r1,Q)=>?_) (by rw[hs,z]) (by rw[z];rfl);obtain⟨i,j,e,⟨Q,c,d,f⟩,q⟩:=Q;subst e;cases r1 with
 |cons r rr=>
  cases rr with
  |cons r' rr=>
   cases rr;obtain⟨t,rfl⟩:=r;obtain⟨T,rfl⟩:=r';exact call_range_2<|range_it I1 Q c d f q
def tFor (wi:TI) (g:TG) (tb:TS):TS:=λD Z H=>wi Z H λJ h=>∃W:Nat->Nat->St->Hp->Prop,(∃m,W 0 m Z h)/\∀i m Z H,W i m Z H ->
 (J.stop i H/\D.nx Z H)\/(J.go i H/\∃N:St->Hp->Prop,(∀Z' H',N Z' H' -> ∃m',m'<m/\W (i+1) m' Z' H')/\∀x H',J.yld i H x H' -> g x Z H' λz a=>tb { D with nx:=N,ct:=N,bk:=D.nx } z a)
def pinsAt (fp:List Addr) (h:Heap):Ax:=fp.filterMap λb=>(h.get? b).map λo=>(b,o)
theorem Fy (B:b∈fp) (e:h.get? b=some o):(b,o)∈pinsAt fp h:=ML.mpr (b,B,by rw[e];rfl)
theorem Zqw (j:p∈pinsAt fp h):p.1∈fp/\h.get? p.1=some p.2:=by
 obtain⟨b,B,e⟩:=ML.mp j;cases q:h.get? b with
 |none=>exists 0,q,e
 |some o=>
  rw[q]at e;have E:(b,o)=p:=CL.inj e;subst E;exact(B,q)
theorem AH.pinned (I:AH X pins Z H s) (hf:∀b∈fp,FpOk X pins H b) (ho:∀b∈fp,∃o,s.heap.get? b=some o/\∀v,o.data≠.cell v):AH X (pins++pinsAt fp s.heap) Z H s:=
 I.pins_of λp P=>(CV.mp P).elim (λz=>I.pin p<|Ce _ z) λz=>by
  obtain⟨h,e⟩:=Zqw z;obtain⟨f,F,a,_⟩:=hf p.1 h;obtain⟨o,E,d⟩:=ho p.1 h;exists 0,e,E;exact(e,f,F,a,d)
theorem AH.unpinned (I:AH X (pins++pl) Z H s):AH X pins Z H s:=I.pins_of λp h=>I.pin p<|Ce _<|IS _ h
theorem Bv (hp:PassesOwn (model X.prog X.w) X.A X.env X.xe) (hc:X.calm=true) (hi:PI X tg iter wi) (hg:PG X tg g) (hb:PSs X body tb)
  (hs:∀x,foldedSetIterable iter X.env x=pure x:=by intro _;rfl):PS X (.For tg iter body [] pos) (tFor wi g tb):=by
 intro pins s Z H D I h;refine wpAny_For (thn (hi pins s Z H _ I h) λv s1 Y=>thn Y λa0 s2 h2=>?_) hs;obtain⟨it,p,L,J_,M,e,Q,T,C,F,W,⟨m0,w0⟩,U⟩:=h2;subst e
 -- what stays true of the iterator's objects through the loop
 have t:∀{H':Hp},(∀b∈p,H' b=none)->∀b∈p,FpOk X pins H' b:=λhn b hb=>(hn b hb,(F b hb).2);refine codeAny_forLoop_any (λn J=>∃i Z' H',AH X pins Z' H' J /\ L i J.heap/\(∀b∈p,H' b=none)/\W i n Z' H') ?_ m0 (0,Z,M,Q,C,λb hb=>(F b hb).1,w0);rintro n K ⟨i,j,l,E,S,R,w3⟩;rcases U i n j l w3 with ⟨O,qn⟩|⟨V,N,hN,P⟩
 ·refine wpAny_passesOwn hp (thn (T.done X rfl rfl rfl hc i pins K j l X.xe E (t R) S O) λr s4 (hr,I4)=>?_)
  subst hr;exact wpAny_execs_nil (j,l,I4,qn)
 ·refine wpAny_passesOwn hp (thn (T.item X rfl rfl rfl hc i pins K j l X.xe E (t R) S V) λr s4 (u,hr,h4)=>?_)
  subst hr;refine wpAny_passesOwn hp (thn h4 λ_ s5 (x,H5,I5,r5,y5,st5,fr5)=>?_);have y:=I5.pinned (t fr5)<|T.obj _ _ st5;refine wpAny_passesOwn hp (thn (hg _ s5 j H5 x u _ y r5<|P x H5 y5) λ_ s6 (Z6,H6,I6,q6)=>?_);refine wpAny_passesOwn hp (thn (hb _ s6 Z6 H6 _ I6 q6) λf B q=>?_);have G:∀{z:St}{a:Hp},AH X (pins++pinsAt p s5.heap) z a B->N z a->∃m,m<n/\∃i Z' H',AH X pins Z' H' B/\L i B.heap/\(∀b∈p,H' b=none)/\W i m Z' H':=λ{z a} c k=>by
   obtain⟨m',hm,w7⟩:=hN z a k;refine(m',hm,i+1,z,a,c.unpinned,T.keep _ _ _ st5 λb hb o e=>(c.pin (b,o)<|Ce _<|Ce _<|Fy hb e).1,λb hb=>?_,w7);obtain⟨o,e,d⟩:=T.obj _ _ st5 b hb;exact(c.pin (b,o)<|Ce _<|Ce _<|Fy hb e).2.1
  cases f with
  |next=>obtain⟨z,a,c,k⟩:=q;exact G c k
  |cont=>obtain⟨z,a,c,k⟩:=q;exact G c k
  |brk=>obtain⟨z,a,c,q⟩:=q;exact(z,a,c.unpinned,q)
  |ret v=>obtain⟨x7,z,a,c,r7,q⟩:=q;exact(x7,z,a,c.unpinned,r7,q)
end
abbrev R2:=V->V->Hp->VK->Prop
def OpR (X:Cx) (f:Value->Value->Sem Value) (r:R2):Prop:=
 ∀(pins:Ax) (s:Shared) (Z:St) (H:Hp) (x y:V) (v u:Value) (Q:VK),AH X pins Z H s->RelV x v->RelV y u->r x y H Q ->
  wpAny (model X.prog X.w) X.A (f v u) (EP X pins Z Q) X.xe s
def UnR (X:Cx) (f:Value->Sem Value) (r:V->Hp->VK->Prop):Prop:=
 ∀(pins:Ax) (s:Shared) (Z:St) (H:Hp) (x:V) (v:Value) (Q:VK),AH X pins Z H s->RelV x v->r x H Q ->
  wpAny (model X.prog X.w) X.A (f v) (EP X pins Z Q) X.xe s
def CallR (X:Cx) (f:Value) (r:List V->Hp->VK->Prop):Prop:=
 ∀(pins:Ax) (s:Shared) (Z:St) (H:Hp) (xs:List V) (us:List Value) (Q:VK),AH X pins Z H s->Vals xs us->r xs H Q ->
  wpAny (model X.prog X.w) X.A (call f us) (EP X pins Z Q) X.xe s
def TruR (X:Cx) (r:V->Hp->(Bool->Hp->Prop)->Prop):Prop:=
 ∀(pins:Ax) (s:Shared) (Z:St) (H:Hp) (x:V) (v:Value) (Q:Bool->Hp->Prop),AH X pins Z H s->RelV x v->r x H Q ->
  wpAny (model X.prog X.w) X.A (truthy v) (TP X pins Z Q) X.xe s
def tOp (r:R2) (ta tb:TE):TE:=λZ H Q=>ta Z H λx h=>tb Z h λy a=>r x y a Q
def tUn (r:V->Hp->VK->Prop) (ta:TE):TE:=λZ H Q=>ta Z H λx h=>r x h Q
def rI (C:Int->Int->Prop) (g:Int->Int->V):R2:=λx y H Q=>∃i j,x=.int i/\y=.int j/\C i j/\Q (g i j) H
def rI0 (g:Int->Int->V):R2:=λx y H Q=>∃i j,x=.int i/\y=.int j/\Q (g i j) H
def rU (g:Int->V):V->Hp->VK->Prop:=λx H Q=>∃i,x=.int i/\Q (g i) H
section
variable {X:Cx}{a b c:Expr}{ta tb tc:TE}{pos:Pos}
theorem binT (j:PE X a ta) (B:PE X b tb) {pins:Ax}{s:Shared}{Z:St}{H:Hp}{R:V->V->Hp->Prop}(I:AH X pins Z H s)
  (h:ta Z H λx H1=>tb Z H1 λy H2=>R x y H2) {Q:Au}{f:Value->Value->Sem Value}
  (hf:∀v u s2 x y H2,AH X pins Z H2 s2->RelV x v->RelV y u->R x y H2->wpAny (model X.prog X.w) X.A (f v u) Q X.xe s2) :
  wpAny (model X.prog X.w) X.A (eval a X.env) (λv s₁=>wpAny (model X.prog X.w) X.A (eval b X.env) (λu s₂=>wpAny (model X.prog X.w) X.A (f v u) Q X.xe s₂) X.xe s₁) X.xe s:=by
 refine thn (j pins s Z H _ I h) λv s1 (x,H1,I1,r1,q1)=>?_;refine thn (B pins s1 Z H1 _ I1 q1) λu s2 (y,H2,I2,r2,q2)=>?_;exact hf v u s2 x y H2 I2 r1 r2 q2
theorem Ae (ho:OpR X (binaryOp op) r) (j:PE X a ta) (B:PE X b tb):PE X (.BinOp a op b pos) (tOp r ta tb):=by
 intro pins s Z H Q I h;exact wpAny_BinOp (binT j B I h λv u S x y c i R Y q=>ho pins S Z c x y v u Q i R Y q)
theorem WI (ho:UnR X (unaryOp op) r) (j:PE X a ta):PE X (.UnaryOp op a pos) (tUn r ta):=by
 intro pins s Z H Q I h;exact UnaryOp_ (thn (j pins s Z H _ I h) λv s1 (x,H1,I1,r1,q1)=>ho pins s1 Z H1 x v Q I1 r1 q1)
theorem opI {f:Value->Value->Sem Value}{C:Int->Int->Prop}{g:Int->Int->Int}
  (rule:∀(i j:Int) (t u:Tok) (s:Shared) (Q:Au) (E:Au),C i j->Q (.int (g i j) s.toks) { s with toks:=s.toks+1 } -> wpAny (model X.prog X.w) X.A (f (.int i t) (.int j u)) Q E s) :
  OpR X f (rI C λi j=>.int<|g i j):=by
 intro pins s Z H x y v u Q I rx ry h;obtain⟨i,j,rfl,rfl,c,q⟩:=h;obtain⟨t,rfl⟩:=rx;obtain⟨T,rfl⟩:=ry;exact rule i j t T s _ _ c (.int<|g i j,H,I.tok _,(_,rfl),q)
theorem opI0 {f:Value->Value->Sem Value}{g:Int->Int->Int}
  (rule:∀(i j:Int) (t u:Tok) (s:Shared) (Q:Au) (E:Au),Q (.int (g i j) s.toks) { s with toks:=s.toks+1 } -> wpAny (model X.prog X.w) X.A (f (.int i t) (.int j u)) Q E s) :
  OpR X f (rI0 λi j=>.int<|g i j):=by
 intro pins s Z H x y v u Q I rx ry h;obtain⟨i,j,rfl,rfl,q⟩:=h;obtain⟨t,rfl⟩:=rx;obtain⟨T,rfl⟩:=ry;exact rule i j t T s _ _ (.int<|g i j,H,I.tok _,(_,rfl),q)
theorem opB0 {f:Value->Value->Sem Value}{g:Int->Int->Bool}
  (L:∀(i j:Int) (t u:Tok) (s:Shared) (Q:Au) (E:Au),Q (.bool<|g i j) s->wpAny (model X.prog X.w) X.A (f (.int i t) (.int j u)) Q E s) :
  OpR X f (rI0 λi j=>.bl<|g i j):=by
 intro pins s Z H x y v u Q I rx ry h;obtain⟨i,j,rfl,rfl,q⟩:=h;obtain⟨t,rfl⟩:=rx;obtain⟨T,rfl⟩:=ry;exact L i j t T s _ _ (.bl<|g i j,H,I,rfl,q)
def CDiv (i j:Int):Prop:=0<j/\j<1073741824
def CPow (i j:Int):Prop:=0<=j/\j<=1000000/\i.natAbs<2 ^ 64
def CMul (i j:Int):Prop:=(-(2 ^ 64)<i/\i<2 ^ 64)\/(-(2 ^ 64)<j/\j<2 ^ 64)
theorem CMul.ok (h:CMul i j):IntMulOk i j:=by
 rcases h with ⟨H,a⟩|⟨H,a⟩
 ·exact .of_left<|intBits_le_64 H a
 ·exact .of_right<|intBits_le_64 H a
theorem U4:OpR X (binaryOp .Add) (rI0 λi j=>.int<|i+j):=opI0 λ_ _ _ _ _ _ _ q=>add_int q
theorem Di:OpR X (binaryOp .Sub) (rI0 λi j=>.int<|i-j):=opI0 λ_ _ _ _ _ _ _ q=>sub_int q
theorem DO:OpR X (binaryOp .Mult) (rI CMul λi j=>.int<|i*j):=opI λ_ _ _ _ _ _ _ c q=>mul_int q c.ok
theorem GZ:OpR X (binaryOp .FloorDiv) (rI CDiv λi j=>.int<|i / j):=opI λi j _ _ _ _ _ c q=>by
 have h:(0:Int)<j:=c.1;have H:j<1073741824:=c.2;exact floordiv_int #[2] (by rw[L9 i #[2]];exact q) (.inl<|PyProof.noPylong_small #[4])
theorem Dj:OpR X (binaryOp .Mod) (rI (λ_ j=>0<j) λi j=>.int<|i % j):=opI λi j _ _ _ _ _ c q=>by
 have h:(0:Int)<j:=c;exact mod_int' #[2] (by rw[Int.fmod_eq_emod_of_nonneg i #[2]];exact q)
theorem Vw:OpR X (binaryOp .Pow) (rI CPow λi j=>.int<|i ^ j.toNat):=opI λ_ _ _ _ _ _ _ c q=>pow_int_small c.1 c.2.1 c.2.2 q
theorem Lp:OpR X (binaryOp .BitXor) (rI0 λi j=>.int<|Builtin.bitXor i j):=opI0 λ_ _ _ _ _ _ _ q=>xor_int q
theorem unI {f:Value->Sem Value}{g:Int->Int}
  (rule:∀(i:Int) (t:Tok) (s:Shared) (Q:Au) (E:Au),Q (.int (g i) s.toks) { s with toks:=s.toks+1 } -> wpAny (model X.prog X.w) X.A (f (.int i t)) Q E s) :
  UnR X f (rU λi=>.int<|g i):=by
 intro pins s Z H x v Q I rx h;obtain⟨i,rfl,q⟩:=h;obtain⟨t,rfl⟩:=rx;exact rule i t s _ _ (.int<|g i,H,I.tok _,(_,rfl),q)
theorem U5:UnR X (unaryOp .USub) (rU λi=>.int (-i)):=unI λ_ _ _ _ _ q=>neg_int q
end
def scal:V->V->Bool
 |.non,.non=>true|.non,.int _=>true|.int _,.non=>true|.non,.bl _=>true|.bl _,.non=>true|.non,.str _=>true|.str _,.non=>true
 |.int _,.int _=>true|.bl _,.bl _=>true|.str _,.str _=>true|.byt _,.byt _=>true
 |.int _,.str _=>true|.str _,.int _=>true|.bl _,.str _=>true|.str _,.bl _=>true
 |_,_=>false
def rEq:R2:=λx y H Q=>scal x y=true/\Q (.bl<|decide (x=y)) H
def rNe:R2:=λx y H Q=>scal x y=true/\Q (.bl (!decide (x=y))) H
theorem Lh:decide (V.int i=V.int j)=(i == j):=by
 rw[Fo];simp
theorem TU:decide (V.bl i=V.bl j)=(i == j):=by
 rw[Fo];simp
theorem Su:decide (V.str i=V.str j)=(i == j):=by
 rw[Fo];simp
theorem SA:decide (V.byt i=V.byt j)=(i.toList == j.toList):=by
 rw[Fo];cases i;cases j;simp
section
variable {X:Cx}{a b c:Expr}{ta tb tc:TE}{pos:Pos}
theorem Bw (I:AH X pins Z H s) (q:Q (.bl k) H) (e:k=k'):EP X pins Z Q (.bool k') s:=by
 subst e;exact(.bl k,H,I,rfl,q)
theorem Vq:OpR X (compareOp .Eq) rEq:=by
 intro pins s Z H x y v u Q I rx ry h;obtain⟨S,q⟩:=h;cases x with
 |non=>
  cases rx;cases y with
  |non=>cases ry;exact PySem.EqNone.eq_none_none (Bw I q #[3])
  |bl j=>cases ry;exact PySem.EqNone.eq_none_bool (Bw I q #[3])
  |int j=>obtain⟨T,rfl⟩:=ry;exact PySem.EqNone.eq_none_int (Bw I q #[3])
  |str j=>obtain⟨T,rfl⟩:=ry;exact PySem.EqNone.eq_none_str (Bw I q #[3])
  |_=>exact absurd (show false=true from S) BV
 |bl i=>
  cases rx;cases y with
  |non=>cases ry;exact PySem.EqNone.eq_bool_none (Bw I q #[3])
  |bl j=>cases ry;exact eq_bool (Bw I q TU)
  |str j=>obtain⟨T,rfl⟩:=ry;exact PySem.EqMixed.eq_bool_str (Bw I q #[3])
  |_=>exact absurd (show false=true from S) BV
 |int i=>
  obtain⟨t,rfl⟩:=rx;cases y with
  |non=>cases ry;exact PySem.EqNone.eq_int_none (Bw I q #[3])
  |int j=>obtain⟨T,rfl⟩:=ry;exact eq_int (Bw I q Lh)
  |str j=>obtain⟨T,rfl⟩:=ry;exact PySem.EqMixed.eq_int_str (Bw I q #[3])
  |_=>exact absurd (show false=true from S) BV
 |str i=>
  obtain⟨t,rfl⟩:=rx;cases y with
  |non=>cases ry;exact PySem.EqNone.eq_str_none (Bw I q #[3])
  |bl j=>cases ry;exact PySem.EqMixed.eq_str_bool (Bw I q #[3])
  |int j=>obtain⟨T,rfl⟩:=ry;exact PySem.EqMixed.eq_str_int (Bw I q #[3])
  |str j=>obtain⟨T,rfl⟩:=ry;exact eq_str (Bw I q Su)
  |_=>exact absurd (show false=true from S) BV
 |byt i=>
  obtain⟨t,rfl⟩:=rx;cases y with
  |byt j=>obtain⟨T,rfl⟩:=ry;exact PySem.W.eq_bytes (Bw I q SA)
  |_=>exact absurd (show false=true from S) BV
 |_=>cases y <;> exact absurd (show false=true from S) BV
theorem WB:OpR X (compareOp .NotEq) rNe:=by
 intro pins s Z H x y v u Q I rx ry h;obtain⟨S,q⟩:=h;cases x with
 |non=>
  cases rx;cases y with
  |non=>cases ry;exact PySem.EqNone.ne_none_none (Bw I q #[3])
  |bl j=>cases ry;exact PySem.EqNone.ne_none_bool (Bw I q #[3])
  |int j=>obtain⟨T,rfl⟩:=ry;exact PySem.EqNone.ne_none_int (Bw I q #[3])
  |str j=>obtain⟨T,rfl⟩:=ry;exact PySem.EqNone.ne_none_str (Bw I q #[3])
  |_=>exact absurd (show false=true from S) BV
 |bl i=>
  cases rx;cases y with
  |non=>cases ry;exact PySem.EqNone.ne_bool_none (Bw I q #[3])
  |bl j=>cases ry;exact ne_bool (Bw I q (congrArg not TU))
  |str j=>obtain⟨T,rfl⟩:=ry;exact PySem.EqMixed.ne_bool_str (Bw I q #[3])
  |_=>exact absurd (show false=true from S) BV
 |int i=>
  obtain⟨t,rfl⟩:=rx;cases y with
  |non=>cases ry;exact PySem.EqNone.ne_int_none (Bw I q #[3])
  |int j=>obtain⟨T,rfl⟩:=ry;exact ne_int (Bw I q (congrArg not Lh))
  |str j=>obtain⟨T,rfl⟩:=ry;exact PySem.EqMixed.ne_int_str (Bw I q #[3])
  |_=>exact absurd (show false=true from S) BV
 |str i=>
  obtain⟨t,rfl⟩:=rx;cases y with
  |non=>cases ry;exact PySem.EqNone.ne_str_none (Bw I q #[3])
  |bl j=>cases ry;exact PySem.EqMixed.ne_str_bool (Bw I q #[3])
  |int j=>obtain⟨T,rfl⟩:=ry;exact PySem.EqMixed.ne_str_int (Bw I q #[3])
  |str j=>obtain⟨T,rfl⟩:=ry;exact ne_str (Bw I q (congrArg not Su))
  |_=>exact absurd (show false=true from S) BV
 |byt i=>
  obtain⟨t,rfl⟩:=rx;cases y with
  |byt j=>obtain⟨T,rfl⟩:=ry;exact PySem.W.ne_bytes (Bw I q (congrArg not SA))
  |_=>exact absurd (show false=true from S) BV
 |_=>cases y <;> exact absurd (show false=true from S) BV
theorem Ov:OpR X (compareOp .Lt) (rI0 λi j=>.bl<|decide (i<j)):=opB0 λ_ _ _ _ _ _ _ q=>lt_int q
theorem Ly:OpR X (compareOp .LtE) (rI0 λi j=>.bl<|decide (i<=j)):=opB0 λ_ _ _ _ _ _ _ q=>le_int q
theorem F7:OpR X (compareOp .Gt) (rI0 λi j=>.bl<|decide (j<i)):=opB0 λ_ _ _ _ _ _ _ q=>gt_int q
theorem V0:OpR X (compareOp .GtE) (rI0 λi j=>.bl<|decide (j<=i)):=opB0 λ_ _ _ _ _ _ _ q=>ge_int q
theorem OpR.or (h:OpR X f r) (h':OpR X f r'):OpR X f (λx y H Q=>r x y H Q\/r' x y H Q):=by
 intro pins s Z H x y v u Q I rx ry q;rcases q with q|q
 ·exact h pins s Z H x y v u Q I rx ry q
 ·exact h' pins s Z H x y v u Q I rx ry q
theorem nomark (b:Expr) (h:op≠.In:=by decide) (h2:op≠.NotIn:=by decide):behindInMarks op b=false:=by
 have e:(op == CmpOp.In)=false:=by cases op <;> first|rfl|exact absurd rfl h
 have E:(op == CmpOp.NotIn)=false:=by cases op <;> first|rfl|exact absurd rfl h2
 cases b <;> simp[behindInMarks,e,E]
theorem GW (ho:OpR X (compareOp op) r) (j:PE X a ta) (B:PE X b tb) (hm:behindInMarks op b=false):PE X (.Compare a [op] [b] pos) (tOp r ta tb):=by
 intro pins s Z H Q I h;exact wpAny_Compare1 (binT j B I h λv u S x y c i R Y q=>ho pins S Z c x y v u Q i R Y q) hm
def tTest (t:TE):TT:=λZ H Q=>t Z H λx h=>∃k,x=.bl k/\Q k h
theorem BW (ho:OpR X (compareOp op) r) (j:PE X a ta) (B:PE X b tb) (hm:behindInMarks op b=false):PT X (.Compare a [op] [b] pos) (tTest<|tOp r ta tb):=by
 intro pins s Z H Q I h;refine wpAny_isTrue_Compare1 (thn (j pins s Z H _ I h) λv s1 (x,H1,I1,r1,q1)=>thn (B pins s1 Z H1 _ I1 q1) λu s2 (y,H2,I2,r2,q2)=>
  thn (ho pins s2 Z H2 x y v u _ I2 r1 r2 q2) λc s3 (z,H3,I3,r3,k,e,q3)=>?_) hm
 subst e;cases r3;exact wpAny_truthy_bool (H3,I3,q3)
def TruV (K:W.Frag) (x:V) (H:Hp) (k:Bool):Prop:=
 match x with
 |.non=>k=false
 |.bl b=>k=b
 |.int i=>k=(i != 0)
 |.str y=>y.length<=sizeLine/\k=((y.length:Int) != 0)
 |.byt y=>y.size<=sizeLine/\k=((y.size:Int) != 0)
 |.ref p=>(∃xs,SqL K H p xs/\k = !xs.isEmpty)\/(∃xs,SqT K H p xs/\k = !xs.isEmpty)\/∃kvs,H p=some (.dK kvs)/\k = !kvs.isEmpty
 |_=>False
theorem Zqo (r:KV kvs vs):(!vs.isEmpty) = !kvs.isEmpty:=by
 cases r <;> rfl
theorem Pc (r:Vals xs its):(!its.toArray.isEmpty) = !xs.isEmpty:=by
 cases r <;> simp
theorem line63:(sizeLine:Nat)<2 ^ 63:=by rw[sizeLine_eq];decide
theorem Uq:TruR X (λx H Q=>∃k,TruV X.K x H k/\Q k H):=by
 intro pins s Z H x v Q I rx h;obtain⟨k,e,q⟩:=h;have L:=line63;have f:sizeLine=16777216:=sizeLine_eq;cases x with
 |non=>
  cases rx;have E:k=false:=e;subst E;exact truthy_none (H,I,q)
 |bl b=>
  cases rx;have E:k=b:=e;subst E;exact wpAny_truthy_bool (H,I,q)
 |int i=>
  obtain⟨t,rfl⟩:=rx;have E:k=(i != 0):=e;subst E;exact PySem.P.truthy_int (H,I,q)
 |str y=>
  obtain⟨t,rfl⟩:=rx;obtain⟨Y,E⟩:y.length<=sizeLine/\k=((y.length:Int) != 0):=e;subst E;exact PySem.P.truthy_str #[2] (H,I.tok _,q)
 |byt y=>
  obtain⟨t,rfl⟩:=rx;obtain⟨Y,E⟩:y.size<=sizeLine/\k=((y.size:Int) != 0):=e;subst E;exact PySem.W.truthy_bytes #[2] (H,I.tok _,q)
 |ref p=>
  cases rx;have E:(∃a,SqL X.K H p a/\k = !a.isEmpty)\/(∃a,SqT X.K H p a/\k = !a.isEmpty)\/∃S,H p=some (.dK S)/\k = !S.isEmpty:=e;rcases E with ⟨a,c,E⟩|⟨a,c,E⟩|⟨S,c,E⟩
  ·subst E
   obtain⟨T,r,l,z⟩:=I.list c;have n:=r.length;exact wpAny_truthy_list l.isList (by simp only[BR];lia) (H,I.tok _,by rw[Pc r];exact q)
  ·subst E
   obtain⟨T,r,l,z⟩:=I.tuple c;have n:=r.length;exact truthy_tuple l (by simp only[BR];omega) (H,I.tok _,by rw[Pc r];exact q)
  ·subst E
   obtain⟨z,d,V,r,m⟩:S.length<=sizeLine/\(p == sysModules)=false/\∃V,KV S V/\s.heap.DictOf (mixKind X.prog X.w) p V:=I.hok p _ c;have n:S.length=V.length:=Paired.length r;exact wpAny_truthy_dict d m #[2] (H,I.tok _,by rw[Zqo r];exact q)
 |_=>exact(show False from e).elim
theorem Zvk (ha:PE X a ta) (he:∀whole,isTrue a X.env whole=(do let v <- whole;standAt a.pos;holding [v] (truthy v))) :
  PT X a (λZ H Q=>ta Z H λx H'=>∃k,TruV X.K x H' k/\Q k H'):=by
 intro pins s Z H Q I h;exact isTrue_plain (thn (ha pins s Z H _ I h) λv s1 (x,H1,I1,r1,q1)=>Uq pins s1 Z H1 x v Q I1 r1 q1)<|he _
theorem vals1 (r:Vals [x] us):∃u,us=[u]/\RelV x u:=by
 cases r with
 |cons r1 r2=>cases r2;exact(_,rfl,r1)
theorem vals2 (r:Vals [x,y] us):∃u w',us=[u,w']/\RelV x u/\RelV y w':=by
 cases r with
 |cons r1 r2=>
  cases r2 with
  |cons r3 r4=>cases r4;exact(_,_,rfl,r1,r3)
theorem Nm:CallR X (.builtin "abs") (λxs H Q=>∃i,xs=[.int i]/\Q (.int (if i<0 then -i else i)) H):=by
 intro pins s Z H xs us Q I r h;obtain⟨i,rfl,q⟩:=h;obtain⟨u,rfl,t,rfl⟩:=vals1 r;exact call_abs_int λu k=>(.int (if i<0 then -i else i),H,I.tok _,(_,rfl),q)
theorem Qf (z:X.calm=true):CallR X (.builtin "max") (λxs H Q=>∃i j,xs=[.int i,.int j]/\Q (.int (if j > i then j else i)) H):=by
 intro pins s Z H xs us Q I r h;obtain⟨i,j,rfl,q⟩:=h;obtain⟨u,w,rfl,⟨t,rfl⟩,⟨T,rfl⟩⟩:=vals2 r;refine max_two_ints (I.ok.hd z) λa K k=>(_,H,I.kept k,?_,q);by_cases hj:j > i
 ·rw[AN hj,AN hj];exact(_,rfl)
 ·rw[AK hj,AK hj];exact(_,rfl)
theorem P5 (z:X.calm=true):CallR X (.builtin "min") (λxs H Q=>∃i j,xs=[.int i,.int j]/\Q (.int (if j<i then j else i)) H):=by
 intro pins s Z H xs us Q I r h;obtain⟨i,j,rfl,q⟩:=h;obtain⟨u,w,rfl,⟨t,rfl⟩,⟨T,rfl⟩⟩:=vals2 r;refine min_two_ints (I.ok.hd z) λa K k=>(_,H,I.kept k,?_,q);by_cases hj:j<i
 ·rw[AN hj,AN hj];exact(_,rfl)
 ·rw[AK hj,AK hj];exact(_,rfl)
theorem QJ:CallR X (.type "int") (λxs H Q=>(∃i,xs=[.int i]/\Q (.int i) H)\/∃k,xs=[.bl k]/\Q (.int (if k then 1 else 0)) H):=by
 intro pins s Z H xs us Q I r h;rcases h with ⟨i,rfl,q⟩|⟨k,rfl,q⟩
 ·obtain⟨u,rfl,t,rfl⟩:=vals1 r
  exact call_int_int (.int i,H,I,(_,rfl),q)
 ·obtain⟨u,rfl,R⟩:=vals1 r
  cases R;exact call_int_bool (.int (if k then 1 else 0),H,I.tok _,(_,rfl),q)
end
structure ObjM (h:Heap) (x dx C:Addr) (mA:Str->Option Value):Prop where
 obj:h.get? x=some (PySem.W.instObj C dx)
 ns:h.Ns1 dx mA
 ne:dx≠x
theorem Zuu {h:Heap}(n:h.Ns1 dx mA):∃od,h.get? dx=some od/\∀name,PySem.W.lookIn name od=some (mA name):=by
 obtain⟨o,s,p,O,d,K,_,m⟩:=n;refine(o,O,λname=>?_);have e:=m name;unfold nsFind findBy at e;rw[<- Array.find?_toList]at e;unfold PySem.W.lookIn;rw[d];dsimp only;split
 ·rename_i y q
  rw[q]at e;exact congrArg some e
 ·rename_i q
  rw[q]at e;have a:s.toList.any (·.refKey)=false:=by
   rw[List.any_eq_false];intro y hy;obtain⟨z,t,k⟩:=K y<|Array.mem_toList_iff.mp hy;simp[DictEntry.refKey,k]
  have A:¬ s.toList.any (·.refKey)=true:=by rw[a];exact BV
  rw[AK A];exact congrArg some e
theorem ObjM.look (I:ObjM h x dx C mA):∃od,PySem.W.InstAt h x (PySem.W.instObj C dx) C (some od)/\∀name,PySem.W.lookIn name od=some (mA name):=
 let ⟨od,ho,hl⟩:=Zuu I.ns
 (od,(I.obj,rfl,rfl,ho),hl)
theorem RelO.some_of (r:RelO (some v) o):∃u,o=some u/\RelV v u:=by
 cases o with
 |none=>exact(show False from r).elim
 |some u=>exact(u,rfl,r)
section
variable {P:Program}{w:World}{H H':Hp}{h h':Heap}{a C dx:Addr}{fs fs':List (Str × V)}
theorem UX (O:HOk P w H h) (e:H a=some (.ins C dx fs)):∃mA,ObjM h a dx C mA/\(∀f,RelO (fs.lookup f) (mA f))/\PySem.Within mA (fs.map (·.1))/\fs.length<=1000/\H dx=some (.own a):=by
 obtain⟨d,z,ne,b,mA,n,r,q⟩:=(show ObjOk P w H h a (.ins C dx fs) from O a _ e);exact(mA,(b,n,ne),r,q,z,d)
end
structure L3 (K:W.Frag) (C:Addr):Prop where
 pg:PySem.W.plainGet K C Str.empty=true
 hd:PySem.W.hasDictIn K C=true
 po:PySem.W.plainOver K C=true
 sa:PySem.W.findIn K (.ref C) "__setattr__" = some (some (.builtin "object.__setattr__"))
theorem L3.get {K:W.Frag}(c:L3 K C) (f:Str):PySem.W.plainGet K C f=true:=c.pg
section
variable {X:Cx}{pins:Ax}{Z:St}{H:Hp}{s:Shared}{a C dx:Addr}{fs:List (Str × V)}{f:Str}{v:V}{A:Around}{E:Au}
end
section
variable {X:Cx}{pins:Ax}{Z:St}{H:Hp}{s:Shared}{A:Around}{E:Au}{Q:Au}{c:Value}{b:Bool}
inductive TyOf (K:W.Frag) (H:Hp):V->Value->Prop where
 |non:TyOf K H .non (.type "NoneType")
 |bl (x:Bool):TyOf K H (.bl x) (.type "bool")
 |int (i:Int):TyOf K H (.int i) (.type "int")
 |str (x:Str):TyOf K H (.str x) (.type "str")
 |flt (x:UInt64):TyOf K H (.flt x) (.type "float")
 |lst {a:Addr}{xs:List V}(e:H a=some (.lst xs)):TyOf K H (.ref a) (.type "list")
 |frz {a:Addr}{o:Obj}{xs:List V}(e:H a=some (.frz o (.lst xs))):TyOf K H (.ref a) (.type "list")
 |tup {a:Addr}{xs:List V}(e:H a=some (.tup xs)):TyOf K H (.ref a) (.type "tuple")
 |dK {a:Addr}{kvs:List (AS × V)}(e:H a=some (.dK kvs)):TyOf K H (.ref a) (.type "dict")
 |dT {a:Addr}{kvs:List (List AS × V)}(e:H a=some (.dT kvs)):TyOf K H (.ref a) (.type "dict")
 |ins {a C dx:Addr}{fs:List (Str × V)}(e:H a=some (.ins C dx fs)) (cl:L3 K C) (ha:PySem.W.findIn K (.ref C) "__class__" = some (some (.builtin "object.__class__")))
   (hn:PySem.W.specialIn K (.builtin "object.__class__") "__get__" = some (some (.builtin "getset_descriptor.__get__"))) (htk:PySem.W.takesIn K (.builtin "object.__class__")=some true)
   (hm:PySem.W.mroIn K C (.type "object")=some true):TyOf K H (.ref a) (.ref C)
theorem Zr2 {x:V}{u t:Value}(I:AH X pins Z H s) (rx:RelV x u) (ty:TyOf X.K H x t) (e:PySem.W.kitOne X.K t c=some b) (h:∀tk,Q (.bool b) { s with toks:=tk }) :
  wpAny (model X.prog X.w) A (call (.builtin "isinstance") [u,c]) Q E s:=by
 cases ty with
 |non=>cases (show u=Value.none from rx);exact PySem.W.kia_one PySem.W.kitx_none I.kIn True.intro e (λz=>nomatch z) h
 |bl y=>cases (show u=Value.bool y from rx);exact PySem.W.kia_one PySem.W.kitx_bool I.kIn True.intro e (λz=>nomatch z) h
 |int i=>obtain⟨t,q⟩:=(show ∃t,u=Value.int i t from rx);cases q;exact PySem.W.kia_one PySem.W.kitx_int I.kIn True.intro e (λz=>nomatch z) h
 |str y=>obtain⟨t,q⟩:=(show ∃t,u=Value.str y t from rx);cases q;exact PySem.W.kia_one PySem.W.kitx_str I.kIn True.intro e (λz=>nomatch z) h
 |flt y=>obtain⟨t,q⟩:=(show ∃t,u=Value.float y t from rx);cases q;exact PySem.W.kia_one PySem.W.kitx_float I.kIn True.intro e (λz=>nomatch z) h
 |@lst a S ea=>
  cases (show u=Value.ref a from rx);obtain⟨_,_,n,_,d⟩:=(show ObjOk X.prog X.w H s.heap a (.lst S) from I.hok a _ ea);exact PySem.W.kia_one PySem.W.kitx_list I.kIn (_,d,rfl) e (λz=>nomatch z) h
 |@frz a ob S ea=>
  cases (show u=Value.ref a from rx);obtain⟨_,_,_,n,_,d⟩:=(show ObjOk X.prog X.w H s.heap a (.frz ob (.lst S)) from I.hok a _ ea);exact PySem.W.kia_one PySem.W.kitx_list I.kIn (_,d,rfl) e (λz=>nomatch z) h
 |@tup a S ea=>
  cases (show u=Value.ref a from rx);obtain⟨_,_,_,p⟩:=(show ObjOk X.prog X.w H s.heap a (.tup S) from I.hok a _ ea);obtain⟨o,d,⟨f,_⟩,_⟩:=p;exact PySem.W.kia_one PySem.W.kitx_tuple I.kIn (o,d,f) e (λz=>nomatch z) h
 |@dK a kvs ea=>
  cases (show u=Value.ref a from rx);obtain⟨_,_,v,_,p⟩:=(show ObjOk X.prog X.w H s.heap a (.dK kvs) from I.hok a _ ea);obtain⟨o,g,P,d,f,_⟩:=p;exact PySem.W.kia_one PySem.W.kitx_dict I.kIn (o,d,f.1) e (λz=>nomatch z) h
 |@dT a kvs ea=>
  cases (show u=Value.ref a from rx);obtain⟨_,_,S,_,o,g,P,d,f,_⟩:=(show ObjOk X.prog X.w H s.heap a (.dT kvs) from I.hok a _ ea);exact PySem.W.kia_one PySem.W.kitx_dict I.kIn (o,d,f.1) e (λz=>nomatch z) h
 |@ins a C dx fs ea cl ha hn htk hm=>
  cases (show u=Value.ref a from rx);obtain⟨m,O,_⟩:=UX I.hok ea;obtain⟨D,J,_⟩:=O.look;exact PySem.W.kia_one (PySem.W.kitx_own (cl.get _) cl.hd ha hn htk hm) I.kIn J e (λz=>nomatch z) h
end
structure Room (k:Nat) (A:Around):Prop where
 hd:A.handled=none
 dp:A.depth+3*k+5<recursionLimit
 un:A.units+16*k+200<cLine
 gd:A.guards=some []
theorem Room.mono (r:Room k A) (h:j<=k):Room j A:=(r.hd,by have:=r.dp;lia,by have:=r.un;lia,r.gd)
theorem Room.deeper (r:Room (k+1) A) (env:Env):Room k (A.deeper env):=
 (r.hd,by have:=r.dp;show A.depth+1+3*k+5<_;lia,by have:=r.un;show A.units+3+16*k+200<_;lia,r.gd)
theorem Room.depth (r:Room k A):A.depth<recursionLimit:=by have:=r.dp;lia
theorem Room.units (r:Room k A):A.units+64<cLine:=by have:=r.un;lia
def tNil:TA:=λ_ H Q=>Q [] H
def tCons (ta:TE) (j:TA):TA:=λZ H Q=>ta Z H λx h=>j Z h λs a=>Q (x::s) a
section
variable {X:Cx}{e:Expr}{es:List Expr}{te:TE}{t:TA}{pos:Pos}
theorem AE:PA X [] tNil:=λ_ _ _ _ H Q I h=>Calls.spliced_nil ([],H,I,.nil,h)
theorem AA (j:PE X e te) (q:PA X es t) (hs:starEach (e::es) X.env=(false,eval e X.env)::starEach es X.env:=by rfl):PA X (e::es) (tCons te t):=by
 intro pos pins s Z H Q I h;rw[hs];show wpAny _ _ (spliced ((false,eval e X.env)::backTo pos (starEach es X.env))) _ _ s;refine Calls.spliced_cons (thn (j pins s Z H _ I h) λu s1 (x,H1,I1,r1,q1)=>?_);exact thn (q pos pins s1 Z H1 _ I1 q1) λus s2 (xs,H2,I2,r2,q2)=>(x::xs,H2,I2,.cons r1 r2,q2)
def tTup (t:TA):TE:=λZ H Q=>t Z H λs h=>s.length<=sizeLine/\∀p,h p=none->Q (.ref p) (upd h p (.tup s))
def tLst (t:TA):TE:=λZ H Q=>t Z H λs h=>s.length<=sizeLine/\∀p,h p=none->Q (.ref p) (upd h p (.lst s))
theorem Ab {x1} (h:PA X es t):PE X (.Tuple es x1 pos) (tTup t):=by
 intro pins s Z H Q I hq;refine wpAny_Tuple_spliced (thn (h pos pins s Z H _ I hq) λus s1 (xs,H1,I1,r,z,q)=>(by rw[<- r.length];exact z,?_));have f:H1 s1.heap.objs.size=none:=I1.hok.fresh<|AU _;refine(.ref s1.heap.objs.size,upd H1 s1.heap.objs.size (.tup xs),I1.laid (t':=s1.toks) (λb u e=>Ap _ e) (AU _) ?_,rfl,q _ f);exact(z,us,r,(_,Bn _ rfl,(rfl,_,rfl),rfl))
theorem CG (h:PA X es t):PE X (.List es pos) (tLst t):=by
 intro pins s Z H Q I hq;refine wpAny_List_spliced (thn (h pos pins s Z H _ I hq) λus s1 (xs,H1,I1,r,z,q)=>(by rw[<- r.length];exact z,?_));have f:H1 s1.heap.objs.size=none:=I1.hok.fresh<|AU _;refine(.ref s1.heap.objs.size,upd H1 s1.heap.objs.size (.lst xs),I1.laid (t':=s1.toks) (λb u e=>Ap _ e) (AU _) ?_,rfl,q _ f);exact(z,us,0,r,Bn _ rfl)
end
abbrev Sp:=List V->Hp->VK->XK->Prop
abbrev CXT:=List Env->Hp->Shared->XK->Value->Shared->Prop
structure Env0 (P:Program) (w:World) (K:W.Frag) (mg:Str->Option Value) (base:Heap) (A:Around) (outer:List Env) (s:Shared) (H:Hp):Prop where
 frames:A.frames=some outer
 mod:Mod K mg base
 bs:∀b o,base.get? b=some o->s.heap.get? b=some o/\H b=none
 bsz:base.objs.size<=s.heap.objs.size
 funs:s.heap.FunFrames base outer
 frf:∀b∈frs outer,H b=none
 hok:HOk P w H s.heap
 bare:AllBare s.gens
def CE (U:List Env) (P:Program) (w:World) (H:Hp) (s:Shared) (Q:VK) (u:Value) (s':Shared):Prop:=
 ∃v H',s'.os=s.os/\AllBare s'.gens/\Un (frs U) [] H H' s.heap s'.heap/\HOk P w H' s'.heap/\RelV v u/\Q v H'
def CR (CX:CXT) (U:List Env) (P:Program) (w:World) (H:Hp) (s:Shared) (Q:VK) (E:XK) (r:Result) (s':Shared):Prop:=
 match r with
 |.ok (.ret u)=>CE U P w H s Q u s'
 |.ok _=>False
 |.error e=>CX U H s E e s'
structure FnOk (P:Program) (w:World) (K:W.Frag) (mg:Str->Option Value) (base:Heap) (CX:CXT) (k:Nat) (f:Addr) (fd:FuncData) (ps:List Str) (sp:Sp):Prop where
 len:∀vs H Q E,sp vs H Q E->vs.length=ps.length
 run:∀(A:Around) (outer:List Env) (s:Shared) (H:Hp) (args:Args) (us:List Value) (vs:List V) (Q:VK) (E:XK),Room k A->Env0 P w K mg base A outer s H->BindsTo s fd args (ps.zip us)->Vals vs us->sp vs H Q E ->
  codeAny (model P w) A (.call (.ref f) args) (CR CX outer P w H s Q E) s
theorem FnOk.imp {K:W.Frag}(F:FnOk P w K mg base CX k f fd ps sp)
  (h:∀vs H Q E,sp' vs H Q E->sp vs H Q E):FnOk P w K mg base CX k f fd ps sp':=
 (λvs H Q E q=>F.len vs H Q E<|h _ _ _ _ q,λA r s H g u vs Q E R e b v S=>F.run A r s H g u vs Q E R e b v<|h _ _ _ _ S)
section
variable {X:Cx}{pins:Ax}{Z:St}{H:Hp}{s s':Shared}
theorem AH.env0 (I:AH X pins Z H s):Env0 X.prog X.w X.K X.mg X.base X.A X.stack s H:=
 (I.ok.frames,I.ok.mod,I.bs,Bg I.ok.bsz I.sz,I.stack,I.stkFree,I.hok,I.bare)
theorem AH.after (I:AH X pins Z H s) (h:CE X.stack X.prog X.w H s Q u s'):EP X pins Z Q u s':=by
 obtain⟨v,a,S,e,n,k,r,q⟩:=h;obtain⟨c,g,d,t,o⟩:=s';obtain rfl:o=s.os:=S;exact(v,a,I.call (h':=c) (g':=g) (d':=d) (t':=t) (ch:=[]) n k e (λb z=>absurd z #[3]),r,q)
end
def tCall (sp:Sp) (dvs:List V) (E:XK) (t:TA):TE:=λZ H Q=>t Z H λs h=>sp (s++dvs) h Q E
def Binds (K:W.Frag) (fd:FuncData) (ps:List Str) (ds:List Value):Prop:=
 ∀(s:Shared) (us:List Value),K.In s.heap->(us++ds).length=ps.length->BindsTo s fd (us,[]) (ps.zip<|us++ds)
theorem Binds.all {K:W.Frag}(h:∀us:List Value,us.length=ps.length->bindArgs fd (us,[])=pure (ps.zip us)):Binds K fd ps []:=λs us _ l=>by
 rw[Bj]at l ⊢;exact .of_eq<|h us l
def Passes (CX:CXT) (X:Cx) (E:XK):Prop:=∀(pins:Ax) (Z:St) (H:Hp) (s:Shared) (e:Value) (s':Shared),AH X pins Z H s->CX X.stack H s E e s' -> X.xe e s'
section
variable {X:Cx}{CX:CXT}{k:Nat}{f C:Addr}{fd:FuncData}{ps:List Str}{sp:Sp}{dvs:List V}{ds:List Value}{E:XK}{x m:Str}{p pos apos:Pos}{e o:Expr}{es:List Expr}{ta:TE}{t:TA}
theorem Vi (F:FnOk X.prog X.w X.K X.mg X.base CX k f fd ps sp) (z:Room k X.A) (B:Binds X.K fd ps ds) (j:Vals dvs ds) (L:Passes CX X E)
  (I:AH X pins Z H s) (r:Vals vs us) (h:sp (vs++dvs) H Q E):wpAny (model X.prog X.w) X.A (call (.ref f) us) (EP X pins Z Q) X.xe s:=by
 have R:Vals (vs++dvs) (us++ds):=r.append j;have l:(us++ds).length=ps.length:=by rw[<- R.length];exact F.len _ _ _ _ h
 refine wpAny_call (codeAny_mono (F.run X.A X.stack s H (us,[]) (us++ds) (vs++dvs) Q E z I.env0 (B s us I.kIn l) R h) λr S q=>?_);cases r with
 |error e=>exact L pins Z H s e S I q
 |ok fl=>
  cases fl with
  |ret u=>exact I.after q
  |next=>exact False.elim q
  |brk=>exact False.elim q
  |cont=>exact False.elim q
theorem UC (F:FnOk X.prog X.w X.K X.mg X.base CX k f fd ps sp) (hr:Room k X.A) (Y:Gl X x) (hm:X.mg x=some (.ref f)) (hk:W.keepIn X.K (.ref f)=true) (z:Binds X.K fd ps ds) (O:Vals dvs ds) (hx:Passes CX X E)
  (j:PA X (e::es) t) (B:(x == ("__debug__":Str))=false:=by decide) (U:starEach (e::es) X.env=(false,eval e X.env)::starEach es X.env:=by rfl) (L:(backTo pos<|starEach es X.env).any (·.1)=false:=by rfl) :
  PE X (.Call (.Name x p) (e::es) [] pos) (tCall sp dvs E t):=by
 intro pins s Z H Q I h;refine wpAny_Call_Name_kw<|SX I Y hm ?_ B;refine PySem.W.callWith_K (h₀:=X.base) I.ok.mod.kin hk (thn (j pos pins s Z H _ I h) λus s1 (vs,H1,I1,r,q)=>(I1.kIn,?_)) U L;exact Vi F hr z O hx I1 r q
end
section
variable {X:Cx}{CX:CXT}{k:Nat}{f C:Addr}{fd:FuncData}{ps ks:List Str}{sp:Sp}{E:XK}{x m:Str}{p pos apos kpos:Pos}{e o:Expr}{es:List Expr}{kws:List Keyword}{te ta:TE}{t tk:TA}{nm:Option Str}
variable {g:List Value->List Value->List Value}{gV:List V->List V->List V}
end
structure FnScope (N P:List Str) (sc:Scope):Prop where
 kind:sc.kind=.function
 co:sc.isCoroutine=false
 gen:sc.isGenerator=false
 nd:N.Nodup
 pre:N.take P.length=P
 par:∀x∈P,sc.names.lookup x=some .local\/sc.names.lookup x=some .cell
 nofree:∀y∈sc.names,y.2≠.free
theorem Ql {O:Str->Option NameKind}:∀{binds:List (Str × Value)}{m:Str->Option Value},(∀v,(x,v) ∉ binds)->bindL O binds m x=m x
 |[],_,_=>rfl
 | (n,v)::r,m,h=>by
  unfold bindL;rw[Ql λw W=>h w (Bl _ W)];split
  ·have:x≠n:=by rintro rfl;exact h v B5
   simp[this]
  ·rfl
theorem QQ {O:Str->Option NameKind}:∀{binds:List (Str × Value)}{m:Str->Option Value},(∀v,(x,v) ∉ binds)->bindC O binds m x=m x
 |[],_,_=>rfl
 | (n,v)::r,m,h=>by
  unfold bindC;rw[QQ λw W=>h w (Bl _ W)];split
  ·rfl
  ·have:x≠n:=by rintro rfl;exact h v B5
   simp[this]
theorem Qb {O:Str->Option NameKind}:∀{P:List Str}{vs:List Value}{i:Nat}{m:Str->Option Value},P.Nodup->P[i]?=some x->vs[i]?=some v->O x=some .local ->
  bindL O (P.zip vs) m x=some v
 |[],_,_,_,_,h,_,_=>by simp at h
 |_::_,[],_,_,_,_,h,_=>by simp at h
 |p::P,w::vs,0,m,nd,h1,h2,hk=>by
  simp at h1 h2;subst h1;subst h2;show bindL O ((p,w)::P.zip vs) m p=_;unfold bindL;rw[Ql λv V=>(DS.mp nd).1 (List.of_mem_zip V).1,AN hk];simp
 |p::P,w::vs,i+1,m,nd,h1,h2,hk=>by
  show bindL O ((p,w)::P.zip vs) m x=_;unfold bindL;exact Qb (i:=i) (DS.mp nd).2 (by simpa using h1) (by simpa using h2) hk
theorem QC {O:Str->Option NameKind}:∀{P:List Str}{vs:List Value}{i:Nat}{m:Str->Option Value},P.Nodup->P[i]?=some x->vs[i]?=some v->O x≠some .local ->
  bindC O (P.zip vs) m x=some v
 |[],_,_,_,_,h,_,_=>by simp at h
 |_::_,[],_,_,_,_,h,_=>by simp at h
 |p::P,w::vs,0,m,nd,h1,h2,hk=>by
  simp at h1 h2;subst h1;subst h2;show bindC O ((p,w)::P.zip vs) m p=_;unfold bindC;rw[QQ λv V=>(DS.mp nd).1 (List.of_mem_zip V).1,AK hk];simp
 |p::P,w::vs,i+1,m,nd,h1,h2,hk=>by
  show bindC O ((p,w)::P.zip vs) m x=_;unfold bindC;exact QC (i:=i) (DS.mp nd).2 (by simpa using h1) (by simpa using h2) hk
def start (N:List Str) (vs:List V):St:=vs.map some++Az (N.length-vs.length) none
def cxOf (CX:CXT) (P:Program) (w:World) (K:W.Frag) (mg:Str->Option Value) (base:Heap) (N:List Str) (qual:Str) (scope:Scope) (f:Addr) (cd:Value) (A:Around) (outer:List Env) (s:Shared) (H:Hp) (E:XK):Cx where
 prog:=P
 w:=w
 K:=K
 mg:=mg
 base:=base
 A:=A.deeper<|envOfC qual scope s.heap.objs.size f cd
 N:=N
 s₀:=s
 H₀:=H
 env:=envOfC qual scope s.heap.objs.size f cd
 outer:=outer
 stack:=envOfC qual scope s.heap.objs.size f cd::outer
 ex:=[]
 calm:=true
 fn:=λ_=>true
 pn:=[]
 xe:=λe b=>wpAny (model P w) (A.deeper<|envOfC qual scope s.heap.objs.size f cd) (leaving (envOfC qual scope s.heap.objs.size f cd) e) (λ_ S=>CX outer H s E e S) (λa S=>CX outer H s E a S) b
theorem Rx {j:Scope}(h:j.names.lookup x=some .cell):∃c,(cellsFrom n j.names []).lookup x=some c:=by
 have q:=PySem.W.cellsFrom_some j.names n [] (.inl h);exact Option.isSome_iff_exists.mp q
theorem Zte {CX:CXT}{P:Program}{w:World}{K:W.Frag}{mg:Str->Option Value}{base:Heap}{N ps:List Str}{B:Str}{scope:Scope}{f:Addr}{cd:Value}{A:Around}{O:List Env}{s s1:Shared}{H:Hp}{E:XK}{us:List Value}{vs:List V}
  (S:FnScope N ps scope) (hd:A.handled=none) (e0:Env0 P w K mg base A O s H) (hl:vs.length=ps.length) (r:Vals vs us)
  (x:InCallC s s.heap.objs.size (bindL (envOfC B scope s.heap.objs.size f cd).kindOf (ps.zip us) λ_=>none) (cellsFrom (s.heap.objs.size+1) scope.names []) (bindC (envOfC B scope s.heap.objs.size f cd).kindOf (ps.zip us) λ_=>none) s1) :
  AH (cxOf CX P w K mg base N B scope f cd A O s H E) [] (start N vs) H s1:=by
 have L:ps.length<=N.length:=by have:=congrArg BP S.pre;rw[Bo]at this;lia
 obtain⟨j,T,rfl,l⟩:=x.done;have o:∀b:Addr,b ∉ (cxOf CX P w K mg base N B scope f cd A O s H E).ex:=λb z=>absurd (show b∈([]:List Addr) from z) #[3];refine((e0.mod,S.kind,rfl,rfl,AU _,λy z c j d=>?_,λy Y=>?_,λy c _ h=>?_,λ_=>hd,Around.frames_deeper e0.frames,.inr (rfl,rfl),λb z=>absurd z (o b),e0.bs,e0.bsz,λb _ _=>o b,λb z=>absurd z (o b),e0.funs,e0.frf),
  rfl,e0.bare,Un.kept l,(_,x.toInCall.ns,λi y v j d t=>?_),λy c h=>(_,x.cell y c h),e0.hok.fresh (AU _),λy c h=>?_,λp g=>absurd (show p∈([]:Ax) from g) #[3],e0.hok.kept l,?_)
 ·exact name_of_addr x.apart (PySem.mem_of_lookup j)<|PySem.mem_of_lookup d
 ·have Y:scope.names.lookup y=some .cell\/scope.names.lookup y=some .free:=Y
  rcases Y with Y|Y
  ·exact Rx Y
  ·exact absurd rfl<|S.nofree _<|PySem.mem_of_lookup Y
 ·exact Cj<|x.above y c<|PySem.mem_of_lookup h
 ·have I:i<vs.length:=by
   unfold start at d;by_cases I:i<vs.length
   ·exact I
   ·rw[Cf (by simpa using I)]at d
    rw[GB]at d;split at d <;> cases d
  have m:vs[i]?=some v:=by
   unfold start at d;rw[DT (by simpa using I),Ad]at d;cases e:vs[i]? with
   |none=>exists 0,e,d
   |some a=>exists 0,e,d;rfl
  obtain⟨u,U,R⟩:=r.get m;have g:ps[i]?=some y:=by
   rw[<- S.pre,ME #[2]];exact j
  have D:ps.Nodup:=by rw[<- S.pre];exact S.nd.sublist<|List.take_sublist _ _
  refine(u,R,?_);rcases S.par y (Be g) with k|k
  ·exact .inl (k,Qb D g U k)
  ·obtain⟨c,e⟩:=Rx (n:=s.heap.objs.size+1) k
   refine .inr (.inl k,c,e,?_);have q:=x.cell y c e;rw[QC D g U (by show scope.names.lookup y≠_;rw[k];decide)]at q;exact q
 ·exact e0.hok.fresh<|Cj<|x.above y c<|PySem.mem_of_lookup h
 ·unfold start
  show _=N.length;rw[Ar,AJ,CU];lia
theorem Vr {CX:CXT}{P:Program}{w:World}{K:W.Frag}{mg:Str->Option Value}{base:Heap}{k:Nat}{f:Addr}{name qual:Str}{params:Arguments}{body:List Stmt}{scope:Scope}{dV kV doc pm cdv ct oc:Value}{an od:Option Addr}
  {osl:Array (Option Value)}{N ps:List Str}{sp:Sp}(lk:K.lookup f=some (oc,od,.func<|W.fnOf name qual params body scope dV kV doc pm an cdv ct,osl)) (hcd:W.codeIn K cdv qual=true) (S:FnScope N ps scope)
  (len:∀vs H Q E,sp vs H Q E->vs.length=ps.length)
  (hbody:∀(A:Around) (outer:List Env) (s:Shared) (H:Hp) (vs:List V) (Q:VK) (E:XK),Room k (A.deeper (envOfC qual scope s.heap.objs.size f cdv))->sp vs H Q E ->
   ∃t,PSs (cxOf CX P w K mg base N qual scope f cdv A outer s H E) body t/\t { nx:=λ_ H'=>Q .non H',rt:=Q } (start N vs) H) :
  FnOk P w K mg base CX (k+1) f (W.fnOf name qual params body scope dV kV doc pm an cdv ct) ps sp:=by
 refine(len,λA outer s H G U vs Q E R a B r p=>?_);have C:=len _ _ _ _ p;have X:K.In s.heap:=a.mod.kin.keeps λb o e=>(a.bs b o e).1;have m:s.heap.NoLimit:=a.mod.nolimit.keeps λb o e=>(a.bs b o e).1;have d:∀y∈ps.zip U,scope.names.lookup y.1=some .local\/(scope.names.lookup y.1=some .cell/\((cellsFrom (s.heap.objs.size+1) scope.names []).lookup y.1).isSome=true):=λ(n,v) hy=>by
  rcases S.par n (List.of_mem_zip hy).1 with q|q
  ·exact .inl q
  ·exact .inr (q,PySem.W.cellsFrom_some _ _ _ (.inl q))
 refine codeAny_call_function R.depth (X _ _ lk) rfl S.co S.gen rfl (PySem.W.codeRec_of X hcd)<|B _ _ _ _ ?_;refine wpAny_newFunctionEnv_cells S.kind d λl z j x=>?_;subst z;refine(m.keeps x.toInCall.keep,codeAny_func ?_);obtain⟨t,T,D⟩:=hbody A outer s H vs Q E (R.deeper _) p;have I:AH (cxOf CX P w K mg base N qual scope f cdv A outer s H E) [] (start N vs) H j:=Zte S R.hd a C r x;refine D2 (T [] j (start N vs) H _ I D) (λL g h=>?_) λe g h=>h;have i:∀{Z:St}{H':Hp}{v:V}{u:Value},AH (cxOf CX P w K mg base N qual scope f cdv A outer s H E) [] Z H' g -> RelV v u->Q v H' -> CE outer P w H s Q u g:=
  λ{Z H' v u} J c q=>(v,H',J.os,J.bare,J.base,J.hok,c,q)
 cases L with
 |ret u=>
  obtain⟨v,Z,H',J,c,q⟩:=h;exact i J c q
 |next=>
  obtain⟨Z,H',J,q⟩:=h;exact i (v:=V.non) (u:=Value.none) J rfl q
 |brk=>
  obtain⟨_,_,_,q⟩:=h;exact False.elim q
 |cont=>
  obtain⟨_,_,_,q⟩:=h;exact False.elim q
section
variable {X:Cx}{x:Str}{p pos:Pos}{e:Expr}{es:List Expr}{t:TA}{id T:String}{r:List V->Hp->VK->Prop}
def tCB (r:List V->Hp->VK->Prop) (t:TA):TE:=λZ H Q=>t Z H λs h=>r s h Q
theorem A0 (q:CallR X (.builtin id) r) (O:Gl X x) (hm:X.mg x=none) (Y:bootBuiltins x=some (.builtin id)) (j:PA X (e::es) t) (U:x ≠ "__name__":=by decide) (B:(x == ("__debug__":Str))=false:=by decide)
  (z:starEach (e::es) X.env=(false,eval e X.env)::starEach es X.env:=by rfl) (L:(backTo pos<|starEach es X.env).any (·.1)=false:=by rfl):PE X (.Call (.Name x p) (e::es) [] pos) (tCB r t):=by
 intro pins s Z H Q I h;refine wpAny_Call_Name_kw<|EJ I O hm Y ?_ U B;exact PyProof.Rows.callWith_builtin1 (thn (j pos pins s Z H _ I h) λus s1 (vs,H1,I1,r1,q1)=>q pins s1 Z H1 vs us Q I1 r1 q1) z L
theorem Ed (q:CallR X (.type T) r) (O:Gl X x) (hm:X.mg x=none) (Y:bootBuiltins x=some (.type T)) (j:PA X (e::es) t) (U:x ≠ "__name__":=by decide) (B:(x == ("__debug__":Str))=false:=by decide)
  (z:starEach (e::es) X.env=(false,eval e X.env)::starEach es X.env:=by rfl) (L:(backTo pos<|starEach es X.env).any (·.1)=false:=by rfl):PE X (.Call (.Name x p) (e::es) [] pos) (tCB r t):=by
 intro pins s Z H Q I h;refine wpAny_Call_Name_kw<|EJ I O hm Y ?_ U B;exact PyProof.Rows.callWith_type1 (thn (j pos pins s Z H _ I h) λus s1 (vs,H1,I1,r1,q1)=>q pins s1 Z H1 vs us Q I1 r1 q1) z L
theorem Zqq (j:CallR X (.type T) r) (q:Gl X x) (hm:X.mg x=none) (L:bootBuiltins x=some (.type T)) (z:x ≠ "__name__":=by decide) (B:(x == ("__debug__":Str))=false:=by decide) :
  PE X (.Call (.Name x p) [] [] pos) (tCB r tNil):=by
 intro pins s Z H Q I h;refine wpAny_Call_Name_kw<|EJ I q hm L ?_ z B;exact PyProof.Rows.callWith_type0<|j pins s Z H [] [] Q I .nil h
end
end L2
namespace HT
open PySem PyProof.Rows
def lexLt:List Int->List Int->Bool
 |[],[]=>false
 |[],_::_=>true
 |_::_,[]=>false
 |x::xs,y::ys=>if x=y then lexLt xs ys else decide (x<y)
theorem Zp8 (x y:Int) (xs ys:List Int):lexLt (x::xs) (y::ys)=if x=y then lexLt xs ys else decide (x<y):=rfl
theorem We:lexLt [] []=false:=rfl
theorem WV (y:Int) (ys:List Int):lexLt [] (y::ys)=true:=rfl
theorem WW (x:Int) (xs:List Int):lexLt (x::xs) []=false:=rfl
theorem Zxe (A:Around) (s:Shared) (a:Int) (t:Tok) (c:Int) (u:Tok):∃e,SeqAt.EqAt A s (.int a t) (.int c u) e/\(e=true↔a=c):=
 ((a == c),SeqAt.EqAt.int_int a t c u,#[3])
theorem Zwp (A:Around) (s:Shared) (a:Int) (t:Tok) (c:Int) (u:Tok) (prog:Program) (w:World) (E:Au) (Q:Au) (h:Q (.bool<|decide (a<c)) s) :
  wpAny (model prog w) A (richCompare .Lt (.int a t) (.int c u)) Q E s:=
 (PyProof.Rows.lt_int h:wpAny (model prog w) A (compareOp .Lt (.int a t) (.int c u)) Q E s)
section
open PySem.SeqAt
open PySem.AutoSeq1 (wpAny_loadPart')
open PySem.MeetsSeq PySem.MeetsSeq2 PySem.MeetsSeq3
theorem tuple_lt_ints (l b:Addr) (items items2:Array Value) (n n2:Nat) (dd dd2:Option Addr) (sl sl2:Array (Option Value)) (ns ms:List Int) (hi:IntsAre items.toList ns) (hj:IntsAre items2.toList ms) :
  Meets (Builtin.«tuple.__lt__» ([.ref l,.ref b],[]))
   (λ_ R s=>s.heap.get? l=some { cls:=.type "tuple",dict:=dd,data:=.seq items n,slots:=sl } /\ s.heap.get? b=some { cls:=.type "tuple",dict:=dd2,data:=.seq items2 n2,slots:=sl2 } /\
    R (.ok (.ret (.bool (lexLt ns ms)))) s):=
 .of_wp λo w A R s h=>by
  obtain⟨p,g,d,k,O⟩:=s;obtain⟨L,D,h⟩:=h;have J:=AutoSeq1.sub_tuple_tuple;have Z:items.size=ns.length:=by rw[<- hi.length];simp
  have K:items2.size=ms.length:=by rw[<- hj.length];simp
  wp_walk using wpAny_loadPart' L,wpAny_loadPart' D,wpAny_forIn_list _ (λr b j=>b.1=none/\j=(p,g,d,k,O) /\ ∃(V W:List Value) (S m:List Int),r=V.zip W /\
   IntsAre V S /\ IntsAre W m /\ S.length+items2.size=m.length+items.size/\R (.ok (.ret (.bool (lexLt S m)))) (p,g,d,k,O)) _
  case turn=>
   rintro⟨y,x⟩ r b j ⟨B,rfl,V,W,S,m,z,v,i,N,H⟩;cases v with
   |nil=>rw[List.zip_nil_left]at z;cases z
   |cons a t hvi'=>
    cases i with
    |nil=>rw[List.zip_nil_right]at z;cases z
    |cons c u hwi'=>
     rw[IT]at z;injection z with hyx hrest
     injection hyx with hy hx
     subst hy hx;rw[Zp8]at H;simp only[BH]at N;obtain⟨e,E,f⟩:=Zxe A.in1 (p,g,d,k,O) a t c u;refine AB<|E o w _ _ ?_;cases e with
     |true=>
      rw[AN (f.mp rfl)]at H
      wp_walk
      exact(rfl,rfl,_,_,_,_,hrest,hvi',hwi',#[2],H)
     |false=>
      rw[AK (λq=>absurd (f.mpr q) BV)]at H;have I:=Zwp A.in1 (p,g,d,k,O) a t c u o w
      wp_walk using I
      exact(_,rfl,by simpa using H)
  case fin=>
   rintro⟨F,G⟩ j ⟨B,rfl,V,W,S,m,z,v,i,N,H⟩;simp only at B;subst B;have C:lexLt S m=decide (items.size<items2.size):=by
    cases v with
    |nil=>
     cases i with
     |nil=>
      simp only[Dq]at N;rw[We];exact(BI #[2]).symm
     |cons c u hw=>
      simp only[Dq,BH]at N;rw[WV];exact(BD #[2]).symm
    |cons a t C=>
     cases i with
     |nil=>
      simp only[Dq,BH]at N;rw[WW];exact(BI #[2]).symm
     |cons c u hw=>
      exists 0,IT,z
   rw[C]at H
   wp_walk
   exact(_,rfl,by simpa [Builtin.Tuple.tupleCompareSizes] using H)
  case h=>
   exact(rfl,rfl,items.toList,items2.toList,ns,ms,rfl,hi,hj,#[2],h)
end
#check 5
theorem cat_tup (ht:IsTup s.heap t vs.toArray) (hb:IsTup s.heap b ws.toArray) (hv:vs≠[])
  (h1:ws=[]->Q (.ref t) s) (h2:ws≠[]->Q (.ref s.heap.objs.size) { s with heap:=s.heap.push { cls:=.type "tuple",data:=.seq (vs++ws).toArray } })
  (hsz:vs.length+ws.length<=sizeLine):wpAny (model prog w) A (binaryOp .Add (.ref t) (.ref b)) Q E s:=by
 obtain⟨⟨cls,D,data,L⟩,O,C,n,H⟩:=id ht;obtain⟨⟨S,d,a,l⟩,o,c,N,h⟩:=id hb;simp only at C H c h;subst C H c h;have e:vs.toArray++ws.toArray=(vs++ws).toArray:=#[3]
 by_cases hw:ws=[]
 ·exact concat_meets (_,O,rfl) (_,o,rfl) noFill_tuple_add seq_tuple_add PySem.F.slot_tuple_add PySem.F.entry_tuple_add (PySem.F.args_tuple_add_2 _ _)
   (tuple_addW1 t b vs.toArray ws.toArray n N D d L l (by simpa using hv) (by simp[hw])) (O,o,h1 hw)
 ·refine concat_meets (_,O,rfl) (_,o,rfl) noFill_tuple_add seq_tuple_add PySem.F.slot_tuple_add PySem.F.entry_tuple_add (PySem.F.args_tuple_add_2 _ _)
   (tuple_addW2 t b vs.toArray ws.toArray n N D d L l (by simpa using hv) (by simpa using hw) (by rw[BR,BR];exact hsz)) (O,o,?_)
  rw[e];exact h2 hw
def sIx (n d:Nat):Option Int->Nat
 |none=>d
 |some v=>if v<0 then (v+(n:Int)).toNat else min v.toNat n
theorem sIx_none (n d:Nat):sIx n d none=d:=rfl
theorem sIx_nat (n d k:Nat):sIx n d (some (k:Int))=min k n:=by
 show (if (k:Int)<0 then ((k:Int)+(n:Int)).toNat else min (k:Int).toNat n)=min k n;rw[AK #[2],BO]
theorem Uw (n d:Nat) (j:d<=n) (o:Option Int):sIx n d o<=n:=by
 cases o with
 |none=>exact j
 |some v=>
  show (if v<0 then (v+(n:Int)).toNat else min v.toNat n)<=n;by_cases hv:v<0
  ·rw[AN hv];lia
  ·rw[AK hv];exact Nat.min_le_right _ _
theorem SM (v:Int) (n d:Nat):(if v<0 then max (v+(n:Int)) 0 else min v (n:Int))=((sIx n d (some v):Nat):Int):=by
 show (if v<0 then max (v+(n:Int)) 0 else min v (n:Int))=(((if v<0 then (v+(n:Int)).toNat else min v.toNat n):Nat):Int);by_cases hv:v<0
 ·simp only[AN hv];lia
 ·simp only[AK hv];lia
theorem Zqj (lo hi:Option Int) (n:Nat):Builtin.Slice.sliceAdjust lo hi 1 (n:Int)=(((sIx n 0 lo:Nat):Int),((sIx n n hi:Nat):Int)):=by
 have h:¬ ((1:Int)<0):=#[2]
 unfold Builtin.Slice.sliceAdjust;simp only[h,if_false];refine Prod.ext ?_ ?_
 ·cases lo with
  |none=>rfl
  |some v=>exact SM v n 0
 ·cases hi with
  |none=>rfl
  |some v=>exact SM v n n
theorem Zpt (i j:Nat):Builtin.Slice.slicePlaces (i:Int) (j:Int) 1=j-i:=by
 unfold Builtin.Slice.slicePlaces;have h:(1:Int) > 0:=#[2]
 simp only[h,if_true,Int.ediv_one];split <;> lia
theorem NJ (p:IsPart v o) (h:Q o s):wpAny (model prog w) A (Builtin.Slice.slicePartIndex v) Q E s:=by
 cases p with
 |none=>exact slicePart_none h
 |int i t=>exact slicePart_int h
theorem O2 {j:Addr}{L U:Value}{lo hi:Option Int}{n:Nat}{Q:Int × Int × Nat->Shared->Prop}(hs:s.heap.IsSliceOf j L U .none) (pl:IsPart L lo) (q:IsPart U hi)
  (h:Q (((sIx n 0 lo:Nat):Int),1,sIx n n hi-sIx n 0 lo) s):wpAny (model prog w) A (Builtin.Slice.sliceApplied (.ref j)<|pure (n:Int)) Q E s:=by
 obtain⟨S,o,c,d⟩:=id hs;unfold Builtin.Slice.sliceApplied Builtin.Slice.sliceFields;refine AB<|AB<|wpAny_field o d (x:=L) rfl<|AB<|wpAny_field o d (x:=U) rfl<|AB<|wpAny_field o d (x:=.none) rfl<|AL ?_;refine AB<|slicePart_none ?_;show wpAny _ _ (if ((1:Int) == 0)=true then _ else _) _ _ s;rw[AK #[0]];refine AB<|NJ pl<|AB<|NJ q<|AB<|AL ?_;show wpAny _ _ (match Builtin.Slice.sliceAdjust lo hi 1 (n:Int) with|(lo,hi)=>pure ((lo,(1:Int),Builtin.Slice.slicePlaces lo hi 1):_×_×_)) _ _ s;rw[Zqj lo hi n];show wpAny _ _ (pure ((((sIx n 0 lo:Nat):Int),(1:Int),Builtin.Slice.slicePlaces ((sIx n 0 lo:Nat):Int) ((sIx n n hi:Nat):Int) 1):_×_×_)) _ _ s;rw[Zpt];exact AL h
theorem Zww (xs:Array Value) (i k:Nat):((AV k).filterMap λ(m:Nat)=>xs[((i:Int)+(m:Int)*1).toNat]?).toArray=((xs.toList.drop i).take k).toArray:=by
 have e:(λ(m:Nat)=>xs[((i:Int)+(m:Int)*1).toNat]?)=λm=>xs[i+m]?:=by
  funext m
  have:((i:Int)+(m:Int)*1).toNat=i+m:=#[2]
  rw[this]
 rw[e];have:=pick_run xs i k;rw[List.filterMap_map]at this;have E:((λx=>xs[x]?)∘λx=>i+x)=λm=>xs[i+m]?:=rfl;rw[E]at this;rw[this]
theorem getItem_tuple_cut {lo hi:Option Int}(ht:IsTup s.heap t items) (hs:s.heap.IsSliceOf sl vl vu .none) (pl:IsPart vl lo) (pu:IsPart vu hi)
  (hw:¬ (sIx items.size 0 lo=0/\sIx items.size items.size hi=items.size))
  (h:Q (.ref s.heap.objs.size) { s with heap:=s.heap.push { cls:=.type "tuple",data:=.seq ((items.toList.drop<|sIx items.size 0 lo).take (sIx items.size items.size hi-sIx items.size 0 lo)).toArray } })
  (hsz:items.size<=sizeLine):wpAny (model prog w) A (getItem (.ref t) (.ref sl)) Q E s:=by
 have e:sizeOk (.seq ((items.toList.drop<|sIx items.size 0 lo).take (sIx items.size items.size hi-sIx items.size 0 lo)).toArray):=by
  show ((items.toList.drop<|sIx items.size 0 lo).take (sIx items.size items.size hi-sIx items.size 0 lo)).toArray.size<=sizeLine;rw[BR,Bo,Dd,Array.length_toList];omega
 have j:sIx items.size items.size hi<=items.size:=Uw _ _ (AU _) hi;obtain⟨O,S,c,d⟩:=id hs;have T:s.TypeIs (.ref sl) "slice":=(O,S,c);unfold getItem
 try with_reducible refine CO ?_
 first|refine AB (AL ?_)|skip
 refine AB (wpAny_sequenceKey ht.typeIs #[0] ?_);refine AB (wpAny_callSpecial?_slot (name:=Str.ofString "__getitem__") ht.typeIs PyProof.Rows.slot_tuple_getitem
  (wpAny_call_entry PyProof.Rows.slot_tuple_getitem ht.typeIs entry_tuple_getitem ?_ (args_tuple_getitem _ _)))
 show wpAny _ _ (Builtin.Tuple.tupleItemsOf (.ref t) >>= _) _ _ s;refine AB<|tupleItemsOf_ ht ?_;refine AB<|wpAny_typeOf T ?_;rw[AN #[0]];refine AB<|O2 hs pl pu ?_;have o:¬ ((((sIx items.size 0 lo:Nat):Int) == 0 && (1:Int) == 1 && (sIx items.size items.size hi-sIx items.size 0 lo) == items.size)=true):=by
  intro q;rw[Cv,Cv]at q;have a:((sIx items.size 0 lo:Nat):Int)=0:=eq_of_beq q.1.1;have b:sIx items.size items.size hi-sIx items.size 0 lo=items.size:=eq_of_beq q.2;exact hw (#[2],#[4])
 show wpAny _ _ (if (((sIx items.size 0 lo:Nat):Int) == 0 && (1:Int) == 1 && (sIx items.size items.size hi-sIx items.size 0 lo) == items.size)=true then _ else _) _ _ s;rw[AK o,Zww]
 first
  |exact AB (m:=Builtin.Tuple.tupleExact _) (wpAny_newObj_type (AL (_,rfl,AL h)) e)
  |exact AB (m:=Builtin.Tuple.tupleExact _) (wpAny_newObj_type (AB (AL (AL (_,rfl,AL h)))) e)
  |exact AB (AB (m:=Builtin.Tuple.tupleExact _) (wpAny_newObj_type (AL (AL (_,rfl,AL h))) e))
  |exact AB (AB (m:=Builtin.Tuple.tupleExact _) (wpAny_newObj_type (AL (_,rfl,AL h)) e))
end
end HT
namespace L2
open PySem PySem.Spec PyProof.Rows
abbrev TO:=St->Hp->(Option Int->Hp->Prop)->Prop
def PO (X:Cx) (e:Option Expr) (t:TO):Prop:=
 ∀(pins:Ax) (s:Shared) (Z:St) (H:Hp) (Q:Option Int->Hp->Prop),AH X pins Z H s->t Z H Q ->
  wpAny (model X.prog X.w) X.A (evalPart e X.env) (λu S=>∃o H',AH X pins Z H' S /\ IsPart u o/\Q o H') X.xe s
def tNoPart:TO:=λ_ H Q=>Q none H
def tPart (t:TE):TO:=λZ H Q=>t Z H λx h=>∃i,x=.int i/\Q (some i) h
theorem K5:∀{us:List Value},Vals (ns.map V.int) us->IntsAre us ns:=by
 induction ns with
 |nil=>intro us r;exists 0,Gz,r;exact .nil
 |cons n ns ih=>
  intro us r;rw[Bz]at r;cases r with
  |cons r1 r2=>
   obtain⟨t,e⟩:=r1;subst e;exact .cons n t<|ih r2
section
variable {X:Cx}{e:Expr}{te:TE}{lo hi:Option Expr}{tl th:TO}{pos p2:Pos}
theorem E3:PO X none tNoPart:=by
 intro pins s Z H Q I h;rw[evalPart_none];exact AL (none,H,I,.none,h)
theorem FU (h:PE X e te):PO X (some e) (tPart te):=by
 intro pins s Z H Q I hw;rw[evalPart_some];refine thn (h pins s Z H _ I hw) λu s1 (x,H1,I1,r1,q1)=>?_;obtain⟨i,rfl,q⟩:=q1;obtain⟨t,rfl⟩:=r1;exact(some i,H1,I1,.int i t,q)
def SlR (X:Cx) (r:V->Option Int->Option Int->Hp->VK->Prop):Prop:=
 ∀(pins:Ax) (s:Shared) (Z:St) (H:Hp) (x:V) (v vl vu:Value) (lo hi:Option Int) (sl:Addr) (Q:VK),AH X pins Z H s->RelV x v->s.heap.IsSliceOf sl vl vu .none->IsPart vl lo->IsPart vu hi->r x lo hi H Q ->
  ∃T id,typeLookup (.type T) "__getitem__" = pure (some (.builtin id))/\s.TypeIs v T/\wpAny (model X.prog X.w) X.A (getItem v (.ref sl)) (EP X pins Z Q) X.xe s
theorem SlR.or (h:SlR X r) (h':SlR X r'):SlR X (λx lo hi H Q=>r x lo hi H Q\/r' x lo hi H Q):=by
 intro pins s Z H x v vl vu lo hi sl Q I rx hs pl pu q;rcases q with q|q
 ·exact h pins s Z H x v vl vu lo hi sl Q I rx hs pl pu q
 ·exact h' pins s Z H x v vl vu lo hi sl Q I rx hs pl pu q
def tSl (r:V->Option Int->Option Int->Hp->VK->Prop) (te:TE) (tl th:TO):TE:=λZ H Q=>te Z H λx h=>tl Z h λl a=>th Z a λu b=>r x l u b Q
theorem FV (hr:SlR X r) (he:PE X e te) (hl:PO X lo tl) (hu:PO X hi th):PE X (.Subscript e (.Slice lo hi none p2) pos) (tSl r te tl th):=by
 intro pins s Z H Q I h;refine Subscript_ (thn (he pins s Z H _ I h) λv s1 (x,H1,I1,r1,q1)=>?_);refine wpAny_Slice (thn (hl pins s1 Z H1 _ I1 q1) λvl s2 (l,H2,I2,pl,q2)=>thn (hu pins s2 Z H2 _ I2 q2) λvu s3 (u,H3,I3,pu,q3)=>?_);rw[evalPart_none];refine AL ?_;have i:AH X pins Z H3 { s3 with heap:=s3.heap.push { cls:=.type "slice",data:=.fields #[vl,vu,.none] } }:=I3.kept (t':=s3.toks) λb o q=>Ap _ q;obtain⟨T,id,t,a,g⟩:=hr pins { s3 with heap:=s3.heap.push { cls:=.type "slice",data:=.fields #[vl,vu,.none] } } Z H3 x v vl vu l u s3.heap.objs.size Q i r1 (Heap.IsSliceOf.new ..) pl pu q3;show wpAny (model X.prog X.w) X.A (subscriptTail e (.Slice lo hi none p2) v (.ref s3.heap.objs.size)) (EP X pins Z Q) X.xe { s3 with heap:=s3.heap.push { cls:=.type "slice",data:=.fields #[vl,vu,.none] } };exact tail_any (ops:=[.ref s3.heap.objs.size,v]) a t g (by with_unfolding_all rfl)
def cutV (xs:List V) (lo hi:Option Int):List V:=(xs.drop<|HT.sIx xs.length 0 lo).take (HT.sIx xs.length xs.length hi-HT.sIx xs.length 0 lo)
theorem PQ (xs:List V) (lo hi:Option Int):(cutV xs lo hi).length<=xs.length:=by
 unfold cutV;rw[Bo,Dd];lia
def rSlT (K:W.Frag):V->Option Int->Option Int->Hp->VK->Prop:=λx o i H Q=>∃a xs,x=.ref a/\SqT K H a xs /\
 ¬ (HT.sIx xs.length 0 o=0/\HT.sIx xs.length xs.length i=xs.length)/\∀p,H p=none->Q (.ref p) (upd H p (.tup<|cutV xs o i))
theorem VQ:SlR X (rSlT X.K):=by
 intro pins s Z H x v vl vu lo hi sl Q I rx hs pl pu h;obtain⟨a,S,rfl,c,w,q⟩:=h;cases rx;obtain⟨t,r,T,z⟩:=I.tuple c;have n:t.toArray.size=S.length:=by rw[BR];exact r.length.symm
 refine("tuple",_,PyProof.Rows.slot_tuple_getitem.lookup,T.typeIs,?_);refine HT.getItem_tuple_cut T hs pl pu (by rw[n];exact w) ?_ (by rw[n];exact z);rw[n];refine(.ref s.heap.objs.size,_,I.laid (t':=s.toks) (o:=.tup<|cutV S lo hi) (λb B q=>Ap _ q) (AU _) ?_,rfl,q _<|I.hok.fresh<|AU _);exact(Bg (PQ S lo hi) z,_,(r.drop<|HT.sIx S.length 0 lo).take (HT.sIx S.length S.length hi-HT.sIx S.length 0 lo),IsTupN.new _ _)
def rCatT (K:W.Frag):R2:=λx y H Q=>∃a b xs ys,x=.ref a/\y=.ref b/\SqT K H a xs/\SqT K H b ys/\xs≠[]/\xs.length+ys.length<=sizeLine /\
 (ys=[]->Q (.ref a) H)/\(ys≠[]->∀p,H p=none->Q (.ref p) (upd H p (.tup<|xs++ys)))
theorem Vals.nil_iff (r:Vals xs us):us=[]↔xs=[]:=by
 cases r with
 |nil=>simp
 |cons _ _=>simp
theorem Zyx:OpR X (binaryOp .Add) (rCatT X.K):=by
 intro pins s Z H x y v u Q I rx ry h;obtain⟨a,b,S,Y,rfl,rfl,A,B,d,c,e,f⟩:=h;cases rx;cases ry;obtain⟨i,R,p,_⟩:=I.tuple A;obtain⟨t,r,P,_⟩:=I.tuple B;refine HT.cat_tup p P (λz=>d<|R.nil_iff.mp z) (λz=>(.ref a,H,I,rfl,e<|r.nil_iff.mp z)) (λz=>?_) (by rw[<- R.length,<- r.length];exact c);refine(.ref s.heap.objs.size,_,I.laid (t':=s.toks) (o:=.tup<|S++Y) (λb O q=>Ap _ q) (AU _) ?_,rfl,f (λw=>z<|r.nil_iff.mpr w) _<|I.hok.fresh<|AU _);exact(by rw[Ar];exact c,_,R.append r,IsTupN.new _ _)
end
def ixN (n:Nat) (i:Int):Option Nat:=if 0<=i then (if i<n then some i.toNat else none) else if -(n:Int)<=i then some (i+n).toNat else none
def atI {α:Type}(xs:List α) (i:Int):Option α:=(ixN xs.length i).bind λj=>xs[j]?
theorem S6 (h:ixN n i=some j):seqIndex? i n=some j/\j<n /\ -(n:Int)<=i/\i<n:=by
 unfold ixN at h;by_cases h0:0<=i
 ·rw[AN h0]at h
  by_cases h1:i<n
  ·rw[AN h1]at h
   have e:i.toNat=j:=CL.inj h;exact(by rw[seqIndex_of h0 h1,e],#[2],#[2],h1)
  ·rw[AK h1]at h;cases h
 ·rw[AK h0]at h
  by_cases h1:-(n:Int)<=i
  ·rw[AN h1]at h
   have e:(i+n).toNat=j:=CL.inj h;exact(by rw[seqIndex_neg #[2] h1,e],#[2],h1,#[2])
  ·rw[AK h1]at h;cases h
theorem Nx (h:atI xs i=some v):∃j,seqIndex? i xs.length=some j/\xs[j]?=some v/\j<xs.length /\ -(xs.length:Int)<=i/\i<xs.length:=by
 unfold atI at h;cases e:ixN xs.length i with
 |none=>exists 0,e,h
 |some j=>
  rw[e]at h;obtain⟨H,a,b,c⟩:=S6 e;exact(j,H,h,a,b,c)
theorem Ck {xs:List α}{j:Nat}{v:α}(h:xs[j]?=some v):atI xs (j:Int)=some v:=by
 have J:j<xs.length:=(BQ.mp h).1;have e:ixN xs.length (j:Int)=some j:=by
  unfold ixN;rw[AN #[2],AN #[2]];simp
 unfold atI;rw[e];exact h
theorem Zv9 (xs:List α) (v:α):atI (xs++[v]) (-1)=some v:=by
 have l:(xs++[v]).length=xs.length+1:=#[3]
 have e:ixN (xs++[v]).length (-1)=some xs.length:=by
  unfold ixN;rw[l,AK #[0],AN #[2]];congr 1;lia
 unfold atI;rw[e];show (xs++[v])[xs.length]?=some v;simp
def PlainIx (b:Expr):Prop:=∀o i,subscripted b false o i=operate [o,i] (getItem o i)
def IxR (X:Cx) (r:R2):Prop:=
 ∀(value slice:Expr) (pins:Ax) (s:Shared) (Z:St) (H:Hp) (x y:V) (v u:Value) (Q:VK),AH X pins Z H s->RelV x v->RelV y u->r x y H Q ->
  subscripted slice false v u=operate [v,u] (getItem v u)->wpAny (model X.prog X.w) X.A (subscriptTail value slice v u) (EP X pins Z Q) X.xe s
def MtR (X:Cx) (id:String) (r:V->List V->Hp->VK->Prop):Prop:=
 ∀(pins:Ax) (s:Shared) (Z:St) (H:Hp) (x:V) (xs:List V) (v:Value) (us:List Value) (Q:VK),AH X pins Z H s->RelV x v->Vals xs us->r x xs H Q ->
  wpAny (model X.prog X.w) X.A (call (.builtin id) (v::us)) (EP X pins Z Q) X.xe s
section
variable {X:Cx}{a b:Expr}{ta tb:TE}{pos:Pos}
theorem IxR.or (h:IxR X r) (h':IxR X r'):IxR X (λx y H Q=>r x y H Q\/r' x y H Q):=by
 intro value slice pins s Z H x y v u Q I rx ry q hs;rcases q with q|q
 ·exact h value slice pins s Z H x y v u Q I rx ry q hs
 ·exact h' value slice pins s Z H x y v u Q I rx ry q hs
theorem Ag (z:IxR X r) (j:PE X a ta) (B:PE X b tb) (hs:PlainIx b):PE X (.Subscript a b pos) (tOp r ta tb):=by
 intro pins s Z H Q I h;exact Subscript_ (binT j B I h λv u S x y c i R Y q=>z a b pins S Z c x y v u Q i R Y q<|hs _ _)
def rIxL (K:W.Frag):R2:=λx y H Q=>∃p xs i v,x=.ref p/\y=.int i/\SqL K H p xs/\atI xs i=some v/\Q v H
def rIxT (K:W.Frag):R2:=λx y H Q=>∃p xs i v,x=.ref p/\y=.int i/\SqT K H p xs/\atI xs i=some v/\Q v H
def rIxS:R2:=λx y H Q=>∃z i c,x=.str z/\y=.int i/\z.length<=sizeLine/\atI z.cps.toList i=some c/\Q (.str ⟨#[c]⟩) H
theorem Zy0:IxR X (rIxL X.K):=by
 intro value slice pins s Z H x y v u Q I rx ry h hs;obtain⟨p,o,i,z,rfl,rfl,f,E,q⟩:=h;cases rx;obtain⟨t,rfl⟩:=ry;obtain⟨S,r,l,m⟩:=I.list f;obtain⟨j,a,b,k,c,d⟩:=Nx E;obtain⟨w,e,W⟩:=r.get b;have L:=r.length;have N:=line63;have n:EP X pins Z Q w s:=(z,H,I,W,q);by_cases h0:0<=i
 ·have J:i.toNat=j:=by
   rw[seqIndex_of h0 d]at a;exact CL.inj a
  exact item_listR l.isList h0 #[2] (by rw[J];simpa using e) n hs
 ·have J:(i+(S.toArray.size:Int)).toNat=j:=by
   rw[seqIndex_neg #[2] c]at a;rw[BR,<- L];exact CL.inj a
  exact subscriptTail_builtinR (x:=w) l.isList.typeIs slot_list_getitem.lookup
   (wpAny_getItem_list_neg (Q:=λr g=>r=w/\EP X pins Z Q r g) l.isList #[4] (by rw[BR] <;> lia) #[2] (by rw[J];simpa using e) (rfl,n)) hs
theorem Ur:IxR X (rIxT X.K):=by
 intro value slice pins s Z H x y v u Q I rx ry h hs;obtain⟨p,o,i,z,rfl,rfl,c,E,q⟩:=h;cases rx;obtain⟨t,rfl⟩:=ry;obtain⟨S,r,l,m⟩:=I.tuple c;obtain⟨j,a,b,f,g,k⟩:=Nx E;obtain⟨w,e,W⟩:=r.get b;have L:=r.length;have N:=line63;have n:EP X pins Z Q w s:=(z,H,I,W,q);exact subscriptTail_builtinR (x:=w) l.typeIs slot_tuple_getitem.lookup
  (getItem_tuple (j:=j) (Q:=λr d=>r=w/\EP X pins Z Q r d) l #[2] #[2] (by rw[BR,<- L];exact a) (by simpa using e) (rfl,n)) hs
theorem VL:IxR X rIxS:=by
 intro value slice pins s Z H x y v u Q I rx ry h hs;obtain⟨z,i,c,rfl,rfl,m,g,q⟩:=h;obtain⟨t,rfl⟩:=rx;obtain⟨T,rfl⟩:=ry;obtain⟨j,a,b,k,d,f⟩:=Nx g;have l:z.cps.toList.length=z.length:=by simp[Str.length]
 rw[l]at a d f;have n:=line63;exact tail_any (typeIs_str s z t) slot_str_getitem.lookup (getItem_str (c:=c) (by
  have e:decide (i < -(2 ^ 63:Int))=false:=BI #[2];have E:decide (i >= 2 ^ 63)=false:=BI #[2];rw[e,E,Bool.or_false]) (by rw[a];simpa using b) (.str ⟨#[c]⟩,H,I.tok _,(_,rfl),q)) hs
def rIx (K:W.Frag):R2:=λx y H Q=>rIxL K x y H Q\/rIxT K x y H Q\/rIxS x y H Q
theorem Um:IxR X (rIx X.K):=Zy0.or<|Ur.or VL
theorem Zqm (its:List Value) (n j:Nat) (u:Value):Obj.mapSeq (·.setIfInBounds j u) { cls:=.type "list",data:=.seq its.toArray n } = { cls:=.type "list",data:=.seq (its.set j u).toArray n }:=by
 simp[Obj.mapSeq]
theorem AH.lst {pins:Ax}{Z:St}{H:Hp}{s:Shared}{p:Addr}{xs:List V}(I:AH X pins Z H s) (h:H p=some (.lst xs)) :
  ∃(its:List Value) (n:Nat),Vals xs its/\s.heap.get? p=some { cls:=.type "list",data:=.seq its.toArray n } /\ xs.length<=sizeLine:=by
 obtain⟨z,its,n,r,e⟩:=I.hok p _ h;exact(its,n,r,e,z)
theorem AH.lstUpd {pins:Ax}{Z:St}{H:Hp}{s:Shared}{p:Addr}{xs ys:List V}{its its':List Value}{n n':Nat}{f:Obj->Obj}(I:AH X pins Z H s) (h:H p=some (.lst xs))
  (ho:s.heap.get? p=some { cls:=.type "list",data:=.seq its.toArray n }) (hf:f { cls:=.type "list",data:=.seq its.toArray n } = { cls:=.type "list",data:=.seq its'.toArray n' }) (r:Vals ys its') (hz:ys.length<=sizeLine) (t:Nat) :
  AH X pins Z (upd H p (.lst ys)) { s with heap:=s.heap.update p f,toks:=t }:=by
 have e:(s.heap.update p f).get? p=some { cls:=.type "list",data:=.seq its'.toArray n' }:=by
  rw[GD f ho (by rw[hf] <;> rfl),hf]
 refine I.write (x:=p) (e:=p) (by rw[h];trivial) (.inl rfl) (λb u B q=>(Gy _ _<|Ne.symm B).trans q) (_,e) ?_;exact(hz,its',n',r,e)
def rSetL:V->V->V->Hp->(Hp->Prop)->Prop:=λo i v H Q=>∃p xs k j,o=.ref p/\i=.int k/\H p=some (.lst xs)/\ixN xs.length k=some j/\Q (upd H p (.lst<|xs.set j v))
theorem Zvh:PSet X rSetL:=by
 intro pins s Z H o i v ov iv u Q I ro ri rv h;obtain⟨p,x,k,j,rfl,rfl,P,J,q⟩:=h;cases ro;obtain⟨t,rfl⟩:=ri;obtain⟨S,n,r,O,z⟩:=I.lst P;obtain⟨a,e,c,d⟩:=S6 J;have l:=r.length;have N:=line63;have b:AH X pins Z (upd H p (.lst<|x.set j v)) { s with heap:=s.heap.update p (Obj.mapSeq (·.setIfInBounds j u)) }:=
  I.lstUpd P O (Zqm S n j u) (r.set rv j) (by rw[IZ];exact z) s.toks
 by_cases h0:0<=k
 ·have K:k.toNat=j:=by
   rw[seqIndex_of h0 d]at a;exact CL.inj a
  exact PySem.W.ki_setAt O h0 #[2] (by rw[BR,<- l];exact d) (by rw[K];exact(_,b,q))
 ·have K:(k+(S.toArray.size:Int)).toNat=j:=by
   rw[seqIndex_neg #[2] c]at a;rw[BR,<- l];exact CL.inj a
  exact PySem.W.ki_setBack O #[4] (by rw[BR,<- l];exact c) #[2] (by rw[K];exact(_,b,q))
theorem Ww (lo hi:Option Int) (n:Nat):(sliceBounds lo hi none n).1=((HT.sIx n 0 lo:Nat):Int)/\(sliceBounds lo hi none n).2.1=((HT.sIx n n hi:Nat):Int)/\(sliceBounds lo hi none n).2.2=1:=by
 refine(?_,?_,rfl)
 ·cases lo with
  |none=>simp[sliceBounds,HT.sIx]
  |some i=>
   simp only[sliceBounds,HT.sIx,MS,show (1:Int) > 0 by decide,if_true];by_cases h:i<0
   ·simp only[h,if_true] <;> lia
   ·simp only[h,if_false] <;> lia
 ·cases hi with
  |none=>simp[sliceBounds,HT.sIx]
  |some i=>
   simp only[sliceBounds,HT.sIx,MS,show (1:Int) > 0 by decide,if_true];by_cases h:i<0
   ·simp only[h,if_true] <;> omega
   ·simp only[h,if_false] <;> omega
theorem WY (its:List Value) (lo hi:Option Int):slicePick its.toArray lo hi none=((its.drop<|HT.sIx its.length 0 lo).take (HT.sIx its.length its.length hi-HT.sIx its.length 0 lo)).toArray:=by
 obtain⟨h,H,a⟩:=Ww lo hi its.toArray.size;unfold slicePick;rw[h,H,a];simp only[sliceRange_one,pick_run,BR] <;> rfl
def rSlL (K:W.Frag):V->Option Int->Option Int->Hp->VK->Prop:=λx o i H Q=>∃a xs,x=.ref a/\SqL K H a xs/\∀p,H p=none->Q (.ref p) (upd H p (.lst<|cutV xs o i))
theorem Zyw:SlR X (rSlL X.K):=by
 intro pins s Z H x v vl vu lo hi sl Q I rx hs pl pu h;obtain⟨a,S,rfl,c,q⟩:=h;cases rx;obtain⟨i,r,t,z⟩:=I.list c;have n:=r.length;refine("list",_,slot_list_getitem.lookup,t.isList.typeIs,?_);refine wpAny_getItem_list_slice t.isList hs pl pu .none #[3] ?_ (by rw[BR] <;> lia)
 rw[WY,<- n];refine(.ref s.heap.objs.size,_,I.laid (t':=s.toks) (o:=.lst<|cutV S lo hi) (λb B q=>Ap _ q) (AU _) ?_,rfl,q _<|I.hok.fresh<|AU _);exact(Bg (PQ S lo hi) z,_,0,(r.drop<|HT.sIx S.length 0 lo).take (HT.sIx S.length S.length hi-HT.sIx S.length 0 lo),Bn _ rfl)
def flatV:V->Bool
 |.non=>true
 |.bl _=>true
 |.int _=>true
 |.str _=>true
 |_=>false
def eqV:V->V->Bool
 |.non,.non=>true
 |.bl a,.bl b=>a == b
 |.bl a,.int b=>(if a then 1 else 0) == b
 |.int a,.bl b=>a == (if b then 1 else 0)
 |.int a,.int b=>a == b
 |.str a,.str b=>a == b
 |_,_=>false
theorem Te (Y:RelV y u) (j:RelV x v) (z:flatV y=true) (q:flatV x=true):SeqAt.EqAt A s u v (eqV y x):=by
 cases y with
 |non=>
  cases Y;cases x with
  |non=>cases j;exact SeqAt.EqAt.same _
  |bl b=>cases j;exact SeqAt.EqAt.none_bool b
  |int b=>obtain⟨t,rfl⟩:=j;exact SeqAt.EqAt.none_int b t
  |str b=>obtain⟨t,rfl⟩:=j;exact SeqAt.EqAt.none_str b t
  |_=>exact absurd (show false=true from q) BV
 |bl a=>
  cases Y;cases x with
  |non=>cases j;exact SeqAt.EqAt.bool_none a
  |bl b=>cases j;exact SeqAt.EqAt.bool_bool a b
  |int b=>obtain⟨t,rfl⟩:=j;exact SeqAt.EqAt.bool_int a b t
  |str b=>obtain⟨t,rfl⟩:=j;exact SeqAt.EqAt.bool_str a b t
  |_=>exact absurd (show false=true from q) BV
 |int a=>
  obtain⟨T,rfl⟩:=Y;cases x with
  |non=>cases j;exact SeqAt.EqAt.int_none a T
  |bl b=>cases j;exact SeqAt.EqAt.int_bool a T b
  |int b=>obtain⟨t,rfl⟩:=j;exact SeqAt.EqAt.int_int a T b t
  |str b=>obtain⟨t,rfl⟩:=j;exact SeqAt.EqAt.int_str a T b t
  |_=>exact absurd (show false=true from q) BV
 |str a=>
  obtain⟨T,rfl⟩:=Y;cases x with
  |non=>cases j;exact SeqAt.EqAt.str_none a T
  |bl b=>cases j;exact SeqAt.EqAt.str_bool a T b
  |int b=>obtain⟨t,rfl⟩:=j;exact SeqAt.EqAt.str_int a T b t
  |str b=>obtain⟨t,rfl⟩:=j;exact SeqAt.EqAt.str_str a T b t
  |_=>exact absurd (show false=true from q) BV
 |_=>exact absurd (show false=true from z) BV
def eqU (x:V) (u:Value):Bool:=match u with
 |.none=>eqV .non x
 |.bool b=>eqV (.bl b) x
 |.int i _=>eqV (.int i) x
 |.str z _=>eqV (.str z) x
 |_=>false
theorem Lu (r:RelV y u) (f:flatV y=true):eqU x u=eqV y x:=by
 cases y with
 |non=>cases r;rfl
 |bl b=>cases r;rfl
 |int i=>obtain⟨t,rfl⟩:=r;rfl
 |str z=>obtain⟨t,rfl⟩:=r;rfl
 |_=>exact absurd (show false=true from f) BV
theorem Jg:∀{xs:List V}{us:List Value},Vals xs us->xs.all flatV=true->us.any (eqU x)=xs.any λy=>eqV y x
 |_,_,.nil,_=>rfl
 |y::xs,u::us,.cons r t,f=>by
  rw[List.all_cons,Cv]at f;rw[Es,Es,Lu r f.1,Jg t f.2]
theorem JN (q:RelV x v) (j:flatV x=true):∀{xs:List V}{us:List Value},Vals xs us->xs.all flatV=true->∀u∈us,SeqAt.EqAt A s u v (eqU x u)
 |_,_,.nil,_=>λu h=>by cases h
 |y::xs,u::us,.cons r t,f=>λU h=>by
  rw[List.all_cons,Cv]at f;rcases A5.mp h with rfl|h
  ·rw[Lu r f.1];exact Te r q f.1 j
  ·exact JN q j t f.2 U h
def inV (x:V) (xs:List V):Bool:=xs.any λy=>eqV y x
def rIn (K:W.Frag) (neg:Bool):R2:=λx y H Q=>∃p xs,y=.ref p/\(SqL K H p xs\/SqT K H p xs)/\flatV x=true/\xs.all flatV=true/\Q (.bl (if neg then !inV x xs else inV x xs)) H
theorem Zr9:OpR X (compareOp .In) (rIn X.K false):=by
 intro pins s Z H x y v u Q I rx ry h;obtain⟨p,S,rfl,a,F,f,q⟩:=h;cases ry;rcases a with a|a
 ·obtain⟨t,r,l,z⟩:=I.list a
  refine SeqAt.in_listAt (eqU x) l.isList (λw W=>JN rx F r f w (by simpa using W)) (.bl _,H,I,rfl,?_);rw[show t.toArray.any (eqU x)=t.any (eqU x) by simp,Jg r f];exact q
 ·obtain⟨t,r,l,z⟩:=I.tuple a
  refine SeqAt.in_tupleAt (eqU x) l (λw W=>JN rx F r f w (by simpa using W)) (.bl _,H,I,rfl,?_);rw[show t.toArray.any (eqU x)=t.any (eqU x) by simp,Jg r f];exact q
theorem Wh:OpR X (compareOp .NotIn) (rIn X.K true):=by
 intro pins s Z H x y v u Q I rx ry h;obtain⟨p,S,rfl,a,F,f,q⟩:=h;cases ry;rcases a with a|a
 ·obtain⟨t,r,l,z⟩:=I.list a
  refine SeqAt.notIn_listAt (eqU x) l.isList (λw W=>JN rx F r f w (by simpa using W)) (.bl _,H,I,rfl,?_);rw[show t.toArray.any (eqU x)=t.any (eqU x) by simp,Jg r f];exact q
 ·obtain⟨t,r,l,z⟩:=I.tuple a
  refine SeqAt.notIn_tupleAt (eqU x) l (λw W=>JN rx F r f w (by simpa using W)) (.bl _,H,I,rfl,?_);rw[show t.toArray.any (eqU x)=t.any (eqU x) by simp,Jg r f];exact q
theorem Wg:CallR X (.builtin "len") (λxs H Q=>∃p ys,xs=[.ref p]/\(SqL X.K H p ys\/SqT X.K H p ys)/\Q (.int ys.length) H):=by
 intro pins s Z H xs us Q I r h;obtain⟨p,ys,rfl,a,q⟩:=h;obtain⟨u,rfl,x⟩:=vals1 r;cases x;have N:=line63;rcases a with a|a
 ·obtain⟨t,R,l,z⟩:=I.list a
  have n:=R.length;exact Calls.call_len_list l.isList (by simp only[BR] <;> lia) (.int ys.length,H,I.tok _,(s.toks+1,by rw[BR,n]),q)
 ·obtain⟨t,R,l,z⟩:=I.tuple a
  have n:=R.length;exact len_tuple l (by simp only[BR] <;> omega) (.int ys.length,H,I.tok _,(s.toks+1,by rw[BR,n]),q)
theorem CallR.or (h:CallR X f r) (h':CallR X f r'):CallR X f (λxs H Q=>r xs H Q\/r' xs H Q):=by
 intro pins s Z H xs us Q I rs q;rcases q with q|q
 ·exact h pins s Z H xs us Q I rs q
 ·exact h' pins s Z H xs us Q I rs q
theorem Wo:CallR X (.type "list") (λxs H Q=>∃p ys,xs=[.ref p]/\(SqL X.K H p ys\/SqT X.K H p ys)/\∀l,H l=none->Q (.ref l) (upd H l (.lst ys))):=by
 intro pins s Z H xs us Q I r h;obtain⟨p,ys,rfl,d,q⟩:=h;obtain⟨u,rfl,x⟩:=vals1 r;cases x;have i:∀(t:List Value),Vals ys t->ys.length<=sizeLine->∀(a:Heap) (c:Nat),(∀b o',s.heap.get? b=some o' -> a.get? b=some o') ->
   a.get? s.heap.objs.size=some { cls:=.type "list",dict:=none,data:=.seq t.toArray c,slots:=#[] } -> EP X pins Z Q (.ref s.heap.objs.size) { s with heap:=a }:=λt R z a c k e=>
  (.ref s.heap.objs.size,_,I.laid (t':=s.toks) k (AU _) (show ObjOk X.prog X.w _ a _ (.lst ys) from (z,t,c,R,e)),rfl,q _<|I.hok.fresh<|AU _)
 rcases d with d|d
 ·obtain⟨t,R,L,z⟩:=I.list d
  have N:=R.length;obtain⟨o,O,C,n,D⟩:=L.isList;exact call_list_seq p (.inl rfl) O C D (λa c k e=>i t R z a c k e) (by simp only[BR] <;> omega)
 ·obtain⟨t,R,L,z⟩:=I.tuple d
  have N:=R.length;obtain⟨o,O,C,n,D⟩:=L;exact call_list_seq p (.inr rfl) O C D (λa c k e=>i t R z a c k e) (by simp only[BR] <;> omega)
theorem Wj:CallR X (.type "tuple") (λxs H Q=>∃p ys,xs=[.ref p]/\((SqL X.K H p ys/\∀l,H l=none->Q (.ref l) (upd H l (.tup ys)))\/(SqT X.K H p ys/\Q (.ref p) H))):=by
 intro pins s Z H xs us Q I r h;obtain⟨p,ys,rfl,h⟩:=h;obtain⟨u,rfl,x⟩:=vals1 r;cases x;rcases h with ⟨c,q⟩|⟨c,q⟩
 ·obtain⟨t,R,L,z⟩:=I.list c
  have n:=R.length;refine call_tuple_list L.isList (λa k=>?_) (by simp only[BR] <;> omega)
  have i:AH X pins Z H { s with heap:=a }:=I.kept (t':=s.toks) k;have d:AH X pins Z (upd H a.objs.size (.tup ys)) { s with heap:=a.push { cls:=.type "tuple",data:=.seq t.toArray } }:=
   i.laid (t':=s.toks) (λb o e=>Ap _ e) (AU _) (show ObjOk X.prog X.w _ _ _ (.tup ys) from (z,t,R,IsTupN.new _ _))
  exact(.ref a.objs.size,_,d,rfl,q _<|i.hok.fresh<|AU _)
 ·obtain⟨t,R,L,z⟩:=I.tuple c
  exact call_tuple_same L (.ref p,H,I,rfl,q)
def tyV (K:W.Frag) (T:String) (x:V) (H:Hp):Prop:=match x with
 |.str _=>T = "str"
 |.int _=>T = "int"
 |.ref p=>(T = "list" /\ ∃xs,SqL K H p xs)\/(T = "tuple" /\ ((∃o,K.lookup p=some o/\o.cls=.type "tuple" /\ o.dict=none)\/∃xs,H p=some (.tup xs))) \/
   (T = "dict" /\ ((∃kvs,H p=some (.dK kvs))\/∃kvs,H p=some (.dT kvs)))\/(T = "set" /\ ∃S n,H p=some (.set S n))
 |_=>False
theorem TC {pins:Ax}{Z:St}{H:Hp}{s:Shared}{T:String}{x:V}{v:Value}(I:AH X pins Z H s) (r:RelV x v) (ty:tyV X.K T x H) :
  s.TypeIs v T/\∀a,v=.ref a->∃ob,s.heap.get? a=some ob/\ob.dict=none:=by
 cases x with
 |str z=>
  obtain⟨t,rfl⟩:=r;cases (show T = "str" from ty);exact(typeIs_str s z t,λ_ e=>nomatch e)
 |int i=>
  obtain⟨t,rfl⟩:=r;cases (show T = "int" from ty);exact(typeIs_int s i t,λ_ e=>nomatch e)
 |ref p=>
  cases r;rcases ty with ⟨rfl,j,q⟩|⟨rfl,(⟨o,k,h,d⟩|⟨j,k⟩)⟩|⟨rfl,k⟩|⟨rfl,S,n,k⟩
  ·obtain⟨g,_,l,_⟩:=I.list q
   refine(l.isList.typeIs,λa e=>?_);cases e;obtain⟨o,n,e,c,d,_⟩:=l;exact(o,e,d)
  ·refine((o,I.kIn p o k,h),λa e=>?_)
   cases e;exact(o,I.kIn _ o k,d)
  ·obtain⟨_,_,_,o,e,⟨h,_⟩,d⟩:=I.hok p _ k
   refine((o,e,h),λa b=>?_);cases b;exact(o,e,d)
  ·have z:∃o,s.heap.get? p=some o/\o.ExactDict:=by
    rcases k with ⟨f,k⟩|⟨f,k⟩
    ·obtain⟨_,_,_,_,o,_,_,e,E,_⟩:=I.hok p _ k
     exact(o,e,E)
    ·obtain⟨_,_,_,_,o,_,_,e,E,_⟩:=I.hok p _ k
     exact(o,e,E)
   obtain⟨o,e,E⟩:=z;refine((o,e,E.1),λa b=>?_);cases b;exact(o,e,E.2.1)
  ·obtain⟨o,_,_,_,e,E,_⟩:=I.hok p _ k
   refine((o,e,E.1),λa b=>?_);cases b;exact(o,e,E.2.1)
 |_=>exact False.elim ty
def tBM0 (K:W.Frag) (T:String) (r:V->List V->Hp->VK->Prop) (to:TE):TE:=λZ H Q=>to Z H λx h=>tyV K T x h/\r x [] h Q
def tBM (K:W.Frag) (T:String) (r:V->List V->Hp->VK->Prop) (to:TE) (t:TA):TE:=λZ H Q=>to Z H λx h=>tyV K T x h/\t Z h λs a=>r x s a Q
variable {o e:Expr}{es:List Expr}{to:TE}{t:TA}{name:Str}{apos cpos:Pos}{T id:String}{r:V->List V->Hp->VK->Prop}
theorem Vl (j:PlainAttrs T) (O:Slot T name id) (Y:typeOf (.builtin id)=pure (.type "method_descriptor")) (hm:MtR X id r) (ho:PE X o to)
  (B:attributeBase o name X.env (eval o X.env)=eval o X.env:=by rfl) (L:(apos.endLine == cpos.line)=true:=by rfl):PE X (.Call (.Attribute o name apos) [] [] cpos) (tBM0 X.K T r to):=by
 intro pins s Z H Q I h;refine wpAny_Call_method0_late B L (thn (ho pins s Z H _ I h) λv s1 (x,H1,I1,r1,ty,q1)=>?_);obtain⟨a,b⟩:=TC I1 r1 ty;exact(T,id,j,O,Y,a,b,Calls.callWith_builtin rfl<|PySem.evalArgs_none<|hm pins s1 Z H1 x [] v [] Q I1 r1 .nil q1)
theorem V8 (U:PlainAttrs T) (O:Slot T name id) (Y:typeOf (.builtin id)=pure (.type "method_descriptor")) (hm:MtR X id r) (ho:PE X o to) (z:PA X (e::es) t)
  (B:attributeBase o name X.env (eval o X.env)=eval o X.env:=by rfl)
  (q:((backTo cpos (starEach (e::es) X.env)).all (λx=>!x.1) && (backToKw cpos (keywordEach [] X.env)).all (λx=>x.1.isSome)
   && decide ((e::es).length+([]:List Keyword).length+(if ([]:List Keyword).isEmpty then 0 else 1)<30))=true:=by rfl)
  (j:(apos.endLine == cpos.line)=true:=by rfl) (hs:starEach (e::es) X.env=(false,eval e X.env)::starEach es X.env:=by rfl) (L:(backTo cpos<|starEach es X.env).any (·.1)=false:=by rfl) :
  PE X (.Call (.Attribute o name apos) (e::es) [] cpos) (tBM X.K T r to t):=by
 intro pins s Z H Q I h;refine wpAny_Call_method_late B q j rfl (thn (ho pins s Z H _ I h) λv s1 (x,H1,I1,r1,ty,q1)=>?_);obtain⟨a,b⟩:=TC I1 r1 ty;refine(T,id,U,O,Y,a,b,?_);have A:=z cpos pins s1 Z H1 _ I1 q1;rw[hs]at A ⊢;refine Calls.callWith_builtin (by show (false || (backTo cpos<|starEach es X.env).any (·.1))=false;rw[L] <;> rfl)<|Calls.evalArgs_plain ?_
 exact thn A λus s2 (vs,H2,I2,r2,q2)=>hm pins s2 Z H2 x vs v us Q I2 r1 r2 q2
end
def MtM (X:Cx) (id:String) (r:V->List V->Hp->VK->Prop):Prop:=
 ∀(pins:Ax) (s:Shared) (Z:St) (H:Hp) (x:V) (xs:List V) (v:Value) (us:List Value) (Q:VK),AH X pins Z H s->RelV x v->Vals xs us->r x xs H Q ->
  wpAny (model X.prog X.w) X.A (call (.builtin id) (v::us)) (EP X pins Z Q) X.xe s
theorem Vals.one:∀{x:V}{us:List Value},Vals [x] us->∃u,us=[u]/\RelV x u:=by
 intro x us h;cases h with|cons r t=>cases t;exact(_,rfl,r)
theorem Vals.two:∀{x y:V}{us:List Value},Vals [x,y] us->∃u v,us=[u,v]/\RelV x u/\RelV y v:=by
 intro x y us h;cases h with|cons r t=>cases t with|cons q t=>cases t;exact(_,_,rfl,r,q)
theorem Vals.zero:∀{us:List Value},Vals [] us->us=[]
 |_,.nil=>rfl
theorem Vals.eraseIdx:∀{xs:List V}{us:List Value}(i:Nat),Vals xs us->Vals (xs.eraseIdx i) (us.eraseIdx i)
 |_,_,_,.nil=>.nil
 |_,_,0,.cons _ t=>t
 |_,_,i+1,.cons r t=>.cons r (Vals.eraseIdx i t)
theorem Vals.reverse (h:Vals xs us):Vals xs.reverse us.reverse:=by
 induction h with
 |nil=>exact .nil
 |cons r t ih=>rw[KW,KW];exact Vals.append ih (.cons r .nil)
theorem QU {α:Type}:∀(l:List α) (i:Nat),(l.eraseIdx i).length<=l.length
 |[],_=>AU _
 |_::_,0=>Et _
 |_::r,i+1=>Nat.succ_le_succ (QU r i)
section
variable {X:Cx}{pins:Ax}{Z:St}{H:Hp}{s:Shared}{l b:Addr}{xs ys zs:List V}
theorem AH.lset {its its':List Value}{n:Nat}{f:Array Value->Array Value}{t':Nat}(I:AH X pins Z H s) (hH:H l=some (.lst xs))
  (e:s.heap.get? l=some { cls:=.type "list",data:=.seq its.toArray n }) (hf:f its.toArray=its'.toArray) (hv:Vals ys its') (hz:ys.length<=sizeLine) :
  AH X pins Z (upd H l (.lst ys)) { s with heap:=s.heap.update l<|Obj.mapSeq f,toks:=t' }:=by
 have q:=PySem.IsL.update e f;rw[hf]at q;refine I.write (x:=l) (e:=l) (by rw[hH];exact trivial) (.inl rfl) (λB u b h=>(Gy s.heap (Obj.mapSeq f)<|Ne.symm b).trans h) (_,q) ?_;exact(hz,its',_,hv,q)
theorem AH.lnew {its:List Value}{t':Nat}(I:AH X pins Z H s) (hv:Vals ys its) (hz:ys.length<=sizeLine) :
  AH X pins Z (upd H s.heap.objs.size (.lst ys)) { s with heap:=s.heap.push { cls:=.type "list",data:=.seq its.toArray },toks:=t' }:=
 I.laid (λ_ _ q=>Ap _ q) (AU _) (hz,its,0,hv,Bn _ rfl)
theorem AH.fresh (I:AH X pins Z H s):H s.heap.objs.size=none:=I.hok.fresh<|AU _
theorem AH.lstM (I:AH X pins Z H s) (hH:H l=some (.lst xs)):xs.length<=sizeLine/\∃(its:List Value) (n:Nat),Vals xs its/\xs.length=its.length/\s.heap.get? l=some { cls:=.type "list",data:=.seq its.toArray n }:=by
 obtain⟨z,its,n,r,e⟩:=I.hok l _ hH;exact(z,its,n,r,r.length,e)
theorem notLongL (h:n<=sizeLine):Builtin.List.listTooLong n=false:=by
 unfold Builtin.List.listTooLong;exact BI #[2]
end
#check 0
def rAppend:V->List V->Hp->VK->Prop:=λx s H Q=>∃l xs y,x=.ref l/\s=[y]/\H l=some (.lst xs)/\xs.length<sizeLine/\Q .non (upd H l (.lst<|xs++[y]))
theorem Dw:MtM X "list.append" rAppend:=by
 intro pins s Z H x vs v us Q I rx rv h;obtain⟨l,S,y,rfl,rfl,a,b,q⟩:=h;cases rx;obtain⟨u,rfl,U⟩:=rv.one;obtain⟨z,t,n,r,L,e⟩:=I.lstM a;refine call_meets F.slot_list_append (_,e,rfl) F.entry_list_append (F.args_list_append_2 _ _) (PySem.list_append l t.toArray n u (by rw[BR];lia)) (e,?_);refine(.non,_,I.lset (its':=t++[u]) a e #[3] (r.append (.cons U .nil)) ?_,rfl,q);rw[Ar,DE];lia
def rPopAt:V->List V->Hp->VK->Prop:=λx s H Q=>∃l xs i k y,x=.ref l/\s=[.int i]/\H l=some (.lst xs) /\ -(2 ^ 63)<=i/\i<2 ^ 63/\seqIndex? i xs.length=some k/\xs[k]?=some y/\Q y (upd H l (.lst<|xs.eraseIdx k))
theorem Zw2:MtM X "list.pop" rPopAt:=by
 intro pins s Z H x vs v us Q I rx rv h;obtain⟨l,f,i,k,y,rfl,rfl,a,b,c,K,Y,q⟩:=h;cases rx;obtain⟨u,rfl,U⟩:=rv.one;obtain⟨t,rfl⟩:=U;obtain⟨z,S,n,r,L,e⟩:=I.lstM a;obtain⟨w,d,W⟩:=r.get Y;refine call_meets F.slot_list_pop (_,e,rfl) F.entry_list_pop (F.args_list_pop_2 _ _)
  (MeetsSeq.list_pop_at l S.toArray n i t k w (fitsIndex_both b c) (by rw[BR,<- L];exact K) (by rw[<- Array.getElem?_toList];exact d) (by rw[BR];lia)) (e,?_)
 refine(y,_,I.lset (its':=S.eraseIdx k) a e ?_ (r.eraseIdx k) ?_,W,q)
 ·show S.toArray.eraseIdxIfInBounds k=(S.eraseIdx k).toArray
  rw[List.eraseIdxIfInBounds_toArray]
 ·have:=QU f k
  lia
def rClear:V->List V->Hp->VK->Prop:=λx s H Q=>∃l xs,x=.ref l/\s=[]/\H l=some (.lst xs)/\Q .non (upd H l (.lst []))
theorem Zw6:MtM X "list.clear" rClear:=by
 intro pins s Z H x vs v us Q I rx rv h;obtain⟨l,S,rfl,rfl,a,q⟩:=h;cases rx;have u:=rv.zero;subst u;obtain⟨z,t,n,r,L,e⟩:=I.lstM a;refine call_meets F.slot_list_clear (_,e,rfl) F.entry_list_clear (F.args_list_clear_1 _) (AutoSeq1.list_clear_list_0 l t.toArray n (by rw[BR];lia)) (e,?_);exact(.non,_,I.lset (its':=[]) (ys:=[]) a e rfl .nil<|Bp _,rfl,q)
def rCat:R2:=λx y H Q=>∃l b xs zs,x=.ref l/\y=.ref b/\H l=some (.lst xs)/\H b=some (.lst zs)/\xs.length+zs.length<=sizeLine/\∀p,H p=none->Q (.ref p) (upd H p (.lst<|xs++zs))
theorem Ut:OpR X (binaryOp .Add) rCat:=by
 intro pins s Z H x y v u Q I rx ry h;obtain⟨l,b,S,j,rfl,rfl,c,B,f,q⟩:=h;cases rx;cases ry;obtain⟨z,i,n,r,d,e⟩:=I.lstM c;obtain⟨g,t,N,R,L,E⟩:=I.lstM B;refine PySem.P.add_list e E ?_ (by rw[BR,BR];lia);have a:i.toArray++t.toArray=(i++t).toArray:=#[3]
 rw[a];exact(.ref _,_,I.lnew (t':=s.toks) (r.append R) (by rw[Ar];omega),rfl,q _ I.fresh)
end
end L2
namespace Att
open PySem PySem.W PySem.Calls PyProof.Rows
theorem WQ:∀(ns:List Int) (vs:List Value),WellAll P h vs (ns.map WData.int)->IntsAre vs ns:=by
 intro ns
 induction ns with
 |nil=>
  intro vs w;exists 0,Gz,w;exact .nil
 |cons n ns ih=>
  intro vs w;rw[Bz]at w;cases w with
  |cons a b=>
   cases a;exact .cons _ _<|ih _ b
theorem Zqx {l:OpenLaw}{n:Nat}(hn:l.most=some n) {P:Params}{h:Heap}{args:List WData}{vals:List Value}
  (hpre:l.row.toRowW.claim.pre args=true) (hwl:WellAll P h vals args) :
  ∃a vs ns,vals=[Value.ref a]/\args=[WData.list (ns.map WData.int)]/\h.get? a=some { cls:=.type "list",data:=.seq vs.toArray } /\ IntsAre vs ns/\ns.length<=n:=by
 have s:WShape.hasAll [] args [.list .int]=true:=(pre_splitW hpre).1;have c:l.pre.holds [] { args:=args } = true:=(pre_splitW hpre).2;obtain⟨d,r,rfl,f,g⟩:=hasAllW_cons s;obtain rfl:=hasAllW_nil g;obtain⟨x,rfl,i⟩:=hasW_list f;obtain⟨ns,rfl⟩:=items_int i;have e:ns.length<=n:=by
  unfold OpenLaw.pre at c;have H:(WTm.not (.lt (.lit (.int (n:Int))) (.len (.arg 0)))).holds [] { args:=[.list (ns.map .int)] } = true:=by
   have H:=(holds_andW c).1;rw[hn]at H;exact H
  have b:=condW_of H<|w_not<|w_lt w_lit<|w_len_list<|w_arg rfl;rw[AJ]at b;refine Nat.le_of_not_lt λq=>?_;have Q:(n:Int)<((ns.length:Nat):Int):=#[4]
  first
   | (rw[BD Q]at b;exact absurd b #[0])
   | (simp at b;omega)
 cases hwl with
 |cons w1 w2=>
  cases w2;cases w1 with
  |list ho hall=>exact(_,_,ns,rfl,rfl,ho,WQ ns _ hall,e)
theorem Zus (l:OpenLaw) (args:List WData):l.row.toRowW.claim.post args (.bool true) args=true:=
 postW_of (r:=l.row.toRowW) (X:=(true == true))
  (show WShape.has [] (.bool true) .bool=true by first|rfl|decide|simp[WShape.has,WShape.arms,WShape.armsAll])
  (show (WTm.eq .res (.lit (.bool true))).value [] { args:=args,res:=some (.bool true),after:=args } = some (.bool (true == true)) from w_eq_bool (w_res rfl) w_lit) rfl
theorem attach_call {l:OpenLaw}{n:Nat}{q:Program}{loose:List Str}{XP:(Str->Option Value)->Heap->Prop}{YP:World->Heap->Prop}{d:DefRec}
  (hn:l.most=some n) (hdf:d.params.defaults=[])
  (call:∀(w:World) (s₀ s₁:Shared) (mg mb:Str->Option Value) (fa:Addr) (o:Obj) (pm cd doc:Value) (a:Addr) (vs:List Value) (ns:List Int),
   Ground q loose [] XP w s₀ mg mb s₁.heap->YP w s₁.heap ->
   s₁.heap.get? fa=some o->o.data=.func (docDef d.name d.params d.body d.scope pm cd doc)->s₁.heap.CodeRec cd d.name->mg d.name=some (.ref fa) ->
   s₁.heap.get? a=some { cls:=.type "list",data:=.seq vs.toArray } -> IntsAre vs ns->ns.length<=n->s₁.gens = #[] ->
   codeAny (model l.prog w) callerA (.call (.ref fa) ([.ref a],[])) (λr s'=>r=.ok (.ret (.bool true))/\OldK s₁.heap s'.heap/\s'.os=s₁.os/\AllBare s'.gens) s₁) :
  WalkO q loose XP YP l.row.toRowW d [] (λf vs=>PySem.call f vs):=by
 intro w s₀ s₁ mg mb G Y fa o pm cd doc dV kV ho hd hcd hD hmg hg args vals as hpre hlay hrd hwl hlo;obtain rfl:dV=.none:=Dflts.none hD hdf;obtain rfl:kV=.none:=Dflts.noKw hD;obtain⟨a,vs,ns,rfl,rfl,j,s,e⟩:=Zqx hn hpre hwl;refine enter_call (codeAny_mono (call w s₀ s₁ mg mb fa o pm cd doc a vs ns G Y ho (fd_plain hd) hcd hmg j s e hg) λr s' Q=>?_);obtain⟨rfl,h,H,b⟩:=Q;exact(.inl (.bool true,.bool true,[],rfl,λ_=>rfl,.bool true,Zus l _,λ_=>(List.Pairwise.nil,λ_ m=>(nomatch m))),h,H,b)
end Att
namespace L2
open PySem PySem.Spec PyProof.Rows
theorem LK:∀{vs:List Value}{ns:List Int},IntsAre vs ns->Vals (ns.map V.int) vs
 |_,_,.nil=>.nil
 |_,_,.cons n t h=>.cons (t,rfl) (LK h)
def Only (H:Hp):Prop:=∀b,H b=none\/∃o xs,H b=some (.frz o (.lst xs))
theorem Zv3 {P:Program}{w:World}{K:W.Frag}{mg mb:Str->Option Value}{CX:CXT}{k:Nat}{fa a:Addr}{fd:FuncData}{x:Str}{sp:Sp}{s₁:Shared}{vs:List Value}{ns:List Int}
  (KX:K.In s₁.heap) (hns:s₁.heap.Ns mainGlobals mg) (hb:s₁.heap.Ns builtinsNs mb) (hbb:∀x:Str,x ≠ "__name__" -> mb x=bootBuiltins x) (hlim:s₁.heap.NoLimit) (hg:s₁.gens = #[])
  (ha:s₁.heap.get? a=some { cls:=.type "list",data:=.seq vs.toArray }) (hi:IntsAre vs ns) (hl:ns.length<=sizeLine) (hr:Room k callerA)
  (F:∀base:Heap,K.In base->base.Ns mainGlobals mg->FnOk P w K mg base CX k fa fd [x] sp) (hbind:∀(s:Shared) (u:Value),BindsTo s fd ([u],[]) [(x,u)])
  (hsp:∀H:Hp,Only H->SqL K H a (ns.map V.int)->sp [.ref a] H (λv _=>v=.bl true) λ_ _ _=>False)
  (hCX:∀H e s',CX [] H s₁ (λ_ _ _=>False) e s' -> False) :
  codeAny (model P w) callerA (.call (.ref fa) ([.ref a],[])) (λr s'=>r=.ok (.ret (.bool true))/\OldK s₁.heap s'.heap/\s'.os=s₁.os/\AllBare s'.gens) s₁:=by
 have R:=LK hi;have l:=hi.length
 -- from an abstract heap in which nothing but the script may be tracked
 have c:∀H:Hp,Only H->SqL K H a (ns.map V.int)->HOk P w H s₁.heap->(∀b,H b≠none->b=a)->(H a≠none->K.lookup a=none) ->
   codeAny (model P w) callerA (.call (.ref fa) ([.ref a],[])) (λr s'=>r=.ok (.ret (.bool true))/\OldK s₁.heap s'.heap/\s'.os=s₁.os/\AllBare s'.gens) s₁:=by
  intro H hO hS hok hA hK;have f:∀{b:Addr}{o:Obj},s₁.heap.get? b=some o->H b=none->(hidT s₁.heap H).get? b=some o:=λe n=>Zwv e n;have A:∀{b:Addr}{o:Obj}{es:Array DictEntry}{ep:Nat},s₁.heap.get? b=some o->o.data=.dict es ep->H b=none:=λ{b o es ep} e d=>by
   cases q:H b with
   |none=>rfl
   |some u=>
    have g:b=a:=hA b (by rw[q];simp);subst g;exists 0,ha,e;have D:Data.seq vs.toArray _=Data.dict es ep:=d;cases D
  have S:∀{b:Addr}{m:Str->Option Value},s₁.heap.Ns b m->(hidT s₁.heap H).Ns b m:=λ{b m} (o,es,ep,e,d,r)=>(o,es,ep,f e (A e d),d,r);have B:K.In (hidT s₁.heap H):=λb o e=>f (KX b o e) (by
   cases q:H b with
   |none=>rfl
   |some u=>
    have g:b=a:=hA b (by rw[q];simp);subst g;rw[hK (by rw[q];simp)]at e;cases e)
  have M:Mod K mg (hidT s₁.heap H):=(B,S hns,(mb,S hb,hbb),let ⟨mc,h1,h2⟩:=hlim; (mc,S h1,h2));have j:Env0 P w K mg (hidT s₁.heap H) callerA [] s₁ H:=(rfl,M,λb o e=>Zyt e,Nat.le_of_eq<|Ztu _ _,trivial,λb hb=>absurd (show b∈([]:List Addr) from hb) #[3],hok,.of_eq hg);refine codeAny_mono ((F _ B<|S hns).run callerA [] s₁ H ([.ref a],[]) [.ref a] [.ref a] _ _ hr j (hbind s₁ (.ref a)) (.cons rfl .nil) (hsp H hO hS)) λr s' h=>?_;cases r with
  |error e=>exact(hCX H e s' h).elim
  |ok fl=>
   cases fl with
   |next=>exact False.elim h
   |brk=>exact False.elim h
   |cont=>exact False.elim h
   |ret u=>
    obtain⟨v,G,os,E,N,O,y,q⟩:=h;have Q:v=.bl true:=q;subst Q;obtain rfl:u=Value.bool true:=y;refine(rfl,OldK.of_keep λb o e=>?_,os,E);cases q:H b with
    |none=>exact N.keep b o e q (by intro z;exact absurd (show b∈([]:List Addr) from z) #[3]) #[3]
    |some u=>
     rcases hO b with z|⟨t,X,z⟩
     ·exists 0,q,z
     ·have C:=N.frzs b t _ z
      obtain⟨i,_⟩:=hok b _ z;obtain⟨p,_⟩:=O b _ C;exists 0,e,i;exact p
 cases hk:K.lookup a with
 |some o=>
  -- the script is one of the module's own objects
  have e:=KX a o hk;exists 0,ha,e;refine c (λ_=>none) (λ_=>.inl rfl) (.inr (_,vs.toArray,_,hk,rfl,rfl,rfl,by rw[BR,l];exact hl,by simpa using R)) (λb u z=>by have Z:(none:Option HO)=some u:=z;cases Z) (λb z=>absurd rfl z) λz=>absurd rfl z
 |none=>
  refine c (λb=>if b=a then some (.frz { cls:=.type "list",data:=.seq vs.toArray } (.lst<|ns.map V.int)) else none) (λb=>?_) (.inl (.inr ({ cls:=.type "list",data:=.seq vs.toArray },AN rfl))) (λb u z=>?_) (λb z=>?_) λ_=>hk
  ·by_cases hb:b=a
   ·exact .inr (_,_,AN hb)
   ·exact .inl<|AK hb
  ·by_cases hb:b=a
   ·have Z:=(AN hb).symm.trans z
    cases Z;subst hb;exact(ha,by rw[AJ];exact hl,vs,_,R,ha)
   ·have Z:=(AK hb).symm.trans z
    cases Z
  ·by_cases hb:b=a
   ·exact hb
   ·exact absurd (AK hb) z
theorem walk_of {l:PySem.W.OpenLaw}{n k:Nat}{q:Program}{L:List Str}{XP:(Str->Option Value)->Heap->Prop}{YP:World->Heap->Prop}{d:DefRec}{K:Params->W.Frag}{CX:World->CXT}{sp:World->Sp}{x:Str}
  (hn:l.most=some n) (U:n<=sizeLine) (z:d.params.defaults=[]) (hr:Room k callerA)
  (hY:∀(w:World) (h:Heap),YP w h->(K w.params).In h)
  (F:∀(w:World) (mg:Str->Option Value) (fa:Addr) (h:Heap),(K w.params).In h->h.Ns mainGlobals mg->mg d.name=some (.ref fa) ->
   ∃fd:FuncData,(∀(s:Shared) (u:Value),BindsTo s fd ([u],[]) [(x,u)]) /\
    ∀base:Heap,(K w.params).In base->base.Ns mainGlobals mg->FnOk l.prog w (K w.params) mg base (CX w) k fa fd [x] (sp w))
  (a2:∀(w:World) (H:Hp) (a:Addr) (ns:List Int),ns.length<=n->Only H->SqL (K w.params) H a (ns.map V.int)->sp w [.ref a] H (λv _=>v=.bl true) λ_ _ _=>False)
  (j:∀(w:World) (H:Hp) (s:Shared) (e:Value) (s':Shared),CX w [] H s (λ_ _ _=>False) e s' -> False) :
  PySem.W.WalkO q L XP YP l.row.toRowW d [] (λf vs=>PySem.call f vs):=by
 refine Att.attach_call hn z λw s₀ s₁ mg mb fa o pm cd doc a vs ns G Y ho hd hcd hmg hobj hints hlen hg=>?_;have X:=hY w _ Y;obtain⟨fd,B,c⟩:=F w mg fa _ X G.T.g hmg;exact Zv3 X G.T.g G.T.b G.T.builtins G.T.nolimit hg hobj hints (Bg hlen U) hr c B (λH O S=>a2 w H a ns hlen O S) λH e s'=>j w H s₁ e s'
def defArgs (s:Stmt):Arguments:=match s with
 |.FunctionDef _ a _ _ _ _ _ _ _ _=>a
 |_=>{ posonlyargs:=[],args:=[],vararg:=none,kwonlyargs:=[],kw_defaults:=[],kwarg:=none,defaults:=[] }
def defBody (s:Stmt):List Stmt:=match s with
 |.FunctionDef _ _ b _ _ _ _ _ _ _=>b
 |_=>[]
def defScope (s:Stmt):Scope:=match s with
 |.FunctionDef _ _ _ _ _ _ sc _ _ _=>sc
 |_=>{ kind:=.function,names:=[],isGenerator:=false,isCoroutine:=false }
abbrev CX0:CXT:=λ_ _ _ _ _ _=>False
abbrev E0:XK:=λ_ _ _=>False
theorem pass0:Passes CX0 X E0:=λ_ _ _ _ _ _ _ h=>h.elim
structure BE (K:W.Frag) (x qual:Str) (st:Stmt) (f:Addr) (fd:FuncData):Prop where
 ex:∃(oc:Value) (od:Option Addr) (kV doc pm:Value) (an:Option Addr) (cdv ct:Value) (osl:Array (Option Value)),
  fd=W.fnOf x qual (defArgs st) (defBody st) (defScope st) .none kV doc pm an cdv ct/\K.lookup f=some (oc,od,.func fd,osl) /\ W.codeIn K cdv qual=true
 kp:W.keepIn K (.ref f)=true
section
variable {P:Program}{w:World}{K:W.Frag}{mg:Str->Option Value}{base:Heap}
theorem BE.ok {st:Stmt}(F:BE K x qual st f fd) (S:FnScope N ps (defScope st)) (len:∀vs H Q E,sp vs H Q E->vs.length=ps.length)
  (hbody:∀(cdv:Value) (A:Around) (outer:List Env) (s:Shared) (H:Hp) (vs:List V) (Q:VK) (E:XK),Room k (A.deeper (envOfC qual (defScope st) s.heap.objs.size f cdv))->sp vs H Q E ->
   ∃t,PSs (cxOf CX0 P w K mg base N qual (defScope st) f cdv A outer s H E).nox (defBody st) t/\t { nx:=λ_ H'=>Q .non H',rt:=Q } (start N vs) H):FnOk P w K mg base CX0 (k+1) f fd ps sp:=by
 obtain⟨C,D,v,c,m,n,cdv,T,o,rfl,l,d⟩:=F.ex;refine Vr l d S len λA outer s H vs Q E r p=>?_;obtain⟨t,h,q⟩:=hbody cdv A outer s H vs Q E r p;exact(t,h.nox,q)
theorem BE.binds {st:Stmt}(F:BE K x qual st f fd)
  (h:∀(kV doc pm:Value) (an:Option Addr) (cdv ct:Value) (us:List Value),us.length=ps.length->bindArgs (W.fnOf x qual (defArgs st) (defBody st) (defScope st) .none kV doc pm an cdv ct) (us,[])=pure (ps.zip us)):Binds K fd ps []:=by
 obtain⟨c,o,kV,doc,pm,an,cdv,ct,l,rfl,k,d⟩:=F.ex;exact .all<|h kV doc pm an cdv ct
theorem Vn {st:Stmt}{q O z j ct:Value}(l:K.lookup f=some (oc,od,.func<|W.fnOf x qual (defArgs st) (defBody st) (defScope st) .none q O z an j ct,osl))
  (c:W.codeIn K j qual=true) (k:W.keepIn K (.ref f)=true):BE K x qual st f (W.fnOf x qual (defArgs st) (defBody st) (defScope st) .none q O z an j ct):=((oc,od,q,O,z,an,j,ct,osl,rfl,l,c),k)
end
theorem Bb (j:Room k A):A.units+1<cLine:=FG (Nat.add_le_add_left (by decide:1<=64) _) j.units
theorem small1000 (h:n<=1000):n<sizeLine:=FG h #[0]
#check 0
theorem pv (i:Nat) (q:X.N[i]?=some x:=by rfl) (B:Jx X.env.scope x:=by first|exact Or.inl rfl|exact Or.inr (Or.inl rfl)|exact Or.inr<|Or.inr rfl) (z:(x == ("__debug__":Str))=false:=by decide)
  (j:(x == ("__classdict__":Str))=false:=by decide):PE X (.Name x pos) (tVar i):=VH q B z j
end
theorem iteF {A B:Prop}(h:B):if false=true then A else B:=by
 rw[AK BV];exact h
theorem iteT {A B:Prop}(h:A):if true=true then A else B:=by
 rw[AN rfl];exact h
theorem ite2 {c A B:Prop}[Decidable c] (h1:c->A) (h2:¬ c->B):if c then A else B:=by
 by_cases h:c
 ·rw[AN h]
  exact h1 h
 ·rw[AK h]
  exact h2 h
def Same (H H':Hp):Prop:=∀b o,H b=some o->H' b=some o
theorem Same.refl (H:Hp):Same H H:=λ_ _ h=>h
theorem Same.trans (a:Same H H1) (b:Same H1 H2):Same H H2:=λc o h=>b c o<|a c o h
theorem Same.seq {K:W.Frag}(e:Same H H') (h:SqL K H a xs):SqL K H' a xs:=by
 rcases h with (h|⟨o,h⟩)|h
 ·exact .inl (.inl<|e _ _ h)
 ·exact .inl (.inr (o,e _ _ h))
 ·exact .inr h
section
variable {κ:Type}[DecidableEq κ]
def valV (kvs:List (κ × V)) (k:κ):Option V:=(kvs.find? λv=>decide (v.1=k)).map (·.2)
def putK (kvs:List (κ × V)) (k:κ) (v:V):List (κ × V):=
 if (kvs.any λK=>decide (K.1=k))=true then kvs.map (λK=>if K.1=k then (K.1,v) else K) else kvs++[(k,v)]
theorem JX {p:κ × V}{r:List (κ × V)}{k:κ}(e:p.1=k):valV (p::r) k=some p.2:=by simp[valV,D7,e]
theorem JV {p:κ × V}{r:List (κ × V)}{k:κ}(e:¬ p.1=k):valV (p::r) k=valV r k:=by simp[valV,D7,e]
theorem RG (k:κ):∀kvs:List (κ × V),(kvs.any λkv=>decide (kv.1=k))=(valV kvs k).isSome
 |[]=>rfl
 |p::r=>by
  rw[Es];by_cases e:p.1=k
  ·simp only[JX e,BD e,Bool.true_or,Option.isSome_some]
  ·rw[JV e,BI e,Bool.false_or];exact RG k r
theorem M9 (kvs:List (κ × V)) (k:κ) (v:V):(putK kvs k v).length<=kvs.length+1:=by
 unfold putK;split
 ·rw[AJ];lia
 ·rw[Ar,BH,Dq];lia
theorem RelO.isSome_eq (r:RelO o u):o.isSome=u.isSome:=by
 cases o with
 |none=>cases u with
  |none=>rfl
  |some _=>exact(show False from r).elim
 |some _=>cases u with
  |none=>exact(show False from r).elim
  |some _=>rfl
theorem KV.val (r:KV kvs vs) (k:κ):RelO (valV kvs k) (valueAt vs k):=by
 unfold KV at r
 induction r with
 |nil=>exact True.intro
 |@cons p q ps qs h t ih=>
  obtain⟨H,a⟩:=h;by_cases e:p.1=k
  ·have E:q.1=k:=H.symm.trans e
   have b:valueAt (q::qs) k=some q.2:=by simp[valueAt,D7,E]
   rw[JX e,b];exact a
  ·have E:¬ q.1=k:=λz=>e (H.trans z)
   have b:valueAt (q::qs) k=valueAt qs k:=by simp[valueAt,D7,E]
   rw[JV e,b];exact ih
theorem KV.any (r:KV kvs vs) (k:κ):(kvs.any λkv=>decide (kv.1=k))=vs.any λkv=>decide (kv.1=k):=by
 unfold KV at r
 induction r with
 |nil=>rfl
 |cons h t ih=>rw[Es,Es,ih,h.1]
theorem KV.repl {kvs:List (κ × V)}{vs:List (κ × Value)}(r:KV kvs vs) (k:κ) {y:V}{u:Value}(Y:RelV y u) :
  KV (kvs.map λkv=>if kv.1=k then (kv.1,y) else kv) (vs.map λkv=>if kv.1=k then (kv.1,u) else kv):=by
 unfold KV at r ⊢
 induction r with
 |nil=>exact .nil
 |@cons p q ps qs h t ih=>
  rw[Bz,Bz];refine .cons ?_ ih;obtain⟨H,a⟩:=h;by_cases e:p.1=k
  ·rw[AN e,AN (H.symm.trans e)];exact(H,Y)
  ·rw[AK e,AK (λz=>e<|H.trans z)];exact(H,a)
theorem KV.put (r:KV kvs vs) (k:κ) (Y:RelV y u):KV (putK kvs k y) (stored vs k u):=by
 unfold putK stored;rw[r.any k];by_cases e:(vs.any λv=>decide (v.1=k))=true
 ·rw[AN e,AN e];exact r.repl k Y
 ·rw[AK e,AK e];exact Paired.snoc r (rfl,Y)
theorem KV.length (r:KV kvs vs):kvs.length=vs.length:=Paired.length r
end
theorem Hs (r:RelV (kV k) u):(mixKind P w).is k u=true:=by
 cases k with
 |inl i=>obtain⟨t,e⟩:=(show ∃t,u=Value.int i t from r);subst e;exact W8 P w i t
 |inr x=>obtain⟨t,e⟩:=(show ∃t,u=Value.str x t from r);subst e;exact W2 P w x t
theorem P4:∀{ks:List AS}{us:List Value},Vals (ks.map kV) us->ItemsAre (mixKind P w) ks us
 |[],_,r=>by exists 0,Gz,r;exact .nil
 |k::ks,_,r=>by
  rw[Bz]at r;cases r with
  |cons h t=>exact .cons (Hs h) (P4 t)
abbrev KT (H:Hp):List (List AS × V)->List (List AS × Addr × Value)->Prop:=Paired λp q=>p.1=q.1/\H q.2.1=some (.tup<|p.1.map kV)/\RelV p.2 q.2.2
theorem KT.val (r:KT H kvs xs) (k:List AS):RelO (valV kvs k) ((atKey xs k).map (·.2)):=by
 induction r with
 |nil=>exact True.intro
 |@cons p q ps qs h t ih=>
  obtain⟨a,_,c⟩:=h;by_cases e:p.1=k
  ·have E:q.1=k:=a.symm.trans e
   have b:atKey (q::qs) k=some q.2:=by simp[atKey,D7,E]
   rw[JX e,b];exact c
  ·have E:¬ q.1=k:=λz=>e (a.trans z)
   have b:atKey (q::qs) k=atKey qs k:=by simp[atKey,D7,E]
   rw[JV e,b];exact ih
theorem KT.repl {H:Hp}{kvs:List (List AS × V)}{xs:List (List AS × Addr × Value)}(r:KT H kvs xs) (k:List AS) {y:V}{u:Value}(Y:RelV y u) :
  KT H (kvs.map λkv=>if kv.1=k then (kv.1,y) else kv) (xs.map<|putAt k u):=by
 induction r with
 |nil=>exact .nil
 |@cons p q ps qs h t ih=>
  rw[Bz,Bz];refine .cons ?_ ih;obtain⟨a,b,c⟩:=h;unfold putAt;by_cases e:p.1=k
  ·rw[AN e,AN (a.symm.trans e)];exact(a,b,Y)
  ·rw[AK e,AK (λz=>e<|a.trans z)];exact(a,b,c)
theorem KT.put {H:Hp}{kvs:List (List AS × V)}{xs:List (List AS × Addr × Value)}(r:KT H kvs xs) (k:List AS) {b:Addr}{y:V}{u:Value}(B:H b=some (.tup<|k.map kV)) (Y:RelV y u) :
  KT H (putK kvs k y) (storedH xs k b u):=by
 have e:(kvs.any λv=>decide (v.1=k))=(atKey xs k).isSome:=by
  rw[RG,(r.val k).isSome_eq,KG]
 unfold putK storedH;rw[e];by_cases q:(atKey xs k).isSome=true
 ·rw[AN q,AN q];exact r.repl k Y
 ·rw[AK q,AK q];exact Paired.snoc r (rfl,B,Y)
theorem KT.keeps (r:KT H kvs xs) (j:∀b ys,H b=some (.tup ys)->H' b=some (.tup ys)):KT H' kvs xs:=
 Paired.mapP r λ_ _ z=>(z.1,j _ _ z.2.1,z.2.2)
section
variable {P:Program}{w:World}{H:Hp}{h:Heap}{a:Addr}
theorem Ou (O:HOk P w H h) (e:Rd H a u):ObjOk P w H h a u:=e.ok O
theorem Hr (O:HOk P w H h) (e:Rd H a (.dK kvs)):kvs.length<=sizeLine/\(a == sysModules)=false/\∃vs,KV kvs vs/\h.DictOf (mixKind P w) a vs:=
 show ObjOk P w H h a (.dK kvs) from Ou O e
theorem Ox (O:HOk P w H h) (e:H a=some (.dK kvs)):kvs.length<=sizeLine/\(a == sysModules)=false/\∃vs,KV kvs vs/\h.DictOf (mixKind P w) a vs:=Hr O (.inl e)
theorem Jp (O:HOk P w H h) (e:H a=some (.tup<|ks.map kV)):(tupleKind<|mixKind P w).is h ks a:=by
 obtain⟨_,s,r,o,b,⟨c,n,d⟩,_⟩:=(show ObjOk P w H h a (.tup<|ks.map kV) from O a _ e);exact(o,s.toArray,n,b,c,d,by simpa using P4 r)
theorem Ju (O:HOk P w H h) (e:Rd H a (.dT kvs)):kvs.length<=sizeLine/\(a == sysModules)=false /\
  ∃xs,KT H kvs xs/\h.DictOfH (tupleKind<|mixKind P w) a xs:=by
 obtain⟨z,y,xs,r,o,s,E,b,c,d,f,g⟩:=(show ObjOk P w H h a (.dT kvs) from Ou O e);refine(z,y,xs,r,o,s,E,b,c,d,f,λx X=>?_,g);have L:∀{l:List (List AS × V)}{m:List (List AS × Addr × Value)},KT H l m->∀x∈m,(tupleKind<|mixKind P w).is h x.1 x.2.1:=by
  intro l m q
  induction q with
  |nil=>intro x X;exact nomatch X
  |@cons p q ps qs hq t ih=>
   intro x X;rcases A5.mp X with e|X
   ·subst e
    exact Jp O (by rw[<- hq.1];exact hq.2.1)
   ·exact ih x X
 exact L r x X
theorem V3 (O:HOk P w H h) (e:H a=some (.dT kvs)):kvs.length<=sizeLine/\(a == sysModules)=false /\
  ∃xs,KT H kvs xs/\h.DictOfH (tupleKind<|mixKind P w) a xs:=Ju O (.inl e)
end
def DGet (H:Hp) (a:Addr) (y:V) (r:Option V):Prop:=
 (∃kvs k,Rd H a (.dK kvs)/\y=kV k/\r=valV kvs k)\/∃kvs k b,Rd H a (.dT kvs)/\y=.ref b/\H b=some (.tup<|k.map kV)/\r=valV kvs k
def DPut (H:Hp) (a:Addr) (y v:V) (H':Hp):Prop:=
 (∃kvs k,H a=some (.dK kvs)/\y=kV k/\kvs.length<sizeLine/\H'=upd H a (.dK<|putK kvs k v)) \/
 ∃kvs k b,H a=some (.dT kvs)/\y=.ref b/\H b=some (.tup<|k.map kV)/\kvs.length<sizeLine/\H'=upd H a (.dT<|putK kvs k v)
theorem DGet.k {H:Hp}{a:Addr}{kvs:List (AS × V)}{k:AS}(e:H a=some (.dK kvs)):DGet H a (kV k) (valV kvs k):=.inl (kvs,k,.inl e,rfl,rfl)
theorem DGet.t {H:Hp}{a b:Addr}{kvs:List (List AS × V)}{k:List AS}(e:H a=some (.dT kvs)) (B:H b=some (.tup<|k.map kV)):DGet H a (.ref b) (valV kvs k):=.inr (kvs,k,b,.inl e,rfl,B,rfl)
theorem DPut.k {H:Hp}{a:Addr}{kvs:List (AS × V)}{k:AS}{v:V}(e:H a=some (.dK kvs)) (L:kvs.length<sizeLine):DPut H a (kV k) v (upd H a (.dK<|putK kvs k v)):=.inl (kvs,k,e,rfl,L,rfl)
theorem DPut.t {H:Hp}{a b:Addr}{kvs:List (List AS × V)}{k:List AS}{v:V}(e:H a=some (.dT kvs)) (B:H b=some (.tup<|k.map kV)) (L:kvs.length<sizeLine) :
  DPut H a (.ref b) v (upd H a (.dT<|putK kvs k v)):=.inr (kvs,k,b,e,rfl,B,L,rfl)
section
variable {X:Cx}{pins:Ax}{Z:St}{H:Hp}{s:Shared}{a:Addr}{y v:V}{u r:Value}{o:Option V}{A:Around}{E:Au}
theorem AH.big (I:AH X pins Z H s):sysModules<s.heap.objs.size:=by
 have h:mainGlobals<s.heap.objs.size:=(I.mod.glob.keeps I.bk).lt;exact Nat.lt_trans #[0] h
theorem Zt6 {Q:Au}(U:A.units+1<cLine) (I:AH X pins Z H s) (g:DGet H a y (some v)) (j:RelV y u) (h:∀w' s',AH X pins Z H s' -> RelV v w' -> Q w' s') :
  wpAny (model X.prog X.w) A (getItem (.ref a) u) Q E s:=by
 rcases g with ⟨S,k,e,Y,l⟩|⟨S,k,b,e,Y,B,l⟩
 ·subst Y
  obtain⟨z,D,V,r,d⟩:=Hr I.hok e;obtain⟨w',c,W⟩:=RelO.some_of (v:=v) (o:=valueAt V k) (by rw[l];exact r.val k);exact wpAny_getItem_of (Hs j) d.mapOf c<|h w' _ (I.tok _) W
 ·subst Y
  cases (show u=Value.ref b from j);obtain⟨z,D,x,r,d⟩:=Ju I.hok e;obtain⟨w',c,W⟩:=RelO.some_of (v:=v) (o:=(atKey x k).map (·.2)) (by rw[l];exact r.val k);obtain⟨p,f,P⟩:=Option.map_eq_some_iff.mp c;refine wpAny_getItem_heap (tupleKind_room_in1 U) (Jp I.hok B) d f ?_;rw[P];exact h w' _ (I.tok _) W
theorem d_in {Q:Au}(U:A.units+1<cLine) (I:AH X pins Z H s) (g:DGet H a y o) (j:RelV y u) (h:∀s',AH X pins Z H s' -> Q (.bool o.isSome) s') :
  wpAny (model X.prog X.w) A (compareOp .In u (.ref a)) Q E s:=by
 rcases g with ⟨v,k,e,Y,l⟩|⟨v,k,b,e,Y,B,l⟩
 ·subst Y
  obtain⟨z,D,S,r,d⟩:=Hr I.hok e;refine wpAny_in_of (Hs j) D d.mapOf ?_;rw[<- (r.val k).isSome_eq,<- l];exact h _<|I.tok _
 ·subst Y
  cases (show u=Value.ref b from j);obtain⟨z,D,x,r,d⟩:=Ju I.hok e;refine wpAny_in_heap (tupleKind_room_in1 U) (Jp I.hok B) D d ?_;have q:=(r.val k).isSome_eq;rw[KG]at q;rw[<- q,<- l];exact h _<|I.tok _
theorem UO {Q:Au}(U:A.units+1<cLine) (I:AH X pins Z H s) (g:DGet H a y o) (j:RelV y u) (h:∀s',AH X pins Z H s' -> Q (.bool (!o.isSome)) s') :
  wpAny (model X.prog X.w) A (compareOp .NotIn u (.ref a)) Q E s:=by
 rcases g with ⟨v,k,e,Y,l⟩|⟨v,k,b,e,Y,B,l⟩
 ·subst Y
  obtain⟨z,D,S,r,d⟩:=Hr I.hok e;refine wpAny_notIn_of (Hs j) D d.mapOf ?_;rw[<- (r.val k).isSome_eq,<- l];exact h _<|I.tok _
 ·subst Y
  cases (show u=Value.ref b from j);obtain⟨z,D,x,r,d⟩:=Ju I.hok e;refine wpAny_notIn_heap (tupleKind_room_in1 U) (Jp I.hok B) D d ?_;have q:=(r.val k).isSome_eq;rw[KG]at q;rw[<- q,<- l];exact h _<|I.tok _
theorem Lg {h':Heap}{t':Nat}{ob:HO}(I:AH X pins Z H s) (mu:Hw (H a)) (hs:Heap.SameBut a s.heap h') (he:∃q,h'.get? a=some q) (new:ObjOk X.prog X.w (upd H a ob) h' a ob) :
  AH X pins Z (upd H a ob) { s with heap:=h',toks:=t' }:=
 I.write (x:=a) (e:=a) mu (.inl rfl) (λb q h z=>(hs.2 b h).trans z) he new
theorem TV {P:Program}{w:World}{H':Hp}{h':Heap}{kvs:List (AS × V)}{vs:List (AS × Value)}(z:kvs.length<=sizeLine) (q:(a == sysModules)=false) (L:KV kvs vs) (j:h'.DictOf (mixKind P w) a vs) :
  ObjOk P w H' h' a (.dK kvs):=(z,q,vs,L,j)
theorem Ztl {H':Hp}{Q:Unit->Shared->Prop}(hu:A.units+1<cLine) (I:AH X pins Z H s) (g:DPut H a y v H') (U:RelV y u) (O:RelV v r) (h:∀s',AH X pins Z H' s' -> Q () s') :
  wpAny (model X.prog X.w) A (setItem (.ref a) u r) Q E s:=by
 rcases g with ⟨S,k,e,Y,l,i⟩|⟨S,k,b,e,Y,B,l,i⟩
 ·subst Y i
  obtain⟨z,j,V,L,D⟩:=Ox I.hok e;have o:V.length<=sizeLine:=by rw[<- L.length];exact z
  have m:(putK S k v).length<=sizeLine:=by have:=M9 S k v;lia
  refine wpAny_setItem_pairs (hsz:=o) (Hs U) D λp d n=>h _ ?_;have K:∃q,p.get? a=some q:=let ⟨q,_,_,f,_⟩:=d; (q,f)
  exact Lg I (by rw[e];exact True.intro) n K<|TV m j (L.put k O) d
 ·subst Y i
  cases (show u=Value.ref b from U);obtain⟨z,j,M,L,D⟩:=V3 I.hok e;have o:M.length<=sizeLine:=by rw[<- Paired.length L];exact z
  have m:(putK S k v).length<=sizeLine:=by have:=M9 S k v;lia
  refine wpAny_setItem_heap (hsz:=o) (tupleKind_room_in1 hu) (Jp I.hok B) D λp d n=>h _ ?_;obtain⟨q,t,P,f,x,F,G,_,J⟩:=d;refine Lg I (by rw[e];exact True.intro) n (q,f) (m,j,_,(L.put k B O).keeps λc N C=>?_,q,t,P,f,x,F,G,J);rw[Ai (Vz C e λz=>nomatch z)];exact C
end
section
variable {X:Cx}{pins:Ax}{Z:St}{H:Hp}{s:Shared}{a:Addr}{kvs:List (AS × V)}{k:AS}{u:Value}{A:Around}{E:Au}
theorem V5 (I:AH X pins Z H s) (e:Rd H a (.dK kvs)) (h:∀t s',AH X pins Z H s' -> Q (.int kvs.length t) s'):wpAny (model X.prog X.w) A (call (.builtin "len") [.ref a]) Q E s:=by
 obtain⟨z,D,v,l,d⟩:=Hr I.hok e;refine call_len_dict D d (by rw[<- l.length];rw[sizeLine_eq]at z;lia) ?_;rw[<- l.length];exact h _ _<|I.tok _
end
theorem XA (I:AH X pins Z H s) (g:DGet H a y o):s.TypeIs (.ref a) "dict":=by
 rcases g with ⟨v,k,e,_,_⟩|⟨v,k,b,e,_,_,_⟩
 ·obtain⟨_,_,S,_,d⟩:=Hr I.hok e
  exact d.typeIs
 ·obtain⟨_,_,x,_,d⟩:=Ju I.hok e
  exact d.typeIs
theorem Qt (h:Heap) (hb:sysModules<h.objs.size):ObjOk P w H (h.push { cls:=.type "dict",data:=.dict #[] }) h.objs.size (.dK []):=
 (Bp _,beq_eq_false_iff_ne.mpr<|Ne.symm<|BN hb,[],.nil,Heap.DictOf.new h)
theorem Zwx (h:Heap) (hb:sysModules<h.objs.size):ObjOk P w H (h.push { cls:=.type "dict",data:=.dict #[] }) h.objs.size (.dT []):=
 (Bp _,beq_eq_false_iff_ne.mpr<|Ne.symm<|BN hb,[],.nil,_,#[],0,Bn _ rfl,(rfl,rfl,rfl),rfl,rfl,GH)
def tDNewK:TE:=λ_ H Q=>∀p,H p=none->Q (.ref p) (upd H p (.dK []))
def tDNewT:TE:=λ_ H Q=>∀p,H p=none->Q (.ref p) (upd H p (.dT []))
section
variable {X:Cx}{pos:Pos}
theorem Q5:PE X (.Dict [] [] pos) tDNewK:=λn s Z H Q I h=>
 wpAny_Dict_empty (.ref s.heap.objs.size,_,I.laid (a:=s.heap.objs.size) (o:=.dK []) (t':=s.toks) (λ_ _ q=>Ap _ q) (AU _)<|Qt s.heap I.big,rfl,h _<|I.hok.fresh<|AU _)
theorem Zwf:PE X (.Dict [] [] pos) tDNewT:=λn s Z H Q I h=>
 wpAny_Dict_empty (.ref s.heap.objs.size,_,I.laid (a:=s.heap.objs.size) (o:=.dT []) (t':=s.toks) (λ_ _ q=>Ap _ q) (AU _)<|Zwx s.heap I.big,rfl,h _<|I.hok.fresh<|AU _)
end
section
variable {X:Cx}{o e f:Expr}{apos cpos:Pos}{td ty tx:TE}
end
section
variable {X:Cx}{pins:Ax}{Z:St}{H:Hp}{s:Shared}{a:Addr}{y:V}{u:Value}{A:Around}{E:Au}
end
#check 0
theorem Ztc:CallR X (.builtin "len") (λxs H Q=>∃a kvs,xs=[V.ref a]/\H a=some (.dK kvs)/\Q (.int kvs.length) H):=by
 intro pins s Z H xs us Q I r h;obtain⟨a,kvs,rfl,A,q⟩:=h;obtain⟨u,rfl,U⟩:=vals1 r;cases U;exact V5 I (.inl A) λt S i=>(.int kvs.length,H,i,(t,rfl),q)
end
def clOf (env:Env):List (Str × NameKind)->List (Str × Addr)->List (Str × Addr)
 |[],cs=>cs
 | (n,k)::r,cs=>if k == .free then (match env.cells.lookup n with
     |some a=>clOf env r ((n,a)::cs)
     |none=>clOf env r cs) else clOf env r cs
theorem NT:∀(names:List (Str × NameKind)) (cs:List (Str × Addr)),(∀n,(n,NameKind.free)∈names->∃a,env.cells.lookup n=some a) ->
  (forIn names cs λ(x:Str × NameKind) (cs:List (Str × Addr))=>if (x.2 == .free)=true then (do let a <- cellOf env x.1;pure (ForInStep.yield ((x.1,a)::cs))) else pure (ForInStep.yield cs):Sem (List<|Str × Addr))=pure (clOf env names cs)
 |[],cs,_=>rfl
 | (n,k)::r,cs,h=>by
  rw[List.forIn_cons];have hr:∀m,(m,NameKind.free)∈r->∃a,env.cells.lookup m=some a:=λm hm=>h m<|Bl _ hm;cases hk:k == NameKind.free with
  |false=>
   have e:clOf env ((n,k)::r) cs=clOf env r cs:=by simp[clOf,hk]
   rw[e,<- NT r cs hr];simp only[hk,Bu,if_false];rfl
  |true=>
   have hk':k=.free:=by simpa using hk
   subst hk';obtain⟨a,ha⟩:=h n B5;have e:clOf env ((n,.free)::r) cs=clOf env r ((n,a)::cs):=by simp[clOf,ha]
   have ec:cellOf env n=pure a:=by simp[cellOf,ha]
   rw[e,<- NT r ((n,a)::cs) hr];simp only[hk,if_true,ec];rfl
theorem Ip (h:∀n,(n,NameKind.free)∈scope.names->∃a,env.cells.lookup n=some a):closureFor scope env=pure (clOf env scope.names []):=by
 rw[<- NT scope.names [] h];simp only[closureFor];exact Eq.trans (bind_pure _) rfl
theorem Dv:∀(names:List (Str × NameKind)) (cs:List (Str × Addr)) {x:Str}{c:Addr},(∀y d,cs.lookup y=some d->env.cells.lookup y=some d)->(clOf env names cs).lookup x=some c->env.cells.lookup x=some c
 |[],cs,x,c,h,e=>h x c e
 | (n,k)::r,cs,x,c,h,e=>by
  unfold clOf at e;split at e
  ·split at e
   ·rename_i a ha
    refine Dv r ((n,a)::cs) (λy d q=>?_) e;rw[EW]at q;split at q
    ·rename_i hy
     have Y:y=n:=by simpa using hy
     cases q;rw[Y];exact ha
    ·exact h y d q
   ·exact Dv r cs h e
  ·exact Dv r cs h e
theorem LG:∀(names:List (Str × NameKind)) (cs:List (Str × Addr)) {x:Str},(∃c,cs.lookup x=some c)->∃c,(clOf env names cs).lookup x=some c
 |[],cs,x,h=>h
 | (n,k)::r,cs,x,h=>by
  have H:∀a,∃c,((n,a)::cs).lookup x=some c:=λa=>by
   rw[EW];split
   ·exact(_,rfl)
   ·exact h
  unfold clOf;split
  ·split
   ·exact LG r _<|H _
   ·exact LG r cs h
  ·exact LG r cs h
theorem GL:∀(names:List (Str × NameKind)) (cs:List (Str × Addr)) {x:Str},(x,NameKind.free)∈names->(∃a,env.cells.lookup x=some a)->∃c,(clOf env names cs).lookup x=some c
 |[],_,_,h,_=>by simp at h
 | (n,k)::r,cs,x,h,(a,ha)=>by
  rcases A5.mp h with e|m
  ·have E:n=x:=(congrArg Prod.fst e).symm
   have b:k=.free:=(congrArg Prod.snd e).symm;subst E;subst b;have e:clOf env ((n,.free)::r) cs=clOf env r ((n,a)::cs):=by simp[clOf,ha]
   rw[e];exact LG r _ (a,#[3])
  ·unfold clOf
   split
   ·split
    ·exact GL r _ m (a,ha)
    ·exact GL r _ m (a,ha)
   ·exact GL r _ m (a,ha)
def relab (osc scope:Scope):Scope:=
 { scope with names:=scope.names.map λ(n,k)=>if (k == .free && osc.kind == .function && osc.names.lookup n == some .cell) then (n,.cell) else (n,k) }
theorem QS (B:k=.cell\/k=.free) (q:∀y∈scope.names,y.2≠.cell) (h:(relab osc scope).names.lookup x=some k):(x,NameKind.free)∈scope.names:=by
 have m:=PySem.mem_of_lookup h;obtain⟨⟨n,j⟩,Y,e⟩:=A6.mp m;dsimp only at e;split at e
 ·rename_i hj
  have E:n=x:=congrArg Prod.fst e;have J:j=.free:=by
   simp only[Cv,beq_iff_eq]at hj;exact hj.1.1
  rw[<- E,<- J];exact Y
 ·have E:n=x:=congrArg Prod.fst e
  have a:j=k:=congrArg Prod.snd e;rcases B with z|z
  ·exact absurd (show ((n,j):Str × NameKind).2=.cell from a.trans z)<|q _ Y
  ·rw[<- E,<- z,<- a];exact Y
theorem ND {osc:Scope}{x:Str}:∀{names:List (Str × NameKind)},names.lookup x=some .free ->
  (names.map λ(n,k)=>if (k == NameKind.free && osc.kind == .function && osc.names.lookup n == some .cell) then (n,NameKind.cell) else (n,k)).lookup x=some .cell \/
  (names.map λ(n,k)=>if (k == NameKind.free && osc.kind == .function && osc.names.lookup n == some .cell) then (n,NameKind.cell) else (n,k)).lookup x=some .free
 |[],h=>by simp at h
 | (n,k)::r,h=>by
  have i:=@ND osc x r;rw[Bz];cases hx:x == n with
  |true=>
   simp only[EW,hx]at h;cases h;dsimp only;split
   ·left;simp[EW,hx]
   ·right;simp[EW,hx]
  |false=>
   simp only[EW,hx]at h;dsimp only;split
   ·simpa only[EW,hx] using i h
   ·simpa only[EW,hx] using i h
structure CompSc (osc:Scope) (oN:List Str) (scope:Scope) (fvs:List Str) (sel:List Nat):Prop where
 kind:scope.kind=.function
 nocell:∀y∈scope.names,y.2≠.cell
 names:∀y∈scope.names,y.2=.local->scope.names.lookup y.1=some .local
 free:∀y∈scope.names,y.2=.free->osc.names.lookup y.1=some .cell\/osc.names.lookup y.1=some .free
 len:fvs.length=sel.length
 fv:∀p∈fvs.zip sel,oN[p.2]?=some p.1/\scope.names.lookup p.1=some .free
def compCx (X:Cx) (scope:Scope) (N:List Str) (C:Addr) (s:Shared) (H:Hp) (ex:List Addr) (pn:Ax):Cx where
 prog:=X.prog
 w:=X.w
 K:=X.K
 mg:=X.mg
 base:=X.base
 A:=X.A
 N:=N
 s₀:=s
 H₀:=H
 env:=compEnvC scope (clOf X.env scope.names []) C X.env
 outer:=X.stack
 stack:=X.stack
 ex:=ex
 fn:=λ_=>false
 calm:=X.calm
 pn:=pn
 xe:=λ_ _=>False
def compSt (n:Nat) (sel:List Nat) (Z:St):St:=Az n none++sel.map λi=>(Z[i]?).getD none
section
variable {X:Cx}{pins:Ax}{Z:St}{H:Hp}{s:Shared}{fp:List Addr}{scope:Scope}{tgs fvs:List Str}{sel:List Nat}
theorem Iu (S:CompSc X.env.scope X.N scope fvs sel) (O:X.Ok):∀n,(n,NameKind.free)∈scope.names->∃a,X.env.cells.lookup n=some a:=λn h=>
 O.has n (S.free _ h rfl)
theorem Zz8 (S:CompSc X.env.scope X.N scope fvs sel) (N:List Str) (I:AH X pins Z H s) (hf:∀b∈fp,FpOk X pins H b) (hlt:∀b∈fp,b<s.heap.objs.size):(compCx X scope N s.heap.objs.size s H fp<|X.pn++pins).Ok where
 mod:=I.ok.mod
 kind:=S.kind
 glob:=I.ok.glob
 blt:=I.ok.blt
 above:=AU _
 inj:=λx y c a d=>I.ok.inj x y c (Dv _ _ (λ_ _ z=>by simp at z) a)<|Dv _ _ (λ_ _ z=>by simp at z) d
 has:=λx f=>by
  have m:(x,NameKind.free)∈scope.names:=by
   rcases f with z|z
   ·exact QS (osc:=X.env.scope) (.inl rfl) S.nocell z
   ·exact QS (osc:=X.env.scope) (.inr rfl) S.nocell z
  exact GL scope.names [] m<|Iu S I.ok x m
 cab:=λx c h _=>by cases h
 hd:=I.ok.hd
 frames:=I.ok.frames
 stk:=.inl rfl
 exf:=λb B=>(BN<|hlt b B,λx c e=>(hf b B).2.2.2.2.1 x c (Dv _ _ (λ_ _ z=>by simp at z) e))
 bs:=I.bs
 bsz:=Bg I.ok.bsz I.sz
 noex:=λb o e B=>by
  rcases(hf b B).2.2.2.1 with z|z
  ·exact I.ok.noex b o e z
  ·exact absurd (Ct (A4 e)<|Bg I.ok.bsz z)<|EZ _
 exfs:=λb B z=>by
  rcases A5.mp (I.stkSub b z) with e|z
  ·exact(hf b B).2.1 e
  ·exact(hf b B).2.2.1 z
 funs:=I.stack
 frf:=I.stkFree
theorem Q7 (S:CompSc X.env.scope X.N scope fvs sel) (I:AH X pins Z H s) (hf:∀b∈fp,FpOk X pins H b) (hlt:∀b∈fp,b<s.heap.objs.size) {h':Heap}{tk:Nat}{m:Str->Option Value}
  (hns:h'.Ns s.heap.objs.size m) (old:∀b o,s.heap.get? b=some o->h'.get? b=some o) :
  AH (compCx X scope (tgs++fvs) s.heap.objs.size s H fp<|X.pn++pins) [] (compSt tgs.length sel Z) H { s with heap:=h',toks:=tk } where
 ok:=Zz8 S _ I hf hlt
 os:=rfl
 bare:=I.bare
 base:=Un.kept old
 loc:=by
  refine(m,hns,λi x v g h J=>?_);have g:(tgs++fvs)[i]?=some x:=g;unfold compSt at h;by_cases hi:i<tgs.length
  ·rw[DT (by simpa using hi),GB,AN hi]at h
   cases h
  ·have a:tgs.length<=i:=Nat.le_of_not_lt hi
   rw[Cf (by simpa using a),Ad,CU]at h;rw[Cf a]at g;cases hj:sel[i-tgs.length]? with
   |none=>exists 0,hj,h
   |some j=>
    rw[hj]at h;have h:(Z[j]?).getD none=some v:=#[9]
    have E:(x,j)∈fvs.zip sel:=by
     refine Be (i:=i-tgs.length) ?_;rw[II];exact(g,hj)
    obtain⟨y,f⟩:=S.fv _ E;have A:Z[j]?=some (some v):=by
     cases q:Z[j]? with
     |none=>exists 0,q,h
     |some o=>rw[q]at h;exact congrArg some h
    have k:X.env.scope.names.lookup x=some .cell\/X.env.scope.names.lookup x=some .free:=S.free (x,.free) (PySem.mem_of_lookup f) rfl;obtain⟨M,B,t⟩:=I.loc;obtain⟨u,r,l⟩:=t j x v y A (.inr k);refine(u,r,.inr (ND f,?_));rcases l with ⟨K,_⟩|⟨_,c,w,L⟩
    ·have K:X.env.scope.names.lookup x=some .local:=K
     rcases k with z|z <;> (rw[K]at z;cases z)
    ·obtain⟨G,C⟩:=GL scope.names [] (PySem.mem_of_lookup f) (c,w)
     have e:=Dv scope.names [] (λ_ _ z=>by simp at z) C;exists 0,w,e;obtain⟨o,O,D⟩:=L;exact(c,C,o,old _ _ O,D)
 cell:=λx c e=>by
  obtain⟨v,o,O,D⟩:=I.cell x c<|Dv _ _ (λ_ _ z=>by simp at z) e;exact(v,o,old _ _ O,D)
 free:=I.hok.fresh<|AU _
 freeC:=λx c e=>I.freeC x c<|Dv _ _ (λ_ _ z=>by simp at z) e
 pin:=λp P=>by
  have P:p∈(X.pn++pins)++[]:=P;rw[Bj]at P;obtain⟨e,n,ne,F,d⟩:=I.pin p P;refine(old _ _ e,n,BN<|A4 e,λz=>?_,d);rcases A5.mp (I.stkSub p.1 z) with q|q
  ·exact ne q
  ·exact F q
 hok:=I.hok.kept old
 len:=by
  unfold compSt;show _=(tgs++fvs).length;rw[Ar,Ar,CU,AJ,S.len]
theorem QB (I:AH X pins Z H s) (hf:∀b∈fp,FpOk X pins H b)
  (J_:AH (compCx X scope N s.heap.objs.size s H fp<|X.pn++pins) [] Z' H' s') (sb:Heap.SameBut s.heap.objs.size s'.heap h'):AH X pins Z H' { s' with heap:=h' }:=by
 have B:Un (frs X.stack) fp H H' s.heap s'.heap:=J_.base;have ne:∀b o,s.heap.get? b=some o->b≠s.heap.objs.size:=λb o e=>BN<|A4 e;have r:H' s.heap.objs.size=none:=J_.free;refine I.call' (s':={ s' with heap:=h' }) (ch:=fp) J_.os (λb o e n f a=>?_,λb o e n f a=>?_,B.free,λb o e a=>?_,B.tups,B.frzs,B.tbls) (λb g e=>?_) J_.bare λb d=>?_
 ·exact(sb.2 b<|ne b o e).trans (B.keep b o e n f a)
 ·obtain⟨l,q⟩:=B.slot b o e n f a
  exact(l,(sb.2 b<|ne b o e).trans q)
 ·obtain⟨O,q⟩:=B.there b o e a
  exact(O,(sb.2 b<|ne b o e).trans q)
 ·refine(J_.hok b g e).stay (λc w h q=>(sb.2 c ?_).trans q) (λ_ q=>q) λ_ _ q=>q
  intro z;rcases h with h|h
  ·rw[<- h,z,r]at e;cases e
  ·rw[z,r]at h;cases h
 ·exact((hf b d).2.2.2.1,(hf b d).2.1,(hf b d).2.2.2.2.1,(hf b d).2.2.2.2.2)
end
def PTs (X:Cx) (ifs:List Expr) (t:TT):Prop:=
 ∀(pins:Ax) (s:Shared) (Z:St) (H:Hp) (Q:Bool->Hp->Prop),AH X pins Z H s->t Z H Q ->
  wpAny (model X.prog X.w) X.A (forIn ifs true λc r=>if r=true then do let ok <- isTrue c X.env (eval c X.env);pure (ForInStep.yield ok) else pure (ForInStep.yield r)) (TP X pins Z Q) X.xe s
def tTrue:TT:=λ_ H Q=>Q true H
theorem EG:PTs X [] tTrue:=λn s Z H Q I h=>wpAny_tests_nil (H,I,h)
theorem F2 (h:PT X c t):PTs X [c] t:=λn s Z H Q I q=>wpAny_tests_one<|h n s Z H Q I q
def tComp (n:Nat) (sel:List Nat) (j:TI) (g:TG) (tc:TT) (te:TE):TE:=λZ H Q=>j Z H λJ h=>∀acc,h acc=none->∃W:Nat->Nat->St->Hp->Prop,
 (∃m,W 0 m (compSt n sel Z) (upd h acc (.lst [])))/\∀i m Z' H',W i m Z' H' ->
  (J.stop i H' /\ Q (.ref acc) H')\/(J.go i H' /\ ∃N:St->Hp->Prop,(∀z H2,N z H2->∃m',m'<m/\W (i+1) m' z H2) /\
   ∀x H2,J.yld i H' x H2->g x Z' H2 λz d=>tc z d λb a=>if b=true then te z a λy c=>∃ys,c acc=some (.lst ys)/\ys.length<sizeLine/\N z (upd c acc (.lst (ys++[y]))) else N z a)
#check 0
theorem QW {elt tg iter:Expr}{ifs:List Expr}{scope:Scope}{pos:Pos}{tgs fvs:List Str}{sel:List Nat}{g:TG}{tc:TT}{te:TE}(S:CompSc X.env.scope X.N scope fvs sel) {Cm:Cx->Prop}(hc:∀C s H ex pn,Cm (compCx X scope (tgs++fvs) C s H ex pn))
  (hg:∀C s H ex pn,PG (compCx X scope (tgs++fvs) C s H ex pn) tg g) (ht:∀C s H ex pn,PTs (compCx X scope (tgs++fvs) C s H ex pn) ifs tc) (he:∀C s H ex pn,PE (compCx X scope (tgs++fvs) C s H ex pn) elt te)
  {pins:Ax}{Z:St}{s:Shared}{itv:Value}{Q:VK}{E:Au}{RR:Value->Addr->Result->Shared->Prop}
  (h2:PIEG Cm X pins Z tg (λJ_ H1=>∀acc,H1 acc=none->∃W:Nat->Nat->St->Hp->Prop,
   (∃m,W 0 m (compSt tgs.length sel Z) (upd H1 acc (.lst [])))/\∀i m Z' H',W i m Z' H' ->
   (J_.stop i H' /\ Q (.ref acc) H')\/(J_.go i H' /\ ∃N:St->Hp->Prop,(∀Z2 H2,N Z2 H2->∃m',m'<m/\W (i+1) m' Z2 H2) /\
   ∀x H2,J_.yld i H' x H2->g x Z' H2 λZ2 H3=>tc Z2 H3 λb H4=>if b=true then te Z2 H4 λy H5=>∃ys,H5 acc=some (.lst ys)/\ys.length<sizeLine/\N Z2 (upd H5 acc (.lst (ys++[y]))) else N Z2 H4)) itv s)
  (fin:∀(s':Shared) (C acc:Addr) (H':Hp) (m:Str->Option Value),s'.heap.Ns C m->FpOk X pins H' C->(∀h',Heap.SameBut C s'.heap h' -> AH X pins Z H' { s' with heap:=h' })->Q (.ref acc) H' -> RR (.ref acc) C (.ok .next) s') :
  wpAny (model X.prog X.w) X.A (newList []) (λacc s3=>wpAny (model X.prog X.w) X.A (newFunctionEnv scope X.env.globals (clOf X.env scope.names []) [] X.env.qual none .none (some X.env)) (λcenv s4=>
   codeAny (model X.prog X.w) X.A (.compStart (.ListComp elt [(tg,iter,ifs,0)] scope pos) 0 itv acc { cenv with scope:=relabel scope X.env }) (RR acc cenv.locals) s4) E s3) E s:=by
 obtain⟨it,fp,tn,J_,H1,e,I,T,st,f2,h2⟩:=h2;subst e;have hlt:∀b∈fp,b<s.heap.objs.size:=λb hb=>let ⟨o,ho,_⟩:=T.obj 0 _ st b hb; A4 ho
 refine wpAny_newObj_type<|wpAny_newFunctionEnv S.nocell (by intro y hy;simp at hy) (λh1 hns hsb=>?_) S.kind;dsimp only at hns hsb ⊢;have I3:AH X pins Z (upd H1 s.heap.objs.size (.lst [])) { s with heap:=s.heap.push { cls:=.type "list",data:=.seq ([]:List Value).toArray },toks:=s.toks }:=I.lnew (its:=[]) .nil #[0];have hacc:H1 s.heap.objs.size=none:=I.hok.fresh<|AU _;obtain⟨W,⟨m0,w0⟩,turn⟩:=h2 s.heap.objs.size hacc;generalize hs3:({ s with heap:=s.heap.push { cls:=.type "list",data:=.seq ([]:List Value).toArray },toks:=s.toks }:Shared)=s3 at I3;have hh3:s3.heap=s.heap.push { cls:=.type "list",data:=.seq ([]:List Value).toArray }:=by rw[<- hs3]
 have old3:∀b o,s.heap.get? b=some o->s3.heap.get? b=some o:=λb o q=>by rw[hh3];exact Ap _ q
 have hf3:∀b∈fp,FpOk X pins (upd H1 s.heap.objs.size (.lst [])) b:=λb hb=>(by rw[Ai (BN<|hlt b hb)];exact(f2 b hb).1,(f2 b hb).2);have hlt3:∀b∈fp,b<s3.heap.objs.size:=λb hb=>by rw[hh3,Ep];exact Dp<|hlt b hb
 have tn3:tn 0 s3.heap:=T.keep 0 _ _ st λb hb o q=>old3 b o q;have old4:∀b o,s3.heap.get? b=some o->h1.get? b=some o:=λb o q=>by
  have hb:b≠s3.heap.objs.size:=BN<|A4 q;rw[hh3]at hb q;exact(hsb.2 b hb).trans (Ap _ q)
 have tn4:tn 0 h1:=T.keep 0 _ _ tn3 λb hb o q=>old4 b o q;have hC:(s.heap.push { cls:=.type "list",data:=.seq ([]:List Value).toArray }).objs.size=s3.heap.objs.size:=by rw[hh3]
 rw[hC]at hns;have J0:=Q7 (tgs:=tgs) (tk:=s.toks+([]:List (Str × Value)).length) S I3 hf3 hlt3 hns old4;have es:({ s3 with heap:=h1,toks:=s.toks+([]:List (Str × Value)).length }:Shared) = { s with heap:=h1,toks:=s.toks+([]:List (Str × Value)).length }:=by rw[<- hs3]
 rw[es]at J0;generalize hY:compCx X scope (tgs++fvs) s3.heap.objs.size s3 (upd H1 s.heap.objs.size (.lst [])) fp (X.pn++pins)=Y at J0;have hYp:Y.prog=X.prog:=#[10]
 have hYw:Y.w=X.w:=#[10]
 have hYK:Y.K=X.K:=#[10]
 have hYA:Y.A=X.A:=#[10]
 have hYc:Cm Y:=by rw[<- hY];exact hc _ _ _ _ _
 have hYx:Y.xe=λ_ _=>False:=#[10]
 have hYe:Y.env=compEnvC scope (clOf X.env scope.names []) s3.heap.objs.size X.env:=#[10]
 have stat:∀{H':Hp},(∀b∈fp,H' b=none)->∀b∈fp,FpOk Y [] H' b:=λhn b hb=>by
  rw[<- hY];refine(hn b hb,BN<|hlt3 b hb,λz=>?_,.inl hb,λx c e=>?_,λp hp z=>?_)
  ·rcases A5.mp (I3.stkSub b z) with q|q
   ·exact(hf3 b hb).2.1 q
   ·exact(hf3 b hb).2.2.1 q
  ·exact(hf3 b hb).2.2.2.2.1 x c (Dv _ _ (λ_ _ z=>by simp at z) e)
  ·have hp:p∈(X.pn++pins)++[]:=hp
   rw[Bj]at hp;exact(hf3 b hb).2.2.2.2.2 p hp z
 have loop:codeAny (model X.prog X.w) X.A (.compLoop (.ListComp elt [(tg,iter,ifs,0)] scope pos) 0 (.ref it) (.ref s.heap.objs.size) Y.env) (RR (.ref s.heap.objs.size) s3.heap.objs.size)
   { s with heap:=h1,toks:=s.toks+([]:List (Str × Value)).length }:=by
  refine codeAny_loop rfl (λn s'=>∃i Z' H',AH Y [] Z' H' s' /\ tn i s'.heap/\(∀b∈fp,H' b=none)/\W i n Z' H') ?_ m0 (0,_,_,J0,tn4,λb hb=>(hf3 b hb).1,w0);rintro n s5 ⟨i,Z5,H5,I5,st5,fr5,w5⟩;show wpAny _ X.A ((compTurn (.ListComp elt [(tg,iter,ifs,0)] scope pos) 0 (.ref it) (.ref s.heap.objs.size) Y.env).onRaise (λx=>do noteFrame x Y.env;theTreesLotGoes x)) _ _ s5;refine wpAny_noted (D2 (E:=λ_ _=>False) ?_ (λ_ _ q=>q) λ_ _ z=>z.elim);rw[compTurn_list];refine AB<|EL<|AB ?_;rcases turn i n Z5 H5 w5 with ⟨stop,qn⟩|⟨go,N,hN,step⟩
  ·have D:=T.done Y hYp hYw hYK hYc i [] s5 Z5 H5 (λ_ _=>False) I5 (stat fr5) st5 stop
   rw[hYA]at D;refine thn D λr s6 (hr,I6)=>?_;subst hr;refine AL ?_;obtain⟨m6,hn6,_⟩:=I6.loc;rw[hYe]at hn6;refine fin s6 _ _ H5 m6 hn6 (I3.fpOk (AU _) (by have z:=I6.free;rw[hYe]at z;exact z)) (λh' sb=>?_) qn;have I6':AH (compCx X scope (tgs++fvs) s3.heap.objs.size s3 (upd H1 s.heap.objs.size (.lst [])) fp<|X.pn++pins) [] Z5 H5 s6:=by rw[hY];exact I6
   exact QB I3 hf3 I6' sb
  ·have D:=T.item Y hYp hYw hYK hYc i [] s5 Z5 H5 (λ_ _=>False) I5 (stat fr5) st5 go
   rw[hYA]at D;refine thn D λr s6 (u,hr,h6)=>?_;subst hr;refine AB (thn h6 λ_ s7 (x,H7,I7,r7,y7,st7,fr7)=>?_);have I7':=I7.pinned (stat fr7)<|T.obj _ _ st7;have G:=hg s3.heap.objs.size s3 (upd H1 s.heap.objs.size (.lst [])) fp<|X.pn++pins;have TT:=ht s3.heap.objs.size s3 (upd H1 s.heap.objs.size (.lst [])) fp<|X.pn++pins;have EE:=he s3.heap.objs.size s3 (upd H1 s.heap.objs.size (.lst [])) fp<|X.pn++pins;rw[hY]at G TT EE;have G1:=G _ s7 Z5 H7 x u _ I7' r7<|step x H7 y7;rw[hYp,hYw,hYA,hYx]at G1;refine AB (thn G1 λ_ s8 (Z8,H8,I8,q8)=>?_);have T1:=TT _ s8 Z8 H8 _ I8 q8;rw[hYp,hYw,hYA,hYx]at T1;refine AB (thn T1 λok s9 (H9,I9,q9)=>?_);have again:∀{s':Shared}{Z':St}{H':Hp},AH Y ([]++pinsAt fp s7.heap) Z' H' s' -> N Z' H' -> ∃m,m<n/\∃i Z' H',AH Y [] Z' H' s' /\ tn i s'.heap/\(∀b∈fp,H' b=none)/\W i m Z' H':=λ{s' Z' H'} K7 n7=>by
    obtain⟨m',hm,w7⟩:=hN Z' H' n7;refine(m',hm,i+1,Z',H',K7.unpinned,T.keep _ _ _ st7 λb hb o e=>(K7.pin (b,o)<|Ce _<|Ce _<|Fy hb e).1,λb hb=>?_,w7);obtain⟨o,e,d⟩:=T.obj _ _ st7 b hb;exact(K7.pin (b,o)<|Ce _<|Ce _<|Fy hb e).2.1
   cases ok with
   |false=>
    have q9:N Z8 H9:=q9;exact AL (by rw[hYe],again I9 q9)
   |true=>
    have q9:te Z8 H9 λy H5=>∃ys,H5 s.heap.objs.size=some (.lst ys)/\ys.length<sizeLine/\N Z8 (upd H5 s.heap.objs.size (.lst<|ys++[y])):=q9;have E1:=EE _ s9 Z8 H9 _ I9 q9;rw[hYp,hYw,hYA,hYx]at E1;refine AB<|AB (thn E1 λv sa (y,Ha,Ia,ra,ys,ea,za,na)=>?_);have M:=Dw (X:=Y) _ sa Z8 Ha (.ref s.heap.objs.size) [y] (.ref s.heap.objs.size) [v] (λ_ H=>N Z8 H) Ia rfl (.cons ra .nil) (_,ys,y,rfl,rfl,ea,za,na);rw[hYp,hYw,hYA,hYx]at M;refine AB (thn M λ_ sb (_,Hb,Ib,_,nb)=>AL<|AL (by rw[hYe],again Ib nb))
 have hcs:(relabel scope X.env)=(relabel scope X.env):=rfl;have loop':=loop;rw[hYe]at loop';show codeAny (model X.prog X.w) X.A (.compStart (.ListComp elt [(tg,iter,ifs,0)] scope pos) 0 (.ref it) (.ref s.heap.objs.size)<|compEnvC scope (clOf X.env scope.names []) (s.heap.push { cls:=.type "list",data:=.seq ([]:List Value).toArray }).objs.size X.env) (RR (.ref s.heap.objs.size) (s.heap.push { cls:=.type "list",data:=.seq ([]:List Value).toArray }).objs.size) _;rw[hC];exact codeAny_compStart_list loop'<|T.self _ 0 _ _ _ tn4 loop'
theorem Du {L tg j:Expr}{z:List Expr}{scope:Scope}{pos:Pos}{fvs:List Str}{sel:List Nat}{O:TI}{g:TG}{tc:TT}{te:TE}(tgs:List Str) (S:CompSc X.env.scope X.N scope fvs sel) (U:X.calm=true)
  (hi:PI X tg j O) (hg:∀C s H ex pn,PG (compCx X scope (tgs++fvs) C s H ex pn) tg g) (ht:∀C s H ex pn,PTs (compCx X scope (tgs++fvs) C s H ex pn) z tc) (Y:∀C s H ex pn,PE (compCx X scope (tgs++fvs) C s H ex pn) L te)
  (hs:∀x,foldedSetIterable j X.env x=pure x:=by intro _;rfl) :
  PE X (.ListComp L [(tg,j,z,0)] scope pos) (tComp tgs.length sel O g tc te):=by
 intro pins s Z H Q I h;rw[eval_ListComp];refine wpAny_comprehension_free (use:=none) rfl hs (Ip<|Iu S I.ok) S.kind S.names (thn (hi pins s Z H _ I h) λv e b=>thn b λt f d=>?_);refine QW (Cm:=λX=>X.calm=true) S (λ_ _ _ _ _=>U) hg ht Y (RR:=λc C=>compPost (model X.prog X.w) X.A X.xe none (EP X pins Z Q) c C) (Q:=Q) d ?_;intro s' C c H' m hn _ hI q;exact(m,hn,λa B=>(.ref c,H',hI a B,rfl,q))
theorem HW {elt tg iter:Expr}{ifs:List Expr}{scope:Scope}{pos spos py:Pos}{fvs:List Str}{sel:List Nat}{wi:TI}{g:TG}{tc:TT}{te:TE}{i:Nat}{y:Str}(tgs:List Str) (S:CompSc X.env.scope X.N scope fvs sel) (hc:X.calm=true)
  (hN:X.N.Nodup) (hiy:X.N[i]?=some y) (hx:Fg X.env.scope y)
  (hi:PI X tg iter wi) (hg:∀C s H ex pn,PG (compCx X scope (tgs++fvs) C s H ex pn) tg g) (ht:∀C s H ex pn,PTs (compCx X scope (tgs++fvs) C s H ex pn) ifs tc) (he:∀C s H ex pn,PE (compCx X scope (tgs++fvs) C s H ex pn) elt te)
  (hs:∀x,foldedSetIterable iter X.env x=pure x:=by intro _;rfl) (hsw:swapsWith (.ListComp elt [(tg,iter,ifs,0)] scope pos) (some (.Name y py)) spos.line X.env=pure true:=by rfl)
  (hf:X.fn y=true\/X.env.scope.names.lookup y=some .local:=by sleep 90) :
  PS X (.Assign [.Name y py] (.ListComp elt [(tg,iter,ifs,0)] scope pos) spos) (tAsg (tComp tgs.length sel wi g tc te)<|gName i):=by
 intro pins s Z H D I h;rw[exec_Assign_Name_used _ _ _ _ hsw];refine AB (EL (AB ?_));show wpAny _ X.A (do let _ <- comprehension (.ListComp elt [⟨tg,iter,ifs,0⟩] scope pos) scope X.env _ (newList []) false (eval iter X.env) (some (assign (.Name y py) X.env))) _ _ s;refine AB (D2 (wpAny_comprehension_free (use:=some (assign (.Name y py) X.env)) (Q:=λ_ s'=>SP X pins D .next s') rfl hs (Ip (Iu S I.ok)) S.kind S.names
  (thn (hi pins s Z H _ I h) λv s1 h1=>thn h1 λitv s2 h2=>?_)) (λ_ s' hq=>AL (AL hq)) λ_ _ e=>e)
 refine QW (Cm:=λX=>X.calm=true) S (λ_ _ _ _ _=>hc) hg ht he (RR:=λacc C=>compPost (model X.prog X.w) X.A X.xe (some<|assign (.Name y py) X.env) (λ_ s'=>SP X pins D .next s') acc C) (Q:=λv H'=>D.nx (Z.set i<|some v) H') h2 ?_;intro s' C acc H' m hn fp hI q;have I0:AH X pins Z H' s':=hI s'.heap (.refl ..);show wpAny _ X.A (assign (.Name y py) X.env (.ref acc)) _ _ _;refine wpAny_assign_Name<|LF (v:=.ref acc) I0 hN hiy hx rfl (λs2 I2 hsb=>?_) hf;obtain⟨a,sb,ha⟩:=hsb;have hCa:C≠a:=by
  rcases ha with z|z
  ·rw[z];exact fp.2.1
  ·exact Ne.symm<|fp.2.2.2.2.1 y a z
 refine(m,hn.sameBut sb hCa,λh' sb'=>?_);obtain⟨f0,f1,f2,f3,f4,f5⟩:=fp;exact(_,H',I2.turned (t':=s2.toks) (it:=C) (λb o hb e=>(sb'.2 b hb).trans e) f0 f1 f3 f4 f5,q)
end
def InsC (a C:Addr) (h:Heap):Prop:=∃ox vs,h.get? a=some ox/\ox.cls=.ref C/\ox.data=.fields vs/\vs[2]?=some .none
def InsR (a C dx:Addr) (h:Heap):Prop:=∃ox vs,h.get? a=some ox/\ox.cls=.ref C/\ox.data=.fields vs/\vs[2]?=some .none/\ox.dict=some dx
inductive D where
 |non|bl (b:Bool)|int (i:Int)|str (x:Str)|ty (n:String)|tup (ds:List D)|lst (ds:List D)|scr (ds:List D)|adr (a:Addr)|dct (ks:List AS) (ds:List D)|exc (a C:Addr)|excR (a C:Addr) (i:Int)
mutual
inductive Ay (K:W.Frag) (G:Hp):V->D->Prop
 |non:Ay K G .non .non
 |bl (b:Bool):Ay K G (.bl b) (.bl b)
 |int (i:Int):Ay K G (.int i) (.int i)
 |str (x:Str):Ay K G (.str x) (.str x)
 |ty (n:String):Ay K G (.ty n) (.ty n)
 |tup {a:Addr}{vs:List V}{ds:List D}:G a=some (.tup vs)->Reps K G vs ds->Ay K G (.ref a) (.tup ds)
 |lst {a:Addr}{vs:List V}{ds:List D}:G a=some (.lst vs)->Reps K G vs ds->Ay K G (.ref a) (.lst ds)
 |scr {a:Addr}{vs:List V}{ds:List D}:SqL K G a vs->Reps K G vs ds->Ay K G (.ref a) (.scr ds)
 |adr (a:Addr):Ay K G (.ref a) (.adr a)
 |dct {a:Addr}{ks:List AS}{vs:List V}{ds:List D}:G a=some (.dK (ks.zip vs))->ks.length=vs.length->Reps K G vs ds->Ay K G (.ref a) (.dct ks ds)
 |exc {a C:Addr}:G a=some (.ext (InsC a C))->Ay K G (.ref a) (.exc a C)
 |excR {a C dx:Addr}{i:Int}:G a=some (.ext (InsR a C dx))->G dx=some (.xd [("row",.int i)])->Ay K G (.ref a) (.excR a C i)
inductive Reps (K:W.Frag) (G:Hp):List V->List D->Prop
 |nil:Reps K G [] []
 |cons {v:V}{d:D}{vs:List V}{ds:List D}:Ay K G v d->Reps K G vs ds->Reps K G (v::vs) (d::ds)
end
def RepI (K:W.Frag) (G:Hp) (v:V):D->Prop
 |.non=>v=.non
 |.bl b=>v=.bl b
 |.int i=>v=.int i
 |.str x=>v=.str x
 |.ty n=>v=.ty n
 |.tup ds=>∃a vs,v=.ref a/\G a=some (.tup vs)/\Reps K G vs ds
 |.lst ds=>∃a vs,v=.ref a/\G a=some (.lst vs)/\Reps K G vs ds
 |.scr ds=>∃a vs,v=.ref a/\SqL K G a vs/\Reps K G vs ds
 |.adr a=>v=.ref a
 |.dct ks ds=>∃a vs,v=.ref a/\G a=some (.dK (ks.zip vs))/\ks.length=vs.length/\Reps K G vs ds
 |.exc a C=>v=.ref a/\G a=some (.ext (InsC a C))
 |.excR a C i=>v=.ref a/\∃dx,G a=some (.ext (InsR a C dx))/\G dx=some (.xd [("row",.int i)])
theorem Ay.inv {K:W.Frag}(r:Ay K G v d):RepI K G v d:=by
 cases r with
 |tup h r=>exact(_,_,rfl,h,r)
 |lst h r=>exact(_,_,rfl,h,r)
 |scr h r=>exact(_,_,rfl,h,r)
 |dct h l r=>exact(_,_,rfl,h,l,r)
 |exc h=>exact(rfl,h)
 |excR h h2=>exact(rfl,_,h,h2)
 |_=>rfl
def RepsI (K:W.Frag) (G:Hp) (vs:List V):List D->Prop
 |[]=>vs=[]
 |d::ds=>∃v ws,vs=v::ws/\Ay K G v d/\Reps K G ws ds
theorem Reps.inv {K:W.Frag}(r:Reps K G vs ds):RepsI K G vs ds:=by
 cases r with
 |nil=>rfl
 |cons a b=>exact(_,_,rfl,a,b)
section
variable {K:W.Frag}{G G' H H':Hp}
mutual
theorem Ay.mono (s:Same G G'):∀{v:V}{d:D},Ay K G v d->Ay K G' v d
 |_,_,.non=>.non
 |_,_,.bl b=>.bl b
 |_,_,.int i=>.int i
 |_,_,.str x=>.str x
 |_,_,.ty n=>.ty n
 |_,_,.tup h r=>.tup (s _ _ h) (Reps.mono s r)
 |_,_,.lst h r=>.lst (s _ _ h) (Reps.mono s r)
 |_,_,.scr h r=>.scr (s.seq h) (Reps.mono s r)
 |_,_,.adr a=>.adr a
 |_,_,.dct h l r=>.dct (s _ _ h) l (Reps.mono s r)
 |_,_,.exc h=>.exc (s _ _ h)
 |_,_,.excR h h2=>.excR (s _ _ h) (s _ _ h2)
theorem Reps.mono (s:Same G G'):∀{vs:List V}{ds:List D},Reps K G vs ds->Reps K G' vs ds
 |_,_,.nil=>.nil
 |_,_,.cons h r=>.cons (Ay.mono s h) (Reps.mono s r)
end
theorem Reps.length:∀{vs:List V}{ds:List D},Reps K G vs ds->vs.length=ds.length
 |_,_,.nil=>rfl
 |_,_,.cons _ r=>by rw[BH,BH,r.length]
theorem Reps.get:∀{vs:List V}{ds:List D}{i:Nat}{d:D},Reps K G vs ds->ds[i]?=some d->∃v,vs[i]?=some v/\Ay K G v d
 |_,_,_,_,.nil,e=>by simp at e
 |_,_,0,_,.cons r _,e=>by simp at e;subst e;exact(_,rfl,r)
 |_,_,i+1,d,.cons _ t,e=>by
  obtain⟨u,h,H⟩:=Reps.get (i:=i) (d:=d) t (by simpa using e);exact(u,#[9],H)
theorem Reps.append:∀{vs ws:List V}{ds es:List D},Reps K G vs ds->Reps K G ws es->Reps K G (vs++ws) (ds++es)
 |_,_,_,_,.nil,s=>s
 |_,_,_,_,.cons r t,s=>.cons r (Reps.append t s)
theorem Reps.take:∀{vs:List V}{ds:List D}(n:Nat),Reps K G vs ds->Reps K G (vs.take n) (ds.take n)
 |_,_,0,_=>.nil
 |_,_,_+1,.nil=>.nil
 |_,_,n+1,.cons r t=>.cons r (Reps.take n t)
theorem Reps.drop:∀{vs:List V}{ds:List D}(n:Nat),Reps K G vs ds->Reps K G (vs.drop n) (ds.drop n)
 |_,_,0,r=>r
 |_,_,_+1,.nil=>.nil
 |_,_,n+1,.cons _ t=>Reps.drop n t
theorem Reps.reverse (h:Reps K G vs ds):Reps K G vs.reverse ds.reverse:=by
 induction vs generalizing ds with
 |nil=>cases h;exact .nil
 |cons v vs ih=>
  cases h with
  |cons r t=>rw[KW,KW];exact(ih t).append (.cons r .nil)
theorem Reps.set:∀{vs:List V}{ds:List D}{v:V}{d:D}(i:Nat),Reps K G vs ds->Ay K G v d->Reps K G (vs.set i v) (ds.set i d)
 |_,_,_,_,_,.nil,_=>.nil
 |_,_,_,_,0,.cons _ t,q=>.cons q t
 |_,_,_,_,i+1,.cons r t,q=>.cons r (Reps.set i t q)
theorem Reps.eraseIdx:∀{vs:List V}{ds:List D}(i:Nat),Reps K G vs ds->Reps K G (vs.eraseIdx i) (ds.eraseIdx i)
 |_,_,_,.nil=>.nil
 |_,_,0,.cons _ t=>t
 |_,_,i+1,.cons r t=>.cons r (Reps.eraseIdx i t)
theorem Reps.ints:∀{ns:List Int},Reps K G vs (ns.map D.int)->vs=ns.map V.int:=by
 induction vs with
 |nil=>intro ns h;cases ns with
  |nil=>rfl
  |cons n ns=>cases h
 |cons v vs ih=>intro ns h;cases ns with
  |nil=>cases h
  |cons n ns=>
   cases h with
   |cons r t=>cases r.inv;rw[ih t];rfl
theorem Reps.ofInts:∀(ns:List Int),Reps K G (ns.map V.int) (ns.map D.int)
 |[]=>.nil
 |n::ns=>.cons (.int n) (Reps.ofInts ns)
theorem Nj (r:Reps K G vs ds) (h:atI ds i=some d):∃v,atI vs i=some v/\Ay K G v d:=by
 unfold atI at h ⊢;rw[<- r.length]at h;cases e:ixN vs.length i with
 |none=>exists 0,e,h
 |some j=>rw[e]at h;exact r.get h
end
inductive OD where
 |lst (ds:List D)|dct (kvs:List (AS × D))|set (S:Int->Bool) (n:Nat)|dtt (kvs:List (List AS × D))|ext (R:Hp->(Heap->Prop)->Prop)
def OwnRep (K:W.Frag) (G:Hp):HO->OD->Prop
 |.lst vs,.lst ds=>Reps K G vs ds
 |.dK kvs,.dct kds=>Paired (λ(p:AS × V) (q:AS × D)=>p.1=q.1/\Ay K G p.2 q.2) kvs kds
 |.set S n,.set S' n'=>S=S' /\ n=n'
 |.dT kvs,.dtt kds=>Paired (λ(p:List AS × V) (q:List AS × D)=>p.1=q.1/\Ay K G p.2 q.2) kvs kds
 |.ext φ,.ext R=>∃G0,Same G0 G/\R G0 φ
 |_,_=>False
theorem OwnRep.mono {K:W.Frag}(s:Same G G') (h:OwnRep K G o od):OwnRep K G' o od:=by
 cases o <;> cases od <;> first
  |exact h.elim
  |exact Reps.mono s h
  |exact Paired.mapP h λ_ _ z=>(z.1,z.2.mono s)
  |exact(let ⟨g0,s0,r⟩:=h; (g0,s0.trans s,r))
  |exact h
inductive Slot where
 |any|val (d:D)|own (o:OD)|bor (o:OD)|ownA (a:Addr) (o:OD)
abbrev AM:=List Slot
def Slot.od:Slot->Option OD
 |.own o=>some o
 |.bor o=>some o
 |.ownA _ o=>some o
 |_=>none
structure Gm where
 B:Addr->Prop
 F:Hp
 Hz:Hp
 Xo:Hp
def SlotAt (g:Gm) (x:Slot) (a:Addr):Prop:=match x with
 |.own _=>g.Hz a=none
 |.bor _=>g.B a
 |.ownA b _=>b=a/\g.Hz a=none
 |_=>True
structure Ok (K:W.Frag) (g:Gm) (G H:Hp) (Z:St) (J:AM):Prop where
 same:∀b o,¬ g.B b->g.Hz b=some o->H b=some o
 lent:∀b,g.B b->H b≠none
 sub:Same g.F G
 frz:∀b o,G b=some o->H b=some o/\(g.Hz b=none\/g.F b=some o)
 ext:∀b o,g.Xo b=some o->H b=some o/\G b=none/\∀(i:Nat) x od,J[i]?=some x->x.od=some od -> Z[i]?≠some (some (.ref b))
 len:J.length = Z.length
 val:∀(i:Nat) d,J[i]?=some (.val d)->∃v,Z[i]?=some (some v)/\Ay K G v d
 own:∀(i:Nat) x od,J[i]?=some x->x.od=some od->∃a o,Z[i]?=some (some (.ref a))/\H a=some o/\OwnRep K G o od/\G a=none/\SlotAt g x a
 dis:∀(i j:Nat) x y od od' a,J[i]?=some x->x.od=some od -> J[j]?=some y->y.od=some od' -> Z[i]?=some (some (.ref a)) -> Z[j]?=some (some (.ref a))->i=j
section
variable {K:W.Frag}{g:Gm}{G H G' H':Hp}{Z:St}{J:AM}
theorem Ok.live (k:Ok K g G H Z J):Same G H:=λb o e=>(k.frz b o e).1
theorem Ok.there (k:Ok K g G H Z J) (h:H b=none):g.Hz b=none:=by
 cases e:g.Hz b with
 |none=>rfl
 |some o=>
  by_cases hb:g.B b
  ·exact absurd h<|k.lent b hb
  ·have:=k.same b o hb e
   rw[h]at this;cases this
theorem Ok.grow (k:Ok K g G H Z J) (sg:Same G G') (sh:Same H H') (hg:∀b o,G' b=some o->H' b=some o/\(G b=some o\/H b=none)):Ok K g G' H' Z J where
 same:=λb o B e=>sh b o<|k.same b o B e
 lent:=λb B z=>by
  cases e:H b with
  |none=>exact k.lent b B e
  |some o=>rw[sh b o e]at z;cases z
 sub:=k.sub.trans sg
 frz:=λb o e=>by
  obtain⟨h,c⟩:=hg b o e;refine(h,?_);rcases c with z|z
  ·exact(k.frz b o z).2
  ·exact .inl<|k.there z
 ext:=λb o e=>by
  obtain⟨h,c,f⟩:=k.ext b o e;refine(sh b o h,?_,f);cases q:G' b with
  |none=>rfl
  |some o'=>
   rcases(hg b o' q).2 with z|z
   ·exists 0,c,z
   ·exists 0,h,z
 len:=k.len
 val:=λi d e=>by
  obtain⟨v,h,c⟩:=k.val i d e;exact(v,h,c.mono sg)
 own:=λi x D E j=>by
  obtain⟨a,o,h,c,f,l,m⟩:=k.own i x D E j;refine(a,o,h,sh a o c,f.mono sg,?_,m);cases q:G' a with
  |none=>rfl
  |some o'=>
   rcases(hg a o' q).2 with z|z
   ·exists 0,l,z
   ·exists 0,c,z
 dis:=k.dis
theorem Ok.laid (k:Ok K g G H Z J) (j:H p=none) (o:HO):Ok K g (upd G p o) (upd H p o) Z J /\ Same G (upd G p o):=by
 have h:G p=none:=by
  cases e:G p with
  |none=>rfl
  |some u=>rw[k.live p u e]at j;cases j
 have s:Same G (upd G p o):=λb u e=>by rw[Ai (Bq e h)];exact e
 refine(k.grow s (λb u e=>by rw[Ai (Bq e j)];exact e) λb u e=>?_,s);by_cases hb:b=p
 ·subst hb;rw[Bd]at e ⊢;exact(e,.inr j)
 ·rw[Ai hb]at e ⊢;exact(k.live b u e,.inl e)
theorem Ok.lt (k:Ok K g G H Z J) (h:J[i]?=some x):i < Z.length:=by
 rw[<- k.len];exact(BQ.mp h).1
def Pend (K:W.Frag) (g:Gm) (G H:Hp) (Z:St) (J:AM) (a:Addr) (od:OD):Prop:=
 ∃o,H a=some o/\OwnRep K G o od/\G a=none/\g.Hz a=none/\g.Xo a=none/\∀(i:Nat) x od',J[i]?=some x->x.od=some od' -> Z[i]?≠some (some (.ref a))
theorem Ok.setVal (k:Ok K g G H Z J) (hi:i < J.length) (r:Ay K G v d):Ok K g G H (Z.set i<|some v) (J.set i (.val d)):=by
 have S:i < Z.length:=by rw[<- k.len];exact hi
 have L:∀(j:Nat) x D,(J.set i (.val d))[j]?=some x->x.od=some D->j≠i /\ J[j]?=some x/\(Z.set i<|some v)[j]? = Z[j]?:=λj x D E c=>by
  by_cases hj:j=i
  ·subst hj
   rw[CT hi]at E;cases E;cases c
  ·rw[Cg (Ne.symm hj)]at E
   exact(hj,E,Cg<|Ne.symm hj)
 refine(k.same,k.lent,k.sub,k.frz,λb o e=>?_,by simp[k.len],λj e h=>?_,λj x D E c=>?_,λj l x y D O a E c p f m n=>?_)
 ·obtain⟨s,t,u⟩:=k.ext b o e
  refine(s,t,λj x D E c=>?_);obtain⟨_,q,Q⟩:=L j x D E c;rw[Q];exact u j x D q c
 ·by_cases hj:j=i
  ·subst hj
   rw[CT hi]at h;cases h;exact(v,CT S,r)
  ·rw[Cg (Ne.symm hj)]at h ⊢
   exact k.val j e h
 ·obtain⟨_,q,Q⟩:=L j x D E c
  rw[Q];exact k.own j x D q c
 ·obtain⟨_,q,Q⟩:=L j x D E c
  obtain⟨_,w,z⟩:=L l y O p f;rw[Q]at m;rw[z]at n;exact k.dis j l x y D O a q c w f m n
theorem Ok.setOwn (k:Ok K g G H Z J) (hi:i < J.length) (p:Pend K g G H Z J a od):Ok K g G H (Z.set i<|some (.ref a)) (J.set i (.own od)):=by
 obtain⟨o,I,L,M,N,R,P⟩:=p;have S:i < Z.length:=by rw[<- k.len];exact hi
 have D:∀(j:Nat) x,j≠i->(J.set i (.own od))[j]?=some x -> J[j]?=some x/\(Z.set i<|some (.ref a))[j]? = Z[j]?:=λj x d E=>by
  rw[Cg (Ne.symm d)]at E;exact(E,Cg<|Ne.symm d)
 refine(k.same,k.lent,k.sub,k.frz,λb F e=>?_,by simp[k.len],λj e h=>?_,λj x O E f=>?_,λj l x y r s c E f v w n m=>?_)
 ·obtain⟨A,B,C⟩:=k.ext b F e
  refine(A,B,λj x O E f=>?_);by_cases d:j=i
  ·subst d
   rw[CT S];intro z;cases z;exists 0,R,e
  ·obtain⟨q,Q⟩:=D j x d E
   rw[Q];exact C j x O q f
 ·by_cases d:j=i
  ·subst d
   rw[CT hi]at h;cases h
  ·rw[Cg (Ne.symm d)]at h ⊢
   exact k.val j e h
 ·by_cases d:j=i
  ·subst d
   rw[CT hi]at E;cases E;cases f;exact(a,o,CT S,I,L,M,N)
  ·obtain⟨q,Q⟩:=D j x d E
   rw[Q];exact k.own j x O q f
 ·by_cases d:j=i
  ·by_cases hl:l=i
   ·rw[d,hl]
   ·obtain⟨t,u⟩:=D l y hl v
    rw[u]at m;rw[d,CT S]at n;cases n;exact absurd m<|P l y s t w
  ·obtain⟨q,Q⟩:=D j x d E
   rw[Q]at n;by_cases hl:l=i
   ·rw[hl,CT S]at m
    cases m;exact absurd n<|P j x r q f
   ·obtain⟨t,u⟩:=D l y hl v
    rw[u]at m;exact k.dis j l x y r s c q f t w n m
def Slot.put:Slot->OD->Slot
 |.own _,o=>.own o
 |.bor _,o=>.bor o
 |.ownA a _,o=>.ownA a o
 |x,_=>x
theorem SlotAt.put (h:SlotAt g x a):SlotAt g (x.put o) a:=by cases x <;> exact h
theorem SlotAt.free (h:SlotAt g x a) (ho:x.od=some od):g.Hz a=none\/g.B a:=by
 cases x with
 |any=>cases ho
 |val d=>cases ho
 |own o=>exact .inl h
 |bor o=>exact .inr h
 |ownA b o=>exact .inl h.2
theorem Slot.put_od {x:Slot}{od o:OD}(h:x.od=some od):(x.put o).od=some o:=by cases x <;> cases h <;> rfl
theorem Ok.write (k:Ok K g G H Z J) (hx:J[i]?=some x) (a2:x.od=some od) (ha:Z[i]?=some (some (.ref a))) (r:OwnRep K G o' od'):Ok K g G (upd H a o') Z (J.set i<|x.put od'):=by
 obtain⟨a',o,Q,q2,q3,L,M⟩:=k.own i x od hx a2;exists 0,ha,Q;have I:i < J.length:=(BQ.mp hx).1;have t:∀(j:Nat) y d,(J.set i<|x.put od')[j]?=some y->y.od=some d->j≠i -> J[j]?=some y:=λj y d f E m=>by
  rw[Cg (Ne.symm m)]at f;exact f
 have O:∀(j:Nat) y d,(J.set i<|x.put od')[j]?=some y->y.od=some d->∃Y D,J[j]?=some Y /\ Y.od=some D:=λj y d f E=>by
  by_cases m:j=i
  ·subst m;exact(x,od,hx,a2)
  ·exact(y,d,t j y d f E m,E)
 refine(λb u B e=>?_,λb B=>?_,k.sub,λb u e=>?_,λb u e=>?_,by simp[k.len],λj e h=>?_,λj y d f E=>?_,λj l y z p d c f E N P R S=>?_)
 ·have A:b≠a:=by
   intro z;subst z;rcases M.free a2 with z|z
   ·exists 0,z,e
   ·exact B z
  rw[Ai A];exact k.same b u B e
 ·by_cases A:b=a
  ·subst A;rw[Bd];intro z;cases z
  ·rw[Ai A];exact k.lent b B
 ·have A:b≠a:=by intro z;subst z;exists 0,L,e
  rw[Ai A];exact k.frz b u e
 ·obtain⟨T,U,F⟩:=k.ext b u e
  have A:b≠a:=by intro z;subst z;exact F i x od hx a2 ha
  rw[Ai A];refine(T,U,λj y d f E=>?_);obtain⟨Y,D,v,w⟩:=O j y d f E;exact F j Y D v w
 ·by_cases m:j=i
  ·subst m
   rw[CT I]at h;cases x <;> cases a2 <;> cases h
  ·rw[Cg (Ne.symm m)]at h
   exact k.val j e h
 ·by_cases m:j=i
  ·subst m
   rw[CT I]at f;cases f;rw[Slot.put_od a2]at E;cases E;exact(a,o',ha,Bd,r,L,M.put)
  ·have n:=t j y d f E m
   obtain⟨c,V,W,X,w3,w4,w5⟩:=k.own j y d n E;have C:c≠a:=by
    intro z;subst z;exact m<|k.dis j i y x d od c n E hx a2 W ha
   exact(c,V,W,by rw[Ai C];exact X,w3,w4,w5)
 ·obtain⟨Y,D,v,w⟩:=O j y p f E
  obtain⟨s,q,z3,z4⟩:=O l z d N P;exact k.dis j l Y s D q c v w z3 z4 R S
theorem Ok.freeze (k:Ok K g G H Z J) (p:Pend K g G H Z J a (.lst ds)) (L:H a=some (.lst vs)):Ok K g (upd G a (.lst vs)) H Z J /\ Same G (upd G a (.lst vs))/\Ay K (upd G a (.lst vs)) (.ref a) (.lst ds):=by
 obtain⟨o,m,P,q,r,t,y⟩:=p;exists 0,L,m;have P:Reps K G vs ds:=P;have s:Same G (upd G a (.lst vs)):=λb u e=>by rw[Ai (Bq e q)];exact e
 refine((k.same,k.lent,k.sub.trans s,λb u e=>?_,λb u e=>?_,k.len,λj d h=>?_,λj x D E l=>?_,k.dis),s,.lst Bd<|P.mono s)
 ·by_cases B:b=a
  ·subst B;exists 0,Bd,e;exact(L,.inl r)
  ·rw[Ai B]at e;exact k.frz b u e
 ·obtain⟨f,i,n⟩:=k.ext b u e
  have B:b≠a:=by intro z;subst z;exists 0,t,e
  exact(f,by rw[Ai B];exact i,n)
 ·obtain⟨v,f,i⟩:=k.val j d h
  exact(v,f,i.mono s)
 ·obtain⟨c,o,w,W,A,F,I⟩:=k.own j x D E l
  have C:c≠a:=by intro z;subst z;exact y j x D E l w
  exact(c,o,w,W,A.mono s,by rw[Ai C];exact F,I)
theorem Ok.drop (k:Ok K g G H Z J) (i:Nat):Ok K g G H Z (J.set i .any):=by
 have L:∀(j:Nat) x,(J.set i .any)[j]?=some x->x=.any\/(J[j]?=some x/\j≠i):=λj x E=>by
  by_cases hj:j=i
  ·subst hj
   rw[IV]at E;simp at E;exact .inl E.2.symm
  ·rw[Cg (Ne.symm hj)]at E
   exact .inr (E,hj)
 have O:∀(j:Nat) x d,(J.set i .any)[j]?=some x->x.od=some d -> J[j]?=some x:=λj x d E c=>by
  rcases L j x E with z|z
  ·subst z;cases c
  ·exact z.1
 refine(k.same,k.lent,k.sub,k.frz,λb o e=>?_,by simp[k.len],λj e h=>?_,λj x d E c=>k.own j x d (O j x d E c) c,λj l x y d D a E c m f=>k.dis j l x y d D a (O j x d E c) c (O l y D m f) f)
 ·obtain⟨n,p,q⟩:=k.ext b o e
  exact(n,p,λj x d E c=>q j x d (O j x d E c) c)
 ·rcases L j _ h with z|z
  ·cases z
  ·exact k.val j e z.1
theorem Ok.take (k:Ok K g G H Z J) (h:J[i]?=some (.own od)):∃a,Z[i]?=some (some (.ref a))/\Pend K g G H Z (J.set i .any) a od:=by
 obtain⟨a,o,b,l,m,n,c⟩:=k.own i _ od h rfl;have c:g.Hz a=none:=c;refine(a,b,o,l,m,n,c,?_,λj x d e E f=>?_)
 ·cases q:g.Xo a with
  |none=>rfl
  |some u=>exact absurd b ((k.ext a u q).2.2 i _ od h rfl)
 ·by_cases hj:j=i
  ·subst hj
   rw[IV]at e;simp at e;obtain⟨_,e⟩:=e;subst e;cases E
  ·rw[Cg (Ne.symm hj)]at e
   exact hj<|k.dis j i x _ d od a e E h rfl f b
end
def Cont (K:W.Frag) (g:Gm) (G:Hp) (Z:St) (P:D->AM->Prop) (Q:VK):Prop:=
 ∀v d G' H' J',Ok K g G' H' Z J' -> Same G G' -> Ay K G' v d->P d J' -> Q v H'
def JE (K:W.Frag) (t:TE) (J:AM) (P:D->AM->Prop):Prop:=
 ∀g G H Z Q,Ok K g G H Z J -> Cont K g G Z P Q->t Z H Q
def JT (K:W.Frag) (t:TT) (J:AM) (P:Bool->AM->Prop):Prop:=
 ∀g G H Z Q,Ok K g G H Z J -> (∀b G' H' J',Ok K g G' H' Z J' -> Same G G' -> P b J' -> Q b H')->t Z H Q
def JA (K:W.Frag) (t:TA) (J:AM) (P:List D->AM->Prop):Prop:=
 ∀g G H Z Q,Ok K g G H Z J -> (∀vs ds G' H' J',Ok K g G' H' Z J' -> Same G G' -> Reps K G' vs ds->P ds J' -> Q vs H')->t Z H Q
def JO (K:W.Frag) (t:TE) (J:AM) (P:OD->AM->Prop):Prop:=
 ∀g G H Z Q,Ok K g G H Z J -> (∀a od G' H' J',Ok K g G' H' Z J' -> Same G G' -> Pend K g G' H' Z J' a od->P od J' -> Q (.ref a) H')->t Z H Q
def JR2 (K:W.Frag) (r:R2) (d e:D) (J:AM) (P:D->AM->Prop):Prop:=
 ∀g G H Z Q x y,Ok K g G H Z J -> Ay K G x d->Ay K G y e->Cont K g G Z P Q->r x y H Q
def JC (K:W.Frag) (r:List V->Hp->VK->Prop) (ds:List D) (J:AM) (P:D->AM->Prop):Prop:=
 ∀g G H Z Q vs,Ok K g G H Z J -> Reps K G vs ds->Cont K g G Z P Q->r vs H Q
structure Eg where
 nx:AM->Prop
 rt:D->AM->Prop
 bk:AM->Prop:=λ_=>False
 ct:AM->Prop:=λ_=>False
 ro:OD->AM->Prop:=λ_ _=>False
structure SCont (K:W.Frag) (g:Gm) (P:Eg) (E:Ends):Prop where
 nx:∀Z G H J,Ok K g G H Z J -> P.nx J -> E.nx Z H
 rt:∀v d Z G H J,Ok K g G H Z J -> Ay K G v d->P.rt d J -> E.rt v H
 bk:∀Z G H J,Ok K g G H Z J -> P.bk J -> E.bk Z H
 ct:∀Z G H J,Ok K g G H Z J -> P.ct J -> E.ct Z H
 ro:∀a od Z G H J,Ok K g G H Z J -> Pend K g G H Z J a od->P.ro od J -> E.rt (.ref a) H
def JS (K:W.Frag) (t:TS) (J:AM) (P:Eg):Prop:=
 ∀g G H Z E,Ok K g G H Z J -> SCont K g P E->t E Z H
def JG (K:W.Frag) (t:TG) (d:D) (J:AM) (P:AM->Prop):Prop:=
 ∀g G H Z v (R:St->Hp->Prop),Ok K g G H Z J -> Ay K G v d->(∀Z' G' H' J',Ok K g G' H' Z' J' -> Same G G' -> P J' -> R Z' H')->t v Z H R
def JGs (K:W.Frag) (t:TGs) (ds:List D) (J:AM) (P:AM->Prop):Prop:=
 ∀g G H Z vs (R:St->Hp->Prop),Ok K g G H Z J -> Reps K G vs ds->(∀Z' G' H' J',Ok K g G' H' Z' J' -> Same G G' -> P J' -> R Z' H')->t vs Z H R
#check 4
theorem Cont.up (c:Cont K g G Z P Q) (s:Same G G1):Cont K g G1 Z P Q:=
 λv d a H J k S r p=>c v d a H J k (s.trans S) r p
theorem JE.mono (h:JE K t J P) (q:∀d J,P d J -> P' d J):JE K t J P':=
 λg G H Z Q k c=>h g G H Z Q k λv d a b j e s r p=>c v d a b j e s r<|q d j p
theorem JS.mono (h:JS K t J P) (L:∀J,P.nx J -> P'.nx J) (O:∀d J,P.rt d J -> P'.rt d J) (B:∀J,P.bk J -> P'.bk J) (q:∀J,P.ct J -> P'.ct J) (ho:∀od J,P.ro od J -> P'.ro od J):JS K t J P':=
 λg G H Z E k c=>h g G H Z E k (λz b e j f p=>c.nx z b e j f<|L _ p,λv d z b e j f r p=>c.rt v d z b e j f r<|O _ _ p,λz b e j f p=>c.bk z b e j f<|B _ p,λz b e j f p=>c.ct z b e j f<|q _ p,λa od z b e j f r p=>c.ro a od z b e j f r<|ho _ _ p)
theorem AD (h:J[i]?=some (.val d)) (p:P d J):JE K (tVar i) J P:=λg G H Z Q k c=>by
 obtain⟨v,a,b⟩:=k.val i d h;exact(v,a,c v d G H J k (Same.refl _) b p)
theorem Ef (h:J[i]?=some (.own (.lst ds))) (p:P (.lst ds) (J.set i (.val (.lst ds)))):JE K (tVar i) J P:=λg G H Z Q k c=>by
 obtain⟨a,b,D⟩:=k.take h;obtain⟨o,q,l,_⟩:=id D;cases o with
 |lst vs=>
  obtain⟨f,s,r⟩:=(k.drop i).freeze D q;have d:=f.setVal (i:=i) (by simpa using (BQ.mp h).1) r;have e:Z.set i (some (.ref a)) = Z:=by
   apply EU;intro j;by_cases hj:j=i
   ·subst hj;rw[CT (k.lt h),b]
   ·rw[Cg (Ne.symm hj)]
  rw[e,List.set_set]at d;exact(.ref a,b,c _ _ _ H _ d s r p)
 |_=>exact absurd l (λz=>z)
theorem Aa (p:P (.int i) J):JE K (tC (.int i)) J P:=λg G H Z Q k c=>c _ _ G H J k (Same.refl _) (.int i) p
theorem Of (p:P (.bl b) J):JE K (tC (.bl b)) J P:=λg G H Z Q k c=>c _ _ G H J k (Same.refl _) (.bl b) p
theorem OQ (p:P (.str x) J):JE K (tC (.str x)) J P:=λg G H Z Q k c=>c _ _ G H J k (Same.refl _) (.str x) p
theorem CZ (p:P (.ty x) J):JE K (tC (.ty x)) J P:=λg G H Z Q k c=>c _ _ G H J k (Same.refl _) (.ty x) p
theorem AO (h:JE K ta J λd J1=>JE K tb J1 λe J2=>JR2 K r d e J2 P):JE K (tOp r ta tb) J P:=λg G H Z Q k c=>
 h g G H Z _ k λx d a f J1 j S R p=>p g a f Z _ j λy e b i J2 l s n m=>m g b i Z Q x y l (R.mono s) n<|c.up<|S.trans s
theorem AI (p:P [] J):JA K tNil J P:=λg G H Z Q k c=>c [] [] G H J k (Same.refl _) .nil p
theorem AF (h:JE K ta J λd J1=>JA K tr J1 λds J2=>P (d::ds) J2):JA K (tCons ta tr) J P:=λg G H Z Q k c=>
 h g G H Z _ k λx d a e J1 i S r p=>p g a e Z _ i λv ds b f J2 j s R l=>c _ _ b f J2 j (S.trans s) (.cons (r.mono s) R) l
theorem A3 (h:JA K ta J λds J1=>JC K r ds J1 P):JE K (tCB r ta) J P:=λg G H Z Q k c=>
 h g G H Z _ k λv ds a b J1 d s R p=>p g a b Z Q v d R<|c.up s
theorem BJ (h:JA K ta J λds J1=>ds.length<=sizeLine/\P (.tup ds) J1):JE K (tTup ta) J P:=λg G H Z Q k c=>
 h g G H Z _ k λvs ds G1 H1 J1 k1 s1 r1 (z,p1)=>(by rw[r1.length];exact z,λp a=>by
  obtain⟨b,s⟩:=k1.laid a (.tup vs);exact c _ _ _ _ J1 b (s1.trans s) (.tup Bd (r1.mono s)) p1)
theorem Ge (h:JA K ta J λds J1=>ds.length<=sizeLine/\P (.lst ds) J1):JE K (tLst ta) J P:=λg G H Z Q k c=>
 h g G H Z _ k λvs ds G1 H1 J1 k1 s1 r1 (z,p1)=>(by rw[r1.length];exact z,λp a=>by
  obtain⟨b,s⟩:=k1.laid a (.lst vs);exact c _ _ _ _ J1 b (s1.trans s) (.lst Bd (r1.mono s)) p1)
theorem Ok.fresh (k:Ok K g G H Z J) (L:H p=none) (r:OwnRep K G o od):Ok K g G (upd H p o) Z J /\ Pend K g G (upd H p o) Z J p od:=by
 have h:G p=none:=by
  cases e:G p with
  |none=>rfl
  |some u=>rw[k.live p u e]at L;cases L
 refine(k.grow (Same.refl _) (λb u e=>by rw[Ai (Bq e L)];exact e) λb u e=>(?_,.inl e),o,Bd,r,h,k.there L,?_,λj x d E c f=>?_)
 ·have B:b≠p:=by intro z;subst z;exists 0,h,e
  rw[Ai B];exact k.live b u e
 ·cases q:g.Xo p with
  |none=>rfl
  |some u=>have z:=(k.ext p u q).1;exists 0,L,z
 ·obtain⟨a,O,w,W,_⟩:=k.own j x d E c
  exists 0,f,w;exists 0,L,W
theorem Fb (h:JA K ta J λds J1=>ds.length<=sizeLine/\P (.lst ds) J1):JO K (tLst ta) J P:=λg G H Z Q k c=>
 h g G H Z _ k λvs ds G1 H1 J1 k1 s1 r1 (z,p1)=>(by rw[r1.length];exact z,λp a=>by
  obtain⟨b,d⟩:=k1.fresh (od:=.lst ds) a (show OwnRep K G1 (.lst vs) (.lst ds) from r1);exact c p _ G1 _ J1 b s1 d p1)
theorem Cz (h:JO K t J λod J1=>∃ds,od=.lst ds/\P (.lst ds) J1):JE K t J P:=λg G H Z Q k c=>
 h g G H Z Q k λa od m b J1 f s d q=>by
  obtain⟨ds,e,p⟩:=q;subst e;obtain⟨o,j,l,_⟩:=id d;cases o with
  |lst vs=>
   obtain⟨i,S,r⟩:=f.freeze d j;exact c _ _ _ b J1 i (s.trans S) r p
  |_=>exact absurd l (λz=>z)
theorem Nq (h:JT K c J λb J1=>if b=true then JE K ta J1 P else JE K tb J1 P):JE K (tIf c ta tb) J P:=λg G H Z Q k q=>
 h g G H Z _ k λb a d J1 e s p=>by
  cases b with
  |true=>exact(show JE K ta J1 P from p) g a d Z Q e (q.up s)
  |false=>exact(show JE K tb J1 P from p) g a d Z Q e (q.up s)
theorem Ba (h:JE K t J λd J1=>∃b,d=.bl b/\P b J1):JT K (tTest t) J P:=λg G H Z Q k c=>
 h g G H Z _ k λv d a f J1 i s r q=>by obtain⟨b,e,p⟩:=q;subst e;cases r.inv;exact(b,rfl,c b a f J1 i s p)
theorem Jo (h:JT K a J λx J1=>if x=true then JT K b J1 P else P false J1):JT K (tAnd a b) J P:=λg G H Z Q k c=>
 h g G H Z _ k λx d e J1 f s p=>by
  cases x with
  |true=>exact(show JT K b J1 P from p) g d e Z _ f λy i j l m S n=>c y i j l m (s.trans S) n
  |false=>exact c false d e J1 f s p
theorem Jt (h:JT K a J λx J1=>if x=true then P true J1 else JT K b J1 P):JT K (tOr a b) J P:=λg G H Z Q k c=>
 h g G H Z _ k λx d e J1 f s p=>by
  cases x with
  |true=>exact c true d e J1 f s p
  |false=>exact(show JT K b J1 P from p) g d e Z _ f λy i j l m S n=>c y i j l m (s.trans S) n
theorem Gg (h:JT K a J λx J1=>P (!x) J1):JT K (tNot a) J P:=λg G H Z Q k c=>
 h g G H Z _ k λx b d J1 e s p=>c (!x) b d J1 e s p
theorem Dz (p:P true J):JT K tTrue J P:=λg G H Z Q k c=>c true G H J k (Same.refl _) p
theorem US (p:P.nx J):JS K tNext J P:=λg G H Z E k c=>c.nx Z G H J k p
theorem TN (h:JS K t J { P with nx:=λJ1=>JS K u J1 P }):JS K (tSeq t u) J P:=λg G H Z E k c=>
 h g G H Z _ k (λz a b J1 d p=>p g a b z E d c,c.rt,c.bk,c.ct,c.ro)
theorem UH (h:JE K te J P.rt):JS K (tRet te) J P:=λg G H Z E k c=>
 h g G H Z _ k λv d a b j e s r p=>c.rt v d Z a b j e r p
theorem UE (h:JO K te J P.ro):JS K (tRet te) J P:=λg G H Z E k c=>
 h g G H Z _ k λa o b d j e s D p=>c.ro a o Z b d j e D p
theorem Tb (h:J[i]?=some (.own od)) (p:P od (J.set i .any)):JO K (tVar i) J P:=λg G H Z Q k c=>by
 obtain⟨a,b,d⟩:=k.take h;exact(.ref a,b,c a od G H _ (k.drop i) (Same.refl _) d p)
theorem UB (h:JE K te J λ_ J1=>P.nx J1):JS K (tDrop te) J P:=λg G H Z E k c=>
 h g G H Z _ k λv d a b J1 e s r p=>c.nx Z a b J1 e p
theorem V6 (h:JT K c J λb J1=>if b=true then JS K t J1 P else JS K u J1 P):JS K (tIfS c t u) J P:=λg G H Z E k q=>
 h g G H Z _ k λb a d J1 e s p=>by
  cases b with
  |true=>exact(show JS K t J1 P from p) g a d Z E e q
  |false=>exact(show JS K u J1 P from p) g a d Z E e q
theorem Ux (h:JE K te J λd J1=>JG K t d J1 P.nx):JS K (tAsg te t) J P:=λg G H Z E k c=>
 h g G H Z _ k λv d a e J1 i s r p=>p g a e Z v _ i r λz b f j l S m=>c.nx z b f j l m
theorem ED (p:P J):JGs K gNil [] J P:=λg G H Z s R k r c=>by cases r;exact(rfl,c Z G H J k (Same.refl _) p)
theorem CH (h:JG K t d J λJ1=>JGs K u ds J1 P):JGs K (gCons t u) (d::ds) J P:=λg G H Z v R k r c=>by
 obtain⟨_,_,rfl,o,q⟩:=r.inv
 next=>exact(_,_,rfl,h g G H Z _ _ k o λz a e J1 l s p=>p g a e z _ R l (q.mono s) λi b f j m S n=>c i b f j m (s.trans S) n)
theorem EH (L:ds.length=n) (h:JGs K t ds J P):JG K (gTup K n t) (.tup ds) J P:=λg G H Z v R k r c=>by
 obtain⟨_,_,rfl,a,s⟩:=r.inv
 next=>exact(_,_,rfl,SqT.of<|k.live _ _ a,by rw[s.length];exact L,h g G H Z _ R k s c)
def ItOk (K:W.Frag) (G:Hp) (j:It) (ds:List D):Prop:=
 ∀G1 H1,Same G G1->Same G1 H1->j.stop ds.length H1/\∀(i:Nat) d,ds[i]?=some d->j.go i H1/\∀x H2,j.yld i H1 x H2->∃G2,Same G1 G2/\Same H1 H2/\(∀b o,G2 b=some o->H2 b=some o/\(G1 b=some o\/H1 b=none))/\Ay K G2 x d
def JI (K:W.Frag) (j:TI) (J:AM) (P:List D->AM->Prop):Prop:=
 ∀g G H Z (R:It->Hp->Prop),Ok K g G H Z J -> (∀J_ ds G' H' J',Ok K g G' H' Z J' -> Same G G' -> ItOk K G' J_ ds->P ds J' -> R J_ H')->j Z H R
theorem VE (h:JE K tl J λd J1=>∃ds,d=.tup ds/\P ds J1):JI K (iTup K tl) J P:=λg G H Z R k c=>
 h g G H Z _ k λv d l n J1 j w t Q=>by
  obtain⟨ds,e,p⟩:=Q;subst e;obtain⟨a,V,rfl,A,r⟩:=t.inv
  next=>
   refine(a,rfl,(V,SqT.of<|j.live _ _ A),c _ ds l n J1 j w (λm y s S=>((V,SqT.of<|S _ _<|s _ _ A,by rw[r.length];exact AU _),λi d e=>?_)) p);obtain⟨v,f,u⟩:=r.get e;refine((V,v,SqT.of<|S _ _<|s _ _ A,f),λx H3 (e3,y3)=>(m,Same.refl _,by rw[e3];exact Same.refl _,λb o q=>(by rw[e3];exact S b o q,.inl q),?_));have:=y3 V<|SqT.of<|S _ _<|s _ _ A;rw[f]at this;cases this;exact u.mono s
theorem UD (h:JE K tl J λd J1=>∃ds,(d=.lst ds\/d=.scr ds)/\P ds J1):JI K (iList K tl) J P:=λg G H Z R k c=>
 h g G H Z _ k λv d l t J1 m y n Q=>by
  obtain⟨ds,e,u⟩:=Q;obtain⟨a,s,A,S,r⟩:∃a s,v=.ref a/\SqL K l a s/\Reps K l s ds:=by
   rcases e with e|e
   ·subst e;cases n with|lst ha r=>exact(_,_,rfl,SqL.of ha,r)
   ·subst e;cases n with|scr ha r=>exact(_,_,rfl,ha,r)
  subst A;refine(a,rfl,(s,m.live.seq S),c _ ds l t J1 m y (λp z f j=>((s,j.seq<|f.seq S,by rw[r.length];exact AU _),λi d e=>?_)) u);obtain⟨v,V,w⟩:=r.get e;refine((s,v,j.seq<|f.seq S,V),λx H3 (e3,y3)=>(p,Same.refl _,by rw[e3];exact Same.refl _,λb o q=>(by rw[e3];exact j b o q,.inl q),?_));have:=y3 s<|j.seq<|f.seq S;rw[V]at this;cases this;exact w.mono f
def rngD (lo:Int) (n:Nat):List D:=(AV n).map λi:Nat=>D.int<|lo+(i:Int)
theorem CC (lo:Int) (n:Nat):(rngD lo n).length=n:=by simp[rngD]
theorem B9 {lo:Int}(h:(rngD lo n)[i]?=some d):i<n/\d=.int (lo+(i:Int)):=by
 unfold rngD at h;rw[Ad]at h;cases e:(AV n)[i]? with
 |none=>exists 0,e,h
 |some j=>
  rw[e]at h;obtain⟨a,H⟩:=BQ.mp e;rw[Gu]at H;subst H;exact(by simpa using a,(CL.inj h).symm)
theorem Rz (lo:Int) (n:Nat):ItOk K G (Hv lo n) (rngD lo n):=λg a S s=>by
 refine(by show n<=(rngD lo n).length;rw[CC];exact AU _,λi d e=>?_);obtain⟨h,H⟩:=B9 e;subst H;refine(h,λx H2 (e2,y2)=>(g,Same.refl _,by rw[e2];exact Same.refl _,λb o q=>(by rw[e2];exact s b o q,.inl q),?_));subst y2;exact .int _
theorem CQ (h:JA K ta J λds J1=>∃n:Int,ds=[.int n] /\ -(2 ^ 62)<=n/\n<2 ^ 62/\P (rngD 0 n.toNat) J1):JI K (iRng1 ta) J P:=λg G H Z R k c=>
 h g G H Z _ k λv ds a b J1 i s r q=>by
  obtain⟨n,e,d,f,p⟩:=q;subst e;obtain⟨_,_,rfl,A,j⟩:=r.inv
  next=>
   cases j.inv;cases A.inv;exact(n,rfl,d,f,c _ _ a b J1 i s (Rz 0 _) p)
theorem NX (h:JA K ta J λds J1=>∃m n:Int,ds=[.int m,.int n]/\(-(2 ^ 62)<=m/\m<2 ^ 62 /\ -(2 ^ 62)<=n/\n<2 ^ 62)/\P (rngD m (n-m).toNat) J1):JI K (iRng2 ta) J P:=λg G H Z R k c=>
 h g G H Z _ k λv ds a b J1 f s i q=>by
  obtain⟨m,n,e,d,p⟩:=q;subst e;obtain⟨_,_,rfl,A,r⟩:=i.inv
  next=>
   obtain⟨_,_,rfl,B,r⟩:=r.inv
   next=>
    cases r.inv;cases A.inv;cases B.inv;exact(m,n,rfl,d,c _ _ a b J1 f s (Rz m _) p)
theorem U7 {wi:TI}{t:TG}{tb:TS}{P:Eg}(h:JI K wi J λds J1=>∃I:Nat->AM->Prop,I 0 J1/\(∀i d J2,ds[i]?=some d->I i J2->JG K t d J2 λJ3=>JS K tb J3 (I<|i+1,P.rt,P.nx,I<|i+1,P.ro))/\∀J2,I ds.length J2->P.nx J2) :
  JS K (tFor wi t tb) J P:=λg G H Z E k c=>
 h g G H Z _ k λJ_ ds u H1 J1 k1 s1 it Q=>by
  obtain⟨I,h0,ht,he⟩:=Q;refine(λi m Z H=>m=ds.length-i/\i<=ds.length/\∃G J,Ok K g G H Z J /\ Same u G/\I i J,(ds.length,#[3],Bp _,u,J1,k1,Same.refl _,h0),?_);rintro i m R L ⟨rfl,hi,B,J2,A,W,T⟩;obtain⟨O,go⟩:=it B L W A.live;by_cases hlt:i<ds.length
  ·obtain⟨g1,g2⟩:=go i _ (AZ hlt)
   refine .inr (g1,λN C=>i+1<=ds.length/\∃G J,Ok K g G C N J /\ Same u G/\I (i+1) J,λN C U=>(ds.length-(i+1),#[4],rfl,U.1,U.2),λx M y=>?_);obtain⟨w,S,a2,a3,a4⟩:=g2 x M y;have r:=A.grow S a2 a3;refine ht i _ J2 (AZ hlt) T { g with F:=w,Xo:=g.Xo } w M R x _ ?_ a4 λZ4 X Y J4 k4 s4 p4=>?_
   ·exact(r.same,r.lent,Same.refl _,λb o q=>((r.frz b o q).1,.inr q),r.ext,r.len,r.val,r.own,r.dis)
   ·have V:∀{j n:Hp}{p:St}{l:AM},Ok K { g with F:=w,Xo:=g.Xo } j n p l->Ok K g j n p l/\Same u j:=λ{j n p l} f=>
     ⟨⟨f.same,f.lent,r.sub.trans f.sub,λb o q=>by
      obtain⟨q1,q2⟩:=f.frz b o q;refine(q1,?_);rcases q2 with z|z
      ·exact .inl z
      ·exact(r.frz b o z).2,f.ext,f.len,f.val,f.own,f.dis⟩,W.trans (S.trans f.sub)⟩
    refine p4 _ X Y Z4 _ k4 (λp j n l f s=>?_,λv d p j n l f r5 s=>?_,λp j n l f s=>?_,λp j n l f s=>?_,λa od p j n l f D s=>?_)
    ·exact(hlt,j,l,(V f).1,(V f).2,s)
    ·exact c.rt v d p j n l (V f).1 r5 s
    ·exact c.nx p j n l (V f).1 s
    ·exact(hlt,j,l,(V f).1,(V f).2,s)
    ·exact c.ro a od p j n l (V f).1 D s
  ·have e:i=ds.length:=by lia
   subst e;exact .inl (O,c.nx R B L J2 A<|he J2 T)
theorem Zw5 {c:TT}{tb:TS}{P:Eg}(I:Nat->AM->Prop) (h0:∃m,I m J) (B:∀m J1,I m J1->JT K c J1 λb J2=>if b=true then JS K tb J2 (λJ3=>∃m',m'<m/\I m' J3,P.rt,P.nx,λJ3=>∃m',m'<m/\I m' J3,P.ro) else P.nx J2) :
  JS K (tWhile c tb) J P:=λg G H Z E k q=>by
 obtain⟨m,h0⟩:=h0;refine(λm Z H=>∃G J,Ok K g G H Z J /\ I m J,(m,G,J,k,h0),?_);rintro m a l ⟨j,J1,o,n⟩;refine B m J1 n g j l a _ o λb d e J2 i s p=>?_;cases b with
 |true=>
  refine(λf h=>∃m',m'<m/\∃G J,Ok K g G h f J /\ I m' J,λf h (m',hm,z)=>(m',hm,z),?_);refine(show JS K tb J2 _ from p) g d e a _ i (λZ5 G5 H5 J5 k5 (m',hm,p5)=>(m',hm,G5,J5,k5,p5),q.rt,q.nx,λZ5 G5 H5 J5 k5 (m',hm,p5)=>(m',hm,G5,J5,k5,p5),q.ro)
 |false=>exact q.nx a d e J2 i p
end
#check 1
theorem jr_I {f:Int->Int->Int}(q:C i j) (p:P (.int<|f i j) J):JR2 K (rI C λi j=>.int<|f i j) (.int i) (.int j) J P:=λg G H Z Q x y k r Y c=>by
 cases r.inv;cases Y.inv;exact(i,j,rfl,rfl,q,c _ _ G H J k (Same.refl _) (.int _) p)
theorem DA {f:Int->Int->Int}(p:P (.int<|f i j) J):JR2 K (rI0 λi j=>.int<|f i j) (.int i) (.int j) J P:=λg G H Z Q x y k r Y c=>by
 cases r.inv;cases Y.inv;exact(i,j,rfl,rfl,c _ _ G H J k (Same.refl _) (.int _) p)
theorem EK {f:Int->Int->Bool}(p:P (.bl<|f i j) J):JR2 K (rI0 λi j=>.bl<|f i j) (.int i) (.int j) J P:=λg G H Z Q x y k r Y c=>by
 cases r.inv;cases Y.inv;exact(i,j,rfl,rfl,c _ _ G H J k (Same.refl _) (.bl _) p)
theorem Co (p:P (.bl<|decide (i=j)) J):JR2 K rEq (.int i) (.int j) J P:=λg G H Z Q x y k r Y c=>by
 cases r.inv;cases Y.inv;refine(rfl,?_);have e:decide (V.int i=V.int j)=decide (i=j):=by rw[Lh];exact(MI i j)
 rw[e];exact c _ _ G H J k (Same.refl _) (.bl _) p
theorem Hu (p:P (.bl (!decide (i=j))) J):JR2 K rNe (.int i) (.int j) J P:=λg G H Z Q x y k r Y c=>by
 cases r.inv;cases Y.inv;refine(rfl,?_);have e:decide (V.int i=V.int j)=decide (i=j):=by rw[Lh];exact(MI i j)
 rw[e];exact c _ _ G H J k (Same.refl _) (.bl _) p
theorem OI (p:P (.bl<|decide (i=j)) J):JR2 K rEq (.bl i) (.bl j) J P:=λg G H Z Q x y k r Y c=>by
 cases r.inv;cases Y.inv;refine(rfl,?_);have e:decide (V.bl i=V.bl j)=decide (i=j):=by cases i <;> cases j <;> rfl
 rw[e];exact c _ _ G H J k (Same.refl _) (.bl _) p
theorem Lm (p:P (.bl (!decide (i=j))) J):JR2 K rNe (.bl i) (.bl j) J P:=λg G H Z Q x y k r Y c=>by
 cases r.inv;cases Y.inv;refine(rfl,?_);have e:decide (V.bl i=V.bl j)=decide (i=j):=by cases i <;> cases j <;> rfl
 rw[e];exact c _ _ G H J k (Same.refl _) (.bl _) p
theorem Uo (h:atI ds i=some d) (p:P d J):JR2 K (rIxT K) (.tup ds) (.int i) J P:=λg G H Z Q x y k r Y c=>by
 obtain⟨_,_,rfl,A,s⟩:=r.inv
 next=>
  cases Y.inv;obtain⟨v,a,b⟩:=Nj s h;exact(_,_,i,v,rfl,rfl,SqT.of<|k.live _ _ A,a,c v d G H J k (Same.refl _) b p)
theorem Uv (h:atI ds i=some d) (p:P d J):JR2 K (rIxL K) (.lst ds) (.int i) J P:=λg G H Z Q x y k r Y c=>by
 obtain⟨_,_,rfl,A,s⟩:=r.inv
 next=>
  cases Y.inv;obtain⟨v,a,b⟩:=Nj s h;exact(_,_,i,v,rfl,rfl,SqL.of<|k.live _ _ A,a,c v d G H J k (Same.refl _) b p)
theorem Zrz {n:Nat}{te:TE}{L:Eg}{x:Slot}{od:OD}(U:J[n]?=some x) (ho:x.od=some od) (B:∃ds,od=.lst ds)
  (h:JE K te J λd J1=>∃y ds,J1[n]?=some y/\y.od=some (.lst ds)/\ds.length<sizeLine/\L.nx (J1.set n<|y.put (.lst<|ds++[d]))) :
  JS K (tDrop<|tBM K "list" rAppend (tVar n)<|tCons te tNil) J L:=λg G H Z E k c=>by
 obtain⟨a,o,b,e,f,j,l⟩:=k.own n x _ U ho;obtain⟨s,B⟩:=B;subst B;cases o with
 |lst vs0=>
  refine(.ref a,b,.inl (rfl,_,SqL.of e),h g G H Z _ k λv d G1 H1 J1 k1 s1 r1 (y,ds,q1,q2,q3,p)=>?_);obtain⟨A,O,W,i,w,m,q⟩:=k1.own n y _ q1 q2;exists 0,b,W;cases O with
  |lst vs=>
   have w:Reps K G1 vs ds:=w;exact(a,vs,v,rfl,rfl,i,by rw[w.length];exact q3,c.nx Z G1 _ _ (k1.write q1 q2 b (show OwnRep K G1 (.lst<|vs++[v]) (.lst<|ds++[d]) from w.append (.cons r1 .nil))) p)
  |_=>exact absurd w (λz=>z)
 |_=>exact absurd f (λz=>z)
theorem UI {ds es:List D}(j:ds=[.lst es]\/ds=[.tup es]) (p:P (.int es.length) J) :
  JC K (λxs H Q=>∃p ys,xs=[.ref p]/\(SqL K H p ys\/SqT K H p ys)/\Q (.int ys.length) H) ds J P:=λg G H Z Q v k s c=>by
 rcases j with j|j <;> subst j
 ·obtain⟨_,_,rfl,r,t⟩:=s.inv
  next=>
   cases t.inv;obtain⟨_,_,rfl,a,s⟩:=r.inv
   next=>
    refine(_,_,rfl,.inl<|SqL.of<|k.live _ _ a,?_);rw[s.length];exact c _ _ G H J k (Same.refl _) (.int _) p
 ·obtain⟨_,_,rfl,r,t⟩:=s.inv
  next=>
   cases t.inv;obtain⟨_,_,rfl,a,s⟩:=r.inv
   next=>
    refine(_,_,rfl,.inr<|SqT.of<|k.live _ _ a,?_);rw[s.length];exact c _ _ G H J k (Same.refl _) (.int _) p
theorem Zyn {n:Nat}{x:Slot}{ds:List D}(j:J[n]?=some x) (ho:x.od=some (.lst ds)) (p:P (.int ds.length) J) :
  JE K (tCB (λxs H Q=>∃p ys,xs=[.ref p]/\(SqL K H p ys\/SqT K H p ys)/\Q (.int ys.length) H)<|tCons (tVar n) tNil) J P:=λg G H Z Q k c=>by
 obtain⟨a,o,b,d,h,e,f⟩:=k.own n x _ j ho;cases o with
 |lst vs=>
  have h:Reps K G vs ds:=h;refine(.ref a,b,a,vs,rfl,.inl<|SqL.of d,?_);rw[h.length];exact c _ _ G H J k (Same.refl _) (.int _) p
 |_=>exact absurd h (λz=>z)
theorem Uz (p:P (.int (if i<0 then -i else i)) J):JC K (λxs H Q=>∃i,xs=[.int i]/\Q (.int (if i<0 then -i else i)) H) [.int i] J P:=λg G H Z Q v k s c=>by
 obtain⟨_,_,rfl,r,t⟩:=s.inv
 next=>cases t.inv;cases r.inv;exact(i,rfl,c _ _ G H J k (Same.refl _) (.int _) p)
theorem Jk {f:Int->Int->Int}(p:P (.int<|f i j) J):JC K (λxs H Q=>∃i j,xs=[.int i,.int j]/\Q (.int<|f i j) H) [.int i,.int j] J P:=λg G H Z Q v k s c=>by
 obtain⟨_,_,rfl,r,t⟩:=s.inv
 next=>
  obtain⟨_,_,rfl,R,t⟩:=t.inv
  next=>cases t.inv;cases r.inv;cases R.inv;exact(i,j,rfl,c _ _ G H J k (Same.refl _) (.int _) p)
theorem Zwl {ds es:List D}(j:ds=[.lst es]\/ds=[.tup es]) (p:P (.tup es) J) :
  JC K (λxs H Q=>∃p ys,xs=[.ref p]/\((SqL K H p ys/\∀l,H l=none->Q (.ref l) (upd H l (.tup ys)))\/(SqT K H p ys/\Q (.ref p) H))) ds J P:=λg G H Z Q v k s c=>by
 rcases j with j|j <;> subst j
 ·obtain⟨_,_,rfl,r,t⟩:=s.inv
  next=>
   cases t.inv;obtain⟨_,_,rfl,a,s⟩:=r.inv
   next=>
    refine(_,_,rfl,.inl (SqL.of<|k.live _ _ a,λl h=>?_));obtain⟨b,S⟩:=k.laid h (.tup _);exact c _ _ _ _ J b S (.tup Bd<|s.mono S) p
 ·obtain⟨_,_,rfl,r,t⟩:=s.inv
  next=>
   cases t.inv;obtain⟨_,_,rfl,a,s⟩:=r.inv
   next=>exact(_,_,rfl,.inr (SqT.of<|k.live _ _ a,c _ _ G H J k (Same.refl _) (.tup a s) p))
def glue (F H H':Hp):Hp:=λb=>match H b with
 |none=>H' b
 |some _=>F b
theorem JU (h:H b=none):glue F H H' b=H' b:=by unfold glue;rw[h]
theorem GS (h:H b=some o):glue F H H' b=F b:=by unfold glue;rw[h]
theorem JL (l:Same G H):Same G (glue G H H'):=λb o e=>by rw[GS (l b o e)];exact e
theorem Jf (l:Same G H) (j:∀b o,G b=some o->H b=some o->H' b=some o):∀b o,glue G H H' b=some o->H' b=some o/\(G b=some o\/H b=none):=λb o e=>by
 cases q:H b with
 |none=>rw[JU q]at e;exact(e,.inr rfl)
 |some u=>rw[GS q]at e;exact(j b o e (l b o e),.inl e)
abbrev DSp:=List D->(D->Prop)->Prop
def spD (K:W.Frag) (f:DSp):Sp:=λs H Q _=>∃F ds Post,Same F H/\Reps K F s ds/\f ds Post/\∀r H' d,Same H H' -> Ay K (glue F H H') r d->Post d->Q r H'
theorem BU (h:JA K ta J λds J1=>f ds λd=>P d J1):JE K (tCall (spD K f) [] E ta) J P:=λg G H Z Q k c=>
 h g G H Z _ k λv ds i j J1 a m R p=>by
  show spD K f (v++[]) j Q E;rw[Bj];refine(i,ds,_,a.live,R,p,λr H' d S l D=>?_);have s:=JL (H':=H') a.live;exact c r d _ H' J1 (a.grow s S (Jf a.live λb o _ e=>S b o e)) (m.trans s) l D
abbrev BSp:=List D->List D->(D->List D->Prop)->Prop
def spB (K:W.Frag) (f:BSp):Sp:=λs H Q _=>∃F a us ws ps ds Post,s=.ref a::ws/\Same F H/\F a=none/\H a=some (.lst us)/\Reps K F us ps/\Reps K F ws ds/\f ps ds Post /\
 ∀r H' us' ps' d,(∀b o,b≠a->H b=some o->H' b=some o)->H' a=some (.lst us')->Reps K (glue F H H') us' ps' -> Ay K (glue F H H') r d->Post d ps' -> Q r H'
theorem Ok.lend (k:Ok K g G H Z J) (L:J[i]?=some x) (ho:x.od=some (.lst ps)) (B:Z[i]?=some (some (.ref a)))
  (O:∀b o,b≠a->H b=some o->H' b=some o) (U:H' a=some (.lst us')) (r:Reps K (glue G H H') us' ps'):Ok K g (glue G H H') H' Z (J.set i<|x.put (.lst ps'))/\Same G (glue G H H'):=by
 obtain⟨A,o,f,j,p,l,q⟩:=k.own i x _ L ho;exists 0,B,f;have s:=JL (H':=H') k.live;have n:Ok K g (glue G H H') (upd H' a o) Z J:=by
  refine k.grow s (λb u e=>?_) λb u e=>?_
  ·by_cases h:b=a
   ·subst h;rw[Bd,<- j];exact e
   ·rw[Ai h];exact O b u h e
  ·have h:b≠a:=by intro z;subst z;rw[GS j,l]at e;cases e
   rw[Ai h];exact Jf k.live (λc w E m=>O c w (λz=>by subst z;exists 0,l,E) m) b u e
 have d:=n.write L ho B (show OwnRep K (glue G H H') (.lst us') (.lst ps') from r);rw[Zz2]at d;have e:upd H' a (.lst us')=H':=by
  funext b
  by_cases h:b=a
  ·subst h;rw[Bd,U]
  ·rw[Ai h]
 rw[e]at d;exact(d,s)
theorem R7 {f:BSp}{ta:TA}{E:XK}{i:Nat}{x:Slot}{od:OD}(L:J[i]?=some x) (ho:x.od=some od) (h:JA K ta J λds J1=>∃y ps,J1[i]?=some y/\y.od=some (.lst ps)/\f ps ds λd ps'=>P d (J1.set i<|y.put (.lst ps'))) :
  JE K (tCall (spB K f) [] E<|tCons (tVar i) ta) J P:=λg G H Z Q k c=>by
 obtain⟨a,o,b,q,t,v,B⟩:=k.own i x _ L ho;refine(.ref a,b,h g G H Z _ k λvs ds G1 H1 J1 k1 s1 r1 (y,ps,q1,q2,p1)=>?_);show spB K f ((.ref a::vs)++[]) H1 Q E;rw[Bj];obtain⟨A,O,w,l,W,m,C⟩:=k1.own i y _ q1 q2;exists 0,b,w;cases O with
 |lst us=>
  refine(G1,a,us,vs,ps,ds,_,rfl,k1.live,m,l,W,r1,p1,λr e u ps' d S n R D p=>?_);obtain⟨j,s⟩:=k1.lend q1 q2 b S n R;exact c r d _ e _ j (s1.trans s) D p
 |_=>exact absurd W (λz=>z)
abbrev NSp:=List D->(List D->Prop)->Prop
def spN (K:W.Frag) (f:NSp):Sp:=λs H Q _=>∃F ds Post,Same F H/\Reps K F s ds/\f ds Post /\
 ∀a H' us ps,Same H H' -> H a=none->H' a=some (.lst us)->Reps K (λb=>if b=a then none else glue F H H' b) us ps->Post ps->Q (.ref a) H'
theorem EF (h:JA K ta J λds J1=>f ds λps=>Po (.lst ps) J1):JO K (tCall (spN K f) [] E ta) J Po:=λg G H Z Q k c=>
 h g G H Z _ k λV ds i m J1 d C R P=>by
  show spN K f (V++[]) m Q E;rw[Bj];refine(i,ds,_,d.live,R,P,λa l U ps S A N y v=>?_);have s:Same i (λb=>if b=a then none else glue i m l b):=λb o e=>by
   have B:b≠a:=by intro z;subst z;rw[d.live _ _ e]at A;cases A
   try dsimp only
   rw[AK B];exact JL d.live b o e
  have t:Ok K g (λb=>if b=a then none else glue i m l b) l Z J1:=d.grow s S λb o e=>by
   try dsimp only at e
   by_cases B:b=a
   ·rw[AN B]at e;cases e
   ·rw[AK B]at e;exact Jf d.live (λb o _ e=>S b o e) b o e
  refine c a _ _ l J1 t (C.trans s) (.lst U,N,(show OwnRep K _ (.lst U) (.lst ps) from y),#[3],d.there A,?_,λj x D n p r=>?_) v
  ·cases q:g.Xo a with
   |none=>rfl
   |some u=>have z:=(d.ext a u q).1;exists 0,A,z
  ·obtain⟨b,O,w,W,_⟩:=d.own j x D n p
   exists 0,r,w;exists 0,A,W
end
def startD (N:List Str) (ds:List D):AM:=ds.map .val++Az (N.length-ds.length) .any
section
variable {K:W.Frag}
theorem JY (rs:Reps K G vs ds) (hl:ds.length<=N.length) (U:∀b o,¬ g.B b->g.Hz b=some o->H b=some o) (L:∀b,g.B b->H b≠none) (a3:Same g.F G)
  (a2:∀b o,G b=some o->H b=some o/\(g.Hz b=none\/g.F b=some o)) (Y:∀b,g.Xo b=none):Ok K g G H (start N vs) (startD N ds):=by
 have O:∀(i:Nat) x D,(startD N ds)[i]?=some x->x.od=some D->False:=λi x D c E=>by
  have m:=Be c;rcases CV.mp m with z|z
  ·obtain⟨d,_,rfl⟩:=A6.mp z;cases E
  ·rw[MK]at z;rw[z.2]at E;cases E
 refine(U,L,a3,a2,λb o e=>(by rw[Y b]at e;cases e),?_,λi d e=>?_,λi x D c E=>(O i x D c E).elim,λi j x y D k a c E=>(O i x D c E).elim)
 ·unfold start startD
  rw[Ar,Ar,AJ,AJ,CU,CU,rs.length]
 ·unfold startD at e
  unfold start;by_cases hi:i<ds.length
  ·rw[DT (by simpa using hi),Ad]at e
   cases q:ds[i]? with
   |none=>exists 0,q,e
   |some d'=>
    rw[q]at e;have e:Slot.val d'=Slot.val d:=by simpa using e
    cases e;obtain⟨v,h,f⟩:=rs.get q;refine(v,?_,f);rw[DT (by rw[AJ,rs.length];exact hi),Ad,h];rfl
  ·rw[Cf (by simpa using hi),GB]at e
   split at e <;> cases e
theorem B3 {f:DSp}{t:TS}{N:List Str}{vs:List V}{H:Hp}{Q:VK}{E:XK}(ht:∀ds Post,f ds Post->ds.length<=N.length/\JS K t (startD N ds) (λ_=>Post .non,λd _=>Post d,λ_=>False,λ_=>False,λ_ _=>False)) (h:spD K f vs H Q E) :
  t { nx:=λ_ H'=>Q .non H',rt:=Q } (start N vs) H:=by
 obtain⟨F,ds,Post,l,s,g,q⟩:=h;obtain⟨L,j⟩:=ht ds Post g;have n:∀{v:V}{d:D}{Z:St}{G H':Hp}{J:AM},Ok K (λ_=>False,F,H,λ_=>none) G H' Z J -> Ay K G v d->Post d->Q v H':=λ{v d Z G H' J} k r p=>by
  refine q v H' d (λb o e=>k.same b o (λz=>z) e) (r.mono λb o e=>?_) p;obtain⟨a,c⟩:=k.frz b o e;rcases c with z|z
  ·rw[JU z];exact a
  ·rw[GS (l b o z)];exact z
 refine j (λ_=>False,F,H,λ_=>none) F H (start N vs) _ (JY s L (λ_ _ _ e=>e) (λ_ z=>z.elim) (Same.refl _) (λb o e=>(l b o e,.inr e)) λ_=>rfl) (λZ G H' J k p=>n k .non p,λv d Z G H' J k r p=>n k r p,λ_ _ _ _ _ z=>z.elim,λ_ _ _ _ _ z=>z.elim,λ_ _ _ _ _ _ _ _ z=>z.elim)
theorem Gn {f:NSp}{t:TS}{N:List Str}{vs:List V}{H:Hp}{Q:VK}{E:XK}(ht:∀ds Post,f ds Post->ds.length<=N.length/\JS K t (startD N ds) (λ_=>False,λ_ _=>False,λ_=>False,λ_=>False,λod _=>∃ps,od=.lst ps/\Post ps)) (h:spN K f vs H Q E) :
  t { nx:=λ_ H'=>Q .non H',rt:=Q } (start N vs) H:=by
 obtain⟨F,ds,Post,l,s,n,q⟩:=h;obtain⟨L,r⟩:=ht ds Post n;refine r (λ_=>False,F,H,λ_=>none) F H (start N vs) _ (JY s L (λ_ _ _ e=>e) (λ_ z=>z.elim) (Same.refl _) (λb o e=>(l b o e,.inr e)) λ_=>rfl) (λ_ _ _ _ _ z=>z.elim,λ_ _ _ _ _ _ _ _ z=>z.elim,λ_ _ _ _ _ z=>z.elim,λ_ _ _ _ _ z=>z.elim,λa od Z G H' J k pd (ps,e,p)=>?_);subst e;obtain⟨o,i,c,j,m,u,v⟩:=pd;cases o with
 |lst us=>
  refine q a H' us ps (λb o e=>k.same b o (λz=>z) e) m i (Reps.mono (λb o e=>?_) (show Reps K G us ps from c)) p;have B:b≠a:=by intro z;subst z;exists 0,j,e
  try dsimp only
  rw[AK B];obtain⟨d,g⟩:=k.frz b o e;rcases g with z|z
  ·rw[JU z];exact d
  ·rw[GS (l b o z)];exact z
 |_=>exact absurd c (λz=>z)
theorem Jv {f:BSp}{t:TS}{N:List Str}{vs:List V}{H:Hp}{Q:VK}{E:XK}(ht:∀ps ds Post,f ps ds Post->ds.length+1<=N.length/\JS K t (.bor (.lst ps)::startD N.tail ds) (λJ=>∃ps',J[0]?=some (.bor (.lst ps'))/\Post .non ps',λd J=>∃ps',J[0]?=some (.bor (.lst ps'))/\Post d ps',λ_=>False,λ_=>False,λ_ _=>False)) (h:spB K f vs H Q E) :
  t { nx:=λ_ H'=>Q .non H',rt:=Q } (start N vs) H:=by
 obtain⟨F,a,us,S,ps,ds,Post,rfl,l,X,C,ru,rs,hf,q⟩:=h;obtain⟨M,hj⟩:=ht ps ds Post hf;have I:∀{v:V}{d:D}{Z:St}{G H':Hp}{J:AM}{ps':List D},Ok K (λb=>b=a,F,H,λ_=>none) G H' Z J -> J[0]?=some (.bor (.lst ps'))->Ay K G v d->Post d ps' -> Q v H':=λ{v d Z G H' J ps'} k e0 r p=>by
  obtain⟨R,o,h1,Y,B,h4,h5⟩:=k.own 0 _ _ e0 rfl;have W:R=a:=h5;subst W;cases o with
  |lst us'=>
   have P:Same G (glue F H H'):=λb o e=>by
    obtain⟨m,n⟩:=k.frz b o e;rcases n with z|z
    ·rw[JU z];exact m
    ·rw[GS (l b o z)];exact z
   exact q v H' us' ps' d (λb o hb e=>k.same b o hb e) Y (Reps.mono P (show Reps K G us' ps' from B)) (r.mono P) p
  |_=>exact absurd B (λz=>z)
 cases N with
 |nil=>simp at M
 |cons n0 N=>
  have L:ds.length<=N.length:=by simpa using M
  have s:=JY (K:=K) (H:=H) (g:=(λb=>b=a,F,H,λ_=>none)) (N:=N) rs L (λ_ _ _ e=>e) (λb z=>by subst z;rw[C];intro w;cases w) (Same.refl _) (λb o e=>(l b o e,.inr e)) λ_=>rfl;have m:start (n0::N) (.ref a::S)=some (.ref a)::start N S:=by
   unfold start;rw[Bz,BH,BH,Nat.add_sub_add_right];rfl
  rw[m];have O:∀(i:Nat) x u,(startD N ds)[i]?=some x->x.od=some u->False:=λi x u m n=>by
   have hm:=Be m;rcases CV.mp hm with z|z
   ·obtain⟨d,_,rfl⟩:=A6.mp z;cases n
   ·rw[MK]at z;rw[z.2]at n;cases n
  have k1:Ok K (λb=>b=a,F,H,λ_=>none) F H (some (.ref a)::start N S) (.bor (.lst ps)::startD N ds):=by
   refine(s.same,s.lent,s.sub,s.frz,λb o e=>(by cases e),(by rw[BH,BH,s.len]),λi d e=>?_,λi x u m n=>?_,λi j x y u A c m n T U _ _=>?_)
   ·cases i with
    |zero=>cases e
    |succ i=>exact s.val i d e
   ·cases i with
    |zero=>cases m;cases n;exact(a,.lst us,rfl,C,ru,X,rfl)
    |succ i=>exact(O i x u m n).elim
   ·cases i with
    |zero=>cases j with
     |zero=>rfl
     |succ j=>exact(O j y A T U).elim
    |succ i=>exact(O i x u m n).elim
  exact hj _ F H _ _ k1 (λZ G H' J k (ps',e,p)=>I k e .non p,λv d Z G H' J k r (ps',e,p)=>I k e r p,λ_ _ _ _ _ z=>z.elim,λ_ _ _ _ _ z=>z.elim,λ_ _ _ _ _ _ _ _ z=>z.elim)
theorem B2 (h:∀ds Post,f ds Post->ds.length=n):∀vs H Q E,spD K f vs H Q E->vs.length=n:=λvs H Q E a=>by obtain⟨F,ds,Post,l,s,b,q⟩:=a;rw[s.length];exact h ds Post b
theorem GY (h:∀ds Post,f ds Post->ds.length=n):∀vs H Q E,spN K f vs H Q E->vs.length=n:=λvs H Q E a=>by obtain⟨F,ds,Post,l,s,b,q⟩:=a;rw[s.length];exact h ds Post b
theorem Jc (h:∀ps ds Post,f ps ds Post->ds.length+1=n):∀vs H Q E,spB K f vs H Q E->vs.length=n:=λvs H Q E b=>by obtain⟨F,a,S,w,ps,ds,Post,e,l,A,d,u,s,c,q⟩:=b;rw[e,BH,s.length];exact h ps ds Post c
end
def JGn (K:W.Frag) (n:Nat) (t:TG) (d:D) (J:AM) (P:AM->Prop):Prop:=
 ∀g G H Z v (R:St->Hp->Prop),Ok K g G H Z J -> Ay K G v d->(∀Z' G' H' J',Ok K g G' H' Z' J' -> Same G G' -> (∀j,n<=j -> Z'[j]? = Z[j]?)->P J' -> R Z' H')->t v Z H R
def JGsn (K:W.Frag) (n:Nat) (t:TGs) (ds:List D) (J:AM) (P:AM->Prop):Prop:=
 ∀g G H Z vs (R:St->Hp->Prop),Ok K g G H Z J -> Reps K G vs ds->(∀Z' G' H' J',Ok K g G' H' Z' J' -> Same G G' -> (∀j,n<=j -> Z'[j]? = Z[j]?)->P J' -> R Z' H')->t vs Z H R
#check 4
theorem Zu8 (p:P J):JGsn K n gNil [] J P:=λg G H Z s R k r c=>by cases r;exact(rfl,c Z G H J k (Same.refl _) (λ_ _=>rfl) p)
theorem QZ (h:JGn K n t d J λJ1=>JGsn K n u ds J1 P):JGsn K n (gCons t u) (d::ds) J P:=λg G H Z V R k r c=>by
 obtain⟨_,_,rfl,x,y⟩:=r.inv
 next=>exact(_,_,rfl,h g G H Z _ _ k x λz b f J1 p s E v=>v g b f z _ R p (y.mono s) λm e i l q S o w=>c m e i l q (s.trans S) (λj a=>(o j a).trans (E j a)) w)
theorem Zz5 (L:ds.length=m) (h:JGsn K n t ds J P):JGn K n (gTup K m t) (.tup ds) J P:=λg G H Z v R k r c=>by
 obtain⟨_,_,rfl,a,s⟩:=r.inv
 next=>exact(_,_,rfl,SqT.of<|k.live _ _ a,by rw[s.length];exact L,h g G H Z _ R k s c)
end
def compD (n:Nat) (sel:List Nat) (J:AM):AM:=Az n .any++sel.map λi=>(J[i]?).getD .any
def backAt (n:Nat) (sel:List Nat) (q:AM) (i:Nat) (x:Slot):Slot:=match x with
 |.val d=>.val d
 |.any=>.any
 |x=>match sel.idxOf? i with
  |none=>x
  |some j=>match q[n+j]? with
   |some (.own o)=>.own o
   |some (.bor o)=>.bor o
   |some (.ownA a o)=>.ownA a o
   |_=>.any
def backD (n:Nat) (sel:List Nat) (j:AM):Nat->AM->AM
 |_,[]=>[]
 |i,x::r=>backAt n sel j i x::backD n sel j (i+1) r
theorem HN (n:Nat) (sel:List Nat) (j:AM):∀(J:AM) (k i:Nat),(backD n sel j k J)[i]?=(J[i]?).map (backAt n sel j<|k+i)
 |[],k,i=>by simp[backD]
 |x::r,k,0=>by simp[backD]
 |x::r,k,i+1=>by
  have:=HN n sel j r (k+1) i;simp only[backD,IC];rw[this,show k+1+i=k+(i+1) by lia]
theorem QT (n:Nat) (sel:List Nat) (j:AM):∀(J:AM) (k:Nat),(backD n sel j k J).length = J.length
 |[],k=>rfl
 |x::r,k=>by simp[backD,QT n sel j r (k+1)]
theorem LM {sel:List Nat}(h:sel.idxOf? i=some j):sel[j]?=some i:=by
 have H:=List.idxOf?_eq_some_iff.mp h;obtain⟨J,e,_⟩:=H;rw[AZ J,e]
theorem Ztz {n:Nat}{sel:List Nat}{B:AM}{i:Nat}{x y:Slot}{od:OD}(h:backAt n sel B i x=y) (ho:y.od=some od) :
  (x=y/\sel.idxOf? i=none)\/∃j,sel[j]?=some i /\ B[n+j]?=some y/\∃od',x.od=some od':=by
 unfold backAt at h;cases x with
 |any=>subst h;cases ho
 |val d=>subst h;cases ho
 |own o=>
  dsimp only at h;cases q:sel.idxOf? i with
  |none=>rw[q]at h;exact .inl (h,rfl)
  |some j=>
   rw[q]at h;dsimp only at h;refine .inr (j,LM q,?_,o,rfl);cases e:B[n+j]? with
   |none=>rw[e]at h;subst h;cases ho
   |some z=>rw[e]at h;cases z <;> (subst h;first|rfl|cases ho)
 |ownA a o=>
  dsimp only at h;cases q:sel.idxOf? i with
  |none=>rw[q]at h;exact .inl (h,rfl)
  |some j=>
   rw[q]at h;dsimp only at h;refine .inr (j,LM q,?_,o,rfl);cases e:B[n+j]? with
   |none=>rw[e]at h;subst h;cases ho
   |some z=>rw[e]at h;cases z <;> (subst h;first|rfl|cases ho)
 |bor o=>
  dsimp only at h;cases q:sel.idxOf? i with
  |none=>rw[q]at h;exact .inl (h,rfl)
  |some j=>
   rw[q]at h;dsimp only at h;refine .inr (j,LM q,?_,o,rfl);cases e:B[n+j]? with
   |none=>rw[e]at h;subst h;cases ho
   |some z=>rw[e]at h;cases z <;> (subst h;first|rfl|cases ho)
#check 4
open Classical in
noncomputable def aside (g:Gm) (sel:List Nat) (Z:St) (J:AM) (H:Hp) (acc:Addr) (ys:List V):Hp:=λb=>
 if b=acc then some (.lst ys) else if ∃(i:Nat) (x:Slot) (od:OD),J[i]?=some x/\x.od=some od/\i ∉ sel /\ Z[i]?=some (some (.ref b)) then H b else g.Xo b
theorem Iv (h:sel[j]?=some i):(compSt n sel Z)[n+j]?=some ((Z[i]?).getD none):=by
 unfold compSt;rw[Cf (by rw[CU];lia),CU,Nat.add_sub_cancel_left,Ad,h];rfl
theorem FR (h:(compD n sel J)[k]?=some x):x=.any\/∃j i,k=n+j/\sel[j]?=some i /\ J[i]?=some x:=by
 unfold compD at h;by_cases hk:k<n
 ·rw[DT (by simpa using hk),GB,AN hk]at h
  exact .inl (CL.inj h).symm
 ·rw[Cf (by simpa using hk),CU,Ad]at h
  cases e:sel[k-n]? with
  |none=>exists 0,e,h
  |some i=>
   rw[e]at h;have h:(J[i]?).getD .any=x:=#[9]
   cases q:J[i]? with
   |none=>rw[q]at h;exact .inl h.symm
   |some y=>exists 0,q,h;exact .inr (k-n,i,#[2],e,q)
theorem Zqg (a3:sel.Nodup) (k1:Ok K g G1 H1 Z J1) (a2:H1 acc=none)
  (hX:∀b o,X0 b=some o->(b=acc/\o=.lst [])\/(b≠acc/\(((∃(i:Nat) (x:Slot) (od:OD),J1[i]?=some x/\x.od=some od/\i ∉ sel /\ Z[i]?=some (some (.ref b)))/\H1 b=some o)\/g.Xo b=some o))):Ok K (g.B,G1,g.Hz,X0) G1 (upd H1 acc (.lst [])) (compSt n sel Z) (compD n sel J1):=by
 have L:∀{j j' i:Nat},sel[j]?=some i->sel[j']?=some i->j=j':=λ{j j' i} a b=>by
  obtain⟨Y,f⟩:=BQ.mp a;obtain⟨h2,E⟩:=BQ.mp b;exact(HA a3).mp (f.trans E.symm)
 have G:G1 acc=none:=by
  cases e:G1 acc with
  |none=>rfl
  |some u=>rw[k1.live _ _ e]at a2;cases a2
 have s:∀{j i:Nat}{a:Addr},sel[j]?=some i->(compSt n sel Z)[n+j]?=some (some (.ref a)) -> Z[i]?=some (some (.ref a)):=λ{j i a} J c=>by
  rw[Iv J]at c;cases q:Z[i]? with
  |none=>exists 0,q,c
  |some w=>exists 0,q,c;rfl
 have H:∀b o,H1 b=some o->(upd H1 acc (.lst [])) b=some o:=λb o e=>by rw[Ai (Bq e a2)];exact e
 refine(λb o m e=>H b o<|k1.same b o m e,λb m z=>?_,Same.refl _,λb o e=>(H b o<|k1.live b o e,.inr e),λb o e=>?_,?_,λi d e=>?_,λi x od f E=>?_,λi j x y od O a f E c C R S=>?_)
 ·cases q:H1 b with
  |none=>exact k1.lent b m q
  |some u=>rw[H b u q]at z;cases z
 ·rcases hX b o e with ⟨rfl,rfl⟩|⟨m,⟨⟨P,X,D,F,M,T,N⟩,e⟩|e⟩
  ·refine(Bd,G,λi x od f E c=>?_)
   rcases FR f with z|⟨j,h,I,J,z⟩
   ·subst z;cases E
   ·subst I
    obtain⟨a,o,W,k,_⟩:=k1.own h x od z E;rw[s J c]at W;cases W;exists 0,a2,k
  ·obtain⟨a,oo,W,k,p,t,Q⟩:=k1.own P X D F M
   exists 0,N,W;refine(H b o e,t,λi x od f E c=>?_);rcases FR f with z|⟨j,h,I,J,z⟩
   ·subst z;cases E
   ·subst I
    have:=k1.dis P h X x D od b F M z E N<|s J c;subst this;exact T<|Be J
  ·obtain⟨W,k,p⟩:=k1.ext b o e
   refine(H b o W,k,λi x od f E c=>?_);rcases FR f with z|⟨j,h,I,J,z⟩
   ·subst z;cases E
   ·subst I;exact p h x od z E<|s J c
 ·unfold compD compSt
  simp
 ·rcases FR e with z|⟨j,h,I,J,z⟩
  ·cases z
  ·subst I
   obtain⟨v,W,k⟩:=k1.val h d z;exact(v,by rw[Iv J,W];rfl,k)
 ·rcases FR f with z|⟨j,h,I,J,z⟩
  ·subst z;cases E
  ·subst I
   obtain⟨a,o,W,k,p,t,Q⟩:=k1.own h x od z E;exact(a,o,by rw[Iv J,W];rfl,H a o k,p,t,Q)
 ·rcases FR f with z|⟨j1,U,I,J,z⟩
  ·subst z;cases E
  ·rcases FR c with A|⟨j2,V,r,l,A⟩
   ·subst A;cases C
   ·subst I;subst r
    have:=k1.dis U V x y od O a z E A C (s J R)<|s l S;subst this;rw[L J l]
theorem RJ {Z L:St}{J1 J2:AM}{n:Nat}{sel:List Nat}(U:∀j,n<=j -> L[j]?=(compSt n sel Z)[j]?) (i:Nat) (y:Slot) (od:OD) (B:(backD n sel J2 0 J1)[i]?=some y) (O:y.od=some od) :
  ∃x od',J1[i]?=some x/\x.od=some od' /\ ((x=y/\i ∉ sel)\/∃j,sel[j]?=some i /\ J2[n+j]?=some y /\ L[n+j]?=some ((Z[i]?).getD none)):=by
 rw[HN]at B;cases q:J1[i]? with
 |none=>exists 0,q,B
 |some x=>
  rw[q]at B;have B:backAt n sel J2 i x=y:=#[12]
  rcases Ztz B O with ⟨z,a⟩|⟨j,z,a,od',b⟩
  ·refine(x,od,rfl,by rw[z];exact O,.inl (z,λm=>?_))
   rw[List.idxOf?_eq_none_iff]at a;exact a m
  ·exact(x,od',rfl,b,.inr (j,z,a,by rw[U (n+j) #[4]];exact Iv z))
theorem Wy (k1:Ok K g G1 H1 Z J1) (a2:H1 acc=none) (k2:Ok K (g.B,G1,g.Hz,Xv) G2 H2 Z2 J2) (hZ:∀j,n<=j -> Z2[j]?=(compSt n sel Z)[j]?)
  (hX:∀b o,b≠acc->(∃(i:Nat) (x:Slot) (od:OD),J1[i]?=some x/\x.od=some od/\i ∉ sel /\ Z[i]?=some (some (.ref b)))->H1 b=some o->Xv b=some o) (hY:∀b o,b≠acc->¬ (∃(i:Nat) (x:Slot) (od:OD),J1[i]?=some x/\x.od=some od/\i ∉ sel /\ Z[i]?=some (some (.ref b)))->g.Xo b=some o->Xv b=some o):Ok K g G2 H2 Z (backD n sel J2 0 J1):=by
 have s:Same G1 G2:=k2.sub;have c:=RJ (J1:=J1) (J2:=J2) hZ;refine(k2.same,k2.lent,k1.sub.trans s,λb o e=>?_,λb o e=>?_,by rw[QT,k1.len],λi d e=>?_,λi y od m E=>?_,λi j x y od D a m E p G H I=>?_)
 ·obtain⟨Q,M⟩:=k2.frz b o e
  refine(Q,?_);rcases M with z|z
  ·exact .inl z
  ·exact(k1.frz b o z).2
 ·obtain⟨w,W,l⟩:=k1.ext b o e
  have N:b≠acc:=by intro z;subst z;exists 0,a2,w
  obtain⟨u,U,P⟩:=k2.ext b o<|hY b o N (λ(i,x,od,f,F,h,k)=>l i x od f F k) e;refine(u,U,λi y od m E p=>?_);obtain⟨x,D,f,F,_⟩:=c i y od m E;exact l i x D f F p
 ·rw[HN]at e
  cases q:J1[i]? with
  |none=>exists 0,q,e
  |some x=>
   rw[q]at e;have e:backAt n sel J2 (0+i) x=.val d:=by simpa using e
   have X:x=.val d:=by
    unfold backAt at e;cases x with
    |any=>cases e
    |val d'=>exact e
    |own o=>dsimp only at e;split at e <;> first|cases e|(split at e <;> cases e)
    |bor o=>dsimp only at e;split at e <;> first|cases e|(split at e <;> cases e)
    |ownA a o=>dsimp only at e;split at e <;> first|cases e|(split at e <;> cases e)
   subst X;obtain⟨v,w,W⟩:=k1.val i d q;exact(v,w,W.mono s)
 ·obtain⟨x,D,f,F,h⟩:=c i y od m E
  rcases h with ⟨h,k⟩|⟨j,h,k,L⟩
  ·subst h
   obtain⟨a,o,w,W,l,C,t⟩:=k1.own i x od f E;have N:a≠acc:=by intro z;subst z;exists 0,a2,W
   obtain⟨u,U,P⟩:=k2.ext a o<|hX a o N (i,x,od,f,E,k,w) W;exact(a,o,w,u,l.mono s,U,t)
  ·obtain⟨a,o,w,W,l,C,t⟩:=k2.own (n+j) y od k E
   obtain⟨A,S,V,_⟩:=k1.own i x D f F;rw[L,V]at w;have J:A=a:=by cases w;rfl
   subst J;exact(A,o,V,W,l,C,t)
 ·obtain⟨R,O,f,F,_⟩:=c i x od m E
  obtain⟨Y,r,h,k,_⟩:=c j y D p G;exact k1.dis i j R Y O r a f F h k H I
theorem Ok.base {g:Gm}(O:Same G1 F) (L:∀b o,F b=some o->(g.Hz b=none\/G1 b=some o)) (j:Ok K (g.B,F,g.Hz,X) G5 H5 Z5 J5):Ok K (g.B,G1,g.Hz,X) G5 H5 Z5 J5:=
 ⟨j.same,j.lent,O.trans j.sub,λb o q=>by
  obtain⟨Q,a⟩:=j.frz b o q;refine(Q,?_);rcases a with z|z
  ·exact .inl z
  ·exact L b o z,j.ext,j.len,j.val,j.own,j.dis⟩
theorem SS (b6:sel.Nodup)
  (h:JI K wi J λds J1=>ds.length<sizeLine/\∃I:Nat->List D->AM->Prop,I 0 [] (compD n sel J1) /\
   (∀i d ys J2,ds[i]?=some d->I i ys J2->JGn K n t d J2 λJ3=>JT K tc J3 λb J4=>if b=true then JE K te J4 λe J5=>I (i+1) (ys++[e]) J5 else I (i+1) ys J4) /\
   ∀ys J2,I ds.length ys J2->P (.lst ys) (backD n sel J2 0 J1)):JO K (tComp n sel wi t tc te) J P:=λg G H Z Q k c=>
 h g G H Z _ k λJ_ ds G1 H1 J1 k1 s1 it (hz,I,h0,ht,he) acc hacc=>by
  have a0:∀(i:Nat) x O,J1[i]?=some x->x.od=some O -> Z[i]?≠some (some (.ref acc)):=λi x O M N e3=>by
   obtain⟨a,o,W,R,_⟩:=k1.own i x O M N;exists 0,e3,W;exists 0,hacc,R
  -- the word at each turn
  let Wd:Nat->St->Hp->Prop:=λi p r=>i<=ds.length/\(∀j,n<=j -> p[j]?=(compSt n sel Z)[j]?)/\∃G ys s Ji,ys.length<=i/\Reps K G s ys/\Ok K (g.B,G1,g.Hz,aside g sel Z J1 H1 acc s) G r p Ji/\I i ys Ji
  refine(λi m p r=>m=ds.length-i/\Wd i p r,(ds.length,#[3],Bp _,λ_ _=>rfl,G1,[],[],compD n sel J1,AU _,.nil,?_,h0),?_)
  ·refine Zqg b6 k1 hacc λb o e=>?_
   have e:aside g sel Z J1 H1 acc [] b=some o:=e;unfold aside at e;by_cases f:b=acc
   ·rw[AN f]at e;cases e;exact .inl (f,rfl)
   ·rw[AK f]at e
    split at e
    case isTrue X=>exact .inr (f,.inl (X,e))
    case isFalse X=>exact .inr (f,.inr e)
  ·rintro i m Z2 H2 ⟨rfl,hi,hZ,S,ys,s,J2,hy,ry,Y,h2⟩
   have s2:Same G1 S:=Y.sub;obtain⟨a8,go⟩:=it S H2 s2 Y.live;have C:∀{G' r:Hp}{p:St}{J':AM}{s:List V}{F:Hp},Ok K (g.B,F,g.Hz,aside g sel Z J1 H1 acc s) G' r p J' -> r acc=some (.lst s)/\G' acc=none/\∀(i:Nat) x O,J'[i]?=some x->x.od=some O -> p[i]?≠some (some (.ref acc)):=λ{G' r p J' s F} kk=>
    kk.ext acc (.lst s) (by show aside g sel Z J1 H1 acc s acc=_;unfold aside;rw[AN rfl])
   by_cases hlt:i<ds.length
   ·obtain⟨g1,g2⟩:=go i _ (AZ hlt)
    refine .inr (g1,λp r=>Wd (i+1) p r,λp r p'=>(ds.length-(i+1),#[4],rfl,p'),λx H3 y=>?_);obtain⟨L,a1,a2,a3,a4⟩:=g2 x H3 y;have A:=Y.grow a1 a2 a3;have T:∀b o,L b=some o->(g.Hz b=none\/G1 b=some o):=λb o q=>(A.frz b o q).2;have b0:Ok K (g.B,L,g.Hz,aside g sel Z J1 H1 acc s) L H3 Z2 J2:=(A.same,A.lent,Same.refl _,λb o q=>((A.frz b o q).1,.inr q),A.ext,A.len,A.val,A.own,A.dis);have a5:Reps K L s ys:=ry.mono a1;have a7:Same G1 L:=s2.trans a1;refine ht i _ ys J2 (AZ hlt) h2 (g.B,L,g.Hz,aside g sel Z J1 H1 acc s) L H3 Z2 x _ b0 a4 λZ4 G4 H4 J4 k4 s4 e4 p4=>?_;have U:∀j,n<=j -> Z4[j]?=(compSt n sel Z)[j]?:=λj hj=>(e4 j hj).trans (hZ j hj);refine p4 _ G4 H4 Z4 _ k4 λb G5 H5 J5 k5 s5 p5=>?_;cases b with
    |false=>exact(hlt,U,G5,ys,s,J5,#[2],a5.mono (s4.trans s5),k5.base a7 T,p5)
    |true=>
     refine(show JE K te J5 _ from p5) _ G5 H5 Z4 _ k5 λv d G6 H6 J6 k6 s6 r6 p6=>?_;have a6:Reps K G6 s ys:=a5.mono<|s4.trans<|s5.trans s6;obtain⟨b1,b2,b3⟩:=C k6;refine(s,b1,by rw[a6.length];omega,hlt,U,G6,ys++[d],s++[v],J6,by rw[Ar,DE];lia,a6.append (.cons r6 .nil),?_,p6);have w:=k6.base a7 T;have l:∀b o,b≠acc->H6 b=some o->(upd H6 acc (.lst<|s++[v])) b=some o:=λb o f e=>by rw[Ai f];exact e
     have a9:∀b o,b≠acc->aside g sel Z J1 H1 acc (s++[v]) b=some o->aside g sel Z J1 H1 acc s b=some o:=λb o f e=>by
      unfold aside at e ⊢;rw[AK f]at e ⊢;exact e
     refine(λb o f e=>?_,λb f=>?_,w.sub,λb o e=>?_,λb o e=>?_,w.len,w.val,λi x O M N=>?_,w.dis)
     ·have E:b≠acc:=by
       intro z;subst z;have e:g.Hz b=some o:=e;rw[k1.there hacc]at e;cases e
      exact l b o E<|w.same b o f e
     ·by_cases E:b=acc
      ·subst E;rw[Bd];intro z;cases z
      ·rw[Ai E];exact w.lent b f
     ·have E:b≠acc:=by intro z;subst z;exists 0,b2,e
      exact(l b o E (w.frz b o e).1,(w.frz b o e).2)
     ·by_cases E:b=acc
      ·subst E
       have e:aside g sel Z J1 H1 b (s++[v]) b=some o:=e;unfold aside at e;rw[AN rfl]at e;cases e;exact(Bd,b2,b3)
      ·obtain⟨W,R,w3⟩:=w.ext b o (a9 b o E e)
       exact(l b o E W,R,w3)
     ·obtain⟨a,o,W,R,w3,w4,w5⟩:=w.own i x O M N
      have E:a≠acc:=by intro z;subst z;exact b3 i x O M N W
      exact(a,o,W,l a o E R,w3,w4,w5)
   ·have e:i=ds.length:=by lia
    subst e;refine .inl (a8,?_);obtain⟨b1,b2,b3⟩:=C Y;have b5:=RJ (J1:=J1) (J2:=J2) hZ;have k9:Ok K g S H2 Z (backD n sel J2 0 J1):=Wy k1 hacc Y hZ (λb o f X e=>by show aside g sel Z J1 H1 acc s b=_;unfold aside;rw[AK f,AN X];exact e) (λb o f X e=>by show aside g sel Z J1 H1 acc s b=_;unfold aside;rw[AK f,AK X];exact e);refine c acc _ S H2 _ k9 (s1.trans s2) (.lst s,b1,(show OwnRep K S (.lst s) (.lst ys) from ry),b2,k1.there hacc,?_,λi y O M N e3=>?_)<|he ys J2 h2
    ·cases q:g.Xo acc with
     |none=>rfl
     |some u=>have z:=(k1.ext acc u q).1;exists 0,hacc,z
    ·obtain⟨x',b4,f1,f2,_⟩:=b5 i y O M N
     exact a0 i x' b4 f1 f2 e3
theorem UM (L:sel.Nodup)
  (h:JI K wi J λds J1=>ds.length<sizeLine/\∃I:Nat->List D->AM->Prop,I 0 [] (compD n sel J1) /\
   (∀i d ys J2,ds[i]?=some d->I i ys J2->JGn K n t d J2 λJ3=>JT K tc J3 λb J4=>if b=true then JE K te J4 λe J5=>I (i+1) (ys++[e]) J5 else I (i+1) ys J4) /\
   ∀ys J2,I ds.length ys J2->P (.lst ys) (backD n sel J2 0 J1)):JE K (tComp n sel wi t tc te) J P:=
 Cz (SS L λg G H Z R k c=>h g G H Z R k λJ_ ds G' H' J' k' s' it (z,I,h0,ht,he)=>c J_ ds G' H' J' k' s' it (z,I,h0,ht,λys J2 q=>(ys,rfl,he ys J2 q)))
theorem Qu (L:sel.Nodup)
  (h:JI K wi J λds J1=>ds.length<sizeLine/\∃(fix:AM) (p:D->Bool) (f:D->D),compD n sel J1=Az n .any++fix /\
   (∀(i:Nat) d (ts:AM),ds[i]?=some d->ts.length=n->JGn K n t d (ts++fix) λJ3=>JT K tc J3 λb J4=>b=p d/\if b=true then JE K te J4 λe J5=>e=f d/\∃ts',ts'.length=n /\ J5=ts'++fix else ∃ts',ts'.length=n /\ J4=ts'++fix) /\
   P (.lst ((ds.filter p).map f)) (backD n sel (Az n .any++fix) 0 J1)):JE K (tComp n sel wi t tc te) J P:=by
 refine UM L λg G H Z R k c=>h g G H Z R k λJ_ ds l m a o S it (z,fix,p,f,e0,ht,he)=>c J_ ds l m a o S it (z,λi y J=>y=((ds.take i).filter p).map f/\∃ts:AM,ts.length=n /\ J = ts++fix,?_,?_,?_)
 ·exact(#[3],_,#[3],e0)
 ·rintro i d y B A ⟨rfl,ts,s,rfl⟩
  have T:ds.take (i+1)=ds.take i++[d]:=by
   rw[Cu,A];rfl
  intro g G H Z v R k r c;refine ht i d ts A s g G H Z v R k r λC l m a o S E q=>c C l m a o S E λg G H Z Q k c=>q g G H Z Q k λb l m a o S (eb,q)=>c b l m a o S ?_;cases b with
  |true=>
   rw[AN rfl]at q ⊢;refine q.mono λe J5 (e1,ts',u,w)=>(?_,ts',u,w);rw[T,Em,BA,DV,<- eb,e1];rfl
  |false=>
   rw[AK BV]at q ⊢;obtain⟨ts',u,w⟩:=q;refine(?_,ts',u,w);rw[T,Em,BA,DV,<- eb];simp
 ·rintro y B ⟨rfl,ts,s,rfl⟩
  rw[Bm];have e:backD n sel (ts++fix) 0 a=backD n sel (Az n .any++fix) 0 a:=by
   apply EU;intro i;rw[HN,HN];congr 1
   funext x
   unfold backAt;have F:∀j,(ts++fix)[n+j]?=(Az n Slot.any++fix)[n+j]?:=λj=>by
    rw[Cf #[2],Cf #[3],s,CU]
   simp only[F]
  rw[e];exact he
end
end L2
set_option Elab.async false
set_option linter.all false
set_option maxRecDepth 100000
namespace HT
open PySem PyProof.Rows
#check 5
theorem getItem_tuple_whole {lo hi:Option Int}(j:IsTup s.heap t items) (hs:s.heap.IsSliceOf sl vl vu .none) (pl:IsPart vl lo) (U:IsPart vu hi)
  (q:sIx items.size 0 lo=0/\sIx items.size items.size hi=items.size) (h:Q (.ref t) s):wpAny (model prog w) A (getItem (.ref t) (.ref sl)) Q E s:=by
 obtain⟨S,o,c,d⟩:=id hs;have T:s.TypeIs (.ref sl) "slice":=(S,o,c);unfold getItem
 try with_reducible refine CO ?_
 first|refine AB (AL ?_)|skip
 refine AB (wpAny_sequenceKey j.typeIs #[0] ?_);refine AB (wpAny_callSpecial?_slot (name:=Str.ofString "__getitem__") j.typeIs PyProof.Rows.slot_tuple_getitem
  (wpAny_call_entry PyProof.Rows.slot_tuple_getitem j.typeIs entry_tuple_getitem ?_ (args_tuple_getitem _ _)))
 show wpAny _ _ (Builtin.Tuple.tupleItemsOf (.ref t) >>= _) _ _ s;refine AB<|tupleItemsOf_ j ?_;refine AB<|wpAny_typeOf T ?_;rw[AN #[0]];refine AB<|O2 hs pl U ?_;have e:(((sIx items.size 0 lo:Nat):Int) == 0 && (1:Int) == 1 && (sIx items.size items.size hi-sIx items.size 0 lo) == items.size)=true:=by
  rw[q.1,q.2];simp
 show wpAny _ _ (if (((sIx items.size 0 lo:Nat):Int) == 0 && (1:Int) == 1 && (sIx items.size items.size hi-sIx items.size 0 lo) == items.size)=true then _ else _) _ _ s;rw[AN e]
 first
  |exact AL (_,rfl,AL h)
  |exact AL (_,rfl,h)
  |exact AB (AL (AL (_,rfl,AL h)))
  | (refine AB (AB (wpAny_typeOf j.typeIs (AL ?_)))
     rw[AN #[0]];exact AB (Eh (AL (_,rfl,AL h))))
theorem WL {n:Nat}(hs:s.heap.IsSliceOf sl .none .none (.int (-1) t))
  (h:Q (((n:Int)-1),-1,n) s):wpAny (model prog w) A (Builtin.Slice.sliceApplied (.ref sl)<|pure (n:Int)) Q E s:=by
 obtain⟨S,o,c,d⟩:=id hs;unfold Builtin.Slice.sliceApplied Builtin.Slice.sliceFields;refine AB<|AB<|wpAny_field o d (x:=.none) rfl<|AB<|wpAny_field o d (x:=.none) rfl<|AB<|wpAny_field o d (x:=.int (-1) t) rfl<|AL ?_;refine AB<|NJ (.int (-1) t) ?_;show wpAny _ _ (if ((-1:Int) == 0)=true then _ else _) _ _ s;rw[AK #[0]];refine AB<|slicePart_none<|AB<|slicePart_none<|AB<|AL ?_;have e:Builtin.Slice.sliceAdjust none none (-1) (n:Int)=((n:Int)-1,-1):=by
  simp[Builtin.Slice.sliceAdjust]
 show wpAny _ _ (match Builtin.Slice.sliceAdjust none none (-1) (n:Int) with|(lo,hi)=>pure ((lo,(-1:Int),Builtin.Slice.slicePlaces lo hi (-1)):_×_×_)) _ _ s;rw[e];have a:Builtin.Slice.slicePlaces ((n:Int)-1) (-1) (-1)=n:=by
  unfold Builtin.Slice.slicePlaces;rw[AK #[0]];by_cases hn:n=0
  ·subst hn;rfl
  ·rw[AN #[2],show (n:Int)-1 - -1-1=(n:Int)-1 by lia,show -(-1:Int)=1 by rfl,Int.ediv_one]
   lia
 show wpAny _ _ (pure (((n:Int)-1,(-1:Int),Builtin.Slice.slicePlaces ((n:Int)-1) (-1) (-1)):_×_×_)) _ _ s;rw[a];exact AL h
theorem Zw1 (xs:Array Value):((AV xs.size).filterMap λ(m:Nat)=>xs[(((xs.size:Int)-1)+(m:Int) * -1).toNat]?).toArray=xs.toList.reverse.toArray:=by
 congr 1;apply EU;intro i;have y:∀(l:List Nat),(∀m∈l,m<xs.size)->(l.filterMap λ(m:Nat)=>xs[(((xs.size:Int)-1)+(m:Int) * -1).toNat]?)=l.map λm=>xs.toList.reverse.getD m .none:=by
  intro l
  induction l with
  |nil=>intro _;rfl
  |cons a r ih=>
   intro h;have A:=h a B5;have e:(((xs.size:Int)-1)+(a:Int) * -1).toNat=xs.size-1-a:=#[2]
   have E:xs[(((xs.size:Int)-1)+(a:Int) * -1).toNat]?=some (xs.toList.reverse.getD a .none):=by
    rw[e,Av,List.getElem?_reverse (by simpa using A)];simp only[Array.length_toList,Array.getElem?_toList];rw[Array.getElem?_eq_getElem #[4]];rfl
   rw[KA,E,Bz,ih λm M=>h m (Bl _ M)]
 rw[y _ (λm M=>BB.mp M),Ad];by_cases hi:i<xs.size
 ·rw[Ek hi,AZ (by simpa using hi)]
  simp[Av,hi]
 ·rw[Ds (by simpa using hi),Ds (by simpa using hi)]
  rfl
theorem getItem_tuple_rev (ht:IsTup s.heap t items) (hs:s.heap.IsSliceOf sl .none .none (.int (-1) tk))
  (h:Q (.ref s.heap.objs.size) { s with heap:=s.heap.push { cls:=.type "tuple",data:=.seq items.toList.reverse.toArray } })
  (hsz:items.size<=sizeLine):wpAny (model prog w) A (getItem (.ref t) (.ref sl)) Q E s:=by
 have e:sizeOk (.seq items.toList.reverse.toArray):=by
  show items.toList.reverse.toArray.size<=sizeLine;simpa using hsz
 obtain⟨O,S,c,d⟩:=id hs;have T:s.TypeIs (.ref sl) "slice":=(O,S,c);unfold getItem
 try with_reducible refine CO ?_
 first|refine AB (AL ?_)|skip
 refine AB (wpAny_sequenceKey ht.typeIs #[0] ?_);refine AB (wpAny_callSpecial?_slot (name:=Str.ofString "__getitem__") ht.typeIs PyProof.Rows.slot_tuple_getitem
  (wpAny_call_entry PyProof.Rows.slot_tuple_getitem ht.typeIs entry_tuple_getitem ?_ (args_tuple_getitem _ _)))
 show wpAny _ _ (Builtin.Tuple.tupleItemsOf (.ref t) >>= _) _ _ s;refine AB<|tupleItemsOf_ ht ?_;refine AB<|wpAny_typeOf T ?_;rw[AN #[0]];refine AB<|WL (n:=items.size) hs ?_;have o:¬ ((((items.size:Int)-1) == 0 && (-1:Int) == 1 && items.size == items.size)=true):=by simp
 show wpAny _ _ (if ((((items.size:Int)-1) == 0 && (-1:Int) == 1 && items.size == items.size))=true then _ else _) _ _ s;rw[AK o,Zw1]
 first
  |exact AB (m:=Builtin.Tuple.tupleExact _) (wpAny_newObj_type (AL (_,rfl,AL h)) e)
  |exact AB (m:=Builtin.Tuple.tupleExact _) (wpAny_newObj_type (AB (AL (AL (_,rfl,AL h)))) e)
  |exact AB (AB (m:=Builtin.Tuple.tupleExact _) (wpAny_newObj_type (AL (AL (_,rfl,AL h))) e))
  |exact AB (AB (m:=Builtin.Tuple.tupleExact _) (wpAny_newObj_type (AL (_,rfl,AL h)) e))
theorem tuple_index {t:Addr}{items:Array Value}{x:Value}{e:Value->Bool}{j:Nat}{Q:Au}(ht:IsTup s.heap t items) (he:∀y∈items,PySem.SeqAt.EqAt A.in1 s y x (e y)) (hj:j<items.size)
  (hit:e items[j]=true) (hno:∀m (hm:m<items.size),m<j->e items[m]=false) (h:Q (.int j s.toks) { s with toks:=s.toks+1 }) :
  wpAny (model prog w) A (call (.builtin "tuple.index") [.ref t,x]) Q E s:=by
 refine wpAny_call_entry PySem.F.slot_tuple_index ht.typeIs PySem.F.entry_tuple_index ?_<|PySem.F.args_tuple_index_2 _ _;show wpAny _ _ (Builtin.Tuple.tupleItemsOf (.ref t) >>= _) _ _ s;refine AB<|tupleItemsOf_ ht ?_;refine AB<|AL<|AB<|AL<|AB ?_;rw[Nat.min_self];simp only[Std.Legacy.Range.forIn_eq_forIn_range',Std.Legacy.Range.size,Ic,Nat.add_sub_cancel,Nat.div_one];refine D2 (Q:=λb S=>S = { s with toks:=s.toks+1 } /\ b.1=some (Fin.done (.ret (.int j s.toks)))) ?_ (λb S B=>?_) λ_ _ z=>z;refine wpAny_forIn_list _ (λl b S=>S=s/\∃i,l=List.range' i (items.size-i)/\i<=j) _ ?_ ?_ _ _ (rfl,0,rfl,Bp _)
 ·rintro i r b S ⟨rfl,k,L,H⟩
  have K:items.size-k=(items.size-k-1)+1:=#[2]
  rw[K,List.range'_succ]at L;injection L with hl1 hl2
  subst hl1;have I:i<items.size:=#[2]
  rw[Array.getElem?_eq_getElem I];refine AB<|he _ (Array.getElem_mem I) prog w _ _ ?_;by_cases hij:i=j
  ·subst hij
   rw[hit,AN rfl];exact AB<|AB<|wpAny_mkInt<|AL<|AL (rfl,rfl)
  ·rw[hno i I #[2],AK BV]
   exact AL (rfl,i+1,by rw[hl2,show items.size-i-1=items.size-(i+1) by lia],#[2])
 ·rintro b S ⟨rfl,k,L,H⟩
  have:=congrArg BP L;simp at this;lia
 ·obtain⟨rfl,a⟩:=B
  obtain⟨c,d⟩:=b;dsimp only at a;subst a;exact AL (_,rfl,h)
end
end HT
namespace L2
open PySem PySem.Spec PyProof.Rows
#check 0
def rSlT' (K:W.Frag):V->Option Int->Option Int->Hp->VK->Prop:=λx o i H Q=>∃a xs,x=.ref a/\SqT K H a xs /\
 ((HT.sIx xs.length 0 o=0/\HT.sIx xs.length xs.length i=xs.length)->Q (.ref a) H) /\
 (¬ (HT.sIx xs.length 0 o=0/\HT.sIx xs.length xs.length i=xs.length)->∀p,H p=none->Q (.ref p) (upd H p (.tup<|cutV xs o i)))
theorem Zyj:SlR X (rSlT' X.K):=by
 intro pins s Z H x v vl vu lo hi sl Q I rx hs pl pu h;obtain⟨a,S,rfl,b,q,c⟩:=h;by_cases hw:HT.sIx S.length 0 lo=0/\HT.sIx S.length S.length hi=S.length
 ·cases rx
  obtain⟨t,r,T,z⟩:=I.tuple b;have n:t.toArray.size=S.length:=by rw[BR];exact r.length.symm
  exact("tuple",_,PyProof.Rows.slot_tuple_getitem.lookup,T.typeIs,HT.getItem_tuple_whole T hs pl pu (by rw[n];exact hw) (.ref a,H,I,rfl,q hw))
 ·exact VQ pins s Z H (.ref a) v vl vu lo hi sl Q I rx hs pl pu (a,S,rfl,b,hw,c hw)
def rSlU (K:W.Frag):V->Option Int->Option Int->Hp->VK->Prop:=λx o i H Q=>rSlL K x o i H Q\/rSlT' K x o i H Q
theorem slU:SlR X (rSlU X.K):=Zyw.or Zyj
def tSlR (K:W.Frag) (te:TE):TE:=λZ H Q=>te Z H λx h=>∃a xs,x=.ref a/\SqT K h a xs/\∀p,h p=none->Q (.ref p) (upd h p (.tup xs.reverse))
theorem Zsa (he:PE X e te):PE X (.Subscript e (.Slice none none (some (.UnaryOp .USub (.Constant (.int 1) k p4) p3)) p2) pos) (tSlR X.K te):=by
 intro pins s Z H Q I h;refine Subscript_ (thn (he pins s Z H _ I h) λv s1 (x,H1,I1,r1,q1)=>?_);obtain⟨a,l,rfl,f,q⟩:=q1;cases r1;refine wpAny_Slice ?_;rw[evalPart_none];refine AL<|AL ?_;have g:=FU (X:=X) (WI U5<|AG (X:=X) (i:=1) (j:=k) (pos:=p4)) (e:=.UnaryOp .USub (.Constant (.int 1) k p4) p3) pins s1 Z H1 (λo c=>o=some (-1)/\c=H1) I1 (1,rfl,-1,rfl,rfl,rfl);refine thn g λu s2 (o,c,I2,pu,e1,e2)=>?_;subst e1;subst e2;cases pu with
 |int i t=>
  have d:AH X pins Z c { s2 with heap:=s2.heap.push { cls:=.type "slice",data:=.fields #[.none,.none,.int (-1) t] } }:=I2.kept (t':=s2.toks) λb B q=>Ap _ q;obtain⟨S,r,T,z⟩:=d.tuple f;show wpAny (model X.prog X.w) X.A (subscriptTail e (.Slice none none (some (.UnaryOp .USub (.Constant (.int 1) k p4) p3)) p2) (.ref a) (.ref s2.heap.objs.size)) (EP X pins Z Q) X.xe { s2 with heap:=s2.heap.push { cls:=.type "slice",data:=.fields #[.none,.none,.int (-1) t] } };refine tail_any (ops:=[.ref a,.ref s2.heap.objs.size]) T.typeIs PyProof.Rows.slot_tuple_getitem.lookup (HT.getItem_tuple_rev T (tk:=t) (Heap.IsSliceOf.new ..) ?_ (by rw[BR,<- r.length];exact z)) (by with_unfolding_all rfl);refine(.ref _,_,d.laid (t':=s2.toks) (o:=.tup l.reverse) (λb B q=>Ap _ q) (AU _) ?_,rfl,q _<|d.hok.fresh<|AU _);exact(by rw[Jy];exact z,_,r.reverse,IsTupN.new _ _)
def rCatT' (K:W.Frag):R2:=λx y H Q=>∃a b xs ys,x=.ref a/\y=.ref b/\SqT K H a xs/\SqT K H b ys/\xs.length+ys.length<=sizeLine /\
 (xs=[]->Q (.ref b) H)/\(xs≠[]->ys=[]->Q (.ref a) H)/\(xs≠[]->ys≠[]->∀p,H p=none->Q (.ref p) (upd H p (.tup<|xs++ys)))
theorem Zwt:OpR X (binaryOp .Add) (rCatT' X.K):=by
 intro pins s Z H x y v u Q I rx ry h;obtain⟨a,b,g,Y,rfl,rfl,e,B,z,q,k,m⟩:=h;by_cases hx:g=[]
 ·cases rx
  cases ry;obtain⟨i,r,p,_⟩:=I.tuple e;obtain⟨t,R,P,_⟩:=I.tuple B;obtain⟨⟨L,j,T,w⟩,O,C,n,f⟩:=id p;obtain⟨⟨S,D,A,l⟩,o,c,N,d⟩:=id P;simp only at C f c d;subst C f c d;exact concat_meets (_,O,rfl) (_,o,rfl) noFill_tuple_add seq_tuple_add PySem.F.slot_tuple_add PySem.F.entry_tuple_add (PySem.F.args_tuple_add_2 _ _)
   (tuple_addW0 a b i.toArray t.toArray n N j D w l (by simp[r.nil_iff.mpr hx])) (O,o,(.ref b,H,I,rfl,q hx))
 ·exact Zyx pins s Z H (.ref a) (.ref b) v u Q I rx ry (a,b,g,Y,rfl,rfl,e,B,hx,z,k hx,m hx)
def rAddU (K:W.Frag):R2:=λx y H Q=>rI0 (λi j=>.int<|i+j) x y H Q\/(rCatT' K x y H Q\/rCat x y H Q)
theorem Ue:OpR X (binaryOp .Add) (rAddU X.K):=U4.or<|Zwt.or Ut
theorem CY:OpR X (compareOp .Eq) rEq:=Vq
theorem Ho:OpR X (compareOp .NotEq) rNe:=WB
def rIxD:R2:=λx y H Q=>∃a v,x=.ref a/\DGet H a y (some v)/\Q v H
theorem Zzq (U:X.A.units+1<cLine):IxR X rIxD:=by
 intro value slice pins s Z H x y v u Q I rx ry h hs;obtain⟨a,W,rfl,g,q⟩:=h;cases rx;exact tail_any (XA I g) PySem.F.slot_dict_getitem.lookup (Zt6 U I g ry λb S i w=>(W,H,i,w,q)) hs
def rIxU (K:W.Frag):R2:=λx y H Q=>rIx K x y H Q\/rIxD x y H Q
theorem ixU (U:X.A.units+1<cLine):IxR X (rIxU X.K):=Um.or<|Zzq U
def rSetD:V->V->V->Hp->(Hp->Prop)->Prop:=λo i v H Q=>∃a H',o=.ref a/\DPut H a i v H' /\ Q H'
theorem Zwu (U:X.A.units+1<cLine):PSet X rSetD:=by
 intro pins s Z H o i v ov iv u Q I ro ri rv h;obtain⟨a,b,rfl,g,q⟩:=h;cases ro;exact Ztl U I g ri rv λS c=>(b,c,q)
theorem PSet.or (h:PSet X t) (h':PSet X t'):PSet X (λo i v H Q=>t o i v H Q\/t' o i v H Q):=by
 intro pins s Z H o i v ov iv u Q I ro ri rv q;rcases q with q|q
 ·exact h pins s Z H o i v ov iv u Q I ro ri rv q
 ·exact h' pins s Z H o i v ov iv u Q I ro ri rv q
def rSetU:V->V->V->Hp->(Hp->Prop)->Prop:=λo i v H Q=>rSetL o i v H Q\/rSetD o i v H Q
theorem setU (U:X.A.units+1<cLine):PSet X rSetU:=Zvh.or<|Zwu U
def rLenU (K:W.Frag):List V->Hp->VK->Prop:=λs H Q=>(∃p ys,s=[.ref p]/\(SqL K H p ys\/SqT K H p ys)/\Q (.int ys.length) H)\/∃a kvs,s=[V.ref a]/\H a=some (.dK kvs)/\Q (.int kvs.length) H
theorem Zq4:CallR X (.builtin "len") (rLenU X.K):=Wg.or Ztc
def rIsi (K:W.Frag):List V->Hp->VK->Prop:=λs H Q=>∃x n t b,s=[x,.ty n]/\TyOf K H x t/\PySem.W.kitOne K t (.type n)=some b/\Q (.bl b) H
theorem XB:CallR X (.builtin "isinstance") (rIsi X.K):=by
 intro pins s Z H xs us Q I r h;obtain⟨x,n,t,b,rfl,y,e,q⟩:=h;obtain⟨u,U,rfl,R,N⟩:=vals2 r;cases (show U=Value.type n from N);exact Zr2 I R y e λk=>(.bl b,H,I.tok _,rfl,q)
def insI (n:Nat) (i:Int):Nat:=if i<0 then (i+(n:Int)).toNat else min i.toNat n
def rInsert:V->List V->Hp->VK->Prop:=λx s H Q=>∃l xs i y,x=.ref l/\s=[.int i,y]/\H l=some (.lst xs)/\xs.length<sizeLine /\ -(2 ^ 62)<=i/\i<2 ^ 62/\Q .non (upd H l (.lst (xs.take (insI xs.length i)++y::xs.drop (insI xs.length i))))
theorem Zs7:MtM X "list.insert" rInsert:=by
 intro pins s Z H x vs v us Q I rx rv h;obtain⟨l,a,i,y,rfl,rfl,b,g,c,d,q⟩:=h;cases rx;obtain⟨U,u,rfl,⟨t,rfl⟩,Y⟩:=rv.two;obtain⟨z,S,n,r,L,e⟩:=I.lstM b;refine call_meets F.slot_list_insert (_,e,rfl) F.entry_list_insert (F.args_list_insert_3 _ _ _) (PySem.AutoSeq1.list_insert_list_int_val_1 l S.toArray n i t u (by
  have f:Builtin.List.listFitsIndex i=true:=by
   unfold Builtin.List.listFitsIndex;rw[BD #[2],BD #[2]];rfl
  rw[f];decide) (by rw[BR];lia)) (e,?_)
 refine(.non,_,I.lset (its':=S.take (insI a.length i)++u::S.drop (insI a.length i)) b e ?_ ((r.take _).append (.cons Y<|r.drop _)) ?_,rfl,q)
 ·have E:(if i<0 then (i+(S.toArray.size:Int)).toNat else min i.toNat S.toArray.size)=insI a.length i:=by
   unfold insI;rw[BR,L]
  dsimp only;rw[E];apply Array.ext';simp;rw[IG (by rw[Dd];exact AU _)]
 ·rw[Ar,BH,Bo,Dd]
  omega
def rIndexT (K:W.Frag):V->List V->Hp->VK->Prop:=λx s H Q=>∃a xs y j,x=.ref a/\s=[y]/\SqT K H a xs/\flatV y=true/\xs.all flatV=true/\j<xs.length /\
 (∃z,xs[j]?=some z/\eqV z y=true)/\(∀m z,m<j->xs[m]?=some z->eqV z y=false)/\Q (.int j) H
theorem WX:MtM X "tuple.index" (rIndexT X.K):=by
 intro pins s Z H x vs v us Q I rx rv h;obtain⟨a,S,y,j,rfl,rfl,N,C,p,D,⟨z,i,l⟩,o,q⟩:=h;cases rx;obtain⟨u,rfl,U⟩:=rv.one;obtain⟨t,r,G,O⟩:=I.tuple N;have L:t.length=S.length:=r.length.symm;have Y:∀w∈t.toArray,SeqAt.EqAt X.A.in1 s w u (eqU y w):=λw g=>by
  have g:w∈t:=by simpa using g
  obtain⟨k,c,e⟩:=IQ.mp g;have b:k<S.length:=#[2]
  obtain⟨n,W,R⟩:=r.get<|AZ b;have E:n=w:=by
   rw[AZ c]at W;exact(CL.inj W).symm.trans e
  subst E;have F:flatV S[k]=true:=EX.mp p _<|B6 b;rw[Lu R F];exact Te R U F C
 have T:∀(k:Nat) (c:k<t.toArray.size) (z:V),S[k]?=some z->eqU y t.toArray[k]=eqV z y:=λk c z e=>by
  obtain⟨n,W,R⟩:=r.get e;have d:k<t.length:=by simpa using c
  rw[AZ d]at W;have E:t.toArray[k]=n:=by simpa using CL.inj W
  rw[E];exact Lu R<|EX.mp p _<|Be e
 have J:j<t.toArray.size:=by simpa [L] using D
 refine HT.tuple_index G Y J (by rw[T j J z i];exact l) (λm B f=>?_) (.int j,H,I.tok _,(_,rfl),q);have M:m<S.length:=by simpa [L] using B
 rw[T m B _ (AZ M)];exact o m _ f<|AZ M
end
#check 0
theorem PI.or (h:PI X tg iter w) (h':PI X tg iter w'):PI X tg iter (λZ H R=>w Z H R\/w' Z H R):=by
 intro pins s Z H R I q;rcases q with q|q
 ·exact h pins s Z H R I q
 ·exact h' pins s Z H R I q
def iSeq (K:W.Frag) (tl:TE):TI:=λZ H R=>iList K tl Z H R\/iTup K tl Z H R
theorem VN (L:PE X l tl):PI X tg l (iSeq X.K tl):=(Zze L).or (Up L)
def tTru (K:W.Frag) (ta:TE):TT:=λZ H Q=>ta Z H λx h=>∃k,TruV K x h k/\Q k h
theorem Ul (ha:PE X a ta) (he:∀whole,isTrue a X.env whole=(do let v <- whole;standAt a.pos;holding [v] (truthy v))):PT X a (tTru X.K ta):=Zvk ha he
end
#check 1
theorem EB (p:P (.int<|i+j) J):JR2 K (rAddU K) (.int i) (.int j) J P:=λg G H Z Q x y k r Y c=>by
 cases r.inv;cases Y.inv;exact .inl (i,j,rfl,rfl,c _ _ G H J k (Same.refl _) (.int _) p)
theorem E2 (hz:ds.length+es.length<=sizeLine) (p:P (.tup<|ds++es) J):JR2 K (rAddU K) (.tup ds) (.tup es) J P:=λg G H Z Q x y k r Y c=>by
 cases r with
 |tup ha ra=>
  cases Y with
  |tup hb rb=>
   refine .inr (.inl (_,_,_,_,rfl,rfl,SqT.of<|k.live _ _ ha,SqT.of<|k.live _ _ hb,by rw[ra.length,rb.length];exact hz,λe=>?_,λ_ e=>?_,λ_ _ q h=>?_))
   ·subst e;cases ra;exact c _ _ G H J k (Same.refl _) (.tup hb rb) p
   ·subst e;cases rb;rw[Bj]at p;exact c _ _ G H J k (Same.refl _) (.tup ha ra) p
   ·obtain⟨a,s⟩:=k.laid h (.tup _)
    exact c _ _ _ _ J a s (.tup Bd ((ra.append rb).mono s)) p
theorem Sx (hz:ds.length+es.length<=sizeLine) (p:P (.lst<|ds++es) J):JR2 K (rAddU K) (.lst ds) (.lst es) J P:=λg G H Z Q x y k r Y c=>by
 obtain⟨_,_,rfl,h,a⟩:=r.inv
 next=>
  obtain⟨_,_,rfl,B,b⟩:=Y.inv
  next=>
   refine .inr (.inr (_,_,_,_,rfl,rfl,k.live _ _ h,k.live _ _ B,by rw[a.length,b.length];exact hz,λq d=>?_));obtain⟨e,s⟩:=k.laid d (.lst _);exact c _ _ _ _ J e s (.lst Bd ((a.append b).mono s)) p
theorem Bc (h:atI ds i=some d) (p:P d J):JR2 K (rIxU K) (.tup ds) (.int i) J P:=λg G H Z Q x y k r Y c=>
 .inl (.inr (.inl<|Uo h p g G H Z Q x y k r Y c))
theorem DW (h:atI ds i=some d) (p:P d J):JR2 K (rIxU K) (.lst ds) (.int i) J P:=λg G H Z Q x y k r Y c=>
 .inl (.inl<|Uv h p g G H Z Q x y k r Y c)
theorem GU (L:J[n]?=some x) (ho:x.od=some (.lst ds)) (h:JE K tb J λe J1=>∃y es i d,J1[n]?=some y/\y.od=some (.lst es)/\e=.int i/\atI es i=some d/\P d J1):JE K (tOp (rIxU K) (tVar n) tb) J P:=λg G H Z Q k c=>by
 obtain⟨a,o,b,m,q,r,s⟩:=k.own n x _ L ho;refine(.ref a,b,h g G H Z _ k λv e G1 H1 J1 k1 s1 r1 (y,es,i,d,q1,q2,q3,q4,p)=>?_);subst q3;cases r1.inv;obtain⟨A,O,w,f,W,t,B⟩:=k1.own n y _ q1 q2;exists 0,b,w;cases O with
 |lst vs=>
  obtain⟨u,j,l⟩:=Nj (show Reps K G1 vs es from W) q4;exact .inl (.inl (a,vs,i,u,rfl,rfl,SqL.of f,j,c u d G1 H1 J1 k1 s1 l p))
 |_=>exact absurd W (λz=>z)
theorem Zu1 {n:Nat}{U te:TE}{L:Eg}(h:JE K te J λd J1=>(∃x od,J1[n]?=some x/\x.od=some od)/\JE K U J1 λe J2=>∃x ds i j,J2[n]?=some x/\x.od=some (.lst ds)/\e=.int i/\ixN ds.length i=some j/\L.nx (J2.set n<|x.put (.lst<|ds.set j d))) :
  JS K (tAsg te<|gSub (tVar n) U rSetU) J L:=λg G H Z E k c=>
 h g G H Z _ k λv d l m J1 f S R q=>by
  obtain⟨⟨x,od,X,O⟩,P⟩:=q;obtain⟨a,o,b,t,B,C,D⟩:=f.own n x _ X O;refine(.ref a,b,P g l m Z _ f λu e G2 H2 J2 k2 s2 r2 (y,ds,i,j,q1,q2,q3,q4,p)=>?_);subst q3;cases r2.inv;obtain⟨A,r,W,s,w,F,I⟩:=k2.own n y _ q1 q2;exists 0,b,W;cases r with
  |lst vs=>
   have w:Reps K G2 vs ds:=w;exact .inl (a,vs,i,j,rfl,rfl,s,by rw[w.length];exact q4,c.nx Z G2 _ _ (k2.write q1 q2 b (show OwnRep K G2 (.lst<|vs.set j v) (.lst<|ds.set j d) from w.set j (R.mono s2))) p)
  |_=>exact absurd w (λz=>z)
def valD (kvs:List (AS × D)) (k:AS):Option D:=(kvs.find? λv=>decide (v.1=k)).map (·.2)
def putD (kvs:List (AS × D)) (k:AS) (v:D):List (AS × D):=if (kvs.any λV=>decide (V.1=k))=true then kvs.map (λV=>if V.1=k then (V.1,v) else V) else kvs++[(k,v)]
theorem OA:∀{kvs:List (AS × V)}{kds:List (AS × D)},Paired (λ(p:AS × V) (q:AS × D)=>p.1=q.1/\Ay K G p.2 q.2) kvs kds->valD kds k=some d->∃v,valV kvs k=some v/\Ay K G v d
 |_,_,.nil,h=>by cases h
 | (k1,v1)::kvs,(k2,d2)::kds,.cons (e,r) t,h=>by
  have e:k1=k2:=e;subst e;by_cases hk:k1=k
  ·subst hk
   have h:some d2=some d:=by simpa [valD,D7] using h
   cases h;exact(v1,JX rfl,r)
  ·have h:valD kds k=some d:=by simpa [valD,D7,hk] using h
   obtain⟨v,H,a⟩:=OA t h;exact(v,by rw[JV hk];exact H,a)
theorem SU:∀{kvs:List (AS × V)}{kds:List (AS × D)},Paired (λ(p:AS × V) (q:AS × D)=>p.1=q.1/\Ay K G p.2 q.2) kvs kds->(kvs.any λkv=>decide (kv.1=k))=(kds.any λkv=>decide (kv.1=k))
 |_,_,.nil=>rfl
 |_::_,_::_,.cons (e,_) t=>by rw[Es,Es,SU t,e]
theorem Sm (j:Ay K G v d):∀{kvs:List (AS × V)}{kds:List (AS × D)},Paired (λ(p:AS × V) (q:AS × D)=>p.1=q.1/\Ay K G p.2 q.2) kvs kds ->
  Paired (λ(p:AS × V) (q:AS × D)=>p.1=q.1/\Ay K G p.2 q.2) (kvs.map λkv=>if kv.1=k then (kv.1,v) else kv) (kds.map λkv=>if kv.1=k then (kv.1,d) else kv)
 |_,_,.nil=>.nil
 | (k1,v1)::kvs,(k2,d2)::kds,.cons (e,r) t=>by
  have e:k1=k2:=e;subst e;rw[Bz,Bz];refine .cons ?_<|Sm j t;by_cases hk:k1=k
  ·rw[AN hk,AN hk];exact(rfl,j)
  ·rw[AK hk,AK hk];exact(rfl,r)
theorem Sv {G:Hp}{k:AS}{v:V}{d:D}{kvs:List (AS × V)}{j:List (AS × D)}(z:Ay K G v d) (h:Paired (λ(p:AS × V) (q:AS × D)=>p.1=q.1/\Ay K G p.2 q.2) kvs j) :
  Paired (λ(p:AS × V) (q:AS × D)=>p.1=q.1/\Ay K G p.2 q.2) (putK kvs k v) (putD j k d):=by
 unfold putK putD;rw[SU h];split
 ·exact Sm z h
 ·exact Paired.snoc h (rfl,z)
theorem OC (L:J[n]?=some x) (ho:x.od=some od) (h:JE K tb J λe J1=>∃y kvs i d,J1[n]?=some y/\y.od=some (.dct kvs)/\e=.int i/\valD kvs (.inl i)=some d/\P d J1):JE K (tOp (rIxU K) (tVar n) tb) J P:=λg G H Z Q k c=>by
 obtain⟨a,o,b,m,q,r,s⟩:=k.own n x _ L ho;refine(.ref a,b,h g G H Z _ k λv e G1 H1 J1 k1 s1 r1 (y,kvs,i,d,q1,q2,q3,q4,p)=>?_);subst q3;cases r1.inv;obtain⟨A,O,w,f,W,t,B⟩:=k1.own n y _ q1 q2;exists 0,b,w;cases O with
 |dK vs=>
  obtain⟨u,j,l⟩:=OA W q4;exact .inr (a,u,rfl,(by have:=DGet.k (k:=Sum.inl i) f;rw[j]at this;exact this),c u d G1 H1 J1 k1 s1 l p)
 |_=>exact absurd W (λz=>z)
theorem Zzj {n:Nat}{Y te:TE}{U:Eg}(h:JE K te J λd J1=>(∃x od,J1[n]?=some x/\x.od=some od)/\JE K Y J1 λe J2=>∃x kvs i,J2[n]?=some x/\x.od=some (.dct kvs)/\e=.int i/\kvs.length<sizeLine/\U.nx (J2.set n<|x.put (.dct<|putD kvs (.inl i) d))) :
  JS K (tAsg te<|gSub (tVar n) Y rSetU) J U:=λg G H Z E k c=>
 h g G H Z _ k λv d l m J1 f S R Q=>by
  obtain⟨⟨x,od,X,O⟩,P⟩:=Q;obtain⟨a,o,b,t,B,C,F⟩:=f.own n x _ X O;refine(.ref a,b,P g l m Z _ f λu e G2 H2 J2 k2 s2 r2 (y,kvs,i,q1,q2,q3,q4,p)=>?_);subst q3;cases r2.inv;obtain⟨A,r,W,s,j,I,L⟩:=k2.own n y _ q1 q2;exists 0,b,W;cases r with
  |dK vs=>
   have w:Paired (λ(p:AS × V) (q:AS × D)=>p.1=q.1/\Ay K G2 p.2 q.2) vs kvs:=j;exact .inr (a,_,rfl,DPut.k (k:=Sum.inl i) s (by rw[Paired.length w];exact q4),c.nx Z G2 _ _ (k2.write q1 q2 b (show OwnRep K G2 (.dK<|putK vs (.inl i) v) (.dct<|putD kvs (.inl i) d) from Sv (R.mono s2) w)) p)
  |_=>exact absurd j (λz=>z)
theorem B7 (j:ds=[.lst es]\/ds=[.tup es]) (p:P (.int es.length) J):JC K (rLenU K) ds J P:=λg G H Z Q v k s c=>.inl<|UI j p g G H Z Q v k s c
theorem JR (j:J[n]?=some x) (ho:x.od=some (.lst ds)) (p:P (.int ds.length) J):JE K (tCB (rLenU K)<|tCons (tVar n) tNil) J P:=λg G H Z Q k c=>by
 obtain⟨v,h,a⟩:=Zyn j ho p g G H Z Q k c;exact(v,h,.inl a)
def cutD (ds:List D) (lo hi:Option Int):List D:=(ds.drop<|HT.sIx ds.length 0 lo).take (HT.sIx ds.length ds.length hi-HT.sIx ds.length 0 lo)
theorem Zt1 {α:Type}(xs:List α) (lo hi:Option Int) (h:HT.sIx xs.length 0 lo=0/\HT.sIx xs.length xs.length hi=xs.length):(xs.drop<|HT.sIx xs.length 0 lo).take (HT.sIx xs.length xs.length hi-HT.sIx xs.length 0 lo)=xs:=by
 rw[h.1,h.2];simp
def JO2 (t:TO) (J:AM) (K:W.Frag) (P:Option Int->AM->Prop):Prop:=
 ∀g G H Z (Q:Option Int->Hp->Prop),Ok K g G H Z J -> (∀o G' H' J',Ok K g G' H' Z J' -> Same G G' -> P o J' -> Q o H')->t Z H Q
theorem E4 {P:Option Int->AM->Prop}(p:P none J):JO2 tNoPart J K P:=λg G H Z Q k c=>c none G H J k (Same.refl _) p
theorem F3 {P:Option Int->AM->Prop}(h:JE K te J λd J1=>∃i,d=.int i/\P (some i) J1):JO2 (tPart te) J K P:=λg G H Z Q k c=>
 h g G H Z _ k λv d a b J1 f s r q=>by obtain⟨i,e,p⟩:=q;subst e;cases r.inv;exact(i,rfl,c (some i) a b J1 f s p)
def slD (d:D) (lo hi:Option Int):Option D:=match d with
 |.lst ds=>some (.lst (cutD ds lo hi))
 |.scr ds=>some (.lst (cutD ds lo hi))
 |.tup ds=>some (.tup (cutD ds lo hi))
 |_=>none
theorem Ht (h:JE K te J λd J1=>JO2 tl J1 K λlo J2=>JO2 th J2 K λhi J3=>∃e,slD d lo hi=some e/\P e J3):JE K (tSl (rSlU K) te tl th) J P:=λg G H Z Q k c=>
 h g G H Z _ k λv d l n J1 r z R u=>u g l n Z _ r λlo m o J2 t S x=>x g m o Z _ t λhi A B J3 a j i=>by
  obtain⟨e,E,p⟩:=i;have y:=R.mono<|S.trans j;have C:=c.up<|z.trans<|S.trans j;cases y with
  |lst ha rs=>
   cases E;refine .inl (_,_,rfl,SqL.of<|a.live _ _ ha,λq b=>?_);obtain⟨f,s⟩:=a.laid b (.lst _);refine C _ _ _ _ J3 f s (.lst Bd<|Reps.mono s ?_) p;unfold cutV cutD;rw[rs.length];exact(rs.drop _).take _
  |scr ha rs=>
   cases E;refine .inl (_,_,rfl,a.live.seq ha,λq b=>?_);obtain⟨f,s⟩:=a.laid b (.lst _);refine C _ _ _ _ J3 f s (.lst Bd<|Reps.mono s ?_) p;unfold cutV cutD;rw[rs.length];exact(rs.drop _).take _
  |tup ha rs=>
   cases E;refine .inr (_,_,rfl,SqT.of<|a.live _ _ ha,λw=>?_,λw q b=>?_)
   ·rw[rs.length]at w
    refine C _ _ _ _ J3 a (Same.refl _) (.tup ha ?_) p;unfold cutD;rw[Zt1 _ _ _ w];exact rs
   ·obtain⟨f,s⟩:=a.laid b (.tup _)
    refine C _ _ _ _ J3 f s (.tup Bd<|Reps.mono s ?_) p;unfold cutV cutD;rw[rs.length];exact(rs.drop _).take _
  |_=>cases E
theorem TX (h:JE K te J λd J1=>∃ds,d=.tup ds/\P (.tup ds.reverse) J1):JE K (tSlR K te) J P:=λg G H Z Q k c=>
 h g G H Z _ k λv d l m J1 b j r a=>by
  obtain⟨ds,e,p⟩:=a;subst e;obtain⟨_,_,rfl,A,S⟩:=r.inv
  next=>
   refine(_,_,rfl,SqT.of<|b.live _ _ A,λq f=>?_);obtain⟨i,s⟩:=b.laid f (.tup _);exact c _ _ _ _ J1 i (j.trans s) (.tup Bd<|S.reverse.mono s) p
theorem Cn {P:List D->AM->Prop}(h:JE K tl J λd J1=>∃ds,(d=.lst ds\/d=.scr ds)/\P ds J1):JI K (iSeq K tl) J P:=λg G H Z R k c=>.inl<|UD h g G H Z R k c
theorem FW {P:List D->AM->Prop}(h:JE K tl J λd J1=>∃ds,d=.tup ds/\P ds J1):JI K (iSeq K tl) J P:=λg G H Z R k c=>.inr<|VE h g G H Z R k c
def truD:D->Option Bool
 |.non=>some false
 |.bl b=>some b
 |.int i=>some (i != 0)
 |.lst ds=>some !ds.isEmpty
 |.tup ds=>some !ds.isEmpty
 |_=>none
theorem Reps.isEmpty (r:Reps K G vs ds):vs.isEmpty=ds.isEmpty:=by cases r <;> rfl
theorem Dg (h:JE K t J λd J1=>∃b,truD d=some b/\Pb b J1):JT K (tTru K t) J Pb:=λg G H Z Q k c=>
 h g G H Z _ k λv d j l J1 f s r q=>by
  obtain⟨b,e,p⟩:=q;refine(b,?_,c b j l J1 f s p);cases r with
  |non=>cases e;rfl
  |bl b=>cases e;rfl
  |int i=>cases e;rfl
  |str x=>cases e
  |ty n=>cases e
  |scr ha rs=>cases e
  |adr a=>cases e
  |dct ha hl rs=>cases e
  |exc ha=>cases e
  |excR ha hb=>cases e
  |lst ha rs=>cases e;exact .inl (_,SqL.of (f.live _ _ ha),by rw[rs.isEmpty])
  |tup ha rs=>cases e;exact .inr (.inl (_,SqT.of (f.live _ _ ha),by rw[rs.isEmpty]))
def tyD:D->Option String
 |.non=>some "NoneType"
 |.bl _=>some "bool"
 |.int _=>some "int"
 |.str _=>some "str"
 |.lst _=>some "list"
 |.tup _=>some "tuple"
 |.dct _ _=>some "dict"
 |_=>none
theorem VU (j:tyD d=some T) (e:∀K,PySem.W.kitOne K (.type T) (.type n)=some b) (p:P (.bl b) J):JC K (rIsi K) [d,.ty n] J P:=λg G H Z Q v k s c=>by
 obtain⟨_,_,rfl,r,t⟩:=s.inv
 next=>
  obtain⟨_,_,rfl,R,t⟩:=t.inv
  next=>
   cases t.inv;cases R.inv;refine(_,n,.type T,b,rfl,?_,e K,c _ _ G H J k (Same.refl _) (.bl b) p);cases r with
   |non=>cases j;exact .non
   |bl b=>cases j;exact .bl b
   |int i=>cases j;exact .int i
   |str x=>cases j;exact .str x
   |ty n=>cases j
   |scr ha s=>cases j
   |adr a=>cases j
   |dct ha hl s=>cases j;exact .dK (k.live _ _ ha)
   |exc ha=>cases j
   |excR ha hb=>cases j
   |lst ha s=>cases j;exact .lst (k.live _ _ ha)
   |tup ha s=>cases j;exact .tup (k.live _ _ ha)
theorem SV (h:JE K ta J λd J1=>∃b,d=.bl b/\if b=true then JE K tb J1 P else P (.bl false) J1):JE K (tAndV ta tb) J P:=λg G H Z Q k c=>
 h g G H Z _ k λv d a f J1 i s r q=>by
  obtain⟨b,e,p⟩:=q;subst e;cases r.inv;refine(b,rfl,?_);cases b with
  |true=>exact(show JE K tb J1 P from p) g a f Z Q i (c.up s)
  |false=>exact c _ _ a f J1 i s (.bl false) p
theorem Ni {to te:TE}(h:JE K to J λd J1=>∃ns:List Int,d=.tup (ns.map D.int)/\JE K te J1 λe J2=>∃i j,e=.int i/\ns[j]?=some i/\(∀m,m<j->ns[m]?≠some i)/\P (.int (j:Nat)) J2) :
  JE K (tBM K "tuple" (rIndexT K) to<|tCons te tNil) J P:=λg G H Z Q k c=>
 h g G H Z _ k λv d o r J1 l x R f=>by
  obtain⟨ns,e,t⟩:=f;subst e;obtain⟨a,y,rfl,A,S⟩:=R.inv
  next=>
   refine(.inr (.inl (rfl,.inr (_,l.live _ _ A))),t g o r Z _ l λu e G2 H2 J2 k2 s2 r2 (i,j,q1,q2,q3,p)=>?_);subst q1;cases r2.inv;have E:y=ns.map V.int:=S.ints;subst E;have s:j<ns.length:=(BQ.mp q2).1;refine(a,_,.int i,j,rfl,rfl,SqT.of<|k2.live _ _<|s2 _ _ A,rfl,?_,by simpa using s,(.int i,by rw[Ad,q2];rfl,by simp[eqV]),λm z M b=>?_,c _ _ G2 H2 J2 k2 (x.trans s2) (.int _) p)
   ·rw[List.all_map];exact EX.mpr λ_ _=>rfl
   ·rw[Ad]at b
    cases e:ns[m]? with
    |none=>exists 0,e,b
    |some w=>
     rw[e]at b;have b:V.int w=z:=by simpa using b
     subst b;have n:w≠i:=λq=>q3 m M (by rw[e,q]);show (w == i)=false;exact beq_eq_false_iff_ne.mpr n
end
section
variable {K:W.Frag}{g:Gm}{G H:Hp}{Z:St}{J:AM}
theorem Ok.setVal' (k:Ok K g G H Z J) (i:Nat) (r:Ay K G v d):Ok K g G H (Z.set i<|some v) (J.set i (.val d)):=by
 by_cases hi:i < J.length
 ·exact k.setVal hi r
 ·have h:=k.len
  rw[KH (l:=Z) #[2],KH (l:=J) #[2]];exact k
theorem Ok.setOwn' (k:Ok K g G H Z J) (i:Nat) (p:Pend K g G H Z J a od):Ok K g G H (Z.set i<|some (.ref a)) (J.set i (.own od)):=by
 by_cases hi:i < J.length
 ·exact k.setOwn hi p
 ·have h:=k.len
  rw[KH (l:=Z) #[4],KH (l:=J) #[4]];exact k
theorem Va (h:JE K te J λd J1=>P.nx (J1.set i (.val d))):JS K (tAsg te<|gName i) J P:=λg G H Z E k c=>
 h g G H Z _ k λv d a b J1 e s r p=>c.nx _ a b _ (e.setVal' i r) p
theorem Zza (h:JO K te J λod J1=>P.nx (J1.set i (.own od))):JS K (tAsg te<|gName i) J P:=λg G H Z E k c=>
 h g G H Z _ k λa od b d J1 e s D p=>c.nx _ b d _ (e.setOwn' i D) p
theorem Zyl (h:JA K ta J λds J1=>∃d e,ds=[d,e]/\P.nx ((J1.set i (.val d)).set j (.val e))):JS K (tPar i j ta) J P:=λg G H Z E k c=>
 h g G H Z _ k λv ds a b J1 f s R q=>by
  obtain⟨d,e,D,p⟩:=q;subst D;obtain⟨_,_,rfl,A,r⟩:=R.inv
  next=>
   obtain⟨_,_,rfl,B,r⟩:=r.inv
   next=>
    cases r.inv;exact(_,_,rfl,c.nx _ a b _ ((f.setVal' i A).setVal' j B) p)
theorem A8 (p:P (J.set i (.val d))):JG K (gName i) d J P:=λg G H Z v R k r c=>c _ G H _ (k.setVal' i r) (Same.refl _) p
theorem Li (q:i<n) (p:P (J.set i (.val d))):JGn K n (gName i) d J P:=λg G H Z v R k r c=>
 c _ G H _ (k.setVal' i r) (Same.refl _) (λj h=>Cg #[2]) p
theorem VO {n:Nat}{te:TE}{q:Eg}{x:Slot}{j:List D}(z:J[n]?=some x) (ho:x.od=some (.lst j))
  (h:JE K te J λd J1=>∃y ds,J1[n]?=some y/\y.od=some (.lst ds)/\ds.length<sizeLine/\q.nx (J1.set n<|y.put (.lst<|ds++[d]))) :
  JS K (tDrop<|tBM K "list" rAppend (tVar n)<|tCons te tNil) J q:=Zrz z ho (_,rfl) h
end
#check 6
theorem CN (p:nx J):JS K tNext J (nx,rt,bk,ct,ro):=US p
theorem Ac (h:JS K t J (λJ1=>JS K u J1 (nx,rt,bk,ct,ro),rt,bk,ct,ro)):JS K (tSeq t u) J (nx,rt,bk,ct,ro):=TN h
theorem Bh (I:AM->Prop) (h1:JS K t J (I,rt,bk,ct,ro)) (h2:∀J1,I J1->JS K u J1 (nx,rt,bk,ct,ro)):JS K (tSeq t u) J (nx,rt,bk,ct,ro):=
 TN (h1.mono h2 (λ_ _ z=>z) (λ_ z=>z) (λ_ z=>z) λ_ _ z=>z)
theorem Bk (h:JE K te J rt):JS K (tRet te) J (nx,rt,bk,ct,ro):=UH h
theorem F4 (h:JO K te J ro):JS K (tRet te) J (nx,rt,bk,ct,ro):=UE h
theorem Lc (h:JE K te J λ_ J1=>nx J1):JS K (tDrop te) J (nx,rt,bk,ct,ro):=UB h
theorem CD (h:JT K c J λb J1=>if b=true then JS K t J1 (nx,rt,bk,ct,ro) else JS K u J1 (nx,rt,bk,ct,ro)):JS K (tIfS c t u) J (nx,rt,bk,ct,ro):=V6 h
theorem Aw (h:JE K te J λd J1=>nx (J1.set i (.val d))):JS K (tAsg te<|gName i) J (nx,rt,bk,ct,ro):=Va h
theorem Cw (h:JO K te J λod J1=>nx (J1.set i (.own od))):JS K (tAsg te<|gName i) J (nx,rt,bk,ct,ro):=Zza h
theorem Sg (h:JA K ta J λds J1=>∃d e,ds=[d,e]/\nx ((J1.set i (.val d)).set j (.val e))):JS K (tPar i j ta) J (nx,rt,bk,ct,ro):=Zyl h
theorem Gf (h:JE K te J λd J1=>JG K t d J1 nx):JS K (tAsg te t) J (nx,rt,bk,ct,ro):=Ux h
theorem FZ {n:Nat}{te:TE}{x:Slot}{j:List D}(q:J[n]?=some x) (ho:x.od=some (.lst j))
  (h:JE K te J λd J1=>∃y ds,J1[n]?=some y/\y.od=some (.lst ds)/\ds.length<sizeLine/\nx (J1.set n<|y.put (.lst<|ds++[d]))) :
  JS K (tDrop<|tBM K "list" rAppend (tVar n)<|tCons te tNil) J (nx,rt,bk,ct,ro):=VO q ho h
theorem Nh {n:Nat}{q te:TE}(h:JE K te J λd J1=>(∃x ds,J1[n]?=some x/\x.od=some (.lst ds))/\JE K q J1 λe J2=>∃x ds i j,J2[n]?=some x/\x.od=some (.lst ds)/\e=.int i/\ixN ds.length i=some j/\nx (J2.set n<|x.put (.lst<|ds.set j d))) :
  JS K (tAsg te<|gSub (tVar n) q rSetU) J (nx,rt,bk,ct,ro):=Zu1 (h.mono λd J1 ((x,ds,h1,h2),h3)=>((x,_,h1,h2),h3))
theorem OE {n:Nat}{j te:TE}(h:JE K te J λd J1=>(∃x kvs,J1[n]?=some x/\x.od=some (.dct kvs))/\JE K j J1 λe J2=>∃x kvs i,J2[n]?=some x/\x.od=some (.dct kvs)/\e=.int i/\kvs.length<sizeLine/\nx (J2.set n<|x.put (.dct<|putD kvs (.inl i) d))) :
  JS K (tAsg te<|gSub (tVar n) j rSetU) J (nx,rt,bk,ct,ro):=Zzj (h.mono λd J1 ((x,ds,h1,h2),h3)=>((x,_,h1,h2),h3))
theorem Bx {j:TI}{t:TG}{tb:TS}(h:JI K j J λds J1=>∃I:Nat->AM->Prop,I 0 J1/\(∀i d J2,ds[i]?=some d->I i J2->JG K t d J2 λJ3=>JS K tb J3 (I<|i+1,rt,nx,I<|i+1,ro))/\∀J2,I ds.length J2->nx J2) :
  JS K (tFor j t tb) J (nx,rt,bk,ct,ro):=U7 h
theorem FN {c:TT}{tb:TS}(I:Nat->AM->Prop) (h0:∃m,I m J) (j:∀m J1,I m J1->JT K c J1 λb J2=>if b=true then JS K tb J2 (λJ3=>∃m',m'<m/\I m' J3,rt,nx,λJ3=>∃m',m'<m/\I m' J3,ro) else nx J2) :
  JS K (tWhile c tb) J (nx,rt,bk,ct,ro):=Zw5 I h0 j
end
theorem Zz3 {α β:Type}{f:α -> β}{xs:List α}(h0:0<=i) (h1:i<(xs.length:Int)):∃c,xs[i.toNat]?=some c/\atI (xs.map f) i=some (f c):=by
 have k:i.toNat<xs.length:=#[2]
 have e:i=((i.toNat:Nat):Int):=#[2]
 have q:xs[i.toNat]?=some xs[i.toNat]:=AZ k;generalize xs[i.toNat]=c at q;refine(c,q,?_);have z:atI (xs.map f) ((i.toNat:Nat):Int)=some (f c):=Ck (by rw[Ad,q];rfl);rw[<- e]at z;exact z
theorem OJ:bootBuiltins "abs" = some (.builtin "abs"):=#[1]
theorem Bi:bootBuiltins "len" = some (.builtin "len"):=#[1]
theorem Tc:bootBuiltins "min" = some (.builtin "min"):=#[1]
theorem TR:bootBuiltins "max" = some (.builtin "max"):=#[1]
theorem Ew:bootBuiltins "isinstance" = some (.builtin "isinstance"):=#[1]
theorem Vo:bootBuiltins "all" = some (.builtin "all"):=#[1]
theorem Lk:bootBuiltins "sum" = some (.builtin "sum"):=#[1]
theorem NM:bootBuiltins "sorted" = some (.builtin "sorted"):=#[1]
theorem Zu0:bootBuiltins "divmod" = some (.builtin "divmod"):=#[1]
theorem Ey:bootBuiltins "tuple" = some (.type "tuple"):=#[1]
theorem He:bootBuiltins "list" = some (.type "list"):=#[1]
theorem Tu:bootBuiltins "set" = some (.type "set"):=#[1]
theorem Lj:bootBuiltins "int" = some (.type "int"):=#[1]
theorem SK:bootBuiltins "bool" = some (.type "bool"):=#[1]
theorem TY:bootBuiltins "str" = some (.type "str"):=#[1]
theorem U2:bootBuiltins "zip" = some (.type "zip"):=#[1]
structure Callee (P:Program) (w:World) (K:W.Frag) (mg:Str->Option Value) (base:Heap) (k:Nat) (x:Str) (ps:List Str) (sp:Sp):Prop where
 ex:∃(f:Addr) (fd:FuncData),FnOk P w K mg base CX0 k f fd ps sp/\Binds K fd ps []/\W.keepIn K (.ref f)=true/\mg x=some (.ref f)
section
variable {X:Cx}{k:Nat}{x:Str}{ps:List Str}{sp:Sp}{e:Expr}{es:List Expr}{t:TA}{p pos:Pos}
theorem An (C:Callee X.prog X.w X.K X.mg X.base k x ps sp) (O:Room k X.A) (j:PA X (e::es) t) (z:Gl X x:=by rfl) (B:(x == ("__debug__":Str))=false:=by decide)
  (q:starEach (e::es) X.env=(false,eval e X.env)::starEach es X.env:=by rfl) (L:(backTo pos<|starEach es X.env).any (·.1)=false:=by rfl):PE X (.Call (.Name x p) (e::es) [] pos) (tCall sp [] E0 t):=by
 obtain⟨f,d,F,b,P,m⟩:=C.ex;exact UC F O z m P b .nil pass0 j B q L
end
def fixD (sel:List Nat) (J:AM):AM:=sel.map λi=>(J[i]?).getD .any
theorem NC (z:ts.length=n):backD n sel (ts++fixD sel J) 0 J = J:=by
 apply EU;intro i;rw[HN];cases q:J[i]? with
 |none=>rfl
 |some x=>
  show some (backAt n sel (ts++fixD sel J) (0+i) x)=some x;congr 1;rw[HD];have y:∀j,sel.idxOf? i=some j->(ts++fixD sel J)[n+j]?=some x:=λj h=>by
   rw[Cf #[2],z,Nat.add_sub_cancel_left];unfold fixD;rw[Ad,LM h];show some ((J[i]?).getD .any)=_;rw[q];rfl
  unfold backAt;cases x with
  |any=>rfl
  |val d=>rfl
  |own o=>
   dsimp only;cases e:sel.idxOf? i with
   |none=>rfl
   |some j=>dsimp only;rw[y j e]
  |bor o=>
   dsimp only;cases e:sel.idxOf? i with
   |none=>rfl
   |some j=>dsimp only;rw[y j e]
  |ownA a o=>
   dsimp only;cases e:sel.idxOf? i with
   |none=>rfl
   |some j=>dsimp only;rw[y j e]
#check 1
theorem Dx (L:sel.Nodup)
  (h:JI K wi J λds J1=>ds.length<sizeLine/\∃(p:D->Bool) (f:D->D),
   (∀(i:Nat) d,ds[i]?=some d->JT K tc (.val d::fixD sel J1) λb J4=>b=p d/\if b=true then JE K te J4 λe J5=>e=f d/\∃x,J5=x::fixD sel J1 else ∃x,J4=x::fixD sel J1) /\
   P (.lst ((ds.filter p).map f)) J1):JE K (tComp 1 sel wi (gName 0) tc te) J P:=by
 refine Qu L λg G H Z R k c=>h g G H Z R k λJ_ ds G' H' J' k' s' it (z,p,f,ht,he)=>c J_ ds G' H' J' k' s' it (z,fixD sel J',p,f,rfl,λi d t a s=>?_,?_)
 ·refine Li #[0] ?_
  obtain⟨x,rfl⟩:∃x,t=[x]:=by
   match t,s with
   |[x],_=>exact(x,rfl)
  intro g G H Z Q k c;refine ht i d a g G H Z Q k λb G1 H1 J1 k1 s1 (e1,q)=>c b G1 H1 J1 k1 s1 (e1,?_);cases b with
  |true=>
   rw[AN rfl]at q ⊢;exact q.mono λe J5 (e2,x,E)=>(e2,[x],rfl,E)
  |false=>
   rw[AK BV]at q ⊢;obtain⟨x,E⟩:=q;exact([x],rfl,E)
 ·rw[NC #[3]];exact he
theorem Hc (L:sel.Nodup)
  (h:JI K wi J λds J1=>ds.length<sizeLine/\∃(p:D->Bool) (f:D->D),
   (∀(i:Nat) d,ds[i]?=some d->JT K tc (.val d::fixD sel J1) λb J4=>b=p d/\if b=true then JE K te J4 λe J5=>e=f d/\∃x,J5=x::fixD sel J1 else ∃x,J4=x::fixD sel J1) /\
   Po (.lst ((ds.filter p).map f)) J1):JO K (tComp 1 sel wi (gName 0) tc te) J Po:=by
 refine SS L λg G H Z R k c=>h g G H Z R k λJ_ ds G' H' J' k' s' it (z,p,f,ht,he)=>c J_ ds G' H' J' k' s' it (z,λi s J=>s=((ds.take i).filter p).map f/\∃x,J = x::fixD sel J',(#[3],.any,rfl),?_,?_)
 ·rintro i d s j a ⟨rfl,x,rfl⟩
  have t:ds.take (i+1)=ds.take i++[d]:=by
   rw[Cu,a];rfl
  refine Li #[0] ?_;intro g G H Z Q k c;refine ht i d a g G H Z Q k λb G1 H1 J1 k1 s1 (e1,q)=>c b G1 H1 J1 k1 s1 ?_;cases b with
  |true=>
   rw[AN rfl]at q ⊢;refine q.mono λe J5 (e2,x,E)=>(?_,x,E);rw[t,Em,BA,DV,<- e1,e2];rfl
  |false=>
   rw[AK BV]at q ⊢;obtain⟨x,E⟩:=q;refine(?_,x,E);rw[t,Em,BA,DV,<- e1];simp
 ·rintro s j ⟨rfl,x,rfl⟩
  rw[Bm,show (x::fixD sel J')=[x]++fixD sel J' from rfl,NC #[3]];exact he
theorem Q3 (L:sel.Nodup)
  (h:JI K wi J λds J1=>ds.length<sizeLine/\∃(p:D->Bool) (f:D->D),
   (∀(i:Nat) d,ds[i]?=some d->∃a b,d=.tup [a,b]/\JT K tc (.val a::.val b::fixD sel J1) λt J4=>t=p d/\if t=true then JE K te J4 λe J5=>e=f d/\∃x y,J5=x::y::fixD sel J1 else ∃x y,J4=x::y::fixD sel J1) /\
   P (.lst ((ds.filter p).map f)) J1):JE K (tComp 2 sel wi (gTup K 2 (gCons (gName 0) (gCons (gName 1) gNil))) tc te) J P:=by
 refine Qu L λg G H Z R k c=>h g G H Z R k λJ_ ds G' H' J' k' s' it (z,p,f,ht,he)=>c J_ ds G' H' J' k' s' it (z,fixD sel J',p,f,rfl,λi d S j s=>?_,?_)
 ·obtain⟨a,b,rfl,l⟩:=ht i d j
  refine Zz5 rfl<|QZ<|Li #[0]<|QZ<|Li #[0]<|Zu8 ?_;obtain⟨x,y,rfl⟩:∃x y,S=[x,y]:=by
   match S,s with
   |[x,y],_=>exact(x,y,rfl)
  intro g G H Z Q k c;refine l g G H Z Q k λb G1 H1 J1 k1 s1 (e1,q)=>c b G1 H1 J1 k1 s1 (e1,?_);cases b with
  |true=>
   rw[AN rfl]at q ⊢;exact q.mono λe J5 (e2,x,y,E)=>(e2,[x,y],rfl,E)
  |false=>
   rw[AK BV]at q ⊢;obtain⟨x,y,E⟩:=q;exact([x,y],rfl,E)
 ·rw[NC #[3]];exact he
end
#check 4
theorem JS.conv (j:∀g G H Z,Ok K g G H Z J -> ∃G',Same G G' /\ Ok K g G' H Z J') (h:JS K t J' P):JS K t J P:=λg G H Z E k c=>by
 obtain⟨G',s,a⟩:=j g G H Z k;exact h g G' H Z E a c
end
section
variable {X:Cx}(K:W.Frag)
theorem ixK (U:X.A.units+1<cLine) (j:X.K=K:=by rfl):IxR X (rIxU K):=j ▸ ixU U
theorem slK (j:X.K=K:=by rfl):SlR X (rSlU K):=j ▸ slU
theorem slRK {e:Expr}{te:TE}{pos p2 z B:Pos}{k:Nat}(q:PE X e te) (j:X.K=K:=by rfl):PE X (.Subscript e (.Slice none none (some (.UnaryOp .USub (.Constant (.int 1) k B) z)) p2) pos) (tSlR K te):=j ▸ Zsa q
theorem addK (j:X.K=K:=by rfl):OpR X (binaryOp .Add) (rAddU K):=j ▸ Ue
theorem lenK (j:X.K=K:=by rfl):CallR X (.builtin "len") (rLenU K):=j ▸ Zq4
def rTup (K:W.Frag):List V->Hp->VK->Prop:=λs H Q=>∃p ys,s=[.ref p]/\((SqL K H p ys/\∀l,H l=none->Q (.ref l) (upd H l (.tup ys)))\/(SqT K H p ys/\Q (.ref p) H))
theorem tupK (j:X.K=K:=by rfl):CallR X (.type "tuple") (rTup K):=j ▸ Wj
def rLst (K:W.Frag):List V->Hp->VK->Prop:=λs H Q=>∃p ys,s=[.ref p]/\(SqL K H p ys\/SqT K H p ys)/\∀l,H l=none->Q (.ref l) (upd H l (.lst ys))
theorem lstK (j:X.K=K:=by rfl):CallR X (.type "list") (rLst K):=j ▸ Wo
theorem idxK (j:X.K=K:=by rfl):MtM X "tuple.index" (rIndexT K):=j ▸ WX
theorem seqK {tg l:Expr}{tl:TE}(L:PE X l tl) (j:X.K=K:=by rfl):PI X tg l (iSeq K tl):=j ▸ VN L
theorem truK {a:Expr}{ta:TE}(ha:PE X a ta) (he:∀whole,isTrue a X.env whole=(do let v <- whole;standAt a.pos;holding [v] (truthy v))) (hK:X.K=K:=by rfl):PT X a (tTru K ta):=hK ▸ Ul ha he
theorem gtupK {es:List Expr}{k:Nat}{t:TGs}{n:Nat}{pos:Pos}(z:X.calm=true) (h:PGs X es t)
  (B:(assignEach es X.env).length=n:=by rfl) (j:(assignEach es X.env).findIdx? (·.1)=none:=by rfl) (q:X.K=K:=by rfl):PG X (.Tuple es k pos) (gTup K n t):=q ▸ Vd z h B j
variable {o e:Expr}{es:List Expr}{to:TE}{t:TA}{name:Str}{apos cpos:Pos}{T id:String}{r:V->List V->Hp->VK->Prop}
theorem bm0K (q:PlainAttrs T) (O:PySem.Slot T name id) (Y:typeOf (.builtin id)=pure (.type "method_descriptor")) (hm:MtR X id r) (ho:PE X o to)
  (B:attributeBase o name X.env (eval o X.env)=eval o X.env:=by rfl) (L:(apos.endLine == cpos.line)=true:=by rfl) (j:X.K=K:=by rfl):PE X (.Call (.Attribute o name apos) [] [] cpos) (tBM0 K T r to):=j ▸ Vl q O Y hm ho B L
theorem bmK (pa:PlainAttrs T) (O:PySem.Slot T name id) (Y:typeOf (.builtin id)=pure (.type "method_descriptor")) (hm:MtR X id r) (ho:PE X o to) (U:PA X (e::es) t)
  (B:attributeBase o name X.env (eval o X.env)=eval o X.env:=by rfl)
  (q:((backTo cpos (starEach (e::es) X.env)).all (λx=>!x.1) && (backToKw cpos (keywordEach [] X.env)).all (λx=>x.1.isSome)
   && decide ((e::es).length+([]:List Keyword).length+(if ([]:List Keyword).isEmpty then 0 else 1)<30))=true:=by rfl)
  (j:(apos.endLine == cpos.line)=true:=by rfl) (hs:starEach (e::es) X.env=(false,eval e X.env)::starEach es X.env:=by rfl) (L:(backTo cpos<|starEach es X.env).any (·.1)=false:=by rfl) (z:X.K=K:=by rfl) :
  PE X (.Call (.Attribute o name apos) (e::es) [] cpos) (tBM K T r to t):=z ▸ V8 pa O Y hm ho U B q j hs L
end
#check 1
theorem E6 (j:ds=[.lst es]\/ds=[.tup es]) (p:P (.tup es) J):JC K (rTup K) ds J P:=Zwl j p
end
#check 4
abbrev OSp:=List D->(OD->Prop)->Prop
def spO (K:W.Frag) (f:OSp):Sp:=λs H Q _=>∃F ds Post,Same F H/\Reps K F s ds/\f ds Post /\
 ∀a H' o od,Same H H' -> H a=none->H' a=some o->OwnRep K (λb=>if b=a then none else glue F H H' b) o od->Post od->Q (.ref a) H'
theorem Zwo (h:JA K ta J λds J1=>f ds λod=>Po od J1):JO K (tCall (spO K f) [] E ta) J Po:=λg G H Z Q k c=>
 h g G H Z _ k λV ds i m J1 d C R P=>by
  show spO K f (V++[]) m Q E;rw[Bj];refine(i,ds,_,d.live,R,P,λa l o od S A N y v=>?_);have s:Same i (λb=>if b=a then none else glue i m l b):=λb o e=>by
   have B:b≠a:=by intro z;subst z;rw[d.live _ _ e]at A;cases A
   show (if b=a then none else glue i m l b)=some o;rw[AK B];exact JL d.live b o e
  have t:Ok K g (λb=>if b=a then none else glue i m l b) l Z J1:=d.grow s S λb o e=>by
   have e:(if b=a then none else glue i m l b)=some o:=e;by_cases B:b=a
   ·rw[AN B]at e;cases e
   ·rw[AK B]at e;exact Jf d.live (λb o _ e=>S b o e) b o e
  refine c a _ _ l J1 t (C.trans s) (o,N,y,#[3],d.there A,?_,λj x D n p r=>?_) v
  ·cases q:g.Xo a with
   |none=>rfl
   |some u=>have z:=(d.ext a u q).1;exists 0,A,z
  ·obtain⟨b,O,w,W,_⟩:=d.own j x D n p
   exists 0,r,w;exists 0,A,W
theorem WD {f:OSp}{t:TS}{N:List Str}{vs:List V}{H:Hp}{Q:VK}{E:XK}(ht:∀ds Post,f ds Post->ds.length<=N.length/\JS K t (startD N ds) (λ_=>False,λ_ _=>False,λ_=>False,λ_=>False,λod _=>Post od)) (h:spO K f vs H Q E) :
  t { nx:=λ_ H'=>Q .non H',rt:=Q } (start N vs) H:=by
 obtain⟨F,ds,Post,l,s,n,q⟩:=h;obtain⟨L,r⟩:=ht ds Post n;refine r (λ_=>False,F,H,λ_=>none) F H (start N vs) _ (JY s L (λ_ _ _ e=>e) (λ_ z=>z.elim) (Same.refl _) (λb o e=>(l b o e,.inr e)) λ_=>rfl) (λ_ _ _ _ _ z=>z.elim,λ_ _ _ _ _ _ _ _ z=>z.elim,λ_ _ _ _ _ z=>z.elim,λ_ _ _ _ _ z=>z.elim,λa od Z G H' J k D p=>?_);obtain⟨o,g,i,j,m,u,v⟩:=D;refine q a H' o od (λb o e=>k.same b o (λz=>z) e) m g (i.mono λb o e=>?_) p;have B:b≠a:=by intro z;subst z;exists 0,j,e
 show (if b=a then none else glue F H H' b)=some o;rw[AK B];obtain⟨c,d⟩:=k.frz b o e;rcases d with z|z
 ·rw[JU z];exact c
 ·rw[GS (l b o z)];exact z
theorem Zzv (h:∀ds Post,f ds Post->ds.length=n):∀vs H Q E,spO K f vs H Q E->vs.length=n:=λvs H Q E a=>by obtain⟨F,ds,Post,l,s,b,q⟩:=a;rw[s.length];exact h ds Post b
end
def fLaw:DSp:=λs t=>∃ns:List Int,s=[.scr (ns.map .int)]/\ns.length<=63/\t (.bl true)
def spLaw (K:W.Frag):Sp:=λs H Q _=>∃(a:Addr) (ns:List Int),s=[.ref a]/\SqL K H a (ns.map V.int)/\ns.length<=63/\∀H',Q (.bl true) H'
theorem Zwg {K:W.Frag}(h:spLaw K vs H Q E):spD K fLaw vs H Q E:=by
 obtain⟨a,s,rfl,S,l,q⟩:=h;refine(H,[.scr (s.map .int)],λd=>d=.bl true,Same.refl _,.cons (.scr S<|Reps.ofInts s) .nil,(s,rfl,l,rfl),λr b d c R e=>?_);subst e;cases R.inv;exact q b
theorem walk_law {l:PySem.W.OpenLaw}{q:Program}{O:List Str}{U:(Str->Option Value)->Heap->Prop}{Y:World->Heap->Prop}{d:DefRec}{K:Params->W.Frag}{k:Nat}{x:Str}(hk:Room k callerA) (hn:l.most=some 63) (j:d.params.defaults=[])
  (hY:∀(w:World) (h:Heap),Y w h->(K w.params).In h)
  (F:∀(w:World) (mg:Str->Option Value) (fa:Addr) (h:Heap),(K w.params).In h->h.Ns mainGlobals mg->mg d.name=some (.ref fa) ->
   ∃fd:FuncData,(∀(s:Shared) (u:Value),BindsTo s fd ([u],[]) [(x,u)])/\∀base:Heap,(K w.params).In base->base.Ns mainGlobals mg->FnOk l.prog w (K w.params) mg base CX0 k fa fd [x] (spD (K w.params) fLaw)) :
  PySem.W.WalkO q O U Y l.row.toRowW d [] (λf vs=>PySem.call f vs):=
 L2.walk_of (n:=63) (k:=k) (x:=x) (CX:=λ_=>CX0) (sp:=λw=>spLaw<|K w.params) hn #[0] j hk hY
  (λw mg fa h c e g=>by
   obtain⟨fd,b,f⟩:=F w mg fa h c e g;exact(fd,b,λbase B N=>(f base B N).imp λvs H Q E z=>Zwg z))
  (λ_ _ a i L _ S=>(a,i,rfl,S,L,λ_=>rfl)) λ_ _ _ _ _ z=>z
def SqB (b:Bool) (K:W.Frag) (H:Hp) (a:Addr) (xs:List V):Prop:=match b with|true=>SqT K H a xs|false=>SqL K H a xs
def ItB (b:Bool) (h:Heap) (j a:Addr) (i:Nat):Prop:=match b with|true=>h.IsTupleIter j a i|false=>h.IsListIter j a i
def HsB (b:Bool) (h:Heap) (a:Addr) (j:Array Value):Prop:=match b with|true=>h.IsTuple a j|false=>h.IsList a j
theorem ItB.at (x:ItB b h j a i) (e:∀o,h.get? j=some o->h'.get? j=some o):ItB b h' j a i:=by
 cases b
 ·exact Heap.IsListIter.at (show h.IsListIter j a i from x) e
 ·exact Heap.IsTupleIter.at (show h.IsTupleIter j a i from x) e
theorem ItB.off (x:ItB b h j a i) (e:Heap.ExtBut c h h') (n:j≠c):ItB b h' j a i:=x.at λo q=>e j o n q
theorem ItB.obj (x:ItB b h j a i):∃o,h.get? j=some o/\o.data=.fields #[.ref a,.int i 0]:=by
 cases b <;> (obtain⟨o,e,_,d⟩:=x;exact(o,e,d))
theorem HsB.off (x:HsB b h a ws) (e:Heap.ExtBut c h h') (n:a≠c):HsB b h' a ws:=by
 cases b <;> (obtain⟨o,q,r⟩:=x;exact(o,e a o n q,r))
theorem HsB.lt (x:HsB b h a ws):a<h.objs.size:=by
 cases b <;> (obtain⟨o,q,r⟩:=x;exact A4 q)
theorem AH.seqB (I:AH X pins Z H s) (h:SqB b X.K H a xs):∃its:List Value,Vals xs its/\HsB b s.heap a its.toArray:=by
 cases b
 ·obtain⟨its,r,p,_⟩:=I.list h
  exact(its,r,p.isList)
 ·obtain⟨its,r,p,_⟩:=I.tuple h
  exact(its,r,p)
theorem AH.seqB_inj (I:AH X pins Z H s) (h:SqB b X.K H a xs) (h':SqB b X.K H a ys):xs=ys:=by
 cases b
 ·exact I.list_inj h h'
 ·exact I.tuple_inj h h'
#check 5
theorem Lb (g:ItB b s.heap j a i) (l:HsB b s.heap a ws) (e:ws[i]?=some x)
  (q:∀h',ItB b h' j a (i+1)->Heap.SameBut j s.heap h' -> Q x { s with heap:=h' }):wpAny (model prog w) A (Builtin.SmallTypes.nextOf (.ref j)) Q E s:=by
 cases b
 ·exact wpAny_nextOf_list_item g l e q
 ·obtain⟨o,G,d,c⟩:=id g
  obtain⟨u,L,_,n,f⟩:=l;have y:s.TypeIs (.ref j) "tuple_iterator":=(o,G,d);unfold Builtin.SmallTypes.nextOf;refine AB<|wpAny_callSpecial?_slot (name:=Str.ofString "__next__") y F.slot_tuple_iterator_next<|wpAny_call_entry F.slot_tuple_iterator_next y F.entry_tuple_iterator_next ?_<|F.args_tuple_iterator_next_1 _;refine(show wpAny _ _ (field (.ref j) 0 >>= _) _ _ s from AB (wpAny_field G c (x:=.ref a) rfl ?_));refine(show wpAny _ _ (if (Value.ref a == Value.none)=true then _ else _) _ _ s from ?_);rw[AK (by exact BV)];refine(show wpAny _ _ (field (.ref j) 1 >>= _) _ _ s from AB (wpAny_field G c (x:=.int i 0) rfl ?_));refine(show wpAny _ _ (seqItems? (.ref a) >>= _) _ _ s from AB (wpAny_seqItems L f ?_));simp only[BO,e];refine AB<|wpAny_setField G c #[3]<|AL (x,rfl,AL<|q _ (_,GD _ G<|Obj.isFreed_of_fields<|Obj.data_mapFields c _,(Obj.cls_mapFields ..).trans d,?_)<|Heap.SameBut.update ..);rw[Obj.data_mapFields c];simp[rawInt]
theorem Ob (hh:A.handled=none) (g:ItB b s.heap j a i) (l:HsB b s.heap a ws) (e:ws[i]?=none)
  (q:∀h' x,Heap.ExtBut j s.heap h' -> (∃o,h'.get? x=some o/\o.cls=.type "StopIteration")->E (.ref x) { s with heap:=h' }):wpAny (model prog w) A (Builtin.SmallTypes.nextOf (.ref j)) Q E s:=by
 cases b
 ·exact wpAny_nextOf_list_end hh g l e q
 ·obtain⟨o,G,d,c⟩:=id g
  obtain⟨u,L,_,n,f⟩:=l;have y:s.TypeIs (.ref j) "tuple_iterator":=(o,G,d);unfold Builtin.SmallTypes.nextOf;refine AB<|wpAny_callSpecial?_slot (name:=Str.ofString "__next__") y F.slot_tuple_iterator_next<|wpAny_call_entry F.slot_tuple_iterator_next y F.entry_tuple_iterator_next ?_<|F.args_tuple_iterator_next_1 _;refine(show wpAny _ _ (field (.ref j) 0 >>= _) _ _ s from AB (wpAny_field G c (x:=.ref a) rfl ?_));refine(show wpAny _ _ (if (Value.ref a == Value.none)=true then _ else _) _ _ s from ?_);rw[AK (by exact BV)];refine(show wpAny _ _ (field (.ref j) 1 >>= _) _ _ s from AB (wpAny_field G c (x:=.int i 0) rfl ?_));refine(show wpAny _ _ (seqItems? (.ref a) >>= _) _ _ s from AB (wpAny_seqItems L f ?_));simp only[BO,e];refine AB<|Eh<|AB<|wpAny_setField G c #[3] (show wpAny _ _ (newExc (.type "StopIteration") [] >>= _) _ _ _ from AB ?_);simp only[newExc,newTuple];refine AB<|wpAny_newObj_type (AB (m:=firstArgMember _ _)<|wpAny_of_eq (a:=Value.none) (by first|rfl|(simp only[firstArgMember];rfl))<|wpAny_newObj_type ?_ (by size_fits)) (by size_fits);simp only[raiseNew];refine AB<|wpAny_handled ?_
  first|rw[show A.in1.handled=none from hh]|rw[hh]
  exact AB<|AL<|wpAny_throw<|q _ _ (((Heap.SameBut.update ..).extBut.push _).push _) (_,Bn _ rfl,rfl)
theorem Zyf (D:ZipApart z U O j1 j2 a1 a2)
  (gz:IsZip s.heap z U O .none) (gU:IsPair s.heap U (.ref j1) (.ref j2)) (gO:IsPair s.heap O p r) (g1:ItB b s.heap j1 a1 k1) (g2:ItB c s.heap j2 a2 k2) (l1:HsB b s.heap a1 vs) (l2:HsB c s.heap a2 us) (ex:vs[k1]?=some x) (ey:us[k2]?=some y)
  (q:∀h',IsZip h' z U O (rawInt s.heap.objs.size)->IsPair h' O x y->ItB b h' j1 a1 (k1+1)->ItB c h' j2 a2 (k2+1)->IsPair h' s.heap.objs.size x y->h'.objs.size=s.heap.objs.size+1 ->
   (∀d o,d≠z->d≠O->d≠j1->d≠j2->s.heap.get? d=some o->h'.get? d=some o)->Q (some (.ref s.heap.objs.size)) { s with heap:=h' }):wpAny (model prog w) A (pyNext (.ref z)) Q E s:=by
 have t:s.TypeIs (.ref z) "zip":=(_,gz,rfl);exists 2,t
 replace z₁:IsZip h₁ z U O .ellipsis:=z₁
 simp only[List.zipIdx_cons,List.zipIdx_nil,List.forIn_cons,List.forIn_nil];refine AB<|AB<|wpAny_onRaise (show wpAny _ _ (Builtin.SmallTypes.nextOf (.ref j1) >>= _) _ _ _ from AB (Lb (g1.off s₁.extBut D.i1z) (l1.off s₁.extBut D.l1z) ex λh₂ g₂ s₂=>AL ?_));have o₂:IsPair h₂ O p r:=s₂.extBut _ _ D.TOi1<|s₁.extBut _ _ D.TOz gO;refine AB<|wpAny_seqItems o₂ rfl<|AB (wpAny_updateSeq_pair o₂ λh₃ o₃ s₃=>AB<|wpAny_letGo<|AL ?_)
 replace o₃:IsPair h₃ O x r:=o₃
 refine AB<|AB<|wpAny_onRaise (show wpAny _ _ (Builtin.SmallTypes.nextOf (.ref j2) >>= _) _ _ _ from AB (Lb (((g2.off s₁.extBut D.i2z).off s₂.extBut D.i12.symm).off s₃.extBut D.TOi2.symm) (((l2.off s₁.extBut D.l2z).off s₂.extBut D.l2i1).off s₃.extBut D.l2TO) ey λh₄ g₄ s₄=>AL ?_));have o₄:IsPair h₄ O x r:=s₄.extBut _ _ D.TOi2 o₃;refine AB<|wpAny_seqItems o₄ rfl<|AB (wpAny_updateSeq_pair o₄ λh₅ o₅ s₅=>AB<|wpAny_letGo<|AL<|AL ?_)
 replace o₅:IsPair h₅ O x y:=o₅
 refine AB<|wpAny_seqItems o₅ rfl<|AB<|wpAny_newTuple ?_;have N:h₅.objs.size=s.heap.objs.size:=by rw[s₅.1,s₄.1,s₃.1,s₂.1,s₁.1]
 have z₅:IsZip h₅ z U O .ellipsis:=s₅.extBut _ _ D.TOz.symm<|s₄.extBut _ _ D.i2z.symm<|s₃.extBut _ _ D.TOz.symm<|s₂.extBut _ _ D.i1z.symm z₁;have l:∀d o,d≠z->d≠O->d≠j1->d≠j2->s.heap.get? d=some o->h₅.get? d=some o:=λd o C a f g e=>s₅.extBut _ _ a<|s₄.extBut _ _ g<|s₃.extBut _ _ a<|s₂.extBut _ _ f<|s₁.extBut _ _ C e;have T:ItB b h₅ j1 a1 (k1+1):=((g₂.off s₃.extBut D.TOi1.symm).off s₄.extBut D.i12).off s₅.extBut D.TOi1.symm;have i:ItB c h₅ j2 a2 (k2+1):=g₄.off s₅.extBut D.TOi2.symm;have L:z<h₅.objs.size:=A4 z₅;refine(show wpAny _ _ (Builtin.SmallTypes.ownedTupleHandOut (.ref z) (.ref h₅.objs.size) >>= _) _ _ _ from AB ?_);unfold Builtin.SmallTypes.ownedTupleHandOut;have z₆:IsZip (h₅.push { cls:=.type "tuple",data:=.seq #[x,y] }) z U O .ellipsis:=Ap _ z₅;refine AB (wpAny_setField_rec z₆ #[3] λh₇ z₇ s₇=>?_)
 replace z₇:IsZip h₇ z U O (rawInt h₅.objs.size):=z₇
 refine wpAny_setField_rec z₇ #[3] λh₈ z₈ s₈=>?_
 replace z₈:IsZip h₈ z U O (rawInt h₅.objs.size):=z₈
 have u:∀d o,d≠z->h₅.get? d=some o->h₈.get? d=some o:=λd o C e=>s₈.extBut _ _ C<|s₇.extBut _ _ C<|Ap _ e;have n:IsPair h₈ h₅.objs.size x y:=s₈.extBut _ _ (El L)<|s₇.extBut _ _ (El L)<|Bn _ rfl;have h:h₈.objs.size=h₅.objs.size+1:=by rw[s₈.1,s₇.1,Ep]
 rw[N]at z₈ n h;refine AL (_,rfl,AL ?_);refine(show Q (some (.ref h₅.objs.size)) _ from ?_);rw[N];exact q h₈ z₈ (u _ _ D.TOz o₅) (T.at λo e=>u _ o D.i1z e) (i.at λo e=>u _ o D.i2z e) n h λd o C a f g e=>u d o C<|l d o C a f g e
theorem Ve (hh:A.handled=none) (D:ZipApart z U O j1 j2 a1 a2)
  (gz:IsZip s.heap z U O .none) (gU:IsPair s.heap U (.ref j1) (.ref j2)) (gO:IsPair s.heap O p r) (g1:ItB b s.heap j1 a1 k1) (g2:ItB c s.heap j2 a2 k2) (l1:HsB b s.heap a1 vs) (l2:HsB c s.heap a2 us) (e:vs[k1]?=none\/us[k2]?=none)
  (q:∀h',(∀d o,d≠z->d≠O->d≠j1->d≠j2->s.heap.get? d=some o->h'.get? d=some o)->Q none { s with heap:=h' }):wpAny (model prog w) A (pyNext (.ref z)) Q E s:=by
 have ty:s.TypeIs (.ref z) "zip":=(_,gz,rfl);have fin:∀{h':Heap}{x:Addr},(∀d o,d≠z->d≠O->d≠j1->d≠j2->s.heap.get? d=some o->h'.get? d=some o)->(∃o,h'.get? x=some o/\o.cls=.type "StopIteration")->wpAny (model prog w) A (do if (<- isInstance (.ref x) (.type "StopIteration")) then pure none else throw (.ref x)) Q E { s with heap:=h' }:=λ{h' x} hk (o,ho,hc)=>by
  refine AB<|wpAny_isInstance (T:="StopIteration") (b:=true) (o,ho,hc) isSubtype_stop ?_;exact AL<|q _ hk
 exists 2,ty
 replace z₁:IsZip h₁ z U O .ellipsis:=z₁
 simp only[List.zipIdx_cons,List.zipIdx_nil,List.forIn_cons,List.forIn_nil];refine AB<|AB<|wpAny_onRaise (show wpAny _ _ (Builtin.SmallTypes.nextOf (.ref j1) >>= _) _ _ _ from ?_);cases ex:vs[k1]? with
 |none=>
  refine AB (Ob hh (g1.off s₁.extBut D.i1z) (l1.off s₁.extBut D.l1z) ex λh₂ y s₂ (u,u1,u2)=>?_);have z₂:IsZip h₂ z U O .ellipsis:=s₂ _ _ D.i1z.symm z₁;have yz:y≠z:=λx=>by subst x;exists 0,z₂,u1;simp at u2
  exact wpAny_setField_rec z₂ #[3] λh₃ _ s₃=>fin (λd o c1 _ c3 _ x=>s₃.extBut _ _ c1<|s₂ _ _ c3<|s₁.extBut _ _ c1 x) (u,s₃.extBut _ _ yz u1,u2)
 |some x=>
  have ey:us[k2]?=none:=by rcases e with h|h;exists 0,ex,h;exact h
  refine AB (Lb (g1.off s₁.extBut D.i1z) (l1.off s₁.extBut D.l1z) ex λh₂ g₂ s₂=>AL ?_);have o₂:IsPair h₂ O p r:=s₂.extBut _ _ D.TOi1<|s₁.extBut _ _ D.TOz gO;refine AB<|wpAny_seqItems o₂ rfl<|AB (wpAny_updateSeq_pair o₂ λh₃ o₃ s₃=>AB<|wpAny_letGo<|AL ?_);refine AB<|AB<|wpAny_onRaise (show wpAny _ _ (Builtin.SmallTypes.nextOf (.ref j2) >>= _) _ _ _ from ?_);refine AB (Ob hh (((g2.off s₁.extBut D.i2z).off s₂.extBut D.i12.symm).off s₃.extBut D.TOi2.symm) (((l2.off s₁.extBut D.l2z).off s₂.extBut D.l2i1).off s₃.extBut D.l2TO) ey λh₄ y s₄ (u,u1,u2)=>?_);have z₄:IsZip h₄ z U O .ellipsis:=s₄ _ _ D.i2z.symm<|s₃.extBut _ _ D.TOz.symm<|s₂.extBut _ _ D.i1z.symm z₁;have yz:y≠z:=λx=>by subst x;exists 0,z₄,u1;simp at u2
  exact wpAny_setField_rec z₄ #[3] λh₅ _ s₅=>fin (λd o c1 c2 c3 c4 x=>s₅.extBut _ _ c1<|s₄ _ _ c4<|s₃.extBut _ _ c2<|s₂.extBut _ _ c3<|s₁.extBut _ _ c1 x) (u,s₅.extBut _ _ yz u1,u2)
end
section
abbrev zt1 (h:Heap) (a:Addr):Heap:=h.push (.type "tuple_iterator",none,.fields #[.ref a,.int 0 0],#[])
abbrev zt2 (h:Heap) (a c:Addr):Heap:=(zt1 h a).push (.type "tuple_iterator",none,.fields #[.ref c,.int 0 0],#[])
abbrev zt3 (h:Heap) (a c:Addr):Heap:=(zt2 h a c).push (.type "tuple",none,.seq #[.ref h.objs.size,.ref (zt1 h a).objs.size],#[])
abbrev zt4 (h:Heap) (a c:Addr):Heap:=(zt3 h a c).push (.type "tuple",none,.seq #[.none,.none],#[])
abbrev zt5 (h:Heap) (a c:Addr):Heap:=(zt4 h a c).push (.type "zip",none,.fields #[.none,.bool false,.bool false,.ref (zt2 h a c).objs.size,.ref (zt3 h a c).objs.size],#[])
theorem Zvm (a c:Addr) (vs us:Array Value) :
  Meets (Builtin.«zip.__new__» ([.type "zip",.ref a,.ref c],[])) (λ_ R s=>s.heap.IsTuple a vs/\s.heap.IsTuple c us/\R (.ok (.ret (.ref (zt4 s.heap a c).objs.size))) { s with heap:=zt5 s.heap a c }):=.of_wp λr w A R s h=>by
 obtain⟨p,g,d,k,o⟩:=s;obtain⟨u,U,h⟩:=h;have b:=sub_zip;have v:Heap.IsTuple (Shared.heap (p,g,d,k,o)) a vs:=u;have V:Heap.IsTuple (Shared.heap (p.push { cls:=.type "tuple_iterator",data:=.fields #[.ref a,.int 0 0] },g,d,k,o)) c us:=Heap.IsTuple.push U _
 wp_walk using wpAny_pyIter_tuple v,wpAny_pyIter_tuple V
 exact(_,rfl,h)
variable {prog:Program}{w:World}{A:Around}{E:Au}{s:Shared}
theorem Zym (l1:HsB b s.heap a vs) (l2:HsB b s.heap c us)
  (q:∀h',IsZip h' (s.heap.objs.size+4) (s.heap.objs.size+2) (s.heap.objs.size+3) .none->IsPair h' (s.heap.objs.size+2) (.ref s.heap.objs.size) (.ref (s.heap.objs.size+1))->IsPair h' (s.heap.objs.size+3) .none .none ->
   ItB b h' s.heap.objs.size a 0->ItB b h' (s.heap.objs.size+1) c 0->(∀d o,s.heap.get? d=some o->h'.get? d=some o)->Q (.ref (s.heap.objs.size+4)) { s with heap:=h' }):wpAny (model prog w) A (call (.type "zip") [.ref a,.ref c]) Q E s:=by
 cases b
 ·exact call_zip_2 l1 l2 λh' B k l m n t K=>q h' B k l m n K
 ·refine callType_new F.called_zip #[0] (F.typeCall_zip_2 _ _) (F.newCall_zip_2 _ _) (λj=>F.args_object_init_3 j _ _) F.entry_zip_new (Zvm a c vs us) (l1,l2,?_)
  have z:(zt1 s.heap a).objs.size=s.heap.objs.size+1:=Ep ..;have Z:(zt2 s.heap a c).objs.size=s.heap.objs.size+2:=by rw[Ep,z]
  have f:(zt3 s.heap a c).objs.size=s.heap.objs.size+3:=by rw[Ep,Z]
  have i:(zt4 s.heap a c).objs.size=s.heap.objs.size+4:=by rw[Ep,f]
  have p:(zt5 s.heap a c).get? (zt4 s.heap a c).objs.size=some _:=Bn _ rfl;have h:(zt5 s.heap a c).get? (zt3 s.heap a c).objs.size=some _:=Ap _<|Bn _ rfl;have g:(zt5 s.heap a c).get? (zt2 s.heap a c).objs.size=some _:=Ap _<|Ap _<|Bn _ rfl;have P:(zt5 s.heap a c).get? (zt1 s.heap a).objs.size=some _:=Ap _<|Ap _<|Ap _<|Bn _ rfl;have r:(zt5 s.heap a c).get? s.heap.objs.size=some _:=Ap _<|Ap _<|Ap _<|Ap _<|Bn _ rfl;show _/\_;rw[Z,f,i]at p;rw[z,Z]at g;rw[f]at h;rw[z]at P;rw[i];exact((_,p,rfl),q _ p g h (_,r,rfl,rfl) (_,P,rfl,rfl) λd o e=>Ap _<|Ap _<|Ap _<|Ap _<|Ap _ e)
end
def L5 (b:Bool) (K:W.Frag) (L j:Addr):It:=
 (λi H=>∃xs ys x y,SqB b K H L xs/\SqB b K H j ys/\xs[i]?=some x/\ys[i]?=some y,
  λi H v h=>∃p x y,H p=none/\v=.ref p/\h=upd H p (.tup [x,y])/\∀xs ys,SqB b K H L xs->SqB b K H j ys->xs[i]?=some x/\ys[i]?=some y,
  λi H=>∃xs ys,SqB b K H L xs/\SqB b K H j ys/\(xs.length<=i\/ys.length<=i))
theorem UW {b:Bool}{P:Program}{w:World}{K:W.Frag}{es:List Expr}{kk:Nat}{tp:Pos}(l1 l2 z TI TO i1 i2:Addr) (D:ZipApart z TI TO i1 i2 l1 l2):Turn P w K (.Tuple es kk tp) (L5 b K l1 l2) [z,TI,TO,i1,i2] z
  (λi h=>IsZip h z TI TO .none/\IsPair h TI (.ref i1) (.ref i2)/\(∃a b,IsPair h TO a b)/\ItB b h i1 l1 i/\ItB b h i2 l2 i) where
 mem:=#[3]
 obj:=λi h u b2 hb=>by
  obtain⟨p,T,⟨a,M,O⟩,A,B⟩:=u;obtain⟨o1,Y,d1⟩:=A.obj;obtain⟨o2,e2,d2⟩:=B.obj;simp only[A5,DF,or_false]at hb;rcases hb with rfl|rfl|rfl|rfl|rfl
  ·exact(_,p,λv q=>by cases q)
  ·exact(_,T,λv q=>by cases q)
  ·exact(_,O,λv q=>by cases q)
  ·exact(o1,Y,λv q=>by exists 0,d1,q)
  ·exact(o2,e2,λv q=>by exists 0,d2,q)
 keep:=λi h U u k=>by
  obtain⟨p,T,⟨a,M,O⟩,A,B⟩:=u;exact(k z #[3] _ p,k TI #[3] _ T,(a,M,k TO #[3] _ O),A.at λo e=>k i1 #[3] o e,B.at λo e=>k i2 #[3] o e)
 item:=by
  intro X hP hw hK C i pins s Z H E I hf u hg;subst hP hw hK;obtain⟨p,T,⟨a,M,O⟩,A,B⟩:=u;obtain⟨xs,ys,x,y,Q,m,f,hy⟩:=hg;obtain⟨J,r1,p1⟩:=I.seqB Q;obtain⟨L,r2,p2⟩:=I.seqB m;obtain⟨u1,a3,a5⟩:=r1.get f;obtain⟨u2,a4,a6⟩:=r2.get hy;refine Zyf D p T O A B p1 p2 (x:=u1) (y:=u2) (by simpa using a3) (by simpa using a4) λU b1 b2 b3 b4 b5 b6 V=>?_;refine(_,rfl,wpAny_letOwnedTupleGo_zip (s:={ s with heap:=U }) b1 λl G S=>?_);have lt:∀{c o},s.heap.get? c=some o->c≠s.heap.objs.size:=λe=>BN<|A4 e;have a0:s.heap.objs.size≠z:=Ne.symm<|lt p;have r:H s.heap.objs.size=none:=I.hok.fresh<|AU _;have t:∀c o,c ∉ [z,TI,TO,i1,i2]->s.heap.get? c=some o->l.get? c=some o:=λc o C e=>by
   simp only[A5,DF,or_false,not_or]at C;exact S.extBut _ _ C.1<|V c o C.1 C.2.2.1 C.2.2.2.1 C.2.2.2.2 e
  have hT:l.get? s.heap.objs.size=some { cls:=.type "tuple",data:=.seq #[u1,u2] }:=S.extBut _ _ a0 b5;have R:∀c o,H c=some o->c ∉ [z,TI,TO,i1,i2]:=λc o e C=>by rw[(hf c C).1]at e;cases e
  have a2:HOk X.prog X.w (upd H s.heap.objs.size (.tup [x,y])) l:=λc o e=>by
   by_cases hcT:c=s.heap.objs.size
   ·subst hcT
    exists 0,Bd,e;exact(by show 2<=sizeLine;decide,[u1,u2],.cons a5 (.cons a6 .nil),_,hT,(rfl,_,rfl),rfl)
   ·rw[Ai hcT]at e
    refine(I.hok c o e).stay (λd v j q=>t d v ?_ q) (λd q=>by rw[Ai (Bq q r)];exact q) λd F q=>by rw[Ai (Bq q r)];exact q
    rcases j with j|j
    ·rw[j];exact R c o e
    ·exact R d _ j
  have I2:AH X pins Z (upd H s.heap.objs.size (.tup [x,y])) { s with heap:=l }:=by
   refine I.call (g':=s.gens) (t':=s.toks) (d':=s.drawn) (ch:=[z,TI,TO,i1,i2]) (λc o e n C f=>t c o f e,λc o e n C f=>(o.slots,t c o f e),λc o e n f=>by rw[Ai (lt e)];exact n,λc o e f=>(o,t c o f e),
    λc F q=>by rw[Ai (Bq q r)];exact q,λc o F q=>by rw[Ai (Bq q r)];exact q,λc F q=>(#[],by rw[Ai (Bq q r),q];simp)) a2 I.bare λc g=>?_
   obtain⟨f0,f1,f2,f3,f4,f5⟩:=hf c g;exact(f3,f1,f4,f5)
  refine(.ref s.heap.objs.size,_,I2,rfl,(s.heap.objs.size,x,y,r,rfl,rfl,λa9 b0 q1 q2=>?_),(G,S.extBut _ _ D.TIz<|V _ _ D.TIz D.TITO D.TIi1 D.TIi2 T,(_,_,S.extBut _ _ D.TOz b2),b3.off S.extBut D.i1z,b4.off S.extBut D.i2z),λc g=>?_)
  ·rw[I.seqB_inj q1 Q,I.seqB_inj q2 m];exact(f,hy)
  ·have a1:c≠s.heap.objs.size:=by
    simp only[A5,DF,or_false]at g;obtain⟨_,Y,_⟩:=A.obj;obtain⟨_,e2,_⟩:=B.obj;rcases g with rfl|rfl|rfl|rfl|rfl
    ·exact lt p
    ·exact lt T
    ·exact lt O
    ·exact lt Y
    ·exact lt e2
   rw[Ai a1];exact(hf c g).1
 done:=by
  intro X hP hw hK C i pins s Z H E I hf u hg;subst hP hw hK;obtain⟨p,T,⟨a,M,O⟩,A,B⟩:=u;obtain⟨xs,ys,Q,m,N⟩:=hg;obtain⟨J,r1,p1⟩:=I.seqB Q;obtain⟨L,r2,p2⟩:=I.seqB m;have a7:=r1.length;have a8:=r2.length;refine Ve (I.ok.hd C) D p T O A B p1 p2 ?_ λU V=>(rfl,?_)
  ·rcases N with q|q
   ·left;simp;lia
   ·right;simp;lia
  ·have t:∀c o,c ∉ [z,TI,TO,i1,i2]->s.heap.get? c=some o->U.get? c=some o:=λc o C e=>by
    simp only[A5,DF,or_false,not_or]at C;exact V c o C.1 C.2.2.1 C.2.2.2.1 C.2.2.2.2 e
   have R:∀c o,H c=some o->c ∉ [z,TI,TO,i1,i2]:=λc o e C=>by rw[(hf c C).1]at e;cases e
   refine I.call (g':=s.gens) (t':=s.toks) (d':=s.drawn) (ch:=[z,TI,TO,i1,i2]) (λc o e n C f=>t c o f e,λc o e n C f=>(o.slots,t c o f e),λc o e n f=>n,λc o e f=>(o,t c o f e),
    λc F q=>q,λc o F q=>q,λc F q=>(#[],by rw[q];simp)) (λc o e=>?_) I.bare λc g=>?_
   ·refine(I.hok c o e).stay (λd v j q=>t d v ?_ q) (λd q=>q) λd F q=>q
    rcases j with j|j
    ·rw[j];exact R c o e
    ·exact R d _ j
   ·obtain⟨f0,f1,f2,f3,f4,f5⟩:=hf c g
    exact(f3,f1,f4,f5)
 self:=λ_ _ _ _ _ u h=>wpAny_pyIter_zip u.1 h
#check 0
def iZip (K:W.Frag) (ta:TA):TI:=λZ H R=>ta Z H λs h=>∃b l1 l2,s=[.ref l1,.ref l2]/\(∃xs,SqB b K h l1 xs)/\(∃ys,SqB b K h l2 ys)/\R (L5 b K l1 l2) h
theorem VS (K:W.Frag) {es:List Expr}{kk:Nat}{tp:Pos}{a b:Expr}{ta:TA}{p pos:Pos}(hg:Gl X "zip") (hm:X.mg "zip" = none) (ha:PA X [a,b] ta) (hs:starEach [a,b] X.env=[(false,eval a X.env),(false,eval b X.env)]:=by rfl) (hs2:starEach [b] X.env=[(false,eval b X.env)]:=by rfl) (hK:X.K=K:=by rfl) :
  PI X (.Tuple es kk tp) (.Call (.Name "zip" p) [a,b] [] pos) (iZip K ta):=by
 subst hK;intro pins s Z H R I h;refine Call_<|EJ I hg hm (U2)<|PyProof.Rows.callWith_type1 (thn (ha pos pins s Z H _ I h) λus s1 (vs,H1,I1,r1,Q)=>?_) (by rw[hs,hs2]) (by rw[hs2];rfl);obtain⟨b,l,L,e,⟨A,x⟩,⟨Y,y⟩,q⟩:=Q;subst e;obtain⟨U,v,rfl,Q,u⟩:=r1.two;cases (show U=Value.ref l from Q);cases (show v=Value.ref L from u);obtain⟨i,w,P⟩:=I1.seqB x;obtain⟨S,z,d⟩:=I1.seqB y;have t:l<s1.heap.objs.size:=P.lt;have T:L<s1.heap.objs.size:=d.lt;refine Zym P d λo B j k m n r=>?_;refine wpAny_pyIter_zip B ?_;have f:AH X pins Z H1 { s1 with heap:=o }:=I1.kept (t':=s1.toks) r;refine(s1.heap.objs.size+4,[s1.heap.objs.size+4,s1.heap.objs.size+2,s1.heap.objs.size+3,s1.heap.objs.size,s1.heap.objs.size+1],_,_,H1,rfl,f,UW l L _ _ _ _ _<|zipApart_new t T,(B,j,(_,_,k),m,n),λb c=>?_,q);have g:s1.heap.objs.size<=b:=by
  simp only[A5,DF,or_false]at c;rcases c with rfl|rfl|rfl|rfl|rfl <;> lia
 exact I1.fpOk g<|I1.hok.fresh g
def rAll (K:W.Frag):List V->Hp->VK->Prop:=λs H Q=>∃(p:Addr) (bs:List Bool),s=[.ref p]/\SqL K H p (bs.map V.bl)/\Q (.bl<|bs.all id) H
theorem allK (K:W.Frag) (hc:X.calm=true) (hK:X.K=K:=by rfl):CallR X (.builtin "all") (rAll K):=by
 subst hK;intro pins s Z H xs us Q I r h;obtain⟨p,S,rfl,x,q⟩:=h;obtain⟨u,rfl,U⟩:=vals1 r;cases (show u=Value.ref p from U);obtain⟨t,g,P,_⟩:=I.list x;have T:p<s.heap.objs.size:=by obtain⟨o,e,_⟩:=P.isList;exact A4 e
 have l:∀(S:List Bool) (t:List Value),Vals (S.map V.bl) t->t=S.map Value.bool:=by
  intro S
  induction S with
  |nil=>intro t h;cases h;rfl
  |cons b r ih=>intro t h;cases h with|cons h1 h2=>cases (show _=Value.bool b from h1);rw[ih _ h2];rfl
 have e:=l S t g;subst e;refine call_all_walk<|wpAny_pyIter_list P.isList ?_;refine(s.heap.objs.size,_,_,_,_,_,λi=>S.getD i false,rfl,Walks.list (prog:=X.prog) (w:=X.w) (A:=X.A.in1) (show X.A.in1.handled=none from I.ok.hd hc) s.heap.objs.size p (BN T) (S.map Value.bool).toArray,((_,Bn _ rfl,rfl,rfl),P.isList.push _),?_,λj m k=>?_)
 ·intro i v s0 Q0 E0 a d
  have a:(S.map Value.bool).toArray[i]?=some v:=a;have a:(S.map Value.bool)[i]?=some v:=by simpa using a
  rw[Ad]at a;cases z:S[i]? with
  |none=>exists 0,z,a
  |some b=>
   rw[z]at a;have a:Value.bool b=v:=by simpa using a
   subst a;have E:S.getD i false=b:=by rw[Av,z];rfl
   have d:Q0 (S.getD i false) s0:=d;rw[E]at d;exact wpAny_truthy_bool d
 ·have e:(AV (S.map Value.bool).toArray.size).all (λi=>S.getD i false)=S.all id:=by
   rw[BR,AJ];rw[Fo,EX,EX];constructor
   ·intro hh b B
    obtain⟨i,c,rfl⟩:=IQ.mp B;have:=hh i<|BB.mpr c;rw[Av,AZ c]at this;exact this
   ·intro hh i c
    rw[BB]at c;rw[Av,AZ c];exact hh _<|B6 c
  rw[e];have f:AH X pins Z H { s with heap:=s.heap.push { cls:=.type "list_iterator",data:=.fields #[.ref p,.int 0 0] },toks:=s.toks }:=I.kept λb o e=>Ap _ e;refine(.bl<|S.all id,H,f.turned (it:=s.heap.objs.size) (λb o B e=>k b o #[12] e) (I.hok.fresh<|AU _) (El I.lt) (.inr I.sz) ?_ ?_,rfl,q)
  ·have:=I.fpOk (b:=s.heap.objs.size) (H':=H) (AU _) (I.hok.fresh<|AU _)
   exact this.2.2.2.2.1
  ·have:=I.fpOk (b:=s.heap.objs.size) (H':=H) (AU _) (I.hok.fresh<|AU _)
   exact this.2.2.2.2.2
def rIsiU (K:W.Frag):List V->Hp->VK->Prop:=λs H Q=>rIsi K s H Q\/∃(x:V) (p:Addr) (ns:List String) (T:String) (b:Bool),s=[x,.ref p]/\H p=some (.tup<|ns.map V.ty)/\TyOf K H x (.type T)/\PySem.W.kitAny K (.type T) (ns.map Value.type)=some b/\Q (.bl b) H
theorem Zp5 (I:AH X pins Z H s) (j:RelV x u) (ty:TyOf X.K H x t) (B:∃T,t=.type T):∃Hh:Heap->Prop,PySem.W.KitX X.K u t Hh/\Hh s.heap/\u≠.builtin "__main__.__loader__#opaque":=by
 cases ty with
 |non=>cases (show u=Value.none from j);exact(_,PySem.W.kitx_none,True.intro,λz=>nomatch z)
 |bl y=>cases (show u=Value.bool y from j);exact(_,PySem.W.kitx_bool,True.intro,λz=>nomatch z)
 |int i=>obtain⟨t,q⟩:=(show ∃t,u=Value.int i t from j);cases q;exact(_,PySem.W.kitx_int,True.intro,λz=>nomatch z)
 |str y=>obtain⟨t,q⟩:=(show ∃t,u=Value.str y t from j);cases q;exact(_,PySem.W.kitx_str,True.intro,λz=>nomatch z)
 |flt y=>obtain⟨t,q⟩:=(show ∃t,u=Value.float y t from j);cases q;exact(_,PySem.W.kitx_float,True.intro,λz=>nomatch z)
 |@lst a S ea=>
  cases (show u=Value.ref a from j);obtain⟨_,_,n,_,h⟩:=(show ObjOk X.prog X.w H s.heap a (.lst S) from I.hok a _ ea);exact(_,PySem.W.kitx_list,(_,h,rfl),λz=>nomatch z)
 |@frz a ob S ea=>
  cases (show u=Value.ref a from j);obtain⟨_,_,_,n,_,h⟩:=(show ObjOk X.prog X.w H s.heap a (.frz ob (.lst S)) from I.hok a _ ea);exact(_,PySem.W.kitx_list,(_,h,rfl),λz=>nomatch z)
 |@tup a S ea=>
  cases (show u=Value.ref a from j);obtain⟨_,_,_,p⟩:=(show ObjOk X.prog X.w H s.heap a (.tup S) from I.hok a _ ea);obtain⟨o,h,⟨b,_⟩,_⟩:=p;exact(_,PySem.W.kitx_tuple,(o,h,b),λz=>nomatch z)
 |@dK a kvs ea=>
  cases (show u=Value.ref a from j);obtain⟨_,_,v,_,p⟩:=(show ObjOk X.prog X.w H s.heap a (.dK kvs) from I.hok a _ ea);obtain⟨o,E,P,h,b,_⟩:=p;exact(_,PySem.W.kitx_dict,(o,h,b.1),λz=>nomatch z)
 |@dT a kvs ea=>
  cases (show u=Value.ref a from j);obtain⟨_,_,S,_,o,E,P,h,b,_⟩:=(show ObjOk X.prog X.w H s.heap a (.dT kvs) from I.hok a _ ea);exact(_,PySem.W.kitx_dict,(o,h,b.1),λz=>nomatch z)
 |@ins a C dx fs ea cl ha hn htk hm=>obtain⟨T,e⟩:=B;cases e
theorem isiUK (K:W.Frag) (B:X.K=K:=by rfl):CallR X (.builtin "isinstance") (rIsiU K):=by
 subst B;refine CallR.or XB ?_;intro pins s Z H xs us Q I r h;obtain⟨x,p,S,T,b,rfl,P,y,e,q⟩:=h;obtain⟨u,U,rfl,i,N⟩:=vals2 r;cases (show U=Value.ref p from N);obtain⟨j,z,g,E⟩:=Zp5 I i y (T,rfl);obtain⟨_,t,R,o,O,⟨c,n,D⟩,d⟩:=I.hok p _ P;have v:∀(S:List String) (t:List Value),Vals (S.map V.ty) t->t=S.map Value.type:=by
  intro S
  induction S with
  |nil=>intro t h;cases h;rfl
  |cons b r ih=>intro t h;cases h with|cons h1 h2=>cases (show _=Value.type b from h1);rw[ih _ h2];rfl
 have f:=v S t R;subst f;obtain⟨l,k,a,L⟩:=o;simp only at c D d;subst c D d;exact PySem.W.kia_tup z I.kIn g O e E λm=>(.bl b,H,I.tok _,rfl,q)
end
#check 4
theorem RB {b:Bool}{G:Hp}{O Y:Addr}{xs ys:List V}{ds es:List D}(h1:∀G1 H1,Same G G1->Same G1 H1->SqB b K H1 O xs) (h2:∀G1 H1,Same G G1->Same G1 H1->SqB b K H1 Y ys) (r1:Reps K G xs ds) (r2:Reps K G ys es) (hl:ds.length=es.length) :
  ItOk K G (L5 b K O Y) ((ds.zip es).map λp=>D.tup [p.1,p.2]):=λG1 H1 s H=>by
 have l:=r1.length;have L:=r2.length;have E:=h1 G1 H1 s H;have f:=h2 G1 H1 s H;refine((xs,ys,E,f,.inl (by rw[AJ,Kd];lia)),λi d h=>?_);rw[Ad]at h;cases q:(ds.zip es)[i]? with
 |none=>exists 0,q,h
 |some pr=>
  rw[q]at h;have h:D.tup [pr.1,pr.2]=d:=#[9]
  subst h;rw[II]at q;obtain⟨u,U,r⟩:=r1.get q.1;obtain⟨v,k,R⟩:=r2.get q.2;refine((xs,ys,u,v,E,f,U,k),λx H2 (p,a,b',hp,ex,eH,hab)=>?_);obtain⟨A,B⟩:=hab xs ys E f;rw[U]at A;rw[k]at B;cases A;cases B;subst ex;subst eH;have j:G1 p=none:=by
   cases z:G1 p with
   |none=>rfl
   |some o=>rw[H _ _ z]at hp;cases hp
  refine(upd G1 p (.tup [u,v]),λc o e=>by rw[Ai (Bq e j)];exact e,λc o e=>by rw[Ai (Bq e hp)];exact e,λc o e=>?_,?_)
  ·by_cases hc:c=p
   ·subst hc;rw[Bd]at e ⊢;exact(e,.inr hp)
   ·rw[Ai hc]at e ⊢;exact(H c o e,.inl e)
  ·have g:Same G1 (upd G1 p (.tup [u,v])):=λc o e=>by rw[Ai (Bq e j)];exact e
   exact .tup Bd (.cons ((r.mono s).mono g) (.cons ((R.mono s).mono g) .nil))
theorem Vf (h:JA K ta J λds J1=>∃as bs,ds=[.lst as,.lst bs]/\as.length=bs.length/\P ((as.zip bs).map λp=>D.tup [p.1,p.2]) J1):JI K (iZip K ta) J P:=λg G H Z R k c=>
 h g G H Z _ k λv ds f i J1 a t m q=>by
  obtain⟨as,bs,e,l,j⟩:=q;subst e;obtain⟨_,_,rfl,n,r⟩:=m.inv
  next=>
   obtain⟨_,_,rfl,o,r⟩:=r.inv
   next=>
    cases r.inv;obtain⟨_,_,rfl,A,s⟩:=n.inv
    next=>
     obtain⟨_,_,rfl,B,b⟩:=o.inv
     next=>
      exact(false,_,_,rfl,(_,SqL.of<|a.live _ _ A),(_,SqL.of<|a.live _ _ B),c _ _ f i J1 a t (RB (λ_ _ S d=>SqL.of<|d _ _<|S _ _ A) (λ_ _ S d=>SqL.of<|d _ _<|S _ _ B) s b l) j)
theorem Zzt (h:JA K ta J λds J1=>∃as bs,ds=[.tup as,.tup bs]/\as.length=bs.length/\P ((as.zip bs).map λp=>D.tup [p.1,p.2]) J1):JI K (iZip K ta) J P:=λg G H Z R k c=>
 h g G H Z _ k λv ds f i J1 a t m q=>by
  obtain⟨as,bs,e,l,j⟩:=q;subst e;obtain⟨_,_,rfl,n,r⟩:=m.inv
  next=>
   obtain⟨_,_,rfl,o,r⟩:=r.inv
   next=>
    cases r.inv;obtain⟨_,_,rfl,A,s⟩:=n.inv
    next=>
     obtain⟨_,_,rfl,B,b⟩:=o.inv
     next=>
      exact(true,_,_,rfl,(_,SqT.of<|a.live _ _ A),(_,SqT.of<|a.live _ _ B),c _ _ f i J1 a t (RB (λ_ _ S d=>SqT.of<|d _ _<|S _ _ A) (λ_ _ S d=>SqT.of<|d _ _<|S _ _ B) s b l) j)
theorem Tr {B:List Bool}(p:P (.bl<|B.all id) J):JC K (rAll K) [.lst (B.map D.bl)] J P:=λg G H Z Q v k S c=>by
 obtain⟨_,_,rfl,r,t⟩:=S.inv
 next=>
  cases t.inv;obtain⟨a,s,rfl,A,S⟩:=r.inv
  next=>
   have e:∀(B:List Bool) (s:List V),Reps K G s (B.map D.bl)->s=B.map V.bl:=by
    intro B
    induction B with
    |nil=>intro s h;cases h;rfl
    |cons b r ih=>intro s h;cases h with|cons h1 h2=>cases h1;rw[ih _ h2];rfl
   have:=e B s S;subst this;exact(_,B,rfl,SqL.of<|k.live _ _ A,c _ _ G H J k (Same.refl _) (.bl _) p)
theorem Ez (j:tyD d=some T) (e:∀K,PySem.W.kitOne K (.type T) (.type n)=some b) (p:P (.bl b) J):JC K (rIsiU K) [d,.ty n] J P:=λg G H Z Q v k s c=>.inl<|VU j e p g G H Z Q v k s c
theorem Jj {ns:List String}(j:tyD d=some T) (e:∀K,PySem.W.kitAny K (.type T) (ns.map Value.type)=some b) (p:P (.bl b) J):JC K (rIsiU K) [d,.tup (ns.map D.ty)] J P:=λg G H Z Q v k s c=>by
 obtain⟨_,_,rfl,r,t⟩:=s.inv
 next=>
  obtain⟨_,_,rfl,R,t⟩:=t.inv
  next=>
   cases t.inv;obtain⟨a,w,rfl,A,s⟩:=R.inv
   next=>
    have E:∀(ns:List String) (w:List V),Reps K G w (ns.map D.ty)->w=ns.map V.ty:=by
     intro ns
     induction ns with
     |nil=>intro w h;cases h;rfl
     |cons b r ih=>intro w h;cases h with|cons h1 h2=>cases h1;rw[ih _ h2];rfl
    have:=E ns w s;subst this;refine .inr (_,a,ns,T,b,rfl,k.live _ _ A,?_,e K,c _ _ G H J k (Same.refl _) (.bl b) p);cases r with
    |non=>cases j;exact .non
    |bl b=>cases j;exact .bl b
    |int i=>cases j;exact .int i
    |str x=>cases j;exact .str x
    |ty n=>cases j
    |scr A s=>cases j
    |adr a=>cases j
    |dct A hl s=>cases j;exact .dK (k.live _ _ A)
    |exc A=>cases j
    |excR A hb=>cases j
    |lst A s=>cases j;exact .lst (k.live _ _ A)
    |tup A s=>cases j;exact .tup (k.live _ _ A)
theorem Ok.growBut {g:Gm}{G H G' H':Hp}{Z:St}{a:Addr}(k:Ok K g G H Z J) (hG:G a=none) (hz:g.Hz a=none) (hx:g.Xo a=none) (hs:∀(i:Nat) x od,J[i]?=some x->x.od=some od -> Z[i]?≠some (some (.ref a))) (hn:H' a≠none)
  (sg:Same G G') (sh:∀b o,b≠a->H b=some o->H' b=some o) (hg:∀b o,G' b=some o->H' b=some o/\(G b=some o\/H b=none)):Ok K g G' H' Z J where
 same:=λb o B e=>sh b o (by intro z;subst z;exists 0,hz,e)<|k.same b o B e
 lent:=λb B z=>by
  by_cases hba:b=a
  ·subst hba;exact hn z
  ·cases e:H b with
   |none=>exact k.lent b B e
   |some o=>rw[sh b o hba e]at z;cases z
 sub:=k.sub.trans sg
 frz:=λb o e=>by
  obtain⟨h,f⟩:=hg b o e;refine(h,?_);rcases f with z|z
  ·exact(k.frz b o z).2
  ·exact .inl<|k.there z
 ext:=λb o e=>by
  obtain⟨h,f,j⟩:=k.ext b o e;refine(sh b o (by intro z;subst z;exists 0,hx,e) h,?_,j);cases q:G' b with
  |none=>rfl
  |some o'=>
   rcases(hg b o' q).2 with z|z
   ·exists 0,f,z
   ·exists 0,h,z
 len:=k.len
 val:=λi d e=>by
  obtain⟨v,h,f⟩:=k.val i d e;exact(v,h,f.mono sg)
 own:=λi x od E l=>by
  obtain⟨c,o,h,f,j,m,n⟩:=k.own i x od E l;refine(c,o,h,sh c o (by intro z;subst z;exact hs i x od E l h) f,j.mono sg,?_,n);cases q:G' c with
  |none=>rfl
  |some o'=>
   rcases(hg c o' q).2 with z|z
   ·exists 0,m,z
   ·exists 0,f,z
 dis:=k.dis
theorem Zwj (h:JO K t0 J λod J1=>∃ps,od=.lst ps/\JA K ta J1 λds J2=>f ps ds λd _=>P d J2):JE K (tCall (spB K f) [] E<|tCons t0 ta) J P:=λg G H Z Q k c=>
 h g G H Z _ k λa od m u J1 j s1 D q=>by
  obtain⟨ps,e,A⟩:=q;subst e;obtain⟨o,L,p,M,O,x,R⟩:=D;cases o with
  |lst us=>
   have p:Reps K m us ps:=p;have n:Ok K { g with Xo:=λb=>if b=a then some (.lst us) else g.Xo b } m u Z J1:=⟨j.same,j.lent,j.sub,j.frz,λb o e=>by
    by_cases B:b=a
    ·subst B
     have e:(if b=b then some (HO.lst us) else g.Xo b)=some o:=e;rw[AN rfl]at e;cases e;exact(L,M,R)
    ·have e:(if b=a then some (HO.lst us) else g.Xo b)=some o:=e
     rw[AK B]at e;exact j.ext b o e,j.len,j.val,j.own,j.dis⟩
   refine A _ m u Z _ n λV ds t v J2 i S X I=>?_;obtain⟨U,s,W⟩:=i.ext a (.lst us) (by show (if a=a then some (HO.lst us) else g.Xo a)=_;rw[AN rfl]);have l:Ok K g t v Z J2:=(i.same,i.lent,i.sub,i.frz,λb o e=>by
    have B:b≠a:=by intro z;subst z;exists 0,x,e
    exact i.ext b o (by show (if b=a then some (HO.lst us) else g.Xo b)=_;rw[AK B];exact e),i.len,i.val,i.own,i.dis)
   show spB K f ((.ref a::V)++[]) v Q E;rw[Bj];refine(t,a,us,V,ps,ds,_,rfl,l.live,s,U,p.mono S,X,I,λr H' a0 T d C N rr Y D=>?_);have y:=JL (H':=H') l.live;refine c r d _ H' J2 (l.growBut s O x W (by rw[N];intro z;cases z) y C ?_) (s1.trans<|S.trans y) Y D;exact Jf l.live λb o w F=>C b o (by intro z;subst z;exists 0,s,w) F
  |_=>exact absurd p (λz=>z)
end
#check 5
theorem Zzf {i:Nat}(ge:IsEnum s.heap e j i old) (g:ItB b s.heap j a i) (l:HsB b s.heap a ws) (ex:ws[i]?=some x) (ne:e≠j)
  (q:∀h',IsEnumOut h' e j ((i:Int)+1) x s.heap.objs.size->ItB b h' j a (i+1)->h'.get? s.heap.objs.size=some { cls:=.type "tuple",data:=.seq #[.int i s.toks,x] } ->
   (∀c o,c≠e->c≠j->s.heap.get? c=some o->h'.get? c=some o)->Q (some (.ref s.heap.objs.size)) { s with heap:=h',toks:=s.toks+1 }):wpAny (model prog w) A (pyNext (.ref e)) Q E s:=by
 cases b
 ·exact wpAny_pyNext_enum_item ge g l ex ne λh' B h m _ r=>q h' B h m r
 obtain⟨p,G,d,k,S⟩:=s;have y:Shared.TypeIs (p,G,d,k,S) (.ref e) "enumerate":=(_,ge,rfl);unfold pyNext;refine AB<|FC<|wpAny_callSpecial?_slot (name:=Str.ofString "__next__") y F.slot_enumerate_next<|wpAny_call_entry F.slot_enumerate_next y F.entry_enumerate_next ?_<|F.args_enumerate_next_1 _;refine(show wpAny _ _ (field (.ref e) 2 >>= _) _ _ _ from AB (wpAny_field ge rfl (x:=.ref j) rfl<|AB (Lb (b:=true) g l ex λh₁ g₁ s₁=>?_)))
 replace s₁:Heap.SameBut j p h₁:=s₁
 have e₁:IsEnum h₁ e j i old:=(s₁.2 e ne).trans ge;refine(show wpAny _ _ (field (.ref e) 3 >>= _) _ _ (h₁,G,d,k,S) from AB (wpAny_field e₁ rfl (x:=rawInt i) rfl ?_));refine(show wpAny _ _ (field (.ref e) 4 >>= _) _ _ (h₁,G,d,k,S) from AB (wpAny_field e₁ rfl (x:=.none) rfl ?_));refine(show wpAny _ _ (mkInt i >>= _) _ _ (h₁,G,d,k,S) from AB (wpAny_mkInt ?_));refine(show wpAny _ _ (setField (.ref e) 3 (rawInt ((i:Int)+1)) >>= _) _ _ (h₁,G,d,k+1,S) from AB (wpAny_setField_rec e₁ #[3] λh₂ e₂ s₂=>?_))
 replace s₂:Heap.SameBut e h₁ h₂:=s₂
 replace e₂:IsEnum h₂ e j ((i:Int)+1) old:=e₂
 refine(show wpAny _ _ (setField (.ref e) 4 .none >>= _) _ _ (h₂,G,d,k+1,S) from AB (wpAny_setField_rec e₂ #[3] λh₃ e₃ s₃=>?_))
 replace s₃:Heap.SameBut e h₂ h₃:=s₃
 replace e₃:IsEnum h₃ e j ((i:Int)+1) old:=e₃
 refine(show wpAny _ _ (newTuple [.int i k,x] >>= _) _ _ (h₃,G,d,k+1,S) from AB (wpAny_newTuple ?_));have e₄:IsEnum (h₃.push { cls:=.type "tuple",data:=.seq #[.int i k,x] }) e j ((i:Int)+1) old:=Ap _ e₃;generalize eh₄:h₃.push { cls:=.type "tuple",data:=.seq #[.int i k,x] } = h₄ at e₄;have n:h₃.objs.size=p.objs.size:=by rw[s₃.1,s₂.1,s₁.1]
 have L:e<p.objs.size:=A4 ge;have t₄:h₄.get? p.objs.size=some { cls:=.type "tuple",data:=.seq #[.int i k,x] }:=by rw[<- eh₄,<- n];exact Bn _ rfl
 have k₄:∀c o,c≠e->c≠j->p.get? c=some o->h₄.get? c=some o:=λc o C f z=>by rw[<- eh₄];exact Ap _<|s₃.extBut c o C<|s₂.extBut c o C<|s₁.extBut c o f z
 have g₄:ItB true h₄ j a (i+1):=by rw[<- eh₄];exact((g₁.off s₂.extBut<|Ne.symm ne).off s₃.extBut (Ne.symm ne)).at λo z=>Ap _ z
 refine(show wpAny _ _ (Builtin.SmallTypes.ownedTupleIsFree (.ref e) >>= _) _ _ (h₄,G,d,k+1,S) from ?_);rw[n];clear eh₄ e₃ s₃ e₂ s₂ e₁ s₁ g₁ n h₃ h₂ h₁;refine AB ?_;unfold Builtin.SmallTypes.ownedTupleIsFree;refine AB<|wpAny_field e₄ rfl (x:=.none) rfl<|AL ?_;simp only[if_true];refine AB<|Eh<|AB<|wpAny_field e₄ rfl (x:=old) rfl<|AB (wpAny_setField_rec e₄ #[3] λh₅ e₅ s₅=>?_)
 replace s₅:Heap.SameBut e h₄ h₅:=s₅
 replace e₅:IsEnum h₅ e j ((i:Int)+1) x:=e₅
 refine(show wpAny _ _ (Builtin.SmallTypes.ownedTupleHandOut (.ref e) (.ref p.objs.size) >>= _) _ _ (h₅,G,d,k+1,S) from AB ?_);unfold Builtin.SmallTypes.ownedTupleHandOut;refine AB (wpAny_setField_rec e₅ #[3] λh₆ e₆ s₆=>?_)
 replace s₆:Heap.SameBut e h₅ h₆:=s₆
 replace e₆:IsEnumOut h₆ e j ((i:Int)+1) x p.objs.size:=e₆
 refine wpAny_setField_rec e₆ #[3] λh₇ e₇ s₇=>?_
 replace s₇:Heap.SameBut e h₆ h₇:=s₇
 replace e₇:IsEnumOut h₇ e j ((i:Int)+1) x p.objs.size:=e₇
 have u:∀c o,c≠e->h₄.get? c=some o->h₇.get? c=some o:=λc o C z=>s₇.extBut c o C<|s₆.extBut c o C<|s₅.extBut c o C z;exact AB<|wpAny_letGo<|AL (_,rfl,AL (q h₇ e₇ (g₄.at λo z=>u j o (Ne.symm ne) z) (u _ _ (El L) t₄) λc o C f z=>u c o C<|k₄ c o C f z))
theorem U8 {i:Nat}(hh:A.handled=none) (ge:IsEnum s.heap e j i old) (g:ItB b s.heap j a i) (l:HsB b s.heap a ws) (ex:ws[i]?=none)
  (q:∀h',Heap.ExtBut j s.heap h' -> Q none { s with heap:=h' }):wpAny (model prog w) A (pyNext (.ref e)) Q E s:=by
 have y:s.TypeIs (.ref e) "enumerate":=(_,ge,rfl);unfold pyNext;refine AB<|FC<|wpAny_callSpecial?_slot (name:=Str.ofString "__next__") y F.slot_enumerate_next<|wpAny_call_entry F.slot_enumerate_next y F.entry_enumerate_next ?_<|F.args_enumerate_next_1 _;refine(show wpAny _ _ (field (.ref e) 2 >>= _) _ _ _ from AB (wpAny_field ge rfl (x:=.ref j) rfl<|AB (Ob hh g l ex λh' x e' (o,ho,hc)=>?_)));exact AB<|wpAny_isInstance (T:="StopIteration") (b:=true) (o,ho,hc) isSubtype_stop<|AL<|q _ e'
theorem Zxc (a:Addr) (ws:Array Value) (n:Nat) (dct:Option Addr) (sl:Array (Option Value)) :
  Meets (Builtin.«enumerate.__new__» ([.type "enumerate",.ref a],[])) (λ_ R s=>s.heap.get? a=some (.type "tuple",dct,.seq ws n,sl) /\
   R (.ok (.ret (.ref (zt1 s.heap a).objs.size))) { s with heap:=(zt1 s.heap a).push (.type "enumerate",none,.fields #[.none,.bool false,.ref s.heap.objs.size,rawInt 0,.none,.none],#[]) }):=.of_wp λo w A R s h=>by
 obtain⟨p,g,d,k,S⟩:=s;obtain⟨l,h⟩:=h;have b:=sub_enumerate;have t:Heap.IsTuple (Shared.heap (p,g,d,k,S)) a ws:=(_,l,rfl,n,rfl)
 wp_walk using AutoSeq1.wpAny_loadPart' l
 refine wpAny_stack_any λT=>AL ?_;split
 ·rename_i c _ _ _ _ _
  cases (c == Value.type "enumerate") <;> (wp_walk using AutoSeq1.wpAny_loadPart' l,wpAny_pyIter_tuple t;exact(_,rfl,h))
 ·wp_walk using AutoSeq1.wpAny_loadPart' l,wpAny_pyIter_tuple t
  exact(_,rfl,h)
theorem Zyp (l:HsB b s.heap a ws)
  (q:∀h',IsEnum h' (s.heap.objs.size+1) s.heap.objs.size 0 .none->ItB b h' s.heap.objs.size a 0->(∀c o,s.heap.get? c=some o->h'.get? c=some o)->Q (.ref<|s.heap.objs.size+1) { s with heap:=h' }):wpAny (model prog w) A (call (.type "enumerate") [.ref a]) Q E s:=by
 cases b
 ·exact call_enumerate_list l λh' B f _ g=>q h' B f g
 ·obtain⟨⟨C,D,O,S⟩,L,h,n,d⟩:=l
  dsimp only at h d;subst h d;refine callType_new F.called_enumerate #[0] (F.typeCall_enumerate_1 _) (F.newCall_enumerate_1 _) (λj=>F.args_object_init_2 j _) F.entry_enumerate_new (Zxc a ws n D S) (L,?_);have Z:(zt1 s.heap a).objs.size=s.heap.objs.size+1:=Ep ..;show _/\_;rw[Z];have e:IsEnum ((zt1 s.heap a).push (.type "enumerate",none,.fields #[.none,.bool false,.ref s.heap.objs.size,rawInt 0,.none,.none],#[])) (s.heap.objs.size+1) s.heap.objs.size 0 .none:=by
   rw[<- Z];exact Bn _ rfl
  exact((_,e,rfl),q _ e (_,Ap _<|Bn _ rfl,rfl,rfl) λc o z=>Ap _<|Ap _ z)
end
def L4 (b:Bool) (K:W.Frag) (l:Addr):It:=
 (λi H=>∃xs x,SqB b K H l xs/\xs[i]?=some x,
  λi H v h=>∃p x,H p=none/\v=.ref p/\h=upd H p (.tup [.int (i:Int),x])/\∀xs,SqB b K H l xs->xs[i]?=some x,
  λi H=>∃xs,SqB b K H l xs/\xs.length<=i)
theorem Zy7 {b:Bool}{P:Program}{w:World}{K:W.Frag}{es:List Expr}{kk:Nat}{tp:Pos}(l z j:Addr) (D:z≠j):Turn P w K (.Tuple es kk tp) (L4 b K l) [z,j] z
  (λi h=>(∃old,IsEnum h z j i old)/\ItB b h j l i) where
 mem:=#[3]
 obj:=λi h T b2 hb=>by
  obtain⟨⟨old,m⟩,u⟩:=T;obtain⟨o1,G,d1⟩:=u.obj;simp only[A5,DF,or_false]at hb;rcases hb with rfl|rfl
  ·exact(_,m,λv q=>by cases q)
  ·exact(o1,G,λv q=>by exists 0,d1,q)
 keep:=λi h F T k=>by
  obtain⟨⟨old,m⟩,u⟩:=T;exact((old,k z #[3] _ m),u.at λo e=>k j #[3] o e)
 item:=by
  intro X hP hw hK C i pins s Z H E I hf T hg;subst hP hw hK;obtain⟨⟨old,m⟩,u⟩:=T;obtain⟨xs,x,Q,a⟩:=hg;obtain⟨B,r1,p1⟩:=I.seqB Q;obtain⟨u1,a0,a1⟩:=r1.get a;refine Zzf m u p1 (x:=u1) (by simpa using a0) D λF b1 b2 b3 V=>?_;refine(_,rfl,wpAny_letOwnedTupleGo_enum (s:={ s with heap:=F,toks:=s.toks+1 }) b1 λp A S=>?_);have lt:∀{c o},s.heap.get? c=some o->c≠s.heap.objs.size:=λe=>BN<|A4 e;have O:s.heap.objs.size≠z:=Ne.symm<|lt m;have r:H s.heap.objs.size=none:=I.hok.fresh<|AU _;have t:∀c o,c ∉ [z,j]->s.heap.get? c=some o->p.get? c=some o:=λc o C e=>by
   simp only[A5,DF,or_false,not_or]at C;exact S.extBut _ _ C.1<|V c o C.1 C.2 e
  have hT:p.get? s.heap.objs.size=some { cls:=.type "tuple",data:=.seq #[.int i s.toks,u1] }:=S.extBut _ _ O b3;have R:∀c o,H c=some o->c ∉ [z,j]:=λc o e C=>by rw[(hf c C).1]at e;cases e
  have Y:HOk X.prog X.w (upd H s.heap.objs.size (.tup [.int (i:Int),x])) p:=λc o e=>by
   by_cases hcT:c=s.heap.objs.size
   ·subst hcT
    exists 0,Bd,e;exact(by show 2<=sizeLine;decide,[.int i s.toks,u1],.cons (_,rfl) (.cons a1 .nil),_,hT,(rfl,_,rfl),rfl)
   ·rw[Ai hcT]at e
    refine(I.hok c o e).stay (λd v g q=>t d v ?_ q) (λd q=>by rw[Ai (Bq q r)];exact q) λd y q=>by rw[Ai (Bq q r)];exact q
    rcases g with g|g
    ·rw[g];exact R c o e
    ·exact R d _ g
  have I2:AH X pins Z (upd H s.heap.objs.size (.tup [.int (i:Int),x])) { s with heap:=p,toks:=s.toks+1 }:=by
   refine I.call (g':=s.gens) (t':=s.toks+1) (d':=s.drawn) (ch:=[z,j]) (λc o e n C a=>t c o a e,λc o e n C a=>(o.slots,t c o a e),λc o e n a=>by rw[Ai (lt e)];exact n,λc o e a=>(o,t c o a e),
    λc y q=>by rw[Ai (Bq q r)];exact q,λc o y q=>by rw[Ai (Bq q r)];exact q,λc y q=>(#[],by rw[Ai (Bq q r),q];simp)) Y I.bare λc f=>?_
   obtain⟨f0,J,f2,L,M,N⟩:=hf c f;exact(L,J,M,N)
  refine(.ref s.heap.objs.size,_,I2,rfl,(s.heap.objs.size,x,r,rfl,rfl,λa4 q1=>?_),((_,by have:=A;push_cast at this ⊢;exact this),b2.off S.extBut<|Ne.symm D),λc f=>?_)
  ·rw[I.seqB_inj q1 Q];exact a
  ·have U:c≠s.heap.objs.size:=by
    simp only[A5,DF,or_false]at f;obtain⟨_,G,_⟩:=u.obj;rcases f with rfl|rfl
    ·exact lt m
    ·exact lt G
   rw[Ai U];exact(hf c f).1
 done:=by
  intro X hP hw hK C i pins s Z H E I hf T hg;subst hP hw hK;obtain⟨⟨old,m⟩,u⟩:=T;obtain⟨xs,Q,a2⟩:=hg;obtain⟨B,r1,p1⟩:=I.seqB Q;have a3:=r1.length;refine U8 (I.ok.hd C) m u p1 (by simp;omega) λF V=>(rfl,?_);have t:∀c o,c ∉ [z,j]->s.heap.get? c=some o->F.get? c=some o:=λc o C e=>by
   simp only[A5,DF,or_false,not_or]at C;exact V c o C.2 e
  have R:∀c o,H c=some o->c ∉ [z,j]:=λc o e C=>by rw[(hf c C).1]at e;cases e
  refine I.call (g':=s.gens) (t':=s.toks) (d':=s.drawn) (ch:=[z,j]) (λc o e n C a=>t c o a e,λc o e n C a=>(o.slots,t c o a e),λc o e n a=>n,λc o e a=>(o,t c o a e),
   λc y q=>q,λc o y q=>q,λc y q=>(#[],by rw[q];simp)) (λc o e=>?_) I.bare λc f=>?_
  ·refine(I.hok c o e).stay (λd v g q=>t d v ?_ q) (λd q=>q) λd y q=>q
   rcases g with g|g
   ·rw[g];exact R c o e
   ·exact R d _ g
  ·obtain⟨f0,J,f2,L,M,N⟩:=hf c f
   exact(L,J,M,N)
 self:=λ_ _ _ _ _ T h=>by
  obtain⟨⟨old,m⟩,_⟩:=T;exact wpAny_pyIter_enum m h
theorem Wq:bootBuiltins "enumerate" = some (.type "enumerate"):=by kernel_rfl
#check 0
def iEnum (K:W.Frag) (ta:TA):TI:=λZ H R=>ta Z H λs h=>∃b l,s=[.ref l]/\(∃xs,SqB b K h l xs)/\R (L4 b K l) h
theorem O9 (K:W.Frag) {es:List Expr}{kk:Nat}{tp:Pos}{a:Expr}{ta:TA}{p pos:Pos}(hg:Gl X "enumerate") (hm:X.mg "enumerate" = none) (ha:PA X [a] ta) (hs:starEach [a] X.env=[(false,eval a X.env)]:=by rfl) (hs2:starEach [] X.env=[]:=by rfl) (hK:X.K=K:=by rfl) :
  PI X (.Tuple es kk tp) (.Call (.Name "enumerate" p) [a] [] pos) (iEnum K ta):=by
 subst hK;intro pins s Z H R I h;refine Call_<|EJ I hg hm (Wq)<|PyProof.Rows.callWith_type1 (thn (ha pos pins s Z H _ I h) λus s1 (vs,H1,I1,r1,Q)=>?_) (by rw[hs,hs2]) (by rw[hs2];rfl);obtain⟨b,l,e,⟨S,x⟩,q⟩:=Q;subst e;obtain⟨u,rfl,Q⟩:=vals1 r1;cases (show u=Value.ref l from Q);obtain⟨t,w,P⟩:=I1.seqB x;refine Zyp P λf B d k=>?_;refine wpAny_pyIter_enum B ?_;have i:AH X pins Z H1 { s1 with heap:=f }:=I1.kept (t':=s1.toks) k;refine(s1.heap.objs.size+1,[s1.heap.objs.size+1,s1.heap.objs.size],_,_,H1,rfl,i,Zy7 l _ _<|Nat.succ_ne_self _,((_,B),d),λb c=>?_,q);have g:s1.heap.objs.size<=b:=by
  simp only[A5,DF,or_false]at c;rcases c with rfl|rfl <;> omega
 exact I1.fpOk g<|I1.hok.fresh g
end
#check 4
def enD (ds:List D):List D:=ds.zipIdx.map λp=>D.tup [.int (p.2:Int),p.1]
theorem N6 (ds:List D):(enD ds).length=ds.length:=by unfold enD;rw[AJ,List.length_zipIdx]
theorem N7 {i:Nat}(h:(enD ds)[i]?=some e):∃d,ds[i]?=some d/\e=.tup [.int (i:Int),d]:=by
 unfold enD at h;rw[Ad,List.getElem?_zipIdx]at h;cases q:ds[i]? with
 |none=>exists 0,q,h
 |some d=>rw[q]at h;refine(d,rfl,?_);simpa using h.symm
theorem P7 (h1:∀G1 H1,Same G G1->Same G1 H1->SqB b K H1 l1 xs) (j:Reps K G xs ds):ItOk K G (L4 b K l1) (enD ds):=λG1 H1 s h=>by
 have l:=j.length;have E:=h1 G1 H1 s h;refine((xs,E,by rw[N6];lia),λi d D=>?_);obtain⟨f,q,rfl⟩:=N7 D;obtain⟨u,U,r⟩:=j.get q;refine((xs,u,E,U),λx H2 (p,a,hp,ex,eH,hab)=>?_);have A:=hab xs E;exists 0,U,A;subst ex;subst eH;have H:G1 p=none:=by
  cases z:G1 p with
  |none=>rfl
  |some o=>rw[h _ _ z]at hp;cases hp
 refine(upd G1 p (.tup [.int (i:Int),u]),λc o e=>by rw[Ai (Bq e H)];exact e,λc o e=>by rw[Ai (Bq e hp)];exact e,λc o e=>?_,?_)
 ·by_cases hc:c=p
  ·subst hc;rw[Bd]at e ⊢;exact(e,.inr hp)
  ·rw[Ai hc]at e ⊢;exact(h c o e,.inl e)
 ·have g:Same G1 (upd G1 p (.tup [.int (i:Int),u])):=λc o e=>by rw[Ai (Bq e H)];exact e
  exact .tup Bd (.cons (.int _) (.cons ((r.mono s).mono g) .nil))
theorem S1 (h:JA K ta J λds J1=>∃as,(ds=[.lst as]\/ds=[.tup as])/\P (enD as) J1):JI K (iEnum K ta) J P:=λg G H Z R k c=>
 h g G H Z _ k λv ds f i J1 b l j q=>by
  obtain⟨as,e,p⟩:=q;rcases e with e|e
  ·subst e
   obtain⟨_,_,rfl,r,d⟩:=j.inv
   next=>
    cases d.inv;obtain⟨_,_,rfl,A,a⟩:=r.inv
    next=>exact(false,_,rfl,(_,SqL.of<|b.live _ _ A),c _ _ f i J1 b l (P7 (λ_ _ s S=>SqL.of<|S _ _<|s _ _ A) a) p)
  ·subst e
   obtain⟨_,_,rfl,r,d⟩:=j.inv
   next=>
    cases d.inv;obtain⟨_,_,rfl,A,a⟩:=r.inv
    next=>exact(true,_,rfl,(_,SqT.of<|b.live _ _ A),c _ _ f i J1 b l (P7 (λ_ _ s S=>SqT.of<|S _ _<|s _ _ A) a) p)
end
#check 3
theorem Zrx:∀n:Nat,n<200->minRun' n n 0<=n:=#[1]
#check 5
theorem Zy3 {st:SortSt}{j a:Nat}{Q:AscSt->SortSt->Prop}(z:∀i,1<=i->i<j->∀Q:Option Bool->SortSt->Prop,Q (some false) st->wpS (model prog w) A E s (ltAt' i<|i-1) Q st) (B:1<=a) (q:a<=j) (h:Q (none,j) st) :
  wpS (model prog w) A E s (ascLoop a j) Q st:=by
 unfold ascLoop;refine wpS_forRange (I:=λx c t=>t=st/\c=(none,x)) ?step ?fin (rfl,rfl)
 case fin=>
  rintro c t ⟨rfl,rfl⟩;rw[show max a j=j by lia];exact h
 case step=>
  rintro x c t X n ⟨rfl,rfl⟩;dsimp only;refine wpS_bind<|z x #[2] n _ ?_;simp only[Bu,if_false];exact wpS_pure (rfl,rfl)
theorem Zv7 {st:SortSt}(hs:(arrOf st).size=n) (q:pendingOf st = #[]) (h2:2<=n) (z:n<200) (j:∀i,1<=i->i<n->∀Q:Option Bool->SortSt->Prop,Q (some false) st->wpS (model prog w) A E s (ltAt' i<|i-1) Q st)
  (h:∀st',arrOf st'=arrOf st->failedOf st'=failedOf st->Q () st'):wpS (model prog w) A E s sortRuns' Q st:=by
 have r:=Zrx n z;rw[sortRuns'_eq];refine wpS_bind (wpS_get ?_);dsimp only;simp only[hs];refine wpS_bind (wpS_mono (wpS_forRange
  (I:=λx c st'=>(x=0/\c=(none,0)/\st'=st)\/(1<=x/\c=(none,n)/\st'=setPending st #[(0,n,0)]))
  (Q:=λc st'=>c=(none,n)/\st'=setPending st #[(0,n,0)]) ?step ?fin (.inl (rfl,rfl,rfl))) ?post)
 case fin=>
  rintro c st' (⟨X,_,_⟩|⟨_,j,D⟩)
  ·lia
  ·exact(j,D)
 case step=>
  rintro x c st' _ X (⟨rfl,rfl,rfl⟩|⟨a,rfl,rfl⟩)
  ·dsimp only
   rw[AK #[2]];simp only[Ic,HD];rw[countRun0_eq];refine wpS_bind<|wpS_bind<|Zy3 j (AU 1) #[2] ?_;dsimp only;rw[AN #[3]];refine wpS_pure ?_;dsimp only;rw[AK #[2]];refine wpS_bind<|wpS_get ?_;rw[q];refine wpS_bind<|wpS_modify<|wpS_pure (.inr (#[2],rfl,?_));rw[q];rfl
  ·dsimp only
   rw[AN (AU _)];exact wpS_pure (rfl,rfl)
 case post=>
  rintro c st' ⟨rfl,rfl⟩;dsimp only;refine wpS_bind<|wpS_mono (wpS_forRange (I:=λ_ c t=>t=setPending st #[(0,n,0)]/\c=(none,())) (Q:=λc t=>t=setPending st #[(0,n,0)]/\c=(none,())) ?_ (λ_ _ H=>H) (rfl,rfl)) ?_
  ·rintro x c t _ _ ⟨rfl,rfl⟩
   refine wpS_bind<|wpS_get ?_;rw[AN (show (pendingOf<|setPending st #[(0,n,0)]).size<=1 from AU 1)];exact wpS_pure (rfl,rfl)
  ·rintro c t ⟨rfl,rfl⟩
   exact wpS_pure<|h _ rfl rfl
def KeepBut (a:Addr) (h h':Heap):Prop:=∀b o,b≠a->h.get? b=some o->h'.get? b=some o
theorem Wa (ho:s.heap.get? a=some (seqObj "list" vs.toArray n)) (hz:vs.length<200)
  (hk:2<=vs.length->∀h',KeepBut a s.heap h' -> ∀Q:SortKind->Shared->Prop,Q κ { s with heap:=h' } -> wpAny (model prog w) A (keyKind' vs.toArray) Q E { s with heap:=h' })
  (hc:∀h',KeepBut a s.heap h' -> ∀i,1<=i->i<vs.length->∀(E:Au) (Q:Bool->Shared->Prop),Q false { s with heap:=h' } -> wpAny (model prog w) A (keyLt' κ (vs.getD i .none)<|vs.getD (i-1) .none) Q E { s with heap:=h' })
  (h:P (.done (.ret .none)) { s with heap:=sortedHeap s.heap a vs vs.toArray }):wpAny (model prog w) A (Builtin.«list.sort» ([.ref a],[])) P E s:=by
 rw[list_sort_plain];have ha:a<s.heap.objs.size:=A4 ho;have hsz:vs.toArray.size=vs.length:=#[3]
 have hline:vs.length<=sizeLine:=by rw[sizeLine_eq];lia
 refine AB<|listItems_at ho rfl ?_;refine AB<|listUpdate_at ho rfl ?_ (by rw[hsz];exact hline)<|Bp _;obtain⟨e1,ho1⟩:∃e1,(s.heap.update a (Obj.mapSeq λ_=>#[])).get? a=some (seqObj "list" #[] e1):=(_,get?_update_seq ho λ_=>#[]);refine AB<|seqEpoch_at ho1 rfl ?_;refine AB<|wpAny_newTuple ?_ hline;refine AB<|wpAny_newList ?_<|Bp _;refine CO ?_;have ho6:(((s.heap.update a (Obj.mapSeq λ_=>#[])).push (seqObj "tuple" vs.toArray 0)).push (seqObj "list" #[] 0)).get? a=some (seqObj "list" #[] e1):=by
  rw[KZ _ _ _ (by rw[size_push',MT];exact BN<|Dp ha),KZ _ _ _ (by rw[MT];exact BN ha)];exact ho1
 have keep:KeepBut a s.heap (((s.heap.update a (Obj.mapSeq λ_=>#[])).push (seqObj "tuple" vs.toArray 0)).push (seqObj "list" #[] 0)):=λb o hb q=>
  Ap _ (Ap _ ((Heap.get?_update_ne _ _ _ _ hb).trans q))
 show wpAny (model prog w) A _ P E { s with heap:=((s.heap.update a (Obj.mapSeq λ_=>#[])).push (seqObj "tuple" vs.toArray 0)).push (seqObj "list" #[] 0) };dsimp only;have out:((vs.toArray.zip vs.toArray).map (·.2))=vs.toArray:=by
  apply Array.toList_inj.mp;rw[Array.toList_map,Array.toList_zip];exact List.map_snd_zip<|AU _
 by_cases h2:vs.toArray.size<2
 ·rw[AN h2,AN h2]
  refine AB<|AL ?_;rw[StateT.run_pure];refine AB<|AL ?_;dsimp only;refine AB<|seqEpoch_at ho6 rfl ?_;rw[show arrOf (SortSt.mk' general' (vs.toArray.zip vs.toArray) #[] 7 none)=vs.toArray.zip vs.toArray from rfl,out];refine AB<|listUpdate_at ho6 rfl ?_ (Bp _) (by rw[hsz];exact IW hline);simp only[bne_self_eq_false,Bu,if_false];exact AL h
 ·rw[AK h2,AK h2]
  refine AB<|hk #[2] _ keep _ ?_;refine AB (D2 (Zv7 (n:=vs.length) (st:=SortSt.mk' κ (vs.toArray.zip vs.toArray) #[] 7 none) (Q:=λ_ st'=>arrOf st'=vs.toArray.zip vs.toArray/\failedOf st'=none) ?_ rfl #[4] hz ?_ ?_) ?_ λ_ _ e=>e)
  ·show (vs.toArray.zip vs.toArray).size=_
   rw[Array.size_zip,hsz,Nat.min_self]
  ·intro i h1 hi Q hq
   have g:∀j,j<vs.length->(arrOf<|SortSt.mk' κ (vs.toArray.zip vs.toArray) #[] 7 none)[j]?=some (vs.getD j .none,vs.getD j .none):=λj hj=>by
    show (vs.toArray.zip vs.toArray)[j]?=_;rw[<- Array.getElem?_toList,Array.toList_zip];show (vs.zip vs)[j]?=_;rw[II,Av,AZ hj];exact(rfl,rfl)
   rw[ltAt'_eq];refine wpS_bind<|wpS_get ?_;show wpS _ _ _ _ (do let x <- elem' (arrOf<|SortSt.mk' κ (vs.toArray.zip vs.toArray) #[] 7 none) i;let y <- elem' (arrOf<|SortSt.mk' κ (vs.toArray.zip vs.toArray) #[] 7 none) (i-1);lt' x y) Q _;rw[elem'_eq,elem'_eq,g i hi,g (i-1) #[2]];refine wpS_bind<|wpS_pure<|wpS_bind<|wpS_pure ?_;rw[lt'_eq];refine wpS_bind<|wpS_get ?_;refine wpS_bind<|wpS_lift<|FC<|hc _ keep i h1 hi _ _ (rfl,?_);exact wpS_pure hq
  ·exact λst' a1 a2=>(a1,a2)
  rintro⟨⟨⟩,st'⟩ s' ⟨rfl,har,hf⟩;dsimp only;refine AB<|seqEpoch_at ho6 rfl ?_;rw[har,out];refine AB<|listUpdate_at ho6 rfl ?_ (Bp _) (by rw[hsz];exact IW hline);rw[hf];simp only[bne_self_eq_false,Bu,if_false];exact AL h
theorem Pt (hl:s.heap.IsList l vs.toArray) (hz:vs.length<200)
  (hk:2<=vs.length->∀h',(∀b o,s.heap.get? b=some o->h'.get? b=some o)->∀(E:Au) (Q:SortKind->Shared->Prop),Q κ { s with heap:=h' } -> wpAny (model prog w) A.in1.in1 (keyKind' vs.toArray) Q E { s with heap:=h' })
  (hc:∀h',(∀b o,s.heap.get? b=some o->h'.get? b=some o)->∀i,1<=i->i<vs.length->∀(E:Au) (Q:Bool->Shared->Prop),Q false { s with heap:=h' } -> wpAny (model prog w) A.in1.in1 (keyLt' κ (vs.getD i .none)<|vs.getD (i-1) .none) Q E { s with heap:=h' })
  (h:Q (.ref<|s.heap.objs.size+1) { s with heap:=sortedAll s.heap vs vs.toArray }):wpAny (model prog w) A (call (.builtin "sorted") [.ref l]) Q E s:=by
 have e:vs.length<=sizeLine:=by rw[sizeLine_eq];lia
 refine Calls.call_function_entry kind_sorted plain_sorted entry_sorted (args_sorted1 _) ?_;unfold Builtin.«sorted»;refine AB (m:=checkCount "sorted" 1 1 _)<|AL ?_;refine AB<|collect_list hl ?_ e;refine AB<|wpAny_newList ?_ e;have z:((s.heap.push<|seqObj "list" #[] 0).update s.heap.objs.size (Obj.mapSeq (· ++ vs.toArray))).objs.size=s.heap.objs.size+1:=by
  rw[MT,size_push']
 have L:(((s.heap.push<|seqObj "list" #[] 0).update s.heap.objs.size (Obj.mapSeq (· ++ vs.toArray))).push (seqObj "list" vs.toArray 0)).get? (s.heap.objs.size+1)=some (seqObj "list" vs.toArray 0):=by
  rw[<- z];exact Bn _ rfl
 have p:∀b o,s.heap.get? b=some o->(((s.heap.push<|seqObj "list" #[] 0).update s.heap.objs.size (Obj.mapSeq (· ++ vs.toArray))).push (seqObj "list" vs.toArray 0)).get? b=some o:=λb o q=>by
  have t:b<s.heap.objs.size:=A4 q;rw[KZ _ _ _ (by rw[z];exact BN<|Dp t),Heap.get?_update_ne _ _ _ _ (BN t),KZ _ _ _ (BN t)];exact q
 have u:∀h',KeepBut (s.heap.objs.size+1) (((s.heap.push<|seqObj "list" #[] 0).update s.heap.objs.size (Obj.mapSeq (· ++ vs.toArray))).push (seqObj "list" vs.toArray 0)) h' -> ∀b o,s.heap.get? b=some o->h'.get? b=some o:=λh' k b o q=>
  k b o (BN<|Dp<|A4 q) (p b o q)
 show wpAny _ _ _ _ _ { s with heap:=((s.heap.push<|seqObj "list" #[] 0).update s.heap.objs.size (Obj.mapSeq (· ++ vs.toArray))).push (seqObj "list" vs.toArray 0) };rw[z];refine AB<|CO<|wpAny_call_entry slot_list_sort (_,L,rfl) entry_list_sort (Wa (κ:=κ) L hz (λa h' k Q q=>hk a h' (u h' k) _ Q q) (λh' k i H I E Q q=>hc h' (u h' k) i H I E Q q) (_,rfl,?_))<|args_list_sort _;exact AL (_,rfl,h)
end
def RowAt (h:Heap) (v:Value) (r:List Int):Prop:=∃(a:Addr) (its:List Value),v=.ref a/\IsTup h a its.toArray/\IntsAre its r
theorem RowAt.keep (x:RowAt h v r) (k:∀b o,h.get? b=some o->h'.get? b=some o):RowAt h' v r:=by
 obtain⟨a,s,e,⟨o,O,c⟩,i⟩:=x;exact(a,s,e,(o,k a o O,c),i)
#check 0
def rInU (K:W.Frag) (neg:Bool):R2:=λx y H Q=>rIn K neg x y H Q\/(∃a o,y=.ref a/\DGet H a x o/\Q (.bl (if neg then !o.isSome else o.isSome)) H) \/
 ∃a S n i,y=.ref a/\x=.int i/\H a=some (.set S n)/\Q (.bl (if neg then !S i else S i)) H
theorem inK (K:W.Frag) (U:X.A.units+1<cLine) (j:X.K=K:=by rfl):OpR X (compareOp .In) (rInU K false):=by
 subst j;intro pins s Z H x y v u Q I rx ry h;rcases h with h|⟨a,o,rfl,d,q⟩|⟨a,S,n,i,rfl,rfl,c,q⟩
 ·exact Zr9 pins s Z H x y v u Q I rx ry h
 ·cases ry
  exact d_in U I d rx λe b=>(.bl _,H,b,rfl,q)
 ·cases ry
  obtain⟨t,rfl⟩:=rx;exact wpAny_inSet_of (knd:=intKind X.prog X.w) (k:=i) (by simp[intKind,Value.isInt]) rfl (I.hok a _ c) (.bl _,H,I.tok _,rfl,q)
theorem notinK (K:W.Frag) (U:X.A.units+1<cLine) (j:X.K=K:=by rfl):OpR X (compareOp .NotIn) (rInU K true):=by
 subst j;intro pins s Z H x y v u Q I rx ry h;rcases h with h|⟨a,o,rfl,d,q⟩|⟨a,S,n,i,rfl,rfl,c,q⟩
 ·exact Wh pins s Z H x y v u Q I rx ry h
 ·cases ry
  exact UO U I d rx λe b=>(.bl _,H,b,rfl,q)
 ·cases ry
  obtain⟨t,rfl⟩:=rx;exact wpAny_notInSet_of (knd:=intKind X.prog X.w) (k:=i) (by simp[intKind,Value.isInt]) rfl (I.hok a _ c) (.bl _,H,I.tok _,rfl,q)
end
#check 1
theorem QE:∀{kvs:List (AS × V)}{kds:List (AS × D)},Paired (λ(p:AS × V) (q:AS × D)=>p.1=q.1/\Ay K G p.2 q.2) kvs kds->(valV kvs k).isSome=(valD kds k).isSome
 |_,_,.nil=>rfl
 | (k1,v1)::kvs,(k2,d2)::kds,.cons (e,r) t=>by
  have e:k1=k2:=e;subst e;have i:=QE (k:=k) t;unfold valV valD at i ⊢;by_cases h:k1=k
  ·rw[MF #[9],MF #[9]];rfl
  ·rw[MG #[9],MG #[9]];exact i
theorem TK (h:JE K ta J λd J1=>∃x kvs i,J1[n]?=some x/\x.od=some (.dct kvs)/\d=.int i/\P (.bl (if neg then !(valD kvs (.inl i)).isSome else (valD kvs (.inl i)).isSome)) J1):JE K (tOp (rInU K neg) ta<|tVar n) J P:=λg G H Z Q k c=>
 h g G H Z _ k λv d b f J1 e s r q=>by
  obtain⟨x,kvs,i,j,l,m,p⟩:=q;subst m;cases r.inv;obtain⟨a,o,W,t,w,u,y⟩:=e.own n x _ j l;cases o with
  |dK vs=>
   refine(.ref a,W,.inr (.inl (a,_,rfl,DGet.k (k:=Sum.inl i) t,?_)));rw[QE (K:=K) (G:=b) w];exact c _ _ b f J1 e s (.bl _) p
  |_=>exact absurd w (λz=>z)
theorem RP (i:Int) (ns:List Int):inV (.int i) (ns.map V.int)=decide (i∈ns):=by
 unfold inV;rw[KO]
 induction ns with
 |nil=>rfl
 |cons n ns ih=>
  rw[Es,ih];show ((n == i) || decide (i∈ns))=_;by_cases h:n=i
  ·subst h;simp
  ·rw[beq_eq_false_iff_ne.mpr h,Bool.false_or]
   have:(i∈n::ns)↔i∈ns:=by simp[Ne.symm h]
   exact decide_eq_decide.mpr this.symm
theorem QF (ns:List Int):(ns.map V.int).all flatV=true:=by rw[List.all_map];exact EX.mpr λ_ _=>rfl
theorem Oa {ns:List Int}(p:P (.bl (if neg then !decide (i∈ns) else decide (i∈ns))) J):JR2 K (rInU K neg) (.int i) (.tup<|ns.map .int) J P:=λg G H Z Q x y k r Y c=>by
 cases r.inv;obtain⟨_,_,rfl,a,s⟩:=Y.inv
 next=>
  have v:=s.ints;subst v;refine .inl (_,_,rfl,.inr<|SqT.of<|k.live _ _ a,rfl,QF ns,?_);rw[RP];exact c _ _ G H J k (Same.refl _) (.bl _) p
theorem Vv {ns:List Int}(p:P (.bl (if neg then !decide (i∈ns) else decide (i∈ns))) J):JR2 K (rInU K neg) (.int i) (.lst<|ns.map .int) J P:=λg G H Z Q x y k r Y c=>by
 cases r.inv;obtain⟨_,_,rfl,a,s⟩:=Y.inv
 next=>
  have v:=s.ints;subst v;refine .inl (_,_,rfl,.inl<|SqL.of<|k.live _ _ a,rfl,QF ns,?_);rw[RP];exact c _ _ G H J k (Same.refl _) (.bl _) p
def rowD (r:List Int):D:=.tup<|r.map D.int
end
theorem Ff (j:Room k A):A.units+8<cLine:=FG (Nat.add_le_add_left (by decide:8<=64) _) j.units
#check 3
#check 0
theorem O6:∀{vs:List Value}{ns:List Int},vs.length=ns.length->(∀(i:Nat) v,vs[i]?=some v->∃t,v=.int (ns.getD i 0) t)->IntsAre vs ns
 |[],[],_,_=>.nil
 |[],_::_,h,_=>by simp at h
 |_::_,[],h,_=>by simp at h
 |v::vs,n::ns,h,g=>by
  obtain⟨t,rfl⟩:=g 0 v rfl;exact .cons n t (O6 #[9] λi u e=>by simpa using g (i+1) u (by simpa using e))
def tLR (ta:TA):TE:=λZ H Q=>ta Z H λs h=>∃n:Nat,s=[.int (n:Int)]/\n<=1000/\∀l,h l=none->Q (.ref l) (upd h l (.lst ((AV n).map λi:Nat=>V.int (i:Int))))
theorem PD {a:Expr}{ta:TA}{p p2 pos pos2:Pos}(hc:X.calm=true) (hgL:Gl X "list") (hmL:X.mg "list" = none) (hgR:Gl X "range") (hmR:X.mg "range" = none) (ha:PA X [a] ta) (hs:starEach [a] X.env=[(false,eval a X.env)]:=by rfl)
  (he:starEach [.Call (.Name "range" p2) [a] [] pos2] X.env=[(false,eval (.Call (.Name "range" p2) [a] [] pos2) X.env)]:=by rfl) :
  PE X (.Call (.Name "list" p) [.Call (.Name "range" p2) [a] [] pos2] [] pos) (tLR ta):=by
 intro pins s Z H Q I h;refine wpAny_Call_Name_kw<|EJ I hgL hmL He ?_;refine PyProof.Rows.callWith_type1 ?_ he rfl;rw[he];show wpAny _ _ (spliced ((false,eval (.Call (.Name "range" p2) [a] [] pos2) X.env)::backTo pos [])) _ _ s;refine Calls.spliced_cons ?_;refine Call_<|EJ I hgR hmR boot_range<|PyProof.Rows.callWith_type1 (thn (ha pos2 pins s Z H _ I h) λus s1 (vs,H1,I1,r1,q1)=>?_) hs rfl;obtain⟨n,e,N,q⟩:=q1;subst e;cases r1 with
 |cons r rr=>
  cases rr;obtain⟨t,rfl⟩:=r;refine call_range_1<|Calls.spliced_nil ?_;have d:AH X pins Z H1 { s1 with heap:=s1.heap.push { cls:=.type "range",data:=.fields #[.int 0 s1.toks,.int (n:Int) t,.int 1 (s1.toks+1)] },toks:=s1.toks+1+1 }:=I1.kept λb o e=>Ap _ e;refine call_list_range (a:=0) (b:=(n:Int)) (c:=1) (n:=n) (I1.ok.hd hc) (IsRange.new ..) (small_one #[0] #[0] #[2] #[2]) (by rw[rangeSize_one];split <;> lia) #[2] λj T C g K D f=>?_
  have l:C.size=n:=f.1;refine(.ref _,_,d.laid (t':=T) K (AU _) (show ObjOk X.prog X.w _ j _ (.lst ((AV n).map λi:Nat=>V.int (i:Int))) from (?_,C.toList,g,?_,?_)),rfl,q _<|d.hok.fresh<|AU _)
  ·rw[AJ,Bt];exact Cj<|small1000 N
  ·have:IntsAre C.toList ((AV n).map λi:Nat=>(i:Int)):=by
    refine O6 (by rw[Array.length_toList,l,AJ,Bt]) λi v e=>?_;have k:i<n:=by
     have:=(BQ.mp e).1;rw[Array.length_toList,l]at this;exact this
    obtain⟨t',rfl⟩:=f.2 i v (by rw[<- Array.getElem?_toList];exact e);refine(t',?_);rw[Av,Ad,Ek k];show Value.int (0+(i:Int)*1) t'=Value.int (i:Int) t';rw[B0,Int.mul_one]
   have:=LK this;rw[BS]at this;exact this
  ·rw[Array.toArray_toList];exact D
end
#check 1
theorem Oz (h:JA K ta J λds J1=>∃n:Nat,ds=[.int (n:Int)]/\n<=1000/\Po (.lst ((AV n).map λi:Nat=>D.int (i:Int))) J1):JO K (tLR ta) J Po:=λg G H Z Q k c=>
 h g G H Z _ k λv ds a f J1 b s R q=>by
  obtain⟨n,e,L,p⟩:=q;subst e;obtain⟨_,_,rfl,r,t⟩:=R.inv
  next=>
   cases t.inv;cases r.inv;refine(n,rfl,L,λl L=>?_);obtain⟨d,P⟩:=b.fresh (od:=.lst ((AV n).map λi:Nat=>D.int (i:Int))) L (show OwnRep K a (.lst ((AV n).map λi:Nat=>V.int (i:Int))) (.lst ((AV n).map λi:Nat=>D.int (i:Int))) from by
    have:=Reps.ofInts (K:=K) (G:=a) ((AV n).map λi:Nat=>(i:Int));rw[BS,BS]at this;exact this)
   exact c l _ a _ J1 d s P p
theorem Zy9 {n:Nat}{L Y:TE}{x:Slot}{B:List D}{nx bk ct:AM->Prop}{rt:D->AM->Prop}{ro:OD->AM->Prop}(hx:J[n]?=some x) (ho:x.od=some (.lst B))
  (h:JE K L J λe1 J1=>JE K Y J1 λe2 J2=>∃y i ds,e1=.int i /\ J2[n]?=some y/\y.od=some (.lst ds)/\ds.length<sizeLine /\ -(2 ^ 62)<=i/\i<2 ^ 62/\nx (J2.set n<|y.put (.lst (ds.take (insI ds.length i)++e2::ds.drop (insI ds.length i))))) :
  JS K (tDrop<|tBM K "list" rInsert (tVar n)<|tCons L<|tCons Y tNil) J (nx,rt,bk,ct,ro):=λg G H Z E k c=>by
 obtain⟨a,o,b,f,j,s,t⟩:=k.own n x _ hx ho;cases o with
 |lst vs0=>
  refine(.ref a,b,.inl (rfl,_,SqL.of f),h g G H Z _ k λV e1 d e J1 l S r P=>P g d e Z _ l λv2 e2 G2 H2 J2 k2 s2 r2 (y,i,ds,q1,q2,q2',q3,q4,q5,p)=>?_);subst q1;cases r.inv;obtain⟨A,O,U,q,u,v,w⟩:=k2.own n y _ q2 q2';exists 0,b,U;cases O with
  |lst vs=>
   have u:Reps K G2 vs ds:=u;refine(_,vs,i,v2,rfl,rfl,q,by rw[u.length];exact q3,q4,q5,?_);have m:=k2.write q2 q2' b (show OwnRep K G2 (.lst (vs.take (insI vs.length i)++v2::vs.drop (insI vs.length i))) (.lst (ds.take (insI ds.length i)++e2::ds.drop (insI ds.length i))) from by
    rw[u.length];exact(u.take _).append (.cons r2 (u.drop _)))
   exact c.nx Z G2 _ _ m p
  |_=>exact absurd u (λz=>z)
 |_=>exact absurd j (λz=>z)
end
#check 3
def D4 (xs:Array Nat):Prop:=∀(i j a b:Nat),i<j->xs[i]?=some a->xs[j]?=some b->a<b
theorem Nf (xs:Array Nat) (R:D4 xs) (j:Nat):∀(fuel lo hi:Nat),hi-lo<=fuel->lo<=hi->hi<=xs.size->(∀(i a:Nat),i<lo->xs[i]?=some a->a<j)->(∀(i a:Nat),hi<=i->xs[i]?=some a->j<=a) ->
  SetTable.below.go xs j fuel lo hi<=xs.size/\(∀(i a:Nat),i<SetTable.below.go xs j fuel lo hi->xs[i]?=some a->a<j)/\∀(i a:Nat),SetTable.below.go xs j fuel lo hi<=i->xs[i]?=some a->j<=a
 |0,lo,hi,h1,h2,h3,h4,h5=>by
  have:lo=hi:=#[2]
  subst this;show lo<=xs.size/\_;exact(h3,h4,h5)
 |fuel+1,lo,hi,h1,h2,h3,h4,h5=>by
  unfold SetTable.below.go;by_cases hlt:lo<hi
  ·rw[AN hlt]
   dsimp only;have m:(lo+hi) / 2<xs.size:=#[2]
   have g:xs.getD ((lo+hi) / 2) j=xs[(lo+hi) / 2]:=by simp[Array.getD,m]
   by_cases hc:xs.getD ((lo+hi) / 2) j<j
   ·rw[AN hc]
    refine Nf xs R j fuel _ _ #[4] #[2] h3 (λi a h e=>?_) h5;by_cases hi2:i=(lo+hi) / 2
    ·subst hi2
     rw[Array.getElem?_eq_getElem m]at e;cases e;lia
    ·have:=R i ((lo+hi) / 2) a _ #[2] e (Array.getElem?_eq_getElem m)
     lia
   ·rw[AK hc]
    refine Nf xs R j fuel _ _ #[4] #[2] #[2] h4 λi a h e=>?_;by_cases hi2:i=(lo+hi) / 2
    ·subst hi2
     rw[Array.getElem?_eq_getElem m]at e;cases e;lia
    ·have:=R ((lo+hi) / 2) i _ a #[2] (Array.getElem?_eq_getElem m) e
     lia
  ·rw[AK hlt]
   have:lo=hi:=#[2]
   subst this;exact(h3,h4,h5)
theorem K4 (R:D4 xs) (j:Nat):SetTable.below xs j<=xs.size/\(∀(i a:Nat),i<SetTable.below xs j->xs[i]?=some a->a<j)/\∀(i a:Nat),SetTable.below xs j<=i->xs[i]?=some a->j<=a:=
 Nf xs R j xs.size 0 xs.size #[2] (Bp _) (AU _) (λi a h=>#[2]) λi a h e=>by
  have:=(Array.getElem?_eq_some_iff.mp e).1;lia
theorem M0 (xs:Array α) (p:Nat) (x:α) (h:p<=xs.size):(SetTable.insertAt xs p x).toList=xs.toList.take p++x::xs.toList.drop p:=by
 unfold SetTable.insertAt;rw[Array.toList_append,Array.toList_push,Array.toList_extract,Array.toList_extract];simp[List.extract_eq_take_drop,DM];rw[IG #[3]]
theorem HJ (xs:Array α) (p:Nat) (x:α) (h:p<=xs.size) (i:Nat):(SetTable.insertAt xs p x)[i]?=if i<p then xs[i]? else if i=p then some x else xs[i-1]?:=by
 rw[<- Array.getElem?_toList,M0 xs p x h];by_cases h1:i<p
 ·rw[AN h1,DT (by rw[Bo,Array.length_toList];lia),ME h1,Array.getElem?_toList]
 ·rw[AK h1,Cf (by rw[Bo,Array.length_toList];lia),Bo,Array.length_toList,IJ h]
  by_cases h2:i=p
  ·rw[AN h2,h2,KR];rfl
  ·rw[AK h2,show i-p=(i-1-p)+1 by lia,IC,Gv,Array.getElem?_toList,show p+(i-1-p)=i-1 by lia]
theorem SH (R:D4 xs) (q:xs[SetTable.below xs j]?≠some j):D4 (SetTable.insertAt xs (SetTable.below xs j) j):=by
 obtain⟨c,d,B⟩:=K4 R j;have f:∀(i a:Nat),SetTable.below xs j<=i->xs[i]?=some a->j<a:=λi a h e=>by
  have H:=B i a h e;by_cases hi:i=SetTable.below xs j
  ·subst hi
   rcases ES H with z|z
   ·exact z
   ·subst z;exact absurd e q
  ·obtain⟨s,S⟩:=Array.getElem?_eq_some_iff.mp e
   have t:SetTable.below xs j<xs.size:=#[2]
   have g:=B _ _ (AU _)<|Array.getElem?_eq_getElem t;have:=R (SetTable.below xs j) i _ a #[2] (Array.getElem?_eq_getElem t) e;lia
 intro i k a b hik ha hb;rw[HJ _ _ _ c]at ha hb;split at ha
 ·split at hb
  ·exact R i k a b hik ha hb
  ·split at hb
   ·cases hb;exact d i a #[4] ha
   ·exact R i (k-1) a b #[2] ha hb
 ·split at ha
  ·cases ha
   rw[AK #[2],AK #[2]]at hb;exact f (k-1) b #[2] hb
  ·rw[AK #[2],AK #[2]]at hb
   exact R (i-1) (k-1) a b #[2] ha hb
theorem R9:D4 #[]:=λi j a b _ e=>by simp at e
theorem Zsj (n:Nat):D4 (Array.range n):=λi j a b h e E=>by
 simp[Array.getElem?_range]at e E;lia
structure TabOk (led:Bool) (t:SetTable):Prop where
 led:t.led=led
 dum:t.dummies = #[]
 ris:D4 t.place
theorem TabOk.fresh (led:Bool):TabOk led (SetTable.fresh 0 0 led):=(rfl,rfl,R9)
theorem TabOk.standIn {led:Bool}{t:SetTable}(h:TabOk led t) (n:Nat):TabOk led (t.standIn n):=(h.led,rfl,Zsj n)
theorem Lf (j:Nat):SetTable.has #[] j=false:=by unfold SetTable.has;simp
theorem PN (q:t.dummies = #[]):∀(fuel:Nat) (p:SetTable.Probe) {j:Nat}{dm:Option Nat},p.dummy=none->SetTable.probe.go t hashAt h fuel p=some (.empty j dm)->dm=none/\t.place[SetTable.below t.place j]?≠some j
 |0,_,_,_,_,e=>by cases e
 |fuel+1,p,j,dm,hp,e=>by
  unfold SetTable.probe.go at e;have v:(t.advance p).dummy=none:=by unfold SetTable.advance;split <;> exact hp
  unfold SetTable.slot at e;dsimp only at e;by_cases hl:(t.place[SetTable.below t.place p.j]? == some p.j)=true
  ·rw[AN hl]at e
   dsimp only at e;split at e
   ·cases e
   ·exact PN q fuel _ v e
  ·rw[AK hl,q,Lf]at e
   simp only[Bu,if_false]at e;injection e with e
   injection e with e1 e2
   subst e1 e2;exact(hp,λz=>hl (by rw[z];simp))
theorem TabOk.put {led:Bool}{t:SetTable}(h:TabOk led t) {j:Nat}(q:t.place[SetTable.below t.place j]?≠some j):TabOk led (t.put j).1:=by
 refine(h.led,?_,SH h.ris q);show (if SetTable.has t.dummies j=true then _ else t.dummies) = #[];rw[h.dum,Lf];rfl
theorem TabOk.layNew {led:Bool}{t:SetTable}(h:TabOk led t) (es:Array (Int × Value)) (hs:Int) (x:Value):TabOk led (layNew t es hs x).2.1:=by
 unfold PySem.layNew;unfold SetTable.freeSlot;cases q:t.probe (λ_=>hs+1) hs (t.probeStart hs) with
 |none=>exact h.standIn _
 |some m=>
  cases m with
  |candidate j i p=>exact h.standIn _
  |empty j dm=>
   obtain⟨E,e⟩:=PN h.dum _ (t.probeStart hs) rfl (show SetTable.probe.go t (λ_=>hs+1) hs (10*SetTable.turns t.mask) (t.probeStart hs)=some (.empty j dm) from q);subst E;show TabOk led ((t.put j).1.orStandIn _);unfold SetTable.orStandIn;split
   ·exact h.put e
   ·exact(h.put e).standIn _
theorem Rh (owner:Array (Option Nat)) (m:Nat):D4 ((((AV m).filterMap λj=>(owner.getD j none).map (λx=>((j,x):_×_))).map (·.1)).toArray):=by
 have w:((AV m).filterMap λj=>(owner.getD j none).map (λx=>((j,x):_×_))).Pairwise (λa b=>a.1<b.1):=by
  rw[List.pairwise_filterMap];refine List.Pairwise.imp ?_ D5;intro a b hab c h d D;cases qa:owner.getD a none with
  |none=>exists 0,qa,h
  |some k=>
   cases qb:owner.getD b none with
   |none=>exists 0,qb,D
   |some l=>
    rw[qa]at h;rw[qb]at D;have h:(a,k)=c:=#[9]
    have D:(b,l)=d:=by simpa using D
    subst h D;exact hab
 intro i j a b hij e B;rw[IP,Ad]at e B;cases qa:((AV m).filterMap λj=>(owner.getD j none).map (λx=>((j,x):_×_)))[i]? with
 |none=>exists 0,qa,e
 |some c=>
  cases qb:((AV m).filterMap λj=>(owner.getD j none).map (λx=>((j,x):_×_)))[j]? with
  |none=>exists 0,qb,B
  |some d=>
   rw[qa]at e;rw[qb]at B;have e:c.1=a:=by simpa using e
   have B:d.1=b:=#[12]
   subst e B;obtain⟨I,f⟩:=BQ.mp qa;obtain⟨J,g⟩:=BQ.mp qb;have:=IH.mp w i j I J hij;rw[f,g]at this;exact this
theorem TabOk.relay {led:Bool}{t:SetTable}(h:TabOk led t) (es:Array (Int × Value)) (j:Nat):TabOk led (relayAll t es j).2.1:=by
 unfold PySem.relayAll;cases q:t.relaid (es.map (·.1)) j with
 |none=>exact h.standIn _
 |some r=>
  obtain⟨T,d⟩:=r;dsimp only;split
  ·unfold SetTable.relaid SetTable.laid at q
   cases q2:SetTable.layClean (SetTable.sizeAbove j-1) (es.map (·.1)) with
   |none=>exists 0,q2,q
   |some owner=>
    rw[q2]at q;have q:_=some ((T,d):_×_):=q;have e:=congrArg Prod.fst<|CL.inj q;dsimp only at e;rw[<- e];exact(h.led,rfl,Rh owner _)
  ·exact h.standIn _
def numOf:Value->Int
 |.int i _=>i
 |_=>0
section
variable {prog:Program}{w:World}
def byTextB (w:World):Bool:=w.params.followText "set-order"
structure SetG (prog:Program) (w:World) (h:Heap) (a:Addr) (o:Obj) (es:Array (Int × Value)) (ep:Nat) (t:SetTable) (ks:List Int):Prop where
 get:h.get? a=some o
 ex:o.ExactSet
 dat:o.data=.set es ep t
 el:ElemsOf (intKind prog w) es.toList
 room:es.size<scanBound
 fit:t.fits es.size=true
 tab:TabOk (!byTextB w) t
 perm:(es.toList.map λe=>numOf e.2).Perm ks
 nd:ks.Nodup
def SetI (prog:Program) (w:World) (h:Heap) (a:Addr) (ks:List Int):Prop:=∃o es ep t,SetG prog w h a o es ep t ks
theorem SetI.keep (x:SetI prog w h a ks) (k:∀o,h.get? a=some o->h'.get? a=some o):SetI prog w h' a ks:=by
 obtain⟨o,s,p,t,g⟩:=x;exact(o,s,p,t,k _ g.get,g.ex,g.dat,g.el,g.room,g.fit,g.tab,g.perm,g.nd)
theorem SetG.size (g:SetG prog w h a o es ep t ks):es.size=ks.length:=by
 have:=g.perm.length_eq;rw[AJ,Array.length_toList]at this;exact this
theorem Qj (h:(intKind prog w).is k v=true):numOf v=k/\∃t,v=.int k t:=by
 obtain⟨t,rfl⟩:=Value.isInt_shape (show Value.isInt k v=true from h);exact(rfl,t,rfl)
theorem Q1 (h:ElemsOf (intKind prog w) es) (j:e∈es):∃t,e.2=.int (numOf e.2) t:=by
 obtain⟨⟨k,K,_⟩,_⟩:=h e j;obtain⟨a,t,H⟩:=Qj K;exact(t,by rw[H];rfl)
theorem S2 (h:ElemsOf (intKind prog w) es):(∃e∈es,(intKind prog w).is k e.2=true)↔k∈es.map λe=>numOf e.2:=by
 rw[A6];constructor
 ·rintro⟨e,E,p⟩;exact(e,E,(Qj p).1)
 ·rintro⟨e,E,rfl⟩
  obtain⟨t,T⟩:=Q1 h E;exact(e,E,by rw[T];exact intKind_is _ _ _ _)
section
variable {A:Around}{E:Au}{s:Shared}
theorem SetG.store {h:Heap}{a:Addr}{o:Obj}{es:Array (Int × Value)}{ep:Nat}{t:SetTable}{ks:List Int}(g:SetG prog w h a o es ep t ks) {es':Array (Int × Value)}{t':SetTable}{ks':List Int}
  (hel:ElemsOf (intKind prog w) es'.toList) (hb:es'.size<scanBound) (hf:t'.fits es'.size=true) (ht:TabOk (!byTextB w) t') (hp:(es'.toList.map λe=>numOf e.2).Perm ks') (hn:ks'.Nodup) :
  SetG prog w (h.update a<|Obj.putSet es' t') a { o with data:=.set es' (ep+1) t' } es' (ep+1) t' ks':=by
 have G:(h.update a<|Obj.putSet es' t').get? a=some { o with data:=.set es' (ep+1) t' }:=by
  have:=GD (Obj.putSet es' t') g.get (by rw[putSet_of es' t' g.dat];rfl);rw[putSet_of es' t' g.dat]at this;exact this
 exact(G,g.ex,rfl,hel,hb,hf,ht,hp,hn)
def addE (ks:List Int) (k:Int):List Int:=if k∈ks then ks else ks++[k]
theorem Zv6 {a:Addr}{ks:List Int}{k:Int}{tk:Tok}{Q:Bool->Shared->Prop}(hS:SetI prog w s.heap a ks) (hroom:ks.length+1<scanBound)
  (h:∀b h',Heap.SameBut a s.heap h' -> SetI prog w h' a (addE ks k)->Q b { s with heap:=h' }) :
  wpAny (model prog w) A (setAddHashed a (.int k tk)<|hashInt k) Q E s:=by
 obtain⟨o,es,ep,t,g⟩:=hS;have hsz:=g.size;have hkey:(intKind prog w).is k (.int k tk)=true:=intKind_is _ _ _ _;unfold setAddHashed setAddHashedIn;refine CO<|AB<|wpAny_setState_of g.get g.dat g.fit ?_;dsimp only;rw[byScan_of (knd:=intKind prog w) rfl g.room g.el];simp only[↓reduceIte];unfold setAddByScan;refine AB ?_;refine AB<|Eh ?_;refine AB<|wpAny_setScan_of (knd:=intKind prog w) (k:=k) hkey g.get g.dat g.fit g.el ?_;cases hr:List.findIdx? (λe=>(intKind prog w).is k e.2) es.toList with
 |some j=>
  dsimp only;obtain⟨hj,hpj,_⟩:=List.findIdx?_eq_some_iff_getElem.mp hr;have hk:k∈ks:=g.perm.mem_iff.mp ((S2 g.el).mp (es.toList[j],B6 hj,hpj));refine AL<|AL ?_;have e:s = { s with heap:=s.heap }:=by cases s;rfl
  rw[e];refine h _ s.heap (Heap.SameBut.refl a s.heap) ?_;unfold addE;rw[AN hk];exact(o,es,ep,t,g)
 |none=>
  dsimp only;have hk:k ∉ ks:=λz=>by
   obtain⟨e,he,hp⟩:=(S2 g.el).mpr (g.perm.mem_iff.mpr z);have:=List.findIdx?_eq_none_iff.mp hr e he;rw[hp]at this;cases this
  have hgw:∀(b:Bool) {s₁:Shared}{Q':Unit->Shared->Prop},Q' () s₁ -> wpAny (model prog w) A (match b with|true=>rule "set.scan.the-table-gave-way" |false=>pure ()) Q' E s₁:=
   λb s₁ Q' hq=>by cases b <;> first|exact AL hq|exact Eh hq
  have hperm:=layNew_perm t es (hashInt k) (.int k tk);have hfits:=layNew_fits t es (hashInt k) (.int k tk);have htab:=g.tab.layNew es (hashInt k) (.int k tk);generalize hL:layNew t es (hashInt k) (.int k tk)=L at hperm hfits htab ⊢;obtain⟨es1,t1,wasDummy,gave⟩:=L;dsimp only at hperm hfits htab ⊢;rw[Array.toList_push]at hperm;have hel1:ElemsOf (intKind prog w) es1.toList:=(g.el.push (k:=k) hkey rfl).perm hperm;have hsz1:es1.size=es.size+1:=by rw[<- Array.length_toList,hperm.length_eq,Ar,Array.length_toList];rfl
  have hb1:es1.size<scanBound:=#[2]
  have hp1:(es1.toList.map λe=>numOf e.2).Perm (ks++[k]):=by
   refine(hperm.map _).trans ?_;rw[BA];exact List.Perm.append_right _ g.perm
  have hnd1:(ks++[k]).Nodup:=by
   rw[Fp];refine(g.nd,#[3],λa ha b hb e=>?_);rw[CK.mp hb]at e;exact hk (e ▸ ha)
  have eadd:addE ks k=ks++[k]:=by unfold addE;rw[AK hk]
  refine AB<|hgw _ ?_;have tail:∀(Q2:Option Bool->Shared->Prop),(∀h',Heap.SameBut a s.heap h' -> SetI prog w h' a (ks++[k])->Q2 (some true) { s with heap:=h' })->∀(g0:Bool->Sem Unit),(∀(b:Bool) (s₁:Shared) (Q':Unit->Shared->Prop),Q' () s₁ -> wpAny (model prog w) A (g0 b) Q' E s₁) ->
    wpAny (model prog w) A (do
     storeSet a es1 t1
     if (!wasDummy && t1.tooFull)=true then do
       g0 (relayAll t1 es1<|SetTable.grown es1.size).2.2
       storeSet a (relayAll t1 es1<|SetTable.grown es1.size).1 (relayAll t1 es1<|SetTable.grown es1.size).2.1
       pure (some true)
      else pure (some true)) Q2 E s:=by
   intro Q2 hq g0 hg0;refine AB<|wpAny_storeSet_of g.get g.dat ?_<|fits_of_scanBound hb1;have g1:=g.store (es':=es1) (t':=t1) hel1 hb1 hfits htab hp1 hnd1;have sb1:=Heap.SameBut.update s.heap a<|Obj.putSet es1 t1;split
   ·have hp:=relayAll_perm t1 es1 (SetTable.grown es1.size)
    have hfr:=relayAll_fits t1 es1<|SetTable.grown es1.size;have htr:=htab.relay es1<|SetTable.grown es1.size;generalize hRl:relayAll t1 es1 (SetTable.grown es1.size)=Rl at hp hfr htr ⊢;obtain⟨es2,t3,gave2⟩:=Rl;dsimp only at hp hfr htr ⊢;have hsz2:es2.size=es1.size:=by rw[<- Array.length_toList,hp.length_eq,Array.length_toList]
    refine AB<|hg0 _ _ _ ?_;refine AB (wpAny_storeSet_of g1.get rfl ?_<|fits_of_scanBound #[2]);have g2:=g1.store (es':=es2) (t':=t3) (hel1.perm hp) #[4] hfr htr ((hp.map _).trans hp1) hnd1;exact AL<|hq _ (sb1.trans<|Heap.SameBut.update _ a _) (_,_,_,_,g2)
   ·exact AL<|hq _ sb1 (_,_,_,_,g1)
  have hgv:∀(b:Bool) (s₁:Shared) (Q':Unit->Shared->Prop),Q' () s₁ -> wpAny (model prog w) A (match b with|true=>rule "set.scan.the-table-gave-way" |false=>pure ()) Q' E s₁:=λb s₁ Q' hq=>hgw b hq;split
  ·refine AB ?_
   rw[hashByValue_scannable 8 (x:=.int k tk) rfl];refine AL ?_;simp only[plainKind,if_true];exact tail _ (λh' sb hS'=>by dsimp only;exact AL<|h _ h' sb (by rw[eadd];exact hS')) _ hgv
  ·refine AB (AL ?_)
   simp only[↓reduceIte];exact tail _ (λh' sb hS'=>by dsimp only;exact AL<|h _ h' sb (by rw[eadd];exact hS')) _ hgv
end
end
def metK (L:Nat->Int):Nat->List Int
 |0=>[]
 |i+1=>addE (metK L i) (L i)
theorem RQ (L:Nat->Int) (i:Nat):(metK L i).length<=i:=by
 induction i with
 |zero=>exact AU _
 |succ i ih=>
  show (addE (metK L i)<|L i).length<=i+1;unfold addE;split
  ·lia
  ·rw[Ar,DE];lia
theorem Zvl:x∈metK val i ↔ ∃j,j<i/\val j=x:=by
 induction i with
 |zero=>simp[metK]
 |succ i ih=>
  show x∈addE (metK val i) (val i)↔_;unfold addE;constructor
  ·intro h
   split at h
   ·obtain⟨j,J,e⟩:=ih.mp h;exact(j,#[2],e)
   ·rcases CV.mp h with h|h
    ·obtain⟨j,J,e⟩:=ih.mp h;exact(j,#[4],e)
    ·exact(i,#[2],(CK.mp h).symm)
  ·rintro⟨j,J,rfl⟩
   by_cases hji:j=i
   ·subst hji
    split
    ·assumption
    ·exact Ce _ #[3]
   ·have:=ih.mpr (j,#[2],rfl)
    split
    ·exact this
    ·exact IS _ this
section
variable {prog:Program}{w:World}{A:Around}{R:Result->Shared->Prop}{I:Addr}{fp wr:List Addr}{G:Array GenState->Array GenState->Prop}{n:Nat}{P:Nat->Value->Prop}{St:Nat->Shared->Prop}
theorem XE (W:WalksS prog w A.in1 I fp wr G n P St) (S:Addr) (hSf:S ∉ fp)
  (val:Nat->Int) (hval:∀i v,P i v->∃t,v=.int (val i) t) (hb:n+1<scanBound) :
  ∀(k i:Nat) (s:Shared),n-i=k->i<=n->St i s->SetI prog w s.heap S (metK val i) ->
   (∀s',Moved (S::wr) G s s' -> SetI prog w s'.heap S (metK val n)->R (.ok (.ret .none)) s') ->
   codeAny (model prog w) A (.builtin "set.update.loop" ([.ref S,.ref I],[])) R s:=by
 have a:S ∉ wr:=λh=>hSf<|W.sub _ h;have u:∀b∈wr,b∈S::wr:=λb hb=>Bl _ hb;intro k
 induction k with
 |zero=>
  intro i s hk hi hst hS hR;have N:i=n:=#[2]
  subst N;refine codeAny_builtin F.entry_set_update_loop ?_;rw[Around.under_plainId F.plain_set_update_loop _];show wpAny _ A.in1 (pyNext (.ref I) >>= _) _ _ s;refine AB (W.done s _ _ hst λs' M=>?_);show wpAny _ A.in1 (ret Value.none) _ _ s';exact AL<|hR s' (M.mono u) (hS.keep λo e=>M.heap S o a e)
 |succ k ih=>
  intro i s hk hi hst hS hR;have l:i<n:=#[4]
  refine codeAny_builtin F.entry_set_update_loop ?_;rw[Around.under_plainId F.plain_set_update_loop _];show wpAny _ A.in1 (pyNext (.ref I) >>= _) _ _ s;refine AB (W.item i s _ _ l hst λv s' p T M=>?_);obtain⟨t,rfl⟩:=hval i v p;have d:SetI prog w s'.heap S (metK val i):=hS.keep λo e=>M.heap S o a e;show wpAny _ A.in1 (holding [Value.int (val i) t] (setAdd S (.int (val i) t)) >>= _) _ _ s';refine AB<|CO ?_;unfold setAdd;refine CO ?_;refine AB ((intKind prog w).pyHash (k:=val i) (intKind_is _ _ _ _) ?_);have m:(metK val i).length+1<scanBound:=by have:=RQ val i;lia
  refine Zv6 (s:={ s' with toks:=s'.toks+1 }) d m λb j B f=>?_;refine AL (plainId_quiet F.plain_set_update_loop _,ih (i+1) _ #[2] l (W.frame _ s' _ _ T (Et _) λb hb o e=>?_) f λg c H=>?_)
  ·rw[B.2 b (λh:b=S=>hSf (by rw[<- h];exact hb))];exact e
  ·refine hR g (Moved.trans W.gtrans ((M.mono u).then_heap (Et _) λb o hb e=>?_) c) H
   rw[B.2 b (λh:b=S=>hb (by rw[h];exact B5))];exact e
end
#check 5
abbrev set0 (w:World):Obj:={ cls:=.type "set",dict:=none,data:=.set #[] 0 (.fresh 0 0 (!byTextB w)) }
theorem Zv2 (x:Value) {N:Au}(h:N (.ref s.heap.objs.size) { s with heap:=s.heap.push (set0 w) }) :
  codeAny (model prog w) A (.call (.builtin "set.__new__") ([.type "set",x],[])) (wants N E) s:=
 codeAny_of_tree (by
  have u:=sub_set_self;obtain⟨p,g,d,k,o⟩:=s;refine AB (m:=checkBuiltinCall "set.__new__" ([.type "set",x],[]))<|wpAny_of_eq (F.newCall_set_1 x)<|AL (plainId_quiet F.plain_set_new _,codeAny_builtin F.entry_set_new ?_);rw[Around.under_plainId F.plain_set_new _];unfold Builtin.«set.__new__» Builtin.Frozenset.newClass
  wp_walk
  refine wpAny_askSetting (AL ?_);simp only[newObj];exact AB (wpAny_alloc (AL (AL h))))
theorem Zqy {S l:Addr}{its:Array Value}{ns:List Int}{N:Result->Shared->Prop}(hh:A.handled=none) (hS:s.heap.get? S=some (set0 w)) (hl:s.heap.IsList l its) (hi:IntsAre its.toList ns) (hb:its.size+1<scanBound)
  (q:∀h' tk,SetI prog w h' S (metK (λi=>ns.getD i 0) its.size)->(∀b o,b≠S->s.heap.get? b=some o->h'.get? b=some o)->N (.ok (.ret .none)) { s with heap:=h',toks:=tk }) :
  wpAny (model prog w) A.in1 (Builtin.«set.__init__» ([.ref S,.ref l],[])) (λfin s'=>match fin with|.done f=>N (.ok f) s'|.again c=>c.quiet=true/\codeAny (model prog w) A c N s') (λe s'=>N (.error e) s') s:=by
 have L:l≠S:=by
  obtain⟨o,e,c,_⟩:=hl;intro z;subst z;exists 0,hS,e;exact absurd (show Value.type "set" = Value.type "list" from c) #[0]
 have lt:l<s.heap.objs.size:=by obtain⟨o,e,_⟩:=hl;exact A4 e
 have t:S<s.heap.objs.size:=A4 hS;obtain⟨⟨C,D,T,a⟩,g,h,r,d⟩:=id hl;simp only at h d;subst h d;have j:s.TypeIs (.ref S) "set":=(_,hS,rfl);have k:=F.sub_list_set;have K:=F.sub_list_frozenset;have p:(Value.type "list" == Value.type "dict")=false:=#[0]
 unfold Builtin.«set.__init__» noKeywords Builtin.Frozenset.updateFrom;generalize hPI:pyIter=PI
 wp_walk
 subst hPI;refine wpAny_pyIter_list hl<|AB<|wpAny_runValue ?_;have n:l≠s.heap.objs.size:=BN lt;have E:S ∉ [s.heap.objs.size,l]:=by
  simp only[A5,DF,or_false,not_or];exact(BN t,Ne.symm L)
 refine XE (Walks.list (by simp[hh]) _ l n its).toS S E (λi=>ns.getD i 0) (λi v e=>IntsAre.int_at hi i v (by rw[Array.getElem?_toList];exact e)) hb its.size 0 _ #[2] (Bp _) ((_,Bn _ rfl,rfl,rfl),hl.push _) ?_ λu m fin=>?_
 ·exact(_,#[],0,_,Ap _ hS,(rfl,rfl,rfl),rfl,λe H=>by simp at H,#[0],by rfl,TabOk.fresh _,List.Perm.refl _,GH)
 ·rw[Moved.eq_with m]
  refine AL<|AL (q _ _ fin λb o hb e=>m.heap b o ?_<|Ap _ e);simp only[A5,DF,or_false,not_or];exact(hb,BN<|A4 e)
set_option maxHeartbeats 3200000 in
theorem Ztr {l:Addr}{its:Array Value}{ns:List Int}{Q:Au}(hh:A.handled=none) (hl:s.heap.IsList l its) (hi:IntsAre its.toList ns) (hb:its.size+1<scanBound)
  (q:∀(h':Heap) (tk:Nat),SetI prog w h' s.heap.objs.size (metK (λi=>ns.getD i 0) its.size)->(∀b o,s.heap.get? b=some o->h'.get? b=some o)->Q (.ref s.heap.objs.size) { s with heap:=h',toks:=tk }) :
  wpAny (model prog w) A (call (.type "set") [.ref l]) Q E s:=by
 have t:=F.called_set;obtain⟨c,L,g⟩:=t.mro;have j:=t.made;have k:=t.sub;have m:=t.notType;have n:=t.canCreate;have p:=F.typeCall_set_1 (.ref l);refine wpAny_call<|codeAny_of_tree (show wpAny _ _ (callAny (.type "set") _) _ _ _ from AL (Code.quiet_builtin _ #[1],codeAny_builtin F.entry_type_call ?_));rw[Around.under_plain (weight_type_call_type _ _ _) rfl]
 repeat (any_goals (first|assumption|wp_step))
 refine codeAny_mono (Zv2 (.ref l) (E:=E) (N:=λv a=>v=.ref s.heap.objs.size/\a = { s with heap:=s.heap.push (set0 w) }) (rfl,rfl)) λr a H=>?_;cases r with
 |error e=>exact H
 |ok fl=>
  cases fl with
  |ret v=>
   obtain⟨rfl,rfl⟩:=H;have S:(s.heap.push<|set0 w).get? s.heap.objs.size=some (set0 w):=Bn _ rfl;have T:Shared.TypeIs { s with heap:=s.heap.push (set0 w) } (.ref s.heap.objs.size) "set":=(_,S,rfl);have u:=t.init.lookup;have x:=t.init.bind (.ref s.heap.objs.size)
   repeat (any_goals (first|assumption|wp_step))
   refine codeAny_mono (codeAny_call_builtin (R:=wants (λr d=>r=.none/\Q (.ref s.heap.objs.size) d) E) t.init.plain F.entry_set_init<|check_set_init_1 T (Zqy (by simp[hh]) S (hl.push _) hi hb λh' tk z Z=>(rfl,q h' tk z λb o e=>Z b o (BN<|A4 e)<|Ap _ e))) λf d h=>?_;cases f with
   |error e=>exact h
   |ok fl2=>
    cases fl2 with
    |ret r=>
     obtain⟨rfl,y⟩:=h
     repeat (any_goals (first|assumption|wp_step))
    |_=>exact h.elim
  |_=>exact H.elim
end
end L2
namespace L2
#check 3
theorem Eb:PySem.Slot "set_iterator" "__next__" "set_iterator.__next__":=
 .of (owner:="set_iterator") (n:="__next__") (by rw[typeLookup_type,builtinLookup_eq_fast];kernel_rfl) #[1] #[1] #[1]
  (by first|exact .inl #[1]|exact .inr #[1]) (by rw[isSubtype_type];kernel_rfl)
theorem K0:entryFor table "set_iterator.__next__" = some Builtin.«set_iterator.__next__»:=entryFor_of_tree (by kernel_rfl)
theorem WR:entryFor table "set.__iter__" = some Builtin.«frozenset.__iter__»:=entryFor_alias (id':="frozenset.__iter__") (by kernel_rfl) rfl #[1] (by kernel_rfl)
theorem K1 (a:Value):argsOk "set_iterator.__next__" ([a],[]):=by
 unfold argsOk;kernel_rfl
abbrev setItO (first:Value) (i:Nat) (a:Addr) (n ep:Nat):Obj:={ cls:=.type "set_iterator",dict:=none,data:=.fields #[first,.int i 0,.ref a,.int n 0,.int ep 0],slots:=#[] }
#check 5
theorem Zqn {slot i next:Nat}(hI:s.heap.get? I=some (setItO (.int slot 0) i a es.size ep)) (g:SetG prog w s.heap a o es ep t ks)
  (hn:∀(A:Around) (E:Au) (Q':Option (Value × Nat)->Shared->Prop),Q' (some (x,next)) s->wpAny (model prog w) A (setNext a slot i ep) Q' E s)
  (q:∀h',h'.get? I=some (setItO (.int next 0) (i+1) a es.size ep)->Heap.SameBut I s.heap h' -> Q (some x) { s with heap:=h' }):wpAny (model prog w) A (pyNext (.ref I)) Q E s:=by
 exists 1,T;refine AB<|hn _ _ _ ?_;refine AB (wpAny_setField_rec hI #[3] λh e b=>?_);refine AB (wpAny_setField_rec (s:={ s with heap:=h }) e #[3] λH c B=>?_);exact AL (_,rfl,AL<|q H (by rw[c];rfl)<|b.trans B)
theorem Zqa {slot i:Nat}(hh:A.handled=none) (hI:s.heap.get? I=some (setItO (.int slot 0) i a es.size ep)) (g:SetG prog w s.heap a o es ep t ks)
  (hn:∀(A:Around) (E:Au) (Q':Option (Value × Nat)->Shared->Prop),Q' none s->wpAny (model prog w) A (setNext a slot i ep) Q' E s)
  (q:∀h',Heap.ExtBut I s.heap h' -> Q none { s with heap:=h' }):wpAny (model prog w) A (pyNext (.ref I)) Q E s:=by
 exists 1,h;refine AB<|hn _ _ _ ?_;refine AB (wpAny_setField_rec hI #[3] λH e B=>AB ?_);simp only[newExc,newTuple];refine AB<|wpAny_newObj_type ?_ (by size_fits);refine AB (m:=firstArgMember _ _)<|wpAny_of_eq (a:=Value.none) (by first|rfl|(simp only[firstArgMember];rfl)) ?_;refine wpAny_newObj_type ?_ (by size_fits);simp only[raiseNew];refine AB<|wpAny_handled ?_;rw[show A.in1.handled=none from hh];refine AB<|AL<|wpAny_throw ?_;refine AB<|wpAny_isInstance (T:="StopIteration") (b:=true) (_,Bn _ rfl,rfl) isSubtype_stop ?_;exact AL<|q _ ((B.extBut.push _).push _)
theorem Wz {pl:List Nat}(hI:s.heap.get? I=some (setItO (.ref T) i a es.size ep)) (g:SetG prog w s.heap a o es ep t ks)
  (hT:s.heap.get? T=some { cls:=.type "tuple",data:=.seq (pl.map λj:Nat=>rawInt (j:Int)).toArray }) (hk:pl[i]?=some k) (he:es[k]?=some e)
  (q:∀h',h'.get? I=some (setItO (.ref T) (i+1) a es.size ep)->Heap.SameBut I s.heap h' -> Q (some e.2) { s with heap:=h' }):wpAny (model prog w) A (pyNext (.ref I)) Q E s:=by
 exists 1,y;refine AB<|wpAny_seqItems hT rfl ?_;have c:(pl.map λj:Nat=>rawInt (j:Int)).toArray[(i:Int).toNat]?=some (.int (k:Int) 0):=by
  rw[BO,IP,Ad,hk];rfl
 dsimp only;rw[c];dsimp only;unfold setNextDrawn;refine AB<|AB<|wpAny_setState_of g.get g.dat g.fit ?_;dsimp only;rw[AK #[3]];rw[show es[(k:Int).toNat]?=some e from by rw[BO];exact he];obtain⟨c,d⟩:=e;refine AL ?_;refine AB (wpAny_setField_rec hI #[3] λh b B=>?_);exact AL (_,rfl,AL<|q h (by rw[b];rfl) B)
theorem WU {pl:List Nat}(hh:A.handled=none) (hI:s.heap.get? I=some (setItO (.ref T) i a es.size ep)) (g:SetG prog w s.heap a o es ep t ks)
  (hT:s.heap.get? T=some { cls:=.type "tuple",data:=.seq (pl.map λj:Nat=>rawInt (j:Int)).toArray }) (hk:pl[i]?=none)
  (q:∀h',Heap.ExtBut I s.heap h' -> Q none { s with heap:=h' }):wpAny (model prog w) A (pyNext (.ref I)) Q E s:=by
 exists 1,y;refine AB<|wpAny_seqItems hT rfl ?_;have e:(pl.map λj:Nat=>rawInt (j:Int)).toArray[(i:Int).toNat]?=none:=by
  rw[BO,IP,Ad,hk];rfl
 dsimp only;rw[e];dsimp only;refine AB (wpAny_setField_rec hI #[3] λh e B=>?_);refine AB (wpAny_setField_rec (s:={ s with heap:=h }) e #[3] λH c S=>AB ?_);simp only[newExc,newTuple];refine AB<|wpAny_newObj_type ?_ (by size_fits);refine AB (m:=firstArgMember _ _)<|wpAny_of_eq (a:=Value.none) (by first|rfl|(simp only[firstArgMember];rfl)) ?_;refine wpAny_newObj_type ?_ (by size_fits);simp only[raiseNew];refine AB<|wpAny_handled ?_;rw[show A.in1.handled=none from hh];refine AB<|AL<|wpAny_throw ?_;refine AB<|wpAny_isInstance (T:="StopIteration") (b:=true) (_,Bn _ rfl,rfl) isSubtype_stop ?_;exact AL<|q _ (((B.trans S).extBut.push _).push _)
theorem PX (a:Addr) (slot given ep:Nat):setNext a slot given ep=(do
  let (es,epoch,t) <- setState a
  if <- setsByText then
   if epoch != ep then unsupported "set_iterator.__next__:elements-changed"
   return ((<- setWalk a)[given]?).map λe=>(e.2,slot)
  if !t.plain && es.size > 1 then unsupported "set_iterator.__next__:the-table-is-plain-no-more"
  let _ <- (if !t.led && !es.isEmpty then unsupported "set:maker-not-led" else pure ():Sem Unit)
  let i:=SetTable.below t.place slot
  return match es[i]?,t.place[i]? with
   |some (_,x),some j=>some (x,j+1)
   |_,_=>none):=rfl
theorem Zqd (a:Addr):setWalk a=(do
  let (es,epoch,t) <- setState a
  if <- setsByText then return pickOrder ((<- ask).params.setOrder a epoch) es
  if !t.plain && es.size > 1 then return (<- drawOrder es.size es.toList).toArray
  let _ <- (if !t.led && es.size > 1 then unsupported "set:maker-not-led" else pure ():Sem Unit)
  return es):=rfl
theorem W7 (a:Addr):setDrawn a=(do
  let (es,_,t) <- setState a
  let byText <- setsByText
  return !byText && (!t.plain && es.size > 1)):=rfl
end
theorem O3:PySem.Slot "set_iterator" "__iter__" "set_iterator.__iter__":=
 .of (owner:="set_iterator") (n:="__iter__") (by rw[typeLookup_type,builtinLookup_eq_fast];kernel_rfl) #[1] #[1] #[1]
  (by first|exact .inl #[1]|exact .inr #[1]) (by rw[isSubtype_type];kernel_rfl)
theorem WN:entryFor table "set_iterator.__iter__" = some Builtin.«dict_keyiterator.__iter__»:=entryFor_alias (id':="dict_keyiterator.__iter__") (by kernel_rfl) rfl #[1] (by kernel_rfl)
theorem WO (a:Value):argsOk "set_iterator.__iter__" ([a],[]):=by unfold argsOk;kernel_rfl
#check 5
theorem Pa (j:s.heap.get? I=some (setItO first i a n ep)) (q:Q (.ref I) s):wpAny (model prog w) A (pyIter (.ref I)) Q E s:=by
 have T:s.TypeIs (.ref I) "set_iterator":=(_,j,rfl);refine wpAny_pyIter_slot T O3<|wpAny_call_entry O3 T WN ?_<|WO _;show wpAny _ _ (ret (.ref I)) _ _ s;exact AL (_,rfl,"set_iterator",_,T,Eb.lookup,q)
theorem LC (q:Q (byTextB w) s):wpAny (model prog w) A setsByText Q E s:=by
 unfold setsByText;exact AB<|wpAny_askSetting<|AL q
theorem QN (B:byTextB w=true) (g:SetG prog w s.heap a o es ep t ks)
  (q:Q (((pickOrder (w.params.setOrder a ep) es)[given]?).map λe=>(e.2,slot)) s):wpAny (model prog w) A (setNext a slot given ep) Q E s:=by
 rw[PX];refine AB<|wpAny_setState_of g.get g.dat g.fit<|AB<|LC ?_;rw[B];simp only[if_true];rw[AK #[3],Zqd];refine AB<|AB<|wpAny_setState_of g.get g.dat g.fit<|AB<|LC ?_;rw[B];simp only[if_true];exact AB<|wpAny_askSetting<|AL<|AL q
theorem Pf (B:byTextB w=false) (g:SetG prog w s.heap a o es ep t ks) (z:(!t.plain && decide (es.size > 1))=false)
  (q:Q (match es[SetTable.below t.place slot]?,t.place[SetTable.below t.place slot]? with|some (_,x),some j=>some (x,j+1)|_,_=>none) s):wpAny (model prog w) A (setNext a slot given ep) Q E s:=by
 have l:t.led=true:=by rw[g.tab.led,B];rfl
 rw[PX];refine AB<|wpAny_setState_of g.get g.dat g.fit<|AB<|LC ?_;rw[B];simp only[Bu,if_false,z,l,Fs,Er];exact AB<|AL<|AL q
theorem NB {α:Type}:∀{l:List α}{i:Nat}(h:i<l.length),(l[i]::l.eraseIdx i).Perm l
 |x::l,0,_=>List.Perm.refl _
 |x::l,i+1,h=>by
  have H:i<l.length:=#[9]
  show (l[i]::x::l.eraseIdx i).Perm (x::l);exact(List.Perm.swap _ _ _).trans (List.Perm.cons _<|NB H)
theorem So (j:Nat->Nat):∀(fuel k:Nat) (left:List α) (out:Array α),left.length=fuel->(pickOrder.go j fuel k left out).toList.Perm (out.toList++left)
 |0,k,left,out,h=>by
  have:left=[]:=Fn h;subst this;unfold pickOrder.go;rw[Bj]
 |fuel+1,k,left,out,h=>by
  unfold pickOrder.go;have i:j k % left.length<left.length:=Ea _ #[2]
  rw[AZ i];dsimp only;refine(So j fuel (k+1) _ _ (by rw[GA i];lia)).trans ?_;rw[Array.toList_push,DM];refine List.Perm.append_left _ ?_;exact NB i
theorem Zt4 (j:Nat->Nat) (xs:Array α):(pickOrder j xs).toList.Perm xs.toList:=by
 unfold pickOrder;exact So j xs.size 0 xs.toList #[] #[3]
def slotAt (pl:Array Nat):Nat->Nat
 |0=>0
 |j+1=>pl.getD j 0+1
theorem O8 (R:D4 pl) (q:j<=pl.size):SetTable.below pl (slotAt pl j)=j:=by
 obtain⟨a,b,B⟩:=K4 R<|slotAt pl j;cases j with
 |zero=>
  apply Classical.byContradiction;intro h;have t:0<pl.size:=#[2]
  have:=b 0 _ #[2]<|Array.getElem?_eq_getElem t;exact absurd this (by show ¬ _<0;lia)
 |succ j=>
  have t:j<pl.size:=#[2]
  have g:pl.getD j 0=pl[j]:=by simp[Array.getD,t]
  have s:slotAt pl (j+1)=pl[j]+1:=by show pl.getD j 0+1=_;rw[g]
  rw[s]at a b B ⊢;rcases Ka (SetTable.below pl<|pl[j]+1) (j+1) with z|z|z
  ·have:=B j _ #[2] (Array.getElem?_eq_getElem t)
   lia
  ·exact z
  ·have l:j+1<pl.size:=by lia
   have H:=b (j+1) _ z<|Array.getElem?_eq_getElem l;have c:=R j (j+1) _ _ #[2] (Array.getElem?_eq_getElem t)<|Array.getElem?_eq_getElem l;lia
theorem SetG.keep (g:SetG prog w h a o es ep t ks) (k:∀o,h.get? a=some o->h'.get? a=some o):SetG prog w h' a o es ep t ks:=
 (k _ g.get,g.ex,g.dat,g.el,g.room,g.fit,g.tab,g.perm,g.nd)
theorem Pl (hh:A.handled=none) {I a:Addr}(hne:a≠I) {o:Obj}{es:Array (Int × Value)}{ep:Nat}{t:SetTable}{ks:List Int}(sl:Nat->Nat) (L:List (Int × Value))
  (hs:∀(s:Shared) j e,SetG prog w s.heap a o es ep t ks->L[j]?=some e->∀(A:Around) (E:Au) (Q':Option (Value × Nat)->Shared->Prop),Q' (some (e.2,sl (j+1))) s->wpAny (model prog w) A (setNext a (sl j) j ep) Q' E s)
  (hd:∀(s:Shared),SetG prog w s.heap a o es ep t ks->∀(A:Around) (E:Au) (Q':Option (Value × Nat)->Shared->Prop),Q' none s->wpAny (model prog w) A (setNext a (sl L.length) L.length ep) Q' E s) :
  Walks prog w A I [I,a] [I] L.length (λj v=>∃e,L[j]?=some e/\v=e.2) (λj h=>h.get? I=some (setItO (.int (sl j) 0) j a es.size ep)/\SetG prog w h a o es ep t ks) where
 sub:=λb B=>by simp at B;simp[B]
 frame:=λ_ _ _ T k=>(k I #[3] _ T.1,T.2.keep λo e=>k a #[3] o e)
 item:=λi s Q E d T H=>by
  refine Zqn T.1 T.2 (hs s i _ T.2<|AZ d) λc e S=>?_;refine H _ c s.toks (_,AZ d,rfl) (e,T.2.keep λo q=>(S.2 a hne).trans q) λb o B q=>(S.2 b λz=>B (by simp[z])).trans q
 done:=λs Q E T H=>Zqa hh T.1 T.2 (hd s T.2) λc f=>H c s.toks λb o B e=>f b o (λz=>B (by simp[z])) e
 self:=λ_ _ _ _ T H=>Pa T.1 H
theorem W5 (hh:A.handled=none) {I a T:Addr}(hne:a≠I) (hnt:T≠I) {o:Obj}{es:Array (Int × Value)}{ep:Nat}{t:SetTable}{ks:List Int}(pl:List Nat) (L:List (Int × Value)) (hl:L.length=pl.length) (hs:∀(j k:Nat) e,pl[j]?=some k->L[j]?=some e->es[k]?=some e) :
  Walks prog w A I [I,a,T] [I] L.length (λj v=>∃e,L[j]?=some e/\v=e.2) (λj h=>h.get? I=some (setItO (.ref T) j a es.size ep)/\SetG prog w h a o es ep t ks/\h.get? T=some { cls:=.type "tuple",data:=.seq (pl.map λj:Nat=>rawInt (j:Int)).toArray }) where
 sub:=λb B=>by simp at B;simp[B]
 frame:=λ_ _ _ S K=>(K I #[3] _ S.1,S.2.1.keep λo e=>K a #[3] o e,K T #[3] _ S.2.2)
 item:=λi s Q E f S H=>by
  have p:i<pl.length:=#[2]
  refine Wz S.1 S.2.1 S.2.2 (AZ p) (hs i _ _ (AZ p)<|AZ f) λc e d=>?_;refine H _ c s.toks (_,AZ f,rfl) (e,S.2.1.keep λo q=>(d.2 a hne).trans q,(d.2 T hnt).trans S.2.2) λb o B q=>(d.2 b λz=>B (by simp[z])).trans q
 done:=λs Q E S H=>WU hh S.1 S.2.1 S.2.2 (Ds #[2]) λc g=>H c s.toks λb o B e=>g b o (λz=>B (by simp[z])) e
 self:=λ_ _ _ _ S H=>Pa S.1 H
theorem Zsw (hn:n≠0) (q:∀k dr,k<n->Q k { s with drawn:=dr }):wpAny (model prog w) A (choose src n) Q E s:=by
 intro Γ p _;unfold choose;rw[Sem.wp_choose];refine(hn,?_);show Sem.wp _ _ (Sem.pure _) _ _ _ _
 first|rw[Sem.wp_pure]|simp only[Sem.wp]
 exact q _ _<|Ea _<|Nat.pos_of_ne_zero hn
theorem SQ:∀(n:Nat) {s:Shared}{xs:List Nat}{Q:List Nat->Shared->Prop},xs.length=n->(∀ys dr,ys.Perm xs->Q ys { s with drawn:=dr })->wpAny (model prog w) A (drawOrder n xs) Q E s
 |0,s,xs,Q,h,q=>by
  have:xs=[]:=Fn h;subst this;unfold drawOrder;exact AL<|q [] s.drawn<|List.Perm.refl _
 |n+1,s,[],Q,h,q=>by simp at h
 |n+1,s,x::xs,Q,h,q=>by
  unfold drawOrder;refine AB (Zsw #[3] λk dr K=>?_);rw[AZ K];refine AB (SQ n (by rw[GA K];lia) λys r y=>AL<|q _ r ?_);exact(List.Perm.cons _ y).trans (NB K)
end
#check 5
structure SWalk (prog:Program) (w:World) (A:Around) (a:Addr) (es:Array (Int × Value)) (s s1:Shared) (I:Addr) where
 fp:List Addr
 L:List (Int × Value)
 St:Nat->Heap->Prop
 old:∀b o,s.heap.get? b=some o->s1.heap.get? b=some o
 new:s.heap.objs.size<=I
 fpo:∀b∈fp,b=a\/s.heap.objs.size<=b
 perm:L.Perm es.toList
 W:Walks prog w A I fp [I] L.length (λj v=>∃e,L[j]?=some e/\v=e.2) St
 st:St 0 s1.heap
theorem NH (es:Array (Int × Value)):(AV es.size).map (λk=>es.getD k (0,.none))=es.toList:=by
 apply Kc
 ·simp
 ·intro i h1 h2
  simp only[List.getElem_map,Gu,Array.getElem_toList];simp only[Array.length_toList]at h2;simp[Array.getD,h2]
theorem set_iter (hh:A.handled=none) (g:SetG prog w s.heap a o es ep t ks)
  (q:∀(h1:Heap) dr (I:Addr),Nonempty (SWalk prog w A a es s { s with heap:=h1,drawn:=dr } I)->Q (.ref I) { s with heap:=h1,drawn:=dr }):wpAny (model prog w) A (pyIter (.ref a)) Q E s:=by
 have T:s.TypeIs (.ref a) "set":=(o,g.get,g.ex.1);have l:a<s.heap.objs.size:=A4 g.get;have n:a≠s.heap.objs.size:=BN l;have N:a≠s.heap.objs.size+1:=BN<|Dp l;have m:es.size<=sizeLine:=by
  have:=g.room;rw[sizeLine_eq];unfold scanBound at this;lia
 refine wpAny_pyIter_slot T F.slot_set_iter<|wpAny_call_entry F.slot_set_iter T WR ?_<|F.args_set_iter_1 _;unfold Builtin.«frozenset.__iter__» Builtin.Frozenset.slot0 slotArgs;simp only[MC,Fs,Bu,↓reduceIte,bind_assoc,Dq,bne_self_eq_false];unfold Builtin.Frozenset.addrOf Builtin.Frozenset.sizeOf;refine AB<|AL ?_
 try dsimp only
 refine AB<|AL ?_;refine AB<|AB<|wpAny_setEntries_of g.get g.dat g.fit<|AL ?_;rw[W7];refine AB<|AB<|wpAny_setState_of g.get g.dat g.fit<|AB<|LC<|AL ?_;by_cases hd:(!byTextB w && (!t.plain && decide (es.size > 1)))=true
 ·have D:=hd
  rw[AN hd];refine AB (SQ es.size #[3] λy dr Y=>?_);have L:=Y.length_eq;rw[Bt]at L;refine AB<|wpAny_newTuple ?_ (by rw[AJ,L];exact m);have G:=g.keep (h':=s.heap.push<|seqObj "tuple" (y.map λi:Nat=>rawInt (i:Int)).toArray 0) λo e=>Ap _ e;refine AB<|wpAny_setEpoch_of G.get G.dat G.fit ?_;refine AB<|wpAny_newObj_type ?_ (by size_fits);have z:(s.heap.push<|seqObj "tuple" (y.map λi:Nat=>rawInt (i:Int)).toArray 0).objs.size=s.heap.objs.size+1:=size_push' _ _;have H:((s.heap.push<|seqObj "tuple" (y.map λi:Nat=>rawInt (i:Int)).toArray 0).push (setItO (.ref s.heap.objs.size) 0 a es.size ep)).get? (s.heap.objs.size+1)=some (setItO (.ref s.heap.objs.size) 0 a es.size ep):=by
   rw[<- z];exact Bn _ rfl
  have u:((s.heap.push<|seqObj "tuple" (y.map λi:Nat=>rawInt (i:Int)).toArray 0).push (setItO (.ref s.heap.objs.size) 0 a es.size ep)).get? s.heap.objs.size=some { cls:=.type "tuple",data:=.seq (y.map λj:Nat=>rawInt (j:Int)).toArray }:=
   Ap _ (Bn _ rfl)
  show wpAny _ _ (ret (.ref (s.heap.push<|seqObj "tuple" (y.map λi:Nat=>rawInt (i:Int)).toArray 0).objs.size)) _ _ { s with heap:=(s.heap.push<|seqObj "tuple" (y.map λi:Nat=>rawInt (i:Int)).toArray 0).push (setItO (.ref s.heap.objs.size) 0 a es.size ep),drawn:=dr };rw[z];refine AL (_,rfl,"set_iterator",_,(_,H,rfl),Eb.lookup,?_);have c:∀k∈y,k<es.size:=λk K=>BB.mp<|Y.mem_iff.mp K;have f:(y.map λk=>es.getD k (0,.none)).length=y.length:=AJ _;refine q _ dr (s.heap.objs.size+1) ⟨([s.heap.objs.size+1,a,s.heap.objs.size],y.map λk=>es.getD k (0,.none),_,λb o e=>Ap _<|Ap _ e,Et _,?_,?_,W5 hh N (BN<|HB _) y _ f ?_,H,G.keep λo e=>Ap _ e,u)⟩
  ·intro b B
   simp only[A5,DF,or_false]at B;rcases B with h|h|h
   ·exact .inr (by rw[h];exact Et _)
   ·exact .inl h
   ·exact .inr<|Nat.le_of_eq h.symm
  ·exact(Y.map _).trans (List.Perm.of_eq<|NH es)
  ·intro j k e h1 h2
   rw[Ad,h1]at h2;cases h2;have:=c k<|Be h1;simp[Array.getD,this]
 ·rw[AK hd]
  refine AB<|AL ?_;refine AB<|wpAny_setEpoch_of g.get g.dat g.fit ?_;refine AB<|wpAny_newObj_type ?_ (by size_fits);have H:(s.heap.push<|setItO (.int 0 0) 0 a es.size ep).get? s.heap.objs.size=some (setItO (.int 0 0) 0 a es.size ep):=Bn _ rfl;refine AL (_,rfl,"set_iterator",_,(_,H,rfl),Eb.lookup,?_);have G:=g.keep (h':=s.heap.push<|setItO (.int 0 0) 0 a es.size ep) λo e=>Ap _ e;have p:∀b∈[s.heap.objs.size,a],b=a\/s.heap.objs.size<=b:=λb B=>by
   simp at B;rcases B with h|h
   ·right;lia
   ·exact .inl h
  cases B:byTextB w with
  |true=>
   refine q _ s.drawn s.heap.objs.size ⟨([s.heap.objs.size,a],(pickOrder (w.params.setOrder a ep) es).toList,_,λb o e=>Ap _ e,AU _,p,Zt4 _ _,Pl hh n (λ_=>0) _ ?_ ?_,H,G)⟩
   ·intro s j e g he A E Q' hq
    refine QN B g ?_;rw[Array.getElem?_toList]at he;rw[he];exact hq
   ·intro s g A E Q' hq
    refine QN B g ?_;rw[Array.getElem?_eq_none #[3]];exact hq
  |false=>
   have d:(!t.plain && decide (es.size > 1))=false:=by
    rw[B]at hd;simpa using hd
   have S:t.place.size=es.size:=by
    have:=g.fit;unfold SetTable.fits at this;simp only[Cv,beq_iff_eq]at this;exact this.1
   refine q _ s.drawn s.heap.objs.size ⟨([s.heap.objs.size,a],es.toList,_,λb o e=>Ap _ e,AU _,p,List.Perm.refl _,Pl hh n (slotAt t.place) _ ?_ ?_,H,G)⟩
   ·intro s j e g he A E Q' hq
    refine Pf B g d ?_;rw[Array.getElem?_toList]at he;have J:=(Array.getElem?_eq_some_iff.mp he).1;rw[O8 g.tab.ris #[2],he,Array.getElem?_eq_getElem #[2]];have:slotAt t.place (j+1)=t.place[j]+1:=by
     show t.place.getD j 0+1=_;simp[Array.getD,show j<t.place.size by omega]
    rw[this]at hq;exact hq
   ·intro s g A E Q' hq
    refine Pf B g d ?_;rw[Array.length_toList,O8 g.tab.ris (Nat.le_of_eq S.symm),Array.getElem?_eq_none (AU _)];exact hq
end
#check 5
theorem Zv0 (j:s.TypeIs (.ref r) "set") (h:Q false s):wpAny (model prog w) A (Builtin.List.listLengthHint (.ref r)) Q E s:=by
 unfold Builtin.List.listLengthHint;refine AB<|wpAny_specialOf j F.slot_set_len.lookup ?_;generalize hid:("set.__len__":String)=nm
 wp_delta
 rw[show splitId nm=some ("set","__len__") by subst hid;decide +kernel];subst hid;refine AB<|wpAny_isInstance (T:="set") (b:=true) j (by rw[isSubtype_type];kernel_rfl) ?_;refine wpAny_ite_split (λz=>absurd z #[0]) λ_=>?_;refine wpAny_ite_split (λ_=>AB<|wpAny_typeOf j<|AL h) λz=>absurd #[1] z
theorem W9 {L:List (Int × Value)}(h:ItemsOf (λj v=>∃e,L[j]?=some e/\v=e.2) acc L.length):acc.toList=L.map (·.2):=by
 obtain⟨b,H⟩:=h;apply EU;intro i;rw[Array.getElem?_toList,Ad];by_cases hi:i<acc.size
 ·obtain⟨e,E,a⟩:=H i _ (Array.getElem?_eq_getElem hi)
  rw[E,Array.getElem?_eq_getElem hi,a];rfl
 ·rw[Array.getElem?_eq_none #[2],Ds #[2]];rfl
theorem XF {R:Result->Shared->Prop}{a S:Addr}{o:Obj}{es:Array (Int × Value)}{ep c₀:Nat}{t:SetTable}{ks:List Int}(hh:A.handled=none) (g:SetG prog w s.heap a o es ep t ks) (hSa:S≠a) (res:Value) (hS:s.heap.get? S=some { cls:=.type "list",data:=.seq #[] c₀ })
  (hR:∀h' tk dr c' (L:List (Int × Value)),(∀b o,b≠S->s.heap.get? b=some o->h'.get? b=some o)->L.Perm es.toList->h'.get? S=some { cls:=.type "list",dict:=none,data:=.seq (L.map (·.2)).toArray c',slots:=#[] } -> R (.ok (.ret res)) { s with heap:=h',toks:=tk,drawn:=dr }) :
  wpAny (model prog w) A.in1 (Builtin.List.listExtendWith (.ref S) (.ref a) res)
   (λfin s'=>match fin with|.done f=>R (.ok f) s'|.again c'=>c'.quiet=true/\codeAny (model prog w) A c' R s') (λe s'=>R (.error e) s') s:=by
 have r:s.TypeIs (.ref a) "set":=(o,g.get,g.ex.1);have l:S<s.heap.objs.size:=A4 hS;unfold Builtin.List.listExtendWith;refine AB<|wpAny_typeOf (T:="set") r ?_;have j:Builtin.List.listSameRef (.ref S) (.ref a)=false:=by simp[Builtin.List.listSameRef,hSa]
 have n:(Value.type "set" == Value.type "list")=false:=#[1]
 have p:(Value.type "set" == Value.type "tuple")=false:=#[1]
 simp only[j,n,p,Bool.or_false,Bu,if_false];refine AB (set_iter hh g λj dr I ⟨K⟩=>?_);have q:=K.perm.length_eq;have N:K.L.length<=sizeLine:=by
  have:=g.room;rw[q,Array.length_toList,sizeLine_eq];unfold scanBound at this;lia
 have H:S ∉ K.fp:=λz=>by
  rcases K.fpo S z with z|z
  ·exact hSa z
  ·exact absurd l<|Nat.not_lt.mpr z
 have y:∀(h:Heap) (c₁ tk:Nat),K.St 0 h->(∀b o,b≠S->s.heap.get? b=some o->h.get? b=some o) ->
   h.get? S=some { cls:=.type "list",data:=.seq #[] c₁ } -> codeAny (model prog w) A (.builtin "list.extend.loop" ([.ref S,.ref I,res],[])) R { s with heap:=h,toks:=tk,drawn:=dr }:=by
  intro h c₁ tk hst hk hS₁;refine codeAny_extend_loopS K.W.toS N S H res _ 0 _ #[] c₁ rfl (Bp _) hst hS₁ (ItemsOf.nil _) λs' C c' M i c=>?_;rw[Moved.eq_with M];have k:=W9 c;refine hR s'.heap s'.toks dr c' K.L (λb o B e=>M.heap b o (λm=>?_)<|hk b o B e) K.perm ?_
  ·rcases A5.mp m with E|m
   ·exact B E
   ·exact absurd (A4 e) (by rw[CK.mp m];exact Nat.not_lt.mpr K.new)
  ·rw[<- k,Array.toArray_toList];exact i
 have hS₁:=K.old _ _ hS;refine AB<|CO<|Zv0 (o,K.old _ _ g.get,g.ex.1) ?_;refine wpAny_ite_split (λ_=>?_) λ_=>AL (plainId_quiet F.plain_extend_loop _,y _ c₀ _ K.st (λb o _ e=>K.old _ _ e) hS₁);refine AB<|Eh ?_;refine AB ?_;show wpAny _ _ (updateSeq S (·.push .none) >>= λ_=>updateSeq S (·.pop)) _ _ _;refine AB<|wpAny_updateSeq hS₁ rfl ?_;have hS₂:=GD (Obj.mapSeq (·.push Value.none)) hS₁ rfl;refine wpAny_updateSeq (hz:=by seq_fits) hS₂ rfl ?_;have hS₃:=GD (Obj.mapSeq (·.pop)) hS₂ rfl;refine AL (plainId_quiet F.plain_extend_loop _,y _ _ _ ?_ (λb o B e=>?_) hS₃)
 ·refine K.W.frame 0 _ _ K.st λb B o e=>?_
  have d:S≠b:=λh=>H (h ▸ B);exact(Gy _ _ d).trans ((Gy _ _ d).trans e)
 ·exact(Gy _ _<|Ne.symm B).trans ((Gy _ _<|Ne.symm B).trans (K.old _ _ e))
theorem XD {R:List Value->Shared->Prop}{a:Addr}{o:Obj}{es:Array (Int × Value)}{ep:Nat}{t:SetTable}{ks:List Int}(hh:A.handled=none) (g:SetG prog w s.heap a o es ep t ks)
  (h:∀(h':Heap) (tk:Nat) dr (L:List (Int × Value)),(∀b o,s.heap.get? b=some o->h'.get? b=some o)->s.heap.objs.size<h'.objs.size->L.Perm es.toList->R (L.map (·.2)) { s with heap:=h',toks:=tk,drawn:=dr }) :
  wpAny (model prog w) A (collect (.ref a)) R E s:=by
 have T:a<s.heap.objs.size:=A4 g.get;unfold collect;refine AB<|wpAny_runValue<|codeAny_builtin entry_proto_collect' ?_;rw[Around.under_plainId F.plain_proto_collect _];show wpAny _ A.in1 (newList [] >>= λl=>again (.builtin "list.__iadd__" ([l,.ref a],[]))) _ _ s;refine AB<|wpAny_newList ?_;refine AL (plainId_quiet F.plain_list_iadd _,codeAny_builtin entry_list_iadd' ?_);rw[Around.under_plainId F.plain_list_iadd _];show wpAny _ A.in1 (Builtin.List.listExtendWith (.ref s.heap.objs.size) (.ref a) (.ref s.heap.objs.size)) _ _ _;have hS₁:(s.heap.push<|seqObj "list" ([]:List Value).toArray 0).get? s.heap.objs.size=some { cls:=.type "list",data:=.seq #[] 0 }:=Bn _ rfl;have z:=XF (A:=A) (s:={ s with heap:=s.heap.push (seqObj "list" ([]:List Value).toArray 0) })
  (R:=λ(q:Result) (d:Shared)=>∃(h':Heap) (tk:Nat) (dr:_) (c:Nat) (L:List (Int × Value)),q=.ok (.ret (.ref s.heap.objs.size))/\d = { s with heap:=h',toks:=tk,drawn:=dr } /\
   (∀b o,s.heap.get? b=some o->h'.get? b=some o)/\L.Perm es.toList/\h'.get? s.heap.objs.size=some { cls:=.type "list",dict:=none,data:=.seq (L.map (·.2)).toArray c,slots:=#[] })
  hh (g.keep λo e=>Ap _ e) (El T) (.ref s.heap.objs.size) hS₁
  λh' tk dr c L k p S=>(h',tk,dr,c,L,rfl,rfl,λb o e=>k b o (BN<|A4 e)<|Ap _ e,p,S)
 refine D2 z (λn d x=>?_) λe d x=>?_
 ·cases n with
  |done f=>
   obtain⟨h',tk,dr,c,L,e,rfl,k,p,S⟩:=x;cases e;show wpAny _ A (load s.heap.objs.size >>= _) _ _ _;refine AB<|wpAny_load S ?_;exact AL<|h h' tk dr L k (A4 S) p
  |again c₁=>
   refine(x.1,codeAny_mono x.2 λq s₂ y=>?_);obtain⟨h',tk,dr,c,L,rfl,rfl,k,p,S⟩:=y;show wpAny _ A (load s.heap.objs.size >>= _) _ _ _;refine AB<|wpAny_load S ?_;exact AL<|h h' tk dr L k (A4 S) p
 ·obtain⟨h',tk,dr,c,L,e,_⟩:=x
  cases e
theorem Ph:∀{vs:List Value},(∀v∈vs,∃t,v=.int (numOf v) t)->IntsAre vs (vs.map numOf)
 |[],_=>.nil
 |v::vs,h=>by
  obtain⟨t,e⟩:=h v #[3];have:=Ph (vs:=vs) λu U=>h u<|Bl _ U;rw[Bz];generalize numOf v=n at e ⊢;subst e;exact .cons _ t this
theorem Zqh {a:Addr}{ks:List Int}{Q:Au}(hh:A.handled=none) (hS:SetI prog w s.heap a ks) (h64:ks.length<64)
  (h:∀(h':Heap) (tk:Nat) dr (l:Addr) (out:List Value) (ms:List Int) (c:Nat),(∀b o,s.heap.get? b=some o->h'.get? b=some o)->s.heap.objs.size<=l->h'.get? l=some (seqObj "list" out.toArray c)->IntsAre out ms->ms.Perm ks->ms.Pairwise (· <= ·)->Q (.ref l) { s with heap:=h',toks:=tk,drawn:=dr }) :
  wpAny (model prog w) A (call (.builtin "sorted") [.ref a]) Q E s:=by
 obtain⟨o,S,P,t,g⟩:=hS;refine Calls.call_function_entry kind_sorted plain_sorted entry_sorted (args_sorted1 _) ?_;unfold Builtin.«sorted»;refine AB (m:=checkCount "sorted" 1 1 _)<|AL ?_;refine AB (XD hh g λh' tk dr L K z p=>?_);have I:IntsAre (L.map (·.2)) ((L.map (·.2)).map numOf):=Ph λv V=>by
  obtain⟨e,j,rfl⟩:=A6.mp V;exact Q1 g.el<|p.mem_iff.mp j
 have k:((L.map (·.2)).map numOf).Perm ks:=by
  rw[BS];exact(p.map _).trans g.perm
 have n:(L.map (·.2)).length<64:=by
  have:=k.length_eq;rw[AJ]at this;lia
 refine AB<|wpAny_newList ?_ (by rw[sizeLine_eq];lia);have O:(h'.push<|seqObj "list" (L.map (·.2)).toArray 0).get? h'.objs.size=some (seqObj "list" (L.map (·.2)).toArray 0):=Bn _ rfl;refine AB<|CO<|wpAny_call_entry slot_list_sort (_,O,rfl) entry_list_sort (list_sort_tree O I n λout ms d f i=>(_,rfl,?_))<|args_list_sort _;obtain⟨c,C⟩:=sortedHeap_at (out:=out) O;refine AL (_,rfl,h _ tk dr _ out.toList ms c (λb o e=>?_) (Cj z) (by rw[Array.toArray_toList];exact C) d (f.trans k) i);have H:=K b o e;have B:=A4 H;rw[sortedHeap_old (BN B) (by rw[size_push'];exact Dp B)];exact Ap _ H
end
#check 0
theorem AH.drew (I:AH X pins Z H s) (dr:_):AH X pins Z H { s with drawn:=dr }:=
 (I.ok,I.os,I.bare,I.base,I.loc,I.cell,I.free,I.freeC,I.pin,I.hok,I.len)
theorem Ztf {ms:List Int}(h1:ms.Pairwise (· <= ·)) (h2:ms.Nodup):ms.Pairwise (· < ·):=by
 have:=List.Pairwise.and h1 h2;exact this.imp λq=>by obtain⟨a,b⟩:=q;lia
theorem Wm {ns:List Int}:x∈metK (λi=>ns.getD i 0) ns.length↔x∈ns:=by
 rw[Zvl];constructor
 ·rintro⟨j,J,rfl⟩
  rw[Av,AZ J];exact B6 J
 ·intro h
  obtain⟨j,J,rfl⟩:=Jz h;exact(j,J,by rw[Av,AZ J];rfl)
def tSS (K:W.Frag) (ta:TA):TE:=λZ H Q=>ta Z H λs h=>∃(p:Addr) (ns:List Int),s=[.ref p]/\SqL K h p (ns.map V.int)/\ns.length<64/\∀(l:Addr) (ms:List Int),ms.Pairwise (· < ·)->(∀x,x∈ms↔x∈ns)->h l=none->Q (.ref l) (upd h l (.lst<|ms.map V.int))
theorem Pu {a:Expr}{ta:TA}{p p2 pos pos2:Pos}{K:W.Frag}(hK:X.K=K) (hc:X.calm=true) (hgL:Gl X "sorted") (hmL:X.mg "sorted" = none) (hgR:Gl X "set") (hmR:X.mg "set" = none) (ha:PA X [a] ta) (hs:starEach [a] X.env=[(false,eval a X.env)]:=by rfl)
  (he:starEach [.Call (.Name "set" p2) [a] [] pos2] X.env=[(false,eval (.Call (.Name "set" p2) [a] [] pos2) X.env)]:=by rfl) :
  PE X (.Call (.Name "sorted" p) [.Call (.Name "set" p2) [a] [] pos2] [] pos) (tSS K ta):=by
 subst hK;intro pins s Z H Q I h;refine wpAny_Call_Name_kw<|EJ I hgL hmL NM ?_;refine PyProof.Rows.callWith_builtin1 ?_ he rfl;rw[he];show wpAny _ _ (spliced ((false,eval (.Call (.Name "set" p2) [a] [] pos2) X.env)::backTo pos [])) _ _ s;refine Calls.spliced_cons ?_;refine wpAny_Call_Name_kw<|EJ I hgR hmR Tu ?_;refine PyProof.Rows.callWith_type1 (thn (ha pos2 pins s Z H _ I h) λus s1 (vs,H1,I1,r1,q1)=>?_) hs rfl;obtain⟨p,N,e,B,G,q⟩:=q1;subst e;obtain⟨u,rfl,U⟩:=vals1 r1;cases (show u=Value.ref p from U);obtain⟨t,F,E,O⟩:=I1.list B;have r:=K5 F;have n:=r.length;refine Ztr (I1.ok.hd hc) E.isList (by simpa using r) (by rw[BR];unfold scanBound;lia) λj v S A=>?_;rw[show t.toArray.size=N.length by rw[BR];exact n]at S;refine Calls.spliced_nil ?_;have f:AH X pins Z H1 { s1 with heap:=j,toks:=v }:=I1.kept A;have J:=RQ (λi=>N.getD i 0) N.length;refine Zqh (s:={ s1 with heap:=j,toks:=v }) (I1.ok.hd hc) S #[2] λz k R l T m c C L o b P d=>?_;have M:=P.length_eq;have D:m.Nodup:=by
  obtain⟨_,_,_,_,g⟩:=S;exact P.nodup_iff.mpr g.nd
 have y:=(f.laid (t':=k) C L (show ObjOk X.prog X.w _ z l (.lst<|m.map V.int) from (by rw[AJ];exact Cj (small1000 #[2]),T,c,LK b,o))).drew R;exact(.ref l,_,y,rfl,q l m (Ztf d D) (λx=>P.mem_iff.trans Wm)<|f.hok.fresh L)
end
#check 4
theorem Ow (h:JA K ta J λds J1=>∃ns:List Int,ds=[.lst (ns.map .int)]/\ns.length<64/\∀ms:List Int,ms.Pairwise (· < ·)->(∀x,x∈ms↔x∈ns)->Po (.lst<|ms.map .int) J1):JO K (tSS K ta) J Po:=λg G H Z Q k c=>
 h g G H Z _ k λS ds b j J1 d s R q=>by
  obtain⟨ns,e,L,p⟩:=q;subst e;obtain⟨_,_,rfl,r,t⟩:=R.inv
  next=>
   cases t.inv;obtain⟨a,u,rfl,A,i⟩:=r.inv
   next=>
    have v:=i.ints;subst v;refine(a,ns,rfl,SqL.of<|d.live _ _ A,L,λl ms o O L=>?_);obtain⟨f,D⟩:=d.fresh (od:=.lst<|ms.map .int) L (show OwnRep K b (.lst<|ms.map V.int) (.lst<|ms.map .int) from Reps.ofInts ms);exact c l _ b _ J1 f s D<|p ms o O
end
structure CompScK (osc:Scope) (oN:List Str) (y:Str) (scope:Scope) (fvs:List Str) (sel:List Nat):Prop where
 kind:scope.kind=.function
 one:scope.names.filter (λz=>z.2 == .cell)=[(y,.cell)]
 own:∀z∈scope.names,z.1=y->z.2=.cell
 names:∀z∈scope.names,z.2=.local->scope.names.lookup z.1=some .local
 free:∀z∈scope.names,z.2=.free->osc.names.lookup z.1=some .cell\/osc.names.lookup z.1=some .free
 len:fvs.length=sel.length
 fv:∀p∈fvs.zip sel,oN[p.2]?=some p.1/\scope.names.lookup p.1=some .free
def compCxK (X:Cx) (y:Str) (scope:Scope) (N:List Str) (C:Addr) (s:Shared) (H:Hp) (ex:List Addr) (pn:Ax):Cx:=
 { compCx X scope N C s H ex pn with env:=compEnvC scope ((y,C+1)::clOf X.env scope.names []) C X.env,fn:=λx=>x == y }
theorem M3:∀(names:List (Str × NameKind)) (n:Nat) (acc:List (Str × Addr)),(names.filter (λz=>z.2 == .cell)=[]->cellsFrom n names acc=acc)/\(names.filter (λz=>z.2 == .cell)=[(y,.cell)]->cellsFrom n names acc=(y,n)::acc)
 |[],n,acc=>(λ_=>rfl,λh=>by simp at h)
 | (x,k)::r,n,acc=>by
  unfold cellsFrom;rw[DV];cases hk:k == NameKind.cell with
  |true=>
   simp only[hk,if_true];refine(λh=>by simp at h,λh=>?_);have H:=(Ft.inj h).1;have a:=(Ft.inj h).2;cases H;exact(M3 (y:=y) r (n+1) _).1 a
  |false=>
   simp only[hk,Bu,if_false];exact M3 r n acc
theorem Mz:∀(names:List (Str × NameKind)) (h:Heap),(names.filter (λz=>z.2 == .cell)=[]->pushCells h names=h)/\(names.filter (λz=>z.2 == .cell)=[(y,.cell)]->pushCells h names=h.push { cls:=.type "cell",data:=.cell none })
 |[],h=>(λ_=>rfl,λh=>by simp at h)
 | (x,k)::r,h=>by
  unfold pushCells;rw[DV];cases hk:k == NameKind.cell with
  |true=>
   simp only[hk,if_true];exact(λh=>by simp at h,λe=>(Mz (y:=y) r _).1 (Ft.inj e).2)
  |false=>
   simp only[hk,Bu,if_false];exact Mz r h
section
variable {X:Cx}{pins:Ax}{Z:St}{H:Hp}{s:Shared}{fp:List Addr}{scope:Scope}{tgs fvs:List Str}{sel:List Nat}{y:Str}
theorem newEnvK {M:Model}{A:Around}{E:Au}{osc:Scope}{oN:List Str}{g:Addr}{cl:List (Str × Addr)}{qual:Str}{env:Env}{Q:Env->Shared->Prop}(S:CompScK osc oN y scope fvs sel)
  (q:∀h',h'.Ns s.heap.objs.size (λ_=>none)->h'.IsCell (s.heap.objs.size+1) none->(∀b o,s.heap.get? b=some o->h'.get? b=some o) ->
   Q { scope,locals:=s.heap.objs.size,globals:=g,cells:=(y,s.heap.objs.size+1)::cl,qual,func:=none,code:=env.code,frame:=env.frame,builtins:=env.builtins } { s with heap:=h' }) :
  wpAny M A (newFunctionEnv scope g cl [] qual none .none<|some env) Q E s:=by
 simp only[newFunctionEnv,Option.isSome_some,if_true];refine AB<|wpAny_alloc ?_;refine AB<|wpAny_layCells _ (λm d cells=>by cases hkc:d == NameKind.cell <;> simp[hkc]) _ _ _ _ ?_
 have h:(s.heap.push { cls:=.type "dict",data:=.dict #[] }).objs.size=s.heap.objs.size+1:=Ep ..;rw[(M3 (y:=y) _ _ _).2 S.one,(Mz (y:=y) _ _).2 S.one];show wpAny M A _ Q E { s with heap:=(s.heap.push { cls:=.type "dict",data:=.dict #[] }).push { cls:=.type "cell",data:=.cell none } };refine AB<|AL<|AL ?_;have c:((s.heap.push { cls:=.type "dict",data:=.dict #[] }).push { cls:=.type "cell",data:=.cell none }).get? (s.heap.objs.size+1)=some { cls:=.type "cell",data:=.cell none }:=by
  rw[<- h];exact Bn _ rfl
 have z:=q _ ((Heap.Ns.new s.heap (.type "dict")).keeps λb o e=>Ap { cls:=.type "cell",data:=.cell none } e) (_,c,rfl) λb o e=>Ap _<|Ap _ e;rw[<- h]at z;exact z
theorem ownK (e:((y,n)::clOf env names []).lookup x=some c):(x=y/\c=n)\/env.cells.lookup x=some c:=by
 rw[EW]at e;split at e
 ·rename_i h
  cases e;exact .inl (#[9],rfl)
 ·exact .inr<|Dv _ _ (λ_ _ z=>by simp at z) e
theorem Pk (S:CompScK X.env.scope X.N y scope fvs sel) (O:X.Ok):∀n,(n,NameKind.free)∈scope.names->∃a,X.env.cells.lookup n=some a:=λn h=>
 O.has n (S.free _ h rfl)
theorem Zvd (S:CompScK X.env.scope X.N y scope fvs sel) (N:List Str) (I:AH X pins Z H s) (hf:∀b∈fp,FpOk X pins H b) (hlt:∀b∈fp,b<s.heap.objs.size):(compCxK X y scope N s.heap.objs.size s H fp<|X.pn++pins).Ok where
 mod:=I.ok.mod
 kind:=S.kind
 glob:=I.ok.glob
 blt:=I.ok.blt
 above:=AU _
 inj:=λx z c r p=>by
  have d:∀x,X.env.cells.lookup x=some c->c≠s.heap.objs.size+1:=λx e=>by
   obtain⟨v,q⟩:=I.cell x c e;exact BN<|Dp q.lt
  rcases ownK r with ⟨a,b⟩|a
  ·rcases ownK p with ⟨A,l⟩|A
   ·rw[a,A]
   ·exact absurd b<|d _ A
  ·rcases ownK p with ⟨A,l⟩|A
   ·exact absurd l<|d _ a
   ·exact I.ok.inj x z c a A
 has:=λx f=>by
  by_cases hxy:x=y
  ·subst hxy
   exact(s.heap.objs.size+1,by show ((x,_)::clOf X.env scope.names []).lookup x=_;simp)
  have M:(x,NameKind.free)∈scope.names:=by
   have Y:∀k,(k=.cell\/k=.free)->(relab X.env.scope scope).names.lookup x=some k->(x,NameKind.free)∈scope.names:=λk K h=>by
    obtain⟨⟨n,j⟩,g,e⟩:=A6.mp<|PySem.mem_of_lookup h;dsimp only at e;split at e
    ·rename_i hj
     have E:n=x:=congrArg Prod.fst e;have J:j=.free:=by
      simp only[Cv,beq_iff_eq]at hj;exact hj.1.1
     rw[<- E,<- J];exact g
    ·have E:n=x:=congrArg Prod.fst e
     have m:j=k:=congrArg Prod.snd e;rcases K with z|z
     ·have i:((n,j):Str × NameKind)∈scope.names.filter (λz=>z.2 == .cell):=CB.mpr (g,by rw[m,z];rfl)
      rw[S.one,CK]at i;exact absurd (E.symm.trans<|congrArg Prod.fst i) hxy
     ·rw[<- E,<- z,<- m];exact g
   rcases f with z|z
   ·exact Y _ (.inl rfl) z
   ·exact Y _ (.inr rfl) z
  obtain⟨c,C⟩:=GL scope.names [] M (Pk S I.ok x M);exact(c,by
   show ((y,_)::clOf X.env scope.names []).lookup x=_;rw[EW,show (x == y)=false from by simpa using hxy];exact C)
 cab:=λx c h e=>by
  rcases ownK e with ⟨_,z⟩|z
  ·rw[z];exact Et _
  ·have f:x=y:=by simpa using (show (x == y)=true from h)
   subst f;have:((x,s.heap.objs.size+1)::clOf X.env scope.names []).lookup x=some c:=e;simp at this;rw[<- this];exact Et _
 hd:=I.ok.hd
 frames:=I.ok.frames
 stk:=.inl rfl
 exf:=λb B=>⟨BN (hlt b B),λx c e=>by
  rcases ownK e with ⟨_,z⟩|z
  ·rw[z];exact El<|Dp<|hlt b B
  ·exact(hf b B).2.2.2.2.1 x c z⟩
 bs:=I.bs
 bsz:=Bg I.ok.bsz I.sz
 noex:=λb o e B=>by
  rcases(hf b B).2.2.2.1 with z|z
  ·exact I.ok.noex b o e z
  ·exact absurd (Ct (A4 e)<|Bg I.ok.bsz z)<|EZ _
 exfs:=λb B z=>by
  rcases A5.mp (I.stkSub b z) with e|z
  ·exact(hf b B).2.1 e
  ·exact(hf b B).2.2.1 z
 funs:=I.stack
 frf:=I.stkFree
theorem Zq0 (S:CompScK X.env.scope X.N y scope fvs sel) (I:AH X pins Z H s) (hf:∀b∈fp,FpOk X pins H b) (hlt:∀b∈fp,b<s.heap.objs.size) {h':Heap}{tk:Nat}{m:Str->Option Value}
  (hns:h'.Ns s.heap.objs.size m) (hcl:h'.IsCell (s.heap.objs.size+1) none) (old:∀b o,s.heap.get? b=some o->h'.get? b=some o) :
  AH (compCxK X y scope (tgs++fvs) s.heap.objs.size s H fp<|X.pn++pins) [] (compSt tgs.length sel Z) H { s with heap:=h',toks:=tk } where
 ok:=Zvd S _ I hf hlt
 os:=rfl
 bare:=I.bare
 base:=Un.kept old
 loc:=by
  refine(m,hns,λi x v g h M=>?_);have g:(tgs++fvs)[i]?=some x:=g;unfold compSt at h;by_cases hi:i<tgs.length
  ·rw[DT (by simpa using hi),GB,AN hi]at h
   cases h
  ·have a:tgs.length<=i:=Nat.le_of_not_lt hi
   rw[Cf (by simpa using a),Ad,CU]at h;rw[Cf a]at g;cases hj:sel[i-tgs.length]? with
   |none=>exists 0,hj,h
   |some j=>
    rw[hj]at h;have h:(Z[j]?).getD none=some v:=#[9]
    have F:(x,j)∈fvs.zip sel:=by
     refine Be (i:=i-tgs.length) ?_;rw[II];exact(g,hj)
    obtain⟨A,f⟩:=S.fv _ F;have B:Z[j]?=some (some v):=by
     cases q:Z[j]? with
     |none=>exists 0,q,h
     |some o=>rw[q]at h;exact congrArg some h
    have k:X.env.scope.names.lookup x=some .cell\/X.env.scope.names.lookup x=some .free:=S.free (x,.free) (PySem.mem_of_lookup f) rfl;obtain⟨Q,E,t⟩:=I.loc;obtain⟨u,r,l⟩:=t j x v A B (.inr k);refine(u,r,.inr (ND f,?_));rcases l with ⟨K,_⟩|⟨_,c,w,L⟩
    ·have K:X.env.scope.names.lookup x=some .local:=K
     rcases k with z|z <;> (rw[K]at z;cases z)
    ·obtain⟨J,C⟩:=GL scope.names [] (PySem.mem_of_lookup f) (c,w)
     have e:=Dv scope.names [] (λ_ _ z=>by simp at z) C;exists 0,w,e;obtain⟨o,O,D⟩:=L;have Y:(x == y)=false:=by
      cases q:x == y with
      |false=>rfl
      |true=>
       have:x=y:=by simpa using q
       have:=S.own (x,.free) (PySem.mem_of_lookup f) this;cases this
     exact(c,by show ((y,s.heap.objs.size+1)::clOf X.env scope.names []).lookup x=some c;rw[EW,Y];exact C,o,old _ _ O,D)
 cell:=λx c e=>by
  rcases ownK e with ⟨_,z⟩|z
  ·rw[z];exact(none,hcl)
  ·obtain⟨v,o,O,D⟩:=I.cell x c z
   exact(v,o,old _ _ O,D)
 free:=I.hok.fresh<|AU _
 freeC:=λx c e=>by
  rcases ownK e with ⟨_,z⟩|z
  ·rw[z];exact I.hok.fresh<|Et _
  ·exact I.freeC x c z
 pin:=λp P=>by
  have P:p∈(X.pn++pins)++[]:=P;rw[Bj]at P;obtain⟨e,n,ne,G,d⟩:=I.pin p P;refine(old _ _ e,n,BN<|A4 e,λz=>?_,d);rcases A5.mp (I.stkSub p.1 z) with q|q
  ·exact ne q
  ·exact G q
 hok:=I.hok.kept old
 len:=by
  unfold compSt;show _=(tgs++fvs).length;rw[Ar,Ar,CU,AJ,S.len]
theorem Zpz (I:AH X pins Z H s) (hf:∀b∈fp,FpOk X pins H b)
  (J_:AH (compCxK X y scope N s.heap.objs.size s H fp<|X.pn++pins) [] Z' H' s') (sb:Heap.SameBut s.heap.objs.size s'.heap h'):AH X pins Z H' { s' with heap:=h' }:=by
 have B:Un (frs X.stack) fp H H' s.heap s'.heap:=J_.base;have ne:∀b o,s.heap.get? b=some o->b≠s.heap.objs.size:=λb o e=>BN<|A4 e;have r:H' s.heap.objs.size=none:=J_.free;refine I.call' (s':={ s' with heap:=h' }) (ch:=fp) J_.os (λb o e n f a=>?_,λb o e n f a=>?_,B.free,λb o e a=>?_,B.tups,B.frzs,B.tbls) (λb g e=>?_) J_.bare λb d=>?_
 ·exact(sb.2 b<|ne b o e).trans (B.keep b o e n f a)
 ·obtain⟨l,q⟩:=B.slot b o e n f a
  exact(l,(sb.2 b<|ne b o e).trans q)
 ·obtain⟨O,q⟩:=B.there b o e a
  exact(O,(sb.2 b<|ne b o e).trans q)
 ·refine(J_.hok b g e).stay (λc w h q=>(sb.2 c ?_).trans q) (λ_ q=>q) λ_ _ q=>q
  intro z;rcases h with h|h
  ·rw[<- h,z,r]at e;cases e
  ·rw[z,r]at h;cases h
 ·exact((hf b d).2.2.2.1,(hf b d).2.1,(hf b d).2.2.2.2.1,(hf b d).2.2.2.2.2)
end
#check 0
theorem Zqf {y:Str}{elt tg iter:Expr}{ifs:List Expr}{scope:Scope}{pos:Pos}{tgs fvs:List Str}{sel:List Nat}{g:TG}{tc:TT}{te:TE}(S:CompScK X.env.scope X.N y scope fvs sel) (hc:X.calm=true)
  (hg:∀C s H ex pn,PG (compCxK X y scope (tgs++fvs) C s H ex pn) tg g) (ht:∀C s H ex pn,PTs (compCxK X y scope (tgs++fvs) C s H ex pn) ifs tc) (he:∀C s H ex pn,PE (compCxK X y scope (tgs++fvs) C s H ex pn) elt te)
  {pins:Ax}{Z:St}{s:Shared}{itv:Value}{Q:VK}{E:Au}{RR:Value->Addr->Result->Shared->Prop}
  (h2:PIE X pins Z tg (λJ_ H1=>∀acc,H1 acc=none->∃W:Nat->Nat->St->Hp->Prop,
   (∃m,W 0 m (compSt tgs.length sel Z) (upd H1 acc (.lst [])))/\∀i m Z' H',W i m Z' H' ->
   (J_.stop i H' /\ Q (.ref acc) H')\/(J_.go i H' /\ ∃N:St->Hp->Prop,(∀Z2 H2,N Z2 H2->∃m',m'<m/\W (i+1) m' Z2 H2) /\
   ∀x H2,J_.yld i H' x H2->g x Z' H2 λZ2 H3=>tc Z2 H3 λb H4=>if b=true then te Z2 H4 λy H5=>∃ys,H5 acc=some (.lst ys)/\ys.length<sizeLine/\N Z2 (upd H5 acc (.lst (ys++[y]))) else N Z2 H4)) itv s)
  (fin:∀(s':Shared) (C acc:Addr) (H':Hp) (m:Str->Option Value),s'.heap.Ns C m->FpOk X pins H' C->(∀h',Heap.SameBut C s'.heap h' -> AH X pins Z H' { s' with heap:=h' })->Q (.ref acc) H' -> RR (.ref acc) C (.ok .next) s') :
  wpAny (model X.prog X.w) X.A (newList []) (λacc s3=>wpAny (model X.prog X.w) X.A (newFunctionEnv scope X.env.globals (clOf X.env scope.names []) [] X.env.qual none .none (some X.env)) (λcenv s4=>
   codeAny (model X.prog X.w) X.A (.compStart (.ListComp elt [(tg,iter,ifs,0)] scope pos) 0 itv acc { cenv with scope:=relabel scope X.env }) (RR acc cenv.locals) s4) E s3) E s:=by
 obtain⟨it,fp,tn,J_,H1,e,I,T,st,f2,h2⟩:=h2;subst e;have hlt:∀b∈fp,b<s.heap.objs.size:=λb hb=>let ⟨o,ho,_⟩:=T.obj 0 _ st b hb; A4 ho
 refine wpAny_newObj_type (newEnvK S λh1 hns hcl old=>?_);dsimp only at hns hcl old ⊢;have I3:AH X pins Z (upd H1 s.heap.objs.size (.lst [])) { s with heap:=s.heap.push { cls:=.type "list",data:=.seq ([]:List Value).toArray },toks:=s.toks }:=I.lnew (its:=[]) .nil #[0];have hacc:H1 s.heap.objs.size=none:=I.hok.fresh<|AU _;obtain⟨W,⟨m0,w0⟩,turn⟩:=h2 s.heap.objs.size hacc;generalize hs3:({ s with heap:=s.heap.push { cls:=.type "list",data:=.seq ([]:List Value).toArray },toks:=s.toks }:Shared)=s3 at I3;have hh3:s3.heap=s.heap.push { cls:=.type "list",data:=.seq ([]:List Value).toArray }:=by rw[<- hs3]
 have old3:∀b o,s.heap.get? b=some o->s3.heap.get? b=some o:=λb o q=>by rw[hh3];exact Ap _ q
 have hf3:∀b∈fp,FpOk X pins (upd H1 s.heap.objs.size (.lst [])) b:=λb hb=>(by rw[Ai (BN<|hlt b hb)];exact(f2 b hb).1,(f2 b hb).2);have hlt3:∀b∈fp,b<s3.heap.objs.size:=λb hb=>by rw[hh3,Ep];exact Dp<|hlt b hb
 have tn3:tn 0 s3.heap:=T.keep 0 _ _ st λb hb o q=>old3 b o q;have old4:∀b o,s3.heap.get? b=some o->h1.get? b=some o:=λb o q=>by
  rw[hh3]at q;exact old b o q
 have tn4:tn 0 h1:=T.keep 0 _ _ tn3 λb hb o q=>old4 b o q;have hC:(s.heap.push { cls:=.type "list",data:=.seq ([]:List Value).toArray }).objs.size=s3.heap.objs.size:=by rw[hh3]
 rw[hC]at hns hcl;have J0:=Zq0 (tgs:=tgs) (tk:=s.toks) S I3 hf3 hlt3 hns hcl old4;have es:({ s3 with heap:=h1,toks:=s.toks }:Shared) = { s with heap:=h1,toks:=s.toks }:=by rw[<- hs3]
 rw[es]at J0;generalize hY:compCxK X y scope (tgs++fvs) s3.heap.objs.size s3 (upd H1 s.heap.objs.size (.lst [])) fp (X.pn++pins)=Y at J0;have hYp:Y.prog=X.prog:=#[10]
 have hYw:Y.w=X.w:=#[10]
 have hYK:Y.K=X.K:=#[10]
 have hYA:Y.A=X.A:=#[10]
 have hYc:Y.calm=true:=by rw[<- hY];exact hc
 have hYx:Y.xe=λ_ _=>False:=#[10]
 have hYe:Y.env=compEnvC scope ((y,s3.heap.objs.size+1)::clOf X.env scope.names []) s3.heap.objs.size X.env:=#[10]
 have stat:∀{H':Hp},(∀b∈fp,H' b=none)->∀b∈fp,FpOk Y [] H' b:=λhn b hb=>by
  rw[<- hY];refine(hn b hb,BN<|hlt3 b hb,λz=>?_,.inl hb,λx c e=>?_,λp hp z=>?_)
  ·rcases A5.mp (I3.stkSub b z) with q|q
   ·exact(hf3 b hb).2.1 q
   ·exact(hf3 b hb).2.2.1 q
  ·rcases ownK e with ⟨_,z⟩|z
   ·rw[z];exact El<|Dp<|hlt3 b hb
   ·exact(hf3 b hb).2.2.2.2.1 x c z
  ·have hp:p∈(X.pn++pins)++[]:=hp
   rw[Bj]at hp;exact(hf3 b hb).2.2.2.2.2 p hp z
 have loop:codeAny (model X.prog X.w) X.A (.compLoop (.ListComp elt [(tg,iter,ifs,0)] scope pos) 0 (.ref it) (.ref s.heap.objs.size) Y.env) (RR (.ref s.heap.objs.size) s3.heap.objs.size)
   { s with heap:=h1,toks:=s.toks }:=by
  refine codeAny_loop rfl (λn s'=>∃i Z' H',AH Y [] Z' H' s' /\ tn i s'.heap/\(∀b∈fp,H' b=none)/\W i n Z' H') ?_ m0 (0,_,_,J0,tn4,λb hb=>(hf3 b hb).1,w0);rintro n s5 ⟨i,Z5,H5,I5,st5,fr5,w5⟩;show wpAny _ X.A ((compTurn (.ListComp elt [(tg,iter,ifs,0)] scope pos) 0 (.ref it) (.ref s.heap.objs.size) Y.env).onRaise (λx=>do noteFrame x Y.env;theTreesLotGoes x)) _ _ s5;refine wpAny_noted (D2 (E:=λ_ _=>False) ?_ (λ_ _ q=>q) λ_ _ z=>z.elim);rw[compTurn_list];refine AB<|EL<|AB ?_;rcases turn i n Z5 H5 w5 with ⟨stop,qn⟩|⟨go,N,hN,step⟩
  ·have D:=T.done Y hYp hYw hYK hYc i [] s5 Z5 H5 (λ_ _=>False) I5 (stat fr5) st5 stop
   rw[hYA]at D;refine thn D λr s6 (hr,I6)=>?_;subst hr;refine AL ?_;obtain⟨m6,hn6,_⟩:=I6.loc;rw[hYe]at hn6;refine fin s6 _ _ H5 m6 hn6 (I3.fpOk (AU _) (by have z:=I6.free;rw[hYe]at z;exact z)) (λh' sb=>?_) qn;have I6':AH (compCxK X y scope (tgs++fvs) s3.heap.objs.size s3 (upd H1 s.heap.objs.size (.lst [])) fp<|X.pn++pins) [] Z5 H5 s6:=by rw[hY];exact I6
   exact Zpz I3 hf3 I6' sb
  ·have D:=T.item Y hYp hYw hYK hYc i [] s5 Z5 H5 (λ_ _=>False) I5 (stat fr5) st5 go
   rw[hYA]at D;refine thn D λr s6 (u,hr,h6)=>?_;subst hr;refine AB (thn h6 λ_ s7 (x,H7,I7,r7,y7,st7,fr7)=>?_);have I7':=I7.pinned (stat fr7)<|T.obj _ _ st7;have G:=hg s3.heap.objs.size s3 (upd H1 s.heap.objs.size (.lst [])) fp<|X.pn++pins;have TT:=ht s3.heap.objs.size s3 (upd H1 s.heap.objs.size (.lst [])) fp<|X.pn++pins;have EE:=he s3.heap.objs.size s3 (upd H1 s.heap.objs.size (.lst [])) fp<|X.pn++pins;rw[hY]at G TT EE;have G1:=G _ s7 Z5 H7 x u _ I7' r7<|step x H7 y7;rw[hYp,hYw,hYA,hYx]at G1;refine AB (thn G1 λ_ s8 (Z8,H8,I8,q8)=>?_);have T1:=TT _ s8 Z8 H8 _ I8 q8;rw[hYp,hYw,hYA,hYx]at T1;refine AB (thn T1 λok s9 (H9,I9,q9)=>?_);have again:∀{s':Shared}{Z':St}{H':Hp},AH Y ([]++pinsAt fp s7.heap) Z' H' s' -> N Z' H' -> ∃m,m<n/\∃i Z' H',AH Y [] Z' H' s' /\ tn i s'.heap/\(∀b∈fp,H' b=none)/\W i m Z' H':=λ{s' Z' H'} K7 n7=>by
    obtain⟨m',hm,w7⟩:=hN Z' H' n7;refine(m',hm,i+1,Z',H',K7.unpinned,T.keep _ _ _ st7 λb hb o e=>(K7.pin (b,o)<|Ce _<|Ce _<|Fy hb e).1,λb hb=>?_,w7);obtain⟨o,e,d⟩:=T.obj _ _ st7 b hb;exact(K7.pin (b,o)<|Ce _<|Ce _<|Fy hb e).2.1
   cases ok with
   |false=>
    have q9:N Z8 H9:=q9;exact AL (by rw[hYe],again I9 q9)
   |true=>
    have q9:te Z8 H9 λy H5=>∃ys,H5 s.heap.objs.size=some (.lst ys)/\ys.length<sizeLine/\N Z8 (upd H5 s.heap.objs.size (.lst<|ys++[y])):=q9;have E1:=EE _ s9 Z8 H9 _ I9 q9;rw[hYp,hYw,hYA,hYx]at E1;refine AB<|AB (thn E1 λv sa (y,Ha,Ia,ra,ys,ea,za,na)=>?_);have M:=Dw (X:=Y) _ sa Z8 Ha (.ref s.heap.objs.size) [y] (.ref s.heap.objs.size) [v] (λ_ H=>N Z8 H) Ia rfl (.cons ra .nil) (_,ys,y,rfl,rfl,ea,za,na);rw[hYp,hYw,hYA,hYx]at M;refine AB (thn M λ_ sb (_,Hb,Ib,_,nb)=>AL<|AL (by rw[hYe],again Ib nb))
 have hcs:(relabel scope X.env)=(relabel scope X.env):=rfl;have loop':=loop;rw[hYe]at loop';show codeAny (model X.prog X.w) X.A (.compStart (.ListComp elt [(tg,iter,ifs,0)] scope pos) 0 (.ref it) (.ref s.heap.objs.size)<|compEnvC scope ((y,(s.heap.push { cls:=.type "list",data:=.seq ([]:List Value).toArray }).objs.size+1)::clOf X.env scope.names []) (s.heap.push { cls:=.type "list",data:=.seq ([]:List Value).toArray }).objs.size X.env) (RR (.ref s.heap.objs.size) (s.heap.push { cls:=.type "list",data:=.seq ([]:List Value).toArray }).objs.size) _;rw[hC];exact codeAny_compStart_list loop'<|T.self _ 0 _ _ _ tn4 loop'
theorem Ztg {y:Str}{L tg j:Expr}{z:List Expr}{scope:Scope}{pos:Pos}{fvs:List Str}{sel:List Nat}{O:TI}{g:TG}{tc:TT}{te:TE}(tgs:List Str) (S:CompScK X.env.scope X.N y scope fvs sel) (U:X.calm=true)
  (hi:PI X tg j O) (hg:∀C s H ex pn,PG (compCxK X y scope (tgs++fvs) C s H ex pn) tg g) (ht:∀C s H ex pn,PTs (compCxK X y scope (tgs++fvs) C s H ex pn) z tc) (Y:∀C s H ex pn,PE (compCxK X y scope (tgs++fvs) C s H ex pn) L te)
  (hs:∀x,foldedSetIterable j X.env x=pure x:=by intro _;rfl) :
  PE X (.ListComp L [(tg,j,z,0)] scope pos) (tComp tgs.length sel O g tc te):=by
 intro pins s Z H Q I h;rw[eval_ListComp];refine wpAny_comprehension_free (use:=none) rfl hs (Ip<|Pk S I.ok) S.kind S.names (thn (hi pins s Z H _ I h) λv e b=>thn b λt f d=>?_);refine Zqf S U hg ht Y (RR:=λc C=>compPost (model X.prog X.w) X.A X.xe none (EP X pins Z Q) c C) (Q:=Q) d ?_;intro s' C c H' m hn _ hI q;exact(m,hn,λa B=>(.ref c,H',hI a B,rfl,q))
end
#check 3
#check 0
theorem intsAt (hi:IntsAre its ns):∀j (h:j<its.length),∃t,its[j]=.int (ns.getD j 0) t:=by
 induction hi with
 |nil=>intro j h;simp at h
 |cons n t _ ih=>
  intro j h;cases j with
  |zero=>exact(t,rfl)
  |succ j=>simpa using ih j #[9]
theorem NA (ns:List Int):∀k,k<=ns.length->preSum (λi=>ns.getD i 0) k=(ns.take k).sum
 |0,_=>by rw[EY];rfl
 |k+1,hk=>by
  show preSum _ k+ns.getD k 0=_;have e:ns.take (k+1)=ns.take k++[ns[k]]:=by rw[Cu,AZ (by lia:k<ns.length)];rfl
  rw[NA ns k #[2],e,List.sum_append,Av,AZ (by omega:k<ns.length)];show _+ns[k]=_+(ns[k]+0);rw[Int.add_zero]
def rSum (K:W.Frag):List V->Hp->VK->Prop:=λs H Q=>∃(p:Addr) (ns:List Int),s=[.ref p]/\SqL K H p (ns.map V.int)/\Q (.int ns.sum) H
theorem sumK (K:W.Frag) (hc:X.calm=true) (hK:X.K=K:=by rfl):CallR X (.builtin "sum") (rSum K):=by
 subst hK;intro pins s Z H xs us Q I r h;obtain⟨p,n,rfl,x,q⟩:=h;obtain⟨u,rfl,U⟩:=vals1 r;cases (show u=Value.ref p from U);obtain⟨S,j,P,_⟩:=I.list x;have a:=K5 j;have N:=a.length;have l:p<s.heap.objs.size:=by obtain⟨o,e,_⟩:=P.isList;exact A4 e
 refine call_sum_walkG<|wpAny_pyIter_list P.isList ?_;refine(s.heap.objs.size,_,_,_,_,_,λi=>n.getD i 0,rfl,Walks.list (prog:=X.prog) (w:=X.w) (A:=X.A.in1) (show X.A.in1.handled=none from I.ok.hd hc) s.heap.objs.size p (BN l) S.toArray,((_,Bn _ rfl,rfl,rfl),P.isList.push _),?_,?_,λm y T k=>?_)
 ·intro b B
  show b<(s.heap.push _).objs.size;rw[size_push'];simp only[A5,DF,or_false]at B;rcases B with z|z
  ·rw[z];exact HB _
  ·rw[z];exact Dp l
 ·intro i v V
  have V:S[i]?=some v:=by simpa using (show S.toArray[i]?=some v from V)
  obtain⟨d,g⟩:=BQ.mp V;obtain⟨t,e⟩:=intsAt a i d;exact(t,by rw[<- g,e])
 ·have e:preSum (λi=>n.getD i 0) S.toArray.size=n.sum:=by
   rw[BR,show S.length=n.length by omega,NA n _ (AU _),Bm]
  rw[e];have c:AH X pins Z H { s with heap:=s.heap.push { cls:=.type "list_iterator",data:=.fields #[.ref p,.int 0 0] },toks:=s.toks }:=I.kept λb o e=>Ap _ e;have f:=I.fpOk (b:=s.heap.objs.size) (H':=H) (AU _)<|I.hok.fresh<|AU _;exact(.int n.sum,H,c.turned (it:=s.heap.objs.size) (λb o B e=>k b o #[12] e) (I.hok.fresh<|AU _) (El I.lt) (.inr I.sz) f.2.2.2.2.1 f.2.2.2.2.2,(_,rfl),q)
end
#check 1
theorem OX {ns:List Int}(p:P (.int ns.sum) J):JC K (rSum K) [.lst (ns.map D.int)] J P:=λg G H Z Q S k s c=>by
 obtain⟨_,_,rfl,r,t⟩:=s.inv
 next=>
  cases t.inv;obtain⟨a,u,rfl,h,R⟩:=r.inv
  next=>
   have v:=R.ints;subst v;exact(a,ns,rfl,SqL.of<|k.live _ _ h,c _ _ G H J k (Same.refl _) (.int _) p)
theorem SR (p:P (.int (if b then 1 else 0)) J):JC K (λxs H Q=>(∃i,xs=[.int i]/\Q (.int i) H)\/∃k,xs=[.bl k]/\Q (.int (if k then 1 else 0)) H) [.bl b] J P:=λg G H Z Q v k s c=>by
 obtain⟨_,_,rfl,r,t⟩:=s.inv
 next=>cases t.inv;cases r.inv;exact .inr (b,rfl,c _ _ G H J k (Same.refl _) (.int _) p)
end
#check 0
theorem Zzu:typeLookup (.type "tuple") (dunderI "add")=pure none:=by rw[typeLookup_type,builtinLookup_eq_fast];kernel_rfl
theorem Ug (K:W.Frag) (hK:X.K=K:=by rfl):PIp X .Add (rCatT' K):=by
 subst hK;intro pins s Z H x y v u Q I rx ry h;obtain⟨a,b,k,Y,rfl,rfl,p,B,j,G,J,M⟩:=h;cases rx;cases ry;obtain⟨i,r,P,_⟩:=I.tuple p;obtain⟨t,R,E,_⟩:=I.tuple B;obtain⟨⟨m,e,T,L⟩,c,f,n,g⟩:=id P;obtain⟨⟨S,d,A,l⟩,O,C,N,D⟩:=id E;simp only at f g C D;subst f g C D;refine wpAny_inplaceOp_concat (_,c,rfl) (_,O,rfl) Zzu noFill_tuple_add seq_tuple_add ?_;by_cases hx:k=[]
 ·exact call_meets PySem.F.slot_tuple_add (_,c,rfl) PySem.F.entry_tuple_add (PySem.F.args_tuple_add_2 _ _) (tuple_addW0 a b i.toArray t.toArray n N e d L l (by simp[r.nil_iff.mpr hx])) (c,O,(.ref b,H,I,rfl,G hx))
 ·have V:i≠[]:=λz=>hx (r.nil_iff.mp z)
  by_cases hy:Y=[]
  ·exact call_meets PySem.F.slot_tuple_add (_,c,rfl) PySem.F.entry_tuple_add (PySem.F.args_tuple_add_2 _ _) (tuple_addW1 a b i.toArray t.toArray n N e d L l (by simpa using V) (by simp[R.nil_iff.mpr hy])) (c,O,(.ref a,H,I,rfl,J hx hy))
  ·have w:t≠[]:=λz=>hy (R.nil_iff.mp z)
   refine call_meets PySem.F.slot_tuple_add (_,c,rfl) PySem.F.entry_tuple_add (PySem.F.args_tuple_add_2 _ _) (tuple_addW2 a b i.toArray t.toArray n N e d L l (by simpa using V) (by simpa using w) (by rw[BR,BR,<- r.length,<- R.length];exact j)) (c,O,?_);rw[show i.toArray++t.toArray=(i++t).toArray by simp];refine(.ref s.heap.objs.size,_,I.laid (t':=s.toks) (o:=.tup<|k++Y) (λb U q=>Ap _ q) (AU _) ?_,rfl,M hx hy _<|I.hok.fresh<|AU _);exact(by rw[Ar];exact j,_,r.append R,IsTupN.new _ _)
end
#check 4
theorem Zq2 {j n:Nat}(h:j<n):seqIndex? (j:Int) n=some j:=by
 unfold seqIndex?;simp;lia
theorem Ua (h:JA K ta J λds J1=>∃es,(ds=[.tup es]\/ds=[.lst es])/\Po (.lst es) J1):JO K (tCB (rLst K) ta) J Po:=λg G H Z Q k c=>
 h g G H Z _ k λv ds a f J1 b S R q=>by
  obtain⟨es,e,p⟩:=q;rcases e with e|e <;> subst e
  ·obtain⟨_,_,rfl,r,t⟩:=R.inv
   next=>
    cases t.inv;obtain⟨_,_,rfl,A,s⟩:=r.inv
    next=>
     refine(_,_,rfl,.inr<|SqT.of<|b.live _ _ A,λl L=>?_);obtain⟨d,D⟩:=b.fresh (od:=.lst es) L (show OwnRep K a (.lst _) (.lst es) from s);exact c l _ a _ J1 d S D p
  ·obtain⟨_,_,rfl,r,t⟩:=R.inv
   next=>
    cases t.inv;obtain⟨_,_,rfl,A,s⟩:=r.inv
    next=>
     refine(_,_,rfl,.inl<|SqL.of<|b.live _ _ A,λl L=>?_);obtain⟨d,D⟩:=b.fresh (od:=.lst es) L (show OwnRep K a (.lst _) (.lst es) from s);exact c l _ a _ J1 d S D p
theorem Zy2 (hz:ds.length+es.length<=sizeLine) (p:P (.tup<|ds++es) J):JR2 K (rCatT' K) (.tup ds) (.tup es) J P:=λg G H Z Q x y k r Y c=>by
 cases r with
 |tup ha rs=>
  cases Y with
  |tup hb rt=>
   refine(_,_,_,_,rfl,rfl,SqT.of<|k.live _ _ ha,SqT.of<|k.live _ _ hb,by rw[rs.length,rt.length];exact hz,λe=>?_,λ_ e=>?_,λ_ _ l h=>?_)
   ·subst e;cases rs;exact c _ _ G H J k (Same.refl _) (.tup hb rt) p
   ·subst e;cases rt;rw[Bj]at p;exact c _ _ G H J k (Same.refl _) (.tup ha rs) p
   ·obtain⟨a,s⟩:=k.laid h (.tup _)
    exact c _ _ _ _ J a s (.tup Bd ((rs.append rt).mono s)) p
theorem Ll (q:J[i]?=some (.val d)) (h:JE K te J λe J1=>J1[i]?=some (.val d)/\JR2 K ti d e J1 λz J2=>nx (J2.set i (.val z))):JS K (tAug i te ti) J (nx,rt,bk,ct,ro):=λg G H Z E k c=>by
 obtain⟨v,f,j⟩:=k.val i d q;refine(v,f,h g G H Z _ k λu e G1 H1 J1 k1 s1 r1 (_,p1)=>p1 g G1 H1 Z _ v u k1 (j.mono s1) r1 λz D a b J2 l s r p=>?_);exact c.nx _ a b _ (l.setVal' i r) p
theorem Zw4 (j:d=.tup ds\/d=.lst ds) (h:JE K te J λe J1=>e=d/\P ds J1):JI K (iSeq K te) J P:=by
 rcases j with rfl|rfl
 ·exact FW (h.mono λe J1 (e1,p)=>(_,e1,p))
 ·exact Cn (h.mono λe J1 (e1,p)=>(_,Or.inl e1,p))
end
#check 3
#check 1
end
#check 4
def lstZ (r:List Int):D:=.lst<|r.map .int
def shown (G H':Hp) (acc:Addr) (cs:List (Addr × List Int)):Hp:=λb=>if b=acc\/b∈cs.map (·.1) then H' b else G b
theorem Rj (l:Same G H) (B:Same H H') (j:H acc=none) (q:∀c∈cs,H c.1=none/\c.1≠acc):Same G (shown G H' acc cs)/\Same (shown G H' acc cs) H' /\ ∀b o,shown G H' acc cs b=some o->H' b=some o/\(G b=some o\/H b=none):=by
 have y:∀b,(b=acc\/b∈cs.map (·.1))->H b=none:=λb h=>by
  rcases h with z|z
  ·rw[z];exact j
  ·obtain⟨c,a,rfl⟩:=A6.mp z;exact(q c a).1
 have d:∀b o,shown G H' acc cs b=some o->H' b=some o/\(G b=some o\/H b=none):=λb o e=>by
  unfold shown at e;by_cases h:b=acc\/b∈cs.map (·.1)
  ·rw[AN h]at e;exact(e,.inr<|y b h)
  ·rw[AK h]at e;exact(B b o<|l b o e,.inl e)
 refine(λb o e=>?_,λb o e=>(d b o e).1,d);unfold shown;rw[AK]
 ·exact e
 ·intro h
  have:=y b h;rw[l b o e]at this;cases this
theorem Ok.scribble (k:Ok K g G H Z J) (q:G b=none) (hz:g.Hz b=none) (O:g.Xo b=none) (L:∀(i:Nat) x od,J[i]?=some x->x.od=some od -> Z[i]?≠some (some (.ref b))):Ok K g G (upd H b o) Z J:=by
 refine(λa u B e=>?_,λa h=>?_,k.sub,λa u e=>?_,λa u e=>?_,k.len,k.val,λi x od E c=>?_,k.dis)
 ·have n:a≠b:=by intro z;subst z;exists 0,hz,e
  rw[Ai n];exact k.same a u B e
 ·by_cases n:a=b
  ·subst n;rw[Bd];intro z;cases z
  ·rw[Ai n];exact k.lent a h
 ·have n:a≠b:=by intro z;subst z;exists 0,q,e
  rw[Ai n];exact k.frz a u e
 ·have n:a≠b:=by intro z;subst z;exists 0,O,e
  rw[Ai n];exact k.ext a u e
 ·obtain⟨a,u,w,W,d,f,j⟩:=k.own i x od E c
  have n:a≠b:=by intro z;subst z;exact L i x od E c w
  exact(a,u,w,by rw[Ai n];exact W,d,f,j)
end
#check 0
end
#check 1
theorem Zzl {n:Nat}{te:TE}{x:Slot}{U:List D}(Y:J[n]?=some x) (ho:x.od=some (.lst U))
  (h:JE K te J λe J1=>∃y ds,∃j:Nat,∃d,J1[n]?=some y/\y.od=some (.lst ds)/\e=.int j/\ds[j]?=some d/\ds.length<=1000/\P d (J1.set n<|y.put (.lst<|ds.eraseIdx j))) :
  JE K (tBM K "list" rPopAt (tVar n)<|tCons te tNil) J P:=λg G H Z Q k c=>by
 obtain⟨a,o,b,i,l,s,t⟩:=k.own n x _ Y ho;cases o with
 |lst vs0=>
  refine(.ref a,b,.inl (rfl,_,SqL.of i),h g G H Z _ k λv e G1 H1 J1 k1 s1 r1 (y,ds,j,d,q1,q2,q3,q4,q5,p)=>?_);subst q3;cases r1.inv;obtain⟨A,O,W,q,w,B,C⟩:=k1.own n y _ q1 q2;exists 0,b,W;cases O with
  |lst vs=>
   have w:Reps K G1 vs ds:=w;obtain⟨u,f,r⟩:=w.get q4;have m:j<vs.length:=(BQ.mp f).1;have L:=w.length;refine(a,vs,j,j,u,rfl,rfl,q,#[2],#[2],Zq2 m,f,c u d G1 _ _ (k1.write q1 q2 b (show OwnRep K G1 (.lst<|vs.eraseIdx j) (.lst<|ds.eraseIdx j) from w.eraseIdx j)) s1 r p)
  |_=>exact absurd w (λz=>z)
 |_=>exact absurd l (λz=>z)
end
#check 0
end
abbrev rlt:=HT.lexLt
theorem Vm (x y:Int) (xs ys:List Int):rlt (x::xs) (y::ys)=if x=y then rlt xs ys else decide (x<y):=rfl
theorem RowAt.inj (x:RowAt h v a) (y:RowAt h v b):a=b:=by
 obtain⟨p,S,rfl,⟨o,H,C,n,D⟩,I⟩:=x;obtain⟨q,s,e,⟨f,O,c,N,d⟩,i⟩:=y;cases e;exists 0,H,O;rw[D]at d;have e:S=s:=by
  have:=Data.seq.inj d;simpa using this.1
 subst e;clear D d
 induction I generalizing b with
 |nil=>cases i;rfl
 |cons n t _ ih=>cases i with|cons _ _ r=>rw[ih r]
#check 0
end
abbrev TB:=St->Hp->(St->Hp->Prop)->Prop
def LoopR (g:TG) (tb:TB) (R:St->Hp->Prop) (j:St):It->Hp->Prop:=λJ h=>∃W:Nat->Nat->St->Hp->Prop,(∃m,W 0 m j h)/\∀i m Z H,W i m Z H ->
 (J.stop i H/\R Z H)\/(J.go i H/\∃N:St->Hp->Prop,(∀Z' H',N Z' H' -> ∃m',m'<m/\W (i+1) m' Z' H')/\∀x H',J.yld i H x H' -> g x Z H' λz a=>tb z a N)
def tLoop (j:TI) (g:TG) (tb:TB):TB:=λZ H R=>j Z H<|LoopR g tb R Z
def PB (Y:Cx) (O:Sem Unit) (tb:TB):Prop:=∀(pins:Ax) (s:Shared) (Z:St) (H:Hp) (N:St->Hp->Prop),AH Y pins Z H s->tb Z H N ->
 wpAny (model Y.prog Y.w) Y.A O (λ_ S=>∃Z' H',AH Y pins Z' H' S /\ N Z' H') (λ_ _=>False) s
def PBT (Y:Cx) (rest:Sem Fin) (c:Code) (tb:TB):Prop:=∀(pins:Ax) (s:Shared) (Z:St) (H:Hp) (N:St->Hp->Prop),AH Y pins Z H s->tb Z H N ->
 wpAny (model Y.prog Y.w) Y.A rest (λf S=>f=.again c/\∃Z' H',AH Y pins Z' H' S /\ N Z' H') (λ_ _=>False) s
theorem PB.rest (h:PB Y body tb):PBT Y (do body;again c) c tb:=λpins s Z H N I q=>
 AB (thn (h pins s Z H N I q) λ_ s' z=>AL (rfl,z))
structure Plain (e:Expr):Prop where
 tu:∀(P:Program) (w:World) (A:Around) (d:Nat) (it acc:Value) (env:Env),A.under (.compLoop e d it acc env)=A/\(model P w).den (.compLoop e d it acc env)=(compTurn e d it acc env).onRaise (λx=>do noteFrame x env;theTreesLotGoes x)
 su:∀(P:Program) (w:World) (A:Around) (d:Nat) (it acc:Value) (env:Env),A.under (.compStart e d it acc env)=A/\(model P w).den (.compStart e d it acc env)=(compStart e d it acc env).onRaise (λx=>do noteFrame x env;standAt theWindowsPlace)
theorem Pr (L:Expr) (j:List Comprehension) (q:Scope) (pos:Pos):Plain (.ListComp L j q pos):=(λ_ _ _ _ _ _ _=>(rfl,rfl),λ_ _ _ _ _ _ _=>(rfl,rfl))
theorem Zqv (k v:Expr) (j:List Comprehension) (q:Scope) (pos:Pos):Plain (.DictComp k v j q pos):=(λ_ _ _ _ _ _ _=>(rfl,rfl),λ_ _ _ _ _ _ _=>(rfl,rfl))
theorem QM {Y:Cx}{e tg:Expr}{d:Nat}{p:Pos}{acc:Value}{rest:Value->Sem Fin}{g:TG}{tb:TB}(hpl:Plain e) (hc:Y.calm=true) (hx:Y.xe=λ_ _=>False)
  (hct:∀it,compTurn e d it acc Y.env=(do
   standAt p
   match <- pyNext it with
   |none=>pure (.done .next)
   |some v=>
    letOwnedTupleGo tg it v
    assign tg Y.env v
    rest it))
  (hg:PG Y tg g) (hb:∀it,PBT Y (rest it) (.compLoop e d it acc Y.env) tb) {pins:Ax}{Z:St}{s:Shared}{itv:Value}{R:St->Hp->Prop}(h:PIE Y pins Z tg (LoopR g tb R Z) itv s) :
  codeAny (model Y.prog Y.w) Y.A (.compLoop e d itv acc Y.env) (λr s'=>r=.ok .next/\∃Z' H',AH Y pins Z' H' s' /\ R Z' H') s:=by
 obtain⟨it,fp,tn,J_,H2,e0,I2,T,st2,f2,W,⟨m0,w0⟩,turn⟩:=h;subst e0;have stat:∀{H':Hp},(∀b∈fp,H' b=none)->∀b∈fp,FpOk Y pins H' b:=λhn b hb=>(hn b hb,(f2 b hb).2);refine codeAny_loop rfl (λn s'=>∃i Z' H',AH Y pins Z' H' s' /\ tn i s'.heap/\(∀b∈fp,H' b=none)/\W i n Z' H') ?_ m0 (0,Z,H2,I2,st2,λb hb=>(f2 b hb).1,w0);rintro n s3 ⟨i,Z3,H3,I3,st3,fr3,w3⟩;obtain⟨z1,z2⟩:=hpl.tu Y.prog Y.w Y.A d (.ref it) acc Y.env;rw[z1,z2];refine wpAny_noted (D2 (E:=λ_ _=>False) ?_ (λ_ _ q=>q) λ_ _ z=>z.elim);rw[hct];refine AB<|EL<|AB ?_;rcases turn i n Z3 H3 w3 with ⟨stop,qn⟩|⟨go,N,hN,step⟩
 ·refine thn (T.done Y rfl rfl rfl hc i pins s3 Z3 H3 (λ_ _=>False) I3 (stat fr3) st3 stop) λr s4 (hr,I4)=>?_
  subst hr;exact AL (rfl,Z3,H3,I4,qn)
 ·refine thn (T.item Y rfl rfl rfl hc i pins s3 Z3 H3 (λ_ _=>False) I3 (stat fr3) st3 go) λr s4 (u,hr,h4)=>?_
  subst hr;refine AB (thn h4 λ_ s5 (x,H5,I5,r5,y5,st5,fr5)=>?_);have I5':=I5.pinned (stat fr5)<|T.obj _ _ st5;have G1:=hg _ s5 Z3 H5 x u _ I5' r5<|step x H5 y5;rw[hx]at G1;refine AB (thn G1 λ_ s6 (Z6,H6,I6,q6)=>?_);refine thn (hb _ _ s6 Z6 H6 N I6 q6) λfn s7 (hfn,Z7,H7,I7,n7)=>?_;subst hfn;refine(rfl,?_);obtain⟨m',hm,w7⟩:=hN Z7 H7 n7;refine(m',hm,i+1,Z7,H7,I7.unpinned,T.keep _ _ _ st5 λb hb o e=>(I7.pin (b,o)<|Ce _<|Ce _<|Fy hb e).1,λb hb=>?_,w7);obtain⟨o,e,_⟩:=T.obj _ _ st5 b hb;exact(I7.pin (b,o)<|Ce _<|Ce _<|Fy hb e).2.1
theorem Pw (j:Plain e) (L:(clausesOf e)[d]?=some (tg,it0,ifs,0))
  (h:PIE Y pins Z tg RR itv s) (h0:codeAny (model Y.prog Y.w) Y.A (.compLoop e d itv acc Y.env) R s):codeAny (model Y.prog Y.w) Y.A (.compStart e d itv acc Y.env) R s:=by
 obtain⟨i,p,n,J,H,E,I,T,t,f,_⟩:=h;subst E;refine codeAny_of_tree ?_;obtain⟨z,a⟩:=j.su Y.prog Y.w Y.A d (.ref i) acc Y.env;rw[z,a];refine wpAny_notedAt ?_;unfold compStart;rw[L];show wpAny _ _ (ask >>= _) _ _ s;refine AB<|wpAny_askSetting<|wpAny_ite ?_;split
 ·first
   |exact AB (AL (AL (And.intro rfl h0)))
   |exact AL (And.intro rfl h0)
 ·refine AB (Eh ?_)
  show wpAny _ _ (standAt it0.pos >>= _) _ _ s;exact AB<|EL<|AB<|T.self _ 0 _ _ _ t<|AL<|And.intro rfl h0
theorem Zw3 {Y:Cx}{e tg it2:Expr}{acc:Value}{wi:TI}{g:TG}{tb:TB}{rest:Value->Sem Fin}{c:Code}(hpl:Plain e) (hc:Y.calm=true) (hx:Y.xe=λ_ _=>False) (hcl:(clausesOf e)[1]?=some (tg,it2,[],0))
  (hct:∀it,compTurn e 1 it acc Y.env=(do
   standAt it2.pos
   match <- pyNext it with
   |none=>pure (.done .next)
   |some v=>
    letOwnedTupleGo tg it v
    assign tg Y.env v
    rest it))
  (hi:PI Y tg it2 wi) (hg:PG Y tg g) (hb:∀it,PBT Y (rest it) (.compLoop e 1 it acc Y.env) tb) (hs:∀x,foldedSetIterable it2 Y.env x=pure x) :
  PBT Y (do
   let x <- eval it2 Y.env
   standAt it2.pos
   let x <- foldedSetIterable it2 Y.env x
   let _ <- runOwn (.compStart e 1 (<- holding [x] (pyIter x)) acc Y.env) Y.env
   again c) c (tLoop wi g tb):=λpins s Z H N I h=>by
 have h1:=hi pins s Z H _ I h;rw[hx]at h1;refine AB (thn h1 λv s1 h2=>AB<|EL<|AB<|wpAny_of_eq (hs v)<|AB<|CO (thn h2 λitv s2 h3=>?_));refine AB<|wpAny_runOwn ?_;refine codeAny_mono (Pw hpl hcl h3<|QM hpl hc hx hct hg hb h3) λr s' (hr,q)=>?_;subst hr;exact AL (rfl,q)
#check 0
def tPutK (tk j:TE) (D:Addr):TB:=λZ H N=>tk Z H λx a=>j Z a λy h=>∃kvs k,x=kV k/\h D=some (.dK kvs)/\kvs.length<sizeLine/\N Z (upd h D (.dK<|putK kvs k y))
def tComp2 (n:Nat) (sel:List Nat) (j:TI) (z:TG) (q:TI) (B:TG) (ho:HO) (tem:Addr->TB):TE:=λZ H Q=>j Z H λJ h=>∀acc,h acc=none->LoopR z (tLoop q B<|tem acc) (λ_ a=>Q (.ref acc) a) (compSt n sel Z) J (upd h acc ho)
theorem U6 {Y:Cx}{kx vx:Expr}{tk tv:TE}{p:Pos}(hx:Y.xe=λ_ _=>False) (hk:PE Y kx tk) (hv:PE Y vx tv) (D:Addr):PB Y (do
   let kv <- eval kx Y.env
   let vv <- holding [kv] (eval vx Y.env)
   standAt p
   holding [kv,vv] (dictSet D kv vv)) (tPutK tk tv D):=λpins s Z H N I h=>by
 have h1:=hk pins s Z H _ I h;rw[hx]at h1;refine AB (thn h1 λu s1 (x,H1,I1,rx,h2)=>?_);have h3:=hv pins s1 Z H1 _ I1 h2;rw[hx]at h3;refine AB<|CO (thn h3 λr s2 (y,H2,I2,ry,kvs,k,ex,hD,hl,hN)=>AB<|EL<|CO ?_);subst ex;obtain⟨z,hd,vs,rel,dd⟩:=Ox I2.hok hD;have hz:vs.length<=sizeLine:=by rw[<- rel.length];exact z
 have hl':(putK kvs k y).length<=sizeLine:=by have:=M9 kvs k y;lia
 refine wpAny_dictSet_pairs (hsz:=hz) (Hs rx) dd λh' dd' hs=>(Z,_,?_,hN);have he:∃q,h'.get? D=some q:=let ⟨q,_,_,hq,_⟩:=dd'; (q,hq)
 exact Lg I2 (by rw[hD];exact True.intro) hs he<|TV hl' hd (rel.put k ry) dd'
end
#check 4
def KD (K:W.Frag) (G:Hp):List (AS × V)->List (AS × D)->Prop:=Paired λ(p:AS × V) (q:AS × D)=>p.1=q.1/\Ay K G p.2 q.2
theorem KD.len (h:KD K G vs ds):vs.length=ds.length:=Paired.length h
end
#check 1
end
section
variable {X:Cx}{pins:Ax}{Z:St}{H H':Hp}{s:Shared}{h':Heap}{b:Addr}
end
section
variable {X:Cx}{pins:Ax}{Z:St}{H H':Hp}{s:Shared}{h':Heap}{a C T:Addr}
variable {M:Model}{E:Au}{Q:Unit->Shared->Prop}
end
section
variable {X:Cx}{pins:Ax}{Z:St}{H:Hp}{s:Shared}{a C:Addr}
end
#check 0
end
section
variable {P:Program}{w:World}{K:W.Frag}{mg:Str->Option Value}{base:Heap}
end
section
variable {K:W.Frag}{J:AM}{E:XK}{Xp:Addr->Prop}{nx bk ct:AM->Prop}{rt:D->AM->Prop}{ro:OD->AM->Prop}
end
#check 3
#check 1
end
#check 4
end
#check 0
def CDivB (i j:Int):Prop:=0<j/\j<=100000000000000000000000000000000000000000000000000000000000
theorem Nn:OpR X (binaryOp .FloorDiv) (rI CDivB λi j=>.int<|i / j):=opI λi j _ _ _ _ _ c q=>by
 have a:(0:Int)<j:=c.1;have b:=c.2;refine floordiv_int #[2] (by rw[L9 i #[2]];exact q) (.inl<|PyProof.noPylong_of_log2 ?_);have h:j.natAbs<=100000000000000000000000000000000000000000000000000000000000:=#[4]
 have H:j.natAbs<2 ^ 200:=FG h #[0];exact Nat.lt_trans ((Nat.log2_lt #[2]).2 H) #[0]
end
section
variable {K:W.Frag}{J:AM}{E:XK}{Xp:Addr->Prop}{P:D->AM->Prop}
end
theorem LL {vs:List Expr}{p:Pos}{es:List Expr}{env:Env}:starEach (Expr.List vs p::es) env=(false,eval (Expr.List vs p) env)::starEach es env:=rfl
theorem BC {vs:List Expr}{c} {p:Pos}{es:List Expr}{env:Env}:starEach (Expr.Tuple vs c p::es) env=(false,eval (Expr.Tuple vs c p) env)::starEach es env:=rfl
def keyPd:AS->PyData
 |.inl i=>.int i
 |.inr x=>.str x
mutual
def D.pd:D->PyData
 |.non=>.none
 |.bl b=>.bool b
 |.int i=>.int i
 |.str x=>.str x
 |.tup ds=>.tuple (D.pds ds)
 |.lst ds=>.list (D.pds ds)
 |.dct ks ds=>.dict ((ks.map keyPd).zip (D.pds ds))
 |_=>.none
def D.pds:List D->List PyData
 |[]=>[]
 |d::ds=>D.pd d::D.pds ds
end
#check 0
end
def PV (K:W.Frag) (te:TE) (J:AM) (d:D):Prop:=∀P:D->AM->Prop,P d J -> JE K te J P
def PVs (K:W.Frag) (ta:TA) (J:AM) (ds:List D):Prop:=∀P:List D->AM->Prop,P ds J -> JA K ta J P
def PR2 (K:W.Frag) (r:R2) (d e:D) (J:AM) (x:D):Prop:=∀P:D->AM->Prop,P x J -> JR2 K r d e J P
#check 4
theorem CA (h:PV K te J d) (p:P d J):JE K te J P:=h P p
theorem Jl (h:J[i]?=some (.val d)):PV K (tVar i) J d:=λP p=>AD h p
theorem Dh:PV K (tC (.int i)) J (.int i):=λP p=>Aa p
theorem FX:PVs K tNil J []:=λP p=>AI p
theorem Ex (h:PV K ta J d) (t:PVs K tr J ds):PVs K (tCons ta tr) J (d::ds):=λP p=>AF<|h _<|t _ p
theorem F6 (h:PVs K ta J ds) (z:ds.length<=sizeLine):PV K (tTup ta) J (.tup ds):=λP p=>BJ<|h _ (z,p)
theorem Hn (h:PVs K ta J ds) (z:ds.length<=sizeLine):PV K (tLst ta) J (.lst ds):=λP p=>Ge<|h _ (z,p)
theorem Jq (a:PV K ta J d) (b:PV K tb J e) (h:PR2 K r d e J x):PV K (tOp r ta tb) J x:=λP p=>AO<|a _<|b _<|h P p
theorem Uu (h:atI ds i=some d):PR2 K (rIxU K) (.tup ds) (.int i) J d:=λP p=>Bc h p
theorem Sb:PR2 K (rAddU K) (.int i) (.int j) J (.int<|i+j):=λP p=>EB p
theorem V4 {f:Int->Int->Int}:PR2 K (rI0 λi j=>.int<|f i j) (.int i) (.int j) J (.int<|f i j):=λP p=>DA p
theorem VM (a:PV K ta J (.tup ds)) (b:PV K tb J (.int i)) (h:atI ds i=some d):PV K (tOp (rIxU K) ta tb) J d:=Jq a b<|Uu h
theorem DX (j:J[n]?=some (.val (.tup ds))) (h:atI ds i=some d):PV K (tOp (rIxU K) (tVar n)<|tC (.int i)) J d:=VM (Jl j) Dh h
theorem Jh (a:PV K ta J (.tup ds)):PV K (tCB (rLenU K)<|tCons ta tNil) J (.int ds.length):=λP p=>A3<|AF<|a _<|AI<|B7 (.inr rfl) p
theorem R3 (a:PV K ta J (.lst ds)):PV K (tCB (rLenU K)<|tCons ta tNil) J (.int ds.length):=λP p=>A3<|AF<|a _<|AI<|B7 (.inl rfl) p
end
#check 3
#check 1
end
#check 3
#check 0
theorem Py {e tg1 it1:Expr}{scope:Scope}{tgs fvs:List Str}{sel:List Nat}{g1:TG}{ob:Obj}{ho:HO}{newAcc:Sem Value}{rest:Addr->Env->Value->Sem Fin}{tem:Addr->TB}(hpl:Plain e) (hcls:(clausesOf e)[0]?=some (tg1,it1,[],0))
  (hct0:∀(D:Addr) (env:Env) (it:Value),compTurn e 0 it (.ref D) env=(do
   standAt it1.pos
   match <- pyNext it with
   |none=>pure (.done .next)
   |some v=>
    letOwnedTupleGo tg1 it v
    assign tg1 env v
    rest D env it))
  (hnew:∀(s:Shared) (Q:Au) (E:Au),Q (.ref s.heap.objs.size) { s with heap:=s.heap.push ob } -> wpAny (model X.prog X.w) X.A newAcc Q E s)
  (hok:∀(pins:Ax) (Z:St) (H:Hp) (s:Shared),AH X pins Z H s->AH X pins Z (upd H s.heap.objs.size ho) { s with heap:=s.heap.push ob,toks:=s.toks })
  (S:CompSc X.env.scope X.N scope fvs sel) (hc:X.calm=true)
  (hg1:∀C s H ex pn,PG (compCx X scope (tgs++fvs) C s H ex pn) tg1 g1)
  (hb:∀C s H ex pn D it,PBT (compCx X scope (tgs++fvs) C s H ex pn) (rest D (compCx X scope (tgs++fvs) C s H ex pn).env it) (.compLoop e 0 it (.ref D) (compCx X scope (tgs++fvs) C s H ex pn).env) (tem D))
  {pins:Ax}{Z:St}{s:Shared}{itv:Value}{Q:VK}{E:Au}{RR:Value->Addr->Result->Shared->Prop}
  (h2:PIE X pins Z tg1 (λJ_ H1=>∀acc,H1 acc=none->LoopR g1 (tem acc) (λ_ H'=>Q (.ref acc) H') (compSt tgs.length sel Z) J_ (upd H1 acc ho)) itv s)
  (fin:∀(s':Shared) (C acc:Addr) (H':Hp) (m:Str->Option Value),s'.heap.Ns C m->FpOk X pins H' C->(∀h',Heap.SameBut C s'.heap h' -> AH X pins Z H' { s' with heap:=h' })->Q (.ref acc) H' -> RR (.ref acc) C (.ok .next) s') :
  wpAny (model X.prog X.w) X.A newAcc (λacc s3=>wpAny (model X.prog X.w) X.A (newFunctionEnv scope X.env.globals (clOf X.env scope.names []) [] X.env.qual none .none (some X.env)) (λcenv s4=>
   codeAny (model X.prog X.w) X.A (.compStart e 0 itv acc { cenv with scope:=relabel scope X.env }) (RR acc cenv.locals) s4) E s3) E s:=by
 obtain⟨it,fp,tn,J_,H1,e0,I,T,st,f2,h2⟩:=h2;subst e0;have hlt:∀b∈fp,b<s.heap.objs.size:=λb hb=>let ⟨o,ho,_⟩:=T.obj 0 _ st b hb; A4 ho
 refine hnew s _ _<|wpAny_newFunctionEnv S.nocell (by intro y hy;simp at hy) (λh1 hns hsb=>?_) S.kind;dsimp only at hns hsb ⊢;have I3:=hok pins Z H1 s I;have hacc:H1 s.heap.objs.size=none:=I.hok.fresh<|AU _;have h2:=h2 s.heap.objs.size hacc;generalize hs3:({ s with heap:=s.heap.push ob,toks:=s.toks }:Shared)=s3 at I3;have hh3:s3.heap=s.heap.push ob:=by rw[<- hs3]
 have old3:∀b o,s.heap.get? b=some o->s3.heap.get? b=some o:=λb o q=>by rw[hh3];exact Ap _ q
 have hf3:∀b∈fp,FpOk X pins (upd H1 s.heap.objs.size ho) b:=λb hb=>(by rw[Ai (BN<|hlt b hb)];exact(f2 b hb).1,(f2 b hb).2);have hlt3:∀b∈fp,b<s3.heap.objs.size:=λb hb=>by rw[hh3,Ep];exact Dp<|hlt b hb
 have tn3:tn 0 s3.heap:=T.keep 0 _ _ st λb hb o q=>old3 b o q;have old4:∀b o,s3.heap.get? b=some o->h1.get? b=some o:=λb o q=>by
  have hb:b≠s3.heap.objs.size:=BN<|A4 q;rw[hh3]at hb q;exact(hsb.2 b hb).trans (Ap _ q)
 have tn4:tn 0 h1:=T.keep 0 _ _ tn3 λb hb o q=>old4 b o q;have hC:(s.heap.push ob).objs.size=s3.heap.objs.size:=by rw[hh3]
 rw[hC]at hns;have J0:=Q7 (tgs:=tgs) (tk:=s.toks+([]:List (Str × Value)).length) S I3 hf3 hlt3 hns old4;have es:({ s3 with heap:=h1,toks:=s.toks+([]:List (Str × Value)).length }:Shared) = { s with heap:=h1,toks:=s.toks+([]:List (Str × Value)).length }:=by rw[<- hs3]
 rw[es]at J0;have G1:=hg1 s3.heap.objs.size s3 (upd H1 s.heap.objs.size ho) fp<|X.pn++pins;have EM:=hb s3.heap.objs.size s3 (upd H1 s.heap.objs.size ho) fp (X.pn++pins) s.heap.objs.size;generalize hY:compCx X scope (tgs++fvs) s3.heap.objs.size s3 (upd H1 s.heap.objs.size ho) fp (X.pn++pins)=Y at J0 G1 EM;have hYp:Y.prog=X.prog:=#[10]
 have hYw:Y.w=X.w:=#[10]
 have hYK:Y.K=X.K:=#[10]
 have hYA:Y.A=X.A:=#[10]
 have hYc:Y.calm=true:=by rw[<- hY];exact hc
 have hYx:Y.xe=λ_ _=>False:=#[10]
 have hYe:Y.env=compEnvC scope (clOf X.env scope.names []) s3.heap.objs.size X.env:=#[10]
 have stat:∀{H':Hp},(∀b∈fp,H' b=none)->∀b∈fp,FpOk Y [] H' b:=λhn b hb=>by
  rw[<- hY];refine(hn b hb,BN<|hlt3 b hb,λz=>?_,.inl hb,λx c e=>?_,λp hp z=>?_)
  ·rcases A5.mp (I3.stkSub b z) with q|q
   ·exact(hf3 b hb).2.1 q
   ·exact(hf3 b hb).2.2.1 q
  ·exact(hf3 b hb).2.2.2.2.1 x c (Dv _ _ (λ_ _ z=>by simp at z) e)
  ·have hp:p∈(X.pn++pins)++[]:=hp
   rw[Bj]at hp;exact(hf3 b hb).2.2.2.2.2 p hp z
 have T':Turn Y.prog Y.w Y.K tg1 J_ fp it tn:=by rw[hYp,hYw,hYK];exact T
 have PP:PIE Y [] (compSt tgs.length sel Z) tg1 (LoopR g1 (tem s.heap.objs.size) (λ_ H'=>Q (.ref s.heap.objs.size) H')<|compSt tgs.length sel Z) (.ref it) { s with heap:=h1,toks:=s.toks+([]:List (Str × Value)).length }:=
  (it,fp,tn,J_,_,rfl,J0,T',tn4,stat λb hb=>(hf3 b hb).1,h2)
 have L:=QM (Y:=Y) (e:=e) (d:=0) (acc:=.ref s.heap.objs.size) hpl hYc hYx (hct0 s.heap.objs.size Y.env) G1 (λit=>EM it) PP;have ST:=Pw (d:=0) hpl hcls PP L;rw[hYp,hYw,hYA,hYe]at ST;show codeAny (model X.prog X.w) X.A (.compStart e 0 (.ref it) (.ref s.heap.objs.size)<|compEnvC scope (clOf X.env scope.names []) (s.heap.push ob).objs.size X.env) (RR (.ref s.heap.objs.size) (s.heap.push ob).objs.size) _;rw[hC];refine codeAny_mono ST λr s6 (hr,Z5,H5,I6,qn)=>?_;subst hr;obtain⟨m6,hn6,_⟩:=I6.loc;rw[hYe]at hn6;refine fin s6 _ _ H5 m6 hn6 (I3.fpOk (AU _) (by have z:=I6.free;rw[hYe]at z;exact z)) (λh' sb=>?_) qn;have I6':AH (compCx X scope (tgs++fvs) s3.heap.objs.size s3 (upd H1 s.heap.objs.size ho) fp<|X.pn++pins) [] Z5 H5 s6:=by rw[hY];exact I6
 exact QB I3 hf3 I6' sb
def tAppL (te:TE) (D:Addr):TB:=λZ H N=>te Z H λy h=>∃ys,h D=some (.lst ys)/\ys.length<sizeLine/\N Z (upd h D (.lst<|ys++[y]))
theorem VZ (hx:Y.xe=λ_ _=>False) (he:PE Y ex te) (D:Addr):PB Y (do
   let _ <- call (.builtin "list.append") [.ref D,<- eval ex Y.env]) (tAppL te D):=λpins s Z H N I h=>by
 have h1:=he pins s Z H _ I h;rw[hx]at h1;refine AB (thn h1 λu s1 (y,H1,I1,ry,ys,ea,za,na)=>?_);have M:=Dw (X:=Y) _ s1 Z H1 (.ref D) [y] (.ref D) [u] (λ_ H=>N Z H) I1 rfl (.cons ry .nil) (_,ys,y,rfl,rfl,ea,za,na);rw[hx]at M;exact AB (thn M λ_ sb (_,Hb,Ib,_,nb)=>AL (Z,Hb,Ib,nb))
theorem Qh {ex tg1 it1 tg2 it2:Expr}{scope:Scope}{pos spos py:Pos}{fvs:List Str}{sel:List Nat}{wi1 wi2:TI}{g1 g2:TG}{te:TE}{i:Nat}{y:Str}(hN:X.N.Nodup) (hiy:X.N[i]?=some y) (hx:Fg X.env.scope y) (tgs:List Str) (S:CompSc X.env.scope X.N scope fvs sel) (hc:X.calm=true)
  (hi1:PI X tg1 it1 wi1) (hg1:∀C s H ex pn,PG (compCx X scope (tgs++fvs) C s H ex pn) tg1 g1) (hi2:∀C s H ex pn,PI (compCx X scope (tgs++fvs) C s H ex pn) tg2 it2 wi2) (hg2:∀C s H ex pn,PG (compCx X scope (tgs++fvs) C s H ex pn) tg2 g2)
  (he:∀C s H ex' pn,PE (compCx X scope (tgs++fvs) C s H ex' pn) ex te)
  (hs1:∀x,foldedSetIterable it1 X.env x=pure x:=by intro _;rfl) (hs2:∀(env:Env) x,foldedSetIterable it2 env x=pure x:=by intro _ _;rfl)
  (hsw:swapsWith (.ListComp ex [(tg1,it1,[],0),(tg2,it2,[],0)] scope pos) (some (.Name y py)) spos.line X.env=pure true:=by rfl)
  (hf:X.fn y=true\/X.env.scope.names.lookup y=some .local:=by sleep 90) :
  PS X (.Assign [.Name y py] (.ListComp ex [(tg1,it1,[],0),(tg2,it2,[],0)] scope pos) spos) (tAsg (tComp2 tgs.length sel wi1 g1 wi2 g2 (.lst [])<|tAppL te)<|gName i):=by
 intro pins s Z H D I h;rw[exec_Assign_Name_used _ _ _ _ hsw];refine AB (EL (AB ?_));show wpAny _ X.A (do let _ <- comprehension (.ListComp ex [⟨tg1,it1,[],0⟩,⟨tg2,it2,[],0⟩] scope pos) scope X.env _ (newList []) false (eval it1 X.env) (some (assign (.Name y py) X.env))) _ _ s;refine AB (D2 (wpAny_comprehension_free (use:=some (assign (.Name y py) X.env)) (Q:=λ_ s'=>SP X pins D .next s') rfl hs1 (Ip (Iu S I.ok)) S.kind S.names
  (thn (hi1 pins s Z H _ I h) λv s1 h1=>thn h1 λitv s2 h2=>?_)) (λ_ s' hq=>AL (AL hq)) λ_ _ e=>e)
 refine Py (tgs:=tgs) (ob:={ cls:=.type "list",data:=.seq ([]:List Value).toArray }) (ho:=.lst []) (Pr _ _ _ _) rfl (λD env it=>rfl) (λs Q E q=>wpAny_newObj_type q) (λpins Z H s I=>I.lnew (its:=[]) .nil #[0]) S hc hg1 (tem:=λacc=>tLoop wi2 g2<|tAppL te acc) (λC s H ex pn D it=>Zw3 (Y:=compCx X scope (tgs++fvs) C s H ex pn) (Pr _ _ _ _) hc rfl rfl (λit=>rfl) (hi2 C s H ex pn) (hg2 C s H ex pn) (λit=>(VZ (Y:=compCx X scope (tgs++fvs) C s H ex pn) rfl (he C s H ex pn) D).rest)<|hs2 _) (RR:=λacc C=>compPost (model X.prog X.w) X.A X.xe (some<|assign (.Name y py) X.env) (λ_ s'=>SP X pins D .next s') acc C) (Q:=λv H'=>D.nx (Z.set i<|some v) H') h2 ?_;intro s' C acc H' m hn fp hI q;have I0:AH X pins Z H' s':=hI s'.heap (.refl ..);show wpAny _ X.A (assign (.Name y py) X.env (.ref acc)) _ _ _;refine wpAny_assign_Name<|LF (v:=.ref acc) I0 hN hiy hx rfl (λs2 I2 hsb=>?_) hf;obtain⟨a,sb,ha⟩:=hsb;have hCa:C≠a:=by
  rcases ha with z|z
  ·rw[z];exact fp.2.1
  ·exact Ne.symm<|fp.2.2.2.2.1 y a z
 refine(m,hn.sameBut sb hCa,λh' sb'=>?_);obtain⟨f0,f1,f2,f3,f4,f5⟩:=fp;exact(_,H',I2.turned (t':=s2.toks) (it:=C) (λb o hb e=>(sb'.2 b hb).trans e) f0 f1 f3 f4 f5,q)
def tCompG (n:Nat) (sel:List Nat) (j:TI) (q:TG) (ho:HO) (tem:Addr->TB):TE:=λZ H Q=>j Z H λJ h=>∀acc,h acc=none->LoopR q (tem acc) (λ_ a=>Q (.ref acc) a) (compSt n sel Z) J (upd h acc ho)
end
#check 4
def gInO (G H:Hp) (acc:Addr) (o:HO):Gm:=(λ_=>False,G,H,λb=>if b=acc then some o else none)
theorem LU (k:Ok K (gInO G H acc u) G' H' Z J):H' acc=some u/\G' acc=none/\∀(i:Nat) x od,J[i]?=some x->x.od=some od -> Z[i]?≠some (some (.ref acc)):=
 k.ext acc u (by show (if acc=acc then _ else _)=_;rw[AN rfl])
theorem Qq (q:H acc=none) (k:Ok K (gInO G H acc u) G' H' Z J):Ok K (gInO G H acc u') G' (upd H' acc u') Z J:=by
 obtain⟨m,w,W⟩:=LU k;have ne:∀{b:Addr}{o:HO},G' b=some o->b≠acc:=λ{b o} e z=>by subst z;exists 0,w,e
 refine(λb o h e=>?_,λb h=>h.elim,k.sub,λb o e=>?_,λb o e=>?_,k.len,k.val,λi x D E c=>?_,k.dis)
 ·have B:b≠acc:=by intro z;subst z;have e:H b=some o:=e;exists 0,q,e
  rw[Ai B];exact k.same b o (λz=>z) e
 ·rw[Ai (ne e)];exact k.frz b o e
 ·have e:(if b=acc then some u' else none)=some o:=e
  by_cases h:b=acc
  ·rw[AN h]at e;cases e;subst h
   exact(Bd,w,W)
  ·rw[AK h]at e;cases e
 ·obtain⟨a,o,d,f,g,j,l⟩:=k.own i x D E c
  have h:a≠acc:=by intro z;subst z;exact W i x D E c d
  exact(a,o,d,by rw[Ai h];exact f,g,j,l)
def JB (K:W.Frag) (tem:Addr->TB) (J:AM) (od:OD) (P:OD->AM->Prop):Prop:=∀(G1 H1:Hp) (acc:Addr) (o:HO) (G H:Hp) (Z:St) (N:St->Hp->Prop),H1 acc=none->OwnRep K G o od->Ok K (gInO G1 H1 acc o) G H Z J ->
 (∀o' od' Z' G' H' J',Ok K (gInO G1 H1 acc o') G' H' Z' J' -> Same G G' -> OwnRep K G' o' od' -> P od' J' -> N Z' H')->tem acc Z H N
theorem Zz7 (h:JI K wi J λes J4=>∃I2:Nat->OD->AM->Prop,I2 0 od J4 /\
   (∀j e od2 J5,es[j]?=some e->I2 j od2 J5->JG K g2 e J5 λJ6=>JB K tem J6 od2 λod3 J8=>I2 (j+1) od3 J8)/\∀od2 J5,I2 es.length od2 J5->P od2 J5):JB K (λacc=>tLoop wi g2 (tem acc)) J od P:=λf i acc o G H Z N C ra k c=>
 h _ G H Z _ k λJ_ es G5 H5 J5 k5 s5 it (I2,i0,i1,i2)=>by
  refine(λj m z b=>m=es.length-j/\j<=es.length/\∃g O d J6,OwnRep K g O d/\Ok K (gInO f i acc O) g b z J6/\Same G5 g/\I2 j d J6,(es.length,#[3],Bp _,G5,o,od,_,ra.mono s5,k5,Same.refl _,i0),?_);rintro j m u r ⟨rfl,hj,g,O,d,J6,R,n,s,v⟩;obtain⟨p,l⟩:=it g r s n.live;by_cases hjt:j<es.length
  ·obtain⟨F,I⟩:=l j _ (AZ hjt)
   refine .inr (F,λz b=>∃a o7 od7 J7,OwnRep K a o7 od7/\Ok K (gInO f i acc o7) a b z J7/\Same G5 a/\I2 (j+1) od7 J7,λz b X=>(es.length-(j+1),#[4],rfl,hjt,X),λx t y2=>?_);obtain⟨a,D,L,M,Q⟩:=I x t y2;have T:=n.grow D L M;refine i1 j _ d J6 (AZ hjt) v _ a t u x _ T Q λE w A J8 U S Y=>?_;exact Y f i acc O w A E _ C (R.mono<|D.trans S) U λW q Z9 y H9 B V s9 r9 p9=>(y,W,q,B,r9,V,s.trans<|D.trans<|S.trans s9,p9)
  ·have e:j=es.length:=by omega
   subst e;exact .inl (p,c O d u g r J6 n (s5.trans s) R<|i2 d J6 v)
theorem Ti (h:JE K te J λd J1=>ds.length<sizeLine/\P (.lst<|ds++[d]) J1):JB K (tAppL te) J (.lst ds) P:=λg b C o G H Z N a R k c=>
 h _ G H Z _ k λy d Ga Ha Ja ka sa r (hl,p)=>by
  cases o with
  |lst vs=>
   have A:Reps K Ga vs ds:=Reps.mono sa R;obtain⟨w,W,e⟩:=LU ka;exact(vs,w,by rw[A.length];exact hl,c _ _ Z Ga _ Ja (Qq a ka) sa (show OwnRep K Ga (.lst<|vs++[y]) (.lst<|ds++[d]) from Reps.append A (.cons r .nil)) p)
  |_=>exact absurd R (λz=>z)
def valT (kvs:List (List AS × D)) (k:List AS):Option D:=(kvs.find? λv=>decide (v.1=k)).map (·.2)
def putT (kvs:List (List AS × D)) (k:List AS) (v:D):List (List AS × D):=if (kvs.any λV=>decide (V.1=k))=true then kvs.map (λV=>if V.1=k then (V.1,v) else V) else kvs++[(k,v)]
def KTD (K:W.Frag) (G:Hp):List (List AS × V)->List (List AS × D)->Prop:=Paired λ(p:List AS × V) (q:List AS × D)=>p.1=q.1/\Ay K G p.2 q.2
theorem R4:∀{kvs:List (List AS × V)}{kds:List (List AS × D)},KTD K G kvs kds->(kvs.any λkv=>decide (kv.1=k))=kds.any λkv=>decide (kv.1=k)
 |_,_,.nil=>rfl
 |_::_,_::_,.cons (e,_) t=>by
  rw[Es,Es,R4 t,e]
theorem SJ (j:Ay K G v d):∀{kvs:List (List AS × V)}{kds:List (List AS × D)},KTD K G kvs kds->KTD K G (kvs.map λkv=>if kv.1=k then (kv.1,v) else kv) (kds.map λkv=>if kv.1=k then (kv.1,d) else kv)
 |_,_,.nil=>.nil
 |p::_,q::_,.cons (e,r) t=>by
  refine .cons ?_<|SJ j t;dsimp only;by_cases hk:p.1=k
  ·rw[AN hk,AN (e ▸ hk)];exact(e,j)
  ·rw[AK hk,AK (e ▸ hk)];exact(e,r)
theorem UU (j:Ay K G v d) (h:KTD K G kvs kds):KTD K G (putK kvs k v) (putT kds k d):=by
 unfold putK putT;rw[R4 h];split
 ·exact SJ j h
 ·exact Paired.snoc h (rfl,j)
theorem Qv (a3:∀G,OwnRep K G ho od0)
  (h:JI K wi1 J λds J1=>(∀i∈sel,∃d,J1[i]?=some (.val d))/\∃I:Nat->OD->AM->Prop,I 0 od0 (compD n sel J1) /\
   (∀i d od J2,ds[i]?=some d->I i od J2->JG K g1 d J2 λJ3=>JB K tem J3 od λod' J4=>I (i+1) od' J4) /\
   ∀od J2,I ds.length od J2->Po od J1):JO K (tCompG n sel wi1 g1 ho tem) J Po:=λg G H Z Q k c=>
 h g G H Z _ k λJ_ ds G1 H1 J1 k1 s1 it (hval,I,h0,ht,he) acc hacc=>by
  have A:G1 acc=none:=by
   cases e:G1 acc with
   |none=>rfl
   |some u=>rw[k1.live _ _ e]at hacc;cases hacc
  have O:∀(i:Nat) x od,(compD n sel J1)[i]?=some x->x.od=some od->False:=λi x od f E=>by
   rcases FR f with z|⟨j,N,V,M,z⟩
   ·subst z;cases E
   ·obtain⟨d,hd⟩:=hval N (Be M)
    exists 0,hd,z;cases E
  refine(λi m C w=>m=ds.length-i/\i<=ds.length/\∃l s D J2,OwnRep K l s D/\Ok K (gInO G1 H1 acc s) l w C J2/\Same G1 l/\I i D J2,(ds.length,#[3],Bp _,G1,ho,od0,_,a3 _,?_,Same.refl _,h0),?_)
  ·refine(λb o B e=>?_,λb B=>B.elim,Same.refl _,λb o e=>(?_,.inr e),λb o e=>?_,?_,λi d e=>?_,λi x od f E=>(O i x od f E).elim,λi j x y od od' a f E=>(O i x od f E).elim)
   ·have e:H1 b=some o:=e
    rw[Ai (Bq e hacc)];exact e
   ·rw[Ai (Bq e A)];exact k1.live b o e
   ·have e:(if b=acc then some ho else none)=some o:=e
    by_cases B:b=acc
    ·rw[AN B]at e;cases e;subst B
     exact(Bd,A,λi x od f E=>(O i x od f E).elim)
    ·rw[AK B]at e;cases e
   ·unfold compD compSt;simp
   ·rcases FR e with z|⟨j,N,V,M,z⟩
    ·cases z
    ·subst V
     obtain⟨v,W,T⟩:=k1.val N d z;exact(v,by rw[Iv M,W];rfl,T)
  ·rintro i m Z2 F ⟨rfl,hi,l,s,D,J2,Y,r,S,X⟩
   obtain⟨t,go⟩:=it l F S r.live;by_cases hlt:i<ds.length
   ·obtain⟨a1,a2⟩:=go i _ (AZ hlt)
    refine .inr (a1,λC w=>∃p o3 od3 J3,OwnRep K p o3 od3/\Ok K (gInO G1 H1 acc o3) p w C J3/\Same G1 p/\I (i+1) od3 J3,λC w p'=>(ds.length-(i+1),#[4],rfl,hlt,p'),λx U y=>?_);obtain⟨p,L,b2,b3,b4⟩:=a2 x U y;have k3:=r.grow L b2 b3;refine ht i _ D J2 (AZ hlt) X _ p U Z2 x _ k3 b4 λZ4 G4 H4 J4 k4 s4 p4=>?_;exact p4 G1 H1 acc s G4 H4 Z4 _ hacc (Y.mono<|L.trans s4) k4 λo9 R Z9 G9 H9 J9 P s9 r9 p9=>(G9,o9,R,J9,r9,P,S.trans<|L.trans<|s4.trans s9,p9)
   ·have e:i=ds.length:=by omega
    subst e;obtain⟨W,T,w3⟩:=LU r;refine .inl (t,?_);have P:Ok K g l F Z J1:=k1.grow S (λb o e=>r.same b o (λz=>z) e) λb o e=>by
     obtain⟨f1,f2⟩:=r.frz b o e;exact(f1,f2.symm)
    refine c acc _ l F J1 P (s1.trans S) (s,W,Y,T,k1.there hacc,?_,λi x od f E e3=>?_)<|he D J2 X
    ·cases q:g.Xo acc with
     |none=>rfl
     |some u=>have z:=(k1.ext acc u q).1;exists 0,hacc,z
    ·obtain⟨a,oo,v1,v2,_⟩:=k1.own i x od f E
     exists 0,e3,v1;exists 0,hacc,v2
theorem Zzb (h:JE K tk J λkd J1=>JE K tv J1 λvd J2=>∃ki:Int,kd=.int ki/\kvs.length<sizeLine/\P (.dct<|putD kvs (.inl ki) vd) J2):JB K (tPutK tk tv) J (.dct kvs) P:=λf i C o G H Z N a R k c=>
 h _ G H Z _ k λx kd g b j e s r d=>d _ g b Z _ e λy vd Gb Hb Jb kb sb rv (ki,ek,hl,p)=>by
  subst ek;cases r.inv;cases o with
  |dK kv=>
   have A:KD K Gb kv kvs:=OwnRep.mono (o:=.dK kv) (od:=.dct kvs) (s.trans sb) R;obtain⟨w,W,l⟩:=LU kb;exact(kv,.inl ki,rfl,w,by rw[A.len];exact hl,c _ _ Z Gb _ Jb (Qq a kb) (s.trans sb) (show OwnRep K Gb (.dK _) (.dct _) from Sv rv A) p)
  |_=>exact absurd R (λz=>z)
end
#check 6
end
#check 1
theorem Ri:∀{kvs:List (AS × V)}{kds:List (AS × D)},Paired (λ(p:AS × V) (q:AS × D)=>p.1=q.1/\Ay K G p.2 q.2) kvs kds->(kds.map (·.1)).zip (kvs.map (·.2))=kvs/\Reps K G (kvs.map (·.2)) (kds.map (·.2))
 |_,_,.nil=>(rfl,.nil)
 | (k1,v1)::kvs,(k2,d2)::kds,.cons (e,r) t=>by
  have e:k1=k2:=e;subst e;obtain⟨h,H⟩:=Ri t;refine(?_,.cons r H);show (k1,v1)::(kds.map (·.1)).zip (kvs.map (·.2))=_;rw[h]
theorem Rp:∀{ks:List AS}{vs:List V}{ds:List D},ks.length=vs.length->Reps K G vs ds->Paired (λ(p:AS × V) (q:AS × D)=>p.1=q.1/\Ay K G p.2 q.2) (ks.zip vs) (ks.zip ds)
 |[],_,_,_,_=>.nil
 |_::_,_,_,l,.nil=>by cases l
 |k::ks,_,_,l,.cons r rs=>.cons (rfl,r) (Rp (Nat.succ.inj l) rs)
theorem Zwh (j:List (AS × D)):(j.map (·.1)).zip (j.map (·.2))=j:=by
 induction j with
 |nil=>rfl
 |cons a t ih=>rw[Bz,Bz,IT,ih]
theorem Ok.freezeD (k:Ok K g G H Z J) (p:Pend K g G H Z J a (.dct kds)) (O:H a=some (.dK kvs)):Ok K g (upd G a (.dK kvs)) H Z J /\ Same G (upd G a (.dK kvs))/\Ay K (upd G a (.dK kvs)) (.ref a) (.dct (kds.map (·.1))<|kds.map (·.2)):=by
 obtain⟨o,P,m,q,r,t,y⟩:=p;exists 0,O,P;obtain⟨R,A⟩:=Ri (K:=K) m;have s:Same G (upd G a (.dK kvs)):=λb u e=>by rw[Ai (Bq e q)];exact e
 refine⟨(k.same,k.lent,k.sub.trans s,λb u e=>?_,λb u e=>?_,k.len,λj d h=>?_,λj x D E l=>?_,k.dis),s,.dct (vs:=kvs.map (·.2)) (by rw[R];exact Bd) (by rw[AJ,AJ];exact(Paired.length m).symm)<|A.mono s⟩
 ·by_cases B:b=a
  ·subst B;exists 0,Bd,e;exact(O,.inl r)
  ·rw[Ai B]at e;exact k.frz b u e
 ·obtain⟨f,i,n⟩:=k.ext b u e
  have B:b≠a:=by intro z;subst z;exists 0,t,e
  exact(f,by rw[Ai B];exact i,n)
 ·obtain⟨v,f,i⟩:=k.val j d h
  exact(v,f,i.mono s)
 ·obtain⟨c,o,w,W,F,I,L⟩:=k.own j x D E l
  have C:c≠a:=by intro z;subst z;exact y j x D E l w
  exact(c,o,w,W,F.mono s,by rw[Ai C];exact I,L)
def dctD (j:List (AS × D)):D:=.dct (j.map (·.1))<|j.map (·.2)
theorem Zuk (h:JO K t J λod J1=>∃kds,od=.dct kds/\P (dctD kds) J1):JE K t J P:=λg G H Z Q k c=>
 h g G H Z Q k λa od m b J1 f s d q=>by
  obtain⟨kds,e,p⟩:=q;subst e;obtain⟨o,j,l,_⟩:=id d;cases o with
  |dK kvs=>
   obtain⟨i,S,r⟩:=f.freezeD d j;exact c _ _ _ b J1 i (s.trans S) r p
  |_=>exact absurd l (λz=>z)
theorem N4 (h:valD kds (.inl i)=some d) (p:P d J):JR2 K (rIxU K) (dctD kds) (.int i) J P:=λg G H Z Q x y k X Y c=>by
 obtain⟨a,v,rfl,A,l,s⟩:=X.inv;cases Y.inv;have r:=Rp l s;rw[Zwh]at r;obtain⟨u,z,b⟩:=OA r h;exact .inr (a,u,rfl,(by have:=DGet.k (k:=Sum.inl i)<|k.live _ _ A;rw[z]at this;exact this),c u d G H J k (Same.refl _) b p)
end
end L2
set_option Elab.async false
set_option linter.all false
set_option maxRecDepth 100000
namespace HT
open PySem PyProof.Rows
end HT
namespace L2
open PySem PySem.Spec PyProof.Rows
#check 1
end
section
variable {prog:Program}{w:World}{A:Around}{R:Result->Shared->Prop}{I:Addr}{fp wr:List Addr}{G:Array GenState->Array GenState->Prop}{n:Nat}{P:Nat->Value->Prop}{St:Nat->Shared->Prop}{K:Type}[DecidableEq K] {knd:KeyKind prog w K}
end
#check 0
end
#check 5
end
#check 1
def onlyV:Slot->Slot
 |.val d=>.val d
 |_=>.any
theorem Rf:(onlyV x).od=none:=by cases x <;> rfl
theorem Ok.peek {g:Gm}{G H:Hp}{Z:St}(k:Ok K g G H Z J) {i:Nat}{x:Slot}{ds:List D}(h:J[i]?=some x) (ho:x.od=some (.lst ds)) :
  ∃(g':Gm) (G':Hp),Ok K g' G' H Z ((J.map onlyV).set i (.val (.lst ds)))/\Same G G' /\ ∀G2 H2 J2,Ok K g' G2 H2 Z J2->Ok K g G H2 Z J:=by
 obtain⟨a,o,W,r,w,A,F⟩:=k.own i x _ h ho;cases o with
 |lst vs=>
  have s:Same G (upd G a (.lst vs)):=λb u e=>by rw[Ai (Bq e A)];exact e
  have t:i<(J.map onlyV).length:=by rw[AJ];exact(BQ.mp h).1
  refine((λ_=>False,upd G a (.lst vs),H,λ_=>none),upd G a (.lst vs),(λb o _ e=>e,λb z=>z.elim,λb o e=>e,λb o e=>?_,λb o e=>(by cases e),?_,λj d e=>?_,λj y od E c=>?_,λj l y z od O b E c B C=>?_),s,λG2 H2 J2 m=>?_)
  ·refine(?_,.inr e)
   by_cases hb:b=a
   ·subst hb;exists 0,Bd,e;exact r
   ·rw[Ai hb]at e;exact k.live b o e
  ·rw[IZ,AJ];exact k.len
  ·by_cases hj:j=i
   ·subst hj
    rw[CT t]at e;cases e;exact(.ref a,W,.lst Bd<|Reps.mono s w)
   ·rw[Cg (Ne.symm hj),Ad]at e
    cases z:J[j]? with
    |none=>exists 0,z,e
    |some y=>
     rw[z]at e;cases y with
     |val d'=>
      have e:Slot.val d'=Slot.val d:=CL.inj e;cases e;obtain⟨v,q,Q⟩:=k.val j d z;exact(v,q,Q.mono s)
     |_=>cases e
  ·exfalso
   by_cases hj:j=i
   ·subst hj
    rw[CT t]at E;cases E;cases c
   ·rw[Cg (Ne.symm hj),Ad]at E
    cases z:J[j]? with
    |none=>exists 0,z,E
    |some y=>
     rw[z]at E;have E:onlyV y=_:=CL.inj E;rw[<- E,Rf]at c;cases c
  ·exfalso
   by_cases hj:j=i
   ·subst hj
    rw[CT t]at E;cases E;cases c
   ·rw[Cg (Ne.symm hj),Ad]at E
    cases z:J[j]? with
    |none=>exists 0,z,E
    |some y=>
     rw[z]at E;have E:onlyV y=_:=CL.inj E;rw[<- E,Rf]at c;cases c
  ·have p:∀b o,H b=some o->H2 b=some o:=λb o e=>m.same b o (λz=>z) e
   refine(λb o n e=>p b o<|k.same b o n e,λb n z=>?_,k.sub,λb o e=>(p b o (k.frz b o e).1,(k.frz b o e).2),λb o e=>?_,k.len,k.val,λj y od E c=>?_,k.dis)
   ·cases e:H b with
    |none=>exact k.lent b n e
    |some o=>rw[p b o e]at z;cases z
   ·obtain⟨q,Q,f⟩:=k.ext b o e
    exact(p b o q,Q,f)
   ·obtain⟨b,o,q,Q,f⟩:=k.own j y od E c
    exact(b,o,q,p b o Q,f)
 |_=>exact absurd w (λz=>z)
theorem S8 (h:J[i]?=some x) (ho:x.od=some (.lst ds)) (p:JT K t ((J.map onlyV).set i (.val (.lst ds))) λb _=>Pb b J):JT K t J Pb:=λg G H Z Q k c=>by
 obtain⟨l,e,m,_,a⟩:=k.peek h ho;exact p l e H Z Q m λb f d j n _ q=>c b G d J (a f d j n) (Same.refl _) q
end
#check 3
#check 5
end
#check 4
end
#check 3
theorem Zuw (a b:List Int):(((AV<|min a.length b.length).all λj=>decide (a.getD j 0=b.getD j 0)) && a.length == b.length)=decide (a=b):=by
 rw[Fo,Cv,EX,beq_iff_eq,decide_eq_true_iff];constructor
 ·rintro⟨h,H⟩
  apply Kc H;intro i hi hj;have:=of_decide_eq_true (h i<|BB.mpr #[2]);rw[Av,Av,AZ hi,AZ hj]at this;exact this
 ·rintro rfl
  exact(λj _=>BD rfl,rfl)
section
variable {A:Around}{s:Shared}
theorem RE (B:RowAt s.heap x a) (Y:RowAt s.heap y b) (U:A.units<cLine):EqAt A s x y (decide (a=b)):=by
 obtain⟨p,S,rfl,k,I⟩:=id B;obtain⟨q,i,rfl,m,c⟩:=id Y;by_cases e:p=q
 ·subst e
  rw[BD (B.inj Y)];exact EqAt.same _
 ·have l:=I.length
  have L:=c.length;have:=RcAt.tuples (A:=A) (s:=s) (e:=λj=>decide (a.getD j 0=b.getD j 0)) k m U λj d f=>by
   have h:j<S.length:=by simpa using d
   have H:j<i.length:=by simpa using f
   obtain⟨t,E⟩:=IntsAre.int_at I j _<|AZ h;obtain⟨g,T⟩:=IntsAre.int_at c j _<|AZ H;rw[List.getElem_toArray,List.getElem_toArray,E,T];have z:=EqAt.int_int (A:=A.in1) (s:=s) (a.getD j 0) t (b.getD j 0) g;rw[MI]at z;exact z
  rw[BR,BR,l,L,Zuw]at this;exact EqAt.of_refs e this
end
def cLt:Ak->Ak->Bool
 |[],[]=>false
 |[],_::_=>true
 |_::_,[]=>false
 |x::xs,y::ys=>if x=y then cLt xs ys else rlt x y
def CodeAt (h:Heap) (v:Value) (c:Ak):Prop:=∃(a:Addr) (its:List Value),v=.ref a/\IsTup h a its.toArray/\Paired (RowAt h) its c
theorem CodeAt.keep (x:CodeAt h v c) (k:∀b o,h.get? b=some o->h'.get? b=some o):CodeAt h' v c:=by
 obtain⟨a,s,e,⟨o,O,C⟩,i⟩:=x;exact(a,s,e,(o,k a o O,C),Paired.mapP i λ_ _ z=>z.keep k)
section
open PySem.AutoSeq1 (wpAny_loadPart')
open PySem.MeetsSeq PySem.MeetsSeq2 PySem.MeetsSeq3
theorem Wc (l b:Addr) (items items2:Array Value) (n n2:Nat) (dd dd2:Option Addr) (sl sl2:Array (Option Value)) (ns ms:Ak) :
  Meets (Builtin.«tuple.__lt__» ([.ref l,.ref b],[]))
   (λA R s=>A.units+1<cLine/\(Paired (RowAt s.heap) items.toList ns/\Paired (RowAt s.heap) items2.toList ms)/\s.heap.get? l=some { cls:=.type "tuple",dict:=dd,data:=.seq items n,slots:=sl } /\ s.heap.get? b=some { cls:=.type "tuple",dict:=dd2,data:=.seq items2 n2,slots:=sl2 } /\
    R (.ok (.ret (.bool (cLt ns ms)))) s):=
 .of_wp λo w A R s h=>by
  obtain⟨p,g,d,k,O⟩:=s;obtain⟨Y,⟨P,U⟩,hl,hb,h⟩:=h;have f2:=AutoSeq1.sub_tuple_tuple;have z1:items.size=ns.length:=by rw[<- Paired.length P];simp
  have z2:items2.size=ms.length:=by rw[<- Paired.length U];simp
  wp_walk using wpAny_loadPart' hl,wpAny_loadPart' hb,wpAny_forIn_list _ (λt b G=>b.1=none/\G=(p,g,d,k,O) /\ ∃(V W:List Value) (S m:Ak),t=V.zip W /\
   Paired (RowAt p) V S /\ Paired (RowAt p) W m /\ S.length+items2.size=m.length+items.size/\R (.ok (.ret (.bool (cLt S m)))) (p,g,d,k,O)) _
  case turn=>
   rintro⟨y,x⟩ t b G ⟨B,rfl,V,W,S,m,z,v,i,N,H⟩;cases v with
   |nil=>rw[List.zip_nil_left]at z;cases z
   |@cons _ a _ _ ra hvi'=>
    cases i with
    |nil=>rw[List.zip_nil_right]at z;cases z
    |@cons _ c _ _ rc hwi'=>
     rw[IT]at z;injection z with hyx hrest
     injection hyx with hy hx
     subst hy hx;have H:R (.ok (.ret (.bool (if a=c then cLt _ _ else rlt a c)))) (p,g,d,k,O):=H;simp only[BH]at N;have he:=RE (A:=A.in1) (s:=(p,g,d,k,O)) ra rc (by show A.units+1<cLine;exact Y);refine AB<|he o w _ _ ?_;by_cases e:a=c
     ·rw[AN e]at H
      rw[BD e]
      wp_walk
      exact(rfl,rfl,_,_,_,_,hrest,hvi',hwi',#[2],H)
     ·rw[AK e]at H
      rw[BI e];have u:∀(Q:Au) (E:Au),Q (.bool<|rlt a c) (p,g,d,k,O) -> wpAny (model o w) A.in1 (richCompare .Lt y x) Q E (p,g,d,k,O):=λQ E q=>by
       obtain⟨l',j,rfl,⟨⟨c1,d1,a0,J⟩,X,K,k1,M⟩,r⟩:=ra;obtain⟨l2,T,rfl,⟨⟨c2,d2,a1,L⟩,f,C,k2,D⟩,I⟩:=rc;simp only at K M C D;subst K M C D;exact richCompare_meets_room (op:=.Lt) (_,X,rfl) (_,f,rfl) PySem.F.slot_tuple_lt PySem.F.entry_tuple_lt (PySem.F.args_tuple_lt_2 _ _) (HT.tuple_lt_ints l' l2 j.toArray T.toArray k1 k2 d1 d2 J L a c (by simpa using r) (by simpa using I))
        (X,f,show Value.bool (HT.lexLt a c)≠Value.notImplemented/\_ from ((λx=>nomatch x),q)) (by show A.units+1<cLine;exact Y)
      wp_walk using u
      exact(_,rfl,by simpa using H)
  case fin=>
   rintro⟨b1,b2⟩ G ⟨B,rfl,V,W,S,m,z,v,i,N,H⟩;simp only at B;subst B;have Z:cLt S m=decide (items.size<items2.size):=by
    cases v with
    |nil=>
     cases i with
     |nil=>
      simp only[Dq]at N;exact(BI #[2]).symm
     |cons _ hw=>
      simp only[Dq,BH]at N;exact(BD #[2]).symm
    |cons _ Z=>
     cases i with
     |nil=>
      simp only[Dq,BH]at N;exact(BI #[2]).symm
     |cons _ hw=>
      exists 0,IT,z
   rw[Z]at H
   wp_walk
   exact(_,rfl,by simpa [Builtin.Tuple.tupleCompareSizes] using H)
  ·exact(rfl,rfl,_,_,_,_,rfl,P,U,#[2],h)
end
theorem Paired.getC:∀{vs:List α}{rs:List β}{i:Nat}{v:α},Paired R vs rs->vs[i]?=some v->∃r,rs[i]?=some r/\R v r
 |_,_,_,_,.nil,e=>by simp at e
 |_,_,0,_,.cons r _,e=>by simp at e;subst e;exact(_,rfl,r)
 |_,_,i+1,_,.cons _ t,e=>Paired.getC (i:=i) t (by simpa using e)
#check 5
end
end L2
namespace L2
#check 3
def RowV (K:W.Frag) (H:Hp) (y:V) (r:List Int):Prop:=∃b,y=.ref b/\SqT K H b (r.map V.int)
def CodeV (K:W.Frag) (H:Hp) (y:V) (c:Ak):Prop:=∃b zs,y=.ref b/\SqT K H b zs/\Paired (RowV K H) zs c
#check 0
theorem NN {R:V -> α -> Prop}{T:Value -> α -> Prop}(h:∀y u c,RelV y u->R y c->T u c):∀{ys:List V}{us:List Value}{cs:List α},Vals ys us->Paired R ys cs->Paired T us cs
 |_,_,_,.nil,.nil=>.nil
 |_,_,_,.cons a b,.cons c d=>.cons (h _ _ _ a c) (NN h b d)
theorem row_at (I:AH X pins Z H s) (U:RelV y u) (h:RowV X.K H y r):RowAt s.heap u r:=by
 obtain⟨b,rfl,S⟩:=h;obtain⟨t,w,p,_⟩:=I.tuple S;exact(b,t,U,p,K5 w)
theorem Zzw (I:AH X pins Z H s) (U:RelV y u) (h:CodeV X.K H y c):CodeAt s.heap u c:=by
 obtain⟨b,z,rfl,S,p⟩:=h;obtain⟨t,w,P,_⟩:=I.tuple S;exact(b,t,U,P,NN (R:=RowV X.K H) (T:=RowAt s.heap) (λy u c a b=>row_at I a b) w p)
end
#check 1
theorem Zyk (hs:Same G H) (h:Ay K G v (rowD r)):RowV K H v r:=by
 obtain⟨a,S,rfl,A,s⟩:=h.inv;have e:=s.ints;subst e;exact(a,rfl,SqT.of<|hs _ _ A)
theorem P6 (hs:Same G H):∀{vs:List V}{c:Ak},Reps K G vs (c.map rowD)->Paired (RowV K H) vs c
 |_,[],.nil=>.nil
 |_,r::c,.cons a b=>.cons (Zyk hs a) (P6 hs b)
theorem P0 (hs:Same G H):∀{vs:List V}{cs:List (List<|List Int)},Reps K G vs (cs.map λc=>D.tup<|c.map rowD)->Paired (CodeV K H) vs cs
 |_,[],.nil=>.nil
 |_,c::cs,.cons a b=>by
  obtain⟨p,w,rfl,h,s⟩:=a.inv;exact .cons (p,w,rfl,SqT.of<|hs _ _ h,P6 hs s)<|P0 hs b
end
#check 3
#check 1
end
#check 3
open PySem in
theorem Ah {v} {j} {p:Pos}{es:List Expr}{env:Env}:starEach (Expr.Constant v j p::es) env=(false,eval (Expr.Constant v j p) env)::starEach es env:=rfl
open PySem in
theorem Zwr {a b:Expr}{op:Operator}{p:Pos}{es:List Expr}{env:Env}:starEach (Expr.BinOp a op b p::es) env=(false,eval (Expr.BinOp a op b p) env)::starEach es env:=rfl
#check 0
def ipC (C:Int->Int->Prop) (f:Int->Int->Int):TIp:=λx y H Q=>∃i j,x=.int i/\y=.int j/\C i j/\Q (.int<|f i j) H
theorem OY:PIp X .Mult (ipC CMul λi j=>i*j):=by
 intro pins s Z H x y v u Q I r1 r2 h;obtain⟨i,j,e,E,c,q⟩:=h;subst e;subst E;obtain⟨t,rfl⟩:=r1;obtain⟨T,rfl⟩:=r2;exact imul_int (.int _,H,I.tok _,(_,rfl),q) c.ok
def rDm:List V->Hp->VK->Prop:=λs H Q=>∃i j,s=[.int i,.int j]/\0<j/\j<1073741824/\∀l,H l=none->Q (.ref l) (upd H l (.tup [.int (i / j),.int (i % j)]))
theorem UZ:CallR X (.builtin "divmod") rDm:=by
 intro pins s Z H xs us Q I r h;obtain⟨i,j,rfl,a,c,q⟩:=h;obtain⟨u,w,rfl,⟨t,rfl⟩,⟨t',rfl⟩⟩:=vals2 r;refine divmod_int #[4] ?_ (.inl<|PyProof.noPylong_small #[4]);rw[L9 i #[4],Int.fmod_eq_emod_of_nonneg i #[4]];refine(.ref s.heap.objs.size,_,I.laid (t':=s.toks+1+1) (o:=.tup [.int (i / j),.int (i % j)]) (λb B q=>Ap _ q) (AU _) ?_,rfl,q _<|I.hok.fresh<|AU _);exact((by rw[sizeLine_eq];simp:2<=sizeLine),[_,_],.cons (_,rfl) (.cons (_,rfl) .nil),IsTupN.new _ _)
theorem WM:fillsNumberSlot (.type "tuple") "mul" = pure false:=
 PySem.fillsNumberSlot_seq (id:="tuple.__mul__") (r:=some (.builtin "tuple.__rmul__")) F.slot_tuple_mul.lookup #[1] F.slot_tuple_rmul.lookup #[1]
theorem Wt:seqRepeat? (.type "tuple")=pure (some (.builtin "tuple.__mul__")):=by
 unfold seqRepeat?;rw[PySem.seqSlot_of (T:="tuple") (name:="__mul__") (id:="tuple.__mul__") F.slot_tuple_mul.lookup #[1],PySem.seqSlot_of (T:="tuple") (name:="__rmul__") (id:="tuple.__rmul__") F.slot_tuple_rmul.lookup #[1]];rfl
theorem WK (a:Int) (t:Tok) (l:Addr) (items:Array Value) (n:Nat) (d:Option Addr) (sl:Array (Option Value)) :
  Meets (Builtin.«int.__rmul__» ([.int a t,.ref l],[])) (λ_ R s=>s.heap.get? l=some { cls:=.type "tuple",dict:=d,data:=.seq items n,slots:=sl } /\ R (.ok (.ret Value.notImplemented)) s):=
 .of_wp λo w A R s h=>by obtain⟨p,g,d,k,S⟩:=s;obtain⟨L,h⟩:=h;wp_walk;exact(_,rfl,h)
theorem Wl (l:Addr) (v:Value) (n:Nat) (d:Option Addr) (sl:Array (Option Value)) (u:Tok) :
  Meets (Builtin.«tuple.__mul__» ([.ref l,.int 5 u],[])) (λ_ R s=>s.heap.get? l=some { cls:=.type "tuple",dict:=d,data:=.seq #[v] n,slots:=sl } /\ R (.ok (.ret<|Value.ref s.heap.objs.size)) { s with heap:=s.heap.push { cls:=Value.type "tuple",data:=Data.seq #[v,v,v,v,v] },toks:=s.toks }):=
 .of_wp λo w A R s h=>by
  obtain⟨p,g,d,k,S⟩:=s;obtain⟨L,h⟩:=h
  wp_walk
  exact(_,rfl,h)
def rMul5 (K:W.Frag):R2:=λx y H Q=>∃a u,x=.ref a/\y=.int 5/\SqT K H a [u]/\∀l,H l=none->Q (.ref l) (upd H l (.tup [u,u,u,u,u]))
theorem UT (K:W.Frag) (j:X.K=K:=by rfl):OpR X (binaryOp .Mult) (rMul5 K):=by
 subst j;intro pins s Z H x y v u Q I rx ry h;obtain⟨a,z,rfl,rfl,A,q⟩:=h;cases rx;obtain⟨t,rfl⟩:=ry;obtain⟨i,R,p,_⟩:=I.tuple A;obtain⟨⟨S,D,d,l⟩,O,c,n,e⟩:=id p;simp only at c e;subst c e;obtain⟨v,rfl,r⟩:=R.one;refine wpAny_binaryOp_repeat_ref (T:="tuple") (U:="int") #[0] (_,O,rfl) (λf=>typeIs_int f 5 t) WM F.fills_int_mul F.slot_int_rmul Wt F.slot_int_index.lookup
  (call_meets F.slot_int_rmul (typeIs_int s 5 t) F.entry_int_rmul (F.args_int_rmul_2 _ _) (WK 5 t a [v].toArray n D l)
   (O,rfl,(_,O,rfl),call_meets F.slot_tuple_mul (_,O,rfl) F.entry_tuple_mul (F.args_tuple_mul_2 _ _) (Wl a v n D l t) (O,?_)))
 refine(.ref s.heap.objs.size,_,I.laid (t':=s.toks) (o:=.tup [z,z,z,z,z]) (λb B q=>Ap _ q) (AU _) ?_,rfl,q _<|I.hok.fresh<|AU _);exact((by rw[sizeLine_eq];simp:5<=sizeLine),[v,v,v,v,v],.cons r (.cons r (.cons r (.cons r (.cons r .nil)))),IsTupN.new _ _)
theorem Wi (l:Addr) (items:Array Value) (n:Nat) (b:Addr) (items2:Array Value) (n2:Nat) (hbl:b≠l) (hs0:¬(!items.isEmpty && Builtin.List.listTooLong (items.size+items2.size))=true) (hs1:items.size<=sizeLine) (hs2:items.size+items2.size<=sizeLine+1) :
  Meets (Builtin.«list.extend» ([.ref l,.ref b],[])) (λ_ R s=>s.heap.get? l=some { cls:=.type "list",dict:=none,data:=.seq items n,slots:=#[] } /\ s.heap.get? b=some { cls:=.type "list",dict:=none,data:=.seq items2 n2,slots:=#[] } /\ R (.ok (.ret Value.none)) { s with heap:=s.heap.update l (Obj.mapSeq λx=>x++items2),toks:=s.toks }):=
 .of_wp λo w A R s h=>by
  obtain⟨p,g,d,k,S⟩:=s;obtain⟨L,B,h⟩:=h;have f:=AutoSeq1.sub_tuple_tuple;have F:=AutoSeq1.sub_list_list;have a:=AutoSeq1.sub_tuple_list;have c:=AutoSeq1.sub_list_tuple;have z:(items++items2).size<=sizeLine+1:=by rw[Array.size_append];exact hs2
  wp_walk using (wpAny_updateSeq L rfl (hz:=hs1) (_hz':=z)),AutoSeq1.wpAny_loadPart' L,AutoSeq1.wpAny_loadPart' B;exact(_,rfl,h)
def rExtendL:V->List V->Hp->VK->Prop:=λx s H Q=>∃l b xs zs,x=.ref l/\s=[.ref b]/\b≠l/\H l=some (.lst xs)/\H b=some (.lst zs)/\xs.length+zs.length<=1000/\Q .non (upd H l (.lst<|xs++zs))
theorem extLK:MtM X "list.extend" rExtendL:=by
 intro pins s Z H x vs v us Q I rx rv h;obtain⟨l,b,m,p,rfl,rfl,L,a,B,k,q⟩:=h;cases rx;obtain⟨u,rfl,U⟩:=rv.one;cases U;obtain⟨z,i,n,r,j,e⟩:=I.lstM a;obtain⟨o,t,N,R,c,E⟩:=I.lstM B;have d:=R.length;have f:sizeLine >= 1000:=#[0]
 have S:i.toArray.size+t.toArray.size<=sizeLine:=by rw[BR,BR];lia
 have g:¬ (!i.toArray.isEmpty && Builtin.List.listTooLong (i.toArray.size+t.toArray.size))=true:=by
  rw[notLongL S,FD];exact BV
 refine call_meets F.slot_list_extend (_,e,rfl) F.entry_list_extend (F.args_list_extend_2 _ _)
  (Wi l i.toArray n b t.toArray N L g (by rw[BR];lia) #[2]) (e,E,?_)
 refine(.non,_,I.lset (its':=i++t) a e #[3] (r.append R) ?_,rfl,q);rw[Ar];lia
end
#check 1
theorem OU (q:CMul i j) (p:P (.int<|i*j) J):JR2 K (ipC CMul λi j=>i*j) (.int i) (.int j) J P:=λg G H Z Q x y k r Y c=>by
 cases r.inv;cases Y.inv;exact(i,j,rfl,rfl,q,c _ _ G H J k (Same.refl _) (.int _) p)
theorem Vs (h1:0<j) (h2:j<1073741824) (p:P (.tup [.int (i / j),.int (i % j)]) J):JC K rDm [.int i,.int j] J P:=λg G H Z Q v k s c=>by
 obtain⟨_,_,rfl,r,t⟩:=s.inv;obtain⟨_,_,rfl,R,t⟩:=t.inv;cases t.inv;cases r.inv;cases R.inv;refine(i,j,rfl,h1,h2,λl h=>?_);obtain⟨a,S⟩:=k.laid h (.tup _);exact c _ _ _ _ J a S (.tup Bd (.cons (.int _) (.cons (.int _) .nil))) p
theorem Zzk (p:P (.tup [d,d,d,d,d]) J):JR2 K (rMul5 K) (.tup [d]) (.int 5) J P:=λg G H Z Q x y k X Y c=>by
 cases Y.inv;obtain⟨a,U,rfl,h,S⟩:=X.inv;obtain⟨u,t,rfl,r,T⟩:=S.inv;cases T.inv;refine(a,u,rfl,rfl,SqT.of<|k.live _ _ h,λl L=>?_);obtain⟨b,s⟩:=k.laid L (.tup [u,u,u,u,u]);have R:=r.mono s;exact c _ _ _ _ J b s (.tup Bd (.cons R (.cons R (.cons R (.cons R (.cons R .nil)))))) p
theorem Mx (h:JE K te J λd J1=>JO2 tl J1 K λlo J2=>JO2 th J2 K λhi J3=>∃ds,d=.lst ds/\Po (.lst<|cutD ds lo hi) J3):JO K (tSl (rSlU K) te tl th) J Po:=λg G H Z Q k c=>
 h g G H Z _ k λv d j m J1 r x R P=>P g j m Z _ r λlo l n J2 t S w=>w g l n Z _ t λhi b y J3 f i e=>by
  obtain⟨ds,rfl,p⟩:=e;obtain⟨a,V,rfl,A,s⟩:=(R.mono (S.trans i)).inv;refine .inl (_,_,rfl,SqL.of (f.live _ _ A),λq o=>?_);obtain⟨u,D⟩:=f.fresh (od:=.lst (cutD ds lo hi)) o (show OwnRep K b (.lst (cutV V lo hi)) (.lst (cutD ds lo hi)) from by
   show Reps K b _ _;unfold cutV cutD;rw[s.length];exact(s.drop _).take _)
  exact c q _ b _ J3 u (x.trans<|S.trans i) D p
theorem N3 {n:Nat}{te:TE}{x:Slot}{L:List D}{nx bk ct:AM->Prop}{rt:D->AM->Prop}{ro:OD->AM->Prop}(U:J[n]?=some x) (ho:x.od=some (.lst L))
  (h:JE K te J λd J1=>∃y ds es,J1[n]?=some y/\y.od=some (.lst ds)/\d=.lst es/\ds.length+es.length<=1000/\nx (J1.set n<|y.put (.lst<|ds++es))) :
  JS K (tDrop<|tBM K "list" rExtendL (tVar n)<|tCons te tNil) J (nx,rt,bk,ct,ro):=λg G H Z E k c=>by
 obtain⟨a,o,e,i,j,m,q⟩:=k.own n x _ U ho;cases o with
 |lst vs0=>
  refine(.ref a,e,.inl (rfl,_,SqL.of i),h g G H Z _ k λv d G1 H1 J1 k1 s1 r1 (y,ds,es,q1,q2,q3,q4,p)=>?_);subst q3;obtain⟨b,s,rfl,B,r⟩:=r1.inv
  next=>
   obtain⟨A,O,W,l,w,f,t⟩:=k1.own n y _ q1 q2;exists 0,e,W;cases O with
   |lst vs=>
    have w:Reps K G1 vs ds:=w;exact(a,b,vs,s,rfl,rfl,λz=>(by subst z;exists 0,B,f),l,k1.live _ _ B,by rw[w.length,r.length];exact q4,c.nx Z G1 _ _ (k1.write q1 q2 e (show OwnRep K G1 (.lst<|vs++s) (.lst<|ds++es) from w.append r)) p)
   |_=>exact absurd w (λz=>z)
 |_=>exact absurd j (λz=>z)
end
#check 3
#check 1
def rGetL (K:W.Frag):V->V->Hp->VK->Prop:=λx y H Q=>∃(p:Addr) (xs:List V) (i:Nat) (z:V),x=.ref p/\y=.int (i:Int)/\SqL K H p xs/\xs[i]?=some z/\i<100000/\Q z H
theorem getLK (K:W.Frag) (j:X.K=K:=by rfl):PGet X (rGetL K):=by
 subst j;intro pins s Z H x y v u Q I rx ry h;obtain⟨p,d,i,z,rfl,rfl,a,E,b,q⟩:=h;cases rx;obtain⟨t,rfl⟩:=ry;obtain⟨S,r,l,c⟩:=I.list a;obtain⟨w,e,R⟩:=r.get E;exact wpAny_getItem_list l.isList #[2] #[2] (by simpa using e) (z,H,I,R,q)
theorem Zzn {j:Nat}(B:J[n]?=some x) (ho:x.od=some (.lst ds)) (hm:J[m]?=some (.val (.int (j:Int)))) (U:ixN ds.length (j:Int)=some j) (L:j<100000) (O:ds[j]?=some (.int a))
  (p:nx (J.set n<|x.put (.lst<|ds.set j (.int<|a+b)))):JS K (tAugS (tVar n) (tVar m) (tC (.int b)) (rGetL K) (ipI λi j=>i+j) rSetU) J (nx,rt,bk,ct,ro):=λg G H Z E k c=>by
 obtain⟨A,o,d,e,h,r,f⟩:=k.own n x _ B ho;obtain⟨v,w,W⟩:=k.val m _ hm;cases W.inv;cases o with
 |lst vs=>
  have h:Reps K G vs ds:=h;obtain⟨u,l,q⟩:=h.get O;cases q.inv;refine(.ref A,d,.int (j:Int),w,A,vs,j,.int a,rfl,rfl,SqL.of e,l,L,?_);refine(a,b,rfl,rfl,.inl (A,vs,(j:Int),j,rfl,rfl,e,by rw[h.length];exact U,?_));exact c.nx Z G _ _ (k.write B ho d (show OwnRep K G (.lst<|vs.set j (.int<|a+b)) (.lst<|ds.set j (.int<|a+b)) from h.set j (.int _))) p
 |_=>exact absurd h (λz=>z)
end
#check 3
#check 0
end
#check 5
end
#check 1
theorem S9 {P:Eg}(h:J[i]?=some (.own (.lst ds))) (p:JS K t (J.set i (.val (.lst ds))) P):JS K t J P:=
 JS.conv (λg G H Z k=>by
  obtain⟨a,c,d⟩:=k.take h;obtain⟨o,q,Q,_⟩:=id d;cases o with
  |lst vs=>
   obtain⟨f,s,r⟩:=(k.drop i).freeze d q;have b:=f.setVal (i:=i) (by simpa using (BQ.mp h).1) r;have e:Z.set i (some (.ref a)) = Z:=by
    apply EU;intro j;by_cases hj:j=i
    ·subst hj;rw[CT (k.lt h),c]
    ·rw[Cg (Ne.symm hj)]
   rw[e,List.set_set]at b;exact(_,s,b)
  |_=>exact absurd Q (λz=>z)) p
end
#check 3
#check 5
end
#check 4
end
#check 1
end
#check 0
end
def advM (m:Nat) (p:SetTable.Probe):SetTable.Probe:=
 if p.more > 0 then { p with j:=p.j+1,more:=p.more-1 } else
 let (i,perturb):=SetTable.leap m p.i p.perturb
 { p with j:=i,more:=SetTable.runEnd m i-i,i,perturb }
def prb (m:Nat) (h:Int):Nat->SetTable.Probe
 |0=>{ j:=SetTable.bits h % (m+1),more:=SetTable.runEnd m (SetTable.bits h % (m+1))-SetTable.bits h % (m+1),i:=SetTable.bits h % (m+1),perturb:=SetTable.bits h,dummy:=none }
 |n+1=>advM m (prb m h n)
def lp (m:Nat) (h:Int):Nat->Nat × Nat
 |0=>(SetTable.bits h % (m+1),SetTable.bits h)
 |k+1=>SetTable.leap m (lp m h k).1 (lp m h k).2
def runL (m i:Nat):Nat:=SetTable.runEnd m i-i
theorem Sy (m i:Nat):runL m i<=9:=by unfold runL SetTable.runEnd;split <;> lia
theorem Nz (h:i<=m) (j:r<=runL m i):i+r<=m:=by
 unfold runL SetTable.runEnd at j;split at j <;> lia
theorem Oc (m:Nat) (h:Int):∀k,(lp m h k).1<=m
 |0=>En (Ea _ (KP m))
 |k+1=>En (Ea _ (KP m))
theorem Je (e:prb m h n=(i,runL m i,i,q,none)):∀r,r<=runL m i->prb m h (n+r)=(i+r,runL m i-r,i,q,none)
 |0,_=>e
 |r+1,hr=>by
  show advM m (prb m h<|n+r)=_;rw[Je e r #[2]];unfold advM;rw[AN (show runL m i-r > 0 by lia)];rfl
theorem Ls (m:Nat) (h:Int):∀k,∃n,n<=10*k/\k<=n/\prb m h n=((lp m h k).1,runL m (lp m h k).1,(lp m h k).1,(lp m h k).2,none) /\ ∀n',n'<n->∃k' r,k'<k/\r<=runL m (lp m h k').1/\(prb m h n').j=(lp m h k').1+r
 |0=>(0,AU _,AU _,rfl,λn' h=>absurd h (Dr _))
 |k+1=>by
  obtain⟨n,f,e,H,d⟩:=Ls m h k;have g:=Sy m (lp m h k).1;refine(n+runL m (lp m h k).1+1,#[2],#[2],?_,λn' N=>?_)
  ·show advM m (prb m h<|n+runL m (lp m h k).1)=_
   rw[Je H _ (AU _)];unfold advM;rw[AK (show ¬ runL m (lp m h k).1-runL m (lp m h k).1 > 0 by lia)];rfl
  ·by_cases hc:n'<n
   ·obtain⟨k',r,a,b,c⟩:=d n' hc
    exact(k',r,#[2],b,c)
   ·refine(k,n'-n,#[2],#[2],?_)
    have:=Je H (n'-n) #[4];rw[show n+(n'-n)=n' by lia]at this;rw[this]
theorem U9 (m:Nat) (h:Int) (n:Nat):(prb m h n).j<=m:=by
 obtain⟨N,_,A,_,a⟩:=Ls m h<|n+1;obtain⟨k,r,_,b,c⟩:=a n #[2];rw[c];exact Nz (Oc m h k) b
def stp (m:Nat):Nat->Nat->Nat
 |0,i=>i
 |k+1,i=>(stp m k i*5+1) % (m+1)
def Dk (m:Nat):Prop:=∀i j,i<=m->j<=m->∃k,k<=m/\stp m k i=j
theorem LY (m:Nat) (a:Nat):∀b i,stp m (a+b) i=stp m b (stp m a i)
 |0,i=>rfl
 |b+1,i=>by show (stp m (a+b) i*5+1) % (m+1)=_;rw[LY m a b i];rfl
theorem VC (h1:stp m (m+1) 0=0) (h2:∀j,j<m+1->∃k,k<m+1/\stp m k 0=j):Dk m:=by
 intro i j hi hj;obtain⟨a,h,rfl⟩:=h2 i #[2];obtain⟨b,B,rfl⟩:=h2 j #[2];by_cases c:a<=b
 ·exact(b-a,#[2],by rw[<- LY,show a+(b-a)=b by lia])
 ·refine(m+1-a+b,#[2],?_)
  rw[<- LY,show a+(m+1-a+b)=(m+1)+b by lia,LY,h1]
def orb (m:Nat):Nat->Nat->List Nat
 |0,_=>[]
 |f+1,i=>i::orb m f ((i*5+1) % (m+1))
theorem QV (m:Nat):∀k i,stp m (k+1) i=stp m k ((i*5+1) % (m+1))
 |0,i=>rfl
 |k+1,i=>by show (stp m (k+1) i*5+1) % (m+1)=_;rw[QV m k i];rfl
theorem R8 (m:Nat):∀f i j,j∈orb m f i->∃k,k<f/\stp m k i=j
 |0,i,j,h=>by cases h
 |f+1,i,j,h=>by
  rcases A5.mp h with e|e
  ·exact(0,#[2],e.symm)
  ·obtain⟨k,a,b⟩:=R8 m f _ j e
   exact(k+1,#[2],by rw[QV];exact b)
def cycB (m:Nat):Bool:=stp m (m+1) 0 == 0 && (AV<|m+1).all λj=>(orb m (m+1) 0).contains j
theorem Lz (h:cycB m=true):Dk m:=by
 unfold cycB at h;rw[Cv]at h;refine VC (by simpa using h.1) λj J=>?_;have:=EX.mp h.2 j<|BB.mpr J;exact R8 m _ _ j (by simpa using this)
theorem cyc7:Dk 7:=Lz #[1]
theorem cyc31:Dk 31:=Lz #[1]
theorem cyc127:Dk 127:=Lz #[1]
theorem cyc511:Dk 511:=Lz #[1]
theorem Td (m:Nat) (h:Int):∀k,(lp m h k).2=SetTable.bits h / 32 ^ k
 |0=>by show SetTable.bits h=_;rw[Nat.pow_zero,Nat.div_one]
 |k+1=>by show (lp m h k).2 / 32=_;rw[Td m h k,Nat.div_div_eq_div_mul,KS]
theorem Zyg (h:Int):SetTable.bits h<2 ^ 64:=by
 unfold SetTable.bits;have H:=IU h (show (0:Int)<2 ^ 64 by decide);have a:=IL h (show (2 ^ 64:Int)≠0 by decide);have:((2:Int) ^ 64)=((2 ^ 64:Nat):Int):=#[0]
 lia
theorem S4 (m:Nat) (h:Int):∀k,lp m h (13+k)=(stp m k (lp m h 13).1,0)
 |0=>by
  have e:=Td m h 13;have b:=Zyg h;rw[Nat.div_eq_of_lt (Ct b #[0])]at e;show lp m h 13=((lp m h 13).1,0);rw[<- e]
 |k+1=>by
  show SetTable.leap m (lp m h (13+k)).1 (lp m h (13+k)).2=_;rw[S4 m h k];unfold SetTable.leap;show (((stp m k (lp m h 13).1*5+1+0 / 32) % (m+1),0 / 32):_×_)=_;rw[Nat.zero_div];rfl
theorem RK (q:Dk m) (h:Int) (z:j<=m):∃k,k<=m+13/\(lp m h k).1=j:=by
 obtain⟨k,a,H⟩:=q _ _ (Oc m h 13) z;exact(13+k,#[2],by rw[S4,H])
theorem Zrp (q:Dk m) (h:Int) (z:j<=m):∃n,n<10*(m+15)/\(prb m h n).j=j:=by
 obtain⟨k,c,H⟩:=RK q h z;obtain⟨n,a,_,b,_⟩:=Ls m h k;exact(n,#[2],by rw[b];exact H)
def ER (m:Nat) (pl:Nat->Prop) (h:Int) (j:Nat):Prop:=∃n,n<10*(m+15)/\(prb m h n).j=j/\∀n',n'<n->pl (prb m h n').j
theorem ER.mono (r:ER m pl h j) (i:∀x,pl x->pl' x):ER m pl' h j:=
 let ⟨n,a,b,c⟩:=r; (n,a,b,λd N=>i _<|c d N)
structure STb (t:SetTable) (hs:List Int):Prop where
 dm:t.dummies = #[]
 cy:Dk t.mask
 rs:D4 t.place
 sz:t.place.size=hs.length
 le:∀(i j:Nat),t.place[i]?=some j->j<=t.mask
 rc:∀(i j:Nat) (h:Int),t.place[i]?=some j->hs[i]?=some h->ER t.mask (λx=>∃y:Nat,t.place[y]?=some x) h j
 ro:t.place.size<t.mask
theorem Zw0 (R:D4 xs) (h:xs[i]?=some j):SetTable.below xs j=i:=by
 obtain⟨a,b,B⟩:=K4 R j;have I:=(Array.getElem?_eq_some_iff.mp h).1;rcases Ka (SetTable.below xs j) i with c|c|c
 ·have H:SetTable.below xs j<xs.size:=by lia
  have e:=Array.getElem?_eq_getElem H;have d:=R _ _ _ _ c e h;have f:=B _ _ (AU _) e;lia
 ·exact c
 ·have:=b i j c h;lia
theorem LI {t:SetTable}(R:D4 t.place) (h:t.place[i]?=some j):t.slot j=.live i:=by
 unfold SetTable.slot;dsimp only;rw[Zw0 R h,h];simp
theorem Zqc {t:SetTable}(q:t.dummies = #[]) (h:∀i:Nat,t.place[i]?≠some j):t.slot j=.empty:=by
 unfold SetTable.slot;dsimp only;rw[AK (by simpa using h _),q,Lf];simp
theorem NV (m:Nat) (h:Int):∀n,(prb m h n).dummy=none
 |0=>rfl
 |n+1=>by
  show (advM m<|prb m h n).dummy=none;unfold advM;split
  ·exact NV m h n
  ·exact NV m h n
theorem R6 {t:SetTable}{hs:List Int}(T:STb t hs) {hashAt:Nat->Int}{h:Int}(B:∀i,i<t.place.size->hashAt i≠h) {q:Nat}(h0:∀i:Nat,t.place[i]?≠some (prb t.mask h q).j) :
  ∀fuel n,n<=q->q<n+fuel->q<10*(t.mask+15)->(∀n',n'<n->∃y:Nat,t.place[y]?=some (prb t.mask h n').j) ->
   ∃j,SetTable.probe.go t hashAt h fuel (prb t.mask h n)=some (.empty j none)/\j<=t.mask/\(∀i:Nat,t.place[i]?≠some j)/\ER t.mask (λx=>∃y:Nat,t.place[y]?=some x) h j
 |0,n,h1,h2,_,_=>#[4]
 |fuel+1,n,h1,h2,h3,h4=>by
  unfold SetTable.probe.go;by_cases c:∃i:Nat,t.place[i]?=some (prb t.mask h n).j
  ·obtain⟨i,I⟩:=c
   rw[LI T.rs I];dsimp only;have s:=(Array.getElem?_eq_some_iff.mp I).1;rw[AK (by simpa using B i s)];have E:n≠q:=λe=>by subst e;exact h0 i I
   exact R6 T B h0 fuel (n+1) #[2] #[2] h3 λn' N=>by
    rcases ES (En N) with z|z
    ·exact h4 n' z
    ·subst z;exact(i,I)
  ·have C:∀i:Nat,t.place[i]?≠some (prb t.mask h n).j:=λi z=>c (i,z)
   rw[Zqc T.dm C];dsimp only;rw[NV];exact(_,rfl,U9 _ _ _,C,n,#[2],rfl,h4)
theorem Qw (T:STb t hs) (z:hashAt i0=h) (L:∀i,i<t.place.size->hashAt i=h->i=i0) (h0:t.place[i0]?=some (prb t.mask h n0).j)
  (B:∀n',n'<n0->∃y:Nat,t.place[y]?=some (prb t.mask h n').j):∀fuel n,n<=n0->n0<n+fuel->∃j nx,SetTable.probe.go t hashAt h fuel (prb t.mask h n)=some (.candidate j i0 nx)/\t.place[i0]?=some j
 |0,n,h1,h2=>#[4]
 |fuel+1,n,h1,h2=>by
  unfold SetTable.probe.go;rcases ES h1 with c|c
  ·obtain⟨i,I⟩:=B n c
   rw[LI T.rs I];dsimp only;have s:=(Array.getElem?_eq_some_iff.mp I).1;by_cases q:hashAt i=h
   ·have:=L i s q
    subst this;rw[AN (by simpa using q)];exact(_,_,rfl,I)
   ·rw[AK (by simpa using q)]
    exact Qw T z L h0 B fuel (n+1) #[2] #[2]
  ·subst c
   rw[LI T.rs h0];dsimp only;rw[AN (by simpa using z)];exact(_,_,rfl,h0)
theorem Sf:∀{ms l:List Nat},ms.Nodup->(∀x∈ms,x∈l)->ms.length<=l.length
 |[],_,_,_=>Bp _
 |x::ms,l,h1,h2=>by
  rw[DS]at h1;have h:=h2 x #[3];have:=Sf (ms:=ms) (l:=l.erase x) h1.2 λy Y=>(KL λz:y=x=>h1.1 (z ▸ Y)).mpr (h2 y (by simp[Y]));rw[Gw h]at this;have:=Gx h;rw[BH];lia
theorem Zrg {xs:Array Nat}(h:xs.size<m):∃j,j<=m/\∀i:Nat,xs[i]?≠some j:=by
 refine Classical.byContradiction λc=>?_;have l:∀j,j<=m->∃i:Nat,xs[i]?=some j:=λj J=>Classical.byContradiction λz=>c (j,J,λi e=>z (i,e));have b:(AV<|m+1).length<=xs.toList.length:=Sf IX λx X=>by
  obtain⟨i,e⟩:=l x (by have:=BB.mp X;lia);exact Array.mem_toList_iff.mpr<|Array.mem_of_getElem? e
 rw[Bt,Array.length_toList]at b;lia
theorem Zul {t:SetTable}{hs:List Int}(T:STb t hs) {hashAt:Nat->Int}{h:Int}(q:∀i,i<t.place.size->hashAt i≠h) :
  ∃j,t.probe hashAt h (t.probeStart h)=some (.empty j none)/\j<=t.mask/\(∀i:Nat,t.place[i]?≠some j)/\ER t.mask (λx=>∃y:Nat,t.place[y]?=some x) h j:=by
 obtain⟨j,H,b⟩:=Zrg T.ro;obtain⟨n,a,rfl⟩:=Zrp T.cy h H;exact R6 T q b _ 0 (Bp _) (by show n<0+10*SetTable.turns t.mask;unfold SetTable.turns;lia) a λN h=>absurd h<|Dr _
theorem W6 {t:SetTable}{hs:List Int}(T:STb t hs) {hashAt:Nat->Int}{h:Int}{i0:Nat}(h0:hs[i0]?=some h) (q:hashAt i0=h) (z:∀i,i<t.place.size->hashAt i=h->i=i0) :
  ∃j nx,t.probe hashAt h (t.probeStart h)=some (.candidate j i0 nx)/\t.place[i0]?=some j:=by
 have l:=(BQ.mp h0).1;rw[<- T.sz]at l;have e:=Array.getElem?_eq_getElem l;obtain⟨n,a,b,c⟩:=T.rc _ _ _ e h0;exact Qw T q z (by rw[b];exact e) c _ 0 (Bp _) (by show n<0+10*SetTable.turns t.mask;unfold SetTable.turns;lia)
theorem Zwc {α:Type}(l:List α) (p:Nat) (x:α) (h:p<=l.length) (i:Nat):(l.take p++x::l.drop p)[i]?=if i<p then l[i]? else if i=p then some x else l[i-1]?:=by
 by_cases h1:i<p
 ·rw[AN h1,DT (by rw[Bo];lia),ME h1]
 ·rw[AK h1,Cf (by rw[Bo];lia),Bo,IJ h]
  by_cases h2:i=p
  ·rw[AN h2,h2,KR];rfl
  ·rw[AK h2,show i-p=(i-1-p)+1 by lia,IC,Gv,show p+(i-1-p)=i-1 by lia]
theorem Sa (q:SetTable.below xs j<=xs.size) (y:Nat):(∃i:Nat,(SetTable.insertAt xs (SetTable.below xs j) j)[i]?=some y)↔y=j\/∃i:Nat,xs[i]?=some y:=by
 constructor
 ·rintro⟨i,e⟩
  rw[HJ _ _ _ q]at e;split at e
  ·exact .inr (_,e)
  ·split at e
   ·exact .inl (CL.inj e).symm
   ·exact .inr (_,e)
 ·rintro(rfl|⟨i,e⟩)
  ·exact(SetTable.below xs y,by rw[HJ _ _ _ q,AK (EZ _),AN rfl])
  ·by_cases c:i<SetTable.below xs j
   ·exact(i,by rw[HJ _ _ _ q,AN c];exact e)
   ·exact(i+1,by rw[HJ _ _ _ q,AK #[2],AK #[2]];exact e)
theorem STb.put {t:SetTable}{hs:List Int}(T:STb t hs) {h:Int}{j:Nat}(q:j<=t.mask) (hf:∀i:Nat,t.place[i]?≠some j) (B:ER t.mask (λx=>∃y:Nat,t.place[y]?=some x) h j) (O:t.place.size+1<t.mask) :
  STb (t.put j).1 (hs.take (t.put j).2++h::hs.drop (t.put j).2)/\(t.put j).2<=hs.length:=by
 have p:SetTable.below t.place j<=t.place.size:=(K4 T.rs j).1;have d:(t.put j).1.dummies = #[]:=by
  show (if SetTable.has t.dummies j=true then _ else t.dummies) = #[];rw[T.dm,Lf];rfl
 have z:(SetTable.insertAt t.place (SetTable.below t.place j) j).size=t.place.size+1:=by
  rw[<- Array.length_toList,M0 _ _ _ p,Ar,BH,Bo,Dd,Array.length_toList];lia
 have s:=T.sz;have u:∀x,(∃y:Nat,t.place[y]?=some x)->∃y:Nat,(t.put j).1.place[y]?=some x:=λx X=>(Sa p x).mpr (.inr X);refine((d,T.cy,SH T.rs<|hf _,?_,λi y e=>?_,λi y g E a=>?_,?_),by rw[<- s];exact p)
 ·show (SetTable.insertAt t.place (SetTable.below t.place j) j).size=_
  rw[z,Ar,BH,Bo,Dd];show _=min (SetTable.below t.place j) hs.length+(hs.length-SetTable.below t.place j+1);lia
 ·rcases(Sa p y).mp (i,e) with rfl|⟨i',e'⟩
  ·exact q
  ·exact T.le i' y e'
 ·have E:(SetTable.insertAt t.place (SetTable.below t.place j) j)[i]?=some y:=E
  have a:(hs.take (SetTable.below t.place j)++h::hs.drop (SetTable.below t.place j))[i]?=some g:=a;rw[HJ _ _ _ p]at E;rw[Zwc _ _ _ #[2]]at a;by_cases c1:i<SetTable.below t.place j
  ·rw[AN c1]at E a
   exact(T.rc i y g E a).mono u
  ·rw[AK c1]at E a
   by_cases c2:i=SetTable.below t.place j
   ·rw[AN c2]at E a
    cases E;cases a;exact B.mono u
   ·rw[AK c2]at E a
    exact(T.rc _ y g E a).mono u
 ·show (SetTable.insertAt t.place (SetTable.below t.place j) j).size<t.mask
  rw[z];exact O
def fil (O:Array (Option Nat)):Nat:=O.toList.countP (·.isSome)
def Fm (O:Array (Option Nat)) (x:Nat):Prop:=∃q,O[x]?=some (some q)
theorem Q6 (hz:ow.size=m+1) (h0:ow[(lp m h k0).1]?=some none) (B:k0<=m+13):∀fuel k,k<=k0->k0<k+fuel ->
  (∀k' r,k'<k->r<=runL m (lp m h k').1->Fm ow ((lp m h k').1+r))->∃j,SetTable.layClean.free m ow fuel (lp m h k).1 (lp m h k).2=some j/\j<=m/\ow[j]?=some none/\ER m (Fm ow) h j
 |0,k,h1,h2,_=>#[2]
 |fuel+1,k,h1,h2,hb=>by
  have E:=Oc m h k;have get:∀r,r<=runL m (lp m h k).1->((ow.getD ((lp m h k).1+r)<|some 0).isNone=true↔ow[(lp m h k).1+r]?=some none)/\(¬ (ow.getD ((lp m h k).1+r)<|some 0).isNone=true->Fm ow ((lp m h k).1+r)):=λr R=>by
   have i:=Nz E R;have t:(lp m h k).1+r<ow.size:=#[2]
   have e:=Array.getElem?_eq_getElem t;rw[Array.getD_eq_getD_getElem?,e,MQ];constructor
   ·cases ow[(lp m h k).1+r] <;> simp
   ·intro z
    cases q:ow[(lp m h k).1+r] with
    |none=>rw[q]at z;exact absurd rfl z
    |some v=>exact(v,by rw[e,q])
  have L:SetTable.runEnd m (lp m h k).1+1-(lp m h k).1=runL m (lp m h k).1+1:=by
   unfold runL SetTable.runEnd;split <;> lia
  obtain⟨n,y,A,f,s⟩:=Ls m h k;unfold SetTable.layClean.free;rw[L];cases q:(AV<|runL m (lp m h k).1+1).find? λr=>(ow.getD ((lp m h k).1+r)<|some 0).isNone with
  |some r=>
   dsimp only;obtain⟨Q,u,w⟩:=List.find?_range_eq_some.mp q;have R:r<=runL m (lp m h k).1:=by have:=BB.mp u;lia
   have p:=Sy m (lp m h k).1;refine(_,rfl,Nz E R,((get r R).1).mp Q,n+r,#[2],by rw[Je f r R],λN g=>?_);by_cases c:N<n
   ·obtain⟨k',x,a,b,d⟩:=s N c
    rw[d];exact hb k' x a b
   ·have H:N-n<r:=by lia
    have e:=Je f (N-n) #[2];rw[show n+(N-n)=N by lia]at e;rw[e];exact(get _ #[4]).2 (by have z:=w (N-n) H;intro z';exists 0,z',z)
  |none=>
   dsimp only;have l:∀r,r<=runL m (lp m h k).1->Fm ow ((lp m h k).1+r):=λr R=>(get r R).2 (by have z:=List.find?_range_eq_none.mp q r #[2];intro z';exists 0,z',z);have o:k≠k0:=λe=>by
    subst e;obtain⟨v,V⟩:=l 0<|Bp _;rw[Nat.add_zero,h0]at V;cases V
   refine Q6 hz h0 B fuel (k+1) #[2] #[2] λk' r K R=>?_;rcases ES (En K) with z|z
   ·exact hb k' r z R
   ·subst z;exact l r R
structure Gp (m:Nat) (hs:List Int) (k:Nat) (ow:Array (Option Nat)):Prop where
 sz:ow.size=m+1
 cn:fil ow=k
 at_:∀(j q:Nat),ow[j]?=some (some q)->q<k/\∀h,hs[q]?=some h->ER m (Fm ow) h j
 ex:∀q,q<k->∃j:Nat,ow[j]?=some (some q)
 inj:∀(j j' q:Nat),ow[j]?=some (some q)->ow[j']?=some (some q)->j=j'
theorem Ui (m:Nat) (hs:List Int):Gp m hs 0 (Array.replicate (m+1) none):=by
 have o:∀(j q:Nat),(Array.replicate (m+1) (none:Option Nat))[j]?≠some (some q):=λj q e=>by
  rw[Array.getElem?_replicate]at e;split at e <;> cases e
 refine(Array.size_replicate,?_,λj q e=>absurd e<|o j q,λq h=>absurd h<|Dr _,λj _ q e=>absurd e<|o j q);unfold fil;rw[Array.toList_replicate,List.countP_replicate];rfl
theorem Zvg (hz:ow.size=m+1) (h:fil ow<m+1):∃j,j<=m/\ow[j]?=some none:=by
 refine Classical.byContradiction λc=>?_;have l:∀x∈ow.toList,x.isSome=true:=λx X=>by
  obtain⟨i,I⟩:=KN X;rw[Array.getElem?_toList]at I;cases x with
  |some v=>rfl
  |none=>exact absurd (i,by have:=(Array.getElem?_eq_some_iff.mp I).1;lia,I) c
 have:=List.countP_eq_length.mpr l;unfold fil at h;rw[this,Array.length_toList]at h;lia
theorem Zst {l:List (Option Nat)}(v:Nat) (h:l[j]?=some none):(l.set j<|some v).countP (·.isSome)=l.countP (·.isSome)+1:=by
 obtain⟨H,a⟩:=BQ.mp h;rw[List.countP_set H,a];simp
theorem Zu4 {m:Nat}{hs:List Int}{k:Nat}{O:Array (Option Nat)}(L:Gp m hs k O) (B:Dk m) (Y:k<=m) {h:Int}(U:hs[k]?=some h) :
  ∃j,SetTable.layClean.free m O (SetTable.turns m) (SetTable.bits h % (m+1)) (SetTable.bits h)=some j/\Gp m hs (k+1) (O.setIfInBounds j<|some k):=by
 obtain⟨t,H,l⟩:=Zvg L.sz (by rw[L.cn];lia);obtain⟨k0,n,o⟩:=RK B h H;obtain⟨j,f,s,E,i⟩:=Q6 L.sz (h:=h) (k0:=k0) (by rw[o];exact l) n (SetTable.turns m) 0 (Bp _) (by unfold SetTable.turns;lia) λK r h=>absurd h<|Dr _;have J:j<O.size:=by rw[L.sz];lia
 have get:∀x:Nat,(O.setIfInBounds j<|some k)[x]?=if j=x then some (some k) else O[x]?:=λx=>by
  rw[Array.getElem?_setIfInBounds];by_cases c:j=x
  ·rw[AN c,AN c,AN #[4]]
  ·rw[AK c,AK c]
 have p:∀x,Fm O x->Fm (O.setIfInBounds j<|some k) x:=λx (q,Q)=>by
  by_cases c:j=x
  ·exact(k,by rw[get,AN c])
  ·exact(q,by rw[get,AK c];exact Q)
 refine(j,f,(by rw[Array.size_setIfInBounds];exact L.sz,?_,λx q e=>?_,λq Q=>?_,λx d q a b=>?_))
 ·unfold fil
  rw[Array.toList_setIfInBounds,Zst k (by rw[Array.getElem?_toList];exact E)];have:=L.cn;unfold fil at this;lia
 ·rw[get]at e
  by_cases c:j=x
  ·rw[AN c]at e
   cases e;refine(#[2],λg G=>?_);exists 0,U,G;rw[<- c];exact i.mono p
  ·rw[AK c]at e
   obtain⟨a,b⟩:=L.at_ x q e;exact(#[2],λg G=>(b g G).mono p)
 ·rcases ES (En Q) with z|z
  ·obtain⟨x,X⟩:=L.ex q z
   have c:j≠x:=λc=>by rw[<- c,E]at X;cases X
   exact(x,by rw[get,AK c];exact X)
  ·subst z
   exact(j,by rw[get,AN rfl])
 ·rw[get]at a b
  by_cases c:j=x
  ·by_cases c':j=d
   ·rw[<- c,c']
   ·rw[AN c]at a;rw[AK c']at b
    cases a;have:=(L.at_ _ _ b).1;lia
  ·by_cases c':j=d
   ·rw[AK c]at a;rw[AN c']at b
    cases b;have:=(L.at_ _ _ a).1;omega
   ·rw[AK c]at a;rw[AK c']at b
    exact L.inj x d q a b
def layStep (m:Nat) (acc:Option (Array (Option Nat) × Nat)) (h:Int):Option (Array (Option Nat) × Nat):=do
 let (owner,k) <- acc
 let j <- SetTable.layClean.free m owner (SetTable.turns m) (SetTable.bits h % (m+1)) (SetTable.bits h)
 pure (owner.setIfInBounds j<|some k,k+1)
theorem W0 (m:Nat) (hs:Array Int):SetTable.layClean m hs=(hs.toList.foldl (layStep m)<|some (Array.replicate (m+1) none,0)).map (·.1):=by
 rw[Array.foldl_toList];rfl
theorem Q8 (q:Dk m) (hm:hs.length<=m):∀(rest:List Int) (k:Nat) (ow:Array (Option Nat)),Gp m hs k ow->hs.drop k=rest->k<=hs.length->∃ow',rest.foldl (layStep m) (some (ow,k))=some (ow',hs.length)/\Gp m hs hs.length ow'
 |[],k,ow,L,e,hk=>by
  have:k=hs.length:=by
   have:=congrArg BP e;rw[Dd,Dq]at this;lia
  subst this;exact(ow,rfl,L)
 |h::rest,k,ow,L,e,hk=>by
  have t:k<hs.length:=by
   have:=congrArg BP e;rw[Dd,BH]at this;lia
  have H:hs[k]?=some h:=by
   have:=Gv (xs:=hs) (i:=k) (j:=0);rw[e]at this;simpa using this.symm
  obtain⟨j,E,l⟩:=Zu4 L q #[2] H;have s:layStep m (some (ow,k)) h=some (ow.setIfInBounds j<|some k,k+1):=by
   show (SetTable.layClean.free m ow (SetTable.turns m) (SetTable.bits h % (m+1))<|SetTable.bits h).bind (λj=>some ((ow.setIfInBounds j<|some k,k+1):_×_))=_;rw[E];rfl
  rw[List.foldl_cons,s];refine Q8 q hm rest (k+1) _ l ?_ #[2];rw[<- List.drop_drop,e];rfl
def liveL (O:Array (Option Nat)) (m:Nat):List (Nat × Nat):=(AV<|m+1).filterMap λj=>(O.getD j none).map (λx=>((j,x):_×_))
theorem GN (hz:ow.size=m+1) (j q:Nat):(j,q)∈liveL ow m↔ow[j]?=some (some q):=by
 unfold liveL;rw[ML];constructor
 ·rintro⟨x,h,e⟩
  have h:=BB.mp h;have g:=Array.getElem?_eq_getElem (show x<ow.size by lia);rw[Array.getD_eq_getD_getElem?,g,MQ]at e;cases z:ow[x] with
  |none=>exists 0,z,e
  |some v=>
   exists 0,z,e;rw[g,z]
 ·intro e
  have h:=(Array.getElem?_eq_some_iff.mp e).1;refine(j,BB.mpr #[2],?_);rw[Array.getD_eq_getD_getElem?,e];rfl
theorem Zp3 (m:Nat) (O:Array (Option Nat)):(liveL O m).Pairwise λa b=>a.1<b.1:=by
 unfold liveL;rw[List.pairwise_filterMap];refine List.Pairwise.imp ?_ D5;intro a b hab c h d D;cases qa:O.getD a none with
 |none=>exists 0,qa,h
 |some k=>
  cases qb:O.getD b none with
  |none=>exists 0,qb,D
  |some l=>
   rw[qa]at h;rw[qb]at D;have h:(a,k)=c:=#[9]
   have D:(b,l)=d:=by simpa using D
   subst h D;exact hab
theorem Zsg (L:Gp m hs k ow):((liveL ow m).map (·.2)).Perm (AV k):=by
 have d:((liveL ow m).map (·.2)).Nodup:=by
  rw[List.nodup_iff_pairwise_ne,ET];refine List.Pairwise.imp_of_mem ?_<|Zp3 m ow;intro a b ha hb hab e;obtain⟨j,q⟩:=a;obtain⟨c,Q⟩:=b;simp only at hab e;subst e;have:=L.inj _ _ _ ((GN L.sz _ _).mp ha) ((GN L.sz _ _).mp hb);lia
 refine(List.perm_ext_iff_of_nodup d IX).mpr λq=>?_;rw[A6,BB];constructor
 ·rintro⟨⟨j,Q⟩,H,rfl⟩
  exact(L.at_ _ _ ((GN L.sz _ _).mp H)).1
 ·intro h
  obtain⟨j,J⟩:=L.ex q h;exact((j,q),(GN L.sz _ _).mpr J,rfl)
theorem Lo {α:Type}{es:Array α}:∀(l:List Nat),(∀q∈l,q<es.size)->(l.filterMap (es[·]?)).length=l.length/\∀x:Nat,(l.filterMap (es[·]?))[x]?=(l[x]?).bind (es[·]?)
 |[],_=>(rfl,λx=>#[3])
 |q::l,h=>by
  obtain⟨i,I⟩:=Lo l λx X=>h x<|Bl _ X;have e:=Array.getElem?_eq_getElem (h q #[3]);rw[List.filterMap_cons_some e];refine(by rw[BH,BH,i],λx=>?_);cases x with
  |zero=>show some _=_;rw[<- e];rfl
  |succ x=>show (l.filterMap (es[·]?))[x]?=_;rw[I];rfl
theorem Zvz {α:Type}(es:Array α):(AV es.size).filterMap (es[·]?)=es.toList:=by
 apply EU;intro i;rw[(Lo (es:=es) (AV es.size) λq h=>BB.mp h).2];by_cases c:i<es.size
 ·rw[Ek c,Array.getElem?_toList];rfl
 ·rw[Ds (show (AV es.size).length<=i by rw[Bt];lia),Ds (show es.toList.length<=i by rw[Array.length_toList];omega)];rfl
theorem Ub {ld pn:Bool}(hc:Dk m) (hm:hs.size<m):∃t' order,SetTable.laid m fg mv ld pn hs=some (t',order)/\t'.mask=m/\t'.led=ld/\t'.plain=pn/\STb t' (order.toList.filterMap (hs[·]?))/\order.toList.Perm (AV hs.size):=by
 obtain⟨w,c,L⟩:=Q8 (m:=m) (hs:=hs.toList) hc (by rw[Array.length_toList];lia) hs.toList 0 _ (Ui m hs.toList) #[3]<|Bp _;rw[Array.length_toList]at c L;have E:SetTable.layClean m hs=some w:=by rw[W0,c];rfl
 have M:=Zsg L;refine⟨{ mask:=m,place:=((liveL w m).map (·.1)).toArray,dummies:=#[],finger:=fg,led:=ld,moves:=mv,plain:=pn },((liveL w m).map (·.2)).toArray,?_,rfl,rfl,rfl,?_,by simpa using M⟩
 ·unfold SetTable.laid
  rw[E];rfl
 have d:∀q∈(liveL w m).map (·.2),q<hs.size:=λq h=>BB.mp ((M.mem_iff).mp h);obtain⟨f,F⟩:=Lo (es:=hs) _ d;have H:(liveL w m).length=hs.size:=by have:=M.length_eq;rwa [AJ,Bt]at this
 have l:∀(i j:Nat),((liveL w m).map (·.1)).toArray[i]?=some j->∃q,(liveL w m)[i]?=some (j,q):=λi j e=>by
  rw[IP,Ad]at e;cases z:(liveL w m)[i]? with
  |none=>exists 0,z,e
  |some p=>rw[z]at e;obtain⟨a,b⟩:=p;cases e;exact(b,rfl)
 have k:∀x,Fm w x->∃y:Nat,((liveL w m).map (·.1)).toArray[y]?=some x:=λx (q,hx)=>by
  obtain⟨y,Y⟩:=KN ((GN L.sz x q).mpr hx);exact(y,by rw[IP,Ad,Y];rfl)
 refine(rfl,hc,Rh w<|m+1,?_,λi j e=>?_,λi j h c E=>?_,?_)
 ·show ((liveL w m).map (·.1)).toArray.size=_
  rw[BR,AJ,f,AJ]
 ·obtain⟨q,Q⟩:=l i j e
  have:=(GN L.sz _ _).mp (Be Q);have:=(Array.getElem?_eq_some_iff.mp this).1;have Z:=L.sz;show j<=m;lia
 ·obtain⟨q,Q⟩:=l i j c
  rw[F,Ad,Q]at E;have E:hs[q]?=some h:=E;have:=(L.at_ _ _ ((GN L.sz _ _).mp (Be Q))).2 h (by rw[Array.getElem?_toList];exact E);exact this.mono k
 ·show ((liveL w m).map (·.1)).toArray.size<m
  rw[BR,AJ,H];exact hm
def hashP (k:Int × Int):Int:=reduceHash<|Builtin.Tuple.tupleHashOf [hashInt k.1,hashInt k.2]
def SmP (k:Int × Int):Prop:=0<=k.1/\k.1<64/\0<=k.2/\k.2<2
def allP:AQ:=(AV 64).flatMap λi:Nat=>[((i:Int),0),((i:Int),1)]
theorem RH (h:SmP k):k∈allP:=by
 obtain⟨H,a,b,c⟩:=h;unfold allP;rw[EV];refine(k.1.toNat,BB.mpr #[2],?_);have:k.2=0\/k.2=1:=#[2]
 rcases this with e|e
 ·exact A5.mpr (.inl<|Prod.ext (by show k.1=((k.1.toNat:Nat):Int);lia) e)
 ·exact A5.mpr (.inr<|CK.mpr<|Prod.ext (by show k.1=((k.1.toNat:Nat):Int);omega) e)
def nodB:List Int->Bool
 |[]=>true
 |x::l=>l.all (λy=>y != x) && nodB l
theorem SF:∀{l:List Int},nodB l=true->l.Nodup
 |[],_=>GH
 |x::l,h=>by
  unfold nodB at h;rw[Cv,EX]at h;exact DS.mpr (λX=>by have:=h.1 x X;simp at this,SF h.2)
theorem Zwa:(allP.map hashP).Nodup:=SF #[1]
theorem PR {α β:Type}{f:α -> β}:∀{l:List α},(l.map f).Nodup->∀{a b:α},a∈l->b∈l->f a=f b->a=b
 |[],_,a,b,A,_,_=>by cases A
 |x::l,h,a,b,A,B,e=>by
  rw[Bz,DS]at h;rcases A5.mp A with A|A
  ·rcases A5.mp B with B|B
   ·rw[A,B]
   ·rw[A]at e;exact absurd (e ▸ MJ B) h.1
  ·rcases A5.mp B with B|B
   ·rw[B]at e;exact absurd (e ▸ MJ A) h.1
   ·exact PR h.2 A B e
theorem Qz (j:SmP a) (B:SmP b) (e:hashP a=hashP b):a=b:=PR Zwa (RH j) (RH B) e
def entP (hf:Int × Int->Int) (x:(Int × Int) × Addr):Int × Value:=(hf x.1,.ref x.2)
structure StG (hf:Int × Int->Int) (h:Heap) (a:Addr) (o:Obj) (es:Array (Int × Value)) (ep:Nat) (t:SetTable) (xs:List ((Int × Int) × Addr)):Prop where
 ob:h.get? a=some o
 ex:o.ExactSet
 da:o.data=.set es ep t
 el:es.toList.Perm (xs.map<|entP hf)
 tb:STb t (es.toList.map (·.1))
 nf:es.size*5<t.mask*3
 mks:t.mask=7\/t.mask=31\/t.mask=127\/t.mask=511
def PSt (hf:Int × Int->Int) (a:Addr) (xs:List ((Int × Int) × Addr)) (h:Heap):Prop:=∃o es ep t,StG hf h a o es ep t xs
theorem PSt.keep (x:PSt hf a xs h) (k:∀o,h.get? a=some o->h'.get? a=some o):PSt hf a xs h':=by
 obtain⟨o,s,p,t,g⟩:=x;exact(o,s,p,t,k _ g.ob,g.ex,g.da,g.el,g.tb,g.nf,g.mks)
theorem StG.size (g:StG hf h a o es ep t xs):es.size=xs.length:=by
 have:=g.el.length_eq
 rwa [Array.length_toList,AJ]at this
theorem StG.psz (g:StG hf h a o es ep t xs):t.place.size=es.size:=by
 have:=g.tb.sz
 rwa [AJ,Array.length_toList]at this
theorem StG.fits (g:StG hf h a o es ep t xs):t.fits es.size=true:=by
 unfold SetTable.fits SetTable.fill;rw[g.tb.dm,g.psz];have:=g.tb.ro;rw[g.psz]at this;simp;lia
theorem StG.gave (g:StG hf h a o es ep t xs):t.gaveWay=false:=by
 unfold SetTable.gaveWay;rcases g.mks with e|e|e|e <;> rw[e] <;> rfl
#check 5
abbrev IsP (prog:Program) (w:World) (h:Heap) (k:Int × Int) (a:Addr):Prop:=IsTupleKey (PySem.intKind prog w) h [k.1,k.2] a
theorem O5 (j:IsP prog w s.heap k a) (h:Q false s):wpAny (model prog w) A (ofAClassStatement 8 (.ref a)) Q E s:=by
 have T:=j.typeIs;obtain⟨o,m,n,O,_,d,i⟩:=j;unfold ofAClassStatement;refine AB<|wpAny_typeOf T ?_;dsimp only;refine AB<|AL ?_;simp only[Fs,Bu,↓reduceIte];refine AB<|wpAny_seqItems O d ?_;dsimp only;refine AB ?_;rw[<- Array.forIn_toList];refine wpAny_forIn_list _ (λt (r:Option Bool × Unit) S=>r.1=none/\S=s/\∀v∈t,carriedByValue v=true) _ ?_ ?_ _ _ (rfl,rfl,i.byValue)
 ·rintro v t r S ⟨R,rfl,l⟩
  have e:ofAClassStatement 7 v=pure false:=by
   have:=l v B5;cases v with
   |ref a=>simp[carriedByValue]at this
   |_=>rfl
  rw[e];refine AB<|AL ?_;simp only[Bu,if_false];exact AL (rfl,rfl,λu U=>l u<|Bl _ U)
 ·rintro⟨b,c⟩ S ⟨R,rfl,_⟩
  simp only at R;subst R;exact AL h
theorem noneSeen (j:IsP prog w s.heap k b):∀(ys:List Value) {Q:Bool->Shared->Prop},(∀y∈ys,∃k' c,y=.ref c/\IsP prog w s.heap k' c)->Q false s->wpAny (model prog w) A (searchCouldBeSeen (.ref b) ys) Q E s:=by
 intro ys Q hy h;unfold searchCouldBeSeen;refine AB ?_;refine wpAny_forIn_list _ (λt (r:Option Bool × Unit) S=>r.1=none/\S=s/\∀y∈t,∃k' c,y=.ref c/\IsP prog w s.heap k' c) _ ?_ ?_ _ _ (rfl,rfl,hy)
 ·rintro v t r S ⟨R,rfl,l⟩
  obtain⟨k',c,rfl,K⟩:=l v B5;dsimp only;split
  ·exact AL (rfl,rfl,λu U=>l u<|Bl _ U)
  ·refine AB (wpAny_eqIsQuiet_tuple j ?_)
   simp only[Fs,Bu,↓reduceIte];refine AB<|wpAny_eqIsQuiet_tuple K ?_;simp only[Fs,Bu,↓reduceIte];refine AB<|O5 j ?_;simp only[Bu,↓reduceIte];refine AB<|O5 K ?_;simp only[Bu,↓reduceIte];exact AL (rfl,rfl,λu U=>l u<|Bl _ U)
 ·rintro⟨a,d⟩ S ⟨R,rfl,_⟩
  simp only at R;subst R;exact AL h
theorem nodH (hfi:∀{a b:Int × Int},SmP a->SmP b->hf a=hf b->a=b):∀{xs:List ((Int × Int) × Addr)},(xs.map (·.1)).Nodup->(∀x∈xs,SmP x.1)->(xs.map ((·.1)∘entP hf)).Nodup
 |[],_,_=>GH
 |x::xs,h,hs=>by
  rw[Bz,DS]at h ⊢;refine(λX=>?_,nodH hfi h.2 λy Y=>hs y<|Bl _ Y);obtain⟨y,Y,e⟩:=A6.mp X;exact h.1<|A6.mpr (y,Y,hfi (hs y<|Bl _ Y) (hs x #[3]) e)
theorem Px {hf:Int × Int->Int}(hfi:∀{a b:Int × Int},SmP a->SmP b->hf a=hf b->a=b) {U:Bool}{a b:Addr}{o:Obj}{es:Array (Int × Value)}{ep:Nat}{t:SetTable}{xs:List ((Int × Int) × Addr)}{k:Int × Int}{Q:SetFound->Shared->Prop}(hu:A.units<cLine) (g:StG hf s.heap a o es ep t xs)
  (hm:∀x∈xs,SmP x.1/\IsP prog w s.heap x.1 x.2) (nd:(xs.map (·.1)).Nodup) (hk:SmP k) (a2:IsP prog w s.heap k b)
  (hin:k∈xs.map (·.1)->∀i:Option Nat,(U=false->i.isSome=true)->Q (.there i) s)
  (hout:k ∉ xs.map (·.1)->∀j,j<=t.mask->(∀i:Nat,t.place[i]?≠some j)->ER t.mask (λx=>∃y:Nat,t.place[y]?=some x) (hf k) j->Q (.free j false) s) :
  wpAny (model prog w) A (setSearch a (.ref b) (hf k) U) Q E s:=by
 unfold setSearch setSearchFrom;refine AB<|wpAny_setState_of g.ob g.da g.fits ?_;dsimp only;rw[g.gave];simp only[Bu,↓reduceIte,MS];have n:∀(i:Nat) (e:Int × Value),es[i]?=some e->∃x∈xs,e=entP hf x:=λi e H=>by
  have:e∈xs.map (entP hf):=g.el.mem_iff.mp (by rw[Array.mem_toList_iff];exact Array.mem_of_getElem? H);obtain⟨x,d,rfl⟩:=A6.mp this;exact(x,d,rfl)
 by_cases c:k∈xs.map (·.1)
 ·obtain⟨X,u,rfl⟩:=A6.mp c
  have:entP hf X∈es.toList:=g.el.mem_iff.mpr<|MJ u;obtain⟨i0,f⟩:=KN this;have I:es[i0]?=some (hf X.1,Value.ref X.2):=by rw[<- Array.getElem?_toList];exact f
  have D:∀i,i<t.place.size->(es[i]?.map (·.1)).getD 0=hf X.1->i=i0:=λi q e=>by
   rw[g.psz]at q;have H:=Array.getElem?_eq_getElem q;obtain⟨x,d,B⟩:=n _ _ H;rw[H]at e;have e:es[i].1=hf X.1:=e;rw[B]at e;have l:=hfi (hm x d).1 hk e;have F:(es.toList.map (·.1)).Nodup:=by
    have p:=g.el.map (·.1);refine p.nodup_iff.mpr ?_;rw[BS];exact nodH hfi nd λy Y=>(hm y Y).1
   have K:(es.toList.map (·.1))[i]?=some (hf X.1):=by rw[Ad,Array.getElem?_toList,H,B,<- l];rfl
   have L:(es.toList.map (·.1))[i0]?=some (hf X.1):=by rw[Ad,f];rfl
   obtain⟨P,V⟩:=BQ.mp K;obtain⟨R,O⟩:=BQ.mp L;exact(HA F).mp (V.trans O.symm)
  obtain⟨j,M,C,l⟩:=W6 g.tb (h:=hf X.1) (i0:=i0) (by rw[Ad,f];rfl) (hashAt:=λi=>(es[i]?.map (·.1)).getD 0) (by show (es[i0]?.map (·.1)).getD 0=_;rw[I];rfl) D;have S:=LI g.tb.rs l;generalize hp:t.probe _ (hf X.1) (t.probeStart<|hf X.1)=r;obtain rfl:r=some (.candidate j i0 M):=hp.symm.trans C;dsimp only;have N:∀y∈((es.filter λx=>x.1 == hf X.1).toList.map (·.2)),∃k' c,y=Value.ref c/\IsP prog w s.heap k' c:=λy Y=>by
   obtain⟨e,H,rfl⟩:=A6.mp Y;have H:e∈es.toList:=by
    rw[Array.toList_filter]at H;exact(CB.mp H).1
   obtain⟨x,d,rfl⟩:=A6.mp<|g.el.mem_iff.mp H;exact(x.1,x.2,rfl,(hm x d).2)
  have v:=(hm X u).2;have m:t.sameMemory t.moves t.mask=some true:=by unfold SetTable.sameMemory;rw[AN #[3]]
  rw[I];dsimp only;by_cases hl:t.led=true
  ·rw[hl]
   simp only[Fs,Bu,↓reduceIte];refine AB<|CO<|wpAny_eqBool_tuple hu v a2 ?_;refine AB<|wpAny_setState_of g.ob g.da g.fits ?_;dsimp only;rw[m,BD rfl];cases U
   ·simp only[Er,Bu,↓reduceIte]
    rw[S];dsimp only;rw[I];dsimp only;refine AB<|wpAny_isSame_ref_self ?_;refine AB<|AL ?_;simp only[↓reduceIte];exact AL (hin c _ λ_=>rfl)
   ·simp only[Bool.and_self,↓reduceIte]
    exact AL (hin c _ λz=>Bool.noConfusion z)
  ·rw[FH.mpr hl]
   simp only[Ke,↓reduceIte];refine AB<|noneSeen a2 _ N ?_;simp only[Bu,↓reduceIte];refine AB<|CO<|wpAny_eqBool_tuple hu v a2 ?_;refine AB<|wpAny_setState_of g.ob g.da g.fits ?_;dsimp only;rw[m,BD rfl];cases U
   ·simp only[Er,Bu,↓reduceIte]
    rw[S];dsimp only;rw[I];dsimp only;refine AB<|wpAny_isSame_ref_self ?_;refine AB<|AL ?_;simp only[↓reduceIte];exact AL (hin c _ λ_=>rfl)
   ·simp only[Bool.and_self,↓reduceIte]
    exact AL (hin c _ λz=>Bool.noConfusion z)
 ·have D:∀i,i<t.place.size->(es[i]?.map (·.1)).getD 0≠hf k:=λi q e=>by
   rw[g.psz]at q;have H:=Array.getElem?_eq_getElem q;obtain⟨x,d,B⟩:=n _ _ H;rw[H]at e;have e:es[i].1=hf k:=e;rw[B]at e;exact c<|A6.mpr (x,d,hfi (hm x d).1 hk e)
  obtain⟨j,C,l,G,J⟩:=Zul g.tb D;generalize hp:t.probe _ (hf k) (t.probeStart<|hf k)=r;obtain rfl:r=some (.empty j none):=hp.symm.trans C;exact AL<|hout c j l G J
theorem noScan (es:Array (Int × Value)):byScan (.ref b) es=false:=rfl
variable {hf:Int × Int->Int}(hfi:∀{a b:Int × Int},SmP a->SmP b->hf a=hf b->a=b)
include hfi
theorem Zwk {a b:Addr}{xs:List ((Int × Int) × Addr)}{k:Int × Int}{Q:Option Nat->Shared->Prop}(U:A.units<cLine) (g:PSt hf a xs s.heap)
  (hm:∀x∈xs,SmP x.1/\IsP prog w s.heap x.1 x.2) (z:(xs.map (·.1)).Nodup) (q:SmP k) (B:IsP prog w s.heap k b)
  (h:∀r:Option Nat,r.isSome=decide (k∈xs.map (·.1))->Q r s):wpAny (model prog w) A (setFind a (.ref b)<|hf k) Q E s:=by
 obtain⟨o,e,p,t,g⟩:=g;unfold setFind setFindIn;refine AB<|wpAny_setState_of g.ob g.da g.fits ?_;dsimp only;rw[noScan];simp only[Bu,↓reduceIte];refine AB (Px hfi U g hm z q B (λc i I=>?_) λc j _ _ _=>?_)
 ·exact AL<|h i (by rw[BD c];exact I rfl)
 ·exact AL<|h none (by rw[BI c];rfl)
theorem PSt.typeIs {a:Addr}{xs:List ((Int × Int) × Addr)}(g:PSt hf a xs s.heap):s.TypeIs (.ref a) "set":=let ⟨o,_,_,_,g⟩:=g; (o,g.ob,g.ex.1)
theorem Qp {k:Int × Int}{b:Addr}(hfe:∀(k:Int × Int),tupleKeyHash (PySem.intKind prog w) [k.1,k.2]=hf k) {Q:Int->Shared->Prop}(hu:A.units<cLine) (hkb:IsP prog w s.heap k b) (h:Q (hf k) { s with toks:=s.toks+3 }):wpAny (model prog w) A (pyHash (.ref b)) Q E s:=
 wpAny_pyHash_tuple hu hkb (by rw[hfe];exact h)
theorem Wr {a b:Addr}{xs:List ((Int × Int) × Addr)}{k:Int × Int}(hfe:∀(k:Int × Int),tupleKeyHash (PySem.intKind prog w) [k.1,k.2]=hf k) {Q:Bool->Shared->Prop}(hu:A.units+1<cLine) (g:PSt hf a xs s.heap)
  (hm:∀x∈xs,SmP x.1/\IsP prog w s.heap x.1 x.2) (nd:(xs.map (·.1)).Nodup) (hk:SmP k) (hkb:IsP prog w s.heap k b)
  (h:Q (decide<|k∈xs.map (·.1)) { s with toks:=s.toks+3 }):wpAny (model prog w) A (contains (.ref a) (.ref b)) Q E s:=by
 unfold contains
 try with_reducible refine CO ?_
 have T:=g.typeIs hfi;refine AB (wpAny_specialOf T F.slot_set_contains.lookup ?_);show wpAny _ _ (if (some (Value.builtin "set.__contains__") == some Value.none)=true then _ else _) _ E s;rw[AK (by rw[beq_builtin_none];exact BV)];refine AB (wpAny_callSpecialUnlessNone?_slot (name:=Str.ofString "__contains__") T F.slot_set_contains
  (wpAny_call_entry F.slot_set_contains T entry_set_contains ?_ (F.args_set_contains_2 _ _)))
 unfold Builtin.«frozenset.__contains__» Builtin.Frozenset.oneOther;simp only[MC,bind_assoc];unfold Builtin.Frozenset.addrOf Builtin.Frozenset.withSetAsKey setContains;refine AB<|AL ?_
 try dsimp only
 refine AB<|AL ?_
 try dsimp only
 refine AB<|wpAny_tryCatch ?_;refine CO ?_;refine AB<|Qp hfi hfe ?_ hkb ?_
 ·exact hu
 refine AB (Zwk hfi ?_ (s:={ s with toks:=s.toks+3 }) g hm nd hk hkb λr R=>?_)
 ·exact hu
 refine AL ?_;show wpAny _ _ (ret<|Value.bool r.isSome) _ _ _;rw[R];exact AL (_,rfl,wpAny_truthy_bool h)
theorem Zrc {a b:Addr}{xs:List ((Int × Int) × Addr)}{k:Int × Int}(hfe:∀(k:Int × Int),tupleKeyHash (PySem.intKind prog w) [k.1,k.2]=hf k) {Q:Au}(hu:A.units+1<cLine) (g:PSt hf a xs s.heap)
  (hm:∀x∈xs,SmP x.1/\IsP prog w s.heap x.1 x.2) (nd:(xs.map (·.1)).Nodup) (hk:SmP k) (hkb:IsP prog w s.heap k b)
  (h:Q (.bool (!decide (k∈xs.map (·.1)))) { s with toks:=s.toks+3 }):wpAny (model prog w) A (compareOp .NotIn (.ref b) (.ref a)) Q E s:=by
 show wpAny _ _ (do return .bool (!(<- contains (.ref a) (.ref b)))) Q E s;exact AB<|Wr hfi hfe hu g hm nd hk hkb<|AL h
omit hfi in
theorem Wv (j:IsP prog w s.heap k a) (h:Q true s):wpAny (model prog w) A (hashByValue 8 (.ref a)) Q E s:=by
 have T:=j.typeIs;obtain⟨o,m,n,O,_,d,i⟩:=j;unfold hashByValue;refine AB<|wpAny_specialOf T F.slot_tuple_hash.lookup ?_;dsimp only;refine AB<|wpAny_seqItems O d ?_;rw[MQ];refine AB ?_;rw[<- Array.forIn_toList];refine wpAny_forIn_list _ (λe (r:Option Bool × Unit) S=>r.1=none/\S=s/\∃K,ItemsAre (PySem.intKind prog w) K e) _ ?_ ?_ _ _ (rfl,rfl,_,i)
 ·rintro v e r S ⟨R,rfl,K,l⟩
  cases l with
  |cons h1 h2=>
   obtain⟨t,rfl⟩:=Value.isInt_shape h1;unfold hashByValue;refine AB<|AL ?_;simp only[Fs,Bu,if_false];exact AL (rfl,rfl,_,h2)
 ·rintro⟨b,c⟩ S ⟨R,rfl,_⟩
  simp only at R;subst R;exact AL h
omit hfi in
theorem Wu (a:Addr) (wanted:Nat):setRelay a wanted=(do
  let (es,_,t) <- setState a
  if SetTable.sizeAbove wanted > sizeLine then unsupported "set:memory"
  let (es,t) <- (do
   let some (t,order):=t.relaid (es.map (·.1)) wanted|unsupported "internal:set-table-without-room"
   let es':=order.filterMap (es[·]?)
   if es'.size != es.size then unsupported "internal:set-table-lost-an-element"
   pure ((es',t):_×_))
  storeSet a es t):=rfl
omit hfi in
theorem StG.store {h:Heap}{a:Addr}{o:Obj}{es:Array (Int × Value)}{ep:Nat}{t:SetTable}(ho:h.get? a=some o) (hx:o.ExactSet) (hd:o.data=.set es ep t) (es':Array (Int × Value)) (t':SetTable) :
  (h.update a<|Obj.putSet es' t').get? a=some { o with data:=.set es' (ep+1) t' }:=by
 have:=GD (Obj.putSet es' t') ho (by rw[putSet_of es' t' hd];rfl);rw[putSet_of es' t' hd]at this;exact this
theorem Zwm {a b:Addr}{o:Obj}{es:Array (Int × Value)}{ep:Nat}{t:SetTable}{xs:List ((Int × Int) × Addr)}{k:Int × Int}{Q:Bool->Shared->Prop}(g:StG hf s.heap a o es ep t xs) (hb:xs.length<=200)
  {j:Nat}(j1:j<=t.mask) (j2:∀i:Nat,t.place[i]?≠some j) (j3:ER t.mask (λx=>∃y:Nat,t.place[y]?=some x) (hf k) j)
  (h:∀h',Heap.SameBut a s.heap h' -> PSt hf a (xs++[(k,b)]) h' -> Q true { s with heap:=h' }) :
  wpAny (model prog w) A (do
   storeSet a (SetTable.insertAt es (t.put j).2 (hf k,Value.ref b)) (t.put j).1
   if (!false && (t.put j).1.tooFull)=true then do
    setRelay a (SetTable.grown<|es.size+1)
    pure true
   else pure true) Q E s:=by
 have hsz:=g.size;have hps:=g.psz;have hnf:=g.nf;have hmk:=g.mks;obtain⟨T,hp⟩:=g.tb.put j1 j2 j3 #[2];rw[AJ,Array.length_toList]at hp;obtain⟨p,ep'⟩:∃p,(t.put j).2=p:=(_,rfl);obtain⟨t1,et⟩:∃t1,(t.put j).1=t1:=(_,rfl);have em:t1.mask=t.mask:=by rw[<- et];rfl
 rw[ep',et]at T ⊢;rw[ep']at hp;obtain⟨es1,ee⟩:∃es1,SetTable.insertAt es p (hf k,Value.ref b)=es1:=(_,rfl);have hl1:es1.toList=es.toList.take p++(hf k,Value.ref b)::es.toList.drop p:=by rw[<- ee];exact M0 _ _ _ hp
 have T1:STb t1 (es1.toList.map (·.1)):=by
  rw[hl1,BA,Bz,Kf,List.map_drop];exact T
 have el1:es1.toList.Perm ((xs++[((k,b):_×_)]).map (entP hf)):=by
  rw[hl1,BA];refine List.perm_middle.trans ?_;rw[GC];exact(List.perm_append_comm (l₁:=[_]) (l₂:=es.toList)).trans (g.el.append<|List.Perm.refl _)
 have z1:es1.size=es.size+1:=by
  rw[<- Array.length_toList,hl1,Ar,BH,Bo,Dd,Array.length_toList];lia
 have pz1:t1.place.size=es1.size:=by have:=T1.sz;rwa [AJ,Array.length_toList]at this
 have f1:t1.fits es1.size=true:=by
  unfold SetTable.fits SetTable.fill;rw[T1.dm,pz1];have:=T1.ro;rw[pz1]at this;simp;lia
 rw[ee];refine AB<|wpAny_storeSet_of g.ob g.da ?_ (by rw[z1,sizeLine_eq];lia);have ho1:=StG.store g.ob g.ex g.da es1 t1;have sb:=Heap.SameBut.update s.heap a<|Obj.putSet es1 t1;by_cases c:t1.tooFull=true
 ·rw[c]
  simp only[Ke,Bool.and_self,↓reduceIte];have c':(t1.place.size+t1.dummies.size)*5 >= t1.mask*3:=by simpa [SetTable.tooFull,SetTable.fill] using c
  rw[T1.dm,pz1,z1,em]at c';have c':(es.size+1+0)*5 >= t.mask*3:=c';obtain⟨M,e1,e2,e3,e4⟩:∃M,SetTable.sizeAbove (SetTable.grown<|es.size+1)-1=M/\Dk M/\(M=7\/M=31\/M=127\/M=511)/\(es.size+1)*5<M*3/\SetTable.sizeAbove (SetTable.grown<|es.size+1)<=sizeLine:=by
   rcases hmk with m|m|m|m
   ·obtain e:es.size+1=5:=by lia
    rw[e];exact(31,#[0],cyc31,.inr (.inl rfl),#[0],#[0])
   ·obtain e:es.size+1=19:=by lia
    rw[e];exact(127,#[0],cyc127,.inr (.inr (.inl rfl)),#[0],#[0])
   ·obtain e:es.size+1=77:=by lia
    rw[e];exact(511,#[0],cyc511,.inr (.inr (.inr rfl)),#[0],#[0])
   ·lia
  rw[Wu];refine AB<|AB<|wpAny_setState_of ho1 rfl f1 ?_;dsimp only;rw[AK #[2]];obtain⟨t2,order,q1,q2,q3,q4,T2,pm⟩:=Ub (m:=M) (fg:=t1.finger) (mv:=t1.movedTo M) (ld:=t1.led) (pn:=t1.plain) (hs:=es1.map (·.1)) e2 (by rw[Array.size_map,z1];lia);have q:t1.relaid (es1.map (·.1)) (SetTable.grown<|es.size+1)=some (t2,order):=by
   unfold SetTable.relaid;rw[e1];exact q1
  rw[q];dsimp only;rw[Array.size_map]at pm;have hq:∀x∈order.toList,x<es1.size:=λx hx=>BB.mp<|pm.mem_iff.mp hx;obtain⟨f2,f3⟩:=Lo (es:=es1) order.toList hq;have ol:order.toList.length=es1.size:=by have:=pm.length_eq;rwa [Bt]at this
  have fl:(order.filterMap (es1[·]?)).toList=order.toList.filterMap (es1[·]?):=Array.toList_filterMap;have z2:(order.filterMap (es1[·]?)).size=es1.size:=by rw[<- Array.length_toList,fl,f2,ol]
  have el2:(order.filterMap (es1[·]?)).toList.Perm ((xs++[((k,b):_×_)]).map (entP hf)):=by
   rw[fl];refine(pm.filterMap _).trans ?_;rw[Zvz];exact el1
  have T2':STb t2 ((order.filterMap (es1[·]?)).toList.map (·.1)):=by
   have:(order.filterMap (es1[·]?)).toList.map (·.1)=order.toList.filterMap ((es1.map (·.1))[·]?):=by
    rw[fl,List.map_filterMap];congr 1
    funext x
    rw[Array.getElem?_map]
   rw[this];exact T2
  rw[AK (by rw[z2];simp)];refine AB<|AL ?_;dsimp only;refine wpAny_storeSet_of ho1 rfl ?_ (by rw[z2,z1,sizeLine_eq];lia);refine AL<|h _ (sb.trans<|Heap.SameBut.update _ a _) (_,_,_,t2,StG.store ho1 g.ex rfl _ t2,g.ex,rfl,el2,T2',?_,by rw[q2];exact e3);rw[z2,z1,q2];exact e4.1
 ·rw[FH.mpr c]
  simp only[FD,Bu,↓reduceIte];refine AL<|h _ sb (_,es1,ep+1,t1,ho1,g.ex,rfl,el1,T1,?_,by rw[em];exact hmk);have c':¬ (t1.place.size+t1.dummies.size)*5 >= t1.mask*3:=by simpa [SetTable.tooFull,SetTable.fill] using c
  rw[T1.dm,pz1]at c';have c':¬ (es1.size+0)*5 >= t1.mask*3:=c';lia
theorem Wf {a b:Addr}{xs:List ((Int × Int) × Addr)}{k:Int × Int}{Q:Bool->Shared->Prop}(hu:A.units<cLine) (g:PSt hf a xs s.heap)
  (hm:∀x∈xs,SmP x.1/\IsP prog w s.heap x.1 x.2) (nd:(xs.map (·.1)).Nodup) (hk:SmP k) (hkb:IsP prog w s.heap k b) (hb:xs.length<=200)
  (h:∀(r:Bool) h',Heap.SameBut a s.heap h' -> PSt hf a (if k∈xs.map (·.1) then xs else xs++[(k,b)]) h' -> Q r { s with heap:=h' }) :
  wpAny (model prog w) A (setAddHashed a (.ref b)<|hf k) Q E s:=by
 obtain⟨o,es,ep,t,g⟩:=g;unfold setAddHashed setAddHashedIn;refine CO ?_;refine AB<|wpAny_setState_of g.ob g.da g.fits ?_;dsimp only;rw[noScan];simp only[Bu,↓reduceIte];refine AB (Px hfi hu g hm nd hk hkb (λc i hi=>?_) λc j j1 j2 j3=>?_)
 ·dsimp only
  have:=h false s.heap<|Heap.SameBut.refl _ _;rw[AN c]at this;exact AL (this (o,es,ep,t,g))
 ·dsimp only
  refine AB (wpAny_setState_of g.ob g.da g.fits ?_);dsimp only;have tail:wpAny (model prog w) A (do
   storeSet a (SetTable.insertAt es (t.put j).2 (hf k,Value.ref b)) (t.put j).1
   if (!false && (t.put j).1.tooFull)=true then do
    setRelay a (SetTable.grown<|es.size+1)
    pure true
   else pure true) Q E s:=Zwm hfi g hb j1 j2 j3 λh' sb P=>h true h' sb (by rw[AK c];exact P)
  split
  ·refine AB (Wv hkb ?_)
   simpa only[↓reduceIte] using tail
  ·refine AB (AL ?_)
   simpa only[↓reduceIte] using tail
theorem W4 {a b:Addr}{xs:List ((Int × Int) × Addr)}{k:Int × Int}(hfe:∀(k:Int × Int),tupleKeyHash (PySem.intKind prog w) [k.1,k.2]=hf k) {Q:Au}(hu:A.units+1<cLine) (g:PSt hf a xs s.heap)
  (hm:∀x∈xs,SmP x.1/\IsP prog w s.heap x.1 x.2) (nd:(xs.map (·.1)).Nodup) (hk:SmP k) (hkb:IsP prog w s.heap k b) (hb:xs.length<=200)
  (h:∀h',Heap.SameBut a s.heap h' -> PSt hf a (if k∈xs.map (·.1) then xs else xs++[(k,b)]) h' -> Q .none { s with heap:=h',toks:=s.toks+3 }) :
  wpAny (model prog w) A (call (.builtin "set.add") [.ref a,.ref b]) Q E s:=by
 refine wpAny_call_entry F.slot_set_add (g.typeIs hfi) F.entry_set_add ?_<|F.args_set_add_2 _ _;unfold Builtin.«set.add» Builtin.Frozenset.oneOther;simp only[MC,bind_assoc];unfold Builtin.Frozenset.addrOf setAdd;refine AB<|AL ?_
 try dsimp only
 refine AB<|AL ?_
 try dsimp only
 refine AB ?_;refine CO ?_;refine AB<|Qp hfi hfe ?_ hkb ?_
 ·exact hu
 refine Wf hfi ?_ (s:={ s with toks:=s.toks+3 }) g hm nd hk hkb hb λr h' B S=>?_
 ·exact hu
 show wpAny _ _ (ret Value.none) _ _ _;exact AL (_,rfl,h h' B S)
end
def MemT (H:Hp) (xs:List ((Int × Int) × Addr)):Prop:=(xs.map (·.1)).Nodup/\∀x∈xs,SmP x.1/\H x.2=some (.tup [.int x.1.1,.int x.1.2])
theorem OL (O:HOk P w H h) (e:H b=some (.tup [.int k.1,.int k.2])):IsP P w h k b:=by
 obtain⟨_,s,r,o,a,⟨c,n,d⟩,_⟩:=(show ObjOk P w H h b (.tup [.int k.1,.int k.2]) from O b _ e);obtain⟨u,v,rfl,⟨t,rfl⟩,⟨T,rfl⟩⟩:=r.two;exact(o,_,n,a,c,d,.cons (by simp[PySem.intKind,Value.isInt]) (.cons (by simp[PySem.intKind,Value.isInt]) .nil))
theorem Sz (O:HOk P w H h) (m:MemT H xs):∀x∈xs,SmP x.1/\IsP P w h x.1 x.2:=λx X=>((m.2 x X).1,OL O (m.2 x X).2)
theorem Mw (ok:HOk P w H h) (e:H p=some (.ext<|PSt hashP p' xs)):p'=p/\PSt hashP p xs h:=by
 obtain⟨f,⟨o,O⟩,T⟩:=(show ObjOk P w H h p (.ext<|PSt hashP p' xs) from ok p _ e);by_cases c:p'=p
 ·subst c;exact(rfl,f)
 ·have F:=f
  obtain⟨i,S,d,t,g⟩:=F;have b:=T h (h.update p' λo=>{ o with data:=.seq #[] 0 }) f λo q=>by
   rw[(Heap.SameBut.update h p' _).2 p (Ne.symm c)];exact q
  obtain⟨j,s,a,k,G⟩:=b;have E:=GD (λo:Obj=>{ o with data:=.seq #[] 0 }) g.ob rfl;have:=G.ob;rw[E]at this;cases this;exact absurd G.da (λz=>by cases z)
theorem Tq (f:PSt hashP p xs h):ObjOk P w H h p (.ext<|PSt hashP p xs):=
 (f,let ⟨o,_,_,_,g⟩:=f; (o,g.ob),λc d a b=>a.keep b)
#check 0
def rSet0T:List V->Hp->VK->Prop:=λs H Q=>s=[]/\∀p,H p=none->Q (.ref p) (upd H p (.ext<|PSt hashP p []))
theorem Zyy (led:Bool):STb (SetTable.fresh 0 0 led) []:=(rfl,cyc7,R9,rfl,λi j e=>by simp[SetTable.fresh]at e,λi j h e=>by simp[SetTable.fresh]at e,by show 0<7;decide)
theorem Zqe:CallR X (.type "set") rSet0T:=by
 intro pins s Z H xs us Q I r h;obtain⟨rfl,q⟩:=h;cases r;refine call_set_0 λd=>(.ref s.heap.objs.size,_,I.laid (t':=s.toks) (λ_ _ z=>Ap _ z) (AU _) ?_,rfl,q _<|I.hok.fresh<|AU _);exact Tq (_,#[],0,_,Bn _ rfl,(rfl,rfl,rfl),rfl,List.Perm.refl _,Zyy d,by show 0*5<7*3;decide,.inl rfl)
def rNinT:R2:=λx y H Q=>∃a a' b xs k,y=.ref a/\x=.ref b/\H a=some (.ext<|PSt hashP a' xs)/\MemT H xs/\SmP k/\H b=some (.tup [.int k.1,.int k.2])/\Q (.bl (!decide (k∈xs.map (·.1)))) H
theorem ninT (U:X.A.units+1<cLine):OpR X (compareOp .NotIn) rNinT:=by
 intro pins s Z H x y v u Q I rx ry h;obtain⟨a,d,b,S,k,rfl,rfl,c,m,K,B,q⟩:=h;cases rx;cases ry;obtain⟨rfl,f⟩:=Mw I.hok c;exact Zrc Qz (λ_=>rfl) U f (Sz I.hok m) m.1 K (OL I.hok B) (.bl _,H,I.tok _,rfl,q)
def rSAddT:V->List V->Hp->VK->Prop:=λx s H Q=>∃a a' b xs k,x=.ref a/\s=[.ref b]/\H a=some (.ext<|PSt hashP a' xs)/\MemT H xs/\SmP k/\H b=some (.tup [.int k.1,.int k.2])/\xs.length<=200 /\
 Q .non (upd H a (.ext<|PSt hashP a (if k∈xs.map (·.1) then xs else xs++[(k,b)])))
theorem RC (U:X.A.units+1<cLine):MtM X "set.add" rSAddT:=by
 intro pins s Z H x vs v us Q I rx rv h;obtain⟨a,d,b,i,k,rfl,rfl,c,m,K,B,n,q⟩:=h;cases rx;obtain⟨u,rfl,r⟩:=rv.one;cases r;obtain⟨rfl,f⟩:=Mw I.hok c;refine W4 Qz (λ_=>rfl) U f (Sz I.hok m) m.1 K (OL I.hok B) n λe S P=>?_;refine(.non,_,Lg I (by rw[c];trivial) S ?_<|Tq P,rfl,q);obtain⟨o,_,_,_,g⟩:=P;exact(o,g.ob)
def tyS (x:V) (H:Hp):Prop:=∃p p' xs,x=.ref p/\H p=some (.ext<|PSt hashP p' xs)
def tBMS (r:V->List V->Hp->VK->Prop) (to:TE) (t:TA):TE:=λZ H Q=>to Z H λx h=>tyS x h/\t Z h λs a=>r x s a Q
theorem VX {pins:Ax}{Z:St}{H:Hp}{s:Shared}{x:V}{v:Value}(I:AH X pins Z H s) (r:RelV x v) (ty:tyS x H) :
  s.TypeIs v "set" /\ ∀a,v=.ref a->∃ob,s.heap.get? a=some ob/\ob.dict=none:=by
 obtain⟨p,b,c,rfl,e⟩:=ty;cases r;obtain⟨rfl,o,S,P,t,g⟩:=Mw I.hok e;exact((o,g.ob,g.ex.1),λa E=>by cases E;exact(o,g.ob,g.ex.2.1))
variable {o e:Expr}{es:List Expr}{to:TE}{t:TA}{name:Str}{apos cpos:Pos}{id:String}{r:V->List V->Hp->VK->Prop}
theorem bmS (U:PlainAttrs "set") (O:PySem.Slot "set" name id) (Y:typeOf (.builtin id)=pure (.type "method_descriptor")) (hm:MtM X id r) (ho:PE X o to) (z:PA X (e::es) t)
  (B:attributeBase o name X.env (eval o X.env)=eval o X.env:=by rfl)
  (q:((backTo cpos (starEach (e::es) X.env)).all (λx=>!x.1) && (backToKw cpos (keywordEach [] X.env)).all (λx=>x.1.isSome)
   && decide ((e::es).length+([]:List Keyword).length+(if ([]:List Keyword).isEmpty then 0 else 1)<30))=true:=by rfl)
  (j:(apos.endLine == cpos.line)=true:=by rfl) (hs:starEach (e::es) X.env=(false,eval e X.env)::starEach es X.env:=by rfl) (L:(backTo cpos<|starEach es X.env).any (·.1)=false:=by rfl) :
  PE X (.Call (.Attribute o name apos) (e::es) [] cpos) (tBMS r to t):=by
 intro pins s Z H Q I h;refine wpAny_Call_method_late B q j rfl (thn (ho pins s Z H _ I h) λv s1 (x,H1,I1,r1,ty,q1)=>?_);obtain⟨a,b⟩:=VX I1 r1 ty;refine("set",id,U,O,Y,a,b,?_);have A:=z cpos pins s1 Z H1 _ I1 q1;rw[hs]at A ⊢;refine Calls.callWith_builtin (by show (false || (backTo cpos<|starEach es X.env).any (·.1))=false;rw[L] <;> rfl)<|Calls.evalArgs_plain ?_
 exact thn A λus s2 (vs,H2,I2,r2,q2)=>hm pins s2 Z H2 x vs v us Q I2 r1 r2 q2
end
def stR (ks:AQ):Hp->(Heap->Prop)->Prop:=λG φ=>∃a xs,φ = PSt hashP a xs/\xs.map (·.1)=ks/\MemT G xs
def stO (ks:AQ):OD:=.ext<|stR ks
def dP (k:Int × Int):D:=.tup [.int k.1,.int k.2]
theorem MemT.mono (s:Same G G') (m:MemT G xs):MemT G' xs:=(m.1,λx h=>((m.2 x h).1,s _ _ (m.2 x h).2))
def addP (ks:AQ) (k:Int × Int):AQ:=if k∈ks then ks else ks++[k]
#check 1
theorem OW (h:OwnRep K G o (stO ks)):∃a xs,o=.ext (PSt hashP a xs)/\xs.map (·.1)=ks/\MemT G xs:=by
 cases o with
 |ext φ=>
  obtain⟨g,s,a,xs,rfl,e,m⟩:=h;exact(a,xs,rfl,e,m.mono s)
 |_=>exact h.elim
theorem Oy (r:Ay K G v (dP k)):∃b,v=.ref b/\G b=some (.tup [.int k.1,.int k.2]):=by
 obtain⟨b,V,rfl,a,d⟩:=r.inv;obtain⟨u,f,rfl,R,s⟩:=d.inv;obtain⟨e,U,rfl,c,S⟩:=s.inv;cases R.inv;cases c.inv;cases S.inv;exact(b,rfl,a)
theorem Zy5 (p:Po (stO []) J):JO K (tCB rSet0T tNil) J Po:=λg G H Z Q k c=>by
 refine(rfl,λl L=>?_);obtain⟨a,d⟩:=k.fresh (od:=stO []) L (show OwnRep K G (.ext<|PSt hashP l []) (stO []) from (G,Same.refl _,l,[],rfl,rfl,GH,λx h=>nomatch h));exact c l _ G _ J a (Same.refl _) d p
theorem UK (h:JE K ta J λd J1=>∃x ks k,J1[n]?=some x/\x.od=some (stO ks)/\d=dP k/\SmP k/\P (.bl (!decide (k∈ks))) J1):JE K (tOp rNinT ta<|tVar n) J P:=λg G H Z Q k c=>
 h g G H Z _ k λv d i j J1 f S R q=>by
  obtain⟨x,ks,l,r,s,t,u,p⟩:=q;subst t;obtain⟨b,rfl,B⟩:=Oy R;obtain⟨a,o,w,W,y,z,C⟩:=f.own n x _ r s;obtain⟨A,X,rfl,e,m⟩:=OW y;refine(.ref a,w,a,A,b,X,l,rfl,rfl,W,m.mono λb o B=>f.live b o B,u,f.live _ _ B,?_);rw[e];exact c _ _ i j J1 f S (.bl _) p
theorem Rn {n:Nat}{te:TE}{x:Slot}{U:AQ}{nx bk ct:AM->Prop}{rt:D->AM->Prop}{ro:OD->AM->Prop}(L:J[n]?=some x) (ho:x.od=some (stO U))
  (h:JE K te J λd J1=>∃y ks k,J1[n]?=some y/\y.od=some (stO ks)/\d=dP k/\SmP k/\ks.length<=200/\nx (J1.set n<|y.put<|stO<|addP ks k)) :
  JS K (tDrop<|tBMS rSAddT (tVar n)<|tCons te tNil) J (nx,rt,bk,ct,ro):=λg G H Z E k c=>by
 obtain⟨a,o,f,j,l,t,u⟩:=k.own n x _ L ho;obtain⟨A,s,rfl,_,_⟩:=OW l;refine(.ref a,f,(a,A,s,rfl,j),h g G H Z _ k λv d G1 H1 J1 k1 s1 r1 (y,ks,kk,q1,q2,q3,q4,q5,p)=>?_);subst q3;obtain⟨b,rfl,B⟩:=Oy r1;obtain⟨r,O,w,W,q,C,F⟩:=k1.own n y _ q1 q2;exists 0,f,w;obtain⟨i,S,rfl,e,m⟩:=OW q;refine(a,i,b,S,kk,rfl,rfl,W,m.mono λb o B=>k1.live b o B,q4,k1.live _ _ B,by rw[<- e,AJ]at q5;exact q5,c.nx Z G1 _ _ (k1.write q1 q2 f ?_) p);refine(G1,Same.refl _,a,_,rfl,?_,?_)
 ·unfold addP
  rw[e];split
  ·exact e
  ·rw[BA,e];rfl
 ·rw[e]
  by_cases cc:kk∈ks
  ·rw[AN cc];exact m
  ·rw[AK cc]
   refine(?_,λx L=>?_)
   ·rw[BA,e]
    exact Fp.mpr (e ▸ m.1,#[3],λx L y Y=>by
     have:y=kk:=by simpa using Y
     subst this;exact λz=>cc (z ▸ L))
   ·rcases CV.mp L with L|L
    ·exact m.2 x L
    ·have:x=(kk,b):=by simpa using L
     subst this;exact(q4,B)
end
end L2
namespace L2
open PySem PySem.Spec PyProof.Rows
#check 1
theorem Zve (p:Po (.dtt []) J):JO K tDNewT J Po:=λg G H Z Q k c q h=>by
 obtain⟨a,d⟩:=k.fresh (od:=.dtt []) h (show OwnRep K G (.dT []) (.dtt []) from .nil);exact c q _ G _ J a (Same.refl _) d p
theorem Qo {ks:List Int}(r:Ay K G v (.tup<|ks.map D.int)):∃b,v=.ref b/\G b=some (.tup ((ks.map (Sum.inl:Int->AS)).map kV)):=by
 obtain⟨b,S,rfl,a,s⟩:=r.inv;have:=s.ints;subst this;exact(b,rfl,by rw[a,BS];rfl)
theorem RM {n:Nat}{U te:TE}{nx bk ct:AM->Prop}{rt:D->AM->Prop}{ro:OD->AM->Prop}(h:JE K te J λd J1=>(∃x od,J1[n]?=some x/\x.od=some od)/\JE K U J1 λe J2=>∃(x:Slot) (kvs:List (List AS × D)) (ks:List Int),J2[n]?=some x/\x.od=some (.dtt kvs)/\e=.tup (ks.map D.int)/\kvs.length<sizeLine/\nx (J2.set n<|x.put (.dtt<|putT kvs (ks.map .inl) d))) :
  JS K (tAsg te<|gSub (tVar n) U rSetU) J (nx,rt,bk,ct,ro):=λg G H Z E k c=>
 h g G H Z _ k λv d l m J1 i S R q=>by
  obtain⟨⟨x,od,X,O⟩,P⟩:=q;obtain⟨a,o,f,C,F,I,L⟩:=i.own n x _ X O;refine(.ref a,f,P g l m Z _ i λu e G2 H2 J2 k2 s2 r2 (y,kvs,ks,q1,q2,q3,q4,p)=>?_);subst q3;obtain⟨b,rfl,B⟩:=Qo r2;obtain⟨A,r,W,s,j,M,N⟩:=k2.own n y _ q1 q2;exists 0,f,W;cases r with
  |dT vs=>
   have w:KTD K G2 vs kvs:=j;exact .inr (a,_,rfl,DPut.t s (k2.live _ _ B) (by rw[Paired.length w];exact q4),c.nx Z G2 _ _ (k2.write q1 q2 f (show OwnRep K G2 (.dT<|putK vs (ks.map .inl) v) (.dtt<|putT kvs (ks.map .inl) d) from UU (R.mono s2) w)) p)
  |_=>exact absurd j (λz=>z)
theorem RO:∀{kvs:List (List AS × V)}{kds:List (List AS × D)},KTD K G kvs kds->(valV kvs k).isSome=(valT kds k).isSome
 |_,_,.nil=>rfl
 | (k1,v1)::kvs,(k2,d2)::kds,.cons (e,r) t=>by
  have e:k1=k2:=e;subst e;by_cases hk:k1=k
  ·subst hk
   rw[JX (p:=(k1,v1)) rfl,show valT ((k1,d2)::kds) k1=some d2 by simp[valT,D7]];rfl
  ·rw[JV (p:=(k1,v1)) hk,show valT ((k1,d2)::kds) k=valT kds k by simp[valT,D7,hk]]
   exact RO t
theorem Uc (h:JE K ta J λd J1=>∃(x:Slot) (kvs:List (List AS × D)) (ks:List Int),J1[n]?=some x/\x.od=some (.dtt kvs)/\d=.tup (ks.map D.int)/\P (.bl (if neg then !(valT kvs<|ks.map .inl).isSome else (valT kvs<|ks.map .inl).isSome)) J1):JE K (tOp (rInU K neg) ta<|tVar n) J P:=λg G H Z Q k c=>
 h g G H Z _ k λv d i j J1 f s R q=>by
  obtain⟨x,kvs,ks,l,m,r,p⟩:=q;subst r;obtain⟨b,rfl,B⟩:=Qo R;obtain⟨a,o,W,u,w,y,A⟩:=f.own n x _ l m;cases o with
  |dT vs=>
   have e:=RO (k:=ks.map .inl) (show KTD K i vs kvs from w);exact(.ref a,W,.inr (.inl (a,_,rfl,DGet.t u<|f.live _ _ B,by rw[e];exact c _ _ i j J1 f s (.bl _) p)))
  |_=>exact absurd w (λz=>z)
end
#check 6
theorem Zvs (p:nx ((J.set i (.own (.dct []))).set j (.own (.dct [])))):JS K (tPar i j<|tCons tDNewK<|tCons tDNewK tNil) J (nx,rt,bk,ct,ro):=λg G H Z E k c a h b B=>by
 obtain⟨e,D⟩:=k.fresh (od:=.dct []) h (show OwnRep K G (.dK []) (.dct []) from .nil);have f:=e.setOwn' i D;obtain⟨l,d⟩:=f.fresh (od:=.dct []) B (show OwnRep K G (.dK []) (.dct []) from .nil);exact(_,_,rfl,c.nx _ G _ _ (l.setOwn' j d) p)
end
#check 3
def codLe (a b:Ak):Prop:=a=[]\/∃x y s t,a=x::s/\b=y::t/\x≠y/\rlt y x=false
def AscC (cs:List (List<|List Int)):Prop:=∀i a b,cs[i]?=some a->cs[i+1]?=some b->codLe a b
theorem Zu2 (h:codLe a b):cLt b a=false:=by
 rcases h with rfl|⟨x,y,s,t,rfl,rfl,H,c⟩
 ·cases b <;> rfl
 ·show (if y=x then _ else rlt y x)=false
  rw[AK (Ne.symm H)];exact c
#check 5
theorem Vg (U:A.units<cLine) (q:RowAt s.heap x a) (Y:RowAt s.heap y b) (h:Q (.bool<|rlt a b) s):wpAny (model prog w) A (richCompare .Lt x y) Q E s:=by
 obtain⟨l,S,rfl,⟨⟨n,f,T,L⟩,O,C,k,D⟩,I⟩:=q;obtain⟨m,t,rfl,⟨⟨p,g,j,e⟩,o,c,K,d⟩,i⟩:=Y;simp only at C D c d;subst C D c d;exact richCompare_meets_room (op:=.Lt) (_,O,rfl) (_,o,rfl) PySem.F.slot_tuple_lt PySem.F.entry_tuple_lt (PySem.F.args_tuple_lt_2 _ _) (HT.tuple_lt_ints l m S.toArray t.toArray k K f g L e a b (by simpa using I) (by simpa using i))
  (O,o,show Value.bool (HT.lexLt a b)≠Value.notImplemented/\_ from ((λx=>nomatch x),h)) U
theorem Zqs (p:Paired (CodeAt s.heap) vs cs):∀v∈vs,PySem.W.Looks (model prog w) s.heap (typeOf v) (.type "tuple"):=by
 intro v h
 induction p with
 |nil=>cases h
 |cons q t ih=>
  rcases A5.mp h with e|h
  ·subst e
   obtain⟨a,i,rfl,⟨o,O,c,_⟩,_⟩:=q;have z:PySem.W.Looks (model prog w) s.heap (typeOf (.ref a)) o.cls:=(PySem.W.Looks.ld O).andThen .now;rw[c]at z;exact z
  ·exact ih h
theorem Pj:∀(vs:List Value) (cs:List (List<|List Int)) {Q:List (Option Value)->Shared->Prop},Paired (CodeAt s.heap) vs cs ->
  (∀fs:List (Option Value),Paired (λ(f:Option Value) (c:Ak)=>c=[]->f=none) fs cs->Q fs s)->wpAny (model prog w) A (vs.mapM firstOfTuple') Q E s
 |[],[],_,_,h=>by rw[List.mapM_nil];exact AL (h [] .nil)
 |v::vs,c::cs,Q,.cons p t,h=>by
  obtain⟨a,i,rfl,⟨o,O,C,n,d⟩,I⟩:=p;rw[List.mapM_cons];refine AB ?_;rw[PySem.W.kas_first_eq];refine AB<|PySem.W.Looks.here (show PySem.W.Looks (model prog w) s.heap (typeOf (.ref a)) o.cls from (PySem.W.Looks.ld O).andThen .now) ?_;rw[C,AK (by first|decide|simp)];refine AB<|listItems_at O d<|AL ?_;refine AB (Pj vs cs (Q:=λb S=>wpAny _ A (pure (i.toArray[0]?::b)) Q E S) t λfs F=>AL<|h _ (.cons ?_ F));intro e;subst e;cases I;rfl
theorem Zp6 (p:Paired (CodeAt s.heap) vs ([]::cs)) (h:Q oneType' s):wpAny (model prog w) A (keyKind' vs.toArray) Q E s:=by
 have T:=Zqs (prog:=prog) (w:=w) p;rw[keyKind'_eq,List.mapM_toArray,map_eq_pure_bind];refine AB<|AB (Pj vs _ p λS P=>AL ?_);cases P with
 |@cons f _ S _ F _=>
  have F:f=none:=F rfl;subst F;rw[AK #[3],AK #[3]];rw[oneTypeOnly'_eq,List.mapM_toArray,map_eq_pure_bind];refine AB<|AB<|AB<|PySem.W.kas_mapM (r:=.type "tuple") _ (λv V a q=>(T v V).here q)<|AL ?_;cases p with
  |@cons v _ vs _ _ _=>
   have l:((A7 (λ_=>Value.type "tuple") (v::vs)).toArray.all λx=>x == Value.type "tuple")=true:=by
    simp only[List.all_toArray,List.all_map,EX];intro _ _;exact(by decide:(Value.type "tuple" == Value.type "tuple")=true)
   have H:(A7 (λ_=>Value.type "tuple") (v::vs)).toArray[0]?=some (Value.type "tuple"):=#[3]
   rw[H];simp only[l,if_true];exact AL<|AL h
theorem Zpx (p:Paired (CodeAt s.heap) vs cs) (j:∀r∈cs,r≠[]) (h1:cs≠[]) (h:Q (tuples' false) s):wpAny (model prog w) A (keyKind' vs.toArray) Q E s:=by
 have X:∃f:List Value,PySem.W.KatTups s.heap vs f/\f.length=cs.length/\∀v∈f,PySem.W.Looks (model prog w) s.heap (typeOf v) (.type "tuple"):=by
  clear h h1
  induction p with
  |nil=>exact([],trivial,rfl,λ_ h=>nomatch h)
  |@cons v r vs cs q t ih=>
   obtain⟨f,k,d,K⟩:=ih λr R=>j r<|Bl _ R;obtain⟨a,T,rfl,⟨o,H,C,n,D⟩,I⟩:=q;cases I with
   |nil=>exact absurd rfl (j [] B5)
   |@cons u x us l hx hl=>
    refine(u::f,.cons H C D #[3] k,by rw[BH,BH,d],λv V=>?_);rcases A5.mp V with e|V
    ·subst e
     obtain⟨b,i,rfl,⟨g,O,c,_⟩,_⟩:=hx;have z:PySem.W.Looks (model prog w) s.heap (typeOf (.ref b)) g.cls:=(PySem.W.Looks.ld O).andThen .now;rw[c]at z;exact z
    ·exact K v V
 obtain⟨f,k,d,K⟩:=X;have S:0<cs.length:=List.length_pos_iff.mpr h1;exact PySem.W.kat_kind k #[2] K #[0] h
theorem Zva (Y:A.units+2<cLine) (B:CodeAt s.heap u a) (U:CodeAt s.heap v b) (z:codLe a b) (h:Q false s):wpAny (model prog w) A (keyLt' oneType' v u) Q E s:=by
 obtain⟨l,S,rfl,⟨⟨p,f,j,L⟩,o,C,n,D⟩,I⟩:=U;obtain⟨k,t,rfl,⟨⟨q,g,m,e⟩,O,c,N,d⟩,i⟩:=B;simp only at C D c d;subst C D c d;rw[keyLt'_oneType,oneLt'_eq];simp only[if_true];refine AB<|wpAny_cRoomFor #[2] ?_;refine AB<|wpAny_callSpecialIfBound?_slot (T:="tuple") (_,o,rfl) F.slot_tuple_lt<|call_meets F.slot_tuple_lt (_,o,rfl) F.entry_tuple_lt (F.args_tuple_lt_2 _ _) (Wc l k S.toArray t.toArray n N f g L e b a) (?_,(by simpa using I,by simpa using i),o,O,?_)
 ·show A.units+1<cLine;lia
 ·rw[Zu2 z]
  exact wpAny_truthy_bool h
theorem Zu7 (Y:A.units+2<cLine) (B:CodeAt s.heap u a) (U:CodeAt s.heap v b) (q:a≠[]) (L:codLe a b) (h:Q false s):wpAny (model prog w) A (keyLt' (tuples' false) v u) Q E s:=by
 obtain⟨l,S,rfl,⟨f,O,e,n,D⟩,I⟩:=U;obtain⟨k,t,rfl,⟨g,o,C,N,d⟩,i⟩:=B;rcases L with z|⟨x,y,j,T,rfl,rfl,H,c⟩
 ·exact absurd z q
 ·cases I with
  |@cons u1 _ us1 _ q1 _=>
   cases i with
   |@cons u2 _ us2 _ q2 _=>
    refine PySem.W.kat_lt O D o d ?_;show PySem.W.KatLex prog w A false _ Q ((u1,u2)::us1.zip us2) 0 s;refine PySem.W.kat_cons<|RE q1 q2 #[4] prog w _ _ ?_;rw[BI (Ne.symm H)];refine PySem.W.kat_no ?_;rw[oneLt'_eq];simp only[Er,Bu,if_false];refine AB<|Vg #[4] q1 q2 ?_;rw[c];exact wpAny_truthy_bool h
end
#check 0
def rSortC (K:W.Frag):List V->Hp->VK->Prop:=λs H Q=>∃p us cs,s=[.ref p]/\SqL K H p us/\us.length<200/\Paired (CodeV K H) us cs/\AscC cs/\∀l,H l=none->Q (.ref l) (upd H l (.lst us))
theorem Zzz (h:AscC cs) (h0:∀r,cs[0]?=some r->r≠[]):∀r∈cs,r≠[]:=by
 intro r hr;obtain⟨i,I⟩:=KN hr;cases i with
 |zero=>exact h0 r I
 |succ i=>
  have l:=(BQ.mp I).1;have e:=AZ (show i<cs.length by lia);have:∀j,j<cs.length->∀c,cs[j]?=some c->c≠[]:=by
   intro j
   induction j with
   |zero=>intro _ c hc;exact h0 c hc
   |succ j ih=>
    intro hj c hc;have e:=AZ (show j<cs.length by lia);rcases h j _ _ e hc with z|⟨x,y,s,t,_,z,_⟩
    ·exact absurd z<|ih #[4] _ e
    ·rw[z];exact λz=>nomatch z
  exact this _ l _ I
theorem Paired.getV {R:Value -> β -> Prop}{j:List β}(p:Paired R vs j) (h:i<vs.length):∃r,j[i]?=some r/\R (vs.getD i .none) r:=by
 obtain⟨r,H,a⟩:=Paired.getC p<|AZ h;refine(r,H,?_);rw[Av,AZ h];exact a
theorem sortCK (K:W.Frag) (hu:X.A.units+8<cLine) (hK:X.K=K:=by rfl):CallR X (.builtin "sorted") (rSortC K):=by
 subst hK;intro pins s Z H xs us Q I r h;obtain⟨p,ys,S,rfl,hx,hl,hp,M,q⟩:=h;obtain⟨u,rfl,G⟩:=vals1 r;cases (show u=Value.ref p from G);obtain⟨t,J,V,hz⟩:=I.list hx;have P:Paired (CodeAt s.heap) t S:=NN (R:=CodeV X.K H) (T:=CodeAt s.heap) (λy u c G h=>Zzw I G h) J hp;have O:=J.length;have L:=Paired.length P;have n:EP X pins Z Q (.ref<|s.heap.objs.size+1) { s with heap:=sortedAll s.heap t t.toArray }:=by
  obtain⟨e,he⟩:=sortedAll_at s.heap t t.toArray;refine(.ref<|s.heap.objs.size+1,_,I.laid (t':=s.toks) (λ_ _ z=>sortedAll_old z) (Et _) (show ObjOk X.prog X.w _ _ _ (.lst ys) from (hz,t,e,J,he)),rfl,q _<|I.hok.fresh<|Et _)
 have U:X.A.in1.in1.units+2<cLine:=FG (by show X.A.units+1+1+2<=X.A.units+8;lia) hu;have m:∀i,1<=i->i<t.length->∃a b,S[i-1]?=some a/\CodeAt s.heap (t.getD (i-1) .none) a/\CodeAt s.heap (t.getD i .none) b/\codLe a b:=λi l j=>by
  obtain⟨a,g,B⟩:=Paired.getV (i:=i-1) P #[2];obtain⟨b,D,F⟩:=Paired.getV (i:=i) P j;exact(a,b,g,B,F,M (i-1) a b g (by rw[show i-1+1=i by lia];exact D))
 by_cases h0:S[0]?=some []
 ·refine Pt (κ:=oneType') V.isList #[2] (λ_ d k E Q f=>?_) (λd k i l j E Q f=>?_) n
  ·cases S with
   |nil=>cases h0
   |cons r0 S=>
    have:r0=[]:=by simpa using h0
    subst this;exact Zp6 (s:={ s with heap:=d }) (Paired.mapP P λv r z=>z.keep k) f
  ·obtain⟨a,b,_,C,o,x⟩:=m i l j
   exact Zva (s:={ s with heap:=d }) U (C.keep k) (o.keep k) x f
 ·have N:∀r∈S,r≠[]:=Zzz M λr hr e=>h0 (by rw[hr,e])
  refine Pt (κ:=tuples' false) V.isList #[4] (λh2 d k E Q f=>?_) (λd k i l j E Q f=>?_) n
  ·exact Zpx (s:={ s with heap:=d }) (Paired.mapP P λv r z=>z.keep k) N (by intro z;subst z;rw[Dq]at L;lia) f
  ·obtain⟨a,b,Y,C,o,x⟩:=m i l j
   exact Zu7 (s:={ s with heap:=d }) U (C.keep k) (o.keep k) (N a<|Be Y) x f
end
#check 1
def codD (c:Ak):D:=.tup<|c.map rowD
theorem Ro (h:JA K ta J λds J1=>∃cs:List (List<|List Int),ds=[.lst (cs.map codD)]/\cs.length<200/\AscC cs/\Po (.lst<|cs.map codD) J1):JO K (tCB (rSortC K) ta) J Po:=λg G H Z Q k c=>
 h g G H Z _ k λv ds d m J1 b S j q=>by
  obtain⟨cs,e,L,f,p⟩:=q;subst e;obtain⟨_,_,rfl,r,t⟩:=j.inv;cases t.inv;obtain⟨a,s,rfl,A,R⟩:=r.inv;have n:=R.length;rw[AJ]at n;refine(a,s,cs,rfl,SqL.of<|b.live _ _ A,#[2],P0 b.live R,f,λl L=>?_);obtain⟨i,D⟩:=b.fresh (od:=.lst<|cs.map codD) L (show OwnRep K d (.lst s) (.lst<|cs.map codD) from R);exact c l _ d _ J1 i S D p
end
#check 0
theorem Zs3 {kx vx tg1 it1:Expr}{scope:Scope}{pos spos py:Pos}{fvs:List Str}{sel:List Nat}{wi1:TI}{g1:TG}{tk tv:TE}{i:Nat}{y:Str}(hN:X.N.Nodup) (hiy:X.N[i]?=some y) (hx:Fg X.env.scope y) (tgs:List Str) (S:CompSc X.env.scope X.N scope fvs sel) (hc:X.calm=true)
  (hi1:PI X tg1 it1 wi1) (hg1:∀C s H ex pn,PG (compCx X scope (tgs++fvs) C s H ex pn) tg1 g1)
  (hk:∀C s H ex pn,PE (compCx X scope (tgs++fvs) C s H ex pn) kx tk) (hv:∀C s H ex pn,PE (compCx X scope (tgs++fvs) C s H ex pn) vx tv)
  (hs1:∀x,foldedSetIterable it1 X.env x=pure x:=by intro _;rfl)
  (hsw:swapsWith (.DictComp kx vx [(tg1,it1,[],0)] scope pos) (some (.Name y py)) spos.line X.env=pure true:=by rfl)
  (hf:X.fn y=true\/X.env.scope.names.lookup y=some .local:=by sleep 90) :
  PS X (.Assign [.Name y py] (.DictComp kx vx [(tg1,it1,[],0)] scope pos) spos) (tAsg (tCompG tgs.length sel wi1 g1 (.dK [])<|tPutK tk tv)<|gName i):=by
 intro pins s Z H D I h;rw[exec_Assign_Name_used _ _ _ _ hsw];refine AB (EL (AB ?_));show wpAny _ X.A (do let _ <- comprehension (.DictComp kx vx [⟨tg1,it1,[],0⟩] scope pos) scope X.env _ newDict false (eval it1 X.env) (some (assign (.Name y py) X.env))) _ _ s;refine AB (D2 (wpAny_comprehension_free (use:=some (assign (.Name y py) X.env)) (Q:=λ_ s'=>SP X pins D .next s') rfl hs1 (Ip (Iu S I.ok)) S.kind S.names
  (thn (hi1 pins s Z H _ I h) λv s1 h1=>thn h1 λitv s2 h2=>?_)) (λ_ s' hq=>AL (AL hq)) λ_ _ e=>e)
 refine Py (tgs:=tgs) (ob:={ cls:=.type "dict",data:=.dict #[] }) (ho:=.dK []) (Zqv _ _ _ _ _) rfl (λD env it=>rfl) (λs Q E q=>wpAny_newObj_type q) (λpins Z H s I=>I.laid (a:=s.heap.objs.size) (o:=.dK []) (h':=s.heap.push { cls:=.type "dict",data:=.dict #[] }) (t':=s.toks) (λ_ _ q=>Ap _ q) (AU _)<|Qt s.heap I.big) S hc hg1 (λC s H ex pn D it=>(U6 (Y:=compCx X scope (tgs++fvs) C s H ex pn) rfl (hk C s H ex pn) (hv C s H ex pn) D).rest) (RR:=λacc C=>compPost (model X.prog X.w) X.A X.xe (some<|assign (.Name y py) X.env) (λ_ s'=>SP X pins D .next s') acc C) (Q:=λv H'=>D.nx (Z.set i<|some v) H') h2 ?_;intro s' C acc H' m hn fp hI q;have I0:AH X pins Z H' s':=hI s'.heap (.refl ..);show wpAny _ X.A (assign (.Name y py) X.env (.ref acc)) _ _ _;refine wpAny_assign_Name<|LF (v:=.ref acc) I0 hN hiy hx rfl (λs2 I2 hsb=>?_) hf;obtain⟨a,sb,ha⟩:=hsb;have hCa:C≠a:=by
  rcases ha with z|z
  ·rw[z];exact fp.2.1
  ·exact Ne.symm<|fp.2.2.2.2.1 y a z
 refine(m,hn.sameBut sb hCa,λh' sb'=>?_);obtain⟨f0,f1,f2,f3,f4,f5⟩:=fp;exact(_,H',I2.turned (t':=s2.toks) (it:=C) (λb o hb e=>(sb'.2 b hb).trans e) f0 f1 f3 f4 f5,q)
end
#check 4
theorem Zzs (p:P (.bl<|decide (x=y)) J):JR2 K rEq (.str x) (.str y) J P:=λg G H Z Q v u k r Y c=>by
 cases r.inv;cases Y.inv;refine(rfl,?_);rw[show decide (V.str x=V.str y)=decide (x=y) from decide_eq_decide.mpr (λe=>V.str.inj e,λe=>by rw[e])];exact c _ _ G H J k (Same.refl _) (.bl _) p
end
#check 3
#check 4
end
#check 3
#check 0
def rSumT (K:W.Frag):List V->Hp->VK->Prop:=λs H Q=>∃(p:Addr) (ns:List Int),s=[.ref p]/\SqT K H p (ns.map V.int)/\Q (.int ns.sum) H
theorem sumTK (K:W.Frag) (hc:X.calm=true) (hK:X.K=K:=by rfl):CallR X (.builtin "sum") (rSumT K):=by
 subst hK;intro pins s Z H xs us Q I r h;obtain⟨p,n,rfl,x,q⟩:=h;obtain⟨u,rfl,U⟩:=vals1 r;cases (show u=Value.ref p from U);obtain⟨S,j,P,_⟩:=I.tuple x;have a:=K5 j;have N:=a.length;have l:p<s.heap.objs.size:=by obtain⟨o,e,_⟩:=P;exact A4 e
 refine call_sum_walkG<|wpAny_pyIter_tuple P ?_;refine(s.heap.objs.size,_,_,_,_,_,λi=>n.getD i 0,rfl,Walks.tuple (prog:=X.prog) (w:=X.w) (A:=X.A.in1) (show X.A.in1.handled=none from I.ok.hd hc) s.heap.objs.size p (BN l) S.toArray,((_,Bn _ rfl,rfl,rfl),P.push _),?_,?_,λm y T k=>?_)
 ·intro b B
  show b<(s.heap.push _).objs.size;rw[size_push'];simp only[A5,DF,or_false]at B;rcases B with z|z
  ·rw[z];exact HB _
  ·rw[z];exact Dp l
 ·intro i v V
  have V:S[i]?=some v:=by simpa using (show S.toArray[i]?=some v from V)
  obtain⟨d,g⟩:=BQ.mp V;obtain⟨t,e⟩:=intsAt a i d;exact(t,by rw[<- g,e])
 ·have e:preSum (λi=>n.getD i 0) S.toArray.size=n.sum:=by
   rw[BR,show S.length=n.length by omega,NA n _ (AU _),Bm]
  rw[e];have c:AH X pins Z H { s with heap:=s.heap.push { cls:=.type "tuple_iterator",data:=.fields #[.ref p,.int 0 0] },toks:=s.toks }:=I.kept λb o e=>Ap _ e;have f:=I.fpOk (b:=s.heap.objs.size) (H':=H) (AU _)<|I.hok.fresh<|AU _;exact(.int n.sum,H,c.turned (it:=s.heap.objs.size) (λb o B e=>k b o #[12] e) (I.hok.fresh<|AU _) (El I.lt) (.inr I.sz) f.2.2.2.2.1 f.2.2.2.2.2,(_,rfl),q)
def rNeP (K:W.Frag):R2:=λx y H Q=>∃(p q:Addr) (a b c d:Int),x=.ref p/\y=.ref q/\SqT K H p [.int a,.int b]/\SqT K H q [.int c,.int d]/\Q (.bl (!(a == c && b == d))) H
theorem nePK (K:W.Frag) (O:X.A.units+1<cLine) (L:X.K=K:=by rfl):OpR X (compareOp .NotEq) (rNeP K):=by
 subst L;intro pins s Z H x y v u Q I rx ry h;obtain⟨p,q,a,b,c,d,rfl,rfl,f,i,k⟩:=h;cases rx;cases ry;obtain⟨S,r,P,_⟩:=I.tuple f;obtain⟨t,B,l,_⟩:=I.tuple i;obtain⟨U,D,rfl,⟨T,rfl⟩,⟨m,rfl⟩⟩:=r.two;obtain⟨V,F,rfl,⟨n,rfl⟩,⟨o,rfl⟩⟩:=B.two;have z:=RcNeAt.tuples (A:=X.A) (s:=s) (e:=λj=>if j=0 then a == c else b == d) P l #[2] λj g C=>by
  have G:j<2:=g;rcases(show j=0\/j=1 by lia) with e|e
  ·subst e;exact EqAt.int_int a T c n
  ·subst e;exact EqAt.int_int b m d o
 have E:(!((AV<|min 2 2).all (λj=>if j=0 then a == c else b == d) && (2 == 2))) = !(a == c && b == d):=by
  show (!(((a == c) && ((b == d) && true)) && true))=_;rw[Bool.and_true,Bool.and_true]
 have z:RcNeAt X.A s (.ref p) (.ref q) (!((AV<|min 2 2).all (λj=>if j=0 then a == c else b == d) && (2 == 2))):=z;rw[E]at z;exact z X.prog X.w _ _ (.bl _,H,I,rfl,k)
end
#check 1
theorem Uy (p:P (.bl (!(a == c && b == d))) J):JR2 K (rNeP K) (.tup [.int a,.int b]) (.tup [.int c,.int d]) J P:=λg G H Z Q x y k r Y e=>by
 obtain⟨i,v,rfl,h,s⟩:=r.inv;obtain⟨j,w,rfl,B,t⟩:=Y.inv;have E:=Reps.ints (ns:=[a,b]) s;have f:=Reps.ints (ns:=[c,d]) t;subst E;subst f;exact(i,j,a,b,c,d,rfl,rfl,SqT.of<|k.live _ _ h,SqT.of<|k.live _ _ B,e _ _ G H J k (Same.refl _) (.bl _) p)
theorem Zzp {ns:List Int}(p:P (.int ns.sum) J):JC K (rSumT K) [.tup (ns.map D.int)] J P:=λg G H Z Q S k s c=>by
 obtain⟨_,_,rfl,r,t⟩:=s.inv
 next=>
  cases t.inv;obtain⟨a,u,rfl,h,R⟩:=r.inv
  next=>
   have v:=R.ints;subst v;exact(_,ns,rfl,SqT.of<|k.live _ _ h,c _ _ G H J k (Same.refl _) (.int _) p)
end
#check 4
abbrev QSp:=List D->(List Int->List Int->Prop)->Prop
def spQ (K:W.Frag) (f:QSp):Sp:=λs H Q _=>∃F ds Post,Same F H/\Reps K F s ds/\f ds Post /\
 ∀acc a b (l m:List Int) H',Same H H' -> H acc=none->H a=none->H b=none->a≠acc->b≠acc->a≠b->H' acc=some (.tup [.ref a,.ref b])->H' a=some (.lst<|l.map V.int)->H' b=some (.lst<|m.map V.int)->Post l m->Q (.ref acc) H'
theorem UQ (h:∀ds Post,f ds Post->ds.length=n):∀vs H Q E,spQ K f vs H Q E->vs.length=n:=λvs H Q E z=>by
 obtain⟨F,ds,Post,l,s,a,q⟩:=z;rw[s.length];exact h ds Post a
def pairZ (l m:List Int):D:=.tup [lstZ l,lstZ m]
theorem PZ (h1:H' acc=some (.tup [.ref a,.ref b])) (h2:H' a=some (.lst<|l.map V.int)) (j:H' b=some (.lst<|m.map V.int)):Ay K (shown G H' acc [(a,l),(b,m)]) (.ref acc) (pairZ l m):=by
 refine .tup (by unfold shown;rw[AN (.inl rfl)];exact h1) (.cons (.lst (vs:=l.map V.int) ?_<|Reps.ofInts _) (.cons (.lst (vs:=m.map V.int) ?_<|Reps.ofInts _) .nil))
 ·unfold shown;rw[AN (.inr B5)];exact h2
 ·unfold shown;rw[AN (.inr<|Bl _ B5)];exact j
theorem Sd {H:Hp}{l m:List Int}(j:H a=none) (B:H b=none) (q:a≠acc) (z:b≠acc):∀c∈[((a,l):_×_),((b,m):_×_)],H c.1=none/\c.1≠acc:=λc h=>by
 rcases A5.mp h with e|h
 ·rw[e];exact(j,q)
 ·rw[CK.mp h];exact(B,z)
theorem Q4 (h:JA K ta J λds J1=>f ds λl m=>P (pairZ l m) J1):JE K (tCall (spQ K f) [] E ta) J P:=λg G H Z Q k c=>
 h g G H Z _ k λv ds e j J1 d S R r=>by
  show spQ K f (v++[]) j Q E;rw[Bj];refine(e,ds,_,d.live,R,r,λC a b l m i s A x B N q u n o p D=>?_);obtain⟨z,w,t⟩:=Rj d.live s A<|Sd (l:=l) (m:=m) x B N q;exact c _ _ _ i J1 (d.grow z s t) (S.trans z) (PZ n o p) D
theorem Zxb {f:QSp}{E1:XK}{ta:TA}{c1 c2:TT}{a2 a3 rest:TS}{P:Eg}{i:Nat}
  (h:JA K ta J λds J1=>f ds λl m=>(∀(j:Nat) x,J1[j]?=some x->x.od=none)/\i < J1.length/\l.length<sizeLine/\JT K c1 (J1.set i (.val<|pairZ l m)) λb1 J2=>b1=false/\JT K c2 J2 λb2 _=>b2=false/\JS K rest (J1.set i .any) P) :
  JS K (tSeq (tAsg (tCall (spQ K f) [] E1 ta)<|gName i)<|tSeq (tIfS c1 a2 tNext)<|tSeq (tIfS c2 a3 tNext)<|tSeq (tDrop<|tBM K "list" rAppend (tOp (rIxU K) (tVar i)<|tC (.int 0))<|tCons (tC (.int 7)) tNil)<|tSeq (tDrop<|tBM0 K "list" rClear<|tOp (rIxU K) (tVar i)<|tC (.int 1)) rest) J P:=λg G H Z E k c=>
 h g G H Z _ k λvs ds r t J1 q s1 r1 W=>by
  show spQ K f (vs++[]) t _ _;rw[Bj];refine(r,ds,_,q.live,r1,W,λacc a b l m H' sh ha hxa hxb n1 n2 n3 h1 h2 h3 (hod,hi,hlen,hj)=>?_);obtain⟨B,z2,z3⟩:=Rj q.live sh ha<|Sd (l:=l) (m:=m) hxa hxb n1 n2;have S:=(q.grow B sh z3).setVal' i (PZ (K:=K) (G:=r) h1 h2 h3);have L:i < Z.length:=by rw[<- q.len];exact hi
  have I:(Z.set i<|some<|V.ref acc)[i]?=some (some (.ref acc)):=CT L;refine hj g _ H' _ _ S λb1 G2 H2 J2 k3 sg2 (e,hj2)=>?_;subst e;show (if false=true then _ else _:Prop);rw[AK BV];refine hj2 g _ H2 _ _ k3 λb2 G3 H3 J3 k4 sg3 (e,hr)=>?_;subst e;show (if false=true then _ else _:Prop);rw[AK BV];have s:=sg2.trans sg3;have w:H3 acc=some (.tup [.ref a,.ref b]):=k4.live _ _<|s _ _ (by unfold shown;rw[AN (.inl rfl)];exact h1);have v:H3 a=some (.lst<|l.map V.int):=k4.live _ _<|s _ _ (by unfold shown;rw[AN (.inr B5)];exact h2);have Y:H3 b=some (.lst<|m.map V.int):=k4.live _ _<|s _ _ (by unfold shown;rw[AN (.inr<|Bl _ B5)];exact h3);have O:∀(j:Nat) x od,(J1.set i .any)[j]?=some x->x.od=some od->False:=λj x od n p=>by
   by_cases hj:j=i
   ·subst hj
    rw[CT hi]at n;cases n;cases p
   ·rw[Cg (Ne.symm hj)]at n
    rw[hod j x n]at p;cases p
  have N:∀x o,r x=some o->H3 x=some o:=λx o e=>k4.live _ _<|s _ _<|B _ _ e;have U:Ok K g r H3 (Z.set i<|some (.ref acc)) (J1.set i .any):=by
   refine(k4.same,k4.lent,q.sub,λx o e=>(N x o e,(q.frz x o e).2),λx o e=>((k4.ext x o e).1,(q.ext x o e).2.1,λj y od n p=>(O j y od n p).elim),by rw[IZ,IZ];exact q.len,λj d n=>?_,λj y od n p=>(O j y od n p).elim,λj j' x y od T a n p=>(O j x od n p).elim);by_cases hj:j=i
   ·subst hj
    rw[CT hi]at n;cases n
   ·rw[Cg (Ne.symm hj)]at n ⊢
    exact q.val j d n
  have R:∀x:Addr,t x=none->r x=none/\g.Hz x=none/\g.Xo x=none:=λx X=>by
   refine(?_,q.there X,?_)
   ·cases e:r x with
    |none=>rfl
    |some u=>rw[q.live x u e]at X;cases X
   ·cases e:g.Xo x with
    |none=>rfl
    |some u=>have z:=(q.ext x u e).1;exists 0,X,z
  obtain⟨F,D,M⟩:=R a hxa;obtain⟨n,p,C⟩:=R b hxb;refine(.ref acc,I,Or.inl<|Or.inr<|Or.inl (acc,_,0,.ref a,rfl,rfl,SqT.of w,Ck (j:=0) rfl,?_));refine(.inl (rfl,_,SqL.of v),a,_,.int 7,rfl,rfl,v,by rw[AJ];exact hlen,?_);have A:upd H3 a (.lst<|l.map V.int++[.int 7]) acc=some (.tup [.ref a,.ref b]):=by rw[Ai (Ne.symm n1)];exact w
  have Q:upd H3 a (.lst<|l.map V.int++[.int 7]) b=some (.lst<|m.map V.int):=by rw[Ai (Ne.symm n3)];exact Y
  refine(.ref acc,I,Or.inl<|Or.inr<|Or.inl (acc,_,1,.ref b,rfl,rfl,SqT.of A,Ck (j:=1) rfl,?_));refine(.inl (rfl,_,SqL.of Q),b,_,rfl,rfl,Q,?_);exact hr g r _ _ E ((U.scribble F D M λj x od n p=>(O j x od n p).elim).scribble n p C λj x od n p=>(O j x od n p).elim) c
def JSQ (K:W.Frag) (t:TS) (J:AM) (j:List Int->List Int->Prop):Prop:=
 ∀g G H Z (E:Ends),Ok K g G H Z J -> (∀acc a b (l m:List Int) G' H' Z' J',Ok K g G' H' Z' J' -> g.Hz acc=none->g.Hz a=none->g.Hz b=none->a≠acc->b≠acc->a≠b->H' acc=some (.tup [.ref a,.ref b])->H' a=some (.lst<|l.map V.int)->H' b=some (.lst<|m.map V.int)->j l m->E.rt (.ref acc) H')->t E Z H
theorem JK (h:JS K t J (λJ1=>JSQ K u J1 Pn,λ_ _=>False,λ_=>False,λ_=>False,λ_ _=>False)):JSQ K (tSeq t u) J Pn:=λg G H Z E k c=>
 h g G H Z _ k (λd a b J1 e p=>p g a b d E e c,λ_ _ _ _ _ _ _ _ z=>z.elim,λ_ _ _ _ _ z=>z.elim,λ_ _ _ _ _ z=>z.elim,λ_ _ _ _ _ _ _ _ z=>z.elim)
theorem Zv8 (I:AM->Prop) (h1:JS K t J (I,λ_ _=>False,λ_=>False,λ_=>False,λ_ _=>False)) (h2:∀J1,I J1->JSQ K u J1 Pn):JSQ K (tSeq t u) J Pn:=JK<|h1.mono h2 (λ_ _ h=>h) (λ_ h=>h) (λ_ h=>h) λ_ _ h=>h
theorem Zvy (hi:J[i]?=some (.own (.lst<|l.map .int))) (O:J[j]?=some (.own (.lst<|m.map .int))) (L:i≠j) (p:Pn l m):JSQ K (tRet<|tTup<|tCons (tVar i)<|tCons (tVar j) tNil) J Pn:=λg G H Z E k c=>by
 obtain⟨a,o,n,r,s,C,w⟩:=k.own i _ _ hi rfl;obtain⟨b,u,d,e,f,y,t⟩:=k.own j _ _ O rfl;have B:a≠b:=by
  intro z;subst z;exact L<|k.dis i j _ _ _ _ a hi rfl O rfl n d
 cases o with
 |lst vs=>
  cases u with
  |lst us=>
   have v:vs=l.map V.int:=(show Reps K G vs (l.map D.int) from s).ints;have U:us=m.map V.int:=(show Reps K G us (m.map D.int) from f).ints;subst v U;refine(_,n,_,d,by show 2<=sizeLine;decide,λq h=>?_);have A:a≠q:=Bq r h;have N:b≠q:=Bq e h;obtain⟨x,_⟩:=k.laid h (.tup [.ref a,.ref b]);exact c q a b l m _ _ Z J x (k.there h) w t A N B Bd (by rw[Ai A];exact r) (by rw[Ai N];exact e) p
  |_=>exact absurd f (λz=>z)
 |_=>exact absurd s (λz=>z)
theorem WH (ht:∀ds Post,f ds Post->ds.length<=N.length/\JSQ K t (startD N ds) Post) (h:spQ K f vs H Q E):t { nx:=λ_ H'=>Q .non H',rt:=Q } (start N vs) H:=by
 obtain⟨F,ds,Post,l,S,j,q⟩:=h;obtain⟨L,J⟩:=ht ds Post j;refine J (λ_=>False,F,H,λ_=>none) F H (start N vs) _ (JY S L (λ_ _ _ e=>e) (λ_ z=>z.elim) (Same.refl _) (λb o e=>(l b o e,.inr e)) λ_=>rfl) λc a b m M G H' v u k Z A B n r s d g i p=>?_;exact q c a b m M H' (λx o e=>k.same x o (λz=>z) e) Z A B n r s d g i p
theorem Zu5 (p:nx ((J.set i (.own (.lst []))).set j (.own (.lst [])))):JS K (tPar i j<|tCons (tLst tNil)<|tCons (tLst tNil) tNil) J (nx,rt,bk,ct,ro):=λg G H Z E k c=>by
 refine(Bp _,λa h=>(Bp _,λb B=>?_));obtain⟨e,D⟩:=k.fresh (od:=.lst []) h (show OwnRep K G (.lst []) (.lst []) from .nil);have f:=e.setOwn' i D;obtain⟨l,d⟩:=f.fresh (od:=.lst []) B (show OwnRep K G (.lst []) (.lst []) from .nil);exact(_,_,rfl,c.nx _ G _ _ (l.setOwn' j d) p)
end
end L2
set_option Elab.async false
set_option linter.all false
set_option maxRecDepth 100000
set_option maxHeartbeats 4000000
namespace Lw
open PySem L2
def top (i:Nat):Stmt:=PySem.Challenge.pw_holefloor_k50_whole_crossed_orders_count.main.body.getD i (.Pass (0,0,0,0))
abbrev Kr:Stmt:=top 4
abbrev Mc:Stmt:=top 5
abbrev HE:Stmt:=top 6
abbrev Md:Stmt:=top 7
abbrev Me:Stmt:=top 9
abbrev Mf:Stmt:=top 10
abbrev Mg:Stmt:=top 12
abbrev Mh:Stmt:=top 14
abbrev Mi:Stmt:=top 15
abbrev Mj:Stmt:=top 16
abbrev Ig:Stmt:=top 17
abbrev Mk:Stmt:=top 20
abbrev Ml:Stmt:=top 22
abbrev Mm:Stmt:=top 23
abbrev Mn:Stmt:=top 24
abbrev Mo:Stmt:=top 25
abbrev Ks:Stmt:=top 26
abbrev Mp:Stmt:=top 27
abbrev Kt:Stmt:=top 29
abbrev Kh:Stmt:=top 30
abbrev Ki:Stmt:=top 31
abbrev Kj:Stmt:=top 32
abbrev Mq:Stmt:=top 33
abbrev Mr:Stmt:=top 35
abbrev Ms:Stmt:=top 36
abbrev Mt:Stmt:=top 37
abbrev Kk:Stmt:=top 38
abbrev Kl:Stmt:=top 40
abbrev Mu:Stmt:=top 41
abbrev Km:Stmt:=top 42
abbrev Mv:Stmt:=top 43
abbrev Kn:Stmt:=top 44
abbrev Ih:Stmt:=top 45
abbrev MU:Stmt:=top 46
abbrev Ko:Stmt:=top 47
abbrev Kp:Stmt:=top 48
abbrev Ii:Stmt:=top 49
abbrev Kq:Stmt:=top 50
abbrev MV:Stmt:=top 51
abbrev Ij:Stmt:=top 52
abbrev MW:Stmt:=top 53
abbrev GI:Stmt:=top 54
local macro_rules | `(tactic| walk_at "sc")=>`(tactic| exact (rfl,rfl,rfl,#[1],rfl,#[1],#[1]))
theorem Tv:FnScope ["web","place"] ["web","place"] (defScope Kr):=#[5]
theorem Tw:FnScope ["web","end"] ["web","end"] (defScope Mc):=#[5]
theorem FI:FnScope ["web","many","ties","firsts","a","b","low","high"] ["web"] (defScope HE):=#[5]
theorem MX:FnScope ["web","many","ties"] ["web"] (defScope Md):=#[5]
theorem Ol:FnScope ["web","order","end","row"] ["web","order","end"] (defScope Me):=#[5]
theorem Om:FnScope ["web","order","end","row"] ["web","order","end"] (defScope Mf):=#[5]
theorem MY:FnScope ["web","faces_many","many","ties"] ["web","faces_many"] (defScope Mg):=#[5]
theorem Ku:FnScope ["web","product","place"] ["web"] (defScope Mh):=#[5]
theorem Kv:FnScope ["many","product","factor"] ["many"] (defScope Mi):=#[5]
theorem Ik:FnScope ["ends","number","row","rest","at"] ["ends","number"] (defScope Mj):=#[5]
theorem HF:FnScope ["web","told","place","ends","rows"] ["web"] (defScope Ig):=#[5]
theorem Tx:FnScope ["told","number"] ["told","number"] (defScope Mk):=#[5]
theorem Oo:FnScope ["web","order","crossings","state","partner"] ["web","order","crossings","state"] (defScope Ml):=#[5]
theorem Tz:FnScope ["web","crossings","state"] ["web","crossings","state"] (defScope Mm):=#[5]
theorem MZ:FnScope ["crossings","state","end","hand"] ["crossings","state"] (defScope Mn):=#[5]
theorem Kw:FnScope ["web","order","crossings","state","come_through","come"] ["web","order","crossings","state"] (defScope Mo):=#[5]
theorem HG:FnScope ["web","order","crossings","told","gone","end","face","state"] ["web","order","crossings"] (defScope Ks):=#[5]
theorem T3:FnScope ["web","order","crossings"] ["web","order","crossings"] (defScope Mp):=#[5]
theorem HH:FnScope ["web","crossings","paths","given","tie","a","b"] ["web","crossings"] (defScope Kt):=#[5]
theorem Il:FnScope ["web","paths","end","here","there"] ["web"] (defScope Kh):=#[5]
theorem Ma:FnScope ["path","end","other"] ["path","end","other"] (defScope Ki):=#[5]
theorem T4:FnScope ["crossings","ends"] ["crossings","ends"] (defScope Kj):=#[5]
theorem T5:FnScope ["given","a","b","crossing"] ["given","a","b","crossing"] (defScope Mq):=#[5]
theorem Fu:FnScope ["web","many","ties","tree","kept","tie","pair"] ["web"] (defScope Mr):=#[5]
theorem Fv:FnScope ["web","orders","two","one","crossings","word","order","lacks"] ["web"] (defScope Ms):=#[5]
theorem Kx:FnScope ["web","many","free"] ["web"] (defScope Mt):=#[5]
theorem HI:FnScope ["web","tree","told","tie","choices"] ["web"] (defScope Kk):=#[5]
theorem T6:FnScope ["_law_script"] ["_law_script"] (defScope Kl):=#[5]
theorem GJ:FnScope ["_law_pen_here","_law_many","_law_digit","_law_at","_law_cell","_law_number"] ["_law_pen_here","_law_many"] (defScope Mu):=#[5]
theorem T7:FnScope ["_law_web","_law_place"] ["_law_web","_law_place"] (defScope Km):=#[5]
theorem Im:FnScope ["_law_web","_law_ways_here","_law_place","_law_k"] ["_law_web"] (defScope Mv):=#[5]
theorem DN:FnScope ["_law_pen_here","_law_limit","_law_way","_law_sets","_law_ties","_law_many","_law_k","_law_more_here"] ["_law_pen_here","_law_limit"] (defScope Kn):=#[5]
theorem D8:FnScope ["_law_web","_law_found","_law_place","_law_ends_here","_law_rows","_law_k","_law_longer","_law_row","_law_order"] ["_law_web"] (defScope Ih):=#[5]
theorem T8:FnScope ["_law_end"] ["_law_end"] (defScope MU):=#[5]
theorem Dt:FnScope ["_law_order","_law_crossings","_law_behind","_law_ahead","_law_row","_law_k","_law_found","_law_met","_law_end","_law_walk","_law_state","_law_other","_law_hand"] ["_law_order","_law_crossings"] (defScope Ko):=#[5]
theorem Fw:FnScope ["_law_web","_law_marks","_law_a","_law_b","_law_low","_law_high","_law_place","_law_found","_law_first"] ["_law_web"] (defScope Kp):=#[5]
theorem T9:FnScope ["_law_found","_law_due"] ["_law_found","_law_due"] (defScope Ii):=#[5]
theorem Ky:FnScope ["_law_pen_here","_law_web","_law_ties"] ["_law_pen_here"] (defScope Kq):=#[5]
theorem Kz:FnScope ["_law_web","_law_many","_law_k"] ["_law_web"] (defScope MV):=#[5]
theorem Io:FnScope ["_law_web","_law_free","_law_found","_law_tie","_law_longer"] ["_law_web","_law_free"] (defScope Ij):=#[5]
theorem UA:FnScope ["_law_found","_law_number"] ["_law_found","_law_number"] (defScope MW):=#[5]
theorem Eu:FnScope ["_law_script","_law_web","_law_tree","_law_free","_law_base","_law_two","_law_one","_law_crossings","_law_order","_law_number","_law_found"] ["_law_script"] (defScope GI):=#[5]
abbrev EA (P:Program) (w:World) (K:W.Frag) (mg:Str->Option Value) (base:Heap) (f:Addr) (cdv:Value) (A:Around) (outer:List Env) (s:Shared) (H:Hp) (E:XK):Cx:=(cxOf CX0 P w K mg base ["_law_pen_here","_law_web","_law_ties"] "_law_few" (defScope Kq) f cdv A outer s H E).nox
def Mb (mg:Str->Option Value):Prop:=∀x∈["abs","all","bool","divmod","enumerate","int","isinstance","len","list","max","min","range","set","sorted","str","sum","tuple","zip"],mg x=none
local macro_rules | `(tactic| walk_at "js")=>`(tactic| first
 |with_reducible refine Ac (t:=tAsg _ _) ?_
 |with_reducible refine iteF ?_
 |with_reducible refine CN ?_
 |with_reducible refine Bk ?_
 |with_reducible refine CD ?_
 |with_reducible refine Aw ?_
 |refine GU rfl rfl ?_
 |with_reducible refine AO ?_
 |with_reducible refine Aa ?_
 |with_reducible refine A3 ?_
 |with_reducible refine Ht ?_
 |with_reducible refine E4 ?_
 |with_reducible refine F3 ?_
 |with_reducible refine AI ?_
 |with_reducible refine AF ?_
 |with_reducible refine Ba ?_
 |with_reducible refine Jo ?_
 |with_reducible refine Dz ?_
 |with_reducible refine EB ?_
 |with_reducible refine DA ?_
 |with_reducible refine EK ?_
 |with_reducible refine Uz ?_
 |refine AD rfl ?_
 |refine B7 (Or.inl rfl) ?_
 |refine Nh ?_
 |refine((_,_,rfl,rfl),?_)
 |refine(_,_,_,_,rfl,rfl,rfl,rfl,?_)
 |refine(_,rfl,?_)
 |refine jr_I (by first|(show (0:Int)<_;omega)|exact(#[4],#[4])|exact Or.inl (#[4],#[4])|exact Or.inr (#[4],#[4])|exact(#[0],#[0],#[0])) ?_)
local macro_rules | `(tactic| walk_at "draw")=>`(tactic| first|refine Jd rfl rfl (by assumption) #[4] #[4] λ_ _ _ _ _=>?_|refine(_,_,rfl,rfl,by assumption,_,rfl,#[4],#[4],λ_ _ _ _ _=>?_))
def DP (ps:List D):Prop:=∃(cs:List Int) (at_ num:Int),ps=[.lst (cs.map .int),.int at_,.int num]/\0<=at_/\0<=num/\cs.length<=63
def IB:BSp:=λp s t=>DP p/\∃m:Int,s=[.int m]/\1<=m/\m<=100000000000000000000000000000000000000000000000000000000000/\∀r ps',DP ps' -> 0<=r->r<m->t (.int r) ps'
abbrev LendQ (f:BSp) (i:Nat) (P:D->AM->Prop):List D->AM->Prop:=λds J1=>∃y ps,J1[i]?=some y/\y.od=some (.lst ps)/\f ps ds λd ps'=>P d (J1.set i<|y.put (.lst ps'))
theorem E8 (j:J[i]?=some x) (ho:x.od=some od) (h:JA K ta J (LendQ f i P)):JE K (tCall (spB K f) [] E<|tCons (tVar i) ta) J P:=R7 j ho h
theorem Jd {J1:AM}{i:Nat}{y:Slot}{ps:List D}{m:Int}{P:D->AM->Prop}(q:J1[i]?=some y) (ho:y.od=some (.lst ps)) (j:DP ps) (h1:1<=m) (h2:m<=100000000000000000000000000000000000000000000000000000000000) (h:∀r ps',DP ps' -> 0<=r->r<m->P (.int r) (J1.set i<|y.put (.lst ps'))) :
  LendQ IB i P [.int m] J1:=(y,ps,q,ho,j,m,rfl,h1,h2,h)
theorem Gi {K:W.Frag}{J:AM}{E:XK}{i:Nat}{y:Slot}{ps:List D}{m:Int}{P:D->AM->Prop}(j:J[i]?=some y) (ho:y.od=some (.lst ps)) (q:DP ps) (h1:1<=m) (h2:m<=100000000000000000000000000000000000000000000000000000000000) (h:∀r ps',DP ps' -> 0<=r->r<m->P (.int r) (J.set i<|y.put (.lst ps'))) :
  JE K (tCall (spB K IB) [] E<|tCons (tVar i)<|tCons (tC (.int m)) tNil) J P:=E8 j ho<|AF<|Aa<|AI<|Jd j ho q h1 h2 h
#check 2
theorem UL (B:Mb mg) (F:BE K "_law_draw" "_law_draw" Mu f fd):FnOk P w K mg base CX0 1 f fd ["_law_pen_here","_law_many"] (spB K IB):=by
 refine F.ok GJ (Jc λp d o h=>by obtain⟨_,m,rfl,_⟩:=h;rfl) λv A r s H V Q E R h=>?_;have U:=Bb R;refine(_,(AR (CF (BW F7 (Ag (ixK K U) (pv 0) AG λ_ _=>rfl) AG<|nomark _) (AR (Aj (i:=2) GJ.nd rfl (Or.inl rfl)<|Ae Dj (Ag (ixK K U) (pv 0) AG λ_ _=>rfl)<|pv 1)<|AR (DI (Ae Nn (Ag (ixK K U) (pv 0) AG λ_ _=>rfl)<|pv 1)<|E7 (pv 0) AG<|setU U)<|AY<|BF<|pv 2) CM)<|AR (Aj (i:=3) GJ.nd rfl (Or.inl rfl)<|Ag (ixK K U) (pv 0) AG λ_ _=>rfl)<|AR (DI (Ae (addK K) (pv 3) AG)<|E7 (pv 0) AG<|setU U)<|AR (Aj (i:=4) GJ.nd rfl (Or.inl rfl) AG)<|AR (CF (BW F7 (A0 (lenK K) rfl (B "len" #[0]) Bi<|AA (Ag (ixK K U) (pv 0) AG λ_ _=>rfl) AE) AG<|nomark _) (AY<|Aj (i:=4) GJ.nd rfl (Or.inl rfl)<|Ag (ixK K U) (Ag (ixK K U) (pv 0) AG λ_ _=>rfl) (Ae Dj (pv 3)<|A0 (lenK K) rfl (B "len" #[0]) Bi<|AA (Ag (ixK K U) (pv 0) AG λ_ _=>rfl) AE) λ_ _=>rfl) CM)<|AR (CF (PW.pt<|pw_and (BW Ov (pv 3) (A0 (lenK K) rfl (B "len" #[0]) Bi<|AA (Ag (ixK K U) (pv 0) AG λ_ _=>rfl) AE)<|nomark _)<|pw_and1<|BW V0 (A0 Nm rfl (B "abs" #[0]) OJ<|AA (pv 4) AE) (Ae Vw AG AG)<|nomark _) (AR (DI (Ae Nn (A0 Nm rfl (B "abs" #[0]) OJ<|AA (pv 4) AE)<|pv 1)<|E7 (pv 0) AG<|setU U)<|AY<|BF<|Ae Dj (A0 Nm rfl (B "abs" #[0]) OJ<|AA (pv 4) AE)<|pv 1) CM)<|AR (Aj (i:=5) GJ.nd rfl (Or.inl rfl)<|Ae Dj (Ae DO (Ae (addK K) (Ae (addK K) (Ae Dj (pv 4) AG)<|Ae DO AG<|pv 3) AG) AG) AG)<|AR (Aj (i:=5) GJ.nd rfl (Or.inl rfl)<|Ae Dj (Ae (addK K) (Ae (addK K) (Ae DO (pv 5)<|pv 5)<|Ae DO AG<|pv 5)<|pv 3) AG)<|AY<|BF<|Ae Dj (Ae Nn (Ae Dj (Ae DO (pv 5) AG) AG) AG)<|pv 1),Jv (λp d o k=>?_) h);obtain⟨⟨S,t,u,rfl,e,b,a⟩,m,rfl,n,x,q⟩:=k;refine(#[3],?_);dsimp only[cxOf,startD,BZ,A7,BP,Az];refine Bh (λJ=>¬ 0<u /\ J = [.bor (.lst [.lst (S.map .int),.int t,.int u]),.val (.int m),.any,.any,.any,.any]) ?_ ?_
 ·repeat walk_at "js"
  refine ite2 (λc=>?_) λc=>?_
  ·have c:=of_decide_eq_true c
   repeat walk_at "js"
   exact q _ _ (S,t,u / m,rfl,e,Int.ediv_nonneg b #[2],a) (IL _ #[2]) (IU _ #[4])
  ·repeat walk_at "js"
   exact(of_decide_eq_false<|FH.mpr c,rfl)
 rintro j ⟨N,rfl⟩
 repeat walk_at "js"
 refine Bh (λJ=>∃c:Int,J = [.bor (.lst [.lst (S.map .int),.int (t+1),.int u]),.val (.int m),.any,.val (.int t),.val (.int c),.any]) ?_ ?_
 ·repeat walk_at "js"
  refine ite2 (λc=>?_) λc=>?_
  ·have c:=of_decide_eq_true c
   rw[AJ]at c
   repeat walk_at "js"
   rw[AJ]
   repeat walk_at "js"
   obtain⟨l,_,C⟩:=Zz3 (f:=D.int) (xs:=S) (i:=t % (S.length:Int)) (IL _ #[2]) (IU _ #[4]);refine DW C ?_;exact(l,rfl)
  ·repeat walk_at "js"
   exact(11,rfl)
 rintro j ⟨l,rfl⟩;refine Bh (λJ=>J = [.bor (.lst [.lst (S.map .int),.int (t+1),.int u]),.val (.int m),.any,.val (.int t),.val (.int l),.any]) ?_ ?_
 ·repeat walk_at "js"
  refine ite2 (λc=>?_) λc=>?_
  ·repeat walk_at "js"
   refine ite2 (λc=>?_) λc=>?_
   ·repeat walk_at "js"
    have g:0<=(if l<0 then -l else l):=by split <;> omega
    exact q _ _ (S,t+1,_,rfl,#[2],Int.ediv_nonneg g #[2],a) (IL _ #[2]) (IU _ #[2])
   ·repeat walk_at "js"
    rfl
  ·repeat walk_at "js"
   rfl
 rintro j rfl
 repeat walk_at "js"
 exact q _ _ (S,t+1,u,rfl,#[2],b,a) (IL _ #[4]) (IU _ #[4])
end
def fPen:NSp:=λs t=>∃ns:List Int,s=[.scr (ns.map .int)]/\ns.length<=63/\∀ps,DP ps->t ps
#check 2
theorem VI (B:Mb mg) (F:BE K "_law_pen" "_law_pen" Kl f fd):FnOk P w K mg base CX0 1 f fd ["_law_script"] (spN K fPen):=by
 refine F.ok T6 (GY λS t h=>by obtain⟨n,rfl,_⟩:=h;rfl) λv A r s H V Q E R h=>?_;have u:=Bb R;refine(_,(AY<|BF<|CG<|AA (Du ["_law_cell"] (show CompSc (defScope Kl) ["_law_script"] _ [] [] from (rfl,#[1],#[1],#[1],rfl,#[1])) rfl (seqK K<|FV (slK K) (pv 0) E3<|FU AG) (λ_ _ _ _ _=>(Ao (i:=0) (show List.Nodup (["_law_cell"]:List Str) from #[0]) rfl<|Or.inl rfl)) (λ_ _ _ _ _=>EG) λ_ _ _ _ _=>(pv 0))<|AA AG<|AA AG AE),Gn (λS t g=>?_) h);obtain⟨n,rfl,a,q⟩:=g;refine(#[3],?_);dsimp only[cxOf,startD,BZ,A7,BP,Az];refine F4<|Fb<|AF<|Dx #[0]<|Cn ?_
 repeat walk_at "js"
 have e:cutD (n.map D.int) none (some 63)=n.map D.int:=by
  unfold cutD;have b:HT.sIx (n.map D.int).length 0 none=0:=rfl;have c:HT.sIx (n.map D.int).length (n.map D.int).length (some 63)=n.length:=by
   rw[AJ];show min (Int.toNat 63) n.length=_;lia
  rw[b,c,List.drop_zero,Ic,IG #[3]]
 rw[e];refine(_,Or.inl rfl,by rw[AJ];exact FG a #[0],λ_=>true,λd=>d,λi d j=>?_,?_)
 ·repeat walk_at "js"
  exact(rfl,AD rfl (rfl,_,rfl))
 ·repeat walk_at "js"
  refine(by show 3<=sizeLine;decide,_,rfl,q _ (n,0,0,?_,#[0],#[0],a));simp
end
def BY (t:Int × Int):D:=.tup [.int t.1,.int t.2]
def Am (n:Int) (ts:AQ):D:=.tup [.int n,.tup (ts.map BY)]
structure Af (n:Int) (ts:AQ):Prop where
 lo:1<=n
 hi:n<=25
 len:ts.length<=24
 tie:∀t∈ts,0<=t.1/\t.1<n/\0<=t.2/\t.2<n
theorem E5:2<=sizeLine:=#[0]
theorem Th (j:J[i]?=some (.val (.int v))) (h1:v=c->P true J) (h2:¬ v=c->P false J):JT K (tTest<|tOp rEq (tVar i)<|tC (.int c)) J P:=
 Ba (AO (AD j (Aa (Co ⟨_,rfl,by
  by_cases h:v=c
  ·rw[BD h];exact h1 h
  ·rw[BI h];exact h2 h⟩))))
def Al (ts:AQ) (e:Nat):Int:=match ts[e / 2]? with
 |some t=>if e % 2=0 then t.1 else t.2
 |none=>-1
def AX (r:List Int):D:=.tup<|r.map .int
def BL (o:Ak):D:=.tup<|o.map AX
def Cb (ts:AQ) (m:Nat) (p:Int):List Int:=((AV m).filter λe=>decide (Al ts e=p)).map λe:Nat=>(e:Int)
structure Dn (ts:AQ) (m:Nat) (p:Int) (r:List Int):Prop where
 perm:r.Perm (Cb ts m p)
 first:r.head?=(Cb ts m p).head?
structure BG (n:Int) (ts:AQ) (o:Ak):Prop where
 len:(o.length:Int)=n
 row:∀(p:Nat) r,o[p]?=some r->Dn ts (2*ts.length) (p:Int) r
theorem PH (ts:AQ) (m:Nat) (p:Int):(Cb ts m p).length<=m:=by
 unfold Cb;rw[AJ];exact Bg (MH _ _) (by rw[Bt];exact AU _)
theorem Dn.len (h:Dn ts m p r):r.length<=m:=by rw[h.perm.length_eq];exact PH ts m p
theorem Tn {ts:AQ}{k:Nat}(h:k<2*ts.length):∃t,ts[k / 2]?=some t/\atI (ts.map BY) ((0+(k:Int)) / 2)=some (BY t)/\atI [D.int t.1,D.int t.2] ((0+(k:Int)) % 2)=some (.int<|Al ts k):=by
 have K:k / 2<ts.length:=#[2]
 refine(ts[k / 2],AZ K,?_,?_)
 ·have e:(0+(k:Int)) / 2=((k / 2:Nat):Int):=by lia
  rw[e];exact Ck (by rw[Ad,AZ K];rfl)
 ·have E:Al ts k=if k % 2=0 then ts[k / 2].1 else ts[k / 2].2:=by
   unfold Al;rw[AZ K]
  rw[E];have e:(0+(k:Int)) % 2=((k % 2:Nat):Int):=#[2]
  rw[e];by_cases h0:k % 2=0
  ·rw[AN h0,h0];exact Ck rfl
  ·have H:k % 2=1:=by lia
   rw[AK h0,H];exact Ck rfl
theorem HX (hW:Af n ts) (h:k<2*ts.length):0<=Al ts k/\Al ts k<n:=by
 have K:k / 2<ts.length:=#[4]
 have:=hW.tie _<|B6 K;unfold Al;rw[AZ K];dsimp only;split <;> omega
def D0 (r:List Int) (x:Int):Int:=r.getD ((r.idxOf x+1) % r.length) 0
def DC (r:List Int):AQ:=(AV r.length).map λk=>(r.getD ((k+r.length-1) % r.length) 0,r.getD k 0)
def BM (ts:AQ) (o:Ak) (e:Nat):List Int:=o.getD (Al ts e).toNat []
def DK (r:List Int):List Int:=r.take 1++(r.drop 1).reverse
def partner (e:Nat):Nat:=if e % 2=0 then e+1 else e-1
theorem DH (h:e<2*m):partner e<2*m:=by unfold partner;split <;> omega
theorem WZ:x∈Cb ts m p ↔ ∃e:Nat,e<m/\Al ts e=p/\(e:Int)=x:=by
 unfold Cb;rw[A6];constructor
 ·rintro⟨e,h,rfl⟩
  rw[CB,BB]at h;exact(e,h.1,of_decide_eq_true h.2,rfl)
 ·rintro⟨e,H,a,rfl⟩
  exact(e,by rw[CB,BB];exact(H,BD a),rfl)
theorem M4 (ts:AQ) (m:Nat) (p:Int):(Cb ts m p).Nodup:=by
 unfold Cb;refine List.Pairwise.map _ (λa b h=>?_)<|List.Pairwise.filter _ IX;intro e;exact h #[2]
theorem Dn.nodup (h:Dn ts m p r):r.Nodup:=h.perm.nodup_iff.mpr<|M4 ts m p
theorem Dn.mem (h:Dn ts m p r):x∈r ↔ ∃e:Nat,e<m/\Al ts e=p/\(e:Int)=x:=h.perm.mem_iff.trans WZ
theorem Dn.turn (h:Dn ts m p r):Dn ts m p (DK r):=by
 refine(List.Perm.trans ?_ h.perm,?_)
 ·unfold DK
  exact(List.Perm.append_left _<|List.reverse_perm _).trans (by rw[GC])
 ·rw[<- h.first]
  unfold DK;cases r with
  |nil=>rfl
  |cons x r=>rfl
theorem BG.turn (h:BG n ts o):BG n ts (o.map DK):=by
 refine(by rw[AJ];exact h.len,λp r R=>?_);rw[Ad]at R;cases q:o[p]? with
 |none=>exists 0,q,R
 |some r'=>exists 0,q,R;exact(h.row p r' q).turn
theorem D9 {n:Int}{ts:AQ}{o:Ak}(hW:Af n ts) (hO:BG n ts o) {e:Nat}(j:e<2*ts.length) :
  o[(Al ts e).toNat]?=some (BM ts o e)/\Dn ts (2*ts.length) (Al ts e) (BM ts o e)/\(e:Int)∈BM ts o e:=by
 obtain⟨p,P⟩:=HX hW j;have l:=hO.len;have k:(Al ts e).toNat<o.length:=#[2]
 have q:o[(Al ts e).toNat]?=some (BM ts o e):=by
  unfold BM;rw[AZ k,Av,AZ k];rfl
 have r:=hO.row _ _ q;rw[show ((Al ts e).toNat:Int)=Al ts e by lia]at r;exact(q,r,r.mem.mpr (e,j,rfl,rfl))
theorem BG.flat (h:BG n ts o):o.flatten.Nodup:=by
 unfold List.Nodup;rw[List.pairwise_flatten];refine(λr R=>?_,?_)
 ·obtain⟨p,P,e⟩:=IQ.mp R
  exact(h.row p r<|by rw[AZ P,e]).nodup
 ·rw[IH]
  intro i j hi hj hij x hx y hy hxy;subst hxy;obtain⟨e,_,E,a⟩:=(h.row i _<|AZ hi).mem.mp hx;obtain⟨f,_,F,b⟩:=(h.row j _<|AZ hj).mem.mp hy;have:e=f:=#[2]
  subst this;lia
theorem HV {r:List Int}(h:x∈r):r.idxOf x<r.length/\r[r.idxOf x]?=some x/\∀m,m<r.idxOf x->r[m]?≠some x:=by
 have l:=List.idxOf_lt_length_of_mem h;refine(l,?_,λm M e=>?_)
 ·rw[AZ l,List.getElem_idxOf l]
 ·obtain⟨a,H⟩:=BQ.mp e
  have:=List.not_of_lt_findIdx (p:=(· == x)) (xs:=r) M;rw[H]at this;simp at this
theorem PL (r:List Int):(DC r).length=r.length:=by simp[DC]
theorem PC (h:k<r.length):(DC r)[k]?=some (r.getD ((k+r.length-1) % r.length) 0,r.getD k 0):=by
 unfold DC;rw[Ad,Ek h];rfl
theorem Zrm (h:x∈r):(x,D0 r x)∈DC r:=by
 obtain⟨H,a,_⟩:=HV h;have s:0<r.length:=#[2]
 have m:(r.idxOf x+1) % r.length<r.length:=Ea _ s;refine Be (i:=(r.idxOf x+1) % r.length) ?_;rw[PC m];congr 1;have e:((r.idxOf x+1) % r.length+r.length-1) % r.length=r.idxOf x:=by
  by_cases hl:r.idxOf x+1=r.length
  ·rw[hl,Nat.mod_self,HD,Eo #[4]];lia
  ·rw[Eo (by lia:r.idxOf x+1<r.length),show r.idxOf x+1+r.length-1=r.idxOf x+r.length by lia,Kb,Eo H]
 rw[e,Av,a];rfl
theorem O4 (h:y∈DC r):y.1∈r:=by
 unfold DC at h;obtain⟨k,K,rfl⟩:=A6.mp h;rw[BB]at K;have:(k+r.length-1) % r.length<r.length:=Ea _ #[2];dsimp only;rw[Av,AZ this];exact B6 this
theorem WS (h:r.Nodup):((DC r).map (·.1)).Nodup:=by
 unfold DC;rw[BS];unfold List.Nodup;rw[ET,IH];intro i j hi hj hij;rw[Bt]at hi hj;rw[Gu,Gu];have H:(i+r.length-1) % r.length<r.length:=Ea _ #[2];have a:(j+r.length-1) % r.length<r.length:=Ea _ #[4];show r.getD ((i+r.length-1) % r.length) 0≠r.getD ((j+r.length-1) % r.length) 0;rw[Av,Av,AZ H,AZ a];intro e;have E:=(HA h).mp (show r[(i+r.length-1) % r.length]=r[(j+r.length-1) % r.length] from e);have f:(i+r.length-1) % r.length=if i=0 then r.length-1 else i-1:=by
  split
  ·subst_vars;rw[HD,Eo #[2]]
  ·rw[show i+r.length-1=(i-1)+r.length by lia,Kb,Eo #[2]]
 have F:(j+r.length-1) % r.length=j-1:=by
  rw[show j+r.length-1=(j-1)+r.length by lia,Kb,Eo #[2]]
 rw[f,F]at E;split at E <;> lia
def DR (y:Int × Int):AS × D:=(.inl y.1,.int y.2)
theorem Zz0 (h:x ∉ l.map (·.1)):putD (l.map DR) (.inl x) (.int y)=(l++[(x,y)]).map DR:=by
 unfold putD;rw[AK,BA]
 ·rfl
 ·rw[KO,MD]
  rintro⟨z,Z,e⟩;have e:(Sum.inl z.1:AS)=Sum.inl x:=of_decide_eq_true e;injection e with e
  exact h<|A6.mpr (z,Z,e)
theorem TQ {l:AQ}(j:(l.map (·.1)).Nodup) (h:(x,y)∈l):valD (l.map DR) (.inl x)=some (.int y):=by
 induction l with
 |nil=>cases h
 |cons z r ih=>
  rw[Bz,DS]at j;rw[Bz];unfold valD;rcases A5.mp h with e|h
  ·subst e
   rw[MF (by simp[DR])];rfl
  ·have n:z.1≠x:=λe=>j.1 (by rw[e];exact A6.mpr (_,h,rfl))
   rw[MG (by simp[DR];exact λe=>n e)];exact ih j.2 h
theorem Zp4 {o:Ak}(h:x∈(o.flatMap DC).map (·.1)):x∈o.flatten:=by
 obtain⟨y,Y,rfl⟩:=A6.mp h;obtain⟨r,R,Y⟩:=EV.mp Y;exact MB.mpr (r,R,O4 Y)
theorem M6:∀{o:Ak},o.flatten.Nodup->((o.flatMap DC).map (·.1)).Nodup
 |[],_=>GH
 |r::o,h=>by
  rw[MA,Fp]at h;rw[DL,BA,Fp];refine(WS h.1,M6 h.2.1,λa A b B=>?_);obtain⟨y,Y,rfl⟩:=A6.mp A;exact h.2.2 _ (O4 Y) _<|Zp4 B
theorem Vh (k:Nat):k ||| 1=2*(k / 2)+1:=by
 apply Nat.eq_of_testBit_eq;intro i;rw[Nat.testBit_or];cases i with
 |zero=>rw[Nat.testBit_zero,Nat.testBit_zero,Nat.testBit_zero];simp
 |succ i=>
  rw[Nat.testBit_succ,Nat.testBit_succ,Nat.testBit_succ,show (2*(k / 2)+1) / 2=k / 2 by lia];simp
theorem Ld (k:Nat):Builtin.bitXor (k:Int) 1=(partner k:Int):=by
 have e:Builtin.bitAnd (k:Int) 1=((k % 2:Nat):Int):=by
  unfold Builtin.bitAnd;rw[BD (show (0:Int)<=(k:Int) by lia),BD (show (0:Int)<=1 by decide)];show ((((k:Int).toNat &&& (1:Int).toNat:Nat)):Int)=_;rw[BO,show (1:Int).toNat=1 from rfl,Nat.and_one_is_mod]
 have E:Builtin.bitOr (k:Int) 1=((2*(k / 2)+1:Nat):Int):=by
  unfold Builtin.bitOr Builtin.bitAnd;rw[BI (show ¬ (0:Int)<=Builtin.bitNot (k:Int) by unfold Builtin.bitNot;lia),BI (show ¬ (0:Int)<=Builtin.bitNot 1 by decide)];show Builtin.bitNot (Builtin.bitNot (((Builtin.bitNot<|Builtin.bitNot (k:Int)).toNat ||| (Builtin.bitNot<|Builtin.bitNot 1).toNat:Nat):Int))=_;have n:∀x:Int,Builtin.bitNot (Builtin.bitNot x)=x:=λx=>by unfold Builtin.bitNot;lia
  rw[n,n,n,BO,show (1:Int).toNat=1 from rfl,Vh]
 unfold Builtin.bitXor;rw[e,E];unfold partner;split <;> lia
theorem Fz {α:Type}[DecidableEq α]:∀{l m:List α},l.Nodup->(∀x∈l,x∈m)->l.length<=m.length
 |[],_,_,_=>Bp _
 |x::l,m,nd,h=>by
  rw[DS]at nd;have X:=h x B5;have:=Fz (l:=l) (m:=m.erase x) nd.2 λy Y=>by
   have n:y≠x:=λe=>nd.1 (e ▸ Y);exact(KL n).mpr (h y<|Bl _ Y)
  rw[Gw X]at this;have s:0<m.length:=Gx X;rw[BH];lia
theorem BG.flat_len (h:BG n ts o):o.flatten.length<=2*ts.length:=by
 have:=Fz (m:=(AV (2*ts.length)).map λe:Nat=>(e:Int)) h.flat λx X=>by
  obtain⟨r,R,X⟩:=MB.mp X;obtain⟨p,P,e⟩:=IQ.mp R;obtain⟨k,K,_,rfl⟩:=(h.row p r<|by rw[AZ P,e]).mem.mp X;exact A6.mpr (k,BB.mpr K,rfl)
 rw[AJ,Bt]at this;exact this
theorem Uk (hW:Af n ts) (hO:BG n ts o) (j:e<2*ts.length):valD ((o.flatMap DC).map DR) (.inl (e:Int))=some (.int<|D0 (BM ts o e) e):=by
 obtain⟨g,a,G⟩:=D9 hW hO j;exact TQ (M6 hO.flat)<|EV.mpr (_,Be g,Zrm G)
theorem Wn (ts:AQ) (m:Nat) (p:Int):(Cb ts m p).Pairwise (· < ·):=by
 unfold Cb;refine List.Pairwise.map _ (λa b h=>?_)<|List.Pairwise.filter _ D5;lia
theorem Dn.least (h:Dn ts m p (x::r)):∀a∈r,x<=a:=by
 intro a ha;have H:=h.first;have b:=Wn ts m p;have c:a∈Cb ts m p:=h.perm.mem_iff.mp<|Bl _ ha;cases q:Cb ts m p with
 |nil=>exists 0,q,H
 |cons y l=>
  rw[q]at H b c;have e:x=y:=CL.inj H;subst e;rcases A5.mp c with z|z
  ·lia
  ·have:=(KC.mp b).1 a z;lia
theorem RI:∀(l:List Int),l≠[]->∃m,m∈l/\∀a∈l,m<=a
 |[],h=>absurd rfl h
 |[x],_=>(x,B5,λa A=>by rw[CK.mp A];exact Int.le_refl _)
 |x::y::l,_=>by
  obtain⟨m,b,H⟩:=RI (y::l) #[3];by_cases h:x<=m
  ·refine(x,B5,λa A=>?_)
   rcases A5.mp A with z|z
   ·lia
   ·have:=H a z;lia
  ·refine(m,Bl _ b,λa A=>?_)
   rcases A5.mp A with z|z
   ·lia
   ·exact H a z
theorem Tt {l:List Int}(q:l.Nodup) (h:l[j]?=some x):l.idxOf x=j:=by
 obtain⟨a,H⟩:=BQ.mp h;obtain⟨b,i,_⟩:=HV (r:=l) (x:=x) (by rw[<- H];exact B6 a);obtain⟨c,I⟩:=BQ.mp i;exact(HA q).mp (I.trans H.symm)
theorem Zvn (r:List Int):(DK r).length=r.length:=by
 cases r with
 |nil=>rfl
 |cons x t=>show (x::t.reverse).length=_;rw[BH,Jy];rfl
def nxI (n k:Nat):Nat:=if k+1=n then 0 else k+1
def pvI (n k:Nat):Nat:=if k=0 then n-1 else k-1
def ngI (n k:Nat):Nat:=if k=0 then 0 else n-k
theorem Zyq (h:k<n):(k+1) % n=nxI n k:=by
 unfold nxI;split
 ·rename_i e;rw[e,Nat.mod_self]
 ·rw[Eo #[2]]
theorem N8 (r:List Int) (h:k<r.length):(DK r)[k]?=r[ngI r.length k]?:=by
 cases r with
 |nil=>simp at h
 |cons x t=>
  unfold ngI;cases k with
  |zero=>rfl
  |succ k=>
   show (x::t.reverse)[k+1]?=_;rw[BH]at h ⊢;rw[AK #[2],IC,List.getElem?_reverse #[2],show t.length+1-(k+1)=(t.length-1-k)+1 by lia,IC]
def Fi (r:List Int) (x:Int):Int:=r.getD (pvI r.length<|r.idxOf x) 0
theorem HP (j:r.Nodup) (h:r[k]?=some x):D0 r x=r.getD (nxI r.length k) 0:=by
 unfold D0;rw[Tt j h,Zyq (BQ.mp h).1]
theorem NQ (j:r.Nodup) (h:r[k]?=some x):Fi r x=r.getD (pvI r.length k) 0:=by
 unfold Fi;rw[Tt j h]
theorem Pm (j:r.Nodup):(DK r).Nodup:=by
 have p:(DK r).Perm r:=by
  unfold DK;exact(List.Perm.append_left _<|List.reverse_perm _).trans (by rw[GC])
 exact p.nodup_iff.mpr j
theorem Zsy (j:r.Nodup) (h:x∈r):D0 (DK r) x=Fi r x/\Fi (DK r) x=D0 r x:=by
 obtain⟨k,K⟩:=IM.mp h;have l:=(BQ.mp K).1;have H:(DK r)[ngI r.length k]?=some x:=by
  rw[N8 r (by unfold ngI;split <;> lia),<- K]
  congr 1;unfold ngI;split <;> split <;> lia
 rw[HP j K,NQ j K,HP (Pm j) H,NQ (Pm j) H,Zvn];rw[Av,Av,Av,Av,N8 r (by unfold ngI nxI;split <;> split <;> lia),N8 r (by unfold ngI pvI;split <;> split <;> omega)]
 constructor
 ·congr 2
  unfold ngI nxI pvI;repeat' split
  all_goals lia
 ·congr 2
  unfold ngI nxI pvI;repeat' split
  all_goals lia
theorem SN {r:List Int}(j:k<r.length):atI (r.map D.int) ((k:Int)-1)=some (.int<|r.getD (pvI r.length k) 0):=by
 unfold pvI;by_cases h0:k=0
 ·subst h0
  rw[AN rfl];obtain⟨R,y,rfl⟩:∃R y,r=R++[y]:=(r.dropLast,r.getLast (by intro z;subst z;simp at j),(List.dropLast_concat_getLast _).symm);show atI ((R++[y]).map D.int) (-1)=_;rw[BA,List.map_singleton,Zv9];simp
 ·rw[AK h0,show (k:Int)-1=((k-1:Nat):Int) by lia]
  exact Ck (by rw[Ad,Av,AZ (by omega:k-1<r.length)];rfl)
theorem Nc (ds:List D) (h:j<=ds.length):cutD ds (some (j:Int)) none=ds.drop j:=by
 unfold cutD;rw[HT.sIx_nat,HT.sIx_none,IJ h,IG (by rw[Dd];exact AU _)]
theorem UJ (ds:List D) (h:j<=ds.length):cutD ds none (some (j:Int))=ds.take j:=by
 unfold cutD;rw[HT.sIx_nat,HT.sIx_none,IJ h,List.drop_zero,Ic]
#check 2
def H0:DSp:=λs t=>∃n ts,∃e:Nat,s=[Am n ts,.int e]/\e<2*ts.length/\t (.int<|Al ts e)
def Ca (ts:AQ) (o:Ak) (e:Nat):Int:=D0 (BM ts o e) e
def fFol:DSp:=λs t=>∃n ts o,∃e:Nat,s=[Am n ts,BL o,.int e]/\Af n ts/\BG n ts o/\e<2*ts.length/\t (.int<|Ca ts o e)
def fPart:DSp:=λs t=>∃e:Nat,s=[.int e]/\t (.int<|partner e)
theorem Zw8 (B:Mb mg) (F:BE K "place_of" "place_of" Mc f fd):FnOk P w K mg base CX0 1 f fd ["web","end"] (spD K H0):=by
 refine F.ok Tw (B2 λS o h=>#[6]) λv A r s H V Q E R h=>?_;have u:=Bb R;refine(_,(AY<|BF<|Ag (ixK K u) (Ag (ixK K u) (Ag (ixK K u) (pv 0) AG λ_ _=>rfl) (Ae GZ (pv 1) AG) λ_ _=>rfl) (Ae Dj (pv 1) AG) λ_ _=>rfl),B3 (λS o g=>?_) h);obtain⟨n,T,e,rfl,c,q⟩:=g;refine(#[3],?_);dsimp only[startD,BZ,A7,BP];obtain⟨t,i,a,b⟩:=Tn c;rw[B0]at a b;refine Bk<|AO<|AO<|AO<|AD rfl<|Aa<|Bc (d:=.tup<|T.map BY) rfl ?_;refine AO<|AD rfl<|Aa<|jr_I (#[2],#[2])<|Bc a ?_;exact AO<|AD rfl<|Aa<|jr_I (by show (0:Int)<2;omega)<|Bc b q
theorem Wx (L:Mb mg) (B:Callee P w K mg base 1 "place_of" ["web","end"] (spD K H0)) (F:BE K "follower" "follower" Me f fd):FnOk P w K mg base CX0 2 f fd ["web","order","end"] (spD K fFol):=by
 refine F.ok Ol (B2 λS T h=>#[11]) λv A r s H V Q E R h=>?_;have u:=Bb R;refine(_,(AR (Aj (i:=3) Ol.nd rfl (Or.inl rfl)<|Ag (ixK K u) (pv 1) (An B (R.mono #[0])<|AA (pv 0)<|AA (pv 2) AE) λ_ _=>rfl)<|AY<|BF<|Ag (ixK K u) (pv 3) (Ae Dj (Ae (addK K) (bmK K PySem.F.plainAttrs_tuple PySem.F.slot_tuple_index PySem.F.type_tuple_index (idxK K) (pv 3)<|AA (pv 2) AE) AG)<|A0 (lenK K) rfl (L "len" #[0]) Bi<|AA (pv 3) AE) λ_ _=>rfl),B3 (λS T j=>?_) h);obtain⟨n,t,o,e,rfl,W,O,b,q⟩:=j;refine(#[3],?_);dsimp only[startD,BZ,A7,BP];obtain⟨g,l,G⟩:=D9 W O b;obtain⟨y,z⟩:=HX W b;obtain⟨x,I,k⟩:=HV G;have a:atI (o.map AX) (Al t e)=some (AX<|BM t o e):=by
  have p:Al t e=(((Al t e).toNat:Nat):Int):=#[2]
  rw[p];exact Ck (by rw[Ad,g];rfl)
 refine Ac<|Aw<|AO<|AD rfl<|BU<|AF<|AD rfl<|AF<|AD rfl<|AI (n,t,e,rfl,b,Bc a ?_);refine Bk<|AO<|AD rfl<|AO<|AO<|Ni<|AD rfl (BM t o e,rfl,AD rfl (e,(BM t o e).idxOf (e:Int),rfl,I,k,?_));refine Aa<|EB ?_;refine A3<|AF<|AD rfl<|AI<|B7 (Or.inr rfl) ?_;rw[AJ];refine jr_I (by show (0:Int)<_;lia) ?_;have c:(((BM t o e).idxOf (e:Int):Int)+1) % ((BM t o e).length:Int)=((((BM t o e).idxOf (e:Int)+1) % (BM t o e).length:Nat):Int):=by push_cast;rfl
 rw[c];have m:((BM t o e).idxOf (e:Int)+1) % (BM t o e).length<(BM t o e).length:=Ea _ #[2];refine Bc (d:=.int<|Ca t o e) (Ck ?_) q;rw[Ad,AZ m];unfold Ca D0;rw[Av,AZ m];rfl
theorem Zp2 (B:Mb mg) (F:BE K "_law_partner" "_law_partner" MU f fd):FnOk P w K mg base CX0 1 f fd ["_law_end"] (spD K fPart):=by
 refine F.ok T8 (B2 λd t h=>by obtain⟨_,rfl,_⟩:=h;rfl) λv A r s H S Q E R h=>?_;have u:=Bb R;refine(_,(AY<|BF<|Ae Di (Ae (addK K) (pv 0) AG)<|Ae DO AG<|Ae Dj (pv 0) AG),B3 (λd t b=>?_) h);obtain⟨e,rfl,q⟩:=b;refine(#[3],?_);dsimp only[startD,BZ,A7,BP]
 repeat walk_at "js"
 have a:(e:Int)+1-2*((e:Int) % 2)=(partner e:Int):=by unfold partner;split <;> lia
 rw[a];exact q
def fFore:DSp:=λs t=>∃n ts o,∃e:Nat,s=[Am n ts,BL o,.int e]/\Af n ts/\BG n ts o/\e<2*ts.length/\t (.int<|Fi (BM ts o e) e)
theorem Wb (B:Mb mg) (z:Callee P w K mg base 1 "place_of" ["web","end"] (spD K H0)) (F:BE K "forerunner" "forerunner" Mf f fd):FnOk P w K mg base CX0 2 f fd ["web","order","end"] (spD K fFore):=by
 refine F.ok Om (B2 λd T h=>#[11]) λv A r s H S Q E R h=>?_;have u:=Bb R;refine(_,(AR (Aj (i:=3) Om.nd rfl (Or.inl rfl)<|Ag (ixK K u) (pv 1) (An z (R.mono #[0])<|AA (pv 0)<|AA (pv 2) AE) λ_ _=>rfl)<|AY<|BF<|Ag (ixK K u) (pv 3) (Ae Di (bmK K PySem.F.plainAttrs_tuple PySem.F.slot_tuple_index PySem.F.type_tuple_index (idxK K) (pv 3)<|AA (pv 2) AE) AG) λ_ _=>rfl),B3 (λd T c=>?_) h);obtain⟨n,t,o,e,rfl,W,O,b,q⟩:=c;refine(#[3],?_);dsimp only[startD,BZ,A7,BP];obtain⟨g,l,G⟩:=D9 W O b;obtain⟨m,x⟩:=HX W b;obtain⟨I,j,k⟩:=HV G;have a:atI (o.map AX) (Al t e)=some (AX<|BM t o e):=by
  have p:Al t e=(((Al t e).toNat:Nat):Int):=#[4]
  rw[p];exact Ck (by rw[Ad,g];rfl)
 refine Ac<|Aw<|AO<|AD rfl<|BU<|AF<|AD rfl<|AF<|AD rfl<|AI (n,t,e,rfl,b,Bc a ?_);refine Bk<|AO<|AD rfl<|AO<|Ni<|AD rfl (BM t o e,rfl,AD rfl (e,(BM t o e).idxOf (e:Int),rfl,j,k,?_));exact Aa<|DA<|Bc (SN I) q
end
def Lv:Nat->D->Prop
 |0,_=>False
 |_+1,.int _=>True
 |m+1,.lst ds=>ds.length<=1000/\∀d∈ds,Lv m d
 |m+1,.tup ds=>ds.length<=1000/\∀d∈ds,Lv m d
 |_,_=>False
def Hy (m:Nat):DSp:=λs t=>∃d,s=[d,d]/\Lv m d/\t (.bl true)
#check 2
theorem DJ:2<=sizeLine:=#[0]
theorem RY (ds:List D):(((ds.zip ds).map λp=>D.tup [p.1,p.2]).filter λ_=>true).map (λ_=>D.bl true)=(Az ds.length true).map D.bl:=by
 rw[D6.mpr #[3],List.map_const',MM,AJ,Kd,Nat.min_self]
theorem Qx (n:Nat):(Az n true).all id=true:=by
 rw[EX];intro x hx;rw[(MK.mp hx).2];rfl
theorem QH {ds:List D}{i:Nat}(j:((ds.zip ds).map λp=>D.tup [p.1,p.2])[i]?=some d):∃e,e∈ds/\d=.tup [e,e]:=by
 rw[Ad]at j;cases z:(ds.zip ds)[i]? with
 |none=>exists 0,z,j
 |some pr=>
  rw[z]at j;have j:D.tup [pr.1,pr.2]=d:=by simpa using j
  rw[II]at z;have e:pr.1=pr.2:=CL.inj<|z.1.symm.trans z.2;exact(pr.1,Be z.1,by rw[<- j,<- e])
theorem Zwz (B:Mb mg) (j:Callee P w K mg base m "_law_same" ["_law_found","_law_due"] (spD K<|Hy m)) (F:BE K "_law_same" "_law_same" Ii f fd):FnOk P w K mg base CX0 (m+1) f fd ["_law_found","_law_due"] (spD K<|Hy<|m+1):=by
 refine F.ok T9 (B2 λS t h=>by obtain⟨_,rfl,_⟩:=h;rfl) λv A r s H V Q E R h=>?_;have u:=Bb R;refine(_,(AR (CF (truK K (A0 (isiUK K) rfl (B "isinstance" #[0]) Ew<|AA (pv 1)<|AA (Ab<|AA (EC rfl (B "list" #[0]) He (show RelV (.ty "list") _ from rfl))<|AA (EC rfl (B "tuple" #[0]) Ey (show RelV (.ty "tuple") _ from rfl)) AE) AE) λ_=>rfl) (AR (CF (PW.pt<|pw_or (Jm<|truK K (A0 (isiUK K) rfl (B "isinstance" #[0]) Ew<|AA (pv 0)<|AA (Ab<|AA (EC rfl (B "list" #[0]) He (show RelV (.ty "list") _ from rfl))<|AA (EC rfl (B "tuple" #[0]) Ey (show RelV (.ty "tuple") _ from rfl)) AE) AE) λ_=>rfl)<|pw_or1<|BW Ho (A0 (isiUK K) rfl (B "isinstance" #[0]) Ew<|AA (pv 0)<|AA (EC rfl (B "list" #[0]) He (show RelV (.ty "list") _ from rfl)) AE) (A0 (isiUK K) rfl (B "isinstance" #[0]) Ew<|AA (pv 1)<|AA (EC rfl (B "list" #[0]) He (show RelV (.ty "list") _ from rfl)) AE)<|nomark _) (AY<|BF Gh) CM)<|AR (CF (BW Ho (A0 (lenK K) rfl (B "len" #[0]) Bi<|AA (pv 0) AE) (A0 (lenK K) rfl (B "len" #[0]) Bi<|AA (pv 1) AE)<|nomark _) (AY<|BF Gh) CM)<|AY<|BF<|A0 (allK K rfl) rfl (B "all" #[0]) Vo<|AA (Du ["_law_one","_law_other"] (show CompSc (defScope Ii) ["_law_found","_law_due"] _ [] [] from (rfl,#[1],#[1],#[1],rfl,#[1])) rfl (VS K rfl (B "zip" #[0])<|AA (pv 0)<|AA (pv 1) AE) (λ_ _ _ _ _=>(gtupK (n:=2) K rfl<|B8 (Ao (i:=0) (show List.Nodup (["_law_one","_law_other"]:List Str) from #[0]) rfl<|Or.inl rfl)<|B8 (Ao (i:=1) (show List.Nodup (["_law_one","_law_other"]:List Str) from #[0]) rfl<|Or.inl rfl) Dy)) (λ_ _ _ _ _=>EG) λ_ _ _ _ _=>(An j (R.mono (by first|decide|lia))<|AA (pv 0)<|AA (pv 1) AE)) AE) CM)<|AR (CF (PW.pt<|pw_or (BW Ho (A0 (isiUK K) rfl (B "isinstance" #[0]) Ew<|AA (pv 0)<|AA (EC rfl (B "bool" #[0]) SK (show RelV (.ty "bool") _ from rfl)) AE) (A0 (isiUK K) rfl (B "isinstance" #[0]) Ew<|AA (pv 1)<|AA (EC rfl (B "bool" #[0]) SK (show RelV (.ty "bool") _ from rfl)) AE)<|nomark _)<|pw_or1<|BW Ho (A0 (isiUK K) rfl (B "isinstance" #[0]) Ew<|AA (pv 0)<|AA (EC rfl (B "str" #[0]) TY (show RelV (.ty "str") _ from rfl)) AE) (A0 (isiUK K) rfl (B "isinstance" #[0]) Ew<|AA (pv 1)<|AA (EC rfl (B "str" #[0]) TY (show RelV (.ty "str") _ from rfl)) AE)<|nomark _) (AY<|BF Gh) CM)<|AY<|BF<|VF (GW CY (A0 (isiUK K) rfl (B "isinstance" #[0]) Ew<|AA (pv 0)<|AA (EC rfl (B "int" #[0]) Lj (show RelV (.ty "int") _ from rfl)) AE) (A0 (isiUK K) rfl (B "isinstance" #[0]) Ew<|AA (pv 1)<|AA (EC rfl (B "int" #[0]) Lj (show RelV (.ty "int") _ from rfl)) AE)<|nomark _)<|VV<|GW CY (pv 0) (pv 1)<|nomark _),B3 (λS t g=>?_) h);obtain⟨d,rfl,D,q⟩:=g;refine(#[3],?_);dsimp only[startD,BZ,A7,BP];cases d with
 |int i=>
  refine Ac<|CD<|Dg<|A3<|AF<|AD rfl<|AF<|BJ<|AF<|CZ<|AF<|CZ<|AI (DJ,?_);refine AI<|Jj (ns:=["list","tuple"]) (T:="int") (b:=false) rfl (λ_=>by rfl) (_,rfl,iteF<|CN ?_);refine Ac<|CD<|Jt<|Ba<|AO<|A3<|AF<|AD rfl<|AF<|CZ<|AI<|Ez (T:="int") (b:=false) rfl (λ_=>by rfl) ?_;refine A3<|AF<|AD rfl<|AF<|CZ<|AI<|Ez (T:="int") (b:=false) rfl (λ_=>by rfl)<|Lm (_,rfl,iteF ?_);refine Ba<|AO<|A3<|AF<|AD rfl<|AF<|CZ<|AI<|Ez (T:="int") (b:=false) rfl (λ_=>by rfl) ?_;refine A3<|AF<|AD rfl<|AF<|CZ<|AI<|Ez (T:="int") (b:=false) rfl (λ_=>by rfl)<|Lm (_,rfl,iteF<|CN ?_);refine Bk<|SV<|AO<|A3<|AF<|AD rfl<|AF<|CZ<|AI<|Ez (T:="int") (b:=true) rfl (λ_=>by rfl) ?_;refine A3<|AF<|AD rfl<|AF<|CZ<|AI<|Ez (T:="int") (b:=true) rfl (λ_=>by rfl)<|OI (_,rfl,iteT ?_);refine AO<|AD rfl<|AD rfl<|Co ?_;rw[BD rfl];exact q
 |lst S=>
  obtain⟨l,D⟩:=D;refine Ac<|CD<|Dg<|A3<|AF<|AD rfl<|AF<|BJ<|AF<|CZ<|AF<|CZ<|AI (DJ,?_);refine AI<|Jj (ns:=["list","tuple"]) (T:="list") (b:=true) rfl (λ_=>by rfl) (_,rfl,iteT ?_);refine Ac<|CD<|Jt<|Gg<|Dg<|A3<|AF<|AD rfl<|AF<|BJ<|AF<|CZ<|AF<|CZ<|AI (DJ,?_);refine AI<|Jj (ns:=["list","tuple"]) (T:="list") (b:=true) rfl (λ_=>by rfl) (_,rfl,iteF ?_);refine Ba<|AO<|A3<|AF<|AD rfl<|AF<|CZ<|AI<|Ez (T:="list") (b:=true) rfl (λ_=>by rfl) ?_;refine A3<|AF<|AD rfl<|AF<|CZ<|AI<|Ez (T:="list") (b:=true) rfl (λ_=>by rfl)<|Lm (_,rfl,iteF<|CN ?_);refine Ac<|CD<|Ba<|AO<|A3<|AF<|AD rfl<|AI<|B7 (Or.inl rfl)<|A3<|AF<|AD rfl<|AI<|B7 (Or.inl rfl)<|Hu (_,rfl,?_);rw[BD rfl];refine iteF<|CN<|Bk<|A3<|AF<|Q3 #[0]<|Vf<|AF<|AD rfl<|AF<|AD rfl<|AI (S,S,rfl,rfl,?_,λ_=>true,λ_=>.bl true,λi d a=>?_,?_)
  ·rw[AJ,Kd];exact small1000 #[2]
  ·obtain⟨e,c,rfl⟩:=QH a
   exact(_,_,rfl,Dz (rfl,BU<|AF<|AD rfl<|AF<|AD rfl<|AI (e,rfl,D _ c,rfl,_,_,rfl)))
  ·refine AI ?_
   rw[RY];refine Tr ?_;rw[Qx];exact q
 |tup S=>
  obtain⟨l,D⟩:=D;refine Ac<|CD<|Dg<|A3<|AF<|AD rfl<|AF<|BJ<|AF<|CZ<|AF<|CZ<|AI (DJ,?_);refine AI<|Jj (ns:=["list","tuple"]) (T:="tuple") (b:=true) rfl (λ_=>by rfl) (_,rfl,iteT ?_);refine Ac<|CD<|Jt<|Gg<|Dg<|A3<|AF<|AD rfl<|AF<|BJ<|AF<|CZ<|AF<|CZ<|AI (DJ,?_);refine AI<|Jj (ns:=["list","tuple"]) (T:="tuple") (b:=true) rfl (λ_=>by rfl) (_,rfl,iteF ?_);refine Ba<|AO<|A3<|AF<|AD rfl<|AF<|CZ<|AI<|Ez (T:="tuple") (b:=false) rfl (λ_=>by rfl) ?_;refine A3<|AF<|AD rfl<|AF<|CZ<|AI<|Ez (T:="tuple") (b:=false) rfl (λ_=>by rfl)<|Lm (_,rfl,iteF<|CN ?_);refine Ac<|CD<|Ba<|AO<|A3<|AF<|AD rfl<|AI<|B7 (Or.inr rfl)<|A3<|AF<|AD rfl<|AI<|B7 (Or.inr rfl)<|Hu (_,rfl,?_);rw[BD rfl];refine iteF<|CN<|Bk<|A3<|AF<|Q3 #[0]<|Zzt<|AF<|AD rfl<|AF<|AD rfl<|AI (S,S,rfl,rfl,?_,λ_=>true,λ_=>.bl true,λi d a=>?_,?_)
  ·rw[AJ,Kd];exact small1000 #[4]
  ·obtain⟨e,c,rfl⟩:=QH a
   exact(_,_,rfl,Dz (rfl,BU<|AF<|AD rfl<|AF<|AD rfl<|AI (e,rfl,D _ c,rfl,_,_,rfl)))
  ·refine AI ?_
   rw[RY];refine Tr ?_;rw[Qx];exact q
 |_=>exact D.elim
theorem Si (B:Mb mg) (F:BE K "_law_same" "_law_same" Ii f fd) (b:Binds K fd ["_law_found","_law_due"] []) (j:W.keepIn K (.ref f)=true) (hm:mg "_law_same" = some (.ref f)):∀m:Nat,FnOk P w K mg base CX0 m f fd ["_law_found","_law_due"] (spD K<|Hy m)
 |0=>by
  have o:∀v H Q E,¬ spD K (Hy 0) v H Q E:=λv H Q E (_,_,_,_,_,(_,_,hd,_),_)=>hd;exact(λv H Q E h=>absurd h<|o v H Q E,λA r s H g u v Q E _ _ _ _ h=>absurd h<|o v H Q E)
 |m+1=>Zwz B ⟨(f,fd,Si B F b j hm m,b,j,hm)⟩ F
end
def iter (f:Int->Int) (e:Int):Nat->Int
 |0=>e
 |n+1=>f (iter f e n)
def Bs (f:Int->Int) (e:Int) (n:Nat):List Int:=(AV n).map (iter f e)
structure Cr (f:Int->Int) (m:Nat):Prop where
 to:∀x,0<=x->x<(m:Int)->0<=f x/\f x<(m:Int)
 inj:∀x y,0<=x->x<(m:Int)->0<=y->y<(m:Int)->f x=f y->x=y
def NdTo (f:Int->Int) (e:Int) (n:Nat):Prop:=∀i j,i<n->j<n->iter f e i=iter f e j->i=j
structure Dl (f:Int->Int) (e:Int) (n:Nat):Prop where
 pos:0<n
 back:iter f e n=e
 nd:NdTo f e n
theorem LQ (f:Int->Int) (e:Int) (j n:Nat):iter f (iter f e j) n=iter f e (j+n):=by
 induction n with
 |zero=>rfl
 |succ n ih=>show f (iter f (iter f e j) n)=f (iter f e (j+n));rw[ih]
theorem Iz (f:Int->Int) (e:Int) (n:Nat):(Bs f e n).length=n:=by unfold Bs;rw[AJ,Bt]
theorem QP (f:Int->Int) (e:Int) (a b:Nat):Bs f e (a+b)=Bs f e a++Bs f (iter f e a) b:=by
 unfold Bs;rw[List.range_add,BA,BS];congr 1;apply DU;intro i _;exact(LQ f e a i).symm
theorem NK (f:Int->Int) (e:Int) (n:Nat):Bs f e (n+1)=Bs f e n++[iter f e n]:=by rw[QP];rfl
theorem B1:x∈Bs f e n ↔ ∃i,i<n/\iter f e i=x:=by
 unfold Bs;rw[A6];constructor
 ·rintro⟨i,h,rfl⟩;exact(i,BB.mp h,rfl)
 ·rintro⟨i,h,rfl⟩;exact(i,BB.mpr h,rfl)
theorem Dl.uniq (h:Dl f e n) (h':Dl f e k):n=k:=by
 rcases Ka n k with z|z|z
 ·have:=h'.nd n 0 z h'.pos (by rw[h.back];rfl)
  have:=h.pos;lia
 ·exact z
 ·have:=h.nd k 0 z h.pos (by rw[h'.back];rfl)
  have:=h'.pos;lia
noncomputable def per (f:Int->Int) (e:Int):Nat:=Classical.epsilon<|Dl f e
noncomputable def orb (f:Int->Int) (e:Int):List Int:=Bs f e<|per f e
theorem Dl.per (h:Dl f e n):Lw.per f e=n:=(Classical.epsilon_spec (p:=Dl f e) (n,h)).uniq h
theorem Dl.orb (h:Dl f e n):Lw.orb f e=Bs f e n:=by unfold Lw.orb;rw[h.per]
section
variable {f:Int->Int}{m:Nat}(F:Cr f m) {e:Int}(h0:0<=e) (h1:e<(m:Int))
include F h0 h1
theorem DG (n:Nat):0<=iter f e n/\iter f e n<(m:Int):=by
 induction n with
 |zero=>exact(h0,h1)
 |succ n ih=>exact F.to _ ih.1 ih.2
theorem Le {n:Nat}(L:1<=n) (B:NdTo f e n) (z:iter f e n≠e):NdTo f e (n+1):=by
 have y:∀j,j<n->iter f e n≠iter f e j:=by
  intro j hj q;cases j with
  |zero=>exact z q
  |succ j=>
   obtain⟨k,rfl⟩:∃k,n=k+1:=(n-1,#[2]);have a:=DG F h0 h1 k;have b:=DG F h0 h1 j;have:=B k j #[2] #[2]<|F.inj _ _ a.1 a.2 b.1 b.2 q;lia
 intro i j hi hj q;by_cases hin:i=n
 ·by_cases hjn:j=n
  ·lia
  ·subst hin;exact absurd q (y j #[2])
 ·by_cases hjn:j=n
  ·subst hjn;exact absurd q.symm (y i #[2])
  ·exact B i j #[2] #[2] q
theorem Gj {n:Nat}(z:NdTo f e n):n<=m:=by
 have N:(Bs f e n).Nodup:=by
  unfold Bs List.Nodup;rw[ET,IH];intro i j h hj hij;rw[Bt]at h hj;rw[Gu,Gu];intro q;have:=z i j h hj q;lia
 have:=Fz (m:=(AV m).map λe:Nat=>(e:Int)) N λx X=>by
  obtain⟨i,h,rfl⟩:=B1.mp X;have:=DG F h0 h1 i;exact A6.mpr ((iter f e i).toNat,BB.mpr #[2],#[2])
 rw[Iz,AJ,Bt]at this;exact this
theorem OG:NdTo f e 1:=λi j h J _=>#[2]
theorem Us:∃n,Dl f e n:=by
 apply Classical.byContradiction;intro hn;have l:∀n,NdTo f e (n+1):=by
  intro n
  induction n with
  |zero=>exact OG F h0 h1
  |succ n ih=>
   refine Le F h0 h1 #[2] ih λq=>hn (n+1,#[2],q,ih)
 have:=Gj F h0 h1<|l m;lia
theorem Fd:Dl f e (per f e):=by
 obtain⟨n,h⟩:=Us F h0 h1;rw[h.per];exact h
theorem Ee:e∈orb f e:=B1.mpr (0,(Fd F h0 h1).pos,rfl)
theorem Uj:(orb f e).length<=m:=by
 unfold orb;rw[Iz];exact Gj F h0 h1 (Fd F h0 h1).nd
theorem Ci (k:Nat):iter f e k∈orb f e:=by
 have O:=Fd F h0 h1
 induction k with
 |zero=>exact Ee F h0 h1
 |succ k ih=>
  obtain⟨i,h,q⟩:=B1.mp ih;show f (iter f e k)∈_;rw[<- q];by_cases hl:i+1=per f e
  ·have:f (iter f e i)=e:=by
    have:=O.back;rw[<- hl]at this;exact this
   rw[this];exact Ee F h0 h1
  ·exact B1.mpr (i+1,#[2],rfl)
theorem Fe {x:Int}(j:x∈orb f e):0<=x/\x<(m:Int):=by
 obtain⟨i,_,rfl⟩:=B1.mp j;exact DG F h0 h1 i
theorem FQ {x:Int}(q:x∈orb f e):e∈orb f x:=by
 have O:=Fd F h0 h1;obtain⟨j,h,rfl⟩:=B1.mp q;have a:=DG F h0 h1 j;have:=Ci F a.1 a.2<|per f e-j;rw[LQ,show j+(per f e-j)=per f e by lia,O.back]at this;exact this
theorem F0 {x y:Int}(q:x∈orb f e) (Y:y∈orb f x):y∈orb f e:=by
 obtain⟨j,_,rfl⟩:=B1.mp q;obtain⟨i,_,rfl⟩:=B1.mp Y;rw[LQ];exact Ci F h0 h1 _
theorem Rt:∃l,orb f e=e::l:=by
 have O:=Fd F h0 h1;unfold orb;obtain⟨n,h⟩:∃n,per f e=1+n:=(per f e-1,by have:=O.pos;lia);rw[h,QP];exact(_,rfl)
end
open Classical in
noncomputable def BX (f:Int->Int) (e:Nat):Bool:=decide (∀x∈orb f (e:Int),(e:Int)<=x)
noncomputable def Oj (f:Int->Int) (k:Nat):Ak:=((AV k).filter (BX f)).map λe:Nat=>orb f (e:Int)
section
variable {f:Int->Int}{m:Nat}(F:Cr f m)
include F
theorem Zt0 {x:Int}(h0:0<=x) (h1:x<(m:Int)):∃e:Nat,e<m/\BX f e=true/\(e:Int)∈orb f x/\∀r∈Oj f m,x∈r↔r=orb f (e:Int):=by
 obtain⟨y,Y,h⟩:=RI (orb f x) (by obtain⟨l,e⟩:=Rt F h0 h1;rw[e];simp);have r:=Fe F h0 h1 Y;have E:((y.toNat:Nat):Int)=y:=#[2]
 have L:BX f y.toNat=true:=by
  unfold BX;rw[decide_eq_true_iff,E];exact λz Z=>h z<|F0 F h0 h1 Y Z
 refine(y.toNat,#[2],L,by rw[E];exact Y,λq Q=>?_);unfold Oj at Q;obtain⟨e,H,rfl⟩:=A6.mp Q;rw[CB,BB]at H;rw[E];constructor
 ·intro hx
  have c:y∈orb f (e:Int):=F0 F #[2] #[2] hx Y;have d:(e:Int)∈orb f x:=FQ F #[4] #[4] hx;have a:=h _ d;have b:(e:Int)<=y:=by
   have:=H.2;unfold BX at this;exact of_decide_eq_true this y c
  rw[show (e:Int)=y by lia]
 ·intro q
  rw[q];exact FQ F h0 h1 Y
end
theorem Zu3 (h:x∈r):D0 r x∈r:=by
 obtain⟨H,_,_⟩:=HV h;have m:(r.idxOf x+1) % r.length<r.length:=Ea _ #[4];unfold D0;rw[Av,AZ m];exact B6 m
theorem Zw9 (q:r.Nodup) (z:x∈r) (Y:y∈r) (h:D0 r x=D0 r y):x=y:=by
 obtain⟨i,I⟩:=IM.mp z;obtain⟨j,J⟩:=IM.mp Y;obtain⟨c,d⟩:=BQ.mp I;obtain⟨f,g⟩:=BQ.mp J;rw[HP q I,HP q J,Av,Av]at h;have a:nxI r.length i<r.length:=by unfold nxI;split <;> lia
 have b:nxI r.length j<r.length:=by unfold nxI;split <;> lia
 rw[AZ a,AZ b]at h;have e:=(HA q).mp (show r[nxI r.length i]=r[nxI r.length j] from h);have:i=j:=by unfold nxI at e;split at e <;> split at e <;> lia
 subst this;rw[I]at J;exact CL.inj J
theorem Df (e:Nat):partner (partner e)=e:=by unfold partner;split <;> split <;> lia
def onI (ts:AQ) (o:Ak) (x:Int):Int:=Ca ts o<|partner x.toNat
theorem Gd (hW:Af n ts) (hO:BG n ts o) (j:e<2*ts.length):∃g:Nat,g<2*ts.length/\Al ts g=Al ts e/\(g:Int)=Ca ts o e:=by
 obtain⟨b,G,a⟩:=D9 hW hO j;exact G.mem.mp<|Zu3 a
theorem Tp (hW:Af n ts) (hO:BG n ts o):Cr (onI ts o) (2*ts.length):=by
 refine(λx H b=>?_,λx y H b l m q=>?_)
 ·obtain⟨g,G,_,e⟩:=Gd hW hO (DH (show x.toNat<2*ts.length by lia))
  unfold onI;rw[<- e];lia
 ·have h:=DH (show x.toNat<2*ts.length by lia)
  have Y:=DH (show y.toNat<2*ts.length by lia);obtain⟨g,G,P,i⟩:=Gd hW hO h;obtain⟨k,s,c,j⟩:=Gd hW hO Y;unfold onI at q;have K:g=k:=#[2]
  subst K;have p:Al ts (partner x.toNat)=Al ts (partner y.toNat):=P.symm.trans c;obtain⟨_,d,f⟩:=D9 hW hO h;obtain⟨_,_,r⟩:=D9 hW hO Y;have R:BM ts o (partner y.toNat)=BM ts o (partner x.toNat):=by unfold BM;rw[p]
  unfold Ca at q;rw[R]at q r;have:=Zw9 d.nodup f r q;have E:partner x.toNat=partner y.toNat:=#[2]
  have a:=congrArg partner E;rw[Df,Df]at a;lia
def lone (o:Ak):Nat:=(o.filter λr=>r.isEmpty).length
theorem Nv (o:Ak):lone o<=o.length:=MH _ _
theorem Zr1 (o:Ak) (p:D->Bool) (q:∀r:List Int,p (rowD r)=r.isEmpty) (g:D->D) (j:∀d,g d=.tup []):((o.map rowD).filter p).map g=(Az (lone o) ([]:List Int)).map rowD:=by
 unfold lone
 induction o with
 |nil=>rfl
 |cons r o ih=>
  rw[Bz,DV,DV,q];cases h:r.isEmpty with
  |true=>simp only[if_true];rw[Bz,BH,List.replicate_succ,Bz,ih,j];rfl
  |false=>simp only[Bu,if_false];exact ih
theorem BG.flat_eq (hW:Af n ts) (h:BG n ts o):o.flatten.length=2*ts.length:=by
 have d:=h.flat_len;have H:=Fz (l:=(AV (2*ts.length)).map λe:Nat=>(e:Int)) (m:=o.flatten) ?_ λx X=>by
  obtain⟨e,E,rfl⟩:=A6.mp X;rw[BB]at E;obtain⟨g,c,G⟩:=D9 hW h E;exact MB.mpr (_,Be g,G)
 ·rw[AJ,Bt]at H;lia
 ·refine List.Pairwise.map _ (λa b q=>?_) IX
  intro e;exact q #[2]
def loI (a b:Int):Int:=if b<a then b else a
def hiI (a b:Int):Int:=if b > a then b else a
def Cd (l:List Int) (a b:Int):List Int:=l.map λf=>if f=hiI (l.getD a.toNat 0) (l.getD b.toNat 0) then loI (l.getD a.toNat 0) (l.getD b.toNat 0) else f
def AW (n:Nat) (ts:AQ):List Int:=ts.foldl (λl t=>Cd l t.1 t.2) ((AV n).map λi:Nat=>(i:Int))
theorem PY (l:List Int) (a b:Int):(Cd l a b).length=l.length:=by unfold Cd;rw[AJ]
theorem Cy (n:Nat) (ts:AQ):(AW n ts).length=n:=by
 unfold AW;have:∀(ts:AQ) (l:List Int),(ts.foldl (λl t=>Cd l t.1 t.2) l).length=l.length:=by
  intro ts
  induction ts with
  |nil=>intro l;rfl
  |cons t ts ih=>intro l;rw[List.foldl_cons,ih,PY]
 rw[this,AJ,Bt]
theorem Fx {ts:AQ}(h:ts[i]?=some t):AW n (ts.take<|i+1)=Cd (AW n<|ts.take i) t.1 t.2:=by
 unfold AW;rw[Cu,h,KY];rfl
def BK (ms l:List Int):Prop:=ms.Pairwise (· < ·)/\∀x,x∈ms↔x∈l
theorem Iq:∀{ms ms':List Int},ms.Pairwise (· < ·)->ms'.Pairwise (· < ·)->(∀x,x∈ms↔x∈ms')->ms=ms'
 |[],[],_,_,_=>rfl
 |[],y::l',_,_,h=>by have:=(h y).mpr #[3];simp at this
 |x::l,[],_,_,h=>by have:=(h x).mp #[3];simp at this
 |x::l,y::l',h1,h2,h=>by
  rw[KC]at h1 h2;have e:x=y:=by
   have a:=(h x).mp #[3];have b:=(h y).mpr #[3];rcases A5.mp a with z|z
   ·exact z
   ·rcases A5.mp b with Z|Z
    ·exact Z.symm
    ·have:=h1.1 _ Z
     have:=h2.1 _ z;lia
  subst e;rw[Iq h1.2 h2.2 λz=>?_];constructor
  ·intro hz
   have:=h1.1 _ hz;rcases A5.mp ((h z).mp (Bl _ hz)) with q|q
   ·lia
   ·exact q
  ·intro hz
   have:=h2.1 _ hz;rcases A5.mp ((h z).mpr (Bl _ hz)) with q|q
   ·omega
   ·exact q
theorem BK.uniq (h:BK ms l) (h':BK ms' l):ms=ms':=Iq h.1 h'.1 λx=>(h.2 x).trans (h'.2 x).symm
theorem GK:∀{ms l:List Int},ms.Nodup->(∀x∈ms,x∈l)->ms.length<=l.length
 |[],_,_,_=>#[3]
 |x::ms,l,h1,h2=>by
  rw[DS]at h1;have h:=h2 x #[3];have:=GK (ms:=ms) (l:=l.erase x) h1.2 λy Y=>(KL λz:y=x=>h1.1 (z ▸ Y)).mpr (h2 y (by simp[Y]));rw[Gw h]at this;have:=Gx h;rw[BH];lia
theorem BK.len (h:BK ms l):ms.length<=l.length:=GK (h.1.imp λz=>Kg z) λx X=>(h.2 x).mp X
def DD (l:List Int) (n:Nat) (f:Int):List Int:=((AV n).map λi:Nat=>(i:Int)).filter λp=>decide (l.getD p.toNat 0=f)
def lstI (r:List Int):D:=.lst<|r.map .int
def DB (n:Nat) (ts:AQ) (ms:List Int):Ak:=ms.map<|DD (AW n ts) n
def Jw:NSp:=λs t=>∃n ts,s=[Am n ts]/\Af n ts/\∀ms,BK ms (AW n.toNat ts)->t ((DB n.toNat ts ms).map lstI)
theorem TH (l:List Int) (n:Nat) (f:Int) (p:D->Bool) (z:∀i:Int,p (.int i)=decide (l.getD i.toNat 0=f)) (g:D->D) (j:∀d,g d=d):D.lst (((rngD 0 n).filter p).map g)=lstI (DD l n f):=by
 have e:rngD 0 n=((AV n).map λi:Nat=>(i:Int)).map D.int:=by
  unfold rngD;rw[BS];apply DU;intro i _;show D.int (0+(i:Int))=D.int (i:Int);rw[B0]
 unfold lstI DD;rw[e,GG,show g=id from funext j,Ie];have E:(p∘D.int)=λq:Int=>decide (l.getD q.toNat 0=f):=funext z;rw[E]
theorem Zyv {l ms:List Int}(q:D->Bool) (z:∀d,q d=true) (g:D->D) (j:∀f:Int,g (.int f)=lstI (DD l n f)):((ms.map D.int).filter q).map g=(ms.map<|DD l n).map lstI:=by
 rw[D6.mpr (λd _=>z d),BS,BS];apply DU;intro f _;exact j f
#check 2
theorem F1 {l:List Int}(L:l.length=n) (h0:0<=x) (h1:x<(n:Int)):atI (l.map D.int) x=some (.int<|l.getD x.toNat 0):=by
 rw[show x=((x.toNat:Nat):Int) by lia];refine Ck ?_;rw[Ad,Av,BO,AZ (by lia:x.toNat<l.length)];rfl
theorem XC (mb:Mb mg) (F:BE K "parts_of" "parts_of" HE f fd):FnOk P w K mg base CX0 1 f fd ["web"] (spN K Jw):=by
 refine F.ok FI (GY λC o h=>#[8]) λV A r s H vs Q E R h=>?_;have u:=Bb R;have hv:=Ff R;refine(_,(AR (DI (pv 0)<|gtupK (n:=2) K rfl<|B8 (Ao (i:=1) FI.nd rfl<|Or.inr rfl)<|B8 (Ao (i:=2) FI.nd rfl<|Or.inl rfl) Dy)<|AR (Aj (i:=3) FI.nd rfl (Or.inr rfl)<|PD rfl rfl (mb "list" #[0]) rfl (mb "range" #[0])<|AA (pv 1) AE)<|AR (Bv PassesOwn.never rfl (seqK K<|pv 2) (gtupK (n:=2) K rfl<|B8 (Ao (i:=4) FI.nd rfl<|Or.inl rfl)<|B8 (Ao (i:=5) FI.nd rfl<|Or.inl rfl) Dy)<|AR (Aj (i:=6) FI.nd rfl (Or.inr rfl)<|A0 (P5 rfl) rfl (mb "min" #[0]) Tc<|AA (Ag (ixK K u) (pv 3) (pv 4) λ_ _=>rfl)<|AA (Ag (ixK K u) (pv 3) (pv 5) λ_ _=>rfl) AE)<|AR (Aj (i:=7) FI.nd rfl (Or.inr rfl)<|A0 (Qf rfl) rfl (mb "max" #[0]) TR<|AA (Ag (ixK K u) (pv 3) (pv 4) λ_ _=>rfl)<|AA (Ag (ixK K u) (pv 3) (pv 5) λ_ _=>rfl) AE)<|AY<|Aj (i:=3) FI.nd rfl (Or.inr rfl)<|Du ["first"] (show CompSc (defScope HE) ["web","many","ties","firsts","a","b","low","high"] _ ["low","high"] [6,7] from (rfl,#[1],#[1],#[1],rfl,#[1])) rfl (seqK K<|pv 3) (λ_ _ _ _ _=>(Ao (i:=0) (show List.Nodup (["first","low","high"]:List Str) from #[0]) rfl<|Or.inl rfl)) (λ_ _ _ _ _=>EG) λ_ _ _ _ _=>(Ng (BW CY (pv 0) (pv 2)<|nomark _) (pv 1)<|pv 0))<|AY<|BF<|Ztg ["first"] (show CompScK (defScope HE) ["web","many","ties","firsts","a","b","low","high"] "first" _ ["many","firsts"] [1,3] from (rfl,#[1],#[1],#[1],#[1],rfl,#[1])) rfl (seqK K<|Pu rfl rfl rfl (mb "sorted" #[0]) rfl (mb "set" #[0])<|AA (pv 3) AE) (λ_ _ _ _ _=>(Ao (i:=0) (show List.Nodup (["first","many","firsts"]:List Str) from #[0]) rfl<|Or.inr rfl)) (λ_ _ _ _ _=>EG) λ_ _ _ _ _=>(Du ["place"] (show CompSc (relab (defScope HE) _) ["first","many","firsts"] _ ["first","firsts"] [0,2] from (rfl,#[1],#[1],#[1],rfl,#[1])) rfl (CP rfl (mb "range" #[0])<|AA (pv 1) AE) (λ_ _ _ _ _=>(Ao (i:=0) (show List.Nodup (["place","first","firsts"]:List Str) from #[0]) rfl<|Or.inl rfl)) (λ_ _ _ _ _=>(F2<|BW CY (Ag (ixK K u) (pv 2) (pv 0) λ_ _=>rfl) (pv 1)<|nomark _)) λ_ _ _ _ _=>(pv 0))),Gn (λC o U=>?_) h);obtain⟨n,S,rfl,W,q⟩:=U;sleep 0;have Y:=W.lo;have Z:=W.hi;have a0:=W.len;obtain⟨N,rfl⟩:∃N:Nat,n=(N:Int):=(n.toNat,#[2]);rw[BO]at q;refine Ac<|Gf<|AD rfl<|EH rfl<|CH<|A8<|CH<|A8<|ED ?_;refine Ac<|Aw<|Cz<|Oz<|AF<|AD rfl<|AI (N,rfl,#[2],_,rfl,?_);have G:(AV N).map (λi:Nat=>D.int (i:Int))=(AW N<|S.take 0).map D.int:=by
  show _=((AV N).map λi:Nat=>(i:Int)).map D.int;rw[BS];rfl
 rw[G];refine Bh (λJ=>∃(x X b c:L2.Slot),J = [.val (Am (N:Int) S),.val (.int (N:Int)),.val (.tup<|S.map BY),.val (.lst ((AW N S).map D.int)),x,X,b,c]) ?_ ?_
 ·refine Bx (FW<|AD rfl (_,rfl,λi J=>∃(x X b c:L2.Slot),J = [.val (Am (N:Int) S),.val (.int (N:Int)),.val (.tup<|S.map BY),.val (.lst ((AW N<|S.take i).map D.int)),x,X,b,c],(_,_,_,_,rfl),?_,?_))
  ·rintro i d B a ⟨x,X,b,c,rfl⟩
   rw[Ad]at a;cases z:S[i]? with
   |none=>exists 0,z,a
   |some t=>
    rw[z]at a;have a:BY t=d:=by simpa using a
    subst a;have T:=W.tie t<|Be z;have L:=Cy N<|S.take i;have m:=Fx (n:=N) z;obtain⟨l,O⟩:∃l,AW N (S.take i)=l:=(_,rfl);rw[O]at L m ⊢;have e:=F1 L T.1 T.2.1;have k:=F1 L T.2.2.1 T.2.2.2;refine EH rfl<|CH<|A8<|CH<|A8<|ED ?_;refine Ac<|Aw<|A3<|AF<|AO<|AD rfl<|AD rfl<|DW e<|AF<|AO<|AD rfl<|AD rfl<|DW k<|AI<|Jk ?_;refine Ac<|Aw<|A3<|AF<|AO<|AD rfl<|AD rfl<|DW e<|AF<|AO<|AD rfl<|AD rfl<|DW k<|AI<|Jk ?_;refine Aw<|Dx #[0]<|Cn<|AD rfl (_,Or.inl rfl,?_,λ_=>true,λd=>match d with|.int g=>.int (if g=hiI (l.getD t.1.toNat 0) (l.getD t.2.toNat 0) then loI (l.getD t.1.toNat 0) (l.getD t.2.toNat 0) else g)|d=>d,λj d a=>?_,?_)
    ·rw[AJ];exact small1000 #[2]
    ·rw[Ad]at a
     cases zz:l[j]? with
     |none=>exists 0,zz,a
     |some g=>
      rw[zz]at a;have a:D.int g=d:=by simpa using a
      subst a;refine Dz (rfl,Nq<|Ba<|AO<|AD rfl<|AD rfl<|Co (_,rfl,?_));show if decide (g=hiI (l.getD t.1.toNat 0) (l.getD t.2.toNat 0))=true then _ else _
      by_cases hg:g=hiI (l.getD t.1.toNat 0) (l.getD t.2.toNat 0)
      ·rw[BD hg]
       refine iteT<|AD rfl (?_,_,rfl);dsimp only;rw[AN hg];rfl
      ·rw[BI hg]
       refine iteF<|AD rfl (?_,_,rfl);dsimp only;rw[AK hg]
    ·have I:((l.map D.int).filter λ_=>true).map (λd=>match d with|.int g=>D.int (if g=hiI (l.getD t.1.toNat 0) (l.getD t.2.toNat 0) then loI (l.getD t.1.toNat 0) (l.getD t.2.toNat 0) else g)|d=>d)=(AW N<|S.take<|i+1).map D.int:=by
      rw[m,D6.mpr #[3],BS];unfold Cd;rw[BS];rfl
     rw[I];exact(_,_,_,_,rfl)
  ·rintro B ⟨x,X,b,c,rfl⟩
   rw[AJ,Bm];exact(_,_,_,_,rfl)
 rintro J1 ⟨x,X,b,c,rfl⟩;have L:=Cy N S;refine F4<|Hc #[0]<|Cn<|Cz<|Ow<|AF<|AD rfl<|AI (_,rfl,#[2],λy M v=>(_,rfl,_,Or.inl rfl,?_,λ_=>true,λd=>match d with|.int g=>lstI (DD (AW N S) N g)|d=>d,λi d a=>?_,?_))
 ·have:=BK.len (M,v)
  rw[AJ];exact small1000 #[2]
 ·rw[Ad]at a
  cases zz:y[i]? with
  |none=>exists 0,zz,a
  |some g=>
   rw[zz]at a;have a:D.int g=d:=by simpa using a
   subst a;refine Dz (rfl,Dx #[0]<|CQ<|AF<|AD rfl<|AI (_,rfl,#[2],#[2],?_,λd=>match d with|.int p=>decide ((AW N S).getD p.toNat 0=g)|_=>false,λd=>d,λj d a=>?_,?_))
   ·rw[CC];exact small1000 #[2]
   ·obtain⟨hj,rfl⟩:=B9 a
    refine Ba<|AO<|AO<|AD rfl<|AD rfl<|DW (F1 L #[2] #[2])<|AD rfl<|Co (_,rfl,rfl,?_);split
    ·exact AD rfl (rfl,_,rfl)
    ·exact(_,rfl)
   ·refine(?_,_,rfl)
    rw[BO];exact TH _ _ _ _ (λ_=>rfl) _ λ_=>rfl
 ·refine(_,rfl,?_)
  rw[Zyv (l:=AW N S) (n:=N) _ (λ_=>rfl) _ λ_=>rfl];exact q y (M,v)
end
def DZ (l:List Int) (h lo:Int) (k:Nat):List Int:=(l.take k).map (λf=>if f=h then lo else f)++l.drop k
theorem NR (l:List Int) (h lo:Int) (k:Nat):(DZ l h lo k).length=l.length:=by
 unfold DZ;rw[Ar,AJ,Bo,Dd];lia
theorem Zsi (j:k<l.length):(DZ l h lo k)[k]?=some l[k]:=by
 unfold DZ;rw[Cf (by rw[AJ,Bo];lia),AJ,Bo,IJ (Cj j),KR,Gv];exact AZ j
theorem Zqb (q:k<l.length):DZ l h lo (k+1)=(DZ l h lo k).set k (if l[k]=h then lo else l[k]):=by
 apply EU;intro j;rw[IV,NR];unfold DZ;rcases Ka j k with J|J|J
 ·rw[AK #[2],DT (by rw[AJ,Bo];lia),DT (by rw[AJ,Bo];lia),Ad,Ad,MN,MN,AN #[2],AN #[4]]
 ·subst J
  rw[AN rfl,AN q,DT (by rw[AJ,Bo];lia),Ad,MN,AN #[2],AZ q];rfl
 ·rw[AK #[2],Cf (by rw[AJ,Bo];lia),Cf (by rw[AJ,Bo];lia),AJ,AJ,Bo,Bo,Gv,Gv]
  congr 1;lia
theorem Zrr:DZ l h lo l.length=l.map λf=>if f=h then lo else f:=by
 unfold DZ;rw[Bm,List.drop_length,Bj]
def L7:NSp:=λs t=>∃(N:Nat) (ts:AQ) (d:D),s=[.tup [.int (N:Int),d]]/\(d=.tup (ts.map BY)\/d=.lst (ts.map BY))/\Af (N:Int) ts/\∀ms,BK ms (AW N ts)->t ((DB N ts ms).map lstI)
#check 2
theorem Zs4 (mb:Mb mg) (F:BE K "_law_parts" "_law_parts" Kp f fd):FnOk P w K mg base CX0 1 f fd ["_law_web"] (spN K L7):=by
 refine F.ok Fw (GY λds T h=>#[6]) λa0 A V s H vs Q E hr h=>?_;have u:=Bb hr;have hv:=Ff hr;refine(_,(AR (Aj (i:=1) Fw.nd rfl (Or.inr rfl)<|PD rfl rfl (mb "list" #[0]) rfl (mb "range" #[0])<|AA (Ag (ixK K u) (pv 0) AG λ_ _=>rfl) AE)<|AR (Bv PassesOwn.never rfl (seqK K<|Ag (ixK K u) (pv 0) AG λ_ _=>rfl) (gtupK (n:=2) K rfl<|B8 (Ao (i:=2) Fw.nd rfl<|Or.inl rfl)<|B8 (Ao (i:=3) Fw.nd rfl<|Or.inl rfl) Dy)<|AR (OP (i:=4) (j:=5) rfl Fw.nd rfl rfl #[0] rfl rfl (AA (A0 (P5 rfl) rfl (mb "min" #[0]) Tc<|AA (Ag (ixK K u) (pv 1) (pv 2) λ_ _=>rfl)<|AA (Ag (ixK K u) (pv 1) (pv 3) λ_ _=>rfl) AE)<|AA (A0 (Qf rfl) rfl (mb "max" #[0]) TR<|AA (Ag (ixK K u) (pv 1) (pv 2) λ_ _=>rfl)<|AA (Ag (ixK K u) (pv 1) (pv 3) λ_ _=>rfl) AE) AE) rfl)<|AY<|Bv PassesOwn.never rfl (CP rfl (mb "range" #[0])<|AA (Ag (ixK K u) (pv 0) AG λ_ _=>rfl) AE) (Ao (i:=6) Fw.nd rfl<|Or.inl rfl)<|AY<|CF (BW CY (Ag (ixK K u) (pv 1) (pv 6) λ_ _=>rfl) (pv 5)<|nomark _) (AY<|DI (pv 4)<|E7 (pv 1) (pv 6)<|setU u) CM)<|AR (Aj (i:=7) Fw.nd rfl (Or.inl rfl)<|CG AE)<|AR (Bv PassesOwn.never rfl (seqK K<|Pu rfl rfl rfl (mb "sorted" #[0]) rfl (mb "set" #[0])<|AA (pv 1) AE) (Ao (i:=8) Fw.nd rfl<|Or.inr rfl)<|AY<|CW<|bmK K PySem.F.plainAttrs_list PySem.F.slot_list_append PySem.F.type_list_append Dw (pv 7)<|AA (Du ["_law_place"] (show CompSc (defScope Kp) ["_law_web","_law_marks","_law_a","_law_b","_law_low","_law_high","_law_place","_law_found","_law_first"] _ ["_law_marks","_law_first"] [1,8] from (rfl,#[1],#[1],#[1],rfl,#[1])) rfl (CP rfl (mb "range" #[0])<|AA (Ag (ixK K u) (pv 0) AG λ_ _=>rfl) AE) (λ_ _ _ _ _=>(Ao (i:=0) (show List.Nodup (["_law_place","_law_marks","_law_first"]:List Str) from #[0]) rfl<|Or.inl rfl)) (λ_ _ _ _ _=>(F2<|BW CY (Ag (ixK K u) (pv 1) (pv 0) λ_ _=>rfl) (pv 2)<|nomark _)) λ_ _ _ _ _=>(pv 0)) AE)<|AY<|BF<|pv 7),Gn (λds T hf=>?_) h);obtain⟨N,S,r,rfl,M,W,q⟩:=hf;sleep 0;have a4:=W.lo;have a5:=W.hi;have a6:=W.len;refine Ac<|Cw<|Oz<|AF<|AO<|AD rfl<|Aa<|Bc (d:=.int (N:Int)) rfl<|AI (N,rfl,#[2],?_);have e0:(AV N).map (λi:Nat=>D.int (i:Int))=(AW N<|S.take 0).map D.int:=by
  show _=((AV N).map λi:Nat=>(i:Int)).map D.int;rw[BS];rfl
 rw[e0];refine Bh (λJ=>∃(b c e o X:L2.Slot),J = [.val (.tup [.int (N:Int),r]),.own (.lst ((AW N S).map D.int)),b,c,e,o,X,.any,.any]) ?_ ?_
 ·refine Bx (Zw4 M<|AO<|AD rfl<|Aa<|Bc (d:=r) rfl (rfl,λi J=>∃(b c e o X:L2.Slot),J = [.val (.tup [.int (N:Int),r]),.own (.lst ((AW N<|S.take i).map D.int)),b,c,e,o,X,.any,.any],(_,_,_,_,_,rfl),?_,?_))
  ·rintro i d C a ⟨b,c,e,o,X,rfl⟩
   rw[Ad]at a;cases z:S[i]? with
   |none=>exists 0,z,a
   |some t=>
    rw[z]at a;have a:BY t=d:=by simpa using a
    subst a;have B:=W.tie t<|Be z;have L:=Cy N<|S.take i;have hs:=Fx (n:=N) z;obtain⟨l,el⟩:∃l,AW N (S.take i)=l:=(_,rfl);rw[el]at L hs ⊢;have Y:=F1 L B.1 B.2.1;have Z:=F1 L B.2.2.1 B.2.2.2;refine EH rfl<|CH<|A8<|CH<|A8<|ED ?_;refine Ac<|Sg<|AF<|A3<|AF<|GU rfl rfl<|AD rfl (_,_,_,_,rfl,rfl,rfl,Y,AF<|GU rfl rfl<|AD rfl (_,_,_,_,rfl,rfl,rfl,Z,AI<|Jk ?_));refine AF<|A3<|AF<|GU rfl rfl<|AD rfl (_,_,_,_,rfl,rfl,rfl,Y,AF<|GU rfl rfl<|AD rfl (_,_,_,_,rfl,rfl,rfl,Z,AI<|Jk<|AI (_,_,rfl,?_)));obtain⟨lo,O⟩:∃lo,loI (l.getD t.1.toNat 0) (l.getD t.2.toNat 0)=lo:=(_,rfl);obtain⟨I,v⟩:∃I,hiI (l.getD t.1.toNat 0) (l.getD t.2.toNat 0)=I:=(_,rfl);refine Bx<|CQ<|AF<|AO<|AD rfl<|Aa<|Bc (d:=.int (N:Int)) rfl<|AI (_,rfl,#[2],#[2],λk J=>∃X:L2.Slot,J = [.val (.tup [.int (N:Int),r]),.own (.lst ((DZ l I lo k).map D.int)),.val (.int t.1),.val (.int t.2),.val (.int lo),.val (.int I),X,.any,.any],(X,?_),?_,?_)
    ·rw[<- O,<- v];rfl
    ·rintro k d J3 a ⟨X,rfl⟩
     rw[BO]at a;obtain⟨hk,rfl⟩:=B9 a;rw[B0];have y:k<l.length:=#[2]
     have hg:=Zsi (h:=I) (lo:=lo) y;have G:atI ((DZ l I lo k).map D.int) (k:Int)=some (.int l[k]):=Ck (by rw[Ad,hg];rfl);have U:=Zqb (h:=I) (lo:=lo) y;refine A8<|CD<|Ba<|AO<|GU rfl rfl<|AD rfl (_,_,_,_,rfl,rfl,rfl,G,AD rfl<|Co (_,rfl,?_));by_cases hb:l[k]=I
     ·rw[BD hb]
      rw[AN hb]at U;refine iteT<|Nh<|AD rfl ((_,_,rfl,rfl),AD rfl (_,_,_,k,rfl,rfl,rfl,?_,.val (.int (k:Int)),?_))
      ·unfold ixN
       rw[AN #[2],AN (by rw[AJ,NR];lia),BO]
      ·rw[U,List.map_set];rfl
     ·rw[BI hb]
      rw[AK hb]at U;refine iteF<|CN (.val (.int (k:Int)),?_);have:DZ l I lo (k+1)=DZ l I lo k:=by
       rw[U];apply EU;intro j;rw[IV];split
       ·rename_i hj
        subst hj;rw[AN (by rw[NR];omega),hg]
       ·rfl
      rw[this];rfl
    ·rintro J3 ⟨X,rfl⟩
     have e2:DZ l I lo (rngD 0 ((N:Int)).toNat).length=AW N (S.take<|i+1):=by
      rw[CC,BO,hs];unfold Cd;rw[O,v,<- Zrr,L]
     rw[e2];exact(_,_,_,_,_,rfl)
  ·rintro C ⟨b,c,e,o,X,rfl⟩
   rw[AJ,Bm];exact(_,_,_,_,_,rfl)
 rintro J1 ⟨b,c,e,o,X,rfl⟩;have L:=Cy N S;refine Ac<|Cw<|Fb<|AI (#[0],?_);refine Bh (λJ=>∃(m:List Int) (x:L2.Slot) (R:AM),BK m (AW N S) /\ J = [.val (.tup [.int (N:Int),r]),.val (.lst ((AW N S).map D.int)),b,c,e,o,X,.own (.lst ((DB N S m).map lstI)),x]) ?_ ?_
 ·refine Bx (Cn<|Cz<|Ow<|AF<|Ef rfl<|AI (_,rfl,#[2],λm m1 m2=>(_,rfl,_,Or.inl rfl,λi J=>∃x:L2.Slot,J = [.val (.tup [.int (N:Int),r]),.val (.lst ((AW N S).map D.int)),b,c,e,o,X,.own (.lst (((DB N S m).map lstI).take i)),x],(_,rfl),?_,?_)))
  ·rintro i d C a ⟨x,rfl⟩
   have a3:=BK.len (m1,m2);rw[Ad]at a;cases zz:m[i]? with
   |none=>exists 0,zz,a
   |some g=>
    rw[zz]at a;have a:D.int g=d:=by simpa using a
    subst a;refine A8<|FZ rfl rfl<|Dx #[0]<|CQ<|AF<|AO<|AD rfl<|Aa<|Bc (d:=.int (N:Int)) rfl<|AI (_,rfl,#[2],#[2],?_,λd=>match d with|.int p=>decide ((AW N S).getD p.toNat 0=g)|_=>false,λd=>d,λj d a=>?_,?_)
    ·rw[CC];exact small1000 #[2]
    ·obtain⟨hj,rfl⟩:=B9 a
     refine Ba<|AO<|AO<|AD rfl<|AD rfl<|DW (F1 L #[2] #[2])<|AD rfl<|Co (_,rfl,rfl,?_);split
     ·exact AD rfl (rfl,_,rfl)
     ·exact(_,rfl)
    ·rw[BO,TH _ _ _ _ (λ_=>rfl) _ λ_=>rfl]
     refine(_,_,rfl,rfl,?_,?_)
     ·rw[Bo];exact small1000 (by unfold DB;rw[AJ,AJ];lia)
     have e1:((DB N S m).map lstI).take (i+1)=((DB N S m).map lstI).take i++[lstI (DD (AW N S) N g)]:=by
      unfold DB;rw[Cu,Ad,Ad,zz];rfl
     dsimp only;rw[e1];exact(_,rfl)
  ·rintro C ⟨x,rfl⟩
   refine(m,x,[],(m1,m2),?_);rw[IG (by unfold DB;rw[AJ,AJ,AJ];exact AU _)]
 rintro J1 ⟨m,x,_,hm,rfl⟩;exact F4<|Tb rfl (_,rfl,q m hm)
end
section
variable {f:Int->Int}{m:Nat}(F:Cr f m)
include F
end
theorem Ec (l:List Int) (a b:Int) (j:p<l.length):(Cd l a b).getD p 0=if l.getD p 0=hiI (l.getD a.toNat 0) (l.getD b.toNat 0) then loI (l.getD a.toNat 0) (l.getD b.toNat 0) else l.getD p 0:=by
 unfold Cd;rw[Av,Ad,AZ j,Av (l:=l) (i:=p),AZ j];rfl
theorem lohi (a b:Int):(a=loI a b\/a=hiI a b)/\(b=loI a b\/b=hiI a b):=by
 unfold loI hiI;constructor
 ·by_cases h:b<a
  ·right;rw[AK #[2]]
  ·left;rw[AK h]
 ·by_cases h:b<a
  ·left;rw[AN h]
  ·by_cases h2:b > a
   ·right;rw[AN h2]
   ·left;rw[AK h];lia
theorem NG (l:List Int) {t:Int × Int}(h1:t.1.toNat<l.length) (h2:t.2.toNat<l.length):(Cd l t.1 t.2).getD t.1.toNat 0=loI (l.getD t.1.toNat 0) (l.getD t.2.toNat 0)/\(Cd l t.1 t.2).getD t.2.toNat 0=loI (l.getD t.1.toNat 0) (l.getD t.2.toNat 0):=by
 obtain⟨a,b⟩:=lohi (l.getD t.1.toNat 0)<|l.getD t.2.toNat 0;rw[Ec _ _ _ h1,Ec _ _ _ h2];constructor
 ·split
  ·rfl
  ·rename_i h;rcases a with a|a
   ·exact a
   ·exact absurd a h
 ·split
  ·rfl
  ·rename_i h;rcases b with b|b
   ·exact b
   ·exact absurd b h
section
variable {N:Nat}{ts:AQ}(hW:Af (N:Int) ts)
include hW
theorem Qe:∀i,i<=ts.length->∀t∈ts.take i,(AW N<|ts.take i).getD t.1.toNat 0=(AW N<|ts.take i).getD t.2.toNat 0
 |0,_,t,ht=>by simp at ht
 |i+1,hi,t,ht=>by
  have l:i<ts.length:=hi;have z:=AZ l;rw[Fx z];have L:=Cy N<|ts.take i;have u:=hW.tie _<|B6 l;rw[Cu,z]at ht;rcases CV.mp ht with h|h
  ·have H:=Qe i #[2] t h
   have r:=hW.tie t<|KJ h;rw[Ec _ _ _ #[4],Ec _ _ _ #[4],H]
  ·have e:t=ts[i]:=by simpa using h
   subst e;obtain⟨a,b⟩:=NG (AW N<|ts.take i) (t:=ts[i]) #[4] #[4];rw[a,b]
theorem RW {t:Int × Int}(j:t∈ts):(AW N ts).getD t.1.toNat 0=(AW N ts).getD t.2.toNat 0:=by
 have:=Qe hW ts.length (AU _) t (by rw[Bm];exact j);rw[Bm]at this;exact this
end
theorem Qa:x∈DD l n g↔0<=x/\x<(n:Int)/\l.getD x.toNat 0=g:=by
 unfold DD;rw[CB,A6,decide_eq_true_iff];constructor
 ·rintro⟨⟨i,I,rfl⟩,h⟩
  rw[BB]at I;exact(#[2],#[2],h)
 ·rintro⟨H,a,h⟩
  exact((x.toNat,BB.mpr #[2],#[2]),h)
section
variable {N:Nat}{ts:AQ}{o:Ak}(hW:Af (N:Int) ts) (hO:BG (N:Int) ts o)
include hW
theorem Ws {e:Nat}(j:e<2*ts.length):(AW N ts).getD (Al ts<|partner e).toNat 0=(AW N ts).getD (Al ts e).toNat 0:=by
 have k:e / 2<ts.length:=#[4]
 have z:=AZ k;have t:=RW hW<|B6 k;have E:partner e / 2=e / 2:=by unfold partner;split <;> lia
 unfold Al;rw[E,z];dsimp only;by_cases h:e % 2=0
 ·rw[AN h,AK (by unfold partner;rw[AN h];lia)];exact t.symm
 ·rw[AK h,AN (by unfold partner;rw[AK h];lia)];exact t
include hO
end
theorem Np (h:l.getD a.toNat 0=l.getD b.toNat 0):Cd l a b=l:=by
 unfold Cd
 conv=>rhs;rw[<- Ie l]
 apply DU;intro f _;have e:hiI (l.getD a.toNat 0) (l.getD b.toNat 0)=l.getD a.toNat 0:=by rw[<- h];unfold hiI;split <;> rfl
 have E:loI (l.getD a.toNat 0) (l.getD b.toNat 0)=l.getD a.toNat 0:=by rw[<- h];unfold loI;split <;> rfl
 rw[e,E];split
 ·rename_i z;exact z.symm
 ·rfl
structure Goes (N:Nat) (l l':List Int) (lo hi:Int):Prop where
 len:l.length=N
 len':l'.length=N
 lt:lo<hi
 inL:lo∈l
 inH:hi∈l
 to:∀p:Nat,p<N->l'.getD p 0=if l.getD p 0=hi then lo else l.getD p 0
theorem NF {N:Nat}{l:List Int}{t:Int × Int}(L:l.length=N) (h1:t.1.toNat<N) (h2:t.2.toNat<N) (j:l.getD t.1.toNat 0≠l.getD t.2.toNat 0) :
  Goes N l (Cd l t.1 t.2) (loI (l.getD t.1.toNat 0)<|l.getD t.2.toNat 0) (hiI (l.getD t.1.toNat 0)<|l.getD t.2.toNat 0):=by
 have m:l.getD t.1.toNat 0∈l:=by rw[Av,AZ (by lia:t.1.toNat<l.length)];exact B6 _
 have M:l.getD t.2.toNat 0∈l:=by rw[Av,AZ (by lia:t.2.toNat<l.length)];exact B6 _
 refine(L,by rw[PY,L],?_,?_,?_,λp h=>Ec _ _ _ #[2])
 ·unfold loI hiI;split <;> split <;> omega
 ·unfold loI;split
  ·exact M
  ·exact m
 ·unfold hiI;split
  ·exact M
  ·exact m
section
variable {N:Nat}{l l' ms ms':List Int}{lo hi:Int}(G:Goes N l l' lo hi)
theorem OT (h:x∈l):∃p:Nat,p<l.length/\l.getD p 0=x:=by
 obtain⟨p,P,rfl⟩:=Jz h;exact(p,P,by rw[Av,AZ P];rfl)
theorem ON (h:p<l.length):l.getD p 0∈l:=by
 rw[Av,AZ h];exact B6 h
include G
theorem Goes.mem {x:Int}:x∈l'↔x∈l/\x≠hi:=by
 have H:=G.len;have a:=G.len';have b:=G.lt;constructor
 ·intro h
  obtain⟨p,P,e⟩:=OT h;rw[G.to p #[2]]at e;split at e
  ·rw[<- e];exact(G.inL,#[2])
  ·rename_i z
   rw[<- e];exact(ON #[2],z)
 ·rintro⟨h,n⟩
  obtain⟨p,P,e⟩:=OT h;have:l'.getD p 0=x:=by rw[G.to p #[2],e,AK n]
  rw[<- this];exact ON #[2]
theorem Goes.firsts (h:BK ms l) (h':BK ms' l'):ms'=ms.filter λg=>decide (g≠hi):=by
 refine Iq h'.1 (List.Pairwise.filter _ h.1) λx=>?_;rw[h'.2,CB,decide_eq_true_iff,h.2];exact G.mem
omit G in
theorem Zqz (l:List Int) (N:Nat) (g:Int):(DD l N g).Pairwise (· < ·):=by
 unfold DD;refine List.Pairwise.filter _ ?_;rw[ET];exact D5.imp λh=>#[4]
omit G in
theorem Zvv (h1:ms.Pairwise (· < ·)) (j:lo∈ms):(ms.filter λg=>decide (g=lo))=[lo]:=by
 refine Iq (List.Pairwise.filter _ h1) #[3] λx=>?_;rw[CB,decide_eq_true_iff,CK];exact(λh=>h.2,λh=>(h ▸ j,h))
omit G in
theorem HK {α:Type}(p:α -> Bool):∀l:List α,l.length=(l.filter p).length+(l.filter λx=>!p x).length
 |[]=>rfl
 |x::l=>by
  have i:=HK p l;rw[DV,DV];cases h:p x with
  |true=>simp only[if_true,Fs,Bu,if_false,BH];lia
  |false=>simp only[if_true,Ke,Bu,if_false,BH];lia
theorem Goes.count (h:BK ms l) (h':BK ms' l'):ms.length=ms'.length+1:=by
 rw[G.firsts h h'];have e:=Zvv h.1 ((h.2 _).mpr G.inH);have q:=HK (λg:Int=>decide (g=hi)) ms;rw[e,DE]at q;have E:(ms.filter λg=>!decide (g=hi))=ms.filter λg=>decide (g≠hi):=by
  apply De;intro g _;by_cases c:g=hi
  ·rw[BD c,BI (by simpa using c)];rfl
  ·rw[BI c,BD c];rfl
 rw[E]at q;lia
end
theorem K3 {S:Int->Prop}(h:S e) (q:∀x,S x->S (f x)):∀y∈orb f e,S y:=by
 intro y hy;obtain⟨j,J,rfl⟩:=B1.mp hy;clear J hy
 induction j with
 |zero=>exact h
 |succ j ih=>exact q _ ih
def A9 (f:Int->Int) (a b:Int) (x:Int):Int:=if x=a then f b else if x=b then f a else f x
theorem Fc (f:Int->Int) (a b:Int):A9 f a b a=f b:=by unfold A9;rw[AN rfl]
theorem F5 (f:Int->Int) (a b:Int):A9 f a b b=f a:=by
 unfold A9;by_cases h:b=a
 ·rw[AN h,h]
 ·rw[AK h,AN rfl]
theorem EI (h1:x≠a) (h2:x≠b):A9 f a b x=f x:=by unfold A9;rw[AK h1,AK h2]
theorem Ztq (f:Int->Int) (a b:Int):A9 (A9 f a b) a b=f:=by
 funext x
 by_cases h1:x=a
 ·subst h1;rw[Fc,F5]
 ·by_cases h2:x=b
  ·subst h2;rw[F5,Fc]
  ·rw[EI h1 h2,EI h1 h2]
theorem HZ (F:Cr f m) (a0:0<=a) (a1:a<(m:Int)) (b0:0<=b) (b1:b<(m:Int)):Cr (A9 f a b) m:=by
 refine(λx i H=>?_,λx y j l n p q=>?_)
 ·unfold A9
  split
  ·exact F.to _ b0 b1
  ·split
   ·exact F.to _ a0 a1
   ·exact F.to _ i H
 ·-- the preimage through the exchange
  have k:∀z:Int,∃z',A9 f a b z=f z' /\ (z=a->z'=b)/\(z=b->z'=a)/\(z≠a->z≠b->z'=z):=λz=>by
   by_cases H:z=a
   ·refine(b,by rw[H,Fc],λ_=>rfl,λh=>?_,λh=>absurd H h)
    rw[<- h,H]
   ·by_cases h2:z=b
    ·exact(a,by rw[h2,F5],λh=>absurd h H,λ_=>rfl,λ_ h=>absurd h2 h)
    ·exact(z,EI H h2,λh=>absurd h H,λh=>absurd h h2,λ_ _=>rfl)
  obtain⟨X,E,A,B,O⟩:=k x;obtain⟨Y,g,c,d,o⟩:=k y;have r:0<=X /\ X<(m:Int):=by
   by_cases H:x=a
   ·rw[A H];exact(b0,b1)
   ·by_cases h2:x=b
    ·rw[B h2];exact(a0,a1)
    ·rw[O H h2];exact(j,l)
  have R:0<=Y /\ Y<(m:Int):=by
   by_cases H:y=a
   ·rw[c H];exact(b0,b1)
   ·by_cases h2:y=b
    ·rw[d h2];exact(a0,a1)
    ·rw[o H h2];exact(n,p)
  have e:=F.inj X Y r.1 r.2 R.1 R.2 (by rw[<- E,<- g];exact q);by_cases H:x=a
  ·by_cases h2:y=a
   ·rw[H,h2]
   ·by_cases h3:y=b
    ·have:=A H;have:=d h3;lia
    ·have:=A H;have:=o h2 h3;lia
  ·by_cases h1':x=b
   ·by_cases h2:y=a
    ·have:=B h1';have:=c h2;lia
    ·by_cases h3:y=b
     ·rw[h1',h3]
     ·have:=B h1';have:=o h2 h3;lia
   ·have s:=O H h1'
    by_cases h2:y=a
    ·have:=c h2;lia
    ·by_cases h3:y=b
     ·have:=d h3;lia
     ·have:=o h2 h3;lia
noncomputable def cnt (f:Int->Int) (m:Nat) (j:Nat->Bool):Nat:=((AV m).filter λe=>BX f e && j e).length
section
variable {f:Int->Int}{m:Nat}(F:Cr f m)
include F
theorem JH {x:Int}(h0:0<=x) (h1:x<(m:Int)) (p:Nat->Bool) (j:∀e:Nat,e<m->(p e=true↔(e:Int)∈orb f x)):((AV m).filter λe=>BX f e && p e).length=1:=by
 obtain⟨g,G,L,n,_⟩:=Zt0 F h0 h1;have M:∀e,e∈((AV m).filter λe=>BX f e && p e)↔e=g:=λe=>by
  rw[CB,BB,Cv];constructor
  ·rintro⟨h,c,l⟩
   have l:=(j e h).mp l;have d:=F0 F #[2] #[2] (FQ F h0 h1 l) n;have i:=F0 F #[2] #[2] (FQ F h0 h1 n) l;have a:=of_decide_eq_true (show decide (∀z∈orb f (e:Int),(e:Int)<=z)=true from c) _ d;have b:=of_decide_eq_true (show decide (∀z∈orb f (g:Int),(g:Int)<=z)=true from L) _ i;lia
  ·rintro rfl
   exact(G,L,(j e G).mpr n)
 have D:((AV m).filter λe=>BX f e && p e).Nodup:=List.Pairwise.filter _ IX;have a:=Fz (m:=[g]) D λe h=>by rw[CK];exact(M e).mp h
 have b:=Gx ((M g).mpr rfl);rw[DE]at a;lia
theorem SI {g:Int->Int}{S:Int->Prop}(hS:∀x,0<=x->x<(m:Int)->¬ S x->g x=f x) (q:∀x,0<=x->x<(m:Int)->¬ S x->¬ S (f x)) (G:Cr g m) {e:Int}(h0:0<=e) (h1:e<(m:Int)) (z:¬ S e):∀y,y∈orb g e↔y∈orb f e:=by
 have t:∀j,iter g e j=iter f e j/\¬ S (iter f e j):=λj=>by
  induction j with
  |zero=>exact(rfl,z)
  |succ j ih=>
   have r:=DG F h0 h1 j;refine(?_,q _ r.1 r.2 ih.2);show g (iter g e j)=f (iter f e j);rw[ih.1,hS _ r.1 r.2 ih.2]
 intro y;constructor
 ·intro hy
  obtain⟨j,_,rfl⟩:=B1.mp hy;rw[(t j).1];exact Ci F h0 h1 j
 ·intro hy
  obtain⟨j,_,rfl⟩:=B1.mp hy;rw[<- (t j).1];exact Ci G h0 h1 j
end
section
variable {f:Int->Int}{m:Nat}(F:Cr f m) {a b:Int}(a0:0<=a) (a1:a<(m:Int)) (b0:0<=b) (b1:b<(m:Int)) (hab:a≠b) (hin:b∈orb f a)
include F a0 a1 b0 b1 hab hin
theorem halves:∃j,0<j/\j<per f a/\iter f a j=b/\(∀y,y∈orb (A9 f a b) b ↔ ∃i,1<=i/\i<=j/\iter f a i=y)/\(∀y,y∈orb (A9 f a b) a ↔ ∃i,(i=0\/j<i)/\i<per f a/\iter f a i=y):=by
 have O:=Fd F a0 a1;have G:=HZ F a0 a1 b0 b1;obtain⟨j,g,J⟩:=B1.mp hin;have d:0<j:=by
  rcases Nat.eq_zero_or_pos j with z|z
  ·rw[z]at J;exact absurd J hab
  ·exact z
 have n:∀i,0<i->i<per f a->iter f a i≠a:=λi h H q=>by
  have:=O.nd i 0 H O.pos q;lia
 have B:∀i,i≠j->i<per f a->iter f a i≠b:=λi h H q=>by
  have:=O.nd i j H g<|q.trans J.symm;lia
 have u:∀i,1<=i->i<=j->iter (A9 f a b) b i=iter f a i:=λi h H=>by
  induction i with
  |zero=>lia
  |succ i ih=>
   cases i with
   |zero=>exact F5 f a b
   |succ i=>
    show A9 f a b (iter (A9 f a b) b<|i+1)=f (iter f a<|i+1);rw[ih #[2] #[2],EI (n _ #[2] #[2]) (B _ #[2] #[4])]
 have P:∀i,1<=i->j+i<=per f a->iter (A9 f a b) a i=iter f a (j+i):=λi h H=>by
  induction i with
  |zero=>omega
  |succ i ih=>
   cases i with
   |zero=>
    show A9 f a b a=f (iter f a j);rw[Fc,J]
   |succ i=>
    show A9 f a b (iter (A9 f a b) a<|i+1)=f (iter f a<|j+(i+1));rw[ih #[4] #[2],EI (n _ #[2] #[2]) (B _ #[2] #[4])]
 refine(j,d,g,J,λy=>(λY=>?_,?_),λy=>(λY=>?_,?_))
 ·refine K3 (S:=λy=>∃i,1<=i/\i<=j/\iter f a i=y) (j,d,AU _,J) (λx (i,h,H,e)=>?_) y Y
  by_cases c:i=j
  ·have:x=b:=by rw[<- e,c,J]
   exact(1,AU _,d,by rw[this,F5];rfl)
  ·refine(i+1,#[2],#[2],?_)
   rw[<- e,EI (n _ #[2] #[2]) (B _ c #[4])];rfl
 ·rintro⟨i,h,H,rfl⟩
  rw[<- u i h H];exact Ci G b0 b1 i
 ·refine K3 (S:=λy=>∃i,(i=0\/j<i)/\i<per f a/\iter f a i=y) (0,.inl rfl,O.pos,rfl) (λx (i,h,H,e)=>?_) y Y
  have p:∀k,j<k+1->k+1<=per f a->∃i,(i=0\/j<i)/\i<per f a/\iter f a i=f (iter f a k):=λk K l=>by
   by_cases c:k+1=per f a
   ·refine(0,.inl rfl,O.pos,?_)
    have:=O.back;rw[<- c]at this;exact this.symm
   ·exact(k+1,.inr K,#[2],rfl)
  rcases h with h|h
  ·subst h
   have:x=a:=e.symm;rw[this,Fc,<- J];exact p j #[2] #[2]
  ·rw[<- e,EI (n _ #[2] H) (B _ #[2] H)]
   exact p i #[2] #[2]
 ·rintro⟨i,h,H,rfl⟩
  rcases h with h|h
  ·subst h;exact Ee G a0 a1
  ·have:=P (i-j) #[2] #[2]
   rw[show j+(i-j)=i by lia]at this;rw[<- this];exact Ci G a0 a1 _
theorem Rb (U:Nat->Bool) (Y:∀e:Nat,(e:Int)∈orb f a->U e=U a.toNat):cnt (A9 f a b) m U=cnt f m U+(if U a.toNat=true then 1 else 0):=by
 have O:=Fd F a0 a1;have G:=HZ F a0 a1 b0 b1;obtain⟨j,J,M,D,L,r⟩:=halves F a0 a1 b0 b1 hab hin;have l:∀y,y∈orb f a↔y∈orb (A9 f a b) b\/y∈orb (A9 f a b) a:=λy=>by
  rw[L,r];constructor
  ·intro hy
   obtain⟨i,B,e⟩:=B1.mp hy;by_cases c:1<=i/\i<=j
   ·exact .inl (i,c.1,c.2,e)
   ·exact .inr (i,#[2],B,e)
  ·rintro(⟨i,H,q,rfl⟩|⟨i,H,q,rfl⟩) <;> exact Ci F a0 a1 i
 have t:∀y,y∈orb (A9 f a b) b->y∈orb (A9 f a b) a->False:=λy H q=>by
  obtain⟨i,I,s,n⟩:=(L y).mp H;obtain⟨k,v,K,o⟩:=(r y).mp q;have:=O.nd i k #[2] K<|n.trans o.symm;lia
 -- outside nothing changes
 have T:∀e:Nat,e<m->(e:Int) ∉ orb f a->BX (A9 f a b) e=BX f e:=λe E N=>by
  have:=SI F (g:=A9 f a b) (S:=λx=>x∈orb f a) (λx p H X=>EI (λz=>X (by rw[z];exact Ee F a0 a1)) λz=>X (by rw[z];exact hin))
   (λx p H X A=>X<|F0 F a0 a1 A<|FQ F p H<|Ci F p H 1) G (e:=(e:Int)) #[2] #[2] N
  unfold BX;rw[decide_eq_decide];exact(λh x X=>h x ((this x).mpr X),λh x X=>h x ((this x).mp X))
 unfold cnt;rw[HK (λe:Nat=>decide ((e:Int)∈orb f a)) ((AV m).filter λe=>BX (A9 f a b) e && U e),HK (λe:Nat=>decide ((e:Int)∈orb f a)) ((AV m).filter λe=>BX f e && U e)];rw[FF,FF,FF,FF];have u:(AV m).filter (λe:Nat=>(!decide ((e:Int)∈orb f a)) && (BX (A9 f a b) e && U e))=(AV m).filter λe:Nat=>(!decide ((e:Int)∈orb f a)) && (BX f e && U e):=by
  apply De;intro e E;rw[BB]at E;by_cases c:(e:Int)∈orb f a
  ·rw[BD c];rfl
  ·rw[T e E c]
 rw[u];by_cases hp:U a.toNat=true
 ·rw[AN hp]
  have I:((AV m).filter λe:Nat=>decide ((e:Int)∈orb f a) && (BX f e && U e)).length=1:=by
   rw[<- JH F a0 a1 (λe:Nat=>decide ((e:Int)∈orb f a)) λe E=>decide_eq_true_iff];congr 1;apply De;intro e E;by_cases c:(e:Int)∈orb f a
   ·rw[BD c,Y e c,hp,Bool.and_true,HC]
   ·rw[BI c,Er,FD]
  have s:((AV m).filter λe:Nat=>decide ((e:Int)∈orb f a) && (BX (A9 f a b) e && U e)).length=2:=by
   rw[HK (λe:Nat=>decide ((e:Int)∈orb (A9 f a b) b)) ((AV m).filter λe:Nat=>decide ((e:Int)∈orb f a) && (BX (A9 f a b) e && U e)),FF,FF];have v:=JH G b0 b1 (λe:Nat=>decide ((e:Int)∈orb (A9 f a b) b)) λe E=>decide_eq_true_iff;have K:=JH G a0 a1 (λe:Nat=>decide ((e:Int)∈orb (A9 f a b) a)) λe E=>decide_eq_true_iff;have n:(AV m).filter (λe:Nat=>decide ((e:Int)∈orb (A9 f a b) b) && (decide ((e:Int)∈orb f a) && (BX (A9 f a b) e && U e)))=(AV m).filter λe:Nat=>BX (A9 f a b) e && decide ((e:Int)∈orb (A9 f a b) b):=by
    apply De;intro e E;by_cases c:(e:Int)∈orb (A9 f a b) b
    ·have C:=(l _).mpr (.inl c)
     rw[BD c,BD C,Y e C,hp,HC,HC]
    ·rw[BI c,Er,FD]
   have o:(AV m).filter (λe:Nat=>(!decide ((e:Int)∈orb (A9 f a b) b)) && (decide ((e:Int)∈orb f a) && (BX (A9 f a b) e && U e)))=(AV m).filter λe:Nat=>BX (A9 f a b) e && decide ((e:Int)∈orb (A9 f a b) a):=by
    apply De;intro e E;by_cases c:(e:Int)∈orb (A9 f a b) a
    ·have C:=(l _).mpr (.inr c)
     have d:(e:Int) ∉ orb (A9 f a b) b:=λz=>t _ z c;rw[BD c,BI d,BD C,Y e C,hp,Ke,HC,HC]
    ·rw[BI c,FD]
     by_cases d:(e:Int)∈orb (A9 f a b) b
     ·rw[BD d];rfl
     ·have w:(e:Int) ∉ orb f a:=λz=>((l _).mp z).elim d c
      rw[BI w,Er,FD]
   rw[n,o,v,K]
  rw[I,s];lia
 ·rw[AK hp]
  have z:∀g:Int->Int,(AV m).filter (λe:Nat=>decide ((e:Int)∈orb f a) && (BX g e && U e))=[]:=λg=>by
   rw[List.filter_eq_nil_iff];intro e E;by_cases c:(e:Int)∈orb f a
   ·rw[Y e c,FH.mpr hp,FD,FD];exact BV
   ·rw[BI c,Er];exact BV
  rw[z,z];rfl
end
#check 2
theorem GP:∀l:List Int,∃ms,BK ms l
 |[]=>([],.nil,λx=>Iff.rfl)
 |x::l=>by
  obtain⟨ms,H,d⟩:=GP l;by_cases c:x∈ms
  ·refine(ms,H,λy=>?_)
   rw[A5,d];exact(.inr,λz=>z.elim (λq=>q ▸ (d x).mp c) id)
  ·refine((ms.filter λy=>decide (y<x))++x::(ms.filter λy=>decide (x<y)),?_,λy=>?_)
   ·rw[List.pairwise_append,KC]
    refine(List.Pairwise.filter _ H,(λa h=>?_,List.Pairwise.filter _ H),λa h b B=>?_)
    ·rw[CB,decide_eq_true_iff]at h;exact h.2
    ·rw[CB,decide_eq_true_iff]at h
     rcases A5.mp B with z|z
     ·rw[z];exact h.2
     ·rw[CB,decide_eq_true_iff]at z;lia
   ·rw[CV,A5,A5,CB,CB,decide_eq_true_iff,decide_eq_true_iff,d]
    constructor
    ·rintro(z|z|z)
     ·exact .inr z.1
     ·exact .inl z
     ·exact .inr z.1
    ·rintro(z|z)
     ·exact .inr (.inl z)
     ·rcases Int.lt_trichotomy y x with q|q|q
      ·exact .inl (z,q)
      ·exact .inr (.inl q)
      ·exact .inr (.inr (z,q))
theorem S7 (j:r<N):(AW N []).getD r 0=(r:Int):=by
 show ((AV N).map λi:Nat=>(i:Int)).getD r 0=_;rw[Av,Ad,Ek j];rfl
theorem W3 (h:BK ms (AW N [])):ms=(AV N).map λi:Nat=>(i:Int):=by
 refine Iq h.1 ?_ λx=>(h.2 x).trans Iff.rfl;rw[ET];exact D5.imp λh=>#[4]
def fRank:DSp:=λs t=>∃(N:Nat) (ts:AQ),s=[Am (N:Int) ts]/\Af (N:Int) ts/\∀ms,BK ms (AW N ts)->t (.int ((ts.length:Int)-(N:Int)+(ms.length:Int)))
theorem UG (B:Mb mg) (j:Callee P w K mg base 1 "parts_of" ["web"] (spN K Jw)) (F:BE K "rank_of" "rank_of" Md f fd):FnOk P w K mg base CX0 2 f fd ["web"] (spD K fRank):=by
 refine F.ok MX (B2 λd t h=>#[8]) λv A r s H V Q E R h=>?_;have u:=Bb R;refine(_,(AR (DI (pv 0)<|gtupK (n:=2) K rfl<|B8 (Ao (i:=1) MX.nd rfl<|Or.inl rfl)<|B8 (Ao (i:=2) MX.nd rfl<|Or.inl rfl) Dy)<|AY<|BF<|Ae (addK K) (Ae Di (A0 (lenK K) rfl (B "len" #[0]) Bi<|AA (pv 2) AE)<|pv 1)<|A0 (lenK K) rfl (B "len" #[0]) Bi<|AA (An j (R.mono #[0])<|AA (pv 0) AE) AE),B3 (λd t a=>?_) h);obtain⟨N,S,rfl,W,q⟩:=a;sleep 0;refine Ac<|Gf<|AD rfl<|EH rfl<|CH<|A8<|CH<|A8<|ED ?_;refine Bk<|AO<|AO<|A3<|AF<|AD rfl<|AI<|B7 (Or.inr rfl)<|AD rfl<|DA<|A3<|AF<|Cz<|EF<|AF<|AD rfl<|AI (_,S,rfl,W,λm M=>(_,rfl,?_));rw[BO]at M ⊢;refine AI<|B7 (Or.inl rfl)<|EB ?_;rw[AJ,AJ,show (DB N S m).length=m.length from AJ _];exact q m M
end
section
variable {f:Int->Int}{m:Nat}(F:Cr f m) {a b:Int}(a0:0<=a) (a1:a<(m:Int)) (b0:0<=b) (b1:b<(m:Int)) (hout:b ∉ orb f a)
include F a0 a1 b0 b1 hout
theorem joined:b∈orb (A9 f a b) a:=by
 have O:=Fd F b0 b1;have G:=HZ F a0 a1 b0 b1;have e:∀i,iter f b i≠a:=λi q=>by
  have:=Ci F b0 b1 i;rw[q]at this;exact hout (FQ F b0 b1 this)
 have n:∀i,0<i->i<per f b->iter f b i≠b:=λi H h q=>by
  have:=O.nd i 0 h O.pos q;lia
 have p:∀i,1<=i->i<=per f b->iter (A9 f a b) a i=iter f b i:=λi H h=>by
  induction i with
  |zero=>lia
  |succ i ih=>
   cases i with
   |zero=>exact Fc f a b
   |succ i=>
    show A9 f a b (iter (A9 f a b) a<|i+1)=f (iter f b<|i+1);rw[ih #[2] #[2],EI (e _) (n _ #[2] #[2])]
 have:=Ci G a0 a1<|per f b;rw[p _ O.pos (AU _),O.back]at this;exact this
theorem Zre:∀y∈orb (A9 f a b) a,y∈orb f a\/y∈orb f b:=by
 refine K3 (S:=λy=>y∈orb f a\/y∈orb f b) (.inl<|Ee F a0 a1) λx X=>?_;have t:∀{e x:Int},0<=e->e<(m:Int)->x∈orb f e->f x∈orb f e:=λ{e x} e0 e1 h=>by
  have r:=Fe F e0 e1 h;exact F0 F e0 e1 h<|Ci F r.1 r.2 1
 by_cases h1:x=a
 ·rw[h1,Fc];exact .inr<|t b0 b1<|Ee F b0 b1
 ·by_cases h2:x=b
  ·rw[h2,F5];exact .inl<|t a0 a1<|Ee F a0 a1
  ·rw[EI h1 h2]
   rcases X with X|X
   ·exact .inl<|t a0 a1 X
   ·exact .inr<|t b0 b1 X
theorem RT (j:Nat->Bool) (q:∀e:Nat,(e:Int)∈orb f a->j e=j a.toNat) (B:∀e:Nat,(e:Int)∈orb f b->j e=j a.toNat):cnt f m j=cnt (A9 f a b) m j+(if j a.toNat=true then 1 else 0):=by
 have G:=HZ F a0 a1 b0 b1;have h:a≠b:=λz=>hout (by rw[<- z];exact Ee F a0 a1);have:=Rb G a0 a1 b0 b1 h (joined F a0 a1 b0 b1 hout) j λe E=>(Zre F a0 a1 b0 b1 hout _ E).elim (q e) (B e);rw[Ztq]at this;exact this
end
def sgI (ts:AQ) (o:Ak) (k:Nat) (x:Int):Int:=if x.toNat / 2<k then onI ts o x else onI ts o ((partner x.toNat:Nat):Int)
section
variable {N:Nat}{ts:AQ}{o:Ak}(hW:Af (N:Int) ts) (hO:BG (N:Int) ts o)
include hW hO
theorem OF:Cr (sgI ts o 0) (2*ts.length):=by
 have F:=Tp hW hO;have e:∀x:Int,sgI ts o 0 x=onI ts o ((partner x.toNat:Nat):Int):=λx=>by unfold sgI;rw[AK #[2]]
 refine(λx h H=>?_,λx y a b c d q=>?_)
 ·rw[e]
  have:=DH (show x.toNat<2*ts.length by omega);exact F.to _ #[2] #[2]
 ·rw[e,e]at q
  have X:=DH (show x.toNat<2*ts.length by omega);have Y:=DH (show y.toNat<2*ts.length by omega);have:=F.inj _ _ #[2] #[2] #[2] #[2] q;have E:partner x.toNat=partner y.toNat:=#[2]
  have:=congrArg partner E;rw[Df,Df]at this;lia
end
structure Oi (N:Nat) (ts:AQ) (S:Int->Bool):Prop where
 tie:∀t∈ts,S t.1=S t.2
theorem Qr {N:Nat}(hW:Af (N:Int) ts) (hS:Oi N ts S):∀k,k<=ts.length->∀p:Nat,p<N->S ((AW N<|ts.take k).getD p 0)=S (p:Int)
 |0,_,p,hp=>by
  rw[EY];show S (((AV N).map λi:Nat=>(i:Int)).getD p 0)=_;rw[Av,Ad,Ek hp];rfl
 |k+1,hk,p,hp=>by
  have t:k<ts.length:=hk;have l:=Cy N<|ts.take k;have H:=hW.tie _<|B6 t;have h:=Qr hW hS k #[2];rw[Fx (AZ t),Ec _ _ _ #[2]];have s:=h ts[k].1.toNat #[2];have a:=h ts[k].2.toNat #[2];have T:=hS.tie _<|B6 t;rw[show ((ts[k].1.toNat:Nat):Int)=ts[k].1 by lia]at s;rw[show ((ts[k].2.toNat:Nat):Int)=ts[k].2 by lia]at a;split
  ·rename_i c
   have P:=h p hp;rw[c]at P;rw[<- P];unfold loI hiI;split <;> split
   all_goals first|rfl|rw[a,s,T]|rw[s,a,T]
  ·exact h p hp
def inS (S:Int->Bool) (l:List Int):Nat:=(l.filter S).length
def endS (ts:AQ) (S:Int->Bool) (e:Nat):Bool:=S<|Al ts e
section
variable {N:Nat}{ts:AQ}{o:Ak}{S:Int->Bool}(hW:Af (N:Int) ts) (hO:BG (N:Int) ts o) (hS:Oi N ts S)
include hW hO hS
omit hW hO hS in
theorem Na (F:Cr f m) (h:∀x,0<=x->x<(m:Int)->g x=f x) (G:Cr g m) (j:Nat->Bool):cnt g m j=cnt f m j:=by
 unfold cnt;congr 1;apply De;intro e he;rw[BB]at he;have:=SI F (g:=g) (S:=λ_=>False) (λx H a _=>h x H a) (λ_ _ _ h=>h) G (e:=(e:Int)) #[2] #[2] λh=>h;congr 1;unfold BX;rw[decide_eq_decide];exact(λh x X=>h x ((this x).mpr X),λh x X=>h x ((this x).mp X))
end
def rowP (o:Ak) (p:Nat):List Int:=o.getD p []
def loneS (S:Int->Bool) (N:Nat) (o:Ak):Nat:=((AV N).filter λp:Nat=>S (p:Int) && (rowP o p).isEmpty).length
section
variable {N:Nat}{ts:AQ}{o:Ak}{S:Int->Bool}(hW:Af (N:Int) ts) (hO:BG (N:Int) ts o)
include hW hO
theorem Ny {e:Nat}:sgI ts o 0 (e:Int)=Ca ts o e:=by
 unfold sgI;rw[AK #[2],BO];unfold onI;rw[BO,Df]
theorem Zvo {p:Nat}{x:Int}{r:List Int}(B:p<N) (j:rowP o p=x::r):∃e:Nat,e<2*ts.length/\x=(e:Int)/\Al ts e=(p:Int)/\BM ts o e=x::r/\BX (sgI ts o 0) e=true:=by
 have l:=hO.len;have q:o[p]?=some (x::r):=by
  unfold rowP at j;rw[Av,AZ (by lia:p<o.length)]at j;rw[AZ (by omega:p<o.length)];exact congrArg some j
 have R:=hO.row p _ q;obtain⟨e,H,P,E⟩:=R.mem.mp<|B5 ..;have a:BM ts o e=x::r:=by
  unfold BM;rw[P,BO];exact j
 refine(e,H,E.symm,P,a,?_);unfold BX;rw[decide_eq_true_iff];have F:=OF hW hO;have inr:∀y∈orb (sgI ts o 0) (e:Int),y∈x::r:=K3 (S:=λy=>y∈x::r) (by rw[E];exact B5 ..) λy h=>by
  obtain⟨k,c,f,K⟩:=R.mem.mp h;rw[<- K,Ny hW hO];obtain⟨g,b,d,G⟩:=Gd hW hO c;rw[<- G];exact R.mem.mpr (g,b,d.trans f,rfl)
 intro y h;rcases A5.mp (inr y h) with z|z
 ·rw[z,E];exact Int.le_refl _
 ·rw[E];exact R.least y z
theorem NI {e:Nat}(q:e<2*ts.length) (B:BX (sgI ts o 0) e=true):∃r,BM ts o e=(e:Int)::r:=by
 obtain⟨c,g,G⟩:=D9 hW hO q;have d:=g.nodup;obtain⟨i,I⟩:=IM.mp G;have L:=(BQ.mp I).1;have F:=OF hW hO;obtain⟨r,R⟩:∃r,BM ts o e=r:=(_,rfl);have t:∀a (h:a<r.length),sgI ts o 0 r[a]=r.getD (nxI r.length a) 0:=λa h=>by
  subst R;obtain⟨k,H,p,K⟩:=g.mem.mp<|B6 h;rw[<- K,Ny hW hO];unfold Ca;have:BM ts o k=BM ts o e:=by unfold BM;rw[p]
  rw[this];exact HP d (by rw[K];exact AZ h)
 rw[R]at I L;have u:∀j,i+j<r.length->iter (sgI ts o 0) (e:Int) j=r.getD (i+j) 0:=λj=>by
  induction j with
  |zero=>
   intro _;rw[Av,Nat.add_zero,I];rfl
  |succ j ih=>
   intro hj;show sgI ts o 0 (iter (sgI ts o 0) (e:Int) j)=_;rw[ih #[2],Av (i:=i+j),AZ (by omega:i+j<r.length)];show sgI ts o 0 r[i+j]=_;rw[t _ #[4]];unfold nxI;rw[AK #[2]];rfl
 have m:r.getD 0 0∈orb (sgI ts o 0) (e:Int):=by
  have:=Ci F (e:=(e:Int)) #[2] #[2]<|r.length-i;rw[show r.length-i=(r.length-1-i)+1 by lia]at this;have E:iter (sgI ts o 0) (e:Int) ((r.length-1-i)+1)=sgI ts o 0 (iter (sgI ts o 0) (e:Int)<|r.length-1-i):=rfl;rw[E,u _ #[4],Av,AZ (by omega:i+(r.length-1-i)<r.length)]at this;have b:sgI ts o 0 r[i+(r.length-1-i)]=r.getD 0 0:=by
   rw[t _ #[4]];unfold nxI;rw[AN #[4]]
  rw[<- b];exact this
 have l:=of_decide_eq_true (show decide (∀z∈orb (sgI ts o 0) (e:Int),(e:Int)<=z)=true from B) _ m;rw[R]at g G;rw[R];cases r with
 |nil=>simp at G
 |cons x r=>
  refine(r,?_);have l:(e:Int)<=x:=l;rcases A5.mp G with z|z
  ·rw[z]
  ·have:=g.least _ z
   rw[show (e:Int)=x by lia]
theorem Zu9:cnt (sgI ts o 0) (2*ts.length) (endS ts S)=((AV N).filter λp:Nat=>S (p:Int) && !(rowP o p).isEmpty).length:=by
 unfold cnt;have E:∀e:Nat,BM ts o e=rowP o (Al ts e).toNat:=λe=>rfl;apply Nat.le_antisymm
 ·rw[<- AJ (f:=λe=>(Al ts e).toNat)]
  refine Fz ?_ λp P=>?_
  ·unfold List.Nodup
   rw[ET];refine List.Pairwise.imp_of_mem (R:=(· < ·)) (λ{a b} ha hb hab Q=>?_)<|List.Pairwise.filter _ D5;rw[CB,BB,Cv]at ha hb;obtain⟨s,c⟩:=NI hW hO ha.1 ha.2.1;obtain⟨t,d⟩:=NI hW hO hb.1 hb.2.1;rw[E]at c d;rw[Q,d]at c;have:=(Ft.inj c).1;lia
  ·obtain⟨e,h,rfl⟩:=A6.mp P
   rw[CB,BB,Cv]at h;have L:=HX hW h.1;obtain⟨s,c⟩:=NI hW hO h.1 h.2.1;rw[E]at c;rw[CB,BB,Cv,c,show (((Al ts e).toNat:Nat):Int)=Al ts e by lia];exact(#[2],h.2.2,rfl)
 ·rw[<- AJ (f:=λp=>((rowP o p).headD 0).toNat) (as:=(AV N).filter λp:Nat=>S (p:Int) && !(rowP o p).isEmpty)]
  have D:∀p:Nat,p<N->(!(rowP o p).isEmpty)=true->∃e:Nat,e<2*ts.length/\((rowP o p).headD 0).toNat=e/\Al ts e=(p:Int)/\BX (sgI ts o 0) e=true:=λp P n=>by
   cases z:rowP o p with
   |nil=>exists 0,z,n
   |cons x r=>
    obtain⟨e,h,X,k,_,l⟩:=Zvo hW hO P z;refine(e,h,?_,k,l);show x.toNat=e;rw[X,BO]
  refine Fz ?_ λq Q=>?_
  ·unfold List.Nodup
   rw[ET];refine List.Pairwise.imp_of_mem (R:=(· < ·)) (λ{a b} ha hb hab Q=>?_)<|List.Pairwise.filter _ D5;rw[CB,BB,Cv]at ha hb;obtain⟨c,_,i,g,_⟩:=D a ha.1 ha.2.2;obtain⟨d,_,m,j,_⟩:=D b hb.1 hb.2.2;have:c=d:=by rw[<- i,<- m];exact Q
   subst this;rw[g]at j;lia
  ·obtain⟨p,P,rfl⟩:=A6.mp Q
   rw[CB,BB,Cv]at P;obtain⟨e,h,i,g,l⟩:=D p P.1 P.2.2;rw[i,CB,BB,Cv];refine(h,l,?_);unfold endS;rw[g];exact P.2.1
theorem Sh {j:List Int}(h:BK j (AW N [])):cnt (sgI ts o 0) (2*ts.length) (endS ts S)+loneS S N o=inS S j:=by
 rw[Zu9 hW hO,W3 h];unfold inS loneS;rw[GG,AJ];have:=HK (λp:Nat=>(rowP o p).isEmpty) ((AV N).filter λp:Nat=>S (p:Int));rw[FF,FF]at this;have e:((AV N).filter (S∘λi:Nat=>(i:Int)))=(AV N).filter λp:Nat=>S (p:Int):=rfl;rw[e,this];have E:((AV N).filter λp:Nat=>S (p:Int) && (rowP o p).isEmpty)=(AV N).filter λp:Nat=>(rowP o p).isEmpty && S (p:Int):=by
  apply De;intro p _;exact Bool.and_comm _ _
 have a:((AV N).filter λp:Nat=>S (p:Int) && !(rowP o p).isEmpty)=(AV N).filter λp:Nat=>(!(rowP o p).isEmpty) && S (p:Int):=by
  apply De;intro p _;exact Bool.and_comm _ _
 rw[E,a];lia
end
#check 2
theorem Iw {N:Nat}(hW:Af (N:Int) ts):∀k,k<=ts.length->∀g∈AW N (ts.take k),0<=g/\g<(N:Int)/\(AW N<|ts.take k).getD g.toNat 0=g
 |0,_,g,hg=>by
  rw[EY]at hg ⊢;obtain⟨p,h,rfl⟩:=A6.mp hg;rw[BB]at h;exact(#[2],#[2],by rw[BO];exact S7 h)
 |k+1,hk,g,hg=>by
  have t:k<ts.length:=hk;have l:=Cy N<|ts.take k;have T:=hW.tie _<|B6 t;have i:=Iw hW k #[4];rw[Fx (AZ t)]at hg ⊢;by_cases c:(AW N<|ts.take k).getD ts[k].1.toNat 0=(AW N<|ts.take k).getD ts[k].2.toNat 0
  ·rw[Np c]at hg ⊢
   exact i g hg
  ·have G:=NF l #[4] #[4] c
   obtain⟨H,d⟩:=G.mem.mp hg;obtain⟨a,b,e⟩:=i g H;exact(a,b,by rw[G.to _ #[2],e,AK d])
def mk (N:Nat) (ts:AQ) (p:Int):Int:=(AW N ts).getD p.toNat 0
theorem N5 {N:Nat}(hW:Af (N:Int) ts) {g:Int->Int}(j:∀t∈ts,g t.1=g t.2) (q:0<=p) (z:p<(N:Int)):g (mk N ts p)=g p:=by
 have:=Qr (S:=λx=>decide (g x=g p)) hW ⟨λt h=>by rw[j t h]⟩ ts.length (AU _) p.toNat #[2];rw[Bm,show ((p.toNat:Nat):Int)=p by lia,BD rfl]at this;exact of_decide_eq_true this
theorem S0 {N:Nat}(hW:Af (N:Int) ts) {g:Int->Int}(j:∀t∈ts,g t.1=g t.2) (z:0<=p) (B:p<(N:Int)) (L:0<=q) (O:q<(N:Int)) (h:mk N ts p=mk N ts q):g p=g q:=by
 rw[<- N5 hW j z B,<- N5 hW j L O,h]
theorem Tj {N:Nat}(hW:Af (N:Int) ts) (j:t∈ts):mk N ts t.1=mk N ts t.2:=RW hW j
theorem OV {N:Nat}(j:0<=p) (q:p<(N:Int)):mk N ts p∈AW N ts:=ON (by rw[Cy];omega)
def fEnds:NSp:=λs t=>∃n ts,∃p:Int,s=[Am n ts,.int p]/\ts.length<=24/\t ((Cb ts (2*ts.length) p).map .int)
theorem Pg (ts:AQ) (m:Nat) (p:Int) (q:D->Bool) (j:∀k:Nat,q (.int (0+(k:Int)))=decide (Al ts k=p)):(rngD 0 m).filter q=(Cb ts m p).map .int:=by
 unfold rngD Cb;rw[GG,BS];have e:(q∘λi:Nat=>D.int (0+(i:Int)))=λe=>decide (Al ts e=p):=by
  funext k;exact j k
 rw[e];apply DU;intro k _;show D.int (0+(k:Int))=D.int (k:Int);rw[B0]
theorem Zqk (B:Mb mg) (j:Callee P w K mg base 1 "place_of" ["web","end"] (spD K H0)) (F:BE K "ends_at" "ends_at" Kr f fd):FnOk P w K mg base CX0 2 f fd ["web","place"] (spN K fEnds):=by
 refine F.ok Tv (GY λS o h=>#[6]) λv A r s H V Q E R h=>?_;have u:=Bb R;refine(_,(AY<|BF<|Du ["end"] (show CompSc (defScope Kr) ["web","place"] _ ["web","place"] [0,1] from (rfl,#[1],#[1],#[1],rfl,#[1])) rfl (CP rfl (B "range" #[0])<|AA (Ae DO AG<|A0 (lenK K) rfl (B "len" #[0]) Bi<|AA (Ag (ixK K u) (pv 0) AG λ_ _=>rfl) AE) AE) (λ_ _ _ _ _=>(Ao (i:=0) (show List.Nodup (["end","web","place"]:List Str) from #[0]) rfl<|Or.inl rfl)) (λ_ _ _ _ _=>(F2<|BW CY (An j (R.mono #[0])<|AA (pv 1)<|AA (pv 0) AE) (pv 2)<|nomark _)) λ_ _ _ _ _=>(pv 0)),Gn (λS o a=>?_) h);obtain⟨n,t,p,rfl,l,q⟩:=a;refine(#[3],?_);dsimp only[startD,BZ,A7,BP];refine F4<|Hc #[0]<|CQ ?_;refine AF<|AO<|Aa<|A3 ?_;refine AF<|AO<|AD rfl<|Aa<|Bc (d:=.tup<|t.map BY) rfl ?_;refine AI<|B7 (Or.inr rfl) ?_;rw[AJ];refine jr_I (Or.inl (#[2],#[2]))<|AI (_,rfl,#[2],#[2],?_);have L:((2:Int)*(t.length:Int)).toNat=2*t.length:=#[2]
 rw[L];refine(by rw[CC];exact small1000 #[2],λd=>match d with|.int e=>decide (Al t e.toNat=p)|_=>false,λd=>d,λi d D=>?_,?_)
 ·obtain⟨I,rfl⟩:=B9 D
  refine Ba<|AO<|BU<|AF<|AD rfl<|AF<|AD rfl<|AI (n,t,i,by rw[B0],I,?_);refine AD rfl<|Co (_,rfl,?_,?_)
  ·show _=decide (Al t (0+(i:Int)).toNat=p)
   rw[B0,BO]
  ·by_cases hp:Al t i=p
   ·rw[BD hp,AN rfl];exact AD rfl (rfl,_,rfl)
   ·rw[BI hp,AK BV];exact(_,rfl)
 ·rw[List.map_id',Pg t _ p _ λk=>by show decide (Al t (0+(k:Int)).toNat=p)=_;rw[B0,BO]]
  exact(_,rfl,q)
end
def stD (s:Int):D:=.tup [.int (s / 2),.int (s % 2)]
theorem Jr (x:Int):stD (2*x)=.tup [.int x,.int 0]:=by unfold stD;rw[show 2*x / 2=x by lia,show 2*x % 2=0 by lia]
theorem Oq (x:Int):stD (2*x+1)=.tup [.int x,.int 1]:=by unfold stD;rw[show (2*x+1) / 2=x by lia,show (2*x+1) % 2=1 by lia]
structure CrOk (ts:AQ) (cs:List Int):Prop where
 len:cs.length=ts.length
 bit:∀c∈cs,c=0\/c=1
def CS (cs:List Int) (s:Int):Int:=(s % 2+cs.getD (s / 4).toNat 0) % 2
def D3 (ts:AQ) (o:Ak) (e:Nat):Int:=Fi (BM ts o e) e
def cOn (ts:AQ) (o:Ak) (cs:List Int) (s:Int):Int:=if CS cs s=0 then 2*Ca ts o (partner (s / 2).toNat) else 2*D3 ts o (partner (s / 2).toNat)+1
def bkI (cs:List Int) (s:Int):Int:=2*((partner (s / 2).toNat:Nat):Int)+(1-CS cs s)
theorem CrOk.at (h:CrOk ts cs) (j:k<ts.length):∃c,cs[k]?=some c/\cs.getD k 0=c/\(c=0\/c=1):=by
 have K:k<cs.length:=by rw[h.len];exact j
 refine(cs[k],AZ K,?_,h.bit _<|B6 K);rw[Av,AZ K];rfl
theorem NP (cs:List Int) (s:Int):CS cs s=0\/CS cs s=1:=by unfold CS;lia
theorem Zvt (hW:Af n ts) (hO:BG n ts o) (j:e<2*ts.length):Ca ts (o.map DK) e=D3 ts o e:=by
 obtain⟨g,G,a⟩:=D9 hW hO j;obtain⟨h,H,b⟩:=D9 hW hO.turn j;have E:BM ts (o.map DK) e=DK (BM ts o e):=by
  rw[Ad,g]at h;exact(CL.inj h).symm
 unfold Ca D3;rw[E];exact(Zsy G.nodup a).1
def fHand:DSp:=λd t=>∃(ts:AQ) (cs:List Int) (s:Nat),d=[AX cs,stD s]/\CrOk ts cs/\s<4*ts.length/\t (.int<|CS cs s)
def fCrOn:DSp:=λd t=>∃n ts o cs,∃s:Nat,d=[Am n ts,BL o,AX cs,stD s]/\Af n ts/\BG n ts o/\CrOk ts cs/\s<4*ts.length/\t (stD<|cOn ts o cs s)
#check 2
theorem Zyu (B:Mb mg) (F:BE K "hand_beyond" "hand_beyond" Mn f fd):FnOk P w K mg base CX0 1 f fd ["crossings","state"] (spD K fHand):=by
 refine F.ok MZ (B2 λd o h=>#[6]) λv A r s H V Q E R h=>?_;have u:=Bb R;refine(_,(AR (DI (pv 1)<|gtupK (n:=2) K rfl<|B8 (Ao (i:=2) MZ.nd rfl<|Or.inl rfl)<|B8 (Ao (i:=3) MZ.nd rfl<|Or.inl rfl) Dy)<|AY<|BF<|Ng (BW CY (Ag (ixK K u) (pv 0) (Ae GZ (pv 2) AG) λ_ _=>rfl) AG<|nomark _) (Ae Di AG<|pv 3)<|pv 3),B3 (λd o j=>?_) h);obtain⟨m,S,t,rfl,e,T,q⟩:=j;sleep 0;obtain⟨c,C,b,l⟩:=e.at (k:=t / 4) #[2];have a:atI (S.map D.int) ((t:Int) / 2 / 2)=some (.int c):=by
  rw[show (t:Int) / 2 / 2=((t / 4:Nat):Int) by lia];exact Ck (by rw[Ad,C];rfl)
 have g:CS S t=((t:Int) % 2+c) % 2:=by unfold CS;rw[show ((t:Int) / 4).toNat=t / 4 by lia,b]
 refine Ac<|Gf<|AD rfl<|EH rfl<|CH<|A8<|CH<|A8<|ED ?_;refine Bk<|Nq<|Ba<|AO<|AO<|AD rfl<|AO<|AD rfl<|Aa<|jr_I (#[2],#[2])<|Bc a<|Aa<|Co (_,rfl,?_);refine ite2 (λz=>?_) λz=>?_
 ·have z:c=1:=of_decide_eq_true z
  refine AO<|Aa<|AD rfl<|DA ?_;rw[g]at q;rw[show (1:Int)-(t:Int) % 2=((t:Int) % 2+c) % 2 by lia];exact q
 ·have z:¬ c=1:=of_decide_eq_false (FH.mpr z)
  refine AD rfl ?_;rw[g]at q;rw[show (t:Int) % 2=((t:Int) % 2+c) % 2 by lia];exact q
theorem Zyr (Y:Mb mg) (U:Callee P w K mg base 1 "hand_beyond" ["crossings","state"] (spD K fHand)) (B:Callee P w K mg base 2 "follower" ["web","order","end"] (spD K fFol)) (L:Callee P w K mg base 2 "forerunner" ["web","order","end"] (spD K fFore)) (F:BE K "crossed_onward" "crossed_onward" Ml f fd):FnOk P w K mg base CX0 3 f fd ["web","order","crossings","state"] (spD K fCrOn):=by
 refine F.ok Oo (B2 λD T h=>by obtain⟨_,_,_,_,_,rfl,_⟩:=h;rfl) λv A e s H V Q E r h=>?_;have u:=Bb r;refine(_,(AR (Aj (i:=4) Oo.nd rfl (Or.inl rfl)<|Ae Lp (Ag (ixK K u) (pv 3) AG λ_ _=>rfl) AG)<|AR (CF (BW CY (An U (r.mono #[0])<|AA (pv 2)<|AA (pv 3) AE) AG<|nomark _) (AY<|BF<|Ab<|AA (An B (r.mono #[0])<|AA (pv 0)<|AA (pv 1)<|AA (pv 4) AE)<|AA AG AE) CM)<|AY<|BF<|Ab<|AA (An L (r.mono #[0])<|AA (pv 0)<|AA (pv 1)<|AA (pv 4) AE)<|AA AG AE),B3 (λD T j=>?_) h);obtain⟨n,S,o,c,t,rfl,W,O,C,k,q⟩:=j;sleep 0;have g:t / 2<2*S.length:=#[2]
 refine Ac<|Aw<|AO<|AO<|AD rfl<|Aa<|Bc (d:=.int ((t / 2:Nat):Int)) (by rw[show ((t / 2:Nat):Int)=(t:Int) / 2 by lia];rfl)<|Aa<|DA ?_;rw[Ld];have b:((t:Int) / 2).toNat=t / 2:=#[2]
 refine Ac<|CD<|Ba<|AO<|BU<|AF<|AD rfl<|AF<|AD rfl<|AI (S,c,t,rfl,C,k,Aa<|Co (_,rfl,?_));refine ite2 (λz=>?_) λz=>?_
 ·have z:CS c t=0:=of_decide_eq_true z
  refine Bk<|BJ<|AF<|BU<|AF<|AD rfl<|AF<|AD rfl<|AF<|AD rfl<|AI (n,S,o,partner<|t / 2,rfl,W,O,DH g,AF<|Aa<|AI (DJ,?_));have a:=q;unfold cOn at a;rw[AN z,Jr,b]at a;exact a
 ·have z:¬ CS c t=0:=of_decide_eq_false (FH.mpr z)
  refine CN<|Bk<|BJ<|AF<|BU<|AF<|AD rfl<|AF<|AD rfl<|AF<|AD rfl<|AI (n,S,o,partner<|t / 2,rfl,W,O,DH g,AF<|Aa<|AI (DJ,?_));have a:=q;unfold cOn at a;rw[AK z,Oq,b]at a;exact a
end
theorem HL (e:Nat):partner e / 2=e / 2:=by unfold partner;split <;> lia
section
variable {n:Int}{ts:AQ}{o:Ak}{cs:List Int}
theorem OZ (hW:Af n ts) (hO:BG n ts o) (q:x<2*ts.length):∃k:Nat,k<2*ts.length/\D3 ts o x=(k:Int)/\Ca ts o k=(x:Int):=by
 obtain⟨a,g,G⟩:=D9 hW hO q;have d:=g.nodup;obtain⟨i,h⟩:=IM.mp G;have l:=(BQ.mp h).1;have p:=NQ d h;have j:pvI (BM ts o x).length i<(BM ts o x).length:=by unfold pvI;split <;> omega
 rw[Av,AZ j]at p;have m:Fi (BM ts o x) x∈BM ts o x:=by rw[p];exact B6 j
 obtain⟨k,K,P,e⟩:=g.mem.mp m;refine(k,K,e.symm,?_);have r:BM ts o k=BM ts o x:=by unfold BM;rw[P]
 have J:(BM ts o x)[pvI (BM ts o x).length i]?=some (k:Int):=by
  rw[AZ j,e,p];rfl
 unfold Ca;rw[r,HP d J];have:nxI (BM ts o x).length (pvI (BM ts o x).length i)=i:=by
  unfold nxI pvI;repeat' split
  all_goals lia
 rw[this,Av,h];rfl
theorem VJ (hW:Af n ts) (hO:BG n ts o) (j:x<2*ts.length):∃k:Nat,k<2*ts.length/\Ca ts o x=(k:Int)/\D3 ts o k=(x:Int):=by
 obtain⟨g,G,_,e⟩:=Gd hW hO j;obtain⟨k,K,H,a⟩:=OZ hW hO G;have c:=(Tp hW hO).inj ((partner k:Nat):Int) ((partner x:Nat):Int) #[2] (by have:=DH K;lia) #[2] (by have:=DH j;lia) (by unfold onI;rw[BO,BO,Df,Df,a,e]);have b:partner k=partner x:=#[2]
 have h:=congrArg partner b;rw[Df,Df]at h;subst h;exact(g,G,e.symm,H)
theorem LX (cs:List Int) (e:Nat) (j:h=0\/h=1):CS cs (2*(e:Int)+h)=(h+cs.getD (e / 2) 0) % 2:=by
 unfold CS;rw[show ((2*(e:Int)+h) / 4).toNat=e / 2 by lia,show (2*(e:Int)+h) % 2=h by lia]
theorem JM (ts:AQ) (o:Ak) (cs:List Int) (e:Nat) (j:h=0\/h=1):cOn ts o cs (2*(e:Int)+h)=if (h+cs.getD (e / 2) 0) % 2=0 then 2*Ca ts o (partner e) else 2*D3 ts o (partner e)+1:=by
 unfold cOn;rw[LX cs e j,show ((2*(e:Int)+h) / 2).toNat=e by lia]
theorem GX (cs:List Int) (e:Nat) (j:h=0\/h=1):bkI cs (2*(e:Int)+h)=2*((partner e:Nat):Int)+(1-(h+cs.getD (e / 2) 0) % 2):=by
 unfold bkI;rw[LX cs e j,show ((2*(e:Int)+h) / 2).toNat=e by omega]
theorem FT (h0:0<=x) (h1:x<((4*m:Nat):Int)):∃(e:Nat) (h:Int),e<2*m/\(h=0\/h=1)/\x=2*(e:Int)+h:=((x / 2).toNat,x % 2,#[2],#[2],#[2])
theorem cbit (j:CrOk ts cs) (q:e<2*ts.length):cs.getD (e / 2) 0=0\/cs.getD (e / 2) 0=1:=by
 obtain⟨c,_,h,H⟩:=j.at (k:=e / 2) #[4];rw[h];exact H
theorem L0 (j:CrOk ts cs) (h0:0<=x) (h1:x<((4*ts.length:Nat):Int)):bkI cs (bkI cs x)=x/\0<=bkI cs x/\bkI cs x<((4*ts.length:Nat):Int):=by
 obtain⟨e,h,E,H,rfl⟩:=FT h0 h1;have c:=cbit j E;have p:=DH E;rw[GX cs e H];refine(?_,#[2],#[2]);rw[GX cs (partner e) #[2],Df,HL];omega
theorem Js (hW:Af n ts) (hO:BG n ts o) (j:CrOk ts cs) (h0:0<=x) (h1:x<((4*ts.length:Nat):Int)):cOn ts o cs (bkI cs<|cOn ts o cs x)=bkI cs x/\0<=cOn ts o cs x/\cOn ts o cs x<((4*ts.length:Nat):Int):=by
 obtain⟨e,h,E,H,rfl⟩:=FT h0 h1;have C:=cbit j E;have p:=DH E;rw[GX cs e H,JM ts o cs e H];by_cases z:(h+cs.getD (e / 2) 0) % 2=0
 ·rw[AN z]
  obtain⟨k,K,a,b⟩:=VJ hW hO p;have c:=cbit j K;rw[a];refine(?_,#[2],#[2]);rw[show 2*(k:Int)=2*(k:Int)+0 by lia,GX cs k (Or.inl rfl),JM ts o cs (partner k) #[2],HL,Df,AK #[2],b];lia
 ·rw[AK z]
  obtain⟨k,K,a,b⟩:=OZ hW hO p;have c:=cbit j K;rw[a];refine(?_,#[2],#[2]);rw[GX cs k (Or.inr rfl),JM ts o cs (partner k) #[2],HL,Df,AN #[2],b];lia
theorem Jn (hW:Af n ts) (hO:BG n ts o) (j:CrOk ts cs):Cr (cOn ts o cs) (4*ts.length):=by
 refine(λx h H=>(Js hW hO j h H).2,λx y h H a b q=>?_);have e:=(Js hW hO j h H).1;have E:=(Js hW hO j a b).1;rw[q,E]at e;rw[<- (L0 j h H).1,<- e,(L0 j a b).1]
theorem WJ (j:CrOk ts cs) (h0:0<=x) (h1:x<((4*ts.length:Nat):Int)):bkI cs x≠x/\bkI cs x≠cOn ts o cs x:=by
 obtain⟨e,h,E,H,rfl⟩:=FT h0 h1;have c:=cbit j E;rw[GX cs e H,JM ts o cs e H];constructor
 ·have:partner e≠e:=by unfold partner;split <;> lia
  lia
 ·split <;> lia
theorem Vj (hW:Af n ts) (hO:BG n ts o) (B:CrOk ts cs) (h0:0<=x) (h1:x<((4*ts.length:Nat):Int)) (k:Nat):iter (cOn ts o cs) x k≠bkI cs x:=by
 intro q;have F:=Jn hW hO B;have y:∀j,j<=k->bkI cs (iter (cOn ts o cs) x j)=iter (cOn ts o cs) x (k-j):=by
  intro j
  induction j with
  |zero=>intro _;exact q.symm
  |succ j ih=>
   intro hj;have i:=ih #[2];have r:=DG F h0 h1 j;have R:=DG F h0 h1<|j+1;have a:=DG F h0 h1<|k-(j+1);have b:=(L0 B R.1 R.2).2;refine F.inj _ _ b.1 b.2 a.1 a.2 ?_;have E:=(Js hW hO B r.1 r.2).1;rw[show cOn ts o cs (iter (cOn ts o cs) x<|k-(j+1))=iter (cOn ts o cs) x (k-j) by rw[show k-j=(k-(j+1))+1 by lia];rfl,<- i];exact E
 have r:=DG F h0 h1<|k / 2;have z:=WJ (o:=o) B r.1 r.2;have e:=y (k / 2) #[2];by_cases hk:k % 2=0
 ·rw[show k-k / 2=k / 2 by lia]at e
  exact z.1 e
 ·rw[show k-k / 2=k / 2+1 by lia]at e
  exact z.2 e
end
#check 2
def fBack:DSp:=λS t=>∃(d:D) (ts:AQ) (cs:List Int) (s:Nat),S=[d,AX cs,stD s]/\CrOk ts cs/\s<4*ts.length/\t (stD<|bkI cs s)
theorem TL (cs:List Int) (t:Nat):stD (bkI cs t)=.tup [.int ((partner (t / 2):Nat):Int),.int (1-CS cs t)]:=by
 have:=NP cs t;unfold stD bkI;rw[show ((t:Int) / 2).toNat=t / 2 by lia,show (2*((partner (t / 2):Nat):Int)+(1-CS cs t)) / 2=((partner (t / 2):Nat):Int) by lia,show (2*((partner (t / 2):Nat):Int)+(1-CS cs t)) % 2=1-CS cs t by lia]
theorem Zye (B:Mb mg) (j:Callee P w K mg base 1 "hand_beyond" ["crossings","state"] (spD K fHand)) (F:BE K "back_of" "back_of" Mm f fd):FnOk P w K mg base CX0 2 f fd ["web","crossings","state"] (spD K fBack):=by
 refine F.ok Tz (B2 λS o h=>#[11]) λv A r s H V Q E R h=>?_;have u:=Bb R;refine(_,(AY<|BF<|Ab<|AA (Ae Lp (Ag (ixK K u) (pv 2) AG λ_ _=>rfl) AG)<|AA (Ae Di AG<|An j (R.mono #[0])<|AA (pv 1)<|AA (pv 2) AE) AE),B3 (λS o a=>?_) h);obtain⟨d,b,c,t,rfl,C,T,q⟩:=a;sleep 0;rw[TL]at q;refine Bk<|BJ<|AF<|AO<|AO<|AD rfl<|Aa<|Bc (d:=.int ((t / 2:Nat):Int)) (by rw[show ((t / 2:Nat):Int)=(t:Int) / 2 by omega];rfl)<|Aa<|DA ?_;rw[Ld];exact AF<|AO<|Aa<|BU<|AF<|AD rfl<|AF<|AD rfl<|AI (b,c,t,rfl,C,T,DA<|AI (DJ,q))
end
section
variable {n:Int}{ts:AQ}{o:Ak}{cs:List Int}
structure StB (f b:Int->Int) (m:Nat):Prop where
 one:Cr f m
 bb:∀x,0<=x->x<(m:Int)->b (b x)=x/\0<=b x/\b x<(m:Int)
 fb:∀x,0<=x->x<(m:Int)->f (b<|f x)=b x
 out:∀x,0<=x->x<(m:Int)->∀k,iter f x k≠b x
theorem Hq (hW:Af n ts) (hO:BG n ts o) (j:CrOk ts cs):StB (cOn ts o cs) (bkI cs) (4*ts.length):=
 (Jn hW hO j,λx h H=>L0 j h H,λx h H=>(Js hW hO j h H).1,λx h H k=>Vj hW hO j h H k)
end
def CrM (f b:Int->Int) (k:Nat) (x:Int):Prop:=∃e:Nat,e<k/\(x∈orb f (2*(e:Int))\/∃y∈orb f (2*(e:Int)),b y=x)
open Classical in
noncomputable def frB (f b:Int->Int) (k:Nat):Bool:=!decide (CrM f b k (2*(k:Int)))
noncomputable def crTo (f b:Int->Int) (k:Nat):Ak:=((AV k).filter (frB f b)).map λe:Nat=>orb f (2*(e:Int))
theorem FY:frB f b k=true ↔ ¬ CrM f b k (2*(k:Int)):=by
 unfold frB;rw[Bool.not_eq_true',decide_eq_false_iff_not]
theorem GQ (f b:Int->Int) (k:Nat):crTo f b (k+1)=crTo f b k++(if frB f b k=true then [orb f (2*(k:Int))] else []):=by
 unfold crTo;rw[GF,Em,BA];congr 1;by_cases h:frB f b k=true
 ·rw[AN h,ID h];rfl
 ·rw[AK h,IE h];rfl
theorem Nr (f b:Int->Int) (k:Nat):(crTo f b k).length<=k:=by
 unfold crTo;rw[AJ];exact Bg (MH _ _) (by rw[Bt];exact AU _)
section
variable {f b:Int->Int}{m:Nat}(S:StB f b m)
include S
theorem SD {e x:Int}(h0:0<=e) (h1:e<(m:Int)) (j:x∈orb f e):∃z∈orb f e,f z=x:=by
 obtain⟨i,h,rfl⟩:=B1.mp j;cases i with
 |zero=>
  have O:=Fd S.one h0 h1;have p:=O.pos;refine(iter f e<|per f e-1,Ci S.one h0 h1 _,?_);have:=O.back;rw[show per f e=(per f e-1)+1 by lia]at this;exact this
 |succ i=>exact(iter f e i,Ci S.one h0 h1 _,rfl)
theorem LR {k:Nat}(j:2*k<=m) {x:Int}(h:CrM f b k x):0<=x/\x<(m:Int)/\CrM f b k (f x)/\CrM f b k (b x):=by
 obtain⟨e,H,h⟩:=h;have E:(0:Int)<=2*(e:Int):=#[2]
 have a:2*(e:Int)<(m:Int):=#[2]
 rcases h with h|⟨y,Y,rfl⟩
 ·obtain⟨r,R⟩:=Fe S.one E a h
  obtain⟨i,_,I⟩:=B1.mp h;exact(r,R,(e,H,.inl (by rw[<- I];exact Ci S.one E a<|i+1)),(e,H,.inr (x,h,rfl)))
 ·obtain⟨z,Z,rfl⟩:=SD S E a Y
  obtain⟨r,R⟩:=Fe S.one E a Z;obtain⟨q,Q⟩:=Fe S.one E a Y;obtain⟨d,B,c⟩:=S.bb _ q Q;refine(B,c,(e,H,.inr (z,Z,(S.fb z r R).symm)),(e,H,.inl (by rw[d];exact Y)))
theorem JP {k:Nat}(q:2*k<=m) {x:Int}(h:CrM f b k x):∀j,CrM f b k (iter f x j)
 |0=>h
 |j+1=>(LR S q (JP q h j)).2.2.1
theorem LS {k:Nat}(j:2*k<=m) {x:Int}(h0:0<=x) (h1:x<(m:Int)) {y:Int}(Y:y∈orb f x) (h:CrM f b k y):CrM f b k x:=by
 obtain⟨r,R⟩:=Fe S.one h0 h1 Y;have:=FQ S.one h0 h1 Y;obtain⟨i,_,rfl⟩:=B1.mp this;exact JP S j h i
theorem HS {k:Nat}(j:2*k+2<=m) {x:Int}:CrM f b (k+1) x↔CrM f b k x\/(frB f b k=true/\(x∈orb f (2*(k:Int))\/∃y∈orb f (2*(k:Int)),b y=x)):=by
 constructor
 ·rintro⟨e,E,h⟩
  rcases ES (En E) with c|c
  ·exact .inl (e,c,h)
  ·subst c
   by_cases q:CrM f b e (2*(e:Int))
   ·left
    rcases h with h|⟨y,Y,rfl⟩
    ·obtain⟨i,_,rfl⟩:=B1.mp h
     exact JP S #[2] q i
    ·obtain⟨i,_,rfl⟩:=B1.mp Y
     exact(LR S #[4]<|JP S #[4] q i).2.2.2
   ·right
    exact(FY.mpr q,h)
 ·rintro(⟨e,E,h⟩|⟨_,h⟩)
  ·exact(e,#[2],h)
  ·exact(k,#[2],h)
end
def Dc (s:Int):List Int:=[s / 2,s % 2]
def crD (r:List Int):D:=.tup<|r.map stD
theorem Zzh (r:List Int):crD r=codD (r.map Dc):=by
 unfold crD codD;rw[BS];rfl
noncomputable def allC (ts:AQ) (o:Ak) (cs:List Int):Ak:=Az (lone o) []++crTo (cOn ts o cs) (bkI cs) (2*ts.length)
theorem SG (S:StB f b m) (j:2*k<=m) {i:Nat}(h:(crTo f b k)[i]?=some r):∃(e:Nat) (l:List Int),((AV k).filter (frB f b))[i]?=some e/\e<k/\r=2*(e:Int)::l:=by
 unfold crTo at h;rw[Ad]at h;cases z:((AV k).filter (frB f b))[i]? with
 |none=>exists 0,z,h
 |some e=>
  rw[z]at h;have h:orb f (2*(e:Int))=r:=#[9]
  have E:=BB.mp (CB.mp<|Be z).1;obtain⟨l,L⟩:=Rt S.one (e:=2*(e:Int)) #[4] #[4];exact(e,l,rfl,E,by rw[<- h,L])
theorem Zv1 (S:StB f b m) (O:2*k<=m) (z:Nat):AscC ((Az z []++crTo f b k).map (A7 Dc)):=by
 intro i a c A C;rw[Ad]at A C;by_cases h:i<z
 ·rw[DT (by rw[CU];exact h),GB,AN h]at A
  left
  have:([]:Ak)=a:=by simpa using A
  exact this.symm
 ·rw[Cf (by rw[CU];lia),CU]at A C
  cases za:(crTo f b k)[i-z]? with
  |none=>exists 0,za,A
  |some ra=>
   cases zc:(crTo f b k)[i+1-z]? with
   |none=>exists 0,zc,C
   |some rc=>
    rw[za]at A;rw[zc]at C;obtain⟨e,l,q,n,rfl⟩:=SG S O za;obtain⟨E,L,Q,o,rfl⟩:=SG S O zc;have t:e<E:=by
     have p:((AV k).filter (frB f b)).Pairwise (· < ·):=List.Pairwise.filter _ D5;obtain⟨d,g⟩:=BQ.mp q;obtain⟨B,j⟩:=BQ.mp Q;have:=IH.mp p (i-z) (i+1-z) d B #[2];rw[g,j]at this;exact this
    have A:Dc (2*(e:Int))::l.map Dc=a:=by simpa using A
    have C:Dc (2*(E:Int))::L.map Dc=c:=by simpa using C
    refine .inr (_,_,_,_,A.symm,C.symm,?_,?_)
    ·unfold Dc
     rw[show 2*(e:Int) / 2=e by lia,show 2*(E:Int) / 2=E by lia];intro w;have:=(Ft.inj w).1;lia
    ·unfold Dc
     rw[show 2*(e:Int) / 2=e by omega,show 2*(E:Int) / 2=E by omega,Vm,AK #[2]];exact BI #[2]
section
variable {n:Int}{ts:AQ}{o:Ak}{cs:List Int}
theorem RU (hW:Af n ts) (hO:BG n ts o):(allC ts o cs).length<=100:=by
 unfold allC;rw[Ar,CU];have:=Nr (cOn ts o cs) (bkI cs) (2*ts.length);have:=Nv o;have:=hO.len;have:=hW.hi;have:=hW.len;lia
theorem Ry (hW:Af n ts) (hO:BG n ts o) (j:CrOk ts cs):AscC ((allC ts o cs).map (A7 Dc)):=Zv1 (Hq hW hO j) #[2] _
end
theorem Tg (l:Ak):l.map crD=(l.map<|A7 Dc).map codD:=by
 rw[BS];exact DU λr _=>Zzh r
def prI (x:Int):Int × Int:=(x / 2,x % 2)
theorem My (x:Int):dP (prI x)=stD x:=rfl
theorem Zzy (h:prI x=prI y):x=y:=by
 have H:x / 2=y / 2:=congrArg Prod.fst h;have a:x % 2=y % 2:=congrArg Prod.snd h;lia
structure StK (m:Nat) (ks:AQ) (M:Int->Prop):Prop where
 nd:ks.Nodup
 rg:∀p∈ks,∃x:Nat,x<m/\p=prI (x:Int)
 mem:∀x:Nat,x<m->(prI (x:Int)∈ks↔M (x:Int))
theorem StK.len (h:StK m ks M):ks.length<=m:=by
 have H:ks.length<=((AV m).map λx:Nat=>prI (x:Int)).length:=by
  have n:∀{ms l:AQ},ms.Nodup->(∀x∈ms,x∈l)->ms.length<=l.length:=by
   intro ms
   induction ms with
   |nil=>intro l _ _;exact Bp _
   |cons x ms ih=>
    intro l H h2;rw[DS]at H;have X:=h2 x #[3];have:=ih (l:=l.erase x) H.2 λy Y=>(KL λz:y=x=>H.1 (z ▸ Y)).mpr (h2 y (by simp[Y]));rw[Gw X]at this;have:=Gx X;rw[BH];lia
  exact n h.nd λp P=>by
   obtain⟨x,X,rfl⟩:=h.rg p P;exact A6.mpr (x,BB.mpr X,rfl)
 rwa [AJ,Bt]at H
theorem Qn:q∈addP ks k↔q∈ks\/q=k:=by
 unfold addP;split
 ·rename_i h
  exact(.inl,λz=>by rcases z with z|z;exact z;rw[z];exact h)
 ·rw[CV,CK]
theorem StK.add (h:StK m ks M) (j:x<m):StK m (addP ks<|prI (x:Int)) λy=>M y\/y=(x:Int):=by
 refine(?_,λp P=>?_,λy Y=>?_)
 ·unfold addP
  split
  ·exact h.nd
  ·rename_i hn
   exact Fp.mpr (h.nd,#[3],λa A b B=>by
    have:b=prI (x:Int):=#[12]
    subst this;exact λz=>hn (z ▸ A))
 ·rcases Qn.mp P with P|P
  ·exact h.rg p P
  ·exact(x,j,P)
 ·rw[Qn,h.mem y Y]
  constructor
  ·rintro(z|z)
   ·exact .inl z
   ·exact .inr<|Zzy z
  ·rintro(z|z)
   ·exact .inl z
   ·exact .inr (by rw[z])
theorem StK.cong (h:StK m ks M) (e:∀x:Nat,x<m->(M (x:Int)↔M' (x:Int))):StK m ks M':=(h.nd,h.rg,λx X=>(h.mem x X).trans (e x X))
theorem Zzd (m:Nat) (h:∀x:Nat,x<m->¬ M (x:Int)):StK m [] M:=(GH,(λp P=>nomatch P),λx X=>(λz=>(nomatch z),λz=>(h x X z).elim))
theorem smP {T x:Nat}(j:T<=24) (q:x<4*T):SmP (prI (x:Int)):=by
 unfold SmP prI;simp only;lia
def fRnd:DSp:=λd t=>∃n ts o cs,∃s:Nat,d=[Am n ts,BL o,AX cs,stD s]/\Af n ts/\BG n ts o/\CrOk ts cs/\s<4*ts.length/\t (crD<|orb (cOn ts o cs) s)
def fCrF:NSp:=λs t=>∃n ts o cs,s=[Am n ts,BL o,AX cs]/\Af n ts/\BG n ts o/\CrOk ts cs/\t ((allC ts o cs).map crD)
theorem RA (o:Ak) (p:D->Bool) (q:∀r:List Int,p (rowD r)=r.isEmpty) (g:D->D) (j:∀d,g d=.tup []):((o.map rowD).filter p).map g=(Az (lone o) ([]:List Int)).map crD:=by
 rw[Zr1 o p q g j];rw[MM,MM];rfl
theorem WE (x y:Int):(x / 2 == y / 2 && x % 2 == y % 2)=decide (x=y):=by
 rw[Fo,Cv,beq_iff_eq,beq_iff_eq,decide_eq_true_iff];lia
#check 2
theorem VT (L:Mb mg) (B:Callee P w K mg base 3 "crossed_onward" ["web","order","crossings","state"] (spD K fCrOn)) (F:BE K "round_from" "round_from" Mo f fd):FnOk P w K mg base CX0 4 f fd ["web","order","crossings","state"] (spD K fRnd):=by
 refine F.ok Kw (B2 λS T h=>by obtain⟨_,_,_,_,_,rfl,_⟩:=h;rfl) λv A u s H z Q E R h=>?_;have U:=Bb R;have V:=Ff R;refine(_,(AR (Aj (i:=4) Kw.nd rfl (Or.inl rfl)<|CG<|AA (pv 3) AE)<|AR (Aj (i:=5) Kw.nd rfl (Or.inl rfl)<|An B (R.mono #[0])<|AA (pv 0)<|AA (pv 1)<|AA (pv 2)<|AA (pv 3) AE)<|AR (FK PassesOwn.never (BW (nePK K U) (pv 5) (pv 3)<|nomark _)<|AR (CW<|bmK K PySem.F.plainAttrs_list PySem.F.slot_list_append PySem.F.type_list_append Dw (pv 4)<|AA (pv 5) AE)<|AY<|Aj (i:=5) Kw.nd rfl (Or.inl rfl)<|An B (R.mono #[0])<|AA (pv 0)<|AA (pv 1)<|AA (pv 2)<|AA (pv 5) AE)<|AY<|BF<|Ed (tupK K) rfl (L "tuple" #[0]) Ey<|AA (pv 4) AE),B3 (λS T x=>?_) h);obtain⟨n,t,o,c,e,rfl,W,g,C,p,q⟩:=x;sleep 0;have O:=Jn W g C;have y:=W.len;have a:(0:Int)<=(e:Int):=#[2]
 have b:(e:Int)<((4*t.length:Nat):Int):=#[2]
 refine Ac<|Cw<|Fb<|AF<|AD rfl<|AI (#[7],?_);refine Ac<|Aw<|BU<|AF<|AD rfl<|AF<|AD rfl<|AF<|AD rfl<|AF<|AD rfl<|AI (n,t,o,c,e,rfl,W,g,C,p,?_);refine Bh (λJ=>∃k:Nat,Dl (cOn t o c) e k /\ J = [.val (Am n t),.val (BL o),.val (AX c),.val (stD e),.own (.lst ((Bs (cOn t o c) e k).map stD)),.val (stD<|iter (cOn t o c) e k)]) ?_ ?_
 ·refine FN (fun μ J=>∃k:Nat,1<=k/\NdTo (cOn t o c) e k /\ μ = 4*t.length-k /\ J = [.val (Am n t),.val (BL o),.val (AX c),.val (stD e),.own (.lst ((Bs (cOn t o c) e k).map stD)),.val (stD<|iter (cOn t o c) e k)]) (_,1,AU _,OG O a b,rfl,rfl) ?_
  rintro μ l ⟨k,hk,nd,rfl,rfl⟩;have m:=Gj O a b nd;have r:=DG O a b k;refine Ba<|AO<|AD rfl<|AD rfl<|Uy (_,rfl,?_);rw[WE];by_cases hb:iter (cOn t o c) e k=e
  ·rw[BD hb]
   exact iteF (k,(#[2],hb,nd),rfl)
  ·rw[BI hb]
   have d:=Le O a b hk nd hb;have M:=Gj O a b d;refine iteT<|Ac<|FZ rfl rfl<|AD rfl (_,_,rfl,rfl,?_,?_)
   ·rw[AJ,Iz];exact small1000 #[2]
   refine Aw<|BU<|AF<|AD rfl<|AF<|AD rfl<|AF<|AD rfl<|AF<|AD rfl<|AI (n,t,o,c,(iter (cOn t o c) e k).toNat,?_,W,g,C,#[2],?_)
   ·rw[show (((iter (cOn t o c) e k).toNat:Nat):Int)=iter (cOn t o c) e k by lia]
   refine(4*t.length-(k+1),#[2],k+1,#[2],d,rfl,?_);rw[NK,BA,show (((iter (cOn t o c) e k).toNat:Nat):Int)=iter (cOn t o c) e k by omega];rfl
 rintro l ⟨k,j,rfl⟩;have m:=Gj O a b j.nd;rw[j.orb]at q;exact Bk<|A3<|AF<|Ef rfl<|AI<|E6 (Or.inl rfl) q
theorem VD (mb:Mb mg) (a3:Callee P w K mg base 4 "round_from" ["web","order","crossings","state"] (spD K fRnd)) (a2:Callee P w K mg base 2 "back_of" ["web","crossings","state"] (spD K fBack)) (F:BE K "crossed_faces" "crossed_faces" Ks f fd):FnOk P w K mg base CX0 5 f fd ["web","order","crossings"] (spN K fCrF):=by
 refine F.ok HG (GY λM p h=>#[11]) λa1 A a0 s H vs Q E R h=>?_;have U:=Bb R;have hv:=Ff R;refine(_,(AR (HW (i:=3) ["row"] (show CompSc (defScope Ks) ["web","order","crossings","told","gone","end","face","state"] _ [] [] from (rfl,#[1],#[1],#[1],rfl,#[1])) rfl HG.nd rfl (Or.inl rfl) (seqK K<|pv 1) (λ_ _ _ _ _=>(Ao (i:=0) (show List.Nodup (["row"]:List Str) from #[0]) rfl<|Or.inl rfl)) (λ_ _ _ _ _=>(F2<|Jm<|truK K (pv 0) λ_=>rfl)) λ_ _ _ _ _=>(@Ab _ _ _ _ _ AE))<|AR (Aj (i:=4) HG.nd rfl (Or.inl rfl)<|Zqq Zqe rfl (mb "set" #[0]) Tu)<|AR (Bv PassesOwn.never rfl (CP rfl (mb "range" #[0])<|AA (Ae DO AG<|A0 (lenK K) rfl (mb "len" #[0]) Bi<|AA (Ag (ixK K U) (pv 0) AG λ_ _=>rfl) AE) AE) (Ao (i:=5) HG.nd rfl<|Or.inl rfl)<|AY<|CF (BW (ninT U) (Ab<|AA (pv 5)<|AA AG AE) (pv 4) rfl) (AR (Aj (i:=6) HG.nd rfl (Or.inl rfl)<|An a3 (R.mono #[0])<|AA (pv 0)<|AA (pv 1)<|AA (pv 2)<|AA (Ab<|AA (pv 5)<|AA AG AE) AE)<|AR (CW<|bmK K PySem.F.plainAttrs_list PySem.F.slot_list_append PySem.F.type_list_append Dw (pv 3)<|AA (pv 6) AE)<|AY<|Bv PassesOwn.never rfl (seqK K<|pv 6) (Ao (i:=7) HG.nd rfl<|Or.inl rfl)<|AR (CW<|bmS PySem.F.plainAttrs_set PySem.F.slot_set_add PySem.F.type_set_add (RC U) (pv 4)<|AA (pv 7) AE)<|AY<|CW<|bmS PySem.F.plainAttrs_set PySem.F.slot_set_add PySem.F.type_set_add (RC U) (pv 4)<|AA (An a2 (R.mono #[0])<|AA (pv 0)<|AA (pv 2)<|AA (pv 7) AE) AE) CM)<|AY<|BF<|A0 (sortCK K hv) rfl (mb "sorted" #[0]) NM<|AA (pv 3) AE),Gn (λM p hf=>?_) h);obtain⟨n,T,o,cs,rfl,W,C,I,q⟩:=hf;sleep 0;have S:=Hq W C I;have O:=S.one;have hw:=W.len;have hn:=W.hi;have ho:=C.len;have Z:=Nv o;refine Ac<|Cw<|Hc #[0]<|FW<|AD rfl (_,rfl,?_,λd=>match d with|.tup M=>M.isEmpty|_=>false,λ_=>.tup [],λi d D=>?_,?_)
 ·rw[AJ];exact small1000 #[2]
 ·rw[Ad]at D
  cases z:o[i]? with
  |none=>exists 0,z,D
  |some r=>
   rw[z]at D;have D:AX r=d:=by simpa using D
   subst D;refine Gg<|Dg<|AD rfl (_,rfl,?_,?_)
   ·cases r <;> rfl
   ·cases r with
    |nil=>exact iteT (BJ (AI (#[0],rfl,_,rfl)))
    |cons x t=>exact iteF (_,rfl)
 rw[show o.map AX=o.map rowD from rfl,RA o _ (λr=>by cases r <;> rfl) _ λ_=>rfl]
 refine Ac<|Cw<|Zy5 ?_;refine Bh (λJ=>∃(j:AQ) (m l X:L2.Slot),J = [.val (Am n T),.val (BL o),.val (AX cs),.own (.lst ((allC T o cs).map crD)),.own (stO j),m,l,X]) ?_ ?_
 ·refine Bx (CQ ?_)
  refine AF<|AO<|Aa<|A3 ?_;refine AF<|AO<|AD rfl<|Aa<|Bc (d:=.tup<|T.map BY) rfl ?_;refine AI<|B7 (Or.inr rfl) ?_;rw[AJ];refine jr_I (Or.inl (#[2],#[2]))<|AI (_,rfl,#[2],#[2],?_);have eL:((2:Int)*(T.length:Int)).toNat=2*T.length:=#[2]
  rw[eL];refine(λk J=>∃(j:AQ) (m l X:L2.Slot),StK (4*T.length) j (CrM (cOn T o cs) (bkI cs) k) /\ J = [.val (Am n T),.val (BL o),.val (AX cs),.own (.lst ((Az (lone o) []++crTo (cOn T o cs) (bkI cs) k).map crD)),.own (stO j),m,l,X],([],.any,.any,.any,Zzd _ λx _ (e,he,_)=>absurd he<|Dr _,?_),?_,?_)
  ·rw[show crTo (cOn T o cs) (bkI cs) 0=[] from rfl,Bj];rfl
  ·rintro k d J2 D ⟨j,m,l,X,G,rfl⟩
   obtain⟨hk,rfl⟩:=B9 D;rw[B0];have fl:=Nr (cOn T o cs) (bkI cs) k;have u:((2*k:Nat):Int)=2*(k:Int):=#[2]
   refine A8<|CD<|Ba<|UK<|BJ<|AF<|AD rfl<|AF<|Aa<|AI (DJ,_,j,prI ((2*k:Nat):Int),rfl,rfl,?_,smP hw #[2],_,rfl,?_)
   ·rw[My,u,Jr]
   by_cases hm:CrM (cOn T o cs) (bkI cs) k ((2*k:Nat):Int)
   ·rw[BD ((G.mem (2*k) #[4]).mpr hm)]
    have L:frB (cOn T o cs) (bkI cs) k=false:=by
     rw[FH];intro z;exact FY.mp z (u ▸ hm)
    refine iteF<|CN (j,.val (.int (k:Int)),l,X,G.cong λx hx=>?_,?_)
    ·rw[HS S #[2],L];simp
    ·rw[GQ,AK (by rw[L];exact BV),Bj];rfl
   ·rw[BI (λz=>hm ((G.mem (2*k) #[4]).mp z))]
    have L:frB (cOn T o cs) (bkI cs) k=true:=FY.mpr (u ▸ hm);have ol:=Uj O (e:=2*(k:Int)) #[2] #[2];refine iteT<|Ac<|Aw<|BU<|AF<|AD rfl<|AF<|AD rfl<|AF<|AD rfl<|AF<|BJ<|AF<|AD rfl<|AF<|Aa<|AI (DJ,AI (n,T,o,cs,2*k,?_,W,C,I,#[4],?_))
    ·rw[u,Jr]
    rw[u];refine Ac<|FZ rfl rfl<|AD rfl (_,_,rfl,rfl,?_,?_)
    ·rw[AJ,Ar,CU];exact small1000 #[2]
    refine Bx<|FW<|AD rfl (_,rfl,λi J=>∃(g:AQ) (X:L2.Slot),StK (4*T.length) g (λx=>CrM (cOn T o cs) (bkI cs) k x\/x∈(orb (cOn T o cs) (2*(k:Int))).take i\/∃y∈(orb (cOn T o cs) (2*(k:Int))).take i,bkI cs y=x) /\ J = [.val (Am n T),.val (BL o),.val (AX cs),.own (.lst ((Az (lone o) []++crTo (cOn T o cs) (bkI cs) k).map crD++[crD (orb (cOn T o cs) (2*(k:Int)))])),.own (stO g),.val (.int (k:Int)),.val (crD<|orb (cOn T o cs) (2*(k:Int))),X],(j,_,G.cong λx hx=>by rw[EY];simp,rfl),?_,?_)
    ·rintro i d J3 D ⟨g,X,c,rfl⟩
     rw[Ad]at D;cases z:(orb (cOn T o cs) (2*(k:Int)))[i]? with
     |none=>exists 0,z,D
     |some y=>
      rw[z]at D;have D:stD y=d:=by simpa using D
      subst D;obtain⟨r0,r1⟩:=Fe O #[4] #[4]<|Be z;obtain⟨Y,rfl⟩:∃Y:Nat,y=(Y:Int):=(y.toNat,#[2]);have V:Y<4*T.length:=#[2]
      obtain⟨_,b0,b1⟩:=S.bb _ r0 r1;obtain⟨B,N⟩:∃B:Nat,bkI cs (Y:Int)=(B:Int):=((bkI cs (Y:Int)).toNat,#[2]);have v:B<4*T.length:=#[2]
      have l2:=c.len;have S3:=c.add V;have l3:=S3.len;refine A8<|Ac<|Rn rfl rfl<|AD rfl (_,g,prI (Y:Int),rfl,rfl,My _,smP hw V,#[2],?_);refine Rn rfl rfl<|BU<|AF<|AD rfl<|AF<|AD rfl<|AF<|AD rfl<|AI (_,T,cs,Y,rfl,I,V,_,_,prI (B:Int),rfl,rfl,?_,smP hw v,#[2],_,_,(S3.add v).cong λx hx=>?_,rfl)
      ·rw[My,<- N]
      ·rw[Cu,z]
       simp only[Option.toList_some,CV,CK];constructor
       ·rintro((a|a)|a)
        ·rcases a with a|a|⟨y,a,b⟩
         ·exact .inl a
         ·exact .inr (.inl (.inl a))
         ·exact .inr (.inr (y,.inl a,b))
        ·exact .inr (.inl (.inr a))
        ·exact .inr (.inr (_,.inr rfl,by rw[N,a]))
       ·rintro(a|(a|a)|⟨y,a|a,b⟩)
        ·exact .inl (.inl (.inl a))
        ·exact .inl (.inl (.inr (.inl a)))
        ·exact .inl (.inr a)
        ·exact .inl (.inl (.inr (.inr (y,a,b))))
        ·subst a;exact .inr (by rw[<- b,N])
    ·rintro J3 ⟨g,X,c,rfl⟩
     rw[AJ]at c;rw[Bm]at c;refine(g,.val (.int (k:Int)),.val<|crD<|orb (cOn T o cs) (2*(k:Int)),X,c.cong λx hx=>?_,?_)
     ·rw[HS S #[4],L];simp
     ·rw[GQ,AN L,<- DM,BA (l₂:=[orb (cOn T o cs) (2*(k:Int))])]
      rfl
  ·rintro J2 ⟨j,m,l,X,G,rfl⟩
   rw[CC];exact(j,_,_,_,rfl)
 rintro J1 ⟨j,m,l,X,rfl⟩;have al:=RU (cs:=cs) W C;rw[Tg]at q ⊢;exact F4<|Ro<|AF<|Ef rfl<|AI (_,rfl,by rw[AJ];lia,Ry W C I,_,rfl,q)
def fLack:DSp:=λs t=>∃n ts,∃c:Int,s=[Am n ts,.int c]/\Af n ts/\∀ms,BK ms (AW n.toNat ts)->t (.int (2*(ms.length:Int)-n+(ts.length:Int)-c))
theorem Zp7 (B:Mb mg) (j:Callee P w K mg base 1 "parts_of" ["web"] (spN K Jw)) (F:BE K "lacking" "lacking" Mg f fd):FnOk P w K mg base CX0 2 f fd ["web","faces_many"] (spD K fLack):=by
 refine F.ok MY (B2 λd t h=>#[6]) λv A r s H V Q E R h=>?_;have u:=Bb R;refine(_,(AR (DI (pv 0)<|gtupK (n:=2) K rfl<|B8 (Ao (i:=2) MY.nd rfl<|Or.inl rfl)<|B8 (Ao (i:=3) MY.nd rfl<|Or.inl rfl) Dy)<|AY<|BF<|Ae Di (Ae (addK K) (Ae Di (Ae DO AG<|A0 (lenK K) rfl (B "len" #[0]) Bi<|AA (An j (R.mono #[0])<|AA (pv 0) AE) AE)<|pv 2)<|A0 (lenK K) rfl (B "len" #[0]) Bi<|AA (pv 3) AE)<|pv 1),B3 (λd t a=>?_) h);obtain⟨n,S,c,rfl,W,q⟩:=a;sleep 0;have N:=W.lo;have b:=W.hi;have T:=W.len;have L:=Cy n.toNat S;refine Ac<|Gf<|AD rfl<|EH rfl<|CH<|A8<|CH<|A8<|ED ?_;refine Bk<|AO<|AO<|AO<|AO<|Aa<|A3<|AF<|Cz<|EF<|AF<|AD rfl<|AI (n,S,rfl,W,λm M=>(_,rfl,?_));have l:=M.len;refine AI<|B7 (Or.inl rfl) ?_;rw[AJ,show (DB n.toNat S m).length=m.length from AJ _];refine jr_I (Or.inl (#[2],#[2]))<|AD rfl<|DA<|A3<|AF<|AD rfl<|AI<|B7 (Or.inr rfl) ?_;rw[AJ];refine EB<|AD rfl<|DA ?_;exact q m M
noncomputable def F8 (n:Int) (ts:AQ) (o:Ak) (cs:List Int) (ms:List Int):Int:=2*(ms.length:Int)-n+(ts.length:Int)-((allC ts o cs).length:Int)
def fLk:DSp:=λs t=>∃n ts o cs,s=[Am n ts,BL o,AX cs]/\Af n ts/\BG n ts o/\CrOk ts cs/\∀ms,BK ms (AW n.toNat ts)->t (.int<|F8 n ts o cs ms)
theorem Zy1 (B:Mb mg) (z:Callee P w K mg base 2 "lacking" ["web","faces_many"] (spD K fLack)) (j:Callee P w K mg base 5 "crossed_faces" ["web","order","crossings"] (spN K fCrF)) (F:BE K "lack" "lack" Mp f fd):FnOk P w K mg base CX0 6 f fd ["web","order","crossings"] (spD K fLk):=by
 refine F.ok T3 (B2 λd t h=>#[11]) λv A e s H b Q E r h=>?_;have u:=Bb r;have V:=Ff r;refine(_,(AY<|BF<|An z (r.mono #[0])<|AA (pv 0)<|AA (A0 (lenK K) rfl (B "len" #[0]) Bi<|AA (An j (r.mono #[0])<|AA (pv 0)<|AA (pv 1)<|AA (pv 2) AE) AE) AE),B3 (λd t a=>?_) h);obtain⟨n,S,o,c,rfl,W,O,C,q⟩:=a;sleep 0;refine Bk<|BU<|AF<|AD rfl<|AF<|A3<|AF<|Cz<|EF<|AF<|AD rfl<|AF<|AD rfl<|AF<|AD rfl<|AI (n,S,o,c,rfl,W,O,C,_,rfl,?_);refine AI<|B7 (Or.inl rfl)<|AI (n,S,_,rfl,W,λM m=>?_);rw[AJ];exact q M m
theorem SW (j:J[n]?=some x) (ho:x.od=some (.dct kvs)) (p:Pd (.int kvs.length) J):JE K (tCB (rLenU K)<|tCons (tVar n) tNil) J Pd:=λg G H Z Q k c=>by
 obtain⟨a,o,b,d,h,e,f⟩:=k.own n x _ j ho;cases o with
 |dK vs=>
  have l:vs.length=kvs.length:=Paired.length h;refine(.ref a,b,.inr (a,vs,rfl,d,?_));rw[l];exact c _ _ G H J k (Same.refl _) (.int _) p
 |_=>exact absurd h (λz=>z)
end
def DY (r:List Int):AQ:=(AV r.length).map λk=>(r.getD k 0,r.getD (pvI r.length k) 0)
theorem PF (r:List Int):(DY r).length=r.length:=by simp[DY]
theorem M1 (h:k<r.length):(DY r)[k]?=some (r.getD k 0,r.getD (pvI r.length k) 0):=by
 unfold DY;rw[Ad,Ek h];rfl
theorem WT (r:List Int):(DY r).map (·.1)=r:=by
 apply EU;intro k;rw[Ad];by_cases h:k<r.length
 ·rw[M1 h,AZ h,Av,AZ h];rfl
 ·rw[Ds (by rw[PF];lia),Ds #[4]];rfl
theorem Zp9 (h:x∈r):(x,Fi r x)∈DY r:=by
 obtain⟨H,a,_⟩:=HV h;refine Be (i:=r.idxOf x) ?_;rw[M1 H];congr 1;rw[Av,a];rfl
theorem M7 (o:Ak):(o.flatMap DY).map (·.1)=o.flatten:=by
 induction o with
 |nil=>rfl
 |cons r o ih=>rw[DL,BA,ih,WT,MA]
theorem Zwb (hW:Af n ts) (hO:BG n ts o) (j:e<2*ts.length):valD ((o.flatMap DY).map DR) (.inl (e:Int))=some (.int<|D3 ts o e):=by
 obtain⟨g,a,G⟩:=D9 hW hO j;exact TQ (by rw[M7];exact hO.flat)<|EV.mpr (_,Be g,Zp9 G)
theorem Zqr {A B:AQ}{y:Int × Int}(h:((A++y::B).map (·.1)).Nodup):y.1 ∉ A.map (·.1):=by
 rw[BA,Fp]at h;intro hm;exact h.2.2 _ hm _ (by rw[Bz];exact B5) rfl
theorem Rr {g:List Int->AQ}{o:Ak}(q:((o.flatMap g).map (·.1)).Nodup) {i:Nat}{r:List Int}(z:o[i]?=some r) {k:Nat}{x y:Int}(j:(g r)[k]?=some (x,y)) :
  putD (((o.take i).flatMap g++(g r).take k).map DR) (.inl x) (.int y)=((o.take i).flatMap g++(g r).take (k+1)).map DR/\((o.take i).flatMap g++(g r).take k).length<(o.flatMap g).length:=by
 have K:o.take (i+1)=o.take i++[r]:=by rw[Cu,z];rfl
 have e:o.flatMap g=(o.take i).flatMap g++(g r++(o.drop<|i+1).flatMap g):=by
  conv=>lhs;rw[<- GC (i+1) o,K]
  rw[FE,FE];simp[DM]
 have T:(g r).take (k+1)=(g r).take k++[(x,y)]:=by rw[Cu,j];rfl
 have D:g r=(g r).take k++(x,y)::(g r).drop (k+1):=by
  conv=>lhs;rw[<- GC (k+1) (g r),T]
  simp
 have t:=(BQ.mp j).1;refine(?_,?_)
 ·rw[e,D,DM,<- DM,List.cons_append]at q
  rw[Zz0 (Zqr q),T,DM]
 ·rw[e,Ar,Ar,Ar,Bo];lia
theorem Se {g:List Int->AQ}{o:Ak}(z:o[i]?=some r) (j:k=(g r).length):(o.take i).flatMap g++(g r).take k=(o.take<|i+1).flatMap g:=by
 subst j;rw[Bm,Cu,z,FE];simp
def keyI (x:Int):List AS:=(Dc x).map .inl
theorem Zvp (h:keyI x=keyI y):x=y:=by
 have H:(Sum.inl (x / 2):AS)=.inl (y / 2):=(Ft.inj h).1;have a:(Sum.inl (x % 2):AS)=.inl (y % 2):=(Ft.inj (Ft.inj h).2).1;injection H with H
 injection a with a
 omega
structure MtK (m:Nat) (kvs:List (List AS × D)) (M:Int->Prop):Prop where
 mem:∀x:Nat,x<m->((valT kvs<|keyI (x:Int)).isSome=true↔M (x:Int))
theorem QR (kvs:List (List AS × D)) (k:List AS):(valT kvs k).isSome=kvs.any λkv=>decide (kv.1=k):=by
 unfold valT;rw[KG,Fo,List.find?_isSome,MD]
theorem Zw7 (kvs:List (List AS × D)) (k q:List AS) (v:D):((putT kvs k v).any λkv=>decide (kv.1=q))=((kvs.any λkv=>decide (kv.1=q)) || decide (k=q)):=by
 unfold putT;by_cases c:(kvs.any λkv=>decide (kv.1=k))=true
 ·rw[AN c,KO]
  have e:((λkv:List AS × D=>decide (kv.1=q))∘λkv=>if kv.1=k then (kv.1,v) else kv)=λkv=>decide (kv.1=q):=by
   funext kv
   show decide ((if kv.1=k then (kv.1,v) else kv).1=q)=_;split <;> rfl
  rw[e];by_cases h:k=q
  ·subst h;rw[c];rfl
  ·rw[BI h,Bool.or_false]
 ·rw[AK c,List.any_append]
  simp
theorem RV (kvs:List (List AS × D)) (k:List AS) (v:D):(putT kvs k v).length<=kvs.length+1:=by
 unfold putT;split
 ·rw[AJ];lia
 ·rw[Ar];exact AU _
theorem MtK.put (h:MtK m kvs M) (v:D):MtK m (putT kvs (keyI x) v) λy=>M y\/y=x:=by
 refine⟨λy Y=>?_⟩;rw[QR,Zw7,Bool.or_eq_true,<- QR,h.mem y Y,decide_eq_true_eq];exact(λz=>z.imp id λz=>(Zvp z).symm,λz=>z.imp id λz=>by rw[z])
theorem MtK.cong (h:MtK m kvs M) (e:∀x:Nat,x<m->(M (x:Int)↔M' (x:Int))):MtK m kvs M':=⟨λx X=>(h.mem x X).trans (e x X)⟩
theorem Zz6 (m:Nat) (h:∀x:Nat,x<m->¬ M (x:Int)):MtK m [] M:=⟨λx X=>(λz=>Bool.noConfusion z,λz=>(h x X z).elim)⟩
def fLCr:NSp:=λs t=>∃n ts o cs,s=[BL o,AX cs]/\Af n ts/\BG n ts o/\CrOk ts cs/\t ((allC ts o cs).map crD)
#check 2
theorem Vu (mb:Mb mg) (d9:Callee P w K mg base 1 "_law_partner" ["_law_end"] (spD K fPart)) (F:BE K "_law_crossed" "_law_crossed" Ko f fd):FnOk P w K mg base CX0 2 f fd ["_law_order","_law_crossings"] (spN K fLCr):=by
 refine F.ok Dt (GY λds a6 h=>#[11]) λd2 A c9 s H vs Q E hr h=>?_;have U:=Bb hr;have hv:=Ff hr;refine(_,(AR (OP (i:=2) (j:=3) rfl Dt.nd rfl rfl #[0] rfl rfl (AA Q5<|AA Q5 AE) rfl)<|AR (Bv PassesOwn.never rfl (seqK K<|pv 0) (Ao (i:=4) Dt.nd rfl<|Or.inl rfl)<|AY<|Bv PassesOwn.never rfl (CP rfl (mb "range" #[0])<|AA (A0 (lenK K) rfl (mb "len" #[0]) Bi<|AA (pv 4) AE) AE) (Ao (i:=5) Dt.nd rfl<|Or.inl rfl)<|AR (DI (Ag (ixK K U) (pv 4) (pv 5) λ_ _=>rfl)<|E7 (pv 2) (Ag (ixK K U) (pv 4) (Ae Di (pv 5) AG) λ_ _=>rfl)<|setU U)<|AY<|DI (Ag (ixK K U) (pv 4) (Ae Di (pv 5) AG) λ_ _=>rfl)<|E7 (pv 3) (Ag (ixK K U) (pv 4) (pv 5) λ_ _=>rfl)<|setU U)<|AR (HW (i:=6) ["_law_row"] (show CompSc (defScope Ko) ["_law_order","_law_crossings","_law_behind","_law_ahead","_law_row","_law_k","_law_found","_law_met","_law_end","_law_walk","_law_state","_law_other","_law_hand"] _ [] [] from (rfl,#[1],#[1],#[1],rfl,#[1])) rfl Dt.nd rfl (Or.inl rfl) (seqK K<|pv 0) (λ_ _ _ _ _=>(Ao (i:=0) (show List.Nodup (["_law_row"]:List Str) from #[0]) rfl<|Or.inl rfl)) (λ_ _ _ _ _=>(F2<|BW CY (A0 (lenK K) rfl (mb "len" #[0]) Bi<|AA (pv 0) AE) AG<|nomark _)) λ_ _ _ _ _=>(@Ab _ _ _ _ _ AE))<|AR (Aj (i:=7) Dt.nd rfl (Or.inl rfl) Zwf)<|AR (Bv PassesOwn.never rfl (CP rfl (mb "range" #[0])<|AA (A0 (lenK K) rfl (mb "len" #[0]) Bi<|AA (pv 2) AE) AE) (Ao (i:=8) Dt.nd rfl<|Or.inl rfl)<|AR (Aj (i:=9) Dt.nd rfl (Or.inl rfl)<|CG AE)<|AR (Aj (i:=10) Dt.nd rfl (Or.inl rfl)<|Ab<|AA (pv 8)<|AA AG AE)<|AR (FK PassesOwn.never (BW (notinK K U) (pv 10) (pv 7) rfl)<|AR (Aj (i:=11) Dt.nd rfl (Or.inl rfl)<|An d9 (hr.mono #[0])<|AA (Ag (ixK K U) (pv 10) AG λ_ _=>rfl) AE)<|AR (Aj (i:=12) Dt.nd rfl (Or.inl rfl)<|Ae Dj (Ae (addK K) (Ag (ixK K U) (pv 10) AG λ_ _=>rfl)<|Ag (ixK K U) (pv 1) (Ae GZ (Ag (ixK K U) (pv 10) AG λ_ _=>rfl) AG) λ_ _=>rfl) AG)<|AR (DI Gh<|E7 (pv 7) (pv 10)<|setU U)<|AR (DI Gh<|E7 (pv 7) (Ab<|AA (pv 11)<|AA (Ae Di AG<|pv 12) AE)<|setU U)<|AR (CW<|bmK K PySem.F.plainAttrs_list PySem.F.slot_list_append PySem.F.type_list_append Dw (pv 9)<|AA (pv 10) AE)<|AR (Aj (i:=10) Dt.nd rfl (Or.inl rfl)<|Ab<|AA (Ag (ixK K U) (pv 2) (pv 11) λ_ _=>rfl)<|AA AG AE)<|AY<|CF (BW CY (pv 12) AG<|nomark _) (AY<|Aj (i:=10) Dt.nd rfl (Or.inl rfl)<|Ab<|AA (Ag (ixK K U) (pv 3) (pv 11) λ_ _=>rfl)<|AA AG AE) CM)<|AY<|CF (BW F7 (A0 (lenK K) rfl (mb "len" #[0]) Bi<|AA (pv 9) AE) AG<|nomark _) (AY<|CW<|bmK K PySem.F.plainAttrs_list PySem.F.slot_list_append PySem.F.type_list_append Dw (pv 6)<|AA (Ed (tupK K) rfl (mb "tuple" #[0]) Ey<|AA (pv 9) AE) AE) CM)<|AY<|BF<|A0 (sortCK K hv) rfl (mb "sorted" #[0]) NM<|AA (pv 6) AE),Gn (λds a6 hf=>?_) h);obtain⟨n,T,o,cs,rfl,hW,I,hC,q⟩:=hf;sleep 0;have S:=Hq hW I hC;have O:=S.one;have hw:=hW.len;have hn:=hW.hi;have ho:=I.len;have a4:=Nv o;have a3:=I.flat_eq hW;have b5:=M6 I.flat;have b6:((o.flatMap DY).map (·.1)).Nodup:=by rw[M7];exact I.flat
 have c5:(o.flatMap DC).length=2*T.length:=by
  rw[<- a3];clear q I a3 b5 b6 a4 ho S O
  induction o with
  |nil=>rfl
  |cons r l ih=>rw[DL,MA,Ar,Ar,PL,ih]
 have d7:(o.flatMap DY).length=2*T.length:=by rw[<- a3,<- M7,AJ]
 obtain⟨R,a0⟩:∃R,(o.flatMap DC).map DR=R:=(_,rfl);obtain⟨db,a7⟩:∃db,(o.flatMap DY).map DR=db:=(_,rfl);refine Ac<|Zvs ?_;refine Bh (λJ=>∃N u:L2.Slot,J = [.val (BL o),.val (AX cs),.own (.dct R),.own (.dct db),N,u,.any,.any,.any,.any,.any,.any,.any]) ?_ ?_
 ·refine Bx (FW<|AD rfl (o.map AX,rfl,λi J=>∃N u:L2.Slot,J = [.val (BL o),.val (AX cs),.own (.dct (((o.take i).flatMap DC).map DR)),.own (.dct (((o.take i).flatMap DY).map DR)),N,u,.any,.any,.any,.any,.any,.any,.any],(_,_,rfl),?_,?_))
  ·rintro i d J2 p ⟨N,u,rfl⟩
   rw[Ad]at p;cases z:o[i]? with
   |none=>exists 0,z,p
   |some r=>
    rw[z]at p;have p:AX r=d:=by simpa using p
    subst p;have hi:i<o.length:=(BQ.mp z).1;have d8:r.length<=48:=by have:=(I.row i r z).len;lia
    refine A8<|Bx<|CQ<|AF<|A3<|AF<|AD rfl<|AI<|B7 (Or.inr rfl)<|AI (_,rfl,?_,?_,?_)
    ·rw[AJ];lia
    ·rw[AJ];lia
    rw[AJ,BO];refine(λk J=>∃u:L2.Slot,J = [.val (BL o),.val (AX cs),.own (.dct (((o.take i).flatMap DC++(DC r).take k).map DR)),.own (.dct (((o.take i).flatMap DY++(DY r).take k).map DR)),.val (AX r),u,.any,.any,.any,.any,.any,.any,.any],(_,by rw[EY,EY,Bj,Bj];rfl),?_,?_)
    ·rintro k d J2 p ⟨u,rfl⟩
     obtain⟨hk,rfl⟩:=B9 p;rw[B0];have c8:(k+r.length-1) % r.length=pvI r.length k:=by
      unfold pvI;split
      ·rename_i G;subst G;rw[HD,Eo #[2]]
      ·rw[show k+r.length-1=(k-1)+r.length by lia,Kb,Eo #[4]]
     have a9:=PC hk;rw[c8]at a9;have b9:=M1 hk;have a1:atI (r.map D.int) (k:Int)=some (.int<|r.getD k 0):=Ck (by rw[Ad,Av,AZ hk];rfl);have a2:=SN hk;obtain⟨pA,lA⟩:=Rr b5 z a9;obtain⟨pB,lB⟩:=Rr b6 z b9;refine A8<|Ac<|OE<|AO<|AD rfl<|AD rfl<|Bc a1 ((_,_,rfl,rfl),AO<|AD rfl<|AO<|AD rfl<|Aa<|DA<|Bc a2 (_,_,_,rfl,rfl,rfl,?_,?_))
     ·rw[AJ];exact small1000 #[2]
     refine OE<|AO<|AD rfl<|AO<|AD rfl<|Aa<|DA<|Bc a2 ((_,_,rfl,rfl),AO<|AD rfl<|AD rfl<|Bc a1 (_,_,_,rfl,rfl,rfl,?_,?_))
     ·rw[AJ];exact small1000 #[2]
     refine(.val (.int (k:Int)),?_);show [_,_,L2.Slot.own (.dct<|putD _ _ _),L2.Slot.own (.dct<|putD _ _ _),_,_,_,_,_,_,_,_,_]=_;rw[pA,pB]
    ·rintro J2 ⟨u,rfl⟩
     rw[CC];refine(.val<|AX r,u,?_);rw[Se z (PL r).symm,Se z (PF r).symm]
  ·rintro J2 ⟨N,u,rfl⟩
   rw[AJ,Bm,a0,a7];exact(N,u,rfl)
 rintro J1 ⟨N,u,rfl⟩;have b7:R.length=2*T.length:=by rw[<- a0,AJ];exact c5
 have vA:∀{e:Nat},e<2*T.length->valD R (.inl (e:Int))=some (.int<|Ca T o e):=λhe=>by rw[<- a0];exact Uk hW I he
 have vB:∀{e:Nat},e<2*T.length->valD db (.inl (e:Int))=some (.int<|D3 T o e):=λhe=>by rw[<- a7];exact Zwb hW I he
 refine Ac<|Cw<|Hc #[0]<|FW<|AD rfl (_,rfl,?_,λd=>match d with|.tup ds=>decide ((ds.length:Int)=0)|_=>false,λ_=>.tup [],λi d p=>?_,?_)
 ·rw[AJ];exact small1000 #[2]
 ·rw[Ad]at p
  cases z:o[i]? with
  |none=>exists 0,z,p
  |some r=>
   rw[z]at p;have p:AX r=d:=by simpa using p
   subst p;refine Ba<|AO<|A3<|AF<|AD rfl<|AI<|B7 (Or.inr rfl)<|Aa<|Co (_,rfl,rfl,?_);by_cases hz:((r.map D.int).length:Int)=0
   ·rw[BD hz]
    exact iteT<|BJ<|AI (#[0],rfl,_,rfl)
   ·rw[BI hz]
    exact iteF (_,rfl)
 rw[show o.map AX=o.map rowD from rfl,RA o _ (λr=>by
  show decide (((r.map D.int).length:Int)=0)=r.isEmpty;cases r with
  |nil=>rfl
  |cons x t=>rw[AJ,BH];exact BI #[2]) _ λ_=>rfl]
 refine Ac<|Cw<|Zve ?_;refine Bh (λJ=>∃(V:List (List AS × D)) (x8 x9 C X g:L2.Slot),J = [.val (BL o),.val (AX cs),.own (.dct R),.own (.dct db),N,u,.own (.lst ((allC T o cs).map crD)),.own (.dtt V),x8,x9,C,X,g]) ?_ ?_
 ·refine Bx (CQ<|AF<|SW rfl rfl<|AI (_,rfl,?_,?_,?_))
  ·lia
  ·rw[b7];lia
  rw[b7,BO];refine(λk J=>∃(V:List (List AS × D)) (x8 x9 C X g:L2.Slot),MtK (4*T.length) V (CrM (cOn T o cs) (bkI cs) k)/\V.length<=192*k /\ J = [.val (BL o),.val (AX cs),.own (.dct R),.own (.dct db),N,u,.own (.lst ((Az (lone o) []++crTo (cOn T o cs) (bkI cs) k).map crD)),.own (.dtt V),x8,x9,C,X,g],([],.any,.any,.any,.any,.any,Zz6 _ λx _ (e,he,_)=>absurd he<|Dr _,Bp _,?_),?_,?_)
  ·rw[show crTo (cOn T o cs) (bkI cs) 0=[] from rfl,Bj];rfl
  ·rintro k d J2 p ⟨V,x8,x9,C,X,g,b3,b2,rfl⟩
   obtain⟨hk,rfl⟩:=B9 p;rw[B0];have G:(0:Int)<=2*(k:Int):=#[2]
   have W:2*(k:Int)<((4*T.length:Nat):Int):=#[2]
   have fl:=Nr (cOn T o cs) (bkI cs) k;refine A8 (Ac (Cw (Fb (AI (#[0],?_)))));refine Ac (Aw (BJ (AF (AD rfl (AF (Aa (AI (DJ,?_))))))));rw[<- Jr];refine Bh (λJ=>∃(j:Nat) (v:List (List AS × D)) (X g:L2.Slot),((j=0/\CrM (cOn T o cs) (bkI cs) k (2*(k:Int)))\/(Dl (cOn T o cs) (2*(k:Int)) j/\¬ CrM (cOn T o cs) (bkI cs) k (2*(k:Int))))/\MtK (4*T.length) v (λx=>CrM (cOn T o cs) (bkI cs) k x\/x∈Bs (cOn T o cs) (2*(k:Int)) j\/∃y∈Bs (cOn T o cs) (2*(k:Int)) j,bkI cs y=x)/\v.length<=192*k+2*j/\j<=96 /\
    J = [.val (BL o),.val (AX cs),.own (.dct R),.own (.dct db),N,u,.own (.lst ((Az (lone o) []++crTo (cOn T o cs) (bkI cs) k).map crD)),.own (.dtt v),.val (.int (k:Int)),.own (.lst ((Bs (cOn T o cs) (2*(k:Int)) j).map stD)),.val (stD (iter (cOn T o cs) (2*(k:Int)) j)),X,g]) ?_ ?_
   ·refine FN (fun μ J=>∃(j:Nat) (v:List (List AS × D)) (X g:L2.Slot),(j=0\/¬ CrM (cOn T o cs) (bkI cs) k (2*(k:Int)))/\NdTo (cOn T o cs) (2*(k:Int)) j /\ μ = 4*T.length-j/\MtK (4*T.length) v (λx=>CrM (cOn T o cs) (bkI cs) k x\/x∈Bs (cOn T o cs) (2*(k:Int)) j\/∃y∈Bs (cOn T o cs) (2*(k:Int)) j,bkI cs y=x)/\v.length<=192*k+2*j /\
     J = [.val (BL o),.val (AX cs),.own (.dct R),.own (.dct db),N,u,.own (.lst ((Az (lone o) []++crTo (cOn T o cs) (bkI cs) k).map crD)),.own (.dtt v),.val (.int (k:Int)),.own (.lst ((Bs (cOn T o cs) (2*(k:Int)) j).map stD)),.val (stD (iter (cOn T o cs) (2*(k:Int)) j)),X,g]) (_,0,V,_,_,.inl rfl,λi j hi=>by lia,rfl,b3.cong λx hx=>?_,b2,rfl) ?_
    ·rw[show Bs (cOn T o cs) (2*(k:Int)) 0=[] from rfl];simp
    rintro μ J1 ⟨j,v,X,g,L,nd,rfl,M,b0,rfl⟩;have d4:=Gj O G W nd;have r:=DG O G W j;obtain⟨Y,hY⟩:∃Y:Nat,iter (cOn T o cs) (2*(k:Int)) j=(Y:Int):=((iter (cOn T o cs) (2*(k:Int)) j).toNat,#[2]);have a8:Y<4*T.length:=#[2]
    refine Ba<|Uc<|AD rfl (_,v,Dc<|iter (cOn T o cs) (2*(k:Int)) j,rfl,rfl,rfl,_,rfl,?_);show if (!(valT v<|keyI<|iter (cOn T o cs) (2*(k:Int)) j).isSome)=true then _ else _
    by_cases B:(valT v<|keyI<|iter (cOn T o cs) (2*(k:Int)) j).isSome=true
    ·rw[B]
     refine iteF (j,v,X,g,?_,M,b0,#[2],rfl);rw[hY]at B;have B:=(M.mem Y a8).mp B;rw[<- hY]at B;rcases B with B|B|⟨y,hy,B⟩
     ·have Z:=LS S #[2] G W (Ci O G W j) B
      rcases L with L|L
      ·exact .inl (L,Z)
      ·exact absurd Z L
     ·obtain⟨i,hi,e⟩:=B1.mp B
      have c0:1<=j:=#[2]
      have c4:¬ CrM (cOn T o cs) (bkI cs) k (2*(k:Int)):=by
       rcases L with L|L
       ·lia
       ·exact L
      refine .inr ((#[2],?_,nd),c4);apply Classical.byContradiction;intro hne;have:=Le O G W c0 nd hne i j #[2] #[2] e;lia
     ·obtain⟨i,hi,rfl⟩:=B1.mp hy
      have ri:=DG O G W i;refine absurd ?_<|S.out _ ri.1 ri.2<|j-i;rw[LQ,show i+(j-i)=j by lia];exact B.symm
    ·rw[FH.mpr B]
     have B:¬ (CrM (cOn T o cs) (bkI cs) k (Y:Int)\/(Y:Int)∈Bs (cOn T o cs) (2*(k:Int)) j\/∃y∈Bs (cOn T o cs) (2*(k:Int)) j,bkI cs y=(Y:Int)):=λz=>B (by rw[hY];exact(M.mem Y a8).mpr z);have Z:¬ CrM (cOn T o cs) (bkI cs) k (2*(k:Int)):=λz=>B (.inl (hY ▸ JP S #[4] z j));have a5:NdTo (cOn T o cs) (2*(k:Int)) (j+1):=by
      by_cases hj0:j=0
      ·subst hj0;exact OG O G W
      ·refine Le O G W #[2] nd λz=>B (.inr (.inl<|B1.mpr (0,#[2],by rw[<- hY,z];rfl)))
     have d1:=Gj O G W a5;have hE:Y / 2<2*T.length:=#[2]
     have hp:=DH hE;have b8:((Y / 2:Nat):Int)=(Y:Int) / 2:=#[2]
     obtain⟨c,c1,c2,c3⟩:=hC.at (show Y / 4<T.length by lia);have a1:atI (cs.map D.int) ((Y:Int) / 2 / 2)=some (.int c):=by
      rw[show (Y:Int) / 2 / 2=((Y / 4:Nat):Int) by lia];exact Ck (by rw[Ad,c1];rfl)
     have hg:CS cs (Y:Int)=((Y:Int) % 2+c) % 2:=by
      unfold CS;rw[show ((Y:Int) / 4).toNat=Y / 4 by lia,c2]
     have b4:iter (cOn T o cs) (2*(k:Int)) (j+1)=cOn T o cs (Y:Int):=by show cOn T o cs (iter (cOn T o cs) (2*(k:Int)) j)=_;rw[hY]
     rw[hY];have eb:=TL cs Y;refine iteT<|Ac<|Aw<|BU<|AF<|AO<|AD rfl<|Aa<|Bc (d:=.int ((Y / 2:Nat):Int)) (by rw[b8];rfl)<|AI (Y / 2,rfl,?_);refine Ac<|Aw<|AO<|AO<|AO<|AD rfl<|Aa<|Bc (d:=.int ((Y:Int) % 2)) rfl ?_;refine AO<|AD rfl<|AO<|AO<|AD rfl<|Aa<|Bc (d:=.int ((Y:Int) / 2)) rfl<|Aa<|jr_I (#[2],#[2])<|Bc a1<|EB<|Aa<|jr_I (by show (0:Int)<2;decide) ?_;rw[<- hg];refine Ac<|RM<|Of ((_,_,rfl,rfl),AD rfl (_,v,Dc (Y:Int),rfl,rfl,rfl,?_,?_))
     ·exact FG (m:=192*48+192) #[2] #[0]
     have d5:=RV v (keyI (Y:Int)) (.bl true);have c6:=M.put (x:=(Y:Int)) (.bl true);refine Ac<|RM<|Of ((_,_,rfl,rfl),BJ<|AF<|AD rfl<|AF<|AO<|Aa<|AD rfl<|DA<|AI (DJ,_,_,Dc<|bkI cs (Y:Int),rfl,rfl,eb.symm,?_,?_))
     ·exact FG (m:=192*48+193) (by show (putT v (keyI (Y:Int)) (.bl true)).length<=_;lia) #[0]
     have d6:=RV (putT v (keyI (Y:Int)) (.bl true)) (keyI<|bkI cs (Y:Int)) (.bl true);have c7:=c6.put (x:=bkI cs (Y:Int)) (.bl true);refine Ac<|FZ rfl rfl<|AD rfl (_,_,rfl,rfl,?_,?_)
     ·rw[AJ,Iz];exact small1000 #[2]
     have d3:∃m',m'<4*T.length-j/\m'=4*T.length-(j+1):=(_,#[2],rfl);have b1:MtK (4*T.length) (putT (putT v (keyI (Y:Int)) (.bl true)) (keyI<|bkI cs (Y:Int)) (.bl true)) (λx=>CrM (cOn T o cs) (bkI cs) k x\/x∈Bs (cOn T o cs) (2*(k:Int)) (j+1)\/∃y∈Bs (cOn T o cs) (2*(k:Int)) (j+1),bkI cs y=x):=by
      refine c7.cong λx hx=>?_;rw[NK,hY];simp only[CV,CK];constructor
      ·rintro((a|a)|a)
       ·rcases a with a|a|⟨y,a,b⟩
        ·exact .inl a
        ·exact .inr (.inl (.inl a))
        ·exact .inr (.inr (y,.inl a,b))
       ·exact .inr (.inl (.inr a))
       ·exact .inr (.inr (_,.inr rfl,a.symm))
      ·rintro(a|(a|a)|⟨y,a|a,b⟩)
       ·exact .inl (.inl (.inl a))
       ·exact .inl (.inl (.inr (.inl a)))
       ·exact .inl (.inr a)
       ·exact .inl (.inl (.inr (.inr (y,a,b))))
       ·subst a;exact .inr b.symm
     have ew:(Bs (cOn T o cs) (2*(k:Int)) j).map stD++[stD (Y:Int)]=(Bs (cOn T o cs) (2*(k:Int))<|j+1).map stD:=by rw[NK,BA,hY];rfl
     refine Ac<|Aw<|BJ<|AF<|OC rfl rfl<|AD rfl (_,_,_,_,rfl,rfl,rfl,vA hp,AF<|Aa<|AI (DJ,?_));refine CD<|Ba<|AO<|AD rfl<|Aa<|Co (_,rfl,?_);rcases NP cs (Y:Int) with hz|hz
     ·rw[hz]
      refine iteF<|CN (4*T.length-(j+1),#[2],j+1,_,.val (.int ((partner (Y / 2):Nat):Int)),.val (.int 0),.inr Z,a5,rfl,b1,#[2],?_);have:D.tup [.int (Ca T o<|partner<|Y / 2),.int 0]=stD (iter (cOn T o cs) (2*(k:Int))<|j+1):=by
       rw[b4];unfold cOn;rw[AN hz,Jr,show ((Y:Int) / 2).toNat=Y / 2 by lia]
      rw[<- ew,<- this];rfl
     ·rw[hz]
      refine iteT<|Aw<|BJ<|AF<|OC rfl rfl<|AD rfl (_,_,_,_,rfl,rfl,rfl,vB hp,AF<|Aa<|AI (DJ,4*T.length-(j+1),#[4],j+1,_,.val (.int ((partner (Y / 2):Nat):Int)),.val (.int 1),.inr Z,a5,rfl,b1,#[4],?_));have:D.tup [.int (D3 T o<|partner<|Y / 2),.int 1]=stD (iter (cOn T o cs) (2*(k:Int))<|j+1):=by
       rw[b4];unfold cOn;rw[AK (by rw[hz];decide),Oq,show ((Y:Int) / 2).toNat=Y / 2 by lia]
      rw[<- ew,<- this];rfl
   rintro J1 ⟨j,v,X,g,L,M,b0,d0,rfl⟩;refine CD<|Ba<|AO<|JR rfl rfl<|Aa<|EK (_,rfl,?_);rw[AJ,Iz];rcases L with ⟨rfl,Z⟩|⟨hI,Z⟩
   ·have hl:frB (cOn T o cs) (bkI cs) k=false:=by rw[FH];exact λz=>FY.mp z Z
    refine iteF<|CN (v,.val (.int (k:Int)),.own (.lst []),.val<|stD (2*(k:Int)),X,g,M.cong λx hx=>?_,#[2],?_)
    ·rw[HS S #[2],hl,show Bs (cOn T o cs) (2*(k:Int)) 0=[] from rfl];simp
    ·rw[GQ,AK (by rw[hl];exact BV),Bj]
     rfl
   ·have hl:frB (cOn T o cs) (bkI cs) k=true:=FY.mpr Z
    have eo:=hI.orb;rw[show decide ((0:Int)<(j:Int))=true from BD (by have:=hI.pos;lia)];refine iteT<|FZ rfl rfl<|A3<|AF<|Ef rfl<|AI<|E6 (Or.inl rfl) (_,_,rfl,rfl,?_,v,.val (.int (k:Int)),.val (.lst ((Bs (cOn T o cs) (2*(k:Int)) j).map stD)),.val<|stD<|iter (cOn T o cs) (2*(k:Int)) j,X,g,M.cong λx hx=>?_,?_,?_)
    ·rw[AJ,Ar,CU];exact small1000 #[2]
    ·rw[HS S #[2],hl,<- eo];simp
    ·lia
    ·rw[GQ,AN hl,<- DM,BA (l₂:=[orb (cOn T o cs) (2*(k:Int))]),eo]
     rfl
  ·rintro J2 ⟨V,x8,x9,C,X,g,b3,b2,rfl⟩
   rw[CC];exact(V,_,_,_,_,_,rfl)
 rintro J1 ⟨V,x8,x9,C,X,g,rfl⟩;have al:=RU (cs:=cs) hW I;rw[Tg]at q ⊢;exact F4<|Ro<|AF<|Ef rfl<|AI (_,rfl,by rw[AJ];lia,Ry hW I hC,_,rfl,q)
end
section
variable {n:Int}{ts:AQ}{o:Ak}{cs:List Int}{p:Nat}
theorem Zrn (hW:Af n ts) (hO:BG n ts o) (j:x<2*ts.length):∃k:Nat,k<2*ts.length/\D3 ts o x=(k:Int)/\Al ts k=Al ts x:=by
 obtain⟨k,h,K,b⟩:=OZ hW hO j;refine(k,h,K,?_);obtain⟨g,H,G,a⟩:=Gd hW hO h;rw[b]at a;have:g=x:=#[2]
 subst this;exact G.symm
end
section
variable {f b:Int->Int}{m:Nat}(S:StB f b m)
include S
open Classical in
theorem Zuq {k:Nat}(U:2*k<=m):((AV m).filter λe=>BX f e && decide (CrM f b k (e:Int))).length=2*(crTo f b k).length:=by
 induction k with
 |zero=>
  have:((AV m).filter λe=>BX f e && decide (CrM f b 0 (e:Int)))=[]:=List.filter_eq_nil_iff.mpr λe _=>by
   rw[BI (λ(_,h,_)=>absurd h<|Dr _),FD];exact BV
  rw[this];rfl
 |succ k H=>
  have H:=H #[2];rw[GQ,Ar];by_cases hf:frB f b k=true
  ·rw[AN hf,DE]
   have E:(0:Int)<=2*(k:Int):=#[2]
   have a:2*(k:Int)<(m:Int):=#[2]
   have K:=FY.mp hf;obtain⟨P,B,d⟩:=S.bb _ E a;have n:∀y,y∈orb f (b (2*(k:Int))) ↔ ∃z∈orb f (2*(k:Int)),b z=y:=λy=>by
    constructor
    ·intro Y
     obtain⟨i,D,rfl⟩:=B1.mp Y;clear Y D
     induction i with
     |zero=>exact(_,Ee S.one E a,rfl)
     |succ i ihi=>
      obtain⟨z,Z,u⟩:=ihi;obtain⟨w,W,o⟩:=SD S E a Z;obtain⟨L,O⟩:=Fe S.one E a W;refine(w,W,?_);show b w=f (iter f (b (2*(k:Int))) i);rw[<- u,<- o,S.fb w L O]
    ·rintro⟨z,Z,rfl⟩
     have c:∀i,b (iter f (2*(k:Int)) i)∈orb f (b (2*(k:Int))):=λi=>by
      induction i with
      |zero=>exact Ee S.one B d
      |succ i ihi=>
       have r:=DG S.one E a i;have R:=DG S.one E a<|i+1;obtain⟨_,g,C⟩:=S.bb _ R.1 R.2;have q:=S.fb _ r.1 r.2;have F:b (iter f (2*(k:Int)) i)∈orb f (b<|iter f (2*(k:Int))<|i+1):=by
        rw[<- q];exact Ci S.one g C 1
       exact F0 S.one B d ihi<|FQ S.one g C F
     obtain⟨i,_,rfl⟩:=B1.mp Z;exact c i
   have I:∀y,y∈orb f (2*(k:Int))->¬ y∈orb f (b (2*(k:Int))):=λy v A=>by
    have:=F0 S.one E a v<|FQ S.one B d A;obtain⟨i,_,e⟩:=B1.mp this;exact S.out _ E a i e
   have C:=JH S.one E a (λe:Nat=>decide ((e:Int)∈orb f (2*(k:Int)))) λe _=>decide_eq_true_iff;have j:=JH S.one B d (λe:Nat=>decide ((e:Int)∈orb f (b (2*(k:Int))))) λe _=>decide_eq_true_iff;have t:∀l:List Nat,(l.filter λe=>BX f e && decide (CrM f b (k+1) (e:Int))).length=(l.filter λe=>BX f e && decide (CrM f b k (e:Int))).length+(l.filter λe=>BX f e && decide ((e:Int)∈orb f (2*(k:Int)))).length+(l.filter λe=>BX f e && decide ((e:Int)∈orb f (b (2*(k:Int))))).length:=λl=>by
    induction l with
    |nil=>rfl
    |cons e l ihl=>
     rw[DV,DV,DV,DV];cases hl:BX f e with
     |false=>simp only[Er,Bu,if_false];exact ihl
     |true=>
      simp only[HC,decide_eq_true_eq];have M:=HS S (k:=k) #[4] (x:=(e:Int));by_cases a1:CrM f b k (e:Int)
      ·have G:¬ (e:Int)∈orb f (2*(k:Int)):=λz=>K (LS S #[2] E a z a1)
       have J:¬ (e:Int)∈orb f (b (2*(k:Int))):=λz=>by
        obtain⟨y,Y,p⟩:=(n _).mp z;have r:=Fe S.one E a Y;have:=(LR S #[2] a1).2.2.2;rw[<- p,(S.bb _ r.1 r.2).1]at this;exact K (LS S #[4] E a Y this)
       rw[AN (M.mpr (.inl a1)),AN a1,AK G,AK J,BH,BH];lia
      ·by_cases a2:(e:Int)∈orb f (2*(k:Int))
       ·rw[AN (M.mpr (.inr (hf,.inl a2))),AK a1,AN a2,AK (I _ a2),BH,BH]
        lia
       ·by_cases a3:(e:Int)∈orb f (b (2*(k:Int)))
        ·rw[AN (M.mpr (.inr (hf,.inr ((n _).mp a3)))),AK a1,AK a2,AN a3,BH,BH]
         lia
        ·have N:¬ CrM f b (k+1) (e:Int):=λz=>by
          rcases M.mp z with z|⟨_,z|z⟩
          ·exact a1 z
          ·exact a2 z
          ·exact a3 ((n _).mpr z)
         rw[AK N,AK a1,AK a2,AK a3];exact ihl
   rw[t,H,C,j];lia
  ·rw[AK hf]
   have s:((AV m).filter λe=>BX f e && decide (CrM f b (k+1) (e:Int)))=((AV m).filter λe=>BX f e && decide (CrM f b k (e:Int))):=by
    congr 1
    funext e
    congr 1;refine decide_eq_decide.mpr ?_;rw[HS S #[4]];exact(λz=>z.elim id λz=>absurd z.1 hf,.inl)
   rw[s,H];rfl
theorem UY {k:Nat}(q:m=2*k) (j:∀x,0<=x->x<(m:Int)->x % 2=0\/f x % 2=0\/b x % 2=0):cnt f m (λ_=>true)=2*(crTo f b k).length:=by
 classical
 rw[<- Zuq S #[2]];unfold cnt;congr 1;refine De λe E=>?_;have E:=BB.mp E;congr 1;symm;refine BD ?_;have v:∀x,0<=x->x<(m:Int)->x % 2=0->CrM f b k x:=λx h H z=>((x / 2).toNat,#[2],.inl (by
  rw[show 2*(((x / 2).toNat:Nat):Int)=x by lia];exact Ee S.one h H))
 have h:(0:Int)<=(e:Int):=#[2]
 have H:(e:Int)<(m:Int):=#[2]
 rcases j _ h H with z|z|z
 ·exact v _ h H z
 ·have r:=S.one.to _ h H
  exact LS S #[2] h H (Ci S.one h H 1)<|v _ r.1 r.2 z
 ·obtain⟨c,B,a⟩:=S.bb _ h H
  have:=(LR S #[4]<|v _ B a z).2.2.2;rw[c]at this;exact this
end
section
variable {n:Int}{ts:AQ}{o:Ak}{cs:List Int}{p:Nat}
theorem U3 (hW:Af n ts) (hO:BG n ts o) (j:CrOk ts cs):cnt (cOn ts o cs) (4*ts.length) (λ_=>true)=2*(crTo (cOn ts o cs) (bkI cs) (2*ts.length)).length:=by
 refine UY (Hq hW hO j) #[2] λx a b=>?_;obtain⟨e,h,E,H,rfl⟩:=FT a b;rw[JM ts o cs e H,GX cs e H];split <;> lia
end
inductive E9 (N:Nat) (ts:AQ):Int->List Int->Prop
 |nil {p:Int}(h0:0<=p) (h1:p<(N:Int)) (h:mk N ts p=p):E9 N ts p []
 |snoc {q p:Int}{r:List Int}{e:Nat}(h:E9 N ts q r) (he:e<2*ts.length) (h1:Al ts e=q) (h2:Al ts (partner e)=p):E9 N ts p (r++[(e:Int)])
def encP (z:Int × List Int):AS × D:=(.inl z.1,AX z.2)
theorem RX (h:x ∉ l.map (·.1)):putD (l.map encP) (.inl x) (AX r)=(l++[(x,r)]).map encP:=by
 unfold putD;rw[AK,BA]
 ·rfl
 ·rw[KO,MD]
  rintro⟨z,Z,e⟩;have e:(Sum.inl z.1:AS)=Sum.inl x:=of_decide_eq_true e;injection e with e
  exact h<|A6.mpr (z,Z,e)
theorem valP (l:B4) (x:Int):valD (l.map encP) (.inl x)=(l.find? λz=>decide (z.1=x)).map λz=>AX z.2:=by
 unfold valD
 induction l with
 |nil=>rfl
 |cons z r ih=>
  rw[Bz,D7,D7];by_cases h:z.1=x
  ·rw[BD h,show decide ((encP z).1=Sum.inl x)=true from BD (by show (Sum.inl z.1:AS)=_;rw[h])]
   rfl
  ·rw[BI h,show decide ((encP z).1=Sum.inl x)=false from BI (λq=>h<|Sum.inl.inj q)]
   exact ih
theorem HU {l:B4}(h:(l.find? λz=>decide (z.1=x))=some z):z∈l/\z.1=x:=(List.mem_of_find?_eq_some h,of_decide_eq_true<|List.find?_some (p:=λz:Int × List Int=>decide (z.1=x)) h)
theorem LH {l:B4}:(l.find? λz=>decide (z.1=x))=none↔x ∉ l.map (·.1):=by
 rw[MP,A6];constructor
 ·rintro h ⟨z,Z,e⟩
  exact h z Z<|BD e
 ·intro h z Z e
  exact h (z,Z,of_decide_eq_true e)
def FA (ts:AQ) (d:B4) (e:Nat):B4:=
 match d.find? λz=>decide (z.1=Al ts e) with
 |some z=>match d.find? λz=>decide (z.1=Al ts (partner e)) with
  |some _=>d
  |none=>d++[(Al ts (partner e),z.2++[(e:Int)])]
 |none=>d
def Cc (ts:AQ) (k:Nat) (d:B4):B4:=(AV k).foldl (FA ts) d
theorem M8 (ts:AQ) (k:Nat) (d:B4):Cc ts (k+1) d=FA ts (Cc ts k d) k:=by
 unfold Cc;rw[GF,KY];rfl
def pIt (ts:AQ) (d:B4):Nat->B4
 |0=>d
 |k+1=>Cc ts (2*ts.length) (pIt ts d k)
def pBeg (ms:List Int):B4:=ms.map λg=>(g,[])
def D1 (N:Nat) (ts:AQ) (ms:List Int):B4:=pIt ts (pBeg ms) N
structure PInv (N:Nat) (ts:AQ) (d:B4):Prop where
 nd:(d.map (·.1)).Nodup
 rg:∀z∈d,0<=z.1/\z.1<(N:Int)
 pt:∀z∈d,E9 N ts z.1 z.2
 rt:∀p:Int,0<=p->p<(N:Int)->mk N ts p=p->p∈d.map (·.1)
 ln:∀z∈d,z.2.length<d.length
theorem PJ (ts:AQ) (d:B4) (e:Nat):(FA ts d e=d/\(Al ts e∈d.map (·.1)->Al ts (partner e)∈d.map (·.1)))\/∃z∈d,z.1=Al ts e/\Al ts (partner e) ∉ d.map (·.1)/\FA ts d e=d++[(Al ts<|partner e,z.2++[(e:Int)])]:=by
 unfold FA;cases h:d.find? λz=>decide (z.1=Al ts e) with
 |none=>exact .inl (rfl,λz=>absurd z (LH.mp h))
 |some z=>
  cases h2:d.find? λz=>decide (z.1=Al ts (partner e)) with
  |some y=>
   refine .inl (rfl,λ_=>?_);obtain⟨a,b⟩:=HU h2;exact A6.mpr (y,a,b)
  |none=>exact .inr (z,(HU h).1,(HU h).2,LH.mp h2,rfl)
section
variable {N:Nat}{ts:AQ}(hW:Af (N:Int) ts)
include hW
theorem Ot {p:Int}(j:0<=p) (q:p<(N:Int)):0<=mk N ts p/\mk N ts p<(N:Int)/\mk N ts (mk N ts p)=mk N ts p:=by
 have:=Iw hW ts.length (AU _) (mk N ts p) (by rw[Bm];exact OV j q);rw[Bm]at this;exact this
theorem R0:∀k,k<=ts.length->∀p:Nat,p<N->(AW N<|ts.take k).getD p 0<=(p:Int)
 |0,_,p,hp=>by
  rw[EY];exact Int.le_of_eq<|S7 hp
 |k+1,hk,p,hp=>by
  have t:k<ts.length:=hk;have h:=R0 k #[2] p hp;rw[Fx (AZ t),Ec _ _ _ (by rw[Cy];exact hp)];split
  ·rename_i c
   have:loI ((AW N<|ts.take k).getD ts[k].1.toNat 0) ((AW N<|ts.take k).getD ts[k].2.toNat 0)<=hiI ((AW N<|ts.take k).getD ts[k].1.toNat 0) ((AW N<|ts.take k).getD ts[k].2.toNat 0):=by
    unfold loI hiI;split <;> split <;> lia
   lia
  ·exact h
theorem V7 {p:Int}(j:0<=p) (q:p<(N:Int)):mk N ts p<=p:=by
 have:=R0 hW ts.length (AU _) p.toNat #[4];rw[Bm]at this;unfold mk;lia
theorem Zr8 {g:Int}(j:g∈AW N ts):∃l,DD (AW N ts) N g=g::l:=by
 have r:=Iw hW ts.length (AU _) g (by rw[Bm];exact j);rw[Bm]at r;have m:g∈DD (AW N ts) N g:=Qa.mpr (r.1,r.2.1,r.2.2);have a:=Zqz (AW N ts) N g;cases h:DD (AW N ts) N g with
 |nil=>exists 0,h,m
 |cons x l=>
  refine(l,?_);have X:x∈DD (AW N ts) N g:=by rw[h];exact B5
  obtain⟨b,c,d⟩:=Qa.mp X;have E:mk N ts x<=x:=V7 hW b c;have E:g<=x:=by rw[<- d];exact E
  rw[h]at m a;rcases A5.mp m with e|e
  ·rw[<- e]
  ·have:=(KC.mp a).1 g e
   lia
theorem K9 {ms:List Int}(hm:BK ms (AW N ts)) {g:Int}:g∈ms↔0<=g/\g<(N:Int)/\mk N ts g=g:=by
 rw[hm.2];constructor
 ·intro hg
  have r:=Iw hW ts.length (AU _) g (by rw[Bm];exact hg);rw[Bm]at r;exact r
 ·rintro⟨a,b,c⟩
  rw[<- c];exact OV a b
theorem Zv5 {ms:List Int}(hm:BK ms (AW N ts)):PInv N ts (pBeg ms):=by
 have k:(pBeg ms).map (·.1)=ms:=by unfold pBeg;rw[BS];exact Ie _
 refine(by rw[k];exact hm.1.imp λz=>Kg z,λz h=>?_,λz h=>?_,λp P a e=>by rw[k];exact(K9 hW hm).mpr (P,a,e),λz h=>?_)
 ·obtain⟨g,G,rfl⟩:=A6.mp h
  have:=(K9 hW hm).mp G;exact(this.1,this.2.1)
 ·obtain⟨g,G,rfl⟩:=A6.mp h
  have:=(K9 hW hm).mp G;exact .nil this.1 this.2.1 this.2.2
 ·have:=Gx h
  obtain⟨g,G,rfl⟩:=A6.mp h;exact this
theorem Qg {d:B4}(h:PInv N ts d) {e:Nat}(j:e<2*ts.length):PInv N ts (FA ts d e)/\d.length<=(FA ts d e).length/\∀x∈d.map (·.1),x∈(FA ts d e).map (·.1):=by
 rcases PJ ts d e with ⟨q,_⟩|⟨z,Z,E,c,q⟩
 ·rw[q];exact(h,AU _,λx X=>X)
 ·rw[q]
  have P:=HX hW<|DH j;refine((?_,λy Y=>?_,λy Y=>?_,λp f g m=>?_,λy Y=>?_),by rw[Ar];lia,λx X=>by rw[BA];exact IS _ X)
  ·rw[BA]
   refine Fp.mpr (h.nd,#[3],λa A b B=>?_);have:b=Al ts (partner e):=#[12]
   subst this;exact λw=>c (w ▸ A)
  ·rcases CV.mp Y with w|w
   ·exact h.rg y w
   ·rw[CK]at w;subst w;exact P
  ·rcases CV.mp Y with w|w
   ·exact h.pt y w
   ·rw[CK]at w;subst w
    exact .snoc (h.pt z Z) j E.symm rfl
  ·rw[BA];exact IS _<|h.rt p f g m
  ·rw[Ar,DE]
   rcases CV.mp Y with w|w
   ·have:=h.ln y w;lia
   ·rw[CK]at w;subst w
    have:=h.ln z Z;show (z.2++[(e:Int)]).length<_;rw[Ar,DE];lia
theorem HM {d:B4}(h:PInv N ts d):∀k,k<=2*ts.length->PInv N ts (Cc ts k d)/\d.length<=(Cc ts k d).length/\(∀x∈d.map (·.1),x∈(Cc ts k d).map (·.1))
 |0,_=>(h,AU _,λx X=>X)
 |k+1,hk=>by
  obtain⟨a,b,c⟩:=HM h k #[2];rw[M8];obtain⟨A,B,C⟩:=Qg hW a (e:=k) #[2];exact(A,Bg b B,λx X=>C x<|c x X)
theorem M5 {d:B4}(h:PInv N ts d):∀k,k<=2*ts.length->(Cc ts k d).length=d.length->Cc ts k d=d/\∀e,e<k->Al ts e∈d.map (·.1)->Al ts (partner e)∈d.map (·.1)
 |0,_,_=>(rfl,λe E=>absurd E (Dr _))
 |k+1,hk,hl=>by
  obtain⟨a,b,c⟩:=HM hW h k #[2];rw[M8]at hl ⊢;obtain⟨A,B,_⟩:=Qg hW a (e:=k) #[4];obtain⟨f,g⟩:=M5 h k #[4] #[2];rw[f]at hl ⊢;rcases PJ ts d k with ⟨q,Q⟩|⟨z,_,_,_,q⟩
  ·refine(q,λe E=>?_)
   rcases ES (En E) with z|z
   ·exact g e z
   ·subst z;exact Q
  ·rw[q,Ar,DE]at hl
   lia
theorem GO {d:B4}(h:PInv N ts d):d.length<=N:=by
 have:=GK (l:=(AV N).map λi:Nat=>(i:Int)) h.nd λx X=>by
  obtain⟨z,Z,rfl⟩:=A6.mp X;have:=h.rg z Z;exact A6.mpr (z.1.toNat,BB.mpr #[4],#[2])
 rw[AJ,AJ,Bt]at this;exact this
theorem Zu6 {d:B4}(h:PInv N ts d) (L:N<=d.length) {p:Int}(j:0<=p) (q:p<(N:Int)):p∈d.map (·.1):=by
 apply Classical.byContradiction;intro hn;have:=GK (ms:=p::d.map (·.1)) (l:=(AV N).map λi:Nat=>(i:Int)) (DS.mpr (hn,h.nd)) λx X=>by
  rcases A5.mp X with e|X
  ·subst e;exact A6.mpr (x.toNat,BB.mpr #[2],#[2])
  ·obtain⟨z,Z,rfl⟩:=A6.mp X
   have:=h.rg z Z;exact A6.mpr (z.1.toNat,BB.mpr #[2],#[2])
 rw[BH,AJ,AJ,Bt]at this;lia
theorem SY {d:B4}(h:PInv N ts d) (B:d.length<N):d.length<(Cc ts (2*ts.length) d).length:=by
 obtain⟨_,b,_⟩:=HM hW h (2*ts.length)<|AU _;rcases ES b with z|z
 ·exact z
 ·exfalso
  obtain⟨_,C⟩:=M5 hW h (2*ts.length) (AU _) z.symm;have L:∀p:Int,0<=p->p<(N:Int)->p∈d.map (·.1):=λp P j=>by
   obtain⟨m,M,k⟩:=Ot hW P j;have r:=h.rt _ m M k;have:=N5 hW (g:=λx=>if x∈d.map (·.1) then 1 else 0) (λt T=>by
    obtain⟨i,I,rfl⟩:=Jz T;have A:Al ts (2*i)=ts[i].1:=by unfold Al;rw[show 2*i / 2=i by lia,AZ I];show (if _ then _ else _)=_;rw[AN #[2]]
    have f:Al ts (2*i+1)=ts[i].2:=by unfold Al;rw[show (2*i+1) / 2=i by lia,AZ I];show (if _ then _ else _)=_;rw[AK #[2]]
    have q:=C (2*i) #[2];have Q:=C (2*i+1) #[2];rw[show partner (2*i)=2*i+1 by unfold partner;rw[AN #[2]],A,f]at q;rw[show partner (2*i+1)=2*i by unfold partner;rw[AK #[4]];lia,A,f]at Q;by_cases c:ts[i].1∈d.map (·.1)
    ·show (if _ then _ else _)=(if _ then _ else _)
     rw[AN c,AN (q c)]
    ·show (if _ then _ else _)=(if _ then _ else _)
     rw[AK c,AK (λz=>c (Q z))]) P j
   have this:(if mk N ts p∈d.map (·.1) then (1:Int) else 0)=if p∈d.map (·.1) then 1 else 0:=this
   rw[AN r]at this;apply Classical.byContradiction;intro hn;rw[AK hn]at this;lia
  have:=GK (ms:=(AV N).map λi:Nat=>(i:Int)) (l:=d.map (·.1)) (by
   rw[List.nodup_iff_pairwise_ne,ET];exact D5.imp λ{a b} hab e=>#[2]) λx X=>by
   obtain⟨i,I,rfl⟩:=A6.mp X;rw[BB]at I;exact L _ #[2] #[2]
  rw[AJ,AJ,Bt]at this;lia
theorem PK {d:B4}(h:PInv N ts d) (L:N<=d.length):Cc ts (2*ts.length) d=d:=by
 obtain⟨a,b,_⟩:=HM hW h (2*ts.length)<|AU _;have:=GO hW a;exact(M5 hW h (2*ts.length) (AU _) #[2]).1
section
variable {ms:List Int}(hm:BK ms (AW N ts))
include hm
theorem Hk:∀k,PInv N ts (pIt ts (pBeg ms) k)
 |0=>Zv5 hW hm
 |k+1=>(HM hW (Hk k) _ (AU _)).1
theorem Nu:∀k,k<=(pIt ts (pBeg ms) k).length\/(pIt ts (pBeg ms) k).length=N
 |0=>.inl (Bp _)
 |k+1=>by
  have I:=Hk hW hm k;have h:=GO hW I;rcases Nat.lt_or_ge (pIt ts (pBeg ms) k).length N with z|z
  ·have:=SY hW I z
   rcases Nu k with y|y
   ·left
    show k+1<=(Cc ts (2*ts.length)<|pIt ts (pBeg ms) k).length;lia
   ·lia
  ·right
   show (Cc ts (2*ts.length)<|pIt ts (pBeg ms) k).length=N;rw[PK hW I z];lia
theorem Rk {k:Nat}(L:N<=(pIt ts (pBeg ms) k).length):∀j,pIt ts (pBeg ms) (k+j)=pIt ts (pBeg ms) k
 |0=>rfl
 |j+1=>by
  show Cc ts (2*ts.length) (pIt ts (pBeg ms)<|k+j)=_;rw[Rk L j];exact PK hW (Hk hW hm k) L
theorem Zvf {k:Nat}(j:k<=N) (L:N<=(pIt ts (pBeg ms) k).length):D1 N ts ms=pIt ts (pBeg ms) k:=by
 unfold D1;rw[show N=k+(N-k) by lia];have:=Rk hW hm L<|N-k;rw[show k+(N-k)=N by omega]at this ⊢;exact this
theorem Nb:PInv N ts (D1 N ts ms)/\(D1 N ts ms).length=N:=by
 have I:=Hk hW hm N;have:=GO hW I;refine(I,?_);rcases Nu hW hm N with z|z
 ·unfold D1;lia
 ·exact z
end
end
def DQ (d:B4) (p:Int):List Int:=((d.find? λz=>decide (z.1=p)).map λz=>z.2).getD []
theorem Hf {N:Nat}(hW:Af (N:Int) ts) (h:PInv N ts d) (L:N<=d.length) (j:0<=p) (q:p<(N:Int)):valD (d.map encP) (.inl p)=some (AX<|DQ d p)/\E9 N ts p (DQ d p):=by
 have P:=Zu6 hW h L j q;rw[valP];unfold DQ;cases e:d.find? λz=>decide (z.1=p) with
 |none=>exact absurd P (LH.mp e)
 |some z=>
  obtain⟨a,b⟩:=HU e;exact(rfl,b ▸ h.pt z a)
theorem Nl {N:Nat}(hW:Af (N:Int) ts) (h:PInv N ts d):(DQ d p).length<=N:=by
 have:=GO hW h;unfold DQ;cases e:d.find? λz=>decide (z.1=p) with
 |none=>exact Bp _
 |some z=>
  have:=h.ln z (HU e).1;show z.2.length<=N;lia
theorem E9.in (h:E9 N ts p r):∀x∈r,∃e:Nat,e<2*ts.length/\x=(e:Int):=by
 induction h with
 |nil=>intro x hx;cases hx
 |snoc h he h1 h2 ih=>
  intro x hx;rcases CV.mp hx with z|z
  ·exact ih x z
  ·rw[CK]at z;exact(_,he,z)
def F9 (cs:List Int) (r:List Int):Int:=(r.map λe=>cs.getD (e.toNat / 2) 0).sum
theorem Zpw (cs r:List Int) (e:Nat):F9 cs (r++[(e:Int)])=F9 cs r+cs.getD (e / 2) 0:=by
 unfold F9;rw[BA,List.sum_append];simp
def fitB (x y c:Int):Bool:=decide ((!decide (x=y))=decide (c=1))
theorem Rm (q:x=0\/x=1) (Y:y=0\/y=1) (j:c=0\/c=1):fitB x y c=true↔(x+y+c) % 2=0:=by
 rcases q with rfl|rfl <;> rcases Y with rfl|rfl <;> rcases j with rfl|rfl <;> decide
def givI (cs:List Int) (d:B4) (p:Int):Int:=F9 cs (DQ d p) % 2
theorem La (cs:List Int) (d:B4) (p:Int):givI cs d p=0\/givI cs d p=1:=by unfold givI;lia
def Gr (ts:AQ) (cs:List Int) (s:Int->Int):Prop:=∀(i:Nat) (t:Int × Int),ts[i]?=some t->(s t.1+s t.2+cs.getD i 0) % 2=0
def badB (ts:AQ) (cs:List Int) (d:B4) (i:Nat):Bool:=!fitB (givI cs d (ts.getD i (0,0)).1) (givI cs d (ts.getD i (0,0)).2) (cs.getD i 0)
def CJ:List Int->List Int->List Int × List Int
 |x::p,y::q=>if x=y then CJ p q else (x::p,y::q)
 |p,q=>(p,q)
def Hx (p:List Int) (e:Int) (q:List Int):List Int:=(CJ p q).1++[e]++(CJ p q).2.reverse.map λx=>((partner x.toNat:Nat):Int)
def Gq (N:Nat) (ts:AQ) (cs:List Int) (d:B4):D:=
 match (AV ts.length).find? (badB ts cs d) with
 |some i=>.tup [.str "one",AX (Hx (DQ d (ts.getD i (0,0)).1) (2*(i:Int)) (DQ d (ts.getD i (0,0)).2))]
 |none=>.tup [.str "two",AX ((AV N).map λp:Nat=>givI cs d (p:Int))]
section
variable {N:Nat}{ts:AQ}{cs:List Int}{d:B4}
theorem Zz9 (h:Gr ts cs s) (j:e<2*ts.length):(s (Al ts e)+s (Al ts<|partner e)+cs.getD (e / 2) 0) % 2=0:=by
 have H:ts[e / 2]?=some ts[e / 2]:=AZ #[4];have a:Al ts e=if e % 2=0 then ts[e / 2].1 else ts[e / 2].2:=by unfold Al;rw[H]
 have A:Al ts (partner e)=if e % 2=0 then ts[e / 2].2 else ts[e / 2].1:=by
  unfold Al;rw[HL,H];show (if _ then _ else _)=_;unfold partner;by_cases z:e % 2=0
  ·rw[AN z,AN z,AK #[2]]
  ·rw[AK z,AK z,AN #[2]]
 have:=h _ _ H;rw[a,A];split <;> lia
theorem Pe (hW:Af (N:Int) ts) (j:e<2*ts.length):mk N ts (Al ts<|partner e)=mk N ts (Al ts e):=Ws hW j
theorem Rg (hW:Af (N:Int) ts) (h:Gr ts cs s) (j:E9 N ts p r):(F9 cs r+s p+s (mk N ts p)) % 2=0:=by
 induction j with
 |nil h0 h1 h=>rw[h];unfold F9;simp;lia
 |snoc hq he h1 h2 ih=>
  have t:=Zz9 h he;have m:=Pe hW he;rw[h1,h2]at m;rw[h1,h2]at t;rw[Zpw,m];lia
theorem Zvu (hW:Af (N:Int) ts) (q:CrOk ts cs) (j:PInv N ts d) (L:N<=d.length):(AV ts.length).find? (badB ts cs d)=none ↔ ∃s,Gr ts cs s:=by
 rw[MP];have B:∀i,i<ts.length->cs.getD i 0=0\/cs.getD i 0=1:=λi I=>by
  obtain⟨c,_,H,a⟩:=q.at I;rw[H];exact a
 constructor
 ·intro h
  refine(givI cs d,λi t T=>?_);have I:=(BQ.mp T).1;have:=h i<|BB.mpr I;unfold badB at this;rw[Bool.not_eq_true,Bool.not_eq_false',Av,T]at this;exact(Rm (La ..) (La ..)<|B i I).mp this
 ·rintro⟨s,S⟩ i I
  have I:=BB.mp I;have T:ts[i]?=some ts[i]:=AZ I;unfold badB;rw[Bool.not_eq_true,Bool.not_eq_false',Av,T];refine(Rm (La ..) (La ..)<|B i I).mpr ?_;have b:=hW.tie _<|B6 I;have p:=Rg hW S (Hf hW j L b.1 b.2.1).2;have P:=Rg hW S (Hf hW j L b.2.2.1 b.2.2.2).2;have m:=Tj hW<|B6 I;have:=S i _ T;show (givI cs d ts[i].1+givI cs d ts[i].2+_) % 2=0;unfold givI;rw[m]at p;lia
open Classical in
noncomputable def Fj (ts:AQ) (cs:List Int):Str:=if ∃s,Gr ts cs s then "two" else "one"
theorem Zqp (hW:Af (N:Int) ts) (j:CrOk ts cs) (q:PInv N ts d) (L:N<=d.length):∃r,Gq N ts cs d=.tup [.str (Fj ts cs),r]:=by
 have b:=Zvu hW j q L;unfold Gq Fj;cases h:(AV ts.length).find? (badB ts cs d) with
 |none=>rw[AN (b.mp h)];exact(_,rfl)
 |some i=>rw[AK (λz=>by rw[b.mpr z]at h;cases h)];exact(_,rfl)
theorem Zwe (p q:List Int):(∀x∈(CJ p q).1,x∈p)/\(∀x∈(CJ p q).2,x∈q)/\(CJ p q).1.length<=p.length/\(CJ p q).2.length<=q.length:=by
 induction p generalizing q with
 |nil=>cases q <;> exact(λx h=>h,λx h=>h,AU _,AU _)
 |cons x p ih=>
  cases q with
  |nil=>exact(λx h=>h,λx h=>h,AU _,AU _)
  |cons y q=>
   show _/\_;unfold CJ;split
   ·obtain⟨a,b,c,e⟩:=ih q
    exact(λz Z=>Bl _<|a z Z,λz Z=>Bl _<|b z Z,IW c,IW e)
   ·exact(λx h=>h,λx h=>h,AU _,AU _)
end
structure SwapsG (m M:Nat) (pl:Int->Int) (f:Nat->Int->Int) (a b:Nat->Int) (us:AQ):Prop where
 one:Cr (f 0) m
 keep:∀x,0<=x->x<(m:Int)->pl (f 0 x)=pl x
 pin:∀x,0<=x->x<(m:Int)->0<=pl x/\pl x<(M:Int)
 step:∀j,j<us.length->∀x,0<=x->x<(m:Int)->f (j+1) x=A9 (f j) (a j) (b j) x
 ain:∀j,j<us.length->0<=a j/\a j<(m:Int)/\0<=b j/\b j<(m:Int)/\a j≠b j
 tie:∀j,j<us.length->us[j]?=some (pl<|a j,pl (b j))
section
variable {m M:Nat}{pl:Int->Int}{f:Nat->Int->Int}{a b:Nat->Int}{us:AQ}(S:SwapsG m M pl f a b us)
include S
theorem Hm:∀j,j<=us.length->Cr (f j) m
 |0,_=>S.one
 |j+1,hj=>by
  obtain⟨A,c,B,d,_⟩:=S.ain j #[2];have G:=HZ (Hm j #[2]) A c B d;exact(λx h H=>by rw[S.step j #[2] x h H];exact G.to x h H,λx y h H a b e=>by
   rw[S.step j #[2] x h H,S.step j #[4] y a b]at e;exact G.inj x y h H a b e)
theorem Nw:∀j,j<=us.length->∀x,0<=x->x<(m:Int)->(AW M<|us.take j).getD (pl<|f j x).toNat 0=(AW M<|us.take j).getD (pl x).toNat 0
 |0,_,x,h0,h1=>by rw[S.keep x h0 h1]
 |j+1,hj,x,h0,h1=>by
  have l:j<us.length:=#[2]
  obtain⟨A,c,d,g,_⟩:=S.ain j l;have F:=Hm S j #[2];have h:=Nw j #[4];have L:=Cy M<|us.take j;have P:=S.pin _ A c;have k:=S.pin _ d g;rw[S.step j l x h0 h1,Fx (S.tie j l)];have r:∀y z:Int,0<=pl y->pl y<(M:Int)->0<=pl z->pl z<(M:Int)->(AW M<|us.take j).getD (pl y).toNat 0=(AW M<|us.take j).getD (pl z).toNat 0->(Cd (AW M<|us.take j) (pl<|a j)<|pl<|b j).getD (pl y).toNat 0=(Cd (AW M<|us.take j) (pl<|a j)<|pl<|b j).getD (pl z).toNat 0:=λy z Y i Z n e=>by
   rw[Ec _ _ _ #[2],Ec _ _ _ #[2],e]
  have s:=NG (AW M<|us.take j) (t:=(pl<|a j,pl (b j))) (by show (pl<|a j).toNat<_;lia) (by show (pl<|b j).toNat<_;lia);have B:(Cd (AW M<|us.take j) (pl<|a j)<|pl<|b j).getD (pl<|a j).toNat 0=(Cd (AW M<|us.take j) (pl<|a j)<|pl<|b j).getD (pl<|b j).toNat 0:=s.1.trans s.2.symm;have p:∀y,0<=y->y<(m:Int)->0<=pl (f j y)/\pl (f j y)<(M:Int):=λy Y i=>S.pin _ (F.to y Y i).1 (F.to y Y i).2;by_cases ea:x=a j
  ·rw[ea,Fc]
   exact(r _ _ (p _ d g).1 (p _ d g).2 k.1 k.2 (h _ d g)).trans B.symm
  ·by_cases eb:x=b j
   ·rw[eb,F5]
    exact(r _ _ (p _ A c).1 (p _ A c).2 P.1 P.2 (h _ A c)).trans B
   ·rw[EI ea eb]
    exact r _ _ (p _ h0 h1).1 (p _ h0 h1).2 (S.pin _ h0 h1).1 (S.pin _ h0 h1).2 (h _ h0 h1)
theorem Vb {j:Nat}(q:j<=us.length) {x y:Int}(h0:0<=x) (h1:x<(m:Int)) (Y:y∈orb (f j) x):(AW M<|us.take j).getD (pl y).toNat 0=(AW M<|us.take j).getD (pl x).toNat 0:=by
 have F:=Hm S j q;obtain⟨i,h,rfl⟩:=B1.mp Y;clear Y h
 induction i with
 |zero=>rfl
 |succ i ih=>
  have r:=DG F h0 h1 i;exact(Nw S j q _ r.1 r.2).trans ih
theorem Qy {q:Nat}(O:cnt (f 0) m (λ_=>true)<=q):∀j,j<=us.length->∀ms,BK ms (AW M<|us.take j)->cnt (f j) m (λ_=>true)+2*M<=2*ms.length+q+j
 |0,_,ms,h=>by
  rw[EY]at h;have:BK ((AV M).map λi:Nat=>(i:Int)) (AW M []):=by
   refine(?_,λx=>Iff.rfl);rw[ET];exact D5.imp λ{a b} H=>#[2]
  rw[h.uniq this,AJ,Bt];lia
 |j+1,hj,ms,h=>by
  have l:j<us.length:=#[2]
  obtain⟨A,d,B,e,H⟩:=S.ain j l;have F:=Hm S j #[2];have G:=Hm S (j+1) hj;have p:=S.pin _ A d;have P:=S.pin _ B e;obtain⟨o,n⟩:=GP<|AW M<|us.take j;have I:=Qy O j #[2] o n;have eq:cnt (f<|j+1) m (λ_=>true)=cnt (A9 (f j) (a j)<|b j) m (λ_=>true):=Na (HZ F A d B e) (λx g k=>S.step j l x g k) G _;rw[eq];rw[Fx (S.tie j l)]at h;by_cases c:(AW M<|us.take j).getD (pl<|a j).toNat 0=(AW M<|us.take j).getD (pl<|b j).toNat 0
  ·have h:BK ms (Cd (AW M<|us.take j) (pl<|a j)<|pl<|b j):=h
   rw[Np c]at h;rw[h.uniq n];by_cases hin:b j∈orb (f j) (a j)
   ·have:=Rb F A d B e H hin (λ_=>true) (λ_ _=>rfl)
    rw[AN rfl]at this;lia
   ·have:=RT F A d B e hin (λ_=>true) (λ_ _=>rfl) (λ_ _=>rfl)
    rw[AN rfl]at this;lia
  ·have u:b j ∉ orb (f j) (a j):=λz=>c (Vb S #[2] A d z).symm
   have L:=RT F A d B e u (λ_=>true) (λ_ _=>rfl) λ_ _=>rfl;rw[AN rfl]at L;have s:=NF (N:=M) (t:=(pl<|a j,pl (b j))) (Cy M<|us.take j) (by show (pl<|a j).toNat<M;lia) (by show (pl<|b j).toNat<M;lia) c;have:=s.count n h;lia
end
def rotI (ts:AQ) (o:Ak) (x:Int):Int:=if x % 2=0 then 2*Ca ts o (x / 2).toNat else 2*D3 ts o (x / 2).toNat+1
def crI (cs:List Int) (x:Int):Int:=2*((partner (x / 2).toNat:Nat):Int)+CS cs x
def plI (ts:AQ) (x:Int):Int:=2*Al ts (x / 2).toNat+x % 2
def hfI (cs:List Int) (x:Int):Nat:=2*(x.toNat / 4)+(if x.toNat % 4 / 2=0 then x.toNat % 2 else (CS cs x).toNat)
def dbI (ts:AQ) (o:Ak) (cs:List Int) (j:Nat) (x:Int):Int:=if hfI cs x<j then rotI ts o (crI cs x) else rotI ts o x
def aI (j:Nat):Int:=((4*(j / 2)+j % 2:Nat):Int)
def dbU (ts:AQ) (cs:List Int):AQ:=(AV (2*ts.length)).map λj=>(plI ts<|aI j,plI ts (crI cs<|aI j))
section
variable {N:Nat}{ts:AQ}{o:Ak}{cs:List Int}
theorem LW (cs:List Int) (e:Nat) (j:h=0\/h=1):crI cs (2*(e:Int)+h)=2*((partner e:Nat):Int)+(h+cs.getD (e / 2) 0) % 2:=by
 unfold crI;rw[LX cs e j,show ((2*(e:Int)+h) / 2).toNat=e by omega]
theorem LV (ts:AQ) (o:Ak) (e:Nat) (j:h=0\/h=1):rotI ts o (2*(e:Int)+h)=if h=0 then 2*Ca ts o e else 2*D3 ts o e+1:=by
 unfold rotI;rw[show ((2*(e:Int)+h) / 2).toNat=e by omega,show (2*(e:Int)+h) % 2=h by omega]
theorem Hg (ts:AQ) (e:Nat) (j:h=0\/h=1):plI ts (2*(e:Int)+h)=2*Al ts e+h:=by
 unfold plI;rw[show ((2*(e:Int)+h) / 2).toNat=e by omega,show (2*(e:Int)+h) % 2=h by omega]
theorem LZ (cs:List Int) (e:Nat) (j:h=0\/h=1):hfI cs (2*(e:Int)+h)=2*(e / 2)+(if e % 2=0 then h.toNat else ((h+cs.getD (e / 2) 0) % 2).toNat):=by
 unfold hfI;rw[LX cs e j];have E:(2*(e:Int)+h).toNat=2*e+h.toNat:=#[2]
 rw[E,show (2*e+h.toNat) / 4=e / 2 by lia,show (2*e+h.toNat) % 4 / 2=e % 2 by lia,show (2*e+h.toNat) % 2=h.toNat by omega]
theorem Gk (j:CrOk ts cs) (h0:0<=x) (h1:x<((4*ts.length:Nat):Int)):0<=crI cs x/\crI cs x<((4*ts.length:Nat):Int)/\crI cs (crI cs x)=x/\hfI cs (crI cs x)=hfI cs x/\crI cs x≠x/\hfI cs x<2*ts.length:=by
 obtain⟨e,h,E,H,rfl⟩:=FT h0 h1;have c:=cbit j E;have a:=DH E;have P:=Df e;have p:=HL e;rw[LW cs e H,LW cs (partner e) #[2],LZ cs e H,LZ cs (partner e) #[4],P,p];refine(#[2],#[2],#[4],?_,?_,?_)
 ·unfold partner
  by_cases z:e % 2=0
  ·rw[AN z,AK #[2],AN z];omega
  ·rw[AK z,AN #[2],AK z]
 ·have:partner e≠e:=by unfold partner;split <;> lia
  lia
 ·split <;> lia
theorem a_in (q:j<2*ts.length):0<=aI j/\aI j<((4*ts.length:Nat):Int)/\hfI cs (aI j)=j:=by
 unfold aI;refine(#[2],#[2],?_);have:=LZ cs (2*(j / 2)) (h:=((j % 2:Nat):Int)) #[2];rw[show 2*(((2*(j / 2):Nat)):Int)+((j % 2:Nat):Int)=((4*(j / 2)+j % 2:Nat):Int) by lia]at this;rw[this,AN #[2]];lia
theorem V1 (q:CrOk ts cs) (h0:0<=x) (h1:x<((4*ts.length:Nat):Int)) (B:hfI cs x=j):x=aI j\/x=crI cs (aI j):=by
 have k:∀y:Int,0<=y->y<((4*ts.length:Nat):Int)->(y / 2) % 2=0->hfI cs y=j->y=aI j:=λy d f z Y=>by
  obtain⟨e,h,E,H,rfl⟩:=FT d f;rw[LZ cs e H,AN #[2]]at Y;unfold aI;lia
 obtain⟨c,C,a,b,_⟩:=Gk q h0 h1;by_cases z:(x / 2) % 2=0
 ·exact .inl<|k x h0 h1 z B
 ·right
  have:=k (crI cs x) c C (by
   obtain⟨e,h,E,H,rfl⟩:=FT h0 h1;rw[LW cs e H];have:partner e=e-1:=by unfold partner;rw[AK #[2]]
   have g:=cbit q E;lia) (by rw[b];exact B)
  rw[<- this,a]
theorem Ln (x:Int):rotI ts o (crI cs x)=cOn ts o cs x:=by
 have b:=NP cs x;have:=LV ts o (partner (x / 2).toNat) (h:=CS cs x) b;unfold crI cOn;rw[this]
theorem OK (hW:Af (N:Int) ts) (hO:BG (N:Int) ts o) (h0:0<=x) (h1:x<((4*ts.length:Nat):Int)):plI ts (rotI ts o x)=plI ts x/\0<=rotI ts o x/\rotI ts o x<((4*ts.length:Nat):Int):=by
 obtain⟨e,h,E,H,rfl⟩:=FT h0 h1;rw[LV ts o e H,Hg ts e H];obtain⟨g,c,G,a⟩:=Gd hW hO E;obtain⟨k,d,K,b⟩:=Zrn hW hO E;rcases H with rfl|rfl
 ·rw[AN rfl,<- a]
  have:=Hg ts g (h:=0) (.inl rfl);rw[Int.add_zero]at this;rw[this,G];lia
 ·rw[AK #[0],K,Hg ts k (.inr rfl),b]
  lia
theorem N9 (hW:Af (N:Int) ts) (hO:BG (N:Int) ts o) (j:CrOk ts cs):Cr (rotI ts o) (4*ts.length):=by
 have O:=Jn hW hO j;refine(λx h H=>(OK hW hO h H).2,λx y h H f g e=>?_);obtain⟨A,c,a,_⟩:=Gk j h H;obtain⟨B,d,b,_⟩:=Gk j f g;have r:=Ln (ts:=ts) (o:=o) (cs:=cs)<|crI cs x;have R:=Ln (ts:=ts) (o:=o) (cs:=cs)<|crI cs y;rw[a]at r;rw[b]at R;rw[r,R]at e;have:=O.inj _ _ A c B d e;rw[<- a,this,b]
theorem Rv (hW:Af (N:Int) ts) (hO:BG (N:Int) ts o) (B:CrOk ts cs):SwapsG (4*ts.length) (2*N) (plI ts) (dbI ts o cs) aI (λj=>crI cs<|aI j) (dbU ts cs):=by
 have l:(dbU ts cs).length=2*ts.length:=by unfold dbU;rw[AJ,Bt]
 have D:∀x,dbI ts o cs 0 x=rotI ts o x:=λx=>by unfold dbI;rw[AK (Dr _)]
 refine(?_,λx H f=>?_,λx H f=>?_,λj J x H f=>?_,λj J=>?_,λj J=>?_)
 ·have R:=N9 hW hO B
  exact(λx H f=>by rw[D];exact R.to x H f,λx y a b c d e=>R.inj x y a b c d (by rw[D,D]at e;exact e))
 ·rw[D];exact(OK hW hO H f).1
 ·obtain⟨e,h,E,q,rfl⟩:=FT H f
  rw[Hg ts e q];have:=HX hW E;lia
 ·rw[l]at J
  obtain⟨A,g,i⟩:=a_in (cs:=cs) J;obtain⟨C,k,p,m,n,_⟩:=Gk B A g;by_cases ea:x=aI j
  ·rw[ea,Fc]
   unfold dbI;rw[i,AN (HB _),m,i,AK (EZ _)]
  ·by_cases eb:x=crI cs (aI j)
   ·rw[eb,F5]
    unfold dbI;rw[m,i,AN (HB _),AK (EZ _),p]
   ·rw[EI ea eb]
    have r:hfI cs x≠j:=λz=>(V1 B H f z).elim ea eb;unfold dbI;by_cases z:hfI cs x<j
    ·rw[AN z,AN #[2]]
    ·rw[AK z,AK #[2]]
 ·rw[l]at J
  obtain⟨A,g,i⟩:=a_in (cs:=cs) J;obtain⟨C,k,_,_,n,_⟩:=Gk B A g;exact(A,g,C,k,Ne.symm n)
 ·rw[l]at J
  unfold dbU;rw[Ad,Ek J];rfl
theorem Sk (j:CrOk ts cs) (h0:0<=x) (h1:x<((4*ts.length:Nat):Int)):dbI ts o cs (2*ts.length) x=cOn ts o cs x:=by
 unfold dbI;rw[AN (Gk j h0 h1).2.2.2.2.2,Ln]
def lmI (N:Nat) (ts:AQ) (cs:List Int) (p:Int):Int:=(AW (2*N)<|dbU ts cs).getD p.toNat 0
theorem Zvj (hW:Af (N:Int) ts) (hO:BG (N:Int) ts o) (B:CrOk ts cs) (hm:BK ms (AW N ts)) (U:BK ns (AW (2*N)<|dbU ts cs)):ns.length<=2*ms.length:=by
 have S:=Rv hW hO B;have L:(dbU ts cs).length=2*ts.length:=by unfold dbU;rw[AJ,Bt]
 have M:∀x,0<=x->x<((4*ts.length:Nat):Int)->lmI N ts cs (plI ts<|crI cs x)=lmI N ts cs (plI ts x):=λx c H=>by
  have:=Nw S (2*ts.length) #[2] x c H;rw[<- L,Bm,L,Sk B c H,<- Ln]at this;obtain⟨C,f,_⟩:=Gk B c H;rw[(OK hW hO C f).1]at this;exact this
 have O:∀{p:Int}{r:List Int},E9 N ts p r->∀h:Int,(h=0\/h=1)->∃b:Int,(b=0\/b=1)/\lmI N ts cs (2*p+h)=lmI N ts cs (2*mk N ts p+b):=λ{p r} d=>by
  induction d with
  |nil c H h=>intro k hk;exact(k,hk,by rw[h])
  |@snoc q p r e hq he H h2 ih=>
   intro h hh;have j:=cbit B he;obtain⟨b,a,E⟩:=ih ((h+cs.getD (e / 2) 0) % 2) #[2];refine(b,a,?_);have m:=Pe hW he;rw[H,h2]at m;rw[m,<- E];have:=M (2*((partner e:Nat):Int)+h) #[2] (by have:=DH he;lia);rw[LW cs (partner e) hh,Df,HL,Hg ts e #[2],Hg ts (partner e) hh,H,h2]at this;exact this.symm
 obtain⟨I,n⟩:=Nb hW hm;have u:∀x∈ns,x∈ms.flatMap λg=>[lmI N ts cs (2*g),lmI N ts cs (2*g+1)]:=λx X=>by
  obtain⟨P,i,rfl⟩:=OT ((U.2 x).mp X);rw[Cy]at i;obtain⟨_,d⟩:=Hf hW I #[2] (p:=((P / 2:Nat):Int)) #[2] #[2];obtain⟨b,a,E⟩:=O d ((P % 2:Nat):Int) #[2];have E:_=_:=(congrArg (λz:Nat=>(AW (2*N)<|dbU ts cs).getD z 0) (show P=(2*((P / 2:Nat):Int)+((P % 2:Nat):Int)).toNat by lia)).trans E;rw[E];refine EV.mpr (mk N ts ((P / 2:Nat):Int),(K9 hW hm).mpr (Ot hW #[2] #[2]),?_);rcases a with rfl|rfl
  ·rw[Int.add_zero];exact B5
  ·exact Bl _ B5
 have:=GK (U.1.imp λz=>Kg z) u;have F:∀l:List Int,(l.flatMap λg=>[lmI N ts cs (2*g),lmI N ts cs (2*g+1)]).length=2*l.length:=λl=>by
  induction l with
  |nil=>rfl
  |cons g l ih=>rw[DL,Ar,ih,BH];simp;lia
 rw[F]at this;exact this
theorem Qm (j:Nat->Bool):∀n:Nat,((AV (2*n)).filter j).length=((AV n).filter λe=>j (2*e)).length+((AV n).filter λe=>j (2*e+1)).length
 |0=>rfl
 |n+1=>by
  rw[show 2*(n+1)=2*n+1+1 by lia,GF,GF,GF,Em,Em,Em,Em,Ar,Ar,Ar,Ar,Qm j n];have o:∀(q:Nat->Bool) (k:Nat),([k].filter q).length=if q k=true then 1 else 0:=λq k=>by
   by_cases z:q k=true
   ·rw[ID z,AN z];rfl
   ·rw[IE z,AK z];rfl
  rw[o,o,o,o];lia
theorem QD {α:Type}{p q:α -> Bool}(h:∀x,p x=true->q x=true):∀l:List α,(l.filter p).length<=(l.filter q).length
 |[]=>AU _
 |x::l=>by
  have i:=QD h l;by_cases z:p x=true
  ·rw[ID z,ID (h x z)];exact Nat.succ_le_succ i
  ·rw[IE z,DV]
   split
   ·exact IW i
   ·exact i
theorem TJ (hO:BG (N:Int) ts o):loneS (λ_=>true) N o=lone o:=by
 have l:=hO.len;unfold loneS lone;have:o=(AV N).map λp=>rowP o p:=by
  refine EU λp=>?_;by_cases hp:p<N
  ·rw[Ad,Ek hp]
   rw[AZ (show p<o.length by lia)];show some _=some (o.getD p []);rw[Av,AZ (show p<o.length by omega)];rfl
  ·rw[Ds #[2],Ds (by rw[AJ,Bt];lia)]
 conv=>rhs;rw[this]
 rw[GG,AJ];rfl
theorem Ru (hW:Af (N:Int) ts) (hO:BG (N:Int) ts o) (B:CrOk ts cs) (O:BG (N:Int) ts o') {h:Nat}(L:h<2) (j:∀y:Nat,y<2*ts.length->rotI ts o (2*(y:Int)+(h:Int))=2*Ca ts o' y+(h:Int)):((AV (2*ts.length)).filter λe=>BX (rotI ts o) (2*e+h) && true).length<=cnt (sgI ts o' 0) (2*ts.length) (endS ts λ_=>true):=by
 have R:=N9 hW hO B;have G:=OF hW O;have t:∀(e:Nat),e<2*ts.length->∀i,iter (rotI ts o) (2*(e:Int)+(h:Int)) i=2*iter (sgI ts o' 0) (e:Int) i+(h:Int):=λe l i=>by
  induction i with
  |zero=>rfl
  |succ i ih=>
   have r:=DG G (e:=(e:Int)) #[2] #[2] i;show rotI ts o (iter (rotI ts o) (2*(e:Int)+(h:Int)) i)=2*sgI ts o' 0 (iter (sgI ts o' 0) (e:Int) i)+(h:Int);rw[ih];obtain⟨y,Y⟩:∃y:Nat,iter (sgI ts o' 0) (e:Int) i=(y:Int):=(_,(Int.toNat_of_nonneg r.1).symm);rw[Y,j y #[2],Ny hW O]
 unfold cnt;rw[De (q:=λe=>BX (rotI ts o) (2*e+h) && decide (e<2*ts.length)) λe j=>by rw[BD (BB.mp j)]];refine QD (λe Q=>?_) _;obtain⟨a,H⟩:=Bool.and_eq_true_iff.mp Q;have H:=of_decide_eq_true H;refine Bool.and_eq_true_iff.mpr (BD λz Z=>?_,rfl);obtain⟨i,_,rfl⟩:=B1.mp Z;have:=of_decide_eq_true a _ (by rw[show ((2*e+h:Nat):Int)=2*(e:Int)+(h:Int) by lia];exact Ci R (e:=2*(e:Int)+(h:Int)) #[2] #[2] i);rw[t e H i]at this;lia
theorem Ud (hW:Af (N:Int) ts) (hO:BG (N:Int) ts o) (j:CrOk ts cs):cnt (rotI ts o) (4*ts.length) (λ_=>true)+2*lone o<=2*N:=by
 have f:BK ((AV N).map λi:Nat=>(i:Int)) (AW N []):=by
  refine(?_,λx=>Iff.rfl);rw[ET];exact D5.imp λ{a b} hab=>#[4]
 have B:=Sh (S:=λ_=>true) hW hO f;have c:=Sh (S:=λ_=>true) hW hO.turn f;have s:inS (λ_=>true) ((AV N).map λi:Nat=>(i:Int))=N:=by unfold inS;rw[D6.mpr (λ_ _=>rfl),AJ,Bt]
 have lt:lone (o.map DK)=lone o:=by
  unfold lone;rw[GG,AJ];congr 1;exact De λr _=>by cases r <;> rfl
 rw[s,TJ hO]at B;rw[s,TJ hO.turn,lt]at c;have E:=Ru hW hO j hO (h:=0) #[2] λy _=>(LV ts o y (h:=0) (.inl rfl)).trans (by rw[AN rfl];lia);have d:=Ru hW hO j hO.turn (h:=1) #[2] λy Y=>(LV ts o y (h:=1) (.inr rfl)).trans (by rw[AK #[0],Zvt hW hO Y];lia);have p:=Qm (λe=>BX (rotI ts o) e && true) (2*ts.length);have C:cnt (rotI ts o) (4*ts.length) (λ_=>true)=((AV (2*(2*ts.length))).filter λe=>BX (rotI ts o) e && true).length:=by
  unfold cnt;rw[show 4*ts.length=2*(2*ts.length) by lia]
 rw[C,p];have E:((AV (2*ts.length)).filter λe=>BX (rotI ts o) (2*e) && true).length<=_:=E;lia
theorem Zvr (hW:Af (N:Int) ts) (hO:BG (N:Int) ts o) (j:CrOk ts cs) (hm:BK ms (AW N ts)):0<=F8 (N:Int) ts o cs ms:=by
 have S:=Rv hW hO j;have l:(dbU ts cs).length=2*ts.length:=by unfold dbU;rw[AJ,Bt]
 have r:=Ud hW hO j;have c:cnt (dbI ts o cs 0) (4*ts.length) (λ_=>true)<=2*N-2*lone o:=by
  have:cnt (dbI ts o cs 0) (4*ts.length) (λ_=>true)=cnt (rotI ts o) (4*ts.length) (λ_=>true):=Na (N9 hW hO j) (λx _ _=>by unfold dbI;rw[AK (Dr _)]) S.one _;lia
 obtain⟨s,n⟩:=GP<|AW (2*N)<|dbU ts cs;have k:=Qy S c (2*ts.length) #[2] s (by rw[<- l,Bm];exact n);have e:cnt (dbI ts o cs (2*ts.length)) (4*ts.length) (λ_=>true)=cnt (cOn ts o cs) (4*ts.length) (λ_=>true):=Na (Jn hW hO j) (λx h H=>Sk j h H) (Hm S _ #[2]) _;rw[e,U3 hW hO j]at k;have L:=Zvj hW hO j hm n;unfold F8 allC;rw[Ar,CU];lia
end
def fPaths:OSp:=λs t=>∃(N:Nat) (ts:AQ),s=[Am N ts]/\Af (N:Int) ts/\∀ms,BK ms (AW N ts)->t (.dct ((D1 N ts ms).map encP))
def fCt:DSp:=λs t=>∃(ts:AQ) (cs r:List Int),s=[AX cs,AX r]/\CrOk ts cs/\r.length<=100/\(∀x∈r,∃e:Nat,e<2*ts.length/\x=(e:Int))/\t (.int<|F9 cs r)
def fFits:DSp:=λs t=>∃(g:D) (gs:List Int) (a b c:Int),s=[g,.int a,.int b,.int c]/\(g=.lst (gs.map .int)\/g=.tup (gs.map .int))/\0<=a/\a<(gs.length:Int)/\0<=b/\b<(gs.length:Int)/\t (.bl<|fitB (gs.getD a.toNat 0) (gs.getD b.toNat 0) c)
def fRing:DSp:=λs t=>∃(p q:List Int) (e:Int),s=[AX p,.int e,AX q]/\p.length<=100/\q.length<=100/\(∀x∈q,0<=x)/\t (AX<|Hx p e q)
def fSides:DSp:=λs t=>∃(N:Nat) (ts:AQ) (cs:List Int),s=[Am N ts,AX cs]/\Af (N:Int) ts/\CrOk ts cs/\∀ms,BK ms (AW N ts)->t (Gq N ts cs<|D1 N ts ms)
theorem Zty {i:Nat}(h:((DB N ts ms).map lstI)[i]?=some d):∃g,ms[i]?=some g/\d=lstI (DD (AW N ts) N g):=by
 unfold DB at h;rw[Ad,Ad]at h;cases z:ms[i]? with
 |none=>exists 0,z,h
 |some g=>rw[z]at h;exact(g,rfl,by simpa using h.symm)
theorem Zuy {ms:List Int}(h:ms[i]?=some g) (j:ms.Nodup):putD ((pBeg<|ms.take i).map encP) (.inl g) (.tup [])=(pBeg<|ms.take<|i+1).map encP:=by
 have k:(pBeg<|ms.take i).map (·.1)=ms.take i:=by unfold pBeg;rw[BS];exact Ie _
 have n:g ∉ (pBeg<|ms.take i).map (·.1):=by
  rw[k];intro hm;obtain⟨I,G⟩:=BQ.mp h;have e:ms=ms.take i++g::ms.drop (i+1):=by rw[<- G];simp
  rw[e]at j;exact(Fp.mp j).2.2 g hm g B5 rfl
 have:=RX (r:=[]) n;rw[show AX []=D.tup [] from rfl]at this;rw[this,Cu,h];unfold pBeg;rw[BA,BA,BA];rfl
theorem at0c (x:D) (l:List D):atI (x::l) 0=some x:=Ck (xs:=x::l) (j:=0) rfl
#check 2
theorem Zvb (mb:Mb mg) (a3:Callee P w K mg base 1 "parts_of" ["web"] (spN K Jw)) (a2:Callee P w K mg base 1 "place_of" ["web","end"] (spD K H0)) (F:BE K "paths_of" "paths_of" Kh f fd):FnOk P w K mg base CX0 2 f fd ["web"] (spO K fPaths):=by
 refine F.ok Il (Zzv λY o h=>#[8]) λV A R s H vs Q E r h=>?_;have u:=Bb r;have hv:=Ff r;refine(_,(AR (Zs3 (i:=1) Il.nd rfl (Or.inl rfl) ["part"] (show CompSc (defScope Kh) ["web","paths","end","here","there"] _ [] [] from (rfl,#[1],#[1],#[1],rfl,#[1])) rfl (seqK K<|An a3 (r.mono #[0])<|AA (pv 0) AE) (λ_ _ _ _ _=>(Ao (i:=0) (show List.Nodup (["part"]:List Str) from #[0]) rfl<|Or.inl rfl)) (λ_ _ _ _ _=>(Ag (ixK K u) (pv 0) AG λ_ _=>rfl)) λ_ _ _ _ _=>(@Ab _ _ _ _ _ AE))<|AR (FK PassesOwn.never (BW Ov (A0 (lenK K) rfl (mb "len" #[0]) Bi<|AA (pv 1) AE) (Ag (ixK K u) (pv 0) AG λ_ _=>rfl)<|nomark _)<|AY<|Bv PassesOwn.never rfl (CP rfl (mb "range" #[0])<|AA (Ae DO AG<|A0 (lenK K) rfl (mb "len" #[0]) Bi<|AA (Ag (ixK K u) (pv 0) AG λ_ _=>rfl) AE) AE) (Ao (i:=2) Il.nd rfl<|Or.inl rfl)<|AR (Aj (i:=3) Il.nd rfl (Or.inl rfl)<|An a2 (r.mono #[0])<|AA (pv 0)<|AA (pv 2) AE)<|AR (Aj (i:=4) Il.nd rfl (Or.inl rfl)<|An a2 (r.mono #[0])<|AA (pv 0)<|AA (Ae Lp (pv 2) AG) AE)<|AY<|CF (PW.pt<|pw_and (BW (inK K u) (pv 3) (pv 1) rfl)<|pw_and1<|BW (notinK K u) (pv 4) (pv 1) rfl) (AY<|DI (Ae (addK K) (Ag (ixK K u) (pv 1) (pv 3) λ_ _=>rfl)<|Ab<|AA (pv 2) AE)<|E7 (pv 1) (pv 4)<|setU u) CM)<|AY<|BF<|pv 1),WD (λY o hf=>?_) h);obtain⟨N,t,rfl,W,q⟩:=hf;sleep 0;have hw:=W.len;have hn:=W.hi;have a0:=W.lo;refine Ac<|Cw<|Qv (od0:=.dct []) (λ_=>.nil)<|Cn<|Cz<|EF<|AF<|AD rfl<|AI (_,t,rfl,W,λm M=>?_);rw[BO]at M ⊢;have L:=M.len;rw[Cy]at L;have nd:m.Nodup:=M.1.imp λz=>Kg z;refine(_,rfl,_,Or.inl rfl,λi hi=>(nomatch hi),λi B J=>∃x,B=.dct ((pBeg<|m.take i).map encP) /\ J = [x],(.any,rfl,rfl),?_,?_)
 ·rintro i d B n p ⟨x,rfl,rfl⟩
  obtain⟨g,G,rfl⟩:=Zty p;obtain⟨l,hl⟩:=Zr8 W ((M.2 g).mp (Be G));refine A8<|Zzb<|AO<|AD rfl<|Aa<|DW (d:=.int g) (by rw[hl];exact at0c _ _)<|BJ<|AI (#[0],g,rfl,?_,.val<|lstI<|DD (AW N t) N g,?_,rfl)
  ·rw[AJ]
   unfold pBeg;rw[AJ,Bo];exact small1000 #[2]
  ·rw[Zuy G nd]
 rintro B n ⟨x,rfl,rfl⟩;rw[AJ,show (DB N t m).length=m.length by unfold DB;rw[AJ],Bm];refine Bh (λJ=>∃(X a b:L2.Slot),J = [.val (Am N t),.own (.dct ((D1 N t m).map encP)),X,a,b]) ?_ ?_
 ·refine FN (fun μ J=>∃(k:Nat) (X a b:L2.Slot),k<=N /\ μ = N-(pIt t (pBeg m) k).length /\ J = [.val (Am N t),.own (.dct ((pIt t (pBeg m) k).map encP)),X,a,b]) (_,0,_,_,_,Bp _,rfl,rfl) ?_
  rintro μ U ⟨k,X,a,b,hk,rfl,rfl⟩;have I:=Hk W M k;have T:=GO W I;refine Ba<|AO<|SW rfl rfl<|AO<|AD rfl<|Aa<|Bc (d:=.int (N:Int)) rfl<|EK (_,rfl,?_);rw[AJ];by_cases c:(pIt t (pBeg m) k).length<N
  ·have O:=SY W I c
   rw[show decide (((pIt t (pBeg m) k).length:Int)<(N:Int))=true from BD #[2]];have v:k+1<=N:=by
    rcases Nu W M k with z|z
    ·lia
    ·lia
   refine iteT<|Bx<|CQ ?_;refine AF<|AO<|Aa<|A3 ?_;refine AF<|AO<|AD rfl<|Aa<|Bc (d:=.tup<|t.map BY) rfl ?_;refine AI<|B7 (Or.inr rfl) ?_;rw[AJ];refine jr_I (Or.inl (#[2],#[2]))<|AI (_,rfl,#[2],#[2],?_);have Z:((2:Int)*(t.length:Int)).toNat=2*t.length:=#[2]
   rw[Z];refine(λj J=>∃(X a b:L2.Slot),J = [.val (Am N t),.own (.dct ((Cc t j<|pIt t (pBeg m) k).map encP)),X,a,b],(X,a,b,rfl),?_,?_)
   ·rintro j dd n p ⟨X,a,b,rfl⟩
    obtain⟨S,rfl⟩:=B9 p;rw[B0];have C:=(HM W I j #[2]).1;have lJ:=GO W C;refine A8<|Ac<|Aw<|BU<|AF<|AD rfl<|AF<|AD rfl<|AI (_,t,j,rfl,S,?_);refine Ac<|Aw<|BU<|AF<|AD rfl<|AF<|AO<|AD rfl<|Aa<|DA ?_;rw[Ld];refine AI (_,t,partner j,rfl,DH S,?_);refine CD<|Jo<|Ba<|TK<|AD rfl (_,_,_,rfl,rfl,rfl,_,rfl,?_);show if (if false=true then _ else _)=true then _ else _
    rw[AK BV,valP];have e:=M8 t j<|pIt t (pBeg m) k;unfold FA at e;cases h1:(Cc t j<|pIt t (pBeg m) k).find? λz=>decide (z.1=Al t j) with
    |none=>
     rw[h1]at e;refine iteF<|iteF<|CN ?_;show ∃(y2 y3 y4:L2.Slot),_=[_,L2.Slot.own (.dct ((Cc t (j+1)<|pIt t (pBeg m) k).map encP)),y2,y3,y4];rw[e];exact(_,_,_,rfl)
    |some z=>
     rw[h1]at e;refine iteT<|Ba<|TK<|AD rfl (_,_,_,rfl,rfl,rfl,_,rfl,?_);show if (if true=true then _ else _)=true then _ else _
     rw[AN rfl,valP];cases h2:(Cc t j<|pIt t (pBeg m) k).find? λz=>decide (z.1=Al t (partner j)) with
     |some y=>
      rw[h2]at e;refine iteF<|CN ?_;show ∃(y2 y3 y4:L2.Slot),_=[_,L2.Slot.own (.dct ((Cc t (j+1)<|pIt t (pBeg m) k).map encP)),y2,y3,y4];rw[e];exact(_,_,_,rfl)
     |none=>
      rw[h2]at e;have zl:=C.ln z (HU h1).1;refine iteT<|OE<|AO<|OC rfl rfl<|AD rfl (_,_,_,AX z.2,rfl,rfl,rfl,?_,BJ<|AF<|AD rfl<|AI (#[7],E2 ?_ ((_,_,rfl,rfl),AD rfl (_,_,_,rfl,rfl,rfl,?_,?_))))
      ·rw[valP,h1];rfl
      ·rw[AJ];exact Cj<|small1000 (by show z.2.length+1<=_;lia)
      ·rw[AJ];exact small1000 #[2]
      ·show ∃(y2 y3 y4:L2.Slot),_=[_,L2.Slot.own (.dct ((Cc t (j+1)<|pIt t (pBeg m) k).map encP)),y2,y3,y4]
       have ee:AX (z.2++[(j:Int)])=.tup (z.2.map D.int++[.int (j:Int)]):=by unfold AX;rw[BA];rfl
       rw[e,<- RX (LH.mp h2),ee];exact(_,_,_,rfl)
   ·rintro n ⟨X,a,b,rfl⟩
    rw[CC];exact(_,by have O:(pIt t (pBeg m) k).length<(pIt t (pBeg m)<|k+1).length:=O;have:=GO W<|Hk W M<|k+1;lia,k+1,X,a,b,v,rfl,rfl)
  ·rw[show decide (((pIt t (pBeg m) k).length:Int)<(N:Int))=false from BI #[2]]
   refine iteF (X,a,b,?_);rw[Zvf W M hk #[2]]
 rintro U ⟨X,a,b,rfl⟩;exact F4<|Tb rfl<|q m M
theorem V9 (B:Mb mg) (F:BE K "crossed_times" "crossed_times" Kj f fd):FnOk P w K mg base CX0 1 f fd ["crossings","ends"] (spD K fCt):=by
 refine F.ok T4 (B2 λj t h=>#[6]) λv A u s H V Q E R h=>?_;have U:=Bb R;refine(_,(AY<|BF<|A0 (sumK K rfl) rfl (B "sum" #[0]) Lk<|AA (Du ["end"] (show CompSc (defScope Kj) ["crossings","ends"] _ ["crossings"] [0] from (rfl,#[1],#[1],#[1],rfl,#[1])) rfl (seqK K<|pv 1) (λ_ _ _ _ _=>(Ao (i:=0) (show List.Nodup (["end","crossings"]:List Str) from #[0]) rfl<|Or.inl rfl)) (λ_ _ _ _ _=>EG) λ_ _ _ _ _=>(Ag (ixK K U) (pv 1) (Ae GZ (pv 0) AG) λ_ _=>rfl)) AE),B3 (λj t o=>?_) h);obtain⟨T,S,r,rfl,m,L,n,q⟩:=o;sleep 0;refine Bk<|A3<|AF<|Dx #[0]<|FW<|AD rfl (_,rfl,?_,λ_=>true,λd=>match d with|.int e=>.int (S.getD (e.toNat / 2) 0)|d=>d,λi d a=>?_,?_)
 ·rw[AJ];exact small1000 #[2]
 ·rw[Ad]at a
  cases z:r[i]? with
  |none=>exists 0,z,a
  |some x=>
   rw[z]at a;have a:D.int x=d:=by simpa using a
   subst a;obtain⟨e,p,rfl⟩:=n x<|Be z;obtain⟨c,C,g,_⟩:=m.at (k:=e / 2) #[2];have b:atI (S.map D.int) ((e:Int) / 2)=some (.int c):=by
    rw[show (e:Int) / 2=((e / 2:Nat):Int) by lia];exact Ck (by rw[Ad,C];rfl)
   refine Dz (rfl,AO<|AD rfl<|AO<|AD rfl<|Aa<|jr_I (#[2],#[2])<|Bc b (?_,_,rfl));show D.int c=D.int (S.getD ((e:Int).toNat / 2) 0);rw[BO,g]
 ·have l:((r.map D.int).filter λ_=>true).map (λd=>match d with|.int e=>D.int (S.getD (e.toNat / 2) 0)|d=>d)=(r.map λe=>S.getD (e.toNat / 2) 0).map D.int:=by
   rw[D6.mpr #[3],BS,BS];rfl
  rw[l];exact AI<|OX q
theorem Zyz (z:Mb mg) (F:BE K "fits" "fits" Mq f fd):FnOk P w K mg base CX0 1 f fd ["given","a","b","crossing"] (spD K fFits):=by
 refine F.ok T5 (B2 λD t h=>by obtain⟨_,_,_,_,_,rfl,_⟩:=h;rfl) λv A r s H V Q E R h=>?_;have u:=Bb R;refine(_,(AY<|BF<|GW CY (GW Ho (Ag (ixK K u) (pv 0) (pv 1) λ_ _=>rfl) (Ag (ixK K u) (pv 0) (pv 2) λ_ _=>rfl)<|nomark _) (GW CY (pv 3) AG<|nomark _)<|nomark _),B3 (λD t m=>?_) h);obtain⟨g,S,a,b,c,rfl,G,e,i,j,k,q⟩:=m;sleep 0;have d:=F1 (l:=S) rfl e i;have B:=F1 (l:=S) rfl j k;rcases G with rfl|rfl
 ·exact Bk<|AO<|AO<|AO<|AD rfl<|AD rfl<|DW d<|AO<|AD rfl<|AD rfl<|DW B<|Hu<|AO<|AD rfl<|Aa<|Co<|OI q
 ·exact Bk<|AO<|AO<|AO<|AD rfl<|AD rfl<|Bc d<|AO<|AD rfl<|AD rfl<|Bc B<|Hu<|AO<|AD rfl<|Aa<|Co<|OI q
theorem Zzx (L:Mb mg) (F:BE K "ring_by" "ring_by" Ki f fd):FnOk P w K mg base CX0 1 f fd ["path","end","other"] (spD K fRing):=by
 refine F.ok Ma (B2 λk t h=>#[6]) λv A u s H V Q E R h=>?_;have U:=Bb R;refine(_,(AR (FK PassesOwn.never (PW.pt<|pw_and (truK K (pv 0) λ_=>rfl)<|pw_and (truK K (pv 2) λ_=>rfl)<|pw_and1<|BW CY (Ag (ixK K U) (pv 0) AG λ_ _=>rfl) (Ag (ixK K U) (pv 2) AG λ_ _=>rfl)<|nomark _)<|AR (Aj (i:=0) Ma.nd rfl (Or.inl rfl)<|FV (slK K) (pv 0) (FU AG) E3)<|AY<|Aj (i:=2) Ma.nd rfl (Or.inl rfl)<|FV (slK K) (pv 2) (FU AG) E3)<|AY<|BF<|Ae (addK K) (Ae (addK K) (pv 0)<|Ab<|AA (pv 1) AE)<|Ed (tupK K) rfl (L "tuple" #[0]) Ey<|AA (Du ["step"] (show CompSc (defScope Ki) ["path","end","other"] _ [] [] from (rfl,#[1],#[1],#[1],rfl,#[1])) rfl (seqK K<|slRK K<|pv 2) (λ_ _ _ _ _=>(Ao (i:=0) (show List.Nodup (["step"]:List Str) from #[0]) rfl<|Or.inl rfl)) (λ_ _ _ _ _=>EG) λ_ _ _ _ _=>(Ae Lp (pv 0) AG)) AE),B3 (λk t m=>?_) h);obtain⟨p,r,e,rfl,B,o,n,q⟩:=m;sleep 0;have I:=Zwe p r;refine Bh (λJ=>J = [.val (AX (CJ p r).1),.val (.int e),.val (AX (CJ p r).2)]) ?_ ?_
 ·refine FN (fun μ J=>∃p' r':List Int,CJ p' r'=CJ p r /\ μ = p'.length /\ J = [.val (AX p'),.val (.int e),.val (AX r')]) (_,p,r,rfl,rfl,rfl) ?_
  rintro μ b ⟨p',r',es,rfl,rfl⟩;refine Jo<|Dg<|AD rfl (!p'.isEmpty,by cases p' <;> rfl,?_)
  cases p' with
  |nil=>
   refine iteF<|iteF ?_;rw[<- es];cases r' <;> rfl
  |cons x p'=>
   refine iteT<|Jo<|Dg<|AD rfl (!r'.isEmpty,by cases r' <;> rfl,?_)
   cases r' with
   |nil=>
    refine iteF<|iteF ?_;rw[<- es];rfl
   |cons y r'=>
    refine iteT<|Ba<|AO<|AO<|AD rfl<|Aa<|Bc (d:=.int x) (at0c _ _)<|AO<|AD rfl<|Aa<|Bc (d:=.int y) (at0c _ _)<|Co (_,rfl,?_);by_cases c:x=y
    ·rw[BD c]
     have S:CJ p' r'=CJ p r:=by rw[<- es];conv=>rhs;unfold CJ;rw[AN c]
     refine iteT<|Ac<|Aw<|Ht<|AD rfl<|F3<|Aa (_,rfl,E4 (_,rfl,?_));refine Aw<|Ht<|AD rfl<|F3<|Aa (_,rfl,E4 (_,rfl,p'.length,HB _,p',r',S,rfl,?_));have C:cutD ((x::p').map D.int) (some 1) none=p'.map D.int:=Nc _ (j:=1) #[3];have g:cutD ((y::r').map D.int) (some 1) none=r'.map D.int:=Nc _ (j:=1) #[3];rw[C,g];rfl
    ·rw[BI c]
     refine iteF ?_;rw[<- es];show _=[L2.Slot.val (AX (CJ (x::p') (y::r')).1),_,L2.Slot.val (AX (CJ (x::p') (y::r')).2)];unfold CJ;rw[AK c]
 rintro b rfl;refine Bk<|AO<|AO<|AD rfl<|BJ<|AF<|AD rfl<|AI (#[7],E2 ?_ ?_)
 ·rw[AJ];exact Cj<|small1000 (by show (CJ p r).1.length+1<=_;lia)
 refine A3<|AF<|Dx #[0]<|FW<|TX<|AD rfl (_,rfl,_,rfl,?_,λ_=>true,λd=>match d with|.int e=>.int ((partner e.toNat:Nat):Int)|d=>d,λi d a=>?_,?_)
 ·rw[Jy,AJ];exact small1000 #[2]
 ·rw[<- List.map_reverse,Ad]at a
  cases z:(CJ p r).2.reverse[i]? with
  |none=>exists 0,z,a
  |some x=>
   rw[z]at a;have a:D.int x=d:=by simpa using a
   subst a;have G:=n x<|I.2.1 x<|List.mem_reverse.mp<|Be z;obtain⟨X,rfl⟩:∃X:Nat,x=(X:Int):=(x.toNat,#[2]);refine Dz (rfl,AO<|AD rfl<|Aa<|DA (?_,_,rfl));rw[Ld];rfl
 have l:(((CJ p r).2.map D.int).reverse.filter λ_=>true).map (λd=>match d with|.int e=>D.int ((partner e.toNat:Nat):Int)|d=>d)=((CJ p r).2.reverse.map λx=>((partner x.toNat:Nat):Int)).map D.int:=by
  rw[D6.mpr #[3],<- List.map_reverse,BS,BS];rfl
 rw[l];refine AI<|E6 (Or.inl rfl)<|E2 ?_ ?_
 ·rw[Ar,AJ,AJ,AJ,Jy];exact Cj<|small1000 (by show (CJ p r).1.length+1+_<=_;lia)
 unfold Hx AX at q;rw[BA,BA]at q;exact q
end
theorem Ztm {ts:AQ}{i:Nat}(h:(enD<|ts.map BY)[i]?=some d):∃t,ts[i]?=some t/\d=.tup [.int (i:Int),BY t]:=by
 obtain⟨a,D,rfl⟩:=N7 h;rw[Ad]at D;cases z:ts[i]? with
 |none=>exists 0,z,D
 |some u=>rw[z]at D;exact(u,rfl,by simpa using D.symm)
theorem Qs {N:Nat}(j:0<=p) (q:p<(N:Int)):((AV N).map λp:Nat=>givI cs d (p:Int)).getD p.toNat 0=givI cs d p:=by
 rw[Av,Ad,Ek #[4]];show givI cs d ((p.toNat:Nat):Int)=_;rw[Int.toNat_of_nonneg j]
#check 2
theorem Zvc (mb:Mb mg) (a7:Callee P w K mg base 2 "paths_of" ["web"] (spO K fPaths)) (a5:Callee P w K mg base 1 "crossed_times" ["crossings","ends"] (spD K fCt)) (a6:Callee P w K mg base 1 "fits" ["given","a","b","crossing"] (spD K fFits)) (a8:Callee P w K mg base 1 "ring_by" ["path","end","other"] (spD K fRing)) (F:BE K "sides" "sides" Kt f fd):FnOk P w K mg base CX0 3 f fd ["web","crossings"] (spD K fSides):=by
 refine F.ok HH (B2 λds o h=>#[6]) λa0 A R s H vs Q E r h=>?_;have u:=Bb r;have hv:=Ff r;refine(_,(AR (Aj (i:=2) HH.nd rfl (Or.inr rfl)<|An a7 (r.mono #[0])<|AA (pv 0) AE)<|AR (HW (i:=3) ["place"] (show CompSc (defScope Kt) ["web","crossings","paths","given","tie","a","b"] _ ["crossings","paths"] [1,2] from (rfl,#[1],#[1],#[1],rfl,#[1])) rfl HH.nd rfl (Or.inl rfl) (CP rfl (mb "range" #[0])<|AA (Ag (ixK K u) (pv 0) AG λ_ _=>rfl) AE) (λ_ _ _ _ _=>(Ao (i:=0) (show List.Nodup (["place","crossings","paths"]:List Str) from #[0]) rfl<|Or.inl rfl)) (λ_ _ _ _ _=>EG) λ_ _ _ _ _=>(Ae Dj (An a5 (r.mono #[0])<|AA (pv 1)<|AA (Ag (ixK K u) (pv 2) (pv 0) λ_ _=>rfl) AE) AG))<|AR (Bv PassesOwn.never rfl (O9 K rfl (mb "enumerate" #[0])<|AA (Ag (ixK K u) (pv 0) AG λ_ _=>rfl) AE) (gtupK (n:=2) K rfl<|B8 (Ao (i:=4) HH.nd rfl<|Or.inl rfl)<|B8 (gtupK (n:=2) K rfl<|B8 (Ao (i:=5) HH.nd rfl<|Or.inl rfl)<|B8 (Ao (i:=6) HH.nd rfl<|Or.inl rfl) Dy) Dy)<|AY<|CF (Jm<|truK K (An a6 (r.mono #[0])<|AA (pv 3)<|AA (pv 5)<|AA (pv 6)<|AA (Ag (ixK K u) (pv 1) (pv 4) λ_ _=>rfl) AE) λ_=>rfl) (AY<|BF<|Ab<|AA OH<|AA (An a8 (r.mono #[0])<|AA (Ag (ixK K u) (pv 2) (pv 5) λ_ _=>rfl)<|AA (Ae DO AG<|pv 4)<|AA (Ag (ixK K u) (pv 2) (pv 6) λ_ _=>rfl) AE) AE) CM)<|AY<|BF<|Ab<|AA OH<|AA (Ed (tupK K) rfl (mb "tuple" #[0]) Ey<|AA (pv 3) AE) AE),B3 (λds o y=>?_) h);obtain⟨N,T,S,rfl,W,O,q⟩:=y;sleep 0;have hw:=W.len;have hn:=W.hi;have a2:=W.lo;refine Ac<|Aw<|Zuk<|Zwo<|AF<|AD rfl<|AI (N,T,rfl,W,λY U=>(_,rfl,?_));have q:=q Y U;obtain⟨I,hl⟩:=Nb W U;generalize D1 N T Y=d at I hl q ⊢;have l:N<=d.length:=#[2]
 refine Ac<|Aw<|Dx #[0]<|CQ<|AF<|AO<|AD rfl<|Aa<|Bc (d:=.int (N:Int)) rfl<|AI (_,rfl,#[2],#[2],?_,λ_=>true,λx=>match x with|.int p=>.int (givI S d p)|x=>x,λi x M=>?_,?_)
 ·rw[CC];exact small1000 #[2]
 ·obtain⟨C,rfl⟩:=B9 M
  rw[B0];rw[BO]at C;obtain⟨V,Z⟩:=Hf W I l (p:=(i:Int)) #[2] #[2];have pl:=Nl W I (p:=(i:Int));exact Dz (rfl,AO<|BU<|AF<|AD rfl<|AF<|AO<|AD rfl<|AD rfl<|N4 V<|AI (T,S,DQ d i,rfl,O,#[2],Z.in,Aa<|jr_I (by show (0:Int)<2;decide) (rfl,_,rfl)))
 have eg:((rngD 0 (N:Int).toNat).filter λ_=>true).map (λx=>match x with|.int p=>D.int (givI S d p)|x=>x)=((AV N).map λp:Nat=>givI S d (p:Int)).map D.int:=by
  rw[D6.mpr #[3],BO];unfold rngD;rw[BS,BS];refine DU λi _=>?_;show D.int (givI S d (0+(i:Int)))=_;rw[B0];rfl
 rw[eg];refine Bh (λJ=>∃X k m:L2.Slot,(∀j,j<T.length->badB T S d j=false) /\ J = [.val (Am N T),.val (AX S),.val (dctD<|d.map encP),.val (.lst (((AV N).map λp:Nat=>givI S d (p:Int)).map D.int)),X,k,m]) ?_ ?_
 ·refine Bx (S1<|AF<|AO<|AD rfl<|Aa<|Bc (d:=.tup<|T.map BY) rfl<|AI (_,Or.inr rfl,λi J=>∃X k m:L2.Slot,(∀j,j<i->badB T S d j=false) /\ J = [.val (Am N T),.val (AX S),.val (dctD<|d.map encP),.val (.lst (((AV N).map λp:Nat=>givI S d (p:Int)).map D.int)),X,k,m],(_,_,_,λj g=>absurd g<|Dr _,rfl),?_,?_))
  ·rintro i x J2 M ⟨X,k,m,B,rfl⟩
   obtain⟨t,G,rfl⟩:=Ztm M;have C:=(BQ.mp G).1;have b:=W.tie t<|Be G;obtain⟨c,c1,c2,c3⟩:=O.at C;have a1:atI (S.map D.int) (i:Int)=some (.int c):=Ck (by rw[Ad,c1];rfl);have lg:((AV N).map λp:Nat=>givI S d (p:Int)).length=N:=by rw[AJ,Bt]
   refine EH rfl<|CH<|A8<|CH<|EH rfl<|CH<|A8<|CH<|A8<|ED<|ED ?_;refine CD<|Gg<|Dg<|BU<|AF<|AD rfl<|AF<|AD rfl<|AF<|AD rfl<|AF<|AO<|AD rfl<|AD rfl<|Bc a1<|AI (_,_,t.1,t.2,c,rfl,Or.inl rfl,b.1,#[2],b.2.2.1,#[2],_,rfl,?_);rw[Qs b.1 b.2.1,Qs b.2.2.1 b.2.2.2];have v:badB T S d i = !fitB (givI S d t.1) (givI S d t.2) c:=by
    unfold badB;rw[Av,G,c2];rfl
   cases y:fitB (givI S d t.1) (givI S d t.2) c with
   |true=>
    rw[y]at v;refine iteF<|CN (_,_,_,λj g=>?_,rfl);rcases ES (En g) with z|z
    ·exact B j z
    ·rw[z];exact v
   |false=>
    rw[y]at v;obtain⟨V,Z⟩:=Hf W I l b.1 b.2.1;obtain⟨u1,u2⟩:=Hf W I l b.2.2.1 b.2.2.2;have a3:=Nl W I (p:=t.1);have a4:=Nl W I (p:=t.2);have a:(AV T.length).find? (badB T S d)=some i:=by
     rw[List.find?_range_eq_some];exact(v,BB.mpr C,λj g=>by rw[B j g];rfl)
    refine iteT<|Bk<|BJ<|AF<|OQ<|AF<|BU<|AF<|AO<|AD rfl<|AD rfl<|N4 V ?_;refine AF<|AO<|Aa<|AD rfl<|jr_I (Or.inl (#[2],#[2])) ?_;refine AF<|AO<|AD rfl<|AD rfl<|N4 u1<|AI (DQ d t.1,DQ d t.2,2*(i:Int),rfl,#[2],#[2],λx hx=>?_,AI (DJ,?_))
    ·obtain⟨e,_,rfl⟩:=u2.in x hx;lia
    ·have L:T.getD i (0,0)=t:=by rw[Av,G];rfl
     have es:Gq N T S d=.tup [.str "one",AX (Hx (DQ d t.1) (2*(i:Int))<|DQ d t.2)]:=by
      unfold Gq;rw[a];show D.tup [_,AX (Hx (DQ d (T.getD i (0,0)).1) _<|DQ d (T.getD i (0,0)).2)]=_;rw[L]
     rw[es]at q;exact q
  ·rintro J2 ⟨X,k,m,B,rfl⟩
   rw[N6,AJ]at B;exact(X,k,m,B,rfl)
 rintro J1 ⟨X,k,m,B,rfl⟩;have a:(AV T.length).find? (badB T S d)=none:=by
  rw[MP];intro j g;rw[B j (BB.mp g)];exact BV
 unfold Gq at q;rw[a]at q;exact Bk<|BJ<|AF<|OQ<|AF<|A3<|AF<|AD rfl<|AI<|E6 (Or.inl rfl)<|AI (DJ,q)
end
def rm:Nat->Nat
 |0=>1
 |1=>1
 |n+2=>rm (n+1)*(n+1)
theorem Lr:∀n,1<=rm n
 |0=>AU 1
 |1=>AU 1
 |n+2=>Nat.mul_pos (Lr (n+1)) (KP n)
theorem Uh (h:n<=m):rm n<=rm m:=by
 induction h with
 |refl=>exact AU _
 |@step m _ ih=>
  refine Bg ih ?_;cases m with
  |zero=>exact AU _
  |succ m=>exact IF _ (KP m)
def Ej:Nat->List Int->Nat->List Int
 |0,_,_=>[]
 |k+1,rest,num=>rest.getD (num / rm (k+1)) 0::Ej k (rest.eraseIdx (num / rm (k+1))) (num % rm (k+1))
def seqs:Nat->List Int->Ak
 |0,_=>[[]]
 |k+1,rest=>rest.flatMap λe=>(seqs k (rest.erase e)).map (e :: ·)
theorem Nk {α β:Type}{f g:α -> List β}:∀{l:List α},(∀a∈l,f a=g a)->l.flatMap f=l.flatMap g
 |[],_=>rfl
 |a::l,h=>by rw[DL,DL,h a #[3],Nk λb B=>h b (Bl _ B)]
theorem Zsd (a b:Nat):AV (a*b)=(AV a).flatMap λi=>(AV b).map λj=>i*b+j:=by
 induction a with
 |zero=>rw[Nat.zero_mul];rfl
 |succ a ih=>
  rw[KQ,List.range_add,ih,GF,FE,DL,IY,Bj]
theorem NH (rest:List Int):(AV rest.length).map (λi=>rest.getD i 0)=rest:=by
 refine Kc #[3] λi H h=>?_;simp[Av,AZ h]
theorem Ztj (rest:List Int) (F:Int->Ak):(AV rest.length).flatMap (λi=>F<|rest.getD i 0)=rest.flatMap F:=by
 have e:rest.flatMap F=((AV rest.length).map (λi=>rest.getD i 0)).flatMap F:=by rw[NH]
 rw[e,List.flatMap_map]
theorem Qd:∀(k:Nat) (rest:List Int),rest.length=k->rest.Nodup->(AV<|rm<|k+1).map (Ej k rest)=seqs k rest
 |0,_,_,_=>rfl
 |k+1,rest,hl,hn=>by
  have a:rm (k+1+1)=rest.length*rm (k+1):=by rw[hl,KU];rfl
  have p:=Lr<|k+1;rw[a,Zsd,List.map_flatMap];have b:∀i∈AV rest.length,A7 (Ej (k+1) rest) ((AV<|rm<|k+1).map λj=>i*rm (k+1)+j)=(seqs k<|rest.erase<|rest.getD i 0).map (rest.getD i 0 :: ·):=by
   intro i h;have h:i<rest.length:=BB.mp h;have E:rest.getD i 0=rest[i]:=by rw[Av,AZ h];rfl
   have r:rest.erase rest[i]=rest.eraseIdx i:=by rw[List.erase_eq_eraseIdx_of_idxOf];exact List.Nodup.idxOf_getElem hn i h
   have l:(rest.eraseIdx i).length=k:=by rw[GA h];lia
   rw[E,r,<- Qd k _ l (List.Nodup.sublist (List.eraseIdx_sublist _ _) hn),BS,BS];refine DU λj J=>?_;have J:j<rm (k+1):=BB.mp J;have d:(i*rm (k+1)+j) / rm (k+1)=i:=by rw[KU,Nat.mul_add_div p,Nat.div_eq_of_lt J,Nat.add_zero]
   have D:(i*rm (k+1)+j) % rm (k+1)=j:=by rw[KU,Nat.mul_add_mod,Eo J]
   show Ej (k+1) rest (i*rm (k+1)+j)=_;unfold Ej;rw[d,D,E];rfl
  rw[Nk b];exact Ztj rest λe=>(seqs k<|rest.erase e).map (e :: ·)
theorem QO:∀(k:Nat) (rest:List Int),rest.length=k->∀s∈seqs k rest,s.Perm rest
 |0,rest,hl,s,h=>by
  have a:rest=[]:=Fn hl;have b:s=[]:=by simpa [seqs] using h
  rw[a,b]
 |k+1,rest,hl,s,h=>by
  unfold seqs at h;obtain⟨e,E,h⟩:=EV.mp h;obtain⟨c,S,rfl⟩:=A6.mp h;have l:(rest.erase e).length=k:=by rw[Gw E];lia
  exact((QO k _ l c S).cons e).trans (List.perm_cons_erase E).symm
def Dm (E:List Int) (L:Ak):Ak:=L.flatMap λr=>(E.filter λe=>decide<|e ∉ r).map λe=>r++[e]
def Cq (E:List Int):Nat->Ak->Ak
 |0,L=>L
 |k+1,L=>Cq E k (Dm E L)
theorem Ir (E:List Int):∀(k:Nat) (L:Ak),Cq E (k+1) L=Dm E (Cq E k L)
 |0,_=>rfl
 |k+1,L=>Ir E k (Dm E L)
theorem PU (E:List Int) {α:Type}:∀(k:Nat) (L:List α) (f:α -> Ak),Cq E k (L.flatMap f)=L.flatMap λx=>Cq E k (f x)
 |0,_,_=>rfl
 |k+1,L,f=>by
  show Cq E k (Dm E _)=_;rw[show Dm E (L.flatMap f)=L.flatMap λx=>Dm E (f x) from List.flatMap_assoc,PU E k L];rfl
theorem QI:∀(k:Nat) (r rest:List Int),(E.filter λe=>decide<|e ∉ r)=rest->rest.Nodup->rest.length=k->Cq E k [r]=(seqs k rest).map (r ++ ·)
 |0,r,rest,_,_,_=>by simp[Cq,seqs]
 |k+1,r,rest,hr,hn,hl=>by
  have a:Dm E [r]=rest.flatMap λe=>[r++[e]]:=by
   unfold Dm;rw[DL,IY,Bj,hr,List.map_eq_flatMap]
  show Cq E k (Dm E [r])=_;rw[a,PU];unfold seqs;rw[List.map_flatMap];refine Nk λe h=>?_;have b:(E.filter λx=>decide<|x ∉ r++[e])=rest.erase e:=by
   rw[hn.erase_eq_filter,<- hr,FF];refine De λx _=>?_;by_cases h1:x∈r <;> by_cases h2:x=e <;> simp[h1,h2]
  rw[QI k (r++[e]) _ b (hn.erase e) (by rw[Gw h];omega),BS];refine DU λs _=>?_;show r++[e]++s=r++(e::s);rw[DM];rfl
def Ei (E:List Int) (U:Nat):List Int:=E.take 1++Ej (E.length-1) (E.drop 1) U
def By (E:List Int):Ak:=(AV<|rm E.length).map (Ei E)
def rowsL (E:List Int):Ak:=Cq E (E.length-1) [E.take 1]
theorem JD (E:List Int):(By E).length=rm E.length:=by unfold By;rw[AJ,Bt]
theorem Pq (j:(a::l).Nodup):By (a::l)=(seqs l.length l).map ([a] ++ ·):=by
 unfold By;rw[<- Qd l.length l rfl (DS.mp j).2,BS];rfl
theorem Sr (j:E.Nodup):rowsL E=By E:=by
 cases E with
 |nil=>rfl
 |cons a l=>
  rw[Pq j];have h:=DS.mp j;refine QI l.length [a] l ?_ h.2 rfl;rw[IE #[3]];refine D6.mpr λx X=>?_;have:x≠a:=λz=>h.1 (z ▸ X);simp[this]
theorem Zqi (j:E.Nodup):∀r∈By E,r.Perm E/\r.head?=E.head?:=by
 cases E with
 |nil=>
  intro r hr;have:r=[]:=by simpa [By,rm,Ei,Ej] using hr
  rw[this];exact(List.Perm.refl _,rfl)
 |cons a l=>
  intro r hr;rw[Pq j]at hr;obtain⟨s,h,rfl⟩:=A6.mp hr;exact((QO l.length l rfl s h).cons a,rfl)
def allO (f:Nat->Ak):Nat->List (List<|List Int)
 |0=>[[]]
 |n+1=>(allO f n).flatMap λa=>(f n).map λr=>a++[r]
def wayN (g:Nat->Nat):Nat->Nat
 |0=>1
 |n+1=>wayN g n*g n
theorem flat_len {α β:Type}(c:Nat) (f:α -> List β):∀(l:List α),(∀a∈l,(f a).length=c)->(l.flatMap f).length=l.length*c
 |[],_=>#[3]
 |a::l,h=>by
  rw[DL,Ar,h a #[3],flat_len c f l λb B=>h b<|Bl _ B,BH,KQ];lia
theorem Rc (f:Nat->Ak):∀n,(allO f n).length=wayN (λp=>(f p).length) n
 |0=>rfl
 |n+1=>by
  show ((allO f n).flatMap _).length=_;rw[flat_len (f n).length _ _ λa _=>AJ _,Rc f n];rfl
theorem JW (j:∀p,1<=g p):∀n,1<=wayN g n
 |0=>AU 1
 |n+1=>Nat.mul_pos (JW j n) (j n)
theorem QG (j:∀p,1<=g p) (h:n<=m):wayN g n<=wayN g m:=by
 induction h with
 |refl=>exact AU _
 |@step m _ ih=>exact Bg ih (IF _ (j m))
theorem Sw (j:∀p,1<=g p) (h:p<m):wayN g p*g p<=wayN g m:=QG j (show p+1<=m from h)
theorem LD:∀(n:Nat),∀o∈allO f n,o.length=n/\∀(p:Nat) r,o[p]?=some r->r∈f p
 |0,o,ho=>by
  have:o=[]:=by simpa [allO] using ho
  subst this;exact(rfl,λp r h=>by simp at h)
 |n+1,o,ho=>by
  obtain⟨a,A,b⟩:=EV.mp (show o∈(allO f n).flatMap λa=>(f n).map λr=>a++[r] from ho);obtain⟨r,R,rfl⟩:=A6.mp b;obtain⟨l,w⟩:=LD n a A;refine(by rw[Ar,l];rfl,λp q Q=>?_);by_cases hp:p<a.length
  ·rw[DT hp]at Q
   exact w p q Q
  ·rw[Cf #[2]]at Q
   have H:p-a.length=0:=by
    have:=(BQ.mp Q).1;simpa using this
   rw[H]at Q;have e:r=q:=by simpa using Q
   subst e;rw[show p=n by lia];exact R
def As (ts:AQ) (p:Nat):List Int:=Cb ts (2*ts.length) (p:Int)
def degW (ts:AQ) (p:Nat):Nat:=rm (As ts p).length
def ways (N:Nat) (ts:AQ):Nat:=wayN (degW ts) N
def Bf (N:Nat) (ts:AQ):List (List<|List Int):=allO (λp=>By<|As ts p) N
theorem FP (ts:AQ) (p:Nat):1<=degW ts p:=Lr _
theorem Iy (N:Nat) (ts:AQ):(Bf N ts).length=ways N ts:=by
 unfold Bf ways;rw[Rc,show (λp=>(By<|As ts p).length)=degW ts from funext λp=>JD _]
theorem HQ:∀o∈Bf N ts,BG (N:Int) ts o:=by
 intro o ho;obtain⟨l,R⟩:=LD N o ho;refine(by rw[l],λp r h=>?_);obtain⟨H,a⟩:=Zqi (M4 ts _ _) r<|R p r h;exact(H,a)
#check 2
theorem QY 
  (h:JI K wi1 J λds J1=>(∀i∈sel,∃d,J1[i]?=some (.val d))/\∃I:Nat->OD->AM->Prop,I 0 (.lst []) (compD n sel J1) /\
   (∀i d od J2,ds[i]?=some d->I i od J2->JG K g1 d J2 λJ3=>JI K wi2 J3 λes J4=>∃I2:Nat->OD->AM->Prop,I2 0 od J4 /\
    (∀j e od2 J5,es[j]?=some e->I2 j od2 J5->JG K g2 e J5 λJ6=>JB K (tAppL te) J6 od2 λod3 J8=>I2 (j+1) od3 J8)/\∀od2 J5,I2 es.length od2 J5->I (i+1) od2 J5) /\
   ∀od J2,I ds.length od J2->Po od J1):JO K (tComp2 n sel wi1 g1 wi2 g2 (.lst []) (tAppL te)) J Po:=
 show JO K (tCompG n sel wi1 g1 (.lst []) λa=>tLoop wi2 g2<|tAppL te a) J Po from Qv (od0:=.lst []) (λ_=>.nil) λg G H Z R k c=>h g G H Z R k λJ_ ds G' H' J' k' s' it (hv,I,h0,ht,he)=>c J_ ds G' H' J' k' s' it (hv,I,h0,λi d od J2 D q b f m z v r s u C=>ht i d od J2 D q b f m z v r s u λp l o J3 t S P=>C p l o J3 t S<|Zz7 P,he)
end
def fRm:DSp:=λs t=>∃n:Nat,s=[.int (n:Int)]/\n<=1000/\t (.int (rm n:Nat))
def fRowAt:DSp:=λs t=>∃(E:List Int) (num:Nat),s=[.lst (E.map .int),.int (num:Int)]/\E.length<=48/\num<rm E.length/\rm E.length<=960/\t (AX<|Ei E num)
def fOm:DSp:=λs t=>∃(N:Nat) (ts:AQ),s=[Am (N:Int) ts]/\Af (N:Int) ts/\ways N ts<=960/\t (.int (ways N ts:Nat))
def fAllO:DSp:=λs t=>∃(N:Nat) (ts:AQ),s=[Am (N:Int) ts]/\Af (N:Int) ts/\ways N ts<=960/\t (.lst ((Bf N ts).map BL))
theorem SO (ds:List D):cutD ds none (some 1)=ds.take 1:=by
 cases ds with
 |nil=>rfl
 |cons d ds=>exact UJ (d::ds) (j:=1) #[3]
theorem NW (ds:List D):cutD ds (some 1) none=ds.drop 1:=by
 cases ds with
 |nil=>rfl
 |cons d ds=>exact Nc (d::ds) (j:=1) #[3]
theorem Zp1 (h:R.length=k+1):Ej R.length R m=R.getD (m / rm R.length) 0::Ej k (R.eraseIdx<|m / rm R.length) (m % rm R.length):=by rw[h];rfl
theorem O7:∀(R:List Int) (i:Nat),(R.eraseIdx i).map D.int=(R.map D.int).eraseIdx i
 |[],_=>rfl
 |_::_,0=>rfl
 |a::R,i+1=>congrArg (D.int a :: ·) (O7 R i)
theorem LB (ts:AQ) (p:Nat):(As ts p).length<=2*ts.length:=PH ts _ _
#check 2
theorem V2 (B:Mb mg) (F:BE K "rows_many" "rows_many" Mi f fd):FnOk P w K mg base CX0 1 f fd ["many"] (spD K fRm):=by
 refine F.ok Kv (B2 λS t h=>by obtain⟨_,rfl,_⟩:=h;rfl) λv A r s H V Q E R h=>?_;have u:=Bb R;refine(_,(AR (Aj (i:=1) Kv.nd rfl (Or.inl rfl) AG)<|AR (Bv PassesOwn.never rfl (NZ rfl (B "range" #[0])<|AA AG<|AA (pv 0) AE) (Ao (i:=2) Kv.nd rfl<|Or.inl rfl)<|AY<|Lq (i:=1) Kv.nd rfl (Or.inl rfl) (pv 2) OY)<|AY<|BF<|pv 1),B3 (λS t a=>?_) h);obtain⟨n,rfl,N,q⟩:=a;sleep 0;refine Ac<|Aw<|Aa ?_;refine Bh (λJ=>∃x:L2.Slot,J = [.val (.int (n:Int)),.val (.int (rm n:Nat)),x]) ?_ ?_
 ·refine Bx (NX<|AF<|Aa<|AF<|AD rfl<|AI (2,n,rfl,#[2],λi J=>∃x:L2.Slot,J = [.val (.int (n:Int)),.val (.int (rm (i+2):Nat)),x],(_,rfl),?_,?_))
  ·rintro i d j D ⟨x,rfl⟩
   obtain⟨I,rfl⟩:=B9 D;refine A8<|Ll rfl<|AD rfl (rfl,OU (Or.inr (#[2],#[2])) (.val (.int (2+(i:Int))),?_));have e:((rm (i+2):Nat):Int)*(2+(i:Int))=((rm (i+1+2):Nat):Int):=by
    show _=((rm (i+2)*(i+2):Nat):Int);rw[IK];congr 1;lia
   rw[e];rfl
  ·rintro j ⟨x,rfl⟩
   rw[CC];refine(x,?_);have e:rm (((n:Int)-2).toNat+2)=rm n:=by
    by_cases h2:2<=n
    ·rw[show ((n:Int)-2).toNat+2=n by lia]
    ·rw[show ((n:Int)-2).toNat+2=2 by lia]
     match n,h2 with
     |0,_=>rfl
     |1,_=>rfl
     |n+2,h2=>lia
   rw[e]
 rintro b ⟨x,rfl⟩;exact Bk<|AD rfl q
theorem Vt (O:Mb mg) (B:Callee P w K mg base 1 "rows_many" ["many"] (spD K fRm)) (z:Callee P w K mg base 2 "ends_at" ["web","place"] (spN K fEnds)) (F:BE K "orders_many" "orders_many" Mh f fd):FnOk P w K mg base CX0 3 f fd ["web"] (spD K fOm):=by
 refine F.ok Ku (B2 λD o h=>#[8]) λv A u s H V Q E r h=>?_;have U:=Bb r;refine(_,(AR (Aj (i:=1) Ku.nd rfl (Or.inl rfl) AG)<|AR (Bv PassesOwn.never rfl (CP rfl (O "range" #[0])<|AA (Ag (ixK K U) (pv 0) AG λ_ _=>rfl) AE) (Ao (i:=2) Ku.nd rfl<|Or.inl rfl)<|AY<|Lq (i:=1) Ku.nd rfl (Or.inl rfl) (An B (r.mono #[0])<|AA (A0 (lenK K) rfl (O "len" #[0]) Bi<|AA (An z (r.mono #[0])<|AA (pv 0)<|AA (pv 2) AE) AE) AE) OY)<|AY<|BF<|pv 1),B3 (λD o b=>?_) h);obtain⟨N,t,rfl,W,c,q⟩:=b;sleep 0;have k:=W.lo;have n:=W.hi;have S:=W.len;refine Ac<|Aw<|Aa ?_;refine Bh (λJ=>∃x:L2.Slot,J = [.val (Am (N:Int) t),.val (.int (ways N t:Nat)),x]) ?_ ?_
 ·refine Bx (CQ<|AF<|CA (DX (d:=.int (N:Int)) rfl rfl)<|AI (_,rfl,#[2],#[2],λi J=>∃x:L2.Slot,J = [.val (Am (N:Int) t),.val (.int (wayN (degW t) i:Nat)),x],(_,rfl),?_,?_))
  ·rintro i d j a ⟨x,rfl⟩
   obtain⟨I,rfl⟩:=B9 a;have I:i<N:=by simpa using I
   have e:=QG (FP t)<|Cj I;have l:wayN (degW t) i<=960:=Bg e c;have L:=LB t i;refine A8<|Ll rfl<|BU<|AF<|A3<|AF<|Cz<|EF<|AF<|AD rfl<|AF<|AD rfl<|AI ((N:Int),t,0+(i:Int),rfl,S,_,rfl,AI<|B7 (Or.inl rfl)<|AI ((As t i).length,?_,#[2],rfl,OU (Or.inl (#[2],#[2])) (.val (.int (0+(i:Int))),?_)))
   ·rw[AJ,B0]
    rfl
   rw[<- IK];rfl
  ·rintro j ⟨x,rfl⟩
   rw[CC,BO];exact(x,rfl)
 rintro g ⟨x,rfl⟩;exact Bk<|AD rfl q
theorem Zv4 (Y:Mb mg) (O:Callee P w K mg base 1 "rows_many" ["many"] (spD K fRm)) (F:BE K "row_at" "row_at" Mj f fd):FnOk P w K mg base CX0 2 f fd ["ends","number"] (spD K fRowAt):=by
 refine F.ok Ik (B2 λS o h=>#[8]) λv A e s H V Q E d h=>?_;have U:=Bb d;refine(_,(AR (Aj (i:=2) Ik.nd rfl (Or.inl rfl)<|FV (slK K) (pv 0) E3<|FU AG)<|AR (Aj (i:=3) Ik.nd rfl (Or.inl rfl)<|FV (slK K) (pv 0) (FU AG) E3)<|AR (FK PassesOwn.never (truK K (pv 3) λ_=>rfl)<|AR (DI (A0 UZ rfl (Y "divmod" #[0]) Zu0<|AA (pv 1)<|AA (An O (d.mono #[0])<|AA (A0 (lenK K) rfl (Y "len" #[0]) Bi<|AA (pv 3) AE) AE) AE)<|gtupK (n:=2) K rfl<|B8 (Ao (i:=4) Ik.nd rfl<|Or.inl rfl)<|B8 (Ao (i:=1) Ik.nd rfl<|Or.inl rfl) Dy)<|AY<|CW<|bmK K PySem.F.plainAttrs_list PySem.F.slot_list_append PySem.F.type_list_append Dw (pv 2)<|AA (bmK K PySem.F.plainAttrs_list PySem.F.slot_list_pop PySem.F.type_list_pop Zw2 (pv 3)<|AA (pv 4) AE) AE)<|AY<|BF<|Ed (tupK K) rfl (Y "tuple" #[0]) Ey<|AA (pv 2) AE),B3 (λS o g=>?_) h);obtain⟨E,M,rfl,B,u,c,q⟩:=g;sleep 0;refine Ac<|Cw<|Mx<|AD rfl<|E4<|F3<|Aa (_,rfl,E.map D.int,rfl,?_);rw[SO];refine Ac<|Cw<|Mx<|AD rfl<|F3<|Aa (_,rfl,E4 (E.map D.int,rfl,?_));rw[NW,<- Kf,<- List.map_drop];refine Bh (λJ=>∃(m:Int) (x y:L2.Slot),J = [.val (.lst<|E.map D.int),.val (.int m),.own (.lst ((Ei E M).map D.int)),x,y]) ?_ ?_
 ·refine FN (fun μ J=>∃(r R:List Int) (m:Nat) (x:L2.Slot),μ = R.length/\r++Ej R.length R m=Ei E M/\m<rm (R.length+1)/\r.length+R.length=E.length /\ J = [.val (.lst<|E.map D.int),.val (.int (m:Int)),.own (.lst<|r.map D.int),.own (.lst<|R.map D.int),x]) (_,E.take 1,E.drop 1,M,.any,rfl,?_,?_,?_,rfl) ?_
  ·rw[Dd];rfl
  ·cases E with
   |nil=>exact u
   |cons a l=>exact u
  ·rw[Bo,Dd];lia
  rintro μ j ⟨r,R,m,x,rfl,hrow,hm,hl,rfl⟩;cases hR:R with
  |nil=>
   subst hR;refine S8 (i:=3) rfl rfl<|Dg<|AD rfl (false,rfl,iteF (m,.own (.lst []),x,?_));rw[<- hrow];show _=[_,_,Slot.own (OD.lst ((r++[]).map D.int)),_,_];rw[Bj];rfl
  |cons b R'=>
   rw[<- hR];have k:R.length=R'.length+1:=by rw[hR];rfl
   refine S8 (i:=3) rfl rfl<|Dg<|AD rfl (true,by rw[hR];rfl,?_);have z:=Lr R.length;have L:m<rm R.length*R.length:=by rw[k]at hm ⊢;exact hm
   have t:m / rm R.length<R.length:=Nat.div_lt_of_lt_mul L;have p:rm R.length<=960:=Bg (Uh #[2]) c;refine iteT<|Ac<|Gf<|A3<|AF<|AD rfl<|AF<|BU<|AF<|JR rfl rfl<|AI (R.length,by rw[AJ],#[2],AI<|Vs #[2] #[2] ?_);rw[<- Int.natCast_ediv,<- Int.natCast_emod];refine EH rfl<|CH<|A8<|CH<|A8<|ED ?_;refine FZ rfl rfl<|Zzl rfl rfl<|AD rfl (_,_,m / rm R.length,.int<|R.getD (m / rm R.length) 0,rfl,rfl,rfl,?_,?_,_,_,rfl,rfl,?_,?_)
   ·rw[Ad,Av,AZ t];rfl
   ·rw[AJ];omega
   ·rw[AJ];exact small1000 #[2]
   refine(R'.length,#[2],r++[R.getD (m / rm R.length) 0],R.eraseIdx<|m / rm R.length,m % rm R.length,.val (.int ((m / rm R.length:Nat):Int)),?_,?_,?_,?_,?_)
   ·rw[GA t];lia
   ·rw[<- hrow,Zp1 k,GA t,show R.length-1=R'.length by lia,DM]
    rfl
   ·rw[GA t,show R.length-1+1=R.length by lia]
    exact Ea _ z
   ·rw[GA t,Ar,DE];lia
   ·rw[BA,O7]
    rfl
 rintro j ⟨m,x,y,rfl⟩;exact Bk<|A3<|AF<|Ef rfl<|AI<|E6 (Or.inl rfl) q
theorem Zzi (mb:Mb mg) (a5:Callee P w K mg base 2 "ends_at" ["web","place"] (spN K fEnds)) (a7:Callee P w K mg base 1 "rows_many" ["many"] (spD K fRm)) (a6:Callee P w K mg base 2 "row_at" ["ends","number"] (spD K fRowAt)) (F:BE K "all_orders" "all_orders" Ig f fd):FnOk P w K mg base CX0 3 f fd ["web"] (spD K fAllO):=by
 refine F.ok HF (B2 λU o h=>#[8]) λV A T s H vs Q E n h=>?_;have hu:=Bb n;refine(_,(AR (Aj (i:=1) HF.nd rfl (Or.inl rfl) (@CG _ _ _ _ (@AA _ _ _ _ _ (@Ab _ _ _ _ _ AE) AE (@BC _ _ _ _ _))))<|AR (Bv PassesOwn.never rfl (CP rfl (mb "range" #[0])<|AA (Ag (ixK K hu) (pv 0) AG λ_ _=>rfl) AE) (Ao (i:=2) HF.nd rfl<|Or.inl rfl)<|AR (Aj (i:=3) HF.nd rfl (Or.inr rfl)<|An a5 (n.mono #[0])<|AA (pv 0)<|AA (pv 2) AE)<|AR (Aj (i:=4) HF.nd rfl (Or.inr rfl)<|Du ["number"] (show CompSc (defScope Ig) ["web","told","place","ends","rows"] _ ["ends"] [3] from (rfl,#[1],#[1],#[1],rfl,#[1])) rfl (CP rfl (mb "range" #[0])<|AA (An a7 (n.mono #[0])<|AA (A0 (lenK K) rfl (mb "len" #[0]) Bi<|AA (pv 3) AE) AE) AE) (λ_ _ _ _ _=>(Ao (i:=0) (show List.Nodup (["number","ends"]:List Str) from #[0]) rfl<|Or.inl rfl)) (λ_ _ _ _ _=>EG) λ_ _ _ _ _=>(An a6 (n.mono #[0])<|AA (pv 1)<|AA (pv 0) AE))<|AY<|Qh (i:=1) HF.nd rfl (Or.inl rfl) ["ahead","row"] (show CompSc (defScope Ig) ["web","told","place","ends","rows"] _ ["rows"] [4] from (rfl,#[1],#[1],#[1],rfl,#[1])) rfl (seqK K<|pv 1) (λ_ _ _ _ _=>(Ao (i:=0) (show List.Nodup (["ahead","row","rows"]:List Str) from #[0]) rfl<|Or.inl rfl)) (λ_ _ _ _ _=>(seqK K<|pv 2)) (λ_ _ _ _ _=>(Ao (i:=1) (show List.Nodup (["ahead","row","rows"]:List Str) from #[0]) rfl<|Or.inl rfl)) λ_ _ _ _ _=>(Ae (addK K) (pv 0)<|Ab<|AA (pv 1) AE))<|AY<|BF<|pv 1),B3 (λU o hf=>?_) h);obtain⟨N,t,rfl,W,hw,q⟩:=hf;sleep 0;have hn:=W.lo;have a3:=W.hi;have S:=W.len;refine Ac<|Aw<|Ge<|AF<|BJ<|AI (#[0],AI (#[7],?_));refine Bh (λJ=>∃x y z:L2.Slot,J = [.val (Am (N:Int) t),.val (.lst ((Bf N t).map BL)),x,y,z]) ?_ ?_
 ·refine Bx (CQ<|AF<|CA (DX (d:=.int (N:Int)) rfl rfl)<|AI (_,rfl,#[4],#[4],λi J=>∃x y z:L2.Slot,J = [.val (Am (N:Int) t),.val (.lst ((Bf i t).map BL)),x,y,z],(_,_,_,rfl),?_,?_))
  ·rintro i d p c ⟨x,y,z,rfl⟩
   obtain⟨I,rfl⟩:=B9 c;have I:i<N:=by simpa using I
   have L:wayN (degW t) i*degW t i<=960:=Bg (Sw (FP t) I) hw;have u:=FP t i;have B:=JW (FP t) i;have g:degW t i<=960:=Bg (KI _ B) L;have v:wayN (degW t) i<=960:=Bg (IF _ u) L;have a2:=LB t i;have hE:rm (As t i).length<=960:=g;refine A8<|Ac<|Aw<|Cz<|EF<|AF<|AD rfl<|AF<|AD rfl<|AI ((N:Int),t,0+(i:Int),rfl,S,_,rfl,?_);rw[show Cb t (2*t.length) (0+(i:Int))=As t i by rw[B0];rfl];refine Ac<|Aw<|Dx #[0]<|CQ<|AF<|BU<|AF<|A3<|AF<|AD rfl<|AI<|B7 (Or.inl rfl)<|AI ((As t i).length,by rw[AJ],#[4],AI (_,rfl,#[2],#[2],?_,λ_=>true,λd=>match d with|.int k=>AX (Ei (As t i) k.toNat)|_=>.non,λj d c=>?_,?_))
   ·rw[CC];exact small1000 #[2]
   ·obtain⟨G,rfl⟩:=B9 c
    rw[BO]at G;refine Dz (rfl,BU<|AF<|AD rfl<|AF<|AD rfl<|AI (As t i,j,by rw[B0],#[2],G,hE,?_,_,rfl));show _=AX (Ei (As t i) (0+(j:Int)).toNat);rw[B0,BO]
   have X:((rngD 0 ((rm (As t i).length:Nat):Int).toNat).filter λ_=>true).map (λd=>match d with|.int k=>AX (Ei (As t i) k.toNat)|_=>D.non)=(By<|As t i).map AX:=by
    rw[D6.mpr #[3],BO];unfold rngD By;rw[BS,BS];refine DU λj _=>?_;show AX (Ei (As t i) (0+(j:Int)).toNat)=AX (Ei (As t i) j);rw[B0,BO]
   rw[X];refine Aw<|Cz<|QY<|Cn<|AD rfl (_,Or.inl rfl,λj h=>?_,λj O J=>O=.lst ((((Bf i t).take j).flatMap λa=>(By<|As t i).map λr=>a++[r]).map BL)/\∃x y:L2.Slot,J = [x,y,.val (.lst ((By<|As t i).map AX))],(rfl,_,_,rfl),?_,?_)
   ·rw[CK]at h;subst h;exact(_,rfl)
   ·rintro j d O p c ⟨rfl,x,y,rfl⟩
    rw[Ad]at c;cases za:(Bf i t)[j]? with
    |none=>exists 0,za,c
    |some a=>
     exists 0,za,c;have a0:=(BQ.mp za).1;have a1:=(LD i a<|Be za).1;have a4:=Iy i t;have eW:ways i t=wayN (degW t) i:=rfl;refine A8<|Cn<|AD rfl (_,Or.inl rfl,λl O J=>O=.lst ((((Bf i t).take j).flatMap λa=>(By<|As t i).map λr=>a++[r]).map BL++((By<|As t i).take l).map λr=>BL<|a++[r])/\∃y:L2.Slot,J = [.val (BL a),y,.val (.lst ((By<|As t i).map AX))],(by rw[EY,Gz,Bj],_,rfl),?_,?_)
     ·rintro l e C M m ⟨rfl,y,rfl⟩
      rw[Ad]at m;cases zr:(By<|As t i)[l]? with
      |none=>exists 0,zr,m
      |some r=>
       exists 0,zr,m;have R:=(BQ.mp zr).1;rw[JD]at R;refine A8<|Ti<|AO<|AD rfl<|BJ<|AF<|AD rfl<|AI (#[7],E2 ?_ (?_,?_,_,rfl))
       ·rw[AJ]
        exact Cj<|small1000 (by show a.length+1<=1000;lia)
       ·have Y:(((Bf i t).take j).flatMap λa=>(By<|As t i).map λr=>a++[r]).length=j*degW t i:=by
         rw[flat_len (degW t i) _ _ λb _=>by rw[AJ,JD];rfl,Bo];congr 1;lia
        have Z:(j+1)*degW t i<=wayN (degW t) i*degW t i:=Nat.mul_le_mul_right _ #[2];rw[KQ]at Z;have h3:l<degW t i:=R;rw[Ar,AJ,Y,AJ,Bo];exact small1000 #[2]
       ·rw[DM]
        congr 2;rw[Cu,zr,BA];show _=_++[BL (a++[r])];unfold BL;rw[BA];rfl
     ·rintro C M ⟨rfl,y,rfl⟩
      rw[AJ,Bm];refine(?_,_,_,rfl);rw[Cu,za,FE,BA];congr 2;show _=(([a]:List (List<|List Int)).flatMap λa=>(By<|As t i).map λr=>a++[r]).map BL;rw[DL,IY,Bj,BS];rfl
   rintro O p ⟨rfl,x,y,rfl⟩;rw[AJ,Bm];exact(_,rfl,_,_,_,rfl)
  ·rintro p ⟨x,y,z,rfl⟩
   rw[CC,BO];exact(x,y,z,rfl)
 rintro J1 ⟨x,y,z,rfl⟩;exact Bk<|AD rfl q
end
def L6:NSp:=λs t=>∃(n:Int) (ts:AQ) (X:D) (p:Int),s=[.tup [.int n,X],.int p]/\(X=.lst (ts.map BY)\/X=.tup (ts.map BY))/\ts.length<=25/\t ((Cb ts (2*ts.length) p).map .int)
def fWays:DSp:=λs t=>∃(N:Nat) (ts:AQ) (X:D),s=[.tup [.int (N:Int),X]]/\(X=.lst (ts.map BY)\/X=.tup (ts.map BY))/\ts.length<=25/\N<=25/\t (.int (ways N ts:Nat))
theorem Zyo (j:X=.lst ds\/X=.tup ds) (h:atI ds i=some d) (p:P d J):JR2 K (rIxU K) X (.int i) J P:=by
 rcases j with rfl|rfl
 ·exact DW h p
 ·exact Bc h p
def IA (E r:List Int):Ak:=(E.filter λe=>decide<|e ∉ r).map λe=>r++[e]
def ord1 (R:Ak) (a:Ak):List (List<|List Int):=R.map λr=>a++[r]
theorem NL (q:E≠[]):∀(j:Nat),∀r∈Cq E j [E.take 1],r.length=j+1
 |0,r,hr=>by
  have:r=E.take 1:=by simpa [Cq] using hr
  rw[this,Bo];have:1<=E.length:=List.length_pos_iff.mpr q;lia
 |j+1,r,hr=>by
  rw[Ir]at hr;obtain⟨R,h,H⟩:=EV.mp (show r∈List.flatMap _ _ from hr);obtain⟨e,_,rfl⟩:=A6.mp H;rw[Ar,NL q j R h];rfl
theorem SE (j:E.Nodup):∀(L:Ak),(∀r∈L,r.length<E.length)->L.length<=(Dm E L).length
 |[],_=>Bp _
 |r::L,h=>by
  have i:=SE j L λx X=>h x<|Bl _ X;have H:1<=(E.filter λe=>decide<|e ∉ r).length:=by
   rw[Nat.one_le_iff_ne_zero];intro z;have z:=Fn z;have:E.length<=r.length:=Fz j λx X=>by
    by_cases hr:x∈r
    ·exact hr
    ·have:x∈E.filter λe=>decide (e ∉ r):=CB.mpr (X,by simpa using hr)
     rw[z]at this;cases this
   have:=h r #[3];lia
  unfold Dm at i ⊢;rw[DL,Ar,AJ,BH];lia
theorem Sq (q:E.Nodup) (z:E≠[]):∀(i j:Nat),j+i+1=E.length->(Cq E j [E.take 1]).length<=rm E.length
 |0,j,h=>by
  have e:Cq E j [E.take 1]=rowsL E:=by unfold rowsL;rw[show E.length-1=j by lia]
  rw[e,Sr q,JD];exact AU _
 |i+1,j,h=>by
  refine Bg ?_ (Sq q z i (j+1) #[2]);rw[Ir];exact SE q _ λr R=>by rw[NL z j r R];lia
theorem PM {α β:Type}(f:α -> List β) (L:List α) (j:Nat):((L.take j).flatMap f).length<=(L.flatMap f).length:=by
 conv=>rhs;rw[<- GC j L]
 rw[FE,Ar];lia
theorem K2 {α β:Type}(f:α -> List β) {L:List α}{a:α}(h:L[j]?=some a):(L.take<|j+1).flatMap f=(L.take j).flatMap f++f a:=by
 rw[Cu,h,FE];show _++([a]:List α).flatMap f=_;rw[DL,IY,Bj]
def EO (d:D):List Int:=match d with
 |.tup es=>es.map λx=>match x with|.int i=>i|_=>0
 |_=>[]
theorem JF (r:List Int):EO (AX r)=r:=by
 show (r.map D.int).map _=r;rw[BS]
 conv=>rhs;rw[<- Ie r]
 exact DU λx _=>rfl
def intX (d:D):Int:=match d with|.int i=>i|_=>0
#check 2
theorem Zxa (B:Mb mg) (F:BE K "_law_ends" "_law_ends" Km f fd):FnOk P w K mg base CX0 1 f fd ["_law_web","_law_place"] (spN K L6):=by
 refine F.ok T7 (GY λD o h=>#[11]) λv A r s H V Q E R h=>?_;have u:=Bb R;refine(_,(AY<|BF<|Du ["_law_k"] (show CompSc (defScope Km) ["_law_web","_law_place"] _ ["_law_web","_law_place"] [0,1] from (rfl,#[1],#[1],#[1],rfl,#[1])) rfl (CP rfl (B "range" #[0])<|AA (Ae DO AG<|A0 (lenK K) rfl (B "len" #[0]) Bi<|AA (Ag (ixK K u) (pv 0) AG λ_ _=>rfl) AE) AE) (λ_ _ _ _ _=>(Ao (i:=0) (show List.Nodup (["_law_k","_law_web","_law_place"]:List Str) from #[0]) rfl<|Or.inl rfl)) (λ_ _ _ _ _=>(F2<|BW CY (Ag (ixK K u) (Ag (ixK K u) (Ag (ixK K u) (pv 1) AG λ_ _=>rfl) (Ae GZ (pv 0) AG) λ_ _=>rfl) (Ae Dj (pv 0) AG) λ_ _=>rfl) (pv 2)<|nomark _)) λ_ _ _ _ _=>(pv 0)),Gn (λD o g=>?_) h);obtain⟨n,S,X,p,rfl,x,m,q⟩:=g;refine(#[3],?_);dsimp only[startD,BZ,A7,BP];have l:(S.map BY).length=S.length:=AJ _;refine F4<|Hc #[0]<|CQ ?_;refine AF<|AO<|Aa<|A3 ?_;refine AF<|AO<|AD rfl<|Aa<|Bc (d:=X) rfl ?_;refine AI<|B7 (x.imp (λz=>by rw[z]) λz=>by rw[z]) ?_;rw[AJ];refine jr_I (Or.inl (#[4],#[4]))<|AI (_,rfl,#[2],#[2],?_);have L:((2:Int)*(S.length:Int)).toNat=2*S.length:=#[2]
 rw[L];refine(by rw[CC];exact small1000 #[2],λd=>match d with|.int e=>decide (Al S e.toNat=p)|_=>false,λd=>d,λi d c=>?_,?_)
 ·obtain⟨I,rfl⟩:=B9 c
  obtain⟨t,j,a,b⟩:=Tn I;refine Ba<|AO<|AO<|AO<|AO<|AD rfl<|Aa<|Bc (d:=X) rfl ?_;refine AO<|AD rfl<|Aa<|jr_I (#[4],#[4])<|Zyo x a ?_;refine AO<|AD rfl<|Aa<|jr_I (by show (0:Int)<2;omega)<|Bc b ?_;refine AD rfl<|Co (_,rfl,?_,?_)
  ·show _=decide (Al S (0+(i:Int)).toNat=p)
   rw[B0,BO]
  ·by_cases hp:Al S i=p
   ·rw[BD hp,AN rfl];exact AD rfl (rfl,_,rfl)
   ·rw[BI hp,AK BV];exact(_,rfl)
 ·rw[List.map_id',Pg S _ p _ λk=>by show decide (Al S (0+(k:Int)).toNat=p)=_;rw[B0,BO]]
  exact(_,rfl,q)
theorem Zz1 (L:Mb mg) (B:Callee P w K mg base 1 "_law_ends" ["_law_web","_law_place"] (spN K L6)) (F:BE K "_law_ways" "_law_ways" Mv f fd):FnOk P w K mg base CX0 2 f fd ["_law_web"] (spD K fWays):=by
 refine F.ok Im (B2 λc o h=>#[6]) λv A r s H V Q E R h=>?_;have u:=Bb R;refine(_,(AR (Aj (i:=1) Im.nd rfl (Or.inl rfl) AG)<|AR (Bv PassesOwn.never rfl (CP rfl (L "range" #[0])<|AA (Ag (ixK K u) (pv 0) AG λ_ _=>rfl) AE) (Ao (i:=2) Im.nd rfl<|Or.inl rfl)<|AY<|Bv PassesOwn.never rfl (NZ rfl (L "range" #[0])<|AA AG<|AA (A0 (lenK K) rfl (L "len" #[0]) Bi<|AA (An B (R.mono #[0])<|AA (pv 0)<|AA (pv 2) AE) AE) AE) (Ao (i:=3) Im.nd rfl<|Or.inl rfl)<|AY<|Aj (i:=1) Im.nd rfl (Or.inl rfl)<|Ae DO (pv 1)<|pv 3)<|AY<|BF<|pv 1),B3 (λc o k=>?_) h);obtain⟨N,t,X,rfl,g,S,p,q⟩:=k;sleep 0;refine Ac<|Aw<|Aa ?_;refine Bh (λJ=>∃x y:L2.Slot,J = [.val (.tup [.int (N:Int),X]),.val (.int (ways N t:Nat)),x,y]) ?_ ?_
 ·refine Bx (CQ<|AF<|CA (DX (d:=.int (N:Int)) rfl rfl)<|AI (_,rfl,#[2],#[2],λi J=>∃x y:L2.Slot,J = [.val (.tup [.int (N:Int),X]),.val (.int (wayN (degW t) i:Nat)),x,y],(_,_,rfl),?_,?_))
  ·rintro i d a b ⟨x,y,rfl⟩
   obtain⟨I,rfl⟩:=B9 b;have I:i<N:=by simpa using I
   have l:=LB t i;refine A8<|Bx<|NX<|AF<|Aa<|AF<|A3<|AF<|Cz<|EF<|AF<|AD rfl<|AF<|AD rfl<|AI ((N:Int),t,X,0+(i:Int),rfl,g,S,_,rfl,AI<|B7 (Or.inl rfl) ?_);rw[show Cb t (2*t.length) (0+(i:Int))=As t i by rw[B0];rfl,AJ];refine AI (2,_,rfl,#[2],λj J=>∃x y:L2.Slot,J = [.val (.tup [.int (N:Int),X]),.val (.int (wayN (degW t) i*rm (j+2):Nat)),x,y],(.val (.int (0+(i:Int))),y,?_),?_,?_)
   ·rw[show rm (0+2)=1 from rfl,Nat.mul_one]
    rfl
   ·rintro j d a b ⟨x,y,rfl⟩
    obtain⟨z,rfl⟩:=B9 b;refine A8<|Aw<|AO<|AD rfl<|AD rfl<|jr_I (Or.inr (#[2],#[2])) (x,.val (.int (2+(j:Int))),?_);have e:((wayN (degW t) i*rm (j+2):Nat):Int)*(2+(j:Int))=((wayN (degW t) i*rm (j+1+2):Nat):Int):=by
     show _=((wayN (degW t) i*(rm (j+2)*(j+2)):Nat):Int);rw[<- Nat.mul_assoc,IK (_*_)];congr 1;lia
    rw[e];rfl
   ·rintro a ⟨x,y,rfl⟩
    rw[CC];refine(x,y,?_);have e:rm ((((As t i).length:Nat):Int)-2).toNat.succ.succ=degW t i:=by
     unfold degW;generalize (As t i).length=n;by_cases h2:2<=n
     ·rw[show ((n:Int)-2).toNat.succ.succ=n by lia]
     ·rw[show ((n:Int)-2).toNat.succ.succ=2 by lia]
      match n,h2 with
      |0,_=>rfl
      |1,_=>rfl
      |n+2,h2=>lia
    show _=[_,Slot.val (D.int ((wayN (degW t) i*degW t i:Nat):Int)),_,_];rw[<- e]
  ·rintro a ⟨x,y,rfl⟩
   rw[CC,BO];exact(x,y,rfl)
 rintro m ⟨x,y,rfl⟩;exact Bk<|AD rfl q
theorem Zzg (mb:Mb mg) (a7:Callee P w K mg base 1 "_law_ends" ["_law_web","_law_place"] (spN K L6)) (F:BE K "_law_all" "_law_all" Ih f fd):FnOk P w K mg base CX0 2 f fd ["_law_web"] (spD K fAllO):=by
 refine F.ok D8 (B2 λY o h=>#[8]) λX A T s H vs Q E R h=>?_;have V:=Bb R;refine(_,(AR (Aj (i:=1) D8.nd rfl (Or.inl rfl) (@CG _ _ _ _ (@AA _ _ _ _ _ (@Ab _ _ _ _ _ AE) AE (@BC _ _ _ _ _))))<|AR (Bv PassesOwn.never rfl (CP rfl (mb "range" #[0])<|AA (Ag (ixK K V) (pv 0) AG λ_ _=>rfl) AE) (Ao (i:=2) D8.nd rfl<|Or.inl rfl)<|AR (Aj (i:=3) D8.nd rfl (Or.inl rfl)<|An a7 (R.mono #[0])<|AA (pv 0)<|AA (pv 2) AE)<|AR (Aj (i:=4) D8.nd rfl (Or.inl rfl)<|CG<|AA (Ed (tupK K) rfl (mb "tuple" #[0]) Ey<|AA (FV (slK K) (pv 3) E3<|FU AG) AE) AE)<|AR (Bv PassesOwn.never rfl (NZ rfl (mb "range" #[0])<|AA AG<|AA (A0 (lenK K) rfl (mb "len" #[0]) Bi<|AA (pv 3) AE) AE) (Ao (i:=5) D8.nd rfl<|Or.inl rfl)<|AR (Aj (i:=6) D8.nd rfl (Or.inl rfl)<|CG AE)<|AR (Bv PassesOwn.never rfl (seqK K<|pv 4) (Ao (i:=7) D8.nd rfl<|Or.inr rfl)<|AY<|CW<|bmK K PySem.F.plainAttrs_list PySem.F.slot_list_extend PySem.F.type_list_extend extLK (pv 6)<|AA (Du ["_law_end"] (show CompSc (defScope Ih) ["_law_web","_law_found","_law_place","_law_ends_here","_law_rows","_law_k","_law_longer","_law_row","_law_order"] _ ["_law_row"] [7] from (rfl,#[1],#[1],#[1],rfl,#[1])) rfl (seqK K<|pv 3) (λ_ _ _ _ _=>(Ao (i:=0) (show List.Nodup (["_law_end","_law_row"]:List Str) from #[0]) rfl<|Or.inl rfl)) (λ_ _ _ _ _=>(F2<|BW (notinK K V) (pv 0) (pv 1) rfl)) λ_ _ _ _ _=>(Ae (addK K) (pv 1)<|Ab<|AA (pv 0) AE)) AE)<|AY<|Aj (i:=4) D8.nd rfl (Or.inl rfl)<|pv 6)<|AR (Aj (i:=6) D8.nd rfl (Or.inl rfl)<|CG AE)<|AR (Bv PassesOwn.never rfl (seqK K<|pv 1) (Ao (i:=8) D8.nd rfl<|Or.inr rfl)<|AY<|CW<|bmK K PySem.F.plainAttrs_list PySem.F.slot_list_extend PySem.F.type_list_extend extLK (pv 6)<|AA (Du ["_law_row"] (show CompSc (defScope Ih) ["_law_web","_law_found","_law_place","_law_ends_here","_law_rows","_law_k","_law_longer","_law_row","_law_order"] _ ["_law_order"] [8] from (rfl,#[1],#[1],#[1],rfl,#[1])) rfl (seqK K<|pv 4) (λ_ _ _ _ _=>(Ao (i:=0) (show List.Nodup (["_law_row","_law_order"]:List Str) from #[0]) rfl<|Or.inl rfl)) (λ_ _ _ _ _=>EG) λ_ _ _ _ _=>(Ae (addK K) (pv 1)<|Ab<|AA (pv 0) AE)) AE)<|AY<|Aj (i:=1) D8.nd rfl (Or.inl rfl)<|pv 6)<|AY<|BF<|pv 1),B3 (λY o hf=>?_) h);obtain⟨N,S,rfl,W,hw,q⟩:=hf;sleep 0;have hn:=W.lo;have a3:=W.hi;have a6:=W.len;refine Ac<|Aw<|Ge<|AF<|BJ<|AI (#[0],AI (#[7],?_));refine Bh (λJ=>∃x y z u v s t:L2.Slot,J = [.val (Am (N:Int) S),.val (.lst ((Bf N S).map BL)),x,y,z,u,v,s,t]) ?_ ?_
 ·refine Bx (CQ<|AF<|CA (DX (d:=.int (N:Int)) rfl rfl)<|AI (_,rfl,#[4],#[4],λi J=>∃x y z u v s t:L2.Slot,J = [.val (Am (N:Int) S),.val (.lst ((Bf i S).map BL)),x,y,z,u,v,s,t],(_,_,_,_,_,_,_,rfl),?_,?_))
  ·rintro i d g b ⟨x,y,z,u,v,s,t,rfl⟩
   obtain⟨I,rfl⟩:=B9 b;have I:i<N:=by simpa using I
   have p:wayN (degW S) i*degW S i<=960:=Bg (Sw (FP S) I) hw;have a1:=FP S i;have M:=JW (FP S) i;have c:degW S i<=960:=Bg (KI _ M) p;have a2:=LB S i;have B:(As S i).Nodup:=M4 S _ _;refine A8<|Ac<|Aw<|Cz<|EF<|AF<|AD rfl<|AF<|AD rfl<|AI ((N:Int),S,_,0+(i:Int),rfl,Or.inr rfl,#[2],_,rfl,?_);rw[show Cb S (2*S.length) (0+(i:Int))=As S i by rw[B0];rfl];refine Ac<|Aw<|Ge<|AF<|A3<|AF<|Ht<|AD rfl<|E4<|F3<|Aa (_,rfl,.lst ((As S i).map D.int |>.take 1),?_,AI<|E6 (Or.inl rfl)<|AI (#[7],?_))
   ·show some (D.lst<|cutD _ none<|some 1)=_
    rw[SO]
   rw[<- Kf];refine Bh (λJ=>∃u v s t:L2.Slot,J = [.val (Am (N:Int) S),.val (.lst ((Bf i S).map BL)),.val (.int (0+(i:Int))),.val (.lst ((As S i).map D.int)),.val (.lst ((By<|As S i).map AX)),u,v,s,t]) ?_ ?_
   ·refine Bx (NX<|AF<|Aa<|AF<|A3<|AF<|AD rfl<|AI<|B7 (Or.inl rfl)<|AI (1,_,rfl,by rw[AJ];lia,λj J=>∃u v s t:L2.Slot,J = [.val (Am (N:Int) S),.val (.lst ((Bf i S).map BL)),.val (.int (0+(i:Int))),.val (.lst ((As S i).map D.int)),.val (.lst ((Cq (As S i) j [(As S i).take 1]).map AX)),u,v,s,t],(u,v,s,t,rfl),?_,?_))
    ·rintro j d g b ⟨u,v,s,t,rfl⟩
     obtain⟨hj,rfl⟩:=B9 b;rw[AJ]at hj;have n:j+1<(As S i).length:=#[4]
     have U:As S i≠[]:=by intro z;rw[z]at n;simp at n
     have Z:(Dm (As S i)<|Cq (As S i) j [(As S i).take 1]).length<=960:=by
      rw[<- Ir];exact Bg (Sq B U ((As S i).length-(j+2)) (j+1) #[2]) c
     have C:=NL U j;generalize hL:Cq (As S i) j [(As S i).take 1]=L at Z C ⊢;refine A8<|Ac<|Cw<|Fb<|AI (#[0],?_);refine Bh (λJ=>∃s:L2.Slot,J = [.val (Am (N:Int) S),.val (.lst ((Bf i S).map BL)),.val (.int (0+(i:Int))),.val (.lst ((As S i).map D.int)),.val (.lst<|L.map AX),.val (.int (1+(j:Int))),.own (.lst ((Dm (As S i) L).map AX)),s,t]) ?_ ?_
     ·refine Bx (Cn<|AD rfl (_,Or.inl rfl,λl J=>∃s:L2.Slot,J = [.val (Am (N:Int) S),.val (.lst ((Bf i S).map BL)),.val (.int (0+(i:Int))),.val (.lst ((As S i).map D.int)),.val (.lst<|L.map AX),.val (.int (1+(j:Int))),.own (.lst (((L.take l).flatMap (IA<|As S i)).map AX)),s,t],(s,rfl),?_,?_))
      ·rintro l d g b ⟨s,rfl⟩
       rw[Ad]at b;cases zr:L[l]? with
       |none=>exists 0,zr,b
       |some r=>
        exists 0,zr,b;have a5:=C r<|Be zr;refine A8<|N3 rfl rfl<|Dx #[0]<|Cn<|AD rfl (_,Or.inl rfl,by rw[AJ];exact small1000 #[2],λd=>decide<|intX d ∉ r,λd=>AX<|r++[intX d],λm d b=>?_,?_)
        ·rw[Ad]at b
         cases ze:(As S i)[m]? with
         |none=>exists 0,ze,b
         |some e=>
          exists 0,ze,b;refine Ba<|AO<|AD rfl<|AD rfl<|Oa (neg:=true) (_,rfl,?_,?_)
          ·show (!decide (e∈r))=decide (e ∉ r)
           by_cases R:e∈r <;> simp[R]
          by_cases R:e∈r
          ·rw[AK (by simp[R])];exact(_,rfl)
          ·rw[AN (by simp[R])]
           refine AO<|AD rfl<|BJ<|AF<|AD rfl<|AI (#[7],E2 ?_ (?_,_,rfl))
           ·rw[AJ]
            exact Cj<|small1000 (by show r.length+1<=1000;lia)
           ·show _=D.tup ((r++[e]).map D.int)
            rw[BA];rfl
        have G:(((As S i).map D.int).filter λd=>decide<|intX d ∉ r).map (λd=>AX<|r++[intX d])=(IA (As S i) r).map AX:=by
         unfold IA;rw[GG,BS,BS];rfl
        rw[G];refine(_,_,_,rfl,rfl,rfl,?_,?_)
        ·rw[<- Ar,<- BA,<- K2 (IA<|As S i) zr,AJ]
         exact Bg (Bg (PM _ _ _) Z) #[0]
        refine(.val<|AX r,?_);rw[K2 (IA<|As S i) zr,BA];rfl
      ·rintro g ⟨s,rfl⟩
       rw[AJ,Bm];exact(s,rfl)
     rintro g ⟨s,rfl⟩;refine Aw<|Ef rfl ?_;dsimp only;rw[Ir,hL];exact(_,_,_,_,rfl)
    ·rintro g ⟨u,v,s,t,rfl⟩
     refine(u,v,s,t,?_);have e:(((((As S i).map D.int).length:Nat):Int)-1).toNat=(As S i).length-1:=by rw[AJ];lia
     rw[CC,e,show Cq (As S i) ((As S i).length-1) [(As S i).take 1]=rowsL (As S i) from rfl,Sr B]
   rintro g ⟨u,v,s,t,rfl⟩;have a4:=Iy i S;have eW:ways i S=wayN (degW S) i:=rfl;have O:Bf (i+1) S=(Bf i S).flatMap (ord1<|By<|As S i):=rfl;have hS:=Iy (i+1) S;have k:(Bf (i+1) S).length<=960:=by rw[hS];exact p
   rw[O]at k;refine Ac<|Cw<|Fb<|AI (#[0],?_);refine Bh (λJ=>∃t:L2.Slot,J = [.val (Am (N:Int) S),.val (.lst ((Bf i S).map BL)),.val (.int (0+(i:Int))),.val (.lst ((As S i).map D.int)),.val (.lst ((By<|As S i).map AX)),u,.own (.lst ((Bf (i+1) S).map BL)),s,t]) ?_ ?_
   ·refine Bx (Cn<|AD rfl (_,Or.inl rfl,λl J=>∃t:L2.Slot,J = [.val (Am (N:Int) S),.val (.lst ((Bf i S).map BL)),.val (.int (0+(i:Int))),.val (.lst ((As S i).map D.int)),.val (.lst ((By<|As S i).map AX)),u,.own (.lst ((((Bf i S).take l).flatMap (ord1<|By<|As S i)).map BL)),s,t],(t,rfl),?_,?_))
    ·rintro l d g b ⟨t,rfl⟩
     rw[Ad]at b;cases zr:(Bf i S)[l]? with
     |none=>exists 0,zr,b
     |some a=>
      exists 0,zr,b;have a0:=(LD i a<|Be zr).1;refine A8<|N3 rfl rfl<|Dx #[0]<|Cn<|AD rfl (_,Or.inl rfl,by rw[AJ,JD];exact small1000 (Bg c #[0]),λ_=>true,λd=>BL<|a++[EO d],λm d b=>?_,?_)
      ·rw[Ad]at b
       cases ze:(By<|As S i)[m]? with
       |none=>exists 0,ze,b
       |some r=>
        exists 0,ze,b;refine Dz (rfl,AO<|AD rfl<|BJ<|AF<|AD rfl<|AI (#[7],E2 ?_ (?_,_,rfl)))
        ·rw[AJ]
         exact Cj<|small1000 (by show a.length+1<=1000;lia)
        ·show _=BL (a++[EO (AX r)])
         rw[JF];unfold BL;rw[BA];rfl
      have G:(((By<|As S i).map AX).filter λ_=>true).map (λd=>BL<|a++[EO d])=(ord1 (By<|As S i) a).map BL:=by
       unfold ord1;rw[D6.mpr #[3],BS,BS];refine DU λr _=>?_;show BL (a++[EO (AX r)])=_;rw[JF];rfl
      rw[G];refine(_,_,_,rfl,rfl,rfl,?_,?_)
      ·rw[<- Ar,<- BA,<- K2 (ord1<|By<|As S i) zr,AJ]
       exact Bg (Bg (PM _ _ _) k) #[0]
      refine(.val<|BL a,?_);rw[K2 (ord1<|By<|As S i) zr,BA];rfl
    ·rintro g ⟨t,rfl⟩
     rw[AJ,Bm,<- O];exact(t,rfl)
   rintro g ⟨t,rfl⟩;exact Aw<|Ef rfl (_,_,_,_,_,_,_,rfl)
  ·rintro g ⟨x,y,z,u,v,s,t,rfl⟩
   rw[CC,BO];exact(x,y,z,u,v,s,t,rfl)
 rintro J1 ⟨x,y,z,u,v,s,t,rfl⟩;exact Bk<|AD rfl q
end
def fSmall:BSp:=λp s t=>DP p/\s=[.int 40]/\∀(N:Nat) (ts:AQ) ps',DP ps' -> Af (N:Int) ts->ways N ts<=40->t (Am (N:Int) ts) ps'
def s5:AQ:=[(0,1),(0,1),(0,2),(0,2),(0,3),(0,3),(1,2),(3,4)]
def s1:AQ:=[(0,0),(0,0),(0,0)]
def s4:AQ:=[(0,1),(0,2),(0,3),(1,2),(1,3),(2,3)]
def s2:AQ:=[(0,1),(0,1),(0,1),(0,1),(0,1)]
def s6:AQ:=[(0,3),(0,4),(0,5),(1,3),(1,4),(1,5),(2,3),(2,4),(2,5)]
def setsD:List D:=[Am 5 s5,Am 1 s1,Am 4 s4,Am 2 s2,Am 6 s6]
theorem UP (h0:0<=r) (h1:r<5):∃(N:Nat) (ts:AQ),atI setsD r=some (Am (N:Int) ts)/\Af (N:Int) ts:=by
 have:r=0\/r=1\/r=2\/r=3\/r=4:=#[2]
 rcases this with rfl|rfl|rfl|rfl|rfl
 ·exact(5,s5,rfl,(#[0],#[0],#[0],#[0]))
 ·exact(1,s1,rfl,(#[0],#[0],#[0],#[0]))
 ·exact(4,s4,rfl,(#[0],#[0],#[0],#[0]))
 ·exact(2,s2,rfl,(#[0],#[0],#[0],#[0]))
 ·exact(6,s6,rfl,(#[0],#[0],#[0],#[0]))
theorem Zzm:PR2 K (rMul5 K) (.tup [d]) (.int 5) J (.tup [d,d,d,d,d]):=λP p=>Zzk p
theorem Zy6 (ds:List D):cutD ds none none=ds:=by
 show List.take (ds.length-0) (List.drop 0 ds)=ds;rw[List.drop_zero,Ic,Bm]
def rowT (m:Nat):AQ:=(AV m).map λk:Nat=>((k:Int),(k:Int)+1)
theorem RD (N:Nat):ways N []=1:=by
 unfold ways
 induction N with
 |zero=>rfl
 |succ N ih=>
  show wayN (degW []) N*degW [] N=1;rw[ih];rfl
def sM (ps:List D) (L Y:Int) (N:Nat) (ts:AQ) (j q:L2.Slot):AM:=[.bor (.lst ps),.val (.int L),.val (.int Y),.val (.lst setsD),.val (.lst<|ts.map BY),.val (.int (N:Int)),j,q]
#check 2
theorem Zwn (mb:Mb mg) (d5:Callee P w K mg base 1 "_law_draw" ["_law_pen_here","_law_many"] (spB K IB)) (d6:Callee P w K mg base 2 "_law_ways" ["_law_web"] (spD K fWays)) (F:BE K "_law_small" "_law_small" Kn f fd):FnOk P w K mg base CX0 3 f fd ["_law_pen_here","_law_limit"] (spB K fSmall):=by
 refine F.ok DN (Jc λp ds O h=>by obtain⟨_,rfl,_⟩:=h;rfl) λc1 A b5 s H vs Q E R h=>?_;have hu:=Bb R;refine(_,(by (refine' AR ?s ?r); (case s=>exact(Aj (i:=2) DN.nd rfl (Or.inl rfl)<|An d5 (R.mono #[0])<|AA (pv 0)<|AA AG AE)); (case r=>exact(by (refine' AR ?s ?r); (case s=>exact(by (refine' @Aj _ _ 3 _ _ _ _ DN.nd rfl (Or.inl rfl) ?e rfl (by first|exact .inl rfl|exact .inr rfl|assumption)); (case e=>exact(@CG _ _ _ _ (@AA _ _ _ _ _ (@Ab _ _ _ _ _ (@AA _ _ _ _ _ AG (@AA _ _ _ _ _ (@Ab _ _ _ _ _ (@AA _ _ _ _ _ (@Ab _ _ _ _ _ (@AA _ _ _ _ _ AG (@AA _ _ _ _ _ AG AE (@Ah _ _ _ _ _)) (@Ah _ _ _ _ _))) (@AA _ _ _ _ _ (@Ab _ _ _ _ _ (@AA _ _ _ _ _ AG (@AA _ _ _ _ _ AG AE (@Ah _ _ _ _ _)) (@Ah _ _ _ _ _))) (@AA _ _ _ _ _ (@Ab _ _ _ _ _ (@AA _ _ _ _ _ AG (@AA _ _ _ _ _ AG AE (@Ah _ _ _ _ _)) (@Ah _ _ _ _ _))) (@AA _ _ _ _ _ (@Ab _ _ _ _ _ (@AA _ _ _ _ _ AG (@AA _ _ _ _ _ AG AE (@Ah _ _ _ _ _)) (@Ah _ _ _ _ _))) (@AA _ _ _ _ _ (@Ab _ _ _ _ _ (@AA _ _ _ _ _ AG (@AA _ _ _ _ _ AG AE (@Ah _ _ _ _ _)) (@Ah _ _ _ _ _))) (@AA _ _ _ _ _ (@Ab _ _ _ _ _ (@AA _ _ _ _ _ AG (@AA _ _ _ _ _ AG AE (@Ah _ _ _ _ _)) (@Ah _ _ _ _ _))) (@AA _ _ _ _ _ (@Ab _ _ _ _ _ (@AA _ _ _ _ _ AG (@AA _ _ _ _ _ AG AE (@Ah _ _ _ _ _)) (@Ah _ _ _ _ _))) (@AA _ _ _ _ _ (@Ab _ _ _ _ _ (@AA _ _ _ _ _ AG (@AA _ _ _ _ _ AG AE (@Ah _ _ _ _ _)) (@Ah _ _ _ _ _))) AE (@BC _ _ _ _ _)) (@BC _ _ _ _ _)) (@BC _ _ _ _ _)) (@BC _ _ _ _ _)) (@BC _ _ _ _ _)) (@BC _ _ _ _ _)) (@BC _ _ _ _ _)) (@BC _ _ _ _ _))) AE (@BC _ _ _ _ _)) (@Ah _ _ _ _ _))) (@AA _ _ _ _ _ (@Ab _ _ _ _ _ (@AA _ _ _ _ _ AG (@AA _ _ _ _ _ (@Ab _ _ _ _ _ (@AA _ _ _ _ _ (@Ab _ _ _ _ _ (@AA _ _ _ _ _ AG (@AA _ _ _ _ _ AG AE (@Ah _ _ _ _ _)) (@Ah _ _ _ _ _))) (@AA _ _ _ _ _ (@Ab _ _ _ _ _ (@AA _ _ _ _ _ AG (@AA _ _ _ _ _ AG AE (@Ah _ _ _ _ _)) (@Ah _ _ _ _ _))) (@AA _ _ _ _ _ (@Ab _ _ _ _ _ (@AA _ _ _ _ _ AG (@AA _ _ _ _ _ AG AE (@Ah _ _ _ _ _)) (@Ah _ _ _ _ _))) AE (@BC _ _ _ _ _)) (@BC _ _ _ _ _)) (@BC _ _ _ _ _))) AE (@BC _ _ _ _ _)) (@Ah _ _ _ _ _))) AE (@BC _ _ _ _ _)) (@BC _ _ _ _ _)))))); (case r=>exact(by (refine' AR ?s ?r); (case s=>exact(by (refine' @Aj _ _ 3 _ _ _ _ DN.nd rfl (Or.inl rfl) ?e rfl (by first|exact .inl rfl|exact .inr rfl|assumption)); (case e=>((refine' Ae (addK K) ?a ?b); (case a=>exact(pv 3)); (case b=>exact(@CG _ _ _ _ (@AA _ _ _ _ _ (@Ab _ _ _ _ _ (@AA _ _ _ _ _ AG (@AA _ _ _ _ _ (@Ab _ _ _ _ _ (@AA _ _ _ _ _ (@Ab _ _ _ _ _ (@AA _ _ _ _ _ AG (@AA _ _ _ _ _ AG AE (@Ah _ _ _ _ _)) (@Ah _ _ _ _ _))) (@AA _ _ _ _ _ (@Ab _ _ _ _ _ (@AA _ _ _ _ _ AG (@AA _ _ _ _ _ AG AE (@Ah _ _ _ _ _)) (@Ah _ _ _ _ _))) (@AA _ _ _ _ _ (@Ab _ _ _ _ _ (@AA _ _ _ _ _ AG (@AA _ _ _ _ _ AG AE (@Ah _ _ _ _ _)) (@Ah _ _ _ _ _))) (@AA _ _ _ _ _ (@Ab _ _ _ _ _ (@AA _ _ _ _ _ AG (@AA _ _ _ _ _ AG AE (@Ah _ _ _ _ _)) (@Ah _ _ _ _ _))) (@AA _ _ _ _ _ (@Ab _ _ _ _ _ (@AA _ _ _ _ _ AG (@AA _ _ _ _ _ AG AE (@Ah _ _ _ _ _)) (@Ah _ _ _ _ _))) (@AA _ _ _ _ _ (@Ab _ _ _ _ _ (@AA _ _ _ _ _ AG (@AA _ _ _ _ _ AG AE (@Ah _ _ _ _ _)) (@Ah _ _ _ _ _))) AE (@BC _ _ _ _ _)) (@BC _ _ _ _ _)) (@BC _ _ _ _ _)) (@BC _ _ _ _ _)) (@BC _ _ _ _ _)) (@BC _ _ _ _ _))) AE (@BC _ _ _ _ _)) (@Ah _ _ _ _ _))) (@AA _ _ _ _ _ (@Ab _ _ _ _ _ (@AA _ _ _ _ _ AG (@AA _ _ _ _ _ (Ae (UT K) (@Ab _ _ _ _ _ (@AA _ _ _ _ _ (@Ab _ _ _ _ _ (@AA _ _ _ _ _ AG (@AA _ _ _ _ _ AG AE (@Ah _ _ _ _ _)) (@Ah _ _ _ _ _))) AE (@BC _ _ _ _ _))) AG) AE (@Zwr _ _ _ _ _ _)) (@Ah _ _ _ _ _))) AE (@BC _ _ _ _ _)) (@BC _ _ _ _ _)))))))); (case r=>exact(by (refine' AR ?s ?r); (case s=>exact(by (refine' @Aj _ _ 3 _ _ _ _ DN.nd rfl (Or.inl rfl) ?e rfl (by first|exact .inl rfl|exact .inr rfl|assumption)); (case e=>((refine' Ae (addK K) ?a ?b); (case a=>exact(pv 3)); (case b=>exact(@CG _ _ _ _ (@AA _ _ _ _ _ (@Ab _ _ _ _ _ (@AA _ _ _ _ _ AG (@AA _ _ _ _ _ (@Ab _ _ _ _ _ (@AA _ _ _ _ _ (@Ab _ _ _ _ _ (@AA _ _ _ _ _ AG (@AA _ _ _ _ _ AG AE (@Ah _ _ _ _ _)) (@Ah _ _ _ _ _))) (@AA _ _ _ _ _ (@Ab _ _ _ _ _ (@AA _ _ _ _ _ AG (@AA _ _ _ _ _ AG AE (@Ah _ _ _ _ _)) (@Ah _ _ _ _ _))) (@AA _ _ _ _ _ (@Ab _ _ _ _ _ (@AA _ _ _ _ _ AG (@AA _ _ _ _ _ AG AE (@Ah _ _ _ _ _)) (@Ah _ _ _ _ _))) (@AA _ _ _ _ _ (@Ab _ _ _ _ _ (@AA _ _ _ _ _ AG (@AA _ _ _ _ _ AG AE (@Ah _ _ _ _ _)) (@Ah _ _ _ _ _))) (@AA _ _ _ _ _ (@Ab _ _ _ _ _ (@AA _ _ _ _ _ AG (@AA _ _ _ _ _ AG AE (@Ah _ _ _ _ _)) (@Ah _ _ _ _ _))) (@AA _ _ _ _ _ (@Ab _ _ _ _ _ (@AA _ _ _ _ _ AG (@AA _ _ _ _ _ AG AE (@Ah _ _ _ _ _)) (@Ah _ _ _ _ _))) (@AA _ _ _ _ _ (@Ab _ _ _ _ _ (@AA _ _ _ _ _ AG (@AA _ _ _ _ _ AG AE (@Ah _ _ _ _ _)) (@Ah _ _ _ _ _))) (@AA _ _ _ _ _ (@Ab _ _ _ _ _ (@AA _ _ _ _ _ AG (@AA _ _ _ _ _ AG AE (@Ah _ _ _ _ _)) (@Ah _ _ _ _ _))) (@AA _ _ _ _ _ (@Ab _ _ _ _ _ (@AA _ _ _ _ _ AG (@AA _ _ _ _ _ AG AE (@Ah _ _ _ _ _)) (@Ah _ _ _ _ _))) AE (@BC _ _ _ _ _)) (@BC _ _ _ _ _)) (@BC _ _ _ _ _)) (@BC _ _ _ _ _)) (@BC _ _ _ _ _)) (@BC _ _ _ _ _)) (@BC _ _ _ _ _)) (@BC _ _ _ _ _)) (@BC _ _ _ _ _))) AE (@BC _ _ _ _ _)) (@Ah _ _ _ _ _))) AE (@BC _ _ _ _ _)))))))); (case r=>exact(by (refine' AR ?s ?r); (case s=>exact(Aj (i:=4) DN.nd rfl (Or.inl rfl)<|CG AE)); (case r=>exact(by (refine' AR ?s ?r); (case s=>exact(Aj (i:=5) DN.nd rfl (Or.inl rfl)<|Ae (addK K) AG<|An d5 (R.mono #[0])<|AA (pv 0)<|AA AG AE)); (case r=>exact(by (refine' AR ?s ?r); (case s=>exact(CF (BW CY (pv 2) AG<|nomark _) (AR (DI (Ag (ixK K hu) (pv 3) (An d5 (R.mono #[0])<|AA (pv 0)<|AA AG AE) λ_ _=>rfl)<|gtupK (n:=2) K rfl<|B8 (Ao (i:=5) DN.nd rfl<|Or.inl rfl)<|B8 (Ao (i:=4) DN.nd rfl<|Or.inl rfl) Dy)<|AY<|Aj (i:=4) DN.nd rfl (Or.inl rfl)<|Ed (lstK K) rfl (mb "list" #[0]) He<|AA (pv 4) AE) CM)); (case r=>exact(by (refine' AR ?s ?r); (case s=>exact(CF (BW CY (pv 2) AG<|nomark _) (AR (Aj (i:=5) DN.nd rfl (Or.inl rfl)<|Ae (addK K) AG<|An d5 (R.mono #[0])<|AA (pv 0)<|AA AG AE)<|AY<|HW (i:=4) ["_law_k"] (show CompSc (defScope Kn) ["_law_pen_here","_law_limit","_law_way","_law_sets","_law_ties","_law_many","_law_k","_law_more_here"] _ [] [] from (rfl,#[1],#[1],#[1],rfl,#[1])) rfl DN.nd rfl (Or.inl rfl) (CP rfl (mb "range" #[0])<|AA (Ae Di (pv 5) AG) AE) (λ_ _ _ _ _=>(Ao (i:=0) (show List.Nodup (["_law_k"]:List Str) from #[0]) rfl<|Or.inl rfl)) (λ_ _ _ _ _=>EG) λ_ _ _ _ _=>(Ab<|AA (pv 0)<|AA (Ae (addK K) (pv 0) AG) AE)) CM)); (case r=>exact(by (refine' AR ?s ?r); (case s=>exact(Bv PassesOwn.never rfl (CP rfl (mb "range" #[0])<|AA (Ae DO (An d5 (R.mono #[0])<|AA (pv 0)<|AA AG AE)<|Ed QJ rfl (mb "int" #[0]) Lj<|AA (GW F7 (pv 2) AG<|nomark _) AE) AE) (Ao (i:=6) DN.nd rfl<|Or.inl rfl)<|AR (Aj (i:=7) DN.nd rfl (Or.inl rfl)<|FV (slK K) (pv 4) E3 E3)<|AR (CW<|bmK K PySem.F.plainAttrs_list PySem.F.slot_list_insert PySem.F.type_list_insert Zs7 (pv 7)<|AA (An d5 (R.mono #[0])<|AA (pv 0)<|AA (Ae (addK K) (A0 (lenK K) rfl (mb "len" #[0]) Bi<|AA (pv 4) AE) AG) AE)<|AA (Ab<|AA (An d5 (R.mono #[0])<|AA (pv 0)<|AA (pv 5) AE)<|AA (An d5 (R.mono #[0])<|AA (pv 0)<|AA (pv 5) AE) AE) AE)<|AY<|CF (PW.pt<|pw_and (BW Ly (An d6 (R.mono #[0])<|AA (Ab<|AA (pv 5)<|AA (pv 7) AE) AE) (pv 1)<|nomark _)<|pw_and1<|BW Ly (A0 (lenK K) rfl (mb "len" #[0]) Bi<|AA (pv 7) AE) AG<|nomark _) (AY<|Aj (i:=4) DN.nd rfl (Or.inl rfl)<|pv 7) CM)); (case r=>exact(by (refine' AR ?s ?r); (case s=>exact(FK PassesOwn.never (BW F7 (An d6 (R.mono #[0])<|AA (Ab<|AA (pv 5)<|AA (pv 4) AE) AE) (pv 1)<|nomark _)<|AY<|Aj (i:=4) DN.nd rfl (Or.inl rfl)<|FV (slK K) (pv 4) (FU AG) E3)); (case r=>exact(AY<|BF<|Ab<|AA (pv 5)<|AA (Ed (tupK K) rfl (mb "tuple" #[0]) Ey<|AA (pv 4) AE) AE))))))))))))))))))))),Jv (λp ds O hf=>?_) h)
 obtain⟨hp,rfl,q⟩:=hf;refine(#[3],?_);dsimp only[cxOf,startD,BZ,A7,BP,Az];refine Ac<|Aw (Gi rfl rfl hp #[0] #[0] λy d3 b1 d1 d2=>?_);refine Ac<|Aw<|CA (d:=.lst [Am 5 s5,Am 1 s1]) (by repeat' (first|exact Dh|exact FX|refine Ex ?_ ?_|refine F6 ?_ #[0]|refine Hn ?_ #[0])) ?_;refine Ac<|Aw<|AO<|AD rfl<|CA (d:=.lst [Am 4 s4,Am 2 s2]) (by repeat' (first|exact Dh|exact FX|refine Ex ?_ ?_|exact Jq (F6 (Ex (F6 (Ex Dh<|Ex Dh FX) #[0]) FX) #[0]) Dh Zzm|refine F6 ?_ #[0]|refine Hn ?_ #[0]))<|Sx #[0] ?_;refine Ac<|Aw<|AO<|AD rfl<|CA (d:=.lst [Am 6 s6]) (by repeat' (first|exact Dh|exact FX|refine Ex ?_ ?_|refine F6 ?_ #[0]|refine Hn ?_ #[0]))<|Sx #[0] ?_;refine Ac<|Aw<|Ge<|AI (#[0],?_);refine Ac<|Aw<|AO<|Aa (Gi rfl rfl b1 #[0] #[0] λr b6 G c8 c9=>EB ?_);obtain⟨Y,Z⟩:∃Y:Nat,1+r=(Y:Int):=((1+r).toNat,#[2]);rw[Z];refine Bh (λJ=>∃(p:List D) (N:Nat) (S:AQ),DP p/\Af (N:Int) S /\ J = sM p 40 y N S .any .any) ?_ ?_
 ·refine CD (Th rfl (λc=>iteT ?_) λc=>iteF<|CN (b6,Y,[],G,(#[2],#[2],#[0],λ_ h=>(nomatch h)),rfl))
  refine Ac<|Gf<|AO<|AD rfl (Gi rfl rfl G #[0] #[0] λr3 z g a0 a1=>?_);obtain⟨N,S,a8,W⟩:=UP a0 a1;refine DW a8<|EH rfl<|CH<|A8<|CH<|A8<|ED ?_;exact Aw<|Cz<|Ua<|AF<|AD rfl<|AI (_,Or.inl rfl,_,rfl,z,N,S,g,W,rfl)
 rintro V ⟨z,N1,b8,g,a4,rfl⟩;refine Bh (λJ=>∃(p:List D) (N:Nat) (S:AQ),DP p/\Af (N:Int) S /\ J = sM p 40 y N S .any .any) ?_ ?_
 ·refine CD (Th rfl (λc=>iteT ?_) λc=>iteF<|CN (z,N1,b8,g,a4,rfl))
  refine Ac<|Aw<|AO<|Aa (Gi rfl rfl g #[0] #[0] λr4 L o c3 c4=>EB ?_);obtain⟨N,eN⟩:∃N:Nat,1+r4=(N:Int):=((1+r4).toNat,#[2]);rw[eN];refine Aw<|Dx #[0]<|CQ<|AF<|CA (Jq (Jl rfl) Dh V4)<|AI (_,rfl,#[2],#[2],?_,λ_=>true,λd=>.tup [d,.int (intX d+1)],λi d hd=>?_,?_)
  ·rw[CC];exact small1000 #[2]
  ·obtain⟨hi,rfl⟩:=B9 hd
   exact Dz (rfl,BJ<|AF<|AD rfl<|AF<|CA (Jq (Jl rfl) Dh Sb)<|AI (E5,rfl,_,rfl))
  have e:((rngD 0 (((N:Int)-1).toNat)).filter λ_=>true).map (λd=>D.tup [d,.int (intX d+1)])=(rowT<|N-1).map BY:=by
   rw[D6.mpr #[3],show ((N:Int)-1).toNat=N-1 by lia];unfold rngD rowT;rw[BS,BS];refine DU λk _=>?_;show D.tup [.int (0+(k:Int)),.int (0+(k:Int)+1)]=D.tup [.int (k:Int),.int ((k:Int)+1)];rw[B0]
  rw[e];refine(L,N,rowT<|N-1,o,(#[2],#[2],?_,λt T=>?_),rfl)
  ·unfold rowT;rw[AJ,Bt];omega
  ·obtain⟨k,hk,rfl⟩:=A6.mp T
   have hk:=BB.mp hk;show 0<=(k:Int)/\(k:Int)<N/\0<=(k:Int)+1/\(k:Int)+1<N;omega
 rintro V ⟨L,N,b9,o,l,rfl⟩;have hN:=l.lo;have a3:=l.hi;refine Bh (λJ=>∃(p:List D) (S:AQ) (X C:L2.Slot),DP p/\Af (N:Int) S /\ J = sM p 40 y N S X C) ?_ ?_
 ·refine Bx (CQ<|AF<|AO (Gi rfl rfl o #[0] #[0] λr5 b7 b2 c5 c6=>A3<|AF<|AO<|AD rfl<|Aa<|EK<|AI<|SR<|jr_I (Or.inl (#[2],#[2]))<|AI (_,rfl,?_,?_,λ_ J=>∃(p:List D) (S:AQ) (X C:L2.Slot),DP p/\Af (N:Int) S /\ J = sM p 40 y N S X C,(b7,b9,.any,.any,b2,l,rfl),?_,?_)))
  ·split <;> lia
  ·split <;> lia
  ·rintro i d J2 hd ⟨p,S,X,C,hp,W,rfl⟩
   obtain⟨hi,rfl⟩:=B9 hd;have I:=W.len;refine A8<|Ac<|Cw<|Mx<|AD rfl<|E4<|E4 (_,rfl,?_);rw[Zy6];refine Ac<|Zy9 rfl rfl<|E8 rfl rfl<|AF<|CA (Jq (R3<|Jl rfl) Dh Sb)<|AI (Jd rfl rfl hp (by rw[AJ];lia) (by rw[AJ];lia) λM j u c7 a2=>?_);refine BJ<|AF<|E8 rfl rfl<|AF<|AD rfl<|AI (Jd (m:=(N:Int)) rfl rfl u hN #[2] λa d4 b3 a6 a7=>AF<|E8 rfl rfl<|AF<|AD rfl<|AI (Jd (m:=(N:Int)) rfl rfl b3 hN #[2] λb B v a9 b0=>AI (E5,_,M,_,rfl,rfl,rfl,?_,?_,?_,?_)))
   ·rw[AJ];exact small1000 #[2]
   ·lia
   ·rw[AJ]at a2;lia
   obtain⟨U,eU,d0,b4⟩:∃U:AQ,(A7 BY S).take (insI (A7 BY S).length M)++D.tup [.int a,.int b]::(A7 BY S).drop (insI (A7 BY S).length M)=U.map BY/\U.length=S.length+1/\∀t∈U,0<=t.1/\t.1<(N:Int)/\0<=t.2/\t.2<(N:Int):=by
    refine(S.take (insI (A7 BY S).length M)++(a,b)::S.drop (insI (A7 BY S).length M),?_,?_,λt T=>?_)
    ·rw[BA,Bz,Kf,List.map_drop];rfl
    ·rw[Ar,BH,Bo,Dd];lia
    ·rcases CV.mp T with T|T
     ·exact W.tie t<|KJ T
     ·rcases A5.mp T with rfl|T
      ·exact(a6,a7,a9,b0)
      ·exact W.tie t<|List.mem_of_mem_drop T
   rw[eU];refine CD<|Jo<|Ba<|AO<|BU<|AF<|BJ<|AF<|AD rfl<|AF<|Ef rfl<|AI (E5,AI (N,U,_,rfl,Or.inl rfl,#[2],#[2],AD rfl<|EK (_,rfl,ite2 (λc=>?_) λc=>iteF<|CN (B,S,_,_,v,W,rfl))));refine Ba<|AO<|CA (R3<|Jl rfl)<|Aa<|EK (_,rfl,ite2 (λc2=>?_) λc2=>CN (B,S,_,_,v,W,rfl));rw[decide_eq_true_eq,AJ]at c2;exact Aw<|AD rfl (B,U,_,_,v,(hN,a3,#[2],b4),rfl)
  ·rintro J2 h;exact h
 rintro V ⟨j,c0,X,C,u,a5,rfl⟩;refine Bh (λJ=>∃(S:AQ),Af (N:Int) S/\ways N S<=40 /\ J = sM j 40 y N S X C) ?_ ?_
 ·refine FN (fun μ J=>∃(S:AQ),μ = S.length/\Af (N:Int) S /\ J = sM j 40 y N S X C) (_,c0,rfl,a5,rfl) ?_
  rintro μ V ⟨S,rfl,W,rfl⟩;have I:=W.len;refine Ba<|AO<|BU<|AF<|BJ<|AF<|AD rfl<|AF<|AD rfl<|AI (E5,AI (N,S,_,rfl,Or.inl rfl,#[2],#[2],AD rfl<|EK (_,rfl,ite2 (λc=>?_) λc=>(S,W,by rw[decide_eq_true_eq]at c;lia,rfl))));cases S with
  |nil=>rw[decide_eq_true_eq,RD]at c;lia
  |cons t S=>
   refine Aw<|Ht<|AD rfl<|F3<|Aa (_,rfl,E4 (.lst<|S.map BY,?_,S.length,#[3],S,rfl,(W.lo,W.hi,?_,λx hx=>W.tie x<|Bl _ hx),rfl))
   ·show some (D.lst<|cutD _ (some 1) none)=_
    rw[NW];rfl
   ·rw[BH]at I;lia
 rintro V ⟨S,W,hw,rfl⟩;exact Bk<|BJ<|AF<|AD rfl<|AF<|A3<|AF<|AD rfl<|AI<|E6 (Or.inl rfl)<|AI (E5,_,rfl,q N S j u W hw)
theorem Hl (n:Int) (ts:AQ):atI [D.int n,D.tup (ts.map BY)] 1=some (.tup<|ts.map BY):=rfl
def pad (l:List Int) (h:Nat):List Int:=l++Az (h+1-l.length) 0
def cnt1 (l:List Int) (h:Nat):List Int:=(pad l h).set h (l.getD h 0+1)
def cntL (hs:List Nat):List Int:=hs.foldl cnt1 []
theorem JZ (l:List Int) (h:Nat):(pad l h).length=max l.length (h+1):=by
 unfold pad;rw[Ar,CU];omega
theorem LP (l:List Int) (h i:Nat):(pad l h).getD i 0=l.getD i 0:=by
 unfold pad;rw[Av,Av];by_cases hi:i<l.length
 ·rw[DT hi]
 ·rw[Cf #[4],GB,Ds (l:=l) #[4]]
  split <;> rfl
theorem Nd (l:List Int) (h:Nat):(cnt1 l h).length=max l.length (h+1):=by
 unfold cnt1;rw[IZ,JZ]
theorem NO (l:List Int) (h i:Nat):(cnt1 l h).getD i 0=if i=h then l.getD h 0+1 else l.getD i 0:=by
 unfold cnt1;rw[Av,IV];by_cases e:h=i
 ·subst e
  have:h<(pad l h).length:=by rw[JZ];lia
  rw[AN rfl,AN this,AN rfl];rfl
 ·rw[AK e,AK (λz=>e z.symm),<- Av,LP]
theorem Sl:∀(l:List Int) (i:Nat),i<l.length->(l.set i<|l.getD i 0+1).sum=l.sum+1
 |[],i,h=>by simp at h
 |a::l,0,_=>by
  show ((a+1)::l).sum=(a::l).sum+1;rw[Fq,Fq];lia
 |a::l,i+1,h=>by
  have H:=Sl l i #[9];show (a::l.set i (l.getD i 0+1)).sum=(a::l).sum+1;rw[Fq,Fq,H];lia
theorem Zsu (k:Nat):(Az k (0:Int)).sum=0:=by
 induction k with
 |zero=>rfl
 |succ k ih=>rw[List.replicate_succ,Fq,ih];rfl
theorem Zvi (l:List Int) (h:Nat):(cnt1 l h).sum=l.sum+1:=by
 unfold cnt1;rw[<- LP l h h,Sl _ _ (by rw[JZ];omega)];unfold pad;rw[List.sum_append,Zsu];lia
def Fh (l:List Int):Prop:=(∀i,0<=l.getD i 0)/\(l=[]\/1<=l.getD (l.length-1) 0)
theorem Zsn (L:Fh l) (h:Nat):Fh (cnt1 l h):=by
 refine(λi=>?_,.inr ?_)
 ·rw[NO]
  have:=L.1 i;have:=L.1 h;split <;> omega
 ·rw[Nd,NO]
  have H:=L.1 h;split
  ·lia
  ·next z=>
   rcases L.2 with e|e
   ·subst e;simp at z
   ·rw[show max l.length (h+1)-1=l.length-1 by lia];exact e
theorem Zvq (hs:List Nat) (B:Nat) (j:∀h∈hs,h<=B):∀l:List Int,Fh l->l.length<=B+1->Fh (hs.foldl cnt1 l)/\(hs.foldl cnt1 l).sum=l.sum+hs.length/\(hs.foldl cnt1 l).length<=B+1/\l.length<=(hs.foldl cnt1 l).length:=by
 induction hs with
 |nil=>intro l h1 h2;exact(h1,#[3],h2,AU _)
 |cons h hs ih=>
  intro l h1 h2;have H:=j h #[3];obtain⟨a,b,c,d⟩:=ih (λx X=>j x<|Bl _ X) (cnt1 l h) (Zsn h1 h) (by rw[Nd];omega);refine(a,?_,c,?_)
  ·show (hs.foldl cnt1<|cnt1 l h).sum=_
   rw[b,Zvi,BH];lia
  ·show _<=(hs.foldl cnt1<|cnt1 l h).length
   rw[Nd]at d;omega
theorem HY (j:∀h∈hs,h<=B):Fh (cntL hs)/\(cntL hs).sum=hs.length/\(cntL hs).length<=B+1:=by
 obtain⟨a,b,c,_⟩:=Zvq hs B j [] (λi=>#[3],.inl rfl) #[3];exact(a,by rw[show cntL hs=hs.foldl cnt1 [] from rfl,b];simp,c)
theorem Qc:∀(hs:List Nat) (l:List Int) (i:Nat),(hs.foldl cnt1 l).getD i 0=l.getD i 0+(hs.count i:Int)
 |[],l,i=>#[3]
 |h::hs,l,i=>by
  show (hs.foldl cnt1<|cnt1 l h).getD i 0=_;rw[Qc hs (cnt1 l h) i,NO,List.count_cons];by_cases e:i=h
  ·subst e;rw[AN rfl,AN #[3]];lia
  ·rw[AK e,AK (by simp;exact λz=>e z.symm)];lia
theorem Qi (hs:List Nat) (i:Nat):(cntL hs).getD i 0=(hs.count i:Int):=by
 unfold cntL;rw[Qc];simp
theorem Zy8 (j:Fh a) (B:Fh b) (h:∀i,a.getD i 0=b.getD i 0):a=b:=by
 have le:∀{a b:List Int},Fh a->(∀i,a.getD i 0=b.getD i 0)->a.length<=b.length:=λ{a b} j h=>by
  rcases j.2 with e|e
  ·rw[e];simp
  ·by_cases L:a.length<=b.length
   ·exact L
   ·have:=h (a.length-1)
    rw[Av (l:=b),Ds #[2]]at this;rw[this]at e;simp at e
 have L:a.length=b.length:=Nat.le_antisymm (le j h) (le B λi=>(h i).symm);refine Kc L λi H c=>?_;have:=h i;rw[Av,Av,AZ H,AZ c]at this;exact this
theorem Sn (h:j<n):ixN n (j:Int)=some j:=by
 unfold ixN;rw[AN #[2],AN #[4]];rfl
end
def fCnt:BSp:=λp s t=>∃(l:List Int) (h:Nat),p=l.map .int/\s=[.int (h:Int)]/\l.length<=65/\h<=60/\t .non ((cnt1 l h).map .int)
theorem Ss {l:List Int}(h:i<l.length):(l.map D.int)[i]?=some (.int<|l.getD i 0):=by
 rw[Ad,Av,AZ h];rfl
#check 2
theorem VA (B:Mb mg) (F:BE K "count_one" "count_one" Mk f fd):FnOk P w K mg base CX0 1 f fd ["told","number"] (spB K fCnt):=by
 refine F.ok Tx (Jc λS d t h=>#[6]) λv A r s H V Q E R h=>?_;have u:=Bb R;refine(_,(AR (FK PassesOwn.never (BW Ly (A0 (lenK K) rfl (B "len" #[0]) Bi<|AA (pv 0) AE) (pv 1)<|nomark _)<|AY<|CW<|bmK K PySem.F.plainAttrs_list PySem.F.slot_list_append PySem.F.type_list_append Dw (pv 0)<|AA AG AE)<|AY<|Zyh (pv 0) (pv 1) (getLK K) AG U0<|setU u),Jv (λS d t g=>?_) h);obtain⟨l,h,rfl,rfl,L,i,q⟩:=g;refine(#[3],?_);dsimp only[cxOf,startD,BZ,A7,BP,Az];refine Bh (λJ=>J = [.bor (.lst ((pad l h).map .int)),.val (.int (h:Int))]) ?_ ?_
 ·refine FN (fun μ J=>∃k:Nat,k<=h+1-l.length /\ μ = h+1-l.length-k /\ J = [.bor (.lst ((l++Az k 0).map .int)),.val (.int (h:Int))]) (_,0,Bp _,rfl,#[3]) ?_
  rintro μ b ⟨k,hk,rfl,rfl⟩;have n:((l++Az k (0:Int)).map D.int).length=l.length+k:=by rw[AJ,Ar,CU]
  refine Ba<|AO<|JR rfl rfl<|AD rfl<|EK (_,rfl,ite2 (λc=>?_) λc=>?_)
  ·rw[decide_eq_true_eq,n]at c
   refine FZ rfl rfl<|Aa (_,_,rfl,rfl,?_,h+1-l.length-(k+1),#[2],k+1,#[4],rfl,?_)
   ·rw[n];exact small1000 #[2]
   ·rw[List.replicate_succ',<- DM,BA (l₁:=l++Az k 0)]
    rfl
  ·rw[decide_eq_true_eq,n]at c
   unfold pad;rw[show h+1-l.length=k by lia]
 rintro b rfl;have p:h<(pad l h).length:=by rw[JZ];lia
 refine Zzn (j:=h) (a:=l.getD h 0) rfl rfl rfl (Sn (by rw[AJ];exact p)) #[2] (by rw[Ss p,LP]) (_,rfl,?_);have e:(A7 D.int<|pad l h).set h (.int<|l.getD h 0+1)=(cnt1 l h).map D.int:=by
  unfold cnt1;rw[List.map_set]
 rw[e];exact q
end
def tieD (ts:AQ) (t:Nat):Int × Int:=ts.getD t (0,0)
def Br (ts:AQ) (T:List Nat):AQ:=T.map<|tieD ts
def Fl (N:Nat) (j:AQ) (u:Int × Int):Bool:=decide ((AW N j).getD u.1.toNat 0=(AW N j).getD u.2.toNat 0)
def Aq (N:Nat) (ts:AQ):Nat->List Nat
 |0=>[]
 |i+1=>if Fl N (Br ts (Aq N ts i)) (tieD ts i)=true then Aq N ts i else Aq N ts i++[i]
theorem GR (N:Nat) (ts:AQ):∀i,∀t∈Aq N ts i,t<i
 |0,t,h=>nomatch h
 |i+1,t,h=>by
  unfold Aq at h;split at h
  ·have:=GR N ts i t h;lia
  ·rcases CV.mp h with z|z
   ·have:=GR N ts i t z;omega
   ·rw[CK]at z;lia
theorem K6 (N:Nat) (ts:AQ):∀i,(Aq N ts i).length<=i
 |0=>AU _
 |i+1=>by
  have:=K6 N ts i;unfold Aq;split
  ·lia
  ·rw[Ar];simp only[BH,Dq];lia
theorem Pz (N:Nat) (j:AQ) (u:Int × Int):AW N (j++[u])=Cd (AW N j) u.1 u.2:=by
 unfold AW;rw[KY];rfl
theorem Rw {N:Nat}(hW:Af (N:Int) ts) (j:∀t∈T,t<ts.length) (L:T.length<=24):Af (N:Int) (Br ts T):=by
 refine(hW.lo,hW.hi,by unfold Br;rw[AJ];exact L,λu h=>?_);unfold Br at h;obtain⟨t,H,rfl⟩:=A6.mp h;unfold tieD;have:=j t H;rw[Av,AZ this];exact hW.tie _ (B6 this)
def L8 (N:Nat) (j:AQ):Prop:=∀ms,BK ms (AW N j)->(j.length:Int)-(N:Int)+(ms.length:Int)=0
theorem Zs1 (N:Nat):L8 N []:=by
 intro ms h;have H:AW N []=(AV N).map λi:Nat=>(i:Int):=rfl;have c:BK ((AV N).map λi:Nat=>(i:Int)) (AW N []):=by
  refine(?_,λx=>by rw[H]);exact List.Pairwise.map _ (λa b h=>#[4]) D5
 rw[h.uniq c,AJ,Bt,Dq];lia
theorem QK {N:Nat}{j:AQ}{u:Int × Int}(q:L8 N j) (ex:∃ms,BK ms (AW N j)) (h1:u.1.toNat<N) (h2:u.2.toNat<N) {ms:List Int}(h:BK ms (AW N<|j++[u])) :
  ((j++[u]).length:Int)-(N:Int)+(ms.length:Int)=if Fl N j u=true then 1 else 0:=by
 obtain⟨s,H⟩:=ex;have e:=q s H;rw[Ar,DE];rw[Pz]at h;unfold Fl;by_cases hj:(AW N j).getD u.1.toNat 0=(AW N j).getD u.2.toNat 0
 ·rw[BD hj,AN rfl]
  rw[Np hj]at h;rw[h.uniq H];lia
 ·rw[BI hj,AK BV]
  have G:=NF (t:=u) (Cy N j) h1 h2 hj;have:=G.count H h;lia
#check 2
def EN (T:List Nat):List D:=T.map λt:Nat=>D.int (t:Int)
def fTree:DSp:=λs t=>∃(N:Nat) (ts:AQ),s=[Am (N:Int) ts]/\Af (N:Int) ts/\t (.tup<|EN<|Aq N ts ts.length)
theorem FO (h:ts[i]?=some u):tieD ts i=u:=by
 unfold tieD;rw[Av,h];rfl
theorem LJ (ts:AQ) (T:List Nat) (i:Nat):Br ts (T++[i])=Br ts T++[tieD ts i]:=by
 unfold Br;rw[BA];rfl
theorem RL {N:Nat}(hW:Af (N:Int) ts) (hi:i<=ts.length):Af (N:Int) (Br ts<|Aq N ts i):=
 Rw hW (λt h=>Ct (GR N ts i t h) hi) (by have:=K6 N ts i;have:=hW.len;lia)
theorem NS {N:Nat}(hW:Af (N:Int) ts):∀i,i<=ts.length->L8 N (Br ts<|Aq N ts i)
 |0,_=>Zs1 N
 |i+1,hi=>by
  have H:=NS hW i #[2];obtain⟨u,h⟩:∃u,ts[i]?=some u:=(_,AZ #[4]);obtain⟨U,a,b,c⟩:=hW.tie u<|Be h;unfold Aq;split
  ·exact H
  ·rename_i hj
   intro ms hm;rw[LJ]at hm ⊢;have:=QK H (GP _) (by rw[FO h];lia) (by rw[FO h];lia) hm;rw[this,AK hj]
theorem Zue (T:List Nat) (i:Nat):EN (T++[i])=EN T++[.int (i:Int)]:=by unfold EN;rw[BA];rfl
theorem Zy4 (mb:Mb mg) (a2:Callee P w K mg base 2 "rank_of" ["web"] (spD K fRank)) (F:BE K "first_tree" "first_tree" Mr f fd):FnOk P w K mg base CX0 3 f fd ["web"] (spD K fTree):=by
 refine F.ok Fu (B2 λg o h=>#[8]) λv A r s H vs Q E R h=>?_;have U:=Bb R;refine(_,(AR (DI (pv 0)<|gtupK (n:=2) K rfl<|B8 (Ao (i:=1) Fu.nd rfl<|Or.inl rfl)<|B8 (Ao (i:=2) Fu.nd rfl<|Or.inl rfl) Dy)<|AR (Aj (i:=3) Fu.nd rfl (Or.inl rfl)<|CG AE)<|AR (Aj (i:=4) Fu.nd rfl (Or.inl rfl) (@Ab _ _ _ _ _ AE))<|AR (Bv PassesOwn.never rfl (O9 K rfl (mb "enumerate" #[0])<|AA (pv 2) AE) (gtupK (n:=2) K rfl<|B8 (Ao (i:=5) Fu.nd rfl<|Or.inl rfl)<|B8 (Ao (i:=6) Fu.nd rfl<|Or.inl rfl) Dy)<|AY<|CF (BW CY (An a2 (R.mono #[0])<|AA (Ab<|AA (pv 1)<|AA (Ae (addK K) (pv 4)<|Ab<|AA (pv 6) AE) AE) AE) AG<|nomark _) (AR (CW<|bmK K PySem.F.plainAttrs_list PySem.F.slot_list_append PySem.F.type_list_append Dw (pv 3)<|AA (pv 5) AE)<|AY<|Lq (i:=4) Fu.nd rfl (Or.inl rfl) (Ab<|AA (pv 6) AE)<|Ug K) CM)<|AY<|BF<|Ed (tupK K) rfl (mb "tuple" #[0]) Ey<|AA (pv 3) AE),B3 (λg o m=>?_) h);obtain⟨N,S,rfl,W,q⟩:=m;sleep 0;have B:=W.len;refine Ac<|Gf<|AD rfl<|EH rfl<|CH<|A8<|CH<|A8<|ED ?_;refine Ac<|Cw<|Fb<|AI (#[0],?_);refine Ac<|Aw<|BJ<|AI (#[0],?_);refine Bh (λJ=>∃x y z:L2.Slot,J = [.val (Am N S),.val (.int N),.val (.tup<|S.map BY),.own (.lst<|EN<|Aq N S S.length),x,y,z]) ?_ ?_
 ·refine Bx (S1<|AF<|AD rfl<|AI (_,Or.inr rfl,λi J=>∃x y:L2.Slot,J = [.val (Am N S),.val (.int N),.val (.tup<|S.map BY),.own (.lst<|EN<|Aq N S i),.val (.tup ((Br S<|Aq N S i).map BY)),x,y],(_,_,rfl),?_,?_))
  ·rintro i d j l ⟨x,y,rfl⟩
   obtain⟨c,D,rfl⟩:=N7 l;rw[Ad]at D;cases z:S[i]? with
   |none=>exists 0,z,D
   |some u=>
    rw[z]at D;have D:BY u=c:=by simpa using D
    subst D;have I:=(BQ.mp z).1;obtain⟨V,X,Y,Z⟩:=W.tie u<|Be z;have O:=K6 N S i;have b:Af (N:Int) (Br S (Aq N S i)++[u]):=by
     have:=Rw W (T:=Aq N S i++[i]) (λt p=>by
      rcases CV.mp p with w|w
      ·have:=GR N S i t w;lia
      ·rw[CK]at w;lia) (by rw[Ar,DE];lia)
     rw[LJ,FO z]at this;exact this
    have L:(Br S<|Aq N S i).length=(Aq N S i).length:=by unfold Br;rw[AJ]
    have a:(Br S<|Aq N S i).map BY++[BY u]=(Br S (Aq N S i)++[u]).map BY:=by rw[BA];rfl
    refine EH rfl<|CH<|A8<|CH<|A8<|ED ?_;refine CD<|Ba<|AO<|BU<|AF<|BJ<|AF<|AD rfl<|AF<|AO<|AD rfl<|BJ<|AF<|AD rfl<|AI ((show 1<=sizeLine from #[0]),E2 ?_<|AI (DJ,AI (N,Br S (Aq N S i)++[u],?_,b,λG M=>Aa<|Co (_,rfl,?_))))
    ·rw[AJ,DE];exact Cj (small1000 #[2])
    ·rw[a];rfl
    have k:=QK (NS W i #[2]) (GP _) (u:=u) #[2] #[2] M;rw[k];by_cases hj:Fl N (Br S<|Aq N S i) u=true
    ·rw[AN hj,BI #[2]]
     have e:Aq N S (i+1)=Aq N S i:=by
      show (if Fl N (Br S<|Aq N S i) (tieD S i)=true then _ else _)=_;rw[FO z,AN hj]
     refine iteF<|CN ?_;dsimp only;rw[e];exact(_,_,rfl)
    ·rw[AK hj,BD rfl]
     have e:Aq N S (i+1)=Aq N S i++[i]:=by
      show (if Fl N (Br S<|Aq N S i) (tieD S i)=true then _ else _)=_;rw[FO z,AK hj]
     refine iteT<|Ac<|FZ rfl rfl<|AD rfl (_,_,rfl,rfl,?_,?_)
     ·unfold EN;rw[AJ];exact small1000 #[2]
     refine Ll rfl<|BJ<|AF<|AD rfl<|AI ((show 1<=sizeLine from #[0]),rfl,Zy2 ?_ ?_)
     ·rw[AJ,DE];exact Cj (small1000 #[2])
     dsimp only;rw[a,e,LJ,FO z,Zue];exact(_,_,rfl)
  ·rintro j ⟨x,y,rfl⟩
   rw[N6,AJ];exact(_,_,_,rfl)
 rintro C ⟨x,y,z,rfl⟩;exact Bk<|A3<|AF<|Ef rfl<|AI<|E6 (Or.inl rfl) q
end
def chT (T:List Nat) (k:Nat):List Int:=if k∈T then [0] else [0,1]
def crP (T:List Nat):Nat->Ak
 |0=>[[]]
 |k+1=>(crP T k).flatMap λc=>(chT T k).map λx=>c++[x]
def crL (T:List Nat):Nat->Ak
 |0=>[[]]
 |k+1=>(crL T k).map (λc=>c++[0])++if k∈T then [] else (crL T k).map λc=>c++[1]
theorem Zwi (l:Ak):(l.flatMap λc=>[c++[(0:Int)],c++[1]]).Perm (l.map (λc=>c++[0])++l.map λc=>c++[1]):=by
 induction l with
 |nil=>exact .refl _
 |cons c l ih=>
  rw[DL,Bz,Bz];refine(List.Perm.append_left _ ih).trans ?_;show ((c++[(0:Int)])::(c++[1])::(l.map (λc=>c++[0])++l.map λc=>c++[1])).Perm _;refine List.Perm.cons _ ?_;exact List.perm_middle.symm
theorem Hi (T:List Nat):∀k,(crP T k).Perm (crL T k)
 |0=>.refl _
 |k+1=>by
  have i:=Hi T k;show ((crP T k).flatMap λc=>(chT T k).map λx=>c++[x]).Perm ((crL T k).map (λc=>c++[0])++if k∈T then [] else (crL T k).map λc=>c++[1]);unfold chT;by_cases h:k∈T
  ·rw[AN h,AN h,Bj]
   have:((crP T k).flatMap λc=>[0].map λx:Int=>c++[x])=(crP T k).map λc=>c++[0]:=by
    rw[<- List.flatMap_singleton' ((crP T k).map λc=>c++[0]),List.flatMap_map];rfl
   rw[this];exact i.map _
  ·rw[AK h,AK h]
   exact(Zwi<|crP T k).trans ((i.map _).append (i.map _))
theorem GV (T:List Nat):∀k,∀c∈crP T k,c.length=k/\(∀x∈c,x=0\/x=1)/\∀i,i∈T->c.getD i 0=0
 |0,c,C=>by
  have:c=[]:=by simpa [crP] using C
  subst this;exact(rfl,λx h=>(nomatch h),λi _=>#[3])
 |k+1,c,C=>by
  obtain⟨b,B,C⟩:=EV.mp C;obtain⟨x,h,rfl⟩:=A6.mp C;obtain⟨H,a,d⟩:=GV T k b B;have X:x=0\/x=1:=by
   unfold chT at h;split at h
   ·left;simpa using h
   ·simpa using h
  refine(by rw[Ar,H];rfl,λy Y=>?_,λi I=>?_)
  ·rcases CV.mp Y with z|z
   ·exact a y z
   ·rw[CK]at z;rw[z];exact X
  ·rw[Av]
   by_cases e:i<k
   ·rw[DT #[2],<- Av];exact d i I
   ·by_cases e2:i=k
    ·subst e2
     rw[Cf #[2],H,KR];unfold chT at h;rw[AN I]at h;have:x=0:=#[9]
     rw[this];rfl
    ·rw[Ds (by rw[Ar,H];show k+1<=i;lia)];rfl
section
variable {N:Nat}{ts:AQ}(hW:Af (N:Int) ts)
include hW
theorem NU:∀i,i<=ts.length->∀j u,j<i->ts[j]?=some u->mk N (Br ts<|Aq N ts i) u.1=mk N (Br ts<|Aq N ts i) u.2
 |0,_,j,u,hj,_=>absurd hj (Dr _)
 |i+1,hi,j,u,hj,hu=>by
  have l:i<ts.length:=#[2]
  have h:=NU i #[2];have U:=hW.tie u<|Be hu;have v:ts[i]?=some ts[i]:=AZ l;have V:=hW.tie _<|B6 l;show mk N (Br ts<|Aq N ts<|i+1) u.1=_;have s:Aq N ts (i+1)=if Fl N (Br ts<|Aq N ts i) (tieD ts i)=true then Aq N ts i else Aq N ts i++[i]:=rfl
  have e:tieD ts i=ts[i]:=FO v;by_cases c:Fl N (Br ts<|Aq N ts i) (tieD ts i)=true
  ·rw[s,AN c]
   rcases ES (En hj) with z|z
   ·exact h j u z hu
   ·subst z
    exists 0,v,hu;rw[e]at c;exact of_decide_eq_true c
  ·rw[s,AK c,LJ,e]
   unfold mk;rw[Pz];have L:=Cy N<|Br ts<|Aq N ts i;rcases ES (En hj) with z|z
   ·have:=h j u z hu
    unfold mk at this;rw[Ec _ _ _ #[4],Ec _ _ _ #[4],this]
   ·subst z
    exists 0,v,hu;have m:=NG (AW N<|Br ts<|Aq N ts j) (t:=ts[j]) #[4] #[4];exact m.1.trans m.2.symm
theorem Zwd {c:List Int}(B:c∈crP (Aq N ts ts.length) ts.length):(∃s,Gr ts c s)↔c.sum=0:=by
 obtain⟨f,a,d⟩:=GV _ _ c B;constructor
 ·rintro⟨s,S⟩
  have k:Af (N:Int) (Br ts<|Aq N ts ts.length):=RL hW<|AU _;have G:∀t∈Br ts (Aq N ts ts.length),s t.1 % 2=s t.2 % 2:=λt T=>by
   obtain⟨i,H,rfl⟩:=A6.mp T;have L:=GR N ts ts.length i H;have I:ts[i]?=some ts[i]:=AZ L;have:=S i _ I;rw[d i H]at this;rw[FO I];lia
  have z:∀x∈c,x=0:=λx X=>by
   obtain⟨i,H,rfl⟩:=Jz X;have L:i<ts.length:=#[2]
   have I:ts[i]?=some ts[i]:=AZ L;have b:=hW.tie _<|B6 L;have:=S0 k (g:=λq=>s q % 2) G b.1 b.2.1 b.2.2.1 b.2.2.2<|NU hW ts.length (AU _) i _ L I;have this:s ts[i].1 % 2=s ts[i].2 % 2:=this;have q:=S i _ I;rw[Av,AZ H]at q;have q:(s ts[i].1+s ts[i].2+c[i]) % 2=0:=q;have:=a _<|B6 H;lia
  clear B f a d S
  induction c with
  |nil=>rfl
  |cons x c ih=>rw[Fq,z x B5,ih λy Y=>z y (Bl _ Y)];rfl
 ·intro hsum
  have z:∀{l:List Int},(∀x∈l,x=0\/x=1)->l.sum=0->∀x∈l,x=0:=by
   intro l
   induction l with
   |nil=>intro _ _ x X;cases X
   |cons y l ih=>
    intro hb S x X;rw[Fq]at S;have p:∀{l:List Int},(∀x∈l,x=0\/x=1)->0<=l.sum:=by
     intro l
     induction l with
     |nil=>intro _;exact Int.le_refl 0
     |cons w l ih=>intro h;rw[Fq];have:=h w B5;have:=ih λx X=>h x (Bl _ X);lia
    have Y:=hb y B5;have j:=p λx X=>hb x<|Bl _ X;rcases A5.mp X with e|e
    ·rw[e];lia
    ·exact ih (λx X=>hb x<|Bl _ X) #[2] x e
  refine(λ_=>0,λi t T=>?_);have H:=(BQ.mp T).1;rw[Av,AZ (show i<c.length by lia)];show (0+0+c[i]) % 2=0;rw[z a hsum _ (B6 _)];rfl
end
theorem P8 (h:a.Perm b):cntL a=cntL b:=by
 obtain⟨B,H⟩:∃B,∀x∈a,x<=B:=⟨a.foldr max 0,λx X=>by
  clear h
  induction a with
  |nil=>cases X
  |cons y a ih=>
   rcases A5.mp X with e|e
   ·rw[e];exact Nat.le_max_left _ _
   ·exact Bg (ih e) (Nat.le_max_right _ _)⟩
 exact Zy8 (HY H).1 (HY λx X=>H x<|h.mem_iff.mpr X).1 λi=>by rw[Qi,Qi,h.count_eq]
#check 2
theorem RN {N M:Nat}(hW:Af (N:Int) ts) (z:Af (M:Int) us) {f g:Int->Int}(hf:∀p,0<=p->p<(N:Int)->0<=f p/\f p<(M:Int)) (h2:∀u∈us,mk N ts (g u.1)=mk N ts (g u.2)) (q:∀p,0<=p->p<(N:Int)->mk N ts (g<|f p)=mk N ts p)
  (hm:BK ms (AW N ts)) (L:BK ns (AW M us)):ms.length<=ns.length:=by
 have r:∀a∈ms,0<=a/\a<(N:Int)/\mk N ts a=a:=λa h=>by
  obtain⟨H,h2,q⟩:=Iw hW ts.length (AU _) a (by rw[Bm];exact(hm.2 a).mp h);rw[Bm]at q;exact(H,h2,q)
 have n:(ms.map λa=>mk M us<|f a).Nodup:=by
  refine ET.mpr<|List.Pairwise.imp_of_mem (λ{a b} h hb hab e=>?_) hm.1;obtain⟨c,d,j⟩:=r a h;obtain⟨B,i,k⟩:=r b hb;have A:=hf a c d;have F:=hf b B i;have:=S0 z (g:=λx=>mk N ts<|g x) h2 A.1 A.2 F.1 F.2 e;have:mk N ts (g<|f a)=mk N ts (g<|f b):=this;rw[q a c d,q b B i,j,k]at this;lia
 have:=GK n (l:=ns) λx X=>by
  obtain⟨a,h,rfl⟩:=A6.mp X;obtain⟨c,d,_⟩:=r a h;have A:=hf a c d;exact(L.2 _).mpr (OV A.1 A.2)
 rwa [AJ]at this
end
def CI (N:Nat) (ts:AQ):Nat:=ts.length-(Aq N ts ts.length).length
def freL (T:List Nat) (k:Nat):List Nat:=(AV k).filter λi=>decide<|i ∉ T
theorem NY (T:List Nat) (k:Nat):freL T (k+1)=freL T k++if k∈T then [] else [k]:=by
 unfold freL;rw[GF,Em];congr 1;by_cases h:k∈T
 ·rw[AN h,IE (by simp[h])];rfl
 ·rw[AK h,ID (by simp[h])];rfl
theorem Zq5 (T:List Nat) (h:j<=k):(freL T j).length<=(freL T k).length:=by
 induction h with
 |refl=>exact AU _
 |@step m _ ih=>rw[NY,Ar];lia
theorem Hj (T:List Nat):∀k,(crL T k).length=2 ^ (freL T k).length
 |0=>rfl
 |k+1=>by
  rw[NY];show ((crL T k).map (λc=>c++[0])++if k∈T then [] else (crL T k).map λc=>c++[1]).length=_;by_cases h:k∈T
  ·rw[AN h,AN h,Bj,Bj,AJ,Hj T k]
  ·rw[AK h,AK h,Ar,AJ,AJ,Hj T k,Ar,DE,KS]
   lia
theorem Ra (T:List Nat) (k:Nat):(crP T k).length=2 ^ (freL T k).length:=by rw[(Hi T k).length_eq,Hj]
theorem RF (N:Nat) (ts:AQ):∀i,(freL (Aq N ts i) i).length+(Aq N ts i).length=i
 |0=>rfl
 |i+1=>by
  have H:=RF N ts i;have n:i ∉ Aq N ts i:=λh=>absurd (GR N ts i i h)<|EZ _;rw[NY];unfold Aq;split
  ·rw[Ar,DE];lia
  ·have e:freL (Aq N ts i++[i]) i=freL (Aq N ts i) i:=by
    unfold freL;refine De λx X=>?_;have X:=BB.mp X;have:x≠i:=#[2]
    simp[this]
   rw[AN (Ce _<|CK.mpr rfl),Bj,e,Ar,DE];lia
theorem QX (N:Nat) (ts:AQ):(freL (Aq N ts ts.length) ts.length).length=CI N ts:=by
 have:=RF N ts ts.length;unfold CI;lia
theorem Qk {N:Nat}(hW:Af (N:Int) ts) (hm:BK ms (AW N ts)):(ts.length:Int)-(N:Int)+(ms.length:Int)=(CI N ts:Nat):=by
 have k:=RL hW<|AU ts.length;obtain⟨s,n⟩:=GP<|AW N<|Br ts<|Aq N ts ts.length;have r:=NS hW ts.length (AU _) s n;have L:=K6 N ts ts.length;have K:(Br ts<|Aq N ts ts.length).length=(Aq N ts ts.length).length:=by unfold Br;rw[AJ]
 have a:=RN (f:=id) (g:=id) hW k (λp P c=>(P,c)) (λu h=>by
  obtain⟨t,T,rfl⟩:=A6.mp h;have l:=GR N ts ts.length t T;refine Tj hW ?_;rw[FO (AZ l)];exact B6 l) (λp _ _=>rfl) hm n
 have b:=RN (f:=id) (g:=id) k hW (λp P c=>(P,c)) (λu h=>by
  obtain⟨i,I,rfl⟩:=IQ.mp h;exact NU hW ts.length (AU _) i _ I (AZ I)) (λp _ _=>rfl) n hm
 unfold CI;lia
noncomputable def lkN (N:Nat) (ts:AQ) (ms:List Int) (c:List Int) (o:Ak):Nat:=(F8 (N:Int) ts o c ms).toNat
noncomputable def two1 (N:Nat) (ts:AQ) (ms:List Int) (os:List (List<|List Int)) (c:List Int):List Nat:=if c.sum=0 then os.map λo=>lkN N ts ms c o / 2 else []
noncomputable def one1 (N:Nat) (ts:AQ) (ms:List Int) (os:List (List<|List Int)) (c:List Int):List Nat:=if c.sum=0 then [] else os.map λo=>lkN N ts ms c o
noncomputable def twoL (N:Nat) (ts:AQ) (ms:List Int) (C:Ak):List Nat:=C.flatMap<|two1 N ts ms<|Bf N ts
noncomputable def oneL (N:Nat) (ts:AQ) (ms:List Int) (C:Ak):List Nat:=C.flatMap<|one1 N ts ms<|Bf N ts
theorem K8 {α β:Type}{C:List α}{f:α -> List β}{c:α}(z:C[i]?=some c):(C.take<|i+1).flatMap f=(C.take i).flatMap f++f c:=by
 rw[Cu,z,FE];simp
theorem Q9 (N:Nat) (ts:AQ) (ms:List Int):∀C:Ak,(twoL N ts ms C).length+(oneL N ts ms C).length=C.length*ways N ts
 |[]=>by simp[twoL,oneL]
 |c::C=>by
  have h:=Q9 N ts ms C;unfold twoL oneL at h ⊢;rw[DL,DL,Ar,Ar,BH,KQ];have:(two1 N ts ms (Bf N ts) c).length+(one1 N ts ms (Bf N ts) c).length=ways N ts:=by
   unfold two1 one1;split
   ·rw[AJ,Iy];rfl
   ·rw[AJ,Iy,Dq,HD]
  lia
section
variable {N:Nat}{ts:AQ}(hW:Af (N:Int) ts) {ms:List Int}(hm:BK ms (AW N ts))
include hW hm
theorem Lx {o:Ak}{c:List Int}(hO:BG (N:Int) ts o) (j:CrOk ts c):F8 (N:Int) ts o c ms=(lkN N ts ms c o:Nat)/\lkN N ts ms c o<=49:=by
 have p:=Zvr hW hO j hm;have e:F8 (N:Int) ts o c ms=2*(ms.length:Int)-(N:Int)+(ts.length:Int)-((allC ts o c).length:Int):=rfl;have l:=hm.len;have k:=Cy N ts;have h:=hW.hi;have H:=hW.len;unfold lkN;lia
theorem OB {c:List Int}(j:CrOk ts c) {os:List (List<|List Int)}(hO:∀o∈os,BG (N:Int) ts o):(∀h∈two1 N ts ms os c,h<=49)/\∀h∈one1 N ts ms os c,h<=49:=by
 unfold two1 one1;constructor
 ·intro h hh
  split at hh
  ·obtain⟨o,O,rfl⟩:=A6.mp hh
   have:=(Lx hW hm (hO o O) j).2;lia
  ·cases hh
 ·intro h hh
  split at hh
  ·cases hh
  ·obtain⟨o,O,rfl⟩:=A6.mp hh
   exact(Lx hW hm (hO o O) j).2
theorem R5 {C:Ak}(j:∀c∈C,CrOk ts c):(∀h∈twoL N ts ms C,h<=49)/\∀h∈oneL N ts ms C,h<=49:=by
 constructor
 ·intro h H
  obtain⟨c,a,H⟩:=EV.mp H;exact(OB hW hm (j c a) HQ).1 h H
 ·intro h H
  obtain⟨c,a,H⟩:=EV.mp H;exact(OB hW hm (j c a) HQ).2 h H
end
theorem Ta:∀c∈crP T ts.length,CrOk ts c:=λc h=>((GV T _ c h).1,(GV T _ c h).2.1)
theorem Vp:∀c∈crL T ts.length,CrOk ts c:=λc h=>Ta c ((Hi T _).mem_iff.mpr h)
theorem Zvx (N:Nat) (ts:AQ) (ms:List Int) (h:C.Perm C'):cntL (twoL N ts ms C)=cntL (twoL N ts ms C')/\cntL (oneL N ts ms C)=cntL (oneL N ts ms C'):=
 (P8<|List.Perm.flatMap_right _ h,P8<|List.Perm.flatMap_right _ h)
theorem QA (l:List Nat) (h:Nat):cntL (l++[h])=cnt1 (cntL l) h:=by
 unfold cntL;rw[KY];rfl
def fCM:DSp:=λs t=>∃(N:Nat) (ts:AQ),s=[Am (N:Int) ts]/\Af (N:Int) ts/\ways N ts<=960/\t (.int (ways N ts*2 ^ CI N ts:Nat))
def fCrs:DSp:=λs t=>∃(N:Nat) (ts:AQ),s=[Am (N:Int) ts]/\Af (N:Int) ts/\2 ^ CI N ts<=960/\t (.lst ((crP (Aq N ts ts.length) ts.length).map AX))
def fCC:L2.QSp:=λs t=>∃(N:Nat) (ts:AQ),s=[Am (N:Int) ts]/\Af (N:Int) ts/\ways N ts*2 ^ CI N ts<=960/\∀ms,BK ms (AW N ts)->t (cntL<|twoL N ts ms<|crP (Aq N ts ts.length) ts.length) (cntL<|oneL N ts ms<|crP (Aq N ts ts.length) ts.length)
theorem R1 (N:Nat) (ts:AQ):CI N ts<=ts.length:=by unfold CI;omega
theorem TF (j:k<=ts.length) (h:2 ^ CI N ts<=960):2 ^ (freL (Aq N ts ts.length) k).length<=960:=by
 refine Bg (Nat.pow_le_pow_right #[0] ?_) h;rw[<- QX];exact Zq5 _ j
def natI (T:List Nat):List Int:=T.map λt:Nat=>(t:Int)
theorem TM (T:List Nat):EN T=(natI T).map .int:=by unfold EN natI;rw[BS];rfl
theorem JJ {i:Nat}:(i:Int)∈natI T↔i∈T:=by
 unfold natI;rw[A6];constructor
 ·rintro⟨t,H,e⟩
  rw[show i=t by lia];exact H
 ·intro h;exact(i,h,rfl)
theorem Nt (c:List Int) (x:Int):D.tup (c.map .int++[.int x])=AX (c++[x]):=by
 unfold AX;rw[BA];rfl
#check 2
theorem WG (L:Mb mg) (z:Callee P w K mg base 3 "orders_many" ["web"] (spD K fOm)) (B:Callee P w K mg base 2 "rank_of" ["web"] (spD K fRank)) (F:BE K "crossed_many" "crossed_many" Mt f fd):FnOk P w K mg base CX0 4 f fd ["web"] (spD K fCM):=by
 refine F.ok Kx (B2 λS o h=>#[8]) λv A e s H V Q E r h=>?_;have u:=Bb r;refine(_,(AR (Aj (i:=1) Kx.nd rfl (Or.inl rfl)<|An z (r.mono #[0])<|AA (pv 0) AE)<|AR (Bv PassesOwn.never rfl (CP rfl (L "range" #[0])<|AA (An B (r.mono #[0])<|AA (pv 0) AE) AE) (Ao (i:=2) Kx.nd rfl<|Or.inl rfl)<|AY<|Lq (i:=1) Kx.nd rfl (Or.inl rfl) AG OY)<|AY<|BF<|pv 1),B3 (λS o a=>?_) h);obtain⟨N,t,rfl,W,b,q⟩:=a;sleep 0;have T:=W.len;have R:=R1 N t;refine Ac<|Aw<|BU<|AF<|AD rfl<|AI (N,t,rfl,W,b,?_);refine Bh (λJ=>∃x:L2.Slot,J = [.val (Am (N:Int) t),.val (.int (ways N t*2 ^ CI N t:Nat)),x]) ?_ ?_
 ·refine Bx (CQ<|AF<|BU<|AF<|AD rfl<|AI (N,t,rfl,W,λM m=>?_))
  rw[Qk W m];refine AI (_,rfl,#[2],#[2],λi J=>∃x:L2.Slot,J = [.val (Am (N:Int) t),.val (.int (ways N t*2 ^ i:Nat)),x],(_,by rw[Nat.pow_zero,Nat.mul_one];rfl),?_,?_)
  ·rintro i d j D ⟨x,rfl⟩
   obtain⟨I,rfl⟩:=B9 D;refine A8<|Ll rfl<|Aa (rfl,OU (Or.inr (#[2],#[2])) (.val (.int (0+(i:Int))),?_));rw[KS,<- Nat.mul_assoc,IK _ 2];rfl
  ·rintro j ⟨x,rfl⟩
   rw[CC,BO];exact(x,rfl)
 rintro c ⟨x,rfl⟩;exact Bk<|AD rfl q
theorem Vx (mb:Mb mg) (a2:Callee P w K mg base 3 "first_tree" ["web"] (spD K fTree)) (F:BE K "all_crossings" "all_crossings" Kk f fd):FnOk P w K mg base CX0 4 f fd ["web"] (spD K fCrs):=by
 refine F.ok HI (B2 λS o h=>#[8]) λv A r s H vs Q E R h=>?_;have u:=Bb R;refine(_,(AR (Aj (i:=1) HI.nd rfl (Or.inl rfl)<|An a2 (R.mono #[0])<|AA (pv 0) AE)<|AR (Aj (i:=2) HI.nd rfl (Or.inl rfl) (@CG _ _ _ _ (@AA _ _ _ _ _ (@Ab _ _ _ _ _ AE) AE (@BC _ _ _ _ _))))<|AR (Bv PassesOwn.never rfl (CP rfl (mb "range" #[0])<|AA (A0 (lenK K) rfl (mb "len" #[0]) Bi<|AA (Ag (ixK K u) (pv 0) AG λ_ _=>rfl) AE) AE) (Ao (i:=3) HI.nd rfl<|Or.inl rfl)<|AR (Aj (i:=4) HI.nd rfl (Or.inr rfl)<|Ng (BW (inK K u) (pv 3) (pv 1) rfl) (@Ab _ _ _ _ _<|AA AG AE) (@Ab _ _ _ _ _ (@AA _ _ _ _ _ AG (@AA _ _ _ _ _ AG AE (@Ah _ _ _ _ _)) (@Ah _ _ _ _ _))))<|AY<|Qh (i:=2) HI.nd rfl (Or.inl rfl) ["crossings","choice"] (show CompSc (defScope Kk) ["web","tree","told","tie","choices"] _ ["choices"] [4] from (rfl,#[1],#[1],#[1],rfl,#[1])) rfl (seqK K<|pv 2) (λ_ _ _ _ _=>(Ao (i:=0) (show List.Nodup (["crossings","choice","choices"]:List Str) from #[0]) rfl<|Or.inl rfl)) (λ_ _ _ _ _=>(seqK K<|pv 2)) (λ_ _ _ _ _=>(Ao (i:=1) (show List.Nodup (["crossings","choice","choices"]:List Str) from #[0]) rfl<|Or.inl rfl)) λ_ _ _ _ _=>(Ae (addK K) (pv 0)<|Ab<|AA (pv 1) AE))<|AY<|BF<|pv 2),B3 (λS o C=>?_) h);obtain⟨N,t,rfl,W,X,q⟩:=C;sleep 0;have V:=W.len;refine Ac<|Aw<|BU<|AF<|AD rfl<|AI (N,t,rfl,W,?_);have p:=λk (hk:k<=t.length)=>TF (N:=N) hk X;generalize Aq N t t.length=T at p q ⊢;refine Ac<|Aw<|Ge<|AF<|BJ<|AI (#[0],AI (#[7],?_));refine Bh (λJ=>∃x y:L2.Slot,J = [.val (Am (N:Int) t),.val (.tup<|EN T),.val (.lst ((crP T t.length).map AX)),x,y]) ?_ ?_
 ·refine Bx (CQ<|AF<|CA (Jh<|DX rfl<|Hl (N:Int) t) ?_)
  rw[AJ];refine AI (_,rfl,#[2],#[2],λi J=>∃x y:L2.Slot,J = [.val (Am (N:Int) t),.val (.tup<|EN T),.val (.lst ((crP T i).map AX)),x,y],(_,_,rfl),?_,?_)
  ·rintro i d b D ⟨x,y,rfl⟩
   obtain⟨I,rfl⟩:=B9 D;have I:i<t.length:=by simpa using I
   rw[B0,TM];have G:((crP T i).length:Nat)<=960:=by rw[Ra];exact p i #[2]
   have M:((crP T<|i+1).length:Nat)<=960:=by rw[Ra];exact p (i+1) #[2]
   refine A8<|Bh (λJ=>J = [.val (Am (N:Int) t),.val (.tup ((natI T).map .int)),.val (.lst ((crP T i).map AX)),.val (.int (i:Int)),.val (.tup ((chT T i).map .int))]) ?_ ?_
   ·refine Aw (Nq<|Ba<|AO<|AD rfl<|AD rfl<|Oa (_,rfl,?_))
    show if decide ((i:Int)∈natI T)=true then _ else _
    by_cases hT:i∈T
    ·rw[AN (BD<|JJ.mpr hT)]
     refine BJ<|AF<|Aa<|AI (#[7],?_);unfold chT;rw[AN hT];rfl
    ·rw[AK (by rw[decide_eq_true_eq];exact λz=>hT<|JJ.mp z)]
     refine BJ<|AF<|Aa<|AF<|Aa<|AI (E5,?_);unfold chT;rw[AK hT];rfl
   rintro Z rfl;refine Aw<|Cz<|QY<|Cn<|AD rfl (_,Or.inl rfl,λj h=>?_,λj O J=>O=.lst ((((crP T i).take j).flatMap λc=>(chT T i).map λx=>c++[x]).map AX)/\∃x y:L2.Slot,J = [x,y,.val (.tup ((chT T i).map .int))],(rfl,_,_,rfl),?_,?_)
   ·rw[CK]at h;subst h;exact(_,rfl)
   ·rintro j d O b D ⟨rfl,x,y,rfl⟩
    rw[Ad]at D;cases za:(crP T i)[j]? with
    |none=>exists 0,za,D
    |some c=>
     exists 0,za,D;have L:=(GV T i c<|Be za).1;refine A8<|FW<|AD rfl (_,rfl,λl O J=>O=.lst ((((crP T i).take j).flatMap λc=>(chT T i).map λx=>c++[x]).map AX++((chT T i).take l).map λx=>AX<|c++[x])/\∃y:L2.Slot,J = [.val (AX c),y,.val (.tup ((chT T i).map .int))],(by rw[EY,Gz,Bj],_,rfl),?_,?_)
     ·rintro l e g m a ⟨rfl,y,rfl⟩
      rw[Ad]at a;cases zr:(chT T i)[l]? with
      |none=>exists 0,zr,a
      |some x=>
       exists 0,zr,a;have U:=(BQ.mp zr).1;refine A8<|Ti<|AO<|AD rfl<|BJ<|AF<|AD rfl<|AI (#[7],E2 ?_ (?_,?_,_,rfl))
       ·rw[AJ]
        exact Cj<|small1000 (by show c.length+1<=1000;lia)
       ·have n:=(GC (j+1)<|crP T i)
        have B:(crP T<|i+1).length=((((crP T i).take (j+1)).flatMap λc=>(chT T i).map λx=>c++[x])).length+(((crP T i).drop (j+1)).flatMap λc=>(chT T i).map λx=>c++[x]).length:=by
         rw[<- Ar,<- FE,n];rfl
        rw[K8 za,Ar,AJ]at B;rw[Ar,AJ,AJ,Bo];exact small1000 #[2]
       ·rw[DM]
        congr 2;rw[Cu,zr,BA];show _=_++[AX (c++[x])];rw[<- Nt]
     ·rintro g m ⟨rfl,y,rfl⟩
      rw[AJ,Bm];refine(?_,_,_,rfl);rw[K8 za,BA,BS];rfl
   rintro O b ⟨rfl,x,y,rfl⟩;rw[AJ,Bm];exact(_,rfl,_,_,rfl)
  ·rintro b ⟨x,y,rfl⟩
   rw[CC,BO];exact(x,y,rfl)
 rintro Y ⟨x,y,rfl⟩;exact Bk<|AD rfl q
end
section
variable {N:Nat}{ts:AQ}{ms:List Int}{C:Ak}{i:Nat}{c:List Int}
theorem HR (ms:List Int) (c:List Int) (h:c.sum≠0) (os:List (List<|List Int)):two1 N ts ms os c=[]/\one1 N ts ms os c=os.map λo=>lkN N ts ms c o:=by
 unfold two1 one1;rw[AK h,AK h];exact(rfl,rfl)
theorem Hd (ms:List Int) (c:List Int) (h:c.sum=0) (os:List (List<|List Int)):two1 N ts ms os c=(os.map λo=>lkN N ts ms c o / 2)/\one1 N ts ms os c=[]:=by
 unfold two1 one1;rw[AN h,AN h];exact(rfl,rfl)
noncomputable def Cp (N:Nat) (ts:AQ) (ms:List Int) (C:Ak) (i:Nat) (c:List Int) (j:Nat):List Int:=cntL<|twoL N ts ms (C.take i)++two1 N ts ms ((Bf N ts).take j) c
noncomputable def Cs (N:Nat) (ts:AQ) (ms:List Int) (C:Ak) (i:Nat) (c:List Int) (j:Nat):List Int:=cntL<|oneL N ts ms (C.take i)++one1 N ts ms ((Bf N ts).take j) c
theorem LA (N:Nat) (ts:AQ) (ms:List Int) (C:Ak) (i:Nat) (c:List Int):Cp N ts ms C i c 0=cntL (twoL N ts ms<|C.take i)/\Cs N ts ms C i c 0=cntL (oneL N ts ms<|C.take i):=by
 unfold Cp Cs two1 one1;rw[EY];constructor <;> split <;> simp
theorem LN (z:C[i]?=some c):Cp N ts ms C i c (Bf N ts).length=cntL (twoL N ts ms<|C.take<|i+1)/\Cs N ts ms C i c (Bf N ts).length=cntL (oneL N ts ms<|C.take<|i+1):=by
 unfold Cp Cs twoL oneL;rw[Bm,K8 z,K8 z];exact(rfl,rfl)
theorem P9 (z:(Bf N ts)[j]?=some o) (h:c.sum=0):Cp N ts ms C i c (j+1)=cnt1 (Cp N ts ms C i c j) (lkN N ts ms c o / 2)/\Cs N ts ms C i c (j+1)=Cs N ts ms C i c j:=by
 unfold Cp Cs;rw[(Hd ms c h _).1,(Hd ms c h _).2,(Hd ms c h _).1,(Hd ms c h _).2,Cu,z,BA,<- DM];exact(QA _ _,rfl)
theorem QL (z:(Bf N ts)[j]?=some o) (h:c.sum≠0):Cs N ts ms C i c (j+1)=cnt1 (Cs N ts ms C i c j) (lkN N ts ms c o)/\Cp N ts ms C i c (j+1)=Cp N ts ms C i c j:=by
 unfold Cp Cs;rw[(HR ms c h _).1,(HR ms c h _).2,(HR ms c h _).1,(HR ms c h _).2,Cu,z,BA,<- DM];exact(QA _ _,rfl)
theorem Tf (hW:Af (N:Int) ts) (hm:BK ms (AW N ts)) (q:∀c∈C,CrOk ts c) (B:CrOk ts c) (j:Nat):(Cp N ts ms C i c j).length<=50/\(Cs N ts ms C i c j).length<=50:=by
 have t:∀c∈C.take i,CrOk ts c:=λc h=>q c<|KJ h;have a:=R5 hW hm t;have b:=OB hW hm B (os:=(Bf N ts).take j) λo O=>HQ o<|KJ O;unfold Cp Cs;refine((HY λh H=>?_).2.2,(HY λh H=>?_).2.2)
 ·rcases CV.mp H with z|z
  ·exact a.1 h z
  ·exact b.1 h z
 ·rcases CV.mp H with z|z
  ·exact a.2 h z
  ·exact b.2 h z
end
noncomputable def ccS (N:Nat) (ts:AQ) (u v:List Int) (j q z B:L2.Slot):AM:=[.val (Am (N:Int) ts),.val (.lst ((Bf N ts).map BL)),.own (.lst<|u.map .int),.own (.lst<|v.map .int),j,q,z,B]
#check 2
theorem Vy (mb:Mb mg) (a2:mg "MOST_FLOORS" = some (.int 960 tk)) (a6:Callee P w K mg base 4 "crossed_many" ["web"] (spD K fCM)) (a5:Callee P w K mg base 3 "all_orders" ["web"] (spD K fAllO)) (a4:Callee P w K mg base 4 "all_crossings" ["web"] (spD K fCrs)) (a8:Callee P w K mg base 3 "sides" ["web","crossings"] (spD K fSides)) (a7:Callee P w K mg base 6 "lack" ["web","order","crossings"] (spD K fLk)) (a3:Callee P w K mg base 1 "count_one" ["told","number"] (spB K fCnt)) (F:BE K "crossed_counts" "crossed_counts" Ms f fd):FnOk P w K mg base CX0 7 f fd ["web"] (L2.spQ K fCC):=by
 refine F.ok Fv (UQ λds T h=>#[8]) λa0 A U s H vs Q E R h=>?_;have hu:=Bb R;refine(_,(AR (CF (BW F7 (An a6 (R.mono #[0])<|AA (pv 0) AE) (UR rfl a2 (show RelV (.int 960) _ from (_,rfl)))<|nomark _) Ztv CM)<|AR (Aj (i:=1) Fv.nd rfl (Or.inl rfl)<|An a5 (R.mono #[0])<|AA (pv 0) AE)<|AR (Aj (i:=2) Fv.nd rfl (Or.inl rfl)<|CG AE)<|AR (Aj (i:=3) Fv.nd rfl (Or.inl rfl)<|CG AE)<|AR (Bv PassesOwn.never rfl (seqK K<|An a4 (R.mono #[0])<|AA (pv 0) AE) (Ao (i:=4) Fv.nd rfl<|Or.inl rfl)<|AR (Aj (i:=5) Fv.nd rfl (Or.inl rfl)<|Ag (ixK K hu) (An a8 (R.mono #[0])<|AA (pv 0)<|AA (pv 4) AE) AG λ_ _=>rfl)<|AY<|Bv PassesOwn.never rfl (seqK K<|pv 1) (Ao (i:=6) Fv.nd rfl<|Or.inl rfl)<|AR (Aj (i:=7) Fv.nd rfl (Or.inl rfl)<|An a7 (R.mono #[0])<|AA (pv 0)<|AA (pv 6)<|AA (pv 4) AE)<|AY<|CF (BW CY (pv 5) OH<|nomark _) (AY<|CW<|An a3 (R.mono #[0])<|AA (pv 2)<|AA (Ae GZ (pv 7) AG) AE)<|AY<|CW<|An a3 (R.mono #[0])<|AA (pv 3)<|AA (pv 7) AE)<|AY<|BF<|Ab<|AA (pv 2)<|AA (pv 3) AE),WH (λds T hf=>?_) h);obtain⟨N,t,rfl,W,hw,q⟩:=hf;sleep 0;have hp:1<=2 ^ CI N t:=Nat.one_le_two_pow;have O:1<=ways N t:=JW (FP t) N;have u:ways N t<=960:=Bg (IF _ hp) hw;have G:2 ^ CI N t<=960:=Bg (KI _ O) hw;obtain⟨ms,M⟩:=GP<|AW N t;have q:=q ms M;obtain⟨I,y⟩:=Nb W M;have l:∀m,BK m (AW N t)->D1 N t m=D1 N t ms:=λm h=>by rw[h.uniq M]
 generalize D1 N t ms=dd at I y l;have L:N<=dd.length:=#[4]
 have Z:∀{c},c∈crP (Aq N t t.length) t.length->((∃s,Gr t c s)↔c.sum=0):=λn=>Zwd W n;have k:∀c∈crP (Aq N t t.length) t.length,CrOk t c:=Ta;refine JK<|CD<|Ba<|AO<|BU<|AF<|AD rfl<|AI (N,t,rfl,W,u,Aa<|EK (_,rfl,?_));rw[BI #[2]];refine iteF<|CN ?_;refine JK<|Aw<|BU<|AF<|AD rfl<|AI (N,t,rfl,W,u,?_);refine JK<|Cw<|Fb<|AI (#[0],?_);refine JK<|Cw<|Fb<|AI (#[0],?_);refine Zv8 (λJ=>∃b e x X:L2.Slot,J = ccS N t (cntL<|twoL N t ms<|crP (Aq N t t.length) t.length) (cntL<|oneL N t ms<|crP (Aq N t t.length) t.length) b e x X) ?_ ?_
 ·refine Bx (Cn<|BU<|AF<|AD rfl<|AI (N,t,rfl,W,G,?_))
  generalize crP (Aq N t t.length) t.length=C at Z k;refine(_,Or.inl rfl,λi J=>∃b e x X:L2.Slot,J = ccS N t (cntL<|twoL N t ms<|C.take i) (cntL<|oneL N t ms<|C.take i) b e x X,(_,_,_,_,rfl),?_,?_)
  ·rintro i d J2 a ⟨b,e,x,X,rfl⟩
   rw[Ad]at a;cases zc:C[i]? with
   |none=>exists 0,zc,a
   |some c=>
    exists 0,zc,a;have n:=Be zc;have g:=k c n;refine A8<|Ac<|Aw<|AO<|BU<|AF<|AD rfl<|AF<|AD rfl<|AI (N,t,c,rfl,W,g,λS B=>?_);rw[l S B];obtain⟨r,er⟩:=Zqp W g I L;rw[er];refine Aa<|Bc (d:=.str<|Fj t c) rfl ?_;refine Bx<|Cn<|AD rfl (_,Or.inl rfl,λj J=>∃x X:L2.Slot,J = ccS N t (Cp N t ms C i c j) (Cs N t ms C i c j) (.val<|AX c) (.val (.str<|Fj t c)) x X,(x,X,?_),?_,?_)
    ·rw[(LA N t ms C i c).1,(LA N t ms C i c).2];rfl
    ·rintro j d J3 a ⟨x,X,rfl⟩
     rw[Ad]at a;cases zo:(Bf N t)[j]? with
     |none=>exists 0,zo,a
     |some o=>
      exists 0,zo,a;have hO:=HQ o<|Be zo;obtain⟨el,ll⟩:=Lx W M hO g;obtain⟨l1,l2⟩:=Tf (i:=i) W M k g j;refine A8<|Ac<|Aw<|BU<|AF<|AD rfl<|AF<|AD rfl<|AF<|AD rfl<|AI ((N:Int),t,o,c,rfl,W,hO,g,λm p=>?_);rw[BO]at p;rw[p.uniq M,el];refine CD<|Ba<|AO<|AD rfl<|OQ<|Zzs (_,rfl,?_);by_cases hs:c.sum=0
      ·have v:Fj t c = "two":=by unfold Fj;rw[AN ((Z n).mpr hs)]
       rw[v,BD rfl];obtain⟨V,Y⟩:=P9 (ms:=ms) (C:=C) (i:=i) zo hs;refine iteT<|Lc<|E8 rfl rfl<|AF<|AO<|AD rfl<|Aa<|jr_I (#[0],#[0])<|AI (_,_,rfl,rfl,_,lkN N t ms c o / 2,rfl,?_,#[2],#[2],?_)
       ·show [D.int ((lkN N t ms c o:Nat) / 2:Int)]=_
        rw[Int.natCast_ediv];rfl
       ·show ∃x X:L2.Slot,_=ccS N t (Cp N t ms C i c<|j+1) (Cs N t ms C i c<|j+1) _ _ x X
        rw[V,Y];exact(_,_,rfl)
      ·have v:Fj t c = "one":=by unfold Fj;rw[AK λz=>hs ((Z n).mp z)]
       rw[v,BI #[0]];obtain⟨V,Y⟩:=QL (ms:=ms) (C:=C) (i:=i) zo hs;refine iteF<|Lc<|E8 rfl rfl<|AF<|AD rfl<|AI (_,_,rfl,rfl,_,lkN N t ms c o,rfl,rfl,#[2],#[2],?_);show ∃x X:L2.Slot,_=ccS N t (Cp N t ms C i c<|j+1) (Cs N t ms C i c<|j+1) _ _ x X;rw[V,Y];exact(_,_,rfl)
    ·rintro J3 ⟨x,X,rfl⟩
     rw[AJ,(LN zc).1,(LN zc).2];exact(_,_,_,_,rfl)
  ·rintro J2 ⟨b,e,x,X,rfl⟩
   rw[AJ,Bm];exact(_,_,_,_,rfl)
 rintro J1 ⟨b,e,x,X,rfl⟩;exact Zvy rfl rfl #[0] q
end
def fLCM:DSp:=λs t=>∃(N:Nat) (ts:AQ),s=[Am (N:Int) ts]/\Af (N:Int) ts/\t (.int (ways N ts*2 ^ CI N ts:Nat))
def fFew:BSp:=λp s t=>DP p/\s=[]/\∀(N:Nat) (ts:AQ) ps',DP ps' -> Af (N:Int) ts->ways N ts*2 ^ CI N ts<=960->t (Am (N:Int) ts) ps'
def fLCrs:DSp:=λs t=>∃(N:Nat) (ts:AQ) (T:List Nat),s=[Am (N:Int) ts,.lst ((natI<|freL T ts.length).map .int)]/\ts.length<=25/\(∀k,k<=ts.length->2 ^ (freL T k).length<=960)/\t (.lst ((crL T ts.length).map AX))
def b1:AQ:=[(0,0),(0,0),(0,0)]
def b2:AQ:=[(0,0),(0,1),(0,0),(1,0)]
theorem VR (h0:0<=r) (h1:r<2):∃(N:Nat) (ts:AQ),atI [Am 1 b1,Am 2 b2] r=some (Am (N:Int) ts)/\Af (N:Int) ts/\ways N ts*2 ^ CI N ts<=960:=by
 have:r=0\/r=1:=#[2]
 rcases this with rfl|rfl
 ·exact(1,b1,rfl,(#[0],#[0],#[0],#[0]),#[0])
 ·exact(2,b2,rfl,(#[0],#[0],#[0],#[0]),#[0])
theorem Rq (hi:i<k):i∈freL T k↔i ∉ T:=by
 unfold freL;rw[CB,BB,decide_eq_true_eq];exact(λh=>h.2,λh=>(hi,h))
#check 2
theorem Vc (L:Mb mg) (B:Callee P w K mg base 2 "_law_ways" ["_law_web"] (spD K fWays)) (z:Callee P w K mg base 1 "_law_parts" ["_law_web"] (spN K L7)) (F:BE K "_law_crossed_many" "_law_crossed_many" MV f fd):FnOk P w K mg base CX0 3 f fd ["_law_web"] (spD K fLCM):=by
 refine F.ok Kz (B2 λS o h=>#[8]) λv A e s H V Q E r h=>?_;have u:=Bb r;refine(_,(AR (Aj (i:=1) Kz.nd rfl (Or.inl rfl)<|An B (r.mono #[0])<|AA (pv 0) AE)<|AR (Bv PassesOwn.never rfl (CP rfl (L "range" #[0])<|AA (Ae (addK K) (Ae Di (A0 (lenK K) rfl (L "len" #[0]) Bi<|AA (Ag (ixK K u) (pv 0) AG λ_ _=>rfl) AE)<|Ag (ixK K u) (pv 0) AG λ_ _=>rfl)<|A0 (lenK K) rfl (L "len" #[0]) Bi<|AA (An z (r.mono #[0])<|AA (pv 0) AE) AE) AE) (Ao (i:=2) Kz.nd rfl<|Or.inl rfl)<|AY<|Aj (i:=1) Kz.nd rfl (Or.inl rfl)<|Ae DO (pv 1) AG)<|AY<|BF<|pv 1),B3 (λS o a=>?_) h);obtain⟨N,t,rfl,W,q⟩:=a;sleep 0;have T:=W.len;have n:=W.hi;have R:=R1 N t;refine Ac<|Aw<|BU<|AF<|AD rfl<|AI (N,t,_,rfl,Or.inr rfl,#[2],#[2],?_);refine Bh (λJ=>∃x:L2.Slot,J = [.val (Am (N:Int) t),.val (.int (ways N t*2 ^ CI N t:Nat)),x]) ?_ ?_
 ·refine Bx (CQ<|AF<|AO<|AO<|CA (Jh<|DX rfl<|Hl (N:Int) t)<|CA (DX (d:=.int (N:Int)) rfl rfl)<|DA<|A3<|AF<|Cz<|EF<|AF<|AD rfl<|AI (N,t,_,rfl,Or.inl rfl,W,λm M=>(_,rfl,AI<|B7 (Or.inl rfl)<|EB ?_)))
  rw[AJ,AJ,show (DB N t m).length=m.length from AJ _,Qk W M];refine AI (_,rfl,#[4],#[4],λi J=>∃x:L2.Slot,J = [.val (Am (N:Int) t),.val (.int (ways N t*2 ^ i:Nat)),x],(_,by rw[Nat.pow_zero,Nat.mul_one];rfl),?_,?_)
  ·rintro i d j D ⟨x,rfl⟩
   obtain⟨I,rfl⟩:=B9 D;refine A8<|Aw<|AO<|AD rfl<|Aa<|jr_I (Or.inr (#[0],#[0])) (.val (.int (0+(i:Int))),?_);rw[KS,<- Nat.mul_assoc,IK _ 2];rfl
  ·rintro j ⟨x,rfl⟩
   rw[CC,BO];exact(x,rfl)
 rintro b ⟨x,rfl⟩;exact Bk<|AD rfl q
theorem Zz4 (O:Mb mg) (F:BE K "_law_all_crossings" "_law_all_crossings" Ij f fd):FnOk P w K mg base CX0 1 f fd ["_law_web","_law_free"] (spD K fLCrs):=by
 refine F.ok Io (B2 λb o h=>#[6]) λv A r s H V Q E R h=>?_;have u:=Bb R;refine(_,(AR (Aj (i:=2) Io.nd rfl (Or.inl rfl) (@CG _ _ _ _ (@AA _ _ _ _ _ (@Ab _ _ _ _ _ AE) AE (@BC _ _ _ _ _))))<|AR (Bv PassesOwn.never rfl (CP rfl (O "range" #[0])<|AA (A0 (lenK K) rfl (O "len" #[0]) Bi<|AA (Ag (ixK K u) (pv 0) AG λ_ _=>rfl) AE) AE) (Ao (i:=3) Io.nd rfl<|Or.inl rfl)<|AR (HW (i:=4) ["_law_crossings"] (show CompSc (defScope Ij) ["_law_web","_law_free","_law_found","_law_tie","_law_longer"] _ [] [] from (rfl,#[1],#[1],#[1],rfl,#[1])) rfl Io.nd rfl (Or.inl rfl) (seqK K<|pv 2) (λ_ _ _ _ _=>(Ao (i:=0) (show List.Nodup (["_law_crossings"]:List Str) from #[0]) rfl<|Or.inl rfl)) (λ_ _ _ _ _=>EG) λ_ _ _ _ _=>(Ae (addK K) (pv 0) (@Ab _ _ _ _ _<|AA AG AE)))<|AR (CF (BW (inK K u) (pv 3) (pv 1) rfl) (AY<|CW<|bmK K PySem.F.plainAttrs_list PySem.F.slot_list_extend PySem.F.type_list_extend extLK (pv 4)<|AA (Du ["_law_crossings"] (show CompSc (defScope Ij) ["_law_web","_law_free","_law_found","_law_tie","_law_longer"] _ [] [] from (rfl,#[1],#[1],#[1],rfl,#[1])) rfl (seqK K<|pv 2) (λ_ _ _ _ _=>(Ao (i:=0) (show List.Nodup (["_law_crossings"]:List Str) from #[0]) rfl<|Or.inl rfl)) (λ_ _ _ _ _=>EG) λ_ _ _ _ _=>(Ae (addK K) (pv 0) (@Ab _ _ _ _ _<|AA AG AE))) AE) CM)<|AY<|Aj (i:=2) Io.nd rfl (Or.inl rfl)<|pv 4)<|AY<|BF<|pv 2),B3 (λb o e=>?_) h);obtain⟨N,t,T,rfl,k,p,q⟩:=e;sleep 0;refine Ac<|Aw<|Ge<|AF<|BJ<|AI (#[0],AI (#[7],?_));refine Bh (λJ=>∃x y:L2.Slot,J = [.val (Am (N:Int) t),.val (.lst ((natI<|freL T t.length).map .int)),.val (.lst ((crL T t.length).map AX)),x,y]) ?_ ?_
 ·refine Bx (CQ<|AF<|CA (Jh<|DX rfl<|Hl (N:Int) t) ?_)
  rw[AJ];refine AI (_,rfl,#[2],#[2],λi J=>∃x y:L2.Slot,J = [.val (Am (N:Int) t),.val (.lst ((natI<|freL T t.length).map .int)),.val (.lst ((crL T i).map AX)),x,y],(_,_,rfl),?_,?_)
  ·rintro i d a D ⟨x,y,rfl⟩
   obtain⟨I,rfl⟩:=B9 D;have I:i<t.length:=by simpa using I
   rw[B0];have g:((crL T i).length:Nat)<=960:=by rw[Hj];exact p i #[2]
   have L:((crL T<|i+1).length:Nat)<=960:=by rw[Hj];exact p (i+1) #[2]
   have S:crL T (i+1)=(crL T i).map (λc=>c++[0])++if i∈T then [] else (crL T i).map λc=>c++[1]:=rfl
   have C:∀z:Int,(((crL T i).map AX).filter λ_=>true).map (λd=>AX<|EO d++[z])=((crL T i).map λc=>c++[z]).map AX:=λz=>by
    rw[D6.mpr #[3],BS,BS];refine DU λc _=>?_;show AX (EO (AX c)++[z])=_;rw[JF];rfl
   refine A8<|Ac<|Cw<|Hc #[0]<|Cn<|AD rfl (_,Or.inl rfl,by rw[AJ];exact small1000 #[2],λ_=>true,λd=>AX<|EO d++[0],λj d D=>?_,?_)
   ·rw[Ad]at D
    cases za:(crL T i)[j]? with
    |none=>exists 0,za,D
    |some c=>
     exists 0,za,D;have l:=(GV T i c ((Hi T i).mem_iff.mpr (Be za))).1;refine Dz (rfl,AO<|AD rfl<|BJ<|AF<|Aa<|AI (#[7],E2 ?_ (?_,_,rfl)))
     ·rw[AJ]
      exact Cj<|small1000 (by show c.length+1<=1000;lia)
     ·show _=AX (EO (AX c)++[0])
      rw[JF,<- Nt]
   rw[C];refine Bh (λJ=>J = [.val (Am (N:Int) t),.val (.lst ((natI<|freL T t.length).map .int)),.val (.lst ((crL T i).map AX)),.val (.int (i:Int)),.own (.lst ((crL T<|i+1).map AX))]) ?_ ?_
   ·refine CD (Ba<|AO<|AD rfl<|AD rfl<|Vv (ns:=natI<|freL T t.length) (_,rfl,?_))
    by_cases hT:i∈T
    ·have n:¬ (i:Int)∈natI (freL T t.length):=λz=>(Rq I).mp (JJ.mp z) hT
     rw[BI n];refine iteF<|CN ?_;rw[S,AN hT,Bj];rfl
    ·have n:(i:Int)∈natI (freL T t.length):=JJ.mpr ((Rq I).mpr hT)
     rw[BD n];rw[AK hT]at S;refine iteT<|N3 rfl rfl<|Dx #[0]<|Cn<|AD rfl (_,Or.inl rfl,by rw[AJ];exact small1000 #[4],λ_=>true,λd=>AX<|EO d++[1],λj d D=>?_,?_)
     ·rw[Ad]at D
      cases za:(crL T i)[j]? with
      |none=>exists 0,za,D
      |some c=>
       exists 0,za,D;have l:=(GV T i c ((Hi T i).mem_iff.mpr (Be za))).1;refine Dz (rfl,AO<|AD rfl<|BJ<|AF<|Aa<|AI (#[7],E2 ?_ (?_,_,rfl)))
       ·rw[AJ]
        exact Cj<|small1000 (by show c.length+1<=1000;omega)
       ·show _=AX (EO (AX c)++[1])
        rw[JF,<- Nt]
     rw[C];refine(_,_,_,rfl,rfl,rfl,?_,?_)
     ·rw[<- Ar,<- BA,<- S,AJ]
      exact Bg L #[0]
     rw[<- BA,<- S];rfl
   rintro B rfl;exact Aw<|Ef rfl (_,_,rfl)
  ·rintro a ⟨x,y,rfl⟩
   rw[CC,BO];exact(x,y,rfl)
 rintro m ⟨x,y,rfl⟩;exact Bk<|AD rfl q
theorem Zys (B:Mb mg) (F:BE K "_law_more" "_law_more" MW f fd):FnOk P w K mg base CX0 1 f fd ["_law_found","_law_number"] (spB K fCnt):=by
 refine F.ok UA (Jc λS d t h=>#[6]) λv A r s H V Q E R h=>?_;have u:=Bb R;refine(_,(AR (FK PassesOwn.never (BW Ly (A0 (lenK K) rfl (B "len" #[0]) Bi<|AA (pv 0) AE) (pv 1)<|nomark _)<|AY<|CW<|bmK K PySem.F.plainAttrs_list PySem.F.slot_list_append PySem.F.type_list_append Dw (pv 0)<|AA AG AE)<|AY<|DI (Ae (addK K) (Ag (ixK K u) (pv 0) (pv 1) λ_ _=>rfl) AG)<|E7 (pv 0) (pv 1)<|setU u),Jv (λS d t a=>?_) h);obtain⟨l,h,rfl,rfl,L,b,q⟩:=a;refine(#[3],?_);dsimp only[cxOf,startD,BZ,A7,BP,Az];refine Bh (λJ=>J = [.bor (.lst ((pad l h).map .int)),.val (.int (h:Int))]) ?_ ?_
 ·refine FN (fun μ J=>∃k:Nat,k<=h+1-l.length /\ μ = h+1-l.length-k /\ J = [.bor (.lst ((l++Az k 0).map .int)),.val (.int (h:Int))]) (_,0,Bp _,rfl,#[3]) ?_
  rintro μ j ⟨k,hk,rfl,rfl⟩;have n:((l++Az k (0:Int)).map D.int).length=l.length+k:=by rw[AJ,Ar,CU]
  refine Ba<|AO<|JR rfl rfl<|AD rfl<|EK (_,rfl,ite2 (λc=>?_) λc=>?_)
  ·rw[decide_eq_true_eq,n]at c
   refine FZ rfl rfl<|Aa (_,_,rfl,rfl,?_,h+1-l.length-(k+1),#[4],k+1,#[4],rfl,?_)
   ·rw[n];exact small1000 #[4]
   ·rw[List.replicate_succ',<- DM,BA (l₁:=l++Az k 0)]
    rfl
  ·rw[decide_eq_true_eq,n]at c
   unfold pad;rw[show h+1-l.length=k by omega]
 rintro j rfl;have p:h<(pad l h).length:=by rw[JZ];omega
 refine Nh<|AO<|GU rfl rfl<|AD rfl (_,_,_,.int<|l.getD h 0,rfl,rfl,rfl,Ck (by rw[Ss p,LP]),Aa<|EB ((_,_,rfl,rfl),AD rfl (_,_,_,h,rfl,rfl,rfl,Sn (by rw[AJ];exact p),_,rfl,?_)));have e:(A7 D.int<|pad l h).set h (.int<|l.getD h 0+1)=(cnt1 l h).map D.int:=by
  unfold cnt1;rw[List.map_set]
 rw[e];exact q
theorem U1 (mb:Mb mg) (a6:Callee P w K mg base 3 "_law_small" ["_law_pen_here","_law_limit"] (spB K fSmall)) (a4:Callee P w K mg base 1 "_law_draw" ["_law_pen_here","_law_many"] (spB K IB)) (a5:Callee P w K mg base 3 "_law_crossed_many" ["_law_web"] (spD K fLCM)) (F:BE K "_law_few" "_law_few" Kq f fd):FnOk P w K mg base CX0 4 f fd ["_law_pen_here"] (spB K fFew):=by
 refine F.ok Ky (Jc λps G o h=>by obtain⟨_,rfl,_⟩:=h;rfl) λv A e s H vs Q E R h=>?_;have a:=Bb R;refine(_,(by (refine' AR ?s ?r); (case s=>exact(Aj (i:=1) Ky.nd rfl (Or.inl rfl)<|An a6 (R.mono #[0])<|AA (pv 0)<|AA AG AE)); (case r=>exact(by (refine' AR ?s ?r); (case s=>exact(by (refine' CF ?c1 ?a1 ?b1); (case c1=>exact(BW CY (An a4 (R.mono #[0])<|AA (pv 0)<|AA AG AE) AG<|nomark _)); (case a1=>((refine' AY ?o1); (case o1=>exact(by (refine' BF ?e2); (case e2=>((refine' Ag ?h2 ?l2 ?i2 ?k2); (case h2=>exact(ixK K a)); (case k2=>exact(λ_ _=>rfl)); (case l2=>exact(@CG (EA P w K mg base f v A e s H E) _ _ _  (@AA _ _ _ _ _ (@Ab (EA P w K mg base f v A e s H E) _ _ _ _ (@AA _ _ _ _ _ AG (@AA _ _ _ _ _ (@Ab (EA P w K mg base f v A e s H E) _ _ _ _ (@AA _ _ _ _ _ (@Ab (EA P w K mg base f v A e s H E) _ _ _ _ (@AA _ _ _ _ _ AG (@AA _ _ _ _ _ AG AE (@Ah _ _ _ _ _)) (@Ah _ _ _ _ _))) (@AA _ _ _ _ _ (@Ab (EA P w K mg base f v A e s H E) _ _ _ _ (@AA _ _ _ _ _ AG (@AA _ _ _ _ _ AG AE (@Ah _ _ _ _ _)) (@Ah _ _ _ _ _))) (@AA _ _ _ _ _ (@Ab (EA P w K mg base f v A e s H E) _ _ _ _ (@AA _ _ _ _ _ AG (@AA _ _ _ _ _ AG AE (@Ah _ _ _ _ _)) (@Ah _ _ _ _ _))) AE (@BC _ _ _ _ _)) (@BC _ _ _ _ _)) (@BC _ _ _ _ _))) AE (@BC _ _ _ _ _)) (@Ah _ _ _ _ _))) (@AA _ _ _ _ _ (@Ab (EA P w K mg base f v A e s H E) _ _ _ _ (@AA _ _ _ _ _ AG (@AA _ _ _ _ _ (@Ab (EA P w K mg base f v A e s H E) _ _ _ _ (@AA _ _ _ _ _ (@Ab (EA P w K mg base f v A e s H E) _ _ _ _ (@AA _ _ _ _ _ AG (@AA _ _ _ _ _ AG AE (@Ah _ _ _ _ _)) (@Ah _ _ _ _ _))) (@AA _ _ _ _ _ (@Ab (EA P w K mg base f v A e s H E) _ _ _ _ (@AA _ _ _ _ _ AG (@AA _ _ _ _ _ AG AE (@Ah _ _ _ _ _)) (@Ah _ _ _ _ _))) (@AA _ _ _ _ _ (@Ab (EA P w K mg base f v A e s H E) _ _ _ _ (@AA _ _ _ _ _ AG (@AA _ _ _ _ _ AG AE (@Ah _ _ _ _ _)) (@Ah _ _ _ _ _))) (@AA _ _ _ _ _ (@Ab (EA P w K mg base f v A e s H E) _ _ _ _ (@AA _ _ _ _ _ AG (@AA _ _ _ _ _ AG AE (@Ah _ _ _ _ _)) (@Ah _ _ _ _ _))) AE (@BC _ _ _ _ _)) (@BC _ _ _ _ _)) (@BC _ _ _ _ _)) (@BC _ _ _ _ _))) AE (@BC _ _ _ _ _)) (@Ah _ _ _ _ _))) AE (@BC _ _ _ _ _)) (@BC _ _ _ _ _)))); (case i2=>exact(An a4 (R.mono #[0])<|AA (pv 0)<|AA AG AE)))))))); (case b1=>exact CM))); (case r=>exact(by (refine' AR ?s ?r); (case s=>exact(Aj (i:=2) Ky.nd rfl (Or.inl rfl)<|Ag (ixK K a) (pv 1) AG λ_ _=>rfl)); (case r=>exact(by (refine' AR ?s ?r); (case s=>exact(FK PassesOwn.never (BW F7 (An a5 (R.mono #[0])<|AA (Ab<|AA (Ag (ixK K a) (pv 1) AG λ_ _=>rfl)<|AA (pv 2) AE) AE) (Ag (ixK K a) (@CG _ _ _ _ (@AA _ _ _ _ _ AG (@AA _ _ _ _ _ AG AE (@Ah _ _ _ _ _)) (@Ah _ _ _ _ _))) (Ed QJ rfl (mb "int" #[0]) Lj<|AA (GW F7 (Ag (ixK K a) (pv 1) AG λ_ _=>rfl) AG<|nomark _) AE) λ_ _=>rfl)<|nomark _)<|AY<|Aj (i:=2) Ky.nd rfl (Or.inl rfl)<|FV (slK K) (pv 2) (FU AG) E3)); (case r=>exact(AY<|BF<|Ab<|AA (Ag (ixK K a) (pv 1) AG λ_ _=>rfl)<|AA (pv 2) AE))))))))),Jv (λps G o Y=>?_) h);obtain⟨hp,rfl,q⟩:=Y;refine(#[3],?_);dsimp only[cxOf,startD,BZ,A7,BP,Az];refine Ac<|Aw<|E8 rfl rfl<|AF<|Aa<|AI (_,_,rfl,rfl,hp,rfl,λN S a3 j W z=>?_);have hn:=W.lo;have Z:=W.hi;refine Ac<|CD<|Ba<|AO (Gi rfl rfl j #[0] #[0] λr p b a0 a2=>Aa<|Co (_,rfl,ite2 (λc=>?_) λc=>?_))
 ·refine Bk (AO<|CA (d:=.lst [Am 1 b1,Am 2 b2]) (by repeat' (first|exact Dh|exact FX|refine Ex ?_ ?_|refine F6 ?_ #[0]|refine Hn ?_ #[0])) (Gi rfl rfl b #[0] #[0] λr2 n k I M=>?_))
  obtain⟨C,y,T,g,m⟩:=VR I M;exact DW T (_,rfl,q C y n k g m)
 refine CN ?_;refine Ac<|Aw<|CA (DX rfl<|Hl (N:Int) S) ?_;refine Bh (λJ=>∃u:AQ,Af (N:Int) u/\ways N u*2 ^ CI N u<=960 /\ J = [.bor (.lst p),.val (Am (N:Int) S),.val (.tup<|u.map BY)]) ?_ ?_
 ·refine FN (fun μ J=>∃u:AQ,μ = u.length/\Af (N:Int) u /\ J = [.bor (.lst p),.val (Am (N:Int) S),.val (.tup<|u.map BY)]) (_,S,rfl,W,rfl) ?_
  rintro μ B ⟨u,rfl,U,rfl⟩;refine Ba<|AO<|BU<|AF<|BJ<|AF<|CA (DX (d:=.int (N:Int)) rfl rfl)<|AF<|AD rfl<|AI (E5,AI (N,u,rfl,U,?_));refine AO<|CA (d:=.lst [.int 160,.int 60]) (by repeat' (first|exact Dh|exact FX|refine Ex ?_ ?_|refine Hn ?_ #[0])) (A3<|AF<|AO<|CA (DX (d:=.int (N:Int)) rfl rfl)<|Aa<|EK<|AI<|SR ?_) ;obtain⟨L,O,V,X⟩:∃L:Int,atI [D.int 160,D.int 60] (if decide ((10:Int)<(N:Int))=true then 1 else 0)=some (.int L)/\1<=L/\L<=960:=by
   split
   ·exact(60,rfl,#[0],#[0])
   ·exact(160,rfl,#[0],#[0])
  refine DW O<|EK (_,rfl,ite2 (λc=>?_) λc=>(u,U,by rw[decide_eq_true_eq]at c;lia,rfl));cases u with
  |nil=>
   have:ways N []*2 ^ CI N []=1:=by rw[RD,show CI N []=0 from rfl]
   rw[this,decide_eq_true_eq]at c;lia
  |cons t u=>
   have l:=U.len;refine Aw<|Ht<|AD rfl<|F3<|Aa (_,rfl,E4 (.tup<|u.map BY,?_,u.length,#[3],u,rfl,(U.lo,U.hi,?_,λx hx=>U.tie x<|Bl _ hx),rfl))
   ·show some (D.tup<|cutD _ (some 1) none)=_
    rw[NW];rfl
   ·rw[BH]at l;lia
 rintro B ⟨u,U,z,rfl⟩;exact Bk<|BJ<|AF<|CA (DX (d:=.int (N:Int)) rfl rfl)<|AF<|AD rfl<|AI (E5,_,rfl,q N u p b U z)
end
def t1:AQ:=[(0,0)]
theorem Oe:Af ((1:Nat):Int) t1:=(#[0],#[0],#[0],#[0])
theorem Ts:BG ((1:Nat):Int) t1 [[0,1]]:=HQ (N:=1) (ts:=t1) _ (by show [[0,1]]∈[[[(0:Int),1]]];exact B5)
theorem S5 (j:CrOk t1 c):((allC t1 [[0,1]] c).length:Int)=1+(if frB (cOn t1 [[0,1]] c) (bkI c) 1=true then 1 else 0):=by
 have f:frB (cOn t1 [[0,1]] c) (bkI c) 0=true:=FY.mpr λ(e,he,_)=>absurd he<|Dr _;unfold allC;rw[show lone [[(0:Int),1]]=0 from rfl,show 2*t1.length=0+1+1 from rfl,GQ,GQ,f,AN rfl];split <;> rfl
theorem WC (hm:BK ms (AW 1 t1)):lkN 1 t1 ms [0] [[0,1]]=0/\lkN 1 t1 ms [1] [[0,1]]=1:=by
 have m:ms.length=1:=by
  have H:BK [0] (AW 1 t1):=(List.pairwise_singleton _ _,λx=>by rw[show AW 1 t1=[0] from rfl]);rw[hm.uniq H];rfl
 have C:CrOk t1 [0]:=(rfl,#[0]);have a:CrOk t1 [1]:=(rfl,#[0]);have o:=(Hq Oe Ts C).one;have O:=(Hq Oe Ts a).one;have A:=S5 C;have b:=S5 a;have t:∀i,iter (cOn t1 [[0,1]] [0]) 0 i=0:=λi=>by
  induction i with
  |zero=>rfl
  |succ i ih=>
   show cOn t1 [[0,1]] [0] (iter (cOn t1 [[0,1]] [0]) 0 i)=0;rw[ih];decide
 have g:frB (cOn t1 [[0,1]] [0]) (bkI [0]) 1=true:=FY.mpr λ(e,he,h)=>by
  have E:e=0:=#[2]
  subst E;rcases h with h|⟨y,h,B⟩
  ·obtain⟨i,_,I⟩:=B1.mp h
   have:=t i;rw[show (2*((0:Nat):Int))=0 from rfl]at I;rw[this]at I;exact absurd I #[0]
  ·obtain⟨i,_,I⟩:=B1.mp h
   have:=t i;rw[show (2*((0:Nat):Int))=0 from rfl]at I;rw[this]at I;subst I;exact absurd B #[0]
 have G:frB (cOn t1 [[0,1]] [1]) (bkI [1]) 1=false:=by
  cases z:frB (cOn t1 [[0,1]] [1]) (bkI [1]) 1 with
  |false=>rfl
  |true=>exact absurd (0,#[0],.inr (0,Ci O #[0] #[0] 0,#[0])) (FY.mp z)
 rw[g,AN rfl]at A;rw[G,AK BV]at b;have e:∀c,F8 ((1:Nat):Int) t1 [[0,1]] c ms=2*(ms.length:Int)-((1:Nat):Int)+(t1.length:Int)-((allC t1 [[0,1]] c).length:Int):=λc=>rfl;have l:t1.length=1:=rfl;unfold lkN;rw[e,e,A,b,m,l];exact(rfl,rfl)
theorem TZ (hm:BK ms (AW 1 t1)):cntL (twoL 1 t1 ms<|crP (Aq 1 t1 t1.length) t1.length)=[1]/\cntL (oneL 1 t1 ms<|crP (Aq 1 t1 t1.length) t1.length)=[0,1]:=by
 obtain⟨h,H⟩:=WC hm;rw[show crP (Aq 1 t1 t1.length) t1.length=[[0],[1]] by decide];unfold twoL oneL;rw[show Bf 1 t1=[[[0,1]]] from rfl];simp only[DL,IY,Bj];rw[(Hd ms [0] rfl _).1,(Hd ms [0] rfl _).2,(HR ms [1] #[0] _).1,(HR ms [1] #[0] _).2];simp only[Bz,Gz,h,H];exact(rfl,rfl)
theorem Sj (L:l.length<=1000) (hm:m.length<=1000):Lv 3 (pairZ l m):=by
 have y:∀l:List Int,l.length<=1000->Lv 2 (lstZ l):=λl h=>(by rw[AJ];exact h,λd D=>by
  obtain⟨x,_,rfl⟩:=A6.mp D
  trivial)
 refine(by show 2<=1000;decide,λd D=>?_);rcases A5.mp D with rfl|D
 ·exact y l L
 ·rw[CK.mp D];exact y m hm
theorem OM (i:Nat) (p:JS K t (J.set i .any) P):JS K t J P:=λg G H Z E k c=>p g G H Z E (k.drop i) c
theorem Ztt (T:List Nat) (n:Nat):((rngD 0 n).filter λd=>decide<|intX d ∉ natI T).map (λd=>d)=(natI<|freL T n).map .int:=by
 unfold rngD natI freL;rw[List.map_id',GG,BS];have e:(AV n).filter ((λd=>decide<|intX d ∉ A7 (λt:Nat=>(t:Int)) T)∘λk:Nat=>D.int (0+(k:Int)))=(AV n).filter λi=>decide (i ∉ T):=by
  refine De λi _=>?_;show decide ((0+(i:Int)) ∉ natI T)=_;rw[B0];exact decide_eq_decide.mpr<|not_congr JJ
 rw[e];refine DU λi _=>?_;show D.int (0+(i:Int))=D.int (i:Int);rw[B0]
def fLaw:DSp:=λs t=>∃ns:List Int,s=[.scr (ns.map .int)]/\ns.length<=63/\t (.bl true)
noncomputable def k50S (ns:List Int) (N:Nat) (ts:AQ) (T:List Nat) (b:Int) (u v j q z:L2.Slot):AM:=[.val (.scr<|ns.map .int),.val (Am (N:Int) ts),.val (.tup ((natI T).map .int)),.val (.lst ((natI<|freL T ts.length).map .int)),.val (.int b),u,v,j,q,z,.any]
def oI (l:List Int):L2.Slot:=.own (.lst<|l.map .int)
#check 2
theorem ok_law (mb:Mb mg) (c6:Callee P w K mg base 1 "_law_pen" ["_law_script"] (spN K fPen)) (c4:Callee P w K mg base 4 "_law_few" ["_law_pen_here"] (spB K fFew)) (c7:Callee P w K mg base 3 "first_tree" ["web"] (spD K fTree)) (c5:Callee P w K mg base 1 "_law_parts" ["_law_web"] (spN K L7)) (c1:Callee P w K mg base 1 "_law_all_crossings" ["_law_web","_law_free"] (spD K fLCrs)) (c0:Callee P w K mg base 2 "_law_all" ["_law_web"] (spD K fAllO))
  (c2:Callee P w K mg base 2 "_law_crossed" ["_law_order","_law_crossings"] (spN K fLCr)) (b9:Callee P w K mg base 1 "_law_more" ["_law_found","_law_number"] (spB K fCnt)) (b8:Callee P w K mg base 7 "crossed_counts" ["web"] (spQ K fCC)) (b7:Callee P w K mg base 3 "_law_same" ["_law_found","_law_due"] (spD K<|Hy 3)) (c3:Callee P w K mg base 3 "_law_crossed_many" ["_law_web"] (spD K fLCM))
  (F:BE K "law" "law" GI f fd):FnOk P w K mg base CX0 8 f fd ["_law_script"] (spD K fLaw):=by
 refine F.ok Eu (B2 λds O h=>by obtain⟨_,rfl,_⟩:=h;rfl) λa8 A a7 s H vs Q E r h=>?_;have U:=Bb r;have hv:=Ff r;refine(_,(AR (Aj (i:=1) Eu.nd rfl (Or.inl rfl)<|An c4 (r.mono #[0])<|AA (An c6 (r.mono #[0])<|AA (pv 0) AE) AE)<|AR (Aj (i:=2) Eu.nd rfl (Or.inr rfl)<|An c7 (r.mono #[0])<|AA (pv 1) AE)<|AR (HW (i:=3) ["_law_tie"] (show CompSc (defScope GI) ["_law_script","_law_web","_law_tree","_law_free","_law_base","_law_two","_law_one","_law_crossings","_law_order","_law_number","_law_found"] _ ["_law_tree"] [2] from (rfl,#[1],#[1],#[1],rfl,#[1])) rfl Eu.nd rfl (Or.inl rfl) (CP rfl (mb "range" #[0])<|AA (A0 (lenK K) rfl (mb "len" #[0]) Bi<|AA (Ag (ixK K U) (pv 1) AG λ_ _=>rfl) AE) AE) (λ_ _ _ _ _=>(Ao (i:=0) (show List.Nodup (["_law_tie","_law_tree"]:List Str) from #[0]) rfl<|Or.inl rfl)) (λ_ _ _ _ _=>(F2<|BW (notinK K U) (pv 0) (pv 1) rfl)) λ_ _ _ _ _=>(pv 0))<|AR (Aj (i:=4) Eu.nd rfl (Or.inl rfl)<|Ae (addK K) (Ae Di (Ae DO AG<|A0 (lenK K) rfl (mb "len" #[0]) Bi<|AA (An c5 (r.mono #[0])<|AA (pv 1) AE) AE)<|Ag (ixK K U) (pv 1) AG λ_ _=>rfl)<|A0 (lenK K) rfl (mb "len" #[0]) Bi<|AA (Ag (ixK K U) (pv 1) AG λ_ _=>rfl) AE)<|AR (OP (i:=5) (j:=6) rfl Eu.nd rfl rfl #[0] rfl rfl (@AA _ _ _ _ _ (CG AE) (@AA _ _ _ _ _ (CG AE) AE (@LL _ _ _ _)) (@LL _ _ _ _)) rfl)<|AR (Bv PassesOwn.never rfl (seqK K<|An c1 (r.mono #[0])<|AA (pv 1)<|AA (pv 3) AE) (Ao (i:=7) Eu.nd rfl<|Or.inl rfl)<|AY<|Bv PassesOwn.never rfl (seqK K<|An c0 (r.mono #[0])<|AA (pv 1) AE) (Ao (i:=8) Eu.nd rfl<|Or.inl rfl)<|AR (Aj (i:=9) Eu.nd rfl (Or.inl rfl)<|Ae Di (pv 4)<|A0 (lenK K) rfl (mb "len" #[0]) Bi<|AA (An c2 (r.mono #[0])<|AA (pv 8)<|AA (pv 7) AE) AE)<|AY<|CF (BW CY (A0 (sumTK K rfl) rfl (mb "sum" #[0]) Lk<|AA (pv 7) AE) AG<|nomark _) (AY<|CW<|An b9 (r.mono #[0])<|AA (pv 5)<|AA (Ae GZ (pv 9) AG) AE)<|AY<|CW<|An b9 (r.mono #[0])<|AA (pv 6)<|AA (pv 9) AE)<|AR (Aj (i:=10) Eu.nd rfl (Or.inl rfl)<|An b8 (r.mono #[0])<|AA (pv 1) AE)<|AR (CF (Jm<|truK K (An b7 (r.mono #[0])<|AA (An b8 (r.mono #[0]) (@AA _ _ _ _ _ (@Ab _ _ _ _ _ (@AA _ _ _ _ _ AG (@AA _ _ _ _ _ (@Ab _ _ _ _ _ (@AA _ _ _ _ _ (@Ab _ _ _ _ _ (@AA _ _ _ _ _ AG (@AA _ _ _ _ _ AG AE (@Ah _ _ _ _ _)) (@Ah _ _ _ _ _))) AE (@BC _ _ _ _ _))) AE (@BC _ _ _ _ _)) (@Ah _ _ _ _ _))) AE (@BC _ _ _ _ _)))<|AA (@Ab _ _ _ _ _ (@AA _ _ _ _ _ (@CG _ _ _ _<|AA AG AE) (@AA _ _ _ _ _ (@CG _ _ _ _ (@AA _ _ _ _ _ AG (@AA _ _ _ _ _ AG AE (@Ah _ _ _ _ _)) (@Ah _ _ _ _ _))) AE (@LL _ _ _ _)) (@LL _ _ _ _))) AE) λ_=>rfl) (AY<|BF Gh) CM)<|AR (CF (PW.pt<|pw_or (Jm<|truK K (An b7 (r.mono #[0])<|AA (pv 10)<|AA (Ab<|AA (pv 5)<|AA (pv 6) AE) AE) λ_=>rfl)<|pw_or1<|BW Ho (Ae (addK K) (A0 (sumK K rfl) rfl (mb "sum" #[0]) Lk<|AA (pv 5) AE)<|A0 (sumK K rfl) rfl (mb "sum" #[0]) Lk<|AA (pv 6) AE) (An c3 (r.mono #[0])<|AA (pv 1) AE)<|nomark _) (AY<|BF Gh) CM)<|AR (CW<|bmK K PySem.F.plainAttrs_list PySem.F.slot_list_append PySem.F.type_list_append Dw (Ag (ixK K U) (pv 10) AG λ_ _=>rfl)<|AA AG AE)<|AR (CW<|bm0K K PySem.F.plainAttrs_list PySem.F.slot_list_clear PySem.F.type_list_clear Zw6<|Ag (ixK K U) (pv 10) AG λ_ _=>rfl)<|AY<|BF<|An b7 (r.mono #[0])<|AA (An b8 (r.mono #[0])<|AA (pv 1) AE)<|AA (Ab<|AA (pv 5)<|AA (pv 6) AE) AE),B3 (λds O hf=>?_) h);obtain⟨S,rfl,hl,q⟩:=hf;sleep 0;refine Ac<|Aw<|Zwj<|EF<|AF<|AD rfl<|AI (S,rfl,hl,λps hp=>(ps,rfl,?_));refine AI (hp,rfl,λN t b6 b3 W G=>?_)
 have b1:=W.lo;have b2:=W.hi;have b4:=W.len;have a1:1<=2 ^ CI N t:=Nat.one_le_two_pow;have a6:1<=ways N t:=JW (FP t) N;have a4:ways N t<=960:=Bg (IF _ a1) G;have a5:2 ^ CI N t<=960:=Bg (KI _ a6) G;have hP:=λk (hk:k<=t.length)=>TF (N:=N) hk a5;have R:=Hi (Aq N t t.length) t.length;have n:(crL (Aq N t t.length) t.length).length=2 ^ CI N t:=by rw[Hj,QX]
 have g:∀c∈crL (Aq N t t.length) t.length,CrOk t c:=Vp;have p:=λms=>Zvx N t ms R;refine Ac<|Aw<|BU<|AF<|AD rfl<|AI (N,t,rfl,W,?_);rw[TM];obtain⟨T,hT⟩:∃T,T=Aq N t t.length:=(_,rfl);rw[<- hT]at hP n g p ⊢;refine Ac<|Aw<|Dx #[0]<|CQ<|AF<|CA (Jh<|DX rfl<|Hl (N:Int) t)<|AI (_,rfl,?_,?_,?_,λd=>decide<|intX d ∉ natI T,λd=>d,λi d e=>?_,?_)
 ·rw[AJ];lia
 ·rw[AJ];lia
 ·rw[CC,AJ];exact small1000 #[2]
 ·obtain⟨I,rfl⟩:=B9 e
  refine Ba<|AO<|AD rfl<|AD rfl<|Oa (neg:=true) (_,rfl,?_,?_)
  ·show (!decide (0+(i:Int)∈natI T))=decide (0+(i:Int) ∉ natI T)
   by_cases I:(i:Int)∈natI T <;> simp[I]
  by_cases I:(i:Int)∈natI T
  ·rw[AK (by simp[I])];exact(_,rfl)
  ·rw[AN (by simp[I])]
   exact AD rfl (rfl,_,rfl)
 rw[AJ,BO,Ztt];refine Ac<|Aw<|AO<|AO<|AO<|Aa<|A3<|AF<|Cz<|EF<|AF<|AD rfl<|AI (N,t,_,rfl,Or.inl rfl,W,λms z=>(_,rfl,AI<|B7 (Or.inl rfl) ?_));have b0:=z.len;have a9:=Cy N t;rw[AJ,show (DB N t ms).length=ms.length from AJ _];refine jr_I (Or.inl (#[2],#[2]))<|CA (DX (d:=.int (N:Int)) rfl rfl)<|DA<|CA (Jh<|DX rfl<|Hl (N:Int) t)<|EB ?_;rw[AJ];obtain⟨b,hb⟩:∃b:Int,b=2*(ms.length:Int)-(N:Int)+(t.length:Int):=(_,rfl);rw[<- hb];refine Ac<|Zu5 ?_;have p:=p ms;refine Bh (λJ=>∃y X a:L2.Slot,J = k50S S N t T b (oI<|cntL<|twoL N t ms<|crL T t.length) (oI<|cntL<|oneL N t ms<|crL T t.length) y X a) ?_ ?_
 ·refine Bx (Cn<|BU<|AF<|AD rfl<|AF<|AD rfl<|AI (N,t,T,rfl,#[2],hP,?_))
  clear p n R;generalize crL T t.length=C at g;refine(_,Or.inl rfl,λi J=>∃y X a:L2.Slot,J = k50S S N t T b (oI<|cntL<|twoL N t ms<|C.take i) (oI<|cntL<|oneL N t ms<|C.take i) y X a,(_,_,_,rfl),?_,?_)
  ·rintro i d J2 e ⟨y,X,a,rfl⟩
   rw[Ad]at e;cases zc:C[i]? with
   |none=>exists 0,zc,e
   |some c=>
    exists 0,zc,e;have hc:=Be zc;have Z:=g c hc;refine A8<|Bx<|Cn<|BU<|AF<|AD rfl<|AI (N,t,rfl,W,a4,_,Or.inl rfl,λj J=>∃X a:L2.Slot,J = k50S S N t T b (oI<|Cp N t ms C i c j) (oI<|Cs N t ms C i c j) (.val<|AX c) X a,(X,a,?_),?_,?_)
    ·rw[(LA N t ms C i c).1,(LA N t ms C i c).2];rfl
    ·rintro j d J3 e ⟨X,a,rfl⟩
     rw[Ad]at e;cases zo:(Bf N t)[j]? with
     |none=>exists 0,zo,e
     |some o=>
      exists 0,zo,e;have hO:=HQ o<|Be zo;obtain⟨el,ll⟩:=Lx W z hO Z;obtain⟨l1,l2⟩:=Tf (i:=i) W z g Z j;refine A8<|Ac<|Aw<|AO<|AD rfl<|A3<|AF<|Cz<|EF<|AF<|AD rfl<|AF<|AD rfl<|AI ((N:Int),t,o,c,rfl,W,hO,Z,_,rfl,AI<|B7 (Or.inl rfl)<|DA ?_);rw[AJ,show b-((allC t o c).length:Int)=(lkN N t ms c o:Nat) by rw[<- el,hb];rfl];refine CD<|Ba<|AO<|A3<|AF<|AD rfl<|AI<|Zzp<|Aa<|Co (_,rfl,?_);by_cases hs:c.sum=0
      ·rw[BD hs]
       obtain⟨s1,s2⟩:=P9 (ms:=ms) (C:=C) (i:=i) zo hs;refine iteT<|Lc<|E8 rfl rfl<|AF<|AO<|AD rfl<|Aa<|jr_I (#[0],#[0])<|AI (_,_,rfl,rfl,_,lkN N t ms c o / 2,rfl,?_,#[2],#[2],?_)
       ·show [D.int ((lkN N t ms c o:Nat) / 2:Int)]=_
        rw[Int.natCast_ediv];rfl
       ·show ∃X a:L2.Slot,_=k50S S N t T b (oI<|Cp N t ms C i c<|j+1) (oI<|Cs N t ms C i c<|j+1) _ X a
        rw[s1,s2];exact(_,_,rfl)
      ·rw[BI hs]
       obtain⟨s1,s2⟩:=QL (ms:=ms) (C:=C) (i:=i) zo hs;refine iteF<|Lc<|E8 rfl rfl<|AF<|AD rfl<|AI (_,_,rfl,rfl,_,lkN N t ms c o,rfl,rfl,#[2],#[2],?_);show ∃X a:L2.Slot,_=k50S S N t T b (oI<|Cp N t ms C i c<|j+1) (oI<|Cs N t ms C i c<|j+1) _ X a;rw[s1,s2];exact(_,_,rfl)
    ·rintro J3 ⟨X,a,rfl⟩
     rw[AJ,(LN zc).1,(LN zc).2];exact(_,_,_,rfl)
  ·rintro J2 ⟨y,X,a,rfl⟩
   rw[AJ,Bm];exact(_,_,_,rfl)
 rintro J1 ⟨y,X,a,rfl⟩;have hB:=R5 W z g;have Y:=HY hB.1;have A1:=HY hB.2;have a0:=Q9 N t ms<|crL T t.length;rw[n,KU]at a0;obtain⟨P2,P1⟩:=p;obtain⟨u,a2⟩:∃u,u=cntL (twoL N t ms<|crL T t.length):=(_,rfl);obtain⟨v,a3⟩:∃v,v=cntL (oneL N t ms<|crL T t.length):=(_,rfl);rw[<- a2]at P2 Y ⊢;rw[<- a3]at P1 A1 ⊢;have l:∀m,BK m (AW N t)->cntL (twoL N t m<|crP (Aq N t t.length) t.length)=u/\cntL (oneL N t m<|crP (Aq N t t.length) t.length)=v:=λm M=>by rw[M.uniq z,<- hT];exact(P2,P1)
 have V:Lv 3 (pairZ u v):=Sj #[2] #[2];refine S9 (i:=5) rfl<|S9 (i:=6) rfl<|OM 7<|OM 8<|OM 9 ?_;refine Zxb (i:=10)<|AF<|AD rfl<|AI (N,t,rfl,W,G,λm M=>?_);rw[(l m M).1,(l m M).2];refine(λj x L=>?_,by show 10<11;decide,FG Y.2.2 #[0],?_)
 ·have L:=Be L
  simp only[k50S,oI,List.set,A5,DF,or_false]at L;rcases L with rfl|rfl|rfl|rfl|rfl|rfl|rfl|rfl|rfl|rfl|rfl <;> rfl
 refine Gg<|Dg<|BU<|AF<|Q4<|AF<|CA (d:=Am 1 t1) (by repeat' (first|exact Dh|exact FX|refine Ex ?_ ?_|refine F6 ?_ #[0]))<|AI (1,t1,rfl,Oe,#[0],λb5 B=>?_);rw[(TZ B).1,(TZ B).2];refine AF<|CA (d:=pairZ [1] [0,1]) (by repeat' (first|exact Dh|exact FX|refine Ex ?_ ?_|refine F6 ?_ #[0]|refine Hn ?_ #[0]))<|AI (_,rfl,Sj #[0] #[0],_,rfl,rfl,?_);refine Jt<|Gg<|Dg<|BU<|AF<|AD rfl<|AF<|BJ<|AF<|AD rfl<|AF<|AD rfl<|AI (E5,AI (_,rfl,V,_,rfl,iteF ?_));refine Ba<|AO<|AO<|A3<|AF<|AD rfl<|AI<|OX<|A3<|AF<|AD rfl<|AI<|OX<|EB<|BU<|AF<|AD rfl<|AI (N,t,rfl,W,Hu (_,rfl,?_,?_))
 ·rw[Y.2.1,A1.2.1,BD #[2]];rfl
 refine Bk<|BU<|AF<|Q4<|AF<|AD rfl<|AI (N,t,rfl,W,G,λm M=>?_);rw[(l m M).1,(l m M).2];exact AF<|BJ<|AF<|AD rfl<|AF<|AD rfl<|AI (E5,AI (_,rfl,V,q))
end
theorem lenS {us:List Value}(h:us.length=n+1):∃a t,us=a::t/\t.length=n:=by
 cases us with
 |nil=>exact absurd h.symm (Nat.succ_ne_zero n)
 |cons a t=>exact(a,t,rfl,Nat.succ.inj h)
theorem bK1 {α:Type _}{g r:List Value -> α}(h:∀a0,g [a0]=r [a0]) (us:List Value) (l:us.length=1):g us=r us:=by
 obtain⟨a0,u,rfl,H⟩:=lenS l;obtain rfl:=Fn H;exact h a0
theorem bK2 {α:Type _}{g r:List Value -> α}(h:∀a0 a1,g [a0,a1]=r [a0,a1]) (us:List Value) (l:us.length=2):g us=r us:=by
 obtain⟨a0,u,rfl,H⟩:=lenS l;obtain⟨a1,U,rfl,a⟩:=lenS H;obtain rfl:=Fn a;exact h a0 a1
theorem bK3 {α:Type _}{g r:List Value -> α}(h:∀a0 a1 a2,g [a0,a1,a2]=r [a0,a1,a2]) (us:List Value) (l:us.length=3):g us=r us:=by
 obtain⟨a0,u,rfl,H⟩:=lenS l;obtain⟨a1,U,rfl,a⟩:=lenS H;obtain⟨a2,c,rfl,b⟩:=lenS a;obtain rfl:=Fn b;exact h a0 a1 a2
theorem bK4 {α:Type _}{g r:List Value -> α}(h:∀a0 a1 a2 a3,g [a0,a1,a2,a3]=r [a0,a1,a2,a3]) (us:List Value) (l:us.length=4):g us=r us:=by
 obtain⟨a0,u,rfl,H⟩:=lenS l;obtain⟨a1,U,rfl,a⟩:=lenS H;obtain⟨a2,d,rfl,b⟩:=lenS a;obtain⟨a3,e,rfl,c⟩:=lenS b;obtain rfl:=Fn c;exact h a0 a1 a2 a3
def FnE (K:W.Frag) (x:Str) (st:Stmt):Prop:=∃(f:Addr) (fd:FuncData),W.nsIn K mainGlobals x=some (some (.ref f))/\BE K x x st f fd
theorem fnE {z q O B j ct:Value}(a:W.nsIn K mainGlobals x=some (some (.ref f))) (l:K.lookup f=some (z,od,.func<|W.fnOf x x (defArgs st) (defBody st) (defScope st) .none q O B an j ct,sl)) (c:W.codeIn K j x=true) (k:W.keepIn K (.ref f)=true):FnE K x st:=(f,_,a,Vn l c k)
theorem Zzc {P:Program}{w:World}{K:W.Frag}{mg:Str->Option Value}{base h:Heap}(X:K.In h) (G:h.Ns mainGlobals mg) {x:Str}{st:Stmt}{ps:List Str}{L:Nat}{sp:Sp}(e:FnE K x st) (O:∀{f:Addr}{fd:FuncData},BE K x x st f fd->FnOk P w K mg base CX0 L f fd ps sp) (B:∀(kV doc pm:Value) (an:Option Addr) (cdv ct:Value) (us:List Value),us.length=ps.length->bindArgs (W.fnOf x x (defArgs st) (defBody st) (defScope st) .none kV doc pm an cdv ct) (us,[])=pure (ps.zip us)):Callee P w K mg base L x ps sp:=by
 obtain⟨f,fd,a,F⟩:=e;exact⟨(f,fd,O F,F.binds B,F.kp,W.mg_of X G a)⟩
theorem Zxd {P:Program}{w:World}{K:W.Frag}{mg:Str->Option Value}{base h:Heap}(X:K.In h) (G:h.Ns mainGlobals mg) {x:Str}{st:Stmt}{ps:List Str}{L:Nat}{sp:Sp}(e:FnE K x st) (O:∀{f:Addr}{fd:FuncData},BE K x x st f fd->Binds K fd ps []->W.keepIn K (.ref f)=true->mg x=some (.ref f)->FnOk P w K mg base CX0 L f fd ps sp) (B:∀(kV doc pm:Value) (an:Option Addr) (cdv ct:Value) (us:List Value),us.length=ps.length->bindArgs (W.fnOf x x (defArgs st) (defBody st) (defScope st) .none kV doc pm an cdv ct) (us,[])=pure (ps.zip us)):Callee P w K mg base L x ps sp:=by
 obtain⟨f,fd,a,F⟩:=e;exact⟨(f,fd,O F (F.binds B) F.kp<|W.mg_of X G a,F.binds B,F.kp,W.mg_of X G a)⟩
theorem all_mk {l:PySem.W.OpenLaw}{w:World}{K:W.Frag}{h:Heap}{mg:Str->Option Value}{fa:Addr}(X:K.In h) (G:h.Ns mainGlobals mg) (f0:mg "law" = some (.ref fa))
  (e1:FnE K "_law_draw" Mu)
  (e2:FnE K "_law_pen" Kl)
  (e3:FnE K "place_of" Mc)
  (e4:FnE K "follower" Me)
  (e5:FnE K "forerunner" Mf)
  (e6:FnE K "hand_beyond" Mn)
  (e7:FnE K "crossed_onward" Ml)
  (e8:FnE K "back_of" Mm)
  (e9:FnE K "round_from" Mo)
  (a6:FnE K "crossed_faces" Ks)
  (a7:FnE K "parts_of" HE)
  (a8:FnE K "lacking" Mg)
  (a9:FnE K "lack" Mp)
  (b2:FnE K "paths_of" Kh)
  (b3:FnE K "crossed_times" Kj)
  (b4:FnE K "fits" Mq)
  (b5:FnE K "ring_by" Ki)
  (b6:FnE K "sides" Kt)
  (b7:FnE K "ends_at" Kr)
  (b8:FnE K "rank_of" Md)
  (b9:FnE K "first_tree" Mr)
  (c0:FnE K "rows_many" Mi)
  (c1:FnE K "orders_many" Mh)
  (c2:FnE K "row_at" Mj)
  (c3:FnE K "all_orders" Ig)
  (c4:FnE K "count_one" Mk)
  (c5:FnE K "crossed_many" Mt)
  (c6:FnE K "all_crossings" Kk)
  (c7:FnE K "crossed_counts" Ms)
  (c8:FnE K "_law_ends" Km)
  (c9:FnE K "_law_ways" Mv)
  (d0:FnE K "_law_small" Kn)
  (d1:FnE K "_law_all" Ih)
  (d2:FnE K "_law_partner" MU)
  (d3:FnE K "_law_crossed" Ko)
  (d4:FnE K "_law_parts" Kp)
  (d5:FnE K "_law_same" Ii)
  (d6:FnE K "_law_crossed_many" MV)
  (d7:FnE K "_law_few" Kq)
  (d8:FnE K "_law_all_crossings" Ij)
  (d9:FnE K "_law_more" MW)
  (e0:FnE K "law" GI)
  {a4:Tok}(a5:W.nsIn K mainGlobals "MOST_FLOORS" = some (some (.int 960 a4)))
  (z0:W.nsIn K mainGlobals "abs" = some none)
  (z1:W.nsIn K mainGlobals "all" = some none)
  (z2:W.nsIn K mainGlobals "bool" = some none)
  (z3:W.nsIn K mainGlobals "divmod" = some none)
  (z4:W.nsIn K mainGlobals "enumerate" = some none)
  (z5:W.nsIn K mainGlobals "int" = some none)
  (z6:W.nsIn K mainGlobals "isinstance" = some none)
  (z7:W.nsIn K mainGlobals "len" = some none)
  (z8:W.nsIn K mainGlobals "list" = some none)
  (z9:W.nsIn K mainGlobals "max" = some none)
  (f1:W.nsIn K mainGlobals "min" = some none)
  (f2:W.nsIn K mainGlobals "range" = some none)
  (f3:W.nsIn K mainGlobals "set" = some none)
  (f4:W.nsIn K mainGlobals "sorted" = some none)
  (f5:W.nsIn K mainGlobals "str" = some none)
  (f6:W.nsIn K mainGlobals "sum" = some none)
  (f7:W.nsIn K mainGlobals "tuple" = some none)
  (f8:W.nsIn K mainGlobals "zip" = some none) :
  ∃fd:FuncData,(∀(s:Shared) (v:Value),BindsTo s fd ([v],[]) [("_law_script",v)])/\∀base:Heap,K.In base->base.Ns mainGlobals mg->FnOk l.prog w K mg base CX0 8 fa fd ["_law_script"] (spD K fLaw):=by
 obtain⟨f,fd,a,F⟩:=e0;have e:=f0.symm.trans<|W.mg_of X G a;cases e;have B:Mb mg:=by
  intro x hx;simp only[A5,DF,or_false]at hx;rcases hx with rfl|rfl|rfl|rfl|rfl|rfl|rfl|rfl|rfl|rfl|rfl|rfl|rfl|rfl|rfl|rfl|rfl|rfl
  ·exact W.mg_none_of X G z0
  ·exact W.mg_none_of X G z1
  ·exact W.mg_none_of X G z2
  ·exact W.mg_none_of X G z3
  ·exact W.mg_none_of X G z4
  ·exact W.mg_none_of X G z5
  ·exact W.mg_none_of X G z6
  ·exact W.mg_none_of X G z7
  ·exact W.mg_none_of X G z8
  ·exact W.mg_none_of X G z9
  ·exact W.mg_none_of X G f1
  ·exact W.mg_none_of X G f2
  ·exact W.mg_none_of X G f3
  ·exact W.mg_none_of X G f4
  ·exact W.mg_none_of X G f5
  ·exact W.mg_none_of X G f6
  ·exact W.mg_none_of X G f7
  ·exact W.mg_none_of X G f8
 obtain⟨oc,od,kV,a1,pm,an,a0,ct,a3,rfl,lk,a2⟩:=F.ex;refine(W.fnOf "law" "law" (defArgs GI) (defBody GI) (defScope GI) .none kV a1 pm an a0 ct,λs v=>.of_eq rfl,λbase _ _=>?_);have M:=@Zzc l.prog w K mg base h X G;have MR:=@Zxd l.prog w K mg base h X G;have C1:=M e1 (UL B) λ_ _ _ _ _ _=>bK2 λ_ _=>rfl;have C2:=M e2 (VI B) λ_ _ _ _ _ _=>bK1 λ_=>rfl;have q:=M e3 (Zw8 B) λ_ _ _ _ _ _=>bK2 λ_ _=>rfl;have C4:=M e4 (Wx B q) λ_ _ _ _ _ _=>bK3 λ_ _ _=>rfl;have C5:=M e5 (Wb B q) λ_ _ _ _ _ _=>bK3 λ_ _ _=>rfl;have C6:=M e6 (Zyu B) λ_ _ _ _ _ _=>bK2 λ_ _=>rfl;have C7:=M e7 (Zyr B C6 C4 C5) λ_ _ _ _ _ _=>bK4 λ_ _ _ _=>rfl;have C8:=M e8 (Zye B C6) λ_ _ _ _ _ _=>bK3 λ_ _ _=>rfl;have C9:=M e9 (VT B C7) λ_ _ _ _ _ _=>bK4 λ_ _ _ _=>rfl;have r:=M a6 (VD B C9 C8) λ_ _ _ _ _ _=>bK3 λ_ _ _=>rfl;have C:=M a7 (XC B) λ_ _ _ _ _ _=>bK1 λ_=>rfl;have t:=M a8 (Zp7 B C) λ_ _ _ _ _ _=>bK2 λ_ _=>rfl;have u:=M a9 (Zy1 B t r) λ_ _ _ _ _ _=>bK3 λ_ _ _=>rfl;have y:=M b2 (Zvb B C q) λ_ _ _ _ _ _=>bK1 λ_=>rfl;have z:=M b3 (V9 B) λ_ _ _ _ _ _=>bK2 λ_ _=>rfl;have A:=M b4 (Zyz B) λ_ _ _ _ _ _=>bK4 λ_ _ _ _=>rfl;have D:=M b5 (Zzx B) λ_ _ _ _ _ _=>bK3 λ_ _ _=>rfl;have E:=M b6 (Zvc B y z A D) λ_ _ _ _ _ _=>bK2 λ_ _=>rfl;have d:=M b7 (Zqk B q) λ_ _ _ _ _ _=>bK2 λ_ _=>rfl;have g:=M b8 (UG B C) λ_ _ _ _ _ _=>bK1 λ_=>rfl;have i:=M b9 (Zy4 B g) λ_ _ _ _ _ _=>bK1 λ_=>rfl;have c:=M c0 (V2 B) λ_ _ _ _ _ _=>bK1 λ_=>rfl;have H:=M c1 (Vt B c d) λ_ _ _ _ _ _=>bK1 λ_=>rfl;have I:=M c2 (Zv4 B c) λ_ _ _ _ _ _=>bK2 λ_ _=>rfl;have J:=M c3 (Zzi B d c I) λ_ _ _ _ _ _=>bK1 λ_=>rfl;have L:=M c4 (VA B) λ_ _ _ _ _ _=>bK2 λ_ _=>rfl;have N:=M c5 (WG B H g) λ_ _ _ _ _ _=>bK1 λ_=>rfl;have O:=M c6 (Vx B i) λ_ _ _ _ _ _=>bK1 λ_=>rfl;have P:=M c7 (Vy B (W.mg_of X G a5) N J O E u L) λ_ _ _ _ _ _=>bK1 λ_=>rfl;have j:=M c8 (Zxa B) λ_ _ _ _ _ _=>bK2 λ_ _=>rfl;have n:=M c9 (Zz1 B j) λ_ _ _ _ _ _=>bK1 λ_=>rfl;have Q:=M d0 (Zwn B C1 n) λ_ _ _ _ _ _=>bK2 λ_ _=>rfl;have R:=M d1 (Zzg B j) λ_ _ _ _ _ _=>bK1 λ_=>rfl;have S:=M d2 (Zp2 B) λ_ _ _ _ _ _=>bK1 λ_=>rfl;have T:=M d3 (Vu B S) λ_ _ _ _ _ _=>bK2 λ_ _=>rfl;have o:=M d4 (Zs4 B) λ_ _ _ _ _ _=>bK1 λ_=>rfl;have U:=MR d5 (λF b k m=>Si B F b k m 3) λ_ _ _ _ _ _=>bK2 λ_ _=>rfl;have p:=M d6 (Vc B n o) λ_ _ _ _ _ _=>bK1 λ_=>rfl;have V:=M d7 (U1 B Q C1 p) λ_ _ _ _ _ _=>bK1 λ_=>rfl;have Y:=M d8 (Zz4 B) λ_ _ _ _ _ _=>bK2 λ_ _=>rfl;have Z:=M d9 (Zys B) λ_ _ _ _ _ _=>bK2 λ_ _=>rfl;exact ok_law B C2 V i o Y R T Z P U p F
end Lw
open PySem PySem.W PyProof.Rows
namespace PySem.W.Fast
theorem te4907830579303916040:True:=trivial
def tw1857279935789445922:PySem.Program:=PySem.Challenge.pw_holefloor_k50_whole_crossed_orders_count
theorem te1857279935789445922:PySem.Challenge.pw_holefloor_k50_whole_crossed_orders_count=tw1857279935789445922:=rfl
def tw15202099670047016382:Unit:=()
def tw16319946522292108553:Unit:=()
def tw12877110501259043752:Unit:=()
def tw14478493304027043603:Unit:=()
def tw7097242375356923725:Unit:=()
def tw17496997240296319292:Unit:=()
def tw16091110066699253871:Unit:=()
def tw515634219960939827:Unit:=()
def tw10490854240359832204:Unit:=()
def tw2731808925259061041:Unit:=()
def tw18363345923894692716:Unit:=()
def tw9266452993901633702:Unit:=()
def tw6453741532652644436:Unit:=()
def tw14045210359924506260:Unit:=()
def tw15224506561748254223:Unit:=()
def tw13146283093001529585:Unit:=()
def tw11531262469422502642:Unit:=()
def tw7966904152481829291:Unit:=()
def tw15973777347978277775:Unit:=()
def tw9256231072898245263:Unit:=()
def tw12359343586049067965:Unit:=()
def tw534023887957055143:Unit:=()
def tw13750765611711065622:Unit:=()
def tw8527233610926317612:Unit:=()
def tw15322300164028033878:Unit:=()
def tw14673457553644721639:Unit:=()
def tw16957069192450479586:Unit:=()
def tw11394128182707827085:Unit:=()
def tw2984733509638472189:Unit:=()
def tw13732227879109168426:Unit:=()
def tw2379392353141281339:Unit:=()
def tw2991323177740261661:Unit:=()
def tw17064520771338598359:Unit:=()
def tw9664605099656722589:Unit:=()
def tw16836292078837817624:Unit:=()
def tw14610848533645612087:Unit:=()
def tw13692513708652404751:Unit:=()
def tw15251984632179885054:Unit:=()
def tw8272040834627214653:Unit:=()
def tw4977500175962929144:Unit:=()
def tw4210604530347237239:Unit:=()
def tw18194914933870082172:Unit:=()
def tw11932776512251138705:Unit:=()
def tw14886501278950802559:Unit:=()
def tw10749550885389066528:Unit:=()
def tw14848174014790591309:Unit:=()
def tw7499596608732795952:Unit:=()
def tw2988284761935797473:Unit:=()
def tw6884093556052148115:Unit:=()
def tw13589397002489263192:Unit:=()
def tw7908668429846109328:Unit:=()
def tw6546970771522614641:Unit:=()
def tw15215263612843914673:Unit:=()
def tw12400418027353053785:Unit:=()
def tw4256216136617427477:Unit:=()
def tw11300779298486360853:Unit:=()
def tw17859315829956026340:Unit:=()
def tw4734266372942619974:Unit:=()
def tw678629276877822859:Unit:=()
def tw8857934718723690610:Unit:=()
def tw3642572729666413037:Unit:=()
def tw10418547281776701052:Unit:=()
def tw2668639861332703901:Unit:=()
def tw771059389071237210:Unit:=()
def tw1183725200982650475:Unit:=()
def tw5514757755777340556:Unit:=()
def tw7990151725127885199:Unit:=()
def tw16426018710013655536:Unit:=()
def tw2451893212195712775:Unit:=()
def tw17065047778805603631:Unit:=()
def tw2311734658054608323:Unit:=()
def tw16451210975142460972:Unit:=()
def tw8171085260156423313:Unit:=()
def tw15166661497513155690:Unit:=()
def tw11435684006134069157:Unit:=()
def tw9895454908936168310:Unit:=()
def tw8332392731222531526:Unit:=()
def tw10387986023919291588:Unit:=()
def tw4517912887039032804:Unit:=()
def tw3595370673717205478:Unit:=()
def tw15672112021362424804:Unit:=()
def tw15909778325780227977:Unit:=()
def tw3057539099201951424:Unit:=()
end PySem.W.Fast
set_option maxRecDepth 100000 in
set_option maxHeartbeats 0 in
theorem PySem.Challenge.cw_holefloor_k50_whole_crossed_orders_count_holds : PySem.Challenge.rw_holefloor_k50_whole_crossed_orders_count.Holds := by
 w_on;o_law;k_head; (case hw=>w_witness2)
 k_fill
 refine L2.walk_law (k:=8) (x:="_law_script") (l:=PySem.Challenge.rw_holefloor_k50_whole_crossed_orders_count) ⟨rfl,#[0],#[0],rfl⟩ rfl rfl (λw h Y=>PySem.W.kIn_of Y) ?F
 case F=>
  intro w mg fa h KX G hmg;refine' Lw.all_mk KX G hmg ?e1 ?e2 ?e3 ?e4 ?e5 ?e6 ?e7 ?e8 ?e9 ?e10 ?e11 ?e12 ?e13 ?e14 ?e15 ?e16 ?e17 ?e18 ?e19 ?e20 ?e21 ?e22 ?e23 ?e24 ?e25 ?e26 ?e27 ?e28 ?e29 ?e30 ?e31 ?e32 ?e33 ?e34 ?e35 ?e36 ?e37 ?e38 ?e39 ?e40 ?e41 ?e42 ?y_MOST_FLOORS ?z0 ?z1 ?z2 ?z3 ?z4 ?z5 ?z6 ?z7 ?z8 ?z9 ?z10 ?z11 ?z12 ?z13 ?z14 ?z15 ?z16 ?z17
  (case y_MOST_FLOORS=>k_is)
  all_goals first|(refine' Lw.fnE ?a ?l ?c ?k; (case a=>k_is); (case l=>k_is); (case c=>k_is); (case k=>k_is))|k_is

