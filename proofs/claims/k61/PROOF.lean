import PyProof.Rows.All
import Wide.All
import OpenK.AllK
import Wide.FinOn
import Lean
import PyProof.EqAt
import PyProof.EqKinds
import PyProof.TupleCall
import KE.KSortTup
import PyProof.NeKinds
import PyProof.ExcBaseAll.ValueError
import PyProof.ExcArgsOwn
import PyProof.NsDelKeeps
import PyProof.RulesAs
import PyProof.FString
import PyProof.AttrMissSeq
import PyProof.WalksS
import KE.KDictList
import KE.KDictSum
import PyProof.MinMaxWalk
import KE.KMinKey
import PyProof.Rows.CallKwBuiltin
import PyProof.Rows.RuleDivmod
import PyProof.ListMulAny
import PyProof.FactsAll.tuple
import KE.KRevIter
import PyProof.EnumMake
import KE.KMulAny
import PyProof.FactsAll.range
import PyProof.Rows.StrNews
import KE.KIntText
import PyProof.StrWalks
import KE.KLam
import KE.KNestM
import PyProof.ExcInit
import PyProof.InstStoreFacts
import PyProof.DictFindH
import PySem.Challenge.RW_holefloor_k61_whole_no_more_holes
open PySem.Str renaming ofString→oS
open List renaming length_map->AH, getElem?_eq_getElem->AS, getD_eq_getElem?_getD->Al, getElem?_map->Ad, getElem?_eq_some_iff->BZ, length_append->A1, mem_filter->Ao, replicate->Ak, size_toArray->BC, map_append->A5, mem_of_getElem?->Bd, length_cons->BI, mem_singleton->BU, range->Af, mem_cons->Az, mem_range->BD, mem_append_right->Bx, mem_cons_of_mem->Bs, mem_map->A2, getElem?_set_self->B5, mem_cons_self->Bk, map_cons->BO, getElem?_set_ne->B9, length_take->Bn, getElem_mem->Br, length_range->By, getElem?_append_right->Ci, mem_append->Bo, append_nil->Bp, length_singleton->CO, length->BQ, map_map->Ba, filter_cons->CA, length_replicate->Cc, filter_congr->CJ, append_assoc->CK, filter_eq_self->Cd, take_length->CP, getElem?_append_left->Dp, filter_filter->Cj, tail->BV, filter_append->Cw, map->BJ, take_add_one->Cy, map_congr_left->Dq, mem_append_left->D1, pairwise_map->DX, nodup_append->DY, not_mem_nil->DQ, length_drop->DR, nodup_cons->DB, filter_map->DC, all_eq_true->DW, mem_iff_getElem?->ER, pairwise_iff_getElem->FL, pairwise_lt_range->Ek, length_pos_of_mem->El, ext_getElem?->Dz, take_append_drop->En, perm_ext_iff_of_nodup->Fh, sum_cons->DD, eq_nil_of_length_eq_zero->GH, mem_iff_getElem->Eo, getElem?_range->Ep, getElem?_eq_none->FP, getElem_range->Er, lookup_cons->EU, length_nil->EV, take_of_length_le->GI, length_filter_le->GJ, mem_replicate->Fi, take_zero->Es, filter_sublist->GK, find?_cons_of_neg->HA, perm_append_comm->HC, getElem?_zip_eq_some->IG, getElem_toArray->HD, length_set->Ff, getElem?_set->GF, find?_cons->Fg, replicate_succ->Gy, getElem?_replicate->IF, flatMap_append->Gz, any_cons->FN, ext_getElem->GO, filter_eq_nil_iff->IL, getElem?_drop->HG, getElem?_toArray->IM, map_take->Fl, map_drop->Fm, pairwise_append->IQ, mem_of_mem_take->IS, exists_mem_of_ne_nil->Jr, nodup_range->HH, getElem_map->HI, length_pos_iff->IT, getElem_of_mem->IU, set_eq_of_length_le->Js, zip_cons_cons->IV, pairwise_singleton->Jt, pairwise_cons->IW, nil_append->HJ, getElem?_cons_succ->Ju, find?_cons_of_pos->Jp, mem_flatten->IH, isEmpty_iff->II, getElem_inj->IJ, any_eq_true->IK, getElem?_zipIdx->Jq, cons->FT, length_eraseIdx_of_lt->Ls, length_zipIdx->Jy, getElem?_take->Jz, all_map->HK, nodup_nil->Ie, length_erase_of_mem->Lu, getElem?_take_of_lt->Lv, flatten_cons->J1, mem_flatMap->J3, map_snd_zip->J4, cons_append->J5, of_mem_zip->J7, map_set->Ih, map_nil->Ii, map_id'->Ij, length_eraseIdx->Lx, idxOf_cons_self->Ly, drop_zero->Jv, map_id->IY, filterMap_cons->Lm, mem_filterMap->Lo, map_singleton->Lp, getElem_idxOf->Lq, reverse_cons->Lz, mapM_toArray->L0, foldl_append->L3, flatMap_cons->L4, eraseIdx_eq_take_drop_succ->OK, eraseIdxIfInBounds_toArray->OL, eq_nil_iff_forall_not_mem->OM
open PySem.Heap renaming get?_push_of_some->BA, get?_push_size->Bl, lt_size->Ax, get?_update_other->HB, get?_update_self->IP, size_push->GQ, get?_push_ne->J2, size_update->J6
open Int renaming toNat_natCast->Aq, zero_add->DE, toNat_of_nonneg->FQ, ne_of_lt->Em, le_refl->ET, emod_lt_of_pos->IX, emod_nonneg->Ic
open Nat renaming le_refl->AX, ne_of_lt->BF, lt_of_lt_of_le->DP, le_of_lt->CM, zero_le->CS, lt_succ_of_lt->D0, lt_of_le_of_lt->EA, le_trans->Ck, le_succ->D2, lt_irrefl->FO, zero_add->GL, ne_of_gt->GN, min_eq_left->IZ, sub_self->HL, sub_zero->Ik, lt_or_ge->Il, eq_zero_or_pos->Lr, mod_lt->Im, lt_trichotomy->L5
open Bool renaming false_ne_true->BL, false_eq_true->CD, and_eq_true->CT, eq_false_iff->FR, and_false->Fj, eq_iff_iff->GP, not_true->Fn, and_true->GR, false_and->HE, and_comm->HF, true_and->Ig, not_false->Jw, or_false->Jx
open Option renaming some->CF, isSome_map->Ln
set_option Elab.async false
set_option linter.all false
set_option maxRecDepth 100000
open PySem renaming wpAny_bind -> AE, wpAny_pure -> AO, wpAny_holding -> Cv, wpAny_mono -> EN, wpAny_rule -> EO, wpAny_standAt -> Ei, wpAny_attempt -> GA
theorem AL {h:Decidable c}(k:¬c):ite c t e=e:=if_neg k
theorem AM {h:Decidable c}(k:c):ite c t e=t:=if_pos k
theorem Au {h:Decidable p}(k:p):decide p=true:=decide_eq_true k
theorem A4 {h:Decidable p}(k:¬p):decide p=false:=decide_eq_false k
open PySem in
abbrev Ar:=List (Addr × Obj)
open PySem in
abbrev Ai:=Value->Shared->Prop
abbrev AR:=List (Int × Int)
abbrev Ay:=List (List Int)
local macro_rules|`(($a,$b,*))=>`(⟨$a,$b,*⟩)
set_option hygiene false in
local macro_rules
|`(#[0])=>`(by decide +kernel)
|`(#[1])=>`(by decide)
|`(#[2])=>`(by lia)
|`(#[3])=>`(by omega)
|`(#[4])=>`(by simp)
|`(#[5])=>`(by walk_at "sc")
|`(#[6])=>`(by obtain⟨_,_,_,rfl,_⟩:=h;rfl)
|`(#[7])=>`(by obtain⟨_,_,_,_,rfl,_⟩:=h;rfl)
|`(#[8])=>`(by simpa using h)
|`(#[9])=>`(by rw[<- hY];rfl)
|`(#[10])=>`(by simpa using a)
|`(#[11])=>`(by obtain⟨_,_,rfl,_⟩:=h;rfl)
set_option hygiene false in
local macro_rules
|`(command|#check 0)=>`(section variable {X:Cx})
|`(command|#check 1)=>`(section variable {K:W.Frag}{M:AI})
|`(command|#check 2)=>`(open PySem PySem.Spec PyProof.Rows PySem.SeqAt)
|`(command|#check 3)=>`(section variable {K:W.Frag}{M:AI}{P:D->AI->Prop})
|`(command|#check 4)=>`(section variable {prog:Program}{w:World}{A:Around}{E:Ai}{s:Shared})
|`(command|#check 5)=>`(section variable {P:Program}{w:World}{K:W.Frag}{mg:Str->Option Value}{base:Heap}{f:Addr}{fd:FuncData})
|`(command|#check 6)=>`(open PySem PySem.Spec PyProof.Rows PySem.W)
|`(command|#check 7)=>`(section variable {P:Program}{w:World}{K:W.Frag}{mg:Str->Option Value}{base:Heap})
|`(command|#check 8)=>`(section variable {K:W.Frag}{M:AI}{nx bk ct:AI->Prop}{rt:D->AI->Prop}{ro:OD->AI->Prop})
|`(command|#check 9)=>`(variable {nm q:Str}{C N:Addr}{bs bm:List Value}{hdct:Bool}{sn:List Str}{sub:List Value}{ab:Bool}{col:Option Bool}{dd:Option Addr}{k0 k1 k2 k3 k5:Option Value}{newId:String})
set_option hygiene false in
local macro_rules
|`(tactic|sleep 0)=>`(tactic|(refine(#[4],?_);dsimp only[startD,BV,BJ,BQ,Ak]))
set_option compiler.extract_closed false
namespace L2
open PySem PySem.Spec PyProof.Rows
abbrev AV:=Sum Int Str
def keyIs:AV->Value->Bool
 |.inl k,v=>Value.isInt k v
 |.inr x,v=>Value.isStrOf x v
def keyH (w:World):AV->Int
 |.inl k=>hashInt k
 |.inr x=>hashStr w x
theorem FV:∀{k:AV}{v:Value},keyIs k v=true->(∃i t,k=Sum.inl i/\v=Value.int i t)\/(∃x t,k=Sum.inr x/\v=Value.str x t)
 |.inl i,v,h=>by
  obtain⟨t,e⟩:=Value.isInt_shape (k:=i) (v:=v) h;exact .inl (i,t,rfl,e)
 |.inr x,v,h=>by
  obtain⟨t,e⟩:=Value.isStrOf_shape (x:=x) (v:=v) h;exact .inr (x,t,rfl,e)
theorem W0 (i:Int) (t:Tok):keyIs (.inl i) (.int i t)=true:=by simp[keyIs,Value.isInt]
theorem WJ (x:Str) (t:Tok):keyIs (.inr x) (.str x t)=true:=by simp[keyIs,Value.isStrOf]
theorem Th (a b:Int):decide ((Sum.inl a:AV)=Sum.inl b)=(a == b):=by
 by_cases e:a=b
 ·subst e;simp
 ·have h:¬ (Sum.inl a:AV)=Sum.inl b:=λq=>e (Sum.inl.inj q)
  rw[A4 h];exact(beq_eq_false_iff_ne.mpr e).symm
theorem Zz6 (a b:Str):decide ((Sum.inr a:AV)=Sum.inr b)=decide (a=b):=by
 by_cases e:a=b
 ·subst e;simp
 ·have h:¬ (Sum.inr a:AV)=Sum.inr b:=λq=>e (Sum.inr.inj q)
  rw[A4 h,A4 e]
theorem TU (a:Int) (b:Str):decide ((Sum.inl a:AV)=Sum.inr b)=false:=A4 λq=>nomatch q
theorem S3 (a:Str) (b:Int):decide ((Sum.inr a:AV)=Sum.inl b)=false:=A4 λq=>nomatch q
def mixKind (prog:Program) (w:World):PySem.KeyKind prog w AV where
 is:=keyIs
 hash:=keyH w
 inj:=λv a b A B=>by
  rcases FV A with ⟨i,t,rfl,rfl⟩|⟨x,t,rfl,rfl⟩
  ·rcases FV B with ⟨j,u,rfl,e⟩|⟨y,u,rfl,e⟩
   ·injection e with e1 _;rw[e1]
   ·exact nomatch e
  ·rcases FV B with ⟨j,u,rfl,e⟩|⟨y,u,rfl,e⟩
   ·exact nomatch e
   ·injection e with e1 _;rw[e1]
 byValue:=λk v h=>by
  rcases FV h with ⟨i,t,rfl,rfl⟩|⟨x,t,rfl,rfl⟩ <;> rfl
 pyHash:=λV h=>by
  rcases FV V with ⟨i,t,rfl,rfl⟩|⟨x,t,rfl,rfl⟩
  ·exact wpAny_pyHash_int h
  ·exact wpAny_pyHash_str h
 eqBool:=λU V h=>by
  rcases FV U with ⟨i,t,rfl,rfl⟩|⟨x,t,rfl,rfl⟩
  ·rcases FV V with ⟨j,u,rfl,rfl⟩|⟨y,u,rfl,rfl⟩
   ·rw[Th]at h;exact wpAny_eqBool_int h
   ·rw[TU]at h;exact SeqAt.EqAt.int_str i t y u _ _ _ _ h
  ·rcases FV V with ⟨j,u,rfl,rfl⟩|⟨y,u,rfl,rfl⟩
   ·rw[S3]at h;exact SeqAt.EqAt.str_int x t j u _ _ _ _ h
   ·rw[Zz6]at h;exact wpAny_eqBool_str h
 «strs»:=λk x t v h=>by
  rcases FV h with ⟨i,u,rfl,e⟩|⟨y,u,rfl,e⟩
  ·exact nomatch e
  ·injection e with e1 _
   subst e1;cases v <;> rfl
theorem Vs (prog:Program) (w:World) (k:AV) (v:Value):(mixKind prog w).is k v=keyIs k v:=rfl
theorem Uz (prog:Program) (w:World) (i:Int) (t:Tok):(mixKind prog w).is (.inl i) (.int i t)=true:=W0 i t
theorem U4 (prog:Program) (w:World) (x:Str) (t:Tok):(mixKind prog w).is (.inr x) (.str x t)=true:=WJ x t
inductive V where
 |non|bl (b:Bool)|int (i:Int)|str (x:Str)|byt (b:Array UInt8)|flt (b:UInt64)|ref (a:Addr)|ty (n:String)
 deriving DecidableEq
def RelV:V->Value->Prop
 |.non,u=>u=Value.none
 |.bl b,u=>u=Value.bool b
 |.int i,u=>∃t,u=Value.int i t
 |.str x,u=>∃t,u=Value.str x t
 |.byt b,u=>∃t,u=Value.bytes b t
 |.flt b,u=>∃t,u=Value.float b t
 |.ref a,u=>u=Value.ref a
 |.ty n,u=>u=Value.type n
abbrev Vals:List V->List Value->Prop:=Paired RelV
theorem Vals.length (r:Vals xs us):xs.length=us.length:=Paired.length r
theorem Vals.get:∀{xs:List V}{us:List Value}{i:Nat}{x:V},Vals xs us->xs[i]?=some x->∃u,us[i]?=some u/\RelV x u
 |_,_,_,_,.nil,e=>by simp at e
 |_,_,0,_,.cons r _,e=>by simp at e;subst e;exact(_,rfl,r)
 |_,_,i+1,x,.cons _ t,e=>by
  obtain⟨u,h,H⟩:=Vals.get (i:=i) (x:=x) t (by simpa using e);exact(u,#[8],H)
theorem Vals.set (r:RelV x u):∀{xs:List V}{us:List Value}(i:Nat),Vals xs us->Vals (xs.set i x) (us.set i u)
 |_,_,_,.nil=>.nil
 |_,_,0,.cons _ t=>.cons r t
 |_,_,i+1,.cons q t=>.cons q (Vals.set r i t)
theorem Vals.append:∀{xs ys:List V}{us ws:List Value},Vals xs us->Vals ys ws->Vals (xs++ys) (us++ws)
 |_,_,_,_,.nil,s=>s
 |_,_,_,_,.cons r t,s=>.cons r (Vals.append t s)
theorem Vals.take:∀{xs:List V}{us:List Value}(n:Nat),Vals xs us->Vals (xs.take n) (us.take n)
 |_,_,0,_=>.nil
 |_,_,_+1,.nil=>.nil
 |_,_,n+1,.cons r t=>.cons r (Vals.take n t)
theorem Vals.drop:∀{xs:List V}{us:List Value}(n:Nat),Vals xs us->Vals (xs.drop n) (us.drop n)
 |_,_,0,r=>r
 |_,_,_+1,.nil=>.nil
 |_,_,n+1,.cons _ t=>Vals.drop n t
def RelO:Option V->Option Value->Prop
 |some v,some u=>RelV v u
 |none,none=>True
 |_,_=>False
def KV {κ:Type}:List (κ × V)->List (κ × Value)->Prop:=Paired λ(p:κ × V) (q:κ × Value)=>p.1=q.1/\RelV p.2 q.2
def kV:AV->V
 |.inl i=>.int i
 |.inr x=>.str x
inductive HO where
 /-- a list -/
 |lst (xs:List V)
 /-- a tuple (never changes) -/
 |tup (xs:List V)
 /-- a dict whose keys are ints and texts;one whose keys are tuples of ints and texts (the empty one is both) -/
 |dK (kvs:List (AV × V))|dT (kvs:List (List AV × V))
 /-- a set of ints: its members,its size -/
 |set (S:Int->Bool) (n:Nat)
 /-- an instance of the class at C,its dict at dx,its attributes -/
 |ins (C dx:Addr) (fs:List (Str × V))
 /-- the dict of the instance at x -/
 |own (x:Addr)
 /-- the dict of an exception -/
 |xd (fs:List (Str × V))
 /-- a bound method,f of x -/
 |met (f x:Addr)
 /-- a range object lo,lo+1,.. below hi -/
 |rng (lo hi:Int)
 /-- a thing that is known to the object (the script;a dict while a loop walks it): read,never written while it is so -/
 |frz (o:Obj) (u:HO)
 /-- a code object's table -/
 |tbl (ps:Array Value)
 /-- any other thing,by what is true of its one object (a def of one's own: SetO a S n:=HO.ext λh=>..) -/
 |ext (φ:Heap->Prop)
abbrev Hp:=Addr->Option HO
def upd (H:Hp) (a:Addr) (o:HO):Hp:=λb=>if b=a then some o else H b
theorem Bh:upd H a o a=some o:=by unfold upd;rw[AM rfl]
theorem As (h:b≠a):upd H a o b=H b:=by unfold upd;rw[AL h]
theorem Zw1:upd (upd H a o) a u=upd H a u:=by
 funext b;unfold upd;split <;> rfl
theorem UC {H:Hp}(h:H a=some o) (h':H b=some u) (d:o≠u):a≠b:=by
 intro e;subst e;rw[h]at h';exact d<|CF.inj h'
theorem CN {H:Hp}(h:H a=some o) (h':H b=none):a≠b:=by
 intro e;subst e;rw[h]at h';cases h'
def IsTupN (h:Heap) (a:Addr) (its:Array Value):Prop:=∃o,h.get? a=some o/\(o.cls=.type "tuple" /\ ∃n,o.data=.seq its n)/\o.dict=none
theorem IsTupN.tup {h:Heap}{a:Addr}{its:Array Value}(x:IsTupN h a its):IsTup h a its:=let ⟨o,e,c,_⟩:=x; (o,e,c)
theorem IsTupN.new (h:Heap) (items:Array Value):IsTupN (h.push { cls:=.type "tuple",data:=.seq items }) h.objs.size items:=(_,Bl _ rfl,(rfl,_,rfl),rfl)
section
variable (P:Program) (w:World)
def ObjOk (H:Hp) (h:Heap) (a:Addr):HO->Prop
 |.lst xs=>xs.length<=sizeLine/\∃(its:List Value) (n:Nat),Vals xs its/\h.get? a=some { cls:=.type "list",data:=.seq its.toArray n }
 |.tup xs=>xs.length<=sizeLine/\∃its:List Value,Vals xs its/\IsTupN h a its.toArray
 |.dK kvs=>kvs.length<=sizeLine/\(a == sysModules)=false/\∃vs,KV kvs vs/\h.DictOf (mixKind P w) a vs
 |.dT kvs=>kvs.length<=sizeLine/\(a == sysModules)=false/\∃xs:List (List AV × Addr × Value),
   Paired (λ(p:List AV × V) (q:List AV × Addr × Value)=>p.1=q.1/\H q.2.1=some (.tup<|p.1.map kV)/\RelV p.2 q.2.2) kvs xs /\
   ∃o es ep,h.get? a=some o/\o.ExactDict/\o.data=.dict es ep/\es.toList=xs.map (entryOfKey<|tupleKind<|mixKind P w)/\(xs.map (·.1)).Nodup
 |.set S n=>h.SetOf (intKind P w) a S n
 |.ins C dx fs=>H dx=some (.own a)/\fs.length<=1000/\dx≠a/\h.get? a=some (PySem.W.instObj C dx) /\
   ∃mA,h.Ns1 dx mA/\(∀f,RelO (fs.lookup f) (mA f))/\PySem.Within mA (fs.map (·.1))
 |.own _=>∃o,h.get? a=some o
 |.xd fs=>∃mA,h.Ns1 a mA/\∀f,RelO (fs.lookup f) (mA f)
 |.rng lo hi=>∃t u v,h.get? a=some { cls:=.type "range",data:=.fields #[.int lo t,.int hi u,.int 1 v] }
 |.frz o u=>h.get? a=some o/\ObjOk H h a u
 |.tbl ps=>h.get? a=some { cls:=.none,data:=.fields ps }
 |.met f x=>h.get? a=some (PySem.W.methodObj (.ref f) (.ref x))
 |.ext φ=>φ h/\(∃o,h.get? a=some o)/\∀h1 h2:Heap,φ h1->(∀o,h1.get? a=some o->h2.get? a=some o) -> φ h2
def HOk (H:Hp) (h:Heap):Prop:=∀a o,H a=some o->ObjOk P w H h a o
end
section
variable {P:Program}{w:World}{H H':Hp}{h h':Heap}{a:Addr}{o:HO}
theorem ObjOk.lt (x:ObjOk P w H h a o):a<h.objs.size:=by
 cases o with
 |lst xs=>obtain⟨_,_,_,_,e⟩:=x;exact Ax e
 |tup xs=>obtain⟨_,_,_,p⟩:=x;exact p.tup.lt
 |dK kvs=>obtain⟨_,_,_,_,o,_,_,e,_⟩:=x;exact Ax e
 |dT kvs=>obtain⟨_,_,_,_,o,_,_,e,_⟩:=x;exact Ax e
 |set S n=>obtain⟨o,_,_,_,e,_⟩:=x;exact Ax e
 |ins C dx fs=>obtain⟨_,_,_,e,_⟩:=x;exact Ax e
 |own y=>obtain⟨_,e⟩:=x;exact Ax e
 |xd fs=>obtain⟨_,⟨_,_,_,e,_⟩,_⟩:=x;exact Ax e
 |rng lo hi=>obtain⟨_,_,_,e⟩:=x;exact Ax e
 |frz ob u=>obtain⟨e,_⟩:=x;exact Ax e
 |tbl ps=>exact Ax (show h.get? a=some _ from x)
 |met f y=>exact Ax (show h.get? a=some _ from x)
 |ext φ=>obtain⟨_,⟨_,e⟩,_⟩:=x;exact Ax e
theorem Paired.mapP:∀{l₁:List α}{l₂:List β},Paired F l₁ l₂ -> (∀a b,F a b->G a b)->Paired G l₁ l₂
 |_,_,.nil,_=>.nil
 |_,_,.cons r t,f=>.cons (f _ _ r) (Paired.mapP t f)
theorem ObjOk.stay (x:ObjOk P w H h a o) (k:∀b u,(b=a\/H b=some (.own a))->h.get? b=some u->h'.get? b=some u)
  (ho:∀b,H b=some (.own a)->H' b=some (.own a)) (ht:∀b xs,H b=some (.tup xs)->H' b=some (.tup xs)):ObjOk P w H' h' a o:=by
 induction o with
 |lst xs=>obtain⟨z,i,n,r,e⟩:=x;exact(z,i,n,r,k _ _ (.inl rfl) e)
 |tup xs=>obtain⟨z,i,r,B,e,c⟩:=x;exact(z,i,r,B,k _ _ (.inl rfl) e,c)
 |dK kvs=>obtain⟨z,y,V,r,B,s,E,e,c⟩:=x;exact(z,y,V,r,B,s,E,k _ _ (.inl rfl) e,c)
 |dT kvs=>
  obtain⟨z,y,xs,r,B,s,E,e,c⟩:=x;exact(z,y,xs,Paired.mapP r λp q z=>(z.1,ht _ _ z.2.1,z.2.2),B,s,E,k _ _ (.inl rfl) e,c)
 |set S n=>obtain⟨B,s,E,t,e,c⟩:=x;exact(B,s,E,t,k _ _ (.inl rfl) e,c)
 |ins C dx fs=>
  obtain⟨d,z,ne,e,A,⟨D,s,E,g,c⟩,r⟩:=x;exact(ho _ d,z,ne,k _ _ (.inl rfl) e,A,(D,s,E,k _ _ (.inr d) g,c),r)
 |own y=>obtain⟨B,e⟩:=x;exact(B,k _ _ (.inl rfl) e)
 |xd fs=>obtain⟨A,⟨D,s,E,e,c⟩,r⟩:=x;exact(A,(D,s,E,k _ _ (.inl rfl) e,c),r)
 |rng lo hi=>obtain⟨t,u,v,e⟩:=x;exact(t,u,v,k _ _ (.inl rfl) e)
 |frz B u ih=>obtain⟨e,q⟩:=x;exact(k _ _ (.inl rfl) e,ih q)
 |tbl ps=>
  have e:h.get? a=some { cls:=.none,data:=.fields ps }:=x;show h'.get? a=some { cls:=.none,data:=.fields ps };exact k a _ (.inl rfl) e
 |met f y=>
  have e:h.get? a=some (PySem.W.methodObj (.ref f) (.ref y)):=x;show h'.get? a=some (PySem.W.methodObj (.ref f) (.ref y));exact k a _ (.inl rfl) e
 |ext φ=>obtain⟨p,⟨o,e⟩,T⟩:=x;exact(T _ _ p λo q=>k _ _ (.inl rfl) q,(o,k _ _ (.inl rfl) e),T)
theorem HOk.lt (x:HOk P w H h) (e:H a=some o):a<h.objs.size:=(x a o e).lt
theorem HOk.fresh (x:HOk P w H h) (e:h.objs.size<=a):H a=none:=by
 cases q:H a with
 |none=>rfl
 |some u=>exact absurd (DP (x.lt q) e) (FO _)
theorem HOk.kept (x:HOk P w H h) (k:∀b u,h.get? b=some u->h'.get? b=some u):HOk P w H h':=λa o e=>
 (x a o e).stay (λb u _ q=>k b u q) (λ_ q=>q) λ_ _ q=>q
theorem HOk.laid (x:HOk P w H h) (k:∀b u,h.get? b=some u->h'.get? b=some u) (z:h.objs.size<=a) (j:ObjOk P w (upd H a o) h' a o):HOk P w (upd H a o) h':=λb u e=>by
 have n:=x.fresh z;by_cases hb:b=a
 ·subst hb;rw[Bh]at e;cases e;exact j
 ·rw[As hb]at e
  exact(x b u e).stay (λc v _ q=>k c v q) (λc q=>by rw[As (CN q n)];exact q) λc s q=>by rw[As (CN q n)];exact q
end
def Rd (H:Hp) (a:Addr) (u:HO):Prop:=H a=some u\/∃o,H a=some (.frz o u)
theorem Rd.ok (r:Rd H a u) (x:HOk P w H h):ObjOk P w H h a u:=by
 rcases r with r|⟨o,r⟩
 ·exact x a u r
 ·obtain⟨_,q⟩:=x a _ r
  exact q
def IA:Option HO->Prop
 |some (.lst _)=>True
 |some (.dK _)=>True
 |some (.dT _)=>True
 |some (.set _ _)=>True
 |some (.ins _ _ _)=>True
 |some (.ext _)=>True
 |_=>False
section
variable {P:Program}{w:World}{H:Hp}{h h':Heap}{x e:Addr}{o':HO}
theorem HOk.write (L:HOk P w H h) (U:IA (H x)) (J:e=x\/H e=some (.own x)) (k:∀b u,b≠e->h.get? b=some u->h'.get? b=some u) (O:∃u,h'.get? e=some u)
  (j:ObjOk P w (upd H x o') h' x o'):HOk P w (upd H x o') h':=λb u q=>by
 have n:∀c y,H c=some (.own y)->c≠x:=λc y r z=>by subst z;rw[r]at U;exact U
 have p:∀c s,H c=some (.tup s)->c≠x:=λc s r z=>by subst z;rw[r]at U;exact U
 by_cases hb:b=x
 ·subst hb;rw[Bh]at q;cases q;exact j
 ·rw[As hb]at q
  by_cases hbe:b=e
  ·have Q:H b=some (.own x):=by
    rcases J with z|z
    ·exact absurd (hbe.trans z) hb
    ·rw[hbe];exact z
   rw[q]at Q;cases Q;obtain⟨v,V⟩:=O;exact(v,by rw[hbe];exact V)
  ·refine(L b u q).stay (λc v C r=>k c v ?_ r) (λc r=>by rw[As (n c b r)];exact r) λc s r=>by rw[As (p c s r)];exact r
   rcases C with rfl|C
   ·exact hbe
   ·rintro rfl
    rcases J with z|z
    ·exact n c b C z
    ·rw[C]at z;cases z;exact hb rfl
end
structure Un (fs ex:List Addr) (H H':Hp) (h h':Heap):Prop where
 keep:∀b o,h.get? b=some o->H b=none->b ∉ fs->b ∉ ex->h'.get? b=some o
 slot:∀b o,h.get? b=some o->H b=none->b∈fs->b ∉ ex->∃sl,h'.get? b=some { o with slots:=sl }
 free:∀b o,h.get? b=some o->H b=none->b ∉ ex->H' b=none
 there:∀b o,h.get? b=some o->b ∉ ex->∃o',h'.get? b=some o'
 tups:∀b xs,H b=some (.tup xs)->H' b=some (.tup xs)
 frzs:∀b o u,H b=some (.frz o u)->H' b=some (.frz o u)
 tbls:∀b ps,H b=some (.tbl ps)->∃more,H' b=some (.tbl<|ps++more)
section
variable {fs fs' ex ex':List Addr}{H H1 H2:Hp}{h h1 h2 h':Heap}{a x e:Addr}{o:HO}
theorem Un.any (u:Un fs ex H H1 h h1) (q:h.get? b=some ob) (n:H b=none) (hx:b ∉ ex):∃sl,h1.get? b=some { ob with slots:=sl }:=by
 by_cases hb:b∈fs
 ·exact u.slot b ob q n hb hx
 ·exact(ob.slots,u.keep b ob q n hb hx)
theorem Un.kept (k:∀b u,h.get? b=some u->h'.get? b=some u):Un fs ex H H h h':=
 (λb o q _ _ _=>k b o q,λb o q _ _ _=>(o.slots,k b o q),λ_ _ _ n _=>n,λb o q _=>(o,k b o q),λ_ _ q=>q,λ_ _ _ q=>q,λ_ s q=>(#[],by rw[q];simp))
theorem Un.refl:Un fs ex H H h h:=Un.kept λ_ _ q=>q
theorem Un.laid (k:∀b u,h.get? b=some u->h'.get? b=some u) (hp:h.objs.size<=a) (hn:H a=none):Un fs ex H (upd H a o) h h' where
 keep:=λb u q _ _ _=>k b u q
 slot:=λb u q _ _ _=>(u.slots,k b u q)
 free:=λb u q n _=>by rw[As (BF<|DP (Ax q) hp)];exact n
 there:=λb u q _=>(u,k b u q)
 tups:=λb s q=>by rw[As (CN q hn)];exact q
 frzs:=λb u s q=>by rw[As (CN q hn)];exact q
 tbls:=λb p q=>(#[],by rw[As (CN q hn),q];simp)
theorem Un.write (U:IA (H x)) (j:e=x\/H e=some (.own x)) (k:∀b u,b≠e->h.get? b=some u->h'.get? b=some u) (O:∃u,h'.get? e=some u):Un fs ex H (upd H x o) h h':=by
 have X:∀b,H b=none->b≠x:=λb n z=>by subst z;rw[n]at U;exact U
 have B:∀b,H b=none->b≠e:=λb n z=>by
  subst z;rcases j with r|r
  ·exact X b n r
  ·rw[n]at r;cases r
 have m:∀b u,H b=some u->¬ IA (some u)->b≠x:=λb u q M z=>by subst z;rw[q]at U;exact M U
 refine(λb u q n _ _=>k b u (B b n) q,λb u q n _ _=>(u.slots,k b u (B b n) q),λb u q n _=>by rw[As (X b n)];exact n,λb u q _=>?_,
  λb s q=>by rw[As (m b _ q λz=>z)];exact q,λb u s q=>by rw[As (m b _ q λz=>z)];exact q,λb p q=>(#[],by rw[As (m b _ q λz=>z),q];simp))
 by_cases hbe:b=e
 ·subst hbe;exact O
 ·exact(u,k b u hbe q)
end
def trk (h:Heap) (H:Hp):List Addr:=(Af h.objs.size).filter λa=>(H a).isSome
def hidT (h:Heap) (H:Hp):Heap:=PySem.W.hideAll h<|trk h H
theorem WE (h:Heap) (H:Hp):(hidT h H).objs.size=h.objs.size:=PySem.W.hideAll_size _ _
theorem Zvp (e:h.get? b=some o) (n:H b=none):(hidT h H).get? b=some o:=
 PySem.W.hideAll_get _ e λm=>by
  have q:(H b).isSome=true:=(Ao.mp m).2;rw[n]at q;simp at q
theorem Zxv (e:(hidT h H).get? b=some o):h.get? b=some o/\H b=none:=by
 have E:h.get? b=some o:=PySem.W.of_hideAll (trk h H) e;refine(E,?_);cases q:H b with
 |none=>rfl
 |some x=>
  have m:b∈trk h H:=Ao.mpr (BD.mpr<|Ax E,by simp[q]);have z:(hidT h H).get? b=none:=PySem.W.hideAll_none (trk h H) m;rw[z]at e;cases e
def allNews (g h:Heap) (L:Addr):Ar:=(Af h.objs.size).filterMap λa=>if a=L\/(g.get? a).isSome=true then none else (h.get? a).map λo=>(a,o)
def rest (g h:Heap) (L d:Addr):Ar:=(allNews g h L).filter λp=>decide<|p.1≠d
structure Mod (K:W.Frag) (mg:Str->Option Value) (base:Heap):Prop where
 kin:K.In base
 glob:base.Ns mainGlobals mg
 blt:∃mb,base.Ns builtinsNs mb/\∀x:Str,x ≠ "__name__" -> mb x=bootBuiltins x
 nolimit:base.NoLimit
structure Cx where
 prog:Program
 w:World
 K:W.Frag
 mg:Str->Option Value
 base:Heap
 A:Around
 N:List Str
 s₀:Shared
 H₀:Hp
 env:Env
 outer:List Env
 stack:List Env
 ex:List Addr
 fn:Str->Bool
 calm:Bool
 pn:Ar
 xe:Value->Shared->Prop
def frs (l:List Env):List Addr:=l.filterMap (·.frame)
abbrev Cx.fs (X:Cx):List Addr:=frs X.outer
def Ll (j:Scope) (x:Str):Prop:=j.names.lookup x=some .local\/j.names.lookup x=some .cell\/j.names.lookup x=some .free
def Gx (j:Scope) (x:Str):Prop:=j.names.lookup x=some .local\/j.names.lookup x=some .cell
def Look (env:Env) (h:Heap) (m:Str->Option Value) (x:Str) (u:Value):Prop:=
 (env.kindOf x=some .local/\m x=some u)\/((env.kindOf x=some .cell\/env.kindOf x=some .free)/\∃c,env.cells.lookup x=some c/\h.IsCell c (some u))
structure Cx.Ok (X:Cx):Prop where
 mod:Mod X.K X.mg X.base
 kind:X.env.scope.kind=.function
 glob:X.env.globals=mainGlobals
 blt:X.env.builtins=builtinsNs
 above:X.s₀.heap.objs.size<=X.env.locals
 inj:∀x y c,X.env.cells.lookup x=some c->X.env.cells.lookup y=some c->x=y
 has:∀x,(X.env.kindOf x=some .cell\/X.env.kindOf x=some .free)->∃c,X.env.cells.lookup x=some c
 cab:∀x c,X.fn x=true->X.env.cells.lookup x=some c->X.s₀.heap.objs.size<=c
 hd:X.calm=true->X.A.handled=none
 frames:X.A.frames=some X.stack
 stk:X.stack=X.outer\/(X.stack=X.env::X.outer/\X.env.frame=some X.env.locals)
 exf:∀b∈X.ex,b≠X.env.locals/\∀x c,X.env.cells.lookup x=some c->c≠b
 bs:∀b o,X.base.get? b=some o->X.s₀.heap.get? b=some o/\X.H₀ b=none
 bsz:X.base.objs.size<=X.s₀.heap.objs.size
 noex:∀b o,X.base.get? b=some o->b ∉ X.ex
 exfs:∀b∈X.ex,b ∉ X.fs
 funs:X.s₀.heap.FunFrames X.base X.outer
 frf:∀b∈X.fs,X.H₀ b=none
structure AJ (X:Cx) (pins:Ar) (Z:List (Option V)) (H:Hp) (s:Shared):Prop where
 ok:X.Ok
 os:s.os=X.s₀.os
 bare:AllBare s.gens
 base:Un X.fs X.ex X.H₀ H X.s₀.heap s.heap
 loc:∃m,s.heap.Ns X.env.locals m/\∀(i:Nat) (x:Str) (v:V),X.N[i]?=some x -> Z[i]?=some (some v)->Ll X.env.scope x->∃u,RelV v u/\Look X.env s.heap m x u
 cell:∀x c,X.env.cells.lookup x=some c->∃v,s.heap.IsCell c v
 free:H X.env.locals=none
 freeC:∀x c,X.env.cells.lookup x=some c->H c=none
 pin:∀p∈X.pn++pins,s.heap.get? p.1=some p.2/\H p.1=none/\p.1≠X.env.locals/\p.1 ∉ X.fs/\∀v,p.2.data≠.cell v
 hok:HOk X.prog X.w H s.heap
 len:Z.length=X.N.length
section
variable {X:Cx}{pins:Ar}{Z:List (Option V)}{H H':Hp}{s:Shared}{h':Heap}
theorem Cx.Ok.nofr (O:X.Ok) (e:X.base.get? b=some o):b ∉ X.fs:=λh=>by
 have:=(O.funs.mem h).1;rw[e]at this;cases this
theorem AJ.bs (I:AJ X pins Z H s):∀b o,X.base.get? b=some o->s.heap.get? b=some o/\H b=none:=λb o e=>
 (I.base.keep b o (I.ok.bs b o e).1 (I.ok.bs b o e).2 (I.ok.nofr e) (I.ok.noex b o e),I.base.free b o (I.ok.bs b o e).1 (I.ok.bs b o e).2 (I.ok.noex b o e))
theorem AJ.bk (I:AJ X pins Z H s):∀b o,X.base.get? b=some o->s.heap.get? b=some o:=λb o e=>(I.bs b o e).1
theorem AJ.mod (I:AJ X pins Z H s):Mod X.K X.mg X.base:=I.ok.mod
theorem AJ.kIn (I:AJ X pins Z H s):X.K.In s.heap:=I.ok.mod.kin.keeps I.bk
theorem AJ.lt (I:AJ X pins Z H s):X.env.locals<s.heap.objs.size:=let ⟨_,hn,_⟩:=I.loc;hn.lt
theorem AJ.sz (I:AJ X pins Z H s):X.s₀.heap.objs.size<=s.heap.objs.size:=Ck I.ok.above<|CM I.lt
theorem AJ.nofs (I:AJ X pins Z H s) (h:s.heap.objs.size<=a):a ∉ X.fs:=λb=>by
 obtain⟨_,o,O,_⟩:=I.ok.funs.mem b;exact absurd (DP (Ax O)<|Ck I.sz h)<|FO _
theorem AJ.cne (I:AJ X pins Z H s):∀x c,X.env.cells.lookup x=some c->c≠X.env.locals:=λx c e z=>by
 obtain⟨v,o,O,D⟩:=I.cell x c e;obtain⟨m,⟨a,S,p,h,d,_⟩,_⟩:=I.loc;rw[z,h]at O;cases O;rw[d]at D;cases D
theorem AJ.funs (I:AJ X pins Z H s):s.heap.FunFrames X.base X.outer:=by
 have a:∀(l:List Env),(∀b∈frs l,b∈X.fs)->X.s₀.heap.FunFrames X.base l->s.heap.FunFrames X.base l:=by
  intro l
  induction l with
  |nil=>intro _ _;trivial
  |cons env r ih=>
   intro hs hl;obtain⟨k,⟨L,o,f,n,O,d⟩,R⟩:=hl;have h:L∈X.fs:=hs L (by unfold frs;rw[Lm,f];exact Bk);obtain⟨S,e⟩:=I.base.slot L o O (I.ok.frf L h) h λz=>I.ok.exfs L z h;exact(k,(L,_,f,n,e,d),ih (λb B=>hs b (by unfold frs;rw[Lm,f];exact Bs _ B)) R)
 exact a X.outer (λ_ B=>B) I.ok.funs
theorem AJ.stack (I:AJ X pins Z H s):s.heap.FunFrames X.base X.stack:=by
 rcases I.ok.stk with e|⟨e,f⟩
 ·rw[e];exact I.funs
 ·rw[e]
  obtain⟨m,n,_⟩:=I.loc;refine .cons (by rw[I.ok.kind];decide) f n ?_ I.funs;exact Heap.get?_none_of_le<|Ck I.ok.bsz I.ok.above
theorem AJ.stkSub (I:AJ X pins Z H s):∀b∈frs X.stack,b∈X.env.locals::X.fs:=λb h=>by
 rcases I.ok.stk with e|⟨e,f⟩
 ·rw[e]at h;exact Bs _ h
 ·rw[e]at h
  unfold frs at h;rw[Lm,f]at h;exact h
theorem AJ.stkFree (I:AJ X pins Z H s):∀b∈frs X.stack,H b=none:=λb h=>by
 rcases Az.mp (I.stkSub b h) with e|h
 ·rw[e];exact I.free
 ·obtain⟨_,o,O,_⟩:=I.ok.funs.mem h
  exact I.base.free b o O (I.ok.frf b h) λz=>I.ok.exfs b z h
theorem AJ.step {g':Array GenState}{t':Nat}{d':Drawn}{ch:List Addr}(I:AJ X pins Z H s)
  (hch:∀b∈ch,(b∈X.ex\/X.s₀.heap.objs.size<=b)/\b≠X.env.locals/\(∀x c,X.env.cells.lookup x=some c->c≠b)/\∀p∈X.pn++pins,p.1≠b)
  (keep:∀b o,b≠X.env.locals->b ∉ X.fs->b ∉ ch->s.heap.get? b=some o->H b=none->h'.get? b=some o)
  (slot:∀b o,b≠X.env.locals->b∈X.fs->b ∉ ch->s.heap.get? b=some o->H b=none->∃sl,h'.get? b=some { o with slots:=sl }) (free:∀b o,b ∉ ch->s.heap.get? b=some o->H b=none->H' b=none)
  (there:∀b o,b ∉ ch->s.heap.get? b=some o->∃o',h'.get? b=some o')
  (tups:∀b xs,H b=some (.tup xs)->H' b=some (.tup xs)) (frzs:∀b o u,H b=some (.frz o u)->H' b=some (.frz o u)) (tbls:∀b ps,H b=some (.tbl ps)->∃more,H' b=some (.tbl<|ps++more))
  (ns:∀m,s.heap.Ns X.env.locals m->h'.Ns X.env.locals m) (hok:HOk X.prog X.w H' h') (hg:AllBare g') :
  AJ X pins Z H' { s with heap:=h',gens:=g',drawn:=d',toks:=t' }:=by
 have L:∀b o,X.s₀.heap.get? b=some o->b≠X.env.locals:=λb o e=>BF<|DP (Ax e) I.ok.above;have N:∀b o,X.s₀.heap.get? b=some o->b ∉ X.ex->b ∉ ch:=λb o e h B=>by
  rcases(hch b B).1 with z|z
  ·exact h z
  ·exact absurd (DP (Ax e) z)<|FO _
 have K:∀x c,X.env.cells.lookup x=some c->∀v,s.heap.IsCell c v->h'.IsCell c v:=λx c e v Q=>by
  obtain⟨o,O,D⟩:=Q;have C:c ∉ ch:=λz=>(hch c z).2.2.1 x c e rfl;by_cases hc:c∈X.fs
  ·obtain⟨sl,q⟩:=slot c o (I.cne x c e) hc C O (I.freeC x c e)
   exact(_,q,D)
  ·exact(o,keep c o (I.cne x c e) hc C O<|I.freeC x c e,D)
 refine(I.ok,I.os,hg,(λb o e n B h=>?_,λb o e n B h=>?_,λb o e n h=>?_,λb o e h=>?_,λb xs e=>tups b xs<|I.base.tups b xs e,λb o xs e=>frzs b o xs<|I.base.frzs b o xs e,λb ps e=>?_),?_,λx c e=>?_,?_,λx c e=>?_,λp P=>?_,hok,I.len)
 ·exact keep b o (L b o e) B (N b o e h) (I.base.keep b o e n B h)<|I.base.free b o e n h
 ·obtain⟨sl,E⟩:=I.base.slot b o e n B h
  obtain⟨S,a⟩:=slot b _ (L b o e) B (N b o e h) E<|I.base.free b o e n h;exact(S,a)
 ·obtain⟨o',E⟩:=I.base.there b o e h
  exact free b o' (N b o e h) E<|I.base.free b o e n h
 ·obtain⟨o',E⟩:=I.base.there b o e h
  exact there b o' (N b o e h) E
 ·obtain⟨M,E⟩:=I.base.tbls b ps e
  obtain⟨y,a⟩:=tbls b _ E;exact(M++y,by rw[a,Array.append_assoc])
 ·obtain⟨m,t,j⟩:=I.loc
  refine(m,ns m t,λi x v E a g=>?_);obtain⟨u,r,l⟩:=j i x v E a g;refine(u,r,?_);rcases l with l|⟨k,c,e,z⟩
  ·exact .inl l
  ·exact .inr (k,c,e,K x c e _ z)
 ·obtain⟨v,z⟩:=I.cell x c e
  exact(v,K x c e v z)
 ·obtain⟨m,⟨o,_,_,O,_⟩,_⟩:=I.loc
  exact free _ o (λz=>(hch _ z).2.1 rfl) O I.free
 ·obtain⟨v,o,O,D⟩:=I.cell x c e
  exact free c o (λz=>(hch c z).2.2.1 x c e rfl) O<|I.freeC x c e
 ·obtain⟨e,n,ne,f,d⟩:=I.pin p P
  have C:p.1 ∉ ch:=λz=>(hch p.1 z).2.2.2 p P rfl;exact(keep p.1 p.2 ne f C e n,free p.1 p.2 C e n,ne,f,d)
theorem AJ.un (I:AJ X pins Z H s) (u:Un X.fs [] H H' s.heap h') (hok:HOk X.prog X.w H' h'):AJ X pins Z H' { s with heap:=h',toks:=t' }:=by
 obtain⟨m,⟨o,E,P,O,r⟩,_⟩:=id I.loc;obtain⟨l,L⟩:=u.any O I.free #[4];exact I.step (g':=s.gens) (d':=s.drawn) (ch:=[]) (λ_ z=>nomatch z) (λb o _ B _ e n=>u.keep b o e n B #[4]) (λb o _ B _ e n=>u.slot b o e n B #[4]) (λb o _ e n=>u.free b o e n #[4]) (λb o _ e=>u.there b o e #[4]) u.tups u.frzs u.tbls (λa M=>by
  obtain⟨c,S,p,h,R⟩:=M;rw[O]at h;cases h;exact(_,S,p,L,R)) hok I.bare
theorem AJ.call {g':Array GenState}{t':Nat}{d':Drawn}{ch:List Addr}(I:AJ X pins Z H s) (u:Un (frs X.stack) ch H H' s.heap h') (hok:HOk X.prog X.w H' h') (hg:AllBare g')
  (hch:∀b∈ch,(b∈X.ex\/X.s₀.heap.objs.size<=b)/\b≠X.env.locals/\(∀x c,X.env.cells.lookup x=some c->c≠b)/\∀p∈X.pn++pins,p.1≠b) :
  AJ X pins Z H' { s with heap:=h',gens:=g',drawn:=d',toks:=t' }:=by
 obtain⟨m,⟨o,d,E,a,r⟩,_⟩:=id I.loc;obtain⟨l,L⟩:=u.any a I.free λz=>(hch _ z).2.1 rfl;exact I.step (ch:=ch) hch (λb o L B h e n=>u.keep b o e n (λz=>(Az.mp (I.stkSub b z)).elim L B) h) (λb o _ _ h e n=>u.any e n h) (λb o h e n=>u.free b o e n h) (λb o h e=>u.there b o e h) u.tups u.frzs u.tbls (λf M=>by
  obtain⟨g,S,P,O,R⟩:=M;rw[a]at O;cases O;exact(_,S,P,L,R)) hok hg
theorem AJ.turned (I:AJ X pins Z H s) (k:∀b o,b≠it->s.heap.get? b=some o->h'.get? b=some o) (hn:H it=none) (hL:it≠X.env.locals)
  (h1:it∈X.ex\/X.s₀.heap.objs.size<=it) (h2:∀x c,X.env.cells.lookup x=some c->c≠it) (h3:∀p∈X.pn++pins,p.1≠it):AJ X pins Z H { s with heap:=h',toks:=t' }:=by
 have t:∀b u,H b=some u->b≠it:=λb u e z=>by rw[z,hn]at e;cases e
 refine I.step (g':=s.gens) (d':=s.drawn) (ch:=[it]) (λb B=>?_) (λb o _ _ h e _=>k b o (λz=>h (by simp[z])) e) (λb o _ _ h e _=>(o.slots,k b o (λz=>h (by simp[z])) e)) (λ_ _ _ _ n=>n)
  (λb o h e=>(o,k b o (λz=>h (by simp[z])) e)) (λ_ _ e=>e) (λ_ _ _ e=>e) (λb a e=>(#[],by rw[e];simp)) (λm M=>?_) (λb u e=>?_) I.bare
 ·have e:b=it:=by simpa using B
  subst e;exact(h1,hL,h2,h3)
 ·obtain⟨o,S,P,O,r⟩:=M
  exact(o,S,P,k _ o (Ne.symm hL) O,r)
 ·refine(I.hok b u e).stay (λc v h q=>k c v ?_ q) (λ_ q=>q) λ_ _ q=>q
  rcases h with z|z
  ·rw[z];exact t b u e
  ·exact t c _ z
theorem AJ.tok (I:AJ X pins Z H s) (t:Nat):AJ X pins Z H { s with toks:=t }:=I.un (h':=s.heap) (t':=t) Un.refl I.hok
theorem AJ.kept (I:AJ X pins Z H s) (k:∀b u,s.heap.get? b=some u->h'.get? b=some u):AJ X pins Z H { s with heap:=h',toks:=t' }:=I.un (Un.kept k)<|I.hok.kept k
theorem AJ.laid {a:Addr}{o:HO}{t':Nat}(I:AJ X pins Z H s) (k:∀b u,s.heap.get? b=some u->h'.get? b=some u) (hp:s.heap.objs.size<=a) (new:ObjOk X.prog X.w (upd H a o) h' a o) :
  AJ X pins Z (upd H a o) { s with heap:=h',toks:=t' }:=I.un (Un.laid k hp<|I.hok.fresh hp)<|I.hok.laid k hp new
theorem AJ.write (I:AJ X pins Z H s) (mu:IA (H x)) (he:e=x\/H e=some (.own x)) (k:∀b u,b≠e->s.heap.get? b=some u->h'.get? b=some u) (heo:∃u,h'.get? e=some u)
  (new:ObjOk X.prog X.w (upd H x o) h' x o):AJ X pins Z (upd H x o) { s with heap:=h',toks:=t' }:=I.un (Un.write mu he k heo)<|I.hok.write mu he k heo new
theorem AJ.pins_of (I:AJ X pins Z H s) (h:∀p∈pins',s.heap.get? p.1=some p.2/\H p.1=none/\p.1≠X.env.locals/\p.1 ∉ X.fs/\∀v,p.2.data≠.cell v):AJ X pins' Z H s:=
 (I.ok,I.os,I.bare,I.base,I.loc,I.cell,I.free,I.freeC,λp P=>(Bo.mp P).elim (λz=>I.pin p<|D1 _ z) (h p),I.hok,I.len)
theorem Qz {N:List Str}(z:N.Nodup) {i j:Nat}(a:N[i]?=some x) (b:N[j]?=some x):i=j:=by
 obtain⟨h,e⟩:=BZ.mp a;obtain⟨H,E⟩:=BZ.mp b;exact(IJ z).mp (e.trans E.symm)
theorem Mx (I:AJ X pins Z H s) (hN:X.N.Nodup) (hi:X.N[i]?=some x) (hx:Gx X.env.scope x) (r:RelV v u)
  (h:∀s',AJ X pins (Z.set i<|some v) H s' -> (∃a,Heap.SameBut a s.heap s'.heap/\(a=X.env.locals\/X.env.cells.lookup x=some a))->Q () s') (hf:X.fn x=true\/X.env.scope.names.lookup x=some .local:=by first|exact .inl rfl|exact .inr rfl|assumption):wpAny M_ A (storeName X.env x u) Q E s:=by
 obtain⟨m,U,hl⟩:=id I.loc;have L:(X.env.scope.kind == .class || (X.env.scope.kind == .module && X.env.locals != X.env.globals))=false:=by rw[I.ok.kind];rfl
 have J:i < Z.length:=by rw[I.len];exact(BZ.mp hi).1
 have l:=I.cne;have t:∀{a:Addr}{D:Heap},(∃o,s.heap.get? a=some o/\H a=none)->Heap.SameBut a s.heap D -> HOk X.prog X.w H D:=λ{a D} ha S b ob e=>by
  obtain⟨_,_,R⟩:=ha;refine(I.hok b ob e).stay (λc W C q=>(S.2 c ?_).trans q) (λ_ q=>q) λ_ _ q=>q;rintro rfl;rcases C with rfl|C
  ·rw[R]at e;cases e
  ·rw[R]at C;cases C
 rcases hx with K|K
 ·refine wpAny_storeName_local K U (λD V S=>?_) L
  obtain⟨oL,_,_,Y,_⟩:=id U;refine h _ (I.ok,I.os,I.bare,(λb o e n B hx=>?_,λb o e n B hx=>?_,I.base.free,λb o e hx=>?_,I.base.tups,I.base.frzs,I.base.tbls),(_,V,λj y v' f g T=>?_),λy c e=>?_,I.free,I.freeC,λp hp=>?_,t (oL,Y,I.free) S,by simpa using I.len) (_,S,.inl rfl)
  ·exact(S.2 b<|BF<|DP (Ax e) I.ok.above).trans (I.base.keep b o e n B hx)
  ·obtain⟨sl,f⟩:=I.base.slot b o e n B hx
   exact(sl,(S.2 b<|BF<|DP (Ax e) I.ok.above).trans f)
  ·obtain⟨o',f⟩:=I.base.there b o e hx
   exact(o',(S.2 b<|BF<|DP (Ax e) I.ok.above).trans f)
  ·by_cases hj:j=i
   ·subst hj
    rw[hi]at f;cases f;rw[B5 J]at g;cases g;exact(u,r,.inl (K,#[4]))
   ·rw[B9 (Ne.symm hj)]at g
    obtain⟨u',r',q⟩:=hl j y v' f g T;refine(u',r',?_);rcases q with ⟨k,e⟩|⟨k,c,e,z⟩
    ·refine .inl (k,?_)
     have:y≠x:=λe=>hj<|Qz hN f (e ▸ hi);simp[this,e]
    ·exact .inr (k,c,e,z.sameBut S<|l y c e)
  ·obtain⟨W,z⟩:=I.cell y c e
   exact(W,z.sameBut S<|l y c e)
  ·obtain⟨e,n,ne,nf,d⟩:=I.pin p hp
   exact((S.2 p.1 ne).trans e,n,ne,nf,d)
 ·have F:X.fn x=true:=by
   rcases hf with z|z
   ·exact z
   ·rw[z]at K;cases K
  obtain⟨c,C⟩:=I.ok.has x (.inl K);obtain⟨W,z⟩:=I.cell x c C;refine wpAny_storeName_cell I.ok.kind K C z λD G S=>?_;obtain⟨oc,O,M⟩:=id z;refine h { s with heap:=D } (I.ok,I.os,I.bare,(λb o e n B hx=>?_,λb o e n B hx=>?_,I.base.free,λb o e hx=>?_,I.base.tups,I.base.frzs,I.base.tbls),(m,U.sameBut S<|Ne.symm<|l x c C,λj y v' f g T=>?_),λy P e=>?_,I.free,I.freeC,λp hp=>?_,t (oc,O,I.freeC x c C) S,by simpa using I.len) (c,S,.inr C)
  ·exact(S.2 b<|BF<|DP (Ax e)<|I.ok.cab x c F C).trans (I.base.keep b o e n B hx)
  ·obtain⟨sl,f⟩:=I.base.slot b o e n B hx
   exact(sl,(S.2 b<|BF<|DP (Ax e)<|I.ok.cab x c F C).trans f)
  ·obtain⟨o',f⟩:=I.base.there b o e hx
   exact(o',(S.2 b<|BF<|DP (Ax e)<|I.ok.cab x c F C).trans f)
  ·by_cases hj:j=i
   ·subst hj
    rw[hi]at f;cases f;rw[B5 J]at g;cases g;exact(u,r,.inr (.inl K,c,C,G))
   ·rw[B9 (Ne.symm hj)]at g
    obtain⟨u',r',q⟩:=hl j y v' f g T;refine(u',r',?_);rcases q with q|⟨k,P,e,z'⟩
    ·exact .inl q
    ·refine .inr (k,P,e,z'.sameBut S ?_)
     rintro rfl;exact hj<|Qz hN f (I.ok.inj _ _ _ e C ▸ hi)
  ·by_cases hcc:P=c
   ·subst hcc;exact(_,G)
   ·obtain⟨w2,z2⟩:=I.cell y P e
    exact(w2,z2.sameBut S hcc)
  ·obtain⟨e,n,ne,nf,d⟩:=I.pin p hp
   refine((S.2 p.1 ?_).trans e,n,ne,nf,d);intro q;rw[q,O]at e;have q':oc=p.2:=CF.inj e;exact d W (by rw[<- q'];exact M)
theorem K1 (I:AJ X pins Z H s) (j:X.N.Nodup) (hi:X.N[i]?=some x) (z:Gx X.env.scope x) (r:RelV v u)
  (h:∀s',AJ X pins (Z.set i<|some v) H s' -> Q () s') (hf:X.fn x=true\/X.env.scope.names.lookup x=some .local:=by first|exact .inl rfl|exact .inr rfl|assumption):wpAny M_ A (storeName X.env x u) Q E s:=
 Mx I j hi z r (λs' a _=>h s' a) hf
theorem AJ.call' (I:AJ X pins Z H s) (ho:s'.os=s.os) (u:Un (frs X.stack) ch H H' s.heap s'.heap) (O:HOk X.prog X.w H' s'.heap) (z:AllBare s'.gens)
  (j:∀b∈ch,(b∈X.ex\/X.s₀.heap.objs.size<=b)/\b≠X.env.locals/\(∀x c,X.env.cells.lookup x=some c->c≠b)/\∀p∈X.pn++pins,p.1≠b):AJ X pins Z H' s':=by
 obtain⟨h,g',d',t',o⟩:=s';have e:o=s.os:=ho;subst e;exact I.call (g':=g') (t':=t') (d':=d') u O z j
end
abbrev XK:=Value->Option Addr->Hp->Prop
abbrev St:=List<|Option V
abbrev VK:=V->Hp->Prop
abbrev TE:=St->Hp->VK->Prop
abbrev TT:=St->Hp->(Bool->Hp->Prop)->Prop
abbrev TA:=St->Hp->(List V->Hp->Prop)->Prop
structure Ends where
 nx:St->Hp->Prop
 rt:VK
 bk:St->Hp->Prop:=λ_ _=>False
 ct:St->Hp->Prop:=λ_ _=>False
abbrev TS:=Ends->St->Hp->Prop
def EP (X:Cx) (pins:Ar) (Z:St) (Q:VK) (u:Value) (s':Shared):Prop:=∃v H',AJ X pins Z H' s' /\ RelV v u/\Q v H'
def TP (X:Cx) (pins:Ar) (Z:St) (Q:Bool->Hp->Prop) (b:Bool) (s':Shared):Prop:=∃H',AJ X pins Z H' s' /\ Q b H'
def AP (X:Cx) (pins:Ar) (Z:St) (Q:List V->Hp->Prop) (us:List Value) (s':Shared):Prop:=∃vs H',AJ X pins Z H' s' /\ Vals vs us/\Q vs H'
def SP (X:Cx) (pins:Ar) (D:Ends) (f:Flow) (s':Shared):Prop:=
 match f with
 |.next=>∃Z' H',AJ X pins Z' H' s' /\ D.nx Z' H'
 |.brk=>∃Z' H',AJ X pins Z' H' s' /\ D.bk Z' H'
 |.cont=>∃Z' H',AJ X pins Z' H' s' /\ D.ct Z' H'
 |.ret u=>∃v Z' H',AJ X pins Z' H' s' /\ RelV v u/\D.rt v H'
def PE (X:Cx) (e:Expr) (t:TE):Prop:=
 ∀(pins:Ar) (s:Shared) (Z:St) (H:Hp) (Q:VK),AJ X pins Z H s->t Z H Q->wpAny (model X.prog X.w) X.A (eval e X.env) (EP X pins Z Q) X.xe s
def PT (X:Cx) (e:Expr) (t:TT):Prop:=
 ∀(pins:Ar) (s:Shared) (Z:St) (H:Hp) (Q:Bool->Hp->Prop),AJ X pins Z H s->t Z H Q->wpAny (model X.prog X.w) X.A (isTrue e X.env<|eval e X.env) (TP X pins Z Q) X.xe s
def PW (X:Cx) (e:Expr) (t:TT):Prop:=
 ∀(whole:Sem Value) (pins:Ar) (s:Shared) (Z:St) (H:Hp) (Q:Bool->Hp->Prop),AJ X pins Z H s->t Z H Q->wpAny (model X.prog X.w) X.A (isTrue e X.env whole) (TP X pins Z Q) X.xe s
theorem PW.pt (h:PW X e t):PT X e t:=h _
def PA (X:Cx) (es:List Expr) (t:TA):Prop:=
 ∀(pos:Pos) (pins:Ar) (s:Shared) (Z:St) (H:Hp) (Q:List V->Hp->Prop),AJ X pins Z H s->t Z H Q->wpAny (model X.prog X.w) X.A (spliced<|backTo pos<|starEach es X.env) (AP X pins Z Q) X.xe s
def PS (X:Cx) (st:Stmt) (t:TS):Prop:=
 ∀(pins:Ar) (s:Shared) (Z:St) (H:Hp) (D:Ends),AJ X pins Z H s->t D Z H->wpAny (model X.prog X.w) X.A (exec st X.env) (SP X pins D) X.xe s
def PSs (X:Cx) (st:List Stmt) (t:TS):Prop:=
 ∀(pins:Ar) (s:Shared) (Z:St) (H:Hp) (D:Ends),AJ X pins Z H s->t D Z H->wpAny (model X.prog X.w) X.A (execs st X.env) (SP X pins D) X.xe s
theorem thn (h:wpAny M_ A t Q E s) (j:∀a s,Q a s->Q' a s):wpAny M_ A t Q' E s:=EN h j λ_ _ x=>x
#check 0
def tVar (i:Nat):TE:=λZ H Q=>∃v,Z[i]?=some (some v)/\Q v H
def tC (v:V):TE:=λ_ H Q=>Q v H
theorem TJ (J:X.N[i]?=some x) (O:Ll X.env.scope x) (z:(x == ("__debug__":Str))=false:=by decide) (j:(x == ("__classdict__":Str))=false:=by decide):PE X (.Name x pos) (tVar i):=by
 intro pins s Z H Q I h;obtain⟨v,e,h⟩:=h;obtain⟨m,b,a⟩:=I.loc;obtain⟨u,r,l⟩:=a i x v J e O;have n:EP X pins Z Q u s:=(v,H,I,r,h);rcases l with ⟨k,M⟩|⟨k,c,C,L⟩
 ·exact wpAny_Name (wpAny_loadName_local I.ok.kind k b M n) z
 ·rcases k with k|k
  ·exact wpAny_Name (wpAny_loadName_cell I.ok.kind k C L n) z
  ·exact wpAny_Name (wpAny_loadName_free I.ok.kind k C L n j) z
theorem AQ {i j pos}:PE X (.Constant (.int i) j pos) (tC (.int i)):=λ_ _ _ H _ I h=>wpAny_Constant_int (.int i,H,I.tok _,(_,rfl),h)
theorem Hx {b j pos}:PE X (.Constant (.bool b) j pos) (tC (.bl b)):=λ_ _ _ H _ I h=>Constant_bool (.bl b,H,I,rfl,h)
theorem Jf {j pos}:PE X (.Constant .none j pos) (tC .non):=λ_ _ _ H _ I h=>Constant_none (.non,H,I,rfl,h)
theorem SH {x j pos}:PE X (.Constant (.str x) j pos) (tC (.str x)):=λ_ _ _ H _ I h=>Calls.Constant_str (.str x,H,I.tok _,(_,rfl),h)
def Gl (X:Cx) (x:Str):Prop:=X.env.kindOf x=some .globalImplicit
theorem RZ (I:AJ X pins Z H s) (z:Gl X x) (hm:X.mg x=some u) (h:Q u s)
  (j:(x == ("__debug__":Str))=false:=by decide):wpAny (model X.prog X.w) X.A (eval (.Name x pos) X.env) Q E s:=
 Calls.Name_function_global I.ok.kind z (Calls.loadGlobal_global (by rw[I.ok.glob];exact I.mod.glob.keeps I.bk) hm h) j
theorem Dj (I:AJ X pins Z H s) (z:Gl X x) (hm:X.mg x=none) (L:bootBuiltins x=some u) (h:Q u s)
  (J:x ≠ "__name__":=by decide) (j:(x == ("__debug__":Str))=false:=by decide):wpAny (model X.prog X.w) X.A (eval (.Name x pos) X.env) Q E s:=by
 obtain⟨m,a,b⟩:=I.mod.blt;exact Calls.Name_function_global I.ok.kind z (Calls.loadGlobal_builtin (by rw[I.ok.glob];exact I.mod.glob.keeps I.bk) hm (by rw[I.ok.blt];exact a.keeps I.bk) ((b x J).trans L) h) j
theorem Zw2 (z:Gl X x) (hm:X.mg x=some u) (r:RelV v u) (j:(x == ("__debug__":Str))=false:=by decide):PE X (.Name x pos) (tC v):=
 λ_ _ _ H _ I h=>RZ I z hm (v,H,I,r,h) j
theorem E6 (z:Gl X x) (hm:X.mg x=none) (L:bootBuiltins x=some u) (r:RelV v u) (J:x ≠ "__name__":=by decide) (j:(x == ("__debug__":Str))=false:=by decide):PE X (.Name x pos) (tC v):=
 λ_ _ _ H _ I h=>Dj I z hm L (v,H,I,r,h) J j
variable {a b:Expr}{ta tb:TE}{pos:Pos}
variable {tA tB':TT}{rest:List Expr}
def tAnd (t u:TT):TT:=λZ H Q=>t Z H λc h=>if c=true then u Z h Q else Q false h
def tOr (t u:TT):TT:=λZ H Q=>t Z H λc h=>if c=true then Q true h else u Z h Q
def tNot (t:TT):TT:=λZ H Q=>t Z H λc h=>Q (!c) h
theorem pw_and1 (j:PT X a tA):PW X (.BoolOp .And [a] pos) tA:=by
 intro wh pins s Z H Q I h;refine isTrue_and (thn (j pins s Z H Q I h) λc S e=>?_);cases c with
 |true=>exact isTrue_and_nil e
 |false=>exact e
theorem pw_or1 (j:PT X a tA):PW X (.BoolOp .Or [a] pos) tA:=by
 intro wh pins s Z H Q I h;refine isTrue_or (thn (j pins s Z H Q I h) λc S e=>?_);cases c with
 |false=>exact isTrue_or_nil e
 |true=>exact e
theorem pw_and (j:PT X a tA) (z:PW X (.BoolOp .And (b::rest) pos) tB'):PW X (.BoolOp .And (a::b::rest) pos) (tAnd tA tB'):=by
 intro wh pins s Z H Q I h;refine isTrue_and (thn (j pins s Z H _ I h) λc s1 (H1,I1,q1)=>?_);cases c with
 |true=>exact z wh pins s1 Z H1 Q I1 q1
 |false=>exact(H1,I1,q1)
theorem pw_or (j:PT X a tA) (z:PW X (.BoolOp .Or (b::rest) pos) tB'):PW X (.BoolOp .Or (a::b::rest) pos) (tOr tA tB'):=by
 intro wh pins s Z H Q I h;refine isTrue_or (thn (j pins s Z H _ I h) λc s1 (H1,I1,q1)=>?_);cases c with
 |true=>exact(H1,I1,q1)
 |false=>exact z wh pins s1 Z H1 Q I1 q1
theorem DJ (j:PT X a tA):PT X (.UnaryOp .Not a pos) (tNot tA):=by
 intro pins s Z H Q I h;exact isTrue_not<|j pins s Z H (λc b=>Q (!c) b) I h
def tAndV (ta tb:TE):TE:=λZ H Q=>ta Z H λx h=>∃c,x=.bl c/\if c=true then tb Z h Q else Q (.bl false) h
def tOrV (ta tb:TE):TE:=λZ H Q=>ta Z H λx h=>∃c,x=.bl c/\if c=true then Q (.bl true) h else tb Z h Q
def tNotV (ta:TE):TE:=λZ H Q=>ta Z H λx h=>∃c,x=.bl c/\Q (.bl (!c)) h
theorem Jg {op} (h:PE X a t):PE X (.BoolOp op [a] pos) t:=λn s Z H Q I w=>BoolOp_one<|h n s Z H Q I w
theorem Hs (j:PE X a ta) (z:PE X (.BoolOp .And (b::rest) pos) tb):PE X (.BoolOp .And (a::b::rest) pos) (tAndV ta tb):=by
 intro pins s Z H Q I h;refine BoolOp_and (thn (j pins s Z H _ I h) λv s1 (x,H1,I1,r1,q)=>?_);obtain⟨c,rfl,q⟩:=q;cases r1;refine wpAny_truthy_bool ?_;cases c with
 |true=>exact z pins s1 Z H1 Q I1 q
 |false=>exact(.bl false,H1,I1,rfl,q)
theorem Ry (j:PE X a ta):PE X (.UnaryOp .Not a pos) (tNotV ta):=by
 intro pins s Z H Q I h;refine UnaryOp_ (thn (j pins s Z H _ I h) λv s1 (x,H1,I1,r1,q)=>?_);obtain⟨c,rfl,q⟩:=q;cases r1;exact not_of<|wpAny_truthy_bool (.bl (!c),H1,I1,rfl,q)
def tIf (t:TT) (ta tb:TE):TE:=λZ H Q=>t Z H λc h=>if c=true then ta Z h Q else tb Z h Q
theorem NW (J:PT X c tA) (j:PE X a ta) (z:PE X b tb):PE X (.IfExp c a b pos) (tIf tA ta tb):=by
 intro pins s Z H Q I h;refine wpAny_IfExp (thn (J pins s Z H _ I h) λd s1 (H1,I1,q1)=>?_);cases d with
 |true=>exact j pins s1 Z H1 Q I1 q1
 |false=>exact z pins s1 Z H1 Q I1 q1
end
def SqL (K:W.Frag) (H:Hp) (a:Addr) (xs:List V):Prop:=
 Rd H a (.lst xs) \/
  ∃(o:Obj) (its:Array Value) (n:Nat),K.lookup a=some o/\o.cls=.type "list" /\ o.dict=none/\o.data=.seq its n/\its.size<=sizeLine/\Vals xs its.toList
def SqT (K:W.Frag) (H:Hp) (a:Addr) (xs:List V):Prop:=
 Rd H a (.tup xs) \/
  ∃(o:Obj) (its:Array Value) (n:Nat),K.lookup a=some o/\o.cls=.type "tuple" /\ o.data=.seq its n/\its.size<=sizeLine/\Vals xs its.toList
def absV:Value->Option V
 |.none=>some .non
 |.bool b=>some (.bl b)
 |.int i _=>some (.int i)
 |.str x _=>some (.str x)
 |.bytes b _=>some (.byt b)
 |.float b _=>some (.flt b)
 |.ref a=>some (.ref a)
 |.type n=>some (.ty n)
 |_=>none
theorem RelV.abs (r:RelV x u):absV u=some x:=by
 cases x with
 |non=>cases r;rfl
 |bl _=>cases r;rfl
 |int _=>obtain⟨t,rfl⟩:=r;rfl
 |str _=>obtain⟨t,rfl⟩:=r;rfl
 |byt _=>obtain⟨t,rfl⟩:=r;rfl
 |flt _=>obtain⟨t,rfl⟩:=r;rfl
 |ref _=>cases r;rfl
 |ty _=>cases r;rfl
theorem RelV.inj (r:RelV x u) (q:RelV y u):x=y:=CF.inj<|r.abs.symm.trans q.abs
theorem Vals.inj:∀{xs ys:List V}{us:List Value},Vals xs us->Vals ys us->xs=ys
 |_,_,_,.nil,.nil=>rfl
 |_,_,_,.cons r t,.cons r' t'=>by rw[r.inj r',Vals.inj t t']
section
variable {X:Cx}{pins:Ar}{Z:St}{H:Hp}{s:Shared}{a:Addr}{xs ys:List V}
theorem SqL.of {K:W.Frag}(h:H a=some (.lst xs)):SqL K H a xs:=.inl (.inl h)
theorem SqT.of {K:W.Frag}(h:H a=some (.tup xs)):SqT K H a xs:=.inl (.inl h)
theorem AJ.list (I:AJ X pins Z H s) (h:SqL X.K H a xs):∃its:List Value,Vals xs its/\PlainL s.heap a its.toArray/\xs.length<=sizeLine:=by
 rcases h with h|⟨o,its,n,k,c,d,S,b,r⟩
 ·obtain⟨z,its,n,r,e⟩:=h.ok I.hok
  exact(its,r,(_,n,e,rfl,rfl,rfl),z)
 ·refine(its.toList,r,(o,n,I.kIn a o k,c,d,by simpa using S),?_)
  have e:=r.length;simp only[Array.length_toList]at e;lia
theorem AJ.tuple (I:AJ X pins Z H s) (h:SqT X.K H a xs):∃its:List Value,Vals xs its/\IsTup s.heap a its.toArray/\xs.length<=sizeLine:=by
 rcases h with h|⟨o,its,n,k,c,S,b,r⟩
 ·obtain⟨z,its,r,p⟩:=h.ok I.hok
  exact(its,r,p.tup,z)
 ·refine(its.toList,r,(o,I.kIn a o k,c,n,by simpa using S),?_)
  have e:=r.length;simp only[Array.length_toList]at e;omega
theorem AJ.list_inj (I:AJ X pins Z H s) (h:SqL X.K H a xs) (h':SqL X.K H a ys):xs=ys:=by
 obtain⟨i,r,⟨o,n,e,_,_,d⟩,_⟩:=I.list h;obtain⟨t,R,⟨O,N,E,_,_,D⟩,_⟩:=I.list h';rw[e]at E;cases E;rw[d]at D;injection D with d1 _
 have:i=t:=by simpa using congrArg Array.toList d1
 subst this;exact r.inj R
theorem AJ.tuple_inj (I:AJ X pins Z H s) (h:SqT X.K H a xs) (h':SqT X.K H a ys):xs=ys:=by
 obtain⟨i,r,⟨o,e,_,n,d⟩,_⟩:=I.tuple h;obtain⟨t,R,⟨O,E,_,N,D⟩,_⟩:=I.tuple h';rw[e]at E;cases E;rw[d]at D;injection D with d1 _
 have:i=t:=by simpa using congrArg Array.toList d1
 subst this;exact r.inj R
end
abbrev Cx.wish (X:Cx) (E:Ai):Cx:={ X with xe:=E }
abbrev Cx.nox (X:Cx):Cx:=X.wish λ_ _=>False
theorem Cx.Ok.wish {X:Cx}(O:X.Ok) (E:Ai):(X.wish E).Ok:=
 (O.mod,O.kind,O.glob,O.blt,O.above,O.inj,O.has,O.cab,O.hd,O.frames,O.stk,O.exf,O.bs,O.bsz,O.noex,O.exfs,O.funs,O.frf)
theorem Cx.Ok.unwish {X:Cx}(O:(X.wish E).Ok):X.Ok:=
 (O.mod,O.kind,O.glob,O.blt,O.above,O.inj,O.has,O.cab,O.hd,O.frames,O.stk,O.exf,O.bs,O.bsz,O.noex,O.exfs,O.funs,O.frf)
section
variable {X:Cx}{pins:Ar}{Z:St}{H:Hp}{s:Shared}{E:Ai}
theorem AJ.wish (I:AJ X pins Z H s) (E:Ai):AJ (X.wish E) pins Z H s:=(I.ok.wish E,I.os,I.bare,I.base,I.loc,I.cell,I.free,I.freeC,I.pin,I.hok,I.len)
theorem AJ.unwish (I:AJ (X.wish E) pins Z H s):AJ X pins Z H s:=(I.ok.unwish,I.os,I.bare,I.base,I.loc,I.cell,I.free,I.freeC,I.pin,I.hok,I.len)
theorem SP.unwish (h:SP (X.wish E) pins D f s'):SP X pins D f s':=by
 cases f with
 |next=>obtain⟨Z,H,I,q⟩:=h;exact(Z,H,I.unwish,q)
 |brk=>obtain⟨Z,H,I,q⟩:=h;exact(Z,H,I.unwish,q)
 |cont=>obtain⟨Z,H,I,q⟩:=h;exact(Z,H,I.unwish,q)
 |ret u=>obtain⟨v,Z,H,I,r,q⟩:=h;exact(v,Z,H,I.unwish,r,q)
theorem PSs.nox {st:List Stmt}(h:PSs X.nox st t):PSs X st t:=λn s Z H D I w=>
 EN (h n s Z H D (I.wish _) w) (λ_ _ q=>q.unwish) λ_ _ z=>False.elim z
end
section
variable {X:Cx}{st:Stmt}{rest:List Stmt}{t u:TS}{e:Expr}{te:TE}{pos:Pos}
def tNext:TS:=λD Z H=>D.nx Z H
def tSeq (t u:TS):TS:=λD Z H=>t { D with nx:=u D } Z H
theorem B7:PSs X [] tNext:=λ_ _ Z H _ I h=>wpAny_execs_nil (Z,H,I,h)
theorem AU (h1:PS X st t) (h2:PSs X rest u):PSs X (st::rest) (tSeq t u):=by
 intro pins s Z H D I h;refine wpAny_execs_cons (thn (h1 pins s Z H { D with nx:=u D } I h) λf S q=>?_);cases f with
 |next=>
  obtain⟨z,a,i,q⟩:=q;exact h2 pins S z a D i q
 |ret v=>exact q
 |brk=>exact q
 |cont=>exact q
theorem Ah (h1:PS X st t):PSs X [st] t:=by
 intro pins s Z H D I h;refine wpAny_execs_cons (thn (h1 pins s Z H D I h) λf S q=>?_);cases f with
 |next=>exact wpAny_execs_nil q
 |ret v=>exact q
 |brk=>exact q
 |cont=>exact q
theorem AJ.quiet (I:AJ X pins Z H s):interactive X.env=false:=by simp[interactive,I.ok.kind]
def tDrop (te:TE):TS:=λD Z H=>te Z H λ_ h=>D.nx Z h
theorem Du (j:PE X e te) (z:swapsWith e none pos.line X.env=pure false:=by rfl):PS X (.Expr e pos) (tDrop te):=by
 intro pins s Z H D I h;exact wpAny_Expr_any (thn (j pins s Z H _ I h) λv s1 (x,H1,I1,r1,q1)=>(Z,H1,I1,q1)) I.quiet z
def tRet (te:TE):TS:=λD Z H=>te Z H D.rt
theorem A8 (j:PE X e te):PS X (.Return (some e) pos) (tRet te):=by
 intro pins s Z H D I h;exact wpAny_Return_some (thn (j pins s Z H _ I h) λv s1 (x,H1,I1,r1,q1)=>(x,Z,H1,I1,r1,q1))
def tIfS (c:TT) (t u:TS):TS:=λD Z H=>c Z H λb h=>if b=true then t D Z h else u D Z h
theorem B8 (J:PT X c tc) (j:PSs X a t) (z:PSs X b u):PS X (.If c a b pos) (tIfS tc t u):=by
 intro pins s Z H D I h;refine wpAny_If (thn (J pins s Z H _ I h) λd s1 (H1,I1,q1)=>?_);cases d with
 |true=>exact j pins s1 Z H1 D I1 q1
 |false=>exact z pins s1 Z H1 D I1 q1
def tNever:TS:=λ_ _ _=>False
theorem HY:PSs X sts tNever:=λ_ _ _ _ _ _ h=>h.elim
end
abbrev TG:=V->St->Hp->(St->Hp->Prop)->Prop
abbrev TGs:=List V->St->Hp->(St->Hp->Prop)->Prop
def PG (X:Cx) (j:Expr) (t:TG):Prop:=
 ∀(pins:Ar) (s:Shared) (Z:St) (H:Hp) (v:V) (u:Value) (Q:St->Hp->Prop),AJ X pins Z H s->RelV v u->t v Z H Q ->
  wpAny (model X.prog X.w) X.A (assign j X.env u) (λ_ S=>∃Z' H',AJ X pins Z' H' S /\ Q Z' H') X.xe s
def PGs (X:Cx) (ts:List Expr) (t:TGs):Prop:=
 ∀(pins:Ar) (s:Shared) (Z:St) (H:Hp) (vs:List V) (us:List Value) (Q:St->Hp->Prop),AJ X pins Z H s->Vals vs us->t vs Z H Q ->
  wpAny (model X.prog X.w) X.A (assignInOrder ((assignEach ts X.env).map (·.2)) us) (λ_ S=>∃Z' H',AJ X pins Z' H' S /\ Q Z' H') X.xe s
abbrev TSet:=V->V->V->Hp->(Hp->Prop)->Prop
def PSet (X:Cx) (t:TSet):Prop:=
 ∀(pins:Ar) (s:Shared) (Z:St) (H:Hp) (o i v:V) (ov iv u:Value) (Q:Hp->Prop),AJ X pins Z H s->RelV o ov->RelV i iv->RelV v u->t o i v H Q ->
  wpAny (model X.prog X.w) X.A (setItem ov iv u) (λ_ S=>∃H',AJ X pins Z H' S /\ Q H') X.xe s
section
variable {X:Cx}{pos:Pos}
def gName (i:Nat):TG:=λv Z H Q=>Q (Z.set i<|some v) H
theorem An (j:X.N.Nodup) (hi:X.N[i]?=some x) (z:Gx X.env.scope x) (hf:X.fn x=true\/X.env.scope.names.lookup x=some .local:=by first|exact .inl rfl|exact .inr rfl|assumption):PG X (.Name x pos) (gName i):=by
 intro pins s Z H v u Q I r h;exact wpAny_assign_Name<|K1 I j hi z r (λS a=>(_,H,a,h)) hf
def gNil:TGs:=λs Z H Q=>s=[]/\Q Z H
def gCons (t:TG) (u:TGs):TGs:=λs Z H Q=>∃v r,s=v::r/\t v Z H λz h=>u r z h Q
theorem Dr:PGs X [] gNil:=by
 intro pins s Z H vs us Q I r h;obtain⟨e,h⟩:=h;subst e;cases r;exact assignInOrder_nil (Z,H,I,h)
theorem CB (h1:PG X e t) (h2:PGs X es u)
  (j:(assignEach (e::es) X.env).map (·.2)=assign e X.env::(assignEach es X.env).map (·.2):=by rfl):PGs X (e::es) (gCons t u):=by
 intro pins s Z H vs us Q I r h;obtain⟨v,R,E,h⟩:=h;subst E;cases r with
 |cons r rr=>
  rw[j];refine assignInOrder_cons (thn (h1 pins s Z H _ _ _ I r h) λ_ s1 (Z1,H1,I1,q1)=>?_);exact h2 pins s1 Z1 H1 _ _ Q I1 rr q1
def gTup (K:W.Frag) (n:Nat) (t:TGs):TG:=λv Z H Q=>∃a xs,v=.ref a/\SqT K H a xs/\xs.length=n/\t xs Z H Q
theorem Zzu (hc:X.calm=true) (h:PGs X es t)
  (hn:(assignEach es X.env).length=n:=by rfl) (hst:(assignEach es X.env).findIdx? (·.1)=none:=by rfl):PG X (.Tuple es k pos) (gTup X.K n t):=by
 intro pins s Z H v u Q I r w;obtain⟨a,d,E,q,l,w⟩:=w;subst E;cases r;obtain⟨S,V,T,z⟩:=I.tuple q;refine assign_Tuple_tuple (I.ok.hd hc) T (by simp[hn,<- l,V.length]) hst λc x=>?_;have i:AJ X pins Z H { s with heap:=c }:=I.kept (t':=s.toks) λb o e=>x b o (BF<|Ax e) e;exact h pins _ Z H d _ Q i (by simpa using V) w
def gSub (to j:TE) (t:TSet):TG:=λv Z H Q=>to Z H λo h=>j Z h λi a=>t o i v a λb=>Q Z b
theorem F1 {o i:Expr}{to ti:TE}{t:TSet}(ho:PE X o to) (hi:PE X i ti) (hs:PSet X t)
  (ha:∀v,assign (.Subscript o i pos) X.env v=(do
   let ov <- holding [v] (eval o X.env)
   let iv <- holding [v,ov] (eval i X.env)
   standAt pos
   holding [v,ov,iv] (setItem ov iv v)
   release [v,ov,iv] []):=by intro _;rfl):PG X (.Subscript o i pos) (gSub to ti t):=by
 intro pins s Z H v u Q I r h;rw[ha];refine AE<|Cv (thn (ho pins s Z H _ I h) λov s1 (x,H1,I1,r1,q1)=>?_);refine AE<|Cv (thn (hi pins s1 Z H1 _ I1 q1) λiv s2 (y,H2,I2,r2,q2)=>?_);refine AE<|Ei<|AE<|Cv (thn (hs pins s2 Z H2 x y v ov iv u _ I2 r1 r2 r q2) λ_ s3 (H3,I3,q3)=>?_);exact wpAny_release (Z,H3,I3,q3)
def tAsg (te:TE) (g:TG):TS:=λD Z H=>te Z H λx h=>g x Z h D.nx
theorem DL (j:PE X e te) (z:PG X tg g) (J:swapsWithSole [tg] e pos.line X.env=pure false:=by rfl) (L:swappedStores [tg] e X.env=pure none:=by rfl)
  (h1:(assignEach [tg] X.env).map (·.2)=[assign tg X.env]:=by rfl):PS X (.Assign [tg] e pos) (tAsg te g):=by
 intro pins s Z H D I h;refine wpAny_Assign_stores (thn (j pins s Z H _ I h) λv s1 (x,H1,I1,r1,q1)=>?_) J L;rw[h1];exact thn (z pins s1 Z H1 x v _ I1 r1 q1) λ_ S q=>q
theorem Av {i:Nat}{x:Str}{e:Expr}{te:TE}{O:Pos}(j:X.N.Nodup) (hi:X.N[i]?=some x) (L:Gx X.env.scope x) (z:PE X e te) (J:swapsWith e (some (.Name x O)) pos.line X.env=pure false:=by rfl) (hf:X.fn x=true\/X.env.scope.names.lookup x=some .local:=by first|exact .inl rfl|exact .inr rfl|assumption) :
  PS X (.Assign [.Name x O] e pos) (tAsg te<|gName i):=by
 intro pins s Z H D I h;refine wpAny_Assign_Name (thn (z pins s Z H _ I h) λv s1 (y,H1,I1,r1,q1)=>?_) J;exact K1 I1 j hi L r1 (λS a=>(_,H1,a,q1)) hf
def tPar (i j:Nat) (ta:TA):TS:=λD Z H=>ta Z H λs h=>∃v w,s=[v,w]/\D.nx ((Z.set i<|some v).set j (some w)) h
theorem R8 {i j:Nat}{x y:Str}{a b:Expr}{ta:TA}{px py pt:Pos}{kt k2 pt2} (hc:X.calm=true) (hN:X.N.Nodup) (hi:X.N[i]?=some x) (hj:X.N[j]?=some y) (hij:i≠j)
  (hx:X.env.scope.names.lookup x=some .local) (hy:X.env.scope.names.lookup y=some .local) (ha:PA X [a,b] ta)
  (hw:swappedStores [.Tuple [.Name x px,.Name y py] kt pt] (.Tuple [a,b] k2 pt2) X.env=pure (some [x,y]))
  (hs:swapsWithSole [.Tuple [.Name x px,.Name y py] kt pt] (.Tuple [a,b] k2 pt2) pos.line X.env=pure false:=by rfl) :
  PS X (.Assign [.Tuple [.Name x px,.Name y py] kt pt] (.Tuple [a,b] k2 pt2) pos) (tPar i j ta):=by
 intro pins s Z H D I h;rw[exec_Assign_arm];refine AE<|Ei ?_;rw[hs];refine AE<|AO ?_;rw[AL #[1]];refine AE<|Tuple_ (thn (ha _ pins s Z H _ I h) λus s1 (vs,H1,I1,r1,q1)=>?_);obtain⟨v,w,e1,q1⟩:=q1;subst e1;obtain⟨u1,u2,rfl,rv,rw'⟩:∃u1 u2,us=[u1,u2]/\RelV v u1/\RelV w u2:=by
  cases r1 with
  |cons p q=>
   cases q with
   |cons p' q'=>
    cases q';exact(_,_,rfl,p,p')
 refine wpAny_newObj_type ?_ (by show 2<=sizeLine;decide);have I2:AJ X pins Z H1 { s1 with heap:=s1.heap.push { cls:=.type "tuple",data:=.seq [u1,u2].toArray } }:=I1.kept (t':=s1.toks) λb o e=>BA _ e;rw[hw];refine AE<|AO ?_;show wpAny (model X.prog X.w) X.A (do rule "assign.swapped-stores";let items <- unpackItems (.ref s1.heap.objs.size) 2 none;assignInOrder [λv=>bindName X.env y v,λv=>bindName X.env x v] items.reverse;pure Flow.next) _ _ _;refine AE<|EO<|AE (unpackItems_tuple (items:=#[u1,u2]) (I.ok.hd hc) (IsTup.new s1.heap _) λh' hx'=>?_);have I3:=I2.kept (h':=h') (t':=s1.toks) λb o e=>hx' b o (BF<|Ax e) e;show wpAny _ _ (assignInOrder [λv=>bindName X.env y v,λv=>bindName X.env x v] [u2,u1] >>= λ_=>pure Flow.next) _ _ _;refine AE<|assignInOrder_cons<|wpAny_bindName<|K1 I3 hN hj (.inl hy) rw' (λs2 I4=>?_) (.inr hy);refine assignInOrder_cons<|wpAny_bindName<|K1 I4 hN hi (.inl hx) rv (λs3 I5=>assignInOrder_nil<|AO ?_) (.inr hx);rw[List.set_comm _ _ (Ne.symm hij)]at I5;exact(_,H1,I5,q1)
def tWhile (c:TT) (tb:TS):TS:=λD Z H=>∃W:Nat->St->Hp->Prop,(∃m,W m Z H)/\∀m Z H,W m Z H ->
 c Z H λb h=>if b=true then ∃N:St->Hp->Prop,(∀Z' H',N Z' H' -> ∃m',m'<m/\W m' Z' H')/\tb { D with nx:=N,ct:=N,bk:=D.nx } Z h else D.nx Z h
theorem ND (J:PassesOwn (model X.prog X.w) X.A X.env X.xe) (O:PT X c tc) (L:PSs X body tb):PS X (.While c body [] pos) (tWhile tc tb):=by
 intro pins s Z H D I h;obtain⟨W,⟨o,t⟩,r⟩:=h;refine wpAny_While<|codeAny_whileLoop (λn S=>∃Z' H',AJ X pins Z' H' S /\ W n Z' H') ?_ o (Z,H,I,t);rintro n p ⟨d,j,l,u⟩;refine wpAny_passesOwn J (thn (O pins p d j _ l<|r n d j u) λb s2 (H2,I2,q)=>?_);cases b with
 |true=>
  obtain⟨N,k,q⟩:=q;rw[AM rfl];refine wpAny_passesOwn J (thn (L pins s2 d H2 _ I2 q) λf x Q=>?_);cases f with
  |next=>
   obtain⟨z,a,i,e⟩:=Q;obtain⟨M,m,g⟩:=k z a e;exact(M,m,z,a,i,g)
  |cont=>
   obtain⟨z,a,i,e⟩:=Q;obtain⟨M,m,g⟩:=k z a e;exact(M,m,z,a,i,g)
  |brk=>exact Q
  |ret v=>exact Q
 |false=>
  rw[AL BL];exact wpAny_execs_nil (d,H2,I2,q)
end
structure It where
 go:Nat->Hp->Prop
 yld:Nat->Hp->V->Hp->Prop
 stop:Nat->Hp->Prop
def FpOk (X:Cx) (pins:Ar) (H:Hp) (b:Addr):Prop:=
 H b=none/\b≠X.env.locals/\b ∉ X.fs/\(b∈X.ex\/X.s₀.heap.objs.size<=b)/\(∀x c,X.env.cells.lookup x=some c->c≠b)/\∀p∈X.pn++pins,p.1≠b
theorem AJ.fpOk (I:AJ X pins Z H s) (j:s.heap.objs.size<=b) (J:H' b=none):FpOk X pins H' b:=by
 refine(J,GN<|DP I.lt j,I.nofs j,.inr<|Ck I.sz j,λx c e z=>?_,λp h z=>?_)
 ·obtain⟨v,q⟩:=I.cell x c e
  exact absurd (DP q.lt (by rw[z];exact j))<|FO _
 ·exact absurd (DP (Ax (I.pin p h).1) (by rw[z];exact j))<|FO _
structure TurnG (Cm:Cx->Prop) (P:Program) (w:World) (K:W.Frag) (tg:Expr) (J:It) (fp:List Addr) (it:Addr) (tn:Nat->Heap->Prop):Prop where
 mem:it∈fp
 obj:∀i h,tn i h->∀b∈fp,∃o,h.get? b=some o/\∀v,o.data≠.cell v
 keep:∀i h h',tn i h->(∀b∈fp,∀o,h.get? b=some o->h'.get? b=some o)->tn i h'
 item:∀(X:Cx),X.prog=P->X.w=w->X.K=K->Cm X->∀(i:Nat) (pins:Ar) (s:Shared) (Z:St) (H:Hp) (E:Ai),AJ X pins Z H s->(∀b∈fp,FpOk X pins H b)->tn i s.heap->J.go i H ->
  wpAny (model P w) X.A (pyNext (.ref it)) (λr s1=>∃u,r=some u /\
   wpAny (model P w) X.A (letOwnedTupleGo tg (.ref it) u) (λ_ s2=>∃x H',AJ X pins Z H' s2/\RelV x u/\J.yld i H x H' /\ tn (i+1) s2.heap/\∀b∈fp,H' b=none) E s1) E s
 done:∀(X:Cx),X.prog=P->X.w=w->X.K=K->Cm X->∀(i:Nat) (pins:Ar) (s:Shared) (Z:St) (H:Hp) (E:Ai),AJ X pins Z H s->(∀b∈fp,FpOk X pins H b)->tn i s.heap->J.stop i H ->
  wpAny (model P w) X.A (pyNext (.ref it)) (λr s1=>r=none/\AJ X pins Z H s1) E s
 self:∀(A:Around) (i:Nat) (s:Shared) (Q:Ai) (E:Ai),tn i s.heap->Q (.ref it) s->wpAny (model P w) A (pyIter (.ref it)) Q E s
abbrev Turn:=TurnG λX=>X.calm=true
abbrev TI:=St->Hp->(It->Hp->Prop)->Prop
def PIEG (Cm:Cx->Prop) (X:Cx) (pins:Ar) (Z:St) (tg:Expr) (R:It->Hp->Prop) (j:Value) (z:Shared):Prop:=
 ∃(it:Addr) (fp:List Addr) (tn:Nat->Heap->Prop) (J:It) (H':Hp),j=.ref it/\AJ X pins Z H' z/\TurnG Cm X.prog X.w X.K tg J fp it tn/\tn 0 z.heap/\(∀b∈fp,FpOk X pins H' b)/\R J H'
def PIG (Cm:Cx->Prop) (X:Cx) (tg j:Expr) (z:TI):Prop:=
 ∀(pins:Ar) (s:Shared) (Z:St) (H:Hp) (R:It->Hp->Prop),AJ X pins Z H s->z Z H R ->
  wpAny (model X.prog X.w) X.A (eval j X.env) (λv S=>wpAny (model X.prog X.w) X.A (pyIter v) (PIEG Cm X pins Z tg R) X.xe S) X.xe s
abbrev PIE:=PIEG λX=>X.calm=true
abbrev PI:=PIG λX=>X.calm=true
theorem OA (ho:s.heap.get? it=some o) (z:o.cls=.type n) (J:o.data=.fields vs)
  (L:["enumerate","zip","dict_itemiterator","dict_reverseitemiterator","odict_iterator","itertools.zip_longest","itertools.pairwise"].contains n=false) (j:Q () s):wpAny M_ A (letOwnedTupleGo tg (.ref it) u) Q E s:=by
 unfold letOwnedTupleGo;cases tg <;> first
  |exact AO j
  | (cases u <;> first
      |exact AO j
      | (refine AE (wpAny_load ho ?_)
         rw[z,J];show wpAny M_ A (if (["enumerate","zip","dict_itemiterator","dict_reverseitemiterator","odict_iterator","itertools.zip_longest","itertools.pairwise"].contains n && vs[0]? == some (rawInt _))=true then _ else _) Q E s;rw[AL (by intro h;rw[L,HE]at h;cases h)];exact AO j))
def OB (K:W.Frag) (a:Addr):It:=
 (λi H=>∃xs x,SqL K H a xs/\xs[i]?=some x,λi H x h=>h=H/\∀xs,SqL K H a xs->xs[i]?=some x,λi H=>∃xs,SqL K H a xs/\xs.length<=i)
def OC (K:W.Frag) (a:Addr):It:=
 (λi H=>∃xs x,SqT K H a xs/\xs[i]?=some x,λi H x h=>h=H/\∀xs,SqT K H a xs->xs[i]?=some x,λi H=>∃xs,SqT K H a xs/\xs.length<=i)
def H0 (lo:Int) (n:Nat):It:=(λi _=>i<n,λi H x h=>h=H/\x=.int (lo+i),λi _=>n<=i)
theorem Vf {P:Program}{w:World}{K:W.Frag}{tg:Expr}(a it:Addr):Turn P w K tg (OB K a) [it] it (λi h=>h.IsListIter it a i) where
 mem:=#[4]
 obj:=λi h t b B=>by
  have e:b=it:=by simpa using B
  subst e;obtain⟨o,e,c,d⟩:=t;exact(o,e,λv z=>by rw[d]at z;cases z)
 keep:=λi h f t k=>t.at λo e=>k it #[4] o e
 item:=by
  intro X hP hw hK hc i pins s Z H E I hf t hg;subst hP hw hK;obtain⟨J,x,q,n⟩:=hg;obtain⟨S,r,p,D⟩:=I.list q;obtain⟨u,U,R⟩:=r.get n;obtain⟨F,g,C,j,l,m⟩:=hf it #[4];refine wpAny_pyNext_list_item t p.isList (x:=u) (by simpa using U) λf T G=>?_;have y:AJ X pins Z H { s with heap:=f }:=I.turned (t':=s.toks) (λb o B e=>(G.2 b B).trans e) F g j l m;obtain⟨o,e,c,d⟩:=id T;exact(u,rfl,OA (s:={ s with heap:=f }) e c d #[1] (x,H,y,R,(rfl,λM Y=>by rw[I.list_inj Y q];exact n),T,λb B=>(hf b B).1))
 done:=by
  intro X hP hw hK hc i pins s Z H E I hf t hg;subst hP hw hK;obtain⟨J,q,n⟩:=hg;obtain⟨S,r,p,D⟩:=I.list q;obtain⟨F,g,C,j,l,m⟩:=hf it #[4];have L:=r.length;exact wpAny_pyNext_list_end (I.ok.hd hc) t p.isList (by simp;lia) λf A=>(rfl,I.turned (t':=s.toks) (λb o B e=>A b o B e) F g j l m)
 self:=λ_ _ _ _ _ t h=>wpAny_pyIter_listiter t h
theorem VP {P:Program}{w:World}{K:W.Frag}{tg:Expr}(a it:Addr):Turn P w K tg (OC K a) [it] it (λi h=>h.IsTupleIter it a i) where
 mem:=#[4]
 obj:=λi h t b B=>by
  have e:b=it:=by simpa using B
  subst e;obtain⟨o,e,c,d⟩:=t;exact(o,e,λv z=>by rw[d]at z;cases z)
 keep:=λi h f t k=>t.at λo e=>k it #[4] o e
 item:=by
  intro X hP hw hK hc i pins s Z H E I hf t hg;subst hP hw hK;obtain⟨J,x,q,n⟩:=hg;obtain⟨S,r,p,D⟩:=I.tuple q;obtain⟨u,U,R⟩:=r.get n;obtain⟨F,g,C,j,l,m⟩:=hf it #[4];refine wpAny_pyNext_tuple_item t (show s.heap.IsTuple a S.toArray from p) (x:=u) (by simpa using U) λf T G=>?_;have y:AJ X pins Z H { s with heap:=f }:=I.turned (t':=s.toks) (λb o B e=>(G.2 b B).trans e) F g j l m;obtain⟨o,e,c,d⟩:=id T;exact(u,rfl,OA (s:={ s with heap:=f }) e c d #[1] (x,H,y,R,(rfl,λM Y=>by rw[I.tuple_inj Y q];exact n),T,λb B=>(hf b B).1))
 done:=by
  intro X hP hw hK hc i pins s Z H E I hf t hg;subst hP hw hK;obtain⟨J,q,n⟩:=hg;obtain⟨S,r,p,D⟩:=I.tuple q;obtain⟨F,g,C,j,l,m⟩:=hf it #[4];have L:=r.length;exact wpAny_pyNext_tuple_end (I.ok.hd hc) t (show s.heap.IsTuple a S.toArray from p) (by simp;omega) λf A=>(rfl,I.turned (t':=s.toks) (λb o B e=>A b o B e) F g j l m)
 self:=λ_ _ _ _ _ t h=>wpAny_pyIter_tupleiter t h
theorem VO {P:Program}{w:World}{K:W.Frag}{tg:Expr}(it:Addr) (lo:Int) (n:Nat):Turn P w K tg (H0 lo n) [it] it (λi h=>IsRangeIter h it (lo+(i:Nat)*1) ((n:Int)-(i:Nat)) 1) where
 mem:=#[4]
 obj:=λi h T b B=>by
  have e:b=it:=by simpa using B
  subst e;exact(_,T,λv z=>by
   have r:Data.fields _=Data.cell v:=z;cases r)
 keep:=λi h a T k=>k it #[4] _ T
 item:=by
  intro X hP hw hK hc i pins s Z H E I hf T hg;subst hP hw hK;obtain⟨f,F,p,c,d,g⟩:=hf it #[4];have W:=Walks.range (prog:=X.prog) (w:=X.w) (I.ok.hd hc) it lo 1 n;refine W.item i s _ _ hg T λv a j V S q=>?_;obtain⟨t,rfl⟩:=V;have l:AJ X pins Z H { s with heap:=a,toks:=j }:=I.turned (λb o B e=>q b o (by simpa using B) e) f F c d g;refine(_,rfl,OA (s:={ s with heap:=a,toks:=j }) (n:="range_iterator") S rfl rfl #[1] (.int<|lo+i,H,l,(t,?_),(rfl,rfl),S,λb B=>(hf b B).1));rw[Int.mul_one]
 done:=by
  intro X hP hw hK hc i pins s Z H E I hf T hg;subst hP hw hK;obtain⟨f,F,p,c,d,g⟩:=hf it #[4];exact wpAny_pyNext_range_end (I.ok.hd hc) T (by have:n<=i:=hg;lia) λa m=>(rfl,I.turned (t':=s.toks) (λb o B e=>m b o B e) f F c d g)
 self:=λ_ _ _ _ _ T h=>wpAny_pyIter_rangeiter T h
section
variable {X:Cx}{tg:Expr}
def iList (K:W.Frag) (tl:TE):TI:=λZ H R=>tl Z H λx h=>∃a,x=.ref a/\(∃xs,SqL K h a xs)/\R (OB K a) h
def iTup (K:W.Frag) (tl:TE):TI:=λZ H R=>tl Z H λx h=>∃a,x=.ref a/\(∃xs,SqT K h a xs)/\R (OC K a) h
theorem Zy0 (L:PE X l tl):PI X tg l (iList X.K tl):=by
 intro pins s Z H R I h;refine thn (L pins s Z H _ I h) λv s1 (x,H1,I1,r1,q1)=>?_;obtain⟨a,e,⟨S,Q⟩,q⟩:=q1;subst e;cases r1;obtain⟨t,r,p,z⟩:=I1.list Q;refine wpAny_pyIter_list p.isList ?_;refine(s1.heap.objs.size,[s1.heap.objs.size],_,_,H1,rfl,I1.kept (t':=s1.toks) λb o e=>BA _ e,Vf a _,(_,Bl _ rfl,rfl,rfl),λb B=>?_,q);have e:b=s1.heap.objs.size:=by simpa using B
 subst e;exact I1.fpOk (AX _)<|I1.hok.fresh<|AX _
theorem Sv (L:PE X l tl):PI X tg l (iTup X.K tl):=by
 intro pins s Z H R I h;refine thn (L pins s Z H _ I h) λv s1 (x,H1,I1,r1,q1)=>?_;obtain⟨a,e,⟨S,Q⟩,q⟩:=q1;subst e;cases r1;obtain⟨t,r,p,z⟩:=I1.tuple Q;refine wpAny_pyIter_tuple (show s1.heap.IsTuple a t.toArray from p) ?_;refine(s1.heap.objs.size,[s1.heap.objs.size],_,_,H1,rfl,I1.kept (t':=s1.toks) λb o e=>BA _ e,VP a _,(_,Bl _ rfl,rfl,rfl),λb B=>?_,q);have e:b=s1.heap.objs.size:=by simpa using B
 subst e;exact I1.fpOk (AX _)<|I1.hok.fresh<|AX _
theorem range_it {lo hi:Int}(I:AJ X pins Z H s) (h1:-(2 ^ 62)<=lo) (h2:lo<2 ^ 62) (h3:-(2 ^ 62)<=hi) (h4:hi<2 ^ 62)
  (q:R (H0 lo (hi-lo).toNat) H):wpAny (model X.prog X.w) X.A (pyIter (.ref s.heap.objs.size)) (PIE X pins Z tg R) E { s with heap:=s.heap.push { cls:=.type "range",data:=.fields #[.int lo t,.int hi u,.int 1 v] },toks:=tk }:=by
 refine wpAny_pyIter_range (IsRange.new ..) (small_one h1 h2 h3 h4) ?_;have i:AJ X pins Z H { s with heap:=s.heap.push { cls:=.type "range",data:=.fields #[.int lo t,.int hi u,.int 1 v] },toks:=tk }:=I.kept λb o e=>BA _ e;refine((s.heap.push { cls:=.type "range",data:=.fields #[.int lo t,.int hi u,.int 1 v] }).objs.size,[(s.heap.push { cls:=.type "range",data:=.fields #[.int lo t,.int hi u,.int 1 v] }).objs.size],_,_,H,rfl,
  i.kept (t':=tk) λb o e=>BA _ e,VO _ lo (hi-lo).toNat,?_,λb h=>?_,q)
 ·have a:lo+((0:Nat):Int)*1=lo:=by simp
  have c:(((hi-lo).toNat:Nat):Int)-((0:Nat):Int)=Builtin.Range.rangeSize lo hi 1:=by rw[rangeSize_one];split <;> lia
  show IsRangeIter _ _ (lo+((0:Nat):Int)*1) ((((hi-lo).toNat:Nat):Int)-((0:Nat):Int)) 1;rw[a,c];exact Bl _ rfl
 ·have e:b=(s.heap.push { cls:=.type "range",data:=.fields #[.int lo t,.int hi u,.int 1 v] }).objs.size:=by simpa using h
  subst e;exact i.fpOk (AX _)<|i.hok.fresh<|AX _
def iRng1 (ta:TA):TI:=λZ H R=>ta Z H λs h=>∃j:Int,s=[.int j] /\ -(2 ^ 62)<=j/\j<2 ^ 62/\R (H0 0 j.toNat) h
def iRng2 (ta:TA):TI:=λZ H R=>ta Z H λs h=>∃i j:Int,s=[.int i,.int j]/\(-(2 ^ 62)<=i/\i<2 ^ 62 /\ -(2 ^ 62)<=j/\j<2 ^ 62)/\R (H0 i (j-i).toNat) h
theorem De (J:Gl X "range") (hm:X.mg "range" = none) (z:PA X [a] ta) (L:starEach [a] X.env=[(false,eval a X.env)]:=by rfl):PI X tg (.Call (.Name "range" p) [a] [] pos) (iRng1 ta):=by
 intro pins s Z H R I h;refine Call_<|Dj I J hm boot_range<|PyProof.Rows.callWith_type1 (thn (z pos pins s Z H _ I h) λus s1 (vs,H1,I1,r1,Q)=>?_) L rfl;obtain⟨j,e,Q,b,q⟩:=Q;subst e;cases r1 with
 |cons r rr=>
  cases rr;obtain⟨t,rfl⟩:=r;exact call_range_1<|range_it I1 #[2] #[2] Q b (by simpa using q)
theorem Vv {a b:Expr}{ta:TA}{p pos:Pos}(L:Gl X "range") (hm:X.mg "range" = none) (J:PA X [a,b] ta) (O:starEach [a,b] X.env=[(false,eval a X.env),(false,eval b X.env)]:=by rfl) (z:starEach [b] X.env=[(false,eval b X.env)]:=by rfl) :
  PI X tg (.Call (.Name "range" p) [a,b] [] pos) (iRng2 ta):=by
 intro pins s Z H R I h;refine Call_<|Dj I L hm boot_range<|PyProof.Rows.callWith_type1 (thn (J pos pins s Z H _ I h) λus s1 (vs,H1,I1,r1,Q)=>?_) (by rw[O,z]) (by rw[z];rfl);obtain⟨i,j,e,⟨Q,c,d,f⟩,q⟩:=Q;subst e;cases r1 with
 |cons r rr=>
  cases rr with
  |cons r' rr=>
   cases rr;obtain⟨t,rfl⟩:=r;obtain⟨T,rfl⟩:=r';exact call_range_2<|range_it I1 Q c d f q
def tFor (wi:TI) (g:TG) (tb:TS):TS:=λD Z H=>wi Z H λJ h=>∃W:Nat->Nat->St->Hp->Prop,(∃m,W 0 m Z h)/\∀i m Z H,W i m Z H ->
 (J.stop i H/\D.nx Z H)\/(J.go i H/\∃N:St->Hp->Prop,(∀Z' H',N Z' H' -> ∃m',m'<m/\W (i+1) m' Z' H')/\∀x H',J.yld i H x H' -> g x Z H' λz a=>tb { D with nx:=N,ct:=N,bk:=D.nx } z a)
def pinsAt (fp:List Addr) (h:Heap):Ar:=fp.filterMap λb=>(h.get? b).map λo=>(b,o)
theorem Fv (j:b∈fp) (e:h.get? b=some o):(b,o)∈pinsAt fp h:=Lo.mpr (b,j,by rw[e];rfl)
theorem Wy (j:p∈pinsAt fp h):p.1∈fp/\h.get? p.1=some p.2:=by
 obtain⟨b,B,e⟩:=Lo.mp j;cases q:h.get? b with
 |none=>rw[q]at e;cases e
 |some o=>
  rw[q]at e;have E:(b,o)=p:=CF.inj e;subst E;exact(B,q)
theorem AJ.pinned (I:AJ X pins Z H s) (hf:∀b∈fp,FpOk X pins H b) (ho:∀b∈fp,∃o,s.heap.get? b=some o/\∀v,o.data≠.cell v):AJ X (pins++pinsAt fp s.heap) Z H s:=
 I.pins_of λp P=>(Bo.mp P).elim (λz=>I.pin p<|Bx _ z) λz=>by
  obtain⟨h,e⟩:=Wy z;obtain⟨f,F,a,_⟩:=hf p.1 h;obtain⟨o,E,d⟩:=ho p.1 h;rw[e]at E;cases E;exact(e,f,F,a,d)
theorem AJ.unpinned (I:AJ X (pins++pl) Z H s):AJ X pins Z H s:=I.pins_of λp h=>I.pin p<|Bx _<|D1 _ h
theorem DG (hp:PassesOwn (model X.prog X.w) X.A X.env X.xe) (hc:X.calm=true) (hi:PI X tg iter wi) (hg:PG X tg g) (hb:PSs X body tb)
  (hs:∀x,foldedSetIterable iter X.env x=pure x:=by intro _;rfl):PS X (.For tg iter body [] pos) (tFor wi g tb):=by
 intro pins s Z H D I h;refine wpAny_For (thn (hi pins s Z H _ I h) λv s1 h1=>thn h1 λa0 s2 h2=>?_) hs;obtain⟨it,p,M,J,Q,e,V,T,C,F,W,⟨m0,w0⟩,U⟩:=h2;subst e
 -- what stays true of the iterator's objects through the loop
 have t:∀{H':Hp},(∀b∈p,H' b=none)->∀b∈p,FpOk X pins H' b:=λhn b hb=>(hn b hb,(F b hb).2);refine codeAny_forLoop_any (λn K=>∃i Z' H',AJ X pins Z' H' K /\ M i K.heap/\(∀b∈p,H' b=none)/\W i n Z' H') ?_ m0 (0,Z,Q,V,C,λb hb=>(F b hb).1,w0);rintro n L ⟨i,j,l,E,S,R,w3⟩;rcases U i n j l w3 with ⟨O,qn⟩|⟨Y,N,hN,P⟩
 ·refine wpAny_passesOwn hp (thn (T.done X rfl rfl rfl hc i pins L j l X.xe E (t R) S O) λr s4 (hr,I4)=>?_)
  subst hr;exact wpAny_execs_nil (j,l,I4,qn)
 ·refine wpAny_passesOwn hp (thn (T.item X rfl rfl rfl hc i pins L j l X.xe E (t R) S Y) λr s4 (u,hr,h4)=>?_)
  subst hr;refine wpAny_passesOwn hp (thn h4 λ_ s5 (x,H5,I5,r5,y5,st5,fr5)=>?_);have y:=I5.pinned (t fr5)<|T.obj _ _ st5;refine wpAny_passesOwn hp (thn (hg _ s5 j H5 x u _ y r5<|P x H5 y5) λ_ s6 (Z6,H6,I6,q6)=>?_);refine wpAny_passesOwn hp (thn (hb _ s6 Z6 H6 _ I6 q6) λf B q=>?_);have G:∀{z:St}{a:Hp},AJ X (pins++pinsAt p s5.heap) z a B->N z a->∃m,m<n/\∃i Z' H',AJ X pins Z' H' B/\M i B.heap/\(∀b∈p,H' b=none)/\W i m Z' H':=λ{z a} c k=>by
   obtain⟨m',hm,w7⟩:=hN z a k;refine(m',hm,i+1,z,a,c.unpinned,T.keep _ _ _ st5 λb hb o e=>(c.pin (b,o)<|Bx _<|Bx _<|Fv hb e).1,λb hb=>?_,w7);obtain⟨o,e,d⟩:=T.obj _ _ st5 b hb;exact(c.pin (b,o)<|Bx _<|Bx _<|Fv hb e).2.1
  cases f with
  |next=>obtain⟨z,a,c,k⟩:=q;exact G c k
  |cont=>obtain⟨z,a,c,k⟩:=q;exact G c k
  |brk=>obtain⟨z,a,c,q⟩:=q;exact(z,a,c.unpinned,q)
  |ret v=>obtain⟨x7,z,a,c,r7,q⟩:=q;exact(x7,z,a,c.unpinned,r7,q)
end
abbrev R2:=V->V->Hp->VK->Prop
def OpR (X:Cx) (f:Value->Value->Sem Value) (r:R2):Prop:=
 ∀(pins:Ar) (s:Shared) (Z:St) (H:Hp) (x y:V) (v u:Value) (Q:VK),AJ X pins Z H s->RelV x v->RelV y u->r x y H Q ->
  wpAny (model X.prog X.w) X.A (f v u) (EP X pins Z Q) X.xe s
def UnR (X:Cx) (f:Value->Sem Value) (r:V->Hp->VK->Prop):Prop:=
 ∀(pins:Ar) (s:Shared) (Z:St) (H:Hp) (x:V) (v:Value) (Q:VK),AJ X pins Z H s->RelV x v->r x H Q ->
  wpAny (model X.prog X.w) X.A (f v) (EP X pins Z Q) X.xe s
def CallR (X:Cx) (f:Value) (r:List V->Hp->VK->Prop):Prop:=
 ∀(pins:Ar) (s:Shared) (Z:St) (H:Hp) (xs:List V) (us:List Value) (Q:VK),AJ X pins Z H s->Vals xs us->r xs H Q ->
  wpAny (model X.prog X.w) X.A (call f us) (EP X pins Z Q) X.xe s
def TruR (X:Cx) (r:V->Hp->(Bool->Hp->Prop)->Prop):Prop:=
 ∀(pins:Ar) (s:Shared) (Z:St) (H:Hp) (x:V) (v:Value) (Q:Bool->Hp->Prop),AJ X pins Z H s->RelV x v->r x H Q ->
  wpAny (model X.prog X.w) X.A (truthy v) (TP X pins Z Q) X.xe s
def tOp (r:R2) (ta tb:TE):TE:=λZ H Q=>ta Z H λx h=>tb Z h λy a=>r x y a Q
def tUn (r:V->Hp->VK->Prop) (ta:TE):TE:=λZ H Q=>ta Z H λx h=>r x h Q
def rI (C:Int->Int->Prop) (g:Int->Int->V):R2:=λx y H Q=>∃i j,x=.int i/\y=.int j/\C i j/\Q (g i j) H
def rI0 (g:Int->Int->V):R2:=λx y H Q=>∃i j,x=.int i/\y=.int j/\Q (g i j) H
def rU (g:Int->V):V->Hp->VK->Prop:=λx H Q=>∃i,x=.int i/\Q (g i) H
section
variable {X:Cx}{a b c:Expr}{ta tb tc:TE}{pos:Pos}
theorem binT (j:PE X a ta) (z:PE X b tb) {pins:Ar}{s:Shared}{Z:St}{H:Hp}{R:V->V->Hp->Prop}(I:AJ X pins Z H s)
  (h:ta Z H λx H1=>tb Z H1 λy H2=>R x y H2) {Q:Ai}{f:Value->Value->Sem Value}
  (hf:∀v u s2 x y H2,AJ X pins Z H2 s2->RelV x v->RelV y u->R x y H2->wpAny (model X.prog X.w) X.A (f v u) Q X.xe s2) :
  wpAny (model X.prog X.w) X.A (eval a X.env) (λv s₁=>wpAny (model X.prog X.w) X.A (eval b X.env) (λu s₂=>wpAny (model X.prog X.w) X.A (f v u) Q X.xe s₂) X.xe s₁) X.xe s:=by
 refine thn (j pins s Z H _ I h) λv s1 (x,H1,I1,r1,q1)=>?_;refine thn (z pins s1 Z H1 _ I1 q1) λu s2 (y,H2,I2,r2,q2)=>?_;exact hf v u s2 x y H2 I2 r1 r2 q2
theorem Ac (ho:OpR X (binaryOp op) r) (j:PE X a ta) (z:PE X b tb):PE X (.BinOp a op b pos) (tOp r ta tb):=by
 intro pins s Z H Q I h;exact wpAny_BinOp (binT j z I h λv u S x y c i R Y q=>ho pins S Z c x y v u Q i R Y q)
theorem opI {f:Value->Value->Sem Value}{C:Int->Int->Prop}{g:Int->Int->Int}
  (rule:∀(i j:Int) (t u:Tok) (s:Shared) (Q:Ai) (E:Ai),C i j->Q (.int (g i j) s.toks) { s with toks:=s.toks+1 } -> wpAny (model X.prog X.w) X.A (f (.int i t) (.int j u)) Q E s) :
  OpR X f (rI C λi j=>.int<|g i j):=by
 intro pins s Z H x y v u Q I rx ry h;obtain⟨i,j,rfl,rfl,c,q⟩:=h;obtain⟨t,rfl⟩:=rx;obtain⟨T,rfl⟩:=ry;exact rule i j t T s _ _ c (.int<|g i j,H,I.tok _,(_,rfl),q)
theorem opI0 {f:Value->Value->Sem Value}{g:Int->Int->Int}
  (rule:∀(i j:Int) (t u:Tok) (s:Shared) (Q:Ai) (E:Ai),Q (.int (g i j) s.toks) { s with toks:=s.toks+1 } -> wpAny (model X.prog X.w) X.A (f (.int i t) (.int j u)) Q E s) :
  OpR X f (rI0 λi j=>.int<|g i j):=by
 intro pins s Z H x y v u Q I rx ry h;obtain⟨i,j,rfl,rfl,q⟩:=h;obtain⟨t,rfl⟩:=rx;obtain⟨T,rfl⟩:=ry;exact rule i j t T s _ _ (.int<|g i j,H,I.tok _,(_,rfl),q)
theorem opB0 {f:Value->Value->Sem Value}{g:Int->Int->Bool}
  (L:∀(i j:Int) (t u:Tok) (s:Shared) (Q:Ai) (E:Ai),Q (.bool<|g i j) s->wpAny (model X.prog X.w) X.A (f (.int i t) (.int j u)) Q E s) :
  OpR X f (rI0 λi j=>.bl<|g i j):=by
 intro pins s Z H x y v u Q I rx ry h;obtain⟨i,j,rfl,rfl,q⟩:=h;obtain⟨t,rfl⟩:=rx;obtain⟨T,rfl⟩:=ry;exact L i j t T s _ _ (.bl<|g i j,H,I,rfl,q)
def CDiv (i j:Int):Prop:=0<j/\j<1073741824
def CPow (i j:Int):Prop:=0<=j/\j<=1000000/\i.natAbs<2 ^ 64
def CMul (i j:Int):Prop:=(-(2 ^ 64)<i/\i<2 ^ 64)\/(-(2 ^ 64)<j/\j<2 ^ 64)
theorem CMul.ok (h:CMul i j):IntMulOk i j:=by
 rcases h with ⟨H,a⟩|⟨H,a⟩
 ·exact .of_left<|intBits_le_64 H a
 ·exact .of_right<|intBits_le_64 H a
theorem Tz:OpR X (binaryOp .Add) (rI0 λi j=>.int<|i+j):=opI0 λ_ _ _ _ _ _ _ q=>add_int q
theorem Dv:OpR X (binaryOp .Sub) (rI0 λi j=>.int<|i-j):=opI0 λ_ _ _ _ _ _ _ q=>sub_int q
theorem D8:OpR X (binaryOp .Mult) (rI CMul λi j=>.int<|i*j):=opI λ_ _ _ _ _ _ _ c q=>mul_int q c.ok
theorem Jb:OpR X (binaryOp .FloorDiv) (rI CDiv λi j=>.int<|i / j):=opI λi j _ _ _ _ _ c q=>by
 have h:(0:Int)<j:=c.1;have H:j<1073741824:=c.2;exact floordiv_int #[2] (by rw[Int.fdiv_eq_ediv_of_nonneg i #[2]];exact q) (.inl<|PyProof.noPylong_small #[3])
theorem DM:OpR X (binaryOp .Mod) (rI (λ_ j=>0<j) λi j=>.int<|i % j):=opI λi j _ _ _ _ _ c q=>by
 have h:(0:Int)<j:=c;exact mod_int' #[2] (by rw[Int.fmod_eq_emod_of_nonneg i #[2]];exact q)
theorem TC:OpR X (binaryOp .Pow) (rI CPow λi j=>.int<|i ^ j.toNat):=opI λ_ _ _ _ _ _ _ c q=>pow_int_small c.1 c.2.1 c.2.2 q
theorem S9:OpR X (binaryOp .BitXor) (rI0 λi j=>.int<|Builtin.bitXor i j):=opI0 λ_ _ _ _ _ _ _ q=>xor_int q
theorem unI {f:Value->Sem Value}{g:Int->Int}
  (rule:∀(i:Int) (t:Tok) (s:Shared) (Q:Ai) (E:Ai),Q (.int (g i) s.toks) { s with toks:=s.toks+1 } -> wpAny (model X.prog X.w) X.A (f (.int i t)) Q E s) :
  UnR X f (rU λi=>.int<|g i):=by
 intro pins s Z H x v Q I rx h;obtain⟨i,rfl,q⟩:=h;obtain⟨t,rfl⟩:=rx;exact rule i t s _ _ (.int<|g i,H,I.tok _,(_,rfl),q)
end
def scal:V->V->Bool
 |.non,.non=>true|.non,.int _=>true|.int _,.non=>true|.non,.bl _=>true|.bl _,.non=>true|.non,.str _=>true|.str _,.non=>true
 |.int _,.int _=>true|.bl _,.bl _=>true|.str _,.str _=>true|.byt _,.byt _=>true
 |.int _,.str _=>true|.str _,.int _=>true|.bl _,.str _=>true|.str _,.bl _=>true
 |_,_=>false
def rEq:R2:=λx y H Q=>scal x y=true/\Q (.bl<|decide (x=y)) H
def rNe:R2:=λx y H Q=>scal x y=true/\Q (.bl (!decide (x=y))) H
theorem LN:decide (V.int i=V.int j)=(i == j):=by
 rw[GP];simp
theorem SK:decide (V.bl i=V.bl j)=(i == j):=by
 rw[GP];simp
theorem RT:decide (V.str i=V.str j)=(i == j):=by
 rw[GP];simp
theorem RJ:decide (V.byt i=V.byt j)=(i.toList == j.toList):=by
 rw[GP];cases i;cases j;simp
section
variable {X:Cx}{a b c:Expr}{ta tb tc:TE}{pos:Pos}
theorem Bz (I:AJ X pins Z H s) (q:Q (.bl k) H) (e:k=k'):EP X pins Z Q (.bool k') s:=by
 subst e;exact(.bl k,H,I,rfl,q)
theorem Ta:OpR X (compareOp .Eq) rEq:=by
 intro pins s Z H x y v u Q I rx ry h;obtain⟨S,q⟩:=h;cases x with
 |non=>
  cases rx;cases y with
  |non=>cases ry;exact PySem.EqNone.eq_none_none (Bz I q #[4])
  |bl j=>cases ry;exact PySem.EqNone.eq_none_bool (Bz I q #[4])
  |int j=>obtain⟨T,rfl⟩:=ry;exact PySem.EqNone.eq_none_int (Bz I q #[4])
  |str j=>obtain⟨T,rfl⟩:=ry;exact PySem.EqNone.eq_none_str (Bz I q #[4])
  |_=>exact absurd (show false=true from S) BL
 |bl i=>
  cases rx;cases y with
  |non=>cases ry;exact PySem.EqNone.eq_bool_none (Bz I q #[4])
  |bl j=>cases ry;exact eq_bool (Bz I q SK)
  |str j=>obtain⟨T,rfl⟩:=ry;exact PySem.EqMixed.eq_bool_str (Bz I q #[4])
  |_=>exact absurd (show false=true from S) BL
 |int i=>
  obtain⟨t,rfl⟩:=rx;cases y with
  |non=>cases ry;exact PySem.EqNone.eq_int_none (Bz I q #[4])
  |int j=>obtain⟨T,rfl⟩:=ry;exact eq_int (Bz I q LN)
  |str j=>obtain⟨T,rfl⟩:=ry;exact PySem.EqMixed.eq_int_str (Bz I q #[4])
  |_=>exact absurd (show false=true from S) BL
 |str i=>
  obtain⟨t,rfl⟩:=rx;cases y with
  |non=>cases ry;exact PySem.EqNone.eq_str_none (Bz I q #[4])
  |bl j=>cases ry;exact PySem.EqMixed.eq_str_bool (Bz I q #[4])
  |int j=>obtain⟨T,rfl⟩:=ry;exact PySem.EqMixed.eq_str_int (Bz I q #[4])
  |str j=>obtain⟨T,rfl⟩:=ry;exact eq_str (Bz I q RT)
  |_=>exact absurd (show false=true from S) BL
 |byt i=>
  obtain⟨t,rfl⟩:=rx;cases y with
  |byt j=>obtain⟨T,rfl⟩:=ry;exact PySem.W.eq_bytes (Bz I q RJ)
  |_=>exact absurd (show false=true from S) BL
 |_=>cases y <;> exact absurd (show false=true from S) BL
theorem T6:OpR X (compareOp .NotEq) rNe:=by
 intro pins s Z H x y v u Q I rx ry h;obtain⟨S,q⟩:=h;cases x with
 |non=>
  cases rx;cases y with
  |non=>cases ry;exact PySem.EqNone.ne_none_none (Bz I q #[4])
  |bl j=>cases ry;exact PySem.EqNone.ne_none_bool (Bz I q #[4])
  |int j=>obtain⟨T,rfl⟩:=ry;exact PySem.EqNone.ne_none_int (Bz I q #[4])
  |str j=>obtain⟨T,rfl⟩:=ry;exact PySem.EqNone.ne_none_str (Bz I q #[4])
  |_=>exact absurd (show false=true from S) BL
 |bl i=>
  cases rx;cases y with
  |non=>cases ry;exact PySem.EqNone.ne_bool_none (Bz I q #[4])
  |bl j=>cases ry;exact ne_bool (Bz I q (congrArg not SK))
  |str j=>obtain⟨T,rfl⟩:=ry;exact PySem.EqMixed.ne_bool_str (Bz I q #[4])
  |_=>exact absurd (show false=true from S) BL
 |int i=>
  obtain⟨t,rfl⟩:=rx;cases y with
  |non=>cases ry;exact PySem.EqNone.ne_int_none (Bz I q #[4])
  |int j=>obtain⟨T,rfl⟩:=ry;exact ne_int (Bz I q (congrArg not LN))
  |str j=>obtain⟨T,rfl⟩:=ry;exact PySem.EqMixed.ne_int_str (Bz I q #[4])
  |_=>exact absurd (show false=true from S) BL
 |str i=>
  obtain⟨t,rfl⟩:=rx;cases y with
  |non=>cases ry;exact PySem.EqNone.ne_str_none (Bz I q #[4])
  |bl j=>cases ry;exact PySem.EqMixed.ne_str_bool (Bz I q #[4])
  |int j=>obtain⟨T,rfl⟩:=ry;exact PySem.EqMixed.ne_str_int (Bz I q #[4])
  |str j=>obtain⟨T,rfl⟩:=ry;exact ne_str (Bz I q (congrArg not RT))
  |_=>exact absurd (show false=true from S) BL
 |byt i=>
  obtain⟨t,rfl⟩:=rx;cases y with
  |byt j=>obtain⟨T,rfl⟩:=ry;exact PySem.W.ne_bytes (Bz I q (congrArg not RJ))
  |_=>exact absurd (show false=true from S) BL
 |_=>cases y <;> exact absurd (show false=true from S) BL
theorem Gu:OpR X (compareOp .Lt) (rI0 λi j=>.bl<|decide (i<j)):=opB0 λ_ _ _ _ _ _ _ q=>lt_int q
theorem N8:OpR X (compareOp .LtE) (rI0 λi j=>.bl<|decide (i<=j)):=opB0 λ_ _ _ _ _ _ _ q=>le_int q
theorem Gw:OpR X (compareOp .Gt) (rI0 λi j=>.bl<|decide (j<i)):=opB0 λ_ _ _ _ _ _ _ q=>gt_int q
theorem Oa:OpR X (compareOp .GtE) (rI0 λi j=>.bl<|decide (j<=i)):=opB0 λ_ _ _ _ _ _ _ q=>ge_int q
theorem SF:OpR X (compareOp .Is) (λx y H Q=>y=.non/\Q (.bl<|decide (x=.non)) H):=by
 intro pins s Z H x y v u Q I rx ry h;obtain⟨rfl,q⟩:=h;cases ry;refine is_none_gen<|Bz I q ?_;cases x <;> first
  | (cases rx;rfl)
  | (obtain⟨t,rfl⟩:=rx;rfl)
theorem OpR.or (h:OpR X f r) (h':OpR X f r'):OpR X f (λx y H Q=>r x y H Q\/r' x y H Q):=by
 intro pins s Z H x y v u Q I rx ry q;rcases q with q|q
 ·exact h pins s Z H x y v u Q I rx ry q
 ·exact h' pins s Z H x y v u Q I rx ry q
theorem nomark (b:Expr) (h:op≠.In:=by decide) (h2:op≠.NotIn:=by decide):behindInMarks op b=false:=by
 have e:(op == CmpOp.In)=false:=by cases op <;> first|rfl|exact absurd rfl h
 have E:(op == CmpOp.NotIn)=false:=by cases op <;> first|rfl|exact absurd rfl h2
 cases b <;> simp[behindInMarks,e,E]
theorem JY (ho:OpR X (compareOp op) r) (j:PE X a ta) (z:PE X b tb) (hm:behindInMarks op b=false):PE X (.Compare a [op] [b] pos) (tOp r ta tb):=by
 intro pins s Z H Q I h;exact wpAny_Compare1 (binT j z I h λv u S x y c i R Y q=>ho pins S Z c x y v u Q i R Y q) hm
def tTest (t:TE):TT:=λZ H Q=>t Z H λx h=>∃k,x=.bl k/\Q k h
theorem BS (ho:OpR X (compareOp op) r) (j:PE X a ta) (J:PE X b tb) (hm:behindInMarks op b=false):PT X (.Compare a [op] [b] pos) (tTest<|tOp r ta tb):=by
 intro pins s Z H Q I h;refine wpAny_isTrue_Compare1 (thn (j pins s Z H _ I h) λv s1 (x,H1,I1,r1,q1)=>thn (J pins s1 Z H1 _ I1 q1) λu s2 (y,H2,I2,r2,q2)=>
  thn (ho pins s2 Z H2 x y v u _ I2 r1 r2 q2) λc s3 (z,H3,I3,r3,k,e,q3)=>?_) hm
 subst e;cases r3;exact wpAny_truthy_bool (H3,I3,q3)
def tChain (r j:R2) (ta tb tc:TE):TE:=λZ H Q=>ta Z H λx a=>tb Z a λy b=>r x y b λz h=>∃k,z=.bl k /\
 (if k=true then tc Z h λw c=>j y w c Q else Q (.bl false) h)
theorem Q6 (ho:OpR X (compareOp op) r) (O:OpR X (compareOp op') r') (j:PE X a ta) (J:PE X b tb) (L:PE X c tc)
  (hm:lastMarks [op,op'] [b,c]=false:=by with_unfolding_all rfl):PE X (.Compare a [op,op'] [b,c] pos) (tChain r r' ta tb tc):=by
 intro pins s Z H Q I h;refine Compare_chain (thn (j pins s Z H _ I h) λv s1 (x,H1,I1,r1,q1)=>chain_link (thn (J pins s1 Z H1 _ I1 q1) λu s2 (y,H2,I2,r2,q2)=>
  thn (ho pins s2 Z H2 x y v u _ I2 r1 r2 q2) λd s3 (z,H3,I3,r3,k,e,q3)=>?_)) hm
 subst e;cases r3;refine wpAny_truthy_bool ?_;cases k with
 |false=>exact ite_ff (.bl false,H3,I3,rfl,q3)
 |true=>exact ite_tt (chain_last (thn (L pins s3 Z H3 _ I3 q3) λw' s4 (z',H4,I4,r4,q4)=>O pins s4 Z H4 y z' u w' Q I4 r2 r4 q4))
theorem Zuj (ho:OpR X (compareOp op) r) (O:OpR X (compareOp op') r') (j:PE X a ta) (J:PE X b tb) (L:PE X c tc)
  (hm:lastMarks [op,op'] [b,c]=false:=by with_unfolding_all rfl):PT X (.Compare a [op,op'] [b,c] pos) (tTest<|tChain r r' ta tb tc):=by
 intro pins s Z H Q I h;refine isTrue_chain (thn (j pins s Z H _ I h) λv s1 (x,H1,I1,r1,q1)=>test_link (thn (J pins s1 Z H1 _ I1 q1) λu s2 (y,H2,I2,r2,q2)=>
  thn (ho pins s2 Z H2 x y v u _ I2 r1 r2 q2) λd s3 (z,H3,I3,r3,k,e,q3)=>?_)) hm
 subst e;cases r3;refine wpAny_truthy_bool ?_;cases k with
 |false=>
  obtain⟨K,E,q⟩:=q3;cases E;exact ite_ff (H3,I3,q)
 |true=>
  refine ite_tt<|test_last (thn (L pins s3 Z H3 _ I3 q3) λw' s4 (z',H4,I4,r4,q4)=>thn (O pins s4 Z H4 y z' u w' _ I4 r2 r4 q4) λd' s5 (z2,H5,I5,r5,k2,e2,q5)=>?_);subst e2;cases r5;exact wpAny_truthy_bool (H5,I5,q5)
def TruV (K:W.Frag) (x:V) (H:Hp) (k:Bool):Prop:=
 match x with
 |.non=>k=false
 |.bl b=>k=b
 |.int i=>k=(i != 0)
 |.str y=>y.length<=sizeLine/\k=((y.length:Int) != 0)
 |.byt y=>y.size<=sizeLine/\k=((y.size:Int) != 0)
 |.ref p=>(∃xs,SqL K H p xs/\k = !xs.isEmpty)\/(∃xs,SqT K H p xs/\k = !xs.isEmpty)\/∃kvs,H p=some (.dK kvs)/\k = !kvs.isEmpty
 |_=>False
theorem VE (r:KV kvs vs):(!vs.isEmpty) = !kvs.isEmpty:=by
 cases r <;> rfl
theorem PM (r:Vals xs its):(!its.toArray.isEmpty) = !xs.isEmpty:=by
 cases r <;> simp
theorem line63:(sizeLine:Nat)<2 ^ 63:=by rw[sizeLine_eq];decide
theorem Tx:TruR X (λx H Q=>∃k,TruV X.K x H k/\Q k H):=by
 intro pins s Z H x v Q I rx h;obtain⟨k,e,q⟩:=h;have L:=line63;have f:sizeLine=16777216:=sizeLine_eq;cases x with
 |non=>
  cases rx;have E:k=false:=e;subst E;exact truthy_none (H,I,q)
 |bl b=>
  cases rx;have E:k=b:=e;subst E;exact wpAny_truthy_bool (H,I,q)
 |int i=>
  obtain⟨t,rfl⟩:=rx;have E:k=(i != 0):=e;subst E;exact PySem.P.truthy_int (H,I,q)
 |str y=>
  obtain⟨t,rfl⟩:=rx;obtain⟨Y,E⟩:y.length<=sizeLine/\k=((y.length:Int) != 0):=e;subst E;exact PySem.P.truthy_str #[2] (H,I.tok _,q)
 |byt y=>
  obtain⟨t,rfl⟩:=rx;obtain⟨Y,E⟩:y.size<=sizeLine/\k=((y.size:Int) != 0):=e;subst E;exact PySem.W.truthy_bytes #[2] (H,I.tok _,q)
 |ref p=>
  cases rx;have E:(∃a,SqL X.K H p a/\k = !a.isEmpty)\/(∃a,SqT X.K H p a/\k = !a.isEmpty)\/∃S,H p=some (.dK S)/\k = !S.isEmpty:=e;rcases E with ⟨a,c,E⟩|⟨a,c,E⟩|⟨S,c,E⟩
  ·subst E
   obtain⟨T,r,l,z⟩:=I.list c;have n:=r.length;exact wpAny_truthy_list l.isList (by simp only[BC];lia) (H,I.tok _,by rw[PM r];exact q)
  ·subst E
   obtain⟨T,r,l,z⟩:=I.tuple c;have n:=r.length;exact truthy_tuple l (by simp only[BC];omega) (H,I.tok _,by rw[PM r];exact q)
  ·subst E
   obtain⟨z,d,V,r,m⟩:S.length<=sizeLine/\(p == sysModules)=false/\∃V,KV S V/\s.heap.DictOf (mixKind X.prog X.w) p V:=I.hok p _ c;have n:S.length=V.length:=Paired.length r;exact wpAny_truthy_dict d m #[2] (H,I.tok _,by rw[VE r];exact q)
 |_=>exact(show False from e).elim
theorem Zuk (ha:PE X a ta) (he:∀whole,isTrue a X.env whole=(do let v <- whole;standAt a.pos;holding [v] (truthy v))) :
  PT X a (λZ H Q=>ta Z H λx H'=>∃k,TruV X.K x H' k/\Q k H'):=by
 intro pins s Z H Q I h;exact isTrue_plain (thn (ha pins s Z H _ I h) λv s1 (x,H1,I1,r1,q1)=>Tx pins s1 Z H1 x v Q I1 r1 q1)<|he _
theorem vals1 (r:Vals [x] us):∃u,us=[u]/\RelV x u:=by
 cases r with
 |cons r1 r2=>cases r2;exact(_,rfl,r1)
theorem vals2 (r:Vals [x,y] us):∃u w',us=[u,w']/\RelV x u/\RelV y w':=by
 cases r with
 |cons r1 r2=>
  cases r2 with
  |cons r3 r4=>cases r4;exact(_,_,rfl,r1,r3)
theorem NQ:CallR X (.builtin "abs") (λxs H Q=>∃i,xs=[.int i]/\Q (.int (if i<0 then -i else i)) H):=by
 intro pins s Z H xs us Q I r h;obtain⟨i,rfl,q⟩:=h;obtain⟨u,rfl,t,rfl⟩:=vals1 r;exact call_abs_int λu k=>(.int (if i<0 then -i else i),H,I.tok _,(_,rfl),q)
theorem GV (z:X.calm=true):CallR X (.builtin "max") (λxs H Q=>∃i j,xs=[.int i,.int j]/\Q (.int (if j > i then j else i)) H):=by
 intro pins s Z H xs us Q I r h;obtain⟨i,j,rfl,q⟩:=h;obtain⟨u,w,rfl,⟨t,rfl⟩,⟨T,rfl⟩⟩:=vals2 r;refine max_two_ints (I.ok.hd z) λa K k=>(_,H,I.kept k,?_,q);by_cases hj:j > i
 ·rw[AM hj,AM hj];exact(_,rfl)
 ·rw[AL hj,AL hj];exact(_,rfl)
theorem Ko (z:X.calm=true):CallR X (.builtin "min") (λxs H Q=>∃i j,xs=[.int i,.int j]/\Q (.int (if j<i then j else i)) H):=by
 intro pins s Z H xs us Q I r h;obtain⟨i,j,rfl,q⟩:=h;obtain⟨u,w,rfl,⟨t,rfl⟩,⟨T,rfl⟩⟩:=vals2 r;refine min_two_ints (I.ok.hd z) λa K k=>(_,H,I.kept k,?_,q);by_cases hj:j<i
 ·rw[AM hj,AM hj];exact(_,rfl)
 ·rw[AL hj,AL hj];exact(_,rfl)
end
structure ObjM (h:Heap) (x dx C:Addr) (mA:Str->Option Value):Prop where
 obj:h.get? x=some (PySem.W.instObj C dx)
 ns:h.Ns1 dx mA
 ne:dx≠x
theorem Wv {h:Heap}(n:h.Ns1 dx mA):∃od,h.get? dx=some od/\∀name,PySem.W.lookIn name od=some (mA name):=by
 obtain⟨o,s,p,O,d,K,_,m⟩:=n;refine(o,O,λname=>?_);have e:=m name;unfold nsFind findBy at e;rw[<- Array.find?_toList]at e;unfold PySem.W.lookIn;rw[d];dsimp only;split
 ·rename_i y q
  rw[q]at e;exact congrArg some e
 ·rename_i q
  rw[q]at e;have a:s.toList.any (·.refKey)=false:=by
   rw[List.any_eq_false];intro y hy;obtain⟨z,t,k⟩:=K y<|Array.mem_toList_iff.mp hy;simp[DictEntry.refKey,k]
  have A:¬ s.toList.any (·.refKey)=true:=by rw[a];exact BL
  rw[AL A];exact congrArg some e
theorem ObjM.look (I:ObjM h x dx C mA):∃od,PySem.W.InstAt h x (PySem.W.instObj C dx) C (some od)/\∀name,PySem.W.lookIn name od=some (mA name):=
 let ⟨od,ho,hl⟩:=Wv I.ns
 (od,(I.obj,rfl,rfl,ho),hl)
theorem RelO.some_of (r:RelO (some v) o):∃u,o=some u/\RelV v u:=by
 cases o with
 |none=>exact(show False from r).elim
 |some u=>exact(u,rfl,r)
section
variable {P:Program}{w:World}{H H':Hp}{h h':Heap}{a C dx:Addr}{fs fs':List (Str × V)}
theorem Zws (O:HOk P w H h) (e:H a=some (.ins C dx fs)):∃mA,ObjM h a dx C mA/\(∀f,RelO (fs.lookup f) (mA f))/\PySem.Within mA (fs.map (·.1))/\fs.length<=1000/\H dx=some (.own a):=by
 obtain⟨d,z,ne,b,mA,n,r,q⟩:=(show ObjOk P w H h a (.ins C dx fs) from O a _ e);exact(mA,(b,n,ne),r,q,z,d)
end
structure Lc (K:W.Frag) (C:Addr):Prop where
 pg:PySem.W.plainGet K C Str.empty=true
 hd:PySem.W.hasDictIn K C=true
 po:PySem.W.plainOver K C=true
 sa:PySem.W.findIn K (.ref C) "__setattr__" = some (some (.builtin "object.__setattr__"))
theorem Lc.get {K:W.Frag}(c:Lc K C) (f:Str):PySem.W.plainGet K C f=true:=c.pg
section
variable {X:Cx}{pins:Ar}{Z:St}{H:Hp}{s:Shared}{a C dx:Addr}{fs:List (Str × V)}{f:Str}{v:V}{A:Around}{E:Ai}
end
section
variable {X:Cx}{pins:Ar}{Z:St}{H:Hp}{s:Shared}{A:Around}{E:Ai}{Q:Ai}{c:Value}{b:Bool}
inductive TyOf (K:W.Frag) (H:Hp):V->Value->Prop where
 |non:TyOf K H .non (.type "NoneType")
 |bl (x:Bool):TyOf K H (.bl x) (.type "bool")
 |int (i:Int):TyOf K H (.int i) (.type "int")
 |str (x:Str):TyOf K H (.str x) (.type "str")
 |flt (x:UInt64):TyOf K H (.flt x) (.type "float")
 |lst {a:Addr}{xs:List V}(e:H a=some (.lst xs)):TyOf K H (.ref a) (.type "list")
 |frz {a:Addr}{o:Obj}{xs:List V}(e:H a=some (.frz o (.lst xs))):TyOf K H (.ref a) (.type "list")
 |tup {a:Addr}{xs:List V}(e:H a=some (.tup xs)):TyOf K H (.ref a) (.type "tuple")
 |dK {a:Addr}{kvs:List (AV × V)}(e:H a=some (.dK kvs)):TyOf K H (.ref a) (.type "dict")
 |dT {a:Addr}{kvs:List (List AV × V)}(e:H a=some (.dT kvs)):TyOf K H (.ref a) (.type "dict")
 |ins {a C dx:Addr}{fs:List (Str × V)}(e:H a=some (.ins C dx fs)) (cl:Lc K C) (ha:PySem.W.findIn K (.ref C) "__class__" = some (some (.builtin "object.__class__")))
   (hn:PySem.W.specialIn K (.builtin "object.__class__") "__get__" = some (some (.builtin "getset_descriptor.__get__"))) (htk:PySem.W.takesIn K (.builtin "object.__class__")=some true)
   (hm:PySem.W.mroIn K C (.type "object")=some true):TyOf K H (.ref a) (.ref C)
theorem Vx {x:V}{u t:Value}(I:AJ X pins Z H s) (rx:RelV x u) (ty:TyOf X.K H x t) (e:PySem.W.kitOne X.K t c=some b) (h:∀tk,Q (.bool b) { s with toks:=tk }) :
  wpAny (model X.prog X.w) A (call (.builtin "isinstance") [u,c]) Q E s:=by
 cases ty with
 |non=>cases (show u=Value.none from rx);exact PySem.W.kia_one PySem.W.kitx_none I.kIn True.intro e (λz=>nomatch z) h
 |bl y=>cases (show u=Value.bool y from rx);exact PySem.W.kia_one PySem.W.kitx_bool I.kIn True.intro e (λz=>nomatch z) h
 |int i=>obtain⟨t,q⟩:=(show ∃t,u=Value.int i t from rx);cases q;exact PySem.W.kia_one PySem.W.kitx_int I.kIn True.intro e (λz=>nomatch z) h
 |str y=>obtain⟨t,q⟩:=(show ∃t,u=Value.str y t from rx);cases q;exact PySem.W.kia_one PySem.W.kitx_str I.kIn True.intro e (λz=>nomatch z) h
 |flt y=>obtain⟨t,q⟩:=(show ∃t,u=Value.float y t from rx);cases q;exact PySem.W.kia_one PySem.W.kitx_float I.kIn True.intro e (λz=>nomatch z) h
 |@lst a S ea=>
  cases (show u=Value.ref a from rx);obtain⟨_,_,n,_,d⟩:=(show ObjOk X.prog X.w H s.heap a (.lst S) from I.hok a _ ea);exact PySem.W.kia_one PySem.W.kitx_list I.kIn (_,d,rfl) e (λz=>nomatch z) h
 |@frz a ob S ea=>
  cases (show u=Value.ref a from rx);obtain⟨_,_,_,n,_,d⟩:=(show ObjOk X.prog X.w H s.heap a (.frz ob (.lst S)) from I.hok a _ ea);exact PySem.W.kia_one PySem.W.kitx_list I.kIn (_,d,rfl) e (λz=>nomatch z) h
 |@tup a S ea=>
  cases (show u=Value.ref a from rx);obtain⟨_,_,_,p⟩:=(show ObjOk X.prog X.w H s.heap a (.tup S) from I.hok a _ ea);obtain⟨o,d,⟨f,_⟩,_⟩:=p;exact PySem.W.kia_one PySem.W.kitx_tuple I.kIn (o,d,f) e (λz=>nomatch z) h
 |@dK a kvs ea=>
  cases (show u=Value.ref a from rx);obtain⟨_,_,v,_,p⟩:=(show ObjOk X.prog X.w H s.heap a (.dK kvs) from I.hok a _ ea);obtain⟨o,g,P,d,f,_⟩:=p;exact PySem.W.kia_one PySem.W.kitx_dict I.kIn (o,d,f.1) e (λz=>nomatch z) h
 |@dT a kvs ea=>
  cases (show u=Value.ref a from rx);obtain⟨_,_,S,_,o,g,P,d,f,_⟩:=(show ObjOk X.prog X.w H s.heap a (.dT kvs) from I.hok a _ ea);exact PySem.W.kia_one PySem.W.kitx_dict I.kIn (o,d,f.1) e (λz=>nomatch z) h
 |@ins a C dx fs ea cl ha hn htk hm=>
  cases (show u=Value.ref a from rx);obtain⟨m,O,_⟩:=Zws I.hok ea;obtain⟨D,J,_⟩:=O.look;exact PySem.W.kia_one (PySem.W.kitx_own (cl.get _) cl.hd ha hn htk hm) I.kIn J e (λz=>nomatch z) h
end
structure Room (k:Nat) (A:Around):Prop where
 hd:A.handled=none
 dp:A.depth+3*k+5<recursionLimit
 un:A.units+16*k+200<cLine
 gd:A.guards=some []
theorem Room.mono (r:Room k A) (h:j<=k):Room j A:=(r.hd,by have:=r.dp;lia,by have:=r.un;lia,r.gd)
theorem Room.deeper (r:Room (k+1) A) (env:Env):Room k (A.deeper env):=
 (r.hd,by have:=r.dp;show A.depth+1+3*k+5<_;lia,by have:=r.un;show A.units+3+16*k+200<_;lia,r.gd)
theorem Room.depth (r:Room k A):A.depth<recursionLimit:=by have:=r.dp;lia
theorem Room.units (r:Room k A):A.units+64<cLine:=by have:=r.un;lia
def tNil:TA:=λ_ H Q=>Q [] H
def tCons (ta:TE) (j:TA):TA:=λZ H Q=>ta Z H λx h=>j Z h λs a=>Q (x::s) a
section
variable {X:Cx}{e:Expr}{es:List Expr}{te:TE}{t:TA}{pos:Pos}
theorem AF:PA X [] tNil:=λ_ _ _ _ H Q I h=>Calls.spliced_nil ([],H,I,.nil,h)
theorem AB (j:PE X e te) (z:PA X es t) (J:starEach (e::es) X.env=(false,eval e X.env)::starEach es X.env:=by rfl):PA X (e::es) (tCons te t):=by
 intro pos pins s Z H Q I h;rw[J];show wpAny _ _ (spliced ((false,eval e X.env)::backTo pos (starEach es X.env))) _ _ s;refine Calls.spliced_cons (thn (j pins s Z H _ I h) λu s1 (x,H1,I1,r1,q1)=>?_);exact thn (z pos pins s1 Z H1 _ I1 q1) λus s2 (xs,H2,I2,r2,q2)=>(x::xs,H2,I2,.cons r1 r2,q2)
def tTup (t:TA):TE:=λZ H Q=>t Z H λs h=>s.length<=sizeLine/\∀p,h p=none->Q (.ref p) (upd h p (.tup s))
def tLst (t:TA):TE:=λZ H Q=>t Z H λs h=>s.length<=sizeLine/\∀p,h p=none->Q (.ref p) (upd h p (.lst s))
theorem CG {x1} (h:PA X es t):PE X (.Tuple es x1 pos) (tTup t):=by
 intro pins s Z H Q I hq;refine wpAny_Tuple_spliced (thn (h pos pins s Z H _ I hq) λus s1 (xs,H1,I1,r,z,q)=>(by rw[<- r.length];exact z,?_));have f:H1 s1.heap.objs.size=none:=I1.hok.fresh<|AX _;refine(.ref s1.heap.objs.size,upd H1 s1.heap.objs.size (.tup xs),I1.laid (t':=s1.toks) (λb u e=>BA _ e) (AX _) ?_,rfl,q _ f);exact(z,us,r,(_,Bl _ rfl,(rfl,_,rfl),rfl))
theorem Dk (h:PA X es t):PE X (.List es pos) (tLst t):=by
 intro pins s Z H Q I hq;refine wpAny_List_spliced (thn (h pos pins s Z H _ I hq) λus s1 (xs,H1,I1,r,z,q)=>(by rw[<- r.length];exact z,?_));have f:H1 s1.heap.objs.size=none:=I1.hok.fresh<|AX _;refine(.ref s1.heap.objs.size,upd H1 s1.heap.objs.size (.lst xs),I1.laid (t':=s1.toks) (λb u e=>BA _ e) (AX _) ?_,rfl,q _ f);exact(z,us,0,r,Bl _ rfl)
end
abbrev Sp:=List V->Hp->VK->XK->Prop
abbrev CXT:=List Env->Hp->Shared->XK->Value->Shared->Prop
structure Env0 (P:Program) (w:World) (K:W.Frag) (mg:Str->Option Value) (base:Heap) (A:Around) (outer:List Env) (s:Shared) (H:Hp):Prop where
 frames:A.frames=some outer
 mod:Mod K mg base
 bs:∀b o,base.get? b=some o->s.heap.get? b=some o/\H b=none
 bsz:base.objs.size<=s.heap.objs.size
 funs:s.heap.FunFrames base outer
 frf:∀b∈frs outer,H b=none
 hok:HOk P w H s.heap
 bare:AllBare s.gens
def CE (U:List Env) (P:Program) (w:World) (H:Hp) (s:Shared) (Q:VK) (u:Value) (s':Shared):Prop:=
 ∃v H',s'.os=s.os/\AllBare s'.gens/\Un (frs U) [] H H' s.heap s'.heap/\HOk P w H' s'.heap/\RelV v u/\Q v H'
def CR (CX:CXT) (U:List Env) (P:Program) (w:World) (H:Hp) (s:Shared) (Q:VK) (E:XK) (r:Result) (s':Shared):Prop:=
 match r with
 |.ok (.ret u)=>CE U P w H s Q u s'
 |.ok _=>False
 |.error e=>CX U H s E e s'
structure FnOk (P:Program) (w:World) (K:W.Frag) (mg:Str->Option Value) (base:Heap) (CX:CXT) (k:Nat) (f:Addr) (fd:FuncData) (ps:List Str) (sp:Sp):Prop where
 len:∀vs H Q E,sp vs H Q E->vs.length=ps.length
 run:∀(A:Around) (outer:List Env) (s:Shared) (H:Hp) (args:Args) (us:List Value) (vs:List V) (Q:VK) (E:XK),Room k A->Env0 P w K mg base A outer s H->BindsTo s fd args (ps.zip us)->Vals vs us->sp vs H Q E ->
  codeAny (model P w) A (.call (.ref f) args) (CR CX outer P w H s Q E) s
theorem FnOk.imp {K:W.Frag}(F:FnOk P w K mg base CX k f fd ps sp)
  (h:∀vs H Q E,sp' vs H Q E->sp vs H Q E):FnOk P w K mg base CX k f fd ps sp':=
 (λvs H Q E q=>F.len vs H Q E<|h _ _ _ _ q,λA r s H g u vs Q E R e b v S=>F.run A r s H g u vs Q E R e b v<|h _ _ _ _ S)
section
variable {X:Cx}{pins:Ar}{Z:St}{H:Hp}{s s':Shared}
theorem AJ.env0 (I:AJ X pins Z H s):Env0 X.prog X.w X.K X.mg X.base X.A X.stack s H:=
 (I.ok.frames,I.ok.mod,I.bs,Ck I.ok.bsz I.sz,I.stack,I.stkFree,I.hok,I.bare)
theorem AJ.after (I:AJ X pins Z H s) (h:CE X.stack X.prog X.w H s Q u s'):EP X pins Z Q u s':=by
 obtain⟨v,a,S,e,n,k,r,q⟩:=h;obtain⟨c,g,d,t,o⟩:=s';obtain rfl:o=s.os:=S;exact(v,a,I.call (h':=c) (g':=g) (d':=d) (t':=t) (ch:=[]) n k e (λb z=>absurd z #[4]),r,q)
end
def tCall (sp:Sp) (dvs:List V) (E:XK) (t:TA):TE:=λZ H Q=>t Z H λs h=>sp (s++dvs) h Q E
def Binds (K:W.Frag) (fd:FuncData) (ps:List Str) (ds:List Value):Prop:=
 ∀(s:Shared) (us:List Value),K.In s.heap->(us++ds).length=ps.length->BindsTo s fd (us,[]) (ps.zip<|us++ds)
theorem Binds.all {K:W.Frag}(h:∀us:List Value,us.length=ps.length->bindArgs fd (us,[])=pure (ps.zip us)):Binds K fd ps []:=λs us _ l=>by
 rw[Bp]at l ⊢;exact .of_eq<|h us l
def Passes (CX:CXT) (X:Cx) (E:XK):Prop:=∀(pins:Ar) (Z:St) (H:Hp) (s:Shared) (e:Value) (s':Shared),AJ X pins Z H s->CX X.stack H s E e s' -> X.xe e s'
section
variable {X:Cx}{CX:CXT}{k:Nat}{f C:Addr}{fd:FuncData}{ps:List Str}{sp:Sp}{dvs:List V}{ds:List Value}{E:XK}{x m:Str}{p pos apos:Pos}{e o:Expr}{es:List Expr}{ta:TE}{t:TA}
theorem Zzz (F:FnOk X.prog X.w X.K X.mg X.base CX k f fd ps sp) (J:Room k X.A) (j:Binds X.K fd ps ds) (z:Vals dvs ds) (L:Passes CX X E)
  (I:AJ X pins Z H s) (r:Vals vs us) (h:sp (vs++dvs) H Q E):wpAny (model X.prog X.w) X.A (call (.ref f) us) (EP X pins Z Q) X.xe s:=by
 have R:Vals (vs++dvs) (us++ds):=r.append z;have l:(us++ds).length=ps.length:=by rw[<- R.length];exact F.len _ _ _ _ h
 refine wpAny_call (codeAny_mono (F.run X.A X.stack s H (us,[]) (us++ds) (vs++dvs) Q E J I.env0 (j s us I.kIn l) R h) λr S q=>?_);cases r with
 |error e=>exact L pins Z H s e S I q
 |ok fl=>
  cases fl with
  |ret u=>exact I.after q
  |next=>exact False.elim q
  |brk=>exact False.elim q
  |cont=>exact False.elim q
theorem Zyl (F:FnOk X.prog X.w X.K X.mg X.base CX k f fd ps sp) (hr:Room k X.A) (Y:Gl X x) (hm:X.mg x=some (.ref f)) (hk:W.keepIn X.K (.ref f)=true) (J:Binds X.K fd ps ds) (O:Vals dvs ds) (hx:Passes CX X E)
  (z:PA X (e::es) t) (j:(x == ("__debug__":Str))=false:=by decide) (U:starEach (e::es) X.env=(false,eval e X.env)::starEach es X.env:=by rfl) (L:(backTo pos<|starEach es X.env).any (·.1)=false:=by rfl) :
  PE X (.Call (.Name x p) (e::es) [] pos) (tCall sp dvs E t):=by
 intro pins s Z H Q I h;refine wpAny_Call_Name_kw<|RZ I Y hm ?_ j;refine PySem.W.callWith_K (h₀:=X.base) I.ok.mod.kin hk (thn (z pos pins s Z H _ I h) λus s1 (vs,H1,I1,r,q)=>(I1.kIn,?_)) U L;exact Zzz F hr J O hx I1 r q
end
section
variable {X:Cx}{CX:CXT}{k:Nat}{f C:Addr}{fd:FuncData}{ps ks:List Str}{sp:Sp}{E:XK}{x m:Str}{p pos apos kpos:Pos}{e o:Expr}{es:List Expr}{kws:List Keyword}{te ta:TE}{t tk:TA}{nm:Option Str}
variable {g:List Value->List Value->List Value}{gV:List V->List V->List V}
end
structure FnScope (N P:List Str) (sc:Scope):Prop where
 kind:sc.kind=.function
 co:sc.isCoroutine=false
 gen:sc.isGenerator=false
 nd:N.Nodup
 pre:N.take P.length=P
 par:∀x∈P,sc.names.lookup x=some .local\/sc.names.lookup x=some .cell
 nofree:∀y∈sc.names,y.2≠.free
theorem P0 {O:Str->Option NameKind}:∀{binds:List (Str × Value)}{m:Str->Option Value},(∀v,(x,v) ∉ binds)->bindL O binds m x=m x
 |[],_,_=>rfl
 | (n,v)::r,m,h=>by
  unfold bindL;rw[P0 λw W=>h w (Bs _ W)];split
  ·have:x≠n:=by rintro rfl;exact h v Bk
   simp[this]
  ·rfl
theorem QB {O:Str->Option NameKind}:∀{binds:List (Str × Value)}{m:Str->Option Value},(∀v,(x,v) ∉ binds)->bindC O binds m x=m x
 |[],_,_=>rfl
 | (n,v)::r,m,h=>by
  unfold bindC;rw[QB λw W=>h w (Bs _ W)];split
  ·rfl
  ·have:x≠n:=by rintro rfl;exact h v Bk
   simp[this]
theorem Pz {O:Str->Option NameKind}:∀{P:List Str}{vs:List Value}{i:Nat}{m:Str->Option Value},P.Nodup->P[i]?=some x->vs[i]?=some v->O x=some .local ->
  bindL O (P.zip vs) m x=some v
 |[],_,_,_,_,h,_,_=>by simp at h
 |_::_,[],_,_,_,_,h,_=>by simp at h
 |p::P,w::vs,0,m,nd,h1,h2,hk=>by
  simp at h1 h2;subst h1;subst h2;show bindL O ((p,w)::P.zip vs) m p=_;unfold bindL;rw[P0 λv V=>(DB.mp nd).1 (J7 V).1,AM hk];simp
 |p::P,w::vs,i+1,m,nd,h1,h2,hk=>by
  show bindL O ((p,w)::P.zip vs) m x=_;unfold bindL;exact Pz (i:=i) (DB.mp nd).2 (by simpa using h1) (by simpa using h2) hk
theorem Py {O:Str->Option NameKind}:∀{P:List Str}{vs:List Value}{i:Nat}{m:Str->Option Value},P.Nodup->P[i]?=some x->vs[i]?=some v->O x≠some .local ->
  bindC O (P.zip vs) m x=some v
 |[],_,_,_,_,h,_,_=>by simp at h
 |_::_,[],_,_,_,_,h,_=>by simp at h
 |p::P,w::vs,0,m,nd,h1,h2,hk=>by
  simp at h1 h2;subst h1;subst h2;show bindC O ((p,w)::P.zip vs) m p=_;unfold bindC;rw[QB λv V=>(DB.mp nd).1 (J7 V).1,AL hk];simp
 |p::P,w::vs,i+1,m,nd,h1,h2,hk=>by
  show bindC O ((p,w)::P.zip vs) m x=_;unfold bindC;exact Py (i:=i) (DB.mp nd).2 (by simpa using h1) (by simpa using h2) hk
def start (N:List Str) (vs:List V):St:=vs.map some++Ak (N.length-vs.length) none
def cxOf (CX:CXT) (P:Program) (w:World) (K:W.Frag) (mg:Str->Option Value) (base:Heap) (N:List Str) (qual:Str) (scope:Scope) (f:Addr) (cd:Value) (A:Around) (outer:List Env) (s:Shared) (H:Hp) (E:XK):Cx where
 prog:=P
 w:=w
 K:=K
 mg:=mg
 base:=base
 A:=A.deeper<|envOfC qual scope s.heap.objs.size f cd
 N:=N
 s₀:=s
 H₀:=H
 env:=envOfC qual scope s.heap.objs.size f cd
 outer:=outer
 stack:=envOfC qual scope s.heap.objs.size f cd::outer
 ex:=[]
 calm:=true
 fn:=λ_=>true
 pn:=[]
 xe:=λe b=>wpAny (model P w) (A.deeper<|envOfC qual scope s.heap.objs.size f cd) (leaving (envOfC qual scope s.heap.objs.size f cd) e) (λ_ S=>CX outer H s E e S) (λa S=>CX outer H s E a S) b
theorem Qb {j:Scope}(h:j.names.lookup x=some .cell):∃c,(cellsFrom n j.names []).lookup x=some c:=by
 have q:=PySem.W.cellsFrom_some j.names n [] (.inl h);exact Option.isSome_iff_exists.mp q
theorem WA {CX:CXT}{P:Program}{w:World}{K:W.Frag}{mg:Str->Option Value}{base:Heap}{N ps:List Str}{J:Str}{scope:Scope}{f:Addr}{cd:Value}{A:Around}{O:List Env}{s s1:Shared}{H:Hp}{E:XK}{us:List Value}{vs:List V}
  (S:FnScope N ps scope) (hd:A.handled=none) (e0:Env0 P w K mg base A O s H) (hl:vs.length=ps.length) (r:Vals vs us)
  (x:InCallC s s.heap.objs.size (bindL (envOfC J scope s.heap.objs.size f cd).kindOf (ps.zip us) λ_=>none) (cellsFrom (s.heap.objs.size+1) scope.names []) (bindC (envOfC J scope s.heap.objs.size f cd).kindOf (ps.zip us) λ_=>none) s1) :
  AJ (cxOf CX P w K mg base N J scope f cd A O s H E) [] (start N vs) H s1:=by
 have L:ps.length<=N.length:=by have:=congrArg BQ S.pre;rw[Bn]at this;lia
 obtain⟨j,T,rfl,l⟩:=x.done;have o:∀b:Addr,b ∉ (cxOf CX P w K mg base N J scope f cd A O s H E).ex:=λb z=>absurd (show b∈([]:List Addr) from z) #[4];refine((e0.mod,S.kind,rfl,rfl,AX _,λy z c j d=>?_,λy Y=>?_,λy c _ h=>?_,λ_=>hd,Around.frames_deeper e0.frames,.inr (rfl,rfl),λb z=>absurd z (o b),e0.bs,e0.bsz,λb _ _=>o b,λb z=>absurd z (o b),e0.funs,e0.frf),
  rfl,e0.bare,Un.kept l,(_,x.toInCall.ns,λi y v j d t=>?_),λy c h=>(_,x.cell y c h),e0.hok.fresh (AX _),λy c h=>?_,λp g=>absurd (show p∈([]:Ar) from g) #[4],e0.hok.kept l,?_)
 ·exact name_of_addr x.apart (PySem.mem_of_lookup j)<|PySem.mem_of_lookup d
 ·have Y:scope.names.lookup y=some .cell\/scope.names.lookup y=some .free:=Y
  rcases Y with Y|Y
  ·exact Qb Y
  ·exact absurd rfl<|S.nofree _<|PySem.mem_of_lookup Y
 ·exact CM<|x.above y c<|PySem.mem_of_lookup h
 ·have I:i<vs.length:=by
   unfold start at d;by_cases I:i<vs.length
   ·exact I
   ·rw[Ci (by simpa using I)]at d
    rw[IF]at d;split at d <;> cases d
  have m:vs[i]?=some v:=by
   unfold start at d;rw[Dp (by simpa using I),Ad]at d;cases e:vs[i]? with
   |none=>rw[e]at d;cases d
   |some a=>rw[e]at d;cases d;rfl
  obtain⟨u,U,R⟩:=r.get m;have g:ps[i]?=some y:=by
   rw[<- S.pre,Lv #[2]];exact j
  have D:ps.Nodup:=by rw[<- S.pre];exact S.nd.sublist<|List.take_sublist _ _
  refine(u,R,?_);rcases S.par y (Bd g) with k|k
  ·exact .inl (k,Pz D g U k)
  ·obtain⟨c,e⟩:=Qb (n:=s.heap.objs.size+1) k
   refine .inr (.inl k,c,e,?_);have q:=x.cell y c e;rw[Py D g U (by show scope.names.lookup y≠_;rw[k];decide)]at q;exact q
 ·exact e0.hok.fresh<|CM<|x.above y c<|PySem.mem_of_lookup h
 ·unfold start
  show _=N.length;rw[A1,AH,Cc];lia
theorem TY {CX:CXT}{P:Program}{w:World}{K:W.Frag}{mg:Str->Option Value}{base:Heap}{k:Nat}{f:Addr}{name qual:Str}{params:Arguments}{body:List Stmt}{scope:Scope}{dV kV doc pm cdv ct oc:Value}{an od:Option Addr}
  {osl:Array (Option Value)}{N ps:List Str}{sp:Sp}(lk:K.lookup f=some (oc,od,.func<|W.fnOf name qual params body scope dV kV doc pm an cdv ct,osl)) (hcd:W.codeIn K cdv qual=true) (S:FnScope N ps scope)
  (len:∀vs H Q E,sp vs H Q E->vs.length=ps.length)
  (hbody:∀(A:Around) (outer:List Env) (s:Shared) (H:Hp) (vs:List V) (Q:VK) (E:XK),Room k (A.deeper (envOfC qual scope s.heap.objs.size f cdv))->sp vs H Q E ->
   ∃t,PSs (cxOf CX P w K mg base N qual scope f cdv A outer s H E) body t/\t { nx:=λ_ H'=>Q .non H',rt:=Q } (start N vs) H) :
  FnOk P w K mg base CX (k+1) f (W.fnOf name qual params body scope dV kV doc pm an cdv ct) ps sp:=by
 refine(len,λA outer s H G U vs Q E R a B r p=>?_);have C:=len _ _ _ _ p;have X:K.In s.heap:=a.mod.kin.keeps λb o e=>(a.bs b o e).1;have m:s.heap.NoLimit:=a.mod.nolimit.keeps λb o e=>(a.bs b o e).1;have d:∀y∈ps.zip U,scope.names.lookup y.1=some .local\/(scope.names.lookup y.1=some .cell/\((cellsFrom (s.heap.objs.size+1) scope.names []).lookup y.1).isSome=true):=λ(n,v) hy=>by
  rcases S.par n (J7 hy).1 with q|q
  ·exact .inl q
  ·exact .inr (q,PySem.W.cellsFrom_some _ _ _ (.inl q))
 refine codeAny_call_function R.depth (X _ _ lk) rfl S.co S.gen rfl (PySem.W.codeRec_of X hcd)<|B _ _ _ _ ?_;refine wpAny_newFunctionEnv_cells S.kind d λl z j x=>?_;subst z;refine(m.keeps x.toInCall.keep,codeAny_func ?_);obtain⟨t,T,D⟩:=hbody A outer s H vs Q E (R.deeper _) p;have I:AJ (cxOf CX P w K mg base N qual scope f cdv A outer s H E) [] (start N vs) H j:=WA S R.hd a C r x;refine EN (T [] j (start N vs) H _ I D) (λL g h=>?_) λe g h=>h;have i:∀{Z:St}{H':Hp}{v:V}{u:Value},AJ (cxOf CX P w K mg base N qual scope f cdv A outer s H E) [] Z H' g -> RelV v u->Q v H' -> CE outer P w H s Q u g:=
  λ{Z H' v u} J c q=>(v,H',J.os,J.bare,J.base,J.hok,c,q)
 cases L with
 |ret u=>
  obtain⟨v,Z,H',J,c,q⟩:=h;exact i J c q
 |next=>
  obtain⟨Z,H',J,q⟩:=h;exact i (v:=V.non) (u:=Value.none) J rfl q
 |brk=>
  obtain⟨_,_,_,q⟩:=h;exact False.elim q
 |cont=>
  obtain⟨_,_,_,q⟩:=h;exact False.elim q
section
variable {X:Cx}{x:Str}{p pos:Pos}{e:Expr}{es:List Expr}{t:TA}{id T:String}{r:List V->Hp->VK->Prop}
def tCB (r:List V->Hp->VK->Prop) (t:TA):TE:=λZ H Q=>t Z H λs h=>r s h Q
theorem Aj (J:CallR X (.builtin id) r) (U:Gl X x) (hm:X.mg x=none) (hv:bootBuiltins x=some (.builtin id)) (z:PA X (e::es) t) (Y:x ≠ "__name__":=by decide) (j:(x == ("__debug__":Str))=false:=by decide)
  (O:starEach (e::es) X.env=(false,eval e X.env)::starEach es X.env:=by rfl) (L:(backTo pos<|starEach es X.env).any (·.1)=false:=by rfl):PE X (.Call (.Name x p) (e::es) [] pos) (tCB r t):=by
 intro pins s Z H Q I h;refine wpAny_Call_Name_kw<|Dj I U hm hv ?_ Y j;exact PyProof.Rows.callWith_builtin1 (thn (z pos pins s Z H _ I h) λus s1 (vs,H1,I1,r1,q1)=>J pins s1 Z H1 vs us Q I1 r1 q1) O L
theorem Cp (J:CallR X (.type T) r) (U:Gl X x) (hm:X.mg x=none) (hv:bootBuiltins x=some (.type T)) (z:PA X (e::es) t) (Y:x ≠ "__name__":=by decide) (j:(x == ("__debug__":Str))=false:=by decide)
  (O:starEach (e::es) X.env=(false,eval e X.env)::starEach es X.env:=by rfl) (L:(backTo pos<|starEach es X.env).any (·.1)=false:=by rfl):PE X (.Call (.Name x p) (e::es) [] pos) (tCB r t):=by
 intro pins s Z H Q I h;refine wpAny_Call_Name_kw<|Dj I U hm hv ?_ Y j;exact PyProof.Rows.callWith_type1 (thn (z pos pins s Z H _ I h) λus s1 (vs,H1,I1,r1,q1)=>J pins s1 Z H1 vs us Q I1 r1 q1) O L
theorem VS (z:CallR X (.type T) r) (J:Gl X x) (hm:X.mg x=none) (O:bootBuiltins x=some (.type T)) (L:x ≠ "__name__":=by decide) (j:(x == ("__debug__":Str))=false:=by decide) :
  PE X (.Call (.Name x p) [] [] pos) (tCB r tNil):=by
 intro pins s Z H Q I h;refine wpAny_Call_Name_kw<|Dj I J hm O ?_ L j;exact PyProof.Rows.callWith_type0<|z pins s Z H [] [] Q I .nil h
end
end L2
namespace HT
open PySem PyProof.Rows
def lexLt:List Int->List Int->Bool
 |[],[]=>false
 |[],_::_=>true
 |_::_,[]=>false
 |x::xs,y::ys=>if x=y then lexLt xs ys else decide (x<y)
theorem Vi (x y:Int) (xs ys:List Int):lexLt (x::xs) (y::ys)=if x=y then lexLt xs ys else decide (x<y):=rfl
theorem UZ:lexLt [] []=false:=rfl
theorem UR (y:Int) (ys:List Int):lexLt [] (y::ys)=true:=rfl
theorem UT (x:Int) (xs:List Int):lexLt (x::xs) []=false:=rfl
theorem Zvg (A:Around) (s:Shared) (a:Int) (t:Tok) (c:Int) (u:Tok):∃e,SeqAt.EqAt A s (.int a t) (.int c u) e/\(e=true↔a=c):=
 ((a == c),SeqAt.EqAt.int_int a t c u,#[4])
theorem Zub (A:Around) (s:Shared) (a:Int) (t:Tok) (c:Int) (u:Tok) (prog:Program) (w:World) (E:Ai) (Q:Ai) (h:Q (.bool<|decide (a<c)) s) :
  wpAny (model prog w) A (richCompare .Lt (.int a t) (.int c u)) Q E s:=
 (PyProof.Rows.lt_int h:wpAny (model prog w) A (compareOp .Lt (.int a t) (.int c u)) Q E s)
section
open PySem.SeqAt
open PySem.AutoSeq1 (wpAny_loadPart')
open PySem.MeetsSeq PySem.MeetsSeq2 PySem.MeetsSeq3
theorem tuple_lt_ints (l b:Addr) (items items2:Array Value) (n n2:Nat) (dd dd2:Option Addr) (sl sl2:Array (Option Value)) (ns ms:List Int) (hi:IntsAre items.toList ns) (hj:IntsAre items2.toList ms) :
  Meets (Builtin.«tuple.__lt__» ([.ref l,.ref b],[]))
   (λ_ R s=>s.heap.get? l=some { cls:=.type "tuple",dict:=dd,data:=.seq items n,slots:=sl } /\ s.heap.get? b=some { cls:=.type "tuple",dict:=dd2,data:=.seq items2 n2,slots:=sl2 } /\
    R (.ok (.ret (.bool (lexLt ns ms)))) s):=
 .of_wp λo w A R s h=>by
  obtain⟨p,g,d,k,O⟩:=s;obtain⟨L,D,h⟩:=h;have J:=AutoSeq1.sub_tuple_tuple;have Z:items.size=ns.length:=by rw[<- hi.length];simp
  have K:items2.size=ms.length:=by rw[<- hj.length];simp
  wp_walk using wpAny_loadPart' L,wpAny_loadPart' D,wpAny_forIn_list _ (λr b j=>b.1=none/\j=(p,g,d,k,O) /\ ∃(V W:List Value) (S m:List Int),r=V.zip W /\
   IntsAre V S /\ IntsAre W m /\ S.length+items2.size=m.length+items.size/\R (.ok (.ret (.bool (lexLt S m)))) (p,g,d,k,O)) _
  case turn=>
   rintro⟨y,x⟩ r b j ⟨B,rfl,V,W,S,m,z,v,i,N,H⟩;cases v with
   |nil=>rw[List.zip_nil_left]at z;cases z
   |cons a t hvi'=>
    cases i with
    |nil=>rw[List.zip_nil_right]at z;cases z
    |cons c u hwi'=>
     rw[IV]at z;injection z with hyx hrest
     injection hyx with hy hx
     subst hy hx;rw[Vi]at H;simp only[BI]at N;obtain⟨e,E,f⟩:=Zvg A.in1 (p,g,d,k,O) a t c u;refine AE<|E o w _ _ ?_;cases e with
     |true=>
      rw[AM (f.mp rfl)]at H
      wp_walk
      exact(rfl,rfl,_,_,_,_,hrest,hvi',hwi',#[2],H)
     |false=>
      rw[AL (λq=>absurd (f.mpr q) BL)]at H;have I:=Zub A.in1 (p,g,d,k,O) a t c u o w
      wp_walk using I
      exact(_,rfl,by simpa using H)
  case fin=>
   rintro⟨F,G⟩ j ⟨B,rfl,V,W,S,m,z,v,i,N,H⟩;simp only at B;subst B;have C:lexLt S m=decide (items.size<items2.size):=by
    cases v with
    |nil=>
     cases i with
     |nil=>
      simp only[EV]at N;rw[UZ];exact(A4 #[2]).symm
     |cons c u hw=>
      simp only[EV,BI]at N;rw[UR];exact(Au #[2]).symm
    |cons a t C=>
     cases i with
     |nil=>
      simp only[EV,BI]at N;rw[UT];exact(A4 #[2]).symm
     |cons c u hw=>
      rw[IV]at z;cases z
   rw[C]at H
   wp_walk
   exact(_,rfl,by simpa [Builtin.Tuple.tupleCompareSizes] using H)
  case h=>
   exact(rfl,rfl,items.toList,items2.toList,ns,ms,rfl,hi,hj,#[2],h)
end
#check 4
theorem cat_tup (ht:IsTup s.heap t vs.toArray) (hb:IsTup s.heap b ws.toArray) (hv:vs≠[])
  (h1:ws=[]->Q (.ref t) s) (h2:ws≠[]->Q (.ref s.heap.objs.size) { s with heap:=s.heap.push { cls:=.type "tuple",data:=.seq (vs++ws).toArray } })
  (hsz:vs.length+ws.length<=sizeLine):wpAny (model prog w) A (binaryOp .Add (.ref t) (.ref b)) Q E s:=by
 obtain⟨⟨cls,D,data,L⟩,O,C,n,H⟩:=id ht;obtain⟨⟨S,d,a,l⟩,o,c,N,h⟩:=id hb;simp only at C H c h;subst C H c h;have e:vs.toArray++ws.toArray=(vs++ws).toArray:=#[4]
 by_cases hw:ws=[]
 ·exact concat_meets (_,O,rfl) (_,o,rfl) noFill_tuple_add seq_tuple_add PySem.F.slot_tuple_add PySem.F.entry_tuple_add (PySem.F.args_tuple_add_2 _ _)
   (tuple_addW1 t b vs.toArray ws.toArray n N D d L l (by simpa using hv) (by simp[hw])) (O,o,h1 hw)
 ·refine concat_meets (_,O,rfl) (_,o,rfl) noFill_tuple_add seq_tuple_add PySem.F.slot_tuple_add PySem.F.entry_tuple_add (PySem.F.args_tuple_add_2 _ _)
   (tuple_addW2 t b vs.toArray ws.toArray n N D d L l (by simpa using hv) (by simpa using hw) (by rw[BC,BC];exact hsz)) (O,o,?_)
  rw[e];exact h2 hw
def sIx (n d:Nat):Option Int->Nat
 |none=>d
 |some v=>if v<0 then (v+(n:Int)).toNat else min v.toNat n
theorem sIx_none (n d:Nat):sIx n d none=d:=rfl
theorem sIx_nat (n d k:Nat):sIx n d (some (k:Int))=min k n:=by
 show (if (k:Int)<0 then ((k:Int)+(n:Int)).toNat else min (k:Int).toNat n)=min k n;rw[AL #[2],Aq]
theorem Zz2 (n d:Nat) (j:d<=n) (o:Option Int):sIx n d o<=n:=by
 cases o with
 |none=>exact j
 |some v=>
  show (if v<0 then (v+(n:Int)).toNat else min v.toNat n)<=n;by_cases hv:v<0
  ·rw[AM hv];lia
  ·rw[AL hv];exact Nat.min_le_right _ _
theorem RL (v:Int) (n d:Nat):(if v<0 then max (v+(n:Int)) 0 else min v (n:Int))=((sIx n d (some v):Nat):Int):=by
 show (if v<0 then max (v+(n:Int)) 0 else min v (n:Int))=(((if v<0 then (v+(n:Int)).toNat else min v.toNat n):Nat):Int);by_cases hv:v<0
 ·simp only[AM hv];lia
 ·simp only[AL hv];lia
theorem Vc (lo hi:Option Int) (n:Nat):Builtin.Slice.sliceAdjust lo hi 1 (n:Int)=(((sIx n 0 lo:Nat):Int),((sIx n n hi:Nat):Int)):=by
 have h:¬ ((1:Int)<0):=#[2]
 unfold Builtin.Slice.sliceAdjust;simp only[h,if_false];refine Prod.ext ?_ ?_
 ·cases lo with
  |none=>rfl
  |some v=>exact RL v n 0
 ·cases hi with
  |none=>rfl
  |some v=>exact RL v n n
theorem VM (i j:Nat):Builtin.Slice.slicePlaces (i:Int) (j:Int) 1=j-i:=by
 unfold Builtin.Slice.slicePlaces;have h:(1:Int) > 0:=#[2]
 simp only[h,if_true,Int.ediv_one];split <;> lia
theorem PQ (p:IsPart v o) (h:Q o s):wpAny (model prog w) A (Builtin.Slice.slicePartIndex v) Q E s:=by
 cases p with
 |none=>exact slicePart_none h
 |int i t=>exact slicePart_int h
theorem Od {j:Addr}{L U:Value}{lo hi:Option Int}{n:Nat}{Q:Int × Int × Nat->Shared->Prop}(z:s.heap.IsSliceOf j L U .none) (J:IsPart L lo) (O:IsPart U hi)
  (h:Q (((sIx n 0 lo:Nat):Int),1,sIx n n hi-sIx n 0 lo) s):wpAny (model prog w) A (Builtin.Slice.sliceApplied (.ref j)<|pure (n:Int)) Q E s:=by
 obtain⟨S,o,c,d⟩:=id z;unfold Builtin.Slice.sliceApplied Builtin.Slice.sliceFields;refine AE<|AE<|wpAny_field o d (x:=L) rfl<|AE<|wpAny_field o d (x:=U) rfl<|AE<|wpAny_field o d (x:=.none) rfl<|AO ?_;refine AE<|slicePart_none ?_;show wpAny _ _ (if ((1:Int) == 0)=true then _ else _) _ _ s;rw[AL #[1]];refine AE<|PQ J<|AE<|PQ O<|AE<|AO ?_;show wpAny _ _ (match Builtin.Slice.sliceAdjust lo hi 1 (n:Int) with|(lo,hi)=>pure ((lo,(1:Int),Builtin.Slice.slicePlaces lo hi 1):_×_×_)) _ _ s;rw[Vc lo hi n];show wpAny _ _ (pure ((((sIx n 0 lo:Nat):Int),(1:Int),Builtin.Slice.slicePlaces ((sIx n 0 lo:Nat):Int) ((sIx n n hi:Nat):Int) 1):_×_×_)) _ _ s;rw[VM];exact AO h
theorem Zvz (xs:Array Value) (i k:Nat):((Af k).filterMap λ(m:Nat)=>xs[((i:Int)+(m:Int)*1).toNat]?).toArray=((xs.toList.drop i).take k).toArray:=by
 have e:(λ(m:Nat)=>xs[((i:Int)+(m:Int)*1).toNat]?)=λm=>xs[i+m]?:=by
  funext m
  have:((i:Int)+(m:Int)*1).toNat=i+m:=#[2]
  rw[this]
 rw[e];have:=pick_run xs i k;rw[List.filterMap_map]at this;have E:((λx=>xs[x]?)∘λx=>i+x)=λm=>xs[i+m]?:=rfl;rw[E]at this;rw[this]
theorem getItem_tuple_cut {lo hi:Option Int}(ht:IsTup s.heap t items) (hs:s.heap.IsSliceOf sl vl vu .none) (pl:IsPart vl lo) (pu:IsPart vu hi)
  (hw:¬ (sIx items.size 0 lo=0/\sIx items.size items.size hi=items.size))
  (h:Q (.ref s.heap.objs.size) { s with heap:=s.heap.push { cls:=.type "tuple",data:=.seq ((items.toList.drop<|sIx items.size 0 lo).take (sIx items.size items.size hi-sIx items.size 0 lo)).toArray } })
  (hsz:items.size<=sizeLine):wpAny (model prog w) A (getItem (.ref t) (.ref sl)) Q E s:=by
 have e:sizeOk (.seq ((items.toList.drop<|sIx items.size 0 lo).take (sIx items.size items.size hi-sIx items.size 0 lo)).toArray):=by
  show ((items.toList.drop<|sIx items.size 0 lo).take (sIx items.size items.size hi-sIx items.size 0 lo)).toArray.size<=sizeLine;rw[BC,Bn,DR,Array.length_toList];omega
 have j:sIx items.size items.size hi<=items.size:=Zz2 _ _ (AX _) hi;obtain⟨O,S,c,d⟩:=id hs;have T:s.TypeIs (.ref sl) "slice":=(O,S,c);unfold getItem
 try with_reducible refine Cv ?_
 first|refine AE (AO ?_)|skip
 refine AE (wpAny_sequenceKey ht.typeIs #[1] ?_);refine AE (wpAny_callSpecial?_slot (name:=Str.ofString "__getitem__") ht.typeIs PyProof.Rows.slot_tuple_getitem
  (wpAny_call_entry PyProof.Rows.slot_tuple_getitem ht.typeIs entry_tuple_getitem ?_ (args_tuple_getitem _ _)))
 show wpAny _ _ (Builtin.Tuple.tupleItemsOf (.ref t) >>= _) _ _ s;refine AE<|tupleItemsOf_ ht ?_;refine AE<|wpAny_typeOf T ?_;rw[AM #[1]];refine AE<|Od hs pl pu ?_;have o:¬ ((((sIx items.size 0 lo:Nat):Int) == 0 && (1:Int) == 1 && (sIx items.size items.size hi-sIx items.size 0 lo) == items.size)=true):=by
  intro q;rw[CT,CT]at q;have a:((sIx items.size 0 lo:Nat):Int)=0:=eq_of_beq q.1.1;have b:sIx items.size items.size hi-sIx items.size 0 lo=items.size:=eq_of_beq q.2;exact hw (#[2],#[3])
 show wpAny _ _ (if (((sIx items.size 0 lo:Nat):Int) == 0 && (1:Int) == 1 && (sIx items.size items.size hi-sIx items.size 0 lo) == items.size)=true then _ else _) _ _ s;rw[AL o,Zvz]
 first
  |exact AE (m:=Builtin.Tuple.tupleExact _) (wpAny_newObj_type (AO (_,rfl,AO h)) e)
  |exact AE (m:=Builtin.Tuple.tupleExact _) (wpAny_newObj_type (AE (AO (AO (_,rfl,AO h)))) e)
  |exact AE (AE (m:=Builtin.Tuple.tupleExact _) (wpAny_newObj_type (AO (AO (_,rfl,AO h))) e))
  |exact AE (AE (m:=Builtin.Tuple.tupleExact _) (wpAny_newObj_type (AO (_,rfl,AO h)) e))
end
end HT
namespace L2
open PySem PySem.Spec PyProof.Rows
abbrev TO:=St->Hp->(Option Int->Hp->Prop)->Prop
def PO (X:Cx) (e:Option Expr) (t:TO):Prop:=
 ∀(pins:Ar) (s:Shared) (Z:St) (H:Hp) (Q:Option Int->Hp->Prop),AJ X pins Z H s->t Z H Q ->
  wpAny (model X.prog X.w) X.A (evalPart e X.env) (λu S=>∃o H',AJ X pins Z H' S /\ IsPart u o/\Q o H') X.xe s
def tNoPart:TO:=λ_ H Q=>Q none H
def tPart (t:TE):TO:=λZ H Q=>t Z H λx h=>∃i,x=.int i/\Q (some i) h
theorem EC:∀{us:List Value},Vals (ns.map V.int) us->IntsAre us ns:=by
 induction ns with
 |nil=>intro us r;rw[Ii]at r;cases r;exact .nil
 |cons n ns ih=>
  intro us r;rw[BO]at r;cases r with
  |cons r1 r2=>
   obtain⟨t,e⟩:=r1;subst e;exact .cons n t<|ih r2
section
variable {X:Cx}{e:Expr}{te:TE}{lo hi:Option Expr}{tl th:TO}{pos p2:Pos}
theorem FC:PO X none tNoPart:=by
 intro pins s Z H Q I h;rw[evalPart_none];exact AO (none,H,I,.none,h)
theorem E9 (h:PE X e te):PO X (some e) (tPart te):=by
 intro pins s Z H Q I hw;rw[evalPart_some];refine thn (h pins s Z H _ I hw) λu s1 (x,H1,I1,r1,q1)=>?_;obtain⟨i,rfl,q⟩:=q1;obtain⟨t,rfl⟩:=r1;exact(some i,H1,I1,.int i t,q)
def SlR (X:Cx) (r:V->Option Int->Option Int->Hp->VK->Prop):Prop:=
 ∀(pins:Ar) (s:Shared) (Z:St) (H:Hp) (x:V) (v vl vu:Value) (lo hi:Option Int) (sl:Addr) (Q:VK),AJ X pins Z H s->RelV x v->s.heap.IsSliceOf sl vl vu .none->IsPart vl lo->IsPart vu hi->r x lo hi H Q ->
  ∃T id,typeLookup (.type T) "__getitem__" = pure (some (.builtin id))/\s.TypeIs v T/\wpAny (model X.prog X.w) X.A (getItem v (.ref sl)) (EP X pins Z Q) X.xe s
theorem SlR.or (h:SlR X r) (h':SlR X r'):SlR X (λx lo hi H Q=>r x lo hi H Q\/r' x lo hi H Q):=by
 intro pins s Z H x v vl vu lo hi sl Q I rx hs pl pu q;rcases q with q|q
 ·exact h pins s Z H x v vl vu lo hi sl Q I rx hs pl pu q
 ·exact h' pins s Z H x v vl vu lo hi sl Q I rx hs pl pu q
def tSl (r:V->Option Int->Option Int->Hp->VK->Prop) (te:TE) (tl th:TO):TE:=λZ H Q=>te Z H λx h=>tl Z h λl a=>th Z a λu b=>r x l u b Q
theorem E3 (hr:SlR X r) (he:PE X e te) (hl:PO X lo tl) (hu:PO X hi th):PE X (.Subscript e (.Slice lo hi none p2) pos) (tSl r te tl th):=by
 intro pins s Z H Q I h;refine Subscript_ (thn (he pins s Z H _ I h) λv s1 (x,H1,I1,r1,q1)=>?_);refine wpAny_Slice (thn (hl pins s1 Z H1 _ I1 q1) λvl s2 (l,H2,I2,pl,q2)=>thn (hu pins s2 Z H2 _ I2 q2) λvu s3 (u,H3,I3,pu,q3)=>?_);rw[evalPart_none];refine AO ?_;have i:AJ X pins Z H3 { s3 with heap:=s3.heap.push { cls:=.type "slice",data:=.fields #[vl,vu,.none] } }:=I3.kept (t':=s3.toks) λb o q=>BA _ q;obtain⟨T,id,t,a,g⟩:=hr pins { s3 with heap:=s3.heap.push { cls:=.type "slice",data:=.fields #[vl,vu,.none] } } Z H3 x v vl vu l u s3.heap.objs.size Q i r1 (Heap.IsSliceOf.new ..) pl pu q3;show wpAny (model X.prog X.w) X.A (subscriptTail e (.Slice lo hi none p2) v (.ref s3.heap.objs.size)) (EP X pins Z Q) X.xe { s3 with heap:=s3.heap.push { cls:=.type "slice",data:=.fields #[vl,vu,.none] } };exact tail_any (ops:=[.ref s3.heap.objs.size,v]) a t g (by with_unfolding_all rfl)
def cutV (xs:List V) (lo hi:Option Int):List V:=(xs.drop<|HT.sIx xs.length 0 lo).take (HT.sIx xs.length xs.length hi-HT.sIx xs.length 0 lo)
theorem Oz (xs:List V) (lo hi:Option Int):(cutV xs lo hi).length<=xs.length:=by
 unfold cutV;rw[Bn,DR];lia
def rSlT (K:W.Frag):V->Option Int->Option Int->Hp->VK->Prop:=λx o i H Q=>∃a xs,x=.ref a/\SqT K H a xs /\
 ¬ (HT.sIx xs.length 0 o=0/\HT.sIx xs.length xs.length i=xs.length)/\∀p,H p=none->Q (.ref p) (upd H p (.tup<|cutV xs o i))
theorem S5:SlR X (rSlT X.K):=by
 intro pins s Z H x v vl vu lo hi sl Q I rx hs pl pu h;obtain⟨a,S,rfl,c,w,q⟩:=h;cases rx;obtain⟨t,r,T,z⟩:=I.tuple c;have n:t.toArray.size=S.length:=by rw[BC];exact r.length.symm
 refine("tuple",_,PyProof.Rows.slot_tuple_getitem.lookup,T.typeIs,?_);refine HT.getItem_tuple_cut T hs pl pu (by rw[n];exact w) ?_ (by rw[n];exact z);rw[n];refine(.ref s.heap.objs.size,_,I.laid (t':=s.toks) (o:=.tup<|cutV S lo hi) (λb B q=>BA _ q) (AX _) ?_,rfl,q _<|I.hok.fresh<|AX _);exact(Ck (Oz S lo hi) z,_,(r.drop<|HT.sIx S.length 0 lo).take (HT.sIx S.length S.length hi-HT.sIx S.length 0 lo),IsTupN.new _ _)
def rCatT (K:W.Frag):R2:=λx y H Q=>∃a b xs ys,x=.ref a/\y=.ref b/\SqT K H a xs/\SqT K H b ys/\xs≠[]/\xs.length+ys.length<=sizeLine /\
 (ys=[]->Q (.ref a) H)/\(ys≠[]->∀p,H p=none->Q (.ref p) (upd H p (.tup<|xs++ys)))
theorem Vals.nil_iff (r:Vals xs us):us=[]↔xs=[]:=by
 cases r with
 |nil=>simp
 |cons _ _=>simp
theorem Zyo:OpR X (binaryOp .Add) (rCatT X.K):=by
 intro pins s Z H x y v u Q I rx ry h;obtain⟨a,b,S,Y,rfl,rfl,A,B,d,c,e,f⟩:=h;cases rx;cases ry;obtain⟨i,R,p,_⟩:=I.tuple A;obtain⟨t,r,P,_⟩:=I.tuple B;refine HT.cat_tup p P (λz=>d<|R.nil_iff.mp z) (λz=>(.ref a,H,I,rfl,e<|r.nil_iff.mp z)) (λz=>?_) (by rw[<- R.length,<- r.length];exact c);refine(.ref s.heap.objs.size,_,I.laid (t':=s.toks) (o:=.tup<|S++Y) (λb O q=>BA _ q) (AX _) ?_,rfl,f (λw=>z<|r.nil_iff.mpr w) _<|I.hok.fresh<|AX _);exact(by rw[A1];exact c,_,R.append r,IsTupN.new _ _)
end
def ixN (n:Nat) (i:Int):Option Nat:=if 0<=i then (if i<n then some i.toNat else none) else if -(n:Int)<=i then some (i+n).toNat else none
def atI {α:Type}(xs:List α) (i:Int):Option α:=(ixN xs.length i).bind λj=>xs[j]?
theorem RW (h:ixN n i=some j):seqIndex? i n=some j/\j<n /\ -(n:Int)<=i/\i<n:=by
 unfold ixN at h;by_cases h0:0<=i
 ·rw[AM h0]at h
  by_cases h1:i<n
  ·rw[AM h1]at h
   have e:i.toNat=j:=CF.inj h;exact(by rw[seqIndex_of h0 h1,e],#[2],#[2],h1)
  ·rw[AL h1]at h;cases h
 ·rw[AL h0]at h
  by_cases h1:-(n:Int)<=i
  ·rw[AM h1]at h
   have e:(i+n).toNat=j:=CF.inj h;exact(by rw[seqIndex_neg #[2] h1,e],#[2],h1,#[2])
  ·rw[AL h1]at h;cases h
theorem Nq (h:atI xs i=some v):∃j,seqIndex? i xs.length=some j/\xs[j]?=some v/\j<xs.length /\ -(xs.length:Int)<=i/\i<xs.length:=by
 unfold atI at h;cases e:ixN xs.length i with
 |none=>rw[e]at h;cases h
 |some j=>
  rw[e]at h;obtain⟨H,a,b,c⟩:=RW e;exact(j,H,h,a,b,c)
theorem Co {xs:List α}{j:Nat}{v:α}(h:xs[j]?=some v):atI xs (j:Int)=some v:=by
 have J:j<xs.length:=(BZ.mp h).1;have e:ixN xs.length (j:Int)=some j:=by
  unfold ixN;rw[AM #[2],AM #[2]];simp
 unfold atI;rw[e];exact h
theorem Zvd (xs:List α) (v:α):atI (xs++[v]) (-1)=some v:=by
 have l:(xs++[v]).length=xs.length+1:=#[4]
 have e:ixN (xs++[v]).length (-1)=some xs.length:=by
  unfold ixN;rw[l,AL #[1],AM #[2]];congr 1;lia
 unfold atI;rw[e];show (xs++[v])[xs.length]?=some v;simp
def PlainIx (b:Expr):Prop:=∀o i,subscripted b false o i=operate [o,i] (getItem o i)
def IxR (X:Cx) (r:R2):Prop:=
 ∀(value slice:Expr) (pins:Ar) (s:Shared) (Z:St) (H:Hp) (x y:V) (v u:Value) (Q:VK),AJ X pins Z H s->RelV x v->RelV y u->r x y H Q ->
  subscripted slice false v u=operate [v,u] (getItem v u)->wpAny (model X.prog X.w) X.A (subscriptTail value slice v u) (EP X pins Z Q) X.xe s
def MtR (X:Cx) (id:String) (r:V->List V->Hp->VK->Prop):Prop:=
 ∀(pins:Ar) (s:Shared) (Z:St) (H:Hp) (x:V) (xs:List V) (v:Value) (us:List Value) (Q:VK),AJ X pins Z H s->RelV x v->Vals xs us->r x xs H Q ->
  wpAny (model X.prog X.w) X.A (call (.builtin id) (v::us)) (EP X pins Z Q) X.xe s
section
variable {X:Cx}{a b:Expr}{ta tb:TE}{pos:Pos}
theorem IxR.or (h:IxR X r) (h':IxR X r'):IxR X (λx y H Q=>r x y H Q\/r' x y H Q):=by
 intro value slice pins s Z H x y v u Q I rx ry q hs;rcases q with q|q
 ·exact h value slice pins s Z H x y v u Q I rx ry q hs
 ·exact h' value slice pins s Z H x y v u Q I rx ry q hs
theorem Ab (J:IxR X r) (j:PE X a ta) (z:PE X b tb) (L:PlainIx b):PE X (.Subscript a b pos) (tOp r ta tb):=by
 intro pins s Z H Q I h;exact Subscript_ (binT j z I h λv u S x y c i R Y q=>J a b pins S Z c x y v u Q i R Y q<|L _ _)
def rIxL (K:W.Frag):R2:=λx y H Q=>∃p xs i v,x=.ref p/\y=.int i/\SqL K H p xs/\atI xs i=some v/\Q v H
def rIxT (K:W.Frag):R2:=λx y H Q=>∃p xs i v,x=.ref p/\y=.int i/\SqT K H p xs/\atI xs i=some v/\Q v H
def rIxS:R2:=λx y H Q=>∃z i c,x=.str z/\y=.int i/\z.length<=sizeLine/\atI z.cps.toList i=some c/\Q (.str ⟨#[c]⟩) H
theorem Zyw:IxR X (rIxL X.K):=by
 intro value slice pins s Z H x y v u Q I rx ry h hs;obtain⟨p,o,i,z,rfl,rfl,f,E,q⟩:=h;cases rx;obtain⟨t,rfl⟩:=ry;obtain⟨S,r,l,m⟩:=I.list f;obtain⟨j,a,b,k,c,d⟩:=Nq E;obtain⟨w,e,W⟩:=r.get b;have L:=r.length;have N:=line63;have n:EP X pins Z Q w s:=(z,H,I,W,q);by_cases h0:0<=i
 ·have J:i.toNat=j:=by
   rw[seqIndex_of h0 d]at a;exact CF.inj a
  exact item_listR l.isList h0 #[2] (by rw[J];simpa using e) n hs
 ·have J:(i+(S.toArray.size:Int)).toNat=j:=by
   rw[seqIndex_neg #[2] c]at a;rw[BC,<- L];exact CF.inj a
  exact subscriptTail_builtinR (x:=w) l.isList.typeIs slot_list_getitem.lookup
   (wpAny_getItem_list_neg (Q:=λr g=>r=w/\EP X pins Z Q r g) l.isList #[3] (by rw[BC] <;> lia) #[2] (by rw[J];simpa using e) (rfl,n)) hs
theorem TQ:IxR X (rIxT X.K):=by
 intro value slice pins s Z H x y v u Q I rx ry h hs;obtain⟨p,o,i,z,rfl,rfl,c,E,q⟩:=h;cases rx;obtain⟨t,rfl⟩:=ry;obtain⟨S,r,l,m⟩:=I.tuple c;obtain⟨j,a,b,f,g,k⟩:=Nq E;obtain⟨w,e,W⟩:=r.get b;have L:=r.length;have N:=line63;have n:EP X pins Z Q w s:=(z,H,I,W,q);exact subscriptTail_builtinR (x:=w) l.typeIs slot_tuple_getitem.lookup
  (getItem_tuple (j:=j) (Q:=λr d=>r=w/\EP X pins Z Q r d) l #[2] #[2] (by rw[BC,<- L];exact a) (by simpa using e) (rfl,n)) hs
theorem Sx:IxR X rIxS:=by
 intro value slice pins s Z H x y v u Q I rx ry h hs;obtain⟨z,i,c,rfl,rfl,m,g,q⟩:=h;obtain⟨t,rfl⟩:=rx;obtain⟨T,rfl⟩:=ry;obtain⟨j,a,b,k,d,f⟩:=Nq g;have l:z.cps.toList.length=z.length:=by simp[Str.length]
 rw[l]at a d f;have n:=line63;exact tail_any (typeIs_str s z t) slot_str_getitem.lookup (getItem_str (c:=c) (by
  have e:decide (i < -(2 ^ 63:Int))=false:=A4 #[2];have E:decide (i >= 2 ^ 63)=false:=A4 #[2];rw[e,E,Jx]) (by rw[a];simpa using b) (.str ⟨#[c]⟩,H,I.tok _,(_,rfl),q)) hs
def rIx (K:W.Frag):R2:=λx y H Q=>rIxL K x y H Q\/rIxT K x y H Q\/rIxS x y H Q
theorem Zzs:IxR X (rIx X.K):=Zyw.or<|TQ.or Sx
theorem VN (its:List Value) (n j:Nat) (u:Value):Obj.mapSeq (·.setIfInBounds j u) { cls:=.type "list",data:=.seq its.toArray n } = { cls:=.type "list",data:=.seq (its.set j u).toArray n }:=by
 simp[Obj.mapSeq]
theorem AJ.lst {pins:Ar}{Z:St}{H:Hp}{s:Shared}{p:Addr}{xs:List V}(I:AJ X pins Z H s) (h:H p=some (.lst xs)) :
  ∃(its:List Value) (n:Nat),Vals xs its/\s.heap.get? p=some { cls:=.type "list",data:=.seq its.toArray n } /\ xs.length<=sizeLine:=by
 obtain⟨z,its,n,r,e⟩:=I.hok p _ h;exact(its,n,r,e,z)
theorem AJ.lstUpd {pins:Ar}{Z:St}{H:Hp}{s:Shared}{p:Addr}{xs ys:List V}{its its':List Value}{n n':Nat}{f:Obj->Obj}(I:AJ X pins Z H s) (h:H p=some (.lst xs))
  (ho:s.heap.get? p=some { cls:=.type "list",data:=.seq its.toArray n }) (hf:f { cls:=.type "list",data:=.seq its.toArray n } = { cls:=.type "list",data:=.seq its'.toArray n' }) (r:Vals ys its') (hz:ys.length<=sizeLine) (t:Nat) :
  AJ X pins Z (upd H p (.lst ys)) { s with heap:=s.heap.update p f,toks:=t }:=by
 have e:(s.heap.update p f).get? p=some { cls:=.type "list",data:=.seq its'.toArray n' }:=by
  rw[IP f ho (by rw[hf] <;> rfl),hf]
 refine I.write (x:=p) (e:=p) (by rw[h];trivial) (.inl rfl) (λb u B q=>(HB _ _<|Ne.symm B).trans q) (_,e) ?_;exact(hz,its',n',r,e)
def rSetL:V->V->V->Hp->(Hp->Prop)->Prop:=λo i v H Q=>∃p xs k j,o=.ref p/\i=.int k/\H p=some (.lst xs)/\ixN xs.length k=some j/\Q (upd H p (.lst<|xs.set j v))
theorem Zvw:PSet X rSetL:=by
 intro pins s Z H o i v ov iv u Q I ro ri rv h;obtain⟨p,x,k,j,rfl,rfl,P,J,q⟩:=h;cases ro;obtain⟨t,rfl⟩:=ri;obtain⟨S,n,r,O,z⟩:=I.lst P;obtain⟨a,e,c,d⟩:=RW J;have l:=r.length;have N:=line63;have b:AJ X pins Z (upd H p (.lst<|x.set j v)) { s with heap:=s.heap.update p (Obj.mapSeq (·.setIfInBounds j u)) }:=
  I.lstUpd P O (VN S n j u) (r.set rv j) (by rw[Ff];exact z) s.toks
 by_cases h0:0<=k
 ·have K:k.toNat=j:=by
   rw[seqIndex_of h0 d]at a;exact CF.inj a
  exact PySem.W.ki_setAt O h0 #[2] (by rw[BC,<- l];exact d) (by rw[K];exact(_,b,q))
 ·have K:(k+(S.toArray.size:Int)).toNat=j:=by
   rw[seqIndex_neg #[2] c]at a;rw[BC,<- l];exact CF.inj a
  exact PySem.W.ki_setBack O #[3] (by rw[BC,<- l];exact c) #[2] (by rw[K];exact(_,b,q))
theorem Uq (lo hi:Option Int) (n:Nat):(sliceBounds lo hi none n).1=((HT.sIx n 0 lo:Nat):Int)/\(sliceBounds lo hi none n).2.1=((HT.sIx n n hi:Nat):Int)/\(sliceBounds lo hi none n).2.2=1:=by
 refine(?_,?_,rfl)
 ·cases lo with
  |none=>simp[sliceBounds,HT.sIx]
  |some i=>
   simp only[sliceBounds,HT.sIx,Option.getD_none,show (1:Int) > 0 by decide,if_true];by_cases h:i<0
   ·simp only[h,if_true] <;> lia
   ·simp only[h,if_false] <;> lia
 ·cases hi with
  |none=>simp[sliceBounds,HT.sIx]
  |some i=>
   simp only[sliceBounds,HT.sIx,Option.getD_none,show (1:Int) > 0 by decide,if_true];by_cases h:i<0
   ·simp only[h,if_true] <;> omega
   ·simp only[h,if_false] <;> omega
theorem Ug (its:List Value) (lo hi:Option Int):slicePick its.toArray lo hi none=((its.drop<|HT.sIx its.length 0 lo).take (HT.sIx its.length its.length hi-HT.sIx its.length 0 lo)).toArray:=by
 obtain⟨h,H,a⟩:=Uq lo hi its.toArray.size;unfold slicePick;rw[h,H,a];simp only[sliceRange_one,pick_run,BC] <;> rfl
def rSlL (K:W.Frag):V->Option Int->Option Int->Hp->VK->Prop:=λx o i H Q=>∃a xs,x=.ref a/\SqL K H a xs/\∀p,H p=none->Q (.ref p) (upd H p (.lst<|cutV xs o i))
theorem Zxm:SlR X (rSlL X.K):=by
 intro pins s Z H x v vl vu lo hi sl Q I rx hs pl pu h;obtain⟨a,S,rfl,c,q⟩:=h;cases rx;obtain⟨i,r,t,z⟩:=I.list c;have n:=r.length;refine("list",_,slot_list_getitem.lookup,t.isList.typeIs,?_);refine wpAny_getItem_list_slice t.isList hs pl pu .none #[4] ?_ (by rw[BC] <;> lia)
 rw[Ug,<- n];refine(.ref s.heap.objs.size,_,I.laid (t':=s.toks) (o:=.lst<|cutV S lo hi) (λb B q=>BA _ q) (AX _) ?_,rfl,q _<|I.hok.fresh<|AX _);exact(Ck (Oz S lo hi) z,_,0,(r.drop<|HT.sIx S.length 0 lo).take (HT.sIx S.length S.length hi-HT.sIx S.length 0 lo),Bl _ rfl)
def flatV:V->Bool
 |.non=>true
 |.bl _=>true
 |.int _=>true
 |.str _=>true
 |_=>false
def eqV:V->V->Bool
 |.non,.non=>true
 |.bl a,.bl b=>a == b
 |.bl a,.int b=>(if a then 1 else 0) == b
 |.int a,.bl b=>a == (if b then 1 else 0)
 |.int a,.int b=>a == b
 |.str a,.str b=>a == b
 |_,_=>false
theorem Rx (Y:RelV y u) (j:RelV x v) (J:flatV y=true) (z:flatV x=true):SeqAt.EqAt A s u v (eqV y x):=by
 cases y with
 |non=>
  cases Y;cases x with
  |non=>cases j;exact SeqAt.EqAt.same _
  |bl b=>cases j;exact SeqAt.EqAt.none_bool b
  |int b=>obtain⟨t,rfl⟩:=j;exact SeqAt.EqAt.none_int b t
  |str b=>obtain⟨t,rfl⟩:=j;exact SeqAt.EqAt.none_str b t
  |_=>exact absurd (show false=true from z) BL
 |bl a=>
  cases Y;cases x with
  |non=>cases j;exact SeqAt.EqAt.bool_none a
  |bl b=>cases j;exact SeqAt.EqAt.bool_bool a b
  |int b=>obtain⟨t,rfl⟩:=j;exact SeqAt.EqAt.bool_int a b t
  |str b=>obtain⟨t,rfl⟩:=j;exact SeqAt.EqAt.bool_str a b t
  |_=>exact absurd (show false=true from z) BL
 |int a=>
  obtain⟨T,rfl⟩:=Y;cases x with
  |non=>cases j;exact SeqAt.EqAt.int_none a T
  |bl b=>cases j;exact SeqAt.EqAt.int_bool a T b
  |int b=>obtain⟨t,rfl⟩:=j;exact SeqAt.EqAt.int_int a T b t
  |str b=>obtain⟨t,rfl⟩:=j;exact SeqAt.EqAt.int_str a T b t
  |_=>exact absurd (show false=true from z) BL
 |str a=>
  obtain⟨T,rfl⟩:=Y;cases x with
  |non=>cases j;exact SeqAt.EqAt.str_none a T
  |bl b=>cases j;exact SeqAt.EqAt.str_bool a T b
  |int b=>obtain⟨t,rfl⟩:=j;exact SeqAt.EqAt.str_int a T b t
  |str b=>obtain⟨t,rfl⟩:=j;exact SeqAt.EqAt.str_str a T b t
  |_=>exact absurd (show false=true from z) BL
 |_=>exact absurd (show false=true from J) BL
def eqU (x:V) (u:Value):Bool:=match u with
 |.none=>eqV .non x
 |.bool b=>eqV (.bl b) x
 |.int i _=>eqV (.int i) x
 |.str z _=>eqV (.str z) x
 |_=>false
theorem LS (r:RelV y u) (f:flatV y=true):eqU x u=eqV y x:=by
 cases y with
 |non=>cases r;rfl
 |bl b=>cases r;rfl
 |int i=>obtain⟨t,rfl⟩:=r;rfl
 |str z=>obtain⟨t,rfl⟩:=r;rfl
 |_=>exact absurd (show false=true from f) BL
theorem JZ:∀{xs:List V}{us:List Value},Vals xs us->xs.all flatV=true->us.any (eqU x)=xs.any λy=>eqV y x
 |_,_,.nil,_=>rfl
 |y::xs,u::us,.cons r t,f=>by
  rw[List.all_cons,CT]at f;rw[FN,FN,LS r f.1,JZ t f.2]
theorem JP (z:RelV x v) (j:flatV x=true):∀{xs:List V}{us:List Value},Vals xs us->xs.all flatV=true->∀u∈us,SeqAt.EqAt A s u v (eqU x u)
 |_,_,.nil,_=>λu h=>by cases h
 |y::xs,u::us,.cons r t,f=>λU h=>by
  rw[List.all_cons,CT]at f;rcases Az.mp h with rfl|h
  ·rw[LS r f.1];exact Rx r z f.1 j
  ·exact JP z j t f.2 U h
def inV (x:V) (xs:List V):Bool:=xs.any λy=>eqV y x
def rIn (K:W.Frag) (j:Bool):R2:=λx y H Q=>∃p xs,y=.ref p/\(SqL K H p xs\/SqT K H p xs)/\flatV x=true/\xs.all flatV=true/\Q (.bl (if j then !inV x xs else inV x xs)) H
theorem Wc:OpR X (compareOp .In) (rIn X.K false):=by
 intro pins s Z H x y v u Q I rx ry h;obtain⟨p,S,rfl,a,F,f,q⟩:=h;cases ry;rcases a with a|a
 ·obtain⟨t,r,l,z⟩:=I.list a
  refine SeqAt.in_listAt (eqU x) l.isList (λw W=>JP rx F r f w (by simpa using W)) (.bl _,H,I,rfl,?_);rw[show t.toArray.any (eqU x)=t.any (eqU x) by simp,JZ r f];exact q
 ·obtain⟨t,r,l,z⟩:=I.tuple a
  refine SeqAt.in_tupleAt (eqU x) l (λw W=>JP rx F r f w (by simpa using W)) (.bl _,H,I,rfl,?_);rw[show t.toArray.any (eqU x)=t.any (eqU x) by simp,JZ r f];exact q
theorem Ua:OpR X (compareOp .NotIn) (rIn X.K true):=by
 intro pins s Z H x y v u Q I rx ry h;obtain⟨p,S,rfl,a,F,f,q⟩:=h;cases ry;rcases a with a|a
 ·obtain⟨t,r,l,z⟩:=I.list a
  refine SeqAt.notIn_listAt (eqU x) l.isList (λw W=>JP rx F r f w (by simpa using W)) (.bl _,H,I,rfl,?_);rw[show t.toArray.any (eqU x)=t.any (eqU x) by simp,JZ r f];exact q
 ·obtain⟨t,r,l,z⟩:=I.tuple a
  refine SeqAt.notIn_tupleAt (eqU x) l (λw W=>JP rx F r f w (by simpa using W)) (.bl _,H,I,rfl,?_);rw[show t.toArray.any (eqU x)=t.any (eqU x) by simp,JZ r f];exact q
theorem Ul:CallR X (.builtin "len") (λxs H Q=>∃p ys,xs=[.ref p]/\(SqL X.K H p ys\/SqT X.K H p ys)/\Q (.int ys.length) H):=by
 intro pins s Z H xs us Q I r h;obtain⟨p,ys,rfl,a,q⟩:=h;obtain⟨u,rfl,x⟩:=vals1 r;cases x;have N:=line63;rcases a with a|a
 ·obtain⟨t,R,l,z⟩:=I.list a
  have n:=R.length;exact Calls.call_len_list l.isList (by simp only[BC] <;> lia) (.int ys.length,H,I.tok _,(s.toks+1,by rw[BC,n]),q)
 ·obtain⟨t,R,l,z⟩:=I.tuple a
  have n:=R.length;exact len_tuple l (by simp only[BC] <;> omega) (.int ys.length,H,I.tok _,(s.toks+1,by rw[BC,n]),q)
theorem CallR.or (h:CallR X f r) (h':CallR X f r'):CallR X f (λxs H Q=>r xs H Q\/r' xs H Q):=by
 intro pins s Z H xs us Q I rs q;rcases q with q|q
 ·exact h pins s Z H xs us Q I rs q
 ·exact h' pins s Z H xs us Q I rs q
theorem Um:CallR X (.type "list") (λxs H Q=>∃p ys,xs=[.ref p]/\(SqL X.K H p ys\/SqT X.K H p ys)/\∀l,H l=none->Q (.ref l) (upd H l (.lst ys))):=by
 intro pins s Z H xs us Q I r h;obtain⟨p,ys,rfl,d,q⟩:=h;obtain⟨u,rfl,x⟩:=vals1 r;cases x;have i:∀(t:List Value),Vals ys t->ys.length<=sizeLine->∀(a:Heap) (c:Nat),(∀b o',s.heap.get? b=some o' -> a.get? b=some o') ->
   a.get? s.heap.objs.size=some { cls:=.type "list",dict:=none,data:=.seq t.toArray c,slots:=#[] } -> EP X pins Z Q (.ref s.heap.objs.size) { s with heap:=a }:=λt R z a c k e=>
  (.ref s.heap.objs.size,_,I.laid (t':=s.toks) k (AX _) (show ObjOk X.prog X.w _ a _ (.lst ys) from (z,t,c,R,e)),rfl,q _<|I.hok.fresh<|AX _)
 rcases d with d|d
 ·obtain⟨t,R,L,z⟩:=I.list d
  have N:=R.length;obtain⟨o,O,C,n,D⟩:=L.isList;exact call_list_seq p (.inl rfl) O C D (λa c k e=>i t R z a c k e) (by simp only[BC] <;> omega)
 ·obtain⟨t,R,L,z⟩:=I.tuple d
  have N:=R.length;obtain⟨o,O,C,n,D⟩:=L;exact call_list_seq p (.inr rfl) O C D (λa c k e=>i t R z a c k e) (by simp only[BC] <;> omega)
theorem UY:CallR X (.type "tuple") (λxs H Q=>∃p ys,xs=[.ref p]/\((SqL X.K H p ys/\∀l,H l=none->Q (.ref l) (upd H l (.tup ys)))\/(SqT X.K H p ys/\Q (.ref p) H))):=by
 intro pins s Z H xs us Q I r h;obtain⟨p,ys,rfl,h⟩:=h;obtain⟨u,rfl,x⟩:=vals1 r;cases x;rcases h with ⟨c,q⟩|⟨c,q⟩
 ·obtain⟨t,R,L,z⟩:=I.list c
  have n:=R.length;refine call_tuple_list L.isList (λa k=>?_) (by simp only[BC] <;> omega)
  have i:AJ X pins Z H { s with heap:=a }:=I.kept (t':=s.toks) k;have d:AJ X pins Z (upd H a.objs.size (.tup ys)) { s with heap:=a.push { cls:=.type "tuple",data:=.seq t.toArray } }:=
   i.laid (t':=s.toks) (λb o e=>BA _ e) (AX _) (show ObjOk X.prog X.w _ _ _ (.tup ys) from (z,t,R,IsTupN.new _ _))
  exact(.ref a.objs.size,_,d,rfl,q _<|i.hok.fresh<|AX _)
 ·obtain⟨t,R,L,z⟩:=I.tuple c
  exact call_tuple_same L (.ref p,H,I,rfl,q)
def tyV (K:W.Frag) (T:String) (x:V) (H:Hp):Prop:=match x with
 |.str _=>T = "str"
 |.int _=>T = "int"
 |.ref p=>(T = "list" /\ ∃xs,SqL K H p xs)\/(T = "tuple" /\ ((∃o,K.lookup p=some o/\o.cls=.type "tuple" /\ o.dict=none)\/∃xs,H p=some (.tup xs))) \/
   (T = "dict" /\ ((∃kvs,H p=some (.dK kvs))\/∃kvs,H p=some (.dT kvs)))\/(T = "set" /\ ∃S n,H p=some (.set S n))
 |_=>False
theorem R3 {pins:Ar}{Z:St}{H:Hp}{s:Shared}{T:String}{x:V}{v:Value}(I:AJ X pins Z H s) (r:RelV x v) (Y:tyV X.K T x H) :
  s.TypeIs v T/\∀a,v=.ref a->∃ob,s.heap.get? a=some ob/\ob.dict=none:=by
 cases x with
 |str z=>
  obtain⟨t,rfl⟩:=r;cases (show T = "str" from Y);exact(typeIs_str s z t,λ_ e=>nomatch e)
 |int i=>
  obtain⟨t,rfl⟩:=r;cases (show T = "int" from Y);exact(typeIs_int s i t,λ_ e=>nomatch e)
 |ref p=>
  cases r;rcases Y with ⟨rfl,j,q⟩|⟨rfl,(⟨o,k,h,d⟩|⟨j,k⟩)⟩|⟨rfl,k⟩|⟨rfl,S,n,k⟩
  ·obtain⟨g,_,l,_⟩:=I.list q
   refine(l.isList.typeIs,λa e=>?_);cases e;obtain⟨o,n,e,c,d,_⟩:=l;exact(o,e,d)
  ·refine((o,I.kIn p o k,h),λa e=>?_)
   cases e;exact(o,I.kIn _ o k,d)
  ·obtain⟨_,_,_,o,e,⟨h,_⟩,d⟩:=I.hok p _ k
   refine((o,e,h),λa b=>?_);cases b;exact(o,e,d)
  ·have z:∃o,s.heap.get? p=some o/\o.ExactDict:=by
    rcases k with ⟨f,k⟩|⟨f,k⟩
    ·obtain⟨_,_,_,_,o,_,_,e,E,_⟩:=I.hok p _ k
     exact(o,e,E)
    ·obtain⟨_,_,_,_,o,_,_,e,E,_⟩:=I.hok p _ k
     exact(o,e,E)
   obtain⟨o,e,E⟩:=z;refine((o,e,E.1),λa b=>?_);cases b;exact(o,e,E.2.1)
  ·obtain⟨o,_,_,_,e,E,_⟩:=I.hok p _ k
   refine((o,e,E.1),λa b=>?_);cases b;exact(o,e,E.2.1)
 |_=>exact False.elim Y
def tBM0 (K:W.Frag) (T:String) (r:V->List V->Hp->VK->Prop) (to:TE):TE:=λZ H Q=>to Z H λx h=>tyV K T x h/\r x [] h Q
def tBM (K:W.Frag) (T:String) (r:V->List V->Hp->VK->Prop) (to:TE) (t:TA):TE:=λZ H Q=>to Z H λx h=>tyV K T x h/\t Z h λs a=>r x s a Q
variable {o e:Expr}{es:List Expr}{to:TE}{t:TA}{name:Str}{apos cpos:Pos}{T id:String}{r:V->List V->Hp->VK->Prop}
theorem Zzt (z:PlainAttrs T) (O:Slot T name id) (Y:typeOf (.builtin id)=pure (.type "method_descriptor")) (hm:MtR X id r) (ho:PE X o to)
  (j:attributeBase o name X.env (eval o X.env)=eval o X.env:=by rfl) (L:(apos.endLine == cpos.line)=true:=by rfl):PE X (.Call (.Attribute o name apos) [] [] cpos) (tBM0 X.K T r to):=by
 intro pins s Z H Q I h;refine wpAny_Call_method0_late j L (thn (ho pins s Z H _ I h) λv s1 (x,H1,I1,r1,ty,q1)=>?_);obtain⟨a,b⟩:=R3 I1 r1 ty;exact(T,id,z,O,Y,a,b,Calls.callWith_builtin rfl<|PySem.evalArgs_none<|hm pins s1 Z H1 x [] v [] Q I1 r1 .nil q1)
theorem T8 (pa:PlainAttrs T) (O:Slot T name id) (Y:typeOf (.builtin id)=pure (.type "method_descriptor")) (hm:MtR X id r) (ho:PE X o to) (U:PA X (e::es) t)
  (j:attributeBase o name X.env (eval o X.env)=eval o X.env:=by rfl)
  (J:((backTo cpos (starEach (e::es) X.env)).all (λx=>!x.1) && (backToKw cpos (keywordEach [] X.env)).all (λx=>x.1.isSome)
   && decide ((e::es).length+([]:List Keyword).length+(if ([]:List Keyword).isEmpty then 0 else 1)<30))=true:=by rfl)
  (z:(apos.endLine == cpos.line)=true:=by rfl) (hs:starEach (e::es) X.env=(false,eval e X.env)::starEach es X.env:=by rfl) (L:(backTo cpos<|starEach es X.env).any (·.1)=false:=by rfl) :
  PE X (.Call (.Attribute o name apos) (e::es) [] cpos) (tBM X.K T r to t):=by
 intro pins s Z H Q I h;refine wpAny_Call_method_late j J z rfl (thn (ho pins s Z H _ I h) λv s1 (x,H1,I1,r1,ty,q1)=>?_);obtain⟨a,b⟩:=R3 I1 r1 ty;refine(T,id,pa,O,Y,a,b,?_);have A:=U cpos pins s1 Z H1 _ I1 q1;rw[hs]at A ⊢;refine Calls.callWith_builtin (by show (false || (backTo cpos<|starEach es X.env).any (·.1))=false;rw[L] <;> rfl)<|Calls.evalArgs_plain ?_
 exact thn A λus s2 (vs,H2,I2,r2,q2)=>hm pins s2 Z H2 x vs v us Q I2 r1 r2 q2
end
def MtM (X:Cx) (id:String) (r:V->List V->Hp->VK->Prop):Prop:=
 ∀(pins:Ar) (s:Shared) (Z:St) (H:Hp) (x:V) (xs:List V) (v:Value) (us:List Value) (Q:VK),AJ X pins Z H s->RelV x v->Vals xs us->r x xs H Q ->
  wpAny (model X.prog X.w) X.A (call (.builtin id) (v::us)) (EP X pins Z Q) X.xe s
theorem Vals.one:∀{x:V}{us:List Value},Vals [x] us->∃u,us=[u]/\RelV x u:=by
 intro x us h;cases h with|cons r t=>cases t;exact(_,rfl,r)
theorem Vals.two:∀{x y:V}{us:List Value},Vals [x,y] us->∃u v,us=[u,v]/\RelV x u/\RelV y v:=by
 intro x y us h;cases h with|cons r t=>cases t with|cons q t=>cases t;exact(_,_,rfl,r,q)
theorem Vals.zero:∀{us:List Value},Vals [] us->us=[]
 |_,.nil=>rfl
theorem Vals.dropLast (h:Vals xs us):Vals xs.dropLast us.dropLast:=by
 induction h with
 |nil=>exact .nil
 |cons r t ih=>
  cases t with
  |nil=>exact .nil
  |cons q t'=>exact .cons r ih
theorem Vals.eraseIdx:∀{xs:List V}{us:List Value}(i:Nat),Vals xs us->Vals (xs.eraseIdx i) (us.eraseIdx i)
 |_,_,_,.nil=>.nil
 |_,_,0,.cons _ t=>t
 |_,_,i+1,.cons r t=>.cons r (Vals.eraseIdx i t)
theorem Vu {α:Type}(l:List α):l.eraseIdx (l.length-1)=l.dropLast:=by
 induction l with
 |nil=>rfl
 |cons a r ih=>
  cases r with
  |nil=>rfl
  |cons b r=>
   have e:(a::b::r).length-1=((b::r).length-1)+1:=by
    have h:(a::b::r).length=r.length+2:=rfl;have H:(b::r).length=r.length+1:=rfl;lia
   rw[e,List.eraseIdx_cons_succ,ih]
   all_goals rfl
section
variable {X:Cx}{pins:Ar}{Z:St}{H:Hp}{s:Shared}{l b:Addr}{xs ys zs:List V}
theorem AJ.lset {its its':List Value}{n:Nat}{f:Array Value->Array Value}{t':Nat}(I:AJ X pins Z H s) (hH:H l=some (.lst xs))
  (e:s.heap.get? l=some { cls:=.type "list",data:=.seq its.toArray n }) (hf:f its.toArray=its'.toArray) (hv:Vals ys its') (hz:ys.length<=sizeLine) :
  AJ X pins Z (upd H l (.lst ys)) { s with heap:=s.heap.update l<|Obj.mapSeq f,toks:=t' }:=by
 have q:=PySem.IsL.update e f;rw[hf]at q;refine I.write (x:=l) (e:=l) (by rw[hH];exact trivial) (.inl rfl) (λB u b h=>(HB s.heap (Obj.mapSeq f)<|Ne.symm b).trans h) (_,q) ?_;exact(hz,its',_,hv,q)
theorem AJ.lnew {its:List Value}{t':Nat}(I:AJ X pins Z H s) (hv:Vals ys its) (hz:ys.length<=sizeLine) :
  AJ X pins Z (upd H s.heap.objs.size (.lst ys)) { s with heap:=s.heap.push { cls:=.type "list",data:=.seq its.toArray },toks:=t' }:=
 I.laid (λ_ _ q=>BA _ q) (AX _) (hz,its,0,hv,Bl _ rfl)
theorem AJ.fresh (I:AJ X pins Z H s):H s.heap.objs.size=none:=I.hok.fresh<|AX _
theorem AJ.lstM (I:AJ X pins Z H s) (hH:H l=some (.lst xs)):xs.length<=sizeLine/\∃(its:List Value) (n:Nat),Vals xs its/\xs.length=its.length/\s.heap.get? l=some { cls:=.type "list",data:=.seq its.toArray n }:=by
 obtain⟨z,its,n,r,e⟩:=I.hok l _ hH;exact(z,its,n,r,r.length,e)
end
#check 0
def rAppend:V->List V->Hp->VK->Prop:=λx s H Q=>∃l xs y,x=.ref l/\s=[y]/\H l=some (.lst xs)/\xs.length<sizeLine/\Q .non (upd H l (.lst<|xs++[y]))
theorem EY:MtM X "list.append" rAppend:=by
 intro pins s Z H x vs v us Q I rx rv h;obtain⟨l,S,y,rfl,rfl,a,b,q⟩:=h;cases rx;obtain⟨u,rfl,U⟩:=rv.one;obtain⟨z,t,n,r,L,e⟩:=I.lstM a;refine call_meets F.slot_list_append (_,e,rfl) F.entry_list_append (F.args_list_append_2 _ _) (PySem.list_append l t.toArray n u (by rw[BC];lia)) (e,?_);refine(.non,_,I.lset (its':=t++[u]) a e #[4] (r.append (.cons U .nil)) ?_,rfl,q);rw[A1,CO];lia
def rPop:V->List V->Hp->VK->Prop:=λx s H Q=>∃l xs y,x=.ref l/\s=[]/\H l=some (.lst xs)/\xs[xs.length-1]?=some y/\Q y (upd H l (.lst xs.dropLast))
theorem Sw:MtM X "list.pop" rPop:=by
 intro pins s Z H x vs v us Q I rx rv h;obtain⟨l,c,y,rfl,rfl,a,b,q⟩:=h;cases rx;have S:=rv.zero;subst S;obtain⟨z,t,n,r,L,e⟩:=I.lstM a;obtain⟨u,U,R⟩:=r.get b;have Y:t.toArray[t.toArray.size-1]?=some u:=by
  show t.toArray[t.length-1]?=some u;rw[<- Array.getElem?_toList,<- L];exact U
 refine call_meets F.slot_list_pop (_,e,rfl) F.entry_list_pop (F.args_list_pop_1 _) (MeetsSeq.list_pop_last l t.toArray n u Y (by rw[BC];lia)) (e,?_);refine(y,_,I.lset (its':=t.dropLast) a e ?_ r.dropLast ?_,R,q)
 ·show t.toArray.eraseIdxIfInBounds (t.toArray.size-1)=t.dropLast.toArray
  rw[BC,OL,Vu]
 ·rw[List.length_dropLast]
  lia
def rCat:R2:=λx y H Q=>∃l b xs zs,x=.ref l/\y=.ref b/\H l=some (.lst xs)/\H b=some (.lst zs)/\xs.length+zs.length<=sizeLine/\∀p,H p=none->Q (.ref p) (upd H p (.lst<|xs++zs))
theorem Tv:OpR X (binaryOp .Add) rCat:=by
 intro pins s Z H x y v u Q I rx ry h;obtain⟨l,b,S,j,rfl,rfl,c,B,f,q⟩:=h;cases rx;cases ry;obtain⟨z,i,n,r,d,e⟩:=I.lstM c;obtain⟨g,t,N,R,L,E⟩:=I.lstM B;refine PySem.P.add_list e E ?_ (by rw[BC,BC];lia);have a:i.toArray++t.toArray=(i++t).toArray:=#[4]
 rw[a];exact(.ref _,_,I.lnew (t':=s.toks) (r.append R) (by rw[A1];omega),rfl,q _ I.fresh)
end
end L2
namespace Att
open PySem PySem.W PySem.Calls PyProof.Rows
theorem UI:∀(ns:List Int) (vs:List Value),WellAll P h vs (ns.map WData.int)->IntsAre vs ns:=by
 intro ns
 induction ns with
 |nil=>
  intro vs w;rw[Ii]at w;cases w;exact .nil
 |cons n ns ih=>
  intro vs w;rw[BO]at w;cases w with
  |cons a b=>
   cases a;exact .cons _ _<|ih _ b
theorem W3 {l:OpenLaw}{n:Nat}(hn:l.most=some n) {P:Params}{h:Heap}{args:List WData}{vals:List Value}
  (hpre:l.row.toRowW.claim.pre args=true) (hwl:WellAll P h vals args) :
  ∃a vs ns,vals=[Value.ref a]/\args=[WData.list (ns.map WData.int)]/\h.get? a=some { cls:=.type "list",data:=.seq vs.toArray } /\ IntsAre vs ns/\ns.length<=n:=by
 have s:WShape.hasAll [] args [.list .int]=true:=(pre_splitW hpre).1;have c:l.pre.holds [] { args:=args } = true:=(pre_splitW hpre).2;obtain⟨d,r,rfl,f,g⟩:=hasAllW_cons s;obtain rfl:=hasAllW_nil g;obtain⟨x,rfl,i⟩:=hasW_list f;obtain⟨ns,rfl⟩:=items_int i;have e:ns.length<=n:=by
  unfold OpenLaw.pre at c;have H:(WTm.not (.lt (.lit (.int (n:Int))) (.len (.arg 0)))).holds [] { args:=[.list (ns.map .int)] } = true:=by
   have H:=(holds_andW c).1;rw[hn]at H;exact H
  have b:=condW_of H<|w_not<|w_lt w_lit<|w_len_list<|w_arg rfl;rw[AH]at b;refine Nat.le_of_not_lt λq=>?_;have Q:(n:Int)<((ns.length:Nat):Int):=#[3]
  first
   | (rw[Au Q]at b;exact absurd b #[1])
   | (simp at b;omega)
 cases hwl with
 |cons w1 w2=>
  cases w2;cases w1 with
  |list ho hall=>exact(_,_,ns,rfl,rfl,ho,UI ns _ hall,e)
theorem V1 (l:OpenLaw) (args:List WData):l.row.toRowW.claim.post args (.bool true) args=true:=
 postW_of (r:=l.row.toRowW) (X:=(true == true))
  (show WShape.has [] (.bool true) .bool=true by first|rfl|decide|simp[WShape.has,WShape.arms,WShape.armsAll])
  (show (WTm.eq .res (.lit (.bool true))).value [] { args:=args,res:=some (.bool true),after:=args } = some (.bool (true == true)) from w_eq_bool (w_res rfl) w_lit) rfl
theorem attach_call {l:OpenLaw}{n:Nat}{q:Program}{loose:List Str}{XP:(Str->Option Value)->Heap->Prop}{YP:World->Heap->Prop}{d:DefRec}
  (hn:l.most=some n) (hdf:d.params.defaults=[])
  (call:∀(w:World) (s₀ s₁:Shared) (mg mb:Str->Option Value) (fa:Addr) (o:Obj) (pm cd doc:Value) (a:Addr) (vs:List Value) (ns:List Int),
   Ground q loose [] XP w s₀ mg mb s₁.heap->YP w s₁.heap ->
   s₁.heap.get? fa=some o->o.data=.func (docDef d.name d.params d.body d.scope pm cd doc)->s₁.heap.CodeRec cd d.name->mg d.name=some (.ref fa) ->
   s₁.heap.get? a=some { cls:=.type "list",data:=.seq vs.toArray } -> IntsAre vs ns->ns.length<=n->s₁.gens = #[] ->
   codeAny (model l.prog w) callerA (.call (.ref fa) ([.ref a],[])) (λr s'=>r=.ok (.ret (.bool true))/\OldK s₁.heap s'.heap/\s'.os=s₁.os/\AllBare s'.gens) s₁) :
  WalkO q loose XP YP l.row.toRowW d [] (λf vs=>PySem.call f vs):=by
 intro w s₀ s₁ mg mb G Y fa o pm cd doc dV kV ho hd hcd hD hmg hg args vals as hpre hlay hrd hwl hlo;obtain rfl:dV=.none:=Dflts.none hD hdf;obtain rfl:kV=.none:=Dflts.noKw hD;obtain⟨a,vs,ns,rfl,rfl,j,s,e⟩:=W3 hn hpre hwl;refine enter_call (codeAny_mono (call w s₀ s₁ mg mb fa o pm cd doc a vs ns G Y ho (fd_plain hd) hcd hmg j s e hg) λr s' Q=>?_);obtain⟨rfl,h,H,b⟩:=Q;exact(.inl (.bool true,.bool true,[],rfl,λ_=>rfl,.bool true,V1 l _,λ_=>(List.Pairwise.nil,λ_ m=>(nomatch m))),h,H,b)
section
variable {prog:Program}{w:World}{A:Around}{E:Ai}{s:Shared}{K:Frag}
end
end Att
namespace L2
open PySem PySem.Spec PyProof.Rows
theorem GW:∀{vs:List Value}{ns:List Int},IntsAre vs ns->Vals (ns.map V.int) vs
 |_,_,.nil=>.nil
 |_,_,.cons n t h=>.cons (t,rfl) (GW h)
def Only (H:Hp):Prop:=∀b,H b=none\/∃o xs,H b=some (.frz o (.lst xs))
theorem Wq {P:Program}{w:World}{K:W.Frag}{mg mb:Str->Option Value}{CX:CXT}{k:Nat}{fa a:Addr}{fd:FuncData}{x:Str}{sp:Sp}{s₁:Shared}{vs:List Value}{ns:List Int}
  (KX:K.In s₁.heap) (hns:s₁.heap.Ns mainGlobals mg) (hb:s₁.heap.Ns builtinsNs mb) (hbb:∀x:Str,x ≠ "__name__" -> mb x=bootBuiltins x) (hlim:s₁.heap.NoLimit) (hg:s₁.gens = #[])
  (ha:s₁.heap.get? a=some { cls:=.type "list",data:=.seq vs.toArray }) (hi:IntsAre vs ns) (hl:ns.length<=sizeLine) (hr:Room k callerA)
  (F:∀base:Heap,K.In base->base.Ns mainGlobals mg->FnOk P w K mg base CX k fa fd [x] sp) (hbind:∀(s:Shared) (u:Value),BindsTo s fd ([u],[]) [(x,u)])
  (hsp:∀H:Hp,Only H->SqL K H a (ns.map V.int)->sp [.ref a] H (λv _=>v=.bl true) λ_ _ _=>False)
  (hCX:∀H e s',CX [] H s₁ (λ_ _ _=>False) e s' -> False) :
  codeAny (model P w) callerA (.call (.ref fa) ([.ref a],[])) (λr s'=>r=.ok (.ret (.bool true))/\OldK s₁.heap s'.heap/\s'.os=s₁.os/\AllBare s'.gens) s₁:=by
 have R:=GW hi;have l:=hi.length
 -- from an abstract heap in which nothing but the script may be tracked
 have c:∀H:Hp,Only H->SqL K H a (ns.map V.int)->HOk P w H s₁.heap->(∀b,H b≠none->b=a)->(H a≠none->K.lookup a=none) ->
   codeAny (model P w) callerA (.call (.ref fa) ([.ref a],[])) (λr s'=>r=.ok (.ret (.bool true))/\OldK s₁.heap s'.heap/\s'.os=s₁.os/\AllBare s'.gens) s₁:=by
  intro H hO hS hok hA hK;have f:∀{b:Addr}{o:Obj},s₁.heap.get? b=some o->H b=none->(hidT s₁.heap H).get? b=some o:=λe n=>Zvp e n;have A:∀{b:Addr}{o:Obj}{es:Array DictEntry}{ep:Nat},s₁.heap.get? b=some o->o.data=.dict es ep->H b=none:=λ{b o es ep} e d=>by
   cases q:H b with
   |none=>rfl
   |some u=>
    have g:b=a:=hA b (by rw[q];simp);subst g;rw[ha]at e;cases e;have D:Data.seq vs.toArray _=Data.dict es ep:=d;cases D
  have S:∀{b:Addr}{m:Str->Option Value},s₁.heap.Ns b m->(hidT s₁.heap H).Ns b m:=λ{b m} (o,es,ep,e,d,r)=>(o,es,ep,f e (A e d),d,r);have B:K.In (hidT s₁.heap H):=λb o e=>f (KX b o e) (by
   cases q:H b with
   |none=>rfl
   |some u=>
    have g:b=a:=hA b (by rw[q];simp);subst g;rw[hK (by rw[q];simp)]at e;cases e)
  have M:Mod K mg (hidT s₁.heap H):=(B,S hns,(mb,S hb,hbb),let ⟨mc,h1,h2⟩:=hlim; (mc,S h1,h2));have j:Env0 P w K mg (hidT s₁.heap H) callerA [] s₁ H:=(rfl,M,λb o e=>Zxv e,Nat.le_of_eq<|WE _ _,trivial,λb hb=>absurd (show b∈([]:List Addr) from hb) #[4],hok,.of_eq hg);refine codeAny_mono ((F _ B<|S hns).run callerA [] s₁ H ([.ref a],[]) [.ref a] [.ref a] _ _ hr j (hbind s₁ (.ref a)) (.cons rfl .nil) (hsp H hO hS)) λr s' h=>?_;cases r with
  |error e=>exact(hCX H e s' h).elim
  |ok fl=>
   cases fl with
   |next=>exact False.elim h
   |brk=>exact False.elim h
   |cont=>exact False.elim h
   |ret u=>
    obtain⟨v,G,os,E,N,O,y,q⟩:=h;have Q:v=.bl true:=q;subst Q;obtain rfl:u=Value.bool true:=y;refine(rfl,OldK.of_keep λb o e=>?_,os,E);cases q:H b with
    |none=>exact N.keep b o e q (by intro z;exact absurd (show b∈([]:List Addr) from z) #[4]) #[4]
    |some u=>
     rcases hO b with z|⟨t,X,z⟩
     ·rw[q]at z;cases z
     ·have C:=N.frzs b t _ z
      obtain⟨i,_⟩:=hok b _ z;obtain⟨p,_⟩:=O b _ C;rw[e]at i;cases i;exact p
 cases hk:K.lookup a with
 |some o=>
  -- the script is one of the module's own objects
  have e:=KX a o hk;rw[ha]at e;cases e;refine c (λ_=>none) (λ_=>.inl rfl) (.inr (_,vs.toArray,_,hk,rfl,rfl,rfl,by rw[BC,l];exact hl,by simpa using R)) (λb u z=>by have Z:(none:Option HO)=some u:=z;cases Z) (λb z=>absurd rfl z) λz=>absurd rfl z
 |none=>
  refine c (λb=>if b=a then some (.frz { cls:=.type "list",data:=.seq vs.toArray } (.lst<|ns.map V.int)) else none) (λb=>?_) (.inl (.inr ({ cls:=.type "list",data:=.seq vs.toArray },AM rfl))) (λb u z=>?_) (λb z=>?_) λ_=>hk
  ·by_cases hb:b=a
   ·exact .inr (_,_,AM hb)
   ·exact .inl<|AL hb
  ·by_cases hb:b=a
   ·have Z:=(AM hb).symm.trans z
    cases Z;subst hb;exact(ha,by rw[AH];exact hl,vs,_,R,ha)
   ·have Z:=(AL hb).symm.trans z
    cases Z
  ·by_cases hb:b=a
   ·exact hb
   ·exact absurd (AL hb) z
theorem walk_of {l:PySem.W.OpenLaw}{n k:Nat}{q:Program}{L:List Str}{XP:(Str->Option Value)->Heap->Prop}{YP:World->Heap->Prop}{d:DefRec}{K:Params->W.Frag}{CX:World->CXT}{sp:World->Sp}{x:Str}
  (hn:l.most=some n) (J:n<=sizeLine) (z:d.params.defaults=[]) (hr:Room k callerA)
  (hY:∀(w:World) (h:Heap),YP w h->(K w.params).In h)
  (F:∀(w:World) (mg:Str->Option Value) (fa:Addr) (h:Heap),(K w.params).In h->h.Ns mainGlobals mg->mg d.name=some (.ref fa) ->
   ∃fd:FuncData,(∀(s:Shared) (u:Value),BindsTo s fd ([u],[]) [(x,u)]) /\
    ∀base:Heap,(K w.params).In base->base.Ns mainGlobals mg->FnOk l.prog w (K w.params) mg base (CX w) k fa fd [x] (sp w))
  (U:∀(w:World) (H:Hp) (a:Addr) (ns:List Int),ns.length<=n->Only H->SqL (K w.params) H a (ns.map V.int)->sp w [.ref a] H (λv _=>v=.bl true) λ_ _ _=>False)
  (j:∀(w:World) (H:Hp) (s:Shared) (e:Value) (s':Shared),CX w [] H s (λ_ _ _=>False) e s' -> False) :
  PySem.W.WalkO q L XP YP l.row.toRowW d [] (λf vs=>PySem.call f vs):=by
 refine Att.attach_call hn z λw s₀ s₁ mg mb fa o pm cd doc a vs ns G Y ho hd hcd hmg hobj hints hlen hg=>?_;have X:=hY w _ Y;obtain⟨fd,B,c⟩:=F w mg fa _ X G.T.g hmg;exact Wq X G.T.g G.T.b G.T.builtins G.T.nolimit hg hobj hints (Ck hlen J) hr c B (λH O S=>U w H a ns hlen O S) λH e s'=>j w H s₁ e s'
def defArgs (s:Stmt):Arguments:=match s with
 |.FunctionDef _ a _ _ _ _ _ _ _ _=>a
 |_=>{ posonlyargs:=[],args:=[],vararg:=none,kwonlyargs:=[],kw_defaults:=[],kwarg:=none,defaults:=[] }
def defBody (s:Stmt):List Stmt:=match s with
 |.FunctionDef _ _ b _ _ _ _ _ _ _=>b
 |_=>[]
def defScope (s:Stmt):Scope:=match s with
 |.FunctionDef _ _ _ _ _ _ sc _ _ _=>sc
 |_=>{ kind:=.function,names:=[],isGenerator:=false,isCoroutine:=false }
abbrev CX0:CXT:=λ_ _ _ _ _ _=>False
abbrev E0:XK:=λ_ _ _=>False
theorem pass0:Passes CX0 X E0:=λ_ _ _ _ _ _ _ h=>h.elim
structure BE (K:W.Frag) (x qual:Str) (st:Stmt) (f:Addr) (fd:FuncData):Prop where
 ex:∃(oc:Value) (od:Option Addr) (kV doc pm:Value) (an:Option Addr) (cdv ct:Value) (osl:Array (Option Value)),
  fd=W.fnOf x qual (defArgs st) (defBody st) (defScope st) .none kV doc pm an cdv ct/\K.lookup f=some (oc,od,.func fd,osl) /\ W.codeIn K cdv qual=true
 kp:W.keepIn K (.ref f)=true
#check 7
theorem BE.ok {st:Stmt}(F:BE K x qual st f fd) (S:FnScope N ps (defScope st)) (len:∀vs H Q E,sp vs H Q E->vs.length=ps.length)
  (hbody:∀(cdv:Value) (A:Around) (outer:List Env) (s:Shared) (H:Hp) (vs:List V) (Q:VK) (E:XK),Room k (A.deeper (envOfC qual (defScope st) s.heap.objs.size f cdv))->sp vs H Q E ->
   ∃t,PSs (cxOf CX0 P w K mg base N qual (defScope st) f cdv A outer s H E).nox (defBody st) t/\t { nx:=λ_ H'=>Q .non H',rt:=Q } (start N vs) H):FnOk P w K mg base CX0 (k+1) f fd ps sp:=by
 obtain⟨C,D,v,c,m,n,cdv,T,o,rfl,l,d⟩:=F.ex;refine TY l d S len λA outer s H vs Q E r p=>?_;obtain⟨t,h,q⟩:=hbody cdv A outer s H vs Q E r p;exact(t,h.nox,q)
theorem BE.binds {st:Stmt}(F:BE K x qual st f fd)
  (h:∀(kV doc pm:Value) (an:Option Addr) (cdv ct:Value) (us:List Value),us.length=ps.length->bindArgs (W.fnOf x qual (defArgs st) (defBody st) (defScope st) .none kV doc pm an cdv ct) (us,[])=pure (ps.zip us)):Binds K fd ps []:=by
 obtain⟨c,o,kV,doc,pm,an,cdv,ct,l,rfl,k,d⟩:=F.ex;exact .all<|h kV doc pm an cdv ct
theorem TK {st:Stmt}{z O J j ct:Value}(l:K.lookup f=some (oc,od,.func<|W.fnOf x qual (defArgs st) (defBody st) (defScope st) .none z O J an j ct,osl))
  (c:W.codeIn K j qual=true) (k:W.keepIn K (.ref f)=true):BE K x qual st f (W.fnOf x qual (defArgs st) (defBody st) (defScope st) .none z O J an j ct):=((oc,od,z,O,J,an,j,ct,osl,rfl,l,c),k)
end
theorem BX (j:Room k A):A.units+1<cLine:=EA (Nat.add_le_add_left (by decide:1<=64) _) j.units
theorem small1000 (h:n<=1000):n<sizeLine:=EA h #[1]
#check 0
theorem pv (i:Nat) (z:X.N[i]?=some x:=by rfl) (L:Ll X.env.scope x:=by first|exact Or.inl rfl|exact Or.inr (Or.inl rfl)|exact Or.inr<|Or.inr rfl) (J:(x == ("__debug__":Str))=false:=by decide)
  (j:(x == ("__classdict__":Str))=false:=by decide):PE X (.Name x pos) (tVar i):=TJ z L J j
end
theorem iteF {A B:Prop}(h:B):if false=true then A else B:=by
 rw[AL BL];exact h
theorem iteT {A B:Prop}(h:A):if true=true then A else B:=by
 rw[AM rfl];exact h
theorem ite2 {c A B:Prop}[Decidable c] (h1:c->A) (h2:¬ c->B):if c then A else B:=by
 by_cases h:c
 ·rw[AM h]
  exact h1 h
 ·rw[AL h]
  exact h2 h
def Same (H H':Hp):Prop:=∀b o,H b=some o->H' b=some o
theorem Same.refl (H:Hp):Same H H:=λ_ _ h=>h
theorem Same.trans (a:Same H H1) (b:Same H1 H2):Same H H2:=λc o h=>b c o<|a c o h
theorem Same.seq {K:W.Frag}(e:Same H H') (h:SqL K H a xs):SqL K H' a xs:=by
 rcases h with (h|⟨o,h⟩)|h
 ·exact .inl (.inl<|e _ _ h)
 ·exact .inl (.inr (o,e _ _ h))
 ·exact .inr h
section
variable {κ:Type}[DecidableEq κ]
def valV (kvs:List (κ × V)) (k:κ):Option V:=(kvs.find? λv=>decide (v.1=k)).map (·.2)
def putK (kvs:List (κ × V)) (k:κ) (v:V):List (κ × V):=
 if (kvs.any λK=>decide (K.1=k))=true then kvs.map (λK=>if K.1=k then (K.1,v) else K) else kvs++[(k,v)]
theorem K9 {p:κ × V}{r:List (κ × V)}{k:κ}(e:p.1=k):valV (p::r) k=some p.2:=by simp[valV,Fg,e]
theorem Kz {p:κ × V}{r:List (κ × V)}{k:κ}(e:¬ p.1=k):valV (p::r) k=valV r k:=by simp[valV,Fg,e]
theorem Qh (k:κ):∀kvs:List (κ × V),(kvs.any λkv=>decide (kv.1=k))=(valV kvs k).isSome
 |[]=>rfl
 |p::r=>by
  rw[FN];by_cases e:p.1=k
  ·simp only[K9 e,Au e,Bool.true_or,Option.isSome_some]
  ·rw[Kz e,A4 e,Bool.false_or];exact Qh k r
theorem Mf (kvs:List (κ × V)) (k:κ) (v:V):(putK kvs k v).length<=kvs.length+1:=by
 unfold putK;split
 ·rw[AH];lia
 ·rw[A1,BI,EV];lia
theorem RelO.isSome_eq (r:RelO o u):o.isSome=u.isSome:=by
 cases o with
 |none=>cases u with
  |none=>rfl
  |some _=>exact(show False from r).elim
 |some _=>cases u with
  |none=>exact(show False from r).elim
  |some _=>rfl
theorem RelO.getD (r:RelO o u) (j:RelV d d'):RelV (o.getD d) (u.getD d'):=by
 cases o with
 |none=>cases u with
  |none=>exact j
  |some _=>exact(show False from r).elim
 |some _=>cases u with
  |none=>exact(show False from r).elim
  |some _=>exact r
theorem KV.val (r:KV kvs vs) (k:κ):RelO (valV kvs k) (valueAt vs k):=by
 unfold KV at r
 induction r with
 |nil=>exact True.intro
 |@cons p q ps qs h t ih=>
  obtain⟨H,a⟩:=h;by_cases e:p.1=k
  ·have E:q.1=k:=H.symm.trans e
   have b:valueAt (q::qs) k=some q.2:=by simp[valueAt,Fg,E]
   rw[K9 e,b];exact a
  ·have E:¬ q.1=k:=λz=>e (H.trans z)
   have b:valueAt (q::qs) k=valueAt qs k:=by simp[valueAt,Fg,E]
   rw[Kz e,b];exact ih
theorem KV.any (r:KV kvs vs) (k:κ):(kvs.any λkv=>decide (kv.1=k))=vs.any λkv=>decide (kv.1=k):=by
 unfold KV at r
 induction r with
 |nil=>rfl
 |cons h t ih=>rw[FN,FN,ih,h.1]
theorem KV.repl {kvs:List (κ × V)}{vs:List (κ × Value)}(r:KV kvs vs) (k:κ) {y:V}{u:Value}(Y:RelV y u) :
  KV (kvs.map λkv=>if kv.1=k then (kv.1,y) else kv) (vs.map λkv=>if kv.1=k then (kv.1,u) else kv):=by
 unfold KV at r ⊢
 induction r with
 |nil=>exact .nil
 |@cons p q ps qs h t ih=>
  rw[BO,BO];refine .cons ?_ ih;obtain⟨H,a⟩:=h;by_cases e:p.1=k
  ·rw[AM e,AM (H.symm.trans e)];exact(H,Y)
  ·rw[AL e,AL (λz=>e<|H.trans z)];exact(H,a)
theorem KV.put (r:KV kvs vs) (k:κ) (Y:RelV y u):KV (putK kvs k y) (stored vs k u):=by
 unfold putK stored;rw[r.any k];by_cases e:(vs.any λv=>decide (v.1=k))=true
 ·rw[AM e,AM e];exact r.repl k Y
 ·rw[AL e,AL e];exact Paired.snoc r (rfl,Y)
theorem KV.length (r:KV kvs vs):kvs.length=vs.length:=Paired.length r
end
theorem Gr (r:RelV (kV k) u):(mixKind P w).is k u=true:=by
 cases k with
 |inl i=>obtain⟨t,e⟩:=(show ∃t,u=Value.int i t from r);subst e;exact Uz P w i t
 |inr x=>obtain⟨t,e⟩:=(show ∃t,u=Value.str x t from r);subst e;exact U4 P w x t
theorem P5:∀{ks:List AV}{us:List Value},Vals (ks.map kV) us->ItemsAre (mixKind P w) ks us
 |[],_,r=>by rw[Ii]at r;cases r;exact .nil
 |k::ks,_,r=>by
  rw[BO]at r;cases r with
  |cons h t=>exact .cons (Gr h) (P5 t)
abbrev KT (H:Hp):List (List AV × V)->List (List AV × Addr × Value)->Prop:=Paired λp q=>p.1=q.1/\H q.2.1=some (.tup<|p.1.map kV)/\RelV p.2 q.2.2
theorem KT.val (r:KT H kvs xs) (k:List AV):RelO (valV kvs k) ((atKey xs k).map (·.2)):=by
 induction r with
 |nil=>exact True.intro
 |@cons p q ps qs h t ih=>
  obtain⟨a,_,c⟩:=h;by_cases e:p.1=k
  ·have E:q.1=k:=a.symm.trans e
   have b:atKey (q::qs) k=some q.2:=by simp[atKey,Fg,E]
   rw[K9 e,b];exact c
  ·have E:¬ q.1=k:=λz=>e (a.trans z)
   have b:atKey (q::qs) k=atKey qs k:=by simp[atKey,Fg,E]
   rw[Kz e,b];exact ih
theorem KT.repl {H:Hp}{kvs:List (List AV × V)}{xs:List (List AV × Addr × Value)}(r:KT H kvs xs) (k:List AV) {y:V}{u:Value}(Y:RelV y u) :
  KT H (kvs.map λkv=>if kv.1=k then (kv.1,y) else kv) (xs.map<|putAt k u):=by
 induction r with
 |nil=>exact .nil
 |@cons p q ps qs h t ih=>
  rw[BO,BO];refine .cons ?_ ih;obtain⟨a,b,c⟩:=h;unfold putAt;by_cases e:p.1=k
  ·rw[AM e,AM (a.symm.trans e)];exact(a,b,Y)
  ·rw[AL e,AL (λz=>e<|a.trans z)];exact(a,b,c)
theorem KT.put {H:Hp}{kvs:List (List AV × V)}{xs:List (List AV × Addr × Value)}(r:KT H kvs xs) (k:List AV) {b:Addr}{y:V}{u:Value}(j:H b=some (.tup<|k.map kV)) (Y:RelV y u) :
  KT H (putK kvs k y) (storedH xs k b u):=by
 have e:(kvs.any λv=>decide (v.1=k))=(atKey xs k).isSome:=by
  rw[Qh,(r.val k).isSome_eq,Ln]
 unfold putK storedH;rw[e];by_cases q:(atKey xs k).isSome=true
 ·rw[AM q,AM q];exact r.repl k Y
 ·rw[AL q,AL q];exact Paired.snoc r (rfl,j,Y)
theorem KT.keeps (r:KT H kvs xs) (ht:∀b ys,H b=some (.tup ys)->H' b=some (.tup ys)):KT H' kvs xs:=
 Paired.mapP r λ_ _ z=>(z.1,ht _ _ z.2.1,z.2.2)
section
variable {P:Program}{w:World}{H:Hp}{h:Heap}{a:Addr}
theorem OZ (O:HOk P w H h) (e:Rd H a u):ObjOk P w H h a u:=e.ok O
theorem Gv (O:HOk P w H h) (e:Rd H a (.dK kvs)):kvs.length<=sizeLine/\(a == sysModules)=false/\∃vs,KV kvs vs/\h.DictOf (mixKind P w) a vs:=
 show ObjOk P w H h a (.dK kvs) from OZ O e
theorem N9 (O:HOk P w H h) (e:H a=some (.dK kvs)):kvs.length<=sizeLine/\(a == sysModules)=false/\∃vs,KV kvs vs/\h.DictOf (mixKind P w) a vs:=Gv O (.inl e)
theorem Gp (O:HOk P w H h) (e:H a=some (.tup<|ks.map kV)):(tupleKind<|mixKind P w).is h ks a:=by
 obtain⟨_,s,r,o,b,⟨c,n,d⟩,_⟩:=(show ObjOk P w H h a (.tup<|ks.map kV) from O a _ e);exact(o,s.toArray,n,b,c,d,by simpa using P5 r)
theorem Hy (O:HOk P w H h) (e:Rd H a (.dT kvs)):kvs.length<=sizeLine/\(a == sysModules)=false /\
  ∃xs,KT H kvs xs/\h.DictOfH (tupleKind<|mixKind P w) a xs:=by
 obtain⟨z,y,xs,r,o,s,E,b,c,d,f,g⟩:=(show ObjOk P w H h a (.dT kvs) from OZ O e);refine(z,y,xs,r,o,s,E,b,c,d,f,λx X=>?_,g);have L:∀{l:List (List AV × V)}{m:List (List AV × Addr × Value)},KT H l m->∀x∈m,(tupleKind<|mixKind P w).is h x.1 x.2.1:=by
  intro l m q
  induction q with
  |nil=>intro x X;exact nomatch X
  |@cons p q ps qs hq t ih=>
   intro x X;rcases Az.mp X with e|X
   ·subst e
    exact Gp O (by rw[<- hq.1];exact hq.2.1)
   ·exact ih x X
 exact L r x X
theorem Tb (O:HOk P w H h) (e:H a=some (.dT kvs)):kvs.length<=sizeLine/\(a == sysModules)=false /\
  ∃xs,KT H kvs xs/\h.DictOfH (tupleKind<|mixKind P w) a xs:=Hy O (.inl e)
end
def DGet (H:Hp) (a:Addr) (y:V) (r:Option V):Prop:=
 (∃kvs k,Rd H a (.dK kvs)/\y=kV k/\r=valV kvs k)\/∃kvs k b,Rd H a (.dT kvs)/\y=.ref b/\H b=some (.tup<|k.map kV)/\r=valV kvs k
def DPut (H:Hp) (a:Addr) (y v:V) (H':Hp):Prop:=
 (∃kvs k,H a=some (.dK kvs)/\y=kV k/\kvs.length<sizeLine/\H'=upd H a (.dK<|putK kvs k v)) \/
 ∃kvs k b,H a=some (.dT kvs)/\y=.ref b/\H b=some (.tup<|k.map kV)/\kvs.length<sizeLine/\H'=upd H a (.dT<|putK kvs k v)
theorem DGet.k {H:Hp}{a:Addr}{kvs:List (AV × V)}{k:AV}(e:H a=some (.dK kvs)):DGet H a (kV k) (valV kvs k):=.inl (kvs,k,.inl e,rfl,rfl)
theorem DPut.k {H:Hp}{a:Addr}{kvs:List (AV × V)}{k:AV}{v:V}(e:H a=some (.dK kvs)) (L:kvs.length<sizeLine):DPut H a (kV k) v (upd H a (.dK<|putK kvs k v)):=.inl (kvs,k,e,rfl,L,rfl)
section
variable {X:Cx}{pins:Ar}{Z:St}{H:Hp}{s:Shared}{a:Addr}{y v:V}{u r:Value}{o:Option V}{A:Around}{E:Ai}
theorem AJ.big (I:AJ X pins Z H s):sysModules<s.heap.objs.size:=by
 have h:mainGlobals<s.heap.objs.size:=(I.mod.glob.keeps I.bk).lt;exact Nat.lt_trans #[1] h
theorem Ww {Q:Ai}(U:A.units+1<cLine) (I:AJ X pins Z H s) (g:DGet H a y (some v)) (j:RelV y u) (h:∀w' s',AJ X pins Z H s' -> RelV v w' -> Q w' s') :
  wpAny (model X.prog X.w) A (getItem (.ref a) u) Q E s:=by
 rcases g with ⟨S,k,e,Y,l⟩|⟨S,k,b,e,Y,B,l⟩
 ·subst Y
  obtain⟨z,D,V,r,d⟩:=Gv I.hok e;obtain⟨w',c,W⟩:=RelO.some_of (v:=v) (o:=valueAt V k) (by rw[l];exact r.val k);exact wpAny_getItem_of (Gr j) d.mapOf c<|h w' _ (I.tok _) W
 ·subst Y
  cases (show u=Value.ref b from j);obtain⟨z,D,x,r,d⟩:=Hy I.hok e;obtain⟨w',c,W⟩:=RelO.some_of (v:=v) (o:=(atKey x k).map (·.2)) (by rw[l];exact r.val k);obtain⟨p,f,P⟩:=Option.map_eq_some_iff.mp c;refine wpAny_getItem_heap (tupleKind_room_in1 U) (Gp I.hok B) d f ?_;rw[P];exact h w' _ (I.tok _) W
theorem d_in {Q:Ai}(U:A.units+1<cLine) (I:AJ X pins Z H s) (g:DGet H a y o) (j:RelV y u) (h:∀s',AJ X pins Z H s' -> Q (.bool o.isSome) s') :
  wpAny (model X.prog X.w) A (compareOp .In u (.ref a)) Q E s:=by
 rcases g with ⟨v,k,e,Y,l⟩|⟨v,k,b,e,Y,B,l⟩
 ·subst Y
  obtain⟨z,D,S,r,d⟩:=Gv I.hok e;refine wpAny_in_of (Gr j) D d.mapOf ?_;rw[<- (r.val k).isSome_eq,<- l];exact h _<|I.tok _
 ·subst Y
  cases (show u=Value.ref b from j);obtain⟨z,D,x,r,d⟩:=Hy I.hok e;refine wpAny_in_heap (tupleKind_room_in1 U) (Gp I.hok B) D d ?_;have q:=(r.val k).isSome_eq;rw[Ln]at q;rw[<- q,<- l];exact h _<|I.tok _
theorem Zw6 {Q:Ai}(U:A.units+1<cLine) (I:AJ X pins Z H s) (g:DGet H a y o) (j:RelV y u) (h:∀s',AJ X pins Z H s' -> Q (.bool (!o.isSome)) s') :
  wpAny (model X.prog X.w) A (compareOp .NotIn u (.ref a)) Q E s:=by
 rcases g with ⟨v,k,e,Y,l⟩|⟨v,k,b,e,Y,B,l⟩
 ·subst Y
  obtain⟨z,D,S,r,d⟩:=Gv I.hok e;refine wpAny_notIn_of (Gr j) D d.mapOf ?_;rw[<- (r.val k).isSome_eq,<- l];exact h _<|I.tok _
 ·subst Y
  cases (show u=Value.ref b from j);obtain⟨z,D,x,r,d⟩:=Hy I.hok e;refine wpAny_notIn_heap (tupleKind_room_in1 U) (Gp I.hok B) D d ?_;have q:=(r.val k).isSome_eq;rw[Ln]at q;rw[<- q,<- l];exact h _<|I.tok _
theorem LP {h':Heap}{t':Nat}{ob:HO}(I:AJ X pins Z H s) (mu:IA (H a)) (hs:Heap.SameBut a s.heap h') (he:∃q,h'.get? a=some q) (new:ObjOk X.prog X.w (upd H a ob) h' a ob) :
  AJ X pins Z (upd H a ob) { s with heap:=h',toks:=t' }:=
 I.write (x:=a) (e:=a) mu (.inl rfl) (λb q h z=>(hs.2 b h).trans z) he new
theorem R6 {P:Program}{w:World}{H':Hp}{h':Heap}{kvs:List (AV × V)}{vs:List (AV × Value)}(z:kvs.length<=sizeLine) (j:(a == sysModules)=false) (L:KV kvs vs) (dd:h'.DictOf (mixKind P w) a vs) :
  ObjOk P w H' h' a (.dK kvs):=(z,j,vs,L,dd)
theorem WY {H':Hp}{Q:Unit->Shared->Prop}(hu:A.units+1<cLine) (I:AJ X pins Z H s) (g:DPut H a y v H') (U:RelV y u) (O:RelV v r) (h:∀s',AJ X pins Z H' s' -> Q () s') :
  wpAny (model X.prog X.w) A (setItem (.ref a) u r) Q E s:=by
 rcases g with ⟨S,k,e,Y,l,i⟩|⟨S,k,b,e,Y,B,l,i⟩
 ·subst Y i
  obtain⟨z,j,V,L,D⟩:=N9 I.hok e;have o:V.length<=sizeLine:=by rw[<- L.length];exact z
  have m:(putK S k v).length<=sizeLine:=by have:=Mf S k v;lia
  refine wpAny_setItem_pairs (hsz:=o) (Gr U) D λp d n=>h _ ?_;have K:∃q,p.get? a=some q:=let ⟨q,_,_,f,_⟩:=d; (q,f)
  exact LP I (by rw[e];exact True.intro) n K<|R6 m j (L.put k O) d
 ·subst Y i
  cases (show u=Value.ref b from U);obtain⟨z,j,M,L,D⟩:=Tb I.hok e;have o:M.length<=sizeLine:=by rw[<- Paired.length L];exact z
  have m:(putK S k v).length<=sizeLine:=by have:=Mf S k v;lia
  refine wpAny_setItem_heap (hsz:=o) (tupleKind_room_in1 hu) (Gp I.hok B) D λp d n=>h _ ?_;obtain⟨q,t,P,f,x,F,G,_,J⟩:=d;refine LP I (by rw[e];exact True.intro) n (q,f) (m,j,_,(L.put k B O).keeps λc N C=>?_,q,t,P,f,x,F,G,J);rw[As (UC C e λz=>nomatch z)];exact C
end
section
variable {X:Cx}{pins:Ar}{Z:St}{H:Hp}{s:Shared}{a:Addr}{kvs:List (AV × V)}{k:AV}{u:Value}{A:Around}{E:Ai}
theorem TV (I:AJ X pins Z H s) (e:Rd H a (.dK kvs)) (h:∀t s',AJ X pins Z H s' -> Q (.int kvs.length t) s'):wpAny (model X.prog X.w) A (call (.builtin "len") [.ref a]) Q E s:=by
 obtain⟨z,D,v,l,d⟩:=Gv I.hok e;refine call_len_dict D d (by rw[<- l.length];rw[sizeLine_eq]at z;lia) ?_;rw[<- l.length];exact h _ _<|I.tok _
end
theorem Uu (I:AJ X pins Z H s) (g:DGet H a y o):s.TypeIs (.ref a) "dict":=by
 rcases g with ⟨v,k,e,_,_⟩|⟨v,k,b,e,_,_,_⟩
 ·obtain⟨_,_,S,_,d⟩:=Gv I.hok e
  exact d.typeIs
 ·obtain⟨_,_,x,_,d⟩:=Hy I.hok e
  exact d.typeIs
theorem QS (h:Heap) (hb:sysModules<h.objs.size):ObjOk P w H (h.push { cls:=.type "dict",data:=.dict #[] }) h.objs.size (.dK []):=
 (CS _,beq_eq_false_iff_ne.mpr<|Ne.symm<|BF hb,[],.nil,Heap.DictOf.new h)
def tDNewK:TE:=λ_ H Q=>∀p,H p=none->Q (.ref p) (upd H p (.dK []))
section
variable {X:Cx}{pos:Pos}
theorem Qu:PE X (.Dict [] [] pos) tDNewK:=λn s Z H Q I h=>
 wpAny_Dict_empty (.ref s.heap.objs.size,_,I.laid (a:=s.heap.objs.size) (o:=.dK []) (t':=s.toks) (λ_ _ q=>BA _ q) (AX _)<|QS s.heap I.big,rfl,h _<|I.hok.fresh<|AX _)
end
section
variable {X:Cx}{pins:Ar}{Z:St}{H:Hp}{s:Shared}{a:Addr}{y d:V}{u r:Value}{o:Option V}{A:Around}{E:Ai}
theorem Su {Q:Ai}(U:A.units+1<cLine) (I:AJ X pins Z H s) (g:DGet H a y o) (J:RelV y u) (j:RelV d r) (h:∀w' s',AJ X pins Z H s' -> RelV (o.getD d) w' -> Q w' s') :
  wpAny (model X.prog X.w) A (call (.builtin "dict.get") [.ref a,u,r]) Q E s:=by
 rcases g with ⟨v,k,e,Y,l⟩|⟨v,k,b,e,Y,B,l⟩
 ·subst Y
  obtain⟨z,c,S,L,D⟩:=Gv I.hok e;refine call_meetsIn PySem.F.slot_dict_get D.typeIs PySem.F.entry_dict_get (PySem.F.args_dict_get_3 _ _ _) (meets_dict_get_default (mixKind X.prog X.w) a (Gr J) c r) (_,D.mapOf,h _ _ (I.tok _) ?_);rw[l];exact(L.val k).getD j
 ·subst Y
  cases (show u=Value.ref b from J);obtain⟨z,c,x,L,D⟩:=Hy I.hok e;refine call_meetsIn PySem.F.slot_dict_get D.typeIs PySem.F.entry_dict_get (PySem.F.args_dict_get_3 _ _ _) (meetsH_dict_get_default (tupleKind<|mixKind X.prog X.w) a b c r) (tupleKind_room_in1 U,k,x,Gp I.hok B,D,h _ _ (I.tok _) ?_);rw[l];exact(L.val k).getD j
end
section
variable {X:Cx}{pins:Ar}{Z:St}{H:Hp}{s:Shared}{a:Addr}{kvs:List (AV × V)}{A:Around}{E:Ai}
end
#check 0
theorem Wu:CallR X (.builtin "len") (λxs H Q=>∃a kvs,xs=[V.ref a]/\H a=some (.dK kvs)/\Q (.int kvs.length) H):=by
 intro pins s Z H xs us Q I r h;obtain⟨a,kvs,rfl,A,q⟩:=h;obtain⟨u,rfl,U⟩:=vals1 r;cases U;exact TV I (.inl A) λt S i=>(.int kvs.length,H,i,(t,rfl),q)
end
def clOf (env:Env):List (Str × NameKind)->List (Str × Addr)->List (Str × Addr)
 |[],cs=>cs
 | (n,k)::r,cs=>if k == .free then (match env.cells.lookup n with
     |some a=>clOf env r ((n,a)::cs)
     |none=>clOf env r cs) else clOf env r cs
theorem Mr:∀(names:List (Str × NameKind)) (cs:List (Str × Addr)),(∀n,(n,NameKind.free)∈names->∃a,env.cells.lookup n=some a) ->
  (forIn names cs λ(x:Str × NameKind) (cs:List (Str × Addr))=>if (x.2 == .free)=true then (do let a <- cellOf env x.1;pure (ForInStep.yield ((x.1,a)::cs))) else pure (ForInStep.yield cs):Sem (List<|Str × Addr))=pure (clOf env names cs)
 |[],cs,_=>rfl
 | (n,k)::r,cs,h=>by
  rw[List.forIn_cons];have hr:∀m,(m,NameKind.free)∈r->∃a,env.cells.lookup m=some a:=λm hm=>h m<|Bs _ hm;cases hk:k == NameKind.free with
  |false=>
   have e:clOf env ((n,k)::r) cs=clOf env r cs:=by simp[clOf,hk]
   rw[e,<- Mr r cs hr];simp only[hk,CD,if_false];rfl
  |true=>
   have hk':k=.free:=by simpa using hk
   subst hk';obtain⟨a,ha⟩:=h n Bk;have e:clOf env ((n,.free)::r) cs=clOf env r ((n,a)::cs):=by simp[clOf,ha]
   have ec:cellOf env n=pure a:=by simp[cellOf,ha]
   rw[e,<- Mr r ((n,a)::cs) hr];simp only[hk,if_true,ec];rfl
theorem HX (h:∀n,(n,NameKind.free)∈scope.names->∃a,env.cells.lookup n=some a):closureFor scope env=pure (clOf env scope.names []):=by
 rw[<- Mr scope.names [] h];simp only[closureFor];exact Eq.trans (bind_pure _) rfl
theorem D4:∀(names:List (Str × NameKind)) (cs:List (Str × Addr)) {x:Str}{c:Addr},(∀y d,cs.lookup y=some d->env.cells.lookup y=some d)->(clOf env names cs).lookup x=some c->env.cells.lookup x=some c
 |[],cs,x,c,h,e=>h x c e
 | (n,k)::r,cs,x,c,h,e=>by
  unfold clOf at e;split at e
  ·split at e
   ·rename_i a ha
    refine D4 r ((n,a)::cs) (λy d q=>?_) e;rw[EU]at q;split at q
    ·rename_i hy
     have Y:y=n:=by simpa using hy
     cases q;rw[Y];exact ha
    ·exact h y d q
   ·exact D4 r cs h e
  ·exact D4 r cs h e
theorem Kj:∀(names:List (Str × NameKind)) (cs:List (Str × Addr)) {x:Str},(∃c,cs.lookup x=some c)->∃c,(clOf env names cs).lookup x=some c
 |[],cs,x,h=>h
 | (n,k)::r,cs,x,h=>by
  have H:∀a,∃c,((n,a)::cs).lookup x=some c:=λa=>by
   rw[EU];split
   ·exact(_,rfl)
   ·exact h
  unfold clOf;split
  ·split
   ·exact Kj r _<|H _
   ·exact Kj r cs h
  ·exact Kj r cs h
theorem GY:∀(names:List (Str × NameKind)) (cs:List (Str × Addr)) {x:Str},(x,NameKind.free)∈names->(∃a,env.cells.lookup x=some a)->∃c,(clOf env names cs).lookup x=some c
 |[],_,_,h,_=>by simp at h
 | (n,k)::r,cs,x,h,(a,ha)=>by
  rcases Az.mp h with e|m
  ·have E:n=x:=(congrArg Prod.fst e).symm
   have b:k=.free:=(congrArg Prod.snd e).symm;subst E;subst b;have e:clOf env ((n,.free)::r) cs=clOf env r ((n,a)::cs):=by simp[clOf,ha]
   rw[e];exact Kj r _ (a,#[4])
  ·unfold clOf
   split
   ·split
    ·exact GY r _ m (a,ha)
    ·exact GY r _ m (a,ha)
   ·exact GY r _ m (a,ha)
def relab (osc scope:Scope):Scope:=
 { scope with names:=scope.names.map λ(n,k)=>if (k == .free && osc.kind == .function && osc.names.lookup n == some .cell) then (n,.cell) else (n,k) }
theorem Pf (O:k=.cell\/k=.free) (L:∀y∈scope.names,y.2≠.cell) (h:(relab osc scope).names.lookup x=some k):(x,NameKind.free)∈scope.names:=by
 have m:=PySem.mem_of_lookup h;obtain⟨⟨n,j⟩,Y,e⟩:=A2.mp m;dsimp only at e;split at e
 ·rename_i hj
  have E:n=x:=congrArg Prod.fst e;have J:j=.free:=by
   simp only[CT,beq_iff_eq]at hj;exact hj.1.1
  rw[<- E,<- J];exact Y
 ·have E:n=x:=congrArg Prod.fst e
  have a:j=k:=congrArg Prod.snd e;rcases O with z|z
  ·exact absurd (show ((n,j):Str × NameKind).2=.cell from a.trans z)<|L _ Y
  ·rw[<- E,<- z,<- a];exact Y
theorem Mh {osc:Scope}{x:Str}:∀{names:List (Str × NameKind)},names.lookup x=some .free ->
  (names.map λ(n,k)=>if (k == NameKind.free && osc.kind == .function && osc.names.lookup n == some .cell) then (n,NameKind.cell) else (n,k)).lookup x=some .cell \/
  (names.map λ(n,k)=>if (k == NameKind.free && osc.kind == .function && osc.names.lookup n == some .cell) then (n,NameKind.cell) else (n,k)).lookup x=some .free
 |[],h=>by simp at h
 | (n,k)::r,h=>by
  have i:=@Mh osc x r;rw[BO];cases hx:x == n with
  |true=>
   simp only[EU,hx]at h;cases h;dsimp only;split
   ·left;simp[EU,hx]
   ·right;simp[EU,hx]
  |false=>
   simp only[EU,hx]at h;dsimp only;split
   ·simpa only[EU,hx] using i h
   ·simpa only[EU,hx] using i h
structure CompSc (osc:Scope) (oN:List Str) (scope:Scope) (fvs:List Str) (sel:List Nat):Prop where
 kind:scope.kind=.function
 nocell:∀y∈scope.names,y.2≠.cell
 names:∀y∈scope.names,y.2=.local->scope.names.lookup y.1=some .local
 free:∀y∈scope.names,y.2=.free->osc.names.lookup y.1=some .cell\/osc.names.lookup y.1=some .free
 len:fvs.length=sel.length
 fv:∀p∈fvs.zip sel,oN[p.2]?=some p.1/\scope.names.lookup p.1=some .free
def compCx (X:Cx) (scope:Scope) (N:List Str) (C:Addr) (s:Shared) (H:Hp) (ex:List Addr) (pn:Ar):Cx where
 prog:=X.prog
 w:=X.w
 K:=X.K
 mg:=X.mg
 base:=X.base
 A:=X.A
 N:=N
 s₀:=s
 H₀:=H
 env:=compEnvC scope (clOf X.env scope.names []) C X.env
 outer:=X.stack
 stack:=X.stack
 ex:=ex
 fn:=λ_=>false
 calm:=X.calm
 pn:=pn
 xe:=λ_ _=>False
def compSt (n:Nat) (sel:List Nat) (Z:St):St:=Ak n none++sel.map λi=>(Z[i]?).getD none
section
variable {X:Cx}{pins:Ar}{Z:St}{H:Hp}{s:Shared}{fp:List Addr}{scope:Scope}{tgs fvs:List Str}{sel:List Nat}
theorem He (S:CompSc X.env.scope X.N scope fvs sel) (O:X.Ok):∀n,(n,NameKind.free)∈scope.names->∃a,X.env.cells.lookup n=some a:=λn h=>
 O.has n (S.free _ h rfl)
theorem Zw9 (S:CompSc X.env.scope X.N scope fvs sel) (N:List Str) (I:AJ X pins Z H s) (hf:∀b∈fp,FpOk X pins H b) (hlt:∀b∈fp,b<s.heap.objs.size):(compCx X scope N s.heap.objs.size s H fp<|X.pn++pins).Ok where
 mod:=I.ok.mod
 kind:=S.kind
 glob:=I.ok.glob
 blt:=I.ok.blt
 above:=AX _
 inj:=λx y c a d=>I.ok.inj x y c (D4 _ _ (λ_ _ z=>by simp at z) a)<|D4 _ _ (λ_ _ z=>by simp at z) d
 has:=λx f=>by
  have m:(x,NameKind.free)∈scope.names:=by
   rcases f with z|z
   ·exact Pf (osc:=X.env.scope) (.inl rfl) S.nocell z
   ·exact Pf (osc:=X.env.scope) (.inr rfl) S.nocell z
  exact GY scope.names [] m<|He S I.ok x m
 cab:=λx c h _=>by cases h
 hd:=I.ok.hd
 frames:=I.ok.frames
 stk:=.inl rfl
 exf:=λb B=>(BF<|hlt b B,λx c e=>(hf b B).2.2.2.2.1 x c (D4 _ _ (λ_ _ z=>by simp at z) e))
 bs:=I.bs
 bsz:=Ck I.ok.bsz I.sz
 noex:=λb o e B=>by
  rcases(hf b B).2.2.2.1 with z|z
  ·exact I.ok.noex b o e z
  ·exact absurd (DP (Ax e)<|Ck I.ok.bsz z)<|FO _
 exfs:=λb B z=>by
  rcases Az.mp (I.stkSub b z) with e|z
  ·exact(hf b B).2.1 e
  ·exact(hf b B).2.2.1 z
 funs:=I.stack
 frf:=I.stkFree
theorem QH (S:CompSc X.env.scope X.N scope fvs sel) (I:AJ X pins Z H s) (hf:∀b∈fp,FpOk X pins H b) (hlt:∀b∈fp,b<s.heap.objs.size) {h':Heap}{tk:Nat}{m:Str->Option Value}
  (hns:h'.Ns s.heap.objs.size m) (old:∀b o,s.heap.get? b=some o->h'.get? b=some o) :
  AJ (compCx X scope (tgs++fvs) s.heap.objs.size s H fp<|X.pn++pins) [] (compSt tgs.length sel Z) H { s with heap:=h',toks:=tk } where
 ok:=Zw9 S _ I hf hlt
 os:=rfl
 bare:=I.bare
 base:=Un.kept old
 loc:=by
  refine(m,hns,λi x v g h J=>?_);have g:(tgs++fvs)[i]?=some x:=g;unfold compSt at h;by_cases hi:i<tgs.length
  ·rw[Dp (by simpa using hi),IF,AM hi]at h
   cases h
  ·have a:tgs.length<=i:=Nat.le_of_not_lt hi
   rw[Ci #[10],Ad,Cc]at h;rw[Ci a]at g;cases hj:sel[i-tgs.length]? with
   |none=>rw[hj]at h;cases h
   |some j=>
    rw[hj]at h;have h:(Z[j]?).getD none=some v:=#[8]
    have E:(x,j)∈fvs.zip sel:=by
     refine Bd (i:=i-tgs.length) ?_;rw[IG];exact(g,hj)
    obtain⟨y,f⟩:=S.fv _ E;have A:Z[j]?=some (some v):=by
     cases q:Z[j]? with
     |none=>rw[q]at h;cases h
     |some o=>rw[q]at h;exact congrArg some h
    have k:X.env.scope.names.lookup x=some .cell\/X.env.scope.names.lookup x=some .free:=S.free (x,.free) (PySem.mem_of_lookup f) rfl;obtain⟨M,B,t⟩:=I.loc;obtain⟨u,r,l⟩:=t j x v y A (.inr k);refine(u,r,.inr (Mh f,?_));rcases l with ⟨K,_⟩|⟨_,c,w,L⟩
    ·have K:X.env.scope.names.lookup x=some .local:=K
     rcases k with z|z <;> (rw[K]at z;cases z)
    ·obtain⟨G,C⟩:=GY scope.names [] (PySem.mem_of_lookup f) (c,w)
     have e:=D4 scope.names [] (λ_ _ z=>by simp at z) C;rw[w]at e;cases e;obtain⟨o,O,D⟩:=L;exact(c,C,o,old _ _ O,D)
 cell:=λx c e=>by
  obtain⟨v,o,O,D⟩:=I.cell x c<|D4 _ _ (λ_ _ z=>by simp at z) e;exact(v,o,old _ _ O,D)
 free:=I.hok.fresh<|AX _
 freeC:=λx c e=>I.freeC x c<|D4 _ _ (λ_ _ z=>by simp at z) e
 pin:=λp P=>by
  have P:p∈(X.pn++pins)++[]:=P;rw[Bp]at P;obtain⟨e,n,ne,F,d⟩:=I.pin p P;refine(old _ _ e,n,BF<|Ax e,λz=>?_,d);rcases Az.mp (I.stkSub p.1 z) with q|q
  ·exact ne q
  ·exact F q
 hok:=I.hok.kept old
 len:=by
  unfold compSt;show _=(tgs++fvs).length;rw[A1,A1,Cc,AH,S.len]
theorem Pn (I:AJ X pins Z H s) (hf:∀b∈fp,FpOk X pins H b)
  (J:AJ (compCx X scope N s.heap.objs.size s H fp<|X.pn++pins) [] Z' H' s') (sb:Heap.SameBut s.heap.objs.size s'.heap h'):AJ X pins Z H' { s' with heap:=h' }:=by
 have B:Un (frs X.stack) fp H H' s.heap s'.heap:=J.base;have ne:∀b o,s.heap.get? b=some o->b≠s.heap.objs.size:=λb o e=>BF<|Ax e;have r:H' s.heap.objs.size=none:=J.free;refine I.call' (s':={ s' with heap:=h' }) (ch:=fp) J.os (λb o e n f a=>?_,λb o e n f a=>?_,B.free,λb o e a=>?_,B.tups,B.frzs,B.tbls) (λb g e=>?_) J.bare λb d=>?_
 ·exact(sb.2 b<|ne b o e).trans (B.keep b o e n f a)
 ·obtain⟨l,q⟩:=B.slot b o e n f a
  exact(l,(sb.2 b<|ne b o e).trans q)
 ·obtain⟨O,q⟩:=B.there b o e a
  exact(O,(sb.2 b<|ne b o e).trans q)
 ·refine(J.hok b g e).stay (λc w h q=>(sb.2 c ?_).trans q) (λ_ q=>q) λ_ _ q=>q
  intro z;rcases h with h|h
  ·rw[<- h,z,r]at e;cases e
  ·rw[z,r]at h;cases h
 ·exact((hf b d).2.2.2.1,(hf b d).2.1,(hf b d).2.2.2.2.1,(hf b d).2.2.2.2.2)
end
def PTs (X:Cx) (ifs:List Expr) (t:TT):Prop:=
 ∀(pins:Ar) (s:Shared) (Z:St) (H:Hp) (Q:Bool->Hp->Prop),AJ X pins Z H s->t Z H Q ->
  wpAny (model X.prog X.w) X.A (forIn ifs true λc r=>if r=true then do let ok <- isTrue c X.env (eval c X.env);pure (ForInStep.yield ok) else pure (ForInStep.yield r)) (TP X pins Z Q) X.xe s
def tTrue:TT:=λ_ H Q=>Q true H
theorem Dg:PTs X [] tTrue:=λn s Z H Q I h=>wpAny_tests_nil (H,I,h)
theorem D5 (h:PT X c t):PTs X [c] t:=λn s Z H Q I q=>wpAny_tests_one<|h n s Z H Q I q
def tComp (n:Nat) (sel:List Nat) (j:TI) (g:TG) (tc:TT) (te:TE):TE:=λZ H Q=>j Z H λJ h=>∀acc,h acc=none->∃W:Nat->Nat->St->Hp->Prop,
 (∃m,W 0 m (compSt n sel Z) (upd h acc (.lst [])))/\∀i m Z' H',W i m Z' H' ->
  (J.stop i H' /\ Q (.ref acc) H')\/(J.go i H' /\ ∃N:St->Hp->Prop,(∀z H2,N z H2->∃m',m'<m/\W (i+1) m' z H2) /\
   ∀x H2,J.yld i H' x H2->g x Z' H2 λz d=>tc z d λb a=>if b=true then te z a λy c=>∃ys,c acc=some (.lst ys)/\ys.length<sizeLine/\N z (upd c acc (.lst (ys++[y]))) else N z a)
#check 0
theorem P6 {elt tg iter:Expr}{ifs:List Expr}{scope:Scope}{pos:Pos}{tgs fvs:List Str}{sel:List Nat}{g:TG}{tc:TT}{te:TE}(S:CompSc X.env.scope X.N scope fvs sel) {Cm:Cx->Prop}(hc:∀C s H ex pn,Cm (compCx X scope (tgs++fvs) C s H ex pn))
  (hg:∀C s H ex pn,PG (compCx X scope (tgs++fvs) C s H ex pn) tg g) (ht:∀C s H ex pn,PTs (compCx X scope (tgs++fvs) C s H ex pn) ifs tc) (he:∀C s H ex pn,PE (compCx X scope (tgs++fvs) C s H ex pn) elt te)
  {pins:Ar}{Z:St}{s:Shared}{itv:Value}{Q:VK}{E:Ai}{RR:Value->Addr->Result->Shared->Prop}
  (h2:PIEG Cm X pins Z tg (λJ H1=>∀acc,H1 acc=none->∃W:Nat->Nat->St->Hp->Prop,
   (∃m,W 0 m (compSt tgs.length sel Z) (upd H1 acc (.lst [])))/\∀i m Z' H',W i m Z' H' ->
   (J.stop i H' /\ Q (.ref acc) H')\/(J.go i H' /\ ∃N:St->Hp->Prop,(∀Z2 H2,N Z2 H2->∃m',m'<m/\W (i+1) m' Z2 H2) /\
   ∀x H2,J.yld i H' x H2->g x Z' H2 λZ2 H3=>tc Z2 H3 λb H4=>if b=true then te Z2 H4 λy H5=>∃ys,H5 acc=some (.lst ys)/\ys.length<sizeLine/\N Z2 (upd H5 acc (.lst (ys++[y]))) else N Z2 H4)) itv s)
  (fin:∀(s':Shared) (C acc:Addr) (H':Hp) (m:Str->Option Value),s'.heap.Ns C m->FpOk X pins H' C->(∀h',Heap.SameBut C s'.heap h' -> AJ X pins Z H' { s' with heap:=h' })->Q (.ref acc) H' -> RR (.ref acc) C (.ok .next) s') :
  wpAny (model X.prog X.w) X.A (newList []) (λacc s3=>wpAny (model X.prog X.w) X.A (newFunctionEnv scope X.env.globals (clOf X.env scope.names []) [] X.env.qual none .none (some X.env)) (λcenv s4=>
   codeAny (model X.prog X.w) X.A (.compStart (.ListComp elt [(tg,iter,ifs,0)] scope pos) 0 itv acc { cenv with scope:=relabel scope X.env }) (RR acc cenv.locals) s4) E s3) E s:=by
 obtain⟨it,fp,tn,J,H1,e,I,T,st,f2,h2⟩:=h2;subst e;have hlt:∀b∈fp,b<s.heap.objs.size:=λb hb=>let ⟨o,ho,_⟩:=T.obj 0 _ st b hb; Ax ho
 refine wpAny_newObj_type<|wpAny_newFunctionEnv S.nocell (by intro y hy;simp at hy) (λh1 hns hsb=>?_) S.kind;dsimp only at hns hsb ⊢;have I3:AJ X pins Z (upd H1 s.heap.objs.size (.lst [])) { s with heap:=s.heap.push { cls:=.type "list",data:=.seq ([]:List Value).toArray },toks:=s.toks }:=I.lnew (its:=[]) .nil #[1];have hacc:H1 s.heap.objs.size=none:=I.hok.fresh<|AX _;obtain⟨W,⟨m0,w0⟩,turn⟩:=h2 s.heap.objs.size hacc;generalize hs3:({ s with heap:=s.heap.push { cls:=.type "list",data:=.seq ([]:List Value).toArray },toks:=s.toks }:Shared)=s3 at I3;have hh3:s3.heap=s.heap.push { cls:=.type "list",data:=.seq ([]:List Value).toArray }:=by rw[<- hs3]
 have old3:∀b o,s.heap.get? b=some o->s3.heap.get? b=some o:=λb o q=>by rw[hh3];exact BA _ q
 have hf3:∀b∈fp,FpOk X pins (upd H1 s.heap.objs.size (.lst [])) b:=λb hb=>(by rw[As (BF<|hlt b hb)];exact(f2 b hb).1,(f2 b hb).2);have hlt3:∀b∈fp,b<s3.heap.objs.size:=λb hb=>by rw[hh3,GQ];exact D0<|hlt b hb
 have tn3:tn 0 s3.heap:=T.keep 0 _ _ st λb hb o q=>old3 b o q;have old4:∀b o,s3.heap.get? b=some o->h1.get? b=some o:=λb o q=>by
  have hb:b≠s3.heap.objs.size:=BF<|Ax q;rw[hh3]at hb q;exact(hsb.2 b hb).trans (BA _ q)
 have tn4:tn 0 h1:=T.keep 0 _ _ tn3 λb hb o q=>old4 b o q;have hC:(s.heap.push { cls:=.type "list",data:=.seq ([]:List Value).toArray }).objs.size=s3.heap.objs.size:=by rw[hh3]
 rw[hC]at hns;have J0:=QH (tgs:=tgs) (tk:=s.toks+([]:List (Str × Value)).length) S I3 hf3 hlt3 hns old4;have es:({ s3 with heap:=h1,toks:=s.toks+([]:List (Str × Value)).length }:Shared) = { s with heap:=h1,toks:=s.toks+([]:List (Str × Value)).length }:=by rw[<- hs3]
 rw[es]at J0;generalize hY:compCx X scope (tgs++fvs) s3.heap.objs.size s3 (upd H1 s.heap.objs.size (.lst [])) fp (X.pn++pins)=Y at J0;have hYp:Y.prog=X.prog:=#[9]
 have hYw:Y.w=X.w:=#[9]
 have hYK:Y.K=X.K:=#[9]
 have hYA:Y.A=X.A:=#[9]
 have hYc:Cm Y:=by rw[<- hY];exact hc _ _ _ _ _
 have hYx:Y.xe=λ_ _=>False:=#[9]
 have hYe:Y.env=compEnvC scope (clOf X.env scope.names []) s3.heap.objs.size X.env:=#[9]
 have stat:∀{H':Hp},(∀b∈fp,H' b=none)->∀b∈fp,FpOk Y [] H' b:=λhn b hb=>by
  rw[<- hY];refine(hn b hb,BF<|hlt3 b hb,λz=>?_,.inl hb,λx c e=>?_,λp hp z=>?_)
  ·rcases Az.mp (I3.stkSub b z) with q|q
   ·exact(hf3 b hb).2.1 q
   ·exact(hf3 b hb).2.2.1 q
  ·exact(hf3 b hb).2.2.2.2.1 x c (D4 _ _ (λ_ _ z=>by simp at z) e)
  ·have hp:p∈(X.pn++pins)++[]:=hp
   rw[Bp]at hp;exact(hf3 b hb).2.2.2.2.2 p hp z
 have loop:codeAny (model X.prog X.w) X.A (.compLoop (.ListComp elt [(tg,iter,ifs,0)] scope pos) 0 (.ref it) (.ref s.heap.objs.size) Y.env) (RR (.ref s.heap.objs.size) s3.heap.objs.size)
   { s with heap:=h1,toks:=s.toks+([]:List (Str × Value)).length }:=by
  refine codeAny_loop rfl (λn s'=>∃i Z' H',AJ Y [] Z' H' s' /\ tn i s'.heap/\(∀b∈fp,H' b=none)/\W i n Z' H') ?_ m0 (0,_,_,J0,tn4,λb hb=>(hf3 b hb).1,w0);rintro n s5 ⟨i,Z5,H5,I5,st5,fr5,w5⟩;show wpAny _ X.A ((compTurn (.ListComp elt [(tg,iter,ifs,0)] scope pos) 0 (.ref it) (.ref s.heap.objs.size) Y.env).onRaise (λx=>do noteFrame x Y.env;theTreesLotGoes x)) _ _ s5;refine wpAny_noted (EN (E:=λ_ _=>False) ?_ (λ_ _ q=>q) λ_ _ z=>z.elim);rw[compTurn_list];refine AE<|Ei<|AE ?_;rcases turn i n Z5 H5 w5 with ⟨stop,qn⟩|⟨go,N,hN,step⟩
  ·have D:=T.done Y hYp hYw hYK hYc i [] s5 Z5 H5 (λ_ _=>False) I5 (stat fr5) st5 stop
   rw[hYA]at D;refine thn D λr s6 (hr,I6)=>?_;subst hr;refine AO ?_;obtain⟨m6,hn6,_⟩:=I6.loc;rw[hYe]at hn6;refine fin s6 _ _ H5 m6 hn6 (I3.fpOk (AX _) (by have z:=I6.free;rw[hYe]at z;exact z)) (λh' sb=>?_) qn;have I6':AJ (compCx X scope (tgs++fvs) s3.heap.objs.size s3 (upd H1 s.heap.objs.size (.lst [])) fp<|X.pn++pins) [] Z5 H5 s6:=by rw[hY];exact I6
   exact Pn I3 hf3 I6' sb
  ·have D:=T.item Y hYp hYw hYK hYc i [] s5 Z5 H5 (λ_ _=>False) I5 (stat fr5) st5 go
   rw[hYA]at D;refine thn D λr s6 (u,hr,h6)=>?_;subst hr;refine AE (thn h6 λ_ s7 (x,H7,I7,r7,y7,st7,fr7)=>?_);have I7':=I7.pinned (stat fr7)<|T.obj _ _ st7;have G:=hg s3.heap.objs.size s3 (upd H1 s.heap.objs.size (.lst [])) fp<|X.pn++pins;have TT:=ht s3.heap.objs.size s3 (upd H1 s.heap.objs.size (.lst [])) fp<|X.pn++pins;have EE:=he s3.heap.objs.size s3 (upd H1 s.heap.objs.size (.lst [])) fp<|X.pn++pins;rw[hY]at G TT EE;have G1:=G _ s7 Z5 H7 x u _ I7' r7<|step x H7 y7;rw[hYp,hYw,hYA,hYx]at G1;refine AE (thn G1 λ_ s8 (Z8,H8,I8,q8)=>?_);have T1:=TT _ s8 Z8 H8 _ I8 q8;rw[hYp,hYw,hYA,hYx]at T1;refine AE (thn T1 λok s9 (H9,I9,q9)=>?_);have again:∀{s':Shared}{Z':St}{H':Hp},AJ Y ([]++pinsAt fp s7.heap) Z' H' s' -> N Z' H' -> ∃m,m<n/\∃i Z' H',AJ Y [] Z' H' s' /\ tn i s'.heap/\(∀b∈fp,H' b=none)/\W i m Z' H':=λ{s' Z' H'} K7 n7=>by
    obtain⟨m',hm,w7⟩:=hN Z' H' n7;refine(m',hm,i+1,Z',H',K7.unpinned,T.keep _ _ _ st7 λb hb o e=>(K7.pin (b,o)<|Bx _<|Bx _<|Fv hb e).1,λb hb=>?_,w7);obtain⟨o,e,d⟩:=T.obj _ _ st7 b hb;exact(K7.pin (b,o)<|Bx _<|Bx _<|Fv hb e).2.1
   cases ok with
   |false=>
    have q9:N Z8 H9:=q9;exact AO (by rw[hYe],again I9 q9)
   |true=>
    have q9:te Z8 H9 λy H5=>∃ys,H5 s.heap.objs.size=some (.lst ys)/\ys.length<sizeLine/\N Z8 (upd H5 s.heap.objs.size (.lst<|ys++[y])):=q9;have E1:=EE _ s9 Z8 H9 _ I9 q9;rw[hYp,hYw,hYA,hYx]at E1;refine AE<|AE (thn E1 λv sa (y,Ha,Ia,ra,ys,ea,za,na)=>?_);have M_:=EY (X:=Y) _ sa Z8 Ha (.ref s.heap.objs.size) [y] (.ref s.heap.objs.size) [v] (λ_ H=>N Z8 H) Ia rfl (.cons ra .nil) (_,ys,y,rfl,rfl,ea,za,na);rw[hYp,hYw,hYA,hYx]at M_;refine AE (thn M_ λ_ sb (_,Hb,Ib,_,nb)=>AO<|AO (by rw[hYe],again Ib nb))
 have hcs:(relabel scope X.env)=(relabel scope X.env):=rfl;have loop':=loop;rw[hYe]at loop';show codeAny (model X.prog X.w) X.A (.compStart (.ListComp elt [(tg,iter,ifs,0)] scope pos) 0 (.ref it) (.ref s.heap.objs.size)<|compEnvC scope (clOf X.env scope.names []) (s.heap.push { cls:=.type "list",data:=.seq ([]:List Value).toArray }).objs.size X.env) (RR (.ref s.heap.objs.size) (s.heap.push { cls:=.type "list",data:=.seq ([]:List Value).toArray }).objs.size) _;rw[hC];exact codeAny_compStart_list loop'<|T.self _ 0 _ _ _ tn4 loop'
theorem Ce {L tg j:Expr}{z:List Expr}{scope:Scope}{pos:Pos}{fvs:List Str}{sel:List Nat}{J:TI}{g:TG}{tc:TT}{te:TE}(tgs:List Str) (S:CompSc X.env.scope X.N scope fvs sel) (O:X.calm=true)
  (hi:PI X tg j J) (Y:∀C s H ex pn,PG (compCx X scope (tgs++fvs) C s H ex pn) tg g) (ht:∀C s H ex pn,PTs (compCx X scope (tgs++fvs) C s H ex pn) z tc) (U:∀C s H ex pn,PE (compCx X scope (tgs++fvs) C s H ex pn) L te)
  (hs:∀x,foldedSetIterable j X.env x=pure x:=by intro _;rfl) :
  PE X (.ListComp L [(tg,j,z,0)] scope pos) (tComp tgs.length sel J g tc te):=by
 intro pins s Z H Q I h;rw[eval_ListComp];refine wpAny_comprehension_free (use:=none) rfl hs (HX<|He S I.ok) S.kind S.names (thn (hi pins s Z H _ I h) λv e b=>thn b λt f d=>?_);refine P6 (Cm:=λX=>X.calm=true) S (λ_ _ _ _ _=>O) Y ht U (RR:=λc C=>compPost (model X.prog X.w) X.A X.xe none (EP X pins Z Q) c C) (Q:=Q) d ?_;intro s' C c H' m hn _ hI q;exact(m,hn,λa B=>(.ref c,H',hI a B,rfl,q))
theorem GZ {elt tg iter:Expr}{ifs:List Expr}{scope:Scope}{pos spos py:Pos}{fvs:List Str}{sel:List Nat}{wi:TI}{g:TG}{tc:TT}{te:TE}{i:Nat}{y:Str}(tgs:List Str) (S:CompSc X.env.scope X.N scope fvs sel) (hc:X.calm=true)
  (hN:X.N.Nodup) (hiy:X.N[i]?=some y) (hx:Gx X.env.scope y)
  (hi:PI X tg iter wi) (hg:∀C s H ex pn,PG (compCx X scope (tgs++fvs) C s H ex pn) tg g) (ht:∀C s H ex pn,PTs (compCx X scope (tgs++fvs) C s H ex pn) ifs tc) (he:∀C s H ex pn,PE (compCx X scope (tgs++fvs) C s H ex pn) elt te)
  (hs:∀x,foldedSetIterable iter X.env x=pure x:=by intro _;rfl) (hsw:swapsWith (.ListComp elt [(tg,iter,ifs,0)] scope pos) (some (.Name y py)) spos.line X.env=pure true:=by rfl)
  (hf:X.fn y=true\/X.env.scope.names.lookup y=some .local:=by first|exact .inl rfl|exact .inr rfl|assumption) :
  PS X (.Assign [.Name y py] (.ListComp elt [(tg,iter,ifs,0)] scope pos) spos) (tAsg (tComp tgs.length sel wi g tc te)<|gName i):=by
 intro pins s Z H D I h;rw[exec_Assign_Name_used _ _ _ _ hsw];refine AE (Ei (AE ?_));show wpAny _ X.A (do let _ <- comprehension (.ListComp elt [⟨tg,iter,ifs,0⟩] scope pos) scope X.env _ (newList []) false (eval iter X.env) (some (assign (.Name y py) X.env))) _ _ s;refine AE (EN (wpAny_comprehension_free (use:=some (assign (.Name y py) X.env)) (Q:=λ_ s'=>SP X pins D .next s') rfl hs (HX (He S I.ok)) S.kind S.names
  (thn (hi pins s Z H _ I h) λv s1 h1=>thn h1 λitv s2 h2=>?_)) (λ_ s' hq=>AO (AO hq)) λ_ _ e=>e)
 refine P6 (Cm:=λX=>X.calm=true) S (λ_ _ _ _ _=>hc) hg ht he (RR:=λacc C=>compPost (model X.prog X.w) X.A X.xe (some<|assign (.Name y py) X.env) (λ_ s'=>SP X pins D .next s') acc C) (Q:=λv H'=>D.nx (Z.set i<|some v) H') h2 ?_;intro s' C acc H' m hn fp hI q;have I0:AJ X pins Z H' s':=hI s'.heap (.refl ..);show wpAny _ X.A (assign (.Name y py) X.env (.ref acc)) _ _ _;refine wpAny_assign_Name<|Mx (v:=.ref acc) I0 hN hiy hx rfl (λs2 I2 hsb=>?_) hf;obtain⟨a,sb,ha⟩:=hsb;have hCa:C≠a:=by
  rcases ha with z|z
  ·rw[z];exact fp.2.1
  ·exact Ne.symm<|fp.2.2.2.2.1 y a z
 refine(m,hn.sameBut sb hCa,λh' sb'=>?_);obtain⟨f0,f1,f2,f3,f4,f5⟩:=fp;exact(_,H',I2.turned (t':=s2.toks) (it:=C) (λb o hb e=>(sb'.2 b hb).trans e) f0 f1 f3 f4 f5,q)
end
def InsC (a C:Addr) (h:Heap):Prop:=∃ox vs,h.get? a=some ox/\ox.cls=.ref C/\ox.data=.fields vs/\vs[2]?=some .none
def InsR (a C dx:Addr) (h:Heap):Prop:=∃ox vs,h.get? a=some ox/\ox.cls=.ref C/\ox.data=.fields vs/\vs[2]?=some .none/\ox.dict=some dx
inductive D where
 |non|bl (b:Bool)|int (i:Int)|str (x:Str)|ty (n:String)|tup (ds:List D)|lst (ds:List D)|scr (ds:List D)|adr (a:Addr)|dct (ks:List AV) (ds:List D)|exc (a C:Addr)|excR (a C:Addr) (i:Int)
mutual
inductive Ap (K:W.Frag) (G:Hp):V->D->Prop
 |non:Ap K G .non .non
 |bl (b:Bool):Ap K G (.bl b) (.bl b)
 |int (i:Int):Ap K G (.int i) (.int i)
 |str (x:Str):Ap K G (.str x) (.str x)
 |ty (n:String):Ap K G (.ty n) (.ty n)
 |tup {a:Addr}{vs:List V}{ds:List D}:G a=some (.tup vs)->Reps K G vs ds->Ap K G (.ref a) (.tup ds)
 |lst {a:Addr}{vs:List V}{ds:List D}:G a=some (.lst vs)->Reps K G vs ds->Ap K G (.ref a) (.lst ds)
 |scr {a:Addr}{vs:List V}{ds:List D}:SqL K G a vs->Reps K G vs ds->Ap K G (.ref a) (.scr ds)
 |adr (a:Addr):Ap K G (.ref a) (.adr a)
 |dct {a:Addr}{ks:List AV}{vs:List V}{ds:List D}:G a=some (.dK (ks.zip vs))->ks.length=vs.length->Reps K G vs ds->Ap K G (.ref a) (.dct ks ds)
 |exc {a C:Addr}:G a=some (.ext (InsC a C))->Ap K G (.ref a) (.exc a C)
 |excR {a C dx:Addr}{i:Int}:G a=some (.ext (InsR a C dx))->G dx=some (.xd [("row",.int i)])->Ap K G (.ref a) (.excR a C i)
inductive Reps (K:W.Frag) (G:Hp):List V->List D->Prop
 |nil:Reps K G [] []
 |cons {v:V}{d:D}{vs:List V}{ds:List D}:Ap K G v d->Reps K G vs ds->Reps K G (v::vs) (d::ds)
end
def RepI (K:W.Frag) (G:Hp) (v:V):D->Prop
 |.non=>v=.non
 |.bl b=>v=.bl b
 |.int i=>v=.int i
 |.str x=>v=.str x
 |.ty n=>v=.ty n
 |.tup ds=>∃a vs,v=.ref a/\G a=some (.tup vs)/\Reps K G vs ds
 |.lst ds=>∃a vs,v=.ref a/\G a=some (.lst vs)/\Reps K G vs ds
 |.scr ds=>∃a vs,v=.ref a/\SqL K G a vs/\Reps K G vs ds
 |.adr a=>v=.ref a
 |.dct ks ds=>∃a vs,v=.ref a/\G a=some (.dK (ks.zip vs))/\ks.length=vs.length/\Reps K G vs ds
 |.exc a C=>v=.ref a/\G a=some (.ext (InsC a C))
 |.excR a C i=>v=.ref a/\∃dx,G a=some (.ext (InsR a C dx))/\G dx=some (.xd [("row",.int i)])
theorem Ap.inv {K:W.Frag}(r:Ap K G v d):RepI K G v d:=by
 cases r with
 |tup h r=>exact(_,_,rfl,h,r)
 |lst h r=>exact(_,_,rfl,h,r)
 |scr h r=>exact(_,_,rfl,h,r)
 |dct h l r=>exact(_,_,rfl,h,l,r)
 |exc h=>exact(rfl,h)
 |excR h h2=>exact(rfl,_,h,h2)
 |_=>rfl
def RepsI (K:W.Frag) (G:Hp) (vs:List V):List D->Prop
 |[]=>vs=[]
 |d::ds=>∃v ws,vs=v::ws/\Ap K G v d/\Reps K G ws ds
theorem Reps.inv {K:W.Frag}(r:Reps K G vs ds):RepsI K G vs ds:=by
 cases r with
 |nil=>rfl
 |cons a b=>exact(_,_,rfl,a,b)
section
variable {K:W.Frag}{G G' H H':Hp}
mutual
theorem Ap.mono (s:Same G G'):∀{v:V}{d:D},Ap K G v d->Ap K G' v d
 |_,_,.non=>.non
 |_,_,.bl b=>.bl b
 |_,_,.int i=>.int i
 |_,_,.str x=>.str x
 |_,_,.ty n=>.ty n
 |_,_,.tup h r=>.tup (s _ _ h) (Reps.mono s r)
 |_,_,.lst h r=>.lst (s _ _ h) (Reps.mono s r)
 |_,_,.scr h r=>.scr (s.seq h) (Reps.mono s r)
 |_,_,.adr a=>.adr a
 |_,_,.dct h l r=>.dct (s _ _ h) l (Reps.mono s r)
 |_,_,.exc h=>.exc (s _ _ h)
 |_,_,.excR h h2=>.excR (s _ _ h) (s _ _ h2)
theorem Reps.mono (s:Same G G'):∀{vs:List V}{ds:List D},Reps K G vs ds->Reps K G' vs ds
 |_,_,.nil=>.nil
 |_,_,.cons h r=>.cons (Ap.mono s h) (Reps.mono s r)
end
theorem Reps.length:∀{vs:List V}{ds:List D},Reps K G vs ds->vs.length=ds.length
 |_,_,.nil=>rfl
 |_,_,.cons _ r=>by rw[BI,BI,r.length]
theorem Reps.get:∀{vs:List V}{ds:List D}{i:Nat}{d:D},Reps K G vs ds->ds[i]?=some d->∃v,vs[i]?=some v/\Ap K G v d
 |_,_,_,_,.nil,e=>by simp at e
 |_,_,0,_,.cons r _,e=>by simp at e;subst e;exact(_,rfl,r)
 |_,_,i+1,d,.cons _ t,e=>by
  obtain⟨u,h,H⟩:=Reps.get (i:=i) (d:=d) t (by simpa using e);exact(u,#[8],H)
theorem Reps.append:∀{vs ws:List V}{ds es:List D},Reps K G vs ds->Reps K G ws es->Reps K G (vs++ws) (ds++es)
 |_,_,_,_,.nil,s=>s
 |_,_,_,_,.cons r t,s=>.cons r (Reps.append t s)
theorem Reps.take:∀{vs:List V}{ds:List D}(n:Nat),Reps K G vs ds->Reps K G (vs.take n) (ds.take n)
 |_,_,0,_=>.nil
 |_,_,_+1,.nil=>.nil
 |_,_,n+1,.cons r t=>.cons r (Reps.take n t)
theorem Reps.drop:∀{vs:List V}{ds:List D}(n:Nat),Reps K G vs ds->Reps K G (vs.drop n) (ds.drop n)
 |_,_,0,r=>r
 |_,_,_+1,.nil=>.nil
 |_,_,n+1,.cons _ t=>Reps.drop n t
theorem Reps.reverse (h:Reps K G vs ds):Reps K G vs.reverse ds.reverse:=by
 induction vs generalizing ds with
 |nil=>cases h;exact .nil
 |cons v vs ih=>
  cases h with
  |cons r t=>rw[Lz,Lz];exact(ih t).append (.cons r .nil)
theorem Reps.set:∀{vs:List V}{ds:List D}{v:V}{d:D}(i:Nat),Reps K G vs ds->Ap K G v d->Reps K G (vs.set i v) (ds.set i d)
 |_,_,_,_,_,.nil,_=>.nil
 |_,_,_,_,0,.cons _ t,q=>.cons q t
 |_,_,_,_,i+1,.cons r t,q=>.cons r (Reps.set i t q)
theorem Reps.eraseIdx:∀{vs:List V}{ds:List D}(i:Nat),Reps K G vs ds->Reps K G (vs.eraseIdx i) (ds.eraseIdx i)
 |_,_,_,.nil=>.nil
 |_,_,0,.cons _ t=>t
 |_,_,i+1,.cons r t=>.cons r (Reps.eraseIdx i t)
theorem Reps.ints:∀{ns:List Int},Reps K G vs (ns.map D.int)->vs=ns.map V.int:=by
 induction vs with
 |nil=>intro ns h;cases ns with
  |nil=>rfl
  |cons n ns=>cases h
 |cons v vs ih=>intro ns h;cases ns with
  |nil=>cases h
  |cons n ns=>
   cases h with
   |cons r t=>cases r.inv;rw[ih t];rfl
theorem Reps.ofInts:∀(ns:List Int),Reps K G (ns.map V.int) (ns.map D.int)
 |[]=>.nil
 |n::ns=>.cons (.int n) (Reps.ofInts ns)
theorem NB (r:Reps K G vs ds) (h:atI ds i=some d):∃v,atI vs i=some v/\Ap K G v d:=by
 unfold atI at h ⊢;rw[<- r.length]at h;cases e:ixN vs.length i with
 |none=>rw[e]at h;cases h
 |some j=>rw[e]at h;exact r.get h
end
inductive OD where
 |lst (ds:List D)|dct (kvs:List (AV × D))|set (S:Int->Bool) (n:Nat)|dtt (kvs:List (List AV × D))|ext (R:Hp->(Heap->Prop)->Prop)
def OwnRep (K:W.Frag) (G:Hp):HO->OD->Prop
 |.lst vs,.lst ds=>Reps K G vs ds
 |.dK kvs,.dct kds=>Paired (λ(p:AV × V) (q:AV × D)=>p.1=q.1/\Ap K G p.2 q.2) kvs kds
 |.set S n,.set S' n'=>S=S' /\ n=n'
 |.dT kvs,.dtt kds=>Paired (λ(p:List AV × V) (q:List AV × D)=>p.1=q.1/\Ap K G p.2 q.2) kvs kds
 |.ext φ,.ext R=>∃G0,Same G0 G/\R G0 φ
 |_,_=>False
theorem OwnRep.mono {K:W.Frag}(s:Same G G') (h:OwnRep K G o od):OwnRep K G' o od:=by
 cases o <;> cases od <;> first
  |exact h.elim
  |exact Reps.mono s h
  |exact Paired.mapP h λ_ _ z=>(z.1,z.2.mono s)
  |exact(let ⟨g0,s0,r⟩:=h; (g0,s0.trans s,r))
  |exact h
inductive Slot where
 |any|val (d:D)|own (o:OD)|bor (o:OD)|ownA (a:Addr) (o:OD)
abbrev AI:=List Slot
def Slot.od:Slot->Option OD
 |.own o=>some o
 |.bor o=>some o
 |.ownA _ o=>some o
 |_=>none
structure Gm where
 B:Addr->Prop
 F:Hp
 Hz:Hp
 Xo:Hp
def SlotAt (g:Gm) (x:Slot) (a:Addr):Prop:=match x with
 |.own _=>g.Hz a=none
 |.bor _=>g.B a
 |.ownA b _=>b=a/\g.Hz a=none
 |_=>True
structure Ok (K:W.Frag) (g:Gm) (G H:Hp) (Z:St) (M:AI):Prop where
 same:∀b o,¬ g.B b->g.Hz b=some o->H b=some o
 lent:∀b,g.B b->H b≠none
 sub:Same g.F G
 frz:∀b o,G b=some o->H b=some o/\(g.Hz b=none\/g.F b=some o)
 ext:∀b o,g.Xo b=some o->H b=some o/\G b=none/\∀(i:Nat) x od,M[i]?=some x->x.od=some od -> Z[i]?≠some (some (.ref b))
 len:M.length = Z.length
 val:∀(i:Nat) d,M[i]?=some (.val d)->∃v,Z[i]?=some (some v)/\Ap K G v d
 own:∀(i:Nat) x od,M[i]?=some x->x.od=some od->∃a o,Z[i]?=some (some (.ref a))/\H a=some o/\OwnRep K G o od/\G a=none/\SlotAt g x a
 dis:∀(i j:Nat) x y od od' a,M[i]?=some x->x.od=some od -> M[j]?=some y->y.od=some od' -> Z[i]?=some (some (.ref a)) -> Z[j]?=some (some (.ref a))->i=j
section
variable {K:W.Frag}{g:Gm}{G H G' H':Hp}{Z:St}{M:AI}
theorem Ok.live (k:Ok K g G H Z M):Same G H:=λb o e=>(k.frz b o e).1
theorem Ok.there (k:Ok K g G H Z M) (h:H b=none):g.Hz b=none:=by
 cases e:g.Hz b with
 |none=>rfl
 |some o=>
  by_cases hb:g.B b
  ·exact absurd h<|k.lent b hb
  ·have:=k.same b o hb e
   rw[h]at this;cases this
theorem Ok.grow (k:Ok K g G H Z M) (sg:Same G G') (sh:Same H H') (hg:∀b o,G' b=some o->H' b=some o/\(G b=some o\/H b=none)):Ok K g G' H' Z M where
 same:=λb o B e=>sh b o<|k.same b o B e
 lent:=λb B z=>by
  cases e:H b with
  |none=>exact k.lent b B e
  |some o=>rw[sh b o e]at z;cases z
 sub:=k.sub.trans sg
 frz:=λb o e=>by
  obtain⟨h,c⟩:=hg b o e;refine(h,?_);rcases c with z|z
  ·exact(k.frz b o z).2
  ·exact .inl<|k.there z
 ext:=λb o e=>by
  obtain⟨h,c,f⟩:=k.ext b o e;refine(sh b o h,?_,f);cases q:G' b with
  |none=>rfl
  |some o'=>
   rcases(hg b o' q).2 with z|z
   ·rw[c]at z;cases z
   ·rw[h]at z;cases z
 len:=k.len
 val:=λi d e=>by
  obtain⟨v,h,c⟩:=k.val i d e;exact(v,h,c.mono sg)
 own:=λi x D E j=>by
  obtain⟨a,o,h,c,f,l,m⟩:=k.own i x D E j;refine(a,o,h,sh a o c,f.mono sg,?_,m);cases q:G' a with
  |none=>rfl
  |some o'=>
   rcases(hg a o' q).2 with z|z
   ·rw[l]at z;cases z
   ·rw[c]at z;cases z
 dis:=k.dis
theorem Ok.laid (k:Ok K g G H Z M) (j:H p=none) (o:HO):Ok K g (upd G p o) (upd H p o) Z M /\ Same G (upd G p o):=by
 have h:G p=none:=by
  cases e:G p with
  |none=>rfl
  |some u=>rw[k.live p u e]at j;cases j
 have s:Same G (upd G p o):=λb u e=>by rw[As (CN e h)];exact e
 refine(k.grow s (λb u e=>by rw[As (CN e j)];exact e) λb u e=>?_,s);by_cases hb:b=p
 ·subst hb;rw[Bh]at e ⊢;exact(e,.inr j)
 ·rw[As hb]at e ⊢;exact(k.live b u e,.inl e)
theorem Ok.lt (k:Ok K g G H Z M) (h:M[i]?=some x):i < Z.length:=by
 rw[<- k.len];exact(BZ.mp h).1
def Pend (K:W.Frag) (g:Gm) (G H:Hp) (Z:St) (M:AI) (a:Addr) (od:OD):Prop:=
 ∃o,H a=some o/\OwnRep K G o od/\G a=none/\g.Hz a=none/\g.Xo a=none/\∀(i:Nat) x od',M[i]?=some x->x.od=some od' -> Z[i]?≠some (some (.ref a))
theorem Ok.setVal (k:Ok K g G H Z M) (hi:i < M.length) (r:Ap K G v d):Ok K g G H (Z.set i<|some v) (M.set i (.val d)):=by
 have S:i < Z.length:=by rw[<- k.len];exact hi
 have L:∀(j:Nat) x D,(M.set i (.val d))[j]?=some x->x.od=some D->j≠i /\ M[j]?=some x/\(Z.set i<|some v)[j]? = Z[j]?:=λj x D E c=>by
  by_cases hj:j=i
  ·subst hj
   rw[B5 hi]at E;cases E;cases c
  ·rw[B9 (Ne.symm hj)]at E
   exact(hj,E,B9<|Ne.symm hj)
 refine(k.same,k.lent,k.sub,k.frz,λb o e=>?_,by simp[k.len],λj e h=>?_,λj x D E c=>?_,λj l x y D O a E c p f m n=>?_)
 ·obtain⟨s,t,u⟩:=k.ext b o e
  refine(s,t,λj x D E c=>?_);obtain⟨_,q,Q⟩:=L j x D E c;rw[Q];exact u j x D q c
 ·by_cases hj:j=i
  ·subst hj
   rw[B5 hi]at h;cases h;exact(v,B5 S,r)
  ·rw[B9 (Ne.symm hj)]at h ⊢
   exact k.val j e h
 ·obtain⟨_,q,Q⟩:=L j x D E c
  rw[Q];exact k.own j x D q c
 ·obtain⟨_,q,Q⟩:=L j x D E c
  obtain⟨_,w,z⟩:=L l y O p f;rw[Q]at m;rw[z]at n;exact k.dis j l x y D O a q c w f m n
theorem Ok.setOwn (k:Ok K g G H Z M) (hi:i < M.length) (p:Pend K g G H Z M a od):Ok K g G H (Z.set i<|some (.ref a)) (M.set i (.own od)):=by
 obtain⟨o,I,L,N,R,S,P⟩:=p;have s:i < Z.length:=by rw[<- k.len];exact hi
 have d:∀(j:Nat) x,j≠i->(M.set i (.own od))[j]?=some x -> M[j]?=some x/\(Z.set i<|some (.ref a))[j]? = Z[j]?:=λj x J E=>by
  rw[B9 (Ne.symm J)]at E;exact(E,B9<|Ne.symm J)
 refine(k.same,k.lent,k.sub,k.frz,λb F e=>?_,by simp[k.len],λj e h=>?_,λj x D E f=>?_,λj l x y O r c E f v w n m=>?_)
 ·obtain⟨A,B,C⟩:=k.ext b F e
  refine(A,B,λj x D E f=>?_);by_cases J:j=i
  ·subst J
   rw[B5 s];intro z;cases z;rw[S]at e;cases e
  ·obtain⟨q,Q⟩:=d j x J E
   rw[Q];exact C j x D q f
 ·by_cases J:j=i
  ·subst J
   rw[B5 hi]at h;cases h
  ·rw[B9 (Ne.symm J)]at h ⊢
   exact k.val j e h
 ·by_cases J:j=i
  ·subst J
   rw[B5 hi]at E;cases E;cases f;exact(a,o,B5 s,I,L,N,R)
  ·obtain⟨q,Q⟩:=d j x J E
   rw[Q];exact k.own j x D q f
 ·by_cases J:j=i
  ·by_cases hl:l=i
   ·rw[J,hl]
   ·obtain⟨t,u⟩:=d l y hl v
    rw[u]at m;rw[J,B5 s]at n;cases n;exact absurd m<|P l y r t w
  ·obtain⟨q,Q⟩:=d j x J E
   rw[Q]at n;by_cases hl:l=i
   ·rw[hl,B5 s]at m
    cases m;exact absurd n<|P j x O q f
   ·obtain⟨t,u⟩:=d l y hl v
    rw[u]at m;exact k.dis j l x y O r c q f t w n m
def Slot.put:Slot->OD->Slot
 |.own _,o=>.own o
 |.bor _,o=>.bor o
 |.ownA a _,o=>.ownA a o
 |x,_=>x
theorem SlotAt.put (h:SlotAt g x a):SlotAt g (x.put o) a:=by cases x <;> exact h
theorem SlotAt.free (h:SlotAt g x a) (ho:x.od=some od):g.Hz a=none\/g.B a:=by
 cases x with
 |any=>cases ho
 |val d=>cases ho
 |own o=>exact .inl h
 |bor o=>exact .inr h
 |ownA b o=>exact .inl h.2
theorem Slot.put_od {x:Slot}{od o:OD}(h:x.od=some od):(x.put o).od=some o:=by cases x <;> cases h <;> rfl
theorem Ok.write (k:Ok K g G H Z M) (hx:M[i]?=some x) (a2:x.od=some od) (ha:Z[i]?=some (some (.ref a))) (r:OwnRep K G o' od'):Ok K g G (upd H a o') Z (M.set i<|x.put od'):=by
 obtain⟨a',o,Q,q2,q3,F,L⟩:=k.own i x od hx a2;rw[ha]at Q;cases Q;have I:i < M.length:=(BZ.mp hx).1;have t:∀(j:Nat) y d,(M.set i<|x.put od')[j]?=some y->y.od=some d->j≠i -> M[j]?=some y:=λj y d f E J=>by
  rw[B9 (Ne.symm J)]at f;exact f
 have O:∀(j:Nat) y d,(M.set i<|x.put od')[j]?=some y->y.od=some d->∃Y D,M[j]?=some Y /\ Y.od=some D:=λj y d f E=>by
  by_cases J:j=i
  ·subst J;exact(x,od,hx,a2)
  ·exact(y,d,t j y d f E J,E)
 refine(λb u B e=>?_,λb B=>?_,k.sub,λb u e=>?_,λb u e=>?_,by simp[k.len],λj e h=>?_,λj y d f E=>?_,λj l y z n d c f E N P R S=>?_)
 ·have A:b≠a:=by
   intro z;subst z;rcases L.free a2 with z|z
   ·rw[z]at e;cases e
   ·exact B z
  rw[As A];exact k.same b u B e
 ·by_cases A:b=a
  ·subst A;rw[Bh];intro z;cases z
  ·rw[As A];exact k.lent b B
 ·have A:b≠a:=by intro z;subst z;rw[F]at e;cases e
  rw[As A];exact k.frz b u e
 ·obtain⟨T,U,w⟩:=k.ext b u e
  have A:b≠a:=by intro z;subst z;exact w i x od hx a2 ha
  rw[As A];refine(T,U,λj y d f E=>?_);obtain⟨Y,D,s,v⟩:=O j y d f E;exact w j Y D s v
 ·by_cases J:j=i
  ·subst J
   rw[B5 I]at h;cases x <;> cases a2 <;> cases h
  ·rw[B9 (Ne.symm J)]at h
   exact k.val j e h
 ·by_cases J:j=i
  ·subst J
   rw[B5 I]at f;cases f;rw[Slot.put_od a2]at E;cases E;exact(a,o',ha,Bh,r,F,L.put)
  ·have m:=t j y d f E J
   obtain⟨c,V,W,X,w3,w4,w5⟩:=k.own j y d m E;have C:c≠a:=by
    intro z;subst z;exact J<|k.dis j i y x d od c m E hx a2 W ha
   exact(c,V,W,by rw[As C];exact X,w3,w4,w5)
 ·obtain⟨Y,D,s,v⟩:=O j y n f E
  obtain⟨q,p,z3,z4⟩:=O l z d N P;exact k.dis j l Y q D p c s v z3 z4 R S
theorem Ok.freeze (k:Ok K g G H Z M) (p:Pend K g G H Z M a (.lst ds)) (J:H a=some (.lst vs)):Ok K g (upd G a (.lst vs)) H Z M /\ Same G (upd G a (.lst vs))/\Ap K (upd G a (.lst vs)) (.ref a) (.lst ds):=by
 obtain⟨o,m,P,q,r,t,y⟩:=p;rw[J]at m;cases m;have P:Reps K G vs ds:=P;have s:Same G (upd G a (.lst vs)):=λb u e=>by rw[As (CN e q)];exact e
 refine((k.same,k.lent,k.sub.trans s,λb u e=>?_,λb u e=>?_,k.len,λj d h=>?_,λj x D E l=>?_,k.dis),s,.lst Bh<|P.mono s)
 ·by_cases B:b=a
  ·subst B;rw[Bh]at e;cases e;exact(J,.inl r)
  ·rw[As B]at e;exact k.frz b u e
 ·obtain⟨f,i,n⟩:=k.ext b u e
  have B:b≠a:=by intro z;subst z;rw[t]at e;cases e
  exact(f,by rw[As B];exact i,n)
 ·obtain⟨v,f,i⟩:=k.val j d h
  exact(v,f,i.mono s)
 ·obtain⟨c,o,w,W,A,F,I⟩:=k.own j x D E l
  have C:c≠a:=by intro z;subst z;exact y j x D E l w
  exact(c,o,w,W,A.mono s,by rw[As C];exact F,I)
theorem Ok.drop (k:Ok K g G H Z M) (i:Nat):Ok K g G H Z (M.set i .any):=by
 have L:∀(j:Nat) x,(M.set i .any)[j]?=some x->x=.any\/(M[j]?=some x/\j≠i):=λj x E=>by
  by_cases hj:j=i
  ·subst hj
   rw[GF]at E;simp at E;exact .inl E.2.symm
  ·rw[B9 (Ne.symm hj)]at E
   exact .inr (E,hj)
 have O:∀(j:Nat) x d,(M.set i .any)[j]?=some x->x.od=some d -> M[j]?=some x:=λj x d E c=>by
  rcases L j x E with z|z
  ·subst z;cases c
  ·exact z.1
 refine(k.same,k.lent,k.sub,k.frz,λb o e=>?_,by simp[k.len],λj e h=>?_,λj x d E c=>k.own j x d (O j x d E c) c,λj l x y d D a E c m f=>k.dis j l x y d D a (O j x d E c) c (O l y D m f) f)
 ·obtain⟨n,p,q⟩:=k.ext b o e
  exact(n,p,λj x d E c=>q j x d (O j x d E c) c)
 ·rcases L j _ h with z|z
  ·cases z
  ·exact k.val j e z.1
theorem Ok.take (k:Ok K g G H Z M) (h:M[i]?=some (.own od)):∃a,Z[i]?=some (some (.ref a))/\Pend K g G H Z (M.set i .any) a od:=by
 obtain⟨a,o,b,l,m,n,c⟩:=k.own i _ od h rfl;have c:g.Hz a=none:=c;refine(a,b,o,l,m,n,c,?_,λj x d e E f=>?_)
 ·cases q:g.Xo a with
  |none=>rfl
  |some u=>exact absurd b ((k.ext a u q).2.2 i _ od h rfl)
 ·by_cases hj:j=i
  ·subst hj
   rw[GF]at e;simp at e;obtain⟨_,e⟩:=e;subst e;cases E
  ·rw[B9 (Ne.symm hj)]at e
   exact hj<|k.dis j i x _ d od a e E h rfl f b
end
def Cont (K:W.Frag) (g:Gm) (G:Hp) (Z:St) (P:D->AI->Prop) (Q:VK):Prop:=
 ∀v d G' H' M',Ok K g G' H' Z M' -> Same G G' -> Ap K G' v d->P d M' -> Q v H'
def JE (K:W.Frag) (t:TE) (M:AI) (P:D->AI->Prop):Prop:=
 ∀g G H Z Q,Ok K g G H Z M -> Cont K g G Z P Q->t Z H Q
def JT (K:W.Frag) (t:TT) (M:AI) (P:Bool->AI->Prop):Prop:=
 ∀g G H Z Q,Ok K g G H Z M -> (∀b G' H' M',Ok K g G' H' Z M' -> Same G G' -> P b M' -> Q b H')->t Z H Q
def JA (K:W.Frag) (t:TA) (M:AI) (P:List D->AI->Prop):Prop:=
 ∀g G H Z Q,Ok K g G H Z M -> (∀vs ds G' H' M',Ok K g G' H' Z M' -> Same G G' -> Reps K G' vs ds->P ds M' -> Q vs H')->t Z H Q
def JO (K:W.Frag) (t:TE) (M:AI) (P:OD->AI->Prop):Prop:=
 ∀g G H Z Q,Ok K g G H Z M -> (∀a od G' H' M',Ok K g G' H' Z M' -> Same G G' -> Pend K g G' H' Z M' a od->P od M' -> Q (.ref a) H')->t Z H Q
def JR2 (K:W.Frag) (r:R2) (d e:D) (M:AI) (P:D->AI->Prop):Prop:=
 ∀g G H Z Q x y,Ok K g G H Z M -> Ap K G x d->Ap K G y e->Cont K g G Z P Q->r x y H Q
def JR1 (K:W.Frag) (r:V->Hp->VK->Prop) (d:D) (M:AI) (P:D->AI->Prop):Prop:=
 ∀g G H Z Q x,Ok K g G H Z M -> Ap K G x d->Cont K g G Z P Q->r x H Q
def JC (K:W.Frag) (r:List V->Hp->VK->Prop) (ds:List D) (M:AI) (P:D->AI->Prop):Prop:=
 ∀g G H Z Q vs,Ok K g G H Z M -> Reps K G vs ds->Cont K g G Z P Q->r vs H Q
structure EL where
 nx:AI->Prop
 rt:D->AI->Prop
 bk:AI->Prop:=λ_=>False
 ct:AI->Prop:=λ_=>False
 ro:OD->AI->Prop:=λ_ _=>False
structure SCont (K:W.Frag) (g:Gm) (P:EL) (E:Ends):Prop where
 nx:∀Z G H M,Ok K g G H Z M -> P.nx M -> E.nx Z H
 rt:∀v d Z G H M,Ok K g G H Z M -> Ap K G v d->P.rt d M -> E.rt v H
 bk:∀Z G H M,Ok K g G H Z M -> P.bk M -> E.bk Z H
 ct:∀Z G H M,Ok K g G H Z M -> P.ct M -> E.ct Z H
 ro:∀a od Z G H M,Ok K g G H Z M -> Pend K g G H Z M a od->P.ro od M -> E.rt (.ref a) H
def JS (K:W.Frag) (t:TS) (M:AI) (P:EL):Prop:=
 ∀g G H Z E,Ok K g G H Z M -> SCont K g P E->t E Z H
def JG (K:W.Frag) (t:TG) (d:D) (M:AI) (P:AI->Prop):Prop:=
 ∀g G H Z v (R:St->Hp->Prop),Ok K g G H Z M -> Ap K G v d->(∀Z' G' H' M',Ok K g G' H' Z' M' -> Same G G' -> P M' -> R Z' H')->t v Z H R
def JGs (K:W.Frag) (t:TGs) (ds:List D) (M:AI) (P:AI->Prop):Prop:=
 ∀g G H Z vs (R:St->Hp->Prop),Ok K g G H Z M -> Reps K G vs ds->(∀Z' G' H' M',Ok K g G' H' Z' M' -> Same G G' -> P M' -> R Z' H')->t vs Z H R
#check 1
theorem Cont.up (c:Cont K g G Z P Q) (s:Same G G1):Cont K g G1 Z P Q:=
 λv d a H M k S r p=>c v d a H M k (s.trans S) r p
theorem JE.mono (h:JE K t M P) (j:∀d M,P d M -> P' d M):JE K t M P':=
 λg G H Z Q k c=>h g G H Z Q k λv d a b m e s r p=>c v d a b m e s r<|j d m p
theorem JS.mono (h:JS K t M P) (L:∀M,P.nx M -> P'.nx M) (O:∀d M,P.rt d M -> P'.rt d M) (j:∀M,P.bk M -> P'.bk M) (J:∀M,P.ct M -> P'.ct M) (ho:∀od M,P.ro od M -> P'.ro od M):JS K t M P':=
 λg G H Z E k c=>h g G H Z E k (λz b e m f p=>c.nx z b e m f<|L _ p,λv d z b e m f r p=>c.rt v d z b e m f r<|O _ _ p,λz b e m f p=>c.bk z b e m f<|j _ p,λz b e m f p=>c.ct z b e m f<|J _ p,λa od z b e m f r p=>c.ro a od z b e m f r<|ho _ _ p)
theorem AA (h:M[i]?=some (.val d)) (p:P d M):JE K (tVar i) M P:=λg G H Z Q k c=>by
 obtain⟨v,a,b⟩:=k.val i d h;exact(v,a,c v d G H M k (Same.refl _) b p)
theorem Gi (h:M[i]?=some (.own (.lst ds))) (p:P (.lst ds) (M.set i (.val (.lst ds)))):JE K (tVar i) M P:=λg G H Z Q k c=>by
 obtain⟨a,b,D⟩:=k.take h;obtain⟨o,q,l,_⟩:=id D;cases o with
 |lst vs=>
  obtain⟨f,s,r⟩:=(k.drop i).freeze D q;have d:=f.setVal (i:=i) (by simpa using (BZ.mp h).1) r;have e:Z.set i (some (.ref a)) = Z:=by
   apply Dz;intro j;by_cases hj:j=i
   ·subst hj;rw[B5 (k.lt h),b]
   ·rw[B9 (Ne.symm hj)]
  rw[e,List.set_set]at d;exact(.ref a,b,c _ _ _ H _ d s r p)
 |_=>exact absurd l (λz=>z)
theorem AY (p:P (.int i) M):JE K (tC (.int i)) M P:=λg G H Z Q k c=>c _ _ G H M k (Same.refl _) (.int i) p
theorem Jk (p:P (.bl b) M):JE K (tC (.bl b)) M P:=λg G H Z Q k c=>c _ _ G H M k (Same.refl _) (.bl b) p
theorem Ji (p:P .non M):JE K (tC .non) M P:=λg G H Z Q k c=>c _ _ G H M k (Same.refl _) .non p
theorem SJ (p:P (.str x) M):JE K (tC (.str x)) M P:=λg G H Z Q k c=>c _ _ G H M k (Same.refl _) (.str x) p
theorem Ct (p:P (.ty x) M):JE K (tC (.ty x)) M P:=λg G H Z Q k c=>c _ _ G H M k (Same.refl _) (.ty x) p
theorem AN (h:JE K ta M λd M1=>JE K tb M1 λe M2=>JR2 K r d e M2 P):JE K (tOp r ta tb) M P:=λg G H Z Q k c=>
 h g G H Z _ k λx d a f M1 j S R p=>p g a f Z _ j λy e b i M2 l s n m=>m g b i Z Q x y l (R.mono s) n<|c.up<|S.trans s
theorem UG (h:JE K ta M λd M1=>JR1 K r d M1 P):JE K (tUn r ta) M P:=λg G H Z Q k c=>
 h g G H Z _ k λx d a b M1 e s R p=>p g a b Z Q x e R<|c.up s
theorem AK (p:P [] M):JA K tNil M P:=λg G H Z Q k c=>c [] [] G H M k (Same.refl _) .nil p
theorem AD (h:JE K ta M λd M1=>JA K tr M1 λds M2=>P (d::ds) M2):JA K (tCons ta tr) M P:=λg G H Z Q k c=>
 h g G H Z _ k λx d a e M1 i S r p=>p g a e Z _ i λv ds b f M2 j s R l=>c _ _ b f M2 j (S.trans s) (.cons (r.mono s) R) l
theorem Ag (h:JA K ta M λds M1=>JC K r ds M1 P):JE K (tCB r ta) M P:=λg G H Z Q k c=>
 h g G H Z _ k λv ds a b M1 d s R p=>p g a b Z Q v d R<|c.up s
theorem CL (h:JA K ta M λds M1=>ds.length<=sizeLine/\P (.tup ds) M1):JE K (tTup ta) M P:=λg G H Z Q k c=>
 h g G H Z _ k λvs ds G1 H1 M1 k1 s1 r1 (z,p1)=>(by rw[r1.length];exact z,λp a=>by
  obtain⟨b,s⟩:=k1.laid a (.tup vs);exact c _ _ _ _ M1 b (s1.trans s) (.tup Bh (r1.mono s)) p1)
theorem LW (h:JA K ta M λds M1=>ds.length<=sizeLine/\P (.lst ds) M1):JE K (tLst ta) M P:=λg G H Z Q k c=>
 h g G H Z _ k λvs ds G1 H1 M1 k1 s1 r1 (z,p1)=>(by rw[r1.length];exact z,λp a=>by
  obtain⟨b,s⟩:=k1.laid a (.lst vs);exact c _ _ _ _ M1 b (s1.trans s) (.lst Bh (r1.mono s)) p1)
theorem Ok.fresh (k:Ok K g G H Z M) (J:H p=none) (r:OwnRep K G o od):Ok K g G (upd H p o) Z M /\ Pend K g G (upd H p o) Z M p od:=by
 have h:G p=none:=by
  cases e:G p with
  |none=>rfl
  |some u=>rw[k.live p u e]at J;cases J
 refine(k.grow (Same.refl _) (λb u e=>by rw[As (CN e J)];exact e) λb u e=>(?_,.inl e),o,Bh,r,h,k.there J,?_,λj x d E c f=>?_)
 ·have B:b≠p:=by intro z;subst z;rw[h]at e;cases e
  rw[As B];exact k.live b u e
 ·cases q:g.Xo p with
  |none=>rfl
  |some u=>have z:=(k.ext p u q).1;rw[J]at z;cases z
 ·obtain⟨a,O,w,W,_⟩:=k.own j x d E c
  rw[f]at w;cases w;rw[J]at W;cases W
theorem Ed (h:JA K ta M λds M1=>ds.length<=sizeLine/\P (.lst ds) M1):JO K (tLst ta) M P:=λg G H Z Q k c=>
 h g G H Z _ k λvs ds G1 H1 M1 k1 s1 r1 (z,p1)=>(by rw[r1.length];exact z,λp a=>by
  obtain⟨b,d⟩:=k1.fresh (od:=.lst ds) a (show OwnRep K G1 (.lst vs) (.lst ds) from r1);exact c p _ G1 _ M1 b s1 d p1)
theorem CZ (h:JO K t M λod M1=>∃ds,od=.lst ds/\P (.lst ds) M1):JE K t M P:=λg G H Z Q k c=>
 h g G H Z Q k λa od m b M1 f s d q=>by
  obtain⟨ds,e,p⟩:=q;subst e;obtain⟨o,j,l,_⟩:=id d;cases o with
  |lst vs=>
   obtain⟨i,S,r⟩:=f.freeze d j;exact c _ _ _ b M1 i (s.trans S) r p
  |_=>exact absurd l (λz=>z)
theorem QL (h:JT K c M λb M1=>if b=true then JE K ta M1 P else JE K tb M1 P):JE K (tIf c ta tb) M P:=λg G H Z Q k q=>
 h g G H Z _ k λb a d M1 e s p=>by
  cases b with
  |true=>exact(show JE K ta M1 P from p) g a d Z Q e (q.up s)
  |false=>exact(show JE K tb M1 P from p) g a d Z Q e (q.up s)
theorem Be (h:JE K t M λd M1=>∃b,d=.bl b/\P b M1):JT K (tTest t) M P:=λg G H Z Q k c=>
 h g G H Z _ k λv d a f M1 i s r q=>by obtain⟨b,e,p⟩:=q;subst e;cases r.inv;exact(b,rfl,c b a f M1 i s p)
theorem FD (h:JT K a M λx M1=>if x=true then JT K b M1 P else P false M1):JT K (tAnd a b) M P:=λg G H Z Q k c=>
 h g G H Z _ k λx d e M1 f s p=>by
  cases x with
  |true=>exact(show JT K b M1 P from p) g d e Z _ f λy i j m l S n=>c y i j m l (s.trans S) n
  |false=>exact c false d e M1 f s p
theorem EK (h:JT K a M λx M1=>if x=true then P true M1 else JT K b M1 P):JT K (tOr a b) M P:=λg G H Z Q k c=>
 h g G H Z _ k λx d e M1 f s p=>by
  cases x with
  |true=>exact c true d e M1 f s p
  |false=>exact(show JT K b M1 P from p) g d e Z _ f λy i j m l S n=>c y i j m l (s.trans S) n
theorem Cg (h:JT K a M λx M1=>P (!x) M1):JT K (tNot a) M P:=λg G H Z Q k c=>
 h g G H Z _ k λx b d M1 e s p=>c (!x) b d M1 e s p
theorem Df (p:P true M):JT K tTrue M P:=λg G H Z Q k c=>c true G H M k (Same.refl _) p
theorem Zy7 (p:P.nx M):JS K tNext M P:=λg G H Z E k c=>c.nx Z G H M k p
theorem R9 (h:JS K t M { P with nx:=λM1=>JS K u M1 P }):JS K (tSeq t u) M P:=λg G H Z E k c=>
 h g G H Z _ k (λz a b M1 d p=>p g a b z E d c,c.rt,c.bk,c.ct,c.ro)
theorem T2 (h:JE K te M P.rt):JS K (tRet te) M P:=λg G H Z E k c=>
 h g G H Z _ k λv d a b m e s r p=>c.rt v d Z a b m e r p
theorem Zwx (h:JO K te M P.ro):JS K (tRet te) M P:=λg G H Z E k c=>
 h g G H Z _ k λa o b d m e s D p=>c.ro a o Z b d m e D p
theorem Sl (h:M[i]?=some (.own od)) (p:P od (M.set i .any)):JO K (tVar i) M P:=λg G H Z Q k c=>by
 obtain⟨a,b,d⟩:=k.take h;exact(.ref a,b,c a od G H _ (k.drop i) (Same.refl _) d p)
theorem UE (h:JT K c M λb M1=>if b=true then JS K t M1 P else JS K u M1 P):JS K (tIfS c t u) M P:=λg G H Z E k q=>
 h g G H Z _ k λb a d M1 e s p=>by
  cases b with
  |true=>exact(show JS K t M1 P from p) g a d Z E e q
  |false=>exact(show JS K u M1 P from p) g a d Z E e q
theorem Zz3 (h:JE K te M λd M1=>JG K t d M1 P.nx):JS K (tAsg te t) M P:=λg G H Z E k c=>
 h g G H Z _ k λv d a e M1 i s r p=>p g a e Z v _ i r λz b f m j S l=>c.nx z b f m j l
theorem Ec (p:P M):JGs K gNil [] M P:=λg G H Z s R k r c=>by cases r;exact(rfl,c Z G H M k (Same.refl _) p)
theorem CU (h:JG K t d M λM1=>JGs K u ds M1 P):JGs K (gCons t u) (d::ds) M P:=λg G H Z v R k r c=>by
 obtain⟨_,_,rfl,o,q⟩:=r.inv
 next=>exact(_,_,rfl,h g G H Z _ _ k o λz a e M1 j s p=>p g a e z _ R j (q.mono s) λi b f m l S n=>c i b f m l (s.trans S) n)
theorem Eg (L:ds.length=n) (h:JGs K t ds M P):JG K (gTup K n t) (.tup ds) M P:=λg G H Z v R k r c=>by
 obtain⟨_,_,rfl,a,s⟩:=r.inv
 next=>exact(_,_,rfl,SqT.of<|k.live _ _ a,by rw[s.length];exact L,h g G H Z _ R k s c)
def ItOk (K:W.Frag) (G:Hp) (J:It) (ds:List D):Prop:=
 ∀G1 H1,Same G G1->Same G1 H1->J.stop ds.length H1/\∀(i:Nat) d,ds[i]?=some d->J.go i H1/\∀x H2,J.yld i H1 x H2->∃G2,Same G1 G2/\Same H1 H2/\(∀b o,G2 b=some o->H2 b=some o/\(G1 b=some o\/H1 b=none))/\Ap K G2 x d
def JI (K:W.Frag) (j:TI) (M:AI) (P:List D->AI->Prop):Prop:=
 ∀g G H Z (R:It->Hp->Prop),Ok K g G H Z M -> (∀J ds G' H' M',Ok K g G' H' Z M' -> Same G G' -> ItOk K G' J ds->P ds M' -> R J H')->j Z H R
theorem TL (h:JE K tl M λd M1=>∃ds,d=.tup ds/\P ds M1):JI K (iTup K tl) M P:=λg G H Z R k c=>
 h g G H Z _ k λv d l n M1 j w t Q=>by
  obtain⟨ds,e,p⟩:=Q;subst e;obtain⟨a,V,rfl,A,r⟩:=t.inv
  next=>
   refine(a,rfl,(V,SqT.of<|j.live _ _ A),c _ ds l n M1 j w (λm y s S=>((V,SqT.of<|S _ _<|s _ _ A,by rw[r.length];exact AX _),λi d e=>?_)) p);obtain⟨v,f,u⟩:=r.get e;refine((V,v,SqT.of<|S _ _<|s _ _ A,f),λx H3 (e3,y3)=>(m,Same.refl _,by rw[e3];exact Same.refl _,λb o q=>(by rw[e3];exact S b o q,.inl q),?_));have:=y3 V<|SqT.of<|S _ _<|s _ _ A;rw[f]at this;cases this;exact u.mono s
theorem Zyn (h:JE K tl M λd M1=>∃ds,(d=.lst ds\/d=.scr ds)/\P ds M1):JI K (iList K tl) M P:=λg G H Z R k c=>
 h g G H Z _ k λv d l t M1 m y n Q=>by
  obtain⟨ds,e,u⟩:=Q;obtain⟨a,s,A,S,r⟩:∃a s,v=.ref a/\SqL K l a s/\Reps K l s ds:=by
   rcases e with e|e
   ·subst e;cases n with|lst ha r=>exact(_,_,rfl,SqL.of ha,r)
   ·subst e;cases n with|scr ha r=>exact(_,_,rfl,ha,r)
  subst A;refine(a,rfl,(s,m.live.seq S),c _ ds l t M1 m y (λp z f j=>((s,j.seq<|f.seq S,by rw[r.length];exact AX _),λi d e=>?_)) u);obtain⟨v,V,w⟩:=r.get e;refine((s,v,j.seq<|f.seq S,V),λx H3 (e3,y3)=>(p,Same.refl _,by rw[e3];exact Same.refl _,λb o q=>(by rw[e3];exact j b o q,.inl q),?_));have:=y3 s<|j.seq<|f.seq S;rw[V]at this;cases this;exact w.mono f
def rngD (lo:Int) (n:Nat):List D:=(Af n).map λi:Nat=>D.int<|lo+(i:Int)
theorem Ca (lo:Int) (n:Nat):(rngD lo n).length=n:=by simp[rngD]
theorem DF {lo:Int}(h:(rngD lo n)[i]?=some d):i<n/\d=.int (lo+(i:Int)):=by
 unfold rngD at h;rw[Ad]at h;cases e:(Af n)[i]? with
 |none=>rw[e]at h;cases h
 |some j=>
  rw[e]at h;obtain⟨a,H⟩:=BZ.mp e;rw[Er]at H;subst H;exact(#[10],(CF.inj h).symm)
theorem QR (lo:Int) (n:Nat):ItOk K G (H0 lo n) (rngD lo n):=λg a S s=>by
 refine(by show n<=(rngD lo n).length;rw[Ca];exact AX _,λi d e=>?_);obtain⟨h,H⟩:=DF e;subst H;refine(h,λx H2 (e2,y2)=>(g,Same.refl _,by rw[e2];exact Same.refl _,λb o q=>(by rw[e2];exact s b o q,.inl q),?_));subst y2;exact .int _
theorem Dd (h:JA K ta M λds M1=>∃n:Int,ds=[.int n] /\ -(2 ^ 62)<=n/\n<2 ^ 62/\P (rngD 0 n.toNat) M1):JI K (iRng1 ta) M P:=λg G H Z R k c=>
 h g G H Z _ k λv ds a b M1 i s r q=>by
  obtain⟨n,e,d,f,p⟩:=q;subst e;obtain⟨_,_,rfl,A,j⟩:=r.inv
  next=>
   cases j.inv;cases A.inv;exact(n,rfl,d,f,c _ _ a b M1 i s (QR 0 _) p)
theorem WO (h:JA K ta M λds M1=>∃m n:Int,ds=[.int m,.int n]/\(-(2 ^ 62)<=m/\m<2 ^ 62 /\ -(2 ^ 62)<=n/\n<2 ^ 62)/\P (rngD m (n-m).toNat) M1):JI K (iRng2 ta) M P:=λg G H Z R k c=>
 h g G H Z _ k λv ds a b M1 f s i q=>by
  obtain⟨m,n,e,d,p⟩:=q;subst e;obtain⟨_,_,rfl,A,r⟩:=i.inv
  next=>
   obtain⟨_,_,rfl,B,r⟩:=r.inv
   next=>
    cases r.inv;cases A.inv;cases B.inv;exact(m,n,rfl,d,c _ _ a b M1 f s (QR m _) p)
theorem Zz4 {wi:TI}{t:TG}{tb:TS}{P:EL}(h:JI K wi M λds M1=>∃I:Nat->AI->Prop,I 0 M1/\(∀i d M2,ds[i]?=some d->I i M2->JG K t d M2 λM3=>JS K tb M3 (I<|i+1,P.rt,P.nx,I<|i+1,P.ro))/\∀M2,I ds.length M2->P.nx M2) :
  JS K (tFor wi t tb) M P:=λg G H Z E k c=>
 h g G H Z _ k λJ ds u H1 M1 k1 s1 it Q=>by
  obtain⟨I,h0,ht,he⟩:=Q;refine(λi m Z H=>m=ds.length-i/\i<=ds.length/\∃G M,Ok K g G H Z M /\ Same u G/\I i M,(ds.length,#[4],CS _,u,M1,k1,Same.refl _,h0),?_);rintro i m S L ⟨rfl,hi,B,M2,A,X,U⟩;obtain⟨O,go⟩:=it B L X A.live;by_cases hlt:i<ds.length
  ·obtain⟨g1,g2⟩:=go i _ (AS hlt)
   refine .inr (g1,λR C=>i+1<=ds.length/\∃G M,Ok K g G C R M /\ Same u G/\I (i+1) M,λR C W=>(ds.length-(i+1),#[3],rfl,W.1,W.2),λx N y=>?_);obtain⟨w,T,a2,a3,a4⟩:=g2 x N y;have r:=A.grow T a2 a3;refine ht i _ M2 (AS hlt) U { g with F:=w,Xo:=g.Xo } w N S x _ ?_ a4 λZ4 Y H4 M4 k4 s4 p4=>?_
   ·exact(r.same,r.lent,Same.refl _,λb o q=>((r.frz b o q).1,.inr q),r.ext,r.len,r.val,r.own,r.dis)
   ·have V:∀{j n:Hp}{p:St}{l:AI},Ok K { g with F:=w,Xo:=g.Xo } j n p l->Ok K g j n p l/\Same u j:=λ{j n p l} f=>
     ⟨⟨f.same,f.lent,r.sub.trans f.sub,λb o q=>by
      obtain⟨q1,q2⟩:=f.frz b o q;refine(q1,?_);rcases q2 with z|z
      ·exact .inl z
      ·exact(r.frz b o z).2,f.ext,f.len,f.val,f.own,f.dis⟩,X.trans (T.trans f.sub)⟩
    refine p4 _ Y H4 Z4 _ k4 (λp j n l f s=>?_,λv d p j n l f r5 s=>?_,λp j n l f s=>?_,λp j n l f s=>?_,λa od p j n l f D s=>?_)
    ·exact(hlt,j,l,(V f).1,(V f).2,s)
    ·exact c.rt v d p j n l (V f).1 r5 s
    ·exact c.nx p j n l (V f).1 s
    ·exact(hlt,j,l,(V f).1,(V f).2,s)
    ·exact c.ro a od p j n l (V f).1 D s
  ·have e:i=ds.length:=by lia
   subst e;exact .inl (O,c.nx S B L M2 A<|he M2 U)
theorem Zuf {c:TT}{tb:TS}{P:EL}(I:Nat->AI->Prop) (h0:∃m,I m M) (ht:∀m M1,I m M1->JT K c M1 λb M2=>if b=true then JS K tb M2 (λM3=>∃m',m'<m/\I m' M3,P.rt,P.nx,λM3=>∃m',m'<m/\I m' M3,P.ro) else P.nx M2) :
  JS K (tWhile c tb) M P:=λg G H Z E k q=>by
 obtain⟨m,h0⟩:=h0;refine(λm Z H=>∃G M,Ok K g G H Z M /\ I m M,(m,G,M,k,h0),?_);rintro m a l ⟨j,M1,o,n⟩;refine ht m M1 n g j l a _ o λb d e M2 i s p=>?_;cases b with
 |true=>
  refine(λf h=>∃m',m'<m/\∃G M,Ok K g G h f M /\ I m' M,λf h (m',hm,z)=>(m',hm,z),?_);refine(show JS K tb M2 _ from p) g d e a _ i (λZ5 G5 H5 M5 k5 (m',hm,p5)=>(m',hm,G5,M5,k5,p5),q.rt,q.nx,λZ5 G5 H5 M5 k5 (m',hm,p5)=>(m',hm,G5,M5,k5,p5),q.ro)
 |false=>exact q.nx a d e M2 i p
end
#check 3
theorem jr_I {f:Int->Int->Int}(z:C i j) (p:P (.int<|f i j) M):JR2 K (rI C λi j=>.int<|f i j) (.int i) (.int j) M P:=λg G H Z Q x y k r Y c=>by
 cases r.inv;cases Y.inv;exact(i,j,rfl,rfl,z,c _ _ G H M k (Same.refl _) (.int _) p)
theorem EJ {f:Int->Int->Int}(p:P (.int<|f i j) M):JR2 K (rI0 λi j=>.int<|f i j) (.int i) (.int j) M P:=λg G H Z Q x y k r Y c=>by
 cases r.inv;cases Y.inv;exact(i,j,rfl,rfl,c _ _ G H M k (Same.refl _) (.int _) p)
theorem DU {f:Int->Int->Bool}(p:P (.bl<|f i j) M):JR2 K (rI0 λi j=>.bl<|f i j) (.int i) (.int j) M P:=λg G H Z Q x y k r Y c=>by
 cases r.inv;cases Y.inv;exact(i,j,rfl,rfl,c _ _ G H M k (Same.refl _) (.bl _) p)
theorem DV (p:P (.bl<|decide (i=j)) M):JR2 K rEq (.int i) (.int j) M P:=λg G H Z Q x y k r Y c=>by
 cases r.inv;cases Y.inv;refine(rfl,?_);have e:decide (V.int i=V.int j)=decide (i=j):=by rw[LN];exact(Bool.beq_eq_decide_eq i j)
 rw[e];exact c _ _ G H M k (Same.refl _) (.bl _) p
theorem Jj (p:P (.bl (!decide (i=j))) M):JR2 K rNe (.int i) (.int j) M P:=λg G H Z Q x y k r Y c=>by
 cases r.inv;cases Y.inv;refine(rfl,?_);have e:decide (V.int i=V.int j)=decide (i=j):=by rw[LN];exact(Bool.beq_eq_decide_eq i j)
 rw[e];exact c _ _ G H M k (Same.refl _) (.bl _) p
theorem Tg (h:atI ds i=some d) (p:P d M):JR2 K (rIxT K) (.tup ds) (.int i) M P:=λg G H Z Q x y k r Y c=>by
 obtain⟨_,_,rfl,A,s⟩:=r.inv
 next=>
  cases Y.inv;obtain⟨v,a,b⟩:=NB s h;exact(_,_,i,v,rfl,rfl,SqT.of<|k.live _ _ A,a,c v d G H M k (Same.refl _) b p)
theorem Td (h:atI ds i=some d) (p:P d M):JR2 K (rIxL K) (.lst ds) (.int i) M P:=λg G H Z Q x y k r Y c=>by
 obtain⟨_,_,rfl,A,s⟩:=r.inv
 next=>
  cases Y.inv;obtain⟨v,a,b⟩:=NB s h;exact(_,_,i,v,rfl,rfl,SqL.of<|k.live _ _ A,a,c v d G H M k (Same.refl _) b p)
theorem WS {n:Nat}{te:TE}{L:EL}{x:Slot}{od:OD}(U:M[n]?=some x) (ho:x.od=some od) (J:∃ds,od=.lst ds)
  (h:JE K te M λd M1=>∃y ds,M1[n]?=some y/\y.od=some (.lst ds)/\ds.length<sizeLine/\L.nx (M1.set n<|y.put (.lst<|ds++[d]))) :
  JS K (tDrop<|tBM K "list" rAppend (tVar n)<|tCons te tNil) M L:=λg G H Z E k c=>by
 obtain⟨a,o,b,e,f,j,l⟩:=k.own n x _ U ho;obtain⟨s,J⟩:=J;subst J;cases o with
 |lst vs0=>
  refine(.ref a,b,.inl (rfl,_,SqL.of e),h g G H Z _ k λv d G1 H1 M1 k1 s1 r1 (y,ds,q1,q2,q3,p)=>?_);obtain⟨A,O,W,i,w,m,q⟩:=k1.own n y _ q1 q2;rw[b]at W;cases W;cases O with
  |lst vs=>
   have w:Reps K G1 vs ds:=w;exact(a,vs,v,rfl,rfl,i,by rw[w.length];exact q3,c.nx Z G1 _ _ (k1.write q1 q2 b (show OwnRep K G1 (.lst<|vs++[v]) (.lst<|ds++[d]) from w.append (.cons r1 .nil))) p)
  |_=>exact absurd w (λz=>z)
 |_=>exact absurd f (λz=>z)
theorem Tq {ds es:List D}(j:ds=[.lst es]\/ds=[.tup es]) (p:P (.int es.length) M) :
  JC K (λxs H Q=>∃p ys,xs=[.ref p]/\(SqL K H p ys\/SqT K H p ys)/\Q (.int ys.length) H) ds M P:=λg G H Z Q v k s c=>by
 rcases j with j|j <;> subst j
 ·obtain⟨_,_,rfl,r,t⟩:=s.inv
  next=>
   cases t.inv;obtain⟨_,_,rfl,a,s⟩:=r.inv
   next=>
    refine(_,_,rfl,.inl<|SqL.of<|k.live _ _ a,?_);rw[s.length];exact c _ _ G H M k (Same.refl _) (.int _) p
 ·obtain⟨_,_,rfl,r,t⟩:=s.inv
  next=>
   cases t.inv;obtain⟨_,_,rfl,a,s⟩:=r.inv
   next=>
    refine(_,_,rfl,.inr<|SqT.of<|k.live _ _ a,?_);rw[s.length];exact c _ _ G H M k (Same.refl _) (.int _) p
theorem Zyb {n:Nat}{x:Slot}{ds:List D}(j:M[n]?=some x) (ho:x.od=some (.lst ds)) (p:P (.int ds.length) M) :
  JE K (tCB (λxs H Q=>∃p ys,xs=[.ref p]/\(SqL K H p ys\/SqT K H p ys)/\Q (.int ys.length) H)<|tCons (tVar n) tNil) M P:=λg G H Z Q k c=>by
 obtain⟨a,o,b,d,h,e,f⟩:=k.own n x _ j ho;cases o with
 |lst vs=>
  have h:Reps K G vs ds:=h;refine(.ref a,b,a,vs,rfl,.inl<|SqL.of d,?_);rw[h.length];exact c _ _ G H M k (Same.refl _) (.int _) p
 |_=>exact absurd h (λz=>z)
theorem Tu (p:P (.int (if i<0 then -i else i)) M):JC K (λxs H Q=>∃i,xs=[.int i]/\Q (.int (if i<0 then -i else i)) H) [.int i] M P:=λg G H Z Q v k s c=>by
 obtain⟨_,_,rfl,r,t⟩:=s.inv
 next=>cases t.inv;cases r.inv;exact(i,rfl,c _ _ G H M k (Same.refl _) (.int _) p)
theorem EI {f:Int->Int->Int}(p:P (.int<|f i j) M):JC K (λxs H Q=>∃i j,xs=[.int i,.int j]/\Q (.int<|f i j) H) [.int i,.int j] M P:=λg G H Z Q v k s c=>by
 obtain⟨_,_,rfl,r,t⟩:=s.inv
 next=>
  obtain⟨_,_,rfl,R,t⟩:=t.inv
  next=>cases t.inv;cases r.inv;cases R.inv;exact(i,j,rfl,c _ _ G H M k (Same.refl _) (.int _) p)
theorem Zuq {ds es:List D}(j:ds=[.lst es]\/ds=[.tup es]) (p:P (.tup es) M) :
  JC K (λxs H Q=>∃p ys,xs=[.ref p]/\((SqL K H p ys/\∀l,H l=none->Q (.ref l) (upd H l (.tup ys)))\/(SqT K H p ys/\Q (.ref p) H))) ds M P:=λg G H Z Q v k s c=>by
 rcases j with j|j <;> subst j
 ·obtain⟨_,_,rfl,r,t⟩:=s.inv
  next=>
   cases t.inv;obtain⟨_,_,rfl,a,s⟩:=r.inv
   next=>
    refine(_,_,rfl,.inl (SqL.of<|k.live _ _ a,λl h=>?_));obtain⟨b,S⟩:=k.laid h (.tup _);exact c _ _ _ _ M b S (.tup Bh<|s.mono S) p
 ·obtain⟨_,_,rfl,r,t⟩:=s.inv
  next=>
   cases t.inv;obtain⟨_,_,rfl,a,s⟩:=r.inv
   next=>exact(_,_,rfl,.inr (SqT.of<|k.live _ _ a,c _ _ G H M k (Same.refl _) (.tup a s) p))
def glue (F H H':Hp):Hp:=λb=>match H b with
 |none=>H' b
 |some _=>F b
theorem LB (h:H b=none):glue F H H' b=H' b:=by unfold glue;rw[h]
theorem Hg (h:H b=some o):glue F H H' b=F b:=by unfold glue;rw[h]
theorem NP (l:Same G H):Same G (glue G H H'):=λb o e=>by rw[Hg (l b o e)];exact e
theorem Nf (l:Same G H) (j:∀b o,G b=some o->H b=some o->H' b=some o):∀b o,glue G H H' b=some o->H' b=some o/\(G b=some o\/H b=none):=λb o e=>by
 cases q:H b with
 |none=>rw[LB q]at e;exact(e,.inr rfl)
 |some u=>rw[Hg q]at e;exact(j b o e (l b o e),.inl e)
abbrev DSp:=List D->(D->Prop)->Prop
def spD (K:W.Frag) (f:DSp):Sp:=λs H Q _=>∃F ds Post,Same F H/\Reps K F s ds/\f ds Post/\∀r H' d,Same H H' -> Ap K (glue F H H') r d->Post d->Q r H'
theorem BR (h:JA K ta M λds M1=>f ds λd=>P d M1):JE K (tCall (spD K f) [] E ta) M P:=λg G H Z Q k c=>
 h g G H Z _ k λv ds i j M1 a m R p=>by
  show spD K f (v++[]) j Q E;rw[Bp];refine(i,ds,_,a.live,R,p,λr H' d S l D=>?_);have s:=NP (H':=H') a.live;exact c r d _ H' M1 (a.grow s S (Nf a.live λb o _ e=>S b o e)) (m.trans s) l D
abbrev BSp:=List D->List D->(D->List D->Prop)->Prop
def spB (K:W.Frag) (f:BSp):Sp:=λs H Q _=>∃F a us ws ps ds Post,s=.ref a::ws/\Same F H/\F a=none/\H a=some (.lst us)/\Reps K F us ps/\Reps K F ws ds/\f ps ds Post /\
 ∀r H' us' ps' d,(∀b o,b≠a->H b=some o->H' b=some o)->H' a=some (.lst us')->Reps K (glue F H H') us' ps' -> Ap K (glue F H H') r d->Post d ps' -> Q r H'
theorem Ok.lend (k:Ok K g G H Z M) (L:M[i]?=some x) (ho:x.od=some (.lst ps)) (J:Z[i]?=some (some (.ref a)))
  (O:∀b o,b≠a->H b=some o->H' b=some o) (U:H' a=some (.lst us')) (r:Reps K (glue G H H') us' ps'):Ok K g (glue G H H') H' Z (M.set i<|x.put (.lst ps'))/\Same G (glue G H H'):=by
 obtain⟨A,o,f,j,p,l,q⟩:=k.own i x _ L ho;rw[J]at f;cases f;have s:=NP (H':=H') k.live;have n:Ok K g (glue G H H') (upd H' a o) Z M:=by
  refine k.grow s (λb u e=>?_) λb u e=>?_
  ·by_cases h:b=a
   ·subst h;rw[Bh,<- j];exact e
   ·rw[As h];exact O b u h e
  ·have h:b≠a:=by intro z;subst z;rw[Hg j,l]at e;cases e
   rw[As h];exact Nf k.live (λc w E m=>O c w (λz=>by subst z;rw[l]at E;cases E) m) b u e
 have d:=n.write L ho J (show OwnRep K (glue G H H') (.lst us') (.lst ps') from r);rw[Zw1]at d;have e:upd H' a (.lst us')=H':=by
  funext b
  by_cases h:b=a
  ·subst h;rw[Bh,U]
  ·rw[As h]
 rw[e]at d;exact(d,s)
theorem RY {f:BSp}{ta:TA}{E:XK}{i:Nat}{x:Slot}{od:OD}(J:M[i]?=some x) (ho:x.od=some od) (h:JA K ta M λds M1=>∃y ps,M1[i]?=some y/\y.od=some (.lst ps)/\f ps ds λd ps'=>P d (M1.set i<|y.put (.lst ps'))) :
  JE K (tCall (spB K f) [] E<|tCons (tVar i) ta) M P:=λg G H Z Q k c=>by
 obtain⟨a,o,b,q,t,v,B⟩:=k.own i x _ J ho;refine(.ref a,b,h g G H Z _ k λvs ds G1 H1 M1 k1 s1 r1 (y,ps,q1,q2,p1)=>?_);show spB K f ((.ref a::vs)++[]) H1 Q E;rw[Bp];obtain⟨A,O,w,l,W,m,C⟩:=k1.own i y _ q1 q2;rw[b]at w;cases w;cases O with
 |lst us=>
  refine(G1,a,us,vs,ps,ds,_,rfl,k1.live,m,l,W,r1,p1,λr e u ps' d S n R D p=>?_);obtain⟨j,s⟩:=k1.lend q1 q2 b S n R;exact c r d _ e _ j (s1.trans s) D p
 |_=>exact absurd W (λz=>z)
abbrev NSp:=List D->(List D->Prop)->Prop
def spN (K:W.Frag) (f:NSp):Sp:=λs H Q _=>∃F ds Post,Same F H/\Reps K F s ds/\f ds Post /\
 ∀a H' us ps,Same H H' -> H a=none->H' a=some (.lst us)->Reps K (λb=>if b=a then none else glue F H H' b) us ps->Post ps->Q (.ref a) H'
theorem EG (h:JA K ta M λds M1=>f ds λps=>Po (.lst ps) M1):JO K (tCall (spN K f) [] E ta) M Po:=λg G H Z Q k c=>
 h g G H Z _ k λV ds i m M1 d C R P=>by
  show spN K f (V++[]) m Q E;rw[Bp];refine(i,ds,_,d.live,R,P,λa l U ps S A N y v=>?_);have s:Same i (λb=>if b=a then none else glue i m l b):=λb o e=>by
   have B:b≠a:=by intro z;subst z;rw[d.live _ _ e]at A;cases A
   try dsimp only
   rw[AL B];exact NP d.live b o e
  have t:Ok K g (λb=>if b=a then none else glue i m l b) l Z M1:=d.grow s S λb o e=>by
   try dsimp only at e
   by_cases B:b=a
   ·rw[AM B]at e;cases e
   ·rw[AL B]at e;exact Nf d.live (λb o _ e=>S b o e) b o e
  refine c a _ _ l M1 t (C.trans s) (.lst U,N,(show OwnRep K _ (.lst U) (.lst ps) from y),#[4],d.there A,?_,λj x D n p r=>?_) v
  ·cases q:g.Xo a with
   |none=>rfl
   |some u=>have z:=(d.ext a u q).1;rw[A]at z;cases z
  ·obtain⟨b,O,w,W,_⟩:=d.own j x D n p
   rw[r]at w;cases w;rw[A]at W;cases W
end
def startD (N:List Str) (ds:List D):AI:=ds.map .val++Ak (N.length-ds.length) .any
section
variable {K:W.Frag}
theorem NJ (rs:Reps K G vs ds) (hl:ds.length<=N.length) (J:∀b o,¬ g.B b->g.Hz b=some o->H b=some o) (L:∀b,g.B b->H b≠none) (sub:Same g.F G)
  (Y:∀b o,G b=some o->H b=some o/\(g.Hz b=none\/g.F b=some o)) (U:∀b,g.Xo b=none):Ok K g G H (start N vs) (startD N ds):=by
 have O:∀(i:Nat) x D,(startD N ds)[i]?=some x->x.od=some D->False:=λi x D c E=>by
  have m:=Bd c;rcases Bo.mp m with z|z
  ·obtain⟨d,_,rfl⟩:=A2.mp z;cases E
  ·rw[Fi]at z;rw[z.2]at E;cases E
 refine(J,L,sub,Y,λb o e=>(by rw[U b]at e;cases e),?_,λi d e=>?_,λi x D c E=>(O i x D c E).elim,λi j x y D k a c E=>(O i x D c E).elim)
 ·unfold start startD
  rw[A1,A1,AH,AH,Cc,Cc,rs.length]
 ·unfold startD at e
  unfold start;by_cases hi:i<ds.length
  ·rw[Dp (by simpa using hi),Ad]at e
   cases q:ds[i]? with
   |none=>rw[q]at e;cases e
   |some d'=>
    rw[q]at e;have e:Slot.val d'=Slot.val d:=by simpa using e
    cases e;obtain⟨v,h,f⟩:=rs.get q;refine(v,?_,f);rw[Dp (by rw[AH,rs.length];exact hi),Ad,h];rfl
  ·rw[Ci (by simpa using hi),IF]at e
   split at e <;> cases e
theorem Bu {f:DSp}{t:TS}{N:List Str}{vs:List V}{H:Hp}{Q:VK}{E:XK}(ht:∀ds Post,f ds Post->ds.length<=N.length/\JS K t (startD N ds) (λ_=>Post .non,λd _=>Post d,λ_=>False,λ_=>False,λ_ _=>False)) (h:spD K f vs H Q E) :
  t { nx:=λ_ H'=>Q .non H',rt:=Q } (start N vs) H:=by
 obtain⟨F,ds,Post,l,s,g,q⟩:=h;obtain⟨L,j⟩:=ht ds Post g;have n:∀{v:V}{d:D}{Z:St}{G H':Hp}{M:AI},Ok K (λ_=>False,F,H,λ_=>none) G H' Z M -> Ap K G v d->Post d->Q v H':=λ{v d Z G H' M} k r p=>by
  refine q v H' d (λb o e=>k.same b o (λz=>z) e) (r.mono λb o e=>?_) p;obtain⟨a,c⟩:=k.frz b o e;rcases c with z|z
  ·rw[LB z];exact a
  ·rw[Hg (l b o z)];exact z
 refine j (λ_=>False,F,H,λ_=>none) F H (start N vs) _ (NJ s L (λ_ _ _ e=>e) (λ_ z=>z.elim) (Same.refl _) (λb o e=>(l b o e,.inr e)) λ_=>rfl) (λZ G H' M k p=>n k .non p,λv d Z G H' M k r p=>n k r p,λ_ _ _ _ _ z=>z.elim,λ_ _ _ _ _ z=>z.elim,λ_ _ _ _ _ _ _ _ z=>z.elim)
theorem Gs {f:NSp}{t:TS}{N:List Str}{vs:List V}{H:Hp}{Q:VK}{E:XK}(ht:∀ds Post,f ds Post->ds.length<=N.length/\JS K t (startD N ds) (λ_=>False,λ_ _=>False,λ_=>False,λ_=>False,λod _=>∃ps,od=.lst ps/\Post ps)) (h:spN K f vs H Q E) :
  t { nx:=λ_ H'=>Q .non H',rt:=Q } (start N vs) H:=by
 obtain⟨F,ds,Post,l,s,n,q⟩:=h;obtain⟨L,J⟩:=ht ds Post n;refine J (λ_=>False,F,H,λ_=>none) F H (start N vs) _ (NJ s L (λ_ _ _ e=>e) (λ_ z=>z.elim) (Same.refl _) (λb o e=>(l b o e,.inr e)) λ_=>rfl) (λ_ _ _ _ _ z=>z.elim,λ_ _ _ _ _ _ _ _ z=>z.elim,λ_ _ _ _ _ z=>z.elim,λ_ _ _ _ _ z=>z.elim,λa od Z G H' M k pd (ps,e,p)=>?_);subst e;obtain⟨o,i,c,j,m,r,u⟩:=pd;cases o with
 |lst us=>
  refine q a H' us ps (λb o e=>k.same b o (λz=>z) e) m i (Reps.mono (λb o e=>?_) (show Reps K G us ps from c)) p;have B:b≠a:=by intro z;subst z;rw[j]at e;cases e
  try dsimp only
  rw[AL B];obtain⟨d,g⟩:=k.frz b o e;rcases g with z|z
  ·rw[LB z];exact d
  ·rw[Hg (l b o z)];exact z
 |_=>exact absurd c (λz=>z)
theorem Lb {f:BSp}{t:TS}{N:List Str}{vs:List V}{H:Hp}{Q:VK}{E:XK}(ht:∀ps ds Post,f ps ds Post->ds.length+1<=N.length/\JS K t (.bor (.lst ps)::startD N.tail ds) (λM=>∃ps',M[0]?=some (.bor (.lst ps'))/\Post .non ps',λd M=>∃ps',M[0]?=some (.bor (.lst ps'))/\Post d ps',λ_=>False,λ_=>False,λ_ _=>False)) (h:spB K f vs H Q E) :
  t { nx:=λ_ H'=>Q .non H',rt:=Q } (start N vs) H:=by
 obtain⟨F,a,us,S,ps,ds,Post,rfl,l,X,C,ru,rs,hf,q⟩:=h;obtain⟨J,hj⟩:=ht ps ds Post hf;have I:∀{v:V}{d:D}{Z:St}{G H':Hp}{M:AI}{ps':List D},Ok K (λb=>b=a,F,H,λ_=>none) G H' Z M -> M[0]?=some (.bor (.lst ps'))->Ap K G v d->Post d ps' -> Q v H':=λ{v d Z G H' M ps'} k e0 r p=>by
  obtain⟨R,o,h1,Y,B,h4,h5⟩:=k.own 0 _ _ e0 rfl;have W:R=a:=h5;subst W;cases o with
  |lst us'=>
   have P:Same G (glue F H H'):=λb o e=>by
    obtain⟨m,n⟩:=k.frz b o e;rcases n with z|z
    ·rw[LB z];exact m
    ·rw[Hg (l b o z)];exact z
   exact q v H' us' ps' d (λb o hb e=>k.same b o hb e) Y (Reps.mono P (show Reps K G us' ps' from B)) (r.mono P) p
  |_=>exact absurd B (λz=>z)
 cases N with
 |nil=>simp at J
 |cons n0 N=>
  have L:ds.length<=N.length:=by simpa using J
  have s:=NJ (K:=K) (H:=H) (g:=(λb=>b=a,F,H,λ_=>none)) (N:=N) rs L (λ_ _ _ e=>e) (λb z=>by subst z;rw[C];intro w;cases w) (Same.refl _) (λb o e=>(l b o e,.inr e)) λ_=>rfl;have m:start (n0::N) (.ref a::S)=some (.ref a)::start N S:=by
   unfold start;rw[BO,BI,BI,Nat.add_sub_add_right];rfl
  rw[m];have O:∀(i:Nat) x u,(startD N ds)[i]?=some x->x.od=some u->False:=λi x u m n=>by
   have hm:=Bd m;rcases Bo.mp hm with z|z
   ·obtain⟨d,_,rfl⟩:=A2.mp z;cases n
   ·rw[Fi]at z;rw[z.2]at n;cases n
  have k1:Ok K (λb=>b=a,F,H,λ_=>none) F H (some (.ref a)::start N S) (.bor (.lst ps)::startD N ds):=by
   refine(s.same,s.lent,s.sub,s.frz,λb o e=>(by cases e),(by rw[BI,BI,s.len]),λi d e=>?_,λi x u m n=>?_,λi j x y u A c m n T U _ _=>?_)
   ·cases i with
    |zero=>cases e
    |succ i=>exact s.val i d e
   ·cases i with
    |zero=>cases m;cases n;exact(a,.lst us,rfl,C,ru,X,rfl)
    |succ i=>exact(O i x u m n).elim
   ·cases i with
    |zero=>cases j with
     |zero=>rfl
     |succ j=>exact(O j y A T U).elim
    |succ i=>exact(O i x u m n).elim
  exact hj _ F H _ _ k1 (λZ G H' M k (ps',e,p)=>I k e .non p,λv d Z G H' M k r (ps',e,p)=>I k e r p,λ_ _ _ _ _ z=>z.elim,λ_ _ _ _ _ z=>z.elim,λ_ _ _ _ _ _ _ _ z=>z.elim)
theorem Bt (h:∀ds Post,f ds Post->ds.length=n):∀vs H Q E,spD K f vs H Q E->vs.length=n:=λvs H Q E a=>by obtain⟨F,ds,Post,l,s,b,q⟩:=a;rw[s.length];exact h ds Post b
theorem Gg (h:∀ds Post,f ds Post->ds.length=n):∀vs H Q E,spN K f vs H Q E->vs.length=n:=λvs H Q E a=>by obtain⟨F,ds,Post,l,s,b,q⟩:=a;rw[s.length];exact h ds Post b
theorem LJ (h:∀ps ds Post,f ps ds Post->ds.length+1=n):∀vs H Q E,spB K f vs H Q E->vs.length=n:=λvs H Q E b=>by obtain⟨F,a,S,w,ps,ds,Post,e,l,A,d,u,s,c,q⟩:=b;rw[e,BI,s.length];exact h ps ds Post c
end
def JGn (K:W.Frag) (n:Nat) (t:TG) (d:D) (M:AI) (P:AI->Prop):Prop:=
 ∀g G H Z v (R:St->Hp->Prop),Ok K g G H Z M -> Ap K G v d->(∀Z' G' H' M',Ok K g G' H' Z' M' -> Same G G' -> (∀j,n<=j -> Z'[j]? = Z[j]?)->P M' -> R Z' H')->t v Z H R
def JGsn (K:W.Frag) (n:Nat) (t:TGs) (ds:List D) (M:AI) (P:AI->Prop):Prop:=
 ∀g G H Z vs (R:St->Hp->Prop),Ok K g G H Z M -> Reps K G vs ds->(∀Z' G' H' M',Ok K g G' H' Z' M' -> Same G G' -> (∀j,n<=j -> Z'[j]? = Z[j]?)->P M' -> R Z' H')->t vs Z H R
#check 1
theorem Wi (z:i<n) (hi:i < M.length) (p:P (M.set i (.val d))):JGn K n (gName i) d M P:=λg G H Z v R k r c=>
 c _ G H _ (k.setVal hi r) (Same.refl _) (λj h=>B9 #[2]) p
theorem Zu7 (p:P M):JGsn K n gNil [] M P:=λg G H Z s R k r c=>by cases r;exact(rfl,c Z G H M k (Same.refl _) (λ_ _=>rfl) p)
theorem P8 (h:JGn K n t d M λM1=>JGsn K n u ds M1 P):JGsn K n (gCons t u) (d::ds) M P:=λg G H Z V R k r c=>by
 obtain⟨_,_,rfl,w,x⟩:=r.inv
 next=>exact(_,_,rfl,h g G H Z _ _ k w λz a e M1 o s E q=>q g a e z _ R o (x.mono s) λi b f m p S l v=>c i b f m p (s.trans S) (λj J=>(l j J).trans (E j J)) v)
theorem Zw7 (L:ds.length=m) (h:JGsn K n t ds M P):JGn K n (gTup K m t) (.tup ds) M P:=λg G H Z v R k r c=>by
 obtain⟨_,_,rfl,a,s⟩:=r.inv
 next=>exact(_,_,rfl,SqT.of<|k.live _ _ a,by rw[s.length];exact L,h g G H Z _ R k s c)
end
def compD (n:Nat) (sel:List Nat) (M:AI):AI:=Ak n .any++sel.map λi=>(M[i]?).getD .any
def backAt (n:Nat) (sel:List Nat) (z:AI) (i:Nat) (x:Slot):Slot:=match x with
 |.val d=>.val d
 |.any=>.any
 |x=>match sel.idxOf? i with
  |none=>x
  |some j=>match z[n+j]? with
   |some (.own o)=>.own o
   |some (.bor o)=>.bor o
   |some (.ownA a o)=>.ownA a o
   |_=>.any
def backD (n:Nat) (sel:List Nat) (j:AI):Nat->AI->AI
 |_,[]=>[]
 |i,x::r=>backAt n sel j i x::backD n sel j (i+1) r
theorem HZ (n:Nat) (sel:List Nat) (j:AI):∀(M:AI) (k i:Nat),(backD n sel j k M)[i]?=(M[i]?).map (backAt n sel j<|k+i)
 |[],k,i=>by simp[backD]
 |x::r,k,0=>by simp[backD]
 |x::r,k,i+1=>by
  have:=HZ n sel j r (k+1) i;simp only[backD,Ju];rw[this,show k+1+i=k+(i+1) by lia]
theorem P9 (n:Nat) (sel:List Nat) (j:AI):∀(M:AI) (k:Nat),(backD n sel j k M).length = M.length
 |[],k=>rfl
 |x::r,k=>by simp[backD,P9 n sel j r (k+1)]
theorem Kn {sel:List Nat}(h:sel.idxOf? i=some j):sel[j]?=some i:=by
 have H:=List.idxOf?_eq_some_iff.mp h;obtain⟨J,e,_⟩:=H;rw[AS J,e]
theorem Wa {n:Nat}{sel:List Nat}{J:AI}{i:Nat}{x y:Slot}{od:OD}(h:backAt n sel J i x=y) (ho:y.od=some od) :
  (x=y/\sel.idxOf? i=none)\/∃j,sel[j]?=some i /\ J[n+j]?=some y/\∃od',x.od=some od':=by
 unfold backAt at h;cases x with
 |any=>subst h;cases ho
 |val d=>subst h;cases ho
 |own o=>
  dsimp only at h;cases q:sel.idxOf? i with
  |none=>rw[q]at h;exact .inl (h,rfl)
  |some j=>
   rw[q]at h;dsimp only at h;refine .inr (j,Kn q,?_,o,rfl);cases e:J[n+j]? with
   |none=>rw[e]at h;subst h;cases ho
   |some z=>rw[e]at h;cases z <;> (subst h;first|rfl|cases ho)
 |ownA a o=>
  dsimp only at h;cases q:sel.idxOf? i with
  |none=>rw[q]at h;exact .inl (h,rfl)
  |some j=>
   rw[q]at h;dsimp only at h;refine .inr (j,Kn q,?_,o,rfl);cases e:J[n+j]? with
   |none=>rw[e]at h;subst h;cases ho
   |some z=>rw[e]at h;cases z <;> (subst h;first|rfl|cases ho)
 |bor o=>
  dsimp only at h;cases q:sel.idxOf? i with
  |none=>rw[q]at h;exact .inl (h,rfl)
  |some j=>
   rw[q]at h;dsimp only at h;refine .inr (j,Kn q,?_,o,rfl);cases e:J[n+j]? with
   |none=>rw[e]at h;subst h;cases ho
   |some z=>rw[e]at h;cases z <;> (subst h;first|rfl|cases ho)
#check 1
open Classical in
noncomputable def aside (g:Gm) (sel:List Nat) (Z:St) (M:AI) (H:Hp) (acc:Addr) (ys:List V):Hp:=λb=>
 if b=acc then some (.lst ys) else if ∃(i:Nat) (x:Slot) (od:OD),M[i]?=some x/\x.od=some od/\i ∉ sel /\ Z[i]?=some (some (.ref b)) then H b else g.Xo b
theorem Hc (h:sel[j]?=some i):(compSt n sel Z)[n+j]?=some ((Z[i]?).getD none):=by
 unfold compSt;rw[Ci (by rw[Cc];lia),Cc,Nat.add_sub_cancel_left,Ad,h];rfl
theorem Ea (h:(compD n sel M)[k]?=some x):x=.any\/∃j i,k=n+j/\sel[j]?=some i /\ M[i]?=some x:=by
 unfold compD at h;by_cases hk:k<n
 ·rw[Dp (by simpa using hk),IF,AM hk]at h
  exact .inl (CF.inj h).symm
 ·rw[Ci (by simpa using hk),Cc,Ad]at h
  cases e:sel[k-n]? with
  |none=>rw[e]at h;cases h
  |some i=>
   rw[e]at h;have h:(M[i]?).getD .any=x:=#[8]
   cases q:M[i]? with
   |none=>rw[q]at h;exact .inl h.symm
   |some y=>rw[q]at h;cases h;exact .inr (k-n,i,#[2],e,q)
theorem Ov (a3:sel.Nodup) (k1:Ok K g G1 H1 Z M1) (a2:H1 acc=none)
  (hX:∀b o,X0 b=some o->(b=acc/\o=.lst [])\/(b≠acc/\(((∃(i:Nat) (x:Slot) (od:OD),M1[i]?=some x/\x.od=some od/\i ∉ sel /\ Z[i]?=some (some (.ref b)))/\H1 b=some o)\/g.Xo b=some o))):Ok K (g.B,G1,g.Hz,X0) G1 (upd H1 acc (.lst [])) (compSt n sel Z) (compD n sel M1):=by
 have L:∀{j j' i:Nat},sel[j]?=some i->sel[j']?=some i->j=j':=λ{j j' i} a b=>by
  obtain⟨Y,f⟩:=BZ.mp a;obtain⟨h2,E⟩:=BZ.mp b;exact(IJ a3).mp (f.trans E.symm)
 have G:G1 acc=none:=by
  cases e:G1 acc with
  |none=>rfl
  |some u=>rw[k1.live _ _ e]at a2;cases a2
 have s:∀{j i:Nat}{a:Addr},sel[j]?=some i->(compSt n sel Z)[n+j]?=some (some (.ref a)) -> Z[i]?=some (some (.ref a)):=λ{j i a} J c=>by
  rw[Hc J]at c;cases q:Z[i]? with
  |none=>rw[q]at c;cases c
  |some w=>rw[q]at c;cases c;rfl
 have H:∀b o,H1 b=some o->(upd H1 acc (.lst [])) b=some o:=λb o e=>by rw[As (CN e a2)];exact e
 refine(λb o m e=>H b o<|k1.same b o m e,λb m z=>?_,Same.refl _,λb o e=>(H b o<|k1.live b o e,.inr e),λb o e=>?_,?_,λi d e=>?_,λi x od f E=>?_,λi j x y od O a f E c C R S=>?_)
 ·cases q:H1 b with
  |none=>exact k1.lent b m q
  |some u=>rw[H b u q]at z;cases z
 ·rcases hX b o e with ⟨rfl,rfl⟩|⟨m,⟨⟨P,X,D,F,M,T,N⟩,e⟩|e⟩
  ·refine(Bh,G,λi x od f E c=>?_)
   rcases Ea f with z|⟨j,h,I,J,z⟩
   ·subst z;cases E
   ·subst I
    obtain⟨a,o,W,k,_⟩:=k1.own h x od z E;rw[s J c]at W;cases W;rw[a2]at k;cases k
  ·obtain⟨a,oo,W,k,p,t,Q⟩:=k1.own P X D F M
   rw[N]at W;cases W;refine(H b o e,t,λi x od f E c=>?_);rcases Ea f with z|⟨j,h,I,J,z⟩
   ·subst z;cases E
   ·subst I
    have:=k1.dis P h X x D od b F M z E N<|s J c;subst this;exact T<|Bd J
  ·obtain⟨W,k,p⟩:=k1.ext b o e
   refine(H b o W,k,λi x od f E c=>?_);rcases Ea f with z|⟨j,h,I,J,z⟩
   ·subst z;cases E
   ·subst I;exact p h x od z E<|s J c
 ·unfold compD compSt
  simp
 ·rcases Ea e with z|⟨j,h,I,J,z⟩
  ·cases z
  ·subst I
   obtain⟨v,W,k⟩:=k1.val h d z;exact(v,by rw[Hc J,W];rfl,k)
 ·rcases Ea f with z|⟨j,h,I,J,z⟩
  ·subst z;cases E
  ·subst I
   obtain⟨a,o,W,k,p,t,Q⟩:=k1.own h x od z E;exact(a,o,by rw[Hc J,W];rfl,H a o k,p,t,Q)
 ·rcases Ea f with z|⟨j1,U,I,J,z⟩
  ·subst z;cases E
  ·rcases Ea c with A|⟨j2,V,r,l,A⟩
   ·subst A;cases C
   ·subst I;subst r
    have:=k1.dis U V x y od O a z E A C (s J R)<|s l S;subst this;rw[L J l]
theorem NF {Z L:St}{M1 M2:AI}{n:Nat}{sel:List Nat}(U:∀j,n<=j -> L[j]?=(compSt n sel Z)[j]?) (i:Nat) (y:Slot) (od:OD) (J:(backD n sel M2 0 M1)[i]?=some y) (O:y.od=some od) :
  ∃x od',M1[i]?=some x/\x.od=some od' /\ ((x=y/\i ∉ sel)\/∃j,sel[j]?=some i /\ M2[n+j]?=some y /\ L[n+j]?=some ((Z[i]?).getD none)):=by
 rw[HZ]at J;cases q:M1[i]? with
 |none=>rw[q]at J;cases J
 |some x=>
  rw[q]at J;have J:backAt n sel M2 i x=y:=by simpa using J
  rcases Wa J O with ⟨z,a⟩|⟨j,z,a,od',b⟩
  ·refine(x,od,rfl,by rw[z];exact O,.inl (z,λm=>?_))
   rw[List.idxOf?_eq_none_iff]at a;exact a m
  ·exact(x,od',rfl,b,.inr (j,z,a,by rw[U (n+j) #[3]];exact Hc z))
theorem O7 (k1:Ok K g G1 H1 Z M1) (a2:H1 acc=none) (k2:Ok K (g.B,G1,g.Hz,Xv) G2 H2 Z2 M2) (hZ:∀j,n<=j -> Z2[j]?=(compSt n sel Z)[j]?)
  (hX:∀b o,b≠acc->(∃(i:Nat) (x:Slot) (od:OD),M1[i]?=some x/\x.od=some od/\i ∉ sel /\ Z[i]?=some (some (.ref b)))->H1 b=some o->Xv b=some o) (hY:∀b o,b≠acc->¬ (∃(i:Nat) (x:Slot) (od:OD),M1[i]?=some x/\x.od=some od/\i ∉ sel /\ Z[i]?=some (some (.ref b)))->g.Xo b=some o->Xv b=some o):Ok K g G2 H2 Z (backD n sel M2 0 M1):=by
 have s:Same G1 G2:=k2.sub;have c:=NF (M1:=M1) (M2:=M2) hZ;refine(k2.same,k2.lent,k1.sub.trans s,λb o e=>?_,λb o e=>?_,by rw[P9,k1.len],λi d e=>?_,λi y od m E=>?_,λi j x y od D a m E p G H I=>?_)
 ·obtain⟨Q,M⟩:=k2.frz b o e
  refine(Q,?_);rcases M with z|z
  ·exact .inl z
  ·exact(k1.frz b o z).2
 ·obtain⟨w,W,l⟩:=k1.ext b o e
  have N:b≠acc:=by intro z;subst z;rw[a2]at w;cases w
  obtain⟨u,U,P⟩:=k2.ext b o<|hY b o N (λ(i,x,od,f,F,h,k)=>l i x od f F k) e;refine(u,U,λi y od m E p=>?_);obtain⟨x,D,f,F,_⟩:=c i y od m E;exact l i x D f F p
 ·rw[HZ]at e
  cases q:M1[i]? with
  |none=>rw[q]at e;cases e
  |some x=>
   rw[q]at e;have e:backAt n sel M2 (0+i) x=.val d:=by simpa using e
   have X:x=.val d:=by
    unfold backAt at e;cases x with
    |any=>cases e
    |val d'=>exact e
    |own o=>dsimp only at e;split at e <;> first|cases e|(split at e <;> cases e)
    |bor o=>dsimp only at e;split at e <;> first|cases e|(split at e <;> cases e)
    |ownA a o=>dsimp only at e;split at e <;> first|cases e|(split at e <;> cases e)
   subst X;obtain⟨v,w,W⟩:=k1.val i d q;exact(v,w,W.mono s)
 ·obtain⟨x,D,f,F,h⟩:=c i y od m E
  rcases h with ⟨h,k⟩|⟨j,h,k,L⟩
  ·subst h
   obtain⟨a,o,w,W,l,C,t⟩:=k1.own i x od f E;have N:a≠acc:=by intro z;subst z;rw[a2]at W;cases W
   obtain⟨u,U,P⟩:=k2.ext a o<|hX a o N (i,x,od,f,E,k,w) W;exact(a,o,w,u,l.mono s,U,t)
  ·obtain⟨a,o,w,W,l,C,t⟩:=k2.own (n+j) y od k E
   obtain⟨A,S,V,_⟩:=k1.own i x D f F;rw[L,V]at w;have J:A=a:=by cases w;rfl
   subst J;exact(A,o,V,W,l,C,t)
 ·obtain⟨R,O,f,F,_⟩:=c i x od m E
  obtain⟨Y,r,h,k,_⟩:=c j y D p G;exact k1.dis i j R Y O r a f F h k H I
theorem Ok.base {g:Gm}(J:Same G1 F) (j:∀b o,F b=some o->(g.Hz b=none\/G1 b=some o)) (k5:Ok K (g.B,F,g.Hz,X) G5 H5 Z5 M5):Ok K (g.B,G1,g.Hz,X) G5 H5 Z5 M5:=
 ⟨k5.same,k5.lent,J.trans k5.sub,λb o q=>by
  obtain⟨Q,a⟩:=k5.frz b o q;refine(Q,?_);rcases a with z|z
  ·exact .inl z
  ·exact j b o z,k5.ext,k5.len,k5.val,k5.own,k5.dis⟩
theorem RX (b6:sel.Nodup)
  (h:JI K wi M λds M1=>ds.length<sizeLine/\∃I:Nat->List D->AI->Prop,I 0 [] (compD n sel M1) /\
   (∀i d ys M2,ds[i]?=some d->I i ys M2->JGn K n t d M2 λM3=>JT K tc M3 λb M4=>if b=true then JE K te M4 λe M5=>I (i+1) (ys++[e]) M5 else I (i+1) ys M4) /\
   ∀ys M2,I ds.length ys M2->P (.lst ys) (backD n sel M2 0 M1)):JO K (tComp n sel wi t tc te) M P:=λg G H Z Q k c=>
 h g G H Z _ k λJ ds G1 H1 M1 k1 s1 it (hz,I,h0,ht,he) acc hacc=>by
  have a0:∀(i:Nat) x O,M1[i]?=some x->x.od=some O -> Z[i]?≠some (some (.ref acc)):=λi x O N R e3=>by
   obtain⟨a,o,W,S,_⟩:=k1.own i x O N R;rw[e3]at W;cases W;rw[hacc]at S;cases S
  -- the word at each turn
  let Wd:Nat->St->Hp->Prop:=λi p r=>i<=ds.length/\(∀j,n<=j -> p[j]?=(compSt n sel Z)[j]?)/\∃G ys s Mi,ys.length<=i/\Reps K G s ys/\Ok K (g.B,G1,g.Hz,aside g sel Z M1 H1 acc s) G r p Mi/\I i ys Mi
  refine(λi m p r=>m=ds.length-i/\Wd i p r,(ds.length,#[4],CS _,λ_ _=>rfl,G1,[],[],compD n sel M1,AX _,.nil,?_,h0),?_)
  ·refine Ov b6 k1 hacc λb o e=>?_
   have e:aside g sel Z M1 H1 acc [] b=some o:=e;unfold aside at e;by_cases f:b=acc
   ·rw[AM f]at e;cases e;exact .inl (f,rfl)
   ·rw[AL f]at e
    split at e
    case isTrue X=>exact .inr (f,.inl (X,e))
    case isFalse X=>exact .inr (f,.inr e)
  ·rintro i m Z2 H2 ⟨rfl,hi,hZ,T,ys,s,M2,hy,ry,k2,h2⟩
   have s2:Same G1 T:=k2.sub;obtain⟨a8,go⟩:=it T H2 s2 k2.live;have C:∀{G' r:Hp}{p:St}{M':AI}{s:List V}{F:Hp},Ok K (g.B,F,g.Hz,aside g sel Z M1 H1 acc s) G' r p M' -> r acc=some (.lst s)/\G' acc=none/\∀(i:Nat) x O,M'[i]?=some x->x.od=some O -> p[i]?≠some (some (.ref acc)):=λ{G' r p M' s F} kk=>
    kk.ext acc (.lst s) (by show aside g sel Z M1 H1 acc s acc=_;unfold aside;rw[AM rfl])
   by_cases hlt:i<ds.length
   ·obtain⟨g1,g2⟩:=go i _ (AS hlt)
    refine .inr (g1,λp r=>Wd (i+1) p r,λp r p'=>(ds.length-(i+1),#[3],rfl,p'),λx H3 y=>?_);obtain⟨L,a1,a2,a3,a4⟩:=g2 x H3 y;have A:=k2.grow a1 a2 a3;have U:∀b o,L b=some o->(g.Hz b=none\/G1 b=some o):=λb o q=>(A.frz b o q).2;have b0:Ok K (g.B,L,g.Hz,aside g sel Z M1 H1 acc s) L H3 Z2 M2:=(A.same,A.lent,Same.refl _,λb o q=>((A.frz b o q).1,.inr q),A.ext,A.len,A.val,A.own,A.dis);have a5:Reps K L s ys:=ry.mono a1;have a7:Same G1 L:=s2.trans a1;refine ht i _ ys M2 (AS hlt) h2 (g.B,L,g.Hz,aside g sel Z M1 H1 acc s) L H3 Z2 x _ b0 a4 λZ4 G4 H4 M4 k4 s4 e4 p4=>?_;have Y:∀j,n<=j -> Z4[j]?=(compSt n sel Z)[j]?:=λj hj=>(e4 j hj).trans (hZ j hj);refine p4 _ G4 H4 Z4 _ k4 λb G5 H5 M5 k5 s5 p5=>?_;cases b with
    |false=>exact(hlt,Y,G5,ys,s,M5,#[2],a5.mono (s4.trans s5),k5.base a7 U,p5)
    |true=>
     refine(show JE K te M5 _ from p5) _ G5 H5 Z4 _ k5 λv d G6 H6 M6 k6 s6 r6 p6=>?_;have a6:Reps K G6 s ys:=a5.mono<|s4.trans<|s5.trans s6;obtain⟨b1,b2,b3⟩:=C k6;refine(s,b1,by rw[a6.length];omega,hlt,Y,G6,ys++[d],s++[v],M6,by rw[A1,CO];lia,a6.append (.cons r6 .nil),?_,p6);have w:=k6.base a7 U;have l:∀b o,b≠acc->H6 b=some o->(upd H6 acc (.lst<|s++[v])) b=some o:=λb o f e=>by rw[As f];exact e
     have a9:∀b o,b≠acc->aside g sel Z M1 H1 acc (s++[v]) b=some o->aside g sel Z M1 H1 acc s b=some o:=λb o f e=>by
      unfold aside at e ⊢;rw[AL f]at e ⊢;exact e
     refine(λb o f e=>?_,λb f=>?_,w.sub,λb o e=>?_,λb o e=>?_,w.len,w.val,λi x O N R=>?_,w.dis)
     ·have E:b≠acc:=by
       intro z;subst z;have e:g.Hz b=some o:=e;rw[k1.there hacc]at e;cases e
      exact l b o E<|w.same b o f e
     ·by_cases E:b=acc
      ·subst E;rw[Bh];intro z;cases z
      ·rw[As E];exact w.lent b f
     ·have E:b≠acc:=by intro z;subst z;rw[b2]at e;cases e
      exact(l b o E (w.frz b o e).1,(w.frz b o e).2)
     ·by_cases E:b=acc
      ·subst E
       have e:aside g sel Z M1 H1 b (s++[v]) b=some o:=e;unfold aside at e;rw[AM rfl]at e;cases e;exact(Bh,b2,b3)
      ·obtain⟨W,S,w3⟩:=w.ext b o (a9 b o E e)
       exact(l b o E W,S,w3)
     ·obtain⟨a,o,W,S,w3,w4,w5⟩:=w.own i x O N R
      have E:a≠acc:=by intro z;subst z;exact b3 i x O N R W
      exact(a,o,W,l a o E S,w3,w4,w5)
   ·have e:i=ds.length:=by lia
    subst e;refine .inl (a8,?_);obtain⟨b1,b2,b3⟩:=C k2;have b5:=NF (M1:=M1) (M2:=M2) hZ;have k9:Ok K g T H2 Z (backD n sel M2 0 M1):=O7 k1 hacc k2 hZ (λb o f X e=>by show aside g sel Z M1 H1 acc s b=_;unfold aside;rw[AL f,AM X];exact e) (λb o f X e=>by show aside g sel Z M1 H1 acc s b=_;unfold aside;rw[AL f,AL X];exact e);refine c acc _ T H2 _ k9 (s1.trans s2) (.lst s,b1,(show OwnRep K T (.lst s) (.lst ys) from ry),b2,k1.there hacc,?_,λi y O N R e3=>?_)<|he ys M2 h2
    ·cases q:g.Xo acc with
     |none=>rfl
     |some u=>have z:=(k1.ext acc u q).1;rw[hacc]at z;cases z
    ·obtain⟨x',b4,f1,f2,_⟩:=b5 i y O N R
     exact a0 i x' b4 f1 f2 e3
theorem LK (L:sel.Nodup)
  (h:JI K wi M λds M1=>ds.length<sizeLine/\∃I:Nat->List D->AI->Prop,I 0 [] (compD n sel M1) /\
   (∀i d ys M2,ds[i]?=some d->I i ys M2->JGn K n t d M2 λM3=>JT K tc M3 λb M4=>if b=true then JE K te M4 λe M5=>I (i+1) (ys++[e]) M5 else I (i+1) ys M4) /\
   ∀ys M2,I ds.length ys M2->P (.lst ys) (backD n sel M2 0 M1)):JE K (tComp n sel wi t tc te) M P:=
 CZ (RX L λg G H Z R k c=>h g G H Z R k λJ ds G' H' M' k' s' it (z,I,h0,ht,he)=>c J ds G' H' M' k' s' it (z,I,h0,ht,λys M2 q=>(ys,rfl,he ys M2 q)))
theorem QU (L:sel.Nodup)
  (h:JI K wi M λds M1=>ds.length<sizeLine/\∃(fix:AI) (p:D->Bool) (f:D->D),compD n sel M1=Ak n .any++fix /\
   (∀(i:Nat) d (ts:AI),ds[i]?=some d->ts.length=n->JGn K n t d (ts++fix) λM3=>JT K tc M3 λb M4=>b=p d/\if b=true then JE K te M4 λe M5=>e=f d/\∃ts',ts'.length=n /\ M5=ts'++fix else ∃ts',ts'.length=n /\ M4=ts'++fix) /\
   P (.lst ((ds.filter p).map f)) (backD n sel (Ak n .any++fix) 0 M1)):JE K (tComp n sel wi t tc te) M P:=by
 refine LK L λg G H Z R k c=>h g G H Z R k λJ ds a l m o S it (z,fix,p,f,e0,ht,he)=>c J ds a l m o S it (z,λi y M=>y=((ds.take i).filter p).map f/\∃ts:AI,ts.length=n /\ M = ts++fix,?_,?_,?_)
 ·exact(#[4],_,#[4],e0)
 ·rintro i d y B A ⟨rfl,ts,s,rfl⟩
  have T:ds.take (i+1)=ds.take i++[d]:=by
   rw[Cy,A];rfl
  intro g G H Z v R k r c;refine ht i d ts A s g G H Z v R k r λC a l m o S E q=>c C a l m o S E λg G H Z Q k c=>q g G H Z Q k λb a l m o S (eb,q)=>c b a l m o S ?_;cases b with
  |true=>
   rw[AM rfl]at q ⊢;refine q.mono λe M5 (e1,ts',u,w)=>(?_,ts',u,w);rw[T,Cw,A5,CA,<- eb,e1];rfl
  |false=>
   rw[AL BL]at q ⊢;obtain⟨ts',u,w⟩:=q;refine(?_,ts',u,w);rw[T,Cw,A5,CA,<- eb];simp
 ·rintro y B ⟨rfl,ts,s,rfl⟩
  rw[CP];have e:backD n sel (ts++fix) 0 m=backD n sel (Ak n .any++fix) 0 m:=by
   apply Dz;intro i;rw[HZ,HZ];congr 1
   funext x
   unfold backAt;have F:∀j,(ts++fix)[n+j]?=(Ak n Slot.any++fix)[n+j]?:=λj=>by
    rw[Ci #[2],Ci #[4],s,Cc]
   simp only[F]
  rw[e];exact he
end
end L2
set_option Elab.async false
set_option linter.all false
set_option maxRecDepth 100000
namespace HT
open PySem PyProof.Rows
#check 4
theorem getItem_tuple_whole {lo hi:Option Int}(ht:IsTup s.heap t items) (j:s.heap.IsSliceOf sl vl vu .none) (L:IsPart vl lo) (U:IsPart vu hi)
  (z:sIx items.size 0 lo=0/\sIx items.size items.size hi=items.size) (h:Q (.ref t) s):wpAny (model prog w) A (getItem (.ref t) (.ref sl)) Q E s:=by
 obtain⟨S,o,c,d⟩:=id j;have T:s.TypeIs (.ref sl) "slice":=(S,o,c);unfold getItem
 try with_reducible refine Cv ?_
 first|refine AE (AO ?_)|skip
 refine AE (wpAny_sequenceKey ht.typeIs #[1] ?_);refine AE (wpAny_callSpecial?_slot (name:=Str.ofString "__getitem__") ht.typeIs PyProof.Rows.slot_tuple_getitem
  (wpAny_call_entry PyProof.Rows.slot_tuple_getitem ht.typeIs entry_tuple_getitem ?_ (args_tuple_getitem _ _)))
 show wpAny _ _ (Builtin.Tuple.tupleItemsOf (.ref t) >>= _) _ _ s;refine AE<|tupleItemsOf_ ht ?_;refine AE<|wpAny_typeOf T ?_;rw[AM #[1]];refine AE<|Od j L U ?_;have e:(((sIx items.size 0 lo:Nat):Int) == 0 && (1:Int) == 1 && (sIx items.size items.size hi-sIx items.size 0 lo) == items.size)=true:=by
  rw[z.1,z.2];simp
 show wpAny _ _ (if (((sIx items.size 0 lo:Nat):Int) == 0 && (1:Int) == 1 && (sIx items.size items.size hi-sIx items.size 0 lo) == items.size)=true then _ else _) _ _ s;rw[AM e]
 first
  |exact AO (_,rfl,AO h)
  |exact AO (_,rfl,h)
  |exact AE (AO (AO (_,rfl,AO h)))
  | (refine AE (AE (wpAny_typeOf ht.typeIs (AO ?_)))
     rw[AM #[1]];exact AE (EO (AO (_,rfl,AO h))))
theorem tuple_index {t:Addr}{items:Array Value}{x:Value}{e:Value->Bool}{j:Nat}{Q:Ai}(ht:IsTup s.heap t items) (he:∀y∈items,PySem.SeqAt.EqAt A.in1 s y x (e y)) (hj:j<items.size)
  (hit:e items[j]=true) (hno:∀m (hm:m<items.size),m<j->e items[m]=false) (h:Q (.int j s.toks) { s with toks:=s.toks+1 }) :
  wpAny (model prog w) A (call (.builtin "tuple.index") [.ref t,x]) Q E s:=by
 refine wpAny_call_entry PySem.F.slot_tuple_index ht.typeIs PySem.F.entry_tuple_index ?_<|PySem.F.args_tuple_index_2 _ _;show wpAny _ _ (Builtin.Tuple.tupleItemsOf (.ref t) >>= _) _ _ s;refine AE<|tupleItemsOf_ ht ?_;refine AE<|AO<|AE<|AO<|AE ?_;rw[Nat.min_self];simp only[Std.Legacy.Range.forIn_eq_forIn_range',Std.Legacy.Range.size,Ik,Nat.add_sub_cancel,Nat.div_one];refine EN (Q:=λb S=>S = { s with toks:=s.toks+1 } /\ b.1=some (Fin.done (.ret (.int j s.toks)))) ?_ (λb S B=>?_) λ_ _ z=>z;refine wpAny_forIn_list _ (λl b S=>S=s/\∃i,l=List.range' i (items.size-i)/\i<=j) _ ?_ ?_ _ _ (rfl,0,rfl,CS _)
 ·rintro i r b S ⟨rfl,k,L,H⟩
  have K:items.size-k=(items.size-k-1)+1:=#[2]
  rw[K,List.range'_succ]at L;injection L with hl1 hl2
  subst hl1;have I:i<items.size:=#[2]
  rw[Array.getElem?_eq_getElem I];refine AE<|he _ (Array.getElem_mem I) prog w _ _ ?_;by_cases hij:i=j
  ·subst hij
   rw[hit,AM rfl];exact AE<|AE<|wpAny_mkInt<|AO<|AO (rfl,rfl)
  ·rw[hno i I #[2],AL BL]
   exact AO (rfl,i+1,by rw[hl2,show items.size-i-1=items.size-(i+1) by lia],#[2])
 ·rintro b S ⟨rfl,k,L,H⟩
  have:=congrArg BQ L;simp at this;lia
 ·obtain⟨rfl,a⟩:=B
  obtain⟨c,d⟩:=b;dsimp only at a;subst a;exact AO (_,rfl,h)
end
end HT
namespace L2
open PySem PySem.Spec PyProof.Rows
#check 0
def rSlT' (K:W.Frag):V->Option Int->Option Int->Hp->VK->Prop:=λx o i H Q=>∃a xs,x=.ref a/\SqT K H a xs /\
 ((HT.sIx xs.length 0 o=0/\HT.sIx xs.length xs.length i=xs.length)->Q (.ref a) H) /\
 (¬ (HT.sIx xs.length 0 o=0/\HT.sIx xs.length xs.length i=xs.length)->∀p,H p=none->Q (.ref p) (upd H p (.tup<|cutV xs o i)))
theorem Zyy:SlR X (rSlT' X.K):=by
 intro pins s Z H x v vl vu lo hi sl Q I rx hs pl pu h;obtain⟨a,S,rfl,b,q,c⟩:=h;by_cases hw:HT.sIx S.length 0 lo=0/\HT.sIx S.length S.length hi=S.length
 ·cases rx
  obtain⟨t,r,T,z⟩:=I.tuple b;have n:t.toArray.size=S.length:=by rw[BC];exact r.length.symm
  exact("tuple",_,PyProof.Rows.slot_tuple_getitem.lookup,T.typeIs,HT.getItem_tuple_whole T hs pl pu (by rw[n];exact hw) (.ref a,H,I,rfl,q hw))
 ·exact S5 pins s Z H (.ref a) v vl vu lo hi sl Q I rx hs pl pu (a,S,rfl,b,hw,c hw)
def rSlU (K:W.Frag):V->Option Int->Option Int->Hp->VK->Prop:=λx o i H Q=>rSlL K x o i H Q\/rSlT' K x o i H Q
theorem slU:SlR X (rSlU X.K):=Zxm.or Zyy
def tSlR (K:W.Frag) (te:TE):TE:=λZ H Q=>te Z H λx h=>∃a xs,x=.ref a/\SqT K h a xs/\∀p,h p=none->Q (.ref p) (upd h p (.tup xs.reverse))
def rCatT' (K:W.Frag):R2:=λx y H Q=>∃a b xs ys,x=.ref a/\y=.ref b/\SqT K H a xs/\SqT K H b ys/\xs.length+ys.length<=sizeLine /\
 (xs=[]->Q (.ref b) H)/\(xs≠[]->ys=[]->Q (.ref a) H)/\(xs≠[]->ys≠[]->∀p,H p=none->Q (.ref p) (upd H p (.tup<|xs++ys)))
theorem Zuz:OpR X (binaryOp .Add) (rCatT' X.K):=by
 intro pins s Z H x y v u Q I rx ry h;obtain⟨a,b,g,Y,rfl,rfl,e,B,z,q,k,m⟩:=h;by_cases hx:g=[]
 ·cases rx
  cases ry;obtain⟨i,r,p,_⟩:=I.tuple e;obtain⟨t,R,P,_⟩:=I.tuple B;obtain⟨⟨L,j,T,w⟩,O,C,n,f⟩:=id p;obtain⟨⟨S,D,A,l⟩,o,c,N,d⟩:=id P;simp only at C f c d;subst C f c d;exact concat_meets (_,O,rfl) (_,o,rfl) noFill_tuple_add seq_tuple_add PySem.F.slot_tuple_add PySem.F.entry_tuple_add (PySem.F.args_tuple_add_2 _ _)
   (tuple_addW0 a b i.toArray t.toArray n N j D w l (by simp[r.nil_iff.mpr hx])) (O,o,(.ref b,H,I,rfl,q hx))
 ·exact Zyo pins s Z H (.ref a) (.ref b) v u Q I rx ry (a,b,g,Y,rfl,rfl,e,B,hx,z,k hx,m hx)
def rAddU (K:W.Frag):R2:=λx y H Q=>rI0 (λi j=>.int<|i+j) x y H Q\/(rCatT' K x y H Q\/rCat x y H Q)
theorem Zxj:OpR X (binaryOp .Add) (rAddU X.K):=Tz.or<|Zuz.or Tv
theorem C0:OpR X (compareOp .Eq) rEq:=Ta
theorem LZ:OpR X (compareOp .NotEq) rNe:=T6
def rIxD:R2:=λx y H Q=>∃a v,x=.ref a/\DGet H a y (some v)/\Q v H
theorem Zzl (U:X.A.units+1<cLine):IxR X rIxD:=by
 intro value slice pins s Z H x y v u Q I rx ry h hs;obtain⟨a,W,rfl,g,q⟩:=h;cases rx;exact tail_any (Uu I g) PySem.F.slot_dict_getitem.lookup (Ww U I g ry λb S i w=>(W,H,i,w,q)) hs
def rIxU (K:W.Frag):R2:=λx y H Q=>rIx K x y H Q\/rIxD x y H Q
theorem ixU (U:X.A.units+1<cLine):IxR X (rIxU X.K):=Zzs.or<|Zzl U
def rSetD:V->V->V->Hp->(Hp->Prop)->Prop:=λo i v H Q=>∃a H',o=.ref a/\DPut H a i v H' /\ Q H'
theorem Zur (U:X.A.units+1<cLine):PSet X rSetD:=by
 intro pins s Z H o i v ov iv u Q I ro ri rv h;obtain⟨a,b,rfl,g,q⟩:=h;cases ro;exact WY U I g ri rv λS c=>(b,c,q)
theorem PSet.or (h:PSet X t) (h':PSet X t'):PSet X (λo i v H Q=>t o i v H Q\/t' o i v H Q):=by
 intro pins s Z H o i v ov iv u Q I ro ri rv q;rcases q with q|q
 ·exact h pins s Z H o i v ov iv u Q I ro ri rv q
 ·exact h' pins s Z H o i v ov iv u Q I ro ri rv q
def rSetU:V->V->V->Hp->(Hp->Prop)->Prop:=λo i v H Q=>rSetL o i v H Q\/rSetD o i v H Q
theorem setU (U:X.A.units+1<cLine):PSet X rSetU:=Zvw.or<|Zur U
def rLenU (K:W.Frag):List V->Hp->VK->Prop:=λs H Q=>(∃p ys,s=[.ref p]/\(SqL K H p ys\/SqT K H p ys)/\Q (.int ys.length) H)\/∃a kvs,s=[V.ref a]/\H a=some (.dK kvs)/\Q (.int kvs.length) H
theorem V2:CallR X (.builtin "len") (rLenU X.K):=Ul.or Wu
def rIsi (K:W.Frag):List V->Hp->VK->Prop:=λs H Q=>∃x n t b,s=[x,.ty n]/\TyOf K H x t/\PySem.W.kitOne K t (.type n)=some b/\Q (.bl b) H
theorem U8:CallR X (.builtin "isinstance") (rIsi X.K):=by
 intro pins s Z H xs us Q I r h;obtain⟨x,n,t,b,rfl,y,e,q⟩:=h;obtain⟨u,U,rfl,R,N⟩:=vals2 r;cases (show U=Value.type n from N);exact Vx I R y e λk=>(.bl b,H,I.tok _,rfl,q)
def insI (n:Nat) (i:Int):Nat:=if i<0 then (i+(n:Int)).toNat else min i.toNat n
def rInsert:V->List V->Hp->VK->Prop:=λx s H Q=>∃l xs i y,x=.ref l/\s=[.int i,y]/\H l=some (.lst xs)/\xs.length<sizeLine /\ -(2 ^ 62)<=i/\i<2 ^ 62/\Q .non (upd H l (.lst (xs.take (insI xs.length i)++y::xs.drop (insI xs.length i))))
theorem Ku:MtM X "list.insert" rInsert:=by
 intro pins s Z H x vs v us Q I rx rv h;obtain⟨l,a,i,y,rfl,rfl,b,g,c,d,q⟩:=h;cases rx;obtain⟨U,u,rfl,⟨t,rfl⟩,Y⟩:=rv.two;obtain⟨z,S,n,r,L,e⟩:=I.lstM b;refine call_meets F.slot_list_insert (_,e,rfl) F.entry_list_insert (F.args_list_insert_3 _ _ _) (PySem.AutoSeq1.list_insert_list_int_val_1 l S.toArray n i t u (by
  have f:Builtin.List.listFitsIndex i=true:=by
   unfold Builtin.List.listFitsIndex;rw[Au #[2],Au #[2]];rfl
  rw[f];decide) (by rw[BC];lia)) (e,?_)
 refine(.non,_,I.lset (its':=S.take (insI a.length i)++u::S.drop (insI a.length i)) b e ?_ ((r.take _).append (.cons Y<|r.drop _)) ?_,rfl,q)
 ·have E:(if i<0 then (i+(S.toArray.size:Int)).toNat else min i.toNat S.toArray.size)=insI a.length i:=by
   unfold insI;rw[BC,L]
  dsimp only;rw[E];apply Array.ext';simp;rw[GI (by rw[DR];exact AX _)]
 ·rw[A1,BI,Bn,DR]
  omega
def rIndexT (K:W.Frag):V->List V->Hp->VK->Prop:=λx s H Q=>∃a xs y j,x=.ref a/\s=[y]/\SqT K H a xs/\flatV y=true/\xs.all flatV=true/\j<xs.length /\
 (∃z,xs[j]?=some z/\eqV z y=true)/\(∀m z,m<j->xs[m]?=some z->eqV z y=false)/\Q (.int j) H
theorem UN:MtM X "tuple.index" (rIndexT X.K):=by
 intro pins s Z H x vs v us Q I rx rv h;obtain⟨a,S,y,j,rfl,rfl,N,C,p,D,⟨z,i,l⟩,o,q⟩:=h;cases rx;obtain⟨u,rfl,U⟩:=rv.one;obtain⟨t,r,G,O⟩:=I.tuple N;have L:t.length=S.length:=r.length.symm;have Y:∀w∈t.toArray,SeqAt.EqAt X.A.in1 s w u (eqU y w):=λw g=>by
  have g:w∈t:=by simpa using g
  obtain⟨k,c,e⟩:=Eo.mp g;have b:k<S.length:=#[2]
  obtain⟨n,W,R⟩:=r.get<|AS b;have E:n=w:=by
   rw[AS c]at W;exact(CF.inj W).symm.trans e
  subst E;have F:flatV S[k]=true:=DW.mp p _<|Br b;rw[LS R F];exact Rx R U F C
 have T:∀(k:Nat) (c:k<t.toArray.size) (z:V),S[k]?=some z->eqU y t.toArray[k]=eqV z y:=λk c z e=>by
  obtain⟨n,W,R⟩:=r.get e;have d:k<t.length:=by simpa using c
  rw[AS d]at W;have E:t.toArray[k]=n:=by simpa using CF.inj W
  rw[E];exact LS R<|DW.mp p _<|Bd e
 have J:j<t.toArray.size:=by simpa [L] using D
 refine HT.tuple_index G Y J (by rw[T j J z i];exact l) (λm B f=>?_) (.int j,H,I.tok _,(_,rfl),q);have M:m<S.length:=by simpa [L] using B
 rw[T m B _ (AS M)];exact o m _ f<|AS M
end
#check 0
theorem PI.or (h:PI X tg iter w) (h':PI X tg iter w'):PI X tg iter (λZ H R=>w Z H R\/w' Z H R):=by
 intro pins s Z H R I q;rcases q with q|q
 ·exact h pins s Z H R I q
 ·exact h' pins s Z H R I q
def iSeq (K:W.Frag) (tl:TE):TI:=λZ H R=>iList K tl Z H R\/iTup K tl Z H R
theorem Zz7 (L:PE X l tl):PI X tg l (iSeq X.K tl):=(Zy0 L).or (Sv L)
def tTru (K:W.Frag) (ta:TE):TT:=λZ H Q=>ta Z H λx h=>∃k,TruV K x h k/\Q k h
theorem Sq (ha:PE X a ta) (he:∀whole,isTrue a X.env whole=(do let v <- whole;standAt a.pos;holding [v] (truthy v))):PT X a (tTru X.K ta):=Zuk ha he
end
#check 3
theorem Cn (p:P (.int<|i+j) M):JR2 K (rAddU K) (.int i) (.int j) M P:=λg G H Z Q x y k r Y c=>by
 cases r.inv;cases Y.inv;exact .inl (i,j,rfl,rfl,c _ _ G H M k (Same.refl _) (.int _) p)
theorem LM (hz:ds.length+es.length<=sizeLine) (p:P (.tup<|ds++es) M):JR2 K (rAddU K) (.tup ds) (.tup es) M P:=λg G H Z Q x y k r Y c=>by
 cases r with
 |tup ha ra=>
  cases Y with
  |tup hb rb=>
   refine .inr (.inl (_,_,_,_,rfl,rfl,SqT.of<|k.live _ _ ha,SqT.of<|k.live _ _ hb,by rw[ra.length,rb.length];exact hz,λe=>?_,λ_ e=>?_,λ_ _ q h=>?_))
   ·subst e;cases ra;exact c _ _ G H M k (Same.refl _) (.tup hb rb) p
   ·subst e;cases rb;rw[Bp]at p;exact c _ _ G H M k (Same.refl _) (.tup ha ra) p
   ·obtain⟨a,s⟩:=k.laid h (.tup _)
    exact c _ _ _ _ M a s (.tup Bh ((ra.append rb).mono s)) p
theorem Ge (hz:ds.length+es.length<=sizeLine) (p:P (.lst<|ds++es) M):JR2 K (rAddU K) (.lst ds) (.lst es) M P:=λg G H Z Q x y k r Y c=>by
 obtain⟨_,_,rfl,h,a⟩:=r.inv
 next=>
  obtain⟨_,_,rfl,B,b⟩:=Y.inv
  next=>
   refine .inr (.inr (_,_,_,_,rfl,rfl,k.live _ _ h,k.live _ _ B,by rw[a.length,b.length];exact hz,λq d=>?_));obtain⟨e,s⟩:=k.laid d (.lst _);exact c _ _ _ _ M e s (.lst Bh ((a.append b).mono s)) p
theorem A7 (h:atI ds i=some d) (p:P d M):JR2 K (rIxU K) (.tup ds) (.int i) M P:=λg G H Z Q x y k r Y c=>
 .inl (.inr (.inl<|Tg h p g G H Z Q x y k r Y c))
theorem Dt (h:atI ds i=some d) (p:P d M):JR2 K (rIxU K) (.lst ds) (.int i) M P:=λg G H Z Q x y k r Y c=>
 .inl (.inl<|Td h p g G H Z Q x y k r Y c)
theorem Fz (J:M[n]?=some x) (ho:x.od=some (.lst ds)) (h:JE K tb M λe M1=>∃y es i d,M1[n]?=some y/\y.od=some (.lst es)/\e=.int i/\atI es i=some d/\P d M1):JE K (tOp (rIxU K) (tVar n) tb) M P:=λg G H Z Q k c=>by
 obtain⟨a,o,b,m,q,r,s⟩:=k.own n x _ J ho;refine(.ref a,b,h g G H Z _ k λv e G1 H1 M1 k1 s1 r1 (y,es,i,d,q1,q2,q3,q4,p)=>?_);subst q3;cases r1.inv;obtain⟨A,O,w,f,W,t,B⟩:=k1.own n y _ q1 q2;rw[b]at w;cases w;cases O with
 |lst vs=>
  obtain⟨u,j,l⟩:=NB (show Reps K G1 vs es from W) q4;exact .inl (.inl (a,vs,i,u,rfl,rfl,SqL.of f,j,c u d G1 H1 M1 k1 s1 l p))
 |_=>exact absurd W (λz=>z)
theorem V4 {n:Nat}{L te:TE}{J:EL}(h:JE K te M λd M1=>(∃x od,M1[n]?=some x/\x.od=some od)/\JE K L M1 λe M2=>∃x ds i j,M2[n]?=some x/\x.od=some (.lst ds)/\e=.int i/\ixN ds.length i=some j/\J.nx (M2.set n<|x.put (.lst<|ds.set j d))) :
  JS K (tAsg te<|gSub (tVar n) L rSetU) M J:=λg G H Z E k c=>
 h g G H Z _ k λv d l m M1 f S R q=>by
  obtain⟨⟨x,od,X,O⟩,P⟩:=q;obtain⟨a,o,b,t,B,C,D⟩:=f.own n x _ X O;refine(.ref a,b,P g l m Z _ f λu e G2 H2 M2 k2 s2 r2 (y,ds,i,j,q1,q2,q3,q4,p)=>?_);subst q3;cases r2.inv;obtain⟨A,r,W,s,w,F,I⟩:=k2.own n y _ q1 q2;rw[b]at W;cases W;cases r with
  |lst vs=>
   have w:Reps K G2 vs ds:=w;exact .inl (a,vs,i,j,rfl,rfl,s,by rw[w.length];exact q4,c.nx Z G2 _ _ (k2.write q1 q2 b (show OwnRep K G2 (.lst<|vs.set j v) (.lst<|ds.set j d) from w.set j (R.mono s2))) p)
  |_=>exact absurd w (λz=>z)
def valD (kvs:List (AV × D)) (k:AV):Option D:=(kvs.find? λv=>decide (v.1=k)).map (·.2)
def putD (kvs:List (AV × D)) (k:AV) (v:D):List (AV × D):=if (kvs.any λV=>decide (V.1=k))=true then kvs.map (λV=>if V.1=k then (V.1,v) else V) else kvs++[(k,v)]
theorem NX:∀{kvs:List (AV × V)}{kds:List (AV × D)},Paired (λ(p:AV × V) (q:AV × D)=>p.1=q.1/\Ap K G p.2 q.2) kvs kds->valD kds k=some d->∃v,valV kvs k=some v/\Ap K G v d
 |_,_,.nil,h=>by cases h
 | (k1,v1)::kvs,(k2,d2)::kds,.cons (e,r) t,h=>by
  have e:k1=k2:=e;subst e;by_cases hk:k1=k
  ·subst hk
   have h:some d2=some d:=by simpa [valD,Fg] using h
   cases h;exact(v1,K9 rfl,r)
  ·have h:valD kds k=some d:=by simpa [valD,Fg,hk] using h
   obtain⟨v,H,a⟩:=NX t h;exact(v,by rw[Kz hk];exact H,a)
theorem RU:∀{kvs:List (AV × V)}{kds:List (AV × D)},Paired (λ(p:AV × V) (q:AV × D)=>p.1=q.1/\Ap K G p.2 q.2) kvs kds->(kvs.any λkv=>decide (kv.1=k))=(kds.any λkv=>decide (kv.1=k))
 |_,_,.nil=>rfl
 |_::_,_::_,.cons (e,_) t=>by rw[FN,FN,RU t,e]
theorem Ri (j:Ap K G v d):∀{kvs:List (AV × V)}{kds:List (AV × D)},Paired (λ(p:AV × V) (q:AV × D)=>p.1=q.1/\Ap K G p.2 q.2) kvs kds ->
  Paired (λ(p:AV × V) (q:AV × D)=>p.1=q.1/\Ap K G p.2 q.2) (kvs.map λkv=>if kv.1=k then (kv.1,v) else kv) (kds.map λkv=>if kv.1=k then (kv.1,d) else kv)
 |_,_,.nil=>.nil
 | (k1,v1)::kvs,(k2,d2)::kds,.cons (e,r) t=>by
  have e:k1=k2:=e;subst e;rw[BO,BO];refine .cons ?_<|Ri j t;by_cases hk:k1=k
  ·rw[AM hk,AM hk];exact(rfl,j)
  ·rw[AL hk,AL hk];exact(rfl,r)
theorem Rb {G:Hp}{k:AV}{v:V}{d:D}{kvs:List (AV × V)}{j:List (AV × D)}(z:Ap K G v d) (h:Paired (λ(p:AV × V) (q:AV × D)=>p.1=q.1/\Ap K G p.2 q.2) kvs j) :
  Paired (λ(p:AV × V) (q:AV × D)=>p.1=q.1/\Ap K G p.2 q.2) (putK kvs k v) (putD j k d):=by
 unfold putK putD;rw[RU h];split
 ·exact Ri z h
 ·exact Paired.snoc h (rfl,z)
theorem Rr (p:Po (.dct []) M):JO K tDNewK M Po:=λg G H Z Q k c q h=>by
 obtain⟨a,d⟩:=k.fresh (od:=.dct []) h (show OwnRep K G (.dK []) (.dct []) from .nil);exact c q _ G _ M a (Same.refl _) d p
theorem Zzf (J:M[n]?=some x) (ho:x.od=some od) (h:JE K tb M λe M1=>∃y kvs i d,M1[n]?=some y/\y.od=some (.dct kvs)/\e=.int i/\valD kvs (.inl i)=some d/\P d M1):JE K (tOp (rIxU K) (tVar n) tb) M P:=λg G H Z Q k c=>by
 obtain⟨a,o,b,m,q,r,s⟩:=k.own n x _ J ho;refine(.ref a,b,h g G H Z _ k λv e G1 H1 M1 k1 s1 r1 (y,kvs,i,d,q1,q2,q3,q4,p)=>?_);subst q3;cases r1.inv;obtain⟨A,O,w,f,W,t,B⟩:=k1.own n y _ q1 q2;rw[b]at w;cases w;cases O with
 |dK vs=>
  obtain⟨u,j,l⟩:=NX W q4;exact .inr (a,u,rfl,(by have:=DGet.k (k:=Sum.inl i) f;rw[j]at this;exact this),c u d G1 H1 M1 k1 s1 l p)
 |_=>exact absurd W (λz=>z)
theorem Zx6 {n:Nat}{U te:TE}{L:EL}(h:JE K te M λd M1=>(∃x od,M1[n]?=some x/\x.od=some od)/\JE K U M1 λe M2=>∃x kvs i,M2[n]?=some x/\x.od=some (.dct kvs)/\e=.int i/\kvs.length<sizeLine/\L.nx (M2.set n<|x.put (.dct<|putD kvs (.inl i) d))) :
  JS K (tAsg te<|gSub (tVar n) U rSetU) M L:=λg G H Z E k c=>
 h g G H Z _ k λv d l m M1 f S R Q=>by
  obtain⟨⟨x,od,X,O⟩,P⟩:=Q;obtain⟨a,o,b,t,B,C,F⟩:=f.own n x _ X O;refine(.ref a,b,P g l m Z _ f λu e G2 H2 M2 k2 s2 r2 (y,kvs,i,q1,q2,q3,q4,p)=>?_);subst q3;cases r2.inv;obtain⟨A,r,W,s,j,I,J⟩:=k2.own n y _ q1 q2;rw[b]at W;cases W;cases r with
  |dK vs=>
   have w:Paired (λ(p:AV × V) (q:AV × D)=>p.1=q.1/\Ap K G2 p.2 q.2) vs kvs:=j;exact .inr (a,_,rfl,DPut.k (k:=Sum.inl i) s (by rw[Paired.length w];exact q4),c.nx Z G2 _ _ (k2.write q1 q2 b (show OwnRep K G2 (.dK<|putK vs (.inl i) v) (.dct<|putD kvs (.inl i) d) from Rb (R.mono s2) w)) p)
  |_=>exact absurd j (λz=>z)
theorem Bg (j:ds=[.lst es]\/ds=[.tup es]) (p:P (.int es.length) M):JC K (rLenU K) ds M P:=λg G H Z Q v k s c=>.inl<|Tq j p g G H Z Q v k s c
theorem Hq (j:M[n]?=some x) (ho:x.od=some (.lst ds)) (p:P (.int ds.length) M):JE K (tCB (rLenU K)<|tCons (tVar n) tNil) M P:=λg G H Z Q k c=>by
 obtain⟨v,h,a⟩:=Zyb j ho p g G H Z Q k c;exact(v,h,.inl a)
def cutD (ds:List D) (lo hi:Option Int):List D:=(ds.drop<|HT.sIx ds.length 0 lo).take (HT.sIx ds.length ds.length hi-HT.sIx ds.length 0 lo)
theorem Wf {α:Type}(xs:List α) (lo hi:Option Int) (h:HT.sIx xs.length 0 lo=0/\HT.sIx xs.length xs.length hi=xs.length):(xs.drop<|HT.sIx xs.length 0 lo).take (HT.sIx xs.length xs.length hi-HT.sIx xs.length 0 lo)=xs:=by
 rw[h.1,h.2];simp
def JO2 (t:TO) (M:AI) (K:W.Frag) (P:Option Int->AI->Prop):Prop:=
 ∀g G H Z (Q:Option Int->Hp->Prop),Ok K g G H Z M -> (∀o G' H' M',Ok K g G' H' Z M' -> Same G G' -> P o M' -> Q o H')->t Z H Q
theorem E7 {P:Option Int->AI->Prop}(p:P none M):JO2 tNoPart M K P:=λg G H Z Q k c=>c none G H M k (Same.refl _) p
theorem FA {P:Option Int->AI->Prop}(h:JE K te M λd M1=>∃i,d=.int i/\P (some i) M1):JO2 (tPart te) M K P:=λg G H Z Q k c=>
 h g G H Z _ k λv d a b M1 f s r q=>by obtain⟨i,e,p⟩:=q;subst e;cases r.inv;exact(i,rfl,c (some i) a b M1 f s p)
def slD (d:D) (lo hi:Option Int):Option D:=match d with
 |.lst ds=>some (.lst (cutD ds lo hi))
 |.scr ds=>some (.lst (cutD ds lo hi))
 |.tup ds=>some (.tup (cutD ds lo hi))
 |_=>none
theorem FF (h:JE K te M λd M1=>JO2 tl M1 K λlo M2=>JO2 th M2 K λhi M3=>∃e,slD d lo hi=some e/\P e M3):JE K (tSl (rSlU K) te tl th) M P:=λg G H Z Q k c=>
 h g G H Z _ k λv d l n M1 r z R u=>u g l n Z _ r λlo m o M2 t S x=>x g m o Z _ t λhi A B M3 a j i=>by
  obtain⟨e,E,p⟩:=i;have y:=R.mono<|S.trans j;have C:=c.up<|z.trans<|S.trans j;cases y with
  |lst ha rs=>
   cases E;refine .inl (_,_,rfl,SqL.of<|a.live _ _ ha,λq b=>?_);obtain⟨f,s⟩:=a.laid b (.lst _);refine C _ _ _ _ M3 f s (.lst Bh<|Reps.mono s ?_) p;unfold cutV cutD;rw[rs.length];exact(rs.drop _).take _
  |scr ha rs=>
   cases E;refine .inl (_,_,rfl,a.live.seq ha,λq b=>?_);obtain⟨f,s⟩:=a.laid b (.lst _);refine C _ _ _ _ M3 f s (.lst Bh<|Reps.mono s ?_) p;unfold cutV cutD;rw[rs.length];exact(rs.drop _).take _
  |tup ha rs=>
   cases E;refine .inr (_,_,rfl,SqT.of<|a.live _ _ ha,λw=>?_,λw q b=>?_)
   ·rw[rs.length]at w
    refine C _ _ _ _ M3 a (Same.refl _) (.tup ha ?_) p;unfold cutD;rw[Wf _ _ _ w];exact rs
   ·obtain⟨f,s⟩:=a.laid b (.tup _)
    refine C _ _ _ _ M3 f s (.tup Bh<|Reps.mono s ?_) p;unfold cutV cutD;rw[rs.length];exact(rs.drop _).take _
  |_=>cases E
theorem TM (h:JE K te M λd M1=>∃ds,d=.tup ds/\P (.tup ds.reverse) M1):JE K (tSlR K te) M P:=λg G H Z Q k c=>
 h g G H Z _ k λv d l m M1 b j r a=>by
  obtain⟨ds,e,p⟩:=a;subst e;obtain⟨_,_,rfl,A,S⟩:=r.inv
  next=>
   refine(_,_,rfl,SqT.of<|b.live _ _ A,λq f=>?_);obtain⟨i,s⟩:=b.laid f (.tup _);exact c _ _ _ _ M1 i (j.trans s) (.tup Bh<|S.reverse.mono s) p
theorem Cz {P:List D->AI->Prop}(h:JE K tl M λd M1=>∃ds,(d=.lst ds\/d=.scr ds)/\P ds M1):JI K (iSeq K tl) M P:=λg G H Z R k c=>.inl<|Zyn h g G H Z R k c
theorem DH {P:List D->AI->Prop}(h:JE K tl M λd M1=>∃ds,d=.tup ds/\P ds M1):JI K (iSeq K tl) M P:=λg G H Z R k c=>.inr<|TL h g G H Z R k c
def truD:D->Option Bool
 |.non=>some false
 |.bl b=>some b
 |.int i=>some (i != 0)
 |.lst ds=>some !ds.isEmpty
 |.tup ds=>some !ds.isEmpty
 |_=>none
theorem Reps.isEmpty (r:Reps K G vs ds):vs.isEmpty=ds.isEmpty:=by cases r <;> rfl
theorem CI (h:JE K t M λd M1=>∃b,truD d=some b/\Pb b M1):JT K (tTru K t) M Pb:=λg G H Z Q k c=>
 h g G H Z _ k λv d j l M1 f s r q=>by
  obtain⟨b,e,p⟩:=q;refine(b,?_,c b j l M1 f s p);cases r with
  |non=>cases e;rfl
  |bl b=>cases e;rfl
  |int i=>cases e;rfl
  |str x=>cases e
  |ty n=>cases e
  |scr ha rs=>cases e
  |adr a=>cases e
  |dct ha hl rs=>cases e
  |exc ha=>cases e
  |excR ha hb=>cases e
  |lst ha rs=>cases e;exact .inl (_,SqL.of (f.live _ _ ha),by rw[rs.isEmpty])
  |tup ha rs=>cases e;exact .inr (.inl (_,SqT.of (f.live _ _ ha),by rw[rs.isEmpty]))
def tyD:D->Option String
 |.non=>some "NoneType"
 |.bl _=>some "bool"
 |.int _=>some "int"
 |.str _=>some "str"
 |.lst _=>some "list"
 |.tup _=>some "tuple"
 |.dct _ _=>some "dict"
 |_=>none
theorem T4 (ht:tyD d=some T) (e:∀K,PySem.W.kitOne K (.type T) (.type n)=some b) (p:P (.bl b) M):JC K (rIsi K) [d,.ty n] M P:=λg G H Z Q v k s c=>by
 obtain⟨_,_,rfl,r,t⟩:=s.inv
 next=>
  obtain⟨_,_,rfl,R,t⟩:=t.inv
  next=>
   cases t.inv;cases R.inv;refine(_,n,.type T,b,rfl,?_,e K,c _ _ G H M k (Same.refl _) (.bl b) p);cases r with
   |non=>cases ht;exact .non
   |bl b=>cases ht;exact .bl b
   |int i=>cases ht;exact .int i
   |str x=>cases ht;exact .str x
   |ty n=>cases ht
   |scr ha s=>cases ht
   |adr a=>cases ht
   |dct ha hl s=>cases ht;exact .dK (k.live _ _ ha)
   |exc ha=>cases ht
   |excR ha hb=>cases ht
   |lst ha s=>cases ht;exact .lst (k.live _ _ ha)
   |tup ha s=>cases ht;exact .tup (k.live _ _ ha)
theorem Ds (h:JE K ta M λd M1=>∃b,d=.bl b/\if b=true then JE K tb M1 P else P (.bl false) M1):JE K (tAndV ta tb) M P:=λg G H Z Q k c=>
 h g G H Z _ k λv d a f M1 i s r q=>by
  obtain⟨b,e,p⟩:=q;subst e;cases r.inv;refine(b,rfl,?_);cases b with
  |true=>exact(show JE K tb M1 P from p) g a f Z Q i (c.up s)
  |false=>exact c _ _ a f M1 i s (.bl false) p
theorem TF (h:JE K ta M λd M1=>∃b,d=.bl b/\if b=true then P (.bl true) M1 else JE K tb M1 P):JE K (tOrV ta tb) M P:=λg G H Z Q k c=>
 h g G H Z _ k λv d a f M1 i s r q=>by
  obtain⟨b,e,p⟩:=q;subst e;cases r.inv;refine(b,rfl,?_);cases b with
  |false=>exact(show JE K tb M1 P from p) g a f Z Q i (c.up s)
  |true=>exact c _ _ a f M1 i s (.bl true) p
theorem LQ (h:JE K ta M λd M1=>∃b,d=.bl b/\P (.bl !b) M1):JE K (tNotV ta) M P:=λg G H Z Q k c=>
 h g G H Z _ k λv d a f M1 i s r q=>by
  obtain⟨b,e,p⟩:=q;subst e;cases r.inv;exact(b,rfl,c _ _ a f M1 i s (.bl !b) p)
theorem JQ {to te:TE}(h:JE K to M λd M1=>∃ns:List Int,d=.tup (ns.map D.int)/\JE K te M1 λe M2=>∃i j,e=.int i/\ns[j]?=some i/\(∀m,m<j->ns[m]?≠some i)/\P (.int (j:Nat)) M2) :
  JE K (tBM K "tuple" (rIndexT K) to<|tCons te tNil) M P:=λg G H Z Q k c=>
 h g G H Z _ k λv d o r M1 l x R f=>by
  obtain⟨ns,e,t⟩:=f;subst e;obtain⟨a,y,rfl,A,S⟩:=R.inv
  next=>
   refine(.inr (.inl (rfl,.inr (_,l.live _ _ A))),t g o r Z _ l λu e G2 H2 M2 k2 s2 r2 (i,j,q1,q2,q3,p)=>?_);subst q1;cases r2.inv;have E:y=ns.map V.int:=S.ints;subst E;have J:j<ns.length:=(BZ.mp q2).1;refine(a,_,.int i,j,rfl,rfl,SqT.of<|k2.live _ _<|s2 _ _ A,rfl,?_,by simpa using J,(.int i,by rw[Ad,q2];rfl,by simp[eqV]),λm z s b=>?_,c _ _ G2 H2 M2 k2 (x.trans s2) (.int _) p)
   ·rw[HK];exact DW.mpr λ_ _=>rfl
   ·rw[Ad]at b
    cases e:ns[m]? with
    |none=>rw[e]at b;cases b
    |some w=>
     rw[e]at b;have b:V.int w=z:=by simpa using b
     subst b;have n:w≠i:=λq=>q3 m s (by rw[e,q]);show (w == i)=false;exact beq_eq_false_iff_ne.mpr n
end
section
variable {K:W.Frag}{g:Gm}{G H:Hp}{Z:St}{M:AI}
theorem Ok.setVal' (k:Ok K g G H Z M) (i:Nat) (r:Ap K G v d):Ok K g G H (Z.set i<|some v) (M.set i (.val d)):=by
 by_cases hi:i < M.length
 ·exact k.setVal hi r
 ·have h:=k.len
  rw[Js (l:=Z) #[2],Js (l:=M) #[2]];exact k
theorem Ok.setOwn' (k:Ok K g G H Z M) (i:Nat) (p:Pend K g G H Z M a od):Ok K g G H (Z.set i<|some (.ref a)) (M.set i (.own od)):=by
 by_cases hi:i < M.length
 ·exact k.setOwn hi p
 ·have h:=k.len
  rw[Js (l:=Z) #[3],Js (l:=M) #[3]];exact k
theorem Tj (h:JE K te M λd M1=>P.nx (M1.set i (.val d))):JS K (tAsg te<|gName i) M P:=λg G H Z E k c=>
 h g G H Z _ k λv d a b M1 e s r p=>c.nx _ a b _ (e.setVal' i r) p
theorem Zx0 (h:JO K te M λod M1=>P.nx (M1.set i (.own od))):JS K (tAsg te<|gName i) M P:=λg G H Z E k c=>
 h g G H Z _ k λa od b d M1 e s D p=>c.nx _ b d _ (e.setOwn' i D) p
theorem Zzj (h:JA K ta M λds M1=>∃d e,ds=[d,e]/\P.nx ((M1.set i (.val d)).set j (.val e))):JS K (tPar i j ta) M P:=λg G H Z E k c=>
 h g G H Z _ k λv ds a b M1 f s R q=>by
  obtain⟨d,e,D,p⟩:=q;subst D;obtain⟨_,_,rfl,A,r⟩:=R.inv
  next=>
   obtain⟨_,_,rfl,B,r⟩:=r.inv
   next=>
    cases r.inv;exact(_,_,rfl,c.nx _ a b _ ((f.setVal' i A).setVal' j B) p)
theorem BW (p:P (M.set i (.val d))):JG K (gName i) d M P:=λg G H Z v R k r c=>c _ G H _ (k.setVal' i r) (Same.refl _) p
theorem Gh (z:i<n) (p:P (M.set i (.val d))):JGn K n (gName i) d M P:=λg G H Z v R k r c=>
 c _ G H _ (k.setVal' i r) (Same.refl _) (λj h=>B9 #[2]) p
theorem Tn {n:Nat}{te:TE}{z:EL}{x:Slot}{j:List D}(J:M[n]?=some x) (ho:x.od=some (.lst j))
  (h:JE K te M λd M1=>∃y ds,M1[n]?=some y/\y.od=some (.lst ds)/\ds.length<sizeLine/\z.nx (M1.set n<|y.put (.lst<|ds++[d]))) :
  JS K (tDrop<|tBM K "list" rAppend (tVar n)<|tCons te tNil) M z:=WS J ho (_,rfl) h
end
#check 8
theorem B6 (p:nx M):JS K tNext M (nx,rt,bk,ct,ro):=Zy7 p
theorem Ae (h:JS K t M (λM1=>JS K u M1 (nx,rt,bk,ct,ro),rt,bk,ct,ro)):JS K (tSeq t u) M (nx,rt,bk,ct,ro):=R9 h
theorem B3 (I:AI->Prop) (h1:JS K t M (I,rt,bk,ct,ro)) (h2:∀M1,I M1->JS K u M1 (nx,rt,bk,ct,ro)):JS K (tSeq t u) M (nx,rt,bk,ct,ro):=
 R9 (h1.mono h2 (λ_ _ z=>z) (λ_ z=>z) (λ_ z=>z) λ_ _ z=>z)
theorem BK (h:JE K te M rt):JS K (tRet te) M (nx,rt,bk,ct,ro):=T2 h
theorem Gk (h:JO K te M ro):JS K (tRet te) M (nx,rt,bk,ct,ro):=Zwx h
theorem B4 (h:JT K c M λb M1=>if b=true then JS K t M1 (nx,rt,bk,ct,ro) else JS K u M1 (nx,rt,bk,ct,ro)):JS K (tIfS c t u) M (nx,rt,bk,ct,ro):=UE h
theorem BM (h:JE K te M λd M1=>nx (M1.set i (.val d))):JS K (tAsg te<|gName i) M (nx,rt,bk,ct,ro):=Tj h
theorem DI (h:JO K te M λod M1=>nx (M1.set i (.own od))):JS K (tAsg te<|gName i) M (nx,rt,bk,ct,ro):=Zx0 h
theorem Nu (h:JA K ta M λds M1=>∃d e,ds=[d,e]/\nx ((M1.set i (.val d)).set j (.val e))):JS K (tPar i j ta) M (nx,rt,bk,ct,ro):=Zzj h
theorem FY (h:JE K te M λd M1=>JG K t d M1 nx):JS K (tAsg te t) M (nx,rt,bk,ct,ro):=Zz3 h
theorem F5 {n:Nat}{te:TE}{x:Slot}{j:List D}(z:M[n]?=some x) (ho:x.od=some (.lst j))
  (h:JE K te M λd M1=>∃y ds,M1[n]?=some y/\y.od=some (.lst ds)/\ds.length<sizeLine/\nx (M1.set n<|y.put (.lst<|ds++[d]))) :
  JS K (tDrop<|tBM K "list" rAppend (tVar n)<|tCons te tNil) M (nx,rt,bk,ct,ro):=Tn z ho h
theorem LC {n:Nat}{z te:TE}(h:JE K te M λd M1=>(∃x ds,M1[n]?=some x/\x.od=some (.lst ds))/\JE K z M1 λe M2=>∃x ds i j,M2[n]?=some x/\x.od=some (.lst ds)/\e=.int i/\ixN ds.length i=some j/\nx (M2.set n<|x.put (.lst<|ds.set j d))) :
  JS K (tAsg te<|gSub (tVar n) z rSetU) M (nx,rt,bk,ct,ro):=V4 (h.mono λd M1 ((x,ds,h1,h2),h3)=>((x,_,h1,h2),h3))
theorem RH {n:Nat}{j te:TE}(h:JE K te M λd M1=>(∃x kvs,M1[n]?=some x/\x.od=some (.dct kvs))/\JE K j M1 λe M2=>∃x kvs i,M2[n]?=some x/\x.od=some (.dct kvs)/\e=.int i/\kvs.length<sizeLine/\nx (M2.set n<|x.put (.dct<|putD kvs (.inl i) d))) :
  JS K (tAsg te<|gSub (tVar n) j rSetU) M (nx,rt,bk,ct,ro):=Zx6 (h.mono λd M1 ((x,ds,h1,h2),h3)=>((x,_,h1,h2),h3))
theorem DK {j:TI}{t:TG}{tb:TS}(h:JI K j M λds M1=>∃I:Nat->AI->Prop,I 0 M1/\(∀i d M2,ds[i]?=some d->I i M2->JG K t d M2 λM3=>JS K tb M3 (I<|i+1,rt,nx,I<|i+1,ro))/\∀M2,I ds.length M2->nx M2) :
  JS K (tFor j t tb) M (nx,rt,bk,ct,ro):=Zz4 h
theorem NS {c:TT}{tb:TS}(I:Nat->AI->Prop) (h0:∃m,I m M) (ht:∀m M1,I m M1->JT K c M1 λb M2=>if b=true then JS K tb M2 (λM3=>∃m',m'<m/\I m' M3,rt,nx,λM3=>∃m',m'<m/\I m' M3,ro) else nx M2) :
  JS K (tWhile c tb) M (nx,rt,bk,ct,ro):=Zuf I h0 ht
end
theorem Nn {α β:Type}{f:α -> β}{xs:List α}(h0:0<=i) (h1:i<(xs.length:Int)):∃c,xs[i.toNat]?=some c/\atI (xs.map f) i=some (f c):=by
 have k:i.toNat<xs.length:=#[2]
 have e:i=((i.toNat:Nat):Int):=#[2]
 have q:xs[i.toNat]?=some xs[i.toNat]:=AS k;generalize xs[i.toNat]=c at q;refine(c,q,?_);have z:atI (xs.map f) ((i.toNat:Nat):Int)=some (f c):=Co (by rw[Ad,q];rfl);rw[<- e]at z;exact z
theorem N3:bootBuiltins "abs" = some (.builtin "abs"):=#[0]
theorem BN:bootBuiltins "len" = some (.builtin "len"):=#[0]
theorem Gn:bootBuiltins "min" = some (.builtin "min"):=#[0]
theorem F3:bootBuiltins "max" = some (.builtin "max"):=#[0]
theorem FW:bootBuiltins "isinstance" = some (.builtin "isinstance"):=#[0]
theorem N5:bootBuiltins "all" = some (.builtin "all"):=#[0]
theorem Hk:bootBuiltins "sorted" = some (.builtin "sorted"):=#[0]
theorem Cr:bootBuiltins "tuple" = some (.type "tuple"):=#[0]
theorem Gj:bootBuiltins "list" = some (.type "list"):=#[0]
theorem LV:bootBuiltins "set" = some (.type "set"):=#[0]
theorem Rv:bootBuiltins "int" = some (.type "int"):=#[0]
theorem RF:bootBuiltins "bool" = some (.type "bool"):=#[0]
structure Callee (P:Program) (w:World) (K:W.Frag) (mg:Str->Option Value) (base:Heap) (k:Nat) (x:Str) (ps:List Str) (sp:Sp):Prop where
 ex:∃(f:Addr) (fd:FuncData),FnOk P w K mg base CX0 k f fd ps sp/\Binds K fd ps []/\W.keepIn K (.ref f)=true/\mg x=some (.ref f)
section
variable {X:Cx}{k:Nat}{x:Str}{ps:List Str}{sp:Sp}{e:Expr}{es:List Expr}{t:TA}{p pos:Pos}
theorem Am (C:Callee X.prog X.w X.K X.mg X.base k x ps sp) (U:Room k X.A) (z:PA X (e::es) t) (O:Gl X x:=by rfl) (j:(x == ("__debug__":Str))=false:=by decide)
  (J:starEach (e::es) X.env=(false,eval e X.env)::starEach es X.env:=by rfl) (L:(backTo pos<|starEach es X.env).any (·.1)=false:=by rfl):PE X (.Call (.Name x p) (e::es) [] pos) (tCall sp [] E0 t):=by
 obtain⟨f,d,F,b,P,m⟩:=C.ex;exact Zyl F U O m P b .nil pass0 z j J L
end
def fixD (sel:List Nat) (M:AI):AI:=sel.map λi=>(M[i]?).getD .any
theorem Ka (ht:ts.length=n):backD n sel (ts++fixD sel M) 0 M = M:=by
 apply Dz;intro i;rw[HZ];cases q:M[i]? with
 |none=>rfl
 |some x=>
  show some (backAt n sel (ts++fixD sel M) (0+i) x)=some x;congr 1;rw[GL];have y:∀j,sel.idxOf? i=some j->(ts++fixD sel M)[n+j]?=some x:=λj h=>by
   rw[Ci #[2],ht,Nat.add_sub_cancel_left];unfold fixD;rw[Ad,Kn h];show some ((M[i]?).getD .any)=_;rw[q];rfl
  unfold backAt;cases x with
  |any=>rfl
  |val d=>rfl
  |own o=>
   dsimp only;cases e:sel.idxOf? i with
   |none=>rfl
   |some j=>dsimp only;rw[y j e]
  |bor o=>
   dsimp only;cases e:sel.idxOf? i with
   |none=>rfl
   |some j=>dsimp only;rw[y j e]
  |ownA a o=>
   dsimp only;cases e:sel.idxOf? i with
   |none=>rfl
   |some j=>dsimp only;rw[y j e]
#check 3
theorem DZ (L:sel.Nodup)
  (h:JI K wi M λds M1=>ds.length<sizeLine/\∃(p:D->Bool) (f:D->D),
   (∀(i:Nat) d,ds[i]?=some d->JT K tc (.val d::fixD sel M1) λb M4=>b=p d/\if b=true then JE K te M4 λe M5=>e=f d/\∃x,M5=x::fixD sel M1 else ∃x,M4=x::fixD sel M1) /\
   P (.lst ((ds.filter p).map f)) M1):JE K (tComp 1 sel wi (gName 0) tc te) M P:=by
 refine QU L λg G H Z R k c=>h g G H Z R k λJ ds G' H' M' k' s' it (z,p,f,ht,he)=>c J ds G' H' M' k' s' it (z,fixD sel M',p,f,rfl,λi d t a s=>?_,?_)
 ·refine Gh #[1] ?_
  obtain⟨x,rfl⟩:∃x,t=[x]:=by
   match t,s with
   |[x],_=>exact(x,rfl)
  intro g G H Z Q k c;refine ht i d a g G H Z Q k λb G1 H1 M1 k1 s1 (e1,q)=>c b G1 H1 M1 k1 s1 (e1,?_);cases b with
  |true=>
   rw[AM rfl]at q ⊢;exact q.mono λe M5 (e2,x,E)=>(e2,[x],rfl,E)
  |false=>
   rw[AL BL]at q ⊢;obtain⟨x,E⟩:=q;exact([x],rfl,E)
 ·rw[Ka #[4]];exact he
theorem Hn (L:sel.Nodup)
  (h:JI K wi M λds M1=>ds.length<sizeLine/\∃(p:D->Bool) (f:D->D),
   (∀(i:Nat) d,ds[i]?=some d->JT K tc (.val d::fixD sel M1) λb M4=>b=p d/\if b=true then JE K te M4 λe M5=>e=f d/\∃x,M5=x::fixD sel M1 else ∃x,M4=x::fixD sel M1) /\
   Po (.lst ((ds.filter p).map f)) M1):JO K (tComp 1 sel wi (gName 0) tc te) M Po:=by
 refine RX L λg G H Z R k c=>h g G H Z R k λJ ds G' H' M' k' s' it (z,p,f,ht,he)=>c J ds G' H' M' k' s' it (z,λi s M=>s=((ds.take i).filter p).map f/\∃x,M = x::fixD sel M',(#[4],.any,rfl),?_,?_)
 ·rintro i d s m a ⟨rfl,x,rfl⟩
  have t:ds.take (i+1)=ds.take i++[d]:=by
   rw[Cy,a];rfl
  refine Gh #[1] ?_;intro g G H Z Q k c;refine ht i d a g G H Z Q k λb G1 H1 M1 k1 s1 (e1,q)=>c b G1 H1 M1 k1 s1 ?_;cases b with
  |true=>
   rw[AM rfl]at q ⊢;refine q.mono λe M5 (e2,x,E)=>(?_,x,E);rw[t,Cw,A5,CA,<- e1,e2];rfl
  |false=>
   rw[AL BL]at q ⊢;obtain⟨x,E⟩:=q;refine(?_,x,E);rw[t,Cw,A5,CA,<- e1];simp
 ·rintro s m ⟨rfl,x,rfl⟩
  rw[CP,show (x::fixD sel M')=[x]++fixD sel M' from rfl,Ka #[4]];exact he
theorem NN (L:sel.Nodup)
  (h:JI K wi M λds M1=>ds.length<sizeLine/\∃(p:D->Bool) (f:D->D),
   (∀(i:Nat) d,ds[i]?=some d->∃a b,d=.tup [a,b]/\JT K tc (.val a::.val b::fixD sel M1) λt M4=>t=p d/\if t=true then JE K te M4 λe M5=>e=f d/\∃x y,M5=x::y::fixD sel M1 else ∃x y,M4=x::y::fixD sel M1) /\
   P (.lst ((ds.filter p).map f)) M1):JE K (tComp 2 sel wi (gTup K 2 (gCons (gName 0) (gCons (gName 1) gNil))) tc te) M P:=by
 refine QU L λg G H Z R k c=>h g G H Z R k λJ ds G' H' M' k' s' it (z,p,f,ht,he)=>c J ds G' H' M' k' s' it (z,fixD sel M',p,f,rfl,λi d S j s=>?_,?_)
 ·obtain⟨a,b,rfl,l⟩:=ht i d j
  refine Zw7 rfl<|P8<|Gh #[1]<|P8<|Gh #[1]<|Zu7 ?_;obtain⟨x,y,rfl⟩:∃x y,S=[x,y]:=by
   match S,s with
   |[x,y],_=>exact(x,y,rfl)
  intro g G H Z Q k c;refine l g G H Z Q k λb G1 H1 M1 k1 s1 (e1,q)=>c b G1 H1 M1 k1 s1 (e1,?_);cases b with
  |true=>
   rw[AM rfl]at q ⊢;exact q.mono λe M5 (e2,x,y,E)=>(e2,[x,y],rfl,E)
  |false=>
   rw[AL BL]at q ⊢;obtain⟨x,y,E⟩:=q;exact([x,y],rfl,E)
 ·rw[Ka #[4]];exact he
end
def tGhost (base:Nat) (t:TS):TS:=λE Z H=>t { E with nx:=λz h=>∃Z2:St,Z2.length = z.length/\(∀i,i<base -> Z2[i]? = z[i]?)/\E.nx Z2 h } Z H
theorem Zvv {st:Stmt}(base:Nat) (J:∀x∈X.N.drop base,X.env.scope.names.lookup x=none) (h:PS X st t):PS X st (tGhost base t):=by
 intro pins s Z H E I hw;refine thn (h pins s Z H _ I hw) λf k q=>?_;cases f with
 |next=>
  obtain⟨j,d,a,g,L,S,q⟩:=q;refine(g,d,(a.ok,a.os,a.bare,a.base,?_,a.cell,a.free,a.freeC,a.pin,a.hok,L.trans a.len),q);obtain⟨m,n,l⟩:=a.loc;refine(m,n,λi x v e b c=>?_);by_cases hi:i<base
  ·rw[S i hi]at b;exact l i x v e b c
  ·have M:x∈X.N.drop base:=by
    refine Bd (i:=i-base) ?_;rw[HG,show base+(i-base)=i by lia];exact e
   have z:=J x M;rcases c with w|w|w <;> (rw[z]at w;cases w)
 |ret v=>exact q
 |brk=>exact q
 |cont=>exact q
def Nest (K:W.Frag) (g:Gm) (G H:Hp) (Z:St) (M:AI) (cs:List (Addr × HO)) (O:List OD):Prop:=
 (cs.map (·.1)).Nodup/\Paired (λ(c:Addr × HO) (od:OD)=>OwnRep K G c.2 od) cs O/\∀c∈cs,H c.1=some c.2/\G c.1=none/\g.Hz c.1=none/\g.Xo c.1=none/\∀(i:Nat) x od',M[i]?=some x->x.od=some od' -> Z[i]?≠some (some (.ref c.1))
def JN (K:W.Frag) (t:TE) (M:AI) (P:List OD->AI->Prop):Prop:=
 ∀g G H Z Q,Ok K g G H Z M -> (∀acc cs ods G' H' M',Ok K g G' H' Z M' -> Same G G' -> Ap K G' (.ref acc) (.lst (cs.map λ(c:Addr × HO)=>D.adr c.1))->g.Hz acc=none->Nest K g G' H' Z M' cs ods->P ods M' -> Q (.ref acc) H')->t Z H Q
#check 1
def cellAt (cs:List (Addr × HO)) (b:Addr):Option HO:=(cs.find? λc=>decide (c.1=b)).map (·.2)
theorem MZ:cellAt cs b=none ↔ ∀c∈cs,c.1≠b:=by
 unfold cellAt;rw[Option.map_eq_none_iff,List.find?_eq_none];constructor
 ·intro h c hc e;exact h c hc<|Au e
 ·intro h c hc e;exact h c hc<|of_decide_eq_true e
theorem Pa (z:(cs.map (·.1)).Nodup) (j:c∈cs):cellAt cs c.1=some c.2:=by
 induction cs with
 |nil=>cases j
 |cons d r ih=>
  rw[BO,DB]at z;unfold cellAt;rcases Az.mp j with e|j
  ·subst e;simp
  ·have n:d.1≠c.1:=λe=>z.1 (by rw[e];exact A2.mpr (c,j,rfl))
   rw[HA (by simpa using n)];exact ih z.2 j
open Classical in
noncomputable def asideN (g:Gm) (sel:List Nat) (Z:St) (M:AI) (H:Hp) (acc:Addr) (cs:List (Addr × HO)):Hp:=λb=>
 if b=acc then some (.lst (cs.map λc=>V.ref c.1)) else match cellAt cs b with
  |some o=>some o
  |none=>if ∃(i:Nat) (x:Slot) (od:OD),M[i]?=some x/\x.od=some od/\i ∉ sel /\ Z[i]?=some (some (.ref b)) then H b else g.Xo b
theorem JH:asideN g sel Z M H acc cs acc=some (.lst (cs.map λc=>V.ref c.1)):=by unfold asideN;rw[AM rfl]
theorem JF (j:b≠acc) (e:cellAt cs b=some o):asideN g sel Z M H acc cs b=some o:=by unfold asideN;rw[AL j,e]
theorem JJ (j:b≠acc) (e:cellAt cs b=none) (z:∃(i:Nat) (x:Slot) (od:OD),M[i]?=some x/\x.od=some od/\i ∉ sel /\ Z[i]?=some (some (.ref b))):asideN g sel Z M H acc cs b=H b:=by
 unfold asideN;rw[AL j,e];exact AM z
theorem Iz (j:b≠acc) (e:cellAt cs b=none) (z:¬ ∃(i:Nat) (x:Slot) (od:OD),M[i]?=some x/\x.od=some od/\i ∉ sel /\ Z[i]?=some (some (.ref b))):asideN g sel Z M H acc cs b=g.Xo b:=by
 unfold asideN;rw[AL j,e];exact AL z
theorem Zxc (c6:sel.Nodup)
  (h:JI K wi M λds M1=>ds.length<sizeLine/\∃I:Nat->List OD->AI->Prop,I 0 [] (compD n sel M1) /\
   (∀i d ys M2,ds[i]?=some d->I i ys M2->JGn K n t d M2 λM3=>JT K tc M3 λb M4=>if b=true then JO K te M4 λe M5=>I (i+1) (ys++[e]) M5 else I (i+1) ys M4) /\
   ∀ys M2,I ds.length ys M2->P ys (backD n sel M2 0 M1)):JN K (tComp n sel wi t tc te) M P:=λg G H Z Q k c=>
 h g G H Z _ k λJ ds G1 H1 M1 k1 s1 it (hz,I,h0,ht,he) acc hacc=>by
  have b4:∀(i:Nat) x O,M1[i]?=some x->x.od=some O -> Z[i]?≠some (some (.ref acc)):=λi x O v p T=>by
   obtain⟨a,o,w,W,_⟩:=k1.own i x O v p;rw[T]at w;cases w;rw[hacc]at W;cases W
  let Wd:Nat->St->Hp->Prop:=λi Y H'=>i<=ds.length/\(∀j,n<=j -> Y[j]?=(compSt n sel Z)[j]?)/\∃G ys s Mi,s.length<=i/\(s.map (·.1)).Nodup/\(∀c∈s,c.1≠acc/\g.Hz c.1=none/\g.Xo c.1=none/\∀(i:Nat) x O,M1[i]?=some x->x.od=some O->i ∉ sel -> Z[i]?≠some (some (.ref c.1)))/\Paired (λ(c:Addr × HO) (O:OD)=>OwnRep K G c.2 O) s ys /\
   Ok K (g.B,G1,g.Hz,asideN g sel Z M1 H1 acc s) G H' Y Mi/\I i ys Mi
  refine(λi m Y H'=>m=ds.length-i/\Wd i Y H',(ds.length,#[4],CS _,λ_ _=>rfl,G1,[],[],compD n sel M1,AX _,Ie,λc C=>(nomatch C),.nil,?_,h0),?_)
  ·refine Ov c6 k1 hacc λb o e=>?_
   have e:asideN g sel Z M1 H1 acc [] b=some o:=e;by_cases f:b=acc
   ·subst f;rw[JH]at e;cases e;exact .inl (rfl,rfl)
   ·by_cases X:∃(i:Nat) (x:Slot) (O:OD),M1[i]?=some x/\x.od=some O/\i ∉ sel /\ Z[i]?=some (some (.ref b))
    ·rw[JJ f rfl X]at e;exact .inr (f,.inl (X,e))
    ·rw[Iz f rfl X]at e;exact .inr (f,.inr e)
  ·rintro i m Z2 H2 ⟨rfl,hi,hZ,G2,ys,s,M2,hy,nd,S,ry,k2,h2⟩
   have s2:Same G1 G2:=k2.sub;obtain⟨b9,go⟩:=it G2 H2 s2 k2.live;by_cases hlt:i<ds.length
   ·obtain⟨g1,g2⟩:=go i _ (AS hlt)
    refine .inr (g1,λY H'=>Wd (i+1) Y H',λY H' p'=>(ds.length-(i+1),#[3],rfl,p'),λx H3 y=>?_);obtain⟨U,a1,a2,a3,a4⟩:=g2 x H3 y;have R:=k2.grow a1 a2 a3;have a6:∀b o,U b=some o->(g.Hz b=none\/G1 b=some o):=λb o q=>(R.frz b o q).2;have c0:Ok K (g.B,U,g.Hz,asideN g sel Z M1 H1 acc s) U H3 Z2 M2:=(R.same,R.lent,Same.refl _,λb o q=>((R.frz b o q).1,.inr q),R.ext,R.len,R.val,R.own,R.dis);have b6:Paired (λ(c:Addr × HO) (O:OD)=>OwnRep K U c.2 O) s ys:=Paired.mapP ry λ_ _ z=>z.mono a1;have b7:Same G1 U:=s2.trans a1;refine ht i _ ys M2 (AS hlt) h2 (g.B,U,g.Hz,asideN g sel Z M1 H1 acc s) U H3 Z2 x _ c0 a4 λZ4 G4 H4 M4 k4 s4 e4 p4=>?_;have a7:∀j,n<=j -> Z4[j]?=(compSt n sel Z)[j]?:=λj hj=>(e4 j hj).trans (hZ j hj);refine p4 _ G4 H4 Z4 _ k4 λb G5 H5 M5 k5 s5 p5=>?_;cases b with
    |false=>exact(hlt,a7,G5,ys,s,M5,#[2],nd,S,Paired.mapP b6 λ_ _ z=>z.mono (s4.trans s5),k5.base b7 a6,p5)
    |true=>
     refine(show JO K te M5 _ from p5) _ G5 H5 Z4 _ k5 λa O G6 H6 M6 k6 s6 pd p6=>?_;have c5:Paired (λ(c:Addr × HO) (O:OD)=>OwnRep K G6 c.2 O) s ys:=Paired.mapP b6 λ_ _ z=>z.mono<|s4.trans<|s5.trans s6;obtain⟨b1,b2,b3⟩:=k6.ext acc _ JH;obtain⟨oa,d1,d2,d3,d4,A,d6⟩:=pd;have A:asideN g sel Z M1 H1 acc s a=none:=A;have N:a≠acc:=by intro z;subst z;rw[JH]at A;cases A
     have a0:cellAt s a=none:=by
      cases q:cellAt s a with
      |none=>rfl
      |some o=>rw[JF N q]at A;cases A
     have a9:∀(i:Nat) x O,M1[i]?=some x->x.od=some O->i ∉ sel -> Z[i]?≠some (some (.ref a)):=λi x O v p T e4=>by
      rw[JJ N a0 (i,x,O,v,p,T,e4)]at A;obtain⟨a',o',w,W,_⟩:=k1.own i x O v p;rw[e4]at w;cases w;rw[A]at W;cases W
     have a8:g.Xo a=none:=by
      rw[Iz N a0 (λ(i,x,O,v,p,T,e4)=>a9 i x O v p T e4)]at A;exact A
     have b0:=MZ.mp a0;refine(s.map λc=>V.ref c.1,b1,by rw[AH];omega,hlt,a7,G6,ys++[O],s++[(a,oa)],M6,by rw[A1,CO];lia,?_,λc C=>?_,Paired.snoc c5 d2,?_,p6)
     ·rw[A5]
      refine DY.mpr (nd,#[4],λx X y hy=>?_);rw[Lp,BU]at hy;subst hy;obtain⟨c,C,rfl⟩:=A2.mp X;exact b0 c C
     ·rcases Bo.mp C with C|C
      ·exact S c C
      ·rw[BU.mp C];exact(N,d4,a8,a9)
     ·have F:=k6.base b7 a6
      have c1:((s++[((a,oa):_×_)]).map (·.1)).Nodup:=by
       rw[A5];refine DY.mpr (nd,#[4],λx X y hy=>?_);rw[Lp,BU]at hy;subst hy;obtain⟨c,C,rfl⟩:=A2.mp X;exact b0 c C
      have er:(s++[((a,oa):_×_)]).map (λc=>V.ref c.1)=(s.map λc=>V.ref c.1)++[V.ref a]:=#[4]
      have L:∀b o,b≠acc->H6 b=some o->(upd H6 acc (.lst ((s.map λc=>V.ref c.1)++[V.ref a]))) b=some o:=λb o f e=>by rw[As f];exact e
      refine(λb o f e=>?_,λb f=>?_,F.sub,λb o e=>?_,λb o e=>?_,F.len,F.val,λi x O v p=>?_,F.dis)
      ·have E:b≠acc:=by
        intro z;subst z;have e:g.Hz b=some o:=e;rw[k1.there hacc]at e;cases e
       exact L b o E<|F.same b o f e
      ·by_cases E:b=acc
       ·subst E;rw[Bh];intro z;cases z
       ·rw[As E];exact F.lent b f
      ·have E:b≠acc:=by intro z;subst z;rw[b2]at e;cases e
       exact(L b o E (F.frz b o e).1,(F.frz b o e).2)
      ·have e:asideN g sel Z M1 H1 acc (s++[(a,oa)]) b=some o:=e
       by_cases E:b=acc
       ·subst E
        rw[JH,er]at e;cases e;exact(Bh,b2,b3)
       ·by_cases hba:b=a
        ·subst hba
         rw[JF E (Pa c1 (c:=(b,oa))<|Bx _<|BU.mpr rfl)]at e;cases e;exact(L b _ E d1,d3,d6)
        ·have ec:cellAt (s++[(a,oa)]) b=cellAt s b:=by
          unfold cellAt;rw[List.find?_append];cases (s.find? λc=>decide (c.1=b)) with
          |some c=>rfl
          |none=>
           rw[HA (by simpa using Ne.symm hba)];rfl
         have e':asideN g sel Z M1 H1 acc s b=some o:=by
          cases q:cellAt s b with
          |some o'=>rw[JF E (ec.trans q)]at e;rw[JF E q];exact e
          |none=>
           by_cases X:∃(i:Nat) (x:Slot) (O:OD),M1[i]?=some x/\x.od=some O/\i ∉ sel /\ Z[i]?=some (some (.ref b))
           ·rw[JJ E (ec.trans q) X]at e;rw[JJ E q X];exact e
           ·rw[Iz E (ec.trans q) X]at e;rw[Iz E q X];exact e
         obtain⟨w,W,w3⟩:=F.ext b o e';exact(L b o E w,W,w3)
      ·obtain⟨a',o,w,W,w3,w4,w5⟩:=F.own i x O v p
       have E:a'≠acc:=by intro z;subst z;exact b3 i x O v p w
       exact(a',o,w,L a' o E W,w3,w4,w5)
   ·have e:i=ds.length:=by lia
    subst e;refine .inl (b9,?_);obtain⟨b1,b2,b3⟩:=k2.ext acc _ JH;have b8:=NF (M1:=M1) (M2:=M2) hZ;have k9:Ok K g G2 H2 Z (backD n sel M2 0 M1):=O7 k1 hacc k2 hZ (λb o f X e=>by
      show asideN g sel Z M1 H1 acc s b=_;rw[JJ f (MZ.mpr λc C z=>?_) X]
      ·exact e
      ·obtain⟨i0,x0,c3,f1,f2,f3,f4⟩:=X
       exact(S c C).2.2.2 i0 x0 c3 f1 f2 f3 (by rw[z];exact f4)) (λb o f X e=>by
      show asideN g sel Z M1 H1 acc s b=_;rw[Iz f (MZ.mpr λc C z=>?_) X]
      ·exact e
      ·have:=(S c C).2.2.1;rw[z,e]at this;cases this)
    -- the outer list is frozen
    have a5:∀(i:Nat) y O,(backD n sel M2 0 M1)[i]?=some y->y.od=some O -> Z[i]?≠some (some (.ref acc)):=λi y O v p=>by
     obtain⟨x',c4,f1,f2,_⟩:=b8 i y O v p;exact b4 i x' c4 f1 f2
    have b5:∀{G:Hp}(l:List (Addr × HO)),Reps K G (l.map λc=>V.ref c.1) (l.map λc=>D.adr c.1):=λ{G} l=>by
     induction l with
     |nil=>exact .nil
     |cons c r ih=>exact .cons (.adr _) ih
    have gX:g.Xo acc=none:=by
     cases q:g.Xo acc with
     |none=>rfl
     |some u=>have z:=(k1.ext acc u q).1;rw[hacc]at z;cases z
    obtain⟨kf,sf,rf⟩:=k9.freeze (a:=acc) (ds:=s.map λ(c:Addr × HO)=>D.adr c.1) (vs:=s.map λ(c:Addr × HO)=>V.ref c.1) (_,b1,(show Reps K G2 (s.map λ(c:Addr × HO)=>V.ref c.1) (s.map λ(c:Addr × HO)=>D.adr c.1) from b5 s),b2,k1.there hacc,gX,a5) b1;refine c acc s ys _ H2 _ kf (s1.trans<|s2.trans sf) rf (k1.there hacc) (nd,Paired.mapP ry λ_ _ z=>z.mono sf,λcc C=>?_)<|he ys M2 h2;obtain⟨f1,f2,f3,f4⟩:=S cc C;obtain⟨u1,u2,u3⟩:=k2.ext cc.1 cc.2<|JF f1<|Pa nd C;refine(u1,by rw[As f1];exact u2,f2,f3,λi y O v p T=>?_);obtain⟨x,c2,w,W,w3⟩:=b8 i y O v p;rcases w3 with ⟨w3,w4⟩|⟨j,w3,w4,w5⟩
    ·exact f4 i x c2 w W w4 T
    ·exact u3 (n+j) y O w4 p (by rw[w5,T];rfl)
def putN:Nat->List (Addr × OD)->AI->AI
 |_,[],M=>M
 |b,c::r,M=>putN (b+1) r (M.set b (.ownA c.1 c.2))
def putS:Nat->List Addr->St->St
 |_,[],Z=>Z
 |b,a::r,Z=>putS (b+1) r (Z.set b (some (.ref a)))
theorem Q4:∀(as:List Addr) (b:Nat) (Z:St),(putS b as Z).length = Z.length
 |[],_,_=>rfl
 |a::r,b,Z=>by rw[putS,Q4 r (b+1),Ff]
theorem PH:∀(as:List Addr) (b:Nat) (Z:St) (i:Nat),i<b->(putS b as Z)[i]? = Z[i]?
 |[],_,_,_,_=>rfl
 |a::r,b,Z,i,h=>by rw[putS,PH r (b+1) _ i #[2],B9 #[2]]
theorem Ok.setOwnA (k:Ok K g G H Z M) (hi:i < M.length) (p:Pend K g G H Z M a od):Ok K g G H (Z.set i<|some (.ref a)) (M.set i (.ownA a od)):=by
 have m:=k.setOwn hi p;obtain⟨o,P,J,N,Q,R,T⟩:=p;have S:i < Z.length:=by rw[<- k.len];exact hi
 have L:∀(j:Nat) x,j≠i->(M.set i (.ownA a od))[j]?=some x->(M.set i (.own od))[j]?=some x:=λj x h e=>by
  rw[B9 (Ne.symm h)]at e ⊢;exact e
 have v:∀(j:Nat) x D,(M.set i (.ownA a od))[j]?=some x->x.od=some D -> ∃y,(M.set i (.own od))[j]?=some y/\y.od=some D:=λj x D E f=>by
  by_cases h:j=i
  ·subst h
   rw[B5 hi]at E;cases E;cases f;exact(.own od,B5 hi,rfl)
  ·exact(x,L j x h E,f)
 refine(m.same,m.lent,m.sub,m.frz,λb u e=>?_,by simp[k.len],λj d e=>?_,λj x D E f=>?_,λj l x y O n c E f r s t w=>?_)
 ·obtain⟨B,C,I⟩:=m.ext b u e
  refine(B,C,λj x D E f=>?_);obtain⟨y,F,q⟩:=v j x D E f;exact I j y D F q
 ·by_cases h:j=i
  ·subst h
   rw[B5 hi]at e;cases e
  ·exact m.val j d<|L j _ h e
 ·by_cases h:j=i
  ·subst h
   rw[B5 hi]at E;cases E;cases f;exact(a,o,B5 S,P,J,N,rfl,Q)
  ·exact m.own j x D (L j x h E) f
 ·obtain⟨X,F,q⟩:=v j x O E f
  obtain⟨Y,z,A⟩:=v l y n r s;exact m.dis j l X Y O n c F q z A t w
theorem Ok.putN:∀(cs:List (Addr × HO)) (ods:List OD) (b:Nat) (Z:St) (M:AI),Ok K g G H Z M -> b+ods.length <= M.length->Nest K g G H Z M cs ods ->
  Ok K g G H (putS b (cs.map (·.1)) Z) (L2.putN b ((cs.map (·.1)).zip ods) M)
 |[],[],_,_,_,k,_,_=>k
 |[],_::_,_,_,_,_,_,n=>by cases n.2.1
 |_::_,[],_,_,_,_,_,n=>by cases n.2.1
 |c::cs,od::ods,b,Z,M,k,hl,(nd,pr,al)=>by
  cases pr with
  |cons r t=>
   obtain⟨p,q,s,u,v⟩:=al c Bk;rw[BO,DB]at nd;have B:b < M.length:=by rw[BI]at hl;lia
   have w:=k.setOwnA B (c.2,p,r,q,s,u,v);refine Ok.putN cs ods (b+1) _ _ w (by rw[Ff];rw[BI]at hl;lia) (nd.2,t,λd D=>?_);obtain⟨f,F,i,l,m⟩:=al d<|Bs _ D;have h:d.1≠c.1:=λe=>nd.1 (by rw[<- e];exact A2.mpr (d,D,rfl));refine(f,F,i,l,λj x o E a=>?_);by_cases hj:j=b
   ·subst hj
    rw[B5 (by rw[<- k.len];exact B)];intro z;have:c.1=d.1:=by
     have y:=CF.inj<|CF.inj z;injection y
    exact h this.symm
   ·rw[B9 (Ne.symm hj)]at E ⊢
    exact m j x o E a
theorem Rp:∀(l:List (Addr × OD)) (R T:AI) (m:Nat),l.length<=m->L2.putN R.length l (R++Ak m Slot.any++T)=R++l.map (λc=>Slot.ownA c.1 c.2)++Ak (m-l.length) Slot.any++T
 |[],R,T,m,_=>by simp[L2.putN]
 |c::r,R,T,m,h=>by
  obtain⟨M,rfl⟩:∃M,m=M+1:=(m-1,by rw[BI]at h;lia);have e:(R++Ak (M+1) Slot.any++T).set R.length (.ownA c.1 c.2)=(R++[.ownA c.1 c.2])++Ak M Slot.any++T:=by
   rw[Gy];simp[List.set_append_right]
  rw[L2.putN,e];have:=Rp r (R++[.ownA c.1 c.2]) T M (by rw[BI]at h;lia);rw[A1,CO]at this;rw[this];simp
theorem Zyp {te:TE}{i base:Nat}{nx bk ct:AI->Prop}{rt:D->AI->Prop}{ro:OD->AI->Prop}
  (h:JN K te M λods M1=>i<base/\base+ods.length <= M1.length/\∀as:List Addr,as.length=ods.length->as.Nodup->nx (L2.putN base (as.zip ods) (M1.set i (.val (.lst<|as.map D.adr))))) :
  JS K (tGhost base<|tAsg te<|gName i) M (nx,rt,bk,ct,ro):=λg G H Z E k c=>
 h g G H Z _ k λa s ods b f M1 A S O _ n q=>by
  obtain⟨P,B,p⟩:=q;have z:s.length=ods.length:=Paired.length n.2.1;have r:(s.map λc=>D.adr c.1)=(s.map (·.1)).map D.adr:=by rw[Ba];rfl
  have C:=A.setVal' i O;have N:Nest K g b f (Z.set i<|some (.ref a)) (M1.set i (.val (.lst (s.map λc=>D.adr c.1)))) s ods:=by
   obtain⟨I,R,L⟩:=n;refine(I,R,λd y=>?_);obtain⟨F,t,u,v,w⟩:=L d y;refine(F,t,u,v,λj x o e l=>?_);by_cases J:j=i
   ·subst J
    by_cases hlt:j < M1.length
    ·rw[B5 hlt]at e;cases e;cases l
    ·rw[FP (by rw[Ff];lia)]at e;cases e
   ·rw[B9 (Ne.symm J)]at e ⊢
    exact w j x o e l
  have m:=Ok.putN s ods base _ _ C (by rw[Ff];exact B) N;refine⟨putS base (s.map (·.1)) (Z.set i<|some (.ref a)),Q4 _ _ _,λj J=>PH _ _ _ j J,?_⟩;rw[r]at m;exact c.nx _ b f _ m<|p (s.map (·.1)) (by rw[AH,z]) n.1
theorem RO {n j:Nat}(L:M[n]?=some (.val (.adr a))) (J:M[j]?=some (.ownA a (.lst ds))) (p:P (.int ds.length) M):JE K (tCB (rLenU K)<|tCons (tVar n) tNil) M P:=λg G H Z Q k c=>by
 obtain⟨v,h,b⟩:=k.val n _ L;cases b;obtain⟨A,o,e,W,w,f,d⟩:=k.own j _ _ J rfl;obtain⟨rfl,_⟩:=d;cases o with
 |lst vs=>
  have w:Reps K G vs ds:=w;refine(_,h,.inl (_,vs,rfl,.inl<|SqL.of W,?_));rw[w.length];exact c _ _ G H M k (Same.refl _) (.int _) p
 |_=>exact absurd w (λz=>z)
theorem Zyu {n:Nat}{t1 t2:TE}{a:Addr}{Y:Nat}{J:List D}{nx bk ct:AI->Prop}{rt:D->AI->Prop}{ro:OD->AI->Prop}(hx:M[n]?=some (.val (.adr a))) (L:M[Y]?=some (.ownA a (.lst J)))
  (h:JE K t1 M λe1 M1=>JE K t2 M1 λe2 M2=>∃j i ds,e1=.int i /\ M2[j]?=some (.ownA a (.lst ds))/\ds.length<sizeLine /\ -(2 ^ 62)<=i/\i<2 ^ 62/\nx (M2.set j (.ownA a (.lst (ds.take (insI ds.length i)++e2::ds.drop (insI ds.length i)))))) :
  JS K (tDrop<|tBM K "list" rInsert (tVar n)<|tCons t1<|tCons t2 tNil) M (nx,rt,bk,ct,ro):=λg G H Z E k c=>by
 obtain⟨v,e,f⟩:=k.val n _ hx;cases f;obtain⟨A,o,B,w,W,C,t⟩:=k.own Y _ _ L rfl;obtain⟨rfl,_⟩:=t;cases o with
 |lst vs0=>
  refine(_,e,.inl (rfl,_,SqL.of w),h g G H Z _ k λV e1 b d M1 l S r P=>P g b d Z _ l λv2 e2 G2 H2 M2 k2 s2 r2 (j,i,ds,q1,q2,q3,q4,q5,p)=>?_);subst q1;cases r.inv;obtain⟨x,O,U,q,u,y,s⟩:=k2.own j _ _ q2 rfl;obtain⟨rfl,_⟩:=s;cases O with
  |lst vs=>
   have u:Reps K G2 vs ds:=u;refine(_,vs,i,v2,rfl,rfl,q,by rw[u.length];exact q3,q4,q5,?_);have m:=k2.write q2 rfl U (show OwnRep K G2 (.lst (vs.take (insI vs.length i)++v2::vs.drop (insI vs.length i))) (.lst (ds.take (insI ds.length i)++e2::ds.drop (insI ds.length i))) from by
    rw[u.length];exact(u.take _).append (.cons r2 (u.drop _)))
   exact c.nx Z G2 _ _ m p
  |_=>exact absurd u (λz=>z)
 |_=>exact absurd W (λz=>z)
theorem JS.conv (j:∀g G H Z,Ok K g G H Z M -> ∃G',Same G G' /\ Ok K g G' H Z M') (h:JS K t M' P):JS K t M P:=λg G H Z E k c=>by
 obtain⟨G',s,a⟩:=j g G H Z k;exact h g G' H Z E a c
theorem Ok.freezeA (k:Ok K g G H Z M) (h:M[i]?=some (.ownA a (.lst ds))):∃G',Same G G' /\ Ok K g G' H Z (M.set i .any)/\Ap K G' (.ref a) (.lst ds):=by
 obtain⟨A,o,w,W,b,l,m⟩:=k.own i _ _ h rfl;obtain⟨rfl,n⟩:=m;cases o with
 |lst vs=>
  have p:Pend K g G H Z (M.set i .any) a (.lst ds):=by
   refine(.lst vs,W,b,l,n,?_,λj x d e E c=>?_)
   ·cases q:g.Xo a with
    |none=>rfl
    |some u=>exact absurd w ((k.ext a u q).2.2 i _ _ h rfl)
   ·by_cases hj:j=i
    ·subst hj
     rw[GF]at e;simp at e;obtain⟨_,e⟩:=e;subst e;cases E
    ·rw[B9 (Ne.symm hj)]at e
     exact hj<|k.dis j i x _ d _ a e E h rfl c w
  obtain⟨f,s,r⟩:=(k.drop i).freeze p W;exact(_,s,f,r)
 |_=>exact absurd b (λz=>z)
theorem Ok.freezeN:∀(cs:List (Addr × List D)) (R T:AI) (G:Hp),Ok K g G H Z (R++cs.map (λc=>Slot.ownA c.1 (.lst c.2))++T) ->
  ∃G',Same G G' /\ Ok K g G' H Z (R++Ak cs.length .any++T)/\∀c∈cs,Ap K G' (.ref c.1) (.lst c.2)
 |[],R,T,G,k=>(G,Same.refl _,by simpa using k,λc C=>nomatch C)
 |c::r,R,T,G,k=>by
  have I:(R++(c::r).map (λc=>Slot.ownA c.1 (.lst c.2))++T)[R.length]?=some (.ownA c.1 (.lst c.2)):=#[4]
  obtain⟨f,S,a,j⟩:=k.freezeA I;have e:(R++(c::r).map (λc=>Slot.ownA c.1 (.lst c.2))++T).set R.length .any=(R++[.any])++r.map (λc=>Slot.ownA c.1 (.lst c.2))++T:=by
   simp[List.set_append_right]
  rw[e]at a;obtain⟨i,s,b,l⟩:=Ok.freezeN r (R++[.any]) T f a;refine(i,S.trans s,?_,λd h=>?_)
  ·have E:(R++[Slot.any])++Ak r.length Slot.any++T=R++Ak (c::r).length Slot.any++T:=by
    rw[BI,Gy];simp
   rw[E]at b;exact b
  ·rcases Az.mp h with e|h
   ·subst e;exact j.mono s
   ·exact l d h
theorem Ok.thaw {g:Gm}{G H:Hp}{Z:St}{cs:List (Addr × List D)}{R T:AI}{i:Nat}(k:Ok K g G H Z (R++cs.map (λc=>Slot.ownA c.1 (.lst c.2))++T)) (hi:R[i]?=some (.val (.lst (cs.map λc=>D.adr c.1)))) :
  ∃G',Same G G' /\ Ok K g G' H Z (R.set i (.val (.lst (cs.map λc=>D.lst c.2)))++Ak cs.length .any++T):=by
 have t:i<R.length:=(BZ.mp hi).1;obtain⟨v,b,e⟩:=k.val i _ (by rw[CK,Dp t];exact hi);obtain⟨a,s,o,p⟩:=Ok.freezeN cs R T G k;refine(a,s,?_);have q:Ap K a v (.lst (cs.map λc=>D.lst c.2)):=by
  cases e with
  |lst ha rs=>
   refine .lst (s _ _ ha) ?_;have y:∀(l:List (Addr × List D)) (vs:List V),(∀c∈l,Ap K a (.ref c.1) (.lst c.2))->Reps K G vs (l.map λc=>D.adr c.1)->Reps K a vs (l.map λc=>D.lst c.2):=by
    intro l
    induction l with
    |nil=>intro vs _ h;cases h;exact .nil
    |cons c r ih=>
     intro vs hc h;cases h with
     |cons b e=>
      cases b;exact .cons (hc c Bk)<|ih _ (λd n=>hc d<|Bs _ n) e
   exact y cs _ p rs
 have f:=o.setVal' i q;have E:Z.set i (some v) = Z:=by
  apply Dz;intro j;by_cases hj:j=i
  ·subst hj;rw[B5 (by obtain⟨z,_⟩:=BZ.mp b;exact z),b]
  ·rw[B9 (Ne.symm hj)]
 rw[E]at f;have m:(R++Ak cs.length Slot.any++T).set i (.val (.lst (cs.map λc=>D.lst c.2)))=R.set i (.val (.lst (cs.map λc=>D.lst c.2)))++Ak cs.length Slot.any++T:=by
  rw[CK,CK,List.set_append_left _ _ t]
 rw[m]at f;exact f
end
section
variable {X:Cx}(K:W.Frag)
theorem ixK (U:X.A.units+1<cLine) (j:X.K=K:=by rfl):IxR X (rIxU K):=j ▸ ixU U
theorem slK (j:X.K=K:=by rfl):SlR X (rSlU K):=j ▸ slU
theorem addK (j:X.K=K:=by rfl):OpR X (binaryOp .Add) (rAddU K):=j ▸ Zxj
theorem lenK (j:X.K=K:=by rfl):CallR X (.builtin "len") (rLenU K):=j ▸ V2
def rTup (K:W.Frag):List V->Hp->VK->Prop:=λs H Q=>∃p ys,s=[.ref p]/\((SqL K H p ys/\∀l,H l=none->Q (.ref l) (upd H l (.tup ys)))\/(SqT K H p ys/\Q (.ref p) H))
theorem tupK (j:X.K=K:=by rfl):CallR X (.type "tuple") (rTup K):=j ▸ UY
def rLst (K:W.Frag):List V->Hp->VK->Prop:=λs H Q=>∃p ys,s=[.ref p]/\(SqL K H p ys\/SqT K H p ys)/\∀l,H l=none->Q (.ref l) (upd H l (.lst ys))
theorem lstK (j:X.K=K:=by rfl):CallR X (.type "list") (rLst K):=j ▸ Um
theorem idxK (j:X.K=K:=by rfl):MtM X "tuple.index" (rIndexT K):=j ▸ UN
theorem seqK {tg l:Expr}{tl:TE}(L:PE X l tl) (j:X.K=K:=by rfl):PI X tg l (iSeq K tl):=j ▸ Zz7 L
theorem truK {a:Expr}{ta:TE}(ha:PE X a ta) (he:∀whole,isTrue a X.env whole=(do let v <- whole;standAt a.pos;holding [v] (truthy v))) (hK:X.K=K:=by rfl):PT X a (tTru K ta):=hK ▸ Sq ha he
theorem gtupK {es:List Expr}{k:Nat}{t:TGs}{n:Nat}{pos:Pos}(J:X.calm=true) (h:PGs X es t)
  (L:(assignEach es X.env).length=n:=by rfl) (j:(assignEach es X.env).findIdx? (·.1)=none:=by rfl) (z:X.K=K:=by rfl):PG X (.Tuple es k pos) (gTup K n t):=z ▸ Zzu J h L j
variable {o e:Expr}{es:List Expr}{to:TE}{t:TA}{name:Str}{apos cpos:Pos}{T id:String}{r:V->List V->Hp->VK->Prop}
theorem bm0K (J:PlainAttrs T) (O:PySem.Slot T name id) (Y:typeOf (.builtin id)=pure (.type "method_descriptor")) (hm:MtR X id r) (ho:PE X o to)
  (j:attributeBase o name X.env (eval o X.env)=eval o X.env:=by rfl) (L:(apos.endLine == cpos.line)=true:=by rfl) (z:X.K=K:=by rfl):PE X (.Call (.Attribute o name apos) [] [] cpos) (tBM0 K T r to):=z ▸ Zzt J O Y hm ho j L
theorem bmK (pa:PlainAttrs T) (O:PySem.Slot T name id) (Y:typeOf (.builtin id)=pure (.type "method_descriptor")) (hm:MtR X id r) (ho:PE X o to) (ha:PA X (e::es) t)
  (j:attributeBase o name X.env (eval o X.env)=eval o X.env:=by rfl)
  (J:((backTo cpos (starEach (e::es) X.env)).all (λx=>!x.1) && (backToKw cpos (keywordEach [] X.env)).all (λx=>x.1.isSome)
   && decide ((e::es).length+([]:List Keyword).length+(if ([]:List Keyword).isEmpty then 0 else 1)<30))=true:=by rfl)
  (z:(apos.endLine == cpos.line)=true:=by rfl) (hs:starEach (e::es) X.env=(false,eval e X.env)::starEach es X.env:=by rfl) (L:(backTo cpos<|starEach es X.env).any (·.1)=false:=by rfl) (U:X.K=K:=by rfl) :
  PE X (.Call (.Attribute o name apos) (e::es) [] cpos) (tBM K T r to t):=U ▸ T8 pa O Y hm ho ha j J z hs L
end
#check 3
theorem DS (j:ds=[.lst es]\/ds=[.tup es]) (p:P (.tup es) M):JC K (rTup K) ds M P:=Zuq j p
theorem Je (j:ds=[.lst es]\/ds=[.tup es]) (p:P (.lst es) M):JC K (rLst K) ds M P:=λg G H Z Q v k s c=>by
 rcases j with j|j <;> subst j
 ·obtain⟨_,_,rfl,r,t⟩:=s.inv
  next=>
   cases t.inv;obtain⟨_,_,rfl,a,s⟩:=r.inv
   next=>
    refine(_,_,rfl,.inl<|SqL.of<|k.live _ _ a,λl h=>?_);obtain⟨b,S⟩:=k.laid h (.lst _);exact c _ _ _ _ M b S (.lst Bh<|s.mono S) p
 ·obtain⟨_,_,rfl,r,t⟩:=s.inv
  next=>
   cases t.inv;obtain⟨_,_,rfl,a,s⟩:=r.inv
   next=>
    refine(_,_,rfl,.inr<|SqT.of<|k.live _ _ a,λl h=>?_);obtain⟨b,S⟩:=k.laid h (.lst _);exact c _ _ _ _ M b S (.lst Bh<|s.mono S) p
theorem Zve (L:sel.Nodup)
  (h:JI K wi M λds M1=>ds.length<sizeLine/\∃(p:D->Bool) (f:D->OD),
   (∀(i:Nat) d,ds[i]?=some d->JT K tc (.val d::fixD sel M1) λb M4=>b=p d/\if b=true then JO K te M4 λe M5=>e=f d/\∃x,M5=x::fixD sel M1 else ∃x,M4=x::fixD sel M1) /\
   Po ((ds.filter p).map f) M1):JN K (tComp 1 sel wi (gName 0) tc te) M Po:=by
 refine Zxc L λg G H Z R k c=>h g G H Z R k λJ ds G' H' M' k' s' it (z,p,f,ht,he)=>c J ds G' H' M' k' s' it (z,λi s M=>s=((ds.take i).filter p).map f/\∃x,M = x::fixD sel M',(#[4],.any,rfl),?_,?_)
 ·rintro i d s m j ⟨rfl,x,rfl⟩
  have t:ds.take (i+1)=ds.take i++[d]:=by
   rw[Cy,j];rfl
  refine Gh #[1] ?_;intro g G H Z Q k c;refine ht i d j g G H Z Q k λb G1 H1 M1 k1 s1 (e1,q)=>c b G1 H1 M1 k1 s1 ?_;cases b with
  |true=>
   rw[AM rfl]at q ⊢;intro g G H Z Q k c;refine q g G H Z Q k λa od G2 H2 m k2 s2 pd (e2,x,E)=>c a od G2 H2 m k2 s2 pd (?_,x,E);rw[t,Cw,A5,CA,<- e1,e2];rfl
  |false=>
   rw[AL BL]at q ⊢;obtain⟨x,E⟩:=q;refine(?_,x,E);rw[t,Cw,A5,CA,<- e1];simp
 ·rintro s m ⟨rfl,x,rfl⟩
  rw[CP,show (x::fixD sel M')=[x]++fixD sel M' from rfl,Ka #[4]];exact he
end
def fLaw:DSp:=λs t=>∃ns:List Int,s=[.scr (ns.map .int)]/\ns.length<=63/\t (.bl true)
def spLaw (K:W.Frag):Sp:=λs H Q _=>∃(a:Addr) (ns:List Int),s=[.ref a]/\SqL K H a (ns.map V.int)/\ns.length<=63/\∀H',Q (.bl true) H'
theorem Zvh {K:W.Frag}(h:spLaw K vs H Q E):spD K fLaw vs H Q E:=by
 obtain⟨a,s,rfl,S,l,q⟩:=h;refine(H,[.scr (s.map .int)],λd=>d=.bl true,Same.refl _,.cons (.scr S<|Reps.ofInts s) .nil,(s,rfl,l,rfl),λr b d c R e=>?_);subst e;cases R.inv;exact q b
theorem walk_law {l:PySem.W.OpenLaw}{q:Program}{O:List Str}{J:(Str->Option Value)->Heap->Prop}{Y:World->Heap->Prop}{d:DefRec}{K:Params->W.Frag}{k:Nat}{x:Str}(hk:Room k callerA) (hn:l.most=some 63) (j:d.params.defaults=[])
  (U:∀(w:World) (h:Heap),Y w h->(K w.params).In h)
  (F:∀(w:World) (mg:Str->Option Value) (fa:Addr) (h:Heap),(K w.params).In h->h.Ns mainGlobals mg->mg d.name=some (.ref fa) ->
   ∃fd:FuncData,(∀(s:Shared) (u:Value),BindsTo s fd ([u],[]) [(x,u)])/\∀base:Heap,(K w.params).In base->base.Ns mainGlobals mg->FnOk l.prog w (K w.params) mg base CX0 k fa fd [x] (spD (K w.params) fLaw)) :
  PySem.W.WalkO q O J Y l.row.toRowW d [] (λf vs=>PySem.call f vs):=
 L2.walk_of (n:=63) (k:=k) (x:=x) (CX:=λ_=>CX0) (sp:=λw=>spLaw<|K w.params) hn #[1] j hk U
  (λw mg fa h c e g=>by
   obtain⟨fd,b,f⟩:=F w mg fa h c e g;exact(fd,b,λbase B N=>(f base B N).imp λvs H Q E z=>Zvh z))
  (λ_ _ a i L _ S=>(a,i,rfl,S,L,λ_=>rfl)) λ_ _ _ _ _ z=>z
def SqB (b:Bool) (K:W.Frag) (H:Hp) (a:Addr) (xs:List V):Prop:=match b with|true=>SqT K H a xs|false=>SqL K H a xs
def ItB (b:Bool) (h:Heap) (j a:Addr) (i:Nat):Prop:=match b with|true=>h.IsTupleIter j a i|false=>h.IsListIter j a i
def HsB (b:Bool) (h:Heap) (a:Addr) (j:Array Value):Prop:=match b with|true=>h.IsTuple a j|false=>h.IsList a j
theorem ItB.at (x:ItB b h j a i) (e:∀o,h.get? j=some o->h'.get? j=some o):ItB b h' j a i:=by
 cases b
 ·exact Heap.IsListIter.at (show h.IsListIter j a i from x) e
 ·exact Heap.IsTupleIter.at (show h.IsTupleIter j a i from x) e
theorem ItB.off (x:ItB b h j a i) (e:Heap.ExtBut c h h') (n:j≠c):ItB b h' j a i:=x.at λo q=>e j o n q
theorem ItB.obj (x:ItB b h j a i):∃o,h.get? j=some o/\o.data=.fields #[.ref a,.int i 0]:=by
 cases b <;> (obtain⟨o,e,_,d⟩:=x;exact(o,e,d))
theorem HsB.lt (x:HsB b h a ws):a<h.objs.size:=by
 cases b <;> (obtain⟨o,q,r⟩:=x;exact Ax q)
theorem AJ.seqB (I:AJ X pins Z H s) (h:SqB b X.K H a xs):∃its:List Value,Vals xs its/\HsB b s.heap a its.toArray:=by
 cases b
 ·obtain⟨its,r,p,_⟩:=I.list h
  exact(its,r,p.isList)
 ·obtain⟨its,r,p,_⟩:=I.tuple h
  exact(its,r,p)
theorem AJ.seqB_inj (I:AJ X pins Z H s) (h:SqB b X.K H a xs) (h':SqB b X.K H a ys):xs=ys:=by
 cases b
 ·exact I.list_inj h h'
 ·exact I.tuple_inj h h'
#check 4
theorem Zzc (g:ItB b s.heap j a i) (l:HsB b s.heap a ws) (e:ws[i]?=some x)
  (q:∀h',ItB b h' j a (i+1)->Heap.SameBut j s.heap h' -> Q x { s with heap:=h' }):wpAny (model prog w) A (Builtin.SmallTypes.nextOf (.ref j)) Q E s:=by
 cases b
 ·exact wpAny_nextOf_list_item g l e q
 ·obtain⟨o,G,d,c⟩:=id g
  obtain⟨u,L,_,n,f⟩:=l;have y:s.TypeIs (.ref j) "tuple_iterator":=(o,G,d);unfold Builtin.SmallTypes.nextOf;refine AE<|wpAny_callSpecial?_slot (name:=Str.ofString "__next__") y F.slot_tuple_iterator_next<|wpAny_call_entry F.slot_tuple_iterator_next y F.entry_tuple_iterator_next ?_<|F.args_tuple_iterator_next_1 _;refine(show wpAny _ _ (field (.ref j) 0 >>= _) _ _ s from AE (wpAny_field G c (x:=.ref a) rfl ?_));refine(show wpAny _ _ (if (Value.ref a == Value.none)=true then _ else _) _ _ s from ?_);rw[AL (by exact BL)];refine(show wpAny _ _ (field (.ref j) 1 >>= _) _ _ s from AE (wpAny_field G c (x:=.int i 0) rfl ?_));refine(show wpAny _ _ (seqItems? (.ref a) >>= _) _ _ s from AE (wpAny_seqItems L f ?_));simp only[Aq,e];refine AE<|wpAny_setField G c #[4]<|AO (x,rfl,AO<|q _ (_,IP _ G<|Obj.isFreed_of_fields<|Obj.data_mapFields c _,(Obj.cls_mapFields ..).trans d,?_)<|Heap.SameBut.update ..);rw[Obj.data_mapFields c];simp[rawInt]
theorem Sj (hh:A.handled=none) (g:ItB b s.heap j a i) (l:HsB b s.heap a ws) (e:ws[i]?=none)
  (q:∀h' x,Heap.ExtBut j s.heap h' -> (∃o,h'.get? x=some o/\o.cls=.type "StopIteration")->E (.ref x) { s with heap:=h' }):wpAny (model prog w) A (Builtin.SmallTypes.nextOf (.ref j)) Q E s:=by
 cases b
 ·exact wpAny_nextOf_list_end hh g l e q
 ·obtain⟨o,G,d,c⟩:=id g
  obtain⟨u,L,_,n,f⟩:=l;have y:s.TypeIs (.ref j) "tuple_iterator":=(o,G,d);unfold Builtin.SmallTypes.nextOf;refine AE<|wpAny_callSpecial?_slot (name:=Str.ofString "__next__") y F.slot_tuple_iterator_next<|wpAny_call_entry F.slot_tuple_iterator_next y F.entry_tuple_iterator_next ?_<|F.args_tuple_iterator_next_1 _;refine(show wpAny _ _ (field (.ref j) 0 >>= _) _ _ s from AE (wpAny_field G c (x:=.ref a) rfl ?_));refine(show wpAny _ _ (if (Value.ref a == Value.none)=true then _ else _) _ _ s from ?_);rw[AL (by exact BL)];refine(show wpAny _ _ (field (.ref j) 1 >>= _) _ _ s from AE (wpAny_field G c (x:=.int i 0) rfl ?_));refine(show wpAny _ _ (seqItems? (.ref a) >>= _) _ _ s from AE (wpAny_seqItems L f ?_));simp only[Aq,e];refine AE<|EO<|AE<|wpAny_setField G c #[4] (show wpAny _ _ (newExc (.type "StopIteration") [] >>= _) _ _ _ from AE ?_);simp only[newExc,newTuple];refine AE<|wpAny_newObj_type (AE (m:=firstArgMember _ _)<|wpAny_of_eq (a:=Value.none) (by first|rfl|(simp only[firstArgMember];rfl))<|wpAny_newObj_type ?_ (by size_fits)) (by size_fits);simp only[raiseNew];refine AE<|wpAny_handled ?_
  first|rw[show A.in1.handled=none from hh]|rw[hh]
  exact AE<|AO<|wpAny_throw<|q _ _ (((Heap.SameBut.update ..).extBut.push _).push _) (_,Bl _ rfl,rfl)
end
section
abbrev zt1 (h:Heap) (a:Addr):Heap:=h.push (.type "tuple_iterator",none,.fields #[.ref a,.int 0 0],#[])
variable {prog:Program}{w:World}{A:Around}{E:Ai}{s:Shared}
end
#check 0
def rAll (K:W.Frag):List V->Hp->VK->Prop:=λs H Q=>∃(p:Addr) (bs:List Bool),s=[.ref p]/\SqL K H p (bs.map V.bl)/\Q (.bl<|bs.all id) H
theorem allK (K:W.Frag) (hc:X.calm=true) (hK:X.K=K:=by rfl):CallR X (.builtin "all") (rAll K):=by
 subst hK;intro pins s Z H xs us Q I r h;obtain⟨p,S,rfl,x,q⟩:=h;obtain⟨u,rfl,U⟩:=vals1 r;cases (show u=Value.ref p from U);obtain⟨t,g,P,_⟩:=I.list x;have T:p<s.heap.objs.size:=by obtain⟨o,e,_⟩:=P.isList;exact Ax e
 have l:∀(S:List Bool) (t:List Value),Vals (S.map V.bl) t->t=S.map Value.bool:=by
  intro S
  induction S with
  |nil=>intro t h;cases h;rfl
  |cons b r ih=>intro t h;cases h with|cons h1 h2=>cases (show _=Value.bool b from h1);rw[ih _ h2];rfl
 have e:=l S t g;subst e;refine call_all_walk<|wpAny_pyIter_list P.isList ?_;refine(s.heap.objs.size,_,_,_,_,_,λi=>S.getD i false,rfl,Walks.list (prog:=X.prog) (w:=X.w) (A:=X.A.in1) (show X.A.in1.handled=none from I.ok.hd hc) s.heap.objs.size p (BF T) (S.map Value.bool).toArray,((_,Bl _ rfl,rfl,rfl),P.isList.push _),?_,λj m k=>?_)
 ·intro i v s0 Q0 E0 a d
  have a:(S.map Value.bool).toArray[i]?=some v:=a;have a:(S.map Value.bool)[i]?=some v:=#[10]
  rw[Ad]at a;cases z:S[i]? with
  |none=>rw[z]at a;cases a
  |some b=>
   rw[z]at a;have a:Value.bool b=v:=#[10]
   subst a;have E:S.getD i false=b:=by rw[Al,z];rfl
   have d:Q0 (S.getD i false) s0:=d;rw[E]at d;exact wpAny_truthy_bool d
 ·have e:(Af (S.map Value.bool).toArray.size).all (λi=>S.getD i false)=S.all id:=by
   rw[BC,AH];rw[GP,DW,DW];constructor
   ·intro hh b B
    obtain⟨i,c,rfl⟩:=Eo.mp B;have:=hh i<|BD.mpr c;rw[Al,AS c]at this;exact this
   ·intro hh i c
    rw[BD]at c;rw[Al,AS c];exact hh _<|Br c
  rw[e];have f:AJ X pins Z H { s with heap:=s.heap.push { cls:=.type "list_iterator",data:=.fields #[.ref p,.int 0 0] },toks:=s.toks }:=I.kept λb o e=>BA _ e;refine(.bl<|S.all id,H,f.turned (it:=s.heap.objs.size) (λb o B e=>k b o (by simpa using B) e) (I.hok.fresh<|AX _) (GN I.lt) (.inr I.sz) ?_ ?_,rfl,q)
  ·have:=I.fpOk (b:=s.heap.objs.size) (H':=H) (AX _) (I.hok.fresh<|AX _)
   exact this.2.2.2.2.1
  ·have:=I.fpOk (b:=s.heap.objs.size) (H':=H) (AX _) (I.hok.fresh<|AX _)
   exact this.2.2.2.2.2
def rIsiU (K:W.Frag):List V->Hp->VK->Prop:=λs H Q=>rIsi K s H Q\/∃(x:V) (p:Addr) (ns:List String) (T:String) (b:Bool),s=[x,.ref p]/\H p=some (.tup<|ns.map V.ty)/\TyOf K H x (.type T)/\PySem.W.kitAny K (.type T) (ns.map Value.type)=some b/\Q (.bl b) H
theorem VV (I:AJ X pins Z H s) (j:RelV x u) (Y:TyOf X.K H x t) (J:∃T,t=.type T):∃Hh:Heap->Prop,PySem.W.KitX X.K u t Hh/\Hh s.heap/\u≠.builtin "__main__.__loader__#opaque":=by
 cases Y with
 |non=>cases (show u=Value.none from j);exact(_,PySem.W.kitx_none,True.intro,λz=>nomatch z)
 |bl y=>cases (show u=Value.bool y from j);exact(_,PySem.W.kitx_bool,True.intro,λz=>nomatch z)
 |int i=>obtain⟨t,q⟩:=(show ∃t,u=Value.int i t from j);cases q;exact(_,PySem.W.kitx_int,True.intro,λz=>nomatch z)
 |str y=>obtain⟨t,q⟩:=(show ∃t,u=Value.str y t from j);cases q;exact(_,PySem.W.kitx_str,True.intro,λz=>nomatch z)
 |flt y=>obtain⟨t,q⟩:=(show ∃t,u=Value.float y t from j);cases q;exact(_,PySem.W.kitx_float,True.intro,λz=>nomatch z)
 |@lst a S ea=>
  cases (show u=Value.ref a from j);obtain⟨_,_,n,_,h⟩:=(show ObjOk X.prog X.w H s.heap a (.lst S) from I.hok a _ ea);exact(_,PySem.W.kitx_list,(_,h,rfl),λz=>nomatch z)
 |@frz a ob S ea=>
  cases (show u=Value.ref a from j);obtain⟨_,_,_,n,_,h⟩:=(show ObjOk X.prog X.w H s.heap a (.frz ob (.lst S)) from I.hok a _ ea);exact(_,PySem.W.kitx_list,(_,h,rfl),λz=>nomatch z)
 |@tup a S ea=>
  cases (show u=Value.ref a from j);obtain⟨_,_,_,p⟩:=(show ObjOk X.prog X.w H s.heap a (.tup S) from I.hok a _ ea);obtain⟨o,h,⟨b,_⟩,_⟩:=p;exact(_,PySem.W.kitx_tuple,(o,h,b),λz=>nomatch z)
 |@dK a kvs ea=>
  cases (show u=Value.ref a from j);obtain⟨_,_,v,_,p⟩:=(show ObjOk X.prog X.w H s.heap a (.dK kvs) from I.hok a _ ea);obtain⟨o,E,P,h,b,_⟩:=p;exact(_,PySem.W.kitx_dict,(o,h,b.1),λz=>nomatch z)
 |@dT a kvs ea=>
  cases (show u=Value.ref a from j);obtain⟨_,_,S,_,o,E,P,h,b,_⟩:=(show ObjOk X.prog X.w H s.heap a (.dT kvs) from I.hok a _ ea);exact(_,PySem.W.kitx_dict,(o,h,b.1),λz=>nomatch z)
 |@ins a C dx fs ea cl ha hn htk hm=>obtain⟨T,e⟩:=J;cases e
theorem isiUK (K:W.Frag) (J:X.K=K:=by rfl):CallR X (.builtin "isinstance") (rIsiU K):=by
 subst J;refine CallR.or U8 ?_;intro pins s Z H xs us Q I r h;obtain⟨x,p,S,T,b,rfl,P,y,e,q⟩:=h;obtain⟨u,U,rfl,i,N⟩:=vals2 r;cases (show U=Value.ref p from N);obtain⟨j,z,g,E⟩:=VV I i y (T,rfl);obtain⟨_,t,R,o,O,⟨c,n,D⟩,d⟩:=I.hok p _ P;have v:∀(S:List String) (t:List Value),Vals (S.map V.ty) t->t=S.map Value.type:=by
  intro S
  induction S with
  |nil=>intro t h;cases h;rfl
  |cons b r ih=>intro t h;cases h with|cons h1 h2=>cases (show _=Value.type b from h1);rw[ih _ h2];rfl
 have f:=v S t R;subst f;obtain⟨l,k,a,L⟩:=o;simp only at c D d;subst c D d;exact PySem.W.kia_tup z I.kIn g O e E λm=>(.bl b,H,I.tok _,rfl,q)
end
#check 1
theorem Nz {bs:List Bool}(p:P (.bl<|bs.all id) M):JC K (rAll K) [.lst (bs.map D.bl)] M P:=λg G H Z Q v k S c=>by
 obtain⟨_,_,rfl,r,t⟩:=S.inv
 next=>
  cases t.inv;obtain⟨a,s,rfl,A,S⟩:=r.inv
  next=>
   have e:∀(bs:List Bool) (s:List V),Reps K G s (bs.map D.bl)->s=bs.map V.bl:=by
    intro bs
    induction bs with
    |nil=>intro s h;cases h;rfl
    |cons b r ih=>intro s h;cases h with|cons h1 h2=>cases h1;rw[ih _ h2];rfl
   have:=e bs s S;subst this;exact(_,bs,rfl,SqL.of<|k.live _ _ A,c _ _ G H M k (Same.refl _) (.bl _) p)
theorem Cf (ht:tyD d=some T) (e:∀K,PySem.W.kitOne K (.type T) (.type n)=some b) (p:P (.bl b) M):JC K (rIsiU K) [d,.ty n] M P:=λg G H Z Q v k s c=>.inl<|T4 ht e p g G H Z Q v k s c
theorem Zye {ns:List String}(ht:tyD d=some T) (e:∀K,PySem.W.kitAny K (.type T) (ns.map Value.type)=some b) (p:P (.bl b) M):JC K (rIsiU K) [d,.tup (ns.map D.ty)] M P:=λg G H Z Q v k s c=>by
 obtain⟨_,_,rfl,r,t⟩:=s.inv
 next=>
  obtain⟨_,_,rfl,R,t⟩:=t.inv
  next=>
   cases t.inv;obtain⟨a,w,rfl,A,s⟩:=R.inv
   next=>
    have E:∀(ns:List String) (w:List V),Reps K G w (ns.map D.ty)->w=ns.map V.ty:=by
     intro ns
     induction ns with
     |nil=>intro w h;cases h;rfl
     |cons b r ih=>intro w h;cases h with|cons h1 h2=>cases h1;rw[ih _ h2];rfl
    have:=E ns w s;subst this;refine .inr (_,a,ns,T,b,rfl,k.live _ _ A,?_,e K,c _ _ G H M k (Same.refl _) (.bl b) p);cases r with
    |non=>cases ht;exact .non
    |bl b=>cases ht;exact .bl b
    |int i=>cases ht;exact .int i
    |str x=>cases ht;exact .str x
    |ty n=>cases ht
    |scr A s=>cases ht
    |adr a=>cases ht
    |dct A hl s=>cases ht;exact .dK (k.live _ _ A)
    |exc A=>cases ht
    |excR A hb=>cases ht
    |lst A s=>cases ht;exact .lst (k.live _ _ A)
    |tup A s=>cases ht;exact .tup (k.live _ _ A)
end
#check 4
theorem Zxk {i:Nat}(ge:IsEnum s.heap e j i old) (g:ItB b s.heap j a i) (l:HsB b s.heap a ws) (ex:ws[i]?=some x) (ne:e≠j)
  (q:∀h',IsEnumOut h' e j ((i:Int)+1) x s.heap.objs.size->ItB b h' j a (i+1)->h'.get? s.heap.objs.size=some { cls:=.type "tuple",data:=.seq #[.int i s.toks,x] } ->
   (∀c o,c≠e->c≠j->s.heap.get? c=some o->h'.get? c=some o)->Q (some (.ref s.heap.objs.size)) { s with heap:=h',toks:=s.toks+1 }):wpAny (model prog w) A (pyNext (.ref e)) Q E s:=by
 cases b
 ·exact wpAny_pyNext_enum_item ge g l ex ne λh' B h m _ r=>q h' B h m r
 obtain⟨p,G,d,k,S⟩:=s;have y:Shared.TypeIs (p,G,d,k,S) (.ref e) "enumerate":=(_,ge,rfl);unfold pyNext;refine AE<|GA<|wpAny_callSpecial?_slot (name:=Str.ofString "__next__") y F.slot_enumerate_next<|wpAny_call_entry F.slot_enumerate_next y F.entry_enumerate_next ?_<|F.args_enumerate_next_1 _;refine(show wpAny _ _ (field (.ref e) 2 >>= _) _ _ _ from AE (wpAny_field ge rfl (x:=.ref j) rfl<|AE (Zzc (b:=true) g l ex λh₁ g₁ s₁=>?_)))
 replace s₁:Heap.SameBut j p h₁:=s₁
 have e₁:IsEnum h₁ e j i old:=(s₁.2 e ne).trans ge;refine(show wpAny _ _ (field (.ref e) 3 >>= _) _ _ (h₁,G,d,k,S) from AE (wpAny_field e₁ rfl (x:=rawInt i) rfl ?_));refine(show wpAny _ _ (field (.ref e) 4 >>= _) _ _ (h₁,G,d,k,S) from AE (wpAny_field e₁ rfl (x:=.none) rfl ?_));refine(show wpAny _ _ (mkInt i >>= _) _ _ (h₁,G,d,k,S) from AE (wpAny_mkInt ?_));refine(show wpAny _ _ (setField (.ref e) 3 (rawInt ((i:Int)+1)) >>= _) _ _ (h₁,G,d,k+1,S) from AE (wpAny_setField_rec e₁ #[4] λh₂ e₂ s₂=>?_))
 replace s₂:Heap.SameBut e h₁ h₂:=s₂
 replace e₂:IsEnum h₂ e j ((i:Int)+1) old:=e₂
 refine(show wpAny _ _ (setField (.ref e) 4 .none >>= _) _ _ (h₂,G,d,k+1,S) from AE (wpAny_setField_rec e₂ #[4] λh₃ e₃ s₃=>?_))
 replace s₃:Heap.SameBut e h₂ h₃:=s₃
 replace e₃:IsEnum h₃ e j ((i:Int)+1) old:=e₃
 refine(show wpAny _ _ (newTuple [.int i k,x] >>= _) _ _ (h₃,G,d,k+1,S) from AE (wpAny_newTuple ?_));have e₄:IsEnum (h₃.push { cls:=.type "tuple",data:=.seq #[.int i k,x] }) e j ((i:Int)+1) old:=BA _ e₃;generalize eh₄:h₃.push { cls:=.type "tuple",data:=.seq #[.int i k,x] } = h₄ at e₄;have n:h₃.objs.size=p.objs.size:=by rw[s₃.1,s₂.1,s₁.1]
 have L:e<p.objs.size:=Ax ge;have t₄:h₄.get? p.objs.size=some { cls:=.type "tuple",data:=.seq #[.int i k,x] }:=by rw[<- eh₄,<- n];exact Bl _ rfl
 have k₄:∀c o,c≠e->c≠j->p.get? c=some o->h₄.get? c=some o:=λc o C f z=>by rw[<- eh₄];exact BA _<|s₃.extBut c o C<|s₂.extBut c o C<|s₁.extBut c o f z
 have g₄:ItB true h₄ j a (i+1):=by rw[<- eh₄];exact((g₁.off s₂.extBut<|Ne.symm ne).off s₃.extBut (Ne.symm ne)).at λo z=>BA _ z
 refine(show wpAny _ _ (Builtin.SmallTypes.ownedTupleIsFree (.ref e) >>= _) _ _ (h₄,G,d,k+1,S) from ?_);rw[n];clear eh₄ e₃ s₃ e₂ s₂ e₁ s₁ g₁ n h₃ h₂ h₁;refine AE ?_;unfold Builtin.SmallTypes.ownedTupleIsFree;refine AE<|wpAny_field e₄ rfl (x:=.none) rfl<|AO ?_;simp only[if_true];refine AE<|EO<|AE<|wpAny_field e₄ rfl (x:=old) rfl<|AE (wpAny_setField_rec e₄ #[4] λh₅ e₅ s₅=>?_)
 replace s₅:Heap.SameBut e h₄ h₅:=s₅
 replace e₅:IsEnum h₅ e j ((i:Int)+1) x:=e₅
 refine(show wpAny _ _ (Builtin.SmallTypes.ownedTupleHandOut (.ref e) (.ref p.objs.size) >>= _) _ _ (h₅,G,d,k+1,S) from AE ?_);unfold Builtin.SmallTypes.ownedTupleHandOut;refine AE (wpAny_setField_rec e₅ #[4] λh₆ e₆ s₆=>?_)
 replace s₆:Heap.SameBut e h₅ h₆:=s₆
 replace e₆:IsEnumOut h₆ e j ((i:Int)+1) x p.objs.size:=e₆
 refine wpAny_setField_rec e₆ #[4] λh₇ e₇ s₇=>?_
 replace s₇:Heap.SameBut e h₆ h₇:=s₇
 replace e₇:IsEnumOut h₇ e j ((i:Int)+1) x p.objs.size:=e₇
 have u:∀c o,c≠e->h₄.get? c=some o->h₇.get? c=some o:=λc o C z=>s₇.extBut c o C<|s₆.extBut c o C<|s₅.extBut c o C z;exact AE<|wpAny_letGo<|AO (_,rfl,AO (q h₇ e₇ (g₄.at λo z=>u j o (Ne.symm ne) z) (u _ _ (GN L) t₄) λc o C f z=>u c o C<|k₄ c o C f z))
theorem Zzy {i:Nat}(hh:A.handled=none) (ge:IsEnum s.heap e j i old) (g:ItB b s.heap j a i) (l:HsB b s.heap a ws) (ex:ws[i]?=none)
  (q:∀h',Heap.ExtBut j s.heap h' -> Q none { s with heap:=h' }):wpAny (model prog w) A (pyNext (.ref e)) Q E s:=by
 have y:s.TypeIs (.ref e) "enumerate":=(_,ge,rfl);unfold pyNext;refine AE<|GA<|wpAny_callSpecial?_slot (name:=Str.ofString "__next__") y F.slot_enumerate_next<|wpAny_call_entry F.slot_enumerate_next y F.entry_enumerate_next ?_<|F.args_enumerate_next_1 _;refine(show wpAny _ _ (field (.ref e) 2 >>= _) _ _ _ from AE (wpAny_field ge rfl (x:=.ref j) rfl<|AE (Sj hh g l ex λh' x e' (o,ho,hc)=>?_)));exact AE<|wpAny_isInstance (T:="StopIteration") (b:=true) (o,ho,hc) isSubtype_stop<|AO<|q _ e'
theorem Zva (a:Addr) (ws:Array Value) (n:Nat) (dct:Option Addr) (sl:Array (Option Value)) :
  Meets (Builtin.«enumerate.__new__» ([.type "enumerate",.ref a],[])) (λ_ R s=>s.heap.get? a=some (.type "tuple",dct,.seq ws n,sl) /\
   R (.ok (.ret (.ref (zt1 s.heap a).objs.size))) { s with heap:=(zt1 s.heap a).push (.type "enumerate",none,.fields #[.none,.bool false,.ref s.heap.objs.size,rawInt 0,.none,.none],#[]) }):=.of_wp λo w A R s h=>by
 obtain⟨p,g,d,k,S⟩:=s;obtain⟨l,h⟩:=h;have b:=sub_enumerate;have t:Heap.IsTuple (Shared.heap (p,g,d,k,S)) a ws:=(_,l,rfl,n,rfl)
 wp_walk using AutoSeq1.wpAny_loadPart' l
 refine wpAny_stack_any λT=>AO ?_;split
 ·rename_i c _ _ _ _ _
  cases (c == Value.type "enumerate") <;> (wp_walk using AutoSeq1.wpAny_loadPart' l,wpAny_pyIter_tuple t;exact(_,rfl,h))
 ·wp_walk using AutoSeq1.wpAny_loadPart' l,wpAny_pyIter_tuple t
  exact(_,rfl,h)
theorem Zym (l:HsB b s.heap a ws)
  (q:∀h',IsEnum h' (s.heap.objs.size+1) s.heap.objs.size 0 .none->ItB b h' s.heap.objs.size a 0->(∀c o,s.heap.get? c=some o->h'.get? c=some o)->Q (.ref<|s.heap.objs.size+1) { s with heap:=h' }):wpAny (model prog w) A (call (.type "enumerate") [.ref a]) Q E s:=by
 cases b
 ·exact call_enumerate_list l λh' B f _ g=>q h' B f g
 ·obtain⟨⟨C,D,O,S⟩,L,h,n,d⟩:=l
  dsimp only at h d;subst h d;refine callType_new F.called_enumerate #[1] (F.typeCall_enumerate_1 _) (F.newCall_enumerate_1 _) (λj=>F.args_object_init_2 j _) F.entry_enumerate_new (Zva a ws n D S) (L,?_);have Z:(zt1 s.heap a).objs.size=s.heap.objs.size+1:=GQ ..;show _/\_;rw[Z];have e:IsEnum ((zt1 s.heap a).push (.type "enumerate",none,.fields #[.none,.bool false,.ref s.heap.objs.size,rawInt 0,.none,.none],#[])) (s.heap.objs.size+1) s.heap.objs.size 0 .none:=by
   rw[<- Z];exact Bl _ rfl
  exact((_,e,rfl),q _ e (_,BA _<|Bl _ rfl,rfl,rfl) λc o z=>BA _<|BA _ z)
end
def Ld (b:Bool) (K:W.Frag) (l:Addr):It:=
 (λi H=>∃xs x,SqB b K H l xs/\xs[i]?=some x,
  λi H v h=>∃p x,H p=none/\v=.ref p/\h=upd H p (.tup [.int (i:Int),x])/\∀xs,SqB b K H l xs->xs[i]?=some x,
  λi H=>∃xs,SqB b K H l xs/\xs.length<=i)
theorem Zxt {b:Bool}{P:Program}{w:World}{K:W.Frag}{es:List Expr}{kk:Nat}{tp:Pos}(l z j:Addr) (D:z≠j):Turn P w K (.Tuple es kk tp) (Ld b K l) [z,j] z
  (λi h=>(∃old,IsEnum h z j i old)/\ItB b h j l i) where
 mem:=#[4]
 obj:=λi h T b2 hb=>by
  obtain⟨⟨old,m⟩,u⟩:=T;obtain⟨o1,G,d1⟩:=u.obj;simp only[Az,DQ,or_false]at hb;rcases hb with rfl|rfl
  ·exact(_,m,λv q=>by cases q)
  ·exact(o1,G,λv q=>by rw[d1]at q;cases q)
 keep:=λi h F T k=>by
  obtain⟨⟨old,m⟩,u⟩:=T;exact((old,k z #[4] _ m),u.at λo e=>k j #[4] o e)
 item:=by
  intro X hP hw hK C i pins s Z H E I hf T hg;subst hP hw hK;obtain⟨⟨old,m⟩,u⟩:=T;obtain⟨xs,x,Q,a⟩:=hg;obtain⟨B,r1,p1⟩:=I.seqB Q;obtain⟨u1,a0,a1⟩:=r1.get a;refine Zxk m u p1 (x:=u1) (by simpa using a0) D λF b1 b2 b3 V=>?_;refine(_,rfl,wpAny_letOwnedTupleGo_enum (s:={ s with heap:=F,toks:=s.toks+1 }) b1 λp A S=>?_);have lt:∀{c o},s.heap.get? c=some o->c≠s.heap.objs.size:=λe=>BF<|Ax e;have O:s.heap.objs.size≠z:=Ne.symm<|lt m;have r:H s.heap.objs.size=none:=I.hok.fresh<|AX _;have t:∀c o,c ∉ [z,j]->s.heap.get? c=some o->p.get? c=some o:=λc o C e=>by
   simp only[Az,DQ,or_false,not_or]at C;exact S.extBut _ _ C.1<|V c o C.1 C.2 e
  have hT:p.get? s.heap.objs.size=some { cls:=.type "tuple",data:=.seq #[.int i s.toks,u1] }:=S.extBut _ _ O b3;have R:∀c o,H c=some o->c ∉ [z,j]:=λc o e C=>by rw[(hf c C).1]at e;cases e
  have Y:HOk X.prog X.w (upd H s.heap.objs.size (.tup [.int (i:Int),x])) p:=λc o e=>by
   by_cases hcT:c=s.heap.objs.size
   ·subst hcT
    rw[Bh]at e;cases e;exact(by show 2<=sizeLine;decide,[.int i s.toks,u1],.cons (_,rfl) (.cons a1 .nil),_,hT,(rfl,_,rfl),rfl)
   ·rw[As hcT]at e
    refine(I.hok c o e).stay (λd v g q=>t d v ?_ q) (λd q=>by rw[As (CN q r)];exact q) λd y q=>by rw[As (CN q r)];exact q
    rcases g with g|g
    ·rw[g];exact R c o e
    ·exact R d _ g
  have I2:AJ X pins Z (upd H s.heap.objs.size (.tup [.int (i:Int),x])) { s with heap:=p,toks:=s.toks+1 }:=by
   refine I.call (g':=s.gens) (t':=s.toks+1) (d':=s.drawn) (ch:=[z,j]) (λc o e n C a=>t c o a e,λc o e n C a=>(o.slots,t c o a e),λc o e n a=>by rw[As (lt e)];exact n,λc o e a=>(o,t c o a e),
    λc y q=>by rw[As (CN q r)];exact q,λc o y q=>by rw[As (CN q r)];exact q,λc y q=>(#[],by rw[As (CN q r),q];simp)) Y I.bare λc f=>?_
   obtain⟨f0,J,f2,L,M,N⟩:=hf c f;exact(L,J,M,N)
  refine(.ref s.heap.objs.size,_,I2,rfl,(s.heap.objs.size,x,r,rfl,rfl,λa4 q1=>?_),((_,by have:=A;push_cast at this ⊢;exact this),b2.off S.extBut<|Ne.symm D),λc f=>?_)
  ·rw[I.seqB_inj q1 Q];exact a
  ·have U:c≠s.heap.objs.size:=by
    simp only[Az,DQ,or_false]at f;obtain⟨_,G,_⟩:=u.obj;rcases f with rfl|rfl
    ·exact lt m
    ·exact lt G
   rw[As U];exact(hf c f).1
 done:=by
  intro X hP hw hK C i pins s Z H E I hf T hg;subst hP hw hK;obtain⟨⟨old,m⟩,u⟩:=T;obtain⟨xs,Q,a2⟩:=hg;obtain⟨B,r1,p1⟩:=I.seqB Q;have a3:=r1.length;refine Zzy (I.ok.hd C) m u p1 (by simp;omega) λF V=>(rfl,?_);have t:∀c o,c ∉ [z,j]->s.heap.get? c=some o->F.get? c=some o:=λc o C e=>by
   simp only[Az,DQ,or_false,not_or]at C;exact V c o C.2 e
  have R:∀c o,H c=some o->c ∉ [z,j]:=λc o e C=>by rw[(hf c C).1]at e;cases e
  refine I.call (g':=s.gens) (t':=s.toks) (d':=s.drawn) (ch:=[z,j]) (λc o e n C a=>t c o a e,λc o e n C a=>(o.slots,t c o a e),λc o e n a=>n,λc o e a=>(o,t c o a e),
   λc y q=>q,λc o y q=>q,λc y q=>(#[],by rw[q];simp)) (λc o e=>?_) I.bare λc f=>?_
  ·refine(I.hok c o e).stay (λd v g q=>t d v ?_ q) (λd q=>q) λd y q=>q
   rcases g with g|g
   ·rw[g];exact R c o e
   ·exact R d _ g
  ·obtain⟨f0,J,f2,L,M,N⟩:=hf c f
   exact(L,J,M,N)
 self:=λ_ _ _ _ _ T h=>by
  obtain⟨⟨old,m⟩,_⟩:=T;exact wpAny_pyIter_enum m h
theorem Uj:bootBuiltins "enumerate" = some (.type "enumerate"):=by kernel_rfl
#check 0
def iEnum (K:W.Frag) (ta:TA):TI:=λZ H R=>ta Z H λs h=>∃b l,s=[.ref l]/\(∃xs,SqB b K h l xs)/\R (Ld b K l) h
theorem Oj (K:W.Frag) {es:List Expr}{kk:Nat}{tp:Pos}{a:Expr}{ta:TA}{p pos:Pos}(hg:Gl X "enumerate") (hm:X.mg "enumerate" = none) (ha:PA X [a] ta) (hs:starEach [a] X.env=[(false,eval a X.env)]:=by rfl) (hs2:starEach [] X.env=[]:=by rfl) (hK:X.K=K:=by rfl) :
  PI X (.Tuple es kk tp) (.Call (.Name "enumerate" p) [a] [] pos) (iEnum K ta):=by
 subst hK;intro pins s Z H R I h;refine Call_<|Dj I hg hm (Uj)<|PyProof.Rows.callWith_type1 (thn (ha pos pins s Z H _ I h) λus s1 (vs,H1,I1,r1,Q)=>?_) (by rw[hs,hs2]) (by rw[hs2];rfl);obtain⟨b,l,e,⟨S,x⟩,q⟩:=Q;subst e;obtain⟨u,rfl,Q⟩:=vals1 r1;cases (show u=Value.ref l from Q);obtain⟨t,w,P⟩:=I1.seqB x;refine Zym P λf B d k=>?_;refine wpAny_pyIter_enum B ?_;have i:AJ X pins Z H1 { s1 with heap:=f }:=I1.kept (t':=s1.toks) k;refine(s1.heap.objs.size+1,[s1.heap.objs.size+1,s1.heap.objs.size],_,_,H1,rfl,i,Zxt l _ _<|Nat.succ_ne_self _,((_,B),d),λb c=>?_,q);have g:s1.heap.objs.size<=b:=by
  simp only[Az,DQ,or_false]at c;rcases c with rfl|rfl <;> lia
 exact I1.fpOk g<|I1.hok.fresh g
def rMin1 (K:W.Frag):List V->Hp->VK->Prop:=λs H Q=>∃(b:Bool) (p:Addr) (ns:List Int),s=[.ref p]/\SqB b K H p (ns.map V.int)/\0<ns.length/\∀m,m∈ns->(∀a∈ns,m<=a)->Q (.int m) H
theorem minK (K:W.Frag) (hc:X.calm=true) (hK:X.K=K:=by rfl):CallR X (.builtin "min") (rMin1 K):=by
 subst hK;intro pins s Z H xs us Q I r h;obtain⟨b,p,n,rfl,G,N,q⟩:=h;obtain⟨u,rfl,U⟩:=vals1 r;cases (show u=Value.ref p from U);obtain⟨S,y,g⟩:=I.seqB G;have T:=g.lt;have L:=y.length;rw[AH]at L;have V:∀(i:Nat) v,S.toArray[i]?=some v->∃t,v=Value.int (n.getD i 0) t:=λi v e=>by
  have R:i<S.length:=by simpa using (Array.getElem?_eq_some_iff.mp e).1
  obtain⟨Y,E,t,z⟩:=y.get (i:=i) (x:=.int<|n.getD i 0) (by rw[Ad,Al,AS #[2]];rfl);rw[IM,E]at e;cases e;exact(t,z)
 have f:∀{d:Heap}{m:Nat}{v:Value},S.toArray[argBest (λi j=>decide (n.getD i 0<n.getD j 0)) (S.toArray.size-1)]?=some v->(∀c o,s.heap.get? c=some o->d.get? c=some o)->EP X pins Z Q v { s with heap:=d,toks:=m }:=λ{d m v} P k=>by
  obtain⟨t,rfl⟩:=V _ _ P;obtain⟨B,w⟩:=argBest_lt (λi=>n.getD i 0)<|S.toArray.size-1;have O:S.toArray.size=n.length:=by simp[L]
  rw[O]at B w ⊢;refine(.int<|n.getD (argBest (λi j=>decide (n.getD i 0<n.getD j 0))<|n.length-1) 0,H,I.kept k,(_,rfl),q _ ?_ λa C=>?_)
  ·rw[Al,AS #[3]];exact Br _
  ·obtain⟨j,J,rfl⟩:=Eo.mp C
   have:=w j #[2];rw[Al (l:=n) (i:=j),AS J]at this;exact this
 have D:∀{o:Obj}{d:Heap},(∀c u,c ∉ [s.heap.objs.size]->(s.heap.push o).get? c=some u->d.get? c=some u)->∀c u,s.heap.get? c=some u->d.get? c=some u:=λk c u e=>k c u (λM=>by
  have:c=s.heap.objs.size:=by simpa using M
  exact absurd (this ▸ Ax e) (FO _)) (BA _ e)
 have F:∀o:Obj,∀c∈[s.heap.objs.size,p],c<(s.heap.push o).objs.size:=λo c hc=>by
  rw[GQ];simp only[Az,DQ,or_false]at hc;rcases hc with rfl|rfl
  ·exact Nat.lt_succ_self _
  ·exact D0 T
 cases b
 ·refine call_min_walk (wpAny_pyIter_list g ?_)
  exact(_,_,_,_,_,_,_,rfl,Walks.list (A:=X.A.in1) (I.ok.hd hc) _ p (BF T) S.toArray,((_,Bl _ rfl,rfl,rfl),Heap.IsList.push g _),F _,by simp;lia,CmpOf.ints_lt (λi=>n.getD i 0) V,λv d m P k=>f P<|D k)
 ·refine call_min_walk (wpAny_pyIter_tuple g ?_)
  exact(_,_,_,_,_,_,_,rfl,Walks.tuple (A:=X.A.in1) (I.ok.hd hc) _ p (BF T) S.toArray,((_,Bl _ rfl,rfl,rfl),Heap.IsTuple.push g _),F _,by simp;omega,CmpOf.ints_lt (λi=>n.getD i 0) V,λv d m P k=>f P<|D k)
end
#check 1
theorem Ni {ns:List Int}(j:d=.lst (ns.map .int)\/d=.tup (ns.map .int)) (hm:m∈ns) (L:∀a∈ns,m<=a) (p:P (.int m) M):JC K (rMin1 K) [d] M P:=λg G H Z Q v k S c=>by
 have n:∀b,b∈ns->(∀a∈ns,b <= a)->Q (.int b) H:=λb e f=>by
  have:b=m:=Int.le_antisymm (f m hm)<|L b e;subst this;exact c _ _ G H M k (Same.refl _) (.int _) p
 have s:0<ns.length:=El hm;obtain⟨_,_,rfl,r,t⟩:=S.inv
 next=>
  cases t.inv;rcases j with j|j <;> subst j
  ·obtain⟨_,_,rfl,h,S⟩:=r.inv
   next=>have:=S.ints;subst this;exact(false,_,ns,rfl,SqL.of<|k.live _ _ h,s,n)
  ·obtain⟨_,_,rfl,h,S⟩:=r.inv
   next=>have:=S.ints;subst this;exact(true,_,ns,rfl,SqT.of<|k.live _ _ h,s,n)
def enD (ds:List D):List D:=ds.zipIdx.map λp=>D.tup [.int (p.2:Int),p.1]
theorem LF (ds:List D):(enD ds).length=ds.length:=by unfold enD;rw[AH,Jy]
theorem LG {i:Nat}(h:(enD ds)[i]?=some e):∃d,ds[i]?=some d/\e=.tup [.int (i:Int),d]:=by
 unfold enD at h;rw[Ad,Jq]at h;cases q:ds[i]? with
 |none=>rw[q]at h;cases h
 |some d=>rw[q]at h;refine(d,rfl,?_);simpa using h.symm
theorem P7 (h1:∀G1 H1,Same G G1->Same G1 H1->SqB b K H1 l1 xs) (j:Reps K G xs ds):ItOk K G (Ld b K l1) (enD ds):=λG1 H1 s h=>by
 have l:=j.length;have E:=h1 G1 H1 s h;refine((xs,E,by rw[LF];lia),λi d D=>?_);obtain⟨f,q,rfl⟩:=LG D;obtain⟨u,U,r⟩:=j.get q;refine((xs,u,E,U),λx H2 (p,a,hp,ex,eH,hab)=>?_);have A:=hab xs E;rw[U]at A;cases A;subst ex;subst eH;have H:G1 p=none:=by
  cases z:G1 p with
  |none=>rfl
  |some o=>rw[h _ _ z]at hp;cases hp
 refine(upd G1 p (.tup [.int (i:Int),u]),λc o e=>by rw[As (CN e H)];exact e,λc o e=>by rw[As (CN e hp)];exact e,λc o e=>?_,?_)
 ·by_cases hc:c=p
  ·subst hc;rw[Bh]at e ⊢;exact(e,.inr hp)
  ·rw[As hc]at e ⊢;exact(h c o e,.inl e)
 ·have g:Same G1 (upd G1 p (.tup [.int (i:Int),u])):=λc o e=>by rw[As (CN e H)];exact e
  exact .tup Bh (.cons (.int _) (.cons ((r.mono s).mono g) .nil))
theorem RK (h:JA K ta M λds M1=>∃as,(ds=[.lst as]\/ds=[.tup as])/\P (enD as) M1):JI K (iEnum K ta) M P:=λg G H Z R k c=>
 h g G H Z _ k λv ds f i M1 b l j q=>by
  obtain⟨as,e,p⟩:=q;rcases e with e|e
  ·subst e
   obtain⟨_,_,rfl,r,d⟩:=j.inv
   next=>
    cases d.inv;obtain⟨_,_,rfl,A,a⟩:=r.inv
    next=>exact(false,_,rfl,(_,SqL.of<|b.live _ _ A),c _ _ f i M1 b l (P7 (λ_ _ s S=>SqL.of<|S _ _<|s _ _ A) a) p)
  ·subst e
   obtain⟨_,_,rfl,r,d⟩:=j.inv
   next=>
    cases d.inv;obtain⟨_,_,rfl,A,a⟩:=r.inv
    next=>exact(true,_,rfl,(_,SqT.of<|b.live _ _ A),c _ _ f i M1 b l (P7 (λ_ _ s S=>SqT.of<|S _ _<|s _ _ A) a) p)
end
#check 2
#check 4
def KeepBut (a:Addr) (h h':Heap):Prop:=∀b o,b≠a->h.get? b=some o->h'.get? b=some o
end
def RowAt (h:Heap) (v:Value) (r:List Int):Prop:=∃(a:Addr) (its:List Value),v=.ref a/\IsTup h a its.toArray/\IntsAre its r
theorem RowAt.keep (x:RowAt h v r) (k:∀b o,h.get? b=some o->h'.get? b=some o):RowAt h' v r:=by
 obtain⟨a,s,e,⟨o,O,c⟩,i⟩:=x;exact(a,s,e,(o,k a o O,c),i)
theorem Oi (h:IntsAre its (x::r)):∃t us,its=.int x t::us/\IntsAre us r:=by
 cases its with
 |nil=>have:=h.length;simp at this
 |cons v us=>
  cases h with
  |cons _ _ b=>exact(_,_,rfl,b)
theorem U5 (h:IntsAre its []):its=[]:=by
 cases its with
 |nil=>rfl
 |cons v us=>have:=h.length;simp at this
#check 4
theorem Mc:∀(vs:List Value) (rs:Ay) {Q:List (Option Value)->Shared->Prop},Paired (RowAt s.heap) vs rs ->
  (∀fs:List (Option Value),Paired (λ(f:Option Value) (r:List Int)=>(r=[]/\f=none)\/∃x t l,r=x::l/\f=some (.int x t)) fs rs->Q fs s)->wpAny (model prog w) A (vs.mapM firstOfTuple') Q E s
 |[],[],_,_,h=>by rw[List.mapM_nil];exact AO (h [] .nil)
 |v::vs,r::rs,Q,.cons p t,h=>by
  obtain⟨a,i,rfl,⟨o,O,c,n,d⟩,I⟩:=p;rw[List.mapM_cons];refine AE ?_;rw[PySem.W.kas_first_eq];refine AE<|PySem.W.Looks.here (show PySem.W.Looks (model prog w) s.heap (typeOf (.ref a)) o.cls from (PySem.W.Looks.ld O).andThen .now) ?_;rw[c,AL (by first|decide|simp)];refine AE<|listItems_at O d<|AO ?_;refine AE (Mc vs rs (Q:=λb S=>wpAny _ A (pure (i.toArray[0]?::b)) Q E S) t λfs F=>AO<|h _ (.cons ?_ F));cases r with
  |nil=>rw[U5 I];exact .inl (rfl,rfl)
  |cons x l=>
   obtain⟨t,u,rfl,_⟩:=Oi I;exact .inr (x,t,l,rfl,#[4])
theorem Vp (p:Paired (RowAt s.heap) vs rs):∀v∈vs,PySem.W.Looks (model prog w) s.heap (typeOf v) (.type "tuple"):=by
 intro v h
 induction p with
 |nil=>cases h
 |cons q t ih=>
  rcases Az.mp h with e|h
  ·subst e
   obtain⟨a,i,rfl,⟨o,O,c,_⟩,_⟩:=q;have z:PySem.W.Looks (model prog w) s.heap (typeOf (.ref a)) o.cls:=(PySem.W.Looks.ld O).andThen .now;rw[c]at z;exact z
  ·exact ih h
theorem Vr (p:Paired (RowAt s.heap) vs ([]::rs)) (h:Q oneType' s):wpAny (model prog w) A (keyKind' vs.toArray) Q E s:=by
 have T:=Vp (prog:=prog) (w:=w) p;rw[keyKind'_eq,L0,map_eq_pure_bind];refine AE<|AE (Mc vs _ p λS P=>AO ?_);cases P with
 |@cons f _ S _ F _=>
  have F:f=none:=by
   rcases F with z|⟨x,t,l,z,_⟩
   ·exact z.2
   ·cases z
  subst F;rw[AL #[4],AL #[4]];rw[oneTypeOnly'_eq,L0,map_eq_pure_bind];refine AE<|AE<|AE<|PySem.W.kas_mapM (r:=.type "tuple") _ (λv V b q=>(T v V).here q)<|AO ?_;cases p with
  |@cons v _ vs _ _ _=>
   have a:((BJ (λ_=>Value.type "tuple") (v::vs)).toArray.all λx=>x == Value.type "tuple")=true:=by
    simp only[List.all_toArray,HK,DW];intro _ _;exact(by decide:(Value.type "tuple" == Value.type "tuple")=true)
   have H:(BJ (λ_=>Value.type "tuple") (v::vs)).toArray[0]?=some (Value.type "tuple"):=#[4]
   rw[H];simp only[a,if_true];exact AO<|AO h
theorem VH (p:Paired (RowAt s.heap) vs rs) (j:∀r∈rs,r≠[]) (h1:rs≠[]) (h:Q (tuples' true) s):wpAny (model prog w) A (keyKind' vs.toArray) Q E s:=by
 have X:∃f:List Value,PySem.W.KatTups s.heap vs f/\f.length=rs.length/\∀v∈f,PySem.W.Looks (model prog w) s.heap (typeOf v) (.type "int"):=by
  clear h h1
  induction p with
  |nil=>exact([],trivial,rfl,λ_ h=>nomatch h)
  |@cons v r vs rs q t ih=>
   obtain⟨f,k,b,K⟩:=ih λr R=>j r<|Bs _ R;obtain⟨a,T,rfl,⟨o,O,c,n,d⟩,i⟩:=q;cases r with
   |nil=>exact absurd rfl (j [] Bk)
   |cons x l=>
    obtain⟨g,u,rfl,_⟩:=Oi i;refine(.int x g::f,.cons O c d #[4] k,by rw[BI,BI,b],λv V=>?_);rcases Az.mp V with e|V
    ·subst e;exact .now
    ·exact K v V
 obtain⟨f,k,b,K⟩:=X;have S:0<rs.length:=IT.mpr h1;exact PySem.W.kat_kind k #[2] K #[1] h
end
#check 0
def rInU (K:W.Frag) (j:Bool):R2:=λx y H Q=>rIn K j x y H Q\/(∃a o,y=.ref a/\DGet H a x o/\Q (.bl (if j then !o.isSome else o.isSome)) H) \/
 ∃a S n i,y=.ref a/\x=.int i/\H a=some (.set S n)/\Q (.bl (if j then !S i else S i)) H
theorem inK (K:W.Frag) (U:X.A.units+1<cLine) (j:X.K=K:=by rfl):OpR X (compareOp .In) (rInU K false):=by
 subst j;intro pins s Z H x y v u Q I rx ry h;rcases h with h|⟨a,o,rfl,d,q⟩|⟨a,S,n,i,rfl,rfl,c,q⟩
 ·exact Wc pins s Z H x y v u Q I rx ry h
 ·cases ry
  exact d_in U I d rx λe b=>(.bl _,H,b,rfl,q)
 ·cases ry
  obtain⟨t,rfl⟩:=rx;exact wpAny_inSet_of (knd:=intKind X.prog X.w) (k:=i) (by simp[intKind,Value.isInt]) rfl (I.hok a _ c) (.bl _,H,I.tok _,rfl,q)
theorem notinK (K:W.Frag) (U:X.A.units+1<cLine) (j:X.K=K:=by rfl):OpR X (compareOp .NotIn) (rInU K true):=by
 subst j;intro pins s Z H x y v u Q I rx ry h;rcases h with h|⟨a,o,rfl,d,q⟩|⟨a,S,n,i,rfl,rfl,c,q⟩
 ·exact Ua pins s Z H x y v u Q I rx ry h
 ·cases ry
  exact Zw6 U I d rx λe b=>(.bl _,H,b,rfl,q)
 ·cases ry
  obtain⟨t,rfl⟩:=rx;exact wpAny_notInSet_of (knd:=intKind X.prog X.w) (k:=i) (by simp[intKind,Value.isInt]) rfl (I.hok a _ c) (.bl _,H,I.tok _,rfl,q)
def rSet0:List V->Hp->VK->Prop:=λs H Q=>s=[]/\∀p,H p=none->Q (.ref p) (upd H p (.set (λ_=>false) 0))
theorem WL:CallR X (.type "set") rSet0:=by
 intro pins s Z H xs us Q I r h;obtain⟨rfl,q⟩:=h;cases r;refine call_set_0 λd=>(.ref s.heap.objs.size,_,I.laid (t':=s.toks) (λ_ _ z=>BA _ z) (AX _) ?_,rfl,q _<|I.hok.fresh<|AX _);exact(setObjOf_fresh (knd:=intKind X.prog X.w) d).setOf (Bl _ rfl) #[1]
def rSAdd:V->List V->Hp->VK->Prop:=λx s H Q=>∃a S n i,x=.ref a/\s=[.int i]/\H a=some (.set S n)/\n+1<4096/\Q .non (upd H a (.set (λk=>S k || decide (k=i)) (if S i then n else n+1)))
theorem Zxd:MtM X "set.add" rSAdd:=by
 intro pins s Z H x vs v us Q I rx rv h;obtain⟨a,S,n,i,rfl,rfl,c,N,q⟩:=h;cases rx;obtain⟨u,rfl,r⟩:=rv.one;obtain⟨t,rfl⟩:=r;have d:s.heap.SetOf (intKind X.prog X.w) a S n:=I.hok a _ c;refine call_set_add (knd:=intKind X.prog X.w) (k:=i) (by simp[intKind,Value.isInt]) rfl d N λe B b=>?_;refine(.non,_,LP I (by rw[c];trivial) B ?_ ?_,rfl,q)
 ·obtain⟨o,_,_,_,O,_⟩:=b;exact(o,O)
 ·exact b
def rIndexL (K:W.Frag):V->List V->Hp->VK->Prop:=λx s H Q=>∃(a:Addr) (ns:List Int) (i:Int),x=.ref a/\s=[.int i]/\SqL K H a (ns.map V.int)/\ns.length<=1000/\i∈ns/\Q (.int (ns.idxOf i:Nat)) H
theorem idxLK (K:W.Frag) (O:X.K=K:=by rfl):MtM X "list.index" (rIndexL K):=by
 subst O;intro pins s Z H x vs v us Q I rx rv h;obtain⟨a,N,i,rfl,rfl,g,k,m,q⟩:=h;cases rx;obtain⟨u,rfl,U⟩:=rv.one;obtain⟨t,rfl⟩:=U;obtain⟨S,r,p,z⟩:=I.list g;have b:=EC r;have e:=b.length;obtain⟨⟨l,f,d,L⟩,o,c,n,D⟩:=p.isList;simp only at c D;subst c D;have J:N.idxOf i<N.length:=List.idxOf_lt_length_iff.mpr m;refine call_meets PySem.F.slot_list_index (_,o,rfl) PySem.F.entry_list_index (PySem.F.args_list_index_2 _ _)
  (list_indexAt a S.toArray n f L (.int i t) (isInt i) (N.idxOf i) (by simpa [e] using J) #[2] ?_ ?_) (o,λy Y=>(eq_isInt i t b y (by simpa using Y)).at _ _,(.int _,H,I.tok _,(_,rfl),q))
 ·show isInt i S[N.idxOf i]=true
  rw[isInt_at i b _ #[3] J];simpa using Lq J
 ·intro j hjs hlt
  show isInt i S[j]=false;rw[isInt_at i b j (by simpa using hjs) #[2]];exact ne_of_lt_idxOf hlt _
theorem Nj (I:AJ X pins Z H s):∀{us:List V}{its:List Value}{rs:Ay},Vals us its->Paired (λ(u:V) (r:List Int)=>∃a,u=.ref a/\SqT X.K H a (r.map V.int)) us rs->Paired (RowAt s.heap) its rs
 |_,_,_,.nil,.nil=>.nil
 |_,_,_,.cons r t,.cons p q=>by
  obtain⟨a,rfl,h⟩:=p;cases r;obtain⟨its,R,l,_⟩:=I.tuple h;exact .cons (a,its,rfl,l,EC R)<|Nj I t q
theorem Paired.len:∀{vs:List Value}{rs:Ay},Paired R vs rs->vs.length=rs.length
 |_,_,.nil=>rfl
 |_,_,.cons _ t=>by rw[BI,BI,Paired.len t]
theorem Paired.up (f:∀v r,R v r->R' v r):∀{vs:List Value}{rs:Ay},Paired R vs rs->Paired R' vs rs
 |_,_,.nil=>.nil
 |_,_,.cons p t=>.cons (f _ _ p) (Paired.up f t)
end
#check 3
theorem Ms:∀{kvs:List (AV × V)}{kds:List (AV × D)},Paired (λ(p:AV × V) (q:AV × D)=>p.1=q.1/\Ap K G p.2 q.2) kvs kds->(valV kvs k).isSome=(valD kds k).isSome
 |_,_,.nil=>rfl
 | (k1,v1)::kvs,(k2,d2)::kds,.cons (e,r) t=>by
  have e:k1=k2:=e;subst e;have i:=Ms (k:=k) t;unfold valV valD at i ⊢;by_cases h:k1=k
  ·rw[Jp #[8],Jp #[8]];rfl
  ·rw[HA #[8],HA #[8]];exact i
theorem Zz9 (h:JE K ta M λd M1=>∃x kvs i,M1[n]?=some x/\x.od=some (.dct kvs)/\d=.int i/\P (.bl (if neg then !(valD kvs (.inl i)).isSome else (valD kvs (.inl i)).isSome)) M1):JE K (tOp (rInU K neg) ta<|tVar n) M P:=λg G H Z Q k c=>
 h g G H Z _ k λv d b f M1 e s r q=>by
  obtain⟨x,kvs,i,j,l,m,p⟩:=q;subst m;cases r.inv;obtain⟨a,o,W,t,w,u,y⟩:=e.own n x _ j l;cases o with
  |dK vs=>
   refine(.ref a,W,.inr (.inl (a,_,rfl,DGet.k (k:=Sum.inl i) t,?_)));rw[Ms (K:=K) (G:=b) w];exact c _ _ b f M1 e s (.bl _) p
  |_=>exact absurd w (λz=>z)
theorem Sn (h:JE K ta M λd M1=>∃x S m i,M1[n]?=some x/\x.od=some (.set S m)/\d=.int i/\P (.bl (if neg then !S i else S i)) M1):JE K (tOp (rInU K neg) ta<|tVar n) M P:=λg G H Z Q k c=>
 h g G H Z _ k λv d e f M1 b t R q=>by
  obtain⟨x,S,m,i,l,r,s,p⟩:=q;subst s;cases R.inv;obtain⟨a,o,W,u,w,y,A⟩:=b.own n x _ l r;cases o with
  |set S' m'=>
   obtain⟨E,j⟩:S'=S/\m'=m:=w;subst E j;exact(.ref a,W,.inr (.inr (a,S',m',i,rfl,rfl,u,c _ _ e f M1 b t (.bl _) p)))
  |_=>exact absurd w (λz=>z)
theorem Qa (i:Int) (ns:List Int):inV (.int i) (ns.map V.int)=decide (i∈ns):=by
 unfold inV;rw[List.any_map]
 induction ns with
 |nil=>rfl
 |cons n ns ih=>
  rw[FN,ih];show ((n == i) || decide (i∈ns))=_;by_cases h:n=i
  ·subst h;simp
  ·rw[beq_eq_false_iff_ne.mpr h,Bool.false_or]
   have:(i∈n::ns)↔i∈ns:=by simp[Ne.symm h]
   exact decide_eq_decide.mpr this.symm
theorem Pw (ns:List Int):(ns.map V.int).all flatV=true:=by rw[HK];exact DW.mpr λ_ _=>rfl
theorem Nv {ns:List Int}(p:P (.bl (if neg then !decide (i∈ns) else decide (i∈ns))) M):JR2 K (rInU K neg) (.int i) (.tup<|ns.map .int) M P:=λg G H Z Q x y k r Y c=>by
 cases r.inv;obtain⟨_,_,rfl,a,s⟩:=Y.inv
 next=>
  have v:=s.ints;subst v;refine .inl (_,_,rfl,.inr<|SqT.of<|k.live _ _ a,rfl,Pw ns,?_);rw[Qa];exact c _ _ G H M k (Same.refl _) (.bl _) p
theorem N1 {ns:List Int}(p:P (.bl (if neg then !decide (i∈ns) else decide (i∈ns))) M):JR2 K (rInU K neg) (.int i) (.lst<|ns.map .int) M P:=λg G H Z Q x y k r Y c=>by
 cases r.inv;obtain⟨_,_,rfl,a,s⟩:=Y.inv
 next=>
  have v:=s.ints;subst v;refine .inl (_,_,rfl,.inl<|SqL.of<|k.live _ _ a,rfl,Pw ns,?_);rw[Qa];exact c _ _ G H M k (Same.refl _) (.bl _) p
theorem Zzo (p:Po (.set (λ_=>false) 0) M):JO K (tCB rSet0 tNil) M Po:=λg G H Z Q k c=>by
 refine(rfl,λl h=>?_);obtain⟨a,d⟩:=k.fresh (od:=.set (λ_=>false) 0) h (show OwnRep K G (.set (λ_=>false) 0) (.set (λ_=>false) 0) from (rfl,rfl));exact c l _ G _ M a (Same.refl _) d p
theorem Zyq {n:Nat}{te:TE}{x:Slot}{J:Int->Bool}{U:Nat}{nx bk ct:AI->Prop}{rt:D->AI->Prop}{ro:OD->AI->Prop}(L:M[n]?=some x) (ho:x.od=some (.set J U))
  (h:JE K te M λd M1=>∃y S m i,M1[n]?=some y/\y.od=some (.set S m)/\d=.int i/\m+1<4096/\nx (M1.set n<|y.put (.set (λk=>S k || decide (k=i)) (if S i then m else m+1)))) :
  JS K (tDrop<|tBM K "set" rSAdd (tVar n)<|tCons te tNil) M (nx,rt,bk,ct,ro):=λg G H Z E k c=>by
 obtain⟨a,o,b,j,l,r,s⟩:=k.own n x _ L ho;cases o with
 |set S1 n1=>
  refine(.ref a,b,.inr (.inr (.inr (rfl,_,_,j))),h g G H Z _ k λv d G1 H1 M1 k1 s1 r1 (y,S,m,i,q1,q2,q3,q4,p)=>?_);subst q3;cases r1.inv;obtain⟨A,O,w,q,W,t,u⟩:=k1.own n y _ q1 q2;rw[b]at w;cases w;cases O with
  |set S' m'=>
   obtain⟨e,f⟩:S'=S/\m'=m:=W;subst e f;exact(a,S',m',i,rfl,rfl,q,q4,c.nx Z G1 _ _ (k1.write q1 q2 b (show OwnRep K G1 (.set _ _) (.set _ _) from (rfl,rfl))) p)
  |_=>exact absurd W (λz=>z)
 |_=>exact absurd l (λz=>z)
theorem QA {to te:TE}(h:JE K to M λd M1=>∃ns:List Int,d=.lst (ns.map D.int)/\ns.length<=1000/\JE K te M1 λe M2=>∃i,e=.int i/\i∈ns/\P (.int (ns.idxOf i:Nat)) M2) :
  JE K (tBM K "list" (rIndexL K) to<|tCons te tNil) M P:=λg G H Z Q k c=>
 h g G H Z _ k λv d f j M1 b S r q=>by
  obtain⟨ns,e,l,m⟩:=q;subst e;obtain⟨a,n,rfl,A,s⟩:=r.inv
  next=>
   refine(.inl (rfl,_,SqL.of<|b.live _ _ A),m g f j Z _ b λu e G2 H2 M2 k2 s2 r2 (i,q1,q2,p)=>?_);subst q1;cases r2.inv;have E:n=ns.map V.int:=s.ints;subst E;exact(a,ns,i,rfl,rfl,SqL.of<|k2.live _ _<|s2 _ _ A,l,q2,c _ _ G2 H2 M2 k2 (S.trans s2) (.int _) p)
def rowD (r:List Int):D:=.tup<|r.map D.int
theorem Qv (l:Same G H):∀{vs:List V}{rs:Ay},Reps K G vs (rs.map rowD)->Paired (λ(u:V) (r:List Int)=>∃a,u=.ref a/\SqT K H a (r.map V.int)) vs rs
 |[],[],_=>.nil
 |[],_::_,h=>by cases h
 |_::_,[],h=>by cases h
 |v::vs,r::rs,h=>by
  cases h with
  |cons r1 t=>
   obtain⟨a,s,rfl,A,R⟩:=r1.inv
   next=>
    have e:=R.ints;subst e;exact .cons (a,rfl,SqT.of<|l _ _ A)<|Qv l t
end
theorem Dw (j:Room k A):A.units+8<cLine:=EA (Nat.add_le_add_left (by decide:8<=64) _) j.units
#check 2
#check 0
def rSortI (K:W.Frag):List V->Hp->VK->Prop:=λs H Q=>∃(p:Addr) (ns:List Int),s=[.ref p]/\SqL K H p (ns.map V.int)/\ns.length<64/\∀(l:Addr) (ms:List Int),ms.Perm ns->ms.Pairwise (· <= ·)->H l=none->Q (.ref l) (upd H l (.lst<|ms.map V.int))
theorem Of:∀{vs:List Value}{ns:List Int},vs.length=ns.length->(∀(i:Nat) v,vs[i]?=some v->∃t,v=.int (ns.getD i 0) t)->IntsAre vs ns
 |[],[],_,_=>.nil
 |[],_::_,h,_=>by simp at h
 |_::_,[],h,_=>by simp at h
 |v::vs,n::ns,h,g=>by
  obtain⟨t,rfl⟩:=g 0 v rfl;exact .cons n t (Of #[8] λi u e=>by simpa using g (i+1) u (by simpa using e))
theorem sortIK (K:W.Frag) (j:X.K=K:=by rfl):CallR X (.builtin "sorted") (rSortI K):=by
 subst j;intro pins s Z H xs us Q I r h;obtain⟨p,S,rfl,x,L,q⟩:=h;obtain⟨u,rfl,U⟩:=vals1 r;cases (show u=Value.ref p from U);obtain⟨i,c,P,d⟩:=I.list x;have a:=EC c;have n:=a.length;refine sorted_ints P.isList a #[2] λt m O o b=>?_;obtain⟨e,E⟩:=sortedAll_at s.heap i t;have l:=o.length_eq;refine(.ref<|s.heap.objs.size+1,_,I.laid (t':=s.toks) (λ_ _ z=>sortedAll_old z) (D2 _) (show ObjOk X.prog X.w _ _ _ (.lst<|m.map V.int) from (?_,t.toList,e,GW O,?_)),rfl,q _ m o b<|I.hok.fresh<|D2 _)
 ·rw[AH];exact CM (small1000 #[2])
 ·rw[Array.toArray_toList];exact E
def tLR (ta:TA):TE:=λZ H Q=>ta Z H λs h=>∃n:Nat,s=[.int (n:Int)]/\n<=1000/\∀l,h l=none->Q (.ref l) (upd h l (.lst ((Af n).map λi:Nat=>V.int (i:Int))))
theorem Oh {a:Expr}{ta:TA}{p p2 pos pos2:Pos}(hc:X.calm=true) (hgL:Gl X "list") (hmL:X.mg "list" = none) (hgR:Gl X "range") (hmR:X.mg "range" = none) (ha:PA X [a] ta) (hs:starEach [a] X.env=[(false,eval a X.env)]:=by rfl)
  (he:starEach [.Call (.Name "range" p2) [a] [] pos2] X.env=[(false,eval (.Call (.Name "range" p2) [a] [] pos2) X.env)]:=by rfl) :
  PE X (.Call (.Name "list" p) [.Call (.Name "range" p2) [a] [] pos2] [] pos) (tLR ta):=by
 intro pins s Z H Q I h;refine wpAny_Call_Name_kw<|Dj I hgL hmL Gj ?_;refine PyProof.Rows.callWith_type1 ?_ he rfl;rw[he];show wpAny _ _ (spliced ((false,eval (.Call (.Name "range" p2) [a] [] pos2) X.env)::backTo pos [])) _ _ s;refine Calls.spliced_cons ?_;refine Call_<|Dj I hgR hmR boot_range<|PyProof.Rows.callWith_type1 (thn (ha pos2 pins s Z H _ I h) λus s1 (vs,H1,I1,r1,q1)=>?_) hs rfl;obtain⟨n,e,N,q⟩:=q1;subst e;cases r1 with
 |cons r rr=>
  cases rr;obtain⟨t,rfl⟩:=r;refine call_range_1<|Calls.spliced_nil ?_;have d:AJ X pins Z H1 { s1 with heap:=s1.heap.push { cls:=.type "range",data:=.fields #[.int 0 s1.toks,.int (n:Int) t,.int 1 (s1.toks+1)] },toks:=s1.toks+1+1 }:=I1.kept λb o e=>BA _ e;refine call_list_range (a:=0) (b:=(n:Int)) (c:=1) (n:=n) (I1.ok.hd hc) (IsRange.new ..) (small_one #[1] #[1] #[2] #[2]) (by rw[rangeSize_one];split <;> lia) #[2] λj T C g K D f=>?_
  have l:C.size=n:=f.1;refine(.ref _,_,d.laid (t':=T) K (AX _) (show ObjOk X.prog X.w _ j _ (.lst ((Af n).map λi:Nat=>V.int (i:Int))) from (?_,C.toList,g,?_,?_)),rfl,q _<|d.hok.fresh<|AX _)
  ·rw[AH,By];exact CM<|small1000 N
  ·have:IntsAre C.toList ((Af n).map λi:Nat=>(i:Int)):=by
    refine Of (by rw[Array.length_toList,l,AH,By]) λi v e=>?_;have k:i<n:=by
     have:=(BZ.mp e).1;rw[Array.length_toList,l]at this;exact this
    obtain⟨t',rfl⟩:=f.2 i v (by rw[<- Array.getElem?_toList];exact e);refine(t',?_);rw[Al,Ad,Ep k];show Value.int (0+(i:Int)*1) t'=Value.int (i:Int) t';rw[DE,Int.mul_one]
   have:=GW this;rw[Ba]at this;exact this
  ·rw[Array.toArray_toList];exact D
end
#check 3
theorem Ob (h:JA K ta M λds M1=>∃n:Nat,ds=[.int (n:Int)]/\n<=1000/\Po (.lst ((Af n).map λi:Nat=>D.int (i:Int))) M1):JO K (tLR ta) M Po:=λg G H Z Q k c=>
 h g G H Z _ k λv ds a f M1 b s R q=>by
  obtain⟨n,e,L,p⟩:=q;subst e;obtain⟨_,_,rfl,r,t⟩:=R.inv
  next=>
   cases t.inv;cases r.inv;refine(n,rfl,L,λl L=>?_);obtain⟨d,P⟩:=b.fresh (od:=.lst ((Af n).map λi:Nat=>D.int (i:Int))) L (show OwnRep K a (.lst ((Af n).map λi:Nat=>V.int (i:Int))) (.lst ((Af n).map λi:Nat=>D.int (i:Int))) from by
    have:=Reps.ofInts (K:=K) (G:=a) ((Af n).map λi:Nat=>(i:Int));rw[Ba,Ba]at this;exact this)
   exact c l _ a _ M1 d s P p
theorem Nh {n:Nat}{L Y:TE}{x:Slot}{J:List D}{nx bk ct:AI->Prop}{rt:D->AI->Prop}{ro:OD->AI->Prop}(hx:M[n]?=some x) (ho:x.od=some (.lst J))
  (h:JE K L M λe1 M1=>JE K Y M1 λe2 M2=>∃y i ds,e1=.int i /\ M2[n]?=some y/\y.od=some (.lst ds)/\ds.length<sizeLine /\ -(2 ^ 62)<=i/\i<2 ^ 62/\nx (M2.set n<|y.put (.lst (ds.take (insI ds.length i)++e2::ds.drop (insI ds.length i))))) :
  JS K (tDrop<|tBM K "list" rInsert (tVar n)<|tCons L<|tCons Y tNil) M (nx,rt,bk,ct,ro):=λg G H Z E k c=>by
 obtain⟨a,o,b,f,j,s,t⟩:=k.own n x _ hx ho;cases o with
 |lst vs0=>
  refine(.ref a,b,.inl (rfl,_,SqL.of f),h g G H Z _ k λV e1 d e M1 l S r P=>P g d e Z _ l λv2 e2 G2 H2 M2 k2 s2 r2 (y,i,ds,q1,q2,q2',q3,q4,q5,p)=>?_);subst q1;cases r.inv;obtain⟨A,O,U,q,u,v,w⟩:=k2.own n y _ q2 q2';rw[b]at U;cases U;cases O with
  |lst vs=>
   have u:Reps K G2 vs ds:=u;refine(_,vs,i,v2,rfl,rfl,q,by rw[u.length];exact q3,q4,q5,?_);have m:=k2.write q2 q2' b (show OwnRep K G2 (.lst (vs.take (insI vs.length i)++v2::vs.drop (insI vs.length i))) (.lst (ds.take (insI ds.length i)++e2::ds.drop (insI ds.length i))) from by
    rw[u.length];exact(u.take _).append (.cons r2 (u.drop _)))
   exact c.nx Z G2 _ _ m p
  |_=>exact absurd u (λz=>z)
 |_=>exact absurd j (λz=>z)
end
#check 2
def FK (xs:Array Nat):Prop:=∀(i j a b:Nat),i<j->xs[i]?=some a->xs[j]?=some b->a<b
theorem NR (xs:Array Nat) (R:FK xs) (j:Nat):∀(fuel lo hi:Nat),hi-lo<=fuel->lo<=hi->hi<=xs.size->(∀(i a:Nat),i<lo->xs[i]?=some a->a<j)->(∀(i a:Nat),hi<=i->xs[i]?=some a->j<=a) ->
  SetTable.below.go xs j fuel lo hi<=xs.size/\(∀(i a:Nat),i<SetTable.below.go xs j fuel lo hi->xs[i]?=some a->a<j)/\∀(i a:Nat),SetTable.below.go xs j fuel lo hi<=i->xs[i]?=some a->j<=a
 |0,lo,hi,h1,h2,h3,h4,h5=>by
  have:lo=hi:=#[2]
  subst this;show lo<=xs.size/\_;exact(h3,h4,h5)
 |fuel+1,lo,hi,h1,h2,h3,h4,h5=>by
  unfold SetTable.below.go;by_cases hlt:lo<hi
  ·rw[AM hlt]
   dsimp only;have m:(lo+hi) / 2<xs.size:=#[2]
   have g:xs.getD ((lo+hi) / 2) j=xs[(lo+hi) / 2]:=by simp[Array.getD,m]
   by_cases hc:xs.getD ((lo+hi) / 2) j<j
   ·rw[AM hc]
    refine NR xs R j fuel _ _ #[3] #[2] h3 (λi a h e=>?_) h5;by_cases hi2:i=(lo+hi) / 2
    ·subst hi2
     rw[Array.getElem?_eq_getElem m]at e;cases e;lia
    ·have:=R i ((lo+hi) / 2) a _ #[2] e (Array.getElem?_eq_getElem m)
     lia
   ·rw[AL hc]
    refine NR xs R j fuel _ _ #[3] #[2] #[2] h4 λi a h e=>?_;by_cases hi2:i=(lo+hi) / 2
    ·subst hi2
     rw[Array.getElem?_eq_getElem m]at e;cases e;lia
    ·have:=R ((lo+hi) / 2) i _ a #[2] (Array.getElem?_eq_getElem m) e
     lia
  ·rw[AL hlt]
   have:lo=hi:=#[2]
   subst this;exact(h3,h4,h5)
theorem O8 (R:FK xs) (j:Nat):SetTable.below xs j<=xs.size/\(∀(i a:Nat),i<SetTable.below xs j->xs[i]?=some a->a<j)/\∀(i a:Nat),SetTable.below xs j<=i->xs[i]?=some a->j<=a:=
 NR xs R j xs.size 0 xs.size #[2] (CS _) (AX _) (λi a h=>#[2]) λi a h e=>by
  have:=(Array.getElem?_eq_some_iff.mp e).1;lia
theorem Ue (xs:Array α) (p:Nat) (x:α) (h:p<=xs.size):(SetTable.insertAt xs p x).toList=xs.toList.take p++x::xs.toList.drop p:=by
 unfold SetTable.insertAt;rw[Array.toList_append,Array.toList_push,Array.toList_extract,Array.toList_extract];simp[List.extract_eq_take_drop,CK];rw[GI #[4]]
theorem Uv (xs:Array α) (p:Nat) (x:α) (h:p<=xs.size) (i:Nat):(SetTable.insertAt xs p x)[i]?=if i<p then xs[i]? else if i=p then some x else xs[i-1]?:=by
 rw[<- Array.getElem?_toList,Ue xs p x h];by_cases h1:i<p
 ·rw[AM h1,Dp (by rw[Bn,Array.length_toList];lia),Lv h1,Array.getElem?_toList]
 ·rw[AL h1,Ci (by rw[Bn,Array.length_toList];lia),Bn,Array.length_toList,IZ h]
  by_cases h2:i=p
  ·rw[AM h2,h2,HL];rfl
  ·rw[AL h2,show i-p=(i-1-p)+1 by lia,Ju,HG,Array.getElem?_toList,show p+(i-1-p)=i-1 by lia]
theorem Zxn (R:FK xs) (J:xs[SetTable.below xs j]?≠some j):FK (SetTable.insertAt xs (SetTable.below xs j) j):=by
 obtain⟨c,d,B⟩:=O8 R j;have f:∀(i a:Nat),SetTable.below xs j<=i->xs[i]?=some a->j<a:=λi a h e=>by
  have H:=B i a h e;by_cases hi:i=SetTable.below xs j
  ·subst hi
   rcases Nat.lt_or_eq_of_le H with z|z
   ·exact z
   ·subst z;exact absurd e J
  ·obtain⟨s,S⟩:=Array.getElem?_eq_some_iff.mp e
   have t:SetTable.below xs j<xs.size:=#[2]
   have g:=B _ _ (AX _)<|Array.getElem?_eq_getElem t;have:=R (SetTable.below xs j) i _ a #[2] (Array.getElem?_eq_getElem t) e;lia
 intro i k a b hik ha hb;rw[Uv _ _ _ c]at ha hb;split at ha
 ·split at hb
  ·exact R i k a b hik ha hb
  ·split at hb
   ·cases hb;exact d i a #[3] ha
   ·exact R i (k-1) a b #[2] ha hb
 ·split at ha
  ·cases ha
   rw[AL #[2],AL #[2]]at hb;exact f (k-1) b #[2] hb
  ·rw[AL #[2],AL #[2]]at hb
   exact R (i-1) (k-1) a b #[2] ha hb
theorem Zyk:FK #[]:=λi j a b _ e=>by simp at e
theorem WI (n:Nat):FK (Array.range n):=λi j a b h e E=>by
 simp[Array.getElem?_range]at e E;lia
structure TabOk (led:Bool) (t:SetTable):Prop where
 led:t.led=led
 dum:t.dummies = #[]
 ris:FK t.place
theorem TabOk.fresh (L:Bool):TabOk L (SetTable.fresh 0 0 L):=(rfl,rfl,Zyk)
theorem TabOk.standIn {L:Bool}{t:SetTable}(h:TabOk L t) (n:Nat):TabOk L (t.standIn n):=(h.led,rfl,WI n)
theorem RQ (j:Nat):SetTable.has #[] j=false:=by unfold SetTable.has;simp
theorem Ow (J:t.dummies = #[]):∀(fuel:Nat) (p:SetTable.Probe) {j:Nat}{dm:Option Nat},p.dummy=none->SetTable.probe.go t hashAt h fuel p=some (.empty j dm)->dm=none/\t.place[SetTable.below t.place j]?≠some j
 |0,_,_,_,_,e=>by cases e
 |fuel+1,p,j,dm,hp,e=>by
  unfold SetTable.probe.go at e;have v:(t.advance p).dummy=none:=by unfold SetTable.advance;split <;> exact hp
  unfold SetTable.slot at e;dsimp only at e;by_cases hl:(t.place[SetTable.below t.place p.j]? == some p.j)=true
  ·rw[AM hl]at e
   dsimp only at e;split at e
   ·cases e
   ·exact Ow J fuel _ v e
  ·rw[AL hl,J,RQ]at e
   simp only[CD,if_false]at e;injection e with e
   injection e with e1 e2
   subst e1 e2;exact(hp,λz=>hl (by rw[z];simp))
theorem TabOk.put {L:Bool}{t:SetTable}(h:TabOk L t) {j:Nat}(J:t.place[SetTable.below t.place j]?≠some j):TabOk L (t.put j).1:=by
 refine(h.led,?_,Zxn h.ris J);show (if SetTable.has t.dummies j=true then _ else t.dummies) = #[];rw[h.dum,RQ];rfl
theorem TabOk.layNew {L:Bool}{t:SetTable}(h:TabOk L t) (es:Array (Int × Value)) (z:Int) (x:Value):TabOk L (layNew t es z x).2.1:=by
 unfold PySem.layNew;unfold SetTable.freeSlot;cases q:t.probe (λ_=>z+1) z (t.probeStart z) with
 |none=>exact h.standIn _
 |some m=>
  cases m with
  |candidate j i p=>exact h.standIn _
  |empty j dm=>
   obtain⟨E,e⟩:=Ow h.dum _ (t.probeStart z) rfl (show SetTable.probe.go t (λ_=>z+1) z (10*SetTable.turns t.mask) (t.probeStart z)=some (.empty j dm) from q);subst E;show TabOk L ((t.put j).1.orStandIn _);unfold SetTable.orStandIn;split
   ·exact h.put e
   ·exact(h.put e).standIn _
theorem Zu2 (owner:Array (Option Nat)) (m:Nat):FK ((((Af m).filterMap λj=>(owner.getD j none).map (λx=>((j,x):_×_))).map (·.1)).toArray):=by
 have w:((Af m).filterMap λj=>(owner.getD j none).map (λx=>((j,x):_×_))).Pairwise (λa b=>a.1<b.1):=by
  rw[List.pairwise_filterMap];refine List.Pairwise.imp ?_ Ek;intro a b hab c h d D;cases qa:owner.getD a none with
  |none=>rw[qa]at h;cases h
  |some k=>
   cases qb:owner.getD b none with
   |none=>rw[qb]at D;cases D
   |some l=>
    rw[qa]at h;rw[qb]at D;have h:(a,k)=c:=#[8]
    have D:(b,l)=d:=by simpa using D
    subst h D;exact hab
 intro i j a b hij e B;rw[IM,Ad]at e B;cases qa:((Af m).filterMap λj=>(owner.getD j none).map (λx=>((j,x):_×_)))[i]? with
 |none=>rw[qa]at e;cases e
 |some c=>
  cases qb:((Af m).filterMap λj=>(owner.getD j none).map (λx=>((j,x):_×_)))[j]? with
  |none=>rw[qb]at B;cases B
  |some d=>
   rw[qa]at e;rw[qb]at B;have e:c.1=a:=by simpa using e
   have B:d.1=b:=by simpa using B
   subst e B;obtain⟨I,f⟩:=BZ.mp qa;obtain⟨J,g⟩:=BZ.mp qb;have:=FL.mp w i j I J hij;rw[f,g]at this;exact this
theorem TabOk.relay {L:Bool}{t:SetTable}(h:TabOk L t) (es:Array (Int × Value)) (j:Nat):TabOk L (relayAll t es j).2.1:=by
 unfold PySem.relayAll;cases q:t.relaid (es.map (·.1)) j with
 |none=>exact h.standIn _
 |some r=>
  obtain⟨T,d⟩:=r;dsimp only;split
  ·unfold SetTable.relaid SetTable.laid at q
   cases q2:SetTable.layClean (SetTable.sizeAbove j-1) (es.map (·.1)) with
   |none=>rw[q2]at q;cases q
   |some owner=>
    rw[q2]at q;have q:_=some ((T,d):_×_):=q;have e:=congrArg Prod.fst<|CF.inj q;dsimp only at e;rw[<- e];exact(h.led,rfl,Zu2 owner _)
  ·exact h.standIn _
def numOf:Value->Int
 |.int i _=>i
 |_=>0
section
variable {prog:Program}{w:World}
def byTextB (w:World):Bool:=w.params.followText "set-order"
structure SetG (prog:Program) (w:World) (h:Heap) (a:Addr) (o:Obj) (es:Array (Int × Value)) (ep:Nat) (t:SetTable) (ks:List Int):Prop where
 get:h.get? a=some o
 ex:o.ExactSet
 dat:o.data=.set es ep t
 el:ElemsOf (intKind prog w) es.toList
 room:es.size<scanBound
 fit:t.fits es.size=true
 tab:TabOk (!byTextB w) t
 perm:(es.toList.map λe=>numOf e.2).Perm ks
 nd:ks.Nodup
def SetI (prog:Program) (w:World) (h:Heap) (a:Addr) (ks:List Int):Prop:=∃o es ep t,SetG prog w h a o es ep t ks
theorem SetI.keep (x:SetI prog w h a ks) (k:∀o,h.get? a=some o->h'.get? a=some o):SetI prog w h' a ks:=by
 obtain⟨o,s,p,t,g⟩:=x;exact(o,s,p,t,k _ g.get,g.ex,g.dat,g.el,g.room,g.fit,g.tab,g.perm,g.nd)
theorem SetG.size (g:SetG prog w h a o es ep t ks):es.size=ks.length:=by
 have:=g.perm.length_eq;rw[AH,Array.length_toList]at this;exact this
theorem Ph (h:(intKind prog w).is k v=true):numOf v=k/\∃t,v=.int k t:=by
 obtain⟨t,rfl⟩:=Value.isInt_shape (show Value.isInt k v=true from h);exact(rfl,t,rfl)
theorem Qr (h:ElemsOf (intKind prog w) es) (j:e∈es):∃t,e.2=.int (numOf e.2) t:=by
 obtain⟨⟨k,K,_⟩,_⟩:=h e j;obtain⟨a,t,H⟩:=Ph K;exact(t,by rw[H];rfl)
theorem E8 (h:ElemsOf (intKind prog w) es):(∃e∈es,(intKind prog w).is k e.2=true)↔k∈es.map λe=>numOf e.2:=by
 rw[A2];constructor
 ·rintro⟨e,E,p⟩;exact(e,E,(Ph p).1)
 ·rintro⟨e,E,rfl⟩
  obtain⟨t,T⟩:=Qr h E;exact(e,E,by rw[T];exact intKind_is _ _ _ _)
section
variable {A:Around}{E:Ai}{s:Shared}
theorem SetG.store {h:Heap}{a:Addr}{o:Obj}{es:Array (Int × Value)}{ep:Nat}{t:SetTable}{ks:List Int}(g:SetG prog w h a o es ep t ks) {es':Array (Int × Value)}{t':SetTable}{ks':List Int}
  (hel:ElemsOf (intKind prog w) es'.toList) (hb:es'.size<scanBound) (hf:t'.fits es'.size=true) (ht:TabOk (!byTextB w) t') (hp:(es'.toList.map λe=>numOf e.2).Perm ks') (hn:ks'.Nodup) :
  SetG prog w (h.update a<|Obj.putSet es' t') a { o with data:=.set es' (ep+1) t' } es' (ep+1) t' ks':=by
 have G:(h.update a<|Obj.putSet es' t').get? a=some { o with data:=.set es' (ep+1) t' }:=by
  have:=IP (Obj.putSet es' t') g.get (by rw[putSet_of es' t' g.dat];rfl);rw[putSet_of es' t' g.dat]at this;exact this
 exact(G,g.ex,rfl,hel,hb,hf,ht,hp,hn)
def addE (ks:List Int) (k:Int):List Int:=if k∈ks then ks else ks++[k]
theorem Zud {a:Addr}{ks:List Int}{k:Int}{tk:Tok}{Q:Bool->Shared->Prop}(hS:SetI prog w s.heap a ks) (hroom:ks.length+1<scanBound)
  (h:∀b h',Heap.SameBut a s.heap h' -> SetI prog w h' a (addE ks k)->Q b { s with heap:=h' }) :
  wpAny (model prog w) A (setAddHashed a (.int k tk)<|hashInt k) Q E s:=by
 obtain⟨o,es,ep,t,g⟩:=hS;have hsz:=g.size;have hkey:(intKind prog w).is k (.int k tk)=true:=intKind_is _ _ _ _;unfold setAddHashed setAddHashedIn;refine Cv<|AE<|wpAny_setState_of g.get g.dat g.fit ?_;dsimp only;rw[byScan_of (knd:=intKind prog w) rfl g.room g.el];simp only[↓reduceIte];unfold setAddByScan;refine AE ?_;refine AE<|EO ?_;refine AE<|wpAny_setScan_of (knd:=intKind prog w) (k:=k) hkey g.get g.dat g.fit g.el ?_;cases hr:List.findIdx? (λe=>(intKind prog w).is k e.2) es.toList with
 |some j=>
  dsimp only;obtain⟨hj,hpj,_⟩:=List.findIdx?_eq_some_iff_getElem.mp hr;have hk:k∈ks:=g.perm.mem_iff.mp ((E8 g.el).mp (es.toList[j],Br hj,hpj));refine AO<|AO ?_;have e:s = { s with heap:=s.heap }:=by cases s;rfl
  rw[e];refine h _ s.heap (Heap.SameBut.refl a s.heap) ?_;unfold addE;rw[AM hk];exact(o,es,ep,t,g)
 |none=>
  dsimp only;have hk:k ∉ ks:=λz=>by
   obtain⟨e,he,hp⟩:=(E8 g.el).mpr (g.perm.mem_iff.mpr z);have:=List.findIdx?_eq_none_iff.mp hr e he;rw[hp]at this;cases this
  have hgw:∀(b:Bool) {s₁:Shared}{Q':Unit->Shared->Prop},Q' () s₁ -> wpAny (model prog w) A (match b with|true=>rule "set.scan.the-table-gave-way" |false=>pure ()) Q' E s₁:=
   λb s₁ Q' hq=>by cases b <;> first|exact AO hq|exact EO hq
  have hperm:=layNew_perm t es (hashInt k) (.int k tk);have hfits:=layNew_fits t es (hashInt k) (.int k tk);have htab:=g.tab.layNew es (hashInt k) (.int k tk);generalize hL:layNew t es (hashInt k) (.int k tk)=L at hperm hfits htab ⊢;obtain⟨es1,t1,wasDummy,gave⟩:=L;dsimp only at hperm hfits htab ⊢;rw[Array.toList_push]at hperm;have hel1:ElemsOf (intKind prog w) es1.toList:=(g.el.push (k:=k) hkey rfl).perm hperm;have hsz1:es1.size=es.size+1:=by rw[<- Array.length_toList,hperm.length_eq,A1,Array.length_toList];rfl
  have hb1:es1.size<scanBound:=#[2]
  have hp1:(es1.toList.map λe=>numOf e.2).Perm (ks++[k]):=by
   refine(hperm.map _).trans ?_;rw[A5];exact List.Perm.append_right _ g.perm
  have hnd1:(ks++[k]).Nodup:=by
   rw[DY];refine(g.nd,#[4],λa ha b hb e=>?_);rw[BU.mp hb]at e;exact hk (e ▸ ha)
  have eadd:addE ks k=ks++[k]:=by unfold addE;rw[AL hk]
  refine AE<|hgw _ ?_;have tail:∀(Q2:Option Bool->Shared->Prop),(∀h',Heap.SameBut a s.heap h' -> SetI prog w h' a (ks++[k])->Q2 (some true) { s with heap:=h' })->∀(g0:Bool->Sem Unit),(∀(b:Bool) (s₁:Shared) (Q':Unit->Shared->Prop),Q' () s₁ -> wpAny (model prog w) A (g0 b) Q' E s₁) ->
    wpAny (model prog w) A (do
     storeSet a es1 t1
     if (!wasDummy && t1.tooFull)=true then do
       g0 (relayAll t1 es1<|SetTable.grown es1.size).2.2
       storeSet a (relayAll t1 es1<|SetTable.grown es1.size).1 (relayAll t1 es1<|SetTable.grown es1.size).2.1
       pure (some true)
      else pure (some true)) Q2 E s:=by
   intro Q2 hq g0 hg0;refine AE<|wpAny_storeSet_of g.get g.dat ?_<|fits_of_scanBound hb1;have g1:=g.store (es':=es1) (t':=t1) hel1 hb1 hfits htab hp1 hnd1;have sb1:=Heap.SameBut.update s.heap a<|Obj.putSet es1 t1;split
   ·have hp:=relayAll_perm t1 es1 (SetTable.grown es1.size)
    have hfr:=relayAll_fits t1 es1<|SetTable.grown es1.size;have htr:=htab.relay es1<|SetTable.grown es1.size;generalize hRl:relayAll t1 es1 (SetTable.grown es1.size)=Rl at hp hfr htr ⊢;obtain⟨es2,t3,gave2⟩:=Rl;dsimp only at hp hfr htr ⊢;have hsz2:es2.size=es1.size:=by rw[<- Array.length_toList,hp.length_eq,Array.length_toList]
    refine AE<|hg0 _ _ _ ?_;refine AE (wpAny_storeSet_of g1.get rfl ?_<|fits_of_scanBound #[2]);have g2:=g1.store (es':=es2) (t':=t3) (hel1.perm hp) #[3] hfr htr ((hp.map _).trans hp1) hnd1;exact AO<|hq _ (sb1.trans<|Heap.SameBut.update _ a _) (_,_,_,_,g2)
   ·exact AO<|hq _ sb1 (_,_,_,_,g1)
  have hgv:∀(b:Bool) (s₁:Shared) (Q':Unit->Shared->Prop),Q' () s₁ -> wpAny (model prog w) A (match b with|true=>rule "set.scan.the-table-gave-way" |false=>pure ()) Q' E s₁:=λb s₁ Q' hq=>hgw b hq;split
  ·refine AE ?_
   rw[hashByValue_scannable 8 (x:=.int k tk) rfl];refine AO ?_;simp only[plainKind,if_true];exact tail _ (λh' sb hS'=>by dsimp only;exact AO<|h _ h' sb (by rw[eadd];exact hS')) _ hgv
  ·refine AE (AO ?_)
   simp only[↓reduceIte];exact tail _ (λh' sb hS'=>by dsimp only;exact AO<|h _ h' sb (by rw[eadd];exact hS')) _ hgv
end
end
def metK (L:Nat->Int):Nat->List Int
 |0=>[]
 |i+1=>addE (metK L i) (L i)
theorem LA (L:Nat->Int) (i:Nat):(metK L i).length<=i:=by
 induction i with
 |zero=>exact AX _
 |succ i ih=>
  show (addE (metK L i)<|L i).length<=i+1;unfold addE;split
  ·lia
  ·rw[A1,CO];lia
theorem Zun:x∈metK val i ↔ ∃j,j<i/\val j=x:=by
 induction i with
 |zero=>simp[metK]
 |succ i ih=>
  show x∈addE (metK val i) (val i)↔_;unfold addE;constructor
  ·intro h
   split at h
   ·obtain⟨j,J,e⟩:=ih.mp h;exact(j,#[2],e)
   ·rcases Bo.mp h with h|h
    ·obtain⟨j,J,e⟩:=ih.mp h;exact(j,#[3],e)
    ·exact(i,#[2],(BU.mp h).symm)
  ·rintro⟨j,J,rfl⟩
   by_cases hji:j=i
   ·subst hji
    split
    ·assumption
    ·exact Bx _ #[4]
   ·have:=ih.mpr (j,#[2],rfl)
    split
    ·exact this
    ·exact D1 _ this
section
variable {prog:Program}{w:World}{A:Around}{R:Result->Shared->Prop}{I:Addr}{fp wr:List Addr}{G:Array GenState->Array GenState->Prop}{n:Nat}{P:Nat->Value->Prop}{St:Nat->Shared->Prop}
theorem O5 (W:WalksS prog w A.in1 I fp wr G n P St) (S:Addr) (hSf:S ∉ fp)
  (val:Nat->Int) (hval:∀i v,P i v->∃t,v=.int (val i) t) (hb:n+1<scanBound) :
  ∀(k i:Nat) (s:Shared),n-i=k->i<=n->St i s->SetI prog w s.heap S (metK val i) ->
   (∀s',Moved (S::wr) G s s' -> SetI prog w s'.heap S (metK val n)->R (.ok (.ret .none)) s') ->
   codeAny (model prog w) A (.builtin "set.update.loop" ([.ref S,.ref I],[])) R s:=by
 have a:S ∉ wr:=λh=>hSf<|W.sub _ h;have u:∀b∈wr,b∈S::wr:=λb hb=>Bs _ hb;intro k
 induction k with
 |zero=>
  intro i s hk hi hst hS hR;have N:i=n:=#[2]
  subst N;refine codeAny_builtin F.entry_set_update_loop ?_;rw[Around.under_plainId F.plain_set_update_loop _];show wpAny _ A.in1 (pyNext (.ref I) >>= _) _ _ s;refine AE (W.done s _ _ hst λs' M=>?_);show wpAny _ A.in1 (ret Value.none) _ _ s';exact AO<|hR s' (M.mono u) (hS.keep λo e=>M.heap S o a e)
 |succ k ih=>
  intro i s hk hi hst hS hR;have l:i<n:=#[3]
  refine codeAny_builtin F.entry_set_update_loop ?_;rw[Around.under_plainId F.plain_set_update_loop _];show wpAny _ A.in1 (pyNext (.ref I) >>= _) _ _ s;refine AE (W.item i s _ _ l hst λv s' p T M=>?_);obtain⟨t,rfl⟩:=hval i v p;have d:SetI prog w s'.heap S (metK val i):=hS.keep λo e=>M.heap S o a e;show wpAny _ A.in1 (holding [Value.int (val i) t] (setAdd S (.int (val i) t)) >>= _) _ _ s';refine AE<|Cv ?_;unfold setAdd;refine Cv ?_;refine AE ((intKind prog w).pyHash (k:=val i) (intKind_is _ _ _ _) ?_);have m:(metK val i).length+1<scanBound:=by have:=LA val i;lia
  refine Zud (s:={ s' with toks:=s'.toks+1 }) d m λb j B f=>?_;refine AO (plainId_quiet F.plain_set_update_loop _,ih (i+1) _ #[2] l (W.frame _ s' _ _ T (D2 _) λb hb o e=>?_) f λg c H=>?_)
  ·rw[B.2 b (λh:b=S=>hSf (by rw[<- h];exact hb))];exact e
  ·refine hR g (Moved.trans W.gtrans ((M.mono u).then_heap (D2 _) λb o hb e=>?_) c) H
   rw[B.2 b (λh:b=S=>hb (by rw[h];exact Bk))];exact e
end
#check 4
abbrev set0 (w:World):Obj:={ cls:=.type "set",dict:=none,data:=.set #[] 0 (.fresh 0 0 (!byTextB w)) }
theorem QO (x:Value) {N:Ai}(h:N (.ref s.heap.objs.size) { s with heap:=s.heap.push (set0 w) }) :
  codeAny (model prog w) A (.call (.builtin "set.__new__") ([.type "set",x],[])) (wants N E) s:=
 codeAny_of_tree (by
  have u:=sub_set_self;obtain⟨p,g,d,k,o⟩:=s;refine AE (m:=checkBuiltinCall "set.__new__" ([.type "set",x],[]))<|wpAny_of_eq (F.newCall_set_1 x)<|AO (plainId_quiet F.plain_set_new _,codeAny_builtin F.entry_set_new ?_);rw[Around.under_plainId F.plain_set_new _];unfold Builtin.«set.__new__» Builtin.Frozenset.newClass
  wp_walk
  refine wpAny_askSetting (AO ?_);simp only[newObj];exact AE (wpAny_alloc (AO (AO h))))
theorem WW {S l:Addr}{its:Array Value}{ns:List Int}{N:Result->Shared->Prop}(hh:A.handled=none) (hS:s.heap.get? S=some (set0 w)) (hl:s.heap.IsList l its) (hi:IntsAre its.toList ns) (hb:its.size+1<scanBound)
  (q:∀h' tk,SetI prog w h' S (metK (λi=>ns.getD i 0) its.size)->(∀b o,b≠S->s.heap.get? b=some o->h'.get? b=some o)->N (.ok (.ret .none)) { s with heap:=h',toks:=tk }) :
  wpAny (model prog w) A.in1 (Builtin.«set.__init__» ([.ref S,.ref l],[])) (λfin s'=>match fin with|.done f=>N (.ok f) s'|.again c=>c.quiet=true/\codeAny (model prog w) A c N s') (λe s'=>N (.error e) s') s:=by
 have L:l≠S:=by
  obtain⟨o,e,c,_⟩:=hl;intro z;subst z;rw[hS]at e;cases e;exact absurd (show Value.type "set" = Value.type "list" from c) #[1]
 have lt:l<s.heap.objs.size:=by obtain⟨o,e,_⟩:=hl;exact Ax e
 have t:S<s.heap.objs.size:=Ax hS;obtain⟨⟨C,D,T,a⟩,g,h,r,d⟩:=id hl;simp only at h d;subst h d;have j:s.TypeIs (.ref S) "set":=(_,hS,rfl);have k:=F.sub_list_set;have K:=F.sub_list_frozenset;have p:(Value.type "list" == Value.type "dict")=false:=#[1]
 unfold Builtin.«set.__init__» noKeywords Builtin.Frozenset.updateFrom;generalize hPI:pyIter=PI
 wp_walk
 subst hPI;refine wpAny_pyIter_list hl<|AE<|wpAny_runValue ?_;have n:l≠s.heap.objs.size:=BF lt;have E:S ∉ [s.heap.objs.size,l]:=by
  simp only[Az,DQ,or_false,not_or];exact(BF t,Ne.symm L)
 refine O5 (Walks.list (by simp[hh]) _ l n its).toS S E (λi=>ns.getD i 0) (λi v e=>IntsAre.int_at hi i v (by rw[Array.getElem?_toList];exact e)) hb its.size 0 _ #[2] (CS _) ((_,Bl _ rfl,rfl,rfl),hl.push _) ?_ λu m fin=>?_
 ·exact(_,#[],0,_,BA _ hS,(rfl,rfl,rfl),rfl,λe H=>by simp at H,#[1],by rfl,TabOk.fresh _,List.Perm.refl _,Ie)
 ·rw[Moved.eq_with m]
  refine AO<|AO (q _ _ fin λb o hb e=>m.heap b o ?_<|BA _ e);simp only[Az,DQ,or_false,not_or];exact(hb,BF<|Ax e)
set_option maxHeartbeats 3200000 in
theorem Pl {l:Addr}{its:Array Value}{ns:List Int}{Q:Ai}(hh:A.handled=none) (hl:s.heap.IsList l its) (hi:IntsAre its.toList ns) (hb:its.size+1<scanBound)
  (q:∀(h':Heap) (tk:Nat),SetI prog w h' s.heap.objs.size (metK (λi=>ns.getD i 0) its.size)->(∀b o,s.heap.get? b=some o->h'.get? b=some o)->Q (.ref s.heap.objs.size) { s with heap:=h',toks:=tk }) :
  wpAny (model prog w) A (call (.type "set") [.ref l]) Q E s:=by
 have t:=F.called_set;obtain⟨c,L,g⟩:=t.mro;have j:=t.made;have k:=t.sub;have m:=t.notType;have n:=t.canCreate;have p:=F.typeCall_set_1 (.ref l);refine wpAny_call<|codeAny_of_tree (show wpAny _ _ (callAny (.type "set") _) _ _ _ from AO (Code.quiet_builtin _ #[0],codeAny_builtin F.entry_type_call ?_));rw[Around.under_plain (weight_type_call_type _ _ _) rfl]
 repeat (any_goals (first|assumption|wp_step))
 refine codeAny_mono (QO (.ref l) (E:=E) (N:=λv a=>v=.ref s.heap.objs.size/\a = { s with heap:=s.heap.push (set0 w) }) (rfl,rfl)) λr a H=>?_;cases r with
 |error e=>exact H
 |ok fl=>
  cases fl with
  |ret v=>
   obtain⟨rfl,rfl⟩:=H;have S:(s.heap.push<|set0 w).get? s.heap.objs.size=some (set0 w):=Bl _ rfl;have T:Shared.TypeIs { s with heap:=s.heap.push (set0 w) } (.ref s.heap.objs.size) "set":=(_,S,rfl);have u:=t.init.lookup;have x:=t.init.bind (.ref s.heap.objs.size)
   repeat (any_goals (first|assumption|wp_step))
   refine codeAny_mono (codeAny_call_builtin (R:=wants (λr d=>r=.none/\Q (.ref s.heap.objs.size) d) E) t.init.plain F.entry_set_init<|check_set_init_1 T (WW (by simp[hh]) S (hl.push _) hi hb λh' tk z Z=>(rfl,q h' tk z λb o e=>Z b o (BF<|Ax e)<|BA _ e))) λf d h=>?_;cases f with
   |error e=>exact h
   |ok fl2=>
    cases fl2 with
    |ret r=>
     obtain⟨rfl,y⟩:=h
     repeat (any_goals (first|assumption|wp_step))
    |_=>exact h.elim
  |_=>exact H.elim
end
end L2
namespace L2
#check 2
theorem EW:PySem.Slot "set_iterator" "__next__" "set_iterator.__next__":=
 .of (owner:="set_iterator") (n:="__next__") (by rw[typeLookup_type,builtinLookup_eq_fast];kernel_rfl) #[0] #[0] #[0]
  (by first|exact .inl #[0]|exact .inr #[0]) (by rw[isSubtype_type];kernel_rfl)
theorem KU:entryFor table "set_iterator.__next__" = some Builtin.«set_iterator.__next__»:=entryFor_of_tree (by kernel_rfl)
theorem UP:entryFor table "set.__iter__" = some Builtin.«frozenset.__iter__»:=entryFor_alias (id':="frozenset.__iter__") (by kernel_rfl) rfl #[0] (by kernel_rfl)
theorem KW (a:Value):argsOk "set_iterator.__next__" ([a],[]):=by
 unfold argsOk;kernel_rfl
abbrev setItO (first:Value) (i:Nat) (a:Addr) (n ep:Nat):Obj:={ cls:=.type "set_iterator",dict:=none,data:=.fields #[first,.int i 0,.ref a,.int n 0,.int ep 0],slots:=#[] }
#check 4
theorem VZ {slot i next:Nat}(hI:s.heap.get? I=some (setItO (.int slot 0) i a es.size ep)) (g:SetG prog w s.heap a o es ep t ks)
  (hn:∀(A:Around) (E:Ai) (Q':Option (Value × Nat)->Shared->Prop),Q' (some (x,next)) s->wpAny (model prog w) A (setNext a slot i ep) Q' E s)
  (q:∀h',h'.get? I=some (setItO (.int next 0) (i+1) a es.size ep)->Heap.SameBut I s.heap h' -> Q (some x) { s with heap:=h' }):wpAny (model prog w) A (pyNext (.ref I)) Q E s:=by
 have T:s.TypeIs (.ref I) "set_iterator":=(_,hI,rfl);unfold pyNext;refine AE<|GA<|wpAny_callSpecial?_slot (name:=Str.ofString "__next__") T EW<|wpAny_call_entry EW T KU ?_<|KW _;refine AE<|AO ?_;refine AE<|wpAny_fieldsOf hI rfl ?_;refine AE<|wpAny_setEntries_of g.get g.dat g.fit ?_;rw[AL #[4]];refine AE<|hn _ _ _ ?_;refine AE (wpAny_setField_rec hI #[4] λh e b=>?_);refine AE (wpAny_setField_rec (s:={ s with heap:=h }) e #[4] λH c B=>?_);exact AO (_,rfl,AO<|q H (by rw[c];rfl)<|b.trans B)
theorem VJ {slot i:Nat}(hh:A.handled=none) (hI:s.heap.get? I=some (setItO (.int slot 0) i a es.size ep)) (g:SetG prog w s.heap a o es ep t ks)
  (hn:∀(A:Around) (E:Ai) (Q':Option (Value × Nat)->Shared->Prop),Q' none s->wpAny (model prog w) A (setNext a slot i ep) Q' E s)
  (q:∀h',Heap.ExtBut I s.heap h' -> Q none { s with heap:=h' }):wpAny (model prog w) A (pyNext (.ref I)) Q E s:=by
 have h:s.TypeIs (.ref I) "set_iterator":=(_,hI,rfl);unfold pyNext;refine AE<|GA<|wpAny_callSpecial?_slot (name:=Str.ofString "__next__") h EW<|wpAny_call_entry EW h KU ?_<|KW _;refine AE<|AO ?_;refine AE<|wpAny_fieldsOf hI rfl ?_;refine AE<|wpAny_setEntries_of g.get g.dat g.fit ?_;rw[AL #[4]];refine AE<|hn _ _ _ ?_;refine AE (wpAny_setField_rec hI #[4] λH e B=>AE ?_);simp only[newExc,newTuple];refine AE<|wpAny_newObj_type ?_ (by size_fits);refine AE (m:=firstArgMember _ _)<|wpAny_of_eq (a:=Value.none) (by first|rfl|(simp only[firstArgMember];rfl)) ?_;refine wpAny_newObj_type ?_ (by size_fits);simp only[raiseNew];refine AE<|wpAny_handled ?_;rw[show A.in1.handled=none from hh];refine AE<|AO<|wpAny_throw ?_;refine AE<|wpAny_isInstance (T:="StopIteration") (b:=true) (_,Bl _ rfl,rfl) isSubtype_stop ?_;exact AO<|q _ ((B.extBut.push _).push _)
theorem Ux {pl:List Nat}(hI:s.heap.get? I=some (setItO (.ref T) i a es.size ep)) (g:SetG prog w s.heap a o es ep t ks)
  (hT:s.heap.get? T=some { cls:=.type "tuple",data:=.seq (pl.map λj:Nat=>rawInt (j:Int)).toArray }) (hk:pl[i]?=some k) (he:es[k]?=some e)
  (q:∀h',h'.get? I=some (setItO (.ref T) (i+1) a es.size ep)->Heap.SameBut I s.heap h' -> Q (some e.2) { s with heap:=h' }):wpAny (model prog w) A (pyNext (.ref I)) Q E s:=by
 have y:s.TypeIs (.ref I) "set_iterator":=(_,hI,rfl);unfold pyNext;refine AE<|GA<|wpAny_callSpecial?_slot (name:=Str.ofString "__next__") y EW<|wpAny_call_entry EW y KU ?_<|KW _;refine AE<|AO ?_;refine AE<|wpAny_fieldsOf hI rfl ?_;refine AE<|wpAny_setEntries_of g.get g.dat g.fit ?_;rw[AL #[4]];refine AE<|wpAny_seqItems hT rfl ?_;have c:(pl.map λj:Nat=>rawInt (j:Int)).toArray[(i:Int).toNat]?=some (.int (k:Int) 0):=by
  rw[Aq,IM,Ad,hk];rfl
 dsimp only;rw[c];dsimp only;unfold setNextDrawn;refine AE<|AE<|wpAny_setState_of g.get g.dat g.fit ?_;dsimp only;rw[AL #[4]];rw[show es[(k:Int).toNat]?=some e from by rw[Aq];exact he];obtain⟨c,d⟩:=e;refine AO ?_;refine AE (wpAny_setField_rec hI #[4] λh b B=>?_);exact AO (_,rfl,AO<|q h (by rw[b];rfl) B)
theorem UU {pl:List Nat}(hh:A.handled=none) (hI:s.heap.get? I=some (setItO (.ref T) i a es.size ep)) (g:SetG prog w s.heap a o es ep t ks)
  (hT:s.heap.get? T=some { cls:=.type "tuple",data:=.seq (pl.map λj:Nat=>rawInt (j:Int)).toArray }) (hk:pl[i]?=none)
  (q:∀h',Heap.ExtBut I s.heap h' -> Q none { s with heap:=h' }):wpAny (model prog w) A (pyNext (.ref I)) Q E s:=by
 have y:s.TypeIs (.ref I) "set_iterator":=(_,hI,rfl);unfold pyNext;refine AE<|GA<|wpAny_callSpecial?_slot (name:=Str.ofString "__next__") y EW<|wpAny_call_entry EW y KU ?_<|KW _;refine AE<|AO ?_;refine AE<|wpAny_fieldsOf hI rfl ?_;refine AE<|wpAny_setEntries_of g.get g.dat g.fit ?_;rw[AL #[4]];refine AE<|wpAny_seqItems hT rfl ?_;have e:(pl.map λj:Nat=>rawInt (j:Int)).toArray[(i:Int).toNat]?=none:=by
  rw[Aq,IM,Ad,hk];rfl
 dsimp only;rw[e];dsimp only;refine AE (wpAny_setField_rec hI #[4] λh e B=>?_);refine AE (wpAny_setField_rec (s:={ s with heap:=h }) e #[4] λH c S=>AE ?_);simp only[newExc,newTuple];refine AE<|wpAny_newObj_type ?_ (by size_fits);refine AE (m:=firstArgMember _ _)<|wpAny_of_eq (a:=Value.none) (by first|rfl|(simp only[firstArgMember];rfl)) ?_;refine wpAny_newObj_type ?_ (by size_fits);simp only[raiseNew];refine AE<|wpAny_handled ?_;rw[show A.in1.handled=none from hh];refine AE<|AO<|wpAny_throw ?_;refine AE<|wpAny_isInstance (T:="StopIteration") (b:=true) (_,Bl _ rfl,rfl) isSubtype_stop ?_;exact AO<|q _ (((B.trans S).extBut.push _).push _)
theorem Ot (a:Addr) (slot given ep:Nat):setNext a slot given ep=(do
  let (es,epoch,t) <- setState a
  if <- setsByText then
   if epoch != ep then unsupported "set_iterator.__next__:elements-changed"
   return ((<- setWalk a)[given]?).map λe=>(e.2,slot)
  if !t.plain && es.size > 1 then unsupported "set_iterator.__next__:the-table-is-plain-no-more"
  let _ <- (if !t.led && !es.isEmpty then unsupported "set:maker-not-led" else pure ():Sem Unit)
  let i:=SetTable.below t.place slot
  return match es[i]?,t.place[i]? with
   |some (_,x),some j=>some (x,j+1)
   |_,_=>none):=rfl
theorem Vj (a:Addr):setWalk a=(do
  let (es,epoch,t) <- setState a
  if <- setsByText then return pickOrder ((<- ask).params.setOrder a epoch) es
  if !t.plain && es.size > 1 then return (<- drawOrder es.size es.toList).toArray
  let _ <- (if !t.led && es.size > 1 then unsupported "set:maker-not-led" else pure ():Sem Unit)
  return es):=rfl
theorem U2 (a:Addr):setDrawn a=(do
  let (es,_,t) <- setState a
  let byText <- setsByText
  return !byText && (!t.plain && es.size > 1)):=rfl
end
theorem Oc:PySem.Slot "set_iterator" "__iter__" "set_iterator.__iter__":=
 .of (owner:="set_iterator") (n:="__iter__") (by rw[typeLookup_type,builtinLookup_eq_fast];kernel_rfl) #[0] #[0] #[0]
  (by first|exact .inl #[0]|exact .inr #[0]) (by rw[isSubtype_type];kernel_rfl)
theorem UM:entryFor table "set_iterator.__iter__" = some Builtin.«dict_keyiterator.__iter__»:=entryFor_alias (id':="dict_keyiterator.__iter__") (by kernel_rfl) rfl #[0] (by kernel_rfl)
theorem UQ (a:Value):argsOk "set_iterator.__iter__" ([a],[]):=by unfold argsOk;kernel_rfl
#check 4
theorem PU (j:s.heap.get? I=some (setItO first i a n ep)) (q:Q (.ref I) s):wpAny (model prog w) A (pyIter (.ref I)) Q E s:=by
 have T:s.TypeIs (.ref I) "set_iterator":=(_,j,rfl);refine wpAny_pyIter_slot T Oc<|wpAny_call_entry Oc T UM ?_<|UQ _;show wpAny _ _ (ret (.ref I)) _ _ s;exact AO (_,rfl,"set_iterator",_,T,EW.lookup,q)
theorem Kh (q:Q (byTextB w) s):wpAny (model prog w) A setsByText Q E s:=by
 unfold setsByText;exact AE<|wpAny_askSetting<|AO q
theorem Pt (j:byTextB w=true) (g:SetG prog w s.heap a o es ep t ks)
  (q:Q (((pickOrder (w.params.setOrder a ep) es)[given]?).map λe=>(e.2,slot)) s):wpAny (model prog w) A (setNext a slot given ep) Q E s:=by
 rw[Ot];refine AE<|wpAny_setState_of g.get g.dat g.fit<|AE<|Kh ?_;rw[j];simp only[if_true];rw[AL #[4],Vj];refine AE<|AE<|wpAny_setState_of g.get g.dat g.fit<|AE<|Kh ?_;rw[j];simp only[if_true];exact AE<|wpAny_askSetting<|AO<|AO q
theorem Ou (z:byTextB w=false) (g:SetG prog w s.heap a o es ep t ks) (J:(!t.plain && decide (es.size > 1))=false)
  (q:Q (match es[SetTable.below t.place slot]?,t.place[SetTable.below t.place slot]? with|some (_,x),some j=>some (x,j+1)|_,_=>none) s):wpAny (model prog w) A (setNext a slot given ep) Q E s:=by
 have l:t.led=true:=by rw[g.tab.led,z];rfl
 rw[Ot];refine AE<|wpAny_setState_of g.get g.dat g.fit<|AE<|Kh ?_;rw[z];simp only[CD,if_false,J,l,Fn,HE];exact AE<|AO<|AO q
theorem Mo {α:Type}:∀{l:List α}{i:Nat}(h:i<l.length),(l[i]::l.eraseIdx i).Perm l
 |x::l,0,_=>List.Perm.refl _
 |x::l,i+1,h=>by
  have H:i<l.length:=#[8]
  show (l[i]::x::l.eraseIdx i).Perm (x::l);exact(List.Perm.swap _ _ _).trans (List.Perm.cons _<|Mo H)
theorem RS (j:Nat->Nat):∀(fuel k:Nat) (left:List α) (out:Array α),left.length=fuel->(pickOrder.go j fuel k left out).toList.Perm (out.toList++left)
 |0,k,left,out,h=>by
  have:left=[]:=GH h;subst this;unfold pickOrder.go;rw[Bp]
 |fuel+1,k,left,out,h=>by
  unfold pickOrder.go;have i:j k % left.length<left.length:=Im _ #[2]
  rw[AS i];dsimp only;refine(RS j fuel (k+1) _ _ (by rw[Ls i];lia)).trans ?_;rw[Array.toList_push,CK];refine List.Perm.append_left _ ?_;exact Mo i
theorem V3 (j:Nat->Nat) (xs:Array α):(pickOrder j xs).toList.Perm xs.toList:=by
 unfold pickOrder;exact RS j xs.size 0 xs.toList #[] #[4]
def slotAt (L:Array Nat):Nat->Nat
 |0=>0
 |j+1=>L.getD j 0+1
theorem Og (R:FK pl) (J:j<=pl.size):SetTable.below pl (slotAt pl j)=j:=by
 obtain⟨a,b,B⟩:=O8 R<|slotAt pl j;cases j with
 |zero=>
  apply Classical.byContradiction;intro h;have t:0<pl.size:=#[2]
  have:=b 0 _ #[2]<|Array.getElem?_eq_getElem t;exact absurd this (by show ¬ _<0;lia)
 |succ j=>
  have t:j<pl.size:=#[2]
  have g:pl.getD j 0=pl[j]:=by simp[Array.getD,t]
  have s:slotAt pl (j+1)=pl[j]+1:=by show pl.getD j 0+1=_;rw[g]
  rw[s]at a b B ⊢;rcases L5 (SetTable.below pl<|pl[j]+1) (j+1) with z|z|z
  ·have:=B j _ #[2] (Array.getElem?_eq_getElem t)
   lia
  ·exact z
  ·have l:j+1<pl.size:=by lia
   have H:=b (j+1) _ z<|Array.getElem?_eq_getElem l;have c:=R j (j+1) _ _ #[2] (Array.getElem?_eq_getElem t)<|Array.getElem?_eq_getElem l;lia
theorem SetG.keep (g:SetG prog w h a o es ep t ks) (k:∀o,h.get? a=some o->h'.get? a=some o):SetG prog w h' a o es ep t ks:=
 (k _ g.get,g.ex,g.dat,g.el,g.room,g.fit,g.tab,g.perm,g.nd)
theorem PF (hh:A.handled=none) {I a:Addr}(hne:a≠I) {o:Obj}{es:Array (Int × Value)}{ep:Nat}{t:SetTable}{ks:List Int}(sl:Nat->Nat) (L:List (Int × Value))
  (hs:∀(s:Shared) j e,SetG prog w s.heap a o es ep t ks->L[j]?=some e->∀(A:Around) (E:Ai) (Q':Option (Value × Nat)->Shared->Prop),Q' (some (e.2,sl (j+1))) s->wpAny (model prog w) A (setNext a (sl j) j ep) Q' E s)
  (hd:∀(s:Shared),SetG prog w s.heap a o es ep t ks->∀(A:Around) (E:Ai) (Q':Option (Value × Nat)->Shared->Prop),Q' none s->wpAny (model prog w) A (setNext a (sl L.length) L.length ep) Q' E s) :
  Walks prog w A I [I,a] [I] L.length (λj v=>∃e,L[j]?=some e/\v=e.2) (λj h=>h.get? I=some (setItO (.int (sl j) 0) j a es.size ep)/\SetG prog w h a o es ep t ks) where
 sub:=λb B=>by simp at B;simp[B]
 frame:=λ_ _ _ T k=>(k I #[4] _ T.1,T.2.keep λo e=>k a #[4] o e)
 item:=λi s Q E d T H=>by
  refine VZ T.1 T.2 (hs s i _ T.2<|AS d) λc e S=>?_;refine H _ c s.toks (_,AS d,rfl) (e,T.2.keep λo q=>(S.2 a hne).trans q) λb o B q=>(S.2 b λz=>B (by simp[z])).trans q
 done:=λs Q E T H=>VJ hh T.1 T.2 (hd s T.2) λc f=>H c s.toks λb o B e=>f b o (λz=>B (by simp[z])) e
 self:=λ_ _ _ _ T H=>PU T.1 H
theorem U3 (hh:A.handled=none) {I a T:Addr}(hne:a≠I) (hnt:T≠I) {o:Obj}{es:Array (Int × Value)}{ep:Nat}{t:SetTable}{ks:List Int}(pl:List Nat) (L:List (Int × Value)) (hl:L.length=pl.length) (hs:∀(j k:Nat) e,pl[j]?=some k->L[j]?=some e->es[k]?=some e) :
  Walks prog w A I [I,a,T] [I] L.length (λj v=>∃e,L[j]?=some e/\v=e.2) (λj h=>h.get? I=some (setItO (.ref T) j a es.size ep)/\SetG prog w h a o es ep t ks/\h.get? T=some { cls:=.type "tuple",data:=.seq (pl.map λj:Nat=>rawInt (j:Int)).toArray }) where
 sub:=λb B=>by simp at B;simp[B]
 frame:=λ_ _ _ S K=>(K I #[4] _ S.1,S.2.1.keep λo e=>K a #[4] o e,K T #[4] _ S.2.2)
 item:=λi s Q E f S H=>by
  have p:i<pl.length:=#[2]
  refine Ux S.1 S.2.1 S.2.2 (AS p) (hs i _ _ (AS p)<|AS f) λc e d=>?_;refine H _ c s.toks (_,AS f,rfl) (e,S.2.1.keep λo q=>(d.2 a hne).trans q,(d.2 T hnt).trans S.2.2) λb o B q=>(d.2 b λz=>B (by simp[z])).trans q
 done:=λs Q E S H=>UU hh S.1 S.2.1 S.2.2 (FP #[2]) λc g=>H c s.toks λb o B e=>g b o (λz=>B (by simp[z])) e
 self:=λ_ _ _ _ S H=>PU S.1 H
theorem WT (hn:n≠0) (q:∀k dr,k<n->Q k { s with drawn:=dr }):wpAny (model prog w) A (choose src n) Q E s:=by
 intro Γ p _;unfold choose;rw[Sem.wp_choose];refine(hn,?_);show Sem.wp _ _ (Sem.pure _) _ _ _ _
 first|rw[Sem.wp_pure]|simp only[Sem.wp]
 exact q _ _<|Im _<|Nat.pos_of_ne_zero hn
theorem RP:∀(n:Nat) {s:Shared}{xs:List Nat}{Q:List Nat->Shared->Prop},xs.length=n->(∀ys dr,ys.Perm xs->Q ys { s with drawn:=dr })->wpAny (model prog w) A (drawOrder n xs) Q E s
 |0,s,xs,Q,h,q=>by
  have:xs=[]:=GH h;subst this;unfold drawOrder;exact AO<|q [] s.drawn<|List.Perm.refl _
 |n+1,s,[],Q,h,q=>by simp at h
 |n+1,s,x::xs,Q,h,q=>by
  unfold drawOrder;refine AE (WT #[4] λk dr K=>?_);rw[AS K];refine AE (RP n (by rw[Ls K];lia) λys r y=>AO<|q _ r ?_);exact(List.Perm.cons _ y).trans (Mo K)
end
#check 4
structure SWalk (prog:Program) (w:World) (A:Around) (a:Addr) (es:Array (Int × Value)) (s s1:Shared) (I:Addr) where
 fp:List Addr
 L:List (Int × Value)
 St:Nat->Heap->Prop
 old:∀b o,s.heap.get? b=some o->s1.heap.get? b=some o
 new:s.heap.objs.size<=I
 fpo:∀b∈fp,b=a\/s.heap.objs.size<=b
 perm:L.Perm es.toList
 W:Walks prog w A I fp [I] L.length (λj v=>∃e,L[j]?=some e/\v=e.2) St
 st:St 0 s1.heap
theorem Vt (es:Array (Int × Value)):(Af es.size).map (λk=>es.getD k (0,.none))=es.toList:=by
 apply GO
 ·simp
 ·intro i h1 h2
  simp only[HI,Er,Array.getElem_toList];simp only[Array.length_toList]at h2;simp[Array.getD,h2]
theorem set_iter (hh:A.handled=none) (g:SetG prog w s.heap a o es ep t ks)
  (q:∀(h1:Heap) dr (I:Addr),Nonempty (SWalk prog w A a es s { s with heap:=h1,drawn:=dr } I)->Q (.ref I) { s with heap:=h1,drawn:=dr }):wpAny (model prog w) A (pyIter (.ref a)) Q E s:=by
 have T:s.TypeIs (.ref a) "set":=(o,g.get,g.ex.1);have l:a<s.heap.objs.size:=Ax g.get;have n:a≠s.heap.objs.size:=BF l;have N:a≠s.heap.objs.size+1:=BF<|D0 l;have m:es.size<=sizeLine:=by
  have:=g.room;rw[sizeLine_eq];unfold scanBound at this;lia
 refine wpAny_pyIter_slot T F.slot_set_iter<|wpAny_call_entry F.slot_set_iter T UP ?_<|F.args_set_iter_1 _;unfold Builtin.«frozenset.__iter__» Builtin.Frozenset.slot0 slotArgs;simp only[List.isEmpty_nil,Fn,CD,↓reduceIte,bind_assoc,EV,bne_self_eq_false];unfold Builtin.Frozenset.addrOf Builtin.Frozenset.sizeOf;refine AE<|AO ?_
 try dsimp only
 refine AE<|AO ?_;refine AE<|AE<|wpAny_setEntries_of g.get g.dat g.fit<|AO ?_;rw[U2];refine AE<|AE<|wpAny_setState_of g.get g.dat g.fit<|AE<|Kh<|AO ?_;by_cases hd:(!byTextB w && (!t.plain && decide (es.size > 1)))=true
 ·have D:=hd
  rw[AM hd];refine AE (RP es.size #[4] λy dr Y=>?_);have L:=Y.length_eq;rw[By]at L;refine AE<|wpAny_newTuple ?_ (by rw[AH,L];exact m);have G:=g.keep (h':=s.heap.push<|seqObj "tuple" (y.map λi:Nat=>rawInt (i:Int)).toArray 0) λo e=>BA _ e;refine AE<|wpAny_setEpoch_of G.get G.dat G.fit ?_;refine AE<|wpAny_newObj_type ?_ (by size_fits);have z:(s.heap.push<|seqObj "tuple" (y.map λi:Nat=>rawInt (i:Int)).toArray 0).objs.size=s.heap.objs.size+1:=size_push' _ _;have H:((s.heap.push<|seqObj "tuple" (y.map λi:Nat=>rawInt (i:Int)).toArray 0).push (setItO (.ref s.heap.objs.size) 0 a es.size ep)).get? (s.heap.objs.size+1)=some (setItO (.ref s.heap.objs.size) 0 a es.size ep):=by
   rw[<- z];exact Bl _ rfl
  have u:((s.heap.push<|seqObj "tuple" (y.map λi:Nat=>rawInt (i:Int)).toArray 0).push (setItO (.ref s.heap.objs.size) 0 a es.size ep)).get? s.heap.objs.size=some { cls:=.type "tuple",data:=.seq (y.map λj:Nat=>rawInt (j:Int)).toArray }:=
   BA _ (Bl _ rfl)
  show wpAny _ _ (ret (.ref (s.heap.push<|seqObj "tuple" (y.map λi:Nat=>rawInt (i:Int)).toArray 0).objs.size)) _ _ { s with heap:=(s.heap.push<|seqObj "tuple" (y.map λi:Nat=>rawInt (i:Int)).toArray 0).push (setItO (.ref s.heap.objs.size) 0 a es.size ep),drawn:=dr };rw[z];refine AO (_,rfl,"set_iterator",_,(_,H,rfl),EW.lookup,?_);have c:∀k∈y,k<es.size:=λk K=>BD.mp<|Y.mem_iff.mp K;have f:(y.map λk=>es.getD k (0,.none)).length=y.length:=AH _;refine q _ dr (s.heap.objs.size+1) ⟨([s.heap.objs.size+1,a,s.heap.objs.size],y.map λk=>es.getD k (0,.none),_,λb o e=>BA _<|BA _ e,D2 _,?_,?_,U3 hh N (BF<|Nat.lt_succ_self _) y _ f ?_,H,G.keep λo e=>BA _ e,u)⟩
  ·intro b B
   simp only[Az,DQ,or_false]at B;rcases B with h|h|h
   ·exact .inr (by rw[h];exact D2 _)
   ·exact .inl h
   ·exact .inr<|Nat.le_of_eq h.symm
  ·exact(Y.map _).trans (List.Perm.of_eq<|Vt es)
  ·intro j k e h1 h2
   rw[Ad,h1]at h2;cases h2;have:=c k<|Bd h1;simp[Array.getD,this]
 ·rw[AL hd]
  refine AE<|AO ?_;refine AE<|wpAny_setEpoch_of g.get g.dat g.fit ?_;refine AE<|wpAny_newObj_type ?_ (by size_fits);have H:(s.heap.push<|setItO (.int 0 0) 0 a es.size ep).get? s.heap.objs.size=some (setItO (.int 0 0) 0 a es.size ep):=Bl _ rfl;refine AO (_,rfl,"set_iterator",_,(_,H,rfl),EW.lookup,?_);have G:=g.keep (h':=s.heap.push<|setItO (.int 0 0) 0 a es.size ep) λo e=>BA _ e;have p:∀b∈[s.heap.objs.size,a],b=a\/s.heap.objs.size<=b:=λb B=>by
   simp at B;rcases B with h|h
   ·right;lia
   ·exact .inl h
  cases B:byTextB w with
  |true=>
   refine q _ s.drawn s.heap.objs.size ⟨([s.heap.objs.size,a],(pickOrder (w.params.setOrder a ep) es).toList,_,λb o e=>BA _ e,AX _,p,V3 _ _,PF hh n (λ_=>0) _ ?_ ?_,H,G)⟩
   ·intro s j e g he A E Q' hq
    refine Pt B g ?_;rw[Array.getElem?_toList]at he;rw[he];exact hq
   ·intro s g A E Q' hq
    refine Pt B g ?_;rw[Array.getElem?_eq_none #[4]];exact hq
  |false=>
   have d:(!t.plain && decide (es.size > 1))=false:=by
    rw[B]at hd;simpa using hd
   have S:t.place.size=es.size:=by
    have:=g.fit;unfold SetTable.fits at this;simp only[CT,beq_iff_eq]at this;exact this.1
   refine q _ s.drawn s.heap.objs.size ⟨([s.heap.objs.size,a],es.toList,_,λb o e=>BA _ e,AX _,p,List.Perm.refl _,PF hh n (slotAt t.place) _ ?_ ?_,H,G)⟩
   ·intro s j e g he A E Q' hq
    refine Ou B g d ?_;rw[Array.getElem?_toList]at he;have J:=(Array.getElem?_eq_some_iff.mp he).1;rw[Og g.tab.ris #[2],he,Array.getElem?_eq_getElem #[2]];have:slotAt t.place (j+1)=t.place[j]+1:=by
     show t.place.getD j 0+1=_;simp[Array.getD,show j<t.place.size by omega]
    rw[this]at hq;exact hq
   ·intro s g A E Q' hq
    refine Ou B g d ?_;rw[Array.length_toList,Og g.tab.ris (Nat.le_of_eq S.symm),Array.getElem?_eq_none (AX _)];exact hq
end
#check 4
theorem Zuw (j:s.TypeIs (.ref r) "set") (h:Q false s):wpAny (model prog w) A (Builtin.List.listLengthHint (.ref r)) Q E s:=by
 unfold Builtin.List.listLengthHint;refine AE<|wpAny_specialOf j F.slot_set_len.lookup ?_;generalize hid:("set.__len__":String)=nm
 wp_delta
 rw[show splitId nm=some ("set","__len__") by subst hid;decide +kernel];subst hid;refine AE<|wpAny_isInstance (T:="set") (b:=true) j (by rw[isSubtype_type];kernel_rfl) ?_;refine wpAny_ite_split (λz=>absurd z #[1]) λ_=>?_;refine wpAny_ite_split (λ_=>AE<|wpAny_typeOf j<|AO h) λz=>absurd #[0] z
theorem U1 {L:List (Int × Value)}(h:ItemsOf (λj v=>∃e,L[j]?=some e/\v=e.2) acc L.length):acc.toList=L.map (·.2):=by
 obtain⟨b,H⟩:=h;apply Dz;intro i;rw[Array.getElem?_toList,Ad];by_cases hi:i<acc.size
 ·obtain⟨e,E,a⟩:=H i _ (Array.getElem?_eq_getElem hi)
  rw[E,Array.getElem?_eq_getElem hi,a];rfl
 ·rw[Array.getElem?_eq_none #[2],FP #[2]];rfl
theorem VL {R:Result->Shared->Prop}{a S:Addr}{o:Obj}{es:Array (Int × Value)}{ep c₀:Nat}{t:SetTable}{ks:List Int}(hh:A.handled=none) (g:SetG prog w s.heap a o es ep t ks) (hSa:S≠a) (res:Value) (hS:s.heap.get? S=some { cls:=.type "list",data:=.seq #[] c₀ })
  (hR:∀h' tk dr c' (L:List (Int × Value)),(∀b o,b≠S->s.heap.get? b=some o->h'.get? b=some o)->L.Perm es.toList->h'.get? S=some { cls:=.type "list",dict:=none,data:=.seq (L.map (·.2)).toArray c',slots:=#[] } -> R (.ok (.ret res)) { s with heap:=h',toks:=tk,drawn:=dr }) :
  wpAny (model prog w) A.in1 (Builtin.List.listExtendWith (.ref S) (.ref a) res)
   (λfin s'=>match fin with|.done f=>R (.ok f) s'|.again c'=>c'.quiet=true/\codeAny (model prog w) A c' R s') (λe s'=>R (.error e) s') s:=by
 have r:s.TypeIs (.ref a) "set":=(o,g.get,g.ex.1);have l:S<s.heap.objs.size:=Ax hS;unfold Builtin.List.listExtendWith;refine AE<|wpAny_typeOf (T:="set") r ?_;have j:Builtin.List.listSameRef (.ref S) (.ref a)=false:=by simp[Builtin.List.listSameRef,hSa]
 have n:(Value.type "set" == Value.type "list")=false:=#[0]
 have p:(Value.type "set" == Value.type "tuple")=false:=#[0]
 simp only[j,n,p,Jx,CD,if_false];refine AE (set_iter hh g λj dr I ⟨K⟩=>?_);have q:=K.perm.length_eq;have N:K.L.length<=sizeLine:=by
  have:=g.room;rw[q,Array.length_toList,sizeLine_eq];unfold scanBound at this;lia
 have H:S ∉ K.fp:=λz=>by
  rcases K.fpo S z with z|z
  ·exact hSa z
  ·exact absurd l<|Nat.not_lt.mpr z
 have y:∀(h:Heap) (c₁ tk:Nat),K.St 0 h->(∀b o,b≠S->s.heap.get? b=some o->h.get? b=some o) ->
   h.get? S=some { cls:=.type "list",data:=.seq #[] c₁ } -> codeAny (model prog w) A (.builtin "list.extend.loop" ([.ref S,.ref I,res],[])) R { s with heap:=h,toks:=tk,drawn:=dr }:=by
  intro h c₁ tk hst hk hS₁;refine codeAny_extend_loopS K.W.toS N S H res _ 0 _ #[] c₁ rfl (CS _) hst hS₁ (ItemsOf.nil _) λs' C c' M i c=>?_;rw[Moved.eq_with M];have k:=U1 c;refine hR s'.heap s'.toks dr c' K.L (λb o B e=>M.heap b o (λm=>?_)<|hk b o B e) K.perm ?_
  ·rcases Az.mp m with E|m
   ·exact B E
   ·exact absurd (Ax e) (by rw[BU.mp m];exact Nat.not_lt.mpr K.new)
  ·rw[<- k,Array.toArray_toList];exact i
 have hS₁:=K.old _ _ hS;refine AE<|Cv<|Zuw (o,K.old _ _ g.get,g.ex.1) ?_;refine wpAny_ite_split (λ_=>?_) λ_=>AO (plainId_quiet F.plain_extend_loop _,y _ c₀ _ K.st (λb o _ e=>K.old _ _ e) hS₁);refine AE<|EO ?_;refine AE ?_;show wpAny _ _ (updateSeq S (·.push .none) >>= λ_=>updateSeq S (·.pop)) _ _ _;refine AE<|wpAny_updateSeq hS₁ rfl ?_;have hS₂:=IP (Obj.mapSeq (·.push Value.none)) hS₁ rfl;refine wpAny_updateSeq (hz:=by seq_fits) hS₂ rfl ?_;have hS₃:=IP (Obj.mapSeq (·.pop)) hS₂ rfl;refine AO (plainId_quiet F.plain_extend_loop _,y _ _ _ ?_ (λb o B e=>?_) hS₃)
 ·refine K.W.frame 0 _ _ K.st λb B o e=>?_
  have d:S≠b:=λh=>H (h ▸ B);exact(HB _ _ d).trans ((HB _ _ d).trans e)
 ·exact(HB _ _<|Ne.symm B).trans ((HB _ _<|Ne.symm B).trans (K.old _ _ e))
theorem Uy {R:List Value->Shared->Prop}{a:Addr}{o:Obj}{es:Array (Int × Value)}{ep:Nat}{t:SetTable}{ks:List Int}(hh:A.handled=none) (g:SetG prog w s.heap a o es ep t ks)
  (h:∀(h':Heap) (tk:Nat) dr (L:List (Int × Value)),(∀b o,s.heap.get? b=some o->h'.get? b=some o)->s.heap.objs.size<h'.objs.size->L.Perm es.toList->R (L.map (·.2)) { s with heap:=h',toks:=tk,drawn:=dr }) :
  wpAny (model prog w) A (collect (.ref a)) R E s:=by
 have T:a<s.heap.objs.size:=Ax g.get;unfold collect;refine AE<|wpAny_runValue<|codeAny_builtin entry_proto_collect' ?_;rw[Around.under_plainId F.plain_proto_collect _];show wpAny _ A.in1 (newList [] >>= λl=>again (.builtin "list.__iadd__" ([l,.ref a],[]))) _ _ s;refine AE<|wpAny_newList ?_;refine AO (plainId_quiet F.plain_list_iadd _,codeAny_builtin entry_list_iadd' ?_);rw[Around.under_plainId F.plain_list_iadd _];show wpAny _ A.in1 (Builtin.List.listExtendWith (.ref s.heap.objs.size) (.ref a) (.ref s.heap.objs.size)) _ _ _;have hS₁:(s.heap.push<|seqObj "list" ([]:List Value).toArray 0).get? s.heap.objs.size=some { cls:=.type "list",data:=.seq #[] 0 }:=Bl _ rfl;have z:=VL (A:=A) (s:={ s with heap:=s.heap.push (seqObj "list" ([]:List Value).toArray 0) })
  (R:=λ(q:Result) (d:Shared)=>∃(h':Heap) (tk:Nat) (dr:_) (c:Nat) (L:List (Int × Value)),q=.ok (.ret (.ref s.heap.objs.size))/\d = { s with heap:=h',toks:=tk,drawn:=dr } /\
   (∀b o,s.heap.get? b=some o->h'.get? b=some o)/\L.Perm es.toList/\h'.get? s.heap.objs.size=some { cls:=.type "list",dict:=none,data:=.seq (L.map (·.2)).toArray c,slots:=#[] })
  hh (g.keep λo e=>BA _ e) (GN T) (.ref s.heap.objs.size) hS₁
  λh' tk dr c L k p S=>(h',tk,dr,c,L,rfl,rfl,λb o e=>k b o (BF<|Ax e)<|BA _ e,p,S)
 refine EN z (λn d x=>?_) λe d x=>?_
 ·cases n with
  |done f=>
   obtain⟨h',tk,dr,c,L,e,rfl,k,p,S⟩:=x;cases e;show wpAny _ A (load s.heap.objs.size >>= _) _ _ _;refine AE<|wpAny_load S ?_;exact AO<|h h' tk dr L k (Ax S) p
  |again c₁=>
   refine(x.1,codeAny_mono x.2 λq s₂ y=>?_);obtain⟨h',tk,dr,c,L,rfl,rfl,k,p,S⟩:=y;show wpAny _ A (load s.heap.objs.size >>= _) _ _ _;refine AE<|wpAny_load S ?_;exact AO<|h h' tk dr L k (Ax S) p
 ·obtain⟨h',tk,dr,c,L,e,_⟩:=x
  cases e
theorem Om:∀{vs:List Value},(∀v∈vs,∃t,v=.int (numOf v) t)->IntsAre vs (vs.map numOf)
 |[],_=>.nil
 |v::vs,h=>by
  obtain⟨t,e⟩:=h v #[4];have:=Om (vs:=vs) λu U=>h u<|Bs _ U;rw[BO];generalize numOf v=n at e ⊢;subst e;exact .cons _ t this
theorem PJ {a:Addr}{ks:List Int}{Q:Ai}(hh:A.handled=none) (hS:SetI prog w s.heap a ks) (h64:ks.length<64)
  (h:∀(h':Heap) (tk:Nat) dr (l:Addr) (out:List Value) (ms:List Int) (c:Nat),(∀b o,s.heap.get? b=some o->h'.get? b=some o)->s.heap.objs.size<=l->h'.get? l=some (seqObj "list" out.toArray c)->IntsAre out ms->ms.Perm ks->ms.Pairwise (· <= ·)->Q (.ref l) { s with heap:=h',toks:=tk,drawn:=dr }) :
  wpAny (model prog w) A (call (.builtin "sorted") [.ref a]) Q E s:=by
 obtain⟨o,S,P,t,g⟩:=hS;refine Calls.call_function_entry kind_sorted plain_sorted entry_sorted (args_sorted1 _) ?_;unfold Builtin.«sorted»;refine AE (m:=checkCount "sorted" 1 1 _)<|AO ?_;refine AE (Uy hh g λh' tk dr L K z p=>?_);have I:IntsAre (L.map (·.2)) ((L.map (·.2)).map numOf):=Om λv V=>by
  obtain⟨e,j,rfl⟩:=A2.mp V;exact Qr g.el<|p.mem_iff.mp j
 have k:((L.map (·.2)).map numOf).Perm ks:=by
  rw[Ba];exact(p.map _).trans g.perm
 have n:(L.map (·.2)).length<64:=by
  have:=k.length_eq;rw[AH]at this;lia
 refine AE<|wpAny_newList ?_ (by rw[sizeLine_eq];lia);have O:(h'.push<|seqObj "list" (L.map (·.2)).toArray 0).get? h'.objs.size=some (seqObj "list" (L.map (·.2)).toArray 0):=Bl _ rfl;refine AE<|Cv<|wpAny_call_entry slot_list_sort (_,O,rfl) entry_list_sort (list_sort_tree O I n λout ms d f i=>(_,rfl,?_))<|args_list_sort _;obtain⟨c,C⟩:=sortedHeap_at (out:=out) O;refine AO (_,rfl,h _ tk dr _ out.toList ms c (λb o e=>?_) (CM z) (by rw[Array.toArray_toList];exact C) d (f.trans k) i);have H:=K b o e;have B:=Ax H;rw[sortedHeap_old (BF B) (by rw[size_push'];exact D0 B)];exact BA _ H
end
#check 0
theorem AJ.drew (I:AJ X pins Z H s) (dr:_):AJ X pins Z H { s with drawn:=dr }:=
 (I.ok,I.os,I.bare,I.base,I.loc,I.cell,I.free,I.freeC,I.pin,I.hok,I.len)
theorem Pk {ms:List Int}(h1:ms.Pairwise (· <= ·)) (h2:ms.Nodup):ms.Pairwise (· < ·):=by
 have:=List.Pairwise.and h1 h2;exact this.imp λq=>by obtain⟨a,b⟩:=q;lia
theorem MY {ns:List Int}:x∈metK (λi=>ns.getD i 0) ns.length↔x∈ns:=by
 rw[Zun];constructor
 ·rintro⟨j,J,rfl⟩
  rw[Al,AS J];exact Br J
 ·intro h
  obtain⟨j,J,rfl⟩:=IU h;exact(j,J,by rw[Al,AS J];rfl)
def tSS (K:W.Frag) (ta:TA):TE:=λZ H Q=>ta Z H λs h=>∃(p:Addr) (ns:List Int),s=[.ref p]/\SqL K h p (ns.map V.int)/\ns.length<64/\∀(l:Addr) (ms:List Int),ms.Pairwise (· < ·)->(∀x,x∈ms↔x∈ns)->h l=none->Q (.ref l) (upd h l (.lst<|ms.map V.int))
theorem PD {a:Expr}{ta:TA}{p p2 pos pos2:Pos}{K:W.Frag}(hK:X.K=K) (hc:X.calm=true) (hgL:Gl X "sorted") (hmL:X.mg "sorted" = none) (hgR:Gl X "set") (hmR:X.mg "set" = none) (ha:PA X [a] ta) (hs:starEach [a] X.env=[(false,eval a X.env)]:=by rfl)
  (he:starEach [.Call (.Name "set" p2) [a] [] pos2] X.env=[(false,eval (.Call (.Name "set" p2) [a] [] pos2) X.env)]:=by rfl) :
  PE X (.Call (.Name "sorted" p) [.Call (.Name "set" p2) [a] [] pos2] [] pos) (tSS K ta):=by
 subst hK;intro pins s Z H Q I h;refine wpAny_Call_Name_kw<|Dj I hgL hmL Hk ?_;refine PyProof.Rows.callWith_builtin1 ?_ he rfl;rw[he];show wpAny _ _ (spliced ((false,eval (.Call (.Name "set" p2) [a] [] pos2) X.env)::backTo pos [])) _ _ s;refine Calls.spliced_cons ?_;refine wpAny_Call_Name_kw<|Dj I hgR hmR LV ?_;refine PyProof.Rows.callWith_type1 (thn (ha pos2 pins s Z H _ I h) λus s1 (vs,H1,I1,r1,q1)=>?_) hs rfl;obtain⟨p,N,e,B,G,q⟩:=q1;subst e;obtain⟨u,rfl,U⟩:=vals1 r1;cases (show u=Value.ref p from U);obtain⟨t,F,E,O⟩:=I1.list B;have r:=EC F;have n:=r.length;refine Pl (I1.ok.hd hc) E.isList (by simpa using r) (by rw[BC];unfold scanBound;lia) λj v S A=>?_;rw[show t.toArray.size=N.length by rw[BC];exact n]at S;refine Calls.spliced_nil ?_;have f:AJ X pins Z H1 { s1 with heap:=j,toks:=v }:=I1.kept A;have J:=LA (λi=>N.getD i 0) N.length;refine PJ (s:={ s1 with heap:=j,toks:=v }) (I1.ok.hd hc) S #[2] λz k R l T m c C L o b P d=>?_;have M:=P.length_eq;have D:m.Nodup:=by
  obtain⟨_,_,_,_,g⟩:=S;exact P.nodup_iff.mpr g.nd
 have y:=(f.laid (t':=k) C L (show ObjOk X.prog X.w _ z l (.lst<|m.map V.int) from (by rw[AH];exact CM (small1000 #[2]),T,c,GW b,o))).drew R;exact(.ref l,_,y,rfl,q l m (Pk d D) (λx=>P.mem_iff.trans MY)<|f.hok.fresh L)
end
#check 1
theorem OV (h:JA K ta M λds M1=>∃ns:List Int,ds=[.lst (ns.map .int)]/\ns.length<64/\∀ms:List Int,ms.Pairwise (· < ·)->(∀x,x∈ms↔x∈ns)->Po (.lst<|ms.map .int) M1):JO K (tSS K ta) M Po:=λg G H Z Q k c=>
 h g G H Z _ k λS ds b j M1 d s R q=>by
  obtain⟨ns,e,L,p⟩:=q;subst e;obtain⟨_,_,rfl,r,t⟩:=R.inv
  next=>
   cases t.inv;obtain⟨a,u,rfl,A,i⟩:=r.inv
   next=>
    have v:=i.ints;subst v;refine(a,ns,rfl,SqL.of<|d.live _ _ A,L,λl ms o O L=>?_);obtain⟨f,D⟩:=d.fresh (od:=.lst<|ms.map .int) L (show OwnRep K b (.lst<|ms.map V.int) (.lst<|ms.map .int) from Reps.ofInts ms);exact c l _ b _ M1 f s D<|p ms o O
end
structure CompScK (osc:Scope) (oN:List Str) (y:Str) (scope:Scope) (fvs:List Str) (sel:List Nat):Prop where
 kind:scope.kind=.function
 one:scope.names.filter (λz=>z.2 == .cell)=[(y,.cell)]
 own:∀z∈scope.names,z.1=y->z.2=.cell
 names:∀z∈scope.names,z.2=.local->scope.names.lookup z.1=some .local
 free:∀z∈scope.names,z.2=.free->osc.names.lookup z.1=some .cell\/osc.names.lookup z.1=some .free
 len:fvs.length=sel.length
 fv:∀p∈fvs.zip sel,oN[p.2]?=some p.1/\scope.names.lookup p.1=some .free
def compCxK (X:Cx) (y:Str) (scope:Scope) (N:List Str) (C:Addr) (s:Shared) (H:Hp) (ex:List Addr) (pn:Ar):Cx:=
 { compCx X scope N C s H ex pn with env:=compEnvC scope ((y,C+1)::clOf X.env scope.names []) C X.env,fn:=λx=>x == y }
theorem MX:∀(names:List (Str × NameKind)) (n:Nat) (acc:List (Str × Addr)),(names.filter (λz=>z.2 == .cell)=[]->cellsFrom n names acc=acc)/\(names.filter (λz=>z.2 == .cell)=[(y,.cell)]->cellsFrom n names acc=(y,n)::acc)
 |[],n,acc=>(λ_=>rfl,λh=>by simp at h)
 | (x,k)::r,n,acc=>by
  unfold cellsFrom;rw[CA];cases hk:k == NameKind.cell with
  |true=>
   simp only[hk,if_true];refine(λh=>by simp at h,λh=>?_);have H:=(FT.inj h).1;have a:=(FT.inj h).2;cases H;exact(MX (y:=y) r (n+1) _).1 a
  |false=>
   simp only[hk,CD,if_false];exact MX r n acc
theorem MW:∀(names:List (Str × NameKind)) (h:Heap),(names.filter (λz=>z.2 == .cell)=[]->pushCells h names=h)/\(names.filter (λz=>z.2 == .cell)=[(y,.cell)]->pushCells h names=h.push { cls:=.type "cell",data:=.cell none })
 |[],h=>(λ_=>rfl,λh=>by simp at h)
 | (x,k)::r,h=>by
  unfold pushCells;rw[CA];cases hk:k == NameKind.cell with
  |true=>
   simp only[hk,if_true];exact(λh=>by simp at h,λe=>(MW (y:=y) r _).1 (FT.inj e).2)
  |false=>
   simp only[hk,CD,if_false];exact MW r h
section
variable {X:Cx}{pins:Ar}{Z:St}{H:Hp}{s:Shared}{fp:List Addr}{scope:Scope}{tgs fvs:List Str}{sel:List Nat}{y:Str}
theorem newEnvK {M_:Model}{A:Around}{E:Ai}{osc:Scope}{oN:List Str}{g:Addr}{cl:List (Str × Addr)}{qual:Str}{env:Env}{Q:Env->Shared->Prop}(S:CompScK osc oN y scope fvs sel)
  (q:∀h',h'.Ns s.heap.objs.size (λ_=>none)->h'.IsCell (s.heap.objs.size+1) none->(∀b o,s.heap.get? b=some o->h'.get? b=some o) ->
   Q { scope,locals:=s.heap.objs.size,globals:=g,cells:=(y,s.heap.objs.size+1)::cl,qual,func:=none,code:=env.code,frame:=env.frame,builtins:=env.builtins } { s with heap:=h' }) :
  wpAny M_ A (newFunctionEnv scope g cl [] qual none .none<|some env) Q E s:=by
 simp only[newFunctionEnv,Option.isSome_some,if_true];refine AE<|wpAny_alloc ?_;refine AE<|wpAny_layCells _ (λm d cells=>by cases hkc:d == NameKind.cell <;> simp[hkc]) _ _ _ _ ?_
 have h:(s.heap.push { cls:=.type "dict",data:=.dict #[] }).objs.size=s.heap.objs.size+1:=GQ ..;rw[(MX (y:=y) _ _ _).2 S.one,(MW (y:=y) _ _).2 S.one];show wpAny M_ A _ Q E { s with heap:=(s.heap.push { cls:=.type "dict",data:=.dict #[] }).push { cls:=.type "cell",data:=.cell none } };refine AE<|AO<|AO ?_;have c:((s.heap.push { cls:=.type "dict",data:=.dict #[] }).push { cls:=.type "cell",data:=.cell none }).get? (s.heap.objs.size+1)=some { cls:=.type "cell",data:=.cell none }:=by
  rw[<- h];exact Bl _ rfl
 have z:=q _ ((Heap.Ns.new s.heap (.type "dict")).keeps λb o e=>BA { cls:=.type "cell",data:=.cell none } e) (_,c,rfl) λb o e=>BA _<|BA _ e;rw[<- h]at z;exact z
theorem ownK (e:((y,n)::clOf env names []).lookup x=some c):(x=y/\c=n)\/env.cells.lookup x=some c:=by
 rw[EU]at e;split at e
 ·rename_i h
  cases e;exact .inl (#[8],rfl)
 ·exact .inr<|D4 _ _ (λ_ _ z=>by simp at z) e
theorem O0 (S:CompScK X.env.scope X.N y scope fvs sel) (O:X.Ok):∀n,(n,NameKind.free)∈scope.names->∃a,X.env.cells.lookup n=some a:=λn h=>
 O.has n (S.free _ h rfl)
theorem Zvo (S:CompScK X.env.scope X.N y scope fvs sel) (N:List Str) (I:AJ X pins Z H s) (hf:∀b∈fp,FpOk X pins H b) (hlt:∀b∈fp,b<s.heap.objs.size):(compCxK X y scope N s.heap.objs.size s H fp<|X.pn++pins).Ok where
 mod:=I.ok.mod
 kind:=S.kind
 glob:=I.ok.glob
 blt:=I.ok.blt
 above:=AX _
 inj:=λx z c r p=>by
  have d:∀x,X.env.cells.lookup x=some c->c≠s.heap.objs.size+1:=λx e=>by
   obtain⟨v,q⟩:=I.cell x c e;exact BF<|D0 q.lt
  rcases ownK r with ⟨a,b⟩|a
  ·rcases ownK p with ⟨A,l⟩|A
   ·rw[a,A]
   ·exact absurd b<|d _ A
  ·rcases ownK p with ⟨A,l⟩|A
   ·exact absurd l<|d _ a
   ·exact I.ok.inj x z c a A
 has:=λx f=>by
  by_cases hxy:x=y
  ·subst hxy
   exact(s.heap.objs.size+1,by show ((x,_)::clOf X.env scope.names []).lookup x=_;simp)
  have M:(x,NameKind.free)∈scope.names:=by
   have Y:∀k,(k=.cell\/k=.free)->(relab X.env.scope scope).names.lookup x=some k->(x,NameKind.free)∈scope.names:=λk K h=>by
    obtain⟨⟨n,j⟩,g,e⟩:=A2.mp<|PySem.mem_of_lookup h;dsimp only at e;split at e
    ·rename_i hj
     have E:n=x:=congrArg Prod.fst e;have J:j=.free:=by
      simp only[CT,beq_iff_eq]at hj;exact hj.1.1
     rw[<- E,<- J];exact g
    ·have E:n=x:=congrArg Prod.fst e
     have m:j=k:=congrArg Prod.snd e;rcases K with z|z
     ·have i:((n,j):Str × NameKind)∈scope.names.filter (λz=>z.2 == .cell):=Ao.mpr (g,by rw[m,z];rfl)
      rw[S.one,BU]at i;exact absurd (E.symm.trans<|congrArg Prod.fst i) hxy
     ·rw[<- E,<- z,<- m];exact g
   rcases f with z|z
   ·exact Y _ (.inl rfl) z
   ·exact Y _ (.inr rfl) z
  obtain⟨c,C⟩:=GY scope.names [] M (O0 S I.ok x M);exact(c,by
   show ((y,_)::clOf X.env scope.names []).lookup x=_;rw[EU,show (x == y)=false from by simpa using hxy];exact C)
 cab:=λx c h e=>by
  rcases ownK e with ⟨_,z⟩|z
  ·rw[z];exact D2 _
  ·have f:x=y:=by simpa using (show (x == y)=true from h)
   subst f;have:((x,s.heap.objs.size+1)::clOf X.env scope.names []).lookup x=some c:=e;simp at this;rw[<- this];exact D2 _
 hd:=I.ok.hd
 frames:=I.ok.frames
 stk:=.inl rfl
 exf:=λb B=>⟨BF (hlt b B),λx c e=>by
  rcases ownK e with ⟨_,z⟩|z
  ·rw[z];exact GN<|D0<|hlt b B
  ·exact(hf b B).2.2.2.2.1 x c z⟩
 bs:=I.bs
 bsz:=Ck I.ok.bsz I.sz
 noex:=λb o e B=>by
  rcases(hf b B).2.2.2.1 with z|z
  ·exact I.ok.noex b o e z
  ·exact absurd (DP (Ax e)<|Ck I.ok.bsz z)<|FO _
 exfs:=λb B z=>by
  rcases Az.mp (I.stkSub b z) with e|z
  ·exact(hf b B).2.1 e
  ·exact(hf b B).2.2.1 z
 funs:=I.stack
 frf:=I.stkFree
theorem Vw (S:CompScK X.env.scope X.N y scope fvs sel) (I:AJ X pins Z H s) (hf:∀b∈fp,FpOk X pins H b) (hlt:∀b∈fp,b<s.heap.objs.size) {h':Heap}{tk:Nat}{m:Str->Option Value}
  (hns:h'.Ns s.heap.objs.size m) (hcl:h'.IsCell (s.heap.objs.size+1) none) (old:∀b o,s.heap.get? b=some o->h'.get? b=some o) :
  AJ (compCxK X y scope (tgs++fvs) s.heap.objs.size s H fp<|X.pn++pins) [] (compSt tgs.length sel Z) H { s with heap:=h',toks:=tk } where
 ok:=Zvo S _ I hf hlt
 os:=rfl
 bare:=I.bare
 base:=Un.kept old
 loc:=by
  refine(m,hns,λi x v g h M=>?_);have g:(tgs++fvs)[i]?=some x:=g;unfold compSt at h;by_cases hi:i<tgs.length
  ·rw[Dp (by simpa using hi),IF,AM hi]at h
   cases h
  ·have a:tgs.length<=i:=Nat.le_of_not_lt hi
   rw[Ci #[10],Ad,Cc]at h;rw[Ci a]at g;cases hj:sel[i-tgs.length]? with
   |none=>rw[hj]at h;cases h
   |some j=>
    rw[hj]at h;have h:(Z[j]?).getD none=some v:=#[8]
    have F:(x,j)∈fvs.zip sel:=by
     refine Bd (i:=i-tgs.length) ?_;rw[IG];exact(g,hj)
    obtain⟨A,f⟩:=S.fv _ F;have B:Z[j]?=some (some v):=by
     cases q:Z[j]? with
     |none=>rw[q]at h;cases h
     |some o=>rw[q]at h;exact congrArg some h
    have k:X.env.scope.names.lookup x=some .cell\/X.env.scope.names.lookup x=some .free:=S.free (x,.free) (PySem.mem_of_lookup f) rfl;obtain⟨Q,E,t⟩:=I.loc;obtain⟨u,r,l⟩:=t j x v A B (.inr k);refine(u,r,.inr (Mh f,?_));rcases l with ⟨K,_⟩|⟨_,c,w,L⟩
    ·have K:X.env.scope.names.lookup x=some .local:=K
     rcases k with z|z <;> (rw[K]at z;cases z)
    ·obtain⟨J,C⟩:=GY scope.names [] (PySem.mem_of_lookup f) (c,w)
     have e:=D4 scope.names [] (λ_ _ z=>by simp at z) C;rw[w]at e;cases e;obtain⟨o,O,D⟩:=L;have Y:(x == y)=false:=by
      cases q:x == y with
      |false=>rfl
      |true=>
       have:x=y:=by simpa using q
       have:=S.own (x,.free) (PySem.mem_of_lookup f) this;cases this
     exact(c,by show ((y,s.heap.objs.size+1)::clOf X.env scope.names []).lookup x=some c;rw[EU,Y];exact C,o,old _ _ O,D)
 cell:=λx c e=>by
  rcases ownK e with ⟨_,z⟩|z
  ·rw[z];exact(none,hcl)
  ·obtain⟨v,o,O,D⟩:=I.cell x c z
   exact(v,o,old _ _ O,D)
 free:=I.hok.fresh<|AX _
 freeC:=λx c e=>by
  rcases ownK e with ⟨_,z⟩|z
  ·rw[z];exact I.hok.fresh<|D2 _
  ·exact I.freeC x c z
 pin:=λp P=>by
  have P:p∈(X.pn++pins)++[]:=P;rw[Bp]at P;obtain⟨e,n,ne,G,d⟩:=I.pin p P;refine(old _ _ e,n,BF<|Ax e,λz=>?_,d);rcases Az.mp (I.stkSub p.1 z) with q|q
  ·exact ne q
  ·exact G q
 hok:=I.hok.kept old
 len:=by
  unfold compSt;show _=(tgs++fvs).length;rw[A1,A1,Cc,AH,S.len]
theorem Vm (I:AJ X pins Z H s) (hf:∀b∈fp,FpOk X pins H b)
  (J:AJ (compCxK X y scope N s.heap.objs.size s H fp<|X.pn++pins) [] Z' H' s') (sb:Heap.SameBut s.heap.objs.size s'.heap h'):AJ X pins Z H' { s' with heap:=h' }:=by
 have B:Un (frs X.stack) fp H H' s.heap s'.heap:=J.base;have ne:∀b o,s.heap.get? b=some o->b≠s.heap.objs.size:=λb o e=>BF<|Ax e;have r:H' s.heap.objs.size=none:=J.free;refine I.call' (s':={ s' with heap:=h' }) (ch:=fp) J.os (λb o e n f a=>?_,λb o e n f a=>?_,B.free,λb o e a=>?_,B.tups,B.frzs,B.tbls) (λb g e=>?_) J.bare λb d=>?_
 ·exact(sb.2 b<|ne b o e).trans (B.keep b o e n f a)
 ·obtain⟨l,q⟩:=B.slot b o e n f a
  exact(l,(sb.2 b<|ne b o e).trans q)
 ·obtain⟨O,q⟩:=B.there b o e a
  exact(O,(sb.2 b<|ne b o e).trans q)
 ·refine(J.hok b g e).stay (λc w h q=>(sb.2 c ?_).trans q) (λ_ q=>q) λ_ _ q=>q
  intro z;rcases h with h|h
  ·rw[<- h,z,r]at e;cases e
  ·rw[z,r]at h;cases h
 ·exact((hf b d).2.2.2.1,(hf b d).2.1,(hf b d).2.2.2.2.1,(hf b d).2.2.2.2.2)
end
#check 0
theorem Vn {y:Str}{elt tg iter:Expr}{ifs:List Expr}{scope:Scope}{pos:Pos}{tgs fvs:List Str}{sel:List Nat}{g:TG}{tc:TT}{te:TE}(S:CompScK X.env.scope X.N y scope fvs sel) (hc:X.calm=true)
  (hg:∀C s H ex pn,PG (compCxK X y scope (tgs++fvs) C s H ex pn) tg g) (ht:∀C s H ex pn,PTs (compCxK X y scope (tgs++fvs) C s H ex pn) ifs tc) (he:∀C s H ex pn,PE (compCxK X y scope (tgs++fvs) C s H ex pn) elt te)
  {pins:Ar}{Z:St}{s:Shared}{itv:Value}{Q:VK}{E:Ai}{RR:Value->Addr->Result->Shared->Prop}
  (h2:PIE X pins Z tg (λJ H1=>∀acc,H1 acc=none->∃W:Nat->Nat->St->Hp->Prop,
   (∃m,W 0 m (compSt tgs.length sel Z) (upd H1 acc (.lst [])))/\∀i m Z' H',W i m Z' H' ->
   (J.stop i H' /\ Q (.ref acc) H')\/(J.go i H' /\ ∃N:St->Hp->Prop,(∀Z2 H2,N Z2 H2->∃m',m'<m/\W (i+1) m' Z2 H2) /\
   ∀x H2,J.yld i H' x H2->g x Z' H2 λZ2 H3=>tc Z2 H3 λb H4=>if b=true then te Z2 H4 λy H5=>∃ys,H5 acc=some (.lst ys)/\ys.length<sizeLine/\N Z2 (upd H5 acc (.lst (ys++[y]))) else N Z2 H4)) itv s)
  (fin:∀(s':Shared) (C acc:Addr) (H':Hp) (m:Str->Option Value),s'.heap.Ns C m->FpOk X pins H' C->(∀h',Heap.SameBut C s'.heap h' -> AJ X pins Z H' { s' with heap:=h' })->Q (.ref acc) H' -> RR (.ref acc) C (.ok .next) s') :
  wpAny (model X.prog X.w) X.A (newList []) (λacc s3=>wpAny (model X.prog X.w) X.A (newFunctionEnv scope X.env.globals (clOf X.env scope.names []) [] X.env.qual none .none (some X.env)) (λcenv s4=>
   codeAny (model X.prog X.w) X.A (.compStart (.ListComp elt [(tg,iter,ifs,0)] scope pos) 0 itv acc { cenv with scope:=relabel scope X.env }) (RR acc cenv.locals) s4) E s3) E s:=by
 obtain⟨it,fp,tn,J,H1,e,I,T,st,f2,h2⟩:=h2;subst e;have hlt:∀b∈fp,b<s.heap.objs.size:=λb hb=>let ⟨o,ho,_⟩:=T.obj 0 _ st b hb; Ax ho
 refine wpAny_newObj_type (newEnvK S λh1 hns hcl old=>?_);dsimp only at hns hcl old ⊢;have I3:AJ X pins Z (upd H1 s.heap.objs.size (.lst [])) { s with heap:=s.heap.push { cls:=.type "list",data:=.seq ([]:List Value).toArray },toks:=s.toks }:=I.lnew (its:=[]) .nil #[1];have hacc:H1 s.heap.objs.size=none:=I.hok.fresh<|AX _;obtain⟨W,⟨m0,w0⟩,turn⟩:=h2 s.heap.objs.size hacc;generalize hs3:({ s with heap:=s.heap.push { cls:=.type "list",data:=.seq ([]:List Value).toArray },toks:=s.toks }:Shared)=s3 at I3;have hh3:s3.heap=s.heap.push { cls:=.type "list",data:=.seq ([]:List Value).toArray }:=by rw[<- hs3]
 have old3:∀b o,s.heap.get? b=some o->s3.heap.get? b=some o:=λb o q=>by rw[hh3];exact BA _ q
 have hf3:∀b∈fp,FpOk X pins (upd H1 s.heap.objs.size (.lst [])) b:=λb hb=>(by rw[As (BF<|hlt b hb)];exact(f2 b hb).1,(f2 b hb).2);have hlt3:∀b∈fp,b<s3.heap.objs.size:=λb hb=>by rw[hh3,GQ];exact D0<|hlt b hb
 have tn3:tn 0 s3.heap:=T.keep 0 _ _ st λb hb o q=>old3 b o q;have old4:∀b o,s3.heap.get? b=some o->h1.get? b=some o:=λb o q=>by
  rw[hh3]at q;exact old b o q
 have tn4:tn 0 h1:=T.keep 0 _ _ tn3 λb hb o q=>old4 b o q;have hC:(s.heap.push { cls:=.type "list",data:=.seq ([]:List Value).toArray }).objs.size=s3.heap.objs.size:=by rw[hh3]
 rw[hC]at hns hcl;have J0:=Vw (tgs:=tgs) (tk:=s.toks) S I3 hf3 hlt3 hns hcl old4;have es:({ s3 with heap:=h1,toks:=s.toks }:Shared) = { s with heap:=h1,toks:=s.toks }:=by rw[<- hs3]
 rw[es]at J0;generalize hY:compCxK X y scope (tgs++fvs) s3.heap.objs.size s3 (upd H1 s.heap.objs.size (.lst [])) fp (X.pn++pins)=Y at J0;have hYp:Y.prog=X.prog:=#[9]
 have hYw:Y.w=X.w:=#[9]
 have hYK:Y.K=X.K:=#[9]
 have hYA:Y.A=X.A:=#[9]
 have hYc:Y.calm=true:=by rw[<- hY];exact hc
 have hYx:Y.xe=λ_ _=>False:=#[9]
 have hYe:Y.env=compEnvC scope ((y,s3.heap.objs.size+1)::clOf X.env scope.names []) s3.heap.objs.size X.env:=#[9]
 have stat:∀{H':Hp},(∀b∈fp,H' b=none)->∀b∈fp,FpOk Y [] H' b:=λhn b hb=>by
  rw[<- hY];refine(hn b hb,BF<|hlt3 b hb,λz=>?_,.inl hb,λx c e=>?_,λp hp z=>?_)
  ·rcases Az.mp (I3.stkSub b z) with q|q
   ·exact(hf3 b hb).2.1 q
   ·exact(hf3 b hb).2.2.1 q
  ·rcases ownK e with ⟨_,z⟩|z
   ·rw[z];exact GN<|D0<|hlt3 b hb
   ·exact(hf3 b hb).2.2.2.2.1 x c z
  ·have hp:p∈(X.pn++pins)++[]:=hp
   rw[Bp]at hp;exact(hf3 b hb).2.2.2.2.2 p hp z
 have loop:codeAny (model X.prog X.w) X.A (.compLoop (.ListComp elt [(tg,iter,ifs,0)] scope pos) 0 (.ref it) (.ref s.heap.objs.size) Y.env) (RR (.ref s.heap.objs.size) s3.heap.objs.size)
   { s with heap:=h1,toks:=s.toks }:=by
  refine codeAny_loop rfl (λn s'=>∃i Z' H',AJ Y [] Z' H' s' /\ tn i s'.heap/\(∀b∈fp,H' b=none)/\W i n Z' H') ?_ m0 (0,_,_,J0,tn4,λb hb=>(hf3 b hb).1,w0);rintro n s5 ⟨i,Z5,H5,I5,st5,fr5,w5⟩;show wpAny _ X.A ((compTurn (.ListComp elt [(tg,iter,ifs,0)] scope pos) 0 (.ref it) (.ref s.heap.objs.size) Y.env).onRaise (λx=>do noteFrame x Y.env;theTreesLotGoes x)) _ _ s5;refine wpAny_noted (EN (E:=λ_ _=>False) ?_ (λ_ _ q=>q) λ_ _ z=>z.elim);rw[compTurn_list];refine AE<|Ei<|AE ?_;rcases turn i n Z5 H5 w5 with ⟨stop,qn⟩|⟨go,N,hN,step⟩
  ·have D:=T.done Y hYp hYw hYK hYc i [] s5 Z5 H5 (λ_ _=>False) I5 (stat fr5) st5 stop
   rw[hYA]at D;refine thn D λr s6 (hr,I6)=>?_;subst hr;refine AO ?_;obtain⟨m6,hn6,_⟩:=I6.loc;rw[hYe]at hn6;refine fin s6 _ _ H5 m6 hn6 (I3.fpOk (AX _) (by have z:=I6.free;rw[hYe]at z;exact z)) (λh' sb=>?_) qn;have I6':AJ (compCxK X y scope (tgs++fvs) s3.heap.objs.size s3 (upd H1 s.heap.objs.size (.lst [])) fp<|X.pn++pins) [] Z5 H5 s6:=by rw[hY];exact I6
   exact Vm I3 hf3 I6' sb
  ·have D:=T.item Y hYp hYw hYK hYc i [] s5 Z5 H5 (λ_ _=>False) I5 (stat fr5) st5 go
   rw[hYA]at D;refine thn D λr s6 (u,hr,h6)=>?_;subst hr;refine AE (thn h6 λ_ s7 (x,H7,I7,r7,y7,st7,fr7)=>?_);have I7':=I7.pinned (stat fr7)<|T.obj _ _ st7;have G:=hg s3.heap.objs.size s3 (upd H1 s.heap.objs.size (.lst [])) fp<|X.pn++pins;have TT:=ht s3.heap.objs.size s3 (upd H1 s.heap.objs.size (.lst [])) fp<|X.pn++pins;have EE:=he s3.heap.objs.size s3 (upd H1 s.heap.objs.size (.lst [])) fp<|X.pn++pins;rw[hY]at G TT EE;have G1:=G _ s7 Z5 H7 x u _ I7' r7<|step x H7 y7;rw[hYp,hYw,hYA,hYx]at G1;refine AE (thn G1 λ_ s8 (Z8,H8,I8,q8)=>?_);have T1:=TT _ s8 Z8 H8 _ I8 q8;rw[hYp,hYw,hYA,hYx]at T1;refine AE (thn T1 λok s9 (H9,I9,q9)=>?_);have again:∀{s':Shared}{Z':St}{H':Hp},AJ Y ([]++pinsAt fp s7.heap) Z' H' s' -> N Z' H' -> ∃m,m<n/\∃i Z' H',AJ Y [] Z' H' s' /\ tn i s'.heap/\(∀b∈fp,H' b=none)/\W i m Z' H':=λ{s' Z' H'} K7 n7=>by
    obtain⟨m',hm,w7⟩:=hN Z' H' n7;refine(m',hm,i+1,Z',H',K7.unpinned,T.keep _ _ _ st7 λb hb o e=>(K7.pin (b,o)<|Bx _<|Bx _<|Fv hb e).1,λb hb=>?_,w7);obtain⟨o,e,d⟩:=T.obj _ _ st7 b hb;exact(K7.pin (b,o)<|Bx _<|Bx _<|Fv hb e).2.1
   cases ok with
   |false=>
    have q9:N Z8 H9:=q9;exact AO (by rw[hYe],again I9 q9)
   |true=>
    have q9:te Z8 H9 λy H5=>∃ys,H5 s.heap.objs.size=some (.lst ys)/\ys.length<sizeLine/\N Z8 (upd H5 s.heap.objs.size (.lst<|ys++[y])):=q9;have E1:=EE _ s9 Z8 H9 _ I9 q9;rw[hYp,hYw,hYA,hYx]at E1;refine AE<|AE (thn E1 λv sa (y,Ha,Ia,ra,ys,ea,za,na)=>?_);have M_:=EY (X:=Y) _ sa Z8 Ha (.ref s.heap.objs.size) [y] (.ref s.heap.objs.size) [v] (λ_ H=>N Z8 H) Ia rfl (.cons ra .nil) (_,ys,y,rfl,rfl,ea,za,na);rw[hYp,hYw,hYA,hYx]at M_;refine AE (thn M_ λ_ sb (_,Hb,Ib,_,nb)=>AO<|AO (by rw[hYe],again Ib nb))
 have hcs:(relabel scope X.env)=(relabel scope X.env):=rfl;have loop':=loop;rw[hYe]at loop';show codeAny (model X.prog X.w) X.A (.compStart (.ListComp elt [(tg,iter,ifs,0)] scope pos) 0 (.ref it) (.ref s.heap.objs.size)<|compEnvC scope ((y,(s.heap.push { cls:=.type "list",data:=.seq ([]:List Value).toArray }).objs.size+1)::clOf X.env scope.names []) (s.heap.push { cls:=.type "list",data:=.seq ([]:List Value).toArray }).objs.size X.env) (RR (.ref s.heap.objs.size) (s.heap.push { cls:=.type "list",data:=.seq ([]:List Value).toArray }).objs.size) _;rw[hC];exact codeAny_compStart_list loop'<|T.self _ 0 _ _ _ tn4 loop'
theorem WN {y:Str}{L tg j:Expr}{z:List Expr}{scope:Scope}{pos:Pos}{fvs:List Str}{sel:List Nat}{J:TI}{g:TG}{tc:TT}{te:TE}(tgs:List Str) (S:CompScK X.env.scope X.N y scope fvs sel) (O:X.calm=true)
  (hi:PI X tg j J) (Y:∀C s H ex pn,PG (compCxK X y scope (tgs++fvs) C s H ex pn) tg g) (ht:∀C s H ex pn,PTs (compCxK X y scope (tgs++fvs) C s H ex pn) z tc) (U:∀C s H ex pn,PE (compCxK X y scope (tgs++fvs) C s H ex pn) L te)
  (hs:∀x,foldedSetIterable j X.env x=pure x:=by intro _;rfl) :
  PE X (.ListComp L [(tg,j,z,0)] scope pos) (tComp tgs.length sel J g tc te):=by
 intro pins s Z H Q I h;rw[eval_ListComp];refine wpAny_comprehension_free (use:=none) rfl hs (HX<|O0 S I.ok) S.kind S.names (thn (hi pins s Z H _ I h) λv e b=>thn b λt f d=>?_);refine Vn S O Y ht U (RR:=λc C=>compPost (model X.prog X.w) X.A X.xe none (EP X pins Z Q) c C) (Q:=Q) d ?_;intro s' C c H' m hn _ hI q;exact(m,hn,λa B=>(.ref c,H',hI a B,rfl,q))
end
#check 2
#check 0
theorem intsAt (hi:IntsAre its ns):∀j (h:j<its.length),∃t,its[j]=.int (ns.getD j 0) t:=by
 induction hi with
 |nil=>intro j h;simp at h
 |cons n t _ ih=>
  intro j h;cases j with
  |zero=>exact(t,rfl)
  |succ j=>simpa using ih j #[8]
end
#check 3
theorem NC (h:JE K ta M λd M1=>JE K tb M1 λe M2=>JR2 K r d e M2 λz M3=>∃k,z=.bl k/\if k=true then JE K tc M3 λu M4=>JR2 K r' e u M4 P else P (.bl false) M3):JE K (tChain r r' ta tb tc) M P:=λg G H Z Q k c=>
 h g G H Z _ k λx d m t M1 A j J E=>E g m t Z _ A λy e n v M2 C s R F=>F g n v Z _ x y C (J.mono s) R λz O a f M3 i S L q=>by
  obtain⟨b,B,p⟩:=q;subst B;cases L.inv;refine(b,rfl,?_);cases b with
  |true=>
   rw[AM rfl]at p ⊢;exact p g a f Z _ i λu U o w M4 D l N I=>I g o w Z Q y u D (R.mono<|S.trans l) N<|c.up<|j.trans<|s.trans<|S.trans l
  |false=>
   rw[AL BL]at p ⊢;exact c _ _ a f M3 i (j.trans<|s.trans S) (.bl false) p
end
#check 0
def rMax1 (K:W.Frag):List V->Hp->VK->Prop:=λs H Q=>∃(b:Bool) (p:Addr) (ns:List Int),s=[.ref p]/\SqB b K H p (ns.map V.int)/\0<ns.length/\∀m,m∈ns->(∀a∈ns,a<=m)->Q (.int m) H
theorem maxK (K:W.Frag) (hc:X.calm=true) (hK:X.K=K:=by rfl):CallR X (.builtin "max") (rMax1 K):=by
 subst hK;intro pins s Z H xs us Q I r h;obtain⟨b,p,n,rfl,G,N,q⟩:=h;obtain⟨u,rfl,U⟩:=vals1 r;cases (show u=Value.ref p from U);obtain⟨S,y,g⟩:=I.seqB G;have T:=g.lt;have L:=y.length;rw[AH]at L;have V:∀(i:Nat) v,S.toArray[i]?=some v->∃t,v=Value.int (n.getD i 0) t:=λi v e=>by
  have R:i<S.length:=by simpa using (Array.getElem?_eq_some_iff.mp e).1
  obtain⟨Y,E,t,z⟩:=y.get (i:=i) (x:=.int<|n.getD i 0) (by rw[Ad,Al,AS #[3]];rfl);rw[IM,E]at e;cases e;exact(t,z)
 have f:∀{d:Heap}{m:Nat}{v:Value},S.toArray[argBest (λi j=>decide (n.getD i 0 > n.getD j 0)) (S.toArray.size-1)]?=some v->(∀c o,s.heap.get? c=some o->d.get? c=some o)->EP X pins Z Q v { s with heap:=d,toks:=m }:=λ{d m v} P k=>by
  obtain⟨t,rfl⟩:=V _ _ P;obtain⟨B,w⟩:=argBest_gt (λi=>n.getD i 0)<|S.toArray.size-1;have O:S.toArray.size=n.length:=by simp[L]
  rw[O]at B w ⊢;refine(.int<|n.getD (argBest (λi j=>decide (n.getD i 0 > n.getD j 0))<|n.length-1) 0,H,I.kept k,(_,rfl),q _ ?_ λa C=>?_)
  ·rw[Al,AS #[3]];exact Br _
  ·obtain⟨j,J,rfl⟩:=Eo.mp C
   have:=w j #[3];rw[Al (l:=n) (i:=j),AS J]at this;exact this
 have D:∀{o:Obj}{d:Heap},(∀c u,c ∉ [s.heap.objs.size]->(s.heap.push o).get? c=some u->d.get? c=some u)->∀c u,s.heap.get? c=some u->d.get? c=some u:=λk c u e=>k c u (λM=>by
  have:c=s.heap.objs.size:=by simpa using M
  exact absurd (this ▸ Ax e) (FO _)) (BA _ e)
 have F:∀o:Obj,∀c∈[s.heap.objs.size,p],c<(s.heap.push o).objs.size:=λo c hc=>by
  rw[GQ];simp only[Az,DQ,or_false]at hc;rcases hc with rfl|rfl
  ·exact Nat.lt_succ_self _
  ·exact D0 T
 cases b
 ·refine call_max_walk (wpAny_pyIter_list g ?_)
  exact(_,_,_,_,_,_,_,rfl,Walks.list (A:=X.A.in1) (I.ok.hd hc) _ p (BF T) S.toArray,((_,Bl _ rfl,rfl,rfl),Heap.IsList.push g _),F _,by simp;omega,CmpOf.ints_gt (λi=>n.getD i 0) V,λv d m P k=>f P<|D k)
 ·refine call_max_walk (wpAny_pyIter_tuple g ?_)
  exact(_,_,_,_,_,_,_,rfl,Walks.tuple (A:=X.A.in1) (I.ok.hd hc) _ p (BF T) S.toArray,((_,Bl _ rfl,rfl,rfl),Heap.IsTuple.push g _),F _,by simp;omega,CmpOf.ints_gt (λi=>n.getD i 0) V,λv d m P k=>f P<|D k)
end
#check 1
theorem Zxe {ns:List Int}(j:d=.lst (ns.map .int)\/d=.tup (ns.map .int)) (hm:m∈ns) (L:∀a∈ns,a<=m) (p:P (.int m) M):JC K (rMax1 K) [d] M P:=λg G H Z Q v k S c=>by
 have n:∀b,b∈ns->(∀a∈ns,a<=b)->Q (.int b) H:=λb e f=>by
  have:b=m:=Int.le_antisymm (L b e)<|f m hm;subst this;exact c _ _ G H M k (Same.refl _) (.int _) p
 have s:0<ns.length:=El hm;obtain⟨_,_,rfl,r,t⟩:=S.inv
 next=>
  cases t.inv;rcases j with j|j <;> subst j
  ·obtain⟨_,_,rfl,h,S⟩:=r.inv
   next=>have:=S.ints;subst this;exact(false,_,ns,rfl,SqL.of<|k.live _ _ h,s,n)
  ·obtain⟨_,_,rfl,h,S⟩:=r.inv
   next=>have:=S.ints;subst this;exact(true,_,ns,rfl,SqT.of<|k.live _ _ h,s,n)
theorem RD (h:JA K ta M λds M1=>∃es,(ds=[.tup es]\/ds=[.lst es])/\Po (.lst es) M1):JO K (tCB (rLst K) ta) M Po:=λg G H Z Q k c=>
 h g G H Z _ k λv ds a f M1 b S R q=>by
  obtain⟨es,e,p⟩:=q;rcases e with e|e <;> subst e
  ·obtain⟨_,_,rfl,r,t⟩:=R.inv
   next=>
    cases t.inv;obtain⟨_,_,rfl,A,s⟩:=r.inv
    next=>
     refine(_,_,rfl,.inr<|SqT.of<|b.live _ _ A,λl L=>?_);obtain⟨d,D⟩:=b.fresh (od:=.lst es) L (show OwnRep K a (.lst _) (.lst es) from s);exact c l _ a _ M1 d S D p
  ·obtain⟨_,_,rfl,r,t⟩:=R.inv
   next=>
    cases t.inv;obtain⟨_,_,rfl,A,s⟩:=r.inv
    next=>
     refine(_,_,rfl,.inl<|SqL.of<|b.live _ _ A,λl L=>?_);obtain⟨d,D⟩:=b.fresh (od:=.lst es) L (show OwnRep K a (.lst _) (.lst es) from s);exact c l _ a _ M1 d S D p
theorem Zu8 (j:d=.tup ds\/d=.lst ds) (h:JE K te M λe M1=>e=d/\P ds M1):JI K (iSeq K te) M P:=by
 rcases j with rfl|rfl
 ·exact DH (h.mono λe M1 (e1,p)=>(_,e1,p))
 ·exact Cz (h.mono λe M1 (e1,p)=>(_,Or.inl e1,p))
end
#check 2
#check 3
theorem Tc (p:P (.bl true) M):JR2 K rEq (.str x) (.str x) M P:=λg G H Z Q v u k r y c=>by
 cases r.inv;cases y.inv;refine(rfl,?_);rw[Au rfl];exact c _ _ G H M k (Same.refl _) (.bl _) p
end
#check 1
end
#check 4
theorem Oy {l:Addr}{vs:List Value}{Q:List Value->Shared->Prop}(hl:s.heap.IsTuple l vs.toArray)
  (h:Q vs { s with heap:=(s.heap.push<|seqObj "list" #[] 0).update s.heap.objs.size (Obj.mapSeq (· ++ vs.toArray)) }) (hsz:vs.length<=sizeLine) :
  wpAny (model prog w) A (collect (.ref l)) Q E s:=by
 obtain⟨o,ho,hc,n,hd⟩:=id hl;unfold collect;refine AE<|wpAny_runValue<|codeAny_builtin entry_proto_collect' ?_;show wpAny _ _ (do again (.builtin "list.__iadd__" ([<- newList [],.ref l],[]))) _ _ s;refine AE<|wpAny_newList<|AO (Code.quiet_builtin _ #[0],codeAny_builtin entry_list_iadd' ?_);show wpAny _ _ (Builtin.List.listExtendWith (.ref s.heap.objs.size) (.ref l) (.ref s.heap.objs.size)) _ _ { s with heap:=s.heap.push (seqObj "list" #[] 0) };unfold Builtin.List.listExtendWith;have ho':(s.heap.push<|seqObj "list" #[] 0).get? l=some o:=BA _ ho;refine AE<|wpAny_typeOf (T:="tuple") (o,ho',hc) ?_;have ht:(Value.type "tuple" == Value.type "tuple")=true:=by rfl
 rw[AM (by rw[ht];simp)];refine AE (listItems_at ho' hd ?_);refine AE (listItems_at (xs:=#[]) (n:=0) (Bl _ rfl) rfl ?_);rw[AL #[4]];refine AE (listUpdate_at (xs:=#[]) (n:=0) (Bl _ rfl) rfl ?_ (CS _) (by show (#[]++vs.toArray).size<=sizeLine+1;simp only[Array.size_append,BC,EV];lia));refine AO ?_;show wpAny (model prog w) A (do
   let o <- load s.heap.objs.size
   match o.data with
   |.seq xs _=>pure xs.toList
   |_=>unsupported "internal:collect") Q E { s with heap:=(s.heap.push (seqObj "list" #[] 0)).update s.heap.objs.size (Obj.mapSeq (· ++ vs.toArray)) }
 refine AE<|wpAny_load (get?_update_seq (Bl _ rfl) _) ?_;show wpAny _ _ (pure ((#[]:Array Value)++vs.toArray).toList) Q E _;rw[show ((#[]:Array Value)++vs.toArray).toList=vs by simp];exact AO h
theorem Uw {l:Addr}{vs:List Value}{ns:List Int}{Q:Ai}(hl:s.heap.IsTuple l vs.toArray) (hI:IntsAre vs ns) (h64:vs.length<64)
  (h:∀(out:Array Value) (ns':List Int),IntsAre out.toList ns' -> ns'.Perm ns->ns'.Pairwise (· <= ·)->Q (.ref<|s.heap.objs.size+1) { s with heap:=sortedAll s.heap vs out }) :
  wpAny (model prog w) A (call (.builtin "sorted") [.ref l]) Q E s:=by
 refine Calls.call_function_entry kind_sorted plain_sorted entry_sorted (args_sorted1 _) ?_;unfold Builtin.«sorted»;refine AE (m:=checkCount "sorted" 1 1 _)<|AO ?_;refine AE (Oy hl ?_<|CM (small1000 #[2]));refine AE<|wpAny_newList ?_;have z:((s.heap.push<|seqObj "list" #[] 0).update s.heap.objs.size (Obj.mapSeq (· ++ vs.toArray))).objs.size=s.heap.objs.size+1:=by
  rw[J6,size_push']
 have L:(((s.heap.push<|seqObj "list" #[] 0).update s.heap.objs.size (Obj.mapSeq (· ++ vs.toArray))).push (seqObj "list" vs.toArray 0)).get? (s.heap.objs.size+1)=some (seqObj "list" vs.toArray 0):=by
  rw[<- z];exact Bl _ rfl
 show wpAny _ _ _ _ _ { s with heap:=((s.heap.push<|seqObj "list" #[] 0).update s.heap.objs.size (Obj.mapSeq (· ++ vs.toArray))).push (seqObj "list" vs.toArray 0) };rw[z];refine AE<|Cv<|wpAny_call_entry slot_list_sort (_,L,rfl) entry_list_sort (list_sort_tree L hI h64 λout ns' a b c=>(_,rfl,?_))<|args_list_sort _;exact AO (_,rfl,h out ns' a b c)
end
#check 0
def rSortT (K:W.Frag):List V->Hp->VK->Prop:=λs H Q=>∃(p:Addr) (ns:List Int),s=[.ref p]/\SqT K H p (ns.map V.int)/\ns.length<64/\∀(l:Addr) (ms:List Int),ms.Perm ns->ms.Pairwise (· <= ·)->H l=none->Q (.ref l) (upd H l (.lst<|ms.map V.int))
theorem sortTK (K:W.Frag) (j:X.K=K:=by rfl):CallR X (.builtin "sorted") (rSortT K):=by
 subst j;intro pins s Z H xs us Q I r h;obtain⟨p,S,rfl,x,L,q⟩:=h;obtain⟨u,rfl,U⟩:=vals1 r;cases (show u=Value.ref p from U);obtain⟨i,d,P⟩:=I.seqB (b:=true) x;have a:=EC d;have n:=a.length;refine Uw P a #[3] λt m O o c=>?_;obtain⟨e,E⟩:=sortedAll_at s.heap i t;have l:=o.length_eq;refine(.ref<|s.heap.objs.size+1,_,I.laid (t':=s.toks) (λ_ _ z=>sortedAll_old z) (D2 _) (show ObjOk X.prog X.w _ _ _ (.lst<|m.map V.int) from (?_,t.toList,e,GW O,?_)),rfl,q _ m o c<|I.hok.fresh<|D2 _)
 ·rw[AH];exact CM (small1000 #[3])
 ·rw[Array.toArray_toList];exact E
end
structure GB (kd:SortKind) (a0:Array Keyed) (t:SortSt):Prop where
 pm:(arrOf t).Perm a0
 kd:kindOf t=kd
 fl:failedOf t=none
 pd:pendingOf t = #[]
theorem GB.sz {kd:SortKind}(g:GB kd a0 t):(arrOf t).size=a0.size:=g.pm.size_eq
theorem GB.put {kd:SortKind}(g:GB kd a0 t) (j:xs.Perm (arrOf t)):GB kd a0 (setArr t xs):=(j.trans g.pm,g.kd,g.fl,g.pd)
section
variable {prog:Program}{w:World}{A:Around}{E:Ai}{s:Shared}{a0:Array Keyed}{κ:KeyKind}{kd:SortKind}
def Fc (prog:Program) (w:World) (A:Around) (E:Ai) (s:Shared) (κ:KeyKind) (kd:SortKind) (a0:Array Keyed):Prop:=
 ∀t,GB kd a0 t->∀i j,i<a0.size->j<a0.size->∀Q:Option Bool->SortSt->Prop,Q (some (κ.blt (KK κ (arrOf t) i)<|KK κ (arrOf t) j)) t->wpS (model prog w) A E s (ltAt' i j) Q t
theorem S7 (h:SortedToK κ xs m) (L:m=0 \/ κ.kle (KK κ xs<|m-1) (KK κ xs m)):SortedToK κ xs (m+1):=λi j J H=>by
 rcases Il j m with z|z
 ·exact h i j J z
 ·have e:j=m:=by lia
  subst e;rcases Il i j with y|y
  ·rcases L with q|q
   ·lia
   ·exact KeyOrd.kle_trans (h i (j-1) #[3] #[3]) q
  ·have e:i=j:=by lia
   subst e;exact KeyOrd.kle_refl _
theorem JR (h:NonIncK κ xs m) (L:m=0 \/ κ.kle (KK κ xs m) (KK κ xs<|m-1)):NonIncK κ xs (m+1):=λi j J H=>by
 rcases Il j m with z|z
 ·exact h i j J z
 ·have e:j=m:=by omega
  subst e;rcases Il i j with y|y
  ·rcases L with q|q
   ·omega
   ·exact KeyOrd.kle_trans q (h i (j-1) #[3] #[3])
  ·have e:i=j:=by omega
   subst e;exact KeyOrd.kle_refl _
theorem UD (O:Fc prog w A E s κ kd a0) (hn:n<=a0.size) (hok:ok<=n) (g:GB kd a0 t) (hs:SortedToK κ (arrOf t) ok)
  (h:∀u,GB kd a0 u->SortedToK κ (arrOf u) n->Q true u):wpS (model prog w) A E s (binarySort' 0 n ok) Q t:=by
 rw[binarySort'_eq];simp only[GL];refine wpS_bind<|wpS_mono (wpS_forRange (I:=λk c u=>c=(none,())/\GB kd a0 u/\SortedToK κ (arrOf u) (min k n)) (Q:=λc u=>c=(none,())/\GB kd a0 u/\SortedToK κ (arrOf u) n) ?st ?fi ?be) ?po
 case po=>
  rintro c u ⟨rfl,g',h'⟩;exact wpS_pure<|h u g' h'
 case be=>
  refine(rfl,g,λi j hij hj=>?_);rcases Lr ok with z|z
  ·have e:i=j:=by lia
   subst e;exact KeyOrd.kle_refl _
  ·exact hs i j hij #[2]
 case fi=>
  rintro c u ⟨hc,g',h'⟩;rw[show min (max (max ok 1) n) n=n by lia]at h';exact(hc,g',h')
 case st=>
  rintro k c u hak hkn ⟨rfl,g',h'⟩;rw[show min k n=k by lia]at h';have hk:k<a0.size:=#[2]
  refine wpS_bind (wpS_mono (wpS_forRange
   (I:=λx c v=>v=u/\∃l r,c=(none,l,r)/\l<=r/\r<=k/\r-l<=k-x/\(∀i,i<l -> κ.kle (KK κ (arrOf u) i) (KK κ (arrOf u) k))/\∀i,r<=i->i<k -> κ.klt (KK κ (arrOf u) k) (KK κ (arrOf u) i))
   (Q:=λc v=>v=u/\∃l r,c=(none,l,r)/\l<=k/\(∀i,i<l -> κ.kle (KK κ (arrOf u) i) (KK κ (arrOf u) k))/\∀i,l<=i->i<k -> κ.klt (KK κ (arrOf u) k) (KK κ (arrOf u) i)) ?ist ?ifi ?ibe) ?ipo)
  case ibe=>exact(rfl,0,k,rfl,#[2],#[2],#[2],λi z=>#[2],λi z y=>#[2])
  case ifi=>
   rintro c v ⟨rfl,l,r,rfl,z1,z2,z3,lo,hi⟩;obtain rfl:l=r:=#[2]
   exact(rfl,l,l,rfl,z2,lo,hi)
  case ist=>
   rintro x c v _ hx ⟨rfl,l,r,rfl,z1,z2,z3,lo,hi⟩;dsimp only;by_cases hge:l >= r
   ·obtain rfl:l=r:=by lia
    rw[AM hge];exact wpS_pure (rfl,l,l,rfl,z2,lo,hi)
   ·rw[AL hge]
    refine wpS_bind<|O v g' _ _ hk #[2] _ ?_;cases e:κ.blt (KK κ (arrOf v) k) (KK κ (arrOf v) ((l+r) / 2)) with
    |true=>
     simp only[if_true];exact wpS_pure (rfl,l,(l+r) / 2,rfl,#[2],#[2],#[3],lo,λi y1 y2=>KeyOrd.klt_of_klt_of_kle e<|h' _ _ y1 y2)
    |false=>
     simp only[CD,if_false];exact wpS_pure (rfl,(l+r) / 2+1,r,rfl,#[2],#[3],#[3],λi y1=>KeyOrd.kle_trans (h' i ((l+r) / 2) #[2] #[2]) e,hi)
  case ipo=>
   rintro c v ⟨rfl,l,r,rfl,hl,lo,hi⟩;show wpS _ _ _ _ (do moveDown' k l;pure (ForInStep.yield ((none,()):_×_))) _ _;rw[moveDown'_eq];refine wpS_bind<|wpS_modify<|wpS_pure (rfl,g'.put<|bubble_perm _ _ _,?_);rw[show min (k+1) n=k+1 by lia];have hz:k<(arrOf v).size:=by rw[g'.sz];exact hk
   intro i j hij hj;show κ.kle (KK κ (bubble (arrOf v) k<|k-l) i) (KK κ (bubble (arrOf v) k<|k-l) j);rw[KK_bubble hz #[2],KK_bubble hz #[3],show k-(k-l)=l by lia];by_cases i1:i=l
   ·rw[AM i1]
    by_cases j1:j=l
    ·rw[AM j1];exact KeyOrd.kle_refl _
    ·rw[AL j1,AM #[2]]
     exact KeyOrd.kle_of_klt (hi _ #[2] #[2])
   ·rw[AL i1]
    by_cases j1:j=l
    ·rw[AM j1,AL #[2]]
     exact lo _ #[2]
    ·rw[AL j1]
     by_cases i2:l<i/\i<=k
     ·rw[AM i2,AM #[2]]
      exact h' _ _ #[3] #[2]
     ·rw[AL i2]
      by_cases j2:l<j/\j<=k
      ·rw[AM j2]
       exact h' _ _ #[2] #[2]
      ·rw[AL j2]
       exact h' _ _ #[3] #[2]
theorem OY (O:Fc prog w A E s κ kd a0) (L:nr<=a0.size) (J:1<=a) (j:a<=nr) (g:GB kd a0 t) (z:SortedToK κ (arrOf t) a)
  (h:∀n,a<=n->n<=nr->SortedToK κ (arrOf t) n->(n=nr \/ κ.klt (KK κ (arrOf t) n) (KK κ (arrOf t)<|n-1))->Q (none,n) t):wpS (model prog w) A E s (ascLoop a nr) Q t:=by
 unfold ascLoop;refine wpS_forRange (I:=λx c u=>u=t/\c=(none,x)/\SortedToK κ (arrOf t) x) ?st ?fi (rfl,rfl,z)
 case fi=>
  rintro c u ⟨rfl,rfl,H⟩;rw[show max a nr=nr by lia]at H ⊢;exact h nr j (AX _) H<|Or.inl rfl
 case st=>
  rintro x c u X N ⟨rfl,rfl,H⟩;dsimp only;refine wpS_bind<|O u g _ _ #[2] #[2] _ ?_;cases e:κ.blt (KK κ (arrOf u) x) (KK κ (arrOf u)<|x-1) with
  |true=>
   simp only[if_true];exact wpS_pure<|h x X #[2] H<|Or.inr e
  |false=>
   simp only[CD,if_false];exact wpS_pure (rfl,rfl,S7 H<|Or.inr e)
theorem SN (O:Fc prog w A E s κ kd a0) (U:nr<=a0.size) (h1:1<=n) (L:n<=nr) (g:GB kd a0 t) (Y:NonIncK κ (arrOf t) n)
  (h:∀m u,GB kd a0 u->1<=m->m<=nr->SortedToK κ (arrOf u) m->Q (some m) u):wpS (model prog w) A E s (tail3 n nr) Q t:=by
 unfold tail3;have z:n<=(arrOf t).size:=by rw[g.sz];lia
 refine wpS_bind<|wpS_reverse ?_;have G:GB kd a0 (setArr t<|mirror (arrOf t) 0 n ((n-0) / 2)):=g.put<|mirror_perm _ _ _ _;refine wpS_bind (OY O U h1 L G (λi j J H=>?_) λm b M a _=>wpS_pure<|h m _ G #[2] M a);show κ.kle (KK κ (mirror (arrOf t) 0 n ((n-0) / 2)) i) (KK κ (mirror (arrOf t) 0 n ((n-0) / 2)) j);rw[KK_mirror z,KK_mirror z,AM #[2],AM #[2]];exact Y _ _ #[3] #[3]
theorem Si (O:Fc prog w A E s κ kd a0) (hn:nr<=a0.size) (h1:1<=n) (L:n<=nr) (g:GB kd a0 t) (U:NonIncK κ (arrOf t) n)
  (h:∀m q u,GB kd a0 u->n<=m->m<=nr->NonIncK κ (arrOf u) m->q+1<=m->(∀i,m-(q+1)<=i->i<m->KK κ (arrOf u) i=KK κ (arrOf u) (m-1))->Q (none,m,q) u):wpS (model prog w) A E s (descLoop n nr) Q t:=by
 unfold descLoop;refine wpS_forRange (I:=λx c u=>∃q,c=(none,x,q)/\GB kd a0 u/\NonIncK κ (arrOf u) x/\q+1<=x/\∀i,x-(q+1)<=i->i<x->KK κ (arrOf u) i=KK κ (arrOf u) (x-1)) ?st ?fi (0,rfl,g,U,#[3],λi Y f=>by rw[show i=n-1 by lia])
 case fi=>
  rintro c u ⟨q,rfl,G,H,d,b⟩;rw[show max n nr=nr by lia]at H d b ⊢;exact h nr q u G L (AX _) H d b
 case st=>
  rintro x c u X N ⟨q,rfl,G,H,d,b⟩;dsimp only;have z:x<=(arrOf u).size:=by rw[G.sz];lia
  refine wpS_bind<|O u G _ _ #[2] #[2] _ ?_;cases e:κ.blt (KK κ (arrOf u) x) (KK κ (arrOf u)<|x-1) with
  |true=>
   simp only[if_true];by_cases hq:q > 0
   ·rw[AM hq]
    have a:=KK_mirror_equal z b;refine wpS_bind<|wpS_reverse<|wpS_pure (0,rfl,G.put<|mirror_perm _ _ _ _,?_,#[2],λi Y f=>by rw[show i=x+1-1 by lia]);refine JR (λi j J l=>?_)<|Or.inr ?_
    ·show κ.kle (KK κ (mirror (arrOf u) _ _ _) j) (KK κ (mirror (arrOf u) _ _ _) i)
     rw[a,a];exact H i j J l
    ·show κ.kle (KK κ (mirror (arrOf u) _ _ _) x) (KK κ (mirror (arrOf u) _ _ _)<|x-1)
     rw[a,a];exact KeyOrd.kle_of_klt e
   ·rw[AL hq]
    exact wpS_pure (0,rfl,G,JR H<|Or.inr<|KeyOrd.kle_of_klt e,#[3],λi Y f=>by rw[show i=x+1-1 by lia])
  |false=>
   simp only[CD,if_false];refine wpS_bind<|O u G _ _ #[3] #[3] _ ?_;cases e2:κ.blt (KK κ (arrOf u)<|x-1) (KK κ (arrOf u) x) with
   |true=>
    simp only[if_true];exact wpS_pure<|h x q u G X #[2] H d b
   |false=>
    simp only[CD,if_false];have k:KK κ (arrOf u) x=KK κ (arrOf u) (x-1):=KeyOrd.kle_antisymm e2 e;refine wpS_pure (q+1,rfl,G,JR H<|Or.inr e2,#[2],λi Y f=>?_);show _=KK κ (arrOf u) x;rcases Il i x with y|y
    ·rw[k];exact b i #[2] y
    ·rw[show i=x by lia]
theorem PX (O:Fc prog w A E s κ kd a0) (L:nr<=a0.size) (U:n+1<=nr) (g:GB kd a0 t) (Y:NonIncK κ (arrOf t) (n+1))
  (h:∀m u,GB kd a0 u->1<=m->m<=nr->SortedToK κ (arrOf u) m->Q (some m) u):wpS (model prog w) A E s (descPart n nr) Q t:=by
 unfold descPart;refine wpS_bind<|wpS_lift<|EO (rfl,?_);refine wpS_bind (Si O L #[2] U g Y λm q u G c M H d b=>?_);dsimp only;have z:m<=(arrOf u).size:=by rw[G.sz];lia
 by_cases hq:q > 0
 ·rw[AM hq]
  have e:=KK_mirror_equal z b;refine wpS_bind<|wpS_reverse<|SN O L #[2] M (G.put<|mirror_perm _ _ _ _) (λi j J a=>?_) h;show κ.kle (KK κ (mirror (arrOf u) _ _ _) j) (KK κ (mirror (arrOf u) _ _ _) i);rw[e,e];exact H i j J a
 ·rw[AL hq]
  exact SN O L #[2] M G H h
theorem Zx2 (O:Fc prog w A E s κ kd a0) (L:nr<=a0.size) (h1:1<=nr) (g:GB kd a0 t)
  (h:∀m u,GB kd a0 u->1<=m->m<=nr->SortedToK κ (arrOf u) m->Q (some m) u):wpS (model prog w) A E s (countRun' 0 nr) Q t:=by
 rw[countRun0_eq];refine wpS_bind (OY O L (AX 1) h1 g (λi j J H=>by have e:i=j:=(#[2]);subst e;exact KeyOrd.kle_refl _) λn b c N d=>?_);dsimp only;by_cases hnn:n=nr
 ·rw[AM (by simpa using hnn)]
  exact wpS_pure<|h n t g b c N
 ·rw[AL (by simpa using hnn)]
  have lt:=d.resolve_left hnn;by_cases hg:n > 1
  ·rw[AM hg]
   refine wpS_bind<|O t g _ _ #[2] #[2] _ ?_;cases e:κ.blt (KK κ (arrOf t) 0) (KK κ (arrOf t)<|n-1) with
   |true=>
    simp only[if_true];exact wpS_pure<|h n t g b c N
   |false=>
    simp only[CD,if_false];have z:n<=(arrOf t).size:=by rw[g.sz];lia
    have l:∀k,0<=k->k<n->KK κ (arrOf t) k=KK κ (arrOf t) (n-1):=λk _ K=>
     KeyOrd.kle_antisymm (N k (n-1) #[2] #[2]) (KeyOrd.kle_trans e<|N 0 k #[3] K)
    have a:=KK_mirror_equal z l;refine wpS_bind<|wpS_reverse<|PX O L #[2] (g.put<|mirror_perm _ _ _ _) (JR (λi j J H=>?_)<|Or.inr ?_) h
    ·show κ.kle (KK κ (mirror (arrOf t) _ _ _) j) (KK κ (mirror (arrOf t) _ _ _) i)
     rw[a,a,l i #[2] #[2],l j #[2] H];exact KeyOrd.kle_refl _
    ·show κ.kle (KK κ (mirror (arrOf t) _ _ _) n) (KK κ (mirror (arrOf t) _ _ _)<|n-1)
     rw[a,a];exact KeyOrd.kle_of_klt lt
  ·rw[AL hg]
   obtain rfl:n=1:=#[2]
   refine PX O L #[2] g (JR (λi j J H=>?_)<|Or.inr<|KeyOrd.kle_of_klt lt) h;obtain rfl:i=j:=#[3]
   exact KeyOrd.kle_refl _
theorem Zzw (O:Fc prog w A E s κ kd a0) (g:GB kd a0 t) (h2:2<=a0.size) (J:a0.size<64)
  (h:∀u,(arrOf u).Perm a0->failedOf u=none->SortedToK κ (arrOf u) a0.size->Q () u):wpS (model prog w) A E s sortRuns' Q t:=by
 have r:minRun' a0.size a0.size 0=a0.size:=by
  obtain⟨f,F⟩:∃f,a0.size=f+1:=(a0.size-1,#[2]);have:=minRun'_succ f a0.size 0;rw[AM J,<- F]at this;exact this
 rw[sortRuns'_eq];refine wpS_bind (wpS_get ?_);dsimp only;simp only[g.sz,r];refine wpS_bind (wpS_mono (wpS_forRange
  (I:=λx c u=>(x=0/\c=(none,0)/\GB kd a0 u)\/(1<=x/\c=(none,a0.size)/\(arrOf u).Perm a0/\failedOf u=none/\pendingOf u = #[(0,a0.size,0)]/\SortedToK κ (arrOf u) a0.size))
  (Q:=λc u=>c=(none,a0.size)/\(arrOf u).Perm a0/\failedOf u=none/\pendingOf u = #[(0,a0.size,0)]/\SortedToK κ (arrOf u) a0.size) ?st ?fi (Or.inl (rfl,rfl,g))) ?po)
 case fi=>
  rintro c u (⟨z,_,_⟩|⟨_,z⟩)
  ·lia
  ·exact z
 case st=>
  rintro x c u _ X (⟨rfl,rfl,a⟩|⟨k,rfl,z⟩)
  ·dsimp only
   rw[AL #[2]];simp only[Ik,Nat.min_self,GL];refine wpS_bind (Zx2 O (AX _) #[2] a λm v G j b M=>?_);have n:∀V,GB kd a0 V -> SortedToK κ (arrOf V) a0.size->(arrOf<|setPending V ((pendingOf V).push (0,a0.size,0))).Perm a0/\failedOf (setPending V ((pendingOf V).push (0,a0.size,0)))=none/\pendingOf (setPending V ((pendingOf V).push (0,a0.size,0))) = #[(0,a0.size,0)]/\SortedToK κ (arrOf<|setPending V ((pendingOf V).push (0,a0.size,0))) a0.size:=λV W S=>
    (W.pm,W.fl,by show (pendingOf V).push _=_;rw[W.pd];rfl,S)
   dsimp only;by_cases hlt:m<a0.size
   ·rw[AM hlt]
    refine wpS_bind<|wpS_lift<|EO (rfl,?_);refine wpS_bind (UD O (AX _) b G M λV W S=>?_);simp only[Fn,CD,if_false];refine wpS_bind<|wpS_get ?_;rw[show (pendingOf V).back?=none by rw[W.pd];rfl];dsimp only;exact wpS_bind<|wpS_modify<|wpS_pure<|Or.inr (#[2],rfl,n V W S)
   ·rw[AL hlt]
    obtain rfl:m=a0.size:=#[2]
    refine wpS_bind<|wpS_get ?_;rw[show (pendingOf v).back?=none by rw[G.pd];rfl];dsimp only;exact wpS_bind<|wpS_modify<|wpS_pure<|Or.inr (#[2],rfl,n v G M)
  ·dsimp only
   rw[AM (AX _)];exact wpS_pure (rfl,z)
 case po=>
  rintro c u ⟨rfl,Z,d,e,i⟩;dsimp only;refine wpS_bind<|wpS_mono (wpS_forRange (I:=λ_ c v=>v=u/\c=(none,())) (Q:=λc v=>v=u/\c=(none,())) ?_ (λ_ _ q=>q) (rfl,rfl)) ?_
  ·rintro x c v _ _ ⟨rfl,rfl⟩
   refine wpS_bind<|wpS_get ?_;rw[AM (by rw[e];exact AX 1)];exact wpS_pure (rfl,rfl)
  ·rintro c v ⟨rfl,rfl⟩
   exact wpS_pure<|h _ Z d i
end
abbrev rlt:=HT.lexLt
theorem F6 (x y:Int) (xs ys:List Int):rlt (x::xs) (y::ys)=if x=y then rlt xs ys else decide (x<y):=rfl
theorem RG:∀a:List Int,rlt a a=false
 |[]=>rfl
 |x::a=>by rw[F6,AM rfl];exact RG a
theorem R5:∀a b c:List Int,rlt a b=true->rlt b c=true->rlt a c=true
 |[],[],_,h,_=>by cases h
 |[],_::_,[],_,h=>by cases h
 |[],_::_,_::_,_,_=>rfl
 |_::_,[],_,h,_=>by cases h
 |_::_,_::_,[],_,h=>by cases h
 |x::a,y::b,z::c,h1,h2=>by
  rw[F6]at h1 h2 ⊢;by_cases e1:x=y
  ·by_cases e2:y=z
   ·rw[AM e1]at h1;rw[AM e2]at h2;rw[AM (e1.trans e2)]
    exact R5 a b c h1 h2
   ·rw[AL e2,decide_eq_true_eq]at h2
    rw[AL #[2],decide_eq_true_eq];lia
  ·rw[AL e1,decide_eq_true_eq]at h1
   by_cases e2:y=z
   ·rw[AL #[2],decide_eq_true_eq];lia
   ·rw[AL e2,decide_eq_true_eq]at h2
    rw[AL #[2],decide_eq_true_eq];lia
theorem RA:∀a b c:List Int,rlt a c=true->rlt a b=true\/rlt b c=true
 |[],[],_,h=>Or.inr h
 |[],_::_,_,_=>Or.inl rfl
 |_::_,_,[],h=>by cases h
 |_::_,[],_::_,_=>Or.inr rfl
 |x::a,y::b,z::c,h=>by
  rw[F6]at h;rw[F6,F6];by_cases e:x=z
  ·subst e
   rw[AM rfl]at h;by_cases e1:x=y
   ·subst e1;rw[AM rfl,AM rfl];exact RA a b c h
   ·rw[AL e1,AL (Ne.symm e1),decide_eq_true_eq,decide_eq_true_eq];lia
  ·rw[AL e,decide_eq_true_eq]at h
   by_cases e1:x=y
   ·subst e1;right;rw[AL e,decide_eq_true_eq];exact h
   ·rw[AL e1]
    by_cases e2:y=z
    ·left;rw[decide_eq_true_eq];lia
    ·rw[AL e2,decide_eq_true_eq,decide_eq_true_eq];omega
theorem Nd:∀a b:List Int,rlt a b=false->rlt b a=false->a=b
 |[],[],_,_=>rfl
 |[],_::_,h,_=>by cases h
 |_::_,[],_,h=>by cases h
 |x::a,y::b,h1,h2=>by
  rw[F6]at h1 h2;by_cases e:x=y
  ·subst e
   rw[AM rfl]at h1 h2;rw[Nd a b h1 h2]
  ·rw[AL e,decide_eq_false_iff_not]at h1
   rw[AL (Ne.symm e),decide_eq_false_iff_not]at h2;lia
theorem RowAt.inj (x:RowAt h v a) (y:RowAt h v b):a=b:=by
 obtain⟨p,S,rfl,⟨o,H,C,n,D⟩,I⟩:=x;obtain⟨q,s,e,⟨f,O,c,N,d⟩,i⟩:=y;cases e;rw[H]at O;cases O;rw[D]at d;have e:S=s:=by
  have:=Data.seq.inj d;simpa using this.1
 subst e;clear D d
 induction I generalizing b with
 |nil=>cases i;rfl
 |cons n t _ ih=>cases i with|cons _ _ r=>rw[ih r]
open Classical in
noncomputable def rowKey (h:Heap):PyProof.Rows.KeyKind where
 α:=List Int
 blt:=rlt
 irrefl:=RG
 trans:=R5
 negTrans:=RA
 total:=Nd
 keyOf:=λv=>if e:∃r,RowAt h v r then some (Classical.choose e) else none
 dflt:=[]
open Classical in
theorem Mt (x:RowAt h v r):(rowKey h).keyOf v=some r:=by
 show (if e:∃r,RowAt h v r then some (Classical.choose e) else none)=some r;rw[dif_pos (r,x)];exact congrArg some ((Classical.choose_spec ((r,x):∃r,RowAt h v r)).inj x)
#check 4
theorem Q3:∀{us vs:List Value}{as bs:List Int}(i:Nat),IntsAre us as->IntsAre vs bs->Q (rlt as bs) s->PySem.W.KatLex prog w A true (decide (as.length<bs.length)) Q (us.zip vs) i s
 |_,_,[],[],i,.nil,.nil,h=>h
 |_,_,[],b::bs,i,.nil,.cons _ _ _,h=>by
  rw[List.zip_nil_left];refine PySem.W.kat_nil ?_;rw[Au #[4]];exact h
 |_,_,a::as,[],i,.cons _ _ _,.nil,h=>by
  rw[List.zip_nil_right];refine PySem.W.kat_nil ?_;rw[A4 #[4]];exact h
 |_,_,a::as,b::bs,i,.cons _ t x,.cons _ t' y,h=>by
  rw[IV];refine PySem.W.kat_cons<|SeqAt.EqAt.int_int a t b t' prog w _ _ ?_;rw[F6]at h;by_cases e:a=b
  ·rw[AM e]at h
   rw[show (a == b)=true by simp[e]];refine PySem.W.kat_yes ?_;have:=Q3 (Q:=Q) (i+1) x y h;rw[BI,BI,show decide (as.length+1<bs.length+1)=decide (as.length<bs.length) by simp];exact this
  ·rw[AL e]at h
   rw[show (a == b)=false by simp[e]];refine PySem.W.kat_no ?_;cases z:(true && i == 0) with
   |true=>exact oneLt_int h
   |false=>exact PySem.W.kat_one _ _ (lt_int h)
theorem Zua (j:RowAt s.heap v a) (z:RowAt s.heap u b) (h:Q (rlt a b) s):wpAny (model prog w) A (keyLt' (tuples' true) v u) Q E s:=by
 obtain⟨l,S,rfl,⟨e,O,C,n,D⟩,I⟩:=j;obtain⟨k,t,rfl,⟨f,o,c,N,d⟩,i⟩:=z;refine PySem.W.kat_lt O D o d ?_;have:=Q3 (prog:=prog) (w:=w) (A:=A) (Q:=Q) 0 I i h;rw[<- I.length,<- i.length]at this;simpa using this
theorem Zul (U:A.units<cLine) (z:RowAt s.heap v a) (J:RowAt s.heap u b) (h:Q (rlt a b) s):wpAny (model prog w) A (keyLt' oneType' v u) Q E s:=by
 obtain⟨l,S,rfl,⟨⟨p,f,j,L⟩,o,C,n,D⟩,I⟩:=z;obtain⟨k,t,rfl,⟨⟨q,g,m,e⟩,O,c,N,d⟩,i⟩:=J;simp only at C D c d;subst C D c d;rw[keyLt'_oneType,oneLt'_eq];simp only[if_true];refine AE<|wpAny_cRoomFor U ?_;refine AE<|wpAny_callSpecialIfBound?_slot (T:="tuple") (_,o,rfl) F.slot_tuple_lt<|call_meets F.slot_tuple_lt (_,o,rfl) F.entry_tuple_lt (F.args_tuple_lt_2 _ _) (HT.tuple_lt_ints l k S.toArray t.toArray n N f g L e a b (by simpa using I) (by simpa using i)) (o,O,?_);exact wpAny_truthy_bool h
theorem Zu0 (U:A.units<cLine) (z:RowAt s.heap v a) (J:RowAt s.heap u b) (h:Q (rlt a b) s):wpAny (model prog w) A (keyLt' general' v u) Q E s:=by
 obtain⟨l,S,rfl,⟨⟨m,f,T,L⟩,O,C,n,D⟩,I⟩:=z;obtain⟨k,t,rfl,⟨⟨p,g,j,e⟩,o,c,N,d⟩,i⟩:=J;simp only at C D c d;subst C D c d;refine PySem.W.kat_one _ _ ?_;exact richCompare_meets_room (op:=.Lt) (_,O,rfl) (_,o,rfl) PySem.F.slot_tuple_lt PySem.F.entry_tuple_lt (PySem.F.args_tuple_lt_2 _ _) (HT.tuple_lt_ints l k S.toArray t.toArray n N f g L e a b (by simpa using I) (by simpa using i))
  (O,o,show Value.bool (HT.lexLt a b)≠Value.notImplemented/\_ from ((λx=>nomatch x),h)) U
theorem VW (p:Paired (RowAt s.heap) vs (r::rs)) (J:r≠[]) (j:[]∈rs) (h:Q general' s):wpAny (model prog w) A (keyKind' vs.toArray) Q E s:=by
 rw[keyKind'_eq,L0,map_eq_pure_bind];refine AE<|AE (Mc vs _ p λS F=>AO ?_);cases F with
 |@cons f _ S _ hf pt=>
  obtain⟨x,t,l,e,rfl⟩:=hf.resolve_left λz=>J z.1;have o:none∈S:=by
   clear p h hf
   induction pt with
   |nil=>cases j
   |@cons f r' S rs q t' ih=>
    rcases Az.mp j with z|z
    ·subst z
     rcases q with ⟨_,y⟩|⟨_,_,_,y,_⟩
     ·subst y;exact Bk
     ·cases y
    ·exact Bs _<|ih z
  have:((some (Value.int x t)::S).toArray.all λx=>x.isSome)=false:=by
   rw[List.all_toArray,FR];intro z;rw[DW]at z;have:=z none<|Bs _ o;cases this
  rw[this,AL #[4],AM #[4]];exact AO h
end
def keyD (κ:PyProof.Rows.KeyKind) (v:Value):κ.α:=(κ.keyOf v).getD κ.dflt
def Sortd (κ:PyProof.Rows.KeyKind) (out:List Value):Prop:=out.Pairwise λa b=>κ.kle (keyD κ a)<|keyD κ b
theorem twins {vs:List Value}{xs:Array Keyed}(j:xs.Perm (vs.toArray.zip vs.toArray)):∀p∈xs.toList,p.1=p.2/\p.1∈vs:=λp m=>by
 have h:p∈(vs.toArray.zip vs.toArray).toList:=(Array.perm_iff_toList_perm.mp j).mem_iff.mp m;rw[Array.toList_zip]at h;have h:p∈vs.zip vs:=h;obtain⟨i,I⟩:=ER.mp h;rw[IG]at I;exact(CF.inj<|I.1.symm.trans I.2,Bd I.1)
theorem Zvt (J:xs.Perm (vs.toArray.zip vs.toArray)) (L:SortedToK κ xs (vs.toArray.zip vs.toArray).size):(xs.map (·.2)).toList.Perm vs/\Sortd κ (xs.map (·.2)).toList:=by
 have z:=J.size_eq;refine(?_,?_)
 ·rw[Array.toList_map]
  have:=(Array.perm_iff_toList_perm.mp J).map (·.2);rw[Array.toList_zip]at this;refine this.trans ?_;rw[show (vs.toArray.toList.zip vs.toArray.toList)=vs.zip vs from rfl,J4 (AX _)]
 ·unfold Sortd
  rw[FL];intro i j hi hj hij;rw[Array.length_toList,Array.size_map]at hi hj;have y:∀k (h:k<xs.size),KK κ xs k=keyD κ (xs.map (·.2)).toList[k]!:=λk h=>by
   unfold KK keyD;have e:xs[k]?=some xs[k]:=getElem?_pos xs k h;rw[e];have E:(xs.map (·.2)).toList[k]! = xs[k].2:=by simp[h]
   rw[E,<- (twins J xs[k] #[4]).1]
  have:=L i j (CM hij) #[2];rw[y i hi,y j hj]at this;simpa [hi,hj] using this
#check 4
theorem Ub (ho:s.heap.get? a=some (seqObj "list" vs.toArray n)) (hz:vs.length<64)
  (hk:2<=vs.length->∀h',KeepBut a s.heap h' -> ∀Q:SortKind->Shared->Prop,Q kd { s with heap:=h' } -> wpAny (model prog w) A (keyKind' vs.toArray) Q E { s with heap:=h' })
  (hc:∀h',KeepBut a s.heap h' -> ∀x∈vs,∀y∈vs,∀(E:Ai) (Q:Bool->Shared->Prop),Q (κ.blt (keyD κ x)<|keyD κ y) { s with heap:=h' } -> wpAny (model prog w) A (keyLt' kd x y) Q E { s with heap:=h' })
  (h:∀out:List Value,out.Perm vs->Sortd κ out->P (.done (.ret .none)) { s with heap:=sortedHeap s.heap a vs out.toArray }):wpAny (model prog w) A (Builtin.«list.sort» ([.ref a],[])) P E s:=by
 rw[list_sort_plain];have ha:a<s.heap.objs.size:=Ax ho;have hsz:vs.toArray.size=vs.length:=#[4]
 have hline:vs.length<=sizeLine:=by rw[sizeLine_eq];lia
 refine AE<|listItems_at ho rfl ?_;refine AE<|listUpdate_at ho rfl ?_ (by rw[hsz];exact hline)<|CS _;obtain⟨e1,ho1⟩:∃e1,(s.heap.update a (Obj.mapSeq λ_=>#[])).get? a=some (seqObj "list" #[] e1):=(_,get?_update_seq ho λ_=>#[]);refine AE<|seqEpoch_at ho1 rfl ?_;refine AE<|wpAny_newTuple ?_ hline;refine AE<|wpAny_newList ?_<|CS _;refine Cv ?_;have ho6:(((s.heap.update a (Obj.mapSeq λ_=>#[])).push (seqObj "tuple" vs.toArray 0)).push (seqObj "list" #[] 0)).get? a=some (seqObj "list" #[] e1):=by
  rw[J2 _ _ _ (by rw[size_push',J6];exact BF<|D0 ha),J2 _ _ _ (by rw[J6];exact BF ha)];exact ho1
 have keep:KeepBut a s.heap (((s.heap.update a (Obj.mapSeq λ_=>#[])).push (seqObj "tuple" vs.toArray 0)).push (seqObj "list" #[] 0)):=λb o hb q=>
  BA _ (BA _ ((Heap.get?_update_ne _ _ _ _ hb).trans q))
 show wpAny (model prog w) A _ P E { s with heap:=((s.heap.update a (Obj.mapSeq λ_=>#[])).push (seqObj "tuple" vs.toArray 0)).push (seqObj "list" #[] 0) };dsimp only;have zsz:(vs.toArray.zip vs.toArray).size=vs.length:=by rw[Array.size_zip,hsz,Nat.min_self]
 by_cases h2:vs.toArray.size<2
 ·have out:((vs.toArray.zip vs.toArray).map (·.2))=vs.toArray:=by
   apply Array.toList_inj.mp;rw[Array.toList_map,Array.toList_zip];exact J4<|AX _
  rw[AM h2,AM h2];refine AE<|AO ?_;rw[StateT.run_pure];refine AE<|AO ?_;dsimp only;refine AE<|seqEpoch_at ho6 rfl ?_;rw[show arrOf (SortSt.mk' general' (vs.toArray.zip vs.toArray) #[] 7 none)=vs.toArray.zip vs.toArray from rfl,out];refine AE<|listUpdate_at ho6 rfl ?_ (CS _) (by rw[hsz];exact Nat.le_succ_of_le hline);simp only[bne_self_eq_false,CD,if_false];refine AO<|h vs (List.Perm.refl _) ?_;unfold Sortd
  match vs,h2 with
  |[],_=>exact .nil
  |[_],_=>exact Jt _ _
  |_::_::_,z=>simp at z;lia
 ·rw[AL h2,AL h2]
  refine AE<|hk #[2] _ keep _ ?_;have O:Fc prog w A E { s with heap:=((s.heap.update a (Obj.mapSeq λ_=>#[])).push (seqObj "tuple" vs.toArray 0)).push (seqObj "list" #[] 0) } κ kd (vs.toArray.zip vs.toArray):=λt g i j hi hj Q hq=>by
   have at':∀k,k<(vs.toArray.zip vs.toArray).size->∃p,(arrOf t)[k]?=some p/\p.1∈vs/\KK κ (arrOf t) k=keyD κ p.1:=λk hk=>by
    have hk':k<(arrOf t).size:=by rw[g.sz];exact hk
    have e:(arrOf t)[k]?=some (arrOf t)[k]:=getElem?_pos _ k hk';refine(_,e,(twins g.pm (arrOf t)[k] #[4]).2,?_);unfold KK keyD;rw[e]
   obtain⟨p,p1,p2,p3⟩:=at' i hi;obtain⟨q,q1,q2,q3⟩:=at' j hj;rw[p3,q3]at hq;rw[ltAt'_eq];refine wpS_bind<|wpS_get ?_;show wpS _ _ _ _ (do let x <- elem' (arrOf t) i;let y <- elem' (arrOf t) j;lt' x y) Q _;rw[elem'_eq,elem'_eq,p1,q1];refine wpS_bind<|wpS_pure<|wpS_bind<|wpS_pure ?_;rw[lt'_eq];refine wpS_bind<|wpS_get ?_;rw[g.kd];refine wpS_bind<|wpS_lift<|GA<|hc _ keep p.1 p2 q.1 q2 _ _ (rfl,?_);exact wpS_pure hq
  refine AE (EN (Zzw (t:=SortSt.mk' kd (vs.toArray.zip vs.toArray) #[] 7 none) O (Q:=λ_ u=>(arrOf u).Perm (vs.toArray.zip vs.toArray)/\failedOf u=none/\SortedToK κ (arrOf u) (vs.toArray.zip vs.toArray).size) (Array.Perm.refl _,rfl,rfl,rfl) (by rw[zsz];omega) (by rw[zsz];exact hz) λu u1 u2 u3=>(u1,u2,u3)) ?_ λ_ _ e=>e);rintro⟨⟨⟩,u⟩ s' ⟨rfl,hp,hf,hs⟩;dsimp only;obtain⟨o1,o2⟩:=Zvt hp hs;have hfin:=h _ o1 o2;rw[Array.toArray_toList]at hfin;refine AE<|seqEpoch_at ho6 rfl ?_;refine AE<|listUpdate_at ho6 rfl ?_ (CS _) (by rw[Array.size_map,hp.size_eq,zsz];exact Nat.le_succ_of_le hline);rw[hf];simp only[bne_self_eq_false,CD,if_false];exact AO hfin
theorem Mg (hl:HsB b s.heap l vs.toArray) (hz:vs.length<64)
  (hk:2<=vs.length->∀h',(∀b o,s.heap.get? b=some o->h'.get? b=some o)->∀(E:Ai) (Q:SortKind->Shared->Prop),Q kd { s with heap:=h' } -> wpAny (model prog w) A.in1.in1 (keyKind' vs.toArray) Q E { s with heap:=h' })
  (hc:∀h',(∀b o,s.heap.get? b=some o->h'.get? b=some o)->∀x∈vs,∀y∈vs,∀(E:Ai) (Q:Bool->Shared->Prop),Q (κ.blt (keyD κ x)<|keyD κ y) { s with heap:=h' } -> wpAny (model prog w) A.in1.in1 (keyLt' kd x y) Q E { s with heap:=h' })
  (h:∀out:List Value,out.Perm vs->Sortd κ out->Q (.ref<|s.heap.objs.size+1) { s with heap:=sortedAll s.heap vs out.toArray }):wpAny (model prog w) A (call (.builtin "sorted") [.ref l]) Q E s:=by
 have e:vs.length<=sizeLine:=by rw[sizeLine_eq];omega
 refine Calls.call_function_entry kind_sorted plain_sorted entry_sorted (args_sorted1 _) ?_;unfold Builtin.«sorted»;refine AE (m:=checkCount "sorted" 1 1 _)<|AO ?_;refine AE (show wpAny (model prog w) A.in1 (collect (.ref l)) _ _ s from ?_);have g:∀{Q':List Value->Shared->Prop}{E':Ai},Q' vs { s with heap:=(s.heap.push<|seqObj "list" #[] 0).update s.heap.objs.size (Obj.mapSeq (· ++ vs.toArray)) } -> wpAny (model prog w) A.in1 (collect (.ref l)) Q' E' s:=λ{Q' E'} q=>by
  cases b with
  |true=>exact Oy hl q e
  |false=>exact collect_list hl q e
 refine g ?_;refine AE<|wpAny_newList ?_ e;have z:((s.heap.push<|seqObj "list" #[] 0).update s.heap.objs.size (Obj.mapSeq (· ++ vs.toArray))).objs.size=s.heap.objs.size+1:=by
  rw[J6,size_push']
 have L:(((s.heap.push<|seqObj "list" #[] 0).update s.heap.objs.size (Obj.mapSeq (· ++ vs.toArray))).push (seqObj "list" vs.toArray 0)).get? (s.heap.objs.size+1)=some (seqObj "list" vs.toArray 0):=by
  rw[<- z];exact Bl _ rfl
 have p:∀b o,s.heap.get? b=some o->(((s.heap.push<|seqObj "list" #[] 0).update s.heap.objs.size (Obj.mapSeq (· ++ vs.toArray))).push (seqObj "list" vs.toArray 0)).get? b=some o:=λb o q=>by
  have t:b<s.heap.objs.size:=Ax q;rw[J2 _ _ _ (by rw[z];exact BF<|D0 t),Heap.get?_update_ne _ _ _ _ (BF t),J2 _ _ _ (BF t)];exact q
 have u:∀h',KeepBut (s.heap.objs.size+1) (((s.heap.push<|seqObj "list" #[] 0).update s.heap.objs.size (Obj.mapSeq (· ++ vs.toArray))).push (seqObj "list" vs.toArray 0)) h' -> ∀b o,s.heap.get? b=some o->h'.get? b=some o:=λh' k b o q=>
  k b o (BF<|D0<|Ax q) (p b o q)
 show wpAny _ _ _ _ _ { s with heap:=((s.heap.push<|seqObj "list" #[] 0).update s.heap.objs.size (Obj.mapSeq (· ++ vs.toArray))).push (seqObj "list" vs.toArray 0) };rw[z];refine AE<|Cv<|wpAny_call_entry slot_list_sort (_,L,rfl) entry_list_sort (Ub (kd:=kd) (κ:=κ) L hz (λH h' k Q q=>hk H h' (u h' k) _ Q q) (λh' k x X y Y E Q q=>hc h' (u h' k) x X y Y E Q q) λout O a=>(_,rfl,?_))<|args_list_sort _;exact AO (_,rfl,h out O a)
end
#check 0
def SqU (K:W.Frag) (H:Hp) (p:Addr) (us:List V):Prop:=SqL K H p us\/SqT K H p us
def IsRows (K:W.Frag) (H:Hp) (us:List V) (j:Ay):Prop:=Paired (λ(u:V) (r:List Int)=>∃a,u=.ref a/\SqT K H a (r.map V.int)) us j
def rSortG (K:W.Frag):List V->Hp->VK->Prop:=λs H Q=>∃p us rs,s=[.ref p]/\SqU K H p us/\us.length<64/\IsRows K H us rs /\
 ∀(l:Addr) (ps:List (V × List Int)),ps.Perm (us.zip rs)->(ps.map (·.2)).Pairwise (λa b=>rlt b a=false)->H l=none->Q (.ref l) (upd H l (.lst<|ps.map (·.1)))
theorem Paired.mem:∀{vs:List Value}{rs:Ay},Paired R vs rs->∀v∈vs,∃r∈rs,R v r
 |_,_,.nil,v,h=>by cases h
 |_,_,.cons p t,v,h=>by
  rcases Az.mp h with e|e
  ·subst e;exact(_,Bk,p)
  ·obtain⟨r,H,a⟩:=Paired.mem t v e
   exact(r,Bs _ H,a)
theorem Vz (j:Vals us its) (z:Paired R us rs) (ho:out.Perm its):∃ps:List (V × List Int),Vals (ps.map (·.1)) out/\Paired R (ps.map (·.1)) (ps.map (·.2))/\ps.Perm (us.zip rs):=by
 suffices key:∀{out its:List Value},out.Perm its->∀ps:List (V × List Int),Vals (ps.map (·.1)) its->Paired R (ps.map (·.1)) (ps.map (·.2))->∃s:List (V × List Int),Vals (s.map (·.1)) out/\Paired R (s.map (·.1)) (s.map (·.2))/\s.Perm ps by
  have L:us.length=rs.length:=by
   clear key j ho
   induction z with
   |nil=>rfl
   |cons _ _ ih=>rw[BI,BI,ih]
  refine key ho (us.zip rs) ?_ ?_
  ·rw[List.map_fst_zip #[2]];exact j
  ·rw[List.map_fst_zip #[3],J4 #[2]];exact z
 intro out its ho
 induction ho with
 |nil=>
  intro ps j z;cases ps with
  |nil=>exact([],.nil,.nil,.refl _)
  |cons _ _=>cases j
 |cons x h ih=>
  intro ps j z;cases ps with
  |nil=>cases j
  |cons a ps=>
   cases j with
   |cons r t=>
    cases z with
    |cons p q=>
     obtain⟨s,A,c,d⟩:=ih ps t q;exact(a::s,.cons r A,.cons p c,d.cons _)
 |swap x y l=>
  intro ps j z;cases ps with
  |nil=>cases j
  |cons a ps=>
   cases ps with
   |nil=>cases j with|cons _ t=>cases t
   |cons b ps=>
    cases j with
    |cons r t=>
     cases t with
     |cons r2 t=>
      cases z with
      |cons p q=>
       cases q with
       |cons p2 q=>exact(b::a::ps,.cons r2 (.cons r t),.cons p2 (.cons p q),.swap _ _ _)
 |trans h1 h2 ih1 ih2=>
  intro ps j z;obtain⟨s,A,c,d⟩:=ih2 ps j z;obtain⟨S,B,e,f⟩:=ih1 s A c;exact(S,B,e,f.trans d)
theorem Paired.get2:∀{vs:List Value}{rs:Ay}{i:Nat}{r:List Int},Paired R vs rs->rs[i]?=some r->∃v,vs[i]?=some v/\R v r
 |_,_,_,_,.nil,h=>by simp at h
 |_,_,0,_,.cons p _,h=>by simp at h;subst h;exact(_,rfl,p)
 |_,_,i+1,r,.cons _ t,h=>by
  obtain⟨v,H,a⟩:=Paired.get2 (i:=i) (r:=r) t #[8];exact(v,by simpa using H,a)
theorem sortGK (K:W.Frag) (hu:X.A.units+8<cLine) (hK:X.K=K:=by rfl):CallR X (.builtin "sorted") (rSortG K):=by
 subst hK;intro pins s Z H xs us Q I r h;obtain⟨p,ys,D,rfl,g,hl,hp,q⟩:=h;obtain⟨u,rfl,ru⟩:=vals1 r;cases (show u=Value.ref p from ru);obtain⟨b,g⟩:∃b,SqB b X.K H p ys:=by
  rcases g with z|z
  ·exact(false,z)
  ·exact(true,z)
 obtain⟨S,M,G⟩:=I.seqB g;have R:=Nj I M hp;have V:=M.length;have L:=Paired.len R;have U:X.A.in1.in1.units<cLine:=EA (by show X.A.units+1+1<=X.A.units+8;lia) hu;have N:∀t:List Value,t.Perm S->Sortd (rowKey s.heap) t->EP X pins Z Q (.ref<|s.heap.objs.size+1) { s with heap:=sortedAll s.heap S t.toArray }:=λt o1 o2=>by
  obtain⟨J,l,n,a3⟩:=Vz M hp o1;have P:=Nj I l n;obtain⟨e,F⟩:=sortedAll_at s.heap S t.toArray;have hs:(J.map (·.2)).Pairwise (λa b=>rlt b a=false):=by
   rw[FL];intro i j hi hj hij;obtain⟨v,v1,v2⟩:=Paired.get2 P<|AS hi;obtain⟨u,u1,u2⟩:=Paired.get2 P<|AS hj;obtain⟨g1,g2⟩:=BZ.mp v1;obtain⟨g3,g4⟩:=BZ.mp u1;have:=(FL.mp o2) i j g1 g3 hij;rw[g2,g4]at this;unfold keyD at this;rw[Mt v2,Mt u2]at this;exact this
  have a0:=l.length;have a4:=o1.length_eq;refine⟨.ref<|s.heap.objs.size+1,_,I.laid (t':=s.toks) (λ_ _ z=>sortedAll_old z) (D2 _) (show ObjOk X.prog X.w _ _ _ (.lst<|J.map (·.1)) from (CM (small1000 #[2]),t,e,l,F)),rfl,q _ J a3 hs<|I.hok.fresh<|D2 _⟩
 have m:∀d,(∀b o,s.heap.get? b=some o->d.get? b=some o)->∀x∈S,∃a,RowAt d x a/\keyD (rowKey s.heap) x=a:=λd k x g=>by
  obtain⟨a,_,T⟩:=Paired.mem R x g;refine(a,T.keep k,?_);unfold keyD;rw[Mt T];rfl
 by_cases hne:∀r∈D,r≠[]
 ·refine Mg (b:=b) (kd:=tuples' true) (κ:=rowKey s.heap) G #[2] (λO d k E Q f=>?_) (λd k x g y Y E Q f=>?_) N
  ·exact VH (s:={ s with heap:=d }) (Paired.up (λv r z=>z.keep k) R) hne (by intro z;subst z;rw[EV]at L;lia) f
  ·obtain⟨a,l,n⟩:=m d k x g
   obtain⟨c,C,B⟩:=m d k y Y;rw[n,B]at f;exact Zua (s:={ s with heap:=d }) l C f
 ·cases D with
  |nil=>exact absurd (λr h=>nomatch h) hne
  |cons r0 D=>
   by_cases h0:r0=[]
   ·subst h0
    refine Mg (b:=b) (kd:=oneType') (κ:=rowKey s.heap) G #[2] (λO d k E Q f=>?_) (λd k x g y Y E Q f=>?_) N
    ·exact Vr (s:={ s with heap:=d }) (Paired.up (λv r z=>z.keep k) R) f
    ·obtain⟨a,l,n⟩:=m d k x g
     obtain⟨c,C,B⟩:=m d k y Y;rw[n,B]at f;exact Zul (s:={ s with heap:=d }) U l C f
   ·have F:[]∈D:=by
     apply Classical.byContradiction;intro z;refine hne λr hr e=>?_;subst e;rcases Az.mp hr with y|y
     ·exact h0 y.symm
     ·exact z y
    refine Mg (b:=b) (kd:=general') (κ:=rowKey s.heap) G #[2] (λO d k E Q f=>?_) (λd k x g y Y E Q f=>?_) N
    ·exact VW (s:={ s with heap:=d }) (Paired.up (λv r z=>z.keep k) R) h0 F f
    ·obtain⟨a,l,n⟩:=m d k x g
     obtain⟨c,C,B⟩:=m d k y Y;rw[n,B]at f;exact Zu0 (s:={ s with heap:=d }) U l C f
end
#check 1
theorem Qq:∀{us:List V}{ds:List D},Reps K G us ds->∀p∈us.zip ds,Ap K G p.1 p.2
 |_,_,.nil,p,h=>by cases h
 |_,_,.cons r t,p,h=>by
  rcases Az.mp h with e|e
  ·subst e;exact r
  ·exact Qq t p e
theorem PN:∀ps:List (V × List Int),(∀p∈ps,Ap K G p.1 (rowD p.2))->Reps K G (ps.map (·.1)) ((ps.map (·.2)).map rowD)
 |[],_=>.nil
 |p::ps,h=>.cons (h p Bk) (PN ps λq Q=>h q (Bs _ Q))
theorem QQ (h:JA K ta M λds M1=>∃rs:Ay,(ds=[.lst (rs.map rowD)]\/ds=[.tup (rs.map rowD)])/\rs.length<64/\∀ms:Ay,ms.Perm rs->ms.Pairwise (λa b=>rlt b a=false)->Po (.lst<|ms.map rowD) M1):JO K (tCB (rSortG K) ta) M Po:=λg G H Z Q k c=>
 h g G H Z _ k λV ds d m M1 f z j q=>by
  obtain⟨rs,e,L,p⟩:=q;obtain⟨a,u,E,S,R⟩:∃a u,V=[.ref a]/\SqU K m a u/\Reps K d u (rs.map rowD):=by
   rcases e with e|e <;> subst e
   ·obtain⟨_,_,rfl,r,t⟩:=j.inv
    next=>cases t.inv;cases r with|lst ha' R=>exact(_,_,rfl,.inl<|SqL.of<|f.live _ _ ha',R)
   ·obtain⟨_,_,rfl,r,t⟩:=j.inv
    next=>cases t.inv;cases r with|tup ha' R=>exact(_,_,rfl,.inr<|SqT.of<|f.live _ _ ha',R)
  subst E;have n:=R.length;rw[AH]at n;refine(a,u,rs,rfl,S,#[2],Qv f.live R,λl s A o L=>?_);have x:Reps K d (s.map (·.1)) ((s.map (·.2)).map rowD):=PN s λp w=>by
   have v:=A.mem_iff.mp w;refine Qq R (p.1,rowD p.2) ?_;obtain⟨i,I⟩:=ER.mp v;rw[IG]at I;refine ER.mpr (i,?_);rw[IG,Ad,I.2];exact(I.1,rfl)
  have P:(s.map (·.2)).Perm rs:=by
   have:=A.map (·.2);rw[J4 #[2]]at this;exact this
  obtain⟨y,D⟩:=f.fresh (od:=.lst ((s.map (·.2)).map rowD)) L (show OwnRep K d (.lst<|s.map (·.1)) (.lst ((s.map (·.2)).map rowD)) from x);exact c l _ d _ M1 y z D<|p _ P o
end
abbrev TB:=St->Hp->(St->Hp->Prop)->Prop
def LoopR (g:TG) (tb:TB) (R:St->Hp->Prop) (j:St):It->Hp->Prop:=λJ h=>∃W:Nat->Nat->St->Hp->Prop,(∃m,W 0 m j h)/\∀i m Z H,W i m Z H ->
 (J.stop i H/\R Z H)\/(J.go i H/\∃N:St->Hp->Prop,(∀Z' H',N Z' H' -> ∃m',m'<m/\W (i+1) m' Z' H')/\∀x H',J.yld i H x H' -> g x Z H' λz a=>tb z a N)
def tLoop (j:TI) (g:TG) (tb:TB):TB:=λZ H R=>j Z H<|LoopR g tb R Z
def PB (Y:Cx) (O:Sem Unit) (tb:TB):Prop:=∀(pins:Ar) (s:Shared) (Z:St) (H:Hp) (N:St->Hp->Prop),AJ Y pins Z H s->tb Z H N ->
 wpAny (model Y.prog Y.w) Y.A O (λ_ S=>∃Z' H',AJ Y pins Z' H' S /\ N Z' H') (λ_ _=>False) s
def PBT (Y:Cx) (rest:Sem Fin) (c:Code) (tb:TB):Prop:=∀(pins:Ar) (s:Shared) (Z:St) (H:Hp) (N:St->Hp->Prop),AJ Y pins Z H s->tb Z H N ->
 wpAny (model Y.prog Y.w) Y.A rest (λf S=>f=.again c/\∃Z' H',AJ Y pins Z' H' S /\ N Z' H') (λ_ _=>False) s
theorem PB.rest (h:PB Y body tb):PBT Y (do body;again c) c tb:=λpins s Z H N I q=>
 AE (thn (h pins s Z H N I q) λ_ s' z=>AO (rfl,z))
structure Plain (e:Expr):Prop where
 tu:∀(P:Program) (w:World) (A:Around) (d:Nat) (it acc:Value) (env:Env),A.under (.compLoop e d it acc env)=A/\(model P w).den (.compLoop e d it acc env)=(compTurn e d it acc env).onRaise (λx=>do noteFrame x env;theTreesLotGoes x)
 su:∀(P:Program) (w:World) (A:Around) (d:Nat) (it acc:Value) (env:Env),A.under (.compStart e d it acc env)=A/\(model P w).den (.compStart e d it acc env)=(compStart e d it acc env).onRaise (λx=>do noteFrame x env;standAt theWindowsPlace)
theorem Km (L:Expr) (j:List Comprehension) (z:Scope) (pos:Pos):Plain (.ListComp L j z pos):=(λ_ _ _ _ _ _ _=>(rfl,rfl),λ_ _ _ _ _ _ _=>(rfl,rfl))
theorem PK (k v:Expr) (j:List Comprehension) (z:Scope) (pos:Pos):Plain (.DictComp k v j z pos):=(λ_ _ _ _ _ _ _=>(rfl,rfl),λ_ _ _ _ _ _ _=>(rfl,rfl))
theorem P4 {Y:Cx}{e tg:Expr}{d:Nat}{p:Pos}{acc:Value}{rest:Value->Sem Fin}{g:TG}{tb:TB}(hpl:Plain e) (hc:Y.calm=true) (hx:Y.xe=λ_ _=>False)
  (hct:∀it,compTurn e d it acc Y.env=(do
   standAt p
   match <- pyNext it with
   |none=>pure (.done .next)
   |some v=>
    letOwnedTupleGo tg it v
    assign tg Y.env v
    rest it))
  (hg:PG Y tg g) (hb:∀it,PBT Y (rest it) (.compLoop e d it acc Y.env) tb) {pins:Ar}{Z:St}{s:Shared}{itv:Value}{R:St->Hp->Prop}(h:PIE Y pins Z tg (LoopR g tb R Z) itv s) :
  codeAny (model Y.prog Y.w) Y.A (.compLoop e d itv acc Y.env) (λr s'=>r=.ok .next/\∃Z' H',AJ Y pins Z' H' s' /\ R Z' H') s:=by
 obtain⟨it,fp,tn,J,H2,e0,I2,T,st2,f2,W,⟨m0,w0⟩,turn⟩:=h;subst e0;have stat:∀{H':Hp},(∀b∈fp,H' b=none)->∀b∈fp,FpOk Y pins H' b:=λhn b hb=>(hn b hb,(f2 b hb).2);refine codeAny_loop rfl (λn s'=>∃i Z' H',AJ Y pins Z' H' s' /\ tn i s'.heap/\(∀b∈fp,H' b=none)/\W i n Z' H') ?_ m0 (0,Z,H2,I2,st2,λb hb=>(f2 b hb).1,w0);rintro n s3 ⟨i,Z3,H3,I3,st3,fr3,w3⟩;obtain⟨z1,z2⟩:=hpl.tu Y.prog Y.w Y.A d (.ref it) acc Y.env;rw[z1,z2];refine wpAny_noted (EN (E:=λ_ _=>False) ?_ (λ_ _ q=>q) λ_ _ z=>z.elim);rw[hct];refine AE<|Ei<|AE ?_;rcases turn i n Z3 H3 w3 with ⟨stop,qn⟩|⟨go,N,hN,step⟩
 ·refine thn (T.done Y rfl rfl rfl hc i pins s3 Z3 H3 (λ_ _=>False) I3 (stat fr3) st3 stop) λr s4 (hr,I4)=>?_
  subst hr;exact AO (rfl,Z3,H3,I4,qn)
 ·refine thn (T.item Y rfl rfl rfl hc i pins s3 Z3 H3 (λ_ _=>False) I3 (stat fr3) st3 go) λr s4 (u,hr,h4)=>?_
  subst hr;refine AE (thn h4 λ_ s5 (x,H5,I5,r5,y5,st5,fr5)=>?_);have I5':=I5.pinned (stat fr5)<|T.obj _ _ st5;have G1:=hg _ s5 Z3 H5 x u _ I5' r5<|step x H5 y5;rw[hx]at G1;refine AE (thn G1 λ_ s6 (Z6,H6,I6,q6)=>?_);refine thn (hb _ _ s6 Z6 H6 N I6 q6) λfn s7 (hfn,Z7,H7,I7,n7)=>?_;subst hfn;refine(rfl,?_);obtain⟨m',hm,w7⟩:=hN Z7 H7 n7;refine(m',hm,i+1,Z7,H7,I7.unpinned,T.keep _ _ _ st5 λb hb o e=>(I7.pin (b,o)<|Bx _<|Bx _<|Fv hb e).1,λb hb=>?_,w7);obtain⟨o,e,_⟩:=T.obj _ _ st5 b hb;exact(I7.pin (b,o)<|Bx _<|Bx _<|Fv hb e).2.1
theorem O9 (j:Plain e) (L:(clausesOf e)[d]?=some (tg,it0,ifs,0))
  (h:PIE Y pins Z tg RR itv s) (h0:codeAny (model Y.prog Y.w) Y.A (.compLoop e d itv acc Y.env) R s):codeAny (model Y.prog Y.w) Y.A (.compStart e d itv acc Y.env) R s:=by
 obtain⟨i,p,n,J,H,E,I,T,t,f,_⟩:=h;subst E;refine codeAny_of_tree ?_;obtain⟨z,a⟩:=j.su Y.prog Y.w Y.A d (.ref i) acc Y.env;rw[z,a];refine wpAny_notedAt ?_;unfold compStart;rw[L];show wpAny _ _ (ask >>= _) _ _ s;refine AE<|wpAny_askSetting<|wpAny_ite ?_;split
 ·first
   |exact AE (AO (AO (And.intro rfl h0)))
   |exact AO (And.intro rfl h0)
 ·refine AE (EO ?_)
  show wpAny _ _ (standAt it0.pos >>= _) _ _ s;exact AE<|Ei<|AE<|T.self _ 0 _ _ _ t<|AO<|And.intro rfl h0
theorem NU {Y:Cx}{e tg it2:Expr}{acc:Value}{wi:TI}{g:TG}{tb:TB}{rest:Value->Sem Fin}{c:Code}(hpl:Plain e) (hc:Y.calm=true) (hx:Y.xe=λ_ _=>False) (hcl:(clausesOf e)[1]?=some (tg,it2,[],0))
  (hct:∀it,compTurn e 1 it acc Y.env=(do
   standAt it2.pos
   match <- pyNext it with
   |none=>pure (.done .next)
   |some v=>
    letOwnedTupleGo tg it v
    assign tg Y.env v
    rest it))
  (hi:PI Y tg it2 wi) (hg:PG Y tg g) (hb:∀it,PBT Y (rest it) (.compLoop e 1 it acc Y.env) tb) (hs:∀x,foldedSetIterable it2 Y.env x=pure x) :
  PBT Y (do
   let x <- eval it2 Y.env
   standAt it2.pos
   let x <- foldedSetIterable it2 Y.env x
   let _ <- runOwn (.compStart e 1 (<- holding [x] (pyIter x)) acc Y.env) Y.env
   again c) c (tLoop wi g tb):=λpins s Z H N I h=>by
 have h1:=hi pins s Z H _ I h;rw[hx]at h1;refine AE (thn h1 λv s1 h2=>AE<|Ei<|AE<|wpAny_of_eq (hs v)<|AE<|Cv (thn h2 λitv s2 h3=>?_));refine AE<|wpAny_runOwn ?_;refine codeAny_mono (O9 hpl hcl h3<|P4 hpl hc hx hct hg hb h3) λr s' (hr,q)=>?_;subst hr;exact AO (rfl,q)
#check 0
def tPutK (tk j:TE) (D:Addr):TB:=λZ H N=>tk Z H λx a=>j Z a λy h=>∃kvs k,x=kV k/\h D=some (.dK kvs)/\kvs.length<sizeLine/\N Z (upd h D (.dK<|putK kvs k y))
def tComp2 (n:Nat) (sel:List Nat) (j:TI) (L:TG) (z:TI) (O:TG) (ho:HO) (tem:Addr->TB):TE:=λZ H Q=>j Z H λJ h=>∀acc,h acc=none->LoopR L (tLoop z O<|tem acc) (λ_ a=>Q (.ref acc) a) (compSt n sel Z) J (upd h acc ho)
theorem Ui (k v gens scope pos) (env:Env):eval (.DictComp k v gens scope pos) env=comprehension (.DictComp k v gens scope pos) scope env (firstIterPos gens pos) newDict (firstAsync gens) (firstIter gens env):=by rfl
theorem Sk {Y:Cx}{kx vx:Expr}{tk tv:TE}{p:Pos}(hx:Y.xe=λ_ _=>False) (hk:PE Y kx tk) (hv:PE Y vx tv) (D:Addr):PB Y (do
   let kv <- eval kx Y.env
   let vv <- holding [kv] (eval vx Y.env)
   standAt p
   holding [kv,vv] (dictSet D kv vv)) (tPutK tk tv D):=λpins s Z H N I h=>by
 have h1:=hk pins s Z H _ I h;rw[hx]at h1;refine AE (thn h1 λu s1 (x,H1,I1,rx,h2)=>?_);have h3:=hv pins s1 Z H1 _ I1 h2;rw[hx]at h3;refine AE<|Cv (thn h3 λr s2 (y,H2,I2,ry,kvs,k,ex,hD,hl,hN)=>AE<|Ei<|Cv ?_);subst ex;obtain⟨z,hd,vs,rel,dd⟩:=N9 I2.hok hD;have hz:vs.length<=sizeLine:=by rw[<- rel.length];exact z
 have hl':(putK kvs k y).length<=sizeLine:=by have:=Mf kvs k y;lia
 refine wpAny_dictSet_pairs (hsz:=hz) (Gr rx) dd λh' dd' hs=>(Z,_,?_,hN);have he:∃q,h'.get? D=some q:=let ⟨q,_,_,hq,_⟩:=dd'; (q,hq)
 exact LP I2 (by rw[hD];exact True.intro) hs he<|R6 hl' hd (rel.put k ry) dd'
end
#check 1
def KD (K:W.Frag) (G:Hp):List (AV × V)->List (AV × D)->Prop:=Paired λ(p:AV × V) (q:AV × D)=>p.1=q.1/\Ap K G p.2 q.2
theorem KD.mono (s:Same G G') (h:KD K G vs ds):KD K G' vs ds:=Paired.mapP h λ_ _ z=>(z.1,z.2.mono s)
theorem KD.len (h:KD K G vs ds):vs.length=ds.length:=Paired.length h
def gIn (G H:Hp) (acc:Addr) (vs:List (AV × V)):Gm:=(λ_=>False,G,H,λb=>if b=acc then some (.dK vs) else none)
theorem Nr (k:Ok K (gIn G H acc vs) G' H' Z M):H' acc=some (.dK vs)/\G' acc=none/\∀(i:Nat) x od,M[i]?=some x->x.od=some od -> Z[i]?≠some (some (.ref acc)):=
 k.ext acc (.dK vs) (by show (if acc=acc then _ else _)=_;rw[AM rfl])
theorem Zze (J:H acc=none) (k:Ok K (gIn G H acc vs) G' H' Z M):Ok K (gIn G H acc vs') G' (upd H' acc (.dK vs')) Z M:=by
 obtain⟨m,w,W⟩:=Nr k;have ne:∀{b:Addr}{o:HO},G' b=some o->b≠acc:=λ{b o} e z=>by subst z;rw[w]at e;cases e
 refine(λb o h e=>?_,λb h=>h.elim,k.sub,λb o e=>?_,λb o e=>?_,k.len,k.val,λi x D E c=>?_,k.dis)
 ·have B:b≠acc:=by intro z;subst z;have e:H b=some o:=e;rw[J]at e;cases e
  rw[As B];exact k.same b o (λz=>z) e
 ·rw[As (ne e)];exact k.frz b o e
 ·have e:(if b=acc then some (HO.dK vs') else none)=some o:=e
  by_cases h:b=acc
  ·rw[AM h]at e;cases e;subst h
   exact(Bh,w,W)
  ·rw[AL h]at e;cases e
 ·obtain⟨a,o,d,f,g,j,l⟩:=k.own i x D E c
  have h:a≠acc:=by intro z;subst z;exact W i x D E c d
  exact(a,o,d,by rw[As h];exact f,g,j,l)
theorem WD 
  (h:JI K wi1 M λds M1=>(∀i∈sel,∃d,M1[i]?=some (.val d))/\∃I:Nat->List (AV × D)->AI->Prop,I 0 [] (compD n sel M1) /\
   (∀i d kvs M2,ds[i]?=some d->I i kvs M2->JG K g1 d M2 λM3=>JI K wi2 M3 λes M4=>∃I2:Nat->List (AV × D)->AI->Prop,I2 0 kvs M4 /\
    (∀j e kvs2 M5,es[j]?=some e->I2 j kvs2 M5->JG K g2 e M5 λM6=>JE K tk M6 λkd M7=>JE K tv M7 λvd M8=>∃ki:Int,kd=.int ki/\kvs2.length<sizeLine/\I2 (j+1) (putD kvs2 (.inl ki) vd) M8) /\
    ∀kvs2 M5,I2 es.length kvs2 M5->I (i+1) kvs2 M5) /\
   ∀kvs M2,I ds.length kvs M2->Po (.dct kvs) M1):JO K (tComp2 n sel wi1 g1 wi2 g2 (.dK []) (tPutK tk tv)) M Po:=λg G H Z Q k c=>
 h g G H Z _ k λJ ds G1 H1 M1 k1 s1 it (hval,I,h0,ht,he) acc hacc=>by
  have F:G1 acc=none:=by
   cases e:G1 acc with
   |none=>rfl
   |some u=>rw[k1.live _ _ e]at hacc;cases hacc
  have O:∀(i:Nat) x f,(compD n sel M1)[i]?=some x->x.od=some f->False:=λi x f r E=>by
   rcases Ea r with z|⟨j,i',ei,ej,z⟩
   ·subst z;cases E
   ·obtain⟨d,hd⟩:=hval i' (Bd ej)
    rw[hd]at z;cases z;cases E
  refine(λi m p l=>m=ds.length-i/\i<=ds.length/\∃t s kvs M2,KD K t s kvs/\Ok K (gIn G1 H1 acc s) t l p M2/\Same G1 t/\I i kvs M2,(ds.length,#[4],CS _,G1,[],[],_,.nil,?_,Same.refl _,h0),?_)
  ·refine(λb o B e=>?_,λb B=>B.elim,Same.refl _,λb o e=>(?_,.inr e),λb o e=>?_,?_,λi d e=>?_,λi x f r E=>(O i x f r E).elim,λi j x y f a5 a r E=>(O i x f r E).elim)
   ·have e:H1 b=some o:=e
    rw[As (CN e hacc)];exact e
   ·rw[As (CN e F)];exact k1.live b o e
   ·have e:(if b=acc then some (HO.dK []) else none)=some o:=e
    by_cases B:b=acc
    ·rw[AM B]at e;cases e;subst B
     exact(Bh,F,λi x f r E=>(O i x f r E).elim)
    ·rw[AL B]at e;cases e
   ·unfold compD compSt;simp
   ·rcases Ea e with z|⟨j,i',ei,ej,z⟩
    ·cases z
    ·subst ei
     obtain⟨v,W,U⟩:=k1.val i' d z;exact(v,by rw[Hc ej,W];rfl,U)
  ·rintro i m Z2 X ⟨rfl,hi,t,s,kvs,M2,ry,L,N,h2⟩
   obtain⟨T,go⟩:=it t X N L.live;by_cases hlt:i<ds.length
   ·obtain⟨a1,a2⟩:=go i _ (AS hlt)
    refine .inr (a1,λp l=>∃A s kvs M3,KD K A s kvs/\Ok K (gIn G1 H1 acc s) A l p M3/\Same G1 A/\I (i+1) kvs M3,λp l p'=>(ds.length-(i+1),#[3],rfl,hlt,p'),λx H3 y=>?_);obtain⟨A,b1,b2,b3,b4⟩:=a2 x H3 y;have k3:=L.grow b1 b2 b3;refine ht i _ kvs M2 (AS hlt) h2 _ A H3 Z2 x _ k3 b4 λZ4 G4 H4 M4 k4 s4 p4=>?_;refine p4 _ G4 H4 Z4 _ k4 λJ2 es G5 H5 M5 k5 s5 it2 (I2,i0,i1,i2)=>?_;have a3:KD K G5 s kvs:=ry.mono<|b1.trans<|s4.trans s5;have a4:Same G1 G5:=N.trans<|b1.trans<|s4.trans s5;refine(λj m p l=>m=es.length-j/\j<=es.length/\∃w s kvs M6,KD K w s kvs/\Ok K (gIn G1 H1 acc s) w l p M6/\Same G5 w/\I2 j kvs M6,(es.length,#[4],CS _,G5,s,kvs,_,a3,k5,Same.refl _,i0),?_);rintro j m Z6 H6 ⟨rfl,hj,w,V,S,M6,Y,k6,s6,h6⟩;obtain⟨P,a0⟩:=it2 w H6 s6 k6.live;by_cases hjt:j<es.length
    ·obtain⟨c1,c2⟩:=a0 j _ (AS hjt)
     refine .inr (c1,λp l=>∃C s kvs M7,KD K C s kvs/\Ok K (gIn G1 H1 acc s) C l p M7/\Same G5 C/\I2 (j+1) kvs M7,λp l p'=>(es.length-(j+1),#[3],rfl,hjt,p'),λx2 H7 y2=>?_);obtain⟨C,d1,d2,d3,d4⟩:=c2 x2 H7 y2;have k7:=k6.grow d1 d2 d3;refine i1 j _ S M6 (AS hjt) h6 _ C H7 Z6 x2 _ k7 d4 λZ8 G8 H8 M8 k8 s8 p8=>?_;refine p8 _ G8 H8 Z8 _ k8 λkv kd G9 H9 M9 k9 s9 r9 p9=>?_;refine p9 _ G9 H9 Z8 _ k9 λvv vd Ga Ha Ma ka sa ra (ki,ek,hl,pa)=>?_;subst ek;cases r9.inv;have R:KD K Ga V S:=Y.mono<|d1.trans<|s8.trans<|s9.trans sa;obtain⟨W,U,w3⟩:=Nr ka;refine(V,.inl ki,rfl,W,by rw[R.len];exact hl,Ga,_,_,Ma,Rb ra R,Zze hacc ka,s6.trans<|d1.trans<|s8.trans<|s9.trans sa,pa)
    ·have e:j=es.length:=by lia
     subst e;exact .inl (P,w,V,S,M6,Y,k6,a4.trans s6,i2 S M6 h6)
   ·have e:i=ds.length:=by omega
    subst e;obtain⟨W,U,w3⟩:=Nr L;refine .inl (T,?_);have k9:Ok K g t X Z M1:=k1.grow N (λb o e=>L.same b o (λz=>z) e) λb o e=>by
     obtain⟨f1,f2⟩:=L.frz b o e;exact(f1,f2.symm)
    refine c acc _ t X M1 k9 (s1.trans N) (.dK s,W,(show OwnRep K t (.dK s) (.dct kvs) from ry),U,k1.there hacc,?_,λi x f r E e3=>?_)<|he kvs M2 h2
    ·cases q:g.Xo acc with
     |none=>rfl
     |some u=>have z:=(k1.ext acc u q).1;rw[hacc]at z;cases z
    ·obtain⟨a,oo,v1,v2,_⟩:=k1.own i x f r E
     rw[e3]at v1;cases v1;rw[hacc]at v2;cases v2
end
#check 3
end
section
variable {X:Cx}{pins:Ar}{Z:St}{H H':Hp}{s:Shared}{h':Heap}{b:Addr}
end
section
variable {X:Cx}{pins:Ar}{Z:St}{H H':Hp}{s:Shared}{h':Heap}{a C T:Addr}
variable {M_:Model}{E:Ai}{Q:Unit->Shared->Prop}
end
section
variable {X:Cx}{pins:Ar}{Z:St}{H:Hp}{s:Shared}{a C:Addr}
end
#check 0
end
#check 7
end
section
variable {K:W.Frag}{M:AI}{E:XK}{Xp:Addr->Prop}{nx bk ct:AI->Prop}{rt:D->AI->Prop}{ro:OD->AI->Prop}
end
#check 2
#check 3
end
#check 1
end
#check 0
def CDivB (i j:Int):Prop:=0<j/\j<=100000000000000000000000000000000000000000000000000000000000
theorem NK:OpR X (binaryOp .FloorDiv) (rI CDivB λi j=>.int<|i / j):=opI λi j _ _ _ _ _ c q=>by
 have a:(0:Int)<j:=c.1;have b:=c.2;refine floordiv_int #[2] (by rw[Int.fdiv_eq_ediv_of_nonneg i #[2]];exact q) (.inl<|PyProof.noPylong_of_log2 ?_);have h:j.natAbs<=100000000000000000000000000000000000000000000000000000000000:=#[3]
 have H:j.natAbs<2 ^ 200:=EA h #[1];exact Nat.lt_trans ((Nat.log2_lt #[2]).2 H) #[1]
end
section
variable {K:W.Frag}{M:AI}{E:XK}{Xp:Addr->Prop}{P:D->AI->Prop}
end
def keyPd:AV->PyData
 |.inl i=>.int i
 |.inr x=>.str x
mutual
def D.pd:D->PyData
 |.non=>.none
 |.bl b=>.bool b
 |.int i=>.int i
 |.str x=>.str x
 |.tup ds=>.tuple (D.pds ds)
 |.lst ds=>.list (D.pds ds)
 |.dct ks ds=>.dict ((ks.map keyPd).zip (D.pds ds))
 |_=>.none
def D.pds:List D->List PyData
 |[]=>[]
 |d::ds=>D.pd d::D.pds ds
end
#check 0
end
def PV (K:W.Frag) (te:TE) (M:AI) (d:D):Prop:=∀P:D->AI->Prop,P d M -> JE K te M P
def PVs (K:W.Frag) (ta:TA) (M:AI) (ds:List D):Prop:=∀P:List D->AI->Prop,P ds M -> JA K ta M P
def PR2 (K:W.Frag) (r:R2) (d e:D) (M:AI) (x:D):Prop:=∀P:D->AI->Prop,P x M -> JR2 K r d e M P
#check 1
theorem Eh (h:PV K te M d) (p:P d M):JE K te M P:=h P p
theorem Cs (h:M[i]?=some (.val d)):PV K (tVar i) M d:=λP p=>AA h p
theorem Ef:PV K (tC (.int i)) M (.int i):=λP p=>AY p
theorem LR:PVs K tNil M []:=λP p=>AK p
theorem Fx (h:PV K ta M d) (t:PVs K tr M ds):PVs K (tCons ta tr) M (d::ds):=λP p=>AD<|h _<|t _ p
theorem N0 (h:PVs K ta M ds) (z:ds.length<=sizeLine):PV K (tTup ta) M (.tup ds):=λP p=>CL<|h _ (z,p)
theorem Sm (h:PVs K ta M ds) (z:ds.length<=sizeLine):PV K (tLst ta) M (.lst ds):=λP p=>LW<|h _ (z,p)
theorem Dx (a:PV K ta M d) (b:PV K tb M e) (h:PR2 K r d e M x):PV K (tOp r ta tb) M x:=λP p=>AN<|a _<|b _<|h P p
theorem Tw (h:atI ds i=some d):PR2 K (rIxU K) (.tup ds) (.int i) M d:=λP p=>A7 h p
theorem TN (h:atI ds i=some d):PR2 K (rIxU K) (.lst ds) (.int i) M d:=λP p=>Dt h p
theorem LL:PR2 K (rAddU K) (.int i) (.int j) M (.int<|i+j):=λP p=>Cn p
theorem La {f:Int->Int->Int}:PR2 K (rI0 λi j=>.int<|f i j) (.int i) (.int j) M (.int<|f i j):=λP p=>EJ p
theorem pr_I {f:Int->Int->Int}(z:C i j):PR2 K (rI C λi j=>.int<|f i j) (.int i) (.int j) M (.int<|f i j):=λP p=>jr_I z p
theorem N2 (a:PV K ta M (.tup ds)) (b:PV K tb M (.int i)) (h:atI ds i=some d):PV K (tOp (rIxU K) ta tb) M d:=Dx a b<|Tw h
theorem Ss (a:PV K ta M (.lst ds)) (b:PV K tb M (.int i)) (h:atI ds i=some d):PV K (tOp (rIxU K) ta tb) M d:=Dx a b<|TN h
theorem SE (j:M[n]?=some (.val (.tup ds))) (h:atI ds i=some d):PV K (tOp (rIxU K) (tVar n)<|tC (.int i)) M d:=N2 (Cs j) Ef h
theorem Zzi (a:PV K ta M (.tup ds)):PV K (tCB (rLenU K)<|tCons ta tNil) M (.int ds.length):=λP p=>Ag<|AD<|a _<|AK<|Bg (.inr rfl) p
end
#check 2
#check 3
end
#check 2
#check 0
theorem Mn {e tg1 it1:Expr}{scope:Scope}{tgs fvs:List Str}{sel:List Nat}{g1:TG}{ob:Obj}{ho:HO}{newAcc:Sem Value}{rest:Addr->Env->Value->Sem Fin}{tem:Addr->TB}(hpl:Plain e) (hcls:(clausesOf e)[0]?=some (tg1,it1,[],0))
  (hct0:∀(D:Addr) (env:Env) (it:Value),compTurn e 0 it (.ref D) env=(do
   standAt it1.pos
   match <- pyNext it with
   |none=>pure (.done .next)
   |some v=>
    letOwnedTupleGo tg1 it v
    assign tg1 env v
    rest D env it))
  (hnew:∀(s:Shared) (Q:Ai) (E:Ai),Q (.ref s.heap.objs.size) { s with heap:=s.heap.push ob } -> wpAny (model X.prog X.w) X.A newAcc Q E s)
  (hok:∀(pins:Ar) (Z:St) (H:Hp) (s:Shared),AJ X pins Z H s->AJ X pins Z (upd H s.heap.objs.size ho) { s with heap:=s.heap.push ob,toks:=s.toks })
  (S:CompSc X.env.scope X.N scope fvs sel) (hc:X.calm=true)
  (hg1:∀C s H ex pn,PG (compCx X scope (tgs++fvs) C s H ex pn) tg1 g1)
  (hb:∀C s H ex pn D it,PBT (compCx X scope (tgs++fvs) C s H ex pn) (rest D (compCx X scope (tgs++fvs) C s H ex pn).env it) (.compLoop e 0 it (.ref D) (compCx X scope (tgs++fvs) C s H ex pn).env) (tem D))
  {pins:Ar}{Z:St}{s:Shared}{itv:Value}{Q:VK}{E:Ai}{RR:Value->Addr->Result->Shared->Prop}
  (h2:PIE X pins Z tg1 (λJ H1=>∀acc,H1 acc=none->LoopR g1 (tem acc) (λ_ H'=>Q (.ref acc) H') (compSt tgs.length sel Z) J (upd H1 acc ho)) itv s)
  (fin:∀(s':Shared) (C acc:Addr) (H':Hp) (m:Str->Option Value),s'.heap.Ns C m->FpOk X pins H' C->(∀h',Heap.SameBut C s'.heap h' -> AJ X pins Z H' { s' with heap:=h' })->Q (.ref acc) H' -> RR (.ref acc) C (.ok .next) s') :
  wpAny (model X.prog X.w) X.A newAcc (λacc s3=>wpAny (model X.prog X.w) X.A (newFunctionEnv scope X.env.globals (clOf X.env scope.names []) [] X.env.qual none .none (some X.env)) (λcenv s4=>
   codeAny (model X.prog X.w) X.A (.compStart e 0 itv acc { cenv with scope:=relabel scope X.env }) (RR acc cenv.locals) s4) E s3) E s:=by
 obtain⟨it,fp,tn,J,H1,e0,I,T,st,f2,h2⟩:=h2;subst e0;have hlt:∀b∈fp,b<s.heap.objs.size:=λb hb=>let ⟨o,ho,_⟩:=T.obj 0 _ st b hb; Ax ho
 refine hnew s _ _<|wpAny_newFunctionEnv S.nocell (by intro y hy;simp at hy) (λh1 hns hsb=>?_) S.kind;dsimp only at hns hsb ⊢;have I3:=hok pins Z H1 s I;have hacc:H1 s.heap.objs.size=none:=I.hok.fresh<|AX _;have h2:=h2 s.heap.objs.size hacc;generalize hs3:({ s with heap:=s.heap.push ob,toks:=s.toks }:Shared)=s3 at I3;have hh3:s3.heap=s.heap.push ob:=by rw[<- hs3]
 have old3:∀b o,s.heap.get? b=some o->s3.heap.get? b=some o:=λb o q=>by rw[hh3];exact BA _ q
 have hf3:∀b∈fp,FpOk X pins (upd H1 s.heap.objs.size ho) b:=λb hb=>(by rw[As (BF<|hlt b hb)];exact(f2 b hb).1,(f2 b hb).2);have hlt3:∀b∈fp,b<s3.heap.objs.size:=λb hb=>by rw[hh3,GQ];exact D0<|hlt b hb
 have tn3:tn 0 s3.heap:=T.keep 0 _ _ st λb hb o q=>old3 b o q;have old4:∀b o,s3.heap.get? b=some o->h1.get? b=some o:=λb o q=>by
  have hb:b≠s3.heap.objs.size:=BF<|Ax q;rw[hh3]at hb q;exact(hsb.2 b hb).trans (BA _ q)
 have tn4:tn 0 h1:=T.keep 0 _ _ tn3 λb hb o q=>old4 b o q;have hC:(s.heap.push ob).objs.size=s3.heap.objs.size:=by rw[hh3]
 rw[hC]at hns;have J0:=QH (tgs:=tgs) (tk:=s.toks+([]:List (Str × Value)).length) S I3 hf3 hlt3 hns old4;have es:({ s3 with heap:=h1,toks:=s.toks+([]:List (Str × Value)).length }:Shared) = { s with heap:=h1,toks:=s.toks+([]:List (Str × Value)).length }:=by rw[<- hs3]
 rw[es]at J0;have G1:=hg1 s3.heap.objs.size s3 (upd H1 s.heap.objs.size ho) fp<|X.pn++pins;have EM:=hb s3.heap.objs.size s3 (upd H1 s.heap.objs.size ho) fp (X.pn++pins) s.heap.objs.size;generalize hY:compCx X scope (tgs++fvs) s3.heap.objs.size s3 (upd H1 s.heap.objs.size ho) fp (X.pn++pins)=Y at J0 G1 EM;have hYp:Y.prog=X.prog:=#[9]
 have hYw:Y.w=X.w:=#[9]
 have hYK:Y.K=X.K:=#[9]
 have hYA:Y.A=X.A:=#[9]
 have hYc:Y.calm=true:=by rw[<- hY];exact hc
 have hYx:Y.xe=λ_ _=>False:=#[9]
 have hYe:Y.env=compEnvC scope (clOf X.env scope.names []) s3.heap.objs.size X.env:=#[9]
 have stat:∀{H':Hp},(∀b∈fp,H' b=none)->∀b∈fp,FpOk Y [] H' b:=λhn b hb=>by
  rw[<- hY];refine(hn b hb,BF<|hlt3 b hb,λz=>?_,.inl hb,λx c e=>?_,λp hp z=>?_)
  ·rcases Az.mp (I3.stkSub b z) with q|q
   ·exact(hf3 b hb).2.1 q
   ·exact(hf3 b hb).2.2.1 q
  ·exact(hf3 b hb).2.2.2.2.1 x c (D4 _ _ (λ_ _ z=>by simp at z) e)
  ·have hp:p∈(X.pn++pins)++[]:=hp
   rw[Bp]at hp;exact(hf3 b hb).2.2.2.2.2 p hp z
 have T':Turn Y.prog Y.w Y.K tg1 J fp it tn:=by rw[hYp,hYw,hYK];exact T
 have PP:PIE Y [] (compSt tgs.length sel Z) tg1 (LoopR g1 (tem s.heap.objs.size) (λ_ H'=>Q (.ref s.heap.objs.size) H')<|compSt tgs.length sel Z) (.ref it) { s with heap:=h1,toks:=s.toks+([]:List (Str × Value)).length }:=
  (it,fp,tn,J,_,rfl,J0,T',tn4,stat λb hb=>(hf3 b hb).1,h2)
 have L:=P4 (Y:=Y) (e:=e) (d:=0) (acc:=.ref s.heap.objs.size) hpl hYc hYx (hct0 s.heap.objs.size Y.env) G1 (λit=>EM it) PP;have ST:=O9 (d:=0) hpl hcls PP L;rw[hYp,hYw,hYA,hYe]at ST;show codeAny (model X.prog X.w) X.A (.compStart e 0 (.ref it) (.ref s.heap.objs.size)<|compEnvC scope (clOf X.env scope.names []) (s.heap.push ob).objs.size X.env) (RR (.ref s.heap.objs.size) (s.heap.push ob).objs.size) _;rw[hC];refine codeAny_mono ST λr s6 (hr,Z5,H5,I6,qn)=>?_;subst hr;obtain⟨m6,hn6,_⟩:=I6.loc;rw[hYe]at hn6;refine fin s6 _ _ H5 m6 hn6 (I3.fpOk (AX _) (by have z:=I6.free;rw[hYe]at z;exact z)) (λh' sb=>?_) qn;have I6':AJ (compCx X scope (tgs++fvs) s3.heap.objs.size s3 (upd H1 s.heap.objs.size ho) fp<|X.pn++pins) [] Z5 H5 s6:=by rw[hY];exact I6
 exact Pn I3 hf3 I6' sb
def tAppL (te:TE) (D:Addr):TB:=λZ H N=>te Z H λy h=>∃ys,h D=some (.lst ys)/\ys.length<sizeLine/\N Z (upd h D (.lst<|ys++[y]))
theorem SI (hx:Y.xe=λ_ _=>False) (he:PE Y ex te) (D:Addr):PB Y (do
   let _ <- call (.builtin "list.append") [.ref D,<- eval ex Y.env]) (tAppL te D):=λpins s Z H N I h=>by
 have h1:=he pins s Z H _ I h;rw[hx]at h1;refine AE (thn h1 λu s1 (y,H1,I1,ry,ys,ea,za,na)=>?_);have M_:=EY (X:=Y) _ s1 Z H1 (.ref D) [y] (.ref D) [u] (λ_ H=>N Z H) I1 rfl (.cons ry .nil) (_,ys,y,rfl,rfl,ea,za,na);rw[hx]at M_;exact AE (thn M_ λ_ sb (_,Hb,Ib,_,nb)=>AO (Z,Hb,Ib,nb))
theorem Pq {ex tg1 it1 tg2 it2:Expr}{scope:Scope}{pos:Pos}{fvs:List Str}{sel:List Nat}{wi1 wi2:TI}{g1 g2:TG}{te:TE}(tgs:List Str) (S:CompSc X.env.scope X.N scope fvs sel) (hc:X.calm=true)
  (hi1:PI X tg1 it1 wi1) (hg1:∀C s H ex pn,PG (compCx X scope (tgs++fvs) C s H ex pn) tg1 g1) (hi2:∀C s H ex pn,PI (compCx X scope (tgs++fvs) C s H ex pn) tg2 it2 wi2) (hg2:∀C s H ex pn,PG (compCx X scope (tgs++fvs) C s H ex pn) tg2 g2)
  (he:∀C s H ex' pn,PE (compCx X scope (tgs++fvs) C s H ex' pn) ex te)
  (hs1:∀x,foldedSetIterable it1 X.env x=pure x:=by intro _;rfl) (hs2:∀(env:Env) x,foldedSetIterable it2 env x=pure x:=by intro _ _;rfl) :
  PE X (.ListComp ex [(tg1,it1,[],0),(tg2,it2,[],0)] scope pos) (tComp2 tgs.length sel wi1 g1 wi2 g2 (.lst [])<|tAppL te):=by
 intro n s Z H Q I h;rw[eval_ListComp];refine wpAny_comprehension_free (use:=none) rfl hs1 (HX<|He S I.ok) S.kind S.names (thn (hi1 n s Z H _ I h) λv e b=>thn b λi f d=>?_);refine Mn (tgs:=tgs) (ob:={ cls:=.type "list",data:=.seq ([]:List Value).toArray }) (ho:=.lst []) (Km _ _ _ _) rfl (λD env t=>rfl) (λs Q E q=>wpAny_newObj_type q) (λn Z H s I=>?_) S hc hg1 (tem:=λc=>tLoop wi2 g2<|tAppL te c) (λC s H ex pn D t=>NU (Y:=compCx X scope (tgs++fvs) C s H ex pn) (Km _ _ _ _) hc rfl rfl (λt=>rfl) (hi2 C s H ex pn) (hg2 C s H ex pn) (λt=>(SI (Y:=compCx X scope (tgs++fvs) C s H ex pn) rfl (he C s H ex pn) D).rest)<|hs2 _) (RR:=λc C=>compPost (model X.prog X.w) X.A X.xe none (EP X n Z Q) c C) (Q:=Q) d ?_
 ·exact I.lnew (its:=[]) .nil #[1]
 ·intro s' C c H' m hn _ hI q
  exact(m,hn,λa B=>(.ref c,H',hI a B,rfl,q))
theorem Wt {ex tg1 it1 tg2 it2:Expr}{scope:Scope}{pos spos py:Pos}{fvs:List Str}{sel:List Nat}{wi1 wi2:TI}{g1 g2:TG}{te:TE}{i:Nat}{y:Str}(hN:X.N.Nodup) (hiy:X.N[i]?=some y) (hx:Gx X.env.scope y) (tgs:List Str) (S:CompSc X.env.scope X.N scope fvs sel) (hc:X.calm=true)
  (hi1:PI X tg1 it1 wi1) (hg1:∀C s H ex pn,PG (compCx X scope (tgs++fvs) C s H ex pn) tg1 g1) (hi2:∀C s H ex pn,PI (compCx X scope (tgs++fvs) C s H ex pn) tg2 it2 wi2) (hg2:∀C s H ex pn,PG (compCx X scope (tgs++fvs) C s H ex pn) tg2 g2)
  (he:∀C s H ex' pn,PE (compCx X scope (tgs++fvs) C s H ex' pn) ex te)
  (hs1:∀x,foldedSetIterable it1 X.env x=pure x:=by intro _;rfl) (hs2:∀(env:Env) x,foldedSetIterable it2 env x=pure x:=by intro _ _;rfl)
  (hsw:swapsWith (.ListComp ex [(tg1,it1,[],0),(tg2,it2,[],0)] scope pos) (some (.Name y py)) spos.line X.env=pure true:=by rfl)
  (hf:X.fn y=true\/X.env.scope.names.lookup y=some .local:=by first|exact .inl rfl|exact .inr rfl|assumption) :
  PS X (.Assign [.Name y py] (.ListComp ex [(tg1,it1,[],0),(tg2,it2,[],0)] scope pos) spos) (tAsg (tComp2 tgs.length sel wi1 g1 wi2 g2 (.lst [])<|tAppL te)<|gName i):=by
 intro pins s Z H D I h;rw[exec_Assign_Name_used _ _ _ _ hsw];refine AE (Ei (AE ?_));show wpAny _ X.A (do let _ <- comprehension (.ListComp ex [⟨tg1,it1,[],0⟩,⟨tg2,it2,[],0⟩] scope pos) scope X.env _ (newList []) false (eval it1 X.env) (some (assign (.Name y py) X.env))) _ _ s;refine AE (EN (wpAny_comprehension_free (use:=some (assign (.Name y py) X.env)) (Q:=λ_ s'=>SP X pins D .next s') rfl hs1 (HX (He S I.ok)) S.kind S.names
  (thn (hi1 pins s Z H _ I h) λv s1 h1=>thn h1 λitv s2 h2=>?_)) (λ_ s' hq=>AO (AO hq)) λ_ _ e=>e)
 refine Mn (tgs:=tgs) (ob:={ cls:=.type "list",data:=.seq ([]:List Value).toArray }) (ho:=.lst []) (Km _ _ _ _) rfl (λD env it=>rfl) (λs Q E q=>wpAny_newObj_type q) (λpins Z H s I=>I.lnew (its:=[]) .nil #[1]) S hc hg1 (tem:=λacc=>tLoop wi2 g2<|tAppL te acc) (λC s H ex pn D it=>NU (Y:=compCx X scope (tgs++fvs) C s H ex pn) (Km _ _ _ _) hc rfl rfl (λit=>rfl) (hi2 C s H ex pn) (hg2 C s H ex pn) (λit=>(SI (Y:=compCx X scope (tgs++fvs) C s H ex pn) rfl (he C s H ex pn) D).rest)<|hs2 _) (RR:=λacc C=>compPost (model X.prog X.w) X.A X.xe (some<|assign (.Name y py) X.env) (λ_ s'=>SP X pins D .next s') acc C) (Q:=λv H'=>D.nx (Z.set i<|some v) H') h2 ?_;intro s' C acc H' m hn fp hI q;have I0:AJ X pins Z H' s':=hI s'.heap (.refl ..);show wpAny _ X.A (assign (.Name y py) X.env (.ref acc)) _ _ _;refine wpAny_assign_Name<|Mx (v:=.ref acc) I0 hN hiy hx rfl (λs2 I2 hsb=>?_) hf;obtain⟨a,sb,ha⟩:=hsb;have hCa:C≠a:=by
  rcases ha with z|z
  ·rw[z];exact fp.2.1
  ·exact Ne.symm<|fp.2.2.2.2.1 y a z
 refine(m,hn.sameBut sb hCa,λh' sb'=>?_);obtain⟨f0,f1,f2,f3,f4,f5⟩:=fp;exact(_,H',I2.turned (t':=s2.toks) (it:=C) (λb o hb e=>(sb'.2 b hb).trans e) f0 f1 f3 f4 f5,q)
theorem Ws {kx vx tg1 it1 tg2 it2:Expr}{scope:Scope}{pos:Pos}{fvs:List Str}{sel:List Nat}{wi1 wi2:TI}{g1 g2:TG}{tk tv:TE}(tgs:List Str) (S:CompSc X.env.scope X.N scope fvs sel) (hc:X.calm=true)
  (hi1:PI X tg1 it1 wi1) (hg1:∀C s H ex pn,PG (compCx X scope (tgs++fvs) C s H ex pn) tg1 g1) (hi2:∀C s H ex pn,PI (compCx X scope (tgs++fvs) C s H ex pn) tg2 it2 wi2) (hg2:∀C s H ex pn,PG (compCx X scope (tgs++fvs) C s H ex pn) tg2 g2)
  (hk:∀C s H ex pn,PE (compCx X scope (tgs++fvs) C s H ex pn) kx tk) (hv:∀C s H ex pn,PE (compCx X scope (tgs++fvs) C s H ex pn) vx tv)
  (hs1:∀x,foldedSetIterable it1 X.env x=pure x:=by intro _;rfl) (hs2:∀(env:Env) x,foldedSetIterable it2 env x=pure x:=by intro _ _;rfl) :
  PE X (.DictComp kx vx [(tg1,it1,[],0),(tg2,it2,[],0)] scope pos) (tComp2 tgs.length sel wi1 g1 wi2 g2 (.dK [])<|tPutK tk tv):=by
 intro n s Z H Q I h;rw[Ui];refine wpAny_comprehension_free (use:=none) rfl hs1 (HX<|He S I.ok) S.kind S.names (thn (hi1 n s Z H _ I h) λv e b=>thn b λi f d=>?_);refine Mn (tgs:=tgs) (ob:={ cls:=.type "dict",data:=.dict #[] }) (ho:=.dK []) (PK _ _ _ _ _) rfl (λD env t=>rfl) (λs Q E q=>wpAny_newObj_type q) (λn Z H s I=>?_) S hc hg1 (tem:=λc=>tLoop wi2 g2<|tPutK tk tv c) (λC s H ex pn D t=>NU (Y:=compCx X scope (tgs++fvs) C s H ex pn) (PK _ _ _ _ _) hc rfl rfl (λt=>rfl) (hi2 C s H ex pn) (hg2 C s H ex pn) (λt=>(Sk (Y:=compCx X scope (tgs++fvs) C s H ex pn) rfl (hk C s H ex pn) (hv C s H ex pn) D).rest)<|hs2 _) (RR:=λc C=>compPost (model X.prog X.w) X.A X.xe none (EP X n Z Q) c C) (Q:=Q) d ?_
 ·exact I.laid (a:=s.heap.objs.size) (o:=.dK []) (h':=s.heap.push { cls:=.type "dict",data:=.dict #[] }) (t':=s.toks) (λ_ _ q=>BA _ q) (AX _)<|QS s.heap I.big
 ·intro s' C c H' m hn _ hI q
  exact(m,hn,λh' B=>(.ref c,H',hI h' B,rfl,q))
def tCompG (n:Nat) (sel:List Nat) (j:TI) (z:TG) (ho:HO) (tem:Addr->TB):TE:=λZ H Q=>j Z H λJ h=>∀acc,h acc=none->LoopR z (tem acc) (λ_ a=>Q (.ref acc) a) (compSt n sel Z) J (upd h acc ho)
end
#check 1
def gInO (G H:Hp) (acc:Addr) (o:HO):Gm:=(λ_=>False,G,H,λb=>if b=acc then some o else none)
theorem NA (k:Ok K (gInO G H acc u) G' H' Z M):H' acc=some u/\G' acc=none/\∀(i:Nat) x od,M[i]?=some x->x.od=some od -> Z[i]?≠some (some (.ref acc)):=
 k.ext acc u (by show (if acc=acc then _ else _)=_;rw[AM rfl])
theorem Zut (J:H acc=none) (k:Ok K (gInO G H acc u) G' H' Z M):Ok K (gInO G H acc u') G' (upd H' acc u') Z M:=by
 obtain⟨m,w,W⟩:=NA k;have ne:∀{b:Addr}{o:HO},G' b=some o->b≠acc:=λ{b o} e z=>by subst z;rw[w]at e;cases e
 refine(λb o h e=>?_,λb h=>h.elim,k.sub,λb o e=>?_,λb o e=>?_,k.len,k.val,λi x D E c=>?_,k.dis)
 ·have B:b≠acc:=by intro z;subst z;have e:H b=some o:=e;rw[J]at e;cases e
  rw[As B];exact k.same b o (λz=>z) e
 ·rw[As (ne e)];exact k.frz b o e
 ·have e:(if b=acc then some u' else none)=some o:=e
  by_cases h:b=acc
  ·rw[AM h]at e;cases e;subst h
   exact(Bh,w,W)
  ·rw[AL h]at e;cases e
 ·obtain⟨a,o,d,f,g,j,l⟩:=k.own i x D E c
  have h:a≠acc:=by intro z;subst z;exact W i x D E c d
  exact(a,o,d,by rw[As h];exact f,g,j,l)
def JB (K:W.Frag) (tem:Addr->TB) (M:AI) (od:OD) (P:OD->AI->Prop):Prop:=∀(G1 H1:Hp) (acc:Addr) (o:HO) (G H:Hp) (Z:St) (N:St->Hp->Prop),H1 acc=none->OwnRep K G o od->Ok K (gInO G1 H1 acc o) G H Z M ->
 (∀o' od' Z' G' H' M',Ok K (gInO G1 H1 acc o') G' H' Z' M' -> Same G G' -> OwnRep K G' o' od' -> P od' M' -> N Z' H')->tem acc Z H N
theorem Zxq (h:JI K wi M λes M4=>∃I2:Nat->OD->AI->Prop,I2 0 od M4 /\
   (∀j e od2 M5,es[j]?=some e->I2 j od2 M5->JG K g2 e M5 λM6=>JB K tem M6 od2 λod3 M8=>I2 (j+1) od3 M8)/\∀od2 M5,I2 es.length od2 M5->P od2 M5):JB K (λacc=>tLoop wi g2 (tem acc)) M od P:=λf i acc o G H Z N C ra k c=>
 h _ G H Z _ k λJ es G5 H5 M5 k5 s5 it (I2,i0,i1,i2)=>by
  refine(λj m z b=>m=es.length-j/\j<=es.length/\∃g O d M6,OwnRep K g O d/\Ok K (gInO f i acc O) g b z M6/\Same G5 g/\I2 j d M6,(es.length,#[4],CS _,G5,o,od,_,ra.mono s5,k5,Same.refl _,i0),?_);rintro j m u r ⟨rfl,hj,g,O,d,M6,R,n,s,v⟩;obtain⟨p,l⟩:=it g r s n.live;by_cases hjt:j<es.length
  ·obtain⟨F,I⟩:=l j _ (AS hjt)
   refine .inr (F,λz b=>∃a o7 od7 M7,OwnRep K a o7 od7/\Ok K (gInO f i acc o7) a b z M7/\Same G5 a/\I2 (j+1) od7 M7,λz b Y=>(es.length-(j+1),#[3],rfl,hjt,Y),λx t y2=>?_);obtain⟨a,D,L,Q,T⟩:=I x t y2;have U:=n.grow D L Q;refine i1 j _ d M6 (AS hjt) v _ a t u x _ U T λE w A M8 V S p8=>?_;exact p8 f i acc O w A E _ C (R.mono<|D.trans S) V λX q Z9 y H9 B W s9 r9 p9=>(y,X,q,B,r9,W,s.trans<|D.trans<|S.trans s9,p9)
  ·have e:j=es.length:=by omega
   subst e;exact .inl (p,c O d u g r M6 n (s5.trans s) R<|i2 d M6 v)
theorem Ru (h:JE K te M λd M1=>ds.length<sizeLine/\P (.lst<|ds++[d]) M1):JB K (tAppL te) M (.lst ds) P:=λg b C o G H Z N a R k c=>
 h _ G H Z _ k λy d Ga Ha Ma ka sa r (hl,p)=>by
  cases o with
  |lst vs=>
   have A:Reps K Ga vs ds:=Reps.mono sa R;obtain⟨w,W,e⟩:=NA ka;exact(vs,w,by rw[A.length];exact hl,c _ _ Z Ga _ Ma (Zut a ka) sa (show OwnRep K Ga (.lst<|vs++[y]) (.lst<|ds++[d]) from Reps.append A (.cons r .nil)) p)
  |_=>exact absurd R (λz=>z)
theorem Zvl (a3:∀G,OwnRep K G ho od0)
  (h:JI K wi1 M λds M1=>(∀i∈sel,∃d,M1[i]?=some (.val d))/\∃I:Nat->OD->AI->Prop,I 0 od0 (compD n sel M1) /\
   (∀i d od M2,ds[i]?=some d->I i od M2->JG K g1 d M2 λM3=>JB K tem M3 od λod' M4=>I (i+1) od' M4) /\
   ∀od M2,I ds.length od M2->Po od M1):JO K (tCompG n sel wi1 g1 ho tem) M Po:=λg G H Z Q k c=>
 h g G H Z _ k λJ ds G1 H1 M1 k1 s1 it (hval,I,h0,ht,he) acc hacc=>by
  have A:G1 acc=none:=by
   cases e:G1 acc with
   |none=>rfl
   |some u=>rw[k1.live _ _ e]at hacc;cases hacc
  have O:∀(i:Nat) x od,(compD n sel M1)[i]?=some x->x.od=some od->False:=λi x od f E=>by
   rcases Ea f with z|⟨j,P,X,N,z⟩
   ·subst z;cases E
   ·obtain⟨d,hd⟩:=hval P (Bd N)
    rw[hd]at z;cases z;cases E
  refine(λi m C w=>m=ds.length-i/\i<=ds.length/\∃l s D M2,OwnRep K l s D/\Ok K (gInO G1 H1 acc s) l w C M2/\Same G1 l/\I i D M2,(ds.length,#[4],CS _,G1,ho,od0,_,a3 _,?_,Same.refl _,h0),?_)
  ·refine(λb o B e=>?_,λb B=>B.elim,Same.refl _,λb o e=>(?_,.inr e),λb o e=>?_,?_,λi d e=>?_,λi x od f E=>(O i x od f E).elim,λi j x y od od' a f E=>(O i x od f E).elim)
   ·have e:H1 b=some o:=e
    rw[As (CN e hacc)];exact e
   ·rw[As (CN e A)];exact k1.live b o e
   ·have e:(if b=acc then some ho else none)=some o:=e
    by_cases B:b=acc
    ·rw[AM B]at e;cases e;subst B
     exact(Bh,A,λi x od f E=>(O i x od f E).elim)
    ·rw[AL B]at e;cases e
   ·unfold compD compSt;simp
   ·rcases Ea e with z|⟨j,P,X,N,z⟩
    ·cases z
    ·subst X
     obtain⟨v,W,U⟩:=k1.val P d z;exact(v,by rw[Hc N,W];rfl,U)
  ·rintro i m Z2 F ⟨rfl,hi,l,s,D,M2,r2,r,S,Y⟩
   obtain⟨t,go⟩:=it l F S r.live;by_cases hlt:i<ds.length
   ·obtain⟨a1,a2⟩:=go i _ (AS hlt)
    refine .inr (a1,λC w=>∃p o3 od3 M3,OwnRep K p o3 od3/\Ok K (gInO G1 H1 acc o3) p w C M3/\Same G1 p/\I (i+1) od3 M3,λC w p'=>(ds.length-(i+1),#[3],rfl,hlt,p'),λx V y=>?_);obtain⟨p,L,b2,b3,b4⟩:=a2 x V y;have k3:=r.grow L b2 b3;refine ht i _ D M2 (AS hlt) Y _ p V Z2 x _ k3 b4 λZ4 G4 H4 M4 k4 s4 p4=>?_;exact p4 G1 H1 acc s G4 H4 Z4 _ hacc (r2.mono<|L.trans s4) k4 λo9 T Z9 G9 H9 M9 R s9 r9 p9=>(G9,o9,T,M9,r9,R,S.trans<|L.trans<|s4.trans s9,p9)
   ·have e:i=ds.length:=by omega
    subst e;obtain⟨W,U,w3⟩:=NA r;refine .inl (t,?_);have R:Ok K g l F Z M1:=k1.grow S (λb o e=>r.same b o (λz=>z) e) λb o e=>by
     obtain⟨f1,f2⟩:=r.frz b o e;exact(f1,f2.symm)
    refine c acc _ l F M1 R (s1.trans S) (s,W,r2,U,k1.there hacc,?_,λi x od f E e3=>?_)<|he D M2 Y
    ·cases q:g.Xo acc with
     |none=>rfl
     |some u=>have z:=(k1.ext acc u q).1;rw[hacc]at z;cases z
    ·obtain⟨a,oo,v1,v2,_⟩:=k1.own i x od f E
     rw[e3]at v1;cases v1;rw[hacc]at v2;cases v2
end
#check 8
end
#check 3
theorem QK:∀{kvs:List (AV × V)}{kds:List (AV × D)},Paired (λ(p:AV × V) (q:AV × D)=>p.1=q.1/\Ap K G p.2 q.2) kvs kds->(kds.map (·.1)).zip (kvs.map (·.2))=kvs/\Reps K G (kvs.map (·.2)) (kds.map (·.2))
 |_,_,.nil=>(rfl,.nil)
 | (k1,v1)::kvs,(k2,d2)::kds,.cons (e,r) t=>by
  have e:k1=k2:=e;subst e;obtain⟨h,H⟩:=QK t;refine(?_,.cons r H);show (k1,v1)::(kds.map (·.1)).zip (kvs.map (·.2))=_;rw[h]
theorem Ql:∀{ks:List AV}{vs:List V}{ds:List D},ks.length=vs.length->Reps K G vs ds->Paired (λ(p:AV × V) (q:AV × D)=>p.1=q.1/\Ap K G p.2 q.2) (ks.zip vs) (ks.zip ds)
 |[],_,_,_,_=>.nil
 |_::_,_,_,l,.nil=>by cases l
 |k::ks,_,_,l,.cons r rs=>.cons (rfl,r) (Ql (Nat.succ.inj l) rs)
theorem Zu1 (j:List (AV × D)):(j.map (·.1)).zip (j.map (·.2))=j:=by
 induction j with
 |nil=>rfl
 |cons a t ih=>rw[BO,BO,IV,ih]
theorem Ok.freezeD (k:Ok K g G H Z M) (p:Pend K g G H Z M a (.dct kds)) (L:H a=some (.dK kvs)):Ok K g (upd G a (.dK kvs)) H Z M /\ Same G (upd G a (.dK kvs))/\Ap K (upd G a (.dK kvs)) (.ref a) (.dct (kds.map (·.1))<|kds.map (·.2)):=by
 obtain⟨o,P,m,q,r,t,y⟩:=p;rw[L]at P;cases P;obtain⟨R,A⟩:=QK (K:=K) m;have s:Same G (upd G a (.dK kvs)):=λb u e=>by rw[As (CN e q)];exact e
 refine⟨(k.same,k.lent,k.sub.trans s,λb u e=>?_,λb u e=>?_,k.len,λj d h=>?_,λj x D E l=>?_,k.dis),s,.dct (vs:=kvs.map (·.2)) (by rw[R];exact Bh) (by rw[AH,AH];exact(Paired.length m).symm)<|A.mono s⟩
 ·by_cases B:b=a
  ·subst B;rw[Bh]at e;cases e;exact(L,.inl r)
  ·rw[As B]at e;exact k.frz b u e
 ·obtain⟨f,i,n⟩:=k.ext b u e
  have B:b≠a:=by intro z;subst z;rw[t]at e;cases e
  exact(f,by rw[As B];exact i,n)
 ·obtain⟨v,f,i⟩:=k.val j d h
  exact(v,f,i.mono s)
 ·obtain⟨c,o,w,W,F,I,J⟩:=k.own j x D E l
  have C:c≠a:=by intro z;subst z;exact y j x D E l w
  exact(c,o,w,W,F.mono s,by rw[As C];exact I,J)
def dctD (j:List (AV × D)):D:=.dct (j.map (·.1))<|j.map (·.2)
theorem V0 (h:JO K t M λod M1=>∃kds,od=.dct kds/\P (dctD kds) M1):JE K t M P:=λg G H Z Q k c=>
 h g G H Z Q k λa od m b M1 f s d q=>by
  obtain⟨kds,e,p⟩:=q;subst e;obtain⟨o,j,l,_⟩:=id d;cases o with
  |dK kvs=>
   obtain⟨i,S,r⟩:=f.freezeD d j;exact c _ _ _ b M1 i (s.trans S) r p
  |_=>exact absurd l (λz=>z)
end
end L2
set_option Elab.async false
set_option linter.all false
set_option maxRecDepth 100000
namespace HT
open PySem PyProof.Rows
end HT
namespace L2
open PySem PySem.Spec PyProof.Rows
#check 3
end
section
variable {prog:Program}{w:World}{A:Around}{R:Result->Shared->Prop}{I:Addr}{fp wr:List Addr}{G:Array GenState->Array GenState->Prop}{n:Nat}{P:Nat->Value->Prop}{St:Nat->Shared->Prop}{K:Type}[DecidableEq K] {knd:KeyKind prog w K}
end
#check 0
end
#check 4
end
#check 3
def onlyV:Slot->Slot
 |.val d=>.val d
 |_=>.any
theorem Qo:(onlyV x).od=none:=by cases x <;> rfl
def plnD:D->Prop
 |.int _=>True
 |.bl _=>True
 |.non=>True
 |.str _=>True
 |_=>False
theorem RM (h:plnD d) (r:Ap K G v d):Ap K G' v d:=by
 cases d with
 |int i=>cases r.inv;exact .int i
 |bl b=>cases r.inv;exact .bl b
 |non=>cases r.inv;exact .non
 |str x=>cases r.inv;exact .str x
 |_=>exact h.elim
end
def rNeL0 (K:W.Frag):R2:=λx y H Q=>∃(a b:Addr) (xs:List V),x=.ref a/\y=.ref b/\SqL K H a xs/\SqL K H b []/\Q (.bl (!xs.isEmpty)) H
theorem neL0K (K:W.Frag) (U:X.A.units+1<cLine) (J:X.K=K:=by rfl):OpR X (compareOp .NotEq) (rNeL0 K):=by
 subst J;intro pins s Z H x y v u Q I rx ry h;obtain⟨a,b,k,rfl,rfl,c,d,q⟩:=h;cases rx;cases ry;obtain⟨S,f,p,_⟩:=I.list c;obtain⟨i,g,P,_⟩:=I.list d;cases g;cases f with
 |nil=>exact PySem.SeqAt.RcNeAt.lists (A:=X.A) (s:=s) (e:=λ_=>true) p.isList P.isList rfl #[2] (λj _ z=>absurd z #[4]) X.prog X.w _ _ (.bl _,H,I,rfl,q)
 |cons r t=>exact PySem.SeqAt.RcNeAt.lists_lengths (A:=X.A) (s:=s) p.isList P.isList #[4] #[2] X.prog X.w _ _ (.bl _,H,I,rfl,q)
#check 3
theorem Zxx (p:P (.bl (!ds.isEmpty)) M):JR2 K (rNeL0 K) (.lst ds) (.lst []) M P:=λg G H Z Q x y k X Y c=>by
 obtain⟨_,_,rfl,a,r⟩:=X.inv;obtain⟨_,_,rfl,b,B⟩:=Y.inv;cases B.inv;refine(_,_,_,rfl,rfl,SqL.of<|k.live _ _ a,SqL.of<|k.live _ _ b,?_);rw[r.isEmpty];exact c _ _ G H M k (Same.refl _) (.bl _) p
end
#check 2
#check 4
end
#check 1
end
#check 2
section
open PySem.AutoSeq1 (wpAny_loadPart')
open PySem.MeetsSeq PySem.MeetsSeq2 PySem.MeetsSeq3
end
section
variable {prog:Program}{w:World}{A:Around}{R:Result->Shared->Prop}{I:Addr}{fp wr:List Addr}{n:Nat}{P:Nat->Value->Prop}{St:Nat->Heap->Prop}
end
end L2
namespace L2
#check 2
#check 3
end
#check 2
#check 3
end
#check 2
#check 0
theorem UL:fillsNumberSlot (.type "tuple") "mul" = pure false:=
 PySem.fillsNumberSlot_seq (id:="tuple.__mul__") (r:=some (.builtin "tuple.__rmul__")) F.slot_tuple_mul.lookup #[0] F.slot_tuple_rmul.lookup #[0]
theorem Uk:seqRepeat? (.type "tuple")=pure (some (.builtin "tuple.__mul__")):=by
 unfold seqRepeat?;rw[PySem.seqSlot_of (T:="tuple") (name:="__mul__") (id:="tuple.__mul__") F.slot_tuple_mul.lookup #[0],PySem.seqSlot_of (T:="tuple") (name:="__rmul__") (id:="tuple.__rmul__") F.slot_tuple_rmul.lookup #[0]];rfl
theorem UH (a:Int) (t:Tok) (l:Addr) (items:Array Value) (n:Nat) (d:Option Addr) (sl:Array (Option Value)) :
  Meets (Builtin.«int.__rmul__» ([.int a t,.ref l],[])) (λ_ R s=>s.heap.get? l=some { cls:=.type "tuple",dict:=d,data:=.seq items n,slots:=sl } /\ R (.ok (.ret Value.notImplemented)) s):=
 .of_wp λo w A R s h=>by obtain⟨p,g,d,k,S⟩:=s;obtain⟨L,h⟩:=h;wp_walk;exact(_,rfl,h)
end
#check 2
#check 2
#check 0
end
#check 4
end
#check 0
theorem QT (r:RelV u v):∀n,Vals (Ak n u) (Ak n v)
 |0=>.nil
 |n+1=>.cons r (QT r n)
end
#check 3
theorem Q7 (r:Ap K G v d):∀n,Reps K G (Ak n v) (Ak n d)
 |0=>.nil
 |n+1=>.cons r (Q7 r n)
theorem LX {P:EL}(h:M[i]?=some (.own (.lst ds))) (p:JS K t (M.set i (.val (.lst ds))) P):JS K t M P:=
 JS.conv (λg G H Z k=>by
  obtain⟨a,c,d⟩:=k.take h;obtain⟨o,q,Q,_⟩:=id d;cases o with
  |lst vs=>
   obtain⟨f,s,r⟩:=(k.drop i).freeze d q;have b:=f.setVal (i:=i) (by simpa using (BZ.mp h).1) r;have e:Z.set i (some (.ref a)) = Z:=by
    apply Dz;intro j;by_cases hj:j=i
    ·subst hj;rw[B5 (k.lt h),c]
    ·rw[B9 (Ne.symm hj)]
   rw[e,List.set_set]at b;exact(_,s,b)
  |_=>exact absurd Q (λz=>z)) p
end
#check 2
#check 4
end
#check 1
end
#check 3
end
#check 0
end
def stp (m:Nat):Nat->Nat->Nat
 |0,i=>i
 |k+1,i=>(stp m k i*5+1) % (m+1)
def orb (m:Nat):Nat->Nat->List Nat
 |0,_=>[]
 |f+1,i=>i::orb m f ((i*5+1) % (m+1))
def SmP (k:Int × Int):Prop:=0<=k.1/\k.1<64/\0<=k.2/\k.2<2
#check 4
variable {hf:Int × Int->Int}(hfi:∀{a b:Int × Int},SmP a->SmP b->hf a=hf b->a=b)
include hfi
end
#check 0
variable {o e:Expr}{es:List Expr}{to:TE}{t:TA}{name:Str}{apos cpos:Pos}{id:String}{r:V->List V->Hp->VK->Prop}
end
end L2
namespace L2
open PySem PySem.Spec PyProof.Rows
#check 2
#check 0
end
#check 1
end
#check 2
theorem So:bootBuiltins "any" = some (.builtin "any"):=#[0]
#check 0
def rAny (K:W.Frag):List V->Hp->VK->Prop:=λs H Q=>∃(p:Addr) (bs:List Bool),s=[.ref p]/\SqL K H p (bs.map V.bl)/\Q (.bl<|bs.any id) H
theorem anyK (K:W.Frag) (hc:X.calm=true) (hK:X.K=K:=by rfl):CallR X (.builtin "any") (rAny K):=by
 subst hK;intro pins s Z H xs us Q I r h;obtain⟨p,S,rfl,x,q⟩:=h;obtain⟨u,rfl,U⟩:=vals1 r;cases (show u=Value.ref p from U);obtain⟨t,j,P,_⟩:=I.list x;have T:p<s.heap.objs.size:=by obtain⟨o,e,_⟩:=P.isList;exact Ax e
 have l:∀(S:List Bool) (t:List Value),Vals (S.map V.bl) t->t=S.map Value.bool:=by
  intro S
  induction S with
  |nil=>intro t h;cases h;rfl
  |cons b r ih=>intro t h;cases h with|cons h1 h2=>cases (show _=Value.bool b from h1);rw[ih _ h2];rfl
 have e:=l S t j;subst e;refine call_any_walk<|wpAny_pyIter_list P.isList ?_;refine(s.heap.objs.size,_,_,_,_,_,λi=>S.getD i false,rfl,Walks.list (prog:=X.prog) (w:=X.w) (A:=X.A.in1) (show X.A.in1.handled=none from I.ok.hd hc) s.heap.objs.size p (BF T) (S.map Value.bool).toArray,((_,Bl _ rfl,rfl,rfl),P.isList.push _),?_,λm n k=>?_)
 ·intro i v s0 Q0 E0 a f
  have a:(S.map Value.bool).toArray[i]?=some v:=a;have a:(S.map Value.bool)[i]?=some v:=#[10]
  rw[Ad]at a;cases z:S[i]? with
  |none=>rw[z]at a;cases a
  |some b=>
   rw[z]at a;have a:Value.bool b=v:=#[10]
   subst a;have E:S.getD i false=b:=by rw[Al,z];rfl
   have f:Q0 (S.getD i false) s0:=f;rw[E]at f;exact wpAny_truthy_bool f
 ·have e:(Af (S.map Value.bool).toArray.size).any (λi=>S.getD i false)=S.any id:=by
   rw[BC,AH];rw[GP,IK,IK];constructor
   ·rintro⟨i,c,d⟩
    rw[BD]at c;rw[Al,AS c]at d;exact(_,Br c,d)
   ·rintro⟨b,B,d⟩
    obtain⟨i,c,rfl⟩:=Eo.mp B;exact(i,BD.mpr c,by rw[Al,AS c];exact d)
  rw[e];have g:AJ X pins Z H { s with heap:=s.heap.push { cls:=.type "list_iterator",data:=.fields #[.ref p,.int 0 0] },toks:=s.toks }:=I.kept λb o e=>BA _ e;refine(.bl<|S.any id,H,g.turned (it:=s.heap.objs.size) (λb o B e=>k b o (by simpa using B) e) (I.hok.fresh<|AX _) (GN I.lt) (.inr I.sz) ?_ ?_,rfl,q)
  ·have:=I.fpOk (b:=s.heap.objs.size) (H':=H) (AX _) (I.hok.fresh<|AX _)
   exact this.2.2.2.2.1
  ·have:=I.fpOk (b:=s.heap.objs.size) (H':=H) (AX _) (I.hok.fresh<|AX _)
   exact this.2.2.2.2.2
end
#check 1
theorem Ti {bs:List Bool}(p:P (.bl<|bs.any id) M):JC K (rAny K) [.lst (bs.map D.bl)] M P:=λg G H Z Q v k S c=>by
 obtain⟨_,_,rfl,r,t⟩:=S.inv
 next=>
  cases t.inv;obtain⟨a,s,rfl,A,S⟩:=r.inv
  next=>
   have e:∀(bs:List Bool) (s:List V),Reps K G s (bs.map D.bl)->s=bs.map V.bl:=by
    intro bs
    induction bs with
    |nil=>intro s h;cases h;rfl
    |cons b r ih=>intro s h;cases h with|cons h1 h2=>cases h1;rw[ih _ h2];rfl
   have:=e bs s S;subst this;exact(_,bs,rfl,SqL.of<|k.live _ _ A,c _ _ G H M k (Same.refl _) (.bl _) p)
end
#check 2
#check 3
end
open PySem PySem.Spec PyProof.Rows PySem.Builtin PySem.Builtin.Str
#check 1
end
#check 3
end
#check 1
end
theorem QM {α:Type}(v:α):∀(m:Nat) (acc:Array α),(Ak m #[v]).foldl (· ++ ·) acc=acc++(Ak m v).toArray
 |0,acc=>#[4]
 |m+1,acc=>by
  rw[Gy,List.foldl_cons,QM v m,Gy];apply Array.toList_inj.mp;simp
theorem UW (l:Addr) (v:Value) (k:Nat) (d:Option Addr) (sl:Array (Option Value)) (x:Int) (u:Tok) (h0:2<=x) (h1:x<=1000) :
  Meets (Builtin.«tuple.__mul__» ([.ref l,.int x u],[])) (λ_ R s=>s.heap.get? l=some { cls:=.type "tuple",dict:=d,data:=.seq #[v] k,slots:=sl } /\ R (.ok (.ret<|Value.ref s.heap.objs.size)) { s with heap:=s.heap.push { cls:=Value.type "tuple",data:=Data.seq (Ak x.toNat v).toArray } }):=
 .of_wp λo w A R s h=>by
  obtain⟨p,g,d,t,S⟩:=s;obtain⟨L,h⟩:=h;have e:(decide (x < -(2 ^ 63:Int)) || decide (x >= 2 ^ 63))=false:=by rw[Bool.or_eq_false_iff];exact(A4 #[2],A4 #[2])
  have E:(x == 1)=false:=beq_eq_false_iff_ne.mpr #[2];have a:(decide (x<=0))=false:=A4 #[2];have i:((#[v]:Array Value).isEmpty || x == 1)=false:=by rw[E];rfl
  have j:(decide (x<=0) || (#[v]:Array Value).isEmpty)=false:=by rw[a];rfl
  have b:¬ ((#[v]:Array Value).size:Int)*x > (2 ^ 63-1) / 8:=by
   show ¬ ((1:Nat):Int)*x > (2 ^ 63-1) / 8;lia
  have c:Builtin.Tuple.tupleTooMany (((#[v]:Array Value).size:Int)*x)=false:=by
   unfold Builtin.Tuple.tupleTooMany;show decide _=false;exact A4 (by show ¬ ((1:Nat):Int)*x > _;have:=sizeLine_eq;lia)
  wp_walk
  simp only[e,CD,if_false]
  wp_walk
  rw[AL b,c,AL BL,QM,Array.empty_append];have f:¬ (Ak x.toNat v).toArray.size > sizeLine:=by
   rw[BC,Cc];have:=sizeLine_eq;lia
  wp_walk
  rw[AL f]
  wp_walk
  exact(_,rfl,h)
theorem UJ (l:Addr) (v:Value) (n:Nat) (d:Option Addr) (sl:Array (Option Value)) (u:Tok) :
  Meets (Builtin.«tuple.__mul__» ([.ref l,.int 1 u],[])) (λ_ R s=>s.heap.get? l=some { cls:=.type "tuple",dict:=d,data:=.seq #[v] n,slots:=sl } /\ R (.ok (.ret<|Value.ref l)) s):=
 .of_wp λo w A R s h=>by
  obtain⟨p,g,d,k,S⟩:=s;obtain⟨L,h⟩:=h
  wp_walk
  exact(_,rfl,h)
theorem UK (l:Addr) (v:Value) (n:Nat) (d:Option Addr) (sl:Array (Option Value)) (u:Tok) :
  Meets (Builtin.«tuple.__mul__» ([.ref l,.int 0 u],[])) (λ_ R s=>s.heap.get? l=some { cls:=.type "tuple",dict:=d,data:=.seq #[v] n,slots:=sl } /\ R (.ok (.ret<|Value.ref s.heap.objs.size)) { s with heap:=s.heap.push { cls:=Value.type "tuple",data:=Data.seq #[] } }):=
 .of_wp λo w A R s h=>by
  obtain⟨p,g,d,k,S⟩:=s;obtain⟨L,h⟩:=h
  wp_walk
  exact(_,rfl,h)
#check 0
def rMulT (K:W.Frag):R2:=λx y H Q=>∃(a:Addr) (u:V) (n:Int),x=.ref a/\y=.int n/\0<=n/\n<=1000/\SqT K H a [u]/\(n=1->Q (.ref a) H)/\(n≠1->∀l,H l=none->Q (.ref l) (upd H l (.tup<|Ak n.toNat u)))
theorem Zxa (K:W.Frag) (hK:X.K=K:=by rfl):OpR X (binaryOp .Mult) (rMulT K):=by
 subst hK;intro pins s Z H x y v u Q I rx ry h;obtain⟨a,z,m,rfl,rfl,j,e,A,f,q⟩:=h;cases rx;obtain⟨t,rfl⟩:=ry;obtain⟨S,r,p,_⟩:=I.tuple A;obtain⟨⟨cls,d,data,l⟩,O,c,n,D⟩:=id p;simp only at c D;subst c D;obtain⟨v,rfl,V⟩:=r.one;refine wpAny_binaryOp_repeat_ref (T:="tuple") (U:="int") #[1] (_,O,rfl) (λg=>typeIs_int g m t) UL F.fills_int_mul F.slot_int_rmul Uk F.slot_int_index.lookup
  (call_meets F.slot_int_rmul (typeIs_int s m t) F.entry_int_rmul (F.args_int_rmul_2 _ _) (UH m t a [v].toArray n d l)
   (O,rfl,(_,O,rfl),?_))
 by_cases e1:m=1
 ·subst e1
  exact call_meets F.slot_tuple_mul (_,O,rfl) F.entry_tuple_mul (F.args_tuple_mul_2 _ _) (UJ a v n d l t) (O,(.ref a,H,I,rfl,f rfl))
 have q:=q e1;have i:EP X pins Z Q (.ref s.heap.objs.size) { s with heap:=s.heap.push { cls:=Value.type "tuple",data:=Data.seq (Ak m.toNat v).toArray } }:=by
  refine(.ref s.heap.objs.size,_,I.laid (t':=s.toks) (o:=.tup<|Ak m.toNat z) (λb B q=>BA _ q) (AX _) ?_,rfl,q _<|I.hok.fresh<|AX _);exact(by rw[Cc];have:=sizeLine_eq;lia,Ak m.toNat v,QT V _,IsTupN.new _ _)
 by_cases e0:m=0
 ·subst e0
  exact call_meets F.slot_tuple_mul (_,O,rfl) F.entry_tuple_mul (F.args_tuple_mul_2 _ _) (UK a v n d l t) (O,i)
 ·exact call_meets F.slot_tuple_mul (_,O,rfl) F.entry_tuple_mul (F.args_tuple_mul_2 _ _) (UW a v n d l m t #[2] e) (O,i)
end
#check 3
theorem Zxr (h2:0<=n) (j:n<=1000) (p:P (.tup<|Ak n.toNat d) M):JR2 K (rMulT K) (.tup [d]) (.int n) M P:=λg G H Z Q x y k X Y c=>by
 cases Y.inv;obtain⟨a,U,rfl,h,S⟩:=X.inv;obtain⟨u,t,rfl,r,T⟩:=S.inv;cases T.inv;refine(a,u,n,rfl,rfl,h2,j,SqT.of<|k.live _ _ h,λe=>?_,λe l L=>?_)
 ·subst e;exact c _ _ G H M k (Same.refl _) (.tup h (.cons r .nil)) p
 obtain⟨b,s⟩:=k.laid L (.tup<|Ak n.toNat u);exact c _ _ _ _ M b s (.tup Bh<|Q7 (r.mono s) _) p
end
#check 1
end
#check 0
def rGetI:V->List V->Hp->VK->Prop:=λx s H Q=>∃a z kvs i,x=.ref a/\s=[.int i,z]/\H a=some (.dK kvs)/\Q ((valV kvs<|Sum.inl i).getD z) H
theorem Zxz (j:X.A.units+1<cLine):MtM X "dict.get" rGetI:=by
 intro pins s Z H x vs v us Q I rx rv h;obtain⟨a,z,S,i,rfl,rfl,c,q⟩:=h;cases rx;obtain⟨U,e,rfl,r,u⟩:=rv.two;exact Su j I (DGet.k (k:=Sum.inl i) c) r u λW d b w=>(_,H,b,w,q)
end
#check 3
theorem Wk (j:Paired (λ(p:AV × V) (q:AV × D)=>p.1=q.1/\Ap K G p.2 q.2) kvs kds) (k:AV) (J:Ap K G z dz):Ap K G ((valV kvs k).getD z) ((valD kds k).getD dz):=by
 cases h:valD kds k with
 |some d=>
  obtain⟨u,Z,a⟩:=NX j h;rw[Z];exact a
 |none=>
  have:=Ms (K:=K) (k:=k) j;rw[h]at this;rw[Option.isSome_eq_false_iff.mp this |> Option.isNone_iff_eq_none.mp];exact J
end
#check 0
end
#check 3
end
#check 2
theorem UO:isSubtype (.type "tuple") (.type "set")=pure false:=by rw[isSubtype_type];kernel_rfl
theorem UX:isSubtype (.type "tuple") (.type "frozenset")=pure false:=by rw[isSubtype_type];kernel_rfl
#check 4
theorem VT {S l:Addr}{its:Array Value}{ns:List Int}{N:Result->Shared->Prop}(hh:A.handled=none) (hS:s.heap.get? S=some (set0 w)) (hl:s.heap.IsTuple l its) (hi:IntsAre its.toList ns) (hb:its.size+1<scanBound)
  (q:∀h' tk,SetI prog w h' S (metK (λi=>ns.getD i 0) its.size)->(∀b o,b≠S->s.heap.get? b=some o->h'.get? b=some o)->N (.ok (.ret .none)) { s with heap:=h',toks:=tk }) :
  wpAny (model prog w) A.in1 (Builtin.«set.__init__» ([.ref S,.ref l],[])) (λfin s'=>match fin with|.done f=>N (.ok f) s'|.again c=>c.quiet=true/\codeAny (model prog w) A c N s') (λe s'=>N (.error e) s') s:=by
 have L:l≠S:=by
  obtain⟨o,e,c,_⟩:=hl;intro z;subst z;rw[hS]at e;cases e;exact absurd (show Value.type "set" = Value.type "tuple" from c) #[1]
 have lt:l<s.heap.objs.size:=by obtain⟨o,e,_⟩:=hl;exact Ax e
 have t:S<s.heap.objs.size:=Ax hS;obtain⟨⟨C,D,T,a⟩,g,h,r,d⟩:=id hl;simp only at h d;subst h d;have j:s.TypeIs (.ref S) "set":=(_,hS,rfl);have k:=UO;have K:=UX;have p:(Value.type "tuple" == Value.type "dict")=false:=#[1]
 unfold Builtin.«set.__init__» noKeywords Builtin.Frozenset.updateFrom;generalize hPI:pyIter=PI
 wp_walk
 subst hPI;refine wpAny_pyIter_tuple hl<|AE<|wpAny_runValue ?_;have n:l≠s.heap.objs.size:=BF lt;have E:S ∉ [s.heap.objs.size,l]:=by
  simp only[Az,DQ,or_false,not_or];exact(BF t,Ne.symm L)
 refine O5 (Walks.tuple (by simp[hh]) _ l n its).toS S E (λi=>ns.getD i 0) (λi v e=>IntsAre.int_at hi i v (by rw[Array.getElem?_toList];exact e)) hb its.size 0 _ #[3] (CS _) ((_,Bl _ rfl,rfl,rfl),hl.push _) ?_ λu m fin=>?_
 ·exact(_,#[],0,_,BA _ hS,(rfl,rfl,rfl),rfl,λe H=>by simp at H,#[1],by rfl,TabOk.fresh _,List.Perm.refl _,Ie)
 ·rw[Moved.eq_with m]
  refine AO<|AO (q _ _ fin λb o hb e=>m.heap b o ?_<|BA _ e);simp only[Az,DQ,or_false,not_or];exact(hb,BF<|Ax e)
set_option maxHeartbeats 3200000 in
theorem Vk {l:Addr}{its:Array Value}{ns:List Int}{Q:Ai}(hh:A.handled=none) (hl:s.heap.IsTuple l its) (hi:IntsAre its.toList ns) (hb:its.size+1<scanBound)
  (q:∀(h':Heap) (tk:Nat),SetI prog w h' s.heap.objs.size (metK (λi=>ns.getD i 0) its.size)->(∀b o,s.heap.get? b=some o->h'.get? b=some o)->Q (.ref s.heap.objs.size) { s with heap:=h',toks:=tk }) :
  wpAny (model prog w) A (call (.type "set") [.ref l]) Q E s:=by
 have t:=F.called_set;obtain⟨c,L,g⟩:=t.mro;have j:=t.made;have k:=t.sub;have m:=t.notType;have n:=t.canCreate;have p:=F.typeCall_set_1 (.ref l);refine wpAny_call<|codeAny_of_tree (show wpAny _ _ (callAny (.type "set") _) _ _ _ from AO (Code.quiet_builtin _ #[0],codeAny_builtin F.entry_type_call ?_));rw[Around.under_plain (weight_type_call_type _ _ _) rfl]
 repeat (any_goals (first|assumption|wp_step))
 refine codeAny_mono (QO (.ref l) (E:=E) (N:=λv a=>v=.ref s.heap.objs.size/\a = { s with heap:=s.heap.push (set0 w) }) (rfl,rfl)) λr a H=>?_;cases r with
 |error e=>exact H
 |ok fl=>
  cases fl with
  |ret v=>
   obtain⟨rfl,rfl⟩:=H;have S:(s.heap.push<|set0 w).get? s.heap.objs.size=some (set0 w):=Bl _ rfl;have T:Shared.TypeIs { s with heap:=s.heap.push (set0 w) } (.ref s.heap.objs.size) "set":=(_,S,rfl);have u:=t.init.lookup;have x:=t.init.bind (.ref s.heap.objs.size)
   repeat (any_goals (first|assumption|wp_step))
   refine codeAny_mono (codeAny_call_builtin (R:=wants (λr d=>r=.none/\Q (.ref s.heap.objs.size) d) E) t.init.plain F.entry_set_init<|check_set_init_1 T (VT (by simp[hh]) S (hl.push _) hi hb λh' tk z Z=>(rfl,q h' tk z λb o e=>Z b o (BF<|Ax e)<|BA _ e))) λf d h=>?_;cases f with
   |error e=>exact h
   |ok fl2=>
    cases fl2 with
    |ret r=>
     obtain⟨rfl,y⟩:=h
     repeat (any_goals (first|assumption|wp_step))
    |_=>exact h.elim
  |_=>exact H.elim
end
#check 0
def tSST (K:W.Frag) (ta:TA):TE:=λZ H Q=>ta Z H λs h=>∃(p:Addr) (ns:List Int),s=[.ref p]/\SqT K h p (ns.map V.int)/\ns.length<64/\∀(l:Addr) (ms:List Int),ms.Pairwise (· < ·)->(∀x,x∈ms↔x∈ns)->h l=none->Q (.ref l) (upd h l (.lst<|ms.map V.int))
theorem U9 {a:Expr}{ta:TA}{p p2 pos pos2:Pos}{K:W.Frag}(hK:X.K=K) (hc:X.calm=true) (hgL:Gl X "sorted") (hmL:X.mg "sorted" = none) (hgR:Gl X "set") (hmR:X.mg "set" = none) (ha:PA X [a] ta) (hs:starEach [a] X.env=[(false,eval a X.env)]:=by rfl)
  (he:starEach [.Call (.Name "set" p2) [a] [] pos2] X.env=[(false,eval (.Call (.Name "set" p2) [a] [] pos2) X.env)]:=by rfl) :
  PE X (.Call (.Name "sorted" p) [.Call (.Name "set" p2) [a] [] pos2] [] pos) (tSST K ta):=by
 subst hK;intro pins s Z H Q I h;refine wpAny_Call_Name_kw<|Dj I hgL hmL Hk ?_;refine PyProof.Rows.callWith_builtin1 ?_ he rfl;rw[he];show wpAny _ _ (spliced ((false,eval (.Call (.Name "set" p2) [a] [] pos2) X.env)::backTo pos [])) _ _ s;refine Calls.spliced_cons ?_;refine wpAny_Call_Name_kw<|Dj I hgR hmR LV ?_;refine PyProof.Rows.callWith_type1 (thn (ha pos2 pins s Z H _ I h) λus s1 (vs,H1,I1,r1,q1)=>?_) hs rfl;obtain⟨p,N,e,B,G,q⟩:=q1;subst e;obtain⟨u,rfl,U⟩:=vals1 r1;cases (show u=Value.ref p from U);obtain⟨t,F,E,O⟩:=I1.tuple B;have r:=EC F;have n:=r.length;refine Vk (I1.ok.hd hc) E (by simpa using r) (by rw[BC];unfold scanBound;omega) λj v S A=>?_;rw[show t.toArray.size=N.length by rw[BC];exact n]at S;refine Calls.spliced_nil ?_;have f:AJ X pins Z H1 { s1 with heap:=j,toks:=v }:=I1.kept A;have J:=LA (λi=>N.getD i 0) N.length;refine PJ (s:={ s1 with heap:=j,toks:=v }) (I1.ok.hd hc) S #[3] λz k R l T m c C L o b P d=>?_;have M:=P.length_eq;have D:m.Nodup:=by
  obtain⟨_,_,_,_,g⟩:=S;exact P.nodup_iff.mpr g.nd
 have y:=(f.laid (t':=k) C L (show ObjOk X.prog X.w _ z l (.lst<|m.map V.int) from (by rw[AH];exact CM (small1000 #[3]),T,c,GW b,o))).drew R;exact(.ref l,_,y,rfl,q l m (Pk d D) (λx=>P.mem_iff.trans MY)<|f.hok.fresh L)
end
#check 1
theorem Tt (h:JA K ta M λds M1=>∃ns:List Int,ds=[.tup (ns.map .int)]/\ns.length<64/\∀ms:List Int,ms.Pairwise (· < ·)->(∀x,x∈ms↔x∈ns)->Po (.lst<|ms.map .int) M1):JO K (tSST K ta) M Po:=λg G H Z Q k c=>
 h g G H Z _ k λS ds b j M1 d s R q=>by
  obtain⟨ns,e,L,p⟩:=q;subst e;obtain⟨_,_,rfl,r,t⟩:=R.inv
  next=>
   cases t.inv;obtain⟨a,u,rfl,A,i⟩:=r.inv
   next=>
    have v:=i.ints;subst v;refine(a,ns,rfl,SqT.of<|d.live _ _ A,L,λl ms o O L=>?_);obtain⟨f,D⟩:=d.fresh (od:=.lst<|ms.map .int) L (show OwnRep K b (.lst<|ms.map V.int) (.lst<|ms.map .int) from Reps.ofInts ms);exact c l _ b _ M1 f s D<|p ms o O
end
#check 2
#check 1
end
#check 0
end
#check 6
#check 6
section
variable {X:Cx}{pins:Ar}{Z:St}{H H':Hp}{s s':Shared}{c:Addr}{φ:Heap->Prop}
end
#check 6
section
variable {K:W.Frag}{g:Gm}{G G2 H H2:Hp}{Z:St}{M:AI}
end
section
variable {X:Cx}{tg:Expr}{K:W.Frag}
end
#check 4
end
#check 1
end
section
variable {X:Cx}{xa:Addr}{k:Nat}{x:Str}{ps:List Str}{sp:Addr->Sp}{e:Expr}{es:List Expr}{t:TA}{p pos:Pos}
end
#check 6
section
variable {X:Cx}{k i:Nat}{l:Addr}{fd:FuncData}{x:Str}{sp:Hp->VK->XK->Prop}{p pos:Pos}{E:XK}
end
#check 6
#check 7
end
#check 6
#check 2
section
variable {X:Cx}{pins:Ar}{Z:St}{H H':Hp}{s:Shared}{h':Heap}{a C T:Addr}{v:Value}
variable {M_:Model}{E:Ai}{Q:Unit->Shared->Prop}
end
section
variable {X:Cx}{pins:Ar}{Z:St}{H:Hp}{s:Shared}{fp:List Addr}{scope:Scope}{N:List Str}{E:XK}
end
section
variable {K:W.Frag}{M:AI}{E:XK}{Xp:Addr->Prop}
end
#check 1
end
#check 3
end
#check 2
def rNeIL (K:W.Frag):R2:=λx y H Q=>∃(a b:Addr) (ns ms:List Int),x=.ref a/\y=.ref b/\SqL K H a (ns.map V.int)/\SqL K H b (ms.map V.int)/\Q (.bl (!decide (ns=ms))) H
theorem QJ {ns ms:List Int}(h:ns.length=ms.length):((Af ns.length).all λj=>ns.getD j 0 == ms.getD j 0)=decide (ns=ms):=by
 rw[GP,DW,decide_eq_true_eq];constructor
 ·intro z
  refine GO h λi H a=>?_;have:=z i<|BD.mpr H;rw[Al,Al,AS H,AS a]at this;exact eq_of_beq this
 ·rintro rfl j _
  exact beq_self_eq_true _
#check 0
theorem neILK (K:W.Frag) (O:X.A.units+8<cLine) (J:X.K=K:=by rfl):OpR X (compareOp .NotEq) (rNeIL K):=by
 subst J;intro pins s Z H x y v u Q I rx ry h;obtain⟨a,b,n,m,rfl,rfl,o,B,q⟩:=h;cases rx;cases ry;obtain⟨i,C,p,_⟩:=I.list o;obtain⟨t,D,P,_⟩:=I.list B;have f:=EC C;have g:=EC D;have L:=f.length;have F:=g.length;by_cases hl:n.length=m.length
 ·have S:i.toArray.size=t.toArray.size:=by rw[BC,BC];lia
  refine RcNeAt.lists (A:=X.A) (s:=s) (e:=λj=>n.getD j 0 == m.getD j 0) p.isList P.isList S #[2] (λj c d=>?_) X.prog X.w _ _ ?_
  ·rw[BC]at c d
   obtain⟨T,k⟩:=intsAt f j c;obtain⟨r,l⟩:=intsAt g j d;rw[HD,HD,k,l];exact EqAt.int_int (A:=X.A.in1) (s:=s) (n.getD j 0) T (m.getD j 0) r
  ·rw[BC,show i.length=n.length by omega,QJ hl]
   exact(.bl _,H,I,rfl,q)
 ·have E:(i.toArray.size != t.toArray.size)=true:=by
   rw[BC,BC,bne_iff_ne];lia
  refine RcNeAt.lists_lengths (A:=X.A) (s:=s) p.isList P.isList E #[3] X.prog X.w _ _ ?_;rw[A4 (λz=>hl<|by rw[z])]at q;exact(.bl _,H,I,rfl,q)
theorem sortUK (K:W.Frag) (j:X.K=K:=by rfl):CallR X (.builtin "sorted") (λxs H Q=>rSortI K xs H Q\/rSortT K xs H Q):=CallR.or (sortIK K j)<|sortTK K j
end
#check 1
theorem Zw8 {ns ms:List Int}(p:P (.bl (!decide (ns=ms))) M):JR2 K (rNeIL K) (.lst<|ns.map .int) (.lst<|ms.map .int) M P:=λg G H Z Q x y k r Y c=>by
 obtain⟨a,v,rfl,h,s⟩:=r.inv;obtain⟨b,u,rfl,B,t⟩:=Y.inv;have e:=s.ints;have E:=t.ints;subst e E;exact(a,b,ns,ms,rfl,rfl,SqL.of<|k.live _ _ h,SqL.of<|k.live _ _ B,c _ _ G H M k (Same.refl _) (.bl _) p)
theorem Qk (h:JA K ta M λds M1=>∃ns:List Int,(ds=[.lst (ns.map .int)]\/ds=[.tup (ns.map .int)])/\ns.length<64/\∀ms:List Int,ms.Perm ns->ms.Pairwise (· <= ·)->Po (.lst<|ms.map .int) M1):JO K (tCB (λxs H Q=>rSortI K xs H Q\/rSortT K xs H Q) ta) M Po:=λg G H Z Q k c=>
 h g G H Z _ k λS ds d f M1 b s i q=>by
  obtain⟨ns,e,L,p⟩:=q;have n:∀(l:Addr) (ms:List Int),ms.Perm ns->ms.Pairwise (· <= ·)->f l=none->Q (.ref l) (upd f l (.lst<|ms.map V.int)):=λl ms o O L=>by
   obtain⟨j,D⟩:=b.fresh (od:=.lst<|ms.map .int) L (show OwnRep K d (.lst<|ms.map V.int) (.lst<|ms.map .int) from Reps.ofInts ms);exact c l _ d _ M1 j s D<|p ms o O
  rcases e with e|e
  ·subst e
   obtain⟨_,_,rfl,r,t⟩:=i.inv;cases t.inv;obtain⟨a,u,rfl,A,R⟩:=r.inv;have v:=R.ints;subst v;exact .inl (a,ns,rfl,SqL.of<|b.live _ _ A,L,n)
  ·subst e
   obtain⟨_,_,rfl,r,t⟩:=i.inv;cases t.inv;obtain⟨a,u,rfl,A,R⟩:=r.inv;have v:=R.ints;subst v;exact .inr (a,ns,rfl,SqT.of<|b.live _ _ A,L,n)
end
#check 2
section
variable {prog:Program}{w:World}{A:Around}{E:Ai}{h:Heap}{g:Array GenState}{d:Drawn}{t:Nat}{os:OsState}
variable {nm q:Str}{C N:Addr}{bs bm bmB:List Value}{hdct:Bool}{sn:List Str}{sub:List Value}{ab:Bool}{col:Option Bool}{dd:Option Addr}{k0 k1 k2 k3 k5:Option Value}{B newId initId:String}
end
section
variable {X:Cx}{pins:Ar}{Z:St}{H:Hp}{s:Shared}{a:Addr}{o:HO}
end
section
variable {M_:Model}{A:Around}{E:Ai}{env:Env}
#check 9
end
section
variable {X:Cx}{pins:Ar}{Z:St}{H H':Hp}{s:Shared}{h':Heap}{a C T:Addr}
variable {M_:Model}{E:Ai}{Q:Unit->Shared->Prop}
end
section
variable {prog:Program}{w:World}{A:Around}{E:Ai}{s:Shared}{env:Env}
#check 9
end
section
variable {prog:Program}{w:World}{A:Around}{E:Ai}{K:W.Frag}{s:Shared}{a C f:Addr}
end
#check 1
end
section
variable {K:W.Frag}{M:AI}{E:XK}{Xp:Addr->Int->Prop}{nx bk ct:AI->Prop}{rt:D->AI->Prop}{ro:OD->AI->Prop}
end
#check 7
end
#check 1
end
#check 3
theorem Ok.peekH {g:Gm}{G H:Hp}{Z:St}(k:Ok K g G H Z M) {i:Nat}{x:Slot}{ds:List D}(h:M[i]?=some x) (ho:x.od=some (.lst ds)) :
  ∃(g':Gm) (G':Hp),(∀b o,H b=some o->g'.Hz b=some o)/\Ok K g' G' H Z ((M.map onlyV).set i (.val (.lst ds)))/\Same G G' /\ ∀G2 H2 M2,Ok K g' G2 H2 Z M2->Ok K g G H2 Z M:=by
 obtain⟨a,o,W,r,w,A,F⟩:=k.own i x _ h ho;cases o with
 |lst vs=>
  have s:Same G (upd G a (.lst vs)):=λb u e=>by rw[As (CN e A)];exact e
  have t:i<(M.map onlyV).length:=by rw[AH];exact(BZ.mp h).1
  refine((λ_=>False,upd G a (.lst vs),H,λ_=>none),upd G a (.lst vs),λb o e=>e,(λb o _ e=>e,λb z=>z.elim,λb o e=>e,λb o e=>?_,λb o e=>(by cases e),?_,λj d e=>?_,λj y od E c=>?_,λj l y z od O b E c B C=>?_),s,λG2 H2 M2 m=>?_)
  ·refine(?_,.inr e)
   by_cases hb:b=a
   ·subst hb;rw[Bh]at e;cases e;exact r
   ·rw[As hb]at e;exact k.live b o e
  ·rw[Ff,AH];exact k.len
  ·by_cases hj:j=i
   ·subst hj
    rw[B5 t]at e;cases e;exact(.ref a,W,.lst Bh<|Reps.mono s w)
   ·rw[B9 (Ne.symm hj),Ad]at e
    cases z:M[j]? with
    |none=>rw[z]at e;cases e
    |some y=>
     rw[z]at e;cases y with
     |val d'=>
      have e:Slot.val d'=Slot.val d:=CF.inj e;cases e;obtain⟨v,q,Q⟩:=k.val j d z;exact(v,q,Q.mono s)
     |_=>cases e
  ·exfalso
   by_cases hj:j=i
   ·subst hj
    rw[B5 t]at E;cases E;cases c
   ·rw[B9 (Ne.symm hj),Ad]at E
    cases z:M[j]? with
    |none=>rw[z]at E;cases E
    |some y=>
     rw[z]at E;have E:onlyV y=_:=CF.inj E;rw[<- E,Qo]at c;cases c
  ·exfalso
   by_cases hj:j=i
   ·subst hj
    rw[B5 t]at E;cases E;cases c
   ·rw[B9 (Ne.symm hj),Ad]at E
    cases z:M[j]? with
    |none=>rw[z]at E;cases E
    |some y=>
     rw[z]at E;have E:onlyV y=_:=CF.inj E;rw[<- E,Qo]at c;cases c
  ·have p:∀b o,H b=some o->H2 b=some o:=λb o e=>m.same b o (λz=>z) e
   refine(λb o n e=>p b o<|k.same b o n e,λb n z=>?_,k.sub,λb o e=>(p b o (k.frz b o e).1,(k.frz b o e).2),λb o e=>?_,k.len,k.val,λj y od E c=>?_,k.dis)
   ·cases e:H b with
    |none=>exact k.lent b n e
    |some o=>rw[p b o e]at z;cases z
   ·obtain⟨q,Q,f⟩:=k.ext b o e
    exact(p b o q,Q,f)
   ·obtain⟨b,o,q,Q,f⟩:=k.own j y od E c
    exact(b,o,q,p b o Q,f)
 |_=>exact absurd w (λz=>z)
theorem QI:∀{es:List D}{vs:List V},(∀e∈es,plnD e)->Reps K G vs es->Reps K G' vs es
 |[],_,_,r=>by cases r;exact .nil
 |e::es,_,h,r=>by
  obtain⟨_,_,rfl,r,t⟩:=r.inv;exact .cons (RM (h e Bk) r)<|QI (λz Z=>h z<|Bs _ Z) t
theorem Zwy (h:M[i]?=some x) (ho:x.od=some (.lst ds)) (p:JO K t ((M.map onlyV).set i (.val (.lst ds))) λod _=>(∃es,od=.lst es/\∀e∈es,plnD e)/\Po od M):JO K t M Po:=λg G H Z Q k c=>by
 obtain⟨f,r,w,D,S,C⟩:=k.peekH h ho;have B:∀b,f.Hz b=none->H b=none:=λb e=>by
  cases q:H b with
  |none=>rfl
  |some o=>rw[w b o q]at e;cases e
 exact p f r H Z Q D λa od G2 H2 M2 k2 s2 pd ((es,e1,e2),q)=>by
  subst e1;obtain⟨o,I,n,L,J,N,O⟩:=pd;cases o with
  |lst vs=>
   have A:H a=none:=B a J;have E:=C G2 H2 M2 k2;refine c a _ G H2 M E (Same.refl _) (.lst vs,I,?_,?_,k.there A,?_,λj y d F s v=>?_) q
   ·exact QI e2 n
   ·cases z:G a with
    |none=>rfl
    |some u=>rw[k.live _ _ z]at A;cases A
   ·cases z:g.Xo a with
    |none=>rfl
    |some u=>rw[(k.ext _ _ z).1]at A;cases A
   ·obtain⟨b,o,l,m,_⟩:=k.own j y d F s
    rw[v]at l;cases l;rw[A]at m;cases m
  |_=>exact absurd n (λz=>z)
end
#check 8
end
#check 2
section
variable {prog:Program}{w:World}{K:Type}[DecidableEq K] {knd:KeyKind prog w K}{A:Around}{E:Ai}{s:Shared}
def intKeyed (v:Value):Prop:=∃i t,v=.int i t
theorem tellNot {O:List Value}(z:IsTupleKey knd s.heap ks a) (j:∀v∈O,intKeyed v) (h:Q false s):wpAny (model prog w) A (tableMayTell (.ref a) O) Q E s:=by
 unfold tableMayTell;split
 ·exact AO h
 ·refine AE (wpAny_eqIsQuiet_tuple z ?_)
  simp only[Fn,CD,if_false];refine AE ?_;refine wpAny_forIn_list _ (λe r S=>S=s/\r=(none,())/\∀v∈e,intKeyed v) _ ?_ ?_ _ _ (rfl,rfl,j)
  ·rintro x e r S ⟨rfl,rfl,R⟩
   obtain⟨i,t,rfl⟩:=R x Bk;rw[eqIsQuiet_byValue 8 rfl];refine AE<|AO ?_;simp only[Fn,CD,if_false];exact AO (rfl,rfl,λv V=>R v<|Bs _ V)
  ·rintro r S ⟨rfl,rfl,_⟩
   exact AO h
theorem Uh {es ep} (U:A.units<cLine) (z:IsTupleKey knd s.heap ks a) (ht:s.heap.IsTuple a items)
  (ho:s.heap.get? d=some o) (j:o.data=.dict es ep) (hi:∀e∈es,intKeyed e.key) (q:Q none s):wpAny (model prog w) A (dictFind d (.ref a) h) Q E s:=by
 have y:¬ (es.any λe=>e.key == Value.ref a && e.hash != h)=true:=by
  rw[<- Array.any_toList,IK];rintro⟨e,n,c⟩;obtain⟨i,t,k⟩:=hi e<|Array.mem_toList_iff.mp n;simp[k]at c
 have T:∀v∈(placesWithHash es.size (λi=>es[i]?.map (·.hash)) h).filterMap (λi=>es[i]?.map (·.key)),intKeyed v:=by
  intro v hv;obtain⟨i,_,I⟩:=Lo.mp hv;cases hei:es[i]? with
  |none=>rw[hei]at I;cases I
  |some e=>
   rw[hei]at I;obtain rfl:e.key=v:=by simpa using I
   exact hi e<|Array.mem_of_getElem? hei
 unfold dictFind
 try with_reducible refine Cv ?_
 refine AE<|wpAny_dictEntries ho j ?_;dsimp only;rw[AL (show ¬ ((Value.ref a::(placesWithHash es.size (λi=>es[i]?.map (·.hash)) h).filterMap (λi=>es[i]?.map (·.key))).all carriedByValue)=true by simp[carriedByValue])];rw[AL y];by_cases hone:(((placesWithHash es.size (λi=>es[i]?.map (·.hash)) h).filterMap (λi=>es[i]?.map (·.key))) == [Value.ref a])=true <;>
 (first|rw[AM hone]|rw[AL hone]) <;> (first|refine AE (AO ?_)|refine AE (tellNot z T ?_)) <;> (
  rw[AL #[4]];refine AE ?_;refine wpAny_forIn_list _ (λr b S=>S=s/\b=(none,none)) _ ?_ ?_ _ _ (rfl,rfl)
  ·rintro x r b S ⟨rfl,rfl⟩
   cases hx:es[x]? with
   |none=>
    dsimp only;exact AO (rfl,rfl)
   |some e=>
    obtain⟨i,t,k⟩:=hi e<|Array.mem_of_getElem? hx;dsimp only;by_cases hh:(e.hash == h)=true
    ·rw[AM hh]
     refine AE<|wpAny_dictEpoch ho j<|AE ?_;rw[k];refine EqAt.int_tuple i t ht U _ _ _ _<|AE<|wpAny_dictEpoch ho j ?_;show wpAny _ _ (if (ep != ep)=true then _ else _) _ E _;rw[AL #[4]];simp only[CD,if_false];refine AE<|EO ?_
     first|rw[AL #[4]]|skip
     first
      |exact AO (rfl,rfl)
      |exact AE (AO (AO (rfl,rfl)))
    ·rw[AL hh]
     exact AO (rfl,rfl)
  ·rintro b S ⟨rfl,rfl⟩
   exact AO q)
end
theorem Ox:∀{l:List α}{m:List β},Paired F l m->∀{i:Nat}{b:β},m[i]?=some b->∃a,l[i]?=some a/\F a b
 |_,_,.nil,i,b,h=>by simp at h
 |_,_,.cons h r,0,b,e=>by
  rw[List.getElem?_cons_zero]at e;cases e;exact(_,rfl,h)
 |_,_,.cons h r,i+1,b,e=>by
  rw[Ju]at e;obtain⟨a,H,c⟩:=Ox r e;exact(a,by rw[Ju];exact H,c)
theorem Zxp (h:keyIs (.inl i) v=true):intKeyed v:=by
 cases v <;> first|exact(_,_,rfl)|exact absurd h (by simp[keyIs,Value.isInt])
def rGetM:V->List V->Hp->VK->Prop:=λx s H Q=>∃a b z kvs,∃ks:List AV,x=.ref a/\s=[.ref b,z]/\H a=some (.dK kvs)/\(∀kv∈kvs,∃i,kv.1=Sum.inl i)/\H b=some (.tup<|ks.map kV)/\Q z H
def rGetIM:V->List V->Hp->VK->Prop:=λx s H Q=>rGetI x s H Q\/rGetM x s H Q
#check 0
theorem VR {prog:Program}{w:World}{d a:Addr}(hd:(d == sysModules)=false) (dflt:Value) :
  MeetsIn prog w (Builtin.«dict.get» ([.ref d,.ref a,dflt],[])) (λA R s=>A.in1.units<cLine/\∃(k:List AV) (items:Array Value) (o:Obj) (es:Array DictEntry) (ep:Nat),IsTupleKey (mixKind prog w) s.heap k a/\s.heap.IsTuple a items/\s.heap.get? d=some o/\o.data=.dict es ep/\(∀e∈es,intKeyed e.key) /\
   R (.ok (.ret dflt)) { s with toks:=s.toks+(k.length+1) }):=
 .of_wp λA R s (hu,k,items,o,es,ep,hkey,ht,ho,hdd,hi,h)=>by
  show wpAny _ _ (dictGet d (.ref a) >>= _) _ _ s;refine AE ?_;unfold dictGet
  try with_reducible refine Cv ?_
  refine AE<|wpAny_pyHash_tuple hu hkey<|AE<|Uh (s:={ s with toks:=s.toks+(k.length+1) }) hu hkey ht ho hdd hi ?_;refine AO ?_;show wpAny _ _ (Builtin.Dict.missed d (.ref a) >>= _) _ _ _;exact AE<|wpAny_missed_other hd<|AO (dflt,rfl,h)
theorem Zx7 (hu:X.A.units+1<cLine):MtM X "dict.get" rGetM:=by
 intro pins s Z H x vs v us Q I rx rv h;obtain⟨a,b,z,V,R,rfl,rfl,r,K,B,q⟩:=h;cases rx;obtain⟨u1,u2,rfl,U,Y⟩:=rv.two;cases (show u1=Value.ref b from U);obtain⟨hz,t,f,l,D⟩:=N9 I.hok r;obtain⟨N,w1,C,_⟩:=I.tuple<|SqT.of B;obtain⟨o,S,E,O,M,d,y,m,hn⟩:=D;have T:s.TypeIs (.ref a) "dict":=(o,O,M.1);refine call_meetsIn F.slot_dict_get T F.entry_dict_get (F.args_dict_get_3 _ _ _) (VR t u2) ((show (tupleKind<|mixKind X.prog X.w).room X.A.in1 from tupleKind_room_in1 hu),R,_,o,S,E,Gp I.hok B,C,O,d,λe u=>?_,z,H,I.tok _,Y,q);obtain⟨i,g,rfl⟩:=Array.mem_iff_getElem.mp u;have L:i<f.length:=by rw[<- m.length,Array.length_toList];exact g
 have G:S.toList[i]?=some S[i]:=by rw[Array.getElem?_toList];exact Array.getElem?_eq_getElem g
 obtain⟨W,k⟩:∃W,f[i]?=some W:=(_,AS L);obtain⟨n,z2⟩:=m.get? G (show f[i]?=some (W.1,W.2) from k);obtain⟨p,P,c,_⟩:=Ox l k;obtain⟨j,J⟩:=K p<|Bd P;rw[<- c,J,Vs]at n;exact Zxp n
theorem Qi (U:X.A.units+1<cLine):MtM X "dict.get" rGetIM:=by
 intro pins s Z H x vs v us Q I rx rv h;rcases h with h|h
 ·exact Zxz U pins s Z H x vs v us Q I rx rv h
 ·exact Zx7 U pins s Z H x vs v us Q I rx rv h
end
def keyDD:AV->D
 |.inl i=>.int i
 |.inr x=>.str x
theorem Mp {K:W.Frag}:∀{ks:List AV}{vs:List V},Reps K G vs (ks.map keyDD)->vs=ks.map kV
 |[],vs,h=>h.inv
 |.inl i::ks,vs,h=>by
  obtain⟨v,w,rfl,r,s⟩:=h.inv;cases r.inv;rw[Mp s];rfl
 |.inr x::ks,vs,h=>by
  obtain⟨v,w,rfl,r,s⟩:=h.inv;cases r.inv;rw[Mp s];rfl
#check 3
theorem Wo {n:Nat}{te tx:TE}{a2:List (AV × D)}(hx:M[n]?=some (.val<|dctD a2)) (hk:∀kd∈a2,∃i,kd.1=Sum.inl i) (h:JE K te M λe M1=>JE K tx M1 λz M2=>(∃i,e=.int i/\P ((valD a2 (.inl i)).getD z) M2)\/∃ks:List AV,e=.tup (ks.map keyDD)/\P z M2) :
  JE K (tBM K "dict" rGetIM (tVar n)<|tCons te<|tCons tx tNil) M P:=λg G H Z Q k c=>by
 obtain⟨X,W,T⟩:=k.val n _ hx;obtain⟨a,Y,rfl,l,L,O⟩:=T.inv;refine(.ref a,W,.inr (.inr (.inl (rfl,.inl (_,k.live _ _ l)))),h g G H Z _ k λv e t u M1 C S R F=>F g t u Z _ C λz U f j M2 d s o J=>?_);have A:=s _ _<|S _ _ l;rcases J with ⟨i,q,p⟩|⟨ks,q,p⟩
 ·subst q
  cases R.inv;have r:=Ql L ((O.mono S).mono s);rw[Zu1]at r;exact .inl (a,z,_,i,rfl,rfl,d.live _ _ A,c _ _ f j M2 d (S.trans s) (Wk r (.inl i) o) p)
 ·subst q
  obtain⟨b,ws,rfl,B,N⟩:=R.inv;have E:=Mp N;subst E;refine .inr (a,b,z,_,ks,rfl,rfl,d.live _ _ A,λm V=>?_,d.live _ _<|s _ _ B,c _ _ f j M2 d (S.trans s) o p);have y:=(J7 (show ((m.1,m.2):_×_)∈_ from V)).1;obtain⟨kd,w,x⟩:=A2.mp y;obtain⟨i,I⟩:=hk kd w;exact(i,by rw[<- x];exact I)
end
def flO:D->Bool
 |.int _=>true
 |.str _=>true
 |_=>false
def feqO:D->D->Bool
 |.int a,.int b=>a == b
 |.str a,.str b=>a == b
 |_,_=>false
theorem Zyz {K:W.Frag}(O:Ap K G x d) (Y:Ap K G y e) (L:RelV x v) (U:RelV y u) (hd:flO d=true) (J:flO e=true):EqAt A s v u (feqO d e):=by
 cases d with
 |int i=>
  cases O.inv;obtain⟨t,rfl⟩:=(show ∃t,v=Value.int i t from L);cases e with
  |int j=>
   cases Y.inv;obtain⟨T,rfl⟩:=(show ∃t,u=Value.int j t from U);exact EqAt.int_int i t j T
  |str z=>
   cases Y.inv;obtain⟨T,rfl⟩:=(show ∃t,u=Value.str z t from U);exact EqAt.int_str i t z T
  |_=>exact absurd J (by simp[flO])
 |str i=>
  cases O.inv;obtain⟨t,rfl⟩:=(show ∃t,v=Value.str i t from L);cases e with
  |int j=>
   cases Y.inv;obtain⟨T,rfl⟩:=(show ∃t,u=Value.int j t from U);exact EqAt.str_int i t j T
  |str z=>
   cases Y.inv;obtain⟨T,rfl⟩:=(show ∃t,u=Value.str z t from U);exact EqAt.str_str i t z T
  |_=>exact absurd J (by simp[flO])
 |_=>exact absurd hd (by simp[flO])
def rNeO (K:W.Frag):R2:=λx y H Q=>(∀b,Q (.bl b) H)/\∃(G:Hp) (a b:Addr) (xs ys:List V) (ds es:List D),Same G H/\Reps K G xs ds/\Reps K G ys es/\ds.all flO=true/\es.all flO=true/\x=.ref a/\y=.ref b/\SqT K H a xs/\SqT K H b ys
theorem neOK (K:W.Frag) (hv:X.A.units+8<cLine) (hK:X.K=K:=by rfl):OpR X (compareOp .NotEq) (rNeO K):=by
 subst hK;intro pins s Z H x y v u Q I rx ry h;obtain⟨q,G,a,b,xs,ys,d,S,sg,R,D,M,N,rfl,rfl,f,i⟩:=h;cases rx;cases ry;obtain⟨T,E,O,_⟩:=I.tuple f;obtain⟨t,F,U,_⟩:=I.tuple i;have l1:=E.length;have l2:=F.length;have l3:=R.length;have l4:=D.length;have z:=RcNeAt.tuples (A:=X.A) (s:=s) (e:=λj=>feqO (d.getD j .non)<|S.getD j .non) O U #[2] λj f i=>by
  have g:j<T.length:=by simpa using f
  have k:j<t.length:=by simpa using i
  have C:j<d.length:=#[2]
  have Y:j<S.length:=#[2]
  obtain⟨p,P,l⟩:=R.get<|AS C;obtain⟨r,m,n⟩:=D.get<|AS Y;obtain⟨va,V,o⟩:=E.get P;obtain⟨vb,c,B⟩:=F.get m;rw[AS g]at V;rw[AS k]at c;rw[HD,HD,CF.inj V,CF.inj c];have J:d.getD j .non=d[j]:=by rw[Al,AS C];rfl
  have L:S.getD j .non=S[j]:=by rw[Al,AS Y];rfl
  show EqAt _ _ _ _ (feqO (d.getD j .non)<|S.getD j .non);rw[J,L];exact Zyz l n o B (DW.mp M _<|Br C)<|DW.mp N _<|Br Y
 exact z X.prog X.w _ _ (.bl _,H,I,rfl,q _)
def tfO:D->Bool
 |.int _=>true
 |.tup ds=>ds.all flO
 |_=>false
def rNeQ (K:W.Frag):R2:=λx y H Q=>(∀b,Q (.bl b) H)/\∃(G:Hp) (d e:D),Same G H/\Ap K G x d/\Ap K G y e/\tfO d=true/\tfO e=true
theorem neQK (K:W.Frag) (J:X.A.units+8<cLine) (z:X.K=K:=by rfl):OpR X (compareOp .NotEq) (rNeQ K):=by
 subst z;intro pins s Z H x y v u Q I rx ry h;obtain⟨q,G,d,e,g,R,r,D,E⟩:=h;have U:X.A.units<cLine:=#[2]
 cases d with
 |int i=>
  cases R.inv;obtain⟨t,rfl⟩:=(show ∃t,v=Value.int i t from rx);cases e with
  |int j=>
   cases r.inv;obtain⟨T,rfl⟩:=(show ∃t,u=Value.int j t from ry);exact RcNeAt.int_int i t j T X.prog X.w _ _ (.bl _,H,I,rfl,q _)
  |tup es=>
   obtain⟨b,Y,rfl,B,f⟩:=r.inv;cases ry;obtain⟨S,o,P,_⟩:=I.tuple<|SqT.of<|g _ _ B;exact RcNeAt.int_tuple i t P U X.prog X.w _ _ (.bl _,H,I,rfl,q _)
  |_=>exact absurd E (by simp[tfO])
 |tup ds=>
  obtain⟨a,m,rfl,c,l⟩:=R.inv;cases e with
  |int j=>
   cases rx;cases r.inv;obtain⟨T,rfl⟩:=(show ∃t,u=Value.int j t from ry);obtain⟨k,n,p,_⟩:=I.tuple<|SqT.of<|g _ _ c;exact RcNeAt.tuple_int j T p U X.prog X.w _ _ (.bl _,H,I,rfl,q _)
  |tup es=>
   obtain⟨b,Y,rfl,B,f⟩:=r.inv;exact neOK X.K J rfl pins s Z H (.ref a) (.ref b) v u Q I rx ry (q,G,a,b,m,Y,ds,es,g,l,f,D,E,rfl,rfl,SqT.of<|g _ _ c,SqT.of<|g _ _ B)
  |_=>exact absurd E (by simp[tfO])
 |_=>exact absurd D (by simp[tfO])
theorem Zz5 {K:W.Frag}(j:tfO d=true) (z:tfO e=true) (p:∀b,P (.bl b) M):JR2 K (rNeQ K) d e M P:=λg G H Z Q x y k X Y c=>
 (λr=>c _ _ G H M k (Same.refl _) (.bl r)<|p r,G,d,e,k.live,X,Y,j,z)
#check 2
def rRemI:V->List V->Hp->VK->Prop:=λx s H Q=>∃(l:Addr) (ns:List Int) (i:Int),x=.ref l/\s=[.int i]/\H l=some (.lst<|ns.map V.int)/\i∈ns/\ns.length<=1000/\Q .non (upd H l (.lst ((ns.eraseIdx<|ns.idxOf i).map V.int)))
#check 0
theorem Pe {α β:Type}(f:α -> β):∀(l:List α) (j:Nat),(l.map f).eraseIdx j=(l.eraseIdx j).map f
 |[],_=>rfl
 |_::_,0=>rfl
 |a::l,j+1=>congrArg (f a :: ·) (Pe f l j)
theorem Zy3:MtM X "list.remove" rRemI:=by
 intro pins s Z H x vs v us Q I rx rv h;obtain⟨l,N,i,rfl,rfl,c,m,L,q⟩:=h;cases rx;obtain⟨u,rfl,U⟩:=rv.one;obtain⟨t,rfl⟩:=U;obtain⟨z,S,n,r,d,e⟩:=I.lstM c;have a:=EC r;have E:=a.length;have b:N.idxOf i<N.length:=List.idxOf_lt_length_iff.mpr m;have J:N.idxOf i<S.length:=#[3]
 refine call_meets F.slot_list_remove (_,e,rfl) F.entry_list_remove (F.args_list_remove_2 _ _)
  (MeetsSeq.list_remove l S.toArray n (.int i t) (isInt i) (λy Y=>eq_isInt i t a y (by simpa using Y)) (N.idxOf i) (by rw[BC];exact J) ?_ ?_ (by rw[BC];lia)) (e,?_)
 ·show isInt i S[N.idxOf i]=true
  rw[isInt_at i a _ J b];simpa using Lq b
 ·intro j hjs hlt
  show isInt i S[j]=false;rw[isInt_at i a j (by simpa using hjs) #[3]];exact ne_of_lt_idxOf hlt _
 ·refine(.non,_,I.lset (its':=S.eraseIdx<|N.idxOf i) c e ?_ ?_ ?_,rfl,q)
  ·show S.toArray.eraseIdxIfInBounds (N.idxOf i)=(S.eraseIdx<|N.idxOf i).toArray
   rw[OL]
  ·rw[<- Pe];exact r.eraseIdx _
  ·rw[AH,Ls b]
   lia
end
#check 1
theorem Zzk {n:Nat}{te:TE}{L:EL}{x:Slot}{J:List D}(U:M[n]?=some x) (ho:x.od=some (.lst J))
  (h:JE K te M λe M1=>∃(y:Slot) (ns:List Int) (i:Int),M1[n]?=some y/\y.od=some (.lst<|ns.map .int)/\e=.int i/\i∈ns/\ns.length<=1000/\L.nx (M1.set n<|y.put (.lst ((ns.eraseIdx<|ns.idxOf i).map .int)))) :
  JS K (tDrop<|tBM K "list" rRemI (tVar n)<|tCons te tNil) M L:=λg G H Z E k c=>by
 obtain⟨a,o,b,j,l,q,r⟩:=k.own n x _ U ho;cases o with
 |lst vs0=>
  refine(.ref a,b,.inl (rfl,_,SqL.of j),h g G H Z _ k λv d G1 H1 M1 k1 s1 r1 (y,ns,i,q1,q2,q3,q4,q5,p)=>?_);subst q3;cases r1.inv;obtain⟨A,O,w,m,W,s,t⟩:=k1.own n y _ q1 q2;rw[b]at w;cases w;cases O with
  |lst vs=>
   have f:vs=ns.map V.int:=(show Reps K G1 vs (ns.map D.int) from W).ints;subst f;exact(a,ns,i,rfl,rfl,m,q4,q5,c.nx Z G1 _ _ (k1.write q1 q2 b (show OwnRep K G1 (.lst ((ns.eraseIdx<|ns.idxOf i).map V.int)) (.lst ((ns.eraseIdx<|ns.idxOf i).map .int)) from Reps.ofInts _)) p)
  |_=>exact absurd W (λz=>z)
 |_=>exact absurd l (λz=>z)
theorem Zxf (J:M[n]?=some x) (ho:x.od=some (.lst<|ds++[d])) (p:P d (M.set n<|x.put (.lst ds))):JE K (tBM0 K "list" rPop<|tVar n) M P:=λg G H Z Q k c=>by
 obtain⟨a,o,b,e,h,m,q⟩:=k.own n x _ J ho;cases o with
 |lst vs=>
  have h:Reps K G vs (ds++[d]):=h;have L:=h.length;rw[A1,CO]at L;obtain⟨u,f,j⟩:=h.get (i:=ds.length) (d:=d) (by rw[Ci (AX _),HL];rfl);refine(.ref a,b,.inl (rfl,_,SqL.of e),a,vs,u,rfl,rfl,e,by rw[show vs.length-1=ds.length by lia];exact f,?_);have l:Reps K G vs.dropLast ds:=by
   have:=h.eraseIdx ds.length;rw[List.eraseIdx_append_of_length_le (AX _),HL]at this;rw[List.dropLast_eq_take,show vs.length-1=ds.length by omega];have E:vs.eraseIdx ds.length=vs.take ds.length:=by
    rw[OK,List.drop_of_length_le #[2],Bp]
   rw[<- E];simpa using this
  exact c u d G _ _ (k.write J ho b (show OwnRep K G (.lst vs.dropLast) (.lst ds) from l)) (Same.refl _) j p
 |_=>exact absurd h (λz=>z)
end
#check 2
#check 0
def tLS (K:W.Frag) (ta:TA):TE:=λZ H Q=>ta Z H λs h=>∃(p:Addr) (ns:List Int),s=[.ref p]/\SqL K h p (ns.map V.int)/\ns.length<64/\∀ms:List Int,ms.Nodup->(∀x,x∈ms↔x∈ns)->Q (.int (ms.length:Nat)) h
theorem WG {a:Expr}{ta:TA}{p p2 pos pos2:Pos}{K:W.Frag}(hK:X.K=K) (hc:X.calm=true) (hgL:Gl X "len") (hmL:X.mg "len" = none) (hgR:Gl X "set") (hmR:X.mg "set" = none) (ha:PA X [a] ta) (hs:starEach [a] X.env=[(false,eval a X.env)]:=by rfl)
  (he:starEach [.Call (.Name "set" p2) [a] [] pos2] X.env=[(false,eval (.Call (.Name "set" p2) [a] [] pos2) X.env)]:=by rfl) :
  PE X (.Call (.Name "len" p) [.Call (.Name "set" p2) [a] [] pos2] [] pos) (tLS K ta):=by
 subst hK;intro pins s Z H Q I h;refine wpAny_Call_Name_kw<|Dj I hgL hmL BN ?_;refine PyProof.Rows.callWith_builtin1 ?_ he rfl;rw[he];show wpAny _ _ (spliced ((false,eval (.Call (.Name "set" p2) [a] [] pos2) X.env)::backTo pos [])) _ _ s;refine Calls.spliced_cons ?_;refine wpAny_Call_Name_kw<|Dj I hgR hmR LV ?_;refine PyProof.Rows.callWith_type1 (thn (ha pos2 pins s Z H _ I h) λus s1 (vs,H1,I1,r1,q1)=>?_) hs rfl;obtain⟨p,S,e,l,L,q⟩:=q1;subst e;obtain⟨u,rfl,r⟩:=vals1 r1;cases (show u=Value.ref p from r);obtain⟨T,w,P,v⟩:=I1.list l;have d:=EC w;have n:=d.length;refine Pl (I1.ok.hd hc) P.isList (by simpa using d) (by rw[BC];unfold scanBound;omega) λb k c j=>?_;rw[show T.toArray.size=S.length by rw[BC];exact n]at c;refine Calls.spliced_nil ?_;have f:AJ X pins Z H1 { s1 with heap:=b,toks:=k }:=I1.kept j;have M:=LA (λi=>S.getD i 0) S.length;obtain⟨o,m,E,t,g⟩:=c;have z:=g.size;refine call_len_set (s:={ s1 with heap:=b,toks:=k }) g.get g.ex g.dat g.fit #[2] ?_;rw[z];exact(.int ((metK (λi=>S.getD i 0) S.length).length:Nat),H1,f.tok _,(_,rfl),q _ g.nd λx=>MY)
end
#check 1
theorem T9 (h:JA K ta M λds M1=>∃ns:List Int,ds=[.lst (ns.map .int)]/\ns.length<64/\∀ms:List Int,ms.Nodup->(∀x,x∈ms↔x∈ns)->P (.int (ms.length:Nat)) M1):JE K (tLS K ta) M P:=λg G H Z Q k c=>
 h g G H Z _ k λS ds d f M1 b s R q=>by
  obtain⟨ns,e,l,p⟩:=q;subst e;obtain⟨_,_,rfl,r,t⟩:=R.inv
  next=>
   cases t.inv;obtain⟨a,u,rfl,A,i⟩:=r.inv
   next=>
    have v:=i.ints;subst v;exact(a,ns,rfl,SqL.of<|b.live _ _ A,l,λms o O=>c _ _ d f M1 b s (.int _)<|p ms o O)
end
end L2
set_option Elab.async false
set_option linter.all false
set_option maxRecDepth 100000
set_option maxHeartbeats 4000000
namespace L2
#check 2
def rEqIL (K:W.Frag):R2:=λx y H Q=>∃(a b:Addr) (ns ms:List Int),x=.ref a/\y=.ref b/\SqL K H a (ns.map V.int)/\SqL K H b (ms.map V.int)/\Q (.bl<|decide (ns=ms)) H
#check 0
theorem eqILK (K:W.Frag) (O:X.A.units+8<cLine) (J:X.K=K:=by rfl):OpR X (compareOp .Eq) (rEqIL K):=by
 subst J;intro pins s Z H x y v u Q I rx ry h;obtain⟨a,b,n,m,rfl,rfl,o,B,q⟩:=h;cases rx;cases ry;obtain⟨i,C,p,_⟩:=I.list o;obtain⟨t,D,P,_⟩:=I.list B;have f:=EC C;have g:=EC D;have L:=f.length;have F:=g.length;by_cases hl:n.length=m.length
 ·have S:i.toArray.size=t.toArray.size:=by rw[BC,BC];omega
  refine RcAt.lists (A:=X.A) (s:=s) (e:=λj=>n.getD j 0 == m.getD j 0) p.isList P.isList S #[3] (λj c d=>?_) X.prog X.w _ _ ?_
  ·rw[BC]at c d
   obtain⟨T,k⟩:=intsAt f j c;obtain⟨r,l⟩:=intsAt g j d;rw[HD,HD,k,l];exact EqAt.int_int (A:=X.A.in1) (s:=s) (n.getD j 0) T (m.getD j 0) r
  ·rw[BC,show i.length=n.length by omega,QJ hl]
   exact(.bl _,H,I,rfl,q)
 ·have E:(i.toArray.size != t.toArray.size)=true:=by
   rw[BC,BC,bne_iff_ne];omega
  refine RcAt.lists_lengths (A:=X.A) (s:=s) p.isList P.isList E #[3] X.prog X.w _ _ ?_;rw[A4 (λz=>hl<|by rw[z])]at q;exact(.bl _,H,I,rfl,q)
end
#check 1
theorem Zyg {ns ms:List Int}(p:P (.bl<|decide (ns=ms)) M):JR2 K (rEqIL K) (.lst<|ns.map .int) (.lst<|ms.map .int) M P:=λg G H Z Q x y k r Y c=>by
 obtain⟨a,v,rfl,h,s⟩:=r.inv;obtain⟨b,u,rfl,B,t⟩:=Y.inv;have e:=s.ints;have E:=t.ints;subst e E;exact(a,b,ns,ms,rfl,rfl,SqL.of<|k.live _ _ h,SqL.of<|k.live _ _ B,c _ _ G H M k (Same.refl _) (.bl _) p)
theorem Zvr (h:M[i]?=some x) (ho:x.od=some (.lst ds)) (p:JE K t ((M.map onlyV).set i (.val (.lst ds))) λd _=>plnD d/\P d M):JE K t M P:=λg G H Z Q k c=>by
 obtain⟨j,e,_,l,_,a⟩:=k.peekH h ho;exact p j e H Z Q l λv d f b m n _ r q=>c v d G b M (a f b m n) (Same.refl _) (RM q.1 r) q.2
end
end L2
set_option Elab.async false
set_option linter.all false
set_option maxRecDepth 100000
set_option maxHeartbeats 4000000
namespace Lw
open PySem L2
def top (i:Nat):Stmt:=PySem.Challenge.pw_holefloor_k61_whole_no_more_holes.main.body.getD i (.Pass (0,0,0,0))
abbrev KO:Stmt:=top 7
abbrev L6:Stmt:=top 8
abbrev L7:Stmt:=top 11
abbrev L8:Stmt:=top 12
abbrev KP:Stmt:=top 13
abbrev L9:Stmt:=top 14
abbrev HM:Stmt:=top 15
abbrev MA:Stmt:=top 16
abbrev Io:Stmt:=top 18
abbrev KQ:Stmt:=top 19
abbrev J8:Stmt:=top 20
abbrev J9:Stmt:=top 22
abbrev KA:Stmt:=top 23
abbrev HN:Stmt:=top 24
abbrev MB:Stmt:=top 25
abbrev MC:Stmt:=top 26
abbrev MD:Stmt:=top 28
abbrev ME:Stmt:=top 29
abbrev MF:Stmt:=top 30
abbrev MG:Stmt:=top 32
abbrev MH:Stmt:=top 33
abbrev KC:Stmt:=top 34
abbrev MI:Stmt:=top 36
abbrev KG:Stmt:=top 37
abbrev Ip:Stmt:=top 38
abbrev MJ:Stmt:=top 39
abbrev KH:Stmt:=top 40
abbrev Iq:Stmt:=top 41
abbrev Ir:Stmt:=top 42
abbrev HP:Stmt:=top 43
abbrev MK:Stmt:=top 44
abbrev KI:Stmt:=top 46
abbrev ML:Stmt:=top 47
abbrev HQ:Stmt:=top 48
abbrev MM:Stmt:=top 49
abbrev MN:Stmt:=top 50
abbrev KJ:Stmt:=top 51
abbrev KL:Stmt:=top 52
abbrev MP:Stmt:=top 53
abbrev HR:Stmt:=top 54
abbrev Fo:Stmt:=top 55
local macro_rules | `(tactic| walk_at "sc")=>`(tactic| exact (rfl,rfl,rfl,#[0],rfl,#[0],#[0]))
theorem OT:FnScope ["thing"] ["thing"] (defScope KO):=#[5]
theorem SO:FnScope ["thing"] ["thing"] (defScope L6):=#[5]
theorem SQ:FnScope ["web","place"] ["web","place"] (defScope L7):=#[5]
theorem SR:FnScope ["web","tie"] ["web","tie"] (defScope L8):=#[5]
theorem SS:FnScope ["web","place"] ["web","place"] (defScope KP):=#[5]
theorem SU:FnScope ["web","end"] ["web","end"] (defScope L9):=#[5]
theorem FU:FnScope ["web","many","ties","firsts","a","b","low","high"] ["web"] (defScope HM):=#[5]
theorem MQ:FnScope ["web","many","ties"] ["web"] (defScope MA):=#[5]
theorem HS:FnScope ["web","paper","many","ties","rest","parts","odd"] ["web","paper"] (defScope Io):=#[5]
theorem SV:FnScope ["web","thing"] ["web","thing"] (defScope KQ):=#[5]
theorem SW:FnScope ["ties","part"] ["ties","part"] (defScope J8):=#[5]
theorem SX:FnScope ["web","rows"] ["web","rows"] (defScope J9):=#[5]
theorem SY:FnScope ["ends","row"] ["ends","row"] (defScope KA):=#[5]
theorem HU:FnScope ["ends","at"] ["ends"] (defScope HN):=#[5]
theorem OU:FnScope ["web","order","end","row"] ["web","order","end"] (defScope MB):=#[5]
theorem ON:FnScope ["web","order","end","row"] ["web","order","end"] (defScope MC):=#[5]
theorem GS:FnScope ["web","order","one","other","many","ties","first","second","end","rows"] ["web","order","one","other"] (defScope MD):=#[5]
theorem OO:FnScope ["web","order","corner","place"] ["web","order","corner"] (defScope ME):=#[5]
theorem OP:FnScope ["row","corner","end","at"] ["row","corner","end"] (defScope MF):=#[5]
theorem Sa:FnScope ["web","order","end"] ["web","order","end"] (defScope MG):=#[5]
theorem KN:FnScope ["web","order","end","face","come"] ["web","order","end"] (defScope MH):=#[5]
theorem HV:FnScope ["web","order","told","gone","end","face","come"] ["web","order"] (defScope KC):=#[5]
theorem MR:FnScope ["web","paper","tree","pairs"] ["web","paper"] (defScope MI):=#[5]
theorem MS:FnScope ["web","tree","many","ties"] ["web","tree"] (defScope KG):=#[5]
theorem OQ:FnScope ["web","tree","pairs","numbers"] ["web","tree","pairs"] (defScope Ip):=#[5]
theorem Sb:FnScope ["web","pair"] ["web","pair"] (defScope MJ):=#[5]
theorem Sd:FnScope ["web","one","other"] ["web","one","other"] (defScope KH):=#[5]
theorem Iu:FnScope ["web","paper","ties","floor","tie"] ["web","paper"] (defScope Iq):=#[5]
theorem KR:FnScope ["web","paper","tree","pairs","turn"] ["web","paper"] (defScope Ir):=#[5]
theorem Fp:FnScope ["floor","tie","web","order","bounds","ways","unlike","one","other"] ["floor","tie"] (defScope HP):=#[5]
theorem Se:FnScope ["order","place"] ["order","place"] (defScope MK):=#[5]
theorem Sf:FnScope ["_law_script"] ["_law_script"] (defScope KI):=#[5]
theorem GU:FnScope ["_law_pen_here","_law_many","_law_digit","_law_at","_law_cell","_law_number"] ["_law_pen_here","_law_many"] (defScope ML):=#[5]
theorem KS:FnScope ["_law_pen_here","_law_web","_law_rows","_law_k","_law_row","!0","!1","!2","!3","!4","!5","!6","!7","!8","!9","!10","!11","!12","!13","!14","!15","!16","!17","!18","!19","!20","!21","!22","!23","!24"] ["_law_pen_here","_law_web"] (defScope HQ):=#[5]
theorem D3:FnScope ["_law_pen_here","_law_places","_law_ties","_law_many","_law_more","_law_shape","_law_found","_law_k","_law_other","_law_a","_law_b"] ["_law_pen_here","_law_places","_law_ties"] (defScope MM):=#[5]
theorem Sg:FnScope ["_law_end"] ["_law_end"] (defScope MN):=#[5]
theorem Et:FnScope ["_law_order_here","_law_behind","_law_row","_law_k","_law_found","_law_met","_law_end","_law_walk","_law_at"] ["_law_order_here"] (defScope KJ):=#[5]
theorem Fq:FnScope ["_law_web","_law_marks","_law_a","_law_b","_law_low","_law_high","_law_place","_law_found","_law_first"] ["_law_web"] (defScope KL):=#[5]
theorem OR:FnScope ["_law_web","_law_order_here","_law_twice"] ["_law_web","_law_order_here"] (defScope MP):=#[5]
theorem Eu:FnScope ["_law_pen_here","_law_web","_law_order_here","_law_tie","_law_tree","_law_left","_law_pairs","_law_one_here","_law_some","_law_other"] ["_law_pen_here","_law_web"] (defScope HR):=#[5]
theorem Ew:FnScope ["_law_script","_law_pen_here","_law_web","_law_paper","_law_orders","_law_k","_law_greatest","_law_some","_law_bar"] ["_law_script"] (defScope Fo):=#[5]
def Mb (mg:Str->Option Value):Prop:=∀x∈["abs","all","any","bool","enumerate","int","isinstance","len","list","max","min","range","set","sorted","tuple"],mg x=none
local macro_rules | `(tactic| walk_at "js")=>`(tactic| first
 |with_reducible refine Ae (t:=tAsg _ _) ?_
 |with_reducible refine Ae (t:=tPar _ _ _) ?_
 |with_reducible refine Ae (t:=tDrop _) ?_
 |with_reducible refine iteF ?_
 |with_reducible refine iteT ?_
 |with_reducible refine B6 ?_
 |with_reducible refine BK ?_
 |with_reducible refine B4 ?_
 |with_reducible refine Nu ?_
 |with_reducible refine BM ?_
 |refine Fz rfl rfl ?_
 |refine Hq rfl rfl ?_
 |with_reducible refine AN ?_
 |with_reducible refine UG ?_
 |with_reducible refine AY ?_
 |with_reducible refine Jk ?_
 |with_reducible refine Ji ?_
 |with_reducible refine Ct ?_
 |with_reducible refine Ag ?_
 |with_reducible refine BR ?_
 |refine DT rfl rfl ?_
 |refine RY rfl rfl ?_
 |with_reducible refine CL ?_
 |with_reducible refine Ds ?_
 |with_reducible refine TF ?_
 |with_reducible refine LQ ?_
 |with_reducible refine FF ?_
 |with_reducible refine TM ?_
 |with_reducible refine JQ ?_
 |with_reducible refine E7 ?_
 |with_reducible refine FA ?_
 |with_reducible refine AK ?_
 |with_reducible refine AD ?_
 |with_reducible refine Be ?_
 |with_reducible refine FD ?_
 |with_reducible refine EK ?_
 |with_reducible refine Cg ?_
 |with_reducible refine CI ?_
 |with_reducible refine Df ?_
 |with_reducible refine Cn ?_
 |with_reducible refine EJ ?_
 |with_reducible refine DU ?_
 |with_reducible refine DV ?_
 |with_reducible refine Jj ?_
 |with_reducible refine Tu ?_
 |with_reducible refine EI ?_
 |with_reducible refine BW ?_
 |refine AA rfl ?_
 |refine A7 rfl ?_
 |refine Dt rfl ?_
 |refine Bg (Or.inl rfl) ?_
 |refine Bg (Or.inr rfl) ?_
 |refine DS (Or.inl rfl) ?_
 |refine DS (Or.inr rfl) ?_
 |refine Je (Or.inl rfl) ?_
 |refine Je (Or.inr rfl) ?_
 |refine LC ?_
 |refine((_,_,rfl,rfl),?_)
 |refine(_,_,_,_,rfl,rfl,rfl,rfl,?_)
 |refine(_,rfl,?_)
 |refine jr_I (by first|(show (0:Int)<_;omega)|exact(#[3],#[3])|exact Or.inl (#[3],#[3])|exact Or.inr (#[3],#[3])|exact(#[1],#[1],#[1])) ?_)
local macro_rules | `(tactic| walk_at "draw")=>`(tactic| first|refine D6 rfl rfl (by assumption) #[3] #[3] λ_ _ _ _ _=>?_|refine(_,_,rfl,rfl,by assumption,_,rfl,#[3],#[3],λ_ _ _ _ _=>?_))
def Bm (ps:List D):Prop:=∃(cs:List Int) (at_ num:Int),ps=[.lst (cs.map .int),.int at_,.int num]/\0<=at_/\0<=num/\cs.length<=63
def GD:BSp:=λp s t=>Bm p/\∃m:Int,s=[.int m]/\1<=m/\m<=100000000000000000000000000000000000000000000000000000000000/\∀r ps',Bm ps' -> 0<=r->r<m->t (.int r) ps'
abbrev LendQ (f:BSp) (i:Nat) (P:D->AI->Prop):List D->AI->Prop:=λds M1=>∃y ps,M1[i]?=some y/\y.od=some (.lst ps)/\f ps ds λd ps'=>P d (M1.set i<|y.put (.lst ps'))
theorem DT (j:M[i]?=some x) (ho:x.od=some od) (h:JA K ta M (LendQ f i P)):JE K (tCall (spB K f) [] E<|tCons (tVar i) ta) M P:=RY j ho h
theorem D6 {M1:AI}{i:Nat}{y:Slot}{ps:List D}{m:Int}{P:D->AI->Prop}(z:M1[i]?=some y) (ho:y.od=some (.lst ps)) (j:Bm ps) (h1:1<=m) (h2:m<=100000000000000000000000000000000000000000000000000000000000) (h:∀r ps',Bm ps' -> 0<=r->r<m->P (.int r) (M1.set i<|y.put (.lst ps'))) :
  LendQ GD i P [.int m] M1:=(y,ps,z,ho,j,m,rfl,h1,h2,h)
theorem Hw {K:W.Frag}{M:AI}{E:XK}{i:Nat}{y:Slot}{ps:List D}{m:Int}{P:D->AI->Prop}(j:M[i]?=some y) (ho:y.od=some (.lst ps)) (z:Bm ps) (h1:1<=m) (h2:m<=100000000000000000000000000000000000000000000000000000000000) (h:∀r ps',Bm ps' -> 0<=r->r<m->P (.int r) (M.set i<|y.put (.lst ps'))) :
  JE K (tCall (spB K GD) [] E<|tCons (tVar i)<|tCons (tC (.int m)) tNil) M P:=DT j ho<|AD<|AY<|AK<|D6 j ho z h1 h2 h
#check 5
theorem Zwz (z:Mb mg) (F:BE K "_law_draw" "_law_draw" ML f fd):FnOk P w K mg base CX0 1 f fd ["_law_pen_here","_law_many"] (spB K GD):=by
 refine F.ok GU (LJ λp e o h=>by obtain⟨_,m,rfl,_⟩:=h;rfl) λv A r s H V Q E R h=>?_;have U:=BX R;refine(_,(AU (B8 (BS Gw (Ab (ixK K U) (pv 0) AQ λ_ _=>rfl) AQ<|nomark _) (AU (Av (i:=2) GU.nd rfl (Or.inl rfl)<|Ac DM (Ab (ixK K U) (pv 0) AQ λ_ _=>rfl)<|pv 1)<|AU (DL (Ac NK (Ab (ixK K U) (pv 0) AQ λ_ _=>rfl)<|pv 1)<|F1 (pv 0) AQ<|setU U)<|Ah<|A8<|pv 2) B7)<|AU (Av (i:=3) GU.nd rfl (Or.inl rfl)<|Ab (ixK K U) (pv 0) AQ λ_ _=>rfl)<|AU (DL (Ac (addK K) (pv 3) AQ)<|F1 (pv 0) AQ<|setU U)<|AU (Av (i:=4) GU.nd rfl (Or.inl rfl) AQ)<|AU (B8 (BS Gw (Aj (lenK K) rfl (z "len" #[1]) BN<|AB (Ab (ixK K U) (pv 0) AQ λ_ _=>rfl) AF) AQ<|nomark _) (Ah<|Av (i:=4) GU.nd rfl (Or.inl rfl)<|Ab (ixK K U) (Ab (ixK K U) (pv 0) AQ λ_ _=>rfl) (Ac DM (pv 3)<|Aj (lenK K) rfl (z "len" #[1]) BN<|AB (Ab (ixK K U) (pv 0) AQ λ_ _=>rfl) AF) λ_ _=>rfl) B7)<|AU (B8 (PW.pt<|pw_and (BS Gu (pv 3) (Aj (lenK K) rfl (z "len" #[1]) BN<|AB (Ab (ixK K U) (pv 0) AQ λ_ _=>rfl) AF)<|nomark _)<|pw_and1<|BS Oa (Aj NQ rfl (z "abs" #[1]) N3<|AB (pv 4) AF) (Ac TC AQ AQ)<|nomark _) (AU (DL (Ac NK (Aj NQ rfl (z "abs" #[1]) N3<|AB (pv 4) AF)<|pv 1)<|F1 (pv 0) AQ<|setU U)<|Ah<|A8<|Ac DM (Aj NQ rfl (z "abs" #[1]) N3<|AB (pv 4) AF)<|pv 1) B7)<|AU (Av (i:=5) GU.nd rfl (Or.inl rfl)<|Ac DM (Ac D8 (Ac (addK K) (Ac (addK K) (Ac DM (pv 4) AQ)<|Ac D8 AQ<|pv 3) AQ) AQ) AQ)<|AU (Av (i:=5) GU.nd rfl (Or.inl rfl)<|Ac DM (Ac (addK K) (Ac (addK K) (Ac D8 (pv 5)<|pv 5)<|Ac D8 AQ<|pv 5)<|pv 3) AQ)<|Ah<|A8<|Ac DM (Ac NK (Ac DM (Ac D8 (pv 5) AQ) AQ) AQ)<|pv 1),Lb (λp e o k=>?_) h);obtain⟨⟨S,t,u,rfl,g,d,a⟩,m,rfl,n,x,q⟩:=k;refine(#[4],?_);dsimp only[cxOf,startD,BV,BJ,BQ,Ak];refine B3 (λM=>¬ 0<u /\ M = [.bor (.lst [.lst (S.map .int),.int t,.int u]),.val (.int m),.any,.any,.any,.any]) ?_ ?_
 ·repeat walk_at "js"
  refine ite2 (λc=>?_) λc=>?_
  ·have c:=of_decide_eq_true c
   repeat walk_at "js"
   exact q _ _ (S,t,u / m,rfl,g,Int.ediv_nonneg d #[2],a) (Ic _ #[2]) (IX _ #[3])
  ·repeat walk_at "js"
   exact(of_decide_eq_false<|FR.mpr c,rfl)
 rintro b ⟨N,rfl⟩
 repeat walk_at "js"
 refine B3 (λM=>∃c:Int,M = [.bor (.lst [.lst (S.map .int),.int (t+1),.int u]),.val (.int m),.any,.val (.int t),.val (.int c),.any]) ?_ ?_
 ·repeat walk_at "js"
  refine ite2 (λc=>?_) λc=>?_
  ·have c:=of_decide_eq_true c
   rw[AH]at c
   repeat walk_at "js"
   rw[AH]
   repeat walk_at "js"
   obtain⟨l,_,C⟩:=Nn (f:=D.int) (xs:=S) (i:=t % (S.length:Int)) (Ic _ #[2]) (IX _ #[3]);refine Dt C ?_;exact(l,rfl)
  ·repeat walk_at "js"
   exact(11,rfl)
 rintro b ⟨l,rfl⟩;refine B3 (λM=>M = [.bor (.lst [.lst (S.map .int),.int (t+1),.int u]),.val (.int m),.any,.val (.int t),.val (.int l),.any]) ?_ ?_
 ·repeat walk_at "js"
  refine ite2 (λc=>?_) λc=>?_
  ·repeat walk_at "js"
   refine ite2 (λc=>?_) λc=>?_
   ·repeat walk_at "js"
    have j:0<=(if l<0 then -l else l):=by split <;> omega
    exact q _ _ (S,t+1,_,rfl,#[2],Int.ediv_nonneg j #[2],a) (Ic _ #[2]) (IX _ #[2])
   ·repeat walk_at "js"
    rfl
  ·repeat walk_at "js"
   rfl
 rintro b rfl
 repeat walk_at "js"
 exact q _ _ (S,t+1,u,rfl,#[2],d,a) (Ic _ #[3]) (IX _ #[3])
end
def fPen:NSp:=λs t=>∃ns:List Int,s=[.scr (ns.map .int)]/\ns.length<=63/\∀ps,Bm ps->t ps
#check 5
theorem To (z:Mb mg) (F:BE K "_law_pen" "_law_pen" KI f fd):FnOk P w K mg base CX0 1 f fd ["_law_script"] (spN K fPen):=by
 refine F.ok Sf (Gg λS t h=>by obtain⟨n,rfl,_⟩:=h;rfl) λv A r s H V Q E R h=>?_;have u:=BX R;refine(_,(Ah<|A8<|Dk<|AB (Ce ["_law_cell"] (show CompSc (defScope KI) ["_law_script"] _ [] [] from (rfl,#[0],#[0],#[0],rfl,#[0])) rfl (seqK K<|E3 (slK K) (pv 0) FC<|E9 AQ) (λ_ _ _ _ _=>(An (i:=0) (show List.Nodup (["_law_cell"]:List Str) from #[1]) rfl<|Or.inl rfl)) (λ_ _ _ _ _=>Dg) λ_ _ _ _ _=>(pv 0))<|AB AQ<|AB AQ AF),Gs (λS t g=>?_) h);obtain⟨n,rfl,a,q⟩:=g;refine(#[4],?_);dsimp only[cxOf,startD,BV,BJ,BQ,Ak];refine Gk<|Ed<|AD<|DZ #[1]<|Cz ?_
 repeat walk_at "js"
 have e:cutD (n.map D.int) none (some 63)=n.map D.int:=by
  unfold cutD;have b:HT.sIx (n.map D.int).length 0 none=0:=rfl;have c:HT.sIx (n.map D.int).length (n.map D.int).length (some 63)=n.length:=by
   rw[AH];show min (Int.toNat 63) n.length=_;lia
  rw[b,c,Jv,Ik,GI #[4]]
 rw[e];refine(_,Or.inl rfl,by rw[AH];exact EA a #[1],λ_=>true,λd=>d,λi d j=>?_,?_)
 ·repeat walk_at "js"
  exact(rfl,AA rfl (rfl,_,rfl))
 ·repeat walk_at "js"
  refine(by show 3<=sizeLine;decide,_,rfl,q _ (n,0,0,?_,#[1],#[1],a));simp
end
def A3 (t:Int × Int):D:=.tup [.int t.1,.int t.2]
def A6 (n:Int) (ts:AR):D:=.tup [.int n,.tup (ts.map A3)]
structure AZ (n:Int) (ts:AR):Prop where
 lo:1<=n
 hi:n<=25
 len:ts.length<=24
 tie:∀t∈ts,0<=t.1/\t.1<n/\0<=t.2/\t.2<n
theorem N6 (j:M[i]?=some (.val (.int v))) (h1:v=c->P true M) (h2:¬ v=c->P false M):JT K (tTest<|tOp rEq (tVar i)<|tC (.int c)) M P:=
 Be (AN (AA j (AY (DV ⟨_,rfl,by
  by_cases h:v=c
  ·rw[Au h];exact h1 h
  ·rw[A4 h];exact h2 h⟩))))
def AW (ts:AR) (e:Nat):Int:=match ts[e / 2]? with
 |some t=>if e % 2=0 then t.1 else t.2
 |none=>-1
def BY (r:List Int):D:=.tup<|r.map .int
def Bb (o:Ay):D:=.tup<|o.map BY
def B0 (ts:AR) (m:Nat) (p:Int):List Int:=((Af m).filter λe=>decide (AW ts e=p)).map λe:Nat=>(e:Int)
structure CW (ts:AR) (m:Nat) (p:Int) (r:List Int):Prop where
 perm:r.Perm (B0 ts m p)
 first:r.head?=(B0 ts m p).head?
structure A0 (n:Int) (ts:AR) (o:Ay):Prop where
 len:(o.length:Int)=n
 row:∀(p:Nat) r,o[p]?=some r->CW ts (2*ts.length) (p:Int) r
theorem Oe (ts:AR) (k:Nat) (p:Int):B0 ts (k+1) p=B0 ts k p++(if AW ts k=p then [(k:Int)] else []):=by
 unfold B0;rw[List.range_succ,Cw,A5];congr 1;by_cases h:AW ts k=p
 ·simp[CA,h]
 ·simp[CA,h]
theorem Ud (ts:AR) (m:Nat) (p:Int):(B0 ts m p).length<=m:=by
 unfold B0;rw[AH];exact Ck (GJ _ _) (by rw[By];exact AX _)
theorem CW.len (h:CW ts m p r):r.length<=m:=by rw[h.perm.length_eq];exact Ud ts m p
theorem CW.stay (h:CW ts k p r) (j:AW ts k≠p):CW ts (k+1) p r:=by
 have e:=Oe ts k p;rw[AL j,Bp]at e;exact(by rw[e];exact h.perm,by rw[e];exact h.first)
theorem CW.put (h:CW ts k p r) (O:AW ts k=p) (L:j<=r.length) (h1:r≠[]->1<=j):CW ts (k+1) p (r.take j++(k:Int)::r.drop j):=by
 have e:=Oe ts k p;rw[AM O]at e;refine(?_,?_)
 ·rw[e]
  refine List.perm_middle.trans ?_;rw[En];exact(List.Perm.cons _ h.perm).trans (List.perm_append_singleton _ _).symm
 ·rw[e]
  cases r with
  |nil=>
   have z:B0 ts k p=[]:=List.Perm.eq_nil h.perm.symm;rw[z];have:j=0:=by simpa using L
   subst this;rfl
  |cons x r'=>
   have a:=h1 #[4];obtain⟨J,rfl⟩:∃J,j=J+1:=(j-1,#[2]);have H:=h.first;show some x=_;cases q:B0 ts k p with
   |nil=>rw[q]at H;cases H
   |cons y l=>rw[q]at H;exact H
theorem Rz {ts:AR}{k:Nat}(h:k<2*ts.length):∃t,ts[k / 2]?=some t/\atI (ts.map A3) ((0+(k:Int)) / 2)=some (A3 t)/\atI [D.int t.1,D.int t.2] ((0+(k:Int)) % 2)=some (.int<|AW ts k):=by
 have K:k / 2<ts.length:=#[2]
 refine(ts[k / 2],AS K,?_,?_)
 ·have e:(0+(k:Int)) / 2=((k / 2:Nat):Int):=by lia
  rw[e];exact Co (by rw[Ad,AS K];rfl)
 ·have E:AW ts k=if k % 2=0 then ts[k / 2].1 else ts[k / 2].2:=by
   unfold AW;rw[AS K]
  rw[E];have e:(0+(k:Int)) % 2=((k % 2:Nat):Int):=#[2]
  rw[e];by_cases h0:k % 2=0
  ·rw[AM h0,h0];exact Co rfl
  ·have H:k % 2=1:=by lia
   rw[AL h0,H];exact Co rfl
theorem ED (hW:AZ n ts) (h:k<2*ts.length):0<=AW ts k/\AW ts k<n:=by
 have K:k / 2<ts.length:=#[3]
 have:=hW.tie _<|Br K;unfold AW;rw[AS K];dsimp only;split <;> omega
def Lh:BSp:=λp s t=>Bm p/\∃n ts,s=[A6 n ts]/\AZ n ts/\∀o ps',Bm ps' -> A0 n ts o->t (Bb o) ps'
theorem Zvq {M1:AI}{i:Nat}{y:L2.Slot}{ps:List D}{n:Int}{ts:AR}{P:D->AI->Prop}(z:M1[i]?=some y) (ho:y.od=some (.lst ps)) (j:Bm ps) (hW:AZ n ts) (h:∀o ps',Bm ps' -> A0 n ts o->P (Bb o) (M1.set i<|y.put (.lst ps'))) :
  LendQ Lh i P [A6 n ts] M1:=(y,ps,z,ho,j,n,ts,rfl,hW,h)
def oSt (ps:List D) (n:Int) (ts:AR) (cs:List (Addr × List Int)) (j z:L2.Slot):AI:=.bor (.lst ps)::.val (A6 n ts)::.val (.lst (cs.map λc=>D.adr c.1))::j::z::(cs.map (λc=>L2.Slot.ownA c.1 (.lst<|c.2.map D.int))++Ak (25-n.toNat) .any)
def oP (n:Int) (ts:AR) (k:Nat):AI->Prop:=λM=>∃(ps:List D) (cs:List (Addr × List Int)) (x3 x4:L2.Slot),Bm ps/\cs.length=n.toNat/\(∀(p:Nat) c,cs[p]?=some c->CW ts k (p:Int) c.2) /\ M = oSt ps n ts cs x3 x4
theorem Wb {as:List Addr}(j:n<=25) (L:as.length=(BJ (λ_=>OD.lst []) ((rngD 0 n.toNat).filter λ_=>true)).length):∃cs:List (Addr × List Int),cs.length=n.toNat/\(∀(p:Nat) c,cs[p]?=some c->c.2=[]) /\
  L2.putN 5 (as.zip<|BJ (λ_=>OD.lst []) ((rngD 0 n.toNat).filter λ_=>true)) ([.bor (.lst ps),.val (A6 n ts),.val (.lst<|as.map D.adr),.any,.any]++Ak 25 .any)=oSt ps n ts cs .any .any:=by
 have R:(rngD 0 n.toNat).filter (λ_=>true)=rngD 0 n.toNat:=#[4]
 rw[R,AH,Ca]at L;have O:(rngD 0 n.toNat).map (λ_=>OD.lst [])=Ak n.toNat (OD.lst []):=by
  rw[List.map_const',Ca]
 rw[R,O];generalize hcs:as.map (λa=>((a,[]):Addr × List Int))=cs;have l:cs.length=n.toNat:=by rw[<- hcs,AH,L]
 have e:as.map D.adr=cs.map λc=>D.adr c.1:=by rw[<- hcs,Ba];rfl
 have b:as.zip (Ak n.toNat<|OD.lst [])=cs.map λc=>(c.1,OD.lst (c.2.map D.int)):=by
  rw[<- hcs,Ba,<- L];clear e l hcs L
  induction as with
  |nil=>rfl
  |cons a r ih=>rw[BI,Gy,IV,ih];rfl
 have E:=Rp (cs.map λc=>(c.1,OD.lst (c.2.map D.int))) [.bor (.lst ps),.val (A6 n ts),.val (.lst (cs.map λc=>D.adr c.1)),.any,.any] [] 25 (by rw[AH];lia);rw[Bp,Bp,Ba,AH,l]at E;refine(cs,l,λp c h=>?_,by rw[e,b];exact E);rw[<- hcs,Ad]at h;cases q:as[p]? with
 |none=>rw[q]at h;cases h
 |some a=>rw[q]at h;cases h;rfl
theorem Zz0 (h:cs[p]?=some c):(oSt ps n ts cs x3 x4)[p+5]?=some (.ownA c.1 (.lst<|c.2.map D.int)):=by
 show (cs.map (λc=>L2.Slot.ownA c.1 (.lst<|c.2.map D.int))++Ak (25-n.toNat) .any)[p]?=_;rw[Dp (by rw[AH];exact(BZ.mp h).1),Ad,h];rfl
theorem Zxu {ps ps':List D}{n:Int}{ts:AR}{cs:List (Addr × List Int)}{j z:L2.Slot}{p:Nat}{c:Addr × List Int}{r:List Int}{v:L2.Slot}(h:cs[p]?=some c) (J:v=.ownA c.1 (.lst<|r.map D.int)):(oSt ps n ts cs j z).set (p+5) v=oSt ps n ts (cs.set p (c.1,r)) j z:=by
 have P:=(BZ.mp h).1;have a:(cs.set p (c.1,r)).map (λc=>D.adr c.1)=cs.map λc=>D.adr c.1:=by
  rw[Ih];apply Dz;intro i;by_cases hii:i=p
  ·subst hii
   rw[B5 (by rw[AH];exact P),Ad,h];rfl
  ·rw[B9 (Ne.symm hii)]
 unfold oSt;rw[a,Ih,J,<- List.set_append_left _ _ (by rw[AH];exact P)];rfl
#check 5
theorem Zug (mb:Mb mg) (b5:Callee P w K mg base 1 "_law_draw" ["_law_pen_here","_law_many"] (spB K GD)) (F:BE K "_law_order" "_law_order" HQ f fd):FnOk P w K mg base CX0 2 f fd ["_law_pen_here","_law_web"] (spB K Lh):=by
 refine F.ok KS (LJ λps ds O h=>by obtain⟨_,n,ts,rfl,_⟩:=h;rfl) λa7 A a5 s H vs Q E m h=>?_;have U:=BX m;refine(_,(AU (Zvv 5 (show ∀x∈(["_law_pen_here","_law_web","_law_rows","_law_k","_law_row","!0","!1","!2","!3","!4","!5","!6","!7","!8","!9","!10","!11","!12","!13","!14","!15","!16","!17","!18","!19","!20","!21","!22","!23","!24"]:List Str).drop 5,(defScope HQ).names.lookup x=none from #[0])<|GZ (i:=2) ["_law_place"] (show CompSc (defScope HQ) ["_law_pen_here","_law_web","_law_rows","_law_k","_law_row","!0","!1","!2","!3","!4","!5","!6","!7","!8","!9","!10","!11","!12","!13","!14","!15","!16","!17","!18","!19","!20","!21","!22","!23","!24"] _ [] [] from (rfl,#[0],#[0],#[0],rfl,#[0])) rfl KS.nd rfl (Or.inl rfl) (De rfl (mb "range" #[1])<|AB (Ab (ixK K U) (pv 1) AQ λ_ _=>rfl) AF) (λ_ _ _ _ _=>(An (i:=0) (show List.Nodup (["_law_place"]:List Str) from #[1]) rfl<|Or.inl rfl)) (λ_ _ _ _ _=>Dg) λ_ _ _ _ _=>(Dk AF))<|AU (DG PassesOwn.never rfl (De rfl (mb "range" #[1])<|AB (Ac D8 AQ<|Aj (lenK K) rfl (mb "len" #[1]) BN<|AB (Ab (ixK K U) (pv 1) AQ λ_ _=>rfl) AF) AF) (An (i:=3) KS.nd rfl<|Or.inl rfl)<|AU (Av (i:=4) KS.nd rfl (Or.inl rfl)<|Ab (ixK K U) (pv 2) (Ab (ixK K U) (Ab (ixK K U) (Ab (ixK K U) (pv 1) AQ λ_ _=>rfl) (Ac Jb (pv 3) AQ) λ_ _=>rfl) (Ac DM (pv 3) AQ) λ_ _=>rfl) λ_ _=>rfl)<|Ah<|Du<|bmK K PySem.F.plainAttrs_list PySem.F.slot_list_insert PySem.F.type_list_insert Ku (pv 4)<|AB (Aj (Ko rfl) rfl (mb "min" #[1]) Gn<|AB (Aj (lenK K) rfl (mb "len" #[1]) BN<|AB (pv 4) AF)<|AB (Ac (addK K) AQ<|Am b5 (m.mono #[1])<|AB (pv 0)<|AB (Aj (GV rfl) rfl (mb "max" #[1]) F3<|AB AQ<|AB (Aj (lenK K) rfl (mb "len" #[1]) BN<|AB (pv 4) AF) AF) AF) AF)<|AB (pv 3) AF)<|Ah<|A8<|Cp (tupK K) rfl (mb "tuple" #[1]) Cr<|AB (Ce ["_law_row"] (show CompSc (defScope HQ) ["_law_pen_here","_law_web","_law_rows","_law_k","_law_row","!0","!1","!2","!3","!4","!5","!6","!7","!8","!9","!10","!11","!12","!13","!14","!15","!16","!17","!18","!19","!20","!21","!22","!23","!24"] _ [] [] from (rfl,#[0],#[0],#[0],rfl,#[0])) rfl (seqK K<|pv 2) (λ_ _ _ _ _=>(An (i:=0) (show List.Nodup (["_law_row"]:List Str) from #[1]) rfl<|Or.inl rfl)) (λ_ _ _ _ _=>Dg) λ_ _ _ _ _=>(Cp (tupK K) rfl (mb "tuple" #[1]) Cr<|AB (pv 0) AF)) AF),Lb (λps ds O hf=>?_) h);obtain⟨hp,n,ts,rfl,I,q⟩:=hf;refine(#[4],?_);dsimp only[cxOf,startD,BV,BJ,BQ];have hn:=I.lo;have a0:=I.hi;have b3:=I.len
 -- the rows
 refine Ae<|Zyp<|Zve #[1]<|Dd ?_;refine AD<|AN<|AA rfl<|AY<|A7 (d:=.int n) rfl<|AK (n,rfl,#[2],#[2],?_);refine(by rw[Ca];exact small1000 #[2],λ_=>true,λ_=>.lst [],λi d b=>?_,#[1],?_,λas J a9=>?_)
 ·exact Df (rfl,Ed<|AK (#[1],rfl,_,rfl))
 ·rw[AH]
  have e:((rngD 0 n.toNat).filter λ_=>true).length<=25:=Ck (GJ _ _) (by rw[Ca];lia);show 5+_<=30;lia
 obtain⟨cs,L,Y,e⟩:=Wb (ps:=ps) (ts:=ts) a0 J;refine Eq.mpr (congrArg (λM=>JS K _ M _) e) ?_
 -- the loop
 refine B3 (oP n ts (2*ts.length)) ?_ ?_
 ·refine DK (Dd<|AD<|Eh (Dx Ef (Zzi<|SE (ds:=[.int n,.tup (ts.map A3)]) rfl rfl)<|pr_I<|Or.inl (#[1],#[1]))<|AK (_,rfl,?_,?_,?_))
  ·rw[AH];lia
  ·rw[AH];lia
  have eL:((2:Int)*((ts.map A3).length:Int)).toNat=2*ts.length:=by rw[AH];lia
  refine(oP n ts,(ps,cs,.any,.any,hp,L,λp c hc=>by rw[Y p c hc];exact(List.Perm.refl _,rfl),rfl),?_,λM h=>by rw[Ca,eL]at h;exact h)
  ·rintro k d M2 b ⟨ps,cs,X,y,hp,L,o,rfl⟩
   rw[eL]at b;obtain⟨hk,rfl⟩:=DF b;obtain⟨t,b2,a3,a4⟩:=Rz hk;obtain⟨B,b4⟩:=ED I hk;obtain⟨c,u,V⟩:=Nn (f:=λc:Addr × List Int=>D.adr c.1) (xs:=cs) (i:=AW ts k) B #[2];have hR:=o _ c u;have a8:=hR.len;have ep:((AW ts k).toNat:Int)=AW ts k:=FQ B;have l:∀(ps:List D) (X y:L2.Slot),(oSt ps n ts cs X y)[(AW ts k).toNat+5]?=some (.ownA c.1 (.lst<|c.2.map D.int)):=λps X y=>Zz0 u;have N:(c.2.map D.int).length=c.2.length:=AH _;refine BW<|Ae<|BM<|Eh (Ss (d:=.adr c.1) (Cs rfl) (N2 (N2 (SE (d:=.tup<|ts.map A3) rfl rfl) (Dx (Cs rfl) Ef<|pr_I (#[1],#[1])) a3) (Dx (Cs rfl) Ef<|pr_I (by show (0:Int)<2;decide)) a4) V) ?_;refine Zyu (a:=c.1) rfl (l ps _ _) ?_;refine Ag<|AD<|RO rfl (l ps _ _)<|AD<|AN<|AY<|DT rfl rfl<|AD<|Ag<|AD<|AY<|AD<|RO rfl (l ps _ _)<|AK<|EI<|AK ?_;refine D6 rfl rfl hp (by split <;> lia) (by split <;> lia) λr ps' a1 b0 b1=>?_
   refine Cn<|AK<|EI<|AA rfl (_,_,_,rfl,l ps' _ _,by rw[N];exact small1000 #[2],by split <;> lia,by split <;> lia,?_)
   generalize hi:insI (c.2.map D.int).length (if 1+r<((c.2.map D.int).length:Int) then 1+r else ((c.2.map D.int).length:Int))=j;have hj:j<=c.2.length/\(c.2≠[]->1<=j):=by
    rw[<- hi,N];unfold insI;refine(?_,λh=>?_)
    ·split <;> split <;> lia
    ·have:=IT.mpr h
     split <;> split <;> lia
   refine(ps',cs.set (AW ts k).toNat (c.1,c.2.take j++(k:Int)::c.2.drop j),.val (.int (0+(k:Int))),.val (.adr c.1),a1,by rw[Ff];exact L,λp c' C=>?_,Zxu (ps:=ps') (ps':=ps') u ?_)
   ·by_cases hpp:p=(AW ts k).toNat
    ·subst hpp
     rw[B5 #[2]]at C;cases C;exact hR.put #[2] hj.1 hj.2
    ·rw[B9 (Ne.symm hpp)]at C
     exact(o p c' C).stay #[2]
   ·rw[A5,Fl,BO,Fm,DE]
 -- the end
 rintro M1 ⟨v,S,X,y,a2,a6,W,rfl⟩;refine JS.conv (M':=.bor (.lst v)::.val (A6 n ts)::.val (.lst (S.map λc=>D.lst<|c.2.map D.int))::X::y::(Ak S.length .any++Ak (25-n.toNat) .any)) (λg G H Z k=>?_) ?_
 ·have:=Ok.thaw (cs:=S.map λc=>(c.1,c.2.map D.int)) (R:=[.bor (.lst v),.val (A6 n ts),.val (.lst (S.map λc=>D.adr c.1)),X,y]) (T:=Ak (25-n.toNat) .any) (i:=2) (g:=g) (G:=G) (H:=H) (Z:=Z) (K:=K) (by rw[Ba];exact k) (by rw[Ba];rfl)
  rw[Ba,AH]at this;exact this
 refine BK<|Ag<|AD<|DZ #[1]<|Cz<|AA rfl (_,Or.inl rfl,?_,λ_=>true,λd=>match d with|.lst ds=>.tup ds|d=>d,λi d b=>?_,?_)
 ·rw[AH];exact small1000 #[2]
 ·rw[Ad]at b
  cases q:S[i]? with
  |none=>rw[q]at b;cases b
  |some c=>
   rw[q]at b;have b:D.lst (c.2.map D.int)=d:=by simpa using b
   subst b;exact Df (rfl,Ag<|AD<|AA rfl<|AK<|DS (Or.inl rfl) (rfl,_,rfl))
 ·refine AK (DS (Or.inl rfl) (v,rfl,?_))
  have e:((S.map λc=>D.lst<|c.2.map D.int).filter λ_=>true).map (λd=>match d with|.lst ds=>D.tup ds|d=>d)=(S.map (·.2)).map BY:=by
   rw[Cd.mpr #[4],Ba,Ba];rfl
  rw[e];exact q _ _ a2 (by rw[AH];lia,λp r m=>by
   rw[Ad]at m;cases z:S[p]? with
   |none=>rw[z]at m;cases m
   |some c=>rw[z]at m;cases m;exact W p c z)
end
def Aw (r:List Int) (x:Int):Int:=r.getD ((r.idxOf x+1) % r.length) 0
def Bf (ts:AR) (o:Ay) (e:Nat):List Int:=o.getD (AW ts e).toNat []
def partner (e:Nat):Nat:=if e % 2=0 then e+1 else e-1
theorem EZ (h:e<2*m):partner e<2*m:=by unfold partner;split <;> omega
theorem Iv:x∈B0 ts m p ↔ ∃e:Nat,e<m/\AW ts e=p/\(e:Int)=x:=by
 unfold B0;rw[A2];constructor
 ·rintro⟨e,h,rfl⟩
  rw[Ao,BD]at h;exact(e,h.1,of_decide_eq_true h.2,rfl)
 ·rintro⟨e,H,a,rfl⟩
  exact(e,by rw[Ao,BD];exact(H,Au a),rfl)
theorem MT (ts:AR) (m:Nat) (p:Int):(B0 ts m p).Nodup:=by
 unfold B0;refine List.Pairwise.map _ (λa b h=>?_)<|List.Pairwise.filter _ HH;intro e;exact h #[2]
theorem CW.nodup (h:CW ts m p r):r.Nodup:=h.perm.nodup_iff.mpr<|MT ts m p
theorem CW.mem (h:CW ts m p r):x∈r ↔ ∃e:Nat,e<m/\AW ts e=p/\(e:Int)=x:=h.perm.mem_iff.trans Iv
theorem E5 {n:Int}{ts:AR}{o:Ay}(hW:AZ n ts) (hO:A0 n ts o) {e:Nat}(j:e<2*ts.length) :
  o[(AW ts e).toNat]?=some (Bf ts o e)/\CW ts (2*ts.length) (AW ts e) (Bf ts o e)/\(e:Int)∈Bf ts o e:=by
 obtain⟨p,P⟩:=ED hW j;have l:=hO.len;have k:(AW ts e).toNat<o.length:=#[2]
 have q:o[(AW ts e).toNat]?=some (Bf ts o e):=by
  unfold Bf;rw[AS k,Al,AS k];rfl
 have r:=hO.row _ _ q;rw[show ((AW ts e).toNat:Int)=AW ts e by lia]at r;exact(q,r,r.mem.mpr (e,j,rfl,rfl))
theorem A0.flat (h:A0 n ts o):o.flatten.Nodup:=by
 unfold List.Nodup;rw[List.pairwise_flatten];refine(λr R=>?_,?_)
 ·obtain⟨p,P,e⟩:=Eo.mp R
  exact(h.row p r<|by rw[AS P,e]).nodup
 ·rw[FL]
  intro i j hi hj hij x hx y hy hxy;subst hxy;obtain⟨e,_,E,a⟩:=(h.row i _<|AS hi).mem.mp hx;obtain⟨f,_,F,b⟩:=(h.row j _<|AS hj).mem.mp hy;have:e=f:=#[2]
  subst this;lia
theorem D7 {r:List Int}(h:x∈r):r.idxOf x<r.length/\r[r.idxOf x]?=some x/\∀m,m<r.idxOf x->r[m]?≠some x:=by
 have l:=List.idxOf_lt_length_of_mem h;refine(l,?_,λm M e=>?_)
 ·rw[AS l,Lq l]
 ·obtain⟨a,H⟩:=BZ.mp e
  have:=List.not_of_lt_findIdx (p:=(· == x)) (xs:=r) M;rw[H]at this;simp at this
def Dl (y:Int × Int):AV × D:=(.inl y.1,.int y.2)
theorem Zzd (h:x ∉ l.map (·.1)):putD (l.map Dl) (.inl x) (.int y)=(l++[(x,y)]).map Dl:=by
 unfold putD;rw[AL,A5]
 ·rfl
 ·rw[List.any_map,IK]
  rintro⟨z,Z,e⟩;have e:(Sum.inl z.1:AV)=Sum.inl x:=of_decide_eq_true e;injection e with e
  exact h<|A2.mpr (z,Z,e)
theorem S6 {l:AR}(j:(l.map (·.1)).Nodup) (h:(x,y)∈l):valD (l.map Dl) (.inl x)=some (.int y):=by
 induction l with
 |nil=>cases h
 |cons z r ih=>
  rw[BO,DB]at j;rw[BO];unfold valD;rcases Az.mp h with e|h
  ·subst e
   rw[Jp (by simp[Dl])];rfl
  ·have n:z.1≠x:=λe=>j.1 (by rw[e];exact A2.mpr (_,h,rfl))
   rw[HA (by simp[Dl];exact λe=>n e)];exact ih j.2 h
theorem S4 (k:Nat):k ||| 1=2*(k / 2)+1:=by
 apply Nat.eq_of_testBit_eq;intro i;rw[Nat.testBit_or];cases i with
 |zero=>rw[Nat.testBit_zero,Nat.testBit_zero,Nat.testBit_zero];simp
 |succ i=>
  rw[Nat.testBit_succ,Nat.testBit_succ,Nat.testBit_succ,show (2*(k / 2)+1) / 2=k / 2 by lia];simp
theorem Zy6 (k:Nat):Builtin.bitXor (k:Int) 1=(partner k:Int):=by
 have e:Builtin.bitAnd (k:Int) 1=((k % 2:Nat):Int):=by
  unfold Builtin.bitAnd;rw[Au (show (0:Int)<=(k:Int) by lia),Au (show (0:Int)<=1 by decide)];show ((((k:Int).toNat &&& (1:Int).toNat:Nat)):Int)=_;rw[Aq,show (1:Int).toNat=1 from rfl,Nat.and_one_is_mod]
 have E:Builtin.bitOr (k:Int) 1=((2*(k / 2)+1:Nat):Int):=by
  unfold Builtin.bitOr Builtin.bitAnd;rw[A4 (show ¬ (0:Int)<=Builtin.bitNot (k:Int) by unfold Builtin.bitNot;lia),A4 (show ¬ (0:Int)<=Builtin.bitNot 1 by decide)];show Builtin.bitNot (Builtin.bitNot (((Builtin.bitNot<|Builtin.bitNot (k:Int)).toNat ||| (Builtin.bitNot<|Builtin.bitNot 1).toNat:Nat):Int))=_;have n:∀x:Int,Builtin.bitNot (Builtin.bitNot x)=x:=λx=>by unfold Builtin.bitNot;lia
  rw[n,n,n,Aq,show (1:Int).toNat=1 from rfl,S4]
 unfold Builtin.bitXor;rw[e,E];unfold partner;split <;> lia
theorem Fw {α:Type}[DecidableEq α]:∀{l m:List α},l.Nodup->(∀x∈l,x∈m)->l.length<=m.length
 |[],_,_,_=>CS _
 |x::l,m,nd,h=>by
  rw[DB]at nd;have X:=h x Bk;have:=Fw (l:=l) (m:=m.erase x) nd.2 λy Y=>by
   have n:y≠x:=λe=>nd.1 (e ▸ Y);exact(List.mem_erase_of_ne n).mpr (h y<|Bs _ Y)
  rw[Lu X]at this;have s:0<m.length:=El X;rw[BI];lia
theorem A0.flat_len (h:A0 n ts o):o.flatten.length<=2*ts.length:=by
 have:=Fw (m:=(Af (2*ts.length)).map λe:Nat=>(e:Int)) h.flat λx X=>by
  obtain⟨r,R,X⟩:=IH.mp X;obtain⟨p,P,e⟩:=Eo.mp R;obtain⟨k,K,_,rfl⟩:=(h.row p r<|by rw[AS P,e]).mem.mp X;exact A2.mpr (k,BD.mpr K,rfl)
 rw[AH,By]at this;exact this
theorem Iy (ts:AR) (m:Nat) (p:Int):(B0 ts m p).Pairwise (· < ·):=by
 unfold B0;refine List.Pairwise.map _ (λa b h=>?_)<|List.Pairwise.filter _ Ek;lia
theorem CW.least (h:CW ts m p (x::r)):∀a∈r,x<=a:=by
 intro a ha;have H:=h.first;have b:=Iy ts m p;have c:a∈B0 ts m p:=h.perm.mem_iff.mp<|Bs _ ha;cases q:B0 ts m p with
 |nil=>rw[q]at H;cases H
 |cons y l=>
  rw[q]at H b c;have e:x=y:=CF.inj H;subst e;rcases Az.mp c with z|z
  ·lia
  ·have:=(IW.mp b).1 a z;lia
def Cb (l:List Int) (j:Nat):List Int:=l.drop j++l.take j
theorem E2:∀(l:List Int),l≠[]->∃m,m∈l/\∀a∈l,m<=a
 |[],h=>absurd rfl h
 |[x],_=>(x,Bk,λa A=>by rw[BU.mp A];exact ET _)
 |x::y::l,_=>by
  obtain⟨m,b,H⟩:=E2 (y::l) #[4];by_cases h:x<=m
  ·refine(x,Bk,λa A=>?_)
   rcases Az.mp A with z|z
   ·lia
   ·have:=H a z;lia
  ·refine(m,Bs _ b,λa A=>?_)
   rcases Az.mp A with z|z
   ·lia
   ·exact H a z
theorem SD {l:List Int}(z:l.Nodup) (h:l[j]?=some x):l.idxOf x=j:=by
 obtain⟨a,H⟩:=BZ.mp h;obtain⟨b,i,_⟩:=D7 (r:=l) (x:=x) (by rw[<- H];exact Br a);obtain⟨c,I⟩:=BZ.mp i;exact(IJ z).mp (I.trans H.symm)
def nxI (n k:Nat):Nat:=if k+1=n then 0 else k+1
def pvI (n k:Nat):Nat:=if k=0 then n-1 else k-1
theorem Zyd (h:k<n):(k+1) % n=nxI n k:=by
 unfold nxI;split
 ·rename_i e;rw[e,Nat.mod_self]
 ·rw[Nat.mod_eq_of_lt #[2]]
def prevIn (r:List Int) (x:Int):Int:=r.getD (pvI r.length<|r.idxOf x) 0
theorem Hj (j:r.Nodup) (h:r[k]?=some x):Aw r x=r.getD (nxI r.length k) 0:=by
 unfold Aw;rw[SD j h,Zyd (BZ.mp h).1]
theorem Zzp {r:List Int}(j:k<r.length):atI (r.map D.int) ((k:Int)-1)=some (.int<|r.getD (pvI r.length k) 0):=by
 unfold pvI;by_cases h0:k=0
 ·subst h0
  rw[AM rfl];obtain⟨R,y,rfl⟩:∃R y,r=R++[y]:=(r.dropLast,r.getLast (by intro z;subst z;simp at j),(List.dropLast_concat_getLast _).symm);show atI ((R++[y]).map D.int) (-1)=_;rw[A5,Lp,Zvd];simp
 ·rw[AL h0,show (k:Int)-1=((k-1:Nat):Int) by lia]
  exact Co (by rw[Ad,Al,AS (by omega:k-1<r.length)];rfl)
theorem K4 (ds:List D) (h:j<=ds.length):cutD ds (some (j:Int)) none=ds.drop j:=by
 unfold cutD;rw[HT.sIx_nat,HT.sIx_none,IZ h,GI (by rw[DR];exact AX _)]
theorem LY (ds:List D) (h:j<=ds.length):cutD ds none (some (j:Int))=ds.take j:=by
 unfold cutD;rw[HT.sIx_nat,HT.sIx_none,IZ h,Jv,Ik]
#check 5
def IB:DSp:=λs t=>∃n ts,∃e:Nat,s=[A6 n ts,.int e]/\e<2*ts.length/\t (.int<|AW ts e)
def CV (ts:AR) (o:Ay) (e:Nat):Int:=Aw (Bf ts o e) e
def fFol:DSp:=λs t=>∃n ts o,∃e:Nat,s=[A6 n ts,Bb o,.int e]/\AZ n ts/\A0 n ts o/\e<2*ts.length/\t (.int<|CV ts o e)
def fOnw:DSp:=λs t=>∃n ts o,∃e:Nat,s=[A6 n ts,Bb o,.int e]/\AZ n ts/\A0 n ts o/\e<2*ts.length/\t (.int<|CV ts o<|partner e)
def fPart:DSp:=λs t=>∃e:Nat,s=[.int e]/\t (.int<|partner e)
theorem Zvc (j:Mb mg) (F:BE K "place_of" "place_of" L9 f fd):FnOk P w K mg base CX0 1 f fd ["web","end"] (spD K IB):=by
 refine F.ok SU (Bt λS o h=>#[6]) λv A r s H V Q E R h=>?_;have u:=BX R;refine(_,(Ah<|A8<|Ab (ixK K u) (Ab (ixK K u) (Ab (ixK K u) (pv 0) AQ λ_ _=>rfl) (Ac Jb (pv 1) AQ) λ_ _=>rfl) (Ac DM (pv 1) AQ) λ_ _=>rfl),Bu (λS o g=>?_) h);obtain⟨n,T,e,rfl,c,q⟩:=g;refine(#[4],?_);dsimp only[startD,BV,BJ,BQ];obtain⟨t,i,a,b⟩:=Rz c;rw[DE]at a b;refine BK<|AN<|AN<|AN<|AA rfl<|AY<|A7 (d:=.tup<|T.map A3) rfl ?_;refine AN<|AA rfl<|AY<|jr_I (#[2],#[2])<|A7 a ?_;exact AN<|AA rfl<|AY<|jr_I (by show (0:Int)<2;omega)<|A7 b q
theorem VA (L:Mb mg) (J:Callee P w K mg base 1 "place_of" ["web","end"] (spD K IB)) (F:BE K "follower" "follower" MB f fd):FnOk P w K mg base CX0 2 f fd ["web","order","end"] (spD K fFol):=by
 refine F.ok OU (Bt λS T h=>#[7]) λv A r s H V Q E R h=>?_;have u:=BX R;refine(_,(AU (Av (i:=3) OU.nd rfl (Or.inl rfl)<|Ab (ixK K u) (pv 1) (Am J (R.mono #[1])<|AB (pv 0)<|AB (pv 2) AF) λ_ _=>rfl)<|Ah<|A8<|Ab (ixK K u) (pv 3) (Ac DM (Ac (addK K) (bmK K PySem.F.plainAttrs_tuple PySem.F.slot_tuple_index PySem.F.type_tuple_index (idxK K) (pv 3)<|AB (pv 2) AF) AQ)<|Aj (lenK K) rfl (L "len" #[1]) BN<|AB (pv 3) AF) λ_ _=>rfl),Bu (λS T j=>?_) h);obtain⟨n,t,o,e,rfl,W,O,b,q⟩:=j;refine(#[4],?_);dsimp only[startD,BV,BJ,BQ];obtain⟨g,l,G⟩:=E5 W O b;obtain⟨y,z⟩:=ED W b;obtain⟨x,I,k⟩:=D7 G;have a:atI (o.map BY) (AW t e)=some (BY<|Bf t o e):=by
  have p:AW t e=(((AW t e).toNat:Nat):Int):=#[2]
  rw[p];exact Co (by rw[Ad,g];rfl)
 refine Ae<|BM<|AN<|AA rfl<|BR<|AD<|AA rfl<|AD<|AA rfl<|AK (n,t,e,rfl,b,A7 a ?_);refine BK<|AN<|AA rfl<|AN<|AN<|JQ<|AA rfl (Bf t o e,rfl,AA rfl (e,(Bf t o e).idxOf (e:Int),rfl,I,k,?_));refine AY<|Cn ?_;refine Ag<|AD<|AA rfl<|AK<|Bg (Or.inr rfl) ?_;rw[AH];refine jr_I (by show (0:Int)<_;lia) ?_;have c:(((Bf t o e).idxOf (e:Int):Int)+1) % ((Bf t o e).length:Int)=((((Bf t o e).idxOf (e:Int)+1) % (Bf t o e).length:Nat):Int):=by push_cast;rfl
 rw[c];have m:((Bf t o e).idxOf (e:Int)+1) % (Bf t o e).length<(Bf t o e).length:=Im _ #[2];refine A7 (d:=.int<|CV t o e) (Co ?_) q;rw[Ad,AS m];unfold CV Aw;rw[Al,AS m];rfl
theorem WM (z:Mb mg) (j:Callee P w K mg base 2 "follower" ["web","order","end"] (spD K fFol)) (F:BE K "onward" "onward" MG f fd):FnOk P w K mg base CX0 3 f fd ["web","order","end"] (spD K fOnw):=by
 refine F.ok Sa (Bt λd t h=>#[7]) λv A r s H V Q E R h=>?_;have u:=BX R;refine(_,(Ah<|A8<|Am j (R.mono #[1])<|AB (pv 0)<|AB (pv 1)<|AB (Ac S9 (pv 2) AQ) AF),Bu (λd t b=>?_) h);obtain⟨n,S,o,e,rfl,W,O,a,q⟩:=b;refine(#[4],?_);dsimp only[startD,BV,BJ,BQ];refine BK<|BR<|AD<|AA rfl<|AD<|AA rfl<|AD<|AN<|AA rfl<|AY<|EJ ?_;rw[Zy6];exact AK (n,S,o,partner e,rfl,W,O,EZ a,q)
theorem VU (j:Mb mg) (F:BE K "_law_partner" "_law_partner" MN f fd):FnOk P w K mg base CX0 1 f fd ["_law_end"] (spD K fPart):=by
 refine F.ok Sg (Bt λd t h=>by obtain⟨_,rfl,_⟩:=h;rfl) λv A r s H S Q E R h=>?_;have u:=BX R;refine(_,(Ah<|A8<|Ac Dv (Ac (addK K) (pv 0) AQ)<|Ac D8 AQ<|Ac DM (pv 0) AQ),Bu (λd t b=>?_) h);obtain⟨e,rfl,q⟩:=b;refine(#[4],?_);dsimp only[startD,BV,BJ,BQ]
 repeat walk_at "js"
 have a:(e:Int)+1-2*((e:Int) % 2)=(partner e:Int):=by unfold partner;split <;> lia
 rw[a];exact q
def fFore:DSp:=λs t=>∃n ts o,∃e:Nat,s=[A6 n ts,Bb o,.int e]/\AZ n ts/\A0 n ts o/\e<2*ts.length/\t (.int<|prevIn (Bf ts o e) e)
theorem Uc (J:Mb mg) (z:Callee P w K mg base 1 "place_of" ["web","end"] (spD K IB)) (F:BE K "forerunner" "forerunner" MC f fd):FnOk P w K mg base CX0 2 f fd ["web","order","end"] (spD K fFore):=by
 refine F.ok ON (Bt λd T h=>#[7]) λv A r s H S Q E R h=>?_;have u:=BX R;refine(_,(AU (Av (i:=3) ON.nd rfl (Or.inl rfl)<|Ab (ixK K u) (pv 1) (Am z (R.mono #[1])<|AB (pv 0)<|AB (pv 2) AF) λ_ _=>rfl)<|Ah<|A8<|Ab (ixK K u) (pv 3) (Ac Dv (bmK K PySem.F.plainAttrs_tuple PySem.F.slot_tuple_index PySem.F.type_tuple_index (idxK K) (pv 3)<|AB (pv 2) AF) AQ) λ_ _=>rfl),Bu (λd T c=>?_) h);obtain⟨n,t,o,e,rfl,W,O,b,q⟩:=c;refine(#[4],?_);dsimp only[startD,BV,BJ,BQ];obtain⟨g,l,G⟩:=E5 W O b;obtain⟨m,x⟩:=ED W b;obtain⟨I,j,k⟩:=D7 G;have a:atI (o.map BY) (AW t e)=some (BY<|Bf t o e):=by
  have p:AW t e=(((AW t e).toNat:Nat):Int):=#[3]
  rw[p];exact Co (by rw[Ad,g];rfl)
 refine Ae<|BM<|AN<|AA rfl<|BR<|AD<|AA rfl<|AD<|AA rfl<|AK (n,t,e,rfl,b,A7 a ?_);refine BK<|AN<|AA rfl<|AN<|JQ<|AA rfl (Bf t o e,rfl,AA rfl (e,(Bf t o e).idxOf (e:Int),rfl,j,k,?_));exact AY<|EJ<|A7 (Zzp I) q
theorem DA:2<=sizeLine:=#[1]
def GC (n:Int) (ts:AR) (o:Ay):D:=.tup [A6 n ts,Bb o]
end
noncomputable def lf (l:List Int):List Int:=if h:l=[] then [] else Cb l (l.idxOf<|Classical.choose<|E2 l h)
theorem F4:lf []=[]:=by unfold lf;rw[dif_pos rfl]
theorem Jl (hm:m∈l) (L:∀a∈l,m<=a):lf l=Cb l (l.idxOf m):=by
 have h:l≠[]:=List.ne_nil_of_mem hm;unfold lf;rw[dif_neg h];obtain⟨c,C⟩:=Classical.choose_spec<|E2 l h;have e:Classical.choose (E2 l h)=m:=by
  have:=C m hm;have:=L _ c;omega
 rw[e]
theorem Zv0 (l:List Int) (j:Nat):(Cb l j).Perm l:=by
 unfold Cb;refine HC.trans ?_;rw[En]
theorem Hr (l:List Int):(lf l).Perm l:=by
 by_cases h:l=[]
 ·subst h;rw[F4]
 ·obtain⟨m,M,e⟩:=E2 l h
  rw[Jl M e];exact Zv0 _ _
theorem RC (hm:m∈l) (L:∀a∈l,m<=a):(lf l).head?=some m:=by
 obtain⟨i,I,_⟩:=D7 hm;rw[Jl hm L];unfold Cb;rw[List.drop_eq_getElem_cons i,J5,List.head?_cons];rw[AS i]at I;exact I
theorem Qg (h:l.Perm (B0 ts m p)):CW ts m p (lf l):=by
 refine((Hr l).trans h,?_);cases e:B0 ts m p with
 |nil=>
  rw[e]at h;rw[List.Perm.eq_nil h,F4]
 |cons x X=>
  have s:=Iy ts m p;rw[e]at s h;rw[List.head?_cons];refine RC (h.mem_iff.mpr Bk) λa A=>?_;rcases Az.mp (h.mem_iff.mp A) with z|z
  ·lia
  ·have:=List.rel_of_pairwise_cons s z
   omega
def outE (t:Nat) (e:Int):Int:=if e<2*(t:Int) then e else e-2
def Bc (t:Nat) (e:Int):Bool:=decide (¬ e / 2=(t:Int))
noncomputable def BP (t:Nat) (r:List Int):List Int:=lf ((r.filter<|Bc t).map (outE t))
theorem Md (j:e / 2≠t):AW (ts.eraseIdx t) (if e<2*t then e else e-2)=AW ts e:=by
 unfold AW;rw[List.getElem?_eraseIdx];by_cases h:e<2*t
 ·rw[AM h,AM #[2]]
 ·rw[AL h,AL #[2],show (e-2) / 2+1=e / 2 by lia,show (e-2) % 2=e % 2 by lia]
theorem Wl (ht:t<ts.length) (p:Int):(((B0 ts (2*ts.length) p).filter (Bc t)).map (outE t)).Perm (B0 (ts.eraseIdx t) (2*(ts.eraseIdx t).length) p):=by
 have l:(ts.eraseIdx t).length=ts.length-1:=by rw[Lx,AM ht]
 rw[Fh ?_ (MT _ _ _)]
 ·intro x
  rw[A2,Iv,l];constructor
  ·rintro⟨y,Y,rfl⟩
   rw[Ao,Iv]at Y;obtain⟨⟨e,E,P,rfl⟩,K⟩:=Y;have K:¬ (e:Int) / 2=(t:Int):=of_decide_eq_true K;have k:e / 2≠t:=#[2]
   refine(if e<2*t then e else e-2,by split <;> lia,(Md k).trans P,?_)
   unfold outE;split <;> split <;> lia
  ·rintro⟨e,E,P,rfl⟩
   refine(((if e<2*t then e else e+2:Nat):Int),?_,?_)
   ·rw[Ao,Iv]
    have k:(if e<2*t then e else e+2) / 2≠t:=by split <;> lia
    refine((_,by split <;> lia,?_,rfl),Au (by split <;> lia))
    rw[<- Md (ts:=ts) k,<- P];congr 1
    repeat' split
    all_goals lia
   ·unfold outE
    split <;> split <;> lia
 ·refine List.Pairwise.map _ (λa b h=>?_) (List.Pairwise.and_mem.mp ((MT ts (2*ts.length) p).filter (Bc t)))
  obtain⟨A,B,n⟩:=h;have c:¬ a / 2=(t:Int):=of_decide_eq_true (Ao.mp A).2;have d:¬ b / 2=(t:Int):=of_decide_eq_true (Ao.mp B).2;unfold outE;intro e;apply n;split at e <;> split at e <;> lia
theorem RB (hW:AZ n ts) (t:Nat):AZ n (ts.eraseIdx t):=
 (hW.lo,hW.hi,Ck (List.length_eraseIdx_le ..) hW.len,λu h=>hW.tie u<|List.mem_of_mem_eraseIdx h)
theorem Rg (hO:A0 n ts o) (ht:t<ts.length):A0 n (ts.eraseIdx t) (o.map<|BP t):=by
 refine(by rw[AH];exact hO.len,λp r h=>?_);rw[Ad]at h;cases z:o[p]? with
 |none=>rw[z]at h;cases h
 |some r0=>
  rw[z]at h;have h:BP t r0=r:=#[8]
  subst h;exact Qg ((((hO.row p r0 z).perm.filter (Bc t)).map (outE t)).trans (Wl ht _))
#check 5
def intD:D->Int
 |.int i=>i
 |_=>0
theorem Ee (n:Int) (ts:AR):atI [D.int n,D.tup (ts.map A3)] 1=some (.tup<|ts.map A3):=rfl
theorem A0.rows (hW:AZ n ts) (hO:A0 n ts o):o.length<=25/\∀r∈o,r.length<=48:=by
 have H:=hO.len;have a:=hW.hi;have b:=hW.len;refine(#[2],λr R=>?_);obtain⟨p,h,e⟩:=Eo.mp R;have:=(hO.row p r<|by rw[AS h,e]).len;lia
end
def corD:Nat ⊕ Nat->D
 |.inl e=>.int (e:Int)
 |.inr p=>.tup [.str "place",.int (p:Int)]
def corP (ts:AR):Nat ⊕ Nat->Nat
 |.inl e=>(AW ts e).toNat
 |.inr p=>p
def FJ (n:Int) (ts:AR) (o:Ay):Nat ⊕ Nat->Prop
 |.inl e=>e<2*ts.length
 |.inr p=>(p:Int)<n/\o.getD p []=[]
def jOf (r:List Int):Nat ⊕ Nat->Nat
 |.inl e=>r.idxOf (e:Int)+1
 |.inr _=>r.length
def rowW (r:List Int) (c:Nat ⊕ Nat) (x:Int):List Int:=r.take (jOf r c)++x::r.drop (jOf r c)
def put1 (o:Ay) (p:Nat) (c:Nat ⊕ Nat) (x:Int):Ay:=o.set p<|rowW (o.getD p []) c x
def Fe (ts:AR) (c d:Nat ⊕ Nat):AR:=ts++[((corP ts c:Int),(corP ts d:Int))]
def putO (ts:AR) (o:Ay) (c d:Nat ⊕ Nat):Ay:=put1 (put1 o (corP ts c) c ((2*ts.length:Nat):Int)) (corP ts d) d ((2*ts.length+1:Nat):Int)
def Lj (ts:AR) (k:Nat) (o:Ay):Prop:=∀(p:Nat) r,o[p]?=some r->CW ts k (p:Int) r
theorem Ut (j:e<2*ts.length):AW (ts++us) e=AW ts e:=by
 unfold AW;rw[Dp #[3]]
theorem Ur (ts:AR) (a b:Int):AW (ts++[(a,b)]) (2*ts.length)=a/\AW (ts++[(a,b)]) (2*ts.length+1)=b:=by
 unfold AW;constructor
 ·rw[show 2*ts.length / 2=ts.length by lia,Ci (AX _),HL]
  show (if 2*ts.length % 2=0 then a else b)=a;rw[AM #[2]]
 ·rw[show (2*ts.length+1) / 2=ts.length by lia,Ci (AX _),HL]
  show (if (2*ts.length+1) % 2=0 then a else b)=b;rw[AL #[2]]
theorem VC (hO:A0 n ts o):Lj (ts++us) (2*ts.length) o:=by
 intro p r hr;have R:=hO.row p r hr;have e:B0 (ts++us) (2*ts.length) (p:Int)=B0 ts (2*ts.length) (p:Int):=by
  unfold B0;congr 1;apply CJ;intro e he;rw[Ut (BD.mp he)]
 exact(by rw[e];exact R.perm,by rw[e];exact R.first)
theorem JK {o:Ay}(h:p<o.length):o[p]?=some (o.getD p []):=by
 rw[Al,AS h];rfl
theorem j_ok {c:Nat ⊕ Nat}(h:∀e,c=.inl e->(e:Int)∈r):jOf r c<=r.length/\(r≠[]->1<=jOf r c):=by
 cases c with
 |inl e=>
  have:=(D7<|h e rfl).1;exact(by show r.idxOf (e:Int)+1<=_;lia,λ_=>by show 1<=r.idxOf (e:Int)+1;lia)
 |inr p=>exact(AX _,λh=>IT.mpr h)
theorem Q5 {c:Nat ⊕ Nat}(z:Lj ts k o) (O:p<o.length) (L:AW ts k=(p:Int)) (U:∀e,c=.inl e->(e:Int)∈o.getD p []):Lj ts (k+1) (put1 o p c (k:Int)):=by
 intro q r hr;unfold put1 at hr;obtain⟨j,J⟩:=j_ok U;by_cases hq:q=p
 ·subst hq
  rw[B5 O]at hr;cases hr;exact(z q _<|JK O).put L j J
 ·rw[B9 (Ne.symm hq)]at hr
  exact(z q r hr).stay (by rw[L];lia)
theorem Kg (hW:AZ n ts) (hO:A0 n ts o) (j:FJ n ts o c):corP ts c<o.length/\(∀e,c=.inl e->(e:Int)∈o.getD (corP ts c) []/\e<2*ts.length):=by
 have l:=hO.len;cases c with
 |inl e=>
  have E:e<2*ts.length:=j;obtain⟨b,d⟩:=ED hW E;have P:corP ts (.inl e)<o.length:=by show (AW ts e).toNat<_;lia
  refine(P,λa h=>?_);cases h;refine((hO.row _ _<|JK P).mem.mpr (e,E,?_,rfl),E);show AW ts e=(((AW ts e).toNat:Nat):Int);lia
 |inr p=>exact(by have:=j.1;show p<_;lia,λe h=>nomatch h)
theorem K3 (o:Ay) (p:Nat) (c:Nat ⊕ Nat) (x:Int):(put1 o p c x).length=o.length:=by unfold put1;rw[Ff]
theorem Zuy (h:y∈r):y∈rowW r c x:=by
 unfold rowW;rw[<- En (jOf r c) r]at h;rcases Bo.mp h with z|z
 ·exact Bo.mpr (.inl z)
 ·exact Bo.mpr (.inr<|Bs _ z)
theorem QZ (j:q<o.length) (h:y∈o.getD q []):y∈(put1 o p c x).getD q []:=by
 unfold put1;rw[Al,GF];by_cases hp:p=q
 ·subst hp
  rw[AM rfl,AM j];exact Zuy h
 ·rw[AL hp,<- Al]
  exact h
theorem Zyc (hW:AZ n ts) (hO:A0 n ts o) (j:FJ n ts o c) (z:FJ n ts o d):A0 n (Fe ts c d) (putO ts o c d):=by
 obtain⟨C,a⟩:=Kg hW hO j;obtain⟨D,b⟩:=Kg hW hO z;obtain⟨N,f⟩:=Ur ts (corP ts c)<|corP ts d;refine(by unfold putO;rw[K3,K3];exact hO.len,?_);have R:=Q5 (VC (us:=[((corP ts c:Int),(corP ts d:Int))]) hO) C N λe h=>(a e h).1;have r:=Q5 R (c:=d) (by rw[K3];exact D) f λe h=>QZ D (b e h).1;have e:2*(Fe ts c d).length=2*ts.length+1+1:=by unfold Fe;rw[A1,CO];lia
 rw[e];exact r
def iter (f:Int->Int) (e:Int):Nat->Int
 |0=>e
 |n+1=>f (iter f e n)
def Bi (f:Int->Int) (e:Int) (n:Nat):List Int:=(Af n).map (iter f e)
structure CY (f:Int->Int) (m:Nat):Prop where
 to:∀x,0<=x->x<(m:Int)->0<=f x/\f x<(m:Int)
 inj:∀x y,0<=x->x<(m:Int)->0<=y->y<(m:Int)->f x=f y->x=y
def NdTo (f:Int->Int) (e:Int) (n:Nat):Prop:=∀i j,i<n->j<n->iter f e i=iter f e j->i=j
structure DO (f:Int->Int) (e:Int) (n:Nat):Prop where
 pos:0<n
 back:iter f e n=e
 nd:NdTo f e n
theorem Ez (f:Int->Int) (e:Int) (j n:Nat):iter f (iter f e j) n=iter f e (j+n):=by
 induction n with
 |zero=>rfl
 |succ n ih=>show f (iter f (iter f e j) n)=f (iter f e (j+n));rw[ih]
theorem EB (f:Int->Int) (e:Int) (n:Nat):(Bi f e n).length=n:=by unfold Bi;rw[AH,By]
theorem Kq (f:Int->Int) (e:Int) (a b:Nat):Bi f e (a+b)=Bi f e a++Bi f (iter f e a) b:=by
 unfold Bi;rw[List.range_add,A5,Ba];congr 1;apply Dq;intro i _;exact(Ez f e a i).symm
theorem PC (f:Int->Int) (e:Int) (n:Nat):Bi f e (n+1)=Bi f e n++[iter f e n]:=by rw[Kq];rfl
theorem Cq:x∈Bi f e n ↔ ∃i,i<n/\iter f e i=x:=by
 unfold Bi;rw[A2];constructor
 ·rintro⟨i,h,rfl⟩;exact(i,BD.mp h,rfl)
 ·rintro⟨i,h,rfl⟩;exact(i,BD.mpr h,rfl)
theorem Kp (h:i<n):(Bi f e n)[i]?=some (iter f e i):=by
 unfold Bi;rw[Ad,Ep h];rfl
theorem DO.uniq (h:DO f e n) (h':DO f e k):n=k:=by
 rcases L5 n k with z|z|z
 ·have:=h'.nd n 0 z h'.pos (by rw[h.back];rfl)
  have:=h.pos;lia
 ·exact z
 ·have:=h.nd k 0 z h.pos (by rw[h'.back];rfl)
  have:=h'.pos;lia
noncomputable def per (f:Int->Int) (e:Int):Nat:=Classical.epsilon<|DO f e
noncomputable def orb (f:Int->Int) (e:Int):List Int:=Bi f e<|per f e
theorem DO.per (h:DO f e n):Lw.per f e=n:=(Classical.epsilon_spec (p:=DO f e) (n,h)).uniq h
theorem DO.orb (h:DO f e n):Lw.orb f e=Bi f e n:=by unfold Lw.orb;rw[h.per]
section
variable {f:Int->Int}{m:Nat}(F:CY f m) {e:Int}(h0:0<=e) (h1:e<(m:Int))
include F h0 h1
theorem Dh (n:Nat):0<=iter f e n/\iter f e n<(m:Int):=by
 induction n with
 |zero=>exact(h0,h1)
 |succ n ih=>exact F.to _ ih.1 ih.2
theorem LO {n:Nat}(L:1<=n) (J:NdTo f e n) (z:iter f e n≠e):NdTo f e (n+1):=by
 have y:∀j,j<n->iter f e n≠iter f e j:=by
  intro j hj q;cases j with
  |zero=>exact z q
  |succ j=>
   obtain⟨k,rfl⟩:∃k,n=k+1:=(n-1,#[2]);have a:=Dh F h0 h1 k;have b:=Dh F h0 h1 j;have:=J k j #[2] #[2]<|F.inj _ _ a.1 a.2 b.1 b.2 q;lia
 intro i j hi hj q;by_cases hin:i=n
 ·by_cases hjn:j=n
  ·lia
  ·subst hin;exact absurd q (y j #[2])
 ·by_cases hjn:j=n
  ·subst hjn;exact absurd q.symm (y i #[2])
  ·exact J i j #[2] #[2] q
theorem F9 {n:Nat}(z:NdTo f e n):n<=m:=by
 have N:(Bi f e n).Nodup:=by
  unfold Bi List.Nodup;rw[DX,FL];intro i j h hj hij;rw[By]at h hj;rw[Er,Er];intro q;have:=z i j h hj q;lia
 have:=Fw (m:=(Af m).map λe:Nat=>(e:Int)) N λx X=>by
  obtain⟨i,h,rfl⟩:=Cq.mp X;have:=Dh F h0 h1 i;exact A2.mpr ((iter f e i).toNat,BD.mpr #[2],#[2])
 rw[EB,AH,By]at this;exact this
theorem N7:NdTo f e 1:=λi j h J _=>#[2]
theorem Te:∃n,DO f e n:=by
 apply Classical.byContradiction;intro hn;have l:∀n,NdTo f e (n+1):=by
  intro n
  induction n with
  |zero=>exact N7 F h0 h1
  |succ n ih=>
   refine LO F h0 h1 #[2] ih λq=>hn (n+1,#[2],q,ih)
 have:=F9 F h0 h1<|l m;lia
theorem D9:DO f e (per f e):=by
 obtain⟨n,h⟩:=Te F h0 h1;rw[h.per];exact h
theorem FX:e∈orb f e:=Cq.mpr (0,(D9 F h0 h1).pos,rfl)
theorem RN:(orb f e).length<=m:=by
 unfold orb;rw[EB];exact F9 F h0 h1 (D9 F h0 h1).nd
theorem Dc (k:Nat):iter f e k∈orb f e:=by
 have O:=D9 F h0 h1
 induction k with
 |zero=>exact FX F h0 h1
 |succ k ih=>
  obtain⟨i,h,q⟩:=Cq.mp ih;show f (iter f e k)∈_;rw[<- q];by_cases hl:i+1=per f e
  ·have:f (iter f e i)=e:=by
    have:=O.back;rw[<- hl]at this;exact this
   rw[this];exact FX F h0 h1
  ·exact Cq.mpr (i+1,#[2],rfl)
theorem FZ {x:Int}(j:x∈orb f e):0<=x/\x<(m:Int):=by
 obtain⟨i,_,rfl⟩:=Cq.mp j;exact Dh F h0 h1 i
theorem Zuu {x y:Int}(a0:0<=x) (a1:x<(m:Int)) (b0:0<=y) (b1:y<(m:Int)) (j:Nat) (q:iter f x j=iter f y j):x=y:=by
 induction j with
 |zero=>exact q
 |succ j ih=>
  have a:=Dh F a0 a1 j;have b:=Dh F b0 b1 j;exact ih<|F.inj _ _ a.1 a.2 b.1 b.2 q
theorem Zx4 (j:Nat):DO f (iter f e j) (per f e):=by
 have O:=D9 F h0 h1;refine(O.pos,?_,λi k h K q=>?_)
 ·rw[Ez,Nat.add_comm,<- Ez,O.back]
 ·rw[Ez,Ez,Nat.add_comm j i,Nat.add_comm j k,<- Ez,<- Ez]at q
  have a:=Dh F h0 h1 i;have b:=Dh F h0 h1 k;exact O.nd i k h K<|Zuu F h0 h1 a.1 a.2 b.1 b.2 j q
theorem Eb {x:Int}(z:x∈orb f e):e∈orb f x:=by
 have O:=D9 F h0 h1;obtain⟨j,h,rfl⟩:=Cq.mp z;have a:=Dh F h0 h1 j;have:=Dc F a.1 a.2<|per f e-j;rw[Ez,show j+(per f e-j)=per f e by lia,O.back]at this;exact this
theorem EX {x y:Int}(z:x∈orb f e) (Y:y∈orb f x):y∈orb f e:=by
 obtain⟨j,_,rfl⟩:=Cq.mp z;obtain⟨i,_,rfl⟩:=Cq.mp Y;rw[Ez];exact Dc F h0 h1 _
theorem Zxb {j:Nat}(J:j<per f e):Cb (orb f e) j=orb f (iter f e j):=by
 have O:=D9 F h0 h1;rw[(Zx4 F h0 h1 j).orb];unfold orb Cb;have E:Bi f e (per f e)=Bi f e j++Bi f (iter f e j) (per f e-j):=by rw[<- Kq,show j+(per f e-j)=per f e by omega]
 have a:Bi f (iter f e j) (per f e)=Bi f (iter f e j) (per f e-j)++Bi f e j:=by
  conv=>lhs;rw[show per f e=(per f e-j)+j by lia]
  rw[Kq,Ez,show j+(per f e-j)=per f e by omega,O.back]
 rw[a,E,List.drop_left' (EB ..),List.take_left' (EB ..)]
theorem Ks:(orb f e).Nodup:=by
 have O:=D9 F h0 h1;unfold orb Bi List.Nodup;rw[DX,FL];intro i j hi hj hij;rw[By]at hi hj;rw[Er,Er];intro q;have:=O.nd i j hi hj q;lia
theorem JM:∃l,orb f e=e::l:=by
 have O:=D9 F h0 h1;unfold orb;obtain⟨n,h⟩:∃n,per f e=1+n:=(per f e-1,by have:=O.pos;lia);rw[h,Kq];exact(_,rfl)
end
open Classical in
noncomputable def BB (f:Int->Int) (e:Nat):Bool:=decide (∀x∈orb f (e:Int),(e:Int)<=x)
noncomputable def BG (f:Int->Int) (k:Nat):Ay:=((Af k).filter (BB f)).map λe:Nat=>orb f (e:Int)
theorem KY (f:Int->Int) (k:Nat):BG f (k+1)=BG f k++(if BB f k=true then [orb f (k:Int)] else []):=by
 unfold BG;rw[List.range_succ,Cw,A5];congr 1;by_cases h:BB f k=true
 ·rw[AM h];simp[CA,h]
 ·rw[AL h];simp[CA,h]
theorem Me (f:Int->Int) (k:Nat):(BG f k).length<=k:=by
 unfold BG;rw[AH];exact Ck (GJ _ _) (by rw[By];exact AX _)
def Dn (f:Int->Int) (k:Nat) (x:Int):Prop:=∃e:Nat,e<k/\x∈orb f (e:Int)
section
variable {f:Int->Int}{m:Nat}(F:CY f m)
include F
theorem Hl {k:Nat}(j:k<m):Dn f k (k:Int)↔BB f k=false:=by
 unfold BB;rw[decide_eq_false_iff_not];constructor
 ·rintro⟨e,E,X⟩ h
  have:=h _<|Eb F #[2] #[2] X;lia
 ·intro h
  apply Classical.byContradiction;intro hn;refine h λx X=>?_;have r:=FZ F #[2] #[3] X;apply Classical.byContradiction;intro hlt;refine hn (x.toNat,#[3],?_);rw[show ((x.toNat:Nat):Int)=x by lia];exact Eb F #[2] #[3] X
theorem Kx {k:Nat}(j:k<m) {x:Int}:Dn f (k+1) x↔Dn f k x\/(BB f k=true/\x∈orb f (k:Int)):=by
 constructor
 ·rintro⟨e,H,h⟩
  by_cases hek:e=k
  ·subst hek
   by_cases hl:BB f e=true
   ·exact .inr (hl,h)
   ·obtain⟨a,E,X⟩:=(Hl F j).mpr (FR.mpr hl)
    exact .inl (a,E,EX F #[3] #[3] X h)
  ·exact .inl (e,#[2],h)
 ·rintro(⟨e,H,h⟩|⟨_,h⟩)
  ·exact(e,#[2],h)
  ·exact(k,#[2],h)
theorem Qd {k:Nat}(z:k<=m) {x:Int}(h0:0<=x) (h1:x<(m:Int)) (j:Nat):Dn f k (iter f x j)↔Dn f k x:=by
 have J:=Dh F h0 h1 j;constructor
 ·rintro⟨e,h,X⟩
  exact(e,h,EX F #[2] #[2] X<|Eb F h0 h1<|Dc F h0 h1 j)
 ·rintro⟨e,h,X⟩
  exact(e,h,EX F #[3] #[3] X<|Dc F h0 h1 j)
theorem Kt {x:Int}(h0:0<=x) (h1:x<(m:Int)):∃e:Nat,e<m/\BB f e=true/\(e:Int)∈orb f x/\∀r∈BG f m,x∈r↔r=orb f (e:Int):=by
 obtain⟨y,Y,h⟩:=E2 (orb f x) (by obtain⟨l,e⟩:=JM F h0 h1;rw[e];simp);have r:=FZ F h0 h1 Y;have E:((y.toNat:Nat):Int)=y:=#[2]
 have L:BB f y.toNat=true:=by
  unfold BB;rw[decide_eq_true_iff,E];exact λz Z=>h z<|EX F h0 h1 Y Z
 refine(y.toNat,#[2],L,by rw[E];exact Y,λq Q=>?_);unfold BG at Q;obtain⟨e,H,rfl⟩:=A2.mp Q;rw[Ao,BD]at H;rw[E];constructor
 ·intro hx
  have c:y∈orb f (e:Int):=EX F #[2] #[2] hx Y;have d:(e:Int)∈orb f x:=Eb F #[3] #[3] hx;have a:=h _ d;have b:(e:Int)<=y:=by
   have:=H.2;unfold BB at this;exact of_decide_eq_true this y c
  rw[show (e:Int)=y by lia]
 ·intro q
  rw[q];exact Eb F h0 h1 Y
theorem JX {e:Nat}(j:e<m) (L:BB f e=true):orb f (e:Int)∈BG f m:=by
 unfold BG;exact A2.mpr (e,by rw[Ao,BD];exact(j,L),rfl)
end
theorem Fy (h:x∈r):Aw r x∈r:=by
 obtain⟨H,_,_⟩:=D7 h;have m:(r.idxOf x+1) % r.length<r.length:=Im _ #[2];unfold Aw;rw[Al,AS m];exact Br m
theorem Qy (z:r.Nodup) (L:x∈r) (Y:y∈r) (h:Aw r x=Aw r y):x=y:=by
 obtain⟨i,I⟩:=ER.mp L;obtain⟨j,J⟩:=ER.mp Y;obtain⟨c,d⟩:=BZ.mp I;obtain⟨f,g⟩:=BZ.mp J;rw[Hj z I,Hj z J,Al,Al]at h;have a:nxI r.length i<r.length:=by unfold nxI;split <;> lia
 have b:nxI r.length j<r.length:=by unfold nxI;split <;> lia
 rw[AS a,AS b]at h;have e:=(IJ z).mp (show r[nxI r.length i]=r[nxI r.length j] from h);have:i=j:=by unfold nxI at e;split at e <;> split at e <;> lia
 subst this;rw[I]at J;exact CF.inj J
theorem HW (e:Nat):partner (partner e)=e:=by unfold partner;split <;> split <;> lia
def onI (ts:AR) (o:Ay) (x:Int):Int:=CV ts o<|partner x.toNat
theorem Gf (hW:AZ n ts) (hO:A0 n ts o) (j:e<2*ts.length):∃g:Nat,g<2*ts.length/\AW ts g=AW ts e/\(g:Int)=CV ts o e:=by
 obtain⟨b,G,a⟩:=E5 hW hO j;exact G.mem.mp<|Fy a
theorem Di (hW:AZ n ts) (hO:A0 n ts o):CY (onI ts o) (2*ts.length):=by
 refine(λx H b=>?_,λx y H b l m q=>?_)
 ·obtain⟨g,G,_,e⟩:=Gf hW hO (EZ (show x.toNat<2*ts.length by lia))
  unfold onI;rw[<- e];lia
 ·have h:=EZ (show x.toNat<2*ts.length by lia)
  have Y:=EZ (show y.toNat<2*ts.length by lia);obtain⟨g,G,P,i⟩:=Gf hW hO h;obtain⟨k,s,c,j⟩:=Gf hW hO Y;unfold onI at q;have K:g=k:=#[2]
  subst K;have p:AW ts (partner x.toNat)=AW ts (partner y.toNat):=P.symm.trans c;obtain⟨_,d,f⟩:=E5 hW hO h;obtain⟨_,_,r⟩:=E5 hW hO Y;have R:Bf ts o (partner y.toNat)=Bf ts o (partner x.toNat):=by unfold Bf;rw[p]
  unfold CV at q;rw[R]at q r;have:=Qy d.nodup f r q;have E:partner x.toNat=partner y.toNat:=#[2]
  have a:=congrArg partner E;rw[HW,HW]at a;lia
def lone (o:Ay):Nat:=(o.filter λr=>r.isEmpty).length
theorem Na (o:Ay):lone o<=o.length:=GJ _ _
theorem QF (o:Ay) (p:D->Bool) (z:∀r:List Int,p (rowD r)=r.isEmpty) (g:D->D) (j:∀d,g d=.tup []):((o.map rowD).filter p).map g=(Ak (lone o) ([]:List Int)).map rowD:=by
 unfold lone
 induction o with
 |nil=>rfl
 |cons r o ih=>
  rw[BO,CA,CA,z];cases h:r.isEmpty with
  |true=>simp only[if_true];rw[BO,BI,Gy,BO,ih,j];rfl
  |false=>simp only[CD,if_false];exact ih
theorem A0.flat_eq (hW:AZ n ts) (h:A0 n ts o):o.flatten.length=2*ts.length:=by
 have d:=h.flat_len;have H:=Fw (l:=(Af (2*ts.length)).map λe:Nat=>(e:Int)) (m:=o.flatten) ?_ λx X=>by
  obtain⟨e,E,rfl⟩:=A2.mp X;rw[BD]at E;obtain⟨g,c,G⟩:=E5 hW h E;exact IH.mpr (_,Bd g,G)
 ·rw[AH,By]at H;lia
 ·refine List.Pairwise.map _ (λa b q=>?_) HH
  intro e;exact q #[2]
def OE:DSp:=λs t=>∃ns:List Int,s=[.lst (ns.map .int)]/\0<ns.length/\ns.length<=100/\∀m,m∈ns->(∀a∈ns,m<=a)->t (rowD<|Cb ns<|ns.idxOf m)
def OF:DSp:=λs t=>∃n ts o,∃e:Nat,s=[A6 n ts,Bb o,.int e]/\AZ n ts/\A0 n ts o/\e<2*ts.length/\∀g:Nat,g<2*ts.length->BB (onI ts o) g=true->(g:Int)∈orb (onI ts o) e->t (rowD<|orb (onI ts o) g)
noncomputable def allF (ts:AR) (o:Ay):Ay:=Ak (lone o) []++BG (onI ts o) (2*ts.length)
def fFaces:NSp:=λs t=>∃n ts o,s=[A6 n ts,Bb o]/\AZ n ts/\A0 n ts o/\t ((allF ts o).map rowD)
theorem Kv (hW:AZ n ts) (hO:A0 n ts o):(allF ts o).length<=100:=by
 unfold allF;rw[A1,Cc];have:=Me (onI ts o) (2*ts.length);have:=Na o;have:=hO.len;have:=hW.hi;have:=hW.len;lia
theorem WB (hW:AZ n ts) (hO:A0 n ts o):∀r∈allF ts o,r.length<=48:=by
 intro r hr;unfold allF at hr;rcases Bo.mp hr with h|h
 ·rw[(Fi.mp h).2];simp
 ·unfold BG at h
  obtain⟨e,E,rfl⟩:=A2.mp h;rw[Ao,BD]at E;have:=RN (Di hW hO) (e:=(e:Int)) #[2] #[2];have:=hW.len;lia
def loI (a b:Int):Int:=if b<a then b else a
def hiI (a b:Int):Int:=if b > a then b else a
def Cu (l:List Int) (a b:Int):List Int:=l.map λf=>if f=hiI (l.getD a.toNat 0) (l.getD b.toNat 0) then loI (l.getD a.toNat 0) (l.getD b.toNat 0) else f
def AG (n:Nat) (ts:AR):List Int:=ts.foldl (λl t=>Cu l t.1 t.2) ((Af n).map λi:Nat=>(i:Int))
theorem PL (l:List Int) (a b:Int):(Cu l a b).length=l.length:=by unfold Cu;rw[AH]
theorem CC (n:Nat) (ts:AR):(AG n ts).length=n:=by
 unfold AG;have:∀(ts:AR) (l:List Int),(ts.foldl (λl t=>Cu l t.1 t.2) l).length=l.length:=by
  intro ts
  induction ts with
  |nil=>intro l;rfl
  |cons t ts ih=>intro l;rw[List.foldl_cons,ih,PL]
 rw[this,AH,By]
theorem Fs {ts:AR}(h:ts[i]?=some t):AG n (ts.take<|i+1)=Cu (AG n<|ts.take i) t.1 t.2:=by
 unfold AG;rw[Cy,h,L3];rfl
def Bw (ms l:List Int):Prop:=ms.Pairwise (· < ·)/\∀x,x∈ms↔x∈l
theorem Fu:∀{ms ms':List Int},ms.Pairwise (· < ·)->ms'.Pairwise (· < ·)->(∀x,x∈ms↔x∈ms')->ms=ms'
 |[],[],_,_,_=>rfl
 |[],y::l',_,_,h=>by have:=(h y).mpr #[4];simp at this
 |x::l,[],_,_,h=>by have:=(h x).mp #[4];simp at this
 |x::l,y::l',h1,h2,h=>by
  rw[IW]at h1 h2;have e:x=y:=by
   have a:=(h x).mp #[4];have b:=(h y).mpr #[4];rcases Az.mp a with z|z
   ·exact z
   ·rcases Az.mp b with Z|Z
    ·exact Z.symm
    ·have:=h1.1 _ Z
     have:=h2.1 _ z;lia
  subst e;rw[Fu h1.2 h2.2 λz=>?_];constructor
  ·intro hz
   have:=h1.1 _ hz;rcases Az.mp ((h z).mp (Bs _ hz)) with q|q
   ·lia
   ·exact q
  ·intro hz
   have:=h2.1 _ hz;rcases Az.mp ((h z).mpr (Bs _ hz)) with q|q
   ·omega
   ·exact q
theorem Bw.uniq (h:Bw ms l) (h':Bw ms' l):ms=ms':=Fu h.1 h'.1 λx=>(h.2 x).trans (h'.2 x).symm
theorem Hd:∀{ms l:List Int},ms.Nodup->(∀x∈ms,x∈l)->ms.length<=l.length
 |[],_,_,_=>#[4]
 |x::ms,l,h1,h2=>by
  rw[DB]at h1;have h:=h2 x #[4];have:=Hd (ms:=ms) (l:=l.erase x) h1.2 λy Y=>(List.mem_erase_of_ne λz:y=x=>h1.1 (z ▸ Y)).mpr (h2 y (by simp[Y]));rw[Lu h]at this;have:=El h;rw[BI];lia
theorem Bw.len (h:Bw ms l):ms.length<=l.length:=Hd (h.1.imp λz=>Em z) λx X=>(h.2 x).mp X
def Aa (l:List Int) (n:Nat) (f:Int):List Int:=((Af n).map λi:Nat=>(i:Int)).filter λp=>decide (l.getD p.toNat 0=f)
def lstI (r:List Int):D:=.lst<|r.map .int
def CQ (n:Nat) (ts:AR) (ms:List Int):Ay:=ms.map<|Aa (AG n ts) n
def Jo:NSp:=λs t=>∃n ts,s=[A6 n ts]/\AZ n ts/\∀ms,Bw ms (AG n.toNat ts)->t ((CQ n.toNat ts ms).map lstI)
theorem Rw (l:List Int) (n:Nat) (f:Int) (p:D->Bool) (z:∀i:Int,p (.int i)=decide (l.getD i.toNat 0=f)) (g:D->D) (j:∀d,g d=d):D.lst (((rngD 0 n).filter p).map g)=lstI (Aa l n f):=by
 have e:rngD 0 n=((Af n).map λi:Nat=>(i:Int)).map D.int:=by
  unfold rngD;rw[Ba];apply Dq;intro i _;show D.int (0+(i:Int))=D.int (i:Int);rw[DE]
 unfold lstI Aa;rw[e,DC,show g=id from funext j,IY];have E:(p∘D.int)=λq:Int=>decide (l.getD q.toNat 0=f):=funext z;rw[E]
theorem Zyf {l ms:List Int}(q:D->Bool) (z:∀d,q d=true) (g:D->D) (j:∀f:Int,g (.int f)=lstI (Aa l n f)):((ms.map D.int).filter q).map g=(ms.map<|Aa l n).map lstI:=by
 rw[Cd.mpr (λd _=>z d),Ba,Ba];apply Dq;intro f _;exact j f
section
variable {f:Int->Int}{m:Nat}(F:CY f m)
include F
theorem Kc:(BG f m).flatten.Nodup:=by
 unfold List.Nodup;rw[List.pairwise_flatten];refine(λr h=>?_,?_)
 ·unfold BG at h
  obtain⟨e,E,rfl⟩:=A2.mp h;rw[Ao,BD]at E;exact Ks F #[3] #[2]
 ·unfold BG
  rw[DX,FL];intro i j hi hj hij x hx y hy hxy;subst hxy;have I:=Ao.mp<|Br hi;have J:=Ao.mp<|Br hj;rw[BD]at I J;have w:((Af m).filter (BB f)).Pairwise (· < ·):=List.Pairwise.filter _ Ek;have t:=FL.mp w i j hi hj hij;generalize ((Af m).filter (BB f))[i]=a at *;generalize ((Af m).filter (BB f))[j]=b at *;have B:(a:Int)∈orb f (b:Int):=EX F #[2] #[2] hy<|Eb F #[2] #[2] hx;have:=of_decide_eq_true (show decide (∀x∈orb f (b:Int),(b:Int)<=x)=true from J.2) _ B;lia
theorem Vo:(BG f m).flatten.Perm ((Af m).map λe:Nat=>(e:Int)):=by
 rw[Fh (Kc F)]
 ·intro x
  rw[IH,A2];constructor
  ·rintro⟨r,R,X⟩
   unfold BG at R;obtain⟨e,h,rfl⟩:=A2.mp R;rw[Ao,BD]at h;have:=FZ F #[3] #[3] X;exact(x.toNat,BD.mpr #[2],#[2])
  ·rintro⟨e,h,rfl⟩
   rw[BD]at h;obtain⟨g,G,l,M,A⟩:=Kt F (x:=(e:Int)) #[3] #[3];exact(_,JX F G l,(A _<|JX F G l).mpr rfl)
 ·refine List.Pairwise.map _ (λa b q=>?_) HH
  intro e;exact q #[3]
end
theorem Zu3 (hW:AZ n ts) (hO:A0 n ts o) (j:r∈allF ts o):r=[]\/∃e:Nat,e<2*ts.length/\BB (onI ts o) e=true/\r=orb (onI ts o) (e:Int):=by
 unfold allF at j;rcases Bo.mp j with h|h
 ·exact .inl (Fi.mp h).2
 ·unfold BG at h
  obtain⟨e,E,rfl⟩:=A2.mp h;rw[Ao,BD]at E;exact .inr (e,E.1,E.2,rfl)
theorem E4 (l:List Int) (a b:Int) (j:p<l.length):(Cu l a b).getD p 0=if l.getD p 0=hiI (l.getD a.toNat 0) (l.getD b.toNat 0) then loI (l.getD a.toNat 0) (l.getD b.toNat 0) else l.getD p 0:=by
 unfold Cu;rw[Al,Ad,AS j,Al (l:=l) (i:=p),AS j];rfl
theorem lohi (a b:Int):(a=loI a b\/a=hiI a b)/\(b=loI a b\/b=hiI a b):=by
 unfold loI hiI;constructor
 ·by_cases h:b<a
  ·right;rw[AL #[2]]
  ·left;rw[AL h]
 ·by_cases h:b<a
  ·left;rw[AM h]
  ·by_cases h2:b > a
   ·right;rw[AM h2]
   ·left;rw[AL h];lia
theorem Mk (l:List Int) {t:Int × Int}(h1:t.1.toNat<l.length) (h2:t.2.toNat<l.length):(Cu l t.1 t.2).getD t.1.toNat 0=loI (l.getD t.1.toNat 0) (l.getD t.2.toNat 0)/\(Cu l t.1 t.2).getD t.2.toNat 0=loI (l.getD t.1.toNat 0) (l.getD t.2.toNat 0):=by
 obtain⟨a,b⟩:=lohi (l.getD t.1.toNat 0)<|l.getD t.2.toNat 0;rw[E4 _ _ _ h1,E4 _ _ _ h2];constructor
 ·split
  ·rfl
  ·rename_i h;rcases a with a|a
   ·exact a
   ·exact absurd a h
 ·split
  ·rfl
  ·rename_i h;rcases b with b|b
   ·exact b
   ·exact absurd b h
section
variable {N:Nat}{ts:AR}(hW:AZ (N:Int) ts)
include hW
theorem Mv:∀i,i<=ts.length->∀t∈ts.take i,(AG N<|ts.take i).getD t.1.toNat 0=(AG N<|ts.take i).getD t.2.toNat 0
 |0,_,t,ht=>by simp at ht
 |i+1,hi,t,ht=>by
  have l:i<ts.length:=hi;have z:=AS l;rw[Fs z];have L:=CC N<|ts.take i;have u:=hW.tie _<|Br l;rw[Cy,z]at ht;rcases Bo.mp ht with h|h
  ·have H:=Mv i #[2] t h
   have r:=hW.tie t<|IS h;rw[E4 _ _ _ #[3],E4 _ _ _ #[3],H]
  ·have e:t=ts[i]:=by simpa using h
   subst e;obtain⟨a,b⟩:=Mk (AG N<|ts.take i) (t:=ts[i]) #[3] #[3];rw[a,b]
theorem PZ:∀i,i<=ts.length->∀p:Nat,p<N->(∃t∈ts.take i,(AG N<|ts.take i).getD t.1.toNat 0=(AG N<|ts.take i).getD p 0)\/(∀q:Nat,q<N->(AG N<|ts.take i).getD q 0=(AG N<|ts.take i).getD p 0->q=p)
 |0,_,p,hp=>by
  right
  intro q Q e;have A:∀r:Nat,r<N->(AG N<|ts.take 0).getD r 0=(r:Int):=λr R=>by
   show ((Af N).map λi:Nat=>(i:Int)).getD r 0=_;rw[Al,Ad,Ep R];rfl
  rw[A q Q,A p hp]at e;lia
 |i+1,hi,p,hp=>by
  have h:i<ts.length:=hi;have z:=AS h;rw[Fs z];have j:=CC N<|ts.take i;have u:=hW.tie _<|Br h;have k:ts.take (i+1)=ts.take i++[ts[i]]:=by rw[Cy,z];rfl
  obtain⟨a,b⟩:=Mk (AG N<|ts.take i) (t:=ts[i]) #[2] #[2];obtain⟨l,L⟩:∃l,AG N (ts.take i)=l:=(_,rfl);have H:=PZ i #[2] p hp;rw[L]at j a b H ⊢;obtain⟨O,o⟩:∃O,loI (l.getD ts[i].1.toNat 0) (l.getD ts[i].2.toNat 0)=O:=(_,rfl);obtain⟨g,G⟩:∃g,hiI (l.getD ts[i].1.toNat 0) (l.getD ts[i].2.toNat 0)=g:=(_,rfl);have T:∀q:Nat,q<N->(Cu l ts[i].1 ts[i].2).getD q 0=if l.getD q 0=g then O else l.getD q 0:=λq Q=>by
   rw[E4 _ _ _ #[2],o,G]
  rw[o]at a;by_cases c:l.getD p 0=g\/l.getD p 0=O
  ·left
   refine(ts[i],by rw[k];exact Bx _<|BU.mpr rfl,?_);rw[a,T p hp];rcases c with c|c
   ·rw[AM c]
   ·split
    ·rfl
    ·exact c.symm
  ·have C:l.getD p 0≠g:=λz=>c (.inl z)
   have f:l.getD p 0≠O:=λz=>c (.inr z);rcases H with ⟨t,d,e⟩|H
   ·left
    have R:=hW.tie t<|IS d;refine(t,by rw[k];exact D1 _ d,?_);rw[T _ #[2],T p hp,e]
   ·right
    intro q Q e;rw[T q Q,T p hp,AL C]at e;split at e
    ·exact absurd e.symm f
    ·exact H q Q e
theorem K2 {t:Int × Int}(ht:t∈ts):(AG N ts).getD t.1.toNat 0=(AG N ts).getD t.2.toNat 0:=by
 have:=Mv hW ts.length (AX _) t (by rw[CP];exact ht);rw[CP]at this;exact this
theorem WH {p:Nat}(j:p<N):(∃t∈ts,(AG N ts).getD t.1.toNat 0=(AG N ts).getD p 0)\/(∀q:Nat,q<N->(AG N ts).getD q 0=(AG N ts).getD p 0->q=p):=by
 have:=PZ hW ts.length (AX _) p j;rw[CP]at this;exact this
end
theorem CH:x∈Aa l n g↔0<=x/\x<(n:Int)/\l.getD x.toNat 0=g:=by
 unfold Aa;rw[Ao,A2,decide_eq_true_iff];constructor
 ·rintro⟨⟨i,I,rfl⟩,h⟩
  rw[BD]at I;exact(#[2],#[2],h)
 ·rintro⟨H,a,h⟩
  exact((x.toNat,BD.mpr #[2],#[2]),h)
theorem Kd (l:List Int) (n:Nat) (g:Int):(Aa l n g).Nodup:=by
 unfold Aa;refine List.Pairwise.filter _<|List.Pairwise.map _ (λa b q=>?_) HH;intro e;exact q #[3]
def B1 (ts:AR) (j:List Int):AR:=ts.filter λt=>decide<|t.1∈j
def ownB (ts:AR) (j:List Int):List Int->Bool
 |[]=>false
 |e::_=>decide (AW ts e.toNat∈j)
noncomputable def DN (ts:AR) (o:Ay) (j:List Int):Ay:=(allF ts o).filter (ownB ts j)
noncomputable def hopI (ts:AR) (o:Ay) (j:List Int):Int:=(2-(j.length:Int)+((B1 ts j).length:Int)-hiI 1 ((DN ts o j).length:Int)) / 2
section
variable {N:Nat}{ts:AR}{o:Ay}(hW:AZ (N:Int) ts) (hO:A0 (N:Int) ts o)
include hW
theorem Uo {e:Nat}(j:e<2*ts.length):(AG N ts).getD (AW ts<|partner e).toNat 0=(AG N ts).getD (AW ts e).toNat 0:=by
 have k:e / 2<ts.length:=#[3]
 have z:=AS k;have t:=K2 hW<|Br k;have E:partner e / 2=e / 2:=by unfold partner;split <;> lia
 unfold AW;rw[E,z];dsimp only;by_cases h:e % 2=0
 ·rw[AM h,AL (by unfold partner;rw[AM h];lia)];exact t.symm
 ·rw[AL h,AM (by unfold partner;rw[AL h];lia)];exact t
theorem Qm {e:Nat}(j:e<2*ts.length):∃t∈ts,(AG N ts).getD t.1.toNat 0=(AG N ts).getD (AW ts e).toNat 0:=by
 have k:e / 2<ts.length:=#[3]
 refine(ts[e / 2],Br k,?_);have h:=K2 hW<|Br k;unfold AW;rw[AS k];dsimp only;split
 ·rfl
 ·exact h
include hO
theorem Zww {x:Int}(h0:0<=x) (h1:x<((2*ts.length:Nat):Int)):(AG N ts).getD (AW ts (onI ts o x).toNat).toNat 0=(AG N ts).getD (AW ts x.toNat).toNat 0:=by
 have h:x.toNat<2*ts.length:=#[3]
 obtain⟨g,G,p,e⟩:=Gf hW hO<|EZ h;unfold onI;rw[<- e,Aq,p];exact Uo hW h
theorem Zuc {x y:Int}(h0:0<=x) (h1:x<((2*ts.length:Nat):Int)) (Y:y∈orb (onI ts o) x):(AG N ts).getD (AW ts y.toNat).toNat 0=(AG N ts).getD (AW ts x.toNat).toNat 0:=by
 obtain⟨j,h,rfl⟩:=Cq.mp Y;clear Y h
 induction j with
 |zero=>rfl
 |succ j ih=>
  have r:=Dh (Di hW hO) h0 h1 j;show (AG N ts).getD (AW ts (onI ts o<|iter (onI ts o) x j).toNat).toNat 0=_;rw[Zww hW hO r.1 r.2];exact ih
theorem Qj {g:Int}(h:B1 ts (Aa (AG N ts) N g)≠[]):1<=(DN ts o<|Aa (AG N ts) N g).length:=by
 obtain⟨t,T⟩:=Jr _ h;unfold B1 at T;rw[Ao,decide_eq_true_iff,CH]at T;obtain⟨T,_,_,G⟩:=T;obtain⟨i,I,rfl⟩:=IU T;have E:2*i<2*ts.length:=#[2]
 have F:=Di hW hO;have p:AW ts (2*i)=ts[i].1:=by
  unfold AW;rw[show 2*i / 2=i by lia,AS I];dsimp only;rw[AM #[2]]
 obtain⟨e,M,L,n,_⟩:=Kt F (x:=((2*i:Nat):Int)) #[2] #[2];have m:=JX F M L;have k:=Zuc hW hO #[2] #[2] n;rw[Aq,Aq,p,G]at k;obtain⟨r,R⟩:=JM F (e:=(e:Int)) #[2] #[2];have l:=ED hW M;have X:orb (onI ts o) (e:Int)∈DN ts o (Aa (AG N ts) N g):=by
  unfold DN;rw[Ao];refine(?_,?_)
  ·unfold allF;exact Bx _ m
  ·rw[R]
   show decide _=true;rw[decide_eq_true_iff,Aq,CH];exact(l.1,l.2,k)
 exact El X
theorem Qe {g:Int}(h:B1 ts (Aa (AG N ts) N g)=[]):DN ts o (Aa (AG N ts) N g)=[]:=by
 apply OM.mpr;intro r R;unfold DN at R;rw[Ao]at R;obtain⟨R,b⟩:=R;unfold allF at R;rcases Bo.mp R with z|z
 ·rw[(Fi.mp z).2]at b;cases b
 ·unfold BG at z
  obtain⟨e,E,rfl⟩:=A2.mp z;rw[Ao,BD]at E;obtain⟨r,a⟩:=JM (Di hW hO) (e:=(e:Int)) #[3] #[3];rw[a]at b;have b:=of_decide_eq_true (show decide _=true from b);rw[Aq,CH]at b;obtain⟨t,T,q⟩:=Qm hW E.1;have R:=hW.tie t T;have:t∈B1 ts (Aa (AG N ts) N g):=by
   unfold B1;rw[Ao,decide_eq_true_iff,CH];exact(T,R.1,R.2.1,q.trans b.2.2)
  rw[h]at this;cases this
omit hO in
theorem LD {g:Int}(j:g∈AG N ts) (h:B1 ts (Aa (AG N ts) N g)=[]):(Aa (AG N ts) N g).length=1:=by
 obtain⟨p,P,rfl⟩:=IU j;have L:=CC N ts;have e:(AG N ts).getD p 0=(AG N ts)[p]:=by rw[Al,AS P];rfl
 rw[<- e]at h ⊢;have n:(p:Int)∈Aa (AG N ts) N ((AG N ts).getD p 0):=CH.mpr (#[2],#[2],by rw[Aq]);rcases WH hW (p:=p) #[2] with ⟨t,T,q⟩|q
 ·have r:=hW.tie t T
  have:t∈B1 ts (Aa (AG N ts) N ((AG N ts).getD p 0)):=by
   unfold B1;rw[Ao,decide_eq_true_iff,CH];exact(T,r.1,r.2.1,q)
  rw[h]at this;cases this
 ·have a:=El n
  have b:=Hd (l:=[(p:Int)]) (Kd (AG N ts) N ((AG N ts).getD p 0)) λx X=>by
   obtain⟨c,d,H⟩:=CH.mp X;have:=q x.toNat #[2] H;rw[BU];lia
  rw[CO]at b;lia
theorem Q1 {g:Int}(j:g∈AG N ts) (h:B1 ts (Aa (AG N ts) N g)=[]):hopI ts o (Aa (AG N ts) N g)=0:=by
 unfold hopI;rw[Qe hW hO h,LD hW j h,h]
 decide
theorem Wj {g:Int}(h:B1 ts (Aa (AG N ts) N g)≠[]):hopI ts o (Aa (AG N ts) N g)=(2-((Aa (AG N ts) N g).length:Int)+((B1 ts<|Aa (AG N ts) N g).length:Int)-((DN ts o<|Aa (AG N ts) N g).length:Int)) / 2:=by
 unfold hopI;have:=Qj hW hO h;rw[show hiI 1 ((DN ts o<|Aa (AG N ts) N g).length:Int)=((DN ts o<|Aa (AG N ts) N g).length:Int) by unfold hiI;split <;> lia]
include hW hO
theorem PY:(allF ts o).length=lone o+((Af (2*ts.length)).filter λe=>BB (onI ts o) e && true).length:=by
 unfold allF BG;rw[A1,Cc,AH];congr 3
 funext e
 rw[GR]
theorem Pu (j:List Int):(DN ts o j).length=((Af (2*ts.length)).filter λe=>BB (onI ts o) e && decide (AW ts e∈j)).length:=by
 unfold DN allF BG;rw[Cw,A1,DC,AH,Cj];have E:((Ak (lone o) ([]:List Int)).filter (ownB ts j))=[]:=by
  rw[IL];intro r hr;rw[(Fi.mp hr).2];exact BL
 rw[E,EV,GL];congr 1;apply CJ;intro e he;rw[BD]at he;obtain⟨r,R⟩:=JM (Di hW hO) (e:=(e:Int)) #[3] #[2];show (ownB ts j (orb (onI ts o) (e:Int)) && _)=_;rw[R,HF];show (_ && decide (AW ts ((e:Int)).toNat∈j))=_;rw[Aq]
end
theorem JV (h:l.getD a.toNat 0=l.getD b.toNat 0):Cu l a b=l:=by
 unfold Cu
 conv=>rhs;rw[<- IY l]
 apply Dq;intro f _;have e:hiI (l.getD a.toNat 0) (l.getD b.toNat 0)=l.getD a.toNat 0:=by rw[<- h];unfold hiI;split <;> rfl
 have E:loI (l.getD a.toNat 0) (l.getD b.toNat 0)=l.getD a.toNat 0:=by rw[<- h];unfold loI;split <;> rfl
 rw[e,E];split
 ·rename_i z;exact z.symm
 ·rfl
structure Goes (N:Nat) (l l':List Int) (lo hi:Int):Prop where
 len:l.length=N
 len':l'.length=N
 lt:lo<hi
 inL:lo∈l
 inH:hi∈l
 to:∀p:Nat,p<N->l'.getD p 0=if l.getD p 0=hi then lo else l.getD p 0
theorem KZ {N:Nat}{l:List Int}{t:Int × Int}(L:l.length=N) (h1:t.1.toNat<N) (h2:t.2.toNat<N) (j:l.getD t.1.toNat 0≠l.getD t.2.toNat 0) :
  Goes N l (Cu l t.1 t.2) (loI (l.getD t.1.toNat 0)<|l.getD t.2.toNat 0) (hiI (l.getD t.1.toNat 0)<|l.getD t.2.toNat 0):=by
 have m:l.getD t.1.toNat 0∈l:=by rw[Al,AS (by lia:t.1.toNat<l.length)];exact Br _
 have M:l.getD t.2.toNat 0∈l:=by rw[Al,AS (by lia:t.2.toNat<l.length)];exact Br _
 refine(L,by rw[PL,L],?_,?_,?_,λp h=>E4 _ _ _ #[2])
 ·unfold loI hiI;split <;> split <;> omega
 ·unfold loI;split
  ·exact M
  ·exact m
 ·unfold hiI;split
  ·exact M
  ·exact m
section
variable {N:Nat}{l l' ms ms':List Int}{lo hi:Int}(G:Goes N l l' lo hi)
theorem SA (h:x∈l):∃p:Nat,p<l.length/\l.getD p 0=x:=by
 obtain⟨p,P,rfl⟩:=IU h;exact(p,P,by rw[Al,AS P];rfl)
theorem Gq (h:p<l.length):l.getD p 0∈l:=by
 rw[Al,AS h];exact Br h
include G
theorem Goes.mem {x:Int}:x∈l'↔x∈l/\x≠hi:=by
 have H:=G.len;have a:=G.len';have b:=G.lt;constructor
 ·intro h
  obtain⟨p,P,e⟩:=SA h;rw[G.to p #[2]]at e;split at e
  ·rw[<- e];exact(G.inL,#[2])
  ·rename_i z
   rw[<- e];exact(Gq #[2],z)
 ·rintro⟨h,n⟩
  obtain⟨p,P,e⟩:=SA h;have:l'.getD p 0=x:=by rw[G.to p #[2],e,AL n]
  rw[<- this];exact Gq #[2]
theorem Goes.firsts (h:Bw ms l) (h':Bw ms' l'):ms'=ms.filter λg=>decide (g≠hi):=by
 refine Fu h'.1 (List.Pairwise.filter _ h.1) λx=>?_;rw[h'.2,Ao,decide_eq_true_iff,h.2];exact G.mem
theorem Goes.part_other {g:Int}(h1:g≠lo) (h2:g≠hi):Aa l' N g=Aa l N g:=by
 unfold Aa;apply CJ;intro x hx;obtain⟨p,h,rfl⟩:=A2.mp hx;rw[BD]at h;rw[Aq,G.to p h];split
 ·rename_i z
  rw[z,A4 (Ne.symm h1),A4 (Ne.symm h2)]
 ·rfl
theorem Goes.part_mem {x:Int}:x∈Aa l' N lo↔x∈Aa l N lo\/x∈Aa l N hi:=by
 rw[CH,CH,CH];constructor
 ·rintro⟨H,a,h⟩
  rw[G.to _ #[2]]at h;split at h
  ·rename_i z;exact .inr (H,a,z)
  ·exact .inl (H,a,h)
 ·rintro(⟨H,a,h⟩|⟨H,a,h⟩)
  ·refine(H,a,?_)
   rw[G.to _ #[3],h,AL (by have:=G.lt;lia)]
  ·refine(H,a,?_)
   rw[G.to _ #[3],h,AM rfl]
omit G in
theorem V9 (l:List Int) (N:Nat) (g:Int):(Aa l N g).Pairwise (· < ·):=by
 unfold Aa;refine List.Pairwise.filter _ ?_;rw[DX];exact Ek.imp λh=>#[3]
omit G in
theorem Qs (h1:ms.Pairwise (· < ·)) (j:lo∈ms):(ms.filter λg=>decide (g=lo))=[lo]:=by
 refine Fu (List.Pairwise.filter _ h1) #[4] λx=>?_;rw[Ao,decide_eq_true_iff,BU];exact(λh=>h.2,λh=>(h ▸ j,h))
omit G in
theorem Ex {α:Type}(p:α -> Bool):∀l:List α,l.length=(l.filter p).length+(l.filter λx=>!p x).length
 |[]=>rfl
 |x::l=>by
  have i:=Ex p l;rw[CA,CA];cases h:p x with
  |true=>simp only[if_true,Fn,CD,if_false,BI];lia
  |false=>simp only[if_true,Jw,CD,if_false,BI];lia
theorem Goes.count (h:Bw ms l) (h':Bw ms' l'):ms.length=ms'.length+1:=by
 rw[G.firsts h h'];have e:=Qs h.1 ((h.2 _).mpr G.inH);have q:=Ex (λg:Int=>decide (g=hi)) ms;rw[e,CO]at q;have E:(ms.filter λg=>!decide (g=hi))=ms.filter λg=>decide (g≠hi):=by
  apply CJ;intro g _;by_cases c:g=hi
  ·rw[Au c,A4 (by simpa using c)];rfl
  ·rw[A4 c,Au c];rfl
 rw[E]at q;lia
end
theorem Kl {S:Int->Prop}(h:S e) (z:∀x,S x->S (f x)):∀y∈orb f e,S y:=by
 intro y hy;obtain⟨j,J,rfl⟩:=Cq.mp hy;clear J hy
 induction j with
 |zero=>exact h
 |succ j ih=>exact z _ ih
def A9 (f:Int->Int) (a b:Int) (x:Int):Int:=if x=a then f b else if x=b then f a else f x
theorem Fb (f:Int->Int) (a b:Int):A9 f a b a=f b:=by unfold A9;rw[AM rfl]
theorem F7 (f:Int->Int) (a b:Int):A9 f a b b=f a:=by
 unfold A9;by_cases h:b=a
 ·rw[AM h,h]
 ·rw[AL h,AM rfl]
theorem EH (h1:x≠a) (h2:x≠b):A9 f a b x=f x:=by unfold A9;rw[AL h1,AL h2]
theorem WX (f:Int->Int) (a b:Int):A9 (A9 f a b) a b=f:=by
 funext x
 by_cases h1:x=a
 ·subst h1;rw[Fb,F7]
 ·by_cases h2:x=b
  ·subst h2;rw[F7,Fb]
  ·rw[EH h1 h2,EH h1 h2]
theorem GX (F:CY f m) (a0:0<=a) (a1:a<(m:Int)) (b0:0<=b) (b1:b<(m:Int)):CY (A9 f a b) m:=by
 refine(λx i H=>?_,λx y j l n p q=>?_)
 ·unfold A9
  split
  ·exact F.to _ b0 b1
  ·split
   ·exact F.to _ a0 a1
   ·exact F.to _ i H
 ·-- the preimage through the exchange
  have k:∀z:Int,∃z',A9 f a b z=f z' /\ (z=a->z'=b)/\(z=b->z'=a)/\(z≠a->z≠b->z'=z):=λz=>by
   by_cases H:z=a
   ·refine(b,by rw[H,Fb],λ_=>rfl,λh=>?_,λh=>absurd H h)
    rw[<- h,H]
   ·by_cases h2:z=b
    ·exact(a,by rw[h2,F7],λh=>absurd h H,λ_=>rfl,λ_ h=>absurd h2 h)
    ·exact(z,EH H h2,λh=>absurd h H,λh=>absurd h h2,λ_ _=>rfl)
  obtain⟨X,E,A,B,O⟩:=k x;obtain⟨Y,g,c,d,o⟩:=k y;have r:0<=X /\ X<(m:Int):=by
   by_cases H:x=a
   ·rw[A H];exact(b0,b1)
   ·by_cases h2:x=b
    ·rw[B h2];exact(a0,a1)
    ·rw[O H h2];exact(j,l)
  have R:0<=Y /\ Y<(m:Int):=by
   by_cases H:y=a
   ·rw[c H];exact(b0,b1)
   ·by_cases h2:y=b
    ·rw[d h2];exact(a0,a1)
    ·rw[o H h2];exact(n,p)
  have e:=F.inj X Y r.1 r.2 R.1 R.2 (by rw[<- E,<- g];exact q);by_cases H:x=a
  ·by_cases h2:y=a
   ·rw[H,h2]
   ·by_cases h3:y=b
    ·have:=A H;have:=d h3;lia
    ·have:=A H;have:=o h2 h3;lia
  ·by_cases h1':x=b
   ·by_cases h2:y=a
    ·have:=B h1';have:=c h2;lia
    ·by_cases h3:y=b
     ·rw[h1',h3]
     ·have:=B h1';have:=o h2 h3;lia
   ·have s:=O H h1'
    by_cases h2:y=a
    ·have:=c h2;lia
    ·by_cases h3:y=b
     ·have:=d h3;lia
     ·have:=o h2 h3;lia
noncomputable def cnt (f:Int->Int) (m:Nat) (j:Nat->Bool):Nat:=((Af m).filter λe=>BB f e && j e).length
section
variable {f:Int->Int}{m:Nat}(F:CY f m)
include F
theorem Mu {x:Int}(h0:0<=x) (h1:x<(m:Int)) (p:Nat->Bool) (j:∀e:Nat,e<m->(p e=true↔(e:Int)∈orb f x)):((Af m).filter λe=>BB f e && p e).length=1:=by
 obtain⟨g,G,L,n,_⟩:=Kt F h0 h1;have M:∀e,e∈((Af m).filter λe=>BB f e && p e)↔e=g:=λe=>by
  rw[Ao,BD,CT];constructor
  ·rintro⟨h,c,l⟩
   have l:=(j e h).mp l;have d:=EX F #[2] #[2] (Eb F h0 h1 l) n;have i:=EX F #[2] #[2] (Eb F h0 h1 n) l;have a:=of_decide_eq_true (show decide (∀z∈orb f (e:Int),(e:Int)<=z)=true from c) _ d;have b:=of_decide_eq_true (show decide (∀z∈orb f (g:Int),(g:Int)<=z)=true from L) _ i;lia
  ·rintro rfl
   exact(G,L,(j e G).mpr n)
 have D:((Af m).filter λe=>BB f e && p e).Nodup:=List.Pairwise.filter _ HH;have a:=Fw (m:=[g]) D λe h=>by rw[BU];exact(M e).mp h
 have b:=El ((M g).mpr rfl);rw[CO]at a;lia
theorem Rm {g:Int->Int}{S:Int->Prop}(hS:∀x,0<=x->x<(m:Int)->¬ S x->g x=f x) (z:∀x,0<=x->x<(m:Int)->¬ S x->¬ S (f x)) (G:CY g m) {e:Int}(h0:0<=e) (h1:e<(m:Int)) (J:¬ S e):∀y,y∈orb g e↔y∈orb f e:=by
 have t:∀j,iter g e j=iter f e j/\¬ S (iter f e j):=λj=>by
  induction j with
  |zero=>exact(rfl,J)
  |succ j ih=>
   have r:=Dh F h0 h1 j;refine(?_,z _ r.1 r.2 ih.2);show g (iter g e j)=f (iter f e j);rw[ih.1,hS _ r.1 r.2 ih.2]
 intro y;constructor
 ·intro hy
  obtain⟨j,_,rfl⟩:=Cq.mp hy;rw[(t j).1];exact Dc F h0 h1 j
 ·intro hy
  obtain⟨j,_,rfl⟩:=Cq.mp hy;rw[<- (t j).1];exact Dc G h0 h1 j
end
section
variable {f:Int->Int}{m:Nat}(F:CY f m) {a b:Int}(a0:0<=a) (a1:a<(m:Int)) (b0:0<=b) (b1:b<(m:Int)) (hab:a≠b) (hin:b∈orb f a)
include F a0 a1 b0 b1 hab hin
theorem halves:∃j,0<j/\j<per f a/\iter f a j=b/\(∀y,y∈orb (A9 f a b) b ↔ ∃i,1<=i/\i<=j/\iter f a i=y)/\(∀y,y∈orb (A9 f a b) a ↔ ∃i,(i=0\/j<i)/\i<per f a/\iter f a i=y):=by
 have O:=D9 F a0 a1;have G:=GX F a0 a1 b0 b1;obtain⟨j,g,J⟩:=Cq.mp hin;have d:0<j:=by
  rcases Lr j with z|z
  ·rw[z]at J;exact absurd J hab
  ·exact z
 have n:∀i,0<i->i<per f a->iter f a i≠a:=λi h H q=>by
  have:=O.nd i 0 H O.pos q;lia
 have B:∀i,i≠j->i<per f a->iter f a i≠b:=λi h H q=>by
  have:=O.nd i j H g<|q.trans J.symm;lia
 have u:∀i,1<=i->i<=j->iter (A9 f a b) b i=iter f a i:=λi h H=>by
  induction i with
  |zero=>lia
  |succ i ih=>
   cases i with
   |zero=>exact F7 f a b
   |succ i=>
    show A9 f a b (iter (A9 f a b) b<|i+1)=f (iter f a<|i+1);rw[ih #[2] #[2],EH (n _ #[2] #[2]) (B _ #[2] #[3])]
 have P:∀i,1<=i->j+i<=per f a->iter (A9 f a b) a i=iter f a (j+i):=λi h H=>by
  induction i with
  |zero=>omega
  |succ i ih=>
   cases i with
   |zero=>
    show A9 f a b a=f (iter f a j);rw[Fb,J]
   |succ i=>
    show A9 f a b (iter (A9 f a b) a<|i+1)=f (iter f a<|j+(i+1));rw[ih #[3] #[2],EH (n _ #[2] #[2]) (B _ #[2] #[3])]
 refine(j,d,g,J,λy=>(λY=>?_,?_),λy=>(λY=>?_,?_))
 ·refine Kl (S:=λy=>∃i,1<=i/\i<=j/\iter f a i=y) (j,d,AX _,J) (λx (i,h,H,e)=>?_) y Y
  by_cases c:i=j
  ·have:x=b:=by rw[<- e,c,J]
   exact(1,AX _,d,by rw[this,F7];rfl)
  ·refine(i+1,#[2],#[2],?_)
   rw[<- e,EH (n _ #[2] #[2]) (B _ c #[3])];rfl
 ·rintro⟨i,h,H,rfl⟩
  rw[<- u i h H];exact Dc G b0 b1 i
 ·refine Kl (S:=λy=>∃i,(i=0\/j<i)/\i<per f a/\iter f a i=y) (0,.inl rfl,O.pos,rfl) (λx (i,h,H,e)=>?_) y Y
  have p:∀k,j<k+1->k+1<=per f a->∃i,(i=0\/j<i)/\i<per f a/\iter f a i=f (iter f a k):=λk K l=>by
   by_cases c:k+1=per f a
   ·refine(0,.inl rfl,O.pos,?_)
    have:=O.back;rw[<- c]at this;exact this.symm
   ·exact(k+1,.inr K,#[2],rfl)
  rcases h with h|h
  ·subst h
   have:x=a:=e.symm;rw[this,Fb,<- J];exact p j #[2] #[2]
  ·rw[<- e,EH (n _ #[2] H) (B _ #[2] H)]
   exact p i #[2] #[2]
 ·rintro⟨i,h,H,rfl⟩
  rcases h with h|h
  ·subst h;exact FX G a0 a1
  ·have:=P (i-j) #[2] #[2]
   rw[show j+(i-j)=i by lia]at this;rw[<- this];exact Dc G a0 a1 _
theorem NT (U:Nat->Bool) (Y:∀e:Nat,(e:Int)∈orb f a->U e=U a.toNat):cnt (A9 f a b) m U=cnt f m U+(if U a.toNat=true then 1 else 0):=by
 have O:=D9 F a0 a1;have G:=GX F a0 a1 b0 b1;obtain⟨j,J,M,D,L,r⟩:=halves F a0 a1 b0 b1 hab hin;have l:∀y,y∈orb f a↔y∈orb (A9 f a b) b\/y∈orb (A9 f a b) a:=λy=>by
  rw[L,r];constructor
  ·intro hy
   obtain⟨i,B,e⟩:=Cq.mp hy;by_cases c:1<=i/\i<=j
   ·exact .inl (i,c.1,c.2,e)
   ·exact .inr (i,#[2],B,e)
  ·rintro(⟨i,H,q,rfl⟩|⟨i,H,q,rfl⟩) <;> exact Dc F a0 a1 i
 have t:∀y,y∈orb (A9 f a b) b->y∈orb (A9 f a b) a->False:=λy H q=>by
  obtain⟨i,I,s,n⟩:=(L y).mp H;obtain⟨k,v,K,o⟩:=(r y).mp q;have:=O.nd i k #[2] K<|n.trans o.symm;lia
 -- outside nothing changes
 have T:∀e:Nat,e<m->(e:Int) ∉ orb f a->BB (A9 f a b) e=BB f e:=λe E N=>by
  have:=Rm F (g:=A9 f a b) (S:=λx=>x∈orb f a) (λx p H X=>EH (λz=>X (by rw[z];exact FX F a0 a1)) λz=>X (by rw[z];exact hin))
   (λx p H X A=>X<|EX F a0 a1 A<|Eb F p H<|Dc F p H 1) G (e:=(e:Int)) #[2] #[2] N
  unfold BB;rw[decide_eq_decide];exact(λh x X=>h x ((this x).mpr X),λh x X=>h x ((this x).mp X))
 unfold cnt;rw[Ex (λe:Nat=>decide ((e:Int)∈orb f a)) ((Af m).filter λe=>BB (A9 f a b) e && U e),Ex (λe:Nat=>decide ((e:Int)∈orb f a)) ((Af m).filter λe=>BB f e && U e)];rw[Cj,Cj,Cj,Cj];have u:(Af m).filter (λe:Nat=>(!decide ((e:Int)∈orb f a)) && (BB (A9 f a b) e && U e))=(Af m).filter λe:Nat=>(!decide ((e:Int)∈orb f a)) && (BB f e && U e):=by
  apply CJ;intro e E;rw[BD]at E;by_cases c:(e:Int)∈orb f a
  ·rw[Au c];rfl
  ·rw[T e E c]
 rw[u];by_cases hp:U a.toNat=true
 ·rw[AM hp]
  have I:((Af m).filter λe:Nat=>decide ((e:Int)∈orb f a) && (BB f e && U e)).length=1:=by
   rw[<- Mu F a0 a1 (λe:Nat=>decide ((e:Int)∈orb f a)) λe E=>decide_eq_true_iff];congr 1;apply CJ;intro e E;by_cases c:(e:Int)∈orb f a
   ·rw[Au c,Y e c,hp,GR,Ig]
   ·rw[A4 c,HE,Fj]
  have s:((Af m).filter λe:Nat=>decide ((e:Int)∈orb f a) && (BB (A9 f a b) e && U e)).length=2:=by
   rw[Ex (λe:Nat=>decide ((e:Int)∈orb (A9 f a b) b)) ((Af m).filter λe:Nat=>decide ((e:Int)∈orb f a) && (BB (A9 f a b) e && U e)),Cj,Cj];have v:=Mu G b0 b1 (λe:Nat=>decide ((e:Int)∈orb (A9 f a b) b)) λe E=>decide_eq_true_iff;have K:=Mu G a0 a1 (λe:Nat=>decide ((e:Int)∈orb (A9 f a b) a)) λe E=>decide_eq_true_iff;have n:(Af m).filter (λe:Nat=>decide ((e:Int)∈orb (A9 f a b) b) && (decide ((e:Int)∈orb f a) && (BB (A9 f a b) e && U e)))=(Af m).filter λe:Nat=>BB (A9 f a b) e && decide ((e:Int)∈orb (A9 f a b) b):=by
    apply CJ;intro e E;by_cases c:(e:Int)∈orb (A9 f a b) b
    ·have C:=(l _).mpr (.inl c)
     rw[Au c,Au C,Y e C,hp,Ig,Ig]
    ·rw[A4 c,HE,Fj]
   have o:(Af m).filter (λe:Nat=>(!decide ((e:Int)∈orb (A9 f a b) b)) && (decide ((e:Int)∈orb f a) && (BB (A9 f a b) e && U e)))=(Af m).filter λe:Nat=>BB (A9 f a b) e && decide ((e:Int)∈orb (A9 f a b) a):=by
    apply CJ;intro e E;by_cases c:(e:Int)∈orb (A9 f a b) a
    ·have C:=(l _).mpr (.inr c)
     have d:(e:Int) ∉ orb (A9 f a b) b:=λz=>t _ z c;rw[Au c,A4 d,Au C,Y e C,hp,Jw,Ig,Ig]
    ·rw[A4 c,Fj]
     by_cases d:(e:Int)∈orb (A9 f a b) b
     ·rw[Au d];rfl
     ·have w:(e:Int) ∉ orb f a:=λz=>((l _).mp z).elim d c
      rw[A4 w,HE,Fj]
   rw[n,o,v,K]
  rw[I,s];lia
 ·rw[AL hp]
  have z:∀g:Int->Int,(Af m).filter (λe:Nat=>decide ((e:Int)∈orb f a) && (BB g e && U e))=[]:=λg=>by
   rw[IL];intro e E;by_cases c:(e:Int)∈orb f a
   ·rw[Y e c,FR.mpr hp,Fj,Fj];exact BL
   ·rw[A4 c,HE];exact BL
  rw[z,z];rfl
end
#check 5
theorem Ft:∀l:List Int,∃ms,Bw ms l
 |[]=>([],.nil,λx=>Iff.rfl)
 |x::l=>by
  obtain⟨ms,H,d⟩:=Ft l;by_cases c:x∈ms
  ·refine(ms,H,λy=>?_)
   rw[Az,d];exact(.inr,λz=>z.elim (λq=>q ▸ (d x).mp c) id)
  ·refine((ms.filter λy=>decide (y<x))++x::(ms.filter λy=>decide (x<y)),?_,λy=>?_)
   ·rw[IQ,IW]
    refine(List.Pairwise.filter _ H,(λa h=>?_,List.Pairwise.filter _ H),λa h b B=>?_)
    ·rw[Ao,decide_eq_true_iff]at h;exact h.2
    ·rw[Ao,decide_eq_true_iff]at h
     rcases Az.mp B with z|z
     ·rw[z];exact h.2
     ·rw[Ao,decide_eq_true_iff]at z;lia
   ·rw[Bo,Az,Az,Ao,Ao,decide_eq_true_iff,decide_eq_true_iff,d]
    constructor
    ·rintro(z|z|z)
     ·exact .inr z.1
     ·exact .inl z
     ·exact .inr z.1
    ·rintro(z|z)
     ·exact .inr (.inl z)
     ·rcases Int.lt_trichotomy y x with q|q|q
      ·exact .inl (z,q)
      ·exact .inr (.inl q)
      ·exact .inr (.inr (z,q))
theorem NZ (j:r<N):(AG N []).getD r 0=(r:Int):=by
 show ((Af N).map λi:Nat=>(i:Int)).getD r 0=_;rw[Al,Ad,Ep j];rfl
theorem O4 (h:Bw ms (AG N [])):ms=(Af N).map λi:Nat=>(i:Int):=by
 refine Fu h.1 ?_ λx=>(h.2 x).trans Iff.rfl;rw[DX];exact Ek.imp λh=>#[3]
end
section
variable {f:Int->Int}{m:Nat}(F:CY f m) {a b:Int}(a0:0<=a) (a1:a<(m:Int)) (b0:0<=b) (b1:b<(m:Int)) (hout:b ∉ orb f a)
include F a0 a1 b0 b1 hout
theorem joined:b∈orb (A9 f a b) a:=by
 have O:=D9 F b0 b1;have G:=GX F a0 a1 b0 b1;have e:∀i,iter f b i≠a:=λi q=>by
  have:=Dc F b0 b1 i;rw[q]at this;exact hout (Eb F b0 b1 this)
 have n:∀i,0<i->i<per f b->iter f b i≠b:=λi H h q=>by
  have:=O.nd i 0 h O.pos q;lia
 have p:∀i,1<=i->i<=per f b->iter (A9 f a b) a i=iter f b i:=λi H h=>by
  induction i with
  |zero=>lia
  |succ i ih=>
   cases i with
   |zero=>exact Fb f a b
   |succ i=>
    show A9 f a b (iter (A9 f a b) a<|i+1)=f (iter f b<|i+1);rw[ih #[2] #[2],EH (e _) (n _ #[2] #[2])]
 have:=Dc G a0 a1<|per f b;rw[p _ O.pos (AX _),O.back]at this;exact this
theorem V5:∀y∈orb (A9 f a b) a,y∈orb f a\/y∈orb f b:=by
 refine Kl (S:=λy=>y∈orb f a\/y∈orb f b) (.inl<|FX F a0 a1) λx X=>?_;have t:∀{e x:Int},0<=e->e<(m:Int)->x∈orb f e->f x∈orb f e:=λ{e x} e0 e1 h=>by
  have r:=FZ F e0 e1 h;exact EX F e0 e1 h<|Dc F r.1 r.2 1
 by_cases h1:x=a
 ·rw[h1,Fb];exact .inr<|t b0 b1<|FX F b0 b1
 ·by_cases h2:x=b
  ·rw[h2,F7];exact .inl<|t a0 a1<|FX F a0 a1
  ·rw[EH h1 h2]
   rcases X with X|X
   ·exact .inl<|t a0 a1 X
   ·exact .inr<|t b0 b1 X
theorem Qw (j:Nat->Bool) (J:∀e:Nat,(e:Int)∈orb f a->j e=j a.toNat) (L:∀e:Nat,(e:Int)∈orb f b->j e=j a.toNat):cnt f m j=cnt (A9 f a b) m j+(if j a.toNat=true then 1 else 0):=by
 have G:=GX F a0 a1 b0 b1;have h:a≠b:=λz=>hout (by rw[<- z];exact FX F a0 a1);have:=NT G a0 a1 b0 b1 h (joined F a0 a1 b0 b1 hout) j λe E=>(V5 F a0 a1 b0 b1 hout _ E).elim (J e) (L e);rw[WX]at this;exact this
end
def sgI (ts:AR) (o:Ay) (k:Nat) (x:Int):Int:=if x.toNat / 2<k then onI ts o x else onI ts o ((partner x.toNat:Nat):Int)
section
variable {N:Nat}{ts:AR}{o:Ay}(hW:AZ (N:Int) ts) (hO:A0 (N:Int) ts o)
include hW hO
theorem Nl:CY (sgI ts o 0) (2*ts.length):=by
 have F:=Di hW hO;have e:∀x:Int,sgI ts o 0 x=onI ts o ((partner x.toNat:Nat):Int):=λx=>by unfold sgI;rw[AL #[2]]
 refine(λx h H=>?_,λx y a b c d q=>?_)
 ·rw[e]
  have:=EZ (show x.toNat<2*ts.length by omega);exact F.to _ #[2] #[2]
 ·rw[e,e]at q
  have X:=EZ (show x.toNat<2*ts.length by omega);have Y:=EZ (show y.toNat<2*ts.length by omega);have:=F.inj _ _ #[2] #[2] #[2] #[2] q;have E:partner x.toNat=partner y.toNat:=#[2]
  have:=congrArg partner E;rw[HW,HW]at this;lia
omit hW hO in
theorem LI (k:Nat) (x:Int) (h0:0<=x):sgI ts o (k+1) x=A9 (sgI ts o k) ((2*k:Nat):Int) ((2*k+1:Nat):Int) x:=by
 have p:partner (2*k)=2*k+1:=by unfold partner;rw[AM #[2]]
 have P:partner (2*k+1)=2*k:=by unfold partner;rw[AL #[2]];lia
 by_cases h1:x=((2*k:Nat):Int)
 ·subst h1
  rw[Fb];unfold sgI;rw[AM #[2],AL #[2],Aq,P]
 ·by_cases h2:x=((2*k+1:Nat):Int)
  ·subst h2
   rw[F7];unfold sgI;rw[AM #[2],AL #[2],Aq,p]
  ·rw[EH h1 h2]
   unfold sgI;by_cases c:x.toNat / 2<k
   ·rw[AM #[2],AM c]
   ·rw[AL #[2],AL c]
theorem Ht:∀k,k<=ts.length->CY (sgI ts o k) (2*ts.length)
 |0,_=>Nl hW hO
 |k+1,hk=>by
  have F:=Ht k #[2];have G:=GX F (a:=((2*k:Nat):Int)) (b:=((2*k+1:Nat):Int)) #[2] #[2] #[2] #[2];exact(λx h H=>by rw[LI k x h];exact G.to x h H,λx y X c Y d q=>G.inj x y X c Y d (by rw[<- LI k x X,<- LI k y Y];exact q))
theorem Zyh {k:Nat}(j:k<=ts.length) {x:Int}(h0:0<=x) (h1:x<((2*ts.length:Nat):Int)):(AG N<|ts.take k).getD (AW ts (sgI ts o k x).toNat).toNat 0=(AG N<|ts.take k).getD (AW ts x.toNat).toNat 0:=by
 have h:x.toNat<2*ts.length:=#[2]
 unfold sgI;split
 ·rename_i c
  obtain⟨g,G,p,e⟩:=Gf hW hO<|EZ h;have t:x.toNat / 2<ts.length:=#[2]
  have M:ts[x.toNat / 2]∈ts.take k:=by
   refine Bd (i:=x.toNat / 2) ?_;rw[Jz,AM c,AS t]
  have m:=Mv hW k j _ M;unfold onI;rw[<- e,Aq,p];have E:partner x.toNat / 2=x.toNat / 2:=by unfold partner;split <;> lia
  unfold AW;rw[E,AS t];dsimp only;by_cases c2:x.toNat % 2=0
  ·rw[AM c2,AL (by unfold partner;rw[AM c2];lia)];exact m.symm
  ·rw[AL c2,AM (by unfold partner;rw[AL c2];lia)];exact m
 ·obtain⟨g,G,p,e⟩:=Gf hW hO h
  unfold onI;rw[Aq,HW,<- e,Aq,p]
theorem O3 {k:Nat}(z:k<=ts.length) {x y:Int}(h0:0<=x) (h1:x<((2*ts.length:Nat):Int)) (Y:y∈orb (sgI ts o k) x):(AG N<|ts.take k).getD (AW ts y.toNat).toNat 0=(AG N<|ts.take k).getD (AW ts x.toNat).toNat 0:=by
 obtain⟨j,h,rfl⟩:=Cq.mp Y;clear Y h
 induction j with
 |zero=>rfl
 |succ j ih=>
  have r:=Dh (Ht hW hO k z) h0 h1 j;show (AG N<|ts.take k).getD (AW ts (sgI ts o k<|iter (sgI ts o k) x j).toNat).toNat 0=_;rw[Zyh hW hO z r.1 r.2];exact ih
end
structure Jm (N:Nat) (ts:AR) (S:Int->Bool):Prop where
 tie:∀t∈ts,S t.1=S t.2
theorem Hi {N:Nat}(hW:AZ (N:Int) ts) (hS:Jm N ts S):∀k,k<=ts.length->∀p:Nat,p<N->S ((AG N<|ts.take k).getD p 0)=S (p:Int)
 |0,_,p,hp=>by
  rw[Es];show S (((Af N).map λi:Nat=>(i:Int)).getD p 0)=_;rw[Al,Ad,Ep hp];rfl
 |k+1,hk,p,hp=>by
  have t:k<ts.length:=hk;have l:=CC N<|ts.take k;have H:=hW.tie _<|Br t;have h:=Hi hW hS k #[3];rw[Fs (AS t),E4 _ _ _ #[2]];have s:=h ts[k].1.toNat #[2];have a:=h ts[k].2.toNat #[2];have T:=hS.tie _<|Br t;rw[show ((ts[k].1.toNat:Nat):Int)=ts[k].1 by lia]at s;rw[show ((ts[k].2.toNat:Nat):Int)=ts[k].2 by lia]at a;split
  ·rename_i c
   have P:=h p hp;rw[c]at P;rw[<- P];unfold loI hiI;split <;> split
   all_goals first|rfl|rw[a,s,T]|rw[s,a,T]
  ·exact h p hp
def inS (S:Int->Bool) (l:List Int):Nat:=(l.filter S).length
def Ej (S:Int->Bool) (ts:AR):Nat:=(ts.filter λt=>S t.1).length
def endS (ts:AR) (S:Int->Bool) (e:Nat):Bool:=S<|AW ts e
section
variable {N:Nat}{ts:AR}{o:Ay}{S:Int->Bool}(hW:AZ (N:Int) ts) (hO:A0 (N:Int) ts o) (hS:Jm N ts S)
include hW hO hS
theorem M0 {k:Nat}(j:k<=ts.length) {x:Int}(h0:0<=x) (h1:x<((2*ts.length:Nat):Int)) (e:Nat) (z:(e:Int)∈orb (sgI ts o k) x):endS ts S e=endS ts S x.toNat:=by
 have r:=FZ (Ht hW hO k j) h0 h1 z;have q:=O3 hW hO j h0 h1 z;rw[Aq]at q;have p:=ED hW (show e<2*ts.length by lia);have P:=ED hW (show x.toNat<2*ts.length by lia);have m:=Hi hW hS k j (AW ts e).toNat #[2];have M:=Hi hW hS k j (AW ts x.toNat).toNat #[2];rw[q,M]at m;unfold endS;rw[show ((AW ts e).toNat:Int)=AW ts e by lia,show ((AW ts x.toNat).toNat:Int)=AW ts x.toNat by lia]at m;exact m.symm
omit hW hO hS in
theorem QG (F:CY f m) (h:∀x,0<=x->x<(m:Int)->g x=f x) (G:CY g m) (j:Nat->Bool):cnt g m j=cnt f m j:=by
 unfold cnt;congr 1;apply CJ;intro e he;rw[BD]at he;have:=Rm F (g:=g) (S:=λ_=>False) (λx H a _=>h x H a) (λ_ _ _ h=>h) G (e:=(e:Int)) #[3] #[3] λh=>h;congr 1;unfold BB;rw[decide_eq_decide];exact(λh x X=>h x ((this x).mpr X),λh x X=>h x ((this x).mp X))
theorem Wn {k:Nat}(j:k<ts.length) :
  (cnt (sgI ts o<|k+1) (2*ts.length) (endS ts S)=cnt (sgI ts o k) (2*ts.length) (endS ts S)+(if S ts[k].1=true then 1 else 0)/\(AG N<|ts.take k).getD ts[k].1.toNat 0=(AG N<|ts.take k).getD ts[k].2.toNat 0) \/
  cnt (sgI ts o k) (2*ts.length) (endS ts S)=cnt (sgI ts o<|k+1) (2*ts.length) (endS ts S)+(if S ts[k].1=true then 1 else 0):=by
 have F:=Ht hW hO k #[2];have f:=Ht hW hO (k+1) #[2];have a:(0:Int)<=((2*k:Nat):Int):=#[3]
 have A:((2*k:Nat):Int)<((2*ts.length:Nat):Int):=#[2]
 have b:(0:Int)<=((2*k+1:Nat):Int):=#[3]
 have B:((2*k+1:Nat):Int)<((2*ts.length:Nat):Int):=#[2]
 have G:=GX F a A b B;have p:AW ts (2*k)=ts[k].1:=by
  unfold AW;rw[show 2*k / 2=k by lia,AS j];dsimp only;rw[AM #[2]]
 have P:AW ts (2*k+1)=ts[k].2:=by
  unfold AW;rw[show (2*k+1) / 2=k by lia,AS j];dsimp only;rw[AL #[2]]
 have E:endS ts S (((2*k:Nat):Int)).toNat=S ts[k].1:=by unfold endS;rw[Aq,p]
 have d:endS ts S (((2*k+1:Nat):Int)).toNat=S ts[k].1:=by unfold endS;rw[Aq,P,hS.tie _ (Br j)]
 rw[QG G (λx H g=>LI k x H) f];by_cases c:((2*k+1:Nat):Int)∈orb (sgI ts o k) ((2*k:Nat):Int)
 ·left
  have q:=NT F a A b B #[2] c (endS ts S) λe h=>M0 hW hO hS #[3] a A e h;rw[E]at q;refine(q,?_);have mk:=O3 hW hO (k:=k) #[2] a A c;rw[Aq,Aq,p,P]at mk;exact mk.symm
 ·right
  have q:=Qw F a A b B c (endS ts S) (λe h=>M0 hW hO hS #[3] a A e h) λe h=>by
   rw[M0 hW hO hS #[3] b B e h,E,d]
  rw[E]at q;exact q
omit hO in
theorem VG {k:Nat}(J:k<ts.length) {ms j:List Int}(h:Bw ms (AG N<|ts.take k)) (h2:Bw j (AG N<|ts.take<|k+1)) :
  ((AG N<|ts.take k).getD ts[k].1.toNat 0=(AG N<|ts.take k).getD ts[k].2.toNat 0->inS S j=inS S ms)/\inS S ms<=inS S j+(if S ts[k].1=true then 1 else 0)/\(S ts[k].1=false->inS S j=inS S ms):=by
 have L:=CC N<|ts.take k;have T:=hW.tie _<|Br J;rw[Fs (AS J)]at h2;by_cases c:(AG N<|ts.take k).getD ts[k].1.toNat 0=(AG N<|ts.take k).getD ts[k].2.toNat 0
 ·rw[JV c]at h2
  rw[h2.uniq h];exact(λ_=>rfl,Nat.le_add_right _ _,λ_=>rfl)
 ·have G:=KZ L #[3] #[3] c
  have e:=G.firsts h h2;have s:=Hi hW hS k #[2] ts[k].1.toNat #[3];have a:=Hi hW hS k #[3] ts[k].2.toNat #[3];have t:=hS.tie _<|Br J;rw[show ((ts[k].1.toNat:Nat):Int)=ts[k].1 by lia]at s;rw[show ((ts[k].2.toNat:Nat):Int)=ts[k].2 by lia]at a;have H:S (hiI ((AG N<|ts.take k).getD ts[k].1.toNat 0) ((AG N<|ts.take k).getD ts[k].2.toNat 0))=S ts[k].1:=by
   unfold hiI;split
   ·rw[a,t]
   ·exact s
  obtain⟨i,I⟩:∃i,hiI ((AG N<|ts.take k).getD ts[k].1.toNat 0) ((AG N<|ts.take k).getD ts[k].2.toNat 0)=i:=(_,rfl);rw[I]at e H;have q:=Ex (λg:Int=>decide (g=i))<|ms.filter S;rw[Cj,Cj]at q;have E:j.filter S=ms.filter λg=>(!decide (g=i)) && S g:=by
   rw[e,Cj];apply CJ;intro g _;by_cases z:g=i
   ·rw[Au z,A4 (by simpa using z),Fj];rfl
   ·rw[A4 z,Au z,GR];rfl
  have n:(ms.filter λg=>decide (g=i) && S g).length<=(if S ts[k].1=true then 1 else 0):=by
   by_cases z:S ts[k].1=true
   ·rw[AM z]
    have:=Fw (l:=ms.filter λg=>decide (g=i) && S g) (m:=[i]) (List.Pairwise.filter _ (h.1.imp λz=>Em z)) λx X=>by
     rw[Ao,CT,decide_eq_true_iff]at X;rw[BU];exact X.2.1
    exact this
   ·rw[AL z]
    have:(ms.filter λg=>decide (g=i) && S g)=[]:=by
     rw[IL];intro x X w;rw[CT,decide_eq_true_iff]at w;rw[w.1,H]at w;exact z w.2
    rw[this];exact AX _
  unfold inS;rw[E];refine(λz=>absurd z c,#[2],λz=>?_);rw[AL (by rw[z];exact BL)]at n;lia
omit hW hO hS in
theorem WQ (j:k<ts.length):Ej S (ts.take<|k+1)=Ej S (ts.take k)+(if S ts[k].1=true then 1 else 0):=by
 unfold Ej;rw[Cy,AS j,Cw,A1];congr 1;show (List.filter _ [ts[k]]).length=_;rw[CA];by_cases z:S ts[k].1=true
 ·rw[AM z,AM z];rfl
 ·rw[AL z,AL z];rfl
theorem euler {J:Nat}{j:List Int}(h0:Bw j (AG N [])) (L:cnt (sgI ts o 0) (2*ts.length) (endS ts S)+J=inS S j):∀k,k<=ts.length->∀ms,Bw ms (AG N<|ts.take k) ->
  cnt (sgI ts o k) (2*ts.length) (endS ts S)+J+inS S j<=2*inS S ms+Ej S (ts.take k)/\(cnt (sgI ts o k) (2*ts.length) (endS ts S)+J+inS S j) % 2=Ej S (ts.take k) % 2
 |0,_,ms,h=>by
  rw[Es]at h ⊢;rw[h.uniq h0];show _<=2*inS S j+0/\_=0 % 2;lia
 |k+1,hk,ms,h=>by
  obtain⟨s,H⟩:=Ft<|AG N<|ts.take k;obtain⟨i,I⟩:=euler h0 L k #[2] s H;obtain⟨P,p,a⟩:=VG hW hS (show k<ts.length from hk) H h;rw[WQ (show k<ts.length from hk)];rcases Wn hW hO hS (show k<ts.length from hk) with ⟨q,mk⟩|q
  ·have:=P mk
   rw[this,q];split <;> lia
  ·by_cases z:S ts[k].1=true
   ·rw[AM z]at q p ⊢
    lia
   ·have:=a (FR.mpr z)
    rw[AL z]at q p ⊢;lia
end
def rowP (o:Ay) (p:Nat):List Int:=o.getD p []
def Fd (S:Int->Bool) (N:Nat) (o:Ay):Nat:=((Af N).filter λp:Nat=>S (p:Int) && (rowP o p).isEmpty).length
section
variable {N:Nat}{ts:AR}{o:Ay}{S:Int->Bool}(hW:AZ (N:Int) ts) (hO:A0 (N:Int) ts o)
include hW hO
theorem Rf {e:Nat}:sgI ts o 0 (e:Int)=CV ts o e:=by
 unfold sgI;rw[AL #[2],Aq];unfold onI;rw[Aq,HW]
theorem QX {p:Nat}{x:Int}{r:List Int}(J:p<N) (j:rowP o p=x::r):∃e:Nat,e<2*ts.length/\x=(e:Int)/\AW ts e=(p:Int)/\Bf ts o e=x::r/\BB (sgI ts o 0) e=true:=by
 have l:=hO.len;have q:o[p]?=some (x::r):=by
  unfold rowP at j;rw[Al,AS (by lia:p<o.length)]at j;rw[AS (by omega:p<o.length)];exact congrArg some j
 have R:=hO.row p _ q;obtain⟨e,H,P,E⟩:=R.mem.mp<|Bk ..;have a:Bf ts o e=x::r:=by
  unfold Bf;rw[P,Aq];exact j
 refine(e,H,E.symm,P,a,?_);unfold BB;rw[decide_eq_true_iff];have F:=Nl hW hO;have inr:∀y∈orb (sgI ts o 0) (e:Int),y∈x::r:=Kl (S:=λy=>y∈x::r) (by rw[E];exact Bk ..) λy h=>by
  obtain⟨k,c,f,K⟩:=R.mem.mp h;rw[<- K,Rf hW hO];obtain⟨g,b,d,G⟩:=Gf hW hO c;rw[<- G];exact R.mem.mpr (g,b,d.trans f,rfl)
 intro y h;rcases Az.mp (inr y h) with z|z
 ·rw[z,E];exact ET _
 ·rw[E];exact R.least y z
theorem Mj {e:Nat}(J:e<2*ts.length) (O:BB (sgI ts o 0) e=true):∃r,Bf ts o e=(e:Int)::r:=by
 obtain⟨c,g,G⟩:=E5 hW hO J;have d:=g.nodup;obtain⟨i,I⟩:=ER.mp G;have L:=(BZ.mp I).1;have F:=Nl hW hO;obtain⟨r,R⟩:∃r,Bf ts o e=r:=(_,rfl);have t:∀a (h:a<r.length),sgI ts o 0 r[a]=r.getD (nxI r.length a) 0:=λa h=>by
  subst R;obtain⟨k,H,p,K⟩:=g.mem.mp<|Br h;rw[<- K,Rf hW hO];unfold CV;have:Bf ts o k=Bf ts o e:=by unfold Bf;rw[p]
  rw[this];exact Hj d (by rw[K];exact AS h)
 rw[R]at I L;have u:∀j,i+j<r.length->iter (sgI ts o 0) (e:Int) j=r.getD (i+j) 0:=λj=>by
  induction j with
  |zero=>
   intro _;rw[Al,Nat.add_zero,I];rfl
  |succ j ih=>
   intro hj;show sgI ts o 0 (iter (sgI ts o 0) (e:Int) j)=_;rw[ih #[2],Al (i:=i+j),AS (by omega:i+j<r.length)];show sgI ts o 0 r[i+j]=_;rw[t _ #[3]];unfold nxI;rw[AL #[2]];rfl
 have m:r.getD 0 0∈orb (sgI ts o 0) (e:Int):=by
  have:=Dc F (e:=(e:Int)) #[2] #[2]<|r.length-i;rw[show r.length-i=(r.length-1-i)+1 by lia]at this;have E:iter (sgI ts o 0) (e:Int) ((r.length-1-i)+1)=sgI ts o 0 (iter (sgI ts o 0) (e:Int)<|r.length-1-i):=rfl;rw[E,u _ #[3],Al,AS (by omega:i+(r.length-1-i)<r.length)]at this;have b:sgI ts o 0 r[i+(r.length-1-i)]=r.getD 0 0:=by
   rw[t _ #[3]];unfold nxI;rw[AM #[3]]
  rw[<- b];exact this
 have l:=of_decide_eq_true (show decide (∀z∈orb (sgI ts o 0) (e:Int),(e:Int)<=z)=true from O) _ m;rw[R]at g G;rw[R];cases r with
 |nil=>simp at G
 |cons x r=>
  refine(r,?_);have l:(e:Int)<=x:=l;rcases Az.mp G with z|z
  ·rw[z]
  ·have:=g.least _ z
   rw[show (e:Int)=x by lia]
theorem Wg:cnt (sgI ts o 0) (2*ts.length) (endS ts S)=((Af N).filter λp:Nat=>S (p:Int) && !(rowP o p).isEmpty).length:=by
 unfold cnt;have E:∀e:Nat,Bf ts o e=rowP o (AW ts e).toNat:=λe=>rfl;apply Nat.le_antisymm
 ·rw[<- AH (f:=λe=>(AW ts e).toNat)]
  refine Fw ?_ λp P=>?_
  ·unfold List.Nodup
   rw[DX];refine List.Pairwise.imp_of_mem (R:=(· < ·)) (λ{a b} ha hb hab Q=>?_)<|List.Pairwise.filter _ Ek;rw[Ao,BD,CT]at ha hb;obtain⟨s,c⟩:=Mj hW hO ha.1 ha.2.1;obtain⟨t,d⟩:=Mj hW hO hb.1 hb.2.1;rw[E]at c d;rw[Q,d]at c;have:=(FT.inj c).1;lia
  ·obtain⟨e,h,rfl⟩:=A2.mp P
   rw[Ao,BD,CT]at h;have L:=ED hW h.1;obtain⟨s,c⟩:=Mj hW hO h.1 h.2.1;rw[E]at c;rw[Ao,BD,CT,c,show (((AW ts e).toNat:Nat):Int)=AW ts e by lia];exact(#[2],h.2.2,rfl)
 ·rw[<- AH (f:=λp=>((rowP o p).headD 0).toNat) (as:=(Af N).filter λp:Nat=>S (p:Int) && !(rowP o p).isEmpty)]
  have D:∀p:Nat,p<N->(!(rowP o p).isEmpty)=true->∃e:Nat,e<2*ts.length/\((rowP o p).headD 0).toNat=e/\AW ts e=(p:Int)/\BB (sgI ts o 0) e=true:=λp P n=>by
   cases z:rowP o p with
   |nil=>rw[z]at n;cases n
   |cons x r=>
    obtain⟨e,h,X,k,_,l⟩:=QX hW hO P z;refine(e,h,?_,k,l);show x.toNat=e;rw[X,Aq]
  refine Fw ?_ λq Q=>?_
  ·unfold List.Nodup
   rw[DX];refine List.Pairwise.imp_of_mem (R:=(· < ·)) (λ{a b} ha hb hab Q=>?_)<|List.Pairwise.filter _ Ek;rw[Ao,BD,CT]at ha hb;obtain⟨c,_,i,g,_⟩:=D a ha.1 ha.2.2;obtain⟨d,_,m,j,_⟩:=D b hb.1 hb.2.2;have:c=d:=by rw[<- i,<- m];exact Q
   subst this;rw[g]at j;lia
  ·obtain⟨p,P,rfl⟩:=A2.mp Q
   rw[Ao,BD,CT]at P;obtain⟨e,h,i,g,l⟩:=D p P.1 P.2.2;rw[i,Ao,BD,CT];refine(h,l,?_);unfold endS;rw[g];exact P.2.1
theorem Zwu {j:List Int}(h:Bw j (AG N [])):cnt (sgI ts o 0) (2*ts.length) (endS ts S)+Fd S N o=inS S j:=by
 rw[Wg hW hO,O4 h];unfold inS Fd;rw[DC,AH];have:=Ex (λp:Nat=>(rowP o p).isEmpty) ((Af N).filter λp:Nat=>S (p:Int));rw[Cj,Cj]at this;have e:((Af N).filter (S∘λi:Nat=>(i:Int)))=(Af N).filter λp:Nat=>S (p:Int):=rfl;rw[e,this];have E:((Af N).filter λp:Nat=>S (p:Int) && (rowP o p).isEmpty)=(Af N).filter λp:Nat=>(rowP o p).isEmpty && S (p:Int):=by
  apply CJ;intro p _;exact HF _ _
 have a:((Af N).filter λp:Nat=>S (p:Int) && !(rowP o p).isEmpty)=(Af N).filter λp:Nat=>(!(rowP o p).isEmpty) && S (p:Int):=by
  apply CJ;intro p _;exact HF _ _
 rw[E,a];lia
theorem Zxh {e:Int}(h0:0<=e) (h1:e<((2*ts.length:Nat):Int)):onI ts o e=sgI ts o ts.length e:=by
 unfold sgI;rw[AM #[2]]
theorem QD (hS:Jm N ts S) {ms:List Int}(hm:Bw ms (AG N ts)):cnt (onI ts o) (2*ts.length) (endS ts S)+Fd S N o+inS S ((Af N).map λi:Nat=>(i:Int))<=2*inS S ms+Ej S ts/\(cnt (onI ts o) (2*ts.length) (endS ts S)+Fd S N o+inS S ((Af N).map λi:Nat=>(i:Int))) % 2=Ej S ts % 2:=by
 obtain⟨s,h⟩:=Ft<|AG N [];have b:=Zwu (S:=S) hW hO h;have e:=euler hW hO hS h b ts.length (AX _) ms (by rw[CP];exact hm);rw[CP]at e;rw[O4 h]at e;rw[QG (Ht hW hO ts.length<|AX _) (λx h H=>Zxh hW hO h H) (Di hW hO)];exact e
end
noncomputable def FI (n:Int) (ts:AR) (o:Ay) (ms:List Int):Int:=(2*(ms.length:Int)-n+(ts.length:Int)-((allF ts o).length:Int)) / 2
theorem P2 {N:Nat}(hW:AZ (N:Int) ts):∀k,k<=ts.length->∀g∈AG N (ts.take k),0<=g/\g<(N:Int)/\(AG N<|ts.take k).getD g.toNat 0=g
 |0,_,g,hg=>by
  rw[Es]at hg ⊢;obtain⟨p,h,rfl⟩:=A2.mp hg;rw[BD]at h;exact(#[2],#[2],by rw[Aq];exact NZ h)
 |k+1,hk,g,hg=>by
  have t:k<ts.length:=hk;have l:=CC N<|ts.take k;have T:=hW.tie _<|Br t;have i:=P2 hW k #[3];rw[Fs (AS t)]at hg ⊢;by_cases c:(AG N<|ts.take k).getD ts[k].1.toNat 0=(AG N<|ts.take k).getD ts[k].2.toNat 0
  ·rw[JV c]at hg ⊢
   exact i g hg
  ·have G:=KZ l #[3] #[3] c
   obtain⟨H,d⟩:=G.mem.mp hg;obtain⟨a,b,e⟩:=i g H;exact(a,b,by rw[G.to _ #[2],e,AL d])
theorem Ol {N:Nat}(hW:AZ (N:Int) ts) (J:p<N) (j:∀t∈ts,t.1≠(p:Int)/\t.2≠(p:Int)):∀k,k<=ts.length->∀q:Nat,q<N->(AG N<|ts.take k).getD q 0=(AG N<|ts.take k).getD p 0->q=p
 |0,_,q,hq,e=>by
  rw[Es,NZ hq,NZ J]at e;lia
 |k+1,hk,q,hq,e=>by
  have l:k<ts.length:=hk;have L:=CC N<|ts.take k;have T:=hW.tie _<|Br l;have h:=Ol hW J j k #[2];have E:=j _<|Br l;rw[Fs (AS l)]at e;by_cases c:(AG N<|ts.take k).getD ts[k].1.toNat 0=(AG N<|ts.take k).getD ts[k].2.toNat 0
  ·rw[JV c]at e
   exact h q hq e
  ·have n:(AG N<|ts.take k).getD p 0≠(AG N<|ts.take k).getD ts[k].1.toNat 0:=λz=>by
    have:=h ts[k].1.toNat #[2] z.symm;lia
   have a:(AG N<|ts.take k).getD p 0≠(AG N<|ts.take k).getD ts[k].2.toNat 0:=λz=>by
    have:=h ts[k].2.toNat #[2] z.symm;lia
   obtain⟨H,b⟩:=lohi ((AG N<|ts.take k).getD ts[k].1.toNat 0) ((AG N<|ts.take k).getD ts[k].2.toNat 0);have o:loI ((AG N<|ts.take k).getD ts[k].1.toNat 0) ((AG N<|ts.take k).getD ts[k].2.toNat 0)≠(AG N<|ts.take k).getD p 0:=by
    unfold loI;split
    ·exact λz=>a z.symm
    ·exact λz=>n z.symm
   have i:(AG N<|ts.take k).getD p 0≠hiI ((AG N<|ts.take k).getD ts[k].1.toNat 0) ((AG N<|ts.take k).getD ts[k].2.toNat 0):=by
    unfold hiI;split
    ·exact a
    ·exact n
   rw[E4 _ _ _ #[2],E4 _ _ _ #[2],AL i]at e;split at e
   ·exact absurd e o
   ·exact h q hq e
section
variable {N:Nat}{ts:AR}{o:Ay}(hW:AZ (N:Int) ts) (hO:A0 (N:Int) ts o)
include hW
theorem JW {g:Int}(j:g∈AG N ts):0<=g/\g<(N:Int)/\(AG N ts).getD g.toNat 0=g:=by
 have:=P2 hW ts.length (AX _) g (by rw[CP];exact j);rw[CP]at this;exact this
include hO
theorem PR {p:Nat}(z:p<N) (j:(rowP o p).isEmpty=true):(∀q:Nat,q<N->(AG N ts).getD q 0=(AG N ts).getD p 0->q=p)/\∀t∈ts,t.1≠(p:Int)/\t.2≠(p:Int):=by
 have l:=hO.len;have q:o[p]?=some []:=by
  have:rowP o p=[]:=II.mp j;unfold rowP at this;rw[Al,AS (by omega:p<o.length)]at this;rw[AS (by omega:p<o.length)];exact congrArg some this
 have R:=hO.row p _ q;have O:∀e:Nat,e<2*ts.length->AW ts e≠(p:Int):=λe H a=>by
  have:=R.mem.mpr (e,H,a,rfl);cases this
 have n:∀t∈ts,t.1≠(p:Int)/\t.2≠(p:Int):=λt T=>by
  obtain⟨i,h,rfl⟩:=IU T;have A:AW ts (2*i)=ts[i].1:=by
   unfold AW;rw[show 2*i / 2=i by lia,AS h];dsimp only;rw[AM #[2]]
  have b:AW ts (2*i+1)=ts[i].2:=by
   unfold AW;rw[show (2*i+1) / 2=i by lia,AS h];dsimp only;rw[AL #[2]]
  exact(by rw[<- A];exact O _ #[2],by rw[<- b];exact O _ #[2])
 refine(λq Q e=>?_,n);have:=Ol hW z n ts.length (AX _) q Q;rw[CP]at this;exact this e
theorem My {ms:List Int}(hm:Bw ms (AG N ts)):0<=FI (N:Int) ts o ms/\2*FI (N:Int) ts o ms+((allF ts o).length:Int)+(N:Int)=2*(ms.length:Int)+(ts.length:Int):=by
 obtain⟨h,H⟩:=QD (S:=λ_=>true) hW hO ⟨λ_ _=>rfl⟩ hm;have l:=PY hW hO;have E:cnt (onI ts o) (2*ts.length) (endS ts λ_=>true)=((Af (2*ts.length)).filter λe=>BB (onI ts o) e && true).length:=rfl;have d:inS (λ_=>true) ms=ms.length:=by unfold inS;rw[Cd.mpr (λ_ _=>rfl)]
 have a:inS (λ_=>true) ((Af N).map λi:Nat=>(i:Int))=N:=by unfold inS;rw[Cd.mpr (λ_ _=>rfl),AH,By]
 have b:Ej (λ_=>true) ts=ts.length:=by unfold Ej;rw[Cd.mpr (λ_ _=>rfl)]
 have c:Fd (λ_=>true) N o=lone o:=by
  have L:=hO.len;unfold Fd lone;have O:o=(Af N).map λp=>rowP o p:=by
   apply GO
   ·rw[AH,By];lia
   ·intro i h H
    rw[HI,Er];unfold rowP;rw[Al,AS h];rfl
  conv=>rhs;rw[O]
  rw[DC,AH];rfl
 rw[E,d,a,b,c]at h;rw[E,a,b,c]at H;unfold FI;lia
theorem Rc {ms:List Int}(hm:Bw ms (AG N ts)) {g:Int}(j:g∈ms) (ht:B1 ts (Aa (AG N ts) N g)≠[]):0<=hopI ts o (Aa (AG N ts) N g)/\2*hopI ts o (Aa (AG N ts) N g)+((DN ts o<|Aa (AG N ts) N g).length:Int)+((Aa (AG N ts) N g).length:Int)=2+((B1 ts<|Aa (AG N ts) N g).length:Int):=by
 have L:=(hm.2 g).mp j;have n:Jm N ts λp=>decide (p∈Aa (AG N ts) N g):=⟨λt ht=>by
  have r:=hW.tie t ht;have k:=K2 hW ht;rw[decide_eq_decide,CH,CH,k];exact(λz=>(r.2.2.1,r.2.2.2,z.2.2),λz=>(r.1,r.2.1,z.2.2))⟩
 obtain⟨h,H⟩:=QD hW hO n hm;have e:cnt (onI ts o) (2*ts.length) (endS ts λp=>decide<|p∈Aa (AG N ts) N g)=(DN ts o<|Aa (AG N ts) N g).length:=(Pu hW hO _).symm;have c:inS (λp=>decide<|p∈Aa (AG N ts) N g) ms=1:=by
  unfold inS;have:ms.filter (λp=>decide<|p∈Aa (AG N ts) N g)=ms.filter λx=>decide (x=g):=by
   apply CJ;intro x hx;have r:=JW hW ((hm.2 x).mp hx);rw[decide_eq_decide,CH,r.2.2];exact(λz=>z.2.2,λz=>(r.1,r.2.1,z))
  rw[this,Qs hm.1 j];rfl
 have E:inS (λp=>decide<|p∈Aa (AG N ts) N g) ((Af N).map λi:Nat=>(i:Int))=(Aa (AG N ts) N g).length:=by
  unfold inS;congr 1;show _=((Af N).map λi:Nat=>(i:Int)).filter _;apply CJ;intro x hx;obtain⟨i,I,rfl⟩:=A2.mp hx;rw[BD]at I;rw[decide_eq_decide,CH];exact(λz=>z.2.2,λz=>(#[2],#[2],z))
 have a:Ej (λp=>decide<|p∈Aa (AG N ts) N g) ts=(B1 ts<|Aa (AG N ts) N g).length:=rfl;have b:Fd (λp=>decide<|p∈Aa (AG N ts) N g) N o=0:=by
  unfold Fd;rw[List.length_eq_zero_iff,IL];intro p hp z;rw[BD]at hp;rw[CT,decide_eq_true_iff,CH,Aq]at z;obtain⟨l,d⟩:=PR hW hO hp z.2;obtain⟨t,ht⟩:=Jr _ ht;unfold B1 at ht;rw[Ao,decide_eq_true_iff,CH]at ht;have:=l t.1.toNat #[2] (by rw[ht.2.2.2,z.1.2.2]);have:=(d t ht.1).1;lia
 rw[e,c,E,a,b]at h;rw[e,E,a,b]at H;rw[Wj hW hO ht];lia
end
theorem Qp:∀l:List Int,(l.map λ_=>0).sum=0
 |[]=>rfl
 |_::l=>by rw[BO,DD,Qp l]
theorem Kf {α:Type}(c:α -> Int):∀{ms:List Int}(L:List α),ms.Nodup->(∀x∈L,c x∈ms)->(ms.map λg=>(L.filter λx=>decide (c x=g)).length).sum=L.length
 |ms,[],_,_=>by
  have:(ms.map λg=>(([]:List α).filter λx=>decide (c x=g)).length)=ms.map λ_=>0:=rfl;rw[this];exact Qp ms
 |ms,x::L,nd,h=>by
  have i:=Kf c L nd λy Y=>h y<|Bs _ Y;have n:∀{ms:List Int},ms.Nodup->c x∈ms->(ms.map λg=>if c x=g then 1 else 0).sum=1:=by
   intro ms
   induction ms with
   |nil=>intro _ h;cases h
   |cons a ms ih2=>
    intro nd hin;rw[DB]at nd;rw[BO,DD];by_cases e:c x=a
    ·rw[AM e]
     have:(ms.map λg=>if c x=g then 1 else 0)=ms.map λ_=>0:=by
      apply Dq;intro g hg;rw[AL (λz=>nd.1 (by rw[<- e,z];exact hg))]
     rw[this];have Z:∀l:List Int,(l.map λ_=>0).sum=0:=λl=>by
      induction l with
      |nil=>rfl
      |cons b l ih3=>rw[BO,DD,ih3]
     rw[Z]
    ·rw[AL e,ih2 nd.2 ((Az.mp hin).resolve_left e)]
  have d:∀(l:List Int) (p q:Int->Nat),(l.map λg=>p g+q g).sum=(l.map p).sum+(l.map q).sum:=λl p q=>by
   induction l with
   |nil=>rfl
   |cons b l ih3=>rw[BO,BO,BO,DD,DD,DD,ih3];lia
  have e:(ms.map λg=>((x::L).filter λy=>decide (c y=g)).length)=ms.map λg=>(if c x=g then 1 else 0)+(L.filter λy=>decide (c y=g)).length:=by
   apply Dq;intro g _;rw[CA];by_cases z:c x=g
   ·rw[Au z,AM rfl,AM z,BI];lia
   ·rw[A4 z,AL BL,AL z];lia
  rw[e,d,n nd (h x<|Bk ..),i,BI];lia
theorem Gb (l:List Int) (p q:Int->Int):(l.map λg=>p g+q g).sum=(l.map p).sum+(l.map q).sum:=by
 induction l with
 |nil=>rfl
 |cons b l ih=>rw[BO,BO,BO,DD,DD,DD,ih];lia
theorem JU (l:List Int) (p:Int->Nat):(l.map λg=>((p g:Nat):Int)).sum=(((l.map p).sum:Nat):Int):=by
 induction l with
 |nil=>rfl
 |cons b l ih=>rw[BO,BO,DD,DD,ih];lia
theorem Rn (l:List Int) (p:Int->Int):(l.map λg=>2*p g).sum=2*(l.map p).sum:=by
 induction l with
 |nil=>rfl
 |cons b l ih=>rw[BO,BO,DD,DD,ih];lia
theorem Zw3 (l:List Int):(l.map λ_=>(2:Int)).sum=2*(l.length:Int):=by
 induction l with
 |nil=>rfl
 |cons b l ih=>rw[BO,DD,ih,BI];lia
theorem N4 (l:List Int) (p:Int->Bool):(l.map λg=>if p g=true then (1:Int) else 0).sum=((l.filter p).length:Int):=by
 induction l with
 |nil=>rfl
 |cons b l ih=>
  rw[BO,DD,ih,CA];by_cases h:p b=true
  ·rw[AM h,AM h,BI];lia
  ·rw[AL h,AL h];lia
section
variable {N:Nat}{ts:AR}{o:Ay}(hW:AZ (N:Int) ts) (hO:A0 (N:Int) ts o) {ms:List Int}(hm:Bw ms (AG N ts))
include hW hm
theorem QW:(ms.map λg=>(B1 ts<|Aa (AG N ts) N g).length).sum=ts.length:=by
 rw[<- Kf (λt:Int × Int=>(AG N ts).getD t.1.toNat 0) ts (hm.1.imp λz=>Em z) λt h=>?_]
 ·congr 1
  apply Dq;intro g _;unfold B1;congr 1;apply CJ;intro t h;have r:=hW.tie t h;rw[decide_eq_decide,CH];exact(λz=>z.2.2,λz=>(r.1,r.2.1,z))
 ·have r:=hW.tie t h
  have l:=CC N ts;exact(hm.2 _).mpr (Gq #[3])
theorem Oq:(ms.map λg=>(Aa (AG N ts) N g).length).sum=N:=by
 have q:=Kf (λp:Int=>(AG N ts).getD p.toNat 0) ((Af N).map λi:Nat=>(i:Int)) (hm.1.imp λz=>Em z) λp P=>by
  obtain⟨i,h,rfl⟩:=A2.mp P;rw[BD]at h;have l:=CC N ts;exact(hm.2 _).mpr (Gq #[2])
 rw[AH,By]at q;exact q
include hO
theorem Zw0:(ms.map λg=>(DN ts o<|Aa (AG N ts) N g).length).sum=((Af (2*ts.length)).filter λe=>BB (onI ts o) e && true).length:=by
 rw[<- Kf (λe:Nat=>(AG N ts).getD (AW ts e).toNat 0) ((Af (2*ts.length)).filter λe=>BB (onI ts o) e && true) (hm.1.imp λz=>Em z) λe h=>?_]
 ·congr 1
  apply Dq;intro g _;rw[Pu hW hO,Cj];congr 1;apply CJ;intro e h;rw[BD]at h;have r:=ED hW h;rw[GR,HF];congr 1;rw[decide_eq_decide,CH];exact(λz=>z.2.2,λz=>(r.1,r.2,z))
 ·rw[Ao,BD]at h
  have r:=ED hW h.1;have l:=CC N ts;exact(hm.2 _).mpr (Gq #[2])
theorem Zy8:(ms.filter λg=>(B1 ts<|Aa (AG N ts) N g).isEmpty)=((Af N).filter λp=>(rowP o p).isEmpty).map λi:Nat=>(i:Int):=by
 refine Fu (List.Pairwise.filter _ hm.1) ?_ λx=>?_
 ·rw[DX]
  exact(List.Pairwise.filter _ Ek).imp λh=>#[3]
 ·have L:=CC N ts
  rw[Ao,A2];constructor
  ·rintro⟨X,E⟩
   have E:=II.mp E;have r:=JW hW ((hm.2 x).mp X);refine(x.toNat,Ao.mpr (BD.mpr #[2],?_),#[2]);cases z:rowP o x.toNat with
   |nil=>rfl
   |cons y rr=>
    obtain⟨e,a,_,b,_⟩:=QX hW hO #[3] z;obtain⟨t,T,q⟩:=Qm hW a;rw[b,Aq,r.2.2]at q;have R:=hW.tie t T;have:t∈B1 ts (Aa (AG N ts) N x):=by
     unfold B1;rw[Ao,decide_eq_true_iff,CH];exact(T,R.1,R.2.1,q)
    rw[E]at this;cases this
  ·rintro⟨p,H,rfl⟩
   rw[Ao,BD]at H;obtain⟨l,c⟩:=PR hW hO H.1 H.2;have n:(AG N ts).getD p 0∈AG N ts:=Gq #[2];have r:=JW hW n;have d:=l ((AG N ts).getD p 0).toNat #[2] r.2.2;have P:(AG N ts).getD p 0=(p:Int):=#[2]
   refine((hm.2 _).mpr (by rw[<- P];exact n),?_);rw[II];apply OM.mpr;intro t T;unfold B1 at T;rw[Ao,decide_eq_true_iff,CH]at T;have:=l t.1.toNat #[3] (by rw[T.2.2.2,P]);have:=(c t T.1).1;lia
theorem Ve:(ms.map λg=>hopI ts o<|Aa (AG N ts) N g).sum=FI (N:Int) ts o ms:=by
 have h:∀g∈ms,2*hopI ts o (Aa (AG N ts) N g)+(((DN ts o<|Aa (AG N ts) N g).length:Int)+(if (B1 ts<|Aa (AG N ts) N g).isEmpty=true then (1:Int) else 0)+((Aa (AG N ts) N g).length:Int))=2+((B1 ts<|Aa (AG N ts) N g).length:Int):=λg G=>by
  by_cases c:B1 ts (Aa (AG N ts) N g)=[]
  ·have L:=(hm.2 g).mp G
   rw[Q1 hW hO L c,Qe hW hO c,LD hW L c,c];rfl
  ·have:=(Rc hW hO hm G c).2
   rw[AL (λz=>c<|II.mp z)];lia
 have l:(ms.map λg=>2*hopI ts o (Aa (AG N ts) N g)+(((DN ts o<|Aa (AG N ts) N g).length:Int)+(if (B1 ts<|Aa (AG N ts) N g).isEmpty=true then (1:Int) else 0)+((Aa (AG N ts) N g).length:Int))).sum=(ms.map λg=>(2:Int)+((B1 ts<|Aa (AG N ts) N g).length:Int)).sum:=by
  congr 1;apply Dq;exact h
 rw[Gb,Rn,Gb,Gb,Gb,Zw3,JU,JU,JU,N4,Zw0 hW hO hm,QW hW hm,Oq hW hm,Zy8 hW hO hm,AH]at l;have w:=(My hW hO hm).2;rw[PY hW hO]at w;have e:((Af N).filter λp=>(rowP o p).isEmpty).length=lone o:=by
  have H:=hO.len;unfold lone;have O:o=(Af N).map λp=>rowP o p:=by
   apply GO
   ·rw[AH,By];omega
   ·intro i h1 h2
    rw[HI,Er];unfold rowP;rw[Al,AS h1];rfl
  conv=>rhs;rw[O]
  rw[DC,AH];rfl
 rw[e]at l;lia
end
def Jn (R:Ay):Prop:=R.Pairwise λa b=>rlt b a=false
theorem Px (j:Jn A) (z:Jn B) (h:A.Perm B):A=B:=
 List.Perm.eq_of_pairwise (le:=λa b=>rlt b a=false) (λa b _ _ H c=>Nd a b c H) j z h
section
variable {n:Int}{ts:AR}{o:Ay}(hW:AZ n ts) (hO:A0 n ts o)
include hW hO
theorem P1 {e:Nat}(j:e<2*ts.length) (L:BB (onI ts o) e=true):∃l,orb (onI ts o) (e:Int)=(e:Int)::l/\∀a∈l,(e:Int)<=a:=by
 obtain⟨l,h⟩:=JM (Di hW hO) (show (0:Int)<=(e:Int) by omega) (show (e:Int)<((2*ts.length:Nat):Int) by omega);refine(l,h,λa A=>?_);unfold BB at L;rw[decide_eq_true_iff]at L;exact L a (by rw[h];exact Bs _ A)
theorem O6:Jn (allF ts o):=by
 unfold Jn allF;rw[IQ];refine(?_,?_,λa h b B=>?_)
 ·rw[List.pairwise_replicate]
  exact Or.inr rfl
 ·unfold BG
  rw[DX];have:=List.Pairwise.filter (BB<|onI ts o)<|Ek (n:=2*ts.length);refine List.Pairwise.imp_of_mem (λ{a b} h B hab=>?_) this;have h:=Ao.mp h;have B:=Ao.mp B;obtain⟨l,H,_⟩:=P1 hW hO (BD.mp h.1) h.2;obtain⟨k,c,_⟩:=P1 hW hO (BD.mp B.1) B.2;rw[H,c,F6,AL #[2]];exact A4 #[2]
 ·rw[(Fi.mp h).2]
  cases b <;> rfl
theorem Qn:(allF ts o).length<64:=by
 obtain⟨N,rfl⟩:∃N:Nat,n=(N:Int):=(n.toNat,by have:=hW.lo;lia);obtain⟨s,m⟩:=Ft<|AG N ts;have h:=My hW hO m;have H:=m.len;rw[CC]at H;have a:=hW.hi;have b:=hW.len;lia
end
#check 5
theorem V8 (z:Mb mg) (F:BE K "least_first" "least_first" HN f fd):FnOk P w K mg base CX0 1 f fd ["ends"] (spD K OE):=by
 refine F.ok HU (Bt λd o h=>by obtain⟨_,rfl,_⟩:=h;rfl) λv A r s H S Q E R h=>?_;have u:=BX R;refine(_,(AU (B8 (DJ<|truK K (pv 0) λ_=>rfl) (Ah<|A8<|CG AF) B7)<|AU (Av (i:=1) HU.nd rfl (Or.inl rfl)<|bmK K PySem.F.plainAttrs_list PySem.F.slot_list_index PySem.F.type_list_index (idxLK K) (pv 0)<|AB (Aj (minK K rfl) rfl (z "min" #[1]) Gn<|AB (pv 0) AF) AF)<|Ah<|A8<|Cp (tupK K) rfl (z "tuple" #[1]) Cr<|AB (Ac (addK K) (E3 (slK K) (pv 0) (E9<|pv 1) FC)<|E3 (slK K) (pv 0) FC<|E9<|pv 1) AF),Bu (λd o b=>?_) h);obtain⟨n,rfl,p,l,q⟩:=b;refine(#[4],?_);dsimp only[startD,BV,BJ,BQ];obtain⟨m,M,e⟩:=E2 n<|IT.mp p;obtain⟨I,c,g⟩:=D7 M;refine Ae<|B4<|Cg<|CI<|AA rfl (true,?_,?_)
 ·cases n with
  |nil=>simp at p
  |cons x t=>rfl
 refine iteF<|B6 ?_;refine Ae<|BM<|QA<|AA rfl (n,rfl,#[2],Ag<|AD<|AA rfl<|AK<|Ni (Or.inl rfl) M e (m,rfl,M,?_));have j:n.idxOf m<=(n.map D.int).length:=by rw[AH];lia
 refine BK<|Ag<|AD<|AN<|FF<|AA rfl<|FA<|AA rfl (_,rfl,E7 (.lst ((n.map D.int).drop (n.idxOf m)),?_,?_))
 ·show some (D.lst<|cutD (n.map D.int) (some ((n.idxOf m:Nat):Int)) none)=_
  rw[K4 _ j]
 refine FF<|AA rfl<|E7<|FA<|AA rfl (_,rfl,.lst ((n.map D.int).take (n.idxOf m)),?_,?_)
 ·show some (D.lst<|cutD (n.map D.int) none<|some ((n.idxOf m:Nat):Int))=_
  rw[LY _ j]
 refine Ge ?_<|AK<|DS (Or.inl rfl) ?_
 ·rw[DR,Bn,AH]
  exact CM (small1000 #[2])
 have a:=q m M e;unfold rowD Cb at a;rw[A5,Fm,Fl]at a;exact a
theorem Vq (mb:Mb mg) (a2:Callee P w K mg base 3 "onward" ["web","order","end"] (spD K fOnw)) (a3:Callee P w K mg base 1 "least_first" ["ends"] (spD K OE)) (F:BE K "face_of" "face_of" MH f fd):FnOk P w K mg base CX0 4 f fd ["web","order","end"] (spD K OF):=by
 refine F.ok KN (Bt λS T h=>#[7]) λV A u s H vs Q E R h=>?_;have U:=BX R;refine(_,(AU (Av (i:=3) KN.nd rfl (Or.inl rfl)<|Dk<|AB (pv 2) AF)<|AU (Av (i:=4) KN.nd rfl (Or.inl rfl)<|Am a2 (R.mono #[1])<|AB (pv 0)<|AB (pv 1)<|AB (pv 2) AF)<|AU (ND PassesOwn.never (BS LZ (pv 4) (pv 2)<|nomark _)<|AU (Du<|bmK K PySem.F.plainAttrs_list PySem.F.slot_list_append PySem.F.type_list_append EY (pv 3)<|AB (pv 4) AF)<|Ah<|Av (i:=4) KN.nd rfl (Or.inl rfl)<|Am a2 (R.mono #[1])<|AB (pv 0)<|AB (pv 1)<|AB (pv 4) AF)<|Ah<|A8<|Am a3 (R.mono #[1])<|AB (pv 3) AF),Bu (λS T G=>?_) h);obtain⟨n,t,o,e,rfl,W,m,D,q⟩:=G;sleep 0;have O:=Di W m;have L:=W.len;have a:(0:Int)<=(e:Int):=#[2]
 have b:(e:Int)<((2*t.length:Nat):Int):=#[2]
 have N:∀j:Nat,CV t o (partner (iter (onI t o) e j).toNat)=iter (onI t o) e (j+1):=λj=>rfl;refine Ae<|DI<|Ed<|AD<|AA rfl<|AK (by show 1<=sizeLine;decide,?_);refine Ae<|BM<|BR<|AD<|AA rfl<|AD<|AA rfl<|AD<|AA rfl<|AK (n,t,o,e,rfl,W,m,D,?_);refine B3 (λM=>∃k:Nat,DO (onI t o) e k /\ M = [.val (A6 n t),.val (Bb o),.val (.int e),.own (.lst ((Bi (onI t o) e k).map .int)),.val (.int<|iter (onI t o) e k)]) ?_ ?_
 ·refine NS (fun μ M=>∃k:Nat,1<=k/\NdTo (onI t o) e k /\ μ = 2*t.length-k /\ M = [.val (A6 n t),.val (Bb o),.val (.int e),.own (.lst ((Bi (onI t o) e k).map .int)),.val (.int<|iter (onI t o) e k)]) (_,1,AX _,N7 O a b,rfl,rfl) ?_
  rintro μ B ⟨k,hk,nd,rfl,rfl⟩;have p:=F9 O a b nd;refine Be<|AN<|AA rfl<|AA rfl<|Jj (_,rfl,?_);by_cases hb:iter (onI t o) e k=e
  ·rw[Au hb]
   exact iteF (k,(#[2],hb,nd),rfl)
  ·rw[A4 hb]
   have d:=LO O a b hk nd hb;have y:=F9 O a b d;have r:=Dh O a b k;refine iteT<|Ae<|F5 rfl rfl<|AA rfl (_,_,rfl,rfl,?_,?_)
   ·rw[AH,EB];exact small1000 #[2]
   refine BM<|BR<|AD<|AA rfl<|AD<|AA rfl<|AD<|AA rfl<|AK (n,t,o,(iter (onI t o) e k).toNat,?_,W,m,#[2],?_)
   ·rw[show (((iter (onI t o) e k).toNat:Nat):Int)=iter (onI t o) e k by lia]
   refine(2*t.length-(k+1),#[2],k+1,#[2],d,rfl,?_);rw[PC,A5];rfl
 rintro B ⟨k,c,rfl⟩;have p:=F9 O a b c.nd;refine BK<|BR<|AD<|Gi rfl<|AK (Bi (onI t o) e k,rfl,?_,?_,λx X l=>?_)
 ·rw[EB];exact c.pos
 ·rw[EB];lia
 ·have C:=c.orb
  rw[<- C]at X l ⊢;have Y:=FZ O a b X;obtain⟨j,v,J⟩:=Cq.mp X;have I:(orb (onI t o) e).idxOf x=j:=SD (Ks O a b) (by rw[<- J];exact Kp v);rw[I,Zxb O a b v,J];have g:((x.toNat:Nat):Int)=x:=#[2]
  have:=q x.toNat #[2] (by
   unfold BB;rw[decide_eq_true_iff,g];exact λz Z=>l z (EX O a b X Z)) (by rw[g];exact X)
  rw[g]at this;exact this
theorem Zue (mb:Mb mg) (a3:Callee P w K mg base 4 "face_of" ["web","order","end"] (spD K OF)) (F:BE K "faces" "faces" KC f fd):FnOk P w K mg base CX0 5 f fd ["web","order"] (spN K fFaces):=by
 refine F.ok HV (Gg λR I h=>#[6]) λa2 A a1 s H vs Q E hr h=>?_;have hu:=BX hr;have hv:=Dw hr;refine(_,(AU (GZ (i:=2) ["row"] (show CompSc (defScope KC) ["web","order","told","gone","end","face","come"] _ [] [] from (rfl,#[0],#[0],#[0],rfl,#[0])) rfl HV.nd rfl (Or.inl rfl) (seqK K<|pv 1) (λ_ _ _ _ _=>(An (i:=0) (show List.Nodup (["row"]:List Str) from #[1]) rfl<|Or.inl rfl)) (λ_ _ _ _ _=>(D5<|DJ<|truK K (pv 0) λ_=>rfl)) λ_ _ _ _ _=>(CG AF))<|AU (Av (i:=3) HV.nd rfl (Or.inl rfl)<|VS WL rfl (mb "set" #[1]) LV)<|AU (DG PassesOwn.never rfl (De rfl (mb "range" #[1])<|AB (Ac D8 AQ<|Aj (lenK K) rfl (mb "len" #[1]) BN<|AB (Ab (ixK K hu) (pv 0) AQ λ_ _=>rfl) AF) AF) (An (i:=4) HV.nd rfl<|Or.inl rfl)<|Ah<|B8 (BS (notinK K hu) (pv 4) (pv 3) rfl) (AU (Av (i:=5) HV.nd rfl (Or.inl rfl)<|Am a3 (hr.mono #[1])<|AB (pv 0)<|AB (pv 1)<|AB (pv 4) AF)<|AU (Du<|bmK K PySem.F.plainAttrs_list PySem.F.slot_list_append PySem.F.type_list_append EY (pv 2)<|AB (pv 5) AF)<|Ah<|DG PassesOwn.never rfl (seqK K<|pv 5) (An (i:=6) HV.nd rfl<|Or.inl rfl)<|Ah<|Du<|bmK K PySem.F.plainAttrs_set PySem.F.slot_set_add PySem.F.type_set_add Zxd (pv 3)<|AB (pv 6) AF) B7)<|Ah<|A8<|Aj (sortGK K hv) rfl (mb "sorted" #[1]) Hk<|AB (pv 2) AF),Gs (λR I hf=>?_) h);obtain⟨n,T,o,rfl,W,u,q⟩:=hf;sleep 0;have O:=Di W u;have hw:=W.len;have hn:=W.hi;have ho:=u.len;have Y:=Na o;refine Ae<|DI<|Hn #[1]<|DH<|AA rfl (_,rfl,?_,λd=>match d with|.tup R=>R.isEmpty|_=>false,λ_=>.tup [],λi d j=>?_,?_)
 ·rw[AH];exact small1000 #[2]
 ·rw[Ad]at j
  cases z:o[i]? with
  |none=>rw[z]at j;cases j
  |some r=>
   rw[z]at j;have j:BY r=d:=by simpa using j
   subst j;refine Cg<|CI<|AA rfl (_,rfl,?_,?_)
   ·cases r <;> rfl
   ·cases r with
    |nil=>exact iteT (CL (AK (#[1],rfl,_,rfl)))
    |cons x t=>exact iteF (_,rfl)
 rw[show o.map BY=o.map rowD from rfl,QF o _ (λr=>by cases r <;> rfl) _ λ_=>rfl]
 refine Ae<|DI<|Zzo ?_;refine B3 (λM=>∃(S:Int->Bool) (c:Nat) (G m X:L2.Slot),M = [.val (A6 n T),.val (Bb o),.own (.lst ((allF T o).map rowD)),.own (.set S c),G,m,X]) ?_ ?_
 ·refine DK (Dd ?_)
  refine AD<|AN<|AY<|Ag ?_;refine AD<|AN<|AA rfl<|AY<|A7 (d:=.tup<|T.map A3) rfl ?_;refine AK<|Bg (Or.inr rfl) ?_;rw[AH];refine jr_I (Or.inl (#[2],#[2]))<|AK (_,rfl,#[2],#[2],?_);have eL:((2:Int)*(T.length:Int)).toNat=2*T.length:=#[2]
  rw[eL];refine(λk M=>∃(S:Int->Bool) (c:Nat) (G m X:L2.Slot),(∀x,S x=true↔Dn (onI T o) k x)/\c<=48*k /\ M = [.val (A6 n T),.val (Bb o),.own (.lst ((Ak (lone o) []++BG (onI T o) k).map rowD)),.own (.set S c),G,m,X],(λ_=>false,0,.any,.any,.any,λx=>?_,#[2],?_),?_,?_)
  ·constructor
   ·intro z;cases z
   ·rintro⟨e,he,_⟩;lia
  ·rw[show BG (onI T o) 0=[] from rfl,Bp];rfl
  ·rintro k d M2 j ⟨S,c,G,m,X,v,hc,rfl⟩
   obtain⟨B,rfl⟩:=DF j;rw[DE];have fl:=Me (onI T o) k;refine BW<|B4<|Be<|Sn<|AA rfl (_,S,c,_,rfl,rfl,rfl,_,rfl,?_);by_cases hm:S (k:Int)=true
   ·rw[hm]
    refine iteF<|B6 (S,c,.val (.int (k:Int)),m,X,λx=>?_,#[2],?_)
    ·have L:=(Hl O B).mp ((v _).mp hm)
     rw[v,Kx O B,L];simp
    ·have L:=(Hl O B).mp ((v _).mp hm)
     rw[KY,AL (by rw[L];exact BL),Bp];rfl
   ·have L:BB (onI T o) k=true:=by
     cases z:BB (onI T o) k with
     |true=>rfl
     |false=>exact absurd ((v _).mpr ((Hl O B).mpr z)) hm
    rw[FR.mpr hm];have ol:=RN O (e:=(k:Int)) #[2] #[2];refine iteT<|Ae<|BM<|BR<|AD<|AA rfl<|AD<|AA rfl<|AD<|AA rfl<|AK (n,T,o,k,rfl,W,u,B,λg hg V N=>?_);have U:g=k:=by
     have a:=of_decide_eq_true (show decide (∀x∈orb (onI T o) (k:Int),(k:Int)<=x)=true from L) _ N;have b:=of_decide_eq_true (show decide (∀x∈orb (onI T o) (g:Int),(g:Int)<=x)=true from V) _<|Eb O #[2] #[2] N;lia
    subst U;refine Ae<|F5 rfl rfl<|AA rfl (_,_,rfl,rfl,?_,?_)
    ·rw[AH,A1,Cc];exact small1000 #[2]
    refine DK<|DH<|AA rfl (_,rfl,λi M=>∃(p:Int->Bool) (C:Nat) (X:L2.Slot),(∀x,p x=true↔Dn (onI T o) g x\/x∈(orb (onI T o) (g:Int)).take i)/\C<=48*g+i /\ M = [.val (A6 n T),.val (Bb o),.own (.lst ((Ak (lone o) []++BG (onI T o) g).map rowD++[rowD (orb (onI T o) (g:Int))])),.own (.set p C),.val (.int (g:Int)),.val (rowD<|orb (onI T o) (g:Int)),X],(S,c,_,λx=>by rw[Es];simp[v],#[3],rfl),?_,?_)
    ·rintro i d M3 j ⟨p,C,X,l,J,rfl⟩
     rw[Ad]at j;cases z:(orb (onI T o) (g:Int))[i]? with
     |none=>rw[z]at j;cases j
     |some y=>
      rw[z]at j;have j:D.int y=d:=by simpa using j
      subst j;have hi:=(BZ.mp z).1;refine BW<|Zyq rfl rfl<|AA rfl (_,p,C,y,rfl,rfl,rfl,#[2],_,_,_,λx=>?_,?_,rfl)
      ·rw[Cy,z]
       simp only[Bool.or_eq_true,decide_eq_true_eq,l,Option.toList_some,Bo,BU];exact or_assoc
      ·split <;> lia
    ·rintro M3 ⟨p,C,X,l,J,rfl⟩
     rw[AH]at l J;rw[CP]at l;refine(p,C,.val (.int (g:Int)),.val<|rowD<|orb (onI T o) (g:Int),X,λx=>?_,#[2],?_)
     ·rw[l,Kx O B,L];simp
     ·rw[KY,AM L,<- CK,A5 (l₂:=[orb (onI T o) (g:Int)])]
      rfl
  ·rintro M2 ⟨S,c,G,m,X,v,hc,rfl⟩
   rw[Ca];exact(S,c,_,_,_,rfl)
 rintro M1 ⟨S,c,G,m,X,rfl⟩;have al:=Kv W u;refine Gk<|QQ<|AD<|Gi rfl<|AK (allF T o,Or.inl rfl,Qn W u,λms Z a0=>?_);cases Px a0 (O6 W u) Z;exact(_,rfl,q)
end
def Bv (r:List Int):AR:=(Af r.length).map λk=>(r.getD k 0,r.getD ((k+1) % r.length) 0)
theorem MU (r:List Int):(Bv r).length=r.length:=by simp[Bv]
theorem MV (h:k<r.length):(Bv r)[k]?=some (r.getD k 0,r.getD ((k+1) % r.length) 0):=by
 unfold Bv;rw[Ad,Ep h];rfl
theorem US (r:List Int):(Bv r).map (·.1)=r:=by
 apply Dz;intro k;rw[Ad];by_cases h:k<r.length
 ·rw[MV h,AS h,Al,AS h];rfl
 ·rw[FP (by rw[MU];lia),FP #[3]];rfl
theorem Vl (h:x∈r):(x,Aw r x)∈Bv r:=by
 obtain⟨H,a,_⟩:=D7 h;refine Bd (i:=r.idxOf x) ?_;rw[MV H];congr 1;rw[Al,a];rfl
theorem JD (o:Ay):(o.flatMap Bv).map (·.1)=o.flatten:=by
 induction o with
 |nil=>rfl
 |cons r o ih=>rw[L4,A5,ih,US,J1]
theorem Zus (hW:AZ n ts) (hO:A0 n ts o) (j:e<2*ts.length):valD ((o.flatMap Bv).map Dl) (.inl (e:Int))=some (.int<|CV ts o e):=by
 obtain⟨g,a,G⟩:=E5 hW hO j;exact S6 (by rw[JD];exact hO.flat)<|J3.mpr (_,Bd g,Vl G)
theorem VY {A B:AR}{y:Int × Int}(h:((A++y::B).map (·.1)).Nodup):y.1 ∉ A.map (·.1):=by
 rw[A5,DY]at h;intro hm;exact h.2.2 _ hm _ (by rw[BO];exact Bk) rfl
def FH (x:Int):AV × D:=(.inl x,.bl true)
theorem Zya (ms:List Int) (x:Int):(valD (ms.map FH) (.inl x)).isSome=decide (x∈ms):=by
 induction ms with
 |nil=>rfl
 |cons y ms ih=>
  unfold valD at ih ⊢;rw[BO];by_cases h:y=x
  ·subst h
   rw[Jp (by simp[FH])];simp
  ·rw[HA (by simp[FH];exact h),ih]
   have:(x∈y::ms)↔x∈ms:=by simp[Ne.symm h]
   exact decide_eq_decide.mpr this.symm
theorem Zxw (h:x ∉ ms):putD (ms.map FH) (.inl x) (.bl true)=(ms++[x]).map FH:=by
 unfold putD;rw[AL,A5]
 ·rfl
 ·rw[List.any_map,IK]
  rintro⟨z,Z,e⟩;have e:(Sum.inl z:AV)=Sum.inl x:=of_decide_eq_true e;injection e with e
  exact h (e ▸ Z)
def OI:NSp:=λs t=>∃n ts o,s=[Bb o]/\AZ n ts/\A0 n ts o/\t ((allF ts o).map rowD)
#check 5
theorem VI (hW:AZ n ts) (hO:A0 n ts o) (R:List L2.Slot):JS K (tFor (iSeq K<|tVar 0) (gName 2)<|tFor (iRng1<|tCons (tCB (rLenU K)<|tCons (tVar 2) tNil) tNil) (gName 3)<|tAsg (tOp (rIxU K) (tVar 2)<|tOp (rI (λx j=>0<j) λi j=>V.int<|i % j) (tOp (rAddU K) (tVar 3)<|tC<|V.int 1)<|tCB (rLenU K)<|tCons (tVar 2) tNil)<|gSub (tVar 1) (tOp (rIxU K) (tVar 2)<|tVar 3) rSetU)
  ([.val (Bb o),.own (.dct []),y2,y3]++R) (λM=>∃x2 x3:L2.Slot,M = [.val (Bb o),.own (.dct ((o.flatMap Bv).map Dl)),x2,x3]++R,rt,bk,ct,ro):=by
 have w:=hW.len;have e:=hO.flat_eq hW;have N:((o.flatMap Bv).map (·.1)).Nodup:=by rw[JD];exact hO.flat
 have p:(o.flatMap Bv).length=2*ts.length:=by rw[<- e,<- JD,AH]
 refine DK<|DH<|AA rfl (o.map BY,rfl,λi M=>∃x2 x3:L2.Slot,M = [.val (Bb o),.own (.dct (((o.take i).flatMap Bv).map Dl)),x2,x3]++R,(_,_,rfl),?_,?_)
 ·rintro i d m h ⟨x2,x3,rfl⟩
  rw[Ad]at h;cases z:o[i]? with
  |none=>rw[z]at h;cases h
  |some r=>
   rw[z]at h;have h:BY r=d:=#[8]
   subst h;have I:i<o.length:=(BZ.mp z).1;have t:o.take (i+1)=o.take i++[r]:=by rw[Cy,z];rfl
   have O:o.flatMap Bv=(o.take i).flatMap Bv++(Bv r++(o.drop<|i+1).flatMap Bv):=by
    conv=>lhs;rw[<- En (i+1) o,t]
    rw[Gz,Gz];simp[CK]
   have L:r.length<=48:=by have:=(hO.row i r z).len;lia
   refine BW<|DK<|Dd<|AD<|Ag<|AD<|AA rfl<|AK<|Bg (Or.inr rfl)<|AK (_,rfl,?_,?_,?_)
   ·rw[AH];lia
   ·rw[AH];lia
   rw[AH,Aq];refine(λk M=>∃x3:L2.Slot,M = [.val (Bb o),.own (.dct (((o.take i).flatMap Bv++(Bv r).take k).map Dl)),.val (BY r),x3]++R,(_,by rw[Es,Bp];rfl),?_,?_)
   ·rintro k d m h ⟨x3,rfl⟩
    obtain⟨a,rfl⟩:=DF h;have g:=MV a;have A:atI (r.map D.int) (0+(k:Int))=some (.int<|r.getD k 0):=by
     rw[DE];exact Co (by rw[Ad,Al,AS a];rfl)
    have c:(k+1) % r.length<r.length:=Im _ #[2];have b:atI (r.map D.int) ((0+(k:Int)+1) % (r.length:Int))=some (.int<|r.getD ((k+1) % r.length) 0):=by
     rw[show (0+(k:Int)+1) % (r.length:Int)=(((k+1) % r.length:Nat):Int) by push_cast;rw[DE]];exact Co (by rw[Ad,Al,AS c];rfl)
    refine BW<|RH<|AN<|AA rfl<|AN<|AN<|AA rfl<|AY<|Cn ?_;refine Ag<|AD<|AA rfl<|AK<|Bg (Or.inr rfl) ?_;rw[AH];refine jr_I (by show (0:Int)<_;lia)<|A7 b ((_,_,rfl,rfl),AN<|AA rfl<|AA rfl<|A7 A (_,_,_,rfl,rfl,rfl,?_,?_))
    ·rw[AH,A1,Bn]
     rw[O,A1,A1,MU]at p;exact small1000 #[2]
    ·have T:(Bv r).take (k+1)=(Bv r).take k++[(r.getD k 0,r.getD ((k+1) % r.length) 0)]:=by rw[Cy,g];rfl
     have E:Bv r=(Bv r).take k++(r.getD k 0,r.getD ((k+1) % r.length) 0)::(Bv r).drop (k+1):=by
      conv=>lhs;rw[<- En (k+1) (Bv r),T]
      simp
     have H:=N;rw[O,E,CK,<- CK,J5]at H;refine(.val (.int (0+(k:Int))),?_);show L2.Slot.val _::L2.Slot.own (.dct<|putD _ _ _)::_::_::_=_;rw[Zzd (VY H),T,CK];rfl
   ·rintro m ⟨x3,rfl⟩
    rw[Ca];refine(.val<|BY r,x3,?_);rw[GI (l:=Bv r) (by rw[MU];exact AX _),t,Gz];simp
 ·rintro m ⟨x2,x3,rfl⟩
  rw[AH,CP];exact(x2,x3,rfl)
theorem Zxy (j:M[n]?=some x) (ho:x.od=some (.dct kvs)) (p:Pd (.int kvs.length) M):JE K (tCB (rLenU K)<|tCons (tVar n) tNil) M Pd:=λg G H Z Q k c=>by
 obtain⟨a,o,b,d,h,e,f⟩:=k.own n x _ j ho;cases o with
 |dK vs=>
  have l:vs.length=kvs.length:=Paired.length h;refine(.ref a,b,.inr (a,vs,rfl,d,?_));rw[l];exact c _ _ G H M k (Same.refl _) (.int _) p
 |_=>exact absurd h (λz=>z)
theorem WU (mb:Mb mg) (b2:Callee P w K mg base 1 "_law_partner" ["_law_end"] (spD K fPart)) (F:BE K "_law_faces" "_law_faces" KJ f fd):FnOk P w K mg base CX0 2 f fd ["_law_order_here"] (spN K OI):=by
 refine F.ok Et (Gg λY T h=>#[6]) λb0 A a8 s H vs Q E hr h=>?_;have U:=BX hr;have hv:=Dw hr;refine(_,(AU (Av (i:=1) Et.nd rfl (Or.inl rfl) Qu)<|AU (DG PassesOwn.never rfl (seqK K<|pv 0) (An (i:=2) Et.nd rfl<|Or.inl rfl)<|Ah<|DG PassesOwn.never rfl (De rfl (mb "range" #[1])<|AB (Aj (lenK K) rfl (mb "len" #[1]) BN<|AB (pv 2) AF) AF) (An (i:=3) Et.nd rfl<|Or.inl rfl)<|Ah<|DL (Ab (ixK K U) (pv 2) (Ac DM (Ac (addK K) (pv 3) AQ)<|Aj (lenK K) rfl (mb "len" #[1]) BN<|AB (pv 2) AF) λ_ _=>rfl)<|F1 (pv 1) (Ab (ixK K U) (pv 2) (pv 3) λ_ _=>rfl)<|setU U)<|AU (GZ (i:=4) ["_law_row"] (show CompSc (defScope KJ) ["_law_order_here","_law_behind","_law_row","_law_k","_law_found","_law_met","_law_end","_law_walk","_law_at"] _ [] [] from (rfl,#[0],#[0],#[0],rfl,#[0])) rfl Et.nd rfl (Or.inl rfl) (seqK K<|pv 0) (λ_ _ _ _ _=>(An (i:=0) (show List.Nodup (["_law_row"]:List Str) from #[1]) rfl<|Or.inl rfl)) (λ_ _ _ _ _=>(D5<|BS C0 (Aj (lenK K) rfl (mb "len" #[1]) BN<|AB (pv 0) AF) AQ<|nomark _)) λ_ _ _ _ _=>(CG AF))<|AU (Av (i:=5) Et.nd rfl (Or.inl rfl) Qu)<|AU (DG PassesOwn.never rfl (De rfl (mb "range" #[1])<|AB (Aj (lenK K) rfl (mb "len" #[1]) BN<|AB (pv 1) AF) AF) (An (i:=6) Et.nd rfl<|Or.inl rfl)<|AU (Av (i:=7) Et.nd rfl (Or.inl rfl)<|Dk AF)<|AU (Av (i:=8) Et.nd rfl (Or.inl rfl)<|pv 6)<|AU (ND PassesOwn.never (BS (notinK K U) (pv 8) (pv 5) rfl)<|AU (DL Hx<|F1 (pv 5) (pv 8)<|setU U)<|AU (Du<|bmK K PySem.F.plainAttrs_list PySem.F.slot_list_append PySem.F.type_list_append EY (pv 7)<|AB (pv 8) AF)<|Ah<|Av (i:=8) Et.nd rfl (Or.inl rfl)<|Ab (ixK K U) (pv 1) (Am b2 (hr.mono #[1])<|AB (pv 8) AF) λ_ _=>rfl)<|Ah<|B8 (BS Gw (Aj (lenK K) rfl (mb "len" #[1]) BN<|AB (pv 7) AF) AQ<|nomark _) (Ah<|Du<|bmK K PySem.F.plainAttrs_list PySem.F.slot_list_append PySem.F.type_list_append EY (pv 4)<|AB (Cp (tupK K) rfl (mb "tuple" #[1]) Cr<|AB (pv 7) AF) AF) B7)<|Ah<|A8<|Aj (sortGK K hv) rfl (mb "sorted" #[1]) Hk<|AB (pv 4) AF),Gs (λY T hf=>?_) h);obtain⟨n,S,o,rfl,W,p,q⟩:=hf;sleep 0;have O:=Di W p;have hw:=W.len;have hn:=W.hi;have ho:=p.len;have a4:=Na o;have a0:=p.flat_eq W;have b1:((o.flatMap Bv).map (·.1)).Nodup:=by rw[JD];exact p.flat
 have I:(o.flatMap Bv).length=2*S.length:=by rw[<- a0,<- JD,AH]
 refine Ae<|DI<|Rr ?_;refine B3 (λM=>∃X y:L2.Slot,M = [.val (Bb o),.own (.dct ((o.flatMap Bv).map Dl)),X,y,.any,.any,.any,.any,.any]) ?_ ?_
 ·exact VI W p [.any,.any,.any,.any,.any]
 rintro V ⟨X,y,rfl⟩;refine Ae<|DI<|Hn #[1]<|DH<|AA rfl (_,rfl,?_,λd=>match d with|.tup Y=>decide ((Y.length:Int)=0)|_=>false,λ_=>.tup [],λi d u=>?_,?_)
 ·rw[AH];exact small1000 #[3]
 ·rw[Ad]at u
  cases z:o[i]? with
  |none=>rw[z]at u;cases u
  |some r=>
   rw[z]at u;have u:BY r=d:=by simpa using u
   subst u;refine Be<|AN<|Ag<|AD<|AA rfl<|AK<|Bg (Or.inr rfl)<|AY<|DV (_,rfl,rfl,?_);by_cases hz:((r.map D.int).length:Int)=0
   ·rw[Au hz]
    exact iteT<|CL<|AK (#[1],rfl,_,rfl)
   ·rw[A4 hz]
    exact iteF (_,rfl)
 rw[show o.map BY=o.map rowD from rfl,QF o _ (λr=>by
  show decide (((r.map D.int).length:Int)=0)=r.isEmpty;cases r with
  |nil=>rfl
  |cons x t=>rw[AH,BI];exact A4 #[2]) _ λ_=>rfl]
 refine Ae<|DI<|Rr ?_;refine B3 (λM=>∃(a:List Int) (B C G:L2.Slot),M = [.val (Bb o),.own (.dct ((o.flatMap Bv).map Dl)),X,y,.own (.lst ((allF S o).map rowD)),.own (.dct<|a.map FH),B,C,G]) ?_ ?_
 ·refine DK (Dd<|AD<|Zxy rfl rfl<|AK (_,rfl,?_,?_,?_))
  ·lia
  ·rw[AH,I];lia
  rw[AH,I,Aq];refine(λk M=>∃(a:List Int) (B C G:L2.Slot),(∀x,x∈a↔Dn (onI S o) k x)/\a.length<=48*k /\ M = [.val (Bb o),.own (.dct ((o.flatMap Bv).map Dl)),X,y,.own (.lst ((Ak (lone o) []++BG (onI S o) k).map rowD)),.own (.dct<|a.map FH),B,C,G],([],.any,.any,.any,λx=>?_,#[4],?_),?_,?_)
  ·constructor
   ·intro z;cases z
   ·rintro⟨e,he,_⟩;omega
  ·rw[show BG (onI S o) 0=[] from rfl,Bp];rfl
  ·rintro k d M2 u ⟨a,B,C,G,c,a5,rfl⟩
   obtain⟨R,rfl⟩:=DF u;rw[DE];have g:(0:Int)<=(k:Int):=#[2]
   have l:(k:Int)<((2*S.length:Nat):Int):=#[2]
   have fl:=Me (onI S o) k;refine BW<|Ae<|DI<|Ed<|AK (#[1],?_);refine Ae<|BM<|AA rfl ?_;refine B3 (λM=>∃j:Nat,((j=0/\Dn (onI S o) k (k:Int))\/(DO (onI S o) (k:Int) j/\¬ Dn (onI S o) k (k:Int))) /\ M = [.val (Bb o),.own (.dct ((o.flatMap Bv).map Dl)),X,y,.own (.lst ((Ak (lone o) []++BG (onI S o) k).map rowD)),.own (.dct ((a++Bi (onI S o) (k:Int) j).map FH)),.val (.int (k:Int)),.own (.lst ((Bi (onI S o) (k:Int) j).map .int)),.val (.int<|iter (onI S o) (k:Int) j)]) ?_ ?_
   ·refine NS (fun μ M=>∃j:Nat,(j=0\/¬ Dn (onI S o) k (k:Int))/\NdTo (onI S o) (k:Int) j /\ μ = 2*S.length-j /\ M = [.val (Bb o),.own (.dct ((o.flatMap Bv).map Dl)),X,y,.own (.lst ((Ak (lone o) []++BG (onI S o) k).map rowD)),.own (.dct ((a++Bi (onI S o) (k:Int) j).map FH)),.val (.int (k:Int)),.own (.lst ((Bi (onI S o) (k:Int) j).map .int)),.val (.int<|iter (onI S o) (k:Int) j)]) (_,0,.inl rfl,λi j hi=>#[2],rfl,?_) ?_
    ·rw[show Bi (onI S o) (k:Int) 0=[] from rfl,Bp];rfl
    rintro μ V ⟨j,J,nd,rfl,rfl⟩;have a3:=F9 O g l nd;have r:=Dh O g l j;refine Be<|Zz9<|AA rfl (_,_,_,rfl,rfl,rfl,_,rfl,?_);rw[Zya];by_cases b:iter (onI S o) (k:Int) j∈a++Bi (onI S o) (k:Int) j
    ·rw[Au b]
     refine iteF (j,?_,rfl);rcases Bo.mp b with b|b
     ·have v:Dn (onI S o) k (k:Int):=(Qd O #[2] g l j).mp ((c _).mp b)
      rcases J with J|J
      ·exact .inl (J,v)
      ·exact absurd v J
     ·obtain⟨i,hi,e⟩:=Cq.mp b
      have a1:1<=j:=#[2]
      have a2:¬ Dn (onI S o) k (k:Int):=by
       rcases J with J|J
       ·lia
       ·exact J
      refine .inr ((#[2],?_,nd),a2);apply Classical.byContradiction;intro hne;have:=LO O g l a1 nd hne i j #[2] #[2] e;lia
    ·rw[A4 b]
     rw[Bo,not_or]at b;have v:¬ Dn (onI S o) k (k:Int):=λz=>b.1 ((c _).mpr ((Qd O #[3] g l j).mpr z));have N:NdTo (onI S o) (k:Int) (j+1):=by
      by_cases hj0:j=0
      ·subst hj0;exact N7 O g l
      ·refine LO O g l #[2] nd λz=>b.2<|Cq.mpr (0,#[2],z.symm)
     have a9:=F9 O g l N;refine iteT<|Ae<|RH<|Jk ((_,_,rfl,rfl),AA rfl (_,_,_,rfl,rfl,rfl,?_,?_))
     ·rw[AH,A1,EB]
      refine EA (m:=48*48+48) #[2] #[1]
     refine Ae<|F5 rfl rfl<|AA rfl (_,_,rfl,rfl,?_,?_)
     ·rw[AH,EB];exact small1000 #[2]
     have hp:=EZ (show (iter (onI S o) (k:Int) j).toNat<2*S.length by lia);refine BM<|Zzf rfl rfl<|BR<|AD<|AA rfl<|AK ((iter (onI S o) (k:Int) j).toNat,?_,_,_,_,_,rfl,rfl,rfl,Zus W p hp,?_)
     ·rw[show (((iter (onI S o) (k:Int) j).toNat:Nat):Int)=iter (onI S o) (k:Int) j by lia]
     refine(2*S.length-(j+1),#[2],j+1,.inr v,N,rfl,?_);show [_,_,_,_,_,L2.Slot.own (.dct<|putD _ _ _),_,L2.Slot.own (.lst _),_]=_;rw[Zxw (by rw[Bo,not_or];exact b),PC,CK,A5 (f:=D.int)];rfl
   rintro V ⟨j,J,rfl⟩;refine B4<|Be<|AN<|Hq rfl rfl<|AY<|DU (_,rfl,?_);rw[AH,EB];rcases J with ⟨rfl,v⟩|⟨Z,v⟩
   ·have L:=(Hl O R).mp v
    refine iteF<|B6 (a,.val (.int (k:Int)),.own (.lst []),.val (.int (k:Int)),λx=>?_,#[2],?_)
    ·rw[c,Kx O R,L];simp
    ·rw[KY,AL (by rw[L];exact BL),Bp,show Bi (onI S o) (k:Int) 0=[] from rfl,Bp]
     rfl
   ·have L:BB (onI S o) k=true:=by
     cases z:BB (onI S o) k with
     |true=>rfl
     |false=>exact absurd ((Hl O R).mpr z) v
    have a3:=F9 O g l Z.nd;have eo:=Z.orb;rw[show decide ((0:Int)<(j:Int))=true from Au (by have:=Z.pos;lia)];refine iteT<|F5 rfl rfl<|Ag<|AD<|Gi rfl<|AK<|DS (Or.inl rfl) (_,_,rfl,rfl,?_,a++Bi (onI S o) (k:Int) j,.val (.int (k:Int)),.val (.lst ((Bi (onI S o) (k:Int) j).map .int)),.val (.int<|iter (onI S o) (k:Int) j),λx=>?_,?_,?_)
    ·rw[AH,A1,Cc];exact small1000 #[2]
    ·rw[Bo,c,Kx O R,L,<- eo];simp
    ·rw[A1,EB];lia
    ·rw[KY,AM L,<- CK,A5 (l₂:=[orb (onI S o) (k:Int)]),eo]
     rfl
  ·rintro M2 ⟨a,B,C,G,c,a5,rfl⟩
   rw[Ca];exact(a,_,_,_,rfl)
 rintro V ⟨a,B,C,G,rfl⟩;have al:=Kv W p;refine Gk<|QQ<|AD<|Gi rfl<|AK (allF S o,Or.inl rfl,Qn W p,λa a6 a7=>?_);cases Px a7 (O6 W p) a6;exact(_,rfl,q)
theorem Hf {l:List Int}(L:l.length=n) (h0:0<=x) (h1:x<(n:Int)):atI (l.map D.int) x=some (.int<|l.getD x.toNat 0):=by
 rw[show x=((x.toNat:Nat):Int) by lia];refine Co ?_;rw[Ad,Al,Aq,AS (by lia:x.toNat<l.length)];rfl
theorem VB (mb:Mb mg) (F:BE K "parts_of" "parts_of" HM f fd):FnOk P w K mg base CX0 1 f fd ["web"] (spN K Jo):=by
 refine F.ok FU (Gg λG o h=>#[11]) λV A r s H vs Q E R h=>?_;have u:=BX R;have hv:=Dw R;refine(_,(AU (DL (pv 0)<|gtupK (n:=2) K rfl<|CB (An (i:=1) FU.nd rfl<|Or.inr rfl)<|CB (An (i:=2) FU.nd rfl<|Or.inl rfl) Dr)<|AU (Av (i:=3) FU.nd rfl (Or.inr rfl)<|Oh rfl rfl (mb "list" #[1]) rfl (mb "range" #[1])<|AB (pv 1) AF)<|AU (DG PassesOwn.never rfl (seqK K<|pv 2) (gtupK (n:=2) K rfl<|CB (An (i:=4) FU.nd rfl<|Or.inl rfl)<|CB (An (i:=5) FU.nd rfl<|Or.inl rfl) Dr)<|AU (Av (i:=6) FU.nd rfl (Or.inr rfl)<|Aj (Ko rfl) rfl (mb "min" #[1]) Gn<|AB (Ab (ixK K u) (pv 3) (pv 4) λ_ _=>rfl)<|AB (Ab (ixK K u) (pv 3) (pv 5) λ_ _=>rfl) AF)<|AU (Av (i:=7) FU.nd rfl (Or.inr rfl)<|Aj (GV rfl) rfl (mb "max" #[1]) F3<|AB (Ab (ixK K u) (pv 3) (pv 4) λ_ _=>rfl)<|AB (Ab (ixK K u) (pv 3) (pv 5) λ_ _=>rfl) AF)<|Ah<|Av (i:=3) FU.nd rfl (Or.inr rfl)<|Ce ["first"] (show CompSc (defScope HM) ["web","many","ties","firsts","a","b","low","high"] _ ["low","high"] [6,7] from (rfl,#[0],#[0],#[0],rfl,#[0])) rfl (seqK K<|pv 3) (λ_ _ _ _ _=>(An (i:=0) (show List.Nodup (["first","low","high"]:List Str) from #[1]) rfl<|Or.inl rfl)) (λ_ _ _ _ _=>Dg) λ_ _ _ _ _=>(NW (BS C0 (pv 0) (pv 2)<|nomark _) (pv 1)<|pv 0))<|Ah<|A8<|WN ["first"] (show CompScK (defScope HM) ["web","many","ties","firsts","a","b","low","high"] "first" _ ["many","firsts"] [1,3] from (rfl,#[0],#[0],#[0],#[0],rfl,#[0])) rfl (seqK K<|PD rfl rfl rfl (mb "sorted" #[1]) rfl (mb "set" #[1])<|AB (pv 3) AF) (λ_ _ _ _ _=>(An (i:=0) (show List.Nodup (["first","many","firsts"]:List Str) from #[1]) rfl<|Or.inr rfl)) (λ_ _ _ _ _=>Dg) λ_ _ _ _ _=>(Ce ["place"] (show CompSc (relab (defScope HM) _) ["first","many","firsts"] _ ["first","firsts"] [0,2] from (rfl,#[0],#[0],#[0],rfl,#[0])) rfl (De rfl (mb "range" #[1])<|AB (pv 1) AF) (λ_ _ _ _ _=>(An (i:=0) (show List.Nodup (["place","first","firsts"]:List Str) from #[1]) rfl<|Or.inl rfl)) (λ_ _ _ _ _=>(D5<|BS C0 (Ab (ixK K u) (pv 2) (pv 0) λ_ _=>rfl) (pv 1)<|nomark _)) λ_ _ _ _ _=>(pv 0))),Gs (λG o U=>?_) h);obtain⟨n,S,rfl,W,q⟩:=U;sleep 0;have Y:=W.lo;have Z:=W.hi;have a0:=W.len;obtain⟨N,rfl⟩:∃N:Nat,n=(N:Int):=(n.toNat,#[2]);rw[Aq]at q;refine Ae<|FY<|AA rfl<|Eg rfl<|CU<|BW<|CU<|BW<|Ec ?_;refine Ae<|BM<|CZ<|Ob<|AD<|AA rfl<|AK (N,rfl,#[2],_,rfl,?_);have I:(Af N).map (λi:Nat=>D.int (i:Int))=(AG N<|S.take 0).map D.int:=by
  show _=((Af N).map λi:Nat=>(i:Int)).map D.int;rw[Ba];rfl
 rw[I];refine B3 (λM=>∃(x X b c:L2.Slot),M = [.val (A6 (N:Int) S),.val (.int (N:Int)),.val (.tup<|S.map A3),.val (.lst ((AG N S).map D.int)),x,X,b,c]) ?_ ?_
 ·refine DK (DH<|AA rfl (_,rfl,λi M=>∃(x X b c:L2.Slot),M = [.val (A6 (N:Int) S),.val (.int (N:Int)),.val (.tup<|S.map A3),.val (.lst ((AG N<|S.take i).map D.int)),x,X,b,c],(_,_,_,_,rfl),?_,?_))
  ·rintro i d C a ⟨x,X,b,c,rfl⟩
   rw[Ad]at a;cases z:S[i]? with
   |none=>rw[z]at a;cases a
   |some t=>
    rw[z]at a;have a:A3 t=d:=#[10]
    subst a;have T:=W.tie t<|Bd z;have L:=CC N<|S.take i;have m:=Fs (n:=N) z;obtain⟨l,O⟩:∃l,AG N (S.take i)=l:=(_,rfl);rw[O]at L m ⊢;have e:=Hf L T.1 T.2.1;have k:=Hf L T.2.2.1 T.2.2.2;refine Eg rfl<|CU<|BW<|CU<|BW<|Ec ?_;refine Ae<|BM<|Ag<|AD<|AN<|AA rfl<|AA rfl<|Dt e<|AD<|AN<|AA rfl<|AA rfl<|Dt k<|AK<|EI ?_;refine Ae<|BM<|Ag<|AD<|AN<|AA rfl<|AA rfl<|Dt e<|AD<|AN<|AA rfl<|AA rfl<|Dt k<|AK<|EI ?_;refine BM<|DZ #[1]<|Cz<|AA rfl (_,Or.inl rfl,?_,λ_=>true,λd=>match d with|.int g=>.int (if g=hiI (l.getD t.1.toNat 0) (l.getD t.2.toNat 0) then loI (l.getD t.1.toNat 0) (l.getD t.2.toNat 0) else g)|d=>d,λj d a=>?_,?_)
    ·rw[AH];exact small1000 #[2]
    ·rw[Ad]at a
     cases zz:l[j]? with
     |none=>rw[zz]at a;cases a
     |some g=>
      rw[zz]at a;have a:D.int g=d:=#[10]
      subst a;refine Df (rfl,QL<|Be<|AN<|AA rfl<|AA rfl<|DV (_,rfl,?_));show if decide (g=hiI (l.getD t.1.toNat 0) (l.getD t.2.toNat 0))=true then _ else _
      by_cases hg:g=hiI (l.getD t.1.toNat 0) (l.getD t.2.toNat 0)
      ·rw[Au hg]
       refine iteT<|AA rfl (?_,_,rfl);dsimp only;rw[AM hg];rfl
      ·rw[A4 hg]
       refine iteF<|AA rfl (?_,_,rfl);dsimp only;rw[AL hg]
    ·have J:((l.map D.int).filter λ_=>true).map (λd=>match d with|.int g=>D.int (if g=hiI (l.getD t.1.toNat 0) (l.getD t.2.toNat 0) then loI (l.getD t.1.toNat 0) (l.getD t.2.toNat 0) else g)|d=>d)=(AG N<|S.take<|i+1).map D.int:=by
      rw[m,Cd.mpr #[4],Ba];unfold Cu;rw[Ba];rfl
     rw[J];exact(_,_,_,_,rfl)
  ·rintro C ⟨x,X,b,c,rfl⟩
   rw[AH,CP];exact(_,_,_,_,rfl)
 rintro M1 ⟨x,X,b,c,rfl⟩;have L:=CC N S;refine Gk<|Hn #[1]<|Cz<|CZ<|OV<|AD<|AA rfl<|AK (_,rfl,#[2],λB v y=>(_,rfl,_,Or.inl rfl,?_,λ_=>true,λd=>match d with|.int g=>lstI (Aa (AG N S) N g)|d=>d,λi d a=>?_,?_))
 ·have:=Bw.len (v,y)
  rw[AH];exact small1000 #[2]
 ·rw[Ad]at a
  cases zz:B[i]? with
  |none=>rw[zz]at a;cases a
  |some g=>
   rw[zz]at a;have a:D.int g=d:=#[10]
   subst a;refine Df (rfl,DZ #[1]<|Dd<|AD<|AA rfl<|AK (_,rfl,#[2],#[2],?_,λd=>match d with|.int p=>decide ((AG N S).getD p.toNat 0=g)|_=>false,λd=>d,λj d a=>?_,?_))
   ·rw[Ca];exact small1000 #[2]
   ·obtain⟨hj,rfl⟩:=DF a
    refine Be<|AN<|AN<|AA rfl<|AA rfl<|Dt (Hf L #[2] #[2])<|AA rfl<|DV (_,rfl,rfl,?_);split
    ·exact AA rfl (rfl,_,rfl)
    ·exact(_,rfl)
   ·refine(?_,_,rfl)
    rw[Aq];exact Rw _ _ _ _ (λ_=>rfl) _ λ_=>rfl
 ·refine(_,rfl,?_)
  rw[Zyf (l:=AG N S) (n:=N) _ (λ_=>rfl) _ λ_=>rfl];exact q B (v,y)
end
def Dm (l:List Int) (h lo:Int) (k:Nat):List Int:=(l.take k).map (λf=>if f=h then lo else f)++l.drop k
theorem Mq (l:List Int) (h lo:Int) (k:Nat):(Dm l h lo k).length=l.length:=by
 unfold Dm;rw[A1,AH,Bn,DR];lia
theorem Wr (j:k<l.length):(Dm l h lo k)[k]?=some l[k]:=by
 unfold Dm;rw[Ci (by rw[AH,Bn];lia),AH,Bn,IZ (CM j),HL,HG];exact AS j
theorem Va (z:k<l.length):Dm l h lo (k+1)=(Dm l h lo k).set k (if l[k]=h then lo else l[k]):=by
 apply Dz;intro j;rw[GF,Mq];unfold Dm;rcases L5 j k with J|J|J
 ·rw[AL #[2],Dp (by rw[AH,Bn];lia),Dp (by rw[AH,Bn];lia),Ad,Ad,Jz,Jz,AM #[2],AM #[3]]
 ·subst J
  rw[AM rfl,AM z,Dp (by rw[AH,Bn];lia),Ad,Jz,AM #[2],AS z];rfl
 ·rw[AL #[2],Ci (by rw[AH,Bn];lia),Ci (by rw[AH,Bn];lia),AH,AH,Bn,Bn,HG,HG]
  congr 1;lia
theorem We:Dm l h lo l.length=l.map λf=>if f=h then lo else f:=by
 unfold Dm;rw[CP,List.drop_length,Bp]
def Le:NSp:=λs t=>∃(N:Nat) (ts:AR) (d:D),s=[.tup [.int (N:Int),d]]/\(d=.tup (ts.map A3)\/d=.lst (ts.map A3))/\AZ (N:Int) ts/\∀ms,Bw ms (AG N ts)->t ((CQ N ts ms).map lstI)
#check 5
theorem Vd (mb:Mb mg) (F:BE K "_law_parts" "_law_parts" KL f fd):FnOk P w K mg base CX0 1 f fd ["_law_web"] (spN K Le):=by
 refine F.ok Fq (Gg λds T h=>#[6]) λa0 A V s H vs Q E hr h=>?_;have u:=BX hr;have hv:=Dw hr;refine(_,(AU (Av (i:=1) Fq.nd rfl (Or.inr rfl)<|Oh rfl rfl (mb "list" #[1]) rfl (mb "range" #[1])<|AB (Ab (ixK K u) (pv 0) AQ λ_ _=>rfl) AF)<|AU (DG PassesOwn.never rfl (seqK K<|Ab (ixK K u) (pv 0) AQ λ_ _=>rfl) (gtupK (n:=2) K rfl<|CB (An (i:=2) Fq.nd rfl<|Or.inl rfl)<|CB (An (i:=3) Fq.nd rfl<|Or.inl rfl) Dr)<|AU (R8 (i:=4) (j:=5) rfl Fq.nd rfl rfl #[1] rfl rfl (AB (Aj (Ko rfl) rfl (mb "min" #[1]) Gn<|AB (Ab (ixK K u) (pv 1) (pv 2) λ_ _=>rfl)<|AB (Ab (ixK K u) (pv 1) (pv 3) λ_ _=>rfl) AF)<|AB (Aj (GV rfl) rfl (mb "max" #[1]) F3<|AB (Ab (ixK K u) (pv 1) (pv 2) λ_ _=>rfl)<|AB (Ab (ixK K u) (pv 1) (pv 3) λ_ _=>rfl) AF) AF) rfl)<|Ah<|DG PassesOwn.never rfl (De rfl (mb "range" #[1])<|AB (Ab (ixK K u) (pv 0) AQ λ_ _=>rfl) AF) (An (i:=6) Fq.nd rfl<|Or.inl rfl)<|Ah<|B8 (BS C0 (Ab (ixK K u) (pv 1) (pv 6) λ_ _=>rfl) (pv 5)<|nomark _) (Ah<|DL (pv 4)<|F1 (pv 1) (pv 6)<|setU u) B7)<|AU (Av (i:=7) Fq.nd rfl (Or.inl rfl)<|Dk AF)<|AU (DG PassesOwn.never rfl (seqK K<|PD rfl rfl rfl (mb "sorted" #[1]) rfl (mb "set" #[1])<|AB (pv 1) AF) (An (i:=8) Fq.nd rfl<|Or.inr rfl)<|Ah<|Du<|bmK K PySem.F.plainAttrs_list PySem.F.slot_list_append PySem.F.type_list_append EY (pv 7)<|AB (Ce ["_law_place"] (show CompSc (defScope KL) ["_law_web","_law_marks","_law_a","_law_b","_law_low","_law_high","_law_place","_law_found","_law_first"] _ ["_law_marks","_law_first"] [1,8] from (rfl,#[0],#[0],#[0],rfl,#[0])) rfl (De rfl (mb "range" #[1])<|AB (Ab (ixK K u) (pv 0) AQ λ_ _=>rfl) AF) (λ_ _ _ _ _=>(An (i:=0) (show List.Nodup (["_law_place","_law_marks","_law_first"]:List Str) from #[1]) rfl<|Or.inl rfl)) (λ_ _ _ _ _=>(D5<|BS C0 (Ab (ixK K u) (pv 1) (pv 0) λ_ _=>rfl) (pv 2)<|nomark _)) λ_ _ _ _ _=>(pv 0)) AF)<|Ah<|A8<|pv 7),Gs (λds T hf=>?_) h);obtain⟨N,S,r,rfl,J,W,q⟩:=hf;sleep 0;have a4:=W.lo;have a5:=W.hi;have a6:=W.len;refine Ae<|DI<|Ob<|AD<|AN<|AA rfl<|AY<|A7 (d:=.int (N:Int)) rfl<|AK (N,rfl,#[2],?_);have e0:(Af N).map (λi:Nat=>D.int (i:Int))=(AG N<|S.take 0).map D.int:=by
  show _=((Af N).map λi:Nat=>(i:Int)).map D.int;rw[Ba];rfl
 rw[e0];refine B3 (λM=>∃(b c e o X:L2.Slot),M = [.val (.tup [.int (N:Int),r]),.own (.lst ((AG N S).map D.int)),b,c,e,o,X,.any,.any]) ?_ ?_
 ·refine DK (Zu8 J<|AN<|AA rfl<|AY<|A7 (d:=r) rfl (rfl,λi M=>∃(b c e o X:L2.Slot),M = [.val (.tup [.int (N:Int),r]),.own (.lst ((AG N<|S.take i).map D.int)),b,c,e,o,X,.any,.any],(_,_,_,_,_,rfl),?_,?_))
  ·rintro i d C a ⟨b,c,e,o,X,rfl⟩
   rw[Ad]at a;cases z:S[i]? with
   |none=>rw[z]at a;cases a
   |some t=>
    rw[z]at a;have a:A3 t=d:=#[10]
    subst a;have B:=W.tie t<|Bd z;have L:=CC N<|S.take i;have hs:=Fs (n:=N) z;obtain⟨l,el⟩:∃l,AG N (S.take i)=l:=(_,rfl);rw[el]at L hs ⊢;have Y:=Hf L B.1 B.2.1;have Z:=Hf L B.2.2.1 B.2.2.2;refine Eg rfl<|CU<|BW<|CU<|BW<|Ec ?_;refine Ae<|Nu<|AD<|Ag<|AD<|Fz rfl rfl<|AA rfl (_,_,_,_,rfl,rfl,rfl,Y,AD<|Fz rfl rfl<|AA rfl (_,_,_,_,rfl,rfl,rfl,Z,AK<|EI ?_));refine AD<|Ag<|AD<|Fz rfl rfl<|AA rfl (_,_,_,_,rfl,rfl,rfl,Y,AD<|Fz rfl rfl<|AA rfl (_,_,_,_,rfl,rfl,rfl,Z,AK<|EI<|AK (_,_,rfl,?_)));obtain⟨lo,O⟩:∃lo,loI (l.getD t.1.toNat 0) (l.getD t.2.toNat 0)=lo:=(_,rfl);obtain⟨I,v⟩:∃I,hiI (l.getD t.1.toNat 0) (l.getD t.2.toNat 0)=I:=(_,rfl);refine DK<|Dd<|AD<|AN<|AA rfl<|AY<|A7 (d:=.int (N:Int)) rfl<|AK (_,rfl,#[2],#[2],λk M=>∃X:L2.Slot,M = [.val (.tup [.int (N:Int),r]),.own (.lst ((Dm l I lo k).map D.int)),.val (.int t.1),.val (.int t.2),.val (.int lo),.val (.int I),X,.any,.any],(X,?_),?_,?_)
    ·rw[<- O,<- v];rfl
    ·rintro k d M3 a ⟨X,rfl⟩
     rw[Aq]at a;obtain⟨hk,rfl⟩:=DF a;rw[DE];have y:k<l.length:=#[2]
     have hg:=Wr (h:=I) (lo:=lo) y;have G:atI ((Dm l I lo k).map D.int) (k:Int)=some (.int l[k]):=Co (by rw[Ad,hg];rfl);have U:=Va (h:=I) (lo:=lo) y;refine BW<|B4<|Be<|AN<|Fz rfl rfl<|AA rfl (_,_,_,_,rfl,rfl,rfl,G,AA rfl<|DV (_,rfl,?_));by_cases hb:l[k]=I
     ·rw[Au hb]
      rw[AM hb]at U;refine iteT<|LC<|AA rfl ((_,_,rfl,rfl),AA rfl (_,_,_,k,rfl,rfl,rfl,?_,.val (.int (k:Int)),?_))
      ·unfold ixN
       rw[AM #[2],AM (by rw[AH,Mq];lia),Aq]
      ·rw[U,Ih];rfl
     ·rw[A4 hb]
      rw[AL hb]at U;refine iteF<|B6 (.val (.int (k:Int)),?_);have:Dm l I lo (k+1)=Dm l I lo k:=by
       rw[U];apply Dz;intro j;rw[GF];split
       ·rename_i hj
        subst hj;rw[AM (by rw[Mq];omega),hg]
       ·rfl
      rw[this];rfl
    ·rintro M3 ⟨X,rfl⟩
     have e2:Dm l I lo (rngD 0 ((N:Int)).toNat).length=AG N (S.take<|i+1):=by
      rw[Ca,Aq,hs];unfold Cu;rw[O,v,<- We,L]
     rw[e2];exact(_,_,_,_,_,rfl)
  ·rintro C ⟨b,c,e,o,X,rfl⟩
   rw[AH,CP];exact(_,_,_,_,_,rfl)
 rintro M1 ⟨b,c,e,o,X,rfl⟩;have L:=CC N S;refine Ae<|DI<|Ed<|AK (#[1],?_);refine B3 (λM=>∃(m:List Int) (x:L2.Slot) (R:AI),Bw m (AG N S) /\ M = [.val (.tup [.int (N:Int),r]),.val (.lst ((AG N S).map D.int)),b,c,e,o,X,.own (.lst ((CQ N S m).map lstI)),x]) ?_ ?_
 ·refine DK (Cz<|CZ<|OV<|AD<|Gi rfl<|AK (_,rfl,#[2],λm m1 m2=>(_,rfl,_,Or.inl rfl,λi M=>∃x:L2.Slot,M = [.val (.tup [.int (N:Int),r]),.val (.lst ((AG N S).map D.int)),b,c,e,o,X,.own (.lst (((CQ N S m).map lstI).take i)),x],(_,rfl),?_,?_)))
  ·rintro i d C a ⟨x,rfl⟩
   have a3:=Bw.len (m1,m2);rw[Ad]at a;cases zz:m[i]? with
   |none=>rw[zz]at a;cases a
   |some g=>
    rw[zz]at a;have a:D.int g=d:=#[10]
    subst a;refine BW<|F5 rfl rfl<|DZ #[1]<|Dd<|AD<|AN<|AA rfl<|AY<|A7 (d:=.int (N:Int)) rfl<|AK (_,rfl,#[2],#[2],?_,λd=>match d with|.int p=>decide ((AG N S).getD p.toNat 0=g)|_=>false,λd=>d,λj d a=>?_,?_)
    ·rw[Ca];exact small1000 #[2]
    ·obtain⟨hj,rfl⟩:=DF a
     refine Be<|AN<|AN<|AA rfl<|AA rfl<|Dt (Hf L #[2] #[2])<|AA rfl<|DV (_,rfl,rfl,?_);split
     ·exact AA rfl (rfl,_,rfl)
     ·exact(_,rfl)
    ·rw[Aq,Rw _ _ _ _ (λ_=>rfl) _ λ_=>rfl]
     refine(_,_,rfl,rfl,?_,?_)
     ·rw[Bn];exact small1000 (by unfold CQ;rw[AH,AH];lia)
     have e1:((CQ N S m).map lstI).take (i+1)=((CQ N S m).map lstI).take i++[lstI (Aa (AG N S) N g)]:=by
      unfold CQ;rw[Cy,Ad,Ad,zz];rfl
     dsimp only;rw[e1];exact(_,rfl)
  ·rintro C ⟨x,rfl⟩
   refine(m,x,[],(m1,m2),?_);rw[GI (by unfold CQ;rw[AH,AH,AH];exact AX _)]
 rintro M1 ⟨m,x,_,hm,rfl⟩;exact Gk<|Sl rfl (_,rfl,q m hm)
def fRank:DSp:=λs t=>∃(N:Nat) (ts:AR),s=[A6 (N:Int) ts]/\AZ (N:Int) ts/\∀ms,Bw ms (AG N ts)->t (.int ((ts.length:Int)-(N:Int)+(ms.length:Int)))
theorem Zxl (z:Mb mg) (j:Callee P w K mg base 1 "parts_of" ["web"] (spN K Jo)) (F:BE K "rank_of" "rank_of" MA f fd):FnOk P w K mg base CX0 2 f fd ["web"] (spD K fRank):=by
 refine F.ok MQ (Bt λd t h=>#[11]) λv A r s H V Q E R h=>?_;have u:=BX R;refine(_,(AU (DL (pv 0)<|gtupK (n:=2) K rfl<|CB (An (i:=1) MQ.nd rfl<|Or.inl rfl)<|CB (An (i:=2) MQ.nd rfl<|Or.inl rfl) Dr)<|Ah<|A8<|Ac (addK K) (Ac Dv (Aj (lenK K) rfl (z "len" #[1]) BN<|AB (pv 2) AF)<|pv 1)<|Aj (lenK K) rfl (z "len" #[1]) BN<|AB (Am j (R.mono #[1])<|AB (pv 0) AF) AF),Bu (λd t a=>?_) h);obtain⟨N,S,rfl,W,q⟩:=a;sleep 0;refine Ae<|FY<|AA rfl<|Eg rfl<|CU<|BW<|CU<|BW<|Ec ?_;refine BK<|AN<|AN<|Ag<|AD<|AA rfl<|AK<|Bg (Or.inr rfl)<|AA rfl<|EJ<|Ag<|AD<|CZ<|EG<|AD<|AA rfl<|AK (_,S,rfl,W,λm M=>(_,rfl,?_));rw[Aq]at M ⊢;refine AK<|Bg (Or.inl rfl)<|Cn ?_;rw[AH,AH,show (CQ N S m).length=m.length from AH _];exact q m M
def unI:D->List Int
 |.lst ds=>ds.map λd=>match d with|.int i=>i|_=>0
 |_=>[]
theorem Rk (r:List Int):unI (lstI r)=r:=by
 unfold unI lstI;dsimp only;rw[Ba]
 conv=>rhs;rw[<- IY r]
 apply Dq;intro i _;rfl
def Lg:D->Bool
 |.int _=>true
 |_=>false
def Dy (m:Nat):D->Bool
 |.int i=>decide (0<=i/\i<(m:Int))
 |_=>false
theorem Zx5 (j:Dy m d=true):∃t:Nat,d=.int (t:Int)/\t<m:=by
 cases d with
 |int i=>have z:=of_decide_eq_true j;exact(i.toNat,by rw[FQ z.1],(Int.toNat_lt z.1).mpr z.2)
 |_=>cases j
def fIsWX:DSp:=λs t=>∃d T,s=[d]/\tyD d=some T/\t (.bl<|Lg d)
def OH:DSp:=λs t=>∃n ts d T,s=[A6 n ts,d]/\tyD d=some T/\t (.bl<|Dy ts.length d)
theorem Zzq (j:Mb mg) (F:BE K "is_whole" "is_whole" KO f fd):FnOk P w K mg base CX0 1 f fd ["thing"] (spD K fIsWX):=by
 refine F.ok OT (Bt λS t h=>#[11]) λv A r s H V Q E R h=>?_;have u:=BX R;refine(_,(Ah<|A8<|Hs (Aj (isiUK K) rfl (j "isinstance" #[1]) FW<|AB (pv 0)<|AB (E6 rfl (j "int" #[1]) Rv (show RelV (.ty "int") _ from rfl)) AF)<|Jg<|Ry<|Aj (isiUK K) rfl (j "isinstance" #[1]) FW<|AB (pv 0)<|AB (E6 rfl (j "bool" #[1]) RF (show RelV (.ty "bool") _ from rfl)) AF),Bu (λS t c=>?_) h);obtain⟨d,T,rfl,a,q⟩:=c;refine(#[4],?_);dsimp only[startD,BV,BJ,BQ];cases d with
 |int i=>
  refine BK<|Ds<|Ag<|AD<|AA rfl<|AD<|Ct<|AK<|Cf (T:="int") (b:=true) rfl (λ_=>by rfl) (_,rfl,?_);rw[AM rfl];exact LQ<|Ag<|AD<|AA rfl<|AD<|Ct<|AK<|Cf (T:="int") (b:=false) rfl (λ_=>by rfl) (_,rfl,q)
 |bl b=>
  refine BK<|Ds<|Ag<|AD<|AA rfl<|AD<|Ct<|AK<|Cf (T:="bool") (b:=true) rfl (λ_=>by rfl) (_,rfl,?_);rw[AM rfl];exact LQ<|Ag<|AD<|AA rfl<|AD<|Ct<|AK<|Cf (T:="bool") (b:=true) rfl (λ_=>by rfl) (_,rfl,q)
 |non=>exact BK (Ds (Ag (AD (AA rfl (AD (Ct (AK (Cf (T:="NoneType") (b:=false) rfl (λ_=>by rfl) (_,rfl,iteF q)))))))))
 |str x=>exact BK (Ds (Ag (AD (AA rfl (AD (Ct (AK (Cf (T:="str") (b:=false) rfl (λ_=>by rfl) (_,rfl,iteF q)))))))))
 |tup l=>exact BK (Ds (Ag (AD (AA rfl (AD (Ct (AK (Cf (T:="tuple") (b:=false) rfl (λ_=>by rfl) (_,rfl,iteF q)))))))))
 |lst l=>exact BK (Ds (Ag (AD (AA rfl (AD (Ct (AK (Cf (T:="list") (b:=false) rfl (λ_=>by rfl) (_,rfl,iteF q)))))))))
 |dct k l=>exact BK (Ds (Ag (AD (AA rfl (AD (Ct (AK (Cf (T:="dict") (b:=false) rfl (λ_=>by rfl) (_,rfl,iteF q)))))))))
 |_=>cases a
theorem WZ (J:Mb mg) (j:Callee P w K mg base 1 "is_whole" ["thing"] (spD K fIsWX)) (F:BE K "is_tie" "is_tie" L8 f fd):FnOk P w K mg base CX0 2 f fd ["web","tie"] (spD K OH):=by
 refine F.ok SR (Bt λD t h=>#[7]) λv A r s H V Q E R h=>?_;have u:=BX R;refine(_,(Ah<|A8<|Hs (Am j (R.mono #[1])<|AB (pv 1) AF)<|Jg<|Q6 N8 Gu AQ (pv 1)<|Aj (lenK K) rfl (J "len" #[1]) BN<|AB (Ab (ixK K u) (pv 0) AQ λ_ _=>rfl) AF),Bu (λD t b=>?_) h);obtain⟨n,S,d,T,rfl,a,q⟩:=b;refine(#[4],?_);dsimp only[startD,BV,BJ,BQ];refine BK<|Ds<|BR<|AD<|AA rfl<|AK (d,T,rfl,a,_,rfl,?_);cases d with
 |int i=>
  refine iteT<|NC<|AY<|AA rfl<|DU (_,rfl,ite2 (λz=>?_) λz=>?_)
  ·have z:(0:Int)<=i:=of_decide_eq_true z
   refine Ag<|AD<|AN<|AA rfl<|AY<|A7 (Ee n S)<|AK<|Bg (Or.inr rfl) ?_;rw[AH];refine DU ?_;rw[show decide (i<(S.length:Int))=Dy S.length (.int i) from decide_eq_decide.mpr (λh=>(z,h),λh=>h.2)];exact q
  ·have z:¬ (0:Int)<=i:=of_decide_eq_false (FR.mpr z)
   rw[show Dy S.length (.int i)=false from A4 λh=>z h.1]at q;exact q
 |_=>exact iteF q
def OneP (N:Nat) (ts:AR):Prop:=∀ms,Bw ms (AG N ts)->ms.length<=1
def mk (N:Nat) (ts:AR) (p:Int):Int:=(AG N ts).getD p.toNat 0
theorem Nm {N:Nat}(hW:AZ (N:Int) ts) {g:Int->Int}(j:∀t∈ts,g t.1=g t.2) (z:0<=p) (J:p<(N:Int)):g (mk N ts p)=g p:=by
 have:=Hi (S:=λx=>decide (g x=g p)) hW ⟨λt h=>by rw[j t h]⟩ ts.length (AX _) p.toNat #[2];rw[CP,show ((p.toNat:Nat):Int)=p by lia,Au rfl]at this;exact of_decide_eq_true this
theorem Rq {N:Nat}(hW:AZ (N:Int) ts) {g:Int->Int}(j:∀t∈ts,g t.1=g t.2) (z:0<=p) (J:p<(N:Int)) (L:0<=q) (O:q<(N:Int)) (h:mk N ts p=mk N ts q):g p=g q:=by
 rw[<- Nm hW j z J,<- Nm hW j L O,h]
theorem LU {N:Nat}(hW:AZ (N:Int) ts) (ht:t∈ts):mk N ts t.1=mk N ts t.2:=K2 hW ht
theorem Hv {N:Nat}(j:0<=p) (z:p<(N:Int)):mk N ts p∈AG N ts:=Gq (by rw[CC];omega)
theorem Zvy {N:Nat}(hW:AZ (N:Int) ts) (h:∀k:Nat,k+1<N->∃t∈ts,∃j:Nat,j<=k/\(t=((j:Int),(k:Int)+1)\/t=((k:Int)+1,(j:Int)))):OneP N ts:=by
 have L:∀p:Nat,p<N->mk N ts (p:Int)=mk N ts 0:=by
  intro p
  induction p using Nat.strongRecOn with
  |_ p ih=>
   intro hp;cases p with
   |zero=>rfl
   |succ k=>
    obtain⟨t,T,j,J,e⟩:=h k hp;have m:=LU hW T;have K:((k+1:Nat):Int)=(k:Int)+1:=#[2]
    rw[K];rcases e with rfl|rfl
    ·exact m.symm.trans (ih j #[2] #[2])
    ·exact m.trans (ih j #[3] #[3])
 intro ms hm
 match ms,hm with
 |[],_=>exact CS _
 |[a],_=>exact AX _
 |a::b::r,hm=>
  exfalso
  have n:∀x∈a::b::r,x=mk N ts 0:=λx X=>by
   have:=(hm.2 x).mp X;obtain⟨i,I⟩:=ER.mp this;have H:=(BZ.mp I).1;rw[CC]at H;have:=L i H;unfold mk at this ⊢;rw[Aq,Al,I]at this;exact this
  have s:=hm.1;rw[IW]at s;have l:=s.1 b Bk;have E:=n a Bk;have c:=n b<|Bs _ Bk;lia
end
def fOne25:BSp:=λp s t=>Bm p/\s=[.int 25,.int 24]/\∀(N:Nat) (ts:AR) ps',Bm ps' -> AZ (N:Int) ts->OneP N ts->t (A6 (N:Int) ts) ps'
def o5St (ps:List D) (n m j:Int) (r:List L2.Slot):AI:=.bor (.lst ps)::.val (.int 25)::.val (.int 24)::.val (.int n)::.val (.int m)::.val (.int j)::r
def HgL (n:Int) (i:Nat) (ts:AR):Prop:=(∀t∈ts,0<=t.1/\t.1<n/\0<=t.2/\t.2<n)/\∀k:Nat,k<i->∃t∈ts,∃j:Nat,j<=k/\(t=((j:Int),(k:Int)+1)\/t=((k:Int)+1,(j:Int)))
theorem Ng {α:Type}{l:List α}{x y:α}(j:Nat):y∈l.take j++x::l.drop j↔y=x\/y∈l:=by
 rw[Bo,Az]
 conv=>rhs;rw[<- En j l,Bo]
 constructor
 ·rintro(h|h|h)
  ·exact .inr (.inl h)
  ·exact .inl h
  ·exact .inr (.inr h)
 ·rintro(h|h|h)
  ·exact .inr (.inl h)
  ·exact .inl h
  ·exact .inr (.inr h)
theorem Q9 (h:HgL n i ts) (U:0<=u) (J:u<n) (L:0<=v) (O:v<n) (c:i'=i\/i'=i+1/\∃j:Nat,j<=i/\(((u,v):_×_)=(((j:Int),(i:Int)+1):_×_)\/((u,v):_×_)=(((i:Int)+1,(j:Int)):_×_))) (j:Nat):HgL n i' (ts.take j++(u,v)::ts.drop j):=by
 refine(λt T=>?_,λk K=>?_)
 ·rcases(Ng j).mp T with rfl|T
  ·exact(U,J,L,O)
  ·exact h.1 t T
 ·by_cases z:k<i
  ·obtain⟨t,T,e⟩:=h.2 k z
   exact(t,(Ng j).mpr (.inr T),e)
  ·rcases c with c|⟨c,g,G,e⟩
   ·lia
   ·have:k=i:=by lia
    subst this;exact((u,v),(Ng j).mpr (.inl rfl),g,G,e)
def o5L (n m z:Int) (i l:Nat) (J j:L2.Slot):AI->Prop:=λM=>∃(ps:List D) (ts:AR) (x7 x8:L2.Slot),Bm ps/\ts.length=l/\HgL n i ts /\ M = o5St ps n m z [.own (.lst<|ts.map A3),x7,x8,J,j]
#check 5
theorem Sz (mb:Mb mg) (c4:Callee P w K mg base 1 "_law_draw" ["_law_pen_here","_law_many"] (spB K GD)) (F:BE K "_law_one" "_law_one" MM f fd):FnOk P w K mg base CX0 2 f fd ["_law_pen_here","_law_places","_law_ties"] (spB K fOne25):=by
 refine F.ok D3 (LJ λJ ds T h=>by obtain⟨_,rfl,_⟩:=h;rfl) λb8 A b4 s H vs Q E R h=>?_;have hu:=BX R;refine(_,(AU (Av (i:=3) D3.nd rfl (Or.inl rfl)<|Ac (addK K) AQ<|Am c4 (R.mono #[1])<|AB (pv 0)<|AB (pv 1) AF)<|AU (Av (i:=4) D3.nd rfl (Or.inl rfl)<|Am c4 (R.mono #[1])<|AB (pv 0)<|AB (Aj (GV rfl) rfl (mb "max" #[1]) F3<|AB AQ<|AB (Ac (addK K) (Ac Dv (pv 2)<|pv 3) AQ) AF) AF)<|AU (Av (i:=5) D3.nd rfl (Or.inl rfl)<|Am c4 (R.mono #[1])<|AB (pv 0)<|AB AQ AF)<|AU (B8 (PW.pt<|pw_and (BS C0 (pv 5) AQ<|nomark _)<|pw_and1<|BS C0 (Am c4 (R.mono #[1])<|AB (pv 0)<|AB AQ AF) AQ<|nomark _) (AU (Av (i:=3) D3.nd rfl (Or.inl rfl)<|pv 1)<|Ah<|Av (i:=4) D3.nd rfl (Or.inl rfl)<|Aj (GV rfl) rfl (mb "max" #[1]) F3<|AB AQ<|AB (Ac (addK K) (Ac Dv (pv 2)<|pv 3) AQ) AF) B7)<|AU (Av (i:=6) D3.nd rfl (Or.inl rfl)<|Dk AF)<|AU (DG PassesOwn.never rfl (Vv rfl (mb "range" #[1])<|AB AQ<|AB (pv 3) AF) (An (i:=7) D3.nd rfl<|Or.inl rfl)<|AU (Av (i:=8) D3.nd rfl (Or.inl rfl)<|Ab (ixK K hu) (Dk<|AB (Am c4 (R.mono #[1])<|AB (pv 0)<|AB (pv 7) AF)<|AB (Ac Dv (pv 7) AQ)<|AB AQ<|AB (Aj (GV rfl) rfl (mb "max" #[1]) F3<|AB AQ<|AB (Ac Dv (Ac Dv (pv 7) AQ)<|Am c4 (R.mono #[1])<|AB (pv 0)<|AB AQ AF) AF) AF) (pv 5) λ_ _=>rfl)<|Ah<|Du<|bmK K PySem.F.plainAttrs_list PySem.F.slot_list_insert PySem.F.type_list_insert Ku (pv 6)<|AB (Am c4 (R.mono #[1])<|AB (pv 0)<|AB (Ac (addK K) (Aj (lenK K) rfl (mb "len" #[1]) BN<|AB (pv 6) AF) AQ) AF)<|AB (Ab (ixK K hu) (Dk<|AB (CG<|AB (pv 7)<|AB (pv 8) AF)<|AB (CG<|AB (pv 8)<|AB (pv 7) AF) AF) (Am c4 (R.mono #[1])<|AB (pv 0)<|AB AQ AF) λ_ _=>rfl) AF)<|AU (DG PassesOwn.never rfl (De rfl (mb "range" #[1])<|AB (pv 4) AF) (An (i:=7) D3.nd rfl<|Or.inl rfl)<|AU (R8 (i:=9) (j:=10) rfl D3.nd rfl rfl #[1] rfl rfl (AB (Am c4 (R.mono #[1])<|AB (pv 0)<|AB (pv 3) AF)<|AB (Am c4 (R.mono #[1])<|AB (pv 0)<|AB (pv 3) AF) AF) rfl)<|AU (B8 (PW.pt<|pw_and (BS C0 (pv 5) AQ<|nomark _)<|pw_and1<|BS C0 (Ac DM (pv 7) AQ) AQ<|nomark _) (Ah<|Av (i:=10) D3.nd rfl (Or.inl rfl)<|pv 9) B7)<|AU (B8 (BS C0 (pv 5) AQ<|nomark _) (Ah<|Av (i:=10) D3.nd rfl (Or.inl rfl)<|Ac DM (Ac (addK K) (Ac (addK K) (pv 9) AQ)<|Am c4 (R.mono #[1])<|AB (pv 0)<|AB AQ AF)<|pv 3) B7)<|Ah<|Du<|bmK K PySem.F.plainAttrs_list PySem.F.slot_list_insert PySem.F.type_list_insert Ku (pv 6)<|AB (Am c4 (R.mono #[1])<|AB (pv 0)<|AB (Ac (addK K) (Aj (lenK K) rfl (mb "len" #[1]) BN<|AB (pv 6) AF) AQ) AF)<|AB (CG<|AB (pv 9)<|AB (pv 10) AF) AF)<|Ah<|A8<|CG<|AB (pv 3)<|AB (Cp (tupK K) rfl (mb "tuple" #[1]) Cr<|AB (E3 (slK K) (pv 6) FC<|E9<|pv 2) AF) AF),Lb (λJ ds T hf=>?_) h);obtain⟨hp,rfl,q⟩:=hf;refine(#[4],?_);dsimp only[cxOf,startD,BV,BJ,BQ,Ak];refine Ae<|BM<|AN<|AY<|DT rfl rfl<|AD<|AA rfl<|AK (D6 (m:=25) rfl rfl hp #[1] #[1] λr c2 a6 r0 r1=>Cn ?_);have b9:1<=(if 24-(1+r)+2 > 1 then 24-(1+r)+2 else 1)/\(if 24-(1+r)+2 > 1 then 24-(1+r)+2 else 1)<=25-r:=by split <;> lia
 refine Ae<|BM<|DT rfl rfl<|AD<|Ag<|AD<|AY<|AD<|Eh (Dx (Dx (Cs rfl) (Cs rfl) La) Ef LL)<|AK<|EI<|AK (D6 (m:=if 24-(1+r)+2 > 1 then 24-(1+r)+2 else 1) rfl rfl a6 #[3] #[3] λc c3 a7 c0 c1=>?_);refine Ae<|BM (Hw rfl rfl a7 #[1] #[1] λl b5 V s0 s1=>?_);refine B3 (λM=>∃(J:List D) (n m:Int),Bm J/\1<=n/\n<=25/\0<=m/\n-1+m<=24 /\ M = o5St J n m l [.any,.any,.any,.any,.any]) ?_ ?_
 ·refine B4 (FD<|N6 rfl (λ_=>iteT<|Be<|AN (Hw rfl rfl V #[1] #[1] λz y o z0 z1=>AY<|DV (_,rfl,ite2 (λ_=>?_) λ_=>B6 (y,1+r,c,o,#[2],#[2],c0,#[2],rfl)))) λ_=>iteF<|B6 (b5,1+r,c,V,#[2],#[2],c0,#[2],rfl))
  refine Ae<|BM<|AA rfl ?_;exact BM<|Ag<|AD<|AY<|AD<|Eh (Dx (Dx (Cs rfl) (Cs rfl) La) Ef LL)<|AK<|EI (y,25,0,o,#[1],#[1],#[1],#[1],rfl)
 rintro M1 ⟨y,n,m,o,n1,n2,m0,m1,rfl⟩;refine Ae<|DI<|Ed<|AK (#[1],?_);refine B3 (o5L n m l (n-1).toNat (n-1).toNat .any .any) ?_ ?_
 ·refine DK (WO<|AD<|AY<|AD<|AA rfl<|AK (1,n,rfl,#[2],?_))
  refine(λi=>o5L n m l i i .any .any,(y,[],.any,.any,o,rfl,(λ_ h=>(nomatch h),λk hk=>absurd hk<|Nat.not_lt_zero k),rfl),?_,λM2 h=>by rw[Ca]at h;exact h);rintro i d M2 hd ⟨px,t,x7,L,x,hl,G,rfl⟩;obtain⟨hi,rfl⟩:=DF hd;refine BW<|B3 (λM=>∃(J:List D) (g:Nat),Bm J/\g<=i /\ M = o5St J n m l [.own (.lst<|t.map A3),.val (.int (1+(i:Int))),.val (.int (g:Int)),.any,.any]) ?_ ?_
  ·refine BM (AN<|LW<|AD<|DT rfl rfl<|AD<|AA rfl<|AK (D6 (m:=1+(i:Int)) rfl rfl x #[2] #[2] λa pa C Z a1=>?_))
   refine AD<|Eh (Dx (Cs rfl) Ef La)<|AD<|AY<|AD<|Ag<|AD<|AY<|AD<|AN<|Eh (Dx (Cs rfl) Ef La) (Hw rfl rfl C #[1] #[1] λb pb B b0 b1=>EJ<|AK<|EI<|AK ((by show 4<=sizeLine;decide),?_));obtain⟨g,e1,e2⟩:∃g:Nat,atI [D.int a,.int (1+(i:Int)-1),.int 0,.int (if 1+(i:Int)-1-b > 0 then 1+(i:Int)-1-b else 0)] l=some (.int (g:Int))/\g<=i:=by
    rcases(show l=0\/l=1\/l=2\/l=3 by lia) with e|e|e|e <;> subst e
    ·exact(a.toNat,by rw[FQ Z];rfl,#[2])
    ·exact(i,by rw[show 1+(i:Int)-1=(i:Int) by lia];rfl,AX _)
    ·exact(0,rfl,#[2])
    ·have hz:0<=(if 1+(i:Int)-1-b > 0 then 1+(i:Int)-1-b else 0)/\(if 1+(i:Int)-1-b > 0 then 1+(i:Int)-1-b else 0)<=(i:Int):=by split <;> lia
     exact((if 1+(i:Int)-1-b > 0 then 1+(i:Int)-1-b else 0).toNat,by rw[FQ hz.1];rfl,#[2])
   exact AA rfl<|Dt e1 (pb,g,B,e2,rfl)
  rintro M3 ⟨O,g,p,U,rfl⟩;refine Nh rfl rfl<|DT rfl rfl<|AD<|AN<|Hq rfl rfl<|AY<|Cn<|AK ?_;rw[AH];refine D6 (m:=(t.length:Int)+1) rfl rfl p #[2] #[2] λS pf I b6 b7=>?_;refine AN<|Eh (Sm (Fx (N0 (Fx (Cs rfl)<|Fx (Cs rfl) LR) DA)<|Fx (N0 (Fx (Cs rfl)<|Fx (Cs rfl) LR) DA) LR) DA) (Hw rfl rfl I #[1] #[1] λz pg a8 z0 z1=>?_);obtain⟨u,v,e1,u0,u1,v0,v1,e2⟩:∃u v:Int,atI [D.tup [.int (1+(i:Int)),.int (g:Int)],.tup [.int (g:Int),.int (1+(i:Int))]] z=some (A3 (u,v))/\0<=u/\u<n/\0<=v/\v<n/\∃j:Nat,j<=i/\(((u,v):_×_)=(((j:Int),(i:Int)+1):_×_)\/((u,v):_×_)=(((i:Int)+1,(j:Int)):_×_)):=by
   rcases(show z=0\/z=1 by lia) with e|e <;> subst e
   ·exact(1+(i:Int),(g:Int),rfl,#[2],#[2],#[2],#[2],g,U,.inr<|by rw[Int.add_comm])
   ·exact((g:Int),1+(i:Int),rfl,#[3],#[3],#[3],#[3],g,U,.inl<|by rw[Int.add_comm])
  refine Dt e1 (_,S,_,rfl,rfl,rfl,?_,#[2],#[2],?_)
  ·rw[AH];exact small1000 #[2]
  refine(pg,t.take (insI (t.map A3).length S)++(u,v)::t.drop (insI (t.map A3).length S),.val (.int (1+(i:Int))),.val (.int (g:Int)),a8,?_,Q9 G u0 u1 v0 v1 (.inr (rfl,e2)) _,?_)
  ·rw[A1,BI,Bn,DR];lia
  ·rw[A5,BO,Fl,Fm];rfl
 rintro M1 ⟨px,t,x7,L,x,hl,G,rfl⟩;refine B3 (λM=>∃Y X:L2.Slot,o5L n m l (n-1).toNat ((n-1).toNat+m.toNat) Y X M) ?_ ?_
 ·refine DK (Dd<|AD<|AA rfl<|AK (_,rfl,#[2],#[2],?_))
  refine(λi M=>∃Y X:L2.Slot,o5L n m l (n-1).toNat ((n-1).toNat+i) Y X M,(_,_,px,t,x7,L,x,hl,G,rfl),?_,λM2 h=>by rw[Ca]at h;exact h);rintro i d M2 hd ⟨Y,X,px,t,x7,L,x,hl,G,rfl⟩;obtain⟨hi,rfl⟩:=DF hd;refine BW<|Ae<|Nu<|AD<|DT rfl rfl<|AD<|AA rfl<|AK (D6 (m:=n) rfl rfl x n1 #[2] λa pa C Z a1=>?_);refine AD<|DT rfl rfl<|AD<|AA rfl<|AK (D6 (m:=n) rfl rfl C n1 #[2] λb pb B b0 b1=>AK (_,_,rfl,?_));refine B3 (λM=>∃b:Int,0<=b/\b<n /\ M = o5St pb n m l [.own (.lst<|t.map A3),.val (.int (0+(i:Int))),L,.val (.int a),.val (.int b)]) ?_ ?_
  ·refine B4 (FD<|N6 rfl (λ_=>iteT<|Be<|AN<|Eh (Dx (Cs rfl) Ef<|pr_I (by show (0:Int)<2;lia))<|AY<|DV (_,rfl,ite2 (λ_=>?_) λ_=>B6 (b,b0,b1,rfl))) λ_=>iteF<|B6 (b,b0,b1,rfl))
   exact BM<|AA rfl (a,Z,a1,rfl)
  rintro M3 ⟨b2,a2,a3,rfl⟩;refine B3 (λM=>∃(O:List D) (b:Int),Bm O/\0<=b/\b<n /\ M = o5St O n m l [.own (.lst<|t.map A3),.val (.int (0+(i:Int))),L,.val (.int a),.val (.int b)]) ?_ ?_
  ·refine B4 (N6 rfl (λ_=>iteT ?_) λ_=>iteF<|B6 (pb,b2,B,a2,a3,rfl))
   refine BM<|AN<|AN<|Eh (Dx (Cs rfl) Ef LL) (Hw rfl rfl B #[1] #[1] λc O p c0 c1=>Cn<|AA rfl<|jr_I (by show (0:Int)<n;lia) (O,_,p,Ic _ #[2],IX _ #[3],rfl))
  rintro M3 ⟨O,b3,p,a4,a5,rfl⟩;refine Nh rfl rfl<|DT rfl rfl<|AD<|AN<|Hq rfl rfl<|AY<|Cn<|AK ?_;rw[AH];refine D6 (m:=(t.length:Int)+1) rfl rfl p #[2] #[2] λS pf I b6 b7=>?_;refine Eh (N0 (Fx (Cs rfl)<|Fx (Cs rfl) LR) DA) (_,S,_,rfl,rfl,rfl,?_,#[2],#[2],?_)
  ·rw[AH];exact small1000 #[2]
  refine(.val (.int a),.val (.int b3),pf,t.take (insI (t.map A3).length S)++(a,b3)::t.drop (insI (t.map A3).length S),.val (.int (0+(i:Int))),L,I,?_,Q9 G Z a1 a4 a5 (.inl rfl) _,?_)
  ·rw[A1,BI,Bn,DR];omega
  ·rw[A5,BO,Fl,Fm];rfl
 rintro M1 ⟨Y,X,pz,t,x7,L,a9,hl,G,rfl⟩;obtain⟨N,rfl⟩:∃N:Nat,n=(N:Int):=(n.toNat,#[2]);have W:AZ (N:Int) t:=(n1,#[3],#[3],G.1);refine BK<|CL<|AD<|AA rfl<|AD<|Ag<|AD<|FF<|Gi rfl<|E7<|FA<|AA rfl (_,rfl,.lst<|t.map A3,?_,AK<|DS (Or.inl rfl)<|AK (DA,?_))
 ·show some (D.lst<|cutD (t.map A3) none<|some ((24:Nat):Int))=_
  unfold cutD;rw[HT.sIx_nat,HT.sIx_none,Jv,Ik,GI (by rw[AH];omega)]
 refine(_,rfl,q N t _ a9 W (Zvy W λk hk=>G.2 k #[2]))
end
noncomputable def frs (l:List Int):List Int:=Classical.choose<|Ft l
theorem F8 (h:Bw ms l):ms=frs l:=h.uniq<|Classical.choose_spec<|Ft l
def IC:D->Bool
 |.tup _=>true
 |_=>false
def arB (m:Nat):D->Bool
 |.tup ds=>ds.all (Dy m) && decide ((ds.map intD).Pairwise (· < ·))
 |_=>false
def tupI:D->List Int
 |.tup ds=>ds.map intD
 |_=>[]
theorem Qx (h:IC d=true):∃ds,d=.tup ds:=by
 cases d with
 |tup ds=>exact(ds,rfl)
 |_=>cases h
theorem Ro (h:IC d=false):arB m d=false:=by
 cases d with
 |tup ds=>cases h
 |_=>rfl
theorem NL:∀{ds:List D},ds.all (Dy m)=true->ds=(ds.map intD).map D.int
 |[],_=>rfl
 |d::ds,h=>by
  rw[List.all_cons,CT]at h;obtain⟨t,rfl,_⟩:=Zx5 h.1;rw[BO,BO,<- NL h.2];rfl
theorem Zuo {ns ms:List Int}(h1:ms.Pairwise (· < ·)) (h2:∀x,x∈ms↔x∈ns):ns=ms↔ns.Pairwise (· < ·):=(λe=>e ▸ h1,λh=>Fu h h1 λx=>(h2 x).symm)
def BH (ts:AR) (ns:List Int):AR:=(ts.zipIdx.filter λp=>!decide ((p.2:Int)∈ns)).map (·.1)
def rkp (us:AR) (p:List Int):Int:=((us.filter λt=>decide<|t.1∈p).length:Int)-(p.length:Int)+1
noncomputable def oddN (N:Nat) (us:AR):Nat:=((CQ N us<|frs<|AG N us).filter λp=>decide (rkp us p % 2=1)).length
noncomputable def setI (N:Nat) (ts:AR) (ns:List Int):Int:=((ts.length:Int)-(N:Int)+1-((frs<|AG N<|BH ts ns).length:Int)-(oddN N (BH ts ns):Int)+(ns.length:Int)+1) / 2
noncomputable def setV (N:Nat) (ts:AR) (d:D):D:=if (frs<|AG N ts).length<=1/\arB ts.length d=true then .int (setI N ts<|tupI d) else .non
theorem Zvi (h:t∈BH ts ns):t∈ts:=by
 obtain⟨p,P,rfl⟩:=A2.mp h;obtain⟨i,I⟩:=ER.mp (Ao.mp P).1;rw[Jq]at I;cases z:ts[i]? with
 |none=>rw[z]at I;cases I
 |some t'=>
  rw[z]at I;have I:(t',0+i)=p:=by simpa using I
  rw[<- I];exact Bd z
theorem Wh (ts:AR) (ns:List Int):(BH ts ns).length<=ts.length:=by
 unfold BH;rw[AH];exact Ck (GJ _ _) (by rw[Jy];exact AX _)
theorem Mz (hW:AZ n ts) (ns:List Int):AZ n (BH ts ns):=(hW.lo,hW.hi,Ck (Wh ts ns) hW.len,λt h=>hW.tie t<|Zvi h)
def pR (ns:List Int):D->Bool
 |.tup [.int k,_]=>!decide (k∈ns)
 |_=>false
def sndD:D->D
 |.tup [_,d]=>d
 |d=>d
theorem Zzv (ts:AR) (ns:List Int):((enD<|ts.map A3).filter (pR ns)).map sndD=(BH ts ns).map A3:=by
 unfold enD BH;rw[List.zipIdx_map,Ba,DC,Ba,Ba];have e:(pR ns∘((λp:D × Nat=>D.tup [.int (p.2:Int),p.1])∘Prod.map A3 id))=λp:(Int × Int) × Nat=>!decide ((p.2:Int)∈ns):=by
  funext p;rfl
 rw[e];exact Dq λp _=>rfl
def mkz (N:Nat) (ts:AR):Int:=(AG N ts).getD 0 0
theorem Zyj (h:0<N):mkz N ts∈AG N ts:=by
 unfold mkz;rw[Al,AS (by rw[CC];exact h)];exact Br _
structure Lk (d:D):Prop where
 ty:∃T,tyD d=some T
 els:∀ds,d=.tup ds->ds.length<=60/\∀x∈ds,∃T,tyD x=some T
def fAreT:DSp:=λs t=>∃n ts d,s=[A6 n ts,d]/\Lk d/\t (.bl<|arB ts.length d)
def fRkp:DSp:=λs t=>∃us p,s=[.tup (us.map A3),lstI p]/\us.length<=24/\t (.int<|rkp us p)
def fSetB:DSp:=λs t=>∃(N:Nat) (ts:AR) (d:D),s=[A6 (N:Int) ts,d]/\AZ (N:Int) ts/\Lk d/\t (setV N ts d)
def inB (p:List Int):D->Bool
 |.tup [.int a,_]=>decide (a∈p)
 |_=>false
def fstD:D->D
 |.tup [d,_]=>d
 |d=>d
def oddB (us:AR) (d:D):Bool:=decide (rkp us (unI d) % 2=1)
#check 5
theorem Nw (j:tyD d=some T) (p:Pd (.bl<|IC d) M):JC K (rIsiU K) [d,.ty "tuple"] M Pd:=by
 cases d with
 |int i=>exact Cf (T:="int") (b:=false) rfl (λ_=>by rfl) p
 |bl b=>exact Cf (T:="bool") (b:=false) rfl (λ_=>by rfl) p
 |non=>exact Cf (T:="NoneType") (b:=false) rfl (λ_=>by rfl) p
 |str x=>exact Cf (T:="str") (b:=false) rfl (λ_=>by rfl) p
 |tup l=>exact Cf (T:="tuple") (b:=true) rfl (λ_=>by rfl) p
 |lst l=>exact Cf (T:="list") (b:=false) rfl (λ_=>by rfl) p
 |dct k l=>exact Cf (T:="dict") (b:=false) rfl (λ_=>by rfl) p
 |_=>cases j
theorem Zx8 (J:Mb mg) (O:Callee P w K mg base 2 "is_tie" ["web","tie"] (spD K OH)) (F:BE K "are_ties" "are_ties" KQ f fd):FnOk P w K mg base CX0 3 f fd ["web","thing"] (spD K fAreT):=by
 refine F.ok SV (Bt λS o h=>#[6]) λv A u s H B Q E r h=>?_;have U:=BX r;have V:=Dw r;refine(_,(AU (B8 (PW.pt<|pw_or (DJ<|truK K (Aj (isiUK K) rfl (J "isinstance" #[1]) FW<|AB (pv 1)<|AB (E6 rfl (J "tuple" #[1]) Cr (show RelV (.ty "tuple") _ from rfl)) AF) λ_=>rfl)<|pw_or1<|DJ<|truK K (Aj (allK K rfl) rfl (J "all" #[1]) N5<|AB (Ce ["tie"] (show CompSc (defScope KQ) ["web","thing"] _ ["web"] [0] from (rfl,#[0],#[0],#[0],rfl,#[0])) rfl (seqK K<|pv 1) (λ_ _ _ _ _=>(An (i:=0) (show List.Nodup (["tie","web"]:List Str) from #[1]) rfl<|Or.inl rfl)) (λ_ _ _ _ _=>Dg) λ_ _ _ _ _=>(Am O (r.mono #[1])<|AB (pv 1)<|AB (pv 0) AF)) AF) λ_=>rfl) (Ah<|A8 Hx) B7)<|Ah<|A8<|JY (eqILK K V) (Cp (lstK K) rfl (J "list" #[1]) Gj<|AB (pv 1) AF) (U9 rfl rfl rfl (J "sorted" #[1]) rfl (J "set" #[1])<|AB (pv 1) AF)<|nomark _),Bu (λS o y=>?_) h);obtain⟨n,t,d,rfl,g,q⟩:=y;sleep 0;obtain⟨T,m⟩:=g.ty;refine Ae<|B4<|EK<|Cg<|CI<|Ag<|AD<|AA rfl<|AD<|Ct<|AK<|Nw m (_,rfl,?_);cases c:IC d with
 |false=>
  rw[Ro c]at q;exact iteT<|iteT<|BK<|Jk q
 |true=>
  obtain⟨S,rfl⟩:=Qx c;obtain⟨L,p⟩:=g.els S rfl;refine iteF<|Cg<|CI<|Ag<|AD<|DZ #[1]<|DH<|AA rfl (S,rfl,small1000 #[2],λ_=>true,λx=>.bl<|Dy t.length x,λi x X=>?_,?_)
  ·obtain⟨j,a⟩:=p x (Bd X)
   exact Df (rfl,BR<|AD<|AA rfl<|AD<|AA rfl<|AK (n,t,x,j,rfl,a,rfl,_,rfl))
  ·refine AK ?_
   have e:(S.filter λ_=>true).map (λx=>D.bl<|Dy t.length x)=(S.map<|Dy t.length).map D.bl:=by
    rw[Cd.mpr #[4],Ba];rfl
   rw[e];refine Nz (_,rfl,?_);rw[HK];show if (!(S.all<|Dy t.length))=true then _ else _
   cases c2:S.all (Dy t.length) with
   |false=>
    have:arB t.length (.tup S)=false:=by show (S.all _ && _)=false;rw[c2];rfl
    rw[this]at q;exact iteT<|BK<|Jk q
   |true=>
    have b:=NL c2;generalize en:S.map intD=ns at b;subst b;rw[AH]at L;have z:arB t.length (.tup<|ns.map D.int)=decide (ns.Pairwise (· < ·)):=by
     show (List.all _ _ && decide ((BJ intD _).Pairwise _))=_;rw[c2,en];rfl
    rw[z]at q;refine iteF<|B6<|BK<|AN<|Ag<|AD<|AA rfl<|AK<|Je (Or.inr rfl) ?_;refine CZ<|Tt<|AD<|AA rfl<|AK (ns,rfl,#[2],λM k l=>(_,rfl,?_));refine Zyg ?_;rw[decide_eq_decide.mpr (Zuo k l)];exact q
theorem Sr (j:Mb mg) (F:BE K "rank_of_part" "rank_of_part" J8 f fd):FnOk P w K mg base CX0 1 f fd ["ties","part"] (spD K fRkp):=by
 refine F.ok SW (Bt λS o h=>#[11]) λv A r s H V Q E R h=>?_;have U:=BX R;refine(_,(Ah<|A8<|Ac (addK K) (Ac Dv (Aj (lenK K) rfl (j "len" #[1]) BN<|AB (Ce ["a","b"] (show CompSc (defScope J8) ["ties","part"] _ ["part"] [1] from (rfl,#[0],#[0],#[0],rfl,#[0])) rfl (seqK K<|pv 0) (λ_ _ _ _ _=>(gtupK (n:=2) K rfl<|CB (An (i:=0) (show List.Nodup (["a","b","part"]:List Str) from #[1]) rfl<|Or.inl rfl)<|CB (An (i:=1) (show List.Nodup (["a","b","part"]:List Str) from #[1]) rfl<|Or.inl rfl) Dr)) (λ_ _ _ _ _=>(D5<|BS (inK K U) (pv 0) (pv 2) rfl)) λ_ _ _ _ _=>(pv 0)) AF)<|Aj (lenK K) rfl (j "len" #[1]) BN<|AB (pv 1) AF) AQ),Bu (λS o a=>?_) h);obtain⟨u,p,rfl,l,q⟩:=a;sleep 0;refine BK<|AN<|AN<|Ag<|AD<|NN #[1]<|DH<|AA rfl (_,rfl,?_,inB p,fstD,λi d D=>?_,?_)
 ·rw[AH];exact small1000 #[2]
 ·rw[Ad]at D
  cases z:u[i]? with
  |none=>rw[z]at D;cases D
  |some t=>
   rw[z]at D;have D:A3 t=d:=by simpa using D
   subst D;refine(_,_,rfl,Be<|AN<|AA rfl<|AA rfl<|N1 (_,rfl,rfl,?_));exact ite2 (λ_=>AA rfl (rfl,_,_,rfl)) λ_=>(_,_,rfl)
 ·have e:(((u.map A3).filter (inB p)).map fstD).length=(u.filter λt=>decide<|t.1∈p).length:=by
   rw[AH,DC,AH];rfl
  refine AK<|Bg (Or.inl rfl) ?_;rw[e];refine Ag<|AD<|AA rfl<|AK<|Bg (Or.inl rfl) ?_;rw[AH];exact EJ<|AY<|Cn q
theorem Zx3 (mb:Mb mg) (a2:Callee P w K mg base 1 "parts_of" ["web"] (spN K Jo)) (a4:Callee P w K mg base 2 "rank_of" ["web"] (spD K fRank)) (a3:Callee P w K mg base 3 "are_ties" ["web","thing"] (spD K fAreT)) (a5:Callee P w K mg base 1 "rank_of_part" ["ties","part"] (spD K fRkp)) (F:BE K "set_bars" "set_bars" Io f fd):FnOk P w K mg base CX0 4 f fd ["web","paper"] (spD K fSetB):=by
 refine F.ok HS (Bt λS o h=>#[6]) λV A R s H vs Q E r h=>?_;have U:=BX r;have hv:=Dw r;refine(_,(AU (B8 (PW.pt<|pw_or (BS Gw (Aj (lenK K) rfl (mb "len" #[1]) BN<|AB (Am a2 (r.mono #[1])<|AB (pv 0) AF) AF) AQ<|nomark _)<|pw_or1<|DJ<|truK K (Am a3 (r.mono #[1])<|AB (pv 0)<|AB (pv 1) AF) λ_=>rfl) (Ah<|A8 Jf) B7)<|AU (DL (pv 0)<|gtupK (n:=2) K rfl<|CB (An (i:=2) HS.nd rfl<|Or.inl rfl)<|CB (An (i:=3) HS.nd rfl<|Or.inl rfl) Dr)<|AU (Av (i:=4) HS.nd rfl (Or.inr rfl)<|Cp (tupK K) rfl (mb "tuple" #[1]) Cr<|AB (Ce ["tie","pair"] (show CompSc (defScope Io) ["web","paper","many","ties","rest","parts","odd"] _ ["paper"] [1] from (rfl,#[0],#[0],#[0],rfl,#[0])) rfl (Oj K rfl (mb "enumerate" #[1])<|AB (pv 3) AF) (λ_ _ _ _ _=>(gtupK (n:=2) K rfl<|CB (An (i:=0) (show List.Nodup (["tie","pair","paper"]:List Str) from #[1]) rfl<|Or.inl rfl)<|CB (An (i:=1) (show List.Nodup (["tie","pair","paper"]:List Str) from #[1]) rfl<|Or.inl rfl) Dr)) (λ_ _ _ _ _=>(D5<|BS (notinK K U) (pv 0) (pv 2) rfl)) λ_ _ _ _ _=>(pv 1)) AF)<|AU (Av (i:=5) HS.nd rfl (Or.inl rfl)<|Am a2 (r.mono #[1])<|AB (CG<|AB (pv 2)<|AB (pv 4) AF) AF)<|AU (GZ (i:=6) ["part"] (show CompSc (defScope Io) ["web","paper","many","ties","rest","parts","odd"] _ ["rest"] [4] from (rfl,#[0],#[0],#[0],rfl,#[0])) rfl HS.nd rfl (Or.inl rfl) (seqK K<|pv 5) (λ_ _ _ _ _=>(An (i:=0) (show List.Nodup (["part","rest"]:List Str) from #[1]) rfl<|Or.inl rfl)) (λ_ _ _ _ _=>(D5<|BS C0 (Ac DM (Am a5 (r.mono #[1])<|AB (pv 1)<|AB (pv 0) AF) AQ) AQ<|nomark _)) λ_ _ _ _ _=>(pv 0))<|Ah<|A8<|Ac Jb (Ac (addK K) (Ac (addK K) (Ac Dv (Ac Dv (Am a4 (r.mono #[1])<|AB (pv 0) AF)<|Aj (lenK K) rfl (mb "len" #[1]) BN<|AB (pv 5) AF)<|Aj (lenK K) rfl (mb "len" #[1]) BN<|AB (pv 6) AF)<|Aj (lenK K) rfl (mb "len" #[1]) BN<|AB (pv 1) AF) AQ) AQ),Bu (λS o O=>?_) h);obtain⟨N,t,d,rfl,W,a,q⟩:=O;sleep 0;have Z:=W.hi;have L:=W.len;refine Ae<|B4<|EK<|Be<|AN<|Ag<|AD<|CZ<|EG<|AD<|AA rfl<|AK (_,t,rfl,W,λx j=>(_,rfl,?_));rw[Aq]at j ⊢;refine AK<|Bg (Or.inl rfl)<|AY<|DU (_,rfl,?_);have k:=j;rw[F8 j]at k;rw[AH,show (CQ N t x).length=x.length from AH _,F8 j];by_cases c:(frs<|AG N t).length<=1
 rotate_left
 ·rw[Au (show ((frs<|AG N t).length:Int) > 1 by lia)]
  have:setV N t d=.non:=AL λz=>c z.1;rw[this]at q;exact iteT<|iteT<|BK<|Ji q
 rw[A4 (show ¬ ((frs<|AG N t).length:Int) > 1 by lia)];refine iteF<|Cg<|CI<|BR<|AD<|AA rfl<|AD<|AA rfl<|AK (_,t,d,rfl,a,_,rfl,?_);cases c2:arB t.length d with
 |false=>
  have:setV N t d=.non:=AL λz=>by rw[c2]at z;cases z.2
  rw[this]at q;exact iteT<|BK<|Ji q
 |true=>
  have B:setV N t d=.int (setI N t<|tupI d):=AM (c,c2);rw[B]at q;obtain⟨S,rfl⟩:∃S,d=.tup S:=by
   cases z:IC d with
   |false=>rw[Ro z]at c2;cases c2
   |true=>exact Qx z
  obtain⟨T,_⟩:=a.els S rfl;have C:S.all (Dy t.length)=true:=by
   have:(S.all (Dy t.length) && _)=true:=c2;rw[CT]at this;exact this.1
  have v:=NL C;have J:tupI (.tup S)=S.map intD:=rfl;rw[J]at q;generalize S.map intD=ns at v q;subst v;rw[AH]at T;refine iteF<|B6<|Ae<|FY<|AA rfl<|Eg rfl<|CU<|BW<|CU<|BW<|Ec ?_;refine B3 (λM=>M = [.val (A6 (N:Int) t),.val (.tup<|ns.map D.int),.val (.int (N:Int)),.val (.tup<|t.map A3),.val (.tup ((BH t ns).map A3)),.any,.any]) ?_ ?_
  ·refine BM (Ag<|AD<|NN #[1]<|RK<|AD<|AA rfl<|AK (_,Or.inr rfl,?_,pR ns,sndD,λi d a=>?_,?_))
   ·rw[LF,AH];exact small1000 #[2]
   ·obtain⟨e,he,rfl⟩:=LG a
    refine(_,_,rfl,Be<|AN<|AA rfl<|AA rfl<|Nv (_,rfl,rfl,?_));exact ite2 (λ_=>AA rfl (rfl,_,_,rfl)) λ_=>(_,_,rfl)
   ·rw[Zzv]
    exact AK<|DS (Or.inl rfl) rfl
  rintro y rfl;have b:=Mz W ns;have Y:=b.len;refine Ae<|BM<|CZ<|EG<|AD<|CL<|AD<|AA rfl<|AD<|AA rfl<|AK (DA,AK (_,BH t ns,rfl,b,λX m=>(_,rfl,?_)));rw[Aq]at m ⊢;have l:=m.len;rw[CC]at l;have G:=F8 m;subst G;refine B3 (λM=>M = [.val (A6 (N:Int) t),.val (.tup<|ns.map D.int),.val (.int (N:Int)),.val (.tup<|t.map A3),.val (.tup ((BH t ns).map A3)),.val (.lst ((CQ N (BH t ns)<|frs<|AG N<|BH t ns).map lstI)),.val (.lst (((CQ N (BH t ns)<|frs<|AG N<|BH t ns).filter λp=>decide (rkp (BH t ns) p % 2=1)).map lstI))]) ?_ ?_
  ·refine BM (DZ #[1]<|Cz<|AA rfl (_,Or.inl rfl,?_,oddB<|BH t ns,λd=>d,λi d a=>?_,?_))
   ·rw[AH,show (CQ N (BH t ns)<|frs<|AG N<|BH t ns).length=(frs<|AG N<|BH t ns).length from AH _];exact small1000 #[2]
   ·rw[Ad]at a
    cases z:(CQ N (BH t ns)<|frs<|AG N<|BH t ns)[i]? with
    |none=>rw[z]at a;cases a
    |some p=>
     rw[z]at a;have a:lstI p=d:=#[10]
     subst a;refine Be<|AN<|AN<|BR<|AD<|AA rfl<|AD<|AA rfl<|AK (_,p,rfl,Y,AY<|jr_I (by show (0:Int)<2;lia)<|AY<|DV (_,rfl,?_,?_))
     ·show _=decide (rkp (BH t ns) (unI<|lstI p) % 2=1)
      rw[Rk]
     ·exact ite2 (λ_=>AA rfl (rfl,_,rfl)) λ_=>(_,rfl)
   ·rw[DC,Ij]
    have:(oddB (BH t ns)∘lstI)=λp=>decide (rkp (BH t ns) p % 2=1):=by
     funext p
     show decide (rkp (BH t ns) (unI<|lstI p) % 2=1)=_;rw[Rk]
    rw[this];rfl
  rintro y rfl;refine BK<|AN<|AN<|AN<|AN<|AN<|BR<|AD<|AA rfl<|AK (N,t,rfl,W,λu g=>?_);have I:u.length=1:=by
   have:=F8 g;subst this;have h:=W.lo;have:mkz N t∈frs (AG N t):=(g.2 _).mpr (Zyj #[2]);have:=El this;lia
  rw[I];refine Ag<|AD<|AA rfl<|AK<|Bg (Or.inl rfl)<|EJ ?_;refine Ag<|AD<|AA rfl<|AK<|Bg (Or.inl rfl)<|EJ ?_;refine Ag<|AD<|AA rfl<|AK<|Bg (Or.inr rfl)<|Cn<|AY<|Cn<|AY<|jr_I (#[1],#[1]) ?_;rw[AH,AH,AH,show (CQ N (BH t ns)<|frs<|AG N<|BH t ns).length=(frs<|AG N<|BH t ns).length from AH _];exact q
end
def isIntP:D->Option Bool
 |.int _=>some true
 |.tup _=>some false
 |_=>none
def fIsWP:DSp:=λs t=>∃d b,s=[d]/\isIntP d=some b/\t (.bl b)
def fIsPl:DSp:=λs t=>∃n ts,∃p:Int,s=[A6 n ts,.int p]/\0<=p/\p<n/\t (.bl true)
#check 5
theorem Zys (j:Mb mg) (F:BE K "is_whole" "is_whole" KO f fd):FnOk P w K mg base CX0 1 f fd ["thing"] (spD K fIsWP):=by
 refine F.ok OT (Bt λS t h=>#[11]) λv A r s H V Q E R h=>?_;have u:=BX R;refine(_,(Ah<|A8<|Hs (Aj (isiUK K) rfl (j "isinstance" #[1]) FW<|AB (pv 0)<|AB (E6 rfl (j "int" #[1]) Rv (show RelV (.ty "int") _ from rfl)) AF)<|Jg<|Ry<|Aj (isiUK K) rfl (j "isinstance" #[1]) FW<|AB (pv 0)<|AB (E6 rfl (j "bool" #[1]) RF (show RelV (.ty "bool") _ from rfl)) AF),Bu (λS t a=>?_) h);obtain⟨d,b,rfl,B,q⟩:=a;refine(#[4],?_);dsimp only[startD,BV,BJ,BQ];cases d with
 |int i=>
  cases B;refine BK<|Ds<|Ag<|AD<|AA rfl<|AD<|Ct<|AK<|Cf (T:="int") (b:=true) rfl (λ_=>by rfl) (_,rfl,?_);rw[AM rfl];refine LQ<|Ag<|AD<|AA rfl<|AD<|Ct<|AK<|Cf (T:="int") (b:=false) rfl (λ_=>by rfl) (_,rfl,?_);exact q
 |tup l=>
  cases B;exact BK<|Ds<|Ag<|AD<|AA rfl<|AD<|Ct<|AK<|Cf (T:="tuple") (b:=false) rfl (λ_=>by rfl) (_,rfl,iteF q)
 |_=>cases B
theorem Zzm (z:Mb mg) (j:Callee P w K mg base 1 "is_whole" ["thing"] (spD K fIsWP)) (F:BE K "is_place" "is_place" L7 f fd):FnOk P w K mg base CX0 2 f fd ["web","place"] (spD K fIsPl):=by
 refine F.ok SQ (Bt λS t h=>#[6]) λv A r s H V Q E R h=>?_;have u:=BX R;refine(_,(Ah<|A8<|Hs (Am j (R.mono #[1])<|AB (pv 1) AF)<|Jg<|Q6 N8 Gu AQ (pv 1)<|Ab (ixK K u) (pv 0) AQ λ_ _=>rfl),Bu (λS t c=>?_) h);obtain⟨n,T,p,rfl,a,b,q⟩:=c;refine(#[4],?_);dsimp only[startD,BV,BJ,BQ];refine BK<|Ds<|BR<|AD<|AA rfl<|AK (_,_,rfl,rfl,_,rfl,iteT ?_);refine NC<|AY<|AA rfl<|DU (_,rfl,?_);rw[Au a,AM rfl];refine AN<|AA rfl<|AY<|A7 (d:=.int n) rfl<|DU ?_;rw[Au b];exact q
end
def fCP:DSp:=λs t=>∃n ts o c,s=[A6 n ts,Bb o,corD c]/\AZ n ts/\A0 n ts o/\FJ n ts o c/\t (.int (corP ts c:Int))
def fRW:DSp:=λs t=>∃(r:List Int) (c:Nat ⊕ Nat) (x:Int),s=[BY r,corD c,.int x]/\(∀e,c=.inl e->(e:Int)∈r)/\r.length<=60/\t (BY<|rowW r c x)
def fPut:DSp:=λs t=>∃n ts o c d,s=[A6 n ts,Bb o,corD c,corD d]/\AZ n ts/\A0 n ts o/\FJ n ts o c/\FJ n ts o d/\ts.length<24/\t (GC n (Fe ts c d)<|putO ts o c d)
theorem Zyx (c:Nat ⊕ Nat):isIntP (corD c)=some (match c with|.inl _=>true|.inr _=>false):=by cases c <;> rfl
#check 5
theorem UA (J:Mb mg) (U:Callee P w K mg base 1 "is_whole" ["thing"] (spD K fIsWP)) (L:Callee P w K mg base 2 "is_place" ["web","place"] (spD K fIsPl)) (Y:Callee P w K mg base 1 "place_of" ["web","end"] (spD K IB)) (F:BE K "corner_place" "corner_place" ME f fd):FnOk P w K mg base CX0 3 f fd ["web","order","corner"] (spD K fCP):=by
 refine F.ok OO (Bt λD t h=>#[7]) λv A R s H V Q E r h=>?_;have u:=BX r;refine(_,(AU (B8 (PW.pt<|pw_and (truK K (Am U (r.mono #[1])<|AB (pv 2) AF) λ_=>rfl)<|pw_and1<|Zuj N8 Gu AQ (pv 2)<|Ac D8 AQ<|Aj (lenK K) rfl (J "len" #[1]) BN<|AB (Ab (ixK K u) (pv 0) AQ λ_ _=>rfl) AF) (Ah<|A8<|Am Y (r.mono #[1])<|AB (pv 0)<|AB (pv 2) AF) B7)<|AU (B8 (PW.pt<|pw_and (truK K (Aj (isiUK K) rfl (J "isinstance" #[1]) FW<|AB (pv 2)<|AB (E6 rfl (J "tuple" #[1]) Cr (show RelV (.ty "tuple") _ from rfl)) AF) λ_=>rfl)<|pw_and (BS C0 (Aj (lenK K) rfl (J "len" #[1]) BN<|AB (pv 2) AF) AQ<|nomark _)<|pw_and1<|BS C0 (Ab (ixK K u) (pv 2) AQ λ_ _=>rfl) SH<|nomark _) (AU (Av (i:=3) OO.nd rfl (Or.inl rfl)<|Ab (ixK K u) (pv 2) AQ λ_ _=>rfl)<|Ah<|B8 (PW.pt<|pw_and (truK K (Am L (r.mono #[1])<|AB (pv 0)<|AB (pv 3) AF) λ_=>rfl)<|pw_and1<|DJ<|truK K (Ab (ixK K u) (pv 1) (pv 3) λ_ _=>rfl) λ_=>rfl) (Ah<|A8<|pv 3) B7) B7) HY),Bu (λD t k=>?_) h);obtain⟨n,S,o,c,rfl,W,O,C,q⟩:=k;sleep 0;have x:=W.len;have l:=O.len;cases c with
 |inl e=>
  have g:e<2*S.length:=C;obtain⟨y,z⟩:=ED W g;refine Ae<|B4<|FD<|CI<|BR<|AD<|AA rfl<|AK (_,_,rfl,rfl,_,rfl,iteT ?_);refine Be<|NC<|AY<|AA rfl<|DU (_,rfl,?_);rw[Au (show (0:Int)<=(e:Int) by lia),AM rfl];refine AN<|AY<|Ag<|AD<|AN<|AA rfl<|AY<|A7 (Ee n S)<|AK<|Bg (Or.inr rfl) ?_;rw[AH];refine jr_I (Or.inl (#[2],#[2]))<|DU (_,rfl,?_);rw[Au (show (e:Int)<2*(S.length:Int) by lia)];refine iteT<|BK<|BR<|AD<|AA rfl<|AD<|AA rfl<|AK (n,S,e,rfl,g,?_);have j:t (.int (((AW S e).toNat:Nat):Int)):=q;rw[show (((AW S e).toNat:Nat):Int)=AW S e by lia]at j;exact j
 |inr p=>
  obtain⟨m,B⟩:=C;have a:p<o.length:=#[2]
  refine Ae<|B4<|FD<|CI<|BR<|AD<|AA rfl<|AK (_,_,rfl,rfl,_,rfl,iteF<|iteF<|B6 ?_);refine Ae<|B4<|FD<|CI<|Ag<|AD<|AA rfl<|AD<|Ct<|AK<|Cf (T:="tuple") (b:=true) rfl (λ_=>by rfl) (_,rfl,iteT ?_);refine FD<|Be<|AN<|Ag<|AD<|AA rfl<|AK<|Bg (Or.inr rfl)<|AY<|DV (_,rfl,?_);refine iteT ?_;refine Be<|AN<|AN<|AA rfl<|AY<|A7 (d:=.str "place") rfl<|SJ<|Tc (_,rfl,iteT ?_);refine Ae<|BM<|AN<|AA rfl<|AY<|A7 (d:=.int (p:Int)) rfl ?_;refine B4<|FD<|CI<|BR<|AD<|AA rfl<|AD<|AA rfl<|AK (n,S,p,rfl,#[3],m,_,rfl,iteT ?_);refine Cg<|CI<|AN<|AA rfl<|AA rfl<|A7 (d:=BY<|o.getD p []) (Co ?_) (false,?_,iteT ?_)
  ·rw[Ad,JK a];rfl
  ·rw[B];rfl
  exact BK<|AA rfl q
theorem RV (h:j<n):ixN n (j:Int)=some j:=by
 unfold ixN;rw[AM #[2],AM #[3]];rfl
theorem TZ (L:Mb mg) (z:Callee P w K mg base 1 "is_whole" ["thing"] (spD K fIsWP)) (F:BE K "row_with" "row_with" MF f fd):FnOk P w K mg base CX0 2 f fd ["row","corner","end"] (spD K fRW):=by
 refine F.ok OP (Bt λd t h=>#[6]) λv A u s H S Q E R h=>?_;have U:=BX R;refine(_,(AU (Av (i:=3) OP.nd rfl (Or.inl rfl)<|NW (truK K (Am z (R.mono #[1])<|AB (pv 1) AF) λ_=>rfl) (Ac (addK K) (bmK K PySem.F.plainAttrs_tuple PySem.F.slot_tuple_index PySem.F.type_tuple_index (idxK K) (pv 0)<|AB (pv 1) AF) AQ)<|Aj (lenK K) rfl (L "len" #[1]) BN<|AB (pv 0) AF)<|Ah<|A8<|Ac (addK K) (Ac (addK K) (E3 (slK K) (pv 0) FC<|E9<|pv 3)<|CG<|AB (pv 2) AF)<|E3 (slK K) (pv 0) (E9<|pv 3) FC),Bu (λd t a=>?_) h);obtain⟨r,c,x,rfl,C,l,q⟩:=a;sleep 0;obtain⟨J,_⟩:=j_ok C;refine B3 (λM=>M = [.val (BY r),.val (corD c),.val (.int x),.val (.int (jOf r c:Nat))]) ?_ ?_
 ·refine BM (QL<|CI<|BR<|AD<|AA rfl<|AK (_,_,rfl,Zyx c,_,rfl,?_))
  cases c with
  |inl e=>
   obtain⟨g,I,b⟩:=D7<|C e rfl;refine iteT<|AN<|JQ<|AA rfl (r,rfl,AA rfl ((e:Int),r.idxOf (e:Int),rfl,I,b,AY<|Cn ?_));show _=[_,_,_,L2.Slot.val (.int ((r.idxOf (e:Int)+1:Nat):Int))];rw[show ((r.idxOf (e:Int)+1:Nat):Int)=(r.idxOf (e:Int):Int)+1 by lia];rfl
  |inr p=>
   refine iteF<|Ag<|AD<|AA rfl<|AK<|Bg (Or.inr rfl) ?_;rw[AH];rfl
 rintro m rfl;have j:jOf r c<=(r.map D.int).length:=by rw[AH];exact J
 refine BK<|AN<|AN<|FF<|AA rfl<|E7<|FA<|AA rfl (_,rfl,.tup ((r.map D.int).take (jOf r c)),?_,?_)
 ·show some (D.tup<|cutD (r.map D.int) none<|some ((jOf r c:Nat):Int))=_
  rw[LY _ j]
 refine CL<|AD<|AA rfl<|AK ((show 1<=sizeLine from #[1]),LM ?_ ?_)
 ·rw[Bn,AH,CO];exact CM (small1000 #[2])
 refine FF<|AA rfl<|FA<|AA rfl (_,rfl,E7 (.tup ((r.map D.int).drop (jOf r c)),?_,LM ?_ ?_))
 ·show some (D.tup<|cutD (r.map D.int) (some ((jOf r c:Nat):Int)) none)=_
  rw[K4 _ j]
 ·rw[A1,Bn,DR,AH,CO];exact CM (small1000 #[2])
 unfold BY rowW at q;rw[A5,Fl,BO,Fm]at q;rw[CK];exact q
theorem Tp (mb:Mb mg) (Y:mg "MOST_TIES" = some (.int 24 tk)) (a2:Callee P w K mg base 3 "corner_place" ["web","order","corner"] (spD K fCP)) (a3:Callee P w K mg base 2 "row_with" ["row","corner","end"] (spD K fRW)) (F:BE K "put_in" "put_in" MD f fd):FnOk P w K mg base CX0 4 f fd ["web","order","one","other"] (spD K fPut):=by
 refine F.ok GS (Bt λS T h=>by obtain⟨_,_,_,_,_,rfl,_⟩:=h;rfl) λv A U s H V Q E R h=>?_;have u:=BX R;refine(_,(AU (DL (pv 0)<|gtupK (n:=2) K rfl<|CB (An (i:=4) GS.nd rfl<|Or.inl rfl)<|CB (An (i:=5) GS.nd rfl<|Or.inl rfl) Dr)<|AU (Av (i:=6) GS.nd rfl (Or.inl rfl)<|Am a2 (R.mono #[1])<|AB (pv 0)<|AB (pv 1)<|AB (pv 2) AF)<|AU (Av (i:=7) GS.nd rfl (Or.inl rfl)<|Am a2 (R.mono #[1])<|AB (pv 0)<|AB (pv 1)<|AB (pv 3) AF)<|AU (B8 (BS Oa (Aj (lenK K) rfl (mb "len" #[1]) BN<|AB (pv 5) AF) (Zw2 rfl Y (show RelV (.int 24) _ from (_,rfl)))<|nomark _) HY B7)<|AU (Av (i:=8) GS.nd rfl (Or.inl rfl)<|Ac D8 AQ<|Aj (lenK K) rfl (mb "len" #[1]) BN<|AB (pv 5) AF)<|AU (Av (i:=9) GS.nd rfl (Or.inl rfl)<|Cp (lstK K) rfl (mb "list" #[1]) Gj<|AB (pv 1) AF)<|AU (DL (Am a3 (R.mono #[1])<|AB (Ab (ixK K u) (pv 9) (pv 6) λ_ _=>rfl)<|AB (pv 2)<|AB (pv 8) AF)<|F1 (pv 9) (pv 6)<|setU u)<|AU (DL (Am a3 (R.mono #[1])<|AB (Ab (ixK K u) (pv 9) (pv 7) λ_ _=>rfl)<|AB (pv 3)<|AB (Ac (addK K) (pv 8) AQ) AF)<|F1 (pv 9) (pv 7)<|setU u)<|Ah<|A8<|CG<|AB (CG<|AB (pv 4)<|AB (Ac (addK K) (pv 5)<|CG<|AB (CG<|AB (pv 6)<|AB (pv 7) AF) AF) AF)<|AB (Cp (tupK K) rfl (mb "tuple" #[1]) Cr<|AB (pv 9) AF) AF),Bu (λS T B=>?_) h);obtain⟨n,t,o,c,d,rfl,W,O,b,D,L,q⟩:=B;sleep 0;obtain⟨J,G⟩:=O.rows W;obtain⟨C,l⟩:=Kg W O b;obtain⟨m,p⟩:=Kg W O D;have g:∀i:Nat,(o.getD i []).length<=48:=λi=>by
  rw[Al];cases z:o[i]? with
  |none=>simp
  |some r=>exact G r (Bd z)
 refine Ae<|FY<|AA rfl<|Eg rfl<|CU<|BW<|CU<|BW<|Ec ?_;refine Ae<|BM<|BR<|AD<|AA rfl<|AD<|AA rfl<|AD<|AA rfl<|AK (n,t,o,c,rfl,W,O,b,?_);refine Ae<|BM<|BR<|AD<|AA rfl<|AD<|AA rfl<|AD<|AA rfl<|AK (n,t,o,d,rfl,W,O,D,?_);refine Ae<|B4<|Be<|AN<|Ag<|AD<|AA rfl<|AK<|Bg (Or.inr rfl)<|AY<|DU (_,rfl,?_);rw[AH,A4 #[2]];refine iteF<|B6 ?_;refine Ae<|BM<|AN<|AY<|Ag<|AD<|AA rfl<|AK<|Bg (Or.inr rfl) ?_;rw[AH];refine jr_I (Or.inl (#[2],#[2])) ?_;rw[show (2:Int)*(t.length:Int)=((2*t.length:Nat):Int) by lia];refine Ae<|DI<|RD<|AD<|AA rfl<|AK (_,Or.inl rfl,?_);have j:atI (o.map BY) (corP t c:Int)=some (BY<|o.getD (corP t c) []):=Co (by rw[Ad,JK C];rfl);have M:=g<|corP t c;refine Ae<|LC<|BR<|AD<|Fz rfl rfl<|AA rfl (_,_,_,_,rfl,rfl,rfl,j,AD<|AA rfl<|AD<|AA rfl<|AK (_,c,_,rfl,λe h=>(l e h).1,#[2],(_,_,rfl,rfl),AA rfl (_,_,_,corP t c,rfl,rfl,rfl,?_,?_)))
 ·refine RV ?_
  rw[AH];exact C
 have x:(o.map BY).set (corP t c) (BY<|rowW (o.getD (corP t c) []) c ((2*t.length:Nat):Int))=(put1 o (corP t c) c ((2*t.length:Nat):Int)).map BY:=by
  unfold put1;rw[Ih]
 rw[x];generalize hO1:put1 o (corP t c) c ((2*t.length:Nat):Int)=O1;have I:O1.length=o.length:=by rw[<- hO1,K3]
 have Z:∀i:Nat,(O1.getD i []).length<=49:=λi=>by
  rw[<- hO1];unfold put1;rw[Al,GF];by_cases hp:corP t c=i
  ·subst hp
   rw[AM rfl,AM C];show (rowW _ _ _).length<=49;unfold rowW;rw[A1,BI,Bn,DR];omega
  ·rw[AL hp,<- Al];have:=g i;lia
 have k:atI (O1.map BY) (corP t d:Int)=some (BY<|O1.getD (corP t d) []):=Co (by rw[Ad,JK #[2]];rfl);have X:=Z<|corP t d;have N:∀e,d=.inl e->(e:Int)∈O1.getD (corP t d) []:=λe h=>by rw[<- hO1];exact QZ m (p e h).1
 refine Ae<|LC<|BR<|AD<|Fz rfl rfl<|AA rfl (_,_,_,_,rfl,rfl,rfl,k,?_);refine AD<|AA rfl<|AD<|AN<|AA rfl<|AY<|Cn<|AK (_,d,_,rfl,N,#[2],(_,_,rfl,rfl),AA rfl (_,_,_,corP t d,rfl,rfl,rfl,?_,?_))
 ·refine RV ?_
  rw[AH];omega
 rw[show ((2*t.length:Nat):Int)+1=((2*t.length+1:Nat):Int) by lia];have y:(O1.map BY).set (corP t d) (BY<|rowW (O1.getD (corP t d) []) d ((2*t.length+1:Nat):Int))=(putO t o c d).map BY:=by
  unfold putO;rw[hO1];unfold put1;rw[Ih]
 rw[y];refine BK<|CL<|AD<|CL<|AD<|AA rfl<|AD<|AN<|AA rfl<|CL<|AD<|CL<|AD<|AA rfl<|AD<|AA rfl<|AK (DA,AK ((show 1<=sizeLine from #[1]),LM ?_<|AK (DA,?_)))
 ·rw[AH,CO];exact CM (small1000 #[2])
 refine AD<|Ag<|AD<|Gi rfl<|AK<|DS (Or.inl rfl)<|AK (DA,?_);have a:=q;unfold GC A6 Fe at a;rw[A5]at a;exact a
def rowD:D->Option (List D)
 |.lst ds=>some ds
 |.tup ds=>some ds
 |_=>none
theorem Jc (h:rowD d=some es):d=.lst es\/d=.tup es:=by
 cases d with
 |lst ds=>cases h;exact .inl rfl
 |tup ds=>cases h;exact .inr rfl
 |_=>cases h
theorem NY (h:rowD d=some es):[d]=[.lst es] \/ [d]=[.tup es]:=(Jc h).imp (λe=>by rw[e]) (λe=>by rw[e])
def TyT (d:D):Prop:=∃T,tyD d=some T
def Lf:DSp:=λs t=>∃d T,s=[d]/\tyD d=some T/\t (.bl (rowD d).isSome)
theorem Zx1 {P:List D->AI->Prop}(j:M[i]?=some (.val d)) (O:d=.lst ds\/d=.tup ds) (p:P ds M):JI K (iSeq K<|tVar i) M P:=by
 rcases O with rfl|rfl
 ·exact Cz<|AA j (_,Or.inl rfl,p)
 ·exact DH<|AA j (_,rfl,p)
theorem WV (z:Mb mg) (F:BE K "is_row" "is_row" L6 f fd):FnOk P w K mg base CX0 1 f fd ["thing"] (spD K Lf):=by
 refine F.ok SO (Bt λS t h=>#[11]) λv A r s H V Q E R h=>?_;have u:=BX R;refine(_,(Ah<|A8<|Aj (isiUK K) rfl (z "isinstance" #[1]) FW<|AB (pv 0)<|AB (CG<|AB (E6 rfl (z "list" #[1]) Gj (show RelV (.ty "list") _ from rfl))<|AB (E6 rfl (z "tuple" #[1]) Cr (show RelV (.ty "tuple") _ from rfl)) AF) AF),Bu (λS t j=>?_) h);obtain⟨d,T,rfl,g,q⟩:=j;refine(#[4],?_);dsimp only[startD,BV,BJ,BQ];refine BK<|Ag<|AD<|AA rfl<|AD<|CL<|AD<|Ct<|AD<|Ct<|AK (DA,?_);have y:∀a,tyD d=some a -> (∀K,PySem.W.kitAny K (.type a) (["list","tuple"].map Value.type)=some (rowD d).isSome)->JA K tNil [Slot.val d] λS M=>JC K (rIsiU K) (d::D.tup [D.ty "list",D.ty "tuple"]::S) M λd _=>t d:=λa c e=>AK<|Zye (ns:=["list","tuple"]) c e q;cases d with
 |non=>exact y "NoneType" rfl (λ_=>by rfl)
 |bl b=>exact y "bool" rfl (λ_=>by rfl)
 |int i=>exact y "int" rfl (λ_=>by rfl)
 |str x=>exact y "str" rfl (λ_=>by rfl)
 |lst S=>exact y "list" rfl (λ_=>by rfl)
 |tup S=>exact y "tuple" rfl (λ_=>by rfl)
 |dct ks S=>exact y "dict" rfl (λ_=>by rfl)
 |_=>cases g
def fEnds:NSp:=λs t=>∃n ts,∃p:Int,s=[A6 n ts,.int p]/\ts.length<=24/\t ((B0 ts (2*ts.length) p).map .int)
theorem U0 (ts:AR) (m:Nat) (p:Int) (q:D->Bool) (j:∀k:Nat,q (.int (0+(k:Int)))=decide (AW ts k=p)):(rngD 0 m).filter q=(B0 ts m p).map .int:=by
 unfold rngD B0;rw[DC,Ba];have e:(q∘λi:Nat=>D.int (0+(i:Int)))=λe=>decide (AW ts e=p):=by
  funext k;exact j k
 rw[e];apply Dq;intro k _;show D.int (0+(k:Int))=D.int (k:Int);rw[DE]
theorem Vh (z:Mb mg) (j:Callee P w K mg base 1 "place_of" ["web","end"] (spD K IB)) (F:BE K "ends_at" "ends_at" KP f fd):FnOk P w K mg base CX0 2 f fd ["web","place"] (spN K fEnds):=by
 refine F.ok SS (Gg λS o h=>#[6]) λv A r s H V Q E R h=>?_;have u:=BX R;refine(_,(Ah<|A8<|Ce ["end"] (show CompSc (defScope KP) ["web","place"] _ ["web","place"] [0,1] from (rfl,#[0],#[0],#[0],rfl,#[0])) rfl (De rfl (z "range" #[1])<|AB (Ac D8 AQ<|Aj (lenK K) rfl (z "len" #[1]) BN<|AB (Ab (ixK K u) (pv 0) AQ λ_ _=>rfl) AF) AF) (λ_ _ _ _ _=>(An (i:=0) (show List.Nodup (["end","web","place"]:List Str) from #[1]) rfl<|Or.inl rfl)) (λ_ _ _ _ _=>(D5<|BS C0 (Am j (R.mono #[1])<|AB (pv 1)<|AB (pv 0) AF) (pv 2)<|nomark _)) λ_ _ _ _ _=>(pv 0)),Gs (λS o a=>?_) h);obtain⟨n,t,p,rfl,l,q⟩:=a;refine(#[4],?_);dsimp only[startD,BV,BJ,BQ];refine Gk<|Hn #[1]<|Dd ?_;refine AD<|AN<|AY<|Ag ?_;refine AD<|AN<|AA rfl<|AY<|A7 (d:=.tup<|t.map A3) rfl ?_;refine AK<|Bg (Or.inr rfl) ?_;rw[AH];refine jr_I (Or.inl (#[2],#[2]))<|AK (_,rfl,#[2],#[2],?_);have L:((2:Int)*(t.length:Int)).toNat=2*t.length:=#[2]
 rw[L];refine(by rw[Ca];exact small1000 #[2],λd=>match d with|.int e=>decide (AW t e.toNat=p)|_=>false,λd=>d,λi d D=>?_,?_)
 ·obtain⟨I,rfl⟩:=DF D
  refine Be<|AN<|BR<|AD<|AA rfl<|AD<|AA rfl<|AK (n,t,i,by rw[DE],I,?_);refine AA rfl<|DV (_,rfl,?_,?_)
  ·show _=decide (AW t (0+(i:Int)).toNat=p)
   rw[DE,Aq]
  ·by_cases hp:AW t i=p
   ·rw[Au hp,AM rfl];exact AA rfl (rfl,_,rfl)
   ·rw[A4 hp,AL BL];exact(_,rfl)
 ·rw[Ij,U0 t _ p _ λk=>by show decide (AW t (0+(k:Int)).toNat=p)=_;rw[DE,Aq]]
  exact(_,rfl,q)
def fLeastE:DSp:=λs t=>∃ns:List Int,s=[.lst (ns.map .int)]/\ns.length<=100/\t (BY<|lf ns)
theorem V6 (z:Mb mg) (F:BE K "least_first" "least_first" HN f fd):FnOk P w K mg base CX0 1 f fd ["ends"] (spD K fLeastE):=by
 refine F.ok HU (Bt λd o h=>by obtain⟨_,rfl,_⟩:=h;rfl) λv A r s H S Q E R h=>?_;have u:=BX R;refine(_,(AU (B8 (DJ<|truK K (pv 0) λ_=>rfl) (Ah<|A8<|CG AF) B7)<|AU (Av (i:=1) HU.nd rfl (Or.inl rfl)<|bmK K PySem.F.plainAttrs_list PySem.F.slot_list_index PySem.F.type_list_index (idxLK K) (pv 0)<|AB (Aj (minK K rfl) rfl (z "min" #[1]) Gn<|AB (pv 0) AF) AF)<|Ah<|A8<|Cp (tupK K) rfl (z "tuple" #[1]) Cr<|AB (Ac (addK K) (E3 (slK K) (pv 0) (E9<|pv 1) FC)<|E3 (slK K) (pv 0) FC<|E9<|pv 1) AF),Bu (λd o a=>?_) h);obtain⟨n,rfl,l,q⟩:=a;refine(#[4],?_);dsimp only[startD,BV,BJ,BQ];by_cases hn:n=[]
 ·subst hn
  refine Ae<|B4<|Cg<|CI<|AA rfl (false,rfl,?_);refine iteT<|BK<|CL<|AK (#[1],?_);rw[F4]at q;exact q
 ·obtain⟨m,M,e⟩:=E2 n hn
  obtain⟨I,b,c⟩:=D7 M;refine Ae<|B4<|Cg<|CI<|AA rfl (true,?_,?_)
  ·cases n with
   |nil=>exact absurd rfl hn
   |cons x t=>rfl
  refine iteF<|B6 ?_;refine Ae<|BM<|QA<|AA rfl (n,rfl,#[2],Ag<|AD<|AA rfl<|AK<|Ni (Or.inl rfl) M e (m,rfl,M,?_));have j:n.idxOf m<=(n.map D.int).length:=by rw[AH];omega
  refine BK<|Ag<|AD<|AN<|FF<|AA rfl<|FA<|AA rfl (_,rfl,E7 (.lst ((n.map D.int).drop (n.idxOf m)),?_,?_))
  ·show some (D.lst<|cutD (n.map D.int) (some ((n.idxOf m:Nat):Int)) none)=_
   rw[K4 _ j]
  refine FF<|AA rfl<|E7<|FA<|AA rfl (_,rfl,.lst ((n.map D.int).take (n.idxOf m)),?_,?_)
  ·show some (D.lst<|cutD (n.map D.int) none<|some ((n.idxOf m:Nat):Int))=_
   rw[LY _ j]
  refine Ge ?_<|AK<|DS (Or.inl rfl) ?_
  ·rw[DR,Bn,AH]
   exact CM (small1000 #[2])
  rw[Jl M e]at q;unfold BY Cb at q;rw[A5,Fm,Fl]at q;exact q
def seqD:Bool->List D->D
 |true,ds=>.lst ds
 |false,ds=>.tup ds
def OJ:DSp:=λs t=>∃(b:Bool) (ns:List Int),s=[seqD b (ns.map .int)]/\ns.length<=100/\t (BY<|lf ns)
def fLeastT:DSp:=λs t=>∃ns:List Int,s=[.tup (ns.map .int)]/\ns.length<=100/\t (BY<|lf ns)
theorem V7 (z:Mb mg) (F:BE K "least_first" "least_first" HN f fd):FnOk P w K mg base CX0 1 f fd ["ends"] (spD K fLeastT):=by
 refine F.ok HU (Bt λd o h=>by obtain⟨_,rfl,_⟩:=h;rfl) λv A r s H S Q E R h=>?_;have u:=BX R;refine(_,(AU (B8 (DJ<|truK K (pv 0) λ_=>rfl) (Ah<|A8<|CG AF) B7)<|AU (Av (i:=1) HU.nd rfl (Or.inl rfl)<|bmK K PySem.F.plainAttrs_tuple PySem.F.slot_tuple_index PySem.F.type_tuple_index (idxK K) (pv 0)<|AB (Aj (minK K rfl) rfl (z "min" #[1]) Gn<|AB (pv 0) AF) AF)<|Ah<|A8<|Cp (tupK K) rfl (z "tuple" #[1]) Cr<|AB (Ac (addK K) (E3 (slK K) (pv 0) (E9<|pv 1) FC)<|E3 (slK K) (pv 0) FC<|E9<|pv 1) AF),Bu (λd o a=>?_) h);obtain⟨n,rfl,l,q⟩:=a;refine(#[4],?_);dsimp only[startD,BV,BJ,BQ];by_cases hn:n=[]
 ·subst hn
  refine Ae<|B4<|Cg<|CI<|AA rfl (false,rfl,?_);refine iteT<|BK<|CL<|AK (#[1],?_);rw[F4]at q;exact q
 ·obtain⟨m,M,e⟩:=E2 n hn
  obtain⟨c,I,b⟩:=D7 M;refine Ae<|B4<|Cg<|CI<|AA rfl (true,?_,?_)
  ·cases n with
   |nil=>exact absurd rfl hn
   |cons x t=>rfl
  refine iteF<|B6 ?_;refine Ae<|BM<|JQ<|AA rfl (n,rfl,Ag<|AD<|AA rfl<|AK<|Ni (Or.inr rfl) M e (m,n.idxOf m,rfl,I,b,?_));have j:n.idxOf m<=(n.map D.int).length:=by rw[AH];omega
  refine BK<|Ag<|AD<|AN<|FF<|AA rfl<|FA<|AA rfl (_,rfl,E7 (.tup ((n.map D.int).drop (n.idxOf m)),?_,?_))
  ·show some (D.tup<|cutD (n.map D.int) (some ((n.idxOf m:Nat):Int)) none)=_
   rw[K4 _ j]
  refine FF<|AA rfl<|E7<|FA<|AA rfl (_,rfl,.tup ((n.map D.int).take (n.idxOf m)),?_,?_)
  ·show some (D.tup<|cutD (n.map D.int) none<|some ((n.idxOf m:Nat):Int))=_
   rw[LY _ j]
  refine LM ?_<|AK<|DS (Or.inr rfl) ?_
  ·rw[DR,Bn,AH]
   exact CM (small1000 #[3])
  rw[Jl M e]at q;unfold BY Cb at q;rw[A5,Fm,Fl]at q;exact q
theorem WK (z:Mb mg) (F:BE K "least_first" "least_first" HN f fd):FnOk P w K mg base CX0 1 f fd ["ends"] (spD K OJ):=by
 have A:=V6 (P:=P) (w:=w) (base:=base) z F;have B:=V7 (P:=P) (w:=w) (base:=base) z F;refine(λv H Q E h=>?_,λd r s H g u v Q E i e D V h=>?_)
 ·obtain⟨a,j,t,S,R,⟨b,n,rfl,l,q⟩,c⟩:=h
  rw[R.length];rfl
 ·obtain⟨a,j,t,S,R,⟨b,n,rfl,l,q⟩,c⟩:=h
  cases b with
  |true=>exact A.run d r s H g u v Q E i e D V (a,_,t,S,R,(n,rfl,l,q),c)
  |false=>exact B.run d r s H g u v Q E i e D V (a,_,t,S,R,(n,rfl,l,q),c)
theorem Zxs (l:List D) (j:D->Bool):(l.filter λ_=>true).map (λd=>D.bl<|j d)=(l.map j).map D.bl:=by
 rw[Cd.mpr #[4],Ba];rfl
end
def fRowD:DSp:=λs t=>∃(es r:List Int) (d:D),s=[.lst (es.map .int),d]/\rowD d=some (r.map .int)/\r.Perm es/\es.Pairwise (· <= ·)/\r.length<=48/\t (BY<|lf r)
def fOrdD:DSp:=λs t=>∃(n:Int) (ts:AR) (o:Ay) (d:D) (es:List D),s=[A6 n ts,d]/\AZ n ts/\A0 n ts o/\rowD d=some es/\es.length=o.length/\(∀(i:Nat) e r,es[i]?=some e->o[i]?=some r->∃r':List Int,rowD e=some (r'.map .int)/\r'.Perm r/\lf r'=r)/\t (Bb o)
theorem Zzr (h:rowD d=some fs):∃b,d=seqD b fs:=by
 rcases Jc h with rfl|rfl
 ·exact(true,rfl)
 ·exact(false,rfl)
theorem Zvk (r:List Int):((r.map D.int).map Lg).all id=true:=by
 rw[Ba,DW];intro x hx;obtain⟨i,_,rfl⟩:=A2.mp hx;rfl
theorem Zw4 {ms r es:List Int}(J:ms.Perm r) (L:ms.Pairwise (· <= ·)) (z:es.Pairwise (· <= ·)) (j:r.Perm es):ms=es:=List.Perm.eq_of_pairwise (le:=λa b=>a<=b) (λa b _ _ h H=>#[2]) L z<|J.trans j
#check 5
theorem Zxi (Y:Mb mg) (z:Callee P w K mg base 1 "is_row" ["thing"] (spD K Lf)) (J:Callee P w K mg base 1 "is_whole" ["thing"] (spD K fIsWX)) (O:Callee P w K mg base 1 "least_first" ["ends"] (spD K OJ)) (F:BE K "row_of" "row_of" KA f fd):FnOk P w K mg base CX0 2 f fd ["ends","row"] (spD K fRowD):=by
 refine F.ok SY (Bt λS t h=>#[6]) λv A u s H y Q E a h=>?_;have U:=BX a;have V:=Dw a;refine(_,(AU (B8 (PW.pt<|pw_or (DJ<|truK K (Am z (a.mono #[1])<|AB (pv 1) AF) λ_=>rfl)<|pw_or1<|DJ<|truK K (Aj (allK K rfl) rfl (Y "all" #[1]) N5<|AB (Ce ["end"] (show CompSc (defScope KA) ["ends","row"] _ [] [] from (rfl,#[0],#[0],#[0],rfl,#[0])) rfl (seqK K<|pv 1) (λ_ _ _ _ _=>(An (i:=0) (show List.Nodup (["end"]:List Str) from #[1]) rfl<|Or.inl rfl)) (λ_ _ _ _ _=>Dg) λ_ _ _ _ _=>(Am J (a.mono #[1])<|AB (pv 0) AF)) AF) λ_=>rfl) HY B7)<|AU (B8 (BS (neILK K V) (Aj (sortUK K) rfl (Y "sorted" #[1]) Hk<|AB (pv 1) AF) (pv 0)<|nomark _) HY B7)<|Ah<|A8<|Am O (a.mono #[1])<|AB (pv 1) AF),Bu (λS t k=>?_) h);obtain⟨n,r,d,rfl,R,p,l,L,q⟩:=k;sleep 0;obtain⟨T,c⟩:TyT d:=by rcases Jc R with rfl|rfl <;> exact(_,rfl)
 refine Ae<|B4<|EK<|Cg<|CI<|BR<|AD<|AA rfl<|AK (d,T,rfl,c,_,rfl,?_);rw[R];refine iteF<|Cg<|CI<|Ag<|AD<|DZ #[1]<|Zx1 rfl (Jc R) (?_,λ_=>true,λd=>.bl<|Lg d,λj e g=>?_,?_)
 ·rw[AH];exact small1000 #[2]
 ·obtain⟨x,_,rfl⟩:=A2.mp (Bd g)
  exact Df (rfl,BR<|AD<|AA rfl<|AK (_,_,rfl,rfl,rfl,_,rfl))
 refine AK ?_;rw[Zxs];refine Nz (_,rfl,?_);rw[Zvk];refine iteF<|B6 ?_;refine Ae<|B4<|Be<|AN<|CZ<|Qk<|AD<|AA rfl<|AK (r,NY R,#[2],λo m M=>(_,rfl,AA rfl<|Zw8 (_,rfl,?_)));rw[Au (Zw4 m M l p)];refine iteF<|B6 ?_;obtain⟨b,B⟩:=Zzr R;exact BK<|BR<|AD<|AA rfl<|AK (b,r,by rw[B],#[2],q)
theorem Zxg (mb:Mb mg) (a2:Callee P w K mg base 1 "is_row" ["thing"] (spD K Lf)) (Y:Callee P w K mg base 2 "ends_at" ["web","place"] (spN K fEnds)) (a3:Callee P w K mg base 2 "row_of" ["ends","row"] (spD K fRowD)) (F:BE K "order_of" "order_of" J9 f fd):FnOk P w K mg base CX0 3 f fd ["web","rows"] (spD K fOrdD):=by
 refine F.ok SX (Bt λD t h=>by obtain⟨_,_,_,_,_,rfl,_⟩:=h;rfl) λv A u s H X Q E r h=>?_;have U:=BX r;have V:=Dw r;refine(_,(AU (B8 (PW.pt<|pw_or (DJ<|truK K (Am a2 (r.mono #[1])<|AB (pv 1) AF) λ_=>rfl)<|pw_or1<|BS LZ (Aj (lenK K) rfl (mb "len" #[1]) BN<|AB (pv 1) AF) (Ab (ixK K U) (pv 0) AQ λ_ _=>rfl)<|nomark _) HY B7)<|Ah<|A8<|Cp (tupK K) rfl (mb "tuple" #[1]) Cr<|AB (Ce ["place","row"] (show CompSc (defScope J9) ["web","rows"] _ ["web"] [0] from (rfl,#[0],#[0],#[0],rfl,#[0])) rfl (Oj K rfl (mb "enumerate" #[1])<|AB (pv 1) AF) (λ_ _ _ _ _=>(gtupK (n:=2) K rfl<|CB (An (i:=0) (show List.Nodup (["place","row","web"]:List Str) from #[1]) rfl<|Or.inl rfl)<|CB (An (i:=1) (show List.Nodup (["place","row","web"]:List Str) from #[1]) rfl<|Or.inl rfl) Dr)) (λ_ _ _ _ _=>Dg) λ_ _ _ _ _=>(Am a3 (r.mono #[1])<|AB (Am Y (r.mono #[1])<|AB (pv 2)<|AB (pv 0) AF)<|AB (pv 1) AF)) AF),Bu (λD t y=>?_) h);obtain⟨n,C,o,d,S,rfl,W,O,a,L,g,q⟩:=y;sleep 0;have G:=O.len;have N:=W.hi;have l:=W.len;obtain⟨T,p⟩:TyT d:=by rcases Jc a with rfl|rfl <;> exact(_,rfl)
 refine Ae<|B4<|EK<|Cg<|CI<|BR<|AD<|AA rfl<|AK (d,T,rfl,p,_,rfl,?_);rw[a];refine iteF<|Be<|AN<|Ag<|AD<|AA rfl<|AK<|Bg (NY a)<|AN<|AA rfl<|AY<|A7 (d:=.int n) rfl<|Jj (_,rfl,?_);rw[Au #[2]];refine iteF<|B6 ?_;refine BK<|Ag<|AD<|NN #[1]<|RK<|AD<|AA rfl<|AK (S,NY a,?_,λ_=>true,λd=>match d with|.tup [.int i,_]=>BY (o.getD i.toNat [])|d=>d,λi d x=>?_,?_)
 ·rw[LF];exact small1000 #[2]
 ·obtain⟨e,b,rfl⟩:=LG x
  have B:=(BZ.mp b).1;have I:i<o.length:=#[2]
  have r:=AS I;obtain⟨k,c,j,m⟩:=g i e _ b r;have R:=O.row i _ r;have M:=R.len;have J:=j.length_eq;refine(_,_,rfl,Df (rfl,BR<|AD<|CZ<|EG<|AD<|AA rfl<|AD<|AA rfl<|AK (n,C,(i:Int),rfl,l,_,rfl,AD<|AA rfl<|AK (_,k,e,rfl,c,j.trans R.perm,(Iy _ _ _).imp λh=>Int.le_of_lt h,#[2],?_,_,_,rfl))));show BY (lf k)=BY (o.getD (i:Int).toNat []);rw[m,Aq,Al,r];rfl
 have c:((enD S).filter λ_=>true).map (λd=>match d with|.tup [.int i,_]=>BY (o.getD i.toNat [])|d=>d)=o.map BY:=by
  rw[Cd.mpr #[4]];apply Dz;intro i;rw[Ad,Ad];cases z:(enD S)[i]? with
  |none=>
   have:=List.getElem?_eq_none_iff.mp z;rw[LF]at this;rw[FP #[2]];rfl
  |some dd=>
   obtain⟨e,b,rfl⟩:=LG z;have B:=(BZ.mp b).1;rw[AS (by omega:i<o.length)];show some (BY<|o.getD (i:Int).toNat [])=_;rw[Aq,Al,AS (by omega:i<o.length)];rfl
 rw[c];exact AK<|DS (Or.inl rfl) q
theorem QC 
  (h:JI K wi1 M λds M1=>(∀i∈sel,∃d,M1[i]?=some (.val d))/\∃I:Nat->OD->AI->Prop,I 0 (.lst []) (compD n sel M1) /\
   (∀i d od M2,ds[i]?=some d->I i od M2->JG K g1 d M2 λM3=>JI K wi2 M3 λes M4=>∃I2:Nat->OD->AI->Prop,I2 0 od M4 /\
    (∀j e od2 M5,es[j]?=some e->I2 j od2 M5->JG K g2 e M5 λM6=>JB K (tAppL te) M6 od2 λod3 M8=>I2 (j+1) od3 M8)/\∀od2 M5,I2 es.length od2 M5->I (i+1) od2 M5) /\
   ∀od M2,I ds.length od M2->Po od M1):JO K (tComp2 n sel wi1 g1 wi2 g2 (.lst []) (tAppL te)) M Po:=
 show JO K (tCompG n sel wi1 g1 (.lst []) λa=>tLoop wi2 g2<|tAppL te a) M Po from Zvl (od0:=.lst []) (λ_=>.nil) λg G H Z R k c=>h g G H Z R k λJ ds G' H' M' k' s' it (hv,I,h0,ht,he)=>c J ds G' H' M' k' s' it (hv,I,h0,λi d od M2 D q b f m z v r s u C=>ht i d od M2 D q b f m z v r s u λp l o M3 t S P=>C p l o M3 t S<|Zxq P,he)
end
theorem Zvx (h:JT K c M λb M1=>if b=true then JO K ta M1 P else JO K tb M1 P):JO K (tIf c ta tb) M P:=λg G H Z Q k q=>
 h g G H Z _ k λb i j M1 l S n=>by
  cases b with
  |true=>exact(show JO K ta M1 P from n) g i j Z Q l λa o d e m f s D p=>q a o d e m f (S.trans s) D p
  |false=>exact(show JO K tb M1 P from n) g i j Z Q l λa o d e m f s D p=>q a o d e m f (S.trans s) D p
def Bq (r:List Int) (p:Nat):List (Nat ⊕ Nat):=if r=[] then [.inr p] else r.map λe=>.inl e.toNat
def fCorA:NSp:=λs t=>∃(n:Int) (ts:AR) (o:Ay) (p:Nat) (r:List Int),s=[Bb o,.int (p:Int)]/\AZ n ts/\A0 n ts o/\o[p]?=some r/\t ((Bq r p).map corD)
def fWT:DSp:=λs t=>∃(n:Int) (ts:AR) (o:Ay) (a b:Nat),s=[GC n ts o,.tup [.int (a:Int),.int (b:Int)]]/\AZ n ts/\A0 n ts o/\(a:Int)<n/\(b:Int)<n/\ts.length<24/\∀c d,FJ n ts o c->FJ n ts o d->corP ts c=a->corP ts d=b->t (GC n (Fe ts c d)<|putO ts o c d)
theorem Rt (hO:A0 n ts o) (h:o[p]?=some r):Bq r p≠[]/\(Bq r p).length<=1+r.length/\∀c∈Bq r p,FJ n ts o c/\corP ts c=p:=by
 have P:=(BZ.mp h).1;have l:=hO.len;unfold Bq;by_cases e:r=[]
 ·subst e
  rw[AM rfl];refine(#[4],#[4],λc C=>?_);rw[BU.mp C];exact((#[2],by rw[Al,h];rfl),rfl)
 ·rw[AL e]
  refine(by simpa using e,by rw[AH];lia,λc C=>?_);obtain⟨x,X,rfl⟩:=A2.mp C;obtain⟨k,K,a,rfl⟩:=(hO.row p r h).mem.mp X;refine(?_,?_)
  ·show (k:Int).toNat<2*ts.length
   rw[Aq];exact K
  ·show (AW ts (k:Int).toNat).toNat=p
   rw[Aq,a,Aq]
theorem Sh (hO:A0 n ts o) (h:o[p]?=some r) (e:r≠[]):r.map D.int=(Bq r p).map corD:=by
 unfold Bq;rw[AL e,Ba];refine Dq λx X=>?_;obtain⟨k,K,a,rfl⟩:=(hO.row p r h).mem.mp X;show D.int (k:Int)=D.int (((k:Int).toNat:Nat):Int);rw[Aq]
def BdOk (m:Nat) (kvs:List (AV × D)):Prop:=kvs.length<=m/\∀kd∈kvs,(∃i,kd.1=Sum.inl i)/\tfO kd.2=true
theorem TH (h:BdOk m kvs) (i:Int) (j:tfO v=true):BdOk (m+1) (putD kvs (.inl i) v):=by
 unfold putD;split
 ·refine(by rw[AH];have:=h.1;lia,λd k=>?_)
  obtain⟨x,X,rfl⟩:=A2.mp k;by_cases c:x.1=Sum.inl i
  ·rw[AM c];exact((h.2 x X).1,j)
  ·rw[AL c];exact h.2 x X
 ·refine(by rw[A1,CO];have:=h.1;lia,λd k=>?_)
  rcases Bo.mp k with z|z
  ·exact h.2 d z
  ·rw[BU.mp z];exact((i,rfl),j)
theorem Sy (h:BdOk m kvs) (k:AV) (hz:tfO z=true):tfO ((valD kvs k).getD z)=true:=by
 cases e:valD kvs k with
 |none=>exact hz
 |some v=>
  unfold valD at e;obtain⟨d,H,a⟩:=Option.map_eq_some_iff.mp e;rw[<- a];exact(h.2 d<|List.mem_of_find?_eq_some H).2
theorem Mw {α β:Type}(c:Nat) (f:α -> List β):∀(l:List α),(∀a∈l,(f a).length=c)->(l.flatMap f).length=l.length*c
 |[],_=>#[4]
 |a::l,h=>by
  rw[L4,A1,h a #[4],Mw c f l λb B=>h b<|Bs _ B,BI,Nat.succ_mul];lia
theorem Zy9 (r:List Int):(r.map D.int).all flO=true:=by
 rw[HK];exact DW.mpr λ_ _=>rfl
def wayD (c d:Nat ⊕ Nat):D:=.tup [corD c,corD d]
theorem OW {K:W.Frag}{M:AI}{P:D->AI->Prop}{n m M_:Nat}{kvs:List (AV × D)}{j:Int}{c:Nat ⊕ Nat}{O:List D}(U:M[n]?=some (.val<|dctD kvs)) (z:BdOk M_ kvs) (L:M[m]?=some (.val (.tup O))) (J:atI O j=some (corD c)) (p:∀v,tfO v=true->P v M) :
  JE K (tBM K "dict" rGetIM (tVar n)<|tCons (tOp (rIxU K) (tVar m)<|tC (.int j))<|tCons (tOp (rIxU K) (tVar m)<|tC (.int j)) tNil) M P:=by
 refine Wo U (λd h=>(z.2 d h).1)<|AN<|AA L<|AY<|A7 J<|AN<|AA L<|AY<|A7 J ?_;cases c with
 |inl e=>exact .inl ((e:Int),rfl,p _ (Sy z _ rfl))
 |inr q=>exact .inr ([.inr "place",.inl (q:Int)],rfl,p _ rfl)
theorem TX (h:BdOk m kvs) (hm:m<=m'):BdOk m' kvs:=(Ck h.1 hm,h.2)
#check 5
theorem Zyi (j:Mb mg) (F:BE K "corners_at" "corners_at" MK f fd):FnOk P w K mg base CX0 1 f fd ["order","place"] (spN K fCorA):=by
 refine F.ok Se (Gg λd t h=>by obtain⟨_,_,_,_,_,rfl,_⟩:=h;rfl) λv A u s H V Q E R h=>?_;have U:=BX R;refine(_,(Ah<|A8<|NW (truK K (Ab (ixK K U) (pv 0) (pv 1) λ_ _=>rfl) λ_=>rfl) (Cp (lstK K) rfl (j "list" #[1]) Gj<|AB (Ab (ixK K U) (pv 0) (pv 1) λ_ _=>rfl) AF)<|Dk<|AB (CG<|AB SH<|AB (pv 1) AF) AF),Gs (λd t g=>?_) h);obtain⟨n,S,o,p,r,rfl,W,O,R,q⟩:=g;sleep 0;have b:atI (o.map BY) (p:Int)=some (BY r):=Co (by rw[Ad,R];rfl);refine Gk<|Zvx<|CI<|AN<|AA rfl<|AA rfl<|A7 b (!r.isEmpty,by cases r <;> rfl,?_)
 by_cases e:r=[]
 ·subst e
  refine iteF<|Ed<|AD<|CL<|AD<|SJ<|AD<|AA rfl<|AK (DA,AK (by show 1<=sizeLine;decide,_,rfl,q))
 ·have c:(!r.isEmpty)=true:=by cases r with|nil=>exact absurd rfl e|cons a l=>rfl
  rw[c,AM rfl];refine RD<|AD<|AN<|AA rfl<|AA rfl<|A7 b<|AK (r.map D.int,Or.inl rfl,_,rfl,?_);rw[Sh O R e];exact q
theorem Zy1 (mb:Mb mg) (b7:Callee P w K mg base 2 "forerunner" ["web","order","end"] (spD K fFore)) (b6:Callee P w K mg base 5 "faces" ["web","order"] (spN K fFaces)) (b5:Callee P w K mg base 1 "corners_at" ["order","place"] (spN K fCorA)) (b8:Callee P w K mg base 4 "put_in" ["web","order","one","other"] (spD K fPut)) (F:BE K "with_tie" "with_tie" HP f fd):FnOk P w K mg base CX0 6 f fd ["floor","tie"] (spD K fWT):=by
 refine F.ok Fp (Bt λds V h=>by obtain⟨_,_,_,_,_,rfl,_⟩:=h;rfl) λa9 A a8 s H vs Q E L h=>?_;have U:=BX L;have hv:=Dw L;refine(_,(AU (DL (pv 0)<|gtupK (n:=2) K rfl<|CB (An (i:=2) Fp.nd rfl<|Or.inr rfl)<|CB (An (i:=3) Fp.nd rfl<|Or.inr rfl) Dr)<|AU (Av (i:=4) Fp.nd rfl (Or.inr rfl)<|Ws ["face","end"] (show CompSc (defScope HP) ["floor","tie","web","order","bounds","ways","unlike","one","other"] _ ["web","order"] [2,3] from (rfl,#[0],#[0],#[0],rfl,#[0])) rfl (seqK K<|Am b6 (L.mono #[1])<|AB (pv 2)<|AB (pv 3) AF) (λ_ _ _ _ _=>(An (i:=0) (show List.Nodup (["face","end","web","order"]:List Str) from #[1]) rfl<|Or.inl rfl)) (λ_ _ _ _ _=>(seqK K<|pv 0)) (λ_ _ _ _ _=>(An (i:=1) (show List.Nodup (["face","end","web","order"]:List Str) from #[1]) rfl<|Or.inl rfl)) (λ_ _ _ _ _=>(Am b7 (L.mono #[1])<|AB (pv 2)<|AB (pv 3)<|AB (pv 1) AF)) λ_ _ _ _ _=>(pv 0))<|AU (Wt (i:=5) Fp.nd rfl (Or.inl rfl) ["one","other"] (show CompSc (defScope HP) ["floor","tie","web","order","bounds","ways","unlike","one","other"] _ ["tie","order"] [1,3] from (rfl,#[0],#[0],#[0],rfl,#[0])) rfl (seqK K<|Am b5 (L.mono #[1])<|AB (pv 3)<|AB (Ab (ixK K U) (pv 1) AQ λ_ _=>rfl) AF) (λ_ _ _ _ _=>(An (i:=0) (show List.Nodup (["one","other","tie","order"]:List Str) from #[1]) rfl<|Or.inl rfl)) (λ_ _ _ _ _=>(seqK K<|Am b5 (L.mono #[1])<|AB (pv 3)<|AB (Ab (ixK K U) (pv 2) AQ λ_ _=>rfl) AF)) (λ_ _ _ _ _=>(An (i:=1) (show List.Nodup (["one","other","tie","order"]:List Str) from #[1]) rfl<|Or.inl rfl)) λ_ _ _ _ _=>(CG<|AB (pv 0)<|AB (pv 1) AF))<|AU (GZ (i:=6) ["way"] (show CompSc (defScope HP) ["floor","tie","web","order","bounds","ways","unlike","one","other"] _ ["bounds"] [4] from (rfl,#[0],#[0],#[0],rfl,#[0])) rfl Fp.nd rfl (Or.inl rfl) (seqK K<|pv 5) (λ_ _ _ _ _=>(An (i:=0) (show List.Nodup (["way","bounds"]:List Str) from #[1]) rfl<|Or.inl rfl)) (λ_ _ _ _ _=>(D5<|BS (neQK K hv) (bmK K PySem.F.plainAttrs_dict PySem.F.slot_dict_get PySem.F.type_dict_get (Qi U) (pv 1)<|AB (Ab (ixK K U) (pv 0) AQ λ_ _=>rfl)<|AB (Ab (ixK K U) (pv 0) AQ λ_ _=>rfl) AF) (bmK K PySem.F.plainAttrs_dict PySem.F.slot_dict_get PySem.F.type_dict_get (Qi U) (pv 1)<|AB (Ab (ixK K U) (pv 0) AQ λ_ _=>rfl)<|AB (Ab (ixK K U) (pv 0) AQ λ_ _=>rfl) AF)<|nomark _)) λ_ _ _ _ _=>(pv 0))<|AU (DL (Ab (ixK K U) (Ac (addK K) (pv 6)<|pv 5) AQ λ_ _=>rfl)<|gtupK (n:=2) K rfl<|CB (An (i:=7) Fp.nd rfl<|Or.inl rfl)<|CB (An (i:=8) Fp.nd rfl<|Or.inl rfl) Dr)<|Ah<|A8<|Am b8 (L.mono #[1])<|AB (pv 2)<|AB (pv 3)<|AB (pv 7)<|AB (pv 8) AF),Bu (λds V hf=>?_) h);obtain⟨n,t,o,a,b,rfl,C,O,ha,hb,a4,q⟩:=hf;sleep 0;have b1:=O.len;obtain⟨R,N⟩:∃r,o[a]?=some r:=(_,AS #[2]);obtain⟨B,S⟩:∃r,o[b]?=some r:=(_,AS #[2]);obtain⟨na,la,ca⟩:=Rt O N;obtain⟨nb,lb,cb⟩:=Rt O S;have b3:=(O.row a R N).len;have b4:=(O.row b B S).len;have b0:=Kv C O;have a2:=WB C O;refine Ae<|FY<|AA rfl<|Eg rfl<|CU<|BW<|CU<|BW<|Ec ?_;refine Ae<|BM<|V0<|WD<|Cz<|CZ<|EG<|AD<|AA rfl<|AD<|AA rfl<|AK (n,t,o,rfl,C,O,_,rfl,?_);refine(_,Or.inl rfl,λi I=>?_,λi k M=>BdOk (50*i) k/\∃x y:L2.Slot,M = [x,y,.val (A6 n t),.val (Bb o)],((CS _,λ_ h=>(nomatch h)),_,_,rfl),?_,?_)
 ·rcases Az.mp I with rfl|I
  ·exact(_,rfl)
  ·rw[BU.mp I];exact(_,rfl)
 ·rintro i d k M2 g ⟨p,x,y,rfl⟩
  have I:=(BZ.mp g).1;rw[AH]at I;rw[Ad]at g;cases zr:(allF t o)[i]? with
  |none=>rw[zr]at g;cases g
  |some r=>
   rw[zr]at g;cases g;have a1:=Bd zr;have b2:=a2 r a1;refine BW<|DH<|AA rfl (r.map D.int,rfl,λj k M=>BdOk (50*i+j) k/\∃y:L2.Slot,M = [.val (L2.rowD r),y,.val (A6 n t),.val (Bb o)],(p,_,rfl),?_,?_)
   ·rintro j e k M5 m ⟨p,y,rfl⟩
    have a3:=(BZ.mp m).1;rw[AH]at a3;rw[Ad]at m;cases ze:r[j]? with
    |none=>rw[ze]at m;cases m
    |some z=>
     rw[ze]at m;cases m;have hz:0<=z/\z<((2*t.length:Nat):Int):=by
      rcases Zu3 C O a1 with e|⟨e,e1,_,rfl⟩
      ·rw[e]at ze;cases ze
      ·exact FZ (Di C O) #[2] #[2]<|Bd ze
     refine BW<|BR<|AD<|AA rfl<|AD<|AA rfl<|AD<|AA rfl<|AK (n,t,o,z.toNat,?_,C,O,#[2],AA rfl (_,rfl,?_,TH p _<|Zy9 r,_,rfl))
     ·rw[FQ hz.1]
     ·exact EA p.1 (EA (show 50*i+j<=6000 by lia) #[1])
   ·rintro k M5 ⟨p,y,rfl⟩
    rw[AH]at p;exact(TX p #[2],_,_,rfl)
 rintro k M2 ⟨p,x,y,rfl⟩;refine(_,rfl,?_);generalize 50*((allF t o).map L2.rowD).length=M_ at p;refine Ae<|BM<|CZ<|QC<|Cz<|CZ<|EG<|AD<|AA rfl<|AD<|AN<|AA rfl<|AY<|A7 (d:=.int (a:Int)) rfl<|AK (n,t,o,a,R,rfl,C,O,N,_,rfl,?_);refine(_,Or.inl rfl,λi I=>?_,λi od M=>od=.lst (((Bq R a).take i).flatMap λc=>(Bq B b).map λd=>wayD c d)/\∃x y:L2.Slot,M = [x,y,.val (.tup [.int (a:Int),.int (b:Int)]),.val (Bb o)],(rfl,_,_,rfl),?_,?_)
 ·rcases Az.mp I with rfl|I
  ·exact(_,rfl)
  ·rw[BU.mp I];exact(_,rfl)
 ·rintro i d od M2 g ⟨rfl,x,y,rfl⟩
  rw[Ad]at g;cases zc:(Bq R a)[i]? with
  |none=>rw[zc]at g;cases g
  |some c=>
   rw[zc]at g;cases g;have I:=(BZ.mp zc).1;refine BW<|Cz<|CZ<|EG<|AD<|AA rfl<|AD<|AN<|AA rfl<|AY<|A7 (d:=.int (b:Int)) rfl<|AK (n,t,o,b,B,rfl,C,O,S,_,rfl,?_);refine(_,Or.inl rfl,λl od M=>od=.lst ((((Bq R a).take i).flatMap λc=>(Bq B b).map λd=>wayD c d)++((Bq B b).take l).map λd=>wayD c d)/\∃y:L2.Slot,M = [.val (corD c),y,.val (.tup [.int (a:Int),.int (b:Int)]),.val (Bb o)],(by rw[Es,Ii,Bp],_,rfl),?_,?_)
   ·rintro l e a7 M5 m ⟨rfl,y,rfl⟩
    rw[Ad]at m;cases zd:(Bq B b)[l]? with
    |none=>rw[zd]at m;cases m
    |some d=>
     rw[zd]at m;cases m;have hl:=(BZ.mp zd).1;refine BW<|Ru<|CL<|AD<|AA rfl<|AD<|AA rfl<|AK (DA,?_,?_,_,rfl)
     ·have T:(((Bq R a).take i).flatMap λc=>(Bq B b).map λd=>wayD c d).length=((Bq R a).take i).length*(Bq B b).length:=Mw _ _ _ λ_ _=>AH _
      have h2:((Bq R a).take i).length*(Bq B b).length<=49*49:=Nat.mul_le_mul (by rw[Bn];lia) #[2];have h3:((Bq B b).take l).length<=49:=by rw[Bn];lia
      rw[A1,T,AH];exact EA (show _<=3000 by lia) #[1]
     ·rw[CK,Cy,zd,A5]
      rfl
   ·rintro a7 M5 ⟨rfl,y,rfl⟩
    rw[AH,CP];refine(?_,_,_,rfl);rw[Cy,zc,Gz];congr 1;rw[Option.toList_some,L4,List.flatMap_nil,Bp]
 rintro od M2 ⟨rfl,x,y,rfl⟩;rw[AH,CP];refine(_,rfl,?_);have X:((Bq R a).flatMap λc=>(Bq B b).map λd=>wayD c d).length<=49*49:=by
  rw[Mw (Bq B b).length _ _ λ_ _=>AH _];exact Nat.mul_le_mul #[2] #[2]
 have G:∀y∈(Bq R a).flatMap λc=>(Bq B b).map λd=>wayD c d,∃c d,y=wayD c d/\c∈Bq R a/\d∈Bq B b:=λy hy=>by
  obtain⟨c,J,h2⟩:=J3.mp hy;obtain⟨d,g,rfl⟩:=A2.mp h2;exact(c,d,rfl,J,g)
 have Z:((Bq R a).flatMap λc=>(Bq B b).map λd=>wayD c d)≠[]:=by
  intro z;obtain⟨c,J⟩:=Jr _ na;obtain⟨d,g⟩:=Jr _ nb;have:wayD c d∈(Bq R a).flatMap λc=>(Bq B b).map λd=>wayD c d:=J3.mpr (c,J,A2.mpr (d,g,rfl));rw[z]at this;cases this
 generalize ((Bq R a).flatMap λc=>(Bq B b).map λd=>wayD c d)=W at X G Z ⊢;refine Ae<|BM<|LK #[1]<|Cz<|AA rfl (_,Or.inl rfl,EA X #[1],λi Y M=>(∀y∈Y,y∈W)/\Y.length<=i/\∃x:L2.Slot,M = [x,.val (dctD k)],(λ_ h=>(nomatch h),CS _,_,rfl),?_,?_)
 ·rintro i d Y M3 g ⟨T,h2,x,rfl⟩
  have a0:=Bd g;obtain⟨c,e,rfl,_,_⟩:=G d a0;refine Gh #[1]<|Be<|AN (OW (c:=c) rfl p rfl rfl λv a6=>OW (c:=e) rfl p rfl rfl λu a5=>Zz5 a6 a5 λr=>(r,rfl,?_));cases r with
  |true=>
   refine iteT<|AA rfl (λy hy=>?_,by rw[A1,CO];lia,_,rfl);rcases Bo.mp hy with z|z
   ·exact T y z
   ·rw[BU.mp z];exact a0
  |false=>exact iteF (T,#[2],_,rfl)
 rintro Y M3 ⟨T,h2,x3,rfl⟩;obtain⟨y0,e0,m0⟩:∃y0,(Y++W)[0]?=some y0/\y0∈W:=by
  cases Y with
  |nil=>
   cases W with
   |nil=>exact absurd rfl Z
   |cons z l=>exact(z,rfl,Bk)
  |cons z l=>exact(z,rfl,T z Bk)
 obtain⟨c,d,rfl,J,g⟩:=G y0 m0;refine Ae<|FY<|AN<|AN<|AA rfl<|AA rfl<|Ge ?_<|AY<|Dt (Co (j:=0) e0)<|Eg rfl<|CU<|BW<|CU<|BW<|Ec ?_
 ·exact CM (EA (show Y.length+W.length<=6000 by lia) #[1])
 exact BK<|BR<|AD<|AA rfl<|AD<|AA rfl<|AD<|AA rfl<|AD<|AA rfl<|AK (n,t,o,c,d,rfl,C,O,(ca c J).1,(cb d g).1,a4,q c d (ca c J).1 (cb d g).1 (ca c J).2 (cb d g).2)
def B2 (l m:List Int):Prop:=∃a b,l=a++b/\m=b++a
theorem B2.refl (l:List Int):B2 l l:=([],l,rfl,(Bp l).symm)
theorem B2.symm (h:B2 l m):B2 m l:=let ⟨a,b,h1,h2⟩:=h; (b,a,h2,h1)
theorem B2.trans (h1:B2 l m) (h2:B2 m k):B2 l k:=by
 obtain⟨a,b,rfl,e⟩:=h1;obtain⟨c,d,E,rfl⟩:=h2;rw[e]at E;rcases List.append_eq_append_iff.mp E with ⟨x,rfl,rfl⟩|⟨x,rfl,rfl⟩
 ·exact(x,d++b,#[4],#[4])
 ·exact(a++c,x,#[4],#[4])
theorem B2.perm (h:B2 l m):l.Perm m:=by
 obtain⟨a,b,rfl,rfl⟩:=h;exact HC
theorem B2.map (f:Int->Int) (h:B2 l m):B2 (l.map f) (m.map f):=by
 obtain⟨a,b,rfl,rfl⟩:=h;exact(a.map f,b.map f,A5,A5)
theorem B2.filter (f:Int->Bool) (h:B2 l m):B2 (l.filter f) (m.filter f):=by
 obtain⟨a,b,rfl,rfl⟩:=h;exact(a.filter f,b.filter f,Cw ..,Cw ..)
theorem Pj (l:List Int) (j:Nat):B2 l (Cb l j):=(l.take j,l.drop j,(En j l).symm,rfl)
theorem Zz1 (l:List Int):B2 l (lf l):=by
 by_cases h:l=[]
 ·subst h;rw[F4];exact B2.refl _
 ·unfold lf;rw[dif_neg h];exact Pj _ _
theorem Zy4 (j:(x::r).Nodup) (L:∀a∈x::r,x<=a) (h:B2 (x::r) l):lf l=x::r:=by
 obtain⟨a,b,H,rfl⟩:=h;have p:(b++a).Perm (x::r):=by rw[H];exact HC
 rw[Jl (p.mem_iff.mpr Bk) λc C=>L c (p.mem_iff.mp C)];cases a with
 |nil=>
  rw[HJ]at H;rw[Bp,<- H,Ly];unfold Cb;rw[Jv,Es,Bp]
 |cons y a=>
  rw[J5]at H;obtain⟨rfl,rfl⟩:=FT.inj H;have X:x ∉ b:=λz=>(DB.mp j).1 (Bx _ z);rw[List.idxOf_append,AL X,Ly,GL];unfold Cb;rw[List.drop_left,List.take_left];rfl
theorem Zui (j:(y::l).Nodup) (h:B2 (y::l) (y::m)):l=m:=by
 obtain⟨a,b,H,c⟩:=h;cases a with
 |nil=>
  rw[Bp]at c;rw[HJ]at H;exact(FT.inj<|H.trans c.symm).2
 |cons x a=>
  cases b with
  |nil=>
   rw[Bp]at H;rw[HJ]at c;exact(FT.inj<|H.trans c.symm).2
  |cons z b=>
   obtain⟨rfl,rfl⟩:=FT.inj H;obtain⟨rfl,_⟩:=FT.inj c;exact absurd (Bx _ Bk) (DB.mp j).1
structure Good (u:List Int):Prop where
 nd:u.Nodup
 le:∀h∈u.head?,∀a∈u,h<=a
theorem RE (g:Good u) (h:B2 u l):lf l=u:=by
 cases u with
 |nil=>rw[GH (h.perm.length_eq.symm:l.length=0)];exact F4
 |cons x u=>exact Zy4 g.nd (g.le x rfl) h
theorem CW.good (R:CW ts m p r):Good r:=by
 refine(R.nodup,λh H a A=>?_);cases r with
 |nil=>cases H
 |cons x r=>
  cases H;rcases Az.mp A with rfl|A
  ·exact ET _
  ·exact R.least a A
theorem Jd (h:e∈r):∃q,Cb r (r.idxOf e)=e::q/\B2 r (e::q):=by
 obtain⟨H,a,_⟩:=D7 h;have E:r.drop (r.idxOf e)=e::r.drop (r.idxOf e+1):=by
  rw[List.drop_eq_getElem_cons H];rw[AS H]at a;rw[CF.inj a]
 refine(r.drop (r.idxOf e+1)++r.take (r.idxOf e),?_,?_)
 ·unfold Cb;rw[E];rfl
 ·have:=Pj r (r.idxOf e)
  unfold Cb at this;rw[E]at this;exact this
theorem Ke (j:r.Nodup) (h:B2 r (e::q)):(e::q).Nodup:=h.perm.nodup_iff.mp j
theorem Zum (h:e∈r) (j:Cb r (r.idxOf e)=e::z::q):Aw r e=z:=by
 obtain⟨H,a,_⟩:=D7 h;have E:(Cb r<|r.idxOf e)[1]?=some z:=by rw[j];rfl
 unfold Cb at E;unfold Aw;rw[Al];by_cases l:r.idxOf e+1<r.length
 ·rw[Dp (by rw[DR];lia),HG]at E
  rw[Nat.mod_eq_of_lt l,E];rfl
 ·have l:r.idxOf e+1=r.length:=by lia
  rw[Ci (by rw[DR];lia),DR,show 1-(r.length-r.idxOf e)=0 by omega]at E;rw[l,Nat.mod_self];have i:0<r.idxOf e:=by
   rcases Lr (r.idxOf e) with Z|Z
   ·rw[Z,Es]at E;cases E
   ·exact Z
  rw[Lv i]at E;rw[E];rfl
theorem Ey (j:s.Nodup) (h:B2 s (y::z::q)):Aw s y=z:=by
 have Y:y∈s:=h.perm.mem_iff.mpr Bk;obtain⟨a,Q,r⟩:=Jd Y;have e:=Zui (Ke j r)<|r.symm.trans h;subst e;exact Zum Y Q
theorem NM (y:Int):Aw [y] y=y:=by
 unfold Aw;rw[Ly,show (0+1) % [y].length=0 from Nat.mod_self 1];rfl
theorem Nt {f:Int->Int}(L:r.Nodup) (z:r=x::t) (hf:∀y∈r,f y=Aw r y):orb f x=r:=by
 have H:0<r.length:=by rw[z];simp
 have T:∀i,i<r.length->iter f x i=r.getD i 0:=λi=>by
  induction i with
  |zero=>intro _;rw[z];rfl
  |succ i ih=>
   intro h;have g:r[i]?=some (r.getD i 0):=by rw[Al,AS #[2]];rfl
   show f (iter f x i)=_;rw[ih #[3],hf _ (Bd g),Hj L g];unfold nxI;rw[AL #[2]]
 have O:DO f x r.length:=by
  refine(H,?_,λi j h J q=>?_)
  ·have g:r[r.length-1]?=some (r.getD (r.length-1) 0):=by rw[Al,AS #[3]];rfl
   rw[show r.length=(r.length-1)+1 by lia];show f (iter f x<|r.length-1)=x;rw[T _ #[3],hf _ (Bd g),Hj L g];unfold nxI;rw[AM #[2],z];rfl
  ·rw[T i h,T j J,Al,Al,AS h,AS J]at q
   exact(IJ L).mp q
 rw[O.orb];unfold Bi;apply Dz;intro i;by_cases h:i<r.length
 ·rw[Ad,Ep h,AS h]
  show some (iter f x i)=_;rw[T i h,Al,AS h];rfl
 ·rw[FP (by rw[AH,By];omega),FP #[3]]
end
theorem Ml (F:CY f m) (h0:0<=e) (h1:e<(m:Int)) (j:x∈orb f e):Aw (orb f e) x=f x:=by
 obtain⟨i,h,rfl⟩:=Cq.mp j;have O:=D9 F h0 h1;have l:(orb f e).length=per f e:=by unfold orb;rw[EB]
 have g:(orb f e)[i]?=some (iter f e i):=Kp h;rw[Hj (Ks F h0 h1) g];unfold nxI;rw[l];by_cases z:i+1=per f e
 ·rw[AM z,Al,show (orb f e)[0]?=some (iter f e 0) from Kp O.pos]
  show e=f (iter f e i);have:=O.back;rw[<- z]at this;exact this.symm
 ·rw[AL z,Al,show (orb f e)[i+1]?=some (iter f e<|i+1) from Kp #[2]]
  rfl
def skip (t:Nat) (f:Int->Int) (e:Int):Int:=if Bc t (f e)=true then f e else if Bc t (f<|f e)=true then f (f e) else f (f<|f e)
theorem Mm (h:B2 r [y]):r=[y]:=by
 have l:r.length=1:=h.perm.length_eq
 match r,l,h with
 |[w],_,h=>rw[BU.mp (h.perm.mem_iff.mp Bk)]
theorem NI (j:r.Nodup) (h:B2 r s) (Y:y∈r):Aw s y=Aw r y:=by
 obtain⟨q,_,R⟩:=Jd Y;cases q with
 |nil=>rw[Mm R,Mm (h.symm.trans R)]
 |cons z q=>rw[Ey j R,Ey (h.perm.nodup_iff.mp j) (h.symm.trans R)]
theorem Zv2 (J:r.Nodup) (j:B2 r (z::q)) (Y:y∈q):Aw q y=if Aw r y=z then Aw r z else Aw r y:=by
 have d:=Ke J j;obtain⟨N,n⟩:=DB.mp d;obtain⟨a,b,rfl⟩:=List.append_of_mem Y;cases b with
 |nil=>
  have E:Aw r y=z:=Ey (q:=a) J<|j.trans (z::a,[y],rfl,rfl);rw[AM E];cases a with
  |nil=>rw[Ey (q:=[]) J j];exact NM y
  |cons w a=>rw[Ey (q:=a++[y]) J j,Ey (z:=w) (q:=a) n (w::a,[y],rfl,rfl)]
 |cons w b=>
  have E:Aw r y=w:=Ey (q:=b++z::a) J<|j.trans (z::a,y::w::b,rfl,rfl);have h:w≠z:=λe=>N (by rw[<- e];simp);rw[E,AL h,Ey (z:=w) (q:=b++a) n (a,y::w::b,rfl,rfl)]
theorem Pm (j:r.Nodup) (J:k z=false) (hz:∀a∈r,k a=false->a=z) (Y:y∈r) (L:k y=true):Aw (r.filter k) y=if Aw r y=z then Aw r z else Aw r y:=by
 by_cases hm:z∈r
 ·obtain⟨q,_,R⟩:=Jd hm
  have d:=Ke j R;have F:(z::q).filter k=q:=by
   rw[List.filter_cons_of_neg (by rw[J];exact BL)];refine Cd.mpr λa h=>?_;cases e:k a with
   |true=>rfl
   |false=>exact absurd (hz a (R.perm.mem_iff.mpr (Bs _ h)) e ▸ h) (DB.mp d).1
  have f:=R.filter k;rw[F]at f;have Q:y∈q:=by
   rcases Az.mp (R.perm.mem_iff.mp Y) with e|e
   ·rw[e,J]at L;cases L
   ·exact e
  rw[<- Zv2 j R Q];exact(NI (j.sublist GK) f<|f.perm.mem_iff.mpr Q).symm
 ·have E:r.filter k=r:=Cd.mpr λa h=>by
   cases e:k a with
   |true=>rfl
   |false=>exact absurd (hz a h e ▸ h) hm
  rw[E,AL λe:Aw r y=z=>hm (e ▸ Fy Y)]
theorem U7 (O:r.Nodup) (J:y∈r) (L:Bc t y=true):Aw (r.filter<|Bc t) y=skip t (Aw r) y:=by
 have d:∀a:Int,Bc t a=false↔a=2*(t:Int)\/a=2*(t:Int)+1:=λa=>by
  unfold Bc;rw[decide_eq_false_iff_not];lia
 have f:Bc t (2*(t:Int))=false:=(d _).mpr (Or.inl rfl);have K:Bc t (2*(t:Int)+1)=false:=(d _).mpr (Or.inr rfl);generalize hX:2*(t:Int)=X at d f K;generalize hY:X+1=Y at d K;have c:X≠Y:=#[2]
 have l:y≠X:=λe=>by rw[e,f]at L;cases L
 have m:y≠Y:=λe=>by rw[e,K]at L;cases L
 have A:∀w∈r,w≠X->Aw (r.filter λa=>decide<|a≠X) w=if Aw r w=X then Aw r X else Aw r w:=λw W E=>
  Pm O #[4] (λa _ h=>#[8]) W (by simpa using E)
 have F:(r.filter λa=>decide<|a≠X).filter (Bc t)=r.filter (Bc t):=by
  rw[Cj];refine CJ λa _=>?_;by_cases e:a=X
  ·rw[e,f];rfl
  ·rw[Au e,GR]
 have D:(r.filter λa=>decide (a≠X)).Nodup:=O.sublist GK;have i:y∈r.filter λa=>decide (a≠X):=Ao.mpr (J,Au l);have B:=Pm (k:=Bc t) (z:=Y) D K (λa g h=>by
  rcases(d a).mp h with e|e
  ·exact absurd e<|of_decide_eq_true (Ao.mp g).2
  ·exact e) i L
 rw[F]at B;rw[B,A y J l];have n:=Fy J;have j:∀{a b:Int},a∈r->b∈r->Aw r a=Aw r b->a=b:=λg o h=>Qy O g o h;unfold skip;by_cases e1:Aw r y=X
 ·rw[AM e1,e1,f,AL BL]
  have x:X∈r:=e1 ▸ n;have p:Aw r X≠X:=λe=>l<|j J x<|e1.trans e.symm;by_cases e2:Aw r X=Y
  ·have H:Y∈r:=e2 ▸ Fy x
   have N:Aw r Y≠X:=λe=>m<|j J H<|e1.trans e.symm;rw[AM e2,e2,K,AL BL,A Y H (Ne.symm c),AL N]
  ·rw[AL e2,AM]
   cases e:Bc t (Aw r X) with
   |true=>rfl
   |false=>rcases(d _).mp e with z|z;exact absurd z p;exact absurd z e2
 ·rw[AL e1]
  by_cases e2:Aw r y=Y
  ·rw[AM e2,e2,K,AL BL]
   have H:Y∈r:=e2 ▸ n;have N:Aw r Y≠Y:=λe=>m<|j J H<|e2.trans e.symm;rw[A Y H (Ne.symm c)];by_cases e3:Aw r Y=X
   ·rw[AM e3,e3,f,AL BL]
   ·rw[AL e3,AM]
    cases e:Bc t (Aw r Y) with
    |true=>rfl
    |false=>rcases(d _).mp e with z|z;exact absurd z e3;exact absurd z N
  ·rw[AL e2,AM]
   cases e:Bc t (Aw r y) with
   |true=>rfl
   |false=>rcases(d _).mp e with z|z;exact absurd z e1;exact absurd z e2
theorem Zvu {g:Int->Int}{r:List Int}{y:Int}(j:r.Nodup) (J:∀a∈r,∀b∈r,g a=g b->a=b) (Y:y∈r):Aw (r.map g) (g y)=g (Aw r y):=by
 have m:(r.map g).Nodup:=DX.mpr<|List.Pairwise.imp_of_mem (λA B n e=>n<|J _ A _ B e) j;obtain⟨q,_,h⟩:=Jd Y;have M:=h.map g;cases q with
 |nil=>rw[Mm h];show Aw [g y] (g y)=g (Aw [y] y);rw[NM,NM]
 |cons z q=>rw[Ey j h,Ey (z:=g z) (q:=q.map g) m M]
theorem Nk (j:Bc t a=true) (z:Bc t b=true) (h:outE t a=outE t b):a=b:=by
 have j:=of_decide_eq_true j;have z:=of_decide_eq_true z;unfold outE at h;split at h <;> split at h <;> lia
theorem Oo (J:r.Nodup) (Y:y∈r) (z:Bc t y=true):Aw (BP t r) (outE t y)=outE t (skip t (Aw r) y):=by
 have d:(r.filter<|Bc t).Nodup:=J.sublist GK;have j:∀a∈r.filter (Bc t),∀b∈r.filter (Bc t),outE t a=outE t b->a=b:=λa A b B h=>Nk (Ao.mp A).2 (Ao.mp B).2 h;have f:y∈r.filter (Bc t):=Ao.mpr (Y,z);have m:((r.filter<|Bc t).map (outE t)).Nodup:=DX.mpr<|List.Pairwise.imp_of_mem (λA B n e=>n<|j _ A _ B e) d;unfold BP;rw[NI m (Zz1 _) (A2.mpr (y,f,rfl)),Zvu d j f,U7 J Y z]
theorem Kk:x∈BP t r ↔ ∃y∈r,Bc t y=true/\outE t y=x:=by
 unfold BP;rw[(Hr _).mem_iff,A2];constructor
 ·rintro⟨y,h,rfl⟩;exact(y,(Ao.mp h).1,(Ao.mp h).2,rfl)
 ·rintro⟨y,H,a,rfl⟩;exact(y,Ao.mpr (H,a),rfl)
theorem Up (j:r.Nodup):(BP t r).Nodup:=by
 unfold BP;rw[(Hr _).nodup_iff];exact DX.mpr<|List.Pairwise.imp_of_mem (λa b n e=>n<|Nk (Ao.mp a).2 (Ao.mp b).2 e)<|j.sublist GK
theorem WR (e:lf l=x::t):∀a∈lf l,x<=a:=λa A=>by
 by_cases h:l=[]
 ·rw[h,F4]at e;cases e
 ·obtain⟨m,M,E⟩:=E2 l h
  have H:=RC M E;rw[e]at H;cases H;exact E a ((Hr l).mem_iff.mp A)
theorem Kb {l:Ay}:l.flatten.Nodup->(l.filter λr=>!r.isEmpty).Nodup:=by
 induction l with
 |nil=>intro _;exact Ie
 |cons r l ih=>
  intro h;rw[J1,DY]at h;cases r with
  |nil=>exact ih h.2.1
  |cons x t=>
   rw[List.filter_cons_of_pos (by rfl),DB];refine(λz=>?_,ih h.2.1);have:=(Ao.mp z).1;exact h.2.2 x Bk x (IH.mpr (_,this,Bk)) rfl
theorem QV (t:Nat):∀R:Ay,(R.map<|BP t).flatten.Perm ((R.flatten.filter<|Bc t).map (outE t))
 |[]=>.refl _
 |r::R=>by
  rw[BO,J1,J1,Cw,A5];exact List.Perm.append (Hr _)<|QV t R
theorem JL (F:CY f m) (j:r∈BG f m):∃e:Nat,e<m/\BB f e=true/\r=orb f (e:Int)/\(e:Int)∈r:=by
 unfold BG at j;obtain⟨e,h,rfl⟩:=A2.mp j;have h:=Ao.mp h;have M:=BD.mp h.1;exact(e,M,h.2,rfl,FX F #[3] #[3])
theorem WC (F:CY f m) (j:r∈BG f m) (z:s∈BG f m) (h0:0<=x) (h1:x<(m:Int)) (J:x∈r) (xs:x∈s):r=s:=by
 obtain⟨e,_,_,_,h⟩:=Kt F h0 h1;rw[(h r j).mp J,(h s z).mp xs]
section
variable {f G:Int->Int}{m t:Nat}(F:CY f (2*m)) (GG:CY G (2*(m-1))) (ht:t<m) (hG:∀e:Int,0<=e->e<((2*m:Nat):Int)->Bc t e=true->G (outE t e)=outE t (skip t f e))
include F GG ht hG
theorem QP {r:List Int}(J:r∈BG f (2*m)) (z:BP t r≠[]):BP t r∈BG G (2*(m-1)):=by
 obtain⟨e,j,_,rfl,_⟩:=JL F J;have E:(0:Int)<=(e:Int):=#[3]
 have a:(e:Int)<((2*m:Nat):Int):=#[2]
 have d:=Ks F E a;cases hu:BP t (orb f (e:Int)) with
 |nil=>exact absurd hu z
 |cons h tl=>
  have p:∀y∈BP t (orb f (e:Int)),G y=Aw (BP t<|orb f (e:Int)) y:=λy Y=>by
   obtain⟨x,X,k,rfl⟩:=Kk.mp Y;have R:=FZ F E a X;rw[hG x R.1 R.2 k,Oo d X k];have n:=Ml F E a X;have M:f x∈orb f (e:Int):=by rw[<- n];exact Fy X
   have N:=Ml F E a M;have g:f (f x)∈orb f (e:Int):=by rw[<- N];exact Fy M
   have i:=Ml F E a g;unfold skip;rw[n,N,i]
  have o:=Nt (Up d) hu p;have H:h∈BP t (orb f (e:Int)):=by rw[hu];exact Bk
  obtain⟨x,X,k,b⟩:=Kk.mp H;have R:=FZ F E a X;have K:=of_decide_eq_true k;have B:0<=h/\h<((2*(m-1):Nat):Int):=by
   rw[<- b];unfold outE;split <;> lia
  have c:((h.toNat:Nat):Int)=h:=#[2]
  have l:∀x∈orb G ((h.toNat:Nat):Int),((h.toNat:Nat):Int)<=x:=by
   rw[c,o];exact WR hu
  have:=JX GG (e:=h.toNat) #[2]<|Au l;rw[show ((h.toNat:Nat):Int)=h by omega,o]at this;rw[<- hu];exact this
theorem Vb:(BG G (2*(m-1))).Perm (((BG f (2*m)).map (BP t)).filter λr=>!r.isEmpty):=by
 have d:=Kb<|Kc GG;have b:((BG G (2*(m-1))).filter λr=>!r.isEmpty)=BG G (2*(m-1)):=Cd.mpr λr R=>by
  obtain⟨e,_,_,_,h⟩:=JL GG R;cases r with
  |nil=>cases h
  |cons _ _=>rfl
 rw[b]at d;have D:(((BG f (2*m)).map (BP t)).filter λr=>!r.isEmpty).Nodup:=by
  refine Kb ?_;rw[(QV t _).nodup_iff];exact DX.mpr<|List.Pairwise.imp_of_mem (λA B n e=>n<|Nk (Ao.mp A).2 (Ao.mp B).2 e) ((Kc F).sublist GK)
 rw[Fh d D];intro r;rw[Ao,A2];constructor
 ·intro R
  obtain⟨g,o,_,l,a⟩:=JL GG R
  -- the end that got this number
  obtain⟨x,p,q,k,i⟩:∃x:Int,0<=x/\x<((2*m:Nat):Int)/\Bc t x=true/\outE t x=(g:Int):=by
   by_cases c:g<2*t
   ·exact((g:Int),#[3],#[2],Au #[2],by unfold outE;rw[AM #[2]])
   ·exact((g:Int)+2,#[2],#[2],Au #[2],by unfold outE;rw[AL #[2]];lia)
  have j:x∈(BG f (2*m)).flatten:=(Vo F).mem_iff.mpr (A2.mpr (x.toNat,BD.mpr #[2],#[2]));obtain⟨s,H,X⟩:=IH.mp j;have S:(g:Int)∈BP t s:=Kk.mpr (x,X,k,i);have n:BP t s≠[]:=λe=>by rw[e]at S;cases S
  have E:=WC GG R (QP F GG ht hG H n) #[2] #[2] a S;refine((s,H,E.symm),?_);rw[E];cases h:BP t s with
  |nil=>exact absurd h n
  |cons _ _=>rfl
 ·rintro⟨⟨s,H,rfl⟩,n⟩
  exact QP F GG ht hG H λe=>by rw[e]at n;cases n
end
theorem Us (f:Int->Int) (k:Nat):(BG f k).length=cnt f k λ_=>true:=by
 unfold BG cnt;rw[AH];congr 1;refine CJ λe _=>?_;rw[GR]
theorem Ki (hW:AZ n ts) (hO:A0 n ts o) {p:Nat}(j:o[p]?=some r) (Y:y∈r):0<=y/\y<((2*ts.length:Nat):Int)/\Bf ts o y.toNat=r/\CV ts o y.toNat=Aw r y:=by
 obtain⟨k,K,h,rfl⟩:=(hO.row p r j).mem.mp Y;have e:Bf ts o k=r:=by unfold Bf;rw[h,Aq,Al,j];rfl
 rw[Aq];refine(#[2],#[2],e,?_);unfold CV;rw[e]
noncomputable def unF (ts:AR) (o:Ay) (t:Nat):Int->Int:=A9 (onI ts o) ((2*t:Nat):Int) ((2*t+1:Nat):Int)
theorem U6 (t:Nat):partner (2*t)=2*t+1/\partner (2*t+1)=2*t:=by
 unfold partner;constructor <;> split <;> lia
theorem Zvs (h:Bc t y=false):y=((2*t:Nat):Int)\/y=((2*t+1:Nat):Int):=by
 have:=of_decide_eq_false h;have:=Decidable.not_not.mp this;lia
theorem NH (h:Bc t y=false):unF ts o t y=CV ts o y.toNat:=by
 obtain⟨p,P⟩:=U6 t;unfold unF;rcases Zvs h with rfl|rfl
 ·rw[Fb];unfold onI;rw[Aq,Aq,P]
 ·rw[F7];unfold onI;rw[Aq,Aq,p]
theorem Zu4 (h:Bc t y=true):unF ts o t y=onI ts o y:=by
 have:=of_decide_eq_true h;exact EH #[2] #[2]
section
variable {n:Int}{ts:AR}{o:Ay}(hW:AZ n ts) (hO:A0 n ts o) {t:Nat}(ht:t<ts.length)
include hW hO ht
theorem Ra:CY (unF ts o t) (2*ts.length):=GX (Di hW hO) #[3] #[3] #[3] #[3]
theorem Zzx {e:Int}(z:0<=e) (J:e<((2*ts.length:Nat):Int)) (j:Bc t e=true):onI (ts.eraseIdx t) (o.map<|BP t) (outE t e)=outE t (skip t (unF ts o t) e):=by
 have K:=of_decide_eq_true j
 -- the partner
 have H:=EZ (show e.toNat<2*ts.length by omega);have E:(partner e.toNat) / 2=e.toNat / 2:=by unfold partner;split <;> lia
 have k:Bc t ((partner e.toNat:Nat):Int)=true:=Au #[2];obtain⟨G,a,g⟩:=E5 hW hO H;have P:partner (outE t e).toNat=(if partner e.toNat<2*t then partner e.toNat else partner e.toNat-2):=by
  unfold outE partner
  (repeat' split) <;> lia
 have O:((if partner e.toNat<2*t then partner e.toNat else partner e.toNat-2:Nat):Int)=outE t ((partner e.toNat:Nat):Int):=by
  unfold outE
  (repeat' split) <;> lia
 generalize hρ:Bf ts o (partner e.toNat)=r at G a g;have s:onI (ts.eraseIdx t) (o.map<|BP t) (outE t e)=Aw (BP t r) (outE t ((partner e.toNat:Nat):Int)):=by
  unfold onI CV;rw[P];have w:Bf (ts.eraseIdx t) (o.map<|BP t) (if partner e.toNat<2*t then partner e.toNat else partner e.toNat-2)=BP t r:=by
   unfold Bf;rw[Md #[2],Al,Ad,G];rfl
  rw[w,O]
 rw[s,Oo a.nodup g k];congr 1;have f:∀{y:Int},y∈r->CV ts o y.toNat=Aw r y:=λY=>(Ki hW hO G Y).2.2.2;have A:unF ts o t e=Aw r ((partner e.toNat:Nat):Int):=by
  rw[Zu4 j];have:=f g;rw[Aq]at this;exact this
 have i:=Fy g;have p:∀{y:Int},y∈r->Bc t y=false->unF ts o t y=Aw r y:=λY h=>(NH h).trans (f Y);unfold skip;rw[A];cases k1:Bc t (Aw r ((partner e.toNat:Nat):Int)) with
 |true=>rfl
 |false=>
  rw[AL BL,AL BL,p i k1];have I:=Fy i;cases k2:Bc t (Aw r<|Aw r ((partner e.toNat:Nat):Int)) with
  |true=>rfl
  |false=>rw[AL BL,AL BL,p I k2]
theorem RI:(ts.eraseIdx t).length=ts.length-1:=by rw[Lx,AM ht]
theorem Zzh:CY (onI (ts.eraseIdx t)<|o.map<|BP t) (2*(ts.length-1)):=by
 have:=Di (RB hW t)<|Rg hO ht;rw[RI hW hO ht]at this;exact this
theorem Zu5:(o.filter λr=>!r.isEmpty && (BP t r).isEmpty).Perm ((BG (unF ts o t) (2*ts.length)).filter λr=>!r.isEmpty && (BP t r).isEmpty):=by
 have U:=Ra hW hO ht;have D:(o.filter λr=>!r.isEmpty && (BP t r).isEmpty).Nodup:=by
  have e:(o.filter λr=>!r.isEmpty && (BP t r).isEmpty)=(o.filter λr=>!r.isEmpty).filter λr=>(BP t r).isEmpty:=by
   rw[Cj];exact CJ λr _=>HF ..
  rw[e];exact(Kb hO.flat).sublist GK
 have F:((BG (unF ts o t) (2*ts.length)).filter λr=>!r.isEmpty && (BP t r).isEmpty).Nodup:=by
  have e:((BG (unF ts o t) (2*ts.length)).filter λr=>!r.isEmpty && (BP t r).isEmpty)=((BG (unF ts o t) (2*ts.length)).filter λr=>!r.isEmpty).filter λr=>(BP t r).isEmpty:=by
   rw[Cj];exact CJ λr _=>HF ..
  rw[e];exact(Kb<|Kc U).sublist GK
 rw[Fh D F];intro r;rw[Ao,Ao];have n:(BP t r).isEmpty=true->∀y∈r,Bc t y=false:=λh y Y=>by
  cases k:Bc t y with
  |false=>rfl
  |true=>
   have:outE t y∈BP t r:=Kk.mpr (y,Y,k,rfl);rw[II.mp h]at this;cases this
 constructor
 ·rintro⟨f,P⟩
  refine(?_,P);rw[CT]at P;have N:=n P.2;obtain⟨p,H⟩:=ER.mp f;have R:=hO.row p r H;cases r with
  |nil=>cases P.1
  |cons h tl=>
   have s:∀y∈h::tl,unF ts o t y=Aw (h::tl) y:=λy Y=>(NH<|N y Y).trans (Ki hW hO H Y).2.2.2;have v:=Nt R.nodup rfl s;obtain⟨X,h1,_,_⟩:=Ki hW hO H<|Bk (a:=h);have u:((h.toNat:Nat):Int)=h:=#[2]
   have l:∀x∈orb (unF ts o t) ((h.toNat:Nat):Int),((h.toNat:Nat):Int)<=x:=by
    rw[u,v];intro x hx;rcases Az.mp hx with z|z
    ·lia
    ·exact R.least x z
   have:=JX U (e:=h.toNat) #[2]<|Au l;rw[u,v]at this;exact this
 ·rintro⟨f,P⟩
  refine(?_,P);rw[CT]at P;have N:=n P.2;obtain⟨e,K,V,c,L⟩:=JL U f;obtain⟨G,g,C⟩:=E5 hW hO K;obtain⟨q,_,Q⟩:=Jd C;have d:=Ke g.nodup Q
  -- the follower alone
  have W:orb (λy=>CV ts o y.toNat) (e:Int)=(e:Int)::q:=Nt d rfl λy Y=>by
   have b:=Q.perm.mem_iff.mpr Y;rw[(Ki hW hO G b).2.2.2,<- NI g.nodup Q b]
  have T:∀j,iter (unF ts o t) (e:Int) j=iter (λy=>CV ts o y.toNat) (e:Int) j:=λj=>by
   induction j with
   |zero=>rfl
   |succ j ih=>
    show unF ts o t (iter (unF ts o t) (e:Int) j)=CV ts o (iter (λy=>CV ts o y.toNat) (e:Int) j).toNat;rw[<- ih];exact NH<|N _ (by rw[c];exact Dc U #[2] #[2] j)
  have O:=D9 U (e:=(e:Int)) #[3] #[3];have w:DO (λy=>CV ts o y.toNat) (e:Int) (per (unF ts o t) (e:Int)):=(O.pos,by rw[<- T];exact O.back,λi j M S z=>O.nd i j M S (by rw[T,T];exact z));have E:r=(e:Int)::q:=by
   rw[c,<- W,w.orb];unfold orb Bi;exact Dq λi _=>T i
  have Z:=of_decide_eq_true (show decide (∀x∈orb (unF ts o t) (e:Int),(e:Int)<=x)=true from V);rw[<- c]at Z;have I:Good r:=(by rw[E];exact d,λh m a J=>by rw[E]at m;cases m;exact Z a J);have A:lf r=Bf ts o e:=RE g.good (by rw[E];exact Q);have B:lf r=r:=RE I<|B2.refl _;rw[<- B,A];exact Bd G
theorem Wx:((allF (ts.eraseIdx t)<|o.map<|BP t).length:Int)=((allF ts o).length:Int)+(if ((2*t+1:Nat):Int)∈orb (onI ts o) ((2*t:Nat):Int) then 1 else -1):=by
 have U:=Ra hW hO ht;have p:=(Zu5 hW hO ht).length_eq;have f:=(Vb U (Zzh hW hO ht) ht λe d E k=>Zzx hW hO ht d E k).length_eq;rw[DC,AH]at f
 -- rows left bare
 have g:lone (o.map<|BP t)=lone o+(o.filter λr=>!r.isEmpty && (BP t r).isEmpty).length:=by
  unfold lone;rw[DC,AH,Ex (λr=>r.isEmpty) (o.filter ((λr=>r.isEmpty)∘BP t)),Cj,Cj];congr 1;refine congrArg BQ (CJ λr _=>?_);cases r with
  |nil=>
   have:BP t []=[]:=F4;show (([]:List Int).isEmpty && (BP t []).isEmpty)=([]:List Int).isEmpty;rw[this];rfl
  |cons _ _=>rfl
 have s:=Ex (λr=>!r.isEmpty && (BP t r).isEmpty)<|BG (unF ts o t) (2*ts.length);have E:((BG (unF ts o t) (2*ts.length)).filter λr=>!(!r.isEmpty && (BP t r).isEmpty))=(BG (unF ts o t) (2*ts.length)).filter ((λr=>!r.isEmpty)∘BP t):=CJ λr H=>by
  obtain⟨e,_,_,_,R⟩:=JL U H;cases r with
  |nil=>cases R
  |cons _ _=>rfl
 rw[E]at s;have L:(allF (ts.eraseIdx t)<|o.map<|BP t).length=lone o+(BG (unF ts o t) (2*ts.length)).length:=by
  unfold allF;rw[A1,Cc,RI hW hO ht,f,g];lia
 have l:(allF ts o).length=lone o+(BG (onI ts o) (2*ts.length)).length:=by
  unfold allF;rw[A1,Cc]
 rw[Us]at L l;have O:=Di hW hO;by_cases h:((2*t+1:Nat):Int)∈orb (onI ts o) ((2*t:Nat):Int)
 ·have c:=NT O (a:=((2*t:Nat):Int)) (b:=((2*t+1:Nat):Int)) #[2] #[2] #[2] #[2] #[2] h (λ_=>true) λ_ _=>rfl
  rw[AM rfl]at c;rw[AM h,L,l];show ((lone o+cnt (A9 (onI ts o) ((2*t:Nat):Int) ((2*t+1:Nat):Int)) (2*ts.length) λ_=>true:Nat):Int)=_;rw[c];lia
 ·have c:=Qw O (a:=((2*t:Nat):Int)) (b:=((2*t+1:Nat):Int)) #[3] #[3] #[3] #[3] h (λ_=>true) (λ_ _=>rfl) λ_ _=>rfl
  rw[AM rfl]at c;rw[AL h,L,l,c];show ((lone o+cnt (A9 (onI ts o) ((2*t:Nat):Int) ((2*t+1:Nat):Int)) (2*ts.length) λ_=>true:Nat):Int)=_;lia
end
theorem NG {α:Type}{P:List α -> Prop}(h0:P []) (h1:∀l a,P l->P (l++[a])) (l:List α):P l:=by
 have:∀r:List α,P r.reverse:=λr=>by
  induction r with
  |nil=>exact h0
  |cons a r ih=>rw[Lz];exact h1 _ _ ih
 have:=this l.reverse
 rwa [List.reverse_reverse]at this
theorem Np (N:Nat) (us:AR) (u:Int × Int):AG N (us++[u])=Cu (AG N us) u.1 u.2:=by
 unfold AG;rw[L3];rfl
theorem EF (h:AZ n (us++vs)):AZ n us:=(h.lo,h.hi,by have:=h.len;rw[A1]at this;lia,λt T=>h.tie t<|D1 _ T)
theorem K6 (h:AZ n us) (j:us.Perm vs):AZ n vs:=(h.lo,h.hi,by have:=h.len;have:=j.length_eq;lia,λt T=>h.tie t<|j.mem_iff.mpr T)
theorem Zvj (N:Nat) (us:AR):∀p:Nat,p<N->(AG N us).getD p 0<=(p:Int):=by
 refine NG (P:=λus=>∀p:Nat,p<N->(AG N us).getD p 0<=(p:Int)) (λp H=>?_) (λus u I p H=>?_) us
 ·show (((Af N).map λi:Nat=>(i:Int)).getD p 0)<=_
  rw[Al,Ad,Ep H];exact ET _
 ·rw[Np,E4 _ _ _ (by rw[CC];exact H)]
  have h:=I p H;split
  ·rename_i z
   rw[z]at h;refine Int.le_trans ?_ h;unfold loI hiI;split <;> split <;> lia
  ·exact h
theorem UB {N:Nat}(h:AZ (N:Int) us) (j:0<=p) (z:p<(N:Int)):0<=mk N us p/\mk N us p<(N:Int):=by
 have:=JW h<|Hv (ts:=us) j z;exact(this.1,this.2.1)
theorem OX {N:Nat}(h:AZ (N:Int) us) (k:AZ (N:Int) vs) (e:∀t,t∈us->t∈vs) (j:0<=p) (z:p<(N:Int)):mk N vs p<=mk N us p:=by
 have a:=Nm h (g:=mk N vs) (λt T=>LU k<|e t T) j z;have b:=UB h j z;have c:=Zvj N vs (mk N us p).toNat #[2];have d:mk N vs (mk N us p)=(AG N vs).getD (mk N us p).toNat 0:=rfl;lia
theorem Vg {N:Nat}(h:AZ (N:Int) us) (e:us.Perm vs):AG N us=AG N vs:=by
 have k:=K6 h e;apply GO
 ·rw[CC,CC]
 ·intro i h1 h2
  have d:=CC N us;have f:=CC N vs;have a:=OX h k (λt T=>e.mem_iff.mp T) (p:=(i:Int)) #[2] #[2];have b:=OX k h (λt T=>e.mem_iff.mpr T) (p:=(i:Int)) #[3] #[3];have c:∀l:List Int,∀L:i<l.length,l.getD (i:Int).toNat 0=l[i]:=λl L=>by rw[Aq,Al,AS L];rfl
  unfold mk at a b;rw[c _ h1,c _ h2]at a b;lia
noncomputable def pN (N:Nat) (us:AR):Int:=((frs<|AG N us).length:Int)
noncomputable def valN (N:Nat) (us:AR):Int:=pN N us+(oddN N us:Int)
def obB (N:Nat) (us:AR) (g:Int):Bool:=decide (rkp us (Aa (AG N us) N g) % 2=1)
def odP (N:Nat) (us:AR) (x:Int):Bool:=obB N us<|mk N us x
theorem F0 (N:Nat) (us:AR):oddN N us=((frs<|AG N us).filter (obB N us)).length:=by
 unfold oddN CQ;rw[DC,AH];rfl
theorem FE (l:List Int):Bw (frs l) l:=Classical.choose_spec<|Ft l
theorem NO {N:Nat}(h:AZ (N:Int) us) (e:us.Perm vs):valN N us=valN N vs/\pN N us=pN N vs:=by
 have m:=Vg h e;have q:obB N us=obB N vs:=by
  funext g
  unfold obB rkp;rw[m,(e.filter _).length_eq]
 unfold valN pN;rw[F0,F0,m,q];exact(rfl,rfl)
theorem K0:∀{l:List Int},l.Nodup->g0∈l->(∀g∈l,g≠g0->q g=p g)->((l.filter q).length:Int)+(if p g0=true then 1 else 0)=((l.filter p).length:Int)+(if q g0=true then 1 else 0)
 |[],_,h,_=>nomatch h
 |a::l,nd,h,e=>by
  rw[DB]at nd;rw[CA,CA];by_cases c:a=g0
  ·subst c
   have:l.filter q=l.filter p:=CJ λg G=>e g (Bs _ G) λz=>nd.1 (z ▸ G);rw[this];split <;> split <;> simp only[BI] <;> lia
  ·have i:=K0 (p:=p) (q:=q) nd.2 (by rcases Az.mp h with z|z;exact absurd z.symm c;exact z) λg G=>e g (Bs _ G)
   rw[e a #[4] c];split
   ·rw[BI,BI];lia
   ·exact i
theorem SM {α:Type}(p q:α -> Bool):∀l:List α,(∀a∈l,¬ (p a=true/\q a=true))->(l.filter λa=>p a || q a).length=(l.filter p).length+(l.filter q).length
 |[],_=>rfl
 |a::l,h=>by
  have i:=SM p q l λb B=>h b<|Bs _ B;have:=h a #[4];rw[CA,CA,CA];cases c:p a <;> cases d:q a
  ·simpa using i
  ·simp only[Bool.or_true,if_true,BI,CD,if_false];lia
  ·simp only[Jx,if_true,BI,CD,if_false];lia
  ·exact absurd (c,d) this
theorem Ky (us:AR) (t:Int × Int) (p:List Int):rkp (us++[t]) p=rkp us p+(if t.1∈p then 1 else 0):=by
 unfold rkp;rw[Cw,A1,CA,List.filter_nil];by_cases c:t.1∈p
 ·rw[AM c,AM (Au c),CO];lia
 ·rw[AL c,AL (by rw[A4 c];decide),EV];lia
theorem K8 {N:Nat}{us:AR}{t:Int × Int}(hW:AZ (N:Int) (us++[t])) :
  (odP N us t.1=odP N us t.2/\odP N (us++[t]) t.1 = !odP N us t.1/\odP N (us++[t]) t.2 = !odP N us t.1/\valN N (us++[t])=valN N us+(if odP N us t.1=true then -1 else 1)/\pN N (us++[t])=pN N us)\/(valN N (us++[t])<=valN N us-1/\pN N (us++[t])+1=pN N us):=by
 have V:=EF hW;obtain⟨A,i,J,M⟩:=hW.tie t<|Bx _<|BU.mpr rfl;have L:=CC N us;by_cases e:mk N us t.1=mk N us t.2
 ·left
  have m:AG N (us++[t])=AG N us:=by rw[Np];exact JV e
  have k:∀x,mk N (us++[t]) x=mk N us x:=λx=>by unfold mk;rw[m]
  have iff:∀g,t.1∈Aa (AG N us) N g↔mk N us t.1=g:=λg=>by
   rw[CH];exact(λz=>z.2.2,λz=>(A,i,z))
  have h:∀g,g≠mk N us t.1->obB N (us++[t]) g=obB N us g:=λg a=>by
   unfold obB;rw[m,Ky,AL λz=>a ((iff g).mp z).symm,Int.add_zero]
  have n:obB N (us++[t]) (mk N us t.1) = !obB N us (mk N us t.1):=by
   unfold obB;rw[m,Ky,AM ((iff _).mpr rfl)];generalize rkp us (Aa (AG N us) N<|mk N us t.1)=r;by_cases c:r % 2=1
   ·rw[Au c,A4 #[2]];rfl
   ·rw[A4 c,Au #[2]];rfl
  have q:=K0 (p:=obB N us) (q:=obB N<|us++[t]) (g0:=mk N us t.1) ((FE<|AG N us).1.imp λz=>Em z) (((FE _).2 _).mpr (Hv A i)) λg _ a=>h g a;have O:=F0 N us;have o:=F0 N<|us++[t];rw[m]at o;refine(by unfold odP;rw[e],by unfold odP;rw[k,n],by unfold odP;rw[k,<- e,n],?_,by unfold pN;rw[m]);unfold valN pN;rw[m,O,o];rw[n]at q;unfold odP;cases c:obB N us (mk N us t.1)
  ·rw[c]at q;simp only[Jw,if_true,CD,if_false]at q ⊢;lia
  ·rw[c]at q;simp only[Fn,if_true,CD,if_false]at q ⊢;lia
 ·right
  have G:=KZ (t:=t) L #[2] #[2] e;have m:AG N (us++[t])=Cu (AG N us) t.1 t.2:=Np _ _ _;rw[<- m]at G;have T:=Mk (AG N us) (t:=t) #[2] #[2];rw[<- m]at T;generalize loI ((AG N us).getD t.1.toNat 0) ((AG N us).getD t.2.toNat 0)=lo at G T;generalize hiI ((AG N us).getD t.1.toNat 0) ((AG N us).getD t.2.toNat 0)=hi at G;have lt:=G.lt;have F:=FE<|AG N us;have b:=FE<|AG N<|us++[t];have S:=G.firsts F b;have C:(frs<|AG N us).Nodup:=F.1.imp λz=>Em z;have D:(frs<|AG N<|us++[t]).Nodup:=b.1.imp λz=>Em z;have R:=G.count F b;have h:∀g,g≠lo->g≠hi->obB N (us++[t]) g=obB N us g:=λg H v=>by
   unfold obB;rw[G.part_other H v,Ky,AL,Int.add_zero];intro z;rw[<- G.part_other H v,CH]at z;exact H<|z.2.2.symm.trans T.1
  have P:(Aa (AG N<|us++[t]) N lo).length=(Aa (AG N us) N lo).length+(Aa (AG N us) N hi).length:=by
   rw[<- A1];refine List.Perm.length_eq ((Fh (Kd _ _ _) ?_).mpr λx=>?_)
   ·rw[DY]
    refine(Kd _ _ _,Kd _ _ _,λx X y Y z=>?_);rw[CH]at X Y;subst z;have:=X.2.2.symm.trans Y.2.2;lia
   ·rw[Bo];exact G.part_mem
  have K:rkp (us++[t]) (Aa (AG N<|us++[t]) N lo)=rkp us (Aa (AG N us) N lo)+rkp us (Aa (AG N us) N hi):=by
   rw[Ky,AM (CH.mpr (A,i,T.1))];unfold rkp;have f:=SM (λu:Int × Int=>decide<|u.1∈Aa (AG N us) N lo) (λu=>decide<|u.1∈Aa (AG N us) N hi) us λu _ z=>by
    have Z:=of_decide_eq_true z.1;have w:=of_decide_eq_true z.2;rw[CH]at Z w;have:=Z.2.2.symm.trans w.2.2;lia
   have B:(us.filter λu=>decide<|u.1∈Aa (AG N<|us++[t]) N lo)=us.filter λu=>decide (u.1∈Aa (AG N us) N lo) || decide (u.1∈Aa (AG N us) N hi):=CJ λu _=>by
    rw[<- Bool.decide_or,decide_eq_decide];exact G.part_mem
   rw[B,f,P];lia
  have I:obB N (us++[t]) lo=(obB N us lo != obB N us hi):=by
   unfold obB;rw[K];generalize rkp us (Aa (AG N us) N lo)=r;generalize rkp us (Aa (AG N us) N hi)=s;by_cases c:r % 2=1 <;> by_cases d:s % 2=1
   ·rw[Au c,Au d,A4 #[2]];rfl
   ·rw[Au c,A4 d,Au #[2]];rfl
   ·rw[A4 c,Au d,Au #[2]];rfl
   ·rw[A4 c,A4 d,A4 #[2]];rfl
  have l:lo∈frs (AG N<|us++[t]):=(b.2 _).mpr (G.mem.mpr (G.inL,#[2]));have Q:=K0 (p:=obB N us) (q:=obB N<|us++[t]) (g0:=lo) D l λg a H=>h g H (by rw[S,Ao]at a;exact of_decide_eq_true a.2);have j:=K0 (p:=obB N us) (q:=λg=>obB N us g && decide (g≠hi)) (g0:=hi) C ((F.2 _).mpr G.inH) λg _ H=>by rw[Au H,GR]
  have E:((frs<|AG N<|us++[t]).filter (obB N us)).length=((frs<|AG N us).filter λg=>obB N us g && decide (g≠hi)).length:=by
   rw[S,Cj]
  have O:=F0 N us;have o:=F0 N<|us++[t];unfold valN pN;rw[O,o];rw[E]at Q;rw[I]at Q;refine(?_,#[2]);rw[show (obB N us hi && decide (hi≠hi))=false by rw[A4 (λz=>z rfl),Fj]]at j;cases c:obB N us lo <;> cases d:obB N us hi <;> rw[c,d]at Q <;> rw[d]at j <;> simp only[bne_self_eq_false,CD,if_false,if_true,Bool.bne_false,Bool.bne_true,Jw,Fn]at Q j <;> lia
theorem Ja {N:Nat}(hW:AZ (N:Int) (us++[t])):valN N (us++[t])<=valN N us+1/\pN N us<=pN N (us++[t])+1:=by
 rcases K8 hW with ⟨_,_,_,h,k⟩|⟨h,k⟩
 ·split at h <;> lia
 ·lia
def Meet (t u:Int × Int):Prop:=(t.1=u.1\/t.1=u.2)\/t.2=u.1\/t.2=u.2
theorem Zux {N:Nat}(hW:AZ (N:Int) (us++[t]++[u])) (m:Meet t u):valN N (us++[t]++[u])<=valN N us:=by
 have V:=EF hW;have e:∀x,x=t.1\/x=t.2->odP N (us++[t]) x=true\/valN N (us++[t])<=valN N us-1:=λx X=>by
  rcases K8 V with ⟨_,H,d,h,_⟩|⟨h,_⟩
  ·cases c:odP N us t.1
   ·rw[c]at H d;rcases X with rfl|rfl
    ·exact .inl H
    ·exact .inl d
   ·rw[c,AM rfl]at h;right;lia
  ·exact .inr h
 have w:∀x,x=u.1\/x=u.2->odP N (us++[t]) x=true->valN N (us++[t]++[u])<=valN N (us++[t])-1:=λx X o=>by
  rcases K8 hW with ⟨f,_,_,h,_⟩|⟨h,_⟩
  ·have:odP N (us++[t]) u.1=true:=by
    rcases X with rfl|rfl
    ·exact o
    ·rw[f];exact o
   rw[this,AM rfl]at h;lia
  ·exact h
 have a:=(Ja V).1;have b:=(Ja hW).1;obtain⟨x,g,i⟩:∃x,(x=t.1\/x=t.2)/\(x=u.1\/x=u.2):=by
  rcases m with m|m
  ·exact(t.1,.inl rfl,m)
  ·exact(t.2,.inr rfl,m)
 rcases e x g with z|z
 ·have:=w x i z;lia
 ·lia
theorem K5 {N:Nat}:∀(vs us:AR),AZ (N:Int) (us++vs)->valN N (us++vs)<=valN N us+(vs.length:Int)/\pN N us<=pN N (us++vs)+(vs.length:Int)
 |[],us,_=>by rw[Bp];simp only[EV];lia
 |v::vs,us,hW=>by
  have e:us++v::vs=(us++[v])++vs:=by rw[CK];rfl
  rw[e]at hW ⊢;have h:=K5 vs (us++[v]) hW;have:=Ja<|EF hW;rw[BI];lia
theorem QE (N:Nat):frs (AG N [])=(Af N).map λi:Nat=>(i:Int):=by
 refine(F8 (?_,λx=>Iff.rfl)).symm;show List.Pairwise (· < ·) ((Af N).map λi:Nat=>(i:Int));rw[DX];exact Ek.imp λh=>by omega
theorem Nb:valN N []=(N:Int)/\pN N []=(N:Int):=by
 have e:pN N []=(N:Int):=by unfold pN;rw[QE,AH,By]
 have o:oddN N []=0:=by
  rw[F0,List.length_eq_zero_iff,IL];intro g hg;rw[QE]at hg;obtain⟨i,h,rfl⟩:=A2.mp hg;rw[BD]at h;have:Aa (AG N []) N (i:Int)=[(i:Int)]:=by
   refine Fu (V9 _ _ _) #[4] λx=>?_;rw[CH,BU];have v:∀p:Nat,p<N->(AG N []).getD p 0=(p:Int):=λp P=>by
    show (((Af N).map λi:Nat=>(i:Int)).getD p 0)=_;rw[Al,Ad,Ep P];rfl
   constructor
   ·rintro⟨a,b,H⟩
    rw[v _ #[2]]at H;lia
   ·rintro rfl
    exact(#[3],#[3],by rw[Aq,v _ h])
  unfold obB rkp;rw[this];simp
 unfold valN;rw[o,e];exact(#[2],rfl)
theorem VD {N:Nat}(us:AR):AZ (N:Int) us->pN N us+(us.length:Int)<=(N:Int)->valN N us<=(N:Int)-(us.length:Int):=by
 refine NG (P:=λus=>AZ (N:Int) us->pN N us+(us.length:Int)<=(N:Int)->valN N us<=(N:Int)-(us.length:Int)) (λ_ _=>?_) (λus t i W p=>?_) us
 ·rw[Nb.1];simp
 ·have V:=EF W
  have w:=(K5 us [] (by rw[HJ];exact V)).2;rw[HJ,Nb.2]at w;rw[A1,CO]at p ⊢;rcases K8 W with ⟨_,_,_,_,k⟩|⟨h,k⟩
  ·lia
  ·have:=i V #[2];lia
def tieI (ts:AR) (t:Int):Int × Int:=ts.getD t.toNat (0,0)
def kA (ts:AR) (ns L:List Int):AR:=(L.filter λx=>!decide (x∈ns)).map (tieI ts)
def inA (ns L:List Int):Nat:=(L.filter λx=>decide<|x∈ns).length
def Bj (P:AR):List Int:=P.flatMap λp=>[p.1,p.2]
def numI (E:Nat):List Int:=(Af E).map λi:Nat=>(i:Int)
theorem R7 (ts:AR) (ns L M_:List Int):kA ts ns (L++M_)=kA ts ns L++kA ts ns M_:=by
 unfold kA;rw[Cw,A5]
theorem Nx (ts:AR) (ns L:List Int):(kA ts ns L).length+inA ns L=L.length:=by
 unfold kA inA;rw[AH,Ex (λx=>decide<|x∈ns) L];lia
theorem LH (ts:AR) (ns L:List Int) (x:Int):kA ts ns (x::L)=(if x∈ns then [] else [tieI ts x])++kA ts ns L:=by
 unfold kA;rw[CA];by_cases c:x∈ns
 ·rw[AM c,AL (by rw[Au c];decide)];rfl
 ·rw[AL c,AM (by rw[A4 c];rfl)];rfl
theorem QN (ns L:List Int) (x:Int):inA ns (x::L)=(if x∈ns then 1 else 0)+inA ns L:=by
 unfold inA;rw[CA];by_cases c:x∈ns
 ·rw[AM c,AM (Au c),BI];lia
 ·rw[AL c,AL (by rw[A4 c];decide)];lia
theorem Qc (ts:AR) (ns:List Int):BH ts ns=kA ts ns (numI ts.length):=by
 unfold BH kA numI;have e:ts.zipIdx=(Af ts.length).map λi=>(ts.getD i (0,0),i):=by
  apply GO
  ·rw[Jy,AH,By]
  ·intro i h1 h2
   rw[Jy]at h1;rw[List.getElem_zipIdx,HI,Er,Al,AS h1,GL];rfl
 rw[e,DC,DC,Ba,Ba];rfl
theorem Pc {N:Nat}:∀(P us:AR),AZ (N:Int) (us++kA ts ns (Bj P))->(∀p∈P,Meet (tieI ts p.1) (tieI ts p.2))->valN N (us++kA ts ns (Bj P))<=valN N us+(inA ns (Bj P):Int)
 |[],us,_,_=>by
  show valN N (us++[])<=_;rw[Bp];exact Int.le_add_of_nonneg_right<|Int.natCast_nonneg _
 |p::P,us,W,hm=>by
  have e:Bj (p::P)=p.1::p.2::Bj P:=rfl;have m:=hm p #[4];have h:∀us,AZ (N:Int) (us++kA ts ns (Bj P))->valN N (us++kA ts ns (Bj P))<=valN N us+(inA ns (Bj P):Int):=λus W=>Pc P us W λq Q=>hm q<|Bs _ Q;rw[e,LH,LH]at W;rw[e,LH,LH,QN,QN];by_cases c:p.1∈ns <;> by_cases d:p.2∈ns <;> simp only[AM,AL,c,d,HJ,not_true_eq_false,not_false_eq_true]at W ⊢
  ·have:=h us W;lia
  ·rw[<- CK]at W ⊢
   have:=h _ W;have:=(Ja<|EF W).1;lia
  ·rw[<- CK]at W ⊢
   have:=h _ W;have:=(Ja<|EF W).1;lia
  ·rw[<- CK,<- CK]at W ⊢
   have:=h _ W;have:=Zux (EF W) m;lia
structure TPap (N:Nat) (ts:AR) (T:List Int) (P:AR) (U:List Int):Prop where
 all:(T++Bj P++U).Perm (numI ts.length)
 tree:(T.length:Int)+1=(N:Int)
 one:pN N (T.map<|tieI ts)=1
 meet:∀p∈P,Meet (tieI ts p.1) (tieI ts p.2)
theorem T3 (ts:AR) (L:List Int):kA ts [] L=L.map (tieI ts):=by
 unfold kA;rw[Cd.mpr #[4]]
theorem Qf (ts:AR):(numI ts.length).map (tieI ts)=ts:=by
 apply GO
 ·unfold numI;rw[AH,AH,By]
 ·intro i h1 h2
  rw[HI];simp only[numI,tieI,HI,Er,Aq,Al,AS h2];rfl
theorem Iw (E:Nat):(numI E).Nodup:=by
 unfold numI;refine List.Pairwise.map _ (λa b h=>?_) HH;intro z;exact h #[3]
theorem Hm (P:AR):(Bj P).length=2*P.length:=by
 induction P with
 |nil=>rfl
 |cons p P ih=>show (p.1::p.2::Bj P).length=_;rw[BI,BI,ih,BI];lia
theorem T5 (ts:AR) (ns L:List Int):(L.map<|tieI ts).Perm (kA ts ns L++(L.filter λx=>decide<|x∈ns).map (tieI ts)):=by
 unfold kA;rw[<- A5];refine List.Perm.map _ ?_;have:=(List.filter_append_perm (λx=>decide<|x∈ns) L).symm;exact this.trans HC
theorem Zzn {N:Nat}(hW:AZ (N:Int) ts) (h:TPap N ts T P U) (ns:List Int):(P.length:Int)<=setI N ts ns:=by
 have d:(T++Bj P++U).Nodup:=h.all.nodup_iff.mpr<|Iw _;have p:(BH ts ns).Perm (kA ts ns T++kA ts ns (Bj P)++kA ts ns U):=by
  rw[Qc,<- R7,<- R7];exact((h.all.filter _).map _).symm
 have a:=Mz hW ns;have R:=K6 a p;have H:=EF R;have r:=EF H;have v:=(K5 _ _ R).1;have V:=Pc P _ H h.meet
 -- the tree
 have b:AZ (N:Int) (T.map<|tieI ts):=by
  refine EF (vs:=(Bj P++U).map (tieI ts))<|K6 hW ?_;rw[<- A5,<- CK];have:=h.all.map<|tieI ts;rw[Qf]at this;exact this.symm
 have c:valN N (kA ts ns T)<=(N:Int)-((kA ts ns T).length:Int):=by
  refine VD _ r ?_;have q:=T5 ts ns T;have m:=(K5 _ _<|K6 b q).2;rw[<- (NO b q).2,h.one,AH]at m;have l:=Nx ts ns T;have t:=h.tree;unfold inA at l;lia
 have l:=Nx ts ns T;have t:=h.tree;have s:inA ns T+inA ns (Bj P)<=ns.length:=by
  unfold inA;rw[<- A1,<- Cw];refine Hd (List.Pairwise.filter _ (DY.mp d).1) λx X=>?_;exact of_decide_eq_true (Ao.mp X).2
 have u:=Nx ts ns U;have n:=h.all.length_eq;rw[A1,A1,Hm]at n;unfold numI at n;rw[AH,By]at n;have e:=(NO a p).1;unfold setI;have E:valN N (BH ts ns)=((frs<|AG N<|BH ts ns).length:Int)+(oddN N (BH ts ns):Int):=rfl;lia
theorem Qt (p q:Int->Int):∀l:List Int,(∀g∈l,p g<=q g)->(l.map p).sum<=(l.map q).sum
 |[],_=>ET _
 |a::l,h=>by
  have:=Qt p q l λg G=>h g<|Bs _ G;have:=h a #[4];rw[BO,BO,DD,DD];lia
theorem Wz {N:Nat}(hW:AZ (N:Int) us) (hO:A0 (N:Int) us o):valN N us<=((allF us o).length:Int):=by
 have m:=FE<|AG N us;have w:=(My hW hO m).2;have s:=Ve hW hO m;have a:=Qt (λg=>2*hopI us o (Aa (AG N us) N g)+((Aa (AG N us) N g).length:Int)+(if obB N us g=true then (1:Int) else 0)) (λg=>((B1 us<|Aa (AG N us) N g).length:Int)+(1:Int)) (frs<|AG N us) λg h=>?_
 ·rw[Gb,Gb,Gb,Rn,JU,JU,N4,QW hW m,Oq hW m,s]at a
  have n:((frs<|AG N us).map λ_=>(1:Int)).sum=((frs<|AG N us).length:Int):=by
   have:=N4 (frs<|AG N us) λ_=>true;rw[Cd.mpr λ_ _=>rfl]at this;exact this
  rw[n]at a;unfold valN pN;rw[F0];lia
 ·by_cases c:B1 us (Aa (AG N us) N g)=[]
  ·have l:=(m.2 g).mp h
   rw[Q1 hW hO l c,LD hW l c,c];have:obB N us g=false:=by
    unfold obB rkp;rw[show (us.filter λt=>decide<|t.1∈Aa (AG N us) N g)=[] from c,LD hW l c]
    decide
   rw[this];decide
  ·have e:=(Rc hW hO m h c).2
   have f:=Qj hW hO c;by_cases d:obB N us g=true
   ·rw[AM d]
    unfold obB rkp at d;have d:=of_decide_eq_true d;have:(us.filter λt=>decide<|t.1∈Aa (AG N us) N g).length=(B1 us<|Aa (AG N us) N g).length:=rfl;lia
   ·rw[AL d];lia
theorem QY (a b:AR) (ns:List Int) (h:∀y∈ns,y<(a.length:Int)):BH (a++b) ns=BH a ns++b:=by
 unfold BH;rw[List.zipIdx_append,Cw,A5];congr 1;rw[Cd.mpr λp P=>?_]
 ·exact List.zipIdx_map_fst _ _
 ·obtain⟨i,I⟩:=ER.mp P
  rw[Jq]at I;cases z:b[i]? with
  |none=>rw[z]at I;cases I
  |some t=>
   rw[z]at I;have I:(t,0+a.length+i)=p:=by simpa using I
   rw[<- I];have:¬ (((0+a.length+i:Nat):Int)∈ns):=λz=>by have:=h _ z;lia
   rw[A4 this];rfl
theorem Zu9 (a b:AR) (t:Int × Int) (ns:List Int) (h:∀y∈ns,y<(a.length:Int)):BH (a++t::b) (ns++[(a.length:Int)])=BH (a++b) ns:=by
 rw[QY a b ns h,show a++t::b=(a++[t])++b by rw[CK];rfl,QY (a++[t]) b _ λy Y=>?_]
 ·congr 1
  unfold BH;rw[List.zipIdx_append,Cw,A5];have e:(([t]:AR).zipIdx (0+a.length)).filter (λp=>!decide ((p.2:Int)∈ns++[(a.length:Int)]))=[]:=by
   rw[List.zipIdx_cons,List.zipIdx_nil,CA,List.filter_nil,AL];rw[GL,Au (Bx _<|BU.mpr rfl)]
   decide
  rw[e,Ii,Bp];congr 1;refine CJ λp P=>?_;obtain⟨i,I⟩:=ER.mp P;rw[Jq]at I;cases z:a[i]? with
  |none=>rw[z]at I;cases I
  |some u=>
   rw[z]at I;have I:(u,0+i)=p:=by simpa using I
   have l:=(BZ.mp z).1;rw[<- I];congr 1;rw[decide_eq_decide,Bo,BU];constructor
   ·rintro(q|q)
    ·exact q
    ·lia
   ·exact .inl
 ·rw[A1,CO]
  rcases Bo.mp Y with z|z
  ·have:=h y z;lia
  ·rw[BU.mp z];lia
theorem VQ {N:Nat}(ns:List Int):∀(ts:AR) (o:Ay),AZ (N:Int) ts->A0 (N:Int) ts o->ns.Pairwise (· < ·)->(∀y∈ns,0<=y/\y<(ts.length:Int))->∃o',A0 (N:Int) (BH ts ns) o' /\ ((allF (BH ts ns) o').length:Int)<=((allF ts o).length:Int)+(ns.length:Int):=by
 refine NG (P:=λns=>∀(ts:AR) (o:Ay),AZ (N:Int) ts->A0 (N:Int) ts o->ns.Pairwise (· < ·)->(∀y∈ns,0<=y/\y<(ts.length:Int))->∃o',A0 (N:Int) (BH ts ns) o' /\ ((allF (BH ts ns) o').length:Int)<=((allF ts o).length:Int)+(ns.length:Int)) (λts o W O _ _=>(o,?_)) (λns x i ts o W O p Y=>?_) ns
 ·have:BH ts []=ts:=by rw[Qc,T3,Qf]
  rw[this];exact(O,#[4])
 ·obtain⟨X,b⟩:=Y x (Bx _<|BU.mpr rfl)
  have t:x.toNat<ts.length:=#[2]
  have lt:∀y∈ns,y<x:=λy h=>(IQ.mp p).2.2 y h x (BU.mpr rfl);have l:(ts.eraseIdx x.toNat).length=ts.length-1:=by rw[Lx,AM t]
  obtain⟨o',H,a⟩:=i (ts.eraseIdx x.toNat) (o.map<|BP x.toNat) (RB W _) (Rg O t) (IQ.mp p).1 λy h=>by
   have:=Y y<|D1 _ h;have:=lt y h;lia
  have f:=Wx W O t;have e:BH (ts.eraseIdx x.toNat) ns=BH ts (ns++[x]):=by
   have c:=Zu9 (ts.take x.toNat) (ts.drop<|x.toNat+1) ts[x.toNat] ns λy h=>by
    have:=lt y h;rw[Bn];lia
   rw[Bn,IZ #[2],<- OK,List.getElem_cons_drop,En,FQ X]at c;exact c.symm
  rw[e]at H a;refine(o',H,?_);rw[A1,CO];split at f <;> lia
theorem set_bar {N:Nat}(hW:AZ (N:Int) ts) (hO:A0 (N:Int) ts o) (j:ns.Pairwise (· < ·)) (Y:∀y∈ns,0<=y/\y<(ts.length:Int)) (hm:ms.length=1):FI (N:Int) ts o ms<=setI N ts ns:=by
 obtain⟨O,h,H⟩:=VQ ns ts o hW hO j Y;have v:=Wz (Mz hW ns) h;have e:valN N (BH ts ns)=((frs<|AG N<|BH ts ns).length:Int)+(oddN N (BH ts ns):Int):=rfl;unfold FI setI;rw[hm];lia
def papD (T:List Int) (P:AR):D:=.tup [.tup (T.map D.int),.tup (P.map A3)]
structure RPap (N:Nat) (ts:AR) (T:List Int) (P:AR):Prop where
 rise:T.Pairwise (· < ·)
 inT:∀t∈T,0<=t/\t<(ts.length:Int)
 tree:T.length+1=N
 one:(frs<|AG N<|T.map<|tieI ts).length=1
 pair:∀p∈P,0<=p.1/\p.1<p.2/\p.2<(ts.length:Int)/\Meet (tieI ts p.1) (tieI ts p.2)
 nd:(T++Bj P).Nodup
def ID (ts:AR) (T:List Int) (P:AR):List Int:=(numI ts.length).filter λx=>!decide (x∈T++Bj P)
theorem E8:x∈numI E↔0<=x/\x<(E:Int):=by
 unfold numI;rw[A2];constructor
 ·rintro⟨i,h,rfl⟩
  have:=BD.mp h;lia
 ·rintro⟨H,a⟩
  exact(x.toNat,BD.mpr #[3],#[3])
theorem Zvn:x∈Bj P ↔ ∃p∈P,x=p.1\/x=p.2:=by
 unfold Bj;rw[J3];simp
theorem RPap.inF (h:RPap N ts T P):∀x∈T++Bj P,0<=x/\x<(ts.length:Int):=λx X=>by
 rcases Bo.mp X with z|z
 ·exact h.inT x z
 ·obtain⟨p,H,e⟩:=Zvn.mp z
  have:=h.pair p H;rcases e with rfl|rfl <;> lia
theorem RPap.all (h:RPap N ts T P):(T++Bj P++ID ts T P).Perm (numI ts.length):=by
 refine(Fh ?_<|Iw _).mpr λx=>?_
 ·rw[DY]
  refine(h.nd,List.Pairwise.filter _<|Iw _,λx X y Y z=>?_);subst z;have:=(Ao.mp Y).2;rw[Au X]at this;cases this
 ·rw[Bo]
  constructor
  ·rintro(z|z)
   ·exact E8.mpr<|h.inF x z
   ·exact(Ao.mp z).1
  ·intro z
   by_cases c:x∈T++Bj P
   ·exact .inl c
   ·exact .inr<|Ao.mpr (z,by rw[A4 c];rfl)
theorem RPap.tp (h:RPap N ts T P):TPap N ts T P (ID ts T P):=(h.all,by have:=h.tree;lia,by unfold pN;rw[h.one];rfl,λp H=>(h.pair p H).2.2.2)
theorem RPap.few (h:RPap N ts T P):T.length+2*P.length<=ts.length:=by
 have:=h.all.length_eq;rw[A1,A1,Hm]at this;unfold numI at this;rw[AH,By]at this;lia
theorem Gd (h0:0<=a) (h1:a<(ts.length:Int)):atI (ts.map A3) a=some (A3<|tieI ts a):=by
 obtain⟨k,rfl⟩:∃k:Nat,a=(k:Int):=(a.toNat,#[2]);refine Co ?_;unfold tieI;rw[Ad,Aq,Al,AS (by lia:k<ts.length)];rfl
theorem Nc (h0:0<=a) (h1:a<(ts.length:Int)):tieI ts a∈ts:=by
 unfold tieI;rw[Al,AS (by lia:a.toNat<ts.length)];exact Br _
theorem NV {T:List Int}(h:T.length<=60):Lk (.tup (T.map D.int)):=((_,rfl),λs e=>by
 cases e;refine(by rw[AH];exact h,λx X=>?_);obtain⟨i,_,rfl⟩:=A2.mp X;exact(_,rfl))
theorem Ny {m:Nat}{T:List Int}(h1:T.Pairwise (· < ·)) (h2:∀t∈T,0<=t/\t<(m:Int)):arB m (.tup<|T.map D.int)=true:=by
 show (List.all _ _ && decide _)=true;rw[CT,decide_eq_true_iff,Ba,HK];refine(DW.mpr λt h=>?_,?_)
 ·show decide _=true
  exact Au<|h2 t h
 ·rw[show (intD∘D.int)=id from rfl,IY];exact h1
def fMeet:DSp:=λs t=>∃(n:Int) (ts:AR) (a b:Int),s=[A6 n ts,.int a,.int b]/\(0<=a/\a<(ts.length:Int))/\(0<=b/\b<(ts.length:Int))/\Meet (tieI ts a) (tieI ts b)/\t (.bl true)
def OG:DSp:=λs t=>∃(n:Int) (ts:AR) (p:Int × Int),s=[A6 n ts,A3 p]/\(0<=p.1/\p.1<p.2/\p.2<(ts.length:Int)/\Meet (tieI ts p.1) (tieI ts p.2))/\t (.bl true)
def fPairs:DSp:=λs t=>∃(N:Nat) (ts:AR) (T:List Int) (P:AR),s=[A6 (N:Int) ts,.tup (T.map D.int),.tup (P.map A3)]/\AZ (N:Int) ts/\RPap N ts T P/\t (.bl true)
def fTree:DSp:=λs t=>∃(N:Nat) (ts:AR) (T:List Int) (P:AR),s=[A6 (N:Int) ts,.tup (T.map D.int)]/\AZ (N:Int) ts/\RPap N ts T P/\t (.bl true)
def Li:DSp:=λs t=>∃(N:Nat) (ts:AR) (T:List Int) (P:AR),s=[A6 (N:Int) ts,papD T P]/\AZ (N:Int) ts/\RPap N ts T P/\t (.int (P.length:Int))
def fTurn:DSp:=λs t=>∃(N:Nat) (ts:AR) (T:List Int) (P:AR),s=[A6 (N:Int) ts,papD T P]/\AZ (N:Int) ts/\RPap N ts T P/\t (.lst ((T++Bj P++ID ts T P).map D.int))
def mtF (u:Int × Int):D->D
 |.int i=>.bl (decide (i∈[u.1,u.2]))
 |d=>d
theorem Kw {N:Nat}(hW:AZ (N:Int) ts) {T:List Int}(h:∀t∈T,0<=t/\t<(ts.length:Int)) (L:T.length<=24):AZ (N:Int) (T.map (tieI ts)):=(hW.lo,hW.hi,by rw[AH];exact L,λu U=>by
 obtain⟨t,H,rfl⟩:=A2.mp U;exact hW.tie _ (Nc (h t H).1 (h t H).2))
def tieF (ts:AR):D->D
 |.int i=>A3 (tieI ts i)
 |d=>d
theorem R0 (ts:AR) (T:List Int):((T.map D.int).filter λ_=>true).map (tieF ts)=(T.map<|tieI ts).map A3:=by
 rw[Cd.mpr (λ_ _=>rfl),Ba,Ba];rfl
def notB (L:List Int):D->Bool
 |.int i=>!decide (i∈L)
 |_=>true
theorem S8 (L:List Int) (E:Nat):((rngD 0 E).filter (notB L)).map (λd=>d)=((numI E).filter λx=>!decide (x∈L)).map D.int:=by
 rw[Ij];have:rngD 0 E=(numI E).map D.int:=by
  apply Dz;intro i;unfold numI;rw[Ba];cases z:(rngD 0 E)[i]? with
  |none=>
   have:=List.getElem?_eq_none_iff.mp z;rw[Ca]at this;rw[FP (by rw[AH,By];exact this)]
  |some d=>
   obtain⟨h,rfl⟩:=DF z;rw[Ad,Ep h];show some (D.int (0+(i:Int)))=some (D.int (i:Int));rw[DE]
 rw[this,DC];rfl
#check 5
theorem Rh {m:Nat}{z:AR}{M:AI}{Q:D->AI->Prop}(L:z.length<=24) (J:M[m]?=some (.val (.tup<|z.map A3))) (q:Q (.lst ((Bj z).map D.int)) M) :
  JE K (tComp2 2 [] (iSeq K<|tVar m) (gName 0) (iSeq K<|tVar 0) (gName 1) (.lst [])<|tAppL<|tVar 1) M Q:=by
 refine CZ<|QC<|DH<|AA J (_,rfl,λi I=>(nomatch I),λi o M=>o=.lst ((Bj<|z.take i).map D.int)/\∃x y:L2.Slot,M = [x,y],(rfl,_,_,rfl),?_,?_)
 ·rintro i d o a h ⟨rfl,x,y,rfl⟩
  rw[Ad]at h;cases zp:z[i]? with
  |none=>rw[zp]at h;cases h
  |some p=>
   rw[zp]at h;cases h;refine BW<|DH<|AA rfl (_,rfl,λj o M=>o=.lst ((Bj (z.take i)++[p.1,p.2].take j).map D.int)/\∃y:L2.Slot,M = [.val (A3 p),y],(by rw[Es,Bp],_,rfl),?_,?_)
   ·rintro j e O b E ⟨rfl,y,rfl⟩
    obtain⟨v,rfl,V⟩:∃v,e=.int v /\ [p.1,p.2].take (j+1)=[p.1,p.2].take j++[v]:=by
     rcases j with _|_|j
     ·cases E;exact(p.1,rfl,rfl)
     ·cases E;exact(p.2,rfl,rfl)
     ·cases E
    refine BW<|Ru<|AA rfl (?_,?_,_,rfl)
    ·rw[AH,A1,Hm,Bn,Bn]
     exact small1000 (by simp only[BI,EV];lia)
    ·rw[V,<- CK,A5 (l₂:=[v])]
     rfl
   ·rintro O b ⟨rfl,y,rfl⟩
    refine(?_,_,_,rfl);rw[Cy,zp];unfold Bj;rw[Gz];rfl
 ·rintro o a ⟨rfl,x,y,rfl⟩
  rw[AH,CP];exact(_,rfl,q)
theorem Zzb (z:Mb mg) (F:BE K "meet" "meet" KH f fd):FnOk P w K mg base CX0 1 f fd ["web","one","other"] (spD K fMeet):=by
 refine F.ok Sd (Bt λe o h=>#[7]) λV A r s H k Q E R h=>?_;have U:=BX R;refine(_,(Ah<|A8<|Aj (anyK K rfl) rfl (z "any" #[1]) So<|AB (Ce ["place"] (show CompSc (defScope KH) ["web","one","other"] _ ["web","other"] [0,2] from (rfl,#[0],#[0],#[0],rfl,#[0])) rfl (seqK K<|Ab (ixK K U) (Ab (ixK K U) (pv 0) AQ λ_ _=>rfl) (pv 1) λ_ _=>rfl) (λ_ _ _ _ _=>(An (i:=0) (show List.Nodup (["place","web","other"]:List Str) from #[1]) rfl<|Or.inl rfl)) (λ_ _ _ _ _=>Dg) λ_ _ _ _ _=>(JY (inK K U) (pv 0) (Ab (ixK K U) (Ab (ixK K U) (pv 1) AQ λ_ _=>rfl) (pv 2) λ_ _=>rfl) rfl)) AF),Bu (λe o g=>?_) h);obtain⟨n,S,a,b,rfl,c,B,m,q⟩:=g;sleep 0;have T:=Gd c.1 c.2;have j:=Gd B.1 B.2;generalize tieI S a=t at *;generalize tieI S b=u at *;refine BK<|Ag<|AD<|DZ #[1]<|DH<|AN<|AN<|AA rfl<|AY<|A7 (Ee n S)<|AA rfl<|A7 T ([.int t.1,.int t.2],rfl,small1000 (n:=2) #[1],λ_=>true,mtF u,λi d D=>?_,?_)
 ·obtain⟨v,rfl⟩:∃v,d=.int v:=by
   rcases i with _|_|i
   ·cases D;exact(_,rfl)
   ·cases D;exact(_,rfl)
   ·cases D
  exact Df (rfl,AN<|AA rfl<|AN<|AN<|AA rfl<|AY<|A7 (Ee n S)<|AA rfl<|A7 j<|Nv (ns:=[u.1,u.2]) (rfl,_,rfl))
 ·refine AK (Ti (bs:=[decide (t.1∈[u.1,u.2]),decide (t.2∈[u.1,u.2])]) ?_)
  have:([decide (t.1∈[u.1,u.2]),decide (t.2∈[u.1,u.2])].any id)=true:=by
   unfold Meet at m;simp only[FN,List.any_nil,id,Jx,Bool.or_eq_true,decide_eq_true_iff,Az,DQ,or_false];exact m
  rw[this];exact q
theorem Vy (J:Mb mg) (j:Callee P w K mg base 3 "are_ties" ["web","thing"] (spD K fAreT)) (z:Callee P w K mg base 1 "meet" ["web","one","other"] (spD K fMeet)) (F:BE K "is_pair" "is_pair" MJ f fd):FnOk P w K mg base CX0 4 f fd ["web","pair"] (spD K OG):=by
 refine F.ok Sb (Bt λds o h=>#[6]) λv A e s H V Q E r h=>?_;have u:=BX r;refine(_,(Ah<|A8<|Hs (Am j (r.mono #[1])<|AB (pv 0)<|AB (pv 1) AF)<|Hs (JY C0 (Aj (lenK K) rfl (J "len" #[1]) BN<|AB (pv 1) AF) AQ<|nomark _)<|Jg<|Am z (r.mono #[1])<|AB (pv 0)<|AB (Ab (ixK K u) (pv 1) AQ λ_ _=>rfl)<|AB (Ab (ixK K u) (pv 1) AQ λ_ _=>rfl) AF),Bu (λds o i=>?_) h);obtain⟨n,S,p,rfl,⟨b,c,g,m⟩,q⟩:=i;sleep 0;have R:arB S.length (A3 p)=true:=Ny (T:=[p.1,p.2]) (by simp;exact c) λt a=>by
  simp only[Az,DQ,or_false]at a;rcases a with rfl|rfl <;> lia
 refine BK<|Ds<|BR<|AD<|AA rfl<|AD<|AA rfl<|AK (n,S,A3 p,rfl,NV (T:=[p.1,p.2]) (show 2<=60 by decide),true,congrArg D.bl R,?_);refine iteT<|Ds<|AN<|Ag<|AD<|AA rfl<|AK<|Bg (es:=[.int p.1,.int p.2]) (Or.inr rfl)<|AY<|DV (_,rfl,iteT ?_);exact BR<|AD<|AA rfl<|AD<|AN<|AA rfl<|AY<|A7 (ds:=[.int p.1,.int p.2]) (d:=.int p.1) rfl<|AD<|AN<|AA rfl<|AY<|A7 (ds:=[.int p.1,.int p.2]) (d:=.int p.2) rfl<|AK (n,S,p.1,p.2,rfl,(b,#[2]),(#[2],g),m,q)
theorem Zvf (z:Mb mg) (J:Callee P w K mg base 4 "is_pair" ["web","pair"] (spD K OG)) (F:BE K "are_pairs" "are_pairs" Ip f fd):FnOk P w K mg base CX0 5 f fd ["web","tree","pairs"] (spD K fPairs):=by
 refine F.ok OQ (Bt λS t h=>#[7]) λv A u s H y Q E r h=>?_;have U:=BX r;have V:=Dw r;refine(_,(AU (B8 (PW.pt<|pw_or (DJ<|truK K (Aj (isiUK K) rfl (z "isinstance" #[1]) FW<|AB (pv 2)<|AB (E6 rfl (z "tuple" #[1]) Cr (show RelV (.ty "tuple") _ from rfl)) AF) λ_=>rfl)<|pw_or1<|DJ<|truK K (Aj (allK K rfl) rfl (z "all" #[1]) N5<|AB (Ce ["pair"] (show CompSc (defScope Ip) ["web","tree","pairs","numbers"] _ ["web"] [0] from (rfl,#[0],#[0],#[0],rfl,#[0])) rfl (seqK K<|pv 2) (λ_ _ _ _ _=>(An (i:=0) (show List.Nodup (["pair","web"]:List Str) from #[1]) rfl<|Or.inl rfl)) (λ_ _ _ _ _=>Dg) λ_ _ _ _ _=>(Am J (r.mono #[1])<|AB (pv 1)<|AB (pv 0) AF)) AF) λ_=>rfl) (Ah<|A8 Hx) B7)<|AU (Av (i:=3) OQ.nd rfl (Or.inl rfl)<|Ac (addK K) (Cp (lstK K) rfl (z "list" #[1]) Gj<|AB (pv 1) AF)<|Pq ["pair","tie"] (show CompSc (defScope Ip) ["web","tree","pairs","numbers"] _ [] [] from (rfl,#[0],#[0],#[0],rfl,#[0])) rfl (seqK K<|pv 2) (λ_ _ _ _ _=>(An (i:=0) (show List.Nodup (["pair","tie"]:List Str) from #[1]) rfl<|Or.inl rfl)) (λ_ _ _ _ _=>(seqK K<|pv 0)) (λ_ _ _ _ _=>(An (i:=1) (show List.Nodup (["pair","tie"]:List Str) from #[1]) rfl<|Or.inl rfl)) λ_ _ _ _ _=>(pv 1))<|Ah<|A8<|JY C0 (WG rfl rfl rfl (z "len" #[1]) rfl (z "set" #[1])<|AB (pv 3) AF) (Aj (lenK K) rfl (z "len" #[1]) BN<|AB (pv 3) AF)<|nomark _),Bu (λS t g=>?_) h);obtain⟨N,k,T,a,rfl,W,b,q⟩:=g;sleep 0;have l:=b.few;have n:=W.len;refine Ae<|B4<|EK<|Cg<|CI<|Ag<|AD<|AA rfl<|AD<|Ct<|AK<|Nw (d:=.tup<|a.map A3) rfl (_,rfl,iteF ?_);refine Cg<|CI<|Ag<|AD<|DZ #[1]<|DH<|AA rfl (_,rfl,?_,λ_=>true,λ_=>.bl true,λi d c=>?_,?_)
 ·rw[AH];exact small1000 #[2]
 ·obtain⟨p,m,rfl⟩:=A2.mp (Bd c)
  exact Df (rfl,BR<|AD<|AA rfl<|AD<|AA rfl<|AK (_,k,p,rfl,b.pair p m,rfl,_,rfl))
 have e:((a.map A3).filter λ_=>true).map (λ_=>D.bl true)=((a.map A3).map λ_=>true).map D.bl:=by
  rw[Cd.mpr (λ_ _=>rfl)];simp only[Ba];rfl
 rw[e];refine AK<|Nz (_,rfl,?_);rw[show (((a.map A3).map λ_=>true).all id)=true from DW.mpr λx X=>by obtain⟨_,_,rfl⟩:=A2.mp X;rfl];refine iteF<|B6 ?_;refine Ae<|BM<|AN<|Ag<|AD<|AA rfl<|AK<|Je (Or.inr rfl)<|Rh #[2] rfl<|Ge ?_ ?_
 ·rw[AH,AH,Hm];exact CM (small1000 #[2])
 rw[<- A5];refine BK<|AN<|T9<|AD<|AA rfl<|AK (_,rfl,?_,λo M j=>?_)
 ·rw[A1,Hm];lia
 refine Ag<|AD<|AA rfl<|AK<|Bg (Or.inl rfl)<|DV ?_;rw[((Fh M b.nd).mpr j).length_eq,AH,Au rfl];exact q
theorem W2 (L:Mb mg) (z:Callee P w K mg base 3 "are_ties" ["web","thing"] (spD K fAreT)) (J:Callee P w K mg base 1 "parts_of" ["web"] (spN K Jo)) (F:BE K "is_tree" "is_tree" KG f fd):FnOk P w K mg base CX0 4 f fd ["web","tree"] (spD K fTree):=by
 refine F.ok MS (Bt λD o h=>#[7]) λv A e s H k Q E r h=>?_;have u:=BX r;refine(_,(AU (DL (pv 0)<|gtupK (n:=2) K rfl<|CB (An (i:=2) MS.nd rfl<|Or.inl rfl)<|CB (An (i:=3) MS.nd rfl<|Or.inr rfl) Dr)<|AU (B8 (PW.pt<|pw_or (DJ<|truK K (Am z (r.mono #[1])<|AB (pv 0)<|AB (pv 1) AF) λ_=>rfl)<|pw_or1<|BS LZ (Aj (lenK K) rfl (L "len" #[1]) BN<|AB (pv 1) AF) (Ac Dv (pv 2) AQ)<|nomark _) (Ah<|A8 Hx) B7)<|Ah<|A8<|JY C0 (Aj (lenK K) rfl (L "len" #[1]) BN<|AB (Am J (r.mono #[1])<|AB (CG<|AB (pv 2)<|AB (Cp (tupK K) rfl (L "tuple" #[1]) Cr<|AB (Ce ["tie"] (show CompSc (defScope KG) ["web","tree","many","ties"] _ ["ties"] [3] from (rfl,#[0],#[0],#[0],rfl,#[0])) rfl (seqK K<|pv 1) (λ_ _ _ _ _=>(An (i:=0) (show List.Nodup (["tie","ties"]:List Str) from #[1]) rfl<|Or.inl rfl)) (λ_ _ _ _ _=>Dg) λ_ _ _ _ _=>(Ab (ixK K u) (pv 1) (pv 0) λ_ _=>rfl)) AF) AF) AF) AF) AQ<|nomark _),Bu (λD o c=>?_) h);obtain⟨N,S,T,g,rfl,W,p,q⟩:=c;sleep 0;have j:=p.few;have l:=W.len;have R:=p.tree;refine Ae<|FY<|AA rfl<|Eg rfl<|CU<|BW<|CU<|BW<|Ec ?_;refine Ae<|B4<|EK<|Cg<|CI<|BR<|AD<|AA rfl<|AD<|AA rfl<|AK (_,S,_,rfl,NV #[2],true,congrArg some<|Ny p.rise p.inT,iteF ?_);refine Be<|AN<|Ag<|AD<|AA rfl<|AK<|Bg (Or.inr rfl)<|AN<|AA rfl<|AY<|EJ<|Jj (_,rfl,?_);rw[AH,Au #[2]];refine iteF<|B6 ?_;have V:=Kw W p.inT #[2];refine BK<|AN<|Ag<|AD<|CZ<|EG<|AD<|CL<|AD<|AA rfl<|AD<|Ag<|AD<|DZ #[1]<|DH<|AA rfl (_,rfl,?_,λ_=>true,tieF S,λi d b=>?_,?_)
 ·rw[AH];exact small1000 #[2]
 ·obtain⟨t,a,rfl⟩:=A2.mp (Bd b)
  exact Df (rfl,AN<|AA rfl<|AA rfl<|A7 (Gd (p.inT t a).1 (p.inT t a).2) (rfl,_,rfl))
 rw[R0];refine AK<|DS (Or.inl rfl)<|AK (DA,AK (_,T.map<|tieI S,rfl,V,λM m=>(_,rfl,?_)));rw[Aq]at m ⊢;refine AK<|Bg (Or.inl rfl)<|AY<|DV ?_;rw[AH,show (CQ N (T.map<|tieI S) M).length=M.length from AH _,F8 m,p.one,Au (show ((1:Nat):Int)=1 from rfl)];exact q
theorem Zuv (j:Mb mg) (J:Callee P w K mg base 4 "is_tree" ["web","tree"] (spD K fTree)) (z:Callee P w K mg base 5 "are_pairs" ["web","tree","pairs"] (spD K fPairs)) (F:BE K "tree_shows" "tree_shows" MI f fd):FnOk P w K mg base CX0 6 f fd ["web","paper"] (spD K Li):=by
 refine F.ok MR (Bt λb t h=>#[7]) λv A e s H V Q E r h=>?_;have u:=BX r;refine(_,(AU (B8 (PW.pt<|pw_or (DJ<|truK K (Aj (isiUK K) rfl (j "isinstance" #[1]) FW<|AB (pv 1)<|AB (E6 rfl (j "tuple" #[1]) Cr (show RelV (.ty "tuple") _ from rfl)) AF) λ_=>rfl)<|pw_or1<|BS LZ (Aj (lenK K) rfl (j "len" #[1]) BN<|AB (pv 1) AF) AQ<|nomark _) (Ah<|A8 Jf) B7)<|AU (DL (pv 1)<|gtupK (n:=2) K rfl<|CB (An (i:=2) MR.nd rfl<|Or.inl rfl)<|CB (An (i:=3) MR.nd rfl<|Or.inl rfl) Dr)<|AU (B8 (PW.pt<|pw_or (DJ<|truK K (Am J (r.mono #[1])<|AB (pv 0)<|AB (pv 2) AF) λ_=>rfl)<|pw_or1<|DJ<|truK K (Am z (r.mono #[1])<|AB (pv 0)<|AB (pv 2)<|AB (pv 3) AF) λ_=>rfl) (Ah<|A8 Jf) B7)<|Ah<|A8<|Aj (lenK K) rfl (j "len" #[1]) BN<|AB (pv 3) AF),Bu (λb t c=>?_) h);obtain⟨N,S,T,p,rfl,W,a,q⟩:=c;sleep 0;refine Ae<|B4<|EK<|Cg<|CI<|Ag<|AD<|AA rfl<|AD<|Ct<|AK<|Nw (d:=papD T p) rfl (_,rfl,iteF ?_);refine Be<|AN<|Ag<|AD<|AA rfl<|AK<|Bg (es:=[.tup (T.map D.int),.tup (p.map A3)]) (Or.inr rfl)<|AY<|Jj (_,rfl,iteF<|B6 ?_);refine Ae<|FY<|AA rfl<|Eg rfl<|CU<|BW<|CU<|BW<|Ec ?_;refine Ae<|B4<|EK<|Cg<|CI<|BR<|AD<|AA rfl<|AD<|AA rfl<|AK (N,S,T,p,rfl,W,a,_,rfl,iteF ?_);refine Cg<|CI<|BR<|AD<|AA rfl<|AD<|AA rfl<|AD<|AA rfl<|AK (N,S,T,p,rfl,W,a,_,rfl,iteF<|B6 ?_);refine BK<|Ag<|AD<|AA rfl<|AK<|Bg (Or.inr rfl) ?_;rw[AH];exact q
theorem Zyr (z:Mb mg) (F:BE K "ties_in_turn" "ties_in_turn" Ir f fd):FnOk P w K mg base CX0 1 f fd ["web","paper"] (spD K fTurn):=by
 refine F.ok KR (Bt λD t h=>#[7]) λv A r s H j Q E R h=>?_;have u:=BX R;have V:=Dw R;refine(_,(AU (DL (pv 1)<|gtupK (n:=2) K rfl<|CB (An (i:=2) KR.nd rfl<|Or.inl rfl)<|CB (An (i:=3) KR.nd rfl<|Or.inl rfl) Dr)<|AU (Av (i:=4) KR.nd rfl (Or.inr rfl)<|Ac (addK K) (Cp (lstK K) rfl (z "list" #[1]) Gj<|AB (pv 2) AF)<|Pq ["pair","tie"] (show CompSc (defScope Ir) ["web","paper","tree","pairs","turn"] _ [] [] from (rfl,#[0],#[0],#[0],rfl,#[0])) rfl (seqK K<|pv 3) (λ_ _ _ _ _=>(An (i:=0) (show List.Nodup (["pair","tie"]:List Str) from #[1]) rfl<|Or.inl rfl)) (λ_ _ _ _ _=>(seqK K<|pv 0)) (λ_ _ _ _ _=>(An (i:=1) (show List.Nodup (["pair","tie"]:List Str) from #[1]) rfl<|Or.inl rfl)) λ_ _ _ _ _=>(pv 1))<|Ah<|A8<|Ac (addK K) (pv 4)<|Ce ["tie"] (show CompSc (defScope Ir) ["web","paper","tree","pairs","turn"] _ ["turn"] [4] from (rfl,#[0],#[0],#[0],rfl,#[0])) rfl (De rfl (z "range" #[1])<|AB (Aj (lenK K) rfl (z "len" #[1]) BN<|AB (Ab (ixK K u) (pv 0) AQ λ_ _=>rfl) AF) AF) (λ_ _ _ _ _=>(An (i:=0) (show List.Nodup (["tie","turn"]:List Str) from #[1]) rfl<|Or.inl rfl)) (λ_ _ _ _ _=>(D5<|BS (notinK K u) (pv 0) (pv 1) rfl)) λ_ _ _ _ _=>(pv 0)),Bu (λD t c=>?_) h);obtain⟨N,S,T,p,rfl,W,a,q⟩:=c;sleep 0;have g:=a.few;have e:=W.len;refine Ae<|FY<|AA rfl<|Eg rfl<|CU<|BW<|CU<|BW<|Ec ?_;refine Ae<|BM<|AN<|Ag<|AD<|AA rfl<|AK<|Je (Or.inr rfl)<|Rh #[3] rfl<|Ge ?_ ?_
 ·rw[AH,AH,Hm];exact CM (small1000 #[3])
 rw[<- A5];refine BK<|AN<|AA rfl<|DZ #[1]<|Dd<|AD<|Ag<|AD<|AN<|AA rfl<|AY<|A7 (Ee _ S)<|AK<|Bg (Or.inr rfl)<|AK (_,rfl,?_,?_,?_,notB<|T++Bj p,λd=>d,λi d b=>?_,?_)
 ·rw[AH];lia
 ·rw[AH];lia
 ·rw[AH,Ca];exact small1000 #[2]
 ·obtain⟨I,rfl⟩:=DF b
  refine Be<|AN<|AA rfl<|AA rfl<|N1 (_,rfl,rfl,?_);exact ite2 (λ_=>AA rfl (rfl,_,rfl)) λ_=>(_,rfl)
 rw[AH,Aq,S8,<- show ID S T p=(numI S.length).filter λx=>!decide (x∈T++Bj p) from rfl];refine Ge ?_ ?_
 ·rw[<- A1,<- A5,AH,a.all.length_eq]
  unfold numI;rw[AH,By];exact CM (small1000 #[2])
 ·rw[<- A5];exact q
end
def sigT (L:List Int) (e:Int):Int:=2*L.getD (e / 2).toNat 0+e % 2
theorem Jh {E:Nat}{L:List Int}(h:L.Perm (numI E)) {k:Nat}(z:k<2*E):∃a:Nat,a<E/\L[k / 2]?=some (a:Int)/\sigT L (k:Int)=((2*a+k % 2:Nat):Int):=by
 have l:L.length=E:=by rw[h.length_eq];unfold numI;rw[AH,By]
 have j:k / 2<L.length:=#[2]
 have m:=E8.mp<|h.mem_iff.mp<|Br j;refine(L[k / 2].toNat,#[2],by rw[AS j,FQ m.1],?_);unfold sigT;rw[show ((k:Int) / 2).toNat=k / 2 by lia,Al,AS j];show 2*L[k / 2]+_=_;lia
theorem Pg {ts:AR}{L:List Int}(h:L.Perm (numI ts.length)) {k a:Nat}(z:k<2*ts.length) (j:a<ts.length) (e:L[k / 2]?=some (a:Int)):AW (L.map<|tieI ts) k=AW ts (2*a+k % 2):=by
 unfold AW;rw[Ad,e,show (2*a+k % 2) / 2=a by lia,show (2*a+k % 2) % 2=k % 2 by lia,AS j];show (if k % 2=0 then (tieI ts (a:Int)).1 else (tieI ts (a:Int)).2)=_;unfold tieI;rw[Aq,Al,AS j];rfl
theorem Ho:x∈B0 ts m p ↔ ∃e:Nat,e<m/\AW ts e=p/\(e:Int)=x:=Iv
theorem Zuh (h:L.Perm (numI ts.length)) (p:Int):((B0 (L.map<|tieI ts) (2*ts.length) p).map (sigT L)).Perm (B0 ts (2*ts.length) p):=by
 have H:L.length=ts.length:=by rw[h.length_eq];unfold numI;rw[AH,By]
 have n:L.Nodup:=h.nodup_iff.mpr<|Iw _;refine(Fh ?_ ((Iy _ _ _).imp λz=>Em z)).mpr λx=>?_
 ·refine DX.mpr ?_
  refine List.Pairwise.imp_of_mem (R:=(· < ·)) (λ{a b} ha hb lt z=>?_)<|Iy _ _ _;obtain⟨k,K,_,rfl⟩:=Ho.mp ha;obtain⟨j,J,_,rfl⟩:=Ho.mp hb;obtain⟨a,d,A,c⟩:=Jh h K;obtain⟨b,o,B,l⟩:=Jh h J;rw[c,l]at z;have e:a=b:=#[2]
  subst e;have:=(List.getElem?_inj #[2] n).mp (A.trans B.symm);lia
 ·rw[A2]
  constructor
  ·rintro⟨y,Y,rfl⟩
   obtain⟨k,K,f,rfl⟩:=Ho.mp Y;obtain⟨a,d,A,c⟩:=Jh h K;exact Ho.mpr (2*a+k % 2,#[2],by rw[<- Pg h K d A,f],c.symm)
  ·intro hx
   obtain⟨k,K,f,rfl⟩:=Ho.mp hx;have m:((k / 2:Nat):Int)∈L:=h.mem_iff.mpr<|E8.mpr (#[2],#[2]);obtain⟨j,J,i⟩:=Eo.mp m;have g:2*j+k % 2<2*ts.length:=#[2]
   obtain⟨a,d,A,c⟩:=Jh h g;rw[show (2*j+k % 2) / 2=j by lia,AS J,i]at A;have E:a=k / 2:=by have:=CF.inj A;lia
   subst E;refine(((2*j+k % 2:Nat):Int),Ho.mpr (_,g,?_,rfl),?_)
   ·rw[Pg h g d (by rw[show (2*j+k % 2) / 2=j by lia,AS J,i]),show 2*(k / 2)+(2*j+k % 2) % 2=k by lia,f]
   ·rw[c];lia
noncomputable def sigO (L:List Int) (o:Ay):Ay:=o.map λr=>lf<|r.map<|sigT L
theorem Rj (h:L.Perm (numI ts.length)) (hO:A0 n (L.map<|tieI ts) o):A0 n ts (sigO L o):=by
 have l:L.length=ts.length:=by rw[h.length_eq];unfold numI;rw[AH,By]
 refine(by unfold sigO;rw[AH];exact hO.len,λp r H=>?_);unfold sigO at H;rw[Ad]at H;cases z:o[p]? with
 |none=>rw[z]at H;cases H
 |some r0=>
  rw[z]at H;cases H;have R:=(hO.row p r0 z).perm;rw[AH,l]at R;exact Qg ((R.map _).trans (Zuh h _))
def fLaid:DSp:=λs t=>∃(N:Nat) (ts:AR) (T:List Int) (P:AR),s=[A6 (N:Int) ts,papD T P]/\AZ (N:Int) ts/\RPap N ts T P/\∀o,A0 (N:Int) ts o->t (Bb o)
theorem Zu6 {N:Nat}:A0 (N:Int) [] (Ak N []):=(by rw[Cc],λp r h=>by
 have:=Bd h;rw[(Fi.mp this).2];exact(.nil,rfl))
def sigD (L:List Int):D->D
 |.int e=>.int (sigT L e)
 |d=>d
def sigR (L:List Int):D->D
 |.tup es=>.lst ((es.filter λ_=>true).map (sigD L))
 |d=>d
#check 5
theorem Q8 (p:Q (.bl false) M):JR2 K (λx y H Q=>y=.non/\Q (.bl<|decide (x=.non)) H) (.int j) .non M Q:=λg G H Z Q x y k r Y c=>by
 cases r.inv;cases Y.inv;exact(rfl,c _ _ G H M k (Same.refl _) (.bl _) p)
theorem Zwt (mb:Mb mg) (a6:Callee P w K mg base 6 "tree_shows" ["web","paper"] (spD K Li)) (a5:Callee P w K mg base 1 "ties_in_turn" ["web","paper"] (spD K fTurn)) (a7:Callee P w K mg base 6 "with_tie" ["floor","tie"] (spD K fWT)) (a4:Callee P w K mg base 3 "order_of" ["web","rows"] (spD K fOrdD)) (F:BE K "laid" "laid" Iq f fd):FnOk P w K mg base CX0 7 f fd ["web","paper"] (spD K fLaid):=by
 refine F.ok Iu (Bt λds C h=>#[7]) λa1 A V s H vs Q E m h=>?_;have U:=BX m;have hv:=Dw m;refine(_,(AU (B8 (BS SF (Am a6 (m.mono #[1])<|AB (pv 0)<|AB (pv 1) AF) Jf<|nomark _) HY B7)<|AU (Av (i:=2) Iu.nd rfl (Or.inr rfl)<|Am a5 (m.mono #[1])<|AB (pv 0)<|AB (pv 1) AF)<|AU (Av (i:=3) Iu.nd rfl (Or.inl rfl)<|CG<|AB (CG<|AB (Ab (ixK K U) (pv 0) AQ λ_ _=>rfl)<|AB (CG AF) AF)<|AB (Ac (Zxa K) (CG<|AB (CG AF) AF)<|Ab (ixK K U) (pv 0) AQ λ_ _=>rfl) AF)<|AU (DG PassesOwn.never rfl (seqK K<|pv 2) (An (i:=4) Iu.nd rfl<|Or.inl rfl)<|Ah<|Av (i:=3) Iu.nd rfl (Or.inl rfl)<|Am a7 (m.mono #[1])<|AB (pv 3)<|AB (Ab (ixK K U) (Ab (ixK K U) (pv 0) AQ λ_ _=>rfl) (pv 4) λ_ _=>rfl) AF)<|Ah<|A8<|Am a4 (m.mono #[1])<|AB (pv 0)<|AB (Ce ["row"] (show CompSc (defScope Iq) ["web","paper","ties","floor","tie"] _ ["ties"] [2] from (rfl,#[0],#[0],#[0],rfl,#[0])) rfl (seqK K<|Ab (ixK K U) (pv 3) AQ λ_ _=>rfl) (λ_ _ _ _ _=>(An (i:=0) (show List.Nodup (["row","ties"]:List Str) from #[1]) rfl<|Or.inl rfl)) (λ_ _ _ _ _=>Dg) λ_ _ _ _ _=>(Ce ["end"] (show CompSc (relab (defScope Iq) _) ["row","ties"] _ ["ties"] [1] from (rfl,#[0],#[0],#[0],rfl,#[0])) rfl (seqK K<|pv 0) (λ_ _ _ _ _=>(An (i:=0) (show List.Nodup (["end","ties"]:List Str) from #[1]) rfl<|Or.inl rfl)) (λ_ _ _ _ _=>Dg) λ_ _ _ _ _=>(Ac (addK K) (Ac D8 AQ<|Ab (ixK K U) (pv 1) (Ac Jb (pv 0) AQ) λ_ _=>rfl)<|Ac DM (pv 0) AQ))) AF),Bu (λds C hf=>?_) h);obtain⟨N,S,T,v,rfl,W,J,q⟩:=hf;sleep 0;have a0:=W.len;have hN:=W.hi;have a2:=W.lo;refine Ae<|B4<|Be<|AN<|BR<|AD<|AA rfl<|AD<|AA rfl<|AK (N,S,T,v,rfl,W,J,Ji<|Q8 (_,rfl,iteF<|B6 ?_));refine Ae<|BM<|BR<|AD<|AA rfl<|AD<|AA rfl<|AK (N,S,T,v,rfl,W,J,?_);have z:=J.all;generalize T++Bj v++ID S T v=L at z ⊢;have hl:L.length=S.length:=by rw[z.length_eq];unfold numI;rw[AH,By]
 have I:∀t∈L,0<=t/\t<(S.length:Int):=λt p=>E8.mp<|z.mem_iff.mp p;refine Ae<|BM<|CL<|AD<|CL<|AD<|AN<|AA rfl<|AY<|A7 (d:=.int (N:Int)) rfl<|AD<|CL<|AK (by show 0<=sizeLine;decide,AK (DA,?_));refine AD<|AN<|CL<|AD<|CL<|AK (by show 0<=sizeLine;decide,AK (by show 1<=sizeLine;decide,?_));refine AN<|AA rfl<|AY<|A7 (d:=.int (N:Int)) rfl<|Zxr #[2] #[2]<|AK (DA,?_);refine B3 (λM=>∃(o:Ay) (x:L2.Slot),A0 (N:Int) (L.map<|tieI S) o /\ M = [.val (A6 (N:Int) S),.val (papD T v),.val (.lst<|L.map D.int),.val (GC (N:Int) (L.map<|tieI S) o),x]) ?_ ?_
 ·refine DK (Cz<|AA rfl (_,Or.inl rfl,λi M=>∃(o:Ay) (x:L2.Slot),A0 (N:Int) ((L.take i).map (tieI S)) o /\ M = [.val (A6 (N:Int) S),.val (papD T v),.val (.lst<|L.map D.int),.val (GC (N:Int) ((L.take i).map (tieI S)) o),x],(Ak N [],.any,Zu6,?_),?_,?_))
  ·rw[Aq]
   unfold GC A6 Bb;rw[List.map_replicate];rfl
  ·rintro i d M2 l ⟨o,x,O,rfl⟩
   rw[Ad]at l;cases zt:L[i]? with
   |none=>rw[zt]at l;cases l
   |some t=>
    rw[zt]at l;cases l;have hi:=(BZ.mp zt).1;have G:=I t<|Bd zt;have tk:∀u∈L.take i,0<=u/\u<(S.length:Int):=λu U=>I u<|IS U;have Z:=Kw W tk (by rw[Bn];lia);have p:=W.tie _<|Nc G.1 G.2;obtain⟨a,b,B⟩:∃a b:Nat,tieI S t=((a:Int),(b:Int)):=((tieI S t).1.toNat,(tieI S t).2.toNat,by rw[FQ p.1,FQ p.2.2.1]);rw[B]at p;refine BW<|BM<|BR<|AD<|AA rfl<|AD<|AN<|AN<|AA rfl<|AY<|A7 (Ee _ S)<|AA rfl<|A7 (Gd G.1 G.2)<|AK (_,_,o,a,b,by rw[B];rfl,Z,O,p.2.1,p.2.2.2,by rw[AH,Bn];lia,λc d hc l X Y=>?_);refine(putO ((L.take i).map (tieI S)) o c d,.val (.int t),?_,?_)
    ·have:=Zyc Z O hc l
     unfold Fe at this;rw[X,Y,<- B]at this;rw[Cy,zt,A5];exact this
    ·rw[Cy,zt,A5]
     unfold Fe;rw[X,Y,<- B];rfl
  ·rintro M2 ⟨o,x,O,rfl⟩
   rw[AH,CP]at O ⊢;exact(o,x,O,rfl)
 rintro M1 ⟨o,x,O,rfl⟩;have a3:=O.len;refine BK<|BR<|AD<|AA rfl<|AD<|DZ #[1]<|DH<|AN<|AA rfl<|AY<|A7 (d:=Bb o) rfl (_,rfl,?_,λ_=>true,sigR L,λi d l=>?_,?_)
 ·rw[AH];exact small1000 #[2]
 ·rw[Ad]at l
  cases zr:o[i]? with
  |none=>rw[zr]at l;cases l
  |some r=>
   rw[zr]at l;cases l;have R:=O.row i r zr;have rl:=R.len;rw[AH]at R rl;refine Df (rfl,DZ #[1]<|DH<|AA rfl (_,rfl,?_,λ_=>true,sigD L,λj e n=>?_,?_))
   ·rw[AH];exact small1000 #[2]
   ·obtain⟨y,hy,rfl⟩:=A2.mp (Bd n)
    obtain⟨k,k1,_,rfl⟩:=R.mem.mp hy;rw[hl]at k1;obtain⟨g,g1,g2,g3⟩:=Jh z k1;have ga:atI (L.map D.int) ((k:Int) / 2)=some (.int (g:Int)):=by
     rw[show (k:Int) / 2=((k / 2:Nat):Int) by lia];exact Co (by rw[Ad,g2];rfl)
    refine Df (rfl,AN<|AN<|AY<|AN<|AA rfl<|AN<|AA rfl<|AY<|jr_I (#[2],#[2])<|Dt ga<|jr_I (Or.inl (#[2],#[2]))<|AN<|AA rfl<|AY<|jr_I (by show (0:Int)<2;omega)<|Cn (?_,_,rfl));show D.int _=D.int (sigT L (k:Int));rw[g3];congr 1
   ·exact(rfl,_,rfl)
 refine AK ((N:Int),S,sigO L o,_,_,rfl,W,Rj z O,rfl,?_,?_,q _<|Rj z O)
 ·unfold sigO
  rw[AH,AH,Cd.mpr (λ_ _=>rfl),AH]
 ·intro i e r n m
  rw[Cd.mpr (λ_ _=>rfl),Ba,Ad]at n;unfold sigO at m;rw[Ad]at m;cases zr:o[i]? with
  |none=>rw[zr]at n;cases n
  |some r0=>
   rw[zr]at n m;cases n;cases m;refine(r0.map<|sigT L,?_,(Hr _).symm,rfl);show some (BJ (sigD L)<|List.filter _<|BJ D.int r0)=_;rw[Cd.mpr (λ_ _=>rfl),Ba,Ba];rfl
theorem VF {N:Nat}{ts:AR}{a b:Int}(hW:AZ (N:Int) ts) (z:0<=a/\a<(N:Int)) (J:0<=b/\b<(N:Int)) {ms ns:List Int}(hm:Bw ms (AG N ts)) (j:Bw ns (AG N<|ts++[(a,b)])) :
  (ms.length:Int)=(ns.length:Int)+(if mk N ts a=mk N ts b then 0 else 1):=by
 have e:AG N (ts++[(a,b)])=Cu (AG N ts) a b:=by unfold AG;rw[L3];rfl
 rw[e]at j;by_cases h:mk N ts a=mk N ts b
 ·rw[AM h]
  rw[JV h]at j;rw[hm.uniq j];lia
 ·rw[AL h]
  have:=(KZ (t:=(a,b)) (CC N ts) (by show a.toNat<N;lia) (by show b.toNat<N;lia) h).count hm j;lia
theorem Zy5 (h:OneP N ts) (j:0<=p) (z:p<(N:Int)) (J:0<=q) (L:q<(N:Int)):mk N ts p=mk N ts q:=by
 obtain⟨s,m⟩:=Ft<|AG N ts;have l:=h s m;have a:=(m.2 _).mpr (Hv (ts:=ts) j z);have b:=(m.2 _).mpr (Hv (ts:=ts) J L)
 match s,l,a,b with
 |[c],_,a,b=>rw[BU]at a b;rw[a,b]
 |[],_,a,_=>cases a
end
def fDrT:BSp:=λp s t=>Bm p/\∃(N:Nat) (ts:AR),s=[A6 (N:Int) ts]/\AZ (N:Int) ts/\OneP N ts/\∀T P ps',Bm ps' -> RPap N ts T P->t (papD T P) ps'
theorem SG {N:Nat}(hW:AZ (N:Int) (us++[t])):pN N us=pN N (us++[t])+(if mk N us t.1=mk N us t.2 then 0 else 1):=by
 obtain⟨a,A,b,B⟩:=hW.tie t<|Bx _<|BU.mpr rfl;exact VF (EF hW) (a,A) (b,B) (FE _)<|FE _
structure Kr (N:Nat) (ts:AR) (L T:List Int):Prop where
 nd:T.Nodup
 sub:∀t∈T,t∈L
 cnt:pN N (T.map<|tieI ts)+(T.length:Int)=(N:Int)
 same:∀t∈L,mk N (T.map<|tieI ts) (tieI ts t).1=mk N (T.map<|tieI ts) (tieI ts t).2
theorem Zz8:Kr N ts [] []:=(Ie,λ_ h=>h,by show pN N []+0=_;rw[Nb.2];lia,λ_ h=>nomatch h)
theorem T7 (k:Kr N ts L T) (J:t ∉ L) (j:∀u∈L,∀x,x=(tieI ts u).1\/x=(tieI ts u).2->0<=x/\x<(N:Int)) (hW:AZ (N:Int) ((T++[t]).map (tieI ts))) (h:pN N ((T++[t]).map (tieI ts))+(T.length:Int)<(N:Int)):Kr N ts (L++[t]) (T++[t]):=by
 rw[A5]at hW h;have m:=SG (t:=tieI ts t) hW;have c:=k.cnt;have W:=EF hW;refine(?_,λu U=>?_,?_,λu U=>?_)
 ·rw[DY]
  exact(k.nd,Jt _ _,λx X y Y z=>by rw[BU]at Y;subst z;subst Y;exact J<|k.sub _ X)
 ·rcases Bo.mp U with z|z
  ·exact D1 _<|k.sub u z
  ·exact Bx _ z
 ·rw[A5,A1,CO]
  have h:pN N (T.map (tieI ts)++[tieI ts t])+(T.length:Int)<(N:Int):=h;show pN N (T.map (tieI ts)++[tieI ts t])+_=_;split at m <;> lia
 ·rw[A5]
  rcases Bo.mp U with z|z
  ·exact Rq W (λv V=>LU hW<|D1 _ V) (j u z _ (.inl rfl)).1 (j u z _ (.inl rfl)).2 (j u z _ (.inr rfl)).1 (j u z _ (.inr rfl)).2 (k.same u z)
  ·rw[BU.mp z]
   exact LU hW<|Bx _<|BU.mpr rfl
theorem TR (k:Kr N ts L T) (hW:AZ (N:Int) ((T++[t]).map (tieI ts))) (h:¬ pN N ((T++[t]).map (tieI ts))+(T.length:Int)<(N:Int)):Kr N ts (L++[t]) T:=by
 rw[A5]at hW h;have m:=SG (t:=tieI ts t) hW;have c:=k.cnt;refine(k.nd,λu U=>D1 _<|k.sub u U,k.cnt,λu U=>?_);rcases Bo.mp U with z|z
 ·exact k.same u z
 ·rw[BU.mp z]
  have h:¬ pN N (T.map (tieI ts)++[tieI ts t])+(T.length:Int)<(N:Int):=h;split at m
  ·assumption
  ·omega
theorem Tf {N:Nat}(hW:AZ (N:Int) ts) (h1:OneP N ts) (k:Kr N ts L T) (j:L.Perm (numI ts.length)) (z:AZ (N:Int) (T.map<|tieI ts)):pN N (T.map<|tieI ts)=1:=by
 have o:=hW.lo;have e:∀t∈ts,mk N (T.map<|tieI ts) t.1=mk N (T.map<|tieI ts) t.2:=λt H=>by
  obtain⟨i,I,rfl⟩:=Eo.mp H;have:=k.same (i:Int)<|j.mem_iff.mpr<|E8.mpr (#[3],#[2]);unfold tieI at this;rw[Aq,Al,AS I]at this;exact this
 have l:∀p:Int,0<=p->p<(N:Int)->mk N (T.map<|tieI ts) p=mk N (T.map<|tieI ts) 0:=λp P c=>
  Rq hW e P c (ET _) #[2] (Zy5 h1 P c (ET _) #[3])
 have m:=FE<|AG N<|T.map<|tieI ts;unfold pN;generalize frs (AG N<|T.map<|tieI ts)=ms at m;have a:=(m.2 _).mpr (Hv (N:=N) (ts:=T.map<|tieI ts) (p:=0) (ET _) #[2]);have b:∀x∈ms,x=mk N (T.map<|tieI ts) 0:=λx X=>by
  have r:=JW z ((m.2 x).mp X);have:=l x r.1 r.2.1;rw[<- this];exact r.2.2.symm
 match ms,a,b,m.1 with
 |[_],_,_,_=>rfl
 |x::y::ms,_,b,h=>exact absurd ((IW.mp h).1 y #[4]) (by rw[b x #[4],b y #[4]];exact Int.lt_irrefl _)
 |[],a,_,_=>cases a
structure FG (ts:AR) (T l:List Int) (P:AR):Prop where
 pair:∀p∈P,0<=p.1/\p.1<p.2/\p.2<(ts.length:Int)/\Meet (tieI ts p.1) (tieI ts p.2)
 inl:∀x∈l,0<=x/\x<(ts.length:Int)
 nd:(T++Bj P++l).Nodup
theorem VX (P:AR) (p:Int × Int):Bj (P++[p])=Bj P++[p.1,p.2]:=by
 unfold Bj;rw[Gz];rfl
theorem Pr (h:Meet t u):Meet u t:=by
 unfold Meet at h ⊢;lia
theorem Zzg (h:FG ts T (l++[x]) P):FG ts T l P:=(h.pair,λy Y=>h.inl y (D1 _ Y),by
 have:=h.nd;rw[<- CK]at this;exact(DY.mp this).1)
theorem Wm (h:FG ts T (l++[x]) P) (j:y∈l) (hm:Meet (tieI ts x) (tieI ts y)):FG ts T (l.erase y) (P++[((if y<x then y else x),(if y > x then y else x))]):=by
 have i:=h.inl x<|Bx _<|BU.mpr rfl;have Y:=h.inl y<|D1 _ j;have r:(l++[x]).Perm ([y,x]++l.erase y):=by
  refine(HC).trans ?_;show (x::l).Perm (y::x::l.erase y);exact((List.perm_cons_erase j).cons x).trans (List.Perm.swap _ _ _)
 have d:(T++Bj P++([y,x]++l.erase y)).Nodup:=(List.Perm.append_left _ r).nodup_iff.mp h.nd;have ne:y≠x:=by
  have:=(DY.mp d).2.1;rw[J5,DB]at this;exact λz=>this.1 (by rw[z];simp)
 refine(λp H=>?_,λz Z=>h.inl z<|D1 _<|List.mem_of_mem_erase Z,?_)
 ·rcases Bo.mp H with z|z
  ·exact h.pair p z
  ·rw[BU.mp z]
   by_cases c:y<x
   ·rw[AM c,AL #[2]]
    exact(Y.1,c,i.2,Pr hm)
   ·rw[AL c,AM #[2]]
    exact(i.1,by show x<y;lia,Y.2,hm)
 ·rw[VX]
  rw[<- CK]at d;have q:[((if y<x then y else x)),(if y > x then y else x)].Perm [y,x]:=by
   by_cases c:y<x
   ·rw[AM c,AL #[3]]
   ·rw[AL c,AM #[3]]
    exact List.Perm.swap _ _ _
  rw[<- CK];exact((List.Perm.append_left _ q).append_right _).nodup_iff.mpr d
theorem Zyt {N:Nat}(hW:AZ (N:Int) ts) (h1:OneP N ts) (k:Kr N ts L T) (j:L.Perm (numI ts.length)) (J:AZ (N:Int) (T.map<|tieI ts)) (O:FG ts T l P) (e:T'.Perm T) (r:T'.Pairwise (· <= ·)):RPap N ts T' P:=by
 have o:=Tf hW h1 k j J;have c:=k.cnt;have d:T'.Nodup:=e.nodup_iff.mpr k.nd;refine(?_,λt h=>E8.mp<|j.mem_iff.mp<|k.sub t<|e.mem_iff.mp h,by rw[e.length_eq];lia,?_,O.pair,?_)
 ·exact(r.and d).imp λz=>#[2]
 ·have v:=(NO J (e.map<|tieI ts).symm).2
  rw[o]at v;unfold pN at v;lia
 ·exact((e.append_right _).nodup_iff).mpr (DY.mp O.nd).1
#check 5
theorem Hu {P:EL}(i:Nat) (p:JS K t (M.set i .any) P):JS K t M P:=λg G H Z E k c=>p g G H Z E (k.drop i) c
end
def smB (ts:AR) (x y:Int):Bool:=decide ((tieI ts y).1∈[(tieI ts x).1,(tieI ts x).2]) || decide ((tieI ts y).2∈[(tieI ts x).1,(tieI ts x).2])
theorem Zyv (h:smB ts x y=true):Meet (tieI ts x) (tieI ts y):=by
 refine Pr ?_;unfold smB at h;simp only[Bool.or_eq_true,decide_eq_true_iff,Az,DQ,or_false]at h;exact h
theorem Zvm (E:Nat):numI (E+1)=numI E++[(E:Int)]:=by unfold numI;rw[List.range_succ,A5];rfl
theorem Zw5 (L T:List Int):((L.map D.int).filter (notB T)).map (λd=>d)=(L.filter λx=>!decide (x∈T)).map D.int:=by
 rw[Ij,DC];rfl
def smD (ts:AR) (x:Int):D->Bool
 |.int y=>smB ts x y
 |_=>false
theorem Tr (ts:AR) (x:Int) (l:List Int):((l.map D.int).filter (smD ts x)).map (λd=>d)=(l.filter<|smB ts x).map D.int:=by
 rw[Ij,DC];rfl
def drS (ps:List D) (N:Nat) (ts:AR) (r:List L2.Slot):AI:=.bor (.lst ps)::.val (A6 (N:Int) ts)::r
#check 5
theorem Ts (mb:Mb mg) (c0:Callee P w K mg base 1 "_law_draw" ["_law_pen_here","_law_many"] (spB K GD)) (c2:Callee P w K mg base 1 "_law_parts" ["_law_web"] (spN K Le)) (F:BE K "_law_drawn_tree" "_law_drawn_tree" HR f fd):FnOk P w K mg base CX0 2 f fd ["_law_pen_here","_law_web"] (spB K fDrT):=by
 refine F.ok Eu (LJ λp ds a3 h=>#[6]) λb7 A b4 s H vs Q E hr h=>?_;have U:=BX hr;have hv:=Dw hr;refine(_,(AU (Av (i:=2) Eu.nd rfl (Or.inl rfl)<|Dk AF)<|AU (DG PassesOwn.never rfl (De rfl (mb "range" #[1])<|AB (Aj (lenK K) rfl (mb "len" #[1]) BN<|AB (Ab (ixK K U) (pv 1) AQ λ_ _=>rfl) AF) AF) (An (i:=3) Eu.nd rfl<|Or.inl rfl)<|Ah<|Du<|bmK K PySem.F.plainAttrs_list PySem.F.slot_list_insert PySem.F.type_list_insert Ku (pv 2)<|AB (Am c0 (hr.mono #[1])<|AB (pv 0)<|AB (Ac (addK K) (Aj (lenK K) rfl (mb "len" #[1]) BN<|AB (pv 2) AF) AQ) AF)<|AB (pv 3) AF)<|AU (Av (i:=4) Eu.nd rfl (Or.inr rfl)<|Dk AF)<|AU (DG PassesOwn.never rfl (seqK K<|pv 2) (An (i:=3) Eu.nd rfl<|Or.inl rfl)<|Ah<|B8 (BS Gu (Ac (addK K) (Aj (lenK K) rfl (mb "len" #[1]) BN<|AB (Am c2 (hr.mono #[1])<|AB (CG<|AB (Ab (ixK K U) (pv 1) AQ λ_ _=>rfl)<|AB (Ce ["_law_k"] (show CompSc (defScope HR) ["_law_pen_here","_law_web","_law_order_here","_law_tie","_law_tree","_law_left","_law_pairs","_law_one_here","_law_some","_law_other"] _ ["_law_web"] [1] from (rfl,#[0],#[0],#[0],rfl,#[0])) rfl (seqK K<|Ac (addK K) (pv 4)<|Dk<|AB (pv 3) AF) (λ_ _ _ _ _=>(An (i:=0) (show List.Nodup (["_law_k","_law_web"]:List Str) from #[1]) rfl<|Or.inl rfl)) (λ_ _ _ _ _=>Dg) λ_ _ _ _ _=>(Ab (ixK K U) (Ab (ixK K U) (pv 1) AQ λ_ _=>rfl) (pv 0) λ_ _=>rfl)) AF) AF) AF)<|Aj (lenK K) rfl (mb "len" #[1]) BN<|AB (pv 4) AF) (Ab (ixK K U) (pv 1) AQ λ_ _=>rfl)<|nomark _) (Ah<|Du<|bmK K PySem.F.plainAttrs_list PySem.F.slot_list_append PySem.F.type_list_append EY (pv 4)<|AB (pv 3) AF) B7)<|AU (GZ (i:=5) ["_law_tie"] (show CompSc (defScope HR) ["_law_pen_here","_law_web","_law_order_here","_law_tie","_law_tree","_law_left","_law_pairs","_law_one_here","_law_some","_law_other"] _ ["_law_tree"] [4] from (rfl,#[0],#[0],#[0],rfl,#[0])) rfl Eu.nd rfl (Or.inl rfl) (seqK K<|pv 2) (λ_ _ _ _ _=>(An (i:=0) (show List.Nodup (["_law_tie","_law_tree"]:List Str) from #[1]) rfl<|Or.inl rfl)) (λ_ _ _ _ _=>(D5<|BS (notinK K U) (pv 0) (pv 1) rfl)) λ_ _ _ _ _=>(pv 0))<|AU (Av (i:=6) Eu.nd rfl (Or.inl rfl)<|Dk AF)<|AU (ND PassesOwn.never (BS Gw (Aj (lenK K) rfl (mb "len" #[1]) BN<|AB (pv 5) AF) AQ<|nomark _)<|AU (Av (i:=7) Eu.nd rfl (Or.inr rfl)<|bm0K K PySem.F.plainAttrs_list PySem.F.slot_list_pop PySem.F.type_list_pop Sw<|pv 5)<|AU (GZ (i:=8) ["_law_tie"] (show CompSc (defScope HR) ["_law_pen_here","_law_web","_law_order_here","_law_tie","_law_tree","_law_left","_law_pairs","_law_one_here","_law_some","_law_other"] _ ["_law_web","_law_one_here"] [1,7] from (rfl,#[0],#[0],#[0],rfl,#[0])) rfl Eu.nd rfl (Or.inl rfl) (seqK K<|pv 5) (λ_ _ _ _ _=>(An (i:=0) (show List.Nodup (["_law_tie","_law_web","_law_one_here"]:List Str) from #[1]) rfl<|Or.inl rfl)) (λ_ _ _ _ _=>(D5<|PW.pt<|pw_or (BS (inK K U) (Ab (ixK K U) (Ab (ixK K U) (Ab (ixK K U) (pv 1) AQ λ_ _=>rfl) (pv 0) λ_ _=>rfl) AQ λ_ _=>rfl) (Ab (ixK K U) (Ab (ixK K U) (pv 1) AQ λ_ _=>rfl) (pv 2) λ_ _=>rfl) rfl)<|pw_or1<|BS (inK K U) (Ab (ixK K U) (Ab (ixK K U) (Ab (ixK K U) (pv 1) AQ λ_ _=>rfl) (pv 0) λ_ _=>rfl) AQ λ_ _=>rfl) (Ab (ixK K U) (Ab (ixK K U) (pv 1) AQ λ_ _=>rfl) (pv 2) λ_ _=>rfl) rfl)) λ_ _ _ _ _=>(pv 0))<|Ah<|B8 (PW.pt<|pw_and (BS (neL0K K U) (pv 8) (Dk AF)<|nomark _)<|pw_and1<|BS Gw (Am c0 (hr.mono #[1])<|AB (pv 0)<|AB AQ AF) AQ<|nomark _) (AU (Av (i:=9) Eu.nd rfl (Or.inl rfl)<|Ab (ixK K U) (pv 8) (Am c0 (hr.mono #[1])<|AB (pv 0)<|AB (Aj (lenK K) rfl (mb "len" #[1]) BN<|AB (pv 8) AF) AF) λ_ _=>rfl)<|AU (Du<|bmK K PySem.F.plainAttrs_list PySem.F.slot_list_remove PySem.F.type_list_remove Zy3 (pv 5)<|AB (pv 9) AF)<|Ah<|Du<|bmK K PySem.F.plainAttrs_list PySem.F.slot_list_append PySem.F.type_list_append EY (pv 6)<|AB (CG<|AB (Aj (Ko rfl) rfl (mb "min" #[1]) Gn<|AB (pv 7)<|AB (pv 9) AF)<|AB (Aj (GV rfl) rfl (mb "max" #[1]) F3<|AB (pv 7)<|AB (pv 9) AF) AF) AF) B7)<|Ah<|A8<|CG<|AB (Cp (tupK K) rfl (mb "tuple" #[1]) Cr<|AB (Aj (sortUK K) rfl (mb "sorted" #[1]) Hk<|AB (pv 4) AF) AF)<|AB (Cp (tupK K) rfl (mb "tuple" #[1]) Cr<|AB (pv 6) AF) AF),Lb (λp ds a3 hf=>?_) h)
 obtain⟨hp,N,a,rfl,hW,h1,q⟩:=hf;refine(#[4],?_);dsimp only[cxOf,startD,BV,BJ,BQ,Ak];have b6:=hW.len;refine Ae<|DI<|Ed<|AK (#[1],?_);refine B3 (λM=>∃(p:List D) (L:List Int) (X:L2.Slot),Bm p/\L.Perm (numI a.length) /\ M = drS p N a [.own (.lst<|L.map D.int),X,.any,.any,.any,.any,.any,.any]) ?_ ?_
 ·refine DK (Dd<|AD<|Ag<|AD<|AN<|AA rfl<|AY<|A7 (Ee _ a)<|AK<|Bg (Or.inr rfl)<|AK (_,rfl,?_,?_,?_))
  ·rw[AH];lia
  ·rw[AH];lia
  refine(λi M=>∃(p:List D) (L:List Int) (X:L2.Slot),Bm p/\L.Perm (numI i) /\ M = drS p N a [.own (.lst<|L.map D.int),X,.any,.any,.any,.any,.any,.any],(p,[],.any,hp,.nil,rfl),?_,?_)
  ·rintro i d M2 b ⟨px,L,X,Z,W,rfl⟩
   obtain⟨hi,rfl⟩:=DF b;rw[AH]at hi;have hi:i<a.length:=#[2]
   have ll:L.length=i:=by rw[W.length_eq];unfold numI;rw[AH,By]
   refine BW<|Nh rfl rfl<|DT rfl rfl<|AD<|AN<|Hq rfl rfl<|AY<|Cn<|AK ?_;rw[AH];refine D6 (m:=(L.length:Int)+1) rfl rfl Z #[2] #[2] λa2 pf b1 b8 b9=>?_;refine AA rfl (_,a2,_,rfl,rfl,rfl,?_,#[2],#[2],?_)
   ·rw[AH];exact small1000 #[2]
   refine(pf,L.take (insI (L.map D.int).length a2)++(i:Int)::L.drop (insI (L.map D.int).length a2),.val (.int (0+(i:Int))),b1,?_,?_)
   ·rw[Zvm]
    refine List.perm_middle.trans ?_;rw[En];exact(W.cons _).trans (HC (l₁:=[(i:Int)]))
   ·rw[A5,BO,Fl,Fm,DE];rfl
  ·rintro M2 h
   rw[Ca,AH,Aq]at h;exact h
 rintro M1 ⟨px,L,X,Z,W,rfl⟩;have ll:L.length=a.length:=by rw[W.length_eq];unfold numI;rw[AH,By]
 have a0:L.Nodup:=W.nodup_iff.mpr<|Iw _;have I:∀t∈L,0<=t/\t<(a.length:Int):=λt ht=>E8.mp<|W.mem_iff.mp ht;have b3:∀{T:List Int}{i:Nat},Kr N a (L.take i) T->∀t∈T,t∈L:=λk t ht=>IS<|k.sub t ht;have a8:∀{T:List Int},T.Nodup->(∀t∈T,t∈L)->T.length<=24:=λnd h=>by
  have:=Hd nd h;lia
 refine Ae<|DI<|Ed<|AK (#[1],?_);refine LX (i:=2) rfl ?_;refine B3 (λM=>∃(T:List Int) (X:L2.Slot),Kr N a L T /\ M = drS px N a [.val (.lst<|L.map D.int),X,.own (.lst<|T.map D.int),.any,.any,.any,.any,.any]) ?_ ?_
 ·refine DK (Cz<|AA rfl (_,Or.inl rfl,λi M=>∃(T:List Int) (X:L2.Slot),Kr N a (L.take i) T /\ M = drS px N a [.val (.lst<|L.map D.int),X,.own (.lst<|T.map D.int),.any,.any,.any,.any,.any],([],_,Zz8,rfl),?_,?_))
  ·rintro i d M2 b ⟨T,X,n,rfl⟩
   rw[Ad]at b;cases zt:L[i]? with
   |none=>rw[zt]at b;cases b
   |some t=>
    rw[zt]at b;cases b;have tm:=Bd zt;have it:=I t tm;have hi:=(BZ.mp zt).1;have nt:t ∉ L.take i:=λz=>by
     have e:L=L.take i++t::L.drop (i+1):=by
      rw[<- (BZ.mp zt).2,List.getElem_cons_drop,En]
     rw[e]at a0;exact(DY.mp a0).2.2 t z t #[4] rfl
    have sT:∀u∈T++[t],u∈L:=λu U=>by
     rcases Bo.mp U with z|z
     ·exact b3 n u z
     ·rw[BU.mp z];exact tm
    have nT:(T++[t]).Nodup:=by
     rw[DY];exact(n.nd,Jt _ _,λx hx y hy z=>by rw[BU]at hy;subst z;subst hy;exact nt<|n.sub _ hx)
    have lT:=a8 nT sT;have hV:AZ (N:Int) ((T++[t]).map (tieI a)):=Kw hW (λu U=>I u<|sT u U) lT;rw[A1,CO]at lT;have e1:L.take (i+1)=L.take i++[t]:=by rw[Cy,zt];rfl
    refine BW<|B4<|Be<|Zvr (i:=4) rfl rfl<|AN<|AN<|Ag<|AD<|CZ<|EG<|AD<|CL<|AD<|AN<|AA rfl<|AY<|A7 (d:=.int (N:Int)) rfl<|AD<|DZ #[1]<|Cz<|AN<|AA rfl<|LW<|AD<|AA rfl<|AK (by show 1<=sizeLine;decide,Ge (es:=[.int t]) ?_ (_,Or.inl rfl,?_,λ_=>true,tieF a,λj d b=>?_,?_))
    ·rw[AH];exact CM<|small1000 (by show T.length+1<=1000;lia)
    ·rw[A1,AH];exact small1000 (by show T.length+1<=1000;omega)
    ·rw[show T.map D.int++[.int t]=(T++[t]).map D.int by rw[A5];rfl,Ad]at b
     cases zu:(T++[t])[j]? with
     |none=>rw[zu]at b;cases b
     |some u=>
      rw[zu]at b;cases b;have iu:=I u<|sT u<|Bd zu;exact Df (rfl,AN<|AN<|AA rfl<|AY<|A7 (Ee _ a)<|AA rfl<|A7 (Gd iu.1 iu.2) (rfl,_,rfl))
    refine AK (DA,AK (N,(T++[t]).map (tieI a),_,rfl,Or.inr ?_,hV,λms hm=>(_,rfl,AK<|Bg (Or.inl rfl)<|Ag<|AD<|AA rfl<|AK<|Bg (Or.inl rfl)<|Cn<|AN<|AA rfl<|AY<|A7 (d:=.int (N:Int)) rfl<|DU (trivial,_,rfl,?_))))
    ·rw[show T.map D.int++[.int t]=(T++[t]).map D.int by rw[A5];rfl];exact congrArg D.lst<|R0 a _
    have ep:((((CQ N ((T++[t]).map (tieI a)) ms).map lstI).length:Nat):Int)=pN N ((T++[t]).map (tieI a)):=by
     rw[AH,show (CQ N ((T++[t]).map (tieI a)) ms).length=ms.length from AH _,F8 hm];rfl
    rw[ep,AH];refine ite2 (λc=>?_) λc=>?_
    ·refine F5 rfl rfl (AA rfl (_,_,rfl,rfl,?_,?_))
     ·rw[AH];exact small1000 #[2]
     ·refine(T++[t],.val (.int t),?_,?_)
      ·rw[e1]
       refine T7 n nt (λu U x hx=>?_) hV<|of_decide_eq_true c;have:=I u<|IS U;have:=hW.tie _<|Nc this.1 this.2;rcases hx with rfl|rfl <;> lia
      ·rw[A5];rfl
    ·refine B6 (T,_,?_,rfl)
     rw[e1];exact TR n hV<|of_decide_eq_false<|FR.mpr c
  ·rintro M2 ⟨T,X,n,rfl⟩
   rw[AH,CP]at n;exact(T,X,n,rfl)
 rintro M1 ⟨T,X,n,rfl⟩;refine Hu 3 ?_;have lT:=a8 n.nd n.sub;have hV:AZ (N:Int) (T.map<|tieI a):=Kw hW (λu U=>I u<|n.sub u U) lT;refine LX (i:=4) rfl ?_;refine Ae<|DI<|Hn #[1]<|Cz<|AA rfl (_,Or.inl rfl,?_,notB T,λd=>d,λi d b=>?_,?_)
 ·rw[AH];exact small1000 #[2]
 ·obtain⟨u,_,rfl⟩:=A2.mp (Bd b)
  refine Be<|AN<|AA rfl<|AA rfl<|N1 (_,rfl,rfl,?_);exact ite2 (λ_=>AA rfl (rfl,_,rfl)) λ_=>(_,rfl)
 rw[Zw5];have a4:(L.filter λx=>!decide (x∈T)).length<=24:=by
  have:=GJ (λx=>!decide (x∈T)) L;lia
 have a7:FG a T (L.filter λx=>!decide (x∈T)) []:=(λ_ h=>(nomatch h),λx hx=>I x (Ao.mp hx).1,by
  rw[show T++Bj []=T from Bp _,DY];refine(n.nd,a0.filter _,λx hx y hy z=>?_);subst z;have:=(Ao.mp hy).2;rw[Au hx]at this;cases this)
 generalize (L.filter λx=>!decide (x∈T))=l0 at a4 a7 ⊢;refine Ae<|DI<|Ed<|AK (#[1],?_);refine B3 (λM=>∃(p:List D) (l:List Int) (g:AR) (J V x9:L2.Slot),Bm p/\g.length<=24/\FG a T l g /\ M = drS p N a [.val (.lst<|L.map D.int),.any,.val (.lst<|T.map D.int),.own (.lst<|l.map D.int),.own (.lst<|g.map A3),J,V,x9]) ?_ ?_
 ·refine NS (λm M=>∃(p:List D) (l:List Int) (g:AR) (J V x9:L2.Slot),Bm p/\l.length=m/\g.length+l.length<=24/\FG a T l g /\ M = drS p N a [.val (.lst<|L.map D.int),.any,.val (.lst<|T.map D.int),.own (.lst<|l.map D.int),.own (.lst<|g.map A3),J,V,x9]) (_,px,l0,[],.any,.any,.any,Z,rfl,by simp;exact a4,a7,rfl) ?_
  rintro m M2 ⟨a1,l,g,J,V,x9,B,hm,a5,Y,rfl⟩;refine Be<|AN<|Hq rfl rfl<|AY<|DU (_,rfl,ite2 (λc=>?_) λc=>(a1,l,g,J,V,x9,B,#[2],Y,rfl));have c:=of_decide_eq_true c;rw[AH]at c;obtain⟨o,x,rfl⟩:∃o x,l=o++[x]:=(l.dropLast,l.getLast (by intro z;rw[z]at c;simp at c),(List.dropLast_concat_getLast _).symm);rw[A1,CO]at hm a5;rw[A5];refine Hu 8<|Hu 9 ?_;refine Ae<|BM<|Zxf rfl rfl ?_;have ix:=Y.inl x<|Bx _<|BU.mpr rfl;have tx:=Gd ix.1 ix.2;refine B3 (λM=>M = drS a1 N a [.val (.lst<|L.map D.int),.any,.val (.lst<|T.map D.int),.own (.lst<|o.map D.int),.own (.lst<|g.map A3),.val (.int x),.val (.lst ((o.filter<|smB a x).map D.int)),.any]) ?_ ?_
  ·refine BM (CZ<|Zwy (i:=5) rfl rfl<|Hn #[1]<|Cz<|AA rfl (_,Or.inl rfl,small1000 (by rw[AH];lia),smD a x,λd=>d,λj d b=>?_,?_))
   ·obtain⟨v,vm,rfl⟩:=A2.mp (Bd b)
    have iv:=Y.inl v<|D1 _ vm;have tv:=Gd iv.1 iv.2;have a9:∀(M4:AI) (k y:Int) {R:Bool->AI->Prop},M4=[.val (.int v),.val (A6 (N:Int) a),.val (.int x)]->atI [D.int (tieI a v).1,.int (tieI a v).2] k=some (.int y)->R (decide<|y∈[(tieI a x).1,(tieI a x).2]) M4->JT K (tTest<|tOp (rInU K false) (tOp (rIxU K) (tOp (rIxU K) (tOp (rIxU K) (tVar 1)<|tC (.int 1))<|tVar 0)<|tC (.int k))<|tOp (rIxU K) (tOp (rIxU K) (tVar 1)<|tC (.int 1))<|tVar 2) M4 R:=by
     rintro M4 k y R rfl e r;exact Be<|AN<|AN<|AN<|AN<|AA rfl<|AY<|A7 (Ee _ a)<|AA rfl<|A7 tv<|AY<|A7 e<|AN<|AN<|AA rfl<|AY<|A7 (Ee _ a)<|AA rfl<|A7 tx<|Nv (ns:=[(tieI a x).1,(tieI a x).2]) (_,rfl,r)
    refine EK<|a9 _ 0 _ rfl rfl<|ite2 (λc1=>?_) λc1=>a9 _ 1 _ rfl rfl ?_
    ·exact(by show true=(_ || _);rw[c1];rfl,AA rfl (rfl,_,rfl))
    ·have c1:¬ decide ((tieI a v).1∈[(tieI a x).1,(tieI a x).2])=true:=c1
     refine(by show _=(_ || _);rw[FR.mpr c1];rfl,ite2 (λ_=>AA rfl (rfl,_,rfl)) λ_=>(_,rfl))
   ·rw[Tr]
    refine((_,rfl,λe he=>?_),_,rfl,rfl);obtain⟨_,_,rfl⟩:=A2.mp he
    trivial
  rintro M3 rfl;have G:∀y∈o.filter (smB a x),y∈o /\ Meet (tieI a x) (tieI a y):=λy hy=>((Ao.mp hy).1,Zyv (Ao.mp hy).2);have b2:=GJ (smB a x) o;generalize o.filter (smB a x)=S at G b2 ⊢;have O:∀C,Bm C->∃m',m'<m/\∃(p:List D) (l:List Int) (PP2:AR) (J V x92:L2.Slot),Bm p/\l.length=m' /\ PP2.length+l.length<=24/\FG a T l PP2/\drS C N a [.val (.lst<|L.map D.int),.any,.val (.lst<|T.map D.int),.own (.lst<|o.map D.int),.own (.lst<|g.map A3),.val (.int x),.val (.lst<|S.map D.int),.any]=drS p N a [.val (.lst<|L.map D.int),.any,.val (.lst<|T.map D.int),.own (.lst<|l.map D.int),.own (.lst<|PP2.map A3),J,V,x92]:=λC h3=>(o.length,#[2],C,o,g,_,_,_,h3,rfl,#[2],Zzg Y,rfl);refine B4<|FD<|Be<|AN<|AA rfl<|LW<|AK (#[1],Zxx (_,rfl,?_));by_cases cS:S=[]
  ·subst cS
   exact iteF<|B6<|O _ B
  have sl:0<S.length:=IT.mpr cS;refine ite2 (λ_=>?_) λz=>B6<|O _ B;refine Be<|AN (Hw rfl rfl B #[1] #[1] λr C a6 _ _=>AY<|DU (_,rfl,ite2 (λ_=>?_) λ_=>B6<|O _ a6));refine Ae<|BM<|AN<|AA rfl<|DT rfl rfl<|AD<|Ag<|AD<|AA rfl<|AK<|Bg (Or.inl rfl)<|AK ?_;rw[AH];refine D6 (m:=(S.length:Int)) rfl rfl a6 #[2] #[2] λk b5 b0 k0 k1=>?_;obtain⟨y,y1,y2⟩:=Nn (f:=D.int) (xs:=S) k0 k1;refine Dt y2 ?_;obtain⟨yl,ym⟩:=G y<|Bd y1;refine Ae<|Zzk rfl rfl<|AA rfl (_,o,y,rfl,rfl,rfl,yl,#[2],?_);rw[<- List.erase_eq_eraseIdx_of_idxOf rfl];have le:=Lu yl;have lp:=El yl;refine F5 rfl rfl<|CL<|AD<|Ag<|AD<|AA rfl<|AD<|AA rfl<|AK<|EI<|AD<|Ag<|AD<|AA rfl<|AD<|AA rfl<|AK<|EI<|AK (DA,_,_,rfl,rfl,?_,?_)
  ·rw[AH];exact small1000 #[2]
  refine((o.erase y).length,#[2],b5,o.erase y,g++[((if y<x then y else x),(if y > x then y else x))],.val (.int x),.val (.lst<|S.map D.int),.val (.int y),b0,rfl,?_,Wm Y yl ym,?_)
  ·rw[A1,CO];lia
  ·rw[A5];rfl
 rintro M1 ⟨a1,l,g,J,V,x9,B,a5,Y,rfl⟩;refine LX (i:=6) rfl ?_;refine BK<|CL<|AD<|Ag<|AD<|CZ<|Qk<|AD<|AA rfl<|AK (T,Or.inl rfl,#[2],λT' e r=>(_,rfl,AK<|DS (Or.inl rfl)<|AD<|Ag<|AD<|AA rfl<|AK<|DS (Or.inl rfl)<|AK (DA,?_)));exact(_,rfl,q T' g _ B<|Zyt hW h1 n W hV Y e r)
def fHol:DSp:=λs t=>∃(N:Nat) (ts:AR) (o:Ay),s=[A6 (N:Int) ts,Bb o]/\AZ (N:Int) ts/\A0 (N:Int) ts o/\∀ms,Bw ms (AG N ts)->t (.int<|FI (N:Int) ts o ms)
theorem Zy2 (J:Mb mg) (z:Callee P w K mg base 1 "_law_parts" ["_law_web"] (spN K Le)) (j:Callee P w K mg base 2 "_law_faces" ["_law_order_here"] (spN K OI)) (F:BE K "_law_holes" "_law_holes" MP f fd):FnOk P w K mg base CX0 3 f fd ["_law_web","_law_order_here"] (spD K fHol):=by
 refine F.ok OR (Bt λD t h=>#[6]) λv A e s H V Q E r h=>?_;have u:=BX r;refine(_,(AU (Av (i:=2) OR.nd rfl (Or.inl rfl)<|Ac (addK K) (Ac Dv (Ac D8 AQ<|Aj (lenK K) rfl (J "len" #[1]) BN<|AB (Am z (r.mono #[1])<|AB (pv 0) AF) AF)<|Ab (ixK K u) (pv 0) AQ λ_ _=>rfl)<|Aj (lenK K) rfl (J "len" #[1]) BN<|AB (Ab (ixK K u) (pv 0) AQ λ_ _=>rfl) AF)<|Ah<|A8<|Ac Jb (Ac Dv (pv 2)<|Aj (lenK K) rfl (J "len" #[1]) BN<|AB (Am j (r.mono #[1])<|AB (pv 1) AF) AF) AQ),Bu (λD t a=>?_) h);obtain⟨N,S,o,rfl,W,O,q⟩:=a;sleep 0;have n:=W.lo;have b:=W.hi;have T:=W.len;have c:=CC N S;have L:=Kv W O;refine Ae<|BM<|AN<|AN<|AN<|AY<|Ag<|AD<|CZ<|EG<|AD<|AA rfl<|AK (N,S,_,rfl,Or.inl rfl,W,λm M=>(_,rfl,?_));have l:=M.len;refine AK<|Bg (Or.inl rfl) ?_;rw[AH,show (CQ N S m).length=m.length from AH _];refine jr_I (Or.inl (#[2],#[2]))<|AN<|AA rfl<|AY<|A7 (d:=.int (N:Int)) rfl<|EJ<|Ag<|AD<|AN<|AA rfl<|AY<|A7 (d:=.tup<|S.map A3) rfl<|AK<|Bg (Or.inr rfl) ?_;rw[AH];refine Cn ?_;refine BK<|AN<|AN<|AA rfl<|Ag<|AD<|CZ<|EG<|AD<|AA rfl<|AK (_,S,o,rfl,W,O,_,rfl,?_);refine AK<|Bg (Or.inl rfl) ?_;rw[AH];refine EJ<|AY<|jr_I (#[2],#[2]) ?_;exact q m M
theorem R4:∀(l:List Int),l≠[]->∃m,m∈l/\∀a∈l,a<=m
 |[],h=>absurd rfl h
 |[x],_=>(x,Bk,λa A=>by rw[BU.mp A];exact ET _)
 |x::y::l,_=>by
  obtain⟨m,b,H⟩:=R4 (y::l) #[4];by_cases hx:m<=x
  ·exact⟨x,Bk,λa A=>by
    rcases Az.mp A with rfl|A
    ·exact ET _
    ·have:=H a A;lia⟩
  ·exact⟨m,Bs _ b,λa A=>by
    rcases Az.mp A with rfl|A
    ·lia
    ·exact H a A⟩
theorem Zup {t:Nat}{ns:List Int}(h:ns.Pairwise (· < ·)) (j:∀x∈ns,0<=x/\x<(t:Int)):ns.length<=t:=by
 have:=Hd (l:=(Af t).map λi:Nat=>(i:Int)) (h.imp λz=>Em z) λx X=>by
  have:=j x X;exact A2.mpr (x.toNat,BD.mpr #[2],#[2])
 rw[AH,By]at this;exact this
theorem ok_law (mb:Mb mg) (b6:Callee P w K mg base 1 "_law_pen" ["_law_script"] (spN K fPen)) (a8:Callee P w K mg base 1 "_law_draw" ["_law_pen_here","_law_many"] (spB K GD)) (b4:Callee P w K mg base 2 "_law_one" ["_law_pen_here","_law_places","_law_ties"] (spB K fOne25)) (a9:Callee P w K mg base 2 "_law_drawn_tree" ["_law_pen_here","_law_web"] (spB K fDrT)) (b7:Callee P w K mg base 7 "laid" ["web","paper"] (spD K fLaid)) (b5:Callee P w K mg base 2 "_law_order" ["_law_pen_here","_law_web"] (spB K Lh)) (b3:Callee P w K mg base 3 "_law_holes" ["_law_web","_law_order_here"] (spD K fHol)) (b8:Callee P w K mg base 4 "set_bars" ["web","paper"] (spD K fSetB)) (b9:Callee P w K mg base 6 "tree_shows" ["web","paper"] (spD K Li))
  (F:BE K "law" "law" Fo f fd):FnOk P w K mg base CX0 8 f fd ["_law_script"] (spD K fLaw):=by
 refine F.ok Ew (Bt λds U h=>by obtain⟨_,rfl,_⟩:=h;rfl) λa7 A a4 s H vs Q E v h=>?_;have hu:=BX v;have hv:=Dw v;refine(_,(AU (Av (i:=1) Ew.nd rfl (Or.inr rfl)<|Am b6 (v.mono #[1])<|AB (pv 0) AF)<|AU (Av (i:=2) Ew.nd rfl (Or.inr rfl)<|Am b4 (v.mono #[1])<|AB (pv 1)<|AB AQ<|AB AQ AF)<|AU (Av (i:=3) Ew.nd rfl (Or.inl rfl)<|Am a9 (v.mono #[1])<|AB (pv 1)<|AB (pv 2) AF)<|AU (Av (i:=4) Ew.nd rfl (Or.inl rfl)<|Dk<|AB (Am b7 (v.mono #[1])<|AB (pv 2)<|AB (pv 3) AF) AF)<|AU (DG PassesOwn.never rfl (De rfl (mb "range" #[1])<|AB AQ AF) (An (i:=5) Ew.nd rfl<|Or.inr rfl)<|Ah<|Du<|bmK K PySem.F.plainAttrs_list PySem.F.slot_list_append PySem.F.type_list_append EY (pv 4)<|AB (Am b5 (v.mono #[1])<|AB (pv 1)<|AB (pv 2) AF) AF)<|AU (Av (i:=6) Ew.nd rfl (Or.inl rfl)<|Aj (maxK K rfl) rfl (mb "max" #[1]) F3<|AB (Ce ["_law_order_here"] (show CompSc (defScope Fo) ["_law_script","_law_pen_here","_law_web","_law_paper","_law_orders","_law_k","_law_greatest","_law_some","_law_bar"] _ ["_law_web"] [2] from (rfl,#[0],#[0],#[0],rfl,#[0])) rfl (seqK K<|pv 4) (λ_ _ _ _ _=>(An (i:=0) (show List.Nodup (["_law_order_here","_law_web"]:List Str) from #[1]) rfl<|Or.inl rfl)) (λ_ _ _ _ _=>Dg) λ_ _ _ _ _=>(Am b3 (v.mono #[1])<|AB (pv 1)<|AB (pv 0) AF)) AF)<|AU (DG PassesOwn.never rfl (De rfl (mb "range" #[1])<|AB AQ AF) (An (i:=5) Ew.nd rfl<|Or.inr rfl)<|AU (Av (i:=7) Ew.nd rfl (Or.inl rfl)<|Cp (tupK K) rfl (mb "tuple" #[1]) Cr<|AB (Ce ["_law_tie"] (show CompSc (defScope Fo) ["_law_script","_law_pen_here","_law_web","_law_paper","_law_orders","_law_k","_law_greatest","_law_some","_law_bar"] _ ["_law_pen_here","_law_k"] [1,5] from (rfl,#[0],#[0],#[0],rfl,#[0])) rfl (De rfl (mb "range" #[1])<|AB (Aj (lenK K) rfl (mb "len" #[1]) BN<|AB (Ab (ixK K hu) (pv 2) AQ λ_ _=>rfl) AF) AF) (λ_ _ _ _ _=>(An (i:=0) (show List.Nodup (["_law_tie","_law_pen_here","_law_k"]:List Str) from #[1]) rfl<|Or.inl rfl)) (λ_ _ _ _ _=>(D5<|PW.pt<|pw_and (BS Gw (pv 2) AQ<|nomark _)<|pw_and1<|BS C0 (Am a8 (v.mono #[1])<|AB (pv 1)<|AB (Ac (addK K) AQ<|pv 2) AF) AQ<|nomark _)) λ_ _ _ _ _=>(pv 0)) AF)<|AU (Av (i:=8) Ew.nd rfl (Or.inl rfl)<|Am b8 (v.mono #[1])<|AB (pv 2)<|AB (pv 7) AF)<|Ah<|B8 (PW.pt<|pw_or (BS SF (pv 8) Jf<|nomark _)<|pw_or (BS Gu (pv 8) (pv 6)<|nomark _)<|pw_or1<|BS Gu (pv 8) (Am b9 (v.mono #[1])<|AB (pv 2)<|AB (pv 3) AF)<|nomark _) (Ah<|A8 Hx) B7)<|Ah<|A8 Hx),Bu (λds U hf=>?_) h);obtain⟨L,rfl,hl,q⟩:=hf;sleep 0;refine Ae<|DI<|EG<|AD<|AA rfl<|AK (L,rfl,hl,λps hp=>?_);refine Ae<|BM<|DT rfl rfl<|AD<|AY<|AD<|AY<|AK (_,_,rfl,rfl,hp,rfl,λN ts p1 a2 B h1=>?_);refine Ae<|BM<|DT rfl rfl<|AD<|AA rfl<|AK (_,_,rfl,rfl,a2,N,ts,rfl,B,h1,λT I p2 a3 hT=>?_);have a6:=B.len;have lo:=B.lo;have l1:(frs<|AG N ts).length=1:=by
  have:=h1 _<|FE _;have:=El (((FE<|AG N ts).2 _).mpr (Hv (N:=N) (ts:=ts) (p:=0) (ET _) #[2]));lia
 refine Ae<|DI<|Ed<|AD<|BR<|AD<|AA rfl<|AD<|AA rfl<|AK (N,ts,T,I,rfl,B,hT,λo0 a1=>AK (by show 1<=sizeLine;decide,?_));refine B3 (λM=>∃(X:List D) (O:List (List<|List Int)) (C:L2.Slot),Bm X/\O.length=4/\(∀o∈O,A0 (N:Int) ts o) /\ M = [.val (.scr<|L.map .int),.own (.lst X),.val (A6 (N:Int) ts),.val (papD T I),.own (.lst<|O.map Bb),C,.any,.any,.any]) ?_ ?_
 ·refine DK (Dd<|AD<|AY<|AK (_,rfl,#[1],#[1],?_))
  refine(λi M=>∃(X:List D) (O:List (List<|List Int)) (C:L2.Slot),Bm X/\O.length=1+i/\(∀o∈O,A0 (N:Int) ts o) /\ M = [.val (.scr<|L.map .int),.own (.lst X),.val (A6 (N:Int) ts),.val (papD T I),.own (.lst<|O.map Bb),C,.any,.any,.any],(p2,[o0],_,a3,rfl,λo ho=>by rw[BU.mp ho];exact a1,rfl),?_,?_)
  ·rintro i d G t ⟨X,O,C,c,l,j,rfl⟩
   obtain⟨hi,rfl⟩:=DF t;have hi:i<3:=hi;refine BW<|F5 rfl rfl<|DT rfl rfl<|AD<|AA rfl<|AK (Zvq rfl rfl c B λo py Y hO=>(_,_,rfl,rfl,?_,py,O++[o],.val (.int (0+(i:Int))),Y,?_,λu hu=>?_,?_))
   ·rw[AH];exact small1000 #[2]
   ·rw[A1,l];rfl
   ·rcases Bo.mp hu with z|z
    ·exact j u z
    ·rw[BU.mp z];exact hO
   ·rw[A5];rfl
  ·rintro G ⟨X,O,C,c,l,j,rfl⟩
   rw[Ca]at l;exact(X,O,C,c,l,j,rfl)
 rintro M1 ⟨X,O,C,c,l,j,rfl⟩;refine LX (i:=4) rfl<|Hu 5 ?_;obtain⟨g,g1,g2⟩:=R4 (O.map λo=>FI (N:Int) ts o<|frs<|AG N ts) (by intro z;rw[List.map_eq_nil_iff]at z;rw[z]at l;cases l);refine B3 (λM=>M = [.val (.scr<|L.map .int),.own (.lst X),.val (A6 (N:Int) ts),.val (papD T I),.val (.lst<|O.map Bb),.any,.val (.int g),.any,.any]) ?_ ?_
 ·refine BM (Ag<|AD<|LK (n:=1) #[1]<|Cz<|AA rfl (_,Or.inl rfl,?_,λi J M=>J=((O.take i).map λo=>FI (N:Int) ts o<|frs<|AG N ts).map D.int/\∃x:L2.Slot,M = [x,.val (A6 (N:Int) ts)],(rfl,_,rfl),?_,?_))
  ·rw[AH];exact small1000 #[2]
  ·rintro i d J G t ⟨rfl,x,rfl⟩
   rw[Ad]at t;cases zo:O[i]? with
   |none=>rw[zo]at t;cases t
   |some o=>
    rw[zo]at t;cases t;refine Gh #[1]<|Df ?_;rw[AM rfl];refine BR<|AD<|AA rfl<|AD<|AA rfl<|AK (N,ts,o,rfl,B,j o<|Bd zo,λms hm=>(?_,_,rfl));rw[F8 hm,Cy,zo,A5,A5];rfl
  ·rintro J G ⟨rfl,x,rfl⟩
   rw[AH,CP];exact AK<|Zxe (Or.inl rfl) g1 g2 rfl
 rintro G rfl;have a0:∀S:List Int,S.Pairwise (· < ·)->(∀y∈S,0<=y/\y<(ts.length:Int))->g<=setI N ts S:=λS s1 s2=>by
  obtain⟨o,ho,rfl⟩:=A2.mp g1;exact set_bar B (j o ho) s1 s2 l1
 refine B3 (λ_=>True) ?_ λM1 _=>BK<|Jk q;refine DK<|Dd<|AD<|AY<|AK (_,rfl,#[1],#[1],?_);refine(λ_ M=>∃(X:List D) (C x7 x8:L2.Slot),Bm X /\ M = [.val (.scr<|L.map .int),.own (.lst X),.val (A6 (N:Int) ts),.val (papD T I),.val (.lst<|O.map Bb),C,.val (.int g),x7,x8],(X,_,_,_,c,rfl),?_,λ_ _=>trivial);rintro k d M3 t ⟨py,y5,y7,y8,Y,rfl⟩;obtain⟨hk,rfl⟩:=DF t;have hk:k<6:=hk;rw[DE];refine BW<|Hu 7<|Hu 8<|B3 (λM=>∃(e:List D) (S:List Int),Bm e/\S.Pairwise (· < ·)/\(∀y∈S,0<=y/\y<(ts.length:Int)) /\ M = [.val (.scr<|L.map .int),.own (.lst e),.val (A6 (N:Int) ts),.val (papD T I),.val (.lst<|O.map Bb),.val (.int (k:Int)),.val (.int g),.val (.tup<|S.map D.int),.any]) ?_ ?_
 ·refine BM (Ag<|AD<|LK (n:=1) #[1]<|Dd<|AD<|Ag<|AD<|AN<|AA rfl<|AY<|A7 (Ee _ ts)<|AK<|Bg (Or.inr rfl)<|AK (_,rfl,?_,?_,?_))
  ·rw[AH];lia
  ·rw[AH];lia
  rw[AH];refine⟨by rw[Ca];exact small1000 #[2],λi J G=>∃(X:List D) (S:List Int) (x:L2.Slot),Bm X/\J=S.map D.int/\S.Pairwise (· < ·)/\(∀y∈S,0<=y/\y<(i:Int)) /\ G=[x,.own (.lst X),.val (.int (k:Int))],(py,[],.any,Y,rfl,.nil,λ_ h=>(nomatch h),rfl),?_,?_⟩
  ·rintro i d J G t ⟨X,S,x,c,rfl,W,R,rfl⟩
   obtain⟨hi,rfl⟩:=DF t;rw[DE];have a5:∀{e:List D},Bm e->∃(X:List D) (S':List Int) (x:L2.Slot),Bm X/\S.map D.int++[D.int (i:Int)]=S'.map D.int/\S'.Pairwise (· < ·)/\(∀y∈S',0<=y/\y<((i+1:Nat):Int)) /\ [L2.Slot.val (.int (i:Int)),.own (.lst e),.val (.int (k:Int))]=[x,.own (.lst X),.val (.int (k:Int))]:=λ{e} Z=>⟨e,S++[(i:Int)],_,Z,by rw[A5];rfl,by
    rw[IQ];exact(W,Jt _ _,λa ha b hb=>by rw[BU.mp hb];exact(R a ha).2),λy hy=>by
    rcases Bo.mp hy with h|h
    ·have:=R y h;lia
    ·rw[BU.mp h];lia,rfl⟩
   have V:∀{e:List D},Bm e->∃(X:List D) (S':List Int) (x:L2.Slot),Bm X/\S.map D.int=S'.map D.int/\S'.Pairwise (· < ·)/\(∀y∈S',0<=y/\y<((i+1:Nat):Int)) /\ [L2.Slot.val (.int (i:Int)),.own (.lst e),.val (.int (k:Int))]=[x,.own (.lst X),.val (.int (k:Int))]:=λ{e} Z=>(e,S,_,Z,rfl,W,λy hy=>by have:=R y hy;omega,rfl);refine Wi #[1] (Nat.succ_pos _)<|FD<|Be<|AN<|AA rfl<|AY<|DU (_,rfl,ite2 (λz=>?_) λz=>V c);refine Be<|AN<|DT rfl rfl<|AD<|Eh (Dx Ef (Cs rfl) LL)<|AK (D6 (m:=1+(k:Int)) rfl rfl c #[2] #[2] λr e Z r0 r1=>AY<|DV (_,rfl,ite2 (λ_=>AA rfl<|a5 Z) λ_=>V Z))
  ·rintro J G ⟨X,S,x,c,rfl,W,R,rfl⟩
   rw[Ca,Aq]at R;exact AK<|DS (Or.inl rfl) (X,S,c,W,R,rfl)
 rintro M4 ⟨e,S,Z,W,R,rfl⟩;have sl:=Zup W R;have eV:setV N ts (.tup<|S.map D.int)=.int (setI N ts S):=by
  unfold setV;rw[AM (#[2],Ny W R)];congr 2;show (S.map D.int).map intD=S;rw[Ba];exact IY _
 refine Ae<|BM<|BR<|AD<|AA rfl<|AD<|AA rfl<|AK (N,ts,_,rfl,B,NV #[2],?_);rw[eV];have b1:=a0 S W R;have b2:=Zzn B hT.tp S;refine B4<|EK<|Be<|AN<|AA rfl<|Ji<|Q8 (_,rfl,iteF ?_);refine EK<|Be<|AN<|AA rfl<|AA rfl<|DU (_,rfl,?_);rw[A4 #[2]];refine iteF<|Be<|AN<|AA rfl<|BR<|AD<|AA rfl<|AD<|AA rfl<|AK (N,ts,T,I,rfl,B,hT,DU (_,rfl,?_));rw[A4 #[2]];exact iteF<|B6 (e,_,_,_,Z,rfl)
end
theorem lenS {us:List Value}(h:us.length=n+1):∃a t,us=a::t/\t.length=n:=by
 cases us with
 |nil=>exact absurd h.symm (Nat.succ_ne_zero n)
 |cons a t=>exact(a,t,rfl,Nat.succ.inj h)
theorem bK1 {α:Type _}{g r:List Value -> α}(h:∀a0,g [a0]=r [a0]) (us:List Value) (l:us.length=1):g us=r us:=by
 obtain⟨a0,u,rfl,H⟩:=lenS l;obtain rfl:=GH H;exact h a0
theorem bK2 {α:Type _}{g r:List Value -> α}(h:∀a0 a1,g [a0,a1]=r [a0,a1]) (us:List Value) (l:us.length=2):g us=r us:=by
 obtain⟨a0,u,rfl,H⟩:=lenS l;obtain⟨a1,U,rfl,a⟩:=lenS H;obtain rfl:=GH a;exact h a0 a1
theorem bK3 {α:Type _}{g r:List Value -> α}(h:∀a0 a1 a2,g [a0,a1,a2]=r [a0,a1,a2]) (us:List Value) (l:us.length=3):g us=r us:=by
 obtain⟨a0,u,rfl,H⟩:=lenS l;obtain⟨a1,U,rfl,a⟩:=lenS H;obtain⟨a2,c,rfl,b⟩:=lenS a;obtain rfl:=GH b;exact h a0 a1 a2
theorem bK4 {α:Type _}{g r:List Value -> α}(h:∀a0 a1 a2 a3,g [a0,a1,a2,a3]=r [a0,a1,a2,a3]) (us:List Value) (l:us.length=4):g us=r us:=by
 obtain⟨a0,u,rfl,H⟩:=lenS l;obtain⟨a1,U,rfl,a⟩:=lenS H;obtain⟨a2,d,rfl,b⟩:=lenS a;obtain⟨a3,e,rfl,c⟩:=lenS b;obtain rfl:=GH c;exact h a0 a1 a2 a3
def FnE (K:W.Frag) (x:Str) (st:Stmt):Prop:=∃(f:Addr) (fd:FuncData),W.nsIn K mainGlobals x=some (some (.ref f))/\BE K x x st f fd
theorem fnE {J z O L j ct:Value}(a:W.nsIn K mainGlobals x=some (some (.ref f))) (l:K.lookup f=some (J,od,.func<|W.fnOf x x (defArgs st) (defBody st) (defScope st) .none z O L an j ct,sl)) (c:W.codeIn K j x=true) (k:W.keepIn K (.ref f)=true):FnE K x st:=(f,_,a,TK l c k)
theorem Zx9 {P:Program}{w:World}{K:W.Frag}{mg:Str->Option Value}{base h:Heap}(X:K.In h) (G:h.Ns mainGlobals mg) {x:Str}{st:Stmt}{ps:List Str}{L:Nat}{sp:Sp}(e:FnE K x st) (O:∀{f:Addr}{fd:FuncData},BE K x x st f fd->FnOk P w K mg base CX0 L f fd ps sp) (j:∀(kV doc pm:Value) (an:Option Addr) (cdv ct:Value) (us:List Value),us.length=ps.length->bindArgs (W.fnOf x x (defArgs st) (defBody st) (defScope st) .none kV doc pm an cdv ct) (us,[])=pure (ps.zip us)):Callee P w K mg base L x ps sp:=by
 obtain⟨f,fd,a,F⟩:=e;exact⟨(f,fd,O F,F.binds j,F.kp,W.mg_of X G a)⟩
theorem all_mk {l:PySem.W.OpenLaw}{w:World}{K:W.Frag}{h:Heap}{mg:Str->Option Value}{fa:Addr}(X:K.In h) (G:h.Ns mainGlobals mg) (d9:mg "law" = some (.ref fa))
  (e1:FnE K "_law_draw" ML)
  (e2:FnE K "_law_pen" KI)
  (e3:FnE K "_law_order" HQ)
  (e4:FnE K "place_of" L9)
  (e5:FnE K "follower" MB)
  (e6:FnE K "onward" MG)
  (e7:FnE K "_law_partner" MN)
  (e8:FnE K "forerunner" MC)
  (e9:FnE K "least_first" HN)
  (a6:FnE K "face_of" MH)
  (a7:FnE K "faces" KC)
  (a8:FnE K "_law_faces" KJ)
  (a9:FnE K "parts_of" HM)
  (b2:FnE K "_law_parts" KL)
  (b3:FnE K "rank_of" MA)
  (a5:FnE K "is_whole" KO)
  (b4:FnE K "is_tie" L8)
  (b5:FnE K "_law_one" MM)
  (b6:FnE K "are_ties" KQ)
  (b7:FnE K "rank_of_part" J8)
  (b8:FnE K "set_bars" Io)
  (b9:FnE K "is_place" L7)
  (c0:FnE K "corner_place" ME)
  (c1:FnE K "row_with" MF)
  (c2:FnE K "put_in" MD)
  (c3:FnE K "is_row" L6)
  (c4:FnE K "ends_at" KP)
  (c5:FnE K "row_of" KA)
  (c6:FnE K "order_of" J9)
  (c7:FnE K "corners_at" MK)
  (c8:FnE K "with_tie" HP)
  (c9:FnE K "meet" KH)
  (d0:FnE K "is_pair" MJ)
  (d1:FnE K "are_pairs" Ip)
  (d2:FnE K "is_tree" KG)
  (d3:FnE K "tree_shows" MI)
  (d4:FnE K "ties_in_turn" Ir)
  (d5:FnE K "laid" Iq)
  (d6:FnE K "_law_drawn_tree" HR)
  (d7:FnE K "_law_holes" MP)
  (d8:FnE K "law" Fo)
  {a3:Tok}(a4:W.nsIn K mainGlobals "MOST_TIES" = some (some (.int 24 a3)))
  (z0:W.nsIn K mainGlobals "abs" = some none)
  (z1:W.nsIn K mainGlobals "all" = some none)
  (z2:W.nsIn K mainGlobals "any" = some none)
  (z3:W.nsIn K mainGlobals "bool" = some none)
  (z4:W.nsIn K mainGlobals "enumerate" = some none)
  (z5:W.nsIn K mainGlobals "int" = some none)
  (z6:W.nsIn K mainGlobals "isinstance" = some none)
  (z7:W.nsIn K mainGlobals "len" = some none)
  (z8:W.nsIn K mainGlobals "list" = some none)
  (z9:W.nsIn K mainGlobals "max" = some none)
  (e0:W.nsIn K mainGlobals "min" = some none)
  (f0:W.nsIn K mainGlobals "range" = some none)
  (f1:W.nsIn K mainGlobals "set" = some none)
  (f2:W.nsIn K mainGlobals "sorted" = some none)
  (f3:W.nsIn K mainGlobals "tuple" = some none) :
  ∃fd:FuncData,(∀(s:Shared) (v:Value),BindsTo s fd ([v],[]) [("_law_script",v)])/\∀base:Heap,K.In base->base.Ns mainGlobals mg->FnOk l.prog w K mg base CX0 8 fa fd ["_law_script"] (spD K fLaw):=by
 obtain⟨f,fd,a,F⟩:=d8;have e:=d9.symm.trans<|W.mg_of X G a;cases e;have b:Mb mg:=by
  intro x hx;simp only[Az,DQ,or_false]at hx;rcases hx with rfl|rfl|rfl|rfl|rfl|rfl|rfl|rfl|rfl|rfl|rfl|rfl|rfl|rfl|rfl
  ·exact W.mg_none_of X G z0
  ·exact W.mg_none_of X G z1
  ·exact W.mg_none_of X G z2
  ·exact W.mg_none_of X G z3
  ·exact W.mg_none_of X G z4
  ·exact W.mg_none_of X G z5
  ·exact W.mg_none_of X G z6
  ·exact W.mg_none_of X G z7
  ·exact W.mg_none_of X G z8
  ·exact W.mg_none_of X G z9
  ·exact W.mg_none_of X G e0
  ·exact W.mg_none_of X G f0
  ·exact W.mg_none_of X G f1
  ·exact W.mg_none_of X G f2
  ·exact W.mg_none_of X G f3
 obtain⟨oc,od,kV,a0,pm,an,Z,ct,a2,rfl,lk,a1⟩:=F.ex;refine(W.fnOf "law" "law" (defArgs Fo) (defBody Fo) (defScope Fo) .none kV a0 pm an Z ct,λs v=>.of_eq rfl,λbase _ _=>?_);have M:=@Zx9 l.prog w K mg base h X G;have m:=M e1 (Zwz b) λ_ _ _ _ _ _=>bK2 λ_ _=>rfl;have C2:=M e2 (To b) λ_ _ _ _ _ _=>bK1 λ_=>rfl;have C3:=M e3 (Zug b m) λ_ _ _ _ _ _=>bK2 λ_ _=>rfl;have n:=M e4 (Zvc b) λ_ _ _ _ _ _=>bK2 λ_ _=>rfl;have C5:=M e5 (VA b n) λ_ _ _ _ _ _=>bK3 λ_ _ _=>rfl;have C6:=M e6 (WM b C5) λ_ _ _ _ _ _=>bK3 λ_ _ _=>rfl;have C7:=M e7 (VU b) λ_ _ _ _ _ _=>bK1 λ_=>rfl;have C8:=M e8 (Uc b n) λ_ _ _ _ _ _=>bK3 λ_ _ _=>rfl;have C9:=M e9 (V8 b) λ_ _ _ _ _ _=>bK1 λ_=>rfl;have o:=M a6 (Vq b C6 C9) λ_ _ _ _ _ _=>bK3 λ_ _ _=>rfl;have p:=M a7 (Zue b o) λ_ _ _ _ _ _=>bK2 λ_ _=>rfl;have q:=M a8 (WU b C7) λ_ _ _ _ _ _=>bK1 λ_=>rfl;have C:=M a9 (VB b) λ_ _ _ _ _ _=>bK1 λ_=>rfl;have g:=M b2 (Vd b) λ_ _ _ _ _ _=>bK1 λ_=>rfl;have r:=M b3 (Zxl b C) λ_ _ _ _ _ _=>bK1 λ_=>rfl;have i:=M a5 (Zzq b) λ_ _ _ _ _ _=>bK1 λ_=>rfl;have t:=M b4 (WZ b i) λ_ _ _ _ _ _=>bK2 λ_ _=>rfl;have u:=M b5 (Sz b m) λ_ _ _ _ _ _=>bK3 λ_ _ _=>rfl;have c:=M b6 (Zx8 b t) λ_ _ _ _ _ _=>bK2 λ_ _=>rfl;have y:=M b7 (Sr b) λ_ _ _ _ _ _=>bK2 λ_ _=>rfl;have z:=M b8 (Zx3 b C r c y) λ_ _ _ _ _ _=>bK2 λ_ _=>rfl;have d:=M a5 (Zys b) λ_ _ _ _ _ _=>bK1 λ_=>rfl;have A:=M b9 (Zzm b d) λ_ _ _ _ _ _=>bK2 λ_ _=>rfl;have B:=M c0 (UA b d A n) λ_ _ _ _ _ _=>bK3 λ_ _ _=>rfl;have D:=M c1 (TZ b d) λ_ _ _ _ _ _=>bK3 λ_ _ _=>rfl;have E:=M c2 (Tp b (W.mg_of X G a4) B D) λ_ _ _ _ _ _=>bK4 λ_ _ _ _=>rfl;have j:=M c3 (WV b) λ_ _ _ _ _ _=>bK1 λ_=>rfl;have H:=M c4 (Vh b n) λ_ _ _ _ _ _=>bK2 λ_ _=>rfl;have I:=M e9 (WK b) λ_ _ _ _ _ _=>bK1 λ_=>rfl;have J:=M c5 (Zxi b j i I) λ_ _ _ _ _ _=>bK2 λ_ _=>rfl;have L:=M c6 (Zxg b j H J) λ_ _ _ _ _ _=>bK2 λ_ _=>rfl;have N:=M c7 (Zyi b) λ_ _ _ _ _ _=>bK2 λ_ _=>rfl;have O:=M c8 (Zy1 b C8 p N E) λ_ _ _ _ _ _=>bK2 λ_ _=>rfl;have P:=M c9 (Zzb b) λ_ _ _ _ _ _=>bK3 λ_ _ _=>rfl;have Q:=M d0 (Vy b c P) λ_ _ _ _ _ _=>bK2 λ_ _=>rfl;have R:=M d1 (Zvf b Q) λ_ _ _ _ _ _=>bK3 λ_ _ _=>rfl;have S:=M d2 (W2 b c C) λ_ _ _ _ _ _=>bK2 λ_ _=>rfl;have k:=M d3 (Zuv b S R) λ_ _ _ _ _ _=>bK2 λ_ _=>rfl;have T:=M d4 (Zyr b) λ_ _ _ _ _ _=>bK2 λ_ _=>rfl;have U:=M d5 (Zwt b k T O L) λ_ _ _ _ _ _=>bK2 λ_ _=>rfl;have V:=M d6 (Ts b m g) λ_ _ _ _ _ _=>bK2 λ_ _=>rfl;have Y:=M d7 (Zy2 b g q) λ_ _ _ _ _ _=>bK2 λ_ _=>rfl;exact ok_law b C2 m u V U C3 Y z k F
end Lw
open PySem PySem.W PyProof.Rows
namespace PySem.W.Fast
theorem te299278937651653699:True:=trivial
def tw16815222118980511776:PySem.Program:=PySem.Challenge.pw_holefloor_k61_whole_no_more_holes
theorem te16815222118980511776:PySem.Challenge.pw_holefloor_k61_whole_no_more_holes=tw16815222118980511776:=rfl
def tw17372672973066704235:Unit:=()
def tw6543993048978827022:Unit:=()
def tw5223115539202704570:Unit:=()
def tw3287871749178574669:Unit:=()
def tw7341114000161459087:Unit:=()
def tw5353396429114307447:Unit:=()
def tw11618499439259349536:Unit:=()
def tw4748266873157357834:Unit:=()
def tw11148720516169193224:Unit:=()
def tw1606595318658454247:Unit:=()
def tw12970181396295508775:Unit:=()
def tw13463954266014442317:Unit:=()
def tw14904775483435759904:Unit:=()
def tw12599306794373013777:Unit:=()
def tw12825478881162361006:Unit:=()
def tw9663756629347548006:Unit:=()
def tw4870552454200134816:Unit:=()
def tw7691564445101870074:Unit:=()
def tw15722907807318853122:Unit:=()
def tw4676204968069974962:Unit:=()
def tw11965932474600808272:Unit:=()
def tw2037644276347510693:Unit:=()
def tw4167597518742203546:Unit:=()
def tw17619354661195993806:Unit:=()
def tw7068444693763941043:Unit:=()
def tw11436947303735600474:Unit:=()
def tw12315534618556623529:Unit:=()
def tw4903611865397029062:Unit:=()
def tw10319697689312585009:Unit:=()
def tw6410781024630064038:Unit:=()
def tw7228798445827688325:Unit:=()
def tw18344546027263329553:Unit:=()
def tw15276996782536973562:Unit:=()
def tw2828866280802103654:Unit:=()
def tw7734213546647178879:Unit:=()
def tw11611832061978166299:Unit:=()
def tw2410940539058560515:Unit:=()
def tw7231640035861139409:Unit:=()
def tw11970270803390363191:Unit:=()
def tw14795128450328945428:Unit:=()
def tw18339887946401021564:Unit:=()
def tw17420847157157225486:Unit:=()
def tw8072216010747925440:Unit:=()
def tw14341604216108584474:Unit:=()
def tw12138494303484738842:Unit:=()
def tw16121418947732452654:Unit:=()
def tw619210332797245824:Unit:=()
def tw8146416682852850988:Unit:=()
def tw15564875578243679406:Unit:=()
def tw3552816021903318001:Unit:=()
def tw10612152494466895903:Unit:=()
def tw6330601922505150751:Unit:=()
def tw1532123253344577703:Unit:=()
def tw15245192573431179710:Unit:=()
def tw3449793268582587418:Unit:=()
def tw13219126410081293011:Unit:=()
def tw6481053050318495379:Unit:=()
def tw17189559988080243823:Unit:=()
def tw4108757082897879013:Unit:=()
def tw13626173445960285783:Unit:=()
def tw2237073330673254351:Unit:=()
def tw13344409260836279759:Unit:=()
def tw10072647953983311305:Unit:=()
def tw14948763591823972228:Unit:=()
def tw10896514152968068017:Unit:=()
def tw9864271875587823068:Unit:=()
def tw8114494336923253475:Unit:=()
def tw8555204754418001812:Unit:=()
def tw1623421539700223070:Unit:=()
def tw18096014310733176325:Unit:=()
def tw11999971123306328281:Unit:=()
def tw7223647760441191635:Unit:=()
def tw4407830514937122096:Unit:=()
def tw11029300378636200006:Unit:=()
def tw10340784784603338891:Unit:=()
def tw12925899448236217774:Unit:=()
def tw6311020694678064923:Unit:=()
def tw15634970254758686685:Unit:=()
def tw4029133123989709697:Unit:=()
def tw14603970115102644950:Unit:=()
def tw415949354715951127:Unit:=()
def tw8897577404162455196:Unit:=()
def tw11508719024431451554:Unit:=()
def tw6879895708861502660:Unit:=()
def tw12740664342116516046:Unit:=()
def tw13312095643568329817:Unit:=()
def tw18306297967346408953:Unit:=()
end PySem.W.Fast
set_option maxRecDepth 100000 in
set_option maxHeartbeats 0 in
theorem PySem.Challenge.cw_holefloor_k61_whole_no_more_holes_holds : PySem.Challenge.rw_holefloor_k61_whole_no_more_holes.Holds := by
 w_on;o_law;k_head; (case hw=>w_witness2)
 k_fill
 refine L2.walk_law (k:=8) (x:="_law_script") (l:=PySem.Challenge.rw_holefloor_k61_whole_no_more_holes) ⟨rfl,#[1],#[1],rfl⟩ rfl rfl (λw h Y=>PySem.W.kIn_of Y) ?F
 case F=>
  intro w mg fa h KX G hmg;refine' Lw.all_mk KX G hmg ?e1 ?e2 ?e3 ?e4 ?e5 ?e6 ?e7 ?e8 ?e9 ?e10 ?e11 ?e12 ?e13 ?e14 ?e15 ?e16 ?e17 ?e18 ?e19 ?e20 ?e21 ?e22 ?e23 ?e24 ?e25 ?e26 ?e27 ?e28 ?e29 ?e30 ?e31 ?e32 ?e33 ?e34 ?e35 ?e36 ?e37 ?e38 ?e39 ?e40 ?e41 ?y_MOST_TIES ?z0 ?z1 ?z2 ?z3 ?z4 ?z5 ?z6 ?z7 ?z8 ?z9 ?z10 ?z11 ?z12 ?z13 ?z14
  (case y_MOST_TIES=>k_is)
  all_goals first|(refine' Lw.fnE ?a ?l ?c ?k; (case a=>k_is); (case l=>k_is); (case c=>k_is); (case k=>k_is))|k_is

