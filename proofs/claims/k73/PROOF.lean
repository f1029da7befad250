import PyProof.Rows.All
import Wide.All
import OpenK.AllK
import Wide.FinOn
import Lean
import PyProof.EqAt
import PyProof.EqKinds
import PyProof.TupleCall
import KE.KSortTup
import PyProof.NeKinds
import PyProof.ExcBaseAll.ValueError
import PyProof.ExcArgsOwn
import PyProof.NsDelKeeps
import PyProof.RulesAs
import PyProof.FString
import PySem.Challenge.RW_holefloor_k73_no_joining
set_option compiler.extract_closed false
set_option bootstrap.genMatcherCode false
set_option genSizeOf false
set_option maxHeartbeats 4000000
local macro_rules|`(tactic|omega)=>`(tactic|first|with_reducible assumption|decide|with_reducible exact Int.natCast_nonneg _|with_reducible exact Nat.zero_le _|with_reducible exact Nat.le_refl _|with_reducible exact Int.le_refl _|with_reducible exact Int.ofNat_lt.mpr (by assumption)|with_reducible exact Int.ofNat_le.mpr (by assumption)|with_reducible exact Nat.le_of_lt (by assumption)|with_reducible exact Int.le_of_lt (by assumption)|with_reducible exact Nat.lt_of_lt_of_le (by assumption) (by assumption)|(with_reducible refine Nat.lt_of_lt_of_le ?_ (by assumption);assumption)|with_reducible exact Nat.lt_of_le_of_lt (by assumption) (by assumption)|(with_reducible refine Nat.lt_of_le_of_lt ?_ (by assumption);assumption)|with_reducible exact Nat.le_trans (by assumption) (by assumption)|(with_reducible refine Nat.le_trans ?_ (by assumption);assumption)|with_reducible exact Nat.le_trans (by assumption) (by decide)|with_reducible exact Nat.lt_of_le_of_lt (by assumption) (by decide)|with_reducible exact Nat.lt_of_lt_of_le (by decide) (by assumption)|with_reducible exact Int.le_trans (by assumption) (by decide)|with_reducible exact Int.lt_of_le_of_lt (by assumption) (by decide)|with_reducible exact Int.le_trans (by decide) (by assumption)|with_reducible exact Int.lt_of_lt_of_le (by decide) (by assumption)|with_reducible exact Int.le_trans (by assumption) (by assumption)|with_reducible exact Int.lt_of_lt_of_le (by assumption) (by assumption)|with_reducible exact Int.lt_of_le_of_lt (by assumption) (by assumption)|with_reducible exact Int.ofNat_lt.mpr (Nat.lt_of_lt_of_le (by assumption) (by assumption))|(with_reducible refine Int.ofNat_lt.mpr (Nat.lt_of_lt_of_le ?_ (by assumption));assumption)|with_reducible exact Int.le_trans (by decide) (Int.natCast_nonneg _)|with_reducible exact Int.toNat_of_nonneg (by assumption)|with_reducible exact (Int.toNat_of_nonneg (by assumption)).symm|with_reducible exact Nat.zero_add _|with_reducible exact Int.zero_add _|with_reducible exact Nat.le_add_right _ _|with_reducible exact Nat.le_add_left _ _|with_reducible exact Nat.lt_succ_self _|with_reducible exact Nat.succ_pos _|with_reducible exact Nat.mul_div_cancel_left _ (by decide)|with_reducible exact (Int.toNat_of_nonneg (And.left (by assumption)))|with_reducible exact And.left (by assumption)|with_reducible exact And.left (And.right (by assumption))|with_reducible exact And.right (by assumption)|with_reducible exact Int.ofNat.inj (by assumption)|with_reducible exact Nat.mul_lt_mul_of_pos_left (by assumption) (by decide)|with_reducible exact Int.ofNat_lt.mpr (Nat.mul_lt_mul_of_pos_left (by assumption) (by decide))|with_reducible exact Nat.succ_le_of_lt (by assumption)|with_reducible exact Nat.lt_of_succ_le (by assumption)|with_reducible exact Int.lt_of_lt_of_le Int.zero_lt_one (by assumption)|with_reducible exact Nat.succ_lt_succ (by assumption)|with_reducible exact Nat.succ_le_succ (by assumption)|with_reducible exact Nat.lt_of_succ_lt (by assumption)|with_reducible exact Nat.lt_succ_of_lt (by assumption)|with_reducible exact Nat.add_comm _ _|with_reducible exact Int.add_comm _ _|with_reducible exact Nat.lt_of_lt_of_eq (by assumption) (by assumption)|with_reducible exact Nat.lt_of_lt_of_eq (by assumption) (Eq.symm (by assumption))|(with_reducible refine Nat.lt_of_lt_of_eq ?_ (Eq.symm (by assumption));assumption)|(with_reducible refine Nat.lt_of_lt_of_eq ?_ (by assumption);assumption)|with_reducible exact (Int.toNat_lt (by assumption)).mpr (by assumption)|with_reducible exact (Int.toNat_lt (And.left (by assumption))).mpr (And.right (by assumption))|with_reducible exact (Int.toNat_lt (And.left (by assumption))).mpr (And.left (And.right (by assumption)))|with_reducible exact Nat.pos_of_ne_zero (by assumption)|with_reducible exact Nat.le_of_not_lt (by assumption)|with_reducible exact Nat.lt_of_not_le (by assumption)|with_reducible exact Int.not_lt.mp (by assumption)|with_reducible exact Int.not_le.mp (by assumption)|with_reducible exact Nat.lt_of_le_of_lt (Nat.sub_le _ _) (by assumption)|with_reducible exact Int.add_nonneg (by assumption) (by decide)|with_reducible exact Int.ofNat_inj.mp (by assumption)|with_reducible exact (Nat.sub_add_cancel (by assumption)).symm|with_reducible exact Nat.sub_add_cancel (by assumption)|with_reducible exact Nat.le_of_eq (by assumption)|with_reducible exact Nat.le_of_eq (Eq.symm (by assumption))|with_reducible exact Nat.div_lt_of_lt_mul (by assumption)|with_reducible exact Int.ofNat_lt.mpr (And.left (by assumption))|with_reducible exact Int.ofNat_lt.mp (And.right (by assumption))|with_reducible exact Int.ofNat_lt.mp (by assumption)|with_reducible exact Int.le_of_eq (by assumption)|with_reducible exact Nat.min_le_right _ _|with_reducible exact Nat.min_le_left _ _|with_reducible exact Nat.add_sub_cancel|with_reducible exact Eq.symm (by assumption)|with_reducible exact Nat.succ_le_succ (by assumption)|with_reducible exact Int.lt_add_one_of_le (by assumption)|with_reducible exact Int.add_one_le_of_lt (by assumption)|with_reducible exact absurd (by assumption) (Nat.not_lt_zero _)|with_reducible exact Nat.add_le_add (by assumption) (by decide)|with_reducible exact Nat.lt_irrefl _ (by assumption)|(with_reducible refine Int.le_trans ?_ (by assumption);decide)|(with_reducible refine Int.lt_of_lt_of_le ?_ (by assumption);decide)|(with_reducible refine Nat.le_trans ?_ (by assumption);decide)|(with_reducible refine Nat.lt_of_lt_of_le ?_ (by assumption);decide)|with_reducible exact Nat.lt_of_le_of_lt (Nat.zero_le _) (by assumption)|with_reducible exact Nat.lt_trans (by assumption) (by assumption)|with_reducible exact Int.ofNat_lt.mpr (Nat.lt_trans (by assumption) (by assumption))|with_reducible exact Nat.le_of_succ_le (by assumption)|with_reducible exact Nat.lt_of_le_of_ne (Nat.le_of_lt_succ (by assumption)) (by assumption)|with_reducible exact Nat.le_antisymm (by assumption) (by assumption)|with_reducible exact Int.le_antisymm (by assumption) (by assumption)|with_reducible exact Nat.sub_lt (by assumption) (by decide)|with_reducible exact absurd (by assumption) (Int.ne_of_lt (by assumption))|with_reducible exact absurd (by assumption) (Nat.ne_of_lt (by assumption))|with_reducible exact absurd (by assumption) (Nat.ne_of_gt (by assumption))|with_reducible exact Nat.lt_of_le_of_ne (Nat.succ_le_of_lt (by assumption)) (by assumption)|with_reducible contradiction|with_reducible exact Nat.le_of_lt_succ (by assumption)|with_reducible exact Int.le_sub_one_of_lt (by assumption)|with_reducible exact Nat.lt_of_lt_of_le (by assumption) (Nat.le_of_eq (Eq.symm (by assumption)))|with_reducible exact Eq.trans (by assumption) (Eq.symm (by assumption))|with_reducible exact Eq.trans (by assumption) (by assumption)|with_reducible exact Nat.lt_asymm (by assumption) (by assumption)|with_reducible exact Int.lt_asymm (by assumption) (by assumption)|fail)
open List renaming length_map → Waa, replicate → Wab, getElem?_eq_getElem → Wac, size_toArray → Wae, getElem?_set_self → Waf, getElem?_set_ne → Wag, getElem?_map → Wah, length_append → Wai, getElem?_eq_some_iff → Wak, length_cons → Wao, getElem?_append_right → Wap, mem_cons_of_mem → Waq, mem_append_right → War, map_map → Wax, length_singleton → Way, length_replicate → Waz, map_cons → Wa1, length → Wa2, getElem?_append_left → Wa3, mem_of_getElem? → Wa4, mem_cons → Wa5, range → Wa7, mem_cons_self → Wa8, map_append → Wa9, append_nil → Wba, mem_singleton → Wbb, getElem?_replicate → Wbc, tail → Wbd, map → Wbg, eq_nil_of_length_eq_zero → Wbi, lookup_cons → Wbk, length_take → Wbl, filter_cons → Wbm, filter_append → Wbn, getElem_toArray → Wbq, mem_append → Wbr, length_range → Wbs, length_drop → Wbt, all_eq_true → Wbu, ext_getElem? → Wbw, getElem?_range → Wbx, set_eq_of_length_le → Wby, nodup_cons → Wbz, length_set → Wb0, find?_cons → Wb1, getElem?_set → Wb5, mem_map → Wb6, mem_append_left → Wb7, filter_eq_self → Wb8, getElem_mem → Wb9, take_of_length_le → Wcb, getElem?_eq_none → Wcc, replicate_succ → Wce, filterMap_cons → Wcf, take_add_one → Wch, append_assoc → Wci, take_length → Wcj
open PySem.Heap renaming get?_push_of_some → Wad, lt_size → Wal, get?_push_size → Wav, get?_update_other → Waw, get?_update_self → Wbo
open Nat renaming le_refl → Waj, lt_of_lt_of_le → Wan, beq → Was, ne_of_lt → Wa0, le_trans → Wa6, lt_of_le_of_lt → Wbh, le_of_lt → Wbp, lt_irrefl → Wb2, add_le_add_left → Wcg
open Bool renaming false_ne_true → Wam, and_eq_true → Wau, eq_false_iff → Wbj, eq_iff_iff → Wcd
open Option renaming some → Wat
open Int renaming toNat_of_nonneg → Wbe, le_trans → Wbf, emod_lt_of_pos → Wbv, natCast_nonneg → Wb3, emod_nonneg → Wb4, le_refl → Wca
set_option Elab.async false
set_option linter.all false
set_option maxRecDepth 100000
namespace L2
open PySem PySem.Spec PyProof.Rows
noncomputable abbrev Key:=Sum Int Str
noncomputable def keyIs:Key->Value->Bool
 | .inl k,v=>Value.isInt k v
 | .inr x,v=>Value.isStrOf x v
noncomputable def keyH (w:World):Key->Int
 | .inl k=>hashInt k
 | .inr x=>hashStr w x
theorem Zaz:∀ {k:Key} {v:Value},keyIs k v=true->(∃ i t,k=Sum.inl i/\v=Value.int i t)\/(∃ x t,k=Sum.inr x/\v=Value.str x t)
 | .inl i,v,h=>by
  obtain ⟨t,e⟩:=Value.isInt_shape (k:=i) (v:=v) h
  exact .inl ⟨i,t,rfl,e⟩
 | .inr x,v,h=>by
  obtain ⟨t,e⟩:=Value.isStrOf_shape (x:=x) (v:=v) h
  exact .inr ⟨x,t,rfl,e⟩
theorem Zja (i:Int) (t:Tok):keyIs (.inl i) (.int i t)=true:=by simp [keyIs,Value.isInt]
theorem Zik (x:Str) (t:Tok):keyIs (.inr x) (.str x t)=true:=by simp [keyIs,Value.isStrOf]
theorem Znj (a b:Int):decide ((Sum.inl a:Key)=Sum.inl b)=(a == b):=by
 by_cases e:a=b
 ·subst e; simp
 ·have h:¬ (Sum.inl a:Key)=Sum.inl b:=fun q=>e (Sum.inl.inj q)
  rw [decide_eq_false h]
  exact (beq_eq_false_iff_ne.mpr e).symm
theorem Zoe (a b:Str):decide ((Sum.inr a:Key)=Sum.inr b)=decide (a=b):=by
 by_cases e:a=b
 ·subst e; simp
 ·have h:¬ (Sum.inr a:Key)=Sum.inr b:=fun q=>e (Sum.inr.inj q)
  rw [decide_eq_false h,decide_eq_false e]
theorem Zn0 (a:Int) (b:Str):decide ((Sum.inl a:Key)=Sum.inr b)=false:=decide_eq_false (fun q=>nomatch q)
theorem Zob (a:Str) (b:Int):decide ((Sum.inr a:Key)=Sum.inl b)=false:=decide_eq_false (fun q=>nomatch q)
noncomputable def mixKind (prog:Program) (w:World):PySem.KeyKind prog w Key where
 is:=keyIs
 hash:=keyH w
 inj:=fun v a b ha hb=>by
  rcases Zaz ha with ⟨i,t,rfl,rfl⟩ | ⟨x,t,rfl,rfl⟩
  ·rcases Zaz hb with ⟨j,u,rfl,e⟩ | ⟨y,u,rfl,e⟩
   ·injection e with e1 _; rw [e1]
   ·exact nomatch e
  ·rcases Zaz hb with ⟨j,u,rfl,e⟩ | ⟨y,u,rfl,e⟩
   ·exact nomatch e
   ·injection e with e1 _; rw [e1]
 byValue:=fun k v h=>by
  rcases Zaz h with ⟨i,t,rfl,rfl⟩ | ⟨x,t,rfl,rfl⟩ <;> rfl
 pyHash:=fun hv h=>by
  rcases Zaz hv with ⟨i,t,rfl,rfl⟩ | ⟨x,t,rfl,rfl⟩
  ·exact wpAny_pyHash_int h
  ·exact wpAny_pyHash_str h
 eqBool:=fun hu hv h=>by
  rcases Zaz hu with ⟨i,t,rfl,rfl⟩ | ⟨x,t,rfl,rfl⟩
  ·rcases Zaz hv with ⟨j,u,rfl,rfl⟩ | ⟨y,u,rfl,rfl⟩
   ·rw [Znj] at h; exact wpAny_eqBool_int h
   ·rw [Zn0] at h; exact SeqAt.EqAt.int_str i t y u _ _ _ _ h
  ·rcases Zaz hv with ⟨j,u,rfl,rfl⟩ | ⟨y,u,rfl,rfl⟩
   ·rw [Zob] at h; exact SeqAt.EqAt.str_int x t j u _ _ _ _ h
   ·rw [Zoe] at h; exact wpAny_eqBool_str h
 «strs»:=fun k x t v h=>by
  rcases Zaz h with ⟨i,u,rfl,e⟩ | ⟨y,u,rfl,e⟩
  ·exact nomatch e
  ·injection e with e1 _
   subst e1
   cases v <;> rfl
theorem Zft (prog:Program) (w:World) (i:Int) (t:Tok):(mixKind prog w).is (.inl i) (.int i t)=true:=Zja i t
theorem Zf3 (prog:Program) (w:World) (x:Str) (t:Tok):(mixKind prog w).is (.inr x) (.str x t)=true:=Zik x t
end L2
namespace L2
open PySem PySem.Spec PyProof.Rows
inductive V where
 | non | bl (b:Bool) | int (i:Int) | str (x:Str) | byt (b:Array UInt8) | flt (b:UInt64) | ref (a:Addr) | ty (n:String)
 deriving DecidableEq
noncomputable def RelV:V->Value->Prop
 | .non,u=>u=Value.none
 | .bl b,u=>u=Value.bool b
 | .int i,u=>∃ t,u=Value.int i t
 | .str x,u=>∃ t,u=Value.str x t
 | .byt b,u=>∃ t,u=Value.bytes b t
 | .flt b,u=>∃ t,u=Value.float b t
 | .ref a,u=>u=Value.ref a
 | .ty n,u=>u=Value.type n
noncomputable abbrev Vals:List V->List Value->Prop:=Paired RelV
theorem Vals.length {xs:List V} {us:List Value} (r:Vals xs us):xs.length=us.length:=Paired.length r
theorem Vals.get:∀ {xs:List V} {us:List Value} {i:Nat} {x:V},Vals xs us->xs[i]? = some x->∃ u,us[i]? = some u/\RelV x u
 | _,_,_,_,.nil,e=>by simp at e
 | _,_,0,_,.cons r _,e=>by simp at e; subst e; exact ⟨_,rfl,r⟩
 | _,_,i + 1,x,.cons _ t,e=>by
  obtain ⟨u,h1,h2⟩:=Vals.get (i:=i) (x:=x) t (by simpa using e)
  exact ⟨u,by simpa using h1,h2⟩
theorem Vals.set {x:V} {u:Value} (r:RelV x u):∀ {xs:List V} {us:List Value} (i:Nat),Vals xs us->Vals (xs.set i x) (us.set i u)
 | _,_,_,.nil=>.nil
 | _,_,0,.cons _ t=>.cons r t
 | _,_,i + 1,.cons q t=>.cons q (Vals.set r i t)
theorem Vals.append:∀ {xs ys:List V} {us ws:List Value},Vals xs us->Vals ys ws->Vals (xs ++ ys) (us ++ ws)
 | _,_,_,_,.nil,s=>s
 | _,_,_,_,.cons r t,s=>.cons r (Vals.append t s)
theorem Vals.take:∀ {xs:List V} {us:List Value} (n:Nat),Vals xs us->Vals (xs.take n) (us.take n)
 | _,_,0,_=>.nil
 | _,_,_ + 1,.nil=>.nil
 | _,_,n + 1,.cons r t=>.cons r (Vals.take n t)
theorem Vals.drop:∀ {xs:List V} {us:List Value} (n:Nat),Vals xs us->Vals (xs.drop n) (us.drop n)
 | _,_,0,r=>r
 | _,_,_ + 1,.nil=>.nil
 | _,_,n + 1,.cons _ t=>Vals.drop n t
noncomputable def RelO:Option V->Option Value->Prop
 | some v,some u=>RelV v u
 | none,none=>True
 | _,_=>False
noncomputable def KV {κ:Type}:List (κ × V)->List (κ × Value)->Prop:=Paired fun (p:κ × V) (q:κ × Value)=>p.1=q.1/\RelV p.2 q.2
noncomputable def kV:Key->V
 | .inl i=>.int i
 | .inr x=>.str x
inductive HO where
 /-- a list -/
 | lst (xs:List V)
 /-- a tuple (never changes) -/
 | tup (xs:List V)
 /-- a dict whose keys are ints and texts; one whose keys are tuples of ints and texts (the empty one is both) -/
 | dK (kvs:List (Key × V)) | dT (kvs:List (List Key × V))
 /-- a set of ints: its members,its size -/
 | set (S:Int->Bool) (n:Nat)
 /-- an instance of the class at C,its dict at dx,its attributes -/
 | ins (C dx:Addr) (fs:List (Str × V))
 /-- the dict of the instance at x -/
 | own (x:Addr)
 /-- the dict of an exception -/
 | xd (fs:List (Str × V))
 /-- a bound method,f of x -/
 | met (f x:Addr)
 /-- a range object lo,lo + 1,.. below hi -/
 | rng (lo hi:Int)
 /-- a thing that is known to the object (the script; a dict while a loop walks it): read,never written while it is so -/
 | frz (o:Obj) (u:HO)
 /-- a code object's table -/
 | tbl (ps:Array Value)
 /-- any other thing,by what is true of its one object (a def of one's own: SetO a S n:=HO.ext fun h=>..) -/
 | ext (φ:Heap->Prop)
noncomputable abbrev Hp:=Addr->Option HO
noncomputable def upd (H:Hp) (a:Addr) (o:HO):Hp:=fun b=>if b=a then some o else H b
theorem Zao {H:Hp} {a:Addr} {o:HO}:upd H a o a=some o:=by unfold upd; rw [if_pos rfl]
theorem Zas {H:Hp} {a b:Addr} {o:HO} (h:b ≠ a):upd H a o b=H b:=by unfold upd; rw [if_neg h]
theorem Zid {H:Hp} {a:Addr} {o u:HO}:upd (upd H a o) a u=upd H a u:=by
 funext b; unfold upd; split <;> rfl
theorem Zoq {H:Hp} {a b:Addr} {o u:HO} (h:H a=some o) (h':H b=some u) (d:o ≠ u):a ≠ b:=by
 intro e; subst e; rw [h] at h'; exact d (Wat.inj h')
theorem Za2 {H:Hp} {a b:Addr} {o:HO} (h:H a=some o) (h':H b=none):a ≠ b:=by
 intro e; subst e; rw [h] at h'; cases h'
noncomputable def IsTupN (h:Heap) (a:Addr) (its:Array Value):Prop:=∃ o,h.get? a=some o/\(o.cls=.type "tuple" /\ ∃ n,o.data=.seq its n)/\o.dict=none
theorem IsTupN.tup {h:Heap} {a:Addr} {its:Array Value} (x:IsTupN h a its):IsTup h a its:=let ⟨o,e,c,_⟩:=x; ⟨o,e,c⟩
theorem IsTupN.new (h:Heap) (items:Array Value):IsTupN (h.push { cls:=.type "tuple",data:=.seq items }) h.objs.size items:=⟨_,Wav _ rfl,⟨rfl,_,rfl⟩,rfl⟩
section
variable (P:Program) (w:World)
noncomputable def ObjOk (H:Hp) (h:Heap) (a:Addr):HO->Prop
 | .lst xs=>xs.length<=sizeLine/\∃ (its:List Value) (n:Nat),Vals xs its/\h.get? a=some { cls:=.type "list",data:=.seq its.toArray n }
 | .tup xs=>xs.length<=sizeLine/\∃ its:List Value,Vals xs its/\IsTupN h a its.toArray
 | .dK kvs=>kvs.length<=sizeLine/\(a == sysModules)=false/\∃ vs,KV kvs vs/\h.DictOf (mixKind P w) a vs
 | .dT kvs=>kvs.length<=sizeLine/\(a == sysModules)=false/\∃ xs:List (List Key × Addr × Value),
   Paired (fun (p:List Key × V) (q:List Key × Addr × Value)=>p.1=q.1/\H q.2.1=some (.tup (p.1.map kV))/\RelV p.2 q.2.2) kvs xs ∧
   ∃ o es ep,h.get? a=some o/\o.ExactDict/\o.data=.dict es ep/\es.toList=xs.map (entryOfKey (tupleKind (mixKind P w)))/\(xs.map (·.1)).Nodup
 | .set S n=>h.SetOf (intKind P w) a S n
 | .ins C dx fs=>H dx=some (.own a)/\fs.length<=1000/\dx ≠ a/\h.get? a=some (PySem.W.instObj C dx) ∧
   ∃ mA,h.Ns1 dx mA/\(∀ f,RelO (fs.lookup f) (mA f))/\PySem.Within mA (fs.map (·.1))
 | .own _=>∃ o,h.get? a=some o
 | .xd fs=>∃ mA,h.Ns1 a mA/\∀ f,RelO (fs.lookup f) (mA f)
 | .rng lo hi=>∃ t u v,h.get? a=some { cls:=.type "range",data:=.fields #[.int lo t,.int hi u,.int 1 v] }
 | .frz o u=>h.get? a=some o/\ObjOk H h a u
 | .tbl ps=>h.get? a=some { cls:=.none,data:=.fields ps }
 | .met f x=>h.get? a=some (PySem.W.methodObj (.ref f) (.ref x))
 | .ext φ=>φ h/\(∃ o,h.get? a=some o)/\∀ h1 h2:Heap,φ h1->(∀ o,h1.get? a=some o->h2.get? a=some o) -> φ h2
noncomputable def HOk (H:Hp) (h:Heap):Prop:=∀ a o,H a=some o->ObjOk P w H h a o
end
section
variable {P:Program} {w:World} {H H':Hp} {h h':Heap} {a:Addr} {o:HO}
theorem ObjOk.lt (x:ObjOk P w H h a o):a < h.objs.size:=by
 cases o with
 | lst xs=>obtain ⟨_,_,_,_,e⟩:=x; exact Wal e
 | tup xs=>obtain ⟨_,_,_,p⟩:=x; exact p.tup.lt
 | dK kvs=>obtain ⟨_,_,_,_,o,_,_,e,_⟩:=x; exact Wal e
 | dT kvs=>obtain ⟨_,_,_,_,o,_,_,e,_⟩:=x; exact Wal e
 | set S n=>obtain ⟨o,_,_,_,e,_⟩:=x; exact Wal e
 | ins C dx fs=>obtain ⟨_,_,_,e,_⟩:=x; exact Wal e
 | own y=>obtain ⟨_,e⟩:=x; exact Wal e
 | xd fs=>obtain ⟨_,⟨_,_,_,e,_⟩,_⟩:=x; exact Wal e
 | rng lo hi=>obtain ⟨_,_,_,e⟩:=x; exact Wal e
 | frz ob u=>obtain ⟨e,_⟩:=x; exact Wal e
 | tbl ps=>exact Wal (show h.get? a=some _ from x)
 | met f y=>exact Wal (show h.get? a=some _ from x)
 | ext φ=>obtain ⟨_,⟨_,e⟩,_⟩:=x; exact Wal e
theorem Paired.mapP {α β:Type} {F G:α -> β -> Prop}:∀ {l₁:List α} {l₂:List β},Paired F l₁ l₂ -> (∀ a b,F a b->G a b)->Paired G l₁ l₂
 | _,_,.nil,_=>.nil
 | _,_,.cons r t,f=>.cons (f _ _ r) (Paired.mapP t f)
theorem ObjOk.stay (x:ObjOk P w H h a o) (k:∀ b u,(b=a\/H b=some (.own a))->h.get? b=some u->h'.get? b=some u)
  (ho:∀ b,H b=some (.own a)->H' b=some (.own a)) (ht:∀ b xs,H b=some (.tup xs)->H' b=some (.tup xs)):ObjOk P w H' h' a o:=by
 induction o with
 | lst xs=>obtain ⟨z,its,n,r,e⟩:=x; exact ⟨z,its,n,r,k _ _ (.inl rfl) e⟩
 | tup xs=>obtain ⟨z,its,r,ob,e,c⟩:=x; exact ⟨z,its,r,ob,k _ _ (.inl rfl) e,c⟩
 | dK kvs=>obtain ⟨z,y,vs,r,ob,es,ep,e,c⟩:=x; exact ⟨z,y,vs,r,ob,es,ep,k _ _ (.inl rfl) e,c⟩
 | dT kvs=>
  obtain ⟨z,y,xs,r,ob,es,ep,e,c⟩:=x
  exact ⟨z,y,xs,Paired.mapP r fun p q z=>⟨z.1,ht _ _ z.2.1,z.2.2⟩,ob,es,ep,k _ _ (.inl rfl) e,c⟩
 | set S n=>obtain ⟨ob,es,ep,t,e,c⟩:=x; exact ⟨ob,es,ep,t,k _ _ (.inl rfl) e,c⟩
 | ins C dx fs=>
  obtain ⟨d,z,ne,e,mA,⟨od,es,ep,e2,c⟩,r⟩:=x
  exact ⟨ho _ d,z,ne,k _ _ (.inl rfl) e,mA,⟨od,es,ep,k _ _ (.inr d) e2,c⟩,r⟩
 | own y=>obtain ⟨ob,e⟩:=x; exact ⟨ob,k _ _ (.inl rfl) e⟩
 | xd fs=>obtain ⟨mA,⟨od,es,ep,e,c⟩,r⟩:=x; exact ⟨mA,⟨od,es,ep,k _ _ (.inl rfl) e,c⟩,r⟩
 | rng lo hi=>obtain ⟨t,u,v,e⟩:=x; exact ⟨t,u,v,k _ _ (.inl rfl) e⟩
 | frz ob u ih=>obtain ⟨e,q⟩:=x; exact ⟨k _ _ (.inl rfl) e,ih q⟩
 | tbl ps=>
  have e:h.get? a=some { cls:=.none,data:=.fields ps }:=x
  show h'.get? a=some { cls:=.none,data:=.fields ps }
  exact k a _ (.inl rfl) e
 | met f y=>
  have e:h.get? a=some (PySem.W.methodObj (.ref f) (.ref y)):=x
  show h'.get? a=some (PySem.W.methodObj (.ref f) (.ref y))
  exact k a _ (.inl rfl) e
 | ext φ=>obtain ⟨p,⟨o,e⟩,st⟩:=x; exact ⟨st _ _ p fun o q=>k _ _ (.inl rfl) q,⟨o,k _ _ (.inl rfl) e⟩,st⟩
theorem HOk.lt (x:HOk P w H h) (e:H a=some o):a < h.objs.size:=(x a o e).lt
theorem HOk.fresh (x:HOk P w H h) (e:h.objs.size<=a):H a=none:=by
 cases q:H a with
 | none=>rfl
 | some u=>exact absurd (Wan (x.lt q) e) (Wb2 _)
theorem HOk.kept (x:HOk P w H h) (k:∀ b u,h.get? b=some u->h'.get? b=some u):HOk P w H h':=fun a o e=>
 (x a o e).stay (fun b u _ q=>k b u q) (fun _ q=>q) fun _ _ q=>q
theorem HOk.laid (x:HOk P w H h) (k:∀ b u,h.get? b=some u->h'.get? b=some u) (hp:h.objs.size<=a) (new:ObjOk P w (upd H a o) h' a o):HOk P w (upd H a o) h':=fun b u e=>by
 have hn:=x.fresh hp
 by_cases hb:b=a
 ·subst hb; rw [Zao] at e; cases e; exact new
 ·rw [Zas hb] at e
  exact (x b u e).stay (fun c v _ q=>k c v q) (fun c q=>by rw [Zas (Za2 q hn)]; exact q) fun c xs q=>by rw [Zas (Za2 q hn)]; exact q
end
noncomputable def Rd (H:Hp) (a:Addr) (u:HO):Prop:=H a=some u\/∃ o,H a=some (.frz o u)
theorem Rd.ok {P:Program} {w:World} {H:Hp} {h:Heap} {a:Addr} {u:HO} (r:Rd H a u) (x:HOk P w H h):ObjOk P w H h a u:=by
 rcases r with r | ⟨o,r⟩
 ·exact x a u r
 ·obtain ⟨_,q⟩:=x a _ r
  exact q
noncomputable def Mut:Option HO->Prop
 | some (.lst _)=>True
 | some (.dK _)=>True
 | some (.dT _)=>True
 | some (.set _ _)=>True
 | some (.ins _ _ _)=>True
 | some (.ext _)=>True
 | _=>False
section
variable {P:Program} {w:World} {H:Hp} {h h':Heap} {x e:Addr} {o':HO}
theorem HOk.write (ok:HOk P w H h) (mu:Mut (H x)) (he:e=x\/H e=some (.own x)) (k:∀ b u,b ≠ e->h.get? b=some u->h'.get? b=some u) (heo:∃ u,h'.get? e=some u)
  (new:ObjOk P w (upd H x o') h' x o'):HOk P w (upd H x o') h':=fun b u q=>by
 have nown:∀ c y,H c=some (.own y)->c ≠ x:=fun c y r z=>by subst z; rw [r] at mu; exact mu
 have ntup:∀ c xs,H c=some (.tup xs)->c ≠ x:=fun c xs r z=>by subst z; rw [r] at mu; exact mu
 by_cases hb:b=x
 ·subst hb; rw [Zao] at q; cases q; exact new
 ·rw [Zas hb] at q
  by_cases hbe:b=e
  ·have q':H b=some (.own x):=by
    rcases he with z | z
    ·exact absurd (hbe.trans z) hb
    ·rw [hbe]; exact z
   rw [q] at q'; cases q'
   obtain ⟨v,hv⟩:=heo
   exact ⟨v,by rw [hbe]; exact hv⟩
  ·refine (ok b u q).stay (fun c v hc r=>k c v ?_ r) (fun c r=>by rw [Zas (nown c b r)]; exact r) fun c xs r=>by rw [Zas (ntup c xs r)]; exact r
   rcases hc with rfl | hc
   ·exact hbe
   ·rintro rfl
    rcases he with z | z
    ·exact nown c b hc z
    ·rw [hc] at z; cases z; exact hb rfl
end
structure Un (fs ex:List Addr) (H H':Hp) (h h':Heap):Prop where
 keep:∀ b o,h.get? b=some o->H b=none->b ∉ fs->b ∉ ex->h'.get? b=some o
 slot:∀ b o,h.get? b=some o->H b=none->b ∈ fs->b ∉ ex->∃ sl,h'.get? b=some { o with slots:=sl }
 free:∀ b o,h.get? b=some o->H b=none->b ∉ ex->H' b=none
 there:∀ b o,h.get? b=some o->b ∉ ex->∃ o',h'.get? b=some o'
 tups:∀ b xs,H b=some (.tup xs)->H' b=some (.tup xs)
 frzs:∀ b o u,H b=some (.frz o u)->H' b=some (.frz o u)
 tbls:∀ b ps,H b=some (.tbl ps)->∃ more,H' b=some (.tbl (ps ++ more))
section
variable {fs fs' ex ex':List Addr} {H H1 H2:Hp} {h h1 h2 h':Heap} {a x e:Addr} {o:HO}
theorem Un.any (u:Un fs ex H H1 h h1) {b:Addr} {ob:Obj} (q:h.get? b=some ob) (n:H b=none) (hx:b ∉ ex):∃ sl,h1.get? b=some { ob with slots:=sl }:=by
 by_cases hb:b ∈ fs
 ·exact u.slot b ob q n hb hx
 ·exact ⟨ob.slots,u.keep b ob q n hb hx⟩
theorem Un.kept (k:∀ b u,h.get? b=some u->h'.get? b=some u):Un fs ex H H h h':=
 ⟨fun b ob q _ _ _=>k b ob q,fun b ob q _ _ _=>⟨ob.slots,k b ob q⟩,fun _ _ _ n _=>n,fun b ob q _=>⟨ob,k b ob q⟩,fun _ _ q=>q,fun _ _ _ q=>q,fun _ ps q=>⟨#[],by rw [q]; simp⟩⟩
theorem Un.refl:Un fs ex H H h h:=Un.kept fun _ _ q=>q
theorem Un.laid (k:∀ b u,h.get? b=some u->h'.get? b=some u) (hp:h.objs.size<=a) (hn:H a=none):Un fs ex H (upd H a o) h h' where
 keep:=fun b u q _ _ _=>k b u q
 slot:=fun b u q _ _ _=>⟨u.slots,k b u q⟩
 free:=fun b u q n _=>by rw [Zas (Wa0 (Wan (Wal q) hp))]; exact n
 there:=fun b u q _=>⟨u,k b u q⟩
 tups:=fun b xs q=>by rw [Zas (Za2 q hn)]; exact q
 frzs:=fun b u xs q=>by rw [Zas (Za2 q hn)]; exact q
 tbls:=fun b ps q=>⟨#[],by rw [Zas (Za2 q hn),q]; simp⟩
theorem Un.write (mu:Mut (H x)) (he:e=x\/H e=some (.own x)) (k:∀ b u,b ≠ e->h.get? b=some u->h'.get? b=some u) (heo:∃ u,h'.get? e=some u):Un fs ex H (upd H x o) h h':=by
 have hx:∀ b,H b=none->b ≠ x:=fun b n z=>by subst z; rw [n] at mu; exact mu
 have hb:∀ b,H b=none->b ≠ e:=fun b n z=>by
  subst z
  rcases he with r | r
  ·exact hx b n r
  ·rw [n] at r; cases r
 have hm:∀ b u,H b=some u->¬ Mut (some u)->b ≠ x:=fun b u q nm z=>by subst z; rw [q] at mu; exact nm mu
 refine ⟨fun b u q n _ _=>k b u (hb b n) q,fun b u q n _ _=>⟨u.slots,k b u (hb b n) q⟩,fun b u q n _=>by rw [Zas (hx b n)]; exact n,fun b u q _=>?_,
  fun b xs q=>by rw [Zas (hm b _ q fun z=>z)]; exact q,fun b u xs q=>by rw [Zas (hm b _ q fun z=>z)]; exact q,fun b ps q=>⟨#[],by rw [Zas (hm b _ q fun z=>z),q]; simp⟩⟩
 by_cases hbe:b=e
 ·subst hbe; exact heo
 ·exact ⟨u,k b u hbe q⟩
end
noncomputable def trk (h:Heap) (H:Hp):List Addr:=(Wa7 h.objs.size).filter fun a=>(H a).isSome
noncomputable def hidT (h:Heap) (H:Hp):Heap:=PySem.W.hideAll h (trk h H)
theorem Ziv (h:Heap) (H:Hp):(hidT h H).objs.size=h.objs.size:=PySem.W.hideAll_size _ _
theorem Zkh {h:Heap} {H:Hp} {b:Addr} {o:Obj} (e:h.get? b=some o) (n:H b=none):(hidT h H).get? b=some o:=
 PySem.W.hideAll_get _ e fun hm=>by
  have q:(H b).isSome=true:=(List.mem_filter.mp hm).2
  rw [n] at q; simp at q
theorem Zmj {h:Heap} {H:Hp} {b:Addr} {o:Obj} (e:(hidT h H).get? b=some o):h.get? b=some o/\H b=none:=by
 have e':h.get? b=some o:=PySem.W.of_hideAll (trk h H) e
 refine ⟨e',?_⟩
 cases q:H b with
 | none=>rfl
 | some x=>
  have hm:b ∈ trk h H:=List.mem_filter.mpr ⟨List.mem_range.mpr (Wal e'),by simp [q]⟩
  have z:(hidT h H).get? b=none:=PySem.W.hideAll_none (trk h H) hm
  rw [z] at e; cases e
noncomputable def allNews (g h:Heap) (L:Addr):List (Addr × Obj):=(Wa7 h.objs.size).filterMap fun a=>if a=L\/(g.get? a).isSome=true then none else (h.get? a).map fun o=>(a,o)
noncomputable def rest (g h:Heap) (L d:Addr):List (Addr × Obj):=(allNews g h L).filter fun p=>decide (p.1 ≠ d)
end L2
namespace L2
open PySem PySem.Spec PyProof.Rows
structure Mod (K:PySem.W.Frag) (mg:Str->Option Value) (base:Heap):Prop where
 kin:K.In base
 glob:base.Ns mainGlobals mg
 blt:∃ mb,base.Ns builtinsNs mb/\∀ x:Str,x ≠ "__name__" -> mb x=bootBuiltins x
 nolimit:base.NoLimit
structure Cx where
 prog:Program
 w:World
 K:PySem.W.Frag
 mg:Str->Option Value
 base:Heap
 A:Around
 N:List Str
 s₀:Shared
 H₀:Hp
 env:Env
 outer:List Env
 stack:List Env
 ex:List Addr
 fn:Str->Bool
 calm:Bool
 pn:List (Addr × Obj)
 xe:Value->Shared->Prop
noncomputable def frs (l:List Env):List Addr:=l.filterMap (·.frame)
noncomputable abbrev Cx.fs (X:Cx):List Addr:=frs X.outer
noncomputable def Vis (sc:Scope) (x:Str):Prop:=sc.names.lookup x=some .local\/sc.names.lookup x=some .cell\/sc.names.lookup x=some .free
noncomputable def Loc (sc:Scope) (x:Str):Prop:=sc.names.lookup x=some .local\/sc.names.lookup x=some .cell
noncomputable def Look (env:Env) (h:Heap) (m:Str->Option Value) (x:Str) (u:Value):Prop:=
 (env.kindOf x=some .local/\m x=some u)\/((env.kindOf x=some .cell\/env.kindOf x=some .free)/\∃ c,env.cells.lookup x=some c/\h.IsCell c (some u))
structure Cx.Ok (X:Cx):Prop where
 mod:Mod X.K X.mg X.base
 kind:X.env.scope.kind=.function
 glob:X.env.globals=mainGlobals
 blt:X.env.builtins=builtinsNs
 above:X.s₀.heap.objs.size<=X.env.locals
 inj:∀ x y c,X.env.cells.lookup x=some c->X.env.cells.lookup y=some c->x=y
 has:∀ x,(X.env.kindOf x=some .cell\/X.env.kindOf x=some .free)->∃ c,X.env.cells.lookup x=some c
 cab:∀ x c,X.fn x=true->X.env.cells.lookup x=some c->X.s₀.heap.objs.size<=c
 hd:X.calm=true->X.A.handled=none
 frames:X.A.frames=some X.stack
 stk:X.stack=X.outer\/(X.stack=X.env :: X.outer/\X.env.frame=some X.env.locals)
 exf:∀ b ∈ X.ex,b ≠ X.env.locals/\∀ x c,X.env.cells.lookup x=some c->c ≠ b
 bs:∀ b o,X.base.get? b=some o->X.s₀.heap.get? b=some o/\X.H₀ b=none
 bsz:X.base.objs.size<=X.s₀.heap.objs.size
 noex:∀ b o,X.base.get? b=some o->b ∉ X.ex
 exfs:∀ b ∈ X.ex,b ∉ X.fs
 funs:X.s₀.heap.FunFrames X.base X.outer
 frf:∀ b ∈ X.fs,X.H₀ b=none
structure Inv (X:Cx) (pins:List (Addr × Obj)) (σ:List (Option V)) (H:Hp) (s:Shared):Prop where
 ok:X.Ok
 os:s.os=X.s₀.os
 bare:AllBare s.gens
 base:Un X.fs X.ex X.H₀ H X.s₀.heap s.heap
 loc:∃ m,s.heap.Ns X.env.locals m/\∀ (i:Nat) (x:Str) (v:V),X.N[i]? = some x -> σ[i]? = some (some v)->Vis X.env.scope x->∃ u,RelV v u/\Look X.env s.heap m x u
 cell:∀ x c,X.env.cells.lookup x=some c->∃ v,s.heap.IsCell c v
 free:H X.env.locals=none
 freeC:∀ x c,X.env.cells.lookup x=some c->H c=none
 pin:∀ p ∈ X.pn ++ pins,s.heap.get? p.1=some p.2/\H p.1=none/\p.1 ≠ X.env.locals/\p.1 ∉ X.fs/\∀ v,p.2.data ≠ .cell v
 hok:HOk X.prog X.w H s.heap
 len:σ.length=X.N.length
section
variable {X:Cx} {pins:List (Addr × Obj)} {σ:List (Option V)} {H H':Hp} {s:Shared} {h':Heap}
theorem Cx.Ok.nofr (ok:X.Ok) {b:Addr} {o:Obj} (e:X.base.get? b=some o):b ∉ X.fs:=fun hb=>by
 have:=(ok.funs.mem hb).1
 rw [e] at this; cases this
theorem Inv.bs (I:Inv X pins σ H s):∀ b o,X.base.get? b=some o->s.heap.get? b=some o/\H b=none:=fun b o e=>
 ⟨I.base.keep b o (I.ok.bs b o e).1 (I.ok.bs b o e).2 (I.ok.nofr e) (I.ok.noex b o e),I.base.free b o (I.ok.bs b o e).1 (I.ok.bs b o e).2 (I.ok.noex b o e)⟩
theorem Inv.bk (I:Inv X pins σ H s):∀ b o,X.base.get? b=some o->s.heap.get? b=some o:=fun b o e=>(I.bs b o e).1
theorem Inv.mod (I:Inv X pins σ H s):Mod X.K X.mg X.base:=I.ok.mod
theorem Inv.kIn (I:Inv X pins σ H s):X.K.In s.heap:=I.ok.mod.kin.keeps I.bk
theorem Inv.fr (I:Inv X pins σ H s):∃ m,Fr X.base X.env.locals s.heap m:=
 let ⟨m,hn,_⟩:=I.loc
 ⟨m,hn,I.bk,Wa6 I.ok.bsz I.ok.above⟩
theorem Inv.lt (I:Inv X pins σ H s):X.env.locals < s.heap.objs.size:=let ⟨_,hn,_⟩:=I.loc; hn.lt
theorem Inv.sz (I:Inv X pins σ H s):X.s₀.heap.objs.size<=s.heap.objs.size:=Wa6 I.ok.above (Wbp I.lt)
theorem Inv.nofs (I:Inv X pins σ H s) {a:Addr} (h:s.heap.objs.size<=a):a ∉ X.fs:=fun hb=>by
 obtain ⟨_,o,ho,_⟩:=I.ok.funs.mem hb
 exact absurd (Wan (Wal ho) (Wa6 I.sz h)) (Wb2 _)
theorem Inv.cne (I:Inv X pins σ H s):∀ x c,X.env.cells.lookup x=some c->c ≠ X.env.locals:=fun x c e z=>by
 obtain ⟨v,o,ho,hd⟩:=I.cell x c e
 obtain ⟨m,⟨o',es,ep,ho',hd',_⟩,_⟩:=I.loc
 rw [z,ho'] at ho; cases ho; rw [hd'] at hd; cases hd
theorem Inv.funs (I:Inv X pins σ H s):s.heap.FunFrames X.base X.outer:=by
 have all:∀ (l:List Env),(∀ b ∈ frs l,b ∈ X.fs)->X.s₀.heap.FunFrames X.base l->s.heap.FunFrames X.base l:=by
  intro l
  induction l with
  | nil=>intro _ _; trivial
  | cons env r ih=>
   intro hs hl
   obtain ⟨hk,⟨L,o,hf,hn,ho,hd⟩,hr⟩:=hl
   have hL:L ∈ X.fs:=hs L (by unfold frs; rw [Wcf,hf]; exact Wa8)
   obtain ⟨sl,e⟩:=I.base.slot L o ho (I.ok.frf L hL) hL fun z=>I.ok.exfs L z hL
   exact ⟨hk,⟨L,_,hf,hn,e,hd⟩,ih (fun b hb=>hs b (by unfold frs; rw [Wcf,hf]; exact Waq _ hb)) hr⟩
 exact all X.outer (fun _ hb=>hb) I.ok.funs
theorem Inv.stack (I:Inv X pins σ H s):s.heap.FunFrames X.base X.stack:=by
 rcases I.ok.stk with e | ⟨e,hf⟩
 ·rw [e]; exact I.funs
 ·rw [e]
  obtain ⟨m,hn,_⟩:=I.loc
  refine .cons (by rw [I.ok.kind]; decide) hf hn ?_ I.funs
  exact Heap.get?_none_of_le (Wa6 I.ok.bsz I.ok.above)
theorem Inv.stkSub (I:Inv X pins σ H s):∀ b ∈ frs X.stack,b ∈ X.env.locals :: X.fs:=fun b hb=>by
 rcases I.ok.stk with e | ⟨e,hf⟩
 ·rw [e] at hb; exact Waq _ hb
 ·rw [e] at hb
  unfold frs at hb
  rw [Wcf,hf] at hb
  exact hb
theorem Inv.stkFree (I:Inv X pins σ H s):∀ b ∈ frs X.stack,H b=none:=fun b hb=>by
 rcases Wa5.mp (I.stkSub b hb) with e | hb
 ·rw [e]; exact I.free
 ·obtain ⟨_,o,ho,_⟩:=I.ok.funs.mem hb
  exact I.base.free b o ho (I.ok.frf b hb) fun z=>I.ok.exfs b z hb
theorem Inv.step {g':Array GenState} {t':Nat} {d':Drawn} {ch:List Addr} (I:Inv X pins σ H s)
  (hch:∀ b ∈ ch,(b ∈ X.ex\/X.s₀.heap.objs.size<=b)/\b ≠ X.env.locals/\(∀ x c,X.env.cells.lookup x=some c->c ≠ b)/\∀ p ∈ X.pn ++ pins,p.1 ≠ b)
  (keep:∀ b o,b ≠ X.env.locals->b ∉ X.fs->b ∉ ch->s.heap.get? b=some o->H b=none->h'.get? b=some o)
  (slot:∀ b o,b ≠ X.env.locals->b ∈ X.fs->b ∉ ch->s.heap.get? b=some o->H b=none->∃ sl,h'.get? b=some { o with slots:=sl }) (free:∀ b o,b ∉ ch->s.heap.get? b=some o->H b=none->H' b=none)
  (there:∀ b o,b ∉ ch->s.heap.get? b=some o->∃ o',h'.get? b=some o')
  (tups:∀ b xs,H b=some (.tup xs)->H' b=some (.tup xs)) (frzs:∀ b o u,H b=some (.frz o u)->H' b=some (.frz o u)) (tbls:∀ b ps,H b=some (.tbl ps)->∃ more,H' b=some (.tbl (ps ++ more)))
  (ns:∀ m,s.heap.Ns X.env.locals m->h'.Ns X.env.locals m) (hok:HOk X.prog X.w H' h') (hg:AllBare g') :
  Inv X pins σ H' { s with heap:=h',gens:=g',drawn:=d',toks:=t' }:=by
 have neL:∀ b o,X.s₀.heap.get? b=some o->b ≠ X.env.locals:=fun b o e=>Wa0 (Wan (Wal e) I.ok.above)
 have neC:∀ b o,X.s₀.heap.get? b=some o->b ∉ X.ex->b ∉ ch:=fun b o e hx hb=>by
  rcases (hch b hb).1 with z | z
  ·exact hx z
  ·exact absurd (Wan (Wal e) z) (Wb2 _)
 have cellK:∀ x c,X.env.cells.lookup x=some c->∀ v,s.heap.IsCell c v->h'.IsCell c v:=fun x c e v hq_=>by
  obtain ⟨o,ho,hd⟩:=hq_
  have nch:c ∉ ch:=fun z=>(hch c z).2.2.1 x c e rfl
  by_cases hc:c ∈ X.fs
  ·obtain ⟨sl,q⟩:=slot c o (I.cne x c e) hc nch ho (I.freeC x c e)
   exact ⟨_,q,hd⟩
  ·exact ⟨o,keep c o (I.cne x c e) hc nch ho (I.freeC x c e),hd⟩
 refine ⟨I.ok,I.os,hg,⟨fun b o e n hb hx=>?_,fun b o e n hb hx=>?_,fun b o e n hx=>?_,fun b o e hx=>?_,fun b xs e=>tups b xs (I.base.tups b xs e),fun b o xs e=>frzs b o xs (I.base.frzs b o xs e),fun b ps e=>?_⟩,?_,fun x c e=>?_,?_,fun x c e=>?_,fun p hp=>?_,hok,I.len⟩
 ·exact keep b o (neL b o e) hb (neC b o e hx) (I.base.keep b o e n hb hx) (I.base.free b o e n hx)
 ·obtain ⟨sl,e1⟩:=I.base.slot b o e n hb hx
  obtain ⟨sl',e2⟩:=slot b _ (neL b o e) hb (neC b o e hx) e1 (I.base.free b o e n hx)
  exact ⟨sl',e2⟩
 ·obtain ⟨o',e1⟩:=I.base.there b o e hx
  exact free b o' (neC b o e hx) e1 (I.base.free b o e n hx)
 ·obtain ⟨o',e1⟩:=I.base.there b o e hx
  exact there b o' (neC b o e hx) e1
 ·obtain ⟨m1,e1⟩:=I.base.tbls b ps e
  obtain ⟨m2,e2⟩:=tbls b _ e1
  exact ⟨m1 ++ m2,by rw [e2,Array.append_assoc]⟩
 ·obtain ⟨m,hn,hl⟩:=I.loc
  refine ⟨m,ns m hn,fun i x v e1 e2 e3=>?_⟩
  obtain ⟨u,r,l⟩:=hl i x v e1 e2 e3
  refine ⟨u,r,?_⟩
  rcases l with l | ⟨k,c,e,z⟩
  ·exact .inl l
  ·exact .inr ⟨k,c,e,cellK x c e _ z⟩
 ·obtain ⟨v,z⟩:=I.cell x c e
  exact ⟨v,cellK x c e v z⟩
 ·obtain ⟨m,⟨o,_,_,ho,_⟩,_⟩:=I.loc
  exact free _ o (fun z=>(hch _ z).2.1 rfl) ho I.free
 ·obtain ⟨v,o,ho,hd⟩:=I.cell x c e
  exact free c o (fun z=>(hch c z).2.2.1 x c e rfl) ho (I.freeC x c e)
 ·obtain ⟨e,n,ne,nf,d⟩:=I.pin p hp
  have nch:p.1 ∉ ch:=fun z=>(hch p.1 z).2.2.2 p hp rfl
  exact ⟨keep p.1 p.2 ne nf nch e n,free p.1 p.2 nch e n,ne,nf,d⟩
theorem Inv.un {t':Nat} (I:Inv X pins σ H s) (u:Un X.fs [] H H' s.heap h') (hok:HOk X.prog X.w H' h'):Inv X pins σ H' { s with heap:=h',toks:=t' }:=by
 obtain ⟨m,⟨o,es,ep,ho,r⟩,_⟩:=id I.loc
 obtain ⟨sl,hL⟩:=u.any ho I.free (by simp)
 exact I.step (g':=s.gens) (d':=s.drawn) (ch:=[]) (fun _ z=>nomatch z) (fun b o _ hb _ e n=>u.keep b o e n hb (by simp)) (fun b o _ hb _ e n=>u.slot b o e n hb (by simp)) (fun b o _ e n=>u.free b o e n (by simp)) (fun b o _ e=>u.there b o e (by simp)) u.tups u.frzs u.tbls (fun m' hm=>by
  obtain ⟨o',es',ep',ho',r'⟩:=hm
  rw [ho] at ho'; cases ho'
  exact ⟨_,es',ep',hL,r'⟩) hok I.bare
theorem Inv.call {g':Array GenState} {t':Nat} {d':Drawn} {ch:List Addr} (I:Inv X pins σ H s) (u:Un (frs X.stack) ch H H' s.heap h') (hok:HOk X.prog X.w H' h') (hg:AllBare g')
  (hch:∀ b ∈ ch,(b ∈ X.ex\/X.s₀.heap.objs.size<=b)/\b ≠ X.env.locals/\(∀ x c,X.env.cells.lookup x=some c->c ≠ b)/\∀ p ∈ X.pn ++ pins,p.1 ≠ b) :
  Inv X pins σ H' { s with heap:=h',gens:=g',drawn:=d',toks:=t' }:=by
 obtain ⟨m,⟨o,es,ep,ho,r⟩,_⟩:=id I.loc
 obtain ⟨sl,hL⟩:=u.any ho I.free fun z=>(hch _ z).2.1 rfl
 exact I.step (ch:=ch) hch (fun b o hL hb hc e n=>u.keep b o e n (fun z=>(Wa5.mp (I.stkSub b z)).elim hL hb) hc) (fun b o _ _ hc e n=>u.any e n hc) (fun b o hc e n=>u.free b o e n hc) (fun b o hc e=>u.there b o e hc) u.tups u.frzs u.tbls (fun m' hm=>by
  obtain ⟨o',es',ep',ho',r'⟩:=hm
  rw [ho] at ho'; cases ho'
  exact ⟨_,es',ep',hL,r'⟩) hok hg
theorem Inv.turned {t':Nat} {it:Addr} (I:Inv X pins σ H s) (k:∀ b o,b ≠ it->s.heap.get? b=some o->h'.get? b=some o) (hn:H it=none) (hL:it ≠ X.env.locals)
  (h1:it ∈ X.ex\/X.s₀.heap.objs.size<=it) (h2:∀ x c,X.env.cells.lookup x=some c->c ≠ it) (h3:∀ p ∈ X.pn ++ pins,p.1 ≠ it):Inv X pins σ H { s with heap:=h',toks:=t' }:=by
 have nit:∀ b u,H b=some u->b ≠ it:=fun b u e z=>by rw [z,hn] at e; cases e
 refine I.step (g':=s.gens) (d':=s.drawn) (ch:=[it]) (fun b hb=>?_) (fun b o _ _ hc e _=>k b o (fun z=>hc (by simp [z])) e) (fun b o _ _ hc e _=>⟨o.slots,k b o (fun z=>hc (by simp [z])) e⟩) (fun _ _ _ _ n=>n)
  (fun b o hc e=>⟨o,k b o (fun z=>hc (by simp [z])) e⟩) (fun _ _ e=>e) (fun _ _ _ e=>e) (fun b ps e=>⟨#[],by rw [e]; simp⟩) (fun m hm=>?_) (fun b u e=>?_) I.bare
 ·have e:b=it:=by simpa using hb
  subst e
  exact ⟨h1,hL,h2,h3⟩
 ·obtain ⟨o,es,ep,ho,r⟩:=hm
  exact ⟨o,es,ep,k _ o (Ne.symm hL) ho,r⟩
 ·refine (I.hok b u e).stay (fun c v hc q=>k c v ?_ q) (fun _ q=>q) fun _ _ q=>q
  rcases hc with z | z
  ·rw [z]; exact nit b u e
  ·exact nit c _ z
theorem Inv.tok (I:Inv X pins σ H s) (t:Nat):Inv X pins σ H { s with toks:=t }:=I.un (h':=s.heap) (t':=t) Un.refl I.hok
theorem Inv.kept {t':Nat} (I:Inv X pins σ H s) (k:∀ b u,s.heap.get? b=some u->h'.get? b=some u):Inv X pins σ H { s with heap:=h',toks:=t' }:=I.un (Un.kept k) (I.hok.kept k)
theorem Inv.laid {a:Addr} {o:HO} {t':Nat} (I:Inv X pins σ H s) (k:∀ b u,s.heap.get? b=some u->h'.get? b=some u) (hp:s.heap.objs.size<=a) (new:ObjOk X.prog X.w (upd H a o) h' a o) :
  Inv X pins σ (upd H a o) { s with heap:=h',toks:=t' }:=I.un (Un.laid k hp (I.hok.fresh hp)) (I.hok.laid k hp new)
theorem Inv.write {x e:Addr} {o:HO} {t':Nat} (I:Inv X pins σ H s) (mu:Mut (H x)) (he:e=x\/H e=some (.own x)) (k:∀ b u,b ≠ e->s.heap.get? b=some u->h'.get? b=some u) (heo:∃ u,h'.get? e=some u)
  (new:ObjOk X.prog X.w (upd H x o) h' x o):Inv X pins σ (upd H x o) { s with heap:=h',toks:=t' }:=I.un (Un.write mu he k heo) (I.hok.write mu he k heo new)
theorem Inv.weak {σ':List (Option V)} (I:Inv X pins σ H s) (hl:σ'.length = σ.length) (w:∀ (i:Nat) v,σ'[i]? = some (some v) -> σ[i]? = some (some v)):Inv X pins σ' H s:=
 ⟨I.ok,I.os,I.bare,I.base,let ⟨m,hn,hl'⟩:=I.loc; ⟨m,hn,fun i x v e1 e2 e3=>hl' i x v e1 (w i v e2) e3⟩,I.cell,I.free,I.freeC,I.pin,I.hok,hl.trans I.len⟩
theorem Inv.pins_of {pins':List (Addr × Obj)} (I:Inv X pins σ H s) (h:∀ p ∈ pins',s.heap.get? p.1=some p.2/\H p.1=none/\p.1 ≠ X.env.locals/\p.1 ∉ X.fs/\∀ v,p.2.data ≠ .cell v):Inv X pins' σ H s:=
 ⟨I.ok,I.os,I.bare,I.base,I.loc,I.cell,I.free,I.freeC,fun p hp=>(Wbr.mp hp).elim (fun z=>I.pin p (Wb7 _ z)) (h p),I.hok,I.len⟩
theorem Zey {N:List Str} (hN:N.Nodup) {i j:Nat} {x:Str} (a:N[i]? = some x) (b:N[j]? = some x):i=j:=by
 obtain ⟨h1,e1⟩:=Wak.mp a
 obtain ⟨h2,e2⟩:=Wak.mp b
 exact (List.getElem_inj hN).mp (e1.trans e2.symm)
theorem Zfh {M:Model} {A:Around} {E:Value->Shared->Prop} {i:Nat} {x:Str} {v:V} {u:Value} {Q:Unit->Shared->Prop} (I:Inv X pins σ H s) (hN:X.N.Nodup) (hi:X.N[i]? = some x) (hx:Loc X.env.scope x) (r:RelV v u)
  (h:∀ s',Inv X pins (σ.set i (some v)) H s' -> (∃ a,Heap.SameBut a s.heap s'.heap/\(a=X.env.locals\/X.env.cells.lookup x=some a))->Q () s') (hf:X.fn x=true\/X.env.scope.names.lookup x=some .local:=by first | exact .inl rfl | exact .inr rfl | assumption):wpAny M A (storeName X.env x u) Q E s:=by
 obtain ⟨m,hn,hl⟩:=id I.loc
 have hcls:(X.env.scope.kind == .class || (X.env.scope.kind == .module && X.env.locals != X.env.globals))=false:=by rw [I.ok.kind]; rfl
 have hiσ:i < σ.length:=by rw [I.len]; exact (Wak.mp hi).1
 have cne:=I.cne
 have tracked:∀ {a:Addr} {h':Heap},(∃ o,s.heap.get? a=some o/\H a=none)->Heap.SameBut a s.heap h' -> HOk X.prog X.w H h':=fun {a h'} ha hs b ob e=>by
  obtain ⟨_,_,hfree⟩:=ha
  refine (I.hok b ob e).stay (fun c w' hc q=>(hs.2 c ?_).trans q) (fun _ q=>q) fun _ _ q=>q
  rintro rfl
  rcases hc with rfl | hc
  ·rw [hfree] at e; cases e
  ·rw [hfree] at hc; cases hc
 rcases hx with hk | hk
 ·refine wpAny_storeName_local hk hn (fun h' hn' hs=>?_) hcls
  obtain ⟨oL,_,_,hoL,_⟩:=id hn
  refine h _ ⟨I.ok,I.os,I.bare,⟨fun b o e n hb hx=>?_,fun b o e n hb hx=>?_,I.base.free,fun b o e hx=>?_,I.base.tups,I.base.frzs,I.base.tbls⟩,⟨_,hn',fun j y v' e1 e2 e3=>?_⟩,fun y c e=>?_,I.free,I.freeC,fun p hp=>?_,tracked ⟨oL,hoL,I.free⟩ hs,by simpa using I.len⟩ ⟨_,hs,.inl rfl⟩
  ·exact (hs.2 b (Wa0 (Wan (Wal e) I.ok.above))).trans (I.base.keep b o e n hb hx)
  ·obtain ⟨sl,e1⟩:=I.base.slot b o e n hb hx
   exact ⟨sl,(hs.2 b (Wa0 (Wan (Wal e) I.ok.above))).trans e1⟩
  ·obtain ⟨o',e1⟩:=I.base.there b o e hx
   exact ⟨o',(hs.2 b (Wa0 (Wan (Wal e) I.ok.above))).trans e1⟩
  ·by_cases hj:j=i
   ·subst hj
    rw [hi] at e1; cases e1
    rw [Waf hiσ] at e2
    cases e2
    exact ⟨u,r,.inl ⟨hk,by simp⟩⟩
   ·rw [Wag (Ne.symm hj)] at e2
    obtain ⟨u',r',q⟩:=hl j y v' e1 e2 e3
    refine ⟨u',r',?_⟩
    rcases q with ⟨k,e⟩ | ⟨k,c,e,z⟩
    ·refine .inl ⟨k,?_⟩
     have:y ≠ x:=fun e=>hj (Zey hN e1 (e ▸ hi))
     simp [this,e]
    ·exact .inr ⟨k,c,e,z.sameBut hs (cne y c e)⟩
  ·obtain ⟨w',z⟩:=I.cell y c e
   exact ⟨w',z.sameBut hs (cne y c e)⟩
  ·obtain ⟨e,n,ne,nf,d⟩:=I.pin p hp
   exact ⟨(hs.2 p.1 ne).trans e,n,ne,nf,d⟩
 ·have hfn:X.fn x=true:=by
   rcases hf with z | z
   ·exact z
   ·rw [z] at hk; cases hk
  obtain ⟨c,hc⟩:=I.ok.has x (.inl hk)
  obtain ⟨w',z⟩:=I.cell x c hc
  refine wpAny_storeName_cell I.ok.kind hk hc z (fun h' hc' hs=>?_)
  obtain ⟨oc,hoc,hocd⟩:=id z
  refine h { s with heap:=h' } ⟨I.ok,I.os,I.bare,⟨fun b o e n hb hx=>?_,fun b o e n hb hx=>?_,I.base.free,fun b o e hx=>?_,I.base.tups,I.base.frzs,I.base.tbls⟩,⟨m,hn.sameBut hs (Ne.symm (cne x c hc)),fun j y v' e1 e2 e3=>?_⟩,fun y c' e=>?_,I.free,I.freeC,fun p hp=>?_,tracked ⟨oc,hoc,I.freeC x c hc⟩ hs,by simpa using I.len⟩ ⟨c,hs,.inr hc⟩
  ·exact (hs.2 b (Wa0 (Wan (Wal e) (I.ok.cab x c hfn hc)))).trans (I.base.keep b o e n hb hx)
  ·obtain ⟨sl,e1⟩:=I.base.slot b o e n hb hx
   exact ⟨sl,(hs.2 b (Wa0 (Wan (Wal e) (I.ok.cab x c hfn hc)))).trans e1⟩
  ·obtain ⟨o',e1⟩:=I.base.there b o e hx
   exact ⟨o',(hs.2 b (Wa0 (Wan (Wal e) (I.ok.cab x c hfn hc)))).trans e1⟩
  ·by_cases hj:j=i
   ·subst hj
    rw [hi] at e1; cases e1
    rw [Waf hiσ] at e2
    cases e2
    exact ⟨u,r,.inr ⟨.inl hk,c,hc,hc'⟩⟩
   ·rw [Wag (Ne.symm hj)] at e2
    obtain ⟨u',r',q⟩:=hl j y v' e1 e2 e3
    refine ⟨u',r',?_⟩
    rcases q with q | ⟨k,c',e,z'⟩
    ·exact .inl q
    ·refine .inr ⟨k,c',e,z'.sameBut hs ?_⟩
     rintro rfl
     exact hj (Zey hN e1 (I.ok.inj _ _ _ e hc ▸ hi))
  ·by_cases hcc:c' = c
   ·subst hcc; exact ⟨_,hc'⟩
   ·obtain ⟨w2,z2⟩:=I.cell y c' e
    exact ⟨w2,z2.sameBut hs hcc⟩
  ·obtain ⟨e,n,ne,nf,d⟩:=I.pin p hp
   refine ⟨(hs.2 p.1 ?_).trans e,n,ne,nf,d⟩
   intro q
   rw [q,hoc] at e
   have q':oc=p.2:=Wat.inj e
   exact d w' (by rw [<- q']; exact hocd)
theorem Zc4 {M:Model} {A:Around} {E:Value->Shared->Prop} {i:Nat} {x:Str} {v:V} {u:Value} {Q:Unit->Shared->Prop} (I:Inv X pins σ H s) (hN:X.N.Nodup) (hi:X.N[i]? = some x) (hx:Loc X.env.scope x) (r:RelV v u)
  (h:∀ s',Inv X pins (σ.set i (some v)) H s' -> Q () s') (hf:X.fn x=true\/X.env.scope.names.lookup x=some .local:=by first | exact .inl rfl | exact .inr rfl | assumption):wpAny M A (storeName X.env x u) Q E s:=
 Zfh I hN hi hx r (fun s' I' _=>h s' I') hf
theorem Inv.call' {s':Shared} {ch:List Addr} (I:Inv X pins σ H s) (ho:s'.os=s.os) (u:Un (frs X.stack) ch H H' s.heap s'.heap) (hok:HOk X.prog X.w H' s'.heap) (hg:AllBare s'.gens)
  (hch:∀ b ∈ ch,(b ∈ X.ex\/X.s₀.heap.objs.size<=b)/\b ≠ X.env.locals/\(∀ x c,X.env.cells.lookup x=some c->c ≠ b)/\∀ p ∈ X.pn ++ pins,p.1 ≠ b):Inv X pins σ H' s':=by
 obtain ⟨h',g',d',t',o'⟩:=s'
 have e:o' = s.os:=ho
 subst e
 exact I.call (g':=g') (t':=t') (d':=d') u hok hg hch
end
noncomputable abbrev XK:=Value->Option Addr->Hp->Prop
noncomputable abbrev St:=List (Option V)
noncomputable abbrev VK:=V->Hp->Prop
noncomputable abbrev TE:=St->Hp->VK->Prop
noncomputable abbrev TT:=St->Hp->(Bool->Hp->Prop)->Prop
noncomputable abbrev TA:=St->Hp->(List V->Hp->Prop)->Prop
structure Ends where
 nx:St->Hp->Prop
 rt:VK
 bk:St->Hp->Prop:=fun _ _=>False
 ct:St->Hp->Prop:=fun _ _=>False
noncomputable abbrev TS:=Ends->St->Hp->Prop
noncomputable def EP (X:Cx) (pins:List (Addr × Obj)) (σ:St) (Q:VK) (u:Value) (s':Shared):Prop:=∃ v H',Inv X pins σ H' s' /\ RelV v u/\Q v H'
noncomputable def TP (X:Cx) (pins:List (Addr × Obj)) (σ:St) (Q:Bool->Hp->Prop) (b:Bool) (s':Shared):Prop:=∃ H',Inv X pins σ H' s' /\ Q b H'
noncomputable def AP (X:Cx) (pins:List (Addr × Obj)) (σ:St) (Q:List V->Hp->Prop) (us:List Value) (s':Shared):Prop:=∃ vs H',Inv X pins σ H' s' /\ Vals vs us/\Q vs H'
noncomputable def SP (X:Cx) (pins:List (Addr × Obj)) (D:Ends) (f:Flow) (s':Shared):Prop:=
 match f with
 | .next=>∃ σ' H',Inv X pins σ' H' s' /\ D.nx σ' H'
 | .brk=>∃ σ' H',Inv X pins σ' H' s' /\ D.bk σ' H'
 | .cont=>∃ σ' H',Inv X pins σ' H' s' /\ D.ct σ' H'
 | .ret u=>∃ v σ' H',Inv X pins σ' H' s' /\ RelV v u/\D.rt v H'
noncomputable def PE (X:Cx) (e:Expr) (t:TE):Prop:=
 ∀ (pins:List (Addr × Obj)) (s:Shared) (σ:St) (H:Hp) (Q:VK),Inv X pins σ H s->t σ H Q->wpAny (model X.prog X.w) X.A (eval e X.env) (EP X pins σ Q) X.xe s
noncomputable def PT (X:Cx) (e:Expr) (t:TT):Prop:=
 ∀ (pins:List (Addr × Obj)) (s:Shared) (σ:St) (H:Hp) (Q:Bool->Hp->Prop),Inv X pins σ H s->t σ H Q->wpAny (model X.prog X.w) X.A (isTrue e X.env (eval e X.env)) (TP X pins σ Q) X.xe s
noncomputable def PW (X:Cx) (e:Expr) (t:TT):Prop:=
 ∀ (whole:Sem Value) (pins:List (Addr × Obj)) (s:Shared) (σ:St) (H:Hp) (Q:Bool->Hp->Prop),Inv X pins σ H s->t σ H Q->wpAny (model X.prog X.w) X.A (isTrue e X.env whole) (TP X pins σ Q) X.xe s
theorem PW.pt {X:Cx} {e:Expr} {t:TT} (h:PW X e t):PT X e t:=h _
noncomputable def PA (X:Cx) (es:List Expr) (t:TA):Prop:=
 ∀ (pos:Pos) (pins:List (Addr × Obj)) (s:Shared) (σ:St) (H:Hp) (Q:List V->Hp->Prop),Inv X pins σ H s->t σ H Q->wpAny (model X.prog X.w) X.A (spliced (backTo pos (starEach es X.env))) (AP X pins σ Q) X.xe s
noncomputable def PS (X:Cx) (st:Stmt) (t:TS):Prop:=
 ∀ (pins:List (Addr × Obj)) (s:Shared) (σ:St) (H:Hp) (D:Ends),Inv X pins σ H s->t D σ H->wpAny (model X.prog X.w) X.A (exec st X.env) (SP X pins D) X.xe s
noncomputable def PSs (X:Cx) (st:List Stmt) (t:TS):Prop:=
 ∀ (pins:List (Addr × Obj)) (s:Shared) (σ:St) (H:Hp) (D:Ends),Inv X pins σ H s->t D σ H->wpAny (model X.prog X.w) X.A (execs st X.env) (SP X pins D) X.xe s
theorem thn {α:Type} {t:Sem α} {Q Q':α -> Shared->Prop} {M:Model} {A:Around} {E:Value->Shared->Prop} {s:Shared} (h:wpAny M A t Q E s) (hQ:∀ a s,Q a s->Q' a s):wpAny M A t Q' E s:=wpAny_mono h hQ fun _ _ x=>x
end L2
namespace L2
open PySem PySem.Spec PyProof.Rows
section
variable {X:Cx}
noncomputable def tVar (i:Nat):TE:=fun σ H Q=>∃ v,σ[i]? = some (some v)/\Q v H
noncomputable def tC (v:V):TE:=fun _ H Q=>Q v H
theorem Zkx {i:Nat} {x:Str} {pos:Pos} (hN:X.N[i]? = some x) (hv:Vis X.env.scope x) (hd:(x == ("__debug__":Str))=false:=by decide) (hcd:(x == ("__classdict__":Str))=false:=by decide):PE X (.Name x pos) (tVar i):=by
 intro pins s σ H Q I h
 obtain ⟨v,e,h⟩:=h
 obtain ⟨m,hn,hl⟩:=I.loc
 obtain ⟨u,r,l⟩:=hl i x v hN e hv
 have fin:EP X pins σ Q u s:=⟨v,H,I,r,h⟩
 rcases l with ⟨hk,hm⟩ | ⟨hk,c,hc,hcell⟩
 ·exact wpAny_Name (wpAny_loadName_local I.ok.kind hk hn hm fin) hd
 ·rcases hk with hk | hk
  ·exact wpAny_Name (wpAny_loadName_cell I.ok.kind hk hc hcell fin) hd
  ·exact wpAny_Name (wpAny_loadName_free I.ok.kind hk hc hcell fin hcd) hd
theorem Zac {i j pos}:PE X (.Constant (.int i) j pos) (tC (.int i)):=fun _ _ _ H _ I h=>wpAny_Constant_int ⟨.int i,H,I.tok _,⟨_,rfl⟩,h⟩
theorem Zjv {b j pos}:PE X (.Constant (.bool b) j pos) (tC (.bl b)):=fun _ _ _ H _ I h=>Constant_bool ⟨.bl b,H,I,rfl,h⟩
theorem Zhm {j pos}:PE X (.Constant .none j pos) (tC .non):=fun _ _ _ H _ I h=>Constant_none ⟨.non,H,I,rfl,h⟩
theorem Zgl {x j pos}:PE X (.Constant (.str x) j pos) (tC (.str x)):=fun _ _ _ H _ I h=>Calls.Constant_str ⟨.str x,H,I.tok _,⟨_,rfl⟩,h⟩
noncomputable def Gl (X:Cx) (x:Str):Prop:=X.env.kindOf x=some .globalImplicit
theorem Zdq {E:Value->Shared->Prop} {pins:List (Addr × Obj)} {s:Shared} {σ:St} {H:Hp} {x:Str} {u:Value} {pos:Pos} {Q:Value->Shared->Prop} (I:Inv X pins σ H s) (hg:Gl X x) (hm:X.mg x=some u) (h:Q u s)
  (hd:(x == ("__debug__":Str))=false:=by decide):wpAny (model X.prog X.w) X.A (eval (.Name x pos) X.env) Q E s:=
 Calls.Name_function_global I.ok.kind hg (Calls.loadGlobal_global (by rw [I.ok.glob]; exact I.mod.glob.keeps I.bk) hm h) hd
theorem Zd4 {E:Value->Shared->Prop} {pins:List (Addr × Obj)} {s:Shared} {σ:St} {H:Hp} {x:Str} {u:Value} {pos:Pos} {Q:Value->Shared->Prop} (I:Inv X pins σ H s) (hg:Gl X x) (hm:X.mg x=none) (hv:bootBuiltins x=some u) (h:Q u s)
  (hn:x ≠ "__name__":=by decide) (hd:(x == ("__debug__":Str))=false:=by decide):wpAny (model X.prog X.w) X.A (eval (.Name x pos) X.env) Q E s:=by
 obtain ⟨mb,h1,h2⟩:=I.mod.blt
 exact Calls.Name_function_global I.ok.kind hg (Calls.loadGlobal_builtin (by rw [I.ok.glob]; exact I.mod.glob.keeps I.bk) hm (by rw [I.ok.blt]; exact h1.keeps I.bk) ((h2 x hn).trans hv) h) hd
theorem Zay {x:Str} {v:V} {u:Value} {pos:Pos} (hg:Gl X x) (hm:X.mg x=some u) (r:RelV v u) (hd:(x == ("__debug__":Str))=false:=by decide):PE X (.Name x pos) (tC v):=
 fun _ _ _ H _ I h=>Zdq I hg hm ⟨v,H,I,r,h⟩ hd
theorem Zf2 {x:Str} {v:V} {u:Value} {pos:Pos} (hg:Gl X x) (hm:X.mg x=none) (hv:bootBuiltins x=some u) (r:RelV v u) (hn:x ≠ "__name__":=by decide) (hd:(x == ("__debug__":Str))=false:=by decide):PE X (.Name x pos) (tC v):=
 fun _ _ _ H _ I h=>Zd4 I hg hm hv ⟨v,H,I,r,h⟩ hn hd
variable {a b:Expr} {ta tb:TE} {pos:Pos}
variable {tA tB':TT} {rest:List Expr}
noncomputable def tAnd (t u:TT):TT:=fun σ H Q=>t σ H fun c H1=>if c=true then u σ H1 Q else Q false H1
noncomputable def tOr (t u:TT):TT:=fun σ H Q=>t σ H fun c H1=>if c=true then Q true H1 else u σ H1 Q
noncomputable def tNot (t:TT):TT:=fun σ H Q=>t σ H fun c H1=>Q (!c) H1
theorem pw_and1 (ha:PT X a tA):PW X (.BoolOp .And [a] pos) tA:=by
 intro wh pins s σ H Q I h
 refine isTrue_and (thn (ha pins s σ H Q I h) fun c s1 e=>?_)
 cases c with
 | true=>exact isTrue_and_nil e
 | false=>exact e
theorem pw_or1 (ha:PT X a tA):PW X (.BoolOp .Or [a] pos) tA:=by
 intro wh pins s σ H Q I h
 refine isTrue_or (thn (ha pins s σ H Q I h) fun c s1 e=>?_)
 cases c with
 | false=>exact isTrue_or_nil e
 | true=>exact e
theorem pw_and (ha:PT X a tA) (hb:PW X (.BoolOp .And (b :: rest) pos) tB'):PW X (.BoolOp .And (a :: b :: rest) pos) (tAnd tA tB'):=by
 intro wh pins s σ H Q I h
 refine isTrue_and (thn (ha pins s σ H _ I h) fun c s1 ⟨H1,I1,q1⟩=>?_)
 cases c with
 | true=>exact hb wh pins s1 σ H1 Q I1 q1
 | false=>exact ⟨H1,I1,q1⟩
theorem pw_or (ha:PT X a tA) (hb:PW X (.BoolOp .Or (b :: rest) pos) tB'):PW X (.BoolOp .Or (a :: b :: rest) pos) (tOr tA tB'):=by
 intro wh pins s σ H Q I h
 refine isTrue_or (thn (ha pins s σ H _ I h) fun c s1 ⟨H1,I1,q1⟩=>?_)
 cases c with
 | true=>exact ⟨H1,I1,q1⟩
 | false=>exact hb wh pins s1 σ H1 Q I1 q1
theorem Zip (ha:PT X a tA):PT X (.UnaryOp .Not a pos) (tNot tA):=by
 intro pins s σ H Q I h
 exact isTrue_not (ha pins s σ H (fun c H1=>Q (!c) H1) I h)
noncomputable def tAndV (ta tb:TE):TE:=fun σ H Q=>ta σ H fun x H1=>∃ c,x=.bl c/\if c=true then tb σ H1 Q else Q (.bl false) H1
noncomputable def tOrV (ta tb:TE):TE:=fun σ H Q=>ta σ H fun x H1=>∃ c,x=.bl c/\if c=true then Q (.bl true) H1 else tb σ H1 Q
noncomputable def tNotV (ta:TE):TE:=fun σ H Q=>ta σ H fun x H1=>∃ c,x=.bl c/\Q (.bl (!c)) H1
theorem Zk1 {op} {t:TE} (h:PE X a t):PE X (.BoolOp op [a] pos) t:=fun pins s σ H Q I hw=>BoolOp_one (h pins s σ H Q I hw)
theorem Zkv (ha:PE X a ta) (hb:PE X (.BoolOp .And (b :: rest) pos) tb):PE X (.BoolOp .And (a :: b :: rest) pos) (tAndV ta tb):=by
 intro pins s σ H Q I h
 refine BoolOp_and (thn (ha pins s σ H _ I h) fun v s1 ⟨x,H1,I1,r1,q1⟩=>?_)
 obtain ⟨c,rfl,q1⟩:=q1
 cases r1
 refine wpAny_truthy_bool ?_
 cases c with
 | true=>exact hb pins s1 σ H1 Q I1 q1
 | false=>exact ⟨.bl false,H1,I1,rfl,q1⟩
theorem Zoh (ha:PE X a ta):PE X (.UnaryOp .Not a pos) (tNotV ta):=by
 intro pins s σ H Q I h
 refine UnaryOp_ (thn (ha pins s σ H _ I h) fun v s1 ⟨x,H1,I1,r1,q1⟩=>?_)
 obtain ⟨c,rfl,q1⟩:=q1
 cases r1
 exact not_of (wpAny_truthy_bool ⟨.bl (!c),H1,I1,rfl,q1⟩)
end
end L2
namespace L2
open PySem PySem.Spec PyProof.Rows
noncomputable def SqL (K:PySem.W.Frag) (H:Hp) (a:Addr) (xs:List V):Prop:=
 Rd H a (.lst xs) ∨
  ∃ (o:Obj) (its:Array Value) (n:Nat),K.lookup a=some o/\o.cls=.type "list" /\ o.dict=none/\o.data=.seq its n/\its.size<=sizeLine/\Vals xs its.toList
noncomputable def SqT (K:PySem.W.Frag) (H:Hp) (a:Addr) (xs:List V):Prop:=
 Rd H a (.tup xs) ∨
  ∃ (o:Obj) (its:Array Value) (n:Nat),K.lookup a=some o/\o.cls=.type "tuple" /\ o.data=.seq its n/\its.size<=sizeLine/\Vals xs its.toList
noncomputable def absV:Value->Option V
 | .none=>some .non
 | .bool b=>some (.bl b)
 | .int i _=>some (.int i)
 | .str x _=>some (.str x)
 | .bytes b _=>some (.byt b)
 | .float b _=>some (.flt b)
 | .ref a=>some (.ref a)
 | .type n=>some (.ty n)
 | _=>none
theorem RelV.abs {x:V} {u:Value} (r:RelV x u):absV u=some x:=by
 cases x with
 | non=>cases r; rfl
 | bl _=>cases r; rfl
 | int _=>obtain ⟨t,rfl⟩:=r; rfl
 | str _=>obtain ⟨t,rfl⟩:=r; rfl
 | byt _=>obtain ⟨t,rfl⟩:=r; rfl
 | flt _=>obtain ⟨t,rfl⟩:=r; rfl
 | ref _=>cases r; rfl
 | ty _=>cases r; rfl
theorem RelV.inj {x y:V} {u:Value} (r:RelV x u) (q:RelV y u):x=y:=Wat.inj (r.abs.symm.trans q.abs)
theorem Vals.inj:∀ {xs ys:List V} {us:List Value},Vals xs us->Vals ys us->xs=ys
 | _,_,_,.nil,.nil=>rfl
 | _,_,_,.cons r t,.cons r' t'=>by rw [r.inj r',Vals.inj t t']
section
variable {X:Cx} {pins:List (Addr × Obj)} {σ:St} {H:Hp} {s:Shared} {a:Addr} {xs ys:List V}
theorem SqL.of {K:PySem.W.Frag} (h:H a=some (.lst xs)):SqL K H a xs:=.inl (.inl h)
theorem SqT.of {K:PySem.W.Frag} (h:H a=some (.tup xs)):SqT K H a xs:=.inl (.inl h)
theorem Inv.list (I:Inv X pins σ H s) (h:SqL X.K H a xs):∃ its:List Value,Vals xs its/\PlainL s.heap a its.toArray/\xs.length<=sizeLine:=by
 rcases h with h | ⟨o,its,n,hk,hc,hd,hs,hz,r⟩
 ·obtain ⟨z,its,n,r,e⟩:=h.ok I.hok
  exact ⟨its,r,⟨_,n,e,rfl,rfl,rfl⟩,z⟩
 ·refine ⟨its.toList,r,⟨o,n,I.kIn a o hk,hc,hd,by simpa using hs⟩,?_⟩
  have e:=r.length
  simp only [Array.length_toList] at e
  omega
theorem Inv.tuple (I:Inv X pins σ H s) (h:SqT X.K H a xs):∃ its:List Value,Vals xs its/\IsTup s.heap a its.toArray/\xs.length<=sizeLine:=by
 rcases h with h | ⟨o,its,n,hk,hc,hs,hz,r⟩
 ·obtain ⟨z,its,r,p⟩:=h.ok I.hok
  exact ⟨its,r,p.tup,z⟩
 ·refine ⟨its.toList,r,⟨o,I.kIn a o hk,hc,n,by simpa using hs⟩,?_⟩
  have e:=r.length
  simp only [Array.length_toList] at e
  omega
theorem Inv.list_inj (I:Inv X pins σ H s) (h:SqL X.K H a xs) (h':SqL X.K H a ys):xs=ys:=by
 obtain ⟨its,r,⟨o,n,e,_,_,d⟩,_⟩:=I.list h
 obtain ⟨its',r',⟨o',n',e',_,_,d'⟩,_⟩:=I.list h'
 rw [e] at e'; cases e'
 rw [d] at d'
 injection d' with d1 _
 have:its=its':=by simpa using congrArg Array.toList d1
 subst this
 exact r.inj r'
theorem Inv.tuple_inj (I:Inv X pins σ H s) (h:SqT X.K H a xs) (h':SqT X.K H a ys):xs=ys:=by
 obtain ⟨its,r,⟨o,e,_,n,d⟩,_⟩:=I.tuple h
 obtain ⟨its',r',⟨o',e',_,n',d'⟩,_⟩:=I.tuple h'
 rw [e] at e'; cases e'
 rw [d] at d'
 injection d' with d1 _
 have:its=its':=by simpa using congrArg Array.toList d1
 subst this
 exact r.inj r'
end
noncomputable abbrev Cx.wish (X:Cx) (E:Value->Shared->Prop):Cx:={ X with xe:=E }
noncomputable abbrev Cx.nox (X:Cx):Cx:=X.wish fun _ _=>False
theorem Cx.Ok.wish {X:Cx} (ok:X.Ok) (E:Value->Shared->Prop):(X.wish E).Ok:=
 ⟨ok.mod,ok.kind,ok.glob,ok.blt,ok.above,ok.inj,ok.has,ok.cab,ok.hd,ok.frames,ok.stk,ok.exf,ok.bs,ok.bsz,ok.noex,ok.exfs,ok.funs,ok.frf⟩
theorem Cx.Ok.unwish {X:Cx} {E:Value->Shared->Prop} (ok:(X.wish E).Ok):X.Ok:=
 ⟨ok.mod,ok.kind,ok.glob,ok.blt,ok.above,ok.inj,ok.has,ok.cab,ok.hd,ok.frames,ok.stk,ok.exf,ok.bs,ok.bsz,ok.noex,ok.exfs,ok.funs,ok.frf⟩
section
variable {X:Cx} {pins:List (Addr × Obj)} {σ:St} {H:Hp} {s:Shared} {E:Value->Shared->Prop}
theorem Inv.wish (I:Inv X pins σ H s) (E:Value->Shared->Prop):Inv (X.wish E) pins σ H s:=⟨I.ok.wish E,I.os,I.bare,I.base,I.loc,I.cell,I.free,I.freeC,I.pin,I.hok,I.len⟩
theorem Inv.unwish (I:Inv (X.wish E) pins σ H s):Inv X pins σ H s:=⟨I.ok.unwish,I.os,I.bare,I.base,I.loc,I.cell,I.free,I.freeC,I.pin,I.hok,I.len⟩
theorem SP.unwish {D:Ends} {f:Flow} {s':Shared} (h:SP (X.wish E) pins D f s'):SP X pins D f s':=by
 cases f with
 | next=>obtain ⟨σ',H',I,q⟩:=h; exact ⟨σ',H',I.unwish,q⟩
 | brk=>obtain ⟨σ',H',I,q⟩:=h; exact ⟨σ',H',I.unwish,q⟩
 | cont=>obtain ⟨σ',H',I,q⟩:=h; exact ⟨σ',H',I.unwish,q⟩
 | ret u=>obtain ⟨v,σ',H',I,r,q⟩:=h; exact ⟨v,σ',H',I.unwish,r,q⟩
theorem PSs.nox {st:List Stmt} {t:TS} (h:PSs X.nox st t):PSs X st t:=fun pins s σ H D I hw=>
 wpAny_mono (h pins s σ H D (I.wish _) hw) (fun _ _ q=>q.unwish) fun _ _ z=>False.elim z
end
section
variable {X:Cx} {st:Stmt} {rest:List Stmt} {t u:TS} {e:Expr} {te:TE} {pos:Pos}
noncomputable def tNext:TS:=fun D σ H=>D.nx σ H
noncomputable def tSeq (t u:TS):TS:=fun D σ H=>t { D with nx:=u D } σ H
theorem Za8:PSs X [] tNext:=fun _ _ σ H _ I h=>wpAny_execs_nil ⟨σ,H,I,h⟩
theorem Zag (h1:PS X st t) (h2:PSs X rest u):PSs X (st :: rest) (tSeq t u):=by
 intro pins s σ H D I h
 refine wpAny_execs_cons (thn (h1 pins s σ H { D with nx:=u D } I h) fun f s1 q=>?_)
 cases f with
 | next=>
  obtain ⟨σ',H',I',q⟩:=q
  exact h2 pins s1 σ' H' D I' q
 | ret v=>exact q
 | brk=>exact q
 | cont=>exact q
theorem Zal (h1:PS X st t):PSs X [st] t:=by
 intro pins s σ H D I h
 refine wpAny_execs_cons (thn (h1 pins s σ H D I h) fun f s1 q=>?_)
 cases f with
 | next=>exact wpAny_execs_nil q
 | ret v=>exact q
 | brk=>exact q
 | cont=>exact q
theorem Inv.quiet {pins:List (Addr × Obj)} {σ:St} {H:Hp} {s:Shared} (I:Inv X pins σ H s):interactive X.env=false:=by simp [interactive,I.ok.kind]
noncomputable def tDrop (te:TE):TS:=fun D σ H=>te σ H fun _ H1=>D.nx σ H1
theorem Zcr (he:PE X e te) (hs:swapsWith e none pos.line X.env=pure false:=by rfl):PS X (.Expr e pos) (tDrop te):=by
 intro pins s σ H D I h
 exact wpAny_Expr_any (thn (he pins s σ H _ I h) fun v s1 ⟨x,H1,I1,r1,q1⟩=>⟨σ,H1,I1,q1⟩) I.quiet hs
noncomputable def tRet (te:TE):TS:=fun D σ H=>te σ H D.rt
theorem Za1 (he:PE X e te):PS X (.Return (some e) pos) (tRet te):=by
 intro pins s σ H D I h
 exact wpAny_Return_some (thn (he pins s σ H _ I h) fun v s1 ⟨x,H1,I1,r1,q1⟩=>⟨x,σ,H1,I1,r1,q1⟩)
noncomputable def tIfS (c:TT) (t u:TS):TS:=fun D σ H=>c σ H fun b H1=>if b=true then t D σ H1 else u D σ H1
theorem Zck {c:Expr} {a b:List Stmt} {tc:TT} (hc:PT X c tc) (ha:PSs X a t) (hb:PSs X b u):PS X (.If c a b pos) (tIfS tc t u):=by
 intro pins s σ H D I h
 refine wpAny_If (thn (hc pins s σ H _ I h) fun d s1 ⟨H1,I1,q1⟩=>?_)
 cases d with
 | true=>exact ha pins s1 σ H1 D I1 q1
 | false=>exact hb pins s1 σ H1 D I1 q1
end
noncomputable abbrev TG:=V->St->Hp->(St->Hp->Prop)->Prop
noncomputable abbrev TGs:=List V->St->Hp->(St->Hp->Prop)->Prop
noncomputable def PG (X:Cx) (target:Expr) (t:TG):Prop:=
 ∀ (pins:List (Addr × Obj)) (s:Shared) (σ:St) (H:Hp) (v:V) (u:Value) (Q:St->Hp->Prop),Inv X pins σ H s->RelV v u->t v σ H Q →
  wpAny (model X.prog X.w) X.A (assign target X.env u) (fun _ s'=>∃ σ' H',Inv X pins σ' H' s' /\ Q σ' H') X.xe s
noncomputable def PGs (X:Cx) (ts:List Expr) (t:TGs):Prop:=
 ∀ (pins:List (Addr × Obj)) (s:Shared) (σ:St) (H:Hp) (vs:List V) (us:List Value) (Q:St->Hp->Prop),Inv X pins σ H s->Vals vs us->t vs σ H Q →
  wpAny (model X.prog X.w) X.A (assignInOrder ((assignEach ts X.env).map (·.2)) us) (fun _ s'=>∃ σ' H',Inv X pins σ' H' s' /\ Q σ' H') X.xe s
noncomputable abbrev TSet:=V->V->V->Hp->(Hp->Prop)->Prop
noncomputable def PSet (X:Cx) (t:TSet):Prop:=
 ∀ (pins:List (Addr × Obj)) (s:Shared) (σ:St) (H:Hp) (o i v:V) (ov iv u:Value) (Q:Hp->Prop),Inv X pins σ H s->RelV o ov->RelV i iv->RelV v u->t o i v H Q →
  wpAny (model X.prog X.w) X.A (setItem ov iv u) (fun _ s'=>∃ H',Inv X pins σ H' s' /\ Q H') X.xe s
section
variable {X:Cx} {pos:Pos}
noncomputable def gName (i:Nat):TG:=fun v σ H Q=>Q (σ.set i (some v)) H
theorem Zbb {i:Nat} {x:Str} (hN:X.N.Nodup) (hi:X.N[i]? = some x) (hx:Loc X.env.scope x) (hf:X.fn x=true\/X.env.scope.names.lookup x=some .local:=by first | exact .inl rfl | exact .inr rfl | assumption):PG X (.Name x pos) (gName i):=by
 intro pins s σ H v u Q I r h
 exact wpAny_assign_Name (Zc4 I hN hi hx r (fun s' I'=>⟨_,H,I',h⟩) hf)
noncomputable def gNil:TGs:=fun vs σ H Q=>vs=[]/\Q σ H
noncomputable def gCons (t:TG) (u:TGs):TGs:=fun vs σ H Q=>∃ v r,vs=v :: r/\t v σ H fun σ' H'=>u r σ' H' Q
theorem Zic:PGs X [] gNil:=by
 intro pins s σ H vs us Q I r h
 obtain ⟨e,h⟩:=h
 subst e
 cases r
 exact assignInOrder_nil ⟨σ,H,I,h⟩
theorem Zdk {e:Expr} {es:List Expr} {t:TG} {u:TGs} (h1:PG X e t) (h2:PGs X es u)
  (hs:(assignEach (e :: es) X.env).map (·.2)=assign e X.env :: (assignEach es X.env).map (·.2):=by rfl):PGs X (e :: es) (gCons t u):=by
 intro pins s σ H vs us Q I r h
 obtain ⟨v,vr,e1,h⟩:=h
 subst e1
 cases r with
 | cons r rr=>
  rw [hs]
  refine assignInOrder_cons (thn (h1 pins s σ H _ _ _ I r h) fun _ s1 ⟨σ1,H1,I1,q1⟩=>?_)
  exact h2 pins s1 σ1 H1 _ _ Q I1 rr q1
noncomputable def gTup (K:PySem.W.Frag) (n:Nat) (t:TGs):TG:=fun v σ H Q=>∃ a xs,v=.ref a/\SqT K H a xs/\xs.length=n/\t xs σ H Q
theorem Znz {es:List Expr} {k:Nat} {t:TGs} {n:Nat} (hc:X.calm=true) (h:PGs X es t)
  (hn:(assignEach es X.env).length=n:=by rfl) (hst:(assignEach es X.env).findIdx? (·.1)=none:=by rfl):PG X (.Tuple es k pos) (gTup X.K n t):=by
 intro pins s σ H v u Q I r hw
 obtain ⟨a,xs,e1,hq,hl,hw⟩:=hw
 subst e1
 cases r
 obtain ⟨its,rv,ht,hz⟩:=I.tuple hq
 refine assign_Tuple_tuple (I.ok.hd hc) ht (by simp [hn,<- hl,rv.length]) hst fun h' hx=>?_
 have I1:Inv X pins σ H { s with heap:=h' }:=I.kept (t':=s.toks) fun b o e=>hx b o (Wa0 (Wal e)) e
 exact h pins _ σ H xs _ Q I1 (by simpa using rv) hw
noncomputable def gSub (to ti:TE) (t:TSet):TG:=fun v σ H Q=>to σ H fun o H1=>ti σ H1 fun i H2=>t o i v H2 fun H3=>Q σ H3
theorem Zhl {o i:Expr} {to ti:TE} {t:TSet} (ho:PE X o to) (hi:PE X i ti) (hs:PSet X t)
  (ha:∀ v,assign (.Subscript o i pos) X.env v=(do
   let ov ← holding [v] (eval o X.env)
   let iv ← holding [v,ov] (eval i X.env)
   standAt pos
   holding [v,ov,iv] (setItem ov iv v)
   release [v,ov,iv] []):=by intro _; rfl):PG X (.Subscript o i pos) (gSub to ti t):=by
 intro pins s σ H v u Q I r h
 rw [ha]
 refine wpAny_bind (wpAny_holding (thn (ho pins s σ H _ I h) fun ov s1 ⟨x,H1,I1,r1,q1⟩=>?_))
 refine wpAny_bind (wpAny_holding (thn (hi pins s1 σ H1 _ I1 q1) fun iv s2 ⟨y,H2,I2,r2,q2⟩=>?_))
 refine wpAny_bind (wpAny_standAt (wpAny_bind (wpAny_holding (thn (hs pins s2 σ H2 x y v ov iv u _ I2 r1 r2 r q2) fun _ s3 ⟨H3,I3,q3⟩=>?_))))
 exact wpAny_release ⟨σ,H3,I3,q3⟩
noncomputable def tAsg (te:TE) (g:TG):TS:=fun D σ H=>te σ H fun x H1=>g x σ H1 D.nx
theorem Zgq {tg e:Expr} {te:TE} {g:TG} (he:PE X e te) (hg:PG X tg g) (hs:swapsWithSole [tg] e pos.line X.env=pure false:=by rfl) (hw:swappedStores [tg] e X.env=pure none:=by rfl)
  (h1:(assignEach [tg] X.env).map (·.2)=[assign tg X.env]:=by rfl):PS X (.Assign [tg] e pos) (tAsg te g):=by
 intro pins s σ H D I h
 refine wpAny_Assign_stores (thn (he pins s σ H _ I h) fun v s1 ⟨x,H1,I1,r1,q1⟩=>?_) hs hw
 rw [h1]
 exact thn (hg pins s1 σ H1 x v _ I1 r1 q1) fun _ s2 q=>q
theorem Zar {i:Nat} {x:Str} {e:Expr} {te:TE} {pos':Pos} (hN:X.N.Nodup) (hi:X.N[i]? = some x) (hx:Loc X.env.scope x) (he:PE X e te) (hs:swapsWith e (some (.Name x pos')) pos.line X.env=pure false:=by rfl) (hf:X.fn x=true\/X.env.scope.names.lookup x=some .local:=by first | exact .inl rfl | exact .inr rfl | assumption) :
  PS X (.Assign [.Name x pos'] e pos) (tAsg te (gName i)):=by
 intro pins s σ H D I h
 refine wpAny_Assign_Name (thn (he pins s σ H _ I h) fun v s1 ⟨y,H1,I1,r1,q1⟩=>?_) hs
 exact Zc4 I1 hN hi hx r1 (fun s2 I2=>⟨_,H1,I2,q1⟩) hf
noncomputable def tPar (i j:Nat) (ta:TA):TS:=fun D σ H=>ta σ H fun vs H1=>∃ v w,vs=[v,w]/\D.nx ((σ.set i (some v)).set j (some w)) H1
theorem Zkk {i j:Nat} {x y:Str} {a b:Expr} {ta:TA} {px py pt:Pos} {kt k2 pt2} (hc:X.calm=true) (hN:X.N.Nodup) (hi:X.N[i]? = some x) (hj:X.N[j]? = some y) (hij:i ≠ j)
  (hx:X.env.scope.names.lookup x=some .local) (hy:X.env.scope.names.lookup y=some .local) (ha:PA X [a,b] ta)
  (hw:swappedStores [.Tuple [.Name x px,.Name y py] kt pt] (.Tuple [a,b] k2 pt2) X.env=pure (some [x,y]))
  (hs:swapsWithSole [.Tuple [.Name x px,.Name y py] kt pt] (.Tuple [a,b] k2 pt2) pos.line X.env=pure false:=by rfl) :
  PS X (.Assign [.Tuple [.Name x px,.Name y py] kt pt] (.Tuple [a,b] k2 pt2) pos) (tPar i j ta):=by
 intro pins s σ H D I h
 rw [exec_Assign_arm]
 refine wpAny_bind (wpAny_standAt ?_)
 rw [hs]
 refine wpAny_bind (wpAny_pure ?_)
 rw [if_neg (by decide)]
 refine wpAny_bind (Tuple_ (thn (ha _ pins s σ H _ I h) fun us s1 ⟨vs,H1,I1,r1,q1⟩=>?_))
 obtain ⟨v,w,e1,q1⟩:=q1
 subst e1
 obtain ⟨u1,u2,rfl,rv,rw'⟩:∃ u1 u2,us=[u1,u2]/\RelV v u1/\RelV w u2:=by
  cases r1 with
  | cons p q=>
   cases q with
   | cons p' q'=>
    cases q'
    exact ⟨_,_,rfl,p,p'⟩
 refine wpAny_newObj_type ?_ (by show 2<=sizeLine; decide)
 have I2:Inv X pins σ H1 { s1 with heap:=s1.heap.push { cls:=.type "tuple",data:=.seq [u1,u2].toArray } }:=I1.kept (t':=s1.toks) fun b o e=>Wad _ e
 rw [hw]
 refine wpAny_bind (wpAny_pure ?_)
 show wpAny (model X.prog X.w) X.A (do rule "assign.swapped-stores"; let items ← unpackItems (.ref s1.heap.objs.size) 2 none; assignInOrder [fun v=>bindName X.env y v,fun v=>bindName X.env x v] items.reverse; pure Flow.next) _ _ _
 refine wpAny_bind (wpAny_rule (wpAny_bind (unpackItems_tuple (items:=#[u1,u2]) (I.ok.hd hc) (IsTup.new s1.heap _) fun h' hx'=>?_)))
 have I3:=I2.kept (h':=h') (t':=s1.toks) fun b o e=>hx' b o (Wa0 (Wal e)) e
 show wpAny _ _ (assignInOrder [fun v=>bindName X.env y v,fun v=>bindName X.env x v] [u2,u1] >>= fun _=>pure Flow.next) _ _ _
 refine wpAny_bind (assignInOrder_cons (wpAny_bindName (Zc4 I3 hN hj (.inl hy) rw' (fun s2 I4=>?_) (.inr hy))))
 refine assignInOrder_cons (wpAny_bindName (Zc4 I4 hN hi (.inl hx) rv (fun s3 I5=>assignInOrder_nil (wpAny_pure ?_)) (.inr hx)))
 rw [List.set_comm _ _ (Ne.symm hij)] at I5
 exact ⟨_,H1,I5,q1⟩
end
structure It where
 go:Nat->Hp->Prop
 yld:Nat->Hp->V->Hp->Prop
 stop:Nat->Hp->Prop
noncomputable def FpOk (X:Cx) (pins:List (Addr × Obj)) (H:Hp) (b:Addr):Prop:=
 H b=none/\b ≠ X.env.locals/\b ∉ X.fs/\(b ∈ X.ex\/X.s₀.heap.objs.size<=b)/\(∀ x c,X.env.cells.lookup x=some c->c ≠ b)/\∀ p ∈ X.pn ++ pins,p.1 ≠ b
theorem Inv.fpOk {X:Cx} {pins:List (Addr × Obj)} {σ:St} {H H':Hp} {s:Shared} {b:Addr} (I:Inv X pins σ H s) (hb:s.heap.objs.size<=b) (hn:H' b=none):FpOk X pins H' b:=by
 refine ⟨hn,Nat.ne_of_gt (Wan I.lt hb),I.nofs hb,.inr (Wa6 I.sz hb),fun x c e z=>?_,fun p hp z=>?_⟩
 ·obtain ⟨v,q⟩:=I.cell x c e
  exact absurd (Wan q.lt (by rw [z]; exact hb)) (Wb2 _)
 ·exact absurd (Wan (Wal (I.pin p hp).1) (by rw [z]; exact hb)) (Wb2 _)
structure TurnG (Cm:Cx->Prop) (P:Program) (w:World) (K:PySem.W.Frag) (tg:Expr) (J:It) (fp:List Addr) (it:Addr) (tn:Nat->Heap->Prop):Prop where
 mem:it ∈ fp
 obj:∀ i h,tn i h->∀ b ∈ fp,∃ o,h.get? b=some o/\∀ v,o.data ≠ .cell v
 keep:∀ i h h',tn i h->(∀ b ∈ fp,∀ o,h.get? b=some o->h'.get? b=some o)->tn i h'
 item:∀ (X:Cx),X.prog=P->X.w=w->X.K=K->Cm X->∀ (i:Nat) (pins:List (Addr × Obj)) (s:Shared) (σ:St) (H:Hp) (E:Value->Shared->Prop),Inv X pins σ H s->(∀ b ∈ fp,FpOk X pins H b)->tn i s.heap->J.go i H →
  wpAny (model P w) X.A (pyNext (.ref it)) (fun r s1=>∃ u,r=some u ∧
   wpAny (model P w) X.A (letOwnedTupleGo tg (.ref it) u) (fun _ s2=>∃ x H',Inv X pins σ H' s2/\RelV x u/\J.yld i H x H' /\ tn (i + 1) s2.heap/\∀ b ∈ fp,H' b=none) E s1) E s
 done:∀ (X:Cx),X.prog=P->X.w=w->X.K=K->Cm X->∀ (i:Nat) (pins:List (Addr × Obj)) (s:Shared) (σ:St) (H:Hp) (E:Value->Shared->Prop),Inv X pins σ H s->(∀ b ∈ fp,FpOk X pins H b)->tn i s.heap->J.stop i H →
  wpAny (model P w) X.A (pyNext (.ref it)) (fun r s1=>r=none/\Inv X pins σ H s1) E s
 self:∀ (A:Around) (i:Nat) (s:Shared) (Q:Value->Shared->Prop) (E:Value->Shared->Prop),tn i s.heap->Q (.ref it) s->wpAny (model P w) A (pyIter (.ref it)) Q E s
noncomputable abbrev Turn:=TurnG fun X=>X.calm=true
noncomputable abbrev TI:=St->Hp->(It->Hp->Prop)->Prop
noncomputable def PIEG (Cm:Cx->Prop) (X:Cx) (pins:List (Addr × Obj)) (σ:St) (tg:Expr) (R:It->Hp->Prop) (itv:Value) (s2:Shared):Prop:=
 ∃ (it:Addr) (fp:List Addr) (tn:Nat->Heap->Prop) (J:It) (H':Hp),itv=.ref it/\Inv X pins σ H' s2/\TurnG Cm X.prog X.w X.K tg J fp it tn/\tn 0 s2.heap/\(∀ b ∈ fp,FpOk X pins H' b)/\R J H'
noncomputable def PIG (Cm:Cx->Prop) (X:Cx) (tg iter:Expr) (wi:TI):Prop:=
 ∀ (pins:List (Addr × Obj)) (s:Shared) (σ:St) (H:Hp) (R:It->Hp->Prop),Inv X pins σ H s->wi σ H R →
  wpAny (model X.prog X.w) X.A (eval iter X.env) (fun v s1=>wpAny (model X.prog X.w) X.A (pyIter v) (PIEG Cm X pins σ tg R) X.xe s1) X.xe s
noncomputable abbrev PIE:=PIEG fun X=>X.calm=true
noncomputable abbrev PI:=PIG fun X=>X.calm=true
theorem Zjd {M:Model} {A:Around} {E:Value->Shared->Prop} {s:Shared} {tg:Expr} {it:Addr} {u:Value} {o:Obj} {n:String} {vs:Array Value} {Q:Unit->Shared->Prop} (ho:s.heap.get? it=some o) (hc:o.cls=.type n) (hd:o.data=.fields vs)
  (hn:["enumerate","zip","dict_itemiterator","dict_reverseitemiterator","odict_iterator","itertools.zip_longest","itertools.pairwise"].contains n=false) (hQ:Q () s):wpAny M A (letOwnedTupleGo tg (.ref it) u) Q E s:=by
 unfold letOwnedTupleGo
 cases tg <;> first
  | exact wpAny_pure hQ
  | (cases u <;> first
      | exact wpAny_pure hQ
      | (refine wpAny_bind (wpAny_load ho ?_)
         rw [hc,hd]
         show wpAny M A (if (["enumerate","zip","dict_itemiterator","dict_reverseitemiterator","odict_iterator","itertools.zip_longest","itertools.pairwise"].contains n && vs[0]? == some (rawInt _))=true then _ else _) Q E s
         rw [if_neg (by intro h; rw [hn,Bool.false_and] at h; cases h)]
         exact wpAny_pure hQ))
noncomputable def Itl (K:PySem.W.Frag) (a:Addr):It:=
 ⟨fun i H=>∃ xs x,SqL K H a xs/\xs[i]? = some x,fun i H x H'=>H' = H/\∀ xs,SqL K H a xs->xs[i]? = some x,fun i H=>∃ xs,SqL K H a xs/\xs.length<=i⟩
noncomputable def Itt (K:PySem.W.Frag) (a:Addr):It:=
 ⟨fun i H=>∃ xs x,SqT K H a xs/\xs[i]? = some x,fun i H x H'=>H' = H/\∀ xs,SqT K H a xs->xs[i]? = some x,fun i H=>∃ xs,SqT K H a xs/\xs.length<=i⟩
noncomputable def Itr (lo:Int) (n:Nat):It:=⟨fun i _=>i < n,fun i H x H'=>H' = H/\x=.int (lo + i),fun i _=>n<=i⟩
theorem Zhx {P:Program} {w:World} {K:PySem.W.Frag} {tg:Expr} (a it:Addr):Turn P w K tg (Itl K a) [it] it (fun i h=>h.IsListIter it a i) where
 mem:=by simp
 obj:=fun i h st b hb=>by
  have e:b=it:=by simpa using hb
  subst e
  obtain ⟨o,e,c,d⟩:=st
  exact ⟨o,e,fun v z=>by rw [d] at z; cases z⟩
 keep:=fun i h h' st k=>st.at fun o e=>k it (by simp) o e
 item:=by
  intro X hP hw hK hc i pins s σ H E I hf st hg
  subst hP hw hK
  obtain ⟨xs,x,hq,hx⟩:=hg
  obtain ⟨its,rv,p,hz⟩:=I.list hq
  obtain ⟨u,hu,ru⟩:=rv.get hx
  obtain ⟨f0,f1,f2,f3,f4,f5⟩:=hf it (by simp)
  refine wpAny_pyNext_list_item st p.isList (x:=u) (by simpa using hu) fun h' st' sb=>?_
  have I1:Inv X pins σ H { s with heap:=h' }:=I.turned (t':=s.toks) (fun b o hb e=>(sb.2 b hb).trans e) f0 f1 f3 f4 f5
  obtain ⟨o,e,c,d⟩:=id st'
  exact ⟨u,rfl,Zjd (s:={ s with heap:=h' }) e c d (by decide) ⟨x,H,I1,ru,⟨rfl,fun ys hy=>by rw [I.list_inj hy hq]; exact hx⟩,st',fun b hb=>(hf b hb).1⟩⟩
 done:=by
  intro X hP hw hK hc i pins s σ H E I hf st hg
  subst hP hw hK
  obtain ⟨xs,hq,hx⟩:=hg
  obtain ⟨its,rv,p,hz⟩:=I.list hq
  obtain ⟨f0,f1,f2,f3,f4,f5⟩:=hf it (by simp)
  have hl:=rv.length
  exact wpAny_pyNext_list_end (I.ok.hd hc) st p.isList (by simp; omega) fun h' eb=>⟨rfl,I.turned (t':=s.toks) (fun b o hb e=>eb b o hb e) f0 f1 f3 f4 f5⟩
 self:=fun _ _ _ _ _ st h=>wpAny_pyIter_listiter st h
theorem Zg1 {P:Program} {w:World} {K:PySem.W.Frag} {tg:Expr} (a it:Addr):Turn P w K tg (Itt K a) [it] it (fun i h=>h.IsTupleIter it a i) where
 mem:=by simp
 obj:=fun i h st b hb=>by
  have e:b=it:=by simpa using hb
  subst e
  obtain ⟨o,e,c,d⟩:=st
  exact ⟨o,e,fun v z=>by rw [d] at z; cases z⟩
 keep:=fun i h h' st k=>st.at fun o e=>k it (by simp) o e
 item:=by
  intro X hP hw hK hc i pins s σ H E I hf st hg
  subst hP hw hK
  obtain ⟨xs,x,hq,hx⟩:=hg
  obtain ⟨its,rv,p,hz⟩:=I.tuple hq
  obtain ⟨u,hu,ru⟩:=rv.get hx
  obtain ⟨f0,f1,f2,f3,f4,f5⟩:=hf it (by simp)
  refine wpAny_pyNext_tuple_item st (show s.heap.IsTuple a its.toArray from p) (x:=u) (by simpa using hu) fun h' st' sb=>?_
  have I1:Inv X pins σ H { s with heap:=h' }:=I.turned (t':=s.toks) (fun b o hb e=>(sb.2 b hb).trans e) f0 f1 f3 f4 f5
  obtain ⟨o,e,c,d⟩:=id st'
  exact ⟨u,rfl,Zjd (s:={ s with heap:=h' }) e c d (by decide) ⟨x,H,I1,ru,⟨rfl,fun ys hy=>by rw [I.tuple_inj hy hq]; exact hx⟩,st',fun b hb=>(hf b hb).1⟩⟩
 done:=by
  intro X hP hw hK hc i pins s σ H E I hf st hg
  subst hP hw hK
  obtain ⟨xs,hq,hx⟩:=hg
  obtain ⟨its,rv,p,hz⟩:=I.tuple hq
  obtain ⟨f0,f1,f2,f3,f4,f5⟩:=hf it (by simp)
  have hl:=rv.length
  exact wpAny_pyNext_tuple_end (I.ok.hd hc) st (show s.heap.IsTuple a its.toArray from p) (by simp; omega) fun h' eb=>⟨rfl,I.turned (t':=s.toks) (fun b o hb e=>eb b o hb e) f0 f1 f3 f4 f5⟩
 self:=fun _ _ _ _ _ st h=>wpAny_pyIter_tupleiter st h
theorem Zg2 {P:Program} {w:World} {K:PySem.W.Frag} {tg:Expr} (it:Addr) (lo:Int) (n:Nat):Turn P w K tg (Itr lo n) [it] it (fun i h=>IsRangeIter h it (lo + (i:Nat) * 1) ((n:Int) - (i:Nat)) 1) where
 mem:=by simp
 obj:=fun i h st b hb=>by
  have e:b=it:=by simpa using hb
  subst e
  exact ⟨_,st,fun v z=>by
   have z':Data.fields _=Data.cell v:=z
   cases z'⟩
 keep:=fun i h h' st k=>k it (by simp) _ st
 item:=by
  intro X hP hw hK hc i pins s σ H E I hf st hg
  subst hP hw hK
  obtain ⟨f0,f1,f2,f3,f4,f5⟩:=hf it (by simp)
  have W:=Walks.range (prog:=X.prog) (w:=X.w) (I.ok.hd hc) it lo 1 n
  refine W.item i s _ _ hg st fun v h' tk hv st' kk=>?_
  obtain ⟨t,rfl⟩:=hv
  have I1:Inv X pins σ H { s with heap:=h',toks:=tk }:=I.turned (fun b o hb e=>kk b o (by simpa using hb) e) f0 f1 f3 f4 f5
  refine ⟨_,rfl,Zjd (s:={ s with heap:=h',toks:=tk }) (n:="range_iterator") st' rfl rfl (by decide) ⟨.int (lo + i),H,I1,⟨t,?_⟩,⟨rfl,rfl⟩,st',fun b hb=>(hf b hb).1⟩⟩
  rw [Int.mul_one]
 done:=by
  intro X hP hw hK hc i pins s σ H E I hf st hg
  subst hP hw hK
  obtain ⟨f0,f1,f2,f3,f4,f5⟩:=hf it (by simp)
  exact wpAny_pyNext_range_end (I.ok.hd hc) st (by have:n<=i:=hg; omega) fun h' eb=>⟨rfl,I.turned (t':=s.toks) (fun b o hb e=>eb b o hb e) f0 f1 f3 f4 f5⟩
 self:=fun _ _ _ _ _ st h=>wpAny_pyIter_rangeiter st h
end L2
namespace L2
open PySem PySem.Spec PyProof.Rows
section
variable {X:Cx} {tg:Expr}
noncomputable def iList (K:PySem.W.Frag) (tl:TE):TI:=fun σ H R=>tl σ H fun x H1=>∃ a,x=.ref a/\(∃ xs,SqL K H1 a xs)/\R (Itl K a) H1
noncomputable def iTup (K:PySem.W.Frag) (tl:TE):TI:=fun σ H R=>tl σ H fun x H1=>∃ a,x=.ref a/\(∃ xs,SqT K H1 a xs)/\R (Itt K a) H1
theorem Zlu {l:Expr} {tl:TE} (hl:PE X l tl):PI X tg l (iList X.K tl):=by
 intro pins s σ H R I h
 refine thn (hl pins s σ H _ I h) fun v s1 ⟨x,H1,I1,r1,q1⟩=>?_
 obtain ⟨a,e,⟨xs,hq⟩,q⟩:=q1
 subst e
 cases r1
 obtain ⟨its,rv,p,hz⟩:=I1.list hq
 refine wpAny_pyIter_list p.isList ?_
 refine ⟨s1.heap.objs.size,[s1.heap.objs.size],_,_,H1,rfl,I1.kept (t':=s1.toks) fun b o e=>Wad _ e,Zhx a _,⟨_,Wav _ rfl,rfl,rfl⟩,fun b hb=>?_,q⟩
 have e:b=s1.heap.objs.size:=by simpa using hb
 subst e
 exact I1.fpOk (Waj _) (I1.hok.fresh (Waj _))
theorem Zm5 {l:Expr} {tl:TE} (hl:PE X l tl):PI X tg l (iTup X.K tl):=by
 intro pins s σ H R I h
 refine thn (hl pins s σ H _ I h) fun v s1 ⟨x,H1,I1,r1,q1⟩=>?_
 obtain ⟨a,e,⟨xs,hq⟩,q⟩:=q1
 subst e
 cases r1
 obtain ⟨its,rv,p,hz⟩:=I1.tuple hq
 refine wpAny_pyIter_tuple (show s1.heap.IsTuple a its.toArray from p) ?_
 refine ⟨s1.heap.objs.size,[s1.heap.objs.size],_,_,H1,rfl,I1.kept (t':=s1.toks) fun b o e=>Wad _ e,Zg1 a _,⟨_,Wav _ rfl,rfl,rfl⟩,fun b hb=>?_,q⟩
 have e:b=s1.heap.objs.size:=by simpa using hb
 subst e
 exact I1.fpOk (Waj _) (I1.hok.fresh (Waj _))
theorem range_it {pins:List (Addr × Obj)} {σ:St} {H:Hp} {s:Shared} {R:It->Hp->Prop} {E:Value->Shared->Prop} {lo hi:Int} {t u v:Tok} {tk:Nat} (I:Inv X pins σ H s) (h1:-(2 ^ 62)<=lo) (h2:lo < 2 ^ 62) (h3:-(2 ^ 62)<=hi) (h4:hi < 2 ^ 62)
  (q:R (Itr lo (hi - lo).toNat) H):wpAny (model X.prog X.w) X.A (pyIter (.ref s.heap.objs.size)) (PIE X pins σ tg R) E { s with heap:=s.heap.push { cls:=.type "range",data:=.fields #[.int lo t,.int hi u,.int 1 v] },toks:=tk }:=by
 refine wpAny_pyIter_range (IsRange.new ..) (small_one h1 h2 h3 h4) ?_
 have I1:Inv X pins σ H { s with heap:=s.heap.push { cls:=.type "range",data:=.fields #[.int lo t,.int hi u,.int 1 v] },toks:=tk }:=I.kept fun b o e=>Wad _ e
 refine ⟨(s.heap.push { cls:=.type "range",data:=.fields #[.int lo t,.int hi u,.int 1 v] }).objs.size,[(s.heap.push { cls:=.type "range",data:=.fields #[.int lo t,.int hi u,.int 1 v] }).objs.size],_,_,H,rfl,
  I1.kept (t':=tk) fun b o e=>Wad _ e,Zg2 _ lo (hi - lo).toNat,?_,fun b hb=>?_,q⟩
 ·have e1:lo + ((0:Nat):Int) * 1=lo:=by simp
  have e2:(((hi - lo).toNat:Nat):Int) - ((0:Nat):Int)=Builtin.Range.rangeSize lo hi 1:=by rw [rangeSize_one]; split <;> omega
  show IsRangeIter _ _ (lo + ((0:Nat):Int) * 1) ((((hi - lo).toNat:Nat):Int) - ((0:Nat):Int)) 1
  rw [e1,e2]
  exact Wav _ rfl
 ·have e:b=(s.heap.push { cls:=.type "range",data:=.fields #[.int lo t,.int hi u,.int 1 v] }).objs.size:=by simpa using hb
  subst e
  exact I1.fpOk (Waj _) (I1.hok.fresh (Waj _))
noncomputable def iRng1 (ta:TA):TI:=fun σ H R=>ta σ H fun vs H1=>∃ j:Int,vs=[.int j] /\ -(2 ^ 62)<=j/\j < 2 ^ 62/\R (Itr 0 j.toNat) H1
theorem Zb1 {a:Expr} {ta:TA} {p pos:Pos} (hg:Gl X "range") (hm:X.mg "range" = none) (ha:PA X [a] ta) (hs:starEach [a] X.env=[(false,eval a X.env)]:=by rfl):PI X tg (.Call (.Name "range" p) [a] [] pos) (iRng1 ta):=by
 intro pins s σ H R I h
 refine Call_ (Zd4 I hg hm boot_range (PyProof.Rows.callWith_type1 (thn (ha pos pins s σ H _ I h) fun us s1 ⟨vs,H1,I1,r1,q1⟩=>?_) hs rfl))
 obtain ⟨j,e,q1,q2,q⟩:=q1
 subst e
 cases r1 with
 | cons r rr=>
  cases rr
  obtain ⟨t,rfl⟩:=r
  exact call_range_1 (range_it I1 (by omega) (by omega) q1 q2 (by simpa using q))
noncomputable def tFor (wi:TI) (g:TG) (tb:TS):TS:=fun D σ H=>wi σ H fun J H1=>∃ W:Nat->Nat->St->Hp->Prop,(∃ m,W 0 m σ H1)/\∀ i m σ H,W i m σ H →
 (J.stop i H/\D.nx σ H)\/(J.go i H/\∃ N:St->Hp->Prop,(∀ σ' H',N σ' H' -> ∃ m',m' < m/\W (i + 1) m' σ' H')/\∀ x H',J.yld i H x H' -> g x σ H' fun σ2 H2=>tb { D with nx:=N,ct:=N,bk:=D.nx } σ2 H2)
noncomputable def pinsAt (fp:List Addr) (h:Heap):List (Addr × Obj):=fp.filterMap fun b=>(h.get? b).map fun o=>(b,o)
theorem Zcg {fp:List Addr} {h:Heap} {b:Addr} {o:Obj} (hb:b ∈ fp) (e:h.get? b=some o):(b,o) ∈ pinsAt fp h:=List.mem_filterMap.mpr ⟨b,hb,by rw [e]; rfl⟩
theorem Zhs {fp:List Addr} {h:Heap} {p:Addr × Obj} (hp:p ∈ pinsAt fp h):p.1 ∈ fp/\h.get? p.1=some p.2:=by
 obtain ⟨b,hb,e⟩:=List.mem_filterMap.mp hp
 cases q:h.get? b with
 | none=>rw [q] at e; cases e
 | some o=>
  rw [q] at e
  have e':(b,o)=p:=Wat.inj e
  subst e'
  exact ⟨hb,q⟩
theorem Inv.pinned {pins:List (Addr × Obj)} {σ:St} {H:Hp} {s:Shared} {fp:List Addr} (I:Inv X pins σ H s) (hf:∀ b ∈ fp,FpOk X pins H b) (ho:∀ b ∈ fp,∃ o,s.heap.get? b=some o/\∀ v,o.data ≠ .cell v):Inv X (pins ++ pinsAt fp s.heap) σ H s:=
 I.pins_of fun p hp=>(Wbr.mp hp).elim (fun z=>I.pin p (War _ z)) fun z=>by
  obtain ⟨hb,e⟩:=Zhs z
  obtain ⟨f0,f1,f2,_⟩:=hf p.1 hb
  obtain ⟨o,e',d⟩:=ho p.1 hb
  rw [e] at e'; cases e'
  exact ⟨e,f0,f1,f2,d⟩
theorem Inv.unpinned {pins pl:List (Addr × Obj)} {σ:St} {H:Hp} {s:Shared} (I:Inv X (pins ++ pl) σ H s):Inv X pins σ H s:=I.pins_of fun p hp=>I.pin p (War _ (Wb7 _ hp))
theorem Zgp {iter:Expr} {body:List Stmt} {wi:TI} {g:TG} {tb:TS} {pos:Pos} (hp:PassesOwn (model X.prog X.w) X.A X.env X.xe) (hc:X.calm=true) (hi:PI X tg iter wi) (hg:PG X tg g) (hb:PSs X body tb)
  (hs:∀ x,foldedSetIterable iter X.env x=pure x:=by intro _; rfl):PS X (.For tg iter body [] pos) (tFor wi g tb):=by
 intro pins s σ H D I h
 refine wpAny_For (thn (hi pins s σ H _ I h) fun v s1 h1=>thn h1 fun itv s2 h2=>?_) hs
 obtain ⟨it,fp,tn,J,H2,e,I2,T,st2,f2,W,⟨m0,w0⟩,turn⟩:=h2
 subst e
 -- what stays true of the iterator's objects through the loop
 have stat:∀ {H':Hp},(∀ b ∈ fp,H' b=none)->∀ b ∈ fp,FpOk X pins H' b:=fun hn b hb=>⟨hn b hb,(f2 b hb).2⟩
 refine codeAny_forLoop_any (fun n s'=>∃ i σ' H',Inv X pins σ' H' s' /\ tn i s'.heap/\(∀ b ∈ fp,H' b=none)/\W i n σ' H') ?_ m0 ⟨0,σ,H2,I2,st2,fun b hb=>(f2 b hb).1,w0⟩
 rintro n s3 ⟨i,σ3,H3,I3,st3,fr3,w3⟩
 rcases turn i n σ3 H3 w3 with ⟨stop,qn⟩ | ⟨go,N,hN,step⟩
 ·refine wpAny_passesOwn hp (thn (T.done X rfl rfl rfl hc i pins s3 σ3 H3 X.xe I3 (stat fr3) st3 stop) fun r s4 ⟨hr,I4⟩=>?_)
  subst hr
  exact wpAny_execs_nil ⟨σ3,H3,I4,qn⟩
 ·refine wpAny_passesOwn hp (thn (T.item X rfl rfl rfl hc i pins s3 σ3 H3 X.xe I3 (stat fr3) st3 go) fun r s4 ⟨u,hr,h4⟩=>?_)
  subst hr
  refine wpAny_passesOwn hp (thn h4 fun _ s5 ⟨x,H5,I5,r5,y5,st5,fr5⟩=>?_)
  have I5':=I5.pinned (stat fr5) (T.obj _ _ st5)
  refine wpAny_passesOwn hp (thn (hg _ s5 σ3 H5 x u _ I5' r5 (step x H5 y5)) fun _ s6 ⟨σ6,H6,I6,q6⟩=>?_)
  refine wpAny_passesOwn hp (thn (hb _ s6 σ6 H6 _ I6 q6) fun f s7 q7=>?_)
  have again:∀ {σ7:St} {H7:Hp},Inv X (pins ++ pinsAt fp s5.heap) σ7 H7 s7->N σ7 H7->∃ m,m < n/\∃ i σ' H',Inv X pins σ' H' s7/\tn i s7.heap/\(∀ b ∈ fp,H' b=none)/\W i m σ' H':=fun {σ7 H7} I7 n7=>by
   obtain ⟨m',hm,w7⟩:=hN σ7 H7 n7
   refine ⟨m',hm,i + 1,σ7,H7,I7.unpinned,T.keep _ _ _ st5 fun b hb o e=>(I7.pin (b,o) (War _ (War _ (Zcg hb e)))).1,fun b hb=>?_,w7⟩
   obtain ⟨o,e,d⟩:=T.obj _ _ st5 b hb
   exact (I7.pin (b,o) (War _ (War _ (Zcg hb e)))).2.1
  cases f with
  | next=>obtain ⟨σ7,H7,I7,n7⟩:=q7; exact again I7 n7
  | cont=>obtain ⟨σ7,H7,I7,n7⟩:=q7; exact again I7 n7
  | brk=>obtain ⟨σ7,H7,I7,q7⟩:=q7; exact ⟨σ7,H7,I7.unpinned,q7⟩
  | ret v=>obtain ⟨x7,σ7,H7,I7,r7,q7⟩:=q7; exact ⟨x7,σ7,H7,I7.unpinned,r7,q7⟩
end
end L2
namespace L2
open PySem PySem.Spec PyProof.Rows
noncomputable abbrev R2:=V->V->Hp->VK->Prop
noncomputable def OpR (X:Cx) (f:Value->Value->Sem Value) (r:R2):Prop:=
 ∀ (pins:List (Addr × Obj)) (s:Shared) (σ:St) (H:Hp) (x y:V) (v u:Value) (Q:VK),Inv X pins σ H s->RelV x v->RelV y u->r x y H Q →
  wpAny (model X.prog X.w) X.A (f v u) (EP X pins σ Q) X.xe s
noncomputable def UnR (X:Cx) (f:Value->Sem Value) (r:V->Hp->VK->Prop):Prop:=
 ∀ (pins:List (Addr × Obj)) (s:Shared) (σ:St) (H:Hp) (x:V) (v:Value) (Q:VK),Inv X pins σ H s->RelV x v->r x H Q →
  wpAny (model X.prog X.w) X.A (f v) (EP X pins σ Q) X.xe s
noncomputable def CallR (X:Cx) (f:Value) (r:List V->Hp->VK->Prop):Prop:=
 ∀ (pins:List (Addr × Obj)) (s:Shared) (σ:St) (H:Hp) (xs:List V) (us:List Value) (Q:VK),Inv X pins σ H s->Vals xs us->r xs H Q →
  wpAny (model X.prog X.w) X.A (call f us) (EP X pins σ Q) X.xe s
noncomputable def TruR (X:Cx) (r:V->Hp->(Bool->Hp->Prop)->Prop):Prop:=
 ∀ (pins:List (Addr × Obj)) (s:Shared) (σ:St) (H:Hp) (x:V) (v:Value) (Q:Bool->Hp->Prop),Inv X pins σ H s->RelV x v->r x H Q →
  wpAny (model X.prog X.w) X.A (truthy v) (TP X pins σ Q) X.xe s
noncomputable def tOp (r:R2) (ta tb:TE):TE:=fun σ H Q=>ta σ H fun x H1=>tb σ H1 fun y H2=>r x y H2 Q
noncomputable def tUn (r:V->Hp->VK->Prop) (ta:TE):TE:=fun σ H Q=>ta σ H fun x H1=>r x H1 Q
noncomputable def rI (C:Int->Int->Prop) (g:Int->Int->V):R2:=fun x y H Q=>∃ i j,x=.int i/\y=.int j/\C i j/\Q (g i j) H
noncomputable def rI0 (g:Int->Int->V):R2:=fun x y H Q=>∃ i j,x=.int i/\y=.int j/\Q (g i j) H
noncomputable def rU (g:Int->V):V->Hp->VK->Prop:=fun x H Q=>∃ i,x=.int i/\Q (g i) H
section
variable {X:Cx} {a b c:Expr} {ta tb tc:TE} {pos:Pos}
theorem binT (ha:PE X a ta) (hb:PE X b tb) {pins:List (Addr × Obj)} {s:Shared} {σ:St} {H:Hp} {R:V->V->Hp->Prop} (I:Inv X pins σ H s)
  (h:ta σ H fun x H1=>tb σ H1 fun y H2=>R x y H2) {Q:Value->Shared->Prop} {f:Value->Value->Sem Value}
  (hf:∀ v u s2 x y H2,Inv X pins σ H2 s2->RelV x v->RelV y u->R x y H2->wpAny (model X.prog X.w) X.A (f v u) Q X.xe s2) :
  wpAny (model X.prog X.w) X.A (eval a X.env) (fun v s₁=>wpAny (model X.prog X.w) X.A (eval b X.env) (fun u s₂=>wpAny (model X.prog X.w) X.A (f v u) Q X.xe s₂) X.xe s₁) X.xe s:=by
 refine thn (ha pins s σ H _ I h) fun v s1 ⟨x,H1,I1,r1,q1⟩=>?_
 refine thn (hb pins s1 σ H1 _ I1 q1) fun u s2 ⟨y,H2,I2,r2,q2⟩=>?_
 exact hf v u s2 x y H2 I2 r1 r2 q2
theorem Zaq {op:Operator} {r:R2} (ho:OpR X (binaryOp op) r) (ha:PE X a ta) (hb:PE X b tb):PE X (.BinOp a op b pos) (tOp r ta tb):=by
 intro pins s σ H Q I h
 exact wpAny_BinOp (binT ha hb I h fun v u s2 x y H2 I2 rx ry q=>ho pins s2 σ H2 x y v u Q I2 rx ry q)
theorem Zo0 {op:UnaryOp} {r:V->Hp->VK->Prop} (ho:UnR X (unaryOp op) r) (ha:PE X a ta):PE X (.UnaryOp op a pos) (tUn r ta):=by
 intro pins s σ H Q I h
 exact UnaryOp_ (thn (ha pins s σ H _ I h) fun v s1 ⟨x,H1,I1,r1,q1⟩=>ho pins s1 σ H1 x v Q I1 r1 q1)
theorem opI {f:Value->Value->Sem Value} {C:Int->Int->Prop} {g:Int->Int->Int}
  (rule:∀ (i j:Int) (t u:Tok) (s:Shared) (Q:Value->Shared->Prop) (E:Value->Shared->Prop),C i j->Q (.int (g i j) s.toks) { s with toks:=s.toks + 1 } -> wpAny (model X.prog X.w) X.A (f (.int i t) (.int j u)) Q E s) :
  OpR X f (rI C fun i j=>.int (g i j)):=by
 intro pins s σ H x y v u Q I rx ry h
 obtain ⟨i,j,rfl,rfl,hc,q⟩:=h
 obtain ⟨t,rfl⟩:=rx
 obtain ⟨t',rfl⟩:=ry
 exact rule i j t t' s _ _ hc ⟨.int (g i j),H,I.tok _,⟨_,rfl⟩,q⟩
theorem opI0 {f:Value->Value->Sem Value} {g:Int->Int->Int}
  (rule:∀ (i j:Int) (t u:Tok) (s:Shared) (Q:Value->Shared->Prop) (E:Value->Shared->Prop),Q (.int (g i j) s.toks) { s with toks:=s.toks + 1 } -> wpAny (model X.prog X.w) X.A (f (.int i t) (.int j u)) Q E s) :
  OpR X f (rI0 fun i j=>.int (g i j)):=by
 intro pins s σ H x y v u Q I rx ry h
 obtain ⟨i,j,rfl,rfl,q⟩:=h
 obtain ⟨t,rfl⟩:=rx
 obtain ⟨t',rfl⟩:=ry
 exact rule i j t t' s _ _ ⟨.int (g i j),H,I.tok _,⟨_,rfl⟩,q⟩
theorem opB0 {f:Value->Value->Sem Value} {g:Int->Int->Bool}
  (rule:∀ (i j:Int) (t u:Tok) (s:Shared) (Q:Value->Shared->Prop) (E:Value->Shared->Prop),Q (.bool (g i j)) s->wpAny (model X.prog X.w) X.A (f (.int i t) (.int j u)) Q E s) :
  OpR X f (rI0 fun i j=>.bl (g i j)):=by
 intro pins s σ H x y v u Q I rx ry h
 obtain ⟨i,j,rfl,rfl,q⟩:=h
 obtain ⟨t,rfl⟩:=rx
 obtain ⟨t',rfl⟩:=ry
 exact rule i j t t' s _ _ ⟨.bl (g i j),H,I,rfl,q⟩
noncomputable def CDiv (i j:Int):Prop:=0 < j/\j < 1073741824
noncomputable def CPow (i j:Int):Prop:=0<=j/\j<=1000000/\i.natAbs < 2 ^ 64
noncomputable def CMul (i j:Int):Prop:=(-(2 ^ 64) < i/\i < 2 ^ 64)\/(-(2 ^ 64) < j/\j < 2 ^ 64)
theorem CMul.ok {i j:Int} (h:CMul i j):IntMulOk i j:=by
 rcases h with ⟨h1,h2⟩ | ⟨h1,h2⟩
 ·exact .of_left (intBits_le_64 h1 h2)
 ·exact .of_right (intBits_le_64 h1 h2)
theorem Zn8:OpR X (binaryOp .Add) (rI0 fun i j=>.int (i + j)):=opI0 fun _ _ _ _ _ _ _ q=>add_int q
theorem Zd2:OpR X (binaryOp .Sub) (rI0 fun i j=>.int (i - j)):=opI0 fun _ _ _ _ _ _ _ q=>sub_int q
theorem Zc8:OpR X (binaryOp .Mult) (rI CMul fun i j=>.int (i * j)):=opI fun _ _ _ _ _ _ _ hc q=>mul_int q hc.ok
theorem Zfw:OpR X (binaryOp .FloorDiv) (rI CDiv fun i j=>.int (i / j)):=opI fun i j _ _ _ _ _ hc q=>by
 have h1:(0:Int) < j:=hc.1
 have h2:j < 1073741824:=hc.2
 exact floordiv_int (by omega) (by rw [Int.fdiv_eq_ediv_of_nonneg i (by omega)]; exact q) (.inl (PyProof.noPylong_small (by omega)))
theorem Zbx:OpR X (binaryOp .Mod) (rI (fun _ j=>0 < j) fun i j=>.int (i % j)):=opI fun i j _ _ _ _ _ hc q=>by
 have h1:(0:Int) < j:=hc
 exact mod_int' (by omega) (by rw [Int.fmod_eq_emod_of_nonneg i (by omega)]; exact q)
theorem Zk5:OpR X (binaryOp .Pow) (rI CPow fun i j=>.int (i ^ j.toNat)):=opI fun _ _ _ _ _ _ _ hc q=>pow_int_small hc.1 hc.2.1 hc.2.2 q
theorem unI {f:Value->Sem Value} {g:Int->Int}
  (rule:∀ (i:Int) (t:Tok) (s:Shared) (Q:Value->Shared->Prop) (E:Value->Shared->Prop),Q (.int (g i) s.toks) { s with toks:=s.toks + 1 } -> wpAny (model X.prog X.w) X.A (f (.int i t)) Q E s) :
  UnR X f (rU fun i=>.int (g i)):=by
 intro pins s σ H x v Q I rx h
 obtain ⟨i,rfl,q⟩:=h
 obtain ⟨t,rfl⟩:=rx
 exact rule i t s _ _ ⟨.int (g i),H,I.tok _,⟨_,rfl⟩,q⟩
theorem Znq:UnR X (unaryOp .USub) (rU fun i=>.int (-i)):=unI fun _ _ _ _ _ q=>neg_int q
end
noncomputable def scal:V->V->Bool
 | .non,.non=>true | .non,.int _=>true | .int _,.non=>true | .non,.bl _=>true | .bl _,.non=>true | .non,.str _=>true | .str _,.non=>true
 | .int _,.int _=>true | .bl _,.bl _=>true | .str _,.str _=>true | .byt _,.byt _=>true
 | .int _,.str _=>true | .str _,.int _=>true | .bl _,.str _=>true | .str _,.bl _=>true
 | _,_=>false
noncomputable def rEq:R2:=fun x y H Q=>scal x y=true/\Q (.bl (decide (x=y))) H
noncomputable def rNe:R2:=fun x y H Q=>scal x y=true/\Q (.bl (!decide (x=y))) H
theorem Ze4 {i j:Int}:decide (V.int i=V.int j)=(i == j):=by
 rw [Wcd]
 simp
theorem Zk3 {i j:Bool}:decide (V.bl i=V.bl j)=(i == j):=by
 rw [Wcd]
 simp
theorem Zht {i j:Str}:decide (V.str i=V.str j)=(i == j):=by
 rw [Wcd]
 simp
theorem Zhe {i j:Array UInt8}:decide (V.byt i=V.byt j)=(i.toList == j.toList):=by
 rw [Wcd]
 cases i
 cases j
 simp
section
variable {X:Cx} {a b c:Expr} {ta tb tc:TE} {pos:Pos}
theorem Zaw {pins:List (Addr × Obj)} {σ:St} {H:Hp} {s:Shared} {Q:VK} {k k':Bool} (I:Inv X pins σ H s) (q:Q (.bl k) H) (e:k=k'):EP X pins σ Q (.bool k') s:=by
 subst e
 exact ⟨.bl k,H,I,rfl,q⟩
theorem Zou:OpR X (compareOp .Eq) rEq:=by
 intro pins s σ H x y v u Q I rx ry h
 obtain ⟨hs,q⟩:=h
 cases x with
 | non=>
  cases rx
  cases y with
  | non=>cases ry; exact PySem.EqNone.eq_none_none (Zaw I q (by simp))
  | bl j=>cases ry; exact PySem.EqNone.eq_none_bool (Zaw I q (by simp))
  | int j=>obtain ⟨t',rfl⟩:=ry; exact PySem.EqNone.eq_none_int (Zaw I q (by simp))
  | str j=>obtain ⟨t',rfl⟩:=ry; exact PySem.EqNone.eq_none_str (Zaw I q (by simp))
  | _=>exact absurd (show false=true from hs) Wam
 | bl i=>
  cases rx
  cases y with
  | non=>cases ry; exact PySem.EqNone.eq_bool_none (Zaw I q (by simp))
  | bl j=>cases ry; exact eq_bool (Zaw I q Zk3)
  | str j=>obtain ⟨t',rfl⟩:=ry; exact PySem.EqMixed.eq_bool_str (Zaw I q (by simp))
  | _=>exact absurd (show false=true from hs) Wam
 | int i=>
  obtain ⟨t,rfl⟩:=rx
  cases y with
  | non=>cases ry; exact PySem.EqNone.eq_int_none (Zaw I q (by simp))
  | int j=>obtain ⟨t',rfl⟩:=ry; exact eq_int (Zaw I q Ze4)
  | str j=>obtain ⟨t',rfl⟩:=ry; exact PySem.EqMixed.eq_int_str (Zaw I q (by simp))
  | _=>exact absurd (show false=true from hs) Wam
 | str i=>
  obtain ⟨t,rfl⟩:=rx
  cases y with
  | non=>cases ry; exact PySem.EqNone.eq_str_none (Zaw I q (by simp))
  | bl j=>cases ry; exact PySem.EqMixed.eq_str_bool (Zaw I q (by simp))
  | int j=>obtain ⟨t',rfl⟩:=ry; exact PySem.EqMixed.eq_str_int (Zaw I q (by simp))
  | str j=>obtain ⟨t',rfl⟩:=ry; exact eq_str (Zaw I q Zht)
  | _=>exact absurd (show false=true from hs) Wam
 | byt i=>
  obtain ⟨t,rfl⟩:=rx
  cases y with
  | byt j=>obtain ⟨t',rfl⟩:=ry; exact PySem.W.eq_bytes (Zaw I q Zhe)
  | _=>exact absurd (show false=true from hs) Wam
 | _=>cases y <;> exact absurd (show false=true from hs) Wam
theorem Zoo:OpR X (compareOp .NotEq) rNe:=by
 intro pins s σ H x y v u Q I rx ry h
 obtain ⟨hs,q⟩:=h
 cases x with
 | non=>
  cases rx
  cases y with
  | non=>cases ry; exact PySem.EqNone.ne_none_none (Zaw I q (by simp))
  | bl j=>cases ry; exact PySem.EqNone.ne_none_bool (Zaw I q (by simp))
  | int j=>obtain ⟨t',rfl⟩:=ry; exact PySem.EqNone.ne_none_int (Zaw I q (by simp))
  | str j=>obtain ⟨t',rfl⟩:=ry; exact PySem.EqNone.ne_none_str (Zaw I q (by simp))
  | _=>exact absurd (show false=true from hs) Wam
 | bl i=>
  cases rx
  cases y with
  | non=>cases ry; exact PySem.EqNone.ne_bool_none (Zaw I q (by simp))
  | bl j=>cases ry; exact ne_bool (Zaw I q (congrArg not Zk3))
  | str j=>obtain ⟨t',rfl⟩:=ry; exact PySem.EqMixed.ne_bool_str (Zaw I q (by simp))
  | _=>exact absurd (show false=true from hs) Wam
 | int i=>
  obtain ⟨t,rfl⟩:=rx
  cases y with
  | non=>cases ry; exact PySem.EqNone.ne_int_none (Zaw I q (by simp))
  | int j=>obtain ⟨t',rfl⟩:=ry; exact ne_int (Zaw I q (congrArg not Ze4))
  | str j=>obtain ⟨t',rfl⟩:=ry; exact PySem.EqMixed.ne_int_str (Zaw I q (by simp))
  | _=>exact absurd (show false=true from hs) Wam
 | str i=>
  obtain ⟨t,rfl⟩:=rx
  cases y with
  | non=>cases ry; exact PySem.EqNone.ne_str_none (Zaw I q (by simp))
  | bl j=>cases ry; exact PySem.EqMixed.ne_str_bool (Zaw I q (by simp))
  | int j=>obtain ⟨t',rfl⟩:=ry; exact PySem.EqMixed.ne_str_int (Zaw I q (by simp))
  | str j=>obtain ⟨t',rfl⟩:=ry; exact ne_str (Zaw I q (congrArg not Zht))
  | _=>exact absurd (show false=true from hs) Wam
 | byt i=>
  obtain ⟨t,rfl⟩:=rx
  cases y with
  | byt j=>obtain ⟨t',rfl⟩:=ry; exact PySem.W.ne_bytes (Zaw I q (congrArg not Zhe))
  | _=>exact absurd (show false=true from hs) Wam
 | _=>cases y <;> exact absurd (show false=true from hs) Wam
theorem Zm7:OpR X (compareOp .Lt) (rI0 fun i j=>.bl (decide (i < j))):=opB0 fun _ _ _ _ _ _ _ q=>lt_int q
theorem Zon:OpR X (compareOp .LtE) (rI0 fun i j=>.bl (decide (i<=j))):=opB0 fun _ _ _ _ _ _ _ q=>le_int q
theorem Zfj:OpR X (compareOp .Gt) (rI0 fun i j=>.bl (decide (j < i))):=opB0 fun _ _ _ _ _ _ _ q=>gt_int q
theorem Zor:OpR X (compareOp .GtE) (rI0 fun i j=>.bl (decide (j<=i))):=opB0 fun _ _ _ _ _ _ _ q=>ge_int q
theorem OpR.or {f:Value->Value->Sem Value} {r r':R2} (h:OpR X f r) (h':OpR X f r'):OpR X f (fun x y H Q=>r x y H Q\/r' x y H Q):=by
 intro pins s σ H x y v u Q I rx ry q
 rcases q with q | q
 ·exact h pins s σ H x y v u Q I rx ry q
 ·exact h' pins s σ H x y v u Q I rx ry q
theorem nomark (b:Expr) {op:CmpOp} (h:op ≠ .In:=by decide) (h2:op ≠ .NotIn:=by decide):behindInMarks op b=false:=by
 have e1:(op == CmpOp.In)=false:=by cases op <;> first | rfl | exact absurd rfl h
 have e2:(op == CmpOp.NotIn)=false:=by cases op <;> first | rfl | exact absurd rfl h2
 cases b <;> simp [behindInMarks,e1,e2]
theorem Zmi {op:CmpOp} {r:R2} (ho:OpR X (compareOp op) r) (ha:PE X a ta) (hb:PE X b tb) (hm:behindInMarks op b=false):PE X (.Compare a [op] [b] pos) (tOp r ta tb):=by
 intro pins s σ H Q I h
 exact wpAny_Compare1 (binT ha hb I h fun v u s2 x y H2 I2 rx ry q=>ho pins s2 σ H2 x y v u Q I2 rx ry q) hm
noncomputable def tTest (t:TE):TT:=fun σ H Q=>t σ H fun x H'=>∃ k,x=.bl k/\Q k H'
theorem Za3 {op:CmpOp} {r:R2} (ho:OpR X (compareOp op) r) (ha:PE X a ta) (hb:PE X b tb) (hm:behindInMarks op b=false):PT X (.Compare a [op] [b] pos) (tTest (tOp r ta tb)):=by
 intro pins s σ H Q I h
 refine wpAny_isTrue_Compare1 (thn (ha pins s σ H _ I h) fun v s1 ⟨x,H1,I1,r1,q1⟩=>thn (hb pins s1 σ H1 _ I1 q1) fun u s2 ⟨y,H2,I2,r2,q2⟩=>
  thn (ho pins s2 σ H2 x y v u _ I2 r1 r2 q2) fun c s3 ⟨z,H3,I3,r3,k,e,q3⟩=>?_) hm
 subst e
 cases r3
 exact wpAny_truthy_bool ⟨H3,I3,q3⟩
noncomputable def tChain (r r':R2) (ta tb tc:TE):TE:=fun σ H Q=>ta σ H fun x H1=>tb σ H1 fun y H2=>r x y H2 fun z H3=>∃ k,z=.bl k ∧
 (if k=true then tc σ H3 fun w' H4=>r' y w' H4 Q else Q (.bl false) H3)
theorem Zj4 {op op':CmpOp} {r r':R2} (ho:OpR X (compareOp op) r) (ho':OpR X (compareOp op') r') (ha:PE X a ta) (hb:PE X b tb) (hc:PE X c tc)
  (hm:lastMarks [op,op'] [b,c]=false:=by with_unfolding_all rfl):PE X (.Compare a [op,op'] [b,c] pos) (tChain r r' ta tb tc):=by
 intro pins s σ H Q I h
 refine Compare_chain (thn (ha pins s σ H _ I h) fun v s1 ⟨x,H1,I1,r1,q1⟩=>chain_link (thn (hb pins s1 σ H1 _ I1 q1) fun u s2 ⟨y,H2,I2,r2,q2⟩=>
  thn (ho pins s2 σ H2 x y v u _ I2 r1 r2 q2) fun d s3 ⟨z,H3,I3,r3,k,e,q3⟩=>?_)) hm
 subst e
 cases r3
 refine wpAny_truthy_bool ?_
 cases k with
 | false=>exact ite_ff ⟨.bl false,H3,I3,rfl,q3⟩
 | true=>exact ite_tt (chain_last (thn (hc pins s3 σ H3 _ I3 q3) fun w' s4 ⟨z',H4,I4,r4,q4⟩=>ho' pins s4 σ H4 y z' u w' Q I4 r2 r4 q4))
noncomputable def TruV (K:PySem.W.Frag) (x:V) (H:Hp) (k:Bool):Prop:=
 match x with
 | .non=>k=false
 | .bl b=>k=b
 | .int i=>k=(i != 0)
 | .str y=>y.length<=sizeLine/\k=((y.length:Int) != 0)
 | .byt y=>y.size<=sizeLine/\k=((y.size:Int) != 0)
 | .ref p=>(∃ xs,SqL K H p xs/\k = !xs.isEmpty)\/(∃ xs,SqT K H p xs/\k = !xs.isEmpty)\/∃ kvs,H p=some (.dK kvs)/\k = !kvs.isEmpty
 | _=>False
theorem Zg0 {κ:Type} {kvs:List (κ × V)} {vs:List (κ × Value)} (r:KV kvs vs):(!vs.isEmpty) = !kvs.isEmpty:=by
 cases r <;> rfl
theorem Zec {xs:List V} {its:List Value} (r:Vals xs its):(!its.toArray.isEmpty) = !xs.isEmpty:=by
 cases r <;> simp
theorem line63:(sizeLine:Nat) < 2 ^ 63:=by rw [sizeLine_eq]; decide
theorem Znp:TruR X (fun x H Q=>∃ k,TruV X.K x H k/\Q k H):=by
 intro pins s σ H x v Q I rx h
 obtain ⟨k,e,q⟩:=h
 have hl:=line63
 have hs:sizeLine=16777216:=sizeLine_eq
 cases x with
 | non=>
  cases rx
  have e':k=false:=e
  subst e'
  exact truthy_none ⟨H,I,q⟩
 | bl b=>
  cases rx
  have e':k=b:=e
  subst e'
  exact wpAny_truthy_bool ⟨H,I,q⟩
 | int i=>
  obtain ⟨t,rfl⟩:=rx
  have e':k=(i != 0):=e
  subst e'
  exact PySem.P.truthy_int ⟨H,I,q⟩
 | str y=>
  obtain ⟨t,rfl⟩:=rx
  obtain ⟨hy,e'⟩:y.length<=sizeLine/\k=((y.length:Int) != 0):=e
  subst e'
  exact PySem.P.truthy_str (by omega) ⟨H,I.tok _,q⟩
 | byt y=>
  obtain ⟨t,rfl⟩:=rx
  obtain ⟨hy,e'⟩:y.size<=sizeLine/\k=((y.size:Int) != 0):=e
  subst e'
  exact PySem.W.truthy_bytes (by omega) ⟨H,I.tok _,q⟩
 | ref p=>
  cases rx
  have e':(∃ xs,SqL X.K H p xs/\k = !xs.isEmpty)\/(∃ xs,SqT X.K H p xs/\k = !xs.isEmpty)\/∃ kvs,H p=some (.dK kvs)/\k = !kvs.isEmpty:=e
  rcases e' with ⟨xs,hx,e'⟩ | ⟨xs,hx,e'⟩ | ⟨kvs,hx,e'⟩
  ·subst e'
   obtain ⟨its,r,pl,hz⟩:=I.list hx
   have hlen:=r.length
   exact wpAny_truthy_list pl.isList (by simp only [Wae]; omega) ⟨H,I.tok _,by rw [Zec r]; exact q⟩
  ·subst e'
   obtain ⟨its,r,pl,hz⟩:=I.tuple hx
   have hlen:=r.length
   exact truthy_tuple pl (by simp only [Wae]; omega) ⟨H,I.tok _,by rw [Zec r]; exact q⟩
  ·subst e'
   obtain ⟨hz,hS,vs,r,m⟩:kvs.length<=sizeLine/\(p == sysModules)=false/\∃ vs,KV kvs vs/\s.heap.DictOf (mixKind X.prog X.w) p vs:=I.hok p _ hx
   have hlen:kvs.length=vs.length:=Paired.length r
   exact wpAny_truthy_dict hS m (by omega) ⟨H,I.tok _,by rw [Zg0 r]; exact q⟩
 | _=>exact (show False from e).elim
theorem Zjl (ha:PE X a ta) (he:∀ whole,isTrue a X.env whole=(do let v ← whole; standAt a.pos; holding [v] (truthy v))) :
  PT X a (fun σ H Q=>ta σ H fun x H'=>∃ k,TruV X.K x H' k/\Q k H'):=by
 intro pins s σ H Q I h
 exact isTrue_plain (thn (ha pins s σ H _ I h) fun v s1 ⟨x,H1,I1,r1,q1⟩=>Znp pins s1 σ H1 x v Q I1 r1 q1) (he _)
theorem vals1 {x:V} {us:List Value} (r:Vals [x] us):∃ u,us=[u]/\RelV x u:=by
 cases r with
 | cons r1 r2=>cases r2; exact ⟨_,rfl,r1⟩
theorem vals2 {x y:V} {us:List Value} (r:Vals [x,y] us):∃ u w',us=[u,w']/\RelV x u/\RelV y w':=by
 cases r with
 | cons r1 r2=>
  cases r2 with
  | cons r3 r4=>cases r4; exact ⟨_,_,rfl,r1,r3⟩
theorem Ze0:CallR X (.builtin "abs") (fun xs H Q=>∃ i,xs=[.int i]/\Q (.int (if i < 0 then -i else i)) H):=by
 intro pins s σ H xs us Q I r h
 obtain ⟨i,rfl,q⟩:=h
 obtain ⟨u,rfl,t,rfl⟩:=vals1 r
 exact call_abs_int fun u tk=>⟨.int (if i < 0 then -i else i),H,I.tok _,⟨_,rfl⟩,q⟩
theorem Zfi (hc:X.calm=true):CallR X (.builtin "max") (fun xs H Q=>∃ i j,xs=[.int i,.int j]/\Q (.int (if j > i then j else i)) H):=by
 intro pins s σ H xs us Q I r h
 obtain ⟨i,j,rfl,q⟩:=h
 obtain ⟨u,w',rfl,⟨t,rfl⟩,⟨t',rfl⟩⟩:=vals2 r
 refine max_two_ints (I.ok.hd hc) fun h' tk k=>⟨_,H,I.kept k,?_,q⟩
 by_cases hj:j > i
 ·rw [if_pos hj,if_pos hj]; exact ⟨_,rfl⟩
 ·rw [if_neg hj,if_neg hj]; exact ⟨_,rfl⟩
theorem Zc2 (hc:X.calm=true):CallR X (.builtin "min") (fun xs H Q=>∃ i j,xs=[.int i,.int j]/\Q (.int (if j < i then j else i)) H):=by
 intro pins s σ H xs us Q I r h
 obtain ⟨i,j,rfl,q⟩:=h
 obtain ⟨u,w',rfl,⟨t,rfl⟩,⟨t',rfl⟩⟩:=vals2 r
 refine min_two_ints (I.ok.hd hc) fun h' tk k=>⟨_,H,I.kept k,?_,q⟩
 by_cases hj:j < i
 ·rw [if_pos hj,if_pos hj]; exact ⟨_,rfl⟩
 ·rw [if_neg hj,if_neg hj]; exact ⟨_,rfl⟩
theorem Zhn:CallR X (.type "int") (fun xs H Q=>(∃ i,xs=[.int i]/\Q (.int i) H)\/∃ k,xs=[.bl k]/\Q (.int (if k then 1 else 0)) H):=by
 intro pins s σ H xs us Q I r h
 rcases h with ⟨i,rfl,q⟩ | ⟨k,rfl,q⟩
 ·obtain ⟨u,rfl,t,rfl⟩:=vals1 r
  exact call_int_int ⟨.int i,H,I,⟨_,rfl⟩,q⟩
 ·obtain ⟨u,rfl,r1⟩:=vals1 r
  cases r1
  exact call_int_bool ⟨.int (if k then 1 else 0),H,I.tok _,⟨_,rfl⟩,q⟩
end
end L2
namespace L2
open PySem PySem.Spec PyProof.Rows
structure ObjM (h:Heap) (x dx C:Addr) (mA:Str->Option Value):Prop where
 obj:h.get? x=some (PySem.W.instObj C dx)
 ns:h.Ns1 dx mA
 ne:dx ≠ x
theorem Zho {h:Heap} {dx:Addr} {mA:Str->Option Value} (n:h.Ns1 dx mA):∃ od,h.get? dx=some od/\∀ name,PySem.W.lookIn name od=some (mA name):=by
 obtain ⟨o,es,ep,ho,hd,hk,_,hm⟩:=n
 refine ⟨o,ho,fun name=>?_⟩
 have e:=hm name
 unfold nsFind findBy at e
 rw [<- Array.find?_toList] at e
 unfold PySem.W.lookIn
 rw [hd]
 dsimp only
 split
 ·rename_i y q
  rw [q] at e
  exact congrArg some e
 ·rename_i q
  rw [q] at e
  have a:es.toList.any (·.refKey)=false:=by
   rw [List.any_eq_false]
   intro y hy
   obtain ⟨z,t,hkey⟩:=hk y (Array.mem_toList_iff.mp hy)
   simp [DictEntry.refKey,hkey]
  have a':¬ es.toList.any (·.refKey)=true:=by rw [a]; exact Wam
  rw [if_neg a']
  exact congrArg some e
theorem ObjM.look {h:Heap} {x dx C:Addr} {mA:Str->Option Value} (I:ObjM h x dx C mA):∃ od,PySem.W.InstAt h x (PySem.W.instObj C dx) C (some od)/\∀ name,PySem.W.lookIn name od=some (mA name):=
 let ⟨od,ho,hl⟩:=Zho I.ns
 ⟨od,⟨I.obj,rfl,rfl,ho⟩,hl⟩
theorem RelO.some_of {v:V} {o:Option Value} (r:RelO (some v) o):∃ u,o=some u/\RelV v u:=by
 cases o with
 | none=>exact (show False from r).elim
 | some u=>exact ⟨u,rfl,r⟩
section
variable {P:Program} {w:World} {H H':Hp} {h h':Heap} {a C dx:Addr} {fs fs':List (Str × V)}
theorem Zl6 (hok:HOk P w H h) (e:H a=some (.ins C dx fs)):∃ mA,ObjM h a dx C mA/\(∀ f,RelO (fs.lookup f) (mA f))/\PySem.Within mA (fs.map (·.1))/\fs.length<=1000/\H dx=some (.own a):=by
 obtain ⟨d,z,ne,ob,mA,n,r,q⟩:=(show ObjOk P w H h a (.ins C dx fs) from hok a _ e)
 exact ⟨mA,⟨ob,n,ne⟩,r,q,z,d⟩
end
structure Cls (K:PySem.W.Frag) (C:Addr):Prop where
 pg:PySem.W.plainGet K C Str.empty=true
 hd:PySem.W.hasDictIn K C=true
 po:PySem.W.plainOver K C=true
 sa:PySem.W.findIn K (.ref C) "__setattr__" = some (some (.builtin "object.__setattr__"))
theorem Cls.get {K:PySem.W.Frag} {C:Addr} (c:Cls K C) (f:Str):PySem.W.plainGet K C f=true:=c.pg
section
variable {X:Cx} {pins:List (Addr × Obj)} {σ:St} {H:Hp} {s:Shared} {a C dx:Addr} {fs:List (Str × V)} {f:Str} {v:V} {A:Around} {E:Value->Shared->Prop}
end
section
variable {X:Cx} {pins:List (Addr × Obj)} {σ:St} {H:Hp} {s:Shared} {A:Around} {E:Value->Shared->Prop} {Q:Value->Shared->Prop} {c:Value} {b:Bool}
inductive TyOf (K:PySem.W.Frag) (H:Hp):V->Value->Prop where
 | non:TyOf K H .non (.type "NoneType")
 | bl (x:Bool):TyOf K H (.bl x) (.type "bool")
 | int (i:Int):TyOf K H (.int i) (.type "int")
 | str (x:Str):TyOf K H (.str x) (.type "str")
 | flt (x:UInt64):TyOf K H (.flt x) (.type "float")
 | lst {a:Addr} {xs:List V} (e:H a=some (.lst xs)):TyOf K H (.ref a) (.type "list")
 | frz {a:Addr} {o:Obj} {xs:List V} (e:H a=some (.frz o (.lst xs))):TyOf K H (.ref a) (.type "list")
 | tup {a:Addr} {xs:List V} (e:H a=some (.tup xs)):TyOf K H (.ref a) (.type "tuple")
 | dK {a:Addr} {kvs:List (Key × V)} (e:H a=some (.dK kvs)):TyOf K H (.ref a) (.type "dict")
 | dT {a:Addr} {kvs:List (List Key × V)} (e:H a=some (.dT kvs)):TyOf K H (.ref a) (.type "dict")
 | ins {a C dx:Addr} {fs:List (Str × V)} (e:H a=some (.ins C dx fs)) (cl:Cls K C) (ha:PySem.W.findIn K (.ref C) "__class__" = some (some (.builtin "object.__class__")))
   (hn:PySem.W.specialIn K (.builtin "object.__class__") "__get__" = some (some (.builtin "getset_descriptor.__get__"))) (htk:PySem.W.takesIn K (.builtin "object.__class__")=some true)
   (hm:PySem.W.mroIn K C (.type "object")=some true):TyOf K H (.ref a) (.ref C)
theorem Zhj {x:V} {u t:Value} (I:Inv X pins σ H s) (rx:RelV x u) (ty:TyOf X.K H x t) (e:PySem.W.kitOne X.K t c=some b) (h:∀ tk,Q (.bool b) { s with toks:=tk }) :
  wpAny (model X.prog X.w) A (call (.builtin "isinstance") [u,c]) Q E s:=by
 cases ty with
 | non=>cases (show u=Value.none from rx); exact PySem.W.kia_one PySem.W.kitx_none I.kIn True.intro e (fun z=>nomatch z) h
 | bl y=>cases (show u=Value.bool y from rx); exact PySem.W.kia_one PySem.W.kitx_bool I.kIn True.intro e (fun z=>nomatch z) h
 | int i=>obtain ⟨t,q⟩:=(show ∃ t,u=Value.int i t from rx); cases q; exact PySem.W.kia_one PySem.W.kitx_int I.kIn True.intro e (fun z=>nomatch z) h
 | str y=>obtain ⟨t,q⟩:=(show ∃ t,u=Value.str y t from rx); cases q; exact PySem.W.kia_one PySem.W.kitx_str I.kIn True.intro e (fun z=>nomatch z) h
 | flt y=>obtain ⟨t,q⟩:=(show ∃ t,u=Value.float y t from rx); cases q; exact PySem.W.kia_one PySem.W.kitx_float I.kIn True.intro e (fun z=>nomatch z) h
 | @lst a xs ea=>
  cases (show u=Value.ref a from rx)
  obtain ⟨_,_,n,_,h1⟩:=(show ObjOk X.prog X.w H s.heap a (.lst xs) from I.hok a _ ea)
  exact PySem.W.kia_one PySem.W.kitx_list I.kIn ⟨_,h1,rfl⟩ e (fun z=>nomatch z) h
 | @frz a ob xs ea=>
  cases (show u=Value.ref a from rx)
  obtain ⟨_,_,_,n,_,h1⟩:=(show ObjOk X.prog X.w H s.heap a (.frz ob (.lst xs)) from I.hok a _ ea)
  exact PySem.W.kia_one PySem.W.kitx_list I.kIn ⟨_,h1,rfl⟩ e (fun z=>nomatch z) h
 | @tup a xs ea=>
  cases (show u=Value.ref a from rx)
  obtain ⟨_,_,_,p⟩:=(show ObjOk X.prog X.w H s.heap a (.tup xs) from I.hok a _ ea)
  obtain ⟨o,h1,⟨h2,_⟩,_⟩:=p
  exact PySem.W.kia_one PySem.W.kitx_tuple I.kIn ⟨o,h1,h2⟩ e (fun z=>nomatch z) h
 | @dK a kvs ea=>
  cases (show u=Value.ref a from rx)
  obtain ⟨_,_,vs,_,p⟩:=(show ObjOk X.prog X.w H s.heap a (.dK kvs) from I.hok a _ ea)
  obtain ⟨o,es,ep,h1,h2,_⟩:=p
  exact PySem.W.kia_one PySem.W.kitx_dict I.kIn ⟨o,h1,h2.1⟩ e (fun z=>nomatch z) h
 | @dT a kvs ea=>
  cases (show u=Value.ref a from rx)
  obtain ⟨_,_,xs,_,o,es,ep,h1,h2,_⟩:=(show ObjOk X.prog X.w H s.heap a (.dT kvs) from I.hok a _ ea)
  exact PySem.W.kia_one PySem.W.kitx_dict I.kIn ⟨o,h1,h2.1⟩ e (fun z=>nomatch z) h
 | @ins a C dx fs ea cl ha hn htk hm=>
  cases (show u=Value.ref a from rx)
  obtain ⟨mA,O,_⟩:=Zl6 I.hok ea
  obtain ⟨od,J,_⟩:=O.look
  exact PySem.W.kia_one (PySem.W.kitx_own (cl.get _) cl.hd ha hn htk hm) I.kIn J e (fun z=>nomatch z) h
end
end L2
namespace L2
open PySem PySem.Spec PyProof.Rows
structure Room (k:Nat) (A:Around):Prop where
 hd:A.handled=none
 dp:A.depth + 3 * k + 5 < recursionLimit
 un:A.units + 16 * k + 200 < cLine
 gd:A.guards=some []
theorem Room.mono {j k:Nat} {A:Around} (r:Room k A) (h:j<=k):Room j A:=⟨r.hd,by have:=r.dp; omega,by have:=r.un; omega,r.gd⟩
theorem Room.deeper {k:Nat} {A:Around} (r:Room (k + 1) A) (env:Env):Room k (A.deeper env):=
 ⟨r.hd,by have:=r.dp; show A.depth + 1 + 3 * k + 5 < _; omega,by have:=r.un; show A.units + 3 + 16 * k + 200 < _; omega,r.gd⟩
theorem Room.depth {k:Nat} {A:Around} (r:Room k A):A.depth < recursionLimit:=by have:=r.dp; omega
theorem Room.units {k:Nat} {A:Around} (r:Room k A):A.units + 64 < cLine:=by have:=r.un; omega
noncomputable def tNil:TA:=fun _ H Q=>Q [] H
noncomputable def tCons (ta:TE) (tr:TA):TA:=fun σ H Q=>ta σ H fun x H1=>tr σ H1 fun xs H2=>Q (x :: xs) H2
section
variable {X:Cx} {e:Expr} {es:List Expr} {te:TE} {t:TA} {pos:Pos}
theorem Zad:PA X [] tNil:=fun _ _ _ _ H Q I h=>Calls.spliced_nil ⟨[],H,I,.nil,h⟩
theorem Zaa (ha:PE X e te) (hr:PA X es t) (hs:starEach (e :: es) X.env=(false,eval e X.env) :: starEach es X.env:=by rfl):PA X (e :: es) (tCons te t):=by
 intro pos pins s σ H Q I h
 rw [hs]
 show wpAny _ _ (spliced ((false,eval e X.env) :: backTo pos (starEach es X.env))) _ _ s
 refine Calls.spliced_cons (thn (ha pins s σ H _ I h) fun u s1 ⟨x,H1,I1,r1,q1⟩=>?_)
 exact thn (hr pos pins s1 σ H1 _ I1 q1) fun us s2 ⟨xs,H2,I2,r2,q2⟩=>⟨x :: xs,H2,I2,.cons r1 r2,q2⟩
noncomputable def tTup (t:TA):TE:=fun σ H Q=>t σ H fun xs H1=>xs.length<=sizeLine/\∀ p,H1 p=none->Q (.ref p) (upd H1 p (.tup xs))
noncomputable def tLst (t:TA):TE:=fun σ H Q=>t σ H fun xs H1=>xs.length<=sizeLine/\∀ p,H1 p=none->Q (.ref p) (upd H1 p (.lst xs))
theorem Zbp {x1} (h:PA X es t):PE X (.Tuple es x1 pos) (tTup t):=by
 intro pins s σ H Q I hq
 refine wpAny_Tuple_spliced (thn (h pos pins s σ H _ I hq) fun us s1 ⟨xs,H1,I1,r,z,q⟩=>⟨by rw [<- r.length]; exact z,?_⟩)
 have hf:H1 s1.heap.objs.size=none:=I1.hok.fresh (Waj _)
 refine ⟨.ref s1.heap.objs.size,upd H1 s1.heap.objs.size (.tup xs),I1.laid (t':=s1.toks) (fun b u e=>Wad _ e) (Waj _) ?_,rfl,q _ hf⟩
 exact ⟨z,us,r,⟨_,Wav _ rfl,⟨rfl,_,rfl⟩,rfl⟩⟩
theorem Za5 (h:PA X es t):PE X (.List es pos) (tLst t):=by
 intro pins s σ H Q I hq
 refine wpAny_List_spliced (thn (h pos pins s σ H _ I hq) fun us s1 ⟨xs,H1,I1,r,z,q⟩=>⟨by rw [<- r.length]; exact z,?_⟩)
 have hf:H1 s1.heap.objs.size=none:=I1.hok.fresh (Waj _)
 refine ⟨.ref s1.heap.objs.size,upd H1 s1.heap.objs.size (.lst xs),I1.laid (t':=s1.toks) (fun b u e=>Wad _ e) (Waj _) ?_,rfl,q _ hf⟩
 exact ⟨z,us,0,r,Wav _ rfl⟩
end
noncomputable abbrev Sp:=List V->Hp->VK->XK->Prop
noncomputable abbrev CXT:=List Env->Hp->Shared->XK->Value->Shared->Prop
structure Env0 (P:Program) (w:World) (K:PySem.W.Frag) (mg:Str->Option Value) (base:Heap) (A:Around) (outer:List Env) (s:Shared) (H:Hp):Prop where
 frames:A.frames=some outer
 mod:Mod K mg base
 bs:∀ b o,base.get? b=some o->s.heap.get? b=some o/\H b=none
 bsz:base.objs.size<=s.heap.objs.size
 funs:s.heap.FunFrames base outer
 frf:∀ b ∈ frs outer,H b=none
 hok:HOk P w H s.heap
 bare:AllBare s.gens
noncomputable def CE (outer:List Env) (P:Program) (w:World) (H:Hp) (s:Shared) (Q:VK) (u:Value) (s':Shared):Prop:=
 ∃ v H',s'.os=s.os/\AllBare s'.gens/\Un (frs outer) [] H H' s.heap s'.heap/\HOk P w H' s'.heap/\RelV v u/\Q v H'
noncomputable def CR (CX:CXT) (outer:List Env) (P:Program) (w:World) (H:Hp) (s:Shared) (Q:VK) (E:XK) (r:Result) (s':Shared):Prop:=
 match r with
 | .ok (.ret u)=>CE outer P w H s Q u s'
 | .ok _=>False
 | .error e=>CX outer H s E e s'
structure FnOk (P:Program) (w:World) (K:PySem.W.Frag) (mg:Str->Option Value) (base:Heap) (CX:CXT) (k:Nat) (f:Addr) (fd:FuncData) (ps:List Str) (sp:Sp):Prop where
 len:∀ vs H Q E,sp vs H Q E->vs.length=ps.length
 run:∀ (A:Around) (outer:List Env) (s:Shared) (H:Hp) (args:Args) (us:List Value) (vs:List V) (Q:VK) (E:XK),Room k A->Env0 P w K mg base A outer s H->BindsTo s fd args (ps.zip us)->Vals vs us->sp vs H Q E →
  codeAny (model P w) A (.call (.ref f) args) (CR CX outer P w H s Q E) s
theorem FnOk.imp {P:Program} {w:World} {K:PySem.W.Frag} {mg:Str->Option Value} {base:Heap} {CX:CXT} {k:Nat} {f:Addr} {fd:FuncData} {ps:List Str} {sp sp':Sp} (F:FnOk P w K mg base CX k f fd ps sp)
  (h:∀ vs H Q E,sp' vs H Q E->sp vs H Q E):FnOk P w K mg base CX k f fd ps sp':=
 ⟨fun vs H Q E q=>F.len vs H Q E (h _ _ _ _ q),fun A outer s H args us vs Q E hr he hb hv hs=>F.run A outer s H args us vs Q E hr he hb hv (h _ _ _ _ hs)⟩
section
variable {X:Cx} {pins:List (Addr × Obj)} {σ:St} {H:Hp} {s s':Shared}
theorem Inv.env0 (I:Inv X pins σ H s):Env0 X.prog X.w X.K X.mg X.base X.A X.stack s H:=
 ⟨I.ok.frames,I.ok.mod,I.bs,Wa6 I.ok.bsz I.sz,I.stack,I.stkFree,I.hok,I.bare⟩
theorem Inv.after {Q:VK} {u:Value} (I:Inv X pins σ H s) (h:CE X.stack X.prog X.w H s Q u s'):EP X pins σ Q u s':=by
 obtain ⟨v,H',os,bare,un,hok,r,q⟩:=h
 obtain ⟨hh,g,d,t,os'⟩:=s'
 obtain rfl:os' = s.os:=os
 exact ⟨v,H',I.call (h':=hh) (g':=g) (d':=d) (t':=t) (ch:=[]) un hok bare (fun b z=>absurd z (by simp)),r,q⟩
end
noncomputable def tCall (sp:Sp) (dvs:List V) (E:XK) (t:TA):TE:=fun σ H Q=>t σ H fun vs H1=>sp (vs ++ dvs) H1 Q E
noncomputable def Binds (K:PySem.W.Frag) (fd:FuncData) (ps:List Str) (ds:List Value):Prop:=
 ∀ (s:Shared) (us:List Value),K.In s.heap->(us ++ ds).length=ps.length->BindsTo s fd ⟨us,[]⟩ (ps.zip (us ++ ds))
theorem Binds.all {K:PySem.W.Frag} {fd:FuncData} {ps:List Str} (h:∀ us:List Value,us.length=ps.length->bindArgs fd ⟨us,[]⟩ = pure (ps.zip us)):Binds K fd ps []:=fun s us _ hl=>by
 rw [Wba] at hl ⊢
 exact .of_eq (h us hl)
noncomputable def Passes (CX:CXT) (X:Cx) (E:XK):Prop:=∀ (pins:List (Addr × Obj)) (σ:St) (H:Hp) (s:Shared) (e:Value) (s':Shared),Inv X pins σ H s->CX X.stack H s E e s' -> X.xe e s'
section
variable {X:Cx} {CX:CXT} {k:Nat} {f C:Addr} {fd:FuncData} {ps:List Str} {sp:Sp} {dvs:List V} {ds:List Value} {E:XK} {x m:Str} {p pos apos:Pos} {e o:Expr} {es:List Expr} {ta:TE} {t:TA}
theorem Zkr {pins:List (Addr × Obj)} {σ:St} {H:Hp} {s:Shared} {Q:VK} {us:List Value} {vs:List V} (F:FnOk X.prog X.w X.K X.mg X.base CX k f fd ps sp) (hr:Room k X.A) (hb:Binds X.K fd ps ds) (hd:Vals dvs ds) (hx:Passes CX X E)
  (I:Inv X pins σ H s) (r:Vals vs us) (h:sp (vs ++ dvs) H Q E):wpAny (model X.prog X.w) X.A (call (.ref f) us) (EP X pins σ Q) X.xe s:=by
 have r2:Vals (vs ++ dvs) (us ++ ds):=r.append hd
 have hl:(us ++ ds).length=ps.length:=by rw [<- r2.length]; exact F.len _ _ _ _ h
 refine wpAny_call (codeAny_mono (F.run X.A X.stack s H ⟨us,[]⟩ (us ++ ds) (vs ++ dvs) Q E hr I.env0 (hb s us I.kIn hl) r2 h) fun r s' hq=>?_)
 cases r with
 | error e=>exact hx pins σ H s e s' I hq
 | ok fl=>
  cases fl with
  | ret u=>exact I.after hq
  | next=>exact False.elim hq
  | brk=>exact False.elim hq
  | cont=>exact False.elim hq
theorem Zi4 (F:FnOk X.prog X.w X.K X.mg X.base CX k f fd ps sp) (hr:Room k X.A) (hg:Gl X x) (hm:X.mg x=some (.ref f)) (hk:PySem.W.keepIn X.K (.ref f)=true) (hb:Binds X.K fd ps ds) (hd:Vals dvs ds) (hx:Passes CX X E)
  (ha:PA X (e :: es) t) (hdb:(x == ("__debug__":Str))=false:=by decide) (he:starEach (e :: es) X.env=(false,eval e X.env) :: starEach es X.env:=by rfl) (hpl:(backTo pos (starEach es X.env)).any (·.1)=false:=by rfl) :
  PE X (.Call (.Name x p) (e :: es) [] pos) (tCall sp dvs E t):=by
 intro pins s σ H Q I h
 refine wpAny_Call_Name_kw (Zdq I hg hm ?_ hdb)
 refine PySem.W.callWith_K (h₀:=X.base) I.ok.mod.kin hk (thn (ha pos pins s σ H _ I h) fun us s1 ⟨vs,H1,I1,r,q⟩=>⟨I1.kIn,?_⟩) he hpl
 exact Zkr F hr hb hd hx I1 r q
end
section
variable {X:Cx} {CX:CXT} {k:Nat} {f C:Addr} {fd:FuncData} {ps ks:List Str} {sp:Sp} {E:XK} {x m:Str} {p pos apos kpos:Pos} {e o:Expr} {es:List Expr} {kws:List Keyword} {te ta:TE} {t tk:TA} {nm:Option Str}
variable {g:List Value->List Value->List Value} {gV:List V->List V->List V}
end
structure FnScope (N P:List Str) (sc:Scope):Prop where
 kind:sc.kind=.function
 co:sc.isCoroutine=false
 gen:sc.isGenerator=false
 nd:N.Nodup
 pre:N.take P.length=P
 par:∀ x ∈ P,sc.names.lookup x=some .local\/sc.names.lookup x=some .cell
 nofree:∀ y ∈ sc.names,y.2 ≠ .free
theorem Zfs {kindOf:Str->Option NameKind} {x:Str}:∀ {binds:List (Str × Value)} {m:Str->Option Value},(∀ v,(x,v) ∉ binds)->bindL kindOf binds m x=m x
 | [],_,_=>rfl
 | (n,v) :: r,m,h=>by
  unfold bindL
  rw [Zfs fun w hw=>h w (Waq _ hw)]
  split
  ·have:x ≠ n:=by rintro rfl; exact h v Wa8
   simp [this]
  ·rfl
theorem Zfb {kindOf:Str->Option NameKind} {x:Str}:∀ {binds:List (Str × Value)} {m:Str->Option Value},(∀ v,(x,v) ∉ binds)->bindC kindOf binds m x=m x
 | [],_,_=>rfl
 | (n,v) :: r,m,h=>by
  unfold bindC
  rw [Zfb fun w hw=>h w (Waq _ hw)]
  split
  ·rfl
  ·have:x ≠ n:=by rintro rfl; exact h v Wa8
   simp [this]
theorem Ze8 {kindOf:Str->Option NameKind} {x:Str} {v:Value}:∀ {P:List Str} {vs:List Value} {i:Nat} {m:Str->Option Value},P.Nodup->P[i]? = some x->vs[i]? = some v->kindOf x=some .local →
  bindL kindOf (P.zip vs) m x=some v
 | [],_,_,_,_,h,_,_=>by simp at h
 | _ :: _,[],_,_,_,_,h,_=>by simp at h
 | p :: P,w :: vs,0,m,nd,h1,h2,hk=>by
  simp at h1 h2; subst h1; subst h2
  show bindL kindOf ((p,w) :: P.zip vs) m p=_
  unfold bindL
  rw [Zfs fun v hv=>(Wbz.mp nd).1 (List.of_mem_zip hv).1,if_pos hk]
  simp
 | p :: P,w :: vs,i + 1,m,nd,h1,h2,hk=>by
  show bindL kindOf ((p,w) :: P.zip vs) m x=_
  unfold bindL
  exact Ze8 (i:=i) (Wbz.mp nd).2 (by simpa using h1) (by simpa using h2) hk
theorem Zfp {kindOf:Str->Option NameKind} {x:Str} {v:Value}:∀ {P:List Str} {vs:List Value} {i:Nat} {m:Str->Option Value},P.Nodup->P[i]? = some x->vs[i]? = some v->kindOf x ≠ some .local →
  bindC kindOf (P.zip vs) m x=some v
 | [],_,_,_,_,h,_,_=>by simp at h
 | _ :: _,[],_,_,_,_,h,_=>by simp at h
 | p :: P,w :: vs,0,m,nd,h1,h2,hk=>by
  simp at h1 h2; subst h1; subst h2
  show bindC kindOf ((p,w) :: P.zip vs) m p=_
  unfold bindC
  rw [Zfb fun v hv=>(Wbz.mp nd).1 (List.of_mem_zip hv).1,if_neg hk]
  simp
 | p :: P,w :: vs,i + 1,m,nd,h1,h2,hk=>by
  show bindC kindOf ((p,w) :: P.zip vs) m x=_
  unfold bindC
  exact Zfp (i:=i) (Wbz.mp nd).2 (by simpa using h1) (by simpa using h2) hk
noncomputable def start (N:List Str) (vs:List V):St:=vs.map some ++ Wab (N.length - vs.length) none
noncomputable def cxOf (CX:CXT) (P:Program) (w:World) (K:PySem.W.Frag) (mg:Str->Option Value) (base:Heap) (N:List Str) (qual:Str) (scope:Scope) (f:Addr) (cd:Value) (A:Around) (outer:List Env) (s:Shared) (H:Hp) (E:XK):Cx where
 prog:=P
 w:=w
 K:=K
 mg:=mg
 base:=base
 A:=A.deeper (envOfC qual scope s.heap.objs.size f cd)
 N:=N
 s₀:=s
 H₀:=H
 env:=envOfC qual scope s.heap.objs.size f cd
 outer:=outer
 stack:=envOfC qual scope s.heap.objs.size f cd :: outer
 ex:=[]
 calm:=true
 fn:=fun _=>true
 pn:=[]
 xe:=fun e s'=>wpAny (model P w) (A.deeper (envOfC qual scope s.heap.objs.size f cd)) (leaving (envOfC qual scope s.heap.objs.size f cd) e) (fun _ s''=>CX outer H s E e s'') (fun e' s''=>CX outer H s E e' s'') s'
theorem Zgv {sc:Scope} {n:Nat} {x:Str} (h:sc.names.lookup x=some .cell):∃ c,(cellsFrom n sc.names []).lookup x=some c:=by
 have q:=PySem.W.cellsFrom_some sc.names n [] (.inl h)
 exact Option.isSome_iff_exists.mp q
theorem Zhv {CX:CXT} {P:Program} {w:World} {K:PySem.W.Frag} {mg:Str->Option Value} {base:Heap} {N ps:List Str} {qual:Str} {scope:Scope} {f:Addr} {cd:Value} {A:Around} {outer:List Env} {s s1:Shared} {H:Hp} {E:XK} {us:List Value} {vs:List V}
  (S:FnScope N ps scope) (hd:A.handled=none) (e0:Env0 P w K mg base A outer s H) (hl:vs.length=ps.length) (r:Vals vs us)
  (x:InCallC s s.heap.objs.size (bindL (envOfC qual scope s.heap.objs.size f cd).kindOf (ps.zip us) fun _=>none) (cellsFrom (s.heap.objs.size + 1) scope.names []) (bindC (envOfC qual scope s.heap.objs.size f cd).kindOf (ps.zip us) fun _=>none) s1) :
  Inv (cxOf CX P w K mg base N qual scope f cd A outer s H E) [] (start N vs) H s1:=by
 have hpl:ps.length<=N.length:=by have:=congrArg Wa2 S.pre; rw [Wbl] at this; omega
 obtain ⟨h1,tk,rfl,hk⟩:=x.done
 have noA:∀ b:Addr,b ∉ (cxOf CX P w K mg base N qual scope f cd A outer s H E).ex:=fun b z=>absurd (show b ∈ ([]:List Addr) from z) (by simp)
 refine ⟨⟨e0.mod,S.kind,rfl,rfl,Waj _,fun y z c h1 h2=>?_,fun y hy=>?_,fun y c _ h=>?_,fun _=>hd,Around.frames_deeper e0.frames,.inr ⟨rfl,rfl⟩,fun b z=>absurd z (noA b),e0.bs,e0.bsz,fun b _ _=>noA b,fun b z=>absurd z (noA b),e0.funs,e0.frf⟩,
  rfl,e0.bare,Un.kept hk,⟨_,x.toInCall.ns,fun i y v h1 h2 h3=>?_⟩,fun y c h=>⟨_,x.cell y c h⟩,e0.hok.fresh (Waj _),fun y c h=>?_,fun p hp=>absurd (show p ∈ ([]:List (Addr × Obj)) from hp) (by simp),e0.hok.kept hk,?_⟩
 ·exact name_of_addr x.apart (PySem.mem_of_lookup h1) (PySem.mem_of_lookup h2)
 ·have hy:scope.names.lookup y=some .cell\/scope.names.lookup y=some .free:=hy
  rcases hy with hy | hy
  ·exact Zgv hy
  ·exact absurd rfl (S.nofree _ (PySem.mem_of_lookup hy))
 ·exact Wbp (x.above y c (PySem.mem_of_lookup h))
 ·have hi:i < vs.length:=by
   unfold start at h2
   by_cases hi:i < vs.length
   ·exact hi
   ·rw [Wap (by simpa using hi)] at h2
    rw [Wbc] at h2
    split at h2 <;> cases h2
  have ha:vs[i]? = some v:=by
   unfold start at h2
   rw [Wa3 (by simpa using hi),Wah] at h2
   cases e:vs[i]? with
   | none=>rw [e] at h2; cases h2
   | some a=>rw [e] at h2; cases h2; rfl
  obtain ⟨u,hu,rv⟩:=r.get ha
  have hp:ps[i]? = some y:=by
   rw [<- S.pre,List.getElem?_take_of_lt (by omega)]; exact h1
  have ndP:ps.Nodup:=by rw [<- S.pre]; exact S.nd.sublist (List.take_sublist _ _)
  refine ⟨u,rv,?_⟩
  rcases S.par y (Wa4 hp) with k | k
  ·exact .inl ⟨k,Ze8 ndP hp hu k⟩
  ·obtain ⟨c,e⟩:=Zgv (n:=s.heap.objs.size + 1) k
   refine .inr ⟨.inl k,c,e,?_⟩
   have q:=x.cell y c e
   rw [Zfp ndP hp hu (by show scope.names.lookup y ≠ _; rw [k]; decide)] at q
   exact q
 ·exact e0.hok.fresh (Wbp (x.above y c (PySem.mem_of_lookup h)))
 ·unfold start
  show _=N.length
  rw [Wai,Waa,Waz]
  omega
theorem Znw {CX:CXT} {P:Program} {w:World} {K:PySem.W.Frag} {mg:Str->Option Value} {base:Heap} {k:Nat} {f:Addr} {name qual:Str} {params:Arguments} {body:List Stmt} {scope:Scope} {dV kV doc pm cdv ct oc:Value} {an od:Option Addr}
  {osl:Array (Option Value)} {N ps:List Str} {sp:Sp} (lk:K.lookup f=some ⟨oc,od,.func (PySem.W.fnOf name qual params body scope dV kV doc pm an cdv ct),osl⟩) (hcd:PySem.W.codeIn K cdv qual=true) (S:FnScope N ps scope)
  (len:∀ vs H Q E,sp vs H Q E->vs.length=ps.length)
  (hbody:∀ (A:Around) (outer:List Env) (s:Shared) (H:Hp) (vs:List V) (Q:VK) (E:XK),Room k (A.deeper (envOfC qual scope s.heap.objs.size f cdv))->sp vs H Q E →
   ∃ t,PSs (cxOf CX P w K mg base N qual scope f cdv A outer s H E) body t/\t { nx:=fun _ H'=>Q .non H',rt:=Q } (start N vs) H) :
  FnOk P w K mg base CX (k + 1) f (PySem.W.fnOf name qual params body scope dV kV doc pm an cdv ct) ps sp:=by
 refine ⟨len,fun A outer s H args us vs Q E hr e0 hb r hsp=>?_⟩
 have hl:=len _ _ _ _ hsp
 have KX:K.In s.heap:=e0.mod.kin.keeps fun b o e=>(e0.bs b o e).1
 have lim:s.heap.NoLimit:=e0.mod.nolimit.keeps fun b o e=>(e0.bs b o e).1
 have hkind:∀ y ∈ ps.zip us,scope.names.lookup y.1=some .local\/(scope.names.lookup y.1=some .cell/\((cellsFrom (s.heap.objs.size + 1) scope.names []).lookup y.1).isSome=true):=fun ⟨n,v⟩ hy=>by
  rcases S.par n (List.of_mem_zip hy).1 with q | q
  ·exact .inl q
  ·exact .inr ⟨q,PySem.W.cellsFrom_some _ _ _ (.inl q)⟩
 refine codeAny_call_function hr.depth (KX _ _ lk) rfl S.co S.gen rfl (PySem.W.codeRec_of KX hcd) (hb _ _ _ _ ?_)
 refine wpAny_newFunctionEnv_cells S.kind hkind fun env he s1 x=>?_
 subst he
 refine ⟨lim.keeps x.toInCall.keep,codeAny_func ?_⟩
 obtain ⟨t,ht,hq⟩:=hbody A outer s H vs Q E (hr.deeper _) hsp
 have I:Inv (cxOf CX P w K mg base N qual scope f cdv A outer s H E) [] (start N vs) H s1:=Zhv S hr.hd e0 hl r x
 refine wpAny_mono (ht [] s1 (start N vs) H _ I hq) (fun fl s' hs=>?_) fun e s' hs=>hs
 have fin:∀ {σ':St} {H':Hp} {v:V} {u:Value},Inv (cxOf CX P w K mg base N qual scope f cdv A outer s H E) [] σ' H' s' -> RelV v u->Q v H' -> CE outer P w H s Q u s':=
  fun {σ' H' v u} J rv q=>⟨v,H',J.os,J.bare,J.base,J.hok,rv,q⟩
 cases fl with
 | ret u=>
  obtain ⟨v,σ',H',J,rv,q⟩:=hs
  exact fin J rv q
 | next=>
  obtain ⟨σ',H',J,q⟩:=hs
  exact fin (v:=V.non) (u:=Value.none) J rfl q
 | brk=>
  obtain ⟨_,_,_,q⟩:=hs
  exact False.elim q
 | cont=>
  obtain ⟨_,_,_,q⟩:=hs
  exact False.elim q
end L2
namespace L2
open PySem PySem.Spec PyProof.Rows
section
variable {X:Cx} {x:Str} {p pos:Pos} {e:Expr} {es:List Expr} {t:TA} {id T:String} {r:List V->Hp->VK->Prop}
noncomputable def tCB (r:List V->Hp->VK->Prop) (t:TA):TE:=fun σ H Q=>t σ H fun vs H1=>r vs H1 Q
theorem Zai (hc:CallR X (.builtin id) r) (hg:Gl X x) (hm:X.mg x=none) (hv:bootBuiltins x=some (.builtin id)) (ha:PA X (e :: es) t) (hn:x ≠ "__name__":=by decide) (hdb:(x == ("__debug__":Str))=false:=by decide)
  (he:starEach (e :: es) X.env=(false,eval e X.env) :: starEach es X.env:=by rfl) (hpl:(backTo pos (starEach es X.env)).any (·.1)=false:=by rfl):PE X (.Call (.Name x p) (e :: es) [] pos) (tCB r t):=by
 intro pins s σ H Q I h
 refine wpAny_Call_Name_kw (Zd4 I hg hm hv ?_ hn hdb)
 exact PyProof.Rows.callWith_builtin1 (thn (ha pos pins s σ H _ I h) fun us s1 ⟨vs,H1,I1,r1,q1⟩=>hc pins s1 σ H1 vs us Q I1 r1 q1) he hpl
theorem Zbi (hc:CallR X (.type T) r) (hg:Gl X x) (hm:X.mg x=none) (hv:bootBuiltins x=some (.type T)) (ha:PA X (e :: es) t) (hn:x ≠ "__name__":=by decide) (hdb:(x == ("__debug__":Str))=false:=by decide)
  (he:starEach (e :: es) X.env=(false,eval e X.env) :: starEach es X.env:=by rfl) (hpl:(backTo pos (starEach es X.env)).any (·.1)=false:=by rfl):PE X (.Call (.Name x p) (e :: es) [] pos) (tCB r t):=by
 intro pins s σ H Q I h
 refine wpAny_Call_Name_kw (Zd4 I hg hm hv ?_ hn hdb)
 exact PyProof.Rows.callWith_type1 (thn (ha pos pins s σ H _ I h) fun us s1 ⟨vs,H1,I1,r1,q1⟩=>hc pins s1 σ H1 vs us Q I1 r1 q1) he hpl
end
end L2
namespace HT
open PySem PyProof.Rows
section
open PySem.SeqAt
open PySem.AutoSeq1 (wpAny_loadPart')
open PySem.MeetsSeq PySem.MeetsSeq2 PySem.MeetsSeq3
end
section
variable {prog:Program} {w:World} {A:Around} {E:Value->Shared->Prop} {s:Shared}
theorem cat_tup {t b:Addr} {vs ws:List Value} {Q:Value->Shared->Prop} (ht:IsTup s.heap t vs.toArray) (hb:IsTup s.heap b ws.toArray) (hv:vs ≠ [])
  (h1:ws=[]->Q (.ref t) s) (h2:ws ≠ []->Q (.ref s.heap.objs.size) { s with heap:=s.heap.push { cls:=.type "tuple",data:=.seq (vs ++ ws).toArray } })
  (hsz:vs.length + ws.length<=sizeLine):wpAny (model prog w) A (binaryOp .Add (.ref t) (.ref b)) Q E s:=by
 obtain ⟨⟨cls,dd,data,sl⟩,ho,hc,n,hd⟩:=id ht
 obtain ⟨⟨cls2,dd2,data2,sl2⟩,ho2,hc2,n2,hd2⟩:=id hb
 simp only at hc hd hc2 hd2
 subst hc hd hc2 hd2
 have e:vs.toArray ++ ws.toArray=(vs ++ ws).toArray:=by simp
 by_cases hw:ws=[]
 ·exact concat_meets ⟨_,ho,rfl⟩ ⟨_,ho2,rfl⟩ noFill_tuple_add seq_tuple_add PySem.F.slot_tuple_add PySem.F.entry_tuple_add (PySem.F.args_tuple_add_2 _ _)
   (tuple_addW1 t b vs.toArray ws.toArray n n2 dd dd2 sl sl2 (by simpa using hv) (by simp [hw])) ⟨ho,ho2,h1 hw⟩
 ·refine concat_meets ⟨_,ho,rfl⟩ ⟨_,ho2,rfl⟩ noFill_tuple_add seq_tuple_add PySem.F.slot_tuple_add PySem.F.entry_tuple_add (PySem.F.args_tuple_add_2 _ _)
   (tuple_addW2 t b vs.toArray ws.toArray n n2 dd dd2 sl sl2 (by simpa using hv) (by simpa using hw) (by rw [Wae,Wae]; exact hsz)) ⟨ho,ho2,?_⟩
  rw [e]
  exact h2 hw
noncomputable def sIx (n d:Nat):Option Int->Nat
 | none=>d
 | some v=>if v < 0 then (v + (n:Int)).toNat else min v.toNat n
theorem sIx_none (n d:Nat):sIx n d none=d:=rfl
theorem sIx_nat (n d k:Nat):sIx n d (some (k:Int))=min k n:=by
 show (if (k:Int) < 0 then ((k:Int) + (n:Int)).toNat else min (k:Int).toNat n)=min k n
 rw [if_neg (by omega),Int.toNat_natCast]
theorem Znd (n d:Nat) (hd:d<=n) (o:Option Int):sIx n d o<=n:=by
 cases o with
 | none=>exact hd
 | some v=>
  show (if v < 0 then (v + (n:Int)).toNat else min v.toNat n)<=n
  by_cases hv:v < 0
  ·rw [if_pos hv]; omega
  ·rw [if_neg hv]; exact Nat.min_le_right _ _
theorem Zhp (v:Int) (n d:Nat):(if v < 0 then max (v + (n:Int)) 0 else min v (n:Int))=((sIx n d (some v):Nat):Int):=by
 show (if v < 0 then max (v + (n:Int)) 0 else min v (n:Int))=(((if v < 0 then (v + (n:Int)).toNat else min v.toNat n):Nat):Int)
 by_cases hv:v < 0
 ·simp only [if_pos hv]; omega
 ·simp only [if_neg hv]; omega
theorem Zhb (lo hi:Option Int) (n:Nat):Builtin.Slice.sliceAdjust lo hi 1 (n:Int)=(((sIx n 0 lo:Nat):Int),((sIx n n hi:Nat):Int)):=by
 have h1:¬ ((1:Int) < 0):=by omega
 unfold Builtin.Slice.sliceAdjust
 simp only [h1,if_false]
 refine Prod.ext ?_ ?_
 ·cases lo with
  | none=>rfl
  | some v=>exact Zhp v n 0
 ·cases hi with
  | none=>rfl
  | some v=>exact Zhp v n n
theorem Zg8 (i j:Nat):Builtin.Slice.slicePlaces (i:Int) (j:Int) 1=j - i:=by
 unfold Builtin.Slice.slicePlaces
 have h1:(1:Int) > 0:=by omega
 simp only [h1,if_true,Int.ediv_one]
 split <;> omega
theorem Zeb {v:Value} {o:Option Int} {Q:Option Int->Shared->Prop} (p:IsPart v o) (h:Q o s):wpAny (model prog w) A (Builtin.Slice.slicePartIndex v) Q E s:=by
 cases p with
 | none=>exact slicePart_none h
 | int i t=>exact slicePart_int h
theorem Zca {sl:Addr} {vl vu:Value} {lo hi:Option Int} {n:Nat} {Q:Int × Int × Nat->Shared->Prop} (hs:s.heap.IsSliceOf sl vl vu .none) (pl:IsPart vl lo) (pu:IsPart vu hi)
  (h:Q (((sIx n 0 lo:Nat):Int),1,sIx n n hi - sIx n 0 lo) s):wpAny (model prog w) A (Builtin.Slice.sliceApplied (.ref sl) (pure (n:Int))) Q E s:=by
 obtain ⟨os,hos,hcs,hds⟩:=id hs
 unfold Builtin.Slice.sliceApplied Builtin.Slice.sliceFields
 refine wpAny_bind (wpAny_bind (wpAny_field hos hds (x:=vl) rfl (wpAny_bind (wpAny_field hos hds (x:=vu) rfl (wpAny_bind (wpAny_field hos hds (x:=.none) rfl (wpAny_pure ?_)))))))
 refine wpAny_bind (slicePart_none ?_)
 show wpAny _ _ (if ((1:Int) == 0)=true then _ else _) _ _ s
 rw [if_neg (by decide)]
 refine wpAny_bind (Zeb pl (wpAny_bind (Zeb pu (wpAny_bind (wpAny_pure ?_)))))
 show wpAny _ _ (match Builtin.Slice.sliceAdjust lo hi 1 (n:Int) with | (lo,hi)=>pure (lo,(1:Int),Builtin.Slice.slicePlaces lo hi 1)) _ _ s
 rw [Zhb lo hi n]
 show wpAny _ _ (pure (((sIx n 0 lo:Nat):Int),(1:Int),Builtin.Slice.slicePlaces ((sIx n 0 lo:Nat):Int) ((sIx n n hi:Nat):Int) 1)) _ _ s
 rw [Zg8]
 exact wpAny_pure h
theorem Zje (xs:Array Value) (i k:Nat):((Wa7 k).filterMap fun (m:Nat)=>xs[((i:Int) + (m:Int) * 1).toNat]?).toArray=((xs.toList.drop i).take k).toArray:=by
 have e:(fun (m:Nat)=>xs[((i:Int) + (m:Int) * 1).toNat]?)=fun m=>xs[i + m]?:=by
  funext m
  have:((i:Int) + (m:Int) * 1).toNat=i + m:=by omega
  rw [this]
 rw [e]
 have:=pick_run xs i k
 rw [List.filterMap_map] at this
 have e2:((fun x=>xs[x]?) ∘ fun x=>i + x)=fun m=>xs[i + m]?:=rfl
 rw [e2] at this
 rw [this]
theorem getItem_tuple_cut {t sl:Addr} {items:Array Value} {vl vu:Value} {lo hi:Option Int} {Q:Value->Shared->Prop} (ht:IsTup s.heap t items) (hs:s.heap.IsSliceOf sl vl vu .none) (pl:IsPart vl lo) (pu:IsPart vu hi)
  (hw:¬ (sIx items.size 0 lo=0/\sIx items.size items.size hi=items.size))
  (h:Q (.ref s.heap.objs.size) { s with heap:=s.heap.push { cls:=.type "tuple",data:=.seq ((items.toList.drop (sIx items.size 0 lo)).take (sIx items.size items.size hi - sIx items.size 0 lo)).toArray } })
  (hsz:items.size<=sizeLine):wpAny (model prog w) A (getItem (.ref t) (.ref sl)) Q E s:=by
 have htake:sizeOk (.seq ((items.toList.drop (sIx items.size 0 lo)).take (sIx items.size items.size hi - sIx items.size 0 lo)).toArray):=by
  show ((items.toList.drop (sIx items.size 0 lo)).take (sIx items.size items.size hi - sIx items.size 0 lo)).toArray.size<=sizeLine
  rw [Wae,Wbl,Wbt,Array.length_toList]
  omega
 have hj:sIx items.size items.size hi<=items.size:=Znd _ _ (Waj _) hi
 obtain ⟨os,hos,hcs,hds⟩:=id hs
 have hTs:s.TypeIs (.ref sl) "slice":=⟨os,hos,hcs⟩
 unfold getItem
 try with_reducible refine wpAny_holding ?_
 first | refine wpAny_bind (wpAny_pure ?_) | skip
 refine wpAny_bind (wpAny_sequenceKey ht.typeIs (by decide) ?_)
 refine wpAny_bind (wpAny_callSpecial?_slot (name:=Str.ofString "__getitem__") ht.typeIs PyProof.Rows.slot_tuple_getitem
  (wpAny_call_entry PyProof.Rows.slot_tuple_getitem ht.typeIs entry_tuple_getitem ?_ (args_tuple_getitem _ _)))
 show wpAny _ _ (Builtin.Tuple.tupleItemsOf (.ref t) >>= _) _ _ s
 refine wpAny_bind (tupleItemsOf_ ht ?_)
 refine wpAny_bind (wpAny_typeOf hTs ?_)
 rw [if_pos (by decide)]
 refine wpAny_bind (Zca hs pl pu ?_)
 have hno:¬ ((((sIx items.size 0 lo:Nat):Int) == 0 && (1:Int) == 1 && (sIx items.size items.size hi - sIx items.size 0 lo) == items.size)=true):=by
  intro q
  rw [Wau,Wau] at q
  have q1:((sIx items.size 0 lo:Nat):Int)=0:=eq_of_beq q.1.1
  have q2:sIx items.size items.size hi - sIx items.size 0 lo=items.size:=eq_of_beq q.2
  exact hw ⟨by omega,by omega⟩
 show wpAny _ _ (if (((sIx items.size 0 lo:Nat):Int) == 0 && (1:Int) == 1 && (sIx items.size items.size hi - sIx items.size 0 lo) == items.size)=true then _ else _) _ _ s
 rw [if_neg hno,Zje]
 first
  | exact wpAny_bind (m:=Builtin.Tuple.tupleExact _) (wpAny_newObj_type (wpAny_pure ⟨_,rfl,wpAny_pure h⟩) htake)
  | exact wpAny_bind (m:=Builtin.Tuple.tupleExact _) (wpAny_newObj_type (wpAny_bind (wpAny_pure (wpAny_pure ⟨_,rfl,wpAny_pure h⟩))) htake)
  | exact wpAny_bind (wpAny_bind (m:=Builtin.Tuple.tupleExact _) (wpAny_newObj_type (wpAny_pure (wpAny_pure ⟨_,rfl,wpAny_pure h⟩)) htake))
  | exact wpAny_bind (wpAny_bind (m:=Builtin.Tuple.tupleExact _) (wpAny_newObj_type (wpAny_pure ⟨_,rfl,wpAny_pure h⟩) htake))
end
end HT
namespace L2
open PySem PySem.Spec PyProof.Rows
noncomputable abbrev TO:=St->Hp->(Option Int->Hp->Prop)->Prop
noncomputable def PO (X:Cx) (e:Option Expr) (t:TO):Prop:=
 ∀ (pins:List (Addr × Obj)) (s:Shared) (σ:St) (H:Hp) (Q:Option Int->Hp->Prop),Inv X pins σ H s->t σ H Q →
  wpAny (model X.prog X.w) X.A (evalPart e X.env) (fun u s'=>∃ o H',Inv X pins σ H' s' /\ IsPart u o/\Q o H') X.xe s
noncomputable def tNoPart:TO:=fun _ H Q=>Q none H
noncomputable def tPart (t:TE):TO:=fun σ H Q=>t σ H fun x H1=>∃ i,x=.int i/\Q (some i) H1
section
variable {X:Cx} {e:Expr} {te:TE} {lo hi:Option Expr} {tl th:TO} {pos p2:Pos}
theorem Zfz:PO X none tNoPart:=by
 intro pins s σ H Q I h
 rw [evalPart_none]
 exact wpAny_pure ⟨none,H,I,.none,h⟩
theorem Zfu (h:PE X e te):PO X (some e) (tPart te):=by
 intro pins s σ H Q I hw
 rw [evalPart_some]
 refine thn (h pins s σ H _ I hw) fun u s1 ⟨x,H1,I1,r1,q1⟩=>?_
 obtain ⟨i,rfl,q⟩:=q1
 obtain ⟨t,rfl⟩:=r1
 exact ⟨some i,H1,I1,.int i t,q⟩
noncomputable def SlR (X:Cx) (r:V->Option Int->Option Int->Hp->VK->Prop):Prop:=
 ∀ (pins:List (Addr × Obj)) (s:Shared) (σ:St) (H:Hp) (x:V) (v vl vu:Value) (lo hi:Option Int) (sl:Addr) (Q:VK),Inv X pins σ H s->RelV x v->s.heap.IsSliceOf sl vl vu .none->IsPart vl lo->IsPart vu hi->r x lo hi H Q →
  ∃ T id,typeLookup (.type T) "__getitem__" = pure (some (.builtin id))/\s.TypeIs v T/\wpAny (model X.prog X.w) X.A (getItem v (.ref sl)) (EP X pins σ Q) X.xe s
theorem SlR.or {r r':V->Option Int->Option Int->Hp->VK->Prop} (h:SlR X r) (h':SlR X r'):SlR X (fun x lo hi H Q=>r x lo hi H Q\/r' x lo hi H Q):=by
 intro pins s σ H x v vl vu lo hi sl Q I rx hs pl pu q
 rcases q with q | q
 ·exact h pins s σ H x v vl vu lo hi sl Q I rx hs pl pu q
 ·exact h' pins s σ H x v vl vu lo hi sl Q I rx hs pl pu q
noncomputable def tSl (r:V->Option Int->Option Int->Hp->VK->Prop) (te:TE) (tl th:TO):TE:=fun σ H Q=>te σ H fun x H1=>tl σ H1 fun l H2=>th σ H2 fun u H3=>r x l u H3 Q
theorem Zet {r:V->Option Int->Option Int->Hp->VK->Prop} (hr:SlR X r) (he:PE X e te) (hl:PO X lo tl) (hu:PO X hi th):PE X (.Subscript e (.Slice lo hi none p2) pos) (tSl r te tl th):=by
 intro pins s σ H Q I h
 refine Subscript_ (thn (he pins s σ H _ I h) fun v s1 ⟨x,H1,I1,r1,q1⟩=>?_)
 refine wpAny_Slice (thn (hl pins s1 σ H1 _ I1 q1) fun vl s2 ⟨l,H2,I2,pl,q2⟩=>thn (hu pins s2 σ H2 _ I2 q2) fun vu s3 ⟨u,H3,I3,pu,q3⟩=>?_)
 rw [evalPart_none]
 refine wpAny_pure ?_
 have I4:Inv X pins σ H3 { s3 with heap:=s3.heap.push { cls:=.type "slice",data:=.fields #[vl,vu,.none] } }:=I3.kept (t':=s3.toks) fun b ob q=>Wad _ q
 obtain ⟨T,id,hT,ht,hg⟩:=hr pins { s3 with heap:=s3.heap.push { cls:=.type "slice",data:=.fields #[vl,vu,.none] } } σ H3 x v vl vu l u s3.heap.objs.size Q I4 r1 (Heap.IsSliceOf.new ..) pl pu q3
 show wpAny (model X.prog X.w) X.A (subscriptTail e (.Slice lo hi none p2) v (.ref s3.heap.objs.size)) (EP X pins σ Q) X.xe { s3 with heap:=s3.heap.push { cls:=.type "slice",data:=.fields #[vl,vu,.none] } }
 exact tail_any (ops:=[.ref s3.heap.objs.size,v]) ht hT hg (by with_unfolding_all rfl)
noncomputable def cutV (xs:List V) (lo hi:Option Int):List V:=(xs.drop (HT.sIx xs.length 0 lo)).take (HT.sIx xs.length xs.length hi - HT.sIx xs.length 0 lo)
theorem Zdu (xs:List V) (lo hi:Option Int):(cutV xs lo hi).length<=xs.length:=by
 unfold cutV
 rw [Wbl,Wbt]
 omega
noncomputable def rSlT (K:PySem.W.Frag):V->Option Int->Option Int->Hp->VK->Prop:=fun x lo hi H Q=>∃ a xs,x=.ref a/\SqT K H a xs ∧
 ¬ (HT.sIx xs.length 0 lo=0/\HT.sIx xs.length xs.length hi=xs.length)/\∀ p,H p=none->Q (.ref p) (upd H p (.tup (cutV xs lo hi)))
theorem Zn6:SlR X (rSlT X.K):=by
 intro pins s σ H x v vl vu lo hi sl Q I rx hs pl pu h
 obtain ⟨a,xs,rfl,hx,hw,q⟩:=h
 cases rx
 obtain ⟨its,r,ht,hz⟩:=I.tuple hx
 have hlen:its.toArray.size=xs.length:=by rw [Wae]; exact r.length.symm
 refine ⟨"tuple",_,PyProof.Rows.slot_tuple_getitem.lookup,ht.typeIs,?_⟩
 refine HT.getItem_tuple_cut ht hs pl pu (by rw [hlen]; exact hw) ?_ (by rw [hlen]; exact hz)
 rw [hlen]
 refine ⟨.ref s.heap.objs.size,_,I.laid (t':=s.toks) (o:=.tup (cutV xs lo hi)) (fun b ob q=>Wad _ q) (Waj _) ?_,rfl,q _ (I.hok.fresh (Waj _))⟩
 exact ⟨Wa6 (Zdu xs lo hi) hz,_,(r.drop (HT.sIx xs.length 0 lo)).take (HT.sIx xs.length xs.length hi - HT.sIx xs.length 0 lo),IsTupN.new _ _⟩
noncomputable def rCatT (K:PySem.W.Frag):R2:=fun x y H Q=>∃ a b xs ys,x=.ref a/\y=.ref b/\SqT K H a xs/\SqT K H b ys/\xs ≠ []/\xs.length + ys.length<=sizeLine ∧
 (ys=[]->Q (.ref a) H)/\(ys ≠ []->∀ p,H p=none->Q (.ref p) (upd H p (.tup (xs ++ ys))))
theorem Vals.nil_iff {xs:List V} {us:List Value} (r:Vals xs us):us=[] ↔ xs=[]:=by
 cases r with
 | nil=>simp
 | cons _ _=>simp
theorem Zma:OpR X (binaryOp .Add) (rCatT X.K):=by
 intro pins s σ H x y v u Q I rx ry h
 obtain ⟨a,b,xs,ys,rfl,rfl,ha,hb,hx,hz,q1,q2⟩:=h
 cases rx
 cases ry
 obtain ⟨its,r1,p1,_⟩:=I.tuple ha
 obtain ⟨its2,r2,p2,_⟩:=I.tuple hb
 refine HT.cat_tup p1 p2 (fun z=>hx (r1.nil_iff.mp z)) (fun z=>⟨.ref a,H,I,rfl,q1 (r2.nil_iff.mp z)⟩) (fun z=>?_) (by rw [<- r1.length,<- r2.length]; exact hz)
 refine ⟨.ref s.heap.objs.size,_,I.laid (t':=s.toks) (o:=.tup (xs ++ ys)) (fun b ob q=>Wad _ q) (Waj _) ?_,rfl,q2 (fun w=>z (r2.nil_iff.mpr w)) _ (I.hok.fresh (Waj _))⟩
 exact ⟨by rw [Wai]; exact hz,_,r1.append r2,IsTupN.new _ _⟩
end
end L2
namespace L2
open PySem PySem.Spec PyProof.Rows
noncomputable def ixN (n:Nat) (i:Int):Option Nat:=if 0<=i then (if i < n then some i.toNat else none) else if -(n:Int)<=i then some (i + n).toNat else none
noncomputable def atI {α:Type} (xs:List α) (i:Int):Option α:=(ixN xs.length i).bind fun j=>xs[j]?
theorem Zir {n:Nat} {i:Int} {j:Nat} (h:ixN n i=some j):seqIndex? i n=some j/\j < n /\ -(n:Int)<=i/\i < n:=by
 unfold ixN at h
 by_cases h0:0<=i
 ·rw [if_pos h0] at h
  by_cases h1:i < n
  ·rw [if_pos h1] at h
   have e:i.toNat=j:=Wat.inj h
   exact ⟨by rw [seqIndex_of h0 h1,e],by omega,by omega,h1⟩
  ·rw [if_neg h1] at h; cases h
 ·rw [if_neg h0] at h
  by_cases h1:-(n:Int)<=i
  ·rw [if_pos h1] at h
   have e:(i + n).toNat=j:=Wat.inj h
   exact ⟨by rw [seqIndex_neg (by omega) h1,e],by omega,h1,by omega⟩
  ·rw [if_neg h1] at h; cases h
theorem Zf6 {α:Type} {xs:List α} {i:Int} {v:α} (h:atI xs i=some v):∃ j,seqIndex? i xs.length=some j/\xs[j]? = some v/\j < xs.length /\ -(xs.length:Int)<=i/\i < xs.length:=by
 unfold atI at h
 cases e:ixN xs.length i with
 | none=>rw [e] at h; cases h
 | some j=>
  rw [e] at h
  obtain ⟨h1,h2,h3,h4⟩:=Zir e
  exact ⟨j,h1,h,h2,h3,h4⟩
theorem Zax {α:Type} {xs:List α} {j:Nat} {v:α} (h:xs[j]? = some v):atI xs (j:Int)=some v:=by
 have hj:j < xs.length:=(Wak.mp h).1
 have e:ixN xs.length (j:Int)=some j:=by
  unfold ixN
  rw [if_pos (by omega),if_pos (by omega)]; simp
 unfold atI; rw [e]; exact h
noncomputable def PlainIx (b:Expr):Prop:=∀ o i,subscripted b false o i=operate [o,i] (getItem o i)
noncomputable def IxR (X:Cx) (r:R2):Prop:=
 ∀ (value slice:Expr) (pins:List (Addr × Obj)) (s:Shared) (σ:St) (H:Hp) (x y:V) (v u:Value) (Q:VK),Inv X pins σ H s->RelV x v->RelV y u->r x y H Q →
  subscripted slice false v u=operate [v,u] (getItem v u)->wpAny (model X.prog X.w) X.A (subscriptTail value slice v u) (EP X pins σ Q) X.xe s
noncomputable def MtR (X:Cx) (id:String) (r:V->List V->Hp->VK->Prop):Prop:=
 ∀ (pins:List (Addr × Obj)) (s:Shared) (σ:St) (H:Hp) (x:V) (xs:List V) (v:Value) (us:List Value) (Q:VK),Inv X pins σ H s->RelV x v->Vals xs us->r x xs H Q →
  wpAny (model X.prog X.w) X.A (call (.builtin id) (v :: us)) (EP X pins σ Q) X.xe s
section
variable {X:Cx} {a b:Expr} {ta tb:TE} {pos:Pos}
theorem IxR.or {r r':R2} (h:IxR X r) (h':IxR X r'):IxR X (fun x y H Q=>r x y H Q\/r' x y H Q):=by
 intro value slice pins s σ H x y v u Q I rx ry q hs
 rcases q with q | q
 ·exact h value slice pins s σ H x y v u Q I rx ry q hs
 ·exact h' value slice pins s σ H x y v u Q I rx ry q hs
theorem Zam {r:R2} (hr:IxR X r) (ha:PE X a ta) (hb:PE X b tb) (hs:PlainIx b):PE X (.Subscript a b pos) (tOp r ta tb):=by
 intro pins s σ H Q I h
 exact Subscript_ (binT ha hb I h fun v u s2 x y H2 I2 rx ry q=>hr a b pins s2 σ H2 x y v u Q I2 rx ry q (hs _ _))
noncomputable def rIxL (K:PySem.W.Frag):R2:=fun x y H Q=>∃ p xs i v,x=.ref p/\y=.int i/\SqL K H p xs/\atI xs i=some v/\Q v H
noncomputable def rIxT (K:PySem.W.Frag):R2:=fun x y H Q=>∃ p xs i v,x=.ref p/\y=.int i/\SqT K H p xs/\atI xs i=some v/\Q v H
noncomputable def rIxS:R2:=fun x y H Q=>∃ z i c,x=.str z/\y=.int i/\z.length<=sizeLine/\atI z.cps.toList i=some c/\Q (.str ⟨#[c]⟩) H
theorem Zk9:IxR X (rIxL X.K):=by
 intro value slice pins s σ H x y v u Q I rx ry h hs
 obtain ⟨p,xs,i,z,rfl,rfl,hq,he,q⟩:=h
 cases rx
 obtain ⟨t,rfl⟩:=ry
 obtain ⟨its,r,pl,hz⟩:=I.list hq
 obtain ⟨j,h1,h2,h3,h4,h5⟩:=Zf6 he
 obtain ⟨w,ew,rw'⟩:=r.get h2
 have hl:=r.length
 have hn:=line63
 have fin:EP X pins σ Q w s:=⟨z,H,I,rw',q⟩
 by_cases h0:0<=i
 ·have hj:i.toNat=j:=by
   rw [seqIndex_of h0 h5] at h1
   exact Wat.inj h1
  exact item_listR pl.isList h0 (by omega) (by rw [hj]; simpa using ew) fin hs
 ·have hj:(i + (its.toArray.size:Int)).toNat=j:=by
   rw [seqIndex_neg (by omega) h4] at h1
   rw [Wae,<- hl]
   exact Wat.inj h1
  exact subscriptTail_builtinR (x:=w) pl.isList.typeIs slot_list_getitem.lookup
   (wpAny_getItem_list_neg (Q:=fun r s'=>r=w/\EP X pins σ Q r s') pl.isList (by omega) (by rw [Wae] <;> omega) (by omega) (by rw [hj]; simpa using ew) ⟨rfl,fin⟩) hs
theorem Zm8:IxR X (rIxT X.K):=by
 intro value slice pins s σ H x y v u Q I rx ry h hs
 obtain ⟨p,xs,i,z,rfl,rfl,hq,he,q⟩:=h
 cases rx
 obtain ⟨t,rfl⟩:=ry
 obtain ⟨its,r,pl,hz⟩:=I.tuple hq
 obtain ⟨j,h1,h2,h3,h4,h5⟩:=Zf6 he
 obtain ⟨w,ew,rw'⟩:=r.get h2
 have hl:=r.length
 have hn:=line63
 have fin:EP X pins σ Q w s:=⟨z,H,I,rw',q⟩
 exact subscriptTail_builtinR (x:=w) pl.typeIs slot_tuple_getitem.lookup
  (getItem_tuple (j:=j) (Q:=fun r s'=>r=w/\EP X pins σ Q r s') pl (by omega) (by omega) (by rw [Wae,<- hl]; exact h1) (by simpa using ew) ⟨rfl,fin⟩) hs
theorem Zm9:IxR X rIxS:=by
 intro value slice pins s σ H x y v u Q I rx ry h hs
 obtain ⟨z,i,c,rfl,rfl,hz,he,q⟩:=h
 obtain ⟨t,rfl⟩:=rx
 obtain ⟨t',rfl⟩:=ry
 obtain ⟨j,h1,h2,h3,h4,h5⟩:=Zf6 he
 have hl:z.cps.toList.length=z.length:=by simp [Str.length]
 rw [hl] at h1 h4 h5
 have hn:=line63
 exact tail_any (typeIs_str s z t) slot_str_getitem.lookup (getItem_str (c:=c) (by
  have e1:decide (i < -(2 ^ 63:Int))=false:=decide_eq_false (by omega)
  have e2:decide (i ≥ 2 ^ 63)=false:=decide_eq_false (by omega)
  rw [e1,e2,Bool.or_false]) (by rw [h1]; simpa using h2) ⟨.str ⟨#[c]⟩,H,I.tok _,⟨_,rfl⟩,q⟩) hs
noncomputable def rIx (K:PySem.W.Frag):R2:=fun x y H Q=>rIxL K x y H Q\/rIxT K x y H Q\/rIxS x y H Q
theorem Zne:IxR X (rIx X.K):=Zk9.or (Zm8.or Zm9)
theorem Zg4 (its:List Value) (n j:Nat) (u:Value):Obj.mapSeq (·.setIfInBounds j u) { cls:=.type "list",data:=.seq its.toArray n } = { cls:=.type "list",data:=.seq (its.set j u).toArray n }:=by
 simp [Obj.mapSeq]
theorem Inv.lst {pins:List (Addr × Obj)} {σ:St} {H:Hp} {s:Shared} {p:Addr} {xs:List V} (I:Inv X pins σ H s) (h:H p=some (.lst xs)) :
  ∃ (its:List Value) (n:Nat),Vals xs its/\s.heap.get? p=some { cls:=.type "list",data:=.seq its.toArray n } /\ xs.length<=sizeLine:=by
 obtain ⟨z,its,n,r,e⟩:=I.hok p _ h
 exact ⟨its,n,r,e,z⟩
theorem Inv.lstUpd {pins:List (Addr × Obj)} {σ:St} {H:Hp} {s:Shared} {p:Addr} {xs ys:List V} {its its':List Value} {n n':Nat} {f:Obj->Obj} (I:Inv X pins σ H s) (h:H p=some (.lst xs))
  (ho:s.heap.get? p=some { cls:=.type "list",data:=.seq its.toArray n }) (hf:f { cls:=.type "list",data:=.seq its.toArray n } = { cls:=.type "list",data:=.seq its'.toArray n' }) (r:Vals ys its') (hz:ys.length<=sizeLine) (t:Nat) :
  Inv X pins σ (upd H p (.lst ys)) { s with heap:=s.heap.update p f,toks:=t }:=by
 have e:(s.heap.update p f).get? p=some { cls:=.type "list",data:=.seq its'.toArray n' }:=by
  rw [Wbo f ho (by rw [hf] <;> rfl),hf]
 refine I.write (x:=p) (e:=p) (by rw [h]; trivial) (.inl rfl) (fun b u hb q=>(Waw _ _ (Ne.symm hb)).trans q) ⟨_,e⟩ ?_
 exact ⟨hz,its',n',r,e⟩
noncomputable def rSetL:V->V->V->Hp->(Hp->Prop)->Prop:=fun o i v H Q=>∃ p xs k j,o=.ref p/\i=.int k/\H p=some (.lst xs)/\ixN xs.length k=some j/\Q (upd H p (.lst (xs.set j v)))
theorem Zj2:PSet X rSetL:=by
 intro pins s σ H o i v ov iv u Q I ro ri rv h
 obtain ⟨p,xs,k,j,rfl,rfl,hp,hj,q⟩:=h
 cases ro
 obtain ⟨t,rfl⟩:=ri
 obtain ⟨its,n,r,ho,hz⟩:=I.lst hp
 obtain ⟨h1,h2,h3,h4⟩:=Zir hj
 have hl:=r.length
 have hn:=line63
 have I':Inv X pins σ (upd H p (.lst (xs.set j v))) { s with heap:=s.heap.update p (Obj.mapSeq (·.setIfInBounds j u)) }:=
  I.lstUpd hp ho (Zg4 its n j u) (r.set rv j) (by rw [Wb0]; exact hz) s.toks
 by_cases h0:0<=k
 ·have hk:k.toNat=j:=by
   rw [seqIndex_of h0 h4] at h1
   exact Wat.inj h1
  exact PySem.W.ki_setAt ho h0 (by omega) (by rw [Wae,<- hl]; exact h4) (by rw [hk]; exact ⟨_,I',q⟩)
 ·have hk:(k + (its.toArray.size:Int)).toNat=j:=by
   rw [seqIndex_neg (by omega) h3] at h1
   rw [Wae,<- hl]
   exact Wat.inj h1
  exact PySem.W.ki_setBack ho (by omega) (by rw [Wae,<- hl]; exact h3) (by omega) (by rw [hk]; exact ⟨_,I',q⟩)
theorem Zfc (lo hi:Option Int) (n:Nat):(sliceBounds lo hi none n).1=((HT.sIx n 0 lo:Nat):Int)/\(sliceBounds lo hi none n).2.1=((HT.sIx n n hi:Nat):Int)/\(sliceBounds lo hi none n).2.2=1:=by
 refine ⟨?_,?_,rfl⟩
 ·cases lo with
  | none=>simp [sliceBounds,HT.sIx]
  | some i=>
   simp only [sliceBounds,HT.sIx,Option.getD_none,show (1:Int) > 0 by decide,if_true]
   by_cases h:i < 0
   ·simp only [h,if_true] <;> omega
   ·simp only [h,if_false] <;> omega
 ·cases hi with
  | none=>simp [sliceBounds,HT.sIx]
  | some i=>
   simp only [sliceBounds,HT.sIx,Option.getD_none,show (1:Int) > 0 by decide,if_true]
   by_cases h:i < 0
   ·simp only [h,if_true] <;> omega
   ·simp only [h,if_false] <;> omega
theorem Zeo (its:List Value) (lo hi:Option Int):slicePick its.toArray lo hi none=((its.drop (HT.sIx its.length 0 lo)).take (HT.sIx its.length its.length hi - HT.sIx its.length 0 lo)).toArray:=by
 obtain ⟨h1,h2,h3⟩:=Zfc lo hi its.toArray.size
 unfold slicePick
 rw [h1,h2,h3]
 simp only [sliceRange_one,pick_run,Wae] <;> rfl
noncomputable def rSlL (K:PySem.W.Frag):V->Option Int->Option Int->Hp->VK->Prop:=fun x lo hi H Q=>∃ a xs,x=.ref a/\SqL K H a xs/\∀ p,H p=none->Q (.ref p) (upd H p (.lst (cutV xs lo hi)))
theorem Zlq:SlR X (rSlL X.K):=by
 intro pins s σ H x v vl vu lo hi sl Q I rx hs pl pu h
 obtain ⟨a,xs,rfl,hx,q⟩:=h
 cases rx
 obtain ⟨its,r,ht,hz⟩:=I.list hx
 have hlen:=r.length
 refine ⟨"list",_,slot_list_getitem.lookup,ht.isList.typeIs,?_⟩
 refine wpAny_getItem_list_slice ht.isList hs pl pu .none (by simp) ?_ (by rw [Wae] <;> omega)
 rw [Zeo,<- hlen]
 refine ⟨.ref s.heap.objs.size,_,I.laid (t':=s.toks) (o:=.lst (cutV xs lo hi)) (fun b ob q=>Wad _ q) (Waj _) ?_,rfl,q _ (I.hok.fresh (Waj _))⟩
 exact ⟨Wa6 (Zdu xs lo hi) hz,_,0,(r.drop (HT.sIx xs.length 0 lo)).take (HT.sIx xs.length xs.length hi - HT.sIx xs.length 0 lo),Wav _ rfl⟩
noncomputable def flatV:V->Bool
 | .non=>true
 | .bl _=>true
 | .int _=>true
 | .str _=>true
 | _=>false
noncomputable def eqV:V->V->Bool
 | .non,.non=>true
 | .bl a,.bl b=>a == b
 | .bl a,.int b=>(if a then 1 else 0) == b
 | .int a,.bl b=>a == (if b then 1 else 0)
 | .int a,.int b=>a == b
 | .str a,.str b=>a == b
 | _,_=>false
theorem Zff:CallR X (.builtin "len") (fun xs H Q=>∃ p ys,xs=[.ref p]/\(SqL X.K H p ys\/SqT X.K H p ys)/\Q (.int ys.length) H):=by
 intro pins s σ H xs us Q I r h
 obtain ⟨p,ys,rfl,hq,q⟩:=h
 obtain ⟨u,rfl,rx⟩:=vals1 r
 cases rx
 have hn:=line63
 rcases hq with hq | hq
 ·obtain ⟨its,r',pl,hz⟩:=I.list hq
  have hlen:=r'.length
  exact Calls.call_len_list pl.isList (by simp only [Wae] <;> omega) ⟨.int ys.length,H,I.tok _,⟨s.toks + 1,by rw [Wae,hlen]⟩,q⟩
 ·obtain ⟨its,r',pl,hz⟩:=I.tuple hq
  have hlen:=r'.length
  exact len_tuple pl (by simp only [Wae] <;> omega) ⟨.int ys.length,H,I.tok _,⟨s.toks + 1,by rw [Wae,hlen]⟩,q⟩
theorem CallR.or {f:Value} {r r':List V->Hp->VK->Prop} (h:CallR X f r) (h':CallR X f r'):CallR X f (fun xs H Q=>r xs H Q\/r' xs H Q):=by
 intro pins s σ H xs us Q I rs q
 rcases q with q | q
 ·exact h pins s σ H xs us Q I rs q
 ·exact h' pins s σ H xs us Q I rs q
theorem Zez:CallR X (.type "tuple") (fun xs H Q=>∃ p ys,xs=[.ref p]/\((SqL X.K H p ys/\∀ l,H l=none->Q (.ref l) (upd H l (.tup ys)))\/(SqT X.K H p ys/\Q (.ref p) H))):=by
 intro pins s σ H xs us Q I r h
 obtain ⟨p,ys,rfl,h⟩:=h
 obtain ⟨u,rfl,rx⟩:=vals1 r
 cases rx
 rcases h with ⟨hq,q⟩ | ⟨hq,q⟩
 ·obtain ⟨its,r',pl,hz⟩:=I.list hq
  have hlen:=r'.length
  refine call_tuple_list pl.isList (fun h' kp=>?_) (by simp only [Wae] <;> omega)
  have I1:Inv X pins σ H { s with heap:=h' }:=I.kept (t':=s.toks) kp
  have I2:Inv X pins σ (upd H h'.objs.size (.tup ys)) { s with heap:=h'.push { cls:=.type "tuple",data:=.seq its.toArray } }:=
   I1.laid (t':=s.toks) (fun b o e=>Wad _ e) (Waj _) (show ObjOk X.prog X.w _ _ _ (.tup ys) from ⟨hz,its,r',IsTupN.new _ _⟩)
  exact ⟨.ref h'.objs.size,_,I2,rfl,q _ (I1.hok.fresh (Waj _))⟩
 ·obtain ⟨its,r',pl,hz⟩:=I.tuple hq
  exact call_tuple_same pl ⟨.ref p,H,I,rfl,q⟩
noncomputable def tyV (K:PySem.W.Frag) (T:String) (x:V) (H:Hp):Prop:=match x with
 | .str _=>T = "str"
 | .int _=>T = "int"
 | .ref p=>(T = "list" /\ ∃ xs,SqL K H p xs)\/(T = "tuple" /\ ((∃ o,K.lookup p=some o/\o.cls=.type "tuple" /\ o.dict=none)\/∃ xs,H p=some (.tup xs))) ∨
   (T = "dict" /\ ((∃ kvs,H p=some (.dK kvs))\/∃ kvs,H p=some (.dT kvs)))\/(T = "set" /\ ∃ S n,H p=some (.set S n))
 | _=>False
theorem Zmu {pins:List (Addr × Obj)} {σ:St} {H:Hp} {s:Shared} {T:String} {x:V} {v:Value} (I:Inv X pins σ H s) (r:RelV x v) (ty:tyV X.K T x H) :
  s.TypeIs v T/\∀ a,v=.ref a->∃ ob,s.heap.get? a=some ob/\ob.dict=none:=by
 cases x with
 | str z=>
  obtain ⟨t,rfl⟩:=r
  cases (show T = "str" from ty)
  exact ⟨typeIs_str s z t,fun _ e=>nomatch e⟩
 | int i=>
  obtain ⟨t,rfl⟩:=r
  cases (show T = "int" from ty)
  exact ⟨typeIs_int s i t,fun _ e=>nomatch e⟩
 | ref p=>
  cases r
  rcases ty with ⟨rfl,xs,hq⟩ | ⟨rfl,(⟨o,hk,hc,hd⟩ | ⟨xs,hk⟩)⟩ | ⟨rfl,hk⟩ | ⟨rfl,S,n,hk⟩
  ·obtain ⟨its,_,pl,_⟩:=I.list hq
   refine ⟨pl.isList.typeIs,fun a e=>?_⟩
   cases e
   obtain ⟨o,n,e,c,hd,_⟩:=pl
   exact ⟨o,e,hd⟩
  ·refine ⟨⟨o,I.kIn p o hk,hc⟩,fun a e=>?_⟩
   cases e
   exact ⟨o,I.kIn _ o hk,hd⟩
  ·obtain ⟨_,_,_,o,e,⟨hc,_⟩,hd⟩:=I.hok p _ hk
   refine ⟨⟨o,e,hc⟩,fun a e2=>?_⟩
   cases e2
   exact ⟨o,e,hd⟩
  ·have z:∃ o,s.heap.get? p=some o/\o.ExactDict:=by
    rcases hk with ⟨kvs,hk⟩ | ⟨kvs,hk⟩
    ·obtain ⟨_,_,_,_,o,_,_,e,ex,_⟩:=I.hok p _ hk
     exact ⟨o,e,ex⟩
    ·obtain ⟨_,_,_,_,o,_,_,e,ex,_⟩:=I.hok p _ hk
     exact ⟨o,e,ex⟩
   obtain ⟨o,e,ex⟩:=z
   refine ⟨⟨o,e,ex.1⟩,fun a e2=>?_⟩
   cases e2
   exact ⟨o,e,ex.2.1⟩
  ·obtain ⟨o,_,_,_,e,ex,_⟩:=I.hok p _ hk
   refine ⟨⟨o,e,ex.1⟩,fun a e2=>?_⟩
   cases e2
   exact ⟨o,e,ex.2.1⟩
 | _=>exact False.elim ty
noncomputable def tBM (K:PySem.W.Frag) (T:String) (r:V->List V->Hp->VK->Prop) (to:TE) (t:TA):TE:=fun σ H Q=>to σ H fun x H1=>tyV K T x H1/\t σ H1 fun xs H2=>r x xs H2 Q
variable {o e:Expr} {es:List Expr} {to:TE} {t:TA} {name:Str} {apos cpos:Pos} {T id:String} {r:V->List V->Hp->VK->Prop}
theorem Zoz (pa:PlainAttrs T) (slot:Slot T name id) (hty:typeOf (.builtin id)=pure (.type "method_descriptor")) (hm:MtR X id r) (ho:PE X o to) (ha:PA X (e :: es) t)
  (hbase:attributeBase o name X.env (eval o X.env)=eval o X.env:=by rfl)
  (hfew:((backTo cpos (starEach (e :: es) X.env)).all (fun x=>!x.1) && (backToKw cpos (keywordEach [] X.env)).all (fun x=>x.1.isSome)
   && decide ((e :: es).length + ([]:List Keyword).length + (if ([]:List Keyword).isEmpty then 0 else 1) < 30))=true:=by rfl)
  (hline:(apos.endLine == cpos.line)=true:=by rfl) (hs:starEach (e :: es) X.env=(false,eval e X.env) :: starEach es X.env:=by rfl) (hplain:(backTo cpos (starEach es X.env)).any (·.1)=false:=by rfl) :
  PE X (.Call (.Attribute o name apos) (e :: es) [] cpos) (tBM X.K T r to t):=by
 intro pins s σ H Q I h
 refine wpAny_Call_method_late hbase hfew hline rfl (thn (ho pins s σ H _ I h) fun v s1 ⟨x,H1,I1,r1,ty,q1⟩=>?_)
 obtain ⟨h1,h2⟩:=Zmu I1 r1 ty
 refine ⟨T,id,pa,slot,hty,h1,h2,?_⟩
 have hA:=ha cpos pins s1 σ H1 _ I1 q1
 rw [hs] at hA ⊢
 refine Calls.callWith_builtin (by show (false || (backTo cpos (starEach es X.env)).any (·.1))=false; rw [hplain] <;> rfl) (Calls.evalArgs_plain ?_)
 exact thn hA fun us s2 ⟨vs,H2,I2,r2,q2⟩=>hm pins s2 σ H2 x vs v us Q I2 r1 r2 q2
end
end L2
namespace L2
open PySem PySem.Spec PyProof.Rows
noncomputable def MtM (X:Cx) (id:String) (r:V->List V->Hp->VK->Prop):Prop:=
 ∀ (pins:List (Addr × Obj)) (s:Shared) (σ:St) (H:Hp) (x:V) (xs:List V) (v:Value) (us:List Value) (Q:VK),Inv X pins σ H s->RelV x v->Vals xs us->r x xs H Q →
  wpAny (model X.prog X.w) X.A (call (.builtin id) (v :: us)) (EP X pins σ Q) X.xe s
theorem Vals.one:∀ {x:V} {us:List Value},Vals [x] us->∃ u,us=[u]/\RelV x u:=by
 intro x us h; cases h with | cons r t=>cases t; exact ⟨_,rfl,r⟩
theorem Vals.two:∀ {x y:V} {us:List Value},Vals [x,y] us->∃ u v,us=[u,v]/\RelV x u/\RelV y v:=by
 intro x y us h; cases h with | cons r t=>cases t with | cons q t=>cases t; exact ⟨_,_,rfl,r,q⟩
theorem Vals.eraseIdx:∀ {xs:List V} {us:List Value} (i:Nat),Vals xs us->Vals (xs.eraseIdx i) (us.eraseIdx i)
 | _,_,_,.nil=>.nil
 | _,_,0,.cons _ t=>t
 | _,_,i + 1,.cons r t=>.cons r (Vals.eraseIdx i t)
theorem Ze9 {α:Type}:∀ (l:List α) (i:Nat),(l.eraseIdx i).length<=l.length
 | [],_=>Waj _
 | _ :: _,0=>Nat.le_succ _
 | _ :: r,i + 1=>Nat.succ_le_succ (Ze9 r i)
section
variable {X:Cx} {pins:List (Addr × Obj)} {σ:St} {H:Hp} {s:Shared} {l b:Addr} {xs ys zs:List V}
theorem Inv.lset {its its':List Value} {n:Nat} {f:Array Value->Array Value} {t':Nat} (I:Inv X pins σ H s) (hH:H l=some (.lst xs))
  (e:s.heap.get? l=some { cls:=.type "list",data:=.seq its.toArray n }) (hf:f its.toArray=its'.toArray) (hv:Vals ys its') (hz:ys.length<=sizeLine) :
  Inv X pins σ (upd H l (.lst ys)) { s with heap:=s.heap.update l (Obj.mapSeq f),toks:=t' }:=by
 have q:=PySem.IsL.update e f
 rw [hf] at q
 refine I.write (x:=l) (e:=l) (by rw [hH]; exact trivial) (.inl rfl) (fun b' u hb hu=>(Waw s.heap (Obj.mapSeq f) (Ne.symm hb)).trans hu) ⟨_,q⟩ ?_
 exact ⟨hz,its',_,hv,q⟩
theorem Inv.lnew {its:List Value} {t':Nat} (I:Inv X pins σ H s) (hv:Vals ys its) (hz:ys.length<=sizeLine) :
  Inv X pins σ (upd H s.heap.objs.size (.lst ys)) { s with heap:=s.heap.push { cls:=.type "list",data:=.seq its.toArray },toks:=t' }:=
 I.laid (fun _ _ q=>Wad _ q) (Waj _) ⟨hz,its,0,hv,Wav _ rfl⟩
theorem Inv.fresh (I:Inv X pins σ H s):H s.heap.objs.size=none:=I.hok.fresh (Waj _)
theorem Inv.lstM (I:Inv X pins σ H s) (hH:H l=some (.lst xs)):xs.length<=sizeLine/\∃ (its:List Value) (n:Nat),Vals xs its/\xs.length=its.length/\s.heap.get? l=some { cls:=.type "list",data:=.seq its.toArray n }:=by
 obtain ⟨z,its,n,r,e⟩:=I.hok l _ hH
 exact ⟨z,its,n,r,r.length,e⟩
end
section
variable {X:Cx}
noncomputable def rAppend:V->List V->Hp->VK->Prop:=fun x vs H Q=>∃ l xs y,x=.ref l/\vs=[y]/\H l=some (.lst xs)/\xs.length < sizeLine/\Q .non (upd H l (.lst (xs ++ [y])))
theorem Zfl:MtM X "list.append" rAppend:=by
 intro pins s σ H x vs v us Q I rx rv h
 obtain ⟨l,xs,y,rfl,rfl,hH,hz,q⟩:=h
 cases rx
 obtain ⟨u,rfl,ru⟩:=rv.one
 obtain ⟨z,its,n,r,hl,e⟩:=I.lstM hH
 refine call_meets F.slot_list_append ⟨_,e,rfl⟩ F.entry_list_append (F.args_list_append_2 _ _) (PySem.list_append l its.toArray n u (by rw [Wae]; omega)) ⟨e,?_⟩
 refine ⟨.non,_,I.lset (its':=its ++ [u]) hH e (by simp) (r.append (.cons ru .nil)) ?_,rfl,q⟩
 rw [Wai,Way]
 omega
noncomputable def rPopAt:V->List V->Hp->VK->Prop:=fun x vs H Q=>∃ l xs i k y,x=.ref l/\vs=[.int i]/\H l=some (.lst xs) /\ -(2 ^ 63)<=i/\i < 2 ^ 63/\seqIndex? i xs.length=some k/\xs[k]? = some y/\Q y (upd H l (.lst (xs.eraseIdx k)))
theorem Zjp:MtM X "list.pop" rPopAt:=by
 intro pins s σ H x vs v us Q I rx rv h
 obtain ⟨l,xs,i,k,y,rfl,rfl,hH,h1,h2,hk,hy,q⟩:=h
 cases rx
 obtain ⟨u,rfl,ru⟩:=rv.one
 obtain ⟨t,rfl⟩:=ru
 obtain ⟨z,its,n,r,hl,e⟩:=I.lstM hH
 obtain ⟨w,hw,rw'⟩:=r.get hy
 refine call_meets F.slot_list_pop ⟨_,e,rfl⟩ F.entry_list_pop (F.args_list_pop_2 _ _)
  (MeetsSeq.list_pop_at l its.toArray n i t k w (fitsIndex_both h1 h2) (by rw [Wae,<- hl]; exact hk) (by rw [<- Array.getElem?_toList]; exact hw) (by rw [Wae]; omega)) ⟨e,?_⟩
 refine ⟨y,_,I.lset (its':=its.eraseIdx k) hH e ?_ (r.eraseIdx k) ?_,rw',q⟩
 ·show its.toArray.eraseIdxIfInBounds k=(its.eraseIdx k).toArray
  rw [List.eraseIdxIfInBounds_toArray]
 ·have:=Ze9 xs k
  omega
noncomputable def rCat:R2:=fun x y H Q=>∃ l b xs zs,x=.ref l/\y=.ref b/\H l=some (.lst xs)/\H b=some (.lst zs)/\xs.length + zs.length<=sizeLine/\∀ p,H p=none->Q (.ref p) (upd H p (.lst (xs ++ zs)))
theorem Znv:OpR X (binaryOp .Add) rCat:=by
 intro pins s σ H x y v u Q I rx ry h
 obtain ⟨l,b,xs,zs,rfl,rfl,hH,hB,hz,q⟩:=h
 cases rx
 cases ry
 obtain ⟨z,its,n,r,hl,e⟩:=I.lstM hH
 obtain ⟨z2,its2,n2,r2,hl2,e2⟩:=I.lstM hB
 refine PySem.P.add_list e e2 ?_ (by rw [Wae,Wae]; omega)
 have ea:its.toArray ++ its2.toArray=(its ++ its2).toArray:=by simp
 rw [ea]
 exact ⟨.ref _,_,I.lnew (t':=s.toks) (r.append r2) (by rw [Wai]; omega),rfl,q _ I.fresh⟩
end
section
variable {X:Cx}
end
end L2
namespace Att
open PySem PySem.W PySem.Calls PyProof.Rows
theorem Zdr {P:Params} {h:Heap}:∀ (ns:List Int) (vs:List Value),WellAll P h vs (ns.map WData.int)->IntsAre vs ns:=by
 intro ns
 induction ns with
 | nil=>
  intro vs w
  rw [List.map_nil] at w
  cases w
  exact .nil
 | cons n ns ih=>
  intro vs w
  rw [Wa1] at w
  cases w with
  | cons a b=>
   cases a
   exact .cons _ _ (ih _ b)
theorem Zib {l:OpenLaw} {n:Nat} (hn:l.most=some n) {P:Params} {h:Heap} {args:List WData} {vals:List Value}
  (hpre:l.row.toRowW.claim.pre args=true) (hwl:WellAll P h vals args) :
  ∃ a vs ns,vals=[Value.ref a]/\args=[WData.list (ns.map WData.int)]/\h.get? a=some { cls:=.type "list",data:=.seq vs.toArray } /\ IntsAre vs ns/\ns.length<=n:=by
 have hsh:WShape.hasAll [] args [.list .int]=true:=(pre_splitW hpre).1
 have hc:l.pre.holds [] { args:=args } = true:=(pre_splitW hpre).2
 obtain ⟨d,r,rfl,h1,h2⟩:=hasAllW_cons hsh
 obtain rfl:=hasAllW_nil h2
 obtain ⟨xs,rfl,h3⟩:=hasW_list h1
 obtain ⟨ns,rfl⟩:=items_int h3
 have hlen:ns.length<=n:=by
  unfold OpenLaw.pre at hc
  have h4:(WTm.not (.lt (.lit (.int (n:Int))) (.len (.arg 0)))).holds [] { args:=[.list (ns.map .int)] } = true:=by
   have h4:=(holds_andW hc).1
   rw [hn] at h4
   exact h4
  have h5:=condW_of h4 (w_not (w_lt w_lit (w_len_list (w_arg rfl))))
  rw [Waa] at h5
  refine Nat.le_of_not_lt fun q=>?_
  have q':(n:Int) < ((ns.length:Nat):Int):=by omega
  first
   | (rw [decide_eq_true q'] at h5; exact absurd h5 (by decide))
   | (simp at h5; omega)
 cases hwl with
 | cons w1 w2=>
  cases w2
  cases w1 with
  | list ho hall=>exact ⟨_,_,ns,rfl,rfl,ho,Zdr ns _ hall,hlen⟩
theorem Ziu (l:OpenLaw) (args:List WData):l.row.toRowW.claim.post args (.bool true) args=true:=
 postW_of (r:=l.row.toRowW) (X:=(true == true))
  (show WShape.has [] (.bool true) .bool=true by first | rfl | decide | simp [WShape.has,WShape.arms,WShape.armsAll])
  (show (WTm.eq .res (.lit (.bool true))).value [] { args:=args,res:=some (.bool true),after:=args } = some (.bool (true == true)) from w_eq_bool (w_res rfl) w_lit) rfl
theorem attach_call {l:OpenLaw} {n:Nat} {q:Program} {loose:List Str} {XP:(Str->Option Value)->Heap->Prop} {YP:World->Heap->Prop} {d:DefRec}
  (hn:l.most=some n) (hdf:d.params.defaults=[])
  (call:∀ (w:World) (s₀ s₁:Shared) (mg mb:Str->Option Value) (fa:Addr) (o:Obj) (pm cd doc:Value) (a:Addr) (vs:List Value) (ns:List Int),
   Ground q loose [] XP w s₀ mg mb s₁.heap->YP w s₁.heap →
   s₁.heap.get? fa=some o->o.data=.func (docDef d.name d.params d.body d.scope pm cd doc)->s₁.heap.CodeRec cd d.name->mg d.name=some (.ref fa) →
   s₁.heap.get? a=some { cls:=.type "list",data:=.seq vs.toArray } -> IntsAre vs ns->ns.length<=n->s₁.gens = #[] →
   codeAny (model l.prog w) callerA (.call (.ref fa) ⟨[.ref a],[]⟩) (fun r s'=>r=.ok (.ret (.bool true))/\OldK s₁.heap s'.heap/\s'.os=s₁.os/\AllBare s'.gens) s₁) :
  WalkO q loose XP YP l.row.toRowW d [] (fun f vs=>PySem.call f vs):=by
 intro w s₀ s₁ mg mb G Y fa o pm cd doc dV kV ho hd hcd hD hmg hg args vals as hpre hlay hrd hwl hlo
 obtain rfl:dV=.none:=Dflts.none hD hdf
 obtain rfl:kV=.none:=Dflts.noKw hD
 obtain ⟨a,vs,ns,rfl,rfl,hobj,hints,hlen⟩:=Zib hn hpre hwl
 refine enter_call (codeAny_mono (call w s₀ s₁ mg mb fa o pm cd doc a vs ns G Y ho (fd_plain hd) hcd hmg hobj hints hlen hg) fun r s' hq=>?_)
 obtain ⟨rfl,h2,h3,h4⟩:=hq
 exact ⟨.inl ⟨.bool true,.bool true,[],rfl,fun _=>rfl,.bool true,Ziu l _,fun _=>⟨List.Pairwise.nil,fun _ hm=>(nomatch hm)⟩⟩,h2,h3,h4⟩
end Att
namespace L2
open PySem PySem.Spec PyProof.Rows
theorem Zd1:∀ {vs:List Value} {ns:List Int},IntsAre vs ns->Vals (ns.map V.int) vs
 | _,_,.nil=>.nil
 | _,_,.cons n t h=>.cons ⟨t,rfl⟩ (Zd1 h)
noncomputable def Only (H:Hp):Prop:=∀ b,H b=none\/∃ o xs,H b=some (.frz o (.lst xs))
theorem law_call {P:Program} {w:World} {K:PySem.W.Frag} {mg mb:Str->Option Value} {CX:CXT} {k:Nat} {fa a:Addr} {fd:FuncData} {x:Str} {sp:Sp} {s₁:Shared} {vs:List Value} {ns:List Int}
  (KX:K.In s₁.heap) (hns:s₁.heap.Ns mainGlobals mg) (hb:s₁.heap.Ns builtinsNs mb) (hbb:∀ x:Str,x ≠ "__name__" -> mb x=bootBuiltins x) (hlim:s₁.heap.NoLimit) (hg:s₁.gens = #[])
  (ha:s₁.heap.get? a=some { cls:=.type "list",data:=.seq vs.toArray }) (hi:IntsAre vs ns) (hl:ns.length<=sizeLine) (hr:Room k callerA)
  (F:∀ base:Heap,K.In base->base.Ns mainGlobals mg->FnOk P w K mg base CX k fa fd [x] sp) (hbind:∀ (s:Shared) (u:Value),BindsTo s fd ⟨[u],[]⟩ [(x,u)])
  (hsp:∀ H:Hp,Only H->SqL K H a (ns.map V.int)->sp [.ref a] H (fun v _=>v=.bl true) fun _ _ _=>False)
  (hCX:∀ H e s',CX [] H s₁ (fun _ _ _=>False) e s' -> False) :
  codeAny (model P w) callerA (.call (.ref fa) ⟨[.ref a],[]⟩) (fun r s'=>r=.ok (.ret (.bool true))/\OldK s₁.heap s'.heap/\s'.os=s₁.os/\AllBare s'.gens) s₁:=by
 have rv:=Zd1 hi
 have lenV:=hi.length
 -- from an abstract heap in which nothing but the script may be tracked
 have core:∀ H:Hp,Only H->SqL K H a (ns.map V.int)->HOk P w H s₁.heap->(∀ b,H b ≠ none->b=a)->(H a ≠ none->K.lookup a=none) →
   codeAny (model P w) callerA (.call (.ref fa) ⟨[.ref a],[]⟩) (fun r s'=>r=.ok (.ret (.bool true))/\OldK s₁.heap s'.heap/\s'.os=s₁.os/\AllBare s'.gens) s₁:=by
  intro H hO hS hok hA hK
  have base_of:∀ {b:Addr} {o:Obj},s₁.heap.get? b=some o->H b=none->(hidT s₁.heap H).get? b=some o:=fun e n=>Zkh e n
  have noA:∀ {b:Addr} {o:Obj} {es:Array DictEntry} {ep:Nat},s₁.heap.get? b=some o->o.data=.dict es ep->H b=none:=fun {b o es ep} e d=>by
   cases q:H b with
   | none=>rfl
   | some u=>
    have e':b=a:=hA b (by rw [q]; simp)
    subst e'
    rw [ha] at e; cases e
    have d':Data.seq vs.toArray _=Data.dict es ep:=d
    cases d'
  have nsK:∀ {b:Addr} {m:Str->Option Value},s₁.heap.Ns b m->(hidT s₁.heap H).Ns b m:=fun {b m} ⟨o,es,ep,e,d,r⟩=>⟨o,es,ep,base_of e (noA e d),d,r⟩
  have hKb:K.In (hidT s₁.heap H):=fun b o e=>base_of (KX b o e) (by
   cases q:H b with
   | none=>rfl
   | some u=>
    have e':b=a:=hA b (by rw [q]; simp)
    subst e'
    rw [hK (by rw [q]; simp)] at e; cases e)
  have hM:Mod K mg (hidT s₁.heap H):=⟨hKb,nsK hns,⟨mb,nsK hb,hbb⟩,let ⟨mc,h1,h2⟩:=hlim; ⟨mc,nsK h1,h2⟩⟩
  have e0:Env0 P w K mg (hidT s₁.heap H) callerA [] s₁ H:=⟨rfl,hM,fun b o e=>Zmj e,Nat.le_of_eq (Ziv _ _),trivial,fun b hb=>absurd (show b ∈ ([]:List Addr) from hb) (by simp),hok,.of_eq hg⟩
  refine codeAny_mono ((F _ hKb (nsK hns)).run callerA [] s₁ H ⟨[.ref a],[]⟩ [.ref a] [.ref a] _ _ hr e0 (hbind s₁ (.ref a)) (.cons rfl .nil) (hsp H hO hS)) fun r s' h=>?_
  cases r with
  | error e=>exact (hCX H e s' h).elim
  | ok fl=>
   cases fl with
   | next=>exact False.elim h
   | brk=>exact False.elim h
   | cont=>exact False.elim h
   | ret u=>
    obtain ⟨v,H',os,bare,un,hok',r',q⟩:=h
    have q':v=.bl true:=q
    subst q'
    obtain rfl:u=Value.bool true:=r'
    refine ⟨rfl,OldK.of_keep fun b o e=>?_,os,bare⟩
    cases q:H b with
    | none=>exact un.keep b o e q (by intro z; exact absurd (show b ∈ ([]:List Addr) from z) (by simp)) (by simp)
    | some u=>
     rcases hO b with z | ⟨ob,xs,z⟩
     ·rw [q] at z; cases z
     ·have z2:=un.frzs b ob _ z
      obtain ⟨e1,_⟩:=hok b _ z
      obtain ⟨e2,_⟩:=hok' b _ z2
      rw [e] at e1; cases e1
      exact e2
 cases hk:K.lookup a with
 | some o=>
  -- the script is one of the module's own objects
  have e:=KX a o hk
  rw [ha] at e
  cases e
  refine core (fun _=>none) (fun _=>.inl rfl) (.inr ⟨_,vs.toArray,_,hk,rfl,rfl,rfl,by rw [Wae,lenV]; exact hl,by simpa using rv⟩) (fun b u z=>by have z':(none:Option HO)=some u:=z; cases z') (fun b z=>absurd rfl z) fun z=>absurd rfl z
 | none=>
  refine core (fun b=>if b=a then some (.frz { cls:=.type "list",data:=.seq vs.toArray } (.lst (ns.map V.int))) else none) (fun b=>?_) (.inl (.inr ⟨{ cls:=.type "list",data:=.seq vs.toArray },if_pos rfl⟩)) (fun b u z=>?_) (fun b z=>?_) fun _=>hk
  ·by_cases hb:b=a
   ·exact .inr ⟨_,_,if_pos hb⟩
   ·exact .inl (if_neg hb)
  ·by_cases hb:b=a
   ·have z':=(if_pos hb).symm.trans z
    cases z'
    subst hb
    exact ⟨ha,by rw [Waa]; exact hl,vs,_,rv,ha⟩
   ·have z':=(if_neg hb).symm.trans z
    cases z'
  ·by_cases hb:b=a
   ·exact hb
   ·exact absurd (if_neg hb) z
end L2
namespace L2
open PySem PySem.Spec PyProof.Rows
theorem walk_of {l:PySem.W.OpenLaw} {n k:Nat} {q:Program} {loose:List Str} {XP:(Str->Option Value)->Heap->Prop} {YP:World->Heap->Prop} {d:DefRec} {K:Params->PySem.W.Frag} {CX:World->CXT} {sp:World->Sp} {x:Str}
  (hn:l.most=some n) (hn2:n<=sizeLine) (hdf:d.params.defaults=[]) (hr:Room k callerA)
  (hY:∀ (w:World) (h:Heap),YP w h->(K w.params).In h)
  (F:∀ (w:World) (mg:Str->Option Value) (fa:Addr) (h:Heap),(K w.params).In h->h.Ns mainGlobals mg->mg d.name=some (.ref fa) →
   ∃ fd:FuncData,(∀ (s:Shared) (u:Value),BindsTo s fd ⟨[u],[]⟩ [(x,u)]) ∧
    ∀ base:Heap,(K w.params).In base->base.Ns mainGlobals mg->FnOk l.prog w (K w.params) mg base (CX w) k fa fd [x] (sp w))
  (hsp:∀ (w:World) (H:Hp) (a:Addr) (ns:List Int),ns.length<=n->Only H->SqL (K w.params) H a (ns.map V.int)->sp w [.ref a] H (fun v _=>v=.bl true) fun _ _ _=>False)
  (hCX:∀ (w:World) (H:Hp) (s:Shared) (e:Value) (s':Shared),CX w [] H s (fun _ _ _=>False) e s' -> False) :
  PySem.W.WalkO q loose XP YP l.row.toRowW d [] (fun f vs=>PySem.call f vs):=by
 refine Att.attach_call hn hdf fun w s₀ s₁ mg mb fa o pm cd doc a vs ns G Y ho hd hcd hmg hobj hints hlen hg=>?_
 have KX:=hY w _ Y
 obtain ⟨fd,hb,hF⟩:=F w mg fa _ KX G.T.g hmg
 exact law_call KX G.T.g G.T.b G.T.builtins G.T.nolimit hg hobj hints (Wa6 hlen hn2) hr hF hb (fun H hO hS=>hsp w H a ns hlen hO hS) fun H e s'=>hCX w H s₁ e s'
end L2
namespace L2
open PySem PySem.Spec PyProof.Rows
noncomputable def defArgs (s:Stmt):Arguments:=match s with
 | .FunctionDef _ a _ _ _ _ _ _ _ _=>a
 | _=>{ posonlyargs:=[],args:=[],vararg:=none,kwonlyargs:=[],kw_defaults:=[],kwarg:=none,defaults:=[] }
noncomputable def defBody (s:Stmt):List Stmt:=match s with
 | .FunctionDef _ _ b _ _ _ _ _ _ _=>b
 | _=>[]
noncomputable def defScope (s:Stmt):Scope:=match s with
 | .FunctionDef _ _ _ _ _ _ sc _ _ _=>sc
 | _=>{ kind:=.function,names:=[],isGenerator:=false,isCoroutine:=false }
noncomputable abbrev CX0:CXT:=fun _ _ _ _ _ _=>False
noncomputable abbrev E0:XK:=fun _ _ _=>False
theorem pass0 {X:Cx}:Passes CX0 X E0:=fun _ _ _ _ _ _ _ h=>h.elim
structure Fun (K:PySem.W.Frag) (x qual:Str) (st:Stmt) (f:Addr) (fd:FuncData):Prop where
 ex:∃ (oc:Value) (od:Option Addr) (kV doc pm:Value) (an:Option Addr) (cdv ct:Value) (osl:Array (Option Value)),
  fd=PySem.W.fnOf x qual (defArgs st) (defBody st) (defScope st) .none kV doc pm an cdv ct/\K.lookup f=some ⟨oc,od,.func fd,osl⟩ /\ PySem.W.codeIn K cdv qual=true
 kp:PySem.W.keepIn K (.ref f)=true
section
variable {P:Program} {w:World} {K:PySem.W.Frag} {mg:Str->Option Value} {base:Heap}
theorem Fun.ok {x qual:Str} {st:Stmt} {f:Addr} {fd:FuncData} {N ps:List Str} {k:Nat} {sp:Sp} (F:Fun K x qual st f fd) (S:FnScope N ps (defScope st)) (len:∀ vs H Q E,sp vs H Q E->vs.length=ps.length)
  (hbody:∀ (cdv:Value) (A:Around) (outer:List Env) (s:Shared) (H:Hp) (vs:List V) (Q:VK) (E:XK),Room k (A.deeper (envOfC qual (defScope st) s.heap.objs.size f cdv))->sp vs H Q E →
   ∃ t,PSs (cxOf CX0 P w K mg base N qual (defScope st) f cdv A outer s H E).nox (defBody st) t/\t { nx:=fun _ H'=>Q .non H',rt:=Q } (start N vs) H):FnOk P w K mg base CX0 (k + 1) f fd ps sp:=by
 obtain ⟨oc,od,kV,doc,pm,an,cdv,ct,osl,rfl,lk,hcd⟩:=F.ex
 refine Znw lk hcd S len fun A outer s H vs Q E hr hsp=>?_
 obtain ⟨t,h,q⟩:=hbody cdv A outer s H vs Q E hr hsp
 exact ⟨t,h.nox,q⟩
theorem Fun.binds {x qual:Str} {st:Stmt} {f:Addr} {fd:FuncData} {ps:List Str} (F:Fun K x qual st f fd)
  (h:∀ (kV doc pm:Value) (an:Option Addr) (cdv ct:Value) (us:List Value),us.length=ps.length->bindArgs (PySem.W.fnOf x qual (defArgs st) (defBody st) (defScope st) .none kV doc pm an cdv ct) ⟨us,[]⟩ = pure (ps.zip us)):Binds K fd ps []:=by
 obtain ⟨oc,od,kV,doc,pm,an,cdv,ct,osl,rfl,lk,hcd⟩:=F.ex
 exact .all (h kV doc pm an cdv ct)
theorem Zbe {x qual:Str} {st:Stmt} {f:Addr} {oc:Value} {od an:Option Addr} {osl:Array (Option Value)} {kV doc pm cdv ct:Value} (l:K.lookup f=some ⟨oc,od,.func (PySem.W.fnOf x qual (defArgs st) (defBody st) (defScope st) .none kV doc pm an cdv ct),osl⟩)
  (c:PySem.W.codeIn K cdv qual=true) (k:PySem.W.keepIn K (.ref f)=true):Fun K x qual st f (PySem.W.fnOf x qual (defArgs st) (defBody st) (defScope st) .none kV doc pm an cdv ct):=⟨⟨oc,od,kV,doc,pm,an,cdv,ct,osl,rfl,l,c⟩,k⟩
end
theorem Zb0 {A:Around} {k:Nat} (hr:Room k A):A.units + 1 < cLine:=Wbh (Wcg (by decide:1<=64) _) hr.units
theorem small1000 {n:Nat} (h:n<=1000):n < sizeLine:=Wbh h (by decide)
section
variable {X:Cx}
theorem pv (i:Nat) {x:Str} {pos:Pos} (hN:X.N[i]? = some x:=by rfl) (hv:Vis X.env.scope x:=by first | exact Or.inl rfl | exact Or.inr (Or.inl rfl) | exact Or.inr (Or.inr rfl)) (hd:(x == ("__debug__":Str))=false:=by decide)
  (hcd:(x == ("__classdict__":Str))=false:=by decide):PE X (.Name x pos) (tVar i):=Zkx hN hv hd hcd
end
theorem iteF {A B:Prop} (h:B):if false=true then A else B:=by
 rw [if_neg Wam]
 exact h
theorem iteT {A B:Prop} (h:A):if true=true then A else B:=by
 rw [if_pos rfl]
 exact h
theorem ite2 {c A B:Prop} [Decidable c] (h1:c->A) (h2:¬ c->B):if c then A else B:=by
 by_cases h:c
 ·rw [if_pos h]
  exact h1 h
 ·rw [if_neg h]
  exact h2 h
noncomputable def Same (H H':Hp):Prop:=∀ b o,H b=some o->H' b=some o
theorem Same.refl (H:Hp):Same H H:=fun _ _ h=>h
theorem Same.trans {H H1 H2:Hp} (a:Same H H1) (b:Same H1 H2):Same H H2:=fun c o h=>b c o (a c o h)
theorem Same.seq {K:PySem.W.Frag} {H H':Hp} {a:Addr} {xs:List V} (e:Same H H') (h:SqL K H a xs):SqL K H' a xs:=by
 rcases h with (h | ⟨o,h⟩) | h
 ·exact .inl (.inl (e _ _ h))
 ·exact .inl (.inr ⟨o,e _ _ h⟩)
 ·exact .inr h
end L2
namespace L2
open PySem PySem.Spec PyProof.Rows
section
variable {κ:Type} [DecidableEq κ]
noncomputable def valV (kvs:List (κ × V)) (k:κ):Option V:=(kvs.find? fun kv=>decide (kv.1=k)).map (·.2)
noncomputable def putK (kvs:List (κ × V)) (k:κ) (v:V):List (κ × V):=
 if (kvs.any fun kv=>decide (kv.1=k))=true then kvs.map (fun kv=>if kv.1=k then (kv.1,v) else kv) else kvs ++ [(k,v)]
theorem Ze2 {p:κ × V} {r:List (κ × V)} {k:κ} (e:p.1=k):valV (p :: r) k=some p.2:=by simp [valV,Wb1,e]
theorem Zes {p:κ × V} {r:List (κ × V)} {k:κ} (e:¬ p.1=k):valV (p :: r) k=valV r k:=by simp [valV,Wb1,e]
theorem Zgi (k:κ):∀ kvs:List (κ × V),(kvs.any fun kv=>decide (kv.1=k))=(valV kvs k).isSome
 | []=>rfl
 | p :: r=>by
  rw [List.any_cons]
  by_cases e:p.1=k
  ·simp only [Ze2 e,decide_eq_true e,Bool.true_or,Option.isSome_some]
  ·rw [Zes e,decide_eq_false e,Bool.false_or]; exact Zgi k r
theorem Zcu (kvs:List (κ × V)) (k:κ) (v:V):(putK kvs k v).length<=kvs.length + 1:=by
 unfold putK
 split
 ·rw [Waa]; omega
 ·rw [Wai,Wao,List.length_nil]; omega
theorem RelO.isSome_eq {o:Option V} {u:Option Value} (r:RelO o u):o.isSome=u.isSome:=by
 cases o with
 | none=>cases u with
  | none=>rfl
  | some _=>exact (show False from r).elim
 | some _=>cases u with
  | none=>exact (show False from r).elim
  | some _=>rfl
theorem KV.val {kvs:List (κ × V)} {vs:List (κ × Value)} (r:KV kvs vs) (k:κ):RelO (valV kvs k) (valueAt vs k):=by
 unfold KV at r
 induction r with
 | nil=>exact True.intro
 | @cons p q ps qs h t ih=>
  obtain ⟨h1,h2⟩:=h
  by_cases e:p.1=k
  ·have e':q.1=k:=h1.symm.trans e
   have b:valueAt (q :: qs) k=some q.2:=by simp [valueAt,Wb1,e']
   rw [Ze2 e,b]; exact h2
  ·have e':¬ q.1=k:=fun z=>e (h1.trans z)
   have b:valueAt (q :: qs) k=valueAt qs k:=by simp [valueAt,Wb1,e']
   rw [Zes e,b]; exact ih
theorem KV.any {kvs:List (κ × V)} {vs:List (κ × Value)} (r:KV kvs vs) (k:κ):(kvs.any fun kv=>decide (kv.1=k))=vs.any fun kv=>decide (kv.1=k):=by
 unfold KV at r
 induction r with
 | nil=>rfl
 | cons h t ih=>rw [List.any_cons,List.any_cons,ih,h.1]
theorem KV.repl {kvs:List (κ × V)} {vs:List (κ × Value)} (r:KV kvs vs) (k:κ) {y:V} {u:Value} (ry:RelV y u) :
  KV (kvs.map fun kv=>if kv.1=k then (kv.1,y) else kv) (vs.map fun kv=>if kv.1=k then (kv.1,u) else kv):=by
 unfold KV at r ⊢
 induction r with
 | nil=>exact .nil
 | @cons p q ps qs h t ih=>
  rw [Wa1,Wa1]
  refine .cons ?_ ih
  obtain ⟨h1,h2⟩:=h
  by_cases e:p.1=k
  ·rw [if_pos e,if_pos (h1.symm.trans e)]; exact ⟨h1,ry⟩
  ·rw [if_neg e,if_neg (fun z=>e (h1.trans z))]; exact ⟨h1,h2⟩
theorem KV.put {kvs:List (κ × V)} {vs:List (κ × Value)} (r:KV kvs vs) (k:κ) {y:V} {u:Value} (ry:RelV y u):KV (putK kvs k y) (stored vs k u):=by
 unfold putK stored
 rw [r.any k]
 by_cases e:(vs.any fun kv=>decide (kv.1=k))=true
 ·rw [if_pos e,if_pos e]; exact r.repl k ry
 ·rw [if_neg e,if_neg e]; exact Paired.snoc r ⟨rfl,ry⟩
theorem KV.length {kvs:List (κ × V)} {vs:List (κ × Value)} (r:KV kvs vs):kvs.length=vs.length:=Paired.length r
end
theorem Zjh {P:Program} {w:World} {k:Key} {u:Value} (r:RelV (kV k) u):(mixKind P w).is k u=true:=by
 cases k with
 | inl i=>obtain ⟨t,e⟩:=(show ∃ t,u=Value.int i t from r); subst e; exact Zft P w i t
 | inr x=>obtain ⟨t,e⟩:=(show ∃ t,u=Value.str x t from r); subst e; exact Zf3 P w x t
theorem Ze6 {P:Program} {w:World}:∀ {ks:List Key} {us:List Value},Vals (ks.map kV) us->ItemsAre (mixKind P w) ks us
 | [],_,r=>by rw [List.map_nil] at r; cases r; exact .nil
 | k :: ks,_,r=>by
  rw [Wa1] at r
  cases r with
  | cons h t=>exact .cons (Zjh h) (Ze6 t)
noncomputable abbrev KT (H:Hp):List (List Key × V)->List (List Key × Addr × Value)->Prop:=Paired fun p q=>p.1=q.1/\H q.2.1=some (.tup (p.1.map kV))/\RelV p.2 q.2.2
theorem KT.val {H:Hp} {kvs:List (List Key × V)} {xs:List (List Key × Addr × Value)} (r:KT H kvs xs) (k:List Key):RelO (valV kvs k) ((atKey xs k).map (·.2)):=by
 induction r with
 | nil=>exact True.intro
 | @cons p q ps qs h t ih=>
  obtain ⟨h1,_,h2⟩:=h
  by_cases e:p.1=k
  ·have e':q.1=k:=h1.symm.trans e
   have b:atKey (q :: qs) k=some q.2:=by simp [atKey,Wb1,e']
   rw [Ze2 e,b]; exact h2
  ·have e':¬ q.1=k:=fun z=>e (h1.trans z)
   have b:atKey (q :: qs) k=atKey qs k:=by simp [atKey,Wb1,e']
   rw [Zes e,b]; exact ih
theorem KT.repl {H:Hp} {kvs:List (List Key × V)} {xs:List (List Key × Addr × Value)} (r:KT H kvs xs) (k:List Key) {y:V} {u:Value} (ry:RelV y u) :
  KT H (kvs.map fun kv=>if kv.1=k then (kv.1,y) else kv) (xs.map (putAt k u)):=by
 induction r with
 | nil=>exact .nil
 | @cons p q ps qs h t ih=>
  rw [Wa1,Wa1]
  refine .cons ?_ ih
  obtain ⟨h1,h2,h3⟩:=h
  unfold putAt
  by_cases e:p.1=k
  ·rw [if_pos e,if_pos (h1.symm.trans e)]; exact ⟨h1,h2,ry⟩
  ·rw [if_neg e,if_neg (fun z=>e (h1.trans z))]; exact ⟨h1,h2,h3⟩
theorem KT.put {H:Hp} {kvs:List (List Key × V)} {xs:List (List Key × Addr × Value)} (r:KT H kvs xs) (k:List Key) {b:Addr} {y:V} {u:Value} (hb:H b=some (.tup (k.map kV))) (ry:RelV y u) :
  KT H (putK kvs k y) (storedH xs k b u):=by
 have e:(kvs.any fun kv=>decide (kv.1=k))=(atKey xs k).isSome:=by
  rw [Zgi,(r.val k).isSome_eq,Option.isSome_map]
 unfold putK storedH
 rw [e]
 by_cases q:(atKey xs k).isSome=true
 ·rw [if_pos q,if_pos q]; exact r.repl k ry
 ·rw [if_neg q,if_neg q]; exact Paired.snoc r ⟨rfl,hb,ry⟩
theorem KT.keeps {H H':Hp} {kvs:List (List Key × V)} {xs:List (List Key × Addr × Value)} (r:KT H kvs xs) (ht:∀ b ys,H b=some (.tup ys)->H' b=some (.tup ys)):KT H' kvs xs:=
 Paired.mapP r fun _ _ z=>⟨z.1,ht _ _ z.2.1,z.2.2⟩
section
variable {P:Program} {w:World} {H:Hp} {h:Heap} {a:Addr}
theorem Zoa {u:HO} (ok:HOk P w H h) (e:Rd H a u):ObjOk P w H h a u:=e.ok ok
theorem Zj1 {kvs:List (Key × V)} (ok:HOk P w H h) (e:Rd H a (.dK kvs)):kvs.length<=sizeLine/\(a == sysModules)=false/\∃ vs,KV kvs vs/\h.DictOf (mixKind P w) a vs:=
 show ObjOk P w H h a (.dK kvs) from Zoa ok e
theorem Zmm {kvs:List (Key × V)} (ok:HOk P w H h) (e:H a=some (.dK kvs)):kvs.length<=sizeLine/\(a == sysModules)=false/\∃ vs,KV kvs vs/\h.DictOf (mixKind P w) a vs:=Zj1 ok (.inl e)
theorem Zio {ks:List Key} (ok:HOk P w H h) (e:H a=some (.tup (ks.map kV))):(tupleKind (mixKind P w)).is h ks a:=by
 obtain ⟨_,its,r,o,h1,⟨h2,n,h3⟩,_⟩:=(show ObjOk P w H h a (.tup (ks.map kV)) from ok a _ e)
 exact ⟨o,its.toArray,n,h1,h2,h3,by simpa using Ze6 r⟩
theorem Zlg {kvs:List (List Key × V)} (ok:HOk P w H h) (e:Rd H a (.dT kvs)):kvs.length<=sizeLine/\(a == sysModules)=false ∧
  ∃ xs,KT H kvs xs/\h.DictOfH (tupleKind (mixKind P w)) a xs:=by
 obtain ⟨z,y,xs,r,o,es,ep,h1,h2,h3,h4,h5⟩:=(show ObjOk P w H h a (.dT kvs) from Zoa ok e)
 refine ⟨z,y,xs,r,o,es,ep,h1,h2,h3,h4,fun x hx=>?_,h5⟩
 have all:∀ {l:List (List Key × V)} {m:List (List Key × Addr × Value)},KT H l m->∀ x ∈ m,(tupleKind (mixKind P w)).is h x.1 x.2.1:=by
  intro l m q
  induction q with
  | nil=>intro x hx; exact nomatch hx
  | @cons p q ps qs hq t ih=>
   intro x hx
   rcases Wa5.mp hx with e | hx
   ·subst e
    exact Zio ok (by rw [<- hq.1]; exact hq.2.1)
   ·exact ih x hx
 exact all r x hx
theorem Zot {kvs:List (List Key × V)} (ok:HOk P w H h) (e:H a=some (.dT kvs)):kvs.length<=sizeLine/\(a == sysModules)=false ∧
  ∃ xs,KT H kvs xs/\h.DictOfH (tupleKind (mixKind P w)) a xs:=Zlg ok (.inl e)
end
noncomputable def DGet (H:Hp) (a:Addr) (y:V) (r:Option V):Prop:=
 (∃ kvs k,Rd H a (.dK kvs)/\y=kV k/\r=valV kvs k)\/∃ kvs k b,Rd H a (.dT kvs)/\y=.ref b/\H b=some (.tup (k.map kV))/\r=valV kvs k
noncomputable def DPut (H:Hp) (a:Addr) (y v:V) (H':Hp):Prop:=
 (∃ kvs k,H a=some (.dK kvs)/\y=kV k/\kvs.length < sizeLine/\H' = upd H a (.dK (putK kvs k v))) ∨
 ∃ kvs k b,H a=some (.dT kvs)/\y=.ref b/\H b=some (.tup (k.map kV))/\kvs.length < sizeLine/\H' = upd H a (.dT (putK kvs k v))
section
variable {X:Cx} {pins:List (Addr × Obj)} {σ:St} {H:Hp} {s:Shared} {a:Addr} {y v:V} {u r:Value} {o:Option V} {A:Around} {E:Value->Shared->Prop}
theorem Inv.big (I:Inv X pins σ H s):sysModules < s.heap.objs.size:=by
 have h:mainGlobals < s.heap.objs.size:=(I.mod.glob.keeps I.bk).lt
 exact Nat.lt_trans (by decide) h
theorem Zhr {Q:Value->Shared->Prop} (hu:A.units + 1 < cLine) (I:Inv X pins σ H s) (g:DGet H a y (some v)) (ry:RelV y u) (h:∀ w' s',Inv X pins σ H s' -> RelV v w' -> Q w' s') :
  wpAny (model X.prog X.w) A (getItem (.ref a) u) Q E s:=by
 rcases g with ⟨kvs,k,e,ey,l⟩ | ⟨kvs,k,b,e,ey,eb,l⟩
 ·subst ey
  obtain ⟨z,hd,vs,rel,dd⟩:=Zj1 I.hok e
  obtain ⟨w',hw,rw'⟩:=RelO.some_of (v:=v) (o:=valueAt vs k) (by rw [l]; exact rel.val k)
  exact wpAny_getItem_of (Zjh ry) dd.mapOf hw (h w' _ (I.tok _) rw')
 ·subst ey
  cases (show u=Value.ref b from ry)
  obtain ⟨z,hd,xs,rel,dd⟩:=Zlg I.hok e
  obtain ⟨w',hw,rw'⟩:=RelO.some_of (v:=v) (o:=(atKey xs k).map (·.2)) (by rw [l]; exact rel.val k)
  obtain ⟨p,hp,hp2⟩:=Option.map_eq_some_iff.mp hw
  refine wpAny_getItem_heap (tupleKind_room_in1 hu) (Zio I.hok eb) dd hp ?_
  rw [hp2]
  exact h w' _ (I.tok _) rw'
theorem Zf0 {h':Heap} {t':Nat} {ob:HO} (I:Inv X pins σ H s) (mu:Mut (H a)) (hs:Heap.SameBut a s.heap h') (he:∃ q,h'.get? a=some q) (new:ObjOk X.prog X.w (upd H a ob) h' a ob) :
  Inv X pins σ (upd H a ob) { s with heap:=h',toks:=t' }:=
 I.write (x:=a) (e:=a) mu (.inl rfl) (fun b q hb z=>(hs.2 b hb).trans z) he new
theorem Zku {P:Program} {w:World} {H':Hp} {h':Heap} {kvs:List (Key × V)} {vs:List (Key × Value)} (z:kvs.length<=sizeLine) (hd:(a == sysModules)=false) (rel:KV kvs vs) (dd:h'.DictOf (mixKind P w) a vs) :
  ObjOk P w H' h' a (.dK kvs):=⟨z,hd,vs,rel,dd⟩
theorem Zh4 {H':Hp} {Q:Unit->Shared->Prop} (hu:A.units + 1 < cLine) (I:Inv X pins σ H s) (g:DPut H a y v H') (ry:RelV y u) (rv:RelV v r) (h:∀ s',Inv X pins σ H' s' -> Q () s') :
  wpAny (model X.prog X.w) A (setItem (.ref a) u r) Q E s:=by
 rcases g with ⟨kvs,k,e,ey,l,eH⟩ | ⟨kvs,k,b,e,ey,eb,l,eH⟩
 ·subst ey eH
  obtain ⟨z,hd,vs,rel,dd⟩:=Zmm I.hok e
  have hz:vs.length<=sizeLine:=by rw [<- rel.length]; exact z
  have hl:(putK kvs k v).length<=sizeLine:=by have:=Zcu kvs k v; omega
  refine wpAny_setItem_pairs (hsz:=hz) (Zjh ry) dd fun h' dd' hs=>h _ ?_
  have he:∃ q,h'.get? a=some q:=let ⟨q,_,_,hq,_⟩:=dd'; ⟨q,hq⟩
  exact Zf0 I (by rw [e]; exact True.intro) hs he (Zku hl hd (rel.put k rv) dd')
 ·subst ey eH
  cases (show u=Value.ref b from ry)
  obtain ⟨z,hd,xs,rel,dd⟩:=Zot I.hok e
  have hz:xs.length<=sizeLine:=by rw [<- Paired.length rel]; exact z
  have hl:(putK kvs k v).length<=sizeLine:=by have:=Zcu kvs k v; omega
  refine wpAny_setItem_heap (hsz:=hz) (tupleKind_room_in1 hu) (Zio I.hok eb) dd fun h' dd' hs=>h _ ?_
  obtain ⟨q,es,ep,hq,h2,h3,h4,_,h5⟩:=dd'
  refine Zf0 I (by rw [e]; exact True.intro) hs ⟨q,hq⟩ ⟨hl,hd,_,(rel.put k eb rv).keeps fun c ys ec=>?_,q,es,ep,hq,h2,h3,h4,h5⟩
  rw [Zas (Zoq ec e (fun z=>nomatch z))]
  exact ec
end
section
variable {X:Cx} {pins:List (Addr × Obj)} {σ:St} {H:Hp} {s:Shared} {a:Addr} {kvs:List (Key × V)} {k:Key} {u:Value} {A:Around} {E:Value->Shared->Prop}
theorem Zov {Q:Value->Shared->Prop} (I:Inv X pins σ H s) (e:Rd H a (.dK kvs)) (h:∀ t s',Inv X pins σ H s' -> Q (.int kvs.length t) s'):wpAny (model X.prog X.w) A (call (.builtin "len") [.ref a]) Q E s:=by
 obtain ⟨z,hd,vs,rel,dd⟩:=Zj1 I.hok e
 refine call_len_dict hd dd (by rw [<- rel.length]; rw [sizeLine_eq] at z; omega) ?_
 rw [<- rel.length]
 exact h _ _ (I.tok _)
end
theorem Zf9 {X:Cx} {pins:List (Addr × Obj)} {σ:St} {H:Hp} {s:Shared} {a:Addr} {y:V} {o:Option V} (I:Inv X pins σ H s) (g:DGet H a y o):s.TypeIs (.ref a) "dict":=by
 rcases g with ⟨kvs,k,e,_,_⟩ | ⟨kvs,k,b,e,_,_,_⟩
 ·obtain ⟨_,_,vs,_,dd⟩:=Zj1 I.hok e
  exact dd.typeIs
 ·obtain ⟨_,_,xs,_,dd⟩:=Zlg I.hok e
  exact dd.typeIs
theorem Zge {P:Program} {w:World} {H:Hp} (h:Heap) (hb:sysModules < h.objs.size):ObjOk P w H (h.push { cls:=.type "dict",data:=.dict #[] }) h.objs.size (.dK []):=
 ⟨Nat.zero_le _,beq_eq_false_iff_ne.mpr (Ne.symm (Wa0 hb)),[],.nil,Heap.DictOf.new h⟩
noncomputable def tDNewK:TE:=fun _ H Q=>∀ p,H p=none->Q (.ref p) (upd H p (.dK []))
section
variable {X:Cx} {pos:Pos}
theorem Zjm:PE X (.Dict [] [] pos) tDNewK:=fun pins s σ H Q I h=>
 wpAny_Dict_empty ⟨.ref s.heap.objs.size,_,I.laid (a:=s.heap.objs.size) (o:=.dK []) (t':=s.toks) (fun _ _ q=>Wad _ q) (Waj _) (Zge s.heap I.big),rfl,h _ (I.hok.fresh (Waj _))⟩
end
noncomputable def tPairs:List (TE × TE)->St->Hp->(List (V × V)->Hp->Prop)->Prop
 | [],_,H,Q=>Q [] H
 | (tk,tv) :: r,σ,H,Q=>tk σ H fun x H1=>tv σ H1 fun y H2=>tPairs r σ H2 fun ps H3=>Q ((x,y) :: ps) H3
noncomputable abbrev VV:List (V × V)->List (Value × Value)->Prop:=Paired fun p q=>RelV p.1 q.1/\RelV p.2 q.2
noncomputable def PPs (X:Cx) (pos:Pos) (keys:List (Option Expr)) (values:List Expr) (trs:List (TE × TE)):Prop:=
 ∀ (pins:List (Addr × Obj)) (s:Shared) (σ:St) (H:Hp) (Q:List (V × V)->Hp->Prop),Inv X pins σ H s->tPairs trs σ H Q →
  wpAny (model X.prog X.w) X.A (evalPairs (pairTrees keys values X.env pos)) (fun vs s'=>∃ ps H',Inv X pins σ H' s' /\ VV ps vs/\Q ps H') X.xe s
theorem Zl3 {X:Cx} {pos:Pos}:PPs X pos [] [] []:=fun pins s σ H Q I h=>pairTrees_nil_walk ⟨[],H,I,.nil,h⟩
theorem Zkb {X:Cx} {pos:Pos} {k v:Expr} {ks:List (Option Expr)} {vs:List Expr} {tk tv:TE} {trs:List (TE × TE)} (hk:PE X k tk) (hv:PE X v tv) (hr:PPs X pos ks vs trs) :
  PPs X pos (some k :: ks) (v :: vs) ((tk,tv) :: trs):=fun pins s σ H Q I h=>
 pairTrees_cons_walk (thn (hk pins s σ H _ I h) fun u s1 ⟨x,H1,I1,rx,q1⟩=>thn (hv pins s1 σ H1 _ I1 q1) fun w2 s2 ⟨y,H2,I2,ry,q2⟩=>
  thn (hr pins s2 σ H2 _ I2 q2) fun ws s3 ⟨ps,H3,I3,rel,q3⟩=>⟨(x,y) :: ps,H3,I3,.cons ⟨rx,ry⟩ rel,q3⟩)
noncomputable def mergeK (kvs more:List (Key × V)):List (Key × V):=more.foldl (fun acc kv=>putK acc kv.1 kv.2) kvs
theorem KV.merge:∀ {more:List (Key × V)} {rs:List (Key × Value)} {kvs:List (Key × V)} {vs:List (Key × Value)},KV more rs->KV kvs vs->KV (mergeK kvs more) (merged vs rs):=by
 intro more rs kvs vs r
 unfold KV at r
 induction r generalizing kvs vs with
 | nil=>intro q; exact q
 | @cons p q ps qs h t ih=>
  intro r0
  have e:KV (putK kvs p.1 p.2) (stored vs q.1 q.2):=by
   have:=r0.put p.1 h.2
   rw [<- h.1]; exact this
  exact ih e
theorem Zc0:∀ (more kvs:List (Key × V)),(mergeK kvs more).length<=kvs.length + more.length
 | [],kvs=>by show kvs.length<=kvs.length + 0; omega
 | p :: r,kvs=>by
  have h1:=Zc0 r (putK kvs p.1 p.2)
  have h2:=Zcu kvs p.1 p.2
  show (mergeK (putK kvs p.1 p.2) r).length<=_
  rw [Wao]; omega
theorem Zeh {P:Program} {w:World}:∀ {kvs:List (Key × V)} {ws:List (Value × Value)},VV (kvs.map fun kv=>(kV kv.1,kv.2)) ws->∃ rs,Carries (mixKind P w) ws rs/\KV kvs rs
 | [],_,r=>by rw [List.map_nil] at r; cases r; exact ⟨[],True.intro,.nil⟩
 | p :: kvs,_,r=>by
  rw [Wa1] at r
  cases r with
  | @cons a b as bs h t=>
   obtain ⟨rs,c,q⟩:=Zeh (P:=P) (w:=w) t
   obtain ⟨b1,b2⟩:=b
   exact ⟨(p.1,b2) :: rs,⟨Zjh h.1,rfl,c⟩,.cons ⟨rfl,h.2⟩ q⟩
noncomputable def tDisp (trs:List (TE × TE)):TE:=fun σ H Q=>∀ p,H p=none->tPairs trs σ (upd H p (.dK [])) fun ps H2=>H2 p=some (.dK [])/\∃ kvs:List (Key × V),ps=kvs.map (fun kv=>(kV kv.1,kv.2))/\kvs.length<=15/\Q (.ref p) (upd H2 p (.dK (mergeK [] kvs)))
theorem Zll {X:Cx} {pos:Pos} {keys:List (Option Expr)} {values:List Expr} {trs:List (TE × TE)} (h:PPs X pos keys values trs) (hall:keys.all (·.isSome)=true) (hl:keys.length=values.length) (h0:keys ≠ [])
  (h15:keys.length<=15):PE X (.Dict keys values pos) (tDisp trs):=by
 intro pins s σ H Q I q
 have hn:=I.hok.fresh (Waj s.heap.objs.size)
 have I1:=I.laid (a:=s.heap.objs.size) (o:=.dK []) (h':=s.heap.push { cls:=.type "dict",data:=.dict #[] }) (t':=s.toks) (fun _ _ q=>Wad _ q) (Waj _) (Zge s.heap I.big)
 refine wpAny_Dict_walk (knd:=mixKind X.prog X.w) hall hl h0 h15 (thn (h pins _ σ _ _ I1 (q _ hn)) fun ws s2 ⟨ps,H2,I2,rel,e,kvs,ep,lk,q2⟩=>?_)
 subst ep
 obtain ⟨rs,c,rk⟩:=Zeh (P:=X.prog) (w:=X.w) rel
 obtain ⟨z,hd,vs0,r0,dd⟩:=Zmm I2.hok e
 cases r0
 refine ⟨rs,c,dd,fun h' dd' hs=>⟨.ref s.heap.objs.size,_,?_,rfl,q2⟩⟩
 have hz:(mergeK [] kvs).length<=sizeLine:=by
  have h1:=Zc0 kvs []
  rw [List.length_nil] at h1
  rw [sizeLine_eq]; omega
 have he:∃ q,h'.get? s.heap.objs.size=some q:=let ⟨q,_,_,hq,_⟩:=dd'; ⟨q,hq⟩
 exact Zf0 I2 (by rw [e]; exact True.intro) hs he (Zku hz hd (rk.merge .nil) dd')
section
variable {X:Cx} {o e f:Expr} {apos cpos:Pos} {td ty tx:TE}
end
section
variable {X:Cx} {pins:List (Addr × Obj)} {σ:St} {H:Hp} {s:Shared} {a:Addr} {y:V} {u:Value} {A:Around} {E:Value->Shared->Prop}
end
end L2
namespace L2
open PySem PySem.Spec PyProof.Rows
section
variable {X:Cx}
theorem Zh9:CallR X (.builtin "len") (fun xs H Q=>∃ a kvs,xs=[V.ref a]/\H a=some (.dK kvs)/\Q (.int kvs.length) H):=by
 intro pins s σ H xs us Q I r h
 obtain ⟨a,kvs,rfl,ha,q⟩:=h
 obtain ⟨u,rfl,ru⟩:=vals1 r
 cases ru
 exact Zov I (.inl ha) fun t s' I'=>⟨.int kvs.length,H,I',⟨t,rfl⟩,q⟩
end
end L2
set_option Elab.async false
set_option linter.all false
set_option maxRecDepth 100000
namespace L2
open PySem PySem.Spec PyProof.Rows
noncomputable def clOf (env:Env):List (Str × NameKind)->List (Str × Addr)->List (Str × Addr)
 | [],cs=>cs
 | (n,k) :: r,cs=>if k == .free then (match env.cells.lookup n with
     | some a=>clOf env r ((n,a) :: cs)
     | none=>clOf env r cs) else clOf env r cs
theorem Zdv {env:Env}:∀ (names:List (Str × NameKind)) (cs:List (Str × Addr)),(∀ n,(n,NameKind.free) ∈ names->∃ a,env.cells.lookup n=some a) →
  (forIn names cs fun (x:Str × NameKind) (cs:List (Str × Addr))=>if (x.2 == .free)=true then (do let a ← cellOf env x.1; pure (ForInStep.yield ((x.1,a) :: cs))) else pure (ForInStep.yield cs):Sem (List (Str × Addr)))=pure (clOf env names cs)
 | [],cs,_=>rfl
 | (n,k) :: r,cs,h=>by
  rw [List.forIn_cons]
  have hr:∀ m,(m,NameKind.free) ∈ r->∃ a,env.cells.lookup m=some a:=fun m hm=>h m (Waq _ hm)
  cases hk:k == NameKind.free with
  | false=>
   have e:clOf env ((n,k) :: r) cs=clOf env r cs:=by simp [clOf,hk]
   rw [e,<- Zdv r cs hr]
   simp only [hk,Bool.false_eq_true,if_false]
   rfl
  | true=>
   have hk':k=.free:=by simpa using hk
   subst hk'
   obtain ⟨a,ha⟩:=h n Wa8
   have e:clOf env ((n,.free) :: r) cs=clOf env r ((n,a) :: cs):=by simp [clOf,ha]
   have ec:cellOf env n=pure a:=by simp [cellOf,ha]
   rw [e,<- Zdv r ((n,a) :: cs) hr]
   simp only [hk,if_true,ec]
   rfl
theorem Zbo {env:Env} {scope:Scope} (h:∀ n,(n,NameKind.free) ∈ scope.names->∃ a,env.cells.lookup n=some a):closureFor scope env=pure (clOf env scope.names []):=by
 rw [<- Zdv scope.names [] h]
 simp only [closureFor]
 exact Eq.trans (bind_pure _) rfl
theorem Za9 {env:Env}:∀ (names:List (Str × NameKind)) (cs:List (Str × Addr)) {x:Str} {c:Addr},(∀ y d,cs.lookup y=some d->env.cells.lookup y=some d)->(clOf env names cs).lookup x=some c->env.cells.lookup x=some c
 | [],cs,x,c,h,e=>h x c e
 | (n,k) :: r,cs,x,c,h,e=>by
  unfold clOf at e
  split at e
  ·split at e
   ·rename_i a ha
    refine Za9 r ((n,a) :: cs) (fun y d q=>?_) e
    rw [Wbk] at q
    split at q
    ·rename_i hy
     have hy':y=n:=by simpa using hy
     cases q
     rw [hy']; exact ha
    ·exact h y d q
   ·exact Za9 r cs h e
  ·exact Za9 r cs h e
theorem Zc7 {env:Env}:∀ (names:List (Str × NameKind)) (cs:List (Str × Addr)) {x:Str},(∃ c,cs.lookup x=some c)->∃ c,(clOf env names cs).lookup x=some c
 | [],cs,x,h=>h
 | (n,k) :: r,cs,x,h=>by
  have h2:∀ a,∃ c,((n,a) :: cs).lookup x=some c:=fun a=>by
   rw [Wbk]
   split
   ·exact ⟨_,rfl⟩
   ·exact h
  unfold clOf
  split
  ·split
   ·exact Zc7 r _ (h2 _)
   ·exact Zc7 r cs h
  ·exact Zc7 r cs h
theorem Zc3 {env:Env}:∀ (names:List (Str × NameKind)) (cs:List (Str × Addr)) {x:Str},(x,NameKind.free) ∈ names->(∃ a,env.cells.lookup x=some a)->∃ c,(clOf env names cs).lookup x=some c
 | [],_,_,h,_=>by simp at h
 | (n,k) :: r,cs,x,h,⟨a,ha⟩=>by
  rcases Wa5.mp h with e | hm
  ·have e1:n=x:=(congrArg Prod.fst e).symm
   have e2:k=.free:=(congrArg Prod.snd e).symm
   subst e1; subst e2
   have e:clOf env ((n,.free) :: r) cs=clOf env r ((n,a) :: cs):=by simp [clOf,ha]
   rw [e]
   exact Zc7 r _ ⟨a,by simp⟩
  ·unfold clOf
   split
   ·split
    ·exact Zc3 r _ hm ⟨a,ha⟩
    ·exact Zc3 r _ hm ⟨a,ha⟩
   ·exact Zc3 r _ hm ⟨a,ha⟩
noncomputable def relab (osc scope:Scope):Scope:=
 { scope with names:=scope.names.map fun (n,k)=>if (k == .free && osc.kind == .function && osc.names.lookup n == some .cell) then (n,.cell) else (n,k) }
theorem Zfd {osc scope:Scope} {x:Str} {k:NameKind} (hk:k=.cell\/k=.free) (hc:∀ y ∈ scope.names,y.2 ≠ .cell) (h:(relab osc scope).names.lookup x=some k):(x,NameKind.free) ∈ scope.names:=by
 have hm:=PySem.mem_of_lookup h
 obtain ⟨⟨n,j⟩,hy,e⟩:=Wb6.mp hm
 dsimp only at e
 split at e
 ·rename_i hj
  have e1:n=x:=congrArg Prod.fst e
  have hj':j=.free:=by
   simp only [Wau,beq_iff_eq] at hj
   exact hj.1.1
  rw [<- e1,<- hj']; exact hy
 ·have e1:n=x:=congrArg Prod.fst e
  have e2:j=k:=congrArg Prod.snd e
  rcases hk with z | z
  ·exact absurd (show ((n,j):Str × NameKind).2=.cell from e2.trans z) (hc _ hy)
  ·rw [<- e1,<- z,<- e2]; exact hy
theorem Zef {osc:Scope} {x:Str}:∀ {names:List (Str × NameKind)},names.lookup x=some .free →
  (names.map fun (n,k)=>if (k == NameKind.free && osc.kind == .function && osc.names.lookup n == some .cell) then (n,NameKind.cell) else (n,k)).lookup x=some .cell ∨
  (names.map fun (n,k)=>if (k == NameKind.free && osc.kind == .function && osc.names.lookup n == some .cell) then (n,NameKind.cell) else (n,k)).lookup x=some .free
 | [],h=>by simp at h
 | (n,k) :: r,h=>by
  have ih:=@Zef osc x r
  rw [Wa1]
  cases hx:x == n with
  | true=>
   simp only [Wbk,hx] at h
   cases h
   dsimp only
   split
   ·left; simp [Wbk,hx]
   ·right; simp [Wbk,hx]
  | false=>
   simp only [Wbk,hx] at h
   dsimp only
   split
   ·simpa only [Wbk,hx] using ih h
   ·simpa only [Wbk,hx] using ih h
structure CompSc (osc:Scope) (oN:List Str) (scope:Scope) (fvs:List Str) (sel:List Nat):Prop where
 kind:scope.kind=.function
 nocell:∀ y ∈ scope.names,y.2 ≠ .cell
 names:∀ y ∈ scope.names,y.2=.local->scope.names.lookup y.1=some .local
 free:∀ y ∈ scope.names,y.2=.free->osc.names.lookup y.1=some .cell\/osc.names.lookup y.1=some .free
 len:fvs.length=sel.length
 fv:∀ p ∈ fvs.zip sel,oN[p.2]? = some p.1/\scope.names.lookup p.1=some .free
noncomputable def compCx (X:Cx) (scope:Scope) (N:List Str) (C:Addr) (s:Shared) (H:Hp) (ex:List Addr) (pn:List (Addr × Obj)):Cx where
 prog:=X.prog
 w:=X.w
 K:=X.K
 mg:=X.mg
 base:=X.base
 A:=X.A
 N:=N
 s₀:=s
 H₀:=H
 env:=compEnvC scope (clOf X.env scope.names []) C X.env
 outer:=X.stack
 stack:=X.stack
 ex:=ex
 fn:=fun _=>false
 calm:=X.calm
 pn:=pn
 xe:=fun _ _=>False
noncomputable def compSt (n:Nat) (sel:List Nat) (σ:St):St:=Wab n none ++ sel.map fun i=>(σ[i]?).getD none
section
variable {X:Cx} {pins:List (Addr × Obj)} {σ:St} {H:Hp} {s:Shared} {fp:List Addr} {scope:Scope} {tgs fvs:List Str} {sel:List Nat}
theorem Zcf (S:CompSc X.env.scope X.N scope fvs sel) (ok:X.Ok):∀ n,(n,NameKind.free) ∈ scope.names->∃ a,X.env.cells.lookup n=some a:=fun n hn=>
 ok.has n (S.free _ hn rfl)
theorem Zle (S:CompSc X.env.scope X.N scope fvs sel) (N:List Str) (I:Inv X pins σ H s) (hf:∀ b ∈ fp,FpOk X pins H b) (hlt:∀ b ∈ fp,b < s.heap.objs.size):(compCx X scope N s.heap.objs.size s H fp (X.pn ++ pins)).Ok where
 mod:=I.ok.mod
 kind:=S.kind
 glob:=I.ok.glob
 blt:=I.ok.blt
 above:=Waj _
 inj:=fun x y c h1 h2=>I.ok.inj x y c (Za9 _ _ (fun _ _ z=>by simp at z) h1) (Za9 _ _ (fun _ _ z=>by simp at z) h2)
 has:=fun x hx=>by
  have hm:(x,NameKind.free) ∈ scope.names:=by
   rcases hx with z | z
   ·exact Zfd (osc:=X.env.scope) (.inl rfl) S.nocell z
   ·exact Zfd (osc:=X.env.scope) (.inr rfl) S.nocell z
  exact Zc3 scope.names [] hm (Zcf S I.ok x hm)
 cab:=fun x c h _=>by cases h
 hd:=I.ok.hd
 frames:=I.ok.frames
 stk:=.inl rfl
 exf:=fun b hb=>⟨Wa0 (hlt b hb),fun x c e=>(hf b hb).2.2.2.2.1 x c (Za9 _ _ (fun _ _ z=>by simp at z) e)⟩
 bs:=I.bs
 bsz:=Wa6 I.ok.bsz I.sz
 noex:=fun b o e hb=>by
  rcases (hf b hb).2.2.2.1 with z | z
  ·exact I.ok.noex b o e z
  ·exact absurd (Wan (Wal e) (Wa6 I.ok.bsz z)) (Wb2 _)
 exfs:=fun b hb z=>by
  rcases Wa5.mp (I.stkSub b z) with e | z
  ·exact (hf b hb).2.1 e
  ·exact (hf b hb).2.2.1 z
 funs:=I.stack
 frf:=I.stkFree
theorem Zjo (S:CompSc X.env.scope X.N scope fvs sel) (I:Inv X pins σ H s) (hf:∀ b ∈ fp,FpOk X pins H b) (hlt:∀ b ∈ fp,b < s.heap.objs.size) {h':Heap} {tk:Nat} {m:Str->Option Value}
  (hns:h'.Ns s.heap.objs.size m) (old:∀ b o,s.heap.get? b=some o->h'.get? b=some o) :
  Inv (compCx X scope (tgs ++ fvs) s.heap.objs.size s H fp (X.pn ++ pins)) [] (compSt tgs.length sel σ) H { s with heap:=h',toks:=tk } where
 ok:=Zle S _ I hf hlt
 os:=rfl
 bare:=I.bare
 base:=Un.kept old
 loc:=by
  refine ⟨m,hns,fun i x v h1 h2 h3=>?_⟩
  have h1:(tgs ++ fvs)[i]? = some x:=h1
  unfold compSt at h2
  by_cases hi:i < tgs.length
  ·rw [Wa3 (by simpa using hi),Wbc,if_pos hi] at h2
   cases h2
  ·have hi':tgs.length<=i:=Nat.le_of_not_lt hi
   rw [Wap (by simpa using hi'),Wah,Waz] at h2
   rw [Wap hi'] at h1
   cases hj:sel[i - tgs.length]? with
   | none=>rw [hj] at h2; cases h2
   | some j=>
    rw [hj] at h2
    have h2:(σ[j]?).getD none=some v:=by simpa using h2
    have hz:(x,j) ∈ fvs.zip sel:=by
     refine Wa4 (i:=i - tgs.length) ?_
     rw [List.getElem?_zip_eq_some]
     exact ⟨h1,hj⟩
    obtain ⟨hN,hfr⟩:=S.fv _ hz
    have hσ:σ[j]? = some (some v):=by
     cases q:σ[j]? with
     | none=>rw [q] at h2; cases h2
     | some o=>rw [q] at h2; exact congrArg some h2
    have hko:X.env.scope.names.lookup x=some .cell\/X.env.scope.names.lookup x=some .free:=S.free (x,.free) (PySem.mem_of_lookup hfr) rfl
    obtain ⟨m0,hn0,hl0⟩:=I.loc
    obtain ⟨u,r,l⟩:=hl0 j x v hN hσ (.inr hko)
    refine ⟨u,r,.inr ⟨Zef hfr,?_⟩⟩
    rcases l with ⟨hk,_⟩ | ⟨_,c,hc,hcell⟩
    ·have hk:X.env.scope.names.lookup x=some .local:=hk
     rcases hko with z | z <;> (rw [hk] at z; cases z)
    ·obtain ⟨c',hc'⟩:=Zc3 scope.names [] (PySem.mem_of_lookup hfr) ⟨c,hc⟩
     have e:=Za9 scope.names [] (fun _ _ z=>by simp at z) hc'
     rw [hc] at e; cases e
     obtain ⟨o,ho,hd⟩:=hcell
     exact ⟨c,hc',o,old _ _ ho,hd⟩
 cell:=fun x c e=>by
  obtain ⟨v,o,ho,hd⟩:=I.cell x c (Za9 _ _ (fun _ _ z=>by simp at z) e)
  exact ⟨v,o,old _ _ ho,hd⟩
 free:=I.hok.fresh (Waj _)
 freeC:=fun x c e=>I.freeC x c (Za9 _ _ (fun _ _ z=>by simp at z) e)
 pin:=fun p hp=>by
  have hp:p ∈ (X.pn ++ pins) ++ []:=hp
  rw [Wba] at hp
  obtain ⟨e,n,ne,nf,d⟩:=I.pin p hp
  refine ⟨old _ _ e,n,Wa0 (Wal e),fun z=>?_,d⟩
  rcases Wa5.mp (I.stkSub p.1 z) with q | q
  ·exact ne q
  ·exact nf q
 hok:=I.hok.kept old
 len:=by
  unfold compSt
  show _=(tgs ++ fvs).length
  rw [Wai,Wai,Waz,Waa,S.len]
theorem Zjb {N:List Str} {σ':St} {H':Hp} {s':Shared} {h':Heap} (I:Inv X pins σ H s) (hf:∀ b ∈ fp,FpOk X pins H b)
  (J:Inv (compCx X scope N s.heap.objs.size s H fp (X.pn ++ pins)) [] σ' H' s') (sb:Heap.SameBut s.heap.objs.size s'.heap h'):Inv X pins σ H' { s' with heap:=h' }:=by
 have B:Un (frs X.stack) fp H H' s.heap s'.heap:=J.base
 have ne:∀ b o,s.heap.get? b=some o->b ≠ s.heap.objs.size:=fun b o e=>Wa0 (Wal e)
 have fr:H' s.heap.objs.size=none:=J.free
 refine I.call' (s':={ s' with heap:=h' }) (ch:=fp) J.os ⟨fun b o e n h1 h2=>?_,fun b o e n h1 h2=>?_,B.free,fun b o e h2=>?_,B.tups,B.frzs,B.tbls⟩ (fun b ob e=>?_) J.bare fun b hb=>?_
 ·exact (sb.2 b (ne b o e)).trans (B.keep b o e n h1 h2)
 ·obtain ⟨sl,q⟩:=B.slot b o e n h1 h2
  exact ⟨sl,(sb.2 b (ne b o e)).trans q⟩
 ·obtain ⟨o',q⟩:=B.there b o e h2
  exact ⟨o',(sb.2 b (ne b o e)).trans q⟩
 ·refine (J.hok b ob e).stay (fun c w' hc q=>(sb.2 c ?_).trans q) (fun _ q=>q) fun _ _ q=>q
  intro z
  rcases hc with hc | hc
  ·rw [<- hc,z,fr] at e; cases e
  ·rw [z,fr] at hc; cases hc
 ·exact ⟨(hf b hb).2.2.2.1,(hf b hb).2.1,(hf b hb).2.2.2.2.1,(hf b hb).2.2.2.2.2⟩
end
noncomputable def PTs (X:Cx) (ifs:List Expr) (t:TT):Prop:=
 ∀ (pins:List (Addr × Obj)) (s:Shared) (σ:St) (H:Hp) (Q:Bool->Hp->Prop),Inv X pins σ H s->t σ H Q →
  wpAny (model X.prog X.w) X.A (forIn ifs true fun c r=>if r=true then do let ok ← isTrue c X.env (eval c X.env); pure (ForInStep.yield ok) else pure (ForInStep.yield r)) (TP X pins σ Q) X.xe s
noncomputable def tTrue:TT:=fun _ H Q=>Q true H
theorem Zcv {X:Cx}:PTs X [] tTrue:=fun pins s σ H Q I h=>wpAny_tests_nil ⟨H,I,h⟩
theorem Zln {X:Cx} {c:Expr} {t:TT} (h:PT X c t):PTs X [c] t:=fun pins s σ H Q I hq=>wpAny_tests_one (h pins s σ H Q I hq)
noncomputable def tComp (n:Nat) (sel:List Nat) (wi:TI) (g:TG) (tc:TT) (te:TE):TE:=fun σ H Q=>wi σ H fun J H1=>∀ acc,H1 acc=none->∃ W:Nat->Nat->St->Hp->Prop,
 (∃ m,W 0 m (compSt n sel σ) (upd H1 acc (.lst [])))/\∀ i m σ' H',W i m σ' H' →
  (J.stop i H' /\ Q (.ref acc) H')\/(J.go i H' /\ ∃ N:St->Hp->Prop,(∀ σ2 H2,N σ2 H2->∃ m',m' < m/\W (i + 1) m' σ2 H2) ∧
   ∀ x H2,J.yld i H' x H2->g x σ' H2 fun σ2 H3=>tc σ2 H3 fun b H4=>if b=true then te σ2 H4 fun y H5=>∃ ys,H5 acc=some (.lst ys)/\ys.length < sizeLine/\N σ2 (upd H5 acc (.lst (ys ++ [y]))) else N σ2 H4)
section
variable {X:Cx}
theorem Zd0 {elt tg iter:Expr} {ifs:List Expr} {scope:Scope} {pos:Pos} {tgs fvs:List Str} {sel:List Nat} {g:TG} {tc:TT} {te:TE} (S:CompSc X.env.scope X.N scope fvs sel) {Cm:Cx->Prop} (hc:∀ C s H ex pn,Cm (compCx X scope (tgs ++ fvs) C s H ex pn))
  (hg:∀ C s H ex pn,PG (compCx X scope (tgs ++ fvs) C s H ex pn) tg g) (ht:∀ C s H ex pn,PTs (compCx X scope (tgs ++ fvs) C s H ex pn) ifs tc) (he:∀ C s H ex pn,PE (compCx X scope (tgs ++ fvs) C s H ex pn) elt te)
  {pins:List (Addr × Obj)} {σ:St} {s:Shared} {itv:Value} {Q:VK} {E:Value->Shared->Prop} {RR:Value->Addr->Result->Shared->Prop}
  (h2:PIEG Cm X pins σ tg (fun J H1=>∀ acc,H1 acc=none->∃ W:Nat->Nat->St->Hp->Prop,
   (∃ m,W 0 m (compSt tgs.length sel σ) (upd H1 acc (.lst [])))/\∀ i m σ' H',W i m σ' H' →
   (J.stop i H' /\ Q (.ref acc) H')\/(J.go i H' /\ ∃ N:St->Hp->Prop,(∀ σ2 H2,N σ2 H2->∃ m',m' < m/\W (i + 1) m' σ2 H2) ∧
   ∀ x H2,J.yld i H' x H2->g x σ' H2 fun σ2 H3=>tc σ2 H3 fun b H4=>if b=true then te σ2 H4 fun y H5=>∃ ys,H5 acc=some (.lst ys)/\ys.length < sizeLine/\N σ2 (upd H5 acc (.lst (ys ++ [y]))) else N σ2 H4)) itv s)
  (fin:∀ (s':Shared) (C acc:Addr) (H':Hp) (m:Str->Option Value),s'.heap.Ns C m->FpOk X pins H' C->(∀ h',Heap.SameBut C s'.heap h' -> Inv X pins σ H' { s' with heap:=h' })->Q (.ref acc) H' -> RR (.ref acc) C (.ok .next) s') :
  wpAny (model X.prog X.w) X.A (newList []) (fun acc s3=>wpAny (model X.prog X.w) X.A (newFunctionEnv scope X.env.globals (clOf X.env scope.names []) [] X.env.qual none .none (some X.env)) (fun cenv s4=>
   codeAny (model X.prog X.w) X.A (.compStart (.ListComp elt [⟨tg,iter,ifs,0⟩] scope pos) 0 itv acc { cenv with scope:=relabel scope X.env }) (RR acc cenv.locals) s4) E s3) E s:=by
 obtain ⟨it,fp,tn,J,H1,e,I,T,st,f2,h2⟩:=h2
 subst e
 have hlt:∀ b ∈ fp,b < s.heap.objs.size:=fun b hb=>let ⟨o,ho,_⟩:=T.obj 0 _ st b hb; Wal ho
 refine wpAny_newObj_type (wpAny_newFunctionEnv S.nocell (by intro y hy; simp at hy) (fun h1 hns hsb=>?_) S.kind)
 dsimp only at hns hsb ⊢
 have I3:Inv X pins σ (upd H1 s.heap.objs.size (.lst [])) { s with heap:=s.heap.push { cls:=.type "list",data:=.seq ([]:List Value).toArray },toks:=s.toks }:=I.lnew (its:=[]) .nil (by decide)
 have hacc:H1 s.heap.objs.size=none:=I.hok.fresh (Waj _)
 obtain ⟨W,⟨m0,w0⟩,turn⟩:=h2 s.heap.objs.size hacc
 generalize hs3:({ s with heap:=s.heap.push { cls:=.type "list",data:=.seq ([]:List Value).toArray },toks:=s.toks }:Shared)=s3 at I3
 have hh3:s3.heap=s.heap.push { cls:=.type "list",data:=.seq ([]:List Value).toArray }:=by rw [<- hs3]
 have old3:∀ b o,s.heap.get? b=some o->s3.heap.get? b=some o:=fun b o q=>by rw [hh3]; exact Wad _ q
 have hf3:∀ b ∈ fp,FpOk X pins (upd H1 s.heap.objs.size (.lst [])) b:=fun b hb=>⟨by rw [Zas (Wa0 (hlt b hb))]; exact (f2 b hb).1,(f2 b hb).2⟩
 have hlt3:∀ b ∈ fp,b < s3.heap.objs.size:=fun b hb=>by rw [hh3,Heap.size_push]; exact Nat.lt_succ_of_lt (hlt b hb)
 have tn3:tn 0 s3.heap:=T.keep 0 _ _ st fun b hb o q=>old3 b o q
 have old4:∀ b o,s3.heap.get? b=some o->h1.get? b=some o:=fun b o q=>by
  have hb:b ≠ s3.heap.objs.size:=Wa0 (Wal q)
  rw [hh3] at hb q
  exact (hsb.2 b hb).trans (Wad _ q)
 have tn4:tn 0 h1:=T.keep 0 _ _ tn3 fun b hb o q=>old4 b o q
 have hC:(s.heap.push { cls:=.type "list",data:=.seq ([]:List Value).toArray }).objs.size=s3.heap.objs.size:=by rw [hh3]
 rw [hC] at hns
 have J0:=Zjo (tgs:=tgs) (tk:=s.toks + ([]:List (Str × Value)).length) S I3 hf3 hlt3 hns old4
 have es:({ s3 with heap:=h1,toks:=s.toks + ([]:List (Str × Value)).length }:Shared) = { s with heap:=h1,toks:=s.toks + ([]:List (Str × Value)).length }:=by rw [<- hs3]
 rw [es] at J0
 generalize hY:compCx X scope (tgs ++ fvs) s3.heap.objs.size s3 (upd H1 s.heap.objs.size (.lst [])) fp (X.pn ++ pins)=Y at J0
 have hYp:Y.prog=X.prog:=by rw [<- hY]; rfl
 have hYw:Y.w=X.w:=by rw [<- hY]; rfl
 have hYK:Y.K=X.K:=by rw [<- hY]; rfl
 have hYA:Y.A=X.A:=by rw [<- hY]; rfl
 have hYc:Cm Y:=by rw [<- hY]; exact hc _ _ _ _ _
 have hYx:Y.xe=fun _ _=>False:=by rw [<- hY]; rfl
 have hYe:Y.env=compEnvC scope (clOf X.env scope.names []) s3.heap.objs.size X.env:=by rw [<- hY]; rfl
 have stat:∀ {H':Hp},(∀ b ∈ fp,H' b=none)->∀ b ∈ fp,FpOk Y [] H' b:=fun hn b hb=>by
  rw [<- hY]
  refine ⟨hn b hb,Wa0 (hlt3 b hb),fun z=>?_,.inl hb,fun x c e=>?_,fun p hp z=>?_⟩
  ·rcases Wa5.mp (I3.stkSub b z) with q | q
   ·exact (hf3 b hb).2.1 q
   ·exact (hf3 b hb).2.2.1 q
  ·exact (hf3 b hb).2.2.2.2.1 x c (Za9 _ _ (fun _ _ z=>by simp at z) e)
  ·have hp:p ∈ (X.pn ++ pins) ++ []:=hp
   rw [Wba] at hp
   exact (hf3 b hb).2.2.2.2.2 p hp z
 have loop:codeAny (model X.prog X.w) X.A (.compLoop (.ListComp elt [⟨tg,iter,ifs,0⟩] scope pos) 0 (.ref it) (.ref s.heap.objs.size) Y.env) (RR (.ref s.heap.objs.size) s3.heap.objs.size)
   { s with heap:=h1,toks:=s.toks + ([]:List (Str × Value)).length }:=by
  refine codeAny_loop rfl (fun n s'=>∃ i σ' H',Inv Y [] σ' H' s' /\ tn i s'.heap/\(∀ b ∈ fp,H' b=none)/\W i n σ' H') ?_ m0 ⟨0,_,_,J0,tn4,fun b hb=>(hf3 b hb).1,w0⟩
  rintro n s5 ⟨i,σ5,H5,I5,st5,fr5,w5⟩
  show wpAny _ X.A ((compTurn (.ListComp elt [⟨tg,iter,ifs,0⟩] scope pos) 0 (.ref it) (.ref s.heap.objs.size) Y.env).onRaise (fun x=>do noteFrame x Y.env; theTreesLotGoes x)) _ _ s5
  refine wpAny_noted (wpAny_mono (E:=fun _ _=>False) ?_ (fun _ _ q=>q) fun _ _ z=>z.elim)
  rw [compTurn_list]
  refine wpAny_bind (wpAny_standAt (wpAny_bind ?_))
  rcases turn i n σ5 H5 w5 with ⟨stop,qn⟩ | ⟨go,N,hN,step⟩
  ·have D:=T.done Y hYp hYw hYK hYc i [] s5 σ5 H5 (fun _ _=>False) I5 (stat fr5) st5 stop
   rw [hYA] at D
   refine thn D fun r s6 ⟨hr,I6⟩=>?_
   subst hr
   refine wpAny_pure ?_
   obtain ⟨m6,hn6,_⟩:=I6.loc
   rw [hYe] at hn6
   refine fin s6 _ _ H5 m6 hn6 (I3.fpOk (Waj _) (by have z:=I6.free; rw [hYe] at z; exact z)) (fun h' sb=>?_) qn
   have I6':Inv (compCx X scope (tgs ++ fvs) s3.heap.objs.size s3 (upd H1 s.heap.objs.size (.lst [])) fp (X.pn ++ pins)) [] σ5 H5 s6:=by rw [hY]; exact I6
   exact Zjb I3 hf3 I6' sb
  ·have D:=T.item Y hYp hYw hYK hYc i [] s5 σ5 H5 (fun _ _=>False) I5 (stat fr5) st5 go
   rw [hYA] at D
   refine thn D fun r s6 ⟨u,hr,h6⟩=>?_
   subst hr
   refine wpAny_bind (thn h6 fun _ s7 ⟨x,H7,I7,r7,y7,st7,fr7⟩=>?_)
   have I7':=I7.pinned (stat fr7) (T.obj _ _ st7)
   have G:=hg s3.heap.objs.size s3 (upd H1 s.heap.objs.size (.lst [])) fp (X.pn ++ pins)
   have TT:=ht s3.heap.objs.size s3 (upd H1 s.heap.objs.size (.lst [])) fp (X.pn ++ pins)
   have EE:=he s3.heap.objs.size s3 (upd H1 s.heap.objs.size (.lst [])) fp (X.pn ++ pins)
   rw [hY] at G TT EE
   have G1:=G _ s7 σ5 H7 x u _ I7' r7 (step x H7 y7)
   rw [hYp,hYw,hYA,hYx] at G1
   refine wpAny_bind (thn G1 fun _ s8 ⟨σ8,H8,I8,q8⟩=>?_)
   have T1:=TT _ s8 σ8 H8 _ I8 q8
   rw [hYp,hYw,hYA,hYx] at T1
   refine wpAny_bind (thn T1 fun ok s9 ⟨H9,I9,q9⟩=>?_)
   have again:∀ {s':Shared} {σ':St} {H':Hp},Inv Y ([] ++ pinsAt fp s7.heap) σ' H' s' -> N σ' H' -> ∃ m,m < n/\∃ i σ' H',Inv Y [] σ' H' s' /\ tn i s'.heap/\(∀ b ∈ fp,H' b=none)/\W i m σ' H':=fun {s' σ' H'} K7 n7=>by
    obtain ⟨m',hm,w7⟩:=hN σ' H' n7
    refine ⟨m',hm,i + 1,σ',H',K7.unpinned,T.keep _ _ _ st7 fun b hb o e=>(K7.pin (b,o) (War _ (War _ (Zcg hb e)))).1,fun b hb=>?_,w7⟩
    obtain ⟨o,e,d⟩:=T.obj _ _ st7 b hb
    exact (K7.pin (b,o) (War _ (War _ (Zcg hb e)))).2.1
   cases ok with
   | false=>
    have q9:N σ8 H9:=q9
    exact wpAny_pure ⟨by rw [hYe],again I9 q9⟩
   | true=>
    have q9:te σ8 H9 fun y H5=>∃ ys,H5 s.heap.objs.size=some (.lst ys)/\ys.length < sizeLine/\N σ8 (upd H5 s.heap.objs.size (.lst (ys ++ [y]))):=q9
    have E1:=EE _ s9 σ8 H9 _ I9 q9
    rw [hYp,hYw,hYA,hYx] at E1
    refine wpAny_bind (wpAny_bind (thn E1 fun v sa ⟨y,Ha,Ia,ra,ys,ea,za,na⟩=>?_))
    have M:=Zfl (X:=Y) _ sa σ8 Ha (.ref s.heap.objs.size) [y] (.ref s.heap.objs.size) [v] (fun _ H=>N σ8 H) Ia rfl (.cons ra .nil) ⟨_,ys,y,rfl,rfl,ea,za,na⟩
    rw [hYp,hYw,hYA,hYx] at M
    refine wpAny_bind (thn M fun _ sb ⟨_,Hb,Ib,_,nb⟩=>wpAny_pure (wpAny_pure ⟨by rw [hYe],again Ib nb⟩))
 have hcs:(relabel scope X.env)=(relabel scope X.env):=rfl
 have loop':=loop
 rw [hYe] at loop'
 show codeAny (model X.prog X.w) X.A (.compStart (.ListComp elt [⟨tg,iter,ifs,0⟩] scope pos) 0 (.ref it) (.ref s.heap.objs.size) (compEnvC scope (clOf X.env scope.names []) (s.heap.push { cls:=.type "list",data:=.seq ([]:List Value).toArray }).objs.size X.env)) (RR (.ref s.heap.objs.size) (s.heap.push { cls:=.type "list",data:=.seq ([]:List Value).toArray }).objs.size) _
 rw [hC]
 exact codeAny_compStart_list loop' (T.self _ 0 _ _ _ tn4 loop')
theorem Zc6 {elt tg iter:Expr} {ifs:List Expr} {scope:Scope} {pos:Pos} {fvs:List Str} {sel:List Nat} {wi:TI} {g:TG} {tc:TT} {te:TE} (tgs:List Str) (S:CompSc X.env.scope X.N scope fvs sel) (hc:X.calm=true)
  (hi:PI X tg iter wi) (hg:∀ C s H ex pn,PG (compCx X scope (tgs ++ fvs) C s H ex pn) tg g) (ht:∀ C s H ex pn,PTs (compCx X scope (tgs ++ fvs) C s H ex pn) ifs tc) (he:∀ C s H ex pn,PE (compCx X scope (tgs ++ fvs) C s H ex pn) elt te)
  (hs:∀ x,foldedSetIterable iter X.env x=pure x:=by intro _; rfl) :
  PE X (.ListComp elt [⟨tg,iter,ifs,0⟩] scope pos) (tComp tgs.length sel wi g tc te):=by
 intro pins s σ H Q I h
 rw [eval_ListComp]
 refine wpAny_comprehension_free (use:=none) rfl hs (Zbo (Zcf S I.ok)) S.kind S.names (thn (hi pins s σ H _ I h) fun v s1 h1=>thn h1 fun itv s2 h2=>?_)
 refine Zd0 (Cm:=fun X=>X.calm=true) S (fun _ _ _ _ _=>hc) hg ht he (RR:=fun acc C=>compPost (model X.prog X.w) X.A X.xe none (EP X pins σ Q) acc C) (Q:=Q) h2 ?_
 intro s' C acc H' m hn _ hI q
 exact ⟨m,hn,fun h' sb=>⟨.ref acc,H',hI h' sb,rfl,q⟩⟩
theorem Zgh {elt tg iter:Expr} {ifs:List Expr} {scope:Scope} {pos spos py:Pos} {fvs:List Str} {sel:List Nat} {wi:TI} {g:TG} {tc:TT} {te:TE} {i:Nat} {y:Str} (tgs:List Str) (S:CompSc X.env.scope X.N scope fvs sel) (hc:X.calm=true)
  (hN:X.N.Nodup) (hiy:X.N[i]? = some y) (hx:Loc X.env.scope y)
  (hi:PI X tg iter wi) (hg:∀ C s H ex pn,PG (compCx X scope (tgs ++ fvs) C s H ex pn) tg g) (ht:∀ C s H ex pn,PTs (compCx X scope (tgs ++ fvs) C s H ex pn) ifs tc) (he:∀ C s H ex pn,PE (compCx X scope (tgs ++ fvs) C s H ex pn) elt te)
  (hs:∀ x,foldedSetIterable iter X.env x=pure x:=by intro _; rfl) (hsw:swapsWith (.ListComp elt [⟨tg,iter,ifs,0⟩] scope pos) (some (.Name y py)) spos.line X.env=pure true:=by rfl)
  (hf:X.fn y=true\/X.env.scope.names.lookup y=some .local:=by first | exact .inl rfl | exact .inr rfl | assumption) :
  PS X (.Assign [.Name y py] (.ListComp elt [⟨tg,iter,ifs,0⟩] scope pos) spos) (tAsg (tComp tgs.length sel wi g tc te) (gName i)):=by
 intro pins s σ H D I h
 rw [exec_Assign_Name_used _ _ _ _ hsw]
 refine wpAny_bind (wpAny_standAt (wpAny_bind ?_))
 show wpAny _ X.A (do let _ ← comprehension (.ListComp elt [⟨tg,iter,ifs,0⟩] scope pos) scope X.env _ (newList []) false (eval iter X.env) (some (assign (.Name y py) X.env))) _ _ s
 refine wpAny_bind (wpAny_mono (wpAny_comprehension_free (use:=some (assign (.Name y py) X.env)) (Q:=fun _ s'=>SP X pins D .next s') rfl hs (Zbo (Zcf S I.ok)) S.kind S.names
  (thn (hi pins s σ H _ I h) fun v s1 h1=>thn h1 fun itv s2 h2=>?_)) (fun _ s' hq=>wpAny_pure (wpAny_pure hq)) fun _ _ e=>e)
 refine Zd0 (Cm:=fun X=>X.calm=true) S (fun _ _ _ _ _=>hc) hg ht he (RR:=fun acc C=>compPost (model X.prog X.w) X.A X.xe (some (assign (.Name y py) X.env)) (fun _ s'=>SP X pins D .next s') acc C) (Q:=fun v H'=>D.nx (σ.set i (some v)) H') h2 ?_
 intro s' C acc H' m hn fp hI q
 have I0:Inv X pins σ H' s':=hI s'.heap (.refl ..)
 show wpAny _ X.A (assign (.Name y py) X.env (.ref acc)) _ _ _
 refine wpAny_assign_Name (Zfh (v:=.ref acc) I0 hN hiy hx rfl (fun s2 I2 hsb=>?_) hf)
 obtain ⟨a,sb,ha⟩:=hsb
 have hCa:C ≠ a:=by
  rcases ha with z | z
  ·rw [z]; exact fp.2.1
  ·exact Ne.symm (fp.2.2.2.2.1 y a z)
 refine ⟨m,hn.sameBut sb hCa,fun h' sb'=>?_⟩
 obtain ⟨f0,f1,f2,f3,f4,f5⟩:=fp
 exact ⟨_,H',I2.turned (t':=s2.toks) (it:=C) (fun b o hb e=>(sb'.2 b hb).trans e) f0 f1 f3 f4 f5,q⟩
end
end L2
set_option Elab.async false
set_option linter.all false
set_option maxRecDepth 100000
namespace L2
open PySem PySem.Spec PyProof.Rows
noncomputable def InsC (a C:Addr) (h:Heap):Prop:=∃ ox vs,h.get? a=some ox/\ox.cls=.ref C/\ox.data=.fields vs/\vs[2]? = some .none
inductive D where
 | non | bl (b:Bool) | int (i:Int) | str (x:Str) | ty (n:String) | tup (ds:List D) | lst (ds:List D) | scr (ds:List D) | adr (a:Addr) | dct (ks:List Key) (ds:List D) | exc (a C:Addr)
mutual
inductive Rep (K:PySem.W.Frag) (G:Hp):V->D->Prop
 | non:Rep K G .non .non
 | bl (b:Bool):Rep K G (.bl b) (.bl b)
 | int (i:Int):Rep K G (.int i) (.int i)
 | str (x:Str):Rep K G (.str x) (.str x)
 | ty (n:String):Rep K G (.ty n) (.ty n)
 | tup {a:Addr} {vs:List V} {ds:List D}:G a=some (.tup vs)->Reps K G vs ds->Rep K G (.ref a) (.tup ds)
 | lst {a:Addr} {vs:List V} {ds:List D}:G a=some (.lst vs)->Reps K G vs ds->Rep K G (.ref a) (.lst ds)
 | scr {a:Addr} {vs:List V} {ds:List D}:SqL K G a vs->Reps K G vs ds->Rep K G (.ref a) (.scr ds)
 | adr (a:Addr):Rep K G (.ref a) (.adr a)
 | dct {a:Addr} {ks:List Key} {vs:List V} {ds:List D}:G a=some (.dK (ks.zip vs))->ks.length=vs.length->Reps K G vs ds->Rep K G (.ref a) (.dct ks ds)
 | exc {a C:Addr}:G a=some (.ext (InsC a C))->Rep K G (.ref a) (.exc a C)
inductive Reps (K:PySem.W.Frag) (G:Hp):List V->List D->Prop
 | nil:Reps K G [] []
 | cons {v:V} {d:D} {vs:List V} {ds:List D}:Rep K G v d->Reps K G vs ds->Reps K G (v :: vs) (d :: ds)
end
noncomputable def RepI (K:PySem.W.Frag) (G:Hp) (v:V):D->Prop
 | .non=>v=.non
 | .bl b=>v=.bl b
 | .int i=>v=.int i
 | .str x=>v=.str x
 | .ty n=>v=.ty n
 | .tup ds=>∃ a vs,v=.ref a/\G a=some (.tup vs)/\Reps K G vs ds
 | .lst ds=>∃ a vs,v=.ref a/\G a=some (.lst vs)/\Reps K G vs ds
 | .scr ds=>∃ a vs,v=.ref a/\SqL K G a vs/\Reps K G vs ds
 | .adr a=>v=.ref a
 | .dct ks ds=>∃ a vs,v=.ref a/\G a=some (.dK (ks.zip vs))/\ks.length=vs.length/\Reps K G vs ds
 | .exc a C=>v=.ref a/\G a=some (.ext (InsC a C))
theorem Rep.inv {K:PySem.W.Frag} {G:Hp} {v:V} {d:D} (r:Rep K G v d):RepI K G v d:=by
 cases r with
 | tup h r=>exact ⟨_,_,rfl,h,r⟩
 | lst h r=>exact ⟨_,_,rfl,h,r⟩
 | scr h r=>exact ⟨_,_,rfl,h,r⟩
 | dct h l r=>exact ⟨_,_,rfl,h,l,r⟩
 | exc h=>exact ⟨rfl,h⟩
 | _=>rfl
noncomputable def RepsI (K:PySem.W.Frag) (G:Hp) (vs:List V):List D->Prop
 | []=>vs=[]
 | d :: ds=>∃ v ws,vs=v :: ws/\Rep K G v d/\Reps K G ws ds
theorem Reps.inv {K:PySem.W.Frag} {G:Hp} {vs:List V} {ds:List D} (r:Reps K G vs ds):RepsI K G vs ds:=by
 cases r with
 | nil=>rfl
 | cons a b=>exact ⟨_,_,rfl,a,b⟩
section
variable {K:PySem.W.Frag} {G G' H H':Hp}
mutual
theorem Rep.mono (s:Same G G'):∀ {v:V} {d:D},Rep K G v d->Rep K G' v d
 | _,_,.non=>.non
 | _,_,.bl b=>.bl b
 | _,_,.int i=>.int i
 | _,_,.str x=>.str x
 | _,_,.ty n=>.ty n
 | _,_,.tup h r=>.tup (s _ _ h) (Reps.mono s r)
 | _,_,.lst h r=>.lst (s _ _ h) (Reps.mono s r)
 | _,_,.scr h r=>.scr (s.seq h) (Reps.mono s r)
 | _,_,.adr a=>.adr a
 | _,_,.dct h l r=>.dct (s _ _ h) l (Reps.mono s r)
 | _,_,.exc h=>.exc (s _ _ h)
theorem Reps.mono (s:Same G G'):∀ {vs:List V} {ds:List D},Reps K G vs ds->Reps K G' vs ds
 | _,_,.nil=>.nil
 | _,_,.cons h r=>.cons (Rep.mono s h) (Reps.mono s r)
end
theorem Reps.length:∀ {vs:List V} {ds:List D},Reps K G vs ds->vs.length=ds.length
 | _,_,.nil=>rfl
 | _,_,.cons _ r=>by rw [Wao,Wao,r.length]
theorem Reps.get:∀ {vs:List V} {ds:List D} {i:Nat} {d:D},Reps K G vs ds->ds[i]? = some d->∃ v,vs[i]? = some v/\Rep K G v d
 | _,_,_,_,.nil,e=>by simp at e
 | _,_,0,_,.cons r _,e=>by simp at e; subst e; exact ⟨_,rfl,r⟩
 | _,_,i + 1,d,.cons _ t,e=>by
  obtain ⟨u,h1,h2⟩:=Reps.get (i:=i) (d:=d) t (by simpa using e)
  exact ⟨u,by simpa using h1,h2⟩
theorem Reps.append:∀ {vs ws:List V} {ds es:List D},Reps K G vs ds->Reps K G ws es->Reps K G (vs ++ ws) (ds ++ es)
 | _,_,_,_,.nil,s=>s
 | _,_,_,_,.cons r t,s=>.cons r (Reps.append t s)
theorem Reps.take:∀ {vs:List V} {ds:List D} (n:Nat),Reps K G vs ds->Reps K G (vs.take n) (ds.take n)
 | _,_,0,_=>.nil
 | _,_,_ + 1,.nil=>.nil
 | _,_,n + 1,.cons r t=>.cons r (Reps.take n t)
theorem Reps.drop:∀ {vs:List V} {ds:List D} (n:Nat),Reps K G vs ds->Reps K G (vs.drop n) (ds.drop n)
 | _,_,0,r=>r
 | _,_,_ + 1,.nil=>.nil
 | _,_,n + 1,.cons _ t=>Reps.drop n t
theorem Reps.reverse {vs:List V} {ds:List D} (h:Reps K G vs ds):Reps K G vs.reverse ds.reverse:=by
 induction vs generalizing ds with
 | nil=>cases h; exact .nil
 | cons v vs ih=>
  cases h with
  | cons r t=>rw [List.reverse_cons,List.reverse_cons]; exact (ih t).append (.cons r .nil)
theorem Reps.set:∀ {vs:List V} {ds:List D} {v:V} {d:D} (i:Nat),Reps K G vs ds->Rep K G v d->Reps K G (vs.set i v) (ds.set i d)
 | _,_,_,_,_,.nil,_=>.nil
 | _,_,_,_,0,.cons _ t,q=>.cons q t
 | _,_,_,_,i + 1,.cons r t,q=>.cons r (Reps.set i t q)
theorem Reps.eraseIdx:∀ {vs:List V} {ds:List D} (i:Nat),Reps K G vs ds->Reps K G (vs.eraseIdx i) (ds.eraseIdx i)
 | _,_,_,.nil=>.nil
 | _,_,0,.cons _ t=>t
 | _,_,i + 1,.cons r t=>.cons r (Reps.eraseIdx i t)
theorem Reps.ints {vs:List V}:∀ {ns:List Int},Reps K G vs (ns.map D.int)->vs=ns.map V.int:=by
 induction vs with
 | nil=>intro ns h; cases ns with
  | nil=>rfl
  | cons n ns=>cases h
 | cons v vs ih=>intro ns h; cases ns with
  | nil=>cases h
  | cons n ns=>
   cases h with
   | cons r t=>cases r.inv; rw [ih t]; rfl
theorem Reps.ofInts:∀ (ns:List Int),Reps K G (ns.map V.int) (ns.map D.int)
 | []=>.nil
 | n :: ns=>.cons (.int n) (Reps.ofInts ns)
theorem Zer {vs:List V} {ds:List D} {i:Int} {d:D} (r:Reps K G vs ds) (h:atI ds i=some d):∃ v,atI vs i=some v/\Rep K G v d:=by
 unfold atI at h ⊢
 rw [<- r.length] at h
 cases e:ixN vs.length i with
 | none=>rw [e] at h; cases h
 | some j=>rw [e] at h; exact r.get h
end
inductive OD where
 | lst (ds:List D) | dct (kvs:List (Key × D)) | set (S:Int->Bool) (n:Nat)
noncomputable def OwnRep (K:PySem.W.Frag) (G:Hp):HO->OD->Prop
 | .lst vs,.lst ds=>Reps K G vs ds
 | .dK kvs,.dct kds=>Paired (fun (p:Key × V) (q:Key × D)=>p.1=q.1/\Rep K G p.2 q.2) kvs kds
 | .set S n,.set S' n'=>S=S' /\ n=n'
 | _,_=>False
theorem OwnRep.mono {K:PySem.W.Frag} {G G':Hp} (s:Same G G') {o:HO} {od:OD} (h:OwnRep K G o od):OwnRep K G' o od:=by
 cases o <;> cases od <;> first
  | exact h.elim
  | exact Reps.mono s h
  | exact Paired.mapP h fun _ _ z=>⟨z.1,z.2.mono s⟩
  | exact h
inductive Slot where
 | any | val (d:D) | own (o:OD) | bor (o:OD) | ownA (a:Addr) (o:OD)
noncomputable abbrev Evt:=List Slot
noncomputable def Slot.od:Slot->Option OD
 | .own o=>some o
 | .bor o=>some o
 | .ownA _ o=>some o
 | _=>none
structure Gm where
 B:Addr->Prop
 F:Hp
 Hz:Hp
 Xo:Hp
noncomputable def SlotAt (g:Gm) (x:Slot) (a:Addr):Prop:=match x with
 | .own _=>g.Hz a=none
 | .bor _=>g.B a
 | .ownA b _=>b=a/\g.Hz a=none
 | _=>True
structure Ok (K:PySem.W.Frag) (g:Gm) (G H:Hp) (σ:St) (Δ:Evt):Prop where
 same:∀ b o,¬ g.B b->g.Hz b=some o->H b=some o
 lent:∀ b,g.B b->H b ≠ none
 sub:Same g.F G
 frz:∀ b o,G b=some o->H b=some o/\(g.Hz b=none\/g.F b=some o)
 ext:∀ b o,g.Xo b=some o->H b=some o/\G b=none/\∀ (i:Nat) x od,Δ[i]? = some x->x.od=some od -> σ[i]? ≠ some (some (.ref b))
 len:Δ.length = σ.length
 val:∀ (i:Nat) d,Δ[i]? = some (.val d)->∃ v,σ[i]? = some (some v)/\Rep K G v d
 own:∀ (i:Nat) x od,Δ[i]? = some x->x.od=some od->∃ a o,σ[i]? = some (some (.ref a))/\H a=some o/\OwnRep K G o od/\G a=none/\SlotAt g x a
 dis:∀ (i j:Nat) x y od od' a,Δ[i]? = some x->x.od=some od -> Δ[j]? = some y->y.od=some od' -> σ[i]? = some (some (.ref a)) -> σ[j]? = some (some (.ref a))->i=j
section
variable {K:PySem.W.Frag} {g:Gm} {G H G' H':Hp} {σ:St} {Δ:Evt}
theorem Ok.live (k:Ok K g G H σ Δ):Same G H:=fun b o e=>(k.frz b o e).1
theorem Ok.there (k:Ok K g G H σ Δ) {b:Addr} (h:H b=none):g.Hz b=none:=by
 cases e:g.Hz b with
 | none=>rfl
 | some o=>
  by_cases hb:g.B b
  ·exact absurd h (k.lent b hb)
  ·have:=k.same b o hb e
   rw [h] at this; cases this
theorem Ok.grow (k:Ok K g G H σ Δ) (sg:Same G G') (sh:Same H H') (hg:∀ b o,G' b=some o->H' b=some o/\(G b=some o\/H b=none)):Ok K g G' H' σ Δ where
 same:=fun b o hb e=>sh b o (k.same b o hb e)
 lent:=fun b hb z=>by
  cases e:H b with
  | none=>exact k.lent b hb e
  | some o=>rw [sh b o e] at z; cases z
 sub:=k.sub.trans sg
 frz:=fun b o e=>by
  obtain ⟨h1,h2⟩:=hg b o e
  refine ⟨h1,?_⟩
  rcases h2 with z | z
  ·exact (k.frz b o z).2
  ·exact .inl (k.there z)
 ext:=fun b o e=>by
  obtain ⟨h1,h2,h3⟩:=k.ext b o e
  refine ⟨sh b o h1,?_,h3⟩
  cases q:G' b with
  | none=>rfl
  | some o'=>
   rcases (hg b o' q).2 with z | z
   ·rw [h2] at z; cases z
   ·rw [h1] at z; cases z
 len:=k.len
 val:=fun i d e=>by
  obtain ⟨v,h1,h2⟩:=k.val i d e
  exact ⟨v,h1,h2.mono sg⟩
 own:=fun i x od e1 e2=>by
  obtain ⟨a,o,h1,h2,h3,h4,h5⟩:=k.own i x od e1 e2
  refine ⟨a,o,h1,sh a o h2,h3.mono sg,?_,h5⟩
  cases q:G' a with
  | none=>rfl
  | some o'=>
   rcases (hg a o' q).2 with z | z
   ·rw [h4] at z; cases z
   ·rw [h2] at z; cases z
 dis:=k.dis
theorem Ok.laid (k:Ok K g G H σ Δ) {p:Addr} (hp:H p=none) (o:HO):Ok K g (upd G p o) (upd H p o) σ Δ /\ Same G (upd G p o):=by
 have hG:G p=none:=by
  cases e:G p with
  | none=>rfl
  | some u=>rw [k.live p u e] at hp; cases hp
 have sg:Same G (upd G p o):=fun b u e=>by rw [Zas (Za2 e hG)]; exact e
 refine ⟨k.grow sg (fun b u e=>by rw [Zas (Za2 e hp)]; exact e) fun b u e=>?_,sg⟩
 by_cases hb:b=p
 ·subst hb; rw [Zao] at e ⊢; exact ⟨e,.inr hp⟩
 ·rw [Zas hb] at e ⊢; exact ⟨k.live b u e,.inl e⟩
theorem Ok.lt (k:Ok K g G H σ Δ) {i:Nat} {x:Slot} (h:Δ[i]? = some x):i < σ.length:=by
 rw [<- k.len]; exact (Wak.mp h).1
noncomputable def Pend (K:PySem.W.Frag) (g:Gm) (G H:Hp) (σ:St) (Δ:Evt) (a:Addr) (od:OD):Prop:=
 ∃ o,H a=some o/\OwnRep K G o od/\G a=none/\g.Hz a=none/\g.Xo a=none/\∀ (i:Nat) x od',Δ[i]? = some x->x.od=some od' -> σ[i]? ≠ some (some (.ref a))
theorem Ok.setVal (k:Ok K g G H σ Δ) {v:V} {d:D} {i:Nat} (hi:i < Δ.length) (r:Rep K G v d):Ok K g G H (σ.set i (some v)) (Δ.set i (.val d)):=by
 have hs:i < σ.length:=by rw [<- k.len]; exact hi
 have old:∀ (j:Nat) x od,(Δ.set i (.val d))[j]? = some x->x.od=some od->j ≠ i /\ Δ[j]? = some x/\(σ.set i (some v))[j]? = σ[j]?:=fun j x od e1 e2=>by
  by_cases hj:j=i
  ·subst hj
   rw [Waf hi] at e1
   cases e1; cases e2
  ·rw [Wag (Ne.symm hj)] at e1
   exact ⟨hj,e1,Wag (Ne.symm hj)⟩
 refine ⟨k.same,k.lent,k.sub,k.frz,fun b o e=>?_,by simp [k.len],fun j e h=>?_,fun j x od e1 e2=>?_,fun j l x y od od' a e1 e2 e3 e4 e5 e6=>?_⟩
 ·obtain ⟨h1,h2,h3⟩:=k.ext b o e
  refine ⟨h1,h2,fun j x od e1 e2=>?_⟩
  obtain ⟨_,q1,q2⟩:=old j x od e1 e2
  rw [q2]; exact h3 j x od q1 e2
 ·by_cases hj:j=i
  ·subst hj
   rw [Waf hi] at h
   cases h
   exact ⟨v,Waf hs,r⟩
  ·rw [Wag (Ne.symm hj)] at h ⊢
   exact k.val j e h
 ·obtain ⟨_,q1,q2⟩:=old j x od e1 e2
  rw [q2]; exact k.own j x od q1 e2
 ·obtain ⟨_,q1,q2⟩:=old j x od e1 e2
  obtain ⟨_,q3,q4⟩:=old l y od' e3 e4
  rw [q2] at e5; rw [q4] at e6
  exact k.dis j l x y od od' a q1 e2 q3 e4 e5 e6
theorem Ok.setOwn (k:Ok K g G H σ Δ) {a:Addr} {od:OD} {i:Nat} (hi:i < Δ.length) (p:Pend K g G H σ Δ a od):Ok K g G H (σ.set i (some (.ref a))) (Δ.set i (.own od)):=by
 obtain ⟨o,p1,p2,p3,p4,p5,p6⟩:=p
 have hs:i < σ.length:=by rw [<- k.len]; exact hi
 have old:∀ (j:Nat) x,j ≠ i->(Δ.set i (.own od))[j]? = some x -> Δ[j]? = some x/\(σ.set i (some (.ref a)))[j]? = σ[j]?:=fun j x hj e1=>by
  rw [Wag (Ne.symm hj)] at e1
  exact ⟨e1,Wag (Ne.symm hj)⟩
 refine ⟨k.same,k.lent,k.sub,k.frz,fun b ob e=>?_,by simp [k.len],fun j e h=>?_,fun j x od' e1 e2=>?_,fun j l x y od1 od2 c e1 e2 e3 e4 e5 e6=>?_⟩
 ·obtain ⟨h1,h2,h3⟩:=k.ext b ob e
  refine ⟨h1,h2,fun j x od' e1 e2=>?_⟩
  by_cases hj:j=i
  ·subst hj
   rw [Waf hs]
   intro z
   cases z
   rw [p5] at e; cases e
  ·obtain ⟨q1,q2⟩:=old j x hj e1
   rw [q2]; exact h3 j x od' q1 e2
 ·by_cases hj:j=i
  ·subst hj
   rw [Waf hi] at h
   cases h
  ·rw [Wag (Ne.symm hj)] at h ⊢
   exact k.val j e h
 ·by_cases hj:j=i
  ·subst hj
   rw [Waf hi] at e1
   cases e1
   cases e2
   exact ⟨a,o,Waf hs,p1,p2,p3,p4⟩
  ·obtain ⟨q1,q2⟩:=old j x hj e1
   rw [q2]; exact k.own j x od' q1 e2
 ·by_cases hj:j=i
  ·by_cases hl:l=i
   ·rw [hj,hl]
   ·obtain ⟨q3,q4⟩:=old l y hl e3
    rw [q4] at e6
    rw [hj,Waf hs] at e5
    cases e5
    exact absurd e6 (p6 l y od2 q3 e4)
  ·obtain ⟨q1,q2⟩:=old j x hj e1
   rw [q2] at e5
   by_cases hl:l=i
   ·rw [hl,Waf hs] at e6
    cases e6
    exact absurd e5 (p6 j x od1 q1 e2)
   ·obtain ⟨q3,q4⟩:=old l y hl e3
    rw [q4] at e6
    exact k.dis j l x y od1 od2 c q1 e2 q3 e4 e5 e6
noncomputable def Slot.put:Slot->OD->Slot
 | .own _,o=>.own o
 | .bor _,o=>.bor o
 | .ownA a _,o=>.ownA a o
 | x,_=>x
theorem SlotAt.put {g:Gm} {x:Slot} {a:Addr} {o:OD} (h:SlotAt g x a):SlotAt g (x.put o) a:=by cases x <;> exact h
theorem SlotAt.free {g:Gm} {x:Slot} {a:Addr} {od:OD} (h:SlotAt g x a) (ho:x.od=some od):g.Hz a=none\/g.B a:=by
 cases x with
 | any=>cases ho
 | val d=>cases ho
 | own o=>exact .inl h
 | bor o=>exact .inr h
 | ownA b o=>exact .inl h.2
theorem Slot.put_od {x:Slot} {od o:OD} (h:x.od=some od):(x.put o).od=some o:=by cases x <;> cases h <;> rfl
theorem Ok.write (k:Ok K g G H σ Δ) {a:Addr} {od od':OD} {x:Slot} {i:Nat} {o':HO} (hx:Δ[i]? = some x) (hod:x.od=some od) (ha:σ[i]? = some (some (.ref a))) (r:OwnRep K G o' od'):Ok K g G (upd H a o') σ (Δ.set i (x.put od')):=by
 obtain ⟨a',o,q1,q2,q3,q4,q5⟩:=k.own i x od hx hod
 rw [ha] at q1; cases q1
 have hi:i < Δ.length:=(Wak.mp hx).1
 have other:∀ (j:Nat) y od2,(Δ.set i (x.put od'))[j]? = some y->y.od=some od2->j ≠ i -> Δ[j]? = some y:=fun j y od2 e1 e2 hj=>by
  rw [Wag (Ne.symm hj)] at e1; exact e1
 have anyOd:∀ (j:Nat) y od2,(Δ.set i (x.put od'))[j]? = some y->y.od=some od2->∃ y' od3,Δ[j]? = some y' /\ y'.od=some od3:=fun j y od2 e1 e2=>by
  by_cases hj:j=i
  ·subst hj; exact ⟨x,od,hx,hod⟩
  ·exact ⟨y,od2,other j y od2 e1 e2 hj,e2⟩
 refine ⟨fun b u hb e=>?_,fun b hb=>?_,k.sub,fun b u e=>?_,fun b u e=>?_,by simp [k.len],fun j e h=>?_,fun j y od2 e1 e2=>?_,fun j l y z od1 od2 c e1 e2 e3 e4 e5 e6=>?_⟩
 ·have hba:b ≠ a:=by
   intro z; subst z
   rcases q5.free hod with z | z
   ·rw [z] at e; cases e
   ·exact hb z
  rw [Zas hba]; exact k.same b u hb e
 ·by_cases hba:b=a
  ·subst hba; rw [Zao]; intro z; cases z
  ·rw [Zas hba]; exact k.lent b hb
 ·have hba:b ≠ a:=by intro z; subst z; rw [q4] at e; cases e
  rw [Zas hba]; exact k.frz b u e
 ·obtain ⟨h1,h2,h3⟩:=k.ext b u e
  have hba:b ≠ a:=by intro z; subst z; exact h3 i x od hx hod ha
  rw [Zas hba]
  refine ⟨h1,h2,fun j y od2 e1 e2=>?_⟩
  obtain ⟨y',od3,z1,z2⟩:=anyOd j y od2 e1 e2
  exact h3 j y' od3 z1 z2
 ·by_cases hj:j=i
  ·subst hj
   rw [Waf hi] at h
   cases x <;> cases hod <;> cases h
  ·rw [Wag (Ne.symm hj)] at h
   exact k.val j e h
 ·by_cases hj:j=i
  ·subst hj
   rw [Waf hi] at e1
   cases e1
   rw [Slot.put_od hod] at e2; cases e2
   exact ⟨a,o',ha,Zao,r,q4,q5.put⟩
  ·have e1':=other j y od2 e1 e2 hj
   obtain ⟨c,oc,w1,w2,w3,w4,w5⟩:=k.own j y od2 e1' e2
   have hca:c ≠ a:=by
    intro z; subst z
    exact hj (k.dis j i y x od2 od c e1' e2 hx hod w1 ha)
   exact ⟨c,oc,w1,by rw [Zas hca]; exact w2,w3,w4,w5⟩
 ·obtain ⟨y',od3,z1,z2⟩:=anyOd j y od1 e1 e2
  obtain ⟨y'',od4,z3,z4⟩:=anyOd l z od2 e3 e4
  exact k.dis j l y' y'' od3 od4 c z1 z2 z3 z4 e5 e6
theorem Ok.freeze (k:Ok K g G H σ Δ) {a:Addr} {ds:List D} {vs:List V} (p:Pend K g G H σ Δ a (.lst ds)) (hv:H a=some (.lst vs)):Ok K g (upd G a (.lst vs)) H σ Δ /\ Same G (upd G a (.lst vs))/\Rep K (upd G a (.lst vs)) (.ref a) (.lst ds):=by
 obtain ⟨o,p1,p2,p3,p4,p5,p6⟩:=p
 rw [hv] at p1; cases p1
 have p2:Reps K G vs ds:=p2
 have sg:Same G (upd G a (.lst vs)):=fun b u e=>by rw [Zas (Za2 e p3)]; exact e
 refine ⟨⟨k.same,k.lent,k.sub.trans sg,fun b u e=>?_,fun b u e=>?_,k.len,fun j d h=>?_,fun j x od e1 e2=>?_,k.dis⟩,sg,.lst Zao (p2.mono sg)⟩
 ·by_cases hb:b=a
  ·subst hb; rw [Zao] at e; cases e; exact ⟨hv,.inl p4⟩
  ·rw [Zas hb] at e; exact k.frz b u e
 ·obtain ⟨h1,h2,h3⟩:=k.ext b u e
  have hb:b ≠ a:=by intro z; subst z; rw [p5] at e; cases e
  exact ⟨h1,by rw [Zas hb]; exact h2,h3⟩
 ·obtain ⟨v,h1,h2⟩:=k.val j d h
  exact ⟨v,h1,h2.mono sg⟩
 ·obtain ⟨c,o,w1,w2,w3,w4,w5⟩:=k.own j x od e1 e2
  have hc:c ≠ a:=by intro z; subst z; exact p6 j x od e1 e2 w1
  exact ⟨c,o,w1,w2,w3.mono sg,by rw [Zas hc]; exact w4,w5⟩
theorem Ok.drop (k:Ok K g G H σ Δ) (i:Nat):Ok K g G H σ (Δ.set i .any):=by
 have old:∀ (j:Nat) x,(Δ.set i .any)[j]? = some x->x=.any\/(Δ[j]? = some x/\j ≠ i):=fun j x e1=>by
  by_cases hj:j=i
  ·subst hj
   rw [Wb5] at e1
   simp at e1
   exact .inl e1.2.symm
  ·rw [Wag (Ne.symm hj)] at e1
   exact .inr ⟨e1,hj⟩
 have oldO:∀ (j:Nat) x od,(Δ.set i .any)[j]? = some x->x.od=some od -> Δ[j]? = some x:=fun j x od e1 e2=>by
  rcases old j x e1 with z | z
  ·subst z; cases e2
  ·exact z.1
 refine ⟨k.same,k.lent,k.sub,k.frz,fun b o e=>?_,by simp [k.len],fun j e h=>?_,fun j x od e1 e2=>k.own j x od (oldO j x od e1 e2) e2,fun j l x y od od' a e1 e2 e3 e4=>k.dis j l x y od od' a (oldO j x od e1 e2) e2 (oldO l y od' e3 e4) e4⟩
 ·obtain ⟨h1,h2,h3⟩:=k.ext b o e
  exact ⟨h1,h2,fun j x od e1 e2=>h3 j x od (oldO j x od e1 e2) e2⟩
 ·rcases old j _ h with z | z
  ·cases z
  ·exact k.val j e z.1
theorem Ok.take (k:Ok K g G H σ Δ) {i:Nat} {od:OD} (h:Δ[i]? = some (.own od)):∃ a,σ[i]? = some (some (.ref a))/\Pend K g G H σ (Δ.set i .any) a od:=by
 obtain ⟨a,o,h1,h2,h3,h4,h5⟩:=k.own i _ od h rfl
 have h5:g.Hz a=none:=h5
 refine ⟨a,h1,o,h2,h3,h4,h5,?_,fun j x od' e1 e2 e3=>?_⟩
 ·cases q:g.Xo a with
  | none=>rfl
  | some u=>exact absurd h1 ((k.ext a u q).2.2 i _ od h rfl)
 ·by_cases hj:j=i
  ·subst hj
   rw [Wb5] at e1
   simp at e1
   obtain ⟨_,e1⟩:=e1
   subst e1
   cases e2
  ·rw [Wag (Ne.symm hj)] at e1
   exact hj (k.dis j i x _ od' od a e1 e2 h rfl e3 h1)
end
end L2
set_option Elab.async false
set_option linter.all false
set_option maxRecDepth 100000
namespace L2
open PySem PySem.Spec PyProof.Rows
noncomputable def Cont (K:PySem.W.Frag) (g:Gm) (G:Hp) (σ:St) (P:D->Evt->Prop) (Q:VK):Prop:=
 ∀ v d G' H' Δ',Ok K g G' H' σ Δ' -> Same G G' -> Rep K G' v d->P d Δ' -> Q v H'
noncomputable def JE (K:PySem.W.Frag) (t:TE) (Δ:Evt) (P:D->Evt->Prop):Prop:=
 ∀ g G H σ Q,Ok K g G H σ Δ -> Cont K g G σ P Q->t σ H Q
noncomputable def JT (K:PySem.W.Frag) (t:TT) (Δ:Evt) (P:Bool->Evt->Prop):Prop:=
 ∀ g G H σ Q,Ok K g G H σ Δ -> (∀ b G' H' Δ',Ok K g G' H' σ Δ' -> Same G G' -> P b Δ' -> Q b H')->t σ H Q
noncomputable def JA (K:PySem.W.Frag) (t:TA) (Δ:Evt) (P:List D->Evt->Prop):Prop:=
 ∀ g G H σ Q,Ok K g G H σ Δ -> (∀ vs ds G' H' Δ',Ok K g G' H' σ Δ' -> Same G G' -> Reps K G' vs ds->P ds Δ' -> Q vs H')->t σ H Q
noncomputable def JO (K:PySem.W.Frag) (t:TE) (Δ:Evt) (P:OD->Evt->Prop):Prop:=
 ∀ g G H σ Q,Ok K g G H σ Δ -> (∀ a od G' H' Δ',Ok K g G' H' σ Δ' -> Same G G' -> Pend K g G' H' σ Δ' a od->P od Δ' -> Q (.ref a) H')->t σ H Q
noncomputable def JR2 (K:PySem.W.Frag) (r:R2) (d e:D) (Δ:Evt) (P:D->Evt->Prop):Prop:=
 ∀ g G H σ Q x y,Ok K g G H σ Δ -> Rep K G x d->Rep K G y e->Cont K g G σ P Q->r x y H Q
noncomputable def JR1 (K:PySem.W.Frag) (r:V->Hp->VK->Prop) (d:D) (Δ:Evt) (P:D->Evt->Prop):Prop:=
 ∀ g G H σ Q x,Ok K g G H σ Δ -> Rep K G x d->Cont K g G σ P Q->r x H Q
noncomputable def JC (K:PySem.W.Frag) (r:List V->Hp->VK->Prop) (ds:List D) (Δ:Evt) (P:D->Evt->Prop):Prop:=
 ∀ g G H σ Q vs,Ok K g G H σ Δ -> Reps K G vs ds->Cont K g G σ P Q->r vs H Q
structure Pst where
 nx:Evt->Prop
 rt:D->Evt->Prop
 bk:Evt->Prop:=fun _=>False
 ct:Evt->Prop:=fun _=>False
 ro:OD->Evt->Prop:=fun _ _=>False
structure SCont (K:PySem.W.Frag) (g:Gm) (P:Pst) (E:Ends):Prop where
 nx:∀ σ G H Δ,Ok K g G H σ Δ -> P.nx Δ -> E.nx σ H
 rt:∀ v d σ G H Δ,Ok K g G H σ Δ -> Rep K G v d->P.rt d Δ -> E.rt v H
 bk:∀ σ G H Δ,Ok K g G H σ Δ -> P.bk Δ -> E.bk σ H
 ct:∀ σ G H Δ,Ok K g G H σ Δ -> P.ct Δ -> E.ct σ H
 ro:∀ a od σ G H Δ,Ok K g G H σ Δ -> Pend K g G H σ Δ a od->P.ro od Δ -> E.rt (.ref a) H
noncomputable def JS (K:PySem.W.Frag) (t:TS) (Δ:Evt) (P:Pst):Prop:=
 ∀ g G H σ E,Ok K g G H σ Δ -> SCont K g P E->t E σ H
noncomputable def JG (K:PySem.W.Frag) (t:TG) (d:D) (Δ:Evt) (P:Evt->Prop):Prop:=
 ∀ g G H σ v (R:St->Hp->Prop),Ok K g G H σ Δ -> Rep K G v d->(∀ σ' G' H' Δ',Ok K g G' H' σ' Δ' -> Same G G' -> P Δ' -> R σ' H')->t v σ H R
noncomputable def JGs (K:PySem.W.Frag) (t:TGs) (ds:List D) (Δ:Evt) (P:Evt->Prop):Prop:=
 ∀ g G H σ vs (R:St->Hp->Prop),Ok K g G H σ Δ -> Reps K G vs ds->(∀ σ' G' H' Δ',Ok K g G' H' σ' Δ' -> Same G G' -> P Δ' -> R σ' H')->t vs σ H R
section
variable {K:PySem.W.Frag} {Δ:Evt}
theorem Cont.up {g:Gm} {G G1:Hp} {σ:St} {P:D->Evt->Prop} {Q:VK} (c:Cont K g G σ P Q) (s:Same G G1):Cont K g G1 σ P Q:=
 fun v d G' H' Δ' k s' r p=>c v d G' H' Δ' k (s.trans s') r p
theorem JE.mono {t:TE} {P P':D->Evt->Prop} (h:JE K t Δ P) (hp:∀ d Δ,P d Δ -> P' d Δ):JE K t Δ P':=
 fun g G H σ Q k c=>h g G H σ Q k fun v d G' H' Δ' k' s r p=>c v d G' H' Δ' k' s r (hp d Δ' p)
theorem JS.mono {t:TS} {P P':Pst} (h:JS K t Δ P) (hn:∀ Δ,P.nx Δ -> P'.nx Δ) (hr:∀ d Δ,P.rt d Δ -> P'.rt d Δ) (hb:∀ Δ,P.bk Δ -> P'.bk Δ) (hc:∀ Δ,P.ct Δ -> P'.ct Δ) (ho:∀ od Δ,P.ro od Δ -> P'.ro od Δ):JS K t Δ P':=
 fun g G H σ E k c=>h g G H σ E k ⟨fun σ' G' H' Δ' k' p=>c.nx σ' G' H' Δ' k' (hn _ p),fun v d σ' G' H' Δ' k' r p=>c.rt v d σ' G' H' Δ' k' r (hr _ _ p),fun σ' G' H' Δ' k' p=>c.bk σ' G' H' Δ' k' (hb _ p),fun σ' G' H' Δ' k' p=>c.ct σ' G' H' Δ' k' (hc _ p),fun a od σ' G' H' Δ' k' r p=>c.ro a od σ' G' H' Δ' k' r (ho _ _ p)⟩
theorem Zae {i:Nat} {d:D} {P:D->Evt->Prop} (h:Δ[i]? = some (.val d)) (p:P d Δ):JE K (tVar i) Δ P:=fun g G H σ Q k c=>by
 obtain ⟨v,h1,h2⟩:=k.val i d h
 exact ⟨v,h1,c v d G H Δ k (Same.refl _) h2 p⟩
theorem Ze1 {i:Nat} {ds:List D} {P:D->Evt->Prop} (h:Δ[i]? = some (.own (.lst ds))) (p:P (.lst ds) (Δ.set i (.val (.lst ds)))):JE K (tVar i) Δ P:=fun g G H σ Q k c=>by
 obtain ⟨a,h1,pd⟩:=k.take h
 obtain ⟨o,q1,q2,_⟩:=id pd
 cases o with
 | lst vs=>
  obtain ⟨k2,sg,r⟩:=(k.drop i).freeze pd q1
  have k3:=k2.setVal (i:=i) (by simpa using (Wak.mp h).1) r
  have e1:σ.set i (some (.ref a)) = σ:=by
   apply Wbw
   intro j
   by_cases hj:j=i
   ·subst hj; rw [Waf (k.lt h),h1]
   ·rw [Wag (Ne.symm hj)]
  rw [e1,List.set_set] at k3
  exact ⟨.ref a,h1,c _ _ _ H _ k3 sg r p⟩
 | _=>exact absurd q2 (fun z=>z)
theorem Zah {i:Int} {P:D->Evt->Prop} (p:P (.int i) Δ):JE K (tC (.int i)) Δ P:=fun g G H σ Q k c=>c _ _ G H Δ k (Same.refl _) (.int i) p
theorem Zlz {b:Bool} {P:D->Evt->Prop} (p:P (.bl b) Δ):JE K (tC (.bl b)) Δ P:=fun g G H σ Q k c=>c _ _ G H Δ k (Same.refl _) (.bl b) p
theorem Zgf {P:D->Evt->Prop} (p:P .non Δ):JE K (tC .non) Δ P:=fun g G H σ Q k c=>c _ _ G H Δ k (Same.refl _) .non p
theorem Zhz {x:Str} {P:D->Evt->Prop} (p:P (.str x) Δ):JE K (tC (.str x)) Δ P:=fun g G H σ Q k c=>c _ _ G H Δ k (Same.refl _) (.str x) p
theorem Zdz {x:String} {P:D->Evt->Prop} (p:P (.ty x) Δ):JE K (tC (.ty x)) Δ P:=fun g G H σ Q k c=>c _ _ G H Δ k (Same.refl _) (.ty x) p
theorem Zan {r:R2} {ta tb:TE} {P:D->Evt->Prop} (h:JE K ta Δ fun d Δ1=>JE K tb Δ1 fun e Δ2=>JR2 K r d e Δ2 P):JE K (tOp r ta tb) Δ P:=fun g G H σ Q k c=>
 h g G H σ _ k fun x d G1 H1 Δ1 k1 s1 r1 p1=>p1 g G1 H1 σ _ k1 fun y e G2 H2 Δ2 k2 s2 r2 p2=>p2 g G2 H2 σ Q x y k2 (r1.mono s2) r2 (c.up (s1.trans s2))
theorem Zn3 {r:V->Hp->VK->Prop} {ta:TE} {P:D->Evt->Prop} (h:JE K ta Δ fun d Δ1=>JR1 K r d Δ1 P):JE K (tUn r ta) Δ P:=fun g G H σ Q k c=>
 h g G H σ _ k fun x d G1 H1 Δ1 k1 s1 r1 p1=>p1 g G1 H1 σ Q x k1 r1 (c.up s1)
theorem Zaf {P:List D->Evt->Prop} (p:P [] Δ):JA K tNil Δ P:=fun g G H σ Q k c=>c [] [] G H Δ k (Same.refl _) .nil p
theorem Zab {ta:TE} {tr:TA} {P:List D->Evt->Prop} (h:JE K ta Δ fun d Δ1=>JA K tr Δ1 fun ds Δ2=>P (d :: ds) Δ2):JA K (tCons ta tr) Δ P:=fun g G H σ Q k c=>
 h g G H σ _ k fun x d G1 H1 Δ1 k1 s1 r1 p1=>p1 g G1 H1 σ _ k1 fun vs ds G2 H2 Δ2 k2 s2 r2 p2=>c _ _ G2 H2 Δ2 k2 (s1.trans s2) (.cons (r1.mono s2) r2) p2
theorem Zbd {r:List V->Hp->VK->Prop} {ta:TA} {P:D->Evt->Prop} (h:JA K ta Δ fun ds Δ1=>JC K r ds Δ1 P):JE K (tCB r ta) Δ P:=fun g G H σ Q k c=>
 h g G H σ _ k fun vs ds G1 H1 Δ1 k1 s1 r1 p1=>p1 g G1 H1 σ Q vs k1 r1 (c.up s1)
theorem Zbw {ta:TA} {P:D->Evt->Prop} (h:JA K ta Δ fun ds Δ1=>ds.length<=sizeLine/\P (.tup ds) Δ1):JE K (tTup ta) Δ P:=fun g G H σ Q k c=>
 h g G H σ _ k fun vs ds G1 H1 Δ1 k1 s1 r1 ⟨z,p1⟩=>⟨by rw [r1.length]; exact z,fun p hp=>by
  obtain ⟨k2,sg⟩:=k1.laid hp (.tup vs)
  exact c _ _ _ _ Δ1 k2 (s1.trans sg) (.tup Zao (r1.mono sg)) p1⟩
theorem Zcn {ta:TA} {P:D->Evt->Prop} (h:JA K ta Δ fun ds Δ1=>ds.length<=sizeLine/\P (.lst ds) Δ1):JE K (tLst ta) Δ P:=fun g G H σ Q k c=>
 h g G H σ _ k fun vs ds G1 H1 Δ1 k1 s1 r1 ⟨z,p1⟩=>⟨by rw [r1.length]; exact z,fun p hp=>by
  obtain ⟨k2,sg⟩:=k1.laid hp (.lst vs)
  exact c _ _ _ _ Δ1 k2 (s1.trans sg) (.lst Zao (r1.mono sg)) p1⟩
theorem Ok.fresh {g:Gm} {G H:Hp} {σ:St} (k:Ok K g G H σ Δ) {p:Addr} {o:HO} {od:OD} (hp:H p=none) (r:OwnRep K G o od):Ok K g G (upd H p o) σ Δ /\ Pend K g G (upd H p o) σ Δ p od:=by
 have hG:G p=none:=by
  cases e:G p with
  | none=>rfl
  | some u=>rw [k.live p u e] at hp; cases hp
 refine ⟨k.grow (Same.refl _) (fun b u e=>by rw [Zas (Za2 e hp)]; exact e) fun b u e=>⟨?_,.inl e⟩,o,Zao,r,hG,k.there hp,?_,fun j x od' e1 e2 e3=>?_⟩
 ·have hb:b ≠ p:=by intro z; subst z; rw [hG] at e; cases e
  rw [Zas hb]; exact k.live b u e
 ·cases q:g.Xo p with
  | none=>rfl
  | some u=>have z:=(k.ext p u q).1; rw [hp] at z; cases z
 ·obtain ⟨a,oo,w1,w2,_⟩:=k.own j x od' e1 e2
  rw [e3] at w1; cases w1
  rw [hp] at w2; cases w2
theorem Zin {ta:TA} {P:OD->Evt->Prop} (h:JA K ta Δ fun ds Δ1=>ds.length<=sizeLine/\P (.lst ds) Δ1):JO K (tLst ta) Δ P:=fun g G H σ Q k c=>
 h g G H σ _ k fun vs ds G1 H1 Δ1 k1 s1 r1 ⟨z,p1⟩=>⟨by rw [r1.length]; exact z,fun p hp=>by
  obtain ⟨k2,pd⟩:=k1.fresh (od:=.lst ds) hp (show OwnRep K G1 (.lst vs) (.lst ds) from r1)
  exact c p _ G1 _ Δ1 k2 s1 pd p1⟩
theorem Zj8 {t:TE} {P:D->Evt->Prop} (h:JO K t Δ fun od Δ1=>∃ ds,od=.lst ds/\P (.lst ds) Δ1):JE K t Δ P:=fun g G H σ Q k c=>
 h g G H σ Q k fun a od G1 H1 Δ1 k1 s1 pd hq_=>by
  obtain ⟨ds,e,p1⟩:=hq_
  subst e
  obtain ⟨o,q1,q2,_⟩:=id pd
  cases o with
  | lst vs=>
   obtain ⟨k2,sg,r⟩:=k1.freeze pd q1
   exact c _ _ _ H1 Δ1 k2 (s1.trans sg) r p1
  | _=>exact absurd q2 (fun z=>z)
theorem Zbm {t:TE} {P:Bool->Evt->Prop} (h:JE K t Δ fun d Δ1=>∃ b,d=.bl b/\P b Δ1):JT K (tTest t) Δ P:=fun g G H σ Q k c=>
 h g G H σ _ k fun v d G1 H1 Δ1 k1 s1 r1 hq_=>by obtain ⟨b,e,p1⟩:=hq_; subst e; cases r1.inv; exact ⟨b,rfl,c b G1 H1 Δ1 k1 s1 p1⟩
theorem Zk0 {a b:TT} {P:Bool->Evt->Prop} (h:JT K a Δ fun x Δ1=>if x=true then JT K b Δ1 P else P false Δ1):JT K (tAnd a b) Δ P:=fun g G H σ Q k c=>
 h g G H σ _ k fun x G1 H1 Δ1 k1 s1 p1=>by
  cases x with
  | true=>exact (show JT K b Δ1 P from p1) g G1 H1 σ _ k1 fun y G2 H2 Δ2 k2 s2 p2=>c y G2 H2 Δ2 k2 (s1.trans s2) p2
  | false=>exact c false G1 H1 Δ1 k1 s1 p1
theorem Zkd {a b:TT} {P:Bool->Evt->Prop} (h:JT K a Δ fun x Δ1=>if x=true then P true Δ1 else JT K b Δ1 P):JT K (tOr a b) Δ P:=fun g G H σ Q k c=>
 h g G H σ _ k fun x G1 H1 Δ1 k1 s1 p1=>by
  cases x with
  | true=>exact c true G1 H1 Δ1 k1 s1 p1
  | false=>exact (show JT K b Δ1 P from p1) g G1 H1 σ _ k1 fun y G2 H2 Δ2 k2 s2 p2=>c y G2 H2 Δ2 k2 (s1.trans s2) p2
theorem Zgg {a:TT} {P:Bool->Evt->Prop} (h:JT K a Δ fun x Δ1=>P (!x) Δ1):JT K (tNot a) Δ P:=fun g G H σ Q k c=>
 h g G H σ _ k fun x G1 H1 Δ1 k1 s1 p1=>c (!x) G1 H1 Δ1 k1 s1 p1
theorem Zcs {P:Bool->Evt->Prop} (p:P true Δ):JT K tTrue Δ P:=fun g G H σ Q k c=>c true G H Δ k (Same.refl _) p
theorem Ziw {P:Pst} (p:P.nx Δ):JS K tNext Δ P:=fun g G H σ E k c=>c.nx σ G H Δ k p
theorem Zkw {t u:TS} {P:Pst} (h:JS K t Δ { P with nx:=fun Δ1=>JS K u Δ1 P }):JS K (tSeq t u) Δ P:=fun g G H σ E k c=>
 h g G H σ _ k ⟨fun σ1 G1 H1 Δ1 k1 p1=>p1 g G1 H1 σ1 E k1 c,c.rt,c.bk,c.ct,c.ro⟩
theorem Zm1 {te:TE} {P:Pst} (h:JE K te Δ P.rt):JS K (tRet te) Δ P:=fun g G H σ E k c=>
 h g G H σ _ k fun v d G1 H1 Δ1 k1 s1 r1 p1=>c.rt v d σ G1 H1 Δ1 k1 r1 p1
theorem Zlf {te:TE} {P:Pst} (h:JO K te Δ P.ro):JS K (tRet te) Δ P:=fun g G H σ E k c=>
 h g G H σ _ k fun a od G1 H1 Δ1 k1 s1 pd p1=>c.ro a od σ G1 H1 Δ1 k1 pd p1
theorem Zo1 {c:TT} {t u:TS} {P:Pst} (h:JT K c Δ fun b Δ1=>if b=true then JS K t Δ1 P else JS K u Δ1 P):JS K (tIfS c t u) Δ P:=fun g G H σ E k q=>
 h g G H σ _ k fun b G1 H1 Δ1 k1 s1 p1=>by
  cases b with
  | true=>exact (show JS K t Δ1 P from p1) g G1 H1 σ E k1 q
  | false=>exact (show JS K u Δ1 P from p1) g G1 H1 σ E k1 q
theorem Znt {te:TE} {t:TG} {P:Pst} (h:JE K te Δ fun d Δ1=>JG K t d Δ1 P.nx):JS K (tAsg te t) Δ P:=fun g G H σ E k c=>
 h g G H σ _ k fun v d G1 H1 Δ1 k1 s1 r1 p1=>p1 g G1 H1 σ v _ k1 r1 fun σ2 G2 H2 Δ2 k2 s2 p2=>c.nx σ2 G2 H2 Δ2 k2 p2
theorem Zlt {P:Evt->Prop} (p:P Δ):JGs K gNil [] Δ P:=fun g G H σ vs R k r c=>by cases r; exact ⟨rfl,c σ G H Δ k (Same.refl _) p⟩
theorem Zgy {t:TG} {u:TGs} {d:D} {ds:List D} {P:Evt->Prop} (h:JG K t d Δ fun Δ1=>JGs K u ds Δ1 P):JGs K (gCons t u) (d :: ds) Δ P:=fun g G H σ vs R k r c=>by
 obtain ⟨_,_,rfl,r1,rr⟩:=r.inv
 next=>exact ⟨_,_,rfl,h g G H σ _ _ k r1 fun σ1 G1 H1 Δ1 k1 s1 p1=>p1 g G1 H1 σ1 _ R k1 (rr.mono s1) fun σ2 G2 H2 Δ2 k2 s2 p2=>c σ2 G2 H2 Δ2 k2 (s1.trans s2) p2⟩
theorem Zmv {n:Nat} {t:TGs} {ds:List D} {P:Evt->Prop} (hl:ds.length=n) (h:JGs K t ds Δ P):JG K (gTup K n t) (.tup ds) Δ P:=fun g G H σ v R k r c=>by
 obtain ⟨_,_,rfl,ha,rs⟩:=r.inv
 next=>exact ⟨_,_,rfl,SqT.of (k.live _ _ ha),by rw [rs.length]; exact hl,h g G H σ _ R k rs c⟩
noncomputable def ItOk (K:PySem.W.Frag) (G:Hp) (J:It) (ds:List D):Prop:=
 ∀ G1 H1,Same G G1->Same G1 H1->J.stop ds.length H1/\∀ (i:Nat) d,ds[i]? = some d->J.go i H1/\∀ x H2,J.yld i H1 x H2->∃ G2,Same G1 G2/\Same H1 H2/\(∀ b o,G2 b=some o->H2 b=some o/\(G1 b=some o\/H1 b=none))/\Rep K G2 x d
noncomputable def JI (K:PySem.W.Frag) (wi:TI) (Δ:Evt) (P:List D->Evt->Prop):Prop:=
 ∀ g G H σ (R:It->Hp->Prop),Ok K g G H σ Δ -> (∀ J ds G' H' Δ',Ok K g G' H' σ Δ' -> Same G G' -> ItOk K G' J ds->P ds Δ' -> R J H')->wi σ H R
theorem Znu {tl:TE} {P:List D->Evt->Prop} (h:JE K tl Δ fun d Δ1=>∃ ds,d=.tup ds/\P ds Δ1):JI K (iTup K tl) Δ P:=fun g G H σ R k c=>
 h g G H σ _ k fun v d G1 H1 Δ1 k1 s1 r1 hq_=>by
  obtain ⟨ds,e,p1⟩:=hq_
  subst e
  obtain ⟨a,vs,rfl,ha,rs⟩:=r1.inv
  next=>
   refine ⟨a,rfl,⟨vs,SqT.of (k1.live _ _ ha)⟩,c _ ds G1 H1 Δ1 k1 s1 (fun G2 H2 sg sh=>⟨⟨vs,SqT.of (sh _ _ (sg _ _ ha)),by rw [rs.length]; exact Waj _⟩,fun i d e=>?_⟩) p1⟩
   obtain ⟨v,hv,rv⟩:=rs.get e
   refine ⟨⟨vs,v,SqT.of (sh _ _ (sg _ _ ha)),hv⟩,fun x H3 ⟨e3,y3⟩=>⟨G2,Same.refl _,by rw [e3]; exact Same.refl _,fun b o q=>⟨by rw [e3]; exact sh b o q,.inl q⟩,?_⟩⟩
   have:=y3 vs (SqT.of (sh _ _ (sg _ _ ha)))
   rw [hv] at this; cases this
   exact rv.mono sg
theorem Zme {tl:TE} {P:List D->Evt->Prop} (h:JE K tl Δ fun d Δ1=>∃ ds,(d=.lst ds\/d=.scr ds)/\P ds Δ1):JI K (iList K tl) Δ P:=fun g G H σ R k c=>
 h g G H σ _ k fun v d G1 H1 Δ1 k1 s1 r1 hq_=>by
  obtain ⟨ds,e,p1⟩:=hq_
  obtain ⟨a,vs,ea,hs,rs⟩:∃ a vs,v=.ref a/\SqL K G1 a vs/\Reps K G1 vs ds:=by
   rcases e with e | e
   ·subst e; cases r1 with | lst ha rs=>exact ⟨_,_,rfl,SqL.of ha,rs⟩
   ·subst e; cases r1 with | scr ha rs=>exact ⟨_,_,rfl,ha,rs⟩
  subst ea
  refine ⟨a,rfl,⟨vs,k1.live.seq hs⟩,c _ ds G1 H1 Δ1 k1 s1 (fun G2 H2 sg sh=>⟨⟨vs,sh.seq (sg.seq hs),by rw [rs.length]; exact Waj _⟩,fun i d e=>?_⟩) p1⟩
  obtain ⟨v,hv,rv⟩:=rs.get e
  refine ⟨⟨vs,v,sh.seq (sg.seq hs),hv⟩,fun x H3 ⟨e3,y3⟩=>⟨G2,Same.refl _,by rw [e3]; exact Same.refl _,fun b o q=>⟨by rw [e3]; exact sh b o q,.inl q⟩,?_⟩⟩
  have:=y3 vs (sh.seq (sg.seq hs))
  rw [hv] at this; cases this
  exact rv.mono sg
noncomputable def rngD (lo:Int) (n:Nat):List D:=(Wa7 n).map fun i:Nat=>D.int (lo + (i:Int))
theorem Zbf (lo:Int) (n:Nat):(rngD lo n).length=n:=by simp [rngD]
theorem Zcj {lo:Int} {n i:Nat} {d:D} (h:(rngD lo n)[i]? = some d):i < n/\d=.int (lo + (i:Int)):=by
 unfold rngD at h
 rw [Wah] at h
 cases e:(Wa7 n)[i]? with
 | none=>rw [e] at h; cases h
 | some j=>
  rw [e] at h
  obtain ⟨h1,h2⟩:=Wak.mp e
  rw [List.getElem_range] at h2
  subst h2
  exact ⟨by simpa using h1,(Wat.inj h).symm⟩
theorem Zkc {G:Hp} (lo:Int) (n:Nat):ItOk K G (Itr lo n) (rngD lo n):=fun G1 H1 sg sh=>by
 refine ⟨by show n<=(rngD lo n).length; rw [Zbf]; exact Waj _,fun i d e=>?_⟩
 obtain ⟨h1,h2⟩:=Zcj e
 subst h2
 refine ⟨h1,fun x H2 ⟨e2,y2⟩=>⟨G1,Same.refl _,by rw [e2]; exact Same.refl _,fun b o q=>⟨by rw [e2]; exact sh b o q,.inl q⟩,?_⟩⟩
 subst y2
 exact .int _
theorem Zby {ta:TA} {P:List D->Evt->Prop} (h:JA K ta Δ fun ds Δ1=>∃ n:Int,ds=[.int n] /\ -(2 ^ 62)<=n/\n < 2 ^ 62/\P (rngD 0 n.toNat) Δ1):JI K (iRng1 ta) Δ P:=fun g G H σ R k c=>
 h g G H σ _ k fun vs ds G1 H1 Δ1 k1 s1 r1 hq_=>by
  obtain ⟨n,e,h1,h2,p1⟩:=hq_
  subst e
  obtain ⟨_,_,rfl,ra,rr⟩:=r1.inv
  next=>
   cases rr.inv; cases ra.inv
   exact ⟨n,rfl,h1,h2,c _ _ G1 H1 Δ1 k1 s1 (Zkc 0 _) p1⟩
theorem Zns {wi:TI} {t:TG} {tb:TS} {P:Pst} (h:JI K wi Δ fun ds Δ1=>∃ I:Nat->Evt->Prop,I 0 Δ1/\(∀ i d Δ2,ds[i]? = some d->I i Δ2->JG K t d Δ2 fun Δ3=>JS K tb Δ3 ⟨I (i + 1),P.rt,P.nx,I (i + 1),P.ro⟩)/\∀ Δ2,I ds.length Δ2->P.nx Δ2) :
  JS K (tFor wi t tb) Δ P:=fun g G H σ E k c=>
 h g G H σ _ k fun J ds G1 H1 Δ1 k1 s1 it hq_=>by
  obtain ⟨I,h0,ht,he⟩:=hq_
  refine ⟨fun i m σ H=>m=ds.length - i/\i<=ds.length/\∃ G Δ,Ok K g G H σ Δ /\ Same G1 G/\I i Δ,⟨ds.length,by simp,Nat.zero_le _,G1,Δ1,k1,Same.refl _,h0⟩,?_⟩
  rintro i m σ2 H2 ⟨rfl,hi,G2,Δ2,k2,s2,h2⟩
  obtain ⟨stop,go⟩:=it G2 H2 s2 k2.live
  by_cases hlt:i < ds.length
  ·obtain ⟨g1,g2⟩:=go i _ (Wac hlt)
   refine .inr ⟨g1,fun σ' H'=>i + 1<=ds.length/\∃ G Δ,Ok K g G H' σ' Δ /\ Same G1 G/\I (i + 1) Δ,fun σ' H' p'=>⟨ds.length - (i + 1),by omega,rfl,p'.1,p'.2⟩,fun x H3 y=>?_⟩
   obtain ⟨G3,a1,a2,a3,a4⟩:=g2 x H3 y
   have k3:=k2.grow a1 a2 a3
   refine ht i _ Δ2 (Wac hlt) h2 { g with F:=G3,Xo:=g.Xo } G3 H3 σ2 x _ ?_ a4 fun σ4 G4 H4 Δ4 k4 s4 p4=>?_
   ·exact ⟨k3.same,k3.lent,Same.refl _,fun b o q=>⟨(k3.frz b o q).1,.inr q⟩,k3.ext,k3.len,k3.val,k3.own,k3.dis⟩
   ·have cv:∀ {G5 H5:Hp} {σ5:St} {Δ5:Evt},Ok K { g with F:=G3,Xo:=g.Xo } G5 H5 σ5 Δ5->Ok K g G5 H5 σ5 Δ5/\Same G1 G5:=fun {G5 H5 σ5 Δ5} k5=>
     ⟨⟨k5.same,k5.lent,k3.sub.trans k5.sub,fun b o q=>by
      obtain ⟨q1,q2⟩:=k5.frz b o q
      refine ⟨q1,?_⟩
      rcases q2 with z | z
      ·exact .inl z
      ·exact (k3.frz b o z).2,k5.ext,k5.len,k5.val,k5.own,k5.dis⟩,s2.trans (a1.trans k5.sub)⟩
    refine p4 _ G4 H4 σ4 _ k4 ⟨fun σ5 G5 H5 Δ5 k5 p5=>?_,fun v d σ5 G5 H5 Δ5 k5 r5 p5=>?_,fun σ5 G5 H5 Δ5 k5 p5=>?_,fun σ5 G5 H5 Δ5 k5 p5=>?_,fun a od σ5 G5 H5 Δ5 k5 pd5 p5=>?_⟩
    ·exact ⟨hlt,G5,Δ5,(cv k5).1,(cv k5).2,p5⟩
    ·exact c.rt v d σ5 G5 H5 Δ5 (cv k5).1 r5 p5
    ·exact c.nx σ5 G5 H5 Δ5 (cv k5).1 p5
    ·exact ⟨hlt,G5,Δ5,(cv k5).1,(cv k5).2,p5⟩
    ·exact c.ro a od σ5 G5 H5 Δ5 (cv k5).1 pd5 p5
  ·have e:i=ds.length:=by omega
   subst e
   exact .inl ⟨stop,c.nx σ2 G2 H2 Δ2 k2 (he Δ2 h2)⟩
end
end L2
set_option Elab.async false
set_option linter.all false
set_option maxRecDepth 100000
namespace L2
open PySem PySem.Spec PyProof.Rows
section
variable {K:PySem.W.Frag} {Δ:Evt} {P:D->Evt->Prop}
theorem jr_I {C:Int->Int->Prop} {f:Int->Int->Int} {i j:Int} (hc:C i j) (p:P (.int (f i j)) Δ):JR2 K (rI C fun i j=>.int (f i j)) (.int i) (.int j) Δ P:=fun g G H σ Q x y k rx ry c=>by
 cases rx.inv; cases ry.inv
 exact ⟨i,j,rfl,rfl,hc,c _ _ G H Δ k (Same.refl _) (.int _) p⟩
theorem Zg6 {f:Int->Int->Int} {i j:Int} (p:P (.int (f i j)) Δ):JR2 K (rI0 fun i j=>.int (f i j)) (.int i) (.int j) Δ P:=fun g G H σ Q x y k rx ry c=>by
 cases rx.inv; cases ry.inv
 exact ⟨i,j,rfl,rfl,c _ _ G H Δ k (Same.refl _) (.int _) p⟩
theorem Zex {f:Int->Int->Bool} {i j:Int} (p:P (.bl (f i j)) Δ):JR2 K (rI0 fun i j=>.bl (f i j)) (.int i) (.int j) Δ P:=fun g G H σ Q x y k rx ry c=>by
 cases rx.inv; cases ry.inv
 exact ⟨i,j,rfl,rfl,c _ _ G H Δ k (Same.refl _) (.bl _) p⟩
theorem Zkf {i j:Int} (p:P (.bl (decide (i=j))) Δ):JR2 K rEq (.int i) (.int j) Δ P:=fun g G H σ Q x y k rx ry c=>by
 cases rx.inv; cases ry.inv
 refine ⟨rfl,?_⟩
 have e:decide (V.int i=V.int j)=decide (i=j):=by rw [Ze4]; exact (Bool.beq_eq_decide_eq i j)
 rw [e]
 exact c _ _ G H Δ k (Same.refl _) (.bl _) p
theorem Zos {i j:Int} (p:P (.bl (!decide (i=j))) Δ):JR2 K rNe (.int i) (.int j) Δ P:=fun g G H σ Q x y k rx ry c=>by
 cases rx.inv; cases ry.inv
 refine ⟨rfl,?_⟩
 have e:decide (V.int i=V.int j)=decide (i=j):=by rw [Ze4]; exact (Bool.beq_eq_decide_eq i j)
 rw [e]
 exact c _ _ G H Δ k (Same.refl _) (.bl _) p
theorem Zni {ds:List D} {i:Int} {d:D} (h:atI ds i=some d) (p:P d Δ):JR2 K (rIxT K) (.tup ds) (.int i) Δ P:=fun g G H σ Q x y k rx ry c=>by
 obtain ⟨_,_,rfl,ha,rs⟩:=rx.inv
 next=>
  cases ry.inv
  obtain ⟨v,h1,h2⟩:=Zer rs h
  exact ⟨_,_,i,v,rfl,rfl,SqT.of (k.live _ _ ha),h1,c v d G H Δ k (Same.refl _) h2 p⟩
theorem Zmw {ds:List D} {i:Int} {d:D} (h:atI ds i=some d) (p:P d Δ):JR2 K (rIxL K) (.lst ds) (.int i) Δ P:=fun g G H σ Q x y k rx ry c=>by
 obtain ⟨_,_,rfl,ha,rs⟩:=rx.inv
 next=>
  cases ry.inv
  obtain ⟨v,h1,h2⟩:=Zer rs h
  exact ⟨_,_,i,v,rfl,rfl,SqL.of (k.live _ _ ha),h1,c v d G H Δ k (Same.refl _) h2 p⟩
theorem Zh7 {n:Nat} {te:TE} {Pp:Pst} {x:Slot} {od:OD} (hx:Δ[n]? = some x) (ho:x.od=some od) (hod:∃ ds,od=.lst ds)
  (h:JE K te Δ fun d Δ1=>∃ y ds,Δ1[n]? = some y/\y.od=some (.lst ds)/\ds.length < sizeLine/\Pp.nx (Δ1.set n (y.put (.lst (ds ++ [d]))))) :
  JS K (tDrop (tBM K "list" rAppend (tVar n) (tCons te tNil))) Δ Pp:=fun g G H σ E k c=>by
 obtain ⟨a,o,h1,h2,h3,h4,h5⟩:=k.own n x _ hx ho
 obtain ⟨ds0,hod⟩:=hod
 subst hod
 cases o with
 | lst vs0=>
  refine ⟨.ref a,h1,.inl ⟨rfl,_,SqL.of h2⟩,h g G H σ _ k fun v d G1 H1 Δ1 k1 s1 r1 ⟨y,ds,q1,q2,q3,p⟩=>?_⟩
  obtain ⟨a',o',w1,w2,w3,w4,w5⟩:=k1.own n y _ q1 q2
  rw [h1] at w1; cases w1
  cases o' with
  | lst vs=>
   have w3:Reps K G1 vs ds:=w3
   exact ⟨a,vs,v,rfl,rfl,w2,by rw [w3.length]; exact q3,c.nx σ G1 _ _ (k1.write q1 q2 h1 (show OwnRep K G1 (.lst (vs ++ [v])) (.lst (ds ++ [d])) from w3.append (.cons r1 .nil))) p⟩
  | _=>exact absurd w3 (fun z=>z)
 | _=>exact absurd h3 (fun z=>z)
theorem Znn {ds es:List D} (he:ds=[.lst es]\/ds=[.tup es]) (p:P (.int es.length) Δ) :
  JC K (fun xs H Q=>∃ p ys,xs=[.ref p]/\(SqL K H p ys\/SqT K H p ys)/\Q (.int ys.length) H) ds Δ P:=fun g G H σ Q vs k rs c=>by
 rcases he with he | he <;> subst he
 ·obtain ⟨_,_,rfl,r,t⟩:=rs.inv
  next=>
   cases t.inv
   obtain ⟨_,_,rfl,ha,rs⟩:=r.inv
   next=>
    refine ⟨_,_,rfl,.inl (SqL.of (k.live _ _ ha)),?_⟩
    rw [rs.length]; exact c _ _ G H Δ k (Same.refl _) (.int _) p
 ·obtain ⟨_,_,rfl,r,t⟩:=rs.inv
  next=>
   cases t.inv
   obtain ⟨_,_,rfl,ha,rs⟩:=r.inv
   next=>
    refine ⟨_,_,rfl,.inr (SqT.of (k.live _ _ ha)),?_⟩
    rw [rs.length]; exact c _ _ G H Δ k (Same.refl _) (.int _) p
theorem Zmk {n:Nat} {x:Slot} {ds:List D} (hx:Δ[n]? = some x) (ho:x.od=some (.lst ds)) (p:P (.int ds.length) Δ) :
  JE K (tCB (fun xs H Q=>∃ p ys,xs=[.ref p]/\(SqL K H p ys\/SqT K H p ys)/\Q (.int ys.length) H) (tCons (tVar n) tNil)) Δ P:=fun g G H σ Q k c=>by
 obtain ⟨a,o,h1,h2,h3,h4,h5⟩:=k.own n x _ hx ho
 cases o with
 | lst vs=>
  have h3:Reps K G vs ds:=h3
  refine ⟨.ref a,h1,a,vs,rfl,.inl (SqL.of h2),?_⟩
  rw [h3.length]; exact c _ _ G H Δ k (Same.refl _) (.int _) p
 | _=>exact absurd h3 (fun z=>z)
theorem Zn9 {i:Int} (p:P (.int (if i < 0 then -i else i)) Δ):JC K (fun xs H Q=>∃ i,xs=[.int i]/\Q (.int (if i < 0 then -i else i)) H) [.int i] Δ P:=fun g G H σ Q vs k rs c=>by
 obtain ⟨_,_,rfl,r,t⟩:=rs.inv
 next=>cases t.inv; cases r.inv; exact ⟨i,rfl,c _ _ G H Δ k (Same.refl _) (.int _) p⟩
theorem Zd7 {f:Int->Int->Int} {i j:Int} (p:P (.int (f i j)) Δ):JC K (fun xs H Q=>∃ i j,xs=[.int i,.int j]/\Q (.int (f i j)) H) [.int i,.int j] Δ P:=fun g G H σ Q vs k rs c=>by
 obtain ⟨_,_,rfl,r,t⟩:=rs.inv
 next=>
  obtain ⟨_,_,rfl,r',t⟩:=t.inv
  next=>cases t.inv; cases r.inv; cases r'.inv; exact ⟨i,j,rfl,c _ _ G H Δ k (Same.refl _) (.int _) p⟩
theorem Zjk {ds es:List D} (he:ds=[.lst es]\/ds=[.tup es]) (p:P (.tup es) Δ) :
  JC K (fun xs H Q=>∃ p ys,xs=[.ref p]/\((SqL K H p ys/\∀ l,H l=none->Q (.ref l) (upd H l (.tup ys)))\/(SqT K H p ys/\Q (.ref p) H))) ds Δ P:=fun g G H σ Q vs k rs c=>by
 rcases he with he | he <;> subst he
 ·obtain ⟨_,_,rfl,r,t⟩:=rs.inv
  next=>
   cases t.inv
   obtain ⟨_,_,rfl,ha,rs⟩:=r.inv
   next=>
    refine ⟨_,_,rfl,.inl ⟨SqL.of (k.live _ _ ha),fun l hl=>?_⟩⟩
    obtain ⟨k2,sg⟩:=k.laid hl (.tup _)
    exact c _ _ _ _ Δ k2 sg (.tup Zao (rs.mono sg)) p
 ·obtain ⟨_,_,rfl,r,t⟩:=rs.inv
  next=>
   cases t.inv
   obtain ⟨_,_,rfl,ha,rs⟩:=r.inv
   next=>exact ⟨_,_,rfl,.inr ⟨SqT.of (k.live _ _ ha),c _ _ G H Δ k (Same.refl _) (.tup ha rs) p⟩⟩
noncomputable def glue (F H H':Hp):Hp:=fun b=>match H b with
 | none=>H' b
 | some _=>F b
theorem Zcw {F H H':Hp} {b:Addr} (h:H b=none):glue F H H' b=H' b:=by unfold glue; rw [h]
theorem Zb7 {F H H':Hp} {b:Addr} {o:HO} (h:H b=some o):glue F H H' b=F b:=by unfold glue; rw [h]
theorem Zdi {G H H':Hp} (l:Same G H):Same G (glue G H H'):=fun b o e=>by rw [Zb7 (l b o e)]; exact e
theorem Ze3 {G H H':Hp} (l:Same G H) (sh:∀ b o,G b=some o->H b=some o->H' b=some o):∀ b o,glue G H H' b=some o->H' b=some o/\(G b=some o\/H b=none):=fun b o e=>by
 cases q:H b with
 | none=>rw [Zcw q] at e; exact ⟨e,.inr rfl⟩
 | some u=>rw [Zb7 q] at e; exact ⟨sh b o e (l b o e),.inl e⟩
noncomputable abbrev DSp:=List D->(D->Prop)->Prop
noncomputable def spD (K:PySem.W.Frag) (f:DSp):Sp:=fun vs H Q _=>∃ F ds Post,Same F H/\Reps K F vs ds/\f ds Post/\∀ r H' d,Same H H' -> Rep K (glue F H H') r d->Post d->Q r H'
theorem Zbt {f:DSp} {ta:TA} {E:XK} (h:JA K ta Δ fun ds Δ1=>f ds fun d=>P d Δ1):JE K (tCall (spD K f) [] E ta) Δ P:=fun g G H σ Q k c=>
 h g G H σ _ k fun vs ds G1 H1 Δ1 k1 s1 r1 p1=>by
  show spD K f (vs ++ []) H1 Q E
  rw [Wba]
  refine ⟨G1,ds,_,k1.live,r1,p1,fun r H' d sh rr pd=>?_⟩
  have sg:=Zdi (H':=H') k1.live
  exact c r d _ H' Δ1 (k1.grow sg sh (Ze3 k1.live fun b o _ e=>sh b o e)) (s1.trans sg) rr pd
noncomputable abbrev BSp:=List D->List D->(D->List D->Prop)->Prop
noncomputable def spB (K:PySem.W.Frag) (f:BSp):Sp:=fun vs H Q _=>∃ F a us ws ps ds Post,vs=.ref a :: ws/\Same F H/\F a=none/\H a=some (.lst us)/\Reps K F us ps/\Reps K F ws ds/\f ps ds Post ∧
 ∀ r H' us' ps' d,(∀ b o,b ≠ a->H b=some o->H' b=some o)->H' a=some (.lst us')->Reps K (glue F H H') us' ps' -> Rep K (glue F H H') r d->Post d ps' -> Q r H'
theorem Ok.lend {g:Gm} {G H H':Hp} {σ:St} (k:Ok K g G H σ Δ) {i:Nat} {x:Slot} {ps ps':List D} {us':List V} {a:Addr} (hx:Δ[i]? = some x) (ho:x.od=some (.lst ps)) (ha:σ[i]? = some (some (.ref a)))
  (sh:∀ b o,b ≠ a->H b=some o->H' b=some o) (hn:H' a=some (.lst us')) (r:Reps K (glue G H H') us' ps'):Ok K g (glue G H H') H' σ (Δ.set i (x.put (.lst ps')))/\Same G (glue G H H'):=by
 obtain ⟨a',o,h1,h2,h3,h4,h5⟩:=k.own i x _ hx ho
 rw [ha] at h1; cases h1
 have sg:=Zdi (H':=H') k.live
 have k2:Ok K g (glue G H H') (upd H' a o) σ Δ:=by
  refine k.grow sg (fun b u e=>?_) fun b u e=>?_
  ·by_cases hb:b=a
   ·subst hb; rw [Zao,<- h2]; exact e
   ·rw [Zas hb]; exact sh b u hb e
  ·have hb:b ≠ a:=by intro z; subst z; rw [Zb7 h2,h4] at e; cases e
   rw [Zas hb]
   exact Ze3 k.live (fun c w e1 e2=>sh c w (fun z=>by subst z; rw [h4] at e1; cases e1) e2) b u e
 have k3:=k2.write hx ho ha (show OwnRep K (glue G H H') (.lst us') (.lst ps') from r)
 rw [Zid] at k3
 have e:upd H' a (.lst us')=H':=by
  funext b
  by_cases hb:b=a
  ·subst hb; rw [Zao,hn]
  ·rw [Zas hb]
 rw [e] at k3
 exact ⟨k3,sg⟩
theorem Zi6 {f:BSp} {ta:TA} {E:XK} {i:Nat} {x:Slot} {od:OD} (hx:Δ[i]? = some x) (ho:x.od=some od) (h:JA K ta Δ fun ds Δ1=>∃ y ps,Δ1[i]? = some y/\y.od=some (.lst ps)/\f ps ds fun d ps'=>P d (Δ1.set i (y.put (.lst ps')))) :
  JE K (tCall (spB K f) [] E (tCons (tVar i) ta)) Δ P:=fun g G H σ Q k c=>by
 obtain ⟨a,o,h1,h2,h3,h4,h5⟩:=k.own i x _ hx ho
 refine ⟨.ref a,h1,h g G H σ _ k fun vs ds G1 H1 Δ1 k1 s1 r1 ⟨y,ps,q1,q2,p1⟩=>?_⟩
 show spB K f ((.ref a :: vs) ++ []) H1 Q E
 rw [Wba]
 obtain ⟨a',o',w1,w2,w3,w4,w5⟩:=k1.own i y _ q1 q2
 rw [h1] at w1; cases w1
 cases o' with
 | lst us=>
  refine ⟨G1,a,us,vs,ps,ds,_,rfl,k1.live,w4,w2,w3,r1,p1,fun r H' us' ps' d sh hn rr rd pd=>?_⟩
  obtain ⟨k2,sg⟩:=k1.lend q1 q2 h1 sh hn rr
  exact c r d _ H' _ k2 (s1.trans sg) rd pd
 | _=>exact absurd w3 (fun z=>z)
noncomputable abbrev NSp:=List D->(List D->Prop)->Prop
noncomputable def spN (K:PySem.W.Frag) (f:NSp):Sp:=fun vs H Q _=>∃ F ds Post,Same F H/\Reps K F vs ds/\f ds Post ∧
 ∀ a H' us ps,Same H H' -> H a=none->H' a=some (.lst us)->Reps K (fun b=>if b=a then none else glue F H H' b) us ps->Post ps->Q (.ref a) H'
theorem Zmo {f:NSp} {ta:TA} {E:XK} {Po:OD->Evt->Prop} (h:JA K ta Δ fun ds Δ1=>f ds fun ps=>Po (.lst ps) Δ1):JO K (tCall (spN K f) [] E ta) Δ Po:=fun g G H σ Q k c=>
 h g G H σ _ k fun vs ds G1 H1 Δ1 k1 s1 r1 p1=>by
  show spN K f (vs ++ []) H1 Q E
  rw [Wba]
  refine ⟨G1,ds,_,k1.live,r1,p1,fun a H' us ps sh ha hn rr pd=>?_⟩
  have sg:Same G1 (fun b=>if b=a then none else glue G1 H1 H' b):=fun b o e=>by
   have hb:b ≠ a:=by intro z; subst z; rw [k1.live _ _ e] at ha; cases ha
   try dsimp only
   rw [if_neg hb]
   exact Zdi k1.live b o e
  have k2:Ok K g (fun b=>if b=a then none else glue G1 H1 H' b) H' σ Δ1:=k1.grow sg sh fun b o e=>by
   try dsimp only at e
   by_cases hb:b=a
   ·rw [if_pos hb] at e; cases e
   ·rw [if_neg hb] at e; exact Ze3 k1.live (fun b o _ e=>sh b o e) b o e
  refine c a _ _ H' Δ1 k2 (s1.trans sg) ⟨.lst us,hn,(show OwnRep K _ (.lst us) (.lst ps) from rr),by simp,k1.there ha,?_,fun j x od' e1 e2 e3=>?_⟩ pd
  ·cases q:g.Xo a with
   | none=>rfl
   | some u=>have z:=(k1.ext a u q).1; rw [ha] at z; cases z
  ·obtain ⟨b,oo,w1,w2,_⟩:=k1.own j x od' e1 e2
   rw [e3] at w1; cases w1
   rw [ha] at w2; cases w2
end
noncomputable def startD (N:List Str) (ds:List D):Evt:=ds.map .val ++ Wab (N.length - ds.length) .any
section
variable {K:PySem.W.Frag}
theorem Zdj {g:Gm} {G H:Hp} {N:List Str} {vs:List V} {ds:List D} (rs:Reps K G vs ds) (hl:ds.length<=N.length) (same:∀ b o,¬ g.B b->g.Hz b=some o->H b=some o) (lent:∀ b,g.B b->H b ≠ none) (sub:Same g.F G)
  (frz:∀ b o,G b=some o->H b=some o/\(g.Hz b=none\/g.F b=some o)) (ext:∀ b,g.Xo b=none):Ok K g G H (start N vs) (startD N ds):=by
 have noOd:∀ (i:Nat) x od,(startD N ds)[i]? = some x->x.od=some od->False:=fun i x od e1 e2=>by
  have hm:=Wa4 e1
  rcases Wbr.mp hm with z | z
  ·obtain ⟨d,_,rfl⟩:=Wb6.mp z; cases e2
  ·rw [List.mem_replicate] at z; rw [z.2] at e2; cases e2
 refine ⟨same,lent,sub,frz,fun b o e=>(by rw [ext b] at e; cases e),?_,fun i d e=>?_,fun i x od e1 e2=>(noOd i x od e1 e2).elim,fun i j x y od od' a e1 e2=>(noOd i x od e1 e2).elim⟩
 ·unfold start startD
  rw [Wai,Wai,Waa,Waa,Waz,Waz,rs.length]
 ·unfold startD at e
  unfold start
  by_cases hi:i < ds.length
  ·rw [Wa3 (by simpa using hi),Wah] at e
   cases q:ds[i]? with
   | none=>rw [q] at e; cases e
   | some d'=>
    rw [q] at e
    have e:Slot.val d' = Slot.val d:=by simpa using e
    cases e
    obtain ⟨v,h1,h2⟩:=rs.get q
    refine ⟨v,?_,h2⟩
    rw [Wa3 (by rw [Waa,rs.length]; exact hi),Wah,h1]
    rfl
  ·rw [Wap (by simpa using hi),Wbc] at e
   split at e <;> cases e
theorem Zg5 {f:DSp} {t:TS} {N:List Str} {vs:List V} {H:Hp} {Q:VK} {E:XK} (ht:∀ ds Post,f ds Post->ds.length<=N.length/\JS K t (startD N ds) ⟨fun _=>Post .non,fun d _=>Post d,fun _=>False,fun _=>False,fun _ _=>False⟩) (h:spD K f vs H Q E) :
  t { nx:=fun _ H'=>Q .non H',rt:=Q } (start N vs) H:=by
 obtain ⟨F,ds,Post,l,rs,hf,q⟩:=h
 obtain ⟨hl,hj⟩:=ht ds Post hf
 have fin:∀ {v:V} {d:D} {σ:St} {G H':Hp} {Δ:Evt},Ok K ⟨fun _=>False,F,H,fun _=>none⟩ G H' σ Δ -> Rep K G v d->Post d->Q v H':=fun {v d σ G H' Δ} k r p=>by
  refine q v H' d (fun b o e=>k.same b o (fun z=>z) e) (r.mono fun b o e=>?_) p
  obtain ⟨e1,e2⟩:=k.frz b o e
  rcases e2 with z | z
  ·rw [Zcw z]; exact e1
  ·rw [Zb7 (l b o z)]; exact z
 refine hj ⟨fun _=>False,F,H,fun _=>none⟩ F H (start N vs) _ (Zdj rs hl (fun _ _ _ e=>e) (fun _ z=>z.elim) (Same.refl _) (fun b o e=>⟨l b o e,.inr e⟩) fun _=>rfl) ⟨fun σ G H' Δ k p=>fin k .non p,fun v d σ G H' Δ k r p=>fin k r p,fun _ _ _ _ _ z=>z.elim,fun _ _ _ _ _ z=>z.elim,fun _ _ _ _ _ _ _ _ z=>z.elim⟩
theorem Zox {f:NSp} {t:TS} {N:List Str} {vs:List V} {H:Hp} {Q:VK} {E:XK} (ht:∀ ds Post,f ds Post->ds.length<=N.length/\JS K t (startD N ds) ⟨fun _=>False,fun _ _=>False,fun _=>False,fun _=>False,fun od _=>∃ ps,od=.lst ps/\Post ps⟩) (h:spN K f vs H Q E) :
  t { nx:=fun _ H'=>Q .non H',rt:=Q } (start N vs) H:=by
 obtain ⟨F,ds,Post,l,rs,hf,q⟩:=h
 obtain ⟨hl,hj⟩:=ht ds Post hf
 refine hj ⟨fun _=>False,F,H,fun _=>none⟩ F H (start N vs) _ (Zdj rs hl (fun _ _ _ e=>e) (fun _ z=>z.elim) (Same.refl _) (fun b o e=>⟨l b o e,.inr e⟩) fun _=>rfl) ⟨fun _ _ _ _ _ z=>z.elim,fun _ _ _ _ _ _ _ _ z=>z.elim,fun _ _ _ _ _ z=>z.elim,fun _ _ _ _ _ z=>z.elim,fun a od σ G H' Δ k pd ⟨ps,e,p⟩=>?_⟩
 subst e
 obtain ⟨o,h1,h2,h3,h4,h5,h6⟩:=pd
 cases o with
 | lst us=>
  refine q a H' us ps (fun b o e=>k.same b o (fun z=>z) e) h4 h1 (Reps.mono (fun b o e=>?_) (show Reps K G us ps from h2)) p
  have hb:b ≠ a:=by intro z; subst z; rw [h3] at e; cases e
  try dsimp only
  rw [if_neg hb]
  obtain ⟨e1,e2⟩:=k.frz b o e
  rcases e2 with z | z
  ·rw [Zcw z]; exact e1
  ·rw [Zb7 (l b o z)]; exact z
 | _=>exact absurd h2 (fun z=>z)
theorem Zi7 {f:BSp} {t:TS} {N:List Str} {vs:List V} {H:Hp} {Q:VK} {E:XK} (ht:∀ ps ds Post,f ps ds Post->ds.length + 1<=N.length/\JS K t (.bor (.lst ps) :: startD N.tail ds) ⟨fun Δ=>∃ ps',Δ[0]? = some (.bor (.lst ps'))/\Post .non ps',fun d Δ=>∃ ps',Δ[0]? = some (.bor (.lst ps'))/\Post d ps',fun _=>False,fun _=>False,fun _ _=>False⟩) (h:spB K f vs H Q E) :
  t { nx:=fun _ H'=>Q .non H',rt:=Q } (start N vs) H:=by
 obtain ⟨F,a,us,ws,ps,ds,Post,rfl,l,fa,ha,ru,rs,hf,q⟩:=h
 obtain ⟨hl,hj⟩:=ht ps ds Post hf
 have fin:∀ {v:V} {d:D} {σ:St} {G H':Hp} {Δ:Evt} {ps':List D},Ok K ⟨fun b=>b=a,F,H,fun _=>none⟩ G H' σ Δ -> Δ[0]? = some (.bor (.lst ps'))->Rep K G v d->Post d ps' -> Q v H':=fun {v d σ G H' Δ ps'} k e0 r p=>by
  obtain ⟨a',o,h1,h2,h3,h4,h5⟩:=k.own 0 _ _ e0 rfl
  have ea:a' = a:=h5
  subst ea
  cases o with
  | lst us'=>
   have up:Same G (glue F H H'):=fun b o e=>by
    obtain ⟨e1,e2⟩:=k.frz b o e
    rcases e2 with z | z
    ·rw [Zcw z]; exact e1
    ·rw [Zb7 (l b o z)]; exact z
   exact q v H' us' ps' d (fun b o hb e=>k.same b o hb e) h2 (Reps.mono up (show Reps K G us' ps' from h3)) (r.mono up) p
  | _=>exact absurd h3 (fun z=>z)
 cases N with
 | nil=>simp at hl
 | cons n0 N=>
  have hl':ds.length<=N.length:=by simpa using hl
  have k0:=Zdj (K:=K) (H:=H) (g:=⟨fun b=>b=a,F,H,fun _=>none⟩) (N:=N) rs hl' (fun _ _ _ e=>e) (fun b z=>by subst z; rw [ha]; intro w; cases w) (Same.refl _) (fun b o e=>⟨l b o e,.inr e⟩) fun _=>rfl
  have e1:start (n0 :: N) (.ref a :: ws)=some (.ref a) :: start N ws:=by
   unfold start
   rw [Wa1,Wao,Wao,Nat.add_sub_add_right]
   rfl
  rw [e1]
  have noOd:∀ (i:Nat) x od,(startD N ds)[i]? = some x->x.od=some od->False:=fun i x od e1 e2=>by
   have hm:=Wa4 e1
   rcases Wbr.mp hm with z | z
   ·obtain ⟨d,_,rfl⟩:=Wb6.mp z; cases e2
   ·rw [List.mem_replicate] at z; rw [z.2] at e2; cases e2
  have k1:Ok K ⟨fun b=>b=a,F,H,fun _=>none⟩ F H (some (.ref a) :: start N ws) (.bor (.lst ps) :: startD N ds):=by
   refine ⟨k0.same,k0.lent,k0.sub,k0.frz,fun b o e=>(by cases e),(by rw [Wao,Wao,k0.len]),fun i d e=>?_,fun i x od e1 e2=>?_,fun i j x y od od' c e1 e2 e3 e4 _ _=>?_⟩
   ·cases i with
    | zero=>cases e
    | succ i=>exact k0.val i d e
   ·cases i with
    | zero=>cases e1; cases e2; exact ⟨a,.lst us,rfl,ha,ru,fa,rfl⟩
    | succ i=>exact (noOd i x od e1 e2).elim
   ·cases i with
    | zero=>cases j with
     | zero=>rfl
     | succ j=>exact (noOd j y od' e3 e4).elim
    | succ i=>exact (noOd i x od e1 e2).elim
  exact hj _ F H _ _ k1 ⟨fun σ G H' Δ k ⟨ps',e,p⟩=>fin k e .non p,fun v d σ G H' Δ k r ⟨ps',e,p⟩=>fin k e r p,fun _ _ _ _ _ z=>z.elim,fun _ _ _ _ _ z=>z.elim,fun _ _ _ _ _ _ _ _ z=>z.elim⟩
theorem Zdc {f:DSp} {n:Nat} (h:∀ ds Post,f ds Post->ds.length=n):∀ vs H Q E,spD K f vs H Q E->vs.length=n:=fun vs H Q E hq_=>by obtain ⟨F,ds,Post,l,rs,hf,q⟩:=hq_; rw [rs.length]; exact h ds Post hf
theorem Zls {f:NSp} {n:Nat} (h:∀ ds Post,f ds Post->ds.length=n):∀ vs H Q E,spN K f vs H Q E->vs.length=n:=fun vs H Q E hq_=>by obtain ⟨F,ds,Post,l,rs,hf,q⟩:=hq_; rw [rs.length]; exact h ds Post hf
theorem Zd5 {f:BSp} {n:Nat} (h:∀ ps ds Post,f ps ds Post->ds.length + 1=n):∀ vs H Q E,spB K f vs H Q E->vs.length=n:=fun vs H Q E hq_=>by obtain ⟨F,a,us,ws,ps,ds,Post,e,l,fa,ha,ru,rs,hf,q⟩:=hq_; rw [e,Wao,rs.length]; exact h ps ds Post hf
end
end L2
set_option Elab.async false
set_option linter.all false
set_option maxRecDepth 100000
namespace L2
open PySem PySem.Spec PyProof.Rows
noncomputable def JGn (K:PySem.W.Frag) (n:Nat) (t:TG) (d:D) (Δ:Evt) (P:Evt->Prop):Prop:=
 ∀ g G H σ v (R:St->Hp->Prop),Ok K g G H σ Δ -> Rep K G v d->(∀ σ' G' H' Δ',Ok K g G' H' σ' Δ' -> Same G G' -> (∀ j,n<=j -> σ'[j]? = σ[j]?)->P Δ' -> R σ' H')->t v σ H R
noncomputable def JGsn (K:PySem.W.Frag) (n:Nat) (t:TGs) (ds:List D) (Δ:Evt) (P:Evt->Prop):Prop:=
 ∀ g G H σ vs (R:St->Hp->Prop),Ok K g G H σ Δ -> Reps K G vs ds->(∀ σ' G' H' Δ',Ok K g G' H' σ' Δ' -> Same G G' -> (∀ j,n<=j -> σ'[j]? = σ[j]?)->P Δ' -> R σ' H')->t vs σ H R
section
variable {K:PySem.W.Frag} {Δ:Evt}
theorem Zjr {n i:Nat} {d:D} {P:Evt->Prop} (hn:i < n) (hi:i < Δ.length) (p:P (Δ.set i (.val d))):JGn K n (gName i) d Δ P:=fun g G H σ v R k r c=>
 c _ G H _ (k.setVal hi r) (Same.refl _) (fun j hj=>Wag (by omega)) p
theorem Zju {n:Nat} {P:Evt->Prop} (p:P Δ):JGsn K n gNil [] Δ P:=fun g G H σ vs R k r c=>by cases r; exact ⟨rfl,c σ G H Δ k (Same.refl _) (fun _ _=>rfl) p⟩
theorem Zfr {n:Nat} {t:TG} {u:TGs} {d:D} {ds:List D} {P:Evt->Prop} (h:JGn K n t d Δ fun Δ1=>JGsn K n u ds Δ1 P):JGsn K n (gCons t u) (d :: ds) Δ P:=fun g G H σ vs R k r c=>by
 obtain ⟨_,_,rfl,r1,rr⟩:=r.inv
 next=>exact ⟨_,_,rfl,h g G H σ _ _ k r1 fun σ1 G1 H1 Δ1 k1 s1 e1 p1=>p1 g G1 H1 σ1 _ R k1 (rr.mono s1) fun σ2 G2 H2 Δ2 k2 s2 e2 p2=>c σ2 G2 H2 Δ2 k2 (s1.trans s2) (fun j hj=>(e2 j hj).trans (e1 j hj)) p2⟩
theorem Zmr {n m:Nat} {t:TGs} {ds:List D} {P:Evt->Prop} (hl:ds.length=m) (h:JGsn K n t ds Δ P):JGn K n (gTup K m t) (.tup ds) Δ P:=fun g G H σ v R k r c=>by
 obtain ⟨_,_,rfl,ha,rs⟩:=r.inv
 next=>exact ⟨_,_,rfl,SqT.of (k.live _ _ ha),by rw [rs.length]; exact hl,h g G H σ _ R k rs c⟩
end
noncomputable def compD (n:Nat) (sel:List Nat) (Δ:Evt):Evt:=Wab n .any ++ sel.map fun i=>(Δ[i]?).getD .any
noncomputable def backAt (n:Nat) (sel:List Nat) (Δi:Evt) (i:Nat) (x:Slot):Slot:=match x with
 | .val d=>.val d
 | .any=>.any
 | x=>match sel.idxOf? i with
  | none=>x
  | some j=>match Δi[n + j]? with
   | some (.own o)=>.own o
   | some (.bor o)=>.bor o
   | some (.ownA a o)=>.ownA a o
   | _=>.any
noncomputable def backD (n:Nat) (sel:List Nat) (Δi:Evt):Nat->Evt->Evt
 | _,[]=>[]
 | i,x :: r=>backAt n sel Δi i x :: backD n sel Δi (i + 1) r
theorem Zbz (n:Nat) (sel:List Nat) (Δi:Evt):∀ (Δ:Evt) (k i:Nat),(backD n sel Δi k Δ)[i]? = (Δ[i]?).map (backAt n sel Δi (k + i))
 | [],k,i=>by simp [backD]
 | x :: r,k,0=>by simp [backD]
 | x :: r,k,i + 1=>by
  have:=Zbz n sel Δi r (k + 1) i
  simp only [backD,List.getElem?_cons_succ]
  rw [this,show k + 1 + i=k + (i + 1) by omega]
theorem Ze7 (n:Nat) (sel:List Nat) (Δi:Evt):∀ (Δ:Evt) (k:Nat),(backD n sel Δi k Δ).length = Δ.length
 | [],k=>rfl
 | x :: r,k=>by simp [backD,Ze7 n sel Δi r (k + 1)]
theorem Zcy {sel:List Nat} {i j:Nat} (h:sel.idxOf? i=some j):sel[j]? = some i:=by
 have h2:=List.idxOf?_eq_some_iff.mp h
 obtain ⟨hj,e,_⟩:=h2
 rw [Wac hj,e]
theorem Ziz {n:Nat} {sel:List Nat} {Δi:Evt} {i:Nat} {x y:Slot} {od:OD} (h:backAt n sel Δi i x=y) (ho:y.od=some od) :
  (x=y/\sel.idxOf? i=none)\/∃ j,sel[j]? = some i /\ Δi[n + j]? = some y/\∃ od',x.od=some od':=by
 unfold backAt at h
 cases x with
 | any=>subst h; cases ho
 | val d=>subst h; cases ho
 | own o=>
  dsimp only at h
  cases q:sel.idxOf? i with
  | none=>rw [q] at h; exact .inl ⟨h,rfl⟩
  | some j=>
   rw [q] at h
   dsimp only at h
   refine .inr ⟨j,Zcy q,?_,o,rfl⟩
   cases e:Δi[n + j]? with
   | none=>rw [e] at h; subst h; cases ho
   | some z=>rw [e] at h; cases z <;> (subst h; first | rfl | cases ho)
 | ownA a o=>
  dsimp only at h
  cases q:sel.idxOf? i with
  | none=>rw [q] at h; exact .inl ⟨h,rfl⟩
  | some j=>
   rw [q] at h
   dsimp only at h
   refine .inr ⟨j,Zcy q,?_,o,rfl⟩
   cases e:Δi[n + j]? with
   | none=>rw [e] at h; subst h; cases ho
   | some z=>rw [e] at h; cases z <;> (subst h; first | rfl | cases ho)
 | bor o=>
  dsimp only at h
  cases q:sel.idxOf? i with
  | none=>rw [q] at h; exact .inl ⟨h,rfl⟩
  | some j=>
   rw [q] at h
   dsimp only at h
   refine .inr ⟨j,Zcy q,?_,o,rfl⟩
   cases e:Δi[n + j]? with
   | none=>rw [e] at h; subst h; cases ho
   | some z=>rw [e] at h; cases z <;> (subst h; first | rfl | cases ho)
section
variable {K:PySem.W.Frag} {Δ:Evt}
open Classical in
noncomputable def aside (g:Gm) (sel:List Nat) (σ:St) (Δ:Evt) (H:Hp) (acc:Addr) (ys:List V):Hp:=fun b=>
 if b=acc then some (.lst ys) else if ∃ (i:Nat) (x:Slot) (od:OD),Δ[i]? = some x/\x.od=some od/\i ∉ sel /\ σ[i]? = some (some (.ref b)) then H b else g.Xo b
theorem Zch {n:Nat} {sel:List Nat} {σ:St} {j i:Nat} (h:sel[j]? = some i):(compSt n sel σ)[n + j]? = some ((σ[i]?).getD none):=by
 unfold compSt
 rw [Wap (by rw [Waz]; omega),Waz,Nat.add_sub_cancel_left,Wah,h]
 rfl
theorem Zbn {n:Nat} {sel:List Nat} {Δ:Evt} {k:Nat} {x:Slot} (h:(compD n sel Δ)[k]? = some x):x=.any\/∃ j i,k=n + j/\sel[j]? = some i /\ Δ[i]? = some x:=by
 unfold compD at h
 by_cases hk:k < n
 ·rw [Wa3 (by simpa using hk),Wbc,if_pos hk] at h
  exact .inl (Wat.inj h).symm
 ·rw [Wap (by simpa using hk),Waz,Wah] at h
  cases e:sel[k - n]? with
  | none=>rw [e] at h; cases h
  | some i=>
   rw [e] at h
   have h:(Δ[i]?).getD .any=x:=by simpa using h
   cases q:Δ[i]? with
   | none=>rw [q] at h; exact .inl h.symm
   | some y=>rw [q] at h; cases h; exact .inr ⟨k - n,i,by omega,e,q⟩
theorem Zei {g:Gm} {G1 H1:Hp} {σ:St} {Δ1:Evt} {n:Nat} {sel:List Nat} {acc:Addr} {X0:Hp} (hsel:sel.Nodup) (k1:Ok K g G1 H1 σ Δ1) (hacc:H1 acc=none)
  (hX:∀ b o,X0 b=some o->(b=acc/\o=.lst [])\/(b ≠ acc/\(((∃ (i:Nat) (x:Slot) (od:OD),Δ1[i]? = some x/\x.od=some od/\i ∉ sel /\ σ[i]? = some (some (.ref b)))/\H1 b=some o)\/g.Xo b=some o))):Ok K ⟨g.B,G1,g.Hz,X0⟩ G1 (upd H1 acc (.lst [])) (compSt n sel σ) (compD n sel Δ1):=by
 have hsl:∀ {j j' i:Nat},sel[j]? = some i->sel[j']? = some i->j=j':=fun {j j' i} a b=>by
  obtain ⟨h1,e1⟩:=Wak.mp a
  obtain ⟨h2,e2⟩:=Wak.mp b
  exact (List.getElem_inj hsel).mp (e1.trans e2.symm)
 have hGa:G1 acc=none:=by
  cases e:G1 acc with
  | none=>rfl
  | some u=>rw [k1.live _ _ e] at hacc; cases hacc
 have cs:∀ {j i:Nat} {a:Addr},sel[j]? = some i->(compSt n sel σ)[n + j]? = some (some (.ref a)) -> σ[i]? = some (some (.ref a)):=fun {j i a} ej e3=>by
  rw [Zch ej] at e3
  cases q:σ[i]? with
  | none=>rw [q] at e3; cases e3
  | some w=>rw [q] at e3; cases e3; rfl
 have oldH:∀ b o,H1 b=some o->(upd H1 acc (.lst [])) b=some o:=fun b o e=>by rw [Zas (Za2 e hacc)]; exact e
 refine ⟨fun b o hb e=>oldH b o (k1.same b o hb e),fun b hb z=>?_,Same.refl _,fun b o e=>⟨oldH b o (k1.live b o e),.inr e⟩,fun b o e=>?_,?_,fun i d e=>?_,fun i x od e1 e2=>?_,fun i j x y od od' a e1 e2 e3 e4 e5 e6=>?_⟩
 ·cases q:H1 b with
  | none=>exact k1.lent b hb q
  | some u=>rw [oldH b u q] at z; cases z
 ·rcases hX b o e with ⟨rfl,rfl⟩ | ⟨hb,⟨⟨i0,x0,od0,f1,f2,f3,f4⟩,e⟩ | e⟩
  ·refine ⟨Zao,hGa,fun i x od e1 e2 e3=>?_⟩
   rcases Zbn e1 with z | ⟨j,i',ei,ej,z⟩
   ·subst z; cases e2
   ·subst ei
    obtain ⟨a,o,w1,w2,_⟩:=k1.own i' x od z e2
    rw [cs ej e3] at w1; cases w1
    rw [hacc] at w2; cases w2
  ·obtain ⟨a,oo,w1,w2,w3,w4,w5⟩:=k1.own i0 x0 od0 f1 f2
   rw [f4] at w1; cases w1
   refine ⟨oldH b o e,w4,fun i x od e1 e2 e3=>?_⟩
   rcases Zbn e1 with z | ⟨j,i',ei,ej,z⟩
   ·subst z; cases e2
   ·subst ei
    have:=k1.dis i0 i' x0 x od0 od b f1 f2 z e2 f4 (cs ej e3)
    subst this
    exact f3 (Wa4 ej)
  ·obtain ⟨w1,w2,w3⟩:=k1.ext b o e
   refine ⟨oldH b o w1,w2,fun i x od e1 e2 e3=>?_⟩
   rcases Zbn e1 with z | ⟨j,i',ei,ej,z⟩
   ·subst z; cases e2
   ·subst ei; exact w3 i' x od z e2 (cs ej e3)
 ·unfold compD compSt
  simp
 ·rcases Zbn e with z | ⟨j,i',ei,ej,z⟩
  ·cases z
  ·subst ei
   obtain ⟨v,w1,w2⟩:=k1.val i' d z
   exact ⟨v,by rw [Zch ej,w1]; rfl,w2⟩
 ·rcases Zbn e1 with z | ⟨j,i',ei,ej,z⟩
  ·subst z; cases e2
  ·subst ei
   obtain ⟨a,o,w1,w2,w3,w4,w5⟩:=k1.own i' x od z e2
   exact ⟨a,o,by rw [Zch ej,w1]; rfl,oldH a o w2,w3,w4,w5⟩
 ·rcases Zbn e1 with z | ⟨j1,i1,ei,ej,z⟩
  ·subst z; cases e2
  ·rcases Zbn e3 with z' | ⟨j2,i2,ei',ej',z'⟩
   ·subst z'; cases e4
   ·subst ei; subst ei'
    have:=k1.dis i1 i2 x y od od' a z e2 z' e4 (cs ej e5) (cs ej' e6)
    subst this
    rw [hsl ej ej']
theorem Zev {σ σ2:St} {Δ1 Δ2:Evt} {n:Nat} {sel:List Nat} (hσ:∀ j,n<=j -> σ2[j]? = (compSt n sel σ)[j]?) (i:Nat) (y:Slot) (od:OD) (e1:(backD n sel Δ2 0 Δ1)[i]? = some y) (e2:y.od=some od) :
  ∃ x od',Δ1[i]? = some x/\x.od=some od' /\ ((x=y/\i ∉ sel)\/∃ j,sel[j]? = some i /\ Δ2[n + j]? = some y /\ σ2[n + j]? = some ((σ[i]?).getD none)):=by
 rw [Zbz] at e1
 cases q:Δ1[i]? with
 | none=>rw [q] at e1; cases e1
 | some x=>
  rw [q] at e1
  have e1:backAt n sel Δ2 i x=y:=by simpa using e1
  rcases Ziz e1 e2 with ⟨z1,z2⟩ | ⟨j,z1,z2,od',z3⟩
  ·refine ⟨x,od,rfl,by rw [z1]; exact e2,.inl ⟨z1,fun hm=>?_⟩⟩
   rw [List.idxOf?_eq_none_iff] at z2
   exact z2 hm
  ·exact ⟨x,od',rfl,z3,.inr ⟨j,z1,z2,by rw [hσ (n + j) (by omega)]; exact Zch z1⟩⟩
theorem Zdx {g:Gm} {G1 H1 G2 H2 Xv:Hp} {σ σ2:St} {Δ1 Δ2:Evt} {n:Nat} {sel:List Nat} {acc:Addr} (k1:Ok K g G1 H1 σ Δ1) (hacc:H1 acc=none) (k2:Ok K ⟨g.B,G1,g.Hz,Xv⟩ G2 H2 σ2 Δ2) (hσ:∀ j,n<=j -> σ2[j]? = (compSt n sel σ)[j]?)
  (hX:∀ b o,b ≠ acc->(∃ (i:Nat) (x:Slot) (od:OD),Δ1[i]? = some x/\x.od=some od/\i ∉ sel /\ σ[i]? = some (some (.ref b)))->H1 b=some o->Xv b=some o) (hY:∀ b o,b ≠ acc->¬ (∃ (i:Nat) (x:Slot) (od:OD),Δ1[i]? = some x/\x.od=some od/\i ∉ sel /\ σ[i]? = some (some (.ref b)))->g.Xo b=some o->Xv b=some o):Ok K g G2 H2 σ (backD n sel Δ2 0 Δ1):=by
 have s2:Same G1 G2:=k2.sub
 have src:=Zev (Δ1:=Δ1) (Δ2:=Δ2) hσ
 refine ⟨k2.same,k2.lent,k1.sub.trans s2,fun b o e=>?_,fun b o e=>?_,by rw [Ze7,k1.len],fun i d e=>?_,fun i y od e1 e2=>?_,fun i j x y od od' a e1 e2 e3 e4 e5 e6=>?_⟩
 ·obtain ⟨q1,q2⟩:=k2.frz b o e
  refine ⟨q1,?_⟩
  rcases q2 with z | z
  ·exact .inl z
  ·exact (k1.frz b o z).2
 ·obtain ⟨w1,w2,w3⟩:=k1.ext b o e
  have hne:b ≠ acc:=by intro z; subst z; rw [hacc] at w1; cases w1
  obtain ⟨u1,u2,u3⟩:=k2.ext b o (hY b o hne (fun ⟨i,x,od,f1,f2,f3,f4⟩=>w3 i x od f1 f2 f4) e)
  refine ⟨u1,u2,fun i y od e1 e2 e3=>?_⟩
  obtain ⟨x,od',f1,f2,_⟩:=src i y od e1 e2
  exact w3 i x od' f1 f2 e3
 ·rw [Zbz] at e
  cases q:Δ1[i]? with
  | none=>rw [q] at e; cases e
  | some x=>
   rw [q] at e
   have e:backAt n sel Δ2 (0 + i) x=.val d:=by simpa using e
   have ex:x=.val d:=by
    unfold backAt at e
    cases x with
    | any=>cases e
    | val d'=>exact e
    | own o=>dsimp only at e; split at e <;> first | cases e | (split at e <;> cases e)
    | bor o=>dsimp only at e; split at e <;> first | cases e | (split at e <;> cases e)
    | ownA a o=>dsimp only at e; split at e <;> first | cases e | (split at e <;> cases e)
   subst ex
   obtain ⟨v,w1,w2⟩:=k1.val i d q
   exact ⟨v,w1,w2.mono s2⟩
 ·obtain ⟨x,od',f1,f2,f3⟩:=src i y od e1 e2
  rcases f3 with ⟨f3,f4⟩ | ⟨j,f3,f4,f5⟩
  ·subst f3
   obtain ⟨a,o,w1,w2,w3,w4,w5⟩:=k1.own i x od f1 e2
   have hne:a ≠ acc:=by intro z; subst z; rw [hacc] at w2; cases w2
   obtain ⟨u1,u2,u3⟩:=k2.ext a o (hX a o hne ⟨i,x,od,f1,e2,f4,w1⟩ w2)
   exact ⟨a,o,w1,u1,w3.mono s2,u2,w5⟩
  ·obtain ⟨a,o,w1,w2,w3,w4,w5⟩:=k2.own (n + j) y od f4 e2
   obtain ⟨a0,o0,v1,_⟩:=k1.own i x od' f1 f2
   rw [f5,v1] at w1
   have ea:a0=a:=by cases w1; rfl
   subst ea
   exact ⟨a0,o,v1,w2,w3,w4,w5⟩
 ·obtain ⟨x',od1,f1,f2,_⟩:=src i x od e1 e2
  obtain ⟨y',od2,f3,f4,_⟩:=src j y od' e3 e4
  exact k1.dis i j x' y' od1 od2 a f1 f2 f3 f4 e5 e6
theorem Ok.base {g:Gm} {G1 F X G5 H5:Hp} {σ5:St} {Δ5:Evt} (sF:Same G1 F) (hF:∀ b o,F b=some o->(g.Hz b=none\/G1 b=some o)) (k5:Ok K ⟨g.B,F,g.Hz,X⟩ G5 H5 σ5 Δ5):Ok K ⟨g.B,G1,g.Hz,X⟩ G5 H5 σ5 Δ5:=
 ⟨k5.same,k5.lent,sF.trans k5.sub,fun b o q=>by
  obtain ⟨q1,q2⟩:=k5.frz b o q
  refine ⟨q1,?_⟩
  rcases q2 with z | z
  ·exact .inl z
  ·exact hF b o z,k5.ext,k5.len,k5.val,k5.own,k5.dis⟩
theorem Zhq {n:Nat} {sel:List Nat} {wi:TI} {t:TG} {tc:TT} {te:TE} {P:OD->Evt->Prop} (hsel:sel.Nodup)
  (h:JI K wi Δ fun ds Δ1=>ds.length < sizeLine/\∃ I:Nat->List D->Evt->Prop,I 0 [] (compD n sel Δ1) ∧
   (∀ i d ys Δ2,ds[i]? = some d->I i ys Δ2->JGn K n t d Δ2 fun Δ3=>JT K tc Δ3 fun b Δ4=>if b=true then JE K te Δ4 fun e Δ5=>I (i + 1) (ys ++ [e]) Δ5 else I (i + 1) ys Δ4) ∧
   ∀ ys Δ2,I ds.length ys Δ2->P (.lst ys) (backD n sel Δ2 0 Δ1)):JO K (tComp n sel wi t tc te) Δ P:=fun g G H σ Q k c=>
 h g G H σ _ k fun J ds G1 H1 Δ1 k1 s1 it ⟨hz,I,h0,ht,he⟩ acc hacc=>by
  have nacc:∀ (i:Nat) x od,Δ1[i]? = some x->x.od=some od -> σ[i]? ≠ some (some (.ref acc)):=fun i x od e1 e2 e3=>by
   obtain ⟨a,o,w1,w2,_⟩:=k1.own i x od e1 e2
   rw [e3] at w1; cases w1
   rw [hacc] at w2; cases w2
  -- the word at each turn
  let Wd:Nat->St->Hp->Prop:=fun i σ' H'=>i<=ds.length/\(∀ j,n<=j -> σ'[j]? = (compSt n sel σ)[j]?)/\∃ G ys vs Δi,ys.length<=i/\Reps K G vs ys/\Ok K ⟨g.B,G1,g.Hz,aside g sel σ Δ1 H1 acc vs⟩ G H' σ' Δi/\I i ys Δi
  refine ⟨fun i m σ' H'=>m=ds.length - i/\Wd i σ' H',⟨ds.length,by simp,Nat.zero_le _,fun _ _=>rfl,G1,[],[],compD n sel Δ1,Waj _,.nil,?_,h0⟩,?_⟩
  ·refine Zei hsel k1 hacc fun b o e=>?_
   have e:aside g sel σ Δ1 H1 acc [] b=some o:=e
   unfold aside at e
   by_cases hb:b=acc
   ·rw [if_pos hb] at e; cases e; exact .inl ⟨hb,rfl⟩
   ·rw [if_neg hb] at e
    split at e
    case isTrue hx=>exact .inr ⟨hb,.inl ⟨hx,e⟩⟩
    case isFalse hx=>exact .inr ⟨hb,.inr e⟩
  ·rintro i m σ2 H2 ⟨rfl,hi,hσ,G2,ys,vs,Δ2,hy,ry,k2,h2⟩
   have s2:Same G1 G2:=k2.sub
   obtain ⟨stop,go⟩:=it G2 H2 s2 k2.live
   have hacc2:∀ {G' H':Hp} {σ':St} {Δ':Evt} {vs:List V} {F:Hp},Ok K ⟨g.B,F,g.Hz,aside g sel σ Δ1 H1 acc vs⟩ G' H' σ' Δ' -> H' acc=some (.lst vs)/\G' acc=none/\∀ (i:Nat) x od,Δ'[i]? = some x->x.od=some od -> σ'[i]? ≠ some (some (.ref acc)):=fun {G' H' σ' Δ' vs F} kk=>
    kk.ext acc (.lst vs) (by show aside g sel σ Δ1 H1 acc vs acc=_; unfold aside; rw [if_pos rfl])
   by_cases hlt:i < ds.length
   ·obtain ⟨g1,g2⟩:=go i _ (Wac hlt)
    refine .inr ⟨g1,fun σ' H'=>Wd (i + 1) σ' H',fun σ' H' p'=>⟨ds.length - (i + 1),by omega,rfl,p'⟩,fun x H3 y=>?_⟩
    obtain ⟨G3,a1,a2,a3,a4⟩:=g2 x H3 y
    have k3:=k2.grow a1 a2 a3
    have hG3:∀ b o,G3 b=some o->(g.Hz b=none\/G1 b=some o):=fun b o q=>(k3.frz b o q).2
    have k3':Ok K ⟨g.B,G3,g.Hz,aside g sel σ Δ1 H1 acc vs⟩ G3 H3 σ2 Δ2:=⟨k3.same,k3.lent,Same.refl _,fun b o q=>⟨(k3.frz b o q).1,.inr q⟩,k3.ext,k3.len,k3.val,k3.own,k3.dis⟩
    have ry3:Reps K G3 vs ys:=ry.mono a1
    have s13:Same G1 G3:=s2.trans a1
    refine ht i _ ys Δ2 (Wac hlt) h2 ⟨g.B,G3,g.Hz,aside g sel σ Δ1 H1 acc vs⟩ G3 H3 σ2 x _ k3' a4 fun σ4 G4 H4 Δ4 k4 s4 e4 p4=>?_
    have hσ4:∀ j,n<=j -> σ4[j]? = (compSt n sel σ)[j]?:=fun j hj=>(e4 j hj).trans (hσ j hj)
    refine p4 _ G4 H4 σ4 _ k4 fun b G5 H5 Δ5 k5 s5 p5=>?_
    cases b with
    | false=>exact ⟨hlt,hσ4,G5,ys,vs,Δ5,by omega,ry3.mono (s4.trans s5),k5.base s13 hG3,p5⟩
    | true=>
     refine (show JE K te Δ5 _ from p5) _ G5 H5 σ4 _ k5 fun v d G6 H6 Δ6 k6 s6 r6 p6=>?_
     have ry6:Reps K G6 vs ys:=ry3.mono (s4.trans (s5.trans s6))
     obtain ⟨b1,b2,b3⟩:=hacc2 k6
     refine ⟨vs,b1,by rw [ry6.length]; omega,hlt,hσ4,G6,ys ++ [d],vs ++ [v],Δ6,by rw [Wai,Way]; omega,ry6.append (.cons r6 .nil),?_,p6⟩
     have k7:=k6.base s13 hG3
     have oldH:∀ b o,b ≠ acc->H6 b=some o->(upd H6 acc (.lst (vs ++ [v]))) b=some o:=fun b o hb e=>by rw [Zas hb]; exact e
     have aNe:∀ b o,b ≠ acc->aside g sel σ Δ1 H1 acc (vs ++ [v]) b=some o->aside g sel σ Δ1 H1 acc vs b=some o:=fun b o hb e=>by
      unfold aside at e ⊢
      rw [if_neg hb] at e ⊢; exact e
     refine ⟨fun b o hb e=>?_,fun b hb=>?_,k7.sub,fun b o e=>?_,fun b o e=>?_,k7.len,k7.val,fun i x od e1 e2=>?_,k7.dis⟩
     ·have hne:b ≠ acc:=by
       intro z; subst z
       have e:g.Hz b=some o:=e
       rw [k1.there hacc] at e; cases e
      exact oldH b o hne (k7.same b o hb e)
     ·by_cases hne:b=acc
      ·subst hne; rw [Zao]; intro z; cases z
      ·rw [Zas hne]; exact k7.lent b hb
     ·have hne:b ≠ acc:=by intro z; subst z; rw [b2] at e; cases e
      exact ⟨oldH b o hne (k7.frz b o e).1,(k7.frz b o e).2⟩
     ·by_cases hne:b=acc
      ·subst hne
       have e:aside g sel σ Δ1 H1 b (vs ++ [v]) b=some o:=e
       unfold aside at e
       rw [if_pos rfl] at e
       cases e
       exact ⟨Zao,b2,b3⟩
      ·obtain ⟨w1,w2,w3⟩:=k7.ext b o (aNe b o hne e)
       exact ⟨oldH b o hne w1,w2,w3⟩
     ·obtain ⟨a,o,w1,w2,w3,w4,w5⟩:=k7.own i x od e1 e2
      have hne:a ≠ acc:=by intro z; subst z; exact b3 i x od e1 e2 w1
      exact ⟨a,o,w1,oldH a o hne w2,w3,w4,w5⟩
   ·have e:i=ds.length:=by omega
    subst e
    refine .inl ⟨stop,?_⟩
    obtain ⟨b1,b2,b3⟩:=hacc2 k2
    have src:=Zev (Δ1:=Δ1) (Δ2:=Δ2) hσ
    have k9:Ok K g G2 H2 σ (backD n sel Δ2 0 Δ1):=Zdx k1 hacc k2 hσ (fun b o hb hx e=>by show aside g sel σ Δ1 H1 acc vs b=_; unfold aside; rw [if_neg hb,if_pos hx]; exact e) (fun b o hb hx e=>by show aside g sel σ Δ1 H1 acc vs b=_; unfold aside; rw [if_neg hb,if_neg hx]; exact e)
    refine c acc _ G2 H2 _ k9 (s1.trans s2) ⟨.lst vs,b1,(show OwnRep K G2 (.lst vs) (.lst ys) from ry),b2,k1.there hacc,?_,fun i y od e1 e2 e3=>?_⟩ (he ys Δ2 h2)
    ·cases q:g.Xo acc with
     | none=>rfl
     | some u=>have z:=(k1.ext acc u q).1; rw [hacc] at z; cases z
    ·obtain ⟨x',od1,f1,f2,_⟩:=src i y od e1 e2
     exact nacc i x' od1 f1 f2 e3
theorem Zil {n:Nat} {sel:List Nat} {wi:TI} {t:TG} {tc:TT} {te:TE} {P:D->Evt->Prop} (hsel:sel.Nodup)
  (h:JI K wi Δ fun ds Δ1=>ds.length < sizeLine/\∃ I:Nat->List D->Evt->Prop,I 0 [] (compD n sel Δ1) ∧
   (∀ i d ys Δ2,ds[i]? = some d->I i ys Δ2->JGn K n t d Δ2 fun Δ3=>JT K tc Δ3 fun b Δ4=>if b=true then JE K te Δ4 fun e Δ5=>I (i + 1) (ys ++ [e]) Δ5 else I (i + 1) ys Δ4) ∧
   ∀ ys Δ2,I ds.length ys Δ2->P (.lst ys) (backD n sel Δ2 0 Δ1)):JE K (tComp n sel wi t tc te) Δ P:=
 Zj8 (Zhq hsel fun g G H σ R k c=>h g G H σ R k fun J ds G' H' Δ' k' s' it ⟨z,I,h0,ht,he⟩=>c J ds G' H' Δ' k' s' it ⟨z,I,h0,ht,fun ys Δ2 q=>⟨ys,rfl,he ys Δ2 q⟩⟩)
theorem Zgw {n:Nat} {sel:List Nat} {wi:TI} {t:TG} {tc:TT} {te:TE} {P:D->Evt->Prop} (hsel:sel.Nodup)
  (h:JI K wi Δ fun ds Δ1=>ds.length < sizeLine/\∃ (fix:Evt) (p:D->Bool) (f:D->D),compD n sel Δ1=Wab n .any ++ fix ∧
   (∀ (i:Nat) d (ts:Evt),ds[i]? = some d->ts.length=n->JGn K n t d (ts ++ fix) fun Δ3=>JT K tc Δ3 fun b Δ4=>b=p d/\if b=true then JE K te Δ4 fun e Δ5=>e=f d/\∃ ts',ts'.length=n /\ Δ5=ts' ++ fix else ∃ ts',ts'.length=n /\ Δ4=ts' ++ fix) ∧
   P (.lst ((ds.filter p).map f)) (backD n sel (Wab n .any ++ fix) 0 Δ1)):JE K (tComp n sel wi t tc te) Δ P:=by
 refine Zil hsel fun g G H σ R k c=>h g G H σ R k fun J ds G' H' Δ' k' s' it ⟨z,fix,p,f,e0,ht,he⟩=>c J ds G' H' Δ' k' s' it ⟨z,fun i ys Δ=>ys=((ds.take i).filter p).map f/\∃ ts:Evt,ts.length=n /\ Δ = ts ++ fix,?_,?_,?_⟩
 ·exact ⟨by simp,_,by simp,e0⟩
 ·rintro i d ys Δ2 hd ⟨rfl,ts,hts,rfl⟩
  have tk:ds.take (i + 1)=ds.take i ++ [d]:=by
   rw [Wch,hd]; rfl
  intro g G H σ v R k r c
  refine ht i d ts hd hts g G H σ v R k r fun σ' G' H' Δ' k' s' e' q=>c σ' G' H' Δ' k' s' e' fun g G H σ Q k c=>q g G H σ Q k fun b G' H' Δ' k' s' ⟨eb,q⟩=>c b G' H' Δ' k' s' ?_
  cases b with
  | true=>
   rw [if_pos rfl] at q ⊢
   refine q.mono fun e Δ5 ⟨e1,ts',h1,h2⟩=>⟨?_,ts',h1,h2⟩
   rw [tk,Wbn,Wa9,Wbm,<- eb,e1]
   rfl
  | false=>
   rw [if_neg Wam] at q ⊢
   obtain ⟨ts',h1,h2⟩:=q
   refine ⟨?_,ts',h1,h2⟩
   rw [tk,Wbn,Wa9,Wbm,<- eb]
   simp
 ·rintro ys Δ2 ⟨rfl,ts,hts,rfl⟩
  rw [Wcj]
  have e:backD n sel (ts ++ fix) 0 Δ' = backD n sel (Wab n .any ++ fix) 0 Δ':=by
   apply Wbw
   intro i
   rw [Zbz,Zbz]
   congr 1
   funext x
   unfold backAt
   have e2:∀ j,(ts ++ fix)[n + j]? = (Wab n Slot.any ++ fix)[n + j]?:=fun j=>by
    rw [Wap (by omega),Wap (by simp),hts,Waz]
   simp only [e2]
  rw [e]
  exact he
end
end L2
set_option Elab.async false
set_option linter.all false
set_option maxRecDepth 100000
namespace HT
open PySem PyProof.Rows
section
variable {prog:Program} {w:World} {A:Around} {E:Value->Shared->Prop} {s:Shared}
theorem getItem_tuple_whole {t sl:Addr} {items:Array Value} {vl vu:Value} {lo hi:Option Int} {Q:Value->Shared->Prop} (ht:IsTup s.heap t items) (hs:s.heap.IsSliceOf sl vl vu .none) (pl:IsPart vl lo) (pu:IsPart vu hi)
  (hw:sIx items.size 0 lo=0/\sIx items.size items.size hi=items.size) (h:Q (.ref t) s):wpAny (model prog w) A (getItem (.ref t) (.ref sl)) Q E s:=by
 obtain ⟨os,hos,hcs,hds⟩:=id hs
 have hTs:s.TypeIs (.ref sl) "slice":=⟨os,hos,hcs⟩
 unfold getItem
 try with_reducible refine wpAny_holding ?_
 first | refine wpAny_bind (wpAny_pure ?_) | skip
 refine wpAny_bind (wpAny_sequenceKey ht.typeIs (by decide) ?_)
 refine wpAny_bind (wpAny_callSpecial?_slot (name:=Str.ofString "__getitem__") ht.typeIs PyProof.Rows.slot_tuple_getitem
  (wpAny_call_entry PyProof.Rows.slot_tuple_getitem ht.typeIs entry_tuple_getitem ?_ (args_tuple_getitem _ _)))
 show wpAny _ _ (Builtin.Tuple.tupleItemsOf (.ref t) >>= _) _ _ s
 refine wpAny_bind (tupleItemsOf_ ht ?_)
 refine wpAny_bind (wpAny_typeOf hTs ?_)
 rw [if_pos (by decide)]
 refine wpAny_bind (Zca hs pl pu ?_)
 have hyes:(((sIx items.size 0 lo:Nat):Int) == 0 && (1:Int) == 1 && (sIx items.size items.size hi - sIx items.size 0 lo) == items.size)=true:=by
  rw [hw.1,hw.2]; simp
 show wpAny _ _ (if (((sIx items.size 0 lo:Nat):Int) == 0 && (1:Int) == 1 && (sIx items.size items.size hi - sIx items.size 0 lo) == items.size)=true then _ else _) _ _ s
 rw [if_pos hyes]
 first
  | exact wpAny_pure ⟨_,rfl,wpAny_pure h⟩
  | exact wpAny_pure ⟨_,rfl,h⟩
  | exact wpAny_bind (wpAny_pure (wpAny_pure ⟨_,rfl,wpAny_pure h⟩))
  | (refine wpAny_bind (wpAny_bind (wpAny_typeOf ht.typeIs (wpAny_pure ?_)))
     rw [if_pos (by decide)]
     exact wpAny_bind (wpAny_rule (wpAny_pure ⟨_,rfl,wpAny_pure h⟩)))
end
end HT
namespace L2
open PySem PySem.Spec PyProof.Rows
section
variable {X:Cx}
noncomputable def rSlT' (K:PySem.W.Frag):V->Option Int->Option Int->Hp->VK->Prop:=fun x lo hi H Q=>∃ a xs,x=.ref a/\SqT K H a xs ∧
 ((HT.sIx xs.length 0 lo=0/\HT.sIx xs.length xs.length hi=xs.length)->Q (.ref a) H) ∧
 (¬ (HT.sIx xs.length 0 lo=0/\HT.sIx xs.length xs.length hi=xs.length)->∀ p,H p=none->Q (.ref p) (upd H p (.tup (cutV xs lo hi))))
theorem Zmd:SlR X (rSlT' X.K):=by
 intro pins s σ H x v vl vu lo hi sl Q I rx hs pl pu h
 obtain ⟨a,xs,rfl,hx,q1,q2⟩:=h
 by_cases hw:HT.sIx xs.length 0 lo=0/\HT.sIx xs.length xs.length hi=xs.length
 ·cases rx
  obtain ⟨its,r,ht,hz⟩:=I.tuple hx
  have hlen:its.toArray.size=xs.length:=by rw [Wae]; exact r.length.symm
  exact ⟨"tuple",_,PyProof.Rows.slot_tuple_getitem.lookup,ht.typeIs,HT.getItem_tuple_whole ht hs pl pu (by rw [hlen]; exact hw) ⟨.ref a,H,I,rfl,q1 hw⟩⟩
 ·exact Zn6 pins s σ H (.ref a) v vl vu lo hi sl Q I rx hs pl pu ⟨a,xs,rfl,hx,hw,q2 hw⟩
noncomputable def rSlU (K:PySem.W.Frag):V->Option Int->Option Int->Hp->VK->Prop:=fun x lo hi H Q=>rSlL K x lo hi H Q\/rSlT' K x lo hi H Q
theorem slU:SlR X (rSlU X.K):=Zlq.or Zmd
noncomputable def tSlR (K:PySem.W.Frag) (te:TE):TE:=fun σ H Q=>te σ H fun x H1=>∃ a xs,x=.ref a/\SqT K H1 a xs/\∀ p,H1 p=none->Q (.ref p) (upd H1 p (.tup xs.reverse))
noncomputable def rCatT' (K:PySem.W.Frag):R2:=fun x y H Q=>∃ a b xs ys,x=.ref a/\y=.ref b/\SqT K H a xs/\SqT K H b ys/\xs.length + ys.length<=sizeLine ∧
 (xs=[]->Q (.ref b) H)/\(xs ≠ []->ys=[]->Q (.ref a) H)/\(xs ≠ []->ys ≠ []->∀ p,H p=none->Q (.ref p) (upd H p (.tup (xs ++ ys))))
theorem Zjc:OpR X (binaryOp .Add) (rCatT' X.K):=by
 intro pins s σ H x y v u Q I rx ry h
 obtain ⟨a,b,xs,ys,rfl,rfl,ha,hb,hz,q0,q1,q2⟩:=h
 by_cases hx:xs=[]
 ·cases rx
  cases ry
  obtain ⟨its,r1,p1,_⟩:=I.tuple ha
  obtain ⟨its2,r2,p2,_⟩:=I.tuple hb
  obtain ⟨⟨cls,dd,data,sl⟩,ho,hc,n,hd⟩:=id p1
  obtain ⟨⟨cls2,dd2,data2,sl2⟩,ho2,hc2,n2,hd2⟩:=id p2
  simp only at hc hd hc2 hd2
  subst hc hd hc2 hd2
  exact concat_meets ⟨_,ho,rfl⟩ ⟨_,ho2,rfl⟩ noFill_tuple_add seq_tuple_add PySem.F.slot_tuple_add PySem.F.entry_tuple_add (PySem.F.args_tuple_add_2 _ _)
   (tuple_addW0 a b its.toArray its2.toArray n n2 dd dd2 sl sl2 (by simp [r1.nil_iff.mpr hx])) ⟨ho,ho2,⟨.ref b,H,I,rfl,q0 hx⟩⟩
 ·exact Zma pins s σ H (.ref a) (.ref b) v u Q I rx ry ⟨a,b,xs,ys,rfl,rfl,ha,hb,hx,hz,q1 hx,q2 hx⟩
noncomputable def rAddU (K:PySem.W.Frag):R2:=fun x y H Q=>rI0 (fun i j=>.int (i + j)) x y H Q\/(rCatT' K x y H Q\/rCat x y H Q)
theorem Zmc:OpR X (binaryOp .Add) (rAddU X.K):=Zn8.or (Zjc.or Znv)
theorem Zd6:OpR X (compareOp .Eq) rEq:=Zou
theorem Znm:OpR X (compareOp .NotEq) rNe:=Zoo
noncomputable def rIxD:R2:=fun x y H Q=>∃ a v,x=.ref a/\DGet H a y (some v)/\Q v H
theorem Zl9 (hu:X.A.units + 1 < cLine):IxR X rIxD:=by
 intro value slice pins s σ H x y v u Q I rx ry h hs
 obtain ⟨a,w',rfl,g,q⟩:=h
 cases rx
 exact tail_any (Zf9 I g) PySem.F.slot_dict_getitem.lookup (Zhr hu I g ry fun w2 s3 I3 rw'=>⟨w',H,I3,rw',q⟩) hs
noncomputable def rIxU (K:PySem.W.Frag):R2:=fun x y H Q=>rIx K x y H Q\/rIxD x y H Q
theorem ixU (hu:X.A.units + 1 < cLine):IxR X (rIxU X.K):=Zne.or (Zl9 hu)
noncomputable def rSetD:V->V->V->Hp->(Hp->Prop)->Prop:=fun o i v H Q=>∃ a H',o=.ref a/\DPut H a i v H' /\ Q H'
theorem Zjq (hu:X.A.units + 1 < cLine):PSet X rSetD:=by
 intro pins s σ H o i v ov iv u Q I ro ri rv h
 obtain ⟨a,H',rfl,g,q⟩:=h
 cases ro
 exact Zh4 hu I g ri rv fun s' I'=>⟨H',I',q⟩
theorem PSet.or {t t':TSet} (h:PSet X t) (h':PSet X t'):PSet X (fun o i v H Q=>t o i v H Q\/t' o i v H Q):=by
 intro pins s σ H o i v ov iv u Q I ro ri rv q
 rcases q with q | q
 ·exact h pins s σ H o i v ov iv u Q I ro ri rv q
 ·exact h' pins s σ H o i v ov iv u Q I ro ri rv q
noncomputable def rSetU:V->V->V->Hp->(Hp->Prop)->Prop:=fun o i v H Q=>rSetL o i v H Q\/rSetD o i v H Q
theorem setU (hu:X.A.units + 1 < cLine):PSet X rSetU:=Zj2.or (Zjq hu)
noncomputable def rLenU (K:PySem.W.Frag):List V->Hp->VK->Prop:=fun xs H Q=>(∃ p ys,xs=[.ref p]/\(SqL K H p ys\/SqT K H p ys)/\Q (.int ys.length) H)\/∃ a kvs,xs=[V.ref a]/\H a=some (.dK kvs)/\Q (.int kvs.length) H
theorem Zh5:CallR X (.builtin "len") (rLenU X.K):=Zff.or Zh9
noncomputable def rIsi (K:PySem.W.Frag):List V->Hp->VK->Prop:=fun xs H Q=>∃ x n t b,xs=[x,.ty n]/\TyOf K H x t/\PySem.W.kitOne K t (.type n)=some b/\Q (.bl b) H
theorem Zfx:CallR X (.builtin "isinstance") (rIsi X.K):=by
 intro pins s σ H xs us Q I r h
 obtain ⟨x,n,t,b,rfl,ty,e,q⟩:=h
 obtain ⟨u,u',rfl,rx,rn⟩:=vals2 r
 cases (show u' = Value.type n from rn)
 exact Zhj I rx ty e fun tk=>⟨.bl b,H,I.tok _,rfl,q⟩
noncomputable def insI (n:Nat) (i:Int):Nat:=if i < 0 then (i + (n:Int)).toNat else min i.toNat n
noncomputable def rInsert:V->List V->Hp->VK->Prop:=fun x vs H Q=>∃ l xs i y,x=.ref l/\vs=[.int i,y]/\H l=some (.lst xs)/\xs.length < sizeLine /\ -(2 ^ 62)<=i/\i < 2 ^ 62/\Q .non (upd H l (.lst (xs.take (insI xs.length i) ++ y :: xs.drop (insI xs.length i))))
theorem Zfq:MtM X "list.insert" rInsert:=by
 intro pins s σ H x vs v us Q I rx rv h
 obtain ⟨l,xs,i,y,rfl,rfl,hH,hz,h1,h2,q⟩:=h
 cases rx
 obtain ⟨ui,uy,rfl,⟨t,rfl⟩,ry⟩:=rv.two
 obtain ⟨z,its,n,r,hl,e⟩:=I.lstM hH
 refine call_meets F.slot_list_insert ⟨_,e,rfl⟩ F.entry_list_insert (F.args_list_insert_3 _ _ _) (PySem.AutoSeq1.list_insert_list_int_val_1 l its.toArray n i t uy (by
  have hf:Builtin.List.listFitsIndex i=true:=by
   unfold Builtin.List.listFitsIndex
   rw [decide_eq_true (by omega),decide_eq_true (by omega)]
   rfl
  rw [hf]; decide) (by rw [Wae]; omega)) ⟨e,?_⟩
 refine ⟨.non,_,I.lset (its':=its.take (insI xs.length i) ++ uy :: its.drop (insI xs.length i)) hH e ?_ ((r.take _).append (.cons ry (r.drop _))) ?_,rfl,q⟩
 ·have e1:(if i < 0 then (i + (its.toArray.size:Int)).toNat else min i.toNat its.toArray.size)=insI xs.length i:=by
   unfold insI; rw [Wae,hl]
  dsimp only
  rw [e1]
  apply Array.ext'
  simp
  rw [Wcb (by rw [Wbt]; exact Waj _)]
 ·rw [Wai,Wao,Wbl,Wbt]
  omega
noncomputable def rIndexT (K:PySem.W.Frag):V->List V->Hp->VK->Prop:=fun x vs H Q=>∃ a xs y j,x=.ref a/\vs=[y]/\SqT K H a xs/\flatV y=true/\xs.all flatV=true/\j < xs.length ∧
 (∃ z,xs[j]? = some z/\eqV z y=true)/\(∀ m z,m < j->xs[m]? = some z->eqV z y=false)/\Q (.int j) H
end
end L2
namespace L2
open PySem PySem.Spec PyProof.Rows
section
variable {X:Cx}
theorem PI.or {tg iter:Expr} {w w':TI} (h:PI X tg iter w) (h':PI X tg iter w'):PI X tg iter (fun σ H R=>w σ H R\/w' σ H R):=by
 intro pins s σ H R I q
 rcases q with q | q
 ·exact h pins s σ H R I q
 ·exact h' pins s σ H R I q
noncomputable def iSeq (K:PySem.W.Frag) (tl:TE):TI:=fun σ H R=>iList K tl σ H R\/iTup K tl σ H R
theorem Zno {tg l:Expr} {tl:TE} (hl:PE X l tl):PI X tg l (iSeq X.K tl):=(Zlu hl).or (Zm5 hl)
noncomputable def tTru (K:PySem.W.Frag) (ta:TE):TT:=fun σ H Q=>ta σ H fun x H'=>∃ k,TruV K x H' k/\Q k H'
theorem Zn5 {a:Expr} {ta:TE} (ha:PE X a ta) (he:∀ whole,isTrue a X.env whole=(do let v ← whole; standAt a.pos; holding [v] (truthy v))):PT X a (tTru X.K ta):=Zjl ha he
end
section
variable {K:PySem.W.Frag} {Δ:Evt} {P:D->Evt->Prop}
theorem Zbh {i j:Int} (p:P (.int (i + j)) Δ):JR2 K (rAddU K) (.int i) (.int j) Δ P:=fun g G H σ Q x y k rx ry c=>by
 cases rx.inv; cases ry.inv
 exact .inl ⟨i,j,rfl,rfl,c _ _ G H Δ k (Same.refl _) (.int _) p⟩
theorem Zct {ds es:List D} (hz:ds.length + es.length<=sizeLine) (p:P (.tup (ds ++ es)) Δ):JR2 K (rAddU K) (.tup ds) (.tup es) Δ P:=fun g G H σ Q x y k rx ry c=>by
 cases rx with
 | tup ha ra=>
  cases ry with
  | tup hb rb=>
   refine .inr (.inl ⟨_,_,_,_,rfl,rfl,SqT.of (k.live _ _ ha),SqT.of (k.live _ _ hb),by rw [ra.length,rb.length]; exact hz,fun e=>?_,fun _ e=>?_,fun _ _ q hq=>?_⟩)
   ·subst e; cases ra; exact c _ _ G H Δ k (Same.refl _) (.tup hb rb) p
   ·subst e; cases rb; rw [Wba] at p; exact c _ _ G H Δ k (Same.refl _) (.tup ha ra) p
   ·obtain ⟨k2,sg⟩:=k.laid hq (.tup _)
    exact c _ _ _ _ Δ k2 sg (.tup Zao ((ra.append rb).mono sg)) p
theorem Zem {ds es:List D} (hz:ds.length + es.length<=sizeLine) (p:P (.lst (ds ++ es)) Δ):JR2 K (rAddU K) (.lst ds) (.lst es) Δ P:=fun g G H σ Q x y k rx ry c=>by
 obtain ⟨_,_,rfl,ha,ra⟩:=rx.inv
 next=>
  obtain ⟨_,_,rfl,hb,rb⟩:=ry.inv
  next=>
   refine .inr (.inr ⟨_,_,_,_,rfl,rfl,k.live _ _ ha,k.live _ _ hb,by rw [ra.length,rb.length]; exact hz,fun q hq=>?_⟩)
   obtain ⟨k2,sg⟩:=k.laid hq (.lst _)
   exact c _ _ _ _ Δ k2 sg (.lst Zao ((ra.append rb).mono sg)) p
theorem Zap {ds:List D} {i:Int} {d:D} (h:atI ds i=some d) (p:P d Δ):JR2 K (rIxU K) (.tup ds) (.int i) Δ P:=fun g G H σ Q x y k rx ry c=>
 .inl (.inr (.inl (Zni h p g G H σ Q x y k rx ry c)))
theorem Zcd {ds:List D} {i:Int} {d:D} (h:atI ds i=some d) (p:P d Δ):JR2 K (rIxU K) (.lst ds) (.int i) Δ P:=fun g G H σ Q x y k rx ry c=>
 .inl (.inl (Zmw h p g G H σ Q x y k rx ry c))
theorem Zlw {n:Nat} {tb:TE} {x:Slot} {ds:List D} (hx:Δ[n]? = some x) (ho:x.od=some (.lst ds)) (h:JE K tb Δ fun e Δ1=>∃ y es i d,Δ1[n]? = some y/\y.od=some (.lst es)/\e=.int i/\atI es i=some d/\P d Δ1):JE K (tOp (rIxU K) (tVar n) tb) Δ P:=fun g G H σ Q k c=>by
 obtain ⟨a,o,h1,h2,h3,h4,h5⟩:=k.own n x _ hx ho
 refine ⟨.ref a,h1,h g G H σ _ k fun v e G1 H1 Δ1 k1 s1 r1 ⟨y,es,i,d,q1,q2,q3,q4,p⟩=>?_⟩
 subst q3
 cases r1.inv
 obtain ⟨a',o',w1,w2,w3,w4,w5⟩:=k1.own n y _ q1 q2
 rw [h1] at w1; cases w1
 cases o' with
 | lst vs=>
  obtain ⟨u,z1,z2⟩:=Zer (show Reps K G1 vs es from w3) q4
  exact .inl (.inl ⟨a,vs,i,u,rfl,rfl,SqL.of w2,z1,c u d G1 H1 Δ1 k1 s1 z2 p⟩)
 | _=>exact absurd w3 (fun z=>z)
theorem Zit {n:Nat} {ti te:TE} {Pp:Pst} (h:JE K te Δ fun d Δ1=>(∃ x od,Δ1[n]? = some x/\x.od=some od)/\JE K ti Δ1 fun e Δ2=>∃ x ds i j,Δ2[n]? = some x/\x.od=some (.lst ds)/\e=.int i/\ixN ds.length i=some j/\Pp.nx (Δ2.set n (x.put (.lst (ds.set j d))))) :
  JS K (tAsg te (gSub (tVar n) ti rSetU)) Δ Pp:=fun g G H σ E k c=>
 h g G H σ _ k fun v d G1 H1 Δ1 k1 s1 r1 hq_=>by
  obtain ⟨⟨x,od,hx,ho⟩,p1⟩:=hq_
  obtain ⟨a,o,h1,h2,h3,h4,h5⟩:=k1.own n x _ hx ho
  refine ⟨.ref a,h1,p1 g G1 H1 σ _ k1 fun u e G2 H2 Δ2 k2 s2 r2 ⟨y,ds,i,j,q1,q2,q3,q4,p⟩=>?_⟩
  subst q3
  cases r2.inv
  obtain ⟨a',o',w1,w2,w3,w4,w5⟩:=k2.own n y _ q1 q2
  rw [h1] at w1; cases w1
  cases o' with
  | lst vs=>
   have w3:Reps K G2 vs ds:=w3
   exact .inl ⟨a,vs,i,j,rfl,rfl,w2,by rw [w3.length]; exact q4,c.nx σ G2 _ _ (k2.write q1 q2 h1 (show OwnRep K G2 (.lst (vs.set j v)) (.lst (ds.set j d)) from w3.set j (r1.mono s2))) p⟩
  | _=>exact absurd w3 (fun z=>z)
theorem Zdm {ds es:List D} (he:ds=[.lst es]\/ds=[.tup es]) (p:P (.int es.length) Δ):JC K (rLenU K) ds Δ P:=fun g G H σ Q vs k rs c=>.inl (Znn he p g G H σ Q vs k rs c)
theorem Zji {n:Nat} {x:Slot} {ds:List D} (hx:Δ[n]? = some x) (ho:x.od=some (.lst ds)) (p:P (.int ds.length) Δ):JE K (tCB (rLenU K) (tCons (tVar n) tNil)) Δ P:=fun g G H σ Q k c=>by
 obtain ⟨v,h1,h2⟩:=Zmk hx ho p g G H σ Q k c
 exact ⟨v,h1,.inl h2⟩
noncomputable def cutD (ds:List D) (lo hi:Option Int):List D:=(ds.drop (HT.sIx ds.length 0 lo)).take (HT.sIx ds.length ds.length hi - HT.sIx ds.length 0 lo)
theorem Zis {α:Type} (xs:List α) (lo hi:Option Int) (h:HT.sIx xs.length 0 lo=0/\HT.sIx xs.length xs.length hi=xs.length):(xs.drop (HT.sIx xs.length 0 lo)).take (HT.sIx xs.length xs.length hi - HT.sIx xs.length 0 lo)=xs:=by
 rw [h.1,h.2]; simp
noncomputable def JO2 (t:TO) (Δ:Evt) (K:PySem.W.Frag) (P:Option Int->Evt->Prop):Prop:=
 ∀ g G H σ (Q:Option Int->Hp->Prop),Ok K g G H σ Δ -> (∀ o G' H' Δ',Ok K g G' H' σ Δ' -> Same G G' -> P o Δ' -> Q o H')->t σ H Q
theorem Zgb {P:Option Int->Evt->Prop} (p:P none Δ):JO2 tNoPart Δ K P:=fun g G H σ Q k c=>c none G H Δ k (Same.refl _) p
theorem Zgd {te:TE} {P:Option Int->Evt->Prop} (h:JE K te Δ fun d Δ1=>∃ i,d=.int i/\P (some i) Δ1):JO2 (tPart te) Δ K P:=fun g G H σ Q k c=>
 h g G H σ _ k fun v d G1 H1 Δ1 k1 s1 r1 hq_=>by obtain ⟨i,e,p⟩:=hq_; subst e; cases r1.inv; exact ⟨i,rfl,c (some i) G1 H1 Δ1 k1 s1 p⟩
noncomputable def slD (d:D) (lo hi:Option Int):Option D:=match d with
 | .lst ds=>some (.lst (cutD ds lo hi))
 | .scr ds=>some (.lst (cutD ds lo hi))
 | .tup ds=>some (.tup (cutD ds lo hi))
 | _=>none
theorem Zl7 {te:TE} {tl th:TO} (h:JE K te Δ fun d Δ1=>JO2 tl Δ1 K fun lo Δ2=>JO2 th Δ2 K fun hi Δ3=>∃ e,slD d lo hi=some e/\P e Δ3):JE K (tSl (rSlU K) te tl th) Δ P:=fun g G H σ Q k c=>
 h g G H σ _ k fun v d G1 H1 Δ1 k1 s1 r1 p1=>p1 g G1 H1 σ _ k1 fun lo G2 H2 Δ2 k2 s2 p2=>p2 g G2 H2 σ _ k2 fun hi G3 H3 Δ3 k3 s3 hq_=>by
  obtain ⟨e,he,p⟩:=hq_
  have r3:=r1.mono (s2.trans s3)
  have cc:=c.up (s1.trans (s2.trans s3))
  cases r3 with
  | lst ha rs=>
   cases he
   refine .inl ⟨_,_,rfl,SqL.of (k3.live _ _ ha),fun q hq=>?_⟩
   obtain ⟨k4,sg⟩:=k3.laid hq (.lst _)
   refine cc _ _ _ _ Δ3 k4 sg (.lst Zao (Reps.mono sg ?_)) p
   unfold cutV cutD
   rw [rs.length]; exact (rs.drop _).take _
  | scr ha rs=>
   cases he
   refine .inl ⟨_,_,rfl,k3.live.seq ha,fun q hq=>?_⟩
   obtain ⟨k4,sg⟩:=k3.laid hq (.lst _)
   refine cc _ _ _ _ Δ3 k4 sg (.lst Zao (Reps.mono sg ?_)) p
   unfold cutV cutD
   rw [rs.length]; exact (rs.drop _).take _
  | tup ha rs=>
   cases he
   refine .inr ⟨_,_,rfl,SqT.of (k3.live _ _ ha),fun hw=>?_,fun hw q hq=>?_⟩
   ·rw [rs.length] at hw
    refine cc _ _ _ _ Δ3 k3 (Same.refl _) (.tup ha ?_) p
    unfold cutD
    rw [Zis _ _ _ hw]; exact rs
   ·obtain ⟨k4,sg⟩:=k3.laid hq (.tup _)
    refine cc _ _ _ _ Δ3 k4 sg (.tup Zao (Reps.mono sg ?_)) p
    unfold cutV cutD
    rw [rs.length]; exact (rs.drop _).take _
  | _=>cases he
theorem Zng {te:TE} (h:JE K te Δ fun d Δ1=>∃ ds,d=.tup ds/\P (.tup ds.reverse) Δ1):JE K (tSlR K te) Δ P:=fun g G H σ Q k c=>
 h g G H σ _ k fun v d G1 H1 Δ1 k1 s1 r1 hq_=>by
  obtain ⟨ds,e,p⟩:=hq_
  subst e
  obtain ⟨_,_,rfl,ha,rs⟩:=r1.inv
  next=>
   refine ⟨_,_,rfl,SqT.of (k1.live _ _ ha),fun q hq=>?_⟩
   obtain ⟨k4,sg⟩:=k1.laid hq (.tup _)
   exact c _ _ _ _ Δ1 k4 (s1.trans sg) (.tup Zao (rs.reverse.mono sg)) p
theorem Zks {tl:TE} {P:List D->Evt->Prop} (h:JE K tl Δ fun d Δ1=>∃ ds,(d=.lst ds\/d=.scr ds)/\P ds Δ1):JI K (iSeq K tl) Δ P:=fun g G H σ R k c=>.inl (Zme h g G H σ R k c)
theorem Zf1 {tl:TE} {P:List D->Evt->Prop} (h:JE K tl Δ fun d Δ1=>∃ ds,d=.tup ds/\P ds Δ1):JI K (iSeq K tl) Δ P:=fun g G H σ R k c=>.inr (Znu h g G H σ R k c)
noncomputable def truD:D->Option Bool
 | .non=>some false
 | .bl b=>some b
 | .int i=>some (i != 0)
 | .lst ds=>some !ds.isEmpty
 | .tup ds=>some !ds.isEmpty
 | _=>none
theorem Reps.isEmpty {G:Hp} {vs:List V} {ds:List D} (r:Reps K G vs ds):vs.isEmpty=ds.isEmpty:=by cases r <;> rfl
theorem Zfa {t:TE} {Pb:Bool->Evt->Prop} (h:JE K t Δ fun d Δ1=>∃ b,truD d=some b/\Pb b Δ1):JT K (tTru K t) Δ Pb:=fun g G H σ Q k c=>
 h g G H σ _ k fun v d G1 H1 Δ1 k1 s1 r1 hq_=>by
  obtain ⟨b,e,p1⟩:=hq_
  refine ⟨b,?_,c b G1 H1 Δ1 k1 s1 p1⟩
  cases r1 with
  | non=>cases e; rfl
  | bl b=>cases e; rfl
  | int i=>cases e; rfl
  | str x=>cases e
  | ty n=>cases e
  | scr ha rs=>cases e
  | adr a=>cases e
  | dct ha hl rs=>cases e
  | exc ha=>cases e
  | lst ha rs=>cases e; exact .inl ⟨_,SqL.of (k1.live _ _ ha),by rw [rs.isEmpty]⟩
  | tup ha rs=>cases e; exact .inr (.inl ⟨_,SqT.of (k1.live _ _ ha),by rw [rs.isEmpty]⟩)
noncomputable def tyD:D->Option String
 | .non=>some "NoneType"
 | .bl _=>some "bool"
 | .int _=>some "int"
 | .str _=>some "str"
 | .lst _=>some "list"
 | .tup _=>some "tuple"
 | .dct _ _=>some "dict"
 | _=>none
theorem Zn2 {d:D} {n T:String} {b:Bool} (ht:tyD d=some T) (e:∀ K,PySem.W.kitOne K (.type T) (.type n)=some b) (p:P (.bl b) Δ):JC K (rIsi K) [d,.ty n] Δ P:=fun g G H σ Q vs k rs c=>by
 obtain ⟨_,_,rfl,r,t⟩:=rs.inv
 next=>
  obtain ⟨_,_,rfl,r',t⟩:=t.inv
  next=>
   cases t.inv; cases r'.inv
   refine ⟨_,n,.type T,b,rfl,?_,e K,c _ _ G H Δ k (Same.refl _) (.bl b) p⟩
   cases r with
   | non=>cases ht; exact .non
   | bl b=>cases ht; exact .bl b
   | int i=>cases ht; exact .int i
   | str x=>cases ht; exact .str x
   | ty n=>cases ht
   | scr ha rs=>cases ht
   | adr a=>cases ht
   | dct ha hl rs=>cases ht; exact .dK (k.live _ _ ha)
   | exc ha=>cases ht
   | lst ha rs=>cases ht; exact .lst (k.live _ _ ha)
   | tup ha rs=>cases ht; exact .tup (k.live _ _ ha)
theorem Zb5 {ta tb:TE} (h:JE K ta Δ fun d Δ1=>∃ b,d=.bl b/\if b=true then JE K tb Δ1 P else P (.bl false) Δ1):JE K (tAndV ta tb) Δ P:=fun g G H σ Q k c=>
 h g G H σ _ k fun v d G1 H1 Δ1 k1 s1 r1 hq_=>by
  obtain ⟨b,e,p1⟩:=hq_
  subst e; cases r1.inv
  refine ⟨b,rfl,?_⟩
  cases b with
  | true=>exact (show JE K tb Δ1 P from p1) g G1 H1 σ Q k1 (c.up s1)
  | false=>exact c _ _ G1 H1 Δ1 k1 s1 (.bl false) p1
theorem Zoi {ta tb:TE} (h:JE K ta Δ fun d Δ1=>∃ b,d=.bl b/\if b=true then P (.bl true) Δ1 else JE K tb Δ1 P):JE K (tOrV ta tb) Δ P:=fun g G H σ Q k c=>
 h g G H σ _ k fun v d G1 H1 Δ1 k1 s1 r1 hq_=>by
  obtain ⟨b,e,p1⟩:=hq_
  subst e; cases r1.inv
  refine ⟨b,rfl,?_⟩
  cases b with
  | false=>exact (show JE K tb Δ1 P from p1) g G1 H1 σ Q k1 (c.up s1)
  | true=>exact c _ _ G1 H1 Δ1 k1 s1 (.bl true) p1
theorem Zf5 {ta:TE} (h:JE K ta Δ fun d Δ1=>∃ b,d=.bl b/\P (.bl !b) Δ1):JE K (tNotV ta) Δ P:=fun g G H σ Q k c=>
 h g G H σ _ k fun v d G1 H1 Δ1 k1 s1 r1 hq_=>by
  obtain ⟨b,e,p1⟩:=hq_
  subst e; cases r1.inv
  exact ⟨b,rfl,c _ _ G1 H1 Δ1 k1 s1 (.bl !b) p1⟩
theorem Zkg {to te:TE} (h:JE K to Δ fun d Δ1=>∃ ns:List Int,d=.tup (ns.map D.int)/\JE K te Δ1 fun e Δ2=>∃ i j,e=.int i/\ns[j]? = some i/\(∀ m,m < j->ns[m]? ≠ some i)/\P (.int (j:Nat)) Δ2) :
  JE K (tBM K "tuple" (rIndexT K) to (tCons te tNil)) Δ P:=fun g G H σ Q k c=>
 h g G H σ _ k fun v d G1 H1 Δ1 k1 s1 r1 hq_=>by
  obtain ⟨ns,e,p1⟩:=hq_
  subst e
  obtain ⟨a,vs,rfl,ha,rs⟩:=r1.inv
  next=>
   refine ⟨.inr (.inl ⟨rfl,.inr ⟨_,k1.live _ _ ha⟩⟩),p1 g G1 H1 σ _ k1 fun u e G2 H2 Δ2 k2 s2 r2 ⟨i,j,q1,q2,q3,p⟩=>?_⟩
   subst q1
   cases r2.inv
   have ev:vs=ns.map V.int:=rs.ints
   subst ev
   have hj:j < ns.length:=(Wak.mp q2).1
   refine ⟨a,_,.int i,j,rfl,rfl,SqT.of (k2.live _ _ (s2 _ _ ha)),rfl,?_,by simpa using hj,⟨.int i,by rw [Wah,q2]; rfl,by simp [eqV]⟩,fun m z hm hz=>?_,c _ _ G2 H2 Δ2 k2 (s1.trans s2) (.int _) p⟩
   ·rw [List.all_map]; exact Wbu.mpr fun _ _=>rfl
   ·rw [Wah] at hz
    cases e:ns[m]? with
    | none=>rw [e] at hz; cases hz
    | some w=>
     rw [e] at hz
     have hz:V.int w=z:=by simpa using hz
     subst hz
     have hne:w ≠ i:=fun q=>q3 m hm (by rw [e,q])
     show (w == i)=false
     exact beq_eq_false_iff_ne.mpr hne
end
section
variable {K:PySem.W.Frag} {g:Gm} {G H:Hp} {σ:St} {Δ:Evt}
theorem Ok.setVal' (k:Ok K g G H σ Δ) {v:V} {d:D} (i:Nat) (r:Rep K G v d):Ok K g G H (σ.set i (some v)) (Δ.set i (.val d)):=by
 by_cases hi:i < Δ.length
 ·exact k.setVal hi r
 ·have hl:=k.len
  rw [Wby (l:=σ) (by omega),Wby (l:=Δ) (by omega)]; exact k
theorem Ok.setOwn' (k:Ok K g G H σ Δ) {a:Addr} {od:OD} (i:Nat) (p:Pend K g G H σ Δ a od):Ok K g G H (σ.set i (some (.ref a))) (Δ.set i (.own od)):=by
 by_cases hi:i < Δ.length
 ·exact k.setOwn hi p
 ·have hl:=k.len
  rw [Wby (l:=σ) (by omega),Wby (l:=Δ) (by omega)]; exact k
theorem Zoc {te:TE} {i:Nat} {P:Pst} (h:JE K te Δ fun d Δ1=>P.nx (Δ1.set i (.val d))):JS K (tAsg te (gName i)) Δ P:=fun g G H σ E k c=>
 h g G H σ _ k fun v d G1 H1 Δ1 k1 s1 r1 p1=>c.nx _ G1 H1 _ (k1.setVal' i r1) p1
theorem Zld {te:TE} {i:Nat} {P:Pst} (h:JO K te Δ fun od Δ1=>P.nx (Δ1.set i (.own od))):JS K (tAsg te (gName i)) Δ P:=fun g G H σ E k c=>
 h g G H σ _ k fun a od G1 H1 Δ1 k1 s1 pd p1=>c.nx _ G1 H1 _ (k1.setOwn' i pd) p1
theorem Zmg {i j:Nat} {ta:TA} {P:Pst} (h:JA K ta Δ fun ds Δ1=>∃ d e,ds=[d,e]/\P.nx ((Δ1.set i (.val d)).set j (.val e))):JS K (tPar i j ta) Δ P:=fun g G H σ E k c=>
 h g G H σ _ k fun vs ds G1 H1 Δ1 k1 s1 r1 hq_=>by
  obtain ⟨d,e,hd,p1⟩:=hq_
  subst hd
  obtain ⟨_,_,rfl,ra,rr⟩:=r1.inv
  next=>
   obtain ⟨_,_,rfl,rb,rr⟩:=rr.inv
   next=>
    cases rr.inv
    exact ⟨_,_,rfl,c.nx _ G1 H1 _ ((k1.setVal' i ra).setVal' j rb) p1⟩
theorem Zdw {i:Nat} {d:D} {P:Evt->Prop} (p:P (Δ.set i (.val d))):JG K (gName i) d Δ P:=fun g G H σ v R k r c=>c _ G H _ (k.setVal' i r) (Same.refl _) p
theorem Zdt {n i:Nat} {d:D} {P:Evt->Prop} (hn:i < n) (p:P (Δ.set i (.val d))):JGn K n (gName i) d Δ P:=fun g G H σ v R k r c=>
 c _ G H _ (k.setVal' i r) (Same.refl _) (fun j hj=>Wag (by omega)) p
theorem Zm6 {n:Nat} {te:TE} {Pp:Pst} {x:Slot} {ds0:List D} (hx:Δ[n]? = some x) (ho:x.od=some (.lst ds0))
  (h:JE K te Δ fun d Δ1=>∃ y ds,Δ1[n]? = some y/\y.od=some (.lst ds)/\ds.length < sizeLine/\Pp.nx (Δ1.set n (y.put (.lst (ds ++ [d]))))) :
  JS K (tDrop (tBM K "list" rAppend (tVar n) (tCons te tNil))) Δ Pp:=Zh7 hx ho ⟨_,rfl⟩ h
end
section
variable {K:PySem.W.Frag} {Δ:Evt} {nx bk ct:Evt->Prop} {rt:D->Evt->Prop} {ro:OD->Evt->Prop}
theorem Zbk (p:nx Δ):JS K tNext Δ ⟨nx,rt,bk,ct,ro⟩:=Ziw p
theorem Zat {t u:TS} (h:JS K t Δ ⟨fun Δ1=>JS K u Δ1 ⟨nx,rt,bk,ct,ro⟩,rt,bk,ct,ro⟩):JS K (tSeq t u) Δ ⟨nx,rt,bk,ct,ro⟩:=Zkw h
theorem Zb3 {t u:TS} (I:Evt->Prop) (h1:JS K t Δ ⟨I,rt,bk,ct,ro⟩) (h2:∀ Δ1,I Δ1->JS K u Δ1 ⟨nx,rt,bk,ct,ro⟩):JS K (tSeq t u) Δ ⟨nx,rt,bk,ct,ro⟩:=
 Zkw (h1.mono h2 (fun _ _ z=>z) (fun _ z=>z) (fun _ z=>z) fun _ _ z=>z)
theorem Za7 {te:TE} (h:JE K te Δ rt):JS K (tRet te) Δ ⟨nx,rt,bk,ct,ro⟩:=Zm1 h
theorem Zlb {te:TE} (h:JO K te Δ ro):JS K (tRet te) Δ ⟨nx,rt,bk,ct,ro⟩:=Zlf h
theorem Zdy {c:TT} {t u:TS} (h:JT K c Δ fun b Δ1=>if b=true then JS K t Δ1 ⟨nx,rt,bk,ct,ro⟩ else JS K u Δ1 ⟨nx,rt,bk,ct,ro⟩):JS K (tIfS c t u) Δ ⟨nx,rt,bk,ct,ro⟩:=Zo1 h
theorem Zau {te:TE} {i:Nat} (h:JE K te Δ fun d Δ1=>nx (Δ1.set i (.val d))):JS K (tAsg te (gName i)) Δ ⟨nx,rt,bk,ct,ro⟩:=Zoc h
theorem Zdo {te:TE} {i:Nat} (h:JO K te Δ fun od Δ1=>nx (Δ1.set i (.own od))):JS K (tAsg te (gName i)) Δ ⟨nx,rt,bk,ct,ro⟩:=Zld h
theorem Zga {i j:Nat} {ta:TA} (h:JA K ta Δ fun ds Δ1=>∃ d e,ds=[d,e]/\nx ((Δ1.set i (.val d)).set j (.val e))):JS K (tPar i j ta) Δ ⟨nx,rt,bk,ct,ro⟩:=Zmg h
theorem Znr {te:TE} {t:TG} (h:JE K te Δ fun d Δ1=>JG K t d Δ1 nx):JS K (tAsg te t) Δ ⟨nx,rt,bk,ct,ro⟩:=Znt h
theorem Zm0 {n:Nat} {te:TE} {x:Slot} {ds0:List D} (hx:Δ[n]? = some x) (ho:x.od=some (.lst ds0))
  (h:JE K te Δ fun d Δ1=>∃ y ds,Δ1[n]? = some y/\y.od=some (.lst ds)/\ds.length < sizeLine/\nx (Δ1.set n (y.put (.lst (ds ++ [d]))))) :
  JS K (tDrop (tBM K "list" rAppend (tVar n) (tCons te tNil))) Δ ⟨nx,rt,bk,ct,ro⟩:=Zm6 hx ho h
theorem Zjw {n:Nat} {ti te:TE} (h:JE K te Δ fun d Δ1=>(∃ x ds,Δ1[n]? = some x/\x.od=some (.lst ds))/\JE K ti Δ1 fun e Δ2=>∃ x ds i j,Δ2[n]? = some x/\x.od=some (.lst ds)/\e=.int i/\ixN ds.length i=some j/\nx (Δ2.set n (x.put (.lst (ds.set j d))))) :
  JS K (tAsg te (gSub (tVar n) ti rSetU)) Δ ⟨nx,rt,bk,ct,ro⟩:=Zit (h.mono fun d Δ1 ⟨⟨x,ds,h1,h2⟩,h3⟩=>⟨⟨x,_,h1,h2⟩,h3⟩)
theorem Zgt {wi:TI} {t:TG} {tb:TS} (h:JI K wi Δ fun ds Δ1=>∃ I:Nat->Evt->Prop,I 0 Δ1/\(∀ i d Δ2,ds[i]? = some d->I i Δ2->JG K t d Δ2 fun Δ3=>JS K tb Δ3 ⟨I (i + 1),rt,nx,I (i + 1),ro⟩)/\∀ Δ2,I ds.length Δ2->nx Δ2) :
  JS K (tFor wi t tb) Δ ⟨nx,rt,bk,ct,ro⟩:=Zns h
end
theorem Zim {α β:Type} {f:α -> β} {xs:List α} {i:Int} (h0:0<=i) (h1:i < (xs.length:Int)):∃ c,xs[i.toNat]? = some c/\atI (xs.map f) i=some (f c):=by
 have hk:i.toNat < xs.length:=by omega
 have e:i=((i.toNat:Nat):Int):=by omega
 have q:xs[i.toNat]? = some xs[i.toNat]:=Wac hk
 generalize xs[i.toNat]=c at q
 refine ⟨c,q,?_⟩
 have z:atI (xs.map f) ((i.toNat:Nat):Int)=some (f c):=Zax (by rw [Wah,q]; rfl)
 rw [<- e] at z
 exact z
theorem Zhg:bootBuiltins "abs" = some (.builtin "abs"):=by decide +kernel
theorem Zcb:bootBuiltins "len" = some (.builtin "len"):=by decide +kernel
theorem Zgn:bootBuiltins "min" = some (.builtin "min"):=by decide +kernel
theorem Zkn:bootBuiltins "max" = some (.builtin "max"):=by decide +kernel
theorem Zaj:bootBuiltins "isinstance" = some (.builtin "isinstance"):=by decide +kernel
theorem Zb9:bootBuiltins "tuple" = some (.type "tuple"):=by decide +kernel
theorem Zl0:bootBuiltins "list" = some (.type "list"):=by decide +kernel
theorem Zk6:bootBuiltins "int" = some (.type "int"):=by decide +kernel
theorem Zlk:bootBuiltins "bool" = some (.type "bool"):=by decide +kernel
structure Callee (P:Program) (w:World) (K:PySem.W.Frag) (mg:Str->Option Value) (base:Heap) (k:Nat) (x:Str) (ps:List Str) (sp:Sp):Prop where
 ex:∃ (f:Addr) (fd:FuncData),FnOk P w K mg base CX0 k f fd ps sp/\Binds K fd ps []/\PySem.W.keepIn K (.ref f)=true/\mg x=some (.ref f)
section
variable {X:Cx} {k:Nat} {x:Str} {ps:List Str} {sp:Sp} {e:Expr} {es:List Expr} {t:TA} {p pos:Pos}
theorem Za6 (C:Callee X.prog X.w X.K X.mg X.base k x ps sp) (hr:Room k X.A) (ha:PA X (e :: es) t) (hg:Gl X x:=by rfl) (hdb:(x == ("__debug__":Str))=false:=by decide)
  (he:starEach (e :: es) X.env=(false,eval e X.env) :: starEach es X.env:=by rfl) (hpl:(backTo pos (starEach es X.env)).any (·.1)=false:=by rfl):PE X (.Call (.Name x p) (e :: es) [] pos) (tCall sp [] E0 t):=by
 obtain ⟨f,fd,F,b,kp,m⟩:=C.ex
 exact Zi4 F hr hg m kp b .nil pass0 ha hdb he hpl
end
end L2
set_option Elab.async false
set_option linter.all false
set_option maxRecDepth 100000
namespace L2
open PySem PySem.Spec PyProof.Rows
noncomputable def fixD (sel:List Nat) (Δ:Evt):Evt:=sel.map fun i=>(Δ[i]?).getD .any
theorem Zci {n:Nat} {sel:List Nat} {ts Δ:Evt} (ht:ts.length=n):backD n sel (ts ++ fixD sel Δ) 0 Δ = Δ:=by
 apply Wbw
 intro i
 rw [Zbz]
 cases q:Δ[i]? with
 | none=>rfl
 | some x=>
  show some (backAt n sel (ts ++ fixD sel Δ) (0 + i) x)=some x
  congr 1
  rw [Nat.zero_add]
  have key:∀ j,sel.idxOf? i=some j->(ts ++ fixD sel Δ)[n + j]? = some x:=fun j hj=>by
   rw [Wap (by omega),ht,Nat.add_sub_cancel_left]
   unfold fixD
   rw [Wah,Zcy hj]
   show some ((Δ[i]?).getD .any)=_
   rw [q]; rfl
  unfold backAt
  cases x with
  | any=>rfl
  | val d=>rfl
  | own o=>
   dsimp only
   cases e:sel.idxOf? i with
   | none=>rfl
   | some j=>dsimp only; rw [key j e]
  | bor o=>
   dsimp only
   cases e:sel.idxOf? i with
   | none=>rfl
   | some j=>dsimp only; rw [key j e]
  | ownA a o=>
   dsimp only
   cases e:sel.idxOf? i with
   | none=>rfl
   | some j=>dsimp only; rw [key j e]
section
variable {K:PySem.W.Frag} {Δ:Evt} {P:D->Evt->Prop}
theorem Zdg {sel:List Nat} {wi:TI} {tc:TT} {te:TE} (hsel:sel.Nodup)
  (h:JI K wi Δ fun ds Δ1=>ds.length < sizeLine/\∃ (p:D->Bool) (f:D->D),
   (∀ (i:Nat) d,ds[i]? = some d->JT K tc (.val d :: fixD sel Δ1) fun b Δ4=>b=p d/\if b=true then JE K te Δ4 fun e Δ5=>e=f d/\∃ x,Δ5=x :: fixD sel Δ1 else ∃ x,Δ4=x :: fixD sel Δ1) ∧
   P (.lst ((ds.filter p).map f)) Δ1):JE K (tComp 1 sel wi (gName 0) tc te) Δ P:=by
 refine Zgw hsel fun g G H σ R k c=>h g G H σ R k fun J ds G' H' Δ' k' s' it ⟨z,p,f,ht,he⟩=>c J ds G' H' Δ' k' s' it ⟨z,fixD sel Δ',p,f,rfl,fun i d ts hd hts=>?_,?_⟩
 ·refine Zdt (by decide) ?_
  obtain ⟨x,rfl⟩:∃ x,ts=[x]:=by
   match ts,hts with
   | [x],_=>exact ⟨x,rfl⟩
  intro g G H σ Q k c
  refine ht i d hd g G H σ Q k fun b G1 H1 Δ1 k1 s1 ⟨e1,q⟩=>c b G1 H1 Δ1 k1 s1 ⟨e1,?_⟩
  cases b with
  | true=>
   rw [if_pos rfl] at q ⊢
   exact q.mono fun e Δ5 ⟨e2,x,e3⟩=>⟨e2,[x],rfl,e3⟩
  | false=>
   rw [if_neg Wam] at q ⊢
   obtain ⟨x,e3⟩:=q
   exact ⟨[x],rfl,e3⟩
 ·rw [Zci (by simp)]; exact he
theorem Zjy {sel:List Nat} {wi:TI} {tc:TT} {te:TE} {Po:OD->Evt->Prop} (hsel:sel.Nodup)
  (h:JI K wi Δ fun ds Δ1=>ds.length < sizeLine/\∃ (p:D->Bool) (f:D->D),
   (∀ (i:Nat) d,ds[i]? = some d->JT K tc (.val d :: fixD sel Δ1) fun b Δ4=>b=p d/\if b=true then JE K te Δ4 fun e Δ5=>e=f d/\∃ x,Δ5=x :: fixD sel Δ1 else ∃ x,Δ4=x :: fixD sel Δ1) ∧
   Po (.lst ((ds.filter p).map f)) Δ1):JO K (tComp 1 sel wi (gName 0) tc te) Δ Po:=by
 refine Zhq hsel fun g G H σ R k c=>h g G H σ R k fun J ds G' H' Δ' k' s' it ⟨z,p,f,ht,he⟩=>c J ds G' H' Δ' k' s' it ⟨z,fun i ys Δ=>ys=((ds.take i).filter p).map f/\∃ x,Δ = x :: fixD sel Δ',⟨by simp,.any,rfl⟩,?_,?_⟩
 ·rintro i d ys Δ2 hd ⟨rfl,x,rfl⟩
  have tk:ds.take (i + 1)=ds.take i ++ [d]:=by
   rw [Wch,hd]; rfl
  refine Zdt (by decide) ?_
  intro g G H σ Q k c
  refine ht i d hd g G H σ Q k fun b G1 H1 Δ1 k1 s1 ⟨e1,q⟩=>c b G1 H1 Δ1 k1 s1 ?_
  cases b with
  | true=>
   rw [if_pos rfl] at q ⊢
   refine q.mono fun e Δ5 ⟨e2,x,e3⟩=>⟨?_,x,e3⟩
   rw [tk,Wbn,Wa9,Wbm,<- e1,e2]
   rfl
  | false=>
   rw [if_neg Wam] at q ⊢
   obtain ⟨x,e3⟩:=q
   refine ⟨?_,x,e3⟩
   rw [tk,Wbn,Wa9,Wbm,<- e1]
   simp
 ·rintro ys Δ2 ⟨rfl,x,rfl⟩
  rw [Wcj,show (x :: fixD sel Δ')=[x] ++ fixD sel Δ' from rfl,Zci (by simp)]
  exact he
theorem Zjj {sel:List Nat} {wi:TI} {tc:TT} {te:TE} (hsel:sel.Nodup)
  (h:JI K wi Δ fun ds Δ1=>ds.length < sizeLine/\∃ (p:D->Bool) (f:D->D),
   (∀ (i:Nat) d,ds[i]? = some d->∃ a b,d=.tup [a,b]/\JT K tc (.val a :: .val b :: fixD sel Δ1) fun t Δ4=>t=p d/\if t=true then JE K te Δ4 fun e Δ5=>e=f d/\∃ x y,Δ5=x :: y :: fixD sel Δ1 else ∃ x y,Δ4=x :: y :: fixD sel Δ1) ∧
   P (.lst ((ds.filter p).map f)) Δ1):JE K (tComp 2 sel wi (gTup K 2 (gCons (gName 0) (gCons (gName 1) gNil))) tc te) Δ P:=by
 refine Zgw hsel fun g G H σ R k c=>h g G H σ R k fun J ds G' H' Δ' k' s' it ⟨z,p,f,ht,he⟩=>c J ds G' H' Δ' k' s' it ⟨z,fixD sel Δ',p,f,rfl,fun i d ts hd hts=>?_,?_⟩
 ·obtain ⟨a,b,rfl,hj⟩:=ht i d hd
  refine Zmr rfl (Zfr (Zdt (by decide) (Zfr (Zdt (by decide) (Zju ?_)))))
  obtain ⟨x,y,rfl⟩:∃ x y,ts=[x,y]:=by
   match ts,hts with
   | [x,y],_=>exact ⟨x,y,rfl⟩
  intro g G H σ Q k c
  refine hj g G H σ Q k fun b G1 H1 Δ1 k1 s1 ⟨e1,q⟩=>c b G1 H1 Δ1 k1 s1 ⟨e1,?_⟩
  cases b with
  | true=>
   rw [if_pos rfl] at q ⊢
   exact q.mono fun e Δ5 ⟨e2,x,y,e3⟩=>⟨e2,[x,y],rfl,e3⟩
  | false=>
   rw [if_neg Wam] at q ⊢
   obtain ⟨x,y,e3⟩:=q
   exact ⟨[x,y],rfl,e3⟩
 ·rw [Zci (by simp)]; exact he
end
end L2
set_option Elab.async false
set_option linter.all false
set_option maxRecDepth 100000
namespace L2
open PySem PySem.Spec PyProof.Rows
noncomputable def tGhost (base:Nat) (t:TS):TS:=fun E σ H=>t { E with nx:=fun σ' H'=>∃ σ2:St,σ2.length = σ'.length/\(∀ i,i < base -> σ2[i]? = σ'[i]?)/\E.nx σ2 H' } σ H
theorem Zj3 {X:Cx} {st:Stmt} {t:TS} (base:Nat) (hv:∀ x ∈ X.N.drop base,X.env.scope.names.lookup x=none) (h:PS X st t):PS X st (tGhost base t):=by
 intro pins s σ H E I hw
 refine thn (h pins s σ H _ I hw) fun f s1 q=>?_
 cases f with
 | next=>
  obtain ⟨σ',H',I',σ2,hl,hs,q⟩:=q
  refine ⟨σ2,H',⟨I'.ok,I'.os,I'.bare,I'.base,?_,I'.cell,I'.free,I'.freeC,I'.pin,I'.hok,hl.trans I'.len⟩,q⟩
  obtain ⟨m,hn,hl'⟩:=I'.loc
  refine ⟨m,hn,fun i x v e1 e2 e3=>?_⟩
  by_cases hi:i < base
  ·rw [hs i hi] at e2; exact hl' i x v e1 e2 e3
  ·have hm:x ∈ X.N.drop base:=by
    refine Wa4 (i:=i - base) ?_
    rw [List.getElem?_drop,show base + (i - base)=i by omega]; exact e1
   have z:=hv x hm
   rcases e3 with w | w | w <;> (rw [z] at w; cases w)
 | ret v=>exact q
 | brk=>exact q
 | cont=>exact q
noncomputable def Nest (K:PySem.W.Frag) (g:Gm) (G H:Hp) (σ:St) (Δ:Evt) (cs:List (Addr × HO)) (ods:List OD):Prop:=
 (cs.map (·.1)).Nodup/\Paired (fun (c:Addr × HO) (od:OD)=>OwnRep K G c.2 od) cs ods/\∀ c ∈ cs,H c.1=some c.2/\G c.1=none/\g.Hz c.1=none/\g.Xo c.1=none/\∀ (i:Nat) x od',Δ[i]? = some x->x.od=some od' -> σ[i]? ≠ some (some (.ref c.1))
noncomputable def JN (K:PySem.W.Frag) (t:TE) (Δ:Evt) (P:List OD->Evt->Prop):Prop:=
 ∀ g G H σ Q,Ok K g G H σ Δ -> (∀ acc cs ods G' H' Δ',Ok K g G' H' σ Δ' -> Same G G' -> Rep K G' (.ref acc) (.lst (cs.map fun (c:Addr × HO)=>D.adr c.1))->g.Hz acc=none->Nest K g G' H' σ Δ' cs ods->P ods Δ' -> Q (.ref acc) H')->t σ H Q
section
variable {K:PySem.W.Frag} {Δ:Evt}
noncomputable def cellAt (cs:List (Addr × HO)) (b:Addr):Option HO:=(cs.find? fun c=>decide (c.1=b)).map (·.2)
theorem Zco {cs:List (Addr × HO)} {b:Addr}:cellAt cs b=none ↔ ∀ c ∈ cs,c.1 ≠ b:=by
 unfold cellAt
 rw [Option.map_eq_none_iff,List.find?_eq_none]
 constructor
 ·intro h c hc e; exact h c hc (decide_eq_true e)
 ·intro h c hc e; exact h c hc (of_decide_eq_true e)
theorem Zeg {cs:List (Addr × HO)} (nd:(cs.map (·.1)).Nodup) {c:Addr × HO} (hc:c ∈ cs):cellAt cs c.1=some c.2:=by
 induction cs with
 | nil=>cases hc
 | cons d r ih=>
  rw [Wa1,Wbz] at nd
  unfold cellAt
  rcases Wa5.mp hc with e | hc
  ·subst e; simp
  ·have hne:d.1 ≠ c.1:=fun e=>nd.1 (by rw [e]; exact Wb6.mpr ⟨c,hc,rfl⟩)
   rw [List.find?_cons_of_neg (by simpa using hne)]
   exact ih nd.2 hc
open Classical in
noncomputable def asideN (g:Gm) (sel:List Nat) (σ:St) (Δ:Evt) (H:Hp) (acc:Addr) (cs:List (Addr × HO)):Hp:=fun b=>
 if b=acc then some (.lst (cs.map fun c=>V.ref c.1)) else match cellAt cs b with
  | some o=>some o
  | none=>if ∃ (i:Nat) (x:Slot) (od:OD),Δ[i]? = some x/\x.od=some od/\i ∉ sel /\ σ[i]? = some (some (.ref b)) then H b else g.Xo b
theorem Zb4 {g:Gm} {sel:List Nat} {σ:St} {Δ:Evt} {H:Hp} {acc:Addr} {cs:List (Addr × HO)}:asideN g sel σ Δ H acc cs acc=some (.lst (cs.map fun c=>V.ref c.1)):=by unfold asideN; rw [if_pos rfl]
theorem Zbq {g:Gm} {sel:List Nat} {σ:St} {Δ:Evt} {H:Hp} {acc b:Addr} {o:HO} {cs:List (Addr × HO)} (hb:b ≠ acc) (e:cellAt cs b=some o):asideN g sel σ Δ H acc cs b=some o:=by unfold asideN; rw [if_neg hb,e]
theorem Zb2 {g:Gm} {sel:List Nat} {σ:St} {Δ:Evt} {H:Hp} {acc b:Addr} {cs:List (Addr × HO)} (hb:b ≠ acc) (e:cellAt cs b=none) (hx:∃ (i:Nat) (x:Slot) (od:OD),Δ[i]? = some x/\x.od=some od/\i ∉ sel /\ σ[i]? = some (some (.ref b))):asideN g sel σ Δ H acc cs b=H b:=by
 unfold asideN; rw [if_neg hb,e]; exact if_pos hx
theorem Zbr {g:Gm} {sel:List Nat} {σ:St} {Δ:Evt} {H:Hp} {acc b:Addr} {cs:List (Addr × HO)} (hb:b ≠ acc) (e:cellAt cs b=none) (hx:¬ ∃ (i:Nat) (x:Slot) (od:OD),Δ[i]? = some x/\x.od=some od/\i ∉ sel /\ σ[i]? = some (some (.ref b))):asideN g sel σ Δ H acc cs b=g.Xo b:=by
 unfold asideN; rw [if_neg hb,e]; exact if_neg hx
theorem Zlm {n:Nat} {sel:List Nat} {wi:TI} {t:TG} {tc:TT} {te:TE} {P:List OD->Evt->Prop} (hsel:sel.Nodup)
  (h:JI K wi Δ fun ds Δ1=>ds.length < sizeLine/\∃ I:Nat->List OD->Evt->Prop,I 0 [] (compD n sel Δ1) ∧
   (∀ i d ys Δ2,ds[i]? = some d->I i ys Δ2->JGn K n t d Δ2 fun Δ3=>JT K tc Δ3 fun b Δ4=>if b=true then JO K te Δ4 fun e Δ5=>I (i + 1) (ys ++ [e]) Δ5 else I (i + 1) ys Δ4) ∧
   ∀ ys Δ2,I ds.length ys Δ2->P ys (backD n sel Δ2 0 Δ1)):JN K (tComp n sel wi t tc te) Δ P:=fun g G H σ Q k c=>
 h g G H σ _ k fun J ds G1 H1 Δ1 k1 s1 it ⟨hz,I,h0,ht,he⟩ acc hacc=>by
  have nacc:∀ (i:Nat) x od,Δ1[i]? = some x->x.od=some od -> σ[i]? ≠ some (some (.ref acc)):=fun i x od e1 e2 e3=>by
   obtain ⟨a,o,w1,w2,_⟩:=k1.own i x od e1 e2
   rw [e3] at w1; cases w1
   rw [hacc] at w2; cases w2
  let Wd:Nat->St->Hp->Prop:=fun i σ' H'=>i<=ds.length/\(∀ j,n<=j -> σ'[j]? = (compSt n sel σ)[j]?)/\∃ G ys cs Δi,cs.length<=i/\(cs.map (·.1)).Nodup/\(∀ c ∈ cs,c.1 ≠ acc/\g.Hz c.1=none/\g.Xo c.1=none/\∀ (i:Nat) x od,Δ1[i]? = some x->x.od=some od->i ∉ sel -> σ[i]? ≠ some (some (.ref c.1)))/\Paired (fun (c:Addr × HO) (od:OD)=>OwnRep K G c.2 od) cs ys ∧
   Ok K ⟨g.B,G1,g.Hz,asideN g sel σ Δ1 H1 acc cs⟩ G H' σ' Δi/\I i ys Δi
  refine ⟨fun i m σ' H'=>m=ds.length - i/\Wd i σ' H',⟨ds.length,by simp,Nat.zero_le _,fun _ _=>rfl,G1,[],[],compD n sel Δ1,Waj _,List.nodup_nil,fun c hc=>(nomatch hc),.nil,?_,h0⟩,?_⟩
  ·refine Zei hsel k1 hacc fun b o e=>?_
   have e:asideN g sel σ Δ1 H1 acc [] b=some o:=e
   by_cases hb:b=acc
   ·subst hb; rw [Zb4] at e; cases e; exact .inl ⟨rfl,rfl⟩
   ·by_cases hx:∃ (i:Nat) (x:Slot) (od:OD),Δ1[i]? = some x/\x.od=some od/\i ∉ sel /\ σ[i]? = some (some (.ref b))
    ·rw [Zb2 hb rfl hx] at e; exact .inr ⟨hb,.inl ⟨hx,e⟩⟩
    ·rw [Zbr hb rfl hx] at e; exact .inr ⟨hb,.inr e⟩
  ·rintro i m σ2 H2 ⟨rfl,hi,hσ,G2,ys,cs,Δ2,hy,nd,hcs,ry,k2,h2⟩
   have s2:Same G1 G2:=k2.sub
   obtain ⟨stop,go⟩:=it G2 H2 s2 k2.live
   by_cases hlt:i < ds.length
   ·obtain ⟨g1,g2⟩:=go i _ (Wac hlt)
    refine .inr ⟨g1,fun σ' H'=>Wd (i + 1) σ' H',fun σ' H' p'=>⟨ds.length - (i + 1),by omega,rfl,p'⟩,fun x H3 y=>?_⟩
    obtain ⟨G3,a1,a2,a3,a4⟩:=g2 x H3 y
    have k3:=k2.grow a1 a2 a3
    have hG3:∀ b o,G3 b=some o->(g.Hz b=none\/G1 b=some o):=fun b o q=>(k3.frz b o q).2
    have k3':Ok K ⟨g.B,G3,g.Hz,asideN g sel σ Δ1 H1 acc cs⟩ G3 H3 σ2 Δ2:=⟨k3.same,k3.lent,Same.refl _,fun b o q=>⟨(k3.frz b o q).1,.inr q⟩,k3.ext,k3.len,k3.val,k3.own,k3.dis⟩
    have ry3:Paired (fun (c:Addr × HO) (od:OD)=>OwnRep K G3 c.2 od) cs ys:=Paired.mapP ry fun _ _ z=>z.mono a1
    have s13:Same G1 G3:=s2.trans a1
    refine ht i _ ys Δ2 (Wac hlt) h2 ⟨g.B,G3,g.Hz,asideN g sel σ Δ1 H1 acc cs⟩ G3 H3 σ2 x _ k3' a4 fun σ4 G4 H4 Δ4 k4 s4 e4 p4=>?_
    have hσ4:∀ j,n<=j -> σ4[j]? = (compSt n sel σ)[j]?:=fun j hj=>(e4 j hj).trans (hσ j hj)
    refine p4 _ G4 H4 σ4 _ k4 fun b G5 H5 Δ5 k5 s5 p5=>?_
    cases b with
    | false=>exact ⟨hlt,hσ4,G5,ys,cs,Δ5,by omega,nd,hcs,Paired.mapP ry3 fun _ _ z=>z.mono (s4.trans s5),k5.base s13 hG3,p5⟩
    | true=>
     refine (show JO K te Δ5 _ from p5) _ G5 H5 σ4 _ k5 fun a od G6 H6 Δ6 k6 s6 pd p6=>?_
     have ry6:Paired (fun (c:Addr × HO) (od:OD)=>OwnRep K G6 c.2 od) cs ys:=Paired.mapP ry3 fun _ _ z=>z.mono (s4.trans (s5.trans s6))
     obtain ⟨b1,b2,b3⟩:=k6.ext acc _ Zb4
     obtain ⟨oa,d1,d2,d3,d4,d5,d6⟩:=pd
     have d5:asideN g sel σ Δ1 H1 acc cs a=none:=d5
     have hane:a ≠ acc:=by intro z; subst z; rw [Zb4] at d5; cases d5
     have hac:cellAt cs a=none:=by
      cases q:cellAt cs a with
      | none=>rfl
      | some o=>rw [Zbq hane q] at d5; cases d5
     have hax:∀ (i:Nat) x od,Δ1[i]? = some x->x.od=some od->i ∉ sel -> σ[i]? ≠ some (some (.ref a)):=fun i x od e1 e2 e3 e4=>by
      rw [Zb2 hane hac ⟨i,x,od,e1,e2,e3,e4⟩] at d5
      obtain ⟨a',o',w1,w2,_⟩:=k1.own i x od e1 e2
      rw [e4] at w1; cases w1
      rw [d5] at w2; cases w2
     have hagx:g.Xo a=none:=by
      rw [Zbr hane hac (fun ⟨i,x,od,e1,e2,e3,e4⟩=>hax i x od e1 e2 e3 e4)] at d5; exact d5
     have hnm:=Zco.mp hac
     refine ⟨cs.map fun c=>V.ref c.1,b1,by rw [Waa]; omega,hlt,hσ4,G6,ys ++ [od],cs ++ [(a,oa)],Δ6,by rw [Wai,Way]; omega,?_,fun c hc=>?_,Paired.snoc ry6 d2,?_,p6⟩
     ·rw [Wa9]
      refine List.nodup_append.mpr ⟨nd,by simp,fun x hx y hy=>?_⟩
      rw [List.map_singleton,Wbb] at hy
      subst hy
      obtain ⟨c,hc,rfl⟩:=Wb6.mp hx
      exact hnm c hc
     ·rcases Wbr.mp hc with hc | hc
      ·exact hcs c hc
      ·rw [Wbb.mp hc]; exact ⟨hane,d4,hagx,hax⟩
     ·have k7:=k6.base s13 hG3
      have nd':((cs ++ [(a,oa)]).map (·.1)).Nodup:=by
       rw [Wa9]
       refine List.nodup_append.mpr ⟨nd,by simp,fun x hx y hy=>?_⟩
       rw [List.map_singleton,Wbb] at hy
       subst hy
       obtain ⟨c,hc,rfl⟩:=Wb6.mp hx
       exact hnm c hc
      have er:(cs ++ [(a,oa)]).map (fun c=>V.ref c.1)=(cs.map fun c=>V.ref c.1) ++ [V.ref a]:=by simp
      have oldH:∀ b o,b ≠ acc->H6 b=some o->(upd H6 acc (.lst ((cs.map fun c=>V.ref c.1) ++ [V.ref a]))) b=some o:=fun b o hb e=>by rw [Zas hb]; exact e
      refine ⟨fun b o hb e=>?_,fun b hb=>?_,k7.sub,fun b o e=>?_,fun b o e=>?_,k7.len,k7.val,fun i x od e1 e2=>?_,k7.dis⟩
      ·have hne:b ≠ acc:=by
        intro z; subst z
        have e:g.Hz b=some o:=e
        rw [k1.there hacc] at e; cases e
       exact oldH b o hne (k7.same b o hb e)
      ·by_cases hne:b=acc
       ·subst hne; rw [Zao]; intro z; cases z
       ·rw [Zas hne]; exact k7.lent b hb
      ·have hne:b ≠ acc:=by intro z; subst z; rw [b2] at e; cases e
       exact ⟨oldH b o hne (k7.frz b o e).1,(k7.frz b o e).2⟩
      ·have e:asideN g sel σ Δ1 H1 acc (cs ++ [(a,oa)]) b=some o:=e
       by_cases hne:b=acc
       ·subst hne
        rw [Zb4,er] at e
        cases e
        exact ⟨Zao,b2,b3⟩
       ·by_cases hba:b=a
        ·subst hba
         rw [Zbq hne (Zeg nd' (c:=(b,oa)) (War _ (Wbb.mpr rfl)))] at e
         cases e
         exact ⟨oldH b _ hne d1,d3,d6⟩
        ·have ec:cellAt (cs ++ [(a,oa)]) b=cellAt cs b:=by
          unfold cellAt
          rw [List.find?_append]
          cases (cs.find? fun c=>decide (c.1=b)) with
          | some c=>rfl
          | none=>
           rw [List.find?_cons_of_neg (by simpa using Ne.symm hba)]
           rfl
         have e':asideN g sel σ Δ1 H1 acc cs b=some o:=by
          cases q:cellAt cs b with
          | some o'=>rw [Zbq hne (ec.trans q)] at e; rw [Zbq hne q]; exact e
          | none=>
           by_cases hx:∃ (i:Nat) (x:Slot) (od:OD),Δ1[i]? = some x/\x.od=some od/\i ∉ sel /\ σ[i]? = some (some (.ref b))
           ·rw [Zb2 hne (ec.trans q) hx] at e; rw [Zb2 hne q hx]; exact e
           ·rw [Zbr hne (ec.trans q) hx] at e; rw [Zbr hne q hx]; exact e
         obtain ⟨w1,w2,w3⟩:=k7.ext b o e'
         exact ⟨oldH b o hne w1,w2,w3⟩
      ·obtain ⟨a',o,w1,w2,w3,w4,w5⟩:=k7.own i x od e1 e2
       have hne:a' ≠ acc:=by intro z; subst z; exact b3 i x od e1 e2 w1
       exact ⟨a',o,w1,oldH a' o hne w2,w3,w4,w5⟩
   ·have e:i=ds.length:=by omega
    subst e
    refine .inl ⟨stop,?_⟩
    obtain ⟨b1,b2,b3⟩:=k2.ext acc _ Zb4
    have src:=Zev (Δ1:=Δ1) (Δ2:=Δ2) hσ
    have k9:Ok K g G2 H2 σ (backD n sel Δ2 0 Δ1):=Zdx k1 hacc k2 hσ (fun b o hb hx e=>by
      show asideN g sel σ Δ1 H1 acc cs b=_
      rw [Zb2 hb (Zco.mpr fun c hc z=>?_) hx]
      ·exact e
      ·obtain ⟨i0,x0,od0,f1,f2,f3,f4⟩:=hx
       exact (hcs c hc).2.2.2 i0 x0 od0 f1 f2 f3 (by rw [z]; exact f4)) (fun b o hb hx e=>by
      show asideN g sel σ Δ1 H1 acc cs b=_
      rw [Zbr hb (Zco.mpr fun c hc z=>?_) hx]
      ·exact e
      ·have:=(hcs c hc).2.2.1; rw [z,e] at this; cases this)
    -- the outer list is frozen
    have nslot:∀ (i:Nat) y od,(backD n sel Δ2 0 Δ1)[i]? = some y->y.od=some od -> σ[i]? ≠ some (some (.ref acc)):=fun i y od e1 e2=>by
     obtain ⟨x',od1,f1,f2,_⟩:=src i y od e1 e2
     exact nacc i x' od1 f1 f2
    have refs:∀ {G:Hp} (l:List (Addr × HO)),Reps K G (l.map fun c=>V.ref c.1) (l.map fun c=>D.adr c.1):=fun {G} l=>by
     induction l with
     | nil=>exact .nil
     | cons c r ih=>exact .cons (.adr _) ih
    have gX:g.Xo acc=none:=by
     cases q:g.Xo acc with
     | none=>rfl
     | some u=>have z:=(k1.ext acc u q).1; rw [hacc] at z; cases z
    obtain ⟨kf,sf,rf⟩:=k9.freeze (a:=acc) (ds:=cs.map fun (c:Addr × HO)=>D.adr c.1) (vs:=cs.map fun (c:Addr × HO)=>V.ref c.1) ⟨_,b1,(show Reps K G2 (cs.map fun (c:Addr × HO)=>V.ref c.1) (cs.map fun (c:Addr × HO)=>D.adr c.1) from refs cs),b2,k1.there hacc,gX,nslot⟩ b1
    refine c acc cs ys _ H2 _ kf (s1.trans (s2.trans sf)) rf (k1.there hacc) ⟨nd,Paired.mapP ry fun _ _ z=>z.mono sf,fun cc hc=>?_⟩ (he ys Δ2 h2)
    obtain ⟨f1,f2,f3,f4⟩:=hcs cc hc
    obtain ⟨u1,u2,u3⟩:=k2.ext cc.1 cc.2 (Zbq f1 (Zeg nd hc))
    refine ⟨u1,by rw [Zas f1]; exact u2,f2,f3,fun i y od e1 e2 e3=>?_⟩
    obtain ⟨x,od',w1,w2,w3⟩:=src i y od e1 e2
    rcases w3 with ⟨w3,w4⟩ | ⟨j,w3,w4,w5⟩
    ·exact f4 i x od' w1 w2 w4 e3
    ·exact u3 (n + j) y od w4 e2 (by rw [w5,e3]; rfl)
noncomputable def putN:Nat->List (Addr × OD)->Evt->Evt
 | _,[],Δ=>Δ
 | b,c :: r,Δ=>putN (b + 1) r (Δ.set b (.ownA c.1 c.2))
noncomputable def putS:Nat->List Addr->St->St
 | _,[],σ=>σ
 | b,a :: r,σ=>putS (b + 1) r (σ.set b (some (.ref a)))
theorem Zgs:∀ (as:List Addr) (b:Nat) (σ:St),(putS b as σ).length = σ.length
 | [],_,_=>rfl
 | a :: r,b,σ=>by rw [putS,Zgs r (b + 1),Wb0]
theorem Zee:∀ (as:List Addr) (b:Nat) (σ:St) (i:Nat),i < b->(putS b as σ)[i]? = σ[i]?
 | [],_,_,_,_=>rfl
 | a :: r,b,σ,i,h=>by rw [putS,Zee r (b + 1) _ i (by omega),Wag (by omega)]
theorem Ok.setOwnA {g:Gm} {G H:Hp} {σ:St} (k:Ok K g G H σ Δ) {a:Addr} {od:OD} {i:Nat} (hi:i < Δ.length) (p:Pend K g G H σ Δ a od):Ok K g G H (σ.set i (some (.ref a))) (Δ.set i (.ownA a od)):=by
 have k1:=k.setOwn hi p
 obtain ⟨o,p1,p2,p3,p4,p5,p6⟩:=p
 have hs:i < σ.length:=by rw [<- k.len]; exact hi
 have old:∀ (j:Nat) x,j ≠ i->(Δ.set i (.ownA a od))[j]? = some x->(Δ.set i (.own od))[j]? = some x:=fun j x hj e=>by
  rw [Wag (Ne.symm hj)] at e ⊢; exact e
 have cv:∀ (j:Nat) x od',(Δ.set i (.ownA a od))[j]? = some x->x.od=some od' -> ∃ y,(Δ.set i (.own od))[j]? = some y/\y.od=some od':=fun j x od' e1 e2=>by
  by_cases hj:j=i
  ·subst hj
   rw [Waf hi] at e1
   cases e1; cases e2
   exact ⟨.own od,Waf hi,rfl⟩
  ·exact ⟨x,old j x hj e1,e2⟩
 refine ⟨k1.same,k1.lent,k1.sub,k1.frz,fun b u e=>?_,by simp [k.len],fun j d e=>?_,fun j x od' e1 e2=>?_,fun j l x y od1 od2 c e1 e2 e3 e4 e5 e6=>?_⟩
 ·obtain ⟨h1,h2,h3⟩:=k1.ext b u e
  refine ⟨h1,h2,fun j x od' e1 e2=>?_⟩
  obtain ⟨y,f1,f2⟩:=cv j x od' e1 e2
  exact h3 j y od' f1 f2
 ·by_cases hj:j=i
  ·subst hj
   rw [Waf hi] at e
   cases e
  ·exact k1.val j d (old j _ hj e)
 ·by_cases hj:j=i
  ·subst hj
   rw [Waf hi] at e1
   cases e1; cases e2
   exact ⟨a,o,Waf hs,p1,p2,p3,rfl,p4⟩
  ·exact k1.own j x od' (old j x hj e1) e2
 ·obtain ⟨x',f1,f2⟩:=cv j x od1 e1 e2
  obtain ⟨y',f3,f4⟩:=cv l y od2 e3 e4
  exact k1.dis j l x' y' od1 od2 c f1 f2 f3 f4 e5 e6
theorem Ok.putN {g:Gm} {G H:Hp}:∀ (cs:List (Addr × HO)) (ods:List OD) (b:Nat) (σ:St) (Δ:Evt),Ok K g G H σ Δ -> b + ods.length <= Δ.length->Nest K g G H σ Δ cs ods →
  Ok K g G H (putS b (cs.map (·.1)) σ) (L2.putN b ((cs.map (·.1)).zip ods) Δ)
 | [],[],_,_,_,k,_,_=>k
 | [],_ :: _,_,_,_,_,_,n=>by cases n.2.1
 | _ :: _,[],_,_,_,_,_,n=>by cases n.2.1
 | c :: cs,od :: ods,b,σ,Δ,k,hl,⟨nd,pr,al⟩=>by
  cases pr with
  | cons r t=>
   obtain ⟨h1,h2,h3,h4,h5⟩:=al c Wa8
   rw [Wa1,Wbz] at nd
   have hb:b < Δ.length:=by rw [Wao] at hl; omega
   have k1:=k.setOwnA hb ⟨c.2,h1,r,h2,h3,h4,h5⟩
   refine Ok.putN cs ods (b + 1) _ _ k1 (by rw [Wb0]; rw [Wao] at hl; omega) ⟨nd.2,t,fun d hd=>?_⟩
   obtain ⟨f1,f2,f3,f4,f5⟩:=al d (Waq _ hd)
   have hne:d.1 ≠ c.1:=fun e=>nd.1 (by rw [<- e]; exact Wb6.mpr ⟨d,hd,rfl⟩)
   refine ⟨f1,f2,f3,f4,fun j x od' e1 e2=>?_⟩
   by_cases hj:j=b
   ·subst hj
    rw [Waf (by rw [<- k.len]; exact hb)]
    intro z
    have:c.1=d.1:=by
     have z1:=Wat.inj (Wat.inj z)
     injection z1
    exact hne this.symm
   ·rw [Wag (Ne.symm hj)] at e1 ⊢
    exact f5 j x od' e1 e2
theorem Zia:∀ (l:List (Addr × OD)) (R T:Evt) (m:Nat),l.length<=m->L2.putN R.length l (R ++ Wab m Slot.any ++ T)=R ++ l.map (fun c=>Slot.ownA c.1 c.2) ++ Wab (m - l.length) Slot.any ++ T
 | [],R,T,m,_=>by simp [L2.putN]
 | c :: r,R,T,m,h=>by
  obtain ⟨m',rfl⟩:∃ m',m=m' + 1:=⟨m - 1,by rw [Wao] at h; omega⟩
  have e:(R ++ Wab (m' + 1) Slot.any ++ T).set R.length (.ownA c.1 c.2)=(R ++ [.ownA c.1 c.2]) ++ Wab m' Slot.any ++ T:=by
   rw [Wce]
   simp [List.set_append_right]
  rw [L2.putN,e]
  have:=Zia r (R ++ [.ownA c.1 c.2]) T m' (by rw [Wao] at h; omega)
  rw [Wai,Way] at this
  rw [this]
  simp
theorem Zlc {te:TE} {i base:Nat} {nx bk ct:Evt->Prop} {rt:D->Evt->Prop} {ro:OD->Evt->Prop}
  (h:JN K te Δ fun ods Δ1=>i < base/\base + ods.length <= Δ1.length/\∀ as:List Addr,as.length=ods.length->as.Nodup->nx (L2.putN base (as.zip ods) (Δ1.set i (.val (.lst (as.map D.adr)))))) :
  JS K (tGhost base (tAsg te (gName i))) Δ ⟨nx,rt,bk,ct,ro⟩:=fun g G H σ E k c=>
 h g G H σ _ k fun acc cs ods G1 H1 Δ1 k1 s1 rr _ nn hq_=>by
  obtain ⟨hi,hb,p⟩:=hq_
  have hl:cs.length=ods.length:=Paired.length nn.2.1
  have e0:(cs.map fun c=>D.adr c.1)=(cs.map (·.1)).map D.adr:=by rw [Wax]; rfl
  have k2:=k1.setVal' i rr
  have n2:Nest K g G1 H1 (σ.set i (some (.ref acc))) (Δ1.set i (.val (.lst (cs.map fun c=>D.adr c.1)))) cs ods:=by
   obtain ⟨nd,pr,al⟩:=nn
   refine ⟨nd,pr,fun d hd=>?_⟩
   obtain ⟨f1,f2,f3,f4,f5⟩:=al d hd
   refine ⟨f1,f2,f3,f4,fun j x od' e1 e2=>?_⟩
   by_cases hj:j=i
   ·subst hj
    by_cases hlt:j < Δ1.length
    ·rw [Waf hlt] at e1; cases e1; cases e2
    ·rw [Wcc (by rw [Wb0]; omega)] at e1; cases e1
   ·rw [Wag (Ne.symm hj)] at e1 ⊢
    exact f5 j x od' e1 e2
  have k3:=Ok.putN cs ods base _ _ k2 (by rw [Wb0]; exact hb) n2
  refine ⟨putS base (cs.map (·.1)) (σ.set i (some (.ref acc))),Zgs _ _ _,fun j hj=>Zee _ _ _ j hj,?_⟩
  rw [e0] at k3
  exact c.nx _ G1 H1 _ k3 (p (cs.map (·.1)) (by rw [Waa,hl]) nn.1)
theorem Zi8 {n j:Nat} {a:Addr} {ds:List D} {P:D->Evt->Prop} (hx:Δ[n]? = some (.val (.adr a))) (hj:Δ[j]? = some (.ownA a (.lst ds))) (p:P (.int ds.length) Δ):JE K (tCB (rLenU K) (tCons (tVar n) tNil)) Δ P:=fun g G H σ Q k c=>by
 obtain ⟨v,h1,h2⟩:=k.val n _ hx
 cases h2
 obtain ⟨a',o,w1,w2,w3,w4,w5⟩:=k.own j _ _ hj rfl
 obtain ⟨rfl,_⟩:=w5
 cases o with
 | lst vs=>
  have w3:Reps K G vs ds:=w3
  refine ⟨_,h1,.inl ⟨_,vs,rfl,.inl (SqL.of w2),?_⟩⟩
  rw [w3.length]; exact c _ _ G H Δ k (Same.refl _) (.int _) p
 | _=>exact absurd w3 (fun z=>z)
theorem Zmq {n:Nat} {t1 t2:TE} {a:Addr} {j0:Nat} {ds0:List D} {nx bk ct:Evt->Prop} {rt:D->Evt->Prop} {ro:OD->Evt->Prop} (hx:Δ[n]? = some (.val (.adr a))) (hj0:Δ[j0]? = some (.ownA a (.lst ds0)))
  (h:JE K t1 Δ fun e1 Δ1=>JE K t2 Δ1 fun e2 Δ2=>∃ j i ds,e1=.int i /\ Δ2[j]? = some (.ownA a (.lst ds))/\ds.length < sizeLine /\ -(2 ^ 62)<=i/\i < 2 ^ 62/\nx (Δ2.set j (.ownA a (.lst (ds.take (insI ds.length i) ++ e2 :: ds.drop (insI ds.length i)))))) :
  JS K (tDrop (tBM K "list" rInsert (tVar n) (tCons t1 (tCons t2 tNil)))) Δ ⟨nx,rt,bk,ct,ro⟩:=fun g G H σ E k c=>by
 obtain ⟨v,h1,h2⟩:=k.val n _ hx
 cases h2
 obtain ⟨a',o,w1,w2,w3,w4,w5⟩:=k.own j0 _ _ hj0 rfl
 obtain ⟨rfl,_⟩:=w5
 cases o with
 | lst vs0=>
  refine ⟨_,h1,.inl ⟨rfl,_,SqL.of w2⟩,h g G H σ _ k fun v1 e1 G1 H1 Δ1 k1 s1 r1 p1=>p1 g G1 H1 σ _ k1 fun v2 e2 G2 H2 Δ2 k2 s2 r2 ⟨j,i,ds,q1,q2,q3,q4,q5,p⟩=>?_⟩
  subst q1
  cases r1.inv
  obtain ⟨a2,o2,u1,u2,u3,u4,u5⟩:=k2.own j _ _ q2 rfl
  obtain ⟨rfl,_⟩:=u5
  cases o2 with
  | lst vs=>
   have u3:Reps K G2 vs ds:=u3
   refine ⟨_,vs,i,v2,rfl,rfl,u2,by rw [u3.length]; exact q3,q4,q5,?_⟩
   have k3:=k2.write q2 rfl u1 (show OwnRep K G2 (.lst (vs.take (insI vs.length i) ++ v2 :: vs.drop (insI vs.length i))) (.lst (ds.take (insI ds.length i) ++ e2 :: ds.drop (insI ds.length i))) from by
    rw [u3.length]; exact (u3.take _).append (.cons r2 (u3.drop _)))
   exact c.nx σ G2 _ _ k3 p
  | _=>exact absurd u3 (fun z=>z)
 | _=>exact absurd w3 (fun z=>z)
theorem JS.conv {t:TS} {Δ':Evt} {P:Pst} (hc:∀ g G H σ,Ok K g G H σ Δ -> ∃ G',Same G G' /\ Ok K g G' H σ Δ') (h:JS K t Δ' P):JS K t Δ P:=fun g G H σ E k c=>by
 obtain ⟨G',s,k'⟩:=hc g G H σ k
 exact h g G' H σ E k' c
theorem Ok.freezeA {g:Gm} {G H:Hp} {σ:St} (k:Ok K g G H σ Δ) {i:Nat} {a:Addr} {ds:List D} (h:Δ[i]? = some (.ownA a (.lst ds))):∃ G',Same G G' /\ Ok K g G' H σ (Δ.set i .any)/\Rep K G' (.ref a) (.lst ds):=by
 obtain ⟨a',o,w1,w2,w3,w4,w5⟩:=k.own i _ _ h rfl
 obtain ⟨rfl,w6⟩:=w5
 cases o with
 | lst vs=>
  have pd:Pend K g G H σ (Δ.set i .any) a (.lst ds):=by
   refine ⟨.lst vs,w2,w3,w4,w6,?_,fun j x od' e1 e2 e3=>?_⟩
   ·cases q:g.Xo a with
    | none=>rfl
    | some u=>exact absurd w1 ((k.ext a u q).2.2 i _ _ h rfl)
   ·by_cases hj:j=i
    ·subst hj
     rw [Wb5] at e1
     simp at e1
     obtain ⟨_,e1⟩:=e1
     subst e1
     cases e2
    ·rw [Wag (Ne.symm hj)] at e1
     exact hj (k.dis j i x _ od' _ a e1 e2 h rfl e3 w1)
  obtain ⟨k2,sg,r⟩:=(k.drop i).freeze pd w2
  exact ⟨_,sg,k2,r⟩
 | _=>exact absurd w3 (fun z=>z)
theorem Ok.freezeN {g:Gm} {H:Hp} {σ:St}:∀ (cs:List (Addr × List D)) (R T:Evt) (G:Hp),Ok K g G H σ (R ++ cs.map (fun c=>Slot.ownA c.1 (.lst c.2)) ++ T) →
  ∃ G',Same G G' /\ Ok K g G' H σ (R ++ Wab cs.length .any ++ T)/\∀ c ∈ cs,Rep K G' (.ref c.1) (.lst c.2)
 | [],R,T,G,k=>⟨G,Same.refl _,by simpa using k,fun c hc=>nomatch hc⟩
 | c :: r,R,T,G,k=>by
  have hi:(R ++ (c :: r).map (fun c=>Slot.ownA c.1 (.lst c.2)) ++ T)[R.length]? = some (.ownA c.1 (.lst c.2)):=by simp
  obtain ⟨G1,s1,k1,r1⟩:=k.freezeA hi
  have e:(R ++ (c :: r).map (fun c=>Slot.ownA c.1 (.lst c.2)) ++ T).set R.length .any=(R ++ [.any]) ++ r.map (fun c=>Slot.ownA c.1 (.lst c.2)) ++ T:=by
   simp [List.set_append_right]
  rw [e] at k1
  obtain ⟨G2,s2,k2,r2⟩:=Ok.freezeN r (R ++ [.any]) T G1 k1
  refine ⟨G2,s1.trans s2,?_,fun d hd=>?_⟩
  ·have e2:(R ++ [Slot.any]) ++ Wab r.length Slot.any ++ T=R ++ Wab (c :: r).length Slot.any ++ T:=by
    rw [Wao,Wce]; simp
   rw [e2] at k2; exact k2
  ·rcases Wa5.mp hd with e | hd
   ·subst e; exact r1.mono s2
   ·exact r2 d hd
theorem Ok.thaw {g:Gm} {G H:Hp} {σ:St} {cs:List (Addr × List D)} {R T:Evt} {i:Nat} (k:Ok K g G H σ (R ++ cs.map (fun c=>Slot.ownA c.1 (.lst c.2)) ++ T)) (hi:R[i]? = some (.val (.lst (cs.map fun c=>D.adr c.1)))) :
  ∃ G',Same G G' /\ Ok K g G' H σ (R.set i (.val (.lst (cs.map fun c=>D.lst c.2))) ++ Wab cs.length .any ++ T):=by
 have hlt:i < R.length:=(Wak.mp hi).1
 obtain ⟨v,h1,h2⟩:=k.val i _ (by rw [Wci,Wa3 hlt]; exact hi)
 obtain ⟨G1,s1,k1,r1⟩:=Ok.freezeN cs R T G k
 refine ⟨G1,s1,?_⟩
 have rr:Rep K G1 v (.lst (cs.map fun c=>D.lst c.2)):=by
  cases h2 with
  | lst ha rs=>
   refine .lst (s1 _ _ ha) ?_
   have key:∀ (l:List (Addr × List D)) (vs:List V),(∀ c ∈ l,Rep K G1 (.ref c.1) (.lst c.2))->Reps K G vs (l.map fun c=>D.adr c.1)->Reps K G1 vs (l.map fun c=>D.lst c.2):=by
    intro l
    induction l with
    | nil=>intro vs _ h; cases h; exact .nil
    | cons c r ih=>
     intro vs hc h
     cases h with
     | cons h1 h2=>
      cases h1
      exact .cons (hc c Wa8) (ih _ (fun d hd=>hc d (Waq _ hd)) h2)
   exact key cs _ r1 rs
 have k2:=k1.setVal' i rr
 have e1:σ.set i (some v) = σ:=by
  apply Wbw
  intro j
  by_cases hj:j=i
  ·subst hj; rw [Waf (by obtain ⟨z,_⟩:=Wak.mp h1; exact z),h1]
  ·rw [Wag (Ne.symm hj)]
 rw [e1] at k2
 have e2:(R ++ Wab cs.length Slot.any ++ T).set i (.val (.lst (cs.map fun c=>D.lst c.2)))=R.set i (.val (.lst (cs.map fun c=>D.lst c.2))) ++ Wab cs.length Slot.any ++ T:=by
  rw [Wci,Wci,List.set_append_left _ _ hlt]
 rw [e2] at k2
 exact k2
end
end L2
set_option Elab.async false
set_option linter.all false
set_option maxRecDepth 100000
namespace L2
open PySem PySem.Spec PyProof.Rows
section
variable {X:Cx} (K:PySem.W.Frag)
theorem ixK (hu:X.A.units + 1 < cLine) (hK:X.K=K:=by rfl):IxR X (rIxU K):=hK ▸ ixU hu
theorem slK (hK:X.K=K:=by rfl):SlR X (rSlU K):=hK ▸ slU
theorem addK (hK:X.K=K:=by rfl):OpR X (binaryOp .Add) (rAddU K):=hK ▸ Zmc
theorem lenK (hK:X.K=K:=by rfl):CallR X (.builtin "len") (rLenU K):=hK ▸ Zh5
noncomputable def rTup (K:PySem.W.Frag):List V->Hp->VK->Prop:=fun xs H Q=>∃ p ys,xs=[.ref p]/\((SqL K H p ys/\∀ l,H l=none->Q (.ref l) (upd H l (.tup ys)))\/(SqT K H p ys/\Q (.ref p) H))
theorem tupK (hK:X.K=K:=by rfl):CallR X (.type "tuple") (rTup K):=hK ▸ Zez
noncomputable def rLst (K:PySem.W.Frag):List V->Hp->VK->Prop:=fun xs H Q=>∃ p ys,xs=[.ref p]/\(SqL K H p ys\/SqT K H p ys)/\∀ l,H l=none->Q (.ref l) (upd H l (.lst ys))
theorem seqK {tg l:Expr} {tl:TE} (hl:PE X l tl) (hK:X.K=K:=by rfl):PI X tg l (iSeq K tl):=hK ▸ Zno hl
theorem truK {a:Expr} {ta:TE} (ha:PE X a ta) (he:∀ whole,isTrue a X.env whole=(do let v ← whole; standAt a.pos; holding [v] (truthy v))) (hK:X.K=K:=by rfl):PT X a (tTru K ta):=hK ▸ Zn5 ha he
theorem gtupK {es:List Expr} {k:Nat} {t:TGs} {n:Nat} {pos:Pos} (hc:X.calm=true) (h:PGs X es t)
  (hn:(assignEach es X.env).length=n:=by rfl) (hst:(assignEach es X.env).findIdx? (·.1)=none:=by rfl) (hK:X.K=K:=by rfl):PG X (.Tuple es k pos) (gTup K n t):=hK ▸ Znz hc h hn hst
variable {o e:Expr} {es:List Expr} {to:TE} {t:TA} {name:Str} {apos cpos:Pos} {T id:String} {r:V->List V->Hp->VK->Prop}
theorem bmK (pa:PlainAttrs T) (slot:PySem.Slot T name id) (hty:typeOf (.builtin id)=pure (.type "method_descriptor")) (hm:MtR X id r) (ho:PE X o to) (ha:PA X (e :: es) t)
  (hbase:attributeBase o name X.env (eval o X.env)=eval o X.env:=by rfl)
  (hfew:((backTo cpos (starEach (e :: es) X.env)).all (fun x=>!x.1) && (backToKw cpos (keywordEach [] X.env)).all (fun x=>x.1.isSome)
   && decide ((e :: es).length + ([]:List Keyword).length + (if ([]:List Keyword).isEmpty then 0 else 1) < 30))=true:=by rfl)
  (hline:(apos.endLine == cpos.line)=true:=by rfl) (hs:starEach (e :: es) X.env=(false,eval e X.env) :: starEach es X.env:=by rfl) (hplain:(backTo cpos (starEach es X.env)).any (·.1)=false:=by rfl) (hK:X.K=K:=by rfl) :
  PE X (.Call (.Attribute o name apos) (e :: es) [] cpos) (tBM K T r to t):=hK ▸ Zoz pa slot hty hm ho ha hbase hfew hline hs hplain
end
section
variable {K:PySem.W.Frag} {Δ:Evt} {P:D->Evt->Prop}
theorem Zcx {ds es:List D} (he:ds=[.lst es]\/ds=[.tup es]) (p:P (.tup es) Δ):JC K (rTup K) ds Δ P:=Zjk he p
theorem Zk7 {ds es:List D} (he:ds=[.lst es]\/ds=[.tup es]) (p:P (.lst es) Δ):JC K (rLst K) ds Δ P:=fun g G H σ Q vs k rs c=>by
 rcases he with he | he <;> subst he
 ·obtain ⟨_,_,rfl,r,t⟩:=rs.inv
  next=>
   cases t.inv
   obtain ⟨_,_,rfl,ha,rs⟩:=r.inv
   next=>
    refine ⟨_,_,rfl,.inl (SqL.of (k.live _ _ ha)),fun l hl=>?_⟩
    obtain ⟨k2,sg⟩:=k.laid hl (.lst _)
    exact c _ _ _ _ Δ k2 sg (.lst Zao (rs.mono sg)) p
 ·obtain ⟨_,_,rfl,r,t⟩:=rs.inv
  next=>
   cases t.inv
   obtain ⟨_,_,rfl,ha,rs⟩:=r.inv
   next=>
    refine ⟨_,_,rfl,.inr (SqT.of (k.live _ _ ha)),fun l hl=>?_⟩
    obtain ⟨k2,sg⟩:=k.laid hl (.lst _)
    exact c _ _ _ _ Δ k2 sg (.lst Zao (rs.mono sg)) p
theorem Zj5 {sel:List Nat} {wi:TI} {tc:TT} {te:TE} {Po:List OD->Evt->Prop} (hsel:sel.Nodup)
  (h:JI K wi Δ fun ds Δ1=>ds.length < sizeLine/\∃ (p:D->Bool) (f:D->OD),
   (∀ (i:Nat) d,ds[i]? = some d->JT K tc (.val d :: fixD sel Δ1) fun b Δ4=>b=p d/\if b=true then JO K te Δ4 fun e Δ5=>e=f d/\∃ x,Δ5=x :: fixD sel Δ1 else ∃ x,Δ4=x :: fixD sel Δ1) ∧
   Po ((ds.filter p).map f) Δ1):JN K (tComp 1 sel wi (gName 0) tc te) Δ Po:=by
 refine Zlm hsel fun g G H σ R k c=>h g G H σ R k fun J ds G' H' Δ' k' s' it ⟨z,p,f,ht,he⟩=>c J ds G' H' Δ' k' s' it ⟨z,fun i ys Δ=>ys=((ds.take i).filter p).map f/\∃ x,Δ = x :: fixD sel Δ',⟨by simp,.any,rfl⟩,?_,?_⟩
 ·rintro i d ys Δ2 hd ⟨rfl,x,rfl⟩
  have tk:ds.take (i + 1)=ds.take i ++ [d]:=by
   rw [Wch,hd]; rfl
  refine Zdt (by decide) ?_
  intro g G H σ Q k c
  refine ht i d hd g G H σ Q k fun b G1 H1 Δ1 k1 s1 ⟨e1,q⟩=>c b G1 H1 Δ1 k1 s1 ?_
  cases b with
  | true=>
   rw [if_pos rfl] at q ⊢
   intro g G H σ Q k c
   refine q g G H σ Q k fun a od G2 H2 Δ2 k2 s2 pd ⟨e2,x,e3⟩=>c a od G2 H2 Δ2 k2 s2 pd ⟨?_,x,e3⟩
   rw [tk,Wbn,Wa9,Wbm,<- e1,e2]
   rfl
  | false=>
   rw [if_neg Wam] at q ⊢
   obtain ⟨x,e3⟩:=q
   refine ⟨?_,x,e3⟩
   rw [tk,Wbn,Wa9,Wbm,<- e1]
   simp
 ·rintro ys Δ2 ⟨rfl,x,rfl⟩
  rw [Wcj,show (x :: fixD sel Δ')=[x] ++ fixD sel Δ' from rfl,Zci (by simp)]
  exact he
end
end L2
set_option Elab.async false
set_option linter.all false
set_option maxRecDepth 100000
namespace L2
open PySem PySem.Spec PyProof.Rows
noncomputable def fLaw:DSp:=fun ds Post=>∃ ns:List Int,ds=[.scr (ns.map .int)]/\ns.length<=63/\Post (.bl true)
noncomputable def spLaw (K:PySem.W.Frag):Sp:=fun vs H Q _=>∃ (a:Addr) (ns:List Int),vs=[.ref a]/\SqL K H a (ns.map V.int)/\ns.length<=63/\∀ H',Q (.bl true) H'
theorem Zka {K:PySem.W.Frag} {vs:List V} {H:Hp} {Q:VK} {E:XK} (h:spLaw K vs H Q E):spD K fLaw vs H Q E:=by
 obtain ⟨a,ns,rfl,hs,hl,q⟩:=h
 refine ⟨H,[.scr (ns.map .int)],fun d=>d=.bl true,Same.refl _,.cons (.scr hs (Reps.ofInts ns)) .nil,⟨ns,rfl,hl,rfl⟩,fun r H' d sh rr e=>?_⟩
 subst e
 cases rr.inv
 exact q H'
theorem walk_law {l:PySem.W.OpenLaw} {q:Program} {loose:List Str} {XP:(Str->Option Value)->Heap->Prop} {YP:World->Heap->Prop} {d:DefRec} {K:Params->PySem.W.Frag} {k:Nat} {x:Str} (hk:Room k callerA) (hn:l.most=some 63) (hdf:d.params.defaults=[])
  (hY:∀ (w:World) (h:Heap),YP w h->(K w.params).In h)
  (F:∀ (w:World) (mg:Str->Option Value) (fa:Addr) (h:Heap),(K w.params).In h->h.Ns mainGlobals mg->mg d.name=some (.ref fa) →
   ∃ fd:FuncData,(∀ (s:Shared) (u:Value),BindsTo s fd ⟨[u],[]⟩ [(x,u)])/\∀ base:Heap,(K w.params).In base->base.Ns mainGlobals mg->FnOk l.prog w (K w.params) mg base CX0 k fa fd [x] (spD (K w.params) fLaw)) :
  PySem.W.WalkO q loose XP YP l.row.toRowW d [] (fun f vs=>PySem.call f vs):=
 L2.walk_of (n:=63) (k:=k) (x:=x) (CX:=fun _=>CX0) (sp:=fun w=>spLaw (K w.params)) hn (by decide) hdf hk hY
  (fun w mg fa h h1 h2 h3=>by
   obtain ⟨fd,b,f⟩:=F w mg fa h h1 h2 h3
   exact ⟨fd,b,fun base kb nb=>(f base kb nb).imp fun vs H Q E z=>Zka z⟩)
  (fun _ _ a ns hl _ hS=>⟨a,ns,rfl,hS,hl,fun _=>rfl⟩) fun _ _ _ _ _ z=>z
end L2
set_option Elab.async false
set_option linter.all false
set_option maxRecDepth 100000
namespace L2
open PySem PySem.Spec PyProof.Rows
section
variable {prog:Program} {w:World} {A:Around} {E:Value->Shared->Prop} {s:Shared}
end
end L2
set_option Elab.async false
set_option linter.all false
set_option maxRecDepth 100000
namespace L2
open PySem PySem.Spec PyProof.Rows
section
variable {X:Cx}
noncomputable def rIsiU (K:PySem.W.Frag):List V->Hp->VK->Prop:=fun xs H Q=>rIsi K xs H Q\/∃ (x:V) (p:Addr) (ns:List String) (T:String) (b:Bool),xs=[x,.ref p]/\H p=some (.tup (ns.map V.ty))/\TyOf K H x (.type T)/\PySem.W.kitAny K (.type T) (ns.map Value.type)=some b/\Q (.bl b) H
theorem Zg9 {pins:List (Addr × Obj)} {σ:St} {H:Hp} {s:Shared} {x:V} {u t:Value} (I:Inv X pins σ H s) (rx:RelV x u) (ty:TyOf X.K H x t) (nt:∃ T,t=.type T):∃ Hh:Heap->Prop,PySem.W.KitX X.K u t Hh/\Hh s.heap/\u ≠ .builtin "__main__.__loader__#opaque":=by
 cases ty with
 | non=>cases (show u=Value.none from rx); exact ⟨_,PySem.W.kitx_none,True.intro,fun z=>nomatch z⟩
 | bl y=>cases (show u=Value.bool y from rx); exact ⟨_,PySem.W.kitx_bool,True.intro,fun z=>nomatch z⟩
 | int i=>obtain ⟨t,q⟩:=(show ∃ t,u=Value.int i t from rx); cases q; exact ⟨_,PySem.W.kitx_int,True.intro,fun z=>nomatch z⟩
 | str y=>obtain ⟨t,q⟩:=(show ∃ t,u=Value.str y t from rx); cases q; exact ⟨_,PySem.W.kitx_str,True.intro,fun z=>nomatch z⟩
 | flt y=>obtain ⟨t,q⟩:=(show ∃ t,u=Value.float y t from rx); cases q; exact ⟨_,PySem.W.kitx_float,True.intro,fun z=>nomatch z⟩
 | @lst a xs ea=>
  cases (show u=Value.ref a from rx)
  obtain ⟨_,_,n,_,h1⟩:=(show ObjOk X.prog X.w H s.heap a (.lst xs) from I.hok a _ ea)
  exact ⟨_,PySem.W.kitx_list,⟨_,h1,rfl⟩,fun z=>nomatch z⟩
 | @frz a ob xs ea=>
  cases (show u=Value.ref a from rx)
  obtain ⟨_,_,_,n,_,h1⟩:=(show ObjOk X.prog X.w H s.heap a (.frz ob (.lst xs)) from I.hok a _ ea)
  exact ⟨_,PySem.W.kitx_list,⟨_,h1,rfl⟩,fun z=>nomatch z⟩
 | @tup a xs ea=>
  cases (show u=Value.ref a from rx)
  obtain ⟨_,_,_,p⟩:=(show ObjOk X.prog X.w H s.heap a (.tup xs) from I.hok a _ ea)
  obtain ⟨o,h1,⟨h2,_⟩,_⟩:=p
  exact ⟨_,PySem.W.kitx_tuple,⟨o,h1,h2⟩,fun z=>nomatch z⟩
 | @dK a kvs ea=>
  cases (show u=Value.ref a from rx)
  obtain ⟨_,_,vs,_,p⟩:=(show ObjOk X.prog X.w H s.heap a (.dK kvs) from I.hok a _ ea)
  obtain ⟨o,es,ep,h1,h2,_⟩:=p
  exact ⟨_,PySem.W.kitx_dict,⟨o,h1,h2.1⟩,fun z=>nomatch z⟩
 | @dT a kvs ea=>
  cases (show u=Value.ref a from rx)
  obtain ⟨_,_,xs,_,o,es,ep,h1,h2,_⟩:=(show ObjOk X.prog X.w H s.heap a (.dT kvs) from I.hok a _ ea)
  exact ⟨_,PySem.W.kitx_dict,⟨o,h1,h2.1⟩,fun z=>nomatch z⟩
 | @ins a C dx fs ea cl ha hn htk hm=>obtain ⟨T,e⟩:=nt; cases e
theorem isiUK (K:PySem.W.Frag) (hK:X.K=K:=by rfl):CallR X (.builtin "isinstance") (rIsiU K):=by
 subst hK
 refine CallR.or Zfx ?_
 intro pins s σ H xs us Q I r h
 obtain ⟨x,p,ns,T,b,rfl,hp,ty,e,q⟩:=h
 obtain ⟨u,u',rfl,rx,rn⟩:=vals2 r
 cases (show u' = Value.ref p from rn)
 obtain ⟨Hh,Z,hz,hne⟩:=Zg9 I rx ty ⟨T,rfl⟩
 obtain ⟨_,its,rv,o,ho,⟨hc,n,hd⟩,hdd⟩:=I.hok p _ hp
 have hv:∀ (ns:List String) (its:List Value),Vals (ns.map V.ty) its->its=ns.map Value.type:=by
  intro ns
  induction ns with
  | nil=>intro its h; cases h; rfl
  | cons b r ih=>intro its h; cases h with | cons h1 h2=>cases (show _=Value.type b from h1); rw [ih _ h2]; rfl
 have e2:=hv ns its rv
 subst e2
 obtain ⟨cls,dd,data,sl⟩:=o
 simp only at hc hd hdd
 subst hc hd hdd
 exact PySem.W.kia_tup Z I.kIn hz ho e hne fun tk=>⟨.bl b,H,I.tok _,rfl,q⟩
end
section
variable {K:PySem.W.Frag} {Δ:Evt}
theorem Zb6 {d:D} {n T:String} {b:Bool} {P:D->Evt->Prop} (ht:tyD d=some T) (e:∀ K,PySem.W.kitOne K (.type T) (.type n)=some b) (p:P (.bl b) Δ):JC K (rIsiU K) [d,.ty n] Δ P:=fun g G H σ Q vs k rs c=>.inl (Zn2 ht e p g G H σ Q vs k rs c)
end
end L2
set_option Elab.async false
set_option linter.all false
set_option maxRecDepth 100000
namespace L2
open PySem PySem.Spec PyProof.Rows
section
variable {X:Cx}
end
end L2
set_option Elab.async false
set_option linter.all false
set_option maxRecDepth 100000
namespace L2
open PySem PySem.Spec PyProof.Rows PySem.SeqAt
section
variable {X:Cx}
end
theorem Zoy {A:Around} {k:Nat} (hr:Room k A):A.units + 8 < cLine:=Wbh (Wcg (by decide:8<=64) _) hr.units
end L2
set_option Elab.async false
set_option linter.all false
set_option maxRecDepth 100000
namespace L2
open PySem PySem.Spec PyProof.Rows PySem.SeqAt
section
variable {X:Cx}
theorem Zcl:∀ {vs:List Value} {ns:List Int},vs.length=ns.length->(∀ (i:Nat) v,vs[i]? = some v->∃ t,v=.int (ns.getD i 0) t)->IntsAre vs ns
 | [],[],_,_=>.nil
 | [],_ :: _,h,_=>by simp at h
 | _ :: _,[],h,_=>by simp at h
 | v :: vs,n :: ns,h,g=>by
  obtain ⟨t,rfl⟩:=g 0 v rfl
  exact .cons n t (Zcl (by simpa using h) fun i u e=>by simpa using g (i + 1) u (by simpa using e))
end
section
variable {K:PySem.W.Frag} {Δ:Evt} {P:D->Evt->Prop}
theorem Zmb {n:Nat} {t1 t2:TE} {x:Slot} {ds0:List D} {nx bk ct:Evt->Prop} {rt:D->Evt->Prop} {ro:OD->Evt->Prop} (hx:Δ[n]? = some x) (ho:x.od=some (.lst ds0))
  (h:JE K t1 Δ fun e1 Δ1=>JE K t2 Δ1 fun e2 Δ2=>∃ y i ds,e1=.int i /\ Δ2[n]? = some y/\y.od=some (.lst ds)/\ds.length < sizeLine /\ -(2 ^ 62)<=i/\i < 2 ^ 62/\nx (Δ2.set n (y.put (.lst (ds.take (insI ds.length i) ++ e2 :: ds.drop (insI ds.length i)))))) :
  JS K (tDrop (tBM K "list" rInsert (tVar n) (tCons t1 (tCons t2 tNil)))) Δ ⟨nx,rt,bk,ct,ro⟩:=fun g G H σ E k c=>by
 obtain ⟨a,o,h1,h2,h3,h4,h5⟩:=k.own n x _ hx ho
 cases o with
 | lst vs0=>
  refine ⟨.ref a,h1,.inl ⟨rfl,_,SqL.of h2⟩,h g G H σ _ k fun v1 e1 G1 H1 Δ1 k1 s1 r1 p1=>p1 g G1 H1 σ _ k1 fun v2 e2 G2 H2 Δ2 k2 s2 r2 ⟨y,i,ds,q1,q2,q2',q3,q4,q5,p⟩=>?_⟩
  subst q1
  cases r1.inv
  obtain ⟨a2,o2,u1,u2,u3,u4,u5⟩:=k2.own n y _ q2 q2'
  rw [h1] at u1; cases u1
  cases o2 with
  | lst vs=>
   have u3:Reps K G2 vs ds:=u3
   refine ⟨_,vs,i,v2,rfl,rfl,u2,by rw [u3.length]; exact q3,q4,q5,?_⟩
   have k3:=k2.write q2 q2' h1 (show OwnRep K G2 (.lst (vs.take (insI vs.length i) ++ v2 :: vs.drop (insI vs.length i))) (.lst (ds.take (insI ds.length i) ++ e2 :: ds.drop (insI ds.length i))) from by
    rw [u3.length]; exact (u3.take _).append (.cons r2 (u3.drop _)))
   exact c.nx σ G2 _ _ k3 p
  | _=>exact absurd u3 (fun z=>z)
 | _=>exact absurd h3 (fun z=>z)
end
end L2
set_option Elab.async false
set_option linter.all false
set_option maxRecDepth 100000
namespace L2
open PySem PySem.Spec PyProof.Rows PySem.SeqAt
section
variable {prog:Program} {w:World}
end
section
variable {prog:Program} {w:World} {A:Around} {E:Value->Shared->Prop} {s:Shared}
end
end L2
namespace L2
open PySem PySem.Spec PyProof.Rows PySem.SeqAt
end L2
namespace L2
open PySem PySem.Spec PyProof.Rows PySem.SeqAt
section
variable {prog:Program} {w:World} {A:Around} {E:Value->Shared->Prop} {s:Shared}
end
end L2
namespace L2
open PySem PySem.Spec PyProof.Rows PySem.SeqAt
end L2
namespace L2
open PySem PySem.Spec PyProof.Rows PySem.SeqAt
end L2
namespace L2
open PySem PySem.Spec PyProof.Rows PySem.SeqAt
section
variable {K:PySem.W.Frag} {Δ:Evt}
end
end L2
set_option Elab.async false
set_option linter.all false
set_option maxRecDepth 100000
namespace L2
open PySem PySem.Spec PyProof.Rows
section
variable {X:Cx}
end
end L2
set_option Elab.async false
set_option linter.all false
set_option maxRecDepth 100000
namespace L2
open PySem PySem.Spec PyProof.Rows PySem.SeqAt
section
variable {K:PySem.W.Frag} {Δ:Evt} {P:D->Evt->Prop}
end
end L2
set_option Elab.async false
set_option linter.all false
set_option maxRecDepth 100000
namespace L2
open PySem PySem.Spec PyProof.Rows
section
variable {K:PySem.W.Frag} {Δ:Evt} {P:D->Evt->Prop}
theorem Zjs {r r':R2} {ta tb tc:TE} (h:JE K ta Δ fun d Δ1=>JE K tb Δ1 fun e Δ2=>JR2 K r d e Δ2 fun z Δ3=>∃ k,z=.bl k/\if k=true then JE K tc Δ3 fun u Δ4=>JR2 K r' e u Δ4 P else P (.bl false) Δ3):JE K (tChain r r' ta tb tc) Δ P:=fun g G H σ Q k c=>
 h g G H σ _ k fun x d G1 H1 Δ1 k1 s1 r1 p1=>p1 g G1 H1 σ _ k1 fun y e G2 H2 Δ2 k2 s2 r2 p2=>p2 g G2 H2 σ _ x y k2 (r1.mono s2) r2 fun z dz G3 H3 Δ3 k3 s3 r3 hq_=>by
  obtain ⟨b,eb,p3⟩:=hq_
  subst eb
  cases r3.inv
  refine ⟨b,rfl,?_⟩
  cases b with
  | true=>
   rw [if_pos rfl] at p3 ⊢
   exact p3 g G3 H3 σ _ k3 fun u du G4 H4 Δ4 k4 s4 r4 p4=>p4 g G4 H4 σ Q y u k4 (r2.mono (s3.trans s4)) r4 (c.up (s1.trans (s2.trans (s3.trans s4))))
  | false=>
   rw [if_neg Wam] at p3 ⊢
   exact c _ _ G3 H3 Δ3 k3 (s1.trans (s2.trans s3)) (.bl false) p3
theorem Zl4 {b:Bool} (p:P (.int (if b then 1 else 0)) Δ):JC K (fun xs H Q=>(∃ i,xs=[.int i]/\Q (.int i) H)\/∃ k,xs=[.bl k]/\Q (.int (if k then 1 else 0)) H) [.bl b] Δ P:=fun g G H σ Q vs k rs c=>by
 obtain ⟨_,_,rfl,r,t⟩:=rs.inv
 next=>cases t.inv; cases r.inv; exact .inr ⟨b,rfl,c _ _ G H Δ k (Same.refl _) (.int _) p⟩
end
end L2
set_option Elab.async false
set_option linter.all false
set_option maxRecDepth 100000
namespace L2
open PySem PySem.Spec PyProof.Rows
section
variable {K:PySem.W.Frag} {Δ:Evt}
theorem Zh3 {j n:Nat} (h:j < n):seqIndex? (j:Int) n=some j:=by
 unfold seqIndex?
 simp
 omega
end
end L2
set_option Elab.async false
set_option linter.all false
set_option maxRecDepth 100000
namespace L2
open PySem PySem.Spec PyProof.Rows PySem.SeqAt
section
variable {K:PySem.W.Frag} {Δ:Evt} {P:D->Evt->Prop}
end
end L2
set_option Elab.async false
set_option linter.all false
set_option maxRecDepth 100000
namespace L2
open PySem PySem.Spec PyProof.Rows
section
variable {K:PySem.W.Frag} {Δ:Evt}
end
end L2
set_option Elab.async false
set_option linter.all false
set_option maxRecDepth 100000
namespace L2
open PySem PySem.Spec PyProof.Rows
section
variable {X:Cx}
noncomputable def tLR2 (ta:TA):TE:=fun σ H Q=>ta σ H fun vs H1=>∃ (m:Int) (n:Nat),vs=[.int m,.int (m + n)] /\ -1000<=m/\m<=1000/\n<=1000/\∀ l,H1 l=none->Q (.ref l) (upd H1 l (.lst ((Wa7 n).map fun i:Nat=>V.int (m + i))))
theorem Zc1 {a b:Expr} {ta:TA} {p p2 pos pos2:Pos} (hc:X.calm=true) (hgL:Gl X "list") (hmL:X.mg "list" = none) (hgR:Gl X "range") (hmR:X.mg "range" = none) (ha:PA X [a,b] ta) (hs:starEach [a,b] X.env=[(false,eval a X.env),(false,eval b X.env)]:=by rfl) (hs2:starEach [b] X.env=[(false,eval b X.env)]:=by rfl)
  (he:starEach [.Call (.Name "range" p2) [a,b] [] pos2] X.env=[(false,eval (.Call (.Name "range" p2) [a,b] [] pos2) X.env)]:=by rfl) :
  PE X (.Call (.Name "list" p) [.Call (.Name "range" p2) [a,b] [] pos2] [] pos) (tLR2 ta):=by
 intro pins s σ H Q I h
 refine wpAny_Call_Name_kw (Zd4 I hgL hmL Zl0 ?_)
 refine PyProof.Rows.callWith_type1 ?_ he rfl
 rw [he]
 show wpAny _ _ (spliced ((false,eval (.Call (.Name "range" p2) [a,b] [] pos2) X.env) :: backTo pos [])) _ _ s
 refine Calls.spliced_cons ?_
 refine Call_ (Zd4 I hgR hmR boot_range (PyProof.Rows.callWith_type1 (thn (ha pos2 pins s σ H _ I h) fun us s1 ⟨vs,H1,I1,r1,q1⟩=>?_) (by rw [hs,hs2]) (by rw [hs2]; rfl)))
 obtain ⟨m,n,e,hm1,hm2,hn,q⟩:=q1
 subst e
 cases r1 with
 | cons r rr=>
  cases rr with
  | cons r' rr=>
   cases rr
   obtain ⟨t,rfl⟩:=r
   obtain ⟨t',rfl⟩:=r'
   refine call_range_2 (Calls.spliced_nil ?_)
   have I2:Inv X pins σ H1 { s1 with heap:=s1.heap.push { cls:=.type "range",data:=.fields #[.int m t,.int (m + (n:Int)) t',.int 1 s1.toks] },toks:=s1.toks + 1 }:=I1.kept fun b o e=>Wad _ e
   refine call_list_range (a:=m) (b:=m + (n:Int)) (c:=1) (n:=n) (I1.ok.hd hc) (IsRange.new ..) (small_one (by omega) (by omega) (by omega) (by omega)) (by rw [rangeSize_one]; split <;> omega) (by omega) fun h' tk acc c' hk hD hI=>?_
   have hl:acc.size=n:=hI.1
   refine ⟨.ref _,_,I2.laid (t':=tk) hk (Waj _) (show ObjOk X.prog X.w _ h' _ (.lst ((Wa7 n).map fun i:Nat=>V.int (m + i))) from ⟨?_,acc.toList,c',?_,?_⟩),rfl,q _ (I2.hok.fresh (Waj _))⟩
   ·rw [Waa,Wbs]; exact Wbp (small1000 hn)
   ·have:IntsAre acc.toList ((Wa7 n).map fun i:Nat=>m + (i:Int)):=by
     refine Zcl (by rw [Array.length_toList,hl,Waa,Wbs]) fun i v e=>?_
     have hi:i < n:=by
      have:=(Wak.mp e).1
      rw [Array.length_toList,hl] at this; exact this
     obtain ⟨t',rfl⟩:=hI.2 i v (by rw [<- Array.getElem?_toList]; exact e)
     refine ⟨t',?_⟩
     rw [List.getD_eq_getElem?_getD,Wah,Wbx hi]
     show Value.int (m + (i:Int) * 1) t' = Value.int (m + (i:Int)) t'
     rw [Int.mul_one]
    have:=Zd1 this
    rw [Wax] at this
    exact this
   ·rw [Array.toArray_toList]; exact hD
end
section
variable {K:PySem.W.Frag} {Δ:Evt}
theorem Zkp {ta:TA} {Po:OD->Evt->Prop} (h:JA K ta Δ fun ds Δ1=>∃ (m:Int) (n:Nat),ds=[.int m,.int (m + n)] /\ -1000<=m/\m<=1000/\n<=1000/\Po (.lst ((Wa7 n).map fun i:Nat=>D.int (m + i))) Δ1):JO K (tLR2 ta) Δ Po:=fun g G H σ Q k c=>
 h g G H σ _ k fun vs ds G1 H1 Δ1 k1 s1 r1 hq_=>by
  obtain ⟨m,n,e,h1,h2,hl,p⟩:=hq_
  subst e
  obtain ⟨_,_,rfl,r,t⟩:=r1.inv
  next=>
   obtain ⟨_,_,rfl,r',t⟩:=t.inv
   next=>
    cases t.inv
    cases r.inv
    cases r'.inv
    refine ⟨m,n,rfl,h1,h2,hl,fun l hl=>?_⟩
    obtain ⟨k2,pd⟩:=k1.fresh (od:=.lst ((Wa7 n).map fun i:Nat=>D.int (m + i))) hl (show OwnRep K G1 (.lst ((Wa7 n).map fun i:Nat=>V.int (m + i))) (.lst ((Wa7 n).map fun i:Nat=>D.int (m + i))) from by
     have:=Reps.ofInts (K:=K) (G:=G1) ((Wa7 n).map fun i:Nat=>m + (i:Int))
     rw [Wax,Wax] at this
     exact this)
    exact c l _ G1 _ Δ1 k2 s1 pd p
end
end L2
set_option Elab.async false
set_option linter.all false
set_option maxRecDepth 100000
namespace L2
open PySem PySem.Spec PyProof.Rows
section
variable {X:Cx}
end
section
variable {K:PySem.W.Frag} {Δ:Evt} {P:D->Evt->Prop}
theorem Zlr {n:Nat} {te:TE} {x:Slot} {ds0:List D} (hx:Δ[n]? = some x) (ho:x.od=some (.lst ds0))
  (h:JE K te Δ fun e Δ1=>∃ y ds,∃ j:Nat,∃ d,Δ1[n]? = some y/\y.od=some (.lst ds)/\e=.int j/\ds[j]? = some d/\ds.length<=1000/\P d (Δ1.set n (y.put (.lst (ds.eraseIdx j))))) :
  JE K (tBM K "list" rPopAt (tVar n) (tCons te tNil)) Δ P:=fun g G H σ Q k c=>by
 obtain ⟨a,o,h1,h2,h3,h4,h5⟩:=k.own n x _ hx ho
 cases o with
 | lst vs0=>
  refine ⟨.ref a,h1,.inl ⟨rfl,_,SqL.of h2⟩,h g G H σ _ k fun v e G1 H1 Δ1 k1 s1 r1 ⟨y,ds,j,d,q1,q2,q3,q4,q5,p⟩=>?_⟩
  subst q3
  cases r1.inv
  obtain ⟨a',o',w1,w2,w3,w4,w5⟩:=k1.own n y _ q1 q2
  rw [h1] at w1; cases w1
  cases o' with
  | lst vs=>
   have w3:Reps K G1 vs ds:=w3
   obtain ⟨u,z1,z2⟩:=w3.get q4
   have hj:j < vs.length:=(Wak.mp z1).1
   have hl:=w3.length
   refine ⟨a,vs,j,j,u,rfl,rfl,w2,by omega,by omega,Zh3 hj,z1,c u d G1 _ _ (k1.write q1 q2 h1 (show OwnRep K G1 (.lst (vs.eraseIdx j)) (.lst (ds.eraseIdx j)) from w3.eraseIdx j)) s1 z2 p⟩
  | _=>exact absurd w3 (fun z=>z)
 | _=>exact absurd h3 (fun z=>z)
end
end L2
set_option Elab.async false
set_option linter.all false
set_option maxRecDepth 100000
namespace L2
open PySem PySem.Spec PyProof.Rows
section
variable {X:Cx}
end
section
variable {K:PySem.W.Frag} {Δ:Evt} {P:D->Evt->Prop}
theorem Zn7 {x:Str} (p:P (.bl false) Δ):JR2 K rNe (.str x) (.str x) Δ P:=fun g G H σ Q u v k rx ry c=>by
 cases rx.inv; cases ry.inv
 refine ⟨rfl,?_⟩
 rw [decide_eq_true rfl]
 exact c _ _ G H Δ k (Same.refl _) (.bl _) p
end
end L2
set_option Elab.async false
set_option linter.all false
set_option maxRecDepth 100000
namespace L2
open PySem PySem.Spec PyProof.Rows
end L2
set_option Elab.async false
set_option linter.all false
set_option maxRecDepth 100000
namespace L2
open PySem PySem.Spec PyProof.Rows
end L2
set_option Elab.async false
set_option linter.all false
set_option maxRecDepth 100000
namespace L2
open PySem PySem.Spec PyProof.Rows
section
variable {X:Cx}
end
end L2
set_option Elab.async false
set_option linter.all false
set_option maxRecDepth 100000
namespace L2
open PySem PySem.Spec PyProof.Rows
end L2
set_option Elab.async false
set_option linter.all false
set_option maxRecDepth 100000
namespace L2
open PySem PySem.Spec PyProof.Rows
end L2
set_option Elab.async false
set_option linter.all false
set_option maxRecDepth 100000
namespace L2
open PySem PySem.Spec PyProof.Rows
section
variable {K:PySem.W.Frag} {Δ:Evt}
end
section
variable {K:PySem.W.Frag} {Δ:Evt} {P:D->Evt->Prop}
end
end L2
set_option Elab.async false
set_option linter.all false
set_option maxRecDepth 100000
namespace L2
open PySem PySem.Spec PyProof.Rows
theorem ObjOk.has {P:Program} {w:World} {H:Hp} {h:Heap} {a:Addr} {o:HO} (x:ObjOk P w H h a o):∃ ob,h.get? a=some ob:=by
 cases o with
 | lst xs=>obtain ⟨_,_,_,_,e⟩:=x; exact ⟨_,e⟩
 | tup xs=>obtain ⟨_,_,_,o,e,_⟩:=x; exact ⟨_,e⟩
 | dK kvs=>obtain ⟨_,_,_,_,o,_,_,e,_⟩:=x; exact ⟨_,e⟩
 | dT kvs=>obtain ⟨_,_,_,_,o,_,_,e,_⟩:=x; exact ⟨_,e⟩
 | set S n=>obtain ⟨o,_,_,_,e,_⟩:=x; exact ⟨_,e⟩
 | ins C dx fs=>obtain ⟨_,_,_,e,_⟩:=x; exact ⟨_,e⟩
 | own y=>exact x
 | xd fs=>obtain ⟨_,⟨_,_,_,e,_⟩,_⟩:=x; exact ⟨_,e⟩
 | rng lo hi=>obtain ⟨_,_,_,e⟩:=x; exact ⟨_,e⟩
 | frz ob u=>obtain ⟨e,_⟩:=x; exact ⟨_,e⟩
 | tbl ps=>exact ⟨_,x⟩
 | met f y=>exact ⟨_,x⟩
 | ext φ=>exact x.2.1
theorem HOk.noneAt {P:Program} {w:World} {H:Hp} {h:Heap} {a:Addr} (x:HOk P w H h) (e:h.get? a=none):H a=none:=by
 cases q:H a with
 | none=>rfl
 | some o=>obtain ⟨ob,z⟩:=(x a o q).has; rw [e] at z; cases z
structure Nw (X:Cx) (pins:List (Addr × Obj)) (H:Hp) (b:Addr):Prop where
 old:X.s₀.heap.get? b=none
 trk:H b=none
 loc:b ≠ X.env.locals
 cel:∀ x c,X.env.cells.lookup x=some c->c ≠ b
 pin:∀ p ∈ X.pn ++ pins,p.1 ≠ b
section
variable {X:Cx} {pins:List (Addr × Obj)} {σ:St} {H H':Hp} {s:Shared} {h':Heap} {b:Addr}
theorem Nw.of (I:Inv X pins σ H s) (hex:X.ex=[]) (e:s.heap.get? b=none):Nw X pins H b where
 old:=by
  cases q:X.s₀.heap.get? b with
  | none=>rfl
  | some o=>obtain ⟨o',z⟩:=I.base.there b o q (by rw [hex]; simp); rw [e] at z; cases z
 trk:=I.hok.noneAt e
 loc:=by rintro rfl; obtain ⟨m,⟨o,_,_,ho,_⟩,_⟩:=I.loc; rw [e] at ho; cases ho
 cel:=fun x c hc z=>by subst z; obtain ⟨v,o,ho,_⟩:=I.cell x c hc; rw [e] at ho; cases ho
 pin:=fun p hp z=>by have:=(I.pin p hp).1; rw [z,e] at this; cases this
theorem Nw.at (n:Nw X pins H b) (h:H' b=none):Nw X pins H' b:=⟨n.old,h,n.loc,n.cel,n.pin⟩
theorem Inv.moved {hid:List Addr} (I:Inv X pins σ H s) (hex:X.ex=[]) (new:∀ b ∈ hid,Nw X pins H b) (kp:∀ b o,s.heap.get? b=some o->b ∉ hid->b ∉ frs X.stack->h'.get? b=some o) (up:s.heap.UpToSlots h'):Inv X pins σ H { s with heap:=h' }:=by
 have nst:∀ b,b ≠ X.env.locals->b ∉ X.fs->b ∉ frs X.stack:=fun b h1 h2 z=>(Wa5.mp (I.stkSub b z)).elim h1 h2
 have neL:∀ b o,X.s₀.heap.get? b=some o->b ≠ X.env.locals:=fun b o e=>Wa0 (Wan (Wal e) I.ok.above)
 have nhd:∀ b o,X.s₀.heap.get? b=some o->b ∉ hid:=fun b o e z=>by rw [(new b z).old] at e; cases e
 have nx:∀ b,b ∉ X.ex:=fun b=>by rw [hex]; simp
 have cellK:∀ c v,s.heap.IsCell c v->h'.IsCell c v:=fun c v hq=>by
  obtain ⟨o,ho,hd⟩:=hq
  obtain ⟨sl,e⟩:=up c o ho (fun vs q=>by rw [hd] at q; cases q)
  exact ⟨_,e,hd⟩
 refine ⟨I.ok,I.os,I.bare,⟨fun b o e n hb hx=>?_,fun b o e n hb hx=>?_,I.base.free,fun b o e hx=>?_,I.base.tups,I.base.frzs,I.base.tbls⟩,?_,fun x c e=>?_,I.free,I.freeC,fun p hp=>?_,fun b u e=>?_,I.len⟩
 ·exact kp b o (I.base.keep b o e n hb hx) (nhd b o e) (nst b (neL b o e) hb)
 ·obtain ⟨sl,e1⟩:=I.base.slot b o e n hb hx
  obtain ⟨_,o',ho',hd⟩:=I.funs.mem hb
  rw [e1] at ho'; cases ho'
  obtain ⟨sl',e2⟩:=up b _ e1 hd
  exact ⟨sl',e2⟩
 ·obtain ⟨o',e1⟩:=I.base.there b o e hx
  by_cases hb:b ∈ frs X.stack
  ·obtain ⟨_,o2,ho',hd⟩:=I.stack.mem hb
   obtain ⟨sl',e2⟩:=up b _ ho' hd
   exact ⟨_,e2⟩
  ·exact ⟨o',kp b o' e1 (nhd b o e) hb⟩
 ·obtain ⟨m,hn,hl⟩:=I.loc
  refine ⟨m,up.ns hn,fun i x v e1 e2 e3=>?_⟩
  obtain ⟨u,r,l⟩:=hl i x v e1 e2 e3
  refine ⟨u,r,?_⟩
  rcases l with l | ⟨k,c,e,z⟩
  ·exact .inl l
  ·exact .inr ⟨k,c,e,cellK c _ z⟩
 ·obtain ⟨v,z⟩:=I.cell x c e
  exact ⟨v,cellK c v z⟩
 ·obtain ⟨e,n,ne,nf,d⟩:=I.pin p hp
  exact ⟨kp p.1 p.2 e (fun z=>(new _ z).pin p hp rfl) (nst _ ne nf),n,ne,nf,d⟩
 ·refine (I.hok b u e).stay (fun c v hc q=>kp c v q (fun z=>?_) fun z=>?_) (fun _ q=>q) fun _ _ q=>q
  ·have n:=(new c z).trk
   rcases hc with rfl | hc
   ·rw [e] at n; cases n
   ·rw [hc] at n; cases n
  ·have n:=I.stkFree c z
   rcases hc with rfl | hc
   ·rw [e] at n; cases n
   ·rw [hc] at n; cases n
end
noncomputable def Trc (h:Heap) (a C T:Addr):Prop:=
 ∃ oe vs oT ts,h.get? a=some oe/\oe.cls=.ref C/\oe.data=.fields vs/\vs[1]? = some (.ref T)/\vs[2]? = some .none/\T ≠ a/\h.get? T=some oT/\oT.data=.fields ts/\ts[3]? = some .none
section
variable {M:Model} {A:Around} {E:Value->Shared->Prop} {s:Shared} {Q:Unit->Shared->Prop} {env:Env} {outer:List Env} {base:Heap} {L e:Addr} {oe:Obj} {vs:Array Value}
theorem Znk (hl:s.heap.FunFrames base (env :: outer)) (he:s.heap.get? e=some oe) (hd:oe.data=.fields vs):e ∉ frs (env :: outer):=fun hm=>by
 obtain ⟨_,o,ho,hn⟩:=hl.mem hm
 rw [he] at ho
 exact hn vs (Wat.inj ho ▸ hd)
structure Noted (h h':Heap) (l:List Env) (e:Addr) (oe:Obj) (T:Addr):Prop where
 keep:∀ b o,h.get? b=some o->b ≠ e->b ∉ frs l->h'.get? b=some o
 up:∀ b o,h.get? b=some o->b ≠ e->(∀ ws,o.data ≠ .fields ws)->∃ sl,h'.get? b=some { o with slots:=sl }
 new:h.get? T=none
 exc:h'.get? e=some (oe.mapFields (·.setIfInBounds 1 (.ref T)))
 tb:∃ oT ts,h'.get? T=some oT/\oT.data=.fields ts/\3 < ts.size
theorem entryX {head:Value} {hadNext:Bool} (hfr:A.frames=some (env :: outer)) (hl:s.heap.FunFrames base (env :: outer)) (hf:env.frame=some L) (he:s.heap.get? e=some oe) (hd:oe.data=.fields vs) (hsz:1 < vs.size)
  (h:∀ h' T,Noted s.heap h' (env :: outer) e oe T->Q () { s with heap:=h' }) :
  wpAny M A (do let a ← frameOf env; let pl ← entryPlaceOf L hadNext; let b ← EntryCells.newEntry head a .none (rawInt L) .none pl; setField (.ref e) 1 b) Q E s:=by
 have hene:=Znk hl he hd
 refine wpAny_bind (wpAny_frameOf_fun hfr hl hf fun g1 hg=>?_)
 refine wpAny_bind (wpAny_entryPlaceOf fun pl hp=>?_)
 unfold EntryCells.newEntry newFields
 refine wpAny_bind (wpAny_newObj_type ?_ (hp.sizeOk5 _ _ _ _ _))
 have he1:g1.get? e=some oe:=(hg.2.1 e hene).trans he
 have he2:=Wad (h:=g1) { cls:=.type "traceback",dict:=none,data:=.fields ([head,.ref L,.none,rawInt L,.none] ++ (if pl.isEmpty then Wab 6 Value.none else pl)).toArray } he1
 refine wpAny_setField he2 hd hsz (h _ g1.objs.size ?_)
 have nT:g1.objs.size ≠ e:=Nat.ne_of_gt (Wal he1)
 have hd3:=Obj.data_mapFields hd (·.setIfInBounds 1 (Value.ref g1.objs.size))
 have hT3:=(Waw (g1.push { cls:=.type "traceback",dict:=none,data:=.fields ([head,.ref L,.none,rawInt L,.none] ++ (if pl.isEmpty then Wab 6 Value.none else pl)).toArray }) (Obj.mapFields (·.setIfInBounds 1 (Value.ref g1.objs.size))) (Ne.symm nT)).trans (Wav g1 rfl)
 refine ⟨fun b o hb h1 h2=>?_,fun b o hb h1 hn=>?_,?_,?_,⟨_,_,hT3,rfl,?_⟩⟩
 ·rw [Waw _ _ (Ne.symm h1)]
  exact Wad _ ((hg.2.1 b h2).trans hb)
 ·obtain ⟨sl,q⟩:=hg.2.2 b o hb
  exact ⟨sl,by rw [Waw _ _ (Ne.symm h1)]; exact Wad _ q⟩
 ·exact Heap.get?_none_of_le (by rw [hg.1]; exact Waj _)
 ·exact Wbo _ he2 (Obj.isFreed_of_fields hd3)
 ·rw [Wae,Wai,Wao,Wao,Wao,Wao]
  omega
theorem noteN (hfr:A.frames=some (env :: outer)) (hl:s.heap.FunFrames base (env :: outer)) (hf:env.frame=some L) (he:s.heap.get? e=some oe) (hd:oe.data=.fields vs) (h1:vs[1]? = some .none)
  (h:∀ h' T,Noted s.heap h' (env :: outer) e oe T->Q () { s with heap:=h' }):wpAny M A (noteFrame (.ref e) env) Q E s:=by
 unfold noteFrame
 simp only [hf]
 refine wpAny_bind (wpAny_field he hd h1 ?_)
 rw [if_neg (by decide)]
 exact entryX hfr hl hf he hd (Array.getElem?_eq_some_iff.mp h1).1 h
theorem noteT {T:Addr} {oT:Obj} {ts:Array Value} (hfr:A.frames=some (env :: outer)) (hl:s.heap.FunFrames base (env :: outer)) (hf:env.frame=some L) (he:s.heap.get? e=some oe) (hd:oe.data=.fields vs) (h1:vs[1]? = some (.ref T)) (hTe:T ≠ e)
  (hT:s.heap.get? T=some oT) (hdT:oT.data=.fields ts) (h3:ts[3]? = some .none) (h:∀ h' T',Noted (s.heap.update T (Obj.mapFields (·.setIfInBounds 3 .none))) h' (env :: outer) e oe T' -> Q () { s with heap:=h' }):wpAny M A (noteFrame (.ref e) env) Q E s:=by
 unfold noteFrame
 simp only [hf]
 refine wpAny_bind (wpAny_field he hd h1 ?_)
 rw [if_pos (show (Value.ref T != Value.none)=true from by simp)]
 refine wpAny_bind (wpAny_field hT hdT h3 ?_)
 rw [if_neg (show ¬ ((Value.none == rawInt L)=true) from by simp [rawInt])]
 refine wpAny_bind (wpAny_setField hT hdT (Array.getElem?_eq_some_iff.mp h3).1 ?_)
 have ot:∀ b,b ≠ T->(s.heap.update T (Obj.mapFields (·.setIfInBounds 3 Value.none))).get? b=s.heap.get? b:=fun b hb=>Waw _ _ (Ne.symm hb)
 refine entryX (s:={ s with heap:=s.heap.update T (Obj.mapFields (·.setIfInBounds 3 .none)) }) hfr (hl.of_keeps fun b o hb hn=>⟨o,(ot b fun q=>?_).trans hb,rfl⟩) hf ((ot e (Ne.symm hTe)).trans he) hd (Array.getElem?_eq_some_iff.mp h1).1 fun h' T' n=>h h' T' n
 rw [q,hT] at hb
 exact hn ts (Wat.inj hb ▸ hdT)
end
section
variable {X:Cx} {pins:List (Addr × Obj)} {σ:St} {H H':Hp} {s:Shared} {h':Heap} {a C T:Addr}
theorem Inv.noted {h0:Heap} {oe:Obj} {vs:Array Value} {hid:List Addr} {T':Addr} (I:Inv X pins σ H s) (hex:X.ex=[]) (na:Nw X pins H a) (new:∀ b ∈ hid,Nw X pins H b) (he:s.heap.get? a=some oe) (hc:oe.cls=.ref C) (hd:oe.data=.fields vs) (h2:vs[2]? = some .none)
  (k0:∀ b,b ∉ hid->h0.get? b=s.heap.get? b) (hf0:∀ b ∈ hid,∀ o,s.heap.get? b=some o->∃ ws,o.data=.fields ws) (hn0:∀ b,h0.get? b=none->s.heap.get? b=none) (n:Noted h0 h' X.stack a oe T') {h3:Heap} (e3:h3=h'.update T' (Obj.mapFields (·.setIfInBounds 3 .none))) :
  Inv X pins σ H { s with heap:=h3 } /\ Trc h3 a C T' /\ Nw X pins H T':=by
 subst e3
 have nT:=Nw.of I hex (hn0 _ n.new)
 have ot:∀ b,b ≠ T' -> (h'.update T' (Obj.mapFields (·.setIfInBounds 3 Value.none))).get? b=h'.get? b:=fun b hb=>Waw _ _ (Ne.symm hb)
 have hTa:T' ≠ a:=by rintro rfl; have z:=hn0 _ n.new; rw [he] at z; cases z
 have ne:∀ b o,s.heap.get? b=some o->b ≠ T':=fun b o e z=>by subst z; rw [hn0 _ n.new] at e; cases e
 have fl:∀ b,b ∈ a :: hid->∀ o,s.heap.get? b=some o->∃ ws,o.data=.fields ws:=fun b hb o e=>by
  rcases Wa5.mp hb with rfl | hb
  ·rw [he] at e; cases e; exact ⟨vs,hd⟩
  ·exact hf0 b hb o e
 refine ⟨I.moved (hid:=a :: hid) hex (fun b hb=>(Wa5.mp hb).elim (fun z=>by subst z; exact na) (new b)) (fun b o e h1 h2=>?_) (fun b o e hnf=>?_),?_,nT⟩
 ·have h1a:b ≠ a:=fun z=>h1 (by simp [z])
  have h1b:b ∉ hid:=fun z=>h1 (Waq _ z)
  rw [ot b (ne b o e)]
  exact n.keep b o ((k0 b h1b).trans e) h1a h2
 ·have hb:b ∉ a :: hid:=fun z=>by obtain ⟨ws,q⟩:=fl b z o e; exact hnf ws q
  have h1a:b ≠ a:=fun z=>hb (by simp [z])
  have h1b:b ∉ hid:=fun z=>hb (Waq _ z)
  obtain ⟨sl,q⟩:=n.up b o ((k0 b h1b).trans e) h1a hnf
  exact ⟨sl,(ot b (ne b o e)).trans q⟩
 ·obtain ⟨oT,ts,t1,t2,t3⟩:=n.tb
  have sz:2 < vs.size:=(Array.getElem?_eq_some_iff.mp h2).1
  refine ⟨_,_,_,_,(ot a (Ne.symm hTa)).trans n.exc,(Obj.cls_mapFields _ _).trans hc,Obj.data_mapFields hd _,?_,?_,hTa,Wbo _ t1 (Obj.isFreed_of_fields (Obj.data_mapFields t2 _)),Obj.data_mapFields t2 _,?_⟩
  ·simp [show 1 < vs.size by omega]
  ·rw [Array.getElem?_setIfInBounds_ne (by decide)]; exact h2
  ·simp [t3]
variable {M:Model} {E:Value->Shared->Prop} {Q:Unit->Shared->Prop}
theorem Zgu {h h':Heap} {l:List Env} {e T:Addr} {oe:Obj} {vs:Array Value} {A:Around} {s:Shared} (hd:oe.data=.fields vs) (sz:1 < vs.size) (n:Noted h h' l e oe T) (h:Q () { s with heap:=h'.update T (Obj.mapFields (·.setIfInBounds 3 .none)) }) :
  wpAny M A (setFlight (.ref e) none) Q E { s with heap:=h' }:=by
 obtain ⟨oT,ts,t1,t2,t3⟩:=n.tb
 exact wpAny_setFlight_none (s:={ s with heap:=h' }) n.exc (Obj.data_mapFields hd _) (by simp [sz]) t1 t2 t3 h
theorem Zi2 (I:Inv X pins σ H s) (hex:X.ex=[]) (hst:X.stack=X.env :: X.outer) (hf:X.env.frame=some X.env.locals) (tr:Trc s.heap a C T) (na:Nw X pins H a) (nT:Nw X pins H T)
  (h:∀ h' T',Inv X pins σ H { s with heap:=h' } -> Trc h' a C T' -> Nw X pins H T' -> Q () { s with heap:=h' }):wpAny M X.A (noteFrame (.ref a) X.env) (fun _ s2=>wpAny M X.A (setFlight (.ref a) none) Q E s2) E s:=by
 obtain ⟨oe,vs,oT,ts,h1,h2,h3,h4,h5,h6,h7,h8,h9⟩:=tr
 have hfr:=I.ok.frames
 have hl:=I.stack
 rw [hst] at hfr hl
 have ot:∀ b,b ≠ T->(s.heap.update T (Obj.mapFields (·.setIfInBounds 3 Value.none))).get? b=s.heap.get? b:=fun b hb=>Waw _ _ (Ne.symm hb)
 refine noteT hfr hl hf h1 h3 h4 h6 h7 h8 h9 fun h' T' n=>?_
 refine Zgu h3 (Array.getElem?_eq_some_iff.mp h4).1 n ?_
 rw [<- hst] at n
 obtain ⟨J,t1,t2⟩:=I.noted (hid:=[T]) hex na (fun b hb=>by rcases Wa5.mp hb with rfl | hb; exact nT; cases hb) h1 h2 h3 h5 (fun b hb=>ot b (by simpa using hb)) (fun b hb o e=>by
  have hb:b=T:=by simpa using hb
  subst hb; rw [h7] at e; cases e; exact ⟨ts,h8⟩) (fun b e=>by
   by_cases hb:b=T
   ·subst hb
    rw [Wbo _ h7 (Obj.isFreed_of_fields (Obj.data_mapFields h8 _))] at e; cases e
   ·exact (ot b hb).symm.trans e) n rfl
 exact h _ T' J t1 t2
theorem Zjf (I:Inv X pins σ H s) (hex:X.ex=[]) (hst:X.stack=X.env :: X.outer) (hf:X.env.frame=some X.env.locals) (tr:Trc s.heap a C T) (na:Nw X pins H a) (nT:Nw X pins H T)
  (h:∀ h' T',Inv X pins σ H { s with heap:=h' } -> Trc h' a C T' -> Nw X pins H T' -> Q () { s with heap:=h' }):wpAny M X.A (leaving X.env (.ref a)) Q E s:=by
 unfold leaving
 exact wpAny_bind (Zi2 I hex hst hf tr na nT h)
theorem Zhf {h1:Heap} {args:List Value} (I:Inv X pins σ H s) (hex:X.ex=[]) (hst:X.stack=X.env :: X.outer) (hf:X.env.frame=some X.env.locals) (hm:Heap.MadeExcOf s.heap h1 a (.ref C) args)
  (h:∀ h' T',Inv X pins σ H { s with heap:=h' } -> Trc h' a C T' -> Nw X pins H a->Nw X pins H T' -> Q () { s with heap:=h' }):wpAny M X.A (leaving X.env (.ref a)) Q E { s with heap:=h1 }:=by
 have J:Inv X pins σ H { s with heap:=h1 }:=I.kept (t':=s.toks) hm.keeps
 have na:=Nw.of I hex hm.new
 obtain ⟨t,he,_,_⟩:=hm.there
 have hfr:=J.ok.frames
 have hl:=J.stack
 rw [hst] at hfr hl
 unfold leaving
 refine wpAny_bind (noteN (s:={ s with heap:=h1 }) hfr hl hf he rfl rfl fun h' T' n=>?_)
 refine Zgu (vs:=#[.ref t,.none,.none,.none,.bool false,.none]) (s:={ s with heap:=h1 }) rfl (show 1 < 6 by decide) n ?_
 rw [<- hst] at n
 obtain ⟨J2,t1,t2⟩:=J.noted (hid:=[]) hex na (fun b hb=>by cases hb) he rfl rfl rfl (fun b _=>rfl) (fun b hb=>by cases hb) (fun b e=>e) n rfl
 exact h _ T' J2 t1 na t2
theorem Zjg {A:Around} (I:Inv X pins σ H s) (hex:X.ex=[]) (tr:Trc s.heap a C T) (na:Nw X pins H a) (nT:Nw X pins H T)
  (h:∀ h' T',Inv X pins σ H { s with heap:=h' } -> Trc h' a C T' -> Nw X pins H T' -> Q () { s with heap:=h' }):wpAny M A (setFlight (.ref a) none) Q E s:=by
 obtain ⟨oe,vs,oT,ts,h1,h2,h3,h4,h5,h6,h7,h8,h9⟩:=tr
 have sz:=(Array.getElem?_eq_some_iff.mp h9).1
 have ot:∀ b,b ≠ T->(s.heap.update T (Obj.mapFields (·.setIfInBounds 3 Value.none))).get? b=s.heap.get? b:=fun b hb=>Waw _ _ (Ne.symm hb)
 refine wpAny_setFlight_none h1 h3 h4 h7 h8 sz (h _ T ?_ ?_ nT)
 ·refine I.moved (hid:=[T]) hex (fun b hb=>by rcases Wa5.mp hb with rfl | hb; exact nT; cases hb) (fun b o e hb _=>(ot b (by simpa using hb)).trans e) (fun b o e hnf=>⟨o.slots,(ot b fun z=>?_).trans e⟩)
  subst z; rw [h7] at e; cases e; exact hnf ts h8
 ·exact ⟨oe,vs,_,_,(ot a (Ne.symm h6)).trans h1,h2,h3,h4,h5,h6,Wbo _ h7 (Obj.isFreed_of_fields (Obj.data_mapFields h8 _)),Obj.data_mapFields h8 _,by simp [sz]⟩
end
noncomputable def CXE (P:Program) (w:World):CXT:=fun outer H s E e s'=>
 ∃ (a C T:Addr) (H':Hp),e=.ref a/\s'.os=s.os/\AllBare s'.gens/\Un (frs outer) [] H H' s.heap s'.heap/\HOk P w H' s'.heap/\H' a=none/\s.heap.get? a=none/\H' T=none/\s.heap.get? T=none/\Trc s'.heap a C T/\E (.ref C) none H'
noncomputable def Throws (X:Cx) (E:XK):Prop:=∀ (pins:List (Addr × Obj)) (σ:St) (H:Hp) (s:Shared) (h1:Heap) (a C:Addr) (args:List Value),Inv X pins σ H s->Heap.MadeExcOf s.heap h1 a (.ref C) args->E (.ref C) none H->X.xe (.ref a) { s with heap:=h1 }
section
variable {P:Program} {w:World} {K:PySem.W.Frag} {mg:Str->Option Value} {base:Heap} {N:List Str} {qual:Str} {scope:Scope} {f:Addr} {cd:Value} {A:Around} {outer:List Env} {s0:Shared} {H0:Hp} {E:XK}
theorem Zde:Passes (CXE P w) (cxOf (CXE P w) P w K mg base N qual scope f cd A outer s0 H0 E) E:=fun pins σ H s e s' I hq=>by
 obtain ⟨a,C,T,H',rfl,os,bare,un,hok,ha,hsa,hT,hsT,tr,hE⟩:=hq
 have J:=I.call' (ch:=[]) os un hok bare (fun b z=>absurd z (by simp))
 have na:=(Nw.of I rfl hsa).at ha
 have nT:=(Nw.of I rfl hsT).at hT
 refine Zjf J rfl rfl rfl tr na nT fun h' T' J2 t1 t2=>?_
 exact ⟨a,C,T',H',rfl,J2.os,J2.bare,J2.base,J2.hok,ha,na.old,t2.trk,t2.old,t1,hE⟩
theorem Zeu:Throws (cxOf (CXE P w) P w K mg base N qual scope f cd A outer s0 H0 E) E:=fun pins σ H s h1 a C args I hm hE=>by
 refine Zhf I rfl rfl rfl hm fun h' T' J2 t1 na t2=>?_
 exact ⟨a,C,T',H,rfl,J2.os,J2.bare,J2.base,J2.hok,na.trk,na.old,t2.trk,t2.old,t1,hE⟩
end
end L2
set_option Elab.async false
set_option linter.all false
set_option maxRecDepth 100000
namespace L2
open PySem PySem.Spec PyProof.Rows
noncomputable abbrev ExcC (K:PySem.W.Frag) (C:Addr):Prop:=PySem.W.excIn K C [.type "ValueError",.type "Exception",.type "BaseException",.type "object"] "ValueError.__new__" = true
noncomputable def ExcO (h:Heap) (C:Addr) (bm:List Value):Prop:=∃ N nm qn bs hd sn sub ab col dd k0 k1 k2 k3 k5 mN,h.get? C=some (excClassObj nm qn C N bs bm hd sn sub ab col dd k0 k1 k2 k3 k5 "ValueError.__new__")/\h.Ns N mN/\mN "__init__" = none/\OwnTail h [.type "ValueError",.type "Exception",.type "BaseException",.type "object"] bm
theorem Zda {K:PySem.W.Frag} {h:Heap} {C:Addr} (X:K.In h) (q:ExcC K C):∃ bm,ExcO h C bm/\∀ v b,PySem.W.mroIn K C v=some b->(Value.ref C :: bm).contains v=b:=by
 unfold ExcC PySem.W.excIn at q
 split at q
 next dd cd sl e=>
  split at q
  next C' bm k0 k1 k2 k3 n k5 e1 e2=>
   rw [Wau,Wau,Wau,Wau,Wau] at q
   obtain ⟨⟨⟨⟨⟨q1,q2⟩,q3⟩,q4⟩,q5⟩,q6⟩:=q
   have q1:=beq_iff_eq.mp q1
   have q2:=beq_iff_eq.mp q2
   rw [Bool.not_eq_true'] at q3
   subst q1
   cases cd with
   | mk nm bs mro ns qn hd sn sub ab col del=>
    dsimp only at e1 q3 q5 q6
    have q7:=beq_iff_eq.mp q6
    subst e1
    subst q3
    have e3:sl = #[k0,k1,k2,k3,some (.builtin n),k5]:=by
     cases sl with
     | mk l=>exact congrArg Array.mk e2
    subst e3
    subst q2
    refine ⟨bm,⟨ns,nm,qn,bs,hd,sn,sub,ab,col,dd,k0,k1,k2,k3,k5,_,X _ _ e,.of_isNs (PySem.W.isNs_of_in X q5),PySem.W.nsMap_none_of_in X q5 q7,PySem.W.tail_of_in X q4⟩,fun v b hv=>?_⟩
    unfold PySem.W.mroIn PySem.W.clsIn at hv
    rw [e] at hv
    have hv:some ((Value.ref C' :: bm).contains v)=some b:=hv
    exact Wat.inj hv
  next=>cases q
 next=>cases q
noncomputable def tRaise (C:Addr) (E:XK) (t:TA):TS:=fun _ σ H=>t σ H fun vs H1=>vs.length<=sizeLine/\E (.ref C) none H1
section
variable {X:Cx} {x:Str} {C:Addr} {np cpos pos:Pos} {e:Expr} {es:List Expr} {t:TA} {E:XK}
theorem Zen (cl:ExcC X.K C) (hg:Gl X x) (hm:X.mg x=some (.ref C)) (hh:X.A.handled=none) (hr:Throws X E) (ha:PA X (e :: es) t) (hdb:(x == ("__debug__":Str))=false:=by decide)
  (he:starEach (e :: es) X.env=(false,eval e X.env) :: starEach es X.env:=by rfl) (hpl:(backTo cpos (starEach (e :: es) X.env)).any (·.1)=false:=by rfl):PS X (.Raise (some (.Call (.Name x np) (e :: es) [] cpos)) none pos) (tRaise C E t):=by
 intro pins s σ H D I h
 obtain ⟨bm,⟨N,nm,qn,bs,hd,sn,sub,ab,col,dd,k0,k1,k2,k3,k5,mN,o1,o2,o3,o4⟩,_⟩:=Zda I.ok.mod.kin cl
 refine wpAny_Raise_call_subT (C:=C) (nm:=nm) (q:=qn) (N:=N) (bs:=bs) (bm:=bm) (hdct:=hd) (sn:=sn) (sub:=sub) (ab:=ab) (col:=col) (dd:=dd) (k0:=k0) (k1:=k1) (k2:=k2) (k3:=k3) (k5:=k5) (mN:=mN) F.excBase_ValueError (o4.hasType rfl) hh hpl o3 ?_
 refine Zdq I hg hm ⟨rfl,?_⟩ hdb
 have e1:backTo cpos (starEach (e :: es) X.env)=(false,eval e X.env) :: backTo cpos (starEach es X.env):=by rw [he]; rfl
 rw [e1]
 refine Calls.evalArgs_plain ?_
 rw [<- e1]
 refine thn (ha cpos pins s σ H _ I h) fun us s1 ⟨vs,H1,I1,r,z,q⟩=>?_
 exact ⟨rfl,by rw [<- r.length]; exact z,I1.bk _ _ o1,o2.keeps I1.bk,o4.keeps I1.bk,fun h' a hm'=>hr pins σ H1 s1 h' a C us I1 hm' q⟩
end
end L2
set_option Elab.async false
set_option linter.all false
set_option maxRecDepth 100000
namespace L2
open PySem PySem.Spec PyProof.Rows
structure ExcI (K:PySem.W.Frag) (C:Addr):Prop where
 cl:ExcC K C
 ga:PySem.W.findIn K (.ref C) "__getattribute__" = some (some (.builtin "BaseException.__getattribute__"))
 gt:PySem.W.findIn K (.ref C) "__getattr__" = some none
 ca:PySem.W.findIn K (.ref C) "__class__" = some (some (.builtin "object.__class__"))
 gs:PySem.W.specialIn K (.builtin "object.__class__") "__get__" = some (some (.builtin "getset_descriptor.__get__"))
 tk:PySem.W.takesIn K (.builtin "object.__class__")=some true
 ob:PySem.W.mroIn K C (.type "object")=some true
 be:PySem.W.mroIn K C (.type "BaseException")=some true
theorem InsC.ty {a C:Addr} {h:Heap} {M:Model} (I:InsC a C h):PySem.W.Looks M h (typeOf (.ref a)) (.ref C):=by
 obtain ⟨o,_,h1,h2,_⟩:=I
 exact h2 ▸ (PySem.W.Looks.ld h1).andThen .now
section
variable {prog:Program} {w:World} {A:Around} {E:Value->Shared->Prop} {K:PySem.W.Frag} {s:Shared} {a C:Addr}
theorem Zie {M:Model} {nameV:Value} {Q:Unit->Shared->Prop} (X:K.In s.heap) (Z:ExcI K C) (I:InsC a C s.heap) (hq:Q () s):wpAny M A (checkBuiltinCall "BaseException.__getattribute__" ⟨[.ref a,nameV],[]⟩) Q E s:=by
 obtain ⟨h,g,d,t,os⟩:=s
 have hk:builtinKind "BaseException.__getattribute__" = some .slot:=by decide +kernel
 have hs:splitId "BaseException.__getattribute__" = some ("BaseException","__getattribute__"):=by decide +kernel
 obtain ⟨bm,⟨N,nm,qn,bs,hd,sn,sub,ab,col,dd,k0,k1,k2,k3,k5,mN,hC,o2,o3,o4⟩,hmro⟩:=Zda X Z.cl
 have hB:=hmro _ _ Z.be
 obtain ⟨ox,_,hx,hc,_⟩:=I
 have ha:=F.args_bexc_ga (.ref a) nameV
 simp only [checkBuiltinCall,hk,hs]
 refine wpAny_bind ?_
 unfold isInstance
 repeat (first | (with_reducible refine wpAny_loadPart_at hx ?_; rw [hc]) | (with_reducible refine wpAny_isSubtype_exc hC ?_; rw [hB]) | wp_step)
 exact hq
theorem Zha {R:Result->Shared->Prop} {tp:Value} (X:K.In s.heap) (I:InsC a C s.heap) (hm:PySem.W.mroIn K C (.type "object")=some true) (h:R (.ok (.ret (.ref C))) s) :
  codeAny (model prog w) A (.call (.builtin "getset_descriptor.__get__") ⟨[.builtin "object.__class__",.ref a,tp],[]⟩) R s:=by
 obtain ⟨h0,g,d,t,os⟩:=s
 have l0:=I.ty (M:=model prog w)
 have l1:=PySem.W.looks_mroIn (M:=model prog w) X hm
 have ht:(⟨h0,g,d,t,os⟩:Shared).TypeIs (.builtin "object.__class__") "getset_descriptor":=PySem.W.KF.type_class
 refine codeAny_call_builtin PySem.W.KF.slot_gs.plain PySem.W.KF.entry_gs (PySem.W.KF.slot_gs.check _ _ _ _ _ _ _ _ ht (PySem.W.KF.args_gs _ _ _) ?_)
 unfold Builtin.«getset_descriptor.__get__» Builtin.Getset_descriptor.descrGet
 rw [PySem.W.dga_obj]
 refine wpAny_bind (m:=pure _) (wpAny_pure ?_)
 unfold Builtin.Getset_descriptor.descrGetter Builtin.Getset_descriptor.descrCheckInstance Builtin.Getset_descriptor.descrNameAndClass isInstance
 simp only [PySem.W.KF.owner_class]
 repeat lk
 refine ⟨Code.quiet_builtin _ (by decide +kernel),codeAny_builtin PySem.W.KF.entry_class ?_⟩
 unfold Builtin.«object.__class__» shownTypeOf
 repeat lk
 exact h
theorem Zh2 {Q:Option Value->Shared->Prop} (X:K.In s.heap) (Z:ExcI K C) (I:InsC a C s.heap) (h:Q (some (.ref C)) { s with toks:=s.toks + 1 }):wpAny (model prog w) A (getAttr? (.ref a) "__class__") Q E s:=by
 obtain ⟨hh,g,d,t,os⟩:=s
 have L0:=I.ty (M:=model prog w)
 have L1:=PySem.W.looks_findIn (M:=model prog w) X Z.ga
 have L2:=PySem.W.looks_findIn (M:=model prog w) X Z.gt
 have L3:PySem.W.Looks (model prog w) hh (Builtin.ObjectAttr.find (.ref a) (.ref C) "__class__") (.bind (.builtin "getset_descriptor.__get__") (.builtin "object.__class__")):=by
  unfold Builtin.ObjectAttr.find
  refine (PySem.W.looks_findIn X Z.ca).andThen ((show PySem.W.Looks (model prog w) hh (Builtin.ObjectAttr.getOf (some (.builtin "object.__class__"))) _ from PySem.W.looks_specialIn X Z.gs).andThen ?_)
  have q:PySem.W.Looks (model prog w) hh (Builtin.ObjectAttr.dataDescriptor? (some (.builtin "object.__class__")) (some (.builtin "getset_descriptor.__get__"))) (some (.builtin "getset_descriptor.__get__",.builtin "object.__class__")):=(PySem.W.looks_takesIn X Z.tk).andThen .now
  exact q.andThen (PySem.W.Looks.tag .now)
 have f3:=F.excAttr_ValueError.ga.bind (.ref a)
 have hx2:(Value.builtin "BaseException.__getattribute__" == Value.builtin "object.__getattribute__")=false:=by decide +kernel
 have hx1:(onTheHeap (Value.ref C) && Value.builtin "BaseException.__getattribute__" == Value.builtin "object.__getattribute__")=false:=by rw [hx2]; rfl
 unfold getAttr? getAttrBy? getAttrBy
 refine wpAny_bind (wpAny_mkText (wpAny_bind (wpAny_attempt (wpAny_holding (wpAny_bind (L0.at (wpAny_bind (L1.at ?_))))))))
 dsimp only
 rw [hx1]
 rw [if_neg Wam]
 unfold getAttrByItsOwn hookBefore
 rw [if_pos (show onTheHeap (Value.ref C)=true from rfl)]
 refine wpAny_bind (L2.at (wpAny_bind (wpAny_attempt (wpAny_holding ?_))))
 unfold callGetattribute
 rw [Bool.false_and,if_neg Wam]
 unfold boundAndCalled
 refine wpAny_bind (wpAny_of_eq f3 ?_)
 refine wpAny_call (codeAny_call_builtin F.excAttr_ValueError.ga.plain F.entry_bexc_ga (Zie X Z I ?_))
 unfold Builtin.«object.__getattribute__»
 refine wpAny_bind (m:=slotArgs _ _ _) (wpAny_pure ?_)
 dsimp only
 refine wpAny_bind (m:=Builtin.ObjectAttr.attrName _) (wpAny_pure ?_)
 refine wpAny_bind (L0.at (wpAny_bind (L3.at ?_)))
 dsimp only
 unfold Builtin.ObjectAttr.bindTo
 dsimp only
 refine wpAny_bind (wpAny_holding (wpAny_call (Zha (s:=⟨hh,g,d,t + 1,os⟩) X I Z.ob (wpAny_pure ?_))))
 exact PySem.W.handed_on rfl (wpAny_pure h)
theorem Zeq (Z:ExcI K C):PySem.W.KitX K (.ref a) (.ref C) (InsC a C) where
 ty:=fun _ _ _ I=>I.ty
 it:=fun _ h X _=>by
  obtain ⟨bm,⟨N,nm,qn,bs,hd,sn,sub,ab,col,dd,k0,k1,k2,k3,k5,mN,hC,_⟩,_⟩:=Zda X Z.cl
  intro A' Q' E' s' k q
  unfold isType loadHead
  exact wpAny_bind (wpAny_loadPart (k _ _ hC) (wpAny_pure q))
 ne:=fun h tp dd its n sl X htp=>by
  obtain ⟨bm,⟨N,nm,qn,bs,hd,sn,sub,ab,col,dd',k0,k1,k2,k3,k5,mN,hC,_⟩,_⟩:=Zda X Z.cl
  refine Wbj.mpr fun q=>?_
  have e:C=tp:=Value.ref.inj (beq_iff_eq.mp q)
  subst e
  rw [hC] at htp
  exact absurd (congrArg Obj.cls (Wat.inj htp)) (by intro z; injection z with z; exact absurd z (by decide))
 ca:=fun X I k=>Zh2 X Z I k
end
end L2
set_option Elab.async false
set_option linter.all false
set_option maxRecDepth 100000
namespace L2
open PySem PySem.Spec PyProof.Rows
theorem Zd9 {M:Model} {A:Around} {E:Value->Shared->Prop} {K:PySem.W.Frag} {s:Shared} {a C FE:Addr} {Q:Bool->Shared->Prop} (X:K.In s.heap) (cF:ExcC K FE) (cC:ExcC K C) (hm:PySem.W.mroIn K C (.ref FE)=some true) (I:InsC a C s.heap) (hq:Q true s) :
  wpAny M A (excMatches (.ref a) (.ref FE)) Q E s:=by
 obtain ⟨h,g,d,t,os⟩:=s
 obtain ⟨bm,⟨N,nm,qn,bs,hd,sn,sub,ab,col,dd,k0,k1,k2,k3,k5,mN,hC,_⟩,hmro⟩:=Zda X cC
 obtain ⟨bm',⟨N',nm',qn',bs',hd',sn',sub',ab',col',dd',k0',k1',k2',k3',k5',mN',hF,_,_,oF⟩,_⟩:=Zda X cF
 have hA:=hmro _ _ hm
 have hB:(Value.ref FE :: bm').contains (.type "BaseException")=true:=by rw [List.contains_cons,oF.hasType (X:="BaseException") (b:=true) rfl,Bool.or_true]
 obtain ⟨ox,_,hx,hc,_⟩:=I
 have f:=tc_notTuple
 unfold excMatches
 repeat (first | (with_reducible refine wpAny_loadPart_at hx ?_; rw [hc]) | with_reducible refine wpAny_loadPart_at hF ?_ | (with_reducible refine wpAny_isSubtype_exc hF ?_; rw [hB]) | (with_reducible refine wpAny_isSubtype_exc hC ?_; rw [hA]) | wp_step)
 exact hq
noncomputable abbrev XC (X:Cx) (e:Addr):Cx:={ X with A:=X.A.mark (some (.ref e)),calm:=false,xe:=fun _ _=>False }
theorem Cx.Ok.suite {X:Cx} (ok:X.Ok) (e:Addr):(XC X e).Ok:=
 ⟨ok.mod,ok.kind,ok.glob,ok.blt,ok.above,ok.inj,ok.has,ok.cab,(fun z=>nomatch z),ok.frames,ok.stk,ok.exf,ok.bs,ok.bsz,ok.noex,ok.exfs,ok.funs,ok.frf⟩
noncomputable abbrev XT (X:Cx) (pn:List (Addr × Obj)) (xe:Value->Shared->Prop):Cx:={ X with pn:=pn,xe:=xe }
theorem Cx.Ok.try_ {X:Cx} (ok:X.Ok) (pn:List (Addr × Obj)) (xe:Value->Shared->Prop):(XT X pn xe).Ok:=
 ⟨ok.mod,ok.kind,ok.glob,ok.blt,ok.above,ok.inj,ok.has,ok.cab,ok.hd,ok.frames,ok.stk,ok.exf,ok.bs,ok.bsz,ok.noex,ok.exfs,ok.funs,ok.frf⟩
section
variable {X:Cx} {pins:List (Addr × Obj)} {σ:St} {H:Hp} {s:Shared} {a C:Addr}
theorem Inv.suite (I:Inv X pins σ H s) (e:Addr):Inv (XC X e) pins σ H s:=⟨I.ok.suite e,I.os,I.bare,I.base,I.loc,I.cell,I.free,I.freeC,I.pin,I.hok,I.len⟩
theorem Inv.unsuite {e:Addr} (ok:X.Ok) (I:Inv (XC X e) pins σ H s):Inv X pins σ H s:=⟨ok,I.os,I.bare,I.base,I.loc,I.cell,I.free,I.freeC,I.pin,I.hok,I.len⟩
theorem Inv.into {xe:Value->Shared->Prop} (I:Inv X pins σ H s):Inv (XT X (X.pn ++ pins) xe) [] σ H s:=⟨I.ok.try_ _ _,I.os,I.bare,I.base,I.loc,I.cell,I.free,I.freeC,fun p hp=>I.pin p (by simpa using hp),I.hok,I.len⟩
theorem Inv.outof {xe:Value->Shared->Prop} {pins1:List (Addr × Obj)} (ok:X.Ok) (I:Inv (XT X (X.pn ++ pins) xe) pins1 σ H s):Inv X pins σ H s:=⟨ok,I.os,I.bare,I.base,I.loc,I.cell,I.free,I.freeC,fun p hp=>I.pin p (Wb7 _ hp),I.hok,I.len⟩
theorem Inv.held (I:Inv X pins σ H s) (n:Nw X pins H a) (hi:InsC a C s.heap):Inv X pins σ (upd H a (.ext (InsC a C))) s:=by
 have keep:∀ b,b ≠ a->upd H a (.ext (InsC a C)) b=H b:=fun b hb=>Zas hb
 have nn:∀ b u,H b=some u->b ≠ a:=fun b u e z=>by subst z; rw [n.trk] at e; cases e
 refine ⟨I.ok,I.os,I.bare,⟨I.base.keep,I.base.slot,fun b o e q hx=>?_,I.base.there,fun b xs e=>?_,fun b o u e=>?_,fun b ps e=>?_⟩,I.loc,I.cell,?_,fun x c e=>?_,fun p hp=>?_,fun b u e=>?_,I.len⟩
 ·rw [keep b (fun z=>by subst z; rw [n.old] at e; cases e)]; exact I.base.free b o e q hx
 ·have q:=I.base.tups b xs e
  rw [keep b (nn b _ q)]; exact q
 ·have q:=I.base.frzs b o u e
  rw [keep b (nn b _ q)]; exact q
 ·obtain ⟨m,q⟩:=I.base.tbls b ps e
  exact ⟨m,by rw [keep b (nn b _ q)]; exact q⟩
 ·rw [keep _ (Ne.symm n.loc)]; exact I.free
 ·rw [keep _ (n.cel x c e)]; exact I.freeC x c e
 ·obtain ⟨e,q,r⟩:=I.pin p hp
  exact ⟨e,by rw [keep _ (n.pin p hp)]; exact q,r⟩
 ·by_cases hb:b=a
  ·subst hb
   rw [Zao] at e; cases e
   obtain ⟨ox,vs,h1,h2⟩:=hi
   exact ⟨⟨ox,vs,h1,h2⟩,⟨ox,h1⟩,fun h1' h2' ⟨o,ws,z1,z2⟩ k=>⟨o,ws,k o z1,z2⟩⟩
  ·rw [keep b hb] at e
   refine (I.hok b u e).stay (fun c v _ q=>q) (fun c q=>?_) fun c xs q=>?_
   ·rw [keep c (nn c _ q)]; exact q
   ·rw [keep c (nn c _ q)]; exact q
theorem Inv.gone {M:Model} {A:Around} {E:Value->Shared->Prop} {i:Nat} {x:Str} {pos:Pos} {Q:Unit->Shared->Prop} (I:Inv X pins σ H s) (hN:X.N.Nodup) (hi:X.N[i]? = some x) (hk:X.env.scope.names.lookup x=some .local)
  (h:∀ s',Inv X pins (σ.set i none) H s' -> Q () s'):wpAny M A (do bindName X.env x .none; unbindBehindTheSuite X.env x pos) Q E s:=by
 obtain ⟨m,hn,hl⟩:=id I.loc
 have hcls:(X.env.scope.kind == .class || (X.env.scope.kind == .module && X.env.locals != X.env.globals))=false:=by rw [I.ok.kind]; rfl
 refine wpAny_nameGoes_keeps (show X.env.kindOf x=some .local from hk) hn hcls fun h' v hn' hs=>h _ ?_
 have cne:=I.cne
 obtain ⟨oL,_,_,hoL,_⟩:=id hn
 have ltL:∀ b o,X.s₀.heap.get? b=some o->b ≠ X.env.locals:=fun b o e=>Wa0 (Wan (Wal e) I.ok.above)
 refine ⟨I.ok,I.os,I.bare,⟨fun b o e n hb hx=>?_,fun b o e n hb hx=>?_,I.base.free,fun b o e hx=>?_,I.base.tups,I.base.frzs,I.base.tbls⟩,⟨_,hn',fun j y v' e1 e2 e3=>?_⟩,fun y c e=>?_,I.free,I.freeC,fun p hp=>?_,fun b u e=>?_,by simpa using I.len⟩
 ·exact (hs.2 b (ltL b o e)).trans (I.base.keep b o e n hb hx)
 ·obtain ⟨sl,e1⟩:=I.base.slot b o e n hb hx
  exact ⟨sl,(hs.2 b (ltL b o e)).trans e1⟩
 ·obtain ⟨o',e1⟩:=I.base.there b o e hx
  exact ⟨o',(hs.2 b (ltL b o e)).trans e1⟩
 ·have hj:j ≠ i:=by
   intro z; subst z
   rw [Wb5] at e2
   split at e2
   ·split at e2 <;> cases e2
   ·rename_i z; exact z rfl
  rw [Wag (Ne.symm hj)] at e2
  obtain ⟨u',r',q⟩:=hl j y v' e1 e2 e3
  refine ⟨u',r',?_⟩
  rcases q with ⟨k,e⟩ | ⟨k,c,e,z⟩
  ·refine .inl ⟨k,?_⟩
   have hy:y ≠ x:=fun e=>hj (Zey hN e1 (e ▸ hi))
   show (if y=x then v else m y)=_
   rw [if_neg hy]; exact e
  ·exact .inr ⟨k,c,e,z.sameBut hs (cne y c e)⟩
 ·obtain ⟨w',z⟩:=I.cell y c e
  exact ⟨w',z.sameBut hs (cne y c e)⟩
 ·obtain ⟨e,n,ne,nf,d⟩:=I.pin p hp
  exact ⟨(hs.2 p.1 ne).trans e,n,ne,nf,d⟩
 ·refine (I.hok b u e).stay (fun c w' hc q=>(hs.2 c ?_).trans q) (fun _ q=>q) fun _ _ q=>q
  rintro rfl
  rcases hc with rfl | hc
  ·rw [I.free] at e; cases e
  ·rw [I.free] at hc; cases hc
end
noncomputable def tTry (K:PySem.W.Frag) (FE:Addr) (i n:Nat) (tb:XK->TS) (th:Addr->TS):TS:=fun D σ H=>∃ E:XK,tb E D σ H/\∀ C H1,E (.ref C) none H1->(ExcC K C/\PySem.W.mroIn K C (.ref FE)=some true) ∧
 ∀ a,H1 a=none->th a ⟨fun σ' H'=>D.nx (σ'.set i none) H',D.rt,fun σ' H'=>D.bk (σ'.set i none) H',fun σ' H'=>D.ct (σ'.set i none) H'⟩ ((Wab n none).set i (some (.ref a))) (upd H1 a (.ext (InsC a C)))
section
variable {X:Cx} {x y:Str} {FE:Addr} {np hpos pos:Pos} {b0:Stmt} {body hb:List Stmt} {i n:Nat} {tb:XK->TS} {th:Addr->TS}
theorem Zok (nd:X.N.Nodup) (hi:X.N[i]? = some y) (hk:X.env.scope.names.lookup y=some .local) (hn:X.N.length=n) (hex:X.ex=[]) (hst:X.stack=X.env :: X.outer) (hf:X.env.frame=some X.env.locals) (hg:Gl X x) (hm:X.mg x=some (.ref FE)) (cF:ExcC X.K FE)
  (hbd:∀ (E:XK) (pn:List (Addr × Obj)) (xe:Value->Shared->Prop),Passes (CXE X.prog X.w) (XT X pn xe) E->PSs (XT X pn xe) body (tb E)) (hh:∀ a,PSs (XC X a) (b0 :: hb) (th a)) (hfn:X.fn y=true\/X.env.scope.names.lookup y=some .local:=by exact .inr rfl) (hdb:(x == ("__debug__":Str))=false:=by decide) :
  PS X (.Try body [.ExceptHandler (some (.Name x np)) (some y) (b0 :: hb) hpos] [] [] pos) (tTry X.K FE i n tb th):=by
 intro pins s σ H D I h
 obtain ⟨E,hB,hE⟩:=h
 refine wpAny_Try_except ?_
 refine wpAny_mono (hbd E (X.pn ++ pins) (fun e s1=>wpAny (model X.prog X.w) X.A (noteFrame e X.env) (fun _ s2=>wpAny (model X.prog X.w) X.A (setFlight e none) (fun _ s3=>wpAny (model X.prog X.w) X.A (handleBy e X.env [.ExceptHandler (some (.Name x np)) (some y) (b0 :: hb) hpos]) (SP X pins D) X.xe s3) X.xe s2) X.xe s1) ?_ [] s σ H D I.into hB) (fun f s1 hq=>?_) (fun _ _ z=>z)
 ·intro pins1 σ1 H1 s1 e s2 J hq
  obtain ⟨a,C,T,H2,rfl,os,bare,un,hok,ha,hsa,hT,hsT,tr,hE'⟩:=hq
  have J1:Inv X pins σ1 H1 s1:=Inv.outof I.ok J
  have J2:Inv X pins σ1 H2 s2:=J1.call' (ch:=[]) os un hok bare (fun b z=>absurd z (by simp))
  have na:=(Nw.of J1 hex hsa).at ha
  have nT:=(Nw.of J1 hex hsT).at hT
  obtain ⟨⟨cC,mC⟩,hth⟩:=hE C H2 hE'
  refine Zi2 J2 hex hst hf tr na nT fun h3 T3 K3 t3 n3=>?_
  have inC:∀ {h:Heap} {T:Addr},Trc h a C T->InsC a C h:=fun q=>by
   obtain ⟨oe,vs,oT,ts,q1,q2,q3,_,q4,_⟩:=q
   exact ⟨oe,vs,q1,q2,q3,q4⟩
  refine wpAny_handleBy_cons (codeAny_handlers_test ?_) (by intro q; cases q)
  refine Zdq (X:=XC X a) (K3.suite a) hg hm ?_ hdb
  refine Zd9 (K:=X.K) K3.kIn cF cC mC (inC t3) ?_
  refine codeAny_handlers_suite_as ?_
  refine Zjg K3 hex t3 na n3 fun h4 T4 K4 t4 n4=>?_
  have K5:=(K4.held na (inC t4)).suite a
  have K6:=K5.weak (σ':=Wab n none) (by rw [Waz,<- hn]; exact K5.len.symm) (fun j v z=>by
   rw [Wbc] at z
   split at z <;> cases z)
  refine Zc4 (X:=XC X a) (v:=.ref a) K6 nd hi (.inl hk) rfl (fun s5 K7=>?_) hfn
  refine wpAny_mono (hh a pins s5 _ _ _ K7 (hth a ha)) (fun f s6 q=>?_) (fun _ _ z=>z.elim)
  cases f with
  | next=>
   obtain ⟨σ',H',K8,q⟩:=q
   exact Inv.gone (K8.unsuite I.ok) nd hi hk fun s7 K9=>⟨_,H',K9,q⟩
  | brk=>
   obtain ⟨σ',H',K8,q⟩:=q
   exact Inv.gone (K8.unsuite I.ok) nd hi hk fun s7 K9=>⟨_,H',K9,q⟩
  | cont=>
   obtain ⟨σ',H',K8,q⟩:=q
   exact Inv.gone (K8.unsuite I.ok) nd hi hk fun s7 K9=>⟨_,H',K9,q⟩
  | ret u=>
   obtain ⟨v,σ',H',K8,r,q⟩:=q
   exact Inv.gone (K8.unsuite I.ok) nd hi hk fun s7 K9=>⟨v,_,H',K9,r,q⟩
 ·cases f with
  | next=>
   obtain ⟨σ',H',J,q⟩:=hq
   exact wpAny_execs_nil ⟨σ',H',Inv.outof I.ok J,q⟩
  | brk=>
   obtain ⟨σ',H',J,q⟩:=hq
   exact ⟨σ',H',Inv.outof I.ok J,q⟩
  | cont=>
   obtain ⟨σ',H',J,q⟩:=hq
   exact ⟨σ',H',Inv.outof I.ok J,q⟩
  | ret u=>
   obtain ⟨v,σ',H',J,r,q⟩:=hq
   exact ⟨v,σ',H',Inv.outof I.ok J,r,q⟩
end
end L2
set_option Elab.async false
set_option linter.all false
set_option maxRecDepth 100000
namespace L2
open PySem PySem.Spec PyProof.Rows
noncomputable def PF (X:Cx) (e:Expr) (n:Nat):Prop:=
 ∀ (pins:List (Addr × Obj)) (s:Shared) (σ:St) (H:Hp) (Q:Value->Shared->Prop),Inv X pins σ H s->(∀ (x:Str) (tk:Tok) s',x.length<=n->Inv X pins σ H s' -> Q (.str x tk) s')->wpAny (model X.prog X.w) X.A (eval e X.env) Q X.xe s
noncomputable def PFs (X:Cx) (es:List Expr) (n:Nat):Prop:=
 ∀ (pins:List (Addr × Obj)) (s:Shared) (σ:St) (H:Hp) (acc:Str) (Q:Str->Shared->Prop),Inv X pins σ H s->acc.length + n<=sizeLine->(∀ (x:Str) s',x.length<=acc.length + n->Inv X pins σ H s' -> Q x s')->Joins (model X.prog X.w) X.A X.xe (evalEach es X.env) acc Q s
noncomputable def tSome:TE:=fun _ H Q=>∀ x:Str,Q (.str x) H
section
variable {X:Cx} {x:Str} {j:Option Str} {p pos:Pos} {n m:Nat} {e:Expr} {es:List Expr} {v1 v2:Expr}
theorem Zij {j} (h:x.length<=n:=by decide):PF X (.Constant (.str x) j pos) n:=fun _ s σ H Q I q=>Calls.Constant_str (q x _ _ h (I.tok _))
theorem Zkq {i:Int} {tk:Tok} (hg:Gl X x) (hm:X.mg x=some (.int i tk)) (hz:i.natAbs.log2 < 1920:=by decide) (hl:(Str.ofString (toString i)).length<=n:=by decide +kernel) (hd:(x == ("__debug__":Str))=false:=by decide):PF X (.FormattedValue (.Name x p) (-1) none pos) n:=fun _ s σ H Q I q=>
 wpAny_FormattedValue_plain (Zdq I hg hm (wpAny_formatField_int hz (q _ _ _ hl (I.tok _))) hd)
theorem Zl2:PFs X [] 0:=fun _ s σ H acc Q I z q=>q acc s (Waj _) I
theorem Zc9 (h:PF X e n) (hs:PFs X es m):PFs X (e :: es) (n + m):=fun pins s σ H acc Q I z q=>by
 show wpAny _ _ (eval e X.env) _ _ s
 refine h pins s σ H _ I fun y tk s' hy I'=>⟨y,tk,rfl,?_,hs pins s' σ H _ Q I' ?_ fun w s2 hw I2=>q w s2 ?_ I2⟩
 ·rw [Str.length_append]; omega
 ·rw [Str.length_append]; omega
 ·rw [Str.length_append] at hw; omega
theorem Zl1 (h:PFs X (v1 :: v2 :: es) n) (hn:n<=sizeLine:=by decide):PE X (.JoinedStr (v1 :: v2 :: es) pos) tSome:=fun pins s σ H Q I q=>
 wpAny_JoinedStr (h pins s σ H Str.empty _ I (by show 0 + n<=sizeLine; omega) fun y s' hy I'=>⟨by have:Str.empty.length=0:=rfl; omega,.str y,H,I'.tok _,⟨_,rfl⟩,q y⟩)
end
noncomputable def rIsiE (K:PySem.W.Frag):List V->Hp->VK->Prop:=fun xs H Q=>∃ a C b,H a=some (.ext (InsC a C))/\ExcI K C/\Q (.bl b) H ∧
 ((∃ c,xs=[.ref a,.ref c]/\PySem.W.kitOne K (.ref C) (.ref c)=some b)\/(∃ t,xs=[.ref a,.ty t]/\PySem.W.kitOne K (.ref C) (.type t)=some b) ∨
  ∃ (p:Addr) (cs:List Addr),xs=[.ref a,.ref p]/\H p=some (.tup (cs.map V.ref))/\PySem.W.kitAny K (.ref C) (cs.map Value.ref)=some b)
section
variable {X:Cx}
theorem isiEK (K:PySem.W.Frag) (hK:X.K=K:=by rfl):CallR X (.builtin "isinstance") (rIsiE K):=by
 subst hK
 intro pins s σ H xs us Q I r h
 obtain ⟨a,C,b,ha,Z,q,h⟩:=h
 obtain ⟨hi,_⟩:=I.hok a _ ha
 rcases h with ⟨c,rfl,e⟩ | ⟨t,rfl,e⟩ | ⟨p,cs,rfl,hp,e⟩
 ·obtain ⟨u,u',rfl,rx,rn⟩:=vals2 r
  cases (show u=Value.ref a from rx)
  cases (show u' = Value.ref c from rn)
  exact PySem.W.kia_one (Zeq Z) I.kIn hi e (fun z=>nomatch z) fun tk=>⟨.bl b,H,I.tok _,rfl,q⟩
 ·obtain ⟨u,u',rfl,rx,rn⟩:=vals2 r
  cases (show u=Value.ref a from rx)
  cases (show u' = Value.type t from rn)
  exact PySem.W.kia_one (Zeq Z) I.kIn hi e (fun z=>nomatch z) fun tk=>⟨.bl b,H,I.tok _,rfl,q⟩
 ·obtain ⟨u,u',rfl,rx,rn⟩:=vals2 r
  cases (show u=Value.ref a from rx)
  cases (show u' = Value.ref p from rn)
  obtain ⟨_,its,rv,o,ho,⟨hc,n,hd⟩,hdd⟩:=I.hok p _ hp
  have hv:∀ (ns:List Addr) (its:List Value),Vals (ns.map V.ref) its->its=ns.map Value.ref:=by
   intro ns
   induction ns with
   | nil=>intro its h; cases h; rfl
   | cons b r ih=>intro its h; cases h with | cons h1 h2=>cases (show _=Value.ref b from h1); rw [ih _ h2]; rfl
  have e2:=hv cs its rv
  subst e2
  obtain ⟨cls,dd,data,sl⟩:=o
  simp only at hc hd hdd
  subst hc hd hdd
  exact PySem.W.kia_tup (Zeq Z) I.kIn hi ho e (fun z=>nomatch z) fun tk=>⟨.bl b,H,I.tok _,rfl,q⟩
end
end L2
set_option Elab.async false
set_option linter.all false
set_option maxRecDepth 100000
namespace L2
open PySem PySem.Spec PyProof.Rows
structure CalleeX (P:Program) (w:World) (K:PySem.W.Frag) (mg:Str->Option Value) (base:Heap) (k:Nat) (x:Str) (ps:List Str) (sp:Sp):Prop where
 ex:∃ (f:Addr) (fd:FuncData),FnOk P w K mg base (CXE P w) k f fd ps sp/\Binds K fd ps []/\PySem.W.keepIn K (.ref f)=true/\mg x=some (.ref f)
section
variable {X:Cx} {k:Nat} {x:Str} {ps:List Str} {sp:Sp} {e:Expr} {es:List Expr} {t:TA} {p pos:Pos} {E:XK}
theorem Zdf (C:CalleeX X.prog X.w X.K X.mg X.base k x ps sp) (hr:Room k X.A) (hx:Passes (CXE X.prog X.w) X E) (ha:PA X (e :: es) t) (hg:Gl X x:=by rfl) (hdb:(x == ("__debug__":Str))=false:=by decide)
  (he:starEach (e :: es) X.env=(false,eval e X.env) :: starEach es X.env:=by rfl) (hpl:(backTo pos (starEach es X.env)).any (·.1)=false:=by rfl):PE X (.Call (.Name x p) (e :: es) [] pos) (tCall sp [] E t):=by
 obtain ⟨f,fd,F,b,kp,m⟩:=C.ex
 exact Zi4 F hr hg m kp b .nil hx ha hdb he hpl
end
section
variable {P:Program} {w:World} {K:PySem.W.Frag} {mg:Str->Option Value} {base:Heap}
theorem Fun.okX {x qual:Str} {st:Stmt} {f:Addr} {fd:FuncData} {N ps:List Str} {k:Nat} {sp:Sp} (F:Fun K x qual st f fd) (S:FnScope N ps (defScope st)) (len:∀ vs H Q E,sp vs H Q E->vs.length=ps.length)
  (hbody:∀ (cdv:Value) (A:Around) (outer:List Env) (s:Shared) (H:Hp) (vs:List V) (Q:VK) (E:XK),Room k (A.deeper (envOfC qual (defScope st) s.heap.objs.size f cdv))->sp vs H Q E →
   ∃ t,PSs (cxOf (CXE P w) P w K mg base N qual (defScope st) f cdv A outer s H E) (defBody st) t/\t { nx:=fun _ H'=>Q .non H',rt:=Q } (start N vs) H):FnOk P w K mg base (CXE P w) (k + 1) f fd ps sp:=by
 obtain ⟨oc,od,kV,doc,pm,an,cdv,ct,osl,rfl,lk,hcd⟩:=F.ex
 exact Znw lk hcd S len fun A outer s H vs Q E hr hsp=>hbody cdv A outer s H vs Q E hr hsp
end
noncomputable def EW (E:XK) (Xp:Addr->Prop) (g:Gm):Prop:=∀ C H',(∀ b o,¬ g.B b->g.Hz b=some o->H' b=some o)->(∀ b,g.B b->H' b ≠ none)->Same g.F H' -> (∀ b o,g.Xo b=some o->H' b=some o)->Xp C->E (.ref C) none H'
noncomputable def JX (K:PySem.W.Frag) (E:XK) (Xp:Addr->Prop) (t:TS) (Δ:Evt) (P:Pst):Prop:=∀ g G H σ D,EW E Xp g->Ok K g G H σ Δ -> SCont K g P D->t D σ H
noncomputable abbrev XSp:=List D->(D->Prop)->(Addr->Prop)->Prop
noncomputable def spX (K:PySem.W.Frag) (f:XSp):Sp:=fun vs H Q E=>∃ F ds Post Xp,Same F H/\Reps K F vs ds/\f ds Post Xp/\(∀ r H' d,Same H H' -> Rep K (glue F H H') r d->Post d->Q r H')/\∀ C H',Same H H' -> Xp C->E (.ref C) none H'
section
variable {K:PySem.W.Frag} {Δ:Evt} {E:XK} {Xp:Addr->Prop} {nx bk ct:Evt->Prop} {rt:D->Evt->Prop} {ro:OD->Evt->Prop}
theorem EW.at {g:Gm} {G H H':Hp} {σ:St} {C:Addr} (w:EW E Xp g) (k:Ok K g G H σ Δ) (s:Same H H') (x:Xp C):E (.ref C) none H':=
 w C H' (fun b o hb e=>s b o (k.same b o hb e)) (fun b hb z=>by
  cases q:H b with
  | none=>exact k.lent b hb q
  | some o=>rw [s b o q] at z; cases z) (fun b o e=>s b o (k.live b o (k.sub b o e))) (fun b o e=>s b o (k.ext b o e).1) x
theorem Zce {f:XSp} {n:Nat} (h:∀ ds Post Xp,f ds Post Xp->ds.length=n):∀ vs H Q E,spX K f vs H Q E->vs.length=n:=fun vs H Q E hq=>by
 obtain ⟨F,ds,Post,Xp,l,rs,hf,q⟩:=hq
 rw [rs.length]; exact h ds Post Xp hf
theorem Zfg {f:XSp} {t:TS} {N:List Str} {vs:List V} {H:Hp} {Q:VK} (ht:∀ ds Post Xp,f ds Post Xp->ds.length<=N.length/\JX K E Xp t (startD N ds) ⟨fun _=>Post .non,fun d _=>Post d,fun _=>False,fun _=>False,fun _ _=>False⟩) (h:spX K f vs H Q E) :
  t { nx:=fun _ H'=>Q .non H',rt:=Q } (start N vs) H:=by
 obtain ⟨F,ds,Post,Xp,l,rs,hf,q,x⟩:=h
 obtain ⟨hl,hj⟩:=ht ds Post Xp hf
 have fin:∀ {v:V} {d:D} {σ:St} {G H':Hp} {Δ:Evt},Ok K ⟨fun _=>False,F,H,fun _=>none⟩ G H' σ Δ -> Rep K G v d->Post d->Q v H':=fun {v d σ G H' Δ} k r p=>by
  refine q v H' d (fun b o e=>k.same b o (fun z=>z) e) (r.mono fun b o e=>?_) p
  obtain ⟨e1,e2⟩:=k.frz b o e
  rcases e2 with z | z
  ·rw [Zcw z]; exact e1
  ·rw [Zb7 (l b o z)]; exact z
 refine hj ⟨fun _=>False,F,H,fun _=>none⟩ F H (start N vs) _ (fun C H' h1 _ _ _ xc=>x C H' (fun b o e=>h1 b o (fun z=>z) e) xc) (Zdj rs hl (fun _ _ _ e=>e) (fun _ z=>z.elim) (Same.refl _) (fun b o e=>⟨l b o e,.inr e⟩) fun _=>rfl) ⟨fun σ G H' Δ k p=>fin k .non p,fun v d σ G H' Δ k r p=>fin k r p,fun _ _ _ _ _ z=>z.elim,fun _ _ _ _ _ z=>z.elim,fun _ _ _ _ _ _ _ _ z=>z.elim⟩
theorem Zj9 {t:TS} {P:Pst} (h:JS K t Δ P):JX K E Xp t Δ P:=fun g G H σ D _ k c=>h g G H σ D k c
theorem Zc5 {t u:TS} (h:JX K E Xp t Δ ⟨fun Δ1=>JX K E Xp u Δ1 ⟨nx,rt,bk,ct,ro⟩,rt,bk,ct,ro⟩):JX K E Xp (tSeq t u) Δ ⟨nx,rt,bk,ct,ro⟩:=fun g G H σ D w k c=>
 h g G H σ _ w k ⟨fun σ1 G1 H1 Δ1 k1 p1=>p1 g G1 H1 σ1 D w k1 c,c.rt,c.bk,c.ct,c.ro⟩
theorem Zdp {t u:TS} (h:JS K t Δ ⟨fun Δ1=>JX K E Xp u Δ1 ⟨nx,rt,bk,ct,ro⟩,rt,bk,ct,ro⟩):JX K E Xp (tSeq t u) Δ ⟨nx,rt,bk,ct,ro⟩:=Zc5 (Zj9 h)
theorem Zli {c:TT} {t u:TS} {P:Pst} (h:JT K c Δ fun b Δ1=>if b=true then JX K E Xp t Δ1 P else JX K E Xp u Δ1 P):JX K E Xp (tIfS c t u) Δ P:=fun g G H σ D w k q=>
 h g G H σ _ k fun b G1 H1 Δ1 k1 s1 p1=>by
  cases b with
  | true=>exact (show JX K E Xp t Δ1 P from p1) g G1 H1 σ D w k1 q
  | false=>exact (show JX K E Xp u Δ1 P from p1) g G1 H1 σ D w k1 q
theorem Zfy {P:Pst} (p:P.nx Δ):JX K E Xp tNext Δ P:=Zj9 (Ziw p)
theorem Zdh {C:Addr} {ta:TA} {P:Pst} (h:JA K ta Δ fun ds Δ1=>ds.length<=sizeLine/\Xp C):JX K E Xp (tRaise C E ta) Δ P:=fun g G H σ D w k q=>
 h g G H σ _ k fun vs ds G1 H1 Δ1 k1 s1 r1 ⟨z,x⟩=>⟨by rw [r1.length]; exact z,w.at k1 (Same.refl _) x⟩
noncomputable def JEX (K:PySem.W.Frag) (E:XK) (Xp:Addr->Prop) (t:TE) (Δ:Evt) (P:D->Evt->Prop):Prop:=∀ g G H σ Q,EW E Xp g->Ok K g G H σ Δ -> Cont K g G σ P Q->t σ H Q
theorem Zba {f:XSp} {ta:TA} {P:D->Evt->Prop} (h:JA K ta Δ fun ds Δ1=>f ds (fun d=>P d Δ1) Xp):JEX K E Xp (tCall (spX K f) [] E ta) Δ P:=fun g G H σ Q w k c=>
 h g G H σ _ k fun vs ds G1 H1 Δ1 k1 s1 r1 p1=>by
  show spX K f (vs ++ []) H1 Q E
  rw [Wba]
  refine ⟨G1,ds,_,_,k1.live,r1,p1,fun r H' d sh rr pd=>?_,fun C H' sh x=>w.at k1 sh x⟩
  have sg:=Zdi (H':=H') k1.live
  exact c r d _ H' Δ1 (k1.grow sg sh (Ze3 k1.live fun b o _ e=>sh b o e)) (s1.trans sg) rr pd
theorem Zfo {te:TE} {P:Pst} (h:JEX K E Xp te Δ P.rt):JX K E Xp (tRet te) Δ P:=fun g G H σ D w k c=>
 h g G H σ _ w k fun v d G1 H1 Δ1 k1 s1 r1 p1=>c.rt v d σ G1 H1 Δ1 k1 r1 p1
theorem Zcp {te:TE} {P:Pst} (h:JEX K E Xp te Δ fun _ Δ1=>P.nx Δ1):JX K E Xp (tDrop te) Δ P:=fun g G H σ D w k c=>
 h g G H σ _ w k fun v d G1 H1 Δ1 k1 s1 r1 p1=>c.nx σ G1 H1 Δ1 k1 p1
theorem Zhk {P:D->Evt->Prop} (p:∀ x:Str,P (.str x) Δ):JE K tSome Δ P:=fun g G H σ Q k c x=>c _ _ G H Δ k (Same.refl _) (.str x) (p x)
theorem Ok.unset {g:Gm} {G H:Hp} {σ:St} (k:Ok K g G H σ Δ) (i:Nat):Ok K g G H (σ.set i none) (Δ.set i .any):=by
 have ne:∀ (j:Nat) x,(Δ.set i .any)[j]? = some x->x ≠ .any->j ≠ i /\ Δ[j]? = some x/\(σ.set i none)[j]? = σ[j]?:=fun j x e h=>by
  by_cases hj:j=i
  ·subst hj
   rw [Wb5] at e
   split at e
   ·split at e
    ·cases e; exact absurd rfl h
    ·cases e
   ·rename_i z; exact absurd rfl z
  ·rw [Wag (Ne.symm hj)] at e
   exact ⟨hj,e,Wag (Ne.symm hj)⟩
 have od:∀ (x:Slot) o,x.od=some o->x ≠ .any:=fun x o e z=>by subst z; cases e
 refine ⟨k.same,k.lent,k.sub,k.frz,fun b o e=>?_,by simp [k.len],fun j d e=>?_,fun j x o e1 e2=>?_,fun j l x y o o' a e1 e2 e3 e4 e5 e6=>?_⟩
 ·obtain ⟨h1,h2,h3⟩:=k.ext b o e
  refine ⟨h1,h2,fun j x o e1 e2=>?_⟩
  obtain ⟨_,q1,q2⟩:=ne j x e1 (od x o e2)
  rw [q2]; exact h3 j x o q1 e2
 ·obtain ⟨_,q1,q2⟩:=ne j _ e (by intro z; cases z)
  rw [q2]; exact k.val j d q1
 ·obtain ⟨_,q1,q2⟩:=ne j x e1 (od x o e2)
  rw [q2]; exact k.own j x o q1 e2
 ·obtain ⟨_,q1,q2⟩:=ne j x e1 (od x o e2)
  obtain ⟨_,q3,q4⟩:=ne l y e3 (od y o' e4)
  rw [q2] at e5; rw [q4] at e6
  exact k.dis j l x y o o' a q1 e2 q3 e4 e5 e6
theorem Znl {FE:Addr} {i n:Nat} {tb:XK->TS} {th:Addr->TS} (Xp:Addr->Prop) (hn:Δ.length=n) (hi:i < n) (hb:∀ E,JX K E Xp (tb E) Δ ⟨nx,rt,bk,ct,ro⟩)
  (hh:∀ C,Xp C->(ExcC K C/\PySem.W.mroIn K C (.ref FE)=some true)/\∀ a,JS K (th a) ((Wab n .any).set i (.val (.exc a C))) ⟨fun Δ1=>nx (Δ1.set i .any),rt,fun Δ1=>bk (Δ1.set i .any),fun Δ1=>ct (Δ1.set i .any),ro⟩) :
  JS K (tTry K FE i n tb th) Δ ⟨nx,rt,bk,ct,ro⟩:=fun g G H σ D k c=>by
 refine ⟨fun v _ H'=>∃ C,v=.ref C/\Xp C/\(∀ b o,¬ g.B b->g.Hz b=some o->H' b=some o)/\(∀ b,g.B b->H' b ≠ none)/\Same g.F H' /\ (∀ b o,g.Xo b=some o->H' b=some o),?_,fun C H1 hq=>?_⟩
 ·exact hb _ g G H σ D (fun C H' h1 h2 h3 h4 x=>⟨C,rfl,x,h1,h2,h3,h4⟩) k c
 ·obtain ⟨C',e,x,h1,h2,h3,h4⟩:=hq
  cases e
  obtain ⟨hx,hj⟩:=hh C x
  refine ⟨hx,fun a ha=>?_⟩
  have noOd:∀ (j:Nat) (z:Slot) o,(Wab n Slot.any)[j]? = some z->z.od=some o->False:=fun j z o e1 e2=>by
   rw [Wbc] at e1
   split at e1
   ·cases e1; cases e2
   ·cases e1
  have k0:Ok K g g.F H1 (Wab n none) (Wab n .any):=by
   refine ⟨h1,h2,Same.refl _,fun b o e=>⟨h3 b o e,.inr e⟩,fun b o e=>⟨h4 b o e,?_,fun j z o' e1 e2=>(noOd j z o' e1 e2).elim⟩,by simp,fun j d e=>?_,fun j z o' e1 e2=>(noOd j z o' e1 e2).elim,fun j l z y o o' b e1 e2=>(noOd j z o e1 e2).elim⟩
   ·cases q:g.F b with
    | none=>rfl
    | some u=>have z:=(k.ext b o e).2.1; rw [k.sub b u q] at z; cases z
   ·rw [Wbc] at e
    split at e <;> cases e
  obtain ⟨k1,sg⟩:=k0.laid ha (.ext (InsC a C))
  have k2:=k1.setVal (i:=i) (by simpa using hi) (.exc Zao)
  exact hj a g _ _ _ _ k2 ⟨fun σ' G' H' Δ' k' p=>c.nx _ G' H' _ (k'.unset i) p,c.rt,fun σ' G' H' Δ' k' p=>c.bk _ G' H' _ (k'.unset i) p,fun σ' G' H' Δ' k' p=>c.ct _ G' H' _ (k'.unset i) p,c.ro⟩
theorem Zmp {a C c:Addr} {b:Bool} {P:D->Evt->Prop} (Z:ExcI K C) (e:PySem.W.kitOne K (.ref C) (.ref c)=some b) (p:P (.bl b) Δ):JC K (rIsiE K) [.exc a C,.adr c] Δ P:=fun g G H σ Q vs k rs q=>by
 obtain ⟨_,_,rfl,r,t⟩:=rs.inv
 next=>
  obtain ⟨_,_,rfl,r',t⟩:=t.inv
  next=>
   cases t.inv
   obtain ⟨rfl,ha⟩:=r.inv
   next=>
    cases r'.inv
    exact ⟨_,C,b,k.live _ _ ha,Z,q _ _ G H Δ k (Same.refl _) (.bl b) p,.inl ⟨c,rfl,e⟩⟩
theorem Zjt {a C:Addr} {n:String} {b:Bool} {P:D->Evt->Prop} (Z:ExcI K C) (e:PySem.W.kitOne K (.ref C) (.type n)=some b) (p:P (.bl b) Δ):JC K (rIsiE K) [.exc a C,.ty n] Δ P:=fun g G H σ Q vs k rs q=>by
 obtain ⟨_,_,rfl,r,t⟩:=rs.inv
 next=>
  obtain ⟨_,_,rfl,r',t⟩:=t.inv
  next=>
   cases t.inv
   obtain ⟨rfl,ha⟩:=r.inv
   next=>
    cases r'.inv
    exact ⟨_,C,b,k.live _ _ ha,Z,q _ _ G H Δ k (Same.refl _) (.bl b) p,.inr (.inl ⟨n,rfl,e⟩)⟩
theorem Zkm {a:Addr} {P:D->Evt->Prop} (p:P (.adr a) Δ):JE K (tC (.ref a)) Δ P:=fun g G H σ Q k c=>c _ _ G H Δ k (Same.refl _) (.adr a) p
end
theorem Zav {K:PySem.W.Frag} {C c:Addr} {b:Bool} (h1:PySem.W.isClsIn K c=true) (h2:PySem.W.typeIn K (.ref c)=some (.type "type")) (h3:PySem.W.subIn K (.ref C) (.ref c)=some b) (h4:(C == c)=true->b=true):PySem.W.kitOne K (.ref C) (.ref c)=some b:=by
 unfold PySem.W.kitOne PySem.W.kitCls
 by_cases e:(Value.ref C == Value.ref c)=true
 ·rw [if_pos e]
  have e':C=c:=Value.ref.inj (beq_iff_eq.mp e)
  rw [h4 (by rw [e']; exact beq_self_eq_true c)]
 ·rw [if_neg e]
  have h1:(PySem.W.clsIn K c).isSome=true:=h1
  simp only [h1,h2,beq_self_eq_true,Bool.and_self,if_true,h3]
end L2
set_option Elab.async false
set_option linter.all false
set_option maxRecDepth 100000
namespace L2
open PySem PySem.Spec PyProof.Rows PySem.SeqAt
theorem Zbj {A:Around} {s:Shared} {x:V} {v u:Value} (h:flatV x=true) (rv:RelV x v) (ru:RelV x u):EqAt A s v u true:=by
 cases x with
 | non=>cases (show v=Value.none from rv); cases (show u=Value.none from ru); exact EqAt.same _
 | bl b=>cases (show v=Value.bool b from rv); cases (show u=Value.bool b from ru); exact EqAt.same _
 | int i=>
  obtain ⟨t,rfl⟩:=rv
  obtain ⟨t',rfl⟩:=ru
  have:=EqAt.int_int (A:=A) (s:=s) i t i t'
  rwa [beq_self_eq_true] at this
 | str i=>
  obtain ⟨t,rfl⟩:=rv
  obtain ⟨t',rfl⟩:=ru
  have:=EqAt.str_str (A:=A) (s:=s) i t i t'
  rwa [beq_self_eq_true] at this
 | _=>cases h
section
variable {K:PySem.W.Frag} {Δ:Evt} {P:D->Evt->Prop}
noncomputable def flatE:D->Bool
 | .non=>true
 | .bl _=>true
 | .int _=>true
 | .str _=>true
 | _=>false
end
theorem Zel:bootBuiltins "ValueError" = some (.type "ValueError"):=by decide +kernel
theorem Zhy {K:PySem.W.Frag} {C:Addr} {n:String} {b:Bool} (hm:PySem.W.kitMeta n=true) (h:PySem.W.subIn K (.ref C) (.type n)=some b):PySem.W.kitOne K (.ref C) (.type n)=some b:=by
 unfold PySem.W.kitOne PySem.W.kitCls
 have e:¬ (Value.ref C == Value.type n)=true:=fun z=>by cases beq_iff_eq.mp z
 rw [if_neg e]
 simp only [hm,if_true,h]
end L2
set_option Elab.async false
set_option linter.all false
set_option maxRecDepth 100000
namespace L2
open PySem PySem.Spec PyProof.Rows
theorem Zej:entryFor table "proto.unchain" = some Builtin.«proto.unchain»:=entryFor_of_tree (by kernel_rfl)
section
variable {prog:Program} {w:World} {A:Around} {E:Value->Shared->Prop} {s:Shared}
theorem raiseH {α:Type} {a e:Addr} {oa oe:Obj} {va ve:Array Value} {Q:α -> Shared->Prop} (hh:A.handled=some (.ref a)) (hne:a ≠ e) (ha:s.heap.get? a=some oa) (hda:oa.data=.fields va) (h2:va[2]? = some .none)
  (he:s.heap.get? e=some oe) (hde:oe.data=.fields ve) (hsz:2 < ve.size) (h:E (.ref e) { s with heap:=s.heap.update e (Obj.mapFields (·.setIfInBounds 2 (.ref a))) }):wpAny (model prog w) A (raiseNew (.ref e):Sem α) Q E s:=by
 unfold raiseNew
 refine wpAny_bind (wpAny_handled ?_)
 rw [hh]
 dsimp only
 have hn:(Value.ref a != Value.ref e)=true:=by
  rw [bne_iff_ne]
  intro z
  exact hne (Value.ref.inj z)
 rw [if_pos hn]
 refine wpAny_bind (wpAny_holding (wpAny_runValue (codeAny_builtin Zej ?_)))
 unfold Builtin.«proto.unchain»
 dsimp only
 refine wpAny_bind (wpAny_field ha hda h2 ?_)
 rw [if_pos (show (Value.none == Value.none)=true from rfl)]
 refine wpAny_pure ?_
 show wpAny _ _ (updateField e 2 (.ref a) >>= _) _ _ s
 unfold updateField
 refine wpAny_bind (wpAny_bind (wpAny_load he ?_))
 rw [hde]
 dsimp only
 rw [if_pos hsz]
 exact wpAny_update he (wpAny_throw h)
theorem Zgz {a it:Addr} {oa:Obj} {va:Array Value} {x left step:Int} {Q:Option Value->Shared->Prop} (hh:A.handled=some (.ref a)) (ha:s.heap.get? a=some oa) (hda:oa.data=.fields va) (h2:va[2]? = some .none) (hit:IsRangeIter s.heap it x left step) (hleft:left<=0)
  (hQ:∀ h',Heap.ExtBut it s.heap h' -> Q none { s with heap:=h' }):wpAny (model prog w) A (pyNext (.ref it)) Q E s:=by
 have hT:s.TypeIs (.ref it) "range_iterator":=⟨_,hit,rfl⟩
 unfold pyNext
 refine wpAny_bind (wpAny_attempt (wpAny_callSpecial?_slot (name:=Str.ofString "__next__") hT F.slot_range_iterator_next (wpAny_call_entry F.slot_range_iterator_next hT F.entry_range_iterator_next ?_ (F.args_range_iterator_next_1 _))))
 show wpAny _ _ (field (.ref it) 0 >>= _) _ _ s
 refine wpAny_bind (wpAny_field hit rfl (x:=rawInt x) rfl ?_)
 show wpAny _ _ (field (.ref it) 1 >>= _) _ _ s
 refine wpAny_bind (wpAny_field hit rfl (x:=rawInt left) rfl ?_)
 show wpAny _ _ (field (.ref it) 2 >>= _) _ _ s
 refine wpAny_bind (wpAny_field hit rfl (x:=rawInt step) rfl ?_)
 show wpAny _ _ (if left<=0 then _ else _) _ _ s
 rw [if_pos hleft]
 refine wpAny_bind (wpAny_rule (wpAny_bind ?_))
 show wpAny _ _ (newExc (.type "StopIteration") [] >>= _) _ _ _
 refine wpAny_bind ?_
 simp only [newExc,newTuple]
 refine wpAny_bind (wpAny_newObj_type ?_ (by size_fits))
 refine wpAny_bind (m:=firstArgMember _ _) (wpAny_of_eq (a:=Value.none) (by first | rfl | (simp only [firstArgMember]; rfl)) (wpAny_newObj_type ?_ (by size_fits)))
 have lt:=Wal ha
 have nb:∀ b o,s.heap.get? b=some o->s.heap.objs.size + 1 ≠ b:=fun b o e=>Nat.ne_of_gt (Nat.lt_succ_of_lt (Wal e))
 refine raiseH (a:=a) (A:=A.in1) hh (Ne.symm ?_) (Wad _ (Wad _ ha)) hda h2 (Wav _ rfl) rfl (by rw [Array.size_append]; exact Wan (show 2 < 6 by decide) (Nat.le_add_right _ _)) ?_
 ·rw [Heap.size_push]; exact nb a oa ha
 ·refine wpAny_bind (wpAny_isInstance (T:="StopIteration") (b:=true) ⟨_,Wbo _ (Wav _ rfl) rfl,rfl⟩ isSubtype_stop ?_)
  refine wpAny_pure (hQ _ fun b o hb e=>?_)
  rw [Waw _ _ (by rw [Heap.size_push]; exact nb b o e)]
  exact Wad _ (Wad _ e)
end
end L2
set_option Elab.async false
set_option linter.all false
set_option maxRecDepth 100000
namespace L2
open PySem PySem.Spec PyProof.Rows
noncomputable def ItrH (xa:Addr) (lo:Int) (n:Nat):It:=⟨fun i _=>i < n,fun i H x H'=>H' = H/\x=.int (lo + i),fun i H=>n<=i/\∃ C,H xa=some (.ext (InsC xa C))⟩
noncomputable def iRngH (xa:Addr) (ta:TA):TI:=fun σ H R=>ta σ H fun vs H1=>∃ j:Int,vs=[.int j] /\ -(2 ^ 62)<=j/\j < 2 ^ 62/\R (ItrH xa 0 j.toNat) H1
noncomputable abbrev TurnH (xa:Addr):=TurnG fun X=>X.A.handled=some (.ref xa)
noncomputable abbrev PIEH (xa:Addr):=PIEG fun X=>X.A.handled=some (.ref xa)
noncomputable abbrev PIH (xa:Addr):=PIG fun X=>X.A.handled=some (.ref xa)
theorem Zf4 {P:Program} {w:World} {K:PySem.W.Frag} {tg:Expr} (xa it:Addr) (lo:Int) (n:Nat):TurnH xa P w K tg (ItrH xa lo n) [it] it (fun i h=>IsRangeIter h it (lo + (i:Nat) * 1) ((n:Int) - (i:Nat)) 1) where
 mem:=by simp
 obj:=fun i h st b hb=>by
  have e:b=it:=by simpa using hb
  subst e
  exact ⟨_,st,fun v z=>by
   have z':Data.fields _=Data.cell v:=z
   cases z'⟩
 keep:=fun i h h' st k=>k it (by simp) _ st
 item:=by
  intro X hP hw hK hc i pins s σ H E I hf st hg
  subst hP hw hK
  obtain ⟨f0,f1,f2,f3,f4,f5⟩:=hf it (by simp)
  have hg:i < n:=hg
  refine wpAny_pyNext_range_item st (by omega) fun h' st' sb=>?_
  have I1:Inv X pins σ H { s with heap:=h',toks:=s.toks + 1 }:=I.turned (fun b o hb e=>(sb.2 b hb).trans e) f0 f1 f3 f4 f5
  have e1:lo + ((i + 1:Nat):Int) * 1=lo + (i:Int) * 1 + 1:=by omega
  have e2:(n:Int) - ((i + 1:Nat):Int)=(n:Int) - (i:Int) - 1:=by omega
  refine ⟨_,rfl,Zjd (s:={ s with heap:=h',toks:=s.toks + 1 }) (n:="range_iterator") st' rfl rfl (by decide) ⟨.int (lo + i),H,I1,⟨_,by rw [Int.mul_one]⟩,⟨rfl,rfl⟩,by rw [e1,e2]; exact st',fun b hb=>(hf b hb).1⟩⟩
 done:=by
  intro X hP hw hK hc i pins s σ H E I hf st hg
  subst hP hw hK
  obtain ⟨f0,f1,f2,f3,f4,f5⟩:=hf it (by simp)
  obtain ⟨hg,C,hC⟩:=hg
  obtain ⟨⟨ox,vs,q1,q2,q3,q4⟩,_⟩:=I.hok xa _ hC
  exact Zgz hc q1 q3 q4 st (by omega) fun h' eb=>⟨rfl,I.turned (t':=s.toks) (fun b o hb e=>eb b o hb e) f0 f1 f3 f4 f5⟩
 self:=fun _ _ _ _ _ st h=>wpAny_pyIter_rangeiter st h
section
variable {X:Cx} {xa:Addr} {tg:Expr}
theorem Zi9 {pins:List (Addr × Obj)} {σ:St} {H:Hp} {s:Shared} {R:It->Hp->Prop} {E:Value->Shared->Prop} {lo hi:Int} {t u v:Tok} {tk:Nat} (I:Inv X pins σ H s) (h1:-(2 ^ 62)<=lo) (h2:lo < 2 ^ 62) (h3:-(2 ^ 62)<=hi) (h4:hi < 2 ^ 62)
  (q:R (ItrH xa lo (hi - lo).toNat) H):wpAny (model X.prog X.w) X.A (pyIter (.ref s.heap.objs.size)) (PIEH xa X pins σ tg R) E { s with heap:=s.heap.push { cls:=.type "range",data:=.fields #[.int lo t,.int hi u,.int 1 v] },toks:=tk }:=by
 refine wpAny_pyIter_range (IsRange.new ..) (small_one h1 h2 h3 h4) ?_
 have I1:Inv X pins σ H { s with heap:=s.heap.push { cls:=.type "range",data:=.fields #[.int lo t,.int hi u,.int 1 v] },toks:=tk }:=I.kept fun b o e=>Wad _ e
 refine ⟨(s.heap.push { cls:=.type "range",data:=.fields #[.int lo t,.int hi u,.int 1 v] }).objs.size,[(s.heap.push { cls:=.type "range",data:=.fields #[.int lo t,.int hi u,.int 1 v] }).objs.size],_,_,H,rfl,
  I1.kept (t':=tk) fun b o e=>Wad _ e,Zf4 xa _ lo (hi - lo).toNat,?_,fun b hb=>?_,q⟩
 ·have e1:lo + ((0:Nat):Int) * 1=lo:=by simp
  have e2:(((hi - lo).toNat:Nat):Int) - ((0:Nat):Int)=Builtin.Range.rangeSize lo hi 1:=by rw [rangeSize_one]; split <;> omega
  show IsRangeIter _ _ (lo + ((0:Nat):Int) * 1) ((((hi - lo).toNat:Nat):Int) - ((0:Nat):Int)) 1
  rw [e1,e2]
  exact Wav _ rfl
 ·have e:b=(s.heap.push { cls:=.type "range",data:=.fields #[.int lo t,.int hi u,.int 1 v] }).objs.size:=by simpa using hb
  subst e
  exact I1.fpOk (Waj _) (I1.hok.fresh (Waj _))
theorem Zhc {a:Expr} {ta:TA} {p pos:Pos} (hg:Gl X "range") (hm:X.mg "range" = none) (ha:PA X [a] ta) (hs:starEach [a] X.env=[(false,eval a X.env)]:=by rfl):PIH xa X tg (.Call (.Name "range" p) [a] [] pos) (iRngH xa ta):=by
 intro pins s σ H R I h
 refine Call_ (Zd4 I hg hm boot_range (PyProof.Rows.callWith_type1 (thn (ha pos pins s σ H _ I h) fun us s1 ⟨vs,H1,I1,r1,q1⟩=>?_) hs rfl))
 obtain ⟨j,e,q1,q2,q⟩:=q1
 subst e
 cases r1 with
 | cons r rr=>
  cases rr
  obtain ⟨t,rfl⟩:=r
  exact call_range_1 (Zi9 I1 (by omega) (by omega) q1 q2 (by simpa using q))
theorem Zi5 {elt tg iter:Expr} {ifs:List Expr} {scope:Scope} {pos:Pos} {fvs:List Str} {sel:List Nat} {wi:TI} {g:TG} {tc:TT} {te:TE} (tgs:List Str) (S:CompSc X.env.scope X.N scope fvs sel) (hc:X.A.handled=some (.ref xa))
  (hi:PIH xa X tg iter wi) (hg:∀ C s H ex pn,PG (compCx X scope (tgs ++ fvs) C s H ex pn) tg g) (ht:∀ C s H ex pn,PTs (compCx X scope (tgs ++ fvs) C s H ex pn) ifs tc) (he:∀ C s H ex pn,PE (compCx X scope (tgs ++ fvs) C s H ex pn) elt te)
  (hs:∀ x,foldedSetIterable iter X.env x=pure x:=by intro _; rfl) :
  PE X (.ListComp elt [⟨tg,iter,ifs,0⟩] scope pos) (tComp tgs.length sel wi g tc te):=by
 intro pins s σ H Q I h
 rw [eval_ListComp]
 refine wpAny_comprehension_free (use:=none) rfl hs (Zbo (Zcf S I.ok)) S.kind S.names (thn (hi pins s σ H _ I h) fun v s1 h1=>thn h1 fun itv s2 h2=>?_)
 refine Zd0 (Cm:=fun X=>X.A.handled=some (.ref xa)) S (fun _ _ _ _ _=>hc) hg ht he (RR:=fun acc C=>compPost (model X.prog X.w) X.A X.xe none (EP X pins σ Q) acc C) (Q:=Q) h2 ?_
 intro s' C acc H' m hn _ hI q
 exact ⟨m,hn,fun h' sb=>⟨.ref acc,H',hI h' sb,rfl,q⟩⟩
end
section
variable {K:PySem.W.Frag} {Δ:Evt}
theorem Ziy {G:Hp} {xa C:Addr} (hC:G xa=some (.ext (InsC xa C))) (lo:Int) (n:Nat):ItOk K G (ItrH xa lo n) (rngD lo n):=fun G1 H1 sg sh=>by
 refine ⟨⟨by rw [Zbf]; exact Waj _,C,sh _ _ (sg _ _ hC)⟩,fun i d e=>?_⟩
 obtain ⟨h1,h2⟩:=Zcj e
 subst h2
 refine ⟨h1,fun x H2 ⟨e2,y2⟩=>⟨G1,Same.refl _,by rw [e2]; exact Same.refl _,fun b o q=>⟨by rw [e2]; exact sh b o q,.inl q⟩,?_⟩⟩
 subst y2
 exact .int _
theorem Zig {i:Nat} {xa C:Addr} {ta:TA} {P:List D->Evt->Prop} (h:JA K ta Δ fun ds Δ1=>Δ1[i]? = some (.val (.exc xa C))/\∃ n:Int,ds=[.int n] /\ -(2 ^ 62)<=n/\n < 2 ^ 62/\P (rngD 0 n.toNat) Δ1):JI K (iRngH xa ta) Δ P:=fun g G H σ R k c=>
 h g G H σ _ k fun vs ds G1 H1 Δ1 k1 s1 r1 hq=>by
  obtain ⟨hx,n,e,h1,h2,p1⟩:=hq
  subst e
  obtain ⟨v,q1,q2⟩:=k1.val i _ hx
  cases q2 with
  | exc hC=>
   cases r1 with
   | cons ra rr=>
    cases rr; cases ra
    exact ⟨n,rfl,h1,h2,c _ _ G1 H1 Δ1 k1 s1 (Ziy hC 0 _) p1⟩
end
end L2
set_option Elab.async false
set_option linter.all false
set_option maxRecDepth 100000
namespace L2
open PySem PySem.Spec PyProof.Rows
section
variable {X:Cx}
noncomputable def CDivB (i j:Int):Prop:=0 < j/\j<=100000000000000000000000000000000000000000000000000000000000
theorem Zek:OpR X (binaryOp .FloorDiv) (rI CDivB fun i j=>.int (i / j)):=opI fun i j _ _ _ _ _ hc q=>by
 have h1:(0:Int) < j:=hc.1
 have h2:=hc.2
 refine floordiv_int (by omega) (by rw [Int.fdiv_eq_ediv_of_nonneg i (by omega)]; exact q) (.inl (PyProof.noPylong_of_log2 ?_))
 have h3:j.natAbs<=100000000000000000000000000000000000000000000000000000000000:=by omega
 have h4:j.natAbs < 2 ^ 200:=Wbh h3 (by decide)
 exact Nat.lt_trans ((Nat.log2_lt (by omega)).2 h4) (by decide)
end
structure CalleeV (P:Program) (w:World) (K:PySem.W.Frag) (mg:Str->Option Value) (base:Heap) (k:Nat) (f:Addr) (ps:List Str) (sp:Sp):Prop where
 ex:∃ fd:FuncData,FnOk P w K mg base (CXE P w) k f fd ps sp/\Binds K fd ps []/\PySem.W.keepIn K (.ref f)=true
theorem CalleeX.val {P:Program} {w:World} {K:PySem.W.Frag} {mg:Str->Option Value} {base:Heap} {k:Nat} {x:Str} {ps:List Str} {sp:Sp} (C:CalleeX P w K mg base k x ps sp):∃ f,CalleeV P w K mg base k f ps sp/\mg x=some (.ref f):=by
 obtain ⟨f,fd,h1,h2,h3,h4⟩:=C.ex
 exact ⟨f,⟨fd,h1,h2,h3⟩,h4⟩
noncomputable def tCallV (i:Nat) (f:Addr) (sp:Sp) (E:XK) (t:TA):TE:=fun σ H Q=>σ[i]? = some (some (.ref f))/\tCall sp [] E t σ H Q
section
variable {X:Cx} {k i:Nat} {f:Addr} {x:Str} {ps:List Str} {sp:Sp} {e:Expr} {es:List Expr} {t:TA} {p pos:Pos} {E:XK}
theorem Zol (C:CalleeV X.prog X.w X.K X.mg X.base k f ps sp) (hr:Room k X.A) (hx:Passes (CXE X.prog X.w) X E) (hN:X.N[i]? = some x) (hv:Vis X.env.scope x) (ha:PA X (e :: es) t) (hdb:(x == ("__debug__":Str))=false:=by decide) (hcd:(x == ("__classdict__":Str))=false:=by decide)
  (he:starEach (e :: es) X.env=(false,eval e X.env) :: starEach es X.env:=by rfl) (hpl:(backTo pos (starEach es X.env)).any (·.1)=false:=by rfl):PE X (.Call (.Name x p) (e :: es) [] pos) (tCallV i f sp E t):=by
 intro pins s σ H Q I h
 obtain ⟨h1,h2⟩:=h
 obtain ⟨fd,F,b,kp⟩:=C.ex
 refine wpAny_Call_Name_kw (thn (Zkx (i:=i) (pos:=p) hN hv hdb hcd pins s σ H (fun v H1=>v=.ref f/\H1=H) I ⟨_,h1,rfl,rfl⟩) fun u s1 ⟨v,H1,I1,r1,e1,e2⟩=>?_)
 subst e1; subst e2
 cases (show u=Value.ref f from r1)
 refine PySem.W.callWith_K (h₀:=X.base) I1.ok.mod.kin kp (thn (ha pos pins s1 σ _ _ I1 h2) fun us s2 ⟨vs,H2,I2,r2,q⟩=>⟨I2.kIn,?_⟩) he hpl
 exact Zkr F hr b .nil hx I2 r2 q
end
section
variable {K:PySem.W.Frag} {Δ:Evt} {E:XK} {Xp:Addr->Prop} {P:D->Evt->Prop}
theorem Zhd {f:XSp} {i:Nat} {a:Addr} {ta:TA} (hi:Δ[i]? = some (.val (.adr a))) (h:JA K ta Δ fun ds Δ1=>f ds (fun d=>P d Δ1) Xp):JEX K E Xp (tCallV i a (spX K f) E ta) Δ P:=fun g G H σ Q w k c=>by
 obtain ⟨v,h1,h2⟩:=k.val i _ hi
 cases h2
 exact ⟨h1,Zba h g G H σ Q w k c⟩
theorem Zlh (p:P (.dct [] []) Δ):JE K tDNewK Δ P:=fun g G H σ Q k c q hq=>by
 obtain ⟨k2,sg⟩:=k.laid hq (.dK [])
 exact c _ _ _ _ Δ k2 sg (.dct (vs:=[]) Zao rfl .nil) p
theorem Zml {i j:Int} (p:P (.dct [.inl i] [.int j]) Δ):JE K (tDisp [(tC (.int i),tC (.int j))]) Δ P:=fun g G H σ Q k c q hq=>by
 refine ⟨Zao,[(.inl i,.int j)],rfl,by simp,?_⟩
 obtain ⟨k2,sg⟩:=k.laid hq (.dK [(.inl i,.int j)])
 rw [Zid]
 exact c _ _ _ _ Δ k2 sg (.dct (vs:=[.int j]) Zao rfl (.cons (.int j) .nil)) p
end
theorem Zhw {ks:List (Option Expr)} {vs:List Expr} {p:Pos} {es:List Expr} {env:Env}:starEach (Expr.Dict ks vs p :: es) env=(false,eval (Expr.Dict ks vs p) env) :: starEach es env:=rfl
theorem Zfm {vs:List Expr} {p:Pos} {es:List Expr} {env:Env}:starEach (Expr.List vs p :: es) env=(false,eval (Expr.List vs p) env) :: starEach es env:=rfl
theorem Zgo {vs:List Expr} {c} {p:Pos} {es:List Expr} {env:Env}:starEach (Expr.Tuple vs c p :: es) env=(false,eval (Expr.Tuple vs c p) env) :: starEach es env:=rfl
theorem Zow {X:Cx} {i j:Int} {a b} {p q pos:Pos}:PE X (Expr.Dict [some (Expr.Constant (Const.int i) a p)] [Expr.Constant (Const.int j) b q] pos) (tDisp [(tC (.int i),tC (.int j))]):=Zll (Zkb Zac Zac Zl3) rfl rfl (List.cons_ne_nil _ _) (by show 1<=15; decide)
noncomputable def keyPd:Key->PyData
 | .inl i=>.int i
 | .inr x=>.str x
mutual
noncomputable def D.pd:D->PyData
 | .non=>.none
 | .bl b=>.bool b
 | .int i=>.int i
 | .str x=>.str x
 | .tup ds=>.tuple (D.pds ds)
 | .lst ds=>.list (D.pds ds)
 | .dct ks ds=>.dict ((ks.map keyPd).zip (D.pds ds))
 | _=>.none
noncomputable def D.pds:List D->List PyData
 | []=>[]
 | d :: ds=>D.pd d :: D.pds ds
end
mutual
noncomputable def D.shw:D->Bool
 | .non=>true
 | .bl _=>true
 | .str _=>true
 | .int i=>decide (i.natAbs.log2 < 1920)
 | .tup ds=>D.shws ds
 | .lst ds=>D.shws ds
 | _=>false
noncomputable def D.shws:List D->Bool
 | []=>true
 | d :: ds=>D.shw d && D.shws ds
end
noncomputable def D.shT (d:D):Prop:=d.shw=true\/∃ ks ns:List Int,d=.dct (ks.map .inl) (ns.map .int)/\(∀ k ∈ ks,k.natAbs.log2 < 1920)/\∀ n ∈ ns,n.natAbs.log2 < 1920
mutual
theorem Zkt:∀ d:D,d.shw=true->d.pd.showable=true/\d.pd.hasDict=false
 | .non,_=>⟨rfl,rfl⟩
 | .bl _,_=>⟨rfl,rfl⟩
 | .int i,h=>⟨h,rfl⟩
 | .str _,_=>⟨rfl,rfl⟩
 | .tup ds,h=>Zfv ds h
 | .lst ds,h=>Zfv ds h
 | .ty _,h=>by cases h
 | .scr _,h=>by cases h
 | .adr _,h=>by cases h
 | .dct _ _,h=>by cases h
 | .exc _ _,h=>by cases h
theorem Zfv:∀ ds:List D,D.shws ds=true->PyData.showableAll (D.pds ds)=true/\PyData.hasDictAll (D.pds ds)=false
 | [],_=>⟨rfl,rfl⟩
 | d :: ds,h=>by
  have h:(d.shw && D.shws ds)=true:=h
  rw [Wau] at h
  obtain ⟨a1,a2⟩:=Zkt d h.1
  obtain ⟨b1,b2⟩:=Zfv ds h.2
  show (d.pd.showable && PyData.showableAll (D.pds ds))=true/\(d.pd.hasDict || PyData.hasDictAll (D.pds ds))=false
  rw [a1,a2,b1,b2]
  exact ⟨rfl,rfl⟩
end
section
variable {P:Program} {w:World} {K:PySem.W.Frag} {G H:Hp} {h:Heap}
mutual
theorem Zgr (ok:HOk P w H h) (sg:Same G H):∀ {v:V} {d:D} {u:Value},Rep K G v d->d.shw=true->RelV v u->∃ as,Reads h u d.pd as
 | _,_,_,.non,_,r=>by cases r; exact ⟨_,.none⟩
 | _,_,_,.bl b,_,r=>by cases r; exact ⟨_,.bool b⟩
 | _,_,_,.int i,_,r=>by obtain ⟨t,rfl⟩:=r; exact ⟨_,.int i t⟩
 | _,_,_,.str x,_,r=>by obtain ⟨t,rfl⟩:=r; exact ⟨_,.str x t⟩
 | _,_,_,.ty _,z,_=>by cases z
 | _,_,_,.tup e rs,z,r=>by
  cases r
  obtain ⟨_,its,rv,o,ho,⟨hc,n,hd⟩,_⟩:=ok _ _ (sg _ _ e)
  obtain ⟨as,ra⟩:=Zcq ok sg rs z rv
  exact ⟨_,.tuple ho hc hd ra⟩
 | _,_,_,.lst e rs,z,r=>by
  cases r
  obtain ⟨_,its,n,rv,ho⟩:=ok _ _ (sg _ _ e)
  obtain ⟨as,ra⟩:=Zcq ok sg rs z rv
  exact ⟨_,.list ho rfl rfl ra⟩
 | _,_,_,.scr _ _,z,_=>by cases z
 | _,_,_,.adr _,z,_=>by cases z
 | _,_,_,.dct _ _ _,z,_=>by cases z
 | _,_,_,.exc _,z,_=>by cases z
theorem Zcq (ok:HOk P w H h) (sg:Same G H):∀ {vs:List V} {ds:List D} {us:List Value},Reps K G vs ds->D.shws ds=true->Vals vs us->∃ as,ReadsAll h us (D.pds ds) as
 | _,_,_,.nil,_,r=>by cases r; exact ⟨_,.nil⟩
 | _,_,_,.cons (d:=d) (ds:=ds) a b,z,r=>by
  have z:(d.shw && D.shws ds)=true:=z
  rw [Wau] at z
  cases r with
  | cons ra rb=>
   obtain ⟨as,ha⟩:=Zgr ok sg a z.1 ra
   obtain ⟨bs,hb⟩:=Zcq ok sg b z.2 rb
   exact ⟨_,.cons ha hb⟩
end
theorem Zed:∀ {ks ns:List Int} {kvs:List (Key × Value)} {es:List DictEntry},ks.length=ns.length->KV ((ks.map (Sum.inl:Int->Key)).zip (ns.map V.int)) kvs->Pairs (mixKind P w) es kvs →
  ReadsAll h (es.map (·.key)) (ks.map PyData.int) []/\ReadsAll h (es.map (·.val)) (ns.map PyData.int) []
 | [],[],_,_,_,r,p=>by cases r; cases p; exact ⟨.nil,.nil⟩
 | k :: ks,n :: ns,_,_,l,r,p=>by
  cases r with
  | @cons a b as bs h1 h2=>
   cases p with
   | @cons e kv es kvs q1 q2 q3=>
    obtain ⟨i1,i2⟩:=Zed (ks:=ks) (ns:=ns) (by simpa using l) h2 q3
    obtain ⟨hk,hv⟩:=h1
    obtain ⟨t,hv⟩:=hv
    have q1:keyIs b.1 e.key=true:=q1
    rw [<- hk] at q1
    have hk2:∃ t,e.key=.int k t:=Value.isInt_shape (k:=k) (v:=e.key) q1
    obtain ⟨t2,hk2⟩:=hk2
    refine ⟨?_,?_⟩
    ·rw [Wa1,Wa1,hk2]; exact .cons (as:=[]) (.int k t2) i1
    ·rw [Wa1,Wa1,q2,hv]; exact .cons (as:=[]) (.int n t) i2
 | [],_ :: _,_,_,l,_,_=>by cases l
 | _ :: _,[],_,_,l,_,_=>by cases l
end
theorem Zh0:∀ {ks ns:List Int},ks.length=ns.length->(((ks.map Sum.inl).map keyPd).zip (D.pds (ns.map D.int))).map (·.1)=ks.map PyData.int/\(((ks.map Sum.inl).map keyPd).zip (D.pds (ns.map D.int))).map (·.2)=ns.map PyData.int
 | [],[],_=>⟨rfl,rfl⟩
 | k :: ks,n :: ns,l=>by
  obtain ⟨h1,h2⟩:=Zh0 (ks:=ks) (ns:=ns) (by simpa using l)
  simp only [Wa1,D.pds,List.zip_cons_cons]
  rw [h1,h2]
  exact ⟨rfl,rfl⟩
 | [],_ :: _,l=>by cases l
 | _ :: _,[],l=>by cases l
theorem shkv:∀ {ks ns:List Int},(∀ k ∈ ks,k.natAbs.log2 < 1920)->(∀ n ∈ ns,n.natAbs.log2 < 1920)->PyData.showableKv (((ks.map Sum.inl).map keyPd).zip (D.pds (ns.map D.int)))=true
 | [],_,_,_=>rfl
 | _ :: _,[],_,_=>rfl
 | k :: ks,n :: ns,h1,h2=>by
  have i:=shkv (ks:=ks) (ns:=ns) (fun a ha=>h1 a (Waq _ ha)) (fun a ha=>h2 a (Waq _ ha))
  show (decide (k.natAbs.log2 < 1920) && decide (n.natAbs.log2 < 1920) && PyData.showableKv _)=true
  rw [Wau,Wau]
  exact ⟨⟨decide_eq_true (h1 k (Wa8 ..)),decide_eq_true (h2 n (Wa8 ..))⟩,i⟩
section
variable {K:PySem.W.Frag} {Δ:Evt} {P:D->Evt->Prop}
theorem Zhu:bootBuiltins "repr" = some (.builtin "repr"):=by decide +kernel
theorem Zmy {A:Around} {k:Nat} (hr:Room k A):A.units + 30 < cLine:=Wbh (Wcg (by decide:30<=64) _) hr.units
theorem Znf {i:Int} (h1:-1000000000000000000000000000000000000000000000000000000000000<=i) (h2:i<=1000000000000000000000000000000000000000000000000000000000000):i.natAbs.log2 < 1920:=by
 by_cases z:i.natAbs=0
 ·rw [z]; decide
 ·have h4:i.natAbs < 2 ^ 200:=Wbh (m:=1000000000000000000000000000000000000000000000000000000000000) (by omega) (by decide)
  exact Nat.lt_trans ((Nat.log2_lt z).2 h4) (by decide)
end
end L2
set_option Elab.async false
set_option linter.all false
set_option maxRecDepth 100000
namespace L2
open PySem PySem.Spec PyProof.Rows
section
variable {P:Program} {w:World} {K:PySem.W.Frag} {G H:Hp} {h:Heap}
theorem Zk2 (ok:HOk P w H h) (sg:Same G H) {v:V} {d:D} {u:Value} (rep:Rep K G v d) (sh:d.shT) (ru:RelV v u):∃ as,Reads h u d.pd as/\d.pd.showable=true/\(d.pd.hasDict=true->sysModules ∉ as):=by
 rcases sh with z | ⟨ks,ns,rfl,z1,z2⟩
 ·obtain ⟨as,h1⟩:=Zgr ok sg rep z ru
  obtain ⟨h2,h3⟩:=Zkt d z
  exact ⟨as,h1,h2,fun h4=>by rw [h3] at h4; cases h4⟩
 ·cases rep with
  | @dct a _ vs _ e l rs=>
   cases (show u=Value.ref a from ru)
   have ev:=Reps.ints rs
   subst ev
   have l2:ks.length=ns.length:=by simpa using l
   obtain ⟨_,hS,kvs,rk,o,es,ep,ho,hc,hd,_,hp,_⟩:=Zmm ok (sg _ _ e)
   obtain ⟨r1,r2⟩:=Zed (h:=h) l2 rk hp
   obtain ⟨e1,e2⟩:=Zh0 l2
   rw [<- e1] at r1
   rw [<- e2] at r2
   have rd:Reads h (.ref a) (D.pd (.dct (ks.map Sum.inl) (ns.map D.int))) (a :: [] ++ []):=.dict ho hc.1 hd r1 r2
   refine ⟨_,rd,shkv z1 z2,fun _ hm=>?_⟩
   have hm:sysModules=a:=by simpa using hm
   subst hm
   exact absurd hS (by rw [beq_self_eq_true]; decide)
noncomputable def D.shU (d:D):Prop:=d.shT\/∃ x:Str,d=.tup [.str x,.dct [] []]
theorem Zof (ok:HOk P w H h) (sg:Same G H) {v:V} {d:D} {u:Value} (rep:Rep K G v d) (sh:d.shU) (ru:RelV v u):∃ as,Reads h u d.pd as/\d.pd.showable=true/\(d.pd.hasDict=true->sysModules ∉ as):=by
 rcases sh with z | ⟨x,rfl⟩
 ·exact Zk2 ok sg rep z ru
 ·cases rep with
  | tup e rs=>
   cases ru
   obtain ⟨_,its,rv,o,ho,⟨hc,n,hd⟩,_⟩:=ok _ _ (sg _ _ e)
   cases rs with
   | cons r1 rs=>
    cases rs with
    | cons r2 rs=>
     cases rs
     cases rv with
     | cons v1 rv=>
      cases rv with
      | cons v2 rv=>
       cases rv
       cases r1
       obtain ⟨t,rfl⟩:=v1
       obtain ⟨as,h1,h2,h3⟩:=Zk2 ok sg r2 (.inr ⟨[],[],rfl,by simp,by simp⟩) v2
       exact ⟨_,.tuple ho hc hd (.cons (.str x t) (.cons h1 .nil)),rfl,fun _=>by rw [List.nil_append,Wba]; exact h3 rfl⟩
theorem Zh8 (ok:HOk P w H h) (sg:Same G H):∀ {vs:List V} {ds:List D} {us:List Value},Reps K G vs ds->(∀ x ∈ ds,x.shU)->Vals vs us->(∀ t ∈ PyData.shownAll (D.pds ds),t.length<=sizeLine) →
  (∃ as,ReadsAll h us (D.pds ds) as)/\∃ bs,ReadAtMost h (PyData.depthAll (D.pds ds)) bs/\ReprAllK P w bs h (PyData.depthAll (D.pds ds)) us (PyData.shownAll (D.pds ds))
 | _,_,_,.nil,_,r,_=>by cases r; exact ⟨⟨_,.nil⟩,[],(fun _ h=>nomatch h),.nil⟩
 | _,_,_,.cons (d:=d) (ds:=ds) a b,z,r,hz=>by
  cases r with
  | cons ra rb=>
   obtain ⟨as,h1,h2,h3⟩:=Zof ok sg a (z _ (Wa8 ..)) ra
   obtain ⟨⟨as2,h4⟩,b2,hb2,k2⟩:=Zh8 ok sg b (fun x hx=>z x (Waq _ hx)) rb (fun t ht=>hz t (Waq _ ht))
   obtain ⟨b1,hb1,k1⟩:=ReprK.of_reads (prog:=P) (w:=w) h1 h2 h3 (hz _ (Wa8 ..))
   refine ⟨⟨_,.cons h1 h4⟩,b1 ++ b2,fun b hm=>?_,.cons ((k1.more fun b hb=>Wb7 _ hb).level_le (Nat.le_max_left _ _)) (k2.more_le (fun b hb=>War _ hb) (Nat.le_max_right _ _))⟩
   rcases Wbr.mp hm with hm | hm
   ·obtain ⟨d',as',r',hd'⟩:=hb1 b hm
    exact ⟨d',as',r',Wa6 hd' (Nat.le_max_left _ _)⟩
   ·obtain ⟨d',as',r',hd'⟩:=hb2 b hm
    exact ⟨d',as',r',Wa6 hd' (Nat.le_max_right _ _)⟩
end
section
variable {K:PySem.W.Frag} {Δ:Evt} {P:D->Evt->Prop}
end
noncomputable def rReprL (K:PySem.W.Frag):List V->Hp->VK->Prop:=fun xs H Q=>∃ (G:Hp) (a:Addr) (d:D) (ds:List D),xs=[.ref a]/\Same G H/\Rep K G (.ref a) (.lst (d :: ds))/\(∀ x ∈ d :: ds,x.shU)/\(D.pd (.lst (d :: ds))).depth<=20/\(D.pd (.lst (d :: ds))).shown.length<=sizeLine/\Q (.str (D.pd (.lst (d :: ds))).shown) H
section
variable {X:Cx}
theorem reprLK (K:PySem.W.Frag) (hg:X.A.guards=some []) (hu:X.A.units + 30 < cLine) (hK:X.K=K:=by rfl):CallR X (.builtin "repr") (rReprL K):=by
 subst hK
 intro pins s σ H xs us Q I r h
 obtain ⟨G,a,d,ds,rfl,sg,rep,sh,dp,sz,q⟩:=h
 obtain ⟨u,rfl,ru⟩:=vals1 r
 cases (show u=Value.ref a from ru)
 cases rep with
 | lst e rs=>
  obtain ⟨_,its,n,rv,ho⟩:=I.hok _ _ (sg _ _ e)
  have sz':(listText (PyData.shownAll (D.pds (d :: ds)))).length<=sizeLine:=sz
  obtain ⟨⟨as,ra⟩,bs,hb,hk⟩:=Zh8 I.hok sg rs sh rv (fun t ht=>Wa6 (listText_mem_le ht) sz')
  have dp':PyData.depthAll (D.pds (d :: ds)) + 1<=20:=dp
  cases its with
  | nil=>cases rv; cases rs
  | cons x l=>
   have r:Reads s.heap (.ref a) (.list (D.pds (d :: ds))) _:=.list ho rfl rfl ra
   have hna:a ∉ bs:=not_mem_of_deeper r (by show _ < PyData.depthAll (D.pds (d :: ds)) + 1; omega) hb
   refine call_repr_slot (by omega) ⟨_,ho,rfl⟩ F.slot_list_repr.toG ?_
   refine call_list_reprK ho rfl rfl hna (by simpa using hk.length_eq) (fun i y e=>hk.item i y (by simpa using e)) (g:=[]) hg (fun b _=>Clear.nil b) (by show X.A.units + 1 + _ < cLine; omega) (fun _ _ e=>e) (fun h' t tk hk2=>⟨_,_,rfl,.str _,H,I.kept hk2,⟨_,rfl⟩,q⟩) sz'
end
section
variable {K:PySem.W.Frag} {Δ:Evt} {P:D->Evt->Prop}
theorem Zgx {d:D} {ds:List D} (h1:∀ x ∈ d :: ds,x.shU) (h2:(D.pd (.lst (d :: ds))).depth<=20) (h3:(D.pd (.lst (d :: ds))).shown.length<=sizeLine) (p:P (.str (D.pd (.lst (d :: ds))).shown) Δ):JC K (rReprL K) [.lst (d :: ds)] Δ P:=fun g G H σ Q vs k rs c=>by
 obtain ⟨_,_,rfl,r,t⟩:=rs.inv
 next=>
  cases t.inv
  obtain ⟨_,_,rfl,ha,ra⟩:=r.inv
  next=>exact ⟨G,_,d,ds,rfl,k.live,.lst ha ra,h1,h2,h3,c _ _ G H Δ k (Same.refl _) (.str _) p⟩
end
noncomputable def PV (K:PySem.W.Frag) (te:TE) (Δ:Evt) (d:D):Prop:=∀ P:D->Evt->Prop,P d Δ -> JE K te Δ P
noncomputable def PVs (K:PySem.W.Frag) (ta:TA) (Δ:Evt) (ds:List D):Prop:=∀ P:List D->Evt->Prop,P ds Δ -> JA K ta Δ P
noncomputable def PR2 (K:PySem.W.Frag) (r:R2) (d e:D) (Δ:Evt) (x:D):Prop:=∀ P:D->Evt->Prop,P x Δ -> JR2 K r d e Δ P
section
variable {K:PySem.W.Frag} {Δ:Evt}
theorem Zbv {te:TE} {d:D} {P:D->Evt->Prop} (h:PV K te Δ d) (p:P d Δ):JE K te Δ P:=h P p
theorem Zdl {ta:TA} {ds:List D} {P:List D->Evt->Prop} (h:PVs K ta Δ ds) (p:P ds Δ):JA K ta Δ P:=h P p
theorem Za4 {i:Nat} {d:D} (h:Δ[i]? = some (.val d)):PV K (tVar i) Δ d:=fun P p=>Zae h p
theorem Za0 {i:Int}:PV K (tC (.int i)) Δ (.int i):=fun P p=>Zah p
theorem Zmz {b:Bool}:PV K (tC (.bl b)) Δ (.bl b):=fun P p=>Zlz p
theorem Zog:PV K (tC .non) Δ .non:=fun P p=>Zgf p
theorem Zkj {x:Str}:PV K (tC (.str x)) Δ (.str x):=fun P p=>Zhz p
theorem Zhh {a:Addr}:PV K (tC (.ref a)) Δ (.adr a):=fun P p=>Zkm p
theorem Zmh:PV K tDNewK Δ (.dct [] []):=fun P p=>Zlh p
theorem Zl8 {i j:Int}:PV K (tDisp [(tC (.int i),tC (.int j))]) Δ (.dct [.inl i] [.int j]):=fun P p=>Zml p
theorem Zbc:PVs K tNil Δ []:=fun P p=>Zaf p
theorem Zak {ta:TE} {tr:TA} {d:D} {ds:List D} (h:PV K ta Δ d) (t:PVs K tr Δ ds):PVs K (tCons ta tr) Δ (d :: ds):=fun P p=>Zab (h _ (t _ p))
theorem Zh1 {ta:TA} {ds:List D} (h:PVs K ta Δ ds) (z:ds.length<=sizeLine):PV K (tTup ta) Δ (.tup ds):=fun P p=>Zbw (h _ ⟨z,p⟩)
theorem Zfk {ta:TA} {ds:List D} (h:PVs K ta Δ ds) (z:ds.length<=sizeLine):PV K (tLst ta) Δ (.lst ds):=fun P p=>Zcn (h _ ⟨z,p⟩)
theorem Zbu {r:R2} {ta tb:TE} {d e x:D} (a:PV K ta Δ d) (b:PV K tb Δ e) (h:PR2 K r d e Δ x):PV K (tOp r ta tb) Δ x:=fun P p=>Zan (a _ (b _ (h P p)))
theorem Zny {ds:List D} {i:Int} {d:D} (h:atI ds i=some d):PR2 K (rIxU K) (.tup ds) (.int i) Δ d:=fun P p=>Zap h p
theorem Zm2 {ds:List D} {i:Int} {d:D} (h:atI ds i=some d):PR2 K (rIxU K) (.lst ds) (.int i) Δ d:=fun P p=>Zcd h p
theorem Zmf {ds es:List D} (hz:ds.length + es.length<=sizeLine):PR2 K (rAddU K) (.lst ds) (.lst es) Δ (.lst (ds ++ es)):=fun P p=>Zem hz p
theorem Zdb {i j:Int}:PR2 K (rAddU K) (.int i) (.int j) Δ (.int (i + j)):=fun P p=>Zbh p
theorem Zlx {f:Int->Int->Int} {i j:Int}:PR2 K (rI0 fun i j=>.int (f i j)) (.int i) (.int j) Δ (.int (f i j)):=fun P p=>Zg6 p
theorem pr_I {C:Int->Int->Prop} {f:Int->Int->Int} {i j:Int} (hc:C i j):PR2 K (rI C fun i j=>.int (f i j)) (.int i) (.int j) Δ (.int (f i j)):=fun P p=>jr_I hc p
theorem Zfn {ta tb:TE} {ds:List D} {i:Int} {d:D} (a:PV K ta Δ (.tup ds)) (b:PV K tb Δ (.int i)) (h:atI ds i=some d):PV K (tOp (rIxU K) ta tb) Δ d:=Zbu a b (Zny h)
theorem Zgm {ta tb:TE} {ds:List D} {i:Int} {d:D} (a:PV K ta Δ (.lst ds)) (b:PV K tb Δ (.int i)) (h:atI ds i=some d):PV K (tOp (rIxU K) ta tb) Δ d:=Zbu a b (Zm2 h)
theorem Zbg {n:Nat} {ds:List D} {i:Int} {d:D} (hx:Δ[n]? = some (.val (.tup ds))) (h:atI ds i=some d):PV K (tOp (rIxU K) (tVar n) (tC (.int i))) Δ d:=Zfn (Za4 hx) Za0 h
theorem Zd3 {n:Nat} {ds:List D} {i:Int} {d:D} (hx:Δ[n]? = some (.val (.lst ds))) (h:atI ds i=some d):PV K (tOp (rIxU K) (tVar n) (tC (.int i))) Δ d:=Zgm (Za4 hx) Za0 h
theorem Zdn {ta:TE} {ds:List D} (a:PV K ta Δ (.tup ds)):PV K (tCB (rLenU K) (tCons ta tNil)) Δ (.int ds.length):=fun P p=>Zbd (Zab (a _ (Zaf (Zdm (.inr rfl) p))))
end
end L2
set_option Elab.async false
set_option linter.all false
set_option maxRecDepth 100000
namespace L2
open PySem PySem.Spec PyProof.Rows PySem.SeqAt
noncomputable def Sm:Nat->D->Bool
 | 0,d=>flatE d
 | n + 1,d=>match d with
  | .lst ds=>ds.all (Sm n)
  | .tup ds=>ds.all (Sm n)
  | d=>flatE d
section
variable {X:Cx}
theorem Zds:∀ (n:Nat) {A:Around} {pins:List (Addr × Obj)} {σ:St} {H G:Hp} {s:Shared} {x y:V} {v u:Value} {d:D},Inv X pins σ H s->Same G H->Rep X.K G x d->Rep X.K G y d->RelV x v->RelV y u->Sm n d=true->A.units + n < cLine->EqAt A s v u true
 | 0,A,pins,σ,H,G,s,x,y,v,u,d,I,sg,rx,ry,rv,ru,h,hu=>by
  cases d with
  | non=>cases rx; cases ry; exact Zbj rfl rv ru
  | bl _=>cases rx; cases ry; exact Zbj rfl rv ru
  | int _=>cases rx; cases ry; exact Zbj rfl rv ru
  | str _=>cases rx; cases ry; exact Zbj rfl rv ru
  | _=>exact nomatch h
 | n + 1,A,pins,σ,H,G,s,x,y,v,u,d,I,sg,rx,ry,rv,ru,h,hu=>by
  cases d with
  | non=>cases rx; cases ry; exact Zbj rfl rv ru
  | bl _=>cases rx; cases ry; exact Zbj rfl rv ru
  | int _=>cases rx; cases ry; exact Zbj rfl rv ru
  | str _=>cases rx; cases ry; exact Zbj rfl rv ru
  | lst ds=>
   cases rx with
   | @lst a vs _ ha ra=>
    cases ry with
    | @lst b us _ hb rb=>
     cases rv; cases ru
     obtain ⟨its,w1,pl,_⟩:=I.list (SqL.of (sg _ _ ha))
     obtain ⟨its2,w2,pl2,_⟩:=I.list (SqL.of (sg _ _ hb))
     have l1:=w1.length
     have l2:=w2.length
     have l3:=ra.length
     have l4:=rb.length
     have h:ds.all (Sm n)=true:=h
     by_cases hab:a=b
     ·subst hab; exact EqAt.same _
     ·refine .of_refs hab ?_
      have z:=RcAt.lists (A:=A) (s:=s) (e:=fun _=>true) pl.isList pl2.isList (by rw [Wae,Wae]; omega) (by omega) fun j h1 h2=>by
       have h1':j < its.length:=by simpa using h1
       have h2':j < its2.length:=by simpa using h2
       have hx:j < ds.length:=by omega
       obtain ⟨p,hp1,hp2⟩:=ra.get (Wac hx)
       obtain ⟨q,hq1,hq2⟩:=rb.get (Wac hx)
       obtain ⟨va,hv1,hv2⟩:=w1.get hp1
       obtain ⟨vb,hw1,hw2⟩:=w2.get hq1
       rw [Wac h1'] at hv1
       rw [Wac h2'] at hw1
       rw [Wbq,Wbq,Wat.inj hv1,Wat.inj hw1]
       exact Zds n I sg hp2 hq2 hv2 hw2 (Wbu.mp h _ (Wb9 hx)) (by show A.units + 1 + n < cLine; omega)
      rw [Wbu.mpr (fun _ _=>rfl)] at z
      exact z
  | tup ds=>
   cases rx with
   | @tup a vs _ ha ra=>
    cases ry with
    | @tup b us _ hb rb=>
     cases rv; cases ru
     obtain ⟨its,w1,pl,_⟩:=I.tuple (SqT.of (sg _ _ ha))
     obtain ⟨its2,w2,pl2,_⟩:=I.tuple (SqT.of (sg _ _ hb))
     have l1:=w1.length
     have l2:=w2.length
     have l3:=ra.length
     have l4:=rb.length
     have h:ds.all (Sm n)=true:=h
     by_cases hab:a=b
     ·subst hab; exact EqAt.same _
     ·refine .of_refs hab ?_
      have z:=RcAt.tuples (A:=A) (s:=s) (e:=fun _=>true) pl pl2 (by omega) fun j h1 h2=>by
       have h1':j < its.length:=by simpa using h1
       have h2':j < its2.length:=by simpa using h2
       have hx:j < ds.length:=by omega
       obtain ⟨p,hp1,hp2⟩:=ra.get (Wac hx)
       obtain ⟨q,hq1,hq2⟩:=rb.get (Wac hx)
       obtain ⟨va,hv1,hv2⟩:=w1.get hp1
       obtain ⟨vb,hw1,hw2⟩:=w2.get hq1
       rw [Wac h1'] at hv1
       rw [Wac h2'] at hw1
       rw [Wbq,Wbq,Wat.inj hv1,Wat.inj hw1]
       exact Zds n I sg hp2 hq2 hv2 hw2 (Wbu.mp h _ (Wb9 hx)) (by show A.units + 1 + n < cLine; omega)
      rw [Wbu.mpr (fun _ _=>rfl),show (its.toArray.size == its2.toArray.size)=true by rw [Wae,Wae]; exact beq_iff_eq.mpr (by omega),Bool.and_self] at z
      exact z
  | _=>exact nomatch h
noncomputable def rNeSm (K:PySem.W.Frag):R2:=fun x y H Q=>Q (.bl false) H/\∃ (G:Hp) (n:Nat) (a b:Addr) (xs ys:List V) (ds:List D),Same G H/\Reps K G xs ds/\Reps K G ys ds/\ds.all (Sm n)=true/\n<=5/\x=.ref a/\y=.ref b/\SqL K H a xs/\SqL K H b ys
theorem neSmK (K:PySem.W.Frag) (hv:X.A.units + 8 < cLine) (hK:X.K=K:=by rfl):OpR X (compareOp .NotEq) (rNeSm K):=by
 subst hK
 intro pins s σ H x y v u Q I rx ry h
 obtain ⟨q,G,n,a,b,xs,ys,ds,sg,ra,rb,hd,hn,rfl,rfl,h1,h2⟩:=h
 cases rx; cases ry
 obtain ⟨its,w1,p1,_⟩:=I.list h1
 obtain ⟨its2,w2,p2,_⟩:=I.list h2
 have l1:=w1.length
 have l2:=w2.length
 have l3:=ra.length
 have l4:=rb.length
 refine RcNeAt.lists (A:=X.A) (s:=s) (e:=fun _=>true) p1.isList p2.isList (by rw [Wae,Wae]; omega) (by omega) (fun j h1 h2=>?_) X.prog X.w _ _ ?_
 ·have h1':j < its.length:=by simpa using h1
  have h2':j < its2.length:=by simpa using h2
  have hx:j < ds.length:=by omega
  obtain ⟨p,hp1,hp2⟩:=ra.get (Wac hx)
  obtain ⟨q,hq1,hq2⟩:=rb.get (Wac hx)
  obtain ⟨va,hv1,hv2⟩:=w1.get hp1
  obtain ⟨vb,hw1,hw2⟩:=w2.get hq1
  rw [Wac h1'] at hv1
  rw [Wac h2'] at hw1
  rw [Wbq,Wbq,Wat.inj hv1,Wat.inj hw1]
  exact Zds n I sg hp2 hq2 hv2 hw2 (Wbu.mp hd _ (Wb9 hx)) (by show X.A.units + 1 + n < cLine; omega)
 ·rw [Wbu.mpr (fun _ _=>rfl)]
  exact ⟨.bl false,H,I,rfl,q⟩
end
theorem Zlp {K:PySem.W.Frag} {Δ:Evt} {P:D->Evt->Prop} {n:Nat} {ds:List D} (hn:n<=5) (h:ds.all (Sm n)=true) (p:P (.bl false) Δ):JR2 K (rNeSm K) (.lst ds) (.lst ds) Δ P:=fun g G H σ Q x y k rx ry c=>by
 obtain ⟨_,_,rfl,ha,ra⟩:=rx.inv
 next=>
  obtain ⟨_,_,rfl,hb,rb⟩:=ry.inv
  next=>exact ⟨c _ _ G H Δ k (Same.refl _) (.bl false) p,G,n,_,_,_,_,ds,k.live,ra,rb,h,hn,rfl,rfl,SqL.of (k.live _ _ ha),SqL.of (k.live _ _ hb)⟩
end L2
set_option Elab.async false
set_option linter.all false
set_option maxRecDepth 100000
set_option maxHeartbeats 4000000
namespace Lw
open PySem L2
noncomputable def top (i:Nat):Stmt:=PySem.Challenge.pw_holefloor_k73_no_joining.main.body.getD i (.Pass ⟨0,0,0,0⟩)
noncomputable abbrev s_is_whole:Stmt:=top 18
noncomputable abbrev s_is_place:Stmt:=top 22
noncomputable abbrev s_joined_at:Stmt:=top 24
noncomputable abbrev s_joined_by:Stmt:=top 25
noncomputable abbrev s_refuse_no_places:Stmt:=top 26
noncomputable abbrev s_ties_moved:Stmt:=top 27
noncomputable abbrev s_web_within:Stmt:=top 28
noncomputable abbrev s_orders_joined:Stmt:=top 29
noncomputable abbrev s_law_pen:Stmt:=top 31
noncomputable abbrev s_law_draw:Stmt:=top 32
noncomputable abbrev s_law_web:Stmt:=top 33
noncomputable abbrev s_law_order:Stmt:=top 34
noncomputable abbrev s_law_refusal:Stmt:=top 35
noncomputable abbrev s_law_no_place:Stmt:=top 36
noncomputable abbrev s_law_at:Stmt:=top 37
noncomputable abbrev s_law_by:Stmt:=top 38
noncomputable abbrev s_law_orders:Stmt:=top 39
noncomputable abbrev s_law_floors:Stmt:=top 40
noncomputable abbrev s_law_due:Stmt:=top 41
noncomputable abbrev s_law:Stmt:=top 42
theorem sc_is_whole:FnScope ["thing"] ["thing"] (defScope s_is_whole):=⟨rfl,rfl,rfl,by decide +kernel,rfl,by decide +kernel,by decide +kernel⟩
theorem sc_is_place:FnScope ["web","place"] ["web","place"] (defScope s_is_place):=⟨rfl,rfl,rfl,by decide +kernel,rfl,by decide +kernel,by decide +kernel⟩
theorem sc_joined_at:FnScope ["one","place","other","its","many","numbers"] ["one","place","other","its"] (defScope s_joined_at):=⟨rfl,rfl,rfl,by decide +kernel,rfl,by decide +kernel,by decide +kernel⟩
theorem sc_joined_by:FnScope ["one","place","other","its","many","numbers"] ["one","place","other","its"] (defScope s_joined_by):=⟨rfl,rfl,rfl,by decide +kernel,rfl,by decide +kernel,by decide +kernel⟩
theorem sc_refuse_no_places:FnScope ["one","place","other","its"] ["one","place","other","its"] (defScope s_refuse_no_places):=⟨rfl,rfl,rfl,by decide +kernel,rfl,by decide +kernel,by decide +kernel⟩
theorem sc_ties_moved:FnScope ["web","numbers"] ["web","numbers"] (defScope s_ties_moved):=⟨rfl,rfl,rfl,by decide +kernel,rfl,by decide +kernel,by decide +kernel⟩
theorem sc_web_within:FnScope ["many","ties"] ["many","ties"] (defScope s_web_within):=⟨rfl,rfl,rfl,by decide +kernel,rfl,by decide +kernel,by decide +kernel⟩
theorem sc_orders_joined:FnScope ["one","order","place","other","its_order","its","ends","moved","common"] ["one","order","place","other","its_order","its"] (defScope s_orders_joined):=⟨rfl,rfl,rfl,by decide +kernel,rfl,by decide +kernel,by decide +kernel⟩
theorem sc_law_pen:FnScope ["_law_script"] ["_law_script"] (defScope s_law_pen):=⟨rfl,rfl,rfl,by decide +kernel,rfl,by decide +kernel,by decide +kernel⟩
theorem sc_law_draw:FnScope ["_law_pen_here","_law_many","_law_digit","_law_at_here","_law_cell","_law_number"] ["_law_pen_here","_law_many"] (defScope s_law_draw):=⟨rfl,rfl,rfl,by decide +kernel,rfl,by decide +kernel,by decide +kernel⟩
theorem sc_law_web:FnScope ["_law_pen_here","_law_places","_law_ties","_law_many","_law_way","_law_count","_law_found","_law_k","_law_a","_law_b"] ["_law_pen_here","_law_places","_law_ties"] (defScope s_law_web):=⟨rfl,rfl,rfl,by decide +kernel,rfl,by decide +kernel,by decide +kernel⟩
theorem sc_law_order:FnScope ["_law_pen_here","_law_web_here","_law_rows","_law_k","_law_row","!0","!1","!2","!3","!4","!5","!6","!7","!8","!9","!10","!11","!12","!13","!14","!15","!16","!17","!18","!19","!20","!21","!22","!23","!24"] ["_law_pen_here","_law_web_here"] (defScope s_law_order):=⟨rfl,rfl,rfl,by decide +kernel,rfl,by decide +kernel,by decide +kernel⟩
theorem sc_law_refusal:FnScope ["_law_call","_law_things","e","_law_found"] ["_law_call","_law_things"] (defScope s_law_refusal):=⟨rfl,rfl,rfl,by decide +kernel,rfl,by decide +kernel,by decide +kernel⟩
theorem sc_law_no_place:FnScope ["_law_pen_here","_law_web_here","_law_some"] ["_law_pen_here","_law_web_here"] (defScope s_law_no_place):=⟨rfl,rfl,rfl,by decide +kernel,rfl,by decide +kernel,by decide +kernel⟩
theorem sc_law_at:FnScope ["_law_asked"] ["_law_asked"] (defScope s_law_at):=⟨rfl,rfl,rfl,by decide +kernel,rfl,by decide +kernel,by decide +kernel⟩
theorem sc_law_by:FnScope ["_law_asked"] ["_law_asked"] (defScope s_law_by):=⟨rfl,rfl,rfl,by decide +kernel,rfl,by decide +kernel,by decide +kernel⟩
theorem sc_law_orders:FnScope ["_law_asked"] ["_law_asked"] (defScope s_law_orders):=⟨rfl,rfl,rfl,by decide +kernel,rfl,by decide +kernel,by decide +kernel⟩
theorem sc_law_floors:FnScope ["_law_pen_here","_law_one","_law_other","_law_many","_law_count"] ["_law_pen_here"] (defScope s_law_floors):=⟨rfl,rfl,rfl,by decide +kernel,rfl,by decide +kernel,by decide +kernel⟩
theorem sc_law_due:FnScope ["_law_one","_law_other","_law_shared"] ["_law_one","_law_other","_law_shared"] (defScope s_law_due):=⟨rfl,rfl,rfl,by decide +kernel,rfl,by decide +kernel,by decide +kernel⟩
theorem sc_law:FnScope ["_law_script","_law_pen_here","_law_one","_law_other","_law_k","_law_places","_law_bad","_law_kept","_law_way","_law_asked","_law_dues","_law_found"] ["_law_script"] (defScope s_law):=⟨rfl,rfl,rfl,by decide +kernel,rfl,by decide +kernel,by decide +kernel⟩
noncomputable def Mb (mg:Str->Option Value):Prop:=∀ x ∈ ["ValueError","abs","bool","int","isinstance","len","list","max","min","range","repr","tuple"],mg x=none
structure Cl (K:PySem.W.Frag) (mg:Str->Option Value) (c_FloorError c_NoWeb c_NoOrder c_NoNumber c_NoEnd c_NoTie c_NoPlace c_NoTable c_NoRing c_NoPaper c_Apart c_TooMany c_TooGreat c_NoText c_NoName c_NoRow:Addr):Prop where
 n_FloorError:mg "FloorError" = some (.ref c_FloorError)
 e_FloorError:ExcC K c_FloorError
 n_NoWeb:mg "NoWeb" = some (.ref c_NoWeb)
 n_NoOrder:mg "NoOrder" = some (.ref c_NoOrder)
 n_NoNumber:mg "NoNumber" = some (.ref c_NoNumber)
 n_NoEnd:mg "NoEnd" = some (.ref c_NoEnd)
 n_NoTie:mg "NoTie" = some (.ref c_NoTie)
 n_NoPlace:mg "NoPlace" = some (.ref c_NoPlace)
 e_NoPlace:ExcC K c_NoPlace
 n_NoTable:mg "NoTable" = some (.ref c_NoTable)
 n_NoRing:mg "NoRing" = some (.ref c_NoRing)
 n_NoPaper:mg "NoPaper" = some (.ref c_NoPaper)
 n_Apart:mg "Apart" = some (.ref c_Apart)
 n_TooMany:mg "TooMany" = some (.ref c_TooMany)
 n_TooGreat:mg "TooGreat" = some (.ref c_TooGreat)
 e_TooGreat:ExcC K c_TooGreat
 n_NoText:mg "NoText" = some (.ref c_NoText)
 n_NoName:mg "NoName" = some (.ref c_NoName)
 n_NoRow:mg "NoRow" = some (.ref c_NoRow)
 i_NoPlace:ExcI K c_NoPlace
 m_NoPlace:PySem.W.mroIn K c_NoPlace (.ref c_FloorError)=some true
 t_NoPlace:PySem.W.kitOne K (.ref c_NoPlace) (.type "ValueError")=some true
 k_NoPlace_NoWeb:PySem.W.kitOne K (.ref c_NoPlace) (.ref c_NoWeb)=some false
 k_NoPlace_NoOrder:PySem.W.kitOne K (.ref c_NoPlace) (.ref c_NoOrder)=some false
 k_NoPlace_NoNumber:PySem.W.kitOne K (.ref c_NoPlace) (.ref c_NoNumber)=some false
 k_NoPlace_NoEnd:PySem.W.kitOne K (.ref c_NoPlace) (.ref c_NoEnd)=some false
 k_NoPlace_NoTie:PySem.W.kitOne K (.ref c_NoPlace) (.ref c_NoTie)=some false
 k_NoPlace_NoPlace:PySem.W.kitOne K (.ref c_NoPlace) (.ref c_NoPlace)=some true
 k_NoPlace_NoTable:PySem.W.kitOne K (.ref c_NoPlace) (.ref c_NoTable)=some false
 k_NoPlace_NoRing:PySem.W.kitOne K (.ref c_NoPlace) (.ref c_NoRing)=some false
 k_NoPlace_NoPaper:PySem.W.kitOne K (.ref c_NoPlace) (.ref c_NoPaper)=some false
 k_NoPlace_Apart:PySem.W.kitOne K (.ref c_NoPlace) (.ref c_Apart)=some false
 k_NoPlace_TooMany:PySem.W.kitOne K (.ref c_NoPlace) (.ref c_TooMany)=some false
 k_NoPlace_TooGreat:PySem.W.kitOne K (.ref c_NoPlace) (.ref c_TooGreat)=some false
 k_NoPlace_NoText:PySem.W.kitOne K (.ref c_NoPlace) (.ref c_NoText)=some false
 k_NoPlace_NoName:PySem.W.kitOne K (.ref c_NoPlace) (.ref c_NoName)=some false
 k_NoPlace_NoRow:PySem.W.kitOne K (.ref c_NoPlace) (.ref c_NoRow)=some false
 i_TooGreat:ExcI K c_TooGreat
 m_TooGreat:PySem.W.mroIn K c_TooGreat (.ref c_FloorError)=some true
 t_TooGreat:PySem.W.kitOne K (.ref c_TooGreat) (.type "ValueError")=some true
 k_TooGreat_NoWeb:PySem.W.kitOne K (.ref c_TooGreat) (.ref c_NoWeb)=some false
 k_TooGreat_NoOrder:PySem.W.kitOne K (.ref c_TooGreat) (.ref c_NoOrder)=some false
 k_TooGreat_NoNumber:PySem.W.kitOne K (.ref c_TooGreat) (.ref c_NoNumber)=some false
 k_TooGreat_NoEnd:PySem.W.kitOne K (.ref c_TooGreat) (.ref c_NoEnd)=some false
 k_TooGreat_NoTie:PySem.W.kitOne K (.ref c_TooGreat) (.ref c_NoTie)=some false
 k_TooGreat_NoPlace:PySem.W.kitOne K (.ref c_TooGreat) (.ref c_NoPlace)=some false
 k_TooGreat_NoTable:PySem.W.kitOne K (.ref c_TooGreat) (.ref c_NoTable)=some false
 k_TooGreat_NoRing:PySem.W.kitOne K (.ref c_TooGreat) (.ref c_NoRing)=some false
 k_TooGreat_NoPaper:PySem.W.kitOne K (.ref c_TooGreat) (.ref c_NoPaper)=some false
 k_TooGreat_Apart:PySem.W.kitOne K (.ref c_TooGreat) (.ref c_Apart)=some false
 k_TooGreat_TooMany:PySem.W.kitOne K (.ref c_TooGreat) (.ref c_TooMany)=some false
 k_TooGreat_TooGreat:PySem.W.kitOne K (.ref c_TooGreat) (.ref c_TooGreat)=some true
 k_TooGreat_NoText:PySem.W.kitOne K (.ref c_TooGreat) (.ref c_NoText)=some false
 k_TooGreat_NoName:PySem.W.kitOne K (.ref c_TooGreat) (.ref c_NoName)=some false
 k_TooGreat_NoRow:PySem.W.kitOne K (.ref c_TooGreat) (.ref c_NoRow)=some false
local macro_rules | `(tactic| walk_at "js")=>`(tactic| first
 | with_reducible refine Zat (t:=tAsg _ _) ?_
 | with_reducible refine iteF ?_
 | with_reducible refine Zbk ?_
 | with_reducible refine Za7 ?_
 | with_reducible refine Zdy ?_
 | with_reducible refine Zau ?_
 | refine Zlw rfl rfl ?_
 | with_reducible refine Zan ?_
 | with_reducible refine Zah ?_
 | with_reducible refine Zbd ?_
 | with_reducible refine Zl7 ?_
 | with_reducible refine Zgb ?_
 | with_reducible refine Zgd ?_
 | with_reducible refine Zaf ?_
 | with_reducible refine Zab ?_
 | with_reducible refine Zbm ?_
 | with_reducible refine Zk0 ?_
 | with_reducible refine Zcs ?_
 | with_reducible refine Zbh ?_
 | with_reducible refine Zex ?_
 | with_reducible refine Zn9 ?_
 | refine Zae rfl ?_
 | refine Zdm (Or.inl rfl) ?_
 | refine Zjw ?_
 | refine ⟨⟨_,_,rfl,rfl⟩,?_⟩
 | refine ⟨_,_,_,_,rfl,rfl,rfl,rfl,?_⟩
 | refine ⟨_,rfl,?_⟩
 | refine jr_I (by first | (show (0:Int) < _; omega) | exact ⟨by omega,by omega⟩ | exact Or.inl ⟨by omega,by omega⟩ | exact Or.inr ⟨by omega,by omega⟩ | exact ⟨by decide,by decide,by decide⟩) ?_)
local macro_rules | `(tactic| walk_at "draw")=>`(tactic| first | refine Zbl rfl rfl (by assumption) (by omega) (by omega) fun _ _ _ _ _=>?_ | refine ⟨_,_,rfl,rfl,by assumption,_,rfl,by omega,by omega,fun _ _ _ _ _=>?_⟩)
noncomputable def Pen (ps:List D):Prop:=∃ (cs:List Int) (at_ num:Int),ps=[.lst (cs.map .int),.int at_,.int num]/\0<=at_/\0<=num/\cs.length<=63
noncomputable def fDraw:BSp:=fun ps ds Post=>Pen ps/\∃ m:Int,ds=[.int m]/\1<=m/\m<=100000000000000000000000000000000000000000000000000000000000/\∀ r ps',Pen ps' -> 0<=r->r < m->Post (.int r) ps'
noncomputable abbrev LendQ (f:BSp) (i:Nat) (P:D->Evt->Prop):List D->Evt->Prop:=fun ds Δ1=>∃ y ps,Δ1[i]? = some y/\y.od=some (.lst ps)/\f ps ds fun d ps'=>P d (Δ1.set i (y.put (.lst ps')))
theorem Zb8 {K:PySem.W.Frag} {Δ:Evt} {P:D->Evt->Prop} {f:BSp} {ta:TA} {E:XK} {i:Nat} {x:Slot} {od:OD} (hx:Δ[i]? = some x) (ho:x.od=some od) (h:JA K ta Δ (LendQ f i P)):JE K (tCall (spB K f) [] E (tCons (tVar i) ta)) Δ P:=Zi6 hx ho h
theorem Zbl {Δ1:Evt} {i:Nat} {y:Slot} {ps:List D} {m:Int} {P:D->Evt->Prop} (hx:Δ1[i]? = some y) (ho:y.od=some (.lst ps)) (hp:Pen ps) (h1:1<=m) (h2:m<=100000000000000000000000000000000000000000000000000000000000) (h:∀ r ps',Pen ps' -> 0<=r->r < m->P (.int r) (Δ1.set i (y.put (.lst ps')))) :
  LendQ fDraw i P [.int m] Δ1:=⟨y,ps,hx,ho,hp,m,rfl,h1,h2,h⟩
theorem Zgc {K:PySem.W.Frag} {Δ:Evt} {E:XK} {i:Nat} {y:Slot} {ps:List D} {m:Int} {P:D->Evt->Prop} (hx:Δ[i]? = some y) (ho:y.od=some (.lst ps)) (hp:Pen ps) (h1:1<=m) (h2:m<=100000000000000000000000000000000000000000000000000000000000) (h:∀ r ps',Pen ps' -> 0<=r->r < m->P (.int r) (Δ.set i (y.put (.lst ps')))) :
  JE K (tCall (spB K fDraw) [] E (tCons (tVar i) (tCons (tC (.int m)) tNil))) Δ P:=Zb8 hx ho (Zab (Zah (Zaf (Zbl hx ho hp h1 h2 h))))
theorem Zd8 {K:PySem.W.Frag} {Δ:Evt} {te:TE} {Q:D->Evt->Prop} (P:D->Evt->Prop) (h:JE K te Δ P) (f:∀ d Δ1,P d Δ1->Q d Δ1):JE K te Δ Q:=fun g G H σ R k c=>h g G H σ R k fun v d G' H' Δ' k' s' r p=>c v d G' H' Δ' k' s' r (f _ _ p)
section
variable {P:Program} {w:World} {K:PySem.W.Frag} {mg:Str->Option Value} {base:Heap} {f:Addr} {fd:FuncData}
theorem Zmn (mb:Mb mg) (F:Fun K "_law_draw" "_law_draw" s_law_draw f fd):FnOk P w K mg base CX0 1 f fd ["_law_pen_here","_law_many"] (spB K fDraw):=by
 refine F.ok sc_law_draw (Zd5 fun ps ds Post h=>by obtain ⟨_,m,rfl,_⟩:=h; rfl) (fun cdv A outer s H vs Q E hr h=>?_)
 have hu:=Zb0 hr
 refine ⟨_,(Zag (Zck (Za3 Zfj (Zam (ixK K hu) (pv 0) Zac (fun _ _=>rfl)) Zac (nomark _)) (Zag (Zar (i:=2) sc_law_draw.nd rfl (by first|exact Or.inl rfl|exact Or.inr rfl) (Zaq Zbx (Zam (ixK K hu) (pv 0) Zac (fun _ _=>rfl)) (pv 1))) (Zag (Zgq (Zaq Zek (Zam (ixK K hu) (pv 0) Zac (fun _ _=>rfl)) (pv 1)) (Zhl (pv 0) Zac (setU hu))) (Zal (Za1 (pv 2))))) Za8) (Zag (Zar (i:=3) sc_law_draw.nd rfl (by first|exact Or.inl rfl|exact Or.inr rfl) (Zam (ixK K hu) (pv 0) Zac (fun _ _=>rfl))) (Zag (Zgq (Zaq (addK K) (pv 3) Zac) (Zhl (pv 0) Zac (setU hu))) (Zag (Zar (i:=4) sc_law_draw.nd rfl (by first|exact Or.inl rfl|exact Or.inr rfl) Zac) (Zag (Zck (Za3 Zfj (Zai (lenK K) rfl (mb "len" (by decide)) Zcb (Zaa (Zam (ixK K hu) (pv 0) Zac (fun _ _=>rfl)) Zad)) Zac (nomark _)) (Zal (Zar (i:=4) sc_law_draw.nd rfl (by first|exact Or.inl rfl|exact Or.inr rfl) (Zam (ixK K hu) (Zam (ixK K hu) (pv 0) Zac (fun _ _=>rfl)) (Zaq Zbx (pv 3) (Zai (lenK K) rfl (mb "len" (by decide)) Zcb (Zaa (Zam (ixK K hu) (pv 0) Zac (fun _ _=>rfl)) Zad))) (fun _ _=>rfl)))) Za8) (Zag (Zck (PW.pt (pw_and (Za3 Zm7 (pv 3) (Zai (lenK K) rfl (mb "len" (by decide)) Zcb (Zaa (Zam (ixK K hu) (pv 0) Zac (fun _ _=>rfl)) Zad)) (nomark _)) (pw_and1 (Za3 Zor (Zai Ze0 rfl (mb "abs" (by decide)) Zhg (Zaa (pv 4) Zad)) (Zaq Zk5 Zac Zac) (nomark _))))) (Zag (Zgq (Zaq Zek (Zai Ze0 rfl (mb "abs" (by decide)) Zhg (Zaa (pv 4) Zad)) (pv 1)) (Zhl (pv 0) Zac (setU hu))) (Zal (Za1 (Zaq Zbx (Zai Ze0 rfl (mb "abs" (by decide)) Zhg (Zaa (pv 4) Zad)) (pv 1))))) Za8) (Zag (Zar (i:=5) sc_law_draw.nd rfl (by first|exact Or.inl rfl|exact Or.inr rfl) (Zaq Zbx (Zaq Zc8 (Zaq (addK K) (Zaq (addK K) (Zaq Zbx (pv 4) Zac) (Zaq Zc8 Zac (pv 3))) Zac) Zac) Zac)) (Zag (Zar (i:=5) sc_law_draw.nd rfl (by first|exact Or.inl rfl|exact Or.inr rfl) (Zaq Zbx (Zaq (addK K) (Zaq (addK K) (Zaq Zc8 (pv 5) (pv 5)) (Zaq Zc8 Zac (pv 5))) (pv 3)) Zac)) (Zal (Za1 (Zaq Zbx (Zaq Zek (Zaq Zbx (Zaq Zc8 (pv 5) Zac) Zac) Zac) (pv 1)))))))))))),Zi7 (fun ps ds Post hf=>?_) h⟩
 obtain ⟨⟨cs,at_,num,rfl,h1,h2,h3⟩,m,rfl,h4,h5,q⟩:=hf
 refine ⟨by simp,?_⟩
 dsimp only [cxOf,startD,Wbd,Wbg,Wa2,Wab]
 refine Zb3 (fun Δ=>¬ 0 < num /\ Δ = [.bor (.lst [.lst (cs.map .int),.int at_,.int num]),.val (.int m),.any,.any,.any,.any]) ?_ ?_
 ·repeat walk_at "js"
  refine ite2 (fun c=>?_) (fun c=>?_)
  ·have c:=of_decide_eq_true c
   repeat walk_at "js"
   exact q _ _ ⟨cs,at_,num / m,rfl,h1,Int.ediv_nonneg h2 (by omega),h3⟩ (Wb4 _ (by omega)) (Wbv _ (by omega))
  ·repeat walk_at "js"
   exact ⟨of_decide_eq_false (Wbj.mpr c),rfl⟩
 rintro Δ1 ⟨hn,rfl⟩
 repeat walk_at "js"
 refine Zb3 (fun Δ=>∃ c:Int,Δ = [.bor (.lst [.lst (cs.map .int),.int (at_ + 1),.int num]),.val (.int m),.any,.val (.int at_),.val (.int c),.any]) ?_ ?_
 ·repeat walk_at "js"
  refine ite2 (fun c=>?_) (fun c=>?_)
  ·have c:=of_decide_eq_true c
   rw [Waa] at c
   repeat walk_at "js"
   rw [Waa]
   repeat walk_at "js"
   obtain ⟨cell,_,hc⟩:=Zim (f:=D.int) (xs:=cs) (i:=at_ % (cs.length:Int)) (Wb4 _ (by omega)) (Wbv _ (by omega))
   refine Zcd hc ?_
   exact ⟨cell,rfl⟩
  ·repeat walk_at "js"
   exact ⟨11,rfl⟩
 rintro Δ1 ⟨cell,rfl⟩
 refine Zb3 (fun Δ=>Δ = [.bor (.lst [.lst (cs.map .int),.int (at_ + 1),.int num]),.val (.int m),.any,.val (.int at_),.val (.int cell),.any]) ?_ ?_
 ·repeat walk_at "js"
  refine ite2 (fun c=>?_) (fun c=>?_)
  ·repeat walk_at "js"
   refine ite2 (fun c=>?_) (fun c=>?_)
   ·repeat walk_at "js"
    have ha:0<=(if cell < 0 then -cell else cell):=by split <;> omega
    exact q _ _ ⟨cs,at_ + 1,_,rfl,by omega,Int.ediv_nonneg ha (by omega),h3⟩ (Wb4 _ (by omega)) (Wbv _ (by omega))
   ·repeat walk_at "js"
    rfl
  ·repeat walk_at "js"
   rfl
 rintro Δ1 rfl
 repeat walk_at "js"
 exact q _ _ ⟨cs,at_ + 1,num,rfl,by omega,h2,h3⟩ (Wb4 _ (by omega)) (Wbv _ (by omega))
end
noncomputable def fPen:NSp:=fun ds Post=>∃ ns:List Int,ds=[.scr (ns.map .int)]/\ns.length<=63/\∀ ps,Pen ps->Post ps
section
variable {P:Program} {w:World} {K:PySem.W.Frag} {mg:Str->Option Value} {base:Heap} {f:Addr} {fd:FuncData}
theorem Zom (mb:Mb mg) (F:Fun K "_law_pen" "_law_pen" s_law_pen f fd):FnOk P w K mg base CX0 1 f fd ["_law_script"] (spN K fPen):=by
 refine F.ok sc_law_pen (Zls fun ds Post h=>by obtain ⟨ns,rfl,_⟩:=h; rfl) (fun cdv A outer s H vs Q E hr h=>?_)
 have hu:=Zb0 hr
 refine ⟨_,(Zal (Za1 (Za5 (Zaa (Zc6 ["_law_cell"] (show CompSc (defScope s_law_pen) ["_law_script"] _ [] [] from ⟨rfl,by decide +kernel,by decide +kernel,by decide +kernel,rfl,by decide +kernel⟩) rfl (seqK K (Zet (slK K) (pv 0) Zfz (Zfu Zac))) (fun _ _ _ _ _=>(Zbb (i:=0) (show List.Nodup (["_law_cell"]:List Str) from by decide) rfl (Or.inl rfl))) (fun _ _ _ _ _=>Zcv) (fun _ _ _ _ _=>(pv 0))) (Zaa Zac (Zaa Zac Zad)))))),Zox (fun ds Post hf=>?_) h⟩
 obtain ⟨ns,rfl,h1,q⟩:=hf
 refine ⟨by simp,?_⟩
 dsimp only [cxOf,startD,Wbd,Wbg,Wa2,Wab]
 refine Zlb (Zin (Zab (Zdg (by decide) (Zks ?_))))
 repeat walk_at "js"
 have e:cutD (ns.map D.int) none (some 63)=ns.map D.int:=by
  unfold cutD
  have e1:HT.sIx (ns.map D.int).length 0 none=0:=rfl
  have e2:HT.sIx (ns.map D.int).length (ns.map D.int).length (some 63)=ns.length:=by
   rw [Waa]; show min (Int.toNat 63) ns.length=_; omega
  rw [e1,e2,List.drop_zero,Nat.sub_zero,Wcb (by simp)]
 rw [e]
 refine ⟨_,Or.inl rfl,by rw [Waa]; exact Wbh h1 (by decide),fun _=>true,fun d=>d,fun i d hd=>?_,?_⟩
 ·repeat walk_at "js"
  exact ⟨rfl,Zae rfl ⟨rfl,_,rfl⟩⟩
 ·repeat walk_at "js"
  refine ⟨by show 3<=sizeLine; decide,_,rfl,q _ ⟨ns,0,0,?_,by decide,by decide,h1⟩⟩
  simp
end
noncomputable def encTie (t:Int × Int):D:=.tup [.int t.1,.int t.2]
noncomputable def encWeb (n:Int) (ts:List (Int × Int)):D:=.tup [.int n,.tup (ts.map encTie)]
structure WebOk (n:Int) (ts:List (Int × Int)):Prop where
 lo:1<=n
 hi:n<=25
 len:ts.length<=24
 tie:∀ t ∈ ts,0<=t.1/\t.1 < n/\0<=t.2/\t.2 < n
noncomputable def fWeb:BSp:=fun ps ds Post=>Pen ps/\∃ a b:Int,ds=[.int a,.int b]/\1<=a/\a<=25/\0<=b/\b<=24/\∀ n ts ps',Pen ps' -> WebOk n ts->n<=a->(ts.length:Int)<=b->Post (encWeb n ts) ps'
theorem Zky {Δ1:Evt} {i:Nat} {y:Slot} {ps:List D} {a b:Int} {P:D->Evt->Prop} (hx:Δ1[i]? = some y) (ho:y.od=some (.lst ps)) (hp:Pen ps) (h1:1<=a) (h2:a<=25) (h3:0<=b) (h4:b<=24) (h:∀ n ts ps',Pen ps' -> WebOk n ts->n<=a->(ts.length:Int)<=b->P (encWeb n ts) (Δ1.set i (y.put (.lst ps')))) :
  LendQ fWeb i P [.int a,.int b] Δ1:=⟨y,ps,hx,ho,hp,a,b,rfl,h1,h2,h3,h4,h⟩
theorem Zh6:2<=sizeLine:=by decide
theorem Zfe {K:PySem.W.Frag} {Δ:Evt} {i:Nat} {v c:Int} {P:Bool->Evt->Prop} (hx:Δ[i]? = some (.val (.int v))) (h1:v=c->P true Δ) (h2:¬ v=c->P false Δ):JT K (tTest (tOp rEq (tVar i) (tC (.int c)))) Δ P:=
 Zbm (Zan (Zae hx (Zah (Zkf ⟨_,rfl,by
  by_cases h:v=c
  ·rw [decide_eq_true h]; exact h1 h
  ·rw [decide_eq_false h]; exact h2 h⟩))))
noncomputable def wSt (py:List D) (a b n way k:Int) (fs:List D) (i u v:Int):Evt:=[.bor (.lst py),.val (.int a),.val (.int b),.val (.int n),.val (.int way),.val (.int k),.own (.lst fs),.val (.int i),.val (.int u),.val (.int v)]
noncomputable def wQ (py:List D) (a b n way k:Int) (fs:List D) (i:Int):Evt->Prop:=fun Δ=>∃ u v:Int,0<=u/\u < n/\0<=v/\v < n /\ Δ = wSt py a b n way k fs i u v
noncomputable def wR (py:List D) (a b n way k:Int) (fs:List D) (i:Int):Evt->Prop:=fun Δ=>∃ u v:Int,0<=u/\u < n/\0<=v /\ Δ = wSt py a b n way k fs i u v
noncomputable def wL (a b n way k:Int) (i:Nat):Evt->Prop:=fun Δ=>∃ (ps:List D) (ts:List (Int × Int)) (x7 x8 x9:Slot),Pen ps/\ts.length=i/\(∀ t ∈ ts,0<=t.1/\t.1 < n/\0<=t.2/\t.2 < n) /\ Δ = [.bor (.lst ps),.val (.int a),.val (.int b),.val (.int n),.val (.int way),.val (.int k),.own (.lst (ts.map encTie)),x7,x8,x9]
section
variable {P:Program} {w:World} {K:PySem.W.Frag} {mg:Str->Option Value} {base:Heap} {f:Addr} {fd:FuncData}
theorem Zod (mb:Mb mg) (C__law_draw:Callee P w K mg base 1 "_law_draw" ["_law_pen_here","_law_many"] (spB K fDraw)) (F:Fun K "_law_web" "_law_web" s_law_web f fd):FnOk P w K mg base CX0 2 f fd ["_law_pen_here","_law_places","_law_ties"] (spB K fWeb):=by
 refine F.ok sc_law_web (Zd5 fun ps ds Post h=>by obtain ⟨_,a,b,rfl,_⟩:=h; rfl) (fun cdv A outer s H vs Q E hr h=>?_)
 have hu:=Zb0 hr
 refine ⟨_,(Zag (Zar (i:=3) sc_law_web.nd rfl (by first|exact Or.inl rfl|exact Or.inr rfl) (Zaq (addK K) Zac (Za6 C__law_draw (hr.mono (by first|decide|omega)) (Zaa (pv 0) (Zaa (pv 1) Zad))))) (Zag (Zar (i:=4) sc_law_web.nd rfl (by first|exact Or.inl rfl|exact Or.inr rfl) (Za6 C__law_draw (hr.mono (by first|decide|omega)) (Zaa (pv 0) (Zaa Zac Zad)))) (Zag (Zar (i:=5) sc_law_web.nd rfl (by first|exact Or.inl rfl|exact Or.inr rfl) (Za6 C__law_draw (hr.mono (by first|decide|omega)) (Zaa (pv 0) (Zaa (Zaq (addK K) (pv 2) Zac) Zad)))) (Zag (Zck (Za3 Zd6 (pv 4) Zac (nomark _)) (Zag (Zar (i:=3) sc_law_web.nd rfl (by first|exact Or.inl rfl|exact Or.inr rfl) (pv 1)) (Zal (Zar (i:=5) sc_law_web.nd rfl (by first|exact Or.inl rfl|exact Or.inr rfl) (pv 2)))) Za8) (Zag (Zar (i:=6) sc_law_web.nd rfl (by first|exact Or.inl rfl|exact Or.inr rfl) (Za5 Zad)) (Zag (Zgp PassesOwn.never rfl (Zb1 rfl (mb "range" (by decide)) (Zaa (pv 5) Zad)) (Zbb (i:=7) sc_law_web.nd rfl (by first|exact Or.inl rfl|exact Or.inr rfl)) (Zag (Zkk (i:=8) (j:=9) rfl sc_law_web.nd rfl rfl (by decide) rfl rfl (Zaa (Za6 C__law_draw (hr.mono (by first|decide|omega)) (Zaa (pv 0) (Zaa (pv 3) Zad))) (Zaa (Za6 C__law_draw (hr.mono (by first|decide|omega)) (Zaa (pv 0) (Zaa (pv 3) Zad))) Zad)) rfl) (Zag (Zck (Za3 Zd6 (pv 4) Zac (nomark _)) (Zal (Zkk (i:=8) (j:=9) rfl sc_law_web.nd rfl rfl (by decide) rfl rfl (Zaa (Zaq Zbx (pv 7) (pv 3)) (Zaa (Zaq Zbx (Zaq (addK K) (pv 7) Zac) (pv 3)) Zad)) rfl)) Za8) (Zag (Zck (Za3 Zd6 (pv 4) Zac (nomark _)) (Zal (Zar (i:=8) sc_law_web.nd rfl (by first|exact Or.inl rfl|exact Or.inr rfl) Zac)) Za8) (Zag (Zck (Za3 Zd6 (pv 4) Zac (nomark _)) (Zal (Zar (i:=9) sc_law_web.nd rfl (by first|exact Or.inl rfl|exact Or.inr rfl) (Zaq (addK K) (Zaq Zbx (pv 8) Zac) (Zaq Zc8 (Zaq Zfw (pv 9) Zac) Zac)))) Za8) (Zag (Zck (PW.pt (pw_and (Za3 Zd6 (pv 4) Zac (nomark _)) (pw_and1 (Za3 Zd6 (Zaq Zbx (pv 9) Zac) Zac (nomark _))))) (Zal (Zar (i:=9) sc_law_web.nd rfl (by first|exact Or.inl rfl|exact Or.inr rfl) (pv 8))) Za8) (Zal (Zcr (bmK K PySem.F.plainAttrs_list PySem.F.slot_list_append PySem.F.type_list_append Zfl (pv 6) (Zaa (Zbp (Zaa (pv 8) (Zaa (Zai (Zc2 rfl) rfl (mb "min" (by decide)) Zgn (Zaa (pv 9) (Zaa (Zaq Zd2 (pv 3) Zac) Zad))) Zad))) Zad)))))))))) (Zal (Za1 (Zbp (Zaa (pv 3) (Zaa (Zbi (tupK K) rfl (mb "tuple" (by decide)) Zb9 (Zaa (pv 6) Zad)) Zad))))))))))),Zi7 (fun ps ds Post hf=>?_) h⟩
 obtain ⟨hp,a,b,rfl,h1,h2,h3,h4,q⟩:=hf
 refine ⟨by simp,?_⟩
 dsimp only [cxOf,startD,Wbd,Wbg,Wa2,Wab]
 refine Zat (Zau (Zan (Zah (Zb8 rfl rfl (Zab (Zae rfl (Zaf (Zbl (m:=a) rfl rfl hp h1 (Wbf h2 (by decide)) fun r0 ps0 hp0 hr0 hs0=>Zbh ?_))))))))
 refine Zat (Zau (Zgc rfl rfl hp0 (by decide) (by decide) fun way ps1 hp1 hw0 hw1=>?_))
 refine Zat (Zau (Zb8 rfl rfl (Zab (Zbv (Zbu (Za4 rfl) Za0 Zdb) (Zaf (Zbl (m:=b + 1) rfl rfl hp1 (Int.add_le_add h3 (Wca 1)) (Wbf (Int.add_le_add h4 (Wca 1)) (by decide)) fun cnt ps2 hp2 hc0 hc1=>?_))))))
 refine Zb3 (fun Δ=>∃ n k:Int,1<=n/\n<=a/\0<=k/\k<=b /\ Δ = [.bor (.lst ps2),.val (.int a),.val (.int b),.val (.int n),.val (.int way),.val (.int k),.any,.any,.any,.any]) ?_ ?_
 ·refine Zdy (Zfe rfl (fun c=>iteT ?_) (fun c=>iteF (Zbk ⟨1 + r0,cnt,Int.le_add_of_nonneg_right hr0,by omega,hc0,Int.le_of_lt_add_one hc1,rfl⟩)))
  exact Zat (Zau (Zae rfl (Zau (Zae rfl ⟨a,b,h1,Wca _,h3,Wca _,rfl⟩))))
 rintro Δ1 ⟨n,k,hn0,hn1,hk0,hk1,rfl⟩
 have hn2:0 < n:=Int.lt_of_lt_of_le (by decide) hn0
 have hn3:n ≠ 0:=Int.ne_of_gt hn2
 refine Zat (Zdo (Zin (Zaf ⟨by decide,?_⟩)))
 refine Zb3 (wL a b n way k k.toNat) ?_ ?_
 ·refine Zgt (Zby (Zab (Zae rfl (Zaf ⟨_,rfl,by omega,by omega,?_⟩))))
  refine ⟨wL a b n way k,⟨ps2,[],.any,.any,.any,hp2,rfl,fun _ h=>(nomatch h),rfl⟩,?_,fun Δ2 h=>by rw [Zbf] at h; exact h⟩
  rintro i d Δ2 hd ⟨ps,ts,x7,x8,x9,hp',hl,ht,rfl⟩
  obtain ⟨hi,rfl⟩:=Zcj hd
  generalize (0 + (i:Int))=I
  refine Zdw (Zat (Zga (Zab (Zb8 rfl rfl (Zab (Zae rfl (Zaf (Zbl (m:=n) rfl rfl hp' hn0 (by omega) fun x px hpx hx0 hx1=>?_))))))))
  refine Zab (Zb8 rfl rfl (Zab (Zae rfl (Zaf (Zbl (m:=n) rfl rfl hpx hn0 (by omega) fun y py hpy hy0 hy1=>Zaf ⟨_,_,rfl,?_⟩)))))
  refine Zb3 (wQ py a b n way k (ts.map encTie) I) ?_ ?_
  ·refine Zdy (Zfe rfl (fun c=>iteT ?_) (fun c=>iteF (Zbk ⟨x,y,hx0,hx1,hy0,hy1,rfl⟩)))
   exact Zga (Zdl (Zak (Zbu (Za4 rfl) (Za4 rfl) (pr_I hn2)) (Zak (Zbu (Zbu (Za4 rfl) Za0 Zdb) (Za4 rfl) (pr_I hn2)) Zbc)) ⟨_,_,rfl,_,_,Wb4 _ hn3,Wbv _ hn2,Wb4 _ hn3,Wbv _ hn2,rfl⟩)
  rintro Δ3 ⟨u,v,hu0,hu1,hv0,hv1,rfl⟩
  refine Zb3 (wQ py a b n way k (ts.map encTie) I) ?_ ?_
  ·exact Zdy (Zfe rfl (fun c=>iteT (Zau (Zah ⟨0,v,Wca _,hn2,hv0,hv1,rfl⟩))) (fun c=>iteF (Zbk ⟨u,v,hu0,hu1,hv0,hv1,rfl⟩)))
  rintro Δ3 ⟨u,v,hu0,hu1,hv0,hv1,rfl⟩
  refine Zb3 (wR py a b n way k (ts.map encTie) I) ?_ ?_
  ·refine Zdy (Zfe rfl (fun c=>iteT ?_) (fun c=>iteF (Zbk ⟨u,v,hu0,hu1,hv0,rfl⟩)))
   exact Zau (Zbv (Zbu (Zbu (Za4 rfl) Za0 (pr_I (show (0:Int) < 2 by decide))) (Zbu (Zbu (Za4 rfl) Za0 (pr_I ⟨by decide,by decide⟩)) Za0 (pr_I (Or.inr ⟨by decide,by decide⟩))) Zdb) ⟨u,_,hu0,hu1,by omega,rfl⟩)
  rintro Δ3 ⟨u,v,hu0,hu1,hv0,rfl⟩
  refine Zb3 (wR py a b n way k (ts.map encTie) I) ?_ ?_
  ·refine Zdy (Zk0 (Zfe rfl (fun c=>iteT ?_) (fun c=>iteF (iteF (Zbk ⟨u,v,hu0,hu1,hv0,rfl⟩)))))
   refine Zbm (Zan (Zbv (Zbu (Za4 rfl) Za0 (pr_I (show (0:Int) < 2 by decide))) (Zah (Zkf ⟨_,rfl,ite2 (fun c=>?_) (fun c=>Zbk ⟨u,v,hu0,hu1,hv0,rfl⟩)⟩))))
   exact Zau (Zae rfl ⟨u,u,hu0,hu1,hu0,rfl⟩)
  rintro Δ3 ⟨u,v,hu0,hu1,hv0,rfl⟩
  refine Zm0 rfl rfl (Zbw (Zab (Zae rfl (Zab (Zbd (Zab (Zae rfl (Zab (Zbv (Zbu (Za4 rfl) Za0 Zlx) (Zaf (Zd7 (Zaf ?_))))))))))))
  refine ⟨Zh6,_,_,rfl,rfl,?_,py,ts ++ [(u,if n - 1 < v then n - 1 else v)],.val (.int I),.val (.int u),.val (.int v),hpy,by rw [Wai,hl]; rfl,fun t h=>?_,?_⟩
  ·rw [Waa]; exact small1000 (by omega)
  ·rcases Wbr.mp h with h | h
   ·exact ht t h
   ·rw [Wbb.mp h]
    refine ⟨hu0,hu1,?_,?_⟩
    ·show 0<=(if n - 1 < v then n - 1 else v); split <;> omega
    ·show (if n - 1 < v then n - 1 else v) < n; split <;> omega
  ·rw [Wa9]; rfl
 rintro Δ1 ⟨ps3,ts,x7,x8,x9,hp3,hl,ht,rfl⟩
 refine Za7 (Zbw (Zab (Zae rfl (Zab (Zbd (Zab (Ze1 rfl (Zaf (Zcx (Or.inl rfl) (Zaf ⟨Zh6,?_⟩))))))))))
 exact ⟨_,rfl,q n ts _ hp3 ⟨hn0,by omega,by omega,ht⟩ hn1 (by omega)⟩
end
noncomputable def placeAt (ts:List (Int × Int)) (e:Nat):Int:=match ts[e / 2]? with
 | some t=>if e % 2=0 then t.1 else t.2
 | none=>-1
noncomputable def encRow (r:List Int):D:=.tup (r.map .int)
noncomputable def encOrd (o:List (List Int)):D:=.tup (o.map encRow)
noncomputable def endsBelow (ts:List (Int × Int)) (m:Nat) (p:Int):List Int:=((Wa7 m).filter fun e=>decide (placeAt ts e=p)).map fun e:Nat=>(e:Int)
structure RowOk (ts:List (Int × Int)) (m:Nat) (p:Int) (r:List Int):Prop where
 perm:r.Perm (endsBelow ts m p)
 first:r.head? = (endsBelow ts m p).head?
structure OrdOk (n:Int) (ts:List (Int × Int)) (o:List (List Int)):Prop where
 len:(o.length:Int)=n
 row:∀ (p:Nat) r,o[p]? = some r->RowOk ts (2 * ts.length) (p:Int) r
theorem Zcm (ts:List (Int × Int)) (k:Nat) (p:Int):endsBelow ts (k + 1) p=endsBelow ts k p ++ (if placeAt ts k=p then [(k:Int)] else []):=by
 unfold endsBelow
 rw [List.range_succ,Wbn,Wa9]
 congr 1
 by_cases h:placeAt ts k=p
 ·simp [Wbm,h]
 ·simp [Wbm,h]
theorem Ze5 (ts:List (Int × Int)) (m:Nat) (p:Int):(endsBelow ts m p).length<=m:=by
 unfold endsBelow
 rw [Waa]
 exact Wa6 (List.length_filter_le _ _) (by rw [Wbs]; exact Waj _)
theorem RowOk.len {ts:List (Int × Int)} {m:Nat} {p:Int} {r:List Int} (h:RowOk ts m p r):r.length<=m:=by rw [h.perm.length_eq]; exact Ze5 ts m p
theorem RowOk.stay {ts:List (Int × Int)} {k:Nat} {p:Int} {r:List Int} (h:RowOk ts k p r) (hp:placeAt ts k ≠ p):RowOk ts (k + 1) p r:=by
 have e:=Zcm ts k p
 rw [if_neg hp,Wba] at e
 exact ⟨by rw [e]; exact h.perm,by rw [e]; exact h.first⟩
theorem RowOk.put {ts:List (Int × Int)} {k j:Nat} {p:Int} {r:List Int} (h:RowOk ts k p r) (hp:placeAt ts k=p) (hj:j<=r.length) (h1:r ≠ []->1<=j):RowOk ts (k + 1) p (r.take j ++ (k:Int) :: r.drop j):=by
 have e:=Zcm ts k p
 rw [if_pos hp] at e
 refine ⟨?_,?_⟩
 ·rw [e]
  refine List.perm_middle.trans ?_
  rw [List.take_append_drop]
  exact (List.Perm.cons _ h.perm).trans (List.perm_append_singleton _ _).symm
 ·rw [e]
  cases r with
  | nil=>
   have z:endsBelow ts k p=[]:=List.Perm.eq_nil h.perm.symm
   rw [z]
   have:j=0:=by simpa using hj
   subst this
   rfl
  | cons x r'=>
   have h2:=h1 (by simp)
   obtain ⟨j',rfl⟩:∃ j',j=j' + 1:=⟨j - 1,by omega⟩
   have h3:=h.first
   show some x=_
   cases q:endsBelow ts k p with
   | nil=>rw [q] at h3; cases h3
   | cons y l=>rw [q] at h3; exact h3
theorem Zoj {ts:List (Int × Int)} {k:Nat} (h:k < 2 * ts.length):∃ t,ts[k / 2]? = some t/\atI (ts.map encTie) ((0 + (k:Int)) / 2)=some (encTie t)/\atI [D.int t.1,D.int t.2] ((0 + (k:Int)) % 2)=some (.int (placeAt ts k)):=by
 have hk:k / 2 < ts.length:=by omega
 refine ⟨ts[k / 2],Wac hk,?_,?_⟩
 ·have e:(0 + (k:Int)) / 2=((k / 2:Nat):Int):=by omega
  rw [e]
  exact Zax (by rw [Wah,Wac hk]; rfl)
 ·have e2:placeAt ts k=if k % 2=0 then ts[k / 2].1 else ts[k / 2].2:=by
   unfold placeAt; rw [Wac hk]
  rw [e2]
  have e:(0 + (k:Int)) % 2=((k % 2:Nat):Int):=by omega
  rw [e]
  by_cases h0:k % 2=0
  ·rw [if_pos h0,h0]; exact Zax rfl
  ·have h1:k % 2=1:=by omega
   rw [if_neg h0,h1]; exact Zax rfl
theorem Zke {n:Int} {ts:List (Int × Int)} (hW:WebOk n ts) {k:Nat} (h:k < 2 * ts.length):0<=placeAt ts k/\placeAt ts k < n:=by
 have hk:k / 2 < ts.length:=by omega
 have:=hW.tie _ (Wb9 hk)
 unfold placeAt
 rw [Wac hk]
 dsimp only
 split <;> omega
noncomputable def fOrder:BSp:=fun ps ds Post=>Pen ps/\∃ n ts,ds=[encWeb n ts]/\WebOk n ts/\∀ o ps',Pen ps' -> OrdOk n ts o->Post (encOrd o) ps'
theorem Zgj {Δ1:Evt} {i:Nat} {y:L2.Slot} {ps:List D} {n:Int} {ts:List (Int × Int)} {P:D->Evt->Prop} (hx:Δ1[i]? = some y) (ho:y.od=some (.lst ps)) (hp:Pen ps) (hW:WebOk n ts) (h:∀ o ps',Pen ps' -> OrdOk n ts o->P (encOrd o) (Δ1.set i (y.put (.lst ps')))) :
  LendQ fOrder i P [encWeb n ts] Δ1:=⟨y,ps,hx,ho,hp,n,ts,rfl,hW,h⟩
noncomputable def oSt (ps:List D) (n:Int) (ts:List (Int × Int)) (cs:List (Addr × List Int)) (x3 x4:L2.Slot):Evt:=.bor (.lst ps) :: .val (encWeb n ts) :: .val (.lst (cs.map fun c=>D.adr c.1)) :: x3 :: x4 :: (cs.map (fun c=>L2.Slot.ownA c.1 (.lst (c.2.map D.int))) ++ Wab (25 - n.toNat) .any)
noncomputable def oP (n:Int) (ts:List (Int × Int)) (k:Nat):Evt->Prop:=fun Δ=>∃ (ps:List D) (cs:List (Addr × List Int)) (x3 x4:L2.Slot),Pen ps/\cs.length=n.toNat/\(∀ (p:Nat) c,cs[p]? = some c->RowOk ts k (p:Int) c.2) /\ Δ = oSt ps n ts cs x3 x4
theorem Zix {n:Int} {ts:List (Int × Int)} {ps:List D} {as:List Addr} (hn2:n<=25) (hal:as.length=(Wbg (fun _=>OD.lst []) ((rngD 0 n.toNat).filter fun _=>true)).length):∃ cs:List (Addr × List Int),cs.length=n.toNat/\(∀ (p:Nat) c,cs[p]? = some c->c.2=[]) ∧
  L2.putN 5 (as.zip (Wbg (fun _=>OD.lst []) ((rngD 0 n.toNat).filter fun _=>true))) ([.bor (.lst ps),.val (encWeb n ts),.val (.lst (as.map D.adr)),.any,.any] ++ Wab 25 .any)=oSt ps n ts cs .any .any:=by
 have eR:(rngD 0 n.toNat).filter (fun _=>true)=rngD 0 n.toNat:=by simp
 rw [eR,Waa,Zbf] at hal
 have eO:(rngD 0 n.toNat).map (fun _=>OD.lst [])=Wab n.toNat (OD.lst []):=by
  rw [List.map_const',Zbf]
 rw [eR,eO]
 generalize hcs:as.map (fun a=>((a,[]):Addr × List Int))=cs
 have hcl:cs.length=n.toNat:=by rw [<- hcs,Waa,hal]
 have e1:as.map D.adr=cs.map fun c=>D.adr c.1:=by rw [<- hcs,Wax]; rfl
 have e2:as.zip (Wab n.toNat (OD.lst []))=cs.map fun c=>(c.1,OD.lst (c.2.map D.int)):=by
  rw [<- hcs,Wax,<- hal]
  clear e1 hcl hcs hal
  induction as with
  | nil=>rfl
  | cons a r ih=>rw [Wao,Wce,List.zip_cons_cons,ih]; rfl
 have e3:=Zia (cs.map fun c=>(c.1,OD.lst (c.2.map D.int))) [.bor (.lst ps),.val (encWeb n ts),.val (.lst (cs.map fun c=>D.adr c.1)),.any,.any] [] 25 (by rw [Waa]; omega)
 rw [Wba,Wba,Wax,Waa,hcl] at e3
 refine ⟨cs,hcl,fun p c hc=>?_,by rw [e1,e2]; exact e3⟩
 rw [<- hcs,Wah] at hc
 cases q:as[p]? with
 | none=>rw [q] at hc; cases hc
 | some a=>rw [q] at hc; cases hc; rfl
theorem Znh {ps:List D} {n:Int} {ts:List (Int × Int)} {cs:List (Addr × List Int)} {x3 x4:L2.Slot} {p:Nat} {c:Addr × List Int} (h:cs[p]? = some c):(oSt ps n ts cs x3 x4)[p + 5]? = some (.ownA c.1 (.lst (c.2.map D.int))):=by
 show (cs.map (fun c=>L2.Slot.ownA c.1 (.lst (c.2.map D.int))) ++ Wab (25 - n.toNat) .any)[p]? = _
 rw [Wa3 (by rw [Waa]; exact (Wak.mp h).1),Wah,h]; rfl
theorem Zmt {ps ps':List D} {n:Int} {ts:List (Int × Int)} {cs:List (Addr × List Int)} {x3 x4:L2.Slot} {p:Nat} {c:Addr × List Int} {r:List Int} {v:L2.Slot} (h:cs[p]? = some c) (hv:v=.ownA c.1 (.lst (r.map D.int))):(oSt ps n ts cs x3 x4).set (p + 5) v=oSt ps n ts (cs.set p (c.1,r)) x3 x4:=by
 have hp:=(Wak.mp h).1
 have ea:(cs.set p (c.1,r)).map (fun c=>D.adr c.1)=cs.map fun c=>D.adr c.1:=by
  rw [List.map_set]
  apply Wbw
  intro i
  by_cases hii:i=p
  ·subst hii
   rw [Waf (by rw [Waa]; exact hp),Wah,h]; rfl
  ·rw [Wag (Ne.symm hii)]
 unfold oSt
 rw [ea,List.map_set,hv,<- List.set_append_left _ _ (by rw [Waa]; exact hp)]
 rfl
section
variable {P:Program} {w:World} {K:PySem.W.Frag} {mg:Str->Option Value} {base:Heap} {f:Addr} {fd:FuncData}
theorem Zj6 (mb:Mb mg) (C__law_draw:Callee P w K mg base 1 "_law_draw" ["_law_pen_here","_law_many"] (spB K fDraw)) (F:Fun K "_law_order" "_law_order" s_law_order f fd):FnOk P w K mg base CX0 2 f fd ["_law_pen_here","_law_web_here"] (spB K fOrder):=by
 refine F.ok sc_law_order (Zd5 fun ps ds Post h=>by obtain ⟨_,n,ts,rfl,_⟩:=h; rfl) (fun cdv A outer s H vs Q E hr h=>?_)
 have hu:=Zb0 hr
 refine ⟨_,(Zag (Zj3 5 (show ∀ x ∈ (["_law_pen_here","_law_web_here","_law_rows","_law_k","_law_row","!0","!1","!2","!3","!4","!5","!6","!7","!8","!9","!10","!11","!12","!13","!14","!15","!16","!17","!18","!19","!20","!21","!22","!23","!24"]:List Str).drop 5,(defScope s_law_order).names.lookup x=none from by decide +kernel) (Zgh (i:=2) ["_law_place"] (show CompSc (defScope s_law_order) ["_law_pen_here","_law_web_here","_law_rows","_law_k","_law_row","!0","!1","!2","!3","!4","!5","!6","!7","!8","!9","!10","!11","!12","!13","!14","!15","!16","!17","!18","!19","!20","!21","!22","!23","!24"] _ [] [] from ⟨rfl,by decide +kernel,by decide +kernel,by decide +kernel,rfl,by decide +kernel⟩) rfl sc_law_order.nd rfl (by first|exact Or.inl rfl|exact Or.inr rfl) (Zb1 rfl (mb "range" (by decide)) (Zaa (Zam (ixK K hu) (pv 1) Zac (fun _ _=>rfl)) Zad)) (fun _ _ _ _ _=>(Zbb (i:=0) (show List.Nodup (["_law_place"]:List Str) from by decide) rfl (Or.inl rfl))) (fun _ _ _ _ _=>Zcv) (fun _ _ _ _ _=>(Za5 Zad)))) (Zag (Zgp PassesOwn.never rfl (Zb1 rfl (mb "range" (by decide)) (Zaa (Zaq Zc8 Zac (Zai (lenK K) rfl (mb "len" (by decide)) Zcb (Zaa (Zam (ixK K hu) (pv 1) Zac (fun _ _=>rfl)) Zad))) Zad)) (Zbb (i:=3) sc_law_order.nd rfl (by first|exact Or.inl rfl|exact Or.inr rfl)) (Zag (Zar (i:=4) sc_law_order.nd rfl (by first|exact Or.inl rfl|exact Or.inr rfl) (Zam (ixK K hu) (pv 2) (Zam (ixK K hu) (Zam (ixK K hu) (Zam (ixK K hu) (pv 1) Zac (fun _ _=>rfl)) (Zaq Zfw (pv 3) Zac) (fun _ _=>rfl)) (Zaq Zbx (pv 3) Zac) (fun _ _=>rfl)) (fun _ _=>rfl))) (Zal (Zcr (bmK K PySem.F.plainAttrs_list PySem.F.slot_list_insert PySem.F.type_list_insert Zfq (pv 4) (Zaa (Zai (Zc2 rfl) rfl (mb "min" (by decide)) Zgn (Zaa (Zai (lenK K) rfl (mb "len" (by decide)) Zcb (Zaa (pv 4) Zad)) (Zaa (Zaq (addK K) Zac (Za6 C__law_draw (hr.mono (by first|decide|omega)) (Zaa (pv 0) (Zaa (Zai (Zfi rfl) rfl (mb "max" (by decide)) Zkn (Zaa Zac (Zaa (Zai (lenK K) rfl (mb "len" (by decide)) Zcb (Zaa (pv 4) Zad)) Zad))) Zad)))) Zad))) (Zaa (pv 3) Zad))))))) (Zal (Za1 (Zbi (tupK K) rfl (mb "tuple" (by decide)) Zb9 (Zaa (Zc6 ["_law_row"] (show CompSc (defScope s_law_order) ["_law_pen_here","_law_web_here","_law_rows","_law_k","_law_row","!0","!1","!2","!3","!4","!5","!6","!7","!8","!9","!10","!11","!12","!13","!14","!15","!16","!17","!18","!19","!20","!21","!22","!23","!24"] _ [] [] from ⟨rfl,by decide +kernel,by decide +kernel,by decide +kernel,rfl,by decide +kernel⟩) rfl (seqK K (pv 2)) (fun _ _ _ _ _=>(Zbb (i:=0) (show List.Nodup (["_law_row"]:List Str) from by decide) rfl (Or.inl rfl))) (fun _ _ _ _ _=>Zcv) (fun _ _ _ _ _=>(Zbi (tupK K) rfl (mb "tuple" (by decide)) Zb9 (Zaa (pv 0) Zad)))) Zad)))))),Zi7 (fun ps ds Post hf=>?_) h⟩
 obtain ⟨hp,n,ts,rfl,hW,q⟩:=hf
 refine ⟨by simp,?_⟩
 dsimp only [cxOf,startD,Wbd,Wbg,Wa2]
 have hn:=hW.lo
 have hn2:=hW.hi
 have hts:=hW.len
 -- the rows
 refine Zat (Zlc (Zj5 (by decide) (Zby ?_)))
 refine Zab (Zan (Zae rfl (Zah (Zap (d:=.int n) rfl (Zaf ⟨n,rfl,by omega,by omega,?_⟩)))))
 refine ⟨by rw [Zbf]; exact small1000 (by omega),fun _=>true,fun _=>.lst [],fun i d hd=>?_,by decide,?_,fun as hal hnd=>?_⟩
 ·exact Zcs ⟨rfl,Zin (Zaf ⟨by decide,rfl,_,rfl⟩)⟩
 ·rw [Waa]
  have e:((rngD 0 n.toNat).filter fun _=>true).length<=25:=Wa6 (List.length_filter_le _ _) (by rw [Zbf]; omega)
  show 5 + _<=30
  omega
 obtain ⟨cs,hcl,hce,e⟩:=Zix (ps:=ps) (ts:=ts) hn2 hal
 refine Eq.mpr (congrArg (fun Δ=>JS K _ Δ _) e) ?_
 -- the loop
 refine Zb3 (oP n ts (2 * ts.length)) ?_ ?_
 ·refine Zgt (Zby (Zab (Zbv (Zbu Za0 (Zdn (Zbg (ds:=[.int n,.tup (ts.map encTie)]) rfl rfl)) (pr_I (Or.inl ⟨by decide,by decide⟩))) (Zaf ⟨_,rfl,?_,?_,?_⟩))))
  ·rw [Waa]; omega
  ·rw [Waa]; omega
  have eL:((2:Int) * ((ts.map encTie).length:Int)).toNat=2 * ts.length:=by rw [Waa]; omega
  refine ⟨oP n ts,⟨ps,cs,.any,.any,hp,hcl,fun p c hc=>by rw [hce p c hc]; exact ⟨List.Perm.refl _,rfl⟩,rfl⟩,?_,fun Δ h=>by rw [Zbf,eL] at h; exact h⟩
  ·rintro k d Δ2 hd ⟨ps,cs,x3,x4,hp,hcl,hrow,rfl⟩
   rw [eL] at hd
   obtain ⟨hk,rfl⟩:=Zcj hd
   obtain ⟨t,ht1,ht2,ht3⟩:=Zoj hk
   obtain ⟨pl0,pl1⟩:=Zke hW hk
   obtain ⟨c,hc1,hc2⟩:=Zim (f:=fun c:Addr × List Int=>D.adr c.1) (xs:=cs) (i:=placeAt ts k) pl0 (by omega)
   have hR:=hrow _ c hc1
   have hRl:=hR.len
   have ep:((placeAt ts k).toNat:Int)=placeAt ts k:=Wbe pl0
   have hsl:∀ (ps:List D) (x3 x4:L2.Slot),(oSt ps n ts cs x3 x4)[(placeAt ts k).toNat + 5]? = some (.ownA c.1 (.lst (c.2.map D.int))):=fun ps x3 x4=>Znh hc1
   have hlen:(c.2.map D.int).length=c.2.length:=Waa _
   refine Zdw (Zat (Zau (Zbv (Zgm (d:=.adr c.1) (Za4 rfl) (Zfn (Zfn (Zbg (d:=.tup (ts.map encTie)) rfl rfl) (Zbu (Za4 rfl) Za0 (pr_I ⟨by decide,by decide⟩)) ht2) (Zbu (Za4 rfl) Za0 (pr_I (by show (0:Int) < 2; decide))) ht3) hc2) ?_)))
   refine Zmq (a:=c.1) rfl (hsl ps _ _) ?_
   refine Zbd (Zab (Zi8 rfl (hsl ps _ _) (Zab (Zan (Zah (Zb8 rfl rfl (Zab (Zbd (Zab (Zah (Zab (Zi8 rfl (hsl ps _ _) (Zaf (Zd7 (Zaf ?_)))))))))))))))
   refine Zbl rfl rfl hp (by split <;> omega) (by split <;> omega) fun r ps' hp' hr0 hr1=>?_
   refine Zbh (Zaf (Zd7 (Zae rfl ⟨_,_,_,rfl,hsl ps' _ _,by rw [hlen]; exact small1000 (by omega),by split <;> omega,by split <;> omega,?_⟩)))
   generalize hi:insI (c.2.map D.int).length (if 1 + r < ((c.2.map D.int).length:Int) then 1 + r else ((c.2.map D.int).length:Int))=j
   have hj:j<=c.2.length/\(c.2 ≠ []->1<=j):=by
    rw [<- hi,hlen]
    unfold insI
    refine ⟨?_,fun h=>?_⟩
    ·split <;> split <;> omega
    ·have:=List.length_pos_iff.mpr h
     split <;> split <;> omega
   refine ⟨ps',cs.set (placeAt ts k).toNat (c.1,c.2.take j ++ (k:Int) :: c.2.drop j),.val (.int (0 + (k:Int))),.val (.adr c.1),hp',by rw [Wb0]; exact hcl,fun p c' hc'=>?_,Zmt (ps:=ps') (ps':=ps') hc1 ?_⟩
   ·by_cases hpp:p=(placeAt ts k).toNat
    ·subst hpp
     rw [Waf (by omega)] at hc'
     cases hc'
     exact hR.put (by omega) hj.1 hj.2
    ·rw [Wag (Ne.symm hpp)] at hc'
     exact (hrow p c' hc').stay (by omega)
   ·rw [Wa9,List.map_take,Wa1,List.map_drop,Int.zero_add]
 -- the end
 rintro Δ1 ⟨ps3,cs3,x3,x4,hp3,hcl3,hrow3,rfl⟩
 refine JS.conv (Δ':=.bor (.lst ps3) :: .val (encWeb n ts) :: .val (.lst (cs3.map fun c=>D.lst (c.2.map D.int))) :: x3 :: x4 :: (Wab cs3.length .any ++ Wab (25 - n.toNat) .any)) (fun g G H σ k=>?_) ?_
 ·have:=Ok.thaw (cs:=cs3.map fun c=>(c.1,c.2.map D.int)) (R:=[.bor (.lst ps3),.val (encWeb n ts),.val (.lst (cs3.map fun c=>D.adr c.1)),x3,x4]) (T:=Wab (25 - n.toNat) .any) (i:=2) (g:=g) (G:=G) (H:=H) (σ:=σ) (K:=K) (by rw [Wax]; exact k) (by rw [Wax]; rfl)
  rw [Wax,Waa] at this
  exact this
 refine Za7 (Zbd (Zab (Zdg (by decide) (Zks (Zae rfl ⟨_,Or.inl rfl,?_,fun _=>true,fun d=>match d with | .lst ds=>.tup ds | d=>d,fun i d hd=>?_,?_⟩)))))
 ·rw [Waa]; exact small1000 (by omega)
 ·rw [Wah] at hd
  cases q:cs3[i]? with
  | none=>rw [q] at hd; cases hd
  | some c=>
   rw [q] at hd
   have hd:D.lst (c.2.map D.int)=d:=by simpa using hd
   subst hd
   exact Zcs ⟨rfl,Zbd (Zab (Zae rfl (Zaf (Zcx (Or.inl rfl) ⟨rfl,_,rfl⟩))))⟩
 ·refine Zaf (Zcx (Or.inl rfl) ⟨ps3,rfl,?_⟩)
  have e:((cs3.map fun c=>D.lst (c.2.map D.int)).filter fun _=>true).map (fun d=>match d with | .lst ds=>D.tup ds | d=>d)=(cs3.map (·.2)).map encRow:=by
   rw [Wb8.mpr (by simp),Wax,Wax]
   rfl
  rw [e]
  exact q _ _ hp3 ⟨by rw [Waa]; omega,fun p r hr=>by
   rw [Wah] at hr
   cases z:cs3[p]? with
   | none=>rw [z] at hr; cases hr
   | some c=>rw [z] at hr; cases hr; exact hrow3 p c z⟩
end
theorem Zjz (ds:List D) {j:Nat} (h:j<=ds.length):cutD ds (some (j:Int)) none=ds.drop j:=by
 unfold cutD
 rw [HT.sIx_nat,HT.sIx_none,Nat.min_eq_left h,Wcb (by rw [Wbt]; exact Waj _)]
theorem Zn4 (ds:List D) {j:Nat} (h:j<=ds.length):cutD ds none (some (j:Int))=ds.take j:=by
 unfold cutD
 rw [HT.sIx_nat,HT.sIx_none,Nat.min_eq_left h,List.drop_zero,Nat.sub_zero]
section
variable {P:Program} {w:World} {K:PySem.W.Frag} {mg:Str->Option Value} {base:Heap} {f:Addr} {fd:FuncData}
theorem Zcc:2<=sizeLine:=by decide
end
section
variable {P:Program} {w:World} {K:PySem.W.Frag} {mg:Str->Option Value} {base:Heap} {f:Addr} {fd:FuncData}
theorem Zdd (n:Int) (ts:List (Int × Int)):atI [D.int n,D.tup (ts.map encTie)] 1=some (.tup (ts.map encTie)):=rfl
theorem OrdOk.rows {n:Int} {ts:List (Int × Int)} {o:List (List Int)} (hW:WebOk n ts) (hO:OrdOk n ts o):o.length<=25/\∀ r ∈ o,r.length<=48:=by
 have h1:=hO.len
 have h2:=hW.hi
 have h3:=hW.len
 refine ⟨by omega,fun r hr=>?_⟩
 obtain ⟨p,hp,e⟩:=List.mem_iff_getElem.mp hr
 have:=(hO.row p r (by rw [Wac hp,e])).len
 omega
noncomputable def intD:D->Int
 | .int i=>i
 | _=>0
theorem Zgk (r:List Int):(r.map D.int).map intD=r:=by
 rw [Wax]
 conv=>rhs; rw [<- List.map_id r]
 rfl
end
noncomputable def namesF (g:Int->Int) (m:Nat):List D:=(Wa7 m).map fun k:Nat=>D.int (g (k:Int))
theorem Zih (g:Int->Int) (m:Nat):(namesF g m).length=m:=by unfold namesF; rw [Waa,Wbs]
theorem Zcz (g:Int->Int) {m k:Nat} (h:k < m):(namesF g m)[k]? = some (.int (g k)):=by
 unfold namesF; rw [Wah,Wbx h]; rfl
theorem Zep (g:Int->Int) {m a:Int} (h0:0<=a) (h1:a < m):atI (namesF g m.toNat) a=some (.int (g a)):=by
 obtain ⟨k,rfl⟩:∃ k:Nat,a=(k:Int):=⟨a.toNat,by omega⟩
 exact Zax (Zcz g (by omega))
noncomputable def moveT (g:Int->Int) (us:List (Int × Int)):List (Int × Int):=us.map fun t=>(g t.1,g t.2)
noncomputable def jn (n p q k:Int):Int:=if k < q then n + k else if k=q then p else n + k - 1
theorem Ziq {n p:Int} {q m:Nat} (h:q < m):(((Wa7 (m - 1)).map fun i:Nat=>D.int (n + i)).take q ++ D.int p :: ((Wa7 (m - 1)).map fun i:Nat=>D.int (n + i)).drop q)=namesF (jn n p q) m:=by
 apply Wbw
 intro k
 have hl:(((Wa7 (m - 1)).map fun i:Nat=>D.int (n + i)).take q).length=q:=by rw [Wbl,Waa,Wbs]; omega
 rcases Nat.lt_trichotomy k q with z | z | z
 ·rw [Wa3 (by omega),List.getElem?_take_of_lt z,Wah,Wbx (by omega),Zcz _ (by omega)]
  unfold jn; rw [if_pos (by omega)]; rfl
 ·subst z
  rw [Wap (by omega),hl,Nat.sub_self,Zcz _ h]
  unfold jn; rw [if_neg (by omega),if_pos rfl]; rfl
 ·rw [Wap (by omega),hl,show k - q=(k - q - 1) + 1 by omega,List.getElem?_cons_succ,List.getElem?_drop,show q + (k - q - 1)=k - 1 by omega]
  by_cases hk:k < m
  ·rw [Wah,Wbx (by omega),Zcz _ hk]
   unfold jn; rw [if_neg (by omega),if_neg (by omega)]
   show some (D.int (n + ((k - 1:Nat):Int)))=_
   rw [show n + ((k - 1:Nat):Int)=n + (k:Int) - 1 by omega]
  ·rw [Wcc (by rw [Waa,Wbs]; omega),Wcc (by rw [Zih]; omega)]
noncomputable def fTM:DSp:=fun ds Post=>∃ m us g,ds=[encWeb m us,.lst (namesF g m.toNat)]/\WebOk m us/\Post (.tup ((moveT g us).map encTie))
theorem Zjn (g:Int->Int) (us:List (Int × Int)) (ff:D->D) (h:∀ t,ff (encTie t)=encTie (g t.1,g t.2)):((us.map encTie).filter fun _=>true).map ff=(moveT g us).map encTie:=by
 rw [Wb8.mpr (by simp),Wax]
 unfold moveT
 rw [Wax]
 exact List.map_congr_left fun t _=>h t
section
variable {P:Program} {w:World} {K:PySem.W.Frag} {mg:Str->Option Value} {base:Heap} {f:Addr} {fd:FuncData}
theorem Zop (mb:Mb mg) (F:Fun K "ties_moved" "ties_moved" s_ties_moved f fd):FnOk P w K mg base CX0 1 f fd ["web","numbers"] (spD K fTM):=by
 refine F.ok sc_ties_moved (Zdc fun ds Post h=>by obtain ⟨_,_,_,rfl,_⟩:=h; rfl) (fun cdv A outer s H vs Q E hr h=>?_)
 have hu:=Zb0 hr
 refine ⟨_,(Zal (Za1 (Zbi (tupK K) rfl (mb "tuple" (by decide)) Zb9 (Zaa (Zc6 ["a","b"] (show CompSc (defScope s_ties_moved) ["web","numbers"] _ ["numbers"] [1] from ⟨rfl,by decide +kernel,by decide +kernel,by decide +kernel,rfl,by decide +kernel⟩) rfl (seqK K (Zam (ixK K hu) (pv 0) Zac (fun _ _=>rfl))) (fun _ _ _ _ _=>(gtupK (n:=2) K rfl (Zdk (Zbb (i:=0) (show List.Nodup (["a","b","numbers"]:List Str) from by decide) rfl (Or.inl rfl)) (Zdk (Zbb (i:=1) (show List.Nodup (["a","b","numbers"]:List Str) from by decide) rfl (Or.inl rfl)) Zic)))) (fun _ _ _ _ _=>Zcv) (fun _ _ _ _ _=>(Zbp (Zaa (Zam (ixK K hu) (pv 2) (pv 0) (fun _ _=>rfl)) (Zaa (Zam (ixK K hu) (pv 2) (pv 1) (fun _ _=>rfl)) Zad))))) Zad)))),Zg5 (fun ds Post hf=>?_) h⟩
 obtain ⟨m,us,g,rfl,hV,q⟩:=hf
 refine ⟨by simp,?_⟩
 dsimp only [startD,Wbd,Wbg,Wa2]
 have hl:=hV.len
 refine Za7 (Zbd (Zab (Zjj (by decide) (Zf1 (Zan (Zae rfl (Zah (Zap (Zdd m us) ⟨_,rfl,?_,fun _=>true,fun d=>match d with | .tup [.int a,.int b]=>.tup [.int (g a),.int (g b)] | d=>d,fun i d hd=>?_,Zaf (Zcx (Or.inl rfl) ?_)⟩))))))))
 ·rw [Waa]; exact small1000 (by omega)
 ·rw [Wah] at hd
  cases z:us[i]? with
  | none=>rw [z] at hd; cases hd
  | some t=>
   rw [z] at hd; cases hd
   obtain ⟨a,b,c,d⟩:=hV.tie t (Wa4 z)
   refine ⟨_,_,rfl,Zcs ⟨rfl,Zbw (Zab (Zan (Zae rfl (Zae rfl (Zcd (Zep g a b) (Zab (Zan (Zae rfl (Zae rfl (Zcd (Zep g c d) (Zaf ⟨Zcc,rfl,_,_,rfl⟩)))))))))))⟩⟩
 ·rw [Zjn g us _ fun t=>rfl]
  exact q
end
noncomputable def mvR (k:Int) (r:List Int):List Int:=r.map fun e=>k + e
theorem Zna (k:Int) (r:List Int):(mvR k r).length=r.length:=by unfold mvR; rw [Waa]
theorem Zi3 {n:Int} {ts:List (Int × Int)} {o:List (List Int)} (hO:OrdOk n ts o) {p:Nat} (hp:(p:Int) < n):o[p]? = some (o.getD p []):=by
 have:=hO.len
 have h:p < o.length:=by omega
 rw [List.getD_eq_getElem?_getD,Wac h]; rfl
section
variable {P:Program} {w:World} {K:PySem.W.Frag} {mg:Str->Option Value} {base:Heap} {f:Addr} {fd:FuncData}
noncomputable def isIntX:D->Bool
 | .int _=>true
 | _=>false
noncomputable def isTieX (m:Nat):D->Bool
 | .int i=>decide (0<=i/\i < (m:Int))
 | _=>false
theorem Zly {m:Nat} {d:D} (hb:isTieX m d=true):∃ t:Nat,d=.int (t:Int)/\t < m:=by
 cases d with
 | int i=>have z:=of_decide_eq_true hb; exact ⟨i.toNat,by rw [Wbe z.1],(Int.toNat_lt z.1).mpr z.2⟩
 | _=>cases hb
noncomputable def fIsWX:DSp:=fun ds Post=>∃ d T,ds=[d]/\tyD d=some T/\Post (.bl (isIntX d))
theorem Zk8 (mb:Mb mg) (F:Fun K "is_whole" "is_whole" s_is_whole f fd):FnOk P w K mg base CX0 1 f fd ["thing"] (spD K fIsWX):=by
 refine F.ok sc_is_whole (Zdc fun ds Post h=>by obtain ⟨_,_,rfl,_⟩:=h; rfl) (fun cdv A outer s H vs Q E hr h=>?_)
 have hu:=Zb0 hr
 refine ⟨_,(Zal (Za1 (Zkv (Zai (isiUK K) rfl (mb "isinstance" (by decide)) Zaj (Zaa (pv 0) (Zaa (Zf2 rfl (mb "int" (by decide)) Zk6 (show RelV (.ty "int") _ from rfl)) Zad))) (Zk1 (Zoh (Zai (isiUK K) rfl (mb "isinstance" (by decide)) Zaj (Zaa (pv 0) (Zaa (Zf2 rfl (mb "bool" (by decide)) Zlk (show RelV (.ty "bool") _ from rfl)) Zad)))))))),Zg5 (fun ds Post hf=>?_) h⟩
 obtain ⟨d,T,rfl,hT,q⟩:=hf
 refine ⟨by simp,?_⟩
 dsimp only [startD,Wbd,Wbg,Wa2]
 cases d with
 | int i=>
  refine Za7 (Zb5 (Zbd (Zab (Zae rfl (Zab (Zdz (Zaf (Zb6 (T:="int") (b:=true) rfl (fun _=>by rfl) ⟨_,rfl,?_⟩))))))))
  rw [if_pos rfl]
  exact Zf5 (Zbd (Zab (Zae rfl (Zab (Zdz (Zaf (Zb6 (T:="int") (b:=false) rfl (fun _=>by rfl) ⟨_,rfl,q⟩)))))))
 | bl b=>
  refine Za7 (Zb5 (Zbd (Zab (Zae rfl (Zab (Zdz (Zaf (Zb6 (T:="bool") (b:=true) rfl (fun _=>by rfl) ⟨_,rfl,?_⟩))))))))
  rw [if_pos rfl]
  exact Zf5 (Zbd (Zab (Zae rfl (Zab (Zdz (Zaf (Zb6 (T:="bool") (b:=true) rfl (fun _=>by rfl) ⟨_,rfl,q⟩)))))))
 | non=>exact Za7 (Zb5 (Zbd (Zab (Zae rfl (Zab (Zdz (Zaf (Zb6 (T:="NoneType") (b:=false) rfl (fun _=>by rfl) ⟨_,rfl,iteF q⟩))))))))
 | str x=>exact Za7 (Zb5 (Zbd (Zab (Zae rfl (Zab (Zdz (Zaf (Zb6 (T:="str") (b:=false) rfl (fun _=>by rfl) ⟨_,rfl,iteF q⟩))))))))
 | tup l=>exact Za7 (Zb5 (Zbd (Zab (Zae rfl (Zab (Zdz (Zaf (Zb6 (T:="tuple") (b:=false) rfl (fun _=>by rfl) ⟨_,rfl,iteF q⟩))))))))
 | lst l=>exact Za7 (Zb5 (Zbd (Zab (Zae rfl (Zab (Zdz (Zaf (Zb6 (T:="list") (b:=false) rfl (fun _=>by rfl) ⟨_,rfl,iteF q⟩))))))))
 | dct k l=>exact Za7 (Zb5 (Zbd (Zab (Zae rfl (Zab (Zdz (Zaf (Zb6 (T:="dict") (b:=false) rfl (fun _=>by rfl) ⟨_,rfl,iteF q⟩))))))))
 | _=>cases hT
end
noncomputable def isK (k:Nat):D->Bool
 | .int i=>Was i.toNat k
 | _=>false
theorem Zki (k j:Nat) (hj:j < 15):atI [D.bl (Was 0 k),D.bl (Was 1 k),D.bl (Was 2 k),D.bl (Was 3 k),D.bl (Was 4 k),D.bl (Was 5 k),D.bl (Was 6 k),D.bl (Was 7 k),D.bl (Was 8 k),D.bl (Was 9 k),D.bl (Was 10 k),D.bl (Was 11 k),D.bl (Was 12 k),D.bl (Was 13 k),D.bl (Was 14 k)] (j:Int)=some (.bl (Was j k)):=Zax (by
 rw [show [D.bl (Was 0 k),D.bl (Was 1 k),D.bl (Was 2 k),D.bl (Was 3 k),D.bl (Was 4 k),D.bl (Was 5 k),D.bl (Was 6 k),D.bl (Was 7 k),D.bl (Was 8 k),D.bl (Was 9 k),D.bl (Was 10 k),D.bl (Was 11 k),D.bl (Was 12 k),D.bl (Was 13 k),D.bl (Was 14 k)]=(Wa7 15).map (fun j:Nat=>D.bl (Was j k)) from rfl,Wah,Wbx hj]
 rfl)
structure RefK (K:PySem.W.Frag) (c0 c1 c2 c3 c4 c5 c6 c7 c8 c9 c10 c11 c12 c13 c14 c15 C:Addr) (k:Nat):Prop where
 e:ExcC K C/\PySem.W.mroIn K C (.ref c0)=some true
 i:ExcI K C
 t:PySem.W.kitOne K (.ref C) (.type "ValueError")=some true
 z:((rngD 0 (Int.toNat 15)).filter (isK k)).map (fun d=>d)=[.int k]
 h1:PySem.W.kitOne K (.ref C) (.ref c1)=some (Was 0 k)
 h2:PySem.W.kitOne K (.ref C) (.ref c2)=some (Was 1 k)
 h3:PySem.W.kitOne K (.ref C) (.ref c3)=some (Was 2 k)
 h4:PySem.W.kitOne K (.ref C) (.ref c4)=some (Was 3 k)
 h5:PySem.W.kitOne K (.ref C) (.ref c5)=some (Was 4 k)
 h6:PySem.W.kitOne K (.ref C) (.ref c6)=some (Was 5 k)
 h7:PySem.W.kitOne K (.ref C) (.ref c7)=some (Was 6 k)
 h8:PySem.W.kitOne K (.ref C) (.ref c8)=some (Was 7 k)
 h9:PySem.W.kitOne K (.ref C) (.ref c9)=some (Was 8 k)
 h10:PySem.W.kitOne K (.ref C) (.ref c10)=some (Was 9 k)
 h11:PySem.W.kitOne K (.ref C) (.ref c11)=some (Was 10 k)
 h12:PySem.W.kitOne K (.ref C) (.ref c12)=some (Was 11 k)
 h13:PySem.W.kitOne K (.ref C) (.ref c13)=some (Was 12 k)
 h14:PySem.W.kitOne K (.ref C) (.ref c14)=some (Was 13 k)
 h15:PySem.W.kitOne K (.ref C) (.ref c15)=some (Was 14 k)
noncomputable def two (cA:Addr) (a:Nat) (cB:Addr) (b:Nat):Addr->Nat->Prop:=fun C k=>(C=cA/\k=a)\/(C=cB/\k=b)
noncomputable def fRefG (P:Program) (w:World) (K:PySem.W.Frag) (mg:Str->Option Value) (base:Heap) (dp:Nat) (R:Addr->Nat->Prop):DSp:=fun ds Post=>∃ (a:Addr) (t:D) (g:XSp) (Xp:Addr->Prop),ds=[.adr a,t]/\CalleeV P w K mg base dp a ["_law_asked"] (spX K g)/\(∀ Po:D->Prop,(Post .non->∀ d,Po d)->g [t] Po Xp)/\∀ C,Xp C->∃ k,R C k/\Post (.lst [.int k])
section
variable {P:Program} {w:World} {K:PySem.W.Frag} {mg:Str->Option Value} {base:Heap} {f:Addr} {fd:FuncData} {c0 c1 c2 c3 c4 c5 c6 c7 c8 c9 c10 c11 c12 c13 c14 c15:Addr}
theorem Zbs {K:PySem.W.Frag} {Δ:Evt} {Pd:List D->Evt->Prop} {i:Nat} {a C c:Addr} {b:Bool} {tr:TA} (hx:Δ[i]? = some (.val (.exc a C))) (Z:ExcI K C) (e:PySem.W.kitOne K (.ref C) (.ref c)=some b) (h:JA K tr Δ fun ds Δ2=>Pd (.bl b :: ds) Δ2) :
  JA K (tCons (tCB (rIsiE K) (tCons (tVar i) (tCons (tC (.ref c)) tNil))) tr) Δ Pd:=Zab (Zbd (Zab (Zae hx (Zab (Zkm (Zaf (Zmp Z e h)))))))
theorem Zf8 {dp:Nat} {R0:Addr->Nat->Prop} (hR0:∀ C k,R0 C k->RefK K c0 c1 c2 c3 c4 c5 c6 c7 c8 c9 c10 c11 c12 c13 c14 c15 C k) (mb:Mb mg) (cl:Cl K mg c0 c1 c2 c3 c4 c5 c6 c7 c8 c9 c10 c11 c12 c13 c14 c15) (F:Fun K "_law_refusal" "_law_refusal" s_law_refusal f fd):FnOk P w K mg base CX0 (dp + 1) f fd ["_law_call","_law_things"] (spD K (fRefG P w K mg base dp R0)):=by
 refine F.ok sc_law_refusal (Zdc fun ds Post h=>by obtain ⟨_,_,_,_,rfl,_⟩:=h; rfl) (fun cdv A outer s H vs Q E hr h=>?_)
 have hu:=Zb0 hr
 obtain ⟨F0,ds,Post,l,rs,hf,q⟩:=h
 obtain ⟨a,t,g,Xp,rfl,CV,hg,hX⟩:=hf
 refine ⟨_,(Zag (Zok (i:=2) (n:=4) sc_law_refusal.nd rfl rfl rfl rfl rfl rfl rfl cl.n_FloorError cl.e_FloorError (fun E pn xe hx=>(Zal (Zcr (Zol CV (hr.mono (by first|decide|omega)) hx (i:=0) rfl (by first | exact Or.inl rfl | exact Or.inr (Or.inl rfl) | exact Or.inr (Or.inr rfl)) (Zaa (pv 1) Zad))))) (fun a=>(Zag (Zar (i:=3) sc_law_refusal.nd rfl (by first|exact Or.inl rfl|exact Or.inr rfl) (Za5 (Zaa (Zai (isiEK K) rfl (mb "isinstance" (by decide)) Zaj (Zaa (pv 2) (Zaa (Zay rfl cl.n_NoWeb (show RelV (.ref _) _ from rfl)) Zad))) (Zaa (Zai (isiEK K) rfl (mb "isinstance" (by decide)) Zaj (Zaa (pv 2) (Zaa (Zay rfl cl.n_NoOrder (show RelV (.ref _) _ from rfl)) Zad))) (Zaa (Zai (isiEK K) rfl (mb "isinstance" (by decide)) Zaj (Zaa (pv 2) (Zaa (Zay rfl cl.n_NoNumber (show RelV (.ref _) _ from rfl)) Zad))) (Zaa (Zai (isiEK K) rfl (mb "isinstance" (by decide)) Zaj (Zaa (pv 2) (Zaa (Zay rfl cl.n_NoEnd (show RelV (.ref _) _ from rfl)) Zad))) Zad)))))) (Zag (Zar (i:=3) sc_law_refusal.nd rfl (by first|exact Or.inl rfl|exact Or.inr rfl) (Zaq (addK K) (pv 3) (Za5 (Zaa (Zai (isiEK K) rfl (mb "isinstance" (by decide)) Zaj (Zaa (pv 2) (Zaa (Zay rfl cl.n_NoTie (show RelV (.ref _) _ from rfl)) Zad))) (Zaa (Zai (isiEK K) rfl (mb "isinstance" (by decide)) Zaj (Zaa (pv 2) (Zaa (Zay rfl cl.n_NoPlace (show RelV (.ref _) _ from rfl)) Zad))) (Zaa (Zai (isiEK K) rfl (mb "isinstance" (by decide)) Zaj (Zaa (pv 2) (Zaa (Zay rfl cl.n_NoTable (show RelV (.ref _) _ from rfl)) Zad))) (Zaa (Zai (isiEK K) rfl (mb "isinstance" (by decide)) Zaj (Zaa (pv 2) (Zaa (Zay rfl cl.n_NoRing (show RelV (.ref _) _ from rfl)) Zad))) Zad))))))) (Zag (Zar (i:=3) sc_law_refusal.nd rfl (by first|exact Or.inl rfl|exact Or.inr rfl) (Zaq (addK K) (pv 3) (Za5 (Zaa (Zai (isiEK K) rfl (mb "isinstance" (by decide)) Zaj (Zaa (pv 2) (Zaa (Zay rfl cl.n_NoPaper (show RelV (.ref _) _ from rfl)) Zad))) (Zaa (Zai (isiEK K) rfl (mb "isinstance" (by decide)) Zaj (Zaa (pv 2) (Zaa (Zay rfl cl.n_Apart (show RelV (.ref _) _ from rfl)) Zad))) (Zaa (Zai (isiEK K) rfl (mb "isinstance" (by decide)) Zaj (Zaa (pv 2) (Zaa (Zay rfl cl.n_TooMany (show RelV (.ref _) _ from rfl)) Zad))) (Zaa (Zai (isiEK K) rfl (mb "isinstance" (by decide)) Zaj (Zaa (pv 2) (Zaa (Zay rfl cl.n_TooGreat (show RelV (.ref _) _ from rfl)) Zad))) Zad))))))) (Zag (Zar (i:=3) sc_law_refusal.nd rfl (by first|exact Or.inl rfl|exact Or.inr rfl) (Zaq (addK K) (pv 3) (Za5 (Zaa (Zai (isiEK K) rfl (mb "isinstance" (by decide)) Zaj (Zaa (pv 2) (Zaa (Zay rfl cl.n_NoText (show RelV (.ref _) _ from rfl)) Zad))) (Zaa (Zai (isiEK K) rfl (mb "isinstance" (by decide)) Zaj (Zaa (pv 2) (Zaa (Zay rfl cl.n_NoName (show RelV (.ref _) _ from rfl)) Zad))) (Zaa (Zai (isiEK K) rfl (mb "isinstance" (by decide)) Zaj (Zaa (pv 2) (Zaa (Zay rfl cl.n_NoRow (show RelV (.ref _) _ from rfl)) Zad))) Zad)))))) (Zag (Zck (Zip (truK K (Zai (isiEK K) rfl (mb "isinstance" (by decide)) Zaj (Zaa (pv 2) (Zaa (Zf2 rfl (mb "ValueError" (by decide)) Zel (show RelV (.ty "ValueError") _ from rfl)) Zad))) (fun _=>rfl))) (Zal (Za1 (Za5 Zad))) Za8) (Zal (Za1 (Zi5 ["_law_k"] (show CompSc (defScope s_law_refusal) ["_law_call","_law_things","e","_law_found"] _ ["_law_found"] [3] from ⟨rfl,by decide +kernel,by decide +kernel,by decide +kernel,rfl,by decide +kernel⟩) rfl (Zhc rfl (mb "range" (by decide)) (Zaa Zac Zad)) (fun _ _ _ _ _=>(Zbb (i:=0) (show List.Nodup (["_law_k","_law_found"]:List Str) from by decide) rfl (Or.inl rfl))) (fun _ _ _ _ _=>(Zln (truK K (Zam (ixK K hu) (pv 1) (pv 0) (fun _ _=>rfl)) (fun _=>rfl)))) (fun _ _ _ _ _=>(pv 0)))))))))))) (Zal (Za1 Zhm))),Zg5 (E:=E) (f:=fun ds' Post'=>ds' = [.adr a,t]/\Post' = Post) (fun ds' Post' hf=>?_) ⟨F0,_,_,l,rs,⟨rfl,rfl⟩,q⟩⟩
 obtain ⟨rfl,rfl⟩:=hf
 refine ⟨by simp,?_⟩
 dsimp only [startD,Wbd,Wbg,Wa2,Wab]
 refine Zat (Znl Xp rfl (by decide) (fun E=>?_) (fun C hC=>?_))
 ·exact Zcp (Zhd rfl (Zab (Zae rfl (Zaf (hg _ fun p d=>Za7 (Zgf p))))))
 obtain ⟨k,R,hp⟩:=hX C hC
 replace R:=hR0 C k R
 refine ⟨R.e,fun ae=>?_⟩
 refine Zat (Zau (Zcn ?_))
 refine Zbs rfl R.i R.h1 ?_
 refine Zbs rfl R.i R.h2 ?_
 refine Zbs rfl R.i R.h3 ?_
 refine Zbs rfl R.i R.h4 ?_
 refine Zaf ⟨(by show 4<=sizeLine; decide),?_⟩
 refine Zat (Zau (Zan (Zae rfl (Zcn ?_))))
 refine Zbs rfl R.i R.h5 ?_
 refine Zbs rfl R.i R.h6 ?_
 refine Zbs rfl R.i R.h7 ?_
 refine Zbs rfl R.i R.h8 ?_
 refine Zaf ⟨(by show 4<=sizeLine; decide),Zem (by show 8<=sizeLine; decide) ?_⟩
 refine Zat (Zau (Zan (Zae rfl (Zcn ?_))))
 refine Zbs rfl R.i R.h9 ?_
 refine Zbs rfl R.i R.h10 ?_
 refine Zbs rfl R.i R.h11 ?_
 refine Zbs rfl R.i R.h12 ?_
 refine Zaf ⟨(by show 4<=sizeLine; decide),Zem (by show 12<=sizeLine; decide) ?_⟩
 refine Zat (Zau (Zan (Zae rfl (Zcn ?_))))
 refine Zbs rfl R.i R.h13 ?_
 refine Zbs rfl R.i R.h14 ?_
 refine Zbs rfl R.i R.h15 ?_
 refine Zaf ⟨(by show 3<=sizeLine; decide),Zem (by show 15<=sizeLine; decide) ?_⟩
 refine Zat (Zdy (Zgg (Zfa (Zbd (Zab (Zae rfl (Zab (Zdz (Zaf (Zjt R.i R.t ⟨true,rfl,iteF (Zbk ?_)⟩))))))))))
 refine Za7 (Zdg (by decide) (Zig (i:=2) (Zab (Zah (Zaf ⟨rfl,15,rfl,by decide,by decide,?_⟩)))))
 refine ⟨by rw [Zbf]; exact small1000 (by decide),isK k,fun d=>d,fun j d hd=>?_,?_⟩
 ·obtain ⟨hj,rfl⟩:=Zcj hd
  rw [Int.zero_add]
  refine Zfa (Zan (Zae rfl (Zae rfl (Zcd (Zki k j hj) ⟨_,rfl,rfl,ite2 (fun z=>Zae rfl ⟨rfl,_,rfl⟩) (fun z=>⟨_,rfl⟩)⟩))))
 ·rw [R.z]; exact hp
end
section
variable {P:Program} {w:World} {K:PySem.W.Frag} {mg:Str->Option Value} {base:Heap} {f:Addr} {fd:FuncData}
noncomputable def addD (k:Int):D->D:=fun d=>.int (k + intD d)
noncomputable def mvD (k:Int):D->D
 | .tup ds=>encRow (mvR k (ds.map intD))
 | d=>d
theorem Zj7 (k:Int) (r:List Int):((r.map D.int).filter fun _=>true).map (addD k)=(mvR k r).map D.int:=by
 rw [Wb8.mpr (by simp),Wax]
 unfold mvR
 rw [Wax]
 rfl
theorem Zlv (k:Int) (o:List (List Int)):((o.map encRow).filter fun _=>true).map (mvD k)=(o.map (mvR k)).map encRow:=by
 rw [Wb8.mpr (by simp),Wax,Wax]
 refine List.map_congr_left fun r _=>?_
 show encRow (mvR k ((r.map D.int).map intD))=encRow (mvR k r)
 rw [Zgk]
theorem Zg7 {o:List (List Int)} (hr:∀ r ∈ o,r.length<=48) {i:Nat} {d:D} (hd:(o.map encRow)[i]? = some d):∃ r,d=encRow r/\r.length<=48:=by
 rw [Wah] at hd
 cases z:o[i]? with
 | none=>rw [z] at hd; cases hd
 | some r=>
  rw [z] at hd
  have hd:encRow r=d:=by simpa using hd
  exact ⟨r,hd.symm,hr r (Wa4 z)⟩
end
noncomputable def plX (n:Int) (d:D):Bool:=isTieX n.toNat d
noncomputable def fIsPlX:DSp:=fun ds Post=>∃ n ts d T,ds=[encWeb n ts,d]/\tyD d=some T/\Post (.bl (plX n d))
noncomputable def fitB (k:Nat) (n:Int) (ts:List (Int × Int)) (m:Int) (us:List (Int × Int)):Bool:=decide (n + m + (k:Int)<=26/\ts.length + us.length + k<=24)
inductive JOut (k:Nat) (cP cG:Addr) (n:Int) (ts:List (Int × Int)) (m:Int) (us:List (Int × Int)) (Post:D->Prop) (Xp:Addr->Prop):D->D->Prop
 | bad {d e:D} {T T':String}:tyD d=some T->tyD e=some T' -> (plX n d && plX m e)=false->Xp cP->JOut k cP cG n ts m us Post Xp d e
 | good {p q:Nat}:(p:Int) < n->(q:Int) < m->(fitB k n ts m us=true->∀ r,Post r)->(fitB k n ts m us=false->Xp cG)->JOut k cP cG n ts m us Post Xp (.int p) (.int q)
theorem Zea {n:Int} {p:Nat} (h:(p:Int) < n):plX n (.int p)=true:=decide_eq_true ⟨Wb3 _,by omega⟩
noncomputable def fRNPX (cP:Addr):XSp:=fun ds Post Xp=>∃ n ts m us d e T T',ds=[encWeb n ts,d,encWeb m us,e]/\tyD d=some T/\tyD e=some T' /\ ((plX n d && plX m e)=true->Post .non)/\((plX n d && plX m e)=false->Xp cP)
noncomputable def fWWX (cG:Addr):XSp:=fun ds Post Xp=>∃ (N:Int) (l:List D),ds=[.int N,.tup l]/\(N<=25/\l.length<=24->∀ r,Post r)/\(¬ (N<=25/\l.length<=24)->Xp cG)
noncomputable def fJX (k:Nat) (cP cG:Addr):XSp:=fun ds Post Xp=>∃ n ts m us d e,ds=[encWeb n ts,d,encWeb m us,e]/\WebOk n ts/\WebOk m us/\JOut k cP cG n ts m us Post Xp d e
noncomputable def fOJX (cP cG:Addr):XSp:=fun ds Post Xp=>∃ n ts o m us o' d e,ds=[encWeb n ts,encOrd o,d,encWeb m us,encOrd o',e]/\WebOk n ts/\OrdOk n ts o/\WebOk m us/\OrdOk m us o' /\ JOut 0 cP cG n ts m us Post Xp d e
noncomputable def fAskJ (k:Nat) (cP cG:Addr):XSp:=fun ds Post Xp=>∃ n ts o m us o' d e,ds=[.tup [.tup [encWeb n ts,encOrd o],d,.tup [encWeb m us,encOrd o'],e]]/\WebOk n ts/\OrdOk n ts o/\WebOk m us/\OrdOk m us o' /\ JOut k cP cG n ts m us Post Xp d e
section
variable {P:Program} {w:World} {K:PySem.W.Frag} {mg:Str->Option Value} {base:Heap} {f:Addr} {fd:FuncData} {c0 c1 c2 c3 c4 c5 c6 c7 c8 c9 c10 c11 c12 c13 c14 c15:Addr}
theorem Zjx (mb:Mb mg) (C_is_whole:Callee P w K mg base 1 "is_whole" ["thing"] (spD K fIsWX)) (F:Fun K "is_place" "is_place" s_is_place f fd):FnOk P w K mg base CX0 2 f fd ["web","place"] (spD K fIsPlX):=by
 refine F.ok sc_is_place (Zdc fun ds Post h=>by obtain ⟨_,_,_,_,rfl,_⟩:=h; rfl) (fun cdv A outer s H vs Q E hr h=>?_)
 have hu:=Zb0 hr
 refine ⟨_,(Zal (Za1 (Zkv (Za6 C_is_whole (hr.mono (by first|decide|omega)) (Zaa (pv 1) Zad)) (Zk1 (Zj4 Zon Zm7 Zac (pv 1) (Zam (ixK K hu) (pv 0) Zac (fun _ _=>rfl))))))),Zg5 (fun ds Post hf=>?_) h⟩
 obtain ⟨n,ts,d,T,rfl,hT,q⟩:=hf
 refine ⟨by simp,?_⟩
 dsimp only [startD,Wbd,Wbg,Wa2]
 refine Za7 (Zb5 (Zbt (Zab (Zae rfl (Zaf ⟨d,T,rfl,hT,_,rfl,?_⟩)))))
 cases d with
 | int i=>
  refine iteT (Zjs (Zah (Zae rfl (Zex ⟨_,rfl,ite2 (fun z=>?_) (fun z=>?_)⟩))))
  ·have z:(0:Int)<=i:=of_decide_eq_true z
   refine Zan (Zae rfl (Zah (Zap (d:=.int n) rfl (Zex ?_))))
   rw [show decide (i < n)=plX n (.int i) from decide_eq_decide.mpr ⟨fun h=>⟨z,by omega⟩,fun h=>by omega⟩]
   exact q
  ·have z:¬ (0:Int)<=i:=of_decide_eq_false (Wbj.mpr z)
   rw [show plX n (.int i)=false from decide_eq_false fun h=>z h.1] at q
   exact q
 | _=>exact iteF q
theorem Zms (mb:Mb mg) (cl:Cl K mg c0 c1 c2 c3 c4 c5 c6 c7 c8 c9 c10 c11 c12 c13 c14 c15) (C_is_place:Callee P w K mg base 2 "is_place" ["web","place"] (spD K fIsPlX)) (F:Fun K "refuse_no_places" "refuse_no_places" s_refuse_no_places f fd):FnOk P w K mg base (CXE P w) 3 f fd ["one","place","other","its"] (spX K (fRNPX c6)):=by
 refine F.okX sc_refuse_no_places (Zce fun ds Post Xp h=>by obtain ⟨_,_,_,_,_,_,_,_,rfl,_⟩:=h; rfl) (fun cdv A outer s H vs Q E hr h=>?_)
 have hu:=Zb0 hr
 refine ⟨_,(Zag (Zck (Zip (truK K (Za6 C_is_place (hr.mono (by first|decide|omega)) (Zaa (pv 0) (Zaa (pv 1) Zad))) (fun _=>rfl))) (Zal (Zen cl.e_NoPlace rfl cl.n_NoPlace hr.hd Zeu (Zaa Zgl Zad))) Za8) (Zal (Zck (Zip (truK K (Za6 C_is_place (hr.mono (by first|decide|omega)) (Zaa (pv 2) (Zaa (pv 3) Zad))) (fun _=>rfl))) (Zal (Zen cl.e_NoPlace rfl cl.n_NoPlace hr.hd Zeu (Zaa Zgl Zad))) Za8))),Zfg (fun ds Post Xp hf=>?_) h⟩
 obtain ⟨n,ts,m,us,d,e,T,T',rfl,hT,hT',q,x⟩:=hf
 refine ⟨by simp,?_⟩
 dsimp only [startD,Wbd,Wbg,Wa2,Wab]
 refine Zc5 (Zli (Zgg (Zfa (Zbt (Zab (Zae rfl (Zab (Zae rfl (Zaf ⟨n,ts,d,T,rfl,hT,_,rfl,?_⟩)))))))))
 cases h1:plX n d with
 | false=>exact iteT (Zdh (Zab (Zhz (Zaf ⟨(by show 1<=sizeLine; decide),x (by rw [h1]; rfl)⟩))))
 | true=>
  refine iteF (Zfy (Zli (Zgg (Zfa (Zbt (Zab (Zae rfl (Zab (Zae rfl (Zaf ⟨m,us,e,T',rfl,hT',_,rfl,?_⟩))))))))))
  cases h2:plX m e with
  | false=>exact iteT (Zdh (Zab (Zhz (Zaf ⟨(by show 1<=sizeLine; decide),x (by rw [h1,h2]; rfl)⟩))))
  | true=>exact iteF (Zfy (q (by rw [h1,h2]; rfl)))
theorem Znx (mb:Mb mg) (cl:Cl K mg c0 c1 c2 c3 c4 c5 c6 c7 c8 c9 c10 c11 c12 c13 c14 c15) {tk tk':Tok} (g_MOST_PLACES:mg "MOST_PLACES" = some (.int 25 tk)) (g_MOST_TIES:mg "MOST_TIES" = some (.int 24 tk')) (F:Fun K "web_within" "web_within" s_web_within f fd):FnOk P w K mg base (CXE P w) 1 f fd ["many","ties"] (spX K (fWWX c12)):=by
 refine F.okX sc_web_within (Zce fun ds Post Xp h=>by obtain ⟨_,_,rfl,_⟩:=h; rfl) (fun cdv A outer s H vs Q E hr h=>?_)
 have hu:=Zb0 hr
 refine ⟨_,(Zag (Zck (PW.pt (pw_or (Za3 Zfj (pv 0) (Zay rfl g_MOST_PLACES (show RelV (.int 25) _ from ⟨_,rfl⟩)) (nomark _)) (pw_or1 (Za3 Zfj (Zai (lenK K) rfl (mb "len" (by decide)) Zcb (Zaa (pv 1) Zad)) (Zay rfl g_MOST_TIES (show RelV (.int 24) _ from ⟨_,rfl⟩)) (nomark _))))) (Zal (Zen cl.e_TooGreat rfl cl.n_TooGreat hr.hd Zeu (Zaa (Zl1 (Zc9 (Zij (n:=200)) (Zc9 (Zkq (n:=200) rfl g_MOST_PLACES) (Zc9 (Zij (n:=200)) (Zc9 (Zkq (n:=200) rfl g_MOST_TIES) (Zc9 (Zij (n:=200)) Zl2)))))) Zad))) Za8) (Zal (Za1 (Zbp (Zaa (pv 0) (Zaa (pv 1) Zad)))))),Zfg (fun ds Post Xp hf=>?_) h⟩
 obtain ⟨N,l,rfl,q,x⟩:=hf
 refine ⟨by simp,?_⟩
 dsimp only [startD,Wbd,Wbg,Wa2,Wab]
 refine Zc5 (Zli (Zkd (Zbm (Zan (Zae rfl (Zah (Zex ⟨_,rfl,?_⟩)))))))
 refine ite2 (fun z=>?_) (fun z=>?_)
 ·exact Zdh (Zab (Zhk fun _=>Zaf ⟨(by show 1<=sizeLine; decide),x (fun h=>absurd (of_decide_eq_true z) (Int.not_lt.mpr h.1))⟩))
 refine Zbm (Zan (Zbd (Zab (Zae rfl (Zaf (Zdm (Or.inr rfl) (Zah (Zex ⟨_,rfl,ite2 (fun y=>?_) (fun y=>?_)⟩))))))))
 ·exact Zdh (Zab (Zhk fun _=>Zaf ⟨(by show 1<=sizeLine; decide),x (fun h=>absurd (Int.ofNat_lt.mp (of_decide_eq_true y)) (Nat.not_lt.mpr h.2))⟩))
 have z:¬ N > 25:=of_decide_eq_false (Wbj.mpr z)
 have y:¬ (l.length:Int) > 24:=of_decide_eq_false (Wbj.mpr y)
 exact Zfy (Zj9 (Za7 (Zbw (Zab (Zae rfl (Zab (Zae rfl (Zaf ⟨Zcc,q ⟨by omega,by omega⟩ _⟩))))))))
theorem Zlj (mb:Mb mg) (C_refuse_no_places:CalleeX P w K mg base 3 "refuse_no_places" ["one","place","other","its"] (spX K (fRNPX c6))) (C_ties_moved:Callee P w K mg base 1 "ties_moved" ["web","numbers"] (spD K fTM)) (C_web_within:CalleeX P w K mg base 1 "web_within" ["many","ties"] (spX K (fWWX c12))) (F:Fun K "joined_at" "joined_at" s_joined_at f fd):FnOk P w K mg base (CXE P w) 4 f fd ["one","place","other","its"] (spX K (fJX 0 c6 c12)):=by
 refine F.okX sc_joined_at (Zce fun ds Post Xp h=>by obtain ⟨_,_,_,_,_,_,rfl,_⟩:=h; rfl) (fun cdv A outer s H vs Q E hr h=>?_)
 have hu:=Zb0 hr
 refine ⟨_,(Zag (Zcr (Zdf C_refuse_no_places (hr.mono (by first|decide|omega)) Zde (Zaa (pv 0) (Zaa (pv 1) (Zaa (pv 2) (Zaa (pv 3) Zad)))))) (Zag (Zar (i:=4) sc_joined_at.nd rfl (by first|exact Or.inl rfl|exact Or.inr rfl) (Zaq Zd2 (Zaq (addK K) (Zam (ixK K hu) (pv 0) Zac (fun _ _=>rfl)) (Zam (ixK K hu) (pv 2) Zac (fun _ _=>rfl))) Zac)) (Zag (Zar (i:=5) sc_joined_at.nd rfl (by first|exact Or.inl rfl|exact Or.inr rfl) (Zc1 rfl rfl (mb "list" (by decide)) rfl (mb "range" (by decide)) (Zaa (Zam (ixK K hu) (pv 0) Zac (fun _ _=>rfl)) (Zaa (pv 4) Zad)))) (Zag (Zcr (bmK K PySem.F.plainAttrs_list PySem.F.slot_list_insert PySem.F.type_list_insert Zfq (pv 5) (Zaa (pv 3) (Zaa (pv 1) Zad)))) (Zal (Za1 (Zdf C_web_within (hr.mono (by first|decide|omega)) Zde (Zaa (pv 4) (Zaa (Zaq (addK K) (Zam (ixK K hu) (pv 0) Zac (fun _ _=>rfl)) (Za6 C_ties_moved (hr.mono (by first|decide|omega)) (Zaa (pv 2) (Zaa (pv 5) Zad)))) Zad))))))))),Zfg (fun ds Post Xp hf=>?_) h⟩
 obtain ⟨n,ts,m,us,d,e,rfl,hW,hV,hf⟩:=hf
 refine ⟨by simp,?_⟩
 dsimp only [startD,Wbd,Wbg,Wa2,Wab]
 have hl1:=hW.len
 have hl2:=hV.len
 have n2:=hW.hi
 have m2:=hV.hi
 cases hf with
 | @bad _ _ T T' hT hT' hb x=>
  exact Zc5 (Zcp (Zba (Zab (Zae rfl (Zab (Zae rfl (Zab (Zae rfl (Zab (Zae rfl (Zaf ⟨n,ts,m,us,d,e,T,T',rfl,hT,hT',fun z=>Bool.noConfusion (hb.symm.trans z),fun _=>x⟩)))))))))))
 | @good p Q' p1 q1 z x=>
 have p0:(0:Int)<=p:=Wb3 _
 have q0:(0:Int)<=Q':=Wb3 _
 have n1:=hW.lo
 have m1:=hV.lo
 obtain ⟨M,rfl⟩:∃ M:Nat,m=(M:Int):=⟨m.toNat,by omega⟩
 refine Zc5 (Zcp (Zba (Zab (Zae rfl (Zab (Zae rfl (Zab (Zae rfl (Zab (Zae rfl (Zaf ⟨n,ts,_,us,_,_,"int","int",rfl,rfl,rfl,fun _=>?_,fun z=>absurd z (by rw [Zea p1,Zea q1]; decide)⟩)))))))))))
 refine Zdp (Zau (Zan (Zan (Zan (Zae rfl (Zah (Zap (d:=.int n) rfl (Zan (Zae rfl (Zah (Zap (d:=.int (M:Int)) rfl (Zbh (Zah (Zg6 ?_))))))))))))))
 refine Zdp (Zdo (Zkp (Zab (Zan (Zae rfl (Zah (Zap (d:=.int n) rfl (Zab (Zae rfl (Zaf ⟨n,M - 1,?_,by omega,by omega,by omega,?_⟩))))))))))
 ·rw [show n + ((M - 1:Nat):Int)=n + (M:Int) - 1 by omega]
 have hL:((Wa7 (M - 1)).map fun i:Nat=>D.int (n + i)).length=M - 1:=by rw [Waa,Wbs]
 refine Zdp (Zmb rfl rfl (Zae rfl (Zae rfl ⟨_,_,_,rfl,rfl,rfl,?_,by omega,by omega,?_⟩)))
 ·rw [hL]; exact small1000 (by omega)
 have eI:insI ((Wa7 (M - 1)).map fun i:Nat=>D.int (n + i)).length (Q':Int)=Q':=by
  rw [hL]; unfold insI; rw [if_neg (by omega)]; omega
 rw [eI,Ziq (show Q' < M by omega)]
 refine Zfo (Zba (Zab (Zae rfl (Zab (Zan (Zan (Zae rfl (Zah (Zap (Zdd n ts) ?_)))))))))
 refine Zbt (Zab (Zae rfl (Zab (Ze1 rfl (Zaf ⟨_,us,jn n p Q',?_,hV,?_⟩)))))
 ·rw [show (M:Int).toNat=M by omega]
 refine Zct ?_ (Zaf ⟨_,_,rfl,?_,?_⟩)
 ·rw [Waa,Waa]; unfold moveT; rw [Waa]; exact Wbp (small1000 (by omega))
 ·rw [Wai,Waa,Waa]; unfold moveT; rw [Waa]
  exact fun h=>z (decide_eq_true ⟨by omega,h.2⟩)
 ·rw [Wai,Waa,Waa]; unfold moveT; rw [Waa]
  exact fun h=>x (decide_eq_false fun h'=>h ⟨by omega,h'.2⟩)
theorem Zlo (mb:Mb mg) (C_refuse_no_places:CalleeX P w K mg base 3 "refuse_no_places" ["one","place","other","its"] (spX K (fRNPX c6))) (C_ties_moved:Callee P w K mg base 1 "ties_moved" ["web","numbers"] (spD K fTM)) (C_web_within:CalleeX P w K mg base 1 "web_within" ["many","ties"] (spX K (fWWX c12))) (F:Fun K "joined_by" "joined_by" s_joined_by f fd):FnOk P w K mg base (CXE P w) 4 f fd ["one","place","other","its"] (spX K (fJX 1 c6 c12)):=by
 refine F.okX sc_joined_by (Zce fun ds Post Xp h=>by obtain ⟨_,_,_,_,_,_,rfl,_⟩:=h; rfl) (fun cdv A outer s H vs Q E hr h=>?_)
 have hu:=Zb0 hr
 refine ⟨_,(Zag (Zcr (Zdf C_refuse_no_places (hr.mono (by first|decide|omega)) Zde (Zaa (pv 0) (Zaa (pv 1) (Zaa (pv 2) (Zaa (pv 3) Zad)))))) (Zag (Zar (i:=4) sc_joined_by.nd rfl (by first|exact Or.inl rfl|exact Or.inr rfl) (Zaq (addK K) (Zam (ixK K hu) (pv 0) Zac (fun _ _=>rfl)) (Zam (ixK K hu) (pv 2) Zac (fun _ _=>rfl)))) (Zag (Zar (i:=5) sc_joined_by.nd rfl (by first|exact Or.inl rfl|exact Or.inr rfl) (Zc1 rfl rfl (mb "list" (by decide)) rfl (mb "range" (by decide)) (Zaa (Zam (ixK K hu) (pv 0) Zac (fun _ _=>rfl)) (Zaa (pv 4) Zad)))) (Zal (Za1 (Zdf C_web_within (hr.mono (by first|decide|omega)) Zde (Zaa (pv 4) (Zaa (Zaq (addK K) (Zaq (addK K) (Zam (ixK K hu) (pv 0) Zac (fun _ _=>rfl)) (Za6 C_ties_moved (hr.mono (by first|decide|omega)) (Zaa (pv 2) (Zaa (pv 5) Zad)))) (Zbp (Zaa (Zbp (Zaa (pv 1) (Zaa (Zam (ixK K hu) (pv 5) (pv 3) (fun _ _=>rfl)) Zad))) Zad))) Zad)))))))),Zfg (fun ds Post Xp hf=>?_) h⟩
 obtain ⟨n,ts,m,us,d,e,rfl,hW,hV,hf⟩:=hf
 refine ⟨by simp,?_⟩
 dsimp only [startD,Wbd,Wbg,Wa2,Wab]
 have hl1:=hW.len
 have hl2:=hV.len
 have n2:=hW.hi
 have m2:=hV.hi
 cases hf with
 | @bad _ _ T T' hT hT' hb x=>
  exact Zc5 (Zcp (Zba (Zab (Zae rfl (Zab (Zae rfl (Zab (Zae rfl (Zab (Zae rfl (Zaf ⟨n,ts,m,us,d,e,T,T',rfl,hT,hT',fun z=>Bool.noConfusion (hb.symm.trans z),fun _=>x⟩)))))))))))
 | @good p Q' p1 q1 z x=>
 have p0:(0:Int)<=p:=Wb3 _
 have q0:(0:Int)<=Q':=Wb3 _
 have n1:=hW.lo
 have m1:=hV.lo
 obtain ⟨M,rfl⟩:∃ M:Nat,m=(M:Int):=⟨m.toNat,by omega⟩
 refine Zc5 (Zcp (Zba (Zab (Zae rfl (Zab (Zae rfl (Zab (Zae rfl (Zab (Zae rfl (Zaf ⟨n,ts,_,us,_,_,"int","int",rfl,rfl,rfl,fun _=>?_,fun z=>absurd z (by rw [Zea p1,Zea q1]; decide)⟩)))))))))))
 refine Zdp (Zau (Zan (Zan (Zae rfl (Zah (Zap (d:=.int n) rfl (Zan (Zae rfl (Zah (Zap (d:=.int (M:Int)) rfl (Zbh ?_)))))))))))
 refine Zdp (Zdo (Zkp (Zab (Zan (Zae rfl (Zah (Zap (d:=.int n) rfl (Zab (Zae rfl (Zaf ⟨n,M,rfl,by omega,by omega,by omega,?_⟩))))))))))
 refine Zfo (Zba (Zab (Zae rfl (Zab (Zan (Zan (Zan (Zae rfl (Zah (Zap (Zdd n ts) ?_))))))))))
 refine Zbt (Zab (Zae rfl (Zab (Ze1 rfl (Zaf ⟨_,us,fun k=>n + k,?_,hV,?_⟩)))))
 ·rw [show (M:Int).toNat=M by omega]; rfl
 refine Zct ?_ ?_
 ·rw [Waa,Waa]; unfold moveT; rw [Waa]; exact Wbp (small1000 (by omega))
 have a1:=Zep (fun k=>n + k) (a:=(Q':Int)) q0 q1
 rw [show (M:Int).toNat=M by omega] at a1
 refine Zbw (Zab (Zbw (Zab (Zae rfl (Zab (Zan (Zae rfl (Zae rfl (Zcd a1 (Zaf ⟨Zcc,Zaf ⟨(show 1<=sizeLine from by decide),Zct ?_ (Zaf ⟨_,_,rfl,?_,?_⟩)⟩⟩))))))))))
 ·rw [Wai,Waa,Waa,Way]; unfold moveT; rw [Waa]; exact Wbp (small1000 (by omega))
 ·rw [Wai,Wai,Waa,Waa,Way]; unfold moveT; rw [Waa]
  exact fun h=>z (decide_eq_true ⟨by omega,h.2⟩)
 ·rw [Wai,Wai,Waa,Waa,Way]; unfold moveT; rw [Waa]
  exact fun h=>x (decide_eq_false fun h'=>h ⟨by omega,h'.2⟩)
theorem Znb (mb:Mb mg) (C_joined_at:CalleeX P w K mg base 4 "joined_at" ["one","place","other","its"] (spX K (fJX 0 c6 c12))) (F:Fun K "orders_joined" "orders_joined" s_orders_joined f fd):FnOk P w K mg base (CXE P w) 5 f fd ["one","order","place","other","its_order","its"] (spX K (fOJX c6 c12)):=by
 refine F.okX sc_orders_joined (Zce fun ds Post Xp h=>by obtain ⟨_,_,_,_,_,_,_,_,rfl,_⟩:=h; rfl) (fun cdv A outer s H vs Q E hr h=>?_)
 have hu:=Zb0 hr
 refine ⟨_,(Zag (Zcr (Zdf C_joined_at (hr.mono (by first|decide|omega)) Zde (Zaa (pv 0) (Zaa (pv 2) (Zaa (pv 3) (Zaa (pv 5) Zad)))))) (Zag (Zar (i:=6) sc_orders_joined.nd rfl (by first|exact Or.inl rfl|exact Or.inr rfl) (Zaq Zc8 Zac (Zai (lenK K) rfl (mb "len" (by decide)) Zcb (Zaa (Zam (ixK K hu) (pv 0) Zac (fun _ _=>rfl)) Zad)))) (Zag (Zgh (i:=7) ["row"] (show CompSc (defScope s_orders_joined) ["one","order","place","other","its_order","its","ends","moved","common"] _ ["ends"] [6] from ⟨rfl,by decide +kernel,by decide +kernel,by decide +kernel,rfl,by decide +kernel⟩) rfl sc_orders_joined.nd rfl (by first|exact Or.inl rfl|exact Or.inr rfl) (seqK K (pv 4)) (fun _ _ _ _ _=>(Zbb (i:=0) (show List.Nodup (["row","ends"]:List Str) from by decide) rfl (Or.inl rfl))) (fun _ _ _ _ _=>Zcv) (fun _ _ _ _ _=>(Zbi (tupK K) rfl (mb "tuple" (by decide)) Zb9 (Zaa (Zc6 ["end"] (show CompSc (relab (defScope s_orders_joined) _) ["row","ends"] _ ["ends"] [1] from ⟨rfl,by decide +kernel,by decide +kernel,by decide +kernel,rfl,by decide +kernel⟩) rfl (seqK K (pv 0)) (fun _ _ _ _ _=>(Zbb (i:=0) (show List.Nodup (["end","ends"]:List Str) from by decide) rfl (Or.inl rfl))) (fun _ _ _ _ _=>Zcv) (fun _ _ _ _ _=>(Zaq (addK K) (pv 1) (pv 0)))) Zad)))) (Zag (Zar (i:=8) sc_orders_joined.nd rfl (by first|exact Or.inl rfl|exact Or.inr rfl) (Zaq (addK K) (Zam (ixK K hu) (pv 1) (pv 2) (fun _ _=>rfl)) (bmK K PySem.F.plainAttrs_list PySem.F.slot_list_pop PySem.F.type_list_pop Zjp (pv 7) (Zaa (pv 5) Zad)))) (Zal (Za1 (Zaq (addK K) (Zaq (addK K) (Zaq (addK K) (Zet (slK K) (pv 1) Zfz (Zfu (pv 2))) (Zbp (Zaa (pv 8) Zad))) (Zet (slK K) (pv 1) (Zfu (Zaq (addK K) (pv 2) Zac)) Zfz)) (Zbi (tupK K) rfl (mb "tuple" (by decide)) Zb9 (Zaa (pv 7) Zad))))))))),Zfg (fun ds Post Xp hf=>?_) h⟩
 obtain ⟨n,ts,o,m,us,o',d,e,rfl,hW,hO,hV,hO',hf⟩:=hf
 refine ⟨by simp,?_⟩
 dsimp only [startD,Wbd,Wbg,Wa2,Wab]
 have hl1:=hW.len
 have hl2:=hV.len
 have n2:=hW.hi
 have m2:=hV.hi
 cases hf with
 | @bad _ _ T T' hT hT' hb x=>
  exact Zc5 (Zcp (Zba (Zab (Zae rfl (Zab (Zae rfl (Zab (Zae rfl (Zab (Zae rfl (Zaf ⟨n,ts,m,us,d,e,rfl,hW,hV,.bad hT hT' hb x⟩)))))))))))
 | @good p q p1 q1 z x=>
 obtain ⟨o1,o2⟩:=hO.rows hW
 obtain ⟨o3,o4⟩:=hO'.rows hV
 have l1:=hO.len
 have l2:=hO'.len
 have gp:=Zi3 hO p1
 have gq:=Zi3 hO' q1
 have zp:=o2 _ (Wa4 gp)
 have zq:=o4 _ (Wa4 gq)
 refine Zc5 (Zcp (Zba (Zab (Zae rfl (Zab (Zae rfl (Zab (Zae rfl (Zab (Zae rfl (Zaf ⟨n,ts,m,us,_,_,rfl,hW,hV,.good p1 q1 (fun hf _=>Zj9 ?_) x⟩)))))))))))
 replace z:=z hf
 refine Zat (Zau (Zan (Zah (Zbd (Zab (Zan (Zae rfl (Zah (Zap (Zdd n ts) (Zaf (Zdm (Or.inr rfl) ?_)))))))))))
 rw [Waa]
 refine jr_I (Or.inl ⟨by omega,by omega⟩) ?_
 rw [show (2:Int) * (ts.length:Int)=((2 * ts.length:Nat):Int) by omega]
 generalize hk:((2 * ts.length:Nat):Int)=k
 refine Zat (Zdo (Zjy (by decide) (Zf1 (Zae rfl ⟨_,rfl,?_,fun _=>true,mvD k,fun i d hd=>?_,?_⟩))))
 ·rw [Waa]; exact small1000 (by omega)
 ·obtain ⟨r,rfl,hr1⟩:=Zg7 o4 hd
  refine Zcs ⟨rfl,Zbd (Zab (Zdg (by decide) (Zf1 (Zae rfl ⟨_,rfl,?_,fun _=>true,addD k,fun j e he=>?_,Zaf (Zcx (Or.inl rfl) ⟨?_,_,rfl⟩)⟩))))⟩
  ·rw [Waa]; exact small1000 (by omega)
  ·rw [Wah] at he
   cases y:r[j]? with
   | none=>rw [y] at he; cases he
   | some x=>
    rw [y] at he; cases he
    exact Zcs ⟨rfl,Zan (Zae rfl (Zae rfl (Zbh ⟨rfl,_,rfl⟩)))⟩
  ·rw [Zj7]
   show _=encRow (mvR k ((r.map D.int).map intD))
   rw [Zgk]; rfl
 rw [Zlv]
 have aP:atI (o.map encRow) (p:Int)=some (encRow (o.getD p [])):=Zax (by rw [Wah,gp]; rfl)
 refine Zat (Zau (Zan (Zan (Zae rfl (Zae rfl (Zap aP ?_))))))
 refine Zlr rfl rfl (Zae rfl ⟨_,_,q,encRow (mvR k (o'.getD q [])),rfl,rfl,rfl,?_,?_,Zct ?_ ?_⟩)
 ·rw [Wah,Wah,gq]; rfl
 ·rw [Waa,Waa]; omega
 ·rw [Waa,Waa,Zna]; exact Wbp (small1000 (by omega))
 have hpl:p<=(o.map encRow).length:=by rw [Waa]; omega
 have hpl1:p + 1<=(o.map encRow).length:=by rw [Waa]; omega
 refine Za7 (Zan (Zan (Zan (Zl7 (Zae rfl (Zgb (Zgd (Zae rfl ⟨_,rfl,.tup ((o.map encRow).take p),?_,?_⟩))))))))
 ·show some (D.tup (cutD (o.map encRow) none (some (p:Int))))=_
  rw [Zn4 _ hpl]
 refine Zbw (Zab (Zae rfl (Zaf ⟨(show 1<=sizeLine from by decide),Zct ?_ ?_⟩)))
 ·rw [Wbl,Waa,Way]; exact Wbp (small1000 (by omega))
 refine Zl7 (Zae rfl (Zgd (Zan (Zae rfl (Zah (Zbh ⟨_,rfl,Zgb ⟨.tup ((o.map encRow).drop (p + 1)),?_,Zct ?_ ?_⟩⟩))))))
 ·show some (D.tup (cutD (o.map encRow) (some ((p:Int) + 1)) none))=_
  rw [show (p:Int) + 1=((p + 1:Nat):Int) by omega,Zjz _ hpl1]
 ·rw [Wai,Wbl,Waa,Way,Wbt,Waa]; exact Wbp (small1000 (by omega))
 refine Zbd (Zab (Ze1 rfl (Zaf (Zcx (Or.inl rfl) (Zct ?_ ?_)))))
 ·rw [Wai,Wai,Wbl,Waa,Way,Wbt,Waa,List.length_eraseIdx_of_lt (by rw [Waa,Waa]; omega),Waa,Waa]; exact Wbp (small1000 (by omega))
 exact z _
theorem ok_law_at (mb:Mb mg) (C_joined_at:CalleeX P w K mg base 4 "joined_at" ["one","place","other","its"] (spX K (fJX 0 c6 c12))) (F:Fun K "_law_at" "_law_at" s_law_at f fd):FnOk P w K mg base (CXE P w) 6 f fd ["_law_asked"] (spX K (fAskJ 0 c6 c12)):=by
 refine F.okX sc_law_at (Zce fun ds Post Xp h=>by obtain ⟨_,_,_,_,_,_,_,_,rfl,_⟩:=h; rfl) (fun cdv A outer s H vs Q E hr h=>?_)
 have hu:=Zb0 hr
 refine ⟨_,(Zal (Za1 (Zdf C_joined_at (hr.mono (by first|decide|omega)) Zde (Zaa (Zam (ixK K hu) (Zam (ixK K hu) (pv 0) Zac (fun _ _=>rfl)) Zac (fun _ _=>rfl)) (Zaa (Zam (ixK K hu) (pv 0) Zac (fun _ _=>rfl)) (Zaa (Zam (ixK K hu) (Zam (ixK K hu) (pv 0) Zac (fun _ _=>rfl)) Zac (fun _ _=>rfl)) (Zaa (Zam (ixK K hu) (pv 0) Zac (fun _ _=>rfl)) Zad))))))),Zfg (fun ds Post Xp hf=>?_) h⟩
 obtain ⟨n,ts,o,m,us,o',d,e,rfl,hW,hO,hV,hO',hf⟩:=hf
 refine ⟨by simp,?_⟩
 dsimp only [startD,Wbd,Wbg,Wa2,Wab]
 exact Zfo (Zba (Zab (Zan (Zan (Zae rfl (Zah (Zap (d:=.tup [encWeb n ts,encOrd o]) rfl (Zah (Zap (d:=encWeb n ts) rfl (Zab (Zan (Zae rfl (Zah (Zap (d:=d) rfl (Zab (Zan (Zan (Zae rfl (Zah (Zap (d:=.tup [encWeb m us,encOrd o']) rfl (Zah (Zap (d:=encWeb m us) rfl (Zab (Zan (Zae rfl (Zah (Zap (d:=e) rfl (Zaf ⟨n,ts,m,us,d,e,rfl,hW,hV,hf⟩))))))))))))))))))))))))))))
theorem ok_law_by (mb:Mb mg) (C_joined_by:CalleeX P w K mg base 4 "joined_by" ["one","place","other","its"] (spX K (fJX 1 c6 c12))) (F:Fun K "_law_by" "_law_by" s_law_by f fd):FnOk P w K mg base (CXE P w) 6 f fd ["_law_asked"] (spX K (fAskJ 1 c6 c12)):=by
 refine F.okX sc_law_by (Zce fun ds Post Xp h=>by obtain ⟨_,_,_,_,_,_,_,_,rfl,_⟩:=h; rfl) (fun cdv A outer s H vs Q E hr h=>?_)
 have hu:=Zb0 hr
 refine ⟨_,(Zal (Za1 (Zdf C_joined_by (hr.mono (by first|decide|omega)) Zde (Zaa (Zam (ixK K hu) (Zam (ixK K hu) (pv 0) Zac (fun _ _=>rfl)) Zac (fun _ _=>rfl)) (Zaa (Zam (ixK K hu) (pv 0) Zac (fun _ _=>rfl)) (Zaa (Zam (ixK K hu) (Zam (ixK K hu) (pv 0) Zac (fun _ _=>rfl)) Zac (fun _ _=>rfl)) (Zaa (Zam (ixK K hu) (pv 0) Zac (fun _ _=>rfl)) Zad))))))),Zfg (fun ds Post Xp hf=>?_) h⟩
 obtain ⟨n,ts,o,m,us,o',d,e,rfl,hW,hO,hV,hO',hf⟩:=hf
 refine ⟨by simp,?_⟩
 dsimp only [startD,Wbd,Wbg,Wa2,Wab]
 exact Zfo (Zba (Zab (Zan (Zan (Zae rfl (Zah (Zap (d:=.tup [encWeb n ts,encOrd o]) rfl (Zah (Zap (d:=encWeb n ts) rfl (Zab (Zan (Zae rfl (Zah (Zap (d:=d) rfl (Zab (Zan (Zan (Zae rfl (Zah (Zap (d:=.tup [encWeb m us,encOrd o']) rfl (Zah (Zap (d:=encWeb m us) rfl (Zab (Zan (Zae rfl (Zah (Zap (d:=e) rfl (Zaf ⟨n,ts,m,us,d,e,rfl,hW,hV,hf⟩))))))))))))))))))))))))))))
theorem ok_law_orders (mb:Mb mg) (C_orders_joined:CalleeX P w K mg base 5 "orders_joined" ["one","order","place","other","its_order","its"] (spX K (fOJX c6 c12))) (F:Fun K "_law_orders" "_law_orders" s_law_orders f fd):FnOk P w K mg base (CXE P w) 6 f fd ["_law_asked"] (spX K (fAskJ 0 c6 c12)):=by
 refine F.okX sc_law_orders (Zce fun ds Post Xp h=>by obtain ⟨_,_,_,_,_,_,_,_,rfl,_⟩:=h; rfl) (fun cdv A outer s H vs Q E hr h=>?_)
 have hu:=Zb0 hr
 refine ⟨_,(Zal (Za1 (Zdf C_orders_joined (hr.mono (by first|decide|omega)) Zde (Zaa (Zam (ixK K hu) (Zam (ixK K hu) (pv 0) Zac (fun _ _=>rfl)) Zac (fun _ _=>rfl)) (Zaa (Zam (ixK K hu) (Zam (ixK K hu) (pv 0) Zac (fun _ _=>rfl)) Zac (fun _ _=>rfl)) (Zaa (Zam (ixK K hu) (pv 0) Zac (fun _ _=>rfl)) (Zaa (Zam (ixK K hu) (Zam (ixK K hu) (pv 0) Zac (fun _ _=>rfl)) Zac (fun _ _=>rfl)) (Zaa (Zam (ixK K hu) (Zam (ixK K hu) (pv 0) Zac (fun _ _=>rfl)) Zac (fun _ _=>rfl)) (Zaa (Zam (ixK K hu) (pv 0) Zac (fun _ _=>rfl)) Zad))))))))),Zfg (fun ds Post Xp hf=>?_) h⟩
 obtain ⟨n,ts,o,m,us,o',d,e,rfl,hW,hO,hV,hO',hf⟩:=hf
 refine ⟨by simp,?_⟩
 dsimp only [startD,Wbd,Wbg,Wa2,Wab]
 exact Zfo (Zba (Zab (Zan (Zan (Zae rfl (Zah (Zap (d:=.tup [encWeb n ts,encOrd o]) rfl (Zah (Zap (d:=encWeb n ts) rfl (Zab (Zan (Zan (Zae rfl (Zah (Zap (d:=.tup [encWeb n ts,encOrd o]) rfl (Zah (Zap (d:=encOrd o) rfl (Zab (Zan (Zae rfl (Zah (Zap (d:=d) rfl (Zab (Zan (Zan (Zae rfl (Zah (Zap (d:=.tup [encWeb m us,encOrd o']) rfl (Zah (Zap (d:=encWeb m us) rfl (Zab (Zan (Zan (Zae rfl (Zah (Zap (d:=.tup [encWeb m us,encOrd o']) rfl (Zah (Zap (d:=encOrd o') rfl (Zab (Zan (Zae rfl (Zah (Zap (d:=e) rfl (Zaf ⟨n,ts,o,m,us,o',d,e,rfl,hW,hO,hV,hO',hf⟩))))))))))))))))))))))))))))))))))))))))))))
theorem Zla (mb:Mb mg) (cl:Cl K mg c0 c1 c2 c3 c4 c5 c6 c7 c8 c9 c10 c11 c12 c13 c14 c15) (F:Fun K "_law_refusal" "_law_refusal" s_law_refusal f fd):FnOk P w K mg base CX0 7 f fd ["_law_call","_law_things"] (spD K (fRefG P w K mg base 6 (two c6 5 c12 11))):=
 Zf8 (fun C k h=>by
  rcases h with ⟨rfl,rfl⟩ | ⟨rfl,rfl⟩
  ·exact ⟨⟨cl.e_NoPlace,cl.m_NoPlace⟩,cl.i_NoPlace,cl.t_NoPlace,rfl,cl.k_NoPlace_NoWeb,cl.k_NoPlace_NoOrder,cl.k_NoPlace_NoNumber,cl.k_NoPlace_NoEnd,cl.k_NoPlace_NoTie,cl.k_NoPlace_NoPlace,cl.k_NoPlace_NoTable,cl.k_NoPlace_NoRing,cl.k_NoPlace_NoPaper,cl.k_NoPlace_Apart,cl.k_NoPlace_TooMany,cl.k_NoPlace_TooGreat,cl.k_NoPlace_NoText,cl.k_NoPlace_NoName,cl.k_NoPlace_NoRow⟩
  ·exact ⟨⟨cl.e_TooGreat,cl.m_TooGreat⟩,cl.i_TooGreat,cl.t_TooGreat,rfl,cl.k_TooGreat_NoWeb,cl.k_TooGreat_NoOrder,cl.k_TooGreat_NoNumber,cl.k_TooGreat_NoEnd,cl.k_TooGreat_NoTie,cl.k_TooGreat_NoPlace,cl.k_TooGreat_NoTable,cl.k_TooGreat_NoRing,cl.k_TooGreat_NoPaper,cl.k_TooGreat_Apart,cl.k_TooGreat_TooMany,cl.k_TooGreat_TooGreat,cl.k_TooGreat_NoText,cl.k_TooGreat_NoName,cl.k_TooGreat_NoRow⟩) mb cl F
end
section
variable {P:Program} {w:World} {K:PySem.W.Frag} {mg:Str->Option Value} {base:Heap} {f:Addr} {fd:FuncData}
noncomputable def shB (d:D):Bool:=d.shw && (decide (d.pd.depth<=10) && decide (d.pd.shown.length<=1000))
noncomputable def Shk (d:D):Prop:=d.shU/\d.pd.depth<=10/\d.pd.shown.length<=1000
theorem sh_B {d:D} (h:shB d=true):Shk d:=by
 unfold shB at h
 rw [Wau,Wau] at h
 exact ⟨.inl (.inl h.1),of_decide_eq_true h.2.1,of_decide_eq_true h.2.2⟩
theorem Zi0 {i:Int} (h1:-1000000000000000000000000000000000000000000000000000000000000<=i) (h2:i<=1000000000000000000000000000000000000000000000000000000000000):Shk (.int i):=by
 refine ⟨.inl (.inl (decide_eq_true (Znf h1 h2))),by show 0<=10; decide,?_⟩
 have e:=int_text_length_le10 (a:=i) (k:=61) (by decide) (Wbh (m:=1000000000000000000000000000000000000000000000000000000000000) (by omega) (by decide))
 show (Str.ofString (toString i)).length<=1000
 rw [ofString_length]
 omega
theorem Zl5 {K:PySem.W.Frag} {Δ:Evt} {Pd:D->Evt->Prop} {i:Int} (p:Pd (.int (-i)) Δ):JR1 K (rU fun i=>.int (-i)) (.int i) Δ Pd:=fun g G H σ Q x k r c=>by
 cases r
 exact ⟨i,rfl,c _ _ G H Δ k (Same.refl _) (.int _) p⟩
theorem pow59:(10:Int) ^ (59:Int).toNat=100000000000000000000000000000000000000000000000000000000000:=by
 show (10:Int) ^ 59=_
 decide
theorem Zkl:1<=sizeLine:=by decide
theorem pt1 {ta:TE} {x:D} (a:PV K ta Δ x):PV K (tTup (tCons ta tNil)) Δ (.tup [x]):=Zh1 (Zak a Zbc) Zkl
theorem pl1 {ta:TE} {x:D} (a:PV K ta Δ x):PV K (tLst (tCons ta tNil)) Δ (.lst [x]):=Zfk (Zak a Zbc) Zkl
theorem pl2 {ta tb:TE} {x y:D} (a:PV K ta Δ x) (b:PV K tb Δ y):PV K (tLst (tCons ta (tCons tb tNil))) Δ (.lst [x,y]):=Zfk (Zak a (Zak b Zbc)) Zcc
theorem Zif {x y:PyData} (hx:x.shown.length<=1000) (hy:y.shown.length<=1000):(PyData.list [x,y]).shown.length<=sizeLine:=by
 show (textFrom 0 "[" [x.shown,y.shown] ++ "]":Str).length<=sizeLine
 simp only [textFrom,Str.length_append]
 refine Wa6 (m:=1000 + 1000 + 100) ?_ (by decide)
 have a1:(Str.ofString "[").length=1:=rfl
 have a2:(Str.ofString "]").length=1:=rfl
 have a3:(Str.ofString ", ").length=2:=rfl
 have a4:(Str.ofString "").length=0:=rfl
 simp only [Wb2,if_false,gt_iff_lt,Nat.zero_add,Nat.zero_lt_one,if_true,a1,a2,a3,a4]
 omega
theorem depth2 {x y:PyData} (hx:x.depth<=10) (hy:y.depth<=10):(PyData.list [x,y]).depth<=20:=by
 show max x.depth (max y.depth 0) + 1<=20
 omega
theorem Zhi {x y:D} {i:Int} (h:i=0\/i=1):atI [x,y] i=some (if i=1 then y else x):=by
 rcases h with rfl | rfl <;> rfl
end
noncomputable def NoPl (n:Int) (d:D):Prop:=(∃ T,tyD d=some T)/\plX n d=false/\Shk d
theorem Zew {n i:Int} (h:i < 0\/n<=i) (hn:0<=n) (h1:-1000000000000000000000000000000000000000000000000000000000000<=i) (h2:i<=1000000000000000000000000000000000000000000000000000000000000):NoPl n (.int i):=
 ⟨⟨_,rfl⟩,decide_eq_false (fun z=>h.elim (fun y=>absurd z.1 (Int.not_le.mpr y)) fun y=>absurd (Int.lt_of_lt_of_le z.2 (Int.le_of_eq (Wbe hn))) (Int.not_lt.mpr y)),Zi0 h1 h2⟩
noncomputable def someP (n r1 r2:Int):List D:=[.int (-1 - r1),.int n,.int (n + r2),.bl true,.bl false,.non,.str "0",.str "",.dct [] []] ++ [.lst [.int 0],.tup [.int 0],.lst [],.tup [],.dct [.inl 0] [.int 0]]
theorem c14:∀ k < 14,k=0\/k=1\/k=2\/k=3\/k=4\/k=5\/k=6\/k=7\/k=8\/k=9\/k=10\/k=11\/k=12\/k=13:=by decide
theorem Zj0 {n r1 r2:Int} (n0:1<=n) (n1:n<=25) (r10:0<=r1) (r11:r1 < 9) (r20:0<=r2) (r21:r2 < 100000000000000000000000000000000000000000000000000000000000) (k:Nat) (hk:k < 14):∃ d,atI (someP n r1 r2) (k:Int)=some d/\NoPl n d:=by
 have n2:0<=n:=Wbf (by decide) n0
 rcases c14 k hk with rfl | rfl | rfl | rfl | rfl | rfl | rfl | rfl | rfl | rfl | rfl | rfl | rfl | rfl
 ·exact ⟨_,Zax rfl,Zew (.inl (Int.lt_of_le_of_lt (Int.sub_le_self _ r10) (by decide))) n2 (Wbf (by decide) (Int.sub_le_sub_left (Int.le_of_lt r11) _)) (Wbf (Int.sub_le_self _ r10) (by decide))⟩
 ·exact ⟨_,Zax rfl,Zew (.inr (Wca _)) n2 (Wbf (by decide) n2) (Wbf n1 (by decide))⟩
 ·exact ⟨_,Zax rfl,Zew (.inr (Int.le_add_of_nonneg_right r20)) n2 (Wbf (by decide) (Int.add_nonneg n2 r20)) (Wbf (Int.add_le_add n1 (Int.le_of_lt r21)) (by decide))⟩
 ·exact ⟨_,Zax rfl,⟨_,rfl⟩,rfl,sh_B (by decide +kernel)⟩
 ·exact ⟨_,Zax rfl,⟨_,rfl⟩,rfl,sh_B (by decide +kernel)⟩
 ·exact ⟨_,Zax rfl,⟨_,rfl⟩,rfl,sh_B (by decide +kernel)⟩
 ·exact ⟨_,Zax rfl,⟨_,rfl⟩,rfl,sh_B (by decide +kernel)⟩
 ·exact ⟨_,Zax rfl,⟨_,rfl⟩,rfl,sh_B (by decide +kernel)⟩
 ·exact ⟨_,Zax rfl,⟨_,rfl⟩,rfl,.inl (.inr ⟨[],[],rfl,by simp,by simp⟩),by decide +kernel,by decide +kernel⟩
 ·exact ⟨_,Zax rfl,⟨_,rfl⟩,rfl,sh_B (by decide +kernel)⟩
 ·exact ⟨_,Zax rfl,⟨_,rfl⟩,rfl,sh_B (by decide +kernel)⟩
 ·exact ⟨_,Zax rfl,⟨_,rfl⟩,rfl,sh_B (by decide +kernel)⟩
 ·exact ⟨_,Zax rfl,⟨_,rfl⟩,rfl,sh_B (by decide +kernel)⟩
 ·exact ⟨_,Zax rfl,⟨_,rfl⟩,rfl,.inl (.inr ⟨[0],[0],rfl,fun k hk=>by rw [Wbb.mp hk]; decide,fun k hk=>by rw [Wbb.mp hk]; decide⟩),by decide +kernel,by decide +kernel⟩
noncomputable def fNoP:BSp:=fun ps ds Post=>Pen ps/\∃ n ts,ds=[encWeb n ts]/\1<=n/\n<=25/\∀ d ps',Pen ps' -> NoPl n d->Post d ps'
noncomputable def dueJ (k:Nat) (n:Int) (ts:List (Int × Int)) (m:Int) (us:List (Int × Int)):D:=match fitB k n ts m us with
 | true=>.non
 | false=>.lst [.int 11]
noncomputable def fDue:DSp:=fun ds Post=>∃ n ts m us,∃ k:Nat,ds=[encWeb n ts,encWeb m us,.int (1 - (k:Int))]/\Post (dueJ k n ts m us)
noncomputable def fFloors:BSp:=fun ps ds Post=>Pen ps/\ds=[]/\∀ n ts o m us o' ps',Pen ps' -> WebOk n ts->OrdOk n ts o->WebOk m us->OrdOk m us o' -> Post (.tup [.tup [encWeb n ts,encOrd o],.tup [encWeb m us,encOrd o']]) ps'
theorem Zi1 {Δ1:Evt} {i:Nat} {y:L2.Slot} {ps:List D} {P:D->Evt->Prop} (hx:Δ1[i]? = some y) (ho:y.od=some (.lst ps)) (hp:Pen ps) (h:∀ n ts o m us o' ps',Pen ps' -> WebOk n ts->OrdOk n ts o->WebOk m us->OrdOk m us o' -> P (.tup [.tup [encWeb n ts,encOrd o],.tup [encWeb m us,encOrd o']]) (Δ1.set i (y.put (.lst ps')))) :
  LendQ fFloors i P [] Δ1:=⟨y,ps,hx,ho,hp,rfl,h⟩
theorem Zko {Δ1:Evt} {i:Nat} {y:L2.Slot} {ps:List D} {n:Int} {ts:List (Int × Int)} {P:D->Evt->Prop} (hx:Δ1[i]? = some y) (ho:y.od=some (.lst ps)) (hp:Pen ps) (h1:1<=n) (h2:n<=25) (h:∀ d ps',Pen ps' -> NoPl n d->P d (Δ1.set i (y.put (.lst ps')))) :
  LendQ fNoP i P [encWeb n ts] Δ1:=⟨y,ps,hx,ho,hp,n,ts,rfl,h1,h2,h⟩
theorem Zkz (k:Nat) {n:Int} {ts:List (Int × Int)} {m:Int} {us:List (Int × Int)} {Post:D->Prop} (h:Post (dueJ k n ts m us)):fDue [encWeb n ts,encWeb m us,.int (1 - (k:Int))] Post:=⟨n,ts,m,us,k,rfl,h⟩
noncomputable def lSt (ns:List Int) (ps:List D) (F1 F2:D) (r:List L2.Slot):Evt:=.val (.scr (ns.map .int)) :: .own (.lst ps) :: .val F1 :: .val F2 :: r
noncomputable def flD (n:Int) (ts:List (Int × Int)) (o:List (List Int)):D:=.tup [encWeb n ts,encOrd o]
noncomputable def lI (ns:List Int) (F1 F2:D):Evt->Prop:=fun Δ=>∃ (psx:List D) (x4 x5 x6 x7 x8 x9 x10 x11:L2.Slot),Pen psx /\ Δ = lSt ns psx F1 F2 [x4,x5,x6,x7,x8,x9,x10,x11]
theorem Zm4 {ns:List Int} {F1 F2:D} {psx:List D} {x4 x5 x6 x7 x8 x9 x10 x11:L2.Slot} (h:Pen psx):lI ns F1 F2 (lSt ns psx F1 F2 [x4,x5,x6,x7,x8,x9,x10,x11]):=⟨psx,x4,x5,x6,x7,x8,x9,x10,x11,h,rfl⟩
noncomputable def lJ (ns:List Int) (pd:List D) (F1 F2 d0 PL BD:D) (tx:Str):Evt->Prop:=fun Δ=>∃ (x8 x9 x10 x11:L2.Slot),Δ = lSt ns pd F1 F2 [.val d0,.val PL,.val BD,.val (.str tx),x8,x9,x10,x11]
theorem Znc {ns:List Int} {pd:List D} {F1 F2 d0 PL BD:D} {tx:Str} {x8 x9 x10 x11:L2.Slot}:lJ ns pd F1 F2 d0 PL BD tx (lSt ns pd F1 F2 [.val d0,.val PL,.val BD,.val (.str tx),x8,x9,x10,x11]):=⟨x8,x9,x10,x11,rfl⟩
section
variable {P:Program} {w:World} {K:PySem.W.Frag} {mg:Str->Option Value} {base:Heap} {f:Addr} {fd:FuncData} {c0 c1 c2 c3 c4 c5 c6 c7 c8 c9 c10 c11 c12 c13 c14 c15:Addr}
theorem Zg3 (mb:Mb mg) (C__law_draw:Callee P w K mg base 1 "_law_draw" ["_law_pen_here","_law_many"] (spB K fDraw)) (F:Fun K "_law_no_place" "_law_no_place" s_law_no_place f fd):FnOk P w K mg base CX0 2 f fd ["_law_pen_here","_law_web_here"] (spB K fNoP):=by
 refine F.ok sc_law_no_place (Zd5 fun ps ds Post h=>by obtain ⟨_,_,_,rfl,_⟩:=h; rfl) (fun cdv A outer s H vs Q E hr h=>?_)
 have hu:=Zb0 hr
 refine ⟨_,(Zag (Zar (i:=2) sc_law_no_place.nd rfl (by first|exact Or.inl rfl|exact Or.inr rfl) (Za5 (Zaa (Zaq Zd2 (Zo0 Znq Zac) (Za6 C__law_draw (hr.mono (by first|decide|omega)) (Zaa (pv 0) (Zaa Zac Zad)))) (Zaa (Zam (ixK K hu) (pv 1) Zac (fun _ _=>rfl)) (Zaa (Zaq (addK K) (Zam (ixK K hu) (pv 1) Zac (fun _ _=>rfl)) (Za6 C__law_draw (hr.mono (by first|decide|omega)) (Zaa (pv 0) (Zaa (Zaq Zk5 Zac Zac) Zad)))) (Zaa Zjv (Zaa Zjv (Zaa Zhm (Zaa Zgl (Zaa Zgl (Zaa Zjm Zad))))))))))) (Zal (Za1 (Zam (ixK K hu) (Zaq (addK K) (pv 2) (@Za5 _ _ _ _ (@Zaa _ _ _ _ _ (Za5 (Zaa Zac Zad)) (@Zaa _ _ _ _ _ (Zbp (Zaa Zac Zad)) (@Zaa _ _ _ _ _ (Za5 Zad) (@Zaa _ _ _ _ _ (Zbp Zad) (@Zaa _ _ _ _ _ (@Zow _ _ _ _ _ _ _ _) Zad (@Zhw _ _ _ _ _)) (@Zgo _ _ _ _ _)) (@Zfm _ _ _ _)) (@Zgo _ _ _ _ _)) (@Zfm _ _ _ _)))) (Za6 C__law_draw (hr.mono (by first|decide|omega)) (Zaa (pv 0) (Zaa Zac Zad))) (fun _ _=>rfl))))),Zi7 (fun ps ds Post hf=>?_) h⟩
 obtain ⟨hp,n,ts,rfl,n0,n1,q⟩:=hf
 refine ⟨by simp,?_⟩
 dsimp only [cxOf,startD,Wbd,Wbg,Wa2,Wab]
 refine Zat (Zau (Zcn (Zab (Zan (Zn3 (Zah (Zl5 ((Zgc rfl rfl hp (by decide) (by decide) fun r1 ps1 hp1 r10 r11=>Zg6 ?_)))))))))
 refine Zab (Zbv (Zbg (d:=.int n) rfl rfl) ?_)
 refine Zab (Zan (Zbv (Zbg (d:=.int n) rfl rfl) (Zb8 rfl rfl (Zab (Zan (Zah (Zah (jr_I ⟨by decide,by decide,by decide⟩ ?_))))))))
 rw [pow59]
 refine Zaf (Zbl rfl rfl hp1 (by decide) (by decide) fun r2 ps2 hp2 r20 r21=>Zbh ?_)
 refine Zdl (Zak Zmz (Zak Zmz (Zak Zog (Zak Zkj (Zak Zkj (Zak Zmh Zbc)))))) ⟨(by show 9<=sizeLine; decide),?_⟩
 refine Za7 (Zan (Zbv (Zbu (Za4 rfl) (Zfk (Zak (pl1 Za0) (Zak (pt1 Za0) (Zak (Zfk Zbc (by decide)) (Zak (Zh1 Zbc (by decide)) (Zak Zl8 Zbc))))) (by show 5<=sizeLine; decide)) (Zmf (by show 14<=sizeLine; decide))) ?_))
 refine (Zgc rfl rfl hp2 (by decide) (by decide) fun r3 ps3 hp3 r30 r31=>?_)
 obtain ⟨k3,rfl⟩:∃ k3:Nat,r3=(k3:Int):=⟨r3.toNat,(Wbe r30).symm⟩
 obtain ⟨d,ed,hB⟩:=Zj0 n0 n1 r10 r11 r20 r21 k3 (Int.ofNat_lt.mp r31)
 exact Zcd ed ⟨ps3,rfl,q _ _ hp3 hB⟩
theorem Zn1 (mb:Mb mg) (F:Fun K "_law_due" "_law_due" s_law_due f fd):FnOk P w K mg base CX0 1 f fd ["_law_one","_law_other","_law_shared"] (spD K fDue):=by
 refine F.ok sc_law_due (Zdc fun ds Post h=>by obtain ⟨_,_,_,_,_,rfl,_⟩:=h; rfl) (fun cdv A outer s H vs Q E hr h=>?_)
 have hu:=Zb0 hr
 refine ⟨_,(Zag (Zck (PW.pt (pw_or (Za3 Zfj (Zaq Zd2 (Zaq (addK K) (Zam (ixK K hu) (pv 0) Zac (fun _ _=>rfl)) (Zam (ixK K hu) (pv 1) Zac (fun _ _=>rfl))) (pv 2)) Zac (nomark _)) (pw_or1 (Za3 Zfj (Zaq Zd2 (Zaq (addK K) (Zaq (addK K) (Zai (lenK K) rfl (mb "len" (by decide)) Zcb (Zaa (Zam (ixK K hu) (pv 0) Zac (fun _ _=>rfl)) Zad)) (Zai (lenK K) rfl (mb "len" (by decide)) Zcb (Zaa (Zam (ixK K hu) (pv 1) Zac (fun _ _=>rfl)) Zad))) Zac) (pv 2)) Zac (nomark _))))) (Zal (Za1 (Za5 (Zaa Zac Zad)))) Za8) (Zal (Za1 Zhm))),Zg5 (fun ds Post hf=>?_) h⟩
 obtain ⟨n,ts,m,us,k,rfl,q⟩:=hf
 refine ⟨by simp,?_⟩
 dsimp only [startD,Wbd,Wbg,Wa2,Wab]
 refine Zat (Zdy (Zkd (Zbm (Zan (Zbv (Zbu (Zbu (Zbg (d:=.int n) rfl rfl) (Zbg (d:=.int m) rfl rfl) Zdb) (Za4 rfl) Zlx) (Zah (Zex ⟨_,rfl,ite2 (fun z=>?_) (fun z=>?_)⟩)))))))
 ·have e:dueJ k n ts m us=.lst [.int 11]:=by
   unfold dueJ
   rw [show fitB k n ts m us=false from decide_eq_false (fun h=>by have:=of_decide_eq_true z; omega)]
  rw [e] at q
  exact Za7 (Zbv (pl1 Za0) q)
 refine Zbm (Zan (Zbv (Zbu (Zbu (Zbu (Zdn (Zbg rfl (Zdd n ts))) (Zdn (Zbg rfl (Zdd m us))) Zdb) Za0 Zdb) (Za4 rfl) Zlx) (Zah (Zex ⟨_,rfl,?_⟩))))
 rw [Waa,Waa]
 refine ite2 (fun y=>?_) (fun y=>?_)
 ·have e:dueJ k n ts m us=.lst [.int 11]:=by
   unfold dueJ
   rw [show fitB k n ts m us=false from decide_eq_false (fun h=>by have:=of_decide_eq_true y; omega)]
  rw [e] at q
  exact Za7 (Zbv (pl1 Za0) q)
 have z:¬ n + m - (1 - (k:Int)) > 25:=of_decide_eq_false (Wbj.mpr z)
 have y:¬ (ts.length:Int) + (us.length:Int) + 1 - (1 - (k:Int)) > 24:=of_decide_eq_false (Wbj.mpr y)
 have e:dueJ k n ts m us=.non:=by
  unfold dueJ
  rw [show fitB k n ts m us=true from decide_eq_true ⟨by omega,by omega⟩]
 rw [e] at q
 exact Zbk (Za7 (Zgf q))
theorem Zii (mb:Mb mg) (C__law_draw:Callee P w K mg base 1 "_law_draw" ["_law_pen_here","_law_many"] (spB K fDraw)) (C__law_web:Callee P w K mg base 2 "_law_web" ["_law_pen_here","_law_places","_law_ties"] (spB K fWeb)) (C__law_order:Callee P w K mg base 2 "_law_order" ["_law_pen_here","_law_web_here"] (spB K fOrder)) (F:Fun K "_law_floors" "_law_floors" s_law_floors f fd):FnOk P w K mg base CX0 3 f fd ["_law_pen_here"] (spB K fFloors):=by
 refine F.ok sc_law_floors (Zd5 fun ps ds Post h=>by obtain ⟨_,rfl,_⟩:=h; rfl) (fun cdv A outer s H vs Q E hr h=>?_)
 have hu:=Zb0 hr
 refine ⟨_,(Zag (Zar (i:=1) sc_law_floors.nd rfl (by first|exact Or.inl rfl|exact Or.inr rfl) (Za6 C__law_web (hr.mono (by first|decide|omega)) (Zaa (pv 0) (Zaa Zac (Zaa Zac Zad))))) (Zag (Zar (i:=2) sc_law_floors.nd rfl (by first|exact Or.inl rfl|exact Or.inr rfl) (Za6 C__law_web (hr.mono (by first|decide|omega)) (Zaa (pv 0) (Zaa Zac (Zaa Zac Zad))))) (Zag (Zck (Za3 Zd6 (Za6 C__law_draw (hr.mono (by first|decide|omega)) (Zaa (pv 0) (Zaa Zac Zad))) Zac (nomark _)) (Zag (Zar (i:=3) sc_law_floors.nd rfl (by first|exact Or.inl rfl|exact Or.inr rfl) (Zai (Zc2 rfl) rfl (mb "min" (by decide)) Zgn (Zaa Zac (Zaa (Zai (Zfi rfl) rfl (mb "max" (by decide)) Zkn (Zaa Zac (Zaa (Zaq (addK K) (Zaq Zd2 Zac (Zam (ixK K hu) (pv 1) Zac (fun _ _=>rfl))) (Za6 C__law_draw (hr.mono (by first|decide|omega)) (Zaa (pv 0) (Zaa Zac Zad)))) Zad))) Zad)))) (Zag (Zar (i:=4) sc_law_floors.nd rfl (by first|exact Or.inl rfl|exact Or.inr rfl) (Zai (Zc2 rfl) rfl (mb "min" (by decide)) Zgn (Zaa Zac (Zaa (Zaq (addK K) (Zaq (addK K) (Zaq Zd2 Zac (Zai (lenK K) rfl (mb "len" (by decide)) Zcb (Zaa (Zam (ixK K hu) (pv 1) Zac (fun _ _=>rfl)) Zad))) (Za6 C__law_draw (hr.mono (by first|decide|omega)) (Zaa (pv 0) (Zaa Zac Zad)))) (Zaq Zc8 Zac (Zbi Zhn rfl (mb "int" (by decide)) Zk6 (Zaa (Zmi Zfj (Zai (lenK K) rfl (mb "len" (by decide)) Zcb (Zaa (Zam (ixK K hu) (pv 1) Zac (fun _ _=>rfl)) Zad)) Zac (nomark _)) Zad)))) Zad)))) (Zal (Zar (i:=2) sc_law_floors.nd rfl (by first|exact Or.inl rfl|exact Or.inr rfl) (Zbp (Zaa (pv 3) (Zaa (Zbi (tupK K) rfl (mb "tuple" (by decide)) Zb9 (Zaa (Zc6 ["_law_k"] (show CompSc (defScope s_law_floors) ["_law_pen_here","_law_one","_law_other","_law_many","_law_count"] _ ["_law_pen_here","_law_many"] [0,3] from ⟨rfl,by decide +kernel,by decide +kernel,by decide +kernel,rfl,by decide +kernel⟩) rfl (Zb1 rfl (mb "range" (by decide)) (Zaa (pv 4) Zad)) (fun _ _ _ _ _=>(Zbb (i:=0) (show List.Nodup (["_law_k","_law_pen_here","_law_many"]:List Str) from by decide) rfl (Or.inl rfl))) (fun _ _ _ _ _=>Zcv) (fun _ _ _ _ _=>(Zbp (Zaa (Za6 C__law_draw (hr.mono (by first|decide|omega)) (Zaa (pv 1) (Zaa (pv 2) Zad))) (Zaa (Za6 C__law_draw (hr.mono (by first|decide|omega)) (Zaa (pv 1) (Zaa (pv 2) Zad))) Zad))))) Zad)) Zad))))))) Za8) (Zal (Za1 (Zbp (Zaa (Zbp (Zaa (pv 1) (Zaa (Za6 C__law_order (hr.mono (by first|decide|omega)) (Zaa (pv 0) (Zaa (pv 1) Zad))) Zad))) (Zaa (Zbp (Zaa (pv 2) (Zaa (Za6 C__law_order (hr.mono (by first|decide|omega)) (Zaa (pv 0) (Zaa (pv 2) Zad))) Zad))) Zad)))))))),Zi7 (fun ps ds Post hf=>?_) h⟩
 obtain ⟨hp,rfl,q⟩:=hf
 refine ⟨by simp,?_⟩
 dsimp only [cxOf,startD,Wbd,Wbg,Wa2,Wab]
 refine Zat (Zau (Zb8 rfl rfl (Zab (Zah (Zab (Zah (Zaf (Zky rfl rfl hp (by decide) (by decide) (by decide) (by decide) fun n ts ps1 hp1 hW _ _=>?_))))))))
 refine Zat (Zau (Zb8 rfl rfl (Zab (Zah (Zab (Zah (Zaf (Zky rfl rfl hp1 (by decide) (by decide) (by decide) (by decide) fun m0 us0 ps2 hp2 hV0 _ _=>?_))))))))
 have n0:=hW.lo
 have n1:=hW.hi
 have l1:=hW.len
 refine Zb3 (fun Δ=>∃ (psx:List D) (m:Int) (us:List (Int × Int)) (x3 x4:Slot),Pen psx/\WebOk m us /\ Δ = [.bor (.lst psx),.val (encWeb n ts),.val (encWeb m us),x3,x4]) ?_ ?_
 ·refine Zdy (Zbm (Zan ((Zgc rfl rfl hp2 (by decide) (by decide) fun r0 ps3 hp3 r00 r01=>Zah (Zkf ⟨_,rfl,ite2 (fun z=>?_) (fun z=>Zbk ⟨ps3,m0,us0,_,_,hp3,hV0,rfl⟩)⟩)))))
  refine Zat (Zau (Zd8 (fun d Δ=>∃ (m:Int) (ps4:List D),1<=m/\m<=25/\Pen ps4/\d=.int m /\ Δ = [.bor (.lst ps4),.val (encWeb n ts),.val (encWeb m0 us0),.any,.any]) ?_ ?_))
  ·refine Zbd (Zab (Zah (Zab (Zbd (Zab (Zah (Zab (Zan (Zan (Zah (Zbv (Zbg (d:=.int n) rfl rfl) (Zg6 (Zgc rfl rfl hp3 (by decide) (by decide) fun r4 ps4 hp4 r40 r41=>Zbh ?_)))))))))))))
   exact Zaf (Zd7 (Zaf (Zd7 ⟨_,ps4,by split <;> (try split) <;> omega,by split <;> (try split) <;> omega,hp4,rfl,rfl⟩)))
  rintro _ _ ⟨m,ps4,m1,m2,hp4,rfl,rfl⟩
  refine Zat (Zau (Zd8 (fun d Δ=>∃ (k:Nat) (ps5:List D),k<=24/\Pen ps5/\d=.int k /\ Δ = [.bor (.lst ps5),.val (encWeb n ts),.val (encWeb m0 us0),.val (.int m),.any]) ?_ ?_))
  ·refine Zbd (Zab (Zah (Zab (Zan (Zan (Zan (Zah (Zbv (Zdn (Zbg rfl (Zdd n ts))) (Zg6 (Zgc rfl rfl hp4 (by decide) (by decide) fun r5 ps5 hp5 r50 r51=>Zbh ?_))))))))))
   refine Zan (Zah (Zbd (Zab (Zan (Zbv (Zdn (Zbg rfl (Zdd n ts))) (Zah (Zex (Zaf (Zl4 (jr_I (Or.inl ⟨by decide,by decide⟩) (Zbh (Zaf (Zd7 ?_)))))))))))))
   rw [Waa]
   obtain ⟨b,hb,hb1⟩:∃ b:Int,(if decide (22 < (ts.length:Int))=true then (1:Int) else 0)=b/\(22 < (ts.length:Int)/\b=1\/¬ 22 < (ts.length:Int)/\b=0):=by
    by_cases h22:22 < (ts.length:Int)
    ·exact ⟨1,by rw [decide_eq_true h22]; rfl,.inl ⟨h22,rfl⟩⟩
    ·exact ⟨0,by rw [decide_eq_false h22]; rfl,.inr ⟨h22,rfl⟩⟩
   rw [hb]
   obtain ⟨k,hk,k0⟩:∃ k:Nat,(if (22 - (ts.length:Int) + r5 + 2 * b) < 24 then (22 - (ts.length:Int) + r5 + 2 * b) else 24)=(k:Int)/\k<=24:=by
    refine ⟨(if (22 - (ts.length:Int) + r5 + 2 * b) < 24 then (22 - (ts.length:Int) + r5 + 2 * b) else 24).toNat,?_,?_⟩ <;> split <;> omega
   exact ⟨k,ps5,k0,hp5,congrArg D.int hk,rfl⟩
  rintro _ _ ⟨k,ps5,k0,hp5,rfl,rfl⟩
  refine Zau (Zbw (Zab (Zae rfl (Zab (Zbd (Zab (Zil (n:=1) (by decide) (Zby (Zab (Zae rfl (Zaf ⟨_,rfl,by omega,by omega,?_⟩)))))))))))
  rw [Int.toNat_natCast]
  refine ⟨by rw [Zbf]; exact small1000 (by omega),fun i ys Δ2=>∃ (psx:List D) (us:List (Int × Int)) (x:Slot),Pen psx/\us.length=i/\(∀ t ∈ us,0<=t.1/\t.1 < m/\0<=t.2/\t.2 < m)/\ys=us.map encTie /\ Δ2=[x,.bor (.lst psx),.val (.int m)],⟨ps5,[],.any,hp5,rfl,fun _ h=>(nomatch h),rfl,rfl⟩,?_,?_⟩
  ·rintro i d ys Δ2 hd ⟨psx,us,x,hpx,hl,ht,rfl,rfl⟩
   refine Zjr (by decide) (Nat.succ_pos _) (Zcs (iteT ?_))
   refine Zbw (Zab (Zb8 rfl rfl (Zab (Zae rfl (Zaf (Zbl (m:=m) rfl rfl hpx m1 (Wbf m2 (by decide)) fun a pa hpa a0 a1=>?_))))))
   refine Zab (Zb8 rfl rfl (Zab (Zae rfl (Zaf (Zbl (m:=m) rfl rfl hpa m1 (Wbf m2 (by decide)) fun b pb hpb b0 b1=>Zaf ⟨Zcc,?_⟩)))))
   refine ⟨pb,us ++ [(a,b)],_,hpb,by rw [Wai,hl]; rfl,fun t h=>?_,by rw [Wa9]; rfl,rfl⟩
   rcases Wbr.mp h with h | h
   ·exact ht t h
   ·rw [Wbb.mp h]; exact ⟨a0,a1,b0,b1⟩
  ·rintro ys Δ2 ⟨psx,us,x,hpx,hl,ht,rfl,rfl⟩
   rw [Zbf] at hl
   exact Zaf (Zcx (Or.inl rfl) (Zaf ⟨Zcc,psx,m,us,_,_,hpx,⟨m1,m2,by omega,ht⟩,rfl⟩))
 rintro Δ1 ⟨psx,m,us,x3,x4,hpx,hV,rfl⟩
 refine Za7 (Zbw (Zab (Zbw (Zab (Zae rfl (Zab (Zb8 rfl rfl (Zab (Zae rfl (Zaf (Zgj rfl rfl hpx hW fun o pa hpa hO=>Zaf ⟨Zcc,?_⟩)))))))))))
 refine Zab (Zbw (Zab (Zae rfl (Zab (Zb8 rfl rfl (Zab (Zae rfl (Zaf (Zgj rfl rfl hpa hV fun o' pb hpb hO'=>Zaf ⟨Zcc,Zaf ⟨Zcc,?_⟩⟩)))))))))
 exact ⟨pb,rfl,q _ _ _ _ _ _ _ hpb hW hO hV hO'⟩
noncomputable def resJ (k:Nat) (n:Int) (ts:List (Int × Int)) (m:Int) (us:List (Int × Int)) (d e:D):D:=match plX n d && plX m e with
 | true=>dueJ k n ts m us
 | false=>.lst [.int 5]
theorem Zk4 (k:Nat) (n:Int) (ts:List (Int × Int)) (m:Int) (us:List (Int × Int)) (d e:D):Sm 2 (resJ k n ts m us d e)=true:=by
 unfold resJ
 split
 ·unfold dueJ
  split <;> rfl
 ·rfl
theorem Zm3 {n:Int} {d:D} (h:plX n d=true):∃ p:Nat,d=.int p/\(p:Int) < n:=by
 obtain ⟨t,e,h⟩:=Zly h
 exact ⟨t,e,by omega⟩
theorem Zf7 {P:Program} {w:World} {K:PySem.W.Frag} {mg:Str->Option Value} {base:Heap} {k:Nat} {fr cP cG:Addr} {n:Int} {ts:List (Int × Int)} {o:List (List Int)} {m:Int} {us:List (Int × Int)} {o':List (List Int)} {d e:D} {Post:D->Prop} (V:CalleeV P w K mg base 6 fr ["_law_asked"] (spX K (fAskJ k cP cG))) (hW:WebOk n ts) (hO:OrdOk n ts o) (hV:WebOk m us) (hO':OrdOk m us o') (hT:∃ T,tyD d=some T) (hT':∃ T,tyD e=some T) (q:Post (resJ k n ts m us d e)) :
  fRefG P w K mg base 6 (two cP 5 cG 11) [.adr fr,.tup [.tup [encWeb n ts,encOrd o],d,.tup [encWeb m us,encOrd o'],e]] Post:=by
 unfold resJ at q
 obtain ⟨T,hT⟩:=hT
 obtain ⟨T',hT'⟩:=hT'
 cases hb:(plX n d && plX m e) with
 | false=>
  rw [hb] at q
  exact ⟨fr,_,_,fun C=>C=cP,rfl,V,fun Po _=>⟨n,ts,o,m,us,o',d,e,rfl,hW,hO,hV,hO',.bad hT hT' hb rfl⟩,fun C z=>⟨5,.inl ⟨z,rfl⟩,q⟩⟩
 | true=>
  rw [hb] at q
  rw [Wau] at hb
  obtain ⟨p,rfl,hp⟩:=Zm3 hb.1
  obtain ⟨q',rfl,hq⟩:=Zm3 hb.2
  unfold dueJ at q
  cases hf:fitB k n ts m us with
  | true=>
   rw [hf] at q
   exact ⟨fr,_,_,fun _=>False,rfl,V,fun Po h=>⟨n,ts,o,m,us,o',_,_,rfl,hW,hO,hV,hO',.good hp hq (fun _=>h q) (fun z=>Bool.noConfusion (hf.symm.trans z))⟩,fun C z=>z.elim⟩
  | false=>
   rw [hf] at q
   exact ⟨fr,_,_,fun C=>C=cG,rfl,V,fun Po _=>⟨n,ts,o,m,us,o',_,_,rfl,hW,hO,hV,hO',.good hp hq (fun z=>Bool.noConfusion (hf.symm.trans z)) (fun _=>rfl)⟩,fun C z=>⟨11,.inr ⟨z,rfl⟩,q⟩⟩
theorem Zmx {n m:Int} {p q:Nat} {b0 b1:D} (hp:(p:Int) < n) (hq:(q:Int) < m) (h0:NoPl n b0) (h1:NoPl m b1) {j:Nat} (hj:j < 4):∃ d e,(if (0 + (j:Int)) % 2=1 then b0 else .int p)=d/\(if (0 + (j:Int)) / 2=1 then b1 else .int q)=e/\(∃ T,tyD d=some T)/\(∃ T,tyD e=some T)/\(j=0->(plX n d && plX m e)=true)/\(j ≠ 0->(plX n d && plX m e)=false):=by
 refine ⟨_,_,rfl,rfl,?_,?_,fun h=>?_,fun h=>?_⟩
 ·split
  ·exact h0.1
  ·exact ⟨_,rfl⟩
 ·split
  ·exact h1.1
  ·exact ⟨_,rfl⟩
 ·subst h
  show (plX n (.int p) && plX m (.int q))=true
  rw [Zea hp,Zea hq]; rfl
 ·by_cases z:(0 + (j:Int)) % 2=1
  ·rw [if_pos z,h0.2.1]; rfl
  ·rw [if_pos (show (0 + (j:Int)) / 2=1 by omega),h1.2.1,Bool.and_false]
theorem ok_law (mb:Mb mg) (C__law_pen:Callee P w K mg base 1 "_law_pen" ["_law_script"] (spN K fPen)) (C__law_draw:Callee P w K mg base 1 "_law_draw" ["_law_pen_here","_law_many"] (spB K fDraw)) (C__law_floors:Callee P w K mg base 3 "_law_floors" ["_law_pen_here"] (spB K fFloors)) (C__law_no_place:Callee P w K mg base 2 "_law_no_place" ["_law_pen_here","_law_web_here"] (spB K fNoP)) (C__law_due:Callee P w K mg base 1 "_law_due" ["_law_one","_law_other","_law_shared"] (spD K fDue))
  (C__law_refusal:Callee P w K mg base 7 "_law_refusal" ["_law_call","_law_things"] (spD K (fRefG P w K mg base 6 (two c6 5 c12 11)))) (C__law_at:CalleeX P w K mg base 6 "_law_at" ["_law_asked"] (spX K (fAskJ 0 c6 c12))) (C__law_by:CalleeX P w K mg base 6 "_law_by" ["_law_asked"] (spX K (fAskJ 1 c6 c12))) (C__law_orders:CalleeX P w K mg base 6 "_law_orders" ["_law_asked"] (spX K (fAskJ 0 c6 c12)))
  (F:Fun K "law" "law" s_law f fd):FnOk P w K mg base CX0 8 f fd ["_law_script"] (spD K fLaw):=by
 refine F.ok sc_law (Zdc fun ds Post h=>by obtain ⟨_,rfl,_⟩:=h; rfl) (fun cdv A outer s H vs Q E hr h=>?_)
 have hu:=Zb0 hr
 have hv:=Zoy hr
 obtain ⟨fa,V1,m__law_at⟩:=C__law_at.val
 obtain ⟨fb,V2,m__law_by⟩:=C__law_by.val
 obtain ⟨fo,V3,m__law_orders⟩:=C__law_orders.val
 refine ⟨_,(Zag (Zar (i:=1) sc_law.nd rfl (by first|exact Or.inl rfl|exact Or.inr rfl) (Za6 C__law_pen (hr.mono (by first|decide|omega)) (Zaa (pv 0) Zad))) (Zag (Zgq (Za6 C__law_floors (hr.mono (by first|decide|omega)) (Zaa (pv 1) Zad)) (gtupK (n:=2) K rfl (Zdk (Zbb (i:=2) sc_law.nd rfl (by first|exact Or.inl rfl|exact Or.inr rfl)) (Zdk (Zbb (i:=3) sc_law.nd rfl (by first|exact Or.inl rfl|exact Or.inr rfl)) Zic)))) (Zag (Zgp PassesOwn.never rfl (Zb1 rfl (mb "range" (by decide)) (Zaa (Zaq (addK K) Zac (Za6 C__law_draw (hr.mono (by first|decide|omega)) (Zaa (pv 1) (Zaa Zac Zad)))) Zad)) (Zbb (i:=4) sc_law.nd rfl (by first|exact Or.inl rfl|exact Or.inr rfl)) (Zag (Zar (i:=5) sc_law.nd rfl (by first|exact Or.inl rfl|exact Or.inr rfl) (Za5 (Zaa (Za6 C__law_draw (hr.mono (by first|decide|omega)) (Zaa (pv 1) (Zaa (Zam (ixK K hu) (Zam (ixK K hu) (pv 2) Zac (fun _ _=>rfl)) Zac (fun _ _=>rfl)) Zad))) (Zaa (Za6 C__law_draw (hr.mono (by first|decide|omega)) (Zaa (pv 1) (Zaa (Zam (ixK K hu) (Zam (ixK K hu) (pv 3) Zac (fun _ _=>rfl)) Zac (fun _ _=>rfl)) Zad))) Zad)))) (Zag (Zar (i:=6) sc_law.nd rfl (by first|exact Or.inl rfl|exact Or.inr rfl) (Za5 (Zaa (Za6 C__law_no_place (hr.mono (by first|decide|omega)) (Zaa (pv 1) (Zaa (Zam (ixK K hu) (pv 2) Zac (fun _ _=>rfl)) Zad))) (Zaa (Za6 C__law_no_place (hr.mono (by first|decide|omega)) (Zaa (pv 1) (Zaa (Zam (ixK K hu) (pv 3) Zac (fun _ _=>rfl)) Zad))) Zad)))) (Zag (Zar (i:=7) sc_law.nd rfl (by first|exact Or.inl rfl|exact Or.inr rfl) (Zai (reprLK K hr.gd (Zmy hr)) rfl (mb "repr" (by decide)) Zhu (Zaa (pv 6) Zad))) (Zal (Zgp PassesOwn.never rfl (Zb1 rfl (mb "range" (by decide)) (Zaa Zac Zad)) (Zbb (i:=8) sc_law.nd rfl (by first|exact Or.inl rfl|exact Or.inr rfl)) (Zag (Zar (i:=9) sc_law.nd rfl (by first|exact Or.inl rfl|exact Or.inr rfl) (Zbp (Zaa (pv 2) (Zaa (Zam (ixK K hu) (Za5 (Zaa (Zam (ixK K hu) (pv 5) Zac (fun _ _=>rfl)) (Zaa (Zam (ixK K hu) (pv 6) Zac (fun _ _=>rfl)) Zad))) (Zaq Zbx (pv 8) Zac) (fun _ _=>rfl)) (Zaa (pv 3) (Zaa (Zam (ixK K hu) (Za5 (Zaa (Zam (ixK K hu) (pv 5) Zac (fun _ _=>rfl)) (Zaa (Zam (ixK K hu) (pv 6) Zac (fun _ _=>rfl)) Zad))) (Zaq Zfw (pv 8) Zac) (fun _ _=>rfl)) Zad)))))) (Zag (Zar (i:=10) sc_law.nd rfl (by first|exact Or.inl rfl|exact Or.inr rfl) (Za5 (Zaa (Za6 C__law_due (hr.mono (by first|decide|omega)) (Zaa (Zam (ixK K hu) (pv 2) Zac (fun _ _=>rfl)) (Zaa (Zam (ixK K hu) (pv 3) Zac (fun _ _=>rfl)) (Zaa Zac Zad)))) (Zaa (Za6 C__law_due (hr.mono (by first|decide|omega)) (Zaa (Zam (ixK K hu) (pv 2) Zac (fun _ _=>rfl)) (Zaa (Zam (ixK K hu) (pv 3) Zac (fun _ _=>rfl)) (Zaa Zac Zad)))) Zad)))) (Zag (Zck (Za3 Zfj (pv 8) Zac (nomark _)) (Zal (Zar (i:=10) sc_law.nd rfl (by first|exact Or.inl rfl|exact Or.inr rfl) (Za5 (Zaa (Za5 (Zaa Zac Zad)) (Zaa (Za5 (Zaa Zac Zad)) Zad))))) Za8) (Zag (Zar (i:=11) sc_law.nd rfl (by first|exact Or.inl rfl|exact Or.inr rfl) (Za5 (Zaa (Za6 C__law_refusal (hr.mono (by first|decide|omega)) (Zaa (Zay rfl m__law_at (show RelV (.ref _) _ from rfl)) (Zaa (pv 9) Zad))) (Zaa (Za6 C__law_refusal (hr.mono (by first|decide|omega)) (Zaa (Zay rfl m__law_orders (show RelV (.ref _) _ from rfl)) (Zaa (pv 9) Zad))) (Zaa (Za6 C__law_refusal (hr.mono (by first|decide|omega)) (Zaa (Zay rfl m__law_by (show RelV (.ref _) _ from rfl)) (Zaa (pv 9) Zad))) Zad))))) (Zal (Zck (PW.pt (pw_or (Za3 (neSmK K hv) (pv 11) (Za5 (Zaa (Zam (ixK K hu) (pv 10) Zac (fun _ _=>rfl)) (Zaa (Zam (ixK K hu) (pv 10) Zac (fun _ _=>rfl)) (Zaa (Zam (ixK K hu) (pv 10) Zac (fun _ _=>rfl)) Zad)))) (nomark _)) (pw_or1 (Za3 Znm (Zai (reprLK K hr.gd (Zmy hr)) rfl (mb "repr" (by decide)) Zhu (Zaa (pv 6) Zad)) (pv 7) (nomark _))))) (Zal (Za1 Zjv)) Za8)))))))))))) (Zal (Za1 Zjv))))),Zg5 (fun ds Post hf=>?_) h⟩
 obtain ⟨ns,rfl,hl,q⟩:=hf
 refine ⟨by simp,?_⟩
 dsimp only [startD,Wbd,Wbg,Wa2]
 refine Zat (Zdo (Zmo (Zab (Zae rfl (Zaf ⟨ns,rfl,hl,fun ps hp=>?_⟩)))))
 refine Zat (Znr (Zb8 rfl rfl (Zaf (Zi1 rfl rfl hp fun n ts o m us o' ps1 hp1 hW hO hV hO'=>Zmv rfl (Zgy (Zdw (Zgy (Zdw (Zlt ?_)))))))))
 refine Zb3 (fun _=>True) ?_ (fun Δ1 _=>Za7 (Zlz q))
 refine Zgt (Zby (Zab (Zan (Zah (Zgc rfl rfl hp1 (by decide) (by decide) fun r ps2 hp2 r0 r1=>Zbh (Zaf ⟨_,rfl,by omega,by omega,?_⟩))))))
 refine ⟨fun _=>lI ns (flD n ts o) (flD m us o'),Zm4 hp2,?_,fun _ _=>trivial⟩
 rintro i d0 Δ2 hd0 ⟨psx,x4,x5,x6,x7,x8,x9,x10,x11,hpx,rfl⟩
 have n0:=hW.lo
 have n1:=hW.hi
 have m0:=hV.lo
 have m1:=hV.hi
 refine Zdw (Zat (Zau (Zd8 (fun d Δ=>∃ (p q:Nat) (pb:List D),(p:Int) < n/\(q:Int) < m/\Pen pb/\d=.lst [.int p,.int q] /\ Δ = lSt ns pb (flD n ts o) (flD m us o') [.val d0,x5,x6,x7,x8,x9,x10,x11]) ?_ ?_)))
 ·refine Zcn (Zab (Zb8 rfl rfl (Zab (Zbv (Zfn (d:=.int n) (Zbg (d:=encWeb n ts) rfl rfl) Za0 rfl) (Zaf (Zbl (m:=n) rfl rfl hpx n0 (Wbf n1 (by decide)) fun p0 pa hpa p00 p01=>?_))))))
  refine Zab (Zb8 rfl rfl (Zab (Zbv (Zfn (d:=.int m) (Zbg (d:=encWeb m us) rfl rfl) Za0 rfl) (Zaf (Zbl (m:=m) rfl rfl hpa m0 (Wbf m1 (by decide)) fun q0 pb hpb q00 q01=>Zaf ⟨Zcc,?_⟩)))))
  exact ⟨p0.toNat,q0.toNat,pb,by rw [Wbe p00]; exact p01,by rw [Wbe q00]; exact q01,hpb,by rw [Wbe p00,Wbe q00],rfl⟩
 rintro _ _ ⟨p,q1,pb,p01,q01,hpb,rfl,rfl⟩
 refine Zat (Zau (Zd8 (fun d Δ=>∃ (b0 b1:D) (pd:List D),NoPl n b0/\NoPl m b1/\Pen pd/\d=.lst [b0,b1] /\ Δ = lSt ns pd (flD n ts o) (flD m us o') [.val d0,.val (.lst [.int p,.int q1]),x6,x7,x8,x9,x10,x11]) ?_ ?_))
 ·refine Zcn (Zab (Zb8 rfl rfl (Zab (Zbv (Zbg (d:=encWeb n ts) rfl rfl) (Zaf (Zko rfl rfl hpb n0 n1 fun b0 pc hpc hb0=>?_))))))
  exact Zab (Zb8 rfl rfl (Zab (Zbv (Zbg (d:=encWeb m us) rfl rfl) (Zaf (Zko rfl rfl hpc m0 m1 fun b1 pd hpd hb1=>Zaf ⟨Zcc,b0,b1,pd,hb0,hb1,hpd,rfl,rfl⟩)))))
 rintro _ _ ⟨b0,b1,pd,hb0,hb1,hpd,rfl,rfl⟩
 have hsh:∀ x ∈ [b0,b1],x.shU:=fun x hx=>by
  rcases Wa5.mp hx with rfl | hx
  ·exact hb0.2.2.1
  ·rw [Wbb.mp hx]; exact hb1.2.2.1
 have hdp:=depth2 hb0.2.2.2.1 hb1.2.2.2.1
 have hsz:=Zif hb0.2.2.2.2 hb1.2.2.2.2
 refine Zat (Zau (Zbd (Zab (Zae rfl (Zaf (Zgx hsh hdp hsz ?_))))))
 generalize htx:(D.pd (.lst [b0,b1])).shown=tx
 refine Zgt (Zby (Zab (Zah (Zaf ⟨_,rfl,by decide,by decide,?_⟩))))
 refine ⟨fun _=>lJ ns pd (flD n ts o) (flD m us o') d0 (.lst [.int p,.int q1]) (.lst [b0,b1]) tx,Znc,?_,fun Δ5 z=>?_⟩
 rotate_left
 ·obtain ⟨y8,y9,y10,y11,rfl⟩:=z
  exact Zm4 hpd
 rintro j d1 Δ3 hd1 ⟨y8,y9,y10,y11,rfl⟩
 obtain ⟨hj,rfl⟩:=Zcj hd1
 have hj:j < 4:=hj
 obtain ⟨d,e,ed,ee,hT,hT',hg,hb⟩:=Zmx p01 q01 hb0 hb1 hj
 generalize hJ:(0 + (j:Int))=J at *
 refine Zdw (Zat (Zau (Zd8 (fun x Δ=>x=.tup [flD n ts o,d,flD m us o',e] /\ Δ = lSt ns pd (flD n ts o) (flD m us o') [.val d0,.val (.lst [.int p,.int q1]),.val (.lst [b0,b1]),.val (.str tx),.val (.int J),y9,y10,y11]) ?_ ?_)))
 ·refine Zbv (Zh1 (Zak (Za4 rfl) (Zak (Zgm (pl2 (Zd3 (d:=.int p) rfl rfl) (Zd3 (d:=b0) rfl rfl)) (Zbu (Za4 rfl) Za0 (pr_I (show (0:Int) < 2 by decide))) (Zhi (Int.emod_two_eq _))) (Zak (Za4 rfl) (Zak (Zgm (pl2 (Zd3 (d:=.int q1) rfl rfl) (Zd3 (d:=b1) rfl rfl)) (Zbu (Za4 rfl) Za0 (pr_I ⟨by decide,by decide⟩)) (Zhi (by omega))) Zbc)))) (by show 4<=sizeLine; decide)) ⟨?_,rfl⟩
  rw [ed,ee]
 rintro _ _ ⟨rfl,rfl⟩
 refine Zat (Zau (Zd8 (fun x Δ=>x=.lst [dueJ 0 n ts m us,dueJ 1 n ts m us] /\ Δ = lSt ns pd (flD n ts o) (flD m us o') [.val d0,.val (.lst [.int p,.int q1]),.val (.lst [b0,b1]),.val (.str tx),.val (.int J),.val (.tup [flD n ts o,d,flD m us o',e]),y10,y11]) ?_ ?_))
 ·exact Zcn (Zab (Zbt (Zdl (Zak (Zbg (d:=encWeb n ts) rfl rfl) (Zak (Zbg (d:=encWeb m us) rfl rfl) (Zak Za0 Zbc))) (Zkz 0 (Zab (Zbt (Zdl (Zak (Zbg (d:=encWeb n ts) rfl rfl) (Zak (Zbg (d:=encWeb m us) rfl rfl) (Zak Za0 Zbc))) (Zkz 1 (Zaf ⟨Zcc,rfl,rfl⟩)))))))))
 rintro _ _ ⟨rfl,rfl⟩
 refine Zb3 (fun Δ=>Δ = lSt ns pd (flD n ts o) (flD m us o') [.val d0,.val (.lst [.int p,.int q1]),.val (.lst [b0,b1]),.val (.str tx),.val (.int J),.val (.tup [flD n ts o,d,flD m us o',e]),.val (.lst [resJ 0 n ts m us d e,resJ 1 n ts m us d e]),y11]) ?_ ?_
 ·refine Zdy (Zbm (Zan (Zae rfl (Zah (Zex ⟨_,rfl,ite2 (fun z=>?_) (fun z=>?_)⟩)))))
  ·have z:(0:Int) < J:=of_decide_eq_true z
   unfold resJ
   rw [hb (by omega)]
   exact Zau (Zbv (pl2 (pl1 Za0) (pl1 Za0)) rfl)
  ·have z:¬ (0:Int) < J:=of_decide_eq_false (Wbj.mpr z)
   unfold resJ
   rw [hg (by omega)]
   exact Zbk rfl
 rintro Δ4 rfl
 refine Zat (Zau (Zd8 (fun x Δ=>x=.lst [resJ 0 n ts m us d e,resJ 0 n ts m us d e,resJ 1 n ts m us d e] /\ Δ = lSt ns pd (flD n ts o) (flD m us o') [.val d0,.val (.lst [.int p,.int q1]),.val (.lst [b0,b1]),.val (.str tx),.val (.int J),.val (.tup [flD n ts o,d,flD m us o',e]),.val (.lst [resJ 0 n ts m us d e,resJ 1 n ts m us d e]),y11]) ?_ ?_))
 ·refine Zcn (Zab (Zbt (Zdl (Zak Zhh (Zak (Za4 rfl) Zbc)) (Zf7 V1 hW hO hV hO' hT hT' ?_))))
  refine Zab (Zbt (Zdl (Zak Zhh (Zak (Za4 rfl) Zbc)) (Zf7 V3 hW hO hV hO' hT hT' ?_)))
  exact Zab (Zbt (Zdl (Zak Zhh (Zak (Za4 rfl) Zbc)) (Zf7 V2 hW hO hV hO' hT hT' (Zaf ⟨(by show 3<=sizeLine; decide),rfl,rfl⟩))))
 rintro _ _ ⟨rfl,rfl⟩
 refine Zdy (Zkd (Zbm (Zan (Zae rfl (Zbv (Zfk (Zak (Zd3 rfl rfl) (Zak (Zd3 rfl rfl) (Zak (Zd3 rfl rfl) Zbc))) (by show 3<=sizeLine; decide)) (Zlp (n:=2) (by decide) ?_ ⟨false,rfl,iteF ?_⟩))))))
 ·rw [List.all_cons,List.all_cons,List.all_cons,List.all_nil,Zk4,Zk4]; rfl
 refine Zbm (Zan (Zbd (Zab (Zae rfl (Zaf (Zgx hsh hdp hsz ?_))))))
 rw [htx]
 exact Zae rfl (Zn7 ⟨false,rfl,iteF (Zbk Znc)⟩)
end
theorem lenS {us:List Value} {n:Nat} (h:us.length=n + 1):∃ a t,us=a :: t/\t.length=n:=by
 cases us with
 | nil=>exact absurd h.symm (Nat.succ_ne_zero n)
 | cons a t=>exact ⟨a,t,rfl,Nat.succ.inj h⟩
theorem lenK1 {us:List Value} (h:us.length=1):∃ a0,us=[a0]:=by
 obtain ⟨a0,u0,rfl,h0⟩:=lenS h
 obtain rfl:=Wbi h0
 exact ⟨a0,rfl⟩
theorem lenK2 {us:List Value} (h:us.length=2):∃ a0 a1,us=[a0,a1]:=by
 obtain ⟨a0,u0,rfl,h0⟩:=lenS h
 obtain ⟨a1,u1,rfl,h1⟩:=lenS h0
 obtain rfl:=Wbi h1
 exact ⟨a0,a1,rfl⟩
theorem lenK3 {us:List Value} (h:us.length=3):∃ a0 a1 a2,us=[a0,a1,a2]:=by
 obtain ⟨a0,u0,rfl,h0⟩:=lenS h
 obtain ⟨a1,u1,rfl,h1⟩:=lenS h0
 obtain ⟨a2,u2,rfl,h2⟩:=lenS h1
 obtain rfl:=Wbi h2
 exact ⟨a0,a1,a2,rfl⟩
theorem lenK4 {us:List Value} (h:us.length=4):∃ a0 a1 a2 a3,us=[a0,a1,a2,a3]:=by
 obtain ⟨a0,u0,rfl,h0⟩:=lenS h
 obtain ⟨a1,u1,rfl,h1⟩:=lenS h0
 obtain ⟨a2,u2,rfl,h2⟩:=lenS h1
 obtain ⟨a3,u3,rfl,h3⟩:=lenS h2
 obtain rfl:=Wbi h3
 exact ⟨a0,a1,a2,a3,rfl⟩
theorem lenK6 {us:List Value} (h:us.length=6):∃ a0 a1 a2 a3 a4 a5,us=[a0,a1,a2,a3,a4,a5]:=by
 obtain ⟨a0,u0,rfl,h0⟩:=lenS h
 obtain ⟨a1,u1,rfl,h1⟩:=lenS h0
 obtain ⟨a2,u2,rfl,h2⟩:=lenS h1
 obtain ⟨a3,u3,rfl,h3⟩:=lenS h2
 obtain ⟨a4,u4,rfl,h4⟩:=lenS h3
 obtain ⟨a5,u5,rfl,h5⟩:=lenS h4
 obtain rfl:=Wbi h5
 exact ⟨a0,a1,a2,a3,a4,a5,rfl⟩
theorem all_mk {l:PySem.W.OpenLaw} {w:World} {K:PySem.W.Frag} {h:Heap} {mg:Str->Option Value} {fa:Addr} (X:K.In h) (G:h.Ns mainGlobals mg) (hfa:mg "law" = some (.ref fa))
  {f1:Addr} {od1 an1:Option Addr} {sl1:Array (Option Value)} {oc1 kV1 dc1 pm1 cd1 ct1:Value}
  {f2:Addr} {od2 an2:Option Addr} {sl2:Array (Option Value)} {oc2 kV2 dc2 pm2 cd2 ct2:Value}
  {f3:Addr} {od3 an3:Option Addr} {sl3:Array (Option Value)} {oc3 kV3 dc3 pm3 cd3 ct3:Value}
  {f4:Addr} {od4 an4:Option Addr} {sl4:Array (Option Value)} {oc4 kV4 dc4 pm4 cd4 ct4:Value}
  {f5:Addr} {od5 an5:Option Addr} {sl5:Array (Option Value)} {oc5 kV5 dc5 pm5 cd5 ct5:Value}
  {f6:Addr} {od6 an6:Option Addr} {sl6:Array (Option Value)} {oc6 kV6 dc6 pm6 cd6 ct6:Value}
  {f7:Addr} {od7 an7:Option Addr} {sl7:Array (Option Value)} {oc7 kV7 dc7 pm7 cd7 ct7:Value}
  {f8:Addr} {od8 an8:Option Addr} {sl8:Array (Option Value)} {oc8 kV8 dc8 pm8 cd8 ct8:Value}
  {f9:Addr} {od9 an9:Option Addr} {sl9:Array (Option Value)} {oc9 kV9 dc9 pm9 cd9 ct9:Value}
  {f10:Addr} {od10 an10:Option Addr} {sl10:Array (Option Value)} {oc10 kV10 dc10 pm10 cd10 ct10:Value}
  {f11:Addr} {od11 an11:Option Addr} {sl11:Array (Option Value)} {oc11 kV11 dc11 pm11 cd11 ct11:Value}
  {f12:Addr} {od12 an12:Option Addr} {sl12:Array (Option Value)} {oc12 kV12 dc12 pm12 cd12 ct12:Value}
  {f13:Addr} {od13 an13:Option Addr} {sl13:Array (Option Value)} {oc13 kV13 dc13 pm13 cd13 ct13:Value}
  {f14:Addr} {od14 an14:Option Addr} {sl14:Array (Option Value)} {oc14 kV14 dc14 pm14 cd14 ct14:Value}
  {f15:Addr} {od15 an15:Option Addr} {sl15:Array (Option Value)} {oc15 kV15 dc15 pm15 cd15 ct15:Value}
  {f16:Addr} {od16 an16:Option Addr} {sl16:Array (Option Value)} {oc16 kV16 dc16 pm16 cd16 ct16:Value}
  {f17:Addr} {od17 an17:Option Addr} {sl17:Array (Option Value)} {oc17 kV17 dc17 pm17 cd17 ct17:Value}
  {f18:Addr} {od18 an18:Option Addr} {sl18:Array (Option Value)} {oc18 kV18 dc18 pm18 cd18 ct18:Value}
  {f19:Addr} {od19 an19:Option Addr} {sl19:Array (Option Value)} {oc19 kV19 dc19 pm19 cd19 ct19:Value}
  {f20:Addr} {od20 an20:Option Addr} {sl20:Array (Option Value)} {oc20 kV20 dc20 pm20 cd20 ct20:Value}
  {c_FloorError c_NoWeb c_NoOrder c_NoNumber c_NoEnd c_NoTie c_NoPlace c_NoTable c_NoRing c_NoPaper c_Apart c_TooMany c_TooGreat c_NoText c_NoName c_NoRow:Addr}
  (a1:PySem.W.nsIn K mainGlobals "_law_draw" = some (some (.ref f1))) (l1:K.lookup f1=some ⟨oc1,od1,.func (PySem.W.fnOf "_law_draw" "_law_draw" (defArgs s_law_draw) (defBody s_law_draw) (defScope s_law_draw) .none kV1 dc1 pm1 an1 cd1 ct1),sl1⟩) (c1:PySem.W.codeIn K cd1 "_law_draw" = true) (k1:PySem.W.keepIn K (.ref f1)=true)
  (a2:PySem.W.nsIn K mainGlobals "_law_pen" = some (some (.ref f2))) (l2:K.lookup f2=some ⟨oc2,od2,.func (PySem.W.fnOf "_law_pen" "_law_pen" (defArgs s_law_pen) (defBody s_law_pen) (defScope s_law_pen) .none kV2 dc2 pm2 an2 cd2 ct2),sl2⟩) (c2:PySem.W.codeIn K cd2 "_law_pen" = true) (k2:PySem.W.keepIn K (.ref f2)=true)
  (a3:PySem.W.nsIn K mainGlobals "_law_web" = some (some (.ref f3))) (l3:K.lookup f3=some ⟨oc3,od3,.func (PySem.W.fnOf "_law_web" "_law_web" (defArgs s_law_web) (defBody s_law_web) (defScope s_law_web) .none kV3 dc3 pm3 an3 cd3 ct3),sl3⟩) (c3:PySem.W.codeIn K cd3 "_law_web" = true) (k3:PySem.W.keepIn K (.ref f3)=true)
  (a4:PySem.W.nsIn K mainGlobals "_law_order" = some (some (.ref f4))) (l4:K.lookup f4=some ⟨oc4,od4,.func (PySem.W.fnOf "_law_order" "_law_order" (defArgs s_law_order) (defBody s_law_order) (defScope s_law_order) .none kV4 dc4 pm4 an4 cd4 ct4),sl4⟩) (c4:PySem.W.codeIn K cd4 "_law_order" = true) (k4:PySem.W.keepIn K (.ref f4)=true)
  (a5:PySem.W.nsIn K mainGlobals "is_whole" = some (some (.ref f5))) (l5:K.lookup f5=some ⟨oc5,od5,.func (PySem.W.fnOf "is_whole" "is_whole" (defArgs s_is_whole) (defBody s_is_whole) (defScope s_is_whole) .none kV5 dc5 pm5 an5 cd5 ct5),sl5⟩) (c5:PySem.W.codeIn K cd5 "is_whole" = true) (k5:PySem.W.keepIn K (.ref f5)=true)
  (a6:PySem.W.nsIn K mainGlobals "is_place" = some (some (.ref f6))) (l6:K.lookup f6=some ⟨oc6,od6,.func (PySem.W.fnOf "is_place" "is_place" (defArgs s_is_place) (defBody s_is_place) (defScope s_is_place) .none kV6 dc6 pm6 an6 cd6 ct6),sl6⟩) (c6:PySem.W.codeIn K cd6 "is_place" = true) (k6:PySem.W.keepIn K (.ref f6)=true)
  (a7:PySem.W.nsIn K mainGlobals "refuse_no_places" = some (some (.ref f7))) (l7:K.lookup f7=some ⟨oc7,od7,.func (PySem.W.fnOf "refuse_no_places" "refuse_no_places" (defArgs s_refuse_no_places) (defBody s_refuse_no_places) (defScope s_refuse_no_places) .none kV7 dc7 pm7 an7 cd7 ct7),sl7⟩) (c7:PySem.W.codeIn K cd7 "refuse_no_places" = true) (k7:PySem.W.keepIn K (.ref f7)=true)
  (a8:PySem.W.nsIn K mainGlobals "ties_moved" = some (some (.ref f8))) (l8:K.lookup f8=some ⟨oc8,od8,.func (PySem.W.fnOf "ties_moved" "ties_moved" (defArgs s_ties_moved) (defBody s_ties_moved) (defScope s_ties_moved) .none kV8 dc8 pm8 an8 cd8 ct8),sl8⟩) (c8:PySem.W.codeIn K cd8 "ties_moved" = true) (k8:PySem.W.keepIn K (.ref f8)=true)
  (a9:PySem.W.nsIn K mainGlobals "web_within" = some (some (.ref f9))) (l9:K.lookup f9=some ⟨oc9,od9,.func (PySem.W.fnOf "web_within" "web_within" (defArgs s_web_within) (defBody s_web_within) (defScope s_web_within) .none kV9 dc9 pm9 an9 cd9 ct9),sl9⟩) (c9:PySem.W.codeIn K cd9 "web_within" = true) (k9:PySem.W.keepIn K (.ref f9)=true)
  (a10:PySem.W.nsIn K mainGlobals "joined_at" = some (some (.ref f10))) (l10:K.lookup f10=some ⟨oc10,od10,.func (PySem.W.fnOf "joined_at" "joined_at" (defArgs s_joined_at) (defBody s_joined_at) (defScope s_joined_at) .none kV10 dc10 pm10 an10 cd10 ct10),sl10⟩) (c10:PySem.W.codeIn K cd10 "joined_at" = true) (k10:PySem.W.keepIn K (.ref f10)=true)
  (a11:PySem.W.nsIn K mainGlobals "joined_by" = some (some (.ref f11))) (l11:K.lookup f11=some ⟨oc11,od11,.func (PySem.W.fnOf "joined_by" "joined_by" (defArgs s_joined_by) (defBody s_joined_by) (defScope s_joined_by) .none kV11 dc11 pm11 an11 cd11 ct11),sl11⟩) (c11:PySem.W.codeIn K cd11 "joined_by" = true) (k11:PySem.W.keepIn K (.ref f11)=true)
  (a12:PySem.W.nsIn K mainGlobals "orders_joined" = some (some (.ref f12))) (l12:K.lookup f12=some ⟨oc12,od12,.func (PySem.W.fnOf "orders_joined" "orders_joined" (defArgs s_orders_joined) (defBody s_orders_joined) (defScope s_orders_joined) .none kV12 dc12 pm12 an12 cd12 ct12),sl12⟩) (c12:PySem.W.codeIn K cd12 "orders_joined" = true) (k12:PySem.W.keepIn K (.ref f12)=true)
  (a13:PySem.W.nsIn K mainGlobals "_law_at" = some (some (.ref f13))) (l13:K.lookup f13=some ⟨oc13,od13,.func (PySem.W.fnOf "_law_at" "_law_at" (defArgs s_law_at) (defBody s_law_at) (defScope s_law_at) .none kV13 dc13 pm13 an13 cd13 ct13),sl13⟩) (c13:PySem.W.codeIn K cd13 "_law_at" = true) (k13:PySem.W.keepIn K (.ref f13)=true)
  (a14:PySem.W.nsIn K mainGlobals "_law_by" = some (some (.ref f14))) (l14:K.lookup f14=some ⟨oc14,od14,.func (PySem.W.fnOf "_law_by" "_law_by" (defArgs s_law_by) (defBody s_law_by) (defScope s_law_by) .none kV14 dc14 pm14 an14 cd14 ct14),sl14⟩) (c14:PySem.W.codeIn K cd14 "_law_by" = true) (k14:PySem.W.keepIn K (.ref f14)=true)
  (a15:PySem.W.nsIn K mainGlobals "_law_orders" = some (some (.ref f15))) (l15:K.lookup f15=some ⟨oc15,od15,.func (PySem.W.fnOf "_law_orders" "_law_orders" (defArgs s_law_orders) (defBody s_law_orders) (defScope s_law_orders) .none kV15 dc15 pm15 an15 cd15 ct15),sl15⟩) (c15:PySem.W.codeIn K cd15 "_law_orders" = true) (k15:PySem.W.keepIn K (.ref f15)=true)
  (a16:PySem.W.nsIn K mainGlobals "_law_refusal" = some (some (.ref f16))) (l16:K.lookup f16=some ⟨oc16,od16,.func (PySem.W.fnOf "_law_refusal" "_law_refusal" (defArgs s_law_refusal) (defBody s_law_refusal) (defScope s_law_refusal) .none kV16 dc16 pm16 an16 cd16 ct16),sl16⟩) (c16:PySem.W.codeIn K cd16 "_law_refusal" = true) (k16:PySem.W.keepIn K (.ref f16)=true)
  (a17:PySem.W.nsIn K mainGlobals "_law_no_place" = some (some (.ref f17))) (l17:K.lookup f17=some ⟨oc17,od17,.func (PySem.W.fnOf "_law_no_place" "_law_no_place" (defArgs s_law_no_place) (defBody s_law_no_place) (defScope s_law_no_place) .none kV17 dc17 pm17 an17 cd17 ct17),sl17⟩) (c17:PySem.W.codeIn K cd17 "_law_no_place" = true) (k17:PySem.W.keepIn K (.ref f17)=true)
  (a18:PySem.W.nsIn K mainGlobals "_law_due" = some (some (.ref f18))) (l18:K.lookup f18=some ⟨oc18,od18,.func (PySem.W.fnOf "_law_due" "_law_due" (defArgs s_law_due) (defBody s_law_due) (defScope s_law_due) .none kV18 dc18 pm18 an18 cd18 ct18),sl18⟩) (c18:PySem.W.codeIn K cd18 "_law_due" = true) (k18:PySem.W.keepIn K (.ref f18)=true)
  (a19:PySem.W.nsIn K mainGlobals "_law_floors" = some (some (.ref f19))) (l19:K.lookup f19=some ⟨oc19,od19,.func (PySem.W.fnOf "_law_floors" "_law_floors" (defArgs s_law_floors) (defBody s_law_floors) (defScope s_law_floors) .none kV19 dc19 pm19 an19 cd19 ct19),sl19⟩) (c19:PySem.W.codeIn K cd19 "_law_floors" = true) (k19:PySem.W.keepIn K (.ref f19)=true)
  (a20:PySem.W.nsIn K mainGlobals "law" = some (some (.ref f20))) (l20:K.lookup f20=some ⟨oc20,od20,.func (PySem.W.fnOf "law" "law" (defArgs s_law) (defBody s_law) (defScope s_law) .none kV20 dc20 pm20 an20 cd20 ct20),sl20⟩) (c20:PySem.W.codeIn K cd20 "law" = true) (k20:PySem.W.keepIn K (.ref f20)=true)
  {tk_MOST_PLACES:Tok} (y_MOST_PLACES:PySem.W.nsIn K mainGlobals "MOST_PLACES" = some (some (.int 25 tk_MOST_PLACES)))
  {tk_MOST_TIES:Tok} (y_MOST_TIES:PySem.W.nsIn K mainGlobals "MOST_TIES" = some (some (.int 24 tk_MOST_TIES)))
  (z0:PySem.W.nsIn K mainGlobals "ValueError" = some none)
  (z1:PySem.W.nsIn K mainGlobals "abs" = some none)
  (z2:PySem.W.nsIn K mainGlobals "bool" = some none)
  (z3:PySem.W.nsIn K mainGlobals "int" = some none)
  (z4:PySem.W.nsIn K mainGlobals "isinstance" = some none)
  (z5:PySem.W.nsIn K mainGlobals "len" = some none)
  (z6:PySem.W.nsIn K mainGlobals "list" = some none)
  (z7:PySem.W.nsIn K mainGlobals "max" = some none)
  (z8:PySem.W.nsIn K mainGlobals "min" = some none)
  (z9:PySem.W.nsIn K mainGlobals "range" = some none)
  (z10:PySem.W.nsIn K mainGlobals "repr" = some none)
  (z11:PySem.W.nsIn K mainGlobals "tuple" = some none)
  (n_FloorError:PySem.W.nsIn K mainGlobals "FloorError" = some (some (.ref c_FloorError)))
  (e_FloorError:PySem.W.excIn K c_FloorError [.type "ValueError",.type "Exception",.type "BaseException",.type "object"] "ValueError.__new__" = true)
  (n_NoWeb:PySem.W.nsIn K mainGlobals "NoWeb" = some (some (.ref c_NoWeb)))
  (n_NoOrder:PySem.W.nsIn K mainGlobals "NoOrder" = some (some (.ref c_NoOrder)))
  (n_NoNumber:PySem.W.nsIn K mainGlobals "NoNumber" = some (some (.ref c_NoNumber)))
  (n_NoEnd:PySem.W.nsIn K mainGlobals "NoEnd" = some (some (.ref c_NoEnd)))
  (n_NoTie:PySem.W.nsIn K mainGlobals "NoTie" = some (some (.ref c_NoTie)))
  (n_NoPlace:PySem.W.nsIn K mainGlobals "NoPlace" = some (some (.ref c_NoPlace)))
  (e_NoPlace:PySem.W.excIn K c_NoPlace [.type "ValueError",.type "Exception",.type "BaseException",.type "object"] "ValueError.__new__" = true)
  (n_NoTable:PySem.W.nsIn K mainGlobals "NoTable" = some (some (.ref c_NoTable)))
  (n_NoRing:PySem.W.nsIn K mainGlobals "NoRing" = some (some (.ref c_NoRing)))
  (n_NoPaper:PySem.W.nsIn K mainGlobals "NoPaper" = some (some (.ref c_NoPaper)))
  (n_Apart:PySem.W.nsIn K mainGlobals "Apart" = some (some (.ref c_Apart)))
  (n_TooMany:PySem.W.nsIn K mainGlobals "TooMany" = some (some (.ref c_TooMany)))
  (n_TooGreat:PySem.W.nsIn K mainGlobals "TooGreat" = some (some (.ref c_TooGreat)))
  (e_TooGreat:PySem.W.excIn K c_TooGreat [.type "ValueError",.type "Exception",.type "BaseException",.type "object"] "ValueError.__new__" = true)
  (n_NoText:PySem.W.nsIn K mainGlobals "NoText" = some (some (.ref c_NoText)))
  (n_NoName:PySem.W.nsIn K mainGlobals "NoName" = some (some (.ref c_NoName)))
  (n_NoRow:PySem.W.nsIn K mainGlobals "NoRow" = some (some (.ref c_NoRow)))
  (gsx:PySem.W.specialIn K (.builtin "object.__class__") "__get__" = some (some (.builtin "getset_descriptor.__get__")))
  (tkx:PySem.W.takesIn K (.builtin "object.__class__")=some true)
  (ic_NoWeb:PySem.W.isClsIn K c_NoWeb=true)
  (ty_NoWeb:PySem.W.typeIn K (.ref c_NoWeb)=some (.type "type"))
  (ic_NoOrder:PySem.W.isClsIn K c_NoOrder=true)
  (ty_NoOrder:PySem.W.typeIn K (.ref c_NoOrder)=some (.type "type"))
  (ic_NoNumber:PySem.W.isClsIn K c_NoNumber=true)
  (ty_NoNumber:PySem.W.typeIn K (.ref c_NoNumber)=some (.type "type"))
  (ic_NoEnd:PySem.W.isClsIn K c_NoEnd=true)
  (ty_NoEnd:PySem.W.typeIn K (.ref c_NoEnd)=some (.type "type"))
  (ic_NoTie:PySem.W.isClsIn K c_NoTie=true)
  (ty_NoTie:PySem.W.typeIn K (.ref c_NoTie)=some (.type "type"))
  (ic_NoPlace:PySem.W.isClsIn K c_NoPlace=true)
  (ty_NoPlace:PySem.W.typeIn K (.ref c_NoPlace)=some (.type "type"))
  (ic_NoTable:PySem.W.isClsIn K c_NoTable=true)
  (ty_NoTable:PySem.W.typeIn K (.ref c_NoTable)=some (.type "type"))
  (ic_NoRing:PySem.W.isClsIn K c_NoRing=true)
  (ty_NoRing:PySem.W.typeIn K (.ref c_NoRing)=some (.type "type"))
  (ic_NoPaper:PySem.W.isClsIn K c_NoPaper=true)
  (ty_NoPaper:PySem.W.typeIn K (.ref c_NoPaper)=some (.type "type"))
  (ic_Apart:PySem.W.isClsIn K c_Apart=true)
  (ty_Apart:PySem.W.typeIn K (.ref c_Apart)=some (.type "type"))
  (ic_TooMany:PySem.W.isClsIn K c_TooMany=true)
  (ty_TooMany:PySem.W.typeIn K (.ref c_TooMany)=some (.type "type"))
  (ic_TooGreat:PySem.W.isClsIn K c_TooGreat=true)
  (ty_TooGreat:PySem.W.typeIn K (.ref c_TooGreat)=some (.type "type"))
  (ic_NoText:PySem.W.isClsIn K c_NoText=true)
  (ty_NoText:PySem.W.typeIn K (.ref c_NoText)=some (.type "type"))
  (ic_NoName:PySem.W.isClsIn K c_NoName=true)
  (ty_NoName:PySem.W.typeIn K (.ref c_NoName)=some (.type "type"))
  (ic_NoRow:PySem.W.isClsIn K c_NoRow=true)
  (ty_NoRow:PySem.W.typeIn K (.ref c_NoRow)=some (.type "type"))
  (ga_NoPlace:PySem.W.findIn K (.ref c_NoPlace) "__getattribute__" = some (some (.builtin "BaseException.__getattribute__")))
  (gt_NoPlace:PySem.W.findIn K (.ref c_NoPlace) "__getattr__" = some none)
  (ca_NoPlace:PySem.W.findIn K (.ref c_NoPlace) "__class__" = some (some (.builtin "object.__class__")))
  (ob_NoPlace:PySem.W.mroIn K c_NoPlace (.type "object")=some true)
  (be_NoPlace:PySem.W.mroIn K c_NoPlace (.type "BaseException")=some true)
  (ve_NoPlace:PySem.W.subIn K (.ref c_NoPlace) (.type "ValueError")=some true)
  (m_NoPlace:PySem.W.mroIn K c_NoPlace (.ref c_FloorError)=some true)
  (s_NoPlace_NoWeb:PySem.W.subIn K (.ref c_NoPlace) (.ref c_NoWeb)=some false)
  (d_NoPlace_NoWeb:(c_NoPlace == c_NoWeb)=false)
  (s_NoPlace_NoOrder:PySem.W.subIn K (.ref c_NoPlace) (.ref c_NoOrder)=some false)
  (d_NoPlace_NoOrder:(c_NoPlace == c_NoOrder)=false)
  (s_NoPlace_NoNumber:PySem.W.subIn K (.ref c_NoPlace) (.ref c_NoNumber)=some false)
  (d_NoPlace_NoNumber:(c_NoPlace == c_NoNumber)=false)
  (s_NoPlace_NoEnd:PySem.W.subIn K (.ref c_NoPlace) (.ref c_NoEnd)=some false)
  (d_NoPlace_NoEnd:(c_NoPlace == c_NoEnd)=false)
  (s_NoPlace_NoTie:PySem.W.subIn K (.ref c_NoPlace) (.ref c_NoTie)=some false)
  (d_NoPlace_NoTie:(c_NoPlace == c_NoTie)=false)
  (s_NoPlace_NoPlace:PySem.W.subIn K (.ref c_NoPlace) (.ref c_NoPlace)=some true)
  (s_NoPlace_NoTable:PySem.W.subIn K (.ref c_NoPlace) (.ref c_NoTable)=some false)
  (d_NoPlace_NoTable:(c_NoPlace == c_NoTable)=false)
  (s_NoPlace_NoRing:PySem.W.subIn K (.ref c_NoPlace) (.ref c_NoRing)=some false)
  (d_NoPlace_NoRing:(c_NoPlace == c_NoRing)=false)
  (s_NoPlace_NoPaper:PySem.W.subIn K (.ref c_NoPlace) (.ref c_NoPaper)=some false)
  (d_NoPlace_NoPaper:(c_NoPlace == c_NoPaper)=false)
  (s_NoPlace_Apart:PySem.W.subIn K (.ref c_NoPlace) (.ref c_Apart)=some false)
  (d_NoPlace_Apart:(c_NoPlace == c_Apart)=false)
  (s_NoPlace_TooMany:PySem.W.subIn K (.ref c_NoPlace) (.ref c_TooMany)=some false)
  (d_NoPlace_TooMany:(c_NoPlace == c_TooMany)=false)
  (s_NoPlace_TooGreat:PySem.W.subIn K (.ref c_NoPlace) (.ref c_TooGreat)=some false)
  (d_NoPlace_TooGreat:(c_NoPlace == c_TooGreat)=false)
  (s_NoPlace_NoText:PySem.W.subIn K (.ref c_NoPlace) (.ref c_NoText)=some false)
  (d_NoPlace_NoText:(c_NoPlace == c_NoText)=false)
  (s_NoPlace_NoName:PySem.W.subIn K (.ref c_NoPlace) (.ref c_NoName)=some false)
  (d_NoPlace_NoName:(c_NoPlace == c_NoName)=false)
  (s_NoPlace_NoRow:PySem.W.subIn K (.ref c_NoPlace) (.ref c_NoRow)=some false)
  (d_NoPlace_NoRow:(c_NoPlace == c_NoRow)=false)
  (ga_TooGreat:PySem.W.findIn K (.ref c_TooGreat) "__getattribute__" = some (some (.builtin "BaseException.__getattribute__")))
  (gt_TooGreat:PySem.W.findIn K (.ref c_TooGreat) "__getattr__" = some none)
  (ca_TooGreat:PySem.W.findIn K (.ref c_TooGreat) "__class__" = some (some (.builtin "object.__class__")))
  (ob_TooGreat:PySem.W.mroIn K c_TooGreat (.type "object")=some true)
  (be_TooGreat:PySem.W.mroIn K c_TooGreat (.type "BaseException")=some true)
  (ve_TooGreat:PySem.W.subIn K (.ref c_TooGreat) (.type "ValueError")=some true)
  (m_TooGreat:PySem.W.mroIn K c_TooGreat (.ref c_FloorError)=some true)
  (s_TooGreat_NoWeb:PySem.W.subIn K (.ref c_TooGreat) (.ref c_NoWeb)=some false)
  (d_TooGreat_NoWeb:(c_TooGreat == c_NoWeb)=false)
  (s_TooGreat_NoOrder:PySem.W.subIn K (.ref c_TooGreat) (.ref c_NoOrder)=some false)
  (d_TooGreat_NoOrder:(c_TooGreat == c_NoOrder)=false)
  (s_TooGreat_NoNumber:PySem.W.subIn K (.ref c_TooGreat) (.ref c_NoNumber)=some false)
  (d_TooGreat_NoNumber:(c_TooGreat == c_NoNumber)=false)
  (s_TooGreat_NoEnd:PySem.W.subIn K (.ref c_TooGreat) (.ref c_NoEnd)=some false)
  (d_TooGreat_NoEnd:(c_TooGreat == c_NoEnd)=false)
  (s_TooGreat_NoTie:PySem.W.subIn K (.ref c_TooGreat) (.ref c_NoTie)=some false)
  (d_TooGreat_NoTie:(c_TooGreat == c_NoTie)=false)
  (s_TooGreat_NoPlace:PySem.W.subIn K (.ref c_TooGreat) (.ref c_NoPlace)=some false)
  (d_TooGreat_NoPlace:(c_TooGreat == c_NoPlace)=false)
  (s_TooGreat_NoTable:PySem.W.subIn K (.ref c_TooGreat) (.ref c_NoTable)=some false)
  (d_TooGreat_NoTable:(c_TooGreat == c_NoTable)=false)
  (s_TooGreat_NoRing:PySem.W.subIn K (.ref c_TooGreat) (.ref c_NoRing)=some false)
  (d_TooGreat_NoRing:(c_TooGreat == c_NoRing)=false)
  (s_TooGreat_NoPaper:PySem.W.subIn K (.ref c_TooGreat) (.ref c_NoPaper)=some false)
  (d_TooGreat_NoPaper:(c_TooGreat == c_NoPaper)=false)
  (s_TooGreat_Apart:PySem.W.subIn K (.ref c_TooGreat) (.ref c_Apart)=some false)
  (d_TooGreat_Apart:(c_TooGreat == c_Apart)=false)
  (s_TooGreat_TooMany:PySem.W.subIn K (.ref c_TooGreat) (.ref c_TooMany)=some false)
  (d_TooGreat_TooMany:(c_TooGreat == c_TooMany)=false)
  (s_TooGreat_TooGreat:PySem.W.subIn K (.ref c_TooGreat) (.ref c_TooGreat)=some true)
  (s_TooGreat_NoText:PySem.W.subIn K (.ref c_TooGreat) (.ref c_NoText)=some false)
  (d_TooGreat_NoText:(c_TooGreat == c_NoText)=false)
  (s_TooGreat_NoName:PySem.W.subIn K (.ref c_TooGreat) (.ref c_NoName)=some false)
  (d_TooGreat_NoName:(c_TooGreat == c_NoName)=false)
  (s_TooGreat_NoRow:PySem.W.subIn K (.ref c_TooGreat) (.ref c_NoRow)=some false)
  (d_TooGreat_NoRow:(c_TooGreat == c_NoRow)=false) :
  ∃ fd:FuncData,(∀ (s:Shared) (v:Value),BindsTo s fd ⟨[v],[]⟩ [("_law_script",v)])/\∀ base:Heap,K.In base->base.Ns mainGlobals mg->FnOk l.prog w K mg base CX0 8 fa fd ["_law_script"] (spD K fLaw):=by
 have e:=hfa.symm.trans (PySem.W.mg_of X G a20)
 cases e
 have mb:Mb mg:=by
  intro x hx
  simp only [Wa5,List.not_mem_nil,or_false] at hx
  rcases hx with rfl | rfl | rfl | rfl | rfl | rfl | rfl | rfl | rfl | rfl | rfl | rfl
  ·exact PySem.W.mg_none_of X G z0
  ·exact PySem.W.mg_none_of X G z1
  ·exact PySem.W.mg_none_of X G z2
  ·exact PySem.W.mg_none_of X G z3
  ·exact PySem.W.mg_none_of X G z4
  ·exact PySem.W.mg_none_of X G z5
  ·exact PySem.W.mg_none_of X G z6
  ·exact PySem.W.mg_none_of X G z7
  ·exact PySem.W.mg_none_of X G z8
  ·exact PySem.W.mg_none_of X G z9
  ·exact PySem.W.mg_none_of X G z10
  ·exact PySem.W.mg_none_of X G z11
 have F1:=Zbe (st:=s_law_draw) l1 c1 k1
 have F2:=Zbe (st:=s_law_pen) l2 c2 k2
 have F3:=Zbe (st:=s_law_web) l3 c3 k3
 have F4:=Zbe (st:=s_law_order) l4 c4 k4
 have F5:=Zbe (st:=s_is_whole) l5 c5 k5
 have F6:=Zbe (st:=s_is_place) l6 c6 k6
 have F7:=Zbe (st:=s_refuse_no_places) l7 c7 k7
 have F8:=Zbe (st:=s_ties_moved) l8 c8 k8
 have F9:=Zbe (st:=s_web_within) l9 c9 k9
 have F10:=Zbe (st:=s_joined_at) l10 c10 k10
 have F11:=Zbe (st:=s_joined_by) l11 c11 k11
 have F12:=Zbe (st:=s_orders_joined) l12 c12 k12
 have F13:=Zbe (st:=s_law_at) l13 c13 k13
 have F14:=Zbe (st:=s_law_by) l14 c14 k14
 have F15:=Zbe (st:=s_law_orders) l15 c15 k15
 have F16:=Zbe (st:=s_law_refusal) l16 c16 k16
 have F17:=Zbe (st:=s_law_no_place) l17 c17 k17
 have F18:=Zbe (st:=s_law_due) l18 c18 k18
 have F19:=Zbe (st:=s_law_floors) l19 c19 k19
 have F20:=Zbe (st:=s_law) l20 c20 k20
 have b1:=F1.binds (ps:=["_law_pen_here","_law_many"]) fun _ _ _ _ _ _ us hl=>by obtain ⟨a0,a1,rfl⟩:=lenK2 hl; rfl
 have b2:=F2.binds (ps:=["_law_script"]) fun _ _ _ _ _ _ us hl=>by obtain ⟨a0,rfl⟩:=lenK1 hl; rfl
 have b3:=F3.binds (ps:=["_law_pen_here","_law_places","_law_ties"]) fun _ _ _ _ _ _ us hl=>by obtain ⟨a0,a1,a2,rfl⟩:=lenK3 hl; rfl
 have b4:=F4.binds (ps:=["_law_pen_here","_law_web_here"]) fun _ _ _ _ _ _ us hl=>by obtain ⟨a0,a1,rfl⟩:=lenK2 hl; rfl
 have b5:=F5.binds (ps:=["thing"]) fun _ _ _ _ _ _ us hl=>by obtain ⟨a0,rfl⟩:=lenK1 hl; rfl
 have b6:=F6.binds (ps:=["web","place"]) fun _ _ _ _ _ _ us hl=>by obtain ⟨a0,a1,rfl⟩:=lenK2 hl; rfl
 have b7:=F7.binds (ps:=["one","place","other","its"]) fun _ _ _ _ _ _ us hl=>by obtain ⟨a0,a1,a2,a3,rfl⟩:=lenK4 hl; rfl
 have b8:=F8.binds (ps:=["web","numbers"]) fun _ _ _ _ _ _ us hl=>by obtain ⟨a0,a1,rfl⟩:=lenK2 hl; rfl
 have b9:=F9.binds (ps:=["many","ties"]) fun _ _ _ _ _ _ us hl=>by obtain ⟨a0,a1,rfl⟩:=lenK2 hl; rfl
 have b10:=F10.binds (ps:=["one","place","other","its"]) fun _ _ _ _ _ _ us hl=>by obtain ⟨a0,a1,a2,a3,rfl⟩:=lenK4 hl; rfl
 have b11:=F11.binds (ps:=["one","place","other","its"]) fun _ _ _ _ _ _ us hl=>by obtain ⟨a0,a1,a2,a3,rfl⟩:=lenK4 hl; rfl
 have b12:=F12.binds (ps:=["one","order","place","other","its_order","its"]) fun _ _ _ _ _ _ us hl=>by obtain ⟨a0,a1,a2,a3,a4,a5,rfl⟩:=lenK6 hl; rfl
 have b13:=F13.binds (ps:=["_law_asked"]) fun _ _ _ _ _ _ us hl=>by obtain ⟨a0,rfl⟩:=lenK1 hl; rfl
 have b14:=F14.binds (ps:=["_law_asked"]) fun _ _ _ _ _ _ us hl=>by obtain ⟨a0,rfl⟩:=lenK1 hl; rfl
 have b15:=F15.binds (ps:=["_law_asked"]) fun _ _ _ _ _ _ us hl=>by obtain ⟨a0,rfl⟩:=lenK1 hl; rfl
 have b16:=F16.binds (ps:=["_law_call","_law_things"]) fun _ _ _ _ _ _ us hl=>by obtain ⟨a0,a1,rfl⟩:=lenK2 hl; rfl
 have b17:=F17.binds (ps:=["_law_pen_here","_law_web_here"]) fun _ _ _ _ _ _ us hl=>by obtain ⟨a0,a1,rfl⟩:=lenK2 hl; rfl
 have b18:=F18.binds (ps:=["_law_one","_law_other","_law_shared"]) fun _ _ _ _ _ _ us hl=>by obtain ⟨a0,a1,a2,rfl⟩:=lenK3 hl; rfl
 have b19:=F19.binds (ps:=["_law_pen_here"]) fun _ _ _ _ _ _ us hl=>by obtain ⟨a0,rfl⟩:=lenK1 hl; rfl
 refine ⟨PySem.W.fnOf "law" "law" (defArgs s_law) (defBody s_law) (defScope s_law) .none kV20 dc20 pm20 an20 cd20 ct20,fun s v=>.of_eq rfl,fun base _ _=>?_⟩
 have cl:Cl K mg c_FloorError c_NoWeb c_NoOrder c_NoNumber c_NoEnd c_NoTie c_NoPlace c_NoTable c_NoRing c_NoPaper c_Apart c_TooMany c_TooGreat c_NoText c_NoName c_NoRow:=⟨PySem.W.mg_of X G n_FloorError,e_FloorError,PySem.W.mg_of X G n_NoWeb,PySem.W.mg_of X G n_NoOrder,PySem.W.mg_of X G n_NoNumber,PySem.W.mg_of X G n_NoEnd,PySem.W.mg_of X G n_NoTie,PySem.W.mg_of X G n_NoPlace,e_NoPlace,PySem.W.mg_of X G n_NoTable,PySem.W.mg_of X G n_NoRing,PySem.W.mg_of X G n_NoPaper,PySem.W.mg_of X G n_Apart,PySem.W.mg_of X G n_TooMany,PySem.W.mg_of X G n_TooGreat,e_TooGreat,PySem.W.mg_of X G n_NoText,PySem.W.mg_of X G n_NoName,PySem.W.mg_of X G n_NoRow,⟨e_NoPlace,ga_NoPlace,gt_NoPlace,ca_NoPlace,gsx,tkx,ob_NoPlace,be_NoPlace⟩,m_NoPlace,Zhy (by decide +kernel) ve_NoPlace,Zav ic_NoWeb ty_NoWeb s_NoPlace_NoWeb fun z=>(by rw [d_NoPlace_NoWeb] at z; exact z),Zav ic_NoOrder ty_NoOrder s_NoPlace_NoOrder fun z=>(by rw [d_NoPlace_NoOrder] at z; exact z),Zav ic_NoNumber ty_NoNumber s_NoPlace_NoNumber fun z=>(by rw [d_NoPlace_NoNumber] at z; exact z),Zav ic_NoEnd ty_NoEnd s_NoPlace_NoEnd fun z=>(by rw [d_NoPlace_NoEnd] at z; exact z),Zav ic_NoTie ty_NoTie s_NoPlace_NoTie fun z=>(by rw [d_NoPlace_NoTie] at z; exact z),Zav ic_NoPlace ty_NoPlace s_NoPlace_NoPlace fun _=>rfl,Zav ic_NoTable ty_NoTable s_NoPlace_NoTable fun z=>(by rw [d_NoPlace_NoTable] at z; exact z),Zav ic_NoRing ty_NoRing s_NoPlace_NoRing fun z=>(by rw [d_NoPlace_NoRing] at z; exact z),Zav ic_NoPaper ty_NoPaper s_NoPlace_NoPaper fun z=>(by rw [d_NoPlace_NoPaper] at z; exact z),Zav ic_Apart ty_Apart s_NoPlace_Apart fun z=>(by rw [d_NoPlace_Apart] at z; exact z),Zav ic_TooMany ty_TooMany s_NoPlace_TooMany fun z=>(by rw [d_NoPlace_TooMany] at z; exact z),Zav ic_TooGreat ty_TooGreat s_NoPlace_TooGreat fun z=>(by rw [d_NoPlace_TooGreat] at z; exact z),Zav ic_NoText ty_NoText s_NoPlace_NoText fun z=>(by rw [d_NoPlace_NoText] at z; exact z),Zav ic_NoName ty_NoName s_NoPlace_NoName fun z=>(by rw [d_NoPlace_NoName] at z; exact z),Zav ic_NoRow ty_NoRow s_NoPlace_NoRow fun z=>(by rw [d_NoPlace_NoRow] at z; exact z),⟨e_TooGreat,ga_TooGreat,gt_TooGreat,ca_TooGreat,gsx,tkx,ob_TooGreat,be_TooGreat⟩,m_TooGreat,Zhy (by decide +kernel) ve_TooGreat,Zav ic_NoWeb ty_NoWeb s_TooGreat_NoWeb fun z=>(by rw [d_TooGreat_NoWeb] at z; exact z),Zav ic_NoOrder ty_NoOrder s_TooGreat_NoOrder fun z=>(by rw [d_TooGreat_NoOrder] at z; exact z),Zav ic_NoNumber ty_NoNumber s_TooGreat_NoNumber fun z=>(by rw [d_TooGreat_NoNumber] at z; exact z),Zav ic_NoEnd ty_NoEnd s_TooGreat_NoEnd fun z=>(by rw [d_TooGreat_NoEnd] at z; exact z),Zav ic_NoTie ty_NoTie s_TooGreat_NoTie fun z=>(by rw [d_TooGreat_NoTie] at z; exact z),Zav ic_NoPlace ty_NoPlace s_TooGreat_NoPlace fun z=>(by rw [d_TooGreat_NoPlace] at z; exact z),Zav ic_NoTable ty_NoTable s_TooGreat_NoTable fun z=>(by rw [d_TooGreat_NoTable] at z; exact z),Zav ic_NoRing ty_NoRing s_TooGreat_NoRing fun z=>(by rw [d_TooGreat_NoRing] at z; exact z),Zav ic_NoPaper ty_NoPaper s_TooGreat_NoPaper fun z=>(by rw [d_TooGreat_NoPaper] at z; exact z),Zav ic_Apart ty_Apart s_TooGreat_Apart fun z=>(by rw [d_TooGreat_Apart] at z; exact z),Zav ic_TooMany ty_TooMany s_TooGreat_TooMany fun z=>(by rw [d_TooGreat_TooMany] at z; exact z),Zav ic_TooGreat ty_TooGreat s_TooGreat_TooGreat fun _=>rfl,Zav ic_NoText ty_NoText s_TooGreat_NoText fun z=>(by rw [d_TooGreat_NoText] at z; exact z),Zav ic_NoName ty_NoName s_TooGreat_NoName fun z=>(by rw [d_TooGreat_NoName] at z; exact z),Zav ic_NoRow ty_NoRow s_TooGreat_NoRow fun z=>(by rw [d_TooGreat_NoRow] at z; exact z)⟩
 have C1:Callee l.prog w K mg base 1 "_law_draw" ["_law_pen_here","_law_many"] (spB K fDraw):=⟨⟨_,_,Zmn mb  F1,b1,k1,PySem.W.mg_of X G a1⟩⟩
 have C2:Callee l.prog w K mg base 1 "_law_pen" ["_law_script"] (spN K fPen):=⟨⟨_,_,Zom mb  F2,b2,k2,PySem.W.mg_of X G a2⟩⟩
 have C3:Callee l.prog w K mg base 2 "_law_web" ["_law_pen_here","_law_places","_law_ties"] (spB K fWeb):=⟨⟨_,_,Zod mb C1 F3,b3,k3,PySem.W.mg_of X G a3⟩⟩
 have C4:Callee l.prog w K mg base 2 "_law_order" ["_law_pen_here","_law_web_here"] (spB K fOrder):=⟨⟨_,_,Zj6 mb C1 F4,b4,k4,PySem.W.mg_of X G a4⟩⟩
 have C5:Callee l.prog w K mg base 1 "is_whole" ["thing"] (spD K fIsWX):=⟨⟨_,_,Zk8 mb  F5,b5,k5,PySem.W.mg_of X G a5⟩⟩
 have C6:Callee l.prog w K mg base 2 "is_place" ["web","place"] (spD K fIsPlX):=⟨⟨_,_,Zjx mb C5 F6,b6,k6,PySem.W.mg_of X G a6⟩⟩
 have C7:CalleeX l.prog w K mg base 3 "refuse_no_places" ["one","place","other","its"] (spX K (fRNPX c_NoPlace)):=⟨⟨_,_,Zms mb cl C6 F7,b7,k7,PySem.W.mg_of X G a7⟩⟩
 have C8:Callee l.prog w K mg base 1 "ties_moved" ["web","numbers"] (spD K fTM):=⟨⟨_,_,Zop mb  F8,b8,k8,PySem.W.mg_of X G a8⟩⟩
 have C9:CalleeX l.prog w K mg base 1 "web_within" ["many","ties"] (spX K (fWWX c_TooGreat)):=⟨⟨_,_,Znx mb cl (PySem.W.mg_of X G y_MOST_PLACES) (PySem.W.mg_of X G y_MOST_TIES) F9,b9,k9,PySem.W.mg_of X G a9⟩⟩
 have C10:CalleeX l.prog w K mg base 4 "joined_at" ["one","place","other","its"] (spX K (fJX 0 c_NoPlace c_TooGreat)):=⟨⟨_,_,Zlj mb C7 C8 C9 F10,b10,k10,PySem.W.mg_of X G a10⟩⟩
 have C11:CalleeX l.prog w K mg base 4 "joined_by" ["one","place","other","its"] (spX K (fJX 1 c_NoPlace c_TooGreat)):=⟨⟨_,_,Zlo mb C7 C8 C9 F11,b11,k11,PySem.W.mg_of X G a11⟩⟩
 have C12:CalleeX l.prog w K mg base 5 "orders_joined" ["one","order","place","other","its_order","its"] (spX K (fOJX c_NoPlace c_TooGreat)):=⟨⟨_,_,Znb mb C10 F12,b12,k12,PySem.W.mg_of X G a12⟩⟩
 have C13:CalleeX l.prog w K mg base 6 "_law_at" ["_law_asked"] (spX K (fAskJ 0 c_NoPlace c_TooGreat)):=⟨⟨_,_,ok_law_at mb C10 F13,b13,k13,PySem.W.mg_of X G a13⟩⟩
 have C14:CalleeX l.prog w K mg base 6 "_law_by" ["_law_asked"] (spX K (fAskJ 1 c_NoPlace c_TooGreat)):=⟨⟨_,_,ok_law_by mb C11 F14,b14,k14,PySem.W.mg_of X G a14⟩⟩
 have C15:CalleeX l.prog w K mg base 6 "_law_orders" ["_law_asked"] (spX K (fAskJ 0 c_NoPlace c_TooGreat)):=⟨⟨_,_,ok_law_orders mb C12 F15,b15,k15,PySem.W.mg_of X G a15⟩⟩
 have C16:Callee l.prog w K mg base 7 "_law_refusal" ["_law_call","_law_things"] (spD K (fRefG l.prog w K mg base 6 (two c_NoPlace 5 c_TooGreat 11))):=⟨⟨_,_,Zla mb cl F16,b16,k16,PySem.W.mg_of X G a16⟩⟩
 have C17:Callee l.prog w K mg base 2 "_law_no_place" ["_law_pen_here","_law_web_here"] (spB K fNoP):=⟨⟨_,_,Zg3 mb C1 F17,b17,k17,PySem.W.mg_of X G a17⟩⟩
 have C18:Callee l.prog w K mg base 1 "_law_due" ["_law_one","_law_other","_law_shared"] (spD K fDue):=⟨⟨_,_,Zn1 mb  F18,b18,k18,PySem.W.mg_of X G a18⟩⟩
 have C19:Callee l.prog w K mg base 3 "_law_floors" ["_law_pen_here"] (spB K fFloors):=⟨⟨_,_,Zii mb C1 C3 C4 F19,b19,k19,PySem.W.mg_of X G a19⟩⟩
 exact ok_law mb C2 C1 C19 C17 C18 C16 C13 C14 C15 F20
end Lw
open PySem PySem.W PyProof.Rows
theorem PySem.W.Fast.te5014789257956372029:True:=trivial
def PySem.W.Fast.tw16256758892568789114:PySem.Program:=PySem.Challenge.pw_holefloor_k73_no_joining
theorem PySem.W.Fast.te16256758892568789114:PySem.Challenge.pw_holefloor_k73_no_joining=PySem.W.Fast.tw16256758892568789114:=rfl
def PySem.W.Fast.tw17751043602481502411:Unit:=()
def PySem.W.Fast.tw4271916501232276161:Unit:=()
def PySem.W.Fast.tw18319603148001070326:Unit:=()
def PySem.W.Fast.tw5430013749162810341:Unit:=()
def PySem.W.Fast.tw11263042875165721496:Unit:=()
def PySem.W.Fast.tw12072718491990010102:Unit:=()
def PySem.W.Fast.tw11193961261650044782:Unit:=()
def PySem.W.Fast.tw5839662058568593970:Unit:=()
def PySem.W.Fast.tw11944088137403674996:Unit:=()
def PySem.W.Fast.tw7326029818888484223:Unit:=()
def PySem.W.Fast.tw39661465817753165:Unit:=()
def PySem.W.Fast.tw229596347516022199:Unit:=()
def PySem.W.Fast.tw3516118131915772830:Unit:=()
def PySem.W.Fast.tw11707716518407787239:Unit:=()
def PySem.W.Fast.tw236960879233185179:Unit:=()
def PySem.W.Fast.tw13217716443161057689:Unit:=()
def PySem.W.Fast.tw1196472931550260203:Unit:=()
def PySem.W.Fast.tw13014881329199712797:Unit:=()
def PySem.W.Fast.tw5114761698342415350:Unit:=()
def PySem.W.Fast.tw17114781858244489118:Unit:=()
def PySem.W.Fast.tw12268130219222811993:Unit:=()
def PySem.W.Fast.tw16907762172803496092:Unit:=()
def PySem.W.Fast.tw7504864660499512023:Unit:=()
def PySem.W.Fast.tw7321210184284018459:Unit:=()
def PySem.W.Fast.tw11542747792909949288:Unit:=()
def PySem.W.Fast.tw12829597815240182831:Unit:=()
def PySem.W.Fast.tw13251356585980026725:Unit:=()
def PySem.W.Fast.tw7132270510024834619:Unit:=()
set_option maxRecDepth 100000 in
set_option maxHeartbeats 0 in
theorem PySem.Challenge.cw_holefloor_k73_no_joining_holds : PySem.Challenge.rw_holefloor_k73_no_joining.Holds := by
 w_on; o_law; k_head; (case hw=>w_witness2)
 k_fill
 refine L2.walk_law (k:=8) (x:="_law_script") (l:=PySem.Challenge.rw_holefloor_k73_no_joining) ⟨rfl,by decide,by decide,rfl⟩ rfl rfl (fun w h Y=>PySem.W.kIn_of Y) ?F
 case F=>
  intro w mg fa h KX G hmg
  refine' Lw.all_mk KX G hmg ?a1 ?l1 ?c1 ?k1 ?a2 ?l2 ?c2 ?k2 ?a3 ?l3 ?c3 ?k3 ?a4 ?l4 ?c4 ?k4 ?a5 ?l5 ?c5 ?k5 ?a6 ?l6 ?c6 ?k6 ?a7 ?l7 ?c7 ?k7 ?a8 ?l8 ?c8 ?k8 ?a9 ?l9 ?c9 ?k9 ?a10 ?l10 ?c10 ?k10 ?a11 ?l11 ?c11 ?k11 ?a12 ?l12 ?c12 ?k12 ?a13 ?l13 ?c13 ?k13 ?a14 ?l14 ?c14 ?k14 ?a15 ?l15 ?c15 ?k15 ?a16 ?l16 ?c16 ?k16 ?a17 ?l17 ?c17 ?k17 ?a18 ?l18 ?c18 ?k18 ?a19 ?l19 ?c19 ?k19 ?a20 ?l20 ?c20 ?k20 ?y_MOST_PLACES ?y_MOST_TIES ?z0 ?z1 ?z2 ?z3 ?z4 ?z5 ?z6 ?z7 ?z8 ?z9 ?z10 ?z11 ?n_FloorError ?e_FloorError ?n_NoWeb ?n_NoOrder ?n_NoNumber ?n_NoEnd ?n_NoTie ?n_NoPlace ?e_NoPlace ?n_NoTable ?n_NoRing ?n_NoPaper ?n_Apart ?n_TooMany ?n_TooGreat ?e_TooGreat ?n_NoText ?n_NoName ?n_NoRow ?gsx ?tkx ?ic_NoWeb ?ty_NoWeb ?ic_NoOrder ?ty_NoOrder ?ic_NoNumber ?ty_NoNumber ?ic_NoEnd ?ty_NoEnd ?ic_NoTie ?ty_NoTie ?ic_NoPlace ?ty_NoPlace ?ic_NoTable ?ty_NoTable ?ic_NoRing ?ty_NoRing ?ic_NoPaper ?ty_NoPaper ?ic_Apart ?ty_Apart ?ic_TooMany ?ty_TooMany ?ic_TooGreat ?ty_TooGreat ?ic_NoText ?ty_NoText ?ic_NoName ?ty_NoName ?ic_NoRow ?ty_NoRow ?ga_NoPlace ?gt_NoPlace ?ca_NoPlace ?ob_NoPlace ?be_NoPlace ?ve_NoPlace ?m_NoPlace ?s_NoPlace_NoWeb ?d_NoPlace_NoWeb ?s_NoPlace_NoOrder ?d_NoPlace_NoOrder ?s_NoPlace_NoNumber ?d_NoPlace_NoNumber ?s_NoPlace_NoEnd ?d_NoPlace_NoEnd ?s_NoPlace_NoTie ?d_NoPlace_NoTie ?s_NoPlace_NoPlace ?s_NoPlace_NoTable ?d_NoPlace_NoTable ?s_NoPlace_NoRing ?d_NoPlace_NoRing ?s_NoPlace_NoPaper ?d_NoPlace_NoPaper ?s_NoPlace_Apart ?d_NoPlace_Apart ?s_NoPlace_TooMany ?d_NoPlace_TooMany ?s_NoPlace_TooGreat ?d_NoPlace_TooGreat ?s_NoPlace_NoText ?d_NoPlace_NoText ?s_NoPlace_NoName ?d_NoPlace_NoName ?s_NoPlace_NoRow ?d_NoPlace_NoRow ?ga_TooGreat ?gt_TooGreat ?ca_TooGreat ?ob_TooGreat ?be_TooGreat ?ve_TooGreat ?m_TooGreat ?s_TooGreat_NoWeb ?d_TooGreat_NoWeb ?s_TooGreat_NoOrder ?d_TooGreat_NoOrder ?s_TooGreat_NoNumber ?d_TooGreat_NoNumber ?s_TooGreat_NoEnd ?d_TooGreat_NoEnd ?s_TooGreat_NoTie ?d_TooGreat_NoTie ?s_TooGreat_NoPlace ?d_TooGreat_NoPlace ?s_TooGreat_NoTable ?d_TooGreat_NoTable ?s_TooGreat_NoRing ?d_TooGreat_NoRing ?s_TooGreat_NoPaper ?d_TooGreat_NoPaper ?s_TooGreat_Apart ?d_TooGreat_Apart ?s_TooGreat_TooMany ?d_TooGreat_TooMany ?s_TooGreat_TooGreat ?s_TooGreat_NoText ?d_TooGreat_NoText ?s_TooGreat_NoName ?d_TooGreat_NoName ?s_TooGreat_NoRow ?d_TooGreat_NoRow
  (case a1=>k_is)
  (case l1=>k_is)
  (case c1=>k_is)
  (case k1=>k_is)
  (case a2=>k_is)
  (case l2=>k_is)
  (case c2=>k_is)
  (case k2=>k_is)
  (case a3=>k_is)
  (case l3=>k_is)
  (case c3=>k_is)
  (case k3=>k_is)
  (case a4=>k_is)
  (case l4=>k_is)
  (case c4=>k_is)
  (case k4=>k_is)
  (case a5=>k_is)
  (case l5=>k_is)
  (case c5=>k_is)
  (case k5=>k_is)
  (case a6=>k_is)
  (case l6=>k_is)
  (case c6=>k_is)
  (case k6=>k_is)
  (case a7=>k_is)
  (case l7=>k_is)
  (case c7=>k_is)
  (case k7=>k_is)
  (case a8=>k_is)
  (case l8=>k_is)
  (case c8=>k_is)
  (case k8=>k_is)
  (case a9=>k_is)
  (case l9=>k_is)
  (case c9=>k_is)
  (case k9=>k_is)
  (case a10=>k_is)
  (case l10=>k_is)
  (case c10=>k_is)
  (case k10=>k_is)
  (case a11=>k_is)
  (case l11=>k_is)
  (case c11=>k_is)
  (case k11=>k_is)
  (case a12=>k_is)
  (case l12=>k_is)
  (case c12=>k_is)
  (case k12=>k_is)
  (case a13=>k_is)
  (case l13=>k_is)
  (case c13=>k_is)
  (case k13=>k_is)
  (case a14=>k_is)
  (case l14=>k_is)
  (case c14=>k_is)
  (case k14=>k_is)
  (case a15=>k_is)
  (case l15=>k_is)
  (case c15=>k_is)
  (case k15=>k_is)
  (case a16=>k_is)
  (case l16=>k_is)
  (case c16=>k_is)
  (case k16=>k_is)
  (case a17=>k_is)
  (case l17=>k_is)
  (case c17=>k_is)
  (case k17=>k_is)
  (case a18=>k_is)
  (case l18=>k_is)
  (case c18=>k_is)
  (case k18=>k_is)
  (case a19=>k_is)
  (case l19=>k_is)
  (case c19=>k_is)
  (case k19=>k_is)
  (case a20=>k_is)
  (case l20=>k_is)
  (case c20=>k_is)
  (case k20=>k_is)
  (case y_MOST_PLACES=>k_is)
  (case y_MOST_TIES=>k_is)
  (case z0=>k_is)
  (case z1=>k_is)
  (case z2=>k_is)
  (case z3=>k_is)
  (case z4=>k_is)
  (case z5=>k_is)
  (case z6=>k_is)
  (case z7=>k_is)
  (case z8=>k_is)
  (case z9=>k_is)
  (case z10=>k_is)
  (case z11=>k_is)
  (case n_FloorError=>k_is)
  (case e_FloorError=>k_exc)
  (case n_NoWeb=>k_is)
  (case n_NoOrder=>k_is)
  (case n_NoNumber=>k_is)
  (case n_NoEnd=>k_is)
  (case n_NoTie=>k_is)
  (case n_NoPlace=>k_is)
  (case e_NoPlace=>k_exc)
  (case n_NoTable=>k_is)
  (case n_NoRing=>k_is)
  (case n_NoPaper=>k_is)
  (case n_Apart=>k_is)
  (case n_TooMany=>k_is)
  (case n_TooGreat=>k_is)
  (case e_TooGreat=>k_exc)
  (case n_NoText=>k_is)
  (case n_NoName=>k_is)
  (case n_NoRow=>k_is)
  (case gsx=>k_is)
  (case tkx=>k_is)
  (case ic_NoWeb=>k_is)
  (case ty_NoWeb=>k_is)
  (case ic_NoOrder=>k_is)
  (case ty_NoOrder=>k_is)
  (case ic_NoNumber=>k_is)
  (case ty_NoNumber=>k_is)
  (case ic_NoEnd=>k_is)
  (case ty_NoEnd=>k_is)
  (case ic_NoTie=>k_is)
  (case ty_NoTie=>k_is)
  (case ic_NoPlace=>k_is)
  (case ty_NoPlace=>k_is)
  (case ic_NoTable=>k_is)
  (case ty_NoTable=>k_is)
  (case ic_NoRing=>k_is)
  (case ty_NoRing=>k_is)
  (case ic_NoPaper=>k_is)
  (case ty_NoPaper=>k_is)
  (case ic_Apart=>k_is)
  (case ty_Apart=>k_is)
  (case ic_TooMany=>k_is)
  (case ty_TooMany=>k_is)
  (case ic_TooGreat=>k_is)
  (case ty_TooGreat=>k_is)
  (case ic_NoText=>k_is)
  (case ty_NoText=>k_is)
  (case ic_NoName=>k_is)
  (case ty_NoName=>k_is)
  (case ic_NoRow=>k_is)
  (case ty_NoRow=>k_is)
  (case ga_NoPlace=>k_is)
  (case gt_NoPlace=>k_is)
  (case ca_NoPlace=>k_is)
  (case ob_NoPlace=>k_is)
  (case be_NoPlace=>k_is)
  (case ve_NoPlace=>k_is)
  (case m_NoPlace=>k_is)
  (case s_NoPlace_NoWeb=>k_is)
  (case d_NoPlace_NoWeb=>rfl)
  (case s_NoPlace_NoOrder=>k_is)
  (case d_NoPlace_NoOrder=>rfl)
  (case s_NoPlace_NoNumber=>k_is)
  (case d_NoPlace_NoNumber=>rfl)
  (case s_NoPlace_NoEnd=>k_is)
  (case d_NoPlace_NoEnd=>rfl)
  (case s_NoPlace_NoTie=>k_is)
  (case d_NoPlace_NoTie=>rfl)
  (case s_NoPlace_NoPlace=>k_is)
  (case s_NoPlace_NoTable=>k_is)
  (case d_NoPlace_NoTable=>rfl)
  (case s_NoPlace_NoRing=>k_is)
  (case d_NoPlace_NoRing=>rfl)
  (case s_NoPlace_NoPaper=>k_is)
  (case d_NoPlace_NoPaper=>rfl)
  (case s_NoPlace_Apart=>k_is)
  (case d_NoPlace_Apart=>rfl)
  (case s_NoPlace_TooMany=>k_is)
  (case d_NoPlace_TooMany=>rfl)
  (case s_NoPlace_TooGreat=>k_is)
  (case d_NoPlace_TooGreat=>rfl)
  (case s_NoPlace_NoText=>k_is)
  (case d_NoPlace_NoText=>rfl)
  (case s_NoPlace_NoName=>k_is)
  (case d_NoPlace_NoName=>rfl)
  (case s_NoPlace_NoRow=>k_is)
  (case d_NoPlace_NoRow=>rfl)
  (case ga_TooGreat=>k_is)
  (case gt_TooGreat=>k_is)
  (case ca_TooGreat=>k_is)
  (case ob_TooGreat=>k_is)
  (case be_TooGreat=>k_is)
  (case ve_TooGreat=>k_is)
  (case m_TooGreat=>k_is)
  (case s_TooGreat_NoWeb=>k_is)
  (case d_TooGreat_NoWeb=>rfl)
  (case s_TooGreat_NoOrder=>k_is)
  (case d_TooGreat_NoOrder=>rfl)
  (case s_TooGreat_NoNumber=>k_is)
  (case d_TooGreat_NoNumber=>rfl)
  (case s_TooGreat_NoEnd=>k_is)
  (case d_TooGreat_NoEnd=>rfl)
  (case s_TooGreat_NoTie=>k_is)
  (case d_TooGreat_NoTie=>rfl)
  (case s_TooGreat_NoPlace=>k_is)
  (case d_TooGreat_NoPlace=>rfl)
  (case s_TooGreat_NoTable=>k_is)
  (case d_TooGreat_NoTable=>rfl)
  (case s_TooGreat_NoRing=>k_is)
  (case d_TooGreat_NoRing=>rfl)
  (case s_TooGreat_NoPaper=>k_is)
  (case d_TooGreat_NoPaper=>rfl)
  (case s_TooGreat_Apart=>k_is)
  (case d_TooGreat_Apart=>rfl)
  (case s_TooGreat_TooMany=>k_is)
  (case d_TooGreat_TooMany=>rfl)
  (case s_TooGreat_TooGreat=>k_is)
  (case s_TooGreat_NoText=>k_is)
  (case d_TooGreat_NoText=>rfl)
  (case s_TooGreat_NoName=>k_is)
  (case d_TooGreat_NoName=>rfl)
  (case s_TooGreat_NoRow=>k_is)
  (case d_TooGreat_NoRow=>rfl)

