import PyProof.Rows.All
import Wide.All
import OpenK.AllK
import Wide.FinOn
import Lean
import PyProof.EqAt
import PyProof.EqKinds
import PyProof.TupleCall
import PyProof.ZipIter
import PySem.Challenge.RW_blockfall_k45_whole_laid_runs_alike
set_option bootstrap.genMatcherCode false
set_option genSizeOf false
set_option compiler.extract_closed false
set_option genSizeOfSpec false
set_option Elab.async false
set_option linter.all false
set_option maxRecDepth 100000
set_option maxHeartbeats 4000000
noncomputable section
open PySem.W (makesIn fnOf codeIn mg_of)
open List renaming length_map->GN,getElem?_set_ne->GP,length_append->GQ,mem_cons->GR,length_cons->GT,map_cons->GV,getElem?_map->GW,map_append->GX,mem_cons_self->GY,getElem?_eq_getElem->G0,getElem?_eq_some_iff->G1,size_toArray->G4,mem_map->G6,mem_cons_of_mem->G9,length_set->Hb,append_assoc->Hc,getElem?_append_left->Hg,mem_singleton->Hh,mem_of_getElem?->Hi,not_mem_nil->Hj,take_length->Hk,append_nil->Hn,length_singleton->Hq,length_take->Hr,map_nil->Ht,mem_append_right->Hu,map_map->Hw,length_drop->HA,nil_append->HB,lookup_cons->HC,all_eq_true->HD,cons_append->HE,getElem?_append_right->HG,getD_eq_getElem?_getD->HH,lookup->HJ,mem_append->HM,any_cons->HN,replicate_succ->HP,take_zero->HQ,getElem?_set_self->HR,length_replicate->HS,flatten_cons->HU,range_succ->HW,length_range->HY,prefix_refl->H0,nodup_cons->Ia,all_cons->Ib,foldl_cons->Ic,find?_cons->Ie,getElem?_cons_succ->Ih,findIdx?_eq_some_iff_getElem->Ii,take_succ->Ij,mem_range->Ik,filterMap_cons->Il,mem_append_left->Im,sum_cons->Ip,drop_eq_getElem_cons->Iq,map_congr_left->Ir,map_take->Iu,getElem_mem->Iv,reverse_cons->Iz,length_nil->IA,forIn_cons->IC,drop_length->IE,drop_zero->IF,any_eq_true->IG,getElem_toArray->IH,nodup_append->II,getElem?_eq_none->IJ,flatMap_append->IK,mem_zipIdx_iff_getElem?->IL,mem_filterMap->IP,of_mem_zip->IQ,getElem?_replicate->IR,foldl->IV,nodup_nil->IY,getElem?_drop->IZ,getElem?_toArray->Ja,range'->Jc,ext_getElem?->Jd,all_map->Je,suffix_refl->Jf,findIdx?_eq_none_iff->Ji,flatMap_cons->Jj,getElem?_range->Jk,count_append->Jm,count_singleton->Jn,getElem?_of_mem->Jo,tail_cons->Jp,take_add_one->Jq,any_eq_false->Ju,getElem?_take_of_lt->Jv,take_sublist->Jw,drop_set_of_lt->JB,drop_eq_nil_iff->JC,length_reverse->JD,mem_range'_1->JJ,dropWhile_suffix->JK,drop_eq_nil_of_le->JM,takeWhile_cons->JN,take_of_length_le->JP,length_pos_iff->JR,mem_of_mem_take->JU,zipIdx_append->JV,getElem?_inj->JX,findIdx?_cons->JY
open Nat renaming le_refl->GO,ne_of_lt->G7,zero_le->G8,lt_of_lt_of_le->Ha,le_trans->Hf,lt_of_le_of_lt->Hs,le_add_right->Hv,lt_irrefl->HI,le_succ->HK,add_comm->HV,le_of_eq->H9,le_of_lt->Iw,ne_of_gt->Ix,lt_succ_self->Iy,lt_trans->IB,sub_self->ID,zero_add->IM,add_sub_cancel_left->Jg,mul_succ->Jh,pow_le_pow_right->Jl,add_le_add_left->Jx,add_sub_cancel->JZ
open PySem.Heap renaming lt_size->GU,get?_push_of_some->GZ,get?_push_size->He,SameBut->Hy,size_push->Hz,get?_update_self->IS,get?_update_other->IT,MadeExcOf->I0,ExtBut->Jb,get?_none_of_le->Js
open Bool renaming false_ne_true->G5,and_eq_true->Ho,eq_iff_iff->HF,eq_false_iff->HX,false_and->IN
open Option renaming map_eq_some_iff->Hd,getD_some->Ig,getD_none->IU,isSome_map->IX,map_some->Jr
open Int renaming emod_nonneg->Hl,emod_lt_of_pos->Hm,toNat_natCast->HL,ofNat->HZ
open Array renaming length_toList->Io,append_assoc->Jt,size_append->Jy,getElem?_eq_some_iff->Jz,getElem?_eq_getElem->JG,getElem?_toList->JH
open PySem.W renaming instObj->J1,findIn->J2,emptyDict->J3,keepIn->J4,nsIn->J5,Frag->Zf
open PySem renaming Value->J6,Builtin->J7,Program->J8,World->J9,Heap->Ka,Addr->Kb,intKind->Kc,Shared->Kd,Obj->Ke,Around->Kf,cLine->Kg,wpAny->Kh,model->Ki,wpAny_bind->Kj,wpAny_call_entry->Kk,wpAny_pure->Kl,wpAny_rule->Km,wpAny_holding->Kn,wpAny_truthy_bool->Ko,wpAny_seqItems->Kp,sysModules->Kq,tupleKind->Kr,mainGlobals->Ks,bootBuiltins->Kt,Scope->Ku,eval->Kw,Pos->Kx,backTo->Ky,starEach->Kz,Stmt->KA,wpAny_mono->KB,compareOp->KC,behindInMarks->KD,standAt->KE,holding->KF,wpAny_execs_nil->KG,assignEach->KH,PassesOwn->KI,wpAny_passesOwn->KJ,pyNext->KL,letOwnedTupleGo->KM,rawInt->KN,wpAny_pyIter_tuple->KO,foldedSetIterable->KP,binaryOp->KQ,getMethod->KR,attributeBase->KS,backToKw->KU,keywordEach->KW,FuncData->KY,codeAny_mono->KZ,wpAny_Call_Name_kw->K0,Keyword->K2,NameKind->K3,wpAny_field->K6,wpAny_newObj_type->K7,typeIs_str->K8,sliceBounds->K9,call_meets->La,atKey->Lb,tupleKind_room_in1->Lc,relabel->Ld,PyData->Le,strIterType->Lf,wpAny_pyIter_enum->Lg,IsPair->Lh,wpAny_setField_rec->Li,wpAny_onRaise->Lj,wpAny_updateSeq_pair->Lk
open PyProof.Rows renaming AllBare->Kv,envOfC->K5
set_option hygiene false in
local macro_rules|`(tactic|trace_state)=>`(tactic|(first|exact Or.inl rfl|exact Or.inr (Or.inl rfl)|exact Or.inr (Or.inr rfl)))
set_option hygiene false in
local macro_rules|`(tactic|array_mem_dec)=>`(tactic|(exact⟨rfl,rfl,rfl,⋯,rfl,⋯,⋯⟩))
set_option hygiene false in
local macro_rules|`(tactic|subst_vars)=>`(tactic|(first|exact .inl rfl|exact .inr rfl|assumption))
set_option hygiene false in
local macro_rules|`(tactic|subst_eqs)=>`(tactic|(intro _ _ _ _ _ _ us hl;first|(obtain⟨_,rfl⟩:=ln1 hl;rfl)|(obtain⟨_,_,rfl⟩:=ln2 hl;rfl)|(obtain⟨_,_,_,rfl⟩:=ln3 hl;rfl)|(obtain⟨_,_,_,_,rfl⟩:=ln4 hl;rfl)|(obtain⟨_,_,_,_,_,rfl⟩:=ln5 hl;rfl)))
set_option hygiene false in
local macro_rules|`(⋯)=>`(by decide +kernel)|`(∅)=>`(by omega)|`(↥_)=>`(by decide)|`(⇑_)=>`(by simp)|`(⇑$x:num)=>`(mC (.int $x))|`(⇑$x:str)=>`(mC (.str $x))|`(↥$x:num)=>`(Oj $x)|`(↥$x:ident)=>`(($x).heap.objs.size)
set_option hygiene false in
local macro_rules|`(tactic|ac_nf)=>`(tactic|(obtain ⟨o,ρ,rfl,R,S,h⟩:=h;refine ⟨o,ρ,rfl,R,S,Ps.bd h λp x vx e1 R1 r1 h1=>?_⟩))
namespace L2
open PySem
noncomputable abbrev PKy:=Int×List Int
noncomputable def FV (b:Bool)(v u:J6):List J6:=match b with
 |false=>[v,u]
 |true=>[u,v]
noncomputable def v5 (ks:List Int):Int:=reduceHash (J7.Tuple.tupleHashOf (ks.map hashInt))
noncomputable def Ci (b:Bool)(k:PKy):Int:=match b with
 |false=>reduceHash (J7.Tuple.tupleHashOf [hashInt k.1,v5 k.2])
 |true=>reduceHash (J7.Tuple.tupleHashOf [v5 k.2,hashInt k.1])
end L2
namespace L2
open PySem PySem.Spec PyProof.Rows
noncomputable abbrev Key:=Sum Int Str
noncomputable def Nx:Key->J6->Bool
 |.inl k,v=>J6.isInt k v
 |.inr x,v=>J6.isStrOf x v
noncomputable def keyH (w:J9):Key->Int
 |.inl k=>hashInt k
 |.inr x=>hashStr w x
theorem cc: ∀ {k:Key}{v:J6},Nx k v=true->(∃i t,k=Sum.inl i/\v=J6.int i t)\/(∃x t,k=Sum.inr x/\v=J6.str x t)
 |.inl i,v,h=>by
  obtain⟨t,e⟩:=J6.isInt_shape (k:=i) (v:=v) h;exact .inl ⟨i,t,rfl,e⟩
 |.inr x,v,h=>by
  obtain⟨t,e⟩:=J6.isStrOf_shape (x:=x) (v:=v) h;exact .inr ⟨x,t,rfl,e⟩
theorem vd (i:Int)(t:Tok):Nx (.inl i) (.int i t)=true:=by simp [Nx,J6.isInt]
theorem vc (x:Str)(t:Tok):Nx (.inr x) (.str x t)=true:=by simp [Nx,J6.isStrOf]
theorem DW (a b:Int):decide ((Sum.inl a:Key)=Sum.inl b)=(a==b):=by
 by_cases e:a=b
 ·subst e;simp
 ·have h: ¬(Sum.inl a:Key)=Sum.inl b:=λq=>e (Sum.inl.inj q);rw[decide_eq_false h];exact (beq_eq_false_iff_ne.mpr e).symm
theorem DT (a b:Str):decide ((Sum.inr a:Key)=Sum.inr b)=decide (a=b):=by
 by_cases e:a=b
 ·subst e;simp
 ·have h: ¬(Sum.inr a:Key)=Sum.inr b:=λq=>e (Sum.inr.inj q);rw[decide_eq_false h,decide_eq_false e]
theorem DV (a:Int)(b:Str):decide ((Sum.inl a:Key)=Sum.inr b)=false:=decide_eq_false (λq=>nomatch q)
theorem DU (a:Str)(b:Int):decide ((Sum.inr a:Key)=Sum.inl b)=false:=decide_eq_false (λq=>nomatch q)
noncomputable def cx (prog:J8)(w:J9):PySem.KeyKind prog w Key where
 is:=Nx
 hash:=keyH w
 inj:=λv a b ha hb=>by
  rcases cc ha with⟨i,t,rfl,rfl⟩|⟨x,t,rfl,rfl⟩
  ·rcases cc hb with⟨j,u,rfl,e⟩|⟨y,u,rfl,e⟩
   ·injection e with e1 _;rw[e1]
   ·exact nomatch e
  ·rcases cc hb with⟨j,u,rfl,e⟩|⟨y,u,rfl,e⟩
   ·exact nomatch e
   ·injection e with e1 _;rw[e1]
 byValue:=λk v h=>by
  rcases cc h with⟨i,t,rfl,rfl⟩|⟨x,t,rfl,rfl⟩<;>rfl
 pyHash:=λhv h=>by
  rcases cc hv with⟨i,t,rfl,rfl⟩|⟨x,t,rfl,rfl⟩
  ·exact wpAny_pyHash_int h
  ·exact wpAny_pyHash_str h
 eqBool:=λhu hv h=>by
  rcases cc hu with⟨i,t,rfl,rfl⟩|⟨x,t,rfl,rfl⟩
  ·rcases cc hv with⟨j,u,rfl,rfl⟩|⟨y,u,rfl,rfl⟩
   ·rw[DW] at h;exact wpAny_eqBool_int h
   ·rw[DV] at h;exact SeqAt.EqAt.int_str i t y u _ _ _ _ h
  ·rcases cc hv with⟨j,u,rfl,rfl⟩|⟨y,u,rfl,rfl⟩
   ·rw[DU] at h;exact SeqAt.EqAt.str_int x t j u _ _ _ _ h
   ·rw[DT] at h;exact wpAny_eqBool_str h
 «strs»:=λk x t v h=>by
  rcases cc h with⟨i,u,rfl,e⟩|⟨y,u,rfl,e⟩
  ·exact nomatch e
  ·injection e with e1 _
   subst e1;cases v<;>rfl
theorem p5 (prog:J8)(w:J9)(i:Int)(t:Tok):(cx prog w).is (.inl i) (.int i t)=true:=vd i t
theorem p4 (prog:J8)(w:J9)(x:Str)(t:Tok):(cx prog w).is (.inr x) (.str x t)=true:=vc x t
section
inductive V where
 |non|bl (b:Bool)|int (i:Int)|str (x:Str)|byt (b:Array UInt8)|flt (b:UInt64)|ref (a:Kb)|ty (n:String)
 deriving DecidableEq
noncomputable def RelV:V->J6->Prop
 |.non,u=>u=J6.none
 |.bl b,u=>u=J6.bool b
 |.int i,u=> ∃t,u=J6.int i t
 |.str x,u=> ∃t,u=J6.str x t
 |.byt b,u=> ∃t,u=J6.bytes b t
 |.flt b,u=> ∃t,u=J6.float b t
 |.ref a,u=>u=J6.ref a
 |.ty n,u=>u=J6.type n
noncomputable abbrev Vals:List V->List J6->Prop:=Paired RelV
theorem Vals.length (r:Vals xs us):xs.length=us.length:=Paired.length r
theorem Vals.get: ∀ {xs:List V}{us:List J6}{i:Nat}{x:V},Vals xs us->xs[i]?=some x-> ∃u,us[i]?=some u/\RelV x u
 |_,_,_,_,.nil,e=>by simp at e
 |_,_,0,_,.cons r _,e=>by simp at e;subst e;exact⟨_,rfl,r⟩
 |_,_,i+1,x,.cons _ t,e=>by
  obtain⟨u,h1,h2⟩:=Vals.get (i:=i) (x:=x) t (by simpa using e);exact⟨u,by simpa using h1,h2⟩
theorem Vals.set (r:RelV x u): ∀ {xs:List V}{us:List J6} (i:Nat),Vals xs us->Vals (xs.set i x) (us.set i u)
 |_,_,_,.nil=>.nil
 |_,_,0,.cons _ t=>.cons r t
 |_,_,i+1,.cons q t=>.cons q (Vals.set r i t)
theorem Vals.append: ∀ {xs ys:List V}{us ws:List J6},Vals xs us->Vals ys ws->Vals (xs++ys) (us++ws)
 |_,_,_,_,.nil,s=>s
 |_,_,_,_,.cons r t,s=>.cons r (Vals.append t s)
theorem Vals.take: ∀ {xs:List V}{us:List J6} (n:Nat),Vals xs us->Vals (xs.take n) (us.take n)
 |_,_,0,_=>.nil
 |_,_,_+1,.nil=>.nil
 |_,_,n+1,.cons r t=>.cons r (Vals.take n t)
theorem Vals.drop: ∀ {xs:List V}{us:List J6} (n:Nat),Vals xs us->Vals (xs.drop n) (us.drop n)
 |_,_,0,r=>r
 |_,_,_+1,.nil=>.nil
 |_,_,n+1,.cons _ t=>Vals.drop n t
noncomputable def RelO:Option V->Option J6->Prop
 |some v,some u=>RelV v u
 |none,none=>True
 |_,_=>False
noncomputable def KV {κ:Type}:List (κ×V)->List (κ×J6)->Prop:=Paired λ(p:κ×V) (q:κ×J6)=>p.1=q.1/\RelV p.2 q.2
noncomputable def kV:Key->V
 |.inl i=>.int i
 |.inr x=>.str x
inductive HO where
 |lst (xs:List V)
 |tup (xs:List V)
 |dK (kvs:List (Key×V))|dT (kvs:List (List Key×V))|dN (b:Bool)(xs:List (PKy×Kb×V))(ep:Nat)
 |set (S:Int->Bool)(n:Nat)
 |ins (C dx:Kb)(fs:List (Str×V))
 |own (x:Kb)
 |xd (fs:List (Str×V))
 |met (f x:Kb)
 |rng (lo hi:Int)
 |frz (o:Ke)(u:HO)
 |tbl (ps:Array J6)
 |ext (φ:Ka->Prop)
noncomputable abbrev Hp:=Kb->Option HO
noncomputable def upd (H:Hp)(a:Kb)(o:HO):Hp:=λb=>if b=a then some o else H b
theorem ay :upd H a o a=some o:=by unfold upd;rw[if_pos rfl]
theorem ai (h:b≠a):upd H a o b=H b:=by unfold upd;rw[if_neg h]
theorem E5 {H:Hp}{a b:Kb}{o u:HO}(h:H a=some o)(h':H b=some u)(d:o≠u):a≠b:=by
 intro e;subst e;rw[h] at h';exact d (Option.some.inj h')
theorem bq {H:Hp}{a b:Kb}{o:HO}(h:H a=some o)(h':H b=none):a≠b:=by
 intro e;subst e;rw[h] at h';cases h'
noncomputable def IsTupD (h:Ka)(a:Kb)(its:Array J6):Prop:=IsTup h a its/\ ∃o,h.get? a=some o/\o.dict=none
theorem IsTupD.new (h:Ka)(its:Array J6):IsTupD (h.push {cls:=.type "tuple",data:=.seq its}) h.objs.size its:=⟨IsTup.new _ _,_,He _ rfl,rfl⟩
section
variable (P:J8)(w:J9)
noncomputable def ObjOk (H:Hp)(h:Ka)(a:Kb):HO->Prop
 |.lst xs=>xs.length<=sizeLine/\ ∃ (its:List J6) (n:Nat),Vals xs its/\h.get? a=some {cls:=.type "list",data:=.seq its.toArray n}
 |.tup xs=>xs.length<=sizeLine/\ ∃its:List J6,Vals xs its/\IsTupD h a its.toArray
 |.dK kvs=>kvs.length<=sizeLine/\(a==Kq)=false/\ ∃vs,KV kvs vs/\h.DictOf (cx P w) a vs
 |.dT kvs=>kvs.length<=sizeLine/\(a==Kq)=false/\ ∃xs:List (List Key×Kb×J6),
  Paired (λ(p:List Key×V) (q:List Key×Kb×J6)=>p.1=q.1/\H q.2.1=some (.tup (p.1.map kV))/\RelV p.2 q.2.2) kvs xs/\
  ∃o es ep,h.get? a=some o/\o.ExactDict/\o.data=.dict es ep/\es.toList=xs.map (entryOfKey (Kr (cx P w)))/\(xs.map (·.1)).Nodup
 |.dN b xs ep=>xs.length<=sizeLine/\(a==Kq)=false/\ ∃ys:List (PKy×Kb×J6),Paired (λ(p:PKy×Kb×V) (q:PKy×Kb×J6)=>p.1=q.1/\p.2.1=q.2.1/\RelV p.2.2 q.2.2) xs ys/\
  ∃o es,h.get? a=some o/\o.ExactDict/\o.data=.dict es ep/\es.toList=ys.map (λy=>(⟨Ci b y.1,.ref y.2.1,y.2.2⟩:DictEntry))/\(ys.map (·.1)).Nodup
 |.set S n=>h.SetOf (Kc P w) a S n
 |.ins C dx fs=>H dx=some (.own a)/\fs.length<=1000/\dx≠a/\h.get? a=some (J1 C dx)/\
  ∃mA,h.Ns1 dx mA/\(∀f,RelO (fs.lookup f) (mA f))/\PySem.Within mA (fs.map (·.1))
 |.own _=> ∃o,h.get? a=some o
 |.xd fs=> ∃mA,h.Ns1 a mA/\ ∀f,RelO (fs.lookup f) (mA f)
 |.rng lo hi=> ∃t u v,h.get? a=some {cls:=.type "range",data:=.fields #[.int lo t,.int hi u,.int 1 v]}
 |.frz o u=>h.get? a=some o/\ObjOk H h a u
 |.tbl ps=>h.get? a=some {cls:=.none,data:=.fields ps}
 |.met f x=>h.get? a=some (PySem.W.methodObj (.ref f) (.ref x))
 |.ext φ=>φ h/\(∃o,h.get? a=some o)/\ ∀h1 h2:Ka,φ h1->(∀o,h1.get? a=some o->h2.get? a=some o)->φ h2
noncomputable def HOk (H:Hp)(h:Ka):Prop:= ∀a o,H a=some o->ObjOk P w H h a o
end
section
variable {P:J8}{w:J9}{H H':Hp}{h h':Ka}{a:Kb}{o:HO}
theorem ObjOk.lt (x:ObjOk P w H h a o):a<h.objs.size:=by
 cases o with
 |lst xs=>obtain⟨_,_,_,_,e⟩:=x;exact GU e
 |tup xs=>obtain⟨_,_,_,p⟩:=x;exact p.1.lt
 |dK kvs=>obtain⟨_,_,_,_,o,_,_,e,_⟩:=x;exact GU e
 |dT kvs=>obtain⟨_,_,_,_,o,_,_,e,_⟩:=x;exact GU e
 |dN b xs ep=>obtain⟨_,_,_,_,o,_,e,_⟩:=x;exact GU e
 |set S n=>obtain⟨o,_,_,_,e,_⟩:=x;exact GU e
 |ins C dx fs=>obtain⟨_,_,_,e,_⟩:=x;exact GU e
 |own y=>obtain⟨_,e⟩:=x;exact GU e
 |xd fs=>obtain⟨_,⟨_,_,_,e,_⟩,_⟩:=x;exact GU e
 |rng lo hi=>obtain⟨_,_,_,e⟩:=x;exact GU e
 |frz ob u=>obtain⟨e,_⟩:=x;exact GU e
 |tbl ps=>exact GU (show h.get? a=some _ from x)
 |met f y=>exact GU (show h.get? a=some _ from x)
 |ext φ=>obtain⟨_,⟨_,e⟩,_⟩:=x;exact GU e
theorem Paired.mapP {α β:Type}{F G:α->β->Prop}: ∀ {l₁:List α}{l₂:List β},Paired F l₁ l₂->(∀a b,F a b->G a b)->Paired G l₁ l₂
 |_,_,.nil,_=>.nil
 |_,_,.cons r t,f=>.cons (f _ _ r) (Paired.mapP t f)
theorem ObjOk.stay (x:ObjOk P w H h a o)(k:∀b u,(b=a\/H b=some (.own a))->h.get? b=some u->h'.get? b=some u)
  (ho: ∀b,H b=some (.own a)->H' b=some (.own a))(ht: ∀b xs,H b=some (.tup xs)->H' b=some (.tup xs)):ObjOk P w H' h' a o:=by
 induction o with
 |lst xs=>obtain⟨z,its,n,r,e⟩:=x;exact⟨z,its,n,r,k _ _ (.inl rfl) e⟩
 |tup xs=>obtain⟨z,its,r,⟨ob,e,c⟩,o2,e2,c2⟩:=x;exact⟨z,its,r,⟨ob,k _ _ (.inl rfl) e,c⟩,o2,k _ _ (.inl rfl) e2,c2⟩
 |dK kvs=>obtain⟨z,y,vs,r,ob,es,ep,e,c⟩:=x;exact⟨z,y,vs,r,ob,es,ep,k _ _ (.inl rfl) e,c⟩
 |dT kvs=>
  obtain⟨z,y,xs,r,ob,es,ep,e,c⟩:=x;exact⟨z,y,xs,Paired.mapP r λp q z=>⟨z.1,ht _ _ z.2.1,z.2.2⟩,ob,es,ep,k _ _ (.inl rfl) e,c⟩
 |dN b xs ep=>obtain⟨z,y,ys,r,ob,es,e,c⟩:=x;exact⟨z,y,ys,r,ob,es,k _ _ (.inl rfl) e,c⟩
 |set S n=>obtain⟨ob,es,ep,t,e,c⟩:=x;exact⟨ob,es,ep,t,k _ _ (.inl rfl) e,c⟩
 |ins C dx fs=>
  obtain⟨d,z,ne,e,mA,⟨od,es,ep,e2,c⟩,r⟩:=x;exact⟨ho _ d,z,ne,k _ _ (.inl rfl) e,mA,⟨od,es,ep,k _ _ (.inr d) e2,c⟩,r⟩
 |own y=>obtain⟨ob,e⟩:=x;exact⟨ob,k _ _ (.inl rfl) e⟩
 |xd fs=>obtain⟨mA,⟨od,es,ep,e,c⟩,r⟩:=x;exact⟨mA,⟨od,es,ep,k _ _ (.inl rfl) e,c⟩,r⟩
 |rng lo hi=>obtain⟨t,u,v,e⟩:=x;exact⟨t,u,v,k _ _ (.inl rfl) e⟩
 |frz ob u ih=>obtain⟨e,q⟩:=x;exact⟨k _ _ (.inl rfl) e,ih q⟩
 |tbl ps=>
  have e:h.get? a=some {cls:=.none,data:=.fields ps}:=x;show h'.get? a=some {cls:=.none,data:=.fields ps};exact k a _ (.inl rfl) e
 |met f y=>
  have e:h.get? a=some (PySem.W.methodObj (.ref f) (.ref y)):=x;show h'.get? a=some (PySem.W.methodObj (.ref f) (.ref y));exact k a _ (.inl rfl) e
 |ext φ=>obtain⟨p,⟨o,e⟩,st⟩:=x;exact⟨st _ _ p λo q=>k _ _ (.inl rfl) q,⟨o,k _ _ (.inl rfl) e⟩,st⟩
theorem HOk.lt (x:HOk P w H h)(e:H a=some o):a<h.objs.size:=(x a o e).lt
theorem HOk.fresh (x:HOk P w H h)(e:h.objs.size<=a):H a=none:=by
 cases q:H a with
 |none=>rfl
 |some u=>exact absurd (Ha (x.lt q) e) (HI _)
theorem HOk.kept (x:HOk P w H h)(k:∀b u,h.get? b=some u->h'.get? b=some u):HOk P w H h':=λa o e=>
 (x a o e).stay (λb u _ q=>k b u q) (λ_ q=>q) λ_ _ q=>q
theorem HOk.laid (x:HOk P w H h)(k:∀b u,h.get? b=some u->h'.get? b=some u)(hp:h.objs.size<=a)(new:ObjOk P w (upd H a o) h' a o):HOk P w (upd H a o) h':=λb u e=>by
 have hn:=x.fresh hp;by_cases hb:b=a
 ·subst hb;rw[ay] at e;cases e;exact new
 ·rw[ai hb] at e;exact (x b u e).stay (λc v _ q=>k c v q) (λc q=>by rw[ai (bq q hn)];exact q) λc xs q=>by rw[ai (bq q hn)];exact q
end
noncomputable def Rd (H:Hp)(a:Kb)(u:HO):Prop:=H a=some u\/ ∃o,H a=some (.frz o u)
theorem Rd.ok {w:J9}(r:Rd H a u)(x:HOk P w H h):ObjOk P w H h a u:=by
 rcases r with r|⟨o,r⟩
 ·exact x a u r
 ·obtain⟨_,q⟩:=x a _ r;exact q
noncomputable def Mut:Option HO->Prop
 |some (.lst _)=>True
 |some (.dK _)=>True
 |some (.dT _)=>True
 |some (.dN _ _ _)=>True
 |some (.set _ _)=>True
 |some (.ins _ _ _)=>True
 |some (.ext _)=>True
 |_=>False
section
variable {P:J8}{w:J9}{H:Hp}{h h':Ka}{x e:Kb}{o':HO}
theorem HOk.write (ok:HOk P w H h)(mu:Mut (H x))(he:e=x\/H e=some (.own x))(k:∀b u,b≠e->h.get? b=some u->h'.get? b=some u)(heo: ∃u,h'.get? e=some u)
  (new:ObjOk P w (upd H x o') h' x o'):HOk P w (upd H x o') h':=λb u q=>by
 have nown: ∀c y,H c=some (.own y)->c≠x:=λc y r z=>by subst z;rw[r] at mu;exact mu
 have ntup: ∀c xs,H c=some (.tup xs)->c≠x:=λc xs r z=>by subst z;rw[r] at mu;exact mu
 by_cases hb:b=x
 ·subst hb;rw[ay] at q;cases q;exact new
 ·rw[ai hb] at q;by_cases hbe:b=e
  ·have q':H b=some (.own x):=by
    rcases he with z|z
    ·exact absurd (hbe.trans z) hb
    ·rw[hbe];exact z
   rw[q] at q';cases q';obtain⟨v,hv⟩:=heo;exact⟨v,by rw[hbe];exact hv⟩
  ·refine (ok b u q).stay (λc v hc r=>k c v ?_ r) (λc r=>by rw[ai (nown c b r)];exact r) λc xs r=>by rw[ai (ntup c xs r)];exact r
   rcases hc with rfl|hc
   ·exact hbe
   ·rintro rfl
    rcases he with z|z
    ·exact nown c b hc z
    ·rw[hc] at z;cases z;exact hb rfl
end
structure Un (fs ex:List Kb)(H H':Hp)(h h':Ka):Prop where
 keep: ∀b o,h.get? b=some o->H b=none->b ∉ fs->b ∉ ex->h'.get? b=some o
 slot: ∀b o,h.get? b=some o->H b=none->b∈fs->b ∉ ex-> ∃sl,h'.get? b=some {o with slots:=sl}
 free: ∀b o,h.get? b=some o->H b=none->b ∉ ex->H' b=none
 there: ∀b o,h.get? b=some o->b ∉ ex-> ∃o',h'.get? b=some o'
 tups: ∀b xs,H b=some (.tup xs)->H' b=some (.tup xs)
 frzs: ∀b o u,H b=some (.frz o u)->H' b=some (.frz o u)
 tbls: ∀b ps,H b=some (.tbl ps)-> ∃more,H' b=some (.tbl (ps++more))
section
variable {fs ex:List Kb}{H H1:Hp}{h h1 h':Ka}{a x e:Kb}{o:HO}
theorem Un.any (u:Un fs ex H H1 h h1)(q:h.get? b=some ob)(n:H b=none)(hx:b ∉ ex): ∃sl,h1.get? b=some {ob with slots:=sl}:=by
 by_cases hb:b∈fs
 ·exact u.slot b ob q n hb hx
 ·exact⟨ob.slots,u.keep b ob q n hb hx⟩
theorem Un.kept (k:∀b u,h.get? b=some u->h'.get? b=some u):Un fs ex H H h h':=
 ⟨λb ob q _ _ _=>k b ob q,λb ob q _ _ _=>⟨ob.slots,k b ob q⟩,λ_ _ _ n _=>n,λb ob q _=>⟨ob,k b ob q⟩,λ_ _ q=>q,λ_ _ _ q=>q,λ_ ps q=>⟨#[],by rw[q];simp⟩⟩
theorem Un.refl:Un fs ex H H h h:=Un.kept λ_ _ q=>q
theorem Un.laid (k:∀b u,h.get? b=some u->h'.get? b=some u)(hp:h.objs.size<=a)(hn:H a=none):Un fs ex H (upd H a o) h h' where
 keep:=λb u q _ _ _=>k b u q
 slot:=λb u q _ _ _=>⟨u.slots,k b u q⟩
 free:=λb u q n _=>by rw[ai (G7 (Ha (GU q) hp))];exact n
 there:=λb u q _=>⟨u,k b u q⟩
 tups:=λb xs q=>by rw[ai (bq q hn)];exact q
 frzs:=λb u xs q=>by rw[ai (bq q hn)];exact q
 tbls:=λb ps q=>⟨#[],by rw[ai (bq q hn),q];simp⟩
theorem Un.write (mu:Mut (H x))(he:e=x\/H e=some (.own x))(k:∀b u,b≠e->h.get? b=some u->h'.get? b=some u)(heo: ∃u,h'.get? e=some u):Un fs ex H (upd H x o) h h':=by
 have hx: ∀b,H b=none->b≠x:=λb n z=>by subst z;rw[n] at mu;exact mu
 have hb: ∀b,H b=none->b≠e:=λb n z=>by
  subst z;rcases he with r|r
  ·exact hx b n r
  ·rw[n] at r;cases r
 have hm: ∀b u,H b=some u-> ¬Mut (some u)->b≠x:=λb u q nm z=>by subst z;rw[q] at mu;exact nm mu
 refine⟨λb u q n _ _=>k b u (hb b n) q,λb u q n _ _=>⟨u.slots,k b u (hb b n) q⟩,λb u q n _=>by rw[ai (hx b n)];exact n,λb u q _=>?_,
  λb xs q=>by rw[ai (hm b _ q λz=>z)];exact q,λb u xs q=>by rw[ai (hm b _ q λz=>z)];exact q,λb ps q=>⟨#[],by rw[ai (hm b _ q λz=>z),q];simp⟩⟩
 by_cases hbe:b=e
 ·subst hbe;exact heo
 ·exact⟨u,k b u hbe q⟩
end
noncomputable def trk (h:Ka)(H:Hp):List Kb:=(List.range h.objs.size).filter λa=>(H a).isSome
noncomputable def M1 (h:Ka)(H:Hp):Ka:=PySem.W.hideAll h (trk h H)
theorem vp (h:Ka)(H:Hp):(M1 h H).objs.size=h.objs.size:=PySem.W.hideAll_size _ _
theorem yx (e:h.get? b=some o)(n:H b=none):(M1 h H).get? b=some o:=
 PySem.W.hideAll_get _ e λhm=>by
  have q:(H b).isSome=true:=(List.mem_filter.mp hm).2;rw[n] at q;simp at q
theorem zY (e:(M1 h H).get? b=some o):h.get? b=some o/\H b=none:=by
 have e':h.get? b=some o:=PySem.W.of_hideAll (trk h H) e;refine⟨e',?_⟩;cases q:H b with
 |none=>rfl
 |some x=>
  have hm:b∈trk h H:=List.mem_filter.mpr ⟨Ik.mpr (GU e'),by simp [q]⟩;have z:(M1 h H).get? b=none:=PySem.W.hideAll_none (trk h H) hm;rw[z] at e;cases e
noncomputable def Bh (g h:Ka)(L:Kb):List (Kb×Ke):=(List.range h.objs.size).filterMap λa=>if a=L\/(g.get? a).isSome=true then none else (h.get? a).map λo=>(a,o)
noncomputable def rest (g h:Ka)(L d:Kb):List (Kb×Ke):=(Bh g h L).filter λp=>decide (p.1≠d)
end
section
structure Mod (K:Zf)(mg:Str->Option J6)(base:Ka):Prop where
 kin:K.In base
 glob:base.Ns Ks mg
 blt: ∃mb,base.Ns builtinsNs mb/\ ∀x:Str,x≠ "__name__"->mb x=Kt x
 nolimit:base.NoLimit
structure Cx where
 prog:J8
 w:J9
 K:Zf
 mg:Str->Option J6
 base:Ka
 A:Kf
 N:List Str
 s₀:Kd
 H₀:Hp
 env:Env
 outer:List Env
 stack:List Env
 ex:List Kb
 fn:Str->Bool
 calm:Bool
 pn:List (Kb×Ke)
 xe:J6->Kd->Prop
noncomputable def frs (l:List Env):List Kb:=l.filterMap (·.frame)
noncomputable abbrev Cx.fs (X:Cx):List Kb:=frs X.outer
noncomputable def Vis (sc:Ku)(x:Str):Prop:=sc.names.lookup x=some .local \/sc.names.lookup x=some .cell\/sc.names.lookup x=some .free
noncomputable def Loc (sc:Ku)(x:Str):Prop:=sc.names.lookup x=some .local \/sc.names.lookup x=some .cell
noncomputable def Look (env:Env)(h:Ka)(m:Str->Option J6)(x:Str)(u:J6):Prop:=
 (env.kindOf x=some .local /\m x=some u)\/((env.kindOf x=some .cell\/env.kindOf x=some .free)/\ ∃c,env.cells.lookup x=some c/\h.IsCell c (some u))
structure Cx.Ok (X:Cx):Prop where
 mod:Mod X.K X.mg X.base
 kind:X.env.scope.kind=.function
 glob:X.env.globals=Ks
 blt:X.env.builtins=builtinsNs
 above:↥X.s₀<=X.env.locals
 inj: ∀x y c,X.env.cells.lookup x=some c->X.env.cells.lookup y=some c->x=y
 has: ∀x,(X.env.kindOf x=some .cell\/X.env.kindOf x=some .free)-> ∃c,X.env.cells.lookup x=some c
 cab: ∀x c,X.fn x=true->X.env.cells.lookup x=some c->↥X.s₀<=c
 hd:X.calm=true->X.A.handled=none
 frames:X.A.frames=some X.stack
 stk:X.stack=X.outer\/(X.stack=X.env::X.outer/\X.env.frame=some X.env.locals)
 exf: ∀b∈X.ex,b≠X.env.locals/\ ∀x c,X.env.cells.lookup x=some c->c≠b
 bs: ∀b o,X.base.get? b=some o->X.s₀.heap.get? b=some o/\X.H₀ b=none
 bsz:X.base.objs.size<=↥X.s₀
 noex: ∀b o,X.base.get? b=some o->b ∉ X.ex
 exfs: ∀b∈X.ex,b ∉ X.fs
 funs:X.s₀.heap.FunFrames X.base X.outer
 frf: ∀b∈X.fs,X.H₀ b=none
structure Inv (X:Cx)(pins:List (Kb×Ke))(σ:List (Option V))(H:Hp)(s:Kd):Prop where
 ok:X.Ok
 os:s.os=X.s₀.os
 bare:Kv s.gens
 base:Un X.fs X.ex X.H₀ H X.s₀.heap s.heap
 loc: ∃m,s.heap.Ns X.env.locals m/\ ∀ (i:Nat) (x:Str) (v:V),X.N[i]?=some x->σ[i]?=some (some v)->Vis X.env.scope x-> ∃u,RelV v u/\Look X.env s.heap m x u
 cell: ∀x c,X.env.cells.lookup x=some c-> ∃v,s.heap.IsCell c v
 free:H X.env.locals=none
 freeC: ∀x c,X.env.cells.lookup x=some c->H c=none
 pin: ∀p∈X.pn++pins,s.heap.get? p.1=some p.2/\H p.1=none/\p.1≠X.env.locals/\p.1 ∉ X.fs/\ ∀v,p.2.data≠.cell v
 hok:HOk X.prog X.w H s.heap
 len:σ.length=X.N.length
section
variable {X:Cx}{pins:List (Kb×Ke)}{σ:List (Option V)}{H H':Hp}{s:Kd}{h':Ka}
theorem Cx.Ok.nofr (ok:X.Ok)(e:X.base.get? b=some o):b ∉ X.fs:=λhb=>by
 have:=(ok.funs.mem hb).1;rw[e] at this;cases this
theorem Inv.bs (I:Inv X pins σ H s): ∀b o,X.base.get? b=some o->s.heap.get? b=some o/\H b=none:=λb o e=>
 ⟨I.base.keep b o (I.ok.bs b o e).1 (I.ok.bs b o e).2 (I.ok.nofr e) (I.ok.noex b o e),I.base.free b o (I.ok.bs b o e).1 (I.ok.bs b o e).2 (I.ok.noex b o e)⟩
theorem Inv.bk (I:Inv X pins σ H s): ∀b o,X.base.get? b=some o->s.heap.get? b=some o:=λb o e=>(I.bs b o e).1
theorem Inv.mod (I:Inv X pins σ H s):Mod X.K X.mg X.base:=I.ok.mod
theorem Inv.kIn (I:Inv X pins σ H s):X.K.In s.heap:=I.ok.mod.kin.keeps I.bk
theorem Inv.fr (I:Inv X pins σ H s): ∃m,Fr X.base X.env.locals s.heap m:=
 let ⟨m,hn,_⟩:=I.loc
 ⟨m,hn,I.bk,Hf I.ok.bsz I.ok.above⟩
theorem Inv.lt (I:Inv X pins σ H s):X.env.locals<↥s:=let ⟨_,hn,_⟩:=I.loc;hn.lt
theorem Inv.sz (I:Inv X pins σ H s):↥X.s₀<=↥s:=Hf I.ok.above (Iw I.lt)
theorem Inv.nofs (I:Inv X pins σ H s)(h:↥s<=a):a ∉ X.fs:=λhb=>by
 obtain⟨_,o,ho,_⟩:=I.ok.funs.mem hb;exact absurd (Ha (GU ho) (Hf I.sz h)) (HI _)
theorem Inv.cne (I:Inv X pins σ H s): ∀x c,X.env.cells.lookup x=some c->c≠X.env.locals:=λx c e z=>by
 obtain⟨v,o,ho,hd⟩:=I.cell x c e;obtain⟨m,⟨o',es,ep,ho',hd',_⟩,_⟩:=I.loc;rw[z,ho'] at ho;cases ho;rw[hd'] at hd;cases hd
theorem Inv.funs (I:Inv X pins σ H s):s.heap.FunFrames X.base X.outer:=by
 have all: ∀ (l:List Env),(∀b∈frs l,b∈X.fs)->X.s₀.heap.FunFrames X.base l->s.heap.FunFrames X.base l:=by
  intro l
  induction l with
  |nil=>intro _ _;trivial
  |cons env r ih=>
   intro hs hl;obtain⟨hk,⟨L,o,hf,hn,ho,hd⟩,hr⟩:=hl;have hL:L∈X.fs:=hs L (by unfold frs;rw[Il,hf];exact GY);obtain⟨sl,e⟩:=I.base.slot L o ho (I.ok.frf L hL) hL λz=>I.ok.exfs L z hL;exact⟨hk,⟨L,_,hf,hn,e,hd⟩,ih (λb hb=>hs b (by unfold frs;rw[Il,hf];exact G9 _ hb)) hr⟩
 exact all X.outer (λ_ hb=>hb) I.ok.funs
theorem Inv.stack (I:Inv X pins σ H s):s.heap.FunFrames X.base X.stack:=by
 rcases I.ok.stk with e|⟨e,hf⟩
 ·rw[e];exact I.funs
 ·rw[e];obtain⟨m,hn,_⟩:=I.loc;refine .cons (by rw[I.ok.kind];decide) hf hn ?_ I.funs;exact Js (Hf I.ok.bsz I.ok.above)
theorem Inv.stkSub (I:Inv X pins σ H s): ∀b∈frs X.stack,b∈X.env.locals::X.fs:=λb hb=>by
 rcases I.ok.stk with e|⟨e,hf⟩
 ·rw[e] at hb;exact G9 _ hb
 ·rw[e] at hb;unfold frs at hb;rw[Il,hf] at hb;exact hb
theorem Inv.stkFree (I:Inv X pins σ H s): ∀b∈frs X.stack,H b=none:=λb hb=>by
 rcases GR.mp (I.stkSub b hb) with e|hb
 ·rw[e];exact I.free
 ·obtain⟨_,o,ho,_⟩:=I.ok.funs.mem hb;exact I.base.free b o ho (I.ok.frf b hb) λz=>I.ok.exfs b z hb
theorem Inv.step {g':Array GenState}{t':Nat}{d':Drawn}{ch:List Kb}(I:Inv X pins σ H s)
  (hch: ∀b∈ch,(b∈X.ex\/↥X.s₀<=b)/\b≠X.env.locals/\(∀x c,X.env.cells.lookup x=some c->c≠b)/\ ∀p∈X.pn++pins,p.1≠b)
  (keep: ∀b o,b≠X.env.locals->b ∉ X.fs->b ∉ ch->s.heap.get? b=some o->H b=none->h'.get? b=some o)
  (slot: ∀b o,b≠X.env.locals->b∈X.fs->b ∉ ch->s.heap.get? b=some o->H b=none-> ∃sl,h'.get? b=some {o with slots:=sl})(free: ∀b o,b ∉ ch->s.heap.get? b=some o->H b=none->H' b=none)
  (there: ∀b o,b ∉ ch->s.heap.get? b=some o-> ∃o',h'.get? b=some o')
  (tups: ∀b xs,H b=some (.tup xs)->H' b=some (.tup xs))(frzs: ∀b o u,H b=some (.frz o u)->H' b=some (.frz o u))(tbls: ∀b ps,H b=some (.tbl ps)-> ∃more,H' b=some (.tbl (ps++more)))
  (ns: ∀m,s.heap.Ns X.env.locals m->h'.Ns X.env.locals m)(hok:HOk X.prog X.w H' h')(hg:Kv g'):
  Inv X pins σ H' {s with heap:=h',gens:=g',drawn:=d',toks:=t'}:=by
 have neL: ∀b o,X.s₀.heap.get? b=some o->b≠X.env.locals:=λb o e=>G7 (Ha (GU e) I.ok.above);have neC: ∀b o,X.s₀.heap.get? b=some o->b ∉ X.ex->b ∉ ch:=λb o e hx hb=>by
  rcases (hch b hb).1 with z|z
  ·exact hx z
  ·exact absurd (Ha (GU e) z) (HI _)
 have cellK: ∀x c,X.env.cells.lookup x=some c-> ∀v,s.heap.IsCell c v->h'.IsCell c v:=λx c e v ⟨o,ho,hd⟩=>by
  have nch:c ∉ ch:=λz=>(hch c z).2.2.1 x c e rfl;by_cases hc:c∈X.fs
  ·obtain⟨sl,q⟩:=slot c o (I.cne x c e) hc nch ho (I.freeC x c e);exact⟨_,q,hd⟩
  ·exact⟨o,keep c o (I.cne x c e) hc nch ho (I.freeC x c e),hd⟩
 refine⟨I.ok,I.os,hg,⟨λb o e n hb hx=>?_,λb o e n hb hx=>?_,λb o e n hx=>?_,λb o e hx=>?_,λb xs e=>tups b xs (I.base.tups b xs e),λb o xs e=>frzs b o xs (I.base.frzs b o xs e),λb ps e=>?_⟩,?_,λx c e=>?_,?_,λx c e=>?_,λp hp=>?_,hok,I.len⟩
 ·exact keep b o (neL b o e) hb (neC b o e hx) (I.base.keep b o e n hb hx) (I.base.free b o e n hx)
 ·obtain⟨sl,e1⟩:=I.base.slot b o e n hb hx;obtain⟨sl',e2⟩:=slot b _ (neL b o e) hb (neC b o e hx) e1 (I.base.free b o e n hx);exact⟨sl',e2⟩
 ·obtain⟨o',e1⟩:=I.base.there b o e hx;exact free b o' (neC b o e hx) e1 (I.base.free b o e n hx)
 ·obtain⟨o',e1⟩:=I.base.there b o e hx;exact there b o' (neC b o e hx) e1
 ·obtain⟨m1,e1⟩:=I.base.tbls b ps e;obtain⟨m2,e2⟩:=tbls b _ e1;exact⟨m1++m2,by rw[e2,Jt]⟩
 ·obtain⟨m,hn,hl⟩:=I.loc;refine⟨m,ns m hn,λi x v e1 e2 e3=>?_⟩;obtain⟨u,r,l⟩:=hl i x v e1 e2 e3;refine⟨u,r,?_⟩;rcases l with l|⟨k,c,e,z⟩
  ·exact .inl l
  ·exact .inr ⟨k,c,e,cellK x c e _ z⟩
 ·obtain⟨v,z⟩:=I.cell x c e;exact⟨v,cellK x c e v z⟩
 ·obtain⟨m,⟨o,_,_,ho,_⟩,_⟩:=I.loc;exact free _ o (λz=>(hch _ z).2.1 rfl) ho I.free
 ·obtain⟨v,o,ho,hd⟩:=I.cell x c e;exact free c o (λz=>(hch c z).2.2.1 x c e rfl) ho (I.freeC x c e)
 ·obtain⟨e,n,ne,nf,d⟩:=I.pin p hp;have nch:p.1 ∉ ch:=λz=>(hch p.1 z).2.2.2 p hp rfl;exact⟨keep p.1 p.2 ne nf nch e n,free p.1 p.2 nch e n,ne,nf,d⟩
theorem Inv.un {t':Nat}(I:Inv X pins σ H s)(u:Un X.fs [] H H' s.heap h')(hok:HOk X.prog X.w H' h'):Inv X pins σ H' {s with heap:=h',toks:=t'}:=by
 obtain⟨m,⟨o,es,ep,ho,r⟩,_⟩:=id I.loc;obtain⟨sl,hL⟩:=u.any ho I.free ⇑_
 exact I.step (g':=s.gens) (d':=s.drawn) (ch:=[]) (λ_ z=>nomatch z) (λb o _ hb _ e n=>u.keep b o e n hb ⇑_) (λb o _ hb _ e n=>u.slot b o e n hb ⇑_) (λb o _ e n=>u.free b o e n ⇑_) (λb o _ e=>u.there b o e ⇑_) u.tups u.frzs u.tbls (λm' hm=>by
  obtain⟨o',es',ep',ho',r'⟩:=hm;rw[ho] at ho';cases ho'
  exact⟨_,es',ep',hL,r'⟩) hok I.bare
theorem Inv.call {t':Nat}(I:Inv X pins σ H s)(u:Un (frs X.stack) ch H H' s.heap h')(hok:HOk X.prog X.w H' h')(hg:Kv g')
  (hch: ∀b∈ch,(b∈X.ex\/↥X.s₀<=b)/\b≠X.env.locals/\(∀x c,X.env.cells.lookup x=some c->c≠b)/\ ∀p∈X.pn++pins,p.1≠b):
  Inv X pins σ H' {s with heap:=h',gens:=g',drawn:=d',toks:=t'}:=by
 obtain⟨m,⟨o,es,ep,ho,r⟩,_⟩:=id I.loc;obtain⟨sl,hL⟩:=u.any ho I.free λz=>(hch _ z).2.1 rfl
 exact I.step (ch:=ch) hch (λb o hL hb hc e n=>u.keep b o e n (λz=>(GR.mp (I.stkSub b z)).elim hL hb) hc) (λb o _ _ hc e n=>u.any e n hc) (λb o hc e n=>u.free b o e n hc) (λb o hc e=>u.there b o e hc) u.tups u.frzs u.tbls (λm' hm=>by
  obtain⟨o',es',ep',ho',r'⟩:=hm;rw[ho] at ho';cases ho'
  exact⟨_,es',ep',hL,r'⟩) hok hg
theorem Inv.turned {t':Nat}(I:Inv X pins σ H s)(k:∀b o,b≠it->s.heap.get? b=some o->h'.get? b=some o)(hn:H it=none)(hL:it≠X.env.locals)
  (h1:it∈X.ex\/↥X.s₀<=it)(h2: ∀x c,X.env.cells.lookup x=some c->c≠it)(h3: ∀p∈X.pn++pins,p.1≠it):Inv X pins σ H {s with heap:=h',toks:=t'}:=by
 have nit: ∀b u,H b=some u->b≠it:=λb u e z=>by rw[z,hn] at e;cases e
 refine I.step (g':=s.gens) (d':=s.drawn) (ch:=[it]) (λb hb=>?_) (λb o _ _ hc e _=>k b o (λz=>hc (by simp [z])) e) (λb o _ _ hc e _=>⟨o.slots,k b o (λz=>hc (by simp [z])) e⟩) (λ_ _ _ _ n=>n)
  (λb o hc e=>⟨o,k b o (λz=>hc (by simp [z])) e⟩) (λ_ _ e=>e) (λ_ _ _ e=>e) (λb ps e=>⟨#[],by rw[e];simp⟩) (λm hm=>?_) (λb u e=>?_) I.bare
 ·have e:b=it:=by simpa using hb
  subst e;exact⟨h1,hL,h2,h3⟩
 ·obtain⟨o,es,ep,ho,r⟩:=hm;exact⟨o,es,ep,k _ o (Ne.symm hL) ho,r⟩
 ·refine (I.hok b u e).stay (λc v hc q=>k c v ?_ q) (λ_ q=>q) λ_ _ q=>q;rcases hc with z|z
  ·rw[z];exact nit b u e
  ·exact nit c _ z
theorem Inv.tok (I:Inv X pins σ H s)(t:Nat):Inv X pins σ H {s with toks:=t}:=I.un (h':=s.heap) (t':=t) Un.refl I.hok
theorem Inv.kept {t':Nat}(I:Inv X pins σ H s)(k:∀b u,s.heap.get? b=some u->h'.get? b=some u):Inv X pins σ H {s with heap:=h',toks:=t'}:=I.un (Un.kept k) (I.hok.kept k)
theorem Inv.laid {t':Nat}(I:Inv X pins σ H s)(k:∀b u,s.heap.get? b=some u->h'.get? b=some u)(hp:↥s<=a)(new:ObjOk X.prog X.w (upd H a o) h' a o):
 Inv X pins σ (upd H a o) {s with heap:=h',toks:=t'}:=I.un (Un.laid k hp (I.hok.fresh hp)) (I.hok.laid k hp new)
theorem Inv.write {t':Nat}(I:Inv X pins σ H s)(mu:Mut (H x))(he:e=x\/H e=some (.own x))(k:∀b u,b≠e->s.heap.get? b=some u->h'.get? b=some u)(heo: ∃u,h'.get? e=some u)
 (new:ObjOk X.prog X.w (upd H x o) h' x o):Inv X pins σ (upd H x o) {s with heap:=h',toks:=t'}:=I.un (Un.write mu he k heo) (I.hok.write mu he k heo new)
theorem Inv.weak (I:Inv X pins σ H s)(hl:σ'.length=σ.length)(w:∀ (i:Nat) v,σ'[i]?=some (some v)->σ[i]?=some (some v)):Inv X pins σ' H s:=
 ⟨I.ok,I.os,I.bare,I.base,let ⟨m,hn,hl'⟩:=I.loc;⟨m,hn,λi x v e1 e2 e3=>hl' i x v e1 (w i v e2) e3⟩,I.cell,I.free,I.freeC,I.pin,I.hok,hl.trans I.len⟩
theorem Inv.pins_of (I:Inv X pins σ H s)(h:∀p∈pins',s.heap.get? p.1=some p.2/\H p.1=none/\p.1≠X.env.locals/\p.1 ∉ X.fs/\ ∀v,p.2.data≠.cell v):Inv X pins' σ H s:=
 ⟨I.ok,I.os,I.bare,I.base,I.loc,I.cell,I.free,I.freeC,λp hp=>(HM.mp hp).elim (λz=>I.pin p (Im _ z)) (h p),I.hok,I.len⟩
theorem pZ {N:List Str}(hN:N.Nodup){i j:Nat}{x:Str}(a:N[i]?=some x)(b:N[j]?=some x):i=j:=by
 obtain⟨h1,e1⟩:=G1.mp a;obtain⟨h2,e2⟩:=G1.mp b;exact (List.getElem_inj hN).mp (e1.trans e2.symm)
theorem uA {M:Model}{E:J6->Kd->Prop}{i:Nat}{x:Str}{Q:Unit->Kd->Prop}(I:Inv X pins σ H s)(hN:X.N.Nodup)(hi:X.N[i]?=some x)(hx:Loc X.env.scope x)(r:RelV v u)
  (h:∀s',Inv X pins (σ.set i (some v)) H s'->(∃a,Hy a s.heap s'.heap/\(a=X.env.locals\/X.env.cells.lookup x=some a))->Q () s')(hf:X.fn x=true\/X.env.scope.names.lookup x=some .local :=by subst_vars):Kh M A (storeName X.env x u) Q E s:=by
 obtain⟨m,hn,hl⟩:=id I.loc;have hcls:(X.env.scope.kind==.class||(X.env.scope.kind==.module && X.env.locals !=X.env.globals))=false:=by rw[I.ok.kind];rfl
 have hiσ:i<σ.length:=by rw[I.len];exact (G1.mp hi).1
 have cne:=I.cne;have tracked: ∀ {a:Kb}{h':Ka},(∃o,s.heap.get? a=some o/\H a=none)->Hy a s.heap h'->HOk X.prog X.w H h':=λ{a h'} ha hs b ob e=>by
  obtain⟨_,_,hfree⟩:=ha;refine (I.hok b ob e).stay (λc w' hc q=>(hs.2 c ?_).trans q) (λ_ q=>q) λ_ _ q=>q
  rintro rfl
  rcases hc with rfl|hc
  ·rw[hfree] at e;cases e
  ·rw[hfree] at hc;cases hc
 rcases hx with hk|hk
 ·refine wpAny_storeName_local hk hn (λh' hn' hs=>?_) hcls;obtain⟨oL,_,_,hoL,_⟩:=id hn;refine h _ ⟨I.ok,I.os,I.bare,⟨λb o e n hb hx=>?_,λb o e n hb hx=>?_,I.base.free,λb o e hx=>?_,I.base.tups,I.base.frzs,I.base.tbls⟩,⟨_,hn',λj y v' e1 e2 e3=>?_⟩,λy c e=>?_,I.free,I.freeC,λp hp=>?_,tracked ⟨oL,hoL,I.free⟩ hs,by simpa using I.len⟩ ⟨_,hs,.inl rfl⟩
  ·exact (hs.2 b (G7 (Ha (GU e) I.ok.above))).trans (I.base.keep b o e n hb hx)
  ·obtain⟨sl,e1⟩:=I.base.slot b o e n hb hx;exact⟨sl,(hs.2 b (G7 (Ha (GU e) I.ok.above))).trans e1⟩
  ·obtain⟨o',e1⟩:=I.base.there b o e hx;exact⟨o',(hs.2 b (G7 (Ha (GU e) I.ok.above))).trans e1⟩
  ·by_cases hj:j=i
   ·subst hj;rw[hi] at e1;cases e1;rw[HR hiσ] at e2;cases e2;exact⟨u,r,.inl ⟨hk,⇑_⟩⟩
   ·rw[GP (Ne.symm hj)] at e2;obtain⟨u',r',q⟩:=hl j y v' e1 e2 e3;refine⟨u',r',?_⟩;rcases q with⟨k,e⟩|⟨k,c,e,z⟩
    ·refine .inl ⟨k,?_⟩;have:y≠x:=λe=>hj (pZ hN e1 (e▸hi));simp [this,e]
    ·exact .inr ⟨k,c,e,z.sameBut hs (cne y c e)⟩
  ·obtain⟨w',z⟩:=I.cell y c e;exact⟨w',z.sameBut hs (cne y c e)⟩
  ·obtain⟨e,n,ne,nf,d⟩:=I.pin p hp;exact⟨(hs.2 p.1 ne).trans e,n,ne,nf,d⟩
 ·have hfn:X.fn x=true:=by
   rcases hf with z|z
   ·exact z
   ·rw[z] at hk;cases hk
  obtain⟨c,hc⟩:=I.ok.has x (.inl hk);obtain⟨w',z⟩:=I.cell x c hc;refine wpAny_storeName_cell I.ok.kind hk hc z (λh' hc' hs=>?_);obtain⟨oc,hoc,hocd⟩:=id z;refine h {s with heap:=h'} ⟨I.ok,I.os,I.bare,⟨λb o e n hb hx=>?_,λb o e n hb hx=>?_,I.base.free,λb o e hx=>?_,I.base.tups,I.base.frzs,I.base.tbls⟩,⟨m,hn.sameBut hs (Ne.symm (cne x c hc)),λj y v' e1 e2 e3=>?_⟩,λy c' e=>?_,I.free,I.freeC,λp hp=>?_,tracked ⟨oc,hoc,I.freeC x c hc⟩ hs,by simpa using I.len⟩ ⟨c,hs,.inr hc⟩
  ·exact (hs.2 b (G7 (Ha (GU e) (I.ok.cab x c hfn hc)))).trans (I.base.keep b o e n hb hx)
  ·obtain⟨sl,e1⟩:=I.base.slot b o e n hb hx;exact⟨sl,(hs.2 b (G7 (Ha (GU e) (I.ok.cab x c hfn hc)))).trans e1⟩
  ·obtain⟨o',e1⟩:=I.base.there b o e hx;exact⟨o',(hs.2 b (G7 (Ha (GU e) (I.ok.cab x c hfn hc)))).trans e1⟩
  ·by_cases hj:j=i
   ·subst hj;rw[hi] at e1;cases e1;rw[HR hiσ] at e2;cases e2;exact⟨u,r,.inr ⟨.inl hk,c,hc,hc'⟩⟩
   ·rw[GP (Ne.symm hj)] at e2;obtain⟨u',r',q⟩:=hl j y v' e1 e2 e3;refine⟨u',r',?_⟩;rcases q with q|⟨k,c',e,z'⟩
    ·exact .inl q
    ·refine .inr ⟨k,c',e,z'.sameBut hs ?_⟩
     rintro rfl
     exact hj (pZ hN e1 (I.ok.inj _ _ _ e hc▸hi))
  ·by_cases hcc:c'=c
   ·subst hcc;exact⟨_,hc'⟩
   ·obtain⟨w2,z2⟩:=I.cell y c' e;exact⟨w2,z2.sameBut hs hcc⟩
  ·obtain⟨e,n,ne,nf,d⟩:=I.pin p hp;refine⟨(hs.2 p.1 ?_).trans e,n,ne,nf,d⟩;intro q;rw[q,hoc] at e;have q':oc=p.2:=Option.some.inj e;exact d w' (by rw[<-q'];exact hocd)
theorem kT {M:Model}{E:J6->Kd->Prop}{i:Nat}{x:Str}{Q:Unit->Kd->Prop}(I:Inv X pins σ H s)(hN:X.N.Nodup)(hi:X.N[i]?=some x)(hx:Loc X.env.scope x)(r:RelV v u)
  (h:∀s',Inv X pins (σ.set i (some v)) H s'->Q () s')(hf:X.fn x=true\/X.env.scope.names.lookup x=some .local :=by subst_vars):Kh M A (storeName X.env x u) Q E s:=
 uA I hN hi hx r (λs' I' _=>h s' I') hf
theorem Inv.call' (I:Inv X pins σ H s)(ho:s'.os=s.os)(u:Un (frs X.stack) ch H H' s.heap s'.heap)(hok:HOk X.prog X.w H' s'.heap)(hg:Kv s'.gens)
  (hch: ∀b∈ch,(b∈X.ex\/↥X.s₀<=b)/\b≠X.env.locals/\(∀x c,X.env.cells.lookup x=some c->c≠b)/\ ∀p∈X.pn++pins,p.1≠b):Inv X pins σ H' s':=by
 obtain⟨h',g',d',t',o'⟩:=s';have e:o'=s.os:=ho;subst e;exact I.call (g':=g') (t':=t') (d':=d') u hok hg hch
end
noncomputable abbrev XK:=J6->Option Kb->Hp->Prop
noncomputable abbrev St:=List (Option V)
noncomputable abbrev VK:=V->Hp->Prop
noncomputable abbrev TE:=St->Hp->VK->Prop
noncomputable abbrev TT:=St->Hp->(Bool->Hp->Prop)->Prop
noncomputable abbrev TA:=St->Hp->(List V->Hp->Prop)->Prop
structure Ls where
 nx:St->Hp->Prop
 rt:VK
 bk:St->Hp->Prop:=λ_ _=>False
 ct:St->Hp->Prop:=λ_ _=>False
noncomputable abbrev TS:=Ls->St->Hp->Prop
noncomputable def EP (X:Cx)(pins:List (Kb×Ke))(σ:St)(Q:VK)(u:J6)(s':Kd):Prop:= ∃v H',Inv X pins σ H' s'/\RelV v u/\Q v H'
noncomputable def TP (X:Cx)(pins:List (Kb×Ke))(σ:St)(Q:Bool->Hp->Prop)(b:Bool)(s':Kd):Prop:= ∃H',Inv X pins σ H' s'/\Q b H'
noncomputable def AP (X:Cx)(pins:List (Kb×Ke))(σ:St)(Q:List V->Hp->Prop)(us:List J6)(s':Kd):Prop:= ∃vs H',Inv X pins σ H' s'/\Vals vs us/\Q vs H'
noncomputable def SP (X:Cx)(pins:List (Kb×Ke))(D:Ls)(f:Flow)(s':Kd):Prop:=
 match f with
 |.next=> ∃σ' H',Inv X pins σ' H' s'/\D.nx σ' H'
 |.brk=> ∃σ' H',Inv X pins σ' H' s'/\D.bk σ' H'
 |.cont=> ∃σ' H',Inv X pins σ' H' s'/\D.ct σ' H'
 |.ret u=> ∃v σ' H',Inv X pins σ' H' s'/\RelV v u/\D.rt v H'
noncomputable def PE (X:Cx)(e:Expr)(t:TE):Prop:=
 ∀ (pins:List (Kb×Ke)) (s:Kd) (σ:St) (H:Hp) (Q:VK),Inv X pins σ H s->t σ H Q->Kh (Ki X.prog X.w) X.A (Kw e X.env) (EP X pins σ Q) X.xe s
noncomputable def PT (X:Cx)(e:Expr)(t:TT):Prop:=
 ∀ (pins:List (Kb×Ke)) (s:Kd) (σ:St) (H:Hp) (Q:Bool->Hp->Prop),Inv X pins σ H s->t σ H Q->Kh (Ki X.prog X.w) X.A (isTrue e X.env (Kw e X.env)) (TP X pins σ Q) X.xe s
noncomputable def PW (X:Cx)(e:Expr)(t:TT):Prop:=
 ∀ (whole:Sem J6) (pins:List (Kb×Ke)) (s:Kd) (σ:St) (H:Hp) (Q:Bool->Hp->Prop),Inv X pins σ H s->t σ H Q->Kh (Ki X.prog X.w) X.A (isTrue e X.env whole) (TP X pins σ Q) X.xe s
theorem PW.pt (h:PW X e t):PT X e t:=h _
noncomputable def PA (X:Cx)(es:List Expr)(t:TA):Prop:=
 ∀ (pos:Kx) (pins:List (Kb×Ke)) (s:Kd) (σ:St) (H:Hp) (Q:List V->Hp->Prop),Inv X pins σ H s->t σ H Q->Kh (Ki X.prog X.w) X.A (spliced (Ky pos (Kz es X.env))) (AP X pins σ Q) X.xe s
noncomputable def PS (X:Cx)(st:KA)(t:TS):Prop:=
 ∀ (pins:List (Kb×Ke)) (s:Kd) (σ:St) (H:Hp) (D:Ls),Inv X pins σ H s->t D σ H->Kh (Ki X.prog X.w) X.A (exec st X.env) (SP X pins D) X.xe s
noncomputable def PSs (X:Cx)(st:List KA)(t:TS):Prop:=
 ∀ (pins:List (Kb×Ke)) (s:Kd) (σ:St) (H:Hp) (D:Ls),Inv X pins σ H s->t D σ H->Kh (Ki X.prog X.w) X.A (execs st X.env) (SP X pins D) X.xe s
theorem thn {α:Type}{t:Sem α}{Q Q':α->Kd->Prop}{M:Model}{E:J6->Kd->Prop}(h:Kh M A t Q E s)(hQ: ∀a s,Q a s->Q' a s):Kh M A t Q' E s:=KB h hQ λ_ _ x=>x
end
section
section
variable {X:Cx}
theorem bin (ha:PE X a ta)(hb:PE X b tb){R:V->V->Hp->Prop}(I:Inv X pins σ H s)(h:ta σ H λx H1=>tb σ H1 λy H2=>R x y H2)
  {α:Type}{Q:α->Kd->Prop}{f:J6->J6->Sem α}
  (hf: ∀v u s2 x y H2,Inv X pins σ H2 s2->RelV x v->RelV y u->R x y H2->Kh (Ki X.prog X.w) X.A (f v u) Q X.xe s2):
  Kh (Ki X.prog X.w) X.A (Kw a X.env) (λv s₁=>Kh (Ki X.prog X.w) X.A (Kw b X.env) (λu s₂=>Kh (Ki X.prog X.w) X.A (f v u) Q X.xe s₂) X.xe s₁) X.xe s:=by
 refine thn (ha pins s σ H _ I h) λv s1 qz=>?_;obtain⟨x,H1,I1,r1,q1⟩:=qz;refine thn (hb pins s1 σ H1 _ I1 q1) λu s2 qz=>?_;obtain⟨y,H2,I2,r2,q2⟩:=qz;exact hf v u s2 x y H2 I2 r1 r2 q2
noncomputable def QL (i:Nat):TE:=λσ H Q=> ∃v,σ[i]?=some (some v)/\Q v H
noncomputable def tC (v:V):TE:=λ_ H Q=>Q v H
theorem Cn {i:Nat}{x:Str}(hN:X.N[i]?=some x)(hv:Vis X.env.scope x)(hd:(x==("__debug__":Str))=false:=by decide)(hcd:(x==("__classdict__":Str))=false:=by decide):PE X (.Name x pos) (QL i):=by
 intro pins s σ H Q I h;obtain⟨v,e,h⟩:=h;obtain⟨m,hn,hl⟩:=I.loc;obtain⟨u,r,l⟩:=hl i x v hN e hv;have fin:EP X pins σ Q u s:=⟨v,H,I,r,h⟩
 rcases l with⟨hk,hm⟩|⟨hk,c,hc,hcell⟩
 ·exact wpAny_Name (wpAny_loadName_local I.ok.kind hk hn hm fin) hd
 ·rcases hk with hk|hk
  ·exact wpAny_Name (wpAny_loadName_cell I.ok.kind hk hc hcell fin) hd
  ·exact wpAny_Name (wpAny_loadName_free I.ok.kind hk hc hcell fin hcd) hd
theorem OZ {i j pos}:PE X (.Constant (.int i) j pos) (tC (.int i)):=λ_ _ _ H _ I h=>wpAny_Constant_int ⟨.int i,H,I.tok _,⟨_,rfl⟩,h⟩
theorem OV {b j pos}:PE X (.Constant (.bool b) j pos) (tC (.bl b)):=λ_ _ _ H _ I h=>Constant_bool ⟨.bl b,H,I,rfl,h⟩
theorem O0 {j pos}:PE X (.Constant .none j pos) (tC .non):=λ_ _ _ H _ I h=>Constant_none ⟨.non,H,I,rfl,h⟩
theorem O3 {x j pos}:PE X (.Constant (.str x) j pos) (tC (.str x)):=λ_ _ _ H _ I h=>Calls.Constant_str ⟨.str x,H,I.tok _,⟨_,rfl⟩,h⟩
noncomputable def Gl (X:Cx)(x:Str):Prop:=X.env.kindOf x=some .globalImplicit
theorem jF {E:J6->Kd->Prop}{x:Str}{Q:J6->Kd->Prop}(I:Inv X pins σ H s)(hg:Gl X x)(hm:X.mg x=some u)(h:Q u s)
  (hd:(x==("__debug__":Str))=false:=by decide):Kh (Ki X.prog X.w) X.A (Kw (.Name x pos) X.env) Q E s:=
 Calls.Name_function_global I.ok.kind hg (Calls.loadGlobal_global (by rw[I.ok.glob];exact I.mod.glob.keeps I.bk) hm h) hd
theorem im {E:J6->Kd->Prop}{x:Str}{Q:J6->Kd->Prop}(I:Inv X pins σ H s)(hg:Gl X x)(hm:X.mg x=none)(hv:Kt x=some u)(h:Q u s)
  (hn:x≠ "__name__":=by decide)(hd:(x==("__debug__":Str))=false:=by decide):Kh (Ki X.prog X.w) X.A (Kw (.Name x pos) X.env) Q E s:=by
 obtain⟨mb,h1,h2⟩:=I.mod.blt;exact Calls.Name_function_global I.ok.kind hg (Calls.loadGlobal_builtin (by rw[I.ok.glob];exact I.mod.glob.keeps I.bk) hm (by rw[I.ok.blt];exact h1.keeps I.bk) ((h2 x hn).trans hv) h) hd
theorem dm {x:Str}(hg:Gl X x)(hm:X.mg x=some u)(r:RelV v u)(hd:(x==("__debug__":Str))=false:=by decide):PE X (.Name x pos) (tC v):=
 λ_ _ _ H _ I h=>jF I hg hm ⟨v,H,I,r,h⟩ hd
variable {a b:Expr}{ta tb:TE}{pos:Kx}
noncomputable def tB (t:TE):TT:=λσ H Q=>t σ H λx H1=> ∃c,x=.bl c/\Q c H1
theorem gm (h:PE X e t)(he: ∀whole,isTrue e X.env whole=(do let v<-whole;KE e.pos;KF [v] (truthy v)):=by intro _;rfl):PT X e (tB t):=by
 intro pins s σ H Q I hw;refine isTrue_plain (thn (h pins s σ H _ I hw) λv s1 qz=>?_) (he _);obtain⟨x,H1,I1,r1,q1⟩:=qz;obtain⟨d,rfl,q⟩:=q1;cases r1;exact Ko ⟨H1,I1,q⟩
variable {tA tB':TT}{rest:List Expr}
noncomputable def tAnd (t u:TT):TT:=λσ H Q=>t σ H λc H1=>if c=true then u σ H1 Q else Q false H1
noncomputable def tOr (t u:TT):TT:=λσ H Q=>t σ H λc H1=>if c=true then Q true H1 else u σ H1 Q
noncomputable def tNot (t:TT):TT:=λσ H Q=>t σ H λc H1=>Q (!c) H1
theorem sZ (ha:PT X a tA):PW X (.BoolOp .And [a] pos) tA:=by
 intro wh pins s σ H Q I h;refine isTrue_and (thn (ha pins s σ H Q I h) λc s1 e=>?_);cases c with
 |true=>exact isTrue_and_nil e
 |false=>exact e
theorem rE (ha:PT X a tA):PW X (.BoolOp .Or [a] pos) tA:=by
 intro wh pins s σ H Q I h;refine isTrue_or (thn (ha pins s σ H Q I h) λc s1 e=>?_);cases c with
 |false=>exact isTrue_or_nil e
 |true=>exact e
theorem wQ (ha:PT X a tA)(hb:PW X (.BoolOp .And (b::rest) pos) tB'):PW X (.BoolOp .And (a::b::rest) pos) (tAnd tA tB'):=by
 intro wh pins s σ H Q I h;refine isTrue_and (thn (ha pins s σ H _ I h) λc s1 qz=>?_);obtain⟨H1,I1,q1⟩:=qz;cases c with
 |true=>exact hb wh pins s1 σ H1 Q I1 q1
 |false=>exact⟨H1,I1,q1⟩
theorem wP (ha:PT X a tA)(hb:PW X (.BoolOp .Or (b::rest) pos) tB'):PW X (.BoolOp .Or (a::b::rest) pos) (tOr tA tB'):=by
 intro wh pins s σ H Q I h;refine isTrue_or (thn (ha pins s σ H _ I h) λc s1 qz=>?_);obtain⟨H1,I1,q1⟩:=qz;cases c with
 |true=>exact⟨H1,I1,q1⟩
 |false=>exact hb wh pins s1 σ H1 Q I1 q1
theorem rF (ha:PT X a tA):PT X (.UnaryOp .Not a pos) (tNot tA):=by
 intro pins s σ H Q I h;exact isTrue_not (ha pins s σ H (λc H1=>Q (!c) H1) I h)
noncomputable def tAndV (ta tb:TE):TE:=λσ H Q=>ta σ H λx H1=> ∃c,x=.bl c/\if c=true then tb σ H1 Q else Q (.bl false) H1
noncomputable def tOrV (ta tb:TE):TE:=λσ H Q=>ta σ H λx H1=> ∃c,x=.bl c/\if c=true then Q (.bl true) H1 else tb σ H1 Q
noncomputable def tNotV (ta:TE):TE:=λσ H Q=>ta σ H λx H1=> ∃c,x=.bl c/\Q (.bl (!c)) H1
theorem rK {op}(h:PE X a t):PE X (.BoolOp op [a] pos) t:=λpins s σ H Q I hw=>BoolOp_one (h pins s σ H Q I hw)
theorem rL (ha:PE X a ta)(hb:PE X (.BoolOp .And (b::rest) pos) tb):PE X (.BoolOp .And (a::b::rest) pos) (tAndV ta tb):=by
 intro pins s σ H Q I h;refine BoolOp_and (thn (ha pins s σ H _ I h) λv s1 qz=>?_);obtain⟨x,H1,I1,r1,q1⟩:=qz;obtain⟨c,rfl,q1⟩:=q1;cases r1;refine Ko ?_;cases c with
 |true=>exact hb pins s1 σ H1 Q I1 q1
 |false=>exact⟨.bl false,H1,I1,rfl,q1⟩
theorem EL (ha:PE X a ta)(hb:PE X (.BoolOp .Or (b::rest) pos) tb):PE X (.BoolOp .Or (a::b::rest) pos) (tOrV ta tb):=by
 intro pins s σ H Q I h;refine BoolOp_or (thn (ha pins s σ H _ I h) λv s1 qz=>?_);obtain⟨x,H1,I1,r1,q1⟩:=qz;obtain⟨c,rfl,q1⟩:=q1;cases r1;refine Ko ?_;cases c with
 |false=>exact hb pins s1 σ H1 Q I1 q1
 |true=>exact⟨.bl true,H1,I1,rfl,q1⟩
theorem xf (ha:PE X a ta):PE X (.UnaryOp .Not a pos) (tNotV ta):=by
 intro pins s σ H Q I h;refine UnaryOp_ (thn (ha pins s σ H _ I h) λv s1 qz=>?_);obtain⟨x,H1,I1,r1,q1⟩:=qz;obtain⟨c,rfl,q1⟩:=q1;cases r1;exact not_of (Ko ⟨.bl (!c),H1,I1,rfl,q1⟩)
noncomputable def tIf (t:TT)(ta tb:TE):TE:=λσ H Q=>t σ H λc H1=>if c=true then ta σ H1 Q else tb σ H1 Q
theorem xh (hc:PT X c tA)(ha:PE X a ta)(hb:PE X b tb):PE X (.IfExp c a b pos) (tIf tA ta tb):=by
 intro pins s σ H Q I h;refine wpAny_IfExp (thn (hc pins s σ H _ I h) λd s1 qz=>?_);obtain⟨H1,I1,q1⟩:=qz;cases d with
 |true=>exact ha pins s1 σ H1 Q I1 q1
 |false=>exact hb pins s1 σ H1 Q I1 q1
end
end
section
noncomputable def SqL (K:Zf)(H:Hp)(a:Kb)(xs:List V):Prop:=
 Rd H a (.lst xs)\/
  ∃ (o:Ke) (its:Array J6) (n:Nat),K.lookup a=some o/\o.cls=.type "list"/\o.dict=none/\o.data=.seq its n/\its.size<=sizeLine/\Vals xs its.toList
noncomputable def SqT (K:Zf)(H:Hp)(a:Kb)(xs:List V):Prop:=
 Rd H a (.tup xs)\/
  ∃ (o:Ke) (its:Array J6) (n:Nat),K.lookup a=some o/\o.cls=.type "tuple"/\o.data=.seq its n/\its.size<=sizeLine/\Vals xs its.toList
noncomputable def absV:J6->Option V
 |.none=>some .non
 |.bool b=>some (.bl b)
 |.int i _=>some (.int i)
 |.str x _=>some (.str x)
 |.bytes b _=>some (.byt b)
 |.float b _=>some (.flt b)
 |.ref a=>some (.ref a)
 |.type n=>some (.ty n)
 |_=>none
theorem RelV.abs (r:RelV x u):absV u=some x:=by
 cases x with
 |non=>cases r;rfl
 |bl _=>cases r;rfl
 |int _=>obtain⟨t,rfl⟩:=r;rfl
 |str _=>obtain⟨t,rfl⟩:=r;rfl
 |byt _=>obtain⟨t,rfl⟩:=r;rfl
 |flt _=>obtain⟨t,rfl⟩:=r;rfl
 |ref _=>cases r;rfl
 |ty _=>cases r;rfl
theorem RelV.inj (r:RelV x u)(q:RelV y u):x=y:=Option.some.inj (r.abs.symm.trans q.abs)
theorem Vals.inj: ∀ {xs ys:List V}{us:List J6},Vals xs us->Vals ys us->xs=ys
 :=by
 intro xs ys us h
 induction h generalizing ys with
 |nil=>intro g;cases g;rfl
 |cons r t ih=>
  intro g;cases g with
  |cons r' t'=>rw[r.inj r',ih t']
section
variable {X:Cx}{pins:List (Kb×Ke)}{σ:St}{H:Hp}{s:Kd}{a:Kb}{xs ys:List V}
theorem SqL.of {K:Zf}(h:H a=some (.lst xs)):SqL K H a xs:=.inl (.inl h)
theorem SqT.of {K:Zf}(h:H a=some (.tup xs)):SqT K H a xs:=.inl (.inl h)
theorem Inv.list (I:Inv X pins σ H s)(h:SqL X.K H a xs): ∃its:List J6,Vals xs its/\PlainL s.heap a its.toArray/\xs.length<=sizeLine:=by
 rcases h with h|⟨o,its,n,hk,hc,hd,hs,hz,r⟩
 ·obtain⟨z,its,n,r,e⟩:=h.ok I.hok;exact⟨its,r,⟨_,n,e,rfl,rfl,rfl⟩,z⟩
 ·refine⟨its.toList,r,⟨o,n,I.kIn a o hk,hc,hd,by simpa using hs⟩,?_⟩;have e:=r.length;simp only[Io] at e;omega
theorem Inv.tuple (I:Inv X pins σ H s)(h:SqT X.K H a xs): ∃its:List J6,Vals xs its/\IsTup s.heap a its.toArray/\xs.length<=sizeLine:=by
 rcases h with h|⟨o,its,n,hk,hc,hs,hz,r⟩
 ·obtain⟨z,its,r,p⟩:=h.ok I.hok;exact⟨its,r,p.1,z⟩
 ·refine⟨its.toList,r,⟨o,I.kIn a o hk,hc,n,by simpa using hs⟩,?_⟩;have e:=r.length;simp only[Io] at e;omega
theorem Inv.list_inj (I:Inv X pins σ H s)(h:SqL X.K H a xs)(h':SqL X.K H a ys):xs=ys:=by
 obtain⟨its,r,⟨o,n,e,_,_,d⟩,_⟩:=I.list h;obtain⟨its',r',⟨o',n',e',_,_,d'⟩,_⟩:=I.list h';rw[e] at e';cases e';rw[d] at d';injection d' with d1 _
 have:its=its':=by simpa using congrArg Array.toList d1
 subst this;exact r.inj r'
theorem Inv.tuple_inj (I:Inv X pins σ H s)(h:SqT X.K H a xs)(h':SqT X.K H a ys):xs=ys:=by
 obtain⟨its,r,⟨o,e,_,n,d⟩,_⟩:=I.tuple h;obtain⟨its',r',⟨o',e',_,n',d'⟩,_⟩:=I.tuple h';rw[e] at e';cases e';rw[d] at d';injection d' with d1 _
 have:its=its':=by simpa using congrArg Array.toList d1
 subst this;exact r.inj r'
end
noncomputable abbrev Cx.wish (X:Cx)(E:J6->Kd->Prop):Cx:={X with xe:=E}
noncomputable abbrev Cx.nox (X:Cx):Cx:=X.wish λ_ _=>False
theorem Cx.Ok.wish {X:Cx}(ok:X.Ok)(E:J6->Kd->Prop):(X.wish E).Ok:=
 ⟨ok.mod,ok.kind,ok.glob,ok.blt,ok.above,ok.inj,ok.has,ok.cab,ok.hd,ok.frames,ok.stk,ok.exf,ok.bs,ok.bsz,ok.noex,ok.exfs,ok.funs,ok.frf⟩
theorem Cx.Ok.unwish {X:Cx}{E:J6->Kd->Prop}(ok:(X.wish E).Ok):X.Ok:=
 ⟨ok.mod,ok.kind,ok.glob,ok.blt,ok.above,ok.inj,ok.has,ok.cab,ok.hd,ok.frames,ok.stk,ok.exf,ok.bs,ok.bsz,ok.noex,ok.exfs,ok.funs,ok.frf⟩
section
variable {X:Cx}{pins:List (Kb×Ke)}{σ:St}{H:Hp}{s:Kd}{E:J6->Kd->Prop}
theorem Inv.wish (I:Inv X pins σ H s)(E:J6->Kd->Prop):Inv (X.wish E) pins σ H s:=⟨I.ok.wish E,I.os,I.bare,I.base,I.loc,I.cell,I.free,I.freeC,I.pin,I.hok,I.len⟩
theorem Inv.unwish (I:Inv (X.wish E) pins σ H s):Inv X pins σ H s:=⟨I.ok.unwish,I.os,I.bare,I.base,I.loc,I.cell,I.free,I.freeC,I.pin,I.hok,I.len⟩
theorem SP.unwish (h:SP (X.wish E) pins D f s'):SP X pins D f s':=by
 cases f with
 |next=>obtain⟨σ',H',I,q⟩:=h;exact⟨σ',H',I.unwish,q⟩
 |brk=>obtain⟨σ',H',I,q⟩:=h;exact⟨σ',H',I.unwish,q⟩
 |cont=>obtain⟨σ',H',I,q⟩:=h;exact⟨σ',H',I.unwish,q⟩
 |ret u=>obtain⟨v,σ',H',I,r,q⟩:=h;exact⟨v,σ',H',I.unwish,r,q⟩
theorem PSs.nox {st:List KA}(h:PSs X.nox st t):PSs X st t:=λpins s σ H D I hw=>
 KB (h pins s σ H D (I.wish _) hw) (λ_ _ q=>q.unwish) λ_ _ z=>False.elim z
end
section
variable {X:Cx}{st:KA}{rest:List KA}{t u:TS}{e:Expr}{te:TE}{pos:Kx}
noncomputable def tNext:TS:=λD σ H=>D.nx σ H
noncomputable def tSeq (t u:TS):TS:=λD σ H=>t {D with nx:=u D} σ H
theorem O8:PSs X [] tNext:=λ_ _ σ H _ I h=>KG ⟨σ,H,I,h⟩
theorem aA (h1:PS X st t)(h2:PSs X rest u):PSs X (st::rest) (tSeq t u):=by
 intro pins s σ H D I h;refine wpAny_execs_cons (thn (h1 pins s σ H {D with nx:=u D} I h) λf s1 q=>?_);cases f with
 |next=>
  obtain⟨σ',H',I',q⟩:=q;exact h2 pins s1 σ' H' D I' q
 |ret v=>exact q
 |brk=>exact q
 |cont=>exact q
theorem aR (h1:PS X st t):PSs X [st] t:=by
 intro pins s σ H D I h;refine wpAny_execs_cons (thn (h1 pins s σ H D I h) λf s1 q=>?_);cases f with
 |next=>exact KG q
 |ret v=>exact q
 |brk=>exact q
 |cont=>exact q
theorem Inv.quiet (I:Inv X pins σ H s):interactive X.env=false:=by simp [interactive,I.ok.kind]
noncomputable def tDrop (te:TE):TS:=λD σ H=>te σ H λ_ H1=>D.nx σ H1
theorem nY (he:PE X e te)(hs:swapsWith e none pos.line X.env=pure false:=by rfl):PS X (.Expr e pos) (tDrop te):=by
 intro pins s σ H D I h;exact wpAny_Expr_any (thn (he pins s σ H _ I h) λv s1 ⟨x,H1,I1,r1,q1⟩=>⟨σ,H1,I1,q1⟩) I.quiet hs
noncomputable def tRet (te:TE):TS:=λD σ H=>te σ H D.rt
theorem cJ (he:PE X e te):PS X (.Return (some e) pos) (tRet te):=by
 intro pins s σ H D I h;exact wpAny_Return_some (thn (he pins s σ H _ I h) λv s1 ⟨x,H1,I1,r1,q1⟩=>⟨x,σ,H1,I1,r1,q1⟩)
noncomputable def tIfS (c:TT)(t u:TS):TS:=λD σ H=>c σ H λb H1=>if b=true then t D σ H1 else u D σ H1
theorem gN (hc:PT X c tc)(ha:PSs X a t)(hb:PSs X b u):PS X (.If c a b pos) (tIfS tc t u):=by
 intro pins s σ H D I h;refine wpAny_If (thn (hc pins s σ H _ I h) λd s1 qz=>?_);obtain⟨H1,I1,q1⟩:=qz;cases d with
 |true=>exact ha pins s1 σ H1 D I1 q1
 |false=>exact hb pins s1 σ H1 D I1 q1
noncomputable def BS:TS:=λ_ _ _=>False
theorem uJ :PSs X sts BS:=λ_ _ _ _ _ _ h=>h.elim
end
noncomputable abbrev TG:=V->St->Hp->(St->Hp->Prop)->Prop
noncomputable abbrev TGs:=List V->St->Hp->(St->Hp->Prop)->Prop
noncomputable def PG (X:Cx)(target:Expr)(t:TG):Prop:=
 ∀ (pins:List (Kb×Ke)) (s:Kd) (σ:St) (H:Hp) (v:V) (u:J6) (Q:St->Hp->Prop),Inv X pins σ H s->RelV v u->t v σ H Q->
   Kh (Ki X.prog X.w) X.A (assign target X.env u) (λ_ s'=> ∃σ' H',Inv X pins σ' H' s'/\Q σ' H') X.xe s
noncomputable def PGs (X:Cx)(ts:List Expr)(t:TGs):Prop:=
 ∀ (pins:List (Kb×Ke)) (s:Kd) (σ:St) (H:Hp) (vs:List V) (us:List J6) (Q:St->Hp->Prop),Inv X pins σ H s->Vals vs us->t vs σ H Q->
   Kh (Ki X.prog X.w) X.A (assignInOrder ((KH ts X.env).map (·.2)) us) (λ_ s'=> ∃σ' H',Inv X pins σ' H' s'/\Q σ' H') X.xe s
noncomputable abbrev LS:=V->V->V->Hp->(Hp->Prop)->Prop
noncomputable def PSet (X:Cx)(t:LS):Prop:=
 ∀ (pins:List (Kb×Ke)) (s:Kd) (σ:St) (H:Hp) (o i v:V) (ov iv u:J6) (Q:Hp->Prop),Inv X pins σ H s->RelV o ov->RelV i iv->RelV v u->t o i v H Q->
   Kh (Ki X.prog X.w) X.A (setItem ov iv u) (λ_ s'=> ∃H',Inv X pins σ H' s'/\Q H') X.xe s
noncomputable abbrev TIp:=V->V->Hp->VK->Prop
noncomputable def PIp (X:Cx)(op:Operator)(t:TIp):Prop:=
 ∀ (pins:List (Kb×Ke)) (s:Kd) (σ:St) (H:Hp) (x y:V) (v u:J6) (Q:VK),Inv X pins σ H s->RelV x v->RelV y u->t x y H Q->
   Kh (Ki X.prog X.w) X.A (inplaceOp op v u) (EP X pins σ Q) X.xe s
section
variable {X:Cx}{pos:Kx}
noncomputable def MY (i:Nat):TG:=λv σ H Q=>Q (σ.set i (some v)) H
theorem dk {i:Nat}{x:Str}(hN:X.N.Nodup)(hi:X.N[i]?=some x)(hx:Loc X.env.scope x)(hf:X.fn x=true\/X.env.scope.names.lookup x=some .local :=by subst_vars):PG X (.Name x pos) (MY i):=by
 intro pins s σ H v u Q I r h;exact wpAny_assign_Name (kT I hN hi hx r (λs' I'=>⟨_,H,I',h⟩) hf)
noncomputable def gNil:TGs:=λvs σ H Q=>vs=[]/\Q σ H
noncomputable def MX (t:TG)(u:TGs):TGs:=λvs σ H Q=> ∃v r,vs=v::r/\t v σ H λσ' H'=>u r σ' H' Q
theorem tq:PGs X [] gNil:=by
 intro pins s σ H vs us Q I r h;obtain⟨e,h⟩:=h;subst e;cases r;exact assignInOrder_nil ⟨σ,H,I,h⟩
theorem lB (h1:PG X e t)(h2:PGs X es u)
  (hs:(KH (e::es) X.env).map (·.2)=assign e X.env::(KH es X.env).map (·.2):=by rfl):PGs X (e::es) (MX t u):=by
 intro pins s σ H vs us Q I r h;obtain⟨v,vr,e1,h⟩:=h;subst e1;cases r with
 |cons r rr=>
  rw[hs];refine assignInOrder_cons (thn (h1 pins s σ H _ _ _ I r h) λ_ s1 qz=>?_);obtain⟨σ1,H1,I1,q1⟩:=qz;exact h2 pins s1 σ1 H1 _ _ Q I1 rr q1
noncomputable def MZ (K:Zf)(n:Nat)(t:TGs):TG:=λv σ H Q=> ∃a xs,v=.ref a/\SqT K H a xs/\xs.length=n/\t xs σ H Q
theorem xc {k:Nat}{n:Nat}(hc:X.calm=true)(h:PGs X es t)
  (hn:(KH es X.env).length=n:=by rfl)(hst:(KH es X.env).findIdx? (·.1)=none:=by rfl):PG X (.Tuple es k pos) (MZ X.K n t):=by
 intro pins s σ H v u Q I r hw;obtain⟨a,xs,e1,hq,hl,hw⟩:=hw;subst e1;cases r;obtain⟨its,rv,ht,hz⟩:=I.tuple hq;refine assign_Tuple_tuple (I.ok.hd hc) ht (by simp [hn,<-hl,rv.length]) hst λh' hx=>?_;have I1:Inv X pins σ H {s with heap:=h'}:=I.kept (t':=s.toks) λb o e=>hx b o (G7 (GU e)) e;exact h pins _ σ H xs _ Q I1 (by simpa using rv) hw
noncomputable def gSub (to ti:TE)(t:LS):TG:=λv σ H Q=>to σ H λo H1=>ti σ H1 λi H2=>t o i v H2 λH3=>Q σ H3
theorem Cl {to ti:TE}(ho:PE X o to)(hi:PE X i ti)(hs:PSet X t)
  (ha: ∀v,assign (.Subscript o i pos) X.env v=(do
   let ov<-KF [v] (Kw o X.env);let iv<-KF [v,ov] (Kw i X.env)
   KE pos
   KF [v,ov,iv] (setItem ov iv v)
   release [v,ov,iv] []):=by intro _;rfl):PG X (.Subscript o i pos) (gSub to ti t):=by
 intro pins s σ H v u Q I r h;rw[ha];refine Kj (Kn (thn (ho pins s σ H _ I h) λov s1 qz=>?_));obtain⟨x,H1,I1,r1,q1⟩:=qz;refine Kj (Kn (thn (hi pins s1 σ H1 _ I1 q1) λiv s2 qz=>?_));obtain⟨y,H2,I2,r2,q2⟩:=qz;refine Kj (wpAny_standAt (Kj (Kn (thn (hs pins s2 σ H2 x y v ov iv u _ I2 r1 r2 r q2) λ_ s3 qz=>?_))));obtain⟨H3,I3,q3⟩:=qz;exact wpAny_release ⟨σ,H3,I3,q3⟩
noncomputable def tAsg (te:TE)(g:TG):TS:=λD σ H=>te σ H λx H1=>g x σ H1 D.nx
theorem wV (he:PE X e te)(hg:PG X tg g)(hs:swapsWithSole [tg] e pos.line X.env=pure false:=by rfl)(hw:swappedStores [tg] e X.env=pure none:=by rfl)
  (h1:(KH [tg] X.env).map (·.2)=[assign tg X.env]:=by rfl):PS X (.Assign [tg] e pos) (tAsg te g):=by
 intro pins s σ H D I h;refine wpAny_Assign_stores (thn (he pins s σ H _ I h) λv s1 qz=>?_) hs hw;obtain⟨x,H1,I1,r1,q1⟩:=qz;rw[h1];exact thn (hg pins s1 σ H1 x v _ I1 r1 q1) λ_ s2 q=>q
theorem dJ {i:Nat}{x:Str}(hN:X.N.Nodup)(hi:X.N[i]?=some x)(hx:Loc X.env.scope x)(he:PE X e te)(hs:swapsWith e (some (.Name x pos')) pos.line X.env=pure false:=by rfl)(hf:X.fn x=true\/X.env.scope.names.lookup x=some .local :=by subst_vars):
  PS X (.Assign [.Name x pos'] e pos) (tAsg te (MY i)):=by
 intro pins s σ H D I h;refine wpAny_Assign_Name (thn (he pins s σ H _ I h) λv s1 qz=>?_) hs;obtain⟨y,H1,I1,r1,q1⟩:=qz;exact kT I1 hN hi hx r1 (λs2 I2=>⟨_,H1,I2,q1⟩) hf
noncomputable def tAug (i:Nat)(te:TE)(ti:TIp):TS:=λD σ H=> ∃x,σ[i]?=some (some x)/\te σ H λy H1=>ti x y H1 λz H2=>D.nx (σ.set i (some z)) H2
theorem Cd {i:Nat}{x:Str}(hN:X.N.Nodup)(hi:X.N[i]?=some x)(hx:Loc X.env.scope x)(he:PE X e te)(ho:PIp X op ti)(hf:X.fn x=true\/X.env.scope.names.lookup x=some .local :=by subst_vars):
  PS X (.AugAssign (.Name x pos') op e pos) (tAug i te ti):=by
 intro pins s σ H D I h;obtain⟨v,e1,h⟩:=h;obtain⟨m,hn,hl⟩:=I.loc;have vis:Vis X.env.scope x:=by rcases hx with k|k;exact .inl k;exact .inr (.inl k)
 obtain⟨u,r,l⟩:=hl i x v hi e1 vis;refine wpAny_AugAssign_Name ?_;have go:Kh (Ki X.prog X.w) X.A (Kw e X.env) (λw s₂=>Kh (Ki X.prog X.w) X.A (inplaceOp op u w) (λr s₃=>Kh (Ki X.prog X.w) X.A (storeName X.env x r) (λ_=>SP X pins D .next) X.xe s₃) X.xe s₂) X.xe s:=by
  refine thn (he pins s σ H _ I h) λw s1 qz=>?_;obtain⟨y,H1,I1,r1,q1⟩:=qz;refine thn (ho pins s1 σ H1 v y u w _ I1 r r1 q1) λz s2 qz=>?_;obtain⟨zv,H2,I2,r2,q2⟩:=qz;exact kT I2 hN hi hx r2 (λs3 I3=>⟨_,H2,I3,q2⟩) hf
 rcases l with⟨hk,hm⟩|⟨hk,c,hc,hcell⟩
 ·exact wpAny_loadName_local I.ok.kind hk hn hm go
 ·rcases hk with hk|hk
  ·exact wpAny_loadName_cell I.ok.kind hk hc hcell go
  ·rcases hx with k|k
   ·have:X.env.scope.names.lookup x=some .free:=hk;rw[k] at this;cases this
   ·have:X.env.scope.names.lookup x=some .free:=hk;rw[k] at this;cases this
noncomputable def tAugS (to ti te:TE)(tget:V->V->Hp->VK->Prop)(tip:TIp)(tset:LS):TS:=λD σ H=>to σ H λo H1=>ti σ H1 λi H2=>tget o i H2 λx H3=>te σ H3 λy H4=>tip x y H4 λz H5=>tset o i z H5 λH6=>D.nx σ H6
noncomputable def PGet (X:Cx)(t:V->V->Hp->VK->Prop):Prop:=
 ∀ (pins:List (Kb×Ke)) (s:Kd) (σ:St) (H:Hp) (o i:V) (ov iv:J6) (Q:VK),Inv X pins σ H s->RelV o ov->RelV i iv->t o i H Q->
   Kh (Ki X.prog X.w) X.A (getItem ov iv) (EP X pins σ Q) X.xe s
theorem zM {to ti te:TE}{tget:V->V->Hp->VK->Prop}(ho:PE X o to)(hi:PE X i ti)(hg:PGet X tget)(he:PE X e te)(hp:PIp X op tip)(hs:PSet X tset)
  (ha: ∀ov iv new,augStore i ov iv new=(do KF [new,ov,iv] (setItem ov iv new);release [new,ov,iv] [];pure .next):=by intros;rfl):PS X (.AugAssign (.Subscript o i tpos) op e pos) (tAugS to ti te tget tip tset):=by
 intro pins s σ H D I h;refine wpAny_AugAssign_SubscriptAny (thn (ho pins s σ H _ I h) λov s1 qz=>?_) ha;obtain⟨x1,H1,I1,r1,q1⟩:=qz;refine thn (hi pins s1 σ H1 _ I1 q1) λiv s2 qz=>?_;obtain⟨x2,H2,I2,r2,q2⟩:=qz;refine thn (hg pins s2 σ H2 x1 x2 ov iv _ I2 r1 r2 q2) λold s3 qz=>?_;obtain⟨x3,H3,I3,r3,q3⟩:=qz;refine thn (he pins s3 σ H3 _ I3 q3) λv s4 qz=>?_;obtain⟨x4,H4,I4,r4,q4⟩:=qz;refine thn (hp pins s4 σ H4 x3 x4 old v _ I4 r3 r4 q4) λnew s5 qz=>?_;obtain⟨x5,H5,I5,r5,q5⟩:=qz;exact thn (hs pins s5 σ H5 x1 x2 x5 ov iv new _ I5 r1 r2 r5 q5) λ_ s6 ⟨H6,I6,q6⟩=>⟨σ,H6,I6,q6⟩
end
section
variable {X:Cx}{pos:Kx}
noncomputable def BO (c:TT)(tb:TS):TS:=λD σ H=> ∃W:Nat->St->Hp->Prop,(∃m,W m σ H)/\ ∀m σ H,W m σ H->
 c σ H λb H1=>if b=true then∃N:St->Hp->Prop,(∀σ' H',N σ' H'-> ∃m',m'<m/\W m' σ' H')/\tb {D with nx:=N,ct:=N,bk:=D.nx} σ H1 else D.nx σ H1
theorem jt (hp:KI (Ki X.prog X.w) X.A X.env X.xe)(hc:PT X c tc)(hb:PSs X body tb):PS X (.While c body [] pos) (BO tc tb):=by
 intro pins s σ H D I h;obtain⟨W,⟨m0,w0⟩,turn⟩:=h;refine wpAny_While (codeAny_whileLoop (λn s'=> ∃σ' H',Inv X pins σ' H' s'/\W n σ' H') ?_ m0 ⟨σ,H,I,w0⟩)
 rintro n s1 ⟨σ1,H1,I1,w1⟩
 refine KJ hp (thn (hc pins s1 σ1 H1 _ I1 (turn n σ1 H1 w1)) λb s2 qz=>?_);obtain⟨H2,I2,q2⟩:=qz;cases b with
 |true=>
  obtain⟨N,hN,q2⟩:=q2;rw[if_pos rfl];refine KJ hp (thn (hb pins s2 σ1 H2 _ I2 q2) λf s3 q3=>?_);cases f with
  |next=>
   obtain⟨σ3,H3,I3,n3⟩:=q3;obtain⟨m',hm,w3⟩:=hN σ3 H3 n3;exact⟨m',hm,σ3,H3,I3,w3⟩
  |cont=>
   obtain⟨σ3,H3,I3,n3⟩:=q3;obtain⟨m',hm,w3⟩:=hN σ3 H3 n3;exact⟨m',hm,σ3,H3,I3,w3⟩
  |brk=>exact q3
  |ret v=>exact q3
 |false=>
  rw[if_neg G5];exact KG ⟨σ1,H2,I2,q2⟩
end
structure It where
 go:Nat->Hp->Prop
 yld:Nat->Hp->V->Hp->Prop
 stop:Nat->Hp->Prop
noncomputable def LC (X:Cx)(pins:List (Kb×Ke))(H:Hp)(b:Kb):Prop:=
 H b=none/\b≠X.env.locals/\b ∉ X.fs/\(b∈X.ex\/↥X.s₀<=b)/\(∀x c,X.env.cells.lookup x=some c->c≠b)/\ ∀p∈X.pn++pins,p.1≠b
theorem Inv.fpOk (I:Inv X pins σ H s)(hb:↥s<=b)(hn:H' b=none):LC X pins H' b:=by
 refine⟨hn,Ix (Ha I.lt hb),I.nofs hb,.inr (Hf I.sz hb),λx c e z=>?_,λp hp z=>?_⟩
 ·obtain⟨v,q⟩:=I.cell x c e;exact absurd (Ha q.lt (by rw[z];exact hb)) (HI _)
 ·exact absurd (Ha (GU (I.pin p hp).1) (by rw[z];exact hb)) (HI _)
structure LX (P:J8)(w:J9)(K:Zf)(tg:Expr)(J:It)(fp:List Kb)(it:Kb)(tn:Nat->Ka->Prop):Prop where
 mem:it∈fp
 obj: ∀i h,tn i h-> ∀b∈fp,∃o,h.get? b=some o/\ ∀v,o.data≠.cell v
 keep: ∀i h h',tn i h->(∀b∈fp,∀o,h.get? b=some o->h'.get? b=some o)->tn i h'
 item: ∀ (X:Cx),X.prog=P->X.w=w->X.K=K->X.calm=true-> ∀ (i:Nat) (pins:List (Kb×Ke)) (s:Kd) (σ:St) (H:Hp) (E:J6->Kd->Prop),Inv X pins σ H s->(∀b∈fp,LC X pins H b)->tn i s.heap->J.go i H->
  Kh (Ki P w) X.A (KL (.ref it)) (λr s1=> ∃u,r=some u/\
   Kh (Ki P w) X.A (KM tg (.ref it) u) (λ_ s2=> ∃x H',Inv X pins σ H' s2/\RelV x u/\J.yld i H x H'/\tn (i+1) s2.heap/\ ∀b∈fp,H' b=none) E s1) E s
 done: ∀ (X:Cx),X.prog=P->X.w=w->X.K=K->X.calm=true-> ∀ (i:Nat) (pins:List (Kb×Ke)) (s:Kd) (σ:St) (H:Hp) (E:J6->Kd->Prop),Inv X pins σ H s->(∀b∈fp,LC X pins H b)->tn i s.heap->J.stop i H->
  Kh (Ki P w) X.A (KL (.ref it)) (λr s1=>r=none/\Inv X pins σ H s1) E s
 self: ∀ (A:Kf) (i:Nat) (s:Kd) (Q:J6->Kd->Prop) (E:J6->Kd->Prop),tn i s.heap->Q (.ref it) s->Kh (Ki P w) A (pyIter (.ref it)) Q E s
noncomputable abbrev TI:=St->Hp->(It->Hp->Prop)->Prop
noncomputable def PIE (X:Cx)(pins:List (Kb×Ke))(σ:St)(tg:Expr)(R:It->Hp->Prop)(itv:J6)(s2:Kd):Prop:=
 ∃ (it:Kb) (fp:List Kb) (tn:Nat->Ka->Prop) (J:It) (H':Hp),itv=.ref it/\Inv X pins σ H' s2/\LX X.prog X.w X.K tg J fp it tn/\tn 0 s2.heap/\(∀b∈fp,LC X pins H' b)/\R J H'
noncomputable def PI (X:Cx)(tg iter:Expr)(wi:TI):Prop:=
 ∀ (pins:List (Kb×Ke)) (s:Kd) (σ:St) (H:Hp) (R:It->Hp->Prop),Inv X pins σ H s->wi σ H R->
   Kh (Ki X.prog X.w) X.A (Kw iter X.env) (λv s1=>Kh (Ki X.prog X.w) X.A (pyIter v) (PIE X pins σ tg R) X.xe s1) X.xe s
theorem tY {M:Model}{E:J6->Kd->Prop}{Q:Unit->Kd->Prop}(ho:s.heap.get? it=some o)(hc:o.cls=.type n)(hd:o.data=.fields vs)
  (hn:["enumerate", "zip", "dict_itemiterator", "dict_reverseitemiterator", "odict_iterator", "itertools.zip_longest", "itertools.pairwise"].contains n=false)(hQ:Q () s):Kh M A (KM tg (.ref it) u) Q E s:=by
 unfold KM;cases tg<;>first
  |exact Kl hQ
  |(cases u<;>first
   |exact Kl hQ
   |(refine Kj (wpAny_load ho ?_)
     rw[hc,hd];show Kh M A (if (["enumerate", "zip", "dict_itemiterator", "dict_reverseitemiterator", "odict_iterator", "itertools.zip_longest", "itertools.pairwise"].contains n && vs[0]?==some (KN _))=true then _ else _) Q E s;rw[if_neg (by intro h;rw[hn,IN] at h;cases h)]
     exact Kl hQ))
noncomputable def Itl (K:Zf)(a:Kb):It:=
 ⟨λi H=> ∃xs x,SqL K H a xs/\xs[i]?=some x,λi H x H'=>H'=H/\ ∀xs,SqL K H a xs->xs[i]?=some x,λi H=> ∃xs,SqL K H a xs/\xs.length<=i⟩
noncomputable def Itt (K:Zf)(a:Kb):It:=
 ⟨λi H=> ∃xs x,SqT K H a xs/\xs[i]?=some x,λi H x H'=>H'=H/\ ∀xs,SqT K H a xs->xs[i]?=some x,λi H=> ∃xs,SqT K H a xs/\xs.length<=i⟩
noncomputable def Itr (lo:Int)(n:Nat):It:=⟨λi _=>i<n,λi H x H'=>H'=H/\x=.int (lo+i),λi _=>n<=i⟩
theorem uu {P:J8}{w:J9}{K:Zf}{tg:Expr}(a it:Kb):LX P w K tg (Itl K a) [it] it (λi h=>h.IsListIter it a i) where
 mem:=⇑_
 obj:=λi h st b hb=>by
  have e:b=it:=by simpa using hb
  subst e;obtain⟨o,e,c,d⟩:=st;exact⟨o,e,λv z=>by rw[d] at z;cases z⟩
 keep:=λi h h' st k=>st.at λo e=>k it ⇑_ o e
 item:=by
  intro X hP hw hK hc i pins s σ H E I hf st hg;subst hP hw hK;obtain⟨xs,x,hq,hx⟩:=hg;obtain⟨its,rv,p,hz⟩:=I.list hq;obtain⟨u,hu,ru⟩:=rv.get hx;obtain⟨f0,f1,f2,f3,f4,f5⟩:=hf it ⇑_;refine wpAny_pyNext_list_item st p.isList (x:=u) (by simpa using hu) λh' st' sb=>?_;have I1:Inv X pins σ H {s with heap:=h'}:=I.turned (t':=s.toks) (λb o hb e=>(sb.2 b hb).trans e) f0 f1 f3 f4 f5;obtain⟨o,e,c,d⟩:=id st';exact⟨u,rfl,tY (s:={s with heap:=h'}) e c d ↥_ ⟨x,H,I1,ru,⟨rfl,λys hy=>by rw[I.list_inj hy hq];exact hx⟩,st',λb hb=>(hf b hb).1⟩⟩
 done:=by
  intro X hP hw hK hc i pins s σ H E I hf st hg;subst hP hw hK;obtain⟨xs,hq,hx⟩:=hg;obtain⟨its,rv,p,hz⟩:=I.list hq;obtain⟨f0,f1,f2,f3,f4,f5⟩:=hf it ⇑_;have hl:=rv.length;exact wpAny_pyNext_list_end (I.ok.hd hc) st p.isList (by simp;omega) λh' eb=>⟨rfl,I.turned (t':=s.toks) (λb o hb e=>eb b o hb e) f0 f1 f3 f4 f5⟩
 self:=λ_ _ _ _ _ st h=>wpAny_pyIter_listiter st h
theorem qP {P:J8}{w:J9}{K:Zf}{tg:Expr}(a it:Kb):LX P w K tg (Itt K a) [it] it (λi h=>h.IsTupleIter it a i) where
 mem:=⇑_
 obj:=λi h st b hb=>by
  have e:b=it:=by simpa using hb
  subst e;obtain⟨o,e,c,d⟩:=st;exact⟨o,e,λv z=>by rw[d] at z;cases z⟩
 keep:=λi h h' st k=>st.at λo e=>k it ⇑_ o e
 item:=by
  intro X hP hw hK hc i pins s σ H E I hf st hg;subst hP hw hK;obtain⟨xs,x,hq,hx⟩:=hg;obtain⟨its,rv,p,hz⟩:=I.tuple hq;obtain⟨u,hu,ru⟩:=rv.get hx;obtain⟨f0,f1,f2,f3,f4,f5⟩:=hf it ⇑_;refine wpAny_pyNext_tuple_item st (show s.heap.IsTuple a its.toArray from p) (x:=u) (by simpa using hu) λh' st' sb=>?_;have I1:Inv X pins σ H {s with heap:=h'}:=I.turned (t':=s.toks) (λb o hb e=>(sb.2 b hb).trans e) f0 f1 f3 f4 f5;obtain⟨o,e,c,d⟩:=id st';exact⟨u,rfl,tY (s:={s with heap:=h'}) e c d ↥_ ⟨x,H,I1,ru,⟨rfl,λys hy=>by rw[I.tuple_inj hy hq];exact hx⟩,st',λb hb=>(hf b hb).1⟩⟩
 done:=by
  intro X hP hw hK hc i pins s σ H E I hf st hg;subst hP hw hK;obtain⟨xs,hq,hx⟩:=hg;obtain⟨its,rv,p,hz⟩:=I.tuple hq;obtain⟨f0,f1,f2,f3,f4,f5⟩:=hf it ⇑_;have hl:=rv.length;exact wpAny_pyNext_tuple_end (I.ok.hd hc) st (show s.heap.IsTuple a its.toArray from p) (by simp;omega) λh' eb=>⟨rfl,I.turned (t':=s.toks) (λb o hb e=>eb b o hb e) f0 f1 f3 f4 f5⟩
 self:=λ_ _ _ _ _ st h=>wpAny_pyIter_tupleiter st h
theorem qQ {P:J8}{w:J9}{K:Zf}{tg:Expr}(it:Kb)(lo:Int)(n:Nat):LX P w K tg (Itr lo n) [it] it (λi h=>IsRangeIter h it (lo+(i:Nat) * 1) ((n:Int) - (i:Nat)) 1) where
 mem:=⇑_
 obj:=λi h st b hb=>by
  have e:b=it:=by simpa using hb
  subst e
  exact⟨_,st,λv z=>by
   have z':Data.fields _=Data.cell v:=z
   cases z'⟩
 keep:=λi h h' st k=>k it ⇑_ _ st
 item:=by
  intro X hP hw hK hc i pins s σ H E I hf st hg;subst hP hw hK;obtain⟨f0,f1,f2,f3,f4,f5⟩:=hf it ⇑_;have W:=Walks.range (prog:=X.prog) (w:=X.w) (I.ok.hd hc) it lo 1 n;refine W.item i s _ _ hg st λv h' tk hv st' kk=>?_;obtain⟨t,rfl⟩:=hv;have I1:Inv X pins σ H {s with heap:=h',toks:=tk}:=I.turned (λb o hb e=>kk b o (by simpa using hb) e) f0 f1 f3 f4 f5;refine⟨_,rfl,tY (s:={s with heap:=h',toks:=tk}) (n:= "range_iterator") st' rfl rfl ↥_ ⟨.int (lo+i),H,I1,⟨t,?_⟩,⟨rfl,rfl⟩,st',λb hb=>(hf b hb).1⟩⟩;rw[Int.mul_one]
 done:=by
  intro X hP hw hK hc i pins s σ H E I hf st hg;subst hP hw hK;obtain⟨f0,f1,f2,f3,f4,f5⟩:=hf it ⇑_;exact wpAny_pyNext_range_end (I.ok.hd hc) st (by have:n<=i:=hg;omega) λh' eb=>⟨rfl,I.turned (t':=s.toks) (λb o hb e=>eb b o hb e) f0 f1 f3 f4 f5⟩
 self:=λ_ _ _ _ _ st h=>wpAny_pyIter_rangeiter st h
end
section
section
variable {X:Cx}{tg:Expr}
noncomputable def iList (K:Zf)(tl:TE):TI:=λσ H R=>tl σ H λx H1=> ∃a,x=.ref a/\(∃xs,SqL K H1 a xs)/\R (Itl K a) H1
noncomputable def iTup (K:Zf)(tl:TE):TI:=λσ H R=>tl σ H λx H1=> ∃a,x=.ref a/\(∃xs,SqT K H1 a xs)/\R (Itt K a) H1
theorem zN (hl:PE X l tl):PI X tg l (iList X.K tl):=by
 intro pins s σ H R I h;refine thn (hl pins s σ H _ I h) λv s1 qz=>?_;obtain⟨x,H1,I1,r1,q1⟩:=qz;obtain⟨a,e,⟨xs,hq⟩,q⟩:=q1;subst e;cases r1;obtain⟨its,rv,p,hz⟩:=I1.list hq;refine wpAny_pyIter_list p.isList ?_;refine⟨↥s1,[↥s1],_,_,H1,rfl,I1.kept (t':=s1.toks) λb o e=>GZ _ e,uu a _,⟨_,He _ rfl,rfl,rfl⟩,λb hb=>?_,q⟩;have e:b=↥s1:=by simpa using hb
 subst e;exact I1.fpOk (GO _) (I1.hok.fresh (GO _))
theorem Ck (hl:PE X l tl):PI X tg l (iTup X.K tl):=by
 intro pins s σ H R I h;refine thn (hl pins s σ H _ I h) λv s1 qz=>?_;obtain⟨x,H1,I1,r1,q1⟩:=qz;obtain⟨a,e,⟨xs,hq⟩,q⟩:=q1;subst e;cases r1;obtain⟨its,rv,p,hz⟩:=I1.tuple hq;refine KO (show s1.heap.IsTuple a its.toArray from p) ?_;refine⟨↥s1,[↥s1],_,_,H1,rfl,I1.kept (t':=s1.toks) λb o e=>GZ _ e,qP a _,⟨_,He _ rfl,rfl,rfl⟩,λb hb=>?_,q⟩;have e:b=↥s1:=by simpa using hb
 subst e;exact I1.fpOk (GO _) (I1.hok.fresh (GO _))
theorem pS {R:It->Hp->Prop}{E:J6->Kd->Prop}{lo hi:Int}{tk:Nat}(I:Inv X pins σ H s)(h1: -(2 ^ 62)<=lo)(h2:lo<2 ^ 62)(h3: -(2 ^ 62)<=hi)(h4:hi<2 ^ 62)
  (q:R (Itr lo (hi - lo).toNat) H):Kh (Ki X.prog X.w) X.A (pyIter (.ref ↥s)) (PIE X pins σ tg R) E {s with heap:=s.heap.push {cls:=.type "range",data:=.fields #[.int lo t,.int hi u,.int 1 v]},toks:=tk}:=by
 refine wpAny_pyIter_range (IsRange.new ..) (small_one h1 h2 h3 h4) ?_;have I1:Inv X pins σ H {s with heap:=s.heap.push {cls:=.type "range",data:=.fields #[.int lo t,.int hi u,.int 1 v]},toks:=tk}:=I.kept λb o e=>GZ _ e
 refine⟨(s.heap.push {cls:=.type "range",data:=.fields #[.int lo t,.int hi u,.int 1 v]}).objs.size,[(s.heap.push {cls:=.type "range",data:=.fields #[.int lo t,.int hi u,.int 1 v]}).objs.size],_,_,H,rfl,
  I1.kept (t':=tk) λb o e=>GZ _ e,qQ _ lo (hi - lo).toNat,?_,λb hb=>?_,q⟩
 ·have e1:lo+((0:Nat):Int) * 1=lo:=⇑_;have e2:(((hi - lo).toNat:Nat):Int) - ((0:Nat):Int)=J7.Range.rangeSize lo hi 1:=by rw[rangeSize_one];split<;>omega
  show IsRangeIter _ _ (lo+((0:Nat):Int) * 1) ((((hi - lo).toNat:Nat):Int) - ((0:Nat):Int)) 1;rw[e1,e2];exact He _ rfl
 ·have e:b=(s.heap.push {cls:=.type "range",data:=.fields #[.int lo t,.int hi u,.int 1 v]}).objs.size:=by simpa using hb
  subst e;exact I1.fpOk (GO _) (I1.hok.fresh (GO _))
noncomputable def iRng1 (ta:TA):TI:=λσ H R=>ta σ H λvs H1=> ∃j:Int,vs=[.int j]/\ -(2 ^ 62)<=j/\j<2 ^ 62/\R (Itr 0 j.toNat) H1
noncomputable def iRng2 (ta:TA):TI:=λσ H R=>ta σ H λvs H1=> ∃i j:Int,vs=[.int i,.int j]/\(-(2 ^ 62)<=i/\i<2 ^ 62/\ -(2 ^ 62)<=j/\j<2 ^ 62)/\R (Itr i (j - i).toNat) H1
theorem uM (hg:Gl X "range")(hm:X.mg "range"=none)(ha:PA X [a] ta)(hs:Kz [a] X.env=[(false,Kw a X.env)]:=by rfl):PI X tg (.Call (.Name "range" p) [a] [] pos) (iRng1 ta):=by
 intro pins s σ H R I h;refine Call_ (im I hg hm boot_range (PyProof.Rows.callWith_type1 (thn (ha pos pins s σ H _ I h) λus s1 qz=>?_) hs rfl));obtain⟨vs,H1,I1,r1,q1⟩:=qz;obtain⟨j,e,q1,q2,q⟩:=q1;subst e;cases r1 with
 |cons r rr=>
  cases rr;obtain⟨t,rfl⟩:=r;exact call_range_1 (pS I1 ∅ ∅ q1 q2 (by simpa using q))
theorem uL (hg:Gl X "range")(hm:X.mg "range"=none)(ha:PA X [a,b] ta)(hs:Kz [a,b] X.env=[(false,Kw a X.env),(false,Kw b X.env)]:=by rfl)(hs2:Kz [b] X.env=[(false,Kw b X.env)]:=by rfl):
  PI X tg (.Call (.Name "range" p) [a,b] [] pos) (iRng2 ta):=by
 intro pins s σ H R I h;refine Call_ (im I hg hm boot_range (PyProof.Rows.callWith_type1 (thn (ha pos pins s σ H _ I h) λus s1 qz=>?_) (by rw[hs,hs2]) (by rw[hs2];rfl)));obtain⟨vs,H1,I1,r1,q1⟩:=qz;obtain⟨i,j,e,⟨q1,q2,q3,q4⟩,q⟩:=q1;subst e;cases r1 with
 |cons r rr=>
  cases rr with
  |cons r' rr=>
   cases rr;obtain⟨t,rfl⟩:=r;obtain⟨t',rfl⟩:=r';exact call_range_2 (pS I1 q1 q2 q3 q4 q)
noncomputable def tFor (wi:TI)(g:TG)(tb:TS):TS:=λD σ H=>wi σ H λJ H1=> ∃W:Nat->Nat->St->Hp->Prop,(∃m,W 0 m σ H1)/\ ∀i m σ H,W i m σ H->
 (J.stop i H/\D.nx σ H)\/(J.go i H/\ ∃N:St->Hp->Prop,(∀σ' H',N σ' H'-> ∃m',m'<m/\W (i+1) m' σ' H')/\ ∀x H',J.yld i H x H'->g x σ H' λσ2 H2=>tb {D with nx:=N,ct:=N,bk:=D.nx} σ2 H2)
noncomputable def lA (fp:List Kb)(h:Ka):List (Kb×Ke):=fp.filterMap λb=>(h.get? b).map λo=>(b,o)
theorem jc (hb:b∈fp)(e:h.get? b=some o):(b,o)∈lA fp h:=IP.mpr ⟨b,hb,by rw[e];rfl⟩
theorem uS (hp:p∈lA fp h):p.1∈fp/\h.get? p.1=some p.2:=by
 obtain⟨b,hb,e⟩:=IP.mp hp;cases q:h.get? b with
 |none=>rw[q] at e;cases e
 |some o=>
  rw[q] at e;have e':(b,o)=p:=Option.some.inj e;subst e';exact⟨hb,q⟩
theorem Inv.pinned (I:Inv X pins σ H s)(hf: ∀b∈fp,LC X pins H b)(ho: ∀b∈fp,∃o,s.heap.get? b=some o/\ ∀v,o.data≠.cell v):Inv X (pins++lA fp s.heap) σ H s:=
 I.pins_of λp hp=>(HM.mp hp).elim (λz=>I.pin p (Hu _ z)) λz=>by
  obtain⟨hb,e⟩:=uS z;obtain⟨f0,f1,f2,_⟩:=hf p.1 hb;obtain⟨o,e',d⟩:=ho p.1 hb;rw[e] at e';cases e';exact⟨e,f0,f1,f2,d⟩
theorem Inv.unpinned (I:Inv X (pins++pl) σ H s):Inv X pins σ H s:=I.pins_of λp hp=>I.pin p (Hu _ (Im _ hp))
theorem Cc (hp:KI (Ki X.prog X.w) X.A X.env X.xe)(hc:X.calm=true)(hi:PI X tg iter wi)(hg:PG X tg g)(hb:PSs X body tb)
  (hs: ∀x,KP iter X.env x=pure x:=by intro _;rfl):PS X (.For tg iter body [] pos) (tFor wi g tb):=by
 intro pins s σ H D I h;refine wpAny_For (thn (hi pins s σ H _ I h) λv s1 h1=>thn h1 λitv s2 h2=>?_) hs;obtain⟨it,fp,tn,J,H2,e,I2,T,st2,f2,W,⟨m0,w0⟩,turn⟩:=h2;subst e;have stat: ∀ {H':Hp},(∀b∈fp,H' b=none)-> ∀b∈fp,LC X pins H' b:=λhn b hb=>⟨hn b hb,(f2 b hb).2⟩
 refine codeAny_forLoop_any (λn s'=> ∃i σ' H',Inv X pins σ' H' s'/\tn i s'.heap/\(∀b∈fp,H' b=none)/\W i n σ' H') ?_ m0 ⟨0,σ,H2,I2,st2,λb hb=>(f2 b hb).1,w0⟩
 rintro n s3 ⟨i,σ3,H3,I3,st3,fr3,w3⟩
 rcases turn i n σ3 H3 w3 with⟨stop,qn⟩|⟨go,N,hN,step⟩
 ·refine KJ hp (thn (T.done X rfl rfl rfl hc i pins s3 σ3 H3 X.xe I3 (stat fr3) st3 stop) λr s4 qz=>?_);obtain⟨hr,I4⟩:=qz;subst hr;exact KG ⟨σ3,H3,I4,qn⟩
 ·refine KJ hp (thn (T.item X rfl rfl rfl hc i pins s3 σ3 H3 X.xe I3 (stat fr3) st3 go) λr s4 qz=>?_);obtain⟨u,hr,h4⟩:=qz;subst hr;refine KJ hp (thn h4 λ_ s5 qz=>?_);obtain⟨x,H5,I5,r5,y5,st5,fr5⟩:=qz;have I5':=I5.pinned (stat fr5) (T.obj _ _ st5);refine KJ hp (thn (hg _ s5 σ3 H5 x u _ I5' r5 (step x H5 y5)) λ_ s6 qz=>?_);obtain⟨σ6,H6,I6,q6⟩:=qz;refine KJ hp (thn (hb _ s6 σ6 H6 _ I6 q6) λf s7 q7=>?_);have again: ∀ {σ7:St}{H7:Hp},Inv X (pins++lA fp s5.heap) σ7 H7 s7->N σ7 H7-> ∃m,m<n/\ ∃i σ' H',Inv X pins σ' H' s7/\tn i s7.heap/\(∀b∈fp,H' b=none)/\W i m σ' H':=λ{σ7 H7} I7 n7=>by
   obtain⟨m',hm,w7⟩:=hN σ7 H7 n7;refine⟨m',hm,i+1,σ7,H7,I7.unpinned,T.keep _ _ _ st5 λb hb o e=>(I7.pin (b,o) (Hu _ (Hu _ (jc hb e)))).1,λb hb=>?_,w7⟩;obtain⟨o,e,d⟩:=T.obj _ _ st5 b hb;exact (I7.pin (b,o) (Hu _ (Hu _ (jc hb e)))).2.1
  cases f with
  |next=>obtain⟨σ7,H7,I7,n7⟩:=q7;exact again I7 n7
  |cont=>obtain⟨σ7,H7,I7,n7⟩:=q7;exact again I7 n7
  |brk=>obtain⟨σ7,H7,I7,q7⟩:=q7;exact⟨σ7,H7,I7.unpinned,q7⟩
  |ret v=>obtain⟨x7,σ7,H7,I7,r7,q7⟩:=q7;exact⟨x7,σ7,H7,I7.unpinned,r7,q7⟩
end
end
section
noncomputable abbrev R2:=V->V->Hp->VK->Prop
noncomputable def OpR (X:Cx)(f:J6->J6->Sem J6)(r:R2):Prop:=
 ∀ (pins:List (Kb×Ke)) (s:Kd) (σ:St) (H:Hp) (x y:V) (v u:J6) (Q:VK),Inv X pins σ H s->RelV x v->RelV y u->r x y H Q->
   Kh (Ki X.prog X.w) X.A (f v u) (EP X pins σ Q) X.xe s
noncomputable def UnR (X:Cx)(f:J6->Sem J6)(r:V->Hp->VK->Prop):Prop:=
 ∀ (pins:List (Kb×Ke)) (s:Kd) (σ:St) (H:Hp) (x:V) (v:J6) (Q:VK),Inv X pins σ H s->RelV x v->r x H Q->
   Kh (Ki X.prog X.w) X.A (f v) (EP X pins σ Q) X.xe s
noncomputable def CallR (X:Cx)(f:J6)(r:List V->Hp->VK->Prop):Prop:=
 ∀ (pins:List (Kb×Ke)) (s:Kd) (σ:St) (H:Hp) (xs:List V) (us:List J6) (Q:VK),Inv X pins σ H s->Vals xs us->r xs H Q->
   Kh (Ki X.prog X.w) X.A (call f us) (EP X pins σ Q) X.xe s
noncomputable def tOp (r:R2)(ta tb:TE):TE:=λσ H Q=>ta σ H λx H1=>tb σ H1 λy H2=>r x y H2 Q
noncomputable def tUn (r:V->Hp->VK->Prop)(ta:TE):TE:=λσ H Q=>ta σ H λx H1=>r x H1 Q
noncomputable def rI (C:Int->Int->Prop)(g:Int->Int->V):R2:=λx y H Q=> ∃i j,x=.int i/\y=.int j/\C i j/\Q (g i j) H
noncomputable def rI0 (g:Int->Int->V):R2:=λx y H Q=> ∃i j,x=.int i/\y=.int j/\Q (g i j) H
noncomputable def rU (g:Int->V):V->Hp->VK->Prop:=λx H Q=> ∃i,x=.int i/\Q (g i) H
section
variable {X:Cx}{a b:Expr}{ta tb:TE}{pos:Kx}
theorem L7 (ha:PE X a ta)(hb:PE X b tb){R:V->V->Hp->Prop}(I:Inv X pins σ H s)
  (h:ta σ H λx H1=>tb σ H1 λy H2=>R x y H2){Q:J6->Kd->Prop}{f:J6->J6->Sem J6}
  (hf: ∀v u s2 x y H2,Inv X pins σ H2 s2->RelV x v->RelV y u->R x y H2->Kh (Ki X.prog X.w) X.A (f v u) Q X.xe s2):
  Kh (Ki X.prog X.w) X.A (Kw a X.env) (λv s₁=>Kh (Ki X.prog X.w) X.A (Kw b X.env) (λu s₂=>Kh (Ki X.prog X.w) X.A (f v u) Q X.xe s₂) X.xe s₁) X.xe s:=by
 refine thn (ha pins s σ H _ I h) λv s1 qz=>?_;obtain⟨x,H1,I1,r1,q1⟩:=qz;refine thn (hb pins s1 σ H1 _ I1 q1) λu s2 qz=>?_;obtain⟨y,H2,I2,r2,q2⟩:=qz;exact hf v u s2 x y H2 I2 r1 r2 q2
theorem pU (ho:OpR X (KQ op) r)(ha:PE X a ta)(hb:PE X b tb):PE X (.BinOp a op b pos) (tOp r ta tb):=by
 intro pins s σ H Q I h;exact wpAny_BinOp (L7 ha hb I h λv u s2 x y H2 I2 rx ry q=>ho pins s2 σ H2 x y v u Q I2 rx ry q)
theorem EJ {r:V->Hp->VK->Prop}(ho:UnR X (unaryOp op) r)(ha:PE X a ta):PE X (.UnaryOp op a pos) (tUn r ta):=by
 intro pins s σ H Q I h;exact UnaryOp_ (thn (ha pins s σ H _ I h) λv s1 ⟨x,H1,I1,r1,q1⟩=>ho pins s1 σ H1 x v Q I1 r1 q1)
theorem opI {f:J6->J6->Sem J6}{C:Int->Int->Prop}{g:Int->Int->Int}
  (rule: ∀ (i j:Int) (t u:Tok) (s:Kd) (Q:J6->Kd->Prop) (E:J6->Kd->Prop),C i j->Q (.int (g i j) s.toks) {s with toks:=s.toks+1}->Kh (Ki X.prog X.w) X.A (f (.int i t) (.int j u)) Q E s):
  OpR X f (rI C λi j=>.int (g i j)):=by
 intro pins s σ H x y v u Q I rx ry h;obtain⟨i,j,rfl,rfl,hc,q⟩:=h;obtain⟨t,rfl⟩:=rx;obtain⟨t',rfl⟩:=ry;exact rule i j t t' s _ _ hc ⟨.int (g i j),H,I.tok _,⟨_,rfl⟩,q⟩
theorem opI0 {f:J6->J6->Sem J6}{g:Int->Int->Int}
  (rule: ∀ (i j:Int) (t u:Tok) (s:Kd) (Q:J6->Kd->Prop) (E:J6->Kd->Prop),Q (.int (g i j) s.toks) {s with toks:=s.toks+1}->Kh (Ki X.prog X.w) X.A (f (.int i t) (.int j u)) Q E s):
  OpR X f (rI0 λi j=>.int (g i j)):=by
 intro pins s σ H x y v u Q I rx ry h;obtain⟨i,j,rfl,rfl,q⟩:=h;obtain⟨t,rfl⟩:=rx;obtain⟨t',rfl⟩:=ry;exact rule i j t t' s _ _ ⟨.int (g i j),H,I.tok _,⟨_,rfl⟩,q⟩
theorem OA {f:J6->J6->Sem J6}{g:Int->Int->Bool}
  (rule: ∀ (i j:Int) (t u:Tok) (s:Kd) (Q:J6->Kd->Prop) (E:J6->Kd->Prop),Q (.bool (g i j)) s->Kh (Ki X.prog X.w) X.A (f (.int i t) (.int j u)) Q E s):
  OpR X f (rI0 λi j=>.bl (g i j)):=by
 intro pins s σ H x y v u Q I rx ry h;obtain⟨i,j,rfl,rfl,q⟩:=h;obtain⟨t,rfl⟩:=rx;obtain⟨t',rfl⟩:=ry;exact rule i j t t' s _ _ ⟨.bl (g i j),H,I,rfl,q⟩
noncomputable def Ln (i j:Int):Prop:=0<=j/\j<=1000000/\i.natAbs<2 ^ 64
noncomputable def CMul (i j:Int):Prop:=(-(2 ^ 64)<i/\i<2 ^ 64)\/(-(2 ^ 64)<j/\j<2 ^ 64)
theorem CMul.ok {i j:Int}(h:CMul i j):IntMulOk i j:=by
 rcases h with⟨h1,h2⟩|⟨h1,h2⟩
 ·exact .of_left (intBits_le_64 h1 h2)
 ·exact .of_right (intBits_le_64 h1 h2)
theorem OC:OpR X (KQ .Add) (rI0 λi j=>.int (i+j)):=opI0 λ_ _ _ _ _ _ _ q=>add_int q
theorem CI:OpR X (KQ .Sub) (rI0 λi j=>.int (i - j)):=opI0 λ_ _ _ _ _ _ _ q=>sub_int q
theorem CL:OpR X (KQ .Mod) (rI (λ_ j=>0<j) λi j=>.int (i % j)):=opI λi j _ _ _ _ _ hc q=>by
 have h1:(0:Int)<j:=hc;exact mod_int' ∅ (by rw[Int.fmod_eq_emod_of_nonneg i ∅];exact q)
theorem CJ:OpR X (KQ .Pow) (rI Ln λi j=>.int (i ^ j.toNat)):=opI λ_ _ _ _ _ _ _ hc q=>pow_int_small hc.1 hc.2.1 hc.2.2 q
theorem unI {f:J6->Sem J6}{g:Int->Int}
  (rule: ∀ (i:Int) (t:Tok) (s:Kd) (Q:J6->Kd->Prop) (E:J6->Kd->Prop),Q (.int (g i) s.toks) {s with toks:=s.toks+1}->Kh (Ki X.prog X.w) X.A (f (.int i t)) Q E s):
  UnR X f (rU λi=>.int (g i)):=by
 intro pins s σ H x v Q I rx h;obtain⟨i,rfl,q⟩:=h;obtain⟨t,rfl⟩:=rx;exact rule i t s _ _ ⟨.int (g i),H,I.tok _,⟨_,rfl⟩,q⟩
theorem BJ:UnR X (unaryOp .USub) (rU λi=>.int (-i)):=unI λ_ _ _ _ _ q=>neg_int q
end
noncomputable def P7:V->V->Bool
 |.non,.non=>true|.non,.int _=>true|.int _,.non=>true|.non,.bl _=>true|.bl _,.non=>true|.non,.str _=>true|.str _,.non=>true
 |.int _,.int _=>true|.bl _,.bl _=>true|.str _,.str _=>true|.byt _,.byt _=>true
 |.int _,.str _=>true|.str _,.int _=>true|.bl _,.str _=>true|.str _,.bl _=>true
 |_,_=>false
noncomputable def rEq:R2:=λx y H Q=>P7 x y=true/\Q (.bl (decide (x=y))) H
noncomputable def rNe:R2:=λx y H Q=>P7 x y=true/\Q (.bl (!decide (x=y))) H
theorem ud {i j:Int}:decide (V.int i=V.int j)=(i==j):=by
 rw[HF];simp
theorem yO {i j:Bool}:decide (V.bl i=V.bl j)=(i==j):=by
 rw[HF];simp
theorem uc {i j:Str}:decide (V.str i=V.str j)=(i==j):=by
 rw[HF];simp
theorem ue :decide (V.byt i=V.byt j)=(i.toList==j.toList):=by
 rw[HF];cases i;cases j;simp
section
variable {X:Cx}{a b c:Expr}{ta tb tc:TE}{pos:Kx}
theorem aZ {k k':Bool}(I:Inv X pins σ H s)(q:Q (.bl k) H)(e:k=k'):EP X pins σ Q (.bool k') s:=by
 subst e;exact⟨.bl k,H,I,rfl,q⟩
theorem OG:OpR X (KC .Eq) rEq:=by
 intro pins s σ H x y v u Q I rx ry h;obtain⟨hs,q⟩:=h;cases x with
 |non=>
  cases rx;cases y with
  |non=>cases ry;exact PySem.EqNone.eq_none_none (aZ I q ⇑_)
  |bl j=>cases ry;exact PySem.EqNone.eq_none_bool (aZ I q ⇑_)
  |int j=>obtain⟨t',rfl⟩:=ry;exact PySem.EqNone.eq_none_int (aZ I q ⇑_)
  |str j=>obtain⟨t',rfl⟩:=ry;exact PySem.EqNone.eq_none_str (aZ I q ⇑_)
  |_=>exact absurd (show false=true from hs) G5
 |bl i=>
  cases rx;cases y with
  |non=>cases ry;exact PySem.EqNone.eq_bool_none (aZ I q ⇑_)
  |bl j=>cases ry;exact eq_bool (aZ I q yO)
  |str j=>obtain⟨t',rfl⟩:=ry;exact PySem.EqMixed.eq_bool_str (aZ I q ⇑_)
  |_=>exact absurd (show false=true from hs) G5
 |int i=>
  obtain⟨t,rfl⟩:=rx;cases y with
  |non=>cases ry;exact PySem.EqNone.eq_int_none (aZ I q ⇑_)
  |int j=>obtain⟨t',rfl⟩:=ry;exact eq_int (aZ I q ud)
  |str j=>obtain⟨t',rfl⟩:=ry;exact PySem.EqMixed.eq_int_str (aZ I q ⇑_)
  |_=>exact absurd (show false=true from hs) G5
 |str i=>
  obtain⟨t,rfl⟩:=rx;cases y with
  |non=>cases ry;exact PySem.EqNone.eq_str_none (aZ I q ⇑_)
  |bl j=>cases ry;exact PySem.EqMixed.eq_str_bool (aZ I q ⇑_)
  |int j=>obtain⟨t',rfl⟩:=ry;exact PySem.EqMixed.eq_str_int (aZ I q ⇑_)
  |str j=>obtain⟨t',rfl⟩:=ry;exact eq_str (aZ I q uc)
  |_=>exact absurd (show false=true from hs) G5
 |byt i=>
  obtain⟨t,rfl⟩:=rx;cases y with
  |byt j=>obtain⟨t',rfl⟩:=ry;exact PySem.W.eq_bytes (aZ I q ue)
  |_=>exact absurd (show false=true from hs) G5
 |_=>cases y<;>exact absurd (show false=true from hs) G5
theorem OL:OpR X (KC .NotEq) rNe:=by
 intro pins s σ H x y v u Q I rx ry h;obtain⟨hs,q⟩:=h;cases x with
 |non=>
  cases rx;cases y with
  |non=>cases ry;exact PySem.EqNone.ne_none_none (aZ I q ⇑_)
  |bl j=>cases ry;exact PySem.EqNone.ne_none_bool (aZ I q ⇑_)
  |int j=>obtain⟨t',rfl⟩:=ry;exact PySem.EqNone.ne_none_int (aZ I q ⇑_)
  |str j=>obtain⟨t',rfl⟩:=ry;exact PySem.EqNone.ne_none_str (aZ I q ⇑_)
  |_=>exact absurd (show false=true from hs) G5
 |bl i=>
  cases rx;cases y with
  |non=>cases ry;exact PySem.EqNone.ne_bool_none (aZ I q ⇑_)
  |bl j=>cases ry;exact ne_bool (aZ I q (congrArg not yO))
  |str j=>obtain⟨t',rfl⟩:=ry;exact PySem.EqMixed.ne_bool_str (aZ I q ⇑_)
  |_=>exact absurd (show false=true from hs) G5
 |int i=>
  obtain⟨t,rfl⟩:=rx;cases y with
  |non=>cases ry;exact PySem.EqNone.ne_int_none (aZ I q ⇑_)
  |int j=>obtain⟨t',rfl⟩:=ry;exact ne_int (aZ I q (congrArg not ud))
  |str j=>obtain⟨t',rfl⟩:=ry;exact PySem.EqMixed.ne_int_str (aZ I q ⇑_)
  |_=>exact absurd (show false=true from hs) G5
 |str i=>
  obtain⟨t,rfl⟩:=rx;cases y with
  |non=>cases ry;exact PySem.EqNone.ne_str_none (aZ I q ⇑_)
  |bl j=>cases ry;exact PySem.EqMixed.ne_str_bool (aZ I q ⇑_)
  |int j=>obtain⟨t',rfl⟩:=ry;exact PySem.EqMixed.ne_str_int (aZ I q ⇑_)
  |str j=>obtain⟨t',rfl⟩:=ry;exact ne_str (aZ I q (congrArg not uc))
  |_=>exact absurd (show false=true from hs) G5
 |byt i=>
  obtain⟨t,rfl⟩:=rx;cases y with
  |byt j=>obtain⟨t',rfl⟩:=ry;exact PySem.W.ne_bytes (aZ I q (congrArg not ue))
  |_=>exact absurd (show false=true from hs) G5
 |_=>cases y<;>exact absurd (show false=true from hs) G5
theorem xm:OpR X (KC .Lt) (rI0 λi j=>.bl (decide (i<j))):=OA λ_ _ _ _ _ _ _ q=>lt_int q
theorem EX:OpR X (KC .LtE) (rI0 λi j=>.bl (decide (i<=j))):=OA λ_ _ _ _ _ _ _ q=>le_int q
theorem mX:OpR X (KC .Gt) (rI0 λi j=>.bl (decide (j<i))):=OA λ_ _ _ _ _ _ _ q=>gt_int q
theorem EY:OpR X (KC .GtE) (rI0 λi j=>.bl (decide (j<=i))):=OA λ_ _ _ _ _ _ _ q=>ge_int q
theorem OI:OpR X (KC .In) (λx y H Q=> ∃i j,x=.str i/\y=.str j/\Q (.bl (!(J7.Str.occurrences j i 0 j.length 1).isEmpty)) H):=by
 intro pins s σ H x y v u Q I rx ry h;obtain⟨i,j,rfl,rfl,q⟩:=h;obtain⟨t,rfl⟩:=rx;obtain⟨t',rfl⟩:=ry;exact in_str (aZ I q rfl)
theorem CO:OpR X (KC .Is) (λx y H Q=>y=.non/\Q (.bl (decide (x=.non))) H):=by
 intro pins s σ H x y v u Q I rx ry h;obtain⟨rfl,q⟩:=h;cases ry;refine is_none_gen (aZ I q ?_);cases x<;>first
  |(cases rx;rfl)
  |(obtain⟨t,rfl⟩:=rx;rfl)
theorem OpR.or {f:J6->J6->Sem J6}(h:OpR X f r)(h':OpR X f r'):OpR X f (λx y H Q=>r x y H Q\/r' x y H Q):=by
 intro pins s σ H x y v u Q I rx ry q;rcases q with q|q
 ·exact h pins s σ H x y v u Q I rx ry q
 ·exact h' pins s σ H x y v u Q I rx ry q
theorem eM (b:Expr)(h:op≠.In:=by decide)(h2:op≠.NotIn:=by decide):KD op b=false:=by
 have e1:(op==CmpOp.In)=false:=by cases op<;>first|rfl|exact absurd rfl h
 have e2:(op==CmpOp.NotIn)=false:=by cases op<;>first|rfl|exact absurd rfl h2
 cases b<;>simp [KD,e1,e2]
theorem iG (ho:OpR X (KC op) r)(ha:PE X a ta)(hb:PE X b tb)(hm:KD op b=false):PE X (.Compare a [op] [b] pos) (tOp r ta tb):=by
 intro pins s σ H Q I h;exact wpAny_Compare1 (L7 ha hb I h λv u s2 x y H2 I2 rx ry q=>ho pins s2 σ H2 x y v u Q I2 rx ry q) hm
noncomputable def QK (t:TE):TT:=λσ H Q=>t σ H λx H'=> ∃k,x=.bl k/\Q k H'
theorem dO (ho:OpR X (KC op) r)(ha:PE X a ta)(hb:PE X b tb)(hm:KD op b=false):PT X (.Compare a [op] [b] pos) (QK (tOp r ta tb)):=by
 intro pins s σ H Q I h
 refine wpAny_isTrue_Compare1 (thn (ha pins s σ H _ I h) λv s1 ⟨x,H1,I1,r1,q1⟩=>thn (hb pins s1 σ H1 _ I1 q1) λu s2 ⟨y,H2,I2,r2,q2⟩=>
  thn (ho pins s2 σ H2 x y v u _ I2 r1 r2 q2) λc s3 ⟨z,H3,I3,r3,k,e,q3⟩=>?_) hm
 subst e;cases r3;exact Ko ⟨H3,I3,q3⟩
noncomputable def wd (r r':R2)(ta tb tc:TE):TE:=λσ H Q=>ta σ H λx H1=>tb σ H1 λy H2=>r x y H2 λz H3=> ∃k,z=.bl k/\
 (if k=true then tc σ H3 λw' H4=>r' y w' H4 Q else Q (.bl false) H3)
theorem wU (ho:OpR X (KC op) r)(ho':OpR X (KC op') r')(ha:PE X a ta)(hb:PE X b tb)(hc:PE X c tc)
  (hm:lastMarks [op,op'] [b,c]=false:=by with_unfolding_all rfl):PT X (.Compare a [op,op'] [b,c] pos) (QK (wd r r' ta tb tc)):=by
 intro pins s σ H Q I h
 refine isTrue_chain (thn (ha pins s σ H _ I h) λv s1 ⟨x,H1,I1,r1,q1⟩=>test_link (thn (hb pins s1 σ H1 _ I1 q1) λu s2 ⟨y,H2,I2,r2,q2⟩=>
  thn (ho pins s2 σ H2 x y v u _ I2 r1 r2 q2) λd s3 ⟨z,H3,I3,r3,k,e,q3⟩=>?_)) hm
 subst e;cases r3;refine Ko ?_;cases k with
 |false=>
  obtain⟨k',e',q'⟩:=q3;cases e';exact ite_ff ⟨H3,I3,q'⟩
 |true=>
  refine ite_tt (test_last (thn (hc pins s3 σ H3 _ I3 q3) λw' s4 ⟨z',H4,I4,r4,q4⟩=>thn (ho' pins s4 σ H4 y z' u w' _ I4 r2 r4 q4) λd' s5 qz=>?_));obtain⟨z2,H5,I5,r5,k2,e2,q5⟩:=qz;subst e2;cases r5;exact Ko ⟨H5,I5,q5⟩
theorem ig:(sizeLine:Nat)<2 ^ 63:=by rw[sizeLine_eq];decide
theorem OD:OpR X (KQ .Add) (λx y H Q=> ∃i j,x=.str i/\y=.str j/\i.length+j.length<=sizeLine/\Q (.str (i++j)) H):=by
 intro pins s σ H x y v u Q I rx ry h;obtain⟨i,j,rfl,rfl,hz,q⟩:=h;obtain⟨t,rfl⟩:=rx;obtain⟨t',rfl⟩:=ry;exact add_str (λt' tk=>⟨.str (i++j),H,I.tok _,⟨_,rfl⟩,q⟩) hz
theorem QW (r:Vals [x] us): ∃u,us=[u]/\RelV x u:=by
 cases r with
 |cons r1 r2=>cases r2;exact⟨_,rfl,r1⟩
theorem vals2 (r:Vals [x,y] us): ∃u w',us=[u,w']/\RelV x u/\RelV y w':=by
 cases r with
 |cons r1 r2=>
  cases r2 with
  |cons r3 r4=>cases r4;exact⟨_,_,rfl,r1,r3⟩
theorem yV:CallR X (.builtin "abs") (λxs H Q=> ∃i,xs=[.int i]/\Q (.int (if i<0 then -i else i)) H):=by
 intro pins s σ H xs us Q I r h;obtain⟨i,rfl,q⟩:=h;obtain⟨u,rfl,t,rfl⟩:=QW r;exact call_abs_int λu tk=>⟨.int (if i<0 then -i else i),H,I.tok _,⟨_,rfl⟩,q⟩
theorem Mb:CallR X (.type "int") (λxs H Q=>(∃i,xs=[.int i]/\Q (.int i) H)\/ ∃k,xs=[.bl k]/\Q (.int (if k then 1 else 0)) H):=by
 intro pins s σ H xs us Q I r h;rcases h with⟨i,rfl,q⟩|⟨k,rfl,q⟩
 ·obtain⟨u,rfl,t,rfl⟩:=QW r;exact call_int_int ⟨.int i,H,I,⟨_,rfl⟩,q⟩
 ·obtain⟨u,rfl,r1⟩:=QW r;cases r1;exact call_int_bool ⟨.int (if k then 1 else 0),H,I.tok _,⟨_,rfl⟩,q⟩
theorem Md:CallR X (.type "str") (λxs H Q=> ∃i,xs=[.int i]/\i.natAbs.log2<1920/\Q (.str (toString i)) H):=by
 intro pins s σ H xs us Q I r h;obtain⟨i,rfl,hz,q⟩:=h;obtain⟨u,rfl,t,rfl⟩:=QW r;exact PySem.P.str_of_int hz ⟨.str _,H,I.tok _,⟨_,rfl⟩,q⟩
end
end
section
structure ObjM (h:Ka)(x dx C:Kb)(mA:Str->Option J6):Prop where
 obj:h.get? x=some (J1 C dx)
 ns:h.Ns1 dx mA
 ne:dx≠x
theorem u5 {h:Ka}{dx:Kb}{mA:Str->Option J6}(n:h.Ns1 dx mA): ∃od,h.get? dx=some od/\ ∀name,PySem.W.lookIn name od=some (mA name):=by
 obtain⟨o,es,ep,ho,hd,hk,_,hm⟩:=n;refine⟨o,ho,λname=>?_⟩;have e:=hm name;unfold nsFind findBy at e;rw[<-Array.find?_toList] at e;unfold PySem.W.lookIn;rw[hd];dsimp only;split
 ·rename_i y q;rw[q] at e;exact congrArg some e
 ·rename_i q;rw[q] at e;have a:es.toList.any (·.refKey)=false:=by
   rw[Ju];intro y hy;obtain⟨z,t,hkey⟩:=hk y (Array.mem_toList_iff.mp hy);simp [DictEntry.refKey,hkey]
  have a': ¬es.toList.any (·.refKey)=true:=by rw[a];exact G5
  rw[if_neg a'];exact congrArg some e
theorem ObjM.look {mA:Str->Option J6}(I:ObjM h x dx C mA): ∃od,PySem.W.InstAt h x (J1 C dx) C (some od)/\ ∀name,PySem.W.lookIn name od=some (mA name):=
 let ⟨od,ho,hl⟩:=u5 I.ns
 ⟨od,⟨I.obj,rfl,rfl,ho⟩,hl⟩
section
variable {prog:J8}{w:J9}{A:Kf}{E:J6->Kd->Prop}{s:Kd}{K:Zf}{x dx C f:Kb}{mA:Str->Option J6}{name:Str}{v:J6}
theorem AU {expr:Bool}{Q:J6->Kd->Prop}(X:K.In s.heap)(I:ObjM s.heap x dx C mA)(hg:PySem.W.plainGet K C name=true)(hh:PySem.W.hasDictIn K C=true)
  (ha:J2 K (.ref C) name=some none)(hv:mA name=some v)(hv':PySem.W.handedIn v=true)(h:Q v {s with toks:=s.toks+1}):
  Kh (Ki prog w) A (getAttr (.ref x) name expr) Q E s:=by
 obtain⟨od,J,hl⟩:=I.look;exact PySem.W.get_value X J (PySem.W.plainGet_of hg).1 (PySem.W.findObj_own hh ha rfl (by rw[hl,hv])) hv' h
theorem yC {Q:J6×List J6->Kd->Prop}(X:K.In s.heap)(I:ObjM s.heap x dx C mA)(hg:PySem.W.plainGet K C name=true)
  (hf:J2 K (.ref C) name=some (some (.ref f)))(ht:PySem.W.isFn K (.ref f)=true)(hv:mA name=none)(h:Q (.ref f,[.ref x]) s):
  Kh (Ki prog w) A (KR (.ref x) name pl) Q E s:=by
 obtain⟨od,J,hl⟩:=I.look;exact PySem.W.method_fn X J (PySem.W.plainGet_of hg).1 (PySem.W.plainGet_of hg).2 hf (beq_iff_eq.mp ht) (by show (PySem.W.lookIn name od).map (·.isSome)=some false;rw[hl,hv];rfl) h
theorem zC {ns:List Str}{Q:Unit->Kd->Prop}(X:K.In s.heap)(I:ObjM s.heap x dx C mA)
  (hs:J2 K (.ref C) "__setattr__"=some (some (.builtin "object.__setattr__")))(hp:PySem.W.plainOver K C=true)(ht:PySem.W.takerIn K C name=some none)(hh:PySem.W.hasDictIn K C=true)
  (hw:PySem.Within mA ns)(hsz:ns.length<=sizeLine)
  (h:∀h',ObjM h' x dx C (λy=>if y=name then some v else mA y)->Hy dx s.heap h'->Q () {s with heap:=h',toks:=s.toks+2}):
  Kh (Ki prog w) A (setAttr (.ref x) name v) Q E s:=by
 obtain⟨od,J,hl⟩:=I.look;refine PySem.W.set_plain X J hs (PySem.W.osa_open (s:={s with toks:=s.toks+1}) (r:=none) X J hp ht λb=>?_);obtain⟨cd,hc,hd'⟩:=PySem.W.any_some hh;have hx:s.heap.get? x=some ⟨.ref C,some dx,.plain,#[]⟩:=I.obj;refine Kj (Kl (Kj (Kj (wpAny_loadPart hx (Kj (PySem.W.Looks.here (s:={s with toks:=s.toks+1}) (PySem.W.looks_clsIn X hc) ?_))))));rw[hd'];refine Kl (a:=some dx) (Kj (Kl (Kj ?_)));refine wpAny_nsSet1 (s:={s with toks:=s.toks+1}) I.ns λh' hn2 hs2=>?_;obtain⟨oD,esD,epD,hoD,hdD,hcD⟩:=hn2.count (PySem.Within.cons name v hw);refine Kj (wpAny_lookBehind hoD (by rw[hdD];exact pastItsLine_dict (Hf hcD (by rw[GT];omega))) ?_);exact Kl (h _ ⟨(hs2.2 _ (Ne.symm I.ne)).trans I.obj,hn2,I.ne⟩ hs2)
theorem xY {R:Result->Kd->Prop}(X:K.In s.heap)(hm:makesIn K C=true)
  (hi:J2 K (.ref C) "__init__"=some (some (.ref f)))(hf:PySem.W.typeIn K (.ref f)=some (.type "function"))
  (h:codeAny (Ki prog w) (A.under (.builtin "type.__call__" ⟨.ref C::vs,kw⟩)) (.call (.ref f) ⟨.ref (↥s+1)::vs,kw⟩) (PySem.W.InitBack (↥s+1) R)
    {s with heap:=(s.heap.push J3).push (J1 C ↥s)}):
  codeAny (Ki prog w) A (.call (.ref C) ⟨vs,kw⟩) R s:=by
 obtain⟨hh,g,d,t,os⟩:=s;exact PySem.W.make_core (PySem.W.makes_of X hm) (PySem.W.looks_findIn X hi) (λself=>PySem.W.bind_fn X self hf) (.inl rfl) h
end
noncomputable def O9 (f:Str)(v:V):List (Str×V)->List (Str×V)
 |[]=>[(f,v)]
 |(g,x)::r=>if g=f then (g,v)::r else (g,x)::O9 f v r
theorem cL (f g:Str)(v:V): ∀fs:List (Str×V),(O9 f v fs).lookup g=if g=f then some v else fs.lookup g
 |[]=>by
  show HJ g [(f,v)]=_;by_cases h:g=f
  ·have hb:(g==f)=true:=beq_iff_eq.mpr h;simp only[HJ,hb,if_pos h]
  ·have hb:(g==f)=false:=beq_eq_false_iff_ne.mpr h;simp only[HJ,hb,if_neg h]
 |(k,x)::r=>by
  have ih:=cL f g v r;rw[show O9 f v ((k,x)::r)=(if k=f then (k,v)::r else (k,x)::O9 f v r) from rfl];by_cases hk:k=f
  ·rw[if_pos hk];by_cases h:g=k
   ·have hb:(g==k)=true:=beq_iff_eq.mpr h;simp only[HJ,hb,if_pos (h.trans hk)]
   ·have hb:(g==k)=false:=beq_eq_false_iff_ne.mpr h;simp only[HJ,hb,if_neg (λe:g=f=>h (e.trans hk.symm))]
  ·rw[if_neg hk];by_cases h:g=k
   ·have hb:(g==k)=true:=beq_iff_eq.mpr h;simp only[HJ,hb,if_neg (λe:g=f=>hk (h.symm.trans e))]
   ·have hb:(g==k)=false:=beq_eq_false_iff_ne.mpr h;simp only[HJ,hb];exact ih
theorem j5 (f:Str)(v:V): ∀fs:List (Str×V),f∈(O9 f v fs).map (·.1)/\ ∀g,g∈fs.map (·.1)->g∈(O9 f v fs).map (·.1)
 |[]=>⟨by simp [O9],λg h=>by simp at h⟩
 |(k,x)::r=>by
  obtain⟨i1,i2⟩:=j5 f v r;rw[show O9 f v ((k,x)::r)=(if k=f then (k,v)::r else (k,x)::O9 f v r) from rfl];by_cases hk:k=f
  ·rw[if_pos hk];subst hk;exact⟨⇑_,λg h=>by simpa using h⟩
  ·rw[if_neg hk];refine⟨?_,λg h=>?_⟩
   ·rw[GV];exact G9 _ i1
   ·rw[GV] at h ⊢;rcases GR.mp h with e|e
    ·exact GR.mpr (.inl e)
    ·exact G9 _ (i2 g e)
theorem ke (f:Str)(v:V): ∀fs:List (Str×V),(O9 f v fs).length<=fs.length+1
 |[]=>by simp [O9]
 |(k,x)::r=>by
  have ih:=ke f v r;rw[show O9 f v ((k,x)::r)=(if k=f then (k,v)::r else (k,x)::O9 f v r) from rfl];by_cases hk:k=f
  ·rw[if_pos hk,GT,GT];omega
  ·rw[if_neg hk,GT,GT];omega
theorem RelO.some_of (r:RelO (some v) o): ∃u,o=some u/\RelV v u:=by
 cases o with
 |none=>exact (show False from r).elim
 |some u=>exact⟨u,rfl,r⟩
theorem RelO.none_of (r:RelO none o):o=none:=by
 cases o with
 |none=>rfl
 |some u=>exact (show False from r).elim
theorem vq (r:RelV v u):PySem.W.handedIn u=true:=by
 cases v with
 |non=>cases (show u=J6.none from r);rfl
 |bl b=>cases (show u=J6.bool b from r);rfl
 |int i=>obtain⟨t,e⟩:=(show∃t,u=J6.int i t from r);cases e;rfl
 |str x=>obtain⟨t,e⟩:=(show∃t,u=J6.str x t from r);cases e;rfl
 |byt b=>obtain⟨t,e⟩:=(show∃t,u=J6.bytes b t from r);cases e;rfl
 |flt b=>obtain⟨t,e⟩:=(show∃t,u=J6.float b t from r);cases e;rfl
 |ref a=>cases (show u=J6.ref a from r);rfl
 |ty n=>cases (show u=J6.type n from r);rfl
section
variable {P:J8}{w:J9}{H:Hp}{h:Ka}{a C dx:Kb}{fs:List (Str×V)}
theorem oz (hok:HOk P w H h)(e:H a=some (.ins C dx fs)): ∃mA,ObjM h a dx C mA/\(∀f,RelO (fs.lookup f) (mA f))/\PySem.Within mA (fs.map (·.1))/\fs.length<=1000/\H dx=some (.own a):=by
 obtain⟨d,z,ne,ob,mA,n,r,q⟩:=(show ObjOk P w H h a (.ins C dx fs) from hok a _ e)
 exact⟨mA,⟨ob,n,ne⟩,r,q,z,d⟩
end
structure Cls (K:Zf)(C:Kb):Prop where
 pg:PySem.W.plainGet K C Str.empty=true
 hd:PySem.W.hasDictIn K C=true
 po:PySem.W.plainOver K C=true
 sa:J2 K (.ref C) "__setattr__"=some (some (.builtin "object.__setattr__"))
theorem Cls.get {K:Zf}(c:Cls K C)(f:Str):PySem.W.plainGet K C f=true:=c.pg
noncomputable def NoAttr (K:Zf)(C:Kb)(f:Str):Prop:=J2 K (.ref C) f=some none
theorem NoAttr.taker {K:Zf}{f:Str}(n:NoAttr K C f):PySem.W.takerIn K C f=some none:=by
 unfold PySem.W.takerIn;rw[show J2 K (.ref C) f=some none from n];rfl
structure LD (K:Zf)(C:Kb)(m:Str)(f:Kb):Prop where
 at_:J2 K (.ref C) m=some (some (.ref f))
 fn:PySem.W.isFn K (.ref f)=true
 kp:J4 K (.ref f)=true
section
variable {X:Cx}{pins:List (Kb×Ke)}{σ:St}{H:Hp}{s:Kd}{a C dx:Kb}{fs:List (Str×V)}{f:Str}{v:V}{A:Kf}{E:J6->Kd->Prop}
theorem lY {b:Bool}{Q:J6->Kd->Prop}(I:Inv X pins σ H s)(e:H a=some (.ins C dx fs))(c:Cls X.K C)(n:NoAttr X.K C f)(l:fs.lookup f=some v)
  (h:∀u s',Inv X pins σ H s'->RelV v u->Q u s'):Kh (Ki X.prog X.w) A (getAttr (.ref a) f b) Q E s:=by
 obtain⟨mA,O,r,_,_,_⟩:=oz I.hok e;obtain⟨u,hu,ru⟩:=RelO.some_of (v:=v) (o:=mA f) (by rw[<-l];exact r f);exact AU I.kIn O (c.get f) c.hd n hu (vq ru) (h u _ (I.tok _) ru)
theorem jd {m:Str}{Q:J6×List J6->Kd->Prop}(I:Inv X pins σ H s)(e:H a=some (.ins C dx fs))(c:Cls X.K C)(k:LD X.K C m g)(l:fs.lookup m=none)
  (h:Q (.ref g,[.ref a]) s):Kh (Ki X.prog X.w) A (KR (.ref a) m pl) Q E s:=by
 obtain⟨mA,O,r,_,_,_⟩:=oz I.hok e;have hn:mA m=none:=RelO.none_of (by rw[<-l];exact r m);exact yC I.kIn O (c.get m) k.at_ k.fn hn h
theorem la {Q:Unit->Kd->Prop}(I:Inv X pins σ H s)(e:H a=some (.ins C dx fs))(c:Cls X.K C)(n:NoAttr X.K C f)(hl:fs.length<1000)(ry:RelV y u)
  (h:∀s',Inv X pins σ (upd H a (.ins C dx (O9 f y fs))) s'->Q () s'):Kh (Ki X.prog X.w) A (setAttr (.ref a) f u) Q E s:=by
 obtain⟨mA,O,r,wi,_,ho⟩:=oz I.hok e;have hz:(fs.map (·.1)).length<=sizeLine:=by rw[GN,sizeLine_eq];omega
 refine zC I.kIn O c.sa c.po n.taker c.hd wi hz λh' O' sb=>h _ ?_;have hd: ∃o,h'.get? dx=some o:=let ⟨o,_,_,e',_⟩:=O'.ns;⟨o,e'⟩;refine I.write (x:=a) (e:=dx) (by rw[e];exact True.intro) (.inr ho) (λb q hb z=>(sb.2 b hb).trans z) hd ?_;refine⟨by rw[ai O.ne];exact ho,?_,O.ne,O'.obj,_,O'.ns,λg=>?_,λg hg=>?_⟩
 ·have:=ke f y fs;omega
 ·show RelO ((O9 f y fs).lookup g) (if g=f then some u else mA g);rw[cL];by_cases q:g=f
  ·rw[if_pos q,if_pos q];exact ry
  ·rw[if_neg q,if_neg q];exact r g
 ·by_cases q:g=f
  ·rw[q];exact (j5 f y fs).1
  ·refine (j5 f y fs).2 g (wi g λz=>hg ?_);show (if g=f then some u else mA g)=none;rw[if_neg q];exact z
theorem Inv.made (I:Inv X pins σ H s):Inv X pins σ (upd (upd H ↥s (.own (↥s+1))) (↥s+1) (.ins C ↥s []))
  {s with heap:=(s.heap.push J3).push (J1 C ↥s)}:=by
 have e1:(s.heap.push J3).get? ↥s=some J3:=He s.heap rfl;have e2:((s.heap.push J3).push (J1 C ↥s)).get? (↥s+1)=some (J1 C ↥s):=by
  have:=He (s.heap.push J3) (o:=J1 C ↥s) rfl
  rwa[Hz] at this
 have e3:(s.heap.push J3).Ns ↥s (λ_=>none):=⟨J3,#[],_,e1,rfl,(λe he=>absurd he ⇑_),λ_=>rfl⟩
 have I1:=I.laid (a:=↥s) (o:=.own (↥s+1)) (h':=s.heap.push J3) (t':=s.toks) (λb u q=>GZ _ q) (GO _) ⟨_,e1⟩;refine I1.laid (a:=↥s+1) (o:=.ins C ↥s []) (t':=s.toks) (λb u q=>GZ _ q) (H9 (Hz _ _)) ?_;have ne:↥s≠↥s+1:=G7 (Iy _);refine⟨by rw[ai ne,ay],G8 _,ne,e2,λ_=>none,(Ka.Ns1.of_empty e3).at λo q=>GZ _ q,λ_=>True.intro,λy hy=>absurd rfl hy⟩
theorem Bg {w:J9}{f:Str}{Q:J6->Kd->Prop}(hb:KS e f env (Kw e env)=Kw e env)
  (h:Kh (Ki prog w) A (Kw e env) (λo s₁=>Kh (Ki prog w) A (getAttr o f true) Q E s₁) E s):Kh (Ki prog w) A (Kw (.Attribute e f pos) env) Q E s:=
 Attribute_any_ h (by rw[arm_eval_Attribute,hb])
end
noncomputable def tFld (K:Zf)(ta:TE)(f:Str):TE:=λσ H Q=>ta σ H λx H1=> ∃a C dx fs v,x=.ref a/\H1 a=some (.ins C dx fs)/\Cls K C/\NoAttr K C f/\fs.lookup f=some v/\Q v H1
noncomputable def sFld (K:Zf)(ta tv:TE)(f:Str):TS:=λD σ H=>tv σ H λy H1=>ta σ H1 λx H2=> ∃a C dx fs,x=.ref a/\H2 a=some (.ins C dx fs)/\Cls K C/\NoAttr K C f/\fs.length<1000/\
 D.nx σ (upd H2 a (.ins C dx (O9 f y fs)))
noncomputable def InOp (X:Cx)(op:Operator)(rd:V->V->Hp->VK->Prop):Prop:=
 ∀ (pins:List (Kb×Ke)) (s:Kd) (σ:St) (H:Hp) (x y:V) (u v:J6) (Q:VK),Inv X pins σ H s->RelV x u->RelV y v->rd x y H Q->Kh (Ki X.prog X.w) X.A (inplaceOp op u v) (EP X pins σ Q) X.xe s
noncomputable def zG (K:Zf)(ta tv:TE)(rd:V->V->Hp->VK->Prop)(f:Str):TS:=λD σ H=>ta σ H λx H1=> ∃a C dx fs v,x=.ref a/\H1 a=some (.ins C dx fs)/\Cls K C/\NoAttr K C f/\fs.lookup f=some v/\
 tv σ H1 λy H2=>rd v y H2 λz H3=> ∃dx' fs',H3 a=some (.ins C dx' fs')/\fs'.length<1000/\D.nx σ (upd H3 a (.ins C dx' (O9 f z fs')))
section
variable {X:Cx}{o e value:Expr}{f:Str}{pos pos' tpos:Kx}{ta tv:TE}
theorem fE (he:PE X e ta)(hb:KS e f X.env (Kw e X.env)=Kw e X.env):PE X (.Attribute e f pos) (tFld X.K ta f):=by
 intro pins s σ H Q I h;refine Bg hb (thn (he pins s σ H _ I h) λu s1 qz=>?_);obtain⟨x,H1,I1,rx,a,C,dx,fs,v,ex,ea,c,n,l,q⟩:=qz;subst ex;obtain rfl:u=J6.ref a:=rx;exact lY I1 ea c n l λu' s2 I2 ru=>⟨v,H1,I2,ru,q⟩
theorem rG (ha:PE X o ta)(hv:PE X value tv)(hs:swapsWith value (some (.Attribute o f pos')) pos.line X.env=pure false):PS X (.Assign [.Attribute o f pos'] value pos) (sFld X.K ta tv f):=by
 intro pins s σ H D I h;refine plainObj_wpAny_Assign_Attribute (thn (hv pins s σ H _ I h) λu s1 ⟨y,H1,I1,ry,q⟩=>thn (ha pins s1 σ H1 _ I1 q) λov s2 qz=>?_) hs;obtain⟨x,H2,I2,rx,a,C,dx,fs,ex,ea,c,n,l,q2⟩:=qz;subst ex;obtain rfl:ov=J6.ref a:=rx;exact la I2 ea c n l ry λs3 I3=>⟨σ,_,I3,q2⟩
theorem jZ {rd:V->V->Hp->VK->Prop}(ha:PE X o ta)(hv:PE X value tv)(hop:InOp X op rd):PS X (.AugAssign (.Attribute o f tpos) op value pos) (zG X.K ta tv rd f):=by
 intro pins s σ H D I h;refine wpAny_AugAssign_AttributeAny (thn (ha pins s σ H _ I h) λov s1 qz=>?_);obtain⟨x,H1,I1,rx,a,C,dx,fs,v,ex,ea,c,n,l,q⟩:=qz;subst ex;obtain rfl:ov=J6.ref a:=rx;refine lY I1 ea c n l λu s2 I2 ru=>thn (hv pins s2 σ H1 _ I2 q) λw3 s3 ⟨y,H2,I3,ry,q3⟩=>thn (hop pins s3 σ H2 v y u w3 _ I3 ru ry q3) λw4 s4 qz=>?_;obtain⟨z,H3,I4,rz,dx',fs',ea',l',q4⟩:=qz;exact la I4 ea' c n l' rz λs5 I5=>⟨σ,_,I5,q4⟩
noncomputable def rAdd:V->V->Hp->VK->Prop:=λx y H Q=> ∃i j,x=.int i/\y=.int j/\Q (.int (i+j)) H
theorem oA:InOp X .Add rAdd:=by
 rintro pins s σ H x y u v Q I rx ry ⟨i,j,rfl,rfl,q⟩
 obtain⟨t,rfl⟩:=(show∃t,u=J6.int i t from rx)
 obtain⟨t',rfl⟩:=(show∃t',v=J6.int j t' from ry)
 exact PyProof.Rows.iadd_int ⟨.int (i+j),H,I.tok _,⟨_,rfl⟩,q⟩
theorem Bw {m:Str}{args:List Expr}{Q:J6->Kd->Prop}(he:PE X e te)(I:Inv X pins σ H s)
  (h:te σ H λx H1=> ∃a C dx fs g,x=.ref a/\H1 a=some (.ins C dx fs)/\Cls X.K C/\LD X.K C m g/\fs.lookup m=none/\
    ∀s1,Inv X pins σ H1 s1->Kh (Ki X.prog X.w) X.A (callWith pos (.ref g) [.ref a] (Ky pos (Kz args X.env)) (KU pos (KW [] X.env))) Q X.xe s1)
  (ht:Kw (.Call (.Attribute e m apos) args [] pos) X.env=(do
   let ov<-Kw e X.env
   KE apos.atName
   let (f,first)<-KF [ov] (KR ov m pl)
   callWith pos f first (Ky pos (Kz args X.env)) (KU pos (KW [] X.env)))):
  Kh (Ki X.prog X.w) X.A (Kw (.Call (.Attribute e m apos) args [] pos) X.env) Q X.xe s:=by
 refine PySem.W.methodCall_KW (pl:=pl) (thn (he pins s σ H _ I h) λu s1 qz=>?_) ht;obtain⟨x,H1,I1,rx,a,C,dx,fs,g,ex,ea,c,k,l,q⟩:=qz;subst ex;obtain rfl:u=J6.ref a:=rx;exact jd I1 ea c k l (q s1 I1)
end
end
section
structure Room (k:Nat)(A:Kf):Prop where
 hd:A.handled=none
 dp:A.depth+3 * k+5<recursionLimit
 un:A.units+16 * k+200<Kg
theorem Room.mono {j k:Nat}(r:Room k A)(h:j<=k):Room j A:=⟨r.hd,by have:=r.dp;omega,by have:=r.un;omega⟩
theorem Room.deeper {k:Nat}(r:Room (k+1) A)(env:Env):Room k (A.deeper env):=
 ⟨r.hd,by have:=r.dp;show A.depth+1+3 * k+5<_;omega,by have:=r.un;show A.units+3+16 * k+200<_;omega⟩
theorem rW {A:Kf}{C:Kb}{us:List J6}{kw:List (Str×J6)}:(A.under (.builtin "type.__call__" ⟨.ref C::us,kw⟩)).depth=A.depth+1:=by
 first|rfl|simp [Kf.under,Code.weight,Code.isCreation,Code.isGuard,Code.isCaller,Code.frames,Code.isFrame,guardIds]
theorem rV {A:Kf}{C:Kb}{us:List J6}{kw:List (Str×J6)}:(A.under (.builtin "type.__call__" ⟨.ref C::us,kw⟩)).units=A.units+1:=by
 first|rfl|simp [Kf.under,Code.cUnits,Code.frames,Code.isFrame]
theorem Room.make {k:Nat}(r:Room (k+1) A)(C:Kb)(us:List J6)(kw:List (Str×J6)):Room k (A.under (.builtin "type.__call__" ⟨.ref C::us,kw⟩)):=
 ⟨r.hd,by have:=r.dp;rw[rW];omega,by have:=r.un;rw[rV];omega⟩
theorem Room.depth {k:Nat}(r:Room k A):A.depth<recursionLimit:=by have:=r.dp;omega
theorem Room.units {k:Nat}(r:Room k A):A.units+64<Kg:=by have:=r.un;omega
noncomputable def QJ:TA:=λ_ H Q=>Q [] H
noncomputable def QG (ta:TE)(tr:TA):TA:=λσ H Q=>ta σ H λx H1=>tr σ H1 λxs H2=>Q (x::xs) H2
section
variable {X:Cx}{e:Expr}{es:List Expr}{te:TE}{t:TA}{pos:Kx}
theorem OR:PA X [] QJ:=λ_ _ _ _ H Q I h=>Calls.spliced_nil ⟨[],H,I,.nil,h⟩
theorem aj (ha:PE X e te)(hr:PA X es t)(hs:Kz (e::es) X.env=(false,Kw e X.env)::Kz es X.env:=by rfl):PA X (e::es) (QG te t):=by
 intro pos pins s σ H Q I h;rw[hs];show Kh _ _ (spliced ((false,Kw e X.env)::Ky pos (Kz es X.env))) _ _ s;refine Calls.spliced_cons (thn (ha pins s σ H _ I h) λu s1 qz=>?_);obtain⟨x,H1,I1,r1,q1⟩:=qz;exact thn (hr pos pins s1 σ H1 _ I1 q1) λus s2 ⟨xs,H2,I2,r2,q2⟩=>⟨x::xs,H2,I2,.cons r1 r2,q2⟩
noncomputable def tTup (t:TA):TE:=λσ H Q=>t σ H λxs H1=>xs.length<=sizeLine/\ ∀p,H1 p=none->Q (.ref p) (upd H1 p (.tup xs))
noncomputable def tLst (t:TA):TE:=λσ H Q=>t σ H λxs H1=>xs.length<=sizeLine/\ ∀p,H1 p=none->Q (.ref p) (upd H1 p (.lst xs))
theorem j1 {x1}(h:PA X es t):PE X (.Tuple es x1 pos) (tTup t):=by
 intro pins s σ H Q I hq;refine wpAny_Tuple_spliced (thn (h pos pins s σ H _ I hq) λus s1 ⟨xs,H1,I1,r,z,q⟩=>⟨by rw[<-r.length];exact z,?_⟩);have hf:H1 ↥s1=none:=I1.hok.fresh (GO _);refine⟨.ref ↥s1,upd H1 ↥s1 (.tup xs),I1.laid (t':=s1.toks) (λb u e=>GZ _ e) (GO _) ?_,rfl,q _ hf⟩;exact⟨z,us,r,IsTupD.new _ _⟩
theorem Cp (h:PA X es t):PE X (.List es pos) (tLst t):=by
 intro pins s σ H Q I hq;refine wpAny_List_spliced (thn (h pos pins s σ H _ I hq) λus s1 ⟨xs,H1,I1,r,z,q⟩=>⟨by rw[<-r.length];exact z,?_⟩);have hf:H1 ↥s1=none:=I1.hok.fresh (GO _);refine⟨.ref ↥s1,upd H1 ↥s1 (.lst xs),I1.laid (t':=s1.toks) (λb u e=>GZ _ e) (GO _) ?_,rfl,q _ hf⟩;exact⟨z,us,0,r,He _ rfl⟩
end
noncomputable abbrev Sp:=List V->Hp->VK->XK->Prop
noncomputable abbrev CXT:=List Env->Hp->Kd->XK->J6->Kd->Prop
structure Env0 (P:J8)(w:J9)(K:Zf)(mg:Str->Option J6)(base:Ka)(A:Kf)(outer:List Env)(s:Kd)(H:Hp):Prop where
 frames:A.frames=some outer
 mod:Mod K mg base
 bs: ∀b o,base.get? b=some o->s.heap.get? b=some o/\H b=none
 bsz:base.objs.size<=↥s
 funs:s.heap.FunFrames base outer
 frf: ∀b∈frs outer,H b=none
 hok:HOk P w H s.heap
 bare:Kv s.gens
noncomputable def CE (outer:List Env)(P:J8)(w:J9)(H:Hp)(s:Kd)(Q:VK)(u:J6)(s':Kd):Prop:=
 ∃v H',s'.os=s.os/\Kv s'.gens/\Un (frs outer) [] H H' s.heap s'.heap/\HOk P w H' s'.heap/\RelV v u/\Q v H'
noncomputable def CR (CX:CXT)(outer:List Env)(P:J8)(w:J9)(H:Hp)(s:Kd)(Q:VK)(E:XK)(r:Result)(s':Kd):Prop:=
 match r with
 |.ok (.ret u)=>CE outer P w H s Q u s'
 |.ok _=>False
 |.error e=>CX outer H s E e s'
structure FnOk (P:J8)(w:J9)(K:Zf)(mg:Str->Option J6)(base:Ka)(CX:CXT)(k:Nat)(f:Kb)(fd:KY)(ps:List Str)(sp:Sp):Prop where
 len: ∀vs H Q E,sp vs H Q E->vs.length=ps.length
 run: ∀ (A:Kf) (outer:List Env) (s:Kd) (H:Hp) (args:Args) (us:List J6) (vs:List V) (Q:VK) (E:XK),Room k A->Env0 P w K mg base A outer s H->BindsTo s fd args (ps.zip us)->Vals vs us->sp vs H Q E->
  codeAny (Ki P w) A (.call (.ref f) args) (CR CX outer P w H s Q E) s
theorem FnOk.mono {w:J9}{K:Zf}{mg:Str->Option J6}{j k:Nat}{ps:List Str}(F:FnOk P w K mg base CX j f fd ps sp)(h:j<=k):
 FnOk P w K mg base CX k f fd ps sp:=⟨F.len,λA outer s H args us vs Q E hr=>F.run A outer s H args us vs Q E (hr.mono h)⟩
theorem FnOk.imp {w:J9}{K:Zf}{mg:Str->Option J6}{k:Nat}{ps:List Str}(F:FnOk P w K mg base CX k f fd ps sp)
  (h:∀vs H Q E,sp' vs H Q E->sp vs H Q E):FnOk P w K mg base CX k f fd ps sp':=
 ⟨λvs H Q E q=>F.len vs H Q E (h _ _ _ _ q),λA outer s H args us vs Q E hr he hb hv hs=>F.run A outer s H args us vs Q E hr he hb hv (h _ _ _ _ hs)⟩
theorem Env0.make {w:J9}{K:Zf}{mg:Str->Option J6}(e:Env0 P w K mg base A outer s H)(C:Kb)(us:List J6)(kw:List (Str×J6)):
 Env0 P w K mg base (A.under (.builtin "type.__call__" ⟨.ref C::us,kw⟩)) outer s H:=⟨by first|exact e.frames|(simpa [Kf.under,Code.envs,Code.isFrame,pushEnvs] using e.frames),e.mod,e.bs,e.bsz,e.funs,e.frf,e.hok,e.bare⟩
section
variable {X:Cx}{pins:List (Kb×Ke)}{σ:St}{H:Hp}{s s':Kd}
theorem Inv.env0 (I:Inv X pins σ H s):Env0 X.prog X.w X.K X.mg X.base X.A X.stack s H:=
 ⟨I.ok.frames,I.ok.mod,I.bs,Hf I.ok.bsz I.sz,I.stack,I.stkFree,I.hok,I.bare⟩
theorem Inv.after (I:Inv X pins σ H s)(h:CE X.stack X.prog X.w H s Q u s'):EP X pins σ Q u s':=by
 obtain⟨v,H',os,bare,un,hok,r,q⟩:=h;obtain⟨hh,g,d,t,os'⟩:=s';obtain rfl:os'=s.os:=os;exact⟨v,H',I.call (h':=hh) (g':=g) (d':=d) (t':=t) (ch:=[]) un hok bare (λb z=>absurd z ⇑_),r,q⟩
end
noncomputable def tCall (sp:Sp)(dvs:List V)(E:XK)(t:TA):TE:=λσ H Q=>t σ H λvs H1=>sp (vs++dvs) H1 Q E
noncomputable def QI (C:Kb)(m:Str)(sp:Sp)(dvs:List V)(E:XK)(ta:TE)(t:TA):TE:=λσ H Q=>ta σ H λx H1=> ∃a dx fs,x=.ref a/\H1 a=some (.ins C dx fs)/\fs.lookup m=none/\
 t σ H1 λvs H2=>sp (x::(vs++dvs)) H2 Q E
noncomputable def QH (C:Kb)(sp:Sp)(dvs:List V)(E:XK)(t:TA):TE:=λσ H Q=>t σ H λvs H1=> ∀x dx,H1 x=none->H1 dx=none->dx≠x->
 sp (.ref x::(vs++dvs)) (upd (upd H1 dx (.own x)) x (.ins C dx [])) (λv H2=>v=.non/\Q (.ref x) H2) E
noncomputable def Binds (K:Zf)(fd:KY)(ps:List Str)(ds:List J6):Prop:=
 ∀ (s:Kd) (us:List J6),K.In s.heap->(us++ds).length=ps.length->BindsTo s fd ⟨us,[]⟩ (ps.zip (us++ds))
theorem Binds.all {K:Zf}{ps:List Str}(h:∀us:List J6,us.length=ps.length->bindArgs fd ⟨us,[]⟩=pure (ps.zip us)):Binds K fd ps []:=λs us _ hl=>by
 rw[Hn] at hl ⊢;exact .of_eq (h us hl)
noncomputable def gI (CX:CXT)(X:Cx)(E:XK):Prop:= ∀ (pins:List (Kb×Ke)) (σ:St) (H:Hp) (s:Kd) (e:J6) (s':Kd),Inv X pins σ H s->CX X.stack H s E e s'->X.xe e s'
section
variable {X:Cx}{CX:CXT}{k:Nat}{f C:Kb}{fd:KY}{ps:List Str}{sp:Sp}{dvs:List V}{ds:List J6}{E:XK}{x m:Str}{p pos apos:Kx}{e o:Expr}{es:List Expr}{ta:TE}{t:TA}
theorem rD (F:FnOk X.prog X.w X.K X.mg X.base CX k f fd ps sp)(hr:Room k X.A)(hb:Binds X.K fd ps ds)(hd:Vals dvs ds)(hx:gI CX X E)
  (I:Inv X pins σ H s)(r:Vals vs us)(h:sp (vs++dvs) H Q E):Kh (Ki X.prog X.w) X.A (call (.ref f) us) (EP X pins σ Q) X.xe s:=by
 have r2:Vals (vs++dvs) (us++ds):=r.append hd;have hl:(us++ds).length=ps.length:=by rw[<-r2.length];exact F.len _ _ _ _ h
 refine wpAny_call (KZ (F.run X.A X.stack s H ⟨us,[]⟩ (us++ds) (vs++dvs) Q E hr I.env0 (hb s us I.kIn hl) r2 h) λr s' hq=>?_);cases r with
 |error e=>exact hx pins σ H s e s' I hq
 |ok fl=>
  cases fl with
  |ret u=>exact I.after hq
  |next=>exact False.elim hq
  |brk=>exact False.elim hq
  |cont=>exact False.elim hq
theorem dP (F:FnOk X.prog X.w X.K X.mg X.base CX k f fd ps sp)(hr:Room k X.A)(hg:Gl X x)(hm:X.mg x=some (.ref f))(hk:J4 X.K (.ref f)=true)(hb:Binds X.K fd ps ds)(hd:Vals dvs ds)(hx:gI CX X E)
  (ha:PA X (e::es) t)(hdb:(x==("__debug__":Str))=false:=by decide)(he:Kz (e::es) X.env=(false,Kw e X.env)::Kz es X.env:=by rfl)(hpl:(Ky pos (Kz es X.env)).any (·.1)=false:=by rfl):
  PE X (.Call (.Name x p) (e::es) [] pos) (tCall sp dvs E t):=by
 intro pins s σ H Q I h;refine K0 (jF I hg hm ?_ hdb);refine PySem.W.callWith_K (h₀:=X.base) I.ok.mod.kin hk (thn (ha pos pins s σ H _ I h) λus s1 ⟨vs,H1,I1,r,q⟩=>⟨I1.kIn,?_⟩) he hpl;exact rD F hr hb hd hx I1 r q
theorem gp (he:PE X o ta)(c:Cls X.K C)(hm:LD X.K C m f)(F:FnOk X.prog X.w X.K X.mg X.base CX k f fd ps sp)(hr:Room k X.A)(hb:Binds X.K fd ps ds)(hd:Vals dvs ds)(hx:gI CX X E)(ha:PA X (e::es) t)
  (hst:Kz (e::es) X.env=(false,Kw e X.env)::Kz es X.env:=by rfl)(hpl:(Ky pos (Kz es X.env)).any (·.1)=false:=by rfl)
  (ht:Kw (.Call (.Attribute o m apos) (e::es) [] pos) X.env=(do
   let ov<-Kw o X.env
   KE apos.atName
   let (f,first)<-KF [ov] (KR ov m pl)
   callWith pos f first (Ky pos (Kz (e::es) X.env)) (KU pos (KW [] X.env))):=by rfl):
  PE X (.Call (.Attribute o m apos) (e::es) [] pos) (QI C m sp dvs E ta t):=by
 intro pins s σ H Q I h;refine PySem.W.methodCall_KW (pl:=pl) (thn (he pins s σ H _ I h) λu s1 qz=>?_) ht;obtain⟨x,H1,I1,rx,a,dx,fs,ex,ea,l,q⟩:=qz;subst ex;obtain rfl:u=J6.ref a:=rx;refine jd I1 ea c hm l ?_;refine PySem.W.callWith_K (first:=[.ref a]) (h₀:=X.base) I.ok.mod.kin hm.kp (thn (ha pos pins s1 σ H1 _ I1 q) λus s2 ⟨vs,H2,I2,r,q2⟩=>⟨I2.kIn,?_⟩) hst hpl;exact rD (us:=.ref a::us) (vs:=.ref a::vs) F hr hb hd hx I2 (.cons rfl r) q2
theorem eJ (he:PE X o ta)(c:Cls X.K C)(hm:LD X.K C m f)(F:FnOk X.prog X.w X.K X.mg X.base CX k f fd ps sp)(hr:Room k X.A)(hb:Binds X.K fd ps ds)(hd:Vals dvs ds)(hx:gI CX X E)
  (ht:Kw (.Call (.Attribute o m apos) [] [] pos) X.env=(do
   let ov<-Kw o X.env
   KE apos.atName
   let (f,first)<-KF [ov] (KR ov m pl)
   callWith pos f first (Ky pos (Kz [] X.env)) (KU pos (KW [] X.env))):=by rfl):
  PE X (.Call (.Attribute o m apos) [] [] pos) (QI C m sp dvs E ta QJ):=by
 intro pins s σ H Q I h;refine PySem.W.methodCall_KW (pl:=pl) (thn (he pins s σ H _ I h) λu s1 qz=>?_) ht;obtain⟨x,H1,I1,rx,a,dx,fs,ex,ea,l,q⟩:=qz;subst ex;obtain rfl:u=J6.ref a:=rx;refine jd I1 ea c hm l ?_;exact PySem.W.callWith_K0 (first:=[.ref a]) I1.kIn hm.kp (rD (us:=[.ref a]) (vs:=[.ref a]) F hr hb hd hx I1 (.cons rfl .nil) q)
structure Mk (K:Zf)(C f:Kb):Prop where
 makes:makesIn K C=true
 init:J2 K (.ref C) "__init__"=some (some (.ref f))
 fn:PySem.W.isFn K (.ref f)=true
 kp:J4 K (.ref C)=true
theorem pN (M:Mk X.K C f)(F:FnOk X.prog X.w X.K X.mg X.base CX k f fd ps sp)(hr:Room (k+1) X.A)(hb:Binds X.K fd ps ds)(hd:Vals dvs ds)
  (hx:gI CX X E)(I:Inv X pins σ H s)(r:Vals vs us)
  (h:∀x dx,H x=none->H dx=none->dx≠x->sp (.ref x::(vs++dvs)) (upd (upd H dx (.own x)) x (.ins C dx [])) (λv H2=>v=.non/\Q (.ref x) H2) E):
  Kh (Ki X.prog X.w) X.A (call (.ref C) us) (EP X pins σ Q) X.xe s:=by
 have hq:=h (↥s+1) ↥s (I.hok.fresh (HK _)) (I.hok.fresh (GO _)) (G7 (Iy _));have I2:=Inv.made (C:=C) I;have r2:Vals (V.ref (↥s+1)::(vs++dvs)) (J6.ref (↥s+1)::(us++ds)):=.cons rfl (r.append hd);have hl:(J6.ref (↥s+1)::us++ds).length=ps.length:=by
  have e:=r2.length;rw[F.len _ _ _ _ hq] at e;exact e.symm
 refine wpAny_call (xY (f:=f) I.kIn M.makes M.init (beq_iff_eq.mp M.fn) (KZ (F.run _ X.stack _ _ ⟨J6.ref (↥s+1)::us,[]⟩ (J6.ref (↥s+1)::(us++ds)) _ _ E (hr.make C us [])
  (I2.env0.make C us []) (hb _ (J6.ref (↥s+1)::us) I2.kIn hl) r2 hq) λr s' hq'=>?_))
 cases r with
 |error e=>exact hx pins σ _ _ e s' I2 hq'
 |ok fl=>
  cases fl with
  |ret u=>
   obtain⟨v,H',I3,rv,ev,q3⟩:=I2.after hq';subst ev;exact⟨rv,⟨V.ref (↥s+1),H',I3,rfl,q3⟩⟩
  |next=>exact False.elim hq'
  |brk=>exact False.elim hq'
  |cont=>exact False.elim hq'
theorem tu (M:Mk X.K C f)(F:FnOk X.prog X.w X.K X.mg X.base CX k f fd ps sp)(hr:Room (k+1) X.A)(hg:Gl X x)(hm:X.mg x=some (.ref C))(hb:Binds X.K fd ps ds)(hd:Vals dvs ds)(hx:gI CX X E)
  (ha:PA X (e::es) t)(hdb:(x==("__debug__":Str))=false:=by decide)(he:Kz (e::es) X.env=(false,Kw e X.env)::Kz es X.env:=by rfl)(hpl:(Ky pos (Kz es X.env)).any (·.1)=false:=by rfl):
  PE X (.Call (.Name x p) (e::es) [] pos) (QH C sp dvs E t):=by
 intro pins s σ H Q I h;refine K0 (jF I hg hm ?_ hdb);refine PySem.W.callWith_K (h₀:=X.base) I.ok.mod.kin M.kp (thn (ha pos pins s σ H _ I h) λus s1 ⟨vs,H1,I1,r,q⟩=>⟨I1.kIn,?_⟩) he hpl;exact pN M F hr hb hd hx I1 r q
theorem xg (M:Mk X.K C f)(F:FnOk X.prog X.w X.K X.mg X.base CX k f fd ps sp)(hr:Room (k+1) X.A)(hg:Gl X x)(hm:X.mg x=some (.ref C))(hb:Binds X.K fd ps ds)(hd:Vals dvs ds)(hx:gI CX X E)
  (hdb:(x==("__debug__":Str))=false:=by decide):PE X (.Call (.Name x p) [] [] pos) (QH C sp dvs E QJ):=by
 intro pins s σ H Q I h;refine K0 (jF I hg hm ?_ hdb);exact PySem.W.callWith_K0 I.kIn M.kp (pN (us:=[]) M F hr hb hd hx I .nil h)
end
structure Lz (N P:List Str)(sc:Ku):Prop where
 kind:sc.kind=.function
 co:sc.isCoroutine=false
 gen:sc.isGenerator=false
 nd:N.Nodup
 pre:N.take P.length=P
 par: ∀x∈P,sc.names.lookup x=some .local \/sc.names.lookup x=some .cell
 nofree: ∀y∈sc.names,y.2≠.free
theorem nC {kindOf:Str->Option K3}{x:Str}: ∀ {binds:List (Str×J6)}{m:Str->Option J6},(∀v,(x,v) ∉ binds)->bindL kindOf binds m x=m x
 |[],_,_=>rfl
 |(n,v)::r,m,h=>by
  unfold bindL;rw[nC λw hw=>h w (G9 _ hw)];split
  ·have:x≠n:=by rintro rfl;exact h v GY
   simp [this]
  ·rfl
theorem nE {kindOf:Str->Option K3}{x:Str}: ∀ {binds:List (Str×J6)}{m:Str->Option J6},(∀v,(x,v) ∉ binds)->bindC kindOf binds m x=m x
 |[],_,_=>rfl
 |(n,v)::r,m,h=>by
  unfold bindC;rw[nE λw hw=>h w (G9 _ hw)];split
  ·rfl
  ·have:x≠n:=by rintro rfl;exact h v GY
   simp [this]
theorem nD {kindOf:Str->Option K3}{x:Str}: ∀ {P:List Str}{vs:List J6}{i:Nat}{m:Str->Option J6},P.Nodup->P[i]?=some x->vs[i]?=some v->kindOf x=some .local ->
  bindL kindOf (P.zip vs) m x=some v
 |[],_,_,_,_,h,_,_=>by simp at h
 |_::_,[],_,_,_,_,h,_=>by simp at h
 |p::P,w::vs,0,m,nd,h1,h2,hk=>by
  simp at h1 h2;subst h1;subst h2;show bindL kindOf ((p,w)::P.zip vs) m p=_;unfold bindL;rw[nC λv hv=>(Ia.mp nd).1 (IQ hv).1,if_pos hk];simp
 |p::P,w::vs,i+1,m,nd,h1,h2,hk=>by
  show bindL kindOf ((p,w)::P.zip vs) m x=_;unfold bindL;exact nD (i:=i) (Ia.mp nd).2 (by simpa using h1) (by simpa using h2) hk
theorem nF {kindOf:Str->Option K3}{x:Str}: ∀ {P:List Str}{vs:List J6}{i:Nat}{m:Str->Option J6},P.Nodup->P[i]?=some x->vs[i]?=some v->kindOf x≠some .local ->
  bindC kindOf (P.zip vs) m x=some v
 |[],_,_,_,_,h,_,_=>by simp at h
 |_::_,[],_,_,_,_,h,_=>by simp at h
 |p::P,w::vs,0,m,nd,h1,h2,hk=>by
  simp at h1 h2;subst h1;subst h2;show bindC kindOf ((p,w)::P.zip vs) m p=_;unfold bindC;rw[nE λv hv=>(Ia.mp nd).1 (IQ hv).1,if_neg hk];simp
 |p::P,w::vs,i+1,m,nd,h1,h2,hk=>by
  show bindC kindOf ((p,w)::P.zip vs) m x=_;unfold bindC;exact nF (i:=i) (Ia.mp nd).2 (by simpa using h1) (by simpa using h2) hk
noncomputable def Qz (N:List Str)(vs:List V):St:=vs.map some++List.replicate (N.length - vs.length) none
noncomputable def Mt (CX:CXT)(P:J8)(w:J9)(K:Zf)(mg:Str->Option J6)(base:Ka)(N:List Str)(qual:Str)(scope:Ku)(f:Kb)(cd:J6)(A:Kf)(outer:List Env)(s:Kd)(H:Hp)(E:XK):Cx where
 prog:=P
 w:=w
 K:=K
 mg:=mg
 base:=base
 A:=A.deeper (K5 qual scope ↥s f cd)
 N:=N
 s₀:=s
 H₀:=H
 env:=K5 qual scope ↥s f cd
 outer:=outer
 stack:=K5 qual scope ↥s f cd::outer
 ex:=[]
 calm:=true
 fn:=λ_=>true
 pn:=[]
 xe:=λe s'=>Kh (Ki P w) (A.deeper (K5 qual scope ↥s f cd)) (leaving (K5 qual scope ↥s f cd) e) (λ_ s''=>CX outer H s E e s'') (λe' s''=>CX outer H s E e' s'') s'
theorem qC {sc:Ku}{n:Nat}{x:Str}(h:sc.names.lookup x=some .cell): ∃c,(cellsFrom n sc.names []).lookup x=some c:=by
 have q:=PySem.W.cellsFrom_some sc.names n [] (.inl h);exact Option.isSome_iff_exists.mp q
theorem vh {w:J9}{K:Zf}{mg:Str->Option J6}{N ps:List Str}{qual:Str}
  (S:Lz N ps scope)(hd:A.handled=none)(e0:Env0 P w K mg base A outer s H)(hl:vs.length=ps.length)(r:Vals vs us)
  (x:InCallC s ↥s (bindL (K5 qual scope ↥s f cd).kindOf (ps.zip us) λ_=>none) (cellsFrom (↥s+1) scope.names []) (bindC (K5 qual scope ↥s f cd).kindOf (ps.zip us) λ_=>none) s1):
  Inv (Mt CX P w K mg base N qual scope f cd A outer s H E) [] (Qz N vs) H s1:=by
 have hpl:ps.length<=N.length:=by have:=congrArg List.length S.pre;rw[Hr] at this;omega
 obtain⟨h1,tk,rfl,hk⟩:=x.done;have noA: ∀b:Kb,b ∉ (Mt CX P w K mg base N qual scope f cd A outer s H E).ex:=λb z=>absurd (show b∈([]:List Kb) from z) ⇑_
 refine⟨⟨e0.mod,S.kind,rfl,rfl,GO _,λy z c h1 h2=>?_,λy hy=>?_,λy c _ h=>?_,λ_=>hd,Kf.frames_deeper e0.frames,.inr ⟨rfl,rfl⟩,λb z=>absurd z (noA b),e0.bs,e0.bsz,λb _ _=>noA b,λb z=>absurd z (noA b),e0.funs,e0.frf⟩,
  rfl,e0.bare,Un.kept hk,⟨_,x.toInCall.ns,λi y v h1 h2 h3=>?_⟩,λy c h=>⟨_,x.cell y c h⟩,e0.hok.fresh (GO _),λy c h=>?_,λp hp=>absurd (show p∈([]:List (Kb×Ke)) from hp) ⇑_,e0.hok.kept hk,?_⟩
 ·exact name_of_addr x.apart (PySem.mem_of_lookup h1) (PySem.mem_of_lookup h2)
 ·have hy:scope.names.lookup y=some .cell\/scope.names.lookup y=some .free:=hy;rcases hy with hy|hy
  ·exact qC hy
  ·exact absurd rfl (S.nofree _ (PySem.mem_of_lookup hy))
 ·exact Iw (x.above y c (PySem.mem_of_lookup h))
 ·have hi:i<vs.length:=by
   unfold Qz at h2;by_cases hi:i<vs.length
   ·exact hi
   ·rw[HG (by simpa using hi)] at h2;rw[IR] at h2;split at h2<;>cases h2
  have ha:vs[i]?=some v:=by
   unfold Qz at h2;rw[Hg (by simpa using hi),GW] at h2;cases e:vs[i]? with
   |none=>rw[e] at h2;cases h2
   |some a=>rw[e] at h2;cases h2;rfl
  obtain⟨u,hu,rv⟩:=r.get ha;have hp:ps[i]?=some y:=by
   rw[<-S.pre,Jv ∅];exact h1
  have ndP:ps.Nodup:=by rw[<-S.pre];exact S.nd.sublist (Jw _ _)
  refine⟨u,rv,?_⟩;rcases S.par y (Hi hp) with k|k
  ·exact .inl ⟨k,nD ndP hp hu k⟩
  ·obtain⟨c,e⟩:=qC (n:=↥s+1) k;refine .inr ⟨.inl k,c,e,?_⟩;have q:=x.cell y c e;rw[nF ndP hp hu (by show scope.names.lookup y≠_;rw[k];decide)] at q;exact q
 ·exact e0.hok.fresh (Iw (x.above y c (PySem.mem_of_lookup h)))
 ·unfold Qz;show _=N.length;rw[GQ,GN,HS];omega
theorem BB {w:J9}{K:Zf}{mg:Str->Option J6}{k:Nat}{name qual:Str}{dV kV doc pm cdv ct oc:J6}
  {N ps:List Str}(lk:K.lookup f=some ⟨oc,od,.func (fnOf name qual params body scope dV kV doc pm an cdv ct),osl⟩)(hcd:codeIn K cdv qual=true)(S:Lz N ps scope)
  (len: ∀vs H Q E,sp vs H Q E->vs.length=ps.length)
  (hbody: ∀ (A:Kf) (outer:List Env) (s:Kd) (H:Hp) (vs:List V) (Q:VK) (E:XK),Room k (A.deeper (K5 qual scope ↥s f cdv))->sp vs H Q E->
   ∃t,PSs (Mt CX P w K mg base N qual scope f cdv A outer s H E) body t/\t {nx:=λ_ H'=>Q .non H',rt:=Q} (Qz N vs) H):
  FnOk P w K mg base CX (k+1) f (fnOf name qual params body scope dV kV doc pm an cdv ct) ps sp:=by
 refine⟨len,λA outer s H args us vs Q E hr e0 hb r hsp=>?_⟩;have hl:=len _ _ _ _ hsp;have KX:K.In s.heap:=e0.mod.kin.keeps λb o e=>(e0.bs b o e).1;have lim:s.heap.NoLimit:=e0.mod.nolimit.keeps λb o e=>(e0.bs b o e).1;have hkind: ∀y∈ps.zip us,scope.names.lookup y.1=some .local \/(scope.names.lookup y.1=some .cell/\((cellsFrom (↥s+1) scope.names []).lookup y.1).isSome=true):=λ⟨n,v⟩ hy=>by
  rcases S.par n (IQ hy).1 with q|q
  ·exact .inl q
  ·exact .inr ⟨q,PySem.W.cellsFrom_some _ _ _ (.inl q)⟩
 refine codeAny_call_function hr.depth (KX _ _ lk) rfl S.co S.gen rfl (PySem.W.codeRec_of KX hcd) (hb _ _ _ _ ?_);refine wpAny_newFunctionEnv_cells S.kind hkind λenv he s1 x=>?_;subst he;refine⟨lim.keeps x.toInCall.keep,codeAny_func ?_⟩;obtain⟨t,ht,hq⟩:=hbody A outer s H vs Q E (hr.deeper _) hsp;have I:Inv (Mt CX P w K mg base N qual scope f cdv A outer s H E) [] (Qz N vs) H s1:=vh S hr.hd e0 hl r x;refine KB (ht [] s1 (Qz N vs) H _ I hq) (λfl s' hs=>?_) λe s' hs=>hs;have fin: ∀ {σ':St}{H':Hp}{v:V}{u:J6},Inv (Mt CX P w K mg base N qual scope f cdv A outer s H E) [] σ' H' s'->RelV v u->Q v H'->CE outer P w H s Q u s':=
  λ{σ' H' v u} J rv q=>⟨v,H',J.os,J.bare,J.base,J.hok,rv,q⟩
 cases fl with
 |ret u=>
  obtain⟨v,σ',H',J,rv,q⟩:=hs;exact fin J rv q
 |next=>
  obtain⟨σ',H',J,q⟩:=hs;exact fin (v:=V.non) (u:=J6.none) J rfl q
 |brk=>
  obtain⟨_,_,_,q⟩:=hs;exact False.elim q
 |cont=>
  obtain⟨_,_,_,q⟩:=hs;exact False.elim q
end
section
section
variable {X:Cx}{x:Str}{p pos:Kx}{e:Expr}{es:List Expr}{t:TA}{id T:String}{r:List V->Hp->VK->Prop}
noncomputable def tCB (r:List V->Hp->VK->Prop)(t:TA):TE:=λσ H Q=>t σ H λvs H1=>r vs H1 Q
theorem du (hc:CallR X (.builtin id) r)(hg:Gl X x)(hm:X.mg x=none)(hv:Kt x=some (.builtin id))(ha:PA X (e::es) t)(hn:x≠ "__name__":=by decide)(hdb:(x==("__debug__":Str))=false:=by decide)
  (he:Kz (e::es) X.env=(false,Kw e X.env)::Kz es X.env:=by rfl)(hpl:(Ky pos (Kz es X.env)).any (·.1)=false:=by rfl):PE X (.Call (.Name x p) (e::es) [] pos) (tCB r t):=by
 intro pins s σ H Q I h;refine K0 (im I hg hm hv ?_ hn hdb);exact PyProof.Rows.callWith_builtin1 (thn (ha pos pins s σ H _ I h) λus s1 ⟨vs,H1,I1,r1,q1⟩=>hc pins s1 σ H1 vs us Q I1 r1 q1) he hpl
theorem iH (hc:CallR X (.type T) r)(hg:Gl X x)(hm:X.mg x=none)(hv:Kt x=some (.type T))(ha:PA X (e::es) t)(hn:x≠ "__name__":=by decide)(hdb:(x==("__debug__":Str))=false:=by decide)
  (he:Kz (e::es) X.env=(false,Kw e X.env)::Kz es X.env:=by rfl)(hpl:(Ky pos (Kz es X.env)).any (·.1)=false:=by rfl):PE X (.Call (.Name x p) (e::es) [] pos) (tCB r t):=by
 intro pins s σ H Q I h;refine K0 (im I hg hm hv ?_ hn hdb);exact PyProof.Rows.callWith_type1 (thn (ha pos pins s σ H _ I h) λus s1 ⟨vs,H1,I1,r1,q1⟩=>hc pins s1 σ H1 vs us Q I1 r1 q1) he hpl
end
end
end L2
namespace HT
open PySem PyProof.Rows
section
variable {prog:J8}{w:J9}{A:Kf}{E:J6->Kd->Prop}{s:Kd}
theorem cat_tup {vs ws:List J6}{Q:J6->Kd->Prop}(ht:IsTup s.heap t vs.toArray)(hb:IsTup s.heap b ws.toArray)(hv:vs≠ [])
  (h1:ws=[]->Q (.ref t) s)(h2:ws≠ []->Q (.ref ↥s) {s with heap:=s.heap.push {cls:=.type "tuple",data:=.seq (vs++ws).toArray}})
  (hsz:vs.length+ws.length<=sizeLine):Kh (Ki prog w) A (KQ .Add (.ref t) (.ref b)) Q E s:=by
 obtain⟨⟨cls,dd,data,sl⟩,ho,hc,n,hd⟩:=id ht;obtain⟨⟨cls2,dd2,data2,sl2⟩,ho2,hc2,n2,hd2⟩:=id hb;simp only at hc hd hc2 hd2;subst hc hd hc2 hd2;have e:vs.toArray++ws.toArray=(vs++ws).toArray:=⇑_;by_cases hw:ws=[]
 ·exact concat_meets ⟨_,ho,rfl⟩ ⟨_,ho2,rfl⟩ noFill_tuple_add seq_tuple_add PySem.F.slot_tuple_add PySem.F.entry_tuple_add (PySem.F.args_tuple_add_2 _ _)
   (tuple_addW1 t b vs.toArray ws.toArray n n2 dd dd2 sl sl2 (by simpa using hv) (by simp [hw])) ⟨ho,ho2,h1 hw⟩
 ·refine concat_meets ⟨_,ho,rfl⟩ ⟨_,ho2,rfl⟩ noFill_tuple_add seq_tuple_add PySem.F.slot_tuple_add PySem.F.entry_tuple_add (PySem.F.args_tuple_add_2 _ _)
   (tuple_addW2 t b vs.toArray ws.toArray n n2 dd dd2 sl sl2 (by simpa using hv) (by simpa using hw) (by rw[G4,G4];exact hsz)) ⟨ho,ho2,?_⟩
  rw[e];exact h2 hw
noncomputable def sIx (n d:Nat):Option Int->Nat
 |none=>d
 |some v=>if v<0 then (v+(n:Int)).toNat else min v.toNat n
theorem B7 (n d:Nat)(hd:d<=n)(o:Option Int):sIx n d o<=n:=by
 cases o with
 |none=>exact hd
 |some v=>
  show (if v<0 then (v+(n:Int)).toNat else min v.toNat n)<=n;by_cases hv:v<0
  ·rw[if_pos hv];omega
  ·rw[if_neg hv];exact Nat.min_le_right _ _
theorem ul (v:Int)(n d:Nat):(if v<0 then max (v+(n:Int)) 0 else min v (n:Int))=((sIx n d (some v):Nat):Int):=by
 show (if v<0 then max (v+(n:Int)) 0 else min v (n:Int))=(((if v<0 then (v+(n:Int)).toNat else min v.toNat n):Nat):Int);by_cases hv:v<0
 ·simp only[if_pos hv];omega
 ·simp only[if_neg hv];omega
theorem sE (lo hi:Option Int)(n:Nat):J7.Slice.sliceAdjust lo hi 1 (n:Int)=(((sIx n 0 lo:Nat):Int),((sIx n n hi:Nat):Int)):=by
 have h1: ¬((1:Int)<0):=∅;unfold J7.Slice.sliceAdjust;simp only[h1,if_false];refine Prod.ext ?_ ?_
 ·cases lo with
  |none=>rfl
  |some v=>exact ul v n 0
 ·cases hi with
  |none=>rfl
  |some v=>exact ul v n n
theorem rJ (i j:Nat):J7.Slice.slicePlaces (i:Int) (j:Int) 1=j - i:=by
 unfold J7.Slice.slicePlaces;have h1:(1:Int)>0:=∅;simp only[h1,if_true,Int.ediv_one];split<;>omega
theorem kY {Q:Option Int->Kd->Prop}(p:IsPart v o)(h:Q o s):Kh (Ki prog w) A (J7.Slice.slicePartIndex v) Q E s:=by
 cases p with
 |none=>exact slicePart_none h
 |int i t=>exact slicePart_int h
theorem fQ {sl:Kb}{lo hi:Option Int}{n:Nat}{Q:Int×Int×Nat->Kd->Prop}(hs:s.heap.IsSliceOf sl vl vu .none)(pl:IsPart vl lo)(pu:IsPart vu hi)
  (h:Q (((sIx n 0 lo:Nat):Int),1,sIx n n hi - sIx n 0 lo) s):Kh (Ki prog w) A (J7.Slice.sliceApplied (.ref sl) (pure (n:Int))) Q E s:=by
 obtain⟨os,hos,hcs,hds⟩:=id hs;unfold J7.Slice.sliceApplied J7.Slice.sliceFields;refine Kj (Kj (K6 hos hds (x:=vl) rfl (Kj (K6 hos hds (x:=vu) rfl (Kj (K6 hos hds (x:=.none) rfl (Kl ?_)))))));refine Kj (slicePart_none ?_);show Kh _ _ (if ((1:Int)==0)=true then _ else _) _ _ s;rw[if_neg ↥_];refine Kj (kY pl (Kj (kY pu (Kj (Kl ?_)))));show Kh _ _ (match J7.Slice.sliceAdjust lo hi 1 (n:Int) with|(lo,hi)=>pure (lo,(1:Int),J7.Slice.slicePlaces lo hi 1)) _ _ s;rw[sE lo hi n];show Kh _ _ (pure (((sIx n 0 lo:Nat):Int),(1:Int),J7.Slice.slicePlaces ((sIx n 0 lo:Nat):Int) ((sIx n n hi:Nat):Int) 1)) _ _ s;rw[rJ];exact Kl h
theorem w9 (xs:Array J6)(i k:Nat):((List.range k).filterMap λ(m:Nat)=>xs[((i:Int)+(m:Int) * 1).toNat]?).toArray=((xs.toList.drop i).take k).toArray:=by
 have e:(λ(m:Nat)=>xs[((i:Int)+(m:Int) * 1).toNat]?)=λm=>xs[i+m]?:=by
  funext m;have:((i:Int)+(m:Int) * 1).toNat=i+m:=∅;rw[this]
 rw[e];have:=pick_run xs i k;rw[List.filterMap_map] at this;have e2:((λx=>xs[x]?)∘λx=>i+x)=λm=>xs[i+m]?:=rfl;rw[e2] at this;rw[this]
theorem getItem_tuple_cut {t sl:Kb}{lo hi:Option Int}{Q:J6->Kd->Prop}(ht:IsTup s.heap t items)(hs:s.heap.IsSliceOf sl vl vu .none)(pl:IsPart vl lo)(pu:IsPart vu hi)
  (hw: ¬(sIx items.size 0 lo=0/\sIx items.size items.size hi=items.size))
  (h:Q (.ref ↥s) {s with heap:=s.heap.push {cls:=.type "tuple",data:=.seq ((items.toList.drop (sIx items.size 0 lo)).take (sIx items.size items.size hi - sIx items.size 0 lo)).toArray}})
  (hsz:items.size<=sizeLine):Kh (Ki prog w) A (getItem (.ref t) (.ref sl)) Q E s:=by
 have htake:sizeOk (.seq ((items.toList.drop (sIx items.size 0 lo)).take (sIx items.size items.size hi - sIx items.size 0 lo)).toArray):=by
  show ((items.toList.drop (sIx items.size 0 lo)).take (sIx items.size items.size hi - sIx items.size 0 lo)).toArray.size<=sizeLine;rw[G4,Hr,HA,Io];omega
 have hj:sIx items.size items.size hi<=items.size:=B7 _ _ (GO _) hi;obtain⟨os,hos,hcs,hds⟩:=id hs;have hTs:s.TypeIs (.ref sl) "slice":=⟨os,hos,hcs⟩
 unfold getItem
 try with_reducible refine Kn ?_
 first|refine Kj (Kl ?_)|skip
 refine Kj (wpAny_sequenceKey ht.typeIs ↥_ ?_)
 refine Kj (wpAny_callSpecial?_slot (name:=Str.ofString "__getitem__") ht.typeIs PyProof.Rows.slot_tuple_getitem
  (Kk PyProof.Rows.slot_tuple_getitem ht.typeIs entry_tuple_getitem ?_ (args_tuple_getitem _ _)))
 show Kh _ _ (J7.Tuple.tupleItemsOf (.ref t)>>=_) _ _ s;refine Kj (tupleItemsOf_ ht ?_);refine Kj (wpAny_typeOf hTs ?_);rw[if_pos ↥_];refine Kj (fQ hs pl pu ?_);have hno: ¬((((sIx items.size 0 lo:Nat):Int)==0 && (1:Int)==1 && (sIx items.size items.size hi - sIx items.size 0 lo)==items.size)=true):=by
  intro q;rw[Ho,Ho] at q;have q1:((sIx items.size 0 lo:Nat):Int)=0:=eq_of_beq q.1.1;have q2:sIx items.size items.size hi - sIx items.size 0 lo=items.size:=eq_of_beq q.2;exact hw ⟨∅,∅⟩
 show Kh _ _ (if (((sIx items.size 0 lo:Nat):Int)==0 && (1:Int)==1 && (sIx items.size items.size hi - sIx items.size 0 lo)==items.size)=true then _ else _) _ _ s;rw[if_neg hno,w9]
 first
  |exact Kj (m:=J7.Tuple.tupleExact _) (K7 (Kl ⟨_,rfl,Kl h⟩) htake)
  |exact Kj (m:=J7.Tuple.tupleExact _) (K7 (Kj (Kl (Kl ⟨_,rfl,Kl h⟩))) htake)
  |exact Kj (Kj (m:=J7.Tuple.tupleExact _) (K7 (Kl (Kl ⟨_,rfl,Kl h⟩)) htake))
  |exact Kj (Kj (m:=J7.Tuple.tupleExact _) (K7 (Kl ⟨_,rfl,Kl h⟩) htake))
end
end HT
namespace L2
open PySem PySem.Spec PyProof.Rows
noncomputable abbrev TO:=St->Hp->(Option Int->Hp->Prop)->Prop
noncomputable def PO (X:Cx)(e:Option Expr)(t:TO):Prop:=
 ∀ (pins:List (Kb×Ke)) (s:Kd) (σ:St) (H:Hp) (Q:Option Int->Hp->Prop),Inv X pins σ H s->t σ H Q->
   Kh (Ki X.prog X.w) X.A (evalPart e X.env) (λu s'=> ∃o H',Inv X pins σ H' s'/\IsPart u o/\Q o H') X.xe s
noncomputable def zo:TO:=λ_ H Q=>Q none H
noncomputable def tPart (t:TE):TO:=λσ H Q=>t σ H λx H1=> ∃i,x=.int i/\Q (some i) H1
section
variable {X:Cx}{e:Expr}{te:TE}{lo hi:Option Expr}{tl th:TO}{pos p2:Kx}
theorem O5:PO X none zo:=by
 intro pins s σ H Q I h;rw[evalPart_none];exact Kl ⟨none,H,I,.none,h⟩
theorem nZ (h:PE X e te):PO X (some e) (tPart te):=by
 intro pins s σ H Q I hw;rw[evalPart_some];refine thn (h pins s σ H _ I hw) λu s1 qz=>?_;obtain⟨x,H1,I1,r1,q1⟩:=qz;obtain⟨i,rfl,q⟩:=q1;obtain⟨t,rfl⟩:=r1;exact⟨some i,H1,I1,.int i t,q⟩
noncomputable def SlR (X:Cx)(r:V->Option Int->Option Int->Hp->VK->Prop):Prop:=
 ∀ (pins:List (Kb×Ke)) (s:Kd) (σ:St) (H:Hp) (x:V) (v vl vu:J6) (lo hi:Option Int) (sl:Kb) (Q:VK),Inv X pins σ H s->RelV x v->s.heap.IsSliceOf sl vl vu .none->IsPart vl lo->IsPart vu hi->r x lo hi H Q->
   ∃T id,typeLookup (.type T) "__getitem__"=pure (some (.builtin id))/\s.TypeIs v T/\Kh (Ki X.prog X.w) X.A (getItem v (.ref sl)) (EP X pins σ Q) X.xe s
theorem SlR.or {r r':V->Option Int->Option Int->Hp->VK->Prop}(h:SlR X r)(h':SlR X r'):SlR X (λx lo hi H Q=>r x lo hi H Q\/r' x lo hi H Q):=by
 intro pins s σ H x v vl vu lo hi sl Q I rx hs pl pu q;rcases q with q|q
 ·exact h pins s σ H x v vl vu lo hi sl Q I rx hs pl pu q
 ·exact h' pins s σ H x v vl vu lo hi sl Q I rx hs pl pu q
noncomputable def tSl (r:V->Option Int->Option Int->Hp->VK->Prop)(te:TE)(tl th:TO):TE:=λσ H Q=>te σ H λx H1=>tl σ H1 λl H2=>th σ H2 λu H3=>r x l u H3 Q
theorem lC {r:V->Option Int->Option Int->Hp->VK->Prop}(hr:SlR X r)(he:PE X e te)(hl:PO X lo tl)(hu:PO X hi th):PE X (.Subscript e (.Slice lo hi none p2) pos) (tSl r te tl th):=by
 intro pins s σ H Q I h;refine Subscript_ (thn (he pins s σ H _ I h) λv s1 qz=>?_);obtain⟨x,H1,I1,r1,q1⟩:=qz;refine wpAny_Slice (thn (hl pins s1 σ H1 _ I1 q1) λvl s2 ⟨l,H2,I2,pl,q2⟩=>thn (hu pins s2 σ H2 _ I2 q2) λvu s3 qz=>?_);obtain⟨u,H3,I3,pu,q3⟩:=qz;rw[evalPart_none];refine Kl ?_;have I4:Inv X pins σ H3 {s3 with heap:=s3.heap.push {cls:=.type "slice",data:=.fields #[vl,vu,.none]}}:=I3.kept (t':=s3.toks) λb ob q=>GZ _ q;obtain⟨T,id,hT,ht,hg⟩:=hr pins {s3 with heap:=s3.heap.push {cls:=.type "slice",data:=.fields #[vl,vu,.none]}} σ H3 x v vl vu l u ↥s3 Q I4 r1 (Ka.IsSliceOf.new ..) pl pu q3;show Kh (Ki X.prog X.w) X.A (subscriptTail e (.Slice lo hi none p2) v (.ref ↥s3)) (EP X pins σ Q) X.xe {s3 with heap:=s3.heap.push {cls:=.type "slice",data:=.fields #[vl,vu,.none]}};exact tail_any (ops:=[.ref ↥s3,v]) ht hT hg (by with_unfolding_all rfl)
noncomputable def Mr (xs:List V)(lo hi:Option Int):List V:=(xs.drop (HT.sIx xs.length 0 lo)).take (HT.sIx xs.length xs.length hi - HT.sIx xs.length 0 lo)
theorem km (xs:List V)(lo hi:Option Int):(Mr xs lo hi).length<=xs.length:=by
 unfold Mr;rw[Hr,HA];omega
noncomputable def rSlT (K:Zf):V->Option Int->Option Int->Hp->VK->Prop:=λx lo hi H Q=> ∃a xs,x=.ref a/\SqT K H a xs/\
 ¬(HT.sIx xs.length 0 lo=0/\HT.sIx xs.length xs.length hi=xs.length)/\ ∀p,H p=none->Q (.ref p) (upd H p (.tup (Mr xs lo hi)))
theorem Qk:SlR X (rSlT X.K):=by
 intro pins s σ H x v vl vu lo hi sl Q I rx hs pl pu h;obtain⟨a,xs,rfl,hx,hw,q⟩:=h;cases rx;obtain⟨its,r,ht,hz⟩:=I.tuple hx;have hlen:its.toArray.size=xs.length:=by rw[G4];exact r.length.symm
 refine⟨"tuple",_,PyProof.Rows.slot_tuple_getitem.lookup,ht.typeIs,?_⟩;refine HT.getItem_tuple_cut ht hs pl pu (by rw[hlen];exact hw) ?_ (by rw[hlen];exact hz);rw[hlen];refine⟨.ref ↥s,_,I.laid (t':=s.toks) (o:=.tup (Mr xs lo hi)) (λb ob q=>GZ _ q) (GO _) ?_,rfl,q _ (I.hok.fresh (GO _))⟩;exact⟨Hf (km xs lo hi) hz,_,(r.drop (HT.sIx xs.length 0 lo)).take (HT.sIx xs.length xs.length hi - HT.sIx xs.length 0 lo),IsTupD.new _ _⟩
noncomputable def Pg (K:Zf):R2:=λx y H Q=> ∃a b xs ys,x=.ref a/\y=.ref b/\SqT K H a xs/\SqT K H b ys/\xs≠ []/\xs.length+ys.length<=sizeLine/\
 (ys=[]->Q (.ref a) H)/\(ys≠ []-> ∀p,H p=none->Q (.ref p) (upd H p (.tup (xs++ys))))
theorem Vals.nil_iff (r:Vals xs us):us=[]↔xs=[]:=by
 cases r with
 |nil=>simp
 |cons _ _=>simp
theorem OF:OpR X (KQ .Add) (Pg X.K):=by
 intro pins s σ H x y v u Q I rx ry h;obtain⟨a,b,xs,ys,rfl,rfl,ha,hb,hx,hz,q1,q2⟩:=h;cases rx;cases ry;obtain⟨its,r1,p1,_⟩:=I.tuple ha;obtain⟨its2,r2,p2,_⟩:=I.tuple hb;refine HT.cat_tup p1 p2 (λz=>hx (r1.nil_iff.mp z)) (λz=>⟨.ref a,H,I,rfl,q1 (r2.nil_iff.mp z)⟩) (λz=>?_) (by rw[<-r1.length,<-r2.length];exact hz);refine⟨.ref ↥s,_,I.laid (t':=s.toks) (o:=.tup (xs++ys)) (λb ob q=>GZ _ q) (GO _) ?_,rfl,q2 (λw=>z (r2.nil_iff.mpr w)) _ (I.hok.fresh (GO _))⟩;exact⟨by rw[GQ];exact hz,_,r1.append r2,IsTupD.new _ _⟩
end
section
noncomputable def ixN (n:Nat)(i:Int):Option Nat:=if 0<=i then (if i<n then some i.toNat else none) else if -(n:Int)<=i then some (i+n).toNat else none
noncomputable def atI {α:Type}(xs:List α)(i:Int):Option α:=(ixN xs.length i).bind λj=>xs[j]?
theorem tV {n:Nat}{i:Int}{j:Nat}(h:ixN n i=some j):seqIndex? i n=some j/\j<n/\ -(n:Int)<=i/\i<n:=by
 unfold ixN at h;by_cases h0:0<=i
 ·rw[if_pos h0] at h;by_cases h1:i<n
  ·rw[if_pos h1] at h;have e:i.toNat=j:=Option.some.inj h;exact⟨by rw[seqIndex_of h0 h1,e],∅,∅,h1⟩
  ·rw[if_neg h1] at h;cases h
 ·rw[if_neg h0] at h;by_cases h1: -(n:Int)<=i
  ·rw[if_pos h1] at h;have e:(i+n).toNat=j:=Option.some.inj h;exact⟨by rw[seqIndex_neg ∅ h1,e],∅,h1,∅⟩
  ·rw[if_neg h1] at h;cases h
theorem oW {α:Type}{xs:List α}{i:Int}{v:α}(h:atI xs i=some v): ∃j,seqIndex? i xs.length=some j/\xs[j]?=some v/\j<xs.length/\ -(xs.length:Int)<=i/\i<xs.length:=by
 unfold atI at h;cases e:ixN xs.length i with
 |none=>rw[e] at h;cases h
 |some j=>
  rw[e] at h;obtain⟨h1,h2,h3,h4⟩:=tV e;exact⟨j,h1,h,h2,h3,h4⟩
theorem eG {α:Type}{xs:List α}{j:Nat}{v:α}(h:xs[j]?=some v):atI xs (j:Int)=some v:=by
 have hj:j<xs.length:=(G1.mp h).1;have e:ixN xs.length (j:Int)=some j:=by
  unfold ixN;rw[if_pos ∅,if_pos ∅];simp
 unfold atI;rw[e];exact h
theorem jQ {α:Type}(xs:List α)(v:α):atI (xs++[v]) (-1)=some v:=by
 have hl:(xs++[v]).length=xs.length+1:=⇑_;have e:ixN (xs++[v]).length (-1)=some xs.length:=by
  unfold ixN;rw[hl,if_neg ↥_,if_pos ∅];congr 1;omega
 unfold atI;rw[e];show (xs++[v])[xs.length]?=some v;simp
noncomputable def o3 (b:Expr):Prop:= ∀o i,subscripted b false o i=operate [o,i] (getItem o i)
noncomputable def IxR (X:Cx)(r:R2):Prop:=
 ∀ (value slice:Expr) (pins:List (Kb×Ke)) (s:Kd) (σ:St) (H:Hp) (x y:V) (v u:J6) (Q:VK),Inv X pins σ H s->RelV x v->RelV y u->r x y H Q->
   subscripted slice false v u=operate [v,u] (getItem v u)->Kh (Ki X.prog X.w) X.A (subscriptTail value slice v u) (EP X pins σ Q) X.xe s
noncomputable def MtR (X:Cx)(id:String)(r:V->List V->Hp->VK->Prop):Prop:=
 ∀ (pins:List (Kb×Ke)) (s:Kd) (σ:St) (H:Hp) (x:V) (xs:List V) (v:J6) (us:List J6) (Q:VK),Inv X pins σ H s->RelV x v->Vals xs us->r x xs H Q->
   Kh (Ki X.prog X.w) X.A (call (.builtin id) (v::us)) (EP X pins σ Q) X.xe s
section
variable {X:Cx}{a b:Expr}{ta tb:TE}{pos:Kx}
theorem IxR.or (h:IxR X r)(h':IxR X r'):IxR X (λx y H Q=>r x y H Q\/r' x y H Q):=by
 intro value slice pins s σ H x y v u Q I rx ry q hs;rcases q with q|q
 ·exact h value slice pins s σ H x y v u Q I rx ry q hs
 ·exact h' value slice pins s σ H x y v u Q I rx ry q hs
theorem tD (hr:IxR X r)(ha:PE X a ta)(hb:PE X b tb)(hs:o3 b):PE X (.Subscript a b pos) (tOp r ta tb):=by
 intro pins s σ H Q I h;exact Subscript_ (L7 ha hb I h λv u s2 x y H2 I2 rx ry q=>hr a b pins s2 σ H2 x y v u Q I2 rx ry q (hs _ _))
noncomputable def rIxL (K:Zf):R2:=λx y H Q=> ∃p xs i v,x=.ref p/\y=.int i/\SqL K H p xs/\atI xs i=some v/\Q v H
noncomputable def rIxT (K:Zf):R2:=λx y H Q=> ∃p xs i v,x=.ref p/\y=.int i/\SqT K H p xs/\atI xs i=some v/\Q v H
noncomputable def rIxS:R2:=λx y H Q=> ∃z i c,x=.str z/\y=.int i/\z.length<=sizeLine/\atI z.cps.toList i=some c/\Q (.str ⟨#[c]⟩) H
theorem Nr:IxR X (rIxL X.K):=by
 intro value slice pins s σ H x y v u Q I rx ry h hs;obtain⟨p,xs,i,z,rfl,rfl,hq,he,q⟩:=h;cases rx;obtain⟨t,rfl⟩:=ry;obtain⟨its,r,pl,hz⟩:=I.list hq;obtain⟨j,h1,h2,h3,h4,h5⟩:=oW he;obtain⟨w,ew,rw'⟩:=r.get h2;have hl:=r.length;have hn:=ig;have fin:EP X pins σ Q w s:=⟨z,H,I,rw',q⟩
 by_cases h0:0<=i
 ·have hj:i.toNat=j:=by
   rw[seqIndex_of h0 h5] at h1;exact Option.some.inj h1
  exact item_listR pl.isList h0 ∅ (by rw[hj];simpa using ew) fin hs
 ·have hj:(i+(its.toArray.size:Int)).toNat=j:=by
   rw[seqIndex_neg ∅ h4] at h1;rw[G4,<-hl];exact Option.some.inj h1
  exact subscriptTail_builtinR (x:=w) pl.isList.typeIs slot_list_getitem.lookup
   (wpAny_getItem_list_neg (Q:=λr s'=>r=w/\EP X pins σ Q r s') pl.isList ∅ (by rw[G4]<;>omega) ∅ (by rw[hj];simpa using ew) ⟨rfl,fin⟩) hs
theorem Nu:IxR X (rIxT X.K):=by
 intro value slice pins s σ H x y v u Q I rx ry h hs;obtain⟨p,xs,i,z,rfl,rfl,hq,he,q⟩:=h;cases rx;obtain⟨t,rfl⟩:=ry;obtain⟨its,r,pl,hz⟩:=I.tuple hq;obtain⟨j,h1,h2,h3,h4,h5⟩:=oW he;obtain⟨w,ew,rw'⟩:=r.get h2;have hl:=r.length;have hn:=ig;have fin:EP X pins σ Q w s:=⟨z,H,I,rw',q⟩
 exact subscriptTail_builtinR (x:=w) pl.typeIs slot_tuple_getitem.lookup
  (getItem_tuple (j:=j) (Q:=λr s'=>r=w/\EP X pins σ Q r s') pl ∅ ∅ (by rw[G4,<-hl];exact h1) (by simpa using ew) ⟨rfl,fin⟩) hs
theorem oy:IxR X rIxS:=by
 intro value slice pins s σ H x y v u Q I rx ry h hs;obtain⟨z,i,c,rfl,rfl,hz,he,q⟩:=h;obtain⟨t,rfl⟩:=rx;obtain⟨t',rfl⟩:=ry;obtain⟨j,h1,h2,h3,h4,h5⟩:=oW he;have hl:z.cps.toList.length=z.length:=by simp [Str.length]
 rw[hl] at h1 h4 h5;have hn:=ig
 exact tail_any (K8 s z t) slot_str_getitem.lookup (getItem_str (c:=c) (by
  have e1:decide (i< -(2 ^ 63:Int))=false:=decide_eq_false ∅;have e2:decide (i≥2 ^ 63)=false:=decide_eq_false ∅
  rw[e1,e2,Bool.or_false]) (by rw[h1];simpa using h2) ⟨.str ⟨#[c]⟩,H,I.tok _,⟨_,rfl⟩,q⟩) hs
noncomputable def rIx (K:Zf):R2:=λx y H Q=>rIxL K x y H Q\/rIxT K x y H Q\/rIxS x y H Q
theorem Nt:IxR X (rIx X.K):=Nr.or (Nu.or oy)
theorem rT (its:List J6)(n j:Nat)(u:J6):Ke.mapSeq (·.setIfInBounds j u) {cls:=.type "list",data:=.seq its.toArray n}={cls:=.type "list",data:=.seq (its.set j u).toArray n}:=by
 simp [Ke.mapSeq]
theorem Inv.lst (I:Inv X pins σ H s)(h:H p=some (.lst xs)):
  ∃ (its:List J6) (n:Nat),Vals xs its/\s.heap.get? p=some {cls:=.type "list",data:=.seq its.toArray n}/\xs.length<=sizeLine:=by
 obtain⟨z,its,n,r,e⟩:=I.hok p _ h;exact⟨its,n,r,e,z⟩
theorem Inv.lstUpd {pins:List (Kb×Ke)}{σ:St}{H:Hp}{s:Kd}{p:Kb}{xs ys:List V}{its its':List J6}{n n':Nat}{f:Ke->Ke}(I:Inv X pins σ H s)(h:H p=some (.lst xs))
  (ho:s.heap.get? p=some {cls:=.type "list",data:=.seq its.toArray n})(hf:f {cls:=.type "list",data:=.seq its.toArray n}={cls:=.type "list",data:=.seq its'.toArray n'})(r:Vals ys its')(hz:ys.length<=sizeLine)(t:Nat):
  Inv X pins σ (upd H p (.lst ys)) {s with heap:=s.heap.update p f,toks:=t}:=by
 have e:(s.heap.update p f).get? p=some {cls:=.type "list",data:=.seq its'.toArray n'}:=by
  rw[IS f ho (by rw[hf]<;>rfl),hf]
 refine I.write (x:=p) (e:=p) (by rw[h];trivial) (.inl rfl) (λb u hb q=>(IT _ _ (Ne.symm hb)).trans q) ⟨_,e⟩ ?_;exact⟨hz,its',n',r,e⟩
noncomputable def Pk:V->V->V->Hp->(Hp->Prop)->Prop:=λo i v H Q=> ∃p xs k j,o=.ref p/\i=.int k/\H p=some (.lst xs)/\ixN xs.length k=some j/\Q (upd H p (.lst (xs.set j v)))
theorem Qa:PSet X Pk:=by
 intro pins s σ H o i v ov iv u Q I ro ri rv h;obtain⟨p,xs,k,j,rfl,rfl,hp,hj,q⟩:=h;cases ro;obtain⟨t,rfl⟩:=ri;obtain⟨its,n,r,ho,hz⟩:=I.lst hp;obtain⟨h1,h2,h3,h4⟩:=tV hj;have hl:=r.length;have hn:=ig;have I':Inv X pins σ (upd H p (.lst (xs.set j v))) {s with heap:=s.heap.update p (Ke.mapSeq (·.setIfInBounds j u))}:=
  I.lstUpd hp ho (rT its n j u) (r.set rv j) (by rw[Hb];exact hz) s.toks
 by_cases h0:0<=k
 ·have hk:k.toNat=j:=by
   rw[seqIndex_of h0 h4] at h1;exact Option.some.inj h1
  exact PySem.W.ki_setAt ho h0 ∅ (by rw[G4,<-hl];exact h4) (by rw[hk];exact⟨_,I',q⟩)
 ·have hk:(k+(its.toArray.size:Int)).toNat=j:=by
   rw[seqIndex_neg ∅ h3] at h1;rw[G4,<-hl];exact Option.some.inj h1
  exact PySem.W.ki_setBack ho ∅ (by rw[G4,<-hl];exact h3) ∅ (by rw[hk];exact⟨_,I',q⟩)
theorem nL (lo hi:Option Int)(n:Nat):(K9 lo hi none n).1=((HT.sIx n 0 lo:Nat):Int)/\(K9 lo hi none n).2.1=((HT.sIx n n hi:Nat):Int)/\(K9 lo hi none n).2.2=1:=by
 refine⟨?_,?_,rfl⟩
 ·cases lo with
  |none=>simp [K9,HT.sIx]
  |some i=>
   simp only[K9,HT.sIx,IU,show (1:Int)>0 by decide,if_true];by_cases h:i<0
   ·simp only[h,if_true]<;>omega
   ·simp only[h,if_false]<;>omega
 ·cases hi with
  |none=>simp [K9,HT.sIx]
  |some i=>
   simp only[K9,HT.sIx,IU,show (1:Int)>0 by decide,if_true];by_cases h:i<0
   ·simp only[h,if_true]<;>omega
   ·simp only[h,if_false]<;>omega
theorem mn (its:List J6)(lo hi:Option Int):slicePick its.toArray lo hi none=((its.drop (HT.sIx its.length 0 lo)).take (HT.sIx its.length its.length hi - HT.sIx its.length 0 lo)).toArray:=by
 obtain⟨h1,h2,h3⟩:=nL lo hi its.toArray.size;unfold slicePick;rw[h1,h2,h3];simp only[sliceRange_one,pick_run,G4]<;>rfl
noncomputable def rSlL (K:Zf):V->Option Int->Option Int->Hp->VK->Prop:=λx lo hi H Q=> ∃a xs,x=.ref a/\SqL K H a xs/\ ∀p,H p=none->Q (.ref p) (upd H p (.lst (Mr xs lo hi)))
theorem zy:SlR X (rSlL X.K):=by
 intro pins s σ H x v vl vu lo hi sl Q I rx hs pl pu h;obtain⟨a,xs,rfl,hx,q⟩:=h;cases rx;obtain⟨its,r,ht,hz⟩:=I.list hx;have hlen:=r.length;refine⟨"list",_,slot_list_getitem.lookup,ht.isList.typeIs,?_⟩;refine wpAny_getItem_list_slice ht.isList hs pl pu .none ⇑_ ?_ (by rw[G4]<;>omega);rw[mn,<-hlen];refine⟨.ref ↥s,_,I.laid (t':=s.toks) (o:=.lst (Mr xs lo hi)) (λb ob q=>GZ _ q) (GO _) ?_,rfl,q _ (I.hok.fresh (GO _))⟩;exact⟨Hf (km xs lo hi) hz,_,0,(r.drop (HT.sIx xs.length 0 lo)).take (HT.sIx xs.length xs.length hi - HT.sIx xs.length 0 lo),He _ rfl⟩
noncomputable def MQ:V->Bool
 |.non=>true
 |.bl _=>true
 |.int _=>true
 |.str _=>true
 |_=>false
noncomputable def eqV:V->V->Bool
 |.non,.non=>true
 |.bl a,.bl b=>a==b
 |.bl a,.int b=>(if a then 1 else 0)==b
 |.int a,.bl b=>a==(if b then 1 else 0)
 |.int a,.int b=>a==b
 |.str a,.str b=>a==b
 |_,_=>false
theorem Ea (ry:RelV y u)(rx:RelV x v)(fy:MQ y=true)(fx:MQ x=true):SeqAt.EqAt A s u v (eqV y x):=by
 cases y with
 |non=>
  cases ry;cases x with
  |non=>cases rx;exact SeqAt.EqAt.same _
  |bl b=>cases rx;exact SeqAt.EqAt.none_bool b
  |int b=>obtain⟨t,rfl⟩:=rx;exact SeqAt.EqAt.none_int b t
  |str b=>obtain⟨t,rfl⟩:=rx;exact SeqAt.EqAt.none_str b t
  |_=>exact absurd (show false=true from fx) G5
 |bl a=>
  cases ry;cases x with
  |non=>cases rx;exact SeqAt.EqAt.bool_none a
  |bl b=>cases rx;exact SeqAt.EqAt.bool_bool a b
  |int b=>obtain⟨t,rfl⟩:=rx;exact SeqAt.EqAt.bool_int a b t
  |str b=>obtain⟨t,rfl⟩:=rx;exact SeqAt.EqAt.bool_str a b t
  |_=>exact absurd (show false=true from fx) G5
 |int a=>
  obtain⟨t',rfl⟩:=ry;cases x with
  |non=>cases rx;exact SeqAt.EqAt.int_none a t'
  |bl b=>cases rx;exact SeqAt.EqAt.int_bool a t' b
  |int b=>obtain⟨t,rfl⟩:=rx;exact SeqAt.EqAt.int_int a t' b t
  |str b=>obtain⟨t,rfl⟩:=rx;exact SeqAt.EqAt.int_str a t' b t
  |_=>exact absurd (show false=true from fx) G5
 |str a=>
  obtain⟨t',rfl⟩:=ry;cases x with
  |non=>cases rx;exact SeqAt.EqAt.str_none a t'
  |bl b=>cases rx;exact SeqAt.EqAt.str_bool a t' b
  |int b=>obtain⟨t,rfl⟩:=rx;exact SeqAt.EqAt.str_int a t' b t
  |str b=>obtain⟨t,rfl⟩:=rx;exact SeqAt.EqAt.str_str a t' b t
  |_=>exact absurd (show false=true from fx) G5
 |_=>exact absurd (show false=true from fy) G5
noncomputable def eqU (x:V)(u:J6):Bool:=match u with
 |.none=>eqV .non x
 |.bool b=>eqV (.bl b) x
 |.int i _=>eqV (.int i) x
 |.str z _=>eqV (.str z) x
 |_=>false
theorem sr (r:RelV y u)(f:MQ y=true):eqU x u=eqV y x:=by
 cases y with
 |non=>cases r;rfl
 |bl b=>cases r;rfl
 |int i=>obtain⟨t,rfl⟩:=r;rfl
 |str z=>obtain⟨t,rfl⟩:=r;rfl
 |_=>exact absurd (show false=true from f) G5
theorem jR : ∀ {xs:List V}{us:List J6},Vals xs us->xs.all MQ=true->us.any (eqU x)=xs.any λy=>eqV y x
 |_,_,.nil,_=>rfl
 |y::xs,u::us,.cons r t,f=>by
  rw[Ib,Ho] at f;rw[HN,HN,sr r f.1,jR t f.2]
theorem fX (rx:RelV x v)(fx:MQ x=true): ∀ {xs:List V}{us:List J6},Vals xs us->xs.all MQ=true-> ∀u∈us,SeqAt.EqAt A s u v (eqU x u)
 |_,_,.nil,_=>λu hu=>by cases hu
 |y::xs,u::us,.cons r t,f=>λu' hu=>by
  rw[Ib,Ho] at f;rcases GR.mp hu with rfl|hu
  ·rw[sr r f.1];exact Ea r rx f.1 fx
  ·exact fX rx fx t f.2 u' hu
noncomputable def inV (x:V)(xs:List V):Bool:=xs.any λy=>eqV y x
noncomputable def rIn (K:Zf)(neg:Bool):R2:=λx y H Q=> ∃p xs,y=.ref p/\(SqL K H p xs\/SqT K H p xs)/\MQ x=true/\xs.all MQ=true/\Q (.bl (if neg then !inV x xs else inV x xs)) H
theorem OH:OpR X (KC .In) (rIn X.K false):=by
 intro pins s σ H x y v u Q I rx ry h;obtain⟨p,xs,rfl,hq,fx,fs,q⟩:=h;cases ry;rcases hq with hq|hq
 ·obtain⟨its,r,pl,hz⟩:=I.list hq;refine SeqAt.in_listAt (eqU x) pl.isList (λw hw=>fX rx fx r fs w (by simpa using hw)) ⟨.bl _,H,I,rfl,?_⟩;rw[show its.toArray.any (eqU x)=its.any (eqU x) by simp,jR r fs];exact q
 ·obtain⟨its,r,pl,hz⟩:=I.tuple hq;refine SeqAt.in_tupleAt (eqU x) pl (λw hw=>fX rx fx r fs w (by simpa using hw)) ⟨.bl _,H,I,rfl,?_⟩;rw[show its.toArray.any (eqU x)=its.any (eqU x) by simp,jR r fs];exact q
theorem OM:OpR X (KC .NotIn) (rIn X.K true):=by
 intro pins s σ H x y v u Q I rx ry h;obtain⟨p,xs,rfl,hq,fx,fs,q⟩:=h;cases ry;rcases hq with hq|hq
 ·obtain⟨its,r,pl,hz⟩:=I.list hq;refine SeqAt.notIn_listAt (eqU x) pl.isList (λw hw=>fX rx fx r fs w (by simpa using hw)) ⟨.bl _,H,I,rfl,?_⟩;rw[show its.toArray.any (eqU x)=its.any (eqU x) by simp,jR r fs];exact q
 ·obtain⟨its,r,pl,hz⟩:=I.tuple hq;refine SeqAt.notIn_tupleAt (eqU x) pl (λw hw=>fX rx fx r fs w (by simpa using hw)) ⟨.bl _,H,I,rfl,?_⟩;rw[show its.toArray.any (eqU x)=its.any (eqU x) by simp,jR r fs];exact q
theorem ON:OpR X (KC .NotIn) (λx y H Q=> ∃i j,x=.str i/\y=.str j/\Q (.bl (!(!(J7.Str.occurrences j i 0 j.length 1).isEmpty))) H):=by
 intro pins s σ H x y v u Q I rx ry h;obtain⟨i,j,rfl,rfl,q⟩:=h;obtain⟨t,rfl⟩:=rx;obtain⟨t',rfl⟩:=ry;exact notIn_str ⟨.bl _,H,I,rfl,q⟩
theorem oQ:CallR X (.builtin "len") (λxs H Q=> ∃p ys,xs=[.ref p]/\(SqL X.K H p ys\/SqT X.K H p ys)/\Q (.int ys.length) H):=by
 intro pins s σ H xs us Q I r h;obtain⟨p,ys,rfl,hq,q⟩:=h;obtain⟨u,rfl,rx⟩:=QW r;cases rx;have hn:=ig;rcases hq with hq|hq
 ·obtain⟨its,r',pl,hz⟩:=I.list hq;have hlen:=r'.length;exact Calls.call_len_list pl.isList (by simp only[G4]<;>omega) ⟨.int ys.length,H,I.tok _,⟨s.toks+1,by rw[G4,hlen]⟩,q⟩
 ·obtain⟨its,r',pl,hz⟩:=I.tuple hq;have hlen:=r'.length;exact len_tuple pl (by simp only[G4]<;>omega) ⟨.int ys.length,H,I.tok _,⟨s.toks+1,by rw[G4,hlen]⟩,q⟩
theorem Mc:CallR X (.builtin "len") (λxs H Q=> ∃z,xs=[.str z]/\z.length<=sizeLine/\Q (.int z.length) H):=by
 intro pins s σ H xs us Q I r h;obtain⟨z,rfl,hz,q⟩:=h;obtain⟨u,rfl,t,rfl⟩:=QW r;have hn:=ig;exact len_str ∅ ⟨.int z.length,H,I.tok _,⟨_,rfl⟩,q⟩
theorem CallR.or {r r':List V->Hp->VK->Prop}(h:CallR X f r)(h':CallR X f r'):CallR X f (λxs H Q=>r xs H Q\/r' xs H Q):=by
 intro pins s σ H xs us Q I rs q;rcases q with q|q
 ·exact h pins s σ H xs us Q I rs q
 ·exact h' pins s σ H xs us Q I rs q
theorem oP:CallR X (.type "list") (λxs H Q=> ∃p ys,xs=[.ref p]/\(SqL X.K H p ys\/SqT X.K H p ys)/\ ∀l,H l=none->Q (.ref l) (upd H l (.lst ys))):=by
 intro pins s σ H xs us Q I r h;obtain⟨p,ys,rfl,hq,q⟩:=h;obtain⟨u,rfl,rx⟩:=QW r;cases rx;have fin: ∀ (its:List J6),Vals ys its->ys.length<=sizeLine-> ∀ (h':Ka) (c':Nat),(∀b o',s.heap.get? b=some o'->h'.get? b=some o')->
   h'.get? ↥s=some {cls:=.type "list",dict:=none,data:=.seq its.toArray c',slots:= #[]}->EP X pins σ Q (.ref ↥s) {s with heap:=h'}:=λits r' hz h' c' kp e=>
  ⟨.ref ↥s,_,I.laid (t':=s.toks) kp (GO _) (show ObjOk X.prog X.w _ h' _ (.lst ys) from⟨hz,its,c',r',e⟩),rfl,q _ (I.hok.fresh (GO _))⟩
 rcases hq with hq|hq
 ·obtain⟨its,r',pl,hz⟩:=I.list hq;have hlen:=r'.length;obtain⟨o,ho,hc,n,hd⟩:=pl.isList;exact call_list_seq p (.inl rfl) ho hc hd (λh' c' kp e=>fin its r' hz h' c' kp e) (by simp only[G4]<;>omega)
 ·obtain⟨its,r',pl,hz⟩:=I.tuple hq;have hlen:=r'.length;obtain⟨o,ho,hc,n,hd⟩:=pl;exact call_list_seq p (.inr rfl) ho hc hd (λh' c' kp e=>fin its r' hz h' c' kp e) (by simp only[G4]<;>omega)
theorem mz:CallR X (.type "tuple") (λxs H Q=> ∃p ys,xs=[.ref p]/\((SqL X.K H p ys/\ ∀l,H l=none->Q (.ref l) (upd H l (.tup ys)))\/(SqT X.K H p ys/\Q (.ref p) H))):=by
 intro pins s σ H xs us Q I r h;obtain⟨p,ys,rfl,h⟩:=h;obtain⟨u,rfl,rx⟩:=QW r;cases rx;rcases h with⟨hq,q⟩|⟨hq,q⟩
 ·obtain⟨its,r',pl,hz⟩:=I.list hq;have hlen:=r'.length;refine call_tuple_list pl.isList (λh' kp=>?_) (by simp only[G4]<;>omega);have I1:Inv X pins σ H {s with heap:=h'}:=I.kept (t':=s.toks) kp;have I2:Inv X pins σ (upd H h'.objs.size (.tup ys)) {s with heap:=h'.push {cls:=.type "tuple",data:=.seq its.toArray}}:=
   I1.laid (t':=s.toks) (λb o e=>GZ _ e) (GO _) (show ObjOk X.prog X.w _ _ _ (.tup ys) from⟨hz,its,r',IsTupD.new _ _⟩)
  exact⟨.ref h'.objs.size,_,I2,rfl,q _ (I1.hok.fresh (GO _))⟩
 ·obtain⟨its,r',pl,hz⟩:=I.tuple hq;exact call_tuple_same pl ⟨.ref p,H,I,rfl,q⟩
noncomputable def tyV (K:Zf)(T:String)(x:V)(H:Hp):Prop:=match x with
 |.str _=>T= "str"
 |.int _=>T= "int"
 |.ref p=>(T= "list"/\ ∃xs,SqL K H p xs)\/(T= "tuple"/\ ∃o,K.lookup p=some o/\o.cls=.type "tuple"/\o.dict=none)\/
  (T= "dict"/\((∃kvs,H p=some (.dK kvs))\/ ∃kvs,H p=some (.dT kvs)))\/(T= "set"/\ ∃S n,H p=some (.set S n))
 |_=>False
theorem BK (I:Inv X pins σ H s)(r:RelV x v)(ty:tyV X.K T x H):
  s.TypeIs v T/\ ∀a,v=.ref a-> ∃ob,s.heap.get? a=some ob/\ob.dict=none:=by
 cases x with
 |str z=>
  obtain⟨t,rfl⟩:=r;cases (show T= "str" from ty);exact⟨K8 s z t,λ_ e=>nomatch e⟩
 |int i=>
  obtain⟨t,rfl⟩:=r;cases (show T= "int" from ty);exact⟨typeIs_int s i t,λ_ e=>nomatch e⟩
 |ref p=>
  cases r;rcases ty with⟨rfl,xs,hq⟩|⟨rfl,o,hk,hc,hd⟩|⟨rfl,hk⟩|⟨rfl,S,n,hk⟩
  ·obtain⟨its,_,pl,_⟩:=I.list hq;refine⟨pl.isList.typeIs,λa e=>?_⟩;cases e;obtain⟨o,n,e,c,hd,_⟩:=pl;exact⟨o,e,hd⟩
  ·refine⟨⟨o,I.kIn p o hk,hc⟩,λa e=>?_⟩;cases e;exact⟨o,I.kIn _ o hk,hd⟩
  ·have z: ∃o,s.heap.get? p=some o/\o.ExactDict:=by
    rcases hk with⟨kvs,hk⟩|⟨kvs,hk⟩
    ·obtain⟨_,_,_,_,o,_,_,e,ex,_⟩:=I.hok p _ hk;exact⟨o,e,ex⟩
    ·obtain⟨_,_,_,_,o,_,_,e,ex,_⟩:=I.hok p _ hk;exact⟨o,e,ex⟩
   obtain⟨o,e,ex⟩:=z;refine⟨⟨o,e,ex.1⟩,λa e2=>?_⟩;cases e2;exact⟨o,e,ex.2.1⟩
  ·obtain⟨o,_,_,_,e,ex,_⟩:=I.hok p _ hk;refine⟨⟨o,e,ex.1⟩,λa e2=>?_⟩;cases e2;exact⟨o,e,ex.2.1⟩
 |_=>exact False.elim ty
noncomputable def tBM (K:Zf)(T:String)(r:V->List V->Hp->VK->Prop)(to:TE)(t:TA):TE:=λσ H Q=>to σ H λx H1=>tyV K T x H1/\t σ H1 λxs H2=>r x xs H2 Q
variable {o e:Expr}{es:List Expr}{to:TE}{t:TA}{name:Str}{apos cpos:Kx}{T id:String}{r:V->List V->Hp->VK->Prop}
theorem mW (pa:PlainAttrs T)(slot:Slot T name id)(hty:typeOf (.builtin id)=pure (.type "method_descriptor"))(hm:MtR X id r)(ho:PE X o to)(ha:PA X (e::es) t)
  (hbase:KS o name X.env (Kw o X.env)=Kw o X.env:=by rfl)
  (hfew:((Ky cpos (Kz (e::es) X.env)).all (λx=>!x.1) && (KU cpos (KW [] X.env)).all (λx=>x.1.isSome)
   && decide ((e::es).length+([]:List K2).length+(if ([]:List K2).isEmpty then 0 else 1)<30))=true:=by rfl)
  (hline:(apos.endLine==cpos.line)=true:=by rfl)(hs:Kz (e::es) X.env=(false,Kw e X.env)::Kz es X.env:=by rfl)(hplain:(Ky cpos (Kz es X.env)).any (·.1)=false:=by rfl):
  PE X (.Call (.Attribute o name apos) (e::es) [] cpos) (tBM X.K T r to t):=by
 intro pins s σ H Q I h;refine wpAny_Call_method_late hbase hfew hline rfl (thn (ho pins s σ H _ I h) λv s1 qz=>?_);obtain⟨x,H1,I1,r1,ty,q1⟩:=qz;obtain⟨h1,h2⟩:=BK I1 r1 ty;refine⟨T,id,pa,slot,hty,h1,h2,?_⟩;have hA:=ha cpos pins s1 σ H1 _ I1 q1;rw[hs] at hA ⊢;refine Calls.callWith_builtin (by show (false||(Ky cpos (Kz es X.env)).any (·.1))=false;rw[hplain]<;>rfl) (Calls.evalArgs_plain ?_);exact thn hA λus s2 ⟨vs,H2,I2,r2,q2⟩=>hm pins s2 σ H2 x vs v us Q I2 r1 r2 q2
end
end
section
noncomputable def MtM (X:Cx)(id:String)(r:V->List V->Hp->VK->Prop):Prop:=
 ∀ (pins:List (Kb×Ke)) (s:Kd) (σ:St) (H:Hp) (x:V) (xs:List V) (v:J6) (us:List J6) (Q:VK),Inv X pins σ H s->RelV x v->Vals xs us->r x xs H Q->
   Kh (Ki X.prog X.w) X.A (call (.builtin id) (v::us)) (EP X pins σ Q) X.xe s
theorem Vals.one: ∀ {x:V}{us:List J6},Vals [x] us-> ∃u,us=[u]/\RelV x u
 :=by
 intro x us h;cases h with
 |cons r q=>cases q;exact⟨_,rfl,r⟩
theorem Vals.two: ∀ {x y:V}{us:List J6},Vals [x,y] us-> ∃u v,us=[u,v]/\RelV x u/\RelV y v
 :=by
 intro x y us h;cases h with
 |cons r q=>
  cases q with
  |cons q z=>cases z;exact⟨_,_,rfl,r,q⟩
theorem Vals.reverse (h:Vals xs us):Vals xs.reverse us.reverse:=by
 induction h with
 |nil=>exact .nil
 |cons r t ih=>rw[Iz,Iz];exact Vals.append ih (.cons r .nil)
theorem Vals.rep (h:Vals xs us): ∀k:Nat,Vals (List.replicate k xs).flatten (List.replicate k us).flatten
 |0=>.nil
 |k+1=>by
  rw[HP,HP,HU,HU];exact Vals.append h (Vals.rep h k)
theorem nr (its:List J6): ∀ (k:Nat) (acc:List J6),
  IV (λx1 x2=>x1++x2) acc.toArray (List.replicate k its.toArray)=(acc++(List.replicate k its).flatten).toArray
 |0,acc=>⇑_
 |k+1,acc=>by
  have e:acc.toArray++its.toArray=(acc++its).toArray:=⇑_;have e2:(acc++its)++(List.replicate k its).flatten=acc++(List.replicate (k+1) its).flatten:=by
   rw[HP,HU,Hc]
  rw[<-e2,<-nr its k (acc++its),<-e,HP,Ic]
section
variable {X:Cx}{pins:List (Kb×Ke)}{σ:St}{H:Hp}{s:Kd}{l:Kb}{xs ys:List V}
theorem Inv.lset {its its':List J6}{n:Nat}{f:Array J6->Array J6}{t':Nat}(I:Inv X pins σ H s)(hH:H l=some (.lst xs))
  (e:s.heap.get? l=some {cls:=.type "list",data:=.seq its.toArray n})(hf:f its.toArray=its'.toArray)(hv:Vals ys its')(hz:ys.length<=sizeLine):
  Inv X pins σ (upd H l (.lst ys)) {s with heap:=s.heap.update l (Ke.mapSeq f),toks:=t'}:=by
 have q:=PySem.IsL.update e f;rw[hf] at q;refine I.write (x:=l) (e:=l) (by rw[hH];exact trivial) (.inl rfl) (λb' u hb hu=>(IT s.heap (Ke.mapSeq f) (Ne.symm hb)).trans hu) ⟨_,q⟩ ?_;exact⟨hz,its',_,hv,q⟩
theorem Inv.lnew {t':Nat}(I:Inv X pins σ H s)(hv:Vals ys its)(hz:ys.length<=sizeLine):
  Inv X pins σ (upd H ↥s (.lst ys)) {s with heap:=s.heap.push {cls:=.type "list",data:=.seq its.toArray},toks:=t'}:=
 I.laid (λ_ _ q=>GZ _ q) (GO _) ⟨hz,its,0,hv,He _ rfl⟩
theorem Inv.fresh (I:Inv X pins σ H s):H ↥s=none:=I.hok.fresh (GO _)
theorem Inv.lstM (I:Inv X pins σ H s)(hH:H l=some (.lst xs)):xs.length<=sizeLine/\ ∃ (its:List J6) (n:Nat),Vals xs its/\xs.length=its.length/\s.heap.get? l=some {cls:=.type "list",data:=.seq its.toArray n}:=by
 obtain⟨z,its,n,r,e⟩:=I.hok l _ hH;exact⟨z,its,n,r,r.length,e⟩
theorem pY {n:Nat}(h:n<=sizeLine):J7.List.listTooLong n=false:=by
 unfold J7.List.listTooLong;exact decide_eq_false ∅
end
section
variable {X:Cx}
noncomputable def zK:V->List V->Hp->VK->Prop:=λx vs H Q=> ∃l xs y,x=.ref l/\vs=[y]/\H l=some (.lst xs)/\xs.length<sizeLine/\Q .non (upd H l (.lst (xs++[y])))
theorem uW:MtM X "list.append" zK:=by
 intro pins s σ H x vs v us Q I rx rv h;obtain⟨l,xs,y,rfl,rfl,hH,hz,q⟩:=h;cases rx;obtain⟨u,rfl,ru⟩:=rv.one;obtain⟨z,its,n,r,hl,e⟩:=I.lstM hH;refine La F.slot_list_append ⟨_,e,rfl⟩ F.entry_list_append (F.args_list_append_2 _ _) (PySem.list_append l its.toArray n u (by rw[G4];omega)) ⟨e,?_⟩;refine⟨.non,_,I.lset (its':=its++[u]) hH e ⇑_ (r.append (.cons ru .nil)) ?_,rfl,q⟩;rw[GQ,Hq];omega
noncomputable def zJ:V->List V->Hp->VK->Prop:=λx vs H Q=> ∃l b xs zs,x=.ref l/\vs=[.ref b]/\H l=some (.lst xs)/\H b=some (.lst zs)/\xs.length+zs.length<=sizeLine/\Q .non (upd H l (.lst (xs++zs)))
theorem uV:MtM X "list.extend" zJ:=by
 intro pins s σ H x vs v us Q I rx rv h;obtain⟨l,b,xs,zs,rfl,rfl,hH,hB,hz,q⟩:=h;cases rx;obtain⟨u,rfl,ru⟩:=rv.one;cases ru;obtain⟨z,its,n,r,hl,e⟩:=I.lstM hH;obtain⟨z2,its2,n2,r2,hl2,e2⟩:=I.lstM hB;have hsz:its.toArray.size+its2.toArray.size<=sizeLine:=by rw[G4,G4];omega
 have hlong: ¬(!its.toArray.isEmpty && J7.List.listTooLong (its.toArray.size+its2.toArray.size))=true:=by
  rw[pY hsz,Bool.and_false];exact G5
 refine La F.slot_list_extend ⟨_,e,rfl⟩ F.entry_list_extend (F.args_list_extend_2 _ _)
  (AutoSeq1.list_extend_list_list_0 l its.toArray n b its2.toArray n2 hlong (by rw[G4];omega) ∅) ⟨e,e2,?_⟩
 refine⟨.non,_,I.lset (its':=its++its2) hH e ⇑_ (r.append r2) ?_,rfl,q⟩;rw[GQ];omega
noncomputable def rCat:R2:=λx y H Q=> ∃l b xs zs,x=.ref l/\y=.ref b/\H l=some (.lst xs)/\H b=some (.lst zs)/\xs.length+zs.length<=sizeLine/\ ∀p,H p=none->Q (.ref p) (upd H p (.lst (xs++zs)))
theorem xo:OpR X (KQ .Add) rCat:=by
 intro pins s σ H x y v u Q I rx ry h;obtain⟨l,b,xs,zs,rfl,rfl,hH,hB,hz,q⟩:=h;cases rx;cases ry;obtain⟨z,its,n,r,hl,e⟩:=I.lstM hH;obtain⟨z2,its2,n2,r2,hl2,e2⟩:=I.lstM hB;refine PySem.P.add_list e e2 ?_ (by rw[G4,G4];omega);have ea:its.toArray++its2.toArray=(its++its2).toArray:=⇑_;rw[ea];exact⟨.ref _,_,I.lnew (t':=s.toks) (r.append r2) (by rw[GQ];omega),rfl,q _ I.fresh⟩
noncomputable def rRep:R2:=λx y H Q=> ∃l k xs,x=.ref l/\y=.int k/\H l=some (.lst xs)/\ -(2 ^ 63)<=k/\k<2 ^ 63/\xs.length * k.toNat<=sizeLine/\
 ∀p,H p=none->Q (.ref p) (upd H p (.lst (List.replicate k.toNat xs).flatten))
theorem AE {α:Type}(xs:List α)(k:Nat):(List.replicate k xs).flatten.length=k * xs.length:=by
 induction k with
 |zero=>simp
 |succ k ih=>rw[HP,HU,GQ,ih,Nat.succ_mul,HV]
theorem xl:OpR X (KQ .Mult) rRep:=by
 intro pins s σ H x y v u Q I rx ry h;obtain⟨l,k,xs,rfl,rfl,hH,h1,h2,hz,q⟩:=h;cases rx;obtain⟨t,rfl⟩:=ry;obtain⟨z,its,n,r,hl,e⟩:=I.lstM hH;have hlen:its.toArray.size * k.toNat<=sizeLine:=by rw[G4,<-hl];exact hz
 have hcap: ¬its.toArray.size * k.toNat>(2 ^ 63 - 1) / 8:=by
  have:(sizeLine:Nat)<=(2 ^ 63 - 1) / 8:=↥_;omega
 have hfit: ¬(!J7.List.listFitsIndex k)=true:=by
  rw[fitsIndex_both h1 h2];exact G5
 have hlong: ¬J7.List.listTooLong (its.toArray.size * k.toNat)=true:=by
  rw[pY hlen];exact G5
 have hnew:IV (λx1 x2=>x1++x2) #[] (List.replicate (if its.toArray.isEmpty=true then 0 else k.toNat) its.toArray)=(List.replicate k.toNat its).flatten.toArray:=by
  have f0: ∀m:Nat,IV (λx1 x2=>x1++x2) #[] (List.replicate m its.toArray)=(List.replicate m its).flatten.toArray:=λm=>by
   have:=nr its m [];rw[HB] at this;exact this
  rw[f0];cases its with
  |nil=>simp
  |cons a r'=>rw[if_neg ⇑_]
 refine wpAny_binaryOp_repeat_ref (T:= "list") (U:= "int") ↥_ ⟨_,e,rfl⟩ (λs'=>typeIs_int s' k t) noFill_list_mul F.fills_int_mul F.slot_int_rmul repeat_list F.slot_int_index.lookup
  (La F.slot_int_rmul (typeIs_int s k t) F.entry_int_rmul (F.args_int_rmul_2 _ _) (int___rmul___int_list k t l its.toArray n)
   ⟨e,rfl,⟨_,e,rfl⟩,La F.slot_list_mul ⟨_,e,rfl⟩ F.entry_list_mul (F.args_list_mul_2 _ _) (AutoListH.list___mul___list_int_3 l its.toArray n k t hfit hcap hlong) ⟨e,?_⟩⟩)
 rw[hnew];exact⟨.ref _,_,I.lnew (t':=s.toks) (r.rep k.toNat) (by rw[AE,Nat.mul_comm];exact hz),rfl,q _ I.fresh⟩
end
end
section
section
variable {κ:Type} [DecidableEq κ]
noncomputable def QV (kvs:List (κ×V))(k:κ):Option V:=(kvs.find? λkv=>decide (kv.1=k)).map (·.2)
noncomputable def Pb (kvs:List (κ×V))(k:κ)(v:V):List (κ×V):=
 if (kvs.any λkv=>decide (kv.1=k))=true then kvs.map (λkv=>if kv.1=k then (kv.1,v) else kv) else kvs++[(k,v)]
theorem kQ {p:κ×V}{r:List (κ×V)}{k:κ}(e:p.1=k):QV (p::r) k=some p.2:=by simp [QV,Ie,e]
theorem kR {p:κ×V}{r:List (κ×V)}{k:κ}(e:¬p.1=k):QV (p::r) k=QV r k:=by simp [QV,Ie,e]
theorem o4 (k:κ): ∀kvs:List (κ×V),(kvs.any λkv=>decide (kv.1=k))=(QV kvs k).isSome
 |[]=>rfl
 |p::r=>by
  rw[HN];by_cases e:p.1=k
  ·simp only[kQ e,decide_eq_true e,Bool.true_or,Option.isSome_some]
  ·rw[kR e,decide_eq_false e,Bool.false_or];exact o4 k r
theorem ii (kvs:List (κ×V))(k:κ)(v:V):(Pb kvs k v).length<=kvs.length+1:=by
 unfold Pb;split
 ·rw[GN];omega
 ·rw[GQ,GT,IA];omega
theorem RelO.isSome_eq (r:RelO o u):o.isSome=u.isSome:=by
 cases o with
 |none=>cases u with
  |none=>rfl
  |some _=>exact (show False from r).elim
 |some _=>cases u with
  |none=>exact (show False from r).elim
  |some _=>rfl
theorem KV.val (r:KV kvs vs)(k:κ):RelO (QV kvs k) (valueAt vs k):=by
 unfold KV at r
 induction r with
 |nil=>exact True.intro
 | @cons p q ps qs h t ih=>
   obtain⟨h1,h2⟩:=h;by_cases e:p.1=k
   ·have e':q.1=k:=h1.symm.trans e;have b:valueAt (q::qs) k=some q.2:=by simp [valueAt,Ie,e']
    rw[kQ e,b];exact h2
   ·have e': ¬q.1=k:=λz=>e (h1.trans z);have b:valueAt (q::qs) k=valueAt qs k:=by simp [valueAt,Ie,e']
    rw[kR e,b];exact ih
theorem KV.any (r:KV kvs vs)(k:κ):(kvs.any λkv=>decide (kv.1=k))=vs.any λkv=>decide (kv.1=k):=by
 unfold KV at r
 induction r with
 |nil=>rfl
 |cons h t ih=>rw[HN,HN,ih,h.1]
theorem KV.repl (r:KV kvs vs)(k:κ)(ry:RelV y u):
  KV (kvs.map λkv=>if kv.1=k then (kv.1,y) else kv) (vs.map λkv=>if kv.1=k then (kv.1,u) else kv):=by
 unfold KV at r ⊢
 induction r with
 |nil=>exact .nil
 | @cons p q ps qs h t ih=>
   rw[GV,GV];refine .cons ?_ ih;obtain⟨h1,h2⟩:=h;by_cases e:p.1=k
   ·rw[if_pos e,if_pos (h1.symm.trans e)];exact⟨h1,ry⟩
   ·rw[if_neg e,if_neg (λz=>e (h1.trans z))];exact⟨h1,h2⟩
theorem KV.put (r:KV kvs vs)(k:κ)(ry:RelV y u):KV (Pb kvs k y) (stored vs k u):=by
 unfold Pb stored;rw[r.any k];by_cases e:(vs.any λkv=>decide (kv.1=k))=true
 ·rw[if_pos e,if_pos e];exact r.repl k ry
 ·rw[if_neg e,if_neg e];exact Paired.snoc r ⟨rfl,ry⟩
theorem KV.length (r:KV kvs vs):kvs.length=vs.length:=Paired.length r
end
theorem ng {w:J9}(r:RelV (kV k) u):(cx P w).is k u=true:=by
 cases k with
 |inl i=>obtain⟨t,e⟩:=(show∃t,u=J6.int i t from r);subst e;exact p5 P w i t
 |inr x=>obtain⟨t,e⟩:=(show∃t,u=J6.str x t from r);subst e;exact p4 P w x t
theorem j6 {w:J9}: ∀ {ks:List Key}{us:List J6},Vals (ks.map kV) us->ItemsAre (cx P w) ks us
 |[],_,r=>by rw[Ht] at r;cases r;exact .nil
 |k::ks,_,r=>by
  rw[GV] at r;cases r with
  |cons h t=>exact .cons (ng h) (j6 t)
noncomputable abbrev KT (H:Hp):List (List Key×V)->List (List Key×Kb×J6)->Prop:=Paired λp q=>p.1=q.1/\H q.2.1=some (.tup (p.1.map kV))/\RelV p.2 q.2.2
theorem KT.val (r:KT H kvs xs)(k:List Key):RelO (QV kvs k) ((Lb xs k).map (·.2)):=by
 induction r with
 |nil=>exact True.intro
 | @cons p q ps qs h t ih=>
   obtain⟨h1,_,h2⟩:=h;by_cases e:p.1=k
   ·have e':q.1=k:=h1.symm.trans e;have b:Lb (q::qs) k=some q.2:=by simp [Lb,Ie,e']
    rw[kQ e,b];exact h2
   ·have e': ¬q.1=k:=λz=>e (h1.trans z);have b:Lb (q::qs) k=Lb qs k:=by simp [Lb,Ie,e']
    rw[kR e,b];exact ih
theorem KT.repl (r:KT H kvs xs)(k:List Key)(ry:RelV y u):
  KT H (kvs.map λkv=>if kv.1=k then (kv.1,y) else kv) (xs.map (putAt k u)):=by
 induction r with
 |nil=>exact .nil
 | @cons p q ps qs h t ih=>
   rw[GV,GV];refine .cons ?_ ih;obtain⟨h1,h2,h3⟩:=h;unfold putAt;by_cases e:p.1=k
   ·rw[if_pos e,if_pos (h1.symm.trans e)];exact⟨h1,h2,ry⟩
   ·rw[if_neg e,if_neg (λz=>e (h1.trans z))];exact⟨h1,h2,h3⟩
theorem KT.put (r:KT H kvs xs)(k:List Key)(hb:H b=some (.tup (k.map kV)))(ry:RelV y u):
  KT H (Pb kvs k y) (storedH xs k b u):=by
 have e:(kvs.any λkv=>decide (kv.1=k))=(Lb xs k).isSome:=by
  rw[o4,(r.val k).isSome_eq,IX]
 unfold Pb storedH;rw[e];by_cases q:(Lb xs k).isSome=true
 ·rw[if_pos q,if_pos q];exact r.repl k ry
 ·rw[if_neg q,if_neg q];exact Paired.snoc r ⟨rfl,hb,ry⟩
theorem KT.keeps (r:KT H kvs xs)(ht: ∀b ys,H b=some (.tup ys)->H' b=some (.tup ys)):KT H' kvs xs:=
 Paired.mapP r λ_ _ z=>⟨z.1,ht _ _ z.2.1,z.2.2⟩
section
variable {P:J8}{w:J9}{H:Hp}{h:Ka}{a:Kb}
theorem wM (ok:HOk P w H h)(e:Rd H a u):ObjOk P w H h a u:=e.ok ok
theorem nv (ok:HOk P w H h)(e:Rd H a (.dK kvs)):kvs.length<=sizeLine/\(a==Kq)=false/\ ∃vs,KV kvs vs/\h.DictOf (cx P w) a vs:=
 show ObjOk P w H h a (.dK kvs) from wM ok e
theorem FG (ok:HOk P w H h)(e:H a=some (.dK kvs)):kvs.length<=sizeLine/\(a==Kq)=false/\ ∃vs,KV kvs vs/\h.DictOf (cx P w) a vs:=nv ok (.inl e)
theorem lU (ok:HOk P w H h)(e:H a=some (.tup (ks.map kV))):(Kr (cx P w)).is h ks a:=by
 obtain⟨_,its,r,⟨o,h1,h2,n,h3⟩,_⟩:=(show ObjOk P w H h a (.tup (ks.map kV)) from ok a _ e)
 exact⟨o,its.toArray,n,h1,h2,h3,by simpa using j6 r⟩
theorem kj (ok:HOk P w H h)(e:Rd H a (.dT kvs)):kvs.length<=sizeLine/\(a==Kq)=false/\
  ∃xs,KT H kvs xs/\h.DictOfH (Kr (cx P w)) a xs:=by
 obtain⟨z,y,xs,r,o,es,ep,h1,h2,h3,h4,h5⟩:=(show ObjOk P w H h a (.dT kvs) from wM ok e)
 refine⟨z,y,xs,r,o,es,ep,h1,h2,h3,h4,λx hx=>?_,h5⟩;have all: ∀ {l:List (List Key×V)}{m:List (List Key×Kb×J6)},KT H l m-> ∀x∈m,(Kr (cx P w)).is h x.1 x.2.1:=by
  intro l m q
  induction q with
  |nil=>intro x hx;exact nomatch hx
  | @cons p q ps qs hq t ih=>
    intro x hx;rcases GR.mp hx with e|hx
    ·subst e;exact lU ok (by rw[<-hq.1];exact hq.2.1)
    ·exact ih x hx
 exact all r x hx
theorem FE (ok:HOk P w H h)(e:H a=some (.dT kvs)):kvs.length<=sizeLine/\(a==Kq)=false/\
 ∃xs,KT H kvs xs/\h.DictOfH (Kr (cx P w)) a xs:=kj ok (.inl e)
end
noncomputable def Lq (H:Hp)(a:Kb)(y:V)(r:Option V):Prop:=
 (∃kvs k,Rd H a (.dK kvs)/\y=kV k/\r=QV kvs k)\/ ∃kvs k b,Rd H a (.dT kvs)/\y=.ref b/\H b=some (.tup (k.map kV))/\r=QV kvs k
noncomputable def DPut (H:Hp)(a:Kb)(y v:V)(H':Hp):Prop:=
 (∃kvs k,H a=some (.dK kvs)/\y=kV k/\kvs.length<sizeLine/\H'=upd H a (.dK (Pb kvs k v)))\/
 ∃kvs k b,H a=some (.dT kvs)/\y=.ref b/\H b=some (.tup (k.map kV))/\kvs.length<sizeLine/\H'=upd H a (.dT (Pb kvs k v))
section
variable {X:Cx}{pins:List (Kb×Ke)}{σ:St}{H:Hp}{s:Kd}{a:Kb}{y v:V}{u r:J6}{o:Option V}{A:Kf}{E:J6->Kd->Prop}
theorem Inv.big (I:Inv X pins σ H s):Kq<↥s:=by
 have h:Ks<↥s:=(I.mod.glob.keeps I.bk).lt;exact IB ↥_ h
theorem vE {Q:J6->Kd->Prop}(hu:A.units+1<Kg)(I:Inv X pins σ H s)(g:Lq H a y (some v))(ry:RelV y u)(h:∀w' s',Inv X pins σ H s'->RelV v w'->Q w' s'):
  Kh (Ki X.prog X.w) A (getItem (.ref a) u) Q E s:=by
 rcases g with⟨kvs,k,e,ey,l⟩|⟨kvs,k,b,e,ey,eb,l⟩
 ·subst ey;obtain⟨z,hd,vs,rel,dd⟩:=nv I.hok e;obtain⟨w',hw,rw'⟩:=RelO.some_of (v:=v) (o:=valueAt vs k) (by rw[l];exact rel.val k);exact wpAny_getItem_of (ng ry) dd.mapOf hw (h w' _ (I.tok _) rw')
 ·subst ey;cases (show u=J6.ref b from ry);obtain⟨z,hd,xs,rel,dd⟩:=kj I.hok e;obtain⟨w',hw,rw'⟩:=RelO.some_of (v:=v) (o:=(Lb xs k).map (·.2)) (by rw[l];exact rel.val k);obtain⟨p,hp,hp2⟩:=Hd.mp hw;refine wpAny_getItem_heap (Lc hu) (lU I.hok eb) dd hp ?_;rw[hp2];exact h w' _ (I.tok _) rw'
theorem GE {Q:J6->Kd->Prop}(hu:A.units+1<Kg)(I:Inv X pins σ H s)(g:Lq H a y o)(ry:RelV y u)(h:∀s',Inv X pins σ H s'->Q (.bool o.isSome) s'):
  Kh (Ki X.prog X.w) A (KC .In u (.ref a)) Q E s:=by
 rcases g with⟨kvs,k,e,ey,l⟩|⟨kvs,k,b,e,ey,eb,l⟩
 ·subst ey;obtain⟨z,hd,vs,rel,dd⟩:=nv I.hok e;refine wpAny_in_of (ng ry) hd dd.mapOf ?_;rw[<-(rel.val k).isSome_eq,<-l];exact h _ (I.tok _)
 ·subst ey;cases (show u=J6.ref b from ry);obtain⟨z,hd,xs,rel,dd⟩:=kj I.hok e;refine wpAny_in_heap (Lc hu) (lU I.hok eb) hd dd ?_;have q:=(rel.val k).isSome_eq;rw[IX] at q;rw[<-q,<-l];exact h _ (I.tok _)
theorem A8 {Q:J6->Kd->Prop}(hu:A.units+1<Kg)(I:Inv X pins σ H s)(g:Lq H a y o)(ry:RelV y u)(h:∀s',Inv X pins σ H s'->Q (.bool (!o.isSome)) s'):
  Kh (Ki X.prog X.w) A (KC .NotIn u (.ref a)) Q E s:=by
 rcases g with⟨kvs,k,e,ey,l⟩|⟨kvs,k,b,e,ey,eb,l⟩
 ·subst ey;obtain⟨z,hd,vs,rel,dd⟩:=nv I.hok e;refine wpAny_notIn_of (ng ry) hd dd.mapOf ?_;rw[<-(rel.val k).isSome_eq,<-l];exact h _ (I.tok _)
 ·subst ey;cases (show u=J6.ref b from ry);obtain⟨z,hd,xs,rel,dd⟩:=kj I.hok e;refine wpAny_notIn_heap (Lc hu) (lU I.hok eb) hd dd ?_;have q:=(rel.val k).isSome_eq;rw[IX] at q;rw[<-q,<-l];exact h _ (I.tok _)
theorem uf {t':Nat}(I:Inv X pins σ H s)(mu:Mut (H a))(hs:Hy a s.heap h')(he: ∃q,h'.get? a=some q)(new:ObjOk X.prog X.w (upd H a ob) h' a ob):
  Inv X pins σ (upd H a ob) {s with heap:=h',toks:=t'}:=
 I.write (x:=a) (e:=a) mu (.inl rfl) (λb q hb z=>(hs.2 b hb).trans z) he new
theorem yM {w:J9}(z:kvs.length<=sizeLine)(hd:(a==Kq)=false)(rel:KV kvs vs)(dd:h'.DictOf (cx P w) a vs):
 ObjOk P w H' h' a (.dK kvs):=⟨z,hd,vs,rel,dd⟩
theorem vD {Q:Unit->Kd->Prop}(hu:A.units+1<Kg)(I:Inv X pins σ H s)(g:DPut H a y v H')(ry:RelV y u)(rv:RelV v r)(h:∀s',Inv X pins σ H' s'->Q () s'):
  Kh (Ki X.prog X.w) A (setItem (.ref a) u r) Q E s:=by
 rcases g with⟨kvs,k,e,ey,l,eH⟩|⟨kvs,k,b,e,ey,eb,l,eH⟩
 ·subst ey eH;obtain⟨z,hd,vs,rel,dd⟩:=FG I.hok e;have hz:vs.length<=sizeLine:=by rw[<-rel.length];exact z
  have hl:(Pb kvs k v).length<=sizeLine:=by have:=ii kvs k v;omega
  refine wpAny_setItem_pairs (hsz:=hz) (ng ry) dd λh' dd' hs=>h _ ?_;have he: ∃q,h'.get? a=some q:=let ⟨q,_,_,hq,_⟩:=dd';⟨q,hq⟩;exact uf I (by rw[e];exact True.intro) hs he (yM hl hd (rel.put k rv) dd')
 ·subst ey eH;cases (show u=J6.ref b from ry);obtain⟨z,hd,xs,rel,dd⟩:=FE I.hok e;have hz:xs.length<=sizeLine:=by rw[<-Paired.length rel];exact z
  have hl:(Pb kvs k v).length<=sizeLine:=by have:=ii kvs k v;omega
  refine wpAny_setItem_heap (hsz:=hz) (Lc hu) (lU I.hok eb) dd λh' dd' hs=>h _ ?_;obtain⟨q,es,ep,hq,h2,h3,h4,_,h5⟩:=dd';refine uf I (by rw[e];exact True.intro) hs ⟨q,hq⟩ ⟨hl,hd,_,(rel.put k eb rv).keeps λc ys ec=>?_,q,es,ep,hq,h2,h3,h4,h5⟩;rw[ai (E5 ec e (λz=>nomatch z))];exact ec
end
theorem qw (I:Inv X pins σ H s)(g:Lq H a y o):s.TypeIs (.ref a) "dict":=by
 rcases g with⟨kvs,k,e,_,_⟩|⟨kvs,k,b,e,_,_,_⟩
 ·obtain⟨_,_,vs,_,dd⟩:=nv I.hok e;exact dd.typeIs
 ·obtain⟨_,_,xs,_,dd⟩:=kj I.hok e;exact dd.typeIs
theorem yN {w:J9}(h:Ka)(hb:Kq<h.objs.size):ObjOk P w H (h.push {cls:=.type "dict",data:=.dict #[]}) h.objs.size (.dK []):=
 ⟨G8 _,beq_eq_false_iff_ne.mpr (Ne.symm (G7 hb)),[],.nil,Ka.DictOf.new h⟩
theorem yL {w:J9}(h:Ka)(hb:Kq<h.objs.size):ObjOk P w H (h.push {cls:=.type "dict",data:=.dict #[]}) h.objs.size (.dT []):=
 ⟨G8 _,beq_eq_false_iff_ne.mpr (Ne.symm (G7 hb)),[],.nil,_,#[],0,He _ rfl,⟨rfl,rfl,rfl⟩,rfl,rfl,IY⟩
noncomputable def BY:TE:=λ_ H Q=> ∀p,H p=none->Q (.ref p) (upd H p (.dK []))
noncomputable def BX:TE:=λ_ H Q=> ∀p,H p=none->Q (.ref p) (upd H p (.dT []))
section
variable {X:Cx}{pos:Kx}
theorem OX:PE X (.Dict [] [] pos) BY:=λpins s σ H Q I h=>
 wpAny_Dict_empty ⟨.ref ↥s,_,I.laid (a:=↥s) (o:=.dK []) (t':=s.toks) (λ_ _ q=>GZ _ q) (GO _) (yN s.heap I.big),rfl,h _ (I.hok.fresh (GO _))⟩
theorem OY:PE X (.Dict [] [] pos) BX:=λpins s σ H Q I h=>
 wpAny_Dict_empty ⟨.ref ↥s,_,I.laid (a:=↥s) (o:=.dT []) (t':=s.toks) (λ_ _ q=>GZ _ q) (GO _) (yL s.heap I.big),rfl,h _ (I.hok.fresh (GO _))⟩
end
noncomputable def gq (kvs more:List (Key×V)):List (Key×V):=more.foldl (λacc kv=>Pb acc kv.1 kv.2) kvs
noncomputable def IsD (H:Hp)(a:Kb):Prop:=(∃kvs,Rd H a (.dK kvs))\/ ∃kvs,Rd H a (.dT kvs)
theorem D6 (I:Inv X pins σ H s)(d:IsD H a):
  s.TypeIs (.ref a) "dict"/\(∀b,J6.ref a=.ref b-> ∃ob,s.heap.get? b=some ob/\ob.dict=none)/\(a==Kq)=false:=by
 rcases d with⟨kvs,e⟩|⟨kvs,e⟩
 ·obtain⟨_,hd,vs,_,dd⟩:=nv I.hok e;refine⟨dd.typeIs,λb q=>?_,hd⟩;cases q;obtain⟨ob,_,_,h1,h2,_⟩:=dd;exact⟨ob,h1,h2.2.1⟩
 ·obtain⟨_,hd,xs,_,dd⟩:=kj I.hok e;refine⟨dd.typeIs,λb q=>?_,hd⟩;cases q;obtain⟨ob,_,_,h1,h2,_⟩:=dd;exact⟨ob,h1,h2.2.1⟩
end
end L2
namespace Att
open PySem PySem.W PySem.Calls PyProof.Rows
theorem kr : ∀ (ns:List Int) (vs:List J6),WellAll P h vs (ns.map WData.int)->IntsAre vs ns:=by
 intro ns
 induction ns with
 |nil=>
  intro vs w;rw[Ht] at w;cases w;exact .nil
 |cons n ns ih=>
  intro vs w;rw[GV] at w;cases w with
  |cons a b=>
   cases a;exact .cons _ _ (ih _ b)
theorem uC {l:OpenLaw}{n:Nat}(hn:l.most=some n){P:Params}{h:Ka}{args:List WData}{vals:List J6}
  (hpre:l.row.toRowW.claim.pre args=true)(hwl:WellAll P h vals args):
  ∃a vs ns,vals=[J6.ref a]/\args=[WData.list (ns.map WData.int)]/\h.get? a=some {cls:=.type "list",data:=.seq vs.toArray}/\IntsAre vs ns/\ns.length<=n:=by
 have hsh:WShape.hasAll [] args [.list .int]=true:=(pre_splitW hpre).1;have hc:l.pre.holds [] {args:=args}=true:=(pre_splitW hpre).2;obtain⟨d,r,rfl,h1,h2⟩:=hasAllW_cons hsh;obtain rfl:=hasAllW_nil h2;obtain⟨xs,rfl,h3⟩:=hasW_list h1;obtain⟨ns,rfl⟩:=items_int h3;have hlen:ns.length<=n:=by
  unfold OpenLaw.pre at hc;have h4:(WTm.not (.lt (.lit (.int (n:Int))) (.len (.arg 0)))).holds [] {args:=[.list (ns.map .int)]}=true:=by
   have h4:=(holds_andW hc).1;rw[hn] at h4;exact h4
  have h5:=condW_of h4 (w_not (w_lt w_lit (w_len_list (w_arg rfl))));rw[GN] at h5;refine Nat.le_of_not_lt λq=>?_;have q':(n:Int)<((ns.length:Nat):Int):=∅
  first
   |(rw[decide_eq_true q'] at h5;exact absurd h5 ↥_)
   |(simp at h5;omega)
 cases hwl with
 |cons w1 w2=>
  cases w2;cases w1 with
  |list ho hall=>exact⟨_,_,ns,rfl,rfl,ho,kr ns _ hall,hlen⟩
theorem uK (l:OpenLaw)(args:List WData):l.row.toRowW.claim.post args (.bool true) args=true:=
 postW_of (r:=l.row.toRowW) (X:=(true==true))
  (show WShape.has [] (.bool true) .bool=true by first|rfl|decide|simp [WShape.has,WShape.arms,WShape.armsAll])
  (show (WTm.eq .res (.lit (.bool true))).value [] {args:=args,res:=some (.bool true),after:=args}=some (.bool (true==true)) from w_eq_bool (w_res rfl) w_lit) rfl
theorem attach_call {l:OpenLaw}{n:Nat}{q:J8}{loose:List Str}{XP:(Str->Option J6)->Ka->Prop}{YP:J9->Ka->Prop}{d:DefRec}
  (hn:l.most=some n)(hdf:d.params.defaults=[])
  (call: ∀ (w:J9) (s₀ s₁:Kd) (mg mb:Str->Option J6) (fa:Kb) (o:Ke) (pm cd doc:J6) (a:Kb) (vs:List J6) (ns:List Int),
   Ground q loose [] XP w s₀ mg mb s₁.heap->YP w s₁.heap->
   s₁.heap.get? fa=some o->o.data=.func (docDef d.name d.params d.body d.scope pm cd doc)->s₁.heap.CodeRec cd d.name->mg d.name=some (.ref fa)->
   s₁.heap.get? a=some {cls:=.type "list",data:=.seq vs.toArray}->IntsAre vs ns->ns.length<=n->s₁.gens= #[]->
   codeAny (Ki l.prog w) callerA (.call (.ref fa) ⟨[.ref a],[]⟩) (λr s'=>r=.ok (.ret (.bool true))/\OldK s₁.heap s'.heap/\s'.os=s₁.os/\Kv s'.gens) s₁):
  WalkO q loose XP YP l.row.toRowW d [] (λf vs=>PySem.call f vs):=by
 intro w s₀ s₁ mg mb G Y fa o pm cd doc dV kV ho hd hcd hD hmg hg args vals as hpre hlay hrd hwl hlo;obtain rfl:dV=.none:=Dflts.none hD hdf;obtain rfl:kV=.none:=Dflts.noKw hD;obtain⟨a,vs,ns,rfl,rfl,hobj,hints,hlen⟩:=uC hn hpre hwl;refine enter_call (KZ (call w s₀ s₁ mg mb fa o pm cd doc a vs ns G Y ho (fd_plain hd) hcd hmg hobj hints hlen hg) λr s' hq=>?_);obtain⟨rfl,h2,h3,h4⟩:=hq;exact⟨.inl ⟨.bool true,.bool true,[],rfl,λ_=>rfl,.bool true,uK l _,λ_=>⟨List.Pairwise.nil,λ_ hm=>(nomatch hm)⟩⟩,h2,h3,h4⟩
section
end
end Att
namespace L2
open PySem PySem.Spec PyProof.Rows
theorem mK: ∀ {vs:List J6}{ns:List Int},IntsAre vs ns->Vals (ns.map V.int) vs
 |_,_,.nil=>.nil
 |_,_,.cons n t h=>.cons ⟨t,rfl⟩ (mK h)
noncomputable def LF (H:Hp):Prop:= ∀b,H b=none\/ ∃o xs,H b=some (.frz o (.lst xs))
theorem yc {w:J9}{K:Zf}{mg mb:Str->Option J6}{k:Nat}{x:Str}
  (KX:K.In s₁.heap)(hns:s₁.heap.Ns Ks mg)(hb:s₁.heap.Ns builtinsNs mb)(hbb: ∀x:Str,x≠ "__name__"->mb x=Kt x)(hlim:s₁.heap.NoLimit)(hg:s₁.gens= #[])
  (ha:s₁.heap.get? a=some {cls:=.type "list",data:=.seq vs.toArray})(hi:IntsAre vs ns)(hl:ns.length<=sizeLine)(hr:Room k callerA)
  (F:∀base:Ka,K.In base->base.Ns Ks mg->FnOk P w K mg base CX k fa fd [x] sp)(hbind: ∀ (s:Kd) (u:J6),BindsTo s fd ⟨[u],[]⟩ [(x,u)])
  (hsp: ∀H:Hp,LF H->SqL K H a (ns.map V.int)->sp [.ref a] H (λv _=>v=.bl true) λ_ _ _=>False)
  (hCX: ∀H e s',CX [] H s₁ (λ_ _ _=>False) e s'->False):
  codeAny (Ki P w) callerA (.call (.ref fa) ⟨[.ref a],[]⟩) (λr s'=>r=.ok (.ret (.bool true))/\OldK s₁.heap s'.heap/\s'.os=s₁.os/\Kv s'.gens) s₁:=by
 have rv:=mK hi;have lenV:=hi.length;have core: ∀H:Hp,LF H->SqL K H a (ns.map V.int)->HOk P w H s₁.heap->(∀b,H b≠none->b=a)->(H a≠none->K.lookup a=none)->
   codeAny (Ki P w) callerA (.call (.ref fa) ⟨[.ref a],[]⟩) (λr s'=>r=.ok (.ret (.bool true))/\OldK s₁.heap s'.heap/\s'.os=s₁.os/\Kv s'.gens) s₁:=by
  intro H hO hS hok hA hK;have base_of: ∀ {b:Kb}{o:Ke},s₁.heap.get? b=some o->H b=none->(M1 s₁.heap H).get? b=some o:=λe n=>yx e n;have noA: ∀ {b:Kb}{o:Ke}{es:Array DictEntry}{ep:Nat},s₁.heap.get? b=some o->o.data=.dict es ep->H b=none:=λ{b o es ep} e d=>by
   cases q:H b with
   |none=>rfl
   |some u=>
    have e':b=a:=hA b (by rw[q];simp);subst e';rw[ha] at e;cases e;have d':Data.seq vs.toArray _=Data.dict es ep:=d;cases d'
  have nsK: ∀ {b:Kb}{m:Str->Option J6},s₁.heap.Ns b m->(M1 s₁.heap H).Ns b m:=λ{b m} ⟨o,es,ep,e,d,r⟩=>⟨o,es,ep,base_of e (noA e d),d,r⟩
  have hKb:K.In (M1 s₁.heap H):=λb o e=>base_of (KX b o e) (by
   cases q:H b with
   |none=>rfl
   |some u=>
    have e':b=a:=hA b (by rw[q];simp);subst e'
    rw[hK (by rw[q];simp)] at e;cases e)
  have hM:Mod K mg (M1 s₁.heap H):=⟨hKb,nsK hns,⟨mb,nsK hb,hbb⟩,let ⟨mc,h1,h2⟩:=hlim;⟨mc,nsK h1,h2⟩⟩
  have e0:Env0 P w K mg (M1 s₁.heap H) callerA [] s₁ H:=⟨rfl,hM,λb o e=>zY e,H9 (vp _ _),trivial,λb hb=>absurd (show b∈([]:List Kb) from hb) ⇑_,hok,.of_eq hg⟩
  refine KZ ((F _ hKb (nsK hns)).run callerA [] s₁ H ⟨[.ref a],[]⟩ [.ref a] [.ref a] _ _ hr e0 (hbind s₁ (.ref a)) (.cons rfl .nil) (hsp H hO hS)) λr s' h=>?_;cases r with
  |error e=>exact (hCX H e s' h).elim
  |ok fl=>
   cases fl with
   |next=>exact False.elim h
   |brk=>exact False.elim h
   |cont=>exact False.elim h
   |ret u=>
    obtain⟨v,H',os,bare,un,hok',r',q⟩:=h;have q':v=.bl true:=q;subst q';obtain rfl:u=J6.bool true:=r';refine⟨rfl,OldK.of_keep λb o e=>?_,os,bare⟩;cases q:H b with
    |none=>exact un.keep b o e q (by intro z;exact absurd (show b∈([]:List Kb) from z) ⇑_) ⇑_
    |some u=>
     rcases hO b with z|⟨ob,xs,z⟩
     ·rw[q] at z;cases z
     ·have z2:=un.frzs b ob _ z;obtain⟨e1,_⟩:=hok b _ z;obtain⟨e2,_⟩:=hok' b _ z2;rw[e] at e1;cases e1;exact e2
 cases hk:K.lookup a with
 |some o=>
  have e:=KX a o hk;rw[ha] at e;cases e;refine core (λ_=>none) (λ_=>.inl rfl) (.inr ⟨_,vs.toArray,_,hk,rfl,rfl,rfl,by rw[G4,lenV];exact hl,by simpa using rv⟩) (λb u z=>by have z':(none:Option HO)=some u:=z;cases z') (λb z=>absurd rfl z) λz=>absurd rfl z
 |none=>
  refine core (λb=>if b=a then some (.frz {cls:=.type "list",data:=.seq vs.toArray} (.lst (ns.map V.int))) else none) (λb=>?_) (.inl (.inr ⟨{cls:=.type "list",data:=.seq vs.toArray},if_pos rfl⟩)) (λb u z=>?_) (λb z=>?_) λ_=>hk
  ·by_cases hb:b=a
   ·exact .inr ⟨_,_,if_pos hb⟩
   ·exact .inl (if_neg hb)
  ·by_cases hb:b=a
   ·have z':=(if_pos hb).symm.trans z;cases z';subst hb;exact⟨ha,by rw[GN];exact hl,vs,_,rv,ha⟩
   ·have z':=(if_neg hb).symm.trans z;cases z'
  ·by_cases hb:b=a
   ·exact hb
   ·exact absurd (if_neg hb) z
section
theorem walk_of {l:PySem.W.OpenLaw}{n k:Nat}{q:J8}{loose:List Str}{XP:(Str->Option J6)->Ka->Prop}{YP:J9->Ka->Prop}{d:DefRec}{K:Params->Zf}{CX:J9->CXT}{sp:J9->Sp}{x:Str}
  (hn:l.most=some n)(hn2:n<=sizeLine)(hdf:d.params.defaults=[])(hr:Room k callerA)
  (hY: ∀ (w:J9) (h:Ka),YP w h->(K w.params).In h)
  (F:∀ (w:J9) (mg:Str->Option J6) (fa:Kb) (h:Ka),(K w.params).In h->h.Ns Ks mg->mg d.name=some (.ref fa)->
    ∃fd:KY,(∀ (s:Kd) (u:J6),BindsTo s fd ⟨[u],[]⟩ [(x,u)])/\
     ∀base:Ka,(K w.params).In base->base.Ns Ks mg->FnOk l.prog w (K w.params) mg base (CX w) k fa fd [x] (sp w))
  (hsp: ∀ (w:J9) (H:Hp) (a:Kb) (ns:List Int),ns.length<=n->LF H->SqL (K w.params) H a (ns.map V.int)->sp w [.ref a] H (λv _=>v=.bl true) λ_ _ _=>False)
  (hCX: ∀ (w:J9) (H:Hp) (s:Kd) (e:J6) (s':Kd),CX w [] H s (λ_ _ _=>False) e s'->False):
  PySem.W.WalkO q loose XP YP l.row.toRowW d [] (λf vs=>PySem.call f vs):=by
 refine Att.attach_call hn hdf λw s₀ s₁ mg mb fa o pm cd doc a vs ns G Y ho hd hcd hmg hobj hints hlen hg=>?_;have KX:=hY w _ Y;obtain⟨fd,hb,hF⟩:=F w mg fa _ KX G.T.g hmg;exact yc KX G.T.g G.T.b G.T.builtins G.T.nolimit hg hobj hints (Hf hlen hn2) hr hF hb (λH hO hS=>hsp w H a ns hlen hO hS) λH e s'=>hCX w H s₁ e s'
end
section
noncomputable def bG (s:KA)(j:Nat):KA:=match s with
 |.ClassDef _ _ _ body _ _ _ _ _ _ _=>body.getD j (.Pass ⟨0,0,0,0⟩)
 |_=>.Pass ⟨0,0,0,0⟩
noncomputable def de (s:KA):Arguments:=match s with
 |.FunctionDef _ a _ _ _ _ _ _ _ _=>a
 |_=>{posonlyargs:=[],args:=[],vararg:=none,kwonlyargs:=[],kw_defaults:=[],kwarg:=none,defaults:=[]}
noncomputable def bO (s:KA):List KA:=match s with
 |.FunctionDef _ _ b _ _ _ _ _ _ _=>b
 |_=>[]
noncomputable def af (s:KA):Ku:=match s with
 |.FunctionDef _ _ _ _ _ _ sc _ _ _=>sc
 |_=>{kind:=.function,names:=[],isGenerator:=false,isCoroutine:=false}
noncomputable abbrev CX0:CXT:=λ_ _ _ _ _ _=>False
noncomputable abbrev E0:XK:=λ_ _ _=>False
theorem OT :gI CX0 X E0:=λ_ _ _ _ _ _ _ h=>h.elim
structure Fun (K:Zf)(x qual:Str)(st:KA)(f:Kb)(fd:KY):Prop where
 ex: ∃ (oc:J6) (od:Option Kb) (kV doc pm:J6) (an:Option Kb) (cdv ct:J6) (osl:Array (Option J6)),
  fd=fnOf x qual (de st) (bO st) (af st) .none kV doc pm an cdv ct/\K.lookup f=some ⟨oc,od,.func fd,osl⟩/\codeIn K cdv qual=true
 kp:J4 K (.ref f)=true
section
variable {P:J8}{w:J9}{K:Zf}{mg:Str->Option J6}{base:Ka}
theorem Fun.ok {x qual:Str}{st:KA}{N ps:List Str}{k:Nat}(F:Fun K x qual st f fd)(S:Lz N ps (af st))(len: ∀vs H Q E,sp vs H Q E->vs.length=ps.length)
  (hbody: ∀ (cdv:J6) (A:Kf) (outer:List Env) (s:Kd) (H:Hp) (vs:List V) (Q:VK) (E:XK),Room k (A.deeper (K5 qual (af st) ↥s f cdv))->sp vs H Q E->
   ∃t,PSs (Mt CX0 P w K mg base N qual (af st) f cdv A outer s H E).nox (bO st) t/\t {nx:=λ_ H'=>Q .non H',rt:=Q} (Qz N vs) H):FnOk P w K mg base CX0 (k+1) f fd ps sp:=by
 obtain⟨oc,od,kV,doc,pm,an,cdv,ct,osl,rfl,lk,hcd⟩:=F.ex;refine BB lk hcd S len λA outer s H vs Q E hr hsp=>?_;obtain⟨t,h,q⟩:=hbody cdv A outer s H vs Q E hr hsp;exact⟨t,h.nox,q⟩
theorem Fun.binds {x qual:Str}{st:KA}{ps:List Str}(F:Fun K x qual st f fd)
  (h:∀ (kV doc pm:J6) (an:Option Kb) (cdv ct:J6) (us:List J6),us.length=ps.length->bindArgs (fnOf x qual (de st) (bO st) (af st) .none kV doc pm an cdv ct) ⟨us,[]⟩=pure (ps.zip us)):Binds K fd ps []:=by
 obtain⟨oc,od,kV,doc,pm,an,cdv,ct,osl,rfl,lk,hcd⟩:=F.ex;exact .all (h kV doc pm an cdv ct)
theorem yD {x qual:Str}{st:KA}{kV doc pm cdv ct:J6}(l:K.lookup f=some ⟨oc,od,.func (fnOf x qual (de st) (bO st) (af st) .none kV doc pm an cdv ct),osl⟩)
 (c:codeIn K cdv qual=true)(k:J4 K (.ref f)=true):Fun K x qual st f (fnOf x qual (de st) (bO st) (af st) .none kV doc pm an cdv ct):=⟨⟨oc,od,kV,doc,pm,an,cdv,ct,osl,rfl,l,c⟩,k⟩
end
theorem BA {k:Nat}(hr:Room k A):A.units+1<Kg:=Hs (Jx (by decide:1<=64) _) hr.units
theorem jW {n:Nat}(h:n<=1000):n<sizeLine:=Hs h ↥_
section
variable {X:Cx}
theorem pv (i:Nat){x:Str}(hN:X.N[i]?=some x:=by rfl)(hv:Vis X.env.scope x:=by trace_state)(hd:(x==("__debug__":Str))=false:=by decide)
 (hcd:(x==("__classdict__":Str))=false:=by decide):PE X (.Name x pos) (QL i):=Cn hN hv hd hcd
end
theorem Nn {A B:Prop}(h:B):if false=true then A else B:=by
 rw[if_neg G5];exact h
theorem No {A B:Prop}(h:A):if true=true then A else B:=by
 rw[if_pos rfl];exact h
theorem Nm {c A B:Prop} [Decidable c] (h1:c->A)(h2: ¬c->B):if c then A else B:=by
 by_cases h:c
 ·rw[if_pos h];exact h1 h
 ·rw[if_neg h];exact h2 h
noncomputable def Same (H H':Hp):Prop:= ∀b o,H b=some o->H' b=some o
theorem Same.refl (H:Hp):Same H H:=λ_ _ h=>h
end
section
theorem lZ {α β:Type}{f:α->β->Sem (ForInStep β)}(g:α->β->β): ∀ (l:List α) (c:β),(∀x∈l,∀c,f x c=pure (.yield (g x c)))->forIn l c f=pure (l.foldl (λc x=>g x c) c)
 |[],_,_=>rfl
 |x::l,c,h=>by
  rw[IC,h x GY,pure_bind];exact lZ g l (g x c) λy hy=>h y (G9 _ hy)
noncomputable def cW (env:Env)(p:Str×K3)(cs:List (Str×Kb)):List (Str×Kb):=if (p.2==K3.free)=true then (p.1,(env.cells.lookup p.1).getD 0)::cs else cs
noncomputable def Mm (scope:Ku)(env:Env):List (Str×Kb):=scope.names.foldl (λc x=>cW env x c) []
theorem sw (h:∀p∈scope.names,p.2=.free-> ∃c,env.cells.lookup p.1=some c):closureFor scope env=pure (Mm scope env):=by
 unfold Mm;simp only[closureFor];rw[lZ (cW env)]
 ·rfl
 ·intro x hx c;obtain⟨n,k⟩:=x;by_cases hk:k=.free
  ·subst hk;obtain⟨a,ha⟩:=h _ hx rfl;have ha:env.cells.lookup n=some a:=ha;simp [cW,cellOf,ha]
  ·have:(k==K3.free)=false:=by simpa using hk
   simp [cW,this]
theorem l9 (env:Env): ∀ (l:List (Str×K3)) (c:List (Str×Kb)),(∀p∈l,p.2=.free-> ∃a,env.cells.lookup p.1=some a)->
  (∀y a,c.lookup y=some a->env.cells.lookup y=some a)-> ∀y a,(l.foldl (λc x=>cW env x c) c).lookup y=some a->env.cells.lookup y=some a
 |[],_,_,h,y,a,e=>h y a e
 |(n,k)::r,c,hf,h,y,a,e=>by
  refine l9 env r (cW env (n,k) c) (λp hp=>hf p (G9 _ hp)) (λz b q=>?_) y a e;unfold cW at q;split at q
  ·rename_i hk;obtain⟨d,hd⟩:=hf (n,k) GY (by simpa using hk);have hd:env.cells.lookup n=some d:=hd;rw[HC] at q;split at q
   ·rename_i hz;have:z=n:=by simpa using hz
    subst this;rw[hd] at q ⊢;simpa using q
   ·exact h z b q
  ·exact h z b q
theorem qB (env:Env): ∀ (l:List (Str×K3)) (c:List (Str×Kb)) (y:Str),(∃a,c.lookup y=some a)-> ∃a,(l.foldl (λc x=>cW env x c) c).lookup y=some a
 |[],_,_,h=>h
 |(n,k)::r,c,y,h=>by
  refine qB env r _ y ?_;show∃a,(cW env (n,k) c).lookup y=some a;unfold cW;split
  ·rw[HC];split
   ·exact⟨_,rfl⟩
   ·exact h
  ·exact h
theorem uk (env:Env): ∀ (l:List (Str×K3)) (c:List (Str×Kb)) (y:Str),(y,K3.free)∈l-> ∃a,(l.foldl (λc x=>cW env x c) c).lookup y=some a
 |(n,k)::r,c,y,h=>by
  rcases GR.mp h with e|h
  ·obtain⟨rfl,rfl⟩:=Prod.mk.inj e;refine qB env r _ y ⟨(env.cells.lookup y).getD 0,?_⟩;show (cW env (y,.free) c).lookup y=_;unfold cW;rw[if_pos (by rfl),HC];simp
  ·exact uk env r _ y h
structure CScope (X:Cx)(ls:List Str)(scope:Ku):Prop where
 kind:scope.kind=.function
 nocell: ∀y∈scope.names,y.2≠.cell
 names: ∀y∈scope.names,y.2=.local ->scope.names.lookup y.1=some .local
 loc: ∀y,scope.names.lookup y=some .local ->y∈ls
 free: ∀y∈scope.names,y.2=.free->X.env.kindOf y.1=some .cell\/X.env.kindOf y.1=some .free
 noq: ∀y∈ls,∀k,scope.names.lookup ⟨#[63]++y.cps⟩≠some k
noncomputable def hid (ls:List Str)(y:Str):Str:=if ls.contains y then⟨#[63]++y.cps⟩ else y
noncomputable def cxC (X:Cx)(ls:List Str)(scope:Ku)(C:Kb)(s2:Kd)(H2:Hp)(fp:List Kb):Cx where
 prog:=X.prog
 w:=X.w
 K:=X.K
 mg:=X.mg
 base:=X.base
 A:=X.A
 N:=ls++X.N.map (hid ls)
 s₀:=s2
 H₀:=H2
 env:=compEnvC scope (Mm scope X.env) C X.env
 outer:=X.stack
 stack:=X.stack
 ex:=fp
 calm:=X.calm
 fn:=λ_=>false
 pn:=[]
 xe:=λ_ _=>False
theorem cI {env:Env}{y:Str}: ∀ {names:List (Str×K3)}{k:K3},(names.map λ(n,k)=>if (k==K3.free && env.scope.kind==.function && env.kindOf n==some .cell) then (n,K3.cell) else (n,k)).lookup y=some k->
  names.lookup y=some k\/(names.lookup y=some .free/\k=.cell)
 |[],_,h=>by simp at h
 |(n,j)::r,k,h=>by
  have ih:= @cI env y r k
  replace h:HJ y ((if (j==K3.free && env.scope.kind==.function && env.kindOf n==some .cell)=true then (n,K3.cell) else (n,j))::(r.map λ(n,k)=>if (k==K3.free && env.scope.kind==.function && env.kindOf n==some .cell) then (n,K3.cell) else (n,k)))=some k:=h
  by_cases hc:(j==K3.free && env.scope.kind==.function && env.kindOf n==some .cell)=true
  ·rw[if_pos hc,HC] at h;rw[HC];cases hx:y==n with
   |true=>
    rw[hx] at h;simp only[Ho] at hc;have hj:j=.free:=by simpa using hc.1.1
    subst hj;have h:some K3.cell=some k:=h;cases h;exact .inr ⟨rfl,rfl⟩
   |false=>
    rw[hx] at h;exact ih h
  ·rw[if_neg hc,HC] at h;rw[HC];cases hx:y==n with
   |true=>rw[hx] at h;exact .inl h
   |false=>rw[hx] at h;exact ih h
noncomputable def M2 (N ls:List Str)(σ:St):Bool:=true
theorem vk {ls:List Str}{m:Str->Option J6}{tk:Nat}
  (I:Inv X pins σ H2 s2)(S:CScope X ls scope)(hh:M2 X.N ls σ=true)(f2: ∀b∈fp,LC X pins H2 b)(ho: ∀b∈fp,∃o,s2.heap.get? b=some o)(hC:↥s2<=C)(hn:h1.Ns C m)
  (old: ∀b o,s2.heap.get? b=some o->h1.get? b=some o):
  Inv (cxC X ls scope C s2 H2 fp) [] (List.replicate ls.length none++σ) H2 {s2 with heap:=h1,toks:=tk}:=by
 have cf: ∀p∈scope.names,p.2=.free-> ∃c,X.env.cells.lookup p.1=some c:=λp hp e=>I.ok.has _ (S.free p hp e);have c1: ∀y a,(Mm scope X.env).lookup y=some a->X.env.cells.lookup y=some a:=l9 X.env scope.names [] cf (λy a e=>by simp at e);have c2: ∀y,scope.names.lookup y=some .free-> ∃a,(Mm scope X.env).lookup y=some a:=λy hy=>uk X.env scope.names [] y (PySem.mem_of_lookup hy);have lt2: ∀b∈fp,b<↥s2:=λb hb=>let ⟨o,e⟩:=ho b hb;GU e;have kinds: ∀y k,(Ld scope X.env).names.lookup y=some k->k=.cell\/k=.free->scope.names.lookup y=some .free:=λy k h hk=>by
  rcases cI (env:=X.env) h with q|⟨q,_⟩
  ·rcases hk with rfl|rfl
   ·exact absurd rfl (S.nocell _ (PySem.mem_of_lookup q))
   ·exact q
  ·exact q
 refine⟨⟨I.ok.mod,S.kind,I.ok.glob,I.ok.blt,hC,λx y c e1 e2=>I.ok.inj x y c (c1 x c e1) (c1 y c e2),λx hx=>?_,λx c h=>absurd h G5,I.ok.hd,I.ok.frames,.inl rfl,λb hb=>⟨?_,λx c e=>(f2 b hb).2.2.2.2.1 x c (c1 x c e)⟩,I.bs,Hf I.ok.bsz I.sz,λb o e hb=>?_,λb hb hz=>?_,I.stack,I.stkFree⟩,
  rfl,I.bare,Un.kept old,⟨m,hn,λi y v e1 e2 e3=>?_⟩,λx c e=>?_,I.hok.fresh hC,λx c e=>I.freeC x c (c1 x c e),λp hp=>absurd (show p∈([]:List (Kb×Ke)) from hp) ⇑_,I.hok.kept old,?_⟩
 ·have hx:(Ld scope X.env).names.lookup x=some .cell\/(Ld scope X.env).names.lookup x=some .free:=hx;rcases hx with hx|hx
  ·exact c2 x (kinds x _ hx (.inl rfl))
  ·exact c2 x (kinds x _ hx (.inr rfl))
 ·exact G7 (Ha (lt2 b hb) hC)
 ·rcases (f2 b hb).2.2.2.1 with z|z
  ·exact I.ok.noex b o e z
  ·exact absurd (Ha (GU e) (Hf I.ok.bsz z)) (HI _)
 ·rcases GR.mp (I.stkSub b hz) with z|z
  ·exact (f2 b hb).2.1 z
  ·exact (f2 b hb).2.2.1 z
 ·have e1:(ls++X.N.map (hid ls))[i]?=some y:=e1;by_cases hi:i<ls.length
  ·rw[Hg (by simpa using hi),IR] at e2;rw[if_pos hi] at e2;cases e2
  ·rw[HG ∅] at e1;rw[HG (by simpa using hi),HS] at e2;rw[GW] at e1;obtain⟨y0,e1',ey⟩:=Hd.mp e1;have e3:(Ld scope X.env).names.lookup y=some .local \/(Ld scope X.env).names.lookup y=some .cell\/(Ld scope X.env).names.lookup y=some .free:=e3;have ny:y0 ∉ ls:=λhm=>by
    unfold hid at ey;rw[if_pos (by simpa using hm)] at ey;subst ey;have no: ∀k,(Ld scope X.env).names.lookup ⟨#[63]++y0.cps⟩=some k->False:=λk q=>by
     rcases cI (env:=X.env) q with z|⟨z,_⟩
     ·exact S.noq y0 hm _ z
     ·exact S.noq y0 hm _ z
    rcases e3 with q|q|q<;>exact no _ q
   unfold hid at ey;rw[if_neg (by simpa using ny)] at ey;rw[ey] at e1' ny;have e1:=e1';have fr:scope.names.lookup y=some .free:=by
    rcases e3 with q|q|q
    ·rcases cI (env:=X.env) q with z|⟨_,z⟩
     ·exact absurd (S.loc y z) ny
     ·cases z
    ·exact kinds y _ q (.inl rfl)
    ·exact kinds y _ q (.inr rfl)
   have kx:=S.free _ (PySem.mem_of_lookup fr) rfl;obtain⟨m2,_,hl⟩:=I.loc;obtain⟨u,r,l⟩:=hl _ y v e1 e2 (.inr kx);refine⟨u,r,?_⟩;have knd:(Ld scope X.env).names.lookup y=some .cell\/(Ld scope X.env).names.lookup y=some .free:=by
    rcases e3 with q|q
    ·rcases cI (env:=X.env) q with z|⟨_,z⟩
     ·exact absurd (S.loc y z) ny
     ·cases z
    ·exact q
   rcases l with⟨k1,_⟩|⟨_,c,hc,hcell⟩
   ·have kx:X.env.kindOf y=some .cell\/X.env.kindOf y=some .free:=kx;rcases kx with z|z<;>(rw[k1] at z;cases z)
   ·obtain⟨c',hc'⟩:=c2 y fr;have:=c1 y c' hc';rw[hc] at this;cases this;refine .inr ⟨knd,c,hc',?_⟩;obtain⟨o,ho,hd⟩:=hcell;exact⟨o,old _ _ ho,hd⟩
 ·obtain⟨v,o,ho,hd⟩:=I.cell x c (c1 x c e);exact⟨v,o,old _ _ ho,hd⟩
 ·show (List.replicate ls.length none++σ).length=(ls++X.N.map (hid ls)).length;rw[GQ,GQ,HS,GN,I.len]
theorem yq {ls:List Str}{n:Nat}
  (I:Inv X pins σ H2 s2)(f2: ∀b∈fp,LC X pins H2 b)(J:Inv (cxC X ls scope C s2 H2 fp) pl σ' H3 s')(hD:↥s2<=D)(hC:↥s2<=C)(hDC:D≠C)
  (sb:Hy C s'.heap h')(hD3:H3 D=none)(e:s'.heap.get? D=some {cls:=.type "list",data:=.seq its.toArray n})(r:Vals ys its)(z:ys.length<=sizeLine):Inv X pins σ (upd H3 D (.lst ys)) {s' with heap:=h'}:=by
 have ext: ∀b o,b≠C->s'.heap.get? b=some o->h'.get? b=some o:=λb o hb e=>sb.extBut b o hb e;have neD: ∀b,b<↥s2->b≠D:=λb hb=>G7 (Ha hb hD);have neC: ∀b,b<↥s2->b≠C:=λb hb=>G7 (Ha hb hC);have lt: ∀b u,H2 b=some u->b<↥s2:=λb u q=>by
  apply Classical.byContradiction;intro hb;have:=I.hok.fresh (Nat.le_of_not_lt hb);rw[this] at q;cases q
 have fC:H3 C=none:=J.free;refine I.call' (s':={s' with heap:=h'}) (ch:=fp) J.os ⟨λb o q n hb hx=>?_,λb o q n hb hx=>?_,λb o q n hx=>?_,λb o q hx=>?_,λb xs q=>?_,λb o u q=>?_,λb ps q=>?_⟩ (λb u q=>?_) J.bare λb hb=>?_
 ·exact ext b o (neC b (GU q)) (J.base.keep b o q n hb hx)
 ·obtain⟨sl,w⟩:=J.base.slot b o q n hb hx;exact⟨sl,ext b _ (neC b (GU q)) w⟩
 ·rw[ai (neD b (GU q))];exact J.base.free b o q n hx
 ·obtain⟨o',w⟩:=J.base.there b o q hx;exact⟨o',ext b _ (neC b (GU q)) w⟩
 ·rw[ai (neD b (lt b _ q))];exact J.base.tups b xs q
 ·rw[ai (neD b (lt b _ q))];exact J.base.frzs b o u q
 ·rw[ai (neD b (lt b _ q))];exact J.base.tbls b ps q
 ·by_cases hb:b=D
  ·subst hb;rw[ay] at q;cases q;exact⟨z,its,n,r,ext _ _ hDC e⟩
  ·rw[ai hb] at q;have ne1:b≠C:=λw=>by rw[w,fC] at q;cases q
   have ow: ∀c u,H3 c=some u->c≠D:=λc u w z=>by rw[z,hD3] at w;cases w
   have oc: ∀c u,H3 c=some u->c≠C:=λc u w z=>by rw[z,fC] at w;cases w
   refine (J.hok b u q).stay (λc v hc w=>ext c v ?_ w) (λc w=>by rw[ai (ow c _ w)];exact w) λc xs w=>by rw[ai (ow c _ w)];exact w
   rcases hc with rfl|hc
   ·exact ne1
   ·exact oc c _ hc
 ·obtain⟨a1,a2,a3,a4,a5,a6⟩:=f2 b hb;exact⟨a4,a2,a5,a6⟩
noncomputable def LH (X:Cx)(ifs:List Expr)(t:TT):Prop:=
 ∀ (pins:List (Kb×Ke)) (s:Kd) (σ:St) (H:Hp) (Q:Bool->Hp->Prop),Inv X pins σ H s->t σ H Q->
   Kh (Ki X.prog X.w) X.A (forIn ifs true λc r=>if r=true then do let ok<-isTrue c X.env (Kw c X.env);pure (ForInStep.yield ok) else pure (ForInStep.yield r)) (TP X pins σ Q) X.xe s
noncomputable def QM:TT:=λ_ H Q=>Q true H
theorem n6 :LH X [] QM:=λ_ _ _ H _ I h=>wpAny_tests_nil ⟨H,I,h⟩
noncomputable def Lp (J:It)(ls:List Str)(g:TG)(tt:TT)(te:TE)(σ:St)(H1:Hp)(Q:VK):Prop:= ∃W:Nat->Nat->List V->Hp->Prop,(∃m,W 0 m [] H1)/\ ∀i m ys H,W i m ys H->
 (J.stop i H/\ ∀D,H D=none->Q (.ref D) (upd H D (.lst ys)))\/
 (J.go i H/\ ∃R:List V->Hp->Prop,(∀ys' H',R ys' H'-> ∃m',m'<m/\W (i+1) m' ys' H')/\ ∀y H',J.yld i H y H'->
  g y (List.replicate ls.length none++σ) H' λσ2 H2=>σ2.drop ls.length=σ/\σ2.length=ls.length+σ.length/\tt σ2 H2 λb H3=>if b=true then te σ2 H3 λv H4=>ys.length<sizeLine/\R (ys++[v]) H4 else R ys H3)
noncomputable def QF (N ls:List Str)(wi:TI)(g:TG)(tt:TT)(te:TE):TE:=λσ H Q=>M2 N ls σ=true/\wi σ H λJ H1=>Lp J ls g tt te σ H1 Q
theorem iu {w:J9}{R:Result->Kd->Prop}(I:Nat->Kd->Prop)
  (turn: ∀n s,I n s->Kh (Ki prog w) A (KL it) (λr s₁=>match r with
   |none=>R (.ok .next) s₁
   |some v=>Kh (Ki prog w) A (KM target it v) (λ_ s₁=>Kh (Ki prog w) A (assign target env v) (λ_ s₂=>
    Kh (Ki prog w) A (forIn ifs true λc r=>if r=true then do let ok<-isTrue c env (Kw c env);pure (ForInStep.yield ok) else pure (ForInStep.yield r)) (λok s₃=>
     if ok=true then Kh (Ki prog w) A (Kw elt env) (λx s₄=>
      Kh (Ki prog w) A (call (.builtin "list.append") [acc,x]) (λ_ s₅=> ∃m,m<n/\I m s₅) (notedBy (Ki prog w) A env λe s'=>R (.error e) s') s₄) (notedBy (Ki prog w) A env λe s'=>R (.error e) s') s₃
     else∃m,m<n/\I m s₃) (notedBy (Ki prog w) A env λe s'=>R (.error e) s') s₂) (notedBy (Ki prog w) A env λe s'=>R (.error e) s') s₁) (notedBy (Ki prog w) A env λe s'=>R (.error e) s') s₁) (notedBy (Ki prog w) A env λe s'=>R (.error e) s') s)
  (n:Nat)(h:I n s):
  codeAny (Ki prog w) A (.compLoop (.ListComp elt [⟨target,iter,ifs,0⟩] scope pos) 0 it acc env) R s:=by
 refine codeAny_loop rfl I (λn s hI=>?_) n h;show Kh _ A ((compTurn (.ListComp elt [⟨target,iter,ifs,0⟩] scope pos) 0 it acc env).onRaise (λx=>do noteFrame x env;theTreesLotGoes x)) _ _ s;refine wpAny_noted ?_;rw[compTurn_list];refine Kj (wpAny_standAt (Kj (KB (turn n s hI) (λr s₁ h₁=>?_) λ_ _ h'=>h')));cases r with
 |none=>exact Kl h₁
 |some v=>
  refine Kj (KB h₁ (λ_ s₁ h₁=>?_) λ_ _ h'=>h');refine Kj (KB h₁ (λ_ s₂ h₂=>Kj (KB h₂ (λok s₃ h₃=>?_) λ_ _ h'=>h')) λ_ _ h'=>h');cases ok with
  |false=>exact Kl ⟨rfl,h₃⟩
  |true=>
   exact Kj (Kj (KB h₃ (λx s₄ h₄=>Kj (KB h₄ (λ_ s₅ h₅=>Kl (Kl ⟨rfl,h₅⟩)) λ_ _ h'=>h')) λ_ _ h'=>h'))
theorem thx {α:Type}{t:Sem α}{Q Q':α->Kd->Prop}{M:Model}{E:J6->Kd->Prop}(h:Kh M A t Q (λ_ _=>False) s)(hQ: ∀a s,Q a s->Q' a s):Kh M A t Q' E s:=KB h hQ λ_ _ x=>x.elim
section
variable {X:Cx}{elt iter tg:Expr}{ifs:List Expr}{scope:Ku}{pos:Kx}{ls:List Str}{wi:TI}{g:TG}{tt:TT}{te:TE}
theorem vG {use:Option (J6->Sem Unit)}{QQ:J6->Kd->Prop}(hcalm:X.calm=true)(S:CScope X ls scope)(hi:PI X tg iter wi)
  (hg: ∀C s2 H2 fp,PG (cxC X ls scope C s2 H2 fp) tg g)(ht: ∀C s2 H2 fp,LH (cxC X ls scope C s2 H2 fp) ifs tt)(he: ∀C s2 H2 fp,PE (cxC X ls scope C s2 H2 fp) elt te)
  (hs: ∀x,KP iter X.env x=pure x)(I:Inv X pins σ H s)(h:QF X.N ls wi g tt te σ H Q)
  (hQQ: ∀ (D C:Kb) (s':Kd) (H':Hp),(∃m,s'.heap.Ns C m)->LC X pins H' C->(∀h',Hy C s'.heap h'->Inv X pins σ H' {s' with heap:=h'})->Q (.ref D) H'->compPost (Ki X.prog X.w) X.A X.xe use QQ (.ref D) C (.ok .next) s'):
  Kh (Ki X.prog X.w) X.A (comprehension (.ListComp elt [⟨tg,iter,ifs,0⟩] scope pos) scope X.env pos' (newList []) false (Kw iter X.env) use) QQ X.xe s:=by
 obtain⟨hh,h⟩:=h;have cf: ∀p∈scope.names,p.2=.free-> ∃c,X.env.cells.lookup p.1=some c:=λp hp e=>I.ok.has _ (S.free p hp e);refine wpAny_comprehension_free (use:=use) rfl hs (sw cf) S.kind S.names (thn (hi pins s σ H _ I h) λv s1 h1=>thn h1 λitv s2 h2=>?_);obtain⟨it,fp,tn,J,H2,rfl,I2,T,st2,f2,W,⟨m0,w0⟩,turn⟩:=h2;refine K7 (wpAny_newFunctionEnv S.nocell (by intro y hy;simp at hy) (λh₁ hns₁ hsb₁=>?_) S.kind);dsimp only at hns₁ hsb₁ ⊢;generalize hH2:s2.heap.push {cls:=.type "list",dict:=none,data:=.seq ([]:List J6).toArray}=G2 at hns₁ hsb₁ ⊢;have hC:G2.objs.size=↥s2+1:=by rw[<-hH2,Hz]
 have hDC:↥s2≠G2.objs.size:=by rw[hC];exact G7 (Iy _)
 have hCle:↥s2<=G2.objs.size:=by rw[hC];exact HK _
 have old: ∀b o,s2.heap.get? b=some o->h₁.get? b=some o:=λb o e=>hsb₁.extBut b o (G7 (Ha (GU e) hCle)) (GZ _ (hH2▸GZ _ e));have hacc:h₁.get? ↥s2=some {cls:=.type "list",data:=.seq ([]:List J6).toArray}:=hsb₁.extBut _ _ hDC (GZ _ (hH2▸He _ rfl));have hobj: ∀b∈fp,∃o,s2.heap.get? b=some o:=λb hb=>let ⟨o,e,_⟩:=T.obj 0 _ st2 b hb;⟨o,e⟩;have ltf: ∀b∈fp,b<↥s2:=λb hb=>let ⟨o,e⟩:=hobj b hb;GU e;have nofD:↥s2 ∉ (cxC X ls scope G2.objs.size s2 H2 fp).fs:=λz=>by
  rcases GR.mp (I2.stkSub _ z) with z|z
  ·exact absurd I2.lt (by rw[<-z];exact HI _)
  ·exact I2.nofs (GO _) z
 have st1:tn 0 h₁:=T.keep 0 _ _ st2 λb _ o e=>old b o e;have J0: ∀tk,Inv (cxC X ls scope G2.objs.size s2 H2 fp) [] (List.replicate ls.length none++σ) H2 {s2 with heap:=h₁,toks:=tk}:=λtk=>vk I2 S hh f2 hobj hCle hns₁ old;have fpY: ∀ (Hx:Hp) (pl:List (Kb×Ke)),(∀b∈fp,Hx b=none)->(∀p∈pl,↥s2<=p.1)-> ∀b∈fp,LC (cxC X ls scope G2.objs.size s2 H2 fp) pl Hx b:=λHx pl hx hp b hb=>
  ⟨hx b hb,((J0 0).ok.exf b hb).1,(J0 0).ok.exfs b hb,.inl hb,((J0 0).ok.exf b hb).2,λp hpp=>by
   have hpp:p∈pl:=by simpa [cxC] using hpp
   exact Ix (Ha (ltf b hb) (hp p hpp))⟩
 have loop: ∀s₃:Kd,s₃={s2 with heap:=h₁,toks:=s2.toks+([]:List (Str×J6)).length}->
   codeAny (Ki X.prog X.w) X.A (.compLoop (.ListComp elt [⟨tg,iter,ifs,0⟩] scope pos) 0 (.ref it) (.ref ↥s2) (compEnvC scope (Mm scope X.env) G2.objs.size X.env))
    (compPost (Ki X.prog X.w) X.A X.xe use QQ (.ref ↥s2) G2.objs.size) s₃:=by
  rintro s₃ rfl
  refine iu (λn s'=> ∃ (i:Nat) (ys:List V) (its:List J6) (k:Nat) (H':Hp),Inv (cxC X ls scope G2.objs.size s2 H2 fp) [] (List.replicate ls.length none++σ) H' s'/\tn i s'.heap/\(∀b∈fp,H' b=none)/\H' ↥s2=none/\
   s'.heap.get? ↥s2=some {cls:=.type "list",data:=.seq its.toArray k}/\Vals ys its/\ys.length<=sizeLine/\W i n ys H') ?_ m0
   ⟨0,[],[],0,H2,J0 _,st1,λb hb=>(f2 b hb).1,I2.hok.fresh (GO _),hacc,.nil,G8 _,w0⟩
  rintro n s3 ⟨i,ys,its,k,H3,I3,st3,fr3,d3,e3,r3,z3,w3⟩
  have big: ∀p∈[((↥s2:Kb),({cls:=.type "list",data:=.seq its.toArray k}:Ke))],↥s2<=p.1:=λp hp=>by
   have this:=Hh.mp hp;subst this;exact GO _
  rcases turn i n ys H3 w3 with⟨stop,qn⟩|⟨go,R,hR,step⟩
  ·
   have P3:Inv (cxC X ls scope G2.objs.size s2 H2 fp) [(↥s2,{cls:=.type "list",data:=.seq its.toArray k})] (List.replicate ls.length none++σ) H3 s3:=I3.pins_of λp hp=>by
    have this:=Hh.mp hp;subst this;exact⟨e3,d3,hDC,nofD,λv z=>by cases z⟩
   refine thx (T.done (cxC X ls scope G2.objs.size s2 H2 fp) rfl rfl rfl hcalm i _ s3 _ H3 (λ_ _=>False) P3 (fpY H3 _ fr3 big) st3 stop) λr s4 qz=>?_;obtain⟨hr,I4⟩:=qz;subst hr;obtain⟨m,hm,_⟩:=I4.loc;have e4:=(I4.pin _ (Hu _ (Hh.mpr rfl))).1;exact hQQ _ _ s4 _ ⟨m,hm⟩ (I2.fpOk hCle (by rw[ai (Ne.symm hDC)];exact I4.free)) (λh' sb=>yq I2 f2 I4 (GO _) hCle hDC sb d3 e4 r3 z3) (qn _ d3)
  ·
   have P3:Inv (cxC X ls scope G2.objs.size s2 H2 fp) [(↥s2,{cls:=.type "list",data:=.seq its.toArray k})] (List.replicate ls.length none++σ) H3 s3:=I3.pins_of λp hp=>by
    have this:=Hh.mp hp;subst this;exact⟨e3,d3,hDC,nofD,λv z=>by cases z⟩
   refine thx (T.item (cxC X ls scope G2.objs.size s2 H2 fp) rfl rfl rfl hcalm i _ s3 _ H3 (λ_ _=>False) P3 (fpY H3 _ fr3 big) st3 go) λr s4 qz=>?_;obtain⟨u,hr,h4⟩:=qz;subst hr;refine thx h4 λ_ s5 qz=>?_;obtain⟨x,H5,I5,r5,y5,st5,fr5⟩:=qz;have I5':=I5.pinned (fpY H5 _ fr5 big) (T.obj _ _ st5);refine thx (hg _ _ _ _ _ s5 _ H5 x u _ I5' r5 (step x H5 y5)) λ_ s6 qz=>?_;obtain⟨σ6,H6,I6,q6⟩:=qz;obtain⟨dr,ln,q6⟩:=q6;have back: ∀ {s7:Kd}{H7:Hp},Inv (cxC X ls scope G2.objs.size s2 H2 fp) ([((↥s2:Kb),({cls:=.type "list",data:=.seq its.toArray k}:Ke))]++lA fp s5.heap) σ6 H7 s7->
     Inv (cxC X ls scope G2.objs.size s2 H2 fp) [] (List.replicate ls.length none++σ) H7 s7/\tn (i+1) s7.heap/\(∀b∈fp,H7 b=none)/\H7 ↥s2=none/\s7.heap.get? ↥s2=some {cls:=.type "list",data:=.seq its.toArray k}:=λ{s7 H7} I7=>by
    have pD:=I7.pin _ (Hu _ (Im _ (Hh.mpr rfl)));have pF: ∀b∈fp,∀o,s5.heap.get? b=some o->s7.heap.get? b=some o/\H7 b=none:=λb hb o e=>by
     have q:=I7.pin (b,o) (Hu _ (Hu _ (jc hb e)));exact⟨q.1,q.2.1⟩
    refine⟨(I7.pins_of (pins':=[]) λp hp=>absurd hp ⇑_).weak ?_ ?_,T.keep _ _ _ st5 λb hb o e=>(pF b hb o e).1,λb hb=>?_,pD.2.1,pD.1⟩
    ·rw[ln,GQ,HS]
    ·intro j v ej;by_cases hj:j<ls.length
     ·rw[Hg (by simpa using hj),IR,if_pos hj] at ej;cases ej
     ·rw[HG (by simpa using hj),HS,<-dr,IZ] at ej;rw[<-ej];congr 1;omega
    ·obtain⟨o,e,_⟩:=T.obj _ _ st5 b hb;exact (pF b hb o e).2
   refine thx (ht _ _ _ _ _ s6 σ6 H6 _ I6 q6) λb s7 qz=>?_;obtain⟨H7,I7,q7⟩:=qz;cases b with
   |false=>
    rw[if_neg G5] at q7 ⊢;obtain⟨m',hm,w7⟩:=hR _ _ q7;obtain⟨a1,a2,a3,a4,a5⟩:=back I7;exact⟨m',hm,i+1,ys,its,k,H7,a1,a2,a3,a4,a5,r3,z3,w7⟩
   |true=>
    rw[if_pos rfl] at q7 ⊢;refine thx (he _ _ _ _ _ s7 σ6 H7 _ I7 q7) λy s8 qz=>?_;obtain⟨v,H8,I8,r8,z8,q8⟩:=qz;obtain⟨m',hm,w8⟩:=hR _ _ q8;obtain⟨a1,a2,a3,a4,a5⟩:=back I8;have pl:s8.heap.PlainList ↥s2 its.toArray:=⟨k,a5⟩
    refine wpAny_list_append_plain (hsz:=by rw[G4,<-r3.length];exact z3) pl λh9 hl9 hs9=>?_;obtain⟨k9,e9⟩:=hl9;have cellN: ∀ (y:Str) (c:Kb),(cxC X ls scope G2.objs.size s2 H2 fp).env.cells.lookup y=some c->c≠↥s2:=λy c e=>by
     have e1:X.env.cells.lookup y=some c:=l9 X.env scope.names [] cf (λy a e=>by simp at e) y c e;obtain⟨v,o,ho,_⟩:=I2.cell y c e1;exact G7 (GU ho)
    have I9:Inv (cxC X ls scope G2.objs.size s2 H2 fp) [] (List.replicate ls.length none++σ) H8 {s8 with heap:=h9}:=
     a1.turned (t':=s8.toks) (λb o hb e=>hs9.extBut b o hb e) a4 hDC (.inr (GO _)) cellN (λp hp=>absurd (show p∈([]:List (Kb×Ke)) from hp) ⇑_)
    refine⟨m',hm,i+1,ys++[v],its++[y],k9,H8,I9,T.keep _ _ _ a2 λb hb o e=>hs9.extBut b o (G7 (ltf b hb)) e,a3,a4,?_,r3.append (.cons r8 .nil),?_,w8⟩
    ·simpa using e9
    ·rw[GQ,Hq];exact z8
 exact codeAny_compStart_list (loop _ rfl) (T.self _ 0 _ _ _ st1 (loop _ rfl))
theorem n9 (hcalm:X.calm=true)(S:CScope X ls scope)(hi:PI X tg iter wi)
  (hg: ∀C s2 H2 fp,PG (cxC X ls scope C s2 H2 fp) tg g)(ht: ∀C s2 H2 fp,LH (cxC X ls scope C s2 H2 fp) ifs tt)(he: ∀C s2 H2 fp,PE (cxC X ls scope C s2 H2 fp) elt te)
  (hs: ∀x,KP iter X.env x=pure x:=by intro _;rfl):PE X (.ListComp elt [⟨tg,iter,ifs,0⟩] scope pos) (QF X.N ls wi g tt te):=by
 intro pins s σ H Q I h;rw[eval_ListComp];refine vG (use:=none) hcalm S hi hg ht he hs I h λD C s' H' hm _ hI q=>?_;obtain⟨m,hm⟩:=hm;exact⟨m,hm,λh' sb=>⟨.ref D,H',hI h' sb,rfl,q⟩⟩
end
end
section
noncomputable def ui (ls:List Str)(sc outer:Ku):Bool:=(sc.kind==.function && ls.all λy=>(sc.names.lookup ⟨#[63]++y.cps⟩).isNone) && sc.names.all λy=>(y.2 !=.cell) && (y.2 !=.local ||(sc.names.lookup y.1==some .local && ls.contains y.1)) && (y.2 !=.free||outer.names.lookup y.1==some .cell||outer.names.lookup y.1==some .free)
theorem CScope.of {ls:List Str}(outer:Ku)(h:ui ls scope outer=true:=by decide+kernel)(ho:X.env.scope=outer:=by rfl):CScope X ls scope:=by
 unfold ui at h;rw[Ho,HD] at h;obtain⟨h0,h⟩:=h;rw[Ho,HD] at h0;obtain⟨h0,hq⟩:=h0;refine⟨by simpa using h0,λy hy e=>?_,λy hy e=>?_,λy hy=>?_,λy hy e=>?_,λy hy k e=>by have q:=hq y hy;rw[e] at q;cases q⟩
 ·have q:=h y hy;simp [e] at q
 ·have q:=h y hy;simp [e] at q;exact q.1
 ·have q:=h _ (PySem.mem_of_lookup hy);simp at q;exact q.2
 ·have q:=h y hy;simp [e] at q;show X.env.scope.names.lookup y.1=_\/X.env.scope.names.lookup y.1=_;rw[ho];exact q
noncomputable def CMulB (i j:Int):Prop:=i.natAbs<2 ^ 65536/\j.natAbs<2 ^ 65536
theorem um {i:Int}{n:Nat}(h:i.natAbs<2 ^ n):J7.Int.intBits i<=n:=by
 unfold J7.Int.intBits;split
 ·exact G8 _
 ·rename_i hz;have hz':i.natAbs≠0:=by
   intro e;exact hz (by simp_all)
  have:=(Nat.log2_lt hz').mpr h;omega
theorem CMulB.ok {i j:Int}(h:CMulB i j):IntMulOk i j:=.of_bits (Hf (um h.1) ↥_) (Hf (um h.2) ↥_)
section
mutual
inductive Den (K:Zf)(H:Hp):V->Le->Prop
 |non:Den K H .non .none
 |bl (b):Den K H (.bl b) (.bool b)
 |int (i):Den K H (.int i) (.int i)
 |str (x):Den K H (.str x) (.str x)
 |lst {a xs ds}:SqL K H a xs->Lr K H xs ds->Den K H (.ref a) (.list ds)
 |tup {a xs ds}:SqT K H a xs->Lr K H xs ds->Den K H (.ref a) (.tuple ds)
inductive Lr (K:Zf)(H:Hp):List V->List Le->Prop
 |nil:Lr K H [] []
 |cons {x xs d ds}:Den K H x d->Lr K H xs ds->Lr K H (x::xs) (d::ds)
end
mutual
theorem gg (I:Inv X pins σ H s): ∀ {x:V}{d:Le}{u:J6},Den X.K H x d->RelV x u-> ∃as,Reads s.heap u d as
 |_,_,_,.non,r=>by cases r;exact⟨_,.none⟩
 |_,_,_,.bl b,r=>by cases r;exact⟨_,.bool b⟩
 |_,_,_,.int i,r=>by obtain⟨t,rfl⟩:=r;exact⟨_,.int i t⟩
 |_,_,_,.str i,r=>by obtain⟨t,rfl⟩:=r;exact⟨_,.str i t⟩
 |_,_,_,.lst hq ha,r=>by
  cases r;obtain⟨its,rv,⟨o,n,e1,e2,e3,e4⟩,hz⟩:=I.list hq;obtain⟨as,h⟩:=gE I ha rv;exact⟨_,.list e1 e2 e4 (by simpa using h)⟩
 |_,_,_,.tup hq ha,r=>by
  cases r;obtain⟨its,rv,⟨o,e1,e2,n,e3⟩,hz⟩:=I.tuple hq;obtain⟨as,h⟩:=gE I ha rv;exact⟨_,.tuple e1 e2 e3 (by simpa using h)⟩
theorem gE (I:Inv X pins σ H s): ∀ {xs:List V}{ds:List Le}{us:List J6},Lr X.K H xs ds->Vals xs us-> ∃as,ReadsAll s.heap us ds as
 |_,_,_,.nil,.nil=>⟨_,.nil⟩
 |_,_,_,.cons h t,.cons r rs=>by
  obtain⟨as,h1⟩:=gg I h r;obtain⟨bs,h2⟩:=gE I t rs;exact⟨_,.cons h1 h2⟩
end
noncomputable def Ph (K:Zf)(A:Kf)(neg:Bool):R2:=λx y H Q=> ∃d e,Den K H x d/\Den K H y e/\d.canLay0=true/\e.canLay0=true/\A.units+min d.depth e.depth<Kg/\Q (.bl (if neg then !Le.eqv d e else Le.eqv d e)) H
theorem CQ:OpR X (KC .Eq) (Ph X.K X.A false):=by
 intro pins s σ H x y v u Q I rx ry h;obtain⟨d,e,hd,he,cd,ce,hu,q⟩:=h;obtain⟨as,ra⟩:=gg I hd rx;obtain⟨bs,rb⟩:=gg I he ry;exact SeqAt.compareEq_reads ra rb cd ce hu ⟨.bl _,H,I,rfl,q⟩
theorem CK:OpR X (KC .NotEq) (Ph X.K X.A true):=by
 intro pins s σ H x y v u Q I rx ry h;obtain⟨d,e,hd,he,cd,ce,hu,q⟩:=h;obtain⟨as,ra⟩:=gg I hd rx;obtain⟨bs,rb⟩:=gg I he ry;exact SeqAt.compareNe_reads ra rb cd ce hu ⟨.bl _,H,I,rfl,q⟩
end
end
section
noncomputable def CXx (P:J8)(w:J9):CXT:=λouter H s E e s'=>
 ∃ (ea:Kb) (cls a0:J6) (H':Hp) (B:Ka),e=.ref ea/\s'.os=s.os/\Kv s'.gens/\Un (frs outer) [] H H' s.heap s'.heap/\HOk P w H' s'.heap/\Ka.FlyingW B outer ea cls a0 s'.heap/\
   (∀b o,s'.heap.get? b=some o->b ∉ frs outer->(H' b≠none\/ ∃o',s.heap.get? b=some o')->B.get? b=some o)/\s.heap.get? ea=none/\H' ea=none/\E cls none H'
theorem HOk.there {w:J9}(x:HOk P w H h)(e:H a=some o): ∃ob,h.get? a=some ob:=by
 have q:=x a o e;cases o with
 |lst xs=>obtain⟨_,its,n,_,e⟩:=q;exact⟨_,e⟩
 |tup xs=>obtain⟨_,its,_,⟨ob,e,_⟩,_⟩:=q;exact⟨_,e⟩
 |dK kvs=>obtain⟨_,_,vs,_,ob,es,ep,e,_⟩:=q;exact⟨_,e⟩
 |dT kvs=>obtain⟨_,_,xs,_,ob,es,ep,e,_⟩:=q;exact⟨_,e⟩
 |dN b xs ep=>obtain⟨_,_,xs,_,ob,es,e,_⟩:=q;exact⟨_,e⟩
 |set S n=>obtain⟨ob,_,_,_,e,_⟩:=q;exact⟨_,e⟩
 |ins C dx fs=>obtain⟨_,_,_,e,_⟩:=q;exact⟨_,e⟩
 |own y=>exact q
 |xd fs=>obtain⟨_,⟨_,_,_,e,_⟩,_⟩:=q;exact⟨_,e⟩
 |met f y=>exact⟨_,q⟩
 |rng lo hi=>obtain⟨_,_,_,e⟩:=q;exact⟨_,e⟩
 |frz ob u=>exact⟨_,q.1⟩
 |tbl ps=>exact⟨_,q⟩
 |ext φ=>exact q.2.1
structure InDef (X:Cx):Prop where
 stk:X.stack=X.env::X.outer
 fr:X.env.frame=some X.env.locals
 ex:X.ex=[]
theorem InDef.frs (D:InDef X):frs X.stack=X.env.locals::X.fs:=by
 rw[D.stk];unfold L2.frs;rw[Il,D.fr];rfl
section
variable {X:Cx}{pins:List (Kb×Ke)}{σ:St}{H:Hp}{s:Kd}
theorem Inv.frame_obj (I:Inv X pins σ H s)(hb:b∈frs X.stack): ∃o,s.heap.get? b=some o/\ ∀vs,o.data≠.fields vs:=(I.stack.mem hb).2
theorem qm (I:Inv X pins σ H s)(D:InDef X){args:List J6}(hx:I0 s.heap h' e C args){M:Model}{Q:Unit->Kd->Prop}{E:J6->Kd->Prop}
  (hQ: ∀ (h'':Ka) (a0:J6) (B:Ka),Ka.FlyingW B X.outer e C a0 h''->(∀b o,s.heap.get? b=some o->b ∉ frs X.stack->B.get? b=some o)->(∀b∈frs X.stack,B.get? b=none)->s.heap.UpToSlots h''->Q () {s with heap:=h''}):
  Kh M X.A (leaving X.env (.ref e)) Q E {s with heap:=h'}:=by
 have hin: ∀env∈X.stack,∀b,env.frame=some b->b∈frs X.stack:=λenv he b hb=>IP.mpr ⟨env,he,hb⟩;have hl:=PySem.W.funFrames_hide I.stack hin;have fr:=I.ok.frames;rw[D.stk] at fr;have hl':s.heap.FunFrames (PySem.W.hideAll s.heap (frs X.stack)) (X.env::X.outer):=by rw[<-D.stk];exact hl
 exact wpAny_leaves_madeW (s:={s with heap:=h'}) fr D.fr (λb o q=>PySem.W.of_hideAll _ q) hl' hx λh'' t x1 x2 x3 x4=>
  hQ h'' (.ref t) _ x1 (λb o q hb=>PySem.W.hideAll_get _ q hb) (λb hb=>PySem.W.hideAll_none _ hb) ((Ka.UpToSlots.of_keeps hx.keeps).trans x4)
end
section
variable {P:J8}{w:J9}{K:Zf}{mg:Str->Option J6}{base:Ka}{N:List Str}{qual:Str}{scope:Ku}{f:Kb}{cd:J6}{A:Kf}{outer:List Env}{s:Kd}{H:Hp}{E:XK}
theorem lX :InDef (Mt CX P w K mg base N qual scope f cd A outer s H E):=⟨rfl,rfl,rfl⟩
theorem nU {args:List J6}(I:Inv (Mt (CXx P w) P w K mg base N qual scope f cd A outer s H E) pins σ H1 s1)
  (hx:I0 s1.heap h' e C args)(hE:E C none H1):(Mt (CXx P w) P w K mg base N qual scope f cd A outer s H E).xe (.ref e) {s1 with heap:=h'}:=by
 refine qm I lX hx λh'' a0 B fl cov nof up=>?_;have fr2: ∀b,b∈frs (Mt (CXx P w) P w K mg base N qual scope f cd A outer s H E).stack↔b=↥s\/b∈frs outer:=λb=>by
  rw[(lX (CX:=CXx P w)).frs];exact GR
 have old: ∀b o,s.heap.get? b=some o->b≠↥s:=λb o q=>G7 (GU q);have keepB: ∀b o,s1.heap.get? b=some o->b≠↥s->b ∉ frs outer->h''.get? b=some o:=λb o q h1 h2=>fl.1 b o (cov b o q λz=>((fr2 b).mp z).elim h1 h2);have tr: ∀b u,H1 b=some u->b≠↥s/\b ∉ frs outer:=λb u q=>by
  refine⟨λz=>?_,λz=>?_⟩
  ·have:=I.stkFree b ((fr2 b).mpr (.inl z));rw[this] at q;cases q
  ·have:=I.stkFree b ((fr2 b).mpr (.inr z));rw[this] at q;cases q
 have slotB: ∀b o,s1.heap.get? b=some o->b∈frs outer-> ∃sl,h''.get? b=some {o with slots:=sl}:=λb o q hb=>by
  obtain⟨o',e',nd⟩:=I.frame_obj ((fr2 b).mpr (.inr hb));rw[q] at e';cases e';exact up b o q nd
 have baseU:Un (frs outer) [] H H1 s.heap s1.heap:=I.base;refine⟨e,C,a0,H1,B,rfl,I.os,I.bare,⟨λb o q n hb hx=>?_,λb o q n hb hx=>?_,λb o q n hx=>baseU.free b o q n hx,λb o q hx=>?_,baseU.tups,baseU.frzs,baseU.tbls⟩,λb u q=>?_,fl,λb o q hb hh=>?_,?_,?_,hE⟩
 ·exact keepB b o (baseU.keep b o q n hb hx) (old b o q) hb
 ·obtain⟨sl,q1⟩:=baseU.slot b o q n hb hx;obtain⟨sl',q2⟩:=slotB b _ q1 hb;exact⟨sl',q2⟩
 ·obtain⟨o',q1⟩:=baseU.there b o q hx;by_cases hb:b∈frs outer
  ·obtain⟨sl',q2⟩:=slotB b _ q1 hb;exact⟨_,q2⟩
  ·exact⟨o',keepB b o' q1 (old b o q) hb⟩
 ·refine (I.hok b u q).stay (λc v hc r=>?_) (λ_ r=>r) λ_ _ r=>r;have: ∃u,H1 c=some u:=by
   rcases hc with rfl|hc
   ·exact⟨u,q⟩
   ·exact⟨_,hc⟩
  obtain⟨u',qu⟩:=this;exact keepB c v r (tr c u' qu).1 (tr c u' qu).2
 ·have: ∃o1,s1.heap.get? b=some o1/\b≠↥s:=by
   rcases hh with hh|⟨o',hh⟩
   ·cases qu:H1 b with
    |none=>exact absurd qu hh
    |some u=>
     obtain⟨o1,q1⟩:=I.hok.there qu;exact⟨o1,q1,(tr b u qu).1⟩
   ·obtain⟨o1,q1⟩:=baseU.there b o' hh ⇑_;exact⟨o1,q1,old b o' hh⟩
  obtain⟨o1,q1,hne⟩:=this;have q2:=keepB b o1 q1 hne hb;rw[q] at q2;cases q2;exact cov b o q1 λz=>((fr2 b).mp z).elim hne hb
 ·cases q:s.heap.get? e with
  |none=>rfl
  |some o'=>
   obtain⟨o1,q1⟩:=baseU.there e o' q ⇑_;rw[hx.new] at q1;cases q1
 ·cases q:H1 e with
  |none=>rfl
  |some u=>
   obtain⟨o1,q1⟩:=I.hok.there q;rw[hx.new] at q1;cases q1
theorem eK:gI (CXx P w) (Mt (CXx P w) P w K mg base N qual scope f cd A outer s H E) E:=by
 intro pins σ H1 s1 e s2 I hc;obtain⟨ea,cls,a0,H2,B,rfl,os,bare,un,hok,fly,cov,new,hn,hE⟩:=hc;have frm:=I.ok.frames;refine wpAny_leaves_onW (show (A.deeper (K5 qual scope ↥s f cd)).frames=some (K5 qual scope ↥s f cd::outer) from frm) rfl fly λh' fl up=>?_;have fr2: ∀b,b∈frs (Mt (CXx P w) P w K mg base N qual scope f cd A outer s H E).stack↔b=↥s\/b∈frs outer:=λb=>by
  rw[(lX (CX:=CXx P w)).frs];exact GR
 have old: ∀b o,s.heap.get? b=some o->b≠↥s:=λb o q=>G7 (GU q);have baseU:Un (frs outer) [] H H1 s.heap s1.heap:=I.base;have frN: ∀b,b∈frs (Mt (CXx P w) P w K mg base N qual scope f cd A outer s H E).stack->H2 b=none:=λb hb=>by
  obtain⟨o,q,_⟩:=I.frame_obj hb;exact un.free b o q (I.stkFree b hb) ⇑_
 have tr: ∀b u,H2 b=some u->b ∉ frs (Mt (CXx P w) P w K mg base N qual scope f cd A outer s H E).stack:=λb u q z=>by rw[frN b z] at q;cases q
 have slotB: ∀b o,s2.heap.get? b=some o->b∈frs (Mt (CXx P w) P w K mg base N qual scope f cd A outer s H E).stack-> ∃sl,h'.get? b=some {o with slots:=sl}:=λb o q hb=>by
  obtain⟨o',e',nd⟩:=(fly.2.2.1.mem hb).2;rw[q] at e';cases e';exact up b o q nd
 have noSt: ∀b o,s.heap.get? b=some o->b ∉ frs outer->b ∉ frs (Mt (CXx P w) P w K mg base N qual scope f cd A outer s H E).stack:=λb o q hb z=>((fr2 b).mp z).elim (old b o q) hb;refine⟨ea,cls,a0,H2,B,rfl,os.trans I.os,bare,⟨λb o q n hb hx=>?_,λb o q n hb hx=>?_,λb o q n hx=>?_,λb o q hx=>?_,λb xs q=>un.tups b xs (baseU.tups b xs q),λb o u q=>un.frzs b o u (baseU.frzs b o u q),λb ps q=>?_⟩,λb u q=>?_,fl,λb o q hb hh=>?_,?_,hn,hE⟩
 ·have q1:=baseU.keep b o q n hb hx;have q2:=un.keep b o q1 (baseU.free b o q n hx) (noSt b o q hb) hx;exact fl.1 b o (cov b o q2 (noSt b o q hb) (.inr ⟨o,q1⟩))
 ·obtain⟨sl,q1⟩:=baseU.slot b o q n hb hx;obtain⟨sl2,q2⟩:=un.slot b _ q1 (baseU.free b o q n hx) ((fr2 b).mpr (.inr hb)) hx;obtain⟨sl3,q3⟩:=slotB b _ q2 ((fr2 b).mpr (.inr hb));exact⟨sl3,q3⟩
 ·obtain⟨o1,q1⟩:=baseU.there b o q hx;exact un.free b o1 q1 (baseU.free b o q n hx) hx
 ·obtain⟨o1,q1⟩:=baseU.there b o q hx;obtain⟨o2,q2⟩:=un.there b o1 q1 hx;by_cases hb:b∈frs outer
  ·obtain⟨sl,q3⟩:=slotB b o2 q2 ((fr2 b).mpr (.inr hb));exact⟨_,q3⟩
  ·exact⟨o2,fl.1 b o2 (cov b o2 q2 (noSt b o q hb) (.inr ⟨o1,q1⟩))⟩
 ·obtain⟨m1,e1⟩:=baseU.tbls b ps q;obtain⟨m2,e2⟩:=un.tbls b _ e1;exact⟨m1++m2,by rw[e2,Jt]⟩
 ·refine (hok b u q).stay (λc v hc r=>?_) (λ_ r=>r) λ_ _ r=>r;have: ∃u,H2 c=some u:=by
   rcases hc with rfl|hc
   ·exact⟨u,q⟩
   ·exact⟨_,hc⟩
  obtain⟨u',qu⟩:=this;exact fl.1 c v (cov c v r (tr c u' qu) (.inl (by rw[qu];simp)))
 ·have: ∃o2,s2.heap.get? b=some o2/\B.get? b=some o2:=by
   rcases hh with hh|⟨o',hh⟩
   ·cases qu:H2 b with
    |none=>exact absurd qu hh
    |some u=>
     obtain⟨o2,q2⟩:=hok.there qu;exact⟨o2,q2,cov b o2 q2 (tr b u qu) (.inl hh)⟩
   ·obtain⟨o1,q1⟩:=baseU.there b o' hh ⇑_;obtain⟨o2,q2⟩:=un.there b o1 q1 ⇑_;exact⟨o2,q2,cov b o2 q2 (noSt b o' hh hb) (.inr ⟨o1,q1⟩)⟩
  obtain⟨o2,q2,q3⟩:=this;have q4:=fl.1 b o2 q3;rw[q] at q4;cases q4;exact q3
 ·cases q:s.heap.get? ea with
  |none=>rfl
  |some o'=>
   obtain⟨o1,q1⟩:=baseU.there ea o' q ⇑_;rw[new] at q1;cases q1
end
end
section
noncomputable def Its (x:Str):It:=⟨λi _=>i<x.cps.size,λi H v H'=>H'=H/\ ∃c,x.cps.toList[i]?=some c/\v=.str ⟨#[c]⟩,λi _=>i=x.cps.size⟩
theorem qT (x:Str):["enumerate", "zip", "dict_itemiterator", "dict_reverseitemiterator", "odict_iterator", "itertools.zip_longest", "itertools.pairwise"].contains (Lf x)=false:=by
 unfold Lf;split<;>decide
theorem mI {w:J9}(hh:A.handled=none)(I:Kb)(x:Str)(t:Tok):Walks prog w A I [I] [I] x.cps.size (SignAt x) (λi h=>h.IsStrIter I (Lf x) x t i):=by
 unfold Lf;split
 ·exact Walks.strAscii hh I x t
 ·exact Walks.strWide hh I x t
theorem vf {w:J9}{E:J6->Kd->Prop}{x:Str}{i:Nat}{Q:J6->Kd->Prop}(hit:s.heap.IsStrIter it (Lf x) x t i)(h:Q (.ref it) s):
  Kh (Ki prog w) A (pyIter (.ref it)) Q E s:=by
 unfold Lf at hit;split at hit
 ·exact wpAny_pyIter_striter_ascii hit h
 ·exact wpAny_pyIter_striter_wide hit h
theorem vX {P:J8}{w:J9}{K:Zf}{tg:Expr}(it:Kb)(x:Str)(t:Tok):LX P w K tg (Its x) [it] it (λi h=>h.IsStrIter it (Lf x) x t i) where
 mem:=⇑_
 obj:=λi h st b hb=>by
  have e:b=it:=by simpa using hb
  subst e;obtain⟨o,e,c,d⟩:=st;exact⟨o,e,λv z=>by rw[d] at z;cases z⟩
 keep:=λi h h' st k=>by
  obtain⟨o,e,r⟩:=st;exact⟨o,k it ⇑_ o e,r⟩
 item:=by
  intro X hP hw hK hc i pins s σ H E I hf st hg;subst hP hw hK;obtain⟨f0,f1,f2,f3,f4,f5⟩:=hf it ⇑_;refine (mI (I.ok.hd hc) it x t).item i s _ _ hg st λv h' tk hv st' kk=>?_;obtain⟨c,u,hcu,rfl⟩:=hv;have I1:Inv X pins σ H {s with heap:=h',toks:=tk}:=I.turned (λb o hb e=>kk b o (by simpa using hb) e) f0 f1 f3 f4 f5;obtain⟨o,e,c',d⟩:=id st';exact⟨_,rfl,tY (s:={s with heap:=h',toks:=tk}) e c' d (qT x) ⟨.str ⟨#[c]⟩,H,I1,⟨u,rfl⟩,⟨rfl,c,by simpa using hcu,rfl⟩,st',λb hb=>(hf b hb).1⟩⟩
 done:=by
  intro X hP hw hK hc i pins s σ H E I hf st hg;subst hP hw hK;obtain⟨f0,f1,f2,f3,f4,f5⟩:=hf it ⇑_;have hg:i=x.cps.size:=hg;subst hg;exact (mI (I.ok.hd hc) it x t).done s _ _ st λh' tk kk=>⟨rfl,I.turned (λb o hb e=>kk b o (by simpa using hb) e) f0 f1 f3 f4 f5⟩
 self:=λ_ _ _ _ _ st h=>vf st h
section
variable {X:Cx}{tg:Expr}
noncomputable def iStr (tl:TE):TI:=λσ H R=>tl σ H λv H1=> ∃x,v=.str x/\R (Its x) H1
theorem xa (hl:PE X l tl):PI X tg l (iStr tl):=by
 intro pins s σ H R I h;refine thn (hl pins s σ H _ I h) λv s1 qz=>?_;obtain⟨y,H1,I1,r1,q1⟩:=qz;obtain⟨x,rfl,q⟩:=q1;obtain⟨t,rfl⟩:=r1;refine wpAny_pyIter_strU ?_;refine⟨↥s1,[↥s1],_,_,H1,rfl,I1.kept (t':=s1.toks) λb o e=>GZ _ e,vX _ x t,⟨_,He _ rfl,rfl,rfl⟩,λb hb=>?_,q⟩;have e:b=↥s1:=by simpa using hb
 subst e;exact I1.fpOk (GO _) (I1.hok.fresh (GO _))
end
theorem FW {x:Str}{g:TG}{tb:TS}{D:Ls}{σ:St}{H:Hp}(Pv:Nat->St->Hp->Prop)(h0:Pv 0 σ H)
  (hs: ∀i c σ H,x.cps.toList[i]?=some c->Pv i σ H->g (.str ⟨#[c]⟩) σ H λσ2 H2=>tb {D with nx:=Pv (i+1),ct:=Pv (i+1),bk:=D.nx} σ2 H2)(hd: ∀σ H,Pv x.cps.size σ H->D.nx σ H):
  ∃W:Nat->Nat->St->Hp->Prop,(∃m,W 0 m σ H)/\ ∀i m σ H,W i m σ H->
   ((Its x).stop i H/\D.nx σ H)\/((Its x).go i H/\ ∃N:St->Hp->Prop,(∀σ' H',N σ' H'-> ∃m',m'<m/\W (i+1) m' σ' H')/\ ∀v H',(Its x).yld i H v H'->g v σ H' λσ2 H2=>tb {D with nx:=N,ct:=N,bk:=D.nx} σ2 H2):=by
 refine⟨λi m σ H=>m=x.cps.size - i/\i<=x.cps.size/\Pv i σ H,⟨x.cps.size,⇑_,G8 _,h0⟩,?_⟩
 rintro i m σ H ⟨rfl,hi,p⟩
 by_cases hlt:i<x.cps.size
 ·refine .inr ⟨hlt,Pv (i+1),λσ' H' p'=>⟨x.cps.size - (i+1),∅,rfl,hlt,p'⟩,λv H' y=>?_⟩;obtain⟨e,c,hc,rfl⟩:=y;subst e;exact hs i c σ _ hc p
 ·have e:i=x.cps.size:=∅;subst e;exact .inl ⟨rfl,hd σ H p⟩
theorem qy {x:Str}{ls:List Str}(Pv:Nat->List V->Hp->Prop)(h0:Pv 0 [] H)
  (hs: ∀i c ys H,x.cps.toList[i]?=some c->Pv i ys H->g (.str ⟨#[c]⟩) (List.replicate ls.length none++σ) H λσ2 H2=>σ2.drop ls.length=σ/\σ2.length=ls.length+σ.length/\tt σ2 H2 λb H3=>if b=true then te σ2 H3 λv H4=>ys.length<sizeLine/\Pv (i+1) (ys++[v]) H4 else Pv (i+1) ys H3)
  (hd: ∀ys H,Pv x.cps.size ys H-> ∀D,H D=none->Q (.ref D) (upd H D (.lst ys))):Lp (Its x) ls g tt te σ H Q:=by
 refine⟨λi m ys H=>m=x.cps.size - i/\i<=x.cps.size/\Pv i ys H,⟨x.cps.size,⇑_,G8 _,h0⟩,?_⟩
 rintro i m ys H ⟨rfl,hi,p⟩
 by_cases hlt:i<x.cps.size
 ·refine .inr ⟨hlt,Pv (i+1),λys' H' p'=>⟨x.cps.size - (i+1),∅,rfl,hlt,p'⟩,λv H' y=>?_⟩;obtain⟨e,c,hc,rfl⟩:=y;subst e;exact hs i c ys _ hc p
 ·have e:i=x.cps.size:=∅;subst e;exact .inl ⟨rfl,hd ys H p⟩
section
variable {X:Cx}
theorem qK: ∀ {bs:List Bool}{us:List J6},Vals (bs.map V.bl) us->LSm.BoolsAre us bs
 |[],_,.nil=>.nil
 |b::r,_,.cons h t=>by
  have h:_=J6.bool b:=h;subst h;exact .cons b (qK t)
theorem qE (hc:X.calm=true):CallR X (.builtin "all") (λxs H Q=> ∃ (p:Kb) (bs:List Bool),xs=[.ref p]/\SqL X.K H p (bs.map V.bl)/\Q (.bl (bs.all id)) H):=by
 intro pins s σ H xs us Q I r h;obtain⟨p,bs,rfl,hq,q⟩:=h;obtain⟨u,rfl,ru⟩:=QW r;cases ru;obtain⟨its,rv,pl,hz⟩:=I.list hq;have hb:=qK rv;have hl:=pl.isList;have hlt:p<↥s:=by obtain⟨_,e,_⟩:=hl;exact GU e
 refine call_all_walk (wpAny_pyIter_list hl ?_)
 refine⟨↥s,[↥s,p],[↥s],its.toArray.size,_,_,λi=>(bs[i]?).getD true,rfl,Walks.list (A:=X.A.in1) (I.ok.hd hc) _ p (G7 hlt) its.toArray,
  ⟨⟨_,He _ rfl,rfl,rfl⟩,hl.push _⟩,λi v s' Q' E' hP hQ=>?_,λh' tk hk=>?_⟩
 ·obtain⟨b,e,rfl⟩:=hb.get i v (by simpa using hP);simp only[e,Ig] at hQ;exact Ko hQ
 ·have e:((List.range its.toArray.size).all λi=>(bs[i]?).getD true)=bs.all id:=by
   rw[G4,hb.length];exact LSm.range_all bs
  rw[e];exact⟨.bl _,H,I.kept (t':=tk) (LSm.kept_iter hk),rfl,q⟩
theorem Qj:SlR X (λx lo hi H Q=> ∃z,x=.str z/\z.length<=sizeLine/\Q (.str (StrLaws.sliceText z lo hi)) H):=by
 intro pins s σ H x v vl vu lo hi sl Q I rx hs pl pu h;obtain⟨z,rfl,hz,q⟩:=h;obtain⟨t,rfl⟩:=rx;have part: ∀ {v:J6}{o:Option Int},IsPart v o-> ∃p:Option (Int×Tok),v=partValue p/\p.map (·.1)=o:=λ{v o} h=>by
  cases h with
  |none=>exact⟨none,rfl,rfl⟩
  |int i t=>exact⟨some (i,t),rfl,rfl⟩
 obtain⟨l,rfl,el⟩:=part pl;obtain⟨u,rfl,eu⟩:=part pu;refine⟨"str",_,slot_str_getitem.lookup,K8 s z t,?_⟩;obtain⟨o,h1,h2,h3⟩:=hs;refine wpAny_getItem_str_slice (l:=l) (u:=u) (st:=none) ⟨o,h1,h2,h3⟩ rfl ?_;subst el eu;unfold sliceMade slicePicked;unfold StrLaws.sliceText at q;simp only[Option.map_none,IU];split
 ·rename_i hc;rw[if_pos hc] at q;exact⟨.str z,H,I,⟨t,rfl⟩,q⟩
 ·rename_i hc;rw[if_neg hc] at q;refine⟨?_,.str _,H,I.tok _,⟨_,rfl⟩,q⟩;show ((_:List Nat).toArray).size<=sizeLine;rw[G4];exact Hf (List.length_filterMap_le _ _) (Hf (sliceIndices_le _ _ _) hz)
theorem jO:CallR X (.type "int") (λxs H Q=> ∃ (z:Str) (n:Int),xs=[.str z]/\PySem.intText? z=some n/\z.length<=640/\Q (.int n) H):=by
 intro pins s σ H xs us Q I r h;obtain⟨z,n,rfl,hn,hl,q⟩:=h;obtain⟨u,rfl,t,rfl⟩:=QW r;exact PySem.W.KIN.call_text hn hl ⟨.int n,H,I.tok _,⟨_,rfl⟩,q⟩
theorem oO:CallR X (.type "str") (λxs H Q=> ∃ (z:Str),xs=[.str z]/\Q (.str z) H):=by
 intro pins s σ H xs us Q I r h;obtain⟨z,rfl,q⟩:=h;obtain⟨u,rfl,t,rfl⟩:=QW r;exact P.str_of_str ⟨.str z,H,I,⟨_,rfl⟩,q⟩
theorem OK:OpR X (KQ .Mult) (λx y H Q=> ∃ (z:Str) (n:Int),x=.str z/\y=.int n/\MulOk z n/\Q (.str (Txt.mul z n)) H):=by
 intro pins s σ H x y v u Q I rx ry h;obtain⟨z,n,rfl,rfl,ho,q⟩:=h;obtain⟨t,rfl⟩:=rx;obtain⟨t',rfl⟩:=ry;exact SB.mul ho λt' k=>⟨.str _,H,I.tok k,⟨_,rfl⟩,q⟩
end
theorem r6 (x:Str)(c:Nat):(!(J7.Str.occurrences x ⟨#[c]⟩ 0 x.length 1).isEmpty)=decide (c∈x.cps.toList):=StrLaws.found_one x c
noncomputable def ut (X:Cx)(E:XK):Prop:= ∀ (pins:List (Kb×Ke)) (σ:St) (H:Hp) (s:Kd) (h':Ka) (e:Kb) (C:J6) (args:List J6),Inv X pins σ H s->I0 s.heap h' e C args->E C none H->X.xe (.ref e) {s with heap:=h'}
theorem fU {w:J9}{K:Zf}{mg:Str->Option J6}{N:List Str}{qual:Str}:
 ut (Mt (CXx P w) P w K mg base N qual scope f cd A outer s H E) E:=λ_ _ _ _ _ _ _ _ I hx hE=>nU I hx hE
noncomputable def BR (C:J6)(E:XK)(t:TA):TS:=λ_ σ H=>t σ H λvs H1=>vs.length<=sizeLine/\E C none H1
noncomputable abbrev L9:List J6:=[.type "ValueError",.type "Exception",.type "BaseException",.type "object"]
section
variable {X:Cx}{C:Kb}{E:XK}{x:Str}{np cpos pos:Kx}{a:Expr}{es:List Expr}{t:TA}
theorem fV (hX:ut X E)(hc:X.calm=true)(hg:Gl X x)(hm:X.mg x=some (.ref C))(q:PySem.W.excIn X.K C L9 "ValueError.__new__"=true)(ha:PA X (a::es) t)
  (he:Kz (a::es) X.env=(false,Kw a X.env)::Kz es X.env:=by rfl)(hplain:(Ky cpos (Kz es X.env)).any (·.1)=false:=by rfl)(hd:(x==("__debug__":Str))=false:=by decide):
  PS X (.Raise (some (.Call (.Name x np) (a::es) [] cpos)) none pos) (BR (.ref C) E t):=by
 intro pins s σ H D I h;unfold PySem.W.excIn at q;split at q
 ·rename_i dd cd sl ho;split at q
  ·rename_i C' bm k0 k1 k2 k3 n k5 hm' hs;simp only[Ho,beq_iff_eq,Bool.not_eq_true'] at q;obtain⟨⟨⟨⟨⟨rfl,rfl⟩,hdel⟩,ht⟩,hok⟩,hni⟩:=q;obtain⟨nm,bs,mro,ns,qn,hd',sn,sub,ab,col,del⟩:=cd;dsimp only at hm' hdel hok hni;subst hm' hdel;have hsl:sl= #[k0,k1,k2,k3,some (.builtin "ValueError.__new__"),k5]:=by
    obtain⟨l⟩:=sl;simp only at hs;rw[hs]
   subst hsl
   have obj: ∀ {hh:Ka},X.K.In hh->_:=λ{hh} (XX:X.K.In hh)=>(⟨XX _ _ ho,PySem.Heap.Ns.of_isNs (PySem.W.isNs_of_in XX hok),PySem.W.nsMap_none_of_in XX hok hni,PySem.W.tail_of_in XX ht⟩:
    hh.get? C'=some (excClassObj nm qn C' ns bs bm hd' sn sub ab col dd k0 k1 k2 k3 k5 "ValueError.__new__")/\hh.Ns ns (hh.nsMap ns)/\hh.nsMap ns "__init__"=none/\OwnTail hh L9 bm)
   have o0:=obj I.ok.mod.kin;refine wpAny_Raise_call_subT (C:=C') (nm:=nm) (q:=qn) (N:=ns) (bs:=bs) (bm:=bm) (hdct:=hd') (sn:=sn) (sub:=sub) (ab:=ab) (col:=col) (dd:=dd) (k0:=k0) (k1:=k1) (k2:=k2) (k3:=k3) (k5:=k5)
    F.excBase_ValueError (mN:=X.base.nsMap ns) (o0.2.2.2.hasType F.excBase_ValueError.hasBase) (I.ok.hd hc) (by rw[he];show (false||(Ky cpos (Kz es X.env)).any (·.1))=false;rw[hplain];rfl) o0.2.2.1 (jF I hg hm ⟨rfl,?_⟩ hd)
   rw[he];refine Calls.evalArgs_plain ?_;have hq:=ha cpos pins s σ H _ I h;rw[he] at hq;refine thn hq λus s2 qz=>?_;obtain⟨vs,H1,I1,r1,z,q1⟩:=qz;have kp: ∀b o,X.base.get? b=some o->s2.heap.get? b=some o:=I1.bk;exact⟨rfl,by rw[<-r1.length];exact z,(obj I1.kIn).1,o0.2.1.keeps kp,(obj I1.kIn).2.2.2,λh' e hx=>hX pins σ H1 s2 h' e _ _ I1 hx q1⟩
  ·cases q
 ·cases q
end
end
section
noncomputable def excO (ea:Kb)(cls:J6):HO:=.ext λh=> ∃o vs,h.get? ea=some o/\o.cls=cls/\o.data=.fields vs
section
variable {P:J8}{w:J9}{K:Zf}{mg:Str->Option J6}{base:Ka}
theorem Fun.okX {x qual:Str}{st:KA}{N ps:List Str}{k:Nat}(F:Fun K x qual st f fd)(S:Lz N ps (af st))(len: ∀vs H Q E,sp vs H Q E->vs.length=ps.length)
  (hbody: ∀ (cdv:J6) (A:Kf) (outer:List Env) (s:Kd) (H:Hp) (vs:List V) (Q:VK) (E:XK),Room k (A.deeper (K5 qual (af st) ↥s f cdv))->sp vs H Q E->
   ∃t,PSs (Mt (CXx P w) P w K mg base N qual (af st) f cdv A outer s H E) (bO st) t/\t {nx:=λ_ H'=>Q .non H',rt:=Q} (Qz N vs) H):FnOk P w K mg base (CXx P w) (k+1) f fd ps sp:=by
 obtain⟨oc,od,kV,doc,pm,an,cdv,ct,osl,rfl,lk,hcd⟩:=F.ex;exact BB lk hcd S len λA outer s H vs Q E hr hsp=>hbody cdv A outer s H vs Q E hr hsp
end
end
section
noncomputable def Ite (K:Zf)(a:Kb):It:=
 ⟨λi H=> ∃xs x,SqL K H a xs/\xs[i]?=some x,λi H v H'=> ∃T x,H T=none/\v=.ref T/\(∀xs,SqL K H a xs->xs[i]?=some x)/\H'=upd H T (.tup [.int i,x]),λi H=> ∃xs,SqL K H a xs/\xs.length=i⟩
theorem uv {P:J8}{w:J9}{K:Zf}{elts:List Expr}{x1}{tpos:Kx}(a e it:Kb)(hei:e≠it):LX P w K (.Tuple elts x1 tpos) (Ite K a) [e,it] e (λi h=>(∃old,IsEnum h e it i old)/\h.IsListIter it a i) where
 mem:=⇑_
 obj:=λi h st b hb=>by
  obtain⟨⟨old,he⟩,st⟩:=st;rcases GR.mp hb with rfl|hb
  ·exact⟨_,he,λv z=>by cases z⟩
  ·have e':b=it:=by simpa using hb
   subst e';obtain⟨o,e,c,d⟩:=st;exact⟨o,e,λv z=>by rw[d] at z;cases z⟩
 keep:=λi h h' st k=>⟨let ⟨old,he⟩:=st.1;⟨old,k e ⇑_ _ he⟩,st.2.at λo e=>k it ⇑_ o e⟩
 item:=by
  intro X hP hw hK hc i pins s σ H E I hf st hg;subst hP hw hK;obtain⟨⟨old,he⟩,st⟩:=st;obtain⟨xs,x,hq,hx⟩:=hg;obtain⟨its,rv,p,hz⟩:=I.list hq;obtain⟨u,hu,ru⟩:=rv.get hx;have fe:=hf e ⇑_;have fi:=hf it ⇑_;obtain⟨oi,hoi,hoc,hod⟩:=id st;have nai:a≠it:=λz=>by
   obtain⟨o,h1,h2,_⟩:=p.isList;rw[z,hoi] at h1;cases h1;rw[hoc] at h2;exact absurd h2 ↥_
  have nae:e≠a:=λz=>by
   obtain⟨o,h1,h2,_⟩:=p.isList;rw[<-z,show s.heap.get? e=_ from he] at h1;cases h1;exact absurd (show J6.type "enumerate"=J6.type "list" from h2) ↥_
  have D:=Draws.list (prog:=X.prog) (w:=X.w) (A:=X.A.in1) (I.ok.hd hc) it a nai its.toArray
  refine wpAny_pyNext_enum_itemD D he ⟨st,p.isList⟩ (by
   have:=G1.mp hu;obtain⟨z,_⟩:=this
   simpa using z) hei (by simp [hei,nae]) λv h' tk hP hout hst hT hsz hk=>?_
  have hv:v=u:=by
   have hP:its.toArray[i]?=some v:=hP;rw[Ja,hu] at hP;exact (Option.some.inj hP).symm
  subst hv;have nT:H ↥s=none:=I.hok.fresh (GO _);have lt: ∀b o,s.heap.get? b=some o->b≠↥s:=λb o q=>G7 (GU q);have ltH: ∀b o,H b=some o->b≠↥s:=λb o q z=>by rw[z,nT] at q;cases q
  have neH: ∀b o,H b=some o->b≠e/\b≠it:=λb o q=>⟨λz=>by (rw[z,fe.1] at q;cases q),λz=>by (rw[z,fi.1] at q;cases q)⟩
  have I1:Inv X pins σ (upd H ↥s (.tup [.int i,x])) {s with heap:=h',toks:=tk+1}:=by
   refine I.call' (s':={s with heap:=h',toks:=tk+1}) (ch:=[e,it]) rfl ⟨λb o q n hb hx=>?_,λb o q n hb hx=>?_,λb o q n hx=>?_,λb o q hx=>?_,λb xs q=>?_,λb o u q=>?_,λb ps q=>?_⟩ (λb o q=>?_) I.bare λb hb=>?_
   ·exact hk b o (λz=>hx (by simp [z])) (λz=>hx (by simp [z])) q
   ·exact⟨o.slots,hk b o (λz=>hx (by simp [z])) (λz=>hx (by simp [z])) q⟩
   ·rw[ai (lt b o q)];exact n
   ·exact⟨o,hk b o (λz=>hx (by simp [z])) (λz=>hx (by simp [z])) q⟩
   ·rw[ai (ltH b _ q)];exact q
   ·rw[ai (ltH b _ q)];exact q
   ·exact⟨#[],by rw[ai (ltH b _ q),q];simp⟩
   ·by_cases hb:b=↥s
    ·subst hb;rw[ay] at q;cases q;exact⟨by show 2<=sizeLine;decide,_,.cons ⟨tk,rfl⟩ (.cons ru .nil),⟨_,hT,rfl,_,rfl⟩,_,hT,rfl⟩
    ·rw[ai hb] at q;refine (I.hok b o q).stay (λc v hc r=>?_) (λc r=>by rw[ai (ltH c _ r)];exact r) λc xs r=>by rw[ai (ltH c _ r)];exact r
     have: ∃o,H c=some o:=by
      rcases hc with rfl|hc
      ·exact⟨o,q⟩
      ·exact⟨_,hc⟩
     obtain⟨o',qo⟩:=this;exact hk c v (neH c o' qo).1 (neH c o' qo).2 r
   ·have fb:LC X pins H b:=by
     rcases GR.mp hb with rfl|hb
     ·exact fe
     ·have e':b=it:=by simpa using hb
      subst e';exact fi
    exact⟨fb.2.2.2.1,fb.2.1,fb.2.2.2.2.1,fb.2.2.2.2.2⟩
  refine⟨_,rfl,wpAny_letOwnedTupleGo_enum (s:={s with heap:=h',toks:=tk+1}) hout λh2 he2 hs2=>?_⟩;have neT: ∀b∈[e,it],b≠↥s:=λb hb=>by
   rcases GR.mp hb with rfl|hb
   ·exact lt _ _ he
   ·have e':b=it:=by simpa using hb
    subst e';exact lt _ _ hoi
  have fe':(upd H ↥s (.tup [.int i,x])) e=none:=by rw[ai (neT e ⇑_)];exact fe.1
  refine⟨.ref ↥s,upd H ↥s (.tup [.int i,x]),?_,rfl,⟨↥s,x,nT,rfl,λys hy=>by rw[I.list_inj hy hq];exact hx,rfl⟩,⟨⟨_,by simpa using he2⟩,hst.1.at λo eo=>(hs2.2 it (Ne.symm hei)).trans eo⟩,λb hb=>?_⟩
  ·exact I1.turned (t':=tk+1) (λb o hb eo=>(hs2.2 b hb).trans eo) fe' fe.2.1 fe.2.2.2.1 fe.2.2.2.2.1 fe.2.2.2.2.2
  ·rw[ai (neT b hb)];exact (hf b hb).1
 done:=by
  intro X hP hw hK hc i pins s σ H E I hf st hg;subst hP hw hK;obtain⟨⟨old,he⟩,st⟩:=st;obtain⟨xs,hq,hx⟩:=hg;obtain⟨its,rv,p,hz⟩:=I.list hq;have fi:=hf it ⇑_;obtain⟨oi,hoi,hoc,hod⟩:=id st;have nai:a≠it:=λz=>by
   obtain⟨o,h1,h2,_⟩:=p.isList;rw[z,hoi] at h1;cases h1;rw[hoc] at h2;exact absurd h2 ↥_
  have D:=Draws.list (prog:=X.prog) (w:=X.w) (A:=X.A.in1) (I.ok.hd hc) it a nai its.toArray;have ei:i=its.toArray.size:=by rw[G4,<-rv.length];exact hx.symm
  refine wpAny_pyNext_enum_endD D he (by rw[<-ei];exact⟨st,p.isList⟩) λh' eb=>⟨rfl,I.turned (t':=s.toks) (λb o hb e=>eb b o hb e) fi.1 fi.2.1 fi.2.2.2.1 fi.2.2.2.2.1 fi.2.2.2.2.2⟩
 self:=λ_ _ _ _ _ st h=>let ⟨_,he⟩:=st.1;Lg he h
section
variable {X:Cx}
noncomputable def iEnum (K:Zf)(ta:TA):TI:=λσ H R=>ta σ H λvs H1=> ∃a,vs=[.ref a]/\(∃xs,SqL K H1 a xs)/\R (Ite K a) H1
theorem zO {x1}(hg:Gl X "enumerate")(hm:X.mg "enumerate"=none)(ha:PA X [a] ta)(hs:Kz [a] X.env=[(false,Kw a X.env)]:=by rfl):PI X (.Tuple elts x1 tpos) (.Call (.Name "enumerate" p) [a] [] pos) (iEnum X.K ta):=by
 intro pins s σ H R I h;refine Call_ (im I hg hm boot_enumerate (PyProof.Rows.callWith_type1 (thn (ha pos pins s σ H _ I h) λus s1 qz=>?_) hs rfl));obtain⟨vs,H1,I1,r1,q1⟩:=qz;obtain⟨b,e,⟨xs,hq⟩,q⟩:=q1;subst e;cases r1 with
 |cons r rr=>
  cases rr;cases r;obtain⟨its,rv,pl,hz⟩:=I1.list hq;refine call_enumerate_list pl.isList λh' he hi hsz hk=>?_;refine Lg he ?_;have I2:Inv X pins σ H1 {s1 with heap:=h'}:=I1.kept (t':=s1.toks) hk;refine⟨↥s1+1,[↥s1+1,↥s1],_,_,H1,rfl,I2,uv b _ _ ⇑_,⟨⟨_,he⟩,hi⟩,λc hc=>?_,q⟩;have hc':↥s1<=c:=by
   rcases GR.mp hc with rfl|hc
   ·exact HK _
   ·have:c=↥s1:=by simpa using hc
    exact H9 this.symm
  exact I1.fpOk hc' (I1.hok.fresh hc')
end
end
end L2
namespace L2
open PySem PySem.Spec PyProof.Rows PySem.W
end L2
namespace L2
open PySem PySem.Spec PyProof.Rows
theorem sJ: ∀ {ts:List Str}{us:List J6},Vals (ts.map V.str) us-> ∃l:List (Str×Tok),us=strValues l/\l.map (·.1)=ts
 |[],_,.nil=>⟨[],rfl,rfl⟩
 |t::ts,_,.cons h r=>by
  obtain⟨k,rfl⟩:=h;obtain⟨l,e,e2⟩:=sJ r;exact⟨(t,k)::l,by rw[e];rfl,by rw[<-e2];rfl⟩
theorem uq (a b:Str):(a++b).length=a.length+b.length:=by
 show (a.cps++b.cps).size=_;rw[Jy];rfl
theorem lV (sep:Str): ∀ (ts:List Str),(Str.join sep ts).length<=(ts.map (·.length)).sum+ts.length * sep.length
 |[]=>G8 _
 |[x]=>by
  show x.length<=_;simp
 |x::y::r=>by
  show (x++sep++Str.join sep (y::r)).length<=_;have ih:=lV sep (y::r);rw[uq,uq,GV,Ip,GT];have:((y::r).length+1) * sep.length=(y::r).length * sep.length+sep.length:=by rw[Nat.succ_mul]
  omega
section
variable {X:Cx}
noncomputable def rJoin (K:Zf):V->List V->Hp->VK->Prop:=λx vs H Q=> ∃ (sep:Str) (p:Kb) (ts:List Str),x=.str sep/\vs=[.ref p]/\SqL K H p (ts.map V.str)/\(ts.map (·.length)).sum+ts.length * sep.length<=sizeLine/\Q (.str (Str.join sep ts)) H
theorem Ad:MtM X "str.join" (rJoin X.K):=by
 intro pins s σ H x vs v us Q I rx rv h;obtain⟨sep,p,ts,rfl,rfl,hq,hz,q⟩:=h;obtain⟨t,rfl⟩:=rx;obtain⟨u,rfl,ru⟩:=rv.one;cases ru;obtain⟨its,r,pl,_⟩:=I.list hq;obtain⟨l,rfl,rfl⟩:=sJ r
 refine La F.slot_str_join (K8 s sep t) F.entry_str_join (F.args_str_join_2 _ _) (meets_str_join_list sep t p l (by
  rw[StrLaws.joinTotal];unfold J7.Str.tooLong
  exact decide_eq_false ∅)) ⟨pl.isList,?_⟩
 cases l with
 |nil=>exact⟨by rw[StrLaws.glued_eq_join];exact Hf (lV sep _) hz,.str _,H,I.tok _,⟨_,by rw[StrLaws.glued_eq_join]⟩,q⟩
 |cons a l=>
  cases l with
  |nil=>exact⟨.str a.1,H,I,⟨a.2,rfl⟩,q⟩
  |cons b l=>exact⟨by rw[StrLaws.glued_eq_join];exact Hf (lV sep _) hz,.str _,H,I.tok _,⟨_,by rw[StrLaws.glued_eq_join]⟩,q⟩
end
end L2
namespace L2
open PySem
end L2
namespace L2
open PySem PySem.Spec PyProof.Rows
open Sem (wp)
open Builtin
section
variable {prog:J8}{w:J9}{A:Kf}{E:J6->Kd->Prop}{s:Kd}
theorem vY {i:Nat}{Q:J6->Kd->Prop}(g:s.heap.IsTupleIter j t i)(gt:s.heap.IsTuple t its)(hx:its[i]?=some x)(k:∀h',h'.IsTupleIter j t (i+1)->Hy j s.heap h'->Q x {s with heap:=h'}):Kh (Ki prog w) A (SmallTypes.nextOf (.ref j)) Q E s:=by
 obtain⟨o,q1,q2,q3⟩:=id g;obtain⟨u,z1,_,n,z2⟩:=gt;unfold SmallTypes.nextOf;refine Kj (wpAny_callSpecial?_slot (name:=Str.ofString "__next__") g.typeIs F.slot_tuple_iterator_next (Kk F.slot_tuple_iterator_next g.typeIs F.entry_tuple_iterator_next ?_ (F.args_tuple_iterator_next_1 _)));show Kh _ _ (field (.ref j) 0>>=_) _ _ s;refine Kj (K6 q1 q3 (x:=.ref t) rfl ?_);show Kh _ _ (if (J6.ref t==J6.none)=true then _ else _) _ _ s;rw[if_neg (show¬((J6.ref t==J6.none)=true) from G5)];show Kh _ _ (field (.ref j) 1>>=_) _ _ s;refine Kj (K6 q1 q3 (x:=.int i 0) rfl ?_);show Kh _ _ (seqItems? (.ref t)>>=_) _ _ s;refine Kj (Kp z1 z2 ?_);simp only[HL,hx];refine Kj (wpAny_setField q1 q3 ⇑_ (Kl ⟨x,rfl,Kl (k _ ?_ (Hy.update ..))⟩));exact⟨_,IS _ q1 (Ke.isFreed_of_fields (Ke.data_mapFields q3 _)),(Ke.cls_mapFields ..).trans q2,by rw[Ke.data_mapFields q3];simp [KN]⟩
theorem vZ {i:Nat}{Q:J6->Kd->Prop}(hh:A.handled=none)(g:s.heap.IsTupleIter j t i)(gt:s.heap.IsTuple t its)(hx:its[i]?=none)(k:∀h' e,Jb j s.heap h'->(∃o,h'.get? e=some o/\o.cls=.type "StopIteration")->E (.ref e) {s with heap:=h'}):Kh (Ki prog w) A (SmallTypes.nextOf (.ref j)) Q E s:=by
 obtain⟨o,q1,q2,q3⟩:=id g;obtain⟨u,z1,_,n,z2⟩:=gt;unfold SmallTypes.nextOf;refine Kj (wpAny_callSpecial?_slot (name:=Str.ofString "__next__") g.typeIs F.slot_tuple_iterator_next (Kk F.slot_tuple_iterator_next g.typeIs F.entry_tuple_iterator_next ?_ (F.args_tuple_iterator_next_1 _)));show Kh _ _ (field (.ref j) 0>>=_) _ _ s;refine Kj (K6 q1 q3 (x:=.ref t) rfl ?_);show Kh _ _ (if (J6.ref t==J6.none)=true then _ else _) _ _ s;rw[if_neg (show¬((J6.ref t==J6.none)=true) from G5)];show Kh _ _ (field (.ref j) 1>>=_) _ _ s;refine Kj (K6 q1 q3 (x:=.int i 0) rfl ?_);show Kh _ _ (seqItems? (.ref t)>>=_) _ _ s;refine Kj (Kp z1 z2 ?_);simp only[HL,hx];refine Kj (Km (Kj (wpAny_setField q1 q3 ⇑_ ?_)));show Kh _ _ (newExc (.type "StopIteration") []>>=_) _ _ _;refine Kj ?_;simp only[newExc,newTuple];refine Kj (K7 ?_ (by size_fits));refine Kj (m:=firstArgMember _ _) (wpAny_of_eq (a:=J6.none) (by first|rfl|(simp only[firstArgMember];rfl)) (K7 ?_ (by size_fits)));simp only[raiseNew];refine Kj (wpAny_handled ?_)
 first|rw[show A.in1.handled=none from hh]|rw[hh]
 exact Kj (Kl (wpAny_throw (k _ _ (((Hy.update ..).extBut.push _).push _) ⟨_,He _ rfl,rfl⟩)))
end
theorem iU {prog:J8}{w:J9}{A:Kf}(hh:A.handled=none)(j t:Kb)(hne:t≠j)(its:Array J6):Draws prog w A j [j,t] its.size (λi v=>its[i]?=some v) (λi h=>h.IsTupleIter j t i/\h.IsTuple t its) where
 live:=λ_ _ st=>let ⟨o,q,_⟩:=st.1;⟨o,q⟩
 frame:=λ_ _ _ st k=>⟨let ⟨o,q,r⟩:=st.1;⟨o,k j ⇑_ o q,r⟩,let ⟨o,q,r⟩:=st.2;⟨o,k t ⇑_ o q,r⟩⟩
 item:=λi s Q E hi st k=>vY st.1 st.2 (x:=its[i]) (by simp [hi]) λh' a b=>k _ h' s.toks (by simp [hi]) ⟨a,st.2.extBut b.extBut hne⟩ b
 done:=λs Q E st k=>vZ hh st.1 st.2 ⇑_ k
theorem QS (p:IsTup h a its):h.IsTuple a its:=p
set_option maxRecDepth 100000 in
theorem p7 (l:Kb)(its:Array J6)(n:Nat)(dct:Option Kb)(sl:Array (Option J6)):
  Meets (J7.«enumerate.__new__» ⟨[.type "enumerate",.ref l],[]⟩) (λ_ R s=>s.heap.get? l=some {cls:=.type "tuple",dict:=dct,data:=.seq its n,slots:=sl}/\
   R (.ok (.ret (.ref (s.heap.push {cls:=.type "tuple_iterator",data:=.fields #[.ref l,.int 0 0]}).objs.size))) {s with heap:=(s.heap.push {cls:=.type "tuple_iterator",data:=.fields #[.ref l,.int 0 0]}).push {cls:=.type "enumerate",data:=.fields #[.none,.bool false,.ref ↥s,KN 0,.none,.none]}}):=
 .of_wp λprog w A R s h=>by
  obtain⟨hp,g,d,tk,os⟩:=s;obtain⟨hl,h⟩:=h;have hsub:=sub_enumerate;have hT:Ka.IsTuple (Kd.heap ⟨hp,g,d,tk,os⟩) l its:=⟨_,hl,rfl,n,rfl⟩
  wp_walk using AutoSeq1.wpAny_loadPart' hl
  refine wpAny_stack_any λst=>Kl ?_;split
  ·rename_i c _ _ _ _ _;cases (c==J6.type "enumerate")<;>(wp_walk using AutoSeq1.wpAny_loadPart' hl,KO hT;exact⟨_,rfl,h⟩)
  ·wp_walk using AutoSeq1.wpAny_loadPart' hl,KO hT
   exact⟨_,rfl,h⟩
section
variable {prog:J8}{w:J9}{A:Kf}{E:J6->Kd->Prop}{s:Kd}
theorem sx {Q:J6->Kd->Prop}(hT:s.heap.IsTuple l its)
  (k:∀h',IsEnum h' (↥s+1) ↥s 0 .none->h'.IsTupleIter ↥s l 0->h'.objs.size=↥s+2->(∀b o,s.heap.get? b=some o->h'.get? b=some o)->Q (.ref (↥s+1)) {s with heap:=h'}):
  Kh (Ki prog w) A (call (.type "enumerate") [.ref l]) Q E s:=by
 obtain⟨⟨c,dct,dt,sl⟩,hl,hc,n,hd⟩:=hT
 replace hc:c=.type "tuple":=hc
 replace hd:dt=.seq its n:=hd
 subst hc hd;refine callType_new F.called_enumerate ↥_ (F.typeCall_enumerate_1 _) (F.newCall_enumerate_1 _) (λobj=>F.args_object_init_2 obj _) F.entry_enumerate_new (p7 l its n dct sl) ⟨hl,?_⟩;have hz:(s.heap.push {cls:=.type "tuple_iterator",data:=.fields #[.ref l,.int 0 0]}).objs.size=↥s+1:=Hz ..;show _/\_;rw[hz];have he:IsEnum ((s.heap.push {cls:=.type "tuple_iterator",data:=.fields #[.ref l,.int 0 0]}).push {cls:=.type "enumerate",data:=.fields #[.none,.bool false,.ref ↥s,KN 0,.none,.none]}) (↥s+1) ↥s 0 .none:=by
  have z:=He (s.heap.push {cls:=.type "tuple_iterator",data:=.fields #[.ref l,.int 0 0]}) (o:={cls:=.type "enumerate",data:=.fields #[.none,.bool false,.ref ↥s,KN 0,.none,.none]}) rfl;rw[hz] at z;exact z
 refine⟨⟨_,he,rfl⟩,k _ he ⟨_,GZ _ (He _ rfl),rfl,rfl⟩ (by rw[Hz,hz]) λb o x=>GZ _ (GZ _ x)⟩
end
noncomputable def IteT (K:Zf)(a:Kb):It:=
 ⟨λi H=> ∃xs x,SqT K H a xs/\xs[i]?=some x,λi H v H'=> ∃T x,H T=none/\v=.ref T/\(∀xs,SqT K H a xs->xs[i]?=some x)/\H'=upd H T (.tup [.int i,x]),λi H=> ∃xs,SqT K H a xs/\xs.length=i⟩
theorem qR {P:J8}{w:J9}{K:Zf}{elts:List Expr}{x1}{tpos:Kx}(a e it:Kb)(hei:e≠it):LX P w K (.Tuple elts x1 tpos) (IteT K a) [e,it] e (λi h=>(∃old,IsEnum h e it i old)/\h.IsTupleIter it a i) where
 mem:=⇑_
 obj:=λi h st b hb=>by
  obtain⟨⟨old,he⟩,st⟩:=st;rcases GR.mp hb with rfl|hb
  ·exact⟨_,he,λv z=>by cases z⟩
  ·have e':b=it:=by simpa using hb
   subst e';obtain⟨o,e,c,d⟩:=st;exact⟨o,e,λv z=>by rw[d] at z;cases z⟩
 keep:=λi h h' st k=>⟨let ⟨old,he⟩:=st.1;⟨old,k e ⇑_ _ he⟩,st.2.at λo e=>k it ⇑_ o e⟩
 item:=by
  intro X hP hw hK hc i pins s σ H E I hf st hg;subst hP hw hK;obtain⟨⟨old,he⟩,st⟩:=st;obtain⟨xs,x,hq,hx⟩:=hg;obtain⟨its,rv,p,hz⟩:=I.tuple hq;obtain⟨u,hu,ru⟩:=rv.get hx;have fe:=hf e ⇑_;have fi:=hf it ⇑_;obtain⟨oi,hoi,hoc,hod⟩:=id st;have nai:a≠it:=λz=>by
   obtain⟨o,h1,h2,_⟩:=(QS p)
   rw[z,hoi] at h1;cases h1;rw[hoc] at h2;exact absurd h2 ↥_
  have nae:e≠a:=λz=>by
   obtain⟨o,h1,h2,_⟩:=(QS p)
   rw[<-z,show s.heap.get? e=_ from he] at h1;cases h1;exact absurd (show J6.type "enumerate"=J6.type "tuple" from h2) ↥_
  have D:=iU (prog:=X.prog) (w:=X.w) (A:=X.A.in1) (I.ok.hd hc) it a nai its.toArray
  refine wpAny_pyNext_enum_itemD D he ⟨st,(QS p)⟩ (by
   have:=G1.mp hu;obtain⟨z,_⟩:=this
   simpa using z) hei (by simp [hei,nae]) λv h' tk hP hout hst hT hsz hk=>?_
  have hv:v=u:=by
   have hP:its.toArray[i]?=some v:=hP;rw[Ja,hu] at hP;exact (Option.some.inj hP).symm
  subst hv;have nT:H ↥s=none:=I.hok.fresh (GO _);have lt: ∀b o,s.heap.get? b=some o->b≠↥s:=λb o q=>G7 (GU q);have ltH: ∀b o,H b=some o->b≠↥s:=λb o q z=>by rw[z,nT] at q;cases q
  have neH: ∀b o,H b=some o->b≠e/\b≠it:=λb o q=>⟨λz=>by (rw[z,fe.1] at q;cases q),λz=>by (rw[z,fi.1] at q;cases q)⟩
  have I1:Inv X pins σ (upd H ↥s (.tup [.int i,x])) {s with heap:=h',toks:=tk+1}:=by
   refine I.call' (s':={s with heap:=h',toks:=tk+1}) (ch:=[e,it]) rfl ⟨λb o q n hb hx=>?_,λb o q n hb hx=>?_,λb o q n hx=>?_,λb o q hx=>?_,λb xs q=>?_,λb o u q=>?_,λb ps q=>?_⟩ (λb o q=>?_) I.bare λb hb=>?_
   ·exact hk b o (λz=>hx (by simp [z])) (λz=>hx (by simp [z])) q
   ·exact⟨o.slots,hk b o (λz=>hx (by simp [z])) (λz=>hx (by simp [z])) q⟩
   ·rw[ai (lt b o q)];exact n
   ·exact⟨o,hk b o (λz=>hx (by simp [z])) (λz=>hx (by simp [z])) q⟩
   ·rw[ai (ltH b _ q)];exact q
   ·rw[ai (ltH b _ q)];exact q
   ·exact⟨#[],by rw[ai (ltH b _ q),q];simp⟩
   ·by_cases hb:b=↥s
    ·subst hb;rw[ay] at q;cases q;exact⟨by show 2<=sizeLine;decide,_,.cons ⟨tk,rfl⟩ (.cons ru .nil),⟨_,hT,rfl,_,rfl⟩,_,hT,rfl⟩
    ·rw[ai hb] at q;refine (I.hok b o q).stay (λc v hc r=>?_) (λc r=>by rw[ai (ltH c _ r)];exact r) λc xs r=>by rw[ai (ltH c _ r)];exact r
     have: ∃o,H c=some o:=by
      rcases hc with rfl|hc
      ·exact⟨o,q⟩
      ·exact⟨_,hc⟩
     obtain⟨o',qo⟩:=this;exact hk c v (neH c o' qo).1 (neH c o' qo).2 r
   ·have fb:LC X pins H b:=by
     rcases GR.mp hb with rfl|hb
     ·exact fe
     ·have e':b=it:=by simpa using hb
      subst e';exact fi
    exact⟨fb.2.2.2.1,fb.2.1,fb.2.2.2.2.1,fb.2.2.2.2.2⟩
  refine⟨_,rfl,wpAny_letOwnedTupleGo_enum (s:={s with heap:=h',toks:=tk+1}) hout λh2 he2 hs2=>?_⟩;have neT: ∀b∈[e,it],b≠↥s:=λb hb=>by
   rcases GR.mp hb with rfl|hb
   ·exact lt _ _ he
   ·have e':b=it:=by simpa using hb
    subst e';exact lt _ _ hoi
  have fe':(upd H ↥s (.tup [.int i,x])) e=none:=by rw[ai (neT e ⇑_)];exact fe.1
  refine⟨.ref ↥s,upd H ↥s (.tup [.int i,x]),?_,rfl,⟨↥s,x,nT,rfl,λys hy=>by rw[I.tuple_inj hy hq];exact hx,rfl⟩,⟨⟨_,by simpa using he2⟩,hst.1.at λo eo=>(hs2.2 it (Ne.symm hei)).trans eo⟩,λb hb=>?_⟩
  ·exact I1.turned (t':=tk+1) (λb o hb eo=>(hs2.2 b hb).trans eo) fe' fe.2.1 fe.2.2.2.1 fe.2.2.2.2.1 fe.2.2.2.2.2
  ·rw[ai (neT b hb)];exact (hf b hb).1
 done:=by
  intro X hP hw hK hc i pins s σ H E I hf st hg;subst hP hw hK;obtain⟨⟨old,he⟩,st⟩:=st;obtain⟨xs,hq,hx⟩:=hg;obtain⟨its,rv,p,hz⟩:=I.tuple hq;have fi:=hf it ⇑_;obtain⟨oi,hoi,hoc,hod⟩:=id st;have nai:a≠it:=λz=>by
   obtain⟨o,h1,h2,_⟩:=(QS p)
   rw[z,hoi] at h1;cases h1;rw[hoc] at h2;exact absurd h2 ↥_
  have D:=iU (prog:=X.prog) (w:=X.w) (A:=X.A.in1) (I.ok.hd hc) it a nai its.toArray;have ei:i=its.toArray.size:=by rw[G4,<-rv.length];exact hx.symm
  refine wpAny_pyNext_enum_endD D he (by rw[<-ei];exact⟨st,(QS p)⟩) λh' eb=>⟨rfl,I.turned (t':=s.toks) (λb o hb e=>eb b o hb e) fi.1 fi.2.1 fi.2.2.2.1 fi.2.2.2.2.1 fi.2.2.2.2.2⟩
 self:=λ_ _ _ _ _ st h=>let ⟨_,he⟩:=st.1;Lg he h
section
variable {X:Cx}
noncomputable def D8 (K:Zf)(ta:TA):TI:=λσ H R=>ta σ H λvs H1=> ∃a,vs=[.ref a]/\(∃xs,SqT K H1 a xs)/\R (IteT K a) H1
theorem xb {x1}(hg:Gl X "enumerate")(hm:X.mg "enumerate"=none)(ha:PA X [a] ta)(hs:Kz [a] X.env=[(false,Kw a X.env)]:=by rfl):PI X (.Tuple elts x1 tpos) (.Call (.Name "enumerate" p) [a] [] pos) (D8 X.K ta):=by
 intro pins s σ H R I h;refine Call_ (im I hg hm boot_enumerate (PyProof.Rows.callWith_type1 (thn (ha pos pins s σ H _ I h) λus s1 qz=>?_) hs rfl));obtain⟨vs,H1,I1,r1,q1⟩:=qz;obtain⟨b,e,⟨xs,hq⟩,q⟩:=q1;subst e;cases r1 with
 |cons r rr=>
  cases rr;cases r;obtain⟨its,rv,pl,hz⟩:=I1.tuple hq;refine sx (QS pl) λh' he hi hsz hk=>?_;refine Lg he ?_;have I2:Inv X pins σ H1 {s1 with heap:=h'}:=I1.kept (t':=s1.toks) hk;refine⟨↥s1+1,[↥s1+1,↥s1],_,_,H1,rfl,I2,qR b _ _ ⇑_,⟨⟨_,he⟩,hi⟩,λc hc=>?_,q⟩;have hc':↥s1<=c:=by
   rcases GR.mp hc with rfl|hc
   ·exact HK _
   ·have:c=↥s1:=by simpa using hc
    exact H9 this.symm
  exact I1.fpOk hc' (I1.hok.fresh hc')
end
section
open Sem (wp)
open Builtin
noncomputable def ItAt (h:Ka)(T:String)(j l:Kb)(i:Nat):Prop:= ∃o,h.get? j=some o/\o.cls=.type T/\o.data=.fields #[.ref l,.int i 0]
noncomputable def SeqAt (h:Ka)(T:String)(l:Kb)(its:Array J6):Prop:=(T= "list_iterator"/\h.IsList l its)\/(T= "tuple_iterator"/\h.IsTuple l its)
theorem SeqAt.keep (x:SeqAt h T l its)(k:∀o,h.get? l=some o->h'.get? l=some o):SeqAt h' T l its:=
 x.imp (λ⟨e,o,a,b⟩=>⟨e,o,k o a,b⟩) λ⟨e,o,a,b⟩=>⟨e,o,k o a,b⟩
theorem ItAt.keep {i:Nat}(x:ItAt h T j l i)(k:∀o,h.get? j=some o->h'.get? j=some o):ItAt h' T j l i:=let ⟨o,a,b⟩:=x;⟨o,k o a,b⟩
theorem gf {prog:J8}{w:J9}{A:Kf}(hh:A.handled=none)(T:String)(j l:Kb)(hne:l≠j)(its:Array J6):Draws prog w A j [j,l] its.size (λi v=>its[i]?=some v) (λi h=>ItAt h T j l i/\SeqAt h T l its) where
 live:=λ_ _ st=>let ⟨o,q,_⟩:=st.1;⟨o,q⟩
 frame:=λ_ _ _ st k=>⟨st.1.keep λo q=>k j ⇑_ o q,st.2.keep λo q=>k l ⇑_ o q⟩
 item:=λi s Q E hi st k=>by
  obtain⟨a,⟨rfl,b⟩|⟨rfl,b⟩⟩:=st
  ·exact (Draws.list (prog:=prog) (w:=w) hh j l hne its).item i s Q E hi ⟨a,b⟩ λx h' tk p st sb=>k x h' tk p ⟨st.1,.inl ⟨rfl,st.2⟩⟩ sb
  ·exact (iU (prog:=prog) (w:=w) hh j l hne its).item i s Q E hi ⟨a,b⟩ λx h' tk p st sb=>k x h' tk p ⟨st.1,.inr ⟨rfl,st.2⟩⟩ sb
 done:=λs Q E st k=>by
  obtain⟨a,⟨rfl,b⟩|⟨rfl,b⟩⟩:=st
  ·exact (Draws.list (prog:=prog) (w:=w) hh j l hne its).done s Q E ⟨a,b⟩ k
  ·exact (iU (prog:=prog) (w:=w) hh j l hne its).done s Q E ⟨a,b⟩ k
section
variable {prog:J8}{w:J9}{A:Kf}{E:J6->Kd->Prop}{s:Kd}
theorem qj {Q:J6->Kd->Prop}(hl:SeqAt s.heap T l its)(k:Q (.ref ↥s) {s with heap:=s.heap.push {cls:=.type T,data:=.fields #[.ref l,.int 0 0]}}):Kh (Ki prog w) A (pyIter (.ref l)) Q E s:=by
 obtain⟨rfl,hl⟩|⟨rfl,hl⟩:=hl
 ·exact wpAny_pyIter_list hl k
 ·exact KO hl k
structure ZA (z TI TO i1 i2 l1 l2:Kb):Prop where
 a1:TI≠z
 a2:TO≠z
 a3:i1≠z
 a4:i2≠z
 a5:TI≠TO
 a6:TI≠i1
 a7:TI≠i2
 a8:TO≠i1
 a9:TO≠i2
 b1:i1≠i2
 b2:l1≠z
 b3:l1≠TO
 b4:l1≠i1
 b5:l1≠i2
 b6:l2≠z
 b7:l2≠TO
 b8:l2≠i1
 b9:l2≠i2
structure ZS (h:Ka)(z TI TO i1 i2 l1 l2:Kb)(T1 T2:String)(xs ys:Array J6)(n:Nat)(f0:J6):Prop where
 z:IsZip h z TI TO f0
 ti:Lh h TI (.ref i1) (.ref i2)
 to: ∃a b,Lh h TO a b
 u1:ItAt h T1 i1 l1 n
 u2:ItAt h T2 i2 l2 n
 s1:SeqAt h T1 l1 xs
 s2:SeqAt h T2 l2 ys
theorem vN {z TI TO i1 i2 l1 l2:Kb}{n:Nat}{Q:J6->Kd->Prop}(hh:A.handled=none)(D:ZA z TI TO i1 i2 l1 l2)(Z:ZS s.heap z TI TO i1 i2 l1 l2 T1 T2 xs ys n .none)(hx:xs[n]?=some x)(hy:ys[n]?=some y)
  (k:∀h' tk,ZS h' z TI TO i1 i2 l1 l2 T1 T2 xs ys (n+1) (KN ↥s)->Lh h' ↥s x y->h'.objs.size=↥s+1->(∀c o,c≠z->c≠TO->c≠i1->c≠i2->s.heap.get? c=some o->h'.get? c=some o)->Q (.ref ↥s) {s with heap:=h',toks:=tk}):
  Kh (Ki prog w) A (J7.«zip.__next__» ⟨[.ref z],[]⟩) (λfin s'=> ∃v,fin=.done (.ret v)/\Q v s') E s:=by
 obtain⟨hz,hti,⟨a,b,hto⟩,u1,u2,s1,s2⟩:=Z;have nx:n<xs.size:=(Jz.mp hx).1;have ny:n<ys.size:=(Jz.mp hy).1;show Kh _ _ (field (.ref z) 2>>=_) _ _ s;refine Kj (K6 hz rfl (x:=.bool false) rfl ?_);show Kh _ _ (field (.ref z) 3>>=_) _ _ s;refine Kj (K6 hz rfl (x:=.ref TI) rfl (Kj (Kp hti rfl ?_)));show Kh _ _ (SmallTypes.ownedTupleIsFree (.ref z)>>=_) _ _ s;refine Kj ?_;unfold SmallTypes.ownedTupleIsFree;refine Kj (K6 hz rfl (x:=.none) rfl (Kl ?_));simp only[if_true];refine Kj (Km (Kj (K6 hz rfl (x:=.ref TO) rfl (Kj (Li hz ⇑_ λh1 z1 e1=>?_)))))
 replace z1:IsZip h1 z TI TO .ellipsis:=z1
 refine Kj ?_;simp only[List.zipIdx_cons,List.zipIdx_nil,IC,List.forIn_nil];refine Kj (Kj (Lj ?_));show Kh _ _ (SmallTypes.nextOf (.ref i1)>>=_) _ _ _;refine Kj ((gf (prog:=prog) (w:=w) hh T1 i1 l1 D.b4 xs).item n _ _ _ nx ⟨u1.keep λo q=>e1.extBut _ _ D.a3 q,s1.keep λo q=>e1.extBut _ _ D.b2 q⟩ λx' h2 tk2 px st2 e2=>Kl ?_);have:x'=x:=Option.some.inj (px.symm.trans hx);subst this;have to2:Lh h2 TO a b:=e2.extBut _ _ D.a8 (e1.extBut _ _ D.a2 hto);refine Kj (Kp to2 rfl (Kj (Lk to2 λh3 to3 e3=>?_)))
 replace to3:Lh h3 TO x' b:=to3
 refine Kj (wpAny_letGo (Kl (Kj (Kj (Lj ?_)))));show Kh _ _ (SmallTypes.nextOf (.ref i2)>>=_) _ _ _;refine Kj ((gf (prog:=prog) (w:=w) hh T2 i2 l2 D.b9 ys).item n _ _ _ ny ⟨u2.keep λo q=>e3.extBut _ _ (Ne.symm D.a9) (e2.extBut _ _ (Ne.symm D.b1) (e1.extBut _ _ D.a4 q)),s2.keep λo q=>e3.extBut _ _ D.b7 (e2.extBut _ _ D.b8 (e1.extBut _ _ D.b6 q))⟩ λy' h4 tk4 py st4 e4=>Kl ?_);have:y'=y:=Option.some.inj (py.symm.trans hy);subst this;have to4:Lh h4 TO x' b:=e4.extBut _ _ D.a9 to3;refine Kj (Kp to4 rfl (Kj (Lk to4 λh5 to5 e5=>?_)))
 replace to5:Lh h5 TO x' y':=to5
 refine Kj (wpAny_letGo (Kl (Kl ?_)));refine Kj (Kp to5 rfl (Kj (wpAny_newTuple ?_)));have zs:h5.objs.size=↥s:=by rw[e5.1,e4.1,e3.1,e2.1,e1.1]
 have z5:IsZip h5 z TI TO .ellipsis:=e5.extBut _ _ (Ne.symm D.a2) (e4.extBut _ _ (Ne.symm D.a4) (e3.extBut _ _ (Ne.symm D.a2) (e2.extBut _ _ (Ne.symm D.a3) z1)));have k5: ∀c o,c≠z->c≠TO->c≠i1->c≠i2->s.heap.get? c=some o->h5.get? c=some o:=λc o c1 c2 c3 c4 e=>e5.extBut _ _ c2 (e4.extBut _ _ c4 (e3.extBut _ _ c2 (e2.extBut _ _ c3 (e1.extBut _ _ c1 e))));have zl:z<h5.objs.size:=GU z5;show Kh _ _ (SmallTypes.ownedTupleHandOut (.ref z) (.ref h5.objs.size)>>=_) _ _ _;refine Kj ?_;unfold SmallTypes.ownedTupleHandOut;have z6:IsZip (h5.push {cls:=.type "tuple",data:=.seq #[x',y']}) z TI TO .ellipsis:=GZ _ z5;refine Kj (Li z6 ⇑_ λh7 z7 e7=>?_)
 replace z7:IsZip h7 z TI TO (KN h5.objs.size):=z7
 refine Li z7 ⇑_ λh8 z8 e8=>?_
 replace z8:IsZip h8 z TI TO (KN h5.objs.size):=z8
 have up: ∀c o,c≠z->h5.get? c=some o->h8.get? c=some o:=λc o c1 e=>e8.extBut _ _ c1 (e7.extBut _ _ c1 (GZ _ e));have pr8:Lh h8 h5.objs.size x' y':=e8.extBut _ _ (Ix zl) (e7.extBut _ _ (Ix zl) (He _ rfl));have sz8:h8.objs.size=h5.objs.size+1:=by rw[e8.1,e7.1,Hz]
 rw[zs] at z8 pr8 sz8;refine Kl ⟨_,rfl,?_⟩;show Q (.ref h5.objs.size) _;rw[zs];refine k h8 _ ⟨z8,up _ _ D.a1 (k5 _ _ D.a1 D.a5 D.a6 D.a7 hti),⟨_,_,up _ _ D.a2 to5⟩,?_,?_,s1.keep λo q=>up _ _ D.b2 (k5 _ _ D.b2 D.b3 D.b4 D.b5 q),s2.keep λo q=>up _ _ D.b6 (k5 _ _ D.b6 D.b7 D.b8 D.b9 q)⟩ pr8 sz8 λc o c1 c2 c3 c4 e=>up c o c1 (k5 c o c1 c2 c3 c4 e)
 ·exact st2.1.keep λo q=>up _ _ D.a3 (e5.extBut _ _ (Ne.symm D.a8) (e4.extBut _ _ D.b1 (e3.extBut _ _ (Ne.symm D.a8) q)))
 ·exact st4.1.keep λo q=>up _ _ D.a4 (e5.extBut _ _ (Ne.symm D.a9) q)
theorem zf {z TI TO i1 i2 l1 l2:Kb}{n:Nat}{Q:Fin->Kd->Prop}(hh:A.handled=none)(D:ZA z TI TO i1 i2 l1 l2)(Z:ZS s.heap z TI TO i1 i2 l1 l2 T1 T2 xs ys n .none)(he:(n=xs.size/\n<=ys.size)\/(n<xs.size/\n=ys.size))
  (k:∀h' tk e,(∀c o,c≠z->c≠TO->c≠i1->c≠i2->s.heap.get? c=some o->h'.get? c=some o)->(∃o,h'.get? e=some o/\o.cls=.type "StopIteration")->E (.ref e) {s with heap:=h',toks:=tk}):
  Kh (Ki prog w) A (J7.«zip.__next__» ⟨[.ref z],[]⟩) Q E s:=by
 obtain⟨hz,hti,⟨a,b,hto⟩,u1,u2,s1,s2⟩:=Z;show Kh _ _ (field (.ref z) 2>>=_) _ _ s;refine Kj (K6 hz rfl (x:=.bool false) rfl ?_);show Kh _ _ (field (.ref z) 3>>=_) _ _ s;refine Kj (K6 hz rfl (x:=.ref TI) rfl (Kj (Kp hti rfl ?_)));show Kh _ _ (SmallTypes.ownedTupleIsFree (.ref z)>>=_) _ _ s;refine Kj ?_;unfold SmallTypes.ownedTupleIsFree;refine Kj (K6 hz rfl (x:=.none) rfl (Kl ?_));simp only[if_true];refine Kj (Km (Kj (K6 hz rfl (x:=.ref TO) rfl (Kj (Li hz ⇑_ λh1 z1 e1=>?_)))))
 replace z1:IsZip h1 z TI TO .ellipsis:=z1
 refine Kj ?_;simp only[List.zipIdx_cons,List.zipIdx_nil,IC,List.forIn_nil];refine Kj (Kj (Lj ?_));show Kh _ _ (SmallTypes.nextOf (.ref i1)>>=_) _ _ _;have st1:ItAt h1 T1 i1 l1 n/\SeqAt h1 T1 l1 xs:=⟨u1.keep λo q=>e1.extBut _ _ D.a3 q,s1.keep λo q=>e1.extBut _ _ D.b2 q⟩
 rcases he with⟨rfl,_⟩|⟨nx,hy⟩
 ·refine Kj ((gf (prog:=prog) (w:=w) hh T1 i1 l1 D.b4 xs).done _ _ _ st1 λh2 e e2 he=>?_);obtain⟨oe,g1,g2⟩:=he;have z2:IsZip h2 z TI TO .ellipsis:=e2 _ _ (Ne.symm D.a3) z1;have ez:e≠z:=λq=>by subst q;rw[z2] at g1;cases g1;simp at g2
  exact Li z2 ⇑_ λh3 _ e3=>k h3 _ e (λc o c1 _ c3 _ q=>e3.extBut _ _ c1 (e2 _ _ c3 (e1.extBut _ _ c1 q))) ⟨oe,e3.extBut _ _ ez g1,g2⟩
 ·refine Kj ((gf (prog:=prog) (w:=w) hh T1 i1 l1 D.b4 xs).item n _ _ _ nx st1 λx' h2 tk2 px st2 e2=>Kl ?_);have to2:Lh h2 TO a b:=e2.extBut _ _ D.a8 (e1.extBut _ _ D.a2 hto);refine Kj (Kp to2 rfl (Kj (Lk to2 λh3 to3 e3=>?_)));refine Kj (wpAny_letGo (Kl (Kj (Kj (Lj ?_)))));show Kh _ _ (SmallTypes.nextOf (.ref i2)>>=_) _ _ _;subst hy;refine Kj ((gf (prog:=prog) (w:=w) hh T2 i2 l2 D.b9 ys).done _ _ _ ⟨u2.keep λo q=>e3.extBut _ _ (Ne.symm D.a9) (e2.extBut _ _ (Ne.symm D.b1) (e1.extBut _ _ D.a4 q)),s2.keep λo q=>e3.extBut _ _ D.b7 (e2.extBut _ _ D.b8 (e1.extBut _ _ D.b6 q))⟩ λh4 e e4 he=>?_);obtain⟨oe,g1,g2⟩:=he;have z4:IsZip h4 z TI TO .ellipsis:=e4 _ _ (Ne.symm D.a4) (e3.extBut _ _ (Ne.symm D.a2) (e2.extBut _ _ (Ne.symm D.a3) z1));have ez:e≠z:=λq=>by subst q;rw[z4] at g1;cases g1;simp at g2
  exact Li z4 ⇑_ λh5 _ e5=>k h5 _ e (λc o c1 c2 c3 c4 q=>e5.extBut _ _ c1 (e4 _ _ c4 (e3.extBut _ _ c2 (e2.extBut _ _ c3 (e1.extBut _ _ c1 q))))) ⟨oe,e5.extBut _ _ ez g1,g2⟩
theorem xA {z TI TO i1 i2 l1 l2:Kb}{n:Nat}{Q:Option J6->Kd->Prop}(hh:A.in1.handled=none)(D:ZA z TI TO i1 i2 l1 l2)(Z:ZS s.heap z TI TO i1 i2 l1 l2 T1 T2 xs ys n .none)(hx:xs[n]?=some x)(hy:ys[n]?=some y)
  (k:∀h' tk,ZS h' z TI TO i1 i2 l1 l2 T1 T2 xs ys (n+1) (KN ↥s)->Lh h' ↥s x y->h'.objs.size=↥s+1->(∀c o,c≠z->c≠TO->c≠i1->c≠i2->s.heap.get? c=some o->h'.get? c=some o)->Q (some (.ref ↥s)) {s with heap:=h',toks:=tk}):
  Kh (Ki prog w) A (KL (.ref z)) Q E s:=by
 have hT:s.TypeIs (.ref z) "zip":=⟨_,Z.z,rfl⟩
 unfold KL;exact Kj (wpAny_attempt (wpAny_callSpecial?_slot (name:=Str.ofString "__next__") hT F.slot_zip_next (Kk F.slot_zip_next hT F.entry_zip_next (vN hh D Z hx hy λh' tk a1 a2 a3 a4=>Kl (k h' tk a1 a2 a3 a4)) (F.args_zip_next_1 _))))
theorem AY {z TI TO i1 i2 l1 l2:Kb}{n:Nat}{Q:Option J6->Kd->Prop}(hh:A.in1.handled=none)(D:ZA z TI TO i1 i2 l1 l2)(Z:ZS s.heap z TI TO i1 i2 l1 l2 T1 T2 xs ys n .none)(he:(n=xs.size/\n<=ys.size)\/(n<xs.size/\n=ys.size))
  (k:∀h' tk,(∀c o,c≠z->c≠TO->c≠i1->c≠i2->s.heap.get? c=some o->h'.get? c=some o)->Q none {s with heap:=h',toks:=tk}):Kh (Ki prog w) A (KL (.ref z)) Q E s:=by
 have hT:s.TypeIs (.ref z) "zip":=⟨_,Z.z,rfl⟩
 unfold KL;refine Kj (wpAny_attempt (wpAny_callSpecial?_slot (name:=Str.ofString "__next__") hT F.slot_zip_next (Kk F.slot_zip_next hT F.entry_zip_next (zf hh D Z he λh' tk e hk ⟨o,g1,g2⟩=>?_) (F.args_zip_next_1 _))));exact Kj (wpAny_isInstance (T:= "StopIteration") (b:=true) ⟨o,g1,g2⟩ isSubtype_stop (Kl (k _ _ hk)))
end
noncomputable abbrev zA (h:Ka)(T:String)(l:Kb):Ka:=h.push {cls:=.type T,data:=.fields #[.ref l,.int 0 0]}
theorem rQ (l1 l2:Kb)(T1 T2:String)(xs ys:Array J6):
  Meets (J7.«zip.__new__» ⟨[.type "zip",.ref l1,.ref l2],[]⟩) (λ_ R s=>SeqAt s.heap T1 l1 xs/\SeqAt s.heap T2 l2 ys/\
   R (.ok (.ret (.ref ((((zA (zA s.heap T1 l1) T2 l2).push {cls:=.type "tuple",data:=.seq #[.ref ↥s,.ref (zA s.heap T1 l1).objs.size]}).push {cls:=.type "tuple",data:=.seq #[.none,.none]}).objs.size))))
     {s with heap:=(((zA (zA s.heap T1 l1) T2 l2).push {cls:=.type "tuple",data:=.seq #[.ref ↥s,.ref (zA s.heap T1 l1).objs.size]}).push {cls:=.type "tuple",data:=.seq #[.none,.none]}).push {cls:=.type "zip",data:=.fields #[.none,.bool false,.bool false,.ref (zA (zA s.heap T1 l1) T2 l2).objs.size,.ref ((zA (zA s.heap T1 l1) T2 l2).push {cls:=.type "tuple",data:=.seq #[.ref ↥s,.ref (zA s.heap T1 l1).objs.size]}).objs.size]}}):=
 .of_wp λprog w A R s h=>by
  obtain⟨hp,g,d,tk,os⟩:=s;obtain⟨q1,q2,h⟩:=h;have hsub:=sub_zip;have r1:SeqAt (Kd.heap ⟨hp,g,d,tk,os⟩) T1 l1 xs:=q1;have r2:SeqAt (Kd.heap ⟨hp.push {cls:=.type T1,data:=.fields #[.ref l1,.int 0 0]},g,d,tk,os⟩) T2 l2 ys:=q2.keep λo e=>GZ _ e
  wp_walk using qj r1,qj r2
  exact⟨_,rfl,h⟩
section
variable {prog:J8}{w:J9}{A:Kf}{E:J6->Kd->Prop}{s:Kd}
theorem vI {Q:J6->Kd->Prop}(q1:SeqAt s.heap T1 l1 xs)(q2:SeqAt s.heap T2 l2 ys)
  (k:∀h',ZS h' (↥s+4) (↥s+2) (↥s+3) ↥s (↥s+1) l1 l2 T1 T2 xs ys 0 .none->h'.objs.size=↥s+5->(∀c o,s.heap.get? c=some o->h'.get? c=some o)->Q (.ref (↥s+4)) {s with heap:=h'}):
  Kh (Ki prog w) A (call (.type "zip") [.ref l1,.ref l2]) Q E s:=by
 refine callType_new F.called_zip ↥_ (F.typeCall_zip_2 _ _) (F.newCall_zip_2 _ _) (λobj=>F.args_object_init_3 obj _ _) F.entry_zip_new (rQ l1 l2 T1 T2 xs ys) ⟨q1,q2,?_⟩;have y1:(zA s.heap T1 l1).objs.size=↥s+1:=Hz ..;have y2:(zA (zA s.heap T1 l1) T2 l2).objs.size=↥s+2:=by rw[Hz,y1]
 generalize e2:zA (zA s.heap T1 l1) T2 l2=H2 at *;have y3:(H2.push {cls:=.type "tuple",data:=.seq #[.ref ↥s,.ref (zA s.heap T1 l1).objs.size]}).objs.size=↥s+3:=by rw[Hz,y2]
 have g3:(H2.push {cls:=.type "tuple",data:=.seq #[.ref ↥s,.ref (zA s.heap T1 l1).objs.size]}).get? H2.objs.size=some _:=He _ rfl;have up3: ∀c o,H2.get? c=some o->(H2.push {cls:=.type "tuple",data:=.seq #[.ref ↥s,.ref (zA s.heap T1 l1).objs.size]}).get? c=some o:=λc o e=>GZ _ e;generalize H2.push {cls:=.type "tuple",data:=.seq #[.ref ↥s,.ref (zA s.heap T1 l1).objs.size]}=H3 at *;have y4:(H3.push {cls:=.type "tuple",data:=.seq #[.none,.none]}).objs.size=↥s+4:=by rw[Hz,y3]
 have g4:(H3.push {cls:=.type "tuple",data:=.seq #[.none,.none]}).get? H3.objs.size=some _:=He _ rfl;have up4: ∀c o,H3.get? c=some o->(H3.push {cls:=.type "tuple",data:=.seq #[.none,.none]}).get? c=some o:=λc o e=>GZ _ e;generalize H3.push {cls:=.type "tuple",data:=.seq #[.none,.none]}=H4 at *;have y5:(H4.push {cls:=.type "zip",data:=.fields #[.none,.bool false,.bool false,.ref H2.objs.size,.ref H3.objs.size]}).objs.size=↥s+5:=by rw[Hz,y4]
 have g5:(H4.push {cls:=.type "zip",data:=.fields #[.none,.bool false,.bool false,.ref H2.objs.size,.ref H3.objs.size]}).get? H4.objs.size=some _:=He _ rfl;have up5: ∀c o,H4.get? c=some o->(H4.push {cls:=.type "zip",data:=.fields #[.none,.bool false,.bool false,.ref H2.objs.size,.ref H3.objs.size]}).get? c=some o:=λc o e=>GZ _ e;generalize H4.push {cls:=.type "zip",data:=.fields #[.none,.bool false,.bool false,.ref H2.objs.size,.ref H3.objs.size]}=H5 at *;have u2:H2.get? (↥s+1)=some {cls:=.type T2,data:=.fields #[.ref l2,.int 0 0]}:=by rw[<-e2,<-y1];exact He _ rfl
 have u1:H2.get? ↥s=some {cls:=.type T1,data:=.fields #[.ref l1,.int 0 0]}:=by rw[<-e2];exact GZ _ (He _ rfl)
 have kk: ∀c o,s.heap.get? c=some o->H2.get? c=some o:=λc o e=>by rw[<-e2];exact GZ _ (GZ _ e)
 have up: ∀c o,H2.get? c=some o->H5.get? c=some o:=λc o e=>up5 c o (up4 c o (up3 c o e));show _/\_;rw[y4] at g5 ⊢;rw[y2,y3] at g5;rw[y2,y1] at g3;rw[y3] at g4;exact⟨⟨_,g5,rfl⟩,k _ ⟨g5,up5 _ _ (up4 _ _ g3),⟨_,_,up5 _ _ g4⟩,⟨_,up _ _ u1,rfl,rfl⟩,⟨_,up _ _ u2,rfl,rfl⟩,q1.keep λo e=>up _ _ (kk _ _ e),q2.keep λo e=>up _ _ (kk _ _ e)⟩ y5 λc o e=>up c o (kk c o e)⟩
end
end
section
noncomputable def SqK (k:Bool)(K:Zf)(H:Hp)(a:Kb)(xs:List V):Prop:=match k with
 |true=>SqT K H a xs
 |false=>SqL K H a xs
noncomputable def tyK (k:Bool):String:=match k with
 |true=> "tuple_iterator"
 |false=> "list_iterator"
section
variable {X:Cx}{pins:List (Kb×Ke)}{σ:St}{H:Hp}{s:Kd}{a:Kb}{xs ys:List V}{k:Bool}
theorem Inv.seqK (I:Inv X pins σ H s)(h:SqK k X.K H a xs): ∃its:List J6,Vals xs its/\SeqAt s.heap (tyK k) a its.toArray:=by
 cases k with
 |false=>
  obtain⟨its,rv,p,_⟩:=I.list h;exact⟨its,rv,.inl ⟨rfl,p.isList⟩⟩
 |true=>
  obtain⟨its,rv,p,_⟩:=I.tuple h;exact⟨its,rv,.inr ⟨rfl,QS p⟩⟩
theorem Inv.seqK_inj (I:Inv X pins σ H s)(h:SqK k X.K H a xs)(g:SqK k X.K H a ys):xs=ys:=by
 cases k with
 |false=>exact I.list_inj h g
 |true=>exact I.tuple_inj h g
end
noncomputable def Itz (j k:Bool)(K:Zf)(a b:Kb):It:=
 ⟨λi H=> ∃xs ys x y,SqK j K H a xs/\SqK k K H b ys/\xs[i]?=some x/\ys[i]?=some y,λi H v H'=> ∃T x y,H T=none/\v=.ref T/\(∀xs ys,SqK j K H a xs->SqK k K H b ys->xs[i]?=some x/\ys[i]?=some y)/\H'=upd H T (.tup [x,y]),λi H=> ∃xs ys,SqK j K H a xs/\SqK k K H b ys/\min xs.length ys.length=i⟩
structure ZO (h:Ka)(z TI TO i1 i2 a b:Kb)(T1 T2:String)(n:Nat)(f0:J6):Prop where
 z:IsZip h z TI TO f0
 ti:Lh h TI (.ref i1) (.ref i2)
 to: ∃u v,Lh h TO u v
 u1:ItAt h T1 i1 a n
 u2:ItAt h T2 i2 b n
theorem ZO.keep {z TI TO i1 i2 a b:Kb}{n:Nat}(Z:ZO h z TI TO i1 i2 a b T1 T2 n f0)(k:∀c∈[z,TI,TO,i1,i2],∀o,h.get? c=some o->h'.get? c=some o):ZO h' z TI TO i1 i2 a b T1 T2 n f0:=
 ⟨k z ⇑_ _ Z.z,k TI ⇑_ _ Z.ti,let ⟨u,v,q⟩:=Z.to;⟨u,v,k TO ⇑_ _ q⟩,Z.u1.keep λo q=>k i1 ⇑_ o q,Z.u2.keep λo q=>k i2 ⇑_ o q⟩
theorem vW {P:J8}{w:J9}{K:Zf}{elts:List Expr}{x1}{tpos:Kx}{a b z TI TO i1 i2:Kb}{j k:Bool}(D:ZA z TI TO i1 i2 a b):LX P w K (.Tuple elts x1 tpos) (Itz j k K a b) [z,TI,TO,i1,i2] z (λi h=>ZO h z TI TO i1 i2 a b (tyK j) (tyK k) i .none) where
 mem:=⇑_
 obj:=λi h st c hc=>by
  simp only[GR,Hj,or_false] at hc;rcases hc with rfl|rfl|rfl|rfl|rfl
  ·exact⟨_,st.z,λv z=>by cases z⟩
  ·exact⟨_,st.ti,λv z=>by cases z⟩
  ·obtain⟨_,_,q⟩:=st.to;exact⟨_,q,λv z=>by cases z⟩
  ·obtain⟨o,e,c,d⟩:=st.u1;exact⟨o,e,λv z=>by rw[d] at z;cases z⟩
  ·obtain⟨o,e,c,d⟩:=st.u2;exact⟨o,e,λv z=>by rw[d] at z;cases z⟩
 keep:=λi h h' st kk=>st.keep kk
 item:=by
  intro X hP hw hK hc i pins s σ H E I hf st hg;subst hP hw hK;obtain⟨xs,ys,x,y,hq1,hq2,hx,hy⟩:=hg;obtain⟨is1,rv1,q1⟩:=I.seqK hq1;obtain⟨is2,rv2,q2⟩:=I.seqK hq2;obtain⟨u,hu,ru⟩:=rv1.get hx;obtain⟨v,hv,rv⟩:=rv2.get hy;have fz:=hf z ⇑_;have fO:=hf TO ⇑_;have f1:=hf i1 ⇑_;have f2:=hf i2 ⇑_;refine xA (I.ok.hd hc) D ⟨st.z,st.ti,st.to,st.u1,st.u2,q1,q2⟩ (by simpa using hu) (by simpa using hv) λh' tk Z' hT hsz hk=>?_;have nT:H ↥s=none:=I.hok.fresh (GO _);have lt: ∀c o,s.heap.get? c=some o->c≠↥s:=λc o q=>G7 (GU q);have ltH: ∀c o,H c=some o->c≠↥s:=λc o q z=>by rw[z,nT] at q;cases q
  have neH: ∀c o,H c=some o->c≠z/\c≠TO/\c≠i1/\c≠i2:=λc o q=>⟨λz=>by (rw[z,fz.1] at q;cases q),λz=>by (rw[z,fO.1] at q;cases q),λz=>by (rw[z,f1.1] at q;cases q),λz=>by (rw[z,f2.1] at q;cases q)⟩
  have hk': ∀c o,c ∉ [z,TO,i1,i2]->s.heap.get? c=some o->h'.get? c=some o:=λc o n q=>hk c o (λz=>n (by simp [z])) (λz=>n (by simp [z])) (λz=>n (by simp [z])) (λz=>n (by simp [z])) q;have I1:Inv X pins σ (upd H ↥s (.tup [x,y])) {s with heap:=h',toks:=tk}:=by
   refine I.call' (s':={s with heap:=h',toks:=tk}) (ch:=[z,TO,i1,i2]) rfl ⟨λb o q n hb hx=>?_,λb o q n hb hx=>?_,λb o q n hx=>?_,λb o q hx=>?_,λb xs q=>?_,λb o u q=>?_,λb ps q=>?_⟩ (λb o q=>?_) I.bare λb hb=>?_
   ·exact hk' b o hx q
   ·exact⟨o.slots,hk' b o hx q⟩
   ·rw[ai (lt b o q)];exact n
   ·exact⟨o,hk' b o hx q⟩
   ·rw[ai (ltH b _ q)];exact q
   ·rw[ai (ltH b _ q)];exact q
   ·exact⟨#[],by rw[ai (ltH b _ q),q];simp⟩
   ·by_cases hb:b=↥s
    ·subst hb;rw[ay] at q;cases q;exact⟨by show 2<=sizeLine;decide,_,.cons ru (.cons rv .nil),⟨_,hT,rfl,_,rfl⟩,_,hT,rfl⟩
    ·rw[ai hb] at q;refine (I.hok b o q).stay (λc v hc r=>?_) (λc r=>by rw[ai (ltH c _ r)];exact r) λc xs r=>by rw[ai (ltH c _ r)];exact r
     have: ∃o,H c=some o:=by
      rcases hc with rfl|hc
      ·exact⟨o,q⟩
      ·exact⟨_,hc⟩
     obtain⟨o',qo⟩:=this;obtain⟨n1,n2,n3,n4⟩:=neH c o' qo;exact hk c v n1 n2 n3 n4 r
   ·have fb:LC X pins H b:=by
     simp only[GR,Hj,or_false] at hb;rcases hb with rfl|rfl|rfl|rfl
     ·exact fz
     ·exact fO
     ·exact f1
     ·exact f2
    exact⟨fb.2.2.2.1,fb.2.1,fb.2.2.2.2.1,fb.2.2.2.2.2⟩
  refine⟨_,rfl,wpAny_letOwnedTupleGo_zip (s:={s with heap:=h',toks:=tk}) Z'.z λh2 hz2 hs2=>?_⟩;have nn: ∀c∈[z,TI,TO,i1,i2],c≠↥s:=λc hc=>by
   simp only[GR,Hj,or_false] at hc;rcases hc with rfl|rfl|rfl|rfl|rfl
   ·exact lt _ _ st.z
   ·exact lt _ _ st.ti
   ·obtain⟨_,_,q⟩:=st.to;exact lt _ _ q
   ·obtain⟨o,e,_⟩:=st.u1;exact lt _ _ e
   ·obtain⟨o,e,_⟩:=st.u2;exact lt _ _ e
  have fe':(upd H ↥s (.tup [x,y])) z=none:=by rw[ai (nn z ⇑_)];exact fz.1
  refine⟨.ref ↥s,upd H ↥s (.tup [x,y]),?_,rfl,⟨↥s,x,y,nT,rfl,λxs' ys' h1 h2=>by rw[I.seqK_inj h1 hq1,I.seqK_inj h2 hq2];exact⟨hx,hy⟩,rfl⟩,?_,λc hc=>?_⟩
  ·exact I1.turned (t':=tk) (λb o hb eo=>(hs2.2 b hb).trans eo) fe' fz.2.1 fz.2.2.2.1 fz.2.2.2.2.1 fz.2.2.2.2.2
  ·have up: ∀c o,c≠z->h'.get? c=some o->h2.get? c=some o:=λc o n q=>hs2.extBut _ _ n q;obtain⟨u',v',q⟩:=Z'.to;exact⟨hz2,up _ _ D.a1 Z'.ti,⟨u',v',up _ _ D.a2 q⟩,Z'.u1.keep λo q=>up _ _ D.a3 q,Z'.u2.keep λo q=>up _ _ D.a4 q⟩
  ·rw[ai (nn c hc)];exact (hf c hc).1
 done:=by
  intro X hP hw hK hc i pins s σ H E I hf st hg;subst hP hw hK;obtain⟨xs,ys,hq1,hq2,hx⟩:=hg;obtain⟨is1,rv1,q1⟩:=I.seqK hq1;obtain⟨is2,rv2,q2⟩:=I.seqK hq2;have l1:=rv1.length;have l2:=rv2.length;have fz:=hf z ⇑_;have fO:=hf TO ⇑_;have f1:=hf i1 ⇑_;have f2:=hf i2 ⇑_
  refine AY (I.ok.hd hc) D ⟨st.z,st.ti,st.to,st.u1,st.u2,q1,q2⟩ (by
   rw[G4,G4]
   omega) λh' tk hk=>⟨rfl,?_⟩
  refine I.call' (s':={s with heap:=h',toks:=tk}) (ch:=[z,TO,i1,i2]) rfl ⟨λb o q n hb hx=>?_,λb o q n hb hx=>?_,λb o q n hx=>n,λb o q hx=>?_,λb xs q=>q,λb o u q=>q,λb ps q=>⟨#[],by rw[q];simp⟩⟩ (λb o q=>?_) I.bare λb hb=>?_
  ·exact hk b o (λz=>hx (by simp [z])) (λz=>hx (by simp [z])) (λz=>hx (by simp [z])) (λz=>hx (by simp [z])) q
  ·exact⟨o.slots,hk b o (λz=>hx (by simp [z])) (λz=>hx (by simp [z])) (λz=>hx (by simp [z])) (λz=>hx (by simp [z])) q⟩
  ·exact⟨o,hk b o (λz=>hx (by simp [z])) (λz=>hx (by simp [z])) (λz=>hx (by simp [z])) (λz=>hx (by simp [z])) q⟩
  ·refine (I.hok b o q).stay (λc v hc r=>?_) (λc r=>r) λc xs r=>r;have: ∃o,H c=some o:=by
    rcases hc with rfl|hc
    ·exact⟨o,q⟩
    ·exact⟨_,hc⟩
   obtain⟨o',qo⟩:=this;exact hk c v (λz=>by rw[z,fz.1] at qo;cases qo) (λz=>by rw[z,fO.1] at qo;cases qo) (λz=>by rw[z,f1.1] at qo;cases qo) (λz=>by rw[z,f2.1] at qo;cases qo) r
  ·have fb:LC X pins H b:=by
    simp only[GR,Hj,or_false] at hb;rcases hb with rfl|rfl|rfl|rfl
    ·exact fz
    ·exact fO
    ·exact f1
    ·exact f2
   exact⟨fb.2.2.2.1,fb.2.1,fb.2.2.2.2.1,fb.2.2.2.2.2⟩
 self:=λ_ _ _ _ _ st h=>wpAny_pyIter_zip st.z h
section
variable {X:Cx}
noncomputable def iZip (j k:Bool)(K:Zf)(ta:TA):TI:=λσ H R=>ta σ H λvs H1=> ∃a b,vs=[.ref a,.ref b]/\(∃xs,SqK j K H1 a xs)/\(∃ys,SqK k K H1 b ys)/\R (Itz j k K a b) H1
theorem BF (n a b:Nat)(h1:a<n)(h2:b<n):(n+2≠n+4/\n+3≠n+4/\n≠n+4/\n+1≠n+4/\n+2≠n+3/\n+2≠n/\n+2≠n+1/\n+3≠n/\n+3≠n+1)/\(n≠n+1/\a≠n+4/\a≠n+3/\a≠n/\a≠n+1/\b≠n+4/\b≠n+3/\b≠n/\b≠n+1):=∅
theorem BE (h1:l1<n)(h2:l2<n):ZA (n+4) (n+2) (n+3) n (n+1) l1 l2:=
 by
 obtain⟨⟨a1,a2,a3,a4,a5,a6,a7,a8,a9⟩,b1,b2,b3,b4,b5,b6,b7,b8,b9⟩:=BF n l1 l2 h1 h2;exact⟨a1,a2,a3,a4,a5,a6,a7,a8,a9,b1,b2,b3,b4,b5,b6,b7,b8,b9⟩
theorem Cj {j k:Bool}{x1}(hg:Gl X "zip")(hm:X.mg "zip"=none)(ha:PA X [a,b] ta)(hs:Kz [a,b] X.env=[(false,Kw a X.env),(false,Kw b X.env)]:=by rfl)(hs2:Kz [b] X.env=[(false,Kw b X.env)]:=by rfl):PI X (.Tuple elts x1 tpos) (.Call (.Name "zip" p) [a,b] [] pos) (iZip j k X.K ta):=by
 intro pins s σ H R I h;refine Call_ (im I hg hm boot_zip (PyProof.Rows.callWith_type1 (thn (ha pos pins s σ H _ I h) λus s1 qz=>?_) (by rw[hs,hs2]) (by rw[hs2];rfl)));obtain⟨vs,H1,I1,r1,q1⟩:=qz;obtain⟨a',b',e,⟨xs,hq1⟩,⟨ys,hq2⟩,q⟩:=q1;subst e;obtain⟨u,v,rfl,ru,rv⟩:=r1.two;cases ru;cases rv;obtain⟨is1,rv1,t1⟩:=I1.seqK hq1;obtain⟨is2,rv2,t2⟩:=I1.seqK hq2;have lt: ∀ {T:String}{l:Kb}{u:Array J6},SeqAt s1.heap T l u->l<↥s1:=λ{T l u} h=>by
  rcases h with⟨_,o,e,_⟩|⟨_,o,e,_⟩<;>exact GU e
 refine vI t1 t2 λh' Z hsz hk=>wpAny_pyIter_zip Z.z ?_;have I2:Inv X pins σ H1 {s1 with heap:=h'}:=I1.kept (t':=s1.toks) hk;refine⟨↥s1+4,[↥s1+4,↥s1+2,↥s1+3,↥s1,↥s1+1],_,_,H1,rfl,I2,vW (j:=j) (k:=k) (BE (lt t1) (lt t2)),⟨Z.z,Z.ti,Z.to,Z.u1,Z.u2⟩,λc hc=>?_,q⟩;have hc':↥s1<=c:=by
  simp only[GR,Hj,or_false] at hc;rcases hc with rfl|rfl|rfl|rfl|rfl
  ·exact Hv _ _
  ·exact Hv _ _
  ·exact Hv _ _
  ·exact GO _
  ·exact Hv _ _
 exact I1.fpOk hc' (I1.hok.fresh hc')
end
end
section
open Builtin
section
variable {prog:J8}{w:J9}{A:Kf}{E:J6->Kd->Prop}
theorem qk (items:Array J6)(ns:List Int)(k:Int)(t:Tok)(j:Nat)(hv: ∀ (r:Nat) (x:Int),ns[r]?=some x-> ∃u,items[r]?=some (.int x u))(hj:ns[j]?=some k)(hn: ∀r,r<j->ns[r]?≠some k){Q:(Option Fin×Unit)->Kd->Prop}(s:Kd)(q:Q (some (.done (.ret (.int j s.toks))),()) {s with toks:=s.toks+1}):
  ∀ (m i:Nat),i+m=ns.length->i<=j->Kh (Ki prog w) A (forIn (Jc i m) ((none,()):Option Fin×Unit) (λ(i:Nat) _=>
   match items[i]? with
   |some y=>do
    let b<-eqBool y (J6.int k t)
    if b=true then do
      let r<-retInt ((i:Nat):Int)
      pure (ForInStep.done (some r,()))
     else pure (ForInStep.yield (none,()))
   |x=>pure (ForInStep.yield (none,())))) Q E s
 |0,i,h1,h2=>by
  have:=(G1.mp hj).1;omega
 |m+1,i,h1,h2=>by
  have hi:i<ns.length:=∅;obtain⟨x,hx⟩: ∃x,ns[i]?=some x:=⟨_,G0 hi⟩
  obtain⟨u,hu⟩:=hv i x hx;rw[List.range'_succ,IC];refine Kj ?_;simp only[hu];refine Kj (wpAny_eqBool_int ?_);by_cases e:i=j
  ·subst e;have:x=k:=Option.some.inj (hx.symm.trans hj);subst this;rw[if_pos ⇑_]
   wp_walk
   exact q
  ·have: ¬x=k:=λz=>hn i ∅ (by rw[hx,z]);rw[if_neg (by simpa using this)];exact Kl (qk items ns k t j hv hj hn s q m (i+1) ∅ ∅)
end
theorem uw (l:Kb)(items:Array J6)(n:Nat)(dd:Option Kb)(sl:Array (Option J6))(ns:List Int)(k:Int)(t:Tok)(j:Nat)(hz:items.size=ns.length)(hv: ∀ (r:Nat) (x:Int),ns[r]?=some x-> ∃u,items[r]?=some (.int x u))(hj:ns[j]?=some k)(hn: ∀r,r<j->ns[r]?≠some k):
  Meets (J7.«tuple.index» ⟨[.ref l,.int k t],[]⟩) (λ_ R s=>s.heap.get? l=some {cls:=.type "tuple",dict:=dd,data:=.seq items n,slots:=sl}/\R (.ok (.ret (.int j s.toks))) {s with toks:=s.toks+1}):=
 .of_wp λprog w A R s h=>by
  obtain⟨hp,g,d,tk,os⟩:=s;obtain⟨hl,h⟩:=h;have f1:=AutoSeq1.idx_int;have f2:=AutoSeq1.sub_tuple_tuple;unfold J7.«tuple.index»;simp only[Std.Legacy.Range.forIn_eq_forIn_range']
  wp_walk using AutoSeq1.wpAny_loadPart' hl
  have e:([:Min.min items.size items.size]:Std.Legacy.Range).size=ns.length:=by
   show (min items.size items.size - 0+1 - 1) / 1=_;rw[hz];simp
  rw[e];refine qk items ns k t j hv hj hn _ ?_ ns.length 0 ∅ (G8 _)
  wp_walk
  exact⟨_,rfl,h⟩
section
variable {X:Cx}
noncomputable def rTIdx (K:Zf):V->List V->Hp->VK->Prop:=λx vs H Q=> ∃ (a:Kb) (ns:List Int) (k:Int) (j:Nat),x=.ref a/\vs=[.int k]/\SqT K H a (ns.map V.int)/\ns[j]?=some k/\(∀r,r<j->ns[r]?≠some k)/\Q (.int j) H
theorem uU:MtM X "tuple.index" (rTIdx X.K):=by
 intro pins s σ H x vs v us Q I rx rv h;obtain⟨a,ns,k,j,rfl,rfl,hq,hj,hn,q⟩:=h;cases rx;obtain⟨u,rfl,ru⟩:=rv.one;obtain⟨t,rfl⟩:=ru;obtain⟨its,r,⟨⟨c,dd,dt,sl⟩,e1,e2,n,e3⟩,_⟩:=I.tuple hq
 replace e2:c=.type "tuple":=e2
 replace e3:dt=.seq its.toArray n:=e3
 subst e2 e3;have hl:=r.length;rw[GN] at hl;refine La F.slot_tuple_index ⟨_,e1,rfl⟩ F.entry_tuple_index (F.args_tuple_index_2 _ _) (uw a its.toArray n dd sl ns k t j (by rw[G4];exact hl.symm) (λr' x hx=>?_) hj hn) ⟨e1,.int j,H,I.tok _,⟨_,rfl⟩,q⟩;obtain⟨w,hw,rw'⟩:=r.get (show (ns.map V.int)[r']?=some (.int x) by rw[GW,hx];rfl);obtain⟨u,rfl⟩:=rw';exact⟨u,by simpa using hw⟩
noncomputable def Pf (K:Zf):R2:=λx y H Q=> ∃a b ys,x=.ref a/\y=.ref b/\SqT K H a []/\SqT K H b ys/\Q (.ref b) H
theorem OE:OpR X (KQ .Add) (Pf X.K):=by
 intro pins s σ H x y v u Q I rx ry h;obtain⟨a,b,ys,rfl,rfl,ha,hb,q⟩:=h;cases rx;cases ry;obtain⟨its,r1,⟨⟨cls,dd,data,sl⟩,ho,hc,n,hd⟩,_⟩:=I.tuple ha;obtain⟨its2,r2,⟨⟨cls2,dd2,data2,sl2⟩,ho2,hc2,n2,hd2⟩,_⟩:=I.tuple hb;have e:=r1.nil_iff.mpr rfl;subst e;simp only at hc hd hc2 hd2;subst hc hd hc2 hd2;exact concat_meets ⟨_,ho,rfl⟩ ⟨_,ho2,rfl⟩ noFill_tuple_add seq_tuple_add PySem.F.slot_tuple_add PySem.F.entry_tuple_add (PySem.F.args_tuple_add_2 _ _) (tuple_addW0 a b #[] its2.toArray n n2 dd dd2 sl sl2 rfl) ⟨ho,ho2,.ref b,H,I,rfl,q⟩
end
end
section
section
variable {X:Cx}
noncomputable def ji (K:Zf):Bool:=K.all λp=>match p.2.cls with
 |.type n=>!(n== "tuple")||p.2.dict.isNone
 |_=>true
theorem o6 {K:Zf}(h:ji K=true)(e:K.lookup a=some o)(c:o.cls=.type "tuple"):o.dict=none:=by
 have m: ∃b,(b,o)∈K:=by
  clear h c;revert e;show HJ a K=some o->_
  induction K with
  |nil=>intro e;cases e
  |cons p r ih=>
   intro e;obtain⟨b,u⟩:=p;rw[HC] at e;cases hb:(a==b) with
   |true=>rw[hb] at e;cases e;exact⟨b,GY⟩
   |false=>rw[hb] at e;obtain⟨c,hc⟩:=ih e;exact⟨c,G9 _ hc⟩
 obtain⟨b,hb⟩:=m;have q:=HD.mp h (b,o) hb;simp only[c] at q;cases hd:o.dict with
 |none=>rfl
 |some x=>rw[hd] at q;simp at q
noncomputable def ownT (K:Zf)(x:V)(H:Hp):Prop:= ∃a xs,x=.ref a/\SqT K H a xs
noncomputable def tTM (K:Zf)(r:V->List V->Hp->VK->Prop)(to:TE)(t:TA):TE:=λσ H Q=>to σ H λx H1=>ownT K x H1/\t σ H1 λxs H2=>r x xs H2 Q
variable {o e:Expr}{es:List Expr}{to:TE}{t:TA}{name:Str}{apos cpos:Kx}{id:String}{r:V->List V->Hp->VK->Prop}
theorem EK (hK:ji X.K=true)(pa:PlainAttrs "tuple")(slot:Slot "tuple" name id)(hty:typeOf (.builtin id)=pure (.type "method_descriptor"))(hm:MtR X id r)(ho:PE X o to)(ha:PA X (e::es) t)
  (hbase:KS o name X.env (Kw o X.env)=Kw o X.env:=by rfl)
  (hfew:((Ky cpos (Kz (e::es) X.env)).all (λx=>!x.1) && (KU cpos (KW [] X.env)).all (λx=>x.1.isSome) && decide ((e::es).length+([]:List K2).length+(if ([]:List K2).isEmpty then 0 else 1)<30))=true:=by rfl)
  (hline:(apos.endLine==cpos.line)=true:=by rfl)(hs:Kz (e::es) X.env=(false,Kw e X.env)::Kz es X.env:=by rfl)(hplain:(Ky cpos (Kz es X.env)).any (·.1)=false:=by rfl):
  PE X (.Call (.Attribute o name apos) (e::es) [] cpos) (tTM X.K r to t):=by
 intro pins s σ H Q I h;refine wpAny_Call_method_late hbase hfew hline rfl (thn (ho pins s σ H _ I h) λv s1 qz=>?_);obtain⟨x,H1,I1,r1,ty,q1⟩:=qz;obtain⟨a,xs,rfl,ea⟩:=ty;cases r1;have hh:(∃ob,s1.heap.get? a=some ob/\ob.cls=.type "tuple")/\ ∃ob,s1.heap.get? a=some ob/\ob.dict=none:=by
  rcases ea with ea|⟨o,its,n,hk,hc,_⟩
  ·obtain⟨_,its,_,⟨ob,g1,g2,_⟩,o2,g3,g4⟩:=ea.ok I1.hok;exact⟨⟨ob,g1,g2⟩,o2,g3,g4⟩
  ·exact⟨⟨o,I1.kIn a o hk,hc⟩,o,I1.kIn a o hk,o6 hK hk hc⟩
 obtain⟨⟨ob,g1,g2⟩,o2,g3,g4⟩:=hh;refine⟨"tuple",id,pa,slot,hty,⟨ob,g1,g2⟩,λb z=>by cases z;exact⟨o2,g3,g4⟩,?_⟩;have hA:=ha cpos pins s1 σ H1 _ I1 q1;rw[hs] at hA ⊢;refine Calls.callWith_builtin (by show (false||(Ky cpos (Kz es X.env)).any (·.1))=false;rw[hplain]<;>rfl) (Calls.evalArgs_plain ?_);exact thn hA λus s2 ⟨vs,H2,I2,r2,q2⟩=>hm pins s2 σ H2 (.ref a) vs _ us Q I2 rfl r2 q2
end
end
section
inductive W where
 |ty (n:String)|exc (c:Str)|cls (c:Str)|non|bl (b:Bool)|int (i:Int)|str (x:Str)
 |tup (l:List W)|tl (l:List W)|cl (l:List W)|dv (ks:List Key)(ws:List W)|dn (b:Bool)(ks:List PKy)(ws:List W)|kt (ks:List Key)|loc (k:Nat)
inductive Ob where
 |lst (l:List W)|dic (ks:List Key)(ws:List W)|dit (ks:List (List Key))(ws:List W)|din (b:Bool)(ks:List PKy)(ws:List W)|ins (c:Str)(ns:List Str)(ws:List W)|gone
structure Wo where
 mu:Nat->Kb
 h:List Ob
 H:Hp
noncomputable def Lv (o:Wo)(a:Kb):Prop:= ∃k b,o.h[k]?=some b/\b≠.gone/\o.mu k=a
noncomputable def FrL (K:Zf)(a:Kb)(xs:List V):Prop:= ∃ (o:Ke) (its:Array J6) (n:Nat),K.lookup a=some o/\o.cls=.type "list"/\o.dict=none/\o.data=.seq its n/\its.size<=sizeLine/\Vals xs its.toList
noncomputable def KeyN (K:Zf)(H:Hp)(b:Bool)(c:Kb)(k:PKy):Prop:= ∃d,SqT K H c (match b with
 |false=>[.int k.1,.ref d]
 |true=>[.ref d,.int k.1])/\SqT K H d (k.2.map V.int)
mutual
noncomputable def Rv (K:Zf)(o:Wo):W->V->Prop
 |.ty n,v=>v=.ty n
 |.exc c,v=> ∃a C,v=.ref a/\J5 K Ks c=some (some (.ref C))/\o.H a=some (excO a (.ref C))
 |.cls c,v=> ∃C,v=.ref C/\J5 K Ks c=some (some (.ref C))
 |.non,v=>v=.non
 |.bl b,v=>v=.bl b
 |.int i,v=>v=.int i
 |.str x,v=>v=.str x
 |.tup l,v=> ∃a vs,v=.ref a/\SqT K o.H a vs/\Rvs K o l vs
 |.tl l,v=> ∃a vs,v=.ref a/\o.H a=some (.lst vs)/\ ¬Lv o a/\Rvs K o l vs
 |.cl l,v=> ∃a vs,v=.ref a/\((Rd o.H a (.lst vs)/\ ¬Lv o a)\/FrL K a vs)/\Rvs K o l vs
 |.dv ks ws,v=> ∃a kvs,v=.ref a/\Rd o.H a (.dK kvs)/\ ¬Lv o a/\kvs.map (·.1)=ks/\Rvs K o ws (kvs.map (·.2))
 |.dn b ks ws,v=> ∃a,∃xs:List (PKy×Kb×V)×Nat,v=.ref a/\o.H a=some (.dN b xs.1 xs.2)/\ ¬Lv o a/\xs.1.map (·.1)=ks/\(∀x∈xs.1,KeyN K o.H b x.2.1 x.1)/\Rvs K o ws (xs.1.map (·.2.2))
 |.kt ks,v=> ∃a,v=.ref a/\o.H a=some (.tup (ks.map kV))
 |.loc k,v=>k<o.h.length/\v=.ref (o.mu k)
noncomputable def Rvs (K:Zf)(o:Wo):List W->List V->Prop
 |[],vs=>vs=[]
 |w::l,vs=> ∃v r,vs=v::r/\Rv K o w v/\Rvs K o l r
end
noncomputable def Ro (K:Zf)(o:Wo)(a:Kb):Ob->Prop
 |.lst l=> ∃vs,o.H a=some (.lst vs)/\Rvs K o l vs
 |.dic ks ws=> ∃kvs,o.H a=some (.dK kvs)/\kvs.map (·.1)=ks/\Rvs K o ws (kvs.map (·.2))
 |.dit ks ws=> ∃kvs,o.H a=some (.dT kvs)/\kvs.map (·.1)=ks/\Rvs K o ws (kvs.map (·.2))
 |.din b ks ws=> ∃xs:List (PKy×Kb×V)×Nat,o.H a=some (.dN b xs.1 xs.2)/\xs.1.map (·.1)=ks/\(∀x∈xs.1,KeyN K o.H b x.2.1 x.1)/\Rvs K o ws (xs.1.map (·.2.2))
 |.ins c ns ws=> ∃C dx fs,J5 K Ks c=some (some (.ref C))/\o.H a=some (.ins C dx fs)/\fs.map (·.1)=ns/\Rvs K o ws (fs.map (·.2))
 |.gone=>True
structure Rel (K:Zf)(o:Wo):Prop where
 ob: ∀k b,o.h[k]?=some b->Ro K o (o.mu k) b
 inj: ∀j k b c,o.h[j]?=some b->o.h[k]?=some c->b≠.gone->c≠.gone->o.mu j=o.mu k->j=k
structure Ex (o p:Wo):Prop where
 le:o.h.length<=p.h.length
 mu: ∀k,k<o.h.length->p.mu k=o.mu k
 fr: ∀a u,o.H a=some u-> ¬Lv o a->p.H a=some u/\ ¬Lv p a
theorem Ex.refl (o:Wo):Ex o o:=⟨GO _,λ_ _=>rfl,λ_ _ h n=>⟨h,n⟩⟩
theorem Ex.trans (a:Ex o p)(b:Ex p q):Ex o q:=⟨Hf a.le b.le,λk h=>(b.mu k (Ha h a.le)).trans (a.mu k h),λc u h n=>let ⟨h1,n1⟩:=a.fr c u h n;b.fr c u h1 n1⟩
section
variable {K:Zf}{o p:Wo}
theorem Lv.kind (R:Rel K o)(h:Lv o a):(∃vs,o.H a=some (.lst vs))\/(∃kvs,o.H a=some (.dK kvs))\/(∃C dx fs,o.H a=some (.ins C dx fs))\/(∃kvs,o.H a=some (.dT kvs))\/ ∃b,∃xs:List (PKy×Kb×V)×Nat,o.H a=some (.dN b xs.1 xs.2):=by
 obtain⟨k,b,hk,hb,rfl⟩:=h;have q:=R.ob k b hk;cases b with
 |lst l=>exact .inl (let ⟨vs,e,_⟩:=q;⟨vs,e⟩)
 |dic ks ws=>exact .inr (.inl (let ⟨vs,e,_⟩:=q;⟨vs,e⟩))
 |ins c ns ws=>exact .inr (.inr (.inl (let ⟨C,dx,fs,_,e,_⟩:=q;⟨C,dx,fs,e⟩)))
 |dit ks ws=>exact .inr (.inr (.inr (.inl (let ⟨vs,e,_⟩:=q;⟨vs,e⟩))))
 |din b ks ws=>exact .inr (.inr (.inr (.inr (let ⟨vs,e,_⟩:=q;⟨b,vs,e⟩))))
 |gone=>exact absurd rfl hb
theorem Ex.keep (X:Ex o p)(R:Rel K o)(h:o.H a=some u)(n1: ∀vs,u≠.lst vs)(n2: ∀kvs,u≠.dK kvs)(n3: ∀C dx fs,u≠.ins C dx fs)(n4: ∀kvs,u≠.dT kvs)(n5: ∀b (xs:List (PKy×Kb×V)×Nat),u≠.dN b xs.1 xs.2):p.H a=some u:=by
 refine (X.fr a u h λl=>?_).1;rcases l.kind R with⟨vs,e⟩|⟨vs,e⟩|⟨C,dx,fs,e⟩|⟨vs,e⟩|⟨b,vs,e⟩
 ·rw[h] at e;exact n1 vs (Option.some.inj e)
 ·rw[h] at e;exact n2 vs (Option.some.inj e)
 ·rw[h] at e;exact n3 C dx fs (Option.some.inj e)
 ·rw[h] at e;exact n4 vs (Option.some.inj e)
 ·rw[h] at e;exact n5 b vs (Option.some.inj e)
theorem Ex.rdT (X:Ex o p)(R:Rel K o)(h:SqT K o.H a vs):SqT K p.H a vs:=by
 rcases h with (h|⟨ob,h⟩)|h
 ·exact .inl (.inl (X.keep R h (λ_ z=>nomatch z) (λ_ z=>nomatch z) (λ_ _ _ z=>nomatch z) (λ_ z=>nomatch z) λ_ _ z=>nomatch z))
 ·exact .inl (.inr ⟨ob,X.keep R h (λ_ z=>nomatch z) (λ_ z=>nomatch z) (λ_ _ _ z=>nomatch z) (λ_ z=>nomatch z) λ_ _ z=>nomatch z⟩)
 ·exact .inr h
theorem KeyN.mono (X:Ex o p)(R:Rel K o){b:Bool}(h:KeyN K o.H b c k):KeyN K p.H b c k:=by
 obtain⟨d,h1,h2⟩:=h;exact⟨d,X.rdT R h1,X.rdT R h2⟩
theorem Ex.rd (X:Ex o p)(h:Rd o.H a u)(n:¬Lv o a):Rd p.H a u/\ ¬Lv p a:=by
 rcases h with h|⟨ob,h⟩
 ·exact⟨.inl (X.fr a _ h n).1,(X.fr a _ h n).2⟩
 ·exact⟨.inr ⟨ob,(X.fr a _ h n).1⟩,(X.fr a _ h n).2⟩
mutual
theorem Rv.mono (R:Rel K o)(X:Ex o p): ∀ (w:W) (v:V),Rv K o w v->Rv K p w v
 |.ty n,v,h=>h
 |.exc c,v,h=>by
  unfold Rv at h ⊢;obtain⟨a,C,e,h1,h2⟩:=h;exact⟨a,C,e,h1,X.keep R h2 (λ_ z=>nomatch z) (λ_ z=>nomatch z) (λ_ _ _ z=>nomatch z) (λ_ z=>nomatch z) λ_ _ z=>nomatch z⟩
 |.cls c,v,h=>by
  unfold Rv at h ⊢;exact h
 |.non,v,h=>h
 |.bl b,v,h=>h
 |.int i,v,h=>h
 |.str x,v,h=>h
 |.tup l,v,h=>by
  unfold Rv at h ⊢;obtain⟨a,vs,e,h1,h2⟩:=h;exact⟨a,vs,e,X.rdT R h1,Rvs.mono R X l vs h2⟩
 |.tl l,v,h=>by
  unfold Rv at h ⊢;obtain⟨a,vs,e,h1,n,h2⟩:=h;exact⟨a,vs,e,(X.fr a _ h1 n).1,(X.fr a _ h1 n).2,Rvs.mono R X l vs h2⟩
 |.cl l,v,h=>by
  unfold Rv at h ⊢;obtain⟨a,vs,e,h1,h2⟩:=h;refine⟨a,vs,e,?_,Rvs.mono R X l vs h2⟩;rcases h1 with⟨h1,n⟩|h1
  ·exact .inl (X.rd h1 n)
  ·exact .inr h1
 |.dv ks ws,v,h=>by
  unfold Rv at h ⊢;obtain⟨a,vs,e,h1,n,h2,h3⟩:=h;exact⟨a,vs,e,(X.rd h1 n).1,(X.rd h1 n).2,h2,Rvs.mono R X ws _ h3⟩
 |.dn b ks ws,v,h=>by
  unfold Rv at h ⊢;obtain⟨a,xs,e,h1,n,h2,hn,h3⟩:=h;exact⟨a,xs,e,(X.fr a _ h1 n).1,(X.fr a _ h1 n).2,h2,λx hx=>(hn x hx).mono X R,Rvs.mono R X ws _ h3⟩
 |.kt ks,v,h=>by
  unfold Rv at h ⊢;obtain⟨a,e,h⟩:=h;exact⟨a,e,X.keep R h (λ_ z=>nomatch z) (λ_ z=>nomatch z) (λ_ _ _ z=>nomatch z) (λ_ z=>nomatch z) λ_ _ z=>nomatch z⟩
 |.loc k,v,h=>by
  unfold Rv at h ⊢;exact⟨Ha h.1 X.le,by rw[X.mu k h.1];exact h.2⟩
theorem Rvs.mono (R:Rel K o)(X:Ex o p): ∀ (l:List W) (vs:List V),Rvs K o l vs->Rvs K p l vs
 |[],vs,h=>h
 |w::l,vs,h=>by
  unfold Rvs at h ⊢;obtain⟨v,r,e,h1,h2⟩:=h;exact⟨v,r,e,Rv.mono R X w v h1,Rvs.mono R X l r h2⟩
end
theorem Rel.keep (R:Rel K o)(X:Ex o p)(e1:p.h=o.h)(e2:p.mu=o.mu)(e3: ∀k b,o.h[k]?=some b->b≠.gone->p.H (o.mu k)=o.H (o.mu k)):Rel K p:=by
 refine⟨λk b hk=>?_,λj k b c h1 h2=>?_⟩
 ·rw[e1] at hk;rw[e2];have q:=R.ob k b hk;cases b with
  |lst l=>obtain⟨vs,h1,h2⟩:=q;exact⟨vs,by rw[e3 k _ hk ⇑_];exact h1,h2.mono R X⟩
  |dic ks ws=>obtain⟨vs,h1,h2,h3⟩:=q;exact⟨vs,by rw[e3 k _ hk ⇑_];exact h1,h2,h3.mono R X⟩
  |dit ks ws=>obtain⟨vs,h1,h2,h3⟩:=q;exact⟨vs,by rw[e3 k _ hk ⇑_];exact h1,h2,h3.mono R X⟩
  |din b ks ws=>obtain⟨vs,h1,h2,hn,h3⟩:=q;exact⟨vs,by rw[e3 k _ hk ⇑_];exact h1,h2,λx hx=>(hn x hx).mono X R,h3.mono R X⟩
  |ins c ns ws=>obtain⟨C,dx,fs,h0,h1,h2,h3⟩:=q;exact⟨C,dx,fs,h0,by rw[e3 k _ hk ⇑_];exact h1,h2,h3.mono R X⟩
  |gone=>trivial
 ·rw[e1] at h1 h2;rw[e2];exact R.inj j k b c h1 h2
theorem Lv.there (R:Rel K o)(h:Lv o a):o.H a≠none:=by
 rcases h.kind R with⟨vs,e⟩|⟨vs,e⟩|⟨C,dx,fs,e⟩|⟨vs,e⟩|⟨b,vs,e⟩<;>(rw[e];simp)
theorem Ex.new (h:o.H q=none):Ex o ⟨o.mu,o.h,upd o.H q u⟩:=by
 refine⟨GO _,λ_ _=>rfl,λa w e n=>⟨?_,n⟩⟩;show upd o.H q u a=some w;rw[ai (bq e h)];exact e
theorem Rel.new (R:Rel K o)(h:o.H q=none):Rel K ⟨o.mu,o.h,upd o.H q u⟩:=by
 refine R.keep (Ex.new h) rfl rfl λk b hk hb=>?_;have l:Lv o (o.mu k):=⟨k,b,hk,hb,rfl⟩
 show upd o.H q u (o.mu k)=_;rw[ai λz=>l.there R (by rw[z];exact h)]
theorem Ex.same (g:Same o.H H'):Ex o ⟨o.mu,o.h,H'⟩:=⟨GO _,λ_ _=>rfl,λa w e n=>⟨g a w e,n⟩⟩
theorem Rel.same (R:Rel K o)(g:Same o.H H'):Rel K ⟨o.mu,o.h,H'⟩:=by
 refine R.keep (Ex.same g) rfl rfl λk b hk hb=>?_;cases e:o.H (o.mu k) with
 |none=>exact absurd e (Lv.there R ⟨k,b,hk,hb,rfl⟩)
 |some u=>exact g _ _ e
noncomputable def Wo.add (o:Wo)(q:Kb)(b:Ob)(u:HO):Wo:=⟨λk=>if k=o.h.length then q else o.mu k,o.h++[b],upd o.H q u⟩
theorem Ex.add (h:o.H q=none):Ex o (o.add q b u):=by
 refine⟨by show _<=(o.h++[b]).length;simp,λk hk=>?_,λa w e n=>⟨?_,λl=>?_⟩⟩
 ·show (if k=o.h.length then q else o.mu k)=_;rw[if_neg ∅]
 ·show upd o.H q u a=some w;rw[ai (bq e h)];exact e
 ·obtain⟨k,c,hk,hc,ha⟩:=l;have ha:(if k=o.h.length then q else o.mu k)=a:=ha;have hk:(o.h++[b])[k]?=some c:=hk;by_cases z:k=o.h.length
  ·rw[if_pos z] at ha;exact absurd ha.symm (bq e h)
  ·rw[if_neg z] at ha;have hl:k<o.h.length:=by
    have:=(G1.mp hk).1;rw[GQ,Hq] at this;omega
   rw[Hg hl] at hk;exact n ⟨k,c,hk,hc,ha⟩
theorem Rel.add (R:Rel K o)(h:o.H q=none)(hb:Ro K (o.add q b u) q b):Rel K (o.add q b u):=by
 have X:Ex o (o.add q b u):=Ex.add h;have old: ∀ {k:Nat}{c:Ob},(o.add q b u).h[k]?=some c->k≠o.h.length->o.h[k]?=some c/\(o.add q b u).mu k=o.mu k:=λ{k c} hk z=>by
  have hk:(o.h++[b])[k]?=some c:=hk;have hl:k<o.h.length:=by
   have:=(G1.mp hk).1;rw[GQ,Hq] at this;omega
  rw[Hg hl] at hk;exact⟨hk,X.mu k hl⟩
 have new: ∀ {k:Nat}{c:Ob},(o.add q b u).h[k]?=some c->k=o.h.length->c=b/\(o.add q b u).mu k=q:=λ{k c} hk z=>by
  subst z;have hk:(o.h++[b])[o.h.length]?=some c:=hk;rw[HG (GO _),ID] at hk;exact⟨(Option.some.inj hk).symm,if_pos rfl⟩
 have ne: ∀ {k:Nat}{c:Ob},o.h[k]?=some c->c≠.gone->o.mu k≠q:=λ{k c} hk hc z=>Lv.there R ⟨k,c,hk,hc,rfl⟩ (by rw[z];exact h);refine⟨λk c hk=>?_,λj k c d h1 h2 n1 n2 e=>?_⟩
 ·by_cases z:k=o.h.length
  ·obtain⟨rfl,e⟩:=new hk z;rw[e];exact hb
  ·obtain⟨hk,e⟩:=old hk z;rw[e];have r:=R.ob k c hk;have st: ∀ {w:HO},c≠.gone->o.H (o.mu k)=some w->(o.add q b u).H (o.mu k)=some w:=λ{w} hc e=>by
    show upd o.H q u (o.mu k)=some w;rw[ai (ne hk hc)];exact e
   cases c with
   |lst l=>obtain⟨vs,h1,h2⟩:=r;exact⟨vs,st ⇑_ h1,h2.mono R X⟩
   |dic ks ws=>obtain⟨vs,h1,h2,h3⟩:=r;exact⟨vs,st ⇑_ h1,h2,h3.mono R X⟩
   |dit ks ws=>obtain⟨vs,h1,h2,h3⟩:=r;exact⟨vs,st ⇑_ h1,h2,h3.mono R X⟩
   |din b ks ws=>obtain⟨vs,h1,h2,hn,h3⟩:=r;exact⟨vs,st ⇑_ h1,h2,λx hx=>(hn x hx).mono X R,h3.mono R X⟩
   |ins c ns ws=>obtain⟨C,dx,fs,h0,h1,h2,h3⟩:=r;exact⟨C,dx,fs,h0,st ⇑_ h1,h2,h3.mono R X⟩
   |gone=>trivial
 ·by_cases z1:j=o.h.length
  ·by_cases z2:k=o.h.length
   ·omega
   ·obtain⟨_,e1⟩:=new h1 z1;obtain⟨hk,e2⟩:=old h2 z2;rw[e1,e2] at e;exact absurd e.symm (ne hk n2)
  ·obtain⟨hj,e1⟩:=old h1 z1;by_cases z2:k=o.h.length
   ·obtain⟨_,e2⟩:=new h2 z2;rw[e1,e2] at e;exact absurd e (ne hj n1)
   ·obtain⟨hk,e2⟩:=old h2 z2;rw[e1,e2] at e;exact R.inj j k c d hj hk n1 n2 e
theorem Rel.addL (R:Rel K o)(h:o.H q=none)(hl:Rvs K o l vs):Rel K (o.add q (.lst l) (.lst vs)):=R.add h ⟨vs,ay,hl.mono R (Ex.add h)⟩
theorem Rel.addD (R:Rel K o){ws:List W}(h:o.H q=none)(hk:kvs.map (·.1)=ks)(hl:Rvs K o ws (kvs.map (·.2))):Rel K (o.add q (.dic ks ws) (.dK kvs)):=R.add h ⟨kvs,ay,hk,hl.mono R (Ex.add h)⟩
theorem Rel.addT (R:Rel K o){ws:List W}(h:o.H q=none)(hk:kvs.map (·.1)=ks)(hl:Rvs K o ws (kvs.map (·.2))):Rel K (o.add q (.dit ks ws) (.dT kvs)):=R.add h ⟨kvs,ay,hk,hl.mono R (Ex.add h)⟩
noncomputable def Wo.put (o:Wo)(k:Nat)(b:Ob)(u:HO):Wo:=⟨o.mu,o.h.set k b,upd o.H (o.mu k) u⟩
theorem Lv.put {k:Nat}(hk:o.h[k]?=some c)(hc:c≠.gone)(h:Lv (o.put k b u) a):Lv o a:=by
 obtain⟨j,d,hj,hd,rfl⟩:=h;have hj:(o.h.set k b)[j]?=some d:=hj;by_cases z:j=k
 ·subst z;exact⟨j,c,hk,hc,rfl⟩
 ·rw[GP (Ne.symm z)] at hj;exact⟨j,d,hj,hd,rfl⟩
theorem Ex.put {k:Nat}(hk:o.h[k]?=some c)(hc:c≠.gone):Ex o (o.put k b u):=by
 refine⟨by show _<=(o.h.set k b).length;simp,λ_ _=>rfl,λa w e n=>⟨?_,λl=>n (l.put hk hc)⟩⟩;show upd o.H (o.mu k) u a=some w;rw[ai λz=>n ⟨k,c,hk,hc,z.symm⟩];exact e
theorem Rel.put (R:Rel K o){k:Nat}(hk:o.h[k]?=some c)(hc:c≠.gone)(hb:Ro K (o.put k b u) (o.mu k) b):Rel K (o.put k b u):=by
 have X:Ex o (o.put k b u):=Ex.put hk hc;have old: ∀ {j:Nat}{d:Ob},(o.put k b u).h[j]?=some d->j≠k->o.h[j]?=some d:=λ{j d} hj z=>by
  have hj:(o.h.set k b)[j]?=some d:=hj;rw[GP (Ne.symm z)] at hj;exact hj
 refine⟨λj d hj=>?_,λi j d e h1 h2 n1 n2 q=>?_⟩
 ·by_cases z:j=k
  ·subst z;have hl:=(G1.mp hk).1;have hj:(o.h.set j b)[j]?=some d:=hj;rw[HR hl] at hj;cases hj;exact hb
  ·have hj:=old hj z;have r:=R.ob j d hj;have st: ∀ {w:HO},d≠.gone->o.H (o.mu j)=some w->(o.put k b u).H (o.mu j)=some w:=λ{w} hd e=>by
    show upd o.H (o.mu k) u (o.mu j)=some w;rw[ai λq=>z (R.inj j k d c hj hk hd hc q)];exact e
   cases d with
   |lst l=>obtain⟨vs,h1,h2⟩:=r;exact⟨vs,st ⇑_ h1,h2.mono R X⟩
   |dic ks ws=>obtain⟨vs,h1,h2,h3⟩:=r;exact⟨vs,st ⇑_ h1,h2,h3.mono R X⟩
   |dit ks ws=>obtain⟨vs,h1,h2,h3⟩:=r;exact⟨vs,st ⇑_ h1,h2,h3.mono R X⟩
   |din b ks ws=>obtain⟨vs,h1,h2,hn,h3⟩:=r;exact⟨vs,st ⇑_ h1,h2,λx hx=>(hn x hx).mono X R,h3.mono R X⟩
   |ins c ns ws=>obtain⟨C,dx,fs,h0,h1,h2,h3⟩:=r;exact⟨C,dx,fs,h0,st ⇑_ h1,h2,h3.mono R X⟩
   |gone=>trivial
 ·have ex: ∀ {j:Nat}{d:Ob},(o.put k b u).h[j]?=some d->d≠.gone-> ∃d',o.h[j]?=some d'/\d'≠.gone:=λ{j d} hj n=>by
   by_cases z:j=k
   ·subst z;exact⟨c,hk,hc⟩
   ·exact⟨d,old hj z,n⟩
  obtain⟨d',h1',n1'⟩:=ex h1 n1;obtain⟨e',h2',n2'⟩:=ex h2 n2;exact R.inj i j d' e' h1' h2' n1' n2' q
theorem Rel.putL (R:Rel K o){k:Nat}(hk:o.h[k]?=some c)(hc:c≠.gone)(hl:Rvs K o l vs):Rel K (o.put k (.lst l) (.lst vs)):=R.put hk hc ⟨vs,ay,hl.mono R (Ex.put hk hc)⟩
theorem Rel.putD (R:Rel K o){k:Nat}{ws:List W}(hk:o.h[k]?=some c)(hc:c≠.gone)(h1:kvs.map (·.1)=ks)(hl:Rvs K o ws (kvs.map (·.2))):Rel K (o.put k (.dic ks ws) (.dK kvs)):=R.put hk hc ⟨kvs,ay,h1,hl.mono R (Ex.put hk hc)⟩
theorem Rel.putT (R:Rel K o){k:Nat}{ws:List W}(hk:o.h[k]?=some c)(hc:c≠.gone)(h1:kvs.map (·.1)=ks)(hl:Rvs K o ws (kvs.map (·.2))):Rel K (o.put k (.dit ks ws) (.dT kvs)):=R.put hk hc ⟨kvs,ay,h1,hl.mono R (Ex.put hk hc)⟩
noncomputable def Wo.ice (o:Wo)(k:Nat):Wo:=⟨o.mu,o.h.set k .gone,o.H⟩
theorem Lv.ice {k:Nat}(h:Lv (o.ice k) a): ∃j b,j≠k/\o.h[j]?=some b/\b≠.gone/\o.mu j=a:=by
 obtain⟨j,d,hj,hd,e⟩:=h;have hj:(o.h.set k .gone)[j]?=some d:=hj;by_cases z:j=k
 ·subst z;have hl:=(G1.mp hj).1;rw[Hb] at hl;rw[HR hl] at hj;cases hj;exact absurd rfl hd
 ·rw[GP (Ne.symm z)] at hj;exact⟨j,d,z,hj,hd,e⟩
theorem Ex.ice {k:Nat}:Ex o (o.ice k):=by
 refine⟨by show _<=(o.h.set k .gone).length;simp,λ_ _=>rfl,λa w e n=>⟨e,λl=>?_⟩⟩;obtain⟨j,b,_,h1,h2,h3⟩:=l.ice;exact n ⟨j,b,h1,h2,h3⟩
theorem Rel.ice (R:Rel K o){k:Nat}:Rel K (o.ice k):=by
 have X:Ex o (o.ice k):=Ex.ice;have old: ∀ {j:Nat}{d:Ob},(o.ice k).h[j]?=some d->d≠.gone->o.h[j]?=some d:=λ{j d} hj n=>by
  have hj:(o.h.set k .gone)[j]?=some d:=hj;by_cases z:j=k
  ·subst z;have hl:=(G1.mp hj).1;rw[Hb] at hl;rw[HR hl] at hj;cases hj;exact absurd rfl n
  ·rw[GP (Ne.symm z)] at hj;exact hj
 refine⟨λj d hj=>?_,λi j d e h1 h2 n1 n2 q=>R.inj i j d e (old h1 n1) (old h2 n2) n1 n2 q⟩;cases d with
 |lst l=>obtain⟨vs,h1,h2⟩:=R.ob j _ (old hj ⇑_);exact⟨vs,h1,h2.mono R X⟩
 |dic ks ws=>obtain⟨vs,h1,h2,h3⟩:=R.ob j _ (old hj ⇑_);exact⟨vs,h1,h2,h3.mono R X⟩
 |dit ks ws=>obtain⟨vs,h1,h2,h3⟩:=R.ob j _ (old hj ⇑_);exact⟨vs,h1,h2,h3.mono R X⟩
 |din b ks ws=>obtain⟨vs,h1,h2,hn,h3⟩:=R.ob j _ (old hj ⇑_);exact⟨vs,h1,h2,λx hx=>(hn x hx).mono X R,h3.mono R X⟩
 |ins c ns ws=>obtain⟨C,dx,fs,h0,h1,h2,h3⟩:=R.ob j _ (old hj ⇑_);exact⟨C,dx,fs,h0,h1,h2,h3.mono R X⟩
 |gone=>trivial
theorem Rv.iceL (R:Rel K o){k:Nat}(hk:o.h[k]?=some (.lst l)):Rv K (o.ice k) (.tl l) (.ref (o.mu k)):=by
 obtain⟨vs,h1,h2⟩:=R.ob k _ hk;unfold Rv;refine⟨_,vs,rfl,h1,λz=>?_,h2.mono R Ex.ice⟩;obtain⟨j,b,n,q1,q2,q3⟩:=z.ice;exact n (R.inj j k b _ q1 hk q2 ⇑_ q3)
theorem Rv.iceD (R:Rel K o){k:Nat}{ws:List W}(hk:o.h[k]?=some (.dic ks ws)):Rv K (o.ice k) (.dv ks ws) (.ref (o.mu k)):=by
 obtain⟨vs,h1,h0,h2⟩:=R.ob k _ hk;unfold Rv;refine⟨_,vs,rfl,.inl h1,λz=>?_,h0,h2.mono R Ex.ice⟩;obtain⟨j,b,n,q1,q2,q3⟩:=z.ice;exact n (R.inj j k b _ q1 hk q2 ⇑_ q3)
theorem Rv.iceN (R:Rel K o){k:Nat}{b:Bool}{ws:List W}(hk:o.h[k]?=some (.din b ks ws)):Rv K (o.ice k) (.dn b ks ws) (.ref (o.mu k)):=by
 obtain⟨vs,h1,h0,hn,h2⟩:=R.ob k _ hk;unfold Rv;refine⟨_,vs,rfl,h1,λz=>?_,h0,λx hx=>(hn x hx).mono Ex.ice R,h2.mono R Ex.ice⟩;obtain⟨j,b,n,q1,q2,q3⟩:=z.ice;exact n (R.inj j k b _ q1 hk q2 ⇑_ q3)
theorem Rvs.len: ∀ {l:List W}{vs:List V},Rvs K o l vs->vs.length=l.length
 |[],_,h=>by unfold Rvs at h;rw[h];rfl
 |w::l,_,h=>by unfold Rvs at h;obtain⟨v,r,rfl,_,h2⟩:=h;rw[GT,GT,Rvs.len h2]
theorem Rvs.get: ∀ {l:List W}{vs:List V}{i:Nat}{w:W},Rvs K o l vs->l[i]?=some w-> ∃v,vs[i]?=some v/\Rv K o w v
 |[],_,_,_,_,e=>by simp at e
 |x::l,_,0,w,h,e=>by unfold Rvs at h;obtain⟨v,r,rfl,h1,h2⟩:=h;cases e;exact⟨v,rfl,h1⟩
 |x::l,_,i+1,w,h,e=>by unfold Rvs at h;obtain⟨v,r,rfl,h1,h2⟩:=h;obtain⟨u,q1,q2⟩:=Rvs.get (l:=l) (i:=i) (w:=w) h2 (by simpa using e);exact⟨u,by simpa using q1,q2⟩
theorem Rvs.nil:Rvs K o [] []:=by unfold Rvs;rfl
theorem Rvs.cons {w:W}{v:V}{l:List W}{vs:List V}(h:Rv K o w v)(t:Rvs K o l vs):Rvs K o (w::l) (v::vs):=by unfold Rvs;exact⟨v,vs,rfl,h,t⟩
theorem Rvs.app: ∀ {l m:List W}{vs us:List V},Rvs K o l vs->Rvs K o m us->Rvs K o (l++m) (vs++us)
 |[],_,_,_,h,t=>by unfold Rvs at h;rw[h];exact t
 |w::l,m,_,us,h,t=>by unfold Rvs at h;obtain⟨v,r,rfl,h1,h2⟩:=h;exact Rvs.cons h1 (Rvs.app h2 t)
theorem Rvs.take: ∀ {l:List W}{vs:List V} (n:Nat),Rvs K o l vs->Rvs K o (l.take n) (vs.take n)
 |[],_,n,h=>by unfold Rvs at h;rw[h,List.take_nil,List.take_nil];exact Rvs.nil
 |w::l,_,0,h=>by rw[HQ,HQ];exact Rvs.nil
 |w::l,_,n+1,h=>by unfold Rvs at h;obtain⟨v,r,rfl,h1,h2⟩:=h;exact Rvs.cons h1 (Rvs.take n h2)
theorem Rvs.drop: ∀ {l:List W}{vs:List V} (n:Nat),Rvs K o l vs->Rvs K o (l.drop n) (vs.drop n)
 |[],_,n,h=>by unfold Rvs at h;rw[h,List.drop_nil,List.drop_nil];exact Rvs.nil
 |w::l,_,0,h=>h
 |w::l,_,n+1,h=>by unfold Rvs at h;obtain⟨v,r,rfl,h1,h2⟩:=h;exact Rvs.drop n h2
theorem Rvs.set (hx:Rv K o x y): ∀ {l:List W}{vs:List V} (i:Nat),Rvs K o l vs->Rvs K o (l.set i x) (vs.set i y)
 |[],_,n,h=>by unfold Rvs at h;rw[h];exact Rvs.nil
 |w::l,_,0,h=>by unfold Rvs at h;obtain⟨v,r,rfl,h1,h2⟩:=h;exact Rvs.cons hx h2
 |w::l,_,n+1,h=>by unfold Rvs at h;obtain⟨v,r,rfl,h1,h2⟩:=h;exact Rvs.cons h1 (Rvs.set hx n h2)
noncomputable abbrev Lx:=List (Option W)
noncomputable def RvO (K:Zf)(o:Wo):Option W->Option V->Prop
 |some w,s=> ∃v,s=some v/\Rv K o w v
 |none,s=>s=none
noncomputable def Re (K:Zf)(o:Wo):Lx->St->Prop
 |[],s=>s=[]
 |w::r,s=> ∃x t,s=x::t/\RvO K o w x/\Re K o r t
theorem RvO.mono (R:Rel K o)(X:Ex o p): ∀ {w:Option W}{s:Option V},RvO K o w s->RvO K p w s
 |some w,_,⟨v,e,h⟩=>⟨v,e,h.mono R X⟩
 |none,_,h=>h
theorem Re.mono (R:Rel K o)(X:Ex o p): ∀ {r:Lx}{s:St},Re K o r s->Re K p r s
 |[],_,h=>h
 |w::r,_,⟨x,t,e,h1,h2⟩=>⟨x,t,e,h1.mono R X,Re.mono R X h2⟩
theorem Re.get: ∀ {r:Lx}{s:St}{i:Nat}{w:W},Re K o r s->r[i]?=some (some w)-> ∃v,s[i]?=some (some v)/\Rv K o w v
 |[],_,_,_,_,e=>by simp at e
 |x::r,_,0,w,⟨y,t,rfl,h1,h2⟩,e=>by cases e;obtain⟨v,rfl,q⟩:=h1;exact⟨v,rfl,q⟩
 |x::r,_,i+1,w,⟨y,t,rfl,h1,h2⟩,e=>by obtain⟨u,q1,q2⟩:=Re.get (r:=r) (i:=i) (w:=w) h2 (by simpa using e);exact⟨u,by simpa using q1,q2⟩
theorem Re.set {w:W}(q:Rv K o w v): ∀ {r:Lx}{s:St} (i:Nat),Re K o r s->Re K o (r.set i (some w)) (s.set i (some v))
 |[],_,_,h=>by rw[show _=[] from h];rfl
 |x::r,_,0,⟨y,t,rfl,h1,h2⟩=>⟨_,_,rfl,⟨v,rfl,q⟩,h2⟩
 |x::r,_,i+1,⟨y,t,rfl,h1,h2⟩=>⟨_,_,rfl,h1,Re.set q i h2⟩
theorem Re.front: ∀ {r:Lx}{s:St} (n:Nat),Re K o r s->Re K o (List.replicate n none++r) (List.replicate n none++s)
 |_,_,0,h=>h
 |_,_,n+1,h=>⟨none,_,rfl,rfl,Re.front n h⟩
theorem Re.args: ∀ {ws:List W}{vs:List V} (n:Nat),Rvs K o ws vs->Re K o (ws.map some++List.replicate n none) (vs.map some++List.replicate n none)
 |[],_,n,h=>by
  unfold Rvs at h;rw[h]
  induction n with
  |zero=>rfl
  |succ n ih=>exact⟨none,_,rfl,rfl,ih⟩
 |w::l,_,n,h=>by unfold Rvs at h;obtain⟨v,r,rfl,h1,h2⟩:=h;exact⟨_,_,rfl,⟨v,rfl,h1⟩,Re.args n h2⟩
end
inductive Rs (α:Type) where
 |ok (a:α)(h:List Ob)|ex (c:Str)(h:List Ob)|bad
noncomputable abbrev M (α:Type):=List Ob->Rs α
noncomputable def bd {α β:Type}(f:M α)(g:α->M β):M β:=λh=>match f h with
 |.ok a h'=>g a h'
 |.ex c h'=>.ex c h'
 |.bad=>.bad
noncomputable def pr {α:Type}(a:α):M α:=λh=>.ok a h
noncomputable def no {α:Type}:M α:=λ_=>.bad
noncomputable def gd {α:Type}(p:Prop) [Decidable p] (m:M α):M α:=λh=>if p then m h else .bad
structure Cg where
 K:Zf
 mg:Str->Option J6
 E:XK
noncomputable def Ps {α β:Type}(c:Cg)(r:Wo->α->β->Prop)(o:Wo)(R:Rs α)(Q:β->Hp->Prop):Prop:=match R with
 |.ok a h'=> ∀p b,p.h=h'->Ex o p->Rel c.K p->r p a b->Q b p.H
 |.ex x h'=> ∃u,c.mg x=some u/\ ∀p,p.h=h'->Ex o p->Rel c.K p->c.E u none p.H
 |.bad=>False
noncomputable def tG {α β:Type}(c:Cg)(r:Wo->α->β->Prop)(f:Lx->M α)(σ:St)(H:Hp)(Q:β->Hp->Prop):Prop:= ∃o ρ,o.H=H/\Rel c.K o/\Re c.K o ρ σ/\Ps c r o (f ρ o.h) Q
noncomputable abbrev tM (c:Cg)(f:Lx->M W):TE:=tG c (Rv c.K) f
noncomputable abbrev tT (c:Cg)(f:Lx->M Bool):TT:=tG c (λ_ a b=>a=b) f
noncomputable abbrev tA (c:Cg)(f:Lx->M (List W)):TA:=tG c (Rvs c.K) f
section
variable {c:Cg}{o p:Wo}{α β γ δ:Type}{r:Wo->α->β->Prop}{r2:Wo->γ->δ->Prop}
theorem Ps.after {R:Rs α}{Q:β->Hp->Prop}(X:Ex o p)(h:Ps c r o R Q):Ps c r p R Q:=by
 cases R with
 |ok a h'=>exact λq b e X2 Rq rq=>h q b e (X.trans X2) Rq rq
 |ex x h'=>obtain⟨u,hu,h⟩:=h;exact⟨u,hu,λq e X2 Rq=>h q e (X.trans X2) Rq⟩
 |bad=>exact h
theorem Ps.bd {f:M α}{g:α->M γ}{Q:δ->Hp->Prop}{N:β->Hp->Prop}(h:Ps c r2 o (bd f g o.h) Q)(k:∀p a b,Ex o p->Rel c.K p->r p a b->Ps c r2 p (g a p.h) Q->N b p.H):Ps c r o (f o.h) N:=by
 unfold L2.bd at h;cases e:f o.h with
 |ok a h'=>
  rw[e] at h;intro p b hp X R rb;subst hp;exact k p a b X R rb (h.after X)
 |ex x h'=>
  rw[e] at h;exact h
 |bad=>
  rw[e] at h;exact h
theorem Ps.pr {a:α}{Q:β->Hp->Prop}{b:β}(h:Ps c r o (pr a o.h) Q)(R:Rel c.K o)(hb:r o a b):Q b o.H:=h o b rfl (Ex.refl _) R hb
theorem Ps.at {a:α}{Q:β->Hp->Prop}{b:β}(h:Ps c r o (.ok a h') Q)(e:p.h=h')(X:Ex o p)(R:Rel c.K p)(hb:r p a b):Q b p.H:=h p b e X R hb
theorem Ps.gd {P:Prop} [Decidable P] {m:M α}{Q:β->Hp->Prop}(h:Ps c r o (gd P m o.h) Q):P/\Ps c r o (m o.h) Q:=by
 unfold L2.gd at h;by_cases q:P
 ·rw[if_pos q] at h;exact⟨q,h⟩
 ·rw[if_neg q] at h;exact h.elim
end
end
section
noncomputable abbrev cg (X:Cx)(E:XK):Cg:=⟨X.K,X.mg,E⟩
noncomputable def tF (c:Cg)(f:Lx->M (List W)):TE:=λσ H Q=>tG c (Rvs c.K) f σ H λvs H1=> ∀q,H1 q=none->Q (.ref q) (upd H1 q (.lst vs))
structure JE (X:Cx)(E:XK)(e:Expr)(f:Lx->M W):Prop where
 h:PE X e (tM (cg X E) f)
structure JT (X:Cx)(E:XK)(e:Expr)(f:Lx->M Bool):Prop where
 h:PT X e (tT (cg X E) f)
structure JW (X:Cx)(E:XK)(e:Expr)(f:Lx->M Bool):Prop where
 h:PW X e (tT (cg X E) f)
structure JA (X:Cx)(E:XK)(es:List Expr)(f:Lx->M (List W)):Prop where
 h:PA X es (tA (cg X E) f)
structure JF (X:Cx)(E:XK)(e:Expr)(f:Lx->M (List W)):Prop where
 h:PE X e (tF (cg X E) f)
theorem PE.imp {f:Lx->M W}(h:PE X e t)(k:∀σ H Q,tM (cg X E) f σ H Q->t σ H Q):JE X E e f:=⟨λpins s σ H Q I q=>h pins s σ H Q I (k σ H Q q)⟩
theorem PE.impF {f:Lx->M (List W)}(h:PE X e t)(k:∀σ H Q,tF (cg X E) f σ H Q->t σ H Q):JF X E e f:=⟨λpins s σ H Q I q=>h pins s σ H Q I (k σ H Q q)⟩
theorem PT.imp {f:Lx->M Bool}(h:PT X e t)(k:∀σ H Q,tT (cg X E) f σ H Q->t σ H Q):JT X E e f:=⟨λpins s σ H Q I q=>h pins s σ H Q I (k σ H Q q)⟩
theorem PW.imp {f:Lx->M Bool}(h:PW X e t)(k:∀σ H Q,tT (cg X E) f σ H Q->t σ H Q):JW X E e f:=⟨λw pins s σ H Q I q=>h w pins s σ H Q I (k σ H Q q)⟩
theorem PA.imp {f:Lx->M (List W)}(h:PA X e t)(k:∀σ H Q,tA (cg X E) f σ H Q->t σ H Q):JA X E e f:=⟨λpos pins s σ H Q I q=>h pos pins s σ H Q I (k σ H Q q)⟩
theorem Bz {f:Lx->M Bool}(q:JW X E e f):JT X E e f:=⟨(q.h).pt⟩
section
variable {X:Cx}{E:XK}
noncomputable def Oj (i:Nat):Lx->M W:=λρ=>match ρ[i]? with
 |some (some w)=>pr w
 |_=>no
noncomputable def mC (w:W):Lx->M W:=λ_=>pr w
theorem BT {i:Nat}(h:tM (cg X E) (Oj i) σ H Q):QL i σ H Q:=by
 obtain⟨o,ρ,rfl,R,S,h⟩:=h;unfold Oj at h;cases e:ρ[i]? with
 |none=>rw[e] at h;exact h.elim
 |some x=>
  cases x with
  |none=>rw[e] at h;exact h.elim
  |some w=>
   rw[e] at h;obtain⟨v,e1,r⟩:=S.get e;exact⟨v,e1,h.pr R r⟩
theorem Dr (i:Nat){x:Str}(hN:X.N[i]?=some x:=by rfl)(hv:Vis X.env.scope x:=by trace_state)(hd:(x==("__debug__":Str))=false:=by decide)
 (hcd:(x==("__classdict__":Str))=false:=by decide):JE X E (.Name x pos) (Oj i):=(pv i hN hv hd hcd).imp λ_ _ _ h=>BT h
theorem wa {w:W}(hr: ∀o,Rv X.K o w v)(h:tM (cg X E) (mC w) σ H Q):tC v σ H Q:=by
 obtain⟨o,ρ,rfl,R,S,h⟩:=h;exact Ps.pr (c:=cg X E) h R (hr o)
theorem DH {i j pos}:JE X E (.Constant (.int i) j pos) (mC (.int i)):=OZ.imp λ_ _ _ h=>wa (λo=>by unfold Rv;rfl) h
theorem Ft {i j pos}:JE X E (.Constant (.bool i) j pos) (mC (.bl i)):=OV.imp λ_ _ _ h=>wa (λo=>by unfold Rv;rfl) h
theorem Du {i j pos}:JE X E (.Constant (.str i) j pos) (mC (.str i)):=O3.imp λ_ _ _ h=>wa (λo=>by unfold Rv;rfl) h
theorem DA {j pos}:JE X E (.Constant .none j pos) (mC .non):=O0.imp λ_ _ _ h=>wa (λo=>by unfold Rv;rfl) h
theorem oo {x:Str}{w:W}(hg:Gl X x)(hm:X.mg x=some u)(r:RelV v u)(hr: ∀o,Rv X.K o w v)(hd:(x==("__debug__":Str))=false:=by decide):JE X E (.Name x pos) (mC w):=
 (dm hg hm r hd).imp λ_ _ _ h=>wa hr h
noncomputable def m2 (f:W->W->M W)(fa fb:Lx->M W):Lx->M W:=λρ=>bd (fa ρ) λx=>bd (fb ρ) λy=>f x y
noncomputable def OpM (X:Cx)(E:XK)(r:R2)(f:W->W->M W):Prop:= ∀ (o:Wo) (x y:W) (vx vy:V) (Q:VK),Rel X.K o->Rv X.K o x vx->Rv X.K o y vy->Ps (cg X E) (Rv X.K) o (f x y o.h) Q->r vx vy o.H Q
theorem zp {f:W->W->M W}(hf:OpM X E r f){fa fb:Lx->M W}(h:tM (cg X E) (m2 f fa fb) σ H Q):tOp r (tM (cg X E) fa) (tM (cg X E) fb) σ H Q:=by
 obtain⟨o,ρ,rfl,R,S,h⟩:=h;exact⟨o,ρ,rfl,R,S,Ps.bd h λp x vx e1 R1 r1 h1=>⟨p,ρ,rfl,R1,S.mono R e1,Ps.bd h1 λq y vy e2 R2 r2 h2=>hf q x y vx vy Q R2 (r1.mono R1 e2) r2 h2⟩⟩
theorem lP {f:W->W->M W}{fa fb:Lx->M W}(ho:OpR X (KQ op) r)(hf:OpM X E r f)(ha:JE X E a fa)(hb:JE X E b fb):
 JE X E (.BinOp a op b pos) (m2 f fa fb):=(pU ho ha.h hb.h).imp λ_ _ _ h=>zp hf h
theorem DJ {f:W->W->M W}{fa fb:Lx->M W}(ho:OpR X (KC op) r)(hf:OpM X E r f)(ha:JE X E a fa)(hb:JE X E b fb)(hm:KD op b=false):
 JE X E (.Compare a [op] [b] pos) (m2 f fa fb):=(iG ho ha.h hb.h hm).imp λ_ _ _ h=>zp hf h
noncomputable def asB (w:W):M Bool:=match w with
 |.bl b=>pr b
 |_=>no
noncomputable def mB (f:Lx->M W):Lx->M Bool:=λρ=>bd (f ρ) asB
theorem BV {f:Lx->M W}{Q:Bool->Hp->Prop}(h:tT (cg X E) (mB f) σ H Q):tM (cg X E) f σ H λx H'=> ∃k,x=.bl k/\Q k H':=by
 ac_nf;unfold asB at h1;split at h1
 ·rename_i b;unfold Rv at r1;exact⟨b,r1,h1.pr R1 rfl⟩
 ·exact h1.elim
theorem Dd {f:W->W->M W}{fa fb:Lx->M W}(ho:OpR X (KC op) r)(hf:OpM X E r f)(ha:JE X E a fa)(hb:JE X E b fb)(hm:KD op b=false):
 JT X E (.Compare a [op] [b] pos) (mB (m2 f fa fb)):=(dO ho ha.h hb.h hm).imp λ_ _ _ h=>zp hf (BV h)
theorem Db {f:Lx->M W}(h:JE X E e f)(he: ∀whole,isTrue e X.env whole=(do let v<-whole;KE e.pos;KF [v] (truthy v))):JT X E e (mB f):=
 (gm h.h he).imp λ_ _ _ h=>BV h
noncomputable def NS (f g:Lx->M Bool):Lx->M Bool:=λρ=>bd (f ρ) λb=>if b=true then g ρ else pr false
noncomputable def mOr (f g:Lx->M Bool):Lx->M Bool:=λρ=>bd (f ρ) λb=>if b=true then pr true else g ρ
noncomputable def Oa (f:Lx->M Bool):Lx->M Bool:=λρ=>bd (f ρ) λb=>pr (!b)
variable {a b:Expr}{rest:List Expr}{pos:Kx}{f g:Lx->M Bool}
theorem BP {Q:Bool->Hp->Prop}(h:tT (cg X E) (NS f g) σ H Q):tAnd (tT (cg X E) f) (tT (cg X E) g) σ H Q:=by
 ac_nf;subst r1;cases x with
 |true=>exact No ⟨p,ρ,rfl,R1,S.mono R e1,h1⟩
 |false=>exact Nn (h1.pr R1 rfl)
theorem EB {Q:Bool->Hp->Prop}(h:tT (cg X E) (mOr f g) σ H Q):tOr (tT (cg X E) f) (tT (cg X E) g) σ H Q:=by
 ac_nf;subst r1;cases x with
 |false=>exact Nn ⟨p,ρ,rfl,R1,S.mono R e1,h1⟩
 |true=>exact No (h1.pr R1 rfl)
theorem Dc (ha:JT X E a f):JT X E (.UnaryOp .Not a pos) (Oa f):=(rF ha.h).imp λσ H Q h=>by
 ac_nf;subst r1;exact h1.pr R1 rfl
theorem z9 (ha:JT X E a f):JW X E (.BoolOp .And [a] pos) f:=⟨sZ ha.h⟩
theorem Da (ha:JT X E a f):JW X E (.BoolOp .Or [a] pos) f:=⟨rE ha.h⟩
theorem xG (ha:JT X E a f)(hb:JW X E (.BoolOp .And (b::rest) pos) g):JW X E (.BoolOp .And (a::b::rest) pos) (NS f g):=(wQ ha.h hb.h).imp λ_ _ _ h=>BP h
theorem Bv (ha:JT X E a f)(hb:JW X E (.BoolOp .Or (b::rest) pos) g):JW X E (.BoolOp .Or (a::b::rest) pos) (mOr f g):=(wP ha.h hb.h).imp λ_ _ _ h=>EB h
noncomputable def NT (f g:Lx->M W):Lx->M W:=λρ=>bd (f ρ) λw=>bd (asB w) λb=>if b=true then g ρ else pr (.bl false)
noncomputable def Od (f g:Lx->M W):Lx->M W:=λρ=>bd (f ρ) λw=>bd (asB w) λb=>if b=true then pr (.bl true) else g ρ
noncomputable def Oc (f:Lx->M W):Lx->M W:=λρ=>bd (f ρ) λw=>bd (asB w) λb=>pr (.bl (!b))
theorem oX {α β:Type}{r:Wo->α->β->Prop}{w:W}{k:Bool->M α}{Q:β->Hp->Prop}(hr:Rv X.K o w v)(h:Ps (cg X E) r o (bd (asB w) k o.h) Q): ∃b,w=.bl b/\v=.bl b/\Ps (cg X E) r o (k b o.h) Q:=by
 cases w with
 |bl b=>unfold Rv at hr;exact⟨b,rfl,hr,h⟩
 |_=>exact h.elim
variable {u v:Lx->M W}
theorem Dy {op}(h:JE X E a u):JE X E (.BoolOp op [a] pos) u:=⟨rK h.h⟩
theorem DK (ha:JE X E a u)(hb:JE X E (.BoolOp .And (b::rest) pos) v):JE X E (.BoolOp .And (a::b::rest) pos) (NT u v):=(rL ha.h hb.h).imp λσ H Q h=>by
 ac_nf;obtain⟨k,rfl,rfl,h2⟩:=oX r1 h1;refine⟨k,rfl,?_⟩;cases k with
 |true=>exact No ⟨p,ρ,rfl,R1,S.mono R e1,h2⟩
 |false=>exact Nn (h2.pr R1 (by unfold Rv;rfl))
theorem Ff (ha:JE X E a u)(hb:JE X E (.BoolOp .Or (b::rest) pos) v):JE X E (.BoolOp .Or (a::b::rest) pos) (Od u v):=(EL ha.h hb.h).imp λσ H Q h=>by
 ac_nf;obtain⟨k,rfl,rfl,h2⟩:=oX r1 h1;refine⟨k,rfl,?_⟩;cases k with
 |false=>exact Nn ⟨p,ρ,rfl,R1,S.mono R e1,h2⟩
 |true=>exact No (h2.pr R1 (by unfold Rv;rfl))
theorem Dz (ha:JE X E a u):JE X E (.UnaryOp .Not a pos) (Oc u):=(xf ha.h).imp λσ H Q h=>by
 ac_nf;obtain⟨k,rfl,rfl,h2⟩:=oX r1 h1;exact⟨k,rfl,h2.pr R1 (by unfold Rv;rfl)⟩
noncomputable def mIf (f:Lx->M Bool)(u v:Lx->M W):Lx->M W:=λρ=>bd (f ρ) λb=>if b=true then u ρ else v ρ
theorem xU (hc:JT X E c f)(ha:JE X E a u)(hb:JE X E b v):JE X E (.IfExp c a b pos) (mIf f u v):=(xh hc.h ha.h hb.h).imp λσ H Q h=>by
 ac_nf;subst r1;cases x with
 |true=>exact No ⟨p,ρ,rfl,R1,S.mono R e1,h1⟩
 |false=>exact Nn ⟨p,ρ,rfl,R1,S.mono R e1,h1⟩
noncomputable def m1 (f:W->M W)(fa:Lx->M W):Lx->M W:=λρ=>bd (fa ρ) f
noncomputable def Ov (w:W):M W:=match w with
 |.int i=>pr (.int (-i))
 |_=>no
theorem DB (ha:JE X E a u):JE X E (.UnaryOp .USub a pos) (m1 Ov u):=(EJ BJ ha.h).imp λσ H Q h=>by
 ac_nf;unfold Ov at h1;split at h1
 ·unfold Rv at r1;exact⟨_,r1,h1.pr R1 (by unfold Rv;rfl)⟩
 ·exact h1.elim
noncomputable def N9:Lx->M (List W):=λ_=>pr []
noncomputable def NX (fa:Lx->M W)(fr:Lx->M (List W)):Lx->M (List W):=λρ=>bd (fa ρ) λx=>bd (fr ρ) λl=>pr (x::l)
variable {es:List Expr}{l:Lx->M (List W)}{e:Expr}
theorem DN:JA X E [] N9:=OR.imp λσ H Q h=>by
 obtain⟨o,ρ,rfl,R,S,h⟩:=h;exact h.pr R Rvs.nil
theorem AA (ha:JE X E e u)(hr:JA X E es l)(hs:Kz (e::es) X.env=(false,Kw e X.env)::Kz es X.env:=by rfl):JA X E (e::es) (NX u l):=(aj ha.h hr.h hs).imp λσ H Q h=>by
 obtain⟨o,ρ,rfl,R,S,h⟩:=h;exact⟨o,ρ,rfl,R,S,Ps.bd h λp x vx e1 R1 r1 h1=>⟨p,ρ,rfl,R1,S.mono R e1,Ps.bd h1 λq y vy e2 R2 r2 h2=>h2.pr R2 (Rvs.cons (r1.mono R1 e2) r2)⟩⟩
noncomputable def QT (l:List W):M W:=gd (l.length<=sizeLine) (pr (.tup l))
noncomputable def Oi (l:Lx->M (List W)):Lx->M W:=λρ=>bd (l ρ) QT
theorem Rv.newT {K:Zf}{o:Wo}(R:Rel K o){q:Kb}{l:List W}{vs:List V}(h:o.H q=none)(hl:Rvs K o l vs):Rv K ⟨o.mu,o.h,upd o.H q (.tup vs)⟩ (.tup l) (.ref q):=by
 unfold Rv;exact⟨q,vs,rfl,.of ay,hl.mono R (Ex.new h)⟩
theorem Rv.newL {K:Zf}{o:Wo}(R:Rel K o){q:Kb}{l:List W}{vs:List V}(h:o.H q=none)(hl:Rvs K o l vs):Rv K ⟨o.mu,o.h,upd o.H q (.lst vs)⟩ (.tl l) (.ref q):=by
 unfold Rv;exact⟨q,vs,rfl,ay,λz=>Lv.there R (show Lv o q from z) h,hl.mono R (Ex.new h)⟩
theorem Ds {x1}(h:JA X E es l):JE X E (.Tuple es x1 pos) (Oi l):=(j1 h.h).imp λσ H Q h=>by
 ac_nf;obtain⟨hz,h1⟩:=h1.gd;exact⟨by rw[r1.len];exact hz,λq hq=>Ps.at (p:=⟨p.mu,p.h,upd p.H q (.tup vx)⟩) h1 rfl (Ex.new hq) (R1.new hq) (Rv.newT R1 hq r1)⟩
noncomputable def mTl (l:Lx->M (List W)):Lx->M W:=λρ=>bd (l ρ) λx=>pr (.tl x)
noncomputable def Ow (x:List W):M W:=λh=>.ok (.loc h.length) (h++[.lst x])
noncomputable def N8 (l:Lx->M (List W)):Lx->M W:=λρ=>bd (l ρ) Ow
theorem xR (h:JF X E e l):JE X E e (mTl l):=h.h.imp λσ H Q h=>by
 obtain⟨o,ρ,rfl,R,S,h⟩:=h;exact⟨o,ρ,rfl,R,S,Ps.bd h λp x vx e1 R1 r1 h1=>λq hq=>Ps.at (p:=⟨p.mu,p.h,upd p.H q (.lst vx)⟩) h1 rfl (Ex.new hq) (R1.new hq) (Rv.newL R1 hq r1)⟩
theorem rR (h:JF X E e l):JE X E e (N8 l):=h.h.imp λσ H Q h=>by
 obtain⟨o,ρ,rfl,R,S,h⟩:=h;refine⟨o,ρ,rfl,R,S,Ps.bd h λp x vx e1 R1 r1 h1=>λq hq=>?_⟩;refine Ps.at (p:=p.add q (.lst x) (.lst vx)) h1 rfl (Ex.add hq) (R1.addL hq r1) ?_;unfold Rv;exact⟨by show _<(p.h++[_]).length;simp,by show V.ref q=V.ref (if p.h.length=p.h.length then q else _);rw[if_pos rfl]⟩
noncomputable def NK (l:Lx->M (List W)):Lx->M (List W):=λρ=>bd (l ρ) λx=>gd (x.length<=sizeLine) (pr x)
theorem Do (h:JA X E es l):JF X E (.List es pos) (NK l):=(Cp h.h).impF λσ H Q h=>by
 ac_nf;obtain⟨hz,h1⟩:=h1.gd;exact⟨by rw[r1.len];exact hz,h1.pr R1 r1⟩
end
end
section
section
variable {X:Cx}{E:XK}
theorem Px {K:Zf}{i:Int}:Rv K o (.int i) v↔v=.int i:=by unfold Rv;exact Iff.rfl
theorem Pz {K:Zf}{i:Str}:Rv K o (.str i) v↔v=.str i:=by unfold Rv;exact Iff.rfl
theorem Pw {K:Zf}{i:Bool}:Rv K o (.bl i) v↔v=.bl i:=by unfold Rv;exact Iff.rfl
theorem Py {K:Zf}:Rv K o .non v↔v=.non:=by unfold Rv;exact Iff.rfl
theorem rv_ty {K:Zf}:Rv K o (.ty n) v↔v=.ty n:=by unfold Rv;exact Iff.rfl
noncomputable def NR (w:W):M (List W):=match w with
 |.tl l=>pr l
 |.cl l=>pr l
 |.loc k=>λh=>match h[k]? with
  |some (.lst l)=>.ok l h
  |_=>.bad
 |_=>no
theorem eO {α β:Type}{r:Wo->α->β->Prop}{w:W}{k:List W->M α}{Q:β->Hp->Prop}(R:Rel X.K o)(hr:Rv X.K o w v)(h:Ps (cg X E) r o (bd (NR w) k o.h) Q):
  ∃l a vs,v=.ref a/\SqL X.K o.H a vs/\Rvs X.K o l vs/\Ps (cg X E) r o (k l o.h) Q:=by
 cases w with
 |tl l=>unfold Rv at hr;obtain⟨a,vs,e,h1,_,h2⟩:=hr;exact⟨l,a,vs,e,.of h1,h2,h⟩
 |cl l=>
  unfold Rv at hr;obtain⟨a,vs,e,h1,h2⟩:=hr;rcases h1 with⟨h1,_⟩|h1
  ·exact⟨l,a,vs,e,.inl h1,h2,h⟩
  ·exact⟨l,a,vs,e,.inr h1,h2,h⟩
 |loc j=>
  unfold Rv at hr;unfold NR bd at h;cases e:o.h[j]? with
  |none=>simp only[e] at h;exact h.elim
  |some b=>
   cases b with
   |lst l=>
    simp only[e] at h;obtain⟨vs,h1,h2⟩:=R.ob j _ e;exact⟨l,_,vs,hr.2,.of h1,h2,h⟩
   |_=>simp only[e] at h;exact h.elim
 |_=>exact h.elim
noncomputable def NQ (w:W):M (List W):=match w with
 |.tl l=>pr l
 |.loc k=>λh=>match h[k]? with
  |some (.lst l)=>.ok l h
  |_=>.bad
 |_=>no
theorem c9 {α β:Type}{r:Wo->α->β->Prop}{w:W}{k:List W->M α}{Q:β->Hp->Prop}(R:Rel X.K o)(hr:Rv X.K o w v)(h:Ps (cg X E) r o (bd (NQ w) k o.h) Q):
  ∃l a vs,v=.ref a/\o.H a=some (.lst vs)/\Rvs X.K o l vs/\Ps (cg X E) r o (k l o.h) Q:=by
 cases w with
 |tl l=>unfold Rv at hr;obtain⟨a,vs,e,h1,_,h2⟩:=hr;exact⟨l,a,vs,e,h1,h2,h⟩
 |loc j=>
  unfold Rv at hr;unfold NQ bd at h;cases e:o.h[j]? with
  |none=>simp only[e] at h;exact h.elim
  |some b=>
   cases b with
   |lst l=>
    simp only[e] at h;obtain⟨vs,h1,h2⟩:=R.ob j _ e;exact⟨l,_,vs,hr.2,h1,h2,h⟩
   |_=>simp only[e] at h;exact h.elim
 |_=>exact h.elim
theorem ju (R:Rel X.K o)(hq:o.H q=none)(hl:Rvs X.K o l vs)(h:Ps (cg X E) (Rv X.K) o (pr (.tup l) o.h) Q):Q (.ref q) (upd o.H q (.tup vs)):=
 Ps.at (p:=⟨o.mu,o.h,upd o.H q (.tup vs)⟩) h rfl (Ex.new hq) (R.new hq) (Rv.newT R hq hl)
theorem jv (R:Rel X.K o)(hq:o.H q=none)(hl:Rvs X.K o l vs)(h:Ps (cg X E) (Rv X.K) o (pr (.tl l) o.h) Q):Q (.ref q) (upd o.H q (.lst vs)):=
 Ps.at (p:=⟨o.mu,o.h,upd o.H q (.lst vs)⟩) h rfl (Ex.new hq) (R.new hq) (Rv.newL R hq hl)
noncomputable def L6 (x y:W):M W:=match x,y with
 |.int i,.int j=>pr (.int (i+j))
 |.str a,.str b=>gd (a.length+b.length<=sizeLine) (pr (.str (a++b)))
 |.tup a,.tup b=>gd (a.isEmpty=false/\a.length+b.length<=sizeLine) (pr (.tup (a++b)))
 |x,y=>bd (NQ x) λa=>bd (NQ y) λb=>gd (a.length+b.length<=sizeLine) (pr (.tl (a++b)))
theorem zS:OpM X E (λx y H Q=>rI0 (λi j=>.int (i+j)) x y H Q\/(λx y H Q=>(λx y H Q=> ∃i j,x=.str i/\y=.str j/\i.length+j.length<=sizeLine/\Q (.str (i++j)) H) x y H Q\/(λx y H Q=>Pg X.K x y H Q\/rCat x y H Q) x y H Q) x y H Q) L6:=by
 intro o x y vx vy Q R rx ry h;unfold L6 at h;split at h
 ·exact .inl ⟨_,_,Px.mp rx,Px.mp ry,h.pr R (Px.mpr rfl)⟩
 ·obtain⟨hz,h⟩:=h.gd;exact .inr (.inl ⟨_,_,Pz.mp rx,Pz.mp ry,hz,h.pr R (Pz.mpr rfl)⟩)
 ·obtain⟨hz,h⟩:=h.gd;unfold Rv at rx ry;obtain⟨a,vs,e1,s1,r1⟩:=rx;obtain⟨b,us,e2,s2,r2⟩:=ry;have n1:vs≠ []:=λz=>by
   have:=r1.len;rw[z] at this;have q:=hz.1;rw[List.eq_nil_of_length_eq_zero this.symm] at q;cases q
  refine .inr (.inr (.inl ⟨a,b,vs,us,e1,e2,s1,s2,n1,by rw[r1.len,r2.len];exact hz.2,λz=>?_,λ_ q hq=>ju R hq (r1.app r2) h⟩));refine h.pr R ?_;unfold Rv;exact⟨a,vs,rfl,s1,by have:=r1.app r2;rw[z,Hn] at this;exact this⟩
 ·obtain⟨l,a,vs,e1,s1,r1,h⟩:=c9 R rx h;obtain⟨m,b,us,e2,s2,r2,h⟩:=c9 R ry h;obtain⟨hz,h⟩:=h.gd;exact .inr (.inr (.inr ⟨a,b,vs,us,e1,e2,s1,s2,by rw[r1.len,r2.len];exact hz,λq hq=>jv R hq (r1.app r2) h⟩))
theorem DL {fa fb:Lx->M W}(ha:JE X E a fa)(hb:JE X E b fb):JE X E (.BinOp a .Add b pos) (m2 L6 fa fb):=
 lP (OC.or (OD.or (OF.or xo))) zS ha hb
noncomputable def iiW (C:Int->Int->Prop) [∀i j,Decidable (C i j)] (g:Int->Int->W)(x y:W):M W:=match x,y with
 |.int i,.int j=>gd (C i j) (pr (g i j))
 |_,_=>no
theorem hU {C:Int->Int->Prop} [∀i j,Decidable (C i j)] {g:Int->Int->W}{g':Int->Int->V}(hg: ∀o i j,Rv X.K o (g i j) (g' i j)):OpM X E (rI C g') (iiW C g):=by
 intro o x y vx vy Q R rx ry h;unfold iiW at h;split at h
 ·obtain⟨hz,h⟩:=h.gd;exact⟨_,_,Px.mp rx,Px.mp ry,hz,h.pr R (hg _ _ _)⟩
 ·exact h.elim
theorem OB {f:J6->J6->Sem J6}{g':Int->Int->V}(h:OpR X f (rI0 g')):OpR X f (rI (λ_ _=>True) g'):=λpins s σ H x y v u Q I rx ry q=>h pins s σ H x y v u Q I rx ry (let ⟨i,j,e1,e2,_,q⟩:=q;⟨i,j,e1,e2,q⟩)
noncomputable abbrev CT:Int->Int->Prop:=λ_ _=>True
noncomputable def QE:W->W->M W:=iiW CT λi j=>.int (i - j)
theorem Dt {fa fb:Lx->M W}(ha:JE X E a fa)(hb:JE X E b fb):JE X E (.BinOp a .Sub b pos) (m2 QE fa fb):=
 lP (OB CI) (hU λ_ _ _=>Px.mpr rfl) ha hb
noncomputable def Ll (i j:Int):Prop:=0<j/\j<2 ^ 200
instance (i j:Int):Decidable (Ll i j):=by unfold Ll;infer_instance
theorem xn:OpR X (KQ .FloorDiv) (rI Ll λi j=>.int (i / j)):=opI λi j _ _ _ _ _ hc q=>by
 have h1:(0:Int)<j:=hc.1;have h2:j<2 ^ 200:=hc.2;refine floordiv_int ∅ (by rw[Int.fdiv_eq_ediv_of_nonneg i ∅];exact q) (.inl (PyProof.noPylong_of_log2 ?_));have h3:j.natAbs<2 ^ 200:=∅;exact Ha ((Nat.log2_lt ∅).mpr h3) ↥_
noncomputable def MN:W->W->M W:=iiW Ll λi j=>.int (i / j)
theorem Ax {fa fb:Lx->M W}(ha:JE X E a fa)(hb:JE X E b fb):JE X E (.BinOp a .FloorDiv b pos) (m2 MN fa fb):=
 lP xn (hU λ_ _ _=>Px.mpr rfl) ha hb
noncomputable abbrev CMod:Int->Int->Prop:=λ_ j=>0<j
noncomputable def On:W->W->M W:=iiW CMod λi j=>.int (i % j)
theorem DD {fa fb:Lx->M W}(ha:JE X E a fa)(hb:JE X E b fb):JE X E (.BinOp a .Mod b pos) (m2 On fa fb):=
 lP CL (hU λ_ _ _=>Px.mpr rfl) ha hb
instance (i j:Int):Decidable (Ln i j):=by unfold Ln;infer_instance
noncomputable def O7:W->W->M W:=iiW Ln λi j=>.int (i ^ j.toNat)
theorem Dx {fa fb:Lx->M W}(ha:JE X E a fa)(hb:JE X E b fb):JE X E (.BinOp a .Pow b pos) (m2 O7 fa fb):=
 lP CJ (hU λ_ _ _=>Px.mpr rfl) ha hb
theorem Aa {z:Str}{n:Int}(h0:0<=n)(h1:n<=10000)(h:z.length<=30000)(hz:z.length * n.toNat<=1000000):MulOk z n:=by
 refine⟨?_,λa b=>?_,λa b=>?_⟩
 ·rw[Bool.or_eq_false_iff,decide_eq_false_iff_not,decide_eq_false_iff_not];omega
 ·have:(100000000000000:Int)<=(2 ^ 63 - 1) / n:=Int.le_ediv_of_mul_le ∅ ∅;omega
 ·unfold J7.Str.tooLong;have:sizeLine=16777216:=↥_;exact decide_eq_false ∅
instance (i j:Int):Decidable (CMul i j):=by unfold CMul;infer_instance
instance (i j:Int):Decidable (CMulB i j):=by unfold CMulB;infer_instance
noncomputable def Lm (i j:Int):Prop:=CMul i j\/CMulB i j
instance (i j:Int):Decidable (Lm i j):=by unfold Lm;infer_instance
theorem OJ:OpR X (KQ .Mult) (rI Lm λi j=>.int (i * j)):=opI λ_ _ _ _ _ _ _ hc q=>mul_int q (by rcases hc with h|h;exact h.ok;exact h.ok)
noncomputable def Oq (x y:W):M W:=match x,y with
 |.int i,.int j=>gd (Lm i j) (pr (.int (i * j)))
 |.str z,.int n=>gd (0<=n/\n<=10000/\z.length<=30000/\z.length * n.toNat<=1000000) (pr (.str (Txt.mul z n)))
 |x,.int n=>bd (NQ x) λl=>gd (0<=n/\n<=1000000/\l.length * n.toNat<=sizeLine) (pr (.tl (List.replicate n.toNat l).flatten))
 |_,_=>no
theorem Rvs.rep {K:Zf}(h:Rvs K o l vs): ∀n:Nat,Rvs K o (List.replicate n l).flatten (List.replicate n vs).flatten
 |0=>Rvs.nil
 |n+1=>by rw[HP,HP,HU,HU];exact h.app (Rvs.rep h n)
theorem zQ:OpM X E (λx y H Q=>rI Lm (λi j=>.int (i * j)) x y H Q\/(λx y H Q=>(λx y H Q=> ∃ (z:Str) (n:Int),x=.str z/\y=.int n/\MulOk z n/\Q (.str (Txt.mul z n)) H) x y H Q\/rRep x y H Q) x y H Q) Oq:=by
 intro o x y vx vy Q R rx ry h;unfold Oq at h;split at h
 ·obtain⟨hz,h⟩:=h.gd;exact .inl ⟨_,_,Px.mp rx,Px.mp ry,hz,h.pr R (Px.mpr rfl)⟩
 ·obtain⟨hz,h⟩:=h.gd;exact .inr (.inl ⟨_,_,Pz.mp rx,Px.mp ry,Aa hz.1 hz.2.1 hz.2.2.1 hz.2.2.2,h.pr R (Pz.mpr rfl)⟩)
 ·obtain⟨l,a,vs,e1,s1,r1,h⟩:=c9 R rx h;obtain⟨hz,h⟩:=h.gd;exact .inr (.inr ⟨a,_,vs,e1,Px.mp ry,s1,∅,∅,by rw[r1.len];exact hz.2.2,λq hq=>jv R hq (r1.rep _) h⟩)
 ·exact h.elim
theorem DC {fa fb:Lx->M W}(ha:JE X E a fa)(hb:JE X E b fb):JE X E (.BinOp a .Mult b pos) (m2 Oq fa fb):=
 lP (OJ.or (OK.or xl)) zQ ha hb
noncomputable def ltW:W->W->M W:=iiW CT λi j=>.bl (decide (i<j))
noncomputable def leW:W->W->M W:=iiW CT λi j=>.bl (decide (i<=j))
noncomputable def gtW:W->W->M W:=iiW CT λi j=>.bl (decide (j<i))
noncomputable def geW:W->W->M W:=iiW CT λi j=>.bl (decide (j<=i))
theorem Cy:OpM X E (rI CT λi j=>.bl (decide (i<j))) ltW:=hU λ_ _ _=>Pw.mpr rfl
theorem Cz:OpM X E (rI CT λi j=>.bl (decide (i<=j))) leW:=hU λ_ _ _=>Pw.mpr rfl
theorem CC:OpM X E (rI CT λi j=>.bl (decide (j<i))) gtW:=hU λ_ _ _=>Pw.mpr rfl
theorem CD:OpM X E (rI CT λi j=>.bl (decide (j<=i))) geW:=hU λ_ _ _=>Pw.mpr rfl
theorem EO:OpR X (KC .Lt) (rI CT λi j=>.bl (decide (i<j))):=OB xm
theorem EQ:OpR X (KC .LtE) (rI CT λi j=>.bl (decide (i<=j))):=OB EX
theorem ES:OpR X (KC .Gt) (rI CT λi j=>.bl (decide (j<i))):=OB mX
theorem ET:OpR X (KC .GtE) (rI CT λi j=>.bl (decide (j<=i))):=OB EY
noncomputable def Nk:W->Bool
 |.non=>true
 |_=>false
noncomputable def Nj (x y:W):M W:=match y with
 |.non=>pr (.bl (Nk x))
 |_=>no
theorem AN {K:Zf}(h:Rv K o x v):decide (v=.non)=Nk x:=by
 cases x with
 |non=>rw[Py.mp h];rfl
 |bl _=>rw[Pw.mp h];rfl
 |int _=>rw[Px.mp h];rfl
 |str _=>rw[Pz.mp h];rfl
 |ty _=>rw[rv_ty.mp h];rfl
 |exc _=>unfold Rv at h;obtain⟨a,_,rfl,_⟩:=h;rfl
 |cls _=>unfold Rv at h;obtain⟨a,rfl,_⟩:=h;rfl
 |tup _=>unfold Rv at h;obtain⟨a,_,rfl,_⟩:=h;rfl
 |tl _=>unfold Rv at h;obtain⟨a,_,rfl,_⟩:=h;rfl
 |cl _=>unfold Rv at h;obtain⟨a,_,rfl,_⟩:=h;rfl
 |dv _ _=>unfold Rv at h;obtain⟨a,_,rfl,_⟩:=h;rfl
 |dn _ _ _=>unfold Rv at h;obtain⟨a,_,rfl,_⟩:=h;rfl
 |kt _=>unfold Rv at h;obtain⟨a,rfl,_⟩:=h;rfl
 |loc _=>unfold Rv at h;obtain⟨_,rfl⟩:=h;rfl
theorem zR:OpM X E (λx y H Q=>y=.non/\Q (.bl (decide (x=.non))) H) Nj:=by
 intro o x y vx vy Q R rx ry h;unfold Nj at h;split at h
 ·exact⟨Py.mp ry,by rw[AN rx];exact h.pr R (Pw.mpr rfl)⟩
 ·exact h.elim
noncomputable def vOf:W->Option V
 |.non=>some .non
 |.bl b=>some (.bl b)
 |.int i=>some (.int i)
 |.str x=>some (.str x)
 |_=>none
theorem nH {K:Zf}(e:vOf x=some u)(h:Rv K o x v):v=u:=by
 cases x with
 |non=>cases e;exact Py.mp h
 |bl _=>cases e;exact Pw.mp h
 |int _=>cases e;exact Px.mp h
 |str _=>cases e;exact Pz.mp h
 |_=>cases e
theorem o5 (e:vOf x=some u):MQ u=true:=by
 cases x<;>first|(cases e;done)|(cases e;rfl)
noncomputable def QY:List W->Option (List V)
 |[]=>some []
 |w::l=>match vOf w,QY l with
  |some v,some vs=>some (v::vs)
  |_,_=>none
theorem sH {K:Zf}: ∀ {l:List W}{vs us:List V},QY l=some us->Rvs K o l vs->vs=us
 |[],vs,us,e,h=>by unfold Rvs at h;cases e;exact h
 |w::l,vs,us,e,h=>by
  unfold Rvs at h;obtain⟨v,r,rfl,h1,h2⟩:=h;unfold QY at e;split at e
  ·rename_i v' vs' e1 e2;cases e;rw[nH e1 h1,sH e2 h2]
  ·cases e
theorem mJ: ∀ {l:List W}{us:List V},QY l=some us->us.all MQ=true
 |[],us,e=>by cases e;rfl
 |w::l,us,e=>by
  unfold QY at e;split at e
  ·rename_i v' vs' e1 e2;cases e;rw[Ib,o5 e1,mJ e2];rfl
  ·cases e
end
end
section
noncomputable def OQ {α β:Type}(f:α->Option β):List α->Option (List β)
 |[]=>some []
 |a::l=>match f a,OQ f l with
  |some b,some r=>some (b::r)
  |_,_=>none
noncomputable def Mv (h:List Ob):Nat->W->Option Le
 |0,_=>none
 |_+1,.non=>some .none
 |_+1,.bl b=>some (.bool b)
 |_+1,.int i=>some (.int i)
 |_+1,.str x=>some (.str x)
 |n+1,.tup l=>(OQ (Mv h n) l).map .tuple
 |n+1,.tl l=>(OQ (Mv h n) l).map .list
 |n+1,.cl l=>(OQ (Mv h n) l).map .list
 |n+1,.loc k=>match h[k]? with
  |some (.lst l)=>(OQ (Mv h n) l).map .list
  |_=>none
 |_+1,_=>none
section
variable {K:Zf}{o:Wo}
theorem lH {n:Nat}(ih: ∀w v d,Mv o.h n w=some d->Rv K o w v->Den K o.H v d/\d.depth<=n): ∀ {l:List W}{vs:List V}{ds:List Le},OQ (Mv o.h n) l=some ds->Rvs K o l vs->Lr K o.H vs ds/\Le.depthAll ds<=n
 |[],vs,ds,e,h=>by unfold Rvs at h;cases e;rw[h];exact⟨.nil,by simp [Le.depthAll]⟩
 |w::l,vs,ds,e,h=>by
  unfold Rvs at h;obtain⟨v,r,rfl,h1,h2⟩:=h;unfold OQ at e;split at e
  ·rename_i d ds' e1 e2;cases e;obtain⟨a1,a2⟩:=ih w v d e1 h1;obtain⟨b1,b2⟩:=lH ih e2 h2;exact⟨.cons a1 b1,by rw[Le.depthAll];omega⟩
  ·cases e
theorem j9 (R:Rel K o): ∀ (n:Nat) (w:W) (v:V) (d:Le),Mv o.h n w=some d->Rv K o w v->Den K o.H v d/\d.depth<=n
 |0,_,_,_,e,_=>by cases e
 |n+1,w,v,d,e,h=>by
  have ih:=j9 R n;have seq: ∀ {l:List W}{a:Kb}{vs:List V}{ds:List Le},OQ (Mv o.h n) l=some ds->SqL K o.H a vs->Rvs K o l vs->Den K o.H (.ref a) (.list ds)/\(Le.list ds).depth<=n+1:=λ{l a vs ds} e s r=>by
   obtain⟨b1,b2⟩:=lH ih e r;refine⟨.lst s b1,?_⟩;rw[Le.depth];omega
  cases w with
  |non=>cases e;rw[Py.mp h];exact⟨.non,by simp [Le.depth]⟩
  |bl b=>cases e;rw[Pw.mp h];exact⟨.bl b,by simp [Le.depth]⟩
  |int b=>cases e;rw[Px.mp h];exact⟨.int b,by simp [Le.depth]⟩
  |str b=>cases e;rw[Pz.mp h];exact⟨.str b,by simp [Le.depth]⟩
  |ty b=>cases e
  |exc b=>cases e
  |cls b=>cases e
  |dv a b=>cases e
  |dn a b c=>cases e
  |kt a=>cases e
  |tup l=>
   unfold Mv at e;obtain⟨ds,e1,rfl⟩:=Hd.mp e;unfold Rv at h;obtain⟨a,vs,rfl,s,r⟩:=h;obtain⟨b1,b2⟩:=lH ih e1 r;refine⟨.tup s b1,?_⟩;rw[Le.depth];omega
  |tl l=>
   unfold Mv at e;obtain⟨ds,e1,rfl⟩:=Hd.mp e;unfold Rv at h;obtain⟨a,vs,rfl,s,_,r⟩:=h;exact seq e1 (.of s) r
  |cl l=>
   unfold Mv at e;obtain⟨ds,e1,rfl⟩:=Hd.mp e;unfold Rv at h;obtain⟨a,vs,rfl,s,r⟩:=h;refine seq e1 ?_ r;rcases s with⟨s,_⟩|s
   ·exact .inl s
   ·exact .inr s
  |loc k=>
   unfold Mv at e;split at e
   ·rename_i l hk;obtain⟨ds,e1,rfl⟩:=Hd.mp e;unfold Rv at h;obtain⟨vs,h1,h2⟩:=R.ob k _ hk;rw[h.2];exact seq e1 (.of h1) h2
   ·cases e
end
noncomputable def eqB (x y:W)(h:List Ob):Option Bool:=match vOf x,vOf y with
 |some a,some b=>if P7 a b=true then some (decide (a=b)) else match Mv h 50 x,Mv h 50 y with
  |some d,some e=>if d.canLay0=true/\e.canLay0=true then some (Le.eqv d e) else none
  |_,_=>none
 |_,_=>match Mv h 50 x,Mv h 50 y with
  |some d,some e=>if d.canLay0=true/\e.canLay0=true then some (Le.eqv d e) else none
  |_,_=>none
noncomputable def eqW (x y:W):M W:=λh=>match eqB x y h with
 |some b=>.ok (.bl b) h
 |none=>.bad
noncomputable def neW (x y:W):M W:=λh=>match eqB x y h with
 |some b=>.ok (.bl (!b)) h
 |none=>.bad
section
variable {X:Cx}{E:XK}
theorem yI {b:Bool}(hu:X.A.units+64<Kg)(R:Rel X.K o)(rx:Rv X.K o x vx)(ry:Rv X.K o y vy)(e:eqB x y o.h=some b):
  (P7 vx vy=true/\b=decide (vx=vy))\/ ∃d e,Den X.K o.H vx d/\Den X.K o.H vy e/\d.canLay0=true/\e.canLay0=true/\X.A.units+min d.depth e.depth<Kg/\b=Le.eqv d e:=by
 have deep:(match Mv o.h 50 x,Mv o.h 50 y with
  |some d,some e=>if d.canLay0=true/\e.canLay0=true then some (Le.eqv d e) else none
  |_,_=>none)=some b-> ∃d e,Den X.K o.H vx d/\Den X.K o.H vy e/\d.canLay0=true/\e.canLay0=true/\X.A.units+min d.depth e.depth<Kg/\b=Le.eqv d e:=λq=>by
  split at q
  ·rename_i d e' e1 e2;split at q
   ·rename_i hc;obtain⟨a1,a2⟩:=j9 R _ _ _ _ e1 rx;obtain⟨b1,b2⟩:=j9 R _ _ _ _ e2 ry;exact⟨d,e',a1,b1,hc.1,hc.2,∅,(Option.some.inj q).symm⟩
   ·cases q
  ·cases q
 unfold eqB at e;split at e
 ·rename_i a c e1 e2;split at e
  ·rename_i hs;rw[nH e1 rx,nH e2 ry];exact .inl ⟨hs,(Option.some.inj e).symm⟩
  ·exact .inr (deep e)
 ·exact .inr (deep e)
theorem CH (hu:X.A.units+64<Kg):OpM X E (λx y H Q=>rEq x y H Q\/Ph X.K X.A false x y H Q) eqW:=by
 intro o x y vx vy Q R rx ry h;unfold eqW at h;cases e:eqB x y o.h with
 |none=>rw[e] at h;exact h.elim
 |some b=>
  rw[e] at h;have q:Q (.bl b) o.H:=Ps.pr (c:=cg X E) (r:=Rv X.K) (a:=W.bl b) h R (Pw.mpr rfl);rcases yI hu R rx ry e with⟨s,rfl⟩|⟨d,e',a1,a2,a3,a4,a5,rfl⟩
  ·exact .inl ⟨s,q⟩
  ·exact .inr ⟨d,e',a1,a2,a3,a4,a5,by rw[if_neg G5];exact q⟩
theorem Cw (hu:X.A.units+64<Kg):OpM X E (λx y H Q=>rNe x y H Q\/Ph X.K X.A true x y H Q) neW:=by
 intro o x y vx vy Q R rx ry h;unfold neW at h;cases e:eqB x y o.h with
 |none=>rw[e] at h;exact h.elim
 |some b=>
  rw[e] at h;have q:Q (.bl (!b)) o.H:=Ps.pr (c:=cg X E) (r:=Rv X.K) (a:=W.bl (!b)) h R (Pw.mpr rfl);rcases yI hu R rx ry e with⟨s,rfl⟩|⟨d,e',a1,a2,a3,a4,a5,rfl⟩
  ·exact .inl ⟨s,q⟩
  ·exact .inr ⟨d,e',a1,a2,a3,a4,a5,by rw[if_pos rfl];exact q⟩
theorem EU:OpR X (KC .Eq) (λx y H Q=>rEq x y H Q\/Ph X.K X.A false x y H Q):=OG.or CQ
theorem EN:OpR X (KC .NotEq) (λx y H Q=>rNe x y H Q\/Ph X.K X.A true x y H Q):=OL.or CK
noncomputable def Ny:W->Option Key
 |.int i=>some (.inl i)
 |.str x=>some (.inr x)
 |_=>none
theorem fY {K:Zf}(e:Ny x=some k)(h:Rv K o x v):v=kV k:=by
 cases x with
 |int _=>cases e;exact Px.mp h
 |str _=>cases e;exact Pz.mp h
 |_=>cases e
noncomputable def Mw (w:W)(h:List Ob):Option (List Key×List W):=match w with
 |.dv ks ws=>some (ks,ws)
 |.loc k=>match h[k]? with
  |some (.dic ks ws)=>some (ks,ws)
  |_=>none
 |_=>none
theorem qx {w:W}{ws:List W}(R:Rel X.K o)(e:Mw w o.h=some (ks,ws))(h:Rv X.K o w v): ∃a kvs,v=.ref a/\Rd o.H a (.dK kvs)/\kvs.map (·.1)=ks/\Rvs X.K o ws (kvs.map (·.2)):=by
 cases w with
 |dv a b=>
  cases e;unfold Rv at h;obtain⟨a,kvs,e,h1,_,h2,h3⟩:=h;exact⟨a,kvs,e,h1,h2,h3⟩
 |loc k=>
  unfold Mw at e;dsimp only at e;split at e
  ·rename_i a b hk;cases e;unfold Rv at h;obtain⟨kvs,h1,h2,h3⟩:=R.ob k _ hk;exact⟨_,kvs,h.2,.inl h1,h2,h3⟩
  ·cases e
 |_=>cases e
noncomputable def atK {κ:Type} [DecidableEq κ]:List κ->List W->κ->Option W
 |k::ks,w::ws,x=>if k=x then some w else atK ks ws x
 |_,_,_=>none
theorem kM {κ:Type} [DecidableEq κ] {K:Zf}{o:Wo}{x:κ}: ∀ {ks:List κ}{ws:List W}{kvs:List (κ×V)},kvs.map (·.1)=ks->Rvs K o ws (kvs.map (·.2))->match atK ks ws x with
  |some w=> ∃v,QV kvs x=some v/\Rv K o w v
  |none=>QV kvs x=none
 |[],_,[],_,_=>rfl
 |_,_,(k,v)::r,e,h=>by
  subst e;cases ‹List W› with
  |nil=>unfold Rvs at h;cases h
  |cons w ws=>
   unfold Rvs at h;obtain⟨v',r',e',h1,h2⟩:=h;cases e';have ih:=kM (x:=x) (ks:=r.map (·.1)) (ws:=ws) (kvs:=r) rfl h2;show match (if k=x then some w else atK (r.map (·.1)) ws x) with
    |some w=> ∃v',QV ((k,v)::r) x=some v'/\Rv K o w v'
    |none=>QV ((k,v)::r) x=none
   by_cases z:k=x
   ·rw[if_pos z];exact⟨v,by unfold QV;rw[List.find?_cons_of_pos (by simpa using z)];rfl,h1⟩
   ·rw[if_neg z];have ev:QV ((k,v)::r) x=QV r x:=by unfold QV;rw[List.find?_cons_of_neg (by simpa using z)]
    rw[ev];exact ih
noncomputable def inB (x y:W)(h:List Ob):Option Bool:=match y with
 |.str b=>match x with
  |.str a=>some (!(J7.Str.occurrences b a 0 b.length 1).isEmpty)
  |_=>none
 |.tup l=>match vOf x,QY l with
  |some v,some vs=>some (inV v vs)
  |_,_=>none
 |y=>match Mw y h with
  |some (ks,ws)=>match Ny x with
   |some k=>some (atK ks ws k).isSome
   |none=>none
  |none=>match NR y h with
   |.ok l _=>match vOf x,QY l with
    |some v,some vs=>some (inV v vs)
    |_,_=>none
   |_=>none
noncomputable def inW (x y:W):M W:=λh=>match inB x y h with
 |some b=>.ok (.bl b) h
 |none=>.bad
noncomputable def dL (x y:W):M W:=λh=>match inB x y h with
 |some b=>.ok (.bl (!b)) h
 |none=>.bad
theorem qc {w:W}(R:Rel X.K o)(hr:Rv X.K o w v)(e:NR w o.h=.ok l h'):h'=o.h/\ ∃a vs,v=.ref a/\SqL X.K o.H a vs/\Rvs X.K o l vs:=by
 have hh:h'=o.h:=by
  cases w with
  |tl l'=>cases e;rfl
  |cl l'=>cases e;rfl
  |loc j=>
   unfold NR at e;dsimp only at e;split at e
   ·cases e;rfl
   ·cases e
  |_=>cases e
 subst hh;have h:Ps (cg X (λ_ _ _=>False)) (λ(_:Wo) (a:List W) (b:List W)=>a=b) o (bd (NR w) (λl=>pr l) o.h) (λb _=>b=l):=by
  unfold bd;rw[e];intro p b _ _ _ q;exact q.symm
 obtain⟨m,a,vs,e1,e2,e3,h⟩:=eO R hr h;have:m=l:=h.pr R rfl;subst this;exact⟨rfl,a,vs,e1,e2,e3⟩
noncomputable def rInD:R2:=λx y H Q=> ∃a ov,y=.ref a/\Lq H a x ov/\Q (.bl ov.isSome) H
noncomputable def sX:R2:=λx y H Q=> ∃a ov,y=.ref a/\Lq H a x ov/\Q (.bl (!ov.isSome)) H
theorem CP (hu:X.A.units+1<Kg):OpR X (KC .In) rInD:=by
 intro pins s σ H x y v u Q I rx ry h;obtain⟨a,ov,rfl,g,q⟩:=h;cases ry;exact GE hu I g rx λs3 I3=>⟨.bl ov.isSome,H,I3,rfl,q⟩
theorem uP (hu:X.A.units+1<Kg):OpR X (KC .NotIn) sX:=by
 intro pins s σ H x y v u Q I rx ry h;obtain⟨a,ov,rfl,g,q⟩:=h;cases ry;exact A8 hu I g rx λs3 I3=>⟨.bl (!ov.isSome),H,I3,rfl,q⟩
theorem yu {b:Bool}(R:Rel X.K o)(rx:Rv X.K o x vx)(ry:Rv X.K o y vy)(e:inB x y o.h=some b):
  (∃i j,vx=.str i/\vy=.str j/\b=(!(J7.Str.occurrences j i 0 j.length 1).isEmpty))\/(∃p xs,vy=.ref p/\(SqL X.K o.H p xs\/SqT X.K o.H p xs)/\MQ vx=true/\xs.all MQ=true/\b=inV vx xs)\/ ∃a ov,vy=.ref a/\Lq o.H a vx ov/\b=ov.isSome:=by
 have fl: ∀ {l:List W}{vs:List V},Rvs X.K o l vs->(match vOf x,QY l with
    |some v,some vs=>some (inV v vs)
    |_,_=>none)=some b->MQ vx=true/\vs.all MQ=true/\b=inV vx vs:=λ{l vs} r q=>by
  split at q
  ·rename_i v us e1 e2;rw[nH e1 rx,sH e2 r];exact⟨o5 e1,mJ e2,(Option.some.inj q).symm⟩
  ·cases q
 unfold inB at e;split at e
 ·split at e
  ·exact .inl ⟨_,_,Pz.mp rx,Pz.mp ry,(Option.some.inj e).symm⟩
  ·cases e
 ·unfold Rv at ry;obtain⟨a,vs,rfl,s,r⟩:=ry;obtain⟨f1,f2,f3⟩:=fl r e;exact .inr (.inl ⟨a,vs,rfl,.inr s,f1,f2,f3⟩)
 ·split at e
  ·rename_i ks ws hd;split at e
   ·rename_i k hk;obtain⟨a,kvs,rfl,h1,h2,h3⟩:=qx R hd ry;rw[fY hk rx];refine .inr (.inr ⟨a,QV kvs k,rfl,.inl ⟨kvs,k,h1,rfl,rfl⟩,?_⟩);rw[<-Option.some.inj e];have:=kM (x:=k) h2 h3;cases q:atK ks ws k with
    |none=>rw[q] at this;rw[show QV kvs k=none from this];rfl
    |some w=>rw[q] at this;obtain⟨v,hv,_⟩:=this;rw[hv];rfl
   ·cases e
  ·split at e
   ·rename_i l h' hl;obtain⟨rfl,a,vs,rfl,s,r⟩:=qc R ry hl;obtain⟨f1,f2,f3⟩:=fl r e;exact .inr (.inl ⟨a,vs,rfl,.inl s,f1,f2,f3⟩)
   ·cases e
noncomputable abbrev rInA (X:Cx):R2:=λx y H Q=>(λx y H Q=> ∃i j,x=.str i/\y=.str j/\Q (.bl (!(J7.Str.occurrences j i 0 j.length 1).isEmpty)) H) x y H Q\/(λx y H Q=>rIn X.K false x y H Q\/rInD x y H Q) x y H Q
noncomputable abbrev sY (X:Cx):R2:=λx y H Q=>(λx y H Q=> ∃i j,x=.str i/\y=.str j/\Q (.bl (!(!(J7.Str.occurrences j i 0 j.length 1).isEmpty))) H) x y H Q\/(λx y H Q=>rIn X.K true x y H Q\/sX x y H Q) x y H Q
theorem ER (hu:X.A.units+1<Kg):OpR X (KC .In) (rInA X):=OI.or (OH.or (CP hu))
theorem xj (hu:X.A.units+1<Kg):OpR X (KC .NotIn) (sY X):=ON.or (OM.or (uP hu))
theorem CB:OpM X E (rInA X) inW:=by
 intro o x y vx vy Q R rx ry h;unfold inW at h;cases e:inB x y o.h with
 |none=>rw[e] at h;exact h.elim
 |some b=>
  rw[e] at h;have q:Q (.bl b) o.H:=Ps.pr (c:=cg X E) (r:=Rv X.K) (a:=W.bl b) h R (Pw.mpr rfl);rcases yu R rx ry e with⟨i,j,e1,e2,rfl⟩|⟨p,xs,e1,e2,e3,e4,rfl⟩|⟨a,ov,e1,e2,rfl⟩
  ·exact .inl ⟨i,j,e1,e2,q⟩
  ·exact .inr (.inl ⟨p,xs,e1,e2,e3,e4,by rw[if_neg G5];exact q⟩)
  ·exact .inr (.inr ⟨a,ov,e1,e2,q⟩)
theorem uO:OpM X E (sY X) dL:=by
 intro o x y vx vy Q R rx ry h;unfold dL at h;cases e:inB x y o.h with
 |none=>rw[e] at h;exact h.elim
 |some b=>
  rw[e] at h;have q:Q (.bl (!b)) o.H:=Ps.pr (c:=cg X E) (r:=Rv X.K) (a:=W.bl (!b)) h R (Pw.mpr rfl);rcases yu R rx ry e with⟨i,j,e1,e2,rfl⟩|⟨p,xs,e1,e2,e3,e4,rfl⟩|⟨a,ov,e1,e2,rfl⟩
  ·exact .inl ⟨i,j,e1,e2,q⟩
  ·exact .inr (.inl ⟨p,xs,e1,e2,e3,e4,by rw[if_pos rfl];exact q⟩)
  ·exact .inr (.inr ⟨a,ov,e1,e2,q⟩)
theorem Rvs.atI {K:Zf}{i:Int}{w:W}(h:Rvs K o l vs)(e:L2.atI l i=some w): ∃v,L2.atI vs i=some v/\Rv K o w v:=by
 unfold L2.atI at e ⊢;rw[h.len];cases q:ixN l.length i with
 |none=>rw[q] at e;cases e
 |some j=>rw[q] at e;exact h.get e
noncomputable def ixO (x y:W)(h:List Ob):Option W:=match Mw x h with
 |some (ks,ws)=>match Ny y with
  |some k=>atK ks ws k
  |none=>none
 |none=>match y with
  |.int i=>match x with
   |.str z=>if z.length<=sizeLine then (atI z.cps.toList i).map λc=>.str ⟨#[c]⟩ else none
   |.tup l=>atI l i
   |x=>match NR x h with
    |.ok l _=>atI l i
    |_=>none
  |_=>none
noncomputable def ixW (x y:W):M W:=λh=>match ixO x y h with
 |some w=>.ok w h
 |none=>.bad
noncomputable def rIxD:R2:=λx y H Q=> ∃a v,x=.ref a/\Lq H a y (some v)/\Q v H
theorem AM (hu:X.A.units+1<Kg):IxR X rIxD:=by
 intro value slice pins s σ H x y v u Q I rx ry h hs;obtain⟨a,z,rfl,g,q⟩:=h;cases rx;exact tail_any (qw I g) PySem.F.slot_dict_getitem.lookup (vE hu I g ry λw' s3 I3 rw'=>⟨z,H,I3,rw',q⟩) hs
theorem CA:OpM X E (λx y H Q=>rIx X.K x y H Q\/rIxD x y H Q) ixW:=by
 intro o x y vx vy Q R rx ry h;unfold ixW at h;cases e:ixO x y o.h with
 |none=>rw[e] at h;exact h.elim
 |some w=>
  rw[e] at h;have q: ∀ {v:V},Rv X.K o w v->Q v o.H:=λ{v} hv=>Ps.pr (c:=cg X E) (r:=Rv X.K) (a:=w) h R hv;unfold ixO at e;split at e
  ·rename_i ks ws hd;split at e
   ·rename_i k hk;obtain⟨a,kvs,rfl,h1,h2,h3⟩:=qx R hd rx;have:=kM (x:=k) h2 h3;rw[e] at this;obtain⟨v,hv,rv⟩:=this;rw[fY hk ry];exact .inr ⟨a,v,rfl,.inl ⟨kvs,k,h1,rfl,hv.symm⟩,q rv⟩
   ·cases e
  ·split at e
   ·split at e
    ·split at e
     ·rename_i hz;obtain⟨c,hc,rfl⟩:=Hd.mp e;exact .inl (.inr (.inr ⟨_,_,c,Pz.mp rx,Px.mp ry,hz,hc,q (Pz.mpr rfl)⟩))
     ·cases e
    ·unfold Rv at rx;obtain⟨a,vs,rfl,s,r⟩:=rx;obtain⟨v,hv,rv⟩:=r.atI e;exact .inl (.inr (.inl ⟨a,vs,_,v,rfl,Px.mp ry,s,hv,q rv⟩))
    ·split at e
     ·rename_i l h' hl;obtain⟨rfl,a,vs,rfl,s,r⟩:=qc R rx hl;obtain⟨v,hv,rv⟩:=r.atI e;exact .inl (.inl ⟨a,vs,_,v,rfl,Px.mp ry,s,hv,q rv⟩)
     ·cases e
   ·cases e
theorem Fj {fa fb:Lx->M W}(hu:X.A.units+1<Kg)(ha:JE X E a fa)(hb:JE X E b fb)(hs:o3 b):JE X E (.Subscript a b pos) (m2 ixW fa fb):=
 (tD (Nt.or (AM hu)) ha.h hb.h hs).imp λ_ _ _ h=>zp CA h
noncomputable def Ms {α:Type}(xs:List α)(lo hi:Option Int):List α:=(xs.drop (HT.sIx xs.length 0 lo)).take (HT.sIx xs.length xs.length hi - HT.sIx xs.length 0 lo)
theorem Rvs.cut {K:Zf}(h:Rvs K o l vs)(lo hi:Option Int):Rvs K o (Ms l lo hi) (Mr vs lo hi):=by
 unfold Ms Mr;rw[h.len];exact (h.drop _).take _
noncomputable def az:Lx->M (Option Int):=λ_=>pr none
noncomputable def Oe (f:Lx->M W):Lx->M (Option Int):=λρ=>bd (f ρ) λw=>match w with
 |.int i=>pr (some i)
 |_=>no
noncomputable abbrev tP (c:Cg)(f:Lx->M (Option Int)):TO:=tG c (λ_ a b=>a=b) f
structure JO (X:Cx)(E:XK)(e:Option Expr)(f:Lx->M (Option Int)):Prop where
 h:PO X e (tP (cg X E) f)
theorem PO.imp {f:Lx->M (Option Int)}(h:PO X e t)(k:∀σ H Q,tP (cg X E) f σ H Q->t σ H Q):JO X E e f:=⟨λpins s σ H Q I q=>h pins s σ H Q I (k σ H Q q)⟩
theorem Aj:JO X E none az:=O5.imp λσ H Q h=>by
 obtain⟨o,ρ,rfl,R,S,h⟩:=h;exact h.pr R rfl
theorem Ai {f:Lx->M W}(he:JE X E e f):JO X E (some e) (Oe f):=(nZ he.h).imp λσ H Q h=>by
 ac_nf;cases x with
 |int i=>exact⟨i,Px.mp r1,h1.pr R1 rfl⟩
 |_=>exact h1.elim
noncomputable def slW (x:W)(lo hi:Option Int):M W:=match x with
 |.str z=>gd (z.length<=sizeLine) (pr (.str (StrLaws.sliceText z lo hi)))
 |.tup l=>gd (¬(HT.sIx l.length 0 lo=0/\HT.sIx l.length l.length hi=l.length)) (pr (.tup (Ms l lo hi)))
 |x=>bd (NR x) λl=>pr (.tl (Ms l lo hi))
noncomputable def m3 (f:W->Option Int->Option Int->M W)(fa:Lx->M W)(fl fh:Lx->M (Option Int)):Lx->M W:=λρ=>bd (fa ρ) λx=>bd (fl ρ) λa=>bd (fh ρ) λb=>f x a b
theorem Fe {lo hi:Option Expr}{fa:Lx->M W}{fl fh:Lx->M (Option Int)}(he:JE X E e fa)(hl:JO X E lo fl)(hh:JO X E hi fh):
  JE X E (.Subscript e (.Slice lo hi none p2) pos) (m3 slW fa fl fh):=(lC (Qj.or (Qk.or zy)) he.h hl.h hh.h).imp λσ H Q h=>by
 obtain⟨o,ρ,rfl,R,S,h⟩:=h;refine⟨o,ρ,rfl,R,S,Ps.bd h λp x vx e1 R1 r1 h1=>⟨p,ρ,rfl,R1,S.mono R e1,Ps.bd h1 λq a va e2 R2 r2 h2=>⟨q,ρ,rfl,R2,(S.mono R e1).mono R1 e2,Ps.bd h2 λw b vb e3 R3 r3 h3=>?_⟩⟩⟩;subst r2 r3;have rx:=(r1.mono R1 e2).mono R2 e3;unfold slW at h3;split at h3
 ·obtain⟨hz,h3⟩:=h3.gd;exact .inl ⟨_,Pz.mp rx,hz,h3.pr R3 (Pz.mpr rfl)⟩
 ·obtain⟨hz,h3⟩:=h3.gd;unfold Rv at rx;obtain⟨a',vs,rfl,s,r⟩:=rx;refine .inr (.inl ⟨a',vs,rfl,s,by rw[r.len];exact hz,λq' hq=>ju R3 hq (r.cut _ _) h3⟩)
 ·obtain⟨l,a',vs,rfl,s,r,h3⟩:=eO R3 rx h3;exact .inr (.inr ⟨a',vs,rfl,s,λq' hq=>jv R3 hq (r.cut _ _) h3⟩)
noncomputable def NU (f:List W->M W)(l:Lx->M (List W)):Lx->M W:=λρ=>bd (l ρ) f
noncomputable def Lo (X:Cx)(E:XK)(r:List V->Hp->VK->Prop)(f:List W->M W):Prop:= ∀ (o:Wo) (ws:List W) (vs:List V) (Q:VK),Rel X.K o->Rvs X.K o ws vs->Ps (cg X E) (Rv X.K) o (f ws o.h) Q->r vs o.H Q
variable {x:Str}{p pos:Kx}{e:Expr}{es:List Expr}{l:Lx->M (List W)}{f:List W->M W}{r:List V->Hp->VK->Prop}{id T:String}
theorem Bn (hf:Lo X E r f)(h:tM (cg X E) (NU f l) σ H Q):tCB r (tA (cg X E) l) σ H Q:=by
 obtain⟨o,ρ,rfl,R,S,h⟩:=h;exact⟨o,ρ,rfl,R,S,Ps.bd h λp x vx e1 R1 r1 h1=>hf p x vx Q R1 r1 h1⟩
theorem p8 (hc:CallR X (.builtin id) r)(hf:Lo X E r f)(hg:Gl X x)(hm:X.mg x=none)(hv:Kt x=some (.builtin id))(ha:JA X E (e::es) l)(hn:x≠ "__name__":=by decide)(hdb:(x==("__debug__":Str))=false:=by decide)
  (he:Kz (e::es) X.env=(false,Kw e X.env)::Kz es X.env:=by rfl)(hpl:(Ky pos (Kz es X.env)).any (·.1)=false:=by rfl):JE X E (.Call (.Name x p) (e::es) [] pos) (NU f l):=
 (du hc hg hm hv ha.h hn hdb he hpl).imp λ_ _ _ h=>Bn hf h
theorem j3 (hc:CallR X (.type T) r)(hf:Lo X E r f)(hg:Gl X x)(hm:X.mg x=none)(hv:Kt x=some (.type T))(ha:JA X E (e::es) l)(hn:x≠ "__name__":=by decide)(hdb:(x==("__debug__":Str))=false:=by decide)
  (he:Kz (e::es) X.env=(false,Kw e X.env)::Kz es X.env:=by rfl)(hpl:(Ky pos (Kz es X.env)).any (·.1)=false:=by rfl):JE X E (.Call (.Name x p) (e::es) [] pos) (NU f l):=
 (iH hc hg hm hv ha.h hn hdb he hpl).imp λ_ _ _ h=>Bn hf h
end
end
section
inductive Fl where
 |nx (r:Lx)|bk (r:Lx)|ct (r:Lx)|rt (w:W)
inductive FlV where
 |nx (s:St)|bk (s:St)|ct (s:St)|rt (v:V)
noncomputable def RFl (K:Zf)(o:Wo):Fl->FlV->Prop
 |.nx r,f=> ∃s,f=.nx s/\Re K o r s
 |.bk r,f=> ∃s,f=.bk s/\Re K o r s
 |.ct r,f=> ∃s,f=.ct s/\Re K o r s
 |.rt w,f=> ∃v,f=.rt v/\Rv K o w v
noncomputable def DQ (D:Ls):FlV->Hp->Prop
 |.nx s,H=>D.nx s H
 |.bk s,H=>D.bk s H
 |.ct s,H=>D.ct s H
 |.rt v,H=>D.rt v H
noncomputable def tS (c:Cg)(g:Lx->M Fl):TS:=λD σ H=>tG c (RFl c.K) g σ H (DQ D)
structure JS (X:Cx)(E:XK)(e:KA)(f:Lx->M Fl):Prop where
 h:PS X e (tS (cg X E) f)
structure JSs (X:Cx)(E:XK)(e:List KA)(f:Lx->M Fl):Prop where
 h:PSs X e (tS (cg X E) f)
theorem PSs.imp {f:Lx->M Fl}(h:PSs X e t)(k:∀D σ H,tS (cg X E) f D σ H->t D σ H):JSs X E e f:=⟨λpins s σ H D I q=>h pins s σ H D I (k D σ H q)⟩
theorem PS.imp {f:Lx->M Fl}(h:PS X e t)(k:∀D σ H,tS (cg X E) f D σ H->t D σ H):JS X E e f:=⟨λpins s σ H D I q=>h pins s σ H D I (k D σ H q)⟩
theorem ae {α β γ:Type}(a:M α)(b:α->M β)(d:β->M γ):bd (bd a b) d=bd a λx=>bd (b x) d:=by
 funext h;unfold bd;cases a h<;>rfl
section
variable {X:Cx}{E:XK}{pos:Kx}
noncomputable def PP:Lx->M Fl:=λρ=>pr (.nx ρ)
noncomputable def PU (f g:Lx->M Fl):Lx->M Fl:=λρ=>bd (f ρ) λx=>match x with
 |.nx r=>g r
 |x=>pr x
theorem Af:JSs X E [] PP:=O8.imp λD σ H h=>by
 obtain⟨o,ρ,rfl,R,S,h⟩:=h;exact h.pr R ⟨σ,rfl,S⟩
theorem BQ {f g:Lx->M Fl}(h:tS (cg X E) (PU f g) D σ H):tSeq (tS (cg X E) f) (tS (cg X E) g) D σ H:=by
 obtain⟨o,ρ,rfl,R,S,h⟩:=h;refine⟨o,ρ,rfl,R,S,Ps.bd h λp x b e1 R1 r1 h1=>?_⟩;cases x with
 |nx r=>obtain⟨s,rfl,re⟩:=r1;exact⟨p,r,rfl,R1,re,h1⟩
 |bk r=>have q:=h1.pr R1 r1;obtain⟨s,rfl,re⟩:=r1;exact q
 |ct r=>have q:=h1.pr R1 r1;obtain⟨s,rfl,re⟩:=r1;exact q
 |rt r=>have q:=h1.pr R1 r1;obtain⟨s,rfl,re⟩:=r1;exact q
theorem xL {st:KA}{rest:List KA}{f g:Lx->M Fl}(h1:JS X E st f)(h2:JSs X E rest g):JSs X E (st::rest) (PU f g):=(aA h1.h h2.h).imp λD σ H h=>BQ h
theorem Ae {st:KA}{f:Lx->M Fl}(h1:JS X E st f):JSs X E [st] f:=⟨aR h1.h⟩
variable {e:Expr}{f:Lx->M W}
noncomputable def PV (i:Nat)(f:Lx->M W):Lx->M Fl:=λρ=>bd (f ρ) λw=>pr (.nx (ρ.set i (some w)))
theorem Df {i:Nat}{x:Str}(hN:X.N.Nodup)(hi:X.N[i]?=some x)(hx:Loc X.env.scope x)(he:JE X E e f)(hs:swapsWith e (some (.Name x pos')) pos.line X.env=pure false)(hf:X.fn x=true\/X.env.scope.names.lookup x=some .local ):
  JS X E (.Assign [.Name x pos'] e pos) (PV i f):=(dJ hN hi hx he.h hs hf).imp λD σ H h=>by
 obtain⟨o,ρ,rfl,R,S,h⟩:=h;exact⟨o,ρ,rfl,R,S,Ps.bd h λp x b e1 R1 r1 h1=>Ps.pr (b:=FlV.nx (σ.set i (some b))) h1 R1 ⟨_,rfl,(S.mono R e1).set r1 i⟩⟩
noncomputable def PQ (f:Lx->M W):Lx->M Fl:=λρ=>bd (f ρ) λw=>pr (.rt w)
theorem Dg (he:JE X E e f):JS X E (.Return (some e) pos) (PQ f):=(cJ he.h).imp λD σ H h=>by
 obtain⟨o,ρ,rfl,R,S,h⟩:=h;exact⟨o,ρ,rfl,R,S,Ps.bd h λp x b e1 R1 r1 h1=>Ps.pr (b:=FlV.rt b) h1 R1 ⟨_,rfl,r1⟩⟩
noncomputable def sEx (f:Lx->M W):Lx->M Fl:=λρ=>bd (f ρ) λ_=>pr (.nx ρ)
theorem Ag (he:JE X E e f)(hs:swapsWith e none pos.line X.env=pure false):JS X E (.Expr e pos) (sEx f):=(nY he.h hs).imp λD σ H h=>by
 obtain⟨o,ρ,rfl,R,S,h⟩:=h;exact⟨o,ρ,rfl,R,S,Ps.bd h λp x b e1 R1 r1 h1=>Ps.pr (b:=FlV.nx σ) h1 R1 ⟨_,rfl,S.mono R e1⟩⟩
noncomputable def sIf (t:Lx->M Bool)(f g:Lx->M Fl):Lx->M Fl:=λρ=>bd (t ρ) λb=>if b=true then f ρ else g ρ
theorem E9 {t:Lx->M Bool}{f g:Lx->M Fl}(hc:JT X E c t)(ha:JSs X E a f)(hb:JSs X E b g):JS X E (.If c a b pos) (sIf t f g):=(gN hc.h ha.h hb.h).imp λD σ H h=>by
 ac_nf;subst r1;cases x with
 |true=>exact No ⟨p,ρ,rfl,R1,S.mono R e1,h1⟩
 |false=>exact Nn ⟨p,ρ,rfl,R1,S.mono R e1,h1⟩
noncomputable def cX (t:Lx->M Bool)(g:Lx->M Fl):Nat->Lx->M Fl
 |0,_=>no
 |n+1,ρ=>bd (t ρ) λb=>if b=true then bd (g ρ) λx=>match x with
   |.nx r=>cX t g n r
   |.ct r=>cX t g n r
   |.bk r=>pr (.nx r)
   |.rt w=>pr (.rt w)
  else pr (.nx ρ)
theorem xM (n:Nat){t:Lx->M Bool}{g:Lx->M Fl}(hp:KI (Ki X.prog X.w) X.A X.env X.xe)(hc:JT X E c t)(hb:JSs X E body g):
  JS X E (.While c body [] pos) (cX t g n):=(jt hp hc.h hb.h).imp λD σ H h=>by
 obtain⟨o,ρ,rfl,R,S,h⟩:=h;refine⟨λm σ H=> ∃o ρ,o.H=H/\Rel X.K o/\Re X.K o ρ σ/\Ps (cg X E) (RFl X.K) o (cX t g m ρ o.h) (DQ D),⟨n,o,ρ,rfl,R,S,h⟩,?_⟩
 rintro m σ H ⟨o,ρ,rfl,R,S,h⟩
 cases m with
 |zero=>exact h.elim
 |succ m=>
  refine⟨o,ρ,rfl,R,S,Ps.bd h λp x vx e1 R1 r1 h1=>?_⟩;subst r1;cases x with
  |false=>exact Nn (Ps.pr (b:=FlV.nx σ) h1 R1 ⟨_,rfl,S.mono R e1⟩)
  |true=>
   refine No ⟨_,λσ' H' w=>⟨m,Iy _,w⟩,p,ρ,rfl,R1,S.mono R e1,Ps.bd h1 λq x b e2 R2 r2 h2=>?_⟩;cases x with
   |nx r=>obtain⟨s,rfl,re⟩:=r2;exact⟨q,r,rfl,R2,re,h2⟩
   |ct r=>obtain⟨s,rfl,re⟩:=r2;exact⟨q,r,rfl,R2,re,h2⟩
   |bk r=>obtain⟨s,rfl,re⟩:=r2;exact h2.pr R2 (b:=.nx s) ⟨s,rfl,re⟩
   |rt w=>obtain⟨v,rfl,rv⟩:=r2;exact h2.pr R2 (b:=.rt v) ⟨v,rfl,rv⟩
structure LU (K:Zf)(m:Nat)(g:TG)(t:W->Lx->Option Lx):Prop where
 ok: ∀ (o:Wo) (w:W) (v:V) (ρ ρ2:Lx) (σ:St),Rv K o w v->Re K o ρ σ->t w ρ=some ρ2-> ∃σ2,(∀Q:St->Hp->Prop,Q σ2 o.H->g v σ o.H Q)/\Re K o ρ2 σ2/\σ2.drop m=σ.drop m/\σ2.length=σ.length
noncomputable def tgN (i:Nat):W->Lx->Option Lx:=λw ρ=>some (ρ.set i (some w))
theorem iB {K:Zf}(m i:Nat)(h:i<m):LU K m (MY i) (tgN i):=⟨λo w v ρ ρ2 σ rv re e=>by
 cases e
 exact⟨_,λQ q=>q,re.set rv i,by rw[JB h],by rw[Hb]⟩⟩
noncomputable def gNs:List Nat->TGs
 |[]=>gNil
 |i::r=>MX (MY i) (gNs r)
noncomputable def P9:List Nat->List W->Lx->Option Lx
 |[],[],ρ=>some ρ
 |i::r,w::l,ρ=>P9 r l (ρ.set i (some w))
 |_,_,_=>none
theorem v7 {K:Zf}{m:Nat}: ∀ (is:List Nat) (l:List W) (vs:List V) (ρ ρ2:Lx) (σ:St),(∀i∈is,i<m)->Rvs K o l vs->Re K o ρ σ->P9 is l ρ=some ρ2-> ∃σ2,(∀Q:St->Hp->Prop,Q σ2 o.H->gNs is vs σ o.H Q)/\Re K o ρ2 σ2/\σ2.drop m=σ.drop m/\σ2.length=σ.length
 |[],[],vs,ρ,ρ2,σ,_,rv,re,e=>by
  unfold Rvs at rv;cases e;exact⟨σ,λQ q=>⟨rv,q⟩,re,rfl,rfl⟩
 |[],_::_,_,_,_,_,_,_,_,e=>by cases e
 |_::_,[],_,_,_,_,_,_,_,e=>by cases e
 |i::is,w::l,vs,ρ,ρ2,σ,hm,rv,re,e=>by
  unfold Rvs at rv;obtain⟨v,r,rfl,h1,h2⟩:=rv;obtain⟨σ2,a,b,c,d⟩:=v7 is l r (ρ.set i (some w)) ρ2 (σ.set i (some v)) (λj hj=>hm j (G9 _ hj)) h2 (re.set h1 i) e;refine⟨σ2,λQ q=>⟨v,r,rfl,a Q q⟩,b,?_,?_⟩
  ·rw[c,JB (hm i GY)]
  ·rw[d,Hb]
noncomputable def tgT (is:List Nat):W->Lx->Option Lx:=λw ρ=>match w with
 |.tup l=>P9 is l ρ
 |_=>none
theorem lc: ∀ {is:List Nat}{l:List W}{ρ ρ2:Lx},P9 is l ρ=some ρ2->l.length=is.length
 |[],[],_,_,_=>rfl
 |[],_::_,_,_,e=>by cases e
 |_::_,[],_,_,e=>by cases e
 |_::is,_::l,_,_,e=>by rw[GT,GT,lc (is:=is) (l:=l) e]
theorem v6 {K:Zf}(m:Nat)(is:List Nat)(h:∀i∈is,i<m):LU K m (MZ K is.length (gNs is)) (tgT is):=⟨λo w v ρ ρ2 σ rv re e=>by
 cases w with
 |tup l=>
  unfold Rv at rv;obtain⟨a,vs,rfl,s,r⟩:=rv;have e:P9 is l ρ=some ρ2:=e;obtain⟨σ2,a1,a2,a3,a4⟩:=v7 is l vs ρ ρ2 σ h r re e;exact⟨σ2,λQ q=>⟨a,vs,rfl,s,by rw[r.len,lc e],a1 Q q⟩,a2,a3,a4⟩
 |_=>cases e⟩
open Classical in
noncomputable def gdh {α:Type}(G:List Ob->Prop)(m:M α):M α:=λh=>if G h then m h else .bad
theorem ql {α:Type}(m:M α):gdh (λ_=>True) m=m:=by funext h;unfold gdh;rw[if_pos trivial]
theorem iL {α:Type}{G:List Ob->Prop}{m:M α}(q:G h):gdh G m h=m h:=by unfold gdh;rw[if_pos q]
theorem Ps.gdh {α β:Type}{r:Wo->α->β->Prop}{G:List Ob->Prop}{m:M α}{Q:β->Hp->Prop}(h:Ps c r o (gdh G m o.h) Q):G o.h/\Ps c r o (m o.h) Q:=by
 unfold L2.gdh at h;by_cases q:G o.h
 ·rw[if_pos q] at h;exact⟨q,h⟩
 ·rw[if_neg q] at h;exact h.elim
structure Sr where
 l:List W
 G:List Ob->Prop
structure LQ (K:Zf)(o0:Wo)(J:It)(s:Sr):Prop where
 stop: ∀o,Ex o0 o->Rel K o->s.G o.h->J.stop s.l.length o.H
 go: ∀o i w,Ex o0 o->Rel K o->s.G o.h->s.l[i]?=some w->J.go i o.H/\ ∀x H',J.yld i o.H x H'-> ∃p,p.H=H'/\p.h=o.h/\Ex o p/\Rel K p/\Rv K p w x
noncomputable def tI (c:Cg)(src:Lx->M Sr):TI:=λσ H R=>tG c (λp s J=>LQ c.K p J s) src σ H R
structure JI (X:Cx)(E:XK)(tg iter:Expr)(f:Lx->M Sr):Prop where
 h:PI X tg iter (tI (cg X E) f)
theorem PI.imp {tg iter:Expr}{t:TI}{f:Lx->M Sr}(h:PI X tg iter t)(k:∀σ H R,tI (cg X E) f σ H R->t σ H R):JI X E tg iter f:=⟨λpins s σ H R I q=>h pins s σ H R I (k σ H R q)⟩
noncomputable def Qv (w:W):M Sr:=match w with
 |.tl l=>pr ⟨l,λ_=>True⟩
 |.cl l=>pr ⟨l,λ_=>True⟩
 |.loc k=>λh=>match h[k]? with
  |some (.lst l)=>.ok ⟨l,λh=>h[k]?=some (.lst l)⟩ h
  |_=>.bad
 |_=>no
noncomputable def Og (f:Lx->M W)(g:W->M Sr):Lx->M Sr:=λρ=>bd (f ρ) g
theorem kU {K:Zf}(h:∀o,Ex o0 o->Rel K o->s.G o.h-> ∃vs,SqL K o.H a vs/\Rvs K o s.l vs):LQ K o0 (Itl K a) s:=by
 refine⟨λo X R g=>?_,λo i w X R g e=>?_⟩
 ·obtain⟨vs,s,r⟩:=h o X R g;exact⟨vs,s,H9 r.len⟩
 ·obtain⟨vs,s,r⟩:=h o X R g;obtain⟨v,hv,rv⟩:=r.get e;refine⟨⟨vs,v,s,hv⟩,λx H' y=>?_⟩;obtain⟨rfl,y⟩:=y;have:x=v:=by have:=y vs s;rw[hv] at this;exact (Option.some.inj this).symm
  subst this;exact⟨o,rfl,rfl,Ex.refl _,R,rv⟩
theorem Al {fl:Lx->M W}(hl:JE X E l fl):JI X E tg l (Og fl Qv):=(zN hl.h).imp λσ H Q h=>by
 ac_nf;cases x with
 |tl l=>
  have r1':=r1;unfold Rv at r1;obtain⟨a,vs,rfl,s,n,r⟩:=r1;refine⟨a,rfl,⟨vs,.of s⟩,h1.pr R1 (kU λo X R g=>?_)⟩;exact⟨vs,.of (X.fr a _ s n).1,r.mono R1 X⟩
 |cl l=>
  unfold Rv at r1;obtain⟨a,vs,rfl,s,r⟩:=r1;have sq: ∀o,Ex p o->SqL X.K o.H a vs:=λo X=>by
   rcases s with⟨s,n⟩|s
   ·exact .inl (X.rd s n).1
   ·exact .inr s
  exact⟨a,rfl,⟨vs,sq p (Ex.refl _)⟩,h1.pr R1 (kU λo X R g=>⟨vs,sq o X,r.mono R1 X⟩)⟩
 |loc k=>
  unfold Rv at r1;obtain⟨hk,rfl⟩:=r1;unfold Qv at h1;dsimp only at h1;split at h1
  ·rename_i l hl;obtain⟨vs,h3,h4⟩:=R1.ob k _ hl;refine⟨_,rfl,⟨vs,.of h3⟩,Ps.at (p:=p) h1 rfl (Ex.refl _) R1 (kU λo X R g=>?_)⟩;obtain⟨vs',h5,h6⟩:=R.ob k _ g;rw[X.mu k hk] at h5;exact⟨vs',.of h5,h6⟩
  ·exact h1.elim
 |_=>exact h1.elim
noncomputable def Qw (w:W):M Sr:=match w with
 |.tup l=>pr ⟨l,λ_=>True⟩
 |_=>no
theorem Dm {fl:Lx->M W}(hl:JE X E l fl):JI X E tg l (Og fl Qw):=(Ck hl.h).imp λσ H Q h=>by
 ac_nf;cases x with
 |tup l=>
  unfold Rv at r1;obtain⟨a,vs,rfl,s,r⟩:=r1;refine⟨a,rfl,⟨vs,s⟩,h1.pr R1 ⟨λo X R g=>⟨vs,X.rdT R1 s,H9 r.len⟩,λo i w X R g e=>?_⟩⟩;obtain⟨v,hv,rv⟩:=(r.mono R1 X).get e;have sq:=X.rdT R1 s;refine⟨⟨vs,v,sq,hv⟩,λx H' y=>?_⟩;obtain⟨rfl,y⟩:=y;have:x=v:=by have:=y vs sq;rw[hv] at this;exact (Option.some.inj this).symm
  subst this;exact⟨o,rfl,rfl,Ex.refl _,R,rv⟩
 |_=>exact h1.elim
noncomputable def Na (lo:Int):Nat->List W
 |0=>[]
 |n+1=>.int lo::Na (lo+1) n
theorem eP: ∀ (n:Nat) (lo:Int),(Na lo n).length=n
 |0,_=>rfl
 |n+1,lo=>by rw[Na,GT,eP n]
theorem f8: ∀ (n:Nat) (lo:Int) (i:Nat) (w:W),(Na lo n)[i]?=some w->w=.int (lo+i)/\i<n
 |0,_,_,_,h=>by simp [Na] at h
 |n+1,lo,0,w,h=>by rw[Na] at h;cases h;exact⟨⇑_,Nat.succ_pos _⟩
 |n+1,lo,i+1,w,h=>by
  rw[Na,Ih] at h;obtain⟨e,l⟩:=f8 n (lo+1) i w h;exact⟨by rw[e];congr 1;omega,∅⟩
theorem mP {K:Zf}{lo:Int}{n:Nat}:LQ K o0 (Itr lo n) ⟨Na lo n,λ_=>True⟩:=by
 refine⟨λo X R g=>?_,λo i w X R g e=>?_⟩
 ·show n<=(Na lo n).length;rw[eP];exact GO _
 ·obtain⟨rfl,hi⟩:=f8 n lo i w e;refine⟨hi,λx H' y=>?_⟩;obtain⟨rfl,rfl⟩:=y;exact⟨o,rfl,rfl,Ex.refl _,R,Px.mpr rfl⟩
noncomputable def Pm (l:List W):M Sr:=match l with
 |[.int j]=>gd (-(2 ^ 62)<=j/\j<2 ^ 62) (pr ⟨Na 0 j.toNat,λ_=>True⟩)
 |_=>no
noncomputable def Pn (l:List W):M Sr:=match l with
 |[.int i,.int j]=>gd (-(2 ^ 62)<=i/\i<2 ^ 62/\ -(2 ^ 62)<=j/\j<2 ^ 62) (pr ⟨Na i (j - i).toNat,λ_=>True⟩)
 |_=>no
noncomputable def Oh (f:Lx->M (List W))(g:List W->M Sr):Lx->M Sr:=λρ=>bd (f ρ) g
theorem uZ {fl:Lx->M (List W)}(hg:Gl X "range")(hm:X.mg "range"=none)(ha:JA X E [a] fl)(hs:Kz [a] X.env=[(false,Kw a X.env)]):JI X E tg (.Call (.Name "range" p) [a] [] pos) (Oh fl Pm):=
 (uM hg hm ha.h hs).imp λσ H Q h=>by
 ac_nf;unfold Pm at h1;split at h1
 ·obtain⟨hz,h1⟩:=h1.gd;unfold Rvs Rvs at r1;obtain⟨v,r,rfl,a1,rfl⟩:=r1;exact⟨_,by rw[Px.mp a1],hz.1,hz.2,h1.pr R1 mP⟩
 ·exact h1.elim
theorem uY {fl:Lx->M (List W)}(hg:Gl X "range")(hm:X.mg "range"=none)(ha:JA X E [a,b] fl)(hs:Kz [a,b] X.env=[(false,Kw a X.env),(false,Kw b X.env)])(hs2:Kz [b] X.env=[(false,Kw b X.env)]):
  JI X E tg (.Call (.Name "range" p) [a,b] [] pos) (Oh fl Pn):=(uL hg hm ha.h hs hs2).imp λσ H Q h=>by
 ac_nf;unfold Pn at h1;split at h1
 ·obtain⟨hz,h1⟩:=h1.gd;unfold Rvs Rvs Rvs at r1;obtain⟨v,r,rfl,a1,v',r',rfl,a2,rfl⟩:=r1;exact⟨_,_,by rw[Px.mp a1,Px.mp a2],hz,h1.pr R1 mP⟩
 ·exact h1.elim
noncomputable def forM (G:List Ob->Prop)(t:W->Lx->Option Lx)(g:Lx->M Fl):List W->Lx->M Fl
 |[],ρ=>gdh G (pr (.nx ρ))
 |w::l,ρ=>gdh G (match t w ρ with
  |none=>no
  |some r=>bd (g r) λx=>match x with
   |.nx r'=>forM G t g l r'
   |.ct r'=>forM G t g l r'
   |.bk r'=>pr (.nx r')
   |.rt v=>pr (.rt v))
noncomputable def PM (src:Lx->M Sr)(t:W->Lx->Option Lx)(g:Lx->M Fl):Lx->M Fl:=λρ=>bd (src ρ) λs=>forM s.G t g s.l ρ
theorem Dh {tg iter:Expr}{body:List KA}{src:Lx->M Sr}{t:W->Lx->Option Lx}{gT:TG}{g:Lx->M Fl}{m:Nat}(hp:KI (Ki X.prog X.w) X.A X.env X.xe)(hc:X.calm=true)(hi:JI X E tg iter src)(hg:PG X tg gT)(ht:LU X.K m gT t)(hb:JSs X E body g)
  (hs: ∀x,KP iter X.env x=pure x:=by intro _;rfl):JS X E (.For tg iter body [] pos) (PM src t g):=(Cc hp hc hi.h hg hb.h hs).imp λD σ H h=>by
 obtain⟨o,ρ,rfl,R,S,h⟩:=h;refine⟨o,ρ,rfl,R,S,Ps.bd h λo1 s J e1 R1 sk h1=>?_⟩;refine⟨λi n σ H=>n=s.l.length - i/\i<=s.l.length/\ ∃o ρ,o.H=H/\Ex o1 o/\Rel X.K o/\Re X.K o ρ σ/\Ps (cg X E) (RFl X.K) o (forM s.G t g (s.l.drop i) ρ o.h) (DQ D),⟨_,rfl,G8 _,o1,ρ,rfl,Ex.refl _,R1,S.mono R e1,h1⟩,?_⟩
 rintro i n σ H ⟨rfl,hi,o,ρ,rfl,X1,R,S,h⟩
 by_cases hlt:i<s.l.length
 ·obtain⟨w,hw⟩: ∃w,s.l[i]?=some w:=⟨_,G0 hlt⟩
  have hd:s.l.drop i=w::s.l.drop (i+1):=by
   rw[Iq hlt];rw[G0 hlt] at hw;rw[Option.some.inj hw]
  rw[hd] at h;unfold forM at h;obtain⟨hG,h⟩:=h.gdh;obtain⟨hgo,hy⟩:=sk.go o i w X1 R hG hw;refine .inr ⟨hgo,λσ' H'=> ∃o ρ,o.H=H'/\Ex o1 o/\Rel X.K o/\Re X.K o ρ σ'/\Ps (cg X E) (RFl X.K) o (forM s.G t g (s.l.drop (i+1)) ρ o.h) (DQ D),λσ' H' q=>⟨_,∅,rfl,hlt,q⟩,λx H' y=>?_⟩;obtain⟨p,rfl,eh,X2,R2,rv⟩:=hy x H' y;cases et:t w ρ with
  |none=>rw[et] at h;exact h.elim
  |some r=>
   rw[et] at h;obtain⟨σ2,k1,k2,_,_⟩:=ht.ok p w x ρ r σ rv (S.mono R X2) et;refine k1 _ ?_
   have h2:Ps (cg X E) (RFl X.K) p (bd (g r) (λx=>match x with
    |.nx r'=>forM s.G t g (s.l.drop (i+1)) r'
    |.ct r'=>forM s.G t g (s.l.drop (i+1)) r'
    |.bk r'=>pr (.nx r')
    |.rt v=>pr (.rt v)) p.h) (DQ D):=by rw[eh];exact h.after X2
   refine⟨p,r,rfl,R2,k2,Ps.bd h2 λq x b e3 R3 r3 h3=>?_⟩;cases x with
   |nx r=>obtain⟨s',rfl,re⟩:=r3;exact⟨q,r,rfl,(X1.trans X2).trans e3,R3,re,h3⟩
   |ct r=>obtain⟨s',rfl,re⟩:=r3;exact⟨q,r,rfl,(X1.trans X2).trans e3,R3,re,h3⟩
   |bk r=>obtain⟨s',rfl,re⟩:=r3;exact h3.pr R3 (b:=.nx s') ⟨s',rfl,re⟩
   |rt w=>obtain⟨v,rfl,rv⟩:=r3;exact h3.pr R3 (b:=.rt v) ⟨v,rfl,rv⟩
 ·have e:i=s.l.length:=∅;subst e;rw[IE] at h;unfold forM at h;obtain⟨hG,h⟩:=h.gdh;exact .inl ⟨sk.stop o X1 R hG,Ps.pr (b:=FlV.nx σ) h R ⟨σ,rfl,S⟩⟩
end
end
section
section
variable {X:Cx}{E:XK}{pos:Kx}
noncomputable def Mn (G:List Ob->Prop)(t:W->Lx->Option Lx)(f:Lx->M Bool)(e:Lx->M W)(n:Nat):List W->Lx->M (List W)
 |[],ρ=>gdh G (pr [])
 |w::l,ρ=>gdh G (match t w (List.replicate n none++ρ) with
  |none=>no
  |some r=>bd (f r) λb=>if b=true then bd (e r) λx=>bd (Mn G t f e n l ρ) λm=>pr (x::m) else Mn G t f e n l ρ)
noncomputable def NV (hs:List Nat)(src:Lx->M Sr)(t:W->Lx->Option Lx)(f:Lx->M Bool)(e:Lx->M W)(n:Nat):Lx->M (List W):=λρ=>
 gd ((hs.all λi=>(ρ[i]?.join).isNone)=true) (bd (src ρ) λs=>gd (s.l.length<=sizeLine) (Mn s.G t f e n s.l ρ))
variable {elt iter tg:Expr}{ifs:List Expr}{scope:Ku}{ls:List Str}{gT:TG}{t:W->Lx->Option Lx}{f:Lx->M Bool}{e:Lx->M W}{src:Lx->M Sr}{hs:List Nat}{wh:Prop}
theorem zq (ht:LU X.K ls.length gT t)(h:tF (cg X E) (NV hs src t f e ls.length) σ H Q):QF X.N ls (tI (cg X E) src) gT (tT (cg X E) f) (tM (cg X E) e) σ H Q:=by
 obtain⟨o,ρ,rfl,R,S,h⟩:=h;unfold NV at h;obtain⟨h0,h⟩:=h.gd;refine⟨rfl,o,ρ,rfl,R,S,Ps.bd h λo1 s J e1 R1 sk h1=>?_⟩;obtain⟨hz,h1⟩:=h1.gd;have S1:=S.mono R e1
 refine⟨λi n ys H=>n=s.l.length - i/\i<=s.l.length/\ ∃o acc,o.H=H/\Ex o1 o/\Rel X.K o/\Rvs X.K o acc ys/\acc.length<=i/\Ps (cg X E) (Rvs X.K) o (bd (Mn s.G t f e ls.length (s.l.drop i) ρ) (λm=>pr (acc++m)) o.h) (λvs H1=> ∀q,H1 q=none->Q (.ref q) (upd H1 q (.lst vs))),
  ⟨_,rfl,G8 _,o1,[],rfl,Ex.refl _,R1,Rvs.nil,GO _,?_⟩,?_⟩
 ·have:bd (Mn s.G t f e ls.length (s.l.drop 0) ρ) (λm=>pr ([]++m))=Mn s.G t f e ls.length s.l ρ:=by
   funext h;rw[IF];unfold bd;cases Mn s.G t f e ls.length s.l ρ h<;>rfl
  rw[this];exact h1
 rintro i n ys H ⟨rfl,hi,o,acc,rfl,X1,R,A,ha,h⟩
 have S2:=S1.mono R1 X1;have gs: ∀ {α β γ:Type}{r:Wo->β->γ->Prop}{m:M α}{k:α->M β}{Q':γ->Hp->Prop},Ps (cg X E) r o (bd (gdh s.G m) k o.h) Q'->s.G o.h/\Ps (cg X E) r o (bd m k o.h) Q':=λ{α β γ r m k Q'} q=>by
  have:bd (gdh s.G m) k o.h=gdh s.G (bd m k) o.h:=by
   unfold bd L2.gdh;by_cases z:s.G o.h
   ·simp only[if_pos z]
   ·simp only[if_neg z]
  rw[this] at q;exact q.gdh
 by_cases hlt:i<s.l.length
 ·obtain⟨w,hw⟩: ∃w,s.l[i]?=some w:=⟨_,G0 hlt⟩
  have hd:s.l.drop i=w::s.l.drop (i+1):=by
   rw[Iq hlt];rw[G0 hlt] at hw;rw[Option.some.inj hw]
  rw[hd] at h;unfold Mn at h;obtain⟨hG,h⟩:=gs h;obtain⟨hgo,hy⟩:=sk.go o i w X1 R hG hw;refine .inr ⟨hgo,λys' H'=> ∃o acc,o.H=H'/\Ex o1 o/\Rel X.K o/\Rvs X.K o acc ys'/\acc.length<=i+1/\Ps (cg X E) (Rvs X.K) o (bd (Mn s.G t f e ls.length (s.l.drop (i+1)) ρ) (λm=>pr (acc++m)) o.h) (λvs H1=> ∀q,H1 q=none->Q (.ref q) (upd H1 q (.lst vs))),λys' H' q=>⟨_,∅,rfl,hlt,q⟩,λx H' y=>?_⟩;obtain⟨p,rfl,eh,X2,R2,rv⟩:=hy x H' y;cases et:t w (List.replicate ls.length none++ρ) with
  |none=>rw[et] at h;exact h.elim
  |some r=>
   rw[et] at h;obtain⟨σ2,k1,k2,k3,k4⟩:=ht.ok p w x _ r (List.replicate ls.length none++σ) rv ((S2.mono R X2).front _) et;refine k1 _ ⟨?_,?_,?_⟩
   ·rw[k3,List.drop_left' (by rw[HS])]
   ·rw[k4,GQ,HS]
   have h2:Ps (cg X E) (Rvs X.K) p (bd (f r) (λb=>bd (if b=true then bd (e r) λx=>bd (Mn s.G t f e ls.length (s.l.drop (i+1)) ρ) λm=>pr (x::m) else Mn s.G t f e ls.length (s.l.drop (i+1)) ρ) λm=>pr (acc++m)) p.h) (λvs H1=> ∀q,H1 q=none->Q (.ref q) (upd H1 q (.lst vs))):=by
    rw[eh];rw[ae] at h;exact h.after X2
   refine⟨p,r,rfl,R2,k2,Ps.bd h2 λq b vb e3 R3 r3 h3=>?_⟩;subst r3;have A3:=(A.mono R X2).mono R2 e3;cases b with
   |false=>
    exact Nn ⟨q,acc,rfl,(X1.trans X2).trans e3,R3,A3,∅,h3⟩
   |true=>
    rw[if_pos rfl,ae] at h3;refine No ⟨q,r,rfl,R3,k2.mono R2 e3,Ps.bd h3 λq2 x vx e4 R4 r4 h4=>⟨?_,q2,acc++[x],rfl,((X1.trans X2).trans e3).trans e4,R4,(A3.mono R3 e4).app (Rvs.cons r4 Rvs.nil),?_,?_⟩⟩
    ·rw[(A3.mono R3 e4).len];omega
    ·rw[GQ,Hq];omega
    ·rw[ae] at h4;have ee:(λm=>bd (pr (x::m)) λm=>pr (acc++m))=(λm:List W=>(pr (acc++[x]++m):M (List W))):=by
      funext m h;show Rs.ok (acc++(x::m)) h=Rs.ok (acc++[x]++m) h;rw[Hc];rfl
     rw[ee] at h4;exact h4
 ·have ei:i=s.l.length:=∅;subst ei;rw[IE] at h;unfold Mn at h;obtain⟨hG,h⟩:=gs h;have h:Ps (cg X E) (Rvs X.K) o (pr (acc++[]) o.h) (λvs H1=> ∀q,H1 q=none->Q (.ref q) (upd H1 q (.lst vs))):=h;rw[Hn] at h;exact .inl ⟨sk.stop o X1 R hG,h.pr R A⟩
structure JQ (X:Cx)(E:XK)(ifs:List Expr)(f:Lx->M Bool):Prop where
 h:LH X ifs (tT (cg X E) f)
noncomputable def Ol:Lx->M Bool:=λ_=>pr true
theorem Ak:JQ X E [] Ol:=⟨λpins s σ H Q I h=>n6 pins s σ H Q I (by
 obtain⟨o,ρ,rfl,R,S,h⟩:=h
 exact Ps.pr (b:=true) h R rfl)⟩
theorem iK (hcalm:X.calm=true)(S:CScope X ls scope)(hi:JI X E tg iter src)(hg: ∀C s2 H2 fp,PG (cxC X ls scope C s2 H2 fp) tg gT)(ht:LU X.K ls.length gT t)
  (hf: ∀C s2 H2 fp,JQ (cxC X ls scope C s2 H2 fp) E ifs f)(he: ∀C s2 H2 fp,JE (cxC X ls scope C s2 H2 fp) E elt e)(hh:wh)
  (hs': ∀x,KP iter X.env x=pure x:=by intro _;rfl):JF X E (.ListComp elt [⟨tg,iter,ifs,0⟩] scope pos) (NV hs src t f e ls.length):=
 (n9 hcalm S hi.h hg (λC s2 H2 fp=>(hf C s2 H2 fp).h) (λC s2 H2 fp=>(he C s2 H2 fp).h) hs').impF λσ H Q h=>zq ht h
end
end
section
section
variable {X:Cx}{E:XK}{pos p:Kx}{a b:Expr}{l:Lx->M (List W)}
theorem Rvs.one {K:Zf}{w:W}(h:Rvs K o [w] vs): ∃v,vs=[v]/\Rv K o w v:=by
 unfold Rvs Rvs at h;obtain⟨v,r,rfl,h1,rfl⟩:=h;exact⟨v,rfl,h1⟩
theorem Rvs.two {K:Zf}{w x:W}(h:Rvs K o [w,x] vs): ∃v u,vs=[v,u]/\Rv K o w v/\Rv K o x u:=by
 unfold Rvs Rvs Rvs at h;obtain⟨v,r,rfl,h1,u,r2,rfl,h2,rfl⟩:=h;exact⟨v,u,rfl,h1,h2⟩
noncomputable def NM (ws:List W):M W:=match ws with
 |[.str z]=>gd (z.length<=sizeLine) (pr (.int z.length))
 |[.tup l]=>pr (.int l.length)
 |[w]=>bd (NR w) λl=>pr (.int l.length)
 |_=>no
theorem Ef:Lo X E (λxs H Q=>(λxs H Q=> ∃z,xs=[.str z]/\z.length<=sizeLine/\Q (.int z.length) H) xs H Q\/(λxs H Q=> ∃p ys,xs=[.ref p]/\(SqL X.K H p ys\/SqT X.K H p ys)/\Q (.int ys.length) H) xs H Q) NM:=by
 intro o ws vs Q R rv h;unfold NM at h;split at h
 ·obtain⟨v,rfl,r⟩:=rv.one;obtain⟨hz,h⟩:=h.gd;exact .inl ⟨_,by rw[Pz.mp r],hz,h.pr R (Px.mpr rfl)⟩
 ·obtain⟨v,rfl,r⟩:=rv.one;unfold Rv at r;obtain⟨a,us,rfl,s,r⟩:=r;exact .inr ⟨a,us,rfl,.inr s,by rw[r.len];exact h.pr R (Px.mpr rfl)⟩
 ·obtain⟨v,rfl,r⟩:=rv.one;obtain⟨l,a,us,rfl,s,r,h⟩:=eO R r h;exact .inr ⟨a,us,rfl,.inl s,by rw[r.len];exact h.pr R (Px.mpr rfl)⟩
 ·exact h.elim
theorem DG (hm:X.mg "len"=none)(ha:JA X E [a] l)(hg:Gl X "len")(he:Kz [a] X.env=(false,Kw a X.env)::Kz [] X.env)(hpl:(Ky pos (Kz [] X.env)).any (·.1)=false):JE X E (.Call (.Name "len" p) [a] [] pos) (NU NM l):=
 p8 (Mc.or oQ) Ef hg hm PySem.boot_len ha (he:=he) (hpl:=hpl)
noncomputable def M9 (ws:List W):M W:=match ws with
 |[.int i]=>pr (.int i)
 |[.bl k]=>pr (.int (if k then 1 else 0))
 |[.str z]=>match PySem.intText? z with
  |some n=>gd (z.length<=640) (pr (.int n))
  |none=>no
 |_=>no
theorem Eh:Lo X E (λxs H Q=>((∃i,xs=[.int i]/\Q (.int i) H)\/ ∃k,xs=[.bl k]/\Q (.int (if k then 1 else 0)) H)\/(λxs H Q=> ∃ (z:Str) (n:Int),xs=[.str z]/\PySem.intText? z=some n/\z.length<=640/\Q (.int n) H) xs H Q) M9:=by
 intro o ws vs Q R rv h;unfold M9 at h;split at h
 ·obtain⟨v,rfl,r⟩:=rv.one;exact .inl (.inl ⟨_,by rw[Px.mp r],h.pr R (Px.mpr rfl)⟩)
 ·obtain⟨v,rfl,r⟩:=rv.one;exact .inl (.inr ⟨_,by rw[Pw.mp r],h.pr R (Px.mpr rfl)⟩)
 ·obtain⟨v,rfl,r⟩:=rv.one;rename_i z;cases hn:PySem.intText? z with
  |some n=>
   rw[hn] at h;obtain⟨hz,h⟩:=h.gd;exact .inr ⟨_,n,by rw[Pz.mp r],hn,hz,h.pr R (Px.mpr rfl)⟩
  |none=>rw[hn] at h;exact h.elim
 ·exact h.elim
theorem Aw (hm:X.mg "int"=none)(ha:JA X E [a] l)(hg:Gl X "int")(he:Kz [a] X.env=(false,Kw a X.env)::Kz [] X.env)(hpl:(Ky pos (Kz [] X.env)).any (·.1)=false):JE X E (.Call (.Name "int" p) [a] [] pos) (NU M9 l):=
 j3 (Mb.or jO) Eh hg hm PyProof.Rows.boot_int ha (he:=he) (hpl:=hpl)
noncomputable def QD (ws:List W):M W:=match ws with
 |[.int i]=>gd (i.natAbs.log2<1920) (pr (.str (toString i)))
 |[.str z]=>pr (.str z)
 |_=>no
theorem Ee:Lo X E (λxs H Q=>(λxs H Q=> ∃i,xs=[.int i]/\i.natAbs.log2<1920/\Q (.str (toString i)) H) xs H Q\/(λxs H Q=> ∃ (z:Str),xs=[.str z]/\Q (.str z) H) xs H Q) QD:=by
 intro o ws vs Q R rv h;unfold QD at h;split at h
 ·obtain⟨v,rfl,r⟩:=rv.one;obtain⟨hz,h⟩:=h.gd;exact .inl ⟨_,by rw[Px.mp r],hz,h.pr R (Pz.mpr rfl)⟩
 ·obtain⟨v,rfl,r⟩:=rv.one;exact .inr ⟨_,by rw[Pz.mp r],h.pr R (Pz.mpr rfl)⟩
 ·exact h.elim
theorem Aq (hm:X.mg "str"=none)(ha:JA X E [a] l)(hg:Gl X "str")(he:Kz [a] X.env=(false,Kw a X.env)::Kz [] X.env)(hpl:(Ky pos (Kz [] X.env)).any (·.1)=false):JE X E (.Call (.Name "str" p) [a] [] pos) (NU QD l):=
 j3 (Md.or oO) Ee hg hm PyProof.Rows.boot_str ha (he:=he) (hpl:=hpl)
noncomputable def LZ (ws:List W):M W:=match ws with
 |[.int i]=>pr (.int (if i<0 then -i else i))
 |_=>no
theorem DM (hm:X.mg "abs"=none)(ha:JA X E [a] l)(hg:Gl X "abs")(he:Kz [a] X.env=(false,Kw a X.env)::Kz [] X.env)(hpl:(Ky pos (Kz [] X.env)).any (·.1)=false):JE X E (.Call (.Name "abs" p) [a] [] pos) (NU LZ l):=
 p8 yV (λo ws vs Q R rv h=>by
  unfold LZ at h;split at h
  ·obtain⟨v,rfl,r⟩:=rv.one;exact⟨_,by rw[Px.mp r],h.pr R (Px.mpr rfl)⟩
  ·exact h.elim) hg hm PyProof.Rows.boot_abs ha (he:=he) (hpl:=hpl)
noncomputable def iOf:W->Option Int
 |.int i=>some i
 |_=>none
noncomputable def sOf:W->Option Str
 |.str i=>some i
 |_=>none
theorem jy {K:Zf}{α:Type}{f:W->Option α}{g:α->V}(hf: ∀w a v,f w=some a->Rv K o w v->v=g a): ∀ {l:List W}{xs:List α}{vs:List V},OQ f l=some xs->Rvs K o l vs->vs=xs.map g
 |[],xs,vs,e,h=>by unfold Rvs at h;cases e;exact h
 |w::l,xs,vs,e,h=>by
  unfold Rvs at h;obtain⟨v,r,rfl,h1,h2⟩:=h;unfold OQ at e;split at e
  ·rename_i d ds e1 e2;cases e;rw[hf w d v e1 h1,jy hf e2 h2];rfl
  ·cases e
theorem yv {K:Zf}: ∀ (w:W) (a:Int) (v:V),iOf w=some a->Rv K o w v->v=.int a:=λw a v e h=>by
 cases w<;>first|(cases e;exact Px.mp h)|cases e
theorem wE {K:Zf}: ∀ (w:W) (a:Str) (v:V),sOf w=some a->Rv K o w v->v=.str a:=λw a v e h=>by
 cases w<;>first|(cases e;exact Pz.mp h)|cases e
noncomputable def jU (ws:List W):M W:=match ws with
 |[.tup l]=>pr (.tup l)
 |[w]=>bd (NR w) λl=>pr (.tup l)
 |_=>no
theorem xQ (hm:X.mg "tuple"=none)(ha:JA X E [a] l)(hg:Gl X "tuple")(he:Kz [a] X.env=(false,Kw a X.env)::Kz [] X.env)(hpl:(Ky pos (Kz [] X.env)).any (·.1)=false):JE X E (.Call (.Name "tuple" p) [a] [] pos) (NU jU l):=
 j3 mz (λo ws vs Q R rv h=>by
  unfold jU at h;split at h
  ·obtain⟨v,rfl,r⟩:=rv.one;have r0:=r;unfold Rv at r;obtain⟨a,us,rfl,s,r⟩:=r;exact⟨a,us,rfl,.inr ⟨s,h.pr R r0⟩⟩
  ·obtain⟨v,rfl,r⟩:=rv.one;obtain⟨l,a,us,rfl,s,r,h⟩:=eO R r h;exact⟨a,us,rfl,.inl ⟨s,λq hq=>ju R hq r h⟩⟩
  ·exact h.elim) hg hm PyProof.Rows.boot_tuple ha (he:=he) (hpl:=hpl)
noncomputable def NO (l:Lx->M (List W)):Lx->M (List W):=λρ=>bd (l ρ) λws=>match ws with
 |[.tup l]=>pr l
 |[w]=>NR w
 |_=>no
theorem ya {w:W}{Q:List V->Hp->Prop}(R:Rel X.K o)(hr:Rv X.K o w v)(h:Ps (cg X E) (Rvs X.K) o (NR w o.h) Q): ∃l a vs,v=.ref a/\SqL X.K o.H a vs/\Rvs X.K o l vs/\Q vs o.H:=by
 have e:NR w=bd (NR w) λl=>pr l:=by
  funext h;unfold bd;cases NR w h<;>rfl
 rw[e] at h;obtain⟨l,a,vs,e1,e2,e3,h⟩:=eO R hr h;exact⟨l,a,vs,e1,e2,e3,h.pr R e3⟩
theorem Ao (hm:X.mg "list"=none)(ha:JA X E [a] l)(hg:Gl X "list")(he:Kz [a] X.env=(false,Kw a X.env)::Kz [] X.env)(hpl:(Ky pos (Kz [] X.env)).any (·.1)=false):JF X E (.Call (.Name "list" p) [a] [] pos) (NO l):=
 (iH oP hg hm PyProof.Rows.boot_list ha.h (he:=he) (hpl:=hpl)).impF λσ H Q h=>by
  obtain⟨o,ρ,rfl,R,S,h⟩:=h;refine⟨o,ρ,rfl,R,S,Ps.bd h λp x vx e1 R1 r1 h1=>?_⟩;split at h1
  ·obtain⟨v,rfl,r⟩:=r1.one;unfold Rv at r;obtain⟨a,us,rfl,s,r⟩:=r;exact⟨a,us,rfl,.inr s,h1.pr R1 r⟩
  ·obtain⟨v,rfl,r⟩:=r1.one;obtain⟨l,a,us,rfl,s,r,q⟩:=ya R1 r h1;exact⟨a,us,rfl,.inl s,q⟩
  ·exact h1.elim
noncomputable def isS (w:W):M W:=match w with
 |.str z=>pr (.str z)
 |_=>no
noncomputable def Nv (x:W)(ws:List W):M W:=match x,ws with
 |.str sep,[w]=>bd (NQ w) λl=>match OQ sOf l with
  |some ts=>gd ((ts.map (·.length)).sum+ts.length * sep.length<=sizeLine) (pr (.str (Str.join sep ts)))
  |none=>no
 |_,_=>no
noncomputable def N7 (chk:W->M W)(f:W->List W->M W)(fo:Lx->M W)(l:Lx->M (List W)):Lx->M W:=λρ=>bd (fo ρ) λx=>bd (chk x) λx=>bd (l ρ) λws=>f x ws
variable {o e:Expr}{apos cpos:Kx}{fo:Lx->M W}
theorem Av (ho:JE X E o fo)(ha:JA X E [e] l)(hbase:KS o "join" X.env (Kw o X.env)=Kw o X.env)
  (hfew:((Ky cpos (Kz [e] X.env)).all (λx=>!x.1) && (KU cpos (KW [] X.env)).all (λx=>x.1.isSome) && decide (([e]:List Expr).length+([]:List K2).length+(if ([]:List K2).isEmpty then 0 else 1)<30))=true)
  (hline:(apos.endLine==cpos.line)=true)(hs:Kz [e] X.env=(false,Kw e X.env)::Kz [] X.env)(hplain:(Ky cpos (Kz [] X.env)).any (·.1)=false):
  JE X E (.Call (.Attribute o "join" apos) [e] [] cpos) (N7 isS Nv fo l):=
 (mW PySem.F.plainAttrs_str PySem.F.slot_str_join PySem.F.type_str_join Ad ho.h ha.h hbase hfew hline hs hplain).imp λσ H Q h=>by
  obtain⟨w,ρ,rfl,R,S,h⟩:=h;refine⟨w,ρ,rfl,R,S,Ps.bd h λp x vx e1 R1 r1 h1=>?_⟩;cases x with
  |str sep=>
   have h1:Ps (cg X E) (Rv X.K) p (bd (l ρ) (λws=>Nv (.str sep) ws) p.h) Q:=h1;rw[Pz.mp r1];refine⟨rfl,p,ρ,rfl,R1,S.mono R e1,Ps.bd h1 λq ws vs e2 R2 r2 h2=>?_⟩;rcases ws with _|⟨w',_|⟨_,_⟩⟩
   ·exact h2.elim
   ·have h2:Ps (cg X E) (Rv X.K) q (bd (NQ w') (λl=>match OQ sOf l with
     |some ts=>gd ((ts.map (·.length)).sum+ts.length * sep.length<=sizeLine) (pr (.str (Str.join sep ts)))
     |none=>no) q.h) Q:=h2
    obtain⟨v,rfl,r⟩:=r2.one;obtain⟨l',a,us,rfl,s,r,h2⟩:=c9 R2 r h2;cases e:OQ sOf l' with
    |none=>rw[e] at h2;exact h2.elim
    |some ts=>
     rw[e] at h2;rw[jy wE e r] at s;obtain⟨hz,h2⟩:=h2.gd;exact⟨sep,a,ts,rfl,rfl,.of s,hz,h2.pr R2 (Pz.mpr rfl)⟩
   ·exact h2.elim
  |_=>exact h1.elim
noncomputable def isL (w:W):M W:=match w with
 |.loc k=>λh=>match h[k]? with
  |some (.lst _)=>.ok (.loc k) h
  |_=>.bad
 |_=>no
theorem yo {α β:Type}{r:Wo->α->β->Prop}{o:Wo}{w:W}{v:V}{k:W->M α}{Q:β->Hp->Prop}(R:Rel X.K o)(hr:Rv X.K o w v)(h:Ps (cg X E) r o (bd (isL w) k o.h) Q):
  ∃j l vs,w=.loc j/\o.h[j]?=some (.lst l)/\v=.ref (o.mu j)/\j<o.h.length/\o.H (o.mu j)=some (.lst vs)/\Rvs X.K o l vs/\Ps (cg X E) r o (k (.loc j) o.h) Q:=by
 cases w with
 |loc j=>
  unfold Rv at hr;unfold isL bd at h;cases e:o.h[j]? with
  |none=>simp only[e] at h;exact h.elim
  |some b=>
   cases b with
   |lst l=>
    simp only[e] at h;obtain⟨vs,h1,h2⟩:=R.ob j _ e;exact⟨j,l,vs,rfl,e,hr.2,hr.1,h1,h2,h⟩
   |_=>simp only[e] at h;exact h.elim
 |_=>exact h.elim
noncomputable def ba (x:W)(ws:List W):M W:=match x,ws with
 |.loc k,[w]=>λh=>match h[k]? with
  |some (.lst l)=>if l.length<sizeLine then .ok .non (h.set k (.lst (l++[w]))) else .bad
  |_=>.bad
 |_,_=>no
theorem u3 (ho:JE X E o fo)(ha:JA X E [e] l)(hbase:KS o "append" X.env (Kw o X.env)=Kw o X.env)
  (hfew:((Ky cpos (Kz [e] X.env)).all (λx=>!x.1) && (KU cpos (KW [] X.env)).all (λx=>x.1.isSome) && decide (([e]:List Expr).length+([]:List K2).length+(if ([]:List K2).isEmpty then 0 else 1)<30))=true)
  (hline:(apos.endLine==cpos.line)=true)(hs:Kz [e] X.env=(false,Kw e X.env)::Kz [] X.env)(hplain:(Ky cpos (Kz [] X.env)).any (·.1)=false):
  JE X E (.Call (.Attribute o "append" apos) [e] [] cpos) (N7 isL ba fo l):=
 (mW PySem.F.plainAttrs_list PySem.F.slot_list_append PySem.F.type_list_append uW ho.h ha.h hbase hfew hline hs hplain).imp λσ H Q h=>by
  obtain⟨w,ρ,rfl,R,S,h⟩:=h;refine⟨w,ρ,rfl,R,S,Ps.bd h λp x vx e1 R1 r1 h1=>?_⟩;obtain⟨j,l0,vs0,rfl,hj,rfl,hlt,hH,hl0,h1⟩:=yo R1 r1 h1;refine⟨.inl ⟨rfl,vs0,.of hH⟩,p,ρ,rfl,R1,S.mono R e1,Ps.bd h1 λq ws vs e2 R2 r2 h2=>?_⟩;rcases ws with _|⟨w',_|⟨_,_⟩⟩
  ·exact h2.elim
  ·unfold ba at h2;cases e:q.h[j]? with
   |none=>simp only[e] at h2;exact h2.elim
   |some b=>
    cases b with
    |lst l'=>
     simp only[e] at h2;obtain⟨v,rfl,r⟩:=r2.one;obtain⟨us,k1,k2⟩:=R2.ob j _ e;by_cases z:l'.length<sizeLine
     ·rw[if_pos z] at h2;rw[e2.mu j hlt] at k1;refine⟨p.mu j,us,v,rfl,rfl,k1,by rw[k2.len];exact z,?_⟩;have:=Ps.at (p:=q.put j (.lst (l'++[w'])) (.lst (us++[v]))) (b:=V.non) h2 rfl (Ex.put e ⇑_) (R2.putL e ⇑_ (k2.app (Rvs.cons r Rvs.nil))) (Py.mpr rfl);have em:q.mu j=p.mu j:=e2.mu j hlt;have ew:(q.put j (.lst (l'++[w'])) (.lst (us++[v]))).H=upd q.H (p.mu j) (.lst (us++[v])):=by
       show upd q.H (q.mu j) _=_;rw[em]
      rw[ew] at this;exact this
     ·rw[if_neg z] at h2;exact h2.elim
    |_=>simp only[e] at h2;exact h2.elim
  ·exact h2.elim
noncomputable def M3 (w:W):M W:=match w with
 |.loc k=>λh=>match h[k]? with
  |some (.lst l)=>.ok (.tl l) (h.set k .gone)
  |some (.dic ks ws)=>.ok (.dv ks ws) (h.set k .gone)
  |some (.din b ks ws)=>.ok (.dn b ks ws) (h.set k .gone)
  |_=>.bad
 |w=>pr w
theorem BU {f:Lx->M W}(h:tM (cg X E) (m1 M3 f) σ H Q):tM (cg X E) f σ H Q:=by
 ac_nf;cases x with
 |loc k=>
  unfold Rv at r1;obtain⟨_,rfl⟩:=r1;unfold M3 at h1;dsimp only at h1;split at h1
  ·rename_i l hl;exact Ps.at (p:=p.ice k) h1 rfl Ex.ice R1.ice (Rv.iceL R1 hl)
  ·rename_i ks ws hl;exact Ps.at (p:=p.ice k) h1 rfl Ex.ice R1.ice (Rv.iceD R1 hl)
  ·rename_i b ks ws hl;exact Ps.at (p:=p.ice k) h1 rfl Ex.ice R1.ice (Rv.iceN R1 hl)
  ·exact h1.elim
 |_=>exact Ps.pr (c:=cg X E) h1 R1 r1
theorem rS {f:Lx->M W}(h:JE X E e f):JE X E e (m1 M3 f):=h.h.imp λ_ _ _ q=>BU q
noncomputable def Om {κ:Type} [DecidableEq κ]:List κ->List W->κ->W->List W
 |k::ks,w::ws,x,y=>(if k=x then y else w)::Om ks ws x y
 |_,_,_,_=>[]
noncomputable def Pe {κ:Type} [DecidableEq κ] (ks:List κ)(ws:List W)(x:κ)(y:W):List κ×List W:=if (ks.any λk=>decide (k=x))=true then (ks,Om ks ws x y) else (ks++[x],ws++[y])
noncomputable def dH (x i v:W):M Unit:=match x with
 |.loc k=>λh=>match h[k]? with
  |some (.lst l)=>match i with
   |.int n=>match ixN l.length n with
    |some j=>.ok () (h.set k (.lst (l.set j v)))
    |none=>.bad
   |_=>.bad
  |some (.dic ks ws)=>match Ny i with
   |some q=>if ks.length<sizeLine then .ok () (h.set k (.dic (Pe ks ws q v).1 (Pe ks ws q v).2)) else .bad
   |none=>.bad
  |some (.dit ks ws)=>match i with
   |.kt q=>if ks.length<sizeLine then .ok () (h.set k (.dit (Pe ks ws q v).1 (Pe ks ws q v).2)) else .bad
   |_=>.bad
  |_=>.bad
 |_=>no
noncomputable def Pj:LS:=λo i v H Q=> ∃a H',o=.ref a/\DPut H a i v H'/\Q H'
theorem pA (hu:X.A.units+1<Kg):PSet X Pj:=by
 intro pins s σ H o i v ov iv u Q I ro ri rv h;obtain⟨a,H',rfl,g,q⟩:=h;cases ro;exact vD hu I g ri rv λs4 I4=>⟨H',I4,q⟩
theorem PSet.or (h:PSet X t)(h':PSet X t'):PSet X (λo i v H Q=>t o i v H Q\/t' o i v H Q):=by
 intro pins s σ H o i v ov iv u Q I ro ri rv q;rcases q with q|q
 ·exact h pins s σ H o i v ov iv u Q I ro ri rv q
 ·exact h' pins s σ H o i v ov iv u Q I ro ri rv q
theorem qa {κ:Type} [DecidableEq κ] {K:Zf}{o:Wo}{x:κ}{y:W}{v:V}(hy:Rv K o y v): ∀ {ks:List κ}{ws:List W}{kvs:List (κ×V)},kvs.map (·.1)=ks->Rvs K o ws (kvs.map (·.2))->Rvs K o (Om ks ws x y) ((kvs.map λkv=>if kv.1=x then (kv.1,v) else kv).map (·.2))
 |_,ws,[],e,h=>by subst e;unfold Om;exact Rvs.nil
 |_,ws,(k,u)::r,e,h=>by
  subst e;cases ws with
  |nil=>unfold Rvs at h;cases h
  |cons w ws=>
   unfold Rvs at h;obtain⟨u',r',e',h1,h2⟩:=h;cases e';have ih:=qa (x:=x) hy (ks:=r.map (·.1)) (ws:=ws) (kvs:=r) rfl h2;show Rvs K o ((if k=x then y else w)::Om (r.map (·.1)) ws x y) ((if k=x then (k,v) else (k,u)).2::_);by_cases z:k=x
   ·rw[if_pos z,if_pos z];exact Rvs.cons hy ih
   ·rw[if_neg z,if_neg z];exact Rvs.cons h1 ih
theorem jr {κ:Type} [DecidableEq κ] {K:Zf}{o:Wo}{x:κ}{y:W}{v:V}{ks:List κ}{ws:List W}{kvs:List (κ×V)}(hy:Rv K o y v)(hk:kvs.map (·.1)=ks)(h:Rvs K o ws (kvs.map (·.2))):
  (Pb kvs x v).map (·.1)=(Pe ks ws x y).1/\Rvs K o (Pe ks ws x y).2 ((Pb kvs x v).map (·.2)):=by
 subst hk;have ea:((kvs.map (·.1)).any λk=>decide (k=x))=(kvs.any λkv=>decide (kv.1=x)):=by rw[List.any_map];rfl
 unfold Pb Pe;rw[ea];by_cases z:(kvs.any λkv=>decide (kv.1=x))=true
 ·rw[if_pos z,if_pos z];refine⟨?_,qa hy rfl h⟩;rw[Hw];refine Ir λkv _=>?_;show (if kv.1=x then (kv.1,v) else kv).1=kv.1;split<;>rfl
 ·rw[if_neg z,if_neg z];refine⟨⇑_,?_⟩;show Rvs K o (ws++[y]) ((kvs++[(x,v)]).map (·.2));rw[GX];exact h.app (Rvs.cons hy Rvs.nil)
noncomputable def bg (fo fi fv:Lx->M W):Lx->M Fl:=λρ=>bd (fv ρ) λv=>bd (fo ρ) λx=>bd (fi ρ) λi=>bd (dH x i v) λ_=>pr (.nx ρ)
variable {i value:Expr}{tpos:Kx}{fi fv:Lx->M W}
theorem xO (hu:X.A.units+1<Kg)(ho:JE X E o fo)(hi:JE X E i fi)(hv:JE X E value fv)
  (ha: ∀v,assign (.Subscript o i tpos) X.env v=(do
   let ov<-KF [v] (Kw o X.env);let iv<-KF [v,ov] (Kw i X.env)
   KE tpos
   KF [v,ov,iv] (setItem ov iv v)
   release [v,ov,iv] []))
  (hs:swapsWithSole [.Subscript o i tpos] value pos.line X.env=pure false)(hw:swappedStores [.Subscript o i tpos] value X.env=pure none)
  (h1:(KH [.Subscript o i tpos] X.env).map (·.2)=[assign (.Subscript o i tpos) X.env]):JS X E (.Assign [.Subscript o i tpos] value pos) (bg fo fi fv):=
 (wV hv.h (Cl ho.h hi.h (Qa.or (pA hu)) ha) hs hw h1).imp λD σ H h=>by
  obtain⟨w,ρ,rfl,R,S,h⟩:=h;refine⟨w,ρ,rfl,R,S,Ps.bd h λp v vv e1 R1 r1 h1=>⟨p,ρ,rfl,R1,S.mono R e1,Ps.bd h1 λq x vx e2 R2 r2 h2=>⟨q,ρ,rfl,R2,(S.mono R e1).mono R1 e2,Ps.bd h2 λs i vi e3 R3 r3 h3=>?_⟩⟩⟩;have S3:=((S.mono R e1).mono R1 e2).mono R2 e3;have rv:=(r1.mono R1 e2).mono R2 e3;have rx:=r2.mono R2 e3;cases x with
  |loc k=>
   unfold Rv at rx;obtain⟨hk,rfl⟩:=rx;unfold dH bd at h3;cases e:s.h[k]? with
   |none=>simp only[e] at h3;exact h3.elim
   |some b=>
    cases b with
    |ins c ns ws=>simp only[e] at h3;exact h3.elim
    |din b ks ws=>simp only[e] at h3;exact h3.elim
    |gone=>simp only[e] at h3;exact h3.elim
    |lst l=>
     simp only[e] at h3;cases i with
     |int n=>
      simp only at h3;cases ej:ixN l.length n with
      |none=>simp only[ej] at h3;exact h3.elim
      |some j=>
       simp only[ej] at h3;obtain⟨us,k1,k2⟩:=R3.ob k _ e;refine .inl ⟨_,us,n,j,rfl,Px.mp r3,k1,by rw[k2.len];exact ej,?_⟩;exact Ps.at (p:=s.put k (.lst (l.set j v)) (.lst (us.set j vv))) (b:=FlV.nx σ) h3 rfl (Ex.put e ⇑_) (R3.putL e ⇑_ (k2.set rv j)) ⟨σ,rfl,S3.mono R3 (Ex.put e ⇑_)⟩
     |_=>exact h3.elim
    |dit ks ws=>
     simp only[e] at h3;cases i with
     |kt x=>
      simp only at h3;by_cases z:ks.length<sizeLine
      ·simp only[if_pos z] at h3;obtain⟨kvs,k1,k2,k3⟩:=R3.ob k _ e;unfold Rv at r3;obtain⟨b,rfl,hb⟩:=r3;obtain⟨b1,b2⟩:=jr (x:=x) rv k2 k3;refine .inr ⟨_,_,rfl,.inr ⟨kvs,x,b,k1,rfl,hb,by rw[<-k2,GN] at z;exact z,rfl⟩,?_⟩;exact Ps.at (p:=s.put k (.dit (Pe ks ws x v).1 (Pe ks ws x v).2) (.dT (Pb kvs x vv))) (b:=FlV.nx σ) h3 rfl (Ex.put e ⇑_) (R3.putT e ⇑_ b1 b2) ⟨σ,rfl,S3.mono R3 (Ex.put e ⇑_)⟩
      ·simp only[if_neg z] at h3;exact h3.elim
     |_=>exact h3.elim
    |dic ks ws=>
     simp only[e] at h3;cases ej:Ny i with
     |none=>simp only[ej] at h3;exact h3.elim
     |some x=>
      simp only[ej] at h3;by_cases z:ks.length<sizeLine
      ·simp only[if_pos z] at h3;obtain⟨kvs,k1,k2,k3⟩:=R3.ob k _ e;rw[fY ej r3];obtain⟨b1,b2⟩:=jr (x:=x) rv k2 k3;refine .inr ⟨_,_,rfl,.inl ⟨kvs,x,k1,rfl,by rw[<-k2,GN] at z;exact z,rfl⟩,?_⟩;exact Ps.at (p:=s.put k (.dic (Pe ks ws x v).1 (Pe ks ws x v).2) (.dK (Pb kvs x vv))) (b:=FlV.nx σ) h3 rfl (Ex.put e ⇑_) (R3.putD e ⇑_ b1 b2) ⟨σ,rfl,S3.mono R3 (Ex.put e ⇑_)⟩
      ·simp only[if_neg z] at h3;exact h3.elim
  |_=>exact h3.elim
end
end
section
noncomputable def Pr (n:Nat)(g:Lx->M Fl)(ws:List W):M W:=bd (g (ws.map some++List.replicate (n - ws.length) none)) λx=>match x with
 |.rt w=>pr w
 |.nx _=>pr .non
 |_=>no
section
variable {P:J8}{w:J9}{K:Zf}{mg:Str->Option J6}{base:Ka}{x qual:Str}{st:KA}{f:Kb}{fd:KY}{N ps:List Str}{k:Nat}{g:Lx->M Fl}
noncomputable def Qq (K:Zf)(mg:Str->Option J6)(n:Nat)(f:List W->M W):Sp:=λvs H Q _=> ∃o ws,o.H=H/\ws.length=n/\Rel K o/\Rvs K o ws vs/\Ps ⟨K,mg,E0⟩ (Rv K) o (f ws o.h) Q
theorem BD {n m:Nat}{fn:List W->M W}(F:Fun K x qual st f fd)(S:Lz N ps (af st))(hn:N.length=n)(hm:ps.length=m)(hf:fn=Pr n g)
  (hb: ∀ (cdv:J6) (A:Kf) (outer:List Env) (s:Kd) (H:Hp) (E:XK),Room k (A.deeper (K5 qual (af st) ↥s f cdv))->JSs (Mt CX0 P w K mg base N qual (af st) f cdv A outer s H E).nox E0 (bO st) g):
  FnOk P w K mg base CX0 (k+1) f fd ps (Qq K mg m fn):=by
 subst hn hm hf;refine F.ok S (λvs H Q E h=>?_) (λcdv A outer s H vs Q E hr h=>?_)
 ·obtain⟨o,ws,_,hl,_,rv,_⟩:=h;rw[rv.len,hl]
 ·obtain⟨o,ws,rfl,hl,R,rv,h⟩:=h;refine⟨_,(hb cdv A outer s o.H E hr).h,?_⟩;have e:Qz N vs=vs.map some++List.replicate (N.length - ws.length) none:=by unfold Qz;rw[rv.len]
  rw[e];refine⟨o,_,rfl,R,Re.args _ rv,Ps.bd h λp x b e1 R1 r1 h1=>?_⟩;cases x with
  |rt w=>obtain⟨v,rfl,r⟩:=r1;exact h1.pr R1 r
  |nx r=>obtain⟨s,rfl,r⟩:=r1;exact h1.pr R1 (Py.mpr rfl)
  |bk r=>exact h1.elim
  |ct r=>exact h1.elim
theorem Ed {m:Nat}{fn:List W->M W}(h:∀ws h,fn ws h=.bad):FnOk P w K mg base CX0 k f fd ps (Qq K mg m fn):=by
 have no: ∀vs H Q E,¬Qq K mg m fn vs H Q E:=λvs H Q E ⟨o,ws,_,_,_,_,q⟩=>by rw[h] at q;exact q
 exact⟨λvs H Q E h=>absurd h (no vs H Q E),λA outer s H args us vs Q E _ _ _ _ h=>absurd h (no vs H Q E)⟩
structure CG (P:J8)(w:J9)(K:Zf)(mg:Str->Option J6)(base:Ka)(k:Nat)(x:Str)(f:Kb)(fd:KY)(ps:List Str)(m:Nat)(fn:List W->M W):Prop where
 ok:FnOk P w K mg base CX0 k f fd ps (Qq K mg m fn)
 bi:Binds K fd ps []
 kp:J4 K (.ref f)=true
 mg:mg x=some (.ref f)
end
noncomputable def arW (n:Nat)(f:List W->M W)(ws:List W):M W:=if ws.length=n then f ws else no
section
variable {X:Cx}{p pos:Kx}{e:Expr}{es:List Expr}{l:Lx->M (List W)}{f:List W->M W}{k:Nat}{fA:Kb}{fd:KY}{ps:List Str}{x:Str}
theorem Fs {m:Nat}(C:CG X.prog X.w X.K X.mg X.base k x fA fd ps m f)(hr:Room k X.A)(ha:JA X E0 (e::es) l)(hg:Gl X x:=by rfl)
  (hdb:(x==("__debug__":Str))=false:=by decide)(he:Kz (e::es) X.env=(false,Kw e X.env)::Kz es X.env:=by rfl)(hpl:(Ky pos (Kz es X.env)).any (·.1)=false:=by rfl):
  JE X E0 (.Call (.Name x p) (e::es) [] pos) (NU (arW m f) l):=(dP C.ok hr hg C.mg C.kp C.bi .nil OT ha.h hdb he hpl).imp λσ H Q h=>by
 ac_nf;unfold arW at h1;by_cases z:x.length=m
 ·rw[if_pos z] at h1;exact⟨p,x,rfl,z,R1,by rw[Hn];exact r1,h1⟩
 ·rw[if_neg z] at h1;exact h1.elim
end
section
variable {X:Cx}{E:XK}{p pos:Kx}
noncomputable def Oy (n:Int):List W->List W
 |[]=>[]
 |w::l=>.tup [.int n,w]::Oy (n+1) l
theorem hV: ∀ (l:List W) (n:Int),(Oy n l).length=l.length
 |[],_=>rfl
 |w::l,n=>by rw[Oy,GT,GT,hV l]
theorem hZ: ∀ (l:List W) (n:Int) (i:Nat) (w:W),(Oy n l)[i]?=some w-> ∃x,l[i]?=some x/\w=.tup [.int (n+i),x]
 |[],_,_,_,h=>by simp [Oy] at h
 |x::l,n,0,w,h=>by rw[Oy] at h;cases h;exact⟨x,rfl,⇑_⟩
 |x::l,n,i+1,w,h=>by
  rw[Oy,Ih] at h;obtain⟨y,e1,e2⟩:=hZ l (n+1) i w h;exact⟨y,by simpa using e1,by rw[e2];congr 3;omega⟩
noncomputable def MB (ws:List W):M Sr:=match ws with
 |[w]=>bd (Qv w) λs=>pr ⟨Oy 0 s.l,s.G⟩
 |_=>no
theorem sM {α β:Type}{r:Wo->α->β->Prop}{w:W}{k:Sr->M α}{Q:β->Hp->Prop}(R:Rel X.K o)(hr:Rv X.K o w v)(h:Ps (cg X E) r o (bd (Qv w) k o.h) Q):
  ∃s a,v=.ref a/\(∃vs,SqL X.K o.H a vs)/\(∀p,Ex o p->Rel X.K p->s.G p.h-> ∃vs,SqL X.K p.H a vs/\Rvs X.K p s.l vs)/\Ps (cg X E) r o (k s o.h) Q:=by
 cases w with
 |tl l=>
  unfold Rv at hr;obtain⟨a,vs,rfl,s,n,r⟩:=hr;exact⟨⟨l,λ_=>True⟩,a,rfl,⟨vs,.of s⟩,λp X _ _=>⟨vs,.of (X.fr a _ s n).1,r.mono R X⟩,h⟩
 |cl l=>
  unfold Rv at hr;obtain⟨a,vs,rfl,s,r⟩:=hr;have sq: ∀q,Ex o q->SqL X.K q.H a vs:=λq X=>by
   rcases s with⟨s,n⟩|s
   ·exact .inl (X.rd s n).1
   ·exact .inr s
  exact⟨⟨l,λ_=>True⟩,a,rfl,⟨vs,sq o (Ex.refl _)⟩,λp X _ _=>⟨vs,sq p X,r.mono R X⟩,h⟩
 |loc j=>
  unfold Rv at hr;obtain⟨hj,rfl⟩:=hr;unfold Qv bd at h;cases e:o.h[j]? with
  |none=>simp only[e] at h;exact h.elim
  |some b=>
   cases b with
   |lst l=>
    simp only[e] at h;obtain⟨vs,h1,h2⟩:=R.ob j _ e;refine⟨⟨l,λh=>h[j]?=some (.lst l)⟩,_,rfl,⟨vs,.of h1⟩,λp X Rp g=>?_,h⟩;obtain⟨vs',h5,h6⟩:=Rp.ob j _ g;rw[X.mu j hj] at h5;exact⟨vs',.of h5,h6⟩
   |_=>simp only[e] at h;exact h.elim
 |_=>exact h.elim
theorem Am {x1}{fl:Lx->M (List W)}(hm:X.mg "enumerate"=none)(ha:JA X E [a] fl)(hg:Gl X "enumerate")(hs:Kz [a] X.env=[(false,Kw a X.env)]):
  JI X E (.Tuple elts x1 tpos) (.Call (.Name "enumerate" p) [a] [] pos) (Oh fl MB):=(zO hg hm ha.h hs).imp λσ H Q h=>by
 ac_nf;rcases x with _|⟨w,_|⟨_,_⟩⟩
 ·exact h1.elim
 ·have h1:Ps (cg X E) (λp s J=>LQ X.K p J s) p (bd (Qv w) (λs=>pr ⟨Oy 0 s.l,s.G⟩) p.h) Q:=h1;obtain⟨v,rfl,r⟩:=r1.one;obtain⟨s,a,rfl,hq,sk,h1⟩:=sM R1 r h1;refine⟨a,rfl,hq,h1.pr R1 ⟨λo X R g=>?_,λo i w X R g e=>?_⟩⟩
  ·obtain⟨vs,k1,k2⟩:=sk o X R g;exact⟨vs,k1,by rw[k2.len];exact (hV _ _).symm⟩
  ·obtain⟨vs,k1,k2⟩:=sk o X R g;obtain⟨x,e1,rfl⟩:=hZ _ _ _ _ e;obtain⟨v,hv,rv⟩:=k2.get e1;refine⟨⟨vs,v,k1,hv⟩,λy H' q=>?_⟩;obtain⟨T,z,hT,rfl,hz,rfl⟩:=q;have:z=v:=by have:=hz vs k1;rw[hv] at this;exact (Option.some.inj this).symm
   subst this;refine⟨⟨o.mu,o.h,upd o.H T (.tup [.int i,z])⟩,rfl,rfl,Ex.new hT,R.new hT,Rv.newT R hT (Rvs.cons (Px.mpr ⇑_) (Rvs.cons rv Rvs.nil))⟩
 ·exact h1.elim
noncomputable def PX (t:W->Lx->Option Lx)(f:Lx->M W):Lx->M Fl:=λρ=>bd (f ρ) λw=>match t w ρ with
 |some r=>pr (.nx r)
 |none=>no
theorem De {m:Nat}{t:W->Lx->Option Lx}{f:Lx->M W}(he:JE X E e f)(hg:PG X tg gT)(ht:LU X.K m gT t)(hs:swapsWithSole [tg] e pos.line X.env=pure false:=by rfl)(hw:swappedStores [tg] e X.env=pure none:=by rfl)
  (h1:(KH [tg] X.env).map (·.2)=[assign tg X.env]:=by rfl):JS X E (.Assign [tg] e pos) (PX t f):=(wV he.h hg hs hw h1).imp λD σ H h=>by
 ac_nf;cases et:t x ρ with
 |none=>rw[et] at h1;exact h1.elim
 |some r=>
  rw[et] at h1;obtain⟨σ2,k1,k2,_,_⟩:=ht.ok p x vx ρ r σ r1 (S.mono R e1) et;exact k1 _ (Ps.pr (b:=FlV.nx σ2) h1 R1 ⟨σ2,rfl,k2⟩)
end
end
section
section
variable {X:Cx}{E:XK}{p pos:Kx}{b:Expr}
noncomputable def NY:Lx->M W:=λ_ h=>.ok (.loc h.length) (h++[.dic [] []])
theorem Rv.addLoc {K:Zf}{o:Wo}{q:Kb}{b:Ob}{u:HO}:Rv K (o.add q b u) (.loc o.h.length) (.ref q):=by
 unfold Rv;exact⟨by show _<(o.h++[b]).length;simp,by show V.ref q=V.ref (if o.h.length=o.h.length then q else _);rw[if_pos rfl]⟩
theorem Ay:JE X E (.Dict [] [] pos) NY:=OX.imp λσ H Q h=>by
 obtain⟨o,ρ,rfl,R,S,h⟩:=h;intro q hq;exact Ps.at (p:=o.add q (.dic [] []) (.dK [])) h rfl (Ex.add hq) (R.addD hq rfl Rvs.nil) Rv.addLoc
end
end
section
section
variable {X:Cx}{E:XK}{p pos:Kx}{a b c:Expr}{fa fb fc:Lx->M W}
noncomputable def br (f g:W->W->M W)(fa fb fc:Lx->M W):Lx->M W:=λρ=>bd (fa ρ) λx=>bd (fb ρ) λy=>bd (f x y) λz=>bd (asB z) λk=>if k=true then bd (fc ρ) λw=>g y w else pr (.bl false)
theorem wb {f g:W->W->M W}(hf: ∀ (o:Wo) (x y:W) (vx vy:V) (Q:VK),Rel X.K o->Rv X.K o x vx->Rv X.K o y vy->Ps (cg X E) (Rv X.K) o (f x y o.h) Q->r vx vy o.H Q)(hg:OpM X E r' g)(h:tM (cg X E) (br f g fa fb fc) σ H Q):wd r r' (tM (cg X E) fa) (tM (cg X E) fb) (tM (cg X E) fc) σ H Q:=by
 obtain⟨o,ρ,rfl,R,S,h⟩:=h;refine⟨o,ρ,rfl,R,S,Ps.bd h λp x vx e1 R1 r1 h1=>⟨p,ρ,rfl,R1,S.mono R e1,Ps.bd h1 λq y vy e2 R2 r2 h2=>hf q x y vx vy _ R2 (r1.mono R1 e2) r2 (Ps.bd h2 λs z vz e3 R3 r3 h3=>?_)⟩⟩;obtain⟨k,rfl,rfl,h3⟩:=oX r3 h3;refine⟨k,rfl,?_⟩;cases k with
 |false=>exact Nn (h3.pr R3 (Pw.mpr rfl))
 |true=>exact No ⟨s,ρ,rfl,R3,((S.mono R e1).mono R1 e2).mono R2 e3,Ps.bd h3 λu w vw e4 R4 r4 h4=>hg u y w vy vw Q R4 ((r2.mono R2 e3).mono R3 e4) r4 h4⟩
theorem xK {f g:W->W->M W}(ho:OpR X (KC op) r)(hf:OpM X E r f)(ho':OpR X (KC op') r')(hg:OpM X E r' g)(ha:JE X E a fa)(hb:JE X E b fb)(hc:JE X E c fc)
 (hm:lastMarks [op,op'] [b,c]=false:=by with_unfolding_all rfl):JT X E (.Compare a [op,op'] [b,c] pos) (mB (br f g fa fb fc)):=(wU ho ho' ha.h hb.h hc.h hm).imp λ_ _ _ h=>wb hf hg (BV h)
end
section
variable {es:List Expr}{env:Env}{pos:Kx}
theorem C5:(Ky pos (Kz [] env)).any (·.1)=false:=by rfl
theorem zZ (hs:Kz (e::es) env=(false,Kw e env)::Kz es env)(h:(Ky pos (Kz es env)).any (·.1)=false):(Ky pos (Kz (e::es) env)).any (·.1)=false:=by
 rw[hs];show ((false||(Ky pos (Kz es env)).any (·.1)):Bool)=false;rw[h];rfl
end
section
variable {P:J8}{w:J9}{K:Zf}{mg:Str->Option J6}{base:Ka}{f:Kb}{fd:KY}{ps:List Str}{k:Nat}{sp:Sp}
theorem yE (F:FnOk P w K mg base (CXx P w) k f fd ps sp)(h:∀vs H Q E,sp' vs H Q E->sp vs H Q E0):FnOk P w K mg base CX0 k f fd ps sp':=
 ⟨λvs H Q E q=>F.len vs H Q E0 (h _ _ _ _ q),λA outer s H args us vs Q E hr he hb hv hs=>KZ (F.run A outer s H args us vs Q E0 hr he hb hv (h _ _ _ _ hs)) λr s' q=>by
  cases r with
  |ok fl=>cases fl<;>exact q
  |error e=>
   obtain⟨_,_,_,_,_,_,_,_,_,_,_,_,_,_,z⟩:=q
   exact z.elim⟩
theorem pk {ws:List W}(R:Rel K o)(g:Same o.H H')(hv:Rv K ⟨o.mu,o.h,H'⟩ wv v)(h:Ps ⟨K,mg,E0⟩ (Rv K) o (pr wv o.h) Q):Q v H':=
 Ps.at (p:=⟨o.mu,o.h,H'⟩) h rfl (Ex.same g) (R.same g) hv
end
end
section
section
variable {X:Cx}{E:XK}{p pos:Kx}{a b:Expr}{l:Lx->M (List W)}
variable {x:Str}{m:Nat}
noncomputable def Mh (fa fb:Lx->M W):Lx->M (List W):=λρ=>bd (fa ρ) λx=>bd (fb ρ) λy=>bd (NQ x) λa=>bd (NQ y) λb=>gd (a.length+b.length<=sizeLine) (pr (a++b))
theorem Dp {fa fb:Lx->M W}(ha:JE X E a fa)(hb:JE X E b fb):JF X E (.BinOp a .Add b pos) (Mh fa fb):=(pU xo ha.h hb.h).impF λσ H Q h=>by
 obtain⟨o,ρ,rfl,R,S,h⟩:=h;refine⟨o,ρ,rfl,R,S,Ps.bd h λp x vx e1 R1 r1 h1=>⟨p,ρ,rfl,R1,S.mono R e1,Ps.bd h1 λq y vy e2 R2 r2 h2=>?_⟩⟩;obtain⟨l,a,vs,rfl,s1,r3,h3⟩:=c9 R2 (r1.mono R1 e2) h2;obtain⟨m,b,us,rfl,s2,r4,h4⟩:=c9 R2 r2 h3;obtain⟨hz,h4⟩:=h4.gd;exact⟨a,b,vs,us,rfl,rfl,s1,s2,by rw[r3.len,r4.len];exact hz,h4.pr R2 (r3.app r4)⟩
end
end
end L2
namespace L2
open PySem
theorem dG {α β:Type}{f:M α}{g:α->M β}{a:α}(e:f h=.ok a h'):bd f g h=g a h':=by unfold bd;rw[e]
@[simp] theorem bd_pr {α β:Type}(a:α)(g:α->M β):bd (pr a) g=g a:=rfl
@[simp] theorem bd_no {α β:Type}(g:α->M β):bd (no:M α) g=no:=rfl
theorem ah {α:Type}{p:Prop} [Decidable p] {m:M α}(hp:p):gd p m=m:=by funext h;unfold gd;rw[if_pos hp]
@[simp] theorem addW_int (i j:Int):L6 (.int i) (.int j)=pr (.int (i+j)):=rfl
theorem ze {a b:Str}(h:a.length+b.length<=sizeLine):L6 (.str a) (.str b)=pr (.str (a++b)):=by unfold L6;exact ah h
@[simp] theorem subW_int (i j:Int):QE (.int i) (.int j)=pr (.int (i - j)):=ah trivial
theorem ic {i j:Int}(h:Lm i j):Oq (.int i) (.int j)=pr (.int (i * j)):=by unfold Oq;exact ah h
theorem xI {i j:Int}(h1: -(2 ^ 64)<i)(h2:i<2 ^ 64):Lm i j:=.inl (.inl ⟨h1,h2⟩)
theorem xH {i j:Int}(h1: -(2 ^ 64)<j)(h2:j<2 ^ 64):Lm i j:=.inl (.inr ⟨h1,h2⟩)
theorem cV {i j:Int}(h1:0<j)(h2:j<2 ^ 200):MN (.int i) (.int j)=pr (.int (i / j)):=ah ⟨h1,h2⟩
theorem ak {i j:Int}(h1:0<j):On (.int i) (.int j)=pr (.int (i % j)):=ah h1
theorem pT {i j:Int}(h:Ln i j):O7 (.int i) (.int j)=pr (.int (i ^ j.toNat)):=ah h
@[simp] theorem ltW_int (i j:Int):ltW (.int i) (.int j)=pr (.bl (decide (i<j))):=ah trivial
@[simp] theorem leW_int (i j:Int):leW (.int i) (.int j)=pr (.bl (decide (i<=j))):=ah trivial
@[simp] theorem gtW_int (i j:Int):gtW (.int i) (.int j)=pr (.bl (decide (j<i))):=ah trivial
@[simp] theorem geW_int (i j:Int):geW (.int i) (.int j)=pr (.bl (decide (j<=i))):=ah trivial
@[simp] theorem asB_bl (b:Bool):asB (.bl b)=pr b:=rfl
@[simp] theorem eqW_int (i j:Int):eqW (.int i) (.int j)=pr (.bl (decide (i=j))):=by
  funext h;show Rs.ok (W.bl (decide (V.int i=V.int j))) h=Rs.ok (W.bl (decide (i=j))) h;congr 2;rw[decide_eq_decide];exact⟨V.int.inj,congrArg _⟩
@[simp] theorem eqW_str (i j:Str):eqW (.str i) (.str j)=pr (.bl (decide (i=j))):=by
  funext h;show Rs.ok (W.bl (decide (V.str i=V.str j))) h=Rs.ok (W.bl (decide (i=j))) h;congr 2;rw[decide_eq_decide];exact⟨V.str.inj,congrArg _⟩
@[simp] theorem neW_int (i j:Int):neW (.int i) (.int j)=pr (.bl (!decide (i=j))):=by
  funext h;show Rs.ok (W.bl (!decide (V.int i=V.int j))) h=Rs.ok (W.bl (!decide (i=j))) h;congr 3;rw[decide_eq_decide];exact⟨V.int.inj,congrArg _⟩
@[simp] theorem neW_str (i j:Str):neW (.str i) (.str j)=pr (.bl (!decide (i=j))):=by
  funext h;show Rs.ok (W.bl (!decide (V.str i=V.str j))) h=Rs.ok (W.bl (!decide (i=j))) h;congr 3;rw[decide_eq_decide];exact⟨V.str.inj,congrArg _⟩
@[simp] theorem neW_bl (i j:Bool):neW (.bl i) (.bl j)=pr (.bl (!decide (i=j))):=by
  funext h;show Rs.ok (W.bl (!decide (V.bl i=V.bl j))) h=Rs.ok (W.bl (!decide (i=j))) h;congr 3;rw[decide_eq_decide];exact⟨V.bl.inj,congrArg _⟩
theorem cp {i:Int}{w:W}(h:atI l i=some w):ixW (.tl l) (.int i)=pr w:=by
 funext hh;unfold ixW;have:ixO (.tl l) (.int i) hh=some w:=h;rw[this];rfl
theorem dy {i:Int}{w:W}(h:atI l i=some w):ixW (.tup l) (.int i)=pr w:=by
 funext hh;unfold ixW;have:ixO (.tup l) (.int i) hh=some w:=h;rw[this];rfl
@[simp] theorem slW_tl (l:List W)(lo hi:Option Int):slW (.tl l) lo hi=pr (.tl (Ms l lo hi)):=rfl
@[simp] theorem slW_cl (l:List W)(lo hi:Option Int):slW (.cl l) lo hi=pr (.tl (Ms l lo hi)):=rfl
@[simp] theorem lenW_tl (l:List W):NM [.tl l]=pr (.int l.length):=rfl
@[simp] theorem lenW_tup (l:List W):NM [.tup l]=pr (.int l.length):=rfl
theorem sD {n:Nat}{f:List W->M W}{ws:List W}(h:ws.length=n):arW n f ws=f ws:=if_pos h
theorem wj {i:Int}(h:i.natAbs.log2<1920):QD [.int i]=pr (.str (toString i)):=ah h
theorem fW {α:Type}(f:α->W)(l:List α)(d:α){i:Int}(h0:0<=i)(h:i<l.length):atI (l.map f) i=some (f (l.getD i.toNat d)):=by
 have hi:i.toNat<l.length:=∅;have e:atI (l.map f) ((i.toNat:Nat):Int)=some (f (l.getD i.toNat d)):=eG (by rw[GW,G0 hi,HH,G0 hi];rfl);have e2:((i.toNat:Nat):Int)=i:=∅;rw[e2] at e;exact e
theorem bf {α:Type}{xs:List α}{i:Int}{v:α}(h0:0<=i)(h:xs[i.toNat]?=some v):atI xs i=some v:=by
 have q:=eG h;have e:((i.toNat:Nat):Int)=i:=∅;rw[e] at q;exact q
noncomputable def MP:Fl->M W:=λx=>match x with
 |.rt w=>pr w
 |.nx _=>pr .non
 |_=>no
theorem gdn0 {α:Type}(m:M α):gd (0<=sizeLine) m=m:=ah ↥_
theorem gdn1 {α:Type}(m:M α):gd (0+1<=sizeLine) m=m:=ah ↥_
theorem gdn2 {α:Type}(m:M α):gd (0+1+1<=sizeLine) m=m:=ah ↥_
theorem gdn3 {α:Type}(m:M α):gd (0+1+1+1<=sizeLine) m=m:=ah ↥_
theorem gdn4 {α:Type}(m:M α):gd (0+1+1+1+1<=sizeLine) m=m:=ah ↥_
theorem gdn6 {α:Type}(m:M α):gd (0+1+1+1+1+1+1<=sizeLine) m=m:=ah ↥_
theorem gdn8 {α:Type}(m:M α):gd (0+1+1+1+1+1+1+1+1<=sizeLine) m=m:=ah ↥_
theorem gdn10 {α:Type}(m:M α):gd (0+1+1+1+1+1+1+1+1+1+1<=sizeLine) m=m:=ah ↥_
theorem av {src:Lx->M Sr}{t:W->Lx->Option Lx}{f:Lx->M Bool}{e:Lx->M W}{n:Nat}:NV [] src t f e n ρ=bd (src ρ) λs=>gd (s.l.length<=sizeLine) (Mn s.G t f e n s.l ρ):=by unfold NV;exact ah rfl
section
theorem qA {t:W->Lx->Option Lx}{f:Lx->M Bool}{e:Lx->M W}{n:Nat}{b:W->Bool}{v:W->W}: ∀ {l:List W},(∀w∈l,∃r,t w (List.replicate n none++ρ)=some r/\f r=pr (b w)/\(b w=true->e r=pr (v w)))->Mn (λ_=>True) t f e n l ρ=pr ((l.filter b).map v)
 |[],_=>by unfold Mn;rw[ql];rfl
 |w::l,h=>by
  obtain⟨r,h1,h2,h3⟩:=h w GY;have ih:=qA (l:=l) λx hx=>h x (G9 _ hx);unfold Mn;rw[ql,h1];dsimp only;rw[h2,bd_pr];by_cases hb:b w=true
  ·rw[if_pos hb,h3 hb,bd_pr,ih,bd_pr,List.filter_cons_of_pos hb];rfl
  ·rw[if_neg hb,ih,List.filter_cons_of_neg hb]
theorem g9 {α:Type}{f:W->Option α}{g:α->W}(hf: ∀a,f (g a)=some a): ∀l:List α,OQ f (l.map g)=some l
 |[]=>rfl
 |a::l=>by
  show (match f (g a),OQ f (l.map g) with
   |some b,some r=>some (b::r)
   |_,_=>none)=_
  rw[hf,g9 hf l]
theorem iI {β:Type}{α:Type}{f:W->Option β}{g:α->W}{k:α->β}(hf: ∀a,f (g a)=some (k a)): ∀l:List α,OQ f (l.map g)=some (l.map k)
 |[]=>rfl
 |a::l=>by
  show (match f (g a),OQ f (l.map g) with
   |some b,some r=>some (b::r)
   |_,_=>none)=_
  rw[hf,iI hf l];rfl
theorem dX {α:Type}{g:α->W}{k:α->V}(hf: ∀a,vOf (g a)=some (k a)): ∀l:List α,QY (l.map g)=some (l.map k)
 |[]=>rfl
 |a::l=>by
  show (match vOf (g a),QY (l.map g) with
   |some v,some vs=>some (v::vs)
   |_,_=>none)=_
  rw[hf,dX hf l];rfl
theorem yj {sep:Str}{ts:List Str}(h:(ts.map (·.length)).sum+ts.length * sep.length<=sizeLine):Nv (.str sep) [.tl (ts.map W.str)]=pr (.str (Str.join sep ts)):=by
 have e:Nv (.str sep) [.tl (ts.map W.str)]=(match OQ sOf (ts.map W.str) with
  |some (ts:List Str)=>gd ((ts.map (λz:Str=>z.length)).sum+ts.length * sep.length<=sizeLine) (pr (W.str (Str.join sep ts)))
  |none=>no):=rfl
 rw[e,g9 (f:=sOf) (g:=W.str) (λa=>rfl)];exact ah h
theorem qr (h1:OQ (Mv h 49) l=some ds)(h2:OQ (Mv h 49) m=some es)(c1:Le.canLayAll0 ds=true)(c2:Le.canLayAll0 es=true):eqB (.tup l) (.tup m) h=some (Le.eqvAll ds es):=by
 show (match (OQ (Mv h 49) l).map Le.tuple,(OQ (Mv h 49) m).map Le.tuple with
  |some d,some e=>if d.canLay0=true/\e.canLay0=true then some (Le.eqv d e) else none
  |_,_=>none)=_
 rw[h1,h2];show (if (Le.tuple ds).canLay0=true/\(Le.tuple es).canLay0=true then some (Le.eqv (.tuple ds) (.tuple es)) else none)=_;rw[if_pos ⟨by rw[Le.canLay0];exact c1,by rw[Le.canLay0];exact c2⟩,Le.eqv]
theorem yH {b:Bool}(h:∀h,eqB x y h=some b):eqW x y=pr (.bl b):=by funext hh;unfold eqW;rw[h];rfl
theorem C8 {b:Bool}(h:∀h,eqB x y h=some b):neW x y=pr (.bl (!b)):=by funext hh;unfold neW;rw[h];rfl
mutual
theorem jM: ∀d:Le,d.canLay0=true->Le.eqv d d=true
 |.none,_=>by rw[Le.eqv]
 |.bool b,_=>by rw[Le.eqv];simp
 |.int b,_=>by rw[Le.eqv];simp
 |.str b,_=>by rw[Le.eqv];simp
 |.list l,h=>by rw[Le.eqv];exact ir l (by rw[Le.canLay0] at h;exact h)
 |.tuple l,h=>by rw[Le.eqv];exact ir l (by rw[Le.canLay0] at h;exact h)
 |.dict l,h=>by rw[Le.canLay0] at h;cases h
theorem ir: ∀l:List Le,Le.canLayAll0 l=true->Le.eqvAll l l=true
 |[],_=>by rw[Le.eqvAll]
 |d::l,h=>by
  rw[Le.canLayAll0,Ho] at h;rw[Le.eqvAll,jM d h.1,ir l h.2];rfl
end
theorem yU {α:Type}{k:α->Le}: ∀ (l:List α),(∀a∈l,(k a).canLay0=true)->Le.canLayAll0 (l.map k)=true
 |[],_=>by rw[Ht,Le.canLayAll0]
 |a::l,h=>by rw[GV,Le.canLayAll0,h a GY,yU l λb hb=>h b (G9 _ hb)];rfl
theorem iV (a b:Str):(a++b).cps.toList=a.cps.toList++b.cps.toList:=by
 show (a.cps++b.cps).toList=_;rw[Array.toList_append]
theorem rO {x:Str}{ss:List Str}:dL (.str x) (.tl (ss.map W.str))=pr (.bl (!decide (x∈ss))):=by
 funext h;unfold dL;have e:inB (.str x) (.tl (ss.map W.str)) h=some (decide (x∈ss)):=by
  show (match vOf (.str x),QY (ss.map W.str) with
   |some v,some vs=>some (inV v vs)
   |_,_=>none)=_
  rw[dX (k:=V.str) (λa=>rfl)];show some (inV (.str x) (ss.map V.str))=_;congr 1;unfold inV;rw[HF,IG,decide_eq_true_eq];constructor
  ·rintro⟨v,hv,q⟩
   obtain⟨y,hy,rfl⟩:=G6.mp hv;have:y=x:=by simpa [eqV] using q
   subst this;exact hy
  ·intro q;exact⟨.str x,G6.mpr ⟨x,q,rfl⟩,by simp [eqV]⟩
 rw[e];rfl
end
end L2
namespace L2
open PySem PySem.Spec PyProof.Rows
section
variable {X:Cx}{E:XK}{p pos:Kx}
noncomputable def MC (ws:List W):M Sr:=match ws with
 |[w]=>bd (Qw w) λs=>pr ⟨Oy 0 s.l,s.G⟩
 |_=>no
theorem xP {x1}{fl:Lx->M (List W)}(hm:X.mg "enumerate"=none)(ha:JA X E [a] fl)(hg:Gl X "enumerate")(hs:Kz [a] X.env=[(false,Kw a X.env)]):
  JI X E (.Tuple elts x1 tpos) (.Call (.Name "enumerate" p) [a] [] pos) (Oh fl MC):=(xb hg hm ha.h hs).imp λσ H Q h=>by
 ac_nf;rcases x with _|⟨w,_|⟨_,_⟩⟩
 ·exact h1.elim
 ·have h1:Ps (cg X E) (λp s J=>LQ X.K p J s) p (bd (Qw w) (λs=>pr ⟨Oy 0 s.l,s.G⟩) p.h) Q:=h1;obtain⟨v,rfl,r⟩:=r1.one;cases w with
  |tup l=>
   unfold Rv at r;obtain⟨a,vs,rfl,s,r⟩:=r;have h1:Ps (cg X E) (λp s J=>LQ X.K p J s) p (pr ⟨Oy 0 l,λ_=>True⟩ p.h) Q:=h1;refine⟨a,rfl,⟨vs,s⟩,h1.pr R1 ⟨λo X R g=>⟨vs,X.rdT R1 s,by rw[r.len];exact (hV _ _).symm⟩,λo i w X R g e=>?_⟩⟩;obtain⟨x,e1,rfl⟩:=hZ _ _ _ _ e;obtain⟨v,hv,rv⟩:=(r.mono R1 X).get e1;have sq:=X.rdT R1 s;refine⟨⟨vs,v,sq,hv⟩,λy H' q=>?_⟩;obtain⟨T,z,hT,rfl,hz,rfl⟩:=q;have:z=v:=by have:=hz vs sq;rw[hv] at this;exact (Option.some.inj this).symm
   subst this;refine⟨⟨o.mu,o.h,upd o.H T (.tup [.int i,z])⟩,rfl,rfl,Ex.new hT,R.new hT,Rv.newT R hT (Rvs.cons (Px.mpr ⇑_) (Rvs.cons rv Rvs.nil))⟩
  |_=>exact h1.elim
 ·exact h1.elim
end
end L2
namespace L2
open PySem
theorem aU {α β:Type}(a:α)(g:α->M β):bd (pr a) g=g a:=funext λh=>dG (f:=pr a) (a:=a) (h:=h) (h':=h) rfl
noncomputable def Ok {α:Type}(m:M α)(h:List Ob)(Q:α->List Ob->Prop):Prop:= ∃a h',m h=.ok a h'/\Q a h'
section
variable {α β:Type}{m:M α}{k:α->M β}{h h':List Ob}{a:α}
theorem Ok.imp {P Q:α->List Ob->Prop}(p:Ok m h P)(q:∀a h',P a h'->Q a h'):Ok m h Q:=let ⟨a,h',e,r⟩:=p;⟨a,h',e,q a h' r⟩
theorem aD {P:α->List Ob->Prop}{Q:β->List Ob->Prop}(p:Ok m h P)(q:∀a h',P a h'->Ok (k a) h' Q):Ok (bd m k) h Q:=by
 obtain⟨a,h',e,r⟩:=p;obtain⟨b,h2,e2,r2⟩:=q a h' r;exact⟨b,h2,(dG e).trans e2,r2⟩
theorem aY {Q:β->List Ob->Prop}(e:m h=.ok a h')(q:Ok (k a) h' Q):Ok (bd m k) h Q:=by
 obtain⟨b,h2,e2,r2⟩:=q;exact⟨b,h2,(dG e).trans e2,r2⟩
theorem ag {Q:α->List Ob->Prop}(q:Q a h):Ok (pr a) h Q:=⟨a,h,rfl,q⟩
end
section
variable {β:Type}{h:List Ob}{Q:β->List Ob->Prop}{j:Nat}{l:List W}
theorem Bu {i:Int}{w:W}{k:W->M β}(e:h[j]?=some (.lst l))(e2:atI l i=some w)(q:Ok (k w) h Q):Ok (bd (ixW (.loc j) (.int i)) k) h Q:=by
 refine aY (a:=w) (h':=h) ?_ q;have d:Mw (.loc j) h=none:=by unfold Mw;simp only[e]
 have lo:NR (.loc j) h=.ok l h:=by unfold NR;simp only[e]
 have:ixO (.loc j) (.int i) h=some w:=by
  unfold ixO;simp only[d,lo,e2]
 unfold ixW;rw[this]
theorem EZ {n:Int}{i:Nat}{k:Unit->M β}(e:h[j]?=some (.lst l))(e2:ixN l.length n=some i)(q:Ok (k ()) (h.set j (.lst (l.set i v))) Q):Ok (bd (dH (.loc j) (.int n) v) k) h Q:=by
 refine aY (a:=()) (h':=h.set j (.lst (l.set i v))) ?_ q;unfold dH;simp only[e,e2]
theorem eg {w:W}{k:W->M β}(e:h[j]?=some (.lst l))(z:l.length<sizeLine)(q:Ok (k .non) (h.set j (.lst (l++[w]))) Q):Ok (bd (ba (.loc j) [w]) k) h Q:=by
 refine aY (a:=.non) (h':=h.set j (.lst (l++[w]))) ?_ q;unfold ba;simp only[e,if_pos z]
theorem cz {k:W->M β}(e:h[j]?=some (.lst l))(q:Ok (k (.loc j)) h Q):Ok (bd (isL (.loc j)) k) h Q:=by
 refine aY (a:=.loc j) (h':=h) ?_ q;unfold isL;simp only[e]
theorem d9 {k:W->M β}(q:Ok (k (.loc h.length)) (h++[.lst l]) Q):Ok (bd (Ow l) k) h Q:=aY (a:=.loc h.length) (h':=h++[.lst l]) rfl q
theorem j2 {k:W->M β}(e:h[j]?=some (.lst l))(q:Ok (k (.tl l)) (h.set j .gone) Q):Ok (bd (M3 (.loc j)) k) h Q:=by
 refine aY (a:=.tl l) (h':=h.set j .gone) ?_ q;unfold M3;simp only[e]
theorem og {k:Sr->M β}(e:h[j]?=some (.lst l))(q:Ok (k ⟨l,λh=>h[j]?=some (.lst l)⟩) h Q):Ok (bd (Qv (.loc j)) k) h Q:=by
 refine aY (a:=⟨l,λh=>h[j]?=some (.lst l)⟩) (h':=h) ?_ q;unfold Qv;simp only[e]
noncomputable def Lw (h:List Ob)(x:W)(l:List W):Prop:=x=.tl l\/ ∃j,x=.loc j/\h[j]?=some (.lst l)
theorem Lw.of (p:Lw h x l):NR x h=.ok l h:=by
 rcases p with rfl|⟨j,rfl,e⟩
 ·rfl
 ·unfold NR;simp only[e]
theorem Lw.len {k:W->M β}(p:Lw h x l)(q:Ok (k (.int l.length)) h Q):Ok (bd (NM [x]) k) h Q:=by
 refine aY (a:=.int l.length) (h':=h) ?_ q;have e:=p.of;rcases p with rfl|⟨j,rfl,_⟩
 ·rfl
 ·show bd (NR (.loc j)) (λl=>pr (W.int l.length)) h=_;rw[dG e];rfl
theorem Lw.ix {x w:W}{i:Int}{k:W->M β}(p:Lw h x l)(e2:atI l i=some w)(q:Ok (k w) h Q):Ok (bd (ixW x (.int i)) k) h Q:=by
 rcases p with rfl|⟨j,rfl,e⟩
 ·rw[cp e2,bd_pr];exact q
 ·exact Bu e e2 q
end
theorem f9 {x:Str}{ss:List Str}:inV (.str x) (ss.map V.str)=decide (x∈ss):=by
 unfold inV;rw[HF,IG,decide_eq_true_eq];constructor
 ·rintro⟨v,hv,q⟩
  obtain⟨y,hy,rfl⟩:=G6.mp hv;have:y=x:=by simpa [eqV] using q
  subst this;exact hy
 ·intro q;exact⟨.str x,G6.mpr ⟨x,q,rfl⟩,by simp [eqV]⟩
theorem AS {x:Str}{ss:List Str}:inW (.str x) (.tl (ss.map W.str))=pr (.bl (decide (x∈ss))):=by
 funext h;unfold inW;have e:inB (.str x) (.tl (ss.map W.str)) h=some (decide (x∈ss)):=by
  show (match vOf (.str x),QY (ss.map W.str) with
   |some v,some vs=>some (inV v vs)
   |_,_=>none)=_
  rw[dX (k:=V.str) (λa=>rfl)];show some (inV (.str x) (ss.map V.str))=_;rw[f9]
 rw[e];rfl
theorem E1 {β:Type}{Q:β->List Ob->Prop}{j:Nat}{x:Str}{ss:List Str}{k:W->M β}(e:h[j]?=some (.lst (ss.map W.str)))(q:Ok (k (.bl (decide (x∈ss)))) h Q):Ok (bd (inW (.str x) (.loc j)) k) h Q:=by
 refine aY (a:=.bl (decide (x∈ss))) (h':=h) ?_ q;unfold inW;have d:Mw (.loc j) h=none:=by unfold Mw;simp only[e]
 have lo:NR (.loc j) h=.ok (ss.map W.str) h:=by unfold NR;simp only[e]
 have e:inB (.str x) (.loc j) h=some (decide (x∈ss)):=by
  unfold inB;simp only[d,lo,dX (g:=W.str) (k:=V.str) (λa=>rfl) ss];show some (inV (.str x) (ss.map V.str))=_;rw[f9]
 rw[e]
theorem ly {i:Int}(h0: -(2 ^ 62)<=i)(h1:i<2 ^ 62):Pm [.int i]=pr ⟨Na 0 i.toNat,λ_=>True⟩:=ah ⟨h0,h1⟩
theorem wJ {i j:Int}(h0: -(2 ^ 62)<=i)(h1:i<2 ^ 62)(h2: -(2 ^ 62)<=j)(h3:j<2 ^ 62):Pn [.int i,.int j]=pr ⟨Na i (j - i).toNat,λ_=>True⟩:=ah ⟨h0,h1,h2,h3⟩
theorem sf {G:List Ob->Prop}{t:W->Lx->Option Lx}{g:Lx->M Fl}(I:Nat->Lx->List Ob->Prop)(l:List W)(hG: ∀i ρ h,I i ρ h->G h)
  (hs: ∀i w ρ h,l[i]?=some w->I i ρ h-> ∃r,t w ρ=some r/\Ok (g r) h λx h'=> ∃r',x=.nx r'/\I (i+1) r' h'):
  ∀ (m:List W) (n:Nat) (ρ:Lx) (h:List Ob),l.drop n=m->n<=l.length->I n ρ h->Ok (forM G t g m ρ) h λx h'=> ∃r',x=.nx r'/\I l.length r' h'
 |[],n,ρ,h,e,hn,i=>by
  have:l.length<=n:=JC.mp e;have hn:n=l.length:=∅;subst hn;refine⟨.nx ρ,h,?_,ρ,rfl,i⟩;unfold forM;rw[iL (hG _ _ _ i)];rfl
 |w::m,n,ρ,h,e,hn,i=>by
  have hw:l[n]?=some w:=by
   have:=congrArg List.head? e;rw[List.head?_drop,List.head?_cons] at this;exact this
  have hl:n<l.length:=(G1.mp hw).1;have em:l.drop (n+1)=m:=by rw[<-List.tail_drop,e];rfl
  obtain⟨r,e1,x,h',e2,r',rfl,i'⟩:=hs n w ρ h hw i;obtain⟨y,h2,e3,q⟩:=sf I l hG hs m (n+1) r' h' em hl i';refine⟨y,h2,?_,q⟩;unfold forM;rw[iL (hG _ _ _ i),e1];dsimp only;rw[dG e2];exact e3
theorem df {β:Type}{G:List Ob->Prop}{t:W->Lx->Option Lx}{g:Lx->M Fl}{k:Fl->M β}{Q:β->List Ob->Prop}(I:Nat->Lx->List Ob->Prop)(h0:I 0 ρ h)(hG: ∀i ρ h,I i ρ h->G h)
  (hs: ∀i w ρ h,l[i]?=some w->I i ρ h-> ∃r,t w ρ=some r/\Ok (g r) h λx h'=> ∃r',x=.nx r'/\I (i+1) r' h')(hd: ∀ρ h,I l.length ρ h->Ok (k (.nx ρ)) h Q):Ok (bd (forM G t g l ρ) k) h Q:=
 aD (sf I l hG hs l 0 ρ h rfl (G8 _) h0) λx h' ⟨r',e,i⟩=>by subst e;exact hd r' h' i
theorem uj {G:List Ob->Prop}{t:W->Lx->Option Lx}{f:Lx->M Bool}{g:Lx->M W}{c:Nat}(I:Nat->List W->List Ob->Prop)(l:List W)(hf: ∀r,f r=pr true)(hG: ∀i a h,I i a h->G h)
  (hs: ∀i w a h,l[i]?=some w->I i a h-> ∃r,t w (List.replicate c none++ρ)=some r/\Ok (g r) h λv h'=>I (i+1) (a++[v]) h'):
  ∀ (m:List W) (n:Nat) (a:List W) (h:List Ob),l.drop n=m->n<=l.length->I n a h->Ok (Mn G t f g c m ρ) h λr h'=>I l.length (a++r) h'
 |[],n,a,h,e,hn,i=>by
  have:l.length<=n:=JC.mp e;have hn:n=l.length:=∅;subst hn;refine⟨[],h,?_,by show I l.length (a++[]) h;rw[Hn];exact i⟩;unfold Mn;rw[iL (hG _ _ _ i)];rfl
 |w::m,n,a,h,e,hn,i=>by
  have hw:l[n]?=some w:=by
   have:=congrArg List.head? e;rw[List.head?_drop,List.head?_cons] at this;exact this
  have hl:n<l.length:=(G1.mp hw).1;have em:l.drop (n+1)=m:=by rw[<-List.tail_drop,e];rfl
  obtain⟨r,e1,v,h',e2,i'⟩:=hs n w a h hw i;obtain⟨y,h2,e3,q⟩:=uj I l hf hG hs m (n+1) (a++[v]) h' em hl i';refine⟨v::y,h2,?_,by show I l.length (a++v::y) h2;have q:I l.length (a++[v]++y) h2:=q;rw[Hc] at q;exact q⟩;unfold Mn;rw[iL (hG _ _ _ i),e1];dsimp only;rw[hf,bd_pr,if_pos rfl,dG e2,dG e3];rfl
theorem jA {β:Type}{G:List Ob->Prop}{t:W->Lx->Option Lx}{f:Lx->M Bool}{g:Lx->M W}{c:Nat}{k:List W->M β}{Q:β->List Ob->Prop}(I:Nat->List W->List Ob->Prop)(h0:I 0 [] h)(hf: ∀r,f r=pr true)(hG: ∀i a h,I i a h->G h)
  (hs: ∀i w a h,l[i]?=some w->I i a h-> ∃r,t w (List.replicate c none++ρ)=some r/\Ok (g r) h λv h'=>I (i+1) (a++[v]) h')(hd: ∀a h,I l.length a h->Ok (k a) h Q):Ok (bd (Mn G t f g c l ρ) k) h Q:=
 aD (uj I l hf hG hs l 0 [] h rfl (G8 _) h0) λr h' i=>hd r h' i
theorem kN (r:Lx):Ol r=pr true:=rfl
structure Fr (j:Nat)(h h':List Ob):Prop where
 len:h'.length=h.length
 eq: ∀i,i≠j->h'[i]?=h[i]?
theorem bh {j:Nat}{h:List Ob}{a b:Ob}(e:h[j]?=some a):(h.set j b)[j]?=some b:=by
 rw[HR (G1.mp e).1]
theorem bL {j:Nat}{h:List Ob}{a:Ob}(e:h[j]?=some a):j<h.length:=(G1.mp e).1
theorem jH {j:Nat}{h r:List Ob}{a:Ob}(e:h[j]?=some a):(h++r)[j]?=some a:=by
 rw[Hg (bL e)];exact e
theorem cF :(h++[a])[h.length]?=some a:=⇑_
section
theorem oj {G:List Ob->Prop}{t:W->Lx->Option Lx}{g:Lx->M Fl}{Q:Fl->List Ob->Prop}(I:Nat->Lx->List Ob->Prop)(h0:I 0 ρ h)(hG: ∀i ρ h,I i ρ h->G h)
  (hs: ∀i w ρ h,l[i]?=some w->I i ρ h-> ∃r,t w ρ=some r/\Ok (g r) h λx h'=> ∃r',x=.nx r'/\I (i+1) r' h')(hd: ∀ρ h,I l.length ρ h->Q (.nx ρ) h):Ok (forM G t g l ρ) h Q:=
 (sf I l hG hs l 0 ρ h rfl (G8 _) h0).imp λx h' ⟨r',e,i⟩=>by subst e;exact hd r' h' i
theorem vC (l:List W):MC [.tup l]=pr ⟨Oy 0 l,λ_=>True⟩:=rfl
theorem xZ (l:List W):NR (.tl l)=pr l:=rfl
theorem ix0 (a:W)(l:List W):ixW (.tup (a::l)) (.int 0)=pr a:=dy (bf ↥_ rfl)
theorem ix1 (a b:W)(l:List W):ixW (.tup (a::b::l)) (.int 1)=pr b:=dy (bf ↥_ rfl)
theorem ix2 (a b c:W)(l:List W):ixW (.tup (a::b::c::l)) (.int 2)=pr c:=dy (bf ↥_ rfl)
theorem ix3 (a b c d:W)(l:List W):ixW (.tup (a::b::c::d::l)) (.int 3)=pr d:=dy (bf ↥_ rfl)
theorem ix4 (a b c d e:W)(l:List W):ixW (.tup (a::b::c::d::e::l)) (.int 4)=pr e:=dy (bf ↥_ rfl)
theorem ix5 (a b c d e f:W)(l:List W):ixW (.tup (a::b::c::d::e::f::l)) (.int 5)=pr f:=dy (bf ↥_ rfl)
theorem ug {α:Type}(f:α->W)(l:List α)(lo hi:Option Int):Ms (l.map f) lo hi=(Ms l lo hi).map f:=by
 unfold Ms;rw[GN,Iu,List.map_drop]
end
end L2
namespace L2
open PySem PySem.Spec PyProof.Rows
section
variable {X:Cx}{E:XK}{p pos:Kx}
noncomputable def Qu (j:Bool):W->M Sr:=match j with
 |true=>Qw
 |false=>Qv
theorem sN {j:Bool}{α β:Type}{r:Wo->α->β->Prop}{w:W}{k:Sr->M α}{Q:β->Hp->Prop}(R:Rel X.K o)(hr:Rv X.K o w v)(h:Ps (cg X E) r o (bd (Qu j w) k o.h) Q):
  ∃s a,v=.ref a/\(∃vs,SqK j X.K o.H a vs)/\(∀p,Ex o p->Rel X.K p->s.G p.h-> ∃vs,SqK j X.K p.H a vs/\Rvs X.K p s.l vs)/\Ps (cg X E) r o (k s o.h) Q:=by
 cases j with
 |false=>exact sM R hr h
 |true=>
  cases w with
  |tup l=>
   unfold Rv at hr;obtain⟨a,vs,rfl,s,r'⟩:=hr;exact⟨⟨l,λ_=>True⟩,a,rfl,⟨vs,s⟩,λp X _ _=>⟨vs,X.rdT R s,r'.mono R X⟩,h⟩
  |_=>exact h.elim
noncomputable def Q6 (l m:List W):List W:=List.zipWith (λa b=>.tup [a,b]) l m
theorem vO {i:Nat}{w:W}(e:(Q6 l m)[i]?=some w): ∃x y,l[i]?=some x/\m[i]?=some y/\w=.tup [x,y]:=by
 unfold Q6 at e;rw[List.getElem?_zipWith] at e;cases h1:l[i]? with
 |none=>rw[h1] at e;cases e
 |some x=>
  cases h2:m[i]? with
  |none=>rw[h1,h2] at e;cases e
  |some y=>rw[h1,h2] at e;cases e;exact⟨x,y,rfl,rfl,rfl⟩
noncomputable def Qx (j k:Bool)(ws:List W):M Sr:=match ws with
 |[x,y]=>bd (Qu j x) λs=>bd (Qu k y) λt=>pr ⟨Q6 s.l t.l,λh=>s.G h/\t.G h⟩
 |_=>no
theorem Dl (j k:Bool){x1}{fl:Lx->M (List W)}(hm:X.mg "zip"=none)(ha:JA X E [a,b] fl)(hg:Gl X "zip")(hs:Kz [a,b] X.env=[(false,Kw a X.env),(false,Kw b X.env)])(hs2:Kz [b] X.env=[(false,Kw b X.env)]):
  JI X E (.Tuple elts x1 tpos) (.Call (.Name "zip" p) [a,b] [] pos) (Oh fl (Qx j k)):=(Cj (j:=j) (k:=k) hg hm ha.h hs hs2).imp λσ H Q h=>by
 ac_nf;rcases x with _|⟨w,_|⟨w2,_|⟨_,_⟩⟩⟩
 ·exact h1.elim
 ·exact h1.elim
 ·have h1:Ps (cg X E) (λp s J=>LQ X.K p J s) p (bd (Qu j w) (λs=>bd (Qu k w2) λt=>pr ⟨Q6 s.l t.l,λh=>s.G h/\t.G h⟩) p.h) Q:=h1;obtain⟨v,u,rfl,rv,ru⟩:=r1.two;obtain⟨s,a,rfl,hq,sk,h1⟩:=sN R1 rv h1;obtain⟨t,b,rfl,hq2,sk2,h1⟩:=sN R1 ru h1;refine⟨a,b,rfl,hq,hq2,h1.pr R1 ⟨λo X R g=>?_,λo i w X R g e=>?_⟩⟩
  ·obtain⟨vs,k1,k2⟩:=sk o X R g.1;obtain⟨us,k3,k4⟩:=sk2 o X R g.2;exact⟨vs,us,k1,k3,by rw[k2.len,k4.len];show _=(Q6 s.l t.l).length;unfold Q6;rw[List.length_zipWith]⟩
  ·obtain⟨vs,k1,k2⟩:=sk o X R g.1;obtain⟨us,k3,k4⟩:=sk2 o X R g.2;obtain⟨x,y,ex,ey,rfl⟩:=vO e;obtain⟨v1,hv1,rv1⟩:=k2.get ex;obtain⟨v2,hv2,rv2⟩:=k4.get ey;refine⟨⟨vs,us,v1,v2,k1,k3,hv1,hv2⟩,λq H' yl=>?_⟩;obtain⟨T,z1,z2,hT,rfl,hz,rfl⟩:=yl;obtain⟨g1,g2⟩:=hz vs us k1 k3;have e1:z1=v1:=Option.some.inj (g1.symm.trans hv1);have e2:z2=v2:=Option.some.inj (g2.symm.trans hv2);subst e1 e2;refine⟨⟨o.mu,o.h,upd o.H T (.tup [z1,z2])⟩,rfl,rfl,Ex.new hT,R.new hT,Rv.newT R hT (Rvs.cons rv1 (Rvs.cons rv2 Rvs.nil))⟩
 ·exact h1.elim
variable {o e:Expr}{apos cpos:Kx}{fo:Lx->M W}{l:Lx->M (List W)}
noncomputable def jK (x:W)(ws:List W):M W:=match x,ws with
 |.loc k,[w]=>bd (NQ w) λm h=>match h[k]? with
  |some (.lst l)=>if l.length+m.length<=sizeLine then .ok .non (h.set k (.lst (l++m))) else .bad
  |_=>.bad
 |_,_=>no
theorem u0 (ho:JE X E o fo)(ha:JA X E [e] l)(hbase:KS o "extend" X.env (Kw o X.env)=Kw o X.env)
  (hfew:((Ky cpos (Kz [e] X.env)).all (λx=>!x.1) && (KU cpos (KW [] X.env)).all (λx=>x.1.isSome) && decide (([e]:List Expr).length+([]:List K2).length+(if ([]:List K2).isEmpty then 0 else 1)<30))=true)
  (hline:(apos.endLine==cpos.line)=true)(hs:Kz [e] X.env=(false,Kw e X.env)::Kz [] X.env)(hplain:(Ky cpos (Kz [] X.env)).any (·.1)=false):
  JE X E (.Call (.Attribute o "extend" apos) [e] [] cpos) (N7 isL jK fo l):=
 (mW PySem.F.plainAttrs_list PySem.F.slot_list_extend PySem.F.type_list_extend uV ho.h ha.h hbase hfew hline hs hplain).imp λσ H Q h=>by
  obtain⟨w,ρ,rfl,R,S,h⟩:=h;refine⟨w,ρ,rfl,R,S,Ps.bd h λp x vx e1 R1 r1 h1=>?_⟩;obtain⟨j,l0,vs0,rfl,hj,rfl,hlt,hH,hl0,h1⟩:=yo R1 r1 h1;refine⟨.inl ⟨rfl,vs0,.of hH⟩,p,ρ,rfl,R1,S.mono R e1,Ps.bd h1 λq ws vs e2 R2 r2 h2=>?_⟩;rcases ws with _|⟨w',_|⟨_,_⟩⟩
  ·exact h2.elim
  ·obtain⟨v,rfl,r⟩:=r2.one
   have h2:Ps (cg X E) (Rv X.K) q (bd (NQ w') (λm h=>match h[j]? with
    |some (.lst l)=>if l.length+m.length<=sizeLine then .ok .non (h.set j (.lst (l++m))) else .bad
    |_=>.bad) q.h) Q:=h2
   obtain⟨m,am,us',rfl,hm,rm,h2⟩:=c9 R2 r h2;cases e:q.h[j]? with
   |none=>simp only[e] at h2;exact h2.elim
   |some b=>
    cases b with
    |lst l'=>
     simp only[e] at h2;obtain⟨us,k1,k2⟩:=R2.ob j _ e;by_cases z:l'.length+m.length<=sizeLine
     ·rw[if_pos z] at h2;rw[e2.mu j hlt] at k1;refine⟨p.mu j,am,us,us',rfl,rfl,k1,hm,by rw[k2.len,rm.len];exact z,?_⟩;have:=Ps.at (p:=q.put j (.lst (l'++m)) (.lst (us++us'))) (b:=V.non) h2 rfl (Ex.put e ⇑_) (R2.putL e ⇑_ (k2.app rm)) (Py.mpr rfl);have em:q.mu j=p.mu j:=e2.mu j hlt;have ew:(q.put j (.lst (l'++m)) (.lst (us++us'))).H=upd q.H (p.mu j) (.lst (us++us')):=by
       show upd q.H (q.mu j) _=_;rw[em]
      rw[ew] at this;exact this
     ·rw[if_neg z] at h2;exact h2.elim
    |_=>simp only[e] at h2;exact h2.elim
  ·exact h2.elim
noncomputable def Nl (w:W):M W:=match w with
 |.tup l=>pr (.tup l)
 |_=>no
noncomputable def QR (x:W)(ws:List W):M W:=match x,ws with
 |.tup l,[.int k]=>match OQ iOf l with
  |some ns=>match ns.findIdx? (λx=>decide (x=k)) with
   |some j=>pr (.int (j:Int))
   |none=>no
  |none=>no
 |_,_=>no
theorem si {ns:List Int}{k:Int}{j:Nat}(h:ns.findIdx? (λx=>decide (x=k))=some j):ns[j]?=some k/\ ∀r,r<j->ns[r]?≠some k:=by
 rw[Ii] at h;obtain⟨h1,h2,h3⟩:=h;refine⟨by rw[G0 h1];exact congrArg some (of_decide_eq_true h2),λr hr q=>?_⟩;have:=h3 r hr;obtain⟨z,e⟩:=G1.mp q;simp [e] at this
theorem Ap (hK:ji X.K=true)(ho:JE X E o fo)(ha:JA X E [e] l)(hbase:KS o "index" X.env (Kw o X.env)=Kw o X.env)
  (hfew:((Ky cpos (Kz [e] X.env)).all (λx=>!x.1) && (KU cpos (KW [] X.env)).all (λx=>x.1.isSome) && decide (([e]:List Expr).length+([]:List K2).length+(if ([]:List K2).isEmpty then 0 else 1)<30))=true)
  (hline:(apos.endLine==cpos.line)=true)(hs:Kz [e] X.env=(false,Kw e X.env)::Kz [] X.env)(hplain:(Ky cpos (Kz [] X.env)).any (·.1)=false):
  JE X E (.Call (.Attribute o "index" apos) [e] [] cpos) (N7 Nl QR fo l):=
 (EK hK PySem.F.plainAttrs_tuple PySem.F.slot_tuple_index PySem.F.type_tuple_index uU ho.h ha.h hbase hfew hline hs hplain).imp λσ H Q h=>by
  obtain⟨w,ρ,rfl,R,S,h⟩:=h;refine⟨w,ρ,rfl,R,S,Ps.bd h λp x vx e1 R1 r1 h1=>?_⟩;cases x with
  |tup l0=>
   have h1:Ps (cg X E) (Rv X.K) p (bd (l ρ) (λws=>QR (.tup l0) ws) p.h) Q:=h1;have r0:=r1;unfold Rv at r1;obtain⟨a,vs0,rfl,sq,rl⟩:=r1;refine⟨⟨a,vs0,rfl,sq⟩,p,ρ,rfl,R1,S.mono R e1,Ps.bd h1 λq ws vs e2 R2 r2 h2=>?_⟩;rcases ws with _|⟨w',_|⟨_,_⟩⟩
   ·exact h2.elim
   ·obtain⟨v,rfl,r⟩:=r2.one;cases w' with
    |int k=>
     have h2:Ps (cg X E) (Rv X.K) q (match OQ iOf l0 with
      |some ns=>(match ns.findIdx? (λx=>decide (x=k)) with
       |some j=>(pr (W.int (j:Int)):M W)
       |none=>no) q.h
      |none=>no q.h) Q:=by
       have:QR (.tup l0) [.int k] q.h=_:=rfl;unfold QR at h2;cases e:OQ iOf l0 with
       |none=>simp only[e] at h2;exact h2.elim
       |some ns=>
        simp only[e] at h2;exact h2
     cases e:OQ iOf l0 with
     |none=>rw[e] at h2;exact h2.elim
     |some ns=>
      simp only[e] at h2;cases e3:ns.findIdx? (λx=>decide (x=k)) with
      |none=>rw[e3] at h2;exact h2.elim
      |some j=>
       simp only[e3] at h2;obtain⟨g1,g2⟩:=si e3;have ev:vs0=ns.map V.int:=jy yv e rl;subst ev;exact⟨a,ns,k,j,rfl,by rw[Px.mp r],e2.rdT R1 sq,g1,g2,h2.pr R2 (Px.mpr rfl)⟩
    |_=>exact h2.elim
   ·cases w'<;>exact h2.elim
  |_=>exact h1.elim
noncomputable def Mi (x y:W):M W:=match x,y with
 |.tup a,.tup b=>if a.isEmpty=true then pr (.tup b) else gd (a.length+b.length<=sizeLine) (pr (.tup (a++b)))
 |_,_=>no
theorem xk:OpM X E (λx y H Q=>Pf X.K x y H Q\/Pg X.K x y H Q) Mi:=by
 intro o x y vx vy Q R rx ry h;unfold Mi at h;split at h
 ·rename_i a b;have rx0:=rx;have ry0:=ry;unfold Rv at rx ry;obtain⟨p,vs,rfl,s1,r1⟩:=rx;obtain⟨q,us,rfl,s2,r2⟩:=ry;cases a with
  |nil=>
   have h:Ps (cg X E) (Rv X.K) o (pr (W.tup b) o.h) Q:=h;unfold Rvs at r1;subst r1;exact .inl ⟨p,q,us,rfl,rfl,s1,s2,h.pr R ry0⟩
  |cons w a=>
   have h:Ps (cg X E) (Rv X.K) o (gd ((w::a).length+b.length<=sizeLine) (pr (W.tup ((w::a)++b))) o.h) Q:=h;obtain⟨hz,h⟩:=h.gd;refine .inr ⟨p,q,vs,us,rfl,rfl,s1,s2,λz=>?_,by rw[r1.len,r2.len];exact hz,λz=>?_,λz c hc=>?_⟩
   ·have:=r1.len;rw[z] at this;cases this
   ·subst z;have lb:=r2.len;have:b=[]:=List.length_eq_zero_iff.mp lb.symm;subst this;rw[Hn] at h;exact h.pr R rx0
   ·exact ju R hc (r1.app r2) h
 ·exact h.elim
theorem Az {fa fb:Lx->M W}(ha:JE X E a fa)(hb:JE X E b fb):JE X E (.BinOp a .Add b pos) (m2 Mi fa fb):=lP (OE.or OF) xk ha hb
theorem xV {x:Str}{zs:List Str}(hm:X.mg x=some (.ref a))(hq: ∀H,SqT X.K H a (zs.map V.str))(hg:Gl X x:=by rfl)(hd:(x==("__debug__":Str))=false:=by decide):JE X E (.Name x pos) (mC (.tup (zs.map W.str))):=
 oo (v:=.ref a) hg hm rfl (λo=>by
  unfold Rv;refine⟨a,_,rfl,hq _,?_⟩
  induction zs with
  |nil=>exact Rvs.nil
  |cons z zs ih=>exact Rvs.cons (Pz.mpr rfl) (g8 zs)) hd
where
 g8 {K:Zf}{o:Wo}: ∀zs:List Str,Rvs K o (zs.map W.str) (zs.map V.str)
  |[]=>Rvs.nil
  |z::zs=>Rvs.cons (Pz.mpr rfl) (g8 zs)
end
section
section
variable {β:Type}{h:List Ob}{Q:β->List Ob->Prop}{x:W}{l:List W}
theorem Lw.src {k:Sr->M β}(p:Lw h x l)(q:∀G,(∀h',Lw h' x l->G h')->Ok (k ⟨l,G⟩) h Q):Ok (bd (Qv x) k) h Q:=by
 rcases p with rfl|⟨j,rfl,e⟩
 ·show Ok (bd (pr ⟨l,λ_=>True⟩) k) h Q;rw[aU];exact q _ λ_ _=>trivial
 ·refine og e (q _ λh' r=>?_);rcases r with r|⟨i,r,e'⟩
  ·cases r
  ·cases r;exact e'
theorem Lw.sl {k:W->M β}{lo hi:Option Int}(p:Lw h x l)(q:Ok (k (.tl (Ms l lo hi))) h Q):Ok (bd (slW x lo hi) k) h Q:=by
 refine aY (a:=.tl (Ms l lo hi)) (h':=h) ?_ q;have e:=p.of;rcases p with rfl|⟨j,rfl,_⟩
 ·rfl
 ·show bd (NR (.loc j)) (λl=>pr (W.tl (Ms l lo hi))) h=_;rw[dG e];rfl
theorem Lw.keep (p:Lw h x l)(q:∀i,i<h.length->h'[i]?=h[i]?):Lw h' x l:=by
 rcases p with rfl|⟨j,rfl,e⟩
 ·exact .inl rfl
 ·exact .inr ⟨j,rfl,(q j (bL e)).trans e⟩
end
theorem Lw.len_eq {β:Type}{Q:β->List Ob->Prop}{k:W->M β}{N:Int}(p:Lw h x l)(hN:N=(l.length:Int))(q:Ok (k (.int N)) h Q):Ok (bd (NM [x]) k) h Q:=by
 subst hN;exact p.len q
end
section
noncomputable def NP:List Str->List W->Str->Option W
 |n::ns,w::ws,f=>if f=n then some w else NP ns ws f
 |_,_,_=>none
noncomputable def Pc:List Str->List W->Str->W->List Str×List W
 |n::ns,w::ws,f,y=>if n=f then (n::ns,y::ws) else (n::(Pc ns ws f y).1,w::(Pc ns ws f y).2)
 |_,_,f,y=>([f],[y])
section
variable {K:Zf}{o:Wo}
theorem lR {f:Str}{w:W}: ∀ {fs:List (Str×V)}{ns:List Str}{ws:List W},fs.map (·.1)=ns->Rvs K o ws (fs.map (·.2))->NP ns ws f=some w-> ∃v,fs.lookup f=some v/\Rv K o w v
 |[],_,ws,e,_,h=>by subst e;cases ws<;>cases h
 |(g,x)::fs,_,[],e,r,h=>by subst e;cases h
 |(g,x)::fs,_,y::ws,e,r,h=>by
  subst e;unfold Rvs at r;obtain⟨v,t,e2,r1,r2⟩:=r;cases e2;have h:(if f=g then some y else NP (fs.map (·.1)) ws f)=some w:=h;by_cases z:f=g
  ·rw[if_pos z] at h;cases h;exact⟨x,by rw[HC,z];simp,r1⟩
  ·rw[if_neg z] at h;obtain⟨v,e3,r3⟩:=lR rfl r2 h;refine⟨v,?_,r3⟩;rw[HC,show (f==g)=false by simpa using z];exact e3
theorem qe {f:Str}: ∀ {fs:List (Str×V)},f ∉ fs.map (·.1)->fs.lookup f=none
 |[],_=>rfl
 |(g,x)::fs,h=>by
  rw[GV,GR,not_or] at h;rw[HC,show (f==g)=false by simpa using h.1];exact qe h.2
theorem s9 {f:Str}(hy:Rv K o y v): ∀ {fs:List (Str×V)}{ns:List Str}{ws:List W},fs.map (·.1)=ns->Rvs K o ws (fs.map (·.2))->(O9 f v fs).map (·.1)=(Pc ns ws f y).1/\Rvs K o (Pc ns ws f y).2 ((O9 f v fs).map (·.2))
 |[],_,[],e,r=>by subst e;exact⟨rfl,Rvs.cons hy Rvs.nil⟩
 |[],_,w::ws,e,r=>by unfold Rvs at r;obtain⟨_,_,e2,_⟩:=r;cases e2
 |(g,x)::fs,_,[],e,r=>by unfold Rvs at r;cases r
 |(g,x)::fs,_,w::ws,e,r=>by
  subst e;unfold Rvs at r;obtain⟨u,t,e2,r1,r2⟩:=r;cases e2;show (List.map (·.1) (if g=f then (g,v)::fs else (g,x)::O9 f v fs))=(if g=f then (g::fs.map (·.1),y::ws) else (g::(Pc (fs.map (·.1)) ws f y).1,w::(Pc (fs.map (·.1)) ws f y).2)).1/\Rvs K o (if g=f then (g::fs.map (·.1),y::ws) else (g::(Pc (fs.map (·.1)) ws f y).1,w::(Pc (fs.map (·.1)) ws f y).2)).2 ((if g=f then (g,v)::fs else (g,x)::O9 f v fs).map (·.2));by_cases z:g=f
  ·rw[if_pos z,if_pos z];exact⟨rfl,Rvs.cons hy r2⟩
  ·rw[if_neg z,if_neg z];obtain⟨a,b⟩:=s9 hy (fs:=fs) rfl r2;exact⟨by rw[GV,a],Rvs.cons r1 b⟩
theorem Rel.putI (R:Rel K o){k:Nat}{c:Str}{ns:List Str}{ws:List W}{fs:List (Str×V)}(hk:o.h[k]?=some b)(hb:b≠.gone)(hn:J5 K Ks c=some (some (.ref C)))(h1:fs.map (·.1)=ns)(hl:Rvs K o ws (fs.map (·.2))):Rel K (o.put k (.ins c ns ws) (.ins C dx fs)):=
 R.put hk hb ⟨C,dx,fs,hn,ay,h1,hl.mono R (Ex.put hk hb)⟩
end
section
variable {X:Cx}{E:XK}
noncomputable def M4 (c:Str)(x:W):M (Nat×List Str×List W):=match x with
 |.loc k=>λh=>match h[k]? with
  |some (.ins c' ns ws)=>if c'=c then .ok (k,ns,ws) h else .bad
  |_=>.bad
 |_=>no
theorem kG {α β:Type}{r:Wo->α->β->Prop}{c:Str}{k:Nat×List Str×List W->M α}{Q:β->Hp->Prop}(hn:J5 X.K Ks c=some (some (.ref C)))(R:Rel X.K o)(hr:Rv X.K o x v)(h:Ps (cg X E) r o (bd (M4 c x) k o.h) Q):
  ∃ (j:Nat) (ns:List Str) (ws:List W) (dx:Kb) (fs:List (Str×V)),x=.loc j/\j<o.h.length/\o.h[j]?=some (.ins c ns ws)/\v=.ref (o.mu j)/\o.H (o.mu j)=some (.ins C dx fs)/\fs.map (·.1)=ns/\Rvs X.K o ws (fs.map (·.2))/\Ps (cg X E) r o (k (j,ns,ws) o.h) Q:=by
 cases x with
 |loc j=>
  unfold Rv at hr;obtain⟨hj,rfl⟩:=hr;unfold M4 bd at h;cases e:o.h[j]? with
  |none=>simp only[e] at h;exact h.elim
  |some b=>
   cases b with
   |ins c' ns ws=>
    simp only[e] at h;by_cases z:c'=c
    ·subst z;rw[if_pos rfl] at h;obtain⟨C',dx,fs,q1,q2,q3,q4⟩:=R.ob j _ e;rw[hn] at q1;cases q1;exact⟨j,ns,ws,dx,fs,rfl,hj,e,rfl,q2,q3,q4,h⟩
    ·rw[if_neg z] at h;exact h.elim
   |_=>simp only[e] at h;exact h.elim
 |_=>exact h.elim
noncomputable def MU (c f:Str)(x:W):M W:=bd (M4 c x) λt=>match NP t.2.1 t.2.2 f with
 |some w=>pr w
 |none=>no
noncomputable def Pa (c f:Str)(x y:W):M Unit:=bd (M4 c x) λt=>λh=>if t.2.1.length<1000 then .ok () (h.set t.1 (.ins c (Pc t.2.1 t.2.2 f y).1 (Pc t.2.1 t.2.2 f y).2)) else .bad
variable {c f:Str}{C:Kb}{o:Expr}{fo:Lx->M W}{pos pos':Kx}
theorem DI (hn:J5 X.K Ks c=some (some (.ref C)))(cl:Cls X.K C)(na:NoAttr X.K C f)(ho:JE X E o fo)(hb:KS o f X.env (Kw o X.env)=Kw o X.env:=by rfl):JE X E (.Attribute o f pos) (m1 (MU c f) fo):=
 (fE ho.h hb).imp λσ H Q h=>by
  obtain⟨w,ρ,rfl,R,S,h⟩:=h;refine⟨w,ρ,rfl,R,S,Ps.bd h λp x vx e1 R1 r1 h1=>?_⟩;obtain⟨j,ns,ws,dx,fs,rfl,hj,e,rfl,q2,q3,q4,h1⟩:=kG hn R1 r1 h1;cases l:NP ns ws f with
  |none=>simp only[l] at h1;exact h1.elim
  |some y=>
   simp only[l] at h1;obtain⟨v,lv,rv⟩:=lR q3 q4 l;exact⟨_,C,dx,fs,v,rfl,q2,cl,na,lv,h1.pr R1 rv⟩
noncomputable def PL (c f:Str)(fo fv:Lx->M W):Lx->M Fl:=λρ=>bd (fv ρ) λy=>bd (fo ρ) λx=>bd (Pa c f x y) λ_=>pr (.nx ρ)
theorem tf (hn:J5 X.K Ks c=some (some (.ref C)))(R:Rel X.K p)(S:Re X.K p ρ σ)(rx:Rv X.K p x vx)(ry:Rv X.K p y vy)(h:Ps (cg X E) (RFl X.K) p (bd (Pa c f x y) (λ_=>pr (.nx ρ)) p.h) (DQ D)):
  ∃a dx fs,vx=.ref a/\p.H a=some (.ins C dx fs)/\fs.length<1000/\D.nx σ (upd p.H a (.ins C dx (O9 f vy fs))):=by
 unfold Pa at h;rw[ae] at h;obtain⟨j,ns,ws,dx,fs,rfl,hj,e,rfl,q2,q3,q4,h⟩:=kG hn R rx h;have ln:fs.length=ns.length:=by rw[<-q3,GN]
 by_cases z:ns.length<1000
 ·have h:Ps (cg X E) (RFl X.K) p (.ok (.nx ρ) (p.h.set j (.ins c (Pc ns ws f y).1 (Pc ns ws f y).2))) (DQ D):=by
   have e2:(bd (λh=>if ns.length<1000 then Rs.ok () (h.set j (.ins c (Pc ns ws f y).1 (Pc ns ws f y).2)) else .bad) (λ_=>pr (Fl.nx ρ)) p.h)=.ok (.nx ρ) (p.h.set j (.ins c (Pc ns ws f y).1 (Pc ns ws f y).2)):=by
    unfold bd;simp only[if_pos z];rfl
   rw[<-e2];exact h
  obtain⟨a,b⟩:=s9 ry q3 q4;refine⟨p.mu j,dx,fs,rfl,q2,∅,?_⟩;exact Ps.at (p:=p.put j (.ins c (Pc ns ws f y).1 (Pc ns ws f y).2) (.ins C dx (O9 f vy fs))) (b:=FlV.nx σ) h rfl (Ex.put e ⇑_) (R.putI e ⇑_ hn a b) ⟨σ,rfl,S.mono R (Ex.put e ⇑_)⟩
 ·have e2:(bd (λh=>if ns.length<1000 then Rs.ok () (h.set j (.ins c (Pc ns ws f y).1 (Pc ns ws f y).2)) else .bad) (λ_=>pr (Fl.nx ρ)) p.h)=.bad:=by
   unfold bd;simp only[if_neg z]
  have h:Ps (cg X E) (RFl X.K) p (bd (λh=>if ns.length<1000 then Rs.ok () (h.set j (.ins c (Pc ns ws f y).1 (Pc ns ws f y).2)) else .bad) (λ_=>pr (Fl.nx ρ)) p.h) (DQ D):=h;rw[e2] at h;exact h.elim
variable {value:Expr}{fv:Lx->M W}{tpos:Kx}
theorem Di (hn:J5 X.K Ks c=some (some (.ref C)))(cl:Cls X.K C)(na:NoAttr X.K C f)(ho:JE X E o fo)(hv:JE X E value fv)(hs:swapsWith value (some (.Attribute o f pos')) pos.line X.env=pure false:=by rfl):JS X E (.Assign [.Attribute o f pos'] value pos) (PL c f fo fv):=
 (rG ho.h hv.h hs).imp λD σ H h=>by
  obtain⟨w,ρ,rfl,R,S,h⟩:=h;refine⟨w,ρ,rfl,R,S,Ps.bd h λp y vy e1 R1 r1 h1=>⟨p,ρ,rfl,R1,S.mono R e1,Ps.bd h1 λq x vx e2 R2 r2 h2=>?_⟩⟩;obtain⟨a,dx,fs,ex,q1,q2,q3⟩:=tf hn R2 ((S.mono R e1).mono R1 e2) r2 (r1.mono R1 e2) h2;exact⟨a,C,dx,fs,ex,q1,cl,na,q2,q3⟩
noncomputable def L5 (x y:W):M W:=match x,y with
 |.int i,.int j=>pr (.int (i+j))
 |_,_=>no
noncomputable def PF (c f:Str)(fo fv:Lx->M W):Lx->M Fl:=λρ=>bd (fo ρ) λx=>bd (MU c f x) λv=>bd (fv ρ) λy=>bd (L5 v y) λz=>bd (Pa c f x z) λ_=>pr (.nx ρ)
theorem uX (hn:J5 X.K Ks c=some (some (.ref C)))(cl:Cls X.K C)(na:NoAttr X.K C f)(ho:JE X E o fo)(hv:JE X E value fv):JS X E (.AugAssign (.Attribute o f tpos) .Add value pos) (PF c f fo fv):=
 (jZ ho.h hv.h oA).imp λD σ H h=>by
  obtain⟨w,ρ,rfl,R,S,h⟩:=h;refine⟨w,ρ,rfl,R,S,Ps.bd h λp x vx e1 R1 r1 h1=>?_⟩;unfold MU at h1;rw[ae] at h1;obtain⟨j,ns,ws,dx,fs,rfl,hj,e,rfl,q2,q3,q4,h1⟩:=kG hn R1 r1 h1;cases l:NP ns ws f with
  |none=>simp only[l] at h1;exact h1.elim
  |some v=>
   simp only[l,aU] at h1;obtain⟨vv,lv,rv⟩:=lR q3 q4 l;refine⟨_,C,dx,fs,vv,rfl,q2,cl,na,lv,p,ρ,rfl,R1,S.mono R e1,Ps.bd h1 λq y vy e2 R2 r2 h2=>?_⟩;unfold L5 at h2;split at h2
   ·rename_i a b;rw[aU] at h2;refine⟨a,b,Px.mp rv,Px.mp r2,?_⟩;have rl:Rv X.K q (.loc j) (.ref (p.mu j)):=by
     have:=r1.mono R1 e2;exact this
    obtain⟨ad,dx',fs',ex,k1,k2,k3⟩:=tf (vy:=V.int (a+b)) hn R2 ((S.mono R e1).mono R1 e2) rl (Px.mpr rfl) h2;cases ex;exact⟨dx',fs',k1,k2,k3⟩
   ·exact h2.elim
structure CGm (P:J8)(w:J9)(K:Zf)(mg:Str->Option J6)(base:Ka)(k:Nat)(C:Kb)(m:Str)(f:Kb)(fd:KY)(ps:List Str)(n:Nat)(fn:List W->M W):Prop where
 ok:FnOk P w K mg base CX0 k f fd ps (Qq K mg n fn)
 bi:Binds K fd ps []
 me:LD K C m f
noncomputable def isI (c m:Str)(x:W):M W:=bd (M4 c x) λt=>if m∈t.2.1 then no else pr x
noncomputable def N3 (c m:Str)(n:Nat)(fn:List W->M W)(fo:Lx->M W)(l:Lx->M (List W)):Lx->M W:=λρ=>bd (fo ρ) λx=>bd (isI c m x) λx=>bd (l ρ) λws=>arW n fn (x::ws)
theorem yp {α β:Type}{r:Wo->α->β->Prop}{m:Str}{k:W->M α}{Q:β->Hp->Prop}(hn:J5 X.K Ks c=some (some (.ref C)))(R:Rel X.K p)(hr:Rv X.K p x v)(h:Ps (cg X E) r p (bd (isI c m x) k p.h) Q):
  ∃a dx fs,v=.ref a/\p.H a=some (.ins C dx fs)/\fs.lookup m=none/\Ps (cg X E) r p (k x p.h) Q:=by
 unfold isI at h;rw[ae] at h;obtain⟨j,ns,ws,dx,fs,rfl,hj,e,rfl,q2,q3,q4,h⟩:=kG hn R hr h;by_cases z:m∈ns
 ·simp only[if_pos z] at h;exact h.elim
 ·simp only[if_neg z,aU] at h;exact⟨_,dx,fs,rfl,q2,qe (by rw[q3];exact z),h⟩
end
section
variable {X:Cx}{c m:Str}{C fA:Kb}{fd:KY}{ps:List Str}{k n:Nat}{fn:List W->M W}{o e:Expr}{es:List Expr}{fo:Lx->M W}{l:Lx->M (List W)}{pos apos p:Kx}
theorem DF (hn:J5 X.K Ks c=some (some (.ref C)))(cl:Cls X.K C)(F:CGm X.prog X.w X.K X.mg X.base k C m fA fd ps n fn)(hr:Room k X.A)(ho:JE X E0 o fo)(ha:JA X E0 (e::es) l)
  (hst:Kz (e::es) X.env=(false,Kw e X.env)::Kz es X.env:=by rfl)(hpl:(Ky pos (Kz es X.env)).any (·.1)=false:=by rfl)
  (ht:Kw (.Call (.Attribute o m apos) (e::es) [] pos) X.env=(do
   let ov<-Kw o X.env
   KE apos.atName
   let (f,first)<-KF [ov] (KR ov m pl)
   callWith pos f first (Ky pos (Kz (e::es) X.env)) (KU pos (KW [] X.env))):=by rfl):
  JE X E0 (.Call (.Attribute o m apos) (e::es) [] pos) (N3 c m n fn fo l):=(gp ho.h cl F.me F.ok hr F.bi .nil OT ha.h hst hpl ht).imp λσ H Q h=>by
 obtain⟨w,ρ,rfl,R,S,h⟩:=h;refine⟨w,ρ,rfl,R,S,Ps.bd h λp x vx e1 R1 r1 h1=>?_⟩;obtain⟨a,dx,fs,rfl,q1,q2,h1⟩:=yp hn R1 r1 h1;refine⟨a,dx,fs,rfl,q1,q2,p,ρ,rfl,R1,S.mono R e1,Ps.bd h1 λq ws vs e2 R2 r2 h2=>?_⟩;unfold arW at h2;by_cases z:(x::ws).length=n
 ·rw[if_pos z] at h2;exact⟨q,x::ws,rfl,z,R2,by rw[Hn];exact Rvs.cons (r1.mono R1 e2) r2,h2⟩
 ·rw[if_neg z] at h2;exact h2.elim
noncomputable def NZ (c:Str)(n:Nat)(fn:List W->M W)(l:Lx->M (List W)):Lx->M W:=λρ=>bd (l ρ) λws=>λh=>match arW n fn (.loc h.length::ws) (h++[.ins c [] []]) with
 |.ok .non h'=>.ok (.loc h.length) h'
 |_=>.bad
theorem Rv.addLocI {K:Zf}{o:Wo}{q:Kb}{b:Ob}{u:HO}:Rv K (o.add q b u) (.loc o.h.length) (.ref q):=by
 unfold Rv;refine⟨by show _<(o.h++[b]).length;simp,?_⟩;show V.ref q=V.ref (if o.h.length=o.h.length then q else o.mu o.h.length);rw[if_pos rfl]
theorem At (M:Mk X.K C fA)(hn:J5 X.K Ks c=some (some (.ref C)))(F:FnOk X.prog X.w X.K X.mg X.base CX0 k fA fd ps (Qq X.K X.mg n fn))(hb:Binds X.K fd ps [])(hr:Room (k+1) X.A)(hm:X.mg c=some (.ref C))(ha:JA X E0 (e::es) l)(hg:Gl X c:=by rfl)
  (hdb:(c==("__debug__":Str))=false:=by decide)(he:Kz (e::es) X.env=(false,Kw e X.env)::Kz es X.env:=by rfl)(hpl:(Ky pos (Kz es X.env)).any (·.1)=false:=by rfl):
  JE X E0 (.Call (.Name c p) (e::es) [] pos) (NZ c n fn l):=(tu M F hr hg hm hb .nil OT ha.h hdb he hpl).imp λσ H Q h=>by
 obtain⟨w,ρ,rfl,R,S,h⟩:=h;refine⟨w,ρ,rfl,R,S,Ps.bd h λp ws vs e1 R1 r1 h1=>?_⟩;intro x dx hx hdx hne;have X1:Ex p ⟨p.mu,p.h,upd p.H dx (.own x)⟩:=Ex.new hdx;have N1:Rel X.K ⟨p.mu,p.h,upd p.H dx (.own x)⟩:=R1.new hdx;have hx1:(⟨p.mu,p.h,upd p.H dx (.own x)⟩:Wo).H x=none:=by
  show upd p.H dx (.own x) x=none;rw[ai (Ne.symm hne)];exact hx
 have X2:Ex ⟨p.mu,p.h,upd p.H dx (.own x)⟩ (Wo.add ⟨p.mu,p.h,upd p.H dx (.own x)⟩ x (.ins c [] []) (.ins C dx [])):=Ex.add hx1;have N2:Rel X.K (Wo.add ⟨p.mu,p.h,upd p.H dx (.own x)⟩ x (.ins c [] []) (.ins C dx [])):=N1.add hx1 ⟨C,dx,[],hn,ay,rfl,Rvs.nil⟩
 have h1:Ps (cg X E0) (Rv X.K) p (match arW n fn (.loc p.h.length::ws) (p.h++[.ins c [] []]) with
  |.ok .non h'=>.ok (.loc p.h.length) h'
  |_=>.bad) Q:=h1
 by_cases z:(W.loc p.h.length::ws).length=n
 ·rw[sD z] at h1;refine⟨Wo.add ⟨p.mu,p.h,upd p.H dx (.own x)⟩ x (.ins c [] []) (.ins C dx []),.loc p.h.length::ws,rfl,z,N2,?_,?_⟩
  ·rw[Hn];exact Rvs.cons Rv.addLocI ((r1.mono R1 X1).mono N1 X2)
  ·show Ps ⟨X.K,X.mg,E0⟩ (Rv X.K) _ (fn (.loc p.h.length::ws) (p.h++[.ins c [] []])) _;cases ef:fn (.loc p.h.length::ws) (p.h++[.ins c [] []]) with
   |ok a h'=>
    rw[ef] at h1;cases a with
    |non=>
     intro p' b hp X3 R3 rb;refine⟨Py.mp rb,Ps.at (p:=p') h1 hp ((X1.trans X2).trans X3) R3 ?_⟩;have lt:p.h.length<(Wo.add ⟨p.mu,p.h,upd p.H dx (.own x)⟩ x (.ins c [] []) (.ins C dx [])).h.length:=by show _<(p.h++[_]).length;simp
     unfold Rv;refine⟨Ha lt X3.le,?_⟩;rw[X3.mu _ lt];show V.ref x=V.ref (if p.h.length=p.h.length then x else p.mu p.h.length);rw[if_pos rfl]
    |_=>exact h1.elim
   |ex y h'=>rw[ef] at h1;exact h1.elim
   |bad=>rw[ef] at h1;exact h1.elim
 ·have:arW n fn (.loc p.h.length::ws)=no:=if_neg z;rw[this] at h1;exact h1.elim
end
end
end L2
namespace PySem
open Sem (wp)
theorem oB {w:J9}{E:J6->Kd->Prop}{k:Nat}{name:Str}{Q:Option J6->Kd->Prop}
  (hx:s.heap.get? a=some o)(hc:o.cls=.type "list")(hdat:o.data=.seq xs k)(hd:o.dict=none)(hmiss:typeLookup (.type "list") name=pure none)(hname:(["__module__", "__name__", "__qualname__", "__doc__", "__annotations__"]:List Str).contains name=false)(hA:A.handled=none)
  (h:∀h' tk,(∀b ob,s.heap.get? b=some ob->h'.get? b=some ob)->Q none {s with heap:=h',toks:=tk})(hsz:name.length+100<=sizeLine:=by size_fits):
  Kh (Ki prog w) A (getAttr? (.ref a) name) Q E s:=by
 obtain⟨c,dct,dat,sl⟩:=o;simp only at hc hdat hd;subst hc hdat hd;obtain⟨hp,g,d,tk,os⟩:=s;have hT: ∀tk',(⟨hp,g,d,tk',os⟩:Kd).TypeIs (.ref a) "list":=λ_=>⟨_,hx,rfl⟩
 have f1:=sub_AttributeError;have f3:=F.slot_list_getattribute.lookup;have f4:=F.slot_list_getattribute.bind (.ref a);have f5:=am_list_getattr_none;unfold getAttr? getAttrBy? getAttrBy
 repeat (any_goals (first|assumption|exact hT _|((with_reducible show Kh _ _ (call (J6.builtin "list.__getattribute__") _ _) _ _ _);refine La F.slot_list_getattribute (hT _) am_entry_list_getattribute (F.args_list_getattribute_2 _ _) (meets_getattribute_miss_list a xs k sl name _ hmiss hname hsz) ⟨hx,hA,λh' tk' e hx'=>?_⟩)|wp_step))
 obtain⟨t',u',he⟩:=hx'.there;show Kh _ _ (getattributeRaised _ _ _ _ _ _ _) _ _ _;unfold getattributeRaised
 repeat (any_goals (first|assumption|wp_step))
 exact h _ _ hx'.keeps
theorem F.entry_dul:entryFor table "dict.update.loop"=some J7.«dict.update.loop»:=entryFor_of_tree (by kernel_rfl)
theorem F.plain_dul:plainId "dict.update.loop"=true:=⋯
structure LJ (K:Type) where
 t:Kb
 k:K
 key:J6
 val:J6
section
variable {prog:J8}{w:J9}{K:Type} [DecidableEq K] {knd:KeyKind prog w K}{A:Kf}{R:Result->Kd->Prop}
theorem yK (hh:A.in1.handled=none)(I ax D:Kb)(hI:ax≠I)(hD:D≠I)(hx:D≠ax)(ps:List (LJ K))(res:J6)(hk: ∀p∈ps,knd.is p.k p.key=true)(ht: ∀p∈ps,p.t≠I/\p.t≠D):
  ∀ (k i:Nat) (s:Kd) (kvs:List (K×J6)),ps.length - i=k->i<=ps.length->s.heap.IsListIter I ax i->s.heap.IsList ax (ps.map λp=>J6.ref p.t).toArray->s.heap.DictOf knd D kvs->(∀p∈ps,∃o n,s.heap.get? p.t=some o/\o.cls=.type "tuple"/\o.data=.seq #[p.key,p.val] n)->kvs.length+(ps.length - i)<=sizeLine->
  (∀h' tk,h'.DictOf knd D ((ps.drop i).foldl (λacc p=>stored acc p.k p.val) kvs)->(∀b o,b≠I->b≠D->s.heap.get? b=some o->h'.get? b=some o)->R (.ok (.ret res)) {s with heap:=h',toks:=tk})->
  codeAny (Ki prog w) A (.builtin "dict.update.loop" ⟨[.ref D,.ref I,KN (i:Int),res],[]⟩) R s:=by
 have W:=Walks.list (prog:=prog) (w:=w) (A:=A.in1) hh I ax hI (ps.map λp=>J6.ref p.t).toArray;have hn:(ps.map λp=>J6.ref p.t).toArray.size=ps.length:=⇑_;intro k
 induction k with
 |zero=>
  intro i s kvs hk' hi hit hl hd htp hz hR;have hin:i=ps.length:=∅;subst hin;refine codeAny_builtin F.entry_dul ?_;rw[Kf.under_plainId F.plain_dul _];show Kh _ A.in1 (KL (.ref I)>>=_) _ _ s
  refine Kj (W.done s _ _ ⟨by rw[hn];exact hit,hl⟩ λh' tk hm=>?_);show Kh _ _ (J7.Dict.addKeywords D []>>=_) _ _ _;refine Kj (Kl (Kl (hR h' tk ?_ λb o hb _ e=>hm b o (by simpa using hb) e)));rw[IE];exact hd.extBut (λb o hb e=>hm b o (by simpa using hb) e) hD
 |succ k ih=>
  intro i s kvs hk' hi hit hl hd htp hz hR;have hlt:i<ps.length:=∅;refine codeAny_builtin F.entry_dul ?_;rw[Kf.under_plainId F.plain_dul _];show Kh _ A.in1 (KL (.ref I)>>=_) _ _ s
  refine Kj (W.item i s _ _ (by rw[hn];exact hlt) ⟨hit,hl⟩ λv h' tk hP hst hm=>?_);obtain⟨p,hp⟩: ∃p,ps[i]?=some p:=⟨_,G0 hlt⟩
  have hv:v=.ref p.t:=by
   have:(ps.map λp=>J6.ref p.t)[i]?=some v:=by simpa using hP
   rw[GW,hp] at this;exact (Option.some.inj this).symm
  subst hv;have pm:p∈ps:=Hi hp;obtain⟨o,n,ho,hc,hdt⟩:=htp p pm;have ho':h'.get? p.t=some o:=hm p.t o (by simpa using (ht p pm).1) ho;have hT:(⟨h',s.gens,s.drawn,tk,s.os⟩:Kd).TypeIs (.ref p.t) "tuple":=⟨_,ho',hc⟩
  dsimp only;refine Kj (Kn (Kj (wpAny_tryCatch ?_)));unfold J7.Dict.pairItems;refine Kj (wpAny_typeOf hT ?_);rw[if_pos ↥_];refine Kj (Kp ho' hdt (Kl ?_));show Kh _ _ (KF [p.key,p.val] (dictSet D p.key p.val)) _ _ _;have hd1:h'.DictOf knd D kvs:=hd.extBut (λb o hb e=>hm b o (by simpa using hb) e) hD;refine Kn (wpAny_dictSet_pairs (s:=⟨h',s.gens,s.drawn,tk,s.os⟩) (hk p pm) hd1 (λh2 hd2 hs2=>?_) ∅);have kp2: ∀b o,b≠D->h'.get? b=some o->h2.get? b=some o:=λb o hb e=>(hs2.2 b hb).trans e;have ei:((i:Int)+1)=((i+1:Nat):Int):=∅;rw[ei];refine Kl ⟨plainId_quiet F.plain_dul _,ih (i+1) _ (stored kvs p.k p.val) ∅ ∅ (hst.1.at λo e=>kp2 I o (Ne.symm hD) e) (hst.2.at λo e=>kp2 ax o (Ne.symm hx) e) hd2 (λq hq=>?_) ?_ λh3 tk3 hd3 hk3=>?_⟩
  ·obtain⟨o,n,e1,e2,e3⟩:=htp q hq;exact⟨o,n,kp2 _ _ (ht q hq).2 (hm _ _ (by simpa using (ht q hq).1) e1),e2,e3⟩
  ·have:(stored kvs p.k p.val).length<=kvs.length+1:=by
    unfold stored;split
    ·rw[GN];omega
    ·rw[GQ];simp
   omega
  ·refine hR h3 tk3 ?_ λb o hb hb2 e=>hk3 b o hb hb2 (kp2 b o hb2 (hm b o (by simpa using hb) e));have ed:ps.drop i=p::ps.drop (i+1):=by
    rw[Iq hlt];congr 1;have:=G0 hlt;rw[hp] at this;exact (Option.some.inj this).symm
   rw[ed,Ic];exact hd3
theorem u9:typeLookup (.type "list") "keys"=pure none:=am_miss_of_fast ⋯
theorem mD {E:J6->Kd->Prop}{s:Kd}{a:Kb}{ps:List (LJ K)}{Q:J6->Kd->Prop}(hh:A.handled=none)(hl:PlainL s.heap a (ps.map λp=>J6.ref p.t).toArray)(hk: ∀p∈ps,knd.is p.k p.key=true)
  (ht: ∀p∈ps,∃o n,s.heap.get? p.t=some o/\o.cls=.type "tuple"/\o.data=.seq #[p.key,p.val] n)(hz:ps.length<=sizeLine)
  (h:∀h' tk,h'.DictOf knd ↥s (ps.foldl (λacc p=>stored acc p.k p.val) [])->(∀b o,s.heap.get? b=some o->h'.get? b=some o)->Q (.ref ↥s) {s with heap:=h',toks:=tk}):
  Kh (Ki prog w) A (call (.type "dict") [.ref a]) Q E s:=by
 refine callType_codes (Q₁:=λobj s₁=>obj=.ref ↥s/\s₁={s with heap:=s.heap.push {cls:=.type "dict",data:=.dict #[]}}) F.kt_called_dict (F.kt_typeCall_dict_1 _) F.entry_dict_init (kt_code_dict_new _ ⟨rfl,rfl⟩) ?_
 rintro obj s₁ ⟨rfl,rfl⟩
 have hnew:(s.heap.push {cls:=.type "dict",data:=.dict #[]}).DictOf knd ↥s []:=Ka.DictOf.new s.heap;have kp1: ∀b o,s.heap.get? b=some o->(s.heap.push {cls:=.type "dict",data:=.dict #[]}).get? b=some o:=λb o e=>GZ _ e;have hl1:=hl.keeps kp1;have hT:({s with heap:=s.heap.push {cls:=.type "dict",data:=.dict #[]}}:Kd).TypeIs (.ref a) "list":=let ⟨o,n,e,c,_,_⟩:=hl1;⟨o,e,c⟩;have al:a<↥s:=let ⟨o,n,e,_⟩:=hl;GU e;refine⟨hnew.typeIs,F.args_dict_init_2 _ _,?_⟩;unfold J7.«dict.__init__»;refine Kj ?_;unfold J7.Dict.selfAndRest;refine Kj (wpAny_notOrdered_dict hnew.typeIs ?_);show Kh _ _ (pure (↥s,[J6.ref a])) _ _ _;refine Kl ?_;show Kh _ _ (J7.Dict.updateFrom "dict.__init__" ↥s (.ref a) [] .none) _ _ _;unfold J7.Dict.updateFrom;refine Kj (wpAny_typeOf hT ?_);rw[if_pos ↥_];obtain⟨o,n,e1,e2,e3,e4⟩:=hl1;refine Kj (oB e1 e2 e4 e3 u9 ⋯ hh (λh2 tk2 kp2=>?_) ⋯);rw[if_pos (show (none:Option J6).isNone=true from rfl)];refine Kj (Km ?_);have hl2:PlainL h2 a (ps.map λp=>J6.ref p.t).toArray:=PlainL.keeps ⟨o,n,e1,e2,e3,e4⟩ kp2;refine Kj (wpAny_pyIter_list (s:=⟨h2,s.gens,s.drawn,tk2,s.os⟩) hl2.isList ?_);have d2:↥s<h2.objs.size:=by
  obtain⟨o',_,_,e',_⟩:=hnew;exact GU (kp2 _ _ e')
 have kp3: ∀b o,s.heap.get? b=some o->(h2.push {cls:=.type "list_iterator",data:=.fields #[.ref a,.int 0 0]}).get? b=some o:=λb o e=>GZ _ (kp2 b o (kp1 b o e));have hnew3:(h2.push {cls:=.type "list_iterator",data:=.fields #[.ref a,.int 0 0]}).DictOf knd ↥s []:=by
  obtain⟨o',es,ep,e',r⟩:=hnew;exact⟨o',es,ep,GZ _ (kp2 _ _ e'),r⟩
 have tl: ∀p∈ps,p.t<↥s:=λp hp=>by
  obtain⟨o,n,e,_⟩:=ht p hp;exact GU e
 refine Kl ⟨plainId_quiet F.plain_dul _,yK (A:=A.in1) (knd:=knd) hh h2.objs.size a ↥s (G7 (IB al d2)) (G7 d2) (Ne.symm (G7 al)) ps .none hk (λp hp=>⟨G7 (IB (tl p hp) d2),G7 (tl p hp)⟩) ps.length 0 _ [] rfl (G8 _) ⟨_,He _ rfl,rfl,rfl⟩ (PlainL.keeps hl2 λb o e=>GZ _ e).isList hnew3 (λp hp=>?_) (by show 0+(ps.length - 0)<=sizeLine;omega) λh4 tk4 hd4 hk4=>?_⟩
 ·obtain⟨o,n,e,r⟩:=ht p hp;exact⟨o,n,kp3 _ _ e,r⟩
 ·refine⟨rfl,h h4 tk4 hd4 λb o e=>hk4 b o ?_ ?_ (kp3 b o e)⟩
  ·exact G7 (IB (GU e) d2)
  ·exact G7 (GU e)
end
end PySem
namespace L2
open PySem PySem.Spec PyProof.Rows
inductive LM (K:Zf)(H:Hp):List V->List (Key×V)->Prop
 |nil:LM K H [] []
 |cons {t:Kb}{k:Key}{v:V}{vs:List V}{ps:List (Key×V)} (e:SqT K H t [kV k,v]) (r:LM K H vs ps):LM K H (.ref t::vs) ((k,v)::ps)
theorem lN: ∀ (ps kvs:List (Key×V)),(gq kvs ps).length<=kvs.length+ps.length
 |[],kvs=>by simp [gq]
 |p::ps,kvs=>by
  have h1:=lN ps (Pb kvs p.1 p.2);have h2:=ii kvs p.1 p.2;show (gq (Pb kvs p.1 p.2) ps).length<=_;rw[GT];omega
section
variable {X:Cx}
theorem wX (I:Inv X pins σ H s): ∀ {vs:List V}{kvs:List (Key×V)}{its:List J6},LM X.K H vs kvs->Vals vs its->
  ∃ps:List (LJ Key),its=ps.map (λp=>J6.ref p.t)/\(∀p∈ps,(cx X.prog X.w).is p.k p.key=true)/\(∀p∈ps,∃o n,s.heap.get? p.t=some o/\o.cls=.type "tuple"/\o.data=.seq #[p.key,p.val] n)/\
   ps.length=kvs.length/\ ∀ (acc:List (Key×V)) (ac:List (Key×J6)),KV acc ac->KV (gq acc kvs) (ps.foldl (λacc p=>stored acc p.k p.val) ac)
 |_,_,_,.nil,.nil=>⟨[],rfl,λp hp=>absurd hp Hj,λp hp=>absurd hp Hj,rfl,λ_ _ h=>h⟩
 |_,_,_,.cons (t:=t) (k:=k) (v:=v) e r,.cons ru rr=>by
  cases ru;obtain⟨ps,e1,h1,h2,h3,h4⟩:=wX I r rr;obtain⟨is,rv,tp,_⟩:=I.tuple e;obtain⟨u,w',rfl,rk,rw'⟩:=vals2 rv;obtain⟨o,ho,hc,n,hd⟩:=tp;refine⟨⟨t,k,u,w'⟩::ps,by rw[GV,e1],λp hp=>?_,λp hp=>?_,by rw[GT,GT,h3],λacc ac q=>?_⟩
  ·rcases GR.mp hp with rfl|hp
   ·exact ng rk
   ·exact h1 p hp
  ·rcases GR.mp hp with rfl|hp
   ·exact⟨o,n,ho,hc,hd⟩
   ·exact h2 p hp
  ·rw[Ic];exact h4 _ _ (q.put k rw')
theorem oR (hc:X.calm=true):CallR X (.type "dict") (λxs H Q=> ∃ (a:Kb) (vs:List V) (kvs:List (Key×V)),xs=[.ref a]/\SqL X.K H a vs/\LM X.K H vs kvs/\ ∀p,H p=none->Q (.ref p) (upd H p (.dK (gq [] kvs)))):=by
 intro pins s σ H xs us Q I r h;obtain⟨a,vs,kvs,rfl,sq,pr',q⟩:=h;obtain⟨u,rfl,ru⟩:=QW r;cases ru;obtain⟨its,rv,pl,hz⟩:=I.list sq;obtain⟨ps,rfl,h1,h2,h3,h4⟩:=wX I pr' rv;have hl:vs.length=kvs.length:=by rw[rv.length,GN,h3]
 have ml:=lN kvs [];rw[IA] at ml;refine mD (knd:=cx X.prog X.w) (I.ok.hd hc) pl h1 h2 ∅ λh' tk hd kp=>?_;exact⟨.ref ↥s,_,I.laid (a:=↥s) (o:=.dK (gq [] kvs)) (t':=tk) kp (GO _) (yM ∅ (beq_eq_false_iff_ne.mpr (Ne.symm (G7 I.big))) (h4 [] [] .nil) hd),rfl,q _ (I.hok.fresh (GO _))⟩
end
section
noncomputable def prW:W->Option (Key×W)
 |.tup [k,v]=>(Ny k).map λq=>(q,v)
 |_=>none
noncomputable def fJ (ks:List Key)(ws:List W):List (Key×W)->List Key×List W
 |[]=>(ks,ws)
 |p::ps=>fJ (Pe ks ws p.1 p.2).1 (Pe ks ws p.1 p.2).2 ps
section
variable {K:Zf}{o:Wo}
theorem wW: ∀ {l:List W}{us:List V}{ps:List (Key×W)},OQ prW l=some ps->Rvs K o l us-> ∃kvs:List (Key×V),LM K o.H us kvs/\ ∀ (acc:List (Key×V)) (ks:List Key) (ws:List W),acc.map (·.1)=ks->Rvs K o ws (acc.map (·.2))->(gq acc kvs).map (·.1)=(fJ ks ws ps).1/\Rvs K o (fJ ks ws ps).2 ((gq acc kvs).map (·.2))
 |[],_,ps,e,r=>by
  cases e;unfold Rvs at r;subst r;exact⟨[],.nil,λacc ks ws h1 h2=>⟨h1,h2⟩⟩
 |x::l,_,ps,e,r=>by
  unfold Rvs at r;obtain⟨v,t,rfl,r1,r2⟩:=r;unfold OQ at e;cases ex:prW x with
  |none=>simp only[ex] at e;cases e
  |some p=>
   cases el:OQ prW l with
   |none=>simp only[ex,el] at e;cases e
   |some qs=>
    simp only[ex,el] at e;cases e;obtain⟨kvs,h1,h2⟩:=wW el r2;unfold prW at ex;split at ex
    ·rename_i kx vx;cases ek:Ny kx with
     |none=>rw[ek] at ex;cases ex
     |some q=>
      rw[ek] at ex;cases ex;unfold Rv at r1;obtain⟨a,vs,rfl,sq,rr⟩:=r1;obtain⟨u,y,rfl,ru,ry⟩:=rr.two;have:=fY ek ru;subst this;refine⟨(q,y)::kvs,.cons sq h1,λacc ks ws g1 g2=>?_⟩;obtain⟨b1,b2⟩:=jr (x:=q) ry g1 g2;exact h2 _ _ _ b1 b2
    ·cases ex
end
noncomputable def Mu (ws:List W):M W:=match ws with
 |[x]=>bd (NR x) λl=>match OQ prW l with
  |some ps=>λh=>.ok (.loc h.length) (h++[.dic (fJ [] [] ps).1 (fJ [] [] ps).2])
  |none=>no
 |_=>no
section
variable {X:Cx}{E:XK}{a:Expr}{p pos:Kx}{l:Lx->M (List W)}
theorem xX (hc:X.calm=true)(hm:X.mg "dict"=none)(ha:JA X E [a] l)(hg:Gl X "dict")(he:Kz [a] X.env=(false,Kw a X.env)::Kz [] X.env)(hpl:(Ky pos (Kz [] X.env)).any (·.1)=false):JE X E (.Call (.Name "dict" p) [a] [] pos) (NU Mu l):=
 (iH (oR hc) hg hm PyProof.Rows.boot_dict ha.h (he:=he) (hpl:=hpl)).imp λσ H Q h=>by
  obtain⟨o,ρ,rfl,R,S,h⟩:=h;refine⟨o,ρ,rfl,R,S,Ps.bd h λp x vx e1 R1 r1 h1=>?_⟩;unfold Mu at h1;split at h1
  ·obtain⟨v,rfl,r⟩:=r1.one;obtain⟨m,a',us,rfl,s,rr,h1⟩:=eO R1 r h1;cases el:OQ prW m with
   |none=>simp only[el] at h1;exact h1.elim
   |some ps=>
    simp only[el] at h1;obtain⟨kvs,k1,k2⟩:=wW el rr;obtain⟨b1,b2⟩:=k2 [] [] [] rfl Rvs.nil;refine⟨a',us,kvs,rfl,s,k1,λq hq=>?_⟩;exact Ps.at (p:=p.add q (.dic (fJ [] [] ps).1 (fJ [] [] ps).2) (.dK (gq [] kvs))) h1 rfl (Ex.add hq) (R1.addD hq b1 b2) Rv.addLoc
  ·exact h1.elim
end
end
section
section
variable {X:Cx}{E:XK}{e:Expr}{f:Lx->M W}{pos:Kx}
noncomputable def PB (i:Nat)(f:Lx->M W):Lx->M Fl:=λρ=>bd (Oj i ρ) λx=>bd (f ρ) λy=>bd (L5 x y) λz=>pr (.nx (ρ.set i (some z)))
theorem tj:PIp X .Add rAdd:=λpins s σ H x y u v Q I rx ry q=>oA pins s σ H x y u v Q I rx ry q
theorem Dk {i:Nat}{x:Str}(hN:X.N.Nodup)(hi:X.N[i]?=some x)(hx:Loc X.env.scope x)(he:JE X E e f)(hf:X.fn x=true\/X.env.scope.names.lookup x=some .local ):
  JS X E (.AugAssign (.Name x pos') .Add e pos) (PB i f):=⟨λpins s σ H D I h=>by
 obtain⟨o,ρ,rfl,R,S,h⟩:=h;unfold PB Oj at h;split at h
 ·rename_i w hw;obtain⟨v,hv,rv⟩:=S.get hw;rw[aU] at h;refine Cd hN hi hx he.h tj hf pins s σ o.H D I ⟨v,hv,o,ρ,rfl,R,S,Ps.bd h λp y vy e1 R1 r1 h1=>?_⟩;unfold L5 at h1;split at h1
  ·rename_i a b;rw[aU] at h1;exact⟨a,b,Px.mp (rv.mono R e1),Px.mp r1,Ps.pr (b:=FlV.nx (σ.set i (some (.int (a+b))))) h1 R1 ⟨_,rfl,(S.mono R e1).set (Px.mpr rfl) i⟩⟩
  ·exact h1.elim
 ·exact h.elim⟩
end
end
end L2
namespace L2
open PySem
section
variable {β:Type}{h:List Ob}{Q:β->List Ob->Prop}{j d:Nat}
theorem oh {c:Str}{ns:List Str}{ws:List W}(e:h[d]?=some (.ins c ns ws)):M4 c (.loc d) h=.ok (d,ns,ws) h:=by
 unfold M4;simp only[e,if_true]
theorem aJ {c f:Str}{ns:List Str}{ws:List W}{w:W}{k:W->M β}(e:h[d]?=some (.ins c ns ws))(e2:NP ns ws f=some w)(q:Ok (k w) h Q):Ok (bd (MU c f (.loc d)) k) h Q:=by
 refine aY (a:=w) (h':=h) ?_ q;unfold MU;rw[dG (oh e)];simp only[e2];rfl
theorem ja {c f:Str}{ns ns':List Str}{ws ws':List W}{k:Unit->M β}(e:h[d]?=some (.ins c ns ws))(z:ns.length<1000)(e2:Pc ns ws f y=(ns',ws'))(q:Ok (k ()) (h.set d (.ins c ns' ws')) Q):Ok (bd (Pa c f (.loc d) y) k) h Q:=by
 refine aY (a:=()) (h':=h.set d (.ins c ns' ws')) ?_ q;unfold Pa;rw[dG (oh e)];simp only[if_pos z,e2]
theorem cn {c m:Str}{ns:List Str}{ws:List W}{k:W->M β}(e:h[d]?=some (.ins c ns ws))(z:m ∉ ns)(q:Ok (k (.loc d)) h Q):Ok (bd (isI c m (.loc d)) k) h Q:=by
 refine aY (a:=.loc d) (h':=h) ?_ q;unfold isI;rw[dG (oh e)];simp only[if_neg z];rfl
theorem CZ {ws:List W}{z:Str}{k:W->M β}(e:h[j]?=some (.dic ks ws))(e2:atK ks ws (.inr z)=some v)(q:Ok (k v) h Q):Ok (bd (ixW (.loc j) (.str z)) k) h Q:=by
 refine aY (a:=v) (h':=h) ?_ q;have d:Mw (.loc j) h=some (ks,ws):=by unfold Mw;simp only[e]
 have:ixO (.loc j) (.str z) h=some v:=by
  unfold ixO;simp only[d,Ny,e2]
 unfold ixW;rw[this]
theorem xq {ws ws':List W}{z:Str}{k:Unit->M β}(e:h[j]?=some (.dic ks ws))(hz:ks.length<sizeLine)(e2:Pe ks ws (.inr z) v=(ks',ws'))(q:Ok (k ()) (h.set j (.dic ks' ws')) Q):Ok (bd (dH (.loc j) (.str z) v) k) h Q:=by
 refine aY (a:=()) (h':=h.set j (.dic ks' ws')) ?_ q;unfold dH;simp only[e,Ny,if_pos hz,e2]
theorem tE {c:Str}{n:Nat}{fn:List W->M W}{ws:List W}{P:List Ob->Prop}{k:W->M β}(hn:ws.length+1=n)(p:Ok (fn (.loc h.length::ws)) (h++[.ins c [] []]) λw h'=>w=.non/\P h')(q:∀h',P h'->Ok (k (.loc h.length)) h' Q):
  Ok (bd (λh=>match arW n fn (.loc h.length::ws) (h++[.ins c [] []]) with
 |.ok .non h'=>.ok (.loc h.length) h'
 |_=>.bad) k) h Q:=by
 obtain⟨w,h',e,rfl,hp⟩:=p;refine aY (a:=.loc h.length) (h':=h') ?_ (q h' hp);have:arW n fn (.loc h.length::ws)=fn (.loc h.length::ws):=sD hn;simp only[this,e]
theorem E3 {ws:List W}{k:W->M β}(L:Lw h x l)(e:OQ prW l=some ps)(e2:fJ [] [] ps=(ks,ws))(q:Ok (k (.loc h.length)) (h++[.dic ks ws]) Q):Ok (bd (Mu [x]) k) h Q:=by
 refine aY (a:=.loc h.length) (h':=h++[.dic ks ws]) ?_ q;unfold Mu;dsimp only;rw[dG L.of];simp only[e,e2]
theorem zX {k:W->M β}(q:Ok (k (.loc h.length)) (h++[.dic [] []]) Q):Ok (bd (NY ρ) k) h Q:=aY (a:=.loc h.length) (h':=h++[.dic [] []]) rfl q
theorem xv {k:List W->M β}(L:Lw h x l)(q:Ok (k l) h Q):Ok (bd (NR x) k) h Q:=aY L.of q
end
theorem Ew {t:Lx->M Bool}{g:Lx->M Fl}{n:Nat}{Q:Fl->List Ob->Prop}(c:Ok (t ρ) h λb h'=>b=true/\h'=h)(b:Ok (g ρ) h λx h'=>(∃r,x=.nx r/\Ok (cX t g n r) h' Q)\/ ∃w,x=.rt w/\Q (.rt w) h'):Ok (cX t g (n+1) ρ) h Q:=by
 obtain⟨b0,h0,e0,rfl,rfl⟩:=c;obtain⟨x,h1,e1,q⟩:=b;rcases q with⟨r,rfl,y,h2,e2,q⟩|⟨w,rfl,q⟩
 ·refine⟨y,h2,?_,q⟩;unfold cX;rw[dG e0,if_pos rfl,dG e1];exact e2
 ·refine⟨.rt w,h1,?_,q⟩;unfold cX;rw[dG e0,if_pos rfl,dG e1];rfl
theorem Ey {t:Lx->M Bool}{g:Lx->M Fl}{n:Nat}{Q:Fl->List Ob->Prop}(c:Ok (t ρ) h λb h'=>b=false/\h'=h)(q:Q (.nx ρ) h):Ok (cX t g (n+1) ρ) h Q:=by
 obtain⟨b0,h0,e0,rfl,rfl⟩:=c;refine⟨.nx ρ,_,?_,q⟩;unfold cX;rw[dG e0,if_neg G5];rfl
noncomputable def ctS (g:Lx->M Fl):Fl->M Fl:=λx=>match x with
 |.nx r=>g r
 |x=>pr x
noncomputable def ctI (f g:Lx->M Fl)(ρ:Lx):Bool->M Fl:=λb=>if b=true then f ρ else g ρ
theorem bj (f g:Lx->M Fl)(ρ:Lx):PU f g ρ=bd (f ρ) (ctS g):=by unfold PU;rfl
theorem bW (g:Lx->M Fl)(r:Lx):ctS g (.nx r)=g r:=by unfold ctS;rfl
theorem bV (g:Lx->M Fl)(w:W):ctS g (.rt w)=pr (.rt w):=by unfold ctS;rfl
theorem bS (t:Lx->M Bool)(f g:Lx->M Fl)(ρ:Lx):sIf t f g ρ=bd (t ρ) (ctI f g ρ):=by unfold sIf;rfl
theorem cR (f g:Lx->M Fl)(ρ:Lx):ctI f g ρ true=f ρ:=by unfold ctI;rw[if_pos rfl]
theorem cS (f g:Lx->M Fl)(ρ:Lx):ctI f g ρ false=g ρ:=by unfold ctI;rw[if_neg G5]
end L2
namespace L2
open PySem PySem.Spec PyProof.Rows
section
variable {X:Cx}{E:XK}{o e:Expr}{es:List Expr}{pos:Kx}{l:Lx->M (List W)}
noncomputable def ktW (ws:List W):M W:=match OQ Ny ws with
 |some ks=>gd (ws.length<=sizeLine) (pr (.kt ks))
 |none=>no
noncomputable def mKt (l:Lx->M (List W)):Lx->M W:=λρ=>bd (l ρ) ktW
theorem ot {K:Zf}{o:Wo}: ∀ {ws:List W}{vs:List V}{ks:List Key},OQ Ny ws=some ks->Rvs K o ws vs->vs=ks.map kV
 |[],vs,ks,e,r=>by unfold Rvs at r;cases e;exact r
 |w::ws,vs,ks,e,r=>by
  unfold Rvs at r;obtain⟨v,r',rfl,h1,h2⟩:=r;unfold OQ at e;split at e
  ·rename_i b c e1 e2;cases e;rw[fY e1 h1,ot e2 h2];rfl
  ·cases e
theorem Fi {x1}(h:JA X E es l):JE X E (.Tuple es x1 pos) (mKt l):=(j1 h.h).imp λσ H Q h=>by
 ac_nf;unfold ktW at h1;cases ek:OQ Ny x with
 |none=>rw[ek] at h1;exact h1.elim
 |some ks=>
  rw[ek] at h1;obtain⟨hz,h1⟩:=h1.gd;refine⟨by rw[r1.len];exact hz,λq hq=>Ps.at (p:=⟨p.mu,p.h,upd p.H q (.tup vx)⟩) h1 rfl (Ex.new hq) (R1.new hq) ?_⟩;unfold Rv;exact⟨q,rfl,by rw[<-ot ek r1];exact ay⟩
noncomputable def rX:Lx->M W:=λ_ h=>.ok (.loc h.length) (h++[.dit [] []])
theorem xW:JE X E (.Dict [] [] pos) rX:=OY.imp λσ H Q h=>by
 obtain⟨o,ρ,rfl,R,S,h⟩:=h;intro q hq;exact Ps.at (p:=o.add q (.dit [] []) (.dT [])) h rfl (Ex.add hq) (R.addT hq rfl Rvs.nil) Rv.addLoc
noncomputable def Mx (w:W)(h:List Ob):Option (List (List Key)×List W):=match w with
 |.loc k=>match h[k]? with
  |some (.dit ks ws)=>some (ks,ws)
  |_=>none
 |_=>none
theorem qv {o:Wo}{w:W}{v:V}{ks:List (List Key)}{ws:List W}(R:Rel X.K o)(e:Mx w o.h=some (ks,ws))(h:Rv X.K o w v): ∃a kvs,v=.ref a/\Rd o.H a (.dT kvs)/\kvs.map (·.1)=ks/\Rvs X.K o ws (kvs.map (·.2)):=by
 cases w with
 |loc k=>
  unfold Mx at e;dsimp only at e;split at e
  ·rename_i a b hk;cases e;unfold Rv at h;obtain⟨kvs,h1,h2,h3⟩:=R.ob k _ hk;exact⟨_,kvs,h.2,.inl h1,h2,h3⟩
  ·cases e
 |_=>cases e
noncomputable def Nz:W->Option (List Key)
 |.kt ks=>some ks
 |.tup l=>OQ Ny l
 |_=>none
theorem AJ {K:Zf}{o:Wo}{x:W}{v:V}{k:List Key}(e:Nz x=some k)(h:Rv K o x v): ∃b,v=.ref b/\SqT K o.H b (k.map kV):=by
 cases x with
 |kt ks=>cases e;unfold Rv at h;obtain⟨a,e,h⟩:=h;exact⟨a,e,.of h⟩
 |tup l=>
  unfold Rv at h;obtain⟨a,vs,e1,s,r⟩:=h;exact⟨a,e1,by rw[<-ot (show OQ Ny l=some k from e) r];exact s⟩
 |_=>cases e
theorem AI (I:Inv X pins σ H s)(h:SqT X.K H b (k.map kV)):(Kr (cx X.prog X.w)).is s.heap k b:=by
 obtain⟨its,r,⟨o,h1,h2,n,h3⟩,_⟩:=I.tuple h;exact⟨o,its.toArray,n,h1,h2,h3,by simpa using j6 r⟩
end
section
open Sem (wp)
open Builtin
noncomputable def F0 (f:J6):Prop:=f=.none\/ ∃T:Nat,f=KN T
end
section
theorem w5 (its:List J6):slicePick its.toArray none none (some (-1))=its.reverse.toArray:=by
 unfold slicePick;have hb:K9 none none (some (-1)) its.toArray.size=(((its.length:Nat):Int) - 1,-1,-1):=by
  rw[G4];rfl
 rw[hb];show ((sliceRange (((its.length:Nat):Int) - 1) (-1) (-1)).filterMap (its.toArray[·]?)).toArray=_;congr 1;have hr:sliceRange (((its.length:Nat):Int) - 1) (-1) (-1)=(List.range its.length).map λk=>its.length - 1 - k:=by
  unfold sliceRange;have c:(if (-1:Int)>0 then (if ((its.length:Nat):Int) - 1< -1 then (-1 - (((its.length:Nat):Int) - 1)+ -1 - 1) / -1 else 0) else (if ((its.length:Nat):Int) - 1> -1 then (((its.length:Nat):Int) - 1 - -1 - -1 - 1) / (- -1) else 0)).toNat=its.length:=by
   rw[if_neg ↥_];by_cases z:((its.length:Nat):Int) - 1> -1
   ·rw[if_pos z,show (- -1:Int)=1 by decide,Int.ediv_one];omega
   ·rw[if_neg z];omega
  show (List.range (if (-1:Int)>0 then (if ((its.length:Nat):Int) - 1< -1 then (-1 - (((its.length:Nat):Int) - 1)+ -1 - 1) / -1 else 0) else (if ((its.length:Nat):Int) - 1> -1 then (((its.length:Nat):Int) - 1 - -1 - -1 - 1) / (- -1) else 0)).toNat).map _=_;rw[c];refine Ir λk hk=>?_;have:=Ik.mp hk;show (((its.length:Nat):Int) - 1+ -1 * (k:Int)).toNat=its.length - 1 - k;omega
 rw[hr];apply Jd;intro i;have hall: ∀ (n:Nat),n<=its.length->((List.range n).map λk=>its.length - 1 - k).filterMap (its.toArray[·]?)=its.reverse.take n:=by
  intro n
  induction n with
  |zero=>intro _;rfl
  |succ n ih=>
   intro hn;have e1:its.reverse[n]?=some (its[its.length - 1 - n]'∅):=by
    rw[List.getElem?_reverse ∅,G0]
   rw[HW,GX,List.filterMap_append,ih ∅,Ij,e1];congr 1;show List.filterMap (its.toArray[·]?) [its.length - 1 - n]=[its[its.length - 1 - n]'∅];rw[Il];rw[Ja,G0 ∅];rfl
 rw[hall its.length (GO _),<-JD,Hk]
section
variable {X:Cx}{E:XK}{e st:Expr}{te:TE}{ts:TO}{pos p2:Kx}{fa:Lx->M W}{fs:Lx->M (Option Int)}
noncomputable def tRev (K:Zf)(te:TE)(ts:TO):TE:=λσ H Q=>te σ H λx H1=>ts σ H1 λo H2=>o=some (-1)/\ ∃a xs,x=.ref a/\SqL K H2 a xs/\ ∀p,H2 p=none->Q (.ref p) (upd H2 p (.lst xs.reverse))
theorem Co (he:PE X e te)(hs:PO X (some st) ts):PE X (.Subscript e (.Slice none none (some st) p2) pos) (tRev X.K te ts):=by
 intro pins s σ H Q I h;refine Subscript_ (thn (he pins s σ H _ I h) λv s1 qz=>?_);obtain⟨x,H1,I1,r1,q1⟩:=qz;refine wpAny_Slice ?_;rw[evalPart_none];refine Kl (Kl (thn (hs pins s1 σ H1 _ I1 q1) λvs s3 qz=>?_));obtain⟨u,H3,I3,pu,q3⟩:=qz;obtain⟨rfl,a,xs,rfl,hx,q⟩:=q3;cases r1;have I4:Inv X pins σ H3 {s3 with heap:=s3.heap.push {cls:=.type "slice",data:=.fields #[.none,.none,vs]}}:=I3.kept (t':=s3.toks) λb ob q=>GZ _ q;show Kh (Ki X.prog X.w) X.A (subscriptTail e (.Slice none none (some st) p2) (.ref a) (.ref ↥s3)) (EP X pins σ Q) X.xe {s3 with heap:=s3.heap.push {cls:=.type "slice",data:=.fields #[.none,.none,vs]}};obtain⟨its,r,ht,hz⟩:=I4.list hx;have hlen:=r.length;refine tail_any (ops:=[.ref a,.ref ↥s3]) ht.isList.typeIs slot_list_getitem.lookup ?_ (by with_unfolding_all rfl);refine wpAny_getItem_list_slice ht.isList (Ka.IsSliceOf.new ..) .none .none pu ⇑_ ?_ (by rw[G4]<;>omega);rw[w5];refine⟨.ref _,_,I4.laid (t':=s3.toks) (o:=.lst xs.reverse) (λb ob q=>GZ _ q) (GO _) ?_,rfl,q _ (I4.hok.fresh (GO _))⟩;exact⟨by rw[JD];exact hz,_,0,r.reverse,He _ rfl⟩
theorem Rvs.reverse {K:Zf}: ∀ {l:List W}{vs:List V},Rvs K o l vs->Rvs K o l.reverse vs.reverse
 |[],vs,h=>by unfold Rvs at h;subst h;exact Rvs.nil
 |w::l,vs,h=>by
  unfold Rvs at h;obtain⟨v,r,rfl,h1,h2⟩:=h;rw[Iz,Iz];exact (Rvs.reverse h2).app (Rvs.cons h1 Rvs.nil)
noncomputable def Pl (x:W)(o:Option Int):M W:=match o with
 |some (-1)=>bd (NR x) λl=>pr (.tl l.reverse)
 |_=>no
noncomputable def Of (fa:Lx->M W)(fs:Lx->M (Option Int)):Lx->M W:=λρ=>bd (fa ρ) λx=>bd (fs ρ) λo=>Pl x o
theorem Dw (he:JE X E e fa)(hs:JO X E (some st) fs):JE X E (.Subscript e (.Slice none none (some st) p2) pos) (Of fa fs):=(Co he.h hs.h).imp λσ H Q h=>by
 obtain⟨o,ρ,rfl,R,S,h⟩:=h;refine⟨o,ρ,rfl,R,S,Ps.bd h λp x vx e1 R1 r1 h1=>⟨p,ρ,rfl,R1,S.mono R e1,Ps.bd h1 λq a va e2 R2 r2 h2=>?_⟩⟩;subst r2;have rx:=r1.mono R1 e2;unfold Pl at h2;split at h2
 ·obtain⟨l,a',vs,rfl,s,r,h2⟩:=eO R2 rx h2;exact⟨rfl,a',vs,rfl,s,λq' hq=>jv R2 hq r.reverse h2⟩
 ·exact h2.elim
end
end
section
section
variable {X:Cx}{E:XK}
theorem nk {w:J9}: ∀ {ks:List Int}{us:List J6},Vals (ks.map V.int) us->ItemsAre (Kc prog w) ks us
 |[],_,r=>by rw[Ht] at r;cases r;exact .nil
 |k::ks,_,r=>by
  rw[GV] at r;cases r with
  |cons h t=>
   obtain⟨tk,e⟩:=(show∃t,_=J6.int k t from h)
   subst e;exact .cons (by simp [Kc,J6.isInt]) (nk t)
theorem jG (I:Inv X pins σ H s)(h:SqT X.K H d (ns.map V.int))(prog:J8)(w:J9):IsTupleKey (Kc prog w) s.heap ns d:=by
 obtain⟨its,r,⟨o,g1,g2,n,g3⟩,_⟩:=I.tuple h;exact⟨o,its.toArray,n,g1,g2,g3,by simpa using nk r⟩
noncomputable def LV (K:Zf)(H:Hp):List V->List (List Int)->Prop
 |[],[]=>True
 |v::vs,m::ms=>(∃c,v=.ref c/\SqT K H c (m.map V.int))/\LV K H vs ms
 |_,_=>False
open Classical in
noncomputable def eqK (prog:J8)(w:J9)(h:Ka)(ns:List Int)(u:J6):Bool:=match u with
 |.ref c=>decide (IsTupleKey (Kc prog w) h ns c)
 |_=>false
open Classical in
theorem su {w:J9}(k:IsTupleKey (Kc prog w) h ms c):eqK prog w h ns (.ref c)=decide (ms=ns):=by
 show decide (IsTupleKey (Kc prog w) h ns c)=_;by_cases e:ms=ns
 ·subst e;rw[decide_eq_true k,decide_eq_true rfl]
 ·rw[decide_eq_false e,decide_eq_false λz=>e (k.inj z)]
theorem BM (I:Inv X pins σ H s)(ns:List Int): ∀ {xs:List V}{us:List J6}{mss:List (List Int)},Vals xs us->LV X.K H xs mss->us.any (eqK X.prog X.w s.heap ns)=decide (ns∈mss)
 |_,_,[],.nil,_=>⇑_
 |_,_,_::_,.nil,t=>t.elim
 |_,_,[],.cons _ _,t=>t.elim
 |_,_,m::mss,.cons r rs,t=>by
  obtain⟨⟨c,e,q⟩,t⟩:=t;subst e;cases r;rw[HN,BM I ns rs t,su (jG I q _ _)];rw[HF,Bool.or_eq_true,decide_eq_true_eq,decide_eq_true_eq,decide_eq_true_eq,GR];exact⟨λh=>h.imp Eq.symm id,λh=>h.imp Eq.symm id⟩
theorem Bm (hu:A.units<Kg)(I:Inv X pins σ H s)(hd:SqT X.K H d (ns.map V.int)): ∀ {xs:List V}{us:List J6}{mss:List (List Int)},Vals xs us->LV X.K H xs mss-> ∀u∈us,SeqAt.EqAt A s u (.ref d) (eqK X.prog X.w s.heap ns u)
 |_,_,[],.nil,_=>λu hu=>by cases hu
 |_,_,_::_,.nil,t=>t.elim
 |_,_,[],.cons _ _,t=>t.elim
 |_,_,m::mss,.cons r rs,t=>λu hm=>by
  obtain⟨⟨c,e,q⟩,t⟩:=t;subst e;cases r;rcases GR.mp hm with rfl|hm
  ·intro prog w E Q hq;rw[su (jG I q _ _)] at hq;exact wpAny_eqBool_tuple (knd:=Kc prog w) hu (jG I q prog w) (jG I hd prog w) hq
  ·exact Bm hu I hd rs t u hm
noncomputable def kI:Key->Option Int
 |.inl i=>some i
 |.inr _=>none
theorem yi: ∀ {ks:List Key}{ns:List Int},OQ kI ks=some ns->ks.map kV=ns.map V.int
 |[],_,e=>by cases e;rfl
 |k::ks,ns,e=>by
  unfold OQ at e;split at e
  ·rename_i b c e1 e2;cases e;cases k with
   |inl i=>cases e1;rw[GV,GV,yi e2];rfl
   |inr _=>cases e1
  ·cases e
noncomputable def tOf:W->Option (List Int)
 |.kt ks=>OQ kI ks
 |.tup l=>OQ iOf l
 |_=>none
theorem v9 {K:Zf}{w:W}(e:tOf w=some ns)(h:Rv K o w v): ∃c,v=.ref c/\SqT K o.H c (ns.map V.int):=by
 cases w with
 |kt ks=>
  unfold Rv at h;obtain⟨c,rfl,h⟩:=h;exact⟨c,rfl,by rw[<-yi (show OQ kI ks=some ns from e)];exact .of h⟩
 |tup l=>
  unfold Rv at h;obtain⟨c,vs,rfl,s,r⟩:=h;have e2:vs=ns.map V.int:=jy yv (show OQ iOf l=some ns from e) r;subst e2;exact⟨c,rfl,s⟩
 |_=>cases e
theorem Bk {K:Zf}: ∀ {l:List W}{vs:List V}{mss:List (List Int)},OQ tOf l=some mss->Rvs K o l vs->LV K o.H vs mss
 |[],vs,mss,e,r=>by unfold Rvs at r;subst r;cases e;trivial
 |w::l,vs,mss,e,r=>by
  unfold Rvs at r;obtain⟨v,r',rfl,h1,h2⟩:=r;unfold OQ at e;split at e
  ·rename_i b c e1 e2;cases e;exact⟨v9 e1 h1,Bk e2 h2⟩
  ·cases e
end
end
section
section
variable {X:Cx}{E:XK}{a b:Expr}{p pos:Kx}
noncomputable def Op (fa fb:Lx->M W):Lx->M (List W):=λρ=>bd (fa ρ) λx=>bd (fb ρ) λy=>match y with
 |.int n=>bd (NQ x) λl=>gd (0<=n/\n<=1000000/\l.length * n.toNat<=sizeLine) (pr (List.replicate n.toNat l).flatten)
 |_=>no
theorem Dn {fa fb:Lx->M W}(ha:JE X E a fa)(hb:JE X E b fb):JF X E (.BinOp a .Mult b pos) (Op fa fb):=(pU xl ha.h hb.h).impF λσ H Q h=>by
 obtain⟨o,ρ,rfl,R,S,h⟩:=h;refine⟨o,ρ,rfl,R,S,Ps.bd h λp x vx e1 R1 r1 h1=>⟨p,ρ,rfl,R1,S.mono R e1,Ps.bd h1 λq y vy e2 R2 r2 h2=>?_⟩⟩;split at h2
 ·obtain⟨l,a,vs,rfl,s1,r3,h3⟩:=c9 R2 (r1.mono R1 e2) h2;obtain⟨hz,h4⟩:=h3.gd;exact⟨a,_,vs,rfl,Px.mp r2,s1,∅,∅,by rw[r3.len];exact hz.2.2,h4.pr R2 (r3.rep _)⟩
 ·exact h2.elim
theorem uz {pins:List (Kb×Ke)}{σ:St}{H:Hp}{s:Kd}{a b:Kb}{v:V}{kvs:List (List Key×V)}{k:List Key}{A:Kf}{Ex:J6->Kd->Prop}{Q:J6->Kd->Prop}(hu:A.units+1<Kg)(I:Inv X pins σ H s)(e:Rd H a (.dT kvs))(eb:SqT X.K H b (k.map kV))(l:QV kvs k=some v)(h:∀w' s',Inv X pins σ H s'->RelV v w'->Q w' s'):
  Kh (Ki X.prog X.w) A (getItem (.ref a) (.ref b)) Q Ex s:=by
 obtain⟨z,hd,xs,rel,dd⟩:=kj I.hok e;obtain⟨w',hw,rw'⟩:=RelO.some_of (v:=v) (o:=(Lb xs k).map (·.2)) (by rw[<-l];exact rel.val k);obtain⟨p,hp,hp2⟩:=Hd.mp hw;refine wpAny_getItem_heap (Lc hu) (AI I eb) dd hp ?_;rw[hp2];exact h w' _ (I.tok _) rw'
noncomputable def Nq (x y:W):M W:=λh=>match Mx x h with
 |some (ks,ws)=>match Nz y with
  |some k=>match atK ks ws k with
   |some w=>.ok w h
   |none=>.bad
  |none=>.bad
 |none=>.bad
end
end
section
section
variable {prog:J8}{w:J9}{A:Kf}{E:J6->Kd->Prop}{s:Kd}
noncomputable def RawD (h:Ka)(d:Kb)(es:Array DictEntry)(ep:Nat):Prop:= ∃o,h.get? d=some o/\o.ExactDict/\o.data=.dict es ep
theorem sj {h:Ka}{a:Kb}{o:Ke}{vs:Array J6}(g1:h.get? a=some o)(g3:o.data=.fields vs)(k:Nat)(x:J6):
  ∃o',(h.update a (Ke.mapFields λz=>z.setIfInBounds k x)).get? a=some o'/\o'.cls=o.cls/\o'.data=.fields (vs.setIfInBounds k x):=by
 obtain⟨c,dd,data,sl⟩:=o;cases g3;exact⟨_,IS _ g1 rfl,rfl,rfl⟩
theorem pB (h:Ka)(a:Kb)(f:Ke->Ke):Hy a h (h.update a f):=⟨Ka.size_update _ _ _,λb hb=>IT _ _ (Ne.symm hb)⟩
theorem vU {i n ep:Nat}{Q:Fin->Kd->Prop}(hi:s.heap.IsValIter it d i n ep)(hd:RawD s.heap d es ep)(hn:es.size=n)(he:es[i]?=some e)
  (k:∀h':Ka,h'.IsValIter it d (i+1) n ep->Hy it s.heap h'->Q (.done (.ret e.val)) {s with heap:=h'}):
  Kh (Ki prog w) A (J7.«dict_valueiterator.__next__» ⟨[.ref it],[]⟩) Q E s:=by
 have hT:=hi.typeIs (s:=s);have hi0:=hi;obtain⟨o,h1,h2,h3⟩:=hi;obtain⟨od,g1,g2,g3⟩:=hd;show Kh _ _ (((typeNameOfWhole (.ref it)>>=_)>>=_)>>=_) _ _ s;refine Kj (Kj (Kj (wpAny_typeNameOfWhole_valiter hT (Kl ?_))));refine Kj (wpAny_fieldsOf h1 h3 ?_);show Kh _ _ (dictEntries d>>=_) _ _ s;refine Kj (wpAny_dictEntries g1 g3 ?_);have z:((es.size:Int) !=(n:Int))=false:=by rw[hn];simp
 show Kh _ _ (if ((es.size:Int) !=(n:Int))=true then _ else dictEpoch d>>=_) _ _ s;rw[z,if_neg ↥_];refine Kj (wpAny_dictEpoch g1 g3 ?_);have z2:((ep:Int) !=(ep:Int))=false:=⇑_;show Kh _ _ (if ((ep:Int) !=(ep:Int))=true then _ else _) _ _ s;rw[z2,if_neg ↥_];refine Kl ?_;have z3:(if ((i:Nat):Int)<0 then none else es[((i:Nat):Int).toNat]?)=some e:=by rw[if_neg ∅,HL];exact he
 dsimp only;rw[z3];dsimp only;refine Kj (Kj (wpAny_typeNameOfWhole_valiter hT (Kl ?_)));refine Kj (wpAny_isOneOf_valiter hT ?_);refine Kj (wpAny_setField h1 h3 (show 1<4 by decide) ?_);obtain⟨o',w1,w2,w3⟩:=sj h1 h3 1 (KN ((i:Int)+1));have v1:Ka.IsValIter (s.heap.update it (Ke.mapFields λz=>z.setIfInBounds 1 (KN ((i:Int)+1)))) it d (i+1) n ep:=⟨o',w1,w2.trans h2,w3⟩
 have v2:=pB s.heap it (Ke.mapFields λz=>z.setIfInBounds 1 (KN ((i:Int)+1)));refine Kj (Kn ?_);have hT2:=v1.typeIs (s:={s with heap:=_});refine Kj (wpAny_isOneOf_valiter hT2 ?_);rw[if_neg ↥_];refine Kj (wpAny_isOneOf_valiter hT2 ?_);rw[if_pos ↥_];exact Kl (Kl (k _ v1 v2))
theorem xC {Q:J6->Kd->Prop}(k:∀ (h':Ka) (e:Kb),(∀b o,s.heap.get? b=some o->h'.get? b=some o)->s.heap.get? e=none->(∃o,h'.get? e=some o/\o.cls=.type "StopIteration")->Q (.ref e) {s with heap:=h'}):
  Kh (Ki prog w) A (newExc (.type "StopIteration") []) Q E s:=by
 have f:firstArgMember (.type "StopIteration") []=pure .none:=by unfold firstArgMember;rfl
 unfold newExc;refine Kj (wpAny_newTuple ?_ (G8 _));rw[f];refine Kj (Kl (K7 ?_ (show 6<=_ by decide)));refine k _ _ (λb o q=>GZ _ (GZ _ q)) (by rw[Hz];exact Js (HK _)) ⟨_,He _ rfl,rfl⟩
theorem zh {i n ep:Nat}{Q:Fin->Kd->Prop}(hh:A.handled=none)(hi:s.heap.IsValIter it d i n ep)(hd:RawD s.heap d es ep)(hn:es.size=n)(he:es[i]?=none)
  (k:∀ (h':Ka) (e:Kb),Jb it s.heap h'->(∃o,h'.get? e=some o/\o.cls=.type "StopIteration")->E (.ref e) {s with heap:=h'}):
  Kh (Ki prog w) A (J7.«dict_valueiterator.__next__» ⟨[.ref it],[]⟩) Q E s:=by
 have hT:=hi.typeIs (s:=s);obtain⟨o,h1,h2,h3⟩:=hi;obtain⟨od,g1,g2,g3⟩:=hd;show Kh _ _ (((typeNameOfWhole (.ref it)>>=_)>>=_)>>=_) _ _ s;refine Kj (Kj (Kj (wpAny_typeNameOfWhole_valiter hT (Kl ?_))));refine Kj (wpAny_fieldsOf h1 h3 ?_);show Kh _ _ (dictEntries d>>=_) _ _ s;refine Kj (wpAny_dictEntries g1 g3 ?_);have z:((es.size:Int) !=(n:Int))=false:=by rw[hn];simp
 show Kh _ _ (if ((es.size:Int) !=(n:Int))=true then _ else dictEpoch d>>=_) _ _ s;rw[z,if_neg ↥_];refine Kj (wpAny_dictEpoch g1 g3 ?_);have z2:((ep:Int) !=(ep:Int))=false:=⇑_;show Kh _ _ (if ((ep:Int) !=(ep:Int))=true then _ else _) _ _ s;rw[z2,if_neg ↥_];refine Kl ?_;have z3:(if ((i:Nat):Int)<0 then none else es[((i:Nat):Int).toNat]?)=none:=by rw[if_neg ∅,HL];exact he
 dsimp only;rw[z3];dsimp only;refine Kj (Kj (wpAny_typeNameOfWhole_valiter hT (Kl ?_)));refine Kj (wpAny_setField h1 h3 (show 0<4 by decide) ?_);have v2:=pB s.heap it (Ke.mapFields λz=>z.setIfInBounds 0 J6.none);refine Kj (xC λh' e kp nw th=>wpAny_raiseNew_none hh (k h' e (λb o hb q=>kp b o (v2.extBut _ _ hb q)) th))
theorem xB {i n ep:Nat}{Q:Option J6->Kd->Prop}(hi:s.heap.IsValIter it d i n ep)(hd:RawD s.heap d es ep)(hn:es.size=n)(he:es[i]?=some e)
  (k:∀h':Ka,h'.IsValIter it d (i+1) n ep->Hy it s.heap h'->Q (some e.val) {s with heap:=h'}):
  Kh (Ki prog w) A (KL (.ref it)) Q E s:=by
 have hT:=hi.typeIs (s:=s);unfold KL;exact Kj (wpAny_attempt (wpAny_callSpecial?_slot (name:=Str.ofString "__next__") hT F.slot_dict_valueiterator_next (Kk F.slot_dict_valueiterator_next hT F.entry_dict_valueiterator_next (vU hi hd hn he λh' a1 a2=>⟨_,rfl,Kl (k h' a1 a2)⟩) (F.args_dict_valueiterator_next_1 _))))
theorem AZ {i n ep:Nat}{Q:Option J6->Kd->Prop}(hh:A.in1.handled=none)(hi:s.heap.IsValIter it d i n ep)(hd:RawD s.heap d es ep)(hn:es.size=n)(he:es[i]?=none)
  (k:∀h':Ka,Jb it s.heap h'->Q none {s with heap:=h'}):
  Kh (Ki prog w) A (KL (.ref it)) Q E s:=by
 have hT:=hi.typeIs (s:=s);unfold KL;refine Kj (wpAny_attempt (wpAny_callSpecial?_slot (name:=Str.ofString "__next__") hT F.slot_dict_valueiterator_next (Kk F.slot_dict_valueiterator_next hT F.entry_dict_valueiterator_next (zh hh hi hd hn he λh' e hk ⟨o,g1,g2⟩=>?_) (F.args_dict_valueiterator_next_1 _))));exact Kj (wpAny_isInstance (T:= "StopIteration") (b:=true) ⟨o,g1,g2⟩ isSubtype_stop (Kl (k _ hk)))
theorem ym {ep:Nat}{Q:J6->Kd->Prop}(hv:s.heap.IsValuesView v d)(hd:RawD s.heap d es ep)
  (k:Q (.ref ↥s) {s with heap:=s.heap.push {cls:=.type "dict_valueiterator",data:=.fields #[.ref d,.int 0 0,.int (es.size:Nat) 0,.int ep 0]}}):
  Kh (Ki prog w) A (pyIter (.ref v)) Q E s:=by
 obtain⟨o,h1,h2,h3⟩:=hv;obtain⟨od,g1,g2,g3⟩:=hd;have hT:s.TypeIs (.ref v) "dict_values":=⟨_,h1,h2⟩
 refine wpAny_pyIter_slot hT F.slot_dict_values_iter (Kk F.slot_dict_values_iter hT F.entry_dict_values_iter ?_ (F.args_dict_values_iter_1 _));show Kh _ _ ((field (.ref v) 0>>=_)>>=_) _ _ s;refine Kj (Kj (K6 h1 h3 (x:=.ref d) rfl ?_));refine Kl ?_;show Kh _ _ ((dictEntries d>>=_)>>=_) _ _ s;refine Kj (Kj (wpAny_dictEntries g1 g3 (Kj (wpAny_dictEpoch g1 g3 ?_))));refine K7 ?_ (show 4<=_ by decide);exact Kl ⟨_,rfl, "dict_valueiterator",_,⟨_,He _ rfl,rfl⟩,F.slot_dict_valueiterator_next.lookup,k⟩
theorem qD {ep:Nat}{Q:J6->Kd->Prop}(hs:(d==Kq)=false)(hd:RawD s.heap d es ep)
  (k:Q (.ref ↥s) {s with heap:=s.heap.push {cls:=.type "dict_values",data:=.fields #[.ref d]}}):
  Kh (Ki prog w) A (call (.builtin "dict.values") [.ref d]) Q E s:=by
 obtain⟨od,g1,g2,g3⟩:=hd;have hT:s.TypeIs (.ref d) "dict":=⟨_,g1,g2.1⟩
 refine Kk F.slot_dict_values hT F.entry_dict_values ?_ (F.args_dict_values_1 _);show Kh _ _ (((typeOf (.ref d)>>=_)>>=_)>>=_) _ _ s;refine Kj (Kj (Kj (wpAny_typeOf (T:= "dict") hT ?_)));show Kh _ _ (pure ()) _ _ s;refine Kl ?_;show Kh _ _ (pure d) _ _ s;refine Kl ?_;show Kh _ _ (J7.Dict.showsAll d>>=_) _ _ s;unfold J7.Dict.showsAll;rw[hs,if_neg ↥_];refine Kj (Kl ?_);refine Kj (K7 ?_ (show 1<=_ by decide));exact Kl ⟨_,rfl,k⟩
theorem RawD.keep {ep:Nat}(hd:RawD h d es ep)(k:∀o,h.get? d=some o->h'.get? d=some o):RawD h' d es ep:=by
 obtain⟨o,a,b,c⟩:=hd;exact⟨o,k o a,b,c⟩
theorem zt {r d:Kb}{es:Array DictEntry}{ep:Nat}:PySem.W.KdlSrc prog w "dict_values" r d es.size (λi v=> ∃e,es[i]?=some e/\v=e.val) (λh=>h.IsValuesView r d/\RawD h d es ep) where
 type:=λs ⟨⟨o,a,b,_⟩,_⟩=>⟨o,a,b⟩
 there:=λh ⟨⟨o,a,_,_⟩,⟨q,b,_,_⟩⟩=>⟨GU a,GU b⟩
 keep:=λh h' ⟨⟨o,a,b,c⟩,hd⟩ k=>⟨⟨o,k r (.inl rfl) o a,b,c⟩,hd.keep λo q=>k d (.inr rfl) o q⟩
 notList:=↥_
 notTuple:=↥_
 hint:=λA E s Q ⟨⟨o,a,b,_⟩,_⟩ q=>PySem.W.kdl_hint_values ⟨o,a,b⟩ q
 iter:=λA s hh ⟨hv,hd⟩=>by
  have ld:d<↥s:=by obtain⟨q,b,_,_⟩:=hd;exact GU b
  have ne:d≠↥s:=G7 ld;refine⟨_,λi h=>h.IsValIter ↥s d i es.size ep/\RawD h d es ep,λE Q q=>ym hv hd q,⟨λb hb=>?_,λi h h' st k=>?_,λi s' Q E hi st k=>?_,λs' Q E st k=>?_,λi s' Q E st q=>wpAny_pyIter_valiter st.1 q⟩,?_⟩
  ·exact GR.mpr (.inl (Hh.mp hb))
  ·obtain⟨⟨o,a,b,c⟩,hd'⟩:=st;exact⟨⟨o,k _ ⇑_ o a,b,c⟩,hd'.keep λo q=>k d ⇑_ o q⟩
  ·obtain⟨st1,st2⟩:=st;refine xB st1 st2 rfl (JG hi) λh' a1 a2=>k _ h' _ ⟨_,JG hi,rfl⟩ ⟨a1,st2.keep λo q=>(a2.2 d ne).trans q⟩ λb o hb q=>(a2.2 b (λz=>hb (by simp [z]))).trans q
  ·obtain⟨st1,st2⟩:=st;exact AZ hh st1 st2 rfl ⇑_ λh' a1=>k h' _ λb o hb q=>a1 b o (λz=>hb (by simp [z])) q
  ·exact⟨⟨_,He _ rfl,rfl,rfl⟩,hd.keep λo q=>GZ _ q⟩
end
theorem lF {α β:Type}{F:α->β->Prop}: ∀ {l₁:List α}{l₂:List β},Paired F l₁ l₂->l₁.length=l₂.length
 |_,_,.nil=>rfl
 |_,_,.cons _ t=>congrArg (· +1) (lF t)
theorem lG {α β:Type}{F:α->β->Prop}: ∀ {l₁:List α}{l₂:List β},Paired F l₁ l₂-> ∀ {i:Nat}{b:β},l₂[i]?=some b-> ∃a,l₁[i]?=some a/\F a b
 |_,_,.nil,_,_,h=>by cases h
 |_,_,.cons r t,0,_,h=>by cases h;exact⟨_,rfl,r⟩
 |_,_,.cons r t,i+1,_,h=>lG t (i:=i) h
theorem sI: ∀ {vs:List V}{its:List J6},its.length=vs.length->(∀ (i:Nat) (u:J6),its[i]?=some u-> ∃v,vs[i]?=some v/\RelV v u)->Vals vs its
 |[],[],_,_=>.nil
 |[],_::_,h,_=>by cases h
 |_::_,[],h,_=>by cases h
 |v::vs,u::its,h,q=>by
  obtain⟨v',e,r⟩:=q 0 u rfl;cases e;exact .cons r (sI (Nat.succ.inj h) λi w e=>q (i+1) w e)
theorem B9 {w:J9}(ok:HOk P w H h)(e:Rd H a (.dT kvs)): ∃es ep,RawD h a es ep/\es.size=kvs.length/\ ∀ (i:Nat) (d:DictEntry),es[i]?=some d-> ∃kv,kvs[i]?=some kv/\RelV kv.2 d.val:=by
 obtain⟨z,y,xs,r,o,es,ep,h1,h2,h3,h4,h5⟩:=(show ObjOk P w H h a (.dT kvs) from wM ok e)
 refine⟨es,ep,⟨o,h1,h2,h3⟩,?_,λi d hd=>?_⟩
 ·rw[<-Io,h4,GN,<-lF r]
 ·rw[<-JH,h4,GW] at hd;obtain⟨x,hx,rfl⟩:=Hd.mp hd;obtain⟨kv,hk,rk⟩:=lG r hx;exact⟨kv,hk,rk.2.2⟩
noncomputable def tLV (td:TE):TE:=λσ H Q=>td σ H λx H1=> ∃a kvs,x=.ref a/\Rd H1 a (.dT kvs)/\ ∀l,H1 l=none->Q (.ref l) (upd H1 l (.lst (kvs.map (·.2))))
section
variable {X:Cx}{o:Expr}{p apos cpos pos:Kx}
theorem zP (hc:X.calm=true)(hgl:Gl X "list")(hml:X.mg "list"=none)(ho:PE X o td)(hb:KS o "values" X.env (Kw o X.env)=Kw o X.env)(hln:(apos.endLine==cpos.line)=true)
  (he:Kz [.Call (.Attribute o "values" apos) [] [] cpos] X.env=(false,Kw (.Call (.Attribute o "values" apos) [] [] cpos) X.env)::Kz [] X.env:=by rfl)(hpl:(Ky pos (Kz [] X.env)).any (·.1)=false:=by rfl):
  PE X (.Call (.Name "list" p) [.Call (.Attribute o "values" apos) [] [] cpos] [] pos) (tLV td):=by
 intro pins s σ H Q I h;refine K0 (im I hgl hml PyProof.Rows.boot_list ?_ ↥_ ↥_);refine PyProof.Rows.callWith_type1 ?_ he hpl;rw[he];refine Calls.spliced_cons ?_;refine wpAny_Call_method hb rfl hln PySem.F.plainAttrs_dict PySem.F.slot_dict_values PySem.F.type_dict_values (thn (ho pins s σ H _ I h) λu s1 qz=>?_);obtain⟨x,H1,I1,rx,a,kvs,ex,d,q1⟩:=qz;subst ex;obtain rfl:u=J6.ref a:=rx;obtain⟨t1,t2,t3⟩:=D6 I1 (.inr ⟨kvs,d⟩);refine⟨t1,t2,?_⟩;obtain⟨es,ep,rd,sz,it⟩:=B9 I1.hok d;refine Calls.callWith_builtin rfl ?_;show Kh _ _ (pure _) _ _ _;refine Kl (qD t3 rd (Calls.spliced_nil ?_));have I2:Inv X pins σ H1 {s1 with heap:=s1.heap.push {cls:=.type "dict_values",data:=.fields #[.ref a]},toks:=s1.toks}:=I1.kept λb o e=>GZ _ e;have rd2:RawD (s1.heap.push {cls:=.type "dict_values",data:=.fields #[.ref a]}) a es ep:=rd.keep λo q=>GZ _ q;have zl:kvs.length<=sizeLine:=(kj I1.hok d).1;refine PySem.W.kdl_call (s:={s1 with heap:=s1.heap.push {cls:=.type "dict_values",data:=.fields #[.ref a]}}) (zt (r:=↥s1) (d:=a) (es:=es) (ep:=ep)) (I2.ok.hd hc) ⟨⟨_,He _ rfl,rfl,rfl⟩,rd2⟩ (by rw[sz];exact zl) λh' tk acc c' hk hS hacc=>?_;have vs:Vals (kvs.map (·.2)) acc.toList:=sI (by rw[Io,hacc.1,sz,GN]) λk v ev=>by
  obtain⟨e,e1,e2⟩:=hacc.2 k v (by rw[<-JH];exact ev);obtain⟨kv,k1,k2⟩:=it k e e1;exact⟨kv.2,by rw[GW,k1];rfl,by rw[e2];exact k2⟩
 exact⟨.ref _,_,I2.laid (t':=tk) hk (GO _) (show ObjOk X.prog X.w _ h' _ (.lst (kvs.map (·.2))) from⟨by rw[GN];exact zl,acc.toList,c',vs,by rw[Array.toArray_toList];exact hS⟩),rfl,q1 _ (I2.hok.fresh (GO _))⟩
end
end
section
section
variable {X:Cx}{E:XK}{o i e value:Expr}{p pos apos cpos tpos:Kx}{fo fi fv:Lx->M W}{l:Lx->M (List W)}
noncomputable def kW:Key->W
 |.inl i=>.int i
 |.inr x=>.str x
theorem By {K:Zf}{o:Wo}: ∀ks:List Key,Rvs K o (ks.map kW) (ks.map kV)
 |[]=>Rvs.nil
 |k::ks=>by
  refine Rvs.cons ?_ (By ks);cases k with
  |inl i=>exact Px.mpr rfl
  |inr x=>exact Pz.mpr rfl
noncomputable def tgK (is:List Nat):W->Lx->Option Lx:=λw ρ=>match w with
 |.kt ks=>P9 is (ks.map kW) ρ
 |_=>none
theorem zk {K:Zf}(m:Nat)(is:List Nat)(h:∀i∈is,i<m):LU K m (MZ K is.length (gNs is)) (tgK is):=⟨λo w v ρ ρ2 σ rv re e=>by
 cases w with
 |kt ks=>
  unfold Rv at rv;obtain⟨a,rfl,s⟩:=rv;have e:P9 is (ks.map kW) ρ=some ρ2:=e;have r:=By (K:=K) (o:=o) ks;obtain⟨σ2,a1,a2,a3,a4⟩:=v7 is _ _ ρ ρ2 σ h r re e;exact⟨σ2,λQ q=>⟨a,_,rfl,.of s,by rw[r.len,lc e],a1 Q q⟩,a2,a3,a4⟩
 |_=>cases e⟩
noncomputable def oK (x:W):M (List W):=λh=>match Mx x h with
 |some (_,ws)=>.ok ws h
 |none=>.bad
noncomputable def lvL (fo:Lx->M W):Lx->M (List W):=λρ=>bd (fo ρ) oK
theorem An (hc:X.calm=true)(hml:X.mg "list"=none)(ho:JE X E o fo)(hgl:Gl X "list")(hb:KS o "values" X.env (Kw o X.env)=Kw o X.env)(hln:(apos.endLine==cpos.line)=true)
  (he:Kz [.Call (.Attribute o "values" apos) [] [] cpos] X.env=(false,Kw (.Call (.Attribute o "values" apos) [] [] cpos) X.env)::Kz [] X.env)(hpl:(Ky pos (Kz [] X.env)).any (·.1)=false):
  JF X E (.Call (.Name "list" p) [.Call (.Attribute o "values" apos) [] [] cpos] [] pos) (lvL fo):=
 (zP hc hgl hml ho.h hb hln he hpl).impF λσ H Q h=>by
  obtain⟨o,ρ,rfl,R,S,h⟩:=h;refine⟨o,ρ,rfl,R,S,Ps.bd h λp x vx e1 R1 r1 h1=>?_⟩;unfold oK at h1;cases ed:Mx x p.h with
  |none=>simp only[ed] at h1;exact h1.elim
  |some kw=>
   obtain⟨ks,ws⟩:=kw;simp only[ed] at h1;obtain⟨a,kvs,rfl,g1,g2,g3⟩:=qv R1 ed r1;exact⟨a,kvs,rfl,g1,Ps.pr (a:=ws) h1 R1 g3⟩
noncomputable def Ng (w:W):M W:=bd (NQ w) λ_=>pr w
noncomputable def NN (x:W)(ws:List W):M W:=match ws with
 |[y]=>bd (NQ x) λl=>match tOf y,OQ tOf l with
  |some ns,some mss=>match mss.findIdx? (λm=>decide (m=ns)) with
   |some j=>pr (.int (j:Int))
   |none=>no
  |_,_=>no
 |_=>no
theorem v3 (I:Inv X pins σ H s)(ns:List Int): ∀ {xs:List V}{us:List J6}{mss:List (List Int)},Vals xs us->LV X.K H xs mss->us.length=mss.length/\ ∀ (i:Nat) (u:J6),us[i]?=some u-> ∃m,mss[i]?=some m/\eqK X.prog X.w s.heap ns u=decide (m=ns)
 |_,_,[],.nil,_=>⟨rfl,λi u h=>by cases h⟩
 |_,_,_::_,.nil,t=>t.elim
 |_,_,[],.cons _ _,t=>t.elim
 |_,_,m::mss,.cons r rs,t=>by
  obtain⟨⟨c,e,q⟩,t⟩:=t;subst e;cases r;obtain⟨a,b⟩:=v3 I ns rs t;refine⟨congrArg (· +1) a,λi u h=>?_⟩;cases i with
  |zero=>cases h;exact⟨m,rfl,su (jG I q _ _)⟩
  |succ i=>exact b i u h
noncomputable def rLIdx (K:Zf):V->List V->Hp->VK->Prop:=λx vs H Q=> ∃ (p d:Kb) (xs:List V) (ns:List Int) (mss:List (List Int)) (j:Nat),x=.ref p/\vs=[.ref d]/\H p=some (.lst xs)/\SqT K H d (ns.map V.int)/\LV K H xs mss/\mss.findIdx? (λm=>decide (m=ns))=some j/\Q (.int j) H
theorem Ac (hu:X.A.units+64<Kg):MtM X "list.index" (rLIdx X.K):=by
 intro pins s σ H x vs v us Q I rx rv h;obtain⟨p,d,xs,ns,mss,j,rfl,rfl,hp,hd,ht,hj,q⟩:=h;cases rx;obtain⟨u,rfl,ru⟩:=rv.one;cases ru;obtain⟨its,n,r,ho,hz⟩:=I.lst hp;obtain⟨len,gt⟩:=v3 I ns r ht;rw[Ii] at hj;obtain⟨h1,h2,h3⟩:=hj;have hl:=r.length;have at': ∀ (i:Nat) (hi:i<its.length),eqK X.prog X.w s.heap ns its[i]=decide (mss[i]'∅=ns):=λi hi=>by
  obtain⟨m,e1,e2⟩:=gt i its[i] (G0 hi);rw[G0 ∅] at e1;cases e1;exact e2
 have lz:=ig;refine La F.slot_list_index ⟨_,ho,rfl⟩ F.entry_list_index (F.args_list_index_2 _ _) (SeqAt.list_indexAt p its.toArray n none #[] (.ref d) (eqK X.prog X.w s.heap ns) j (by rw[G4];omega) ∅ ?_ λm hm hlt=>?_) ⟨ho,λy hy=>Bm (Hs (Jx (by decide:1<=64) _) hu) I hd r ht y (by simpa using hy),.int j,H,I.tok _,⟨_,rfl⟩,q⟩
 ·rw[IH,at' j ∅];exact h2
 ·rw[IH,at' m (by rw[G4] at hm;exact hm)];have:=h3 m hlt;simpa using this
theorem Au (hu:X.A.units+64<Kg)(ho:JE X E o fo)(ha:JA X E [e] l)(hbase:KS o "index" X.env (Kw o X.env)=Kw o X.env)
  (hfew:((Ky cpos (Kz [e] X.env)).all (λx=>!x.1) && (KU cpos (KW [] X.env)).all (λx=>x.1.isSome) && decide (([e]:List Expr).length+([]:List K2).length+(if ([]:List K2).isEmpty then 0 else 1)<30))=true)
  (hline:(apos.endLine==cpos.line)=true)(hs:Kz [e] X.env=(false,Kw e X.env)::Kz [] X.env)(hplain:(Ky cpos (Kz [] X.env)).any (·.1)=false):
  JE X E (.Call (.Attribute o "index" apos) [e] [] cpos) (N7 Ng NN fo l):=
 (mW PySem.F.plainAttrs_list PySem.F.slot_list_index PySem.F.type_list_index (Ac hu) ho.h ha.h hbase hfew hline hs hplain).imp λσ H Q h=>by
  obtain⟨w,ρ,rfl,R,S,h⟩:=h;refine⟨w,ρ,rfl,R,S,Ps.bd h λp x vx e1 R1 r1 h1=>?_⟩;have h1:Ps (cg X E) (Rv X.K) p (bd (bd (NQ x) λ_=>pr x) (λx=>bd (l ρ) λws=>NN x ws) p.h) Q:=h1;rw[ae] at h1;obtain⟨l0,a,vs0,rfl,s1,r3,h1⟩:=c9 R1 r1 h1;rw[aU] at h1;refine⟨.inl ⟨rfl,vs0,.of s1⟩,p,ρ,rfl,R1,S.mono R e1,Ps.bd h1 λq ws vs e2 R2 r2 h2=>?_⟩;unfold NN at h2;split at h2
  ·rename_i y;obtain⟨v,rfl,r⟩:=r2.one;obtain⟨l1,a1,vs1,ea,s2,r4,h2⟩:=c9 R2 (r1.mono R1 e2) h2;cases ea;cases t1:tOf y with
   |none=>simp only[t1] at h2;exact h2.elim
   |some ns=>
    cases t2:OQ tOf l1 with
    |none=>simp only[t1,t2] at h2;exact h2.elim
    |some mss=>
     simp only[t1,t2] at h2;cases hj:mss.findIdx? (λm=>decide (m=ns)) with
     |none=>simp only[hj] at h2;exact h2.elim
     |some j=>
      simp only[hj] at h2;obtain⟨d,rfl,hd⟩:=v9 t1 r;exact⟨a,d,vs1,ns,mss,j,rfl,rfl,s2,hd,Bk t2 r4,hj,h2.pr R2 (Px.mpr rfl)⟩
  ·exact h2.elim
noncomputable def tgetT (K:Zf):V->V->Hp->VK->Prop:=λx y H Q=> ∃a kvs k b v,x=.ref a/\Rd H a (.dT kvs)/\y=.ref b/\SqT K H b (k.map kV)/\QV kvs k=some v/\Q v H
theorem Fz (hu:X.A.units+1<Kg):PGet X (tgetT X.K):=by
 intro pins s σ H o i ov iv Q I ro ri h;obtain⟨a,kvs,k,b,v,rfl,e,rfl,eb,l,q⟩:=h;cases ro;cases ri;exact uz hu I e eb l λw' s3 I3 rw'=>⟨v,H,I3,rw',q⟩
noncomputable def PD (fo fi fv:Lx->M W):Lx->M Fl:=λρ=>bd (fo ρ) λx=>bd (fi ρ) λi=>bd (Nq x i) λold=>bd (fv ρ) λv=>bd (L5 old v) λz=>bd (dH x i z) λ_=>pr (.nx ρ)
theorem wk {s:Wo}{x i z:W}{vx vi vz:V}{σ:St}{ρ:Lx}{Q:FlV->Hp->Prop}(R:Rel X.K s)(S:Re X.K s ρ σ)(rx:Rv X.K s x vx)(ri:Rv X.K s i vi)(rz:Rv X.K s z vz)(h:Ps (cg X E) (RFl X.K) s (bd (dH x i z) (λ_=>pr (.nx ρ)) s.h) Q):
  Pk vx vi vz s.H (λH=>Q (.nx σ) H)\/Pj vx vi vz s.H (λH=>Q (.nx σ) H):=by
 cases x with
 |loc k=>
  unfold Rv at rx;obtain⟨hk,rfl⟩:=rx;unfold dH bd at h;cases e:s.h[k]? with
  |none=>simp only[e] at h;exact h.elim
  |some b=>
   cases b with
   |ins c ns ws=>simp only[e] at h;exact h.elim
   |din b ks ws=>simp only[e] at h;exact h.elim
   |gone=>simp only[e] at h;exact h.elim
   |lst l=>
    simp only[e] at h;cases i with
    |int n=>
     simp only at h;cases ej:ixN l.length n with
     |none=>simp only[ej] at h;exact h.elim
     |some j=>
      simp only[ej] at h;obtain⟨us,k1,k2⟩:=R.ob k _ e;refine .inl ⟨_,us,n,j,rfl,Px.mp ri,k1,by rw[k2.len];exact ej,?_⟩;exact Ps.at (p:=s.put k (.lst (l.set j z)) (.lst (us.set j vz))) (b:=FlV.nx σ) h rfl (Ex.put e ⇑_) (R.putL e ⇑_ (k2.set rz j)) ⟨σ,rfl,S.mono R (Ex.put e ⇑_)⟩
    |_=>exact h.elim
   |dit ks ws=>
    simp only[e] at h;cases i with
    |kt x=>
     simp only at h;by_cases zl:ks.length<sizeLine
     ·simp only[if_pos zl] at h;obtain⟨kvs,k1,k2,k3⟩:=R.ob k _ e;unfold Rv at ri;obtain⟨b,rfl,hb⟩:=ri;obtain⟨b1,b2⟩:=jr (x:=x) rz k2 k3;refine .inr ⟨_,_,rfl,.inr ⟨kvs,x,b,k1,rfl,hb,by rw[<-k2,GN] at zl;exact zl,rfl⟩,?_⟩;exact Ps.at (p:=s.put k (.dit (Pe ks ws x z).1 (Pe ks ws x z).2) (.dT (Pb kvs x vz))) (b:=FlV.nx σ) h rfl (Ex.put e ⇑_) (R.putT e ⇑_ b1 b2) ⟨σ,rfl,S.mono R (Ex.put e ⇑_)⟩
     ·simp only[if_neg zl] at h;exact h.elim
    |_=>exact h.elim
   |dic ks ws=>
    simp only[e] at h;cases ej:Ny i with
    |none=>simp only[ej] at h;exact h.elim
    |some x=>
     simp only[ej] at h;by_cases zl:ks.length<sizeLine
     ·simp only[if_pos zl] at h;obtain⟨kvs,k1,k2,k3⟩:=R.ob k _ e;rw[fY ej ri];obtain⟨b1,b2⟩:=jr (x:=x) rz k2 k3;refine .inr ⟨_,_,rfl,.inl ⟨kvs,x,k1,rfl,by rw[<-k2,GN] at zl;exact zl,rfl⟩,?_⟩;exact Ps.at (p:=s.put k (.dic (Pe ks ws x z).1 (Pe ks ws x z).2) (.dK (Pb kvs x vz))) (b:=FlV.nx σ) h rfl (Ex.put e ⇑_) (R.putD e ⇑_ b1 b2) ⟨σ,rfl,S.mono R (Ex.put e ⇑_)⟩
     ·simp only[if_neg zl] at h;exact h.elim
 |_=>exact h.elim
theorem Eo {α β:Type}{a:M α}{k:α->M β}{x:α}(e:a h=.ok x h'):bd a k h=k x h':=by unfold bd;rw[e]
theorem Bf {α β:Type}{a:M α}{k:α->M β}(e:a h=.bad):bd a k h=.bad:=by unfold bd;rw[e]
theorem ve (x y:W)(h:List Ob):Nq x y h=.bad\/ ∃ks ws k w,Mx x h=some (ks,ws)/\Nz y=some k/\atK ks ws k=some w/\Nq x y h=.ok w h:=by
 unfold Nq;cases ed:Mx x h with
 |none=>exact .inl rfl
 |some kw=>
  obtain⟨ks,ws⟩:=kw;cases ek:Nz y with
  |none=>exact .inl rfl
  |some k=>
   cases e3:atK ks ws k with
   |none=>left;simp only[e3]
   |some w=>right;refine⟨ks,ws,k,w,rfl,rfl,e3,?_⟩;simp only[e3]
theorem Bi {α β:Type}{r:Wo->α->β->Prop}{o:Wo}{x y:W}{vx vy:V}{k:W->M α}{Q:β->Hp->Prop}(rx:Rv X.K o x vx)(ry:Rv X.K o y vy)(h:Ps (cg X E) r o (bd (L5 x y) k o.h) Q): ∃a b,vx=.int a/\vy=.int b/\Ps (cg X E) r o (k (.int (a+b)) o.h) Q:=by
 cases x with
 |int a=>
  cases y with
  |int b=>exact⟨a,b,Px.mp rx,Px.mp ry,h⟩
  |_=>exact h.elim
 |_=>exact h.elim
theorem Ah (hu:X.A.units+1<Kg)(ho:JE X E o fo)(hi:JE X E i fi)(hv:JE X E value fv)(ha: ∀ov iv new,augStore i ov iv new=(do KF [new,ov,iv] (setItem ov iv new);release [new,ov,iv] [];pure .next):=by intros;rfl):
  JS X E (.AugAssign (.Subscript o i tpos) .Add value pos) (PD fo fi fv):=
 (zM ho.h hi.h (Fz hu) hv.h tj (Qa.or (pA hu)) ha).imp λD σ H h=>by
  obtain⟨w,ρ,rfl,R,S,h⟩:=h;refine⟨w,ρ,rfl,R,S,Ps.bd h λp x vx e1 R1 r1 h1=>⟨p,ρ,rfl,R1,S.mono R e1,Ps.bd h1 λq y vy e2 R2 r2 h2=>?_⟩⟩;have rx:=r1.mono R1 e2;have S2:=(S.mono R e1).mono R1 e2;rcases ve x y q.h with eb|⟨ks,ws,k,old,ed,ek,e3,eo⟩
  ·rw[Bf eb] at h2;exact h2.elim
  rw[Eo eo] at h2;obtain⟨a,kvs,rfl,g1,g2,g3⟩:=qv R2 ed rx;obtain⟨b,rfl,sb⟩:=AJ ek r2;have hv:=kM (x:=k) g2 g3;rw[e3] at hv;obtain⟨vo,hvo,ro⟩:=hv;refine⟨a,kvs,k,b,vo,rfl,g1,rfl,sb,hvo,q,ρ,rfl,R2,S2,Ps.bd h2 λs v vv e3 R3 r3 h3=>?_⟩;obtain⟨c,d,ea,eb,h4⟩:=Bi (ro.mono R2 e3) r3 h3;exact⟨c,d,ea,eb,wk R3 (S2.mono R2 e3) (rx.mono R2 e3) (r2.mono R2 e3) (Px.mpr rfl) h4⟩
end
end
end L2
namespace L2
open PyProof.Rows
section
variable (n:Nat)(lt:Nat->Nat->Bool)
noncomputable def sGet (p:Array Nat)(i:Nat):Option Nat:=match p[i]? with
 |some a=>if a<n then some a else none
 |none=>none
noncomputable def sLt (p:Array Nat)(i j:Nat):Option Bool:=match sGet n p i,sGet n p j with
 |some a,some b=>some (lt a b)
 |_,_=>none
noncomputable def sAsc (p:Array Nat)(lo:Nat):Nat->Nat->Option Nat
 |0,k=>some k
 |f+1,k=>match sLt n lt p (lo+k) (lo+k - 1) with
  |some true=>some k
  |some false=>sAsc p lo f (k+1)
  |none=>none
noncomputable def wF (p:Array Nat)(lo r:Nat):Option Nat:=match sAsc n lt p lo (r - 1) 1 with
 |some k=>if (k==r)=true then some k else if k>1 then (match sLt n lt p lo (lo+k - 1) with
  |some true=>some k
  |_=>none) else none
 |none=>none
noncomputable def rA (p:Array Nat)(lo k:Nat):Nat->Nat->Nat->Option Nat
 |0,l,_=>some l
 |f+1,l,r=>if l≥r then some l else match sLt n lt p (lo+k) (lo+(l+r) / 2) with
  |some true=>rA p lo k f l ((l+r) / 2)
  |some false=>rA p lo k f ((l+r) / 2+1) r
  |none=>none
noncomputable def PJ (lo:Nat):Nat->Nat->Array Nat->Option (Array Nat)
 |0,_,p=>some p
 |f+1,k,p=>match rA n lt p lo k k 0 k with
  |some l=>PJ lo f (k+1) (bubble p (lo+k) (lo+k - (lo+l)))
  |none=>none
structure Mg where
 out:Array Nat
 ia:Nat
 ib:Nat
 ac:Nat
 bc:Nat
 g:Nat
noncomputable def PN:Nat->Nat->Nat->Nat
 |f+1,m,r=>if m<64 then m+r else PN f (m / 2) (max r (m % 2))
 |0,m,r=>m+r
noncomputable def sRun (p:Array Nat)(lo:Nat):Option (Nat×Array Nat):=match wF n lt p lo (n - lo) with
 |none=>none
 |some k=>if k<PN n n 0 then (match PJ n lt lo (min (n - lo) (PN n n 0) - max k 1) (max k 1) p with
  |some p'=>some (min (n - lo) (PN n n 0),p')
  |none=>none) else some (k,p)
end
end L2
namespace L2
open PySem PySem.W PyProof.Rows
section
variable {prog:J8}{w:J9}{A:Kf}{s:Kd}{κ:SortKind}{it:Array Keyed}{n:Nat}{lt:Nat->Nat->Bool}
noncomputable def Ans (prog:J8)(w:J9)(A:Kf)(s:Kd)(κ:SortKind)(it:Array Keyed)(n:Nat)(lt:Nat->Nat->Bool):Prop:=
 ∀a b:Nat,a<n->b<n-> ∀Q:Bool->Kd->Prop,Q (lt a b) s->Kh (Ki prog w) A (keyLt' κ (kas_item it a).1 (kas_item it b).1) Q (λ_ _=>False) s
end
section
section
end
end
section
section
variable {s:Kd}{it:Array Keyed}
noncomputable abbrev M6:=Option (Array Keyed)×Array Keyed×Nat×Nat×Nat×Nat
noncomputable abbrev M5:=Option (Array Keyed)×Array Keyed×Nat×Nat×Nat
noncomputable abbrev t6 (it:Array Keyed)(r:Option (Array Nat))(s:Mg):M6:=(r.map (·.map (kas_item it)),s.out.map (kas_item it),s.ia,s.ib,s.ac,s.bc)
noncomputable abbrev t5 (it:Array Keyed)(r:Option (Array Nat))(s:Mg):M5:=(r.map (·.map (kas_item it)),s.out.map (kas_item it),s.ia,s.ib,s.g)
end
end
section
section
variable {prog:J8}{w:J9}{A:Kf}{s:Kd}{κ:SortKind}{it:Array Keyed}{n:Nat}{lt:Nat->Nat->Bool}{p:Array Nat}
theorem Bq (H:Ans prog w A s κ it n lt){lo y M:Nat}{pe:Array (Nat×Nat×Nat)}{g:Nat}(hM:PN n n 0=M)(h:sRun n lt p lo=some (y,p')): ∃f,wF n lt p lo (n - lo)=some f/\((f<M/\y=min (n - lo) M/\PJ n lt lo (min (n - lo) M - max f 1) (max f 1) p=some p')\/(¬f<M/\y=f/\p'=p)):=by
 unfold sRun at h;rw[hM] at h;split at h
 ·cases h
 rename_i f e;refine⟨f,e,?_⟩;split at h
 ·rename_i z;split at h
  ·rename_i q e2;cases h;exact .inl ⟨z,rfl,e2⟩
  ·cases h
 ·rename_i z;cases h;exact .inr ⟨z,rfl,rfl⟩
end
end
end L2
namespace L2
open PySem PySem.Spec PyProof.Rows
section
section
variable {X:Cx}{E:XK}
noncomputable def PH:Lx->M Fl:=λ_=>no
theorem Dj {st:KA}:JS X E st PH:=⟨λpins s σ H D I q=>by
 obtain⟨o,ρ,rfl,R,S,h⟩:=q
 exact h.elim⟩
noncomputable def dI (x y:Str):List Str:=if (decide (x.length<y.length)||decide (J7.Str.strKind x<J7.Str.strKind y))=true then [x] else if (J7.Str.occurrences x y 0 x.length (x.length+1)).isEmpty=true then [x] else J7.Str.partsBetween x (J7.Str.occurrences x y 0 x.length (x.length+1)) y.length
noncomputable def Ca:V->List V->Hp->VK->Prop:=λx vs H Q=> ∃ (a b:Str),x=.str a/\vs=[.str b]/\(b.length==0)=false/\a.length<=sizeLine/\(dI a b).length<=sizeLine/\ ∀q,H q=none->Q (.ref q) (upd H q (.lst ((dI a b).map V.str)))
theorem mO: ∀ (l:List Str) (t:Nat),Vals (l.map V.str) (strsFrom t l)
 |[],_=>.nil
 |x::l,t=>.cons ⟨_,rfl⟩ (mO l (t+1))
theorem j4 {l:List Str}{tk:Nat}(I:Inv X pins σ H s)(hv:Vals (l.map V.str) us)(hz:l.length<=sizeLine)(q:∀q,H q=none->Q (.ref q) (upd H q (.lst (l.map V.str)))):
  EP X pins σ Q (.ref ↥s) {s with toks:=tk,heap:=s.heap.push {cls:=.type "list",data:=.seq us.toArray}}:=
 ⟨.ref ↥s,_,I.laid (t':=tk) (λb o e=>GZ _ e) (GO _) (show ObjOk X.prog X.w _ (s.heap.push {cls:=.type "list",data:=.seq us.toArray}) _ (.lst (l.map V.str)) from⟨by rw[GN];exact hz,us,_,hv,He _ rfl⟩),rfl,q _ (I.hok.fresh (GO _))⟩
theorem xJ:MtR X "str.split" Ca:=by
 intro pins s σ H x vs v us Q I rx rv h;obtain⟨a,b,rfl,rfl,hb,ha,hz,q⟩:=h;obtain⟨t,rfl⟩:=rx;obtain⟨u,rfl,ru⟩:=rv.one;obtain⟨t2,rfl⟩:=ru;by_cases c1:(decide (a.length<b.length)||decide (J7.Str.strKind a<J7.Str.strKind b))=true
 ·have e:dI a b=[a]:=if_pos c1;rw[e] at q;refine La F.slot_str_split (K8 s a t) F.entry_str_split (F.args_str_split_2 _ _) (meets_str_split_cannot_occur a b t t2 c1) ?_;exact j4 (l:=[a]) (us:=[.str a t]) (tk:=s.toks) I (.cons ⟨t,rfl⟩ .nil) (by show 1<=sizeLine;decide) q
 ·have c1':(decide (a.length<b.length)||decide (J7.Str.strKind a<J7.Str.strKind b))=false:=by rw[<-Bool.not_eq_true];exact c1
  by_cases c2:(J7.Str.occurrences a b 0 a.length (a.length+1)).isEmpty=true
  ·have e:dI a b=[a]:=by unfold dI;rw[if_neg c1,if_pos c2]
   rw[e] at q;refine La F.slot_str_split (K8 s a t) F.entry_str_split (F.args_str_split_2 _ _) (meets_str_split_not_found a b t t2 c1' hb c2) ?_;exact j4 (l:=[a]) (us:=[.str a t]) (tk:=s.toks) I (.cons ⟨t,rfl⟩ .nil) (by show 1<=sizeLine;decide) q
  ·have c2':(J7.Str.occurrences a b 0 a.length (a.length+1)).isEmpty=false:=by rw[<-Bool.not_eq_true];exact c2
   have e:dI a b=J7.Str.partsBetween a (J7.Str.occurrences a b 0 a.length (a.length+1)) b.length:=by unfold dI;rw[if_neg c1,if_neg c2]
   rw[e] at q hz;refine La F.slot_str_split (K8 s a t) F.entry_str_split (F.args_str_split_2 _ _) (meets_str_split_sep a b t t2 c1' hb c2' ha hz) ?_;exact j4 (l:=J7.Str.partsBetween a (J7.Str.occurrences a b 0 a.length (a.length+1)) b.length) I (mO _ _) hz q
noncomputable def Qt (x:W)(ws:List W):M W:=match x,ws with
 |.str a,[.str b]=>gd ((b.length==0)=false/\a.length<=sizeLine/\(dI a b).length<=sizeLine) (pr (.tl ((dI a b).map W.str)))
 |_,_=>no
theorem g8 {K:Zf}: ∀ns:List Str,Rvs K o (ns.map W.str) (ns.map V.str)
 |[]=>Rvs.nil
 |n::r=>Rvs.cons (Pz.mpr rfl) (g8 r)
variable {o e:Expr}{apos cpos:Kx}{fo:Lx->M W}{l:Lx->M (List W)}
theorem xS (ho:JE X E o fo)(ha:JA X E [e] l)(hbase:KS o "split" X.env (Kw o X.env)=Kw o X.env)
  (hfew:((Ky cpos (Kz [e] X.env)).all (λx=>!x.1) && (KU cpos (KW [] X.env)).all (λx=>x.1.isSome) && decide (([e]:List Expr).length+([]:List K2).length+(if ([]:List K2).isEmpty then 0 else 1)<30))=true)
  (hline:(apos.endLine==cpos.line)=true)(hs:Kz [e] X.env=(false,Kw e X.env)::Kz [] X.env)(hplain:(Ky cpos (Kz [] X.env)).any (·.1)=false):
  JE X E (.Call (.Attribute o "split" apos) [e] [] cpos) (N7 isS Qt fo l):=
 (mW PySem.F.plainAttrs_str PySem.F.slot_str_split PySem.F.type_str_split xJ ho.h ha.h hbase hfew hline hs hplain).imp λσ H Q h=>by
  obtain⟨w,ρ,rfl,R,S,h⟩:=h;refine⟨w,ρ,rfl,R,S,Ps.bd h λp x vx e1 R1 r1 h1=>?_⟩;cases x with
  |str a=>
   have h1:Ps (cg X E) (Rv X.K) p (bd (l ρ) (λws=>Qt (.str a) ws) p.h) Q:=h1;rw[Pz.mp r1];refine⟨rfl,p,ρ,rfl,R1,S.mono R e1,Ps.bd h1 λq ws vs e2 R2 r2 h2=>?_⟩;rcases ws with _|⟨w',_|⟨_,_⟩⟩
   ·exact h2.elim
   ·obtain⟨v,rfl,r⟩:=r2.one;cases w' with
    |str b=>
     have h2:Ps (cg X E) (Rv X.K) q (gd ((b.length==0)=false/\a.length<=sizeLine/\(dI a b).length<=sizeLine) (pr (.tl ((dI a b).map W.str))) q.h) Q:=h2;obtain⟨hz,h2⟩:=h2.gd;exact⟨a,b,rfl,by rw[Pz.mp r],hz.1,hz.2.1,hz.2.2,λq hq=>jv R2 hq (g8 _) h2⟩
    |_=>exact h2.elim
   ·cases w'<;>exact h2.elim
  |_=>exact h1.elim
end
section
variable {X:Cx}{c m:Str}{C fA:Kb}{fd:KY}{ps:List Str}{k n:Nat}{fn:List W->M W}{o:Expr}{fo:Lx->M W}{pos apos:Kx}
theorem As (hn:J5 X.K Ks c=some (some (.ref C)))(cl:Cls X.K C)(F:CGm X.prog X.w X.K X.mg X.base k C m fA fd ps n fn)(hr:Room k X.A)(ho:JE X E0 o fo)
  (ht:Kw (.Call (.Attribute o m apos) [] [] pos) X.env=(do
   let ov<-Kw o X.env
   KE apos.atName
   let (f,first)<-KF [ov] (KR ov m pl)
   callWith pos f first (Ky pos (Kz [] X.env)) (KU pos (KW [] X.env))):=by rfl):
  JE X E0 (.Call (.Attribute o m apos) [] [] pos) (N3 c m n fn fo N9):=(eJ ho.h cl F.me F.ok hr F.bi .nil OT ht).imp λσ H Q h=>by
 obtain⟨w,ρ,rfl,R,S,h⟩:=h;refine⟨w,ρ,rfl,R,S,Ps.bd h λp x vx e1 R1 r1 h1=>?_⟩;obtain⟨a,dx,fs,rfl,q1,q2,h1⟩:=yp hn R1 r1 h1;have h1:Ps (cg X E0) (Rv X.K) p (arW n fn [x] p.h) Q:=h1;unfold arW at h1;by_cases z:([x]:List W).length=n
 ·rw[if_pos z] at h1;exact⟨a,dx,fs,rfl,q1,q2,p,[x],rfl,z,R1,by first|(rw[Hn];exact Rvs.cons r1 Rvs.nil)|exact Rvs.cons r1 Rvs.nil,h1⟩
 ·rw[if_neg z] at h1;exact h1.elim
theorem xT (M:Mk X.K C fA)(hn:J5 X.K Ks c=some (some (.ref C)))(F:FnOk X.prog X.w X.K X.mg X.base CX0 k fA fd ps (Qq X.K X.mg n fn))(hb:Binds X.K fd ps [])(hr:Room (k+1) X.A)(hm:X.mg c=some (.ref C))(hg:Gl X c:=by rfl)
  (hdb:(c==("__debug__":Str))=false:=by decide):JE X E0 (.Call (.Name c p0) [] [] pos) (NZ c n fn N9):=(xg M F hr hg hm hb .nil OT hdb).imp λσ H Q h=>by
 obtain⟨p,ρ,rfl,R1,S,h⟩:=h;intro x dx hx hdx hne;have X1:Ex p ⟨p.mu,p.h,upd p.H dx (.own x)⟩:=Ex.new hdx;have N1:Rel X.K ⟨p.mu,p.h,upd p.H dx (.own x)⟩:=R1.new hdx;have hx1:(⟨p.mu,p.h,upd p.H dx (.own x)⟩:Wo).H x=none:=by
  show upd p.H dx (.own x) x=none;rw[ai (Ne.symm hne)];exact hx
 have X2:Ex ⟨p.mu,p.h,upd p.H dx (.own x)⟩ (Wo.add ⟨p.mu,p.h,upd p.H dx (.own x)⟩ x (.ins c [] []) (.ins C dx [])):=Ex.add hx1;have N2:Rel X.K (Wo.add ⟨p.mu,p.h,upd p.H dx (.own x)⟩ x (.ins c [] []) (.ins C dx [])):=N1.add hx1 ⟨C,dx,[],hn,ay,rfl,Rvs.nil⟩
 have h1:Ps (cg X E0) (Rv X.K) p (match arW n fn [.loc p.h.length] (p.h++[.ins c [] []]) with
  |.ok .non h'=>.ok (.loc p.h.length) h'
  |_=>.bad) Q:=h
 by_cases z:([W.loc p.h.length]:List W).length=n
 ·rw[sD z] at h1;refine⟨Wo.add ⟨p.mu,p.h,upd p.H dx (.own x)⟩ x (.ins c [] []) (.ins C dx []),[.loc p.h.length],rfl,z,N2,?_,?_⟩
  ·exact Rvs.cons Rv.addLocI Rvs.nil
  ·show Ps ⟨X.K,X.mg,E0⟩ (Rv X.K) _ (fn [.loc p.h.length] (p.h++[.ins c [] []])) _;cases ef:fn [.loc p.h.length] (p.h++[.ins c [] []]) with
   |ok a h'=>
    rw[ef] at h1;cases a with
    |non=>
     intro p' b hp X3 R3 rb;refine⟨Py.mp rb,Ps.at (p:=p') h1 hp ((X1.trans X2).trans X3) R3 ?_⟩;have lt:p.h.length<(Wo.add ⟨p.mu,p.h,upd p.H dx (.own x)⟩ x (.ins c [] []) (.ins C dx [])).h.length:=by show _<(p.h++[_]).length;simp
     unfold Rv;refine⟨Ha lt X3.le,?_⟩;rw[X3.mu _ lt];show V.ref x=V.ref (if p.h.length=p.h.length then x else p.mu p.h.length);rw[if_pos rfl]
    |_=>exact h1.elim
   |ex y h'=>rw[ef] at h1;exact h1.elim
   |bad=>rw[ef] at h1;exact h1.elim
 ·have:arW n fn [.loc p.h.length]=no:=if_neg z;rw[this] at h1;exact h1.elim
end
end
section
section
variable {X:Cx}{E:XK}{o i e:Expr}{p apos cpos:Kx}{fo:Lx->M W}{l:Lx->M (List W)}
noncomputable def Qe (x:W)(ws:List W):M W:=match ws with
 |[.str k]=>bd (NQ x) λl=>match OQ sOf l with
  |some (ss:List Str)=>match ss.findIdx? (λm=>decide (m=k)) with
   |some j=>pr (.int (j:Int))
   |none=>no
  |none=>no
 |_=>no
theorem wq {k:Str}: ∀ {ss:List Str}{us:List J6},Vals (ss.map V.str) us->us.length=ss.length/\ ∀ (i:Nat) (u:J6),us[i]?=some u-> ∃m,ss[i]?=some m/\eqU (.str k) u=decide (m=k)
 |[],_,r=>by rw[Ht] at r;cases r;exact⟨rfl,λi u h=>by cases h⟩
 |n::ss,_,r=>by
  rw[GV] at r;cases r with
  |cons h t=>
   obtain⟨a,b⟩:=wq (k:=k) t;refine⟨congrArg (· +1) a,λi u hu=>?_⟩;cases i with
   |zero=>
    cases hu;refine⟨n,rfl,?_⟩;rw[sr h rfl];by_cases q:n=k
    ·subst q;simp [eqV]
    ·rw[decide_eq_false q];simp [eqV,q]
   |succ i=>exact b i u hu
noncomputable def rSIdx:V->List V->Hp->VK->Prop:=λx vs H Q=> ∃ (p:Kb) (ss:List Str) (k:Str) (j:Nat),x=.ref p/\vs=[.str k]/\H p=some (.lst (ss.map V.str))/\ss.findIdx? (λm=>decide (m=k))=some j/\Q (.int j) H
theorem Ab:MtM X "list.index" rSIdx:=by
 intro pins s σ H x vs v us Q I rx rv h;obtain⟨p,ss,k,j,rfl,rfl,hp,hj,q⟩:=h;cases rx;obtain⟨u,rfl,ru⟩:=rv.one;obtain⟨t,rfl⟩:=ru;obtain⟨its,n,r,ho,hz⟩:=I.lst hp;obtain⟨len,gt⟩:=wq (k:=k) r;rw[Ii] at hj;obtain⟨h1,h2,h3⟩:=hj;have at': ∀ (i:Nat) (hi:i<its.length),eqU (.str k) its[i]=decide (ss[i]'∅=k):=λi hi=>by
  obtain⟨m,e1,e2⟩:=gt i its[i] (G0 hi);rw[G0 ∅] at e1;cases e1;exact e2
 have lz:=ig;rw[GN] at hz;refine La F.slot_list_index ⟨_,ho,rfl⟩ F.entry_list_index (F.args_list_index_2 _ _) (SeqAt.list_indexAt p its.toArray n none #[] (.str k t) (eqU (.str k)) j (by rw[G4];omega) ∅ ?_ λm hm hlt=>?_) ⟨ho,λy hy=>fX (x:=.str k) (v:=.str k t) ⟨t,rfl⟩ rfl r ?_ y (by simpa using hy),.int j,H,I.tok _,⟨_,rfl⟩,q⟩
 ·rw[IH,at' j ∅];exact h2
 ·rw[IH,at' m (by rw[G4] at hm;exact hm)];have:=h3 m hlt;simpa using this
 ·rw[Je];exact HD.mpr λ_ _=>rfl
theorem Ar (ho:JE X E o fo)(ha:JA X E [e] l)(hbase:KS o "index" X.env (Kw o X.env)=Kw o X.env)
  (hfew:((Ky cpos (Kz [e] X.env)).all (λx=>!x.1) && (KU cpos (KW [] X.env)).all (λx=>x.1.isSome) && decide (([e]:List Expr).length+([]:List K2).length+(if ([]:List K2).isEmpty then 0 else 1)<30))=true)
  (hline:(apos.endLine==cpos.line)=true)(hs:Kz [e] X.env=(false,Kw e X.env)::Kz [] X.env)(hplain:(Ky cpos (Kz [] X.env)).any (·.1)=false):
  JE X E (.Call (.Attribute o "index" apos) [e] [] cpos) (N7 Ng Qe fo l):=
 (mW PySem.F.plainAttrs_list PySem.F.slot_list_index PySem.F.type_list_index Ab ho.h ha.h hbase hfew hline hs hplain).imp λσ H Q h=>by
  obtain⟨w,ρ,rfl,R,S,h⟩:=h;refine⟨w,ρ,rfl,R,S,Ps.bd h λp x vx e1 R1 r1 h1=>?_⟩;have h1:Ps (cg X E) (Rv X.K) p (bd (bd (NQ x) λ_=>pr x) (λx=>bd (l ρ) λws=>Qe x ws) p.h) Q:=h1;rw[ae] at h1;obtain⟨l0,a,vs0,rfl,s1,r3,h1⟩:=c9 R1 r1 h1;rw[aU] at h1;refine⟨.inl ⟨rfl,vs0,.of s1⟩,p,ρ,rfl,R1,S.mono R e1,Ps.bd h1 λq ws vs e2 R2 r2 h2=>?_⟩;unfold Qe at h2;split at h2
  ·rename_i k;obtain⟨v,rfl,r⟩:=r2.one;obtain⟨l1,a1,vs1,ea,s2,r4,h2⟩:=c9 R2 (r1.mono R1 e2) h2;cases ea;cases t1:OQ sOf l1 with
   |none=>simp only[t1] at h2;exact h2.elim
   |some ss=>
    simp only[t1] at h2;have e3:vs1=ss.map V.str:=jy wE t1 r4;subst e3;cases hj:ss.findIdx? (λm=>decide (m=k)) with
    |none=>simp only[hj] at h2;exact h2.elim
    |some j=>
     simp only[hj] at h2;exact⟨a,ss,k,j,rfl,by rw[Pz.mp r],s2,hj,h2.pr R2 (Px.mpr rfl)⟩
  ·exact h2.elim
end
end
end L2
namespace L2
open PySem
theorem qM {c:Nat}: ∀ {a b u v:List Nat},c ∉ a->c ∉ b->a++c::u=b++c::v->a=b/\u=v
 |[],[],u,v,_,_,e=>⟨rfl,(List.cons.inj e).2⟩
 |[],y::b,u,v,_,h,e=>absurd (List.cons.inj e).1 (λz=>h (z▸GY))
 |x::a,[],u,v,h,_,e=>absurd (List.cons.inj e).1 (λz=>h (z▸GY))
 |x::a,y::b,u,v,h1,h2,e=>by
  obtain⟨e1,e2⟩:=List.cons.inj e;obtain⟨q1,q2⟩:=qM (λz=>h1 (G9 _ z)) (λz=>h2 (G9 _ z)) e2;exact⟨by rw[e1,q1],q2⟩
theorem nJ {a b:Str}(h:a.cps.toList=b.cps.toList):a=b:=by
 cases a;cases b;congr 1;exact Array.toList_inj.mp h
theorem fZ (c:Nat)(x y:Str)(r:List Str):(Str.join ⟨#[c]⟩ (x::y::r)).cps.toList=x.cps.toList++c::(Str.join ⟨#[c]⟩ (y::r)).cps.toList:=by
 show ((x++(⟨#[c]⟩:Str))++Str.join ⟨#[c]⟩ (y::r)).cps.toList=_;rw[iV,iV,Hc];rfl
theorem qi {c:Nat}: ∀ {ps qs:List Str},ps≠ []->qs≠ []->(∀p∈ps,c ∉ p.cps.toList)->(∀p∈qs,c ∉ p.cps.toList)->Str.join ⟨#[c]⟩ ps=Str.join ⟨#[c]⟩ qs->ps=qs
 |[],_,h,_,_,_,_=>absurd rfl h
 |_::_,[],_,h,_,_,_=>absurd rfl h
 |[x],[y],_,_,_,_,e=>by rw[show x=y from e]
 |[x],y::z::r,_,_,f,_,e=>by
  have e:=congrArg (λs:Str=>s.cps.toList) e;rw[fZ] at e;refine absurd ?_ (f x GY);have e:x.cps.toList=_:=e;rw[e];exact Hu _ GY
 |x::w::s,[y],_,_,_,f,e=>by
  have e:=congrArg (λs:Str=>s.cps.toList) e;rw[fZ] at e;refine absurd ?_ (f y GY);have e:_=y.cps.toList:=e;rw[<-e];exact Hu _ GY
 |x::w::s,y::z::r,_,_,f,g,e=>by
  have e:=congrArg (λs:Str=>s.cps.toList) e;rw[fZ,fZ] at e;obtain⟨e1,e2⟩:=qM (f x GY) (g y GY) e;have e3:=qi (ps:=w::s) (qs:=z::r) ⇑_ ⇑_ (λp hp=>f p (G9 _ hp)) (λp hp=>g p (G9 _ hp)) (nJ e2);rw[nJ e1,e3]
theorem qU {c:Nat}{ps:List Str}(h:ps≠ [])(f:∀p∈ps,c ∉ p.cps.toList):dI (Str.join ⟨#[c]⟩ ps) ⟨#[c]⟩=ps:=by
 have e:dI (Str.join ⟨#[c]⟩ ps) ⟨#[c]⟩=Txt.split (Str.join ⟨#[c]⟩ ps) ⟨#[c]⟩:=rfl;rw[e];refine qi (c:=c) (λz=>?_) h (StrLaws.split_free _ _) f (StrLaws.join_split _ _);have:=PyProof.Rows.split_pos (Str.join ⟨#[c]⟩ ps) ⟨#[c]⟩;rw[z] at this;exact absurd this ⇑_
theorem pj {c:Nat}{ps:List Str}(h:ps≠ [])(f:∀p∈ps,c ∉ p.cps.toList)(z:(Str.join ⟨#[c]⟩ ps).length<=sizeLine)(z2:ps.length<=sizeLine):Qt (.str (Str.join ⟨#[c]⟩ ps)) [.str ⟨#[c]⟩]=pr (.tl (ps.map W.str)):=by
 show gd _ _=_;rw[qU h f,ah ⟨rfl,z,z2⟩]
end L2
namespace HT
open PySem PySem.Spec PyProof.Rows
section
variable {prog:J8}{w:J9}{A:Kf}{E:J6->Kd->Prop}{s:Kd}
theorem getItem_tuple_all {t sl:Kb}{lo hi:Option Int}{Q:J6->Kd->Prop}(ht:IsTup s.heap t items)(hs:s.heap.IsSliceOf sl vl vu .none)(pl:IsPart vl lo)(pu:IsPart vu hi)
  (hw:sIx items.size 0 lo=0/\sIx items.size items.size hi=items.size)
  (h:Q (.ref t) s):Kh (Ki prog w) A (getItem (.ref t) (.ref sl)) Q E s:=by
 obtain⟨os,hos,hcs,hds⟩:=id hs;have hTs:s.TypeIs (.ref sl) "slice":=⟨os,hos,hcs⟩
 unfold getItem
 try with_reducible refine Kn ?_
 first|refine Kj (Kl ?_)|skip
 refine Kj (wpAny_sequenceKey ht.typeIs ↥_ ?_)
 refine Kj (wpAny_callSpecial?_slot (name:=Str.ofString "__getitem__") ht.typeIs PyProof.Rows.slot_tuple_getitem
  (Kk PyProof.Rows.slot_tuple_getitem ht.typeIs entry_tuple_getitem ?_ (args_tuple_getitem _ _)))
 show Kh _ _ (J7.Tuple.tupleItemsOf (.ref t)>>=_) _ _ s;refine Kj (tupleItemsOf_ ht ?_);refine Kj (wpAny_typeOf hTs ?_);rw[if_pos ↥_];refine Kj (fQ hs pl pu ?_);have hno:((((sIx items.size 0 lo:Nat):Int)==0 && (1:Int)==1 && (sIx items.size items.size hi - sIx items.size 0 lo)==items.size)=true):=by
  rw[hw.1,hw.2];simp
 show Kh _ _ (if (((sIx items.size 0 lo:Nat):Int)==0 && (1:Int)==1 && (sIx items.size items.size hi - sIx items.size 0 lo)==items.size)=true then _ else _) _ _ s;rw[if_pos hno];unfold J7.Tuple.tupleIsExact;refine Kj (Kj (wpAny_typeOf ht.typeIs (Kl ?_)));rw[if_pos ↥_];exact Kj (Km (Kl ⟨_,rfl,Kl h⟩))
end
end HT
namespace L2
open PySem PySem.Spec PyProof.Rows
section
variable {X:Cx}{E:XK}
noncomputable def rSlA (K:Zf):V->Option Int->Option Int->Hp->VK->Prop:=λx lo hi H Q=> ∃a xs,x=.ref a/\SqT K H a xs/\(HT.sIx xs.length 0 lo=0/\HT.sIx xs.length xs.length hi=xs.length)/\Q (.ref a) H
theorem zx:SlR X (rSlA X.K):=by
 intro pins s σ H x v vl vu lo hi sl Q I rx hs pl pu h;obtain⟨a,xs,rfl,hx,hw,q⟩:=h;cases rx;obtain⟨its,r,ht,hz⟩:=I.tuple hx;have hlen:its.toArray.size=xs.length:=by rw[G4];exact r.length.symm
 refine⟨"tuple",_,PyProof.Rows.slot_tuple_getitem.lookup,ht.typeIs,?_⟩;exact HT.getItem_tuple_all ht hs pl pu (by rw[hlen];exact hw) ⟨.ref a,H,I,rfl,q⟩
noncomputable def Qi (x:W)(lo hi:Option Int):M W:=match x with
 |.tup l=>pr (.tup (Ms l lo hi))
 |_=>no
theorem vF {α:Type}{l:List α}{lo hi:Option Int}(h:HT.sIx l.length 0 lo=0/\HT.sIx l.length l.length hi=l.length):Ms l lo hi=l:=by
 unfold Ms;rw[h.1,h.2,IF,Nat.sub_zero,Hk]
theorem Dv {lo hi:Option Expr}{fa:Lx->M W}{fl fh:Lx->M (Option Int)}(he:JE X E e fa)(hl:JO X E lo fl)(hh:JO X E hi fh):
  JE X E (.Subscript e (.Slice lo hi none p2) pos) (m3 Qi fa fl fh):=(lC (Qk.or zx) he.h hl.h hh.h).imp λσ H Q h=>by
 obtain⟨o,ρ,rfl,R,S,h⟩:=h;refine⟨o,ρ,rfl,R,S,Ps.bd h λp x vx e1 R1 r1 h1=>⟨p,ρ,rfl,R1,S.mono R e1,Ps.bd h1 λq a va e2 R2 r2 h2=>⟨q,ρ,rfl,R2,(S.mono R e1).mono R1 e2,Ps.bd h2 λw b vb e3 R3 r3 h3=>?_⟩⟩⟩;subst r2 r3;have rx:=(r1.mono R1 e2).mono R2 e3;unfold Qi at h3;split at h3
 ·rename_i l;have rx':=rx;unfold Rv at rx;obtain⟨a',vs,rfl,s,r⟩:=rx;by_cases hz:HT.sIx l.length 0 a=0/\HT.sIx l.length l.length b=l.length
  ·refine .inr ⟨a',vs,rfl,s,by rw[r.len];exact hz,?_⟩;rw[vF hz] at h3;exact h3.pr R3 rx'
  ·exact .inl ⟨a',vs,rfl,s,by rw[r.len];exact hz,λq' hq=>ju R3 hq (r.cut _ _) h3⟩
 ·exact h3.elim
end
end L2
namespace Wd
open PySem L2
noncomputable def LET:Str:= "abcdefghijklmnopqrstuvwxyz"
noncomputable def FIG:Str:= "0123456789"
noncomputable def Nh (c:Nat):Bool:=decide (c∈LET.cps.toList)
noncomputable def Nc (c:Nat):Bool:=decide (c∈FIG.cps.toList)
noncomputable def Nb (c:Nat):Bool:=decide (c∈(LET++FIG).cps.toList)
theorem yb:LET.cps.toList=Jc 97 26:=⋯
theorem yG:FIG.cps.toList=Jc 48 10:=⋯
theorem Ni {c:Nat}:Nh c=true↔97<=c/\c<=122:=by
 unfold Nh;rw[decide_eq_true_eq,yb,JJ];omega
theorem Nf {c:Nat}:Nc c=true↔48<=c/\c<=57:=by
 unfold Nc;rw[decide_eq_true_eq,yG,JJ];omega
noncomputable def taken:List Str:=["box", "block", "put", "say", "ask", "go", "if", "else", "table", "stop"]
noncomputable def aV (w:Str):Bool:=decide (1<=w.length/\w.length<=8) && (w.cps.toList.all Nh && !decide (w∈taken))
noncomputable def Ox (w:Str):Bool:=decide (1<=w.length/\w.length<=3) && (!(decide (w.cps.toList.head?=some 48) && !decide (w= "0")) && w.cps.toList.all Nc)
noncomputable def cZ (w:Str):Int:=((PySem.NumText.digitsVal w.cps.toList:Nat):Int)
inductive Exp where
 |num (n:Int)
 |box (x:Str)
 |bin (s:Str)(l r:Exp)
 deriving DecidableEq
noncomputable def NJ (l:List Nat):Option (Exp×List Nat):=
 if aV ⟨(l.takeWhile Nb).toArray⟩=true then some (.box ⟨(l.takeWhile Nb).toArray⟩,l.dropWhile Nb)
 else if Ox ⟨(l.takeWhile Nb).toArray⟩=true then some (.num (cZ ⟨(l.takeWhile Nb).toArray⟩),l.dropWhile Nb) else none
noncomputable def Mj (f:List Nat->Option (Exp×List Nat))(ops:List Nat):Nat->Exp->List Nat->Option (Exp×List Nat)
 |0,e,l=>some (e,l)
 |_+1,e,[]=>some (e,[])
 |n+1,e,c::r=>if c∈ops then (match f r with
   |none=>none
   |some (e2,r2)=>Mj f ops n (.bin ⟨#[c]⟩ e e2) r2) else some (e,c::r)
noncomputable def OS (f:List Nat->Option (Exp×List Nat))(ops:List Nat)(l:List Nat):Option (Exp×List Nat):=match f l with
 |none=>none
 |some (e,r)=>Mj f ops r.length e r
noncomputable def OO:List Nat:=[42]
noncomputable def OP:List Nat:=[43,45]
noncomputable def cT (f:List Nat->Option (Exp×List Nat))(r:List Nat):Option (Exp×List Nat):=match f r with
 |some (e,41::r2)=>some (e,r2)
 |_=>none
noncomputable def cb:Nat->List Nat->Option (Exp×List Nat)
 |0,l=>if l.head?=some 40 then none else NJ l
 |m+1,l=>if l.head?=some 40 then cT (OS (OS (cb m) OO) OP) l.tail else NJ l
noncomputable def ck (m:Nat):List Nat->Option (Exp×List Nat):=OS (cb m) OO
noncomputable def fu (m:Nat):List Nat->Option (Exp×List Nat):=OS (ck m) OP
noncomputable def MK (w:Str):Option Exp:=if w.length>60 then none else match fu 5 w.cps.toList with
 |some (e,[])=>some e
 |_=>none
noncomputable def Suf (f:List Nat->Option (Exp×List Nat)):Prop:= ∀l e r,f l=some (e,r)->r<:+l
theorem o9:Suf NJ:=λl e r h=>by
 unfold NJ at h;split at h
 ·cases h;exact JK _
 ·split at h
  ·cases h;exact JK _
  ·cases h
theorem mM {f:List Nat->Option (Exp×List Nat)}(hf:Suf f): ∀ (n:Nat) (e:Exp) (l:List Nat) (e':Exp) (r:List Nat),Mj f ops n e l=some (e',r)->r<:+l
 |0,e,l,e',r,h=>by cases h;exact Jf _
 |_+1,e,[],e',r,h=>by cases h;exact Jf _
 |n+1,e,c::l,e',r,h=>by
  unfold Mj at h;split at h
  ·split at h
   ·cases h
   ·rename_i e2 r2 hf2;exact (mM hf n _ r2 e' r h).trans ((hf l e2 r2 hf2).trans (List.suffix_cons c l))
  ·cases h;exact Jf _
theorem iD {f:List Nat->Option (Exp×List Nat)}(hf:Suf f):Suf (OS f ops):=λl e r h=>by
 unfold OS at h;split at h
 ·cases h
 ·rename_i e1 r1 h1;exact (mM hf _ _ _ _ _ h).trans (hf l e1 r1 h1)
theorem pc {f:List Nat->Option (Exp×List Nat)}(hf:Suf f):Suf (cT f):=λl e r h=>by
 unfold cT at h;split at h
 ·rename_i e1 r1 h1;cases h;exact (List.suffix_cons 41 r).trans (hf l e _ h1)
 ·cases h
theorem i5: ∀m,Suf (cb m)
 |0=>λl e r h=>by
  unfold cb at h;split at h
  ·cases h
  ·exact o9 l e r h
 |m+1=>λl e r h=>by
  unfold cb at h;split at h
  ·exact (pc (iD (iD (i5 m))) _ e r h).trans (List.tail_suffix l)
  ·exact o9 l e r h
theorem ka (m:Nat):Suf (ck m):=iD (i5 m)
theorem mL (m:Nat):Suf (fu m):=iD (ka m)
theorem we {w l r:List Nat}{p:Nat}(hl:l=w.drop p)(h:r<:+l):r=w.drop (w.length - r.length)/\r.length<=l.length:=by
 subst hl;refine⟨List.suffix_iff_eq_drop.mp (h.trans (List.drop_suffix p w)),h.length_le⟩
end Wd
namespace Q
open PySem L2
noncomputable def top (i:Nat):KA:=PySem.Challenge.pw_blockfall_k45_whole_laid_runs_alike.main.body.getD i (.Pass ⟨0,0,0,0⟩)
noncomputable abbrev kC:KA:=top 19
noncomputable abbrev nO:KA:=top 20
noncomputable abbrev PK:KA:=top 22
noncomputable abbrev nN:KA:=top 23
noncomputable abbrev jp:KA:=top 24
noncomputable abbrev kD:KA:=top 25
noncomputable abbrev gZ:KA:=top 26
noncomputable abbrev rh:KA:=bG (top 21) 0
noncomputable abbrev rj:KA:=bG (top 21) 1
noncomputable abbrev lm:KA:=bG (top 21) 2
noncomputable abbrev rg:KA:=bG (top 21) 3
noncomputable abbrev PR:KA:=bG (top 21) 4
end Q
namespace Q
open PySem L2 Wd
noncomputable def QO:List V:=taken.map V.str
structure Txt (K:Zf)(mg:Str->Option J6)(CS CN:Kb):Prop where
 cl:Cls K CS
 nw:NoAttr K CS "word"
 np:NoAttr K CS "place"
 mgS:mg "Signs"=some (.ref CS)
 mgN:mg "NoRow"=some (.ref CN)
 exN:PySem.W.excIn K CN L9 "ValueError.__new__"=true
 len:mg "len"=none
 all:mg "all"=none
 int:mg "int"=none
 let_: ∃t,mg "LETTERS"=some (.str LET t)
 fig: ∃t,mg "FIGURES"=some (.str FIG t)
 tak: ∃a,mg "TAKEN_WORDS"=some (.ref a)/\ ∀H:Hp,SqT K H a QO
 n8: ∃t,mg "LONGEST_NAME"=some (.int 8 t)
 n3: ∃t,mg "LONGEST_NUMBER"=some (.int 3 t)
 n60: ∃t,mg "LONGEST_EXPRESSION"=some (.int 60 t)
 n5: ∃t,mg "DEEPEST_BRACKET"=some (.int 5 t)
theorem dj (h:H p=none)(o:HO):Same H (upd H p o):=λb u q=>by rw[ai (bq q h)];exact q
theorem Qn {n:Nat}(h:n<=1000):n<=sizeLine:=Iw (jW h)
theorem bE {α:Type}{l:List α}{i:Nat}{x:α}(h:l[i]?=some x):l.take (i+1)=l.take i++[x]:=by
 obtain⟨hi,e⟩:=G1.mp h;rw[Ij,h];rfl
theorem Ep {α:Type}{xs:List α}{i:Int}{v:α}(h0:0<=i)(h:xs[i.toNat]?=some v):atI xs i=some v:=by
 have q:=eG h;have e:((i.toNat:Nat):Int)=i:=∅;rw[e] at q;exact q
theorem bC (w:Str):w.cps.toList.length=w.length:=by simp [Str.length]
theorem yesT {A B:Hp->Prop}(h:A H):QM σ H (λb H3=>if b=true then A H3 else B H3):=by
 show if true=true then A H else B H
 rw[if_pos rfl];exact h
section
variable {P:J8}{w:J9}{K:Zf}{mg:Str->Option J6}{base:Ka}{f CS CN:Kb}{fd:KY}
noncomputable def kX:Sp:=λvs H Q _=> ∃z:Str,vs=[.str z]/\z.length<=sizeLine/\ ∀H',Same H H'->Q (.bl (aV z)) H'
theorem B2:Lz ["word"] ["word"] (af kC):=⟨rfl,rfl,rfl,⋯,rfl,⋯,⋯⟩
theorem xD:((["sign", ".0"]:List Str)++(["word"]:List Str).map (hid ["sign", ".0"])).Nodup:=⋯
theorem vn (z:Str):inV (.str z) QO=decide (z∈taken):=by
 unfold inV QO;rw[HF,IG,decide_eq_true_eq];constructor
 ·rintro⟨v,hv,h⟩
  obtain⟨y,hy,rfl⟩:=G6.mp hv;have:y=z:=by simpa [eqV] using h
  subst this;exact hy
 ·intro h;exact⟨.str z,G6.mpr ⟨z,h,rfl⟩,by simp [eqV]⟩
theorem sh:QO.all MQ=true:=⋯
theorem zU (F:Fun K "is_name" "is_name" kC f fd)(T:Txt K mg CS CN):FnOk P w K mg base CX0 1 f fd ["word"] kX:=by
 refine F.ok B2 (λvs H Q E h=>?_) (λcdv A outer s H vs Q E hr h=>?_)
 ·obtain⟨z,rfl,_⟩:=h;rfl
 obtain⟨z,rfl,hz,q⟩:=h;obtain⟨t8,h8⟩:=T.n8;obtain⟨tL,hL⟩:=T.let_;obtain⟨aT,hT,sT⟩:=T.tak
 refine⟨_,aA (gN (PW.pt (wP (dO xm (du Mc rfl T.len PySem.boot_len (aj (pv 0) OR)) OZ (eM _))
   (rE (dO mX (du Mc rfl T.len PySem.boot_len (aj (pv 0) OR)) (dm (v:=.int 8) rfl h8 ⟨_,rfl⟩) (eM _))))) (aR (cJ OV)) O8)
  (aR (cJ (rL (du (qE rfl) rfl T.all PyProof.Rows.boot_all (aj (n9 (ls:=["sign", ".0"]) rfl (.of (af kC)) (xa (pv 0)) (λ_ _ _ _=>dk (i:=0) xD rfl (Or.inl rfl) (.inr rfl)) (λ_ _ _ _=>n6)
      (λ_ _ _ _=>iG OI (pv 0) (dm (v:=.str LET) rfl hL ⟨_,rfl⟩) (by with_unfolding_all rfl))) OR))
   (rK (iG OM (pv 0) (dm (v:=.ref aT) rfl hT rfl) (by with_unfolding_all rfl)))))),?_⟩
 refine⟨_,rfl,z,rfl,hz,_,_,rfl,rfl,_,rfl,?_⟩;have no: ¬(1<=z.length/\z.length<=8)->aV z=false:=λh=>by unfold aV;rw[decide_eq_false h];rfl
 refine Nm (λc=>?_) (λc=>?_)
 ·have c1:(z.length:Int)<1:=of_decide_eq_true c;refine No ?_;have:=q H (Same.refl _);rw[no ∅] at this;exact this
 ·have c1: ¬(z.length:Int)<1:=of_decide_eq_false (HX.mpr c);refine⟨_,rfl,z,rfl,hz,_,_,rfl,rfl,_,rfl,?_⟩;refine Nm (λc=>?_) (λc=>?_)
  ·have c2:(z.length:Int)>8:=of_decide_eq_true c;have:=q H (Same.refl _);rw[no ∅] at this;exact this
  ·have c2: ¬(z.length:Int)>8:=of_decide_eq_false (HX.mpr c);have yes:aV z=(z.cps.toList.all Nh && !decide (z∈taken)):=by
    unfold aV;rw[decide_eq_true (by omega:1<=z.length/\z.length<=8)];rfl
   refine⟨rfl,_,rfl,z,rfl,qy (λi ys H'=>H'=H/\ys=((z.cps.toList.take i).map Nh).map V.bl) ⟨rfl,rfl⟩ ?_ ?_⟩
   ·rintro i c0 ys H' hc ⟨rfl,rfl⟩
    refine⟨rfl,rfl,yesT ?_⟩;refine⟨_,rfl,_,_,rfl,rfl,?_,rfl,?_⟩
    ·rw[GN,GN,Hr];exact jW (by rw[bC];omega)
    ·rw[bE hc,GX,GX,r6];rfl
   ·rintro ys H' ⟨rfl,rfl⟩ D hD
    refine⟨D,(z.cps.toList.take z.cps.size).map Nh,rfl,SqL.of ay,_,rfl,?_⟩;have ea:((z.cps.toList.take z.cps.size).map Nh).all id=z.cps.toList.all Nh:=by
     have:z.cps.size=z.cps.toList.length:=⇑_;rw[this,Hk,Je];rfl
    rw[ea];cases hb:z.cps.toList.all Nh with
    |false=>
     refine Nn ?_;have this: ∀L,Q _ (upd H' D (.lst L)):=λL=>q _ (dj hD _);rw[yes,hb] at this;exact this _
    |true=>
     refine No ⟨_,rfl,aT,QO,rfl,.inr (sT _),rfl,sh,?_⟩;have this: ∀L,Q _ (upd H' D (.lst L)):=λL=>q _ (dj hD _);rw[yes,hb,<-vn] at this;exact this _
noncomputable def Qr:Sp:=λvs H Q _=> ∃z:Str,vs=[.str z]/\z.length<=sizeLine/\ ∀H',Same H H'->Q (.bl (Ox z)) H'
theorem scNum:Lz ["word"] ["word"] (af nO):=⟨rfl,rfl,rfl,⋯,rfl,⋯,⋯⟩
theorem CW (F:Fun K "is_number" "is_number" nO f fd)(T:Txt K mg CS CN):FnOk P w K mg base CX0 1 f fd ["word"] Qr:=by
 refine F.ok scNum (λvs H Q E h=>?_) (λcdv A outer s H vs Q E hr h=>?_)
 ·obtain⟨z,rfl,_⟩:=h;rfl
 obtain⟨z,rfl,hz,q⟩:=h;obtain⟨t3,h3⟩:=T.n3;obtain⟨tL,hL⟩:=T.fig
 refine⟨_,aA (gN (PW.pt (wP (dO xm (du Mc rfl T.len PySem.boot_len (aj (pv 0) OR)) OZ (eM _))
   (rE (dO mX (du Mc rfl T.len PySem.boot_len (aj (pv 0) OR)) (dm (v:=.int 3) rfl h3 ⟨_,rfl⟩) (eM _))))) (aR (cJ OV)) O8)
  (aA (gN (PW.pt (wQ (dO OG (tD oy (pv 0) OZ (λ_ _=>rfl)) O3 (eM _)) (sZ (dO OL (pv 0) O3 (eM _))))) (aR (cJ OV)) O8)
  (aR (cJ (du (qE rfl) rfl T.all PyProof.Rows.boot_all (aj (n9 (ls:=["sign", ".0"]) rfl (.of (af nO)) (xa (pv 0)) (λ_ _ _ _=>dk (i:=0) xD rfl (Or.inl rfl) (.inr rfl)) (λ_ _ _ _=>n6)
      (λ_ _ _ _=>iG OI (pv 0) (dm (v:=.str FIG) rfl hL ⟨_,rfl⟩) (by with_unfolding_all rfl))) OR))))),?_⟩
 refine⟨_,rfl,z,rfl,hz,_,_,rfl,rfl,_,rfl,?_⟩;have no: ¬(1<=z.length/\z.length<=3)->Ox z=false:=λh=>by unfold Ox;rw[decide_eq_false h];rfl
 refine Nm (λc=>?_) (λc=>?_)
 ·have c1:(z.length:Int)<1:=of_decide_eq_true c;refine No ?_;have:=q H (Same.refl _);rw[no ∅] at this;exact this
 ·have c1: ¬(z.length:Int)<1:=of_decide_eq_false (HX.mpr c);refine⟨_,rfl,z,rfl,hz,_,_,rfl,rfl,_,rfl,?_⟩;refine Nm (λc=>?_) (λc=>?_)
  ·have c2:(z.length:Int)>3:=of_decide_eq_true c;have:=q H (Same.refl _);rw[no ∅] at this;exact this
  ·have c2: ¬(z.length:Int)>3:=of_decide_eq_false (HX.mpr c);have yes:Ox z=(!(decide (z.cps.toList.head?=some 48) && !decide (z= "0")) && z.cps.toList.all Nc):=by
    unfold Ox;rw[decide_eq_true (by omega:1<=z.length/\z.length<=3)];rfl
   obtain⟨c0,r0,e0⟩: ∃c0 r0,z.cps.toList=c0::r0:=by
    cases h:z.cps.toList with
    |nil=>have:=bC z;rw[h] at this;simp at this;omega
    |cons a b=>exact⟨a,b,rfl⟩
   refine⟨_,rfl,z,0,c0,rfl,rfl,hz,by rw[e0];exact Ep ↥_ rfl,rfl,_,rfl,?_⟩;have h48:decide (V.str ⟨#[c0]⟩=V.str "0")=decide (z.cps.toList.head?=some 48):=by
    rw[e0,decide_eq_decide];constructor
    ·intro h;have h1:=V.str.inj h;have h2:(#[c0]:Array Nat)=("0":Str).cps:=congrArg Str.cps h1;have h3:("0":Str).cps= #[48]:=⋯;rw[h3] at h2;have:c0=48:=by simpa using h2
     subst this;rfl
    ·intro h;have:c0=48:=by simpa using h
     subst this;have h3:(⟨#[48]⟩:Str)= "0":=⋯;rw[h3]
   have fin:(!(decide (z.cps.toList.head?=some 48) && !decide (z= "0")))=true->tRet (tCB (λxs H Q=> ∃ (p:Kb) (bs:List Bool),xs=[.ref p]/\SqL K H p (bs.map V.bl)/\Q (.bl (bs.all id)) H) (QG (QF ["word"] ["sign", ".0"] (iStr (QL 0)) (MY 0) QM (tOp (λx y H Q=> ∃i j,x=.str i/\y=.str j/\Q (.bl (!(J7.Str.occurrences j i 0 j.length 1).isEmpty)) H) (QL 0) (tC (.str FIG)))) QJ)) {nx:=λ_ H'=>Q .non H',rt:=Q} (Qz ["word"] [.str z]) H:=by
    intro hb;refine⟨rfl,_,rfl,z,rfl,qy (λi ys H'=>H'=H/\ys=((z.cps.toList.take i).map Nc).map V.bl) ⟨rfl,rfl⟩ ?_ ?_⟩
    ·rintro i c0 ys H' hc ⟨rfl,rfl⟩
     refine⟨rfl,rfl,yesT ?_⟩;refine⟨_,rfl,_,_,rfl,rfl,?_,rfl,?_⟩
     ·rw[GN,GN,Hr];exact jW (by rw[bC];omega)
     ·rw[bE hc,GX,GX,r6];rfl
    ·rintro ys H' ⟨rfl,rfl⟩ D hD
     refine⟨D,(z.cps.toList.take z.cps.size).map Nc,rfl,SqL.of ay,?_⟩;have ea:((z.cps.toList.take z.cps.size).map Nc).all id=z.cps.toList.all Nc:=by
      have:z.cps.size=z.cps.toList.length:=⇑_;rw[this,Hk,Je];rfl
     rw[ea];have this: ∀L,Q _ (upd H' D (.lst L)):=λL=>q _ (dj hD _);rw[yes,hb,Bool.true_and] at this;exact this _
   rw[h48];refine Nm (λc=>?_) (λc=>?_)
   ·refine⟨_,rfl,rfl,_,rfl,?_⟩;have e2:decide (V.str z=V.str "0")=decide (z= "0"):=by
     rw[decide_eq_decide];exact⟨V.str.inj,congrArg V.str⟩
    rw[e2];refine Nm (λc2=>?_) (λc2=>?_)
    ·have:=q H (Same.refl _);rw[yes,c,c2] at this;exact this
    ·exact fin (by rw[c,HX.mpr c2];rfl)
   ·exact fin (by rw[HX.mpr c];rfl)
end
end Q
namespace Q
open PySem L2 Wd
structure CF (P:J8)(w:J9)(K:Zf)(mg:Str->Option J6)(base:Ka)(CX:CXT)(k:Nat)(x:Str)(f:Kb)(fd:KY)(ps:List Str)(sp:Sp):Prop where
 ok:FnOk P w K mg base CX k f fd ps sp
 bi:Binds K fd ps []
 kp:J4 K (.ref f)=true
 mg:mg x=some (.ref f)
structure CM (P:J8)(w:J9)(K:Zf)(mg:Str->Option J6)(base:Ka)(CX:CXT)(k:Nat)(C:Kb)(m:Str)(f:Kb)(fd:KY)(ps:List Str)(sp:Sp):Prop where
 ok:FnOk P w K mg base CX k f fd ps sp
 bi:Binds K fd ps []
 me:LD K C m f
theorem vQ: ¬(("word":Str)= "place"):=⋯
noncomputable def MW (z:Str)(p:Int):List (Str×V):=O9 "place" (.int p) (O9 "word" (.str z) [])
theorem kJ (z:Str)(p:Int):MW z p=([("word",V.str z),("place",V.int p)]:List (Str×V)):=by
 show (if ("word":Str)= "place" then [(("word":Str),V.int p)] else (("word":Str),V.str z)::O9 "place" (V.int p) [])=([("word",V.str z),("place",V.int p)]:List (Str×V));rw[if_neg vQ]
 all_goals rfl
theorem iR (z:Str)(p:Int):(MW z p).lookup ("word":Str)=some (.str z):=by
 unfold MW;rw[cL,if_neg vQ,cL,if_pos rfl]
theorem dg (z:Str)(p:Int):(MW z p).lookup ("place":Str)=some (.int p):=by
 unfold MW;rw[cL,if_pos rfl]
theorem dc (z:Str)(p:Int){m:Str}(h1: ¬m= "place")(h2: ¬m= "word"):(MW z p).lookup m=none:=by
 unfold MW;rw[cL,if_neg h1,cL,if_neg h2]
 all_goals rfl
theorem qp (z:Str)(p y:Int):O9 "place" (.int y) (MW z p)=MW z y:=by
 rw[kJ,kJ];show (if ("word":Str)= "place" then _ else (("word":Str),V.str z)::(if ("place":Str)= "place" then [(("place":Str),V.int y)] else _))=([("word",V.str z),("place",V.int y)]:List (Str×V));rw[if_neg vQ,if_pos rfl]
noncomputable def SgAt (C:Kb)(H:Hp)(a:Kb)(z:Str)(p:Nat):Prop:=z.length<=sizeLine/\p<=z.length/\ ∃dx,H a=some (.ins C dx (MW z (p:Int)))
noncomputable def Moved (H H':Hp)(a:Kb):Prop:= ∀b o,b≠a->H b=some o->H' b=some o
theorem Moved.refl (H:Hp)(a:Kb):Moved H H a:=λ_ _ _ h=>h
theorem Moved.trans (x:Moved H H1 a)(y:Moved H1 H2 a):Moved H H2 a:=λb o hb h=>y b o hb (x b o hb h)
theorem Moved.same (x:Same H H1):Moved H H1 a:=λb o _ h=>x b o h
theorem iJ (o:HO):Moved H (upd H a o) a:=λb u hb h=>by rw[ai hb];exact h
theorem SgAt.same {z:Str}{p:Nat}(g:Same H H')(h:SgAt C H a z p):SgAt C H' a z p:=let ⟨h1,h2,dx,e⟩:=h;⟨h1,h2,dx,g _ _ e⟩
noncomputable def cY (z:Str)(p:Nat)(y:Str):Bool:=match z.cps.toList.drop p with
 |[]=>false
 |c::_=>decide (c∈y.cps.toList)
section
variable {P:J8}{w:J9}{K:Zf}{mg:Str->Option J6}{base:Ka}{f CS CN fD fS:Kb}{fd fdD fdS:KY}
noncomputable def sP (C:Kb):Sp:=λvs H Q _=> ∃ (a dx:Kb) (z:Str),vs=[.ref a,.str z]/\H a=some (.ins C dx [])/\z.length<=sizeLine/\ ∀H',Moved H H' a->SgAt C H' a z 0->Q .non H'
theorem zE:Lz ["self", "word"] ["self", "word"] (af rh):=⟨rfl,rfl,rfl,⋯,rfl,⋯,⋯⟩
theorem xr (F:Fun K "__init__" "Signs.__init__" rh f fd)(T:Txt K mg CS CN):FnOk P w K mg base CX0 1 f fd ["self", "word"] (sP CS):=by
 refine F.ok zE (λvs H Q E h=>?_) (λcdv A outer s H vs Q E hr h=>?_)
 ·obtain⟨a,dx,z,rfl,_⟩:=h;rfl
 obtain⟨a,dx,z,rfl,hp,hz,k⟩:=h;refine⟨_,aA (rG (pv 0) (pv 1) rfl) (aR (rG (pv 0) OZ rfl)),?_⟩;refine⟨_,rfl,_,rfl,a,CS,dx,[],rfl,hp,T.cl,T.nw,(by show 0<1000;decide),_,rfl,a,CS,dx,_,rfl,ay,T.cl,T.np,(by show 1<1000;decide),?_⟩;exact k _ ((iJ _).trans (iJ _)) ⟨hz,G8 _,dx,ay⟩
noncomputable def nK (C:Kb):Sp:=λvs H Q _=> ∃ (a:Kb) (z:Str) (p:Nat),vs=[.ref a]/\SgAt C H a z p/\Q (.bl (decide (p=z.length))) H
theorem B3:Lz ["self"] ["self"] (af rj):=⟨rfl,rfl,rfl,⋯,rfl,⋯,⋯⟩
theorem zW (F:Fun K "is_done" "Signs.is_done" rj f fd)(T:Txt K mg CS CN):FnOk P w K mg base CX0 1 f fd ["self"] (nK CS):=by
 refine F.ok B3 (λvs H Q E h=>?_) (λcdv A outer s H vs Q E hr h=>?_)
 ·obtain⟨a,z,p,rfl,_⟩:=h;rfl
 obtain⟨a,z,p,rfl,⟨hz,hp,dx,ha⟩,k⟩:=h;refine⟨_,aR (cJ (iG OG (fE (pv 0) rfl) (du Mc rfl T.len PySem.boot_len (aj (fE (pv 0) rfl) OR)) (eM _))),?_⟩;refine⟨_,rfl,a,CS,dx,_,_,rfl,ha,T.cl,T.np,dg _ _,_,rfl,a,CS,dx,_,_,rfl,ha,T.cl,T.nw,iR _ _,z,rfl,hz,rfl,?_⟩;have e:decide (V.int (p:Int)=V.int (z.length:Int))=decide (p=z.length):=by
  rw[decide_eq_decide];exact⟨λh=>by have:=V.int.inj h;omega,λh=>by rw[h]⟩
 show Q (.bl (decide (V.int (p:Int)=V.int (z.length:Int)))) H;rw[e];exact k
noncomputable def dY (C:Kb):Sp:=λvs H Q _=> ∃ (a:Kb) (z:Str) (p:Nat) (y:Str),vs=[.ref a,.str y]/\SgAt C H a z p/\Q (.bl (cY z p y)) H
theorem wB:Lz ["self", "wanted"] ["self", "wanted"] (af lm):=⟨rfl,rfl,rfl,⋯,rfl,⋯,⋯⟩
theorem Bp {z:Str}{p:Nat}(h:p<z.length): ∃c,z.cps.toList[p]?=some c/\z.cps.toList.drop p=c::z.cps.toList.drop (p+1):=by
 have hl:p<z.cps.toList.length:=by rw[bC];exact h
 exact⟨z.cps.toList[p],G0 hl,Iq hl⟩
theorem uQ (F:Fun K "stands_one_of" "Signs.stands_one_of" lm f fd)(T:Txt K mg CS CN)(M:CM P w K mg base CX0 1 CS "is_done" fD fdD ["self"] (nK CS)):FnOk P w K mg base CX0 2 f fd ["self", "wanted"] (dY CS):=by
 refine F.ok wB (λvs H Q E h=>?_) (λcdv A outer s H vs Q E hr h=>?_)
 ·obtain⟨a,z,p,y,rfl,_⟩:=h;rfl
 obtain⟨a,z,p,y,rfl,S,k⟩:=h;obtain⟨hz,hp,dx,ha⟩:=id S;refine⟨_,aR (cJ (rL (xf (eJ (pv 0) T.cl M.me M.ok hr M.bi .nil OT)) (rK (iG OI (tD oy (fE (pv 0) rfl) (fE (pv 0) rfl) (λ_ _=>rfl)) (pv 1) (by with_unfolding_all rfl))))),?_⟩;refine⟨_,rfl,a,dx,_,rfl,ha,dc _ _ ⋯ ⋯,a,z,p,rfl,S,_,rfl,_,rfl,?_⟩;by_cases hd:p=z.length
 ·rw[decide_eq_true hd];refine Nn ?_;have e:cY z p y=false:=by
   unfold cY;rw[JM (by rw[bC];omega)]
  rw[e] at k;exact k
 ·rw[decide_eq_false hd];obtain⟨c,hc,hdr⟩:=Bp (z:=z) (p:=p) ∅;refine No ⟨_,rfl,a,CS,dx,_,_,rfl,ha,T.cl,T.nw,iR _ _,_,rfl,a,CS,dx,_,_,rfl,ha,T.cl,T.np,dg _ _,z,(p:Int),c,rfl,rfl,hz,eG hc,_,rfl,_,_,rfl,rfl,?_⟩;have e:cY z p y=decide (c∈y.cps.toList):=by
   unfold cY;rw[hdr]
  rw[e] at k;rw[r6];exact k
noncomputable def jV (C:Kb):Sp:=λvs H Q _=> ∃ (a:Kb) (z:Str) (p:Nat) (c:Nat),vs=[.ref a]/\SgAt C H a z p/\z.cps.toList[p]?=some c/\ ∀H',Moved H H' a->SgAt C H' a z (p+1)->Q (.str ⟨#[c]⟩) H'
theorem P5:Lz ["self", "sign"] ["self"] (af rg):=⟨rfl,rfl,rfl,⋯,rfl,⋯,⋯⟩
theorem jD {z:Str}{p c:Nat}(h:z.cps.toList[p]?=some c):p<z.length:=by rw[<-bC];exact (G1.mp h).1
theorem zT (F:Fun K "take_sign" "Signs.take_sign" rg f fd)(T:Txt K mg CS CN):FnOk P w K mg base CX0 1 f fd ["self"] (jV CS):=by
 refine F.ok P5 (λvs H Q E h=>?_) (λcdv A outer s H vs Q E hr h=>?_)
 ·obtain⟨a,z,p,c,rfl,_⟩:=h;rfl
 obtain⟨a,z,p,c,rfl,⟨hz,hp,dx,ha⟩,hc,k⟩:=h;refine⟨_,aA (dJ (i:=1) P5.nd rfl (Or.inl rfl) (tD oy (fE (pv 0) rfl) (fE (pv 0) rfl) (λ_ _=>rfl))) (aA (jZ (pv 0) OZ oA) (aR (cJ (pv 1)))),?_⟩;refine⟨_,rfl,a,CS,dx,_,_,rfl,ha,T.cl,T.nw,iR _ _,_,rfl,a,CS,dx,_,_,rfl,ha,T.cl,T.np,dg _ _,z,(p:Int),c,rfl,rfl,hz,eG hc,?_⟩;refine⟨_,rfl,a,CS,dx,_,_,rfl,ha,T.cl,T.np,dg _ _,_,_,rfl,rfl,dx,_,ha,(by rw[kJ];show 2<1000;decide),_,rfl,?_⟩;refine k _ (iJ _) ⟨hz,jD hc,dx,?_⟩;rw[ay,qp];rfl
noncomputable def Qs (C:Kb):Sp:=λvs H Q _=> ∃ (a:Kb) (z:Str) (p:Nat) (y:Str),vs=[.ref a,.str y]/\SgAt C H a z p/\
 ∀H',Moved H H' a->SgAt C H' a z (p+((z.cps.toList.drop p).takeWhile λc=>decide (c∈y.cps.toList)).length)->Q (.str ⟨((z.cps.toList.drop p).takeWhile λc=>decide (c∈y.cps.toList)).toArray⟩) H'
theorem P4:Lz ["self", "wanted", "begin"] ["self", "wanted"] (af PR):=⟨rfl,rfl,rfl,⋯,rfl,⋯,⋯⟩
theorem CV (F:Fun K "run_of" "Signs.run_of" PR f fd)(T:Txt K mg CS CN)(M:CM P w K mg base CX0 2 CS "stands_one_of" fS fdS ["self", "wanted"] (dY CS)):FnOk P w K mg base CX0 3 f fd ["self", "wanted"] (Qs CS):=by
 refine F.ok P4 (λvs H Q E h=>?_) (λcdv A outer s H vs Q E hr h=>?_)
 ·obtain⟨a,z,p,y,rfl,_⟩:=h;rfl
 obtain⟨a,z,p,y,rfl,S,k⟩:=h;obtain⟨hz,hp,dx,ha⟩:=id S
 refine⟨_,aA (dJ (i:=2) P4.nd rfl (Or.inl rfl) (fE (pv 0) rfl))
  (aA (jt KI.never (gm (gp (pv 0) T.cl M.me M.ok hr M.bi .nil OT (aj (pv 1) OR))) (aR (jZ (pv 0) OZ oA)))
  (aR (cJ (lC Qj (fE (pv 0) rfl) (nZ (pv 2)) (nZ (fE (pv 0) rfl)))))),?_⟩
 refine⟨_,rfl,a,CS,dx,_,_,rfl,ha,T.cl,T.np,dg _ _,?_⟩
 refine⟨λm σ H'=> ∃j,σ=[some (.ref a),some (.str y),some (.int (p:Int))]/\Moved H H' a/\SgAt CS H' a z (p+j)/\m=z.length - (p+j)/\
  (z.cps.toList.drop p).takeWhile (λc=>decide (c∈y.cps.toList))=(z.cps.toList.drop p).take j++(z.cps.toList.drop (p+j)).takeWhile (λc=>decide (c∈y.cps.toList))/\j<=(z.cps.toList.drop p).length,⟨_,0,rfl,Moved.refl _ _,S,rfl,⇑_,G8 _⟩,?_⟩
 rintro m σ H' ⟨j,rfl,mv,S',rfl,tw,jl⟩
 obtain⟨hz',hp',dx',ha'⟩:=id S';refine⟨_,rfl,a,dx',_,rfl,ha',dc _ _ ⋯ ⋯,_,rfl,a,z,p+j,y,rfl,S',_,rfl,?_⟩;refine Nm (λc=>?_) (λc=>?_)
 ·have lt:p+j<z.length:=by
   rcases Nat.lt_or_ge (p+j) z.length with h|h
   ·exact h
   ·unfold cY at c;rw[JM (by rw[bC];exact h)] at c;cases c
  obtain⟨c0,hc0,hdr⟩:=Bp lt;have cw:decide (c0∈y.cps.toList)=true:=by
   unfold cY at c;rw[hdr] at c;exact c
  refine⟨_,λσ' H'' h=>h,⟨_,rfl,a,CS,dx',_,_,rfl,ha',T.cl,T.np,dg _ _,_,_,rfl,rfl,dx',_,ha',(by rw[kJ];show 2<1000;decide),?_⟩⟩;refine⟨z.length - (p+(j+1)),∅,j+1,rfl,mv.trans (iJ _),⟨hz,∅,dx',?_⟩,rfl,?_,?_⟩
  ·rw[ay,qp];show some (HO.ins CS dx' (MW z (((p+j:Nat):Int)+1)))=some (HO.ins CS dx' (MW z ((p+(j+1):Nat):Int)));have:((p+j:Nat):Int)+1=((p+(j+1):Nat):Int):=∅;rw[this]
  ·rw[tw,hdr,JN,if_pos cw];have:(z.cps.toList.drop p)[j]?=some c0:=by rw[IZ];exact hc0
   rw[bE this,Hc];rfl
  ·rw[HA,bC];omega
 ·have tn:(z.cps.toList.drop (p+j)).takeWhile (λc=>decide (c∈y.cps.toList))=[]:=by
   unfold cY at c;split at c
   ·rename_i h;rw[h];rfl
   ·rename_i c1 r1 h;rw[h,JN,if_neg c]
  rw[tn,Hn] at tw;have tl:((z.cps.toList.drop p).takeWhile λc=>decide (c∈y.cps.toList)).length=j:=by rw[tw,Hr];omega
  refine⟨_,rfl,a,CS,dx',_,_,rfl,ha',T.cl,T.nw,iR _ _,_,rfl,_,rfl,_,rfl,a,CS,dx',_,_,rfl,ha',T.cl,T.np,dg _ _,_,rfl,z,rfl,hz,?_⟩;have q:=k H' mv (by rw[tl];exact S');rw[StrLaws.sliceText_nat z (a:=p) (b:=p+j) ∅ hp',Jg,<-tw];exact q
end
end Q
namespace Q
open PySem L2 Wd
noncomputable def IsE (H:Hp):Exp->V->Prop
 |.num n,v=> ∃p,v=.ref p/\H p=some (.tup [.str "number",.int n])
 |.box x,v=> ∃p,v=.ref p/\H p=some (.tup [.str "box",.str x])
 |.bin s l r,v=> ∃p a b,v=.ref p/\H p=some (.tup [.str s,a,b])/\IsE H l a/\IsE H r b
theorem IsE.mono (g:Same H H'): ∀ {e:Exp}{v:V},IsE H e v->IsE H' e v
 |.num _,_,⟨p,e,h⟩=>⟨p,e,g _ _ h⟩
 |.box _,_,⟨p,e,h⟩=>⟨p,e,g _ _ h⟩
 |.bin _ _ _,_,⟨p,a,b,e,h,h1,h2⟩=>⟨p,a,b,e,g _ _ h,h1.mono g,h2.mono g⟩
theorem qS {H:Hp}{a p C dx:Kb}{fs:List (Str×V)}{xs:List V}(ha:H a=some (.ins C dx fs))(h:H p=some (.tup xs)):p≠a:=λz=>by rw[z,ha] at h;cases h
theorem IsE.moved {fs:List (Str×V)}(ha:H a=some (.ins C dx fs))(g:Moved H H' a): ∀ {e:Exp}{v:V},IsE H e v->IsE H' e v
 |.num _,_,⟨p,e,h⟩=>⟨p,e,g _ _ (qS ha h) h⟩
 |.box _,_,⟨p,e,h⟩=>⟨p,e,g _ _ (qS ha h) h⟩
 |.bin _ _ _,_,⟨p,x,y,e,h,h1,h2⟩=>⟨p,x,y,e,g _ _ (qS ha h) h,h1.moved ha g,h2.moved ha g⟩
noncomputable def gJ (C CN:Kb)(H:Hp)(a:Kb)(z:Str)(Q:VK)(E:XK):Option (Exp×List Nat)->Prop
 |some (e,r)=> ∀v H',Moved H H' a->SgAt C H' a z (z.length - r.length)->IsE H' e v->Q v H'
 |none=> ∀H',Moved H H' a->E (.ref CN) none H'
noncomputable def d7 (C CN:Kb)(fP:Nat->List Nat->Option (Exp×List Nat))(m:Nat):Sp:=λvs H Q E=> ∃ (a:Kb) (z:Str) (p:Nat),vs=[.ref a,.int (5 - (m:Int))]/\SgAt C H a z p/\gJ C CN H a z Q E (fP m (z.cps.toList.drop p))
noncomputable def brP:Nat->List Nat->Option (Exp×List Nat)
 |0,_=>none
 |m+1,r=>cT (fu m) r
theorem vA (m:Nat)(l:List Nat):cb m l=if l.head?=some 40 then brP m l.tail else NJ l:=by
 cases m<;>rfl
noncomputable def Qo (C CN:Kb)(m:Nat):Sp:=λvs H Q E=> ∃ (a:Kb) (z:Str) (p:Nat) (r:List Nat),vs=[.ref a,.int (6 - (m:Int))]/\m<=5/\SgAt C H a z p/\z.cps.toList.drop p=40::r/\gJ C CN H a z Q E (brP m r)
theorem ma {f:List Nat->Option (Exp×List Nat)}: ∀ {n:Nat}{l:List Nat},(∀c r,l=c::r-> ¬c∈ops)->Mj f ops n e l=some (e,l)
 |0,_,_=>rfl
 |_+1,[],_=>rfl
 |_+1,c::r,h=>by
  unfold Mj;rw[if_neg (h c r rfl)]
theorem Br:("+-":Str).cps.toList=OP:=⋯
theorem Bs:("*":Str).cps.toList=OO:=⋯
theorem EW:("(":Str).cps.toList=[40]:=⋯
theorem EV:(")":Str).cps.toList=[41]:=⋯
theorem qt {z:Str}{p:Nat}(hp:p<=z.length):z.length - (z.cps.toList.drop p).length=p:=by rw[HA,bC];omega
theorem gH {z:Str}{p c:Nat}(h:z.cps.toList.drop p=c::r):z.cps.toList[p]?=some c/\z.cps.toList.drop (p+1)=r:=by
 refine⟨?_,?_⟩
 ·have:(z.cps.toList.drop p)[0]?=some c:=by rw[h];rfl
  rw[IZ] at this;exact this
 ·have:=congrArg (List.drop 1) h;rw[List.drop_drop] at this;exact this
theorem y7 {f:List Nat->Option (Exp×List Nat)}(h:f r=none):cT f r=none:=by unfold cT;rw[h]
theorem Bc {f:List Nat->Option (Exp×List Nat)}(h:f r=some (e,41::r2)):cT f r=some (e,r2):=by unfold cT;rw[h];rfl
theorem y6 {f:List Nat->Option (Exp×List Nat)}(h:f r=some (e,r1))(h2: ¬r1.head?=some 41):cT f r=none:=by
 unfold cT;rw[h];split
 ·rename_i heq;cases heq;exact absurd rfl h2
 ·rfl
theorem jP {C:Kb}{H:Hp}{a:Kb}{z:Str}{p:Nat}(h:r<:+z.cps.toList.drop p):z.cps.toList.drop (z.length - r.length)=r:=by
 have:=(we (w:=z.cps.toList) rfl h).1;rw[bC] at this;exact this.symm
section
variable {P:J8}{w:J9}{K:Zf}{mg:Str->Option J6}{base:Ka}{f CS CN fG fS fK:Kb}{fd fdG fdS fdK:KY}
theorem P6:Lz ["signs", "depth", "e", "sign"] ["signs", "depth"] (af nN):=⟨rfl,rfl,rfl,⋯,rfl,⋯,⋯⟩
theorem pW {m k:Nat}(hk:2<=k)(F:Fun K "read_terms" "read_terms" nN f fd)(T:Txt K mg CS CN)(G:CF P w K mg base (CXx P w) k "read_factors" fG fdG ["signs", "depth"] (d7 CS CN ck m))
  (MS:CM P w K mg base CX0 2 CS "stands_one_of" fS fdS ["self", "wanted"] (dY CS))(MT:CM P w K mg base CX0 1 CS "take_sign" fK fdK ["self"] (jV CS)):FnOk P w K mg base (CXx P w) (k+1) f fd ["signs", "depth"] (d7 CS CN fu m):=by
 refine F.okX P6 (λvs H Q E h=>?_) (λcdv A outer s H vs Q E hr h=>?_)
 ·obtain⟨a,z,p,rfl,_⟩:=h;rfl
 obtain⟨a,z,p,rfl,S,k0⟩:=h
 refine⟨_,aA (dJ (i:=2) P6.nd rfl (Or.inl rfl) (dP G.ok hr rfl G.mg G.kp G.bi .nil eK (aj (pv 0) (aj (pv 1) OR))))
  (aA (jt KI.leaving (gm (gp (pv 0) T.cl MS.me MS.ok (hr.mono hk) MS.bi .nil OT (aj O3 OR)))
   (aA (dJ (i:=3) P6.nd rfl (Or.inl rfl) (eJ (pv 0) T.cl MT.me MT.ok (hr.mono ∅) MT.bi .nil OT))
   (aR (dJ (i:=2) P6.nd rfl (Or.inl rfl) (j1 (aj (pv 3) (aj (pv 2) (aj (dP G.ok hr rfl G.mg G.kp G.bi .nil eK (aj (pv 0) (aj (pv 1) OR))) OR))))))))
  (aR (cJ (pv 2)))),?_⟩
 have sufG:Suf (ck m):=ka m;refine⟨_,rfl,_,rfl,a,z,p,rfl,S,?_⟩;have k1:gJ CS CN H a z Q E (OS (ck m) OP (z.cps.toList.drop p)):=k0;unfold OS at k1;cases hG:ck m (z.cps.toList.drop p) with
 |none=>
  rw[hG] at k1;exact λH' mv=>k1 H' mv
 |some er=>
  obtain⟨e1,r1⟩:=er;rw[hG] at k1;have k1:gJ CS CN H a z Q E (Mj (ck m) OP r1.length e1 r1):=k1;intro v1 H1 mv1 S1 i1;have b1:z.cps.toList.drop (z.length - r1.length)=r1:=jP (C:=CS) (H:=H) (a:=a) (sufG _ _ _ hG);generalize hR:Mj (ck m) OP r1.length e1 r1=R at k1
  refine⟨λmm σ H'=> ∃ (v:V) (e:Exp) (p' n:Nat) (sg:Option V),σ=[some (.ref a),some (.int (5 - (m:Int))),some v,sg]/\Moved H H' a/\SgAt CS H' a z p'/\IsE H' e v/\(z.cps.toList.drop p').length<=n/\
   Mj (ck m) OP n e (z.cps.toList.drop p')=R/\mm=z.length - p',⟨_,v1,e1,z.length - r1.length,r1.length,none,rfl,mv1,S1,i1,by rw[b1];exact GO _,by rw[b1];exact hR,rfl⟩,?_⟩
  rintro mm σ H' ⟨v,e,p',n,sg,rfl,mv,S',ie,ln,ch,rfl⟩
  obtain⟨hz,hp',dx,ha⟩:=id S';refine⟨_,rfl,a,dx,_,rfl,ha,dc _ _ ⋯ ⋯,a,z,p', "+-",rfl,S',_,rfl,?_⟩;refine Nm (λc=>?_) (λc=>?_)
  ·unfold cY at c;cases hd:z.cps.toList.drop p' with
   |nil=>rw[hd] at c;cases c
   |cons c0 r0=>
    rw[hd] at c ch ln;have c0m:c0∈OP:=by rw[<-Br];exact of_decide_eq_true c
    obtain⟨n,rfl⟩: ∃n',n=n'+1:=⟨n - 1,by rw[GT] at ln;omega⟩
    obtain⟨at0,dr0⟩:=gH hd;unfold Mj at ch;rw[if_pos c0m] at ch;refine⟨_,λσ' H'' h=>h,⟨_,rfl,a,dx,_,rfl,ha,dc _ _ ⋯ ⋯,a,z,p',c0,rfl,S',at0,λH2 mv2 S2=>?_⟩⟩;obtain⟨_,hp2,dx2,ha2⟩:=id S2;refine⟨_,rfl,_,rfl,_,rfl,_,rfl,a,z,p'+1,rfl,S2,?_⟩;rw[dr0];cases hG2:ck m r0 with
    |none=>
     rw[hG2] at ch;subst ch;exact λH3 mv3=>k1 H3 (mv.trans (mv2.trans mv3))
    |some er2=>
     obtain⟨e2,r2⟩:=er2;rw[hG2] at ch;intro v2 H3 mv3 S3 i3;refine⟨Qn (by show 3<=1000;decide),λt ht=>?_⟩;have g4:=dj ht (.tup [.str ⟨#[c0]⟩,v,v2]);have suf2:r2<:+z.cps.toList.drop (p'+1):=by rw[dr0];exact sufG _ _ _ hG2
     have b2:=jP (C:=CS) (H:=H) (a:=a) suf2;have l2:r2.length<=r0.length:=(sufG _ _ _ hG2).length_le;have l0:=jD at0;have l3:r0.length=z.length - (p'+1):=by rw[<-dr0,HA,bC]
     refine⟨z.length - (z.length - r2.length),∅,.ref t,.bin ⟨#[c0]⟩ e e2,z.length - r2.length,n,_,rfl,mv.trans (mv2.trans (mv3.trans (Moved.same g4))),S3.same g4,?_,?_,?_,rfl⟩
     ·exact⟨t,v,v2,rfl,ay,((ie.moved ha mv2).moved ha2 mv3).mono g4,i3.mono g4⟩
     ·rw[b2];rw[GT] at ln;omega
     ·rw[b2];exact ch
  ·have st:Mj (ck m) OP n e (z.cps.toList.drop p')=some (e,z.cps.toList.drop p'):=ma λc0 r0 hd hm=>by
    unfold cY at c;rw[hd] at c;exact c (decide_eq_true (by rw[Br];exact hm))
   rw[st] at ch;subst ch;exact⟨_,rfl,k1 v H' mv (by rw[qt hp'];exact S') ie⟩
theorem P2:Lz ["signs", "depth", "e", "sign"] ["signs", "depth"] (af jp):=⟨rfl,rfl,rfl,⋯,rfl,⋯,⋯⟩
theorem lJ {m k:Nat}(hk:2<=k)(F:Fun K "read_factors" "read_factors" jp f fd)(T:Txt K mg CS CN)(G:CF P w K mg base (CXx P w) k "read_factor" fG fdG ["signs", "depth"] (d7 CS CN cb m))
  (MS:CM P w K mg base CX0 2 CS "stands_one_of" fS fdS ["self", "wanted"] (dY CS))(MT:CM P w K mg base CX0 1 CS "take_sign" fK fdK ["self"] (jV CS)):FnOk P w K mg base (CXx P w) (k+1) f fd ["signs", "depth"] (d7 CS CN ck m):=by
 refine F.okX P2 (λvs H Q E h=>?_) (λcdv A outer s H vs Q E hr h=>?_)
 ·obtain⟨a,z,p,rfl,_⟩:=h;rfl
 obtain⟨a,z,p,rfl,S,k0⟩:=h
 refine⟨_,aA (dJ (i:=2) P2.nd rfl (Or.inl rfl) (dP G.ok hr rfl G.mg G.kp G.bi .nil eK (aj (pv 0) (aj (pv 1) OR))))
  (aA (jt KI.leaving (gm (gp (pv 0) T.cl MS.me MS.ok (hr.mono hk) MS.bi .nil OT (aj O3 OR)))
   (aA (dJ (i:=3) P2.nd rfl (Or.inl rfl) (eJ (pv 0) T.cl MT.me MT.ok (hr.mono ∅) MT.bi .nil OT))
   (aR (dJ (i:=2) P2.nd rfl (Or.inl rfl) (j1 (aj (pv 3) (aj (pv 2) (aj (dP G.ok hr rfl G.mg G.kp G.bi .nil eK (aj (pv 0) (aj (pv 1) OR))) OR))))))))
  (aR (cJ (pv 2)))),?_⟩
 have sufG:Suf (cb m):=i5 m;refine⟨_,rfl,_,rfl,a,z,p,rfl,S,?_⟩;have k1:gJ CS CN H a z Q E (OS (cb m) OO (z.cps.toList.drop p)):=k0;unfold OS at k1;cases hG:cb m (z.cps.toList.drop p) with
 |none=>
  rw[hG] at k1;exact λH' mv=>k1 H' mv
 |some er=>
  obtain⟨e1,r1⟩:=er;rw[hG] at k1;have k1:gJ CS CN H a z Q E (Mj (cb m) OO r1.length e1 r1):=k1;intro v1 H1 mv1 S1 i1;have b1:z.cps.toList.drop (z.length - r1.length)=r1:=jP (C:=CS) (H:=H) (a:=a) (sufG _ _ _ hG);generalize hR:Mj (cb m) OO r1.length e1 r1=R at k1
  refine⟨λmm σ H'=> ∃ (v:V) (e:Exp) (p' n:Nat) (sg:Option V),σ=[some (.ref a),some (.int (5 - (m:Int))),some v,sg]/\Moved H H' a/\SgAt CS H' a z p'/\IsE H' e v/\(z.cps.toList.drop p').length<=n/\
   Mj (cb m) OO n e (z.cps.toList.drop p')=R/\mm=z.length - p',⟨_,v1,e1,z.length - r1.length,r1.length,none,rfl,mv1,S1,i1,by rw[b1];exact GO _,by rw[b1];exact hR,rfl⟩,?_⟩
  rintro mm σ H' ⟨v,e,p',n,sg,rfl,mv,S',ie,ln,ch,rfl⟩
  obtain⟨hz,hp',dx,ha⟩:=id S';refine⟨_,rfl,a,dx,_,rfl,ha,dc _ _ ⋯ ⋯,a,z,p', "*",rfl,S',_,rfl,?_⟩;refine Nm (λc=>?_) (λc=>?_)
  ·unfold cY at c;cases hd:z.cps.toList.drop p' with
   |nil=>rw[hd] at c;cases c
   |cons c0 r0=>
    rw[hd] at c ch ln;have c0m:c0∈OO:=by rw[<-Bs];exact of_decide_eq_true c
    obtain⟨n,rfl⟩: ∃n',n=n'+1:=⟨n - 1,by rw[GT] at ln;omega⟩
    obtain⟨at0,dr0⟩:=gH hd;unfold Mj at ch;rw[if_pos c0m] at ch;refine⟨_,λσ' H'' h=>h,⟨_,rfl,a,dx,_,rfl,ha,dc _ _ ⋯ ⋯,a,z,p',c0,rfl,S',at0,λH2 mv2 S2=>?_⟩⟩;obtain⟨_,hp2,dx2,ha2⟩:=id S2;refine⟨_,rfl,_,rfl,_,rfl,_,rfl,a,z,p'+1,rfl,S2,?_⟩;rw[dr0];cases hG2:cb m r0 with
    |none=>
     rw[hG2] at ch;subst ch;exact λH3 mv3=>k1 H3 (mv.trans (mv2.trans mv3))
    |some er2=>
     obtain⟨e2,r2⟩:=er2;rw[hG2] at ch;intro v2 H3 mv3 S3 i3;refine⟨Qn (by show 3<=1000;decide),λt ht=>?_⟩;have g4:=dj ht (.tup [.str ⟨#[c0]⟩,v,v2]);have suf2:r2<:+z.cps.toList.drop (p'+1):=by rw[dr0];exact sufG _ _ _ hG2
     have b2:=jP (C:=CS) (H:=H) (a:=a) suf2;have l2:r2.length<=r0.length:=(sufG _ _ _ hG2).length_le;have l0:=jD at0;have l3:r0.length=z.length - (p'+1):=by rw[<-dr0,HA,bC]
     refine⟨z.length - (z.length - r2.length),∅,.ref t,.bin ⟨#[c0]⟩ e e2,z.length - r2.length,n,_,rfl,mv.trans (mv2.trans (mv3.trans (Moved.same g4))),S3.same g4,?_,?_,?_,rfl⟩
     ·exact⟨t,v,v2,rfl,ay,((ie.moved ha mv2).moved ha2 mv3).mono g4,i3.mono g4⟩
     ·rw[b2];rw[GT] at ln;omega
     ·rw[b2];exact ch
  ·have st:Mj (cb m) OO n e (z.cps.toList.drop p')=some (e,z.cps.toList.drop p'):=ma λc0 r0 hd hm=>by
    unfold cY at c;rw[hd] at c;exact c (decide_eq_true (by rw[Bs];exact hm))
   rw[st] at ch;subst ch;exact⟨_,rfl,k1 v H' mv (by rw[qt hp'];exact S') ie⟩
theorem PZ:Lz ["signs", "depth", "e"] ["signs", "depth"] (af gZ):=⟨rfl,rfl,rfl,⋯,rfl,⋯,⋯⟩
theorem C0 (F:Fun K "read_bracket" "read_bracket" gZ f fd)(T:Txt K mg CS CN):FnOk P w K mg base (CXx P w) 1 f fd ["signs", "depth"] (Qo CS CN 0):=by
 refine F.okX PZ (λvs H Q E h=>?_) (λcdv A outer s H vs Q E hr h=>?_)
 ·obtain⟨a,z,p,r,rfl,_⟩:=h;rfl
 obtain⟨a,z,p,r,rfl,h5,S,hd,k0⟩:=h;obtain⟨t5,g5⟩:=T.n5;refine⟨_,aA (gN (dO mX (pv 1) (dm (v:=.int 5) rfl g5 ⟨_,rfl⟩) (eM _)) (aR (fV fU rfl rfl T.mgN T.exN (aj O3 OR))) O8) uJ,?_⟩;refine⟨_,rfl,_,_,rfl,rfl,_,rfl,?_⟩;refine No ⟨Qn (by show 1<=1000;decide),k0 H (Moved.refl _ _)⟩
theorem E4 {m k:Nat}(hk:2<=k)(F:Fun K "read_bracket" "read_bracket" gZ f fd)(T:Txt K mg CS CN)(G:CF P w K mg base (CXx P w) k "read_terms" fG fdG ["signs", "depth"] (d7 CS CN fu m))
  (MS:CM P w K mg base CX0 2 CS "stands_one_of" fS fdS ["self", "wanted"] (dY CS))(MT:CM P w K mg base CX0 1 CS "take_sign" fK fdK ["self"] (jV CS)):FnOk P w K mg base (CXx P w) (k+1) f fd ["signs", "depth"] (Qo CS CN (m+1)):=by
 refine F.okX PZ (λvs H Q E h=>?_) (λcdv A outer s H vs Q E hr h=>?_)
 ·obtain⟨a,z,p,r,rfl,_⟩:=h;rfl
 obtain⟨a,z,p,r,rfl,h5,S,hd,k0⟩:=h;obtain⟨t5,g5⟩:=T.n5
 refine⟨_,aA (gN (dO mX (pv 1) (dm (v:=.int 5) rfl g5 ⟨_,rfl⟩) (eM _)) (aR (fV fU rfl rfl T.mgN T.exN (aj O3 OR))) O8)
  (aA (nY (eJ (pv 0) T.cl MT.me MT.ok (hr.mono ∅) MT.bi .nil OT))
  (aA (dJ (i:=2) PZ.nd rfl (Or.inl rfl) (dP G.ok hr rfl G.mg G.kp G.bi .nil eK (aj (pv 0) (aj (pv 1) OR))))
  (aA (gN (rF (gm (gp (pv 0) T.cl MS.me MS.ok (hr.mono hk) MS.bi .nil OT (aj O3 OR)))) (aR (fV fU rfl rfl T.mgN T.exN (aj O3 OR))) O8)
  (aA (nY (eJ (pv 0) T.cl MT.me MT.ok (hr.mono ∅) MT.bi .nil OT))
  (aR (cJ (pv 2))))))),?_⟩
 obtain⟨hz,hp,dx,ha⟩:=id S;obtain⟨at0,dr0⟩:=gH hd;refine⟨_,rfl,_,_,rfl,rfl,_,rfl,?_⟩;refine Nm (λc=>?_) (λc=>?_)
 ·have c1:(6 - ((m+1:Nat):Int))>5:=of_decide_eq_true c;omega
 ·refine⟨_,rfl,a,dx,_,rfl,ha,dc _ _ ⋯ ⋯,a,z,p,40,rfl,S,at0,λH1 mv1 S1=>?_⟩;have e6:(6 - ((m+1:Nat):Int))=5 - (m:Int):=∅;refine⟨_,rfl,_,rfl,a,z,p+1,by show [V.ref a,V.int (6 - ((m+1:Nat):Int))]=_;rw[e6],S1,?_⟩;rw[dr0];have k1:gJ CS CN H a z Q E (cT (fu m) r):=k0;cases hG:fu m r with
  |none=>
   rw[y7 hG] at k1;exact λH' mv=>k1 H' (mv1.trans mv)
  |some er=>
   obtain⟨e1,r1⟩:=er;intro v2 H2 mv2 S2 i2;obtain⟨_,hp2,dx2,ha2⟩:=id S2;have suf1:r1<:+z.cps.toList.drop (p+1):=by rw[dr0];exact mL m _ _ _ hG
   have b1:=jP (C:=CS) (H:=H) (a:=a) suf1;refine⟨_,rfl,a,dx2,_,rfl,ha2,dc _ _ ⋯ ⋯,a,z,_, ")",rfl,S2,_,rfl,?_⟩;have st:cY z (z.length - r1.length) ")"=decide (r1.head?=some 41):=by
    unfold cY;rw[b1];cases r1 with
    |nil=>rfl
    |cons c0 r0=>
     show decide (c0∈(")":Str).cps.toList)=decide (some c0=some 41);rw[EV,decide_eq_decide];simp
   rw[st];by_cases h41:r1.head?=some 41
   ·rw[decide_eq_true h41];obtain⟨r2,rfl⟩: ∃r2,r1=41::r2:=by
     cases r1 with
     |nil=>cases h41
     |cons c0 r0=>have:c0=41:=by simpa using h41
                  subst this;exact⟨r0,rfl⟩
    obtain⟨at1,dr1⟩:=gH b1;refine Nn ⟨_,rfl,a,dx2,_,rfl,ha2,dc _ _ ⋯ ⋯,a,z,_,41,rfl,S2,at1,λH3 mv3 S3=>⟨_,rfl,?_⟩⟩;rw[Bc hG] at k1;have k2: ∀v H',Moved H H' a->SgAt CS H' a z (z.length - r2.length)->IsE H' e1 v->Q v H':=k1;refine k2 v2 H3 (mv1.trans (mv2.trans mv3)) ?_ (i2.moved ha2 mv3);have l1:=jD at1;have:z.length - (41::r2).length+1=z.length - r2.length:=by
     have:=suf1.length_le;rw[HA,bC,GT] at this;rw[GT];omega
    rw[this] at S3;exact S3
   ·rw[decide_eq_false h41];refine No ⟨Qn (by show 1<=1000;decide),?_⟩;rw[y6 hG h41] at k1;have k2: ∀H',Moved H H' a->E (.ref CN) none H':=k1;exact k2 H2 (mv1.trans mv2)
theorem P1:Lz ["signs", "depth", "factor"] ["signs", "depth"] (af kD):=⟨rfl,rfl,rfl,⋯,rfl,⋯,⋯⟩
theorem Et:LET.length+FIG.length<=sizeLine:=⋯
theorem pX {z:Str}(h:Ox z=true):PySem.intText? z=some (cZ z)/\z.length<=640:=by
 unfold Ox at h;simp only[Ho,decide_eq_true_eq] at h;obtain⟨⟨h1,h2⟩,_,h4⟩:=h;refine⟨?_,∅⟩;refine PySem.intText_digits (λc hc=>?_) (λe=>?_) ∅
 ·exact Nf.mp (HD.mp h4 c hc)
 ·have:=bC z;rw[e] at this;simp at this;omega
theorem mY {m k:Nat}(hk:3<=k)(hm5:m<=5)(F:Fun K "read_factor" "read_factor" kD f fd)(T:Txt K mg CS CN)(G:CF P w K mg base (CXx P w) k "read_bracket" fG fdG ["signs", "depth"] (Qo CS CN m))
  (MS:CM P w K mg base CX0 2 CS "stands_one_of" fS fdS ["self", "wanted"] (dY CS))(MR:CM P w K mg base CX0 3 CS "run_of" fR fdR ["self", "wanted"] (Qs CS))
  (FN:CF P w K mg base CX0 1 "is_name" fN fdN ["word"] kX)(FM:CF P w K mg base CX0 1 "is_number" fM fdM ["word"] Qr):FnOk P w K mg base (CXx P w) (k+1) f fd ["signs", "depth"] (d7 CS CN cb m):=by
 refine F.okX P1 (λvs H Q E h=>?_) (λcdv A outer s H vs Q E hr h=>?_)
 ·obtain⟨a,z,p,rfl,_⟩:=h;rfl
 obtain⟨a,z,p,rfl,S,k0⟩:=h;obtain⟨tL,hL⟩:=T.let_;obtain⟨tF,hF⟩:=T.fig
 refine⟨_,aA (gN (gm (gp (pv 0) T.cl MS.me MS.ok (hr.mono ∅) MS.bi .nil OT (aj O3 OR))) (aR (cJ (dP G.ok hr rfl G.mg G.kp G.bi .nil eK (aj (pv 0) (aj (pU OC (pv 1) OZ) OR))))) O8)
  (aA (dJ (i:=2) P1.nd rfl (Or.inl rfl) (gp (pv 0) T.cl MR.me MR.ok (hr.mono hk) MR.bi .nil OT (aj (pU OD (dm (v:=.str LET) rfl hL ⟨_,rfl⟩) (dm (v:=.str FIG) rfl hF ⟨_,rfl⟩)) OR)))
  (aA (gN (gm (dP FN.ok (hr.mono ∅) rfl FN.mg FN.kp FN.bi .nil OT (aj (pv 2) OR))) (aR (cJ (j1 (aj O3 (aj (pv 2) OR))))) O8)
  (aA (gN (gm (dP FM.ok (hr.mono ∅) rfl FM.mg FM.kp FM.bi .nil OT (aj (pv 2) OR))) (aR (cJ (j1 (aj O3 (aj (iH jO rfl T.int PyProof.Rows.boot_int (aj (pv 2) OR)) OR))))) O8)
  (aR (fV fU rfl rfl T.mgN T.exN (aj O3 OR)))))),?_⟩
 obtain⟨hz,hp,dx,ha⟩:=id S;refine⟨_,rfl,a,dx,_,rfl,ha,dc _ _ ⋯ ⋯,a,z,p, "(",rfl,S,_,rfl,?_⟩;rw[vA] at k0;have st:cY z p "("=decide ((z.cps.toList.drop p).head?=some 40):=by
  unfold cY;cases hd:z.cps.toList.drop p with
  |nil=>rfl
  |cons c0 r0=>
   show decide (c0∈("(":Str).cps.toList)=decide (some c0=some 40);rw[EW,decide_eq_decide];simp
 rw[st];by_cases h40:(z.cps.toList.drop p).head?=some 40
 ·rw[decide_eq_true h40];rw[if_pos h40] at k0;obtain⟨r,hd⟩: ∃r,z.cps.toList.drop p=40::r:=by
   cases hd:z.cps.toList.drop p with
   |nil=>rw[hd] at h40;cases h40
   |cons c0 r0=>rw[hd] at h40
                have:c0=40:=by simpa using h40
                subst this;exact⟨r0,rfl⟩
  rw[hd] at k0;refine No ⟨_,rfl,_,rfl,_,_,rfl,rfl,a,z,p,r,?_,hm5,S,hd,k0⟩;show [V.ref a,V.int (5 - (m:Int)+1)]=_;have:(5 - (m:Int)+1)=6 - (m:Int):=∅;rw[this]
 ·rw[decide_eq_false h40];rw[if_neg h40] at k0;refine Nn ⟨_,rfl,a,dx,_,rfl,ha,dc _ _ ⋯ ⋯,_,_,rfl,rfl,Et,a,z,p,LET++FIG,rfl,S,λH1 mv1 S1=>?_⟩;have ean:(λc=>decide (c∈(LET++FIG).cps.toList))=Nb:=rfl;rw[ean] at S1 ⊢;have fl:(⟨((z.cps.toList.drop p).takeWhile Nb).toArray⟩:Str).length<=sizeLine:=by
   show (((z.cps.toList.drop p).takeWhile Nb).toArray).size<=sizeLine;rw[G4];have:=(List.takeWhile_sublist (l:=z.cps.toList.drop p) Nb).length_le;rw[HA,bC] at this;omega
  have dw:z.length - ((z.cps.toList.drop p).dropWhile Nb).length=p+((z.cps.toList.drop p).takeWhile Nb).length:=by
   have e:=congrArg List.length (List.takeWhile_append_dropWhile (p:=Nb) (l:=z.cps.toList.drop p));rw[GQ,HA,bC] at e;omega
  unfold NJ at k0;refine⟨_,rfl,_,rfl,fl,λH2 g2=>⟨_,rfl,?_⟩⟩;refine Nm (λc=>?_) (λc=>?_)
  ·rw[if_pos c] at k0;have k1: ∀v H',Moved H H' a->SgAt CS H' a z (z.length - ((z.cps.toList.drop p).dropWhile Nb).length)->IsE H' (.box ⟨((z.cps.toList.drop p).takeWhile Nb).toArray⟩) v->Q v H':=k0;refine⟨_,rfl,Qn (by show 2<=1000;decide),λt ht=>?_⟩;refine k1 _ _ (mv1.trans ((Moved.same g2).trans (Moved.same (dj ht _)))) ?_ ⟨t,rfl,ay⟩;rw[dw];exact (S1.same g2).same (dj ht _)
  ·rw[if_neg c] at k0;refine⟨_,rfl,_,rfl,fl,λH3 g3=>⟨_,rfl,?_⟩⟩;refine Nm (λc2=>?_) (λc2=>?_)
   ·rw[if_pos c2] at k0;have k1: ∀v H',Moved H H' a->SgAt CS H' a z (z.length - ((z.cps.toList.drop p).dropWhile Nb).length)->IsE H' (.num (cZ ⟨((z.cps.toList.drop p).takeWhile Nb).toArray⟩)) v->Q v H':=k0;obtain⟨n1,n2⟩:=pX c2;refine⟨_,rfl,_,_,rfl,n1,n2,Qn (by show 2<=1000;decide),λt ht=>?_⟩;refine k1 _ _ (mv1.trans ((Moved.same g2).trans ((Moved.same g3).trans (Moved.same (dj ht _))))) ?_ ⟨t,rfl,ay⟩;rw[dw];exact ((S1.same g2).same g3).same (dj ht _)
   ·rw[if_neg c2] at k0;exact⟨Qn (by show 1<=1000;decide),k0 H3 (mv1.trans ((Moved.same g2).trans (Moved.same g3)))⟩
end
end Q
namespace Q
open PySem L2 Wd
noncomputable def Told (CN:Kb)(H:Hp)(Q:VK)(E:XK):Option Exp->Prop
 |some e=> ∀v H',Same H H'->IsE H' e v->Q v H'
 |none=> ∀H',Same H H'->E (.ref CN) none H'
noncomputable def qV (CN:Kb):Sp:=λvs H Q E=> ∃z:Str,vs=[.str z]/\z.length<=sizeLine/\Told CN H Q E (MK z)
section
variable {P:J8}{w:J9}{K:Zf}{mg:Str->Option J6}{base:Ka}{f CS CN fT fI fD:Kb}{fd fdT fdI fdD:KY}
theorem P0:Lz ["word", "signs", "e"] ["word"] (af PK):=⟨rfl,rfl,rfl,⋯,rfl,⋯,⋯⟩
theorem zV {k:Nat}(hk:2<=k)(F:Fun K "expression" "expression" PK f fd)(T:Txt K mg CS CN)(G:CF P w K mg base (CXx P w) k "read_terms" fT fdT ["signs", "depth"] (d7 CS CN fu 5))
  (M:Mk K CS fI)(GI:FnOk P w K mg base CX0 1 fI fdI ["self", "word"] (sP CS))(bI:Binds K fdI ["self", "word"] [])(MD:CM P w K mg base CX0 1 CS "is_done" fD fdD ["self"] (nK CS)):FnOk P w K mg base (CXx P w) (k+1) f fd ["word"] (qV CN):=by
 refine F.okX P0 (λvs H Q E h=>?_) (λcdv A outer s H vs Q E hr h=>?_)
 ·obtain⟨z,rfl,_⟩:=h;rfl
 obtain⟨z,rfl,hz,k0⟩:=h;obtain⟨t60,h60⟩:=T.n60
 refine⟨_,aA (gN (dO mX (du Mc rfl T.len PySem.boot_len (aj (pv 0) OR)) (dm (v:=.int 60) rfl h60 ⟨_,rfl⟩) (eM _)) (aR (fV fU rfl rfl T.mgN T.exN (aj O3 OR))) O8)
  (aA (dJ (i:=1) P0.nd rfl (Or.inl rfl) (tu M GI (hr.mono hk) rfl T.mgS bI .nil OT (aj (pv 0) OR)))
  (aA (dJ (i:=2) P0.nd rfl (Or.inl rfl) (dP G.ok hr rfl G.mg G.kp G.bi .nil eK (aj (pv 1) (aj OZ OR))))
  (aA (gN (rF (gm (eJ (pv 1) T.cl MD.me MD.ok (hr.mono ∅) MD.bi .nil OT))) (aR (fV fU rfl rfl T.mgN T.exN (aj O3 OR))) O8)
  (aR (cJ (pv 2)))))),?_⟩
 refine⟨_,rfl,z,rfl,hz,_,_,rfl,rfl,_,rfl,?_⟩;unfold MK at k0;refine Nm (λc=>?_) (λc=>?_)
 ·have c1:(z.length:Int)>60:=of_decide_eq_true c;rw[if_pos ∅] at k0;exact⟨Qn (by show 1<=1000;decide),k0 H (Same.refl _)⟩
 ·have c1: ¬(z.length:Int)>60:=of_decide_eq_false (HX.mpr c);rw[if_neg ∅] at k0;refine⟨_,rfl,λx dx nx ndx nex=>?_⟩;refine⟨x,dx,z,rfl,ay,hz,λH1 mv1 S1=>⟨rfl,?_⟩⟩;have s0: ∀ {H2:Hp},Moved H1 H2 x->Same H H2:=λ{H2} mv b o e=>mv b o (bq e nx) (mv1 b o (bq e nx) (by rw[ai (bq e nx),ai (bq e ndx)];exact e));refine⟨_,rfl,x,z,0,rfl,S1,?_⟩;rw[IF];cases hG:fu 5 z.cps.toList with
  |none=>
   rw[hG] at k0;exact λH2 mv2=>k0 H2 (s0 mv2)
  |some er=>
   obtain⟨e1,r1⟩:=er;rw[hG] at k0;intro v2 H2 mv2 S2 i2;obtain⟨_,hp2,dx2,ha2⟩:=id S2;refine⟨_,rfl,x,dx2,_,rfl,ha2,dc _ _ ⋯ ⋯,x,z,_,rfl,S2,_,rfl,?_⟩;have rl:r1.length<=z.length:=by
    have:=(mL 5 _ _ _ hG).length_le;rw[bC] at this;exact this
   cases r1 with
   |nil=>
    have k1: ∀v H',Same H H'->IsE H' e1 v->Q v H':=k0;rw[decide_eq_true (by simp:z.length - ([]:List Nat).length=z.length)];exact Nn ⟨_,rfl,k1 v2 H2 (s0 mv2) i2⟩
   |cons c0 r0=>
    have k1: ∀H',Same H H'->E (.ref CN) none H':=k0;rw[decide_eq_false (by rw[GT] at rl ⊢;omega)];exact No ⟨Qn (by show 1<=1000;decide),k1 H2 (s0 mv2)⟩
end
section
variable {P:J8}{w:J9}{K:Zf}{mg:Str->Option J6}{base:Ka}{CS CN fT fF fA fB fS fK fN fM fR:Kb}{fdT fdF fdA fdB fdS fdK fdN fdM fdR:KY}
theorem sU (T:Txt K mg CS CN)(FT:Fun K "read_terms" "read_terms" nN fT fdT)(bT:Binds K fdT ["signs", "depth"] [])(mT:mg "read_terms"=some (.ref fT))
  (FF:Fun K "read_factors" "read_factors" jp fF fdF)(bF:Binds K fdF ["signs", "depth"] [])(mF:mg "read_factors"=some (.ref fF))
  (FA:Fun K "read_factor" "read_factor" kD fA fdA)(bA:Binds K fdA ["signs", "depth"] [])(mA:mg "read_factor"=some (.ref fA))
  (FB:Fun K "read_bracket" "read_bracket" gZ fB fdB)(bB:Binds K fdB ["signs", "depth"] [])(mB:mg "read_bracket"=some (.ref fB))
  (MS:CM P w K mg base CX0 2 CS "stands_one_of" fS fdS ["self", "wanted"] (dY CS))(MT:CM P w K mg base CX0 1 CS "take_sign" fK fdK ["self"] (jV CS))(MR:CM P w K mg base CX0 3 CS "run_of" fR fdR ["self", "wanted"] (Qs CS))
  (CN':CF P w K mg base CX0 1 "is_name" fN fdN ["word"] kX)(CM':CF P w K mg base CX0 1 "is_number" fM fdM ["word"] Qr):
  ∀m,m<=5->CF P w K mg base (CXx P w) (4 * m+7) "read_terms" fT fdT ["signs", "depth"] (d7 CS CN fu m)
 |0,h=>by
  have B0:CF P w K mg base (CXx P w) 4 "read_bracket" fB fdB ["signs", "depth"] (Qo CS CN 0):=⟨(C0 FB T).mono ↥_,bB,FB.kp,mB⟩
  have A0:CF P w K mg base (CXx P w) 5 "read_factor" fA fdA ["signs", "depth"] (d7 CS CN cb 0):=⟨mY ↥_ h FA T B0 MS MR CN' CM',bA,FA.kp,mA⟩
  have F0:CF P w K mg base (CXx P w) 6 "read_factors" fF fdF ["signs", "depth"] (d7 CS CN ck 0):=⟨lJ ↥_ FF T A0 MS MT,bF,FF.kp,mF⟩
  exact⟨pW ↥_ FT T F0 MS MT,bT,FT.kp,mT⟩
 |m+1,h=>by
  have T0:=sU T FT bT mT FF bF mF FA bA mA FB bB mB MS MT MR CN' CM' m ∅;have B0:CF P w K mg base (CXx P w) (4 * m+8) "read_bracket" fB fdB ["signs", "depth"] (Qo CS CN (m+1)):=⟨E4 ∅ FB T T0 MS MT,bB,FB.kp,mB⟩
  have A0:CF P w K mg base (CXx P w) (4 * m+9) "read_factor" fA fdA ["signs", "depth"] (d7 CS CN cb (m+1)):=⟨mY ∅ h FA T B0 MS MR CN' CM',bA,FA.kp,mA⟩
  have F0:CF P w K mg base (CXx P w) (4 * m+10) "read_factors" fF fdF ["signs", "depth"] (d7 CS CN ck (m+1)):=⟨lJ ∅ FF T A0 MS MT,bF,FF.kp,mF⟩
  exact⟨pW ∅ FT T F0 MS MT,bT,FT.kp,mT⟩
end
end Q
namespace Wd
open PySem L2
section
noncomputable def NA (c:Nat):Nat:=if Nc c=true then 2 else if Nh c=true then 1 else 0
noncomputable abbrev Tk:=Nat×List Nat
noncomputable def toks:List Nat->List Tk
 |[]=>[]
 |c::r=>match toks r with
  |[]=>[(NA c,[c])]
  |(k,t)::ts=>if NA c≠0/\k=NA c then (k,c::t)::ts else (NA c,[c])::(k,t)::ts
end
section
noncomputable def mid (l:List Nat):List Nat:=l.tail.dropLast
end
section
noncomputable def MJ:Exp->W
 |.num n=>.tup [.str "number",.int n]
 |.box x=>.tup [.str "box",.str x]
 |.bin s l r=>.tup [.str s,MJ l,MJ r]
noncomputable def kK (ws:List W):M W:=match ws with
 |[.str z]=>gd (z.length<=sizeLine) (pr (.bl (aV z)))
 |_=>no
noncomputable def oI (ws:List W):M W:=match ws with
 |[.str z]=>gd (z.length<=sizeLine) (pr (.bl (Ox z)))
 |_=>no
noncomputable def io (ws:List W):M W:=match ws with
 |[.str z]=>gd (z.length<=sizeLine) (match MK z with
  |some e=>pr (MJ e)
  |none=>no)
 |_=>no
end
end Wd
namespace Q
open PySem L2 Wd
theorem rZ {K:Zf}{mu:Nat->Kb}: ∀ {e:Exp}{v:V},IsE H e v->Rv K ⟨mu,h,H⟩ (MJ e) v
 |.num n,v,q=>by
  obtain⟨p,rfl,e⟩:=q;unfold MJ Rv;exact⟨p,_,rfl,.of e,Rvs.cons (Pz.mpr rfl) (Rvs.cons (Px.mpr rfl) Rvs.nil)⟩
 |.box n,v,q=>by
  obtain⟨p,rfl,e⟩:=q;unfold MJ Rv;exact⟨p,_,rfl,.of e,Rvs.cons (Pz.mpr rfl) (Rvs.cons (Pz.mpr rfl) Rvs.nil)⟩
 |.bin s l r,v,q=>by
  obtain⟨p,a,b,rfl,e,h1,h2⟩:=q;unfold MJ Rv;exact⟨p,_,rfl,.of e,Rvs.cons (Pz.mpr rfl) (Rvs.cons (rZ h1) (Rvs.cons (rZ h2) Rvs.nil))⟩
section
variable {P:J8}{w:J9}{K:Zf}{mg:Str->Option J6}{base:Ka}{f CN:Kb}{fd:KY}{k:Nat}
theorem vH (C:CF P w K mg base CX0 1 "is_name" f fd ["word"] kX):CG P w K mg base 1 "is_name" f fd ["word"] 1 kK:=
 ⟨C.ok.imp λvs H Q E h=>by
  obtain⟨o,ws,rfl,hl,R,rv,h⟩:=h;rcases ws with _|⟨x,_|⟨_,_⟩⟩
  ·exact h.elim
  ·obtain⟨v,rfl,r⟩:=rv.one;cases x with
   |str z=>
    obtain⟨hz,h⟩:=h.gd;exact⟨z,by rw[Pz.mp r],hz,λH' g=>pk (ws:=[]) R g (Pw.mpr rfl) h⟩
   |_=>exact h.elim
  ·exact absurd hl ⇑_,C.bi,C.kp,C.mg⟩
theorem yS (C:CF P w K mg base CX0 1 "is_number" f fd ["word"] Qr):CG P w K mg base 1 "is_number" f fd ["word"] 1 oI:=
 ⟨C.ok.imp λvs H Q E h=>by
  obtain⟨o,ws,rfl,hl,R,rv,h⟩:=h;rcases ws with _|⟨x,_|⟨_,_⟩⟩
  ·exact h.elim
  ·obtain⟨v,rfl,r⟩:=rv.one;cases x with
   |str z=>
    obtain⟨hz,h⟩:=h.gd;exact⟨z,by rw[Pz.mp r],hz,λH' g=>pk (ws:=[]) R g (Pw.mpr rfl) h⟩
   |_=>exact h.elim
  ·exact absurd hl ⇑_,C.bi,C.kp,C.mg⟩
theorem Bb (C:CF P w K mg base (CXx P w) k "expression" f fd ["word"] (qV CN)):CG P w K mg base k "expression" f fd ["word"] 1 io:=
 ⟨yE C.ok λvs H Q E h=>by
  obtain⟨o,ws,rfl,hl,R,rv,h⟩:=h;rcases ws with _|⟨x,_|⟨_,_⟩⟩
  ·exact h.elim
  ·obtain⟨v,rfl,r⟩:=rv.one;cases x with
   |str z=>
    obtain⟨hz,h⟩:=h.gd;refine⟨z,by rw[Pz.mp r],hz,?_⟩;cases e:MK z with
    |none=>rw[e] at h;exact h.elim
    |some x=>
     rw[e] at h;exact λv H' g i=>Ps.at (p:=⟨o.mu,o.h,H'⟩) h rfl (Ex.same g) (R.same g) (rZ i)
   |_=>exact h.elim
  ·exact absurd hl ⇑_,C.bi,C.kp,C.mg⟩
end
end Q
namespace Q
open PySem L2 Wd
noncomputable abbrev q0:KA:=top 27
noncomputable abbrev uD:KA:=top 51
noncomputable abbrev pC:KA:=top 52
noncomputable abbrev lg:KA:=top 50
noncomputable abbrev mR:KA:=top 49
noncomputable abbrev mw:KA:=top 54
noncomputable abbrev qZ:KA:=top 56
noncomputable abbrev gK:KA:=top 55
noncomputable abbrev i9:KA:=bG (top 53) 0
noncomputable abbrev i8:KA:=bG (top 53) 1
noncomputable abbrev eA:KA:=bG (top 53) 8
noncomputable abbrev gP:KA:=bG (top 53) 3
noncomputable abbrev gO:KA:=bG (top 53) 4
noncomputable abbrev gW:KA:=bG (top 53) 5
noncomputable abbrev gQ:KA:=bG (top 53) 6
noncomputable abbrev i6:KA:=bG (top 53) 7
noncomputable abbrev lh:KA:=bG (top 53) 2
noncomputable abbrev gk:KA:=bG (top 53) 9
noncomputable abbrev B6:KA:=top 48
noncomputable abbrev zF:KA:=top 28
noncomputable abbrev jX:KA:=bG (top 31) 0
noncomputable abbrev gX:KA:=bG (top 31) 1
noncomputable abbrev gY:KA:=bG (top 31) 2
noncomputable abbrev my:KA:=bG (top 31) 3
noncomputable abbrev lj:KA:=bG (top 31) 4
noncomputable abbrev qX:KA:=top 61
noncomputable abbrev nM:KA:=top 60
noncomputable abbrev kq:KA:=top 59
noncomputable abbrev Bq:KA:=top 58
noncomputable abbrev B5:KA:=top 62
noncomputable abbrev wD:KA:=top 63
noncomputable abbrev mq:KA:=top 40
noncomputable abbrev qY:KA:=top 39
noncomputable abbrev uG:KA:=top 36
noncomputable abbrev uF:KA:=top 37
noncomputable abbrev rf:KA:=top 35
noncomputable abbrev iY:KA:=top 38
noncomputable abbrev wC:KA:=top 34
noncomputable abbrev mt:KA:=top 65
noncomputable abbrev mr:KA:=top 66
noncomputable abbrev pG:KA:=top 67
noncomputable abbrev q9:KA:=top 68
noncomputable abbrev kn:KA:=top 69
noncomputable abbrev uE:KA:=top 70
noncomputable abbrev rc:KA:=top 71
noncomputable abbrev pE:KA:=top 76
noncomputable abbrev pH:KA:=top 77
noncomputable abbrev jo:KA:=top 78
noncomputable abbrev pJ:KA:=top 79
noncomputable abbrev EG:KA:=top 80
noncomputable def cN (fr:List W->M W):Lx->M Fl:=(PU (sIf (mB (m2 eqW (m2 ixW ↥0 ⇑0) ⇑"number")) (PQ (mTl (NK N9))) PP) (PU (sIf (mB (m2 eqW (m2 ixW ↥0 ⇑0) ⇑"box")) (PQ (mTl (NK (NX (m2 ixW ↥0 ⇑1) N9)))) PP) (PQ (m2 L6 (NU (arW 1 fr) (NX (m2 ixW ↥0 ⇑1) N9)) (NU (arW 1 fr) (NX (m2 ixW ↥0 ⇑2) N9))))))
noncomputable def aX:Nat->List W->M W
 |0=>λ_=>no
 |n+1=>Pr 1 (cN (aX n))
noncomputable def iM:Lx->M Fl:=(PU (sIf (Oa (mB (NU (arW 1 kK) (NX ↥0 N9)))) PH PP) (PQ ↥0))
noncomputable def bQ:List W->M W:=Pr 1 iM
noncomputable def eV:Lx->M Fl:=(PU (sIf (Oa (mB (NU (arW 1 oI) (NX ↥0 N9)))) PH PP) (PQ (NU M9 (NX ↥0 N9))))
noncomputable def fj:List W->M W:=Pr 1 eV
noncomputable def dz:Lx->M Fl:=(PU (PV 1 (m2 ixW ↥0 ⇑2)) (PU (sIf (mOr (mB (m2 dL ↥1 (mC (.tup ((["<", "="]:List Str).map W.str))))) (mB (m2 neW (m2 ixW ↥0 ⇑5) ⇑"else"))) PH PP) (PU (PV 2 (NU (arW 1 io) (NX (m2 ixW ↥0 ⇑1) N9))) (PU (PV 3 (NU (arW 1 io) (NX (m2 ixW ↥0 ⇑3) N9))) (PQ (Oi (NX ⇑"if" (NX ↥1 (NX ↥2 (NX ↥3 (NX (NU (arW 1 bQ) (NX (m2 ixW ↥0 ⇑4) N9)) (NX (NU (arW 1 bQ) (NX (m2 ixW ↥0 ⇑6) N9)) N9))))))))))))
noncomputable def dE:List W->M W:=Pr 4 dz
noncomputable def iQ:Lx->M Fl:=(PU (PV 1 (N7 isS Qt ↥0 (NX ⇑" " N9))) (PU (PV 2 (m2 ixW ↥1 ⇑0)) (PU (PV 3 (NU NM (NX ↥1 N9))) (PU (sIf (NS (mB (m2 eqW ↥2 ⇑"box")) (mB (m2 eqW ↥3 ⇑3))) (PQ (Oi (NX ⇑"box" (NX (NU (arW 1 bQ) (NX (m2 ixW ↥1 ⇑1) N9)) (NX (NU (arW 1 fj) (NX (m2 ixW ↥1 ⇑2) N9)) N9))))) PP) (PU (sIf (NS (mB (m2 eqW ↥2 ⇑"block")) (mB (m2 eqW ↥3 ⇑2))) (PQ (Oi (NX ⇑"block" (NX (NU (arW 1 bQ) (NX (m2 ixW ↥1 ⇑1) N9)) N9)))) PP) (PU (sIf (NS (mB (m2 eqW ↥2 ⇑"put")) (mB (m2 eqW ↥3 ⇑3))) (PQ (Oi (NX ⇑"put" (NX (NU (arW 1 bQ) (NX (m2 ixW ↥1 ⇑1) N9)) (NX (NU (arW 1 io) (NX (m2 ixW ↥1 ⇑2) N9)) N9))))) PP) (PU (sIf (NS (mB (m2 eqW ↥2 ⇑"say")) (mB (m2 eqW ↥3 ⇑2))) (PQ (Oi (NX ⇑"say" (NX (NU (arW 1 io) (NX (m2 ixW ↥1 ⇑1) N9)) N9)))) PP) (PU (sIf (NS (mB (m2 eqW ↥2 ⇑"ask")) (mB (m2 eqW ↥3 ⇑2))) (PQ (Oi (NX ⇑"ask" (NX (NU (arW 1 bQ) (NX (m2 ixW ↥1 ⇑1) N9)) N9)))) PP) (PU (sIf (NS (mB (m2 eqW ↥2 ⇑"go")) (mB (m2 eqW ↥3 ⇑2))) (PQ (Oi (NX ⇑"go" (NX (NU (arW 1 bQ) (NX (m2 ixW ↥1 ⇑1) N9)) N9)))) PP) (PU (sIf (NS (mB (m2 eqW ↥2 ⇑"if")) (mB (m2 eqW ↥3 ⇑7))) (PQ (NU (arW 1 dE) (NX ↥1 N9))) PP) (PU (sIf (NS (mB (m2 eqW ↥2 ⇑"table")) (mB (br leW leW ⇑3 ↥3 (m2 L6 ⇑2 ⇑6)))) (PQ (Oi (NX ⇑"table" (NX (NU (arW 1 io) (NX (m2 ixW ↥1 ⇑1) N9)) (NX (NU jU (NX (mTl (NV [] (Og (m3 slW ↥1 (Oe ⇑2) az) Qv) (tgN 0) Ol (NU (arW 1 bQ) (NX ↥0 N9)) 2)) N9)) N9))))) PP) (PU (sIf (NS (mB (m2 eqW ↥2 ⇑"stop")) (mB (m2 eqW ↥3 ⇑1))) (PQ (Oi (NX ⇑"stop" N9))) PP) PH))))))))))))
noncomputable def iT:List W->M W:=Pr 4 iQ
noncomputable def ao:Lx->M Fl:=(PU (sIf (mB (m2 eqW (m2 ixW ↥0 ⇑0) ⇑"put")) (PQ (mTl (Mh (mTl (NK (NX (m2 ixW ↥0 ⇑1) N9))) (NU (arW 1 (aX 62)) (NX (m2 ixW ↥0 ⇑2) N9))))) PP) (PU (sIf (mB (m2 eqW (m2 ixW ↥0 ⇑0) ⇑"say")) (PQ (NU (arW 1 (aX 62)) (NX (m2 ixW ↥0 ⇑1) N9))) PP) (PU (sIf (mB (m2 eqW (m2 ixW ↥0 ⇑0) ⇑"ask")) (PQ (mTl (NK (NX (m2 ixW ↥0 ⇑1) N9)))) PP) (PU (sIf (mB (m2 eqW (m2 ixW ↥0 ⇑0) ⇑"if")) (PQ (m2 L6 (NU (arW 1 (aX 62)) (NX (m2 ixW ↥0 ⇑2) N9)) (NU (arW 1 (aX 62)) (NX (m2 ixW ↥0 ⇑3) N9)))) PP) (PU (sIf (mB (m2 eqW (m2 ixW ↥0 ⇑0) ⇑"table")) (PQ (NU (arW 1 (aX 62)) (NX (m2 ixW ↥0 ⇑1) N9))) PP) (PQ (mTl (NK N9))))))))
noncomputable def aQ:List W->M W:=Pr 1 ao
noncomputable def gw:Lx->M Fl:=(PU (sIf (mB (m2 dL ↥0 ↥1)) PH PP) (PQ (N7 Ng Qe ↥1 (NX ↥0 N9))))
noncomputable def dh:List W->M W:=Pr 2 gw
noncomputable def aP:Lx->M Fl:=(PU (sIf (mB (m2 eqW (m2 ixW ↥0 ⇑0) ⇑"go")) (PQ (Oi (NX ⇑"go" (NX (NU (arW 2 dh) (NX (m2 ixW ↥0 ⇑1) (NX ↥1 N9))) N9)))) PP) (PU (sIf (mB (m2 eqW (m2 ixW ↥0 ⇑0) ⇑"if")) (PQ (m2 L6 (m3 slW ↥0 az (Oe ⇑4)) (Oi (NX (NU (arW 2 dh) (NX (m2 ixW ↥0 ⇑4) (NX ↥1 N9))) (NX (NU (arW 2 dh) (NX (m2 ixW ↥0 ⇑5) (NX ↥1 N9))) N9))))) PP) (PU (sIf (mB (m2 eqW (m2 ixW ↥0 ⇑0) ⇑"table")) (PQ (Oi (NX ⇑"table" (NX (m2 ixW ↥0 ⇑1) (NX (NU jU (NX (mTl (NV [] (Og (m2 ixW ↥0 ⇑2) Qw) (tgN 0) Ol (NU (arW 2 dh) (NX ↥0 (NX ↥3 N9))) 2)) N9)) N9))))) PP) (PQ ↥0))))
noncomputable def bJ:List W->M W:=Pr 2 aP
noncomputable def cC:Lx->M Fl:=(PU (PL "Reading" "boxes" ↥0 (N8 (NK N9))) (PU (PL "Reading" "block_names" ↥0 (N8 (NK N9))) (PU (PL "Reading" "ended_blocks" ↥0 (N8 (NK N9))) (PL "Reading" "statements" ↥0 (N8 (NK N9))))))
noncomputable def cD:List W->M W:=Pr 1 cC
noncomputable def cB:Lx->M Fl:=(PQ (m2 gtW (NU NM (NX (m1 (MU "Reading" "block_names") ↥0) N9)) (NU NM (NX (m1 (MU "Reading" "ended_blocks") ↥0) N9))))
noncomputable def bu:List W->M W:=Pr 1 cB
noncomputable def cy:Lx->M Fl:=(PQ (mTl (NV [] (Og (m1 (MU "Reading" "boxes") ↥0) Qv) (tgT [0,1]) Ol ↥0 3)))
noncomputable def bK:List W->M W:=Pr 1 cy
noncomputable def aG:Lx->M Fl:=(sIf (mB (m2 eqW ↥1 ⇑"box")) (sIf (mB (m2 gtW (NU NM (NX (m1 (MU "Reading" "block_names") ↥0) N9)) ⇑0)) PH PP) (sIf (mB (m2 eqW ↥1 ⇑"block")) (sIf (mB (N3 "Reading" "in_block" 1 bu ↥0 N9)) PH PP) (sIf (Oa (mB (N3 "Reading" "in_block" 1 bu ↥0 N9))) PH PP)))
noncomputable def au:List W->M W:=Pr 2 aG
noncomputable def aE:Lx->M Fl:=(PU (sIf (NS (mB (m2 eqW (m2 ixW ↥1 ⇑0) ⇑"box")) (mB (m2 inW (m2 ixW ↥1 ⇑1) (N3 "Reading" "box_names" 1 bK ↥0 N9)))) PH PP) (sIf (NS (mB (m2 eqW (m2 ixW ↥1 ⇑0) ⇑"block")) (mB (m2 inW (m2 ixW ↥1 ⇑1) (m1 (MU "Reading" "block_names") ↥0)))) PH PP))
noncomputable def ar:List W->M W:=Pr 2 aE
noncomputable def aH:Lx->M Fl:=(PU (sIf (NS (mB (m2 eqW ↥1 ⇑"box")) (mB (m2 eqW (NU NM (NX (m1 (MU "Reading" "boxes") ↥0) N9)) ⇑4))) PH PP) (PU (sIf (NS (mB (m2 eqW ↥1 ⇑"block")) (mB (m2 eqW (NU NM (NX (m1 (MU "Reading" "block_names") ↥0) N9)) ⇑10))) PH PP) (sIf (NS (mB (m2 inW ↥1 (mC (.tup ((["put", "say", "ask"]:List Str).map W.str))))) (mB (m2 eqW (NU NM (NX (m1 (MU "Reading" "statements") ↥0) N9)) ⇑8))) PH PP)))
noncomputable def aB:List W->M W:=Pr 2 aH
noncomputable def bZ:Lx->M Fl:=(PU (PV 2 (N3 "Reading" "box_names" 1 bK ↥0 N9)) (PM (Og (NU (arW 1 aQ) (NX ↥1 N9)) Qv) (tgN 3) (sIf (mB (m2 dL ↥3 ↥2)) PH PP)))
noncomputable def bp:List W->M W:=Pr 4 bZ
noncomputable def aC:Lx->M Fl:=(sIf (mB (m2 eqW (m2 ixW ↥1 ⇑0) ⇑"box")) (sEx (N7 isL ba (m1 (MU "Reading" "boxes") ↥0) (NX (Oi (NX (m2 ixW ↥1 ⇑1) (NX (m2 ixW ↥1 ⇑2) N9))) N9))) (sIf (mB (m2 eqW (m2 ixW ↥1 ⇑0) ⇑"block")) (PU (sEx (N7 isL ba (m1 (MU "Reading" "block_names") ↥0) (NX (m2 ixW ↥1 ⇑1) N9))) (PL "Reading" "statements" ↥0 (N8 (NK N9)))) (sIf (mB (m2 inW (m2 ixW ↥1 ⇑0) (mC (.tup ((["put", "say", "ask"]:List Str).map W.str))))) (sEx (N7 isL ba (m1 (MU "Reading" "statements") ↥0) (NX ↥1 N9))) (sEx (N7 isL ba (m1 (MU "Reading" "ended_blocks") ↥0) (NX (Oi (NX (m2 ixW (m1 (MU "Reading" "block_names") ↥0) (m1 Ov ⇑1)) (NX (m1 M3 (m1 (MU "Reading" "statements") ↥0)) (NX ↥1 N9)))) N9))))))
noncomputable def aq:List W->M W:=Pr 2 aC
noncomputable def dA:Lx->M Fl:=(PU (sEx (N3 "Reading" "check_place" 2 au ↥0 (NX (m2 ixW ↥1 ⇑0) N9))) (PU (sEx (N3 "Reading" "check_twice" 2 ar ↥0 (NX ↥1 N9))) (PU (sEx (N3 "Reading" "check_room" 2 aB ↥0 (NX (m2 ixW ↥1 ⇑0) N9))) (PU (sEx (N3 "Reading" "check_boxes" 2 bp ↥0 (NX ↥1 N9))) (sEx (N3 "Reading" "put_down" 2 aq ↥0 (NX ↥1 N9)))))))
noncomputable def dF:List W->M W:=Pr 2 dA
noncomputable def bM:Lx->M Fl:=(PU (sIf (mOr (mB (N3 "Reading" "in_block" 1 bu ↥0 N9)) (mB (m2 eqW (NU NM (NX (m1 (MU "Reading" "block_names") ↥0) N9)) ⇑0))) PH PP) (PU (PV 1 (N8 (NK N9))) (PU (PM (Og (m1 (MU "Reading" "ended_blocks") ↥0) Qv) (tgT [2,3,4]) (sEx (N7 isL ba ↥1 (NX (Oi (NX ↥2 (NX ↥3 (NX (NU (arW 2 bJ) (NX ↥4 (NX (m1 (MU "Reading" "block_names") ↥0) N9))) N9)))) N9)))) (PQ (Oi (NX (m1 M3 (m1 (MU "Reading" "boxes") ↥0)) (NX (m1 M3 ↥1) N9)))))))
noncomputable def bN:List W->M W:=Pr 5 bM
noncomputable def oG:Lx->M Fl:=(PU (PV 1 (N7 isS Qt ↥0 (NX ⇑"\n" N9))) (PU (sIf (mB (m2 gtW (NU NM (NX ↥1 N9)) ⇑120)) PH PP) (PU (PV 2 (NZ "Reading" 1 cD N9)) (PU (PM (Og ↥1 Qv) (tgN 3) (sEx (N3 "Reading" "take" 2 dF ↥2 (NX (NU (arW 1 iT) (NX ↥3 N9)) N9)))) (PQ (N3 "Reading" "told_program" 1 bN ↥2 N9))))))
noncomputable def j8:List W->M W:=Pr 4 oG
noncomputable def eU (fr:List W->M W):Lx->M Fl:=(PU (sIf (mB (m2 eqW (m2 ixW ↥0 ⇑0) ⇑"number")) (PQ (m2 ixW ↥0 ⇑1)) PP) (PU (sIf (mB (m2 eqW (m2 ixW ↥0 ⇑0) ⇑"box")) (PQ (m2 ixW ↥1 (m2 ixW ↥0 ⇑1))) PP) (PU (PV 2 (NU (arW 2 fr) (NX (m2 ixW ↥0 ⇑1) (NX ↥1 N9)))) (PU (PV 3 (NU (arW 2 fr) (NX (m2 ixW ↥0 ⇑2) (NX ↥1 N9)))) (PU (sIf (mB (m2 eqW (m2 ixW ↥0 ⇑0) ⇑"+")) (PQ (m2 L6 ↥2 ↥3)) PP) (PU (sIf (mB (m2 eqW (m2 ixW ↥0 ⇑0) ⇑"-")) (PQ (m2 QE ↥2 ↥3)) PP) (PQ (m2 Oq ↥2 ↥3))))))))
noncomputable def cG:Nat->List W->M W
 |0=>λ_=>no
 |n+1=>Pr 4 (eU (cG n))
noncomputable def cU:Lx->M Fl:=(PU (PL "Doing" "held" ↥0 (NU Mu (NX ↥1 N9))) (PU (PL "Doing" "numbers" ↥0 (mTl (NO (NX ↥2 N9)))) (PU (PL "Doing" "taken" ↥0 ⇑0) (PL "Doing" "said" ↥0 (N8 (NK N9))))))
noncomputable def be:List W->M W:=Pr 3 cU
noncomputable def ci:Lx->M Fl:=(PQ (NT (m2 eqW (m2 ixW ↥1 ⇑0) ⇑"ask") (m2 eqW (m1 (MU "Doing" "taken") ↥0) (NU NM (NX (m1 (MU "Doing" "numbers") ↥0) N9)))))
noncomputable def aI:List W->M W:=Pr 2 ci
noncomputable def cj:Lx->M Fl:=(sIf (mB (m2 eqW (m2 ixW ↥1 ⇑0) ⇑"put")) (bg (m1 (MU "Doing" "held") ↥0) (m2 ixW ↥1 ⇑1) (m2 On (NU (arW 2 (cG 6)) (NX (m2 ixW ↥1 ⇑2) (NX (m1 (MU "Doing" "held") ↥0) N9))) ⇑1000000)) (sIf (mB (m2 eqW (m2 ixW ↥1 ⇑0) ⇑"say")) (sEx (N7 isL ba (m1 (MU "Doing" "said") ↥0) (NX (NU (arW 2 (cG 6)) (NX (m2 ixW ↥1 ⇑1) (NX (m1 (MU "Doing" "held") ↥0) N9))) N9))) (PU (bg (m1 (MU "Doing" "held") ↥0) (m2 ixW ↥1 ⇑1) (m2 On (m2 ixW (m1 (MU "Doing" "numbers") ↥0) (m1 (MU "Doing" "taken") ↥0)) ⇑1000000)) (PF "Doing" "taken" ↥0 ⇑1))))
noncomputable def aO:List W->M W:=Pr 2 cj
noncomputable def dU:Lx->M Fl:=(PU (sIf (mB (m2 eqW ↥1 ⇑"<")) (PQ (m2 ltW (NU (arW 2 (cG 6)) (NX ↥2 (NX (m1 (MU "Doing" "held") ↥0) N9))) (NU (arW 2 (cG 6)) (NX ↥3 (NX (m1 (MU "Doing" "held") ↥0) N9))))) PP) (PQ (m2 eqW (NU (arW 2 (cG 6)) (NX ↥2 (NX (m1 (MU "Doing" "held") ↥0) N9))) (NU (arW 2 (cG 6)) (NX ↥3 (NX (m1 (MU "Doing" "held") ↥0) N9))))))
noncomputable def cv:List W->M W:=Pr 4 dU
noncomputable def dB:Lx->M Fl:=(PQ (m2 On (NU (arW 2 (cG 6)) (NX ↥1 (NX (m1 (MU "Doing" "held") ↥0) N9))) ↥2))
noncomputable def cQ:List W->M W:=Pr 3 dB
noncomputable def dM:Lx->M Fl:=(PU (sIf (mB (m2 eqW (m2 ixW ↥0 ⇑0) ⇑"go")) (PQ (Oi (NX (m2 ixW ↥0 ⇑1) N9))) PP) (PU (sIf (mB (m2 eqW (m2 ixW ↥0 ⇑0) ⇑"if")) (PQ (Oi (NX (m2 ixW ↥0 ⇑4) (NX (m2 ixW ↥0 ⇑5) N9)))) PP) (PU (sIf (mB (m2 eqW (m2 ixW ↥0 ⇑0) ⇑"table")) (PQ (m2 ixW ↥0 ⇑2)) PP) (PQ (Oi N9)))))
noncomputable def cO:List W->M W:=Pr 1 dM
noncomputable def eE:Lx->M Fl:=(PU (sIf (mB (m2 eqW (m2 ixW ↥1 ⇑0) ⇑"if")) (PQ (mIf (mB (N3 "Doing" "holds" 4 cv ↥0 (NX (m2 ixW ↥1 ⇑1) (NX (m2 ixW ↥1 ⇑2) (NX (m2 ixW ↥1 ⇑3) N9))))) ⇑0 ⇑1)) PP) (PU (sIf (mB (m2 eqW (m2 ixW ↥1 ⇑0) ⇑"table")) (PQ (N3 "Doing" "chosen" 3 cQ ↥0 (NX (m2 ixW ↥1 ⇑1) (NX (NU NM (NX (m2 ixW ↥1 ⇑2) N9)) N9)))) PP) (PQ ⇑0)))
noncomputable def dC:List W->M W:=Pr 2 eE
noncomputable def db:Lx->M Fl:=(PU (PM (Og ↥1 Qv) (tgN 2) (PU (sIf (mB (N3 "Doing" "lacks_number" 2 aI ↥0 (NX ↥2 N9))) (PQ (mC (.bl false))) PP) (sEx (N3 "Doing" "do_statement" 2 aO ↥0 (NX ↥2 N9))))) (PQ (mC (.bl true))))
noncomputable def cE:List W->M W:=Pr 3 db
noncomputable def tZ:Lx->M Fl:=(PU (PV 3 (NZ "Doing" 3 be (NX (m2 ixW ↥0 ⇑0) (NX ↥1 N9)))) (PU (PV 4 (N8 (NK N9))) (PU (PV 5 ⇑0) (PU (cX (mB (m2 ltW (NU NM (NX ↥4 N9)) ↥2)) (PU (PV 6 (m2 ixW (m2 ixW ↥0 ⇑1) ↥5)) (PU (sIf (Oa (mB (NU (arW 2 cE) (NX ↥3 (NX (m2 ixW ↥6 ⇑1) N9))))) (PQ (Oi (NX (m1 (MU "Doing" "said") ↥3) (NX (Oi (NX ⇑"out" N9)) (NX ↥4 N9))))) PP) (PU (PV 7 (m2 ixW ↥6 ⇑2)) (PU (sIf (mB (m2 eqW (m2 ixW ↥7 ⇑0) ⇑"stop")) (PQ (Oi (NX (m1 (MU "Doing" "said") ↥3) (NX (Oi (NX ⇑"stop" N9)) (NX ↥4 N9))))) PP) (PU (PV 8 (NU (arW 2 dC) (NX ↥3 (NX ↥7 N9)))) (PU (PV 9 (m2 ixW (NU (arW 1 cO) (NX ↥7 N9)) ↥8)) (PU (sEx (N7 isL ba ↥4 (NX (mKt (NX ↥5 (NX ↥8 (NX ↥9 N9)))) N9))) (PV 5 ↥9)))))))) 42) (PQ (Oi (NX (m1 (MU "Doing" "said") ↥3) (NX (Oi (NX ⇑"on" N9)) (NX ↥4 N9)))))))))
noncomputable def nt:List W->M W:=Pr 10 tZ
noncomputable def oF:Lx->M Fl:=(PU (PV 1 (N8 (NK N9))) (PU (PM (Oh (NX (m2 ixW ↥0 ⇑1) N9) MB) (tgT [2,3]) (PM (Oh (NX (NU (arW 1 cO) (NX (m2 ixW ↥3 ⇑2) N9)) N9) MC) (tgT [4,5]) (sEx (N7 isL ba ↥1 (NX (mKt (NX ↥2 (NX ↥4 (NX ↥5 N9)))) N9))))) (PQ (m1 M3 ↥1))))
noncomputable def l6:List W->M W:=Pr 6 oF
noncomputable def jI:Lx->M Fl:=(PU (PV 3 rX) (PU (PM (Og (NU (arW 1 l6) (NX ↥0 N9)) Qv) (tgN 4) (bg ↥3 ↥4 ⇑0)) (PU (PM (Og ↥1 Qv) (tgN 5) (PM (Og (m2 ixW (NU (arW 3 nt) (NX ↥0 (NX ↥5 (NX ↥2 N9)))) ⇑2) Qv) (tgN 4) (PD ↥3 ↥4 ⇑1))) (PQ (mTl (lvL ↥3))))))
noncomputable def jJ:List W->M W:=Pr 6 jI
noncomputable def cq:Lx->M Fl:=(PU (sIf (mB (m2 eqW (m2 ixW ↥1 ⇑0) ⇑"jump")) (PQ (m2 ixW ↥1 ⇑1)) PP) (PU (sIf (mB (m2 eqW (m2 ixW ↥1 ⇑0) ⇑"when")) (PQ (mIf (mB (N3 "Doing" "holds" 4 cv ↥0 (NX (m2 ixW ↥1 ⇑1) (NX (m2 ixW ↥1 ⇑2) (NX (m2 ixW ↥1 ⇑3) N9))))) (m2 ixW ↥1 ⇑4) (mC .non))) PP) (PU (sIf (mB (m2 eqW (m2 ixW ↥1 ⇑0) ⇑"unless")) (PQ (mIf (mB (N3 "Doing" "holds" 4 cv ↥0 (NX (m2 ixW ↥1 ⇑1) (NX (m2 ixW ↥1 ⇑2) (NX (m2 ixW ↥1 ⇑3) N9))))) (mC .non) (m2 ixW ↥1 ⇑4))) PP) (PU (sIf (mB (m2 eqW (m2 ixW ↥1 ⇑0) ⇑"table")) (PQ (m2 ixW (m2 ixW ↥1 ⇑2) (N3 "Doing" "chosen" 3 cQ ↥0 (NX (m2 ixW ↥1 ⇑1) (NX (NU NM (NX (m2 ixW ↥1 ⇑2) N9)) N9))))) PP) (PQ (mC .non))))))
noncomputable def c8:List W->M W:=Pr 2 cq
noncomputable def gv:Lx->M Fl:=(PU (PV 4 (NZ "Doing" 3 be (NX ↥0 (NX ↥2 N9)))) (PU (PV 5 ⇑0) (PU (PV 6 ⇑0) (PU (PV 7 ⇑0) (PU (cX (mB (m2 ltW ↥7 ↥3)) (PU (PV 8 (m2 ixW ↥1 ↥6)) (PU (sIf (mB (m2 eqW (m2 ixW ↥8 ⇑0) ⇑"stop")) (PQ (Oi (NX (m1 (MU "Doing" "said") ↥4) (NX (Oi (NX ⇑"stop" N9)) (NX ↥5 N9))))) PP) (PU (sIf (mB (N3 "Doing" "lacks_number" 2 aI ↥4 (NX ↥8 N9))) (PQ (Oi (NX (m1 (MU "Doing" "said") ↥4) (NX (Oi (NX ⇑"out" N9)) (NX ↥5 N9))))) PP) (PU (sIf (mB (m2 inW (m2 ixW ↥8 ⇑0) (mC (.tup ((["put", "say", "ask"]:List Str).map W.str))))) (sEx (N3 "Doing" "do_statement" 2 aO ↥4 (NX ↥8 N9))) PP) (PU (PV 9 (NU (arW 2 c8) (NX ↥4 (NX ↥8 N9)))) (PU (sIf (mB (m2 Nj ↥9 (mC .non))) (PB 6 ⇑1) (PU (PV 6 ↥9) (PB 5 ⇑1))) (PB 7 ⇑1))))))) 402) (PQ (Oi (NX (m1 (MU "Doing" "said") ↥4) (NX (Oi (NX ⇑"on" N9)) (NX ↥5 N9))))))))))
noncomputable def gC:List W->M W:=Pr 10 gv
noncomputable def iP:Lx->M Fl:=(PQ (mIf (mB (m2 eqW ↥0 ↥1)) (mTl (NK N9)) (mTl (NK (NX (Oi (NX ⇑"jump" (NX ↥0 N9))) N9)))))
noncomputable def eI:List W->M W:=Pr 2 iP
noncomputable def iO:Lx->M Fl:=(PU (PV 2 (m3 slW ↥0 (Oe ⇑1) (Oe ⇑4))) (PU (PV 3 (m2 ixW ↥0 ⇑4)) (PU (PV 4 (m2 ixW ↥0 ⇑5)) (PU (sIf (mB (m2 eqW ↥3 ↥4)) (PQ (NU (arW 2 eI) (NX ↥3 (NX ↥1 N9)))) PP) (PU (sIf (mB (m2 eqW ↥3 ↥1)) (PQ (mTl (NK (NX (m2 L6 (m2 L6 (Oi (NX ⇑"unless" N9)) ↥2) (Oi (NX ↥4 N9))) N9)))) PP) (PQ (mTl (Mh (mTl (NK (NX (m2 L6 (m2 L6 (Oi (NX ⇑"when" N9)) ↥2) (Oi (NX ↥3 N9))) N9))) (NU (arW 2 eI) (NX ↥4 (NX ↥1 N9)))))))))))
noncomputable def iS:List W->M W:=Pr 5 iO
noncomputable def gB:Lx->M Fl:=(PU (sIf (mB (m2 eqW (m2 ixW ↥0 ⇑0) ⇑"go")) (PQ (NU (arW 2 eI) (NX (m2 ixW ↥0 ⇑1) (NX ↥1 N9)))) PP) (PU (sIf (mB (m2 eqW (m2 ixW ↥0 ⇑0) ⇑"if")) (PQ (NU (arW 2 iS) (NX ↥0 (NX ↥1 N9)))) PP) (PQ (mTl (NK (NX ↥0 N9))))))
noncomputable def gD:List W->M W:=Pr 2 gB
noncomputable def dQ:Lx->M Fl:=(PU (sIf (mB (m2 inW (m2 ixW ↥0 ⇑0) (mC (.tup ((["jump", "when", "unless"]:List Str).map W.str))))) (PQ (m2 L6 (m3 slW ↥0 az (Oe (m1 Ov ⇑1))) (Oi (NX (m2 ixW ↥1 (m2 ixW ↥0 (m1 Ov ⇑1))) N9)))) PP) (PU (sIf (mB (m2 eqW (m2 ixW ↥0 ⇑0) ⇑"table")) (PQ (Oi (NX ⇑"table" (NX (m2 ixW ↥0 ⇑1) (NX (NU jU (NX (mTl (NV [] (Og (m2 ixW ↥0 ⇑2) Qw) (tgN 0) Ol (m2 ixW ↥3 ↥0) 2)) N9)) N9))))) PP) (PQ ↥0)))
noncomputable def dW:List W->M W:=Pr 2 dQ
noncomputable def oH:Lx->M Fl:=(PU (PV 2 (N8 (NK N9))) (PU (PV 3 NY) (PU (PM (Oh (NX ↥1 (NX (m2 Mi (m3 slW ↥1 (Oe ⇑1) az) (Oi (NX (mC .non) N9))) N9)) (Qx true true)) (tgT [4,5]) (PU (PV 6 (m2 ixW (m2 ixW ↥0 ⇑1) ↥4)) (PU (bg ↥3 ↥4 (NU NM (NX ↥2 N9))) (PU (sEx (N7 isL jK ↥2 (NX (m2 ixW ↥6 ⇑1) N9))) (sEx (N7 isL jK ↥2 (NX (NU (arW 2 gD) (NX (m2 ixW ↥6 ⇑2) (NX ↥5 N9))) N9))))))) (PQ (N8 (NV [] (Og ↥2 Qv) (tgN 0) Ol (NU (arW 2 dW) (NX ↥0 (NX ↥5 N9))) 2))))))
noncomputable def l7:List W->M W:=Pr 7 oH
noncomputable def dS:Lx->M Fl:=(PU (sIf (mB (m2 ltW ↥1 (NU NM (NX ↥0 N9)))) (PQ (m2 ixW ↥0 ↥1)) PP) (PQ ⇑0))
noncomputable def bP:List W->M W:=Pr 2 dS
noncomputable def dR:Lx->M Fl:=(PU (PV 2 (N8 (NK N9))) (PU (PV 3 (NU LZ (NX ↥0 N9))) (PU (PM (Oh (NX ↥1 N9) Pm) (tgN 4) (sIf (mB (m2 geW (NU LZ (NX ↥0 N9)) (m2 O7 ⇑10 ⇑18))) (PU (sEx (N7 isL ba ↥2 (NX (m2 On ↥3 ⇑1009) N9))) (PV 3 (m2 MN ↥3 ⇑1009))) (PU (PV 5 (m2 On (m2 L6 (m2 On ↥3 ⇑2147483629) (m2 Oq (m2 Oq ⇑7919 (m2 L6 ↥4 ⇑1)) (m2 L6 ↥4 ⇑3))) ⇑2147483629)) (PU (PV 5 (m2 L6 (m2 On (m2 Oq ↥5 ↥5) ⇑2147483587) (m2 MN ↥5 ⇑7))) (sEx (N7 isL ba ↥2 (NX (m2 MN (m2 On (m2 Oq ↥5 ⇑48271) ⇑2147483647) ⇑16) N9))))))) (PQ (m1 M3 ↥2)))))
noncomputable def bz:List W->M W:=Pr 6 dR
noncomputable def eY:Lx->M Fl:=(PU (PV 1 (mTl (NK (NX ⇑"a" (NX ⇑"b" (NX ⇑"c" (NX ⇑"d" (NX ⇑"e" (NX ⇑"f" (NX ⇑"g" (NX ⇑"h" (NX ⇑"i" (NX ⇑"j" N9))))))))))))) (PU (PV 2 (mTl (NK (NX ⇑"top" (NX ⇑"t" (NX ⇑"ab" (NX ⇑"a" (NX ⇑"zed" (NX ⇑"n" (NX ⇑"nn" (NX ⇑"out" (NX ⇑"mid" (NX ⇑"x" N9))))))))))))) (PQ (m2 ixW (mTl (NK (NX ↥1 (NX ↥2 (NX (Of ↥1 (Oe (m1 Ov ⇑1))) (NX (Of ↥2 (Oe (m1 Ov ⇑1))) N9)))))) (m2 On ↥0 ⇑4)))))
noncomputable def dZ:List W->M W:=Pr 3 eY
noncomputable def gz:Lx->M Fl:=(PU (PV 1 (m2 ixW (mTl (NK (NX ⇑"n" (NX ⇑"nn" N9)))) (m2 On (m2 ixW ↥0 ⇑1) ⇑2))) (PU (PV 2 (NU QD (NX (m2 On (m2 ixW ↥0 ⇑2) ⇑4) N9))) (PU (PV 3 (mTl (NK (NX ↥2 (NX ↥1 (NX (m2 L6 (m2 L6 ↥1 ⇑"+") ↥2) (NX (m2 L6 ↥1 ⇑"-1") (NX ⇑"nn-n" (NX (m2 L6 ⇑"n*" ↥2) (NX (m2 L6 (m2 L6 ⇑"2*(" ↥1) ⇑"+1)") (NX (m2 L6 ⇑"7-" ↥1) N9))))))))))) (PQ (m2 ixW ↥3 (m2 On (m2 ixW ↥0 ⇑0) ⇑8))))))
noncomputable def cP:List W->M W:=Pr 4 gz
noncomputable def da:Lx->M Fl:=(PU (PV 1 (m2 On (m2 MN (m2 ixW ↥0 ⇑0) ⇑8) ⇑4)) (PU (sIf (mB (m2 eqW ↥1 ⇑0)) (PQ (m2 L6 ⇑"say " (NU (arW 1 cP) (NX ↥0 N9)))) PP) (PU (sIf (mB (m2 eqW ↥1 ⇑1)) (PQ (m2 L6 ⇑"ask " (m2 ixW (mTl (NK (NX ⇑"n" (NX ⇑"nn" N9)))) (m2 On (m2 ixW ↥0 ⇑2) ⇑2)))) PP) (PQ (m2 L6 (m2 L6 (m2 L6 ⇑"put " (m2 ixW (mTl (NK (NX ⇑"n" (NX ⇑"nn" N9)))) (m2 On (m2 MN (m2 ixW ↥0 ⇑2) ⇑4) ⇑2))) ⇑" ") (NU (arW 1 cP) (NX ↥0 N9)))))))
noncomputable def bH:List W->M W:=Pr 2 da
noncomputable def iN:Lx->M Fl:=(PU (PV 2 (m2 ixW ↥1 (m2 On (m2 ixW ↥0 ⇑8) (NU NM (NX ↥1 N9))))) (PU (PV 3 (m2 ixW ↥1 (m2 On (m2 ixW ↥0 ⇑9) (NU NM (NX ↥1 N9))))) (PU (PV 4 (m2 On (m2 ixW ↥0 ⇑7) ⇑8)) (PU (sIf (mB (m2 ltW ↥4 ⇑2)) (PQ (m2 L6 ⇑"go " ↥2)) PP) (PU (sIf (mB (m2 eqW ↥4 ⇑5)) (PU (PV 5 (NU (arW 1 cP) (NX (m3 slW ↥0 (Oe ⇑9) (Oe ⇑12)) N9))) (PQ (N7 isS Nv ⇑" " (NX (mTl (Mh (mTl (NK (NX ⇑"table" (NX ↥5 (NX ↥2 (NX ↥3 N9)))))) (m3 slW ↥1 az (Oe (m2 On (m2 ixW ↥0 ⇑10) ⇑3))))) N9)))) PP) (PU (sIf (mB (m2 eqW ↥4 ⇑6)) (PQ ⇑"stop") PP) (PU (PV 6 (m2 ixW (mTl (NK (NX ⇑" < " (NX ⇑" = " N9)))) (m2 On (m2 MN (m2 ixW ↥0 ⇑10) ⇑8) ⇑2))) (PU (PV 7 (m2 L6 (NU (arW 1 cP) (NX (m3 slW ↥0 (Oe ⇑9) (Oe ⇑12)) N9)) ↥6)) (PU (PV 7 (m2 L6 ↥7 (NU (arW 1 cP) (NX (m2 L6 (m3 slW ↥0 (Oe ⇑10) (Oe ⇑12)) (m3 slW ↥0 az (Oe ⇑1))) N9)))) (PU (sIf (mB (m2 eqW ↥4 ⇑7)) (PV 3 ↥2) PP) (PQ (m2 L6 (m2 L6 (m2 L6 (m2 L6 (m2 L6 ⇑"if " ↥7) ⇑" ") ↥2) ⇑" else ") ↥3))))))))))))
noncomputable def gc:List W->M W:=Pr 8 iN
noncomputable def gA:Lx->M Fl:=(PU (PV 2 (NU (arW 2 bz) (NX (NU (arW 2 bP) (NX ↥0 (NX ⇑0 N9))) (NX ⇑4 N9)))) (PU (PV 3 (m3 slW (NU (arW 1 dZ) (NX (m2 ixW ↥2 ⇑0) N9)) az (Oe (m2 L6 ⇑1 (m2 On (m2 ixW ↥2 ⇑1) ↥1))))) (PU (PV 4 (N8 (NK (NX (m2 L6 ⇑"box n " (NU QD (NX (m2 On (m2 ixW ↥2 ⇑2) ⇑3) N9))) (NX (m2 L6 ⇑"box nn " (NU QD (NX (m2 On (m2 ixW ↥2 ⇑3) ⇑4) N9))) N9))))) (PU (PM (Oh (NX (NU NM (NX ↥3 N9)) N9) Pm) (tgN 5) (PU (PV 6 (NU (arW 2 bz) (NX (NU (arW 2 bP) (NX ↥0 (NX (m2 L6 ⇑1 ↥5) N9))) (NX ⇑12 N9)))) (PU (sEx (N7 isL ba ↥4 (NX (m2 L6 ⇑"block " (m2 ixW ↥3 ↥5)) N9))) (PU (sIf (mB (m2 gtW (m2 On (m2 ixW ↥6 ⇑0) ⇑3) ⇑0)) (sEx (N7 isL ba ↥4 (NX (NU (arW 1 bH) (NX (m3 slW ↥6 (Oe ⇑1) (Oe ⇑4)) N9)) N9))) PP) (PU (sIf (mB (m2 gtW (m2 On (m2 ixW ↥6 ⇑0) ⇑3) ⇑1)) (sEx (N7 isL ba ↥4 (NX (NU (arW 1 bH) (NX (m3 slW ↥6 (Oe ⇑4) (Oe ⇑7)) N9)) N9))) PP) (sEx (N7 isL ba ↥4 (NX (NU (arW 2 gc) (NX ↥6 (NX ↥3 N9))) N9)))))))) (PQ (N7 isS Nv ⇑"\n" (NX ↥4 N9)))))))
noncomputable def eR:List W->M W:=Pr 7 gA
noncomputable def eX:Lx->M Fl:=(PU (PV 2 (Oi (NX ⇑0 N9))) (PU (PM (Oh (NX ⇑1 (NX ↥1 N9)) Pn) (tgN 3) (PU (PV 4 (m2 L6 ⇑1 (m2 On (m2 ixW ↥0 ↥3) (NU NM (NX ↥2 N9))))) (PV 2 (m2 L6 (m2 L6 (m3 Qi ↥2 az (Oe ↥4)) (Oi (NX ↥3 N9))) (m3 Qi ↥2 (Oe ↥4) az))))) (PQ ↥2)))
noncomputable def fk:List W->M W:=Pr 5 eX
noncomputable def eZ:Lx->M Fl:=(PU (PV 3 ⇑0) (PU (PM (Og ↥2 Qv) (tgK [4,5,6]) (PU (PV 7 (N7 Nl QR ↥1 (NX ↥4 N9))) (PU (PV 8 (NT (m2 ltW (m2 L6 ↥7 ⇑1) (NU NM (NX ↥1 N9))) (m2 eqW (m2 ixW ↥1 (m2 L6 ↥7 ⇑1)) ↥6))) (PV 3 (m2 L6 ↥3 (NU M9 (NX (Od (m2 eqW (m2 ixW (m2 ixW (m2 ixW (m2 ixW ↥0 ⇑1) ↥4) ⇑2) ⇑0) ⇑"table") (Oc ↥8)) N9))))))) (PQ ↥3)))
noncomputable def fm:List W->M W:=Pr 9 eZ
noncomputable def eF:Lx->M Fl:=(PU (PV 1 (N8 (NK N9))) (PU (PM (Og (m3 slW ↥0 (Oe ⇑10) (Oe ⇑16)) Qv) (tgN 2) (PU (PV 3 (NU (arW 2 bz) (NX ↥2 (NX ⇑8 N9)))) (sEx (N7 isL ba ↥1 (NX (mTl (NV [] (Oh (NX (m2 On (m2 ixW ↥3 ⇑7) ⇑8) N9) Pm) (tgN 0) Ol (m2 On (m2 ixW ↥5 ↥0) ⇑5) 2)) N9))))) (PQ (m1 M3 ↥1))))
noncomputable def dD:List W->M W:=Pr 4 eF
noncomputable def fg:Lx->M Fl:=(PU (PX (tgT [4,5,6]) (NU (arW 3 nt) (NX ↥0 (NX (mTl (NO (NX ↥3 N9))) (NX ⇑40 N9))))) (PU (PV 7 (NU (arW 4 gC) (NX (m2 ixW ↥0 ⇑0) (NX ↥2 (NX (mTl (NO (NX ↥3 N9))) (NX ⇑400 N9)))))) (PU (sIf (mB (m2 eqW ↥5 (Oi (NX ⇑"on" N9)))) (PU (PV 8 (m3 slW (m2 ixW ↥7 ⇑0) az (Oe (NU NM (NX ↥4 N9))))) (PQ (NT (m2 eqW ↥8 (m3 slW ↥4 az (Oe (NU NM (NX ↥8 N9))))) (Od (m2 neW (m2 ixW ↥7 ⇑1) (Oi (NX ⇑"on" N9))) (m2 geW (NU NM (NX (m2 ixW ↥7 ⇑0) N9)) (NU NM (NX ↥4 N9))))))) PP) (PQ (m2 eqW ↥7 (Oi (NX ↥4 (NX ↥5 (NX (NU (arW 3 fm) (NX ↥0 (NX ↥1 (NX ↥6 N9)))) N9)))))))))
noncomputable def fq:List W->M W:=Pr 9 fg
noncomputable def t4:Lx->M Fl:=(PU (PV 1 (NU (arW 1 j8) (NX (NU (arW 2 eR) (NX ↥0 (NX ⇑7 N9))) N9))) (PU (PV 2 (NU (arW 1 dD) (NX ↥0 N9))) (PU (PV 3 (NU (arW 1 l6) (NX ↥1 N9))) (PU (PV 4 (N8 (Op (mTl (NK (NX ⇑0 N9))) (NU NM (NX ↥3 N9))))) (PU (PM (Og ↥2 Qv) (tgN 5) (PM (Og (m2 ixW (NU (arW 3 nt) (NX ↥1 (NX ↥5 (NX ⇑40 N9)))) ⇑2) Qv) (tgN 6) (bg ↥4 (N7 Ng NN ↥3 (NX ↥6 N9)) (m2 L6 (m2 ixW ↥4 (N7 Ng NN ↥3 (NX ↥6 N9))) ⇑1)))) (PU (sIf (mB (m2 neW (NU (arW 3 jJ) (NX ↥1 (NX ↥2 (NX ⇑40 N9)))) ↥4)) (PQ (mC (.bl false))) PP) (PU (PM (Og (mTl (NK (NX ⇑8 (NX ⇑9 N9)))) Qv) (tgN 7) (PU (PV 8 (NU (arW 2 fk) (NX (NU (arW 2 bz) (NX (NU (arW 2 bP) (NX ↥0 (NX ↥7 N9))) (NX ⇑8 N9))) (NX (NU NM (NX (m2 ixW ↥1 ⇑1) N9)) N9)))) (PU (PV 9 (NU (arW 2 l7) (NX ↥1 (NX ↥8 N9)))) (PU (PM (Og ↥2 Qv) (tgN 5) (sIf (Oa (mB (NU (arW 4 fq) (NX ↥1 (NX ↥8 (NX ↥9 (NX ↥5 N9))))))) (PQ (mC (.bl false))) PP)) (sIf (mB (m2 neW (NU (arW 2 l7) (NX ↥1 (NX ↥8 N9))) ↥9)) (PQ (mC (.bl false))) PP))))) (PQ (NT (m2 eqW ↥2 (NU (arW 1 dD) (NX ↥0 N9))) (m2 eqW ↥1 (NU (arW 1 j8) (NX (NU (arW 2 eR) (NX ↥0 (NX ⇑7 N9))) N9))))))))))))
noncomputable def qq:List W->M W:=Pr 10 t4
end Q
namespace Q
open PySem L2
local macro_rules | `(tactic| simp! only [$xs,*]) => do { let l ← ("MP bj bW bV bS cR cS PM N3 av PB PF PL QT PQ PV PP sEx PX bg mB L2.m2 L2.m1 L2.m3 Oj mC NU NX N9 Oi mTl N8 NK NO Oe az NS mOr Oa NT Od Oc mIf br N7 isS Og Oh Qv Qw tgN tgT P9 Ol aU bd_no asB_bl addW_int subW_int ltW_int leW_int gtW_int geW_int eqW_int eqW_str neW_int neW_str neW_bl slW_tl slW_cl lenW_tl lenW_tup Ov List.set_cons_zero List.set_cons_succ List.getElem?_cons_zero Ih GT IA arW if_true if_false Bool.false_eq_true ite_true ite_false reduceIte decide_true decide_false Bool.not_true Bool.not_false gdn0 gdn1 gdn2 gdn3 gdn4 gdn6 gdn8 gdn10".splitOn " ").toArray.mapM λs => `(Lean.Parser.Tactic.simpLemma| $(Lean.mkIdent s.toName):term); let y : Lean.TSyntaxArray [`Lean.Parser.Tactic.simpStar, `Lean.Parser.Tactic.simpErase, `Lean.Parser.Tactic.simpLemma] := l.map (⟨·.raw⟩) ++ xs.getElems; `(tactic| try simp only [$[$y],*]) }
local macro_rules | `(tactic| simp! [$xs,*]) => `(tactic| simp! only [ae,$xs,*])
local macro_rules | `(tactic| simp!) => `(tactic| simp! only [ae])
section
theorem sz {n:Nat}(h:n<=100000):n<=sizeLine:=Hf h ↥_
theorem oq (l:List W):NQ (.tl l)=pr l:=rfl
theorem iE (l:List W):Qv (.tl l)=pr ⟨l,λ_=>True⟩:=rfl
theorem jT (l:List W):jU [.tl l]=pr (.tup l):=rfl
theorem oY (a b:List W)(h:a.length+b.length<=sizeLine):L6 (.tl a) (.tl b)=pr (.tl (a++b)):=by
 show gd (a.length+b.length<=sizeLine) (pr (W.tl (a++b)))=_;exact ah h
theorem cp18:Ln 10 18:=⟨↥_,↥_,↥_⟩
theorem tN (l:List W):NM [.cl l]=pr (.int l.length):=rfl
noncomputable def Pd:Nat->W->Prop
 |0,_=>False
 |n+1,w=>(∃i,w=.int i)\/(∃z,w=.str z/\Le.strOk z=true)\/ ∃l,(w=.tup l\/w=.tl l)/\l.length<=1000/\ ∀x∈l,Pd n x
theorem Pd.mono: ∀ {n:Nat}{w:W},Pd n w->Pd (n+1) w
 |n+1,w,p=>by
  rcases p with p|p|⟨l,e,z,p⟩
  ·exact .inl p
  ·exact .inr (.inl p)
  ·exact .inr (.inr ⟨l,e,z,λx hx=>(p x hx).mono⟩)
theorem Pd.up {n m:Nat}{w:W}(p:Pd n w)(h:n<=m):Pd m w:=by
 induction m with
 |zero=>
  have:n=0:=∅;subst this;exact p
 |succ m ih=>
  by_cases e:n=m+1
  ·subst e;exact p
  ·exact (ih ∅).mono
theorem Pd.int {n:Nat}{i:Int}:Pd (n+1) (.int i):=.inl ⟨i,rfl⟩
theorem Pd.str {n:Nat}{i:Str}(h:Le.strOk i=true):Pd (n+1) (.str i):=.inr (.inl ⟨i,rfl,h⟩)
theorem Pd.tup {n:Nat}(z:l.length<=1000)(p:∀x∈l,Pd n x):Pd (n+1) (.tup l):=.inr (.inr ⟨l,.inl rfl,z,p⟩)
theorem Pd.lst {n:Nat}(z:l.length<=1000)(p:∀x∈l,Pd n x):Pd (n+1) (.tl l):=.inr (.inr ⟨l,.inr rfl,z,p⟩)
theorem OU {a:Str}{i:Int}{n:Nat}(h:Le.strOk a=true):Pd (n+2) (.tup [.str a,.int i]):=.tup ⇑_ λx hx=>by
 rcases GR.mp hx with rfl|hx
 ·exact .str h
 ·rw[Hh.mp hx];exact .int
theorem pd2s {a b:Str}{n:Nat}(h:Le.strOk a=true)(h2:Le.strOk b=true):Pd (n+2) (.tup [.str a,.str b]):=.tup ⇑_ λx hx=>by
 rcases GR.mp hx with rfl|hx
 ·exact .str h
 ·rw[Hh.mp hx];exact .str h2
theorem pdT {n:Nat}(z:l.length<=1000)(h:∀x∈l,Pd n x):Pd (n+1) (.tup l):=.tup z h
theorem aK {n:Nat}{w:W}(h:Pd n w)(r:∀x∈l,Pd n x): ∀x∈w::l,Pd n x:=λx hx=>by
 rcases GR.mp hx with rfl|hx
 ·exact h
 ·exact r x hx
theorem fH {n:Nat}: ∀x∈([]:List W),Pd n x:=λx hx=>absurd hx Hj
theorem lI {n:Nat}: ∀ (l:List W),(∀x∈l,∃d,Mv h n x=some d/\d.canLay0=true)-> ∃ds,OQ (Mv h n) l=some ds/\Le.canLayAll0 ds=true
 |[],_=>⟨[],rfl,by rw[Le.canLayAll0]⟩
 |x::l,q=>by
  obtain⟨d,e,c⟩:=q x GY;obtain⟨ds,es,cs⟩:=lI l λy hy=>q y (G9 _ hy);refine⟨d::ds,?_,?_⟩
  ·simp only[OQ,e,es]
  ·rw[Le.canLayAll0,c,cs];rfl
theorem Pd.data : ∀ {n:Nat}{w:W},Pd n w-> ∃d,Mv h n w=some d/\d.canLay0=true
 |n+1,w,p=>by
  rcases p with⟨i,rfl⟩|⟨z,rfl,hz⟩|⟨l,e,_,p⟩
  ·exact⟨.int i,rfl,by rw[Le.canLay0]⟩
  ·exact⟨.str z,rfl,by rw[Le.canLay0];exact hz⟩
  ·obtain⟨ds,es,cs⟩:=lI (h:=h) l λx hx=>(p x hx).data;rcases e with rfl|rfl
   ·exact⟨.tuple ds,by show (OQ (Mv h n) l).map Le.tuple=_;rw[es];rfl,by rw[Le.canLay0];exact cs⟩
   ·exact⟨.list ds,by show (OQ (Mv h n) l).map Le.list=_;rw[es];rfl,by rw[Le.canLay0];exact cs⟩
inductive E17
 |go (t:Int)
 |iff (s:Str)(a b:W)(x y:Int)
 |table (e:W)(ts:List Int)
 |stop
noncomputable def E17.w:E17->W
 |.go t=>.tup [.str "go",.int t]
 |.iff s a b x y=>.tup [.str "if",.str s,a,b,.int x,.int y]
 |.table e ts=>.tup [.str "table",e,.tup (ts.map W.int)]
 |.stop=>.tup [.str "stop"]
theorem C1:Le.strOk "box"=true:=⋯
theorem uR:Le.strOk "number"=true:=⋯
end
section
open Wd
theorem sO:(" ":Str)=⟨#[32]⟩:=⋯
theorem xz:("\n":Str)=⟨#[10]⟩:=⋯
structure Cln (z:Str):Prop where
 sp:32 ∉ z.cps.toList
 nl:10 ∉ z.cps.toList
 len:z.length<=60
noncomputable def Ml (z:Str):Bool:=decide (32 ∉ z.cps.toList) && (decide (10 ∉ z.cps.toList) && decide (z.length<=60))
theorem Cln.of {z:Str}(h:Ml z=true):Cln z:=by
 unfold Ml at h;simp only[Ho,decide_eq_true_eq] at h;exact⟨h.1,h.2.1,h.2.2⟩
theorem cA {z:Str}(h:aV z=true):Cln z:=by
 unfold aV at h;simp only[Ho,decide_eq_true_eq,HD] at h;have q: ∀c∈z.cps.toList,97<=c:=λc hc=>(Ni.mp (h.2.1 c hc)).1;exact⟨λz=>absurd (q _ z) ↥_,λz=>absurd (q _ z) ↥_,∅⟩
theorem tJ {z:Str}(h:Ox z=true):Cln z:=by
 unfold Ox at h;simp only[Ho,decide_eq_true_eq,HD] at h;have q: ∀c∈z.cps.toList,48<=c:=λc hc=>(Nf.mp (h.2.2 c hc)).1;exact⟨λz=>absurd (q _ z) ↥_,λz=>absurd (q _ z) ↥_,∅⟩
noncomputable def MH:Exp->List Str
 |.num _=>[]
 |.box x=>[x]
 |.bin _ l r=>MH l++MH r
noncomputable def MI:Exp->Bool
 |.num i=>decide (0<=i/\i<1000)
 |.box _=>true
 |.bin s l r=>decide (s∈(["+", "-", "*"]:List Str)) && (MI l && MI r)
noncomputable def MG:Exp->Nat
 |.num _=>0
 |.box _=>0
 |.bin _ l r=>1+max (MG l) (MG r)
structure Wrd (z:Str)(e:Exp):Prop where
 ex:MK z=some e
 c:Cln z
 ok:MI e=true
 dp:MG e<=60
 nm:(MH e).length<=60
theorem Qb:(decide (("+":Str)= "number")=false/\decide (("+":Str)= "box")=false)/\(decide (("-":Str)= "number")=false/\decide (("-":Str)= "box")=false)/\decide (("*":Str)= "number")=false/\decide (("*":Str)= "box")=false:=⋯
theorem C3:decide (("box":Str)= "number")=false:=⋯
theorem B1 {s:Str}(h:s∈(["+", "-", "*"]:List Str)):decide (s= "number")=false/\decide (s= "box")=false:=by
 simp only[GR,Hj,or_false] at h;rcases h with rfl|rfl|rfl
 ·exact Qb.1
 ·exact Qb.2.1
 ·exact Qb.2.2
theorem lK: ∀ (n:Nat) (e:Exp),MG e<n->(MH e).length<=1000->MI e=true->aX n [MJ e]=pr (.tl ((MH e).map W.str))
 |0,e,h,_,_=>absurd h (Nat.not_lt_zero _)
 |n+1,.num i,_,_,_=>by
  have e0:aX (n+1) [MJ (.num i)]=bd (cN (aX n) [some (.tup [.str "number",.int i])]) MP:=rfl;rw[e0];unfold cN;simp![ix0];rfl
 |n+1,.box x,_,_,_=>by
  have e0:aX (n+1) [MJ (.box x)]=bd (cN (aX n) [some (.tup [.str "box",.str x])]) MP:=rfl;rw[e0];unfold cN;simp![ix0,ix1,C3];rfl
 |n+1,.bin s l r,h,z,k=>by
  have h:1+max (MG l) (MG r)<n+1:=h;have z:(MH l++MH r).length<=1000:=z;have k:(decide (s∈(["+", "-", "*"]:List Str)) && (MI l && MI r))=true:=k;rw[GQ] at z;rw[Ho,Ho,decide_eq_true_eq] at k;have e0:aX (n+1) [MJ (.bin s l r)]=bd (cN (aX n) [some (.tup [.str s,MJ l,MJ r])]) MP:=rfl;rw[e0];unfold cN;have h1:=lK n l ∅ ∅ k.2.1;have h2:=lK n r ∅ ∅ k.2.2;have sn:=B1 k.1;have ad:=oY ((MH l).map W.str) ((MH r).map W.str) (by rw[GN,GN];exact sz ∅);simp![ix0,ix1,ix2,sn.1,sn.2,h1,h2,ad];show pr _=pr (W.tl ((MH l++MH r).map W.str));rw[GX]
inductive Rr
 |box (nm v:Str)
 |block (nm:Str)
 |put (nm z:Str)(e:Exp)
 |say (z:Str)(e:Exp)
 |ask (nm:Str)
 |go (nm:Str)
 |iff (s z1:Str)(e1:Exp)(z2:Str)(e2:Exp)(x y:Str)
 |table (z:Str)(e:Exp)(xs:List Str)
 |stop
noncomputable def Rr.ws:Rr->List Str
 |.box nm v=>["box",nm,v]
 |.block nm=>["block",nm]
 |.put nm z _=>["put",nm,z]
 |.say z _=>["say",z]
 |.ask nm=>["ask",nm]
 |.go nm=>["go",nm]
 |.iff s z1 _ z2 _ x y=>["if",z1,s,z2,x, "else",y]
 |.table z _ xs=> "table"::z::xs
 |.stop=>["stop"]
noncomputable def Rr.tx (r:Rr):Str:=Str.join ⟨#[32]⟩ r.ws
noncomputable def Rr.form:Rr->W
 |.box nm v=>.tup [.str "box",.str nm,.int (cZ v)]
 |.block nm=>.tup [.str "block",.str nm]
 |.put nm _ e=>.tup [.str "put",.str nm,MJ e]
 |.say _ e=>.tup [.str "say",MJ e]
 |.ask nm=>.tup [.str "ask",.str nm]
 |.go nm=>.tup [.str "go",.str nm]
 |.iff s _ e1 _ e2 x y=>.tup [.str "if",.str s,MJ e1,MJ e2,.str x,.str y]
 |.table _ e xs=>.tup [.str "table",MJ e,.tup (xs.map W.str)]
 |.stop=>.tup [.str "stop"]
noncomputable def Rr.Ok:Rr->Prop
 |.box nm v=>aV nm=true/\Ox v=true
 |.block nm=>aV nm=true
 |.put nm z e=>aV nm=true/\Wrd z e
 |.say z e=>Wrd z e
 |.ask nm=>aV nm=true
 |.go nm=>aV nm=true
 |.iff s z1 e1 z2 e2 x y=>(s= "<"\/s= "=")/\Wrd z1 e1/\Wrd z2 e2/\aV x=true/\aV y=true
 |.table z e xs=>Wrd z e/\xs≠ []/\xs.length<=6/\ ∀x∈xs,aV x=true
 |.stop=>True
theorem FS:Cln "box"/\Cln "block"/\Cln "put"/\Cln "say"/\Cln "ask"/\Cln "go"/\Cln "if"/\Cln "else"/\Cln "table"/\Cln "stop"/\Cln "<"/\Cln "=":=⟨.of ⋯,.of ⋯,.of ⋯,.of ⋯,.of ⋯,.of ⋯,.of ⋯,.of ⋯,.of ⋯,.of ⋯,.of ⋯,.of ⋯⟩
theorem ft: ∀z∈([]:List Str),Cln z:=λz h=>absurd h Hj
theorem aM {z:Str}{l:List Str}(h:Cln z)(t:∀z∈l,Cln z): ∀y∈z::l,Cln y:=λy hy=>by
 rcases GR.mp hy with rfl|hy
 ·exact h
 ·exact t y hy
theorem Rr.Ok.cln {r:Rr}(g:r.Ok):(∀z∈r.ws,Cln z)/\r.ws≠ []/\r.ws.length<=8:=by
 obtain⟨k1,k2,k3,k4,k5,k6,k7,k8,k9,k10,k11,k12⟩:=FS;cases r with
 |box nm v=>exact⟨aM k1 (aM (cA g.1) (aM (tJ g.2) ft)),by simp [ws],by simp [ws]⟩
 |block nm=>exact⟨aM k2 (aM (cA g) ft),by simp [ws],by simp [ws]⟩
 |put nm z e=>exact⟨aM k3 (aM (cA g.1) (aM g.2.c ft)),by simp [ws],by simp [ws]⟩
 |say z e=>exact⟨aM k4 (aM g.c ft),by simp [ws],by simp [ws]⟩
 |ask nm=>exact⟨aM k5 (aM (cA g) ft),by simp [ws],by simp [ws]⟩
 |go nm=>exact⟨aM k6 (aM (cA g) ft),by simp [ws],by simp [ws]⟩
 |iff s z1 e1 z2 e2 x y=>
  have hs:Cln s:=by rcases g.1 with rfl|rfl;exact k11;exact k12
  exact⟨aM k7 (aM g.2.1.c (aM hs (aM g.2.2.1.c (aM (cA g.2.2.2.1) (aM k8 (aM (cA g.2.2.2.2) ft)))))),by simp [ws],by simp [ws]⟩
 |table z e xs=>exact⟨aM k9 (aM g.1.c λx hx=>cA (g.2.2.2 x hx)),by simp [ws],by have:=g.2.2.1;simp [ws];omega⟩
 |stop=>exact⟨aM k10 ft,by simp [ws],by simp [ws]⟩
theorem tU {c:Nat}{n:Nat}: ∀ {l:List Str},(∀z∈l,z.length<=n)->(Str.join ⟨#[c]⟩ l).length<=(n+1) * l.length:=λ{l} h=>by
 refine Hf (StrLaws.join_length_le _ l) ?_;have:(l.map (·.length)).sum<=n * l.length:=by
  induction l with
  |nil=>simp
  |cons z l ih=>
   have a:=h z GY;have b:=ih λz hz=>h z (G9 _ hz);rw[GV,Ip,GT,Jh];omega
 rw[Nat.add_mul,show (⟨#[c]⟩:Str).length=1 from rfl,Nat.mul_one,Nat.one_mul];omega
theorem Rr.Ok.len {r:Rr}(g:r.Ok):r.tx.length<=600:=by
 have a:=tU (c:=32) (n:=60) λz hz=>(g.cln.1 z hz).len;have b:=g.cln.2.2;unfold Rr.tx;omega
theorem zw {r:Rr}(g:r.Ok):Qt (.str r.tx) [.str " "]=pr (.tl (r.ws.map W.str)):=by
 rw[sO];exact pj g.cln.2.1 (λz hz=>(g.cln.1 z hz).sp) (sz (by have:=g.len;unfold Rr.tx at this;omega)) (sz (by have:=g.cln.2.2;omega))
theorem AK {l:List Str}(h:∀z∈l,10 ∉ z.cps.toList):10 ∉ (Str.join ⟨#[32]⟩ l).cps.toList:=by
 induction l with
 |nil=>exact λz=>by cases z
 |cons x l ih=>
  cases l with
  |nil=>exact h x GY
  |cons y l=>
   rw[fZ,HM,GR,not_or,not_or];exact⟨h x GY,↥_,ih λz hz=>h z (G9 _ hz)⟩
theorem Rr.Ok.nl {r:Rr}(g:r.Ok):10 ∉ r.tx.cps.toList:=AK λz hz=>(g.cln.1 z hz).nl
theorem vg {z:Str}(h:aV z=true):kK [.str z]=pr (.bl true):=by
 show gd (z.length<=sizeLine) (pr (W.bl (aV z)))=_;rw[ah (sz (by have:=(cA h).len;omega)),h]
theorem yn {z:Str}(h:Ox z=true):oI [.str z]=pr (.bl true):=by
 show gd (z.length<=sizeLine) (pr (W.bl (Ox z)))=_;rw[ah (sz (by have:=(tJ h).len;omega)),h]
theorem jL {z:Str}(h:Wrd z e):io [.str z]=pr (MJ e):=by
 show gd (z.length<=sizeLine) (match MK z with
  |some e=>pr (MJ e)
  |none=>no)=_
 rw[ah (sz (by have:=h.c.len;omega)),h.ex]
theorem cK {z:Str}(h:aV z=true):bQ [.str z]=pr (.str z):=by
 have e0:bQ [.str z]=bd (iM [some (.str z)]) MP:=rfl;rw[e0];unfold iM;simp![vg h]
theorem AO {z:Str}(h:Ox z=true):M9 [.str z]=pr (.int (cZ z)):=by
 have a:=pX h
 show (match PySem.intText? z with
  |some n=>gd (z.length<=640) (pr (W.int n))
  |none=>no)=_
 rw[a.1];exact ah a.2
theorem om {z:Str}(h:Ox z=true):fj [.str z]=pr (.int (cZ z)):=by
 have e0:fj [.str z]=bd (eV [some (.str z)]) MP:=rfl;rw[e0];unfold eV;simp![yn h,AO h]
theorem tx0 (a:W)(l:List W):ixW (.tl (a::l)) (.int 0)=pr a:=cp (bf ↥_ rfl)
theorem tx1 (a b:W)(l:List W):ixW (.tl (a::b::l)) (.int 1)=pr b:=cp (bf ↥_ rfl)
theorem tx2 (a b c:W)(l:List W):ixW (.tl (a::b::c::l)) (.int 2)=pr c:=cp (bf ↥_ rfl)
theorem tx3 (a b c d:W)(l:List W):ixW (.tl (a::b::c::d::l)) (.int 3)=pr d:=cp (bf ↥_ rfl)
theorem tx4 (a b c d e:W)(l:List W):ixW (.tl (a::b::c::d::e::l)) (.int 4)=pr e:=cp (bf ↥_ rfl)
theorem tx5 (a b c d e f:W)(l:List W):ixW (.tl (a::b::c::d::e::f::l)) (.int 5)=pr f:=cp (bf ↥_ rfl)
theorem tx6 (a b c d e f g:W)(l:List W):ixW (.tl (a::b::c::d::e::f::g::l)) (.int 6)=pr g:=cp (bf ↥_ rfl)
theorem tW {x:Str}{ss:List Str}:inB (.str x) (.tup (ss.map W.str)) h=some (decide (x∈ss)):=by
 show (match vOf (.str x),QY (ss.map W.str) with
  |some v,some vs=>some (inV v vs)
  |_,_=>none)=_
 rw[dX (k:=V.str) (λa=>rfl)];show some (inV (.str x) (ss.map V.str))=_;rw[f9]
theorem j7 {x:Str}{ss:List Str}:inW (.str x) (.tup (ss.map W.str))=pr (.bl (decide (x∈ss))):=by
 funext h;unfold inW;rw[tW];rfl
theorem uT {x:Str}{ss:List Str}:dL (.str x) (.tup (ss.map W.str))=pr (.bl (!decide (x∈ss))):=by
 funext h;unfold dL;rw[tW];rfl
theorem xy {s:Str}(h:s= "<"\/s= "="):dL (.str s) (.tup ((["<", "="]:List Str).map W.str))=pr (.bl false):=by
 rw[uT,decide_eq_true (by simpa using h)];rfl
theorem hds:(decide (("box":Str)= "block")=false/\decide (("box":Str)= "put")=false/\decide (("box":Str)= "say")=false/\decide (("box":Str)= "ask")=false/\decide (("box":Str)= "go")=false/\decide (("box":Str)= "if")=false/\decide (("box":Str)= "table")=false/\decide (("box":Str)= "stop")=false)/\(decide (("block":Str)= "box")=false/\decide (("block":Str)= "put")=false/\decide (("block":Str)= "say")=false/\decide (("block":Str)= "ask")=false/\decide (("block":Str)= "go")=false/\decide (("block":Str)= "if")=false/\decide (("block":Str)= "table")=false/\decide (("block":Str)= "stop")=false)/\(decide (("put":Str)= "box")=false/\decide (("put":Str)= "block")=false/\decide (("put":Str)= "say")=false/\decide (("put":Str)= "ask")=false/\decide (("put":Str)= "go")=false/\decide (("put":Str)= "if")=false/\decide (("put":Str)= "table")=false/\decide (("put":Str)= "stop")=false)/\(decide (("say":Str)= "box")=false/\decide (("say":Str)= "block")=false/\decide (("say":Str)= "put")=false/\decide (("say":Str)= "ask")=false/\decide (("say":Str)= "go")=false/\decide (("say":Str)= "if")=false/\decide (("say":Str)= "table")=false/\decide (("say":Str)= "stop")=false)/\(decide (("ask":Str)= "box")=false/\decide (("ask":Str)= "block")=false/\decide (("ask":Str)= "put")=false/\decide (("ask":Str)= "say")=false/\decide (("ask":Str)= "go")=false/\decide (("ask":Str)= "if")=false/\decide (("ask":Str)= "table")=false/\decide (("ask":Str)= "stop")=false)/\(decide (("go":Str)= "box")=false/\decide (("go":Str)= "block")=false/\decide (("go":Str)= "put")=false/\decide (("go":Str)= "say")=false/\decide (("go":Str)= "ask")=false/\decide (("go":Str)= "if")=false/\decide (("go":Str)= "table")=false/\decide (("go":Str)= "stop")=false)/\(decide (("if":Str)= "box")=false/\decide (("if":Str)= "block")=false/\decide (("if":Str)= "put")=false/\decide (("if":Str)= "say")=false/\decide (("if":Str)= "ask")=false/\decide (("if":Str)= "go")=false/\decide (("if":Str)= "table")=false/\decide (("if":Str)= "stop")=false)/\(decide (("table":Str)= "box")=false/\decide (("table":Str)= "block")=false/\decide (("table":Str)= "put")=false/\decide (("table":Str)= "say")=false/\decide (("table":Str)= "ask")=false/\decide (("table":Str)= "go")=false/\decide (("table":Str)= "if")=false/\decide (("table":Str)= "stop")=false)/\(decide (("stop":Str)= "box")=false/\decide (("stop":Str)= "block")=false/\decide (("stop":Str)= "put")=false/\decide (("stop":Str)= "say")=false/\decide (("stop":Str)= "ask")=false/\decide (("stop":Str)= "go")=false/\decide (("stop":Str)= "if")=false/\decide (("stop":Str)= "table")=false):=⟨⋯,⋯,⋯,⋯,⋯,⋯,⋯,⋯,⋯⟩
theorem ki:(decide (((0+1:Nat):Int)=1)=true/\decide (((0+1:Nat):Int)=2)=false/\decide (((0+1:Nat):Int)=3)=false)/\(decide (((0+1+1:Nat):Int)=2)=true/\decide (((0+1+1:Nat):Int)=3)=false)/\decide (((0+1+1+1:Nat):Int)=3)=true/\decide (((0+1+1+1+1+1+1+1:Nat):Int)=7)=true:=↥_
theorem Ba {s z1 z2 x y:Str}(g:(Rr.iff s z1 e1 z2 e2 x y).Ok):dE [.tl ((Rr.iff s z1 e1 z2 e2 x y).ws.map W.str)]=pr (Rr.iff s z1 e1 z2 e2 x y).form:=by
 obtain⟨g1,g2,g3,g4,g5⟩:=g;have e0:dE [.tl ((Rr.iff s z1 e1 z2 e2 x y).ws.map W.str)]=bd (dz [some (.tl [.str "if",.str z1,.str s,.str z2,.str x,.str "else",.str y]),none,none,none]) MP:=rfl;rw[e0];unfold dz;simp![tx1,tx2,tx3,tx4,tx5,tx6,xy g1,jL g2,jL g3,cK g4,cK g5];rfl
theorem rP {xs:List Str}(h:∀x∈xs,aV x=true):Mn (λ_=>True) (tgN 0) Ol (NU (arW 1 bQ) (NX ↥0 N9)) 2 (xs.map W.str) ρ=pr (xs.map W.str):=by
 have:=qA (t:=tgN 0) (f:=Ol) (e:=NU (arW 1 bQ) (NX ↥0 N9)) (n:=2) (ρ:=ρ) (b:=λ_=>true) (v:=id) (l:=xs.map W.str) λw hw=>by
  obtain⟨x,hx,rfl⟩:=G6.mp hw;refine⟨_,rfl,rfl,λ_=>?_⟩;simp! only[List.replicate,HE,HB,ae,cK (h x hx),id]
 rw[this,List.map_id,List.filter_eq_self.mpr λ_ _=>rfl]
theorem AV {r:Rr}(g:r.Ok):iT [.str r.tx]=pr r.form:=by
 have e0:iT [.str r.tx]=bd (iQ [some (.str r.tx),none,none,none]) MP:=rfl;rw[e0];unfold iQ;have sp:=zw g;cases r with
 |box nm v=>
  generalize (Rr.box nm v).tx=T at *;simp![sp,Rr.ws,GV,Ht,tx0,tx1,tx2,cK g.1,om g.2,eq_self,decide_true,ki];rfl
 |block nm=>
  generalize (Rr.block nm).tx=T at *;simp![sp,Rr.ws,GV,Ht,tx0,tx1,tx2,hds,cK g,eq_self,decide_true,ki];rfl
 |put nm z e=>
  generalize (Rr.put nm z e).tx=T at *;simp![sp,Rr.ws,GV,Ht,tx0,tx1,tx2,hds,cK g.1,jL g.2,eq_self,decide_true,ki];rfl
 |say z e=>
  generalize (Rr.say z e).tx=T at *;simp![sp,Rr.ws,GV,Ht,tx0,tx1,tx2,hds,jL g,eq_self,decide_true,ki];rfl
 |ask nm=>
  generalize (Rr.ask nm).tx=T at *;simp![sp,Rr.ws,GV,Ht,tx0,tx1,tx2,hds,cK g,eq_self,decide_true,ki];rfl
 |go nm=>
  generalize (Rr.go nm).tx=T at *;simp![sp,Rr.ws,GV,Ht,tx0,tx1,tx2,hds,cK g,eq_self,decide_true,ki];rfl
 |iff s z1 e1 z2 e2 x y=>
  have ce:=Ba g;generalize (Rr.iff s z1 e1 z2 e2 x y).tx=T at *;generalize (Rr.iff s z1 e1 z2 e2 x y).form=F at *;simp only[Rr.ws,GV,Ht] at sp ce;simp![sp,tx0,tx1,tx2,hds,eq_self,decide_true,ki,ce]
 |table z e xs=>
  obtain⟨g1,g2,g3,g4⟩:=g;generalize (Rr.table z e xs).tx=T at *;simp only[Rr.ws,GV] at sp;have cu:Ms (W.str "table"::W.str z::xs.map W.str) (some 2) none=xs.map W.str:=by
   unfold Ms;show List.take _ (xs.map W.str)=_;rw[JP];show _<=(xs.map W.str).length+1+1 - 2;omega
  have l0:0<xs.length:=JR.mpr g2;have gl: ∀ {α:Type} (q:M α),gd ((xs.map W.str).length<=sizeLine) q=q:=λq=>ah (by rw[GN];exact sz ∅);have c1:decide ((3:Int)<=(((xs.map W.str).length+1+1:Nat):Int))=true:=decide_eq_true (by rw[GN];omega);have c2:decide ((((xs.map W.str).length+1+1:Nat):Int)<=2+6)=true:=decide_eq_true (by rw[GN];omega);have nc: ∀ρ,_:=λρ=>rP (ρ:=ρ) g4;simp![sp,tx0,tx1,hds,eq_self,decide_true,c1,c2,jL g1,cu,av,iE,gl,nc,jT];rfl
 |stop=>
  generalize Rr.stop.tx=T at *;simp![sp,Rr.ws,GV,Ht,tx0,hds,eq_self,decide_true,ki];rfl
end
section
open Wd
noncomputable def MV:List Str:=["boxes", "block_names", "ended_blocks", "statements"]
theorem fne:(((("block_names":Str)= "boxes")=False)/\((("ended_blocks":Str)= "boxes")=False)/\((("statements":Str)= "boxes")=False)/\((("ended_blocks":Str)= "block_names")=False)/\((("statements":Str)= "block_names")=False)/\((("statements":Str)= "ended_blocks")=False))/\(((("boxes":Str)= "statements")=False)/\((("block_names":Str)= "statements")=False)/\((("ended_blocks":Str)= "statements")=False))/\((("boxes":Str)= "block_names")=False)/\((("boxes":Str)= "ended_blocks")=False)/\((("block_names":Str)= "ended_blocks")=False):=
 ⟨⟨eq_false ⋯,eq_false ⋯,eq_false ⋯,eq_false ⋯,eq_false ⋯,eq_false ⋯⟩,⟨eq_false ⋯,eq_false ⋯,eq_false ⋯⟩,eq_false ⋯,eq_false ⋯,eq_false ⋯⟩
theorem AB (a b c d:W):NP MV [a,b,c,d] "boxes"=some a:=by simp only[MV,NP,if_true]
theorem qf (a b c d:W):NP MV [a,b,c,d] "block_names"=some b:=by simp only[MV,NP,fne,if_true,if_false]
theorem DP (a b c d:W):NP MV [a,b,c,d] "ended_blocks"=some c:=by simp only[MV,NP,fne,if_true,if_false]
theorem DO (a b c d:W):NP MV [a,b,c,d] "statements"=some d:=by simp only[MV,NP,fne,if_true,if_false]
theorem Gp (a b c d y:W):Pc MV [a,b,c,d] "statements" y=(MV,[a,b,c,y]):=by simp only[MV,Pc,fne,if_true,if_false]
theorem Oo:("in_block":Str) ∉ MV/\("box_names":Str) ∉ MV/\("check_place":Str) ∉ MV/\("check_twice":Str) ∉ MV/\("check_room":Str) ∉ MV/\("check_boxes":Str) ∉ MV/\("put_down":Str) ∉ MV/\("take":Str) ∉ MV/\("told_program":Str) ∉ MV:=⋯
structure RS where
 bx:List (Str×Int)
 nm:List Str
 dn:List (Str×List W×Rr)
 st:List W
noncomputable def bqW (b:Str×Int):W:=.tup [.str b.1,.int b.2]
noncomputable def dnW (b:Str×List W×Rr):W:=.tup [.str b.1,.tl b.2.1,b.2.2.form]
structure LO (h:List Ob)(o jb jn je js:Nat)(s:RS):Prop where
 ob:h[o]?=some (.ins "Reading" MV [.loc jb,.loc jn,.loc je,.loc js])
 b:h[jb]?=some (.lst (s.bx.map bqW))
 n:h[jn]?=some (.lst (s.nm.map W.str))
 e:h[je]?=some (.lst (s.dn.map dnW))
 st:s.dn.length<s.nm.length->h[js]?=some (.lst s.st)
 ne:o<jb/\jb<jn/\jn<je/\je<js
 z:s.bx.length<=4/\s.nm.length<=10/\s.dn.length<=s.nm.length/\s.st.length<=8/\s.nm.length<=s.dn.length+1
section
variable {h:List Ob}{o jb jn je js:Nat}{s:RS}
theorem lW (A:LO h o jb jn je js s):Ok (bu [.loc o]) h λw h'=>w=.bl (decide (s.dn.length<s.nm.length))/\h'=h:=by
 have e0:bu [.loc o]=bd (cB [some (.loc o)]) MP:=rfl;rw[e0];unfold cB;simp!;refine aJ A.ob (qf ..) ?_;simp!;refine (Lw.len (.inr ⟨jn,rfl,A.n⟩)) ?_;simp!;refine aJ A.ob (DP ..) ?_;simp!;refine (Lw.len (.inr ⟨je,rfl,A.e⟩)) ?_;simp!;refine ag ⟨?_,rfl⟩;rw[GN,GN];congr 1;rw[decide_eq_decide];omega
theorem nB (A:LO h o jb jn je js s):Ok (bK [.loc o]) h λw h'=>w=.tl ((s.bx.map (·.1)).map W.str)/\h'=h:=by
 have e0:bK [.loc o]=bd (cy [some (.loc o)]) MP:=rfl;rw[e0];unfold cy;simp!;refine aJ A.ob (AB ..) ?_;refine og A.b ?_;have gl: ∀ {α:Type} (q:M α),gd ((s.bx.map bqW).length<=sizeLine) q=q:=λq=>ah (by rw[GN];exact sz (by have:=A.z.1;omega));simp![gl];refine jA (I:=λi a h'=>h'=h/\a=((s.bx.take i).map (·.1)).map W.str) ⟨rfl,rfl⟩ kN (λ_ _ _ I=>by rw[I.1];exact A.b) (λi w a h' hw I=>?_) λa h' I=>?_
 ·obtain⟨rfl,rfl⟩:=I;rw[GW] at hw;obtain⟨b,hb,rfl⟩:=Hd.mp hw;refine⟨_,rfl,?_⟩;simp! only[List.replicate,HE,HB,ae];refine ag ⟨rfl,?_⟩;rw[Ij,hb,GX,GX];rfl
 ·obtain⟨rfl,rfl⟩:=I;rw[GN,Hk];simp!;exact ag ⟨rfl,rfl⟩
theorem Ch (A:LO h o jb jn je js s)(p:s.nm=[]):Ok (au [.loc o,.str "box"]) h λ_ h'=>h'=h:=by
 have e0:au [.loc o,.str "box"]=bd (aG [some (.loc o),some (.str "box")]) MP:=rfl;rw[e0];unfold aG;simp!;refine aJ A.ob (qf ..) ?_;simp!;refine (Lw.len (.inr ⟨jn,rfl,A.n⟩)) ?_;have:decide ((0:Int)<(((s.nm.map W.str).length:Nat):Int))=false:=by rw[p];rfl
 simp![this];exact ag rfl
theorem wZ (A:LO h o jb jn je js s)(p:s.dn.length=s.nm.length):Ok (au [.loc o,.str "block"]) h λ_ h'=>h'=h:=by
 have e0:au [.loc o,.str "block"]=bd (aG [some (.loc o),some (.str "block")]) MP:=rfl;rw[e0];unfold aG;simp![hds];refine cn A.ob Oo.1 ?_;simp!;refine aD (lW A) λw h' qq_=>?_;obtain⟨ew,eh⟩:=qq_;subst ew eh;simp![decide_eq_false (show¬s.dn.length<s.nm.length by omega)];exact ag rfl
theorem EI {z:Str}(A:LO h o jb jn je js s)(n1:decide (z= "box")=false)(n2:decide (z= "block")=false)(p:s.dn.length<s.nm.length):Ok (au [.loc o,.str z]) h λ_ h'=>h'=h:=by
 have e0:au [.loc o,.str z]=bd (aG [some (.loc o),some (.str z)]) MP:=rfl;rw[e0];unfold aG;simp![n1,n2];refine cn A.ob Oo.1 ?_;simp!;refine aD (lW A) λw h' qq_=>?_;obtain⟨ew,eh⟩:=qq_;subst ew eh;simp![decide_eq_true p];exact ag rfl
theorem BL {nm:Str}{w:W}(A:LO h o jb jn je js s)(p:nm ∉ s.bx.map (·.1)):Ok (ar [.loc o,.tup [.str "box",.str nm,w]]) h λ_ h'=>h'=h:=by
 have e0:ar [.loc o,.tup [.str "box",.str nm,w]]=bd (aE [some (.loc o),some (.tup [.str "box",.str nm,w])]) MP:=rfl;rw[e0];unfold aE;simp![ix0,ix1];refine cn A.ob Oo.2.1 ?_;simp!;refine aD (nB A) λw h' qq_=>?_;obtain⟨ew,eh⟩:=qq_;subst ew eh;simp![AS,decide_eq_false p,hds];exact ag rfl
theorem vV {nm:Str}(A:LO h o jb jn je js s)(p:nm ∉ s.nm):Ok (ar [.loc o,.tup [.str "block",.str nm]]) h λ_ h'=>h'=h:=by
 have e0:ar [.loc o,.tup [.str "block",.str nm]]=bd (aE [some (.loc o),some (.tup [.str "block",.str nm])]) MP:=rfl;rw[e0];unfold aE;simp![ix0,ix1,hds];refine aJ A.ob (qf ..) ?_;simp!;refine E1 A.n ?_;simp![decide_eq_false p];exact ag rfl
theorem EA {z:Str}(n1:decide (z= "box")=false)(n2:decide (z= "block")=false):Ok (ar [.loc o,.tup (.str z::l)]) h λ_ h'=>h'=h:=by
 have e0:ar [.loc o,.tup (.str z::l)]=bd (aE [some (.loc o),some (.tup (.str z::l))]) MP:=rfl;rw[e0];unfold aE;simp![ix0,n1,n2];exact ag rfl
theorem QA:decide (("box":Str)∈(["put", "say", "ask"]:List Str))=false/\decide (("block":Str)∈(["put", "say", "ask"]:List Str))=false:=⋯
theorem B8 (A:LO h o jb jn je js s)(p:s.bx.length<4):Ok (aB [.loc o,.str "box"]) h λ_ h'=>h'=h:=by
 have e0:aB [.loc o,.str "box"]=bd (aH [some (.loc o),some (.str "box")]) MP:=rfl;rw[e0];unfold aH;simp!;refine aJ A.ob (AB ..) ?_;simp!;refine (Lw.len (.inr ⟨jb,rfl,A.b⟩)) ?_;have:decide ((((s.bx.map bqW).length:Nat):Int)=4)=false:=decide_eq_false (by rw[GN];omega);simp![this,hds,j7,QA.1];exact ag rfl
theorem wK (A:LO h o jb jn je js s)(p:s.nm.length<10):Ok (aB [.loc o,.str "block"]) h λ_ h'=>h'=h:=by
 have e0:aB [.loc o,.str "block"]=bd (aH [some (.loc o),some (.str "block")]) MP:=rfl;rw[e0];unfold aH;simp![hds];refine aJ A.ob (qf ..) ?_;simp!;refine (Lw.len (.inr ⟨jn,rfl,A.n⟩)) ?_;have:decide ((((s.nm.map W.str).length:Nat):Int)=10)=false:=decide_eq_false (by rw[GN];omega);simp![this,hds,j7,QA.2];exact ag rfl
theorem EH {z:Str}(A:LO h o jb jn je js s)(n1:decide (z= "box")=false)(n2:decide (z= "block")=false)(p:s.dn.length<s.nm.length)(q:z∈(["put", "say", "ask"]:List Str)->s.st.length<8):Ok (aB [.loc o,.str z]) h λ_ h'=>h'=h:=by
 have e0:aB [.loc o,.str z]=bd (aH [some (.loc o),some (.str z)]) MP:=rfl;rw[e0];unfold aH;by_cases c:z∈(["put", "say", "ask"]:List Str)
 ·simp![n1,n2,j7,decide_eq_true c];refine aJ A.ob (DO ..) ?_;simp!;refine (Lw.len (.inr ⟨js,rfl,A.st p⟩)) ?_;have q:=q c;have:decide (((s.st.length:Nat):Int)=8)=false:=decide_eq_false ∅;simp![this];exact ag rfl
 ·simp![n1,n2,j7,decide_eq_false c];exact ag rfl
noncomputable def Rr.bxs:Rr->List Str
 |.put nm _ e=>nm::MH e
 |.say _ e=>MH e
 |.ask nm=>[nm]
 |.iff _ _ e1 _ e2 _ _=>MH e1++MH e2
 |.table _ e _=>MH e
 |_=>[]
theorem jC {z:Str}(h:Wrd z e):aX 62 [MJ e]=pr (.tl ((MH e).map W.str)):=lK 62 e (by have:=h.dp;omega) (by have:=h.nm;omega) h.ok
theorem xF {r:Rr}(g:r.Ok):aQ [r.form]=pr (.tl (r.bxs.map W.str)):=by
 cases r with
 |box nm v=>
  have e0:aQ [(Rr.box nm v).form]=bd (ao [some (.tup [.str "box",.str nm,.int (cZ v)])]) MP:=rfl;rw[e0];unfold ao;simp![ix0,hds];rfl
 |block nm=>
  have e0:aQ [(Rr.block nm).form]=bd (ao [some (.tup [.str "block",.str nm])]) MP:=rfl;rw[e0];unfold ao;simp![ix0,hds];rfl
 |put nm z e=>
  have e0:aQ [(Rr.put nm z e).form]=bd (ao [some (.tup [.str "put",.str nm,MJ e])]) MP:=rfl;rw[e0];unfold ao;have gl: ∀ {α:Type} (q:M α),gd (0+1+((MH e).map W.str).length<=sizeLine) q=q:=λq=>ah (by rw[GN];exact sz (by have:=g.2.nm;omega));simp![ix0,ix1,ix2,hds,jC g.2,Mh,oq,gl];rfl
 |say z e=>
  have e0:aQ [(Rr.say z e).form]=bd (ao [some (.tup [.str "say",MJ e])]) MP:=rfl;rw[e0];unfold ao;simp![ix0,ix1,hds,jC g];rfl
 |ask nm=>
  have e0:aQ [(Rr.ask nm).form]=bd (ao [some (.tup [.str "ask",.str nm])]) MP:=rfl;rw[e0];unfold ao;simp![ix0,ix1,hds];rfl
 |go nm=>
  have e0:aQ [(Rr.go nm).form]=bd (ao [some (.tup [.str "go",.str nm])]) MP:=rfl;rw[e0];unfold ao;simp![ix0,ix1,hds];rfl
 |iff s z1 e1 z2 e2 x y=>
  have e0:aQ [(Rr.iff s z1 e1 z2 e2 x y).form]=bd (ao [some (.tup [.str "if",.str s,MJ e1,MJ e2,.str x,.str y])]) MP:=rfl;rw[e0];unfold ao;have ad:=oY ((MH e1).map W.str) ((MH e2).map W.str) (by rw[GN,GN];exact sz (by have:=g.2.1.nm;have:=g.2.2.1.nm;omega));simp![ix0,ix2,ix3,hds,jC g.2.1,jC g.2.2.1,ad];show pr _=pr (W.tl ((MH e1++MH e2).map W.str));rw[GX]
 |table z e xs=>
  have e0:aQ [(Rr.table z e xs).form]=bd (ao [some (.tup [.str "table",MJ e,.tup (xs.map W.str)])]) MP:=rfl;rw[e0];unfold ao;simp![ix0,ix1,hds,jC g.1];rfl
 |stop=>
  have e0:aQ [(Rr.stop).form]=bd (ao [some (.tup [.str "stop"])]) MP:=rfl;rw[e0];unfold ao;simp![ix0,hds];rfl
theorem yT {r:Rr}(g:r.Ok)(A:LO h o jb jn je js s)(p:∀x∈r.bxs,x∈s.bx.map (·.1)):Ok (bp [.loc o,r.form]) h λ_ h'=>h'=h:=by
 have e0:bp [.loc o,r.form]=bd (bZ [some (.loc o),some r.form,none,none]) MP:=rfl;rw[e0];unfold bZ;have ne:=xF g;generalize r.form=F at *;simp!;refine cn A.ob Oo.2.1 ?_;simp!;refine aD (nB A) λw h' qq_=>?_;obtain⟨ew,eh⟩:=qq_;subst ew eh;simp![ne,iE];refine df (I:=λi ρ h1=>h1=h'/\ ∃a,ρ=[some (.loc o),some F,some (.tl ((s.bx.map (·.1)).map W.str)),a]) ⟨rfl,_,rfl⟩ (λ_ _ _ _=>trivial) (λi w ρ h1 hw I=>?_) λρ h1 I=>?_
 ·obtain⟨rfl,a,rfl⟩:=I;rw[GW] at hw;obtain⟨x,hx,rfl⟩:=Hd.mp hw;refine⟨_,rfl,?_⟩;simp![rO,decide_eq_true (p x (Hi hx))];exact ag ⟨_,rfl,rfl,_,rfl⟩
 ·obtain⟨rfl,a,rfl⟩:=I;simp!;exact ag rfl
end
end
section
open Wd
noncomputable def Rr.stm:Rr->Bool
 |.put _ _ _=>true
 |.say _ _=>true
 |.ask _=>true
 |_=>false
noncomputable def Rr.end':Rr->Bool
 |.go _=>true
 |.iff _ _ _ _ _ _ _=>true
 |.table _ _ _=>true
 |.stop=>true
 |_=>false
noncomputable def RS.step (s:RS)(r:Rr):RS:=match r with
 |.box nm v=>{s with bx:=s.bx++[(nm,cZ v)]}
 |.block nm=>{s with nm:=s.nm++[nm],st:=[]}
 |.put nm z e=>{s with st:=s.st++[(Rr.put nm z e).form]}
 |.say z e=>{s with st:=s.st++[(Rr.say z e).form]}
 |.ask nm=>{s with st:=s.st++[(Rr.ask nm).form]}
 |r=>{s with dn:=s.dn++[(s.nm.getLastD "",s.st,r)]}
theorem pf {s:RS}{r:Rr}(h:r.stm=true):s.step r={s with st:=s.st++[r.form]}:=by
 cases r<;>first|rfl|cases h
theorem ph {s:RS}{r:Rr}(h:r.end'=true):s.step r={s with dn:=s.dn++[(s.nm.getLastD "",s.st,r)]}:=by
 cases r<;>first|rfl|cases h
structure LK (s:RS)(r:Rr):Prop where
 i:s.dn.length<s.nm.length
 c:r.stm=true->s.st.length<8
 b: ∀x∈r.bxs,x∈s.bx.map (·.1)
noncomputable def Pre (s:RS)(r:Rr):Prop:=match r with
 |.box nm _=>s.nm=[]/\nm ∉ s.bx.map (·.1)/\s.bx.length<4
 |.block nm=>s.dn.length=s.nm.length/\nm ∉ s.nm/\s.nm.length<10
 |r=>LK s r
theorem Cf (p:Pre s r)(h:r.stm=true\/r.end'=true):LK s r:=by
 cases r<;>first|exact p|(rcases h with h|h<;>cases h)
structure Fo (o:Nat)(h h':List Ob):Prop where
 eq: ∀i,i<o->h'[i]?=h[i]?
 le:h.length<=h'.length
theorem Fo.trans {o:Nat}(x:Fo o a b)(y:Fo o b c):Fo o a c:=⟨λi hi=>(y.eq i hi).trans (x.eq i hi),Hf x.le y.le⟩
theorem Fo.set {o j:Nat}(hj:o<=j):Fo o h (h.set j b):=⟨λi hi=>by rw[GP ∅],by rw[Hb];exact GO _⟩
noncomputable def Rr.hd:Rr->Str
 |.box _ _=> "box"
 |.block _=> "block"
 |.put _ _ _=> "put"
 |.say _ _=> "say"
 |.ask _=> "ask"
 |.go _=> "go"
 |.iff _ _ _ _ _ _ _=> "if"
 |.table _ _ _=> "table"
 |.stop=> "stop"
theorem kH (r:Rr): ∃l,r.form=.tup (.str r.hd::l):=by cases r<;>exact⟨_,rfl⟩
theorem yz {r:Rr}(h:r.stm=true\/r.end'=true):decide (r.hd= "box")=false/\decide (r.hd= "block")=false:=by
 cases r<;>first|(rcases h with h|h<;>cases h;done)|(unfold Rr.hd;simp only[hds];exact⟨trivial,trivial⟩)|(unfold Rr.hd;simp only[hds,and_self])
theorem QB:("put":Str)∈(["put", "say", "ask"]:List Str)/\("say":Str)∈(["put", "say", "ask"]:List Str)/\("ask":Str)∈(["put", "say", "ask"]:List Str):=⋯
theorem MA:("go":Str) ∉ (["put", "say", "ask"]:List Str)/\("if":Str) ∉ (["put", "say", "ask"]:List Str)/\("table":Str) ∉ (["put", "say", "ask"]:List Str)/\("stop":Str) ∉ (["put", "say", "ask"]:List Str):=⋯
theorem D9 {r:Rr}(h:r.stm=true):r.hd∈(["put", "say", "ask"]:List Str):=by
 cases r<;>first|exact absurd h G5|exact QB.1|exact QB.2.1|exact QB.2.2
theorem yA {r:Rr}(h:r.end'=true):r.hd ∉ (["put", "say", "ask"]:List Str):=by
 cases r<;>first|exact absurd h G5|exact MA.1|exact MA.2.1|exact MA.2.2.1|exact MA.2.2.2
section
variable {h:List Ob}{o jb jn je js:Nat}{s:RS}
theorem Cv {nm v:Str}(A:LO h o jb jn je js s)(p:Pre s (.box nm v)):Ok (aq [.loc o,(Rr.box nm v).form]) h λ_ h'=>LO h' o jb jn je js (s.step (.box nm v))/\Fo o h h':=by
 have e0:aq [.loc o,(Rr.box nm v).form]=bd (aC [some (.loc o),some (.tup [.str "box",.str nm,.int (cZ v)])]) MP:=rfl;rw[e0];unfold aC;obtain⟨n1,n2,n3,n4⟩:=A.ne;have p:s.nm=[]/\nm ∉ s.bx.map (·.1)/\s.bx.length<4:=p;simp![ix0];refine aJ A.ob (AB ..) ?_;refine cz A.b ?_;simp![ix1,ix2];refine eg A.b (by rw[GN];exact Hs (show _<=10 by omega) ↥_) ?_;simp!;refine ag ⟨⟨?_,?_,?_,?_,?_,A.ne,?_⟩,Fo.set ∅⟩
 ·rw[GP ∅];exact A.ob
 ·rw[bh A.b];show _=some (Ob.lst ((s.bx++[(nm,cZ v)]).map bqW));rw[GX];rfl
 ·rw[GP ∅];exact A.n
 ·rw[GP ∅];exact A.e
 ·intro q;rw[GP ∅];exact A.st q
 ·obtain⟨z1,z2,z3,z4,z5⟩:=A.z;refine⟨?_,z2,z3,z4,z5⟩;show (s.bx++[_]).length<=4;rw[GQ,Hq];omega
theorem xi {nm:Str}(A:LO h o jb jn je js s)(p:Pre s (.block nm)):Ok (aq [.loc o,(Rr.block nm).form]) h λ_ h'=>(∃js',LO h' o jb jn je js' (s.step (.block nm)))/\Fo o h h':=by
 have e0:aq [.loc o,(Rr.block nm).form]=bd (aC [some (.loc o),some (.tup [.str "block",.str nm])]) MP:=rfl;rw[e0];unfold aC;obtain⟨n1,n2,n3,n4⟩:=A.ne;have p:s.dn.length=s.nm.length/\nm ∉ s.nm/\s.nm.length<10:=p;simp![ix0,hds];refine aJ A.ob (qf ..) ?_;refine cz A.n ?_;simp![ix1];refine eg A.n (by rw[GN];exact Hs (show _<=10 by omega) ↥_) ?_;simp!;refine d9 ?_;simp!;have le:=bL A.e;have lo:=bL A.ob;have ln:=bL A.n;have eo:(h.set jn (.lst (s.nm.map W.str++[.str nm]))++[.lst []])[o]?=some (.ins "Reading" MV [.loc jb,.loc jn,.loc je,.loc js]):=by
  rw[Hg (by rw[Hb];exact lo),GP ∅];exact A.ob
 refine ja eo (by show 4<1000;decide) (Gp ..) ?_;simp!;have hl:(h.set jn (.lst (s.nm.map W.str++[.str nm]))).length=h.length:=Hb ..;refine ag ⟨⟨h.length,⟨?_,?_,?_,?_,?_,?_,?_⟩⟩,⟨λi hi=>?_,?_⟩⟩
 ·rw[bh eo,hl]
 ·rw[GP ∅,Hg (by rw[hl];exact bL A.b),GP ∅];exact A.b
 ·rw[GP ∅,Hg (by rw[hl];exact ln),bh A.n];show _=some (Ob.lst ((s.nm++[nm]).map W.str));rw[GX];rfl
 ·rw[GP ∅,Hg (by rw[hl];exact le),GP ∅];exact A.e
 ·intro _;rw[GP ∅];have:=cF (h:=h.set jn (.lst (s.nm.map W.str++[.str nm]))) (a:=.lst []);rw[hl] at this;exact this
 ·exact⟨n1,n2,n3,le⟩
 ·obtain⟨z1,z2,z3,z4,z5⟩:=A.z;refine⟨z1,?_,?_,G8 _,?_⟩
  ·show (s.nm++[nm]).length<=10;rw[GQ,Hq];omega
  ·show s.dn.length<=(s.nm++[nm]).length;rw[GQ,Hq];omega
  ·show (s.nm++[nm]).length<=s.dn.length+1;rw[GQ,Hq];omega
 ·rw[GP ∅,Hg (by rw[hl];omega),GP ∅]
 ·rw[Hb,GQ,hl];omega
theorem Ct (q:r.stm=true)(A:LO h o jb jn je js s)(p:LK s r):Ok (aq [.loc o,r.form]) h λ_ h'=>LO h' o jb jn je js (s.step r)/\Fo o h h':=by
 rw[pf q];have nh:=yz (r:=r) (.inl q);have st:=D9 q;obtain⟨l,e⟩:=kH r;rw[e];have e0:aq [.loc o,.tup (.str r.hd::l)]=bd (aC [some (.loc o),some (.tup (.str r.hd::l))]) MP:=rfl;rw[e0];unfold aC;obtain⟨n1,n2,n3,n4⟩:=A.ne;have pr':=p.c q;simp![ix0,nh.1,nh.2,j7,decide_eq_true st];refine aJ A.ob (DO ..) ?_;refine cz (A.st p.i) ?_;simp!;refine eg (A.st p.i) (Hs (show _<=10 by omega) ↥_) ?_;simp!;refine ag ⟨⟨?_,?_,?_,?_,?_,A.ne,?_⟩,Fo.set ∅⟩
 ·rw[GP ∅];exact A.ob
 ·rw[GP ∅];exact A.b
 ·rw[GP ∅];exact A.n
 ·rw[GP ∅];exact A.e
 ·intro _;rw[bh (A.st p.i)]
 ·obtain⟨z1,z2,z3,z4,z5⟩:=A.z;refine⟨z1,z2,z3,?_,z5⟩;show (s.st++[_]).length<=8;rw[GQ,Hq];omega
theorem r9 {l:List Str}(h:l≠ []):atI (l.map W.str) (-1)=some (.str (l.getLastD "")):=by
 have e:l=l.dropLast++[l.getLast h]:=(List.dropLast_concat_getLast h).symm;have g:l.getLastD ""=l.getLast h:=by
  cases l with
  |nil=>exact absurd rfl h
  |cons a l=>rw[List.getLastD_cons,List.getLast_eq_getLastD]
 rw[g]
 conv=>lhs;rw[e,GX]
 exact jQ _ _
theorem Cu (q:r.end'=true)(A:LO h o jb jn je js s)(p:LK s r):Ok (aq [.loc o,r.form]) h λ_ h'=>LO h' o jb jn je js (s.step r)/\Fo o h h':=by
 rw[ph q];have nh:=yz (r:=r) (.inr q);have st:=yA q;obtain⟨l,e⟩:=kH r;have ie: ∀x,W.tup [.str x,.tl s.st,.tup (.str r.hd::l)]=dnW (x,s.st,r):=λx=>by unfold dnW;rw[<-e]
 rw[e];have e0:aq [.loc o,.tup (.str r.hd::l)]=bd (aC [some (.loc o),some (.tup (.str r.hd::l))]) MP:=rfl;rw[e0];unfold aC;obtain⟨n1,n2,n3,n4⟩:=A.ne;obtain⟨z1,z2,z3,z4,z5⟩:=A.z;have pi:=p.i;have nn:s.nm≠ []:=λz=>by rw[z] at pi;simp at pi
 simp![ix0,nh.1,nh.2,j7,decide_eq_false st];refine aJ A.ob (DP ..) ?_;refine cz A.e ?_;simp!;refine aJ A.ob (qf ..) ?_;simp!;refine Bu A.n (r9 nn) ?_;simp!;refine aJ A.ob (DO ..) ?_;refine j2 (A.st pi) ?_;have e2:(h.set js .gone)[je]?=some (.lst (s.dn.map dnW)):=by rw[GP ∅];exact A.e
 simp!;refine eg e2 (by rw[GN];exact Hs (show _<=10 by omega) ↥_) ?_;simp!;refine ag ⟨⟨?_,?_,?_,?_,?_,A.ne,?_⟩,(Fo.set ∅).trans (Fo.set ∅)⟩
 ·rw[GP ∅,GP ∅];exact A.ob
 ·rw[GP ∅,GP ∅];exact A.b
 ·rw[GP ∅,GP ∅];exact A.n
 ·rw[bh e2,ie];show _=some (Ob.lst ((s.dn++[_]).map dnW));rw[GX];rfl
 ·intro q;have q:(s.dn++[_]).length<s.nm.length:=q;rw[GQ,Hq] at q;omega
 ·refine⟨z1,z2,?_,z4,?_⟩
  ·show (s.dn++[_]).length<=s.nm.length;rw[GQ,Hq];omega
  ·show s.nm.length<=(s.dn++[_]).length+1;rw[GQ,Hq];omega
theorem Fv (r:Rr):(∃nm v,r=.box nm v)\/(∃nm,r=.block nm)\/r.stm=true\/r.end'=true:=by
 cases r<;>first|exact .inl ⟨_,_,rfl⟩|exact .inr (.inl ⟨_,rfl⟩)|exact .inr (.inr (.inl rfl))|exact .inr (.inr (.inr rfl))
theorem zn (g:r.Ok)(A:LO h o jb jn je js s)(p:Pre s r):Ok (dF [.loc o,r.form]) h λw h'=>w=.non/\(∃js',LO h' o jb jn je js' (s.step r))/\Fo o h h':=by
 have e0:dF [.loc o,r.form]=bd (dA [some (.loc o),some r.form]) MP:=rfl;rw[e0];unfold dA;obtain⟨m1,m2,m3,m4,m5,m6,m7,m8,m9⟩:=Oo;have st:Ok (au [.loc o,.str r.hd]) h (λ_ h'=>h'=h)/\Ok (ar [.loc o,r.form]) h (λ_ h'=>h'=h)/\Ok (aB [.loc o,.str r.hd]) h (λ_ h'=>h'=h)/\Ok (bp [.loc o,r.form]) h (λ_ h'=>h'=h)/\Ok (aq [.loc o,r.form]) h λ_ h'=>(∃js',LO h' o jb jn je js' (s.step r))/\Fo o h h':=by
  rcases Fv r with⟨nm,v,rfl⟩|⟨nm,rfl⟩|q
  ·have p':s.nm=[]/\nm ∉ s.bx.map (·.1)/\s.bx.length<4:=p;exact⟨Ch A p'.1,BL A p'.2.1,B8 A p'.2.2,yT g A (λx hx=>absurd hx Hj),(Cv A p).imp λ_ _ ⟨a,b⟩=>⟨⟨_,a⟩,b⟩⟩
  ·have p':s.dn.length=s.nm.length/\nm ∉ s.nm/\s.nm.length<10:=p;exact⟨wZ A p'.1,vV A p'.2.1,wK A p'.2.2,yT g A (λx hx=>absurd hx Hj),xi A p⟩
  ·have pi:=Cf p q;have nh:=yz q;obtain⟨l,e⟩:=kH r;refine⟨EI A nh.1 nh.2 pi.i,by rw[e];exact EA nh.1 nh.2,EH A nh.1 nh.2 pi.i λhm=>?_,yT g A pi.b,?_⟩
   ·rcases q with q|q
    ·exact pi.c q
    ·exact absurd hm (yA q)
   ·rcases q with q|q
    ·exact (Ct q A pi).imp λ_ _ ⟨a,b⟩=>⟨⟨_,a⟩,b⟩
    ·exact (Cu q A pi).imp λ_ _ ⟨a,b⟩=>⟨⟨_,a⟩,b⟩
 obtain⟨s1,s2,s3,s4,s5⟩:=st;have ih:ixW r.form (.int 0)=pr (.str r.hd):=by obtain⟨l,e⟩:=kH r;rw[e];exact ix0 ..
 generalize r.form=F at *;simp!;refine cn A.ob m3 ?_;simp![ih];refine aD s1 λ_ h1 eh=>?_;subst eh;simp!;refine cn A.ob m4 ?_;simp!;refine aD s2 λ_ h1 eh=>?_;subst eh;simp!;refine cn A.ob m5 ?_;simp![ih];refine aD s3 λ_ h1 eh=>?_;subst eh;simp!;refine cn A.ob m6 ?_;simp!;refine aD s4 λ_ h1 eh=>?_;subst eh;simp!;refine cn A.ob m7 ?_;simp!;refine aD s5 λ_ h1 q=>?_;simp!;exact ag ⟨rfl,q⟩
end
end
section
open Wd
noncomputable def Np (l:List Str)(x:Str):Nat:=(l.findIdx? (λm=>decide (m=x))).getD 0
theorem f7 {l:List Str}{x:Str}(h:x∈l):l.findIdx? (λm=>decide (m=x))=some (Np l x)/\Np l x<l.length:=by
 unfold Np;cases e:l.findIdx? (λm=>decide (m=x)) with
 |none=>
  rw[Ji] at e;have:=e x h;simp at this
 |some i=>
  refine⟨rfl,?_⟩;rw[Ii] at e;exact e.1
noncomputable def Rr.en (l:List Str):Rr->E17
 |.go nm=>.go (Np l nm:Nat)
 |.iff s _ e1 _ e2 x y=>.iff s (MJ e1) (MJ e2) (Np l x:Nat) (Np l y:Nat)
 |.table _ e xs=>.table (MJ e) (xs.map λx=>((Np l x:Nat):Int))
 |_=>.stop
noncomputable def Rr.tos:Rr->List Str
 |.go nm=>[nm]
 |.iff _ _ _ _ _ x y=>[x,y]
 |.table _ _ xs=>xs
 |_=>[]
section
variable {h:List Ob}{jn:Nat}{ss:List Str}
theorem xt {β:Type}{Q:β->List Ob->Prop}{j:Nat}{x:Str}{ss:List Str}{k:W->M β}(e:h[j]?=some (.lst (ss.map W.str)))(q:Ok (k (.bl (!decide (x∈ss)))) h Q):Ok (bd (dL (.str x) (.loc j)) k) h Q:=by
 refine aY (a:=.bl (!decide (x∈ss))) (h':=h) ?_ q;unfold dL;have d:Mw (.loc j) h=none:=by unfold Mw;simp only[e]
 have lo:NR (.loc j) h=.ok (ss.map W.str) h:=by unfold NR;simp only[e]
 have e:inB (.str x) (.loc j) h=some (decide (x∈ss)):=by
  unfold inB;simp only[d,lo,dX (g:=W.str) (k:=V.str) (λa=>rfl) ss];show some (inV (.str x) (ss.map V.str))=_;rw[f9]
 rw[e]
theorem lQ {j:Nat}(e:h[j]?=some (.lst l)):NQ (.loc j) h=.ok l h:=by
 unfold NQ;simp only[e]
theorem jx {x:Str}(e:h[jn]?=some (.lst (ss.map W.str)))(m:x∈ss):Ok (dh [.str x,.loc jn]) h λw h'=>w=.int (Np ss x:Nat)/\h'=h:=by
 have e0:dh [.str x,.loc jn]=bd (gw [some (.str x),some (.loc jn)]) MP:=rfl;rw[e0];unfold gw;simp!;refine xt e ?_;simp![decide_eq_true m,Ng];refine aY (lQ e) ?_;simp![Qe];refine aY (lQ e) ?_;have o:OQ sOf (ss.map W.str)=some ss:=g9 (f:=sOf) (g:=W.str) (λa=>rfl) ss;rw[o];dsimp only;rw[(f7 m).1];simp!;exact ag ⟨rfl,rfl⟩
theorem sl64 (a b c d e f:W):slW (.tup [a,b,c,d,e,f]) none (some 4)=pr (.tup [a,b,c,d]):=by
 show gd (¬(HT.sIx 6 0 none=0/\HT.sIx 6 6 (some 4)=6)) (pr (W.tup (Ms [a,b,c,d,e,f] none (some 4))))=_;rw[ah ↥_];rfl
theorem Eu (a b c d e f:W):L6 (.tup [a,b,c,d]) (.tup [e,f])=pr (.tup [a,b,c,d,e,f]):=by
 show gd _ (pr (W.tup ([a,b,c,d]++[e,f])))=_;rw[ah ⟨rfl,sz (by show 4+2<=_;omega)⟩];rfl
theorem AX {r:Rr}(q:r.end'=true)(e:h[jn]?=some (.lst (ss.map W.str)))(g:r.Ok)(m:∀x∈r.tos,x∈ss):Ok (bJ [r.form,.loc jn]) h λw h'=>w=(r.en ss).w/\h'=h:=by
 cases r with
 |go nm=>
  have e0:bJ [(Rr.go nm).form,.loc jn]=bd (aP [some (.tup [.str "go",.str nm]),some (.loc jn)]) MP:=rfl;rw[e0];unfold aP;simp![ix0,ix1,hds];refine aD (jx e (m nm GY)) λw h' qq_=>?_;obtain⟨ew,eh⟩:=qq_;subst ew eh;simp!;exact ag ⟨rfl,rfl⟩
 |iff s z1 e1 z2 e2 x y=>
  have e0:bJ [(Rr.iff s z1 e1 z2 e2 x y).form,.loc jn]=bd (aP [some (.tup [.str "if",.str s,MJ e1,MJ e2,.str x,.str y]),some (.loc jn)]) MP:=rfl;rw[e0];unfold aP;simp![ix0,ix4,ix5,hds,sl64];refine aD (jx e (m x GY)) λw h' qq_=>?_;obtain⟨ew,eh⟩:=qq_;subst ew eh;simp![ix5];refine aD (jx e (m y (G9 _ GY))) λw h' qq_=>?_;obtain⟨ew,eh⟩:=qq_;subst ew eh;simp![Eu];exact ag ⟨rfl,rfl⟩
 |table z e1 xs=>
  have e0:bJ [(Rr.table z e1 xs).form,.loc jn]=bd (aP [some (.tup [.str "table",MJ e1,.tup (xs.map W.str)]),some (.loc jn)]) MP:=rfl;rw[e0];unfold aP;have gl: ∀ {α:Type} (q:M α),gd ((xs.map W.str).length<=sizeLine) q=q:=λq=>ah (by rw[GN];exact sz (by have:=g.2.2.1;omega));simp![ix0,ix1,ix2,hds,gl];refine jA (I:=λi a h'=>h'=h/\a=((xs.take i).map λx=>((Np ss x:Nat):Int)).map W.int) ⟨rfl,rfl⟩ kN (λ_ _ _ _=>trivial) (λi w a h' hw I=>?_) λa h' I=>?_
  ·obtain⟨rfl,rfl⟩:=I;rw[GW] at hw;obtain⟨x,hx,rfl⟩:=Hd.mp hw;refine⟨_,rfl,?_⟩;simp! only[List.replicate,HE,HB,ae];refine (jx e (m x (Hi hx))).imp λw h2 qz=>?_;obtain⟨ew,eh⟩:=qz;subst ew eh;refine⟨rfl,?_⟩;rw[Ij,hx,GX,GX];rfl
  ·obtain⟨rfl,rfl⟩:=I;rw[GN,Hk];simp![jT];exact ag ⟨rfl,rfl⟩
 |stop=>
  have e0:bJ [Rr.stop.form,.loc jn]=bd (aP [some (.tup [.str "stop"]),some (.loc jn)]) MP:=rfl;rw[e0];unfold aP;simp![ix0,hds];exact ag ⟨rfl,rfl⟩
 |_=>cases q
end
noncomputable def bkW (l:List Str)(b:Str×List W×Rr):W:=.tup [.str b.1,.tl b.2.1,(b.2.2.en l).w]
structure Lu (s:RS):Prop where
 l:s.dn.length=s.nm.length
 l1:1<=s.nm.length
 e: ∀b∈s.dn,b.2.2.end'=true/\b.2.2.Ok/\ ∀x∈b.2.2.tos,x∈s.nm
theorem zi {o jb jn je js:Nat}(A:LO h o jb jn je js s)(E:Lu s):Ok (bN [.loc o]) h λw h'=>w=.tup [.tl (s.bx.map bqW),.tl (s.dn.map (bkW s.nm))]/\Fo o h h':=by
 have e0:bN [.loc o]=bd (bM [some (.loc o),none,none,none,none]) MP:=rfl;rw[e0];unfold bM;obtain⟨n1,n2,n3,n4⟩:=A.ne;obtain⟨z1,z2,z3,z4,z5⟩:=A.z;have el:=E.l;have el1:=E.l1;have lo:=bL A.ob;have lb:=bL A.b;have ln:=bL A.n;have le:=bL A.e;simp!;refine cn A.ob Oo.1 ?_;simp!;refine aD (lW A) λw h' qq_=>?_;obtain⟨ew,eh⟩:=qq_;subst ew eh;simp![decide_eq_false (show¬s.dn.length<s.nm.length by omega)];refine aJ A.ob (qf ..) ?_;simp!;refine (Lw.len (.inr ⟨jn,rfl,A.n⟩)) ?_;have d0:decide ((((s.nm.map W.str).length:Nat):Int)=0)=false:=decide_eq_false (by rw[GN];omega);simp![d0];refine d9 ?_;have ap: ∀ {j:Nat}{b:Ob},h'[j]?=some b->(h'++[.lst []])[j]?=some b:=λe=>jH e;simp!;refine aJ (ap A.ob) (DP ..) ?_;refine og (ap A.e) ?_;simp!;refine df (I:=λi ρ h1=> ∃a b c,ρ=[some (.loc o),some (.loc h'.length),a,b,c]/\h1.length=h'.length+1/\(∀j,j<h'.length->h1[j]?=h'[j]?)/\h1[h'.length]?=some (.lst ((s.dn.take i).map (bkW s.nm)))) ⟨_,_,_,rfl,⇑_,λj hj=>by rw[Hg hj],cF⟩ (λ_ _ _ I=>by obtain⟨a,b,c,_,_,q,_⟩:=I;rw[q _ le];exact A.e) (λi w ρ h1 hw I=>?_) λρ h1 I=>?_
 ·obtain⟨a,b,c,rfl,l1,q1,q2⟩:=I;rw[GW] at hw;obtain⟨⟨nm,sts,r⟩,hb,rfl⟩:=Hd.mp hw;obtain⟨r1,r2,r3⟩:=E.e _ (Hi hb);have hi:=(G1.mp hb).1;refine⟨[some (.loc o),some (.loc h'.length),some (.str nm),some (.tl sts),some r.form],rfl,?_⟩;have en:h1[jn]?=some (.lst (s.nm.map W.str)):=by rw[q1 _ ln];exact A.n
  have eo:h1[o]?=some (.ins "Reading" MV [.loc jb,.loc jn,.loc je,.loc js]):=by rw[q1 _ lo];exact A.ob
  have eb:=AX r1 en r2 r3;generalize r.form=F at *;simp!;refine cz q2 ?_;simp!;refine aJ eo (qf ..) ?_;simp!;refine aD eb λw h2 qq_=>?_;obtain⟨ew,eh⟩:=qq_;subst ew eh;simp!;refine eg q2 (by rw[GN,Hr];exact Hs (show _<=10 by omega) ↥_) ?_;simp!;refine ag ⟨_,rfl,_,_,_,rfl,by rw[Hb];exact l1,λj hj=>by rw[GP ∅];exact q1 j hj,?_⟩;rw[bh q2,Ij,hb,GX];rfl
 ·obtain⟨a,b,c,rfl,l1,q1,q2⟩:=I;rw[GN,Hk] at q2;have eo:h1[o]?=some (.ins "Reading" MV [.loc jb,.loc jn,.loc je,.loc js]):=by rw[q1 _ lo];exact A.ob
  have eb:h1[jb]?=some (.lst (s.bx.map bqW)):=by rw[q1 _ lb];exact A.b
  simp!;refine aJ eo (AB ..) ?_;refine j2 eb ?_;have q3:(h1.set jb .gone)[h'.length]?=some (.lst (s.dn.map (bkW s.nm))):=by rw[GP ∅];exact q2
  simp!;refine j2 q3 ?_;simp!;refine ag ⟨rfl,λi hi=>?_,?_⟩
  ·rw[GP ∅,GP ∅];exact q1 i ∅
  ·rw[Hb,Hb,l1];omega
noncomputable def OkR:List Rr->RS->Prop
 |[],_=>True
 |r::rs,s=>(r.Ok/\Pre s r)/\OkR rs (s.step r)
noncomputable def Pt (rs:List Rr)(s:RS):RS:=rs.foldl RS.step s
theorem kE: ∀ {a b:List Rr}{s:RS},OkR a s->OkR b (Pt a s)->OkR (a++b) s
 |[],_,_,_,h=>h
 |r::a,b,s,g,h=>⟨g.1,kE (a:=a) g.2 h⟩
theorem lq (a b:List Rr)(s:RS):Pt (a++b) s=Pt b (Pt a s):=List.foldl_append ..
theorem tH: ∀ {a:List Rr}{s:RS},OkR a s-> ∀r∈a,r.Ok
 |[],_,_,r,h=>absurd h Hj
 |x::a,s,g,r,h=>by
  rcases GR.mp h with rfl|h
  ·exact g.1.1
  ·exact tH g.2 r h
noncomputable def RS.nil:RS:=⟨[],[],[],[]⟩
section
variable {β:Type}{h:List Ob}{Q:β->List Ob->Prop}
theorem on {k:W->M β}{n:Nat}(hn:L.length=n)(q:Ok (k (.loc (h.length+n))) (h++(L++[.lst l])) Q):Ok (bd (Ow l) k) (h++L) Q:=by
 refine d9 ?_;rw[GQ,Hc,hn];exact q
theorem nV {c f:Str}{ns ns':List Str}{ws ws':List W}{k:Unit->M β}(z:ns.length<1000)(e2:Pc ns ws f y=(ns',ws'))(q:Ok (k ()) (h++.ins c ns' ws'::L) Q):Ok (bd (Pa c f (.loc h.length) y) k) (h++.ins c ns ws::L) Q:=by
 refine ja (by rw[HG (GO _),ID];rfl) z e2 ?_;rw[List.set_append_right _ _ (GO _),ID];exact q
end
theorem AR (h:List Ob):Ok (cD [.loc h.length]) (h++[.ins "Reading" [] []]) λw h'=>w=.non/\LO h' h.length (h.length+1) (h.length+2) (h.length+3) (h.length+4) RS.nil/\Fo h.length h h':=by
 have e0:cD [.loc h.length]=bd (cC [some (.loc h.length)]) MP:=rfl;rw[e0];unfold cC;simp!;refine on (n:=1) rfl ?_;simp! only[HE,HB,ae];refine nV (by show 0<1000;decide) (ns':=["boxes"]) (ws':=[.loc (h.length+1)]) rfl ?_;simp!;refine on (n:=2) rfl ?_;simp! only[HE,HB,ae];refine nV (by show 1<1000;decide) (ns':=["boxes", "block_names"]) (ws':=[.loc (h.length+1),.loc (h.length+2)]) (by simp only[Pc,fne,if_false]) ?_;simp!;refine on (n:=3) rfl ?_;simp! only[HE,HB,ae];refine nV (by show 2<1000;decide) (ns':=["boxes", "block_names", "ended_blocks"]) (ws':=[.loc (h.length+1),.loc (h.length+2),.loc (h.length+3)]) (by simp only[Pc,fne,if_false]) ?_;simp!;refine on (n:=4) rfl ?_;simp! only[HE,HB,ae];refine nV (by show 3<1000;decide) (ns':=MV) (ws':=[.loc (h.length+1),.loc (h.length+2),.loc (h.length+3),.loc (h.length+4)]) (by simp only[MV,Pc,fne,if_false]) ?_;simp!;have at': ∀ (L:List Ob) (k:Nat),(h++L)[h.length+k]?=L[k]?:=λL k=>by rw[HG ∅];congr 1;omega
 refine ag ⟨rfl,⟨at' _ 0,at' _ 1,at' _ 2,at' _ 3,λ_=>at' _ 4,⟨∅,∅,∅,∅⟩,⟨G8 _,G8 _,GO _,G8 _,G8 _⟩⟩,⟨λi hi=>Hg hi,by rw[GQ];omega⟩⟩
noncomputable def QP (rs:List Rr):Str:=Str.join ⟨#[10]⟩ (rs.map Rr.tx)
theorem zI (K:OkR rs RS.nil)(E:Lu (Pt rs RS.nil))(l1:rs≠ [])(l2:rs.length<=120):Ok (j8 [.str (QP rs)]) h λw h'=>w=.tup [.tl ((Pt rs RS.nil).bx.map bqW),.tl ((Pt rs RS.nil).dn.map (bkW (Pt rs RS.nil).nm))]/\Fo h.length h h':=by
 have e0:j8 [.str (QP rs)]=bd (oG [some (.str (QP rs)),none,none,none]) MP:=rfl;rw[e0];unfold oG;have all:=tH K;have hz: ∀z∈rs.map Rr.tx,z.length<=600:=λz hz=>by
  obtain⟨r,hr,rfl⟩:=G6.mp hz;exact (all r hr).len
 have sp:Qt (.str (QP rs)) [.str "\n"]=pr (.tl ((rs.map Rr.tx).map W.str)):=by
  rw[xz];refine pj (λz=>l1 (List.map_eq_nil_iff.mp z)) (λz hz=>?_) (Hf (tU hz) ?_) (sz (by rw[GN];omega))
  ·obtain⟨r,hr,rfl⟩:=G6.mp hz;exact (all r hr).nl
  ·rw[GN];exact sz ∅
 generalize QP rs=T at *;have d0:decide ((120:Int)<((((rs.map Rr.tx).map W.str).length:Nat):Int))=false:=decide_eq_false (by rw[GN,GN];omega);simp![sp,d0,NZ];refine tE (by rfl) (AR h) λh1 qz=>?_;obtain⟨A,F1⟩:=qz;simp![iE];generalize h.length+1=jb at *;generalize h.length+2=jn at *;generalize h.length+3=je at *;generalize h.length+4=js at *;generalize ho:h.length=o at *;have m8:=Oo.2.2.2.2.2.2.2.1;have m9:=Oo.2.2.2.2.2.2.2.2;refine df (I:=λi ρ h2=> ∃a js s,ρ=[some (.str T),some (.tl ((rs.map Rr.tx).map W.str)),some (.loc o),a]/\LO h2 o jb jn je js s/\OkR (rs.drop i) s/\Pt (rs.drop i) s=Pt rs RS.nil/\Fo o h h2) ⟨_,js,RS.nil,rfl,A,K,rfl,F1⟩ (λ_ _ _ _=>trivial) (λi w ρ h2 hw I=>?_) λρ h2 I=>?_
 ·obtain⟨a,js,s,rfl,A,K,er,F2⟩:=I;rw[GW,GW] at hw;obtain⟨x,hx,rfl⟩:=Hd.mp hw;obtain⟨r,hr,rfl⟩:=Hd.mp hx;have hi:=(G1.mp hr).1;have ed:rs.drop i=r::rs.drop (i+1):=by
   rw[Iq hi];congr 1;exact Option.some.inj ((G0 hi).symm.trans hr)
  rw[ed] at K er;obtain⟨⟨g,p⟩,K⟩:=K;have fe:=AV g;have tk:=zn g A p;refine⟨_,rfl,?_⟩;generalize r.form=F at *;generalize r.tx=X at *;simp!;refine cn A.ob m8 ?_;simp![fe];refine aD tk λw h3 qq_=>?_;obtain⟨ew,⟨js',A'⟩,F3⟩:=qq_;subst ew;simp!;exact ag ⟨_,rfl,_,js',_,rfl,A',K,er,F2.trans F3⟩
 ·obtain⟨a,js,s,rfl,A,K,er,F2⟩:=I;rw[GN,GN,IE] at er;have er:s=Pt rs RS.nil:=er;subst er;simp!;refine cn A.ob m9 ?_;simp!;refine aD (zi A E) λw h3 qq_=>?_;obtain⟨ew,F3⟩:=qq_;subst ew;simp!;exact ag ⟨rfl,F2.trans F3⟩
end
section
open Wd
structure Bt where
 nm:Str
 ss:List Rr
 e:Rr
noncomputable def Bt.rows (b:Bt):List Rr:=.block b.nm::(b.ss++[b.e])
noncomputable def pgR (bx:List (Str×Str))(bl:List Bt):List Rr:=(bx.map λb=>Rr.box b.1 b.2)++bl.flatMap Bt.rows
structure BtG (bn ns:List Str)(b:Bt):Prop where
 nm:aV b.nm=true
 l:b.ss.length<=8
 s: ∀r∈b.ss,r.stm=true/\r.Ok/\ ∀x∈r.bxs,x∈bn
 e:b.e.end'=true/\b.e.Ok/\(∀x∈b.e.bxs,x∈bn)/\ ∀x∈b.e.tos,x∈ns
structure PtxG (bx:List (Str×Str))(bl:List Bt):Prop where
 b: ∀x∈bx,aV x.1=true/\Ox x.2=true
 bn:(bx.map (·.1)).Nodup
 b4:bx.length<=4
 n:(bl.map Bt.nm).Nodup
 l:bl.length<=10
 l1:1<=bl.length
 g: ∀b∈bl,BtG (bx.map (·.1)) (bl.map Bt.nm) b
noncomputable def bxV (bx:List (Str×Str)):List (Str×Int):=bx.map λb=>(b.1,cZ b.2)
theorem sR: ∀ (bx:List (Str×Str)) (d:List (Str×Int)),(∀x∈bx,aV x.1=true/\Ox x.2=true)->(d.map (·.1)++bx.map (·.1)).Nodup->d.length+bx.length<=4->OkR (bx.map λb=>Rr.box b.1 b.2) ⟨d,[],[],[]⟩/\Pt (bx.map λb=>Rr.box b.1 b.2) ⟨d,[],[],[]⟩=⟨d++bxV bx,[],[],[]⟩
 |[],d,_,_,_=>⟨trivial,by show _=RS.mk (d++[]) _ _ _;rw[Hn];rfl⟩
 |b::bx,d,g,nd,l=>by
  have ih:=sR bx (d++[(b.1,cZ b.2)]) (λx hx=>g x (G9 _ hx)) (by rw[GX,Hc];exact nd) (by rw[GQ,Hq];rw[GT] at l;omega);rw[GT] at l;refine⟨⟨⟨g b GY,rfl,λhm=>?_,by show d.length<4;omega⟩,ih.1⟩,?_⟩
  ·rw[GV,II] at nd;exact nd.2.2 _ hm _ GY rfl
  ·show Pt (bx.map λb=>Rr.box b.1 b.2) ⟨d++[(b.1,cZ b.2)],[],[],[]⟩=_;rw[ih.2,Hc];rfl
theorem sQ: ∀ (ss:List Rr) (s:RS),s.dn.length<s.nm.length->s.st.length+ss.length<=8->(∀r∈ss,r.stm=true/\r.Ok/\ ∀x∈r.bxs,x∈s.bx.map (·.1))->OkR ss s/\Pt ss s={s with st:=s.st++ss.map Rr.form}
 |[],s,_,_,_=>⟨trivial,by rw[Ht,Hn];rfl⟩
 |r::ss,s,i,l,g=>by
  rw[GT] at l;obtain⟨g1,g2,g3⟩:=g r GY;have es:=pf (s:=s) g1;have ih:=sQ ss {s with st:=s.st++[r.form]} i (by show (s.st++[_]).length+_<=8;rw[GQ,Hq];omega) λr hr=>g r (G9 _ hr);have p:LK s r:=⟨i,λ_=>∅,g3⟩
  have p:Pre s r:=by cases r<;>first|exact p|cases g1
  refine⟨⟨⟨g2,p⟩,by rw[es];exact ih.1⟩,?_⟩;show Pt ss (s.step r)=_;rw[es,ih.2];show RS.mk s.bx s.nm s.dn ((s.st++[r.form])++ss.map Rr.form)=RS.mk s.bx s.nm s.dn (s.st++(r::ss).map Rr.form);rw[Hc];rfl
theorem u7 (l:List Str)(x:Str):(l++[x]).getLastD ""=x:=⇑_
theorem A4 {r:Rr}(a:r.end'=true)(b:r.stm=true):False:=by
 cases r<;>first|exact absurd a G5|exact absurd b G5
theorem zH {bn ns:List Str}(g:BtG bn ns b)(hb:s.bx.map (·.1)=bn)(i:s.dn.length=s.nm.length)(l:s.nm.length<10)(n:b.nm ∉ s.nm):OkR b.rows s/\Pt b.rows s=⟨s.bx,s.nm++[b.nm],s.dn++[(b.nm,b.ss.map Rr.form,b.e)],b.ss.map Rr.form⟩:=by
 subst hb;have h1:=sQ b.ss ⟨s.bx,s.nm++[b.nm],s.dn,[]⟩ (by show s.dn.length<(s.nm++[_]).length;rw[GQ,Hq];omega) (by show 0+_<=8;have:=g.l;omega) g.s;have e2:Pt b.ss ⟨s.bx,s.nm++[b.nm],s.dn,[]⟩=⟨s.bx,s.nm++[b.nm],s.dn,b.ss.map Rr.form⟩:=by rw[h1.2];rfl
 have p:LK ⟨s.bx,s.nm++[b.nm],s.dn,b.ss.map Rr.form⟩ b.e:=⟨by show s.dn.length<(s.nm++[_]).length;rw[GQ,Hq];omega,λq=>(A4 g.e.1 q).elim,g.e.2.2.1⟩
 have p:Pre ⟨s.bx,s.nm++[b.nm],s.dn,b.ss.map Rr.form⟩ b.e:=by
  have ge:=g.e.1;cases h:b.e<;>rw[h] at p ge<;>first|exact p|cases ge
 refine⟨⟨⟨g.nm,i,n,l⟩,kE h1.1 ?_⟩,?_⟩
 ·show OkR [b.e] (Pt b.ss ⟨s.bx,s.nm++[b.nm],s.dn,[]⟩);rw[e2];exact⟨⟨g.e.2.1,p⟩,trivial⟩
 ·show Pt (b.ss++[b.e]) ⟨s.bx,s.nm++[b.nm],s.dn,[]⟩=_;rw[lq,e2];show RS.step _ b.e=_;rw[ph g.e.1];show RS.mk s.bx (s.nm++[b.nm]) (s.dn++[((s.nm++[b.nm]).getLastD "",b.ss.map Rr.form,b.e)]) _=_;rw[u7]
theorem pO {bn ns:List Str}: ∀ (bl:List Bt) (s:RS),(∀b∈bl,BtG bn ns b)->s.bx.map (·.1)=bn->s.dn.length=s.nm.length->(s.nm++bl.map Bt.nm).Nodup->s.nm.length+bl.length<=10->OkR (bl.flatMap Bt.rows) s/\ ∃st,Pt (bl.flatMap Bt.rows) s=⟨s.bx,s.nm++bl.map Bt.nm,s.dn++bl.map (λb=>(b.nm,b.ss.map Rr.form,b.e)),st⟩
 |[],s,_,_,_,_,_=>⟨trivial,s.st,by rw[Ht,Ht,Hn,Hn];rfl⟩
 |b::bl,s,g,hb,i,nd,l=>by
  rw[GT] at l;rw[GV] at nd;have nn:b.nm ∉ s.nm:=λhm=>by
   rw[II] at nd;exact nd.2.2 _ hm _ GY rfl
  have h1:=zH (g b GY) hb i ∅ nn;obtain⟨h2,st,h3⟩:=pO bl ⟨s.bx,s.nm++[b.nm],s.dn++[(b.nm,b.ss.map Rr.form,b.e)],b.ss.map Rr.form⟩ (λb hb=>g b (G9 _ hb)) hb (by show (s.dn++[_]).length=(s.nm++[_]).length;rw[GQ,GQ,i];rfl) (by show ((s.nm++[b.nm])++_).Nodup;rw[Hc];exact nd) (by show (s.nm++[_]).length+_<=10;rw[GQ,Hq];omega);rw[Jj];refine⟨kE h1.1 (by rw[h1.2];exact h2),st,?_⟩;rw[lq,h1.2,h3];show RS.mk _ ((s.nm++[b.nm])++bl.map Bt.nm) ((s.dn++[_])++_) _=_;rw[Hc,Hc];rfl
noncomputable def Bt.w (ns:List Str)(b:Bt):W:=.tup [.str b.nm,.tl (b.ss.map Rr.form),(b.e.en ns).w]
theorem Pp {bl:List Bt}(h:∀b∈bl,b.ss.length<=8):(bl.flatMap Bt.rows).length<=10 * bl.length:=by
 induction bl with
 |nil=>simp
 |cons b bl ih=>
  have a:=h b GY;have c:=ih λb hb=>h b (G9 _ hb);rw[Jj,GQ,GT];have:b.rows.length=b.ss.length+2:=by unfold Bt.rows;rw[GT,GQ];rfl
  omega
theorem wL (G:PtxG bx bl):Ok (j8 [.str (QP (pgR bx bl))]) h λw h'=>w=.tup [.tl ((bxV bx).map bqW),.tl (bl.map (Bt.w (bl.map Bt.nm)))]/\Fo h.length h h':=by
 have h1:=sR bx [] G.b G.bn (by have:=G.b4;show 0+_<=4;omega);have ebx:(bxV bx).map (·.1)=bx.map (·.1):=by unfold bxV;rw[Hw];rfl
 obtain⟨h2,st,h3⟩:=pO bl ⟨bxV bx,[],[],[]⟩ (λb hb=>G.g b hb) ebx rfl G.n (by have:=G.l;show 0+_<=10;omega);have e1:Pt (bx.map λb=>Rr.box b.1 b.2) RS.nil=⟨bxV bx,[],[],[]⟩:=h1.2;have er:Pt (pgR bx bl) RS.nil=⟨bxV bx,bl.map Bt.nm,bl.map (λb=>(b.nm,b.ss.map Rr.form,b.e)),st⟩:=by
  unfold pgR;rw[lq,e1,h3];rfl
 have K:OkR (pgR bx bl) RS.nil:=kE h1.1 (by rw[e1];exact h2);have ll:=Pp λb hb=>(G.g b hb).l;have g1:=G.l;have g2:=G.l1;have g3:=G.b4;have lp:(pgR bx bl).length=bx.length+(bl.flatMap Bt.rows).length:=by unfold pgR;rw[GQ,GN]
 have ne:pgR bx bl≠ []:=by
  cases bl with
  |nil=>exact absurd g2 ⇑_
  |cons b bl=>unfold pgR;rw[Jj];unfold Bt.rows;simp
 have E:Lu (Pt (pgR bx bl) RS.nil):=by
  rw[er];refine⟨by show (bl.map _).length=(bl.map _).length;rw[GN,GN],by show 1<=(bl.map _).length;rw[GN];exact g2,λb hb=>?_⟩;have hb:b∈bl.map (λb=>(b.nm,b.ss.map Rr.form,b.e)):=hb;obtain⟨c,hc,rfl⟩:=G6.mp hb;have g:=(G.g c hc).e;exact⟨g.1,g.2.1,g.2.2.2⟩
 refine (zI K E ne ∅).imp λw h' ⟨ew,F⟩=>⟨?_,F⟩
 rw[ew,er];show W.tup [.tl _,.tl ((bl.map λb=>(b.nm,b.ss.map Rr.form,b.e)).map (bkW (bl.map Bt.nm)))]=_;rw[Hw];rfl
end
section
open Wd
theorem D4 {i:Int}{w:W}(h:atI l i=some w):ixW (.cl l) (.int i)=pr w:=by
 funext hh;unfold ixW;have:ixO (.cl l) (.int i) hh=some w:=h;rw[this];rfl
theorem oN (ns:List Int)(i:Int)(h0:0<=i): ∃c:Int,bP [.cl (ns.map W.int),.int i]=pr (.int c):=by
 have e0:bP [.cl (ns.map W.int),.int i]=bd (dS [some (.cl (ns.map W.int)),some (.int i)]) MP:=rfl;rw[e0];unfold dS;by_cases hc:i<((ns.map W.int).length:Int)
 ·have q:=fW W.int ns 0 h0 (by rw[GN] at hc;exact hc);refine⟨ns.getD i.toNat 0,?_⟩;simp![tN,decide_eq_true hc,D4 q]
 ·refine⟨0,?_⟩;simp![tN,decide_eq_false hc]
theorem oZ (i:Int):LZ [.int i]=pr (.int (if i<0 then -i else i)):=rfl
noncomputable def Ou (a:Int):Nat->Int
 |0=>a
 |k+1=>if 10 ^ (18:Int).toNat<=a then Ou a k / 1009 else Ou a k
noncomputable def Os (r:Int)(k:Int):Int:=(r % 2147483629+7919 * (k+1) * (k+3)) % 2147483629
noncomputable def Ot (a:Int)(k:Nat):Int:=if 10 ^ (18:Int).toNat<=a then Ou a k % 1009 else (Os (Ou a k) (0+(k:Int)) * Os (Ou a k) (0+(k:Int)) % 2147483587+Os (Ou a k) (0+(k:Int)) / 7) * 48271 % 2147483647 / 16
noncomputable def nums (c:Int)(n:Nat):List Int:=(List.range n).map (Ot (if c<0 then -c else c))
theorem jB (c:Int)(n:Nat):(nums c n).length=n:=by unfold nums;simp
theorem kF {c N:Int}{n:Nat}(hN:N=(n:Int))(hn:n<=60):Ok (bz [.int c,.int N]) h λw h'=>w=.tl ((nums c n).map W.int)/\Fo h.length h h':=by
 have e0:bz [.int c,.int N]=bd (dR [some (.int c),some (.int N),none,none,none,none]) MP:=rfl;rw[e0];unfold dR;have eN:N.toNat=n:=∅;simp!;refine d9 ?_;simp![oZ,ly (show (-(2 ^ 62):Int)<=N by omega) (show N<2 ^ 62 by omega)];unfold nums;generalize hA:(if c<0 then -c else c)=A;refine df (I:=λi ρ h'=> ∃a b,ρ=[some (.int c),some (.int N),some (.loc h.length),some (.int (Ou A i)),a,b]/\h'.length=h.length+1/\(∀j,j<h.length->h'[j]?=h[j]?)/\h'[h.length]?=some (.lst (((List.range i).map (Ot A)).map W.int))) ⟨_,_,rfl,⇑_,λj hj=>by rw[Hg hj],cF⟩ (λ_ _ _ _=>trivial) (λi w ρ h1 hw I=>?_) λρ h1 I=>?_
 ·obtain⟨a,b,rfl,l1,q1,q2⟩:=I;obtain⟨rfl,hi⟩:=f8 _ _ _ _ hw;rw[eN] at hi;refine⟨_,rfl,?_⟩;have er:(List.range (i+1)).map (Ot A)=(List.range i).map (Ot A)++[Ot A i]:=by rw[HW,GX];rfl
  have z:(((List.range i).map (Ot A)).map W.int).length<sizeLine:=by rw[GN,GN,HY];exact Hs (show _<=60 by omega) ↥_
  have fin: ∀x:Int,x=Ot A i->(h1.set h.length (.lst (((List.range i).map (Ot A)).map W.int++[.int x])))[h.length]?=some (.lst (((List.range (i+1)).map (Ot A)).map W.int)):=λx e=>by rw[bh q2,er,e,GX];rfl
  have fr: ∀b:Ob,(h1.set h.length b).length=h.length+1/\ ∀j,j<h.length->(h1.set h.length b)[j]?=h[j]?:=λb=>⟨by rw[Hb];exact l1,λj hj=>by rw[GP ∅];exact q1 j hj⟩
  by_cases c18:10 ^ (18:Int).toNat<=A
  ·have n1:Ot A i=Ou A i % 1009:=by unfold Ot;rw[if_pos c18]
   have n2:Ou A (i+1)=Ou A i / 1009:=by show (if 10 ^ (18:Int).toNat<=A then _ else _)=_;rw[if_pos c18]
   simp![oZ,pT cp18,hA,decide_eq_true c18];refine cz q2 ?_;simp![ak (show (0:Int)<1009 by decide)];refine eg q2 z ?_;simp![cV (show (0:Int)<1009 by decide) ↥_];rw[<-n2];exact ag ⟨_,rfl,_,_,rfl,(fr _).1,(fr _).2,fin _ n1.symm⟩
  ·have n1:Ot A i=(Os (Ou A i) (0+(i:Int)) * Os (Ou A i) (0+(i:Int)) % 2147483587+Os (Ou A i) (0+(i:Int)) / 7) * 48271 % 2147483647 / 16:=by unfold Ot;rw[if_neg c18]
   have n2:Ou A (i+1)=Ou A i:=by show (if 10 ^ (18:Int).toNat<=A then _ else _)=_;rw[if_neg c18]
   simp![oZ,pT cp18,hA,decide_eq_false c18,ak (show (0:Int)<2147483629 by decide),ic (xI (i:=7919) (j:=0+(i:Int)+1) ↥_ ↥_),ic (xH (i:=7919 * (0+(i:Int)+1)) (j:=0+(i:Int)+3) ∅ ∅)];have em:(Ou A i % 2147483629+7919 * (0+(i:Int)+1) * (0+(i:Int)+3)) % 2147483629=Os (Ou A i) (0+(i:Int)):=rfl;have m0:0<=Os (Ou A i) (0+(i:Int)):=Hl _ ↥_;have m1:Os (Ou A i) (0+(i:Int))<2147483629:=Hm _ ↥_;rw[em];generalize Os (Ou A i) (0+(i:Int))=x at *;simp![ic (xI (i:=x) (j:=x) ∅ ∅),ak (show (0:Int)<2147483587 by decide),cV (show (0:Int)<7 by decide) ↥_];refine cz q2 ?_;simp![ic (xH (i:=x * x % 2147483587+x / 7) (j:=48271) ↥_ ↥_),ak (show (0:Int)<2147483647 by decide),cV (show (0:Int)<16 by decide) ↥_];refine eg q2 z ?_;simp!;rw[<-n2];exact ag ⟨_,rfl,_,_,rfl,(fr _).1,(fr _).2,fin _ n1.symm⟩
 ·obtain⟨a,b,rfl,l1,q1,q2⟩:=I;rw[eP,eN] at q2;simp!;refine j2 q2 ?_;simp!;exact ag ⟨rfl,λi hi=>by rw[GP ∅];exact q1 i hi,by rw[Hb,l1];omega⟩
theorem PY (a b c:Str):(a++b)++c=a++(b++c):=nJ (by rw[iV,iV,iV,iV,Hc])
theorem Ql (a b:Str):(a++b).length=a.length+b.length:=Jy
theorem adS {a b:Str}(h:a.length+b.length<=100000):L6 (.str a) (.str b)=pr (.str (a++b)):=ze (sz h)
noncomputable def bn2:List Str:=["n", "nn"]
structure WG (z:Str)(e:Exp):Prop where
 w:Wrd z e
 b: ∀x∈MH e,x∈bn2
 d:MG e<=5
noncomputable def wOk (z:Str):Bool:=match MK z with
 |none=>false
 |some e=>Ml z && (MI e && (decide (MG e<=5) && (decide ((MH e).length<=60) && (MH e).all λx=>decide (x∈bn2))))
theorem BI {z:Str}(h:wOk z=true): ∃e,WG z e:=by
 unfold wOk at h;cases e:MK z with
 |none=>rw[e] at h;cases h
 |some x=>
  rw[e] at h;simp only[Ho,decide_eq_true_eq,HD] at h;obtain⟨h1,h2,h3,h4,h5⟩:=h;exact⟨x,⟨e,.of h1,h2,∅,h4⟩,h5,h3⟩
noncomputable def wS (one more:Str):List Str:=[more,one,one++ "+"++more,one++ "-1", "nn-n", "n*"++more, "2*("++one++ "+1)", "7-"++one]
noncomputable def MO:List Str:=["0", "1", "2", "3"]
theorem Ez: ∀o,o<2-> ∀m,m<4-> ∀i,i<8->wOk ((wS (bn2.getD o "") (MO.getD m "")).getD i "")=true:=⋯
theorem oa: ∀o,o<2->(bn2.getD o "").length<=2:=⋯
theorem lM: ∀m,m<4->(MO.getD m "").length<=1:=⋯
theorem st4 {v:Int}(h0:0<=v)(h1:v<4):QD [.int v]=pr (.str (MO.getD v.toNat "")):=by
 have:v=0\/v=1\/v=2\/v=3:=∅;rcases this with rfl|rfl|rfl|rfl<;>exact wj ↥_
theorem O4 {v:Int}(h0:0<=v)(h1:v<2):ixW (.tl [.str "n",.str "nn"]) (.int v)=pr (.str (bn2.getD v.toNat "")):=cp (fW W.str bn2 "" h0 h1)
theorem mV {v:Int}(h0:0<=v)(h1:v<2):bn2.getD v.toNat ""∈bn2/\aV (bn2.getD v.toNat "")=true:=by
 have:v=0\/v=1:=∅;rcases this with rfl|rfl<;>decide+kernel
theorem NB:(("+":Str).length=1/\("-1":Str).length=2/\("n*":Str).length=2/\("2*(":Str).length=3/\("+1)":Str).length=3/\("7-":Str).length=2)/\("say ":Str).length=4/\("ask ":Str).length=4/\("put ":Str).length=4/\(" ":Str).length=1/\("go ":Str).length=3/\("if ":Str).length=3/\(" else ":Str).length=6/\("block ":Str).length=6:=⋯
theorem nG (a b c:Int)(l:List W): ∃z e,cP [.tl (.int a::.int b::.int c::l)]=pr (.str z)/\WG z e:=by
 have a0:=Hl a (show (8:Int)≠0 by decide);have a1:=Hm a (show (0:Int)<8 by decide);have b0:=Hl b (show (2:Int)≠0 by decide);have b1:=Hm b (show (0:Int)<2 by decide);have c0:=Hl c (show (4:Int)≠0 by decide);have c1:=Hm c (show (0:Int)<4 by decide);obtain⟨e,w⟩:=BI (Ez (b % 2).toNat ∅ (c % 4).toNat ∅ (a % 8).toNat ∅);refine⟨_,e,?_,w⟩;have e0:cP [.tl (.int a::.int b::.int c::l)]=bd (gz [some (.tl (.int a::.int b::.int c::l)),none,none,none]) MP:=rfl;rw[e0];unfold gz;have l1:=oa (b % 2).toNat ∅;have l2:=lM (c % 4).toNat ∅;have p2:=O4 b0 b1;have s4:=st4 c0 c1;obtain⟨⟨k1,k2,k3,k4,k5,k6⟩,_⟩:=NB;generalize bn2.getD (b % 2).toNat ""=one at *;generalize MO.getD (c % 4).toNat ""=more at *;have ix:ixW (.tl [.str more,.str one,.str (one++ "+"++more),.str (one++ "-1"),.str "nn-n",.str ("n*"++more),.str ("2*("++one++ "+1)"),.str ("7-"++one)]) (.int (a % 8))=pr (.str ((wS one more).getD (a % 8).toNat "")):=cp (fW W.str (wS one more) "" a0 a1);simp![tx0,tx1,tx2,ak (show (0:Int)<2 by decide),ak (show (0:Int)<4 by decide),ak (show (0:Int)<8 by decide),p2,s4,adS (a:=one) (b:= "+") ∅,adS (a:=one++ "+") (b:=more) (by rw[Ql];omega),adS (a:=one) (b:= "-1") ∅,adS (a:= "n*") (b:=more) ∅,adS (a:= "2*(") (b:=one) ∅,adS (a:= "2*("++one) (b:= "+1)") (by rw[Ql];omega),adS (a:= "7-") (b:=one) ∅,ix]
theorem WG.len {z:Str}(g:WG z e):z.length<=60:=g.w.c.len
theorem NC:(("say ":Str)= "say"++⟨#[32]⟩/\("ask ":Str)= "ask"++⟨#[32]⟩/\("put ":Str)= "put"++⟨#[32]⟩/\("go ":Str)= "go"++⟨#[32]⟩)/\("if ":Str)= "if"++⟨#[32]⟩/\(" else ":Str)=⟨#[32]⟩++("else"++⟨#[32]⟩)/\("block ":Str)= "block"++⟨#[32]⟩/\(" < ":Str)=⟨#[32]⟩++("<"++⟨#[32]⟩)/\(" = ":Str)=⟨#[32]⟩++("="++⟨#[32]⟩):=⋯
noncomputable def Rr.dep:Rr->Nat
 |.put _ _ e=>MG e
 |.say _ e=>MG e
 |.iff _ _ e1 _ e2 _ _=>max (MG e1) (MG e2)
 |.table _ e _=>MG e
 |_=>0
structure RG (r:Rr):Prop where
 ok:r.Ok
 b: ∀x∈r.bxs,x∈bn2
 d:r.dep<=5
theorem B4 (z:Str)(e:Exp):(Rr.say z e).tx= "say "++z:=by rw[NC.1.1];rfl
theorem Er (z:Str):(Rr.ask z).tx= "ask "++z:=by rw[NC.1.2.1];rfl
theorem Cb (x z:Str)(e:Exp):(Rr.put x z e).tx= "put "++x++ " "++z:=by
 rw[NC.1.2.2.1,sO];show "put"++⟨#[32]⟩++(x++⟨#[32]⟩++z)=_;simp only[PY]
theorem Fy (z:Str):(Rr.go z).tx= "go "++z:=by rw[NC.1.2.2.2];rfl
theorem y9 (z:Str):(Rr.block z).tx= "block "++z:=by rw[NC.2.2.2.1];rfl
theorem wn (p q r:Int): ∃R:Rr,bH [.tl [.int p,.int q,.int r]]=pr (.str R.tx)/\R.stm=true/\RG R:=by
 have e0:bH [.tl [.int p,.int q,.int r]]=bd (da [some (.tl [.int p,.int q,.int r]),none]) MP:=rfl;rw[e0];unfold da;obtain⟨z,e,ew,g⟩:=nG p q r [];have zl:=g.len;have k0:=Hl (p / 8) (show (4:Int)≠0 by decide);have k1:=Hm (p / 8) (show (0:Int)<4 by decide);obtain⟨_,l1,l2,l3,l4,_⟩:=NB;by_cases c0:p / 8 % 4=0
 ·refine⟨.say z e,?_,rfl,g.w,g.b,g.d⟩;rw[B4];simp![tx0,cV (show (0:Int)<8 by decide) ↥_,ak (show (0:Int)<4 by decide),decide_eq_true c0,ew,adS (a:= "say ") (b:=z) ∅]
 by_cases c1:p / 8 % 4=1
 ·have r0:=Hl r (show (2:Int)≠0 by decide);have r1:=Hm r (show (0:Int)<2 by decide);have m:=mV r0 r1;have l:=oa (r % 2).toNat ∅;have p2:=O4 r0 r1;generalize bn2.getD (r % 2).toNat ""=one at *;refine⟨.ask one,?_,rfl,m.2,λx hx=>by rw[Hh.mp hx];exact m.1,G8 _⟩;rw[Er];simp![tx0,tx2,cV (show (0:Int)<8 by decide) ↥_,ak (show (0:Int)<4 by decide),ak (show (0:Int)<2 by decide),decide_eq_false c0,decide_eq_true c1,p2,adS (a:= "ask ") (b:=one) ∅]
 ·have r0:=Hl (r / 4) (show (2:Int)≠0 by decide);have r1:=Hm (r / 4) (show (0:Int)<2 by decide);have m:=mV r0 r1;have l:=oa (r / 4 % 2).toNat ∅;have p2:=O4 r0 r1;generalize bn2.getD (r / 4 % 2).toNat ""=one at *;refine⟨.put one z e,?_,rfl,⟨m.2,g.w⟩,λx hx=>?_,g.d⟩
  ·rw[Cb];simp![tx0,tx2,cV (show (0:Int)<8 by decide) ↥_,cV (show (0:Int)<4 by decide) ↥_,ak (show (0:Int)<4 by decide),ak (show (0:Int)<2 by decide),decide_eq_false c0,decide_eq_false c1,p2,ew,adS (a:= "put ") (b:=one) ∅,adS (a:= "put "++one) (b:= " ") (by rw[Ql];omega),adS (a:= "put "++one++ " ") (b:=z) (by rw[Ql,Ql];omega)]
  ·rcases GR.mp hx with rfl|hx
   ·exact m.1
   ·exact g.b x hx
end
section
open Wd
theorem Fw (s z1 z2 x y:Str)(e1 e2:Exp):(Rr.iff s z1 e1 z2 e2 x y).tx= "if "++(z1++(⟨#[32]⟩++(s++⟨#[32]⟩))++z2)++ " "++x++ " else "++y:=by
 rw[NC.2.1,NC.2.2.1,sO];show "if"++⟨#[32]⟩++(z1++⟨#[32]⟩++(s++⟨#[32]⟩++(z2++⟨#[32]⟩++(x++⟨#[32]⟩++("else"++⟨#[32]⟩++y)))))=_;simp only[PY]
theorem A9 {α:Type}(l:List α){v:Int}(h0:0<=v):(Ms l none (some v)).length<=v.toNat/\ ∀x∈Ms l none (some v),x∈l:=by
 unfold Ms;refine⟨?_,λx hx=>List.mem_of_mem_drop (JU hx)⟩;rw[Hr];have:HT.sIx l.length l.length (some v)<=v.toNat:=by
  show (if v<0 then (v+(l.length:Int)).toNat else min v.toNat l.length)<=_;rw[if_neg ∅];omega
 show min (HT.sIx l.length l.length (some v) - HT.sIx l.length 0 none) _<=_;omega
theorem sgn2 {v:Int}(h0:0<=v)(h1:v<2): ∃s:Str,ixW (.tl [.str " < ",.str " = "]) (.int v)=pr (.str (⟨#[32]⟩++(s++⟨#[32]⟩)))/\(s= "<"\/s= "=")/\s.length=1:=by
 have:v=0\/v=1:=∅;rcases this with rfl|rfl
 ·exact⟨"<",by rw[tx0,NC.2.2.2.2.1],.inl rfl,⋯⟩
 ·exact⟨"=",by rw[tx1,NC.2.2.2.2.2],.inr rfl,⋯⟩
theorem tK {ns:List Str}{x N:Int}(hN:N=(ns.length:Int))(l1:1<=ns.length): ∃s∈ns,ixW (.tl (ns.map W.str)) (.int (x % N))=pr (.str s):=by
 have a0:=Hl x (show N≠0 by omega);have a1:=Hm x (show 0<N by omega);have hi:(x % N).toNat<ns.length:=∅;exact⟨ns[(x % N).toNat],Iv _,cp (bf a0 (by rw[GW,G0 hi];rfl))⟩
theorem tx7 (a b c d e f g h:W)(l:List W):ixW (.tl (a::b::c::d::e::f::g::h::l)) (.int 7)=pr h:=cp (bf ↥_ rfl)
theorem tx8 (a b c d e f g h i:W)(l:List W):ixW (.tl (a::b::c::d::e::f::g::h::i::l)) (.int 8)=pr i:=cp (bf ↥_ rfl)
theorem tx9 (a b c d e f g h i j:W)(l:List W):ixW (.tl (a::b::c::d::e::f::g::h::i::j::l)) (.int 9)=pr j:=cp (bf ↥_ rfl)
theorem QU (a b c d e f g h i j k:W)(l:List W):ixW (.tl (a::b::c::d::e::f::g::h::i::j::k::l)) (.int 10)=pr k:=cp (bf ↥_ rfl)
section
variable (x0 x1 x2 x3 x4 x5 x6 x7 x8 x9 x10 x11:W)
theorem Mp:Ms [x0,x1,x2,x3,x4,x5,x6,x7,x8,x9,x10,x11] (some 9) (some 12)=[x9,x10,x11]:=rfl
theorem yQ:Ms [x0,x1,x2,x3,x4,x5,x6,x7,x8,x9,x10,x11] (some 10) (some 12)=[x10,x11]:=rfl
theorem ct01:Ms [x0,x1,x2,x3,x4,x5,x6,x7,x8,x9,x10,x11] none (some 1)=[x0]:=rfl
theorem ct14:Ms [x0,x1,x2,x3,x4,x5,x6,x7,x8,x9,x10,x11] (some 1) (some 4)=[x1,x2,x3]:=rfl
theorem ct47:Ms [x0,x1,x2,x3,x4,x5,x6,x7,x8,x9,x10,x11] (some 4) (some 7)=[x4,x5,x6]:=rfl
end
theorem ad21 (a b c:W):L6 (.tl [a,b]) (.tl [c])=pr (.tl [a,b,c]):=oY [a,b] [c] (sz (by show 2+1<=_;omega))
theorem yZ {a b:List Str}(h:∀x∈a,x∈bn2)(g:∀x∈b,x∈bn2): ∀x∈a++b,x∈bn2:=λx hx=>by
 rcases HM.mp hx with hx|hx
 ·exact h x hx
 ·exact g x hx
theorem o8: ∀ {l:List Str},(∀z∈l,z.length<=60)->(l.map (·.length)).sum<=60 * l.length
 |[],_=>⇑_
 |z::l,h=>by
  have a:=h z GY;have b:=o8 (l:=l) λz hz=>h z (G9 _ hz);rw[GV,Ip,GT,Jh];omega
theorem AD {ns:List Str}(x0 x1 x2 x3 x4 x5 x6 x7 x8 x9 x10 x11:Int)(l1:1<=ns.length)(l2:ns.length<=10)(nm: ∀x∈ns,aV x=true): ∃R:Rr,gc [.tl [.int x0,.int x1,.int x2,.int x3,.int x4,.int x5,.int x6,.int x7,.int x8,.int x9,.int x10,.int x11],.tl (ns.map W.str)]=pr (.str R.tx)/\R.end'=true/\RG R/\ ∀x∈R.tos,x∈ns:=by
 have e0:gc [.tl [.int x0,.int x1,.int x2,.int x3,.int x4,.int x5,.int x6,.int x7,.int x8,.int x9,.int x10,.int x11],.tl (ns.map W.str)]=bd (iN [some (.tl [.int x0,.int x1,.int x2,.int x3,.int x4,.int x5,.int x6,.int x7,.int x8,.int x9,.int x10,.int x11]),some (.tl (ns.map W.str)),none,none,none,none,none,none]) MP:=rfl;rw[e0];unfold iN;obtain⟨N,hN⟩: ∃N:Int,N=(ns.length:Int):=⟨_,rfl⟩
 have N0:0<N:=∅;have eL:NM [.tl (ns.map W.str)]=pr (.int N):=by rw[lenW_tl,GN,hN]
 obtain⟨one,m1,i1⟩:=tK (x:=x8) hN l1;obtain⟨other,m2,i2⟩:=tK (x:=x9) hN l1;have o1:=(cA (nm one m1)).len;have o2:=(cA (nm other m2)).len;have v0:=Hl x10 (show (3:Int)≠0 by decide);have v1:=Hm x10 (show (0:Int)<3 by decide);obtain⟨f1,f2⟩:=A9 ns v0;have cm:=ug W.str ns none (some (x10 % 3));have sl:slW (.tl (ns.map W.str)) none (some (x10 % 3))=pr (.tl ((Ms ns none (some (x10 % 3))).map W.str)):=by rw[slW_tl,cm]
 generalize Ms ns none (some (x10 % 3))=few at *;generalize W.tl (ns.map W.str)=NW at *;obtain⟨w1,e1,ew1,g1⟩:=nG x9 x10 x11 [];obtain⟨w2,e2,ew2,g2⟩:=nG x10 x11 x0 [];have z1:=g1.len;have z2:=g2.len;obtain⟨_,_,_,_,k4,k5,k6,k7,_⟩:=NB;have k8:=Hm x7 (show (0:Int)<8 by decide);by_cases c2:x7 % 8<2
 ·refine⟨.go one,?_,rfl,⟨nm one m1,λx hx=>absurd hx Hj,G8 _⟩,λx hx=>by rw[Hh.mp hx];exact m1⟩;rw[Fy];simp![tx7,tx8,tx9,QU,eL,ak N0,ak (show (0:Int)<8 by decide),i1,i2,decide_eq_true c2,adS (a:= "go ") (b:=one) ∅]
 by_cases c5:x7 % 8=5
 ·refine⟨.table w1 e1 (one::other::few),?_,rfl,⟨⟨g1.w,⇑_,by rw[GT,GT];omega,λx hx=>?_⟩,g1.b,g1.d⟩,λx hx=>?_⟩
  ·have gl: ∀ {α:Type} (q:M α),gd (0+1+1+1+1+(few.map W.str).length<=sizeLine) q=q:=λq=>ah (by rw[GN];exact sz ∅);have jw:Nv (.str " ") [.tl ([W.str "table",W.str w1,W.str one,W.str other]++few.map W.str)]=pr (.str (Str.join " " ("table"::w1::one::other::few))):=by
    refine yj (ts:= "table"::w1::one::other::few) (sz ?_);have fl: ∀z∈few,z.length<=60:=λz hz=>(cA (nm z (f2 z hz))).len;have fs:=o8 fl;have t5:("table":Str).length=5:=⋯;simp only[GV,Ip,GT];rw[k4];omega
   simp![tx7,tx8,tx9,QU,eL,ak N0,ak (show (0:Int)<8 by decide),ak (show (0:Int)<3 by decide),i1,i2,decide_eq_false c2,decide_eq_true c5,Mp,ew1,sl,Mh,oq,gl,jw];rw[sO];rfl
  ·rcases GR.mp hx with rfl|hx
   ·exact nm _ m1
   ·rcases GR.mp hx with rfl|hx
    ·exact nm _ m2
    ·exact nm _ (f2 x hx)
  ·rcases GR.mp hx with rfl|hx
   ·exact m1
   ·rcases GR.mp hx with rfl|hx
    ·exact m2
    ·exact f2 x hx
 by_cases c6:x7 % 8=6
 ·refine⟨.stop,?_,rfl,⟨trivial,λx hx=>absurd hx Hj,G8 _⟩,λx hx=>absurd hx Hj⟩;simp![tx7,tx8,tx9,QU,eL,ak N0,ak (show (0:Int)<8 by decide),i1,i2,decide_eq_false c2,decide_eq_false c5,decide_eq_true c6];rfl
 ·have s0:=Hl (x10 / 8) (show (2:Int)≠0 by decide);have s1:=Hm (x10 / 8) (show (0:Int)<2 by decide);obtain⟨s,es,hs,ls⟩:=sgn2 s0 s1;have sgl:((⟨#[32]⟩:Str)++(s++⟨#[32]⟩)).length=3:=by rw[Ql,Ql,ls];rfl
  have tx:=λy=>Fw s w1 w2 one y e1 e2;generalize ((⟨#[32]⟩:Str)++(s++⟨#[32]⟩))=sg at *;by_cases c7:x7 % 8=7
  ·refine⟨.iff s w1 e1 w2 e2 one one,?_,rfl,⟨⟨hs,g1.w,g2.w,nm one m1,nm one m1⟩,yZ g1.b g2.b,Nat.max_le.mpr ⟨g1.d,g2.d⟩⟩,λx hx=>by rcases GR.mp hx with rfl|hx;exact m1;rw[Hh.mp hx];exact m1⟩;rw[tx];simp![tx7,tx8,tx9,QU,eL,ak N0,ak (show (0:Int)<8 by decide),ak (show (0:Int)<2 by decide),cV (show (0:Int)<8 by decide) ↥_,i1,i2,decide_eq_false c2,decide_eq_false c5,decide_eq_false c6,decide_eq_true c7,es,Mp,yQ,ct01,ad21,ew1,ew2,adS (a:=w1) (b:=sg) ∅,adS (a:=w1++sg) (b:=w2) (by rw[Ql];omega),adS (a:= "if ") (b:=w1++sg++w2) (by rw[Ql,Ql];omega),adS (a:= "if "++(w1++sg++w2)) (b:= " ") (by rw[Ql,Ql,Ql];omega),adS (a:= "if "++(w1++sg++w2)++ " ") (b:=one) (by rw[Ql,Ql,Ql,Ql];omega),adS (a:= "if "++(w1++sg++w2)++ " "++one) (b:= " else ") (by rw[Ql,Ql,Ql,Ql,Ql];omega),adS (a:= "if "++(w1++sg++w2)++ " "++one++ " else ") (b:=one) (by rw[Ql,Ql,Ql,Ql,Ql,Ql];omega)]
  ·refine⟨.iff s w1 e1 w2 e2 one other,?_,rfl,⟨⟨hs,g1.w,g2.w,nm one m1,nm other m2⟩,yZ g1.b g2.b,Nat.max_le.mpr ⟨g1.d,g2.d⟩⟩,λx hx=>by rcases GR.mp hx with rfl|hx;exact m1;rw[Hh.mp hx];exact m2⟩;rw[tx];simp![tx7,tx8,tx9,QU,eL,ak N0,ak (show (0:Int)<8 by decide),ak (show (0:Int)<2 by decide),cV (show (0:Int)<8 by decide) ↥_,i1,i2,decide_eq_false c2,decide_eq_false c5,decide_eq_false c6,decide_eq_false c7,es,Mp,yQ,ct01,ad21,ew1,ew2,adS (a:=w1) (b:=sg) ∅,adS (a:=w1++sg) (b:=w2) (by rw[Ql];omega),adS (a:= "if ") (b:=w1++sg++w2) (by rw[Ql,Ql];omega),adS (a:= "if "++(w1++sg++w2)) (b:= " ") (by rw[Ql,Ql,Ql];omega),adS (a:= "if "++(w1++sg++w2)++ " ") (b:=one) (by rw[Ql,Ql,Ql,Ql];omega),adS (a:= "if "++(w1++sg++w2)++ " "++one) (b:= " else ") (by rw[Ql,Ql,Ql,Ql,Ql];omega),adS (a:= "if "++(w1++sg++w2)++ " "++one++ " else ") (b:=other) (by rw[Ql,Ql,Ql,Ql,Ql,Ql];omega)]
noncomputable def nmA:List Str:=["a", "b", "c", "d", "e", "f", "g", "h", "i", "j"]
noncomputable def nmB:List Str:=["top", "t", "ab", "a", "zed", "n", "nn", "out", "mid", "x"]
noncomputable def nmL (i:Nat):List Str:=[nmA,nmB,nmA.reverse,nmB.reverse].getD i []
theorem C7: ∀i,i<4->(nmL i).length=10/\(nmL i).all aV=true/\(nmL i).Nodup:=⋯
theorem xE (x:Int):dZ [.int x]=pr (.tl ((nmL (x % 4).toNat).map W.str)):=by
 have e0:dZ [.int x]=bd (eY [some (.int x),none,none]) MP:=rfl;rw[e0];unfold eY;have a0:=Hl x (show (4:Int)≠0 by decide);have a1:=Hm x (show (0:Int)<4 by decide);have rv: ∀l:List W,Pl (.tl l) (some (-1))=pr (.tl l.reverse):=λl=>rfl;have ix:ixW (.tl [.tl (nmA.map W.str),.tl (nmB.map W.str),.tl (nmA.map W.str).reverse,.tl (nmB.map W.str).reverse]) (.int (x % 4))=pr (.tl ((nmL (x % 4).toNat).map W.str)):=by
  rw[<-List.map_reverse,<-List.map_reverse];exact cp (fW (λl:List Str=>W.tl (l.map W.str)) [nmA,nmB,nmA.reverse,nmB.reverse] [] a0 a1)
 have ea:[W.str "a",W.str "b",W.str "c",W.str "d",W.str "e",W.str "f",W.str "g",W.str "h",W.str "i",W.str "j"]=nmA.map W.str:=rfl;have eb:[W.str "top",W.str "t",W.str "ab",W.str "a",W.str "zed",W.str "n",W.str "nn",W.str "out",W.str "mid",W.str "x"]=nmB.map W.str:=rfl;simp!;rw[ea,eb];generalize nmA.map W.str=LA at *;generalize nmB.map W.str=LB at *;simp![Of,rv,ak (show (0:Int)<4 by decide),ix]
theorem ln12: ∀ {l:List Int},l.length=12-> ∃a b c d e f g h i j k m,l=[a,b,c,d,e,f,g,h,i,j,k,m]
 |[a,b,c,d,e,f,g,h,i,j,k,m],_=>⟨a,b,c,d,e,f,g,h,i,j,k,m,rfl⟩
theorem ln4': ∀ {l:List Int},l.length=4-> ∃a b c d,l=[a,b,c,d]
 |[a,b,c,d],_=>⟨a,b,c,d,rfl⟩
structure BtL (ns:List Str)(b:Bt):Prop where
 g:BtG bn2 ns b
 l:b.ss.length<=2
 d:(∀r∈b.ss,r.dep<=5)/\b.e.dep<=5
noncomputable def bT:Lx->M Fl:=(PU (PV 6 (NU (arW 2 bz) (NX (NU (arW 2 bP) (NX ↥0 (NX (m2 L6 ⇑1 ↥5) N9))) (NX ⇑12 N9)))) (PU (sEx (N7 isL ba ↥4 (NX (m2 L6 ⇑"block " (m2 ixW ↥3 ↥5)) N9))) (PU (sIf (mB (m2 gtW (m2 On (m2 ixW ↥6 ⇑0) ⇑3) ⇑0)) (sEx (N7 isL ba ↥4 (NX (NU (arW 1 bH) (NX (m3 slW ↥6 (Oe ⇑1) (Oe ⇑4)) N9)) N9))) PP) (PU (sIf (mB (m2 gtW (m2 On (m2 ixW ↥6 ⇑0) ⇑3) ⇑1)) (sEx (N7 isL ba ↥4 (NX (NU (arW 1 bH) (NX (m3 slW ↥6 (Oe ⇑4) (Oe ⇑7)) N9)) N9))) PP) (sEx (N7 isL ba ↥4 (NX (NU (arW 2 gc) (NX ↥6 (NX ↥3 N9))) N9)))))))
theorem lE:gA=(PU (PV 2 (NU (arW 2 bz) (NX (NU (arW 2 bP) (NX ↥0 (NX ⇑0 N9))) (NX ⇑4 N9)))) (PU (PV 3 (m3 slW (NU (arW 1 dZ) (NX (m2 ixW ↥2 ⇑0) N9)) az (Oe (m2 L6 ⇑1 (m2 On (m2 ixW ↥2 ⇑1) ↥1))))) (PU (PV 4 (N8 (NK (NX (m2 L6 ⇑"box n " (NU QD (NX (m2 On (m2 ixW ↥2 ⇑2) ⇑3) N9))) (NX (m2 L6 ⇑"box nn " (NU QD (NX (m2 On (m2 ixW ↥2 ⇑3) ⇑4) N9))) N9))))) (PU (PM (Oh (NX (NU NM (NX ↥3 N9)) N9) Pm) (tgN 5) bT) (PQ (N7 isS Nv ⇑"\n" (NX ↥4 N9))))))):=rfl
theorem Bd (sc:List Int){ns:List Str}{k:Nat}{nm:Str}(hk:ns[k]?=some nm)(l2:ns.length<=10)(na: ∀x∈ns,aV x=true): ∃b:Bt,b.nm=nm/\BtL ns b/\ ∀ (h:List Ob) (j:Nat) (L:List Str) (a mo hd:Option W),h[j]?=some (.lst (L.map W.str))->L.length<=200->
  Ok (bT [some (.cl (sc.map W.int)),mo,hd,some (.tl (ns.map W.str)),some (.loc j),some (.int (0+(k:Int))),a]) h λx h'=>(∃a',x=.nx [some (.cl (sc.map W.int)),mo,hd,some (.tl (ns.map W.str)),some (.loc j),some (.int (0+(k:Int))),a'])/\h'[j]?=some (.lst ((L++b.rows.map Rr.tx).map W.str))/\(∀i,i<h.length->i≠j->h'[i]?=h[i]?)/\h.length<=h'.length:=by
 obtain⟨c,ec⟩:=oN sc (1+(0+(k:Int))) ∅;obtain⟨x0,x1,x2,x3,x4,x5,x6,x7,x8,x9,x10,x11,ex⟩:=ln12 (jB c 12);have hl:=(G1.mp hk).1;obtain⟨R1,es1,st1,g1⟩:=wn x1 x2 x3;obtain⟨R2,es2,st2,g2⟩:=wn x4 x5 x6;obtain⟨R,ee,en,g,to⟩:=AD x0 x1 x2 x3 x4 x5 x6 x7 x8 x9 x10 x11 (ns:=ns) ∅ l2 na;have nm1:=na nm (Hi hk);have nl:=(cA nm1).len;have v0:=Hl x0 (show (3:Int)≠0 by decide);have v1:=Hm x0 (show (0:Int)<3 by decide);have ik:ixW (.tl (ns.map W.str)) (.int (0+(k:Int)))=pr (.str nm):=cp (bf ∅ (by rw[GW,show (0+(k:Int)).toNat=k by omega,hk];rfl));have kb:("block ":Str).length=6:=NB.2.2.2.2.2.2.2.2;have ss: ∀ {h:List Ob}{j:Nat}{L:List Str}{z:Str}{β:Type}{k:W->M β}{Q:β->List Ob->Prop},h[j]?=some (.lst (L.map W.str))->L.length<=300->(∀h',h'[j]?=some (.lst ((L++[z]).map W.str))->(∀i,i≠j->h'[i]?=h[i]?)->h'.length=h.length->Ok (k .non) h' Q)->Ok (bd (ba (.loc j) [.str z]) k) h Q:=λ{h j L z β k Q} e l q=>by
  refine eg e (by rw[GN];exact Hs l ↥_) (q _ ?_ (λi hi=>GP (Ne.symm hi)) (Hb ..));rw[bh e,GX];rfl
 refine⟨⟨nm,if x0 % 3=0 then [] else if x0 % 3=1 then [R1] else [R1,R2],R⟩,rfl,⟨⟨nm1,?_,?_,⟨en,g.ok,g.b,to⟩⟩,?_,?_,g.d⟩,λh j L a mo hd ej lL=>?_⟩
 ·show (if x0 % 3=0 then [] else if x0 % 3=1 then [R1] else [R1,R2]).length<=8;split
  ·simp
  ·split<;>simp
 ·intro r hr;have hr:r∈(if x0 % 3=0 then [] else if x0 % 3=1 then [R1] else [R1,R2]):=hr;have two:r∈[R1,R2]->r.stm=true/\r.Ok/\ ∀x∈r.bxs,x∈bn2:=λhm=>by
   rcases GR.mp hm with rfl|hm
   ·exact⟨st1,g1.ok,g1.b⟩
   ·rw[Hh.mp hm];exact⟨st2,g2.ok,g2.b⟩
  split at hr
  ·exact absurd hr Hj
  ·split at hr
   ·exact two (by rw[Hh.mp hr];exact GY)
   ·exact two hr
 ·show (if x0 % 3=0 then [] else if x0 % 3=1 then [R1] else [R1,R2]).length<=2;split
  ·simp
  ·split<;>simp
 ·intro r hr;have hr:r∈(if x0 % 3=0 then [] else if x0 % 3=1 then [R1] else [R1,R2]):=hr;have two:r∈[R1,R2]->r.dep<=5:=λhm=>by
   rcases GR.mp hm with rfl|hm
   ·exact g1.d
   ·rw[Hh.mp hm];exact g2.d
  split at hr
  ·exact absurd hr Hj
  ·split at hr
   ·exact two (by rw[Hh.mp hr];exact GY)
   ·exact two hr
 unfold bT;have em:(nums c 12).map W.int=[.int x0,.int x1,.int x2,.int x3,.int x4,.int x5,.int x6,.int x7,.int x8,.int x9,.int x10,.int x11]:=by rw[ex];rfl
 simp![ec];refine aD (kF (n:=12) rfl ↥_) λw h1 qq_=>?_;obtain⟨ew,F⟩:=qq_;subst ew;rw[em];have e1:h1[j]?=some (.lst (L.map W.str)):=(F.eq j (bL ej)).trans ej;have bt:=y9 nm;simp!;refine cz e1 ?_;simp![ik,adS (a:= "block ") (b:=nm) ∅];rw[<-bt];refine ss e1 ∅ λh2 e2 f2 l2'=>?_;have lL2:(L++[(Rr.block nm).tx]).length<=201:=by rw[GQ,Hq];omega
 by_cases c0:x0 % 3=0
 ·simp![tx0,ak (show (0:Int)<3 by decide),decide_eq_false (show¬(0:Int)<x0 % 3 by omega),decide_eq_false (show¬(1:Int)<x0 % 3 by omega)];refine cz e2 ?_;simp![ee];refine ss e2 ∅ λh3 e3 f3 l3=>?_;simp!;refine ag ⟨⟨_,rfl⟩,?_,λi hi hj=>?_,?_⟩
  ·rw[e3,if_pos c0,Hc];rfl
  ·rw[f3 i hj,f2 i hj];exact F.eq i hi
  ·rw[l3,l2'];exact F.le
 by_cases c1:x0 % 3=1
 ·simp![tx0,ak (show (0:Int)<3 by decide),decide_eq_true (show (0:Int)<x0 % 3 by omega),decide_eq_false (show¬(1:Int)<x0 % 3 by omega)];refine cz e2 ?_;simp![ct14,es1];refine ss e2 ∅ λh3 e3 f3 l3=>?_;simp![tx0,ak (show (0:Int)<3 by decide),decide_eq_false (show¬(1:Int)<x0 % 3 by omega)];refine cz e3 ?_;simp![ee];refine ss e3 (by rw[GQ,Hq];omega) λh4 e4 f4 l4=>?_;simp!;refine ag ⟨⟨_,rfl⟩,?_,λi hi hj=>?_,?_⟩
  ·rw[e4,if_neg c0,if_pos c1,Hc,Hc];rfl
  ·rw[f4 i hj,f3 i hj,f2 i hj];exact F.eq i hi
  ·rw[l4,l3,l2'];exact F.le
 ·simp![tx0,ak (show (0:Int)<3 by decide),decide_eq_true (show (0:Int)<x0 % 3 by omega),decide_eq_true (show (1:Int)<x0 % 3 by omega)];refine cz e2 ?_;simp![ct14,es1];refine ss e2 ∅ λh3 e3 f3 l3=>?_;simp![tx0,ak (show (0:Int)<3 by decide),decide_eq_true (show (1:Int)<x0 % 3 by omega)];refine cz e3 ?_;simp![ct47,es2];refine ss e3 (by rw[GQ,Hq];omega) λh4 e4 f4 l4=>?_;simp!;refine cz e4 ?_;simp![ee];refine ss e4 (by rw[GQ,GQ,Hq,Hq];omega) λh5 e5 f5 l5=>?_;simp!;refine ag ⟨⟨_,rfl⟩,?_,λi hi hj=>?_,?_⟩
  ·rw[e5,if_neg c0,if_neg c1,Hc,Hc,Hc];rfl
  ·rw[f5 i hj,f4 i hj,f3 i hj,f2 i hj];exact F.eq i hi
  ·rw[l5,l4,l3,l2'];exact F.le
theorem jN {α:Type}(l:List α){v:Int}(h0:0<=v):Ms l none (some v)=l.take v.toNat:=by
 unfold Ms;show List.take ((if v<0 then (v+(l.length:Int)).toNat else min v.toNat l.length) - 0) (l.drop 0)=_;rw[if_neg ∅,IF,Nat.sub_zero];by_cases h:v.toNat<=l.length
 ·rw[Nat.min_eq_left h]
 ·rw[Nat.min_eq_right ∅,Hk,JP ∅]
theorem y8 (x v:Str):(Rr.box x v).tx= "box"++⟨#[32]⟩++(x++⟨#[32]⟩++v):=rfl
theorem Fu:("box n ":Str)= "box"++⟨#[32]⟩++("n"++⟨#[32]⟩)/\("box nn ":Str)= "box"++⟨#[32]⟩++("nn"++⟨#[32]⟩)/\("box n ":Str).length=6/\("box nn ":Str).length=7:=⋯
theorem t7: ∀m,m<4->Ox (MO.getD m "")=true:=⋯
theorem Ma:aV "n"=true/\aV "nn"=true/\(["n", "nn"]:List Str).Nodup:=⋯
structure TxG (most:Nat)(bx:List (Str×Str))(bl:List Bt):Prop where
 g:PtxG bx bl
 b: ∀b∈bl,BtL (bl.map Bt.nm) b
 n:bx.map (·.1)=bn2
 l:bl.length<=most
theorem zm (sc:List Int){most:Nat}{MM:Int}(hM:MM=(most:Int))(m1:1<=most)(m2:most<=10): ∃bx bl,TxG most bx bl/\ ∀h:List Ob,Ok (eR [.cl (sc.map W.int),.int MM]) h λw h'=>w=.str (QP (pgR bx bl))/\Fo h.length h h':=by
 obtain⟨c,ec⟩:=oN sc 0 ∅;obtain⟨y0,y1,y2,y3,ey⟩:=ln4' (jB c 4);have i0:=Hl y0 (show (4:Int)≠0 by decide);have i1:=Hm y0 (show (0:Int)<4 by decide);obtain⟨nl,na,nd⟩:=C7 (y0 % 4).toNat ∅;have na:=HD.mp na;have v0:=Hl y1 (show MM≠0 by omega);have v1:=Hm y1 (show 0<MM by omega);have hn:=xE y0;obtain⟨ns,hns⟩: ∃ns,ns=(nmL (y0 % 4).toNat).take (1+y1 % MM).toNat:=⟨_,rfl⟩
 have ln:ns.length=(1+y1 % MM).toNat:=by rw[hns,Hr,nl];omega
 have nn: ∀x∈ns,aV x=true:=λx hx=>by rw[hns] at hx;exact na x (JU hx)
 have ndn:ns.Nodup:=by rw[hns];exact nd.sublist (Jw _ _)
 have sl:slW (.tl ((nmL (y0 % 4).toNat).map W.str)) none (some (1+y1 % MM))=pr (.tl (ns.map W.str)):=by
  rw[slW_tl,jN _ ∅,<-Iu,<-hns]
 generalize nmL (y0 % 4).toNat=NL at *;have s0:=Hl y2 (show (3:Int)≠0 by decide);have s1:=Hm y2 (show (0:Int)<3 by decide);have t0:=Hl y3 (show (4:Int)≠0 by decide);have t1:=Hm y3 (show (0:Int)<4 by decide);have sv:=st4 s0 (show y2 % 3<4 by omega);have tv:=st4 t0 t1;have n2:=t7 (y2 % 3).toNat ∅;have n3:=t7 (y3 % 4).toNat ∅;have l2:=lM (y2 % 3).toNat ∅;have l3:=lM (y3 % 4).toNat ∅;generalize MO.getD (y2 % 3).toNat ""=f2 at *;generalize MO.getD (y3 % 4).toNat ""=f3 at *;have bo: ∀k:Nat,∃b:Bt,∀nm,ns[k]?=some nm->b.nm=nm/\BtL ns b/\ ∀ (h:List Ob) (j:Nat) (L:List Str) (a mo hd:Option W),h[j]?=some (.lst (L.map W.str))->L.length<=200->
  Ok (bT [some (.cl (sc.map W.int)),mo,hd,some (.tl (ns.map W.str)),some (.loc j),some (.int (0+(k:Int))),a]) h λx h'=>(∃a',x=.nx [some (.cl (sc.map W.int)),mo,hd,some (.tl (ns.map W.str)),some (.loc j),some (.int (0+(k:Int))),a'])/\h'[j]?=some (.lst ((L++b.rows.map Rr.tx).map W.str))/\(∀i,i<h.length->i≠j->h'[i]?=h[i]?)/\h.length<=h'.length:=λk=>by
  cases e:ns[k]? with
  |none=>exact⟨⟨"",[],.stop⟩,λnm h=>by cases h⟩
  |some nm=>
   obtain⟨b,q⟩:=Bd sc e ∅ nn;exact⟨b,λnm' h=>by cases h;exact q⟩
 obtain⟨F,hF⟩:=Classical.axiomOfChoice bo;have gF: ∀k,k<ns.length-> ∃nm,ns[k]?=some nm:=λk hk=>⟨_,G0 hk⟩
 have enm:((List.range ns.length).map F).map Bt.nm=ns:=by
  apply Jd;intro k;rw[Hw,GW];by_cases hk:k<ns.length
  ·obtain⟨nm,e⟩:=gF k hk;rw[Jk hk,e];exact congrArg some (hF k nm e).1
  ·rw[IJ (by rw[HY];omega),IJ ∅];rfl
 have all: ∀b∈(List.range ns.length).map F,BtL ns b:=λb hb=>by
  obtain⟨k,hk,rfl⟩:=G6.mp hb;obtain⟨nm,e⟩:=gF k (Ik.mp hk);exact (hF k nm e).2.1
 have lbl:((List.range ns.length).map F).length=ns.length:=by rw[GN,HY]
 refine⟨[("n",f2),("nn",f3)],(List.range ns.length).map F,⟨⟨λx hx=>?_,Ma.2.2,⇑_,by rw[enm];exact ndn,by rw[lbl];omega,by rw[lbl];omega,λb hb=>by rw[enm];exact (all b hb).g⟩,λb hb=>by rw[enm];exact all b hb,rfl,by rw[lbl];omega⟩,λh=>?_⟩
 ·rcases GR.mp hx with rfl|hx
  ·exact⟨Ma.1,n2⟩
  ·rw[Hh.mp hx];exact⟨Ma.2.1,n3⟩
 have e0:eR [.cl (sc.map W.int),.int MM]=bd (gA [some (.cl (sc.map W.int)),some (.int MM),none,none,none,none,none]) MP:=rfl;rw[e0,lE];have em:(nums c 4).map W.int=[.int y0,.int y1,.int y2,.int y3]:=by rw[ey];rfl
 simp![ec];refine aD (kF (n:=4) rfl ↥_) λw h1 qq_=>?_;obtain⟨ew,F1⟩:=qq_;subst ew;rw[em];obtain⟨kb1,kb2,kb3,kb4⟩:=Fu;obtain⟨N,hN⟩: ∃N:Int,N=(ns.length:Int):=⟨_,rfl⟩
 have eL:NM [.tl (ns.map W.str)]=pr (.int N):=by rw[lenW_tl,GN,hN]
 have eN:N.toNat=ns.length:=∅;obtain⟨NW,hNW⟩: ∃NW,NW=W.tl (ns.map W.str):=⟨_,rfl⟩
 rw[<-hNW] at sl eL;simp![tx0,tx1,tx2,tx3,hn,ak (show 0<MM by omega),ak (show (0:Int)<3 by decide),ak (show (0:Int)<4 by decide),sl,sv,tv,adS (a:= "box n ") (b:=f2) ∅,adS (a:= "box nn ") (b:=f3) ∅];refine d9 ?_;simp![eL,ly (show (-(2 ^ 62):Int)<=N by omega) (show N<2 ^ 62 by omega)];have b1: "box n "++f2=(Rr.box "n" f2).tx:=by rw[y8,kb1];simp only[PY]
 have b2: "box nn "++f3=(Rr.box "nn" f3).tx:=by rw[y8,kb2];simp only[PY]
 rw[b1,b2];obtain⟨T1,hT1⟩: ∃T,T=(Rr.box "n" f2).tx:=⟨_,rfl⟩
 obtain⟨T2,hT2⟩: ∃T,T=(Rr.box "nn" f3).tx:=⟨_,rfl⟩
 rw[<-hT1,<-hT2];have rl: ∀i,i<=ns.length->([T1,T2]++(((List.range i).map F).flatMap Bt.rows).map Rr.tx).length<=2+4 * i:=λi hi=>by
  rw[GQ,GN];show 2+_<=_;have: ∀i,i<=ns.length->(((List.range i).map F).flatMap Bt.rows).length<=4 * i:=λi=>by
   induction i with
   |zero=>intro _;simp
   |succ i ih=>
    intro hi;have ih:=ih ∅;rw[HW,GX,IK,GQ];obtain⟨nm,e⟩:=gF i ∅;have:=(hF i nm e).2.1.l;have:((List.map F [i]).flatMap Bt.rows).length=(F i).ss.length+2:=by
     show ((F i).rows++[]).length=_;rw[Hn];unfold Bt.rows;rw[GT,GQ];rfl
    omega
  have:=this i hi;omega
 have hg0:(h1++[Ob.lst [.str T1,.str T2]])[h1.length]?=some (.lst (([T1,T2]++(((List.range 0).map F).flatMap Bt.rows).map Rr.tx).map W.str)):=cF;have hg1:h1.length<=(h1++[Ob.lst [.str T1,.str T2]]).length:=by rw[GQ];omega
 refine df (I:=λi ρ h'=> ∃a b,ρ=[some (.cl (sc.map W.int)),some (.int MM),some (.tl [.int y0,.int y1,.int y2,.int y3]),some NW,some (.loc h1.length),a,b]/\h'[h1.length]?=some (.lst (([T1,T2]++(((List.range i).map F).flatMap Bt.rows).map Rr.tx).map W.str))/\(∀i,i<h1.length->h'[i]?=h1[i]?)/\h1.length<=h'.length) ⟨none,none,rfl,hg0,λi hi=>Hg hi,hg1⟩ (λ_ _ _ _=>trivial) (λi w ρ h2 hw I=>?_) λρ h2 I=>?_
 ·obtain⟨a,b,rfl,q1,q2,q3⟩:=I;obtain⟨rfl,hi⟩:=f8 _ _ _ _ hw;rw[eN] at hi;obtain⟨nm,e⟩:=gF i hi;obtain⟨_,_,bk⟩:=hF i nm e;have r:=rl i ∅;rw[<-hNW] at bk;refine⟨_,rfl,(bk h2 h1.length _ b _ _ q1 ∅).imp λx h3 qz=>?_⟩;obtain⟨⟨a',ex⟩,p1,p2,p3⟩:=qz;refine⟨_,ex,_,_,rfl,?_,λi hi=>(p2 i ∅ ∅).trans (q2 i hi),∅⟩;have e1:((List.range (i+1)).map F).flatMap Bt.rows=((List.range i).map F).flatMap Bt.rows++(F i).rows:=by
   rw[HW,GX,IK];show _++((F i).rows++[])=_;rw[Hn]
  rw[p1,e1,Hc,<-GX (f:=Rr.tx)]
 ·obtain⟨a,b,rfl,q1,q2,q3⟩:=I;rw[eP,eN] at q1;have r:=rl ns.length (GO _);have et:[T1,T2]++(((List.range ns.length).map F).flatMap Bt.rows).map Rr.tx=(pgR [("n",f2),("nn",f3)] ((List.range ns.length).map F)).map Rr.tx:=by
   unfold pgR;rw[GX,hT1,hT2];rfl
  rw[et] at q1 r;have lens: ∀z∈(pgR [("n",f2),("nn",f3)] ((List.range ns.length).map F)).map Rr.tx,z.length<=600:=λz hz=>by
   obtain⟨R,hR,rfl⟩:=G6.mp hz;unfold pgR at hR;rcases HM.mp hR with hR|hR
   ·obtain⟨x,hx,rfl⟩:=G6.mp hR;rcases GR.mp hx with rfl|hx
    ·exact Rr.Ok.len (r:=.box "n" f2) ⟨Ma.1,n2⟩
    ·rw[Hh.mp hx];exact Rr.Ok.len (r:=.box "nn" f3) ⟨Ma.2.1,n3⟩
   ·obtain⟨b,hb,hR⟩:=List.mem_flatMap.mp hR;have gb:=(all b hb).g;rcases GR.mp hR with rfl|hR
    ·exact Rr.Ok.len (r:=.block b.nm) gb.nm
    ·rcases HM.mp hR with hR|hR
     ·exact (gb.s _ hR).2.1.len
     ·rw[Hh.mp hR];exact gb.e.2.1.len
  have sm: ∀ {l:List Str},(∀z∈l,z.length<=600)->(l.map (·.length)).sum<=600 * l.length:=λ{l} h=>by
   induction l with
   |nil=>simp
   |cons z l ih=>
    have a:=h z GY;have b:=ih λz hz=>h z (G9 _ hz);rw[GV,Ip,GT,Jh];omega
  have sm:=sm lens;have hr:QP (pgR [("n",f2),("nn",f3)] ((List.range ns.length).map F))=Str.join "\n" ((pgR [("n",f2),("nn",f3)] ((List.range ns.length).map F)).map Rr.tx):=by rw[xz];rfl
  rw[hr];generalize (pgR [("n",f2),("nn",f3)] ((List.range ns.length).map F)).map Rr.tx=TS at *;have jl:("\n":Str).length=1:=by rw[xz];rfl
  have jw:Nv (.str "\n") [.loc h1.length] h2=.ok (.str (Str.join "\n" TS)) h2:=by
   show bd (NQ (.loc h1.length)) _ h2=_;rw[dG (lQ q1),g9 (f:=sOf) (g:=W.str) (λa=>rfl)];exact congrFun (ah (sz (by rw[jl];omega))) h2
  simp!;refine aY jw ?_;simp!;exact ag ⟨rfl,λi hi=>(q2 i (Ha hi F1.le)).trans (F1.eq i hi),Hf F1.le q3⟩
end
section
open Wd
theorem Qf:(Le.strOk "n"=true/\Le.strOk "nn"=true)/\(Le.strOk "+"=true/\Le.strOk "-"=true/\Le.strOk "*"=true)/\(Le.strOk "say"=true/\Le.strOk "ask"=true/\Le.strOk "put"=true)/\Le.strOk "<"=true/\Le.strOk "="=true:=⋯
theorem ED {x:Str}(h:x∈bn2):Le.strOk x=true:=by
 rcases GR.mp h with rfl|h
 ·exact Qf.1.1
 ·rw[Hh.mp h];exact Qf.1.2
end
section
open Wd
noncomputable def bxW (p:Str×Int):W:=.tup [.str p.1,.int p.2]
noncomputable def nI (n:Nat):W:=.int n
inductive Xe
 |num (i:Int)
 |box (z:Str)
 |op (c:Str)(a b:Xe)
noncomputable def Xe.w:Xe->W
 |.num i=>.tup [.str "number",.int i]
 |.box z=>.tup [.str "box",.str z]
 |.op c a b=>.tup [.str c,a.w,b.w]
noncomputable def Xe.G (ns:List Str):Nat->Xe->Prop
 |0,_=>False
 |_+1,.num i=>0<=i/\i<1000
 |_+1,.box z=>z∈ns
 |n+1,.op c a b=>(c= "+"\/c= "-"\/c= "*")/\a.G ns n/\b.G ns n
inductive Sm
 |say (e:Xe)
 |ask (z:Str)
 |put (z:Str)(e:Xe)
noncomputable def Sm.w:Sm->W
 |.say e=>.tup [.str "say",e.w]
 |.ask z=>.tup [.str "ask",.str z]
 |.put z e=>.tup [.str "put",.str z,e.w]
noncomputable def Sm.G (ns:List Str):Sm->Prop
 |.say e=>e.G ns 6
 |.ask z=>z∈ns
 |.put z e=>z∈ns/\e.G ns 6
structure Bx (ps:List (Str×Int)):Prop where
 len:ps.length<=4
inductive En
 |go (t:Nat)
 |iff (s:Str)(a b:Xe)(x y:Nat)
 |tab (e:Xe)(ts:List Nat)
 |stop
noncomputable def En.w:En->W
 |.go t=>.tup [.str "go",nI t]
 |.iff s a b x y=>.tup [.str "if",.str s,a.w,b.w,nI x,nI y]
 |.tab e ts=>.tup [.str "table",e.w,.tup (ts.map nI)]
 |.stop=>.tup [.str "stop"]
noncomputable def En.G (ns:List Str)(m:Nat):En->Prop
 |.go t=>t<m
 |.iff s a b x y=>(s= "<"\/s= "=")/\a.G ns 6/\b.G ns 6/\x<m/\y<m
 |.tab e ts=>e.G ns 6/\1<=ts.length/\ts.length<=6/\ ∀t∈ts,t<m
 |.stop=>True
theorem uh {α:Type}(ns:List α)(a b:Nat):(Ms ns (some (a:Int)) (some (b:Int))).length<=b - a:=by
 unfold Ms;rw[Hr];refine Hf (Nat.min_le_left _ _) ?_;show (if (b:Int)<0 then ((b:Int)+(ns.length:Int)).toNat else min (b:Int).toNat ns.length) - (if (a:Int)<0 then ((a:Int)+(ns.length:Int)).toNat else min (a:Int).toNat ns.length)<=b - a;rw[if_neg ∅,if_neg ∅];omega
theorem jQ {α:Type}(l:List α)(x:α):atI (l++[x]) (-1)=some x:=by
 unfold atI ixN;rw[if_neg ↥_,if_pos (by rw[GQ];show -((l.length+1:Nat):Int)<= -1;omega)];show (l++[x])[((-1:Int)+((l++[x]).length:Int)).toNat]?=_;rw[show ((-1:Int)+((l++[x]).length:Int)).toNat=l.length by rw[GQ];show ((-1:Int)+((l.length+1:Nat):Int)).toNat=_;omega];simp
theorem eqT1 {a b:Str}(ha:Le.canLay0 (.str a)=true)(hb:Le.canLay0 (.str b)=true):eqB (.tup [.str a]) (.tup [.str b]) h=some (Le.eqvAll [.str a] [.str b]):=
 qr (ds:=[.str a]) (es:=[.str b]) rfl rfl (by rw[Le.canLayAll0,ha,Le.canLayAll0];rfl) (by rw[Le.canLayAll0,hb,Le.canLayAll0];rfl)
theorem eqvS (a b:Str):Le.eqvAll [.str a] [.str b]=decide (a=b):=by
 rw[Le.eqvAll,Le.eqv,Le.eqvAll,Bool.and_true]
 first
  |rfl
  |exact HF.mpr ⇑_
theorem Me: ∀a∈(["on", "stop", "out"]:List Str),Le.canLay0 (.str a)=true:=by
 intro a ha;rw[Le.canLay0];revert a;decide+kernel
theorem E6 {a b:Str}(ha:a∈(["on", "stop", "out"]:List Str))(hb:b∈(["on", "stop", "out"]:List Str)):neW (.tup [.str a]) (.tup [.str b])=pr (.bl (!decide (a=b))):=C8 λh=>by rw[eqT1 (Me a ha) (Me b hb),eqvS]
theorem FC {a b:Str}(ha:a∈(["on", "stop", "out"]:List Str))(hb:b∈(["on", "stop", "out"]:List Str)):eqW (.tup [.str a]) (.tup [.str b])=pr (.bl (decide (a=b))):=yH λh=>by rw[eqT1 (Me a ha) (Me b hb),eqvS]
theorem yt:("on":Str)∈(["on", "stop", "out"]:List Str):=⇑_
theorem AT:("stop":Str)∈(["on", "stop", "out"]:List Str):=⇑_
theorem D7:("out":Str)∈(["on", "stop", "out"]:List Str):=⇑_
end
section
open Wd
noncomputable abbrev Sto:=List (Str×Int)
noncomputable def kz (σ:Sto):List Key:=σ.map λp=>.inr p.1
noncomputable def vz (σ:Sto):List W:=σ.map λp=>.int p.2
noncomputable def rd:Sto->Str->Option Int
 |[],_=>none
 |p::σ,z=>if p.1=z then some p.2 else rd σ z
noncomputable def wr (σ:Sto)(z:Str)(v:Int):Sto:=if (σ.any λp=>decide (p.1=z))=true then σ.map (λp=>if p.1=z then (p.1,v) else p) else σ++[(z,v)]
theorem zc (z:Str): ∀σ:Sto,atK (kz σ) (vz σ) (.inr z)=(rd σ z).map W.int
 |[]=>rfl
 |p::σ=>by
  show (if (Sum.inr p.1:Key)=.inr z then some (W.int p.2) else atK (kz σ) (vz σ) (.inr z))=((if p.1=z then some p.2 else rd σ z).map W.int);by_cases h:p.1=z
  ·rw[if_pos h,if_pos (by rw[h])];rfl
  ·rw[if_neg h,if_neg (λq=>h (by cases q;rfl)),zc z σ]
theorem p9 (z:Str)(v:Int): ∀σ:Sto,Om (kz σ) (vz σ) (.inr z) (.int v)=vz (σ.map λp=>if p.1=z then (p.1,v) else p)
 |[]=>rfl
 |p::σ=>by
  show (if (Sum.inr p.1:Key)=.inr z then W.int v else .int p.2)::Om (kz σ) (vz σ) (.inr z) (.int v)=W.int (if p.1=z then (p.1,v) else p).2::vz (σ.map λp=>if p.1=z then (p.1,v) else p);rw[p9 z v σ];by_cases h:p.1=z
  ·rw[if_pos h,if_pos (by rw[h])]
  ·rw[if_neg h,if_neg (λq=>h (by cases q;rfl))]
theorem Es (z:Str)(σ:Sto):((kz σ).any λk=>decide (k=(.inr z:Key)))=σ.any λp=>decide (p.1=z):=by
 unfold kz;rw[List.any_map];congr 1;funext p;show decide ((Sum.inr p.1:Key)=.inr z)=_;by_cases h:p.1=z
 ·rw[decide_eq_true h,decide_eq_true (by rw[h])]
 ·rw[decide_eq_false h,decide_eq_false (λq=>h (by cases q;rfl))]
theorem nX (σ:Sto)(z:Str)(v:Int):Pe (kz σ) (vz σ) (.inr z) (.int v)=(kz (wr σ z v),vz (wr σ z v)):=by
 unfold Pe wr;rw[Es];by_cases h:(σ.any λp=>decide (p.1=z))=true
 ·rw[if_pos h,if_pos h,p9];congr 1;unfold kz;rw[Hw];refine Ir λp _=>?_;show _=(Sum.inr (if p.1=z then (p.1,v) else p).1:Key);by_cases q:p.1=z
  ·rw[if_pos q]
  ·rw[if_neg q]
 ·rw[if_neg h,if_neg h];unfold kz vz;rw[GX,GX];rfl
theorem wO (y z:Str)(v:Int): ∀σ:Sto,rd (σ++[(z,v)]) y=(match rd σ y with
  |some u=>some u
  |none=>if z=y then some v else none)
 |[]=>rfl
 |p::σ=>by
  show (if p.1=y then some p.2 else rd (σ++[(z,v)]) y)=_;rw[wO y z v σ]
  show _=(match (if p.1=y then some p.2 else rd σ y) with
   |some u=>some u
   |none=>if z=y then some v else none)
  by_cases h:p.1=y
  ·rw[if_pos h,if_pos h]
  ·rw[if_neg h,if_neg h]
theorem wN (y z:Str)(v:Int): ∀σ:Sto,rd (σ.map λp=>if p.1=z then (p.1,v) else p) y=if z=y then (rd σ y).map (λ_=>v) else rd σ y
 |[]=>by rw[Ht];show none=if z=y then none else none;rw[ite_self]
 |p::σ=>by
  show (if (if p.1=z then (p.1,v) else p).1=y then some (if p.1=z then (p.1,v) else p).2 else rd (σ.map λp=>if p.1=z then (p.1,v) else p) y)=if z=y then (if p.1=y then some p.2 else rd σ y).map (λ_=>v) else if p.1=y then some p.2 else rd σ y
  rw[wN y z v σ];by_cases h:p.1=z
  ·subst h;by_cases q:p.1=y<;>simp [q]
  ·rw[if_neg h];by_cases q:z=y
   ·rw[if_pos q,if_pos q,if_neg (by rw[<-q];exact h),if_neg (by rw[<-q];exact h)]
   ·rw[if_neg q,if_neg q]
theorem nS (z:Str): ∀σ:Sto,¬(σ.any λp=>decide (p.1=z))=true->rd σ z=none
 |[],_=>rfl
 |p::σ,h=>by
  rw[HN,Bool.or_eq_true,not_or,decide_eq_true_eq] at h;show (if p.1=z then some p.2 else rd σ z)=none;rw[if_neg h.1,nS z σ h.2]
theorem sW (z:Str): ∀σ:Sto,(σ.any λp=>decide (p.1=z))=true-> ∃v,rd σ z=some v
 |[],h=>by cases h
 |p::σ,h=>by
  show∃v,(if p.1=z then some p.2 else rd σ z)=some v;by_cases q:p.1=z
  ·exact⟨p.2,if_pos q⟩
  ·rw[if_neg q];refine sW z σ ?_;rw[HN,decide_eq_false q,Bool.false_or] at h;exact h
theorem sV (σ:Sto)(y z:Str)(v:Int):rd (wr σ z v) y=if z=y then some v else rd σ y:=by
 unfold wr;by_cases h:(σ.any λp=>decide (p.1=z))=true
 ·rw[if_pos h,wN];by_cases q:z=y
  ·obtain⟨u,e⟩:=sW z σ h;rw[if_pos q,if_pos q,<-q,e];rfl
  ·rw[if_neg q,if_neg q]
 ·rw[if_neg h,wO];by_cases q:z=y
  ·subst q;simp [nS z σ h]
  ·rw[if_neg q];cases rd σ y<;>simp [q]
theorem BH (σ:Sto)(z:Str)(v:Int):(wr σ z v).length<=σ.length+1:=by
 unfold wr;split
 ·rw[GN];omega
 ·rw[GQ];exact GO _
theorem Q4 {z:Str}{u:Int}(v:Int)(e:rd σ z=some u):(wr σ z v).length=σ.length:=by
 unfold wr;split
 ·rw[GN]
 ·rename_i h;rw[nS z σ h] at e;cases e
structure Has (ns:List Str)(σ:Sto):Prop where
 has: ∀z∈ns,∃v:Int,rd σ z=some v/\0<=v/\v<1000000
 sz:σ.length<=10
theorem Has.wr {ns:List Str}{z:Str}(H:Has ns σ)(hz:z∈ns)(v:Int):Has ns (wr σ z (v % 1000000)):=by
 obtain⟨u,e,_⟩:=H.has z hz;refine⟨λy hy=>?_,by rw[Q4 _ e];exact H.sz⟩;rw[sV];by_cases q:z=y
 ·rw[if_pos q];exact⟨_,rfl,Hl _ ↥_,Hm _ ↥_⟩
 ·rw[if_neg q];exact H.has y hy
noncomputable def QC (ps:List (Str×Int)):Sto:=ps.foldl (λσ p=>wr σ p.1 p.2) []
theorem sK: ∀ (ps:List (Str×Int)) (σ:Sto),(ps.foldl (λσ p=>wr σ p.1 p.2) σ).length<=σ.length+ps.length
 |[],σ=>⇑_
 |p::ps,σ=>by
  have:=sK ps (wr σ p.1 p.2);have:=BH σ p.1 p.2;rw[Ic,GT];omega
theorem sL (P:Int->Prop): ∀ (ps:List (Str×Int)) (σ:Sto) (z:Str),(∀p∈ps,P p.2)->(∀v,rd σ z=some v->P v)->(z∈ps.map (·.1)\/ ∃v,rd σ z=some v)-> ∃v,rd (ps.foldl (λσ p=>wr σ p.1 p.2) σ) z=some v/\P v
 |[],σ,z,_,h,q=>by
  rcases q with q|⟨v,q⟩
  ·cases q
  ·exact⟨v,q,h v q⟩
 |p::ps,σ,z,hp,h,q=>by
  rw[Ic];refine sL P ps _ z (λx hx=>hp x (G9 _ hx)) (λv e=>?_) ?_
  ·rw[sV] at e;by_cases y:p.1=z
   ·rw[if_pos y] at e;cases e;exact hp p GY
   ·rw[if_neg y] at e;exact h v e
  ·by_cases y:p.1=z
   ·exact .inr ⟨p.2,by rw[sV,if_pos y]⟩
   ·rcases q with q|⟨v,q⟩
    ·rw[GV] at q;rcases GR.mp q with q|q
     ·exact absurd q.symm y
     ·exact .inl q
    ·exact .inr ⟨v,by rw[sV,if_neg y];exact q⟩
theorem Has.first (l:ps.length<=4)(h:∀p∈ps,0<=p.2/\p.2<1000):Has (ps.map (·.1)) (QC ps):=by
 refine⟨λz hz=>?_,by have:=sK ps [];unfold QC;rw[IA] at this;omega⟩;obtain⟨v,e,a,b⟩:=sL (λv=>0<=v/\v<1000) ps [] z h (λv e=>by cases e) (.inl hz);exact⟨v,e,a,∅⟩
noncomputable def Xe.val (σ:Sto):Xe->Int
 |.num i=>i
 |.box z=>(rd σ z).getD 0
 |.op c a b=>if c= "+" then a.val σ+b.val σ else if c= "-" then a.val σ - b.val σ else a.val σ * b.val σ
theorem Gk:decide (("box":Str)= "number")=false:=⋯
theorem Gd:decide (("+":Str)= "number")=false:=⋯
theorem Ge:decide (("+":Str)= "box")=false:=⋯
theorem Gg:decide (("-":Str)= "number")=false:=⋯
theorem Gh:decide (("-":Str)= "box")=false:=⋯
theorem Gf:decide (("-":Str)= "+")=false:=⋯
theorem F4:decide (("*":Str)= "number")=false:=⋯
theorem F8:decide (("*":Str)= "box")=false:=⋯
theorem FZ:decide (("*":Str)= "+")=false:=⋯
theorem F5:decide (("*":Str)= "-")=false:=⋯
noncomputable def big (n:Nat):Nat:=2 ^ (20 * 2 ^ n)
theorem big0:1000000<=big 0:=↥_
theorem Be (n:Nat):2<=big n:=by
 unfold big;have h1:1<=20 * 2 ^ n:=by have:1<=2 ^ n:=Nat.one_le_two_pow;omega
 exact Hf (by decide:2<=2 ^ 1) (Jl ↥_ h1)
theorem qL (n:Nat):big (n+1)=big n * big n:=by
 unfold big;rw[<-Nat.pow_add];congr 1;rw[Nat.pow_succ];omega
theorem uo (n:Nat):big n+big n<=big (n+1):=by
 rw[qL];have h:=Be n;have:2 * big n<=big n * big n:=Nat.mul_le_mul_right _ h;omega
theorem Em (n:Nat):1000000<=big n:=by
 induction n with
 |zero=>exact big0
 |succ n ih=>have:=uo n;omega
theorem big6 (n:Nat)(h:n<=6):big n<=2 ^ 65536:=by
 unfold big;refine Jl ↥_ ?_;have:2 ^ n<=2 ^ 6:=Jl ↥_ h;have:(2:Nat) ^ 6=64:=↥_;omega
theorem vR {ns:List Str}(D:Has ns σ)(n:Nat): ∀ {w:Xe},n<=6->w.G ns n->(w.val σ).natAbs<big n/\ ∀ {h:List Ob}{k:Nat},h[k]?=some (.dic (kz σ) (vz σ))->Ok (cG n [w.w,.loc k]) h λr h'=>r=.int (w.val σ)/\h'=h:=by
 induction n with
 |zero=>intro w _ p;exact p.elim
 |succ n ih=>
  intro w hn p;have e0: ∀k:Nat,cG (n+1) [w.w,.loc k]=bd (eU (cG n) [some w.w,some (.loc k),none,none]) MP:=λk=>rfl;have b1:=Em (n+1);have b2:=uo n;cases w with
  |num i=>
   obtain⟨i0,i1⟩:=p;refine⟨by unfold Xe.val;omega,λ{h k} e=>?_⟩;rw[e0];unfold eU Xe.w Xe.val;simp![ix0,ix1,eq_self,decide_true];exact ag ⟨rfl,rfl⟩
  |box z=>
   obtain⟨v,ev,v0,v1⟩:=D.has z p;have vv:Xe.val σ (.box z)=v:=by unfold Xe.val;rw[ev];rfl
   refine⟨by rw[vv];omega,λ{h k} e=>?_⟩;rw[e0,vv];unfold eU Xe.w;simp![ix0,ix1,eq_self,decide_true,Gk];refine CZ (v:=.int v) e (by rw[zc,ev];rfl) ?_;simp!;exact ag ⟨rfl,rfl⟩
  |op c a b=>
   obtain⟨hc,pa,pb⟩:=p;obtain⟨bx,hx⟩:=ih ∅ pa;obtain⟨by',hy⟩:=ih ∅ pb;have b6:=big6 n ∅;have cm:Lm (a.val σ) (b.val σ):=.inr ⟨Ha bx b6,Ha by' b6⟩;have mb:(a.val σ * b.val σ).natAbs<big (n+1):=by
    rw[Int.natAbs_mul,qL];exact Nat.mul_lt_mul'' bx by'
   unfold Xe.w at e0 ⊢;generalize hX:a.val σ=x at *;generalize hY:b.val σ=y at *;generalize a.w=aw at *;generalize b.w=bw at *;rcases hc with rfl|rfl|rfl
   ·have vv:Xe.val σ (.op "+" a b)=x+y:=by unfold Xe.val;rw[if_pos rfl,hX,hY]
    refine⟨by rw[vv];omega,λ{h k} e=>?_⟩;rw[e0,vv];unfold eU;simp![ix0,ix1,ix2,Gd,Ge];refine aD (hx e) λr h1 qq_=>?_;obtain⟨er,eh⟩:=qq_;subst er eh;simp![ix0,ix1,ix2];refine aD (hy e) λr h2 qq_=>?_;obtain⟨er,eh⟩:=qq_;subst er eh;simp![ix0,eq_self,decide_true];exact ag ⟨rfl,rfl⟩
   ·have vv:Xe.val σ (.op "-" a b)=x - y:=by unfold Xe.val;rw[if_neg ⋯,if_pos rfl,hX,hY]
    refine⟨by rw[vv];omega,λ{h k} e=>?_⟩;rw[e0,vv];unfold eU;simp![ix0,ix1,ix2,Gg,Gh];refine aD (hx e) λr h1 qq_=>?_;obtain⟨er,eh⟩:=qq_;subst er eh;simp![ix0,ix1,ix2];refine aD (hy e) λr h2 qq_=>?_;obtain⟨er,eh⟩:=qq_;subst er eh;simp![ix0,eq_self,decide_true,Gf];exact ag ⟨rfl,rfl⟩
   ·have vv:Xe.val σ (.op "*" a b)=x * y:=by unfold Xe.val;rw[if_neg ⋯,if_neg ⋯,hX,hY]
    refine⟨by rw[vv];exact mb,λ{h k} e=>?_⟩;rw[e0,vv];unfold eU;simp![ix0,ix1,ix2,F4,F8];refine aD (hx e) λr h1 qq_=>?_;obtain⟨er,eh⟩:=qq_;subst er eh;simp![ix0,ix1,ix2];refine aD (hy e) λr h2 qq_=>?_;obtain⟨er,eh⟩:=qq_;subst er eh;simp![ix0,FZ,F5,ic cm];exact ag ⟨rfl,rfl⟩
theorem gu {β:Type}{ns:List Str}{w:Xe}{k:Nat}{c:W->M β}{Q:β->List Ob->Prop}(D:Has ns σ)(g:w.G ns 6)(e:h[k]?=some (.dic (kz σ) (vz σ)))(q:Ok (c (.int (w.val σ))) h Q):Ok (bd (cG 6 [w.w,.loc k]) c) h Q:=
 aD ((vR D 6 (GO _) g).2 e) λr h' ⟨e1,e2⟩=>by subst e1 e2;exact q
end
section
open Wd
structure Sta where
 σ:Sto
 taken:Nat
 said:List Int
noncomputable def Sm.asks:Sm->Bool
 |.ask _=>true
 |_=>false
noncomputable def ND (nums:List Int)(s:Sta)(st:Sm):Bool:=st.asks && decide (s.taken=nums.length)
noncomputable def doS (nums:List Int)(s:Sta):Sm->Sta
 |.put z e=>⟨wr s.σ z (e.val s.σ % 1000000),s.taken,s.said⟩
 |.say e=>⟨s.σ,s.taken,s.said++[e.val s.σ]⟩
 |.ask z=>⟨wr s.σ z (nums.getD s.taken 0 % 1000000),s.taken+1,s.said⟩
theorem oM (nums:List Int)(s:Sta)(st:Sm):(doS nums s st).said.length<=s.said.length+1:=by
 cases st with
 |put z e=>exact HK _
 |ask z=>exact HK _
 |say e=>unfold doS;rw[GQ];exact GO _
noncomputable def nsD:List Str:=["held", "numbers", "taken", "said"]
structure DoAt (h:List Ob)(d kh kS:Nat)(nums:List Int)(s:Sta):Prop where
 ob:h[d]?=some (.ins "Doing" nsD [.loc kh,.tl (nums.map W.int),.int s.taken,.loc kS])
 held:h[kh]?=some (.dic (kz s.σ) (vz s.σ))
 said:h[kS]?=some (.lst (s.said.map W.int))
 tk:s.taken<=nums.length
theorem DoAt.n1 {d kh kS:Nat}{nums:List Int}(D:DoAt h d kh kS nums s):d≠kh:=λz=>by have:=D.ob;rw[z,D.held] at this;cases this
theorem DoAt.n2 {d kh kS:Nat}{nums:List Int}(D:DoAt h d kh kS nums s):d≠kS:=λz=>by have:=D.ob;rw[z,D.said] at this;cases this
theorem DoAt.n3 {d kh kS:Nat}{nums:List Int}(D:DoAt h d kh kS nums s):kh≠kS:=λz=>by have:=D.held;rw[z,D.said] at this;cases this
theorem DoAt.keep {d kh kS:Nat}{nums:List Int}(D:DoAt h d kh kS nums s)(f:∀i,i=d\/i=kh\/i=kS->h'[i]?=h[i]?):DoAt h' d kh kS nums s:=⟨(f _ (.inl rfl)).trans D.ob,(f _ (.inr (.inl rfl))).trans D.held,(f _ (.inr (.inr rfl))).trans D.said,D.tk⟩
structure On3 (d kh kS:Nat)(h h':List Ob):Prop where
 len:h'.length=h.length
 eq: ∀i,i≠d->i≠kh->i≠kS->h'[i]?=h[i]?
theorem On3.refl {d kh kS:Nat}:On3 d kh kS h h:=⟨rfl,λ_ _ _ _=>rfl⟩
theorem On3.trans {d kh kS:Nat}(x:On3 d kh kS a b)(y:On3 d kh kS b c):On3 d kh kS a c:=⟨y.len.trans x.len,λi h1 h2 h3=>(y.eq i h1 h2 h3).trans (x.eq i h1 h2 h3)⟩
theorem eD (a b c d:W):NP nsD [a,b,c,d] "held"=some a:=by unfold nsD;rfl
theorem lT (a b c d:W):NP nsD [a,b,c,d] "numbers"=some b:=by unfold nsD;rfl
theorem lS (a b c d:W):NP nsD [a,b,c,d] "taken"=some c:=by unfold nsD;rfl
theorem gr (a b c d:W):NP nsD [a,b,c,d] "said"=some d:=by unfold nsD;rfl
theorem wT (a b c d y:W):Pc nsD [a,b,c,d] "taken" y=(nsD,[a,b,y,d]):=by unfold nsD;rfl
theorem iA (i j:Int):L5 (.int i) (.int j)=pr (.int (i+j)):=rfl
section
variable {ns:List Str}{h:List Ob}{d kh kS:Nat}{nums:List Int}{s:Sta}{β:Type}{k:W->M β}{Q:β->List Ob->Prop}
theorem ye {c:Str}(D:DoAt h d kh kS nums s):Ok (aI [.loc d,.tup (.str c::l)]) h λw h'=>w=.bl (decide (c= "ask") && decide (s.taken=nums.length))/\h'=h:=by
 have e0:aI [.loc d,.tup (.str c::l)]=bd (ci [some (.loc d),some (.tup (.str c::l))]) MP:=rfl;rw[e0];unfold ci;by_cases hc:c= "ask"
 ·simp![ix0,decide_eq_true hc];refine aJ D.ob (lS ..) ?_;simp!;refine aJ D.ob (lT ..) ?_;simp![GN];refine ag ⟨?_,rfl⟩;rw[Bool.true_and];congr 1;by_cases e:s.taken=nums.length
  ·rw[decide_eq_true e,decide_eq_true (by rw[e])]
  ·rw[decide_eq_false e,decide_eq_false ∅]
 ·simp![ix0,decide_eq_false hc,IN];exact ag ⟨rfl,rfl⟩
theorem tQ {c:Str}(D:DoAt h d kh kS nums s)(q:Ok (k (.bl (decide (c= "ask") && decide (s.taken=nums.length)))) h Q):Ok (bd (aI [.loc d,.tup (.str c::l)]) k) h Q:=
 aD (ye D) λw h' ⟨e1,e2⟩=>by subst e1 e2;exact q
theorem Ga:decide (("say":Str)= "put")=false:=⋯
theorem Gn:decide (("ask":Str)= "put")=false:=⋯
theorem Gm:decide (("ask":Str)= "say")=false:=⋯
theorem EE:decide (("say":Str)= "ask")=false:=⋯
theorem EF:decide (("put":Str)= "ask")=false:=⋯
theorem BC {st:Sm}(D:DoAt h d kh kS nums s)(H:Has ns s.σ)(g:st.G ns)(nl:ND nums s st=false)(z:s.said.length<100000):Ok (aO [.loc d,st.w]) h λw h'=>w=.non/\DoAt h' d kh kS nums (doS nums s st)/\Has ns (doS nums s st).σ/\On3 d kh kS h h':=by
 have e0:aO [.loc d,st.w]=bd (cj [some (.loc d),some st.w]) MP:=rfl;rw[e0];unfold cj;cases st with
 |put y e=>
  obtain⟨gy,ge⟩:=g;unfold Sm.w doS;simp![ix0,ix1,ix2,eq_self,decide_true];refine aJ D.ob (eD ..) ?_;refine gu H ge D.held ?_;simp![ix0,ix1,ix2,ak (show (0:Int)<1000000 by decide)];refine aJ D.ob (eD ..) ?_;simp![ix0,ix1,ix2];refine xq D.held (by unfold kz;rw[GN];exact Hs H.sz ↥_) (nX ..) ?_;simp!;refine ag ⟨rfl,⟨?_,bh D.held,?_,D.tk⟩,H.wr gy _,Hb ..,λi _ h2 _=>GP (Ne.symm h2)⟩
  ·rw[GP (Ne.symm D.n1)];exact D.ob
  ·rw[GP D.n3];exact D.said
 |say e=>
  unfold Sm.w doS;simp![ix0,ix1,ix2,Ga,eq_self,decide_true];refine aJ D.ob (gr ..) ?_;refine cz D.said ?_;simp![ix0,ix1,ix2];refine aJ D.ob (eD ..) ?_;simp![ix0,ix1,ix2];refine gu H g D.held ?_;simp!;refine eg D.said (by rw[GN];exact Ha z ↥_) ?_;simp!;refine ag ⟨rfl,⟨?_,?_,?_,D.tk⟩,H,Hb ..,λi _ _ h3=>GP (Ne.symm h3)⟩
  ·rw[GP (Ne.symm D.n2)];exact D.ob
  ·rw[GP (Ne.symm D.n3)];exact D.held
  ·rw[bh D.said,GX];rfl
 |ask y=>
  have ht:s.taken<nums.length:=by
   have t:=D.tk;have: ¬s.taken=nums.length:=λq=>by
    unfold ND Sm.asks at nl;rw[decide_eq_true q] at nl;cases nl
   omega
  unfold Sm.w doS;simp![ix0,ix1,ix2,Gn,Gm];refine aJ D.ob (lT ..) ?_;simp!;refine aJ D.ob (lS ..) ?_;simp![cp (fW W.int nums 0 (i:=(s.taken:Int)) ∅ ∅),ak (show (0:Int)<1000000 by decide),HL];refine aJ D.ob (eD ..) ?_;simp![ix0,ix1,ix2];refine xq D.held (by unfold kz;rw[GN];exact Hs H.sz ↥_) (nX ..) ?_;simp! only[PF,ae];have o1:(h.set kh (.dic (kz (wr s.σ y (nums.getD s.taken 0 % 1000000))) (vz (wr s.σ y (nums.getD s.taken 0 % 1000000)))))[d]?=some (.ins "Doing" nsD [.loc kh,.tl (nums.map W.int),.int s.taken,.loc kS]):=by
   rw[GP (Ne.symm D.n1)];exact D.ob
  refine aJ o1 (lS ..) ?_;simp![iA];refine ja o1 (by unfold nsD;decide) (wT ..) ?_;simp!;refine ag ⟨rfl,⟨bh o1,?_,?_,ht⟩,H.wr g _,by rw[Hb,Hb],λi h1 h2 _=>by rw[GP (Ne.symm h1),GP (Ne.symm h2)]⟩
  ·rw[GP D.n1];exact bh D.held
  ·rw[GP D.n2,GP D.n3];exact D.said
noncomputable def Mo (σ:Sto)(c:Str)(a b:Xe):Bool:=if c= "<" then decide (a.val σ<b.val σ) else decide (a.val σ=b.val σ)
theorem yw {c:Str}(D:DoAt h d kh kS nums s)(H:Has ns s.σ)(ga:a.G ns 6)(gb:b.G ns 6):Ok (cv [.loc d,.str c,a.w,b.w]) h λw h'=>w=.bl (Mo s.σ c a b)/\h'=h:=by
 have e0:cv [.loc d,.str c,a.w,b.w]=bd (dU [some (.loc d),some (.str c),some a.w,some b.w]) MP:=rfl;rw[e0];unfold dU Mo;by_cases hc:c= "<"
 ·rw[if_pos hc];simp![decide_eq_true hc];refine aJ D.ob (eD ..) ?_;refine gu H ga D.held ?_;refine aJ D.ob (eD ..) ?_;refine gu H gb D.held ?_;simp!;exact ag ⟨rfl,rfl⟩
 ·rw[if_neg hc];simp![decide_eq_false hc];refine aJ D.ob (eD ..) ?_;refine gu H ga D.held ?_;refine aJ D.ob (eD ..) ?_;refine gu H gb D.held ?_;simp!;exact ag ⟨rfl,rfl⟩
theorem ou {c:Str}(D:DoAt h d kh kS nums s)(H:Has ns s.σ)(ga:a.G ns 6)(gb:b.G ns 6)(q:Ok (k (.bl (Mo s.σ c a b))) h Q):Ok (bd (cv [.loc d,.str c,a.w,b.w]) k) h Q:=
 aD (yw D H ga gb) λw h' ⟨e1,e2⟩=>by subst e1 e2;exact q
theorem qh {e:Xe}{m:Int}(D:DoAt h d kh kS nums s)(H:Has ns s.σ)(g:e.G ns 6)(hm:0<m)(q:Ok (k (.int (e.val s.σ % m))) h Q):Ok (bd (cQ [.loc d,e.w,.int m]) k) h Q:=by
 refine aD (P:=λw h'=>w=.int (e.val s.σ % m)/\h'=h) ?_ λw h' ⟨e1,e2⟩=>by subst e1 e2;exact q
 have e0:cQ [.loc d,e.w,.int m]=bd (dB [some (.loc d),some e.w,some (.int m)]) MP:=rfl;rw[e0];unfold dB;simp!;refine aJ D.ob (eD ..) ?_;refine gu H g D.held ?_;simp![ak hm];exact ag ⟨rfl,rfl⟩
end
theorem Ce (ps:List (Str×Int)):OQ prW (ps.map bxW)=some (ps.map λp=>((.inr p.1:Key),W.int p.2)):=iI (f:=prW) (g:=bxW) (k:=λp=>((.inr p.1:Key),W.int p.2)) (λa=>rfl) ps
theorem p6: ∀ (ps:List (Str×Int)) (σ:Sto),fJ (kz σ) (vz σ) (ps.map λp=>((.inr p.1:Key),W.int p.2))=(kz (ps.foldl (λσ p=>wr σ p.1 p.2) σ),vz (ps.foldl (λσ p=>wr σ p.1 p.2) σ))
 |[],σ=>rfl
 |p::ps,σ=>by
  rw[GV,Ic];unfold fJ;rw[nX];exact p6 ps _
noncomputable def Qy (ps:List (Str×Int)):Sta:=⟨QC ps,0,[]⟩
theorem yr {nums:List Int}(LB:Lw h bx (ps.map bxW))(LN:Lw h nm (nums.map W.int)):Ok (be [.loc h.length,bx,nm]) (h++[.ins "Doing" [] []]) λw h'=>w=.non/\DoAt h' h.length (h.length+1) (h.length+2) nums (Qy ps)/\h'.length=h.length+3/\ ∀i,i<h.length->h'[i]?=h[i]?:=by
 have e0:be [.loc h.length,bx,nm]=bd (cU [some (.loc h.length),some bx,some nm]) MP:=rfl;rw[e0];unfold cU;obtain⟨h0,hh0⟩: ∃h0,h0=h++[Ob.ins "Doing" [] []]:=⟨_,rfl⟩
 have l0:h0.length=h.length+1:=by rw[hh0];simp
 have f0: ∀i,i<h.length->h0[i]?=h[i]?:=λi hi=>by rw[hh0,Hg hi]
 have b0:h0[h.length]?=some (.ins "Doing" [] []):=by rw[hh0];exact cF
 rw[<-hh0];have LB0:Lw h0 bx (ps.map bxW):=LB.keep f0;have LN0:Lw h0 nm (nums.map W.int):=LN.keep f0;clear hh0;simp! only[PL,ae];refine E3 LB0 (Ce ps) (p6 ps []) ?_;rw[l0];have b1: ∀x:Ob,(h0++[x])[h.length]?=some (.ins "Doing" [] []):=λx=>jH b0;simp!;refine ja (b1 _) ↥_ (ns':=["held"]) (ws':=[.loc (h.length+1)]) rfl ?_;obtain⟨h1,hh1⟩: ∃h1,h1=(h0++[Ob.dic (kz (ps.foldl (λσ p=>wr σ p.1 p.2) [])) (vz (ps.foldl (λσ p=>wr σ p.1 p.2) []))]).set h.length (.ins "Doing" ["held"] [.loc (h.length+1)]):=⟨_,rfl⟩
 have l1:h1.length=h.length+2:=by rw[hh1,Hb,GQ,l0];rfl
 have f1: ∀i,i<h.length->h1[i]?=h0[i]?:=λi hi=>by rw[hh1,GP ∅,Hg ∅]
 have c1:h1[h.length]?=some (.ins "Doing" ["held"] [.loc (h.length+1)]):=by rw[hh1];exact bh (b1 _)
 have d1:h1[h.length+1]?=some (.dic (kz (QC ps)) (vz (QC ps))):=by rw[hh1,GP ∅,<-l0];exact cF
 rw[show (h0++[Ob.dic (kz (ps.foldl (λσ p=>wr σ p.1 p.2) [])) (vz (ps.foldl (λσ p=>wr σ p.1 p.2) []))]).set h.length (.ins "Doing" ["held"] [.loc (h.length+1)])=h1 from hh1.symm];clear hh1;have LN1:Lw h1 nm (nums.map W.int):=by
  rcases LN with rfl|⟨j,rfl,e⟩
  ·exact .inl rfl
  ·exact .inr ⟨j,rfl,by rw[f1 j (bL e),f0 j (bL e)];exact e⟩
 rcases LN with e|⟨j,e,_⟩<;>subst e
 all_goals
  simp! only[PL,ae];refine xv LN1 ?_;simp! only[PL,ae];refine ja c1 ↥_ (ns':=["held", "numbers"]) (ws':=[.loc (h.length+1),.tl (nums.map W.int)]) rfl ?_;have c2:=bh (b:=Ob.ins "Doing" ["held", "numbers"] [.loc (h.length+1),.tl (nums.map W.int)]) c1;simp!;refine ja c2 ↥_ (ns':=["held", "numbers", "taken"]) (ws':=[.loc (h.length+1),.tl (nums.map W.int),.int 0]) rfl ?_;have c3:=bh (b:=Ob.ins "Doing" ["held", "numbers", "taken"] [.loc (h.length+1),.tl (nums.map W.int),.int 0]) c2;simp!;refine d9 ?_;simp!;refine ja (jH c3) ↥_ (ns':=nsD) (ws':=[.loc (h.length+1),.tl (nums.map W.int),.int 0,.loc (h.length+2)]) (by unfold nsD;rw[Hb,Hb,l1];rfl) ?_;have l3:((h1.set h.length (.ins "Doing" ["held", "numbers"] [.loc (h.length+1),.tl (nums.map W.int)])).set h.length (.ins "Doing" ["held", "numbers", "taken"] [.loc (h.length+1),.tl (nums.map W.int),.int 0])).length=h.length+2:=by rw[Hb,Hb,l1]
  simp!;refine ag ⟨rfl,⟨bh (jH c3),?_,?_,G8 _⟩,?_,λi hi=>?_⟩
  ·rw[GP ∅,Hg ∅,GP ∅,GP ∅];exact d1
  ·rw[GP ∅,<-l3];exact cF
  ·rw[Hb,GQ,l3];rfl
  ·rw[GP ∅,Hg ∅,GP ∅,GP ∅,f1 i hi,f0 i hi]
theorem yg {β:Type}{nums:List Int}{k:W->M β}{Q:β->List Ob->Prop}{l:Lx->M (List W)}(e:l ρ=pr [bx,nm])(LB:Lw h bx (ps.map bxW))(LN:Lw h nm (nums.map W.int))(q:∀h',DoAt h' h.length (h.length+1) (h.length+2) nums (Qy ps)->h'.length=h.length+3->(∀i,i<h.length->h'[i]?=h[i]?)->Ok (k (.loc h.length)) h' Q):Ok (bd (NZ "Doing" 3 be l ρ) k) h Q:=by
 unfold NZ;rw[e,aU];exact tE rfl (yr LB LN) λh' ⟨D,l1,f⟩=>q h' D l1 f
end
section
open Wd
structure Bl where
 nm:Str
 sts:List Sm
 en:En
noncomputable def Bl.G (ns:List Str)(m:Nat)(b:Bl):Prop:=b.sts.length<=8/\(∀s∈b.sts,s.G ns)/\b.en.G ns m
noncomputable def PgAt (h:List Ob)(x:W)(ps:List (Str×Int))(bs:List Bl):Prop:= ∃ (bx bl:W) (ls:List W),x=.tup [bx,bl]/\Lw h bx (ps.map bxW)/\Lw h bl ls/\ls.length=bs.length/\ ∀ (i:Nat) (b:Bl),bs[i]?=some b-> ∃y,ls[i]?=some (.tup [.str b.nm,y,b.en.w])/\Lw h y (b.sts.map Sm.w)
theorem PgAt.keep {bs:List Bl}(P:PgAt h x ps bs)(f:∀i,i<h.length->h'[i]?=h[i]?):PgAt h' x ps bs:=by
 obtain⟨bx,bl,ls,e,L1,L2,ll,q⟩:=P;refine⟨bx,bl,ls,e,L1.keep f,L2.keep f,ll,λi b hb=>?_⟩;obtain⟨y,e1,L3⟩:=q i b hb;exact⟨y,e1,L3.keep f⟩
structure PgG (ps:List (Str×Int))(bs:List Bl):Prop where
 bx:Bx ps
 bv: ∀p∈ps,0<=p.2/\p.2<1000
 l1:1<=bs.length
 l2:bs.length<=10
 g: ∀b∈bs,b.G (ps.map (·.1)) bs.length
end
section
open Wd
noncomputable def doL (nums:List Int):Sta->List Sm->Sta×Bool
 |s,[]=>(s,true)
 |s,st::r=>if ND nums s st=true then (s,false) else doL nums (doS nums s st) r
noncomputable def side (σ:Sto):En->Nat
 |.iff c a b _ _=>if Mo σ c a b=true then 0 else 1
 |.tab e ts=>(e.val σ % ts.length).toNat
 |_=>0
noncomputable def Qc:En->List Nat
 |.go t=>[t]
 |.iff _ _ _ x y=>[x,y]
 |.tab _ ts=>ts
 |.stop=>[]
noncomputable def to (σ:Sto)(e:En):Nat:=(Qc e).getD (side σ e) 0
structure OutB where
 said:List Int
 en:Str
 went:List (Nat×Nat×Nat)
noncomputable abbrev Way:=Nat×Nat×Nat
noncomputable def QZ (w:Way):List Key:=[.inl w.1,.inl w.2.1,.inl w.2.2]
noncomputable def Q0 (w:Way):W:=.kt (QZ w)
theorem ktN (a b c:Nat):ktW [nI a,nI b,nI c]=pr (Q0 (a,b,c)):=by
 show gd (([nI a,nI b,nI c]:List W).length<=sizeLine) (pr (W.kt (QZ (a,b,c))))=_;exact ah (by show (3:Nat)<=sizeLine;decide)
noncomputable def En.stops:En->Bool
 |.stop=>true
 |_=>false
noncomputable def Pq (nums:List Int)(bs:List Bl):Nat->Nat->Sta->OutB
 |0,_,s=>⟨s.said, "on",[]⟩
 |n+1,p,s=>match bs[p]? with
  |none=>⟨s.said, "",[]⟩
  |some b=>
   if (doL nums s b.sts).2=false then⟨(doL nums s b.sts).1.said, "out",[]⟩
   else if b.en.stops=true then⟨(doL nums s b.sts).1.said, "stop",[]⟩
   else⟨(Pq nums bs n (to (doL nums s b.sts).1.σ b.en) (doL nums s b.sts).1).said,(Pq nums bs n (to (doL nums s b.sts).1.σ b.en) (doL nums s b.sts).1).en,(p,side (doL nums s b.sts).1.σ b.en,to (doL nums s b.sts).1.σ b.en)::(Pq nums bs n (to (doL nums s b.sts).1.σ b.en) (doL nums s b.sts).1).went⟩
theorem ub (nums:List Int): ∀ (l:List Sm) (s:Sta),(doL nums s l).1.said.length<=s.said.length+l.length
 |[],s=>GO _
 |st::r,s=>by
  unfold doL;split
  ·exact Hv _ _
  ·have:=ub nums r (doS nums s st);have:=oM nums s st;rw[GT];omega
section
variable {ns:List Str}
theorem GM:decide (("go":Str)= "if")=false:=⋯
theorem GK:decide (("go":Str)= "table")=false:=⋯
theorem GL:decide (("go":Str)= "stop")=false:=⋯
theorem GJ:decide (("if":Str)= "go")=false:=⋯
theorem GH:decide (("if":Str)= "stop")=false:=⋯
theorem GG:decide (("table":Str)= "go")=false:=⋯
theorem FU:decide (("table":Str)= "if")=false:=⋯
theorem GF:decide (("table":Str)= "stop")=false:=⋯
theorem kB {m:Nat}(σ:Sto)(g:e.G ns m)(n:e.stops=false):side σ e<(Qc e).length:=by
 cases e with
 |stop=>cases n
 |go t=>exact Nat.zero_lt_one
 |iff c a b x y=>show (if Mo σ c a b=true then 0 else 1)<2;split<;>decide
 |tab e ts=>
  obtain⟨_,l1,_,_⟩:=g;have q1:0<=e.val σ % (ts.length:Int):=Hl _ ∅;have q2:e.val σ % (ts.length:Int)<ts.length:=Hm _ ∅;show (e.val σ % ts.length).toNat<ts.length;omega
theorem wx {m:Nat}(g:e.G ns m): ∀t∈Qc e,t<m:=by
 cases e with
 |stop=>intro t ht;cases ht
 |go t=>intro u hu;rw[Hh.mp hu];exact g
 |iff c a b x y=>
  intro u hu;obtain⟨_,_,_,gx,gy⟩:=g;rcases GR.mp hu with rfl|hu
  ·exact gx
  ·rw[Hh.mp hu];exact gy
 |tab e ts=>exact g.2.2.2
theorem v4 {m:Nat}(σ:Sto)(g:e.G ns m)(n:e.stops=false):to σ e<m:=by
 have h:=kB σ g n;unfold to;rw[HH,G0 h,Ig];exact wx g _ (Iv _)
theorem yJ {m:Nat}{e:En}(g:e.G ns m): ∃c l,e.w=.tup (.str c::l)/\decide (c= "stop")=e.stops:=by
 cases e with
 |stop=>exact⟨_,_,rfl,decide_eq_true rfl⟩
 |go t=>exact⟨_,_,rfl,GL⟩
 |iff c a b x y=>exact⟨_,_,rfl,GH⟩
 |tab e ts=>exact⟨_,_,rfl,GF⟩
end
end
section
open Wd
theorem wo {ns:List Str}{st:Sm}(g:st.G ns): ∃c l,st.w=.tup (.str c::l)/\decide (c= "ask")=st.asks:=by
 cases st with
 |put y e=>exact⟨_,_,rfl,EF⟩
 |say e=>exact⟨_,_,rfl,EE⟩
 |ask y=>exact⟨_,_,rfl,decide_eq_true rfl⟩
noncomputable def bD:Lx->M Fl:=(PU (sIf (mB (N3 "Doing" "lacks_number" 2 aI ↥0 (NX ↥2 N9))) (PQ (mC (.bl false))) PP) (sEx (N3 "Doing" "do_statement" 2 aO ↥0 (NX ↥2 N9))))
theorem iX:db=(PU (PM (Og ↥1 Qv) (tgN 2) bD) (PQ (mC (.bl true)))):=rfl
section
variable {ns:List Str}{d kh kS:Nat}{nums:List Int}
theorem ua {x:W}{G:List Ob->Prop}{h0:List Ob}(hG: ∀h,(∀i,i<h0.length->h[i]?=h0[i]?)->G h)(hd:h0.length<=d/\h0.length<=kh/\h0.length<=kS): ∀ (l:List Sm) (s:Sta) (h:List Ob) (a:Option W),(∀st∈l,st.G ns)->DoAt h d kh kS nums s->Has ns s.σ->s.said.length+l.length<=100000->(∀i,i<h0.length->h[i]?=h0[i]?)->Ok (L2.forM G (tgN 2) bD (l.map Sm.w) [some (.loc d),some x,a]) h λr h'=>DoAt h' d kh kS nums (doL nums s l).1/\Has ns (doL nums s l).1.σ/\On3 d kh kS h h'/\(((doL nums s l).2=true/\ ∃a',r=.nx [some (.loc d),some x,a'])\/((doL nums s l).2=false/\r=.rt (.bl false)))
 |[],s,h,a,_,D,H,_,f=>by
  refine⟨.nx [some (.loc d),some x,a],h,?_,D,H,On3.refl,.inl ⟨rfl,a,rfl⟩⟩;show L2.forM G (tgN 2) bD [] _ h=_;unfold L2.forM;rw[iL (hG h f)];rfl
 |st::l,s,h,a,g,D,H,z,f=>by
  have gst:=g st GY;obtain⟨c,m,ew,ha⟩:=wo gst;have step:Ok (bD [some (.loc d),some x,some st.w]) h λr h'=>(ND nums s st=true/\r=.rt (.bl false)/\h'=h)\/(ND nums s st=false/\r=.nx [some (.loc d),some x,some st.w]/\DoAt h' d kh kS nums (doS nums s st)/\Has ns (doS nums s st).σ/\On3 d kh kS h h'):=by
   rw[ew];simp! only[bD,N3,ae];refine cn D.ob (by unfold nsD;decide+kernel) ?_;simp!;refine tQ D ?_;cases hl:ND nums s st with
   |true=>
    have hl':(decide (c= "ask") && decide (s.taken=nums.length))=true:=by rw[ha];exact hl
    simp![hl'];exact ag (.inl ⟨by first|rfl|trivial,rfl,rfl⟩)
   |false=>
    have hl':(decide (c= "ask") && decide (s.taken=nums.length))=false:=by rw[ha];exact hl
    simp![hl'];refine cn D.ob (by unfold nsD;decide+kernel) ?_;simp!;rw[<-ew];refine aD (BC D H gst hl (by rw[GT] at z;omega)) λw h1 qq_=>?_;obtain⟨ew1,D1,H1,O1⟩:=qq_;subst ew1;simp!;exact ag (.inr ⟨by first|rfl|trivial,rfl,D1,H1,O1⟩)
  obtain⟨r,h1,e1,q⟩:=step
  have fe:L2.forM G (tgN 2) bD ((st::l).map Sm.w) [some (.loc d),some x,a] h=(match bD [some (.loc d),some x,some st.w] h with
   |.ok (.nx r) h'=>L2.forM G (tgN 2) bD (l.map Sm.w) r h'
   |.ok (.ct r) h'=>L2.forM G (tgN 2) bD (l.map Sm.w) r h'
   |.ok (.bk r) h'=>.ok (.nx r) h'
   |.ok (.rt w) h'=>.ok (.rt w) h'
   |.ex c h'=>.ex c h'
   |.bad=>.bad):=by
   rw[GV]
   conv=>lhs;unfold L2.forM
   rw[iL (hG h f)];show (bd (bD [some (.loc d),some x,some st.w]) _) h=_;unfold bd;cases bD [some (.loc d),some x,some st.w] h with
   |ok a h'=>cases a<;>rfl
   |ex c h'=>rfl
   |bad=>rfl
  rcases q with⟨hl,rfl,rfl⟩|⟨hl,rfl,D1,H1,O1⟩
  ·have ed:doL nums s (st::l)=(s,false):=by unfold doL;rw[if_pos hl]
   rw[ed];refine⟨.rt (.bl false),_,?_,D,H,On3.refl,.inr ⟨rfl,rfl⟩⟩;rw[fe,e1]
  ·have ed:doL nums s (st::l)=doL nums (doS nums s st) l:=by
    conv=>lhs;unfold doL
    rw[hl,if_neg G5]
   rw[ed];have f1: ∀i,i<h0.length->h1[i]?=h0[i]?:=λi hi=>(O1.eq i ∅ ∅ ∅).trans (f i hi);obtain⟨r2,h2,e2,D2,H2,O2,q2⟩:=ua hG hd l (doS nums s st) h1 (some st.w) (λy hy=>g y (G9 _ hy)) D1 H1 (by have:=oM nums s st;rw[GT] at z;omega) f1;refine⟨r2,h2,?_,D2,H2,O1.trans O2,q2⟩;rw[fe,e1];exact e2
theorem Ec (L:Lw h0 y (l.map Sm.w))(f:∀i,i<h0.length->h[i]?=h0[i]?)(hd:h0.length<=d/\h0.length<=kh/\h0.length<=kS)(g:∀st∈l,st.G ns)(D:DoAt h d kh kS nums s)(H:Has ns s.σ)(z:s.said.length+l.length<=100000):Ok (cE [.loc d,y]) h λr h'=>r=.bl (doL nums s l).2/\DoAt h' d kh kS nums (doL nums s l).1/\Has ns (doL nums s l).1.σ/\On3 d kh kS h h':=by
 have e0:cE [.loc d,y]=bd (db [some (.loc d),some y,none]) MP:=rfl;rw[e0,iX];simp! only[PM,ae];refine (L.keep f).src λG hG=>?_;refine aD (ua (h0:=h0) (λh' f'=>hG h' (L.keep f')) hd l s h none g D H z f) λr h' qq_=>?_;obtain⟨D1,H1,O1,q⟩:=qq_;rcases q with⟨q,a,rfl⟩|⟨q,rfl⟩
 ·simp!;exact ag ⟨by rw[q],D1,H1,O1⟩
 ·simp!;exact ag ⟨by rw[q],D1,H1,O1⟩
theorem pz {m:Nat}(g:e.G ns m)(n:e.stops=false):cO [e.w]=pr (.tup ((Qc e).map nI)):=by
 have e0:cO [e.w]=bd (dM [some e.w]) MP:=rfl;rw[e0];unfold dM;cases e with
 |stop=>cases n
 |go t=>
  unfold En.w Qc;simp![ix0,ix1,eq_self,decide_true,QT];rfl
 |iff s a b x y=>
  unfold En.w Qc;simp![ix0,ix1,ix4,ix5,eq_self,decide_true,GJ,QT];rfl
 |tab e ts=>
  unfold En.w Qc;simp![ix0,ix1,ix2,eq_self,decide_true,GG,FU]
theorem DX {β:Type}{m:Nat}{k:W->M β}{Q:β->List Ob->Prop}(D:DoAt h d kh kS nums s)(H:Has ns s.σ)(g:e.G ns m)(n:e.stops=false)(q:Ok (k (nI (side s.σ e))) h Q):Ok (bd (dC [.loc d,e.w]) k) h Q:=by
 refine aD (P:=λw h'=>w=nI (side s.σ e)/\h'=h) ?_ λw h' ⟨e1,e2⟩=>by subst e1 e2;exact q
 have e0:dC [.loc d,e.w]=bd (eE [some (.loc d),some e.w]) MP:=rfl;rw[e0];unfold eE;cases e with
 |stop=>cases n
 |go t=>
  unfold En.w side;simp![ix0,ix1,GM,GK];exact ag ⟨rfl,rfl⟩
 |iff c a b x y=>
  obtain⟨_,ga,gb,_⟩:=g;unfold En.w side;simp! only[N3,ae,ix0,ix1,ix2,ix3,eq_self,decide_true];refine cn D.ob (by unfold nsD;decide+kernel) ?_;simp![ix0,ix1,ix2,ix3];refine ou D H ga gb ?_;cases hq:Mo s.σ c a b<;>(simp!)<;>exact ag ⟨rfl,rfl⟩
 |tab e ts=>
  obtain⟨ge,l1,_,_⟩:=g;have em:e.val s.σ % (ts.length:Int)=(((e.val s.σ % (ts.length:Int)).toNat:Nat):Int):=(Int.toNat_of_nonneg (Hl _ ∅)).symm;unfold En.w side;simp! only[N3,ae,ix0,ix1,ix2,eq_self,decide_true,FU];refine cn D.ob (by unfold nsD;decide+kernel) ?_;simp![ix0,ix1,ix2,GN];refine qh D H ge ∅ ?_;simp!;exact ag ⟨by rw[em];rfl,rfl⟩
end
noncomputable def tB:Lx->M Bool:=(mB (m2 ltW (NU NM (NX ↥4 N9)) ↥2))
noncomputable def bB:Lx->M Fl:=(PU (PV 6 (m2 ixW (m2 ixW ↥0 ⇑1) ↥5)) (PU (sIf (Oa (mB (NU (arW 2 cE) (NX ↥3 (NX (m2 ixW ↥6 ⇑1) N9))))) (PQ (Oi (NX (m1 (MU "Doing" "said") ↥3) (NX (Oi (NX ⇑"out" N9)) (NX ↥4 N9))))) PP) (PU (PV 7 (m2 ixW ↥6 ⇑2)) (PU (sIf (mB (m2 eqW (m2 ixW ↥7 ⇑0) ⇑"stop")) (PQ (Oi (NX (m1 (MU "Doing" "said") ↥3) (NX (Oi (NX ⇑"stop" N9)) (NX ↥4 N9))))) PP) (PU (PV 8 (NU (arW 2 dC) (NX ↥3 (NX ↥7 N9)))) (PU (PV 9 (m2 ixW (NU (arW 1 cO) (NX ↥7 N9)) ↥8)) (PU (sEx (N7 isL ba ↥4 (NX (mKt (NX ↥5 (NX ↥8 (NX ↥9 N9)))) N9))) (PV 5 ↥9))))))))
theorem uN:tZ=(PU (PV 3 (NZ "Doing" 3 be (NX (m2 ixW ↥0 ⇑0) (NX ↥1 N9)))) (PU (PV 4 (N8 (NK N9))) (PU (PV 5 ⇑0) (PU (cX tB bB 42) (PQ (Oi (NX (m1 (MU "Doing" "said") ↥3) (NX (Oi (NX ⇑"on" N9)) (NX ↥4 N9))))))))):=rfl
noncomputable def ME (x nm:W)(bound:Int)(d kw:Nat)(place:Nat)(a6 a7 a8 a9:Option W):Lx:=[some x,some nm,some (.int bound),some (.loc d),some (.loc kw),some (nI place),a6,a7,a8,a9]
section
variable {d kh kS kw:Nat}{nums:List Int}{ps:List (Str×Int)}{bs:List Bl}{x nm:W}{bound:Int}{h0:List Ob}
theorem qd (PG:PgG ps bs)(PA:PgAt h0 x ps bs)(d0:h0.length<=d)(d1:h0.length<=kh)(d2:h0.length<=kS)(d3:h0.length<=kw)(w1:kw≠d)(w2:kw≠kh)(w3:kw≠kS): ∀ (n m:Nat) (p:Nat) (s:Sta) (went:List (Nat×Nat×Nat)) (h:List Ob) (a6 a7 a8 a9:Option W),n<m->(went.length:Int)+n=bound->DoAt h d kh kS nums s->Has (ps.map (·.1)) s.σ->p<bs.length->s.said.length+8 * n<=100000->went.length+n<=10000->h[kw]?=some (.lst (went.map Q0))->(∀i,i<h0.length->h[i]?=h0[i]?)->Ok (cX tB bB m (ME x nm bound d kw p a6 a7 a8 a9)) h λr h'=>(∀i,i<h0.length->h'[i]?=h0[i]?)/\h'[kS]?=some (.lst ((Pq nums bs n p s).said.map W.int))/\h'[kw]?=some (.lst ((went++(Pq nums bs n p s).went).map Q0))/\(r=.rt (.tup [.loc kS,.tup [.str (Pq nums bs n p s).en],.loc kw])\/ ∃ (p':Nat) (s':Sta) (b6 b7 b8 b9:Option W),r=.nx (ME x nm bound d kw p' b6 b7 b8 b9)/\(Pq nums bs n p s).en= "on"/\DoAt h' d kh kS nums s')
 |0,m+1,p,s,went,h,a6,a7,a8,a9,hm,hb,D,H,hp,hz,hw,ew,f=>by
  refine Ey ?_ ⟨f,D.said,by show _=some (Ob.lst ((went++[]).map Q0));rw[Hn];exact ew,.inr ⟨p,s,a6,a7,a8,a9,rfl,rfl,D⟩⟩;obtain⟨N,hN⟩: ∃N:Int,N=((went.map Q0).length:Int):=⟨_,rfl⟩
  have hN':N=(went.length:Int):=by rw[hN,GN]
  have hc: ¬N<bound:=∅;have LW:Lw h (.loc kw) (went.map Q0):=.inr ⟨kw,rfl,ew⟩;simp! only[tB,ME,ae];refine LW.len_eq hN ?_;simp![decide_eq_false hc];exact ag ⟨rfl,rfl⟩
 |n+1,m+1,p,s,went,h,a6,a7,a8,a9,hm,hb,D,H,hp,hz,hw,ew,f=>by
  refine Ew ?_ ?_
  ·obtain⟨N,hN⟩: ∃N:Int,N=((went.map Q0).length:Int):=⟨_,rfl⟩
   have hN':N=(went.length:Int):=by rw[hN,GN]
   have hc:N<bound:=∅;have LW:Lw h (.loc kw) (went.map Q0):=.inr ⟨kw,rfl,ew⟩;simp! only[tB,ME,ae];refine LW.len_eq hN ?_;simp![decide_eq_true hc];exact ag ⟨rfl,rfl⟩
  obtain⟨b,eb⟩: ∃b,bs[p]?=some b:=⟨_,G0 hp⟩
  obtain⟨g1,g2,g3⟩:=PG.g b (Hi eb);obtain⟨bx,bl,ls,ex,LB,LL,ll,q⟩:=PA;obtain⟨y,ey,LY⟩:=q p b eb;obtain⟨c,l,ec,hc⟩:=yJ g3;have PA':PgAt h0 x ps bs:=⟨bx,bl,ls,ex,LB,LL,ll,q⟩
  have x1:ixW x (.int 1)=pr bl:=by rw[ex];exact ix1 _ _ _
  simp! only[bB,ME,ae,x1];refine (LL.keep f).ix (eG ey) ?_;simp![ix1];refine aD (Ec LY f ⟨d0,d1,d2⟩ g2 D H ∅) λr h1 qq_=>?_;obtain⟨er,D1,H1,O1⟩:=qq_;subst er;have f1: ∀i,i<h0.length->h1[i]?=h0[i]?:=λi hi=>(O1.eq i ∅ ∅ ∅).trans (f i hi);have ew1:h1[kw]?=some (.lst (went.map Q0)):=(O1.eq kw w1 w2 w3).trans ew;cases hd:(doL nums s b.sts).2 with
  |false=>
   have er:Pq nums bs (n+1) p s=⟨(doL nums s b.sts).1.said, "out",[]⟩:=by
    conv=>lhs;unfold Pq
    rw[eb];dsimp only;rw[if_pos hd]
   rw[er];simp!;refine aJ D1.ob (gr ..) ?_;simp![QT];exact ag (.inr ⟨_,rfl,f1,D1.said,by rw[Hn];exact ew1,.inl rfl⟩)
  |true=>
   simp![ix2];cases hs:b.en.stops with
   |true=>
    have er:Pq nums bs (n+1) p s=⟨(doL nums s b.sts).1.said, "stop",[]⟩:=by
     conv=>lhs;unfold Pq
     rw[eb];dsimp only;rw[hd,if_neg ⇑_,hs,if_pos rfl]
    rw[er];rw[hs] at hc;simp![ec,ix0,hc];refine aJ D1.ob (gr ..) ?_;simp![QT];exact ag (.inr ⟨_,rfl,f1,D1.said,by rw[Hn];exact ew1,.inl rfl⟩)
   |false=>
    have er:Pq nums bs (n+1) p s=⟨(Pq nums bs n (to (doL nums s b.sts).1.σ b.en) (doL nums s b.sts).1).said,(Pq nums bs n (to (doL nums s b.sts).1.σ b.en) (doL nums s b.sts).1).en,(p,side (doL nums s b.sts).1.σ b.en,to (doL nums s b.sts).1.σ b.en)::(Pq nums bs n (to (doL nums s b.sts).1.σ b.en) (doL nums s b.sts).1).went⟩:=by
     conv=>lhs;unfold Pq
     rw[eb];dsimp only;rw[hd,if_neg ⇑_,hs,if_neg ⇑_]
    rw[er];rw[hs] at hc;have sd:=kB (doL nums s b.sts).1.σ g3 hs;have tl:=v4 (doL nums s b.sts).1.σ g3 hs;have dl:=ub nums b.sts s;have at0:atI ((Qc b.en).map nI) ((side (doL nums s b.sts).1.σ b.en:Nat):Int)=some (nI (to (doL nums s b.sts).1.σ b.en)):=by
     refine eG ?_;unfold to;rw[GW,HH,G0 sd,Ig];rfl
    have e1:ixW (.tup ((Qc b.en).map nI)) (nI (side (doL nums s b.sts).1.σ b.en))=pr (nI (to (doL nums s b.sts).1.σ b.en)):=dy at0;rw[ec];simp![ix0,hc];rw[<-ec];refine DX D1 H1 g3 hs ?_;simp![pz g3 hs,e1];refine cz ew1 ?_;simp! only[mKt,ae,ktN];refine eg ew1 (by rw[GN];exact Hs (show went.length<=10000 by omega) ↥_) ?_;simp!;have D2:DoAt (h1.set kw (.lst (went.map Q0++[Q0 (p,side (doL nums s b.sts).1.σ b.en,to (doL nums s b.sts).1.σ b.en)]))) d kh kS nums (doL nums s b.sts).1:=D1.keep λi hi=>by
     rw[GP];rcases hi with rfl|rfl|rfl
     ·exact w1
     ·exact w2
     ·exact w3
    have ih:=qd PG PA' d0 d1 d2 d3 w1 w2 w3 n m (to (doL nums s b.sts).1.σ b.en) (doL nums s b.sts).1 (went++[(p,side (doL nums s b.sts).1.σ b.en,to (doL nums s b.sts).1.σ b.en)]) (h1.set kw (.lst (went.map Q0++[Q0 (p,side (doL nums s b.sts).1.σ b.en,to (doL nums s b.sts).1.σ b.en)]))) (some (.tup [.str b.nm,y,b.en.w])) (some b.en.w) (some (nI (side (doL nums s b.sts).1.σ b.en))) (some (nI (to (doL nums s b.sts).1.σ b.en))) ∅ (by rw[GQ];show ((went.length+1:Nat):Int)+n=bound;omega) D2 H1 tl ∅ (by rw[GQ];show went.length+1+n<=10000;omega) (by rw[bh ew1,GX];rfl) λi hi=>by rw[GP ∅];exact f1 i hi
    refine ag (.inl ⟨_,rfl,Ok.imp ih λr h' ⟨q1,q2,q3,q4⟩=>⟨q1,q2,by rw[Hc] at q3;exact q3,q4⟩⟩)
theorem rB {bound:Nat}(PG:PgG ps bs)(PA:PgAt h x ps bs)(LN:Lw h nm (nums.map W.int))(hb:bound<42):Ok (nt [x,nm,nI bound]) h λw h'=>(∀i,i<h.length->h'[i]?=h[i]?)/\ ∃k k',h.length<=k/\h.length<=k'/\k≠k'/\w=.tup [.loc k,.tup [.str (Pq nums bs bound 0 (Qy ps)).en],.loc k']/\h'[k]?=some (.lst ((Pq nums bs bound 0 (Qy ps)).said.map W.int))/\h'[k']?=some (.lst ((Pq nums bs bound 0 (Qy ps)).went.map Q0)):=by
 have e0:nt [x,nm,nI bound]=bd (tZ [some x,some nm,some (nI bound),none,none,none,none,none,none,none]) MP:=rfl;rw[e0,uN];obtain⟨bx,bl,ls,ex,LB,LL,ll,q⟩:=PA;have PA':PgAt h x ps bs:=⟨bx,bl,ls,ex,LB,LL,ll,q⟩
 simp!;refine yg (bx:=bx) (by rw[ex];simp![ix0]) LB LN λh1 D l1 f1=>?_;simp!;refine d9 ?_;simp!;rw[l1];have D':DoAt (h1++[Ob.lst []]) h.length (h.length+1) (h.length+2) nums (Qy ps):=D.keep λi hi=>Hg ∅;have lp:=qd (nm:=nm) (bound:=(bound:Int)) (kw:=h.length+3) PG PA' (GO _) (HK _) (Hv _ _) (Hv _ _) ∅ ∅ ∅ bound 42 0 (Qy ps) [] (h1++[Ob.lst []]) none none none none hb (by show (((([]:List (Nat×Nat×Nat)).length:Nat):Int))+bound=bound;simp) D' (Has.first PG.bx.len PG.bv) PG.l1 (by show 0+8 * bound<=100000;omega) (by show 0+bound<=10000;omega) (by rw[<-l1];exact cF) λi hi=>by rw[Hg ∅];exact f1 i hi
 refine aD lp λr h2 qq_=>?_;obtain⟨q1,q2,q3,q4⟩:=qq_;rcases q4 with rfl|⟨p',s',b6,b7,b8,b9,rfl,q5,q6⟩
 ·simp!;exact ag ⟨q1,_,_,Hv _ _,Hv _ _,∅,rfl,q2,q3⟩
 ·simp! only[ME,ae];refine aJ q6.ob (gr ..) ?_;simp![QT];exact ag ⟨q1,_,_,Hv _ _,Hv _ _,∅,by rw[q5],q2,q3⟩
end
end
section
open Wd
structure Nw (h h':List Ob):Prop where
 le:h.length<=h'.length
 eq: ∀i,i<h.length->h'[i]?=h[i]?
theorem Nw.trans (x:Nw a b)(y:Nw b c):Nw a c:=⟨Hf x.le y.le,λi hi=>(y.eq i (Ha hi x.le)).trans (x.eq i hi)⟩
theorem Nw.get {j:Nat}(x:Nw h h')(e:h[j]?=some b):h'[j]?=some b:=(x.eq j (bL e)).trans e
structure Nd (h h':List Ob)(j:Nat)(b:Ob):Prop where
 nw:Nw h h'
 ge:h.length<=j
 new:h'[j]?=some b
theorem Nd.put {j:Nat}(N:Nd h h' j b)(c:Ob):Nd h (h'.set j c) j c:=
 ⟨⟨by rw[Hb];exact N.nw.le,λi hi=>by rw[GP (by have:=N.ge;omega)];exact N.nw.eq i hi⟩,N.ge,bh N.new⟩
theorem Nd.more {j:Nat}(N:Nd h h' j b)(K:Nw h' h2):Nd h h2 j b:=⟨N.nw.trans K,N.ge,K.get N.new⟩
theorem Nd.mk0 :Nd h (h++[b]) h.length b:=⟨⟨⇑_,λi hi=>by rw[Hg hi]⟩,GO _,cF⟩
noncomputable def d8 (k:Nat)(ts:List Nat):List Way:=ts.zipIdx.map λp=>(k,p.2,p.1)
noncomputable def Q2 (es:List En):List Way:=es.zipIdx.flatMap λp=>d8 p.2 (Qc p.1)
noncomputable def wyB (bs:List Bl):List Way:=Q2 (bs.map Bl.en)
theorem kZ (k:Nat)(ts:List Nat)(t:Nat):d8 k (ts++[t])=d8 k ts++[(k,ts.length,t)]:=by
 unfold d8;rw[JV,GX];simp
theorem mQ (k:Nat)(ts:List Nat):(d8 k ts).length=ts.length:=by unfold d8;simp
theorem jS (es:List En)(e:En):Q2 (es++[e])=Q2 es++d8 es.length (Qc e):=by
 unfold Q2;rw[JV,IK];simp
theorem Qd {k:Nat}{w:Way}:w∈d8 k ts↔w.1=k/\ts[w.2.1]?=some w.2.2:=by
 unfold d8;rw[G6];constructor
 ·rintro⟨⟨t,i⟩,h,rfl⟩
  rw[IL] at h;exact⟨rfl,h⟩
 ·rintro⟨rfl,h⟩
  exact⟨(w.2.2,w.2.1),by rw[IL];exact h,rfl⟩
theorem Q3 {w:Way}:w∈Q2 es↔ ∃e,es[w.1]?=some e/\(Qc e)[w.2.1]?=some w.2.2:=by
 unfold Q2;rw[List.mem_flatMap];constructor
 ·rintro⟨⟨e,i⟩,h,hw⟩
  rw[IL] at h;obtain⟨rfl,h2⟩:=Qd.mp hw;exact⟨e,h,h2⟩
 ·rintro⟨e,h,h2⟩
  exact⟨(e,w.1),by rw[IL];exact h,Qd.mpr ⟨rfl,h2⟩⟩
theorem iC {α:Type}{l:List α}{i:Nat}{x:α}(h:l[i]?=some x):(l.take i).length=i:=by
 have:=(G1.mp h).1;rw[Hr];omega
theorem z0 {α:Type}{l:List α}{x:α}(h:l.Nodup)(n:x ∉ l):(l++[x]).Nodup:=by
 rw[II];exact⟨h,⇑_,λa ha b hb e=>n (by rw[Hh.mp hb] at e;rw[<-e];exact ha)⟩
theorem pp (k:Nat)(ts:List Nat): ∀n,n<=ts.length->(d8 k (ts.take n)).Nodup
 |0,_=>by rw[HQ];exact IY
 |n+1,h=>by
  obtain⟨t,ht⟩: ∃t,ts[n]?=some t:=⟨_,G0 ∅⟩
  rw[bE ht,kZ,iC ht];refine z0 (pp k ts n ∅) λm=>?_;have:=(G1.mp (Qd.mp m).2).1;rw[iC ht] at this;exact HI _ this
theorem sG (es:List En): ∀n,n<=es.length->(Q2 (es.take n)).Nodup
 |0,_=>by rw[HQ];exact IY
 |n+1,h=>by
  obtain⟨e,he⟩: ∃e,es[n]?=some e:=⟨_,G0 ∅⟩
  rw[bE he,jS,iC he,II];refine⟨sG es n ∅,by have:=pp n (Qc e) (Qc e).length (GO _);rw[Hk] at this;exact this,λa ha b hb eq=>?_⟩;subst eq;obtain⟨e',h1,_⟩:=Q3.mp ha;have l1:=(G1.mp h1).1;rw[iC he,(Qd.mp hb).1] at l1;exact HI _ l1
theorem Bj (bs:List Bl):(wyB bs).Nodup:=by
 have:=sG (bs.map Bl.en) (bs.map Bl.en).length (GO _);rw[Hk] at this;exact this
theorem qW {ns:List Str}{m:Nat}(g:e.G ns m):(Qc e).length<=6:=by
 cases e with
 |stop=>exact G8 _
 |go t=>show 1<=6;decide
 |iff c a b x y=>show 2<=6;decide
 |tab e ts=>exact g.2.2.1
theorem kO (es:List En)(h:∀e∈es,(Qc e).length<=6): ∀n,n<=es.length->(Q2 (es.take n)).length<=6 * n
 |0,_=>by rw[HQ];exact GO _
 |n+1,hn=>by
  have ih:=kO es h n ∅;have e1:es[n]?=some es[n]:=G0 ∅;have h6:=h _ (Hi e1);rw[bE e1,jS,GQ,mQ];omega
section
variable {ps:List (Str×Int)}{bs:List Bl}
theorem vP (G:PgG ps bs):(wyB bs).length<=60:=by
 have:=kO (bs.map Bl.en) (λe he=>by
  obtain⟨b,hb,rfl⟩:=G6.mp he
  exact qW (G.g b hb).2.2) (bs.map Bl.en).length (GO _)
 rw[Hk,GN] at this;have:=G.l2;show (Q2 (bs.map Bl.en)).length<=60;omega
theorem jh {nums:List Int}(G:PgG ps bs): ∀ (n p:Nat) (s:Sta),∀w∈(Pq nums bs n p s).went,w∈wyB bs
 |0,p,s=>λw h=>absurd h Hj
 |n+1,p,s=>by
  unfold Pq;split
  ·exact λw h=>absurd h Hj
  ·rename_i b hb;have g:=(G.g b (Hi hb)).2.2;split
   ·exact λw h=>absurd h Hj
   ·split
    ·exact λw h=>absurd h Hj
    ·rename_i _ hs;intro w hw;rcases GR.mp hw with rfl|hw
     ·refine Q3.mpr ⟨b.en,by rw[GW,hb];rfl,?_⟩;have sl:=kB (doL nums s b.sts).1.σ g (by simpa using hs);show (Qc b.en)[side _ b.en]?=some (to _ b.en);unfold to;rw[HH,G0 sl,Ig]
     ·exact jh G n _ _ w hw
theorem uB {ns:List Str}{m:Nat}(g:e.G ns m):cO [e.w]=pr (.tup ((Qc e).map nI)):=by
 cases hs:e.stops with
 |false=>exact pz g hs
 |true=>
  cases e with
  |stop=>
   have e0:cO [En.stop.w]=bd (dM [some En.stop.w]) MP:=rfl;rw[e0];unfold dM;unfold En.w Qc;simp![ix0,show decide (("stop":Str)= "go")=false by decide+kernel,show decide (("stop":Str)= "if")=false by decide+kernel,show decide (("stop":Str)= "table")=false by decide+kernel,QT];rfl
  |_=>cases hs
theorem Lw.enum {β:Type}{Q:β->List Ob->Prop}{k:Sr->M β}(p:Lw h x l)(q:∀G,(∀h',Lw h' x l->G h')->Ok (k ⟨Oy 0 l,G⟩) h Q):Ok (bd (MB [x]) k) h Q:=by
 show Ok (bd (bd (Qv x) λs=>pr ⟨Oy 0 s.l,s.G⟩) k) h Q;rw[ae];refine Lw.src p λG g=>?_;rw[aU];exact q G g
theorem yf {β:Type}{k:W->M β}{Q:β->List Ob->Prop}(PG:PgG ps bs)(PA:PgAt h x ps bs)(q:∀h',Nw h h'->Ok (k (.tl ((wyB bs).map Q0))) h' Q):Ok (bd (l6 [x]) k) h Q:=by
 have e0:l6 [x]=bd (oF [some x,none,none,none,none,none]) MP:=rfl;rw[e0];unfold oF;obtain⟨bx,bl,ls,ex,LB,LL,ll,qb⟩:=PA;have x1:ixW x (.int 1)=pr bl:=by rw[ex];exact ix1 _ _ _
 simp!;refine d9 ?_;simp![x1];refine Lw.enum (LL.keep (Nd.mk0 (h:=h) (b:=.lst [])).nw.eq) λG hG=>?_;simp!;have h6: ∀e∈bs.map Bl.en,(Qc e).length<=6:=λe he=>by
  obtain⟨b,hb,rfl⟩:=G6.mp he;exact qW (PG.g b hb).2.2
 have b10:=PG.l2;refine df (I:=λi ρ h'=> ∃a b c d,ρ=[some x,some (.loc h.length),a,b,c,d]/\Nd h h' h.length (.lst ((Q2 ((bs.map Bl.en).take i)).map Q0))) ⟨_,_,_,_,rfl,Nd.mk0⟩ (λ_ _ _ I=>by obtain⟨_,_,_,_,_,N⟩:=I;exact hG _ (LL.keep N.nw.eq)) (λi w ρ h1 hw I=>?_) λρ h1 I=>?_
 ·obtain⟨a,b,c,d,rfl,N⟩:=I;obtain⟨x',hx',rfl⟩:=hZ _ _ _ _ hw;have hi:i<bs.length:=by rw[<-ll];exact (G1.mp hx').1
  obtain⟨b,hb⟩: ∃b,bs[i]?=some b:=⟨_,G0 hi⟩
  obtain⟨y,ey,_⟩:=qb i b hb;rw[hx'] at ey;cases ey;have g:=(PG.g b (Hi hb)).2.2;have he:(bs.map Bl.en)[i]?=some b.en:=by rw[GW,hb];rfl
  have w6:=kO (bs.map Bl.en) h6 i (by rw[GN];omega);have t6:=qW g;refine⟨_,rfl,?_⟩;simp![ix2,uB g,vC];refine oj (I:=λm ρ h'=> ∃c d,ρ=[some x,some (.loc h.length),some (.int (0+(i:Int))),some (.tup [.str b.nm,y,b.en.w]),c,d]/\Nd h h' h.length (.lst ((Q2 ((bs.map Bl.en).take i)++d8 i ((Qc b.en).take m)).map Q0))) ⟨_,_,rfl,by rw[HQ];show Nd h h1 h.length (.lst ((_++[]).map Q0));rw[Hn];exact N⟩ (λ_ _ _ _=>trivial) (λm w ρ h2 hw I=>?_) λρ h2 I=>?_
  ·obtain⟨c,d,rfl,N⟩:=I;obtain⟨x',hx',rfl⟩:=hZ _ _ _ _ hw;rw[GW] at hx';obtain⟨t,ht,rfl⟩:=Hd.mp hx';have hm:=(G1.mp ht).1;have i0:(W.int (0+(i:Int)))=nI i:=by rw[Int.zero_add];rfl
   have m0:(W.int (0+(m:Int)))=nI m:=by rw[Int.zero_add];rfl
   refine⟨_,rfl,?_⟩;simp!;refine cz N.new ?_;rw[i0,m0];simp! only[mKt,ae,ktN]
   refine eg N.new (by
    rw[GN,GQ,mQ,Hr]
    exact Hs (show _<=100 by omega) ↥_) ?_
   simp!;refine ag ⟨_,rfl,_,_,rfl,?_⟩;have:=N.put (.lst ((Q2 ((bs.map Bl.en).take i)++d8 i ((Qc b.en).take m)).map Q0++[Q0 (i,m,t)]));rw[bE ht,kZ,iC ht,<-Hc,GX (l₂:=[(i,m,t)])];exact this
  ·obtain⟨c,d,rfl,N⟩:=I;refine⟨_,rfl,_,_,_,_,rfl,?_⟩;rw[bE he,jS,iC he];have l2:(Oy 0 ((Qc b.en).map nI)).length=(Qc b.en).length:=by rw[hV,GN]
   rw[l2,Hk] at N;exact N
 ·obtain⟨a,b,c,d,rfl,N⟩:=I;have l2:(Oy 0 ls).length=(bs.map Bl.en).length:=by rw[hV,ll,GN]
  rw[l2,Hk] at N;simp!;refine j2 N.new ?_;simp!;exact q _ (N.put .gone).nw
end
end
section
open Wd
noncomputable def QX (wy L:List Way):List W:=wy.map λw=>W.int (L.count w:Nat)
theorem kP (h:QZ a=QZ b):a=b:=by
 obtain⟨a1,a2,a3⟩:=a;obtain⟨b1,b2,b3⟩:=b;unfold QZ at h;injection h with h1 h
 injection h with h2 h
 injection h with h3 h
 injection h1 with h1
 injection h2 with h2
 injection h3 with h3
 have g1:a1=b1:=HZ.inj h1;have g2:a2=b2:=HZ.inj h2;have g3:a3=b3:=HZ.inj h3;rw[g1,g2,g3]
theorem zb (f:Way->W): ∀ {wy:List Way},w0∈wy->atK (wy.map QZ) (wy.map f) (QZ w0)=some (f w0)
 |w::wy,h=>by
  rw[GV,GV];unfold atK;by_cases e:w=w0
  ·subst e;rw[if_pos rfl]
  ·rw[if_neg λz=>e (kP z)];rcases GR.mp h with z|h
   ·exact absurd z.symm e
   ·exact zb f h
theorem mZ (f:Way->W)(w0:Way)(v:W): ∀wy:List Way,Om (wy.map QZ) (wy.map f) (QZ w0) v=wy.map λw=>if w=w0 then v else f w
 |[]=>by unfold Om;rfl
 |w::wy=>by
  rw[GV,GV,GV];unfold Om;rw[mZ f w0 v wy];by_cases e:w=w0
  ·subst e;rw[if_pos rfl,if_pos rfl]
  ·rw[if_neg λz=>e (kP z),if_neg e]
theorem ur {w0:Way}{wy:List Way}:((wy.map QZ).any λk=>decide (k=QZ w0))=decide (w0∈wy):=by
 rw[HF,IG,decide_eq_true_eq];constructor
 ·rintro⟨k,hk,e⟩
  obtain⟨w,hw,rfl⟩:=G6.mp hk;rw[<-kP (of_decide_eq_true e)];exact hw
 ·exact λh=>⟨_,G6.mpr ⟨w0,h,rfl⟩,decide_eq_true rfl⟩
theorem wR (h:w0∈wy):Pe (wy.map QZ) (QX wy L) (QZ w0) (.int ((L.count w0:Nat)+1))=(wy.map QZ,QX wy (L++[w0])):=by
 unfold Pe;rw[ur,if_pos (decide_eq_true h)];unfold QX;rw[mZ];refine congrArg _ (Ir λw hw=>?_);rw[Jm,Jn];by_cases e:w=w0
 ·subst e;rw[if_pos rfl,if_pos ⇑_];rfl
 ·rw[if_neg e,if_neg (by simpa using λz=>e z.symm)];rfl
theorem zL (h:w0 ∉ wy):Pe (wy.map QZ) (QX wy []) (QZ w0) (.int 0)=((wy++[w0]).map QZ,QX (wy++[w0]) []):=by
 unfold Pe;rw[ur,if_neg (by rw[decide_eq_false h];simp)];unfold QX;rw[GX,GX];rfl
section
variable {β:Type}{h:List Ob}{Q:β->List Ob->Prop}{j:Nat}{ks ks':List (List Key)}{ws ws':List W}{q:List Key}{v:W}
theorem xx {k:W->M β}(q:Ok (k (.loc h.length)) (h++[.dit [] []]) Q):Ok (bd (rX ρ) k) h Q:=aY (a:=.loc h.length) (h':=h++[.dit [] []]) rfl q
theorem xp {k:Unit->M β}(e:h[j]?=some (.dit ks ws))(hz:ks.length<sizeLine)(e2:Pe ks ws q v=(ks',ws'))(r:Ok (k ()) (h.set j (.dit ks' ws')) Q):Ok (bd (dH (.loc j) (.kt q) v) k) h Q:=by
 refine aY (a:=()) (h':=h.set j (.dit ks' ws')) ?_ r;unfold dH;simp only[e,if_pos hz,e2]
theorem CY {k:W->M β}(e:h[j]?=some (.dit ks ws))(e2:atK ks ws q=some v)(r:Ok (k v) h Q):Ok (bd (Nq (.loc j) (.kt q)) k) h Q:=by
 refine aY (a:=v) (h':=h) ?_ r;have d:Mx (.loc j) h=some (ks,ws):=by unfold Mx;simp only[e]
 have kk:Nz (.kt q)=some q:=rfl;unfold Nq;simp only[d,kk,e2]
theorem E2 {k:List W->M β}(e:h[j]?=some (.dit ks ws))(r:Ok (k ws) h Q):Ok (bd (oK (.loc j)) k) h Q:=by
 refine aY (a:=ws) (h':=h) ?_ r;have d:Mx (.loc j) h=some (ks,ws):=by unfold Mx;simp only[e]
 unfold oK;simp only[d]
end
noncomputable def M8 (l:List Int):W:=.tl (l.map W.int)
section
variable {ps:List (Str×Int)}{bs:List Bl}
noncomputable def M0 (ps:List (Str×Int))(bs:List Bl)(n:Nat)(ins:List (List Int)):List Way:=ins.flatMap λl=>(Pq l bs n 0 (Qy ps)).went
theorem nq {n:Nat}(ins:List (List Int))(l:List Int):M0 ps bs n (ins++[l])=M0 ps bs n ins++(Pq l bs n 0 (Qy ps)).went:=by
 unfold M0;rw[IK];simp
theorem yh {β:Type}{k:W->M β}{Q:β->List Ob->Prop}{n:Nat}(PG:PgG ps bs)(PA:PgAt h x ps bs)(LI:Lw h y (ins.map M8))(hn:n<42)(q:∀h',Nw h h'->Ok (k (.tl (QX (wyB bs) (M0 ps bs n ins)))) h' Q):Ok (bd (jJ [x,y,nI n]) k) h Q:=by
 have e0:jJ [x,y,nI n]=bd (jI [some x,some y,some (nI n),none,none,none]) MP:=rfl;rw[e0];unfold jI;have wl:=vP PG;have nd:=Bj bs;simp!;refine xx ?_;have N0:Nd h (h++[Ob.dit [] []]) h.length (.dit [] []):=Nd.mk0;simp!;refine yf PG (PA.keep N0.nw.eq) λh1 K1=>?_;have N1:=N0.more K1;clear K1 N0;simp![iE];refine df (I:=λi ρ h'=> ∃a,ρ=[some x,some y,some (nI n),some (.loc h.length),a,none]/\Nd h h' h.length (.dit (((wyB bs).take i).map QZ) (QX ((wyB bs).take i) []))) ⟨_,rfl,N1⟩ (λ_ _ _ _=>trivial) (λi w ρ h2 hw I=>?_) λρ h2 I=>?_
 ·obtain⟨a,rfl,N⟩:=I;rw[GW] at hw;obtain⟨t,ht,rfl⟩:=Hd.mp hw;refine⟨_,rfl,?_⟩;simp! only[bg,ae];have ni:t ∉ (wyB bs).take i:=λm=>by
   obtain⟨j,hj⟩:=Jo m;have jl:=(G1.mp hj).1;rw[Hr] at jl;rw[Jv ∅] at hj;have il:=(G1.mp ht).1;have:=(JX ∅ nd).mp (hj.trans ht.symm);omega
  unfold Q0;refine xp N.new (by rw[GN,Hr];exact Hs (show _<=100 by omega) ↥_) (zL ni) ?_;simp!;refine ag ⟨_,rfl,_,rfl,?_⟩;rw[bE ht];exact N.put _
 ·obtain⟨a,rfl,N⟩:=I;rw[GN,Hk] at N;simp!;refine Lw.src (LI.keep N.nw.eq) λG hG=>?_;simp!;refine df (I:=λi ρ h'=> ∃a b,ρ=[some x,some y,some (nI n),some (.loc h.length),a,b]/\Nd h h' h.length (.dit ((wyB bs).map QZ) (QX (wyB bs) (M0 ps bs n (ins.take i))))) ⟨_,_,rfl,N⟩ (λ_ _ _ I=>by obtain⟨_,_,_,N⟩:=I;exact hG _ (LI.keep N.nw.eq)) (λi w ρ h3 hw I=>?_) λρ h3 I=>?_
  ·obtain⟨a,b,rfl,N⟩:=I;rw[GW] at hw;obtain⟨l,hl,rfl⟩:=Hd.mp hw;refine⟨_,rfl,?_⟩;simp!;refine aD (rB (nums:=l) (nm:=M8 l) (bound:=n) PG (PA.keep N.nw.eq) (.inl rfl) hn) λw h4 qq_=>?_;obtain⟨f4,k1,k2,g1,g2,_,ew,e1,e2⟩:=qq_;subst ew;have K4:Nw h3 h4:=⟨by have:=bL e1;omega,f4⟩
   have N4:=N.more K4;have gj:h.length<h3.length:=bL N.new;have wm:=jh (nums:=l) PG n 0 (Qy ps);have gs:=nq (ps:=ps) (bs:=bs) (n:=n) (ins.take i) l;rw[<-bE hl] at gs;generalize (Pq l bs n 0 (Qy ps)).went=wt at *;simp![ix2];refine Lw.src (.inr ⟨_,rfl,e2⟩) λG2 hG2=>?_;simp!;refine oj (I:=λm ρ h'=> ∃a,ρ=[some x,some y,some (nI n),some (.loc h.length),a,some (M8 l)]/\h'[k2]?=some (.lst (wt.map Q0))/\Nd h h' h.length (.dit ((wyB bs).map QZ) (QX (wyB bs) (M0 ps bs n (ins.take i)++wt.take m)))) ⟨_,rfl,e2,by rw[HQ,Hn];exact N4⟩ (λ_ _ _ I=>by obtain⟨_,_,e,_⟩:=I;exact hG2 _ (.inr ⟨_,rfl,e⟩)) (λm w ρ h5 hw I=>?_) λρ h5 I=>?_
   ·obtain⟨a,rfl,e5,N5⟩:=I;rw[GW] at hw;obtain⟨t,ht,rfl⟩:=Hd.mp hw;have tm:=wm t (Hi ht);refine⟨_,rfl,?_⟩;simp! only[PD,ae];unfold Q0;refine CY N5.new (zb _ tm) ?_;simp![iA];refine xp N5.new (by rw[GN];exact Hs wl ↥_) (wR tm) ?_;simp!;refine ag ⟨_,rfl,_,rfl,?_,?_⟩
    ·rw[GP ∅];exact e5
    ·rw[bE ht,<-Hc];exact N5.put _
   ·obtain⟨a,rfl,e5,N5⟩:=I;rw[GN,Hk,<-gs] at N5;exact⟨_,rfl,_,_,rfl,N5⟩
  ·obtain⟨a,b,rfl,N⟩:=I;rw[GN,Hk] at N;simp! only[lvL,ae];refine E2 N.new ?_;simp!;exact q _ N.nw
end
end
section
open Wd
inductive Rw
 |st (s:Sm)
 |stop
 |jump (t:Nat)
 |cnd (neg:Bool)(c:Str)(a b:Xe)(t:Nat)
 |tab (e:Xe)(ts:List Nat)
noncomputable def Rw.w:Rw->W
 |.st s=>s.w
 |.stop=>.tup [.str "stop"]
 |.jump t=>.tup [.str "jump",nI t]
 |.cnd false c a b t=>.tup [.str "when",.str c,a.w,b.w,nI t]
 |.cnd true c a b t=>.tup [.str "unless",.str c,a.w,b.w,nI t]
 |.tab e ts=>.tup [.str "table",e.w,.tup (ts.map nI)]
noncomputable def Rw.G (ns:List Str)(m:Nat):Rw->Prop
 |.st s=>s.G ns
 |.stop=>True
 |.jump t=>t<m
 |.cnd _ c a b t=>(c= "<"\/c= "=")/\a.G ns 6/\b.G ns 6/\t<m
 |.tab e ts=>e.G ns 6/\1<=ts.length/\ts.length<=6/\ ∀t∈ts,t<m
noncomputable def Rw.falls:Rw->Bool
 |.st _=>true
 |.cnd ..=>true
 |_=>false
noncomputable def Rw.to (σ:Sto):Rw->Option Nat
 |.jump t=>some t
 |.cnd neg c a b t=>if Mo σ c a b=neg then none else some t
 |.tab e ts=>some (ts.getD (e.val σ % ts.length).toNat 0)
 |_=>none
structure LP (ns:List Str)(rows:List Rw):Prop where
 ne:0<rows.length
 g: ∀ (p:Nat) (r:Rw),rows[p]?=some r->r.G ns rows.length/\(r.falls=true->p+1<rows.length)
structure OutR where
 said:List Int
 en:Str
 jumps:Nat
noncomputable def Pu (nums:List Int)(rows:List Rw):Nat->Nat->Sta->OutR
 |0,_,s=>⟨s.said, "on",0⟩
 |n+1,p,s=>match rows[p]? with
  |none=>⟨s.said, "",0⟩
  |some .stop=>⟨s.said, "stop",0⟩
  |some (.st st)=>if ND nums s st=true then⟨s.said, "out",0⟩ else Pu nums rows n (p+1) (doS nums s st)
  |some r=>match r.to s.σ with
   |none=>Pu nums rows n (p+1) s
   |some t=>⟨(Pu nums rows n t s).said,(Pu nums rows n t s).en,(Pu nums rows n t s).jumps+1⟩
theorem wg {c:Str}:inW (.str c) (.tup ((["put", "say", "ask"]:List Str).map W.str))=pr (.bl (decide (c∈(["put", "say", "ask"]:List Str)))):=by
 funext h;unfold inW;have e:inB (.str c) (.tup ((["put", "say", "ask"]:List Str).map W.str)) h=some (decide (c∈(["put", "say", "ask"]:List Str))):=by
  show (match vOf (.str c),QY ((["put", "say", "ask"]:List Str).map W.str) with
   |some v,some vs=>some (inV v vs)
   |_,_=>none)=_
  rw[dX (k:=V.str) (λa=>rfl)];show some (inV (.str c) ((["put", "say", "ask"]:List Str).map V.str))=_;rw[f9]
 rw[e];rfl
theorem BN {ts:List Nat}{v:Int}(h:1<=ts.length):atI (ts.map nI) (v % (ts.length:Int))=some (nI (ts.getD (v % ts.length).toNat 0)):=fW nI ts 0 (Hl _ ∅) (Hm _ ∅)
section
variable {ns:List Str}{h:List Ob}{d kh kS:Nat}{nums:List Int}{s:Sta}
noncomputable def toW:Option Nat->W
 |none=>.non
 |some t=>nI t
theorem tX {r:Rw}{m:Nat}(D:DoAt h d kh kS nums s)(H:Has ns s.σ)(g:r.G ns m)(n1:r≠.stop):Ok (c8 [.loc d,r.w]) h λw h'=>w=toW (r.to s.σ)/\h'=h:=by
 have e0:c8 [.loc d,r.w]=bd (cq [some (.loc d),some r.w]) MP:=rfl;rw[e0];unfold cq;have no: ∀ {c:Str}{l:List W},c∈(["put", "say", "ask"]:List Str)->Ok (bd (cq [some (.loc d),some (.tup (.str c::l))]) MP) h λw h'=>w=.non/\h'=h:=λ{c l} hc=>by
  have c1: ∀x∈(["put", "say", "ask"]:List Str),decide (x= "jump")=false/\decide (x= "when")=false/\decide (x= "unless")=false/\decide (x= "table")=false:=⋯;obtain⟨a1,a2,a3,a4⟩:=c1 c hc;unfold cq;simp![ix0,a1,a2,a3,a4];exact ag ⟨rfl,rfl⟩
 cases r with
 |st st=>
  unfold cq at no;cases st with
  |put y e=>exact no ⇑_
  |say e=>exact no ⇑_
  |ask y=>exact no ⇑_
 |stop=>exact absurd rfl n1
 |jump t=>
  unfold Rw.w Rw.to toW;simp![ix0,ix1,eq_self,decide_true];exact ag ⟨rfl,rfl⟩
 |cnd neg c a b t=>
  obtain⟨_,ga,gb,_⟩:=g;have q1:decide (("when":Str)= "jump")=false:=⋯;have q2:decide (("unless":Str)= "jump")=false:=⋯;have q3:decide (("unless":Str)= "when")=false:=⋯;cases neg with
  |false=>
   unfold Rw.w Rw.to;simp! only[N3,ae,ix0,ix1,ix2,ix3,ix4,eq_self,decide_true,q1];refine cn D.ob (by unfold nsD;decide+kernel) ?_;simp![ix0,ix1,ix2,ix3,ix4];refine ou D H ga gb ?_;cases hq:Mo s.σ c a b<;>(simp![ix4])<;>exact ag ⟨by simp [toW],rfl⟩
  |true=>
   unfold Rw.w Rw.to;simp! only[N3,ae,ix0,ix1,ix2,ix3,ix4,eq_self,decide_true,q2,q3];refine cn D.ob (by unfold nsD;decide+kernel) ?_;simp![ix0,ix1,ix2,ix3,ix4];refine ou D H ga gb ?_;cases hq:Mo s.σ c a b<;>(simp![ix4])<;>exact ag ⟨by simp [toW],rfl⟩
 |tab e ts=>
  obtain⟨ge,l1,_,_⟩:=g;have q1:decide (("table":Str)= "jump")=false:=⋯;have q2:decide (("table":Str)= "when")=false:=⋯;have q3:decide (("table":Str)= "unless")=false:=⋯;unfold Rw.w Rw.to toW;simp! only[N3,ae,ix0,ix1,ix2,eq_self,decide_true,q1,q2,q3];refine cn D.ob (by unfold nsD;decide+kernel) ?_;simp![ix0,ix1,ix2,GN];refine qh D H ge ∅ ?_;simp![dy (BN (ts:=ts) (v:=e.val s.σ) l1)];exact ag ⟨rfl,rfl⟩
end
noncomputable def tR:Lx->M Bool:=(mB (m2 ltW ↥7 ↥3))
noncomputable def bR:Lx->M Fl:=(PU (PV 8 (m2 ixW ↥1 ↥6)) (PU (sIf (mB (m2 eqW (m2 ixW ↥8 ⇑0) ⇑"stop")) (PQ (Oi (NX (m1 (MU "Doing" "said") ↥4) (NX (Oi (NX ⇑"stop" N9)) (NX ↥5 N9))))) PP) (PU (sIf (mB (N3 "Doing" "lacks_number" 2 aI ↥4 (NX ↥8 N9))) (PQ (Oi (NX (m1 (MU "Doing" "said") ↥4) (NX (Oi (NX ⇑"out" N9)) (NX ↥5 N9))))) PP) (PU (sIf (mB (m2 inW (m2 ixW ↥8 ⇑0) (mC (.tup ((["put", "say", "ask"]:List Str).map W.str))))) (sEx (N3 "Doing" "do_statement" 2 aO ↥4 (NX ↥8 N9))) PP) (PU (PV 9 (NU (arW 2 c8) (NX ↥4 (NX ↥8 N9)))) (PU (sIf (mB (m2 Nj ↥9 (mC .non))) (PB 6 ⇑1) (PU (PV 6 ↥9) (PB 5 ⇑1))) (PB 7 ⇑1)))))))
theorem lD:gv=(PU (PV 4 (NZ "Doing" 3 be (NX ↥0 (NX ↥2 N9)))) (PU (PV 5 ⇑0) (PU (PV 6 ⇑0) (PU (PV 7 ⇑0) (PU (cX tR bR 402) (PQ (Oi (NX (m1 (MU "Doing" "said") ↥4) (NX (Oi (NX ⇑"on" N9)) (NX ↥5 N9)))))))))):=rfl
noncomputable def MF (bx rw nm:W)(bound:Int)(d:Nat)(jumps place done:Int)(a8 a9:Option W):Lx:=[some bx,some rw,some nm,some (.int bound),some (.loc d),some (.int jumps),some (.int place),some (.int done),a8,a9]
theorem pQ {ns:List Str}{m:Nat}{r:Rw}(g:r.G ns m): ∃c l,r.w=.tup (.str c::l)/\(r=.stop↔c= "stop")/\(c∈(["put", "say", "ask"]:List Str)↔ ∃st,r=.st st)/\ ∀st,r=.st st->decide (c= "ask")=st.asks:=by
 cases r with
 |st st=>
  cases st with
  |put y e=>exact⟨_,_,rfl,⟨λz=>by (cases z),λz=>absurd z ⋯⟩,⟨λ_=>⟨_,rfl⟩,λ_=>⇑_⟩,λst z=>by cases z;exact EF⟩
  |say e=>exact⟨_,_,rfl,⟨λz=>by (cases z),λz=>absurd z ⋯⟩,⟨λ_=>⟨_,rfl⟩,λ_=>⇑_⟩,λst z=>by cases z;exact EE⟩
  |ask y=>exact⟨_,_,rfl,⟨λz=>by (cases z),λz=>absurd z ⋯⟩,⟨λ_=>⟨_,rfl⟩,λ_=>⇑_⟩,λst z=>by cases z;exact decide_eq_true rfl⟩
 |stop=>exact⟨_,_,rfl,⟨λ_=>rfl,λ_=>rfl⟩,⟨λz=>absurd z ⋯,λ⟨st,z⟩=>by cases z⟩,λst z=>by cases z⟩
 |jump t=>exact⟨_,_,rfl,⟨λz=>by (cases z),λz=>absurd z ⋯⟩,⟨λz=>absurd z ⋯,λ⟨st,z⟩=>by cases z⟩,λst z=>by cases z⟩
 |cnd neg c a b t=>cases neg<;>exact⟨_,_,rfl,⟨λz=>by (cases z),λz=>absurd z ⋯⟩,⟨λz=>absurd z ⋯,λ⟨st,z⟩=>by cases z⟩,λst z=>by cases z⟩
 |tab e ts=>exact⟨_,_,rfl,⟨λz=>by (cases z),λz=>absurd z ⋯⟩,⟨λz=>absurd z ⋯,λ⟨st,z⟩=>by cases z⟩,λst z=>by cases z⟩
theorem yy {ns:List Str}{m:Nat}{r:Rw}(g:r.G ns m)(n:∀st,r≠.st st){c:Str}{l:List W}(e:r.w=.tup (.str c::l)):decide (c= "ask")=false:=by
 refine decide_eq_false λz=>?_;subst z;obtain⟨c',l',e',_,q,_⟩:=pQ g;rw[e] at e';cases e';obtain⟨st,h⟩:=q.mp ⇑_;exact n st h
section
variable {ns:List Str}{d kh kS:Nat}{nums:List Int}{rows:List Rw}{bx rw nm:W}{bound:Int}{B:Nat}{h0:List Ob}
theorem jE (RG:LP ns rows)(LR:Lw h0 rw (rows.map Rw.w))(hB:h0.length<=B)(d0:B<=d)(d1:B<=kh)(d2:B<=kS): ∀ (n m:Nat) (p jumps:Nat) (done:Int) (s:Sta) (h:List Ob) (a8 a9:Option W),n<m->done+n=bound->DoAt h d kh kS nums s->Has ns s.σ->p<rows.length->s.said.length+n<=100000->(∀i,i<h0.length->h[i]?=h0[i]?)->Ok (cX tR bR m (MF bx rw nm bound d jumps p done a8 a9)) h λx h'=>(∀i,i<B->h'[i]?=h[i]?)/\h'[kS]?=some (.lst ((Pu nums rows n p s).said.map W.int))/\(x=.rt (.tup [.loc kS,.tup [.str (Pu nums rows n p s).en],nI (jumps+(Pu nums rows n p s).jumps)])\/ ∃ (p':Nat) (dn:Int) (s':Sta) (b8 b9:Option W),x=.nx (MF bx rw nm bound d ((jumps+(Pu nums rows n p s).jumps:Nat):Int) p' dn b8 b9)/\(Pu nums rows n p s).en= "on"/\DoAt h' d kh kS nums s')
 |0,m+1,p,jumps,done,s,h,a8,a9,hm,hd,D,H,hp,hz,f=>by
  refine Ey ?_ ⟨λ_ _=>rfl,D.said,.inr ⟨p,done,s,a8,a9,rfl,rfl,D⟩⟩;have hc: ¬done<bound:=∅;simp! only[tR,MF,ae,decide_eq_false hc];exact ag ⟨rfl,rfl⟩
 |n+1,m+1,p,jumps,done,s,h,a8,a9,hm,hd,D,H,hp,hz,f=>by
  refine Ew ?_ ?_
  ·have hc:done<bound:=∅;simp! only[tR,MF,ae,decide_eq_true hc];exact ag ⟨rfl,rfl⟩
  obtain⟨r,er⟩: ∃r,rows[p]?=some r:=⟨_,G0 hp⟩
  obtain⟨g,fa⟩:=RG.g p r er;have LR':Lw h rw (rows.map Rw.w):=LR.keep f;obtain⟨c,l,ew,hs,hst,hask⟩:=pQ g;have at0:atI (rows.map Rw.w) (p:Int)=some r.w:=eG (by rw[GW,er];rfl);rw[ew] at at0;simp! only[bR,MF,N3,ae];refine LR'.ix at0 ?_;by_cases c0:c= "stop"
  ·have:=hs.mpr c0;subst this;simp![ix0,decide_eq_true c0];refine aJ D.ob (gr ..) ?_;simp![QT];refine ag (.inr ⟨_,rfl,λ_ _=>rfl,?_,?_⟩)
   ·unfold Pu;rw[er];exact D.said
   ·unfold Pu;rw[er];exact .inl rfl
  have ns0:r≠.stop:=λz=>c0 (hs.mp z);simp![ix0,decide_eq_false c0];refine cn D.ob (by unfold nsD;decide+kernel) ?_;simp!;refine tQ D ?_;by_cases is: ∃st,r=.st st
  ·obtain⟨st,rfl⟩:=is;have ha:=hask st rfl;cases hl:ND nums s st with
   |true=>
    have hl':(decide (c= "ask") && decide (s.taken=nums.length))=true:=by rw[ha];exact hl
    simp![hl'];refine aJ D.ob (gr ..) ?_;simp![QT];refine ag (.inr ⟨_,rfl,λ_ _=>rfl,?_,?_⟩)
    ·unfold Pu;rw[er];dsimp only;rw[if_pos hl];exact D.said
    ·unfold Pu;rw[er];dsimp only;rw[if_pos hl];exact .inl rfl
   |false=>
    have hl':(decide (c= "ask") && decide (s.taken=nums.length))=false:=by rw[ha];exact hl
    have er':Pu nums rows (n+1) p s=Pu nums rows n (p+1) (doS nums s st):=by
     conv=>lhs;unfold Pu
     rw[er];dsimp only;rw[hl,if_neg G5]
    simp![hl',ix0,wg,decide_eq_true (hst.mpr ⟨st,rfl⟩)];refine cn D.ob (by unfold nsD;decide+kernel) ?_;simp!;rw[<-ew];refine aD (BC D H g hl ∅) λw h1 qq_=>?_;obtain⟨ew1,D1,H1,O1⟩:=qq_;subst ew1;simp!;refine aD (tX (r:=.st st) D1 H1 g ns0) λw h2 qq_=>?_;obtain⟨e1,e2⟩:=qq_;subst e1 e2;have to0:Rw.to (doS nums s st).σ (.st st)=none:=rfl;rw[to0];simp![toW,Nj,Nk,PB,iA];have ih:=jE RG LR hB d0 d1 d2 n m (p+1) jumps (done+1) (doS nums s st) h2 (some (Rw.st st).w) (some .non) ∅ ∅ D1 H1 (fa rfl) (by have:=oM nums s st;omega) λi hi=>(O1.eq i ∅ ∅ ∅).trans (f i hi);rw[er'];refine ag (.inl ⟨_,rfl,Ok.imp ih λx h' ⟨q1,q2,q3⟩=>⟨λi hi=>(q1 i hi).trans (O1.eq i ∅ ∅ ∅),q2,q3⟩⟩)
  ·have na:decide (c= "ask")=false:=yy g (λst z=>is ⟨st,z⟩) ew;simp![na,IN,ix0,wg,decide_eq_false (λz=>is (hst.mp z))];rw[<-ew];refine aD (tX D H g ns0) λw h2 qq_=>?_;obtain⟨e1,e2⟩:=qq_;subst e1 e2;cases ht:r.to s.σ with
   |none=>
    have er':Pu nums rows (n+1) p s=Pu nums rows n (p+1) s:=by
     conv=>lhs;unfold Pu
     rw[er];cases r with
     |st st=>exact absurd ⟨st,rfl⟩ is
     |stop=>exact absurd rfl ns0
     |jump t=>cases ht
     |cnd neg c a b t=>dsimp only;rw[ht]
     |tab e ts=>cases ht
    have fl:r.falls=true:=by
     cases r with
     |st st=>rfl
     |stop=>exact absurd rfl ns0
     |jump t=>cases ht
     |cnd neg c a b t=>rfl
     |tab e ts=>cases ht
    simp![toW,Nj,Nk,PB,iA];have ih:=jE RG LR hB d0 d1 d2 n m (p+1) jumps (done+1) s h2 (some r.w) (some .non) ∅ ∅ D H (fa fl) ∅ f;rw[er'];exact ag (.inl ⟨_,rfl,ih⟩)
   |some t=>
    have er':Pu nums rows (n+1) p s=⟨(Pu nums rows n t s).said,(Pu nums rows n t s).en,(Pu nums rows n t s).jumps+1⟩:=by
     conv=>lhs;unfold Pu
     rw[er];cases r with
     |st st=>exact absurd ⟨st,rfl⟩ is
     |stop=>exact absurd rfl ns0
     |jump t=>cases ht;rfl
     |cnd neg c a b t=>dsimp only;rw[ht]
     |tab e ts=>dsimp only;rw[ht]
    have hb:t<rows.length:=by
     cases r with
     |st st=>exact absurd ⟨st,rfl⟩ is
     |stop=>exact absurd rfl ns0
     |jump t=>cases ht;exact g
     |cnd neg c a b t'=>
      have ht:(if Mo s.σ c a b=neg then none else some t')=some t:=ht;split at ht
      ·cases ht
      ·cases ht;exact g.2.2.2
     |tab e ts=>
      cases ht;obtain⟨_,g1,_,g2⟩:=g;have q1:0<=e.val s.σ % (ts.length:Int):=Hl _ ∅;have q2:e.val s.σ % (ts.length:Int)<ts.length:=Hm _ ∅;rw[HH,G0 ∅,Ig];exact g2 _ (Iv _)
    simp![toW,nI,Nj,Nk,PB,iA];have ih:=jE RG LR hB d0 d1 d2 n m t (jumps+1) (done+1) s h2 (some r.w) (some (nI t)) ∅ ∅ D H hb ∅ f;rw[er'];have ej:jumps+1+(Pu nums rows n t s).jumps=jumps+((Pu nums rows n t s).jumps+1):=∅;rw[ej] at ih;exact ag (.inl ⟨_,rfl,ih⟩)
theorem pM {bound:Nat}(RG:LP (ps.map (·.1)) rows)(bl:ps.length<=4)(bv: ∀p∈ps,0<=p.2/\p.2<1000)(LB:Lw h bx (ps.map bxW))(LR:Lw h rw (rows.map Rw.w))(LN:Lw h nm (nums.map W.int))(hb:bound<402):Ok (gC [bx,rw,nm,nI bound]) h λw h'=>(∀i,i<h.length->h'[i]?=h[i]?)/\ ∃k,h.length<=k/\w=.tup [.loc k,.tup [.str (Pu nums rows bound 0 (Qy ps)).en],nI (Pu nums rows bound 0 (Qy ps)).jumps]/\h'[k]?=some (.lst ((Pu nums rows bound 0 (Qy ps)).said.map W.int)):=by
 have e0:gC [bx,rw,nm,nI bound]=bd (gv [some bx,some rw,some nm,some (nI bound),none,none,none,none,none,none]) MP:=rfl;rw[e0,lD];simp!;refine yg (l:=NX ↥0 (NX ↥2 N9)) rfl LB LN λh1 D l1 f1=>?_;simp!;have lp:=jE (bx:=bx) (nm:=nm) (bound:=(bound:Int)) (B:=h.length) RG LR (GO _) (GO _) (HK _) (Hv _ _) bound 402 0 0 0 (Qy ps) h1 none none hb ∅ D (Has.first bl bv) RG.ne (by show 0+bound<=100000;omega) f1;refine aD lp λx h2 qq_=>?_;obtain⟨q1,q2,q3⟩:=qq_;rcases q3 with rfl|⟨p',dn,s',b8,b9,rfl,q4,q5⟩
 ·simp!;exact ag ⟨λi hi=>(q1 i hi).trans (f1 i hi),_,Hv _ _,by rw[IM],q2⟩
 ·simp! only[MF,ae];refine aJ q5.ob (gr ..) ?_;simp![QT];exact ag ⟨λi hi=>(q1 i hi).trans (f1 i hi),_,Hv _ _,by rw[IM,q4];rfl,q2⟩
end
end
section
open Wd
structure Ord (m:Nat)(os:List Nat):Prop where
 pm:List.Perm os (List.range m)
 hd:os[0]?=some 0
noncomputable def goR (t:Nat)(nx:Option Nat):List Rw:=if nx=some t then [] else [.jump t]
noncomputable def En.tail (e:En)(nx:Option Nat):List Rw:=match e with
 |.go t=>goR t nx
 |.iff s a b x y=>if x=y then goR x nx else if nx=some x then [.cnd true s a b y] else .cnd false s a b x::goR y nx
 |.tab e ts=>[.tab e ts]
 |.stop=>[.stop]
noncomputable def Rw.fin (f:Nat->Nat):Rw->Rw
 |.st s=>.st s
 |.stop=>.stop
 |.jump t=>.jump (f t)
 |.cnd n c a b t=>.cnd n c a b (f t)
 |.tab e ts=>.tab e (ts.map f)
noncomputable def P8 (bs:List Bl)(os:List Nat)(i:Nat):List Rw:=match os[i]? with
 |some o=>(match bs[o]? with
  |some b=>b.sts.map Rw.st++b.en.tail os[i+1]?
  |none=>[])
 |none=>[]
noncomputable def Po (bs:List Bl)(os:List Nat):Nat->List Rw
 |0=>[]
 |n+1=>Po bs os n++P8 bs os n
noncomputable def O6 (bs:List Bl)(os:List Nat)(t:Nat):Nat:=match os.findIdx? (λx=>decide (x=t)) with
 |some i=>(Po bs os i).length
 |none=>0
noncomputable def NE (bs:List Bl)(os:List Nat):List Rw:=(Po bs os bs.length).map (Rw.fin (O6 bs os))
theorem oC (t:Nat)(nx:Option Nat):(goR t nx).length<=1:=by unfold goR;split<;>simp
theorem o7 (e:En)(nx:Option Nat):(e.tail nx).length<=2:=by
 cases e with
 |go t=>have:=oC t nx;show (goR t nx).length<=2;omega
 |iff s a b x y=>
  show (if x=y then goR x nx else if nx=some x then [Rw.cnd true s a b y] else Rw.cnd false s a b x::goR y nx).length<=2;have h1:=oC x nx;have h2:=oC y nx;split
  ·omega
  ·split
   ·simp
   ·rw[GT];omega
 |tab e ts=>show ([Rw.tab e ts]:List Rw).length<=2;simp
 |stop=>show ([Rw.stop]:List Rw).length<=2;simp
section
variable {ns:List Str}{m:Nat}
theorem oE {t:Nat}(h:t<m): ∀r∈goR t nx,r.G ns m:=λr hr=>by
 unfold goR at hr;split at hr
 ·exact absurd hr Hj
 ·rw[Hh.mp hr];exact h
theorem uy {e:En}{nx:Option Nat}(g:e.G ns m): ∀r∈e.tail nx,r.G ns m:=λr hr=>by
 cases e with
 |go t=>exact oE g r hr
 |iff s a b x y=>
  obtain⟨hs,ga,gb,gx,gy⟩:=g;have hr:r∈(if x=y then goR x nx else if nx=some x then [Rw.cnd true s a b y] else Rw.cnd false s a b x::goR y nx):=hr;split at hr
  ·exact oE gx r hr
  ·split at hr
   ·rw[Hh.mp hr];exact⟨hs,ga,gb,gy⟩
   ·rcases GR.mp hr with rfl|hr
    ·exact⟨hs,ga,gb,gx⟩
    ·exact oE gy r hr
 |tab e ts=>rw[Hh.mp (show r∈[Rw.tab e ts] from hr)];exact g
 |stop=>rw[Hh.mp (show r∈[Rw.stop] from hr)];trivial
theorem ux (e:En): ∃l r,e.tail none=l++[r]/\r.falls=false:=by
 cases e with
 |go t=>exact⟨[],.jump t,rfl,rfl⟩
 |iff s a b x y=>
  by_cases h:x=y
  ·exact⟨[],.jump x,by show (if x=y then goR x none else _)=_;rw[if_pos h];rfl,rfl⟩
  ·exact⟨[.cnd false s a b x],.jump y,by show (if x=y then goR x none else if none=some x then _ else Rw.cnd false s a b x::goR y none)=_;rw[if_neg h];rfl,rfl⟩
 |tab e ts=>exact⟨[],.tab e ts,rfl,rfl⟩
 |stop=>exact⟨[],.stop,rfl,rfl⟩
end
theorem eQ: ∀ {os:List Nat}{i:Nat}{o:Nat},os.Nodup->os[i]?=some o->os.findIdx? (λx=>decide (x=o))=some i
 |[],_,_,_,h=>by cases h
 |a::os,0,o,_,h=>by
  cases h;rw[JY,if_pos ⇑_]
 |a::os,i+1,o,nd,h=>by
  rw[Ih] at h;have nd':=Ia.mp nd;have ne: ¬a=o:=λz=>nd'.1 (by rw[z];exact Hi h);rw[JY,if_neg (by simpa using ne),eQ nd'.2 h];rfl
section
variable {m:Nat}{os:List Nat}
theorem Ord.nodup (P:Ord m os):os.Nodup:=P.pm.nodup_iff.mpr List.nodup_range
theorem Ord.mem (P:Ord m os){x:Nat}:x∈os↔x<m:=by rw[P.pm.mem_iff,Ik]
theorem Ord.len (P:Ord m os):os.length=m:=by rw[P.pm.length_eq,HY]
theorem Ord.ix (P:Ord m os){t:Nat}(h:t<m): ∃i:Nat,os[i]?=some t:=List.mem_iff_getElem?.mp (P.mem.mpr h)
end
section
variable {ps:List (Str×Int)}{bs:List Bl}{os:List Nat}
theorem oU (O:Ord bs.length os){i o:Nat}(h:os[i]?=some o): ∃b∈bs,bs[o]?=some b:=by
 have ho:=O.mem.mp (Hi h);exact⟨bs[o],Iv ho,G0 ho⟩
theorem lf {i o:Nat}(h:os[i]?=some o)(hb:bs[o]?=some b):P8 bs os i=b.sts.map Rw.st++b.en.tail os[i+1]?:=by
 unfold P8;simp only[h,hb]
theorem zD (P:PgG ps bs)(O:Ord bs.length os)(n:Nat):(P8 bs os n).length<=10:=by
 cases ho:os[n]? with
 |none=>unfold P8;simp only[ho];exact G8 _
 |some o=>
  obtain⟨b,mb,hb⟩:=oU O ho;rw[lf ho hb,GQ,GN];have:=o7 b.en os[n+1]?;have:=(P.g b mb).1;omega
theorem lu (P:PgG ps bs)(O:Ord bs.length os): ∀n:Nat,(Po bs os n).length<=10 * n
 |0=>G8 _
 |n+1=>by
  rw[Po,GQ];have a:=lu P O n;have b:=zD P O n;omega
theorem wz (P:PgG ps bs)(O:Ord bs.length os)(n:Nat): ∀r∈P8 bs os n,r.G (ps.map (·.1)) bs.length:=λr hr=>by
 cases ho:os[n]? with
 |none=>unfold P8 at hr;simp only[ho] at hr;exact absurd hr Hj
 |some o=>
  obtain⟨b,mb,hb⟩:=oU O ho;rw[lf ho hb] at hr;rcases HM.mp hr with hr|hr
  ·obtain⟨x,hx,rfl⟩:=G6.mp hr;exact (P.g b mb).2.1 x hx
  ·exact uy (P.g b mb).2.2 r hr
theorem jY (P:PgG ps bs)(O:Ord bs.length os): ∀n:Nat,∀r∈Po bs os n,r.G (ps.map (·.1)) bs.length
 |0,r,hr=>absurd hr Hj
 |n+1,r,hr=>by
  rw[Po] at hr;rcases HM.mp hr with hr|hr
  ·exact jY P O n r hr
  ·exact wz P O n r hr
theorem j0 (O:Ord bs.length os){i t:Nat}(h:os[i]?=some t):O6 bs os t=(Po bs os i).length:=by
 unfold O6;rw[eQ O.nodup h]
theorem uI {i j:Nat}(h:i<=j):(Po bs os i).length<=(Po bs os j).length:=by
 induction j with
 |zero=>have:i=0:=∅
        subst this;exact GO _
 |succ j ih=>
  by_cases e:i=j+1
  ·subst e;exact GO _
  ·rw[Po,GQ];have:=ih ∅;omega
theorem mU (P:PgG ps bs)(O:Ord bs.length os): ∃l r,Po bs os bs.length=l++[r]/\r.falls=false/\(Po bs os (bs.length - 1)).length<=l.length:=by
 have l1:=P.l1;have ol:=O.len;obtain⟨n,hn⟩: ∃n,bs.length=n+1:=⟨bs.length - 1,∅⟩
 obtain⟨o,ho⟩: ∃o,os[n]?=some o:=⟨_,G0 ∅⟩
 obtain⟨b,mb,hb⟩:=oU O ho;obtain⟨l,r,e,f⟩:=ux b.en;have nn:os[n+1]?=none:=IJ ∅;refine⟨Po bs os n++(b.sts.map Rw.st++l),r,?_,f,?_⟩
 ·rw[hn,Po,lf ho hb,nn,e,Hc,Hc]
 ·rw[hn,JZ,GQ];omega
theorem rH (P:PgG ps bs)(O:Ord bs.length os){t:Nat}(h:t<bs.length):O6 bs os t<(Po bs os bs.length).length:=by
 obtain⟨i,hi⟩:=O.ix h;obtain⟨l,r,e,_,q⟩:=mU P O;have il:=(G1.mp hi).1;have ol:=O.len;rw[j0 O hi,e,GQ];have:=uI (bs:=bs) (os:=os) (show i<=bs.length - 1 by omega);show _<l.length+1;omega
theorem vt (f:Nat->Nat)(r:Rw):(r.fin f).falls=r.falls:=by cases r<;>rfl
theorem qg:(NE bs os).length=(Po bs os bs.length).length:=by unfold NE;rw[GN]
theorem yd (P:PgG ps bs)(O:Ord bs.length os):LP (ps.map (·.1)) (NE bs os):=by
 obtain⟨l,r0,e,f0,_⟩:=mU P O;refine⟨by rw[qg,e,GQ];exact Nat.succ_pos _,λp r hr=>?_⟩;have hr':=hr;unfold NE at hr;rw[GW] at hr;obtain⟨r1,h1,rfl⟩:=Hd.mp hr;have g:=jY P O bs.length r1 (Hi h1);rw[qg];refine⟨?_,λfl=>?_⟩
 ·cases r1 with
  |st s=>exact g
  |stop=>trivial
  |jump t=>exact rH P O g
  |cnd n c a b t=>exact⟨g.1,g.2.1,g.2.2.1,rH P O g.2.2.2⟩
  |tab e ts=>exact⟨g.1,by rw[GN];exact g.2.1,by rw[GN];exact g.2.2.1,λt ht=>by
   obtain⟨u,hu,rfl⟩:=G6.mp ht
   exact rH P O (g.2.2.2 u hu)⟩
 ·rw[vt] at fl;have hl:=(G1.mp h1).1;rw[e,GQ] at hl ⊢;have hl:p<l.length+1:=hl;show p+1<l.length+1;by_cases q:p=l.length
  ·rw[e,HG ∅,q,ID] at h1;cases h1;rw[f0] at fl;cases fl
  ·omega
end
noncomputable def nxW (nx:Option Nat):W:=match nx with
 |none=>.non
 |some t=>nI t
noncomputable def nxI (nx:Option Nat):Int:=match nx with
 |none=> -1
 |some t=>t
theorem Gu {t:Nat}:((t:Int)=nxI nx)↔nx=some t:=by
 cases nx with
 |none=>
  show (t:Int)= -1↔_;constructor
  ·intro e;omega
  ·intro e;cases e
 |some x=>
  show (t:Int)=(x:Int)↔some x=some t;constructor
  ·intro e;rw[show x=t by omega]
  ·intro e;rw[Option.some.inj e]
theorem t9 (t:Nat)(nx:Option Nat):eqW (nI t) (nxW nx)=pr (.bl (decide (nx=some t))):=by
 cases nx with
 |none=>
  funext h;rfl
 |some x=>
  show eqW (.int (t:Int)) (.int (x:Int))=_;rw[eqW_int];congr 2;rw[decide_eq_decide];exact⟨λz=>by rw[show x=t by omega],λz=>by rw[Option.some.inj z]⟩
theorem Gj:decide (("if":Str)= "go")=false:=⋯
theorem F7:decide (("table":Str)= "go")=false:=⋯
theorem F6:decide (("table":Str)= "if")=false:=⋯
theorem Gc:decide (("stop":Str)= "go")=false:=⋯
theorem Gb:decide (("stop":Str)= "if")=false:=⋯
theorem F9:decide (("stop":Str)= "table")=false:=⋯
theorem Qh (a b c d e f:W):slW (.tup [a,b,c,d,e,f]) (some 1) (some 4)=pr (.tup [b,c,d]):=by
 show gd (¬(HT.sIx 6 0 (some 1)=0/\HT.sIx 6 6 (some 4)=6)) (pr (W.tup (Ms [a,b,c,d,e,f] (some 1) (some 4))))=_;rw[ah ↥_];rfl
theorem addT (a:W)(l m:List W)(h:l.length+m.length<=100):L6 (.tup (a::l)) (.tup m)=pr (.tup (a::(l++m))):=by
 show gd ((a::l).isEmpty=false/\(a::l).length+m.length<=sizeLine) (pr (W.tup ((a::l)++m)))=_;rw[ah ⟨rfl,sz (by rw[GT];omega)⟩];rfl
theorem L0 (a b c d:W):L6 (.tup [a]) (.tup [b,c,d])=pr (.tup [a,b,c,d]):=addT a [] [b,c,d] (by show 0+3<=100;decide)
theorem L4 (a b c d e:W):L6 (.tup [a,b,c,d]) (.tup [e])=pr (.tup [a,b,c,d,e]):=addT a [b,c,d] [e] (by show 3+1<=100;decide)
theorem add11 (a b:W):L6 (.tup [a]) (.tup [b])=pr (.tup [a,b]):=addT a [] [b] (by show 0+1<=100;decide)
noncomputable abbrev JL:List Str:=["jump", "when", "unless"]
theorem vm (z:Str):inW (.str z) (.tup ((["jump", "when", "unless"]:List Str).map W.str))=pr (.bl (decide (z∈JL))):=by
 funext h;unfold inW;have e:inB (.str z) (.tup ((["jump", "when", "unless"]:List Str).map W.str)) h=some (decide (z∈JL)):=by
  show (match vOf (.str z),QY ((["jump", "when", "unless"]:List Str).map W.str) with
   |some v,some vs=>some (inV v vs)
   |_,_=>none)=_
  rw[dX (g:=W.str) (k:=V.str) (λa=>rfl)];show some (inV (.str z) ((["jump", "when", "unless"]:List Str).map V.str))=_;rw[f9]
 rw[e];rfl
theorem D3:decide (("jump":Str)∈JL)=true:=⋯
theorem DZ:decide (("when":Str)∈JL)=true:=⋯
theorem yk:decide (("unless":Str)∈JL)=true:=⋯
theorem D0:decide (("stop":Str)∈JL)=false:=⋯
theorem AL:decide (("table":Str)∈JL)=false:=⋯
theorem zr {ns:List Str}{st:Sm}(g:st.G ns): ∃z l,st.w=.tup (.str z::l)/\decide (z∈JL)=false/\decide (z= "table")=false:=by
 cases st with
 |put y e=>exact⟨_,_,rfl,⋯,⋯⟩
 |say e=>exact⟨_,_,rfl,⋯,⋯⟩
 |ask y=>exact⟨_,_,rfl,⋯,⋯⟩
theorem wu (l:List W):Qw (.tup l)=pr ⟨l,λ_=>True⟩:=rfl
end
section
open Wd
theorem yB (t:Nat)(nx:Option Nat):eI [nI t,nxW nx]=pr (.tl ((goR t nx).map Rw.w)):=by
 have e0:eI [nI t,nxW nx]=bd (iP [some (nI t),some (nxW nx)]) MP:=rfl;rw[e0];unfold iP goR;by_cases h:nx=some t
 ·rw[if_pos h];simp![QT,t9,decide_eq_true h];rfl
 ·rw[if_neg h];simp![QT,t9,decide_eq_false h];rfl
theorem Fx (s:Str)(a b:Xe)(x y:Nat)(nx:Option Nat):iS [.tup [.str "if",.str s,a.w,b.w,nI x,nI y],nxW nx]=pr (.tl (((En.iff s a b x y).tail nx).map Rw.w)):=by
 have e0:iS [.tup [.str "if",.str s,a.w,b.w,nI x,nI y],nxW nx]=bd (iO [some (.tup [.str "if",.str s,a.w,b.w,nI x,nI y]),some (nxW nx),none,none,none]) MP:=rfl;rw[e0];unfold iO;have et:(En.iff s a b x y).tail nx=if x=y then goR x nx else if nx=some x then [.cnd true s a b y] else .cnd false s a b x::goR y nx:=rfl
 rw[et];by_cases h:x=y
 ·have h':(x:Int)=(y:Int):=by rw[h]
  rw[if_pos h];have hx:eqW (nI x) (nI y)=pr (.bl true):=by show eqW (.int (x:Int)) (.int (y:Int))=_;rw[eqW_int,decide_eq_true h']
  simp![Qh,ix4,ix5,hx,yB]
 ·have h': ¬(x:Int)=(y:Int):=∅;have hx:eqW (nI x) (nI y)=pr (.bl false):=by show eqW (.int (x:Int)) (.int (y:Int))=_;rw[eqW_int,decide_eq_false h']
  rw[if_neg h];by_cases h2:nx=some x
  ·rw[if_pos h2];simp![Qh,ix4,ix5,hx,t9,decide_eq_true h2,QT,L0,L4];rfl
  ·rw[if_neg h2];have gl:=oC y nx;have g2: ∀ {α:Type} (q:M α),gd (0+1+((goR y nx).map Rw.w).length<=sizeLine) q=q:=λq=>ah (sz (by rw[GN];omega));simp![Qh,ix4,ix5,hx,t9,decide_eq_false h2,QT,L0,L4,yB,Mh,oq,g2];rfl
theorem Eb (e:En)(nx:Option Nat):gD [e.w,nxW nx]=pr (.tl ((e.tail nx).map Rw.w)):=by
 have e0:gD [e.w,nxW nx]=bd (gB [some e.w,some (nxW nx)]) MP:=rfl;rw[e0];unfold gB;cases e with
 |go t=>
  show bd _ MP=_;unfold En.w;simp![ix0,ix1,eq_self,decide_true,yB];rfl
 |iff s a b x y=>
  unfold En.w;simp![ix0,Gj,eq_self,decide_true,Fx]
 |tab e ts=>
  unfold En.w;simp![ix0,F7,F6];rfl
 |stop=>
  unfold En.w;simp![ix0,Gc,Gb];rfl
theorem cut2m (a b:W):slW (.tup [a,b]) none (some (-1))=pr (.tup [a]):=by
 show gd (¬(HT.sIx 2 0 none=0/\HT.sIx 2 2 (some (-1))=2)) (pr (W.tup (Ms [a,b] none (some (-1)))))=_;rw[ah ↥_];rfl
theorem Mq (a b c d e:W):slW (.tup [a,b,c,d,e]) none (some (-1))=pr (.tup [a,b,c,d]):=by
 show gd (¬(HT.sIx 5 0 none=0/\HT.sIx 5 5 (some (-1))=5)) (pr (W.tup (Ms [a,b,c,d,e] none (some (-1)))))=_;rw[ah ↥_];rfl
theorem last2 (a b:W):ixW (.tup [a,b]) (.int (-1))=pr b:=dy (jQ [a] b)
theorem NF (a b c d e:W):ixW (.tup [a,b,c,d,e]) (.int (-1))=pr e:=dy (jQ [a,b,c,d] e)
section
variable {β:Type}{h:List Ob}{Q:β->List Ob->Prop}{j:Nat}
theorem CU {ws:List W}{o:Nat}{k:Unit->M β}(e:h[j]?=some (.dic ks ws))(nw:ks.any (λk=>decide (k=(.inl (o:Int):Key)))=false)(hz:ks.length<sizeLine)(q:Ok (k ()) (h.set j (.dic (ks++[.inl (o:Int)]) (ws++[v]))) Q):Ok (bd (dH (.loc j) (nI o) v) k) h Q:=by
 refine aY (a:=()) (h':=h.set j (.dic (ks++[.inl (o:Int)]) (ws++[v]))) ?_ q;unfold dH;have pw:Pe ks ws (.inl (o:Int)) v=(ks++[.inl (o:Int)],ws++[v]):=by unfold Pe;rw[nw];rfl
 have ko:Ny (nI o)=some (.inl (o:Int)):=rfl;simp only[e,ko,pw,if_pos hz]
theorem rM {ws:List W}{o:Nat}{k:W->M β}(e:h[j]?=some (.dic ks ws))(e2:atK ks ws (.inl (o:Int))=some v)(q:Ok (k v) h Q):Ok (bd (ixW (.loc j) (nI o)) k) h Q:=by
 refine aY (a:=v) (h':=h) ?_ q;have d:Mw (.loc j) h=some (ks,ws):=by unfold Mw;simp only[e]
 have:ixO (.loc j) (nI o) h=some v:=by
  unfold ixO;simp only[d,Ny,nI,e2]
 unfold ixW;rw[this]
theorem xw {k:W->M β}(e:h[j]?=some (.lst l))(L:Lw h x mm)(hz:l.length+mm.length<=sizeLine)(q:Ok (k .non) (h.set j (.lst (l++mm))) Q):Ok (bd (jK (.loc j) [x]) k) h Q:=by
 refine aY (a:=.non) (h':=h.set j (.lst (l++mm))) ?_ q;unfold jK;dsimp only;have lo:NQ x h=.ok mm h:=by
  rcases L with rfl|⟨i,rfl,ei⟩
  ·rfl
  ·unfold NQ;simp only[ei]
 rw[dG lo];simp only[e,if_pos hz]
end
theorem vM: ∀ (os:List Nat) (a:Nat),Q6 ((a::os).map nI) (os.map nI++[.non])=(List.range (os.length+1)).map λi=>W.tup [nI ((a::os).getD i 0),nxW (a::os)[i+1]?]
 |[],a=>rfl
 |b::os,a=>by
  have ih:=vM os b;unfold Q6 at ih ⊢;rw[GV,GV,HE,List.zipWith_cons_cons,<-GV,ih,GT,List.range_succ_eq_map (n:=os.length+1),GV,Hw];rfl
theorem slos {os:List Nat}(h:1<=os.length):slW (.tup (os.map nI)) (some 1) none=pr (.tup (os.tail.map nI)):=by
 show gd (¬(HT.sIx (os.map nI).length 0 (some 1)=0/\HT.sIx (os.map nI).length (os.map nI).length none=(os.map nI).length)) (pr (W.tup (Ms (os.map nI) (some 1) none)))=_;have s1:HT.sIx (os.map nI).length 0 (some 1)=1:=by
  show (if (1:Int)<0 then ((1:Int)+((os.map nI).length:Int)).toNat else min (1:Int).toNat (os.map nI).length)=1;rw[if_neg ↥_,GN];show min 1 os.length=1;omega
 rw[ah (by rw[s1];omega)];congr 2;unfold Ms;rw[s1,show HT.sIx (os.map nI).length (os.map nI).length none=(os.map nI).length from rfl];cases os with
 |nil=>rfl
 |cons a os=>
  rw[GV,List.drop_one,Jp,Jp,GT,JZ,Hk]
theorem Ei (l:List W)(h:l.length<=100):Mi (.tup l) (.tup [.non])=pr (.tup (l++[.non])):=by
 cases l with
 |nil=>rfl
 |cons a l=>
  show gd ((a::l).length+([W.non]:List W).length<=sizeLine) (pr (W.tup ((a::l)++[.non])))=_;exact ah (sz (by show (a::l).length+1<=_;omega))
theorem zu (a b:List W):Qx true true [.tup a,.tup b]=pr ⟨Q6 a b,λ_=>True/\True⟩:=rfl
noncomputable def ksW (os:List Nat)(n:Nat):List Key:=(os.take n).map λ(x:Nat)=>(.inl (x:Int):Key)
noncomputable def wsR (bs:List Bl)(os:List Nat)(n:Nat):List W:=(List.range n).map λ(i:Nat)=>nI (Po bs os i).length
theorem zd: ∀ {os:List Nat}{ws:List W}{i:Nat}{t:Nat},os.Nodup->os.length=ws.length->os[i]?=some t->atK (os.map λ(x:Nat)=>(.inl (x:Int):Key)) ws (.inl (t:Int))=ws[i]?
 |[],_,_,_,_,_,h=>by cases h
 |o::os,[],_,_,_,h,_=>by cases h
 |o::os,w::ws,0,t,_,_,h=>by cases h;rw[GV,atK,if_pos rfl];rfl
 |o::os,w::ws,i+1,t,nd,hl,h=>by
  rw[Ih] at h;have nd':=Ia.mp nd;have ne: ¬o=t:=λz=>nd'.1 (by rw[z];exact Hi h);rw[GV,atK,if_neg (λz=>ne (by have:=Sum.inl.inj z;omega)),Ih];exact zd nd'.2 (Nat.succ.inj hl) h
section
variable {ps:List (Str×Int)}{bs:List Bl}{os:List Nat}
theorem BG (n:Nat):(wsR bs os n).length=n:=by unfold wsR;simp
theorem zg (n:Nat):wsR bs os (n+1)=wsR bs os n++[nI (Po bs os n).length]:=by
 unfold wsR;rw[HW,GX];rfl
theorem AH {n:Nat}{o:Nat}(h:os[n]?=some o):ksW os (n+1)=ksW os n++[.inl (o:Int)]:=by
 unfold ksW;rw[Jq,h,GX];rfl
theorem DS (O:Ord bs.length os){n:Nat}{o:Nat}(h:os[n]?=some o):(ksW os n).any (λk=>decide (k=(.inl (o:Int):Key)))=false:=by
 rw[Ju];intro k hk;unfold ksW at hk;obtain⟨x,hx,rfl⟩:=G6.mp hk;intro z;have z:=Sum.inl.inj (of_decide_eq_true z);have z:x=o:=∅;subst z;obtain⟨i,hi,e⟩:=List.mem_take_iff_getElem.mp hx;have hn:=(G1.mp h)
 obtain⟨hn1,hn2⟩:=hn;have il:i<os.length:=∅;have q1:=eQ O.nodup (G1.mpr ⟨il,e⟩);have q2:=eQ O.nodup h;rw[q1] at q2;have:=Option.some.inj q2;omega
theorem oV (O:Ord bs.length os){t:Nat}(ht:t<bs.length):atK (ksW os bs.length) (wsR bs os bs.length) (.inl (t:Int))=some (nI (O6 bs os t)):=by
 have e:ksW os bs.length=os.map λ(x:Nat)=>(.inl (x:Int):Key):=by unfold ksW;rw[<-O.len,Hk]
 obtain⟨i,hi⟩:=O.ix ht;have il:=(G1.mp hi).1;rw[e,zd O.nodup (by rw[BG,O.len]) hi,j0 O hi];unfold wsR;rw[GW,Jk (by rw[<-O.len];exact il)];rfl
theorem D5 {j:Nat}{ws:List W}{o:Nat}(e:h[j]?=some (.dic ks ws))(e2:atK ks ws (.inl (o:Int))=some v):Ok (ixW (.loc j) (nI o)) h λw h'=>w=v/\h'=h:=by
 have d:Mw (.loc j) h=some (ks,ws):=by unfold Mw;simp only[e]
 have:ixO (.loc j) (nI o) h=some v:=by
  unfold ixO;simp only[d,Ny,nI,e2]
 refine⟨v,h,?_,rfl,rfl⟩;unfold ixW;rw[this]
theorem DR {h:List Ob}{kg:Nat}{r:Rw}(P:PgG ps bs)(O:Ord bs.length os)(ed:h[kg]?=some (.dic (ksW os bs.length) (wsR bs os bs.length)))(g:r.G (ps.map (·.1)) bs.length):Ok (dW [r.w,.loc kg]) h λw h'=>w=(r.fin (O6 bs os)).w/\h'=h:=by
 have e0:dW [r.w,.loc kg]=bd (dQ [some r.w,some (.loc kg)]) MP:=rfl;rw[e0];unfold dQ;cases r with
 |st st=>
  obtain⟨z,l',ew,jz,tz⟩:=zr (show st.G (ps.map (·.1)) from g);rw[show (Rw.st st).w=.tup (.str z::l') from ew,show ((Rw.st st).fin (O6 bs os)).w=.tup (.str z::l') from ew];simp![ix0,vm,jz,tz];exact ag ⟨rfl,rfl⟩
 |jump t=>
  unfold Rw.w Rw.fin;simp![ix0,vm,D3,cut2m,last2];refine rM ed (oV O g) ?_;simp![QT,add11];exact ag ⟨rfl,rfl⟩
 |cnd neg s a b t=>
  obtain⟨_,_,_,ht⟩:=g;cases neg with
  |false=>
   unfold Rw.w Rw.fin;simp![ix0,vm,DZ,Mq,NF];refine rM ed (oV O ht) ?_;simp![QT,L4];exact ag ⟨rfl,rfl⟩
  |true=>
   unfold Rw.w Rw.fin;simp![ix0,vm,yk,Mq,NF];refine rM ed (oV O ht) ?_;simp![QT,L4];exact ag ⟨rfl,rfl⟩
 |tab e ts=>
  obtain⟨_,_,tl,gt⟩:=g;have gl: ∀ {α:Type} (q:M α),gd ((ts.map nI).length<=sizeLine) q=q:=λq=>ah (by rw[GN];exact sz ∅);unfold Rw.w Rw.fin;simp![ix0,ix1,ix2,vm,AL,eq_self,decide_true,av,wu,gl];refine jA (I:=λn l h'=>h'=h/\l=((ts.take n).map (O6 bs os)).map nI) ⟨rfl,rfl⟩ kN (λ_ _ _ _=>trivial) (λn w l h4 hw J=>?_) λl' h4 J=>?_
  ·obtain⟨rfl,rfl⟩:=J;rw[GW] at hw;obtain⟨t,ht,rfl⟩:=Hd.mp hw;refine⟨_,rfl,?_⟩;simp! only[List.replicate,HE,HB,ae];refine Ok.imp (D5 ed (oV O (gt t (Hi ht)))) λw h5 qz=>?_;obtain⟨e1,e2⟩:=qz;refine⟨e2,?_⟩;rw[e1,Jq,ht,GX,GX];rfl
  ·obtain⟨rfl,rfl⟩:=J;rw[GN,Hk];simp![jT,QT];exact ag ⟨rfl,rfl⟩
 |stop=>
  unfold Rw.w Rw.fin;simp![ix0,vm,D0,F9];exact ag ⟨rfl,rfl⟩
theorem AG (P:PgG ps bs)(O:Ord bs.length os)(PA:PgAt h x ps bs):Ok (l7 [x,.tup (os.map nI)]) h λw h'=>(∀i,i<h.length->h'[i]?=h[i]?)/\ ∃kf,h.length<=kf/\w=.loc kf/\h'[kf]?=some (.lst ((NE bs os).map Rw.w)):=by
 have e0:l7 [x,.tup (os.map nI)]=bd (oH [some x,some (.tup (os.map nI)),none,none,none,none,none]) MP:=rfl;have pl:=O.len;have m1:=P.l1;have m2:=P.l2;obtain⟨bx,bl,ls,ex,LB,LL,ll,pq⟩:=PA;have x1:ixW x (.int 1)=pr bl:=by rw[ex];exact ix1 _ _ _
 rw[e0];unfold oH;simp!;refine d9 ?_;simp!;refine zX ?_;have el:(h++[Ob.lst []]).length=h.length+1:=⇑_;simp! only[PM,ae,QT,slos (os:=os) ∅,Ei (os.tail.map nI) (by rw[GN,List.length_tail];omega),zu];have zz:Q6 (os.map nI) (os.tail.map nI++[.non])=(List.range bs.length).map λi=>W.tup [nI (os.getD i 0),nxW os[i+1]?]:=by
  cases os with
  |nil=>have:0=bs.length:=pl;omega
  |cons a r=>rw[Jp,vM,<-pl];rfl
 rw[zz];refine df (I:=λn ρ h'=>(∃a4 a5 a6,ρ=[some x,some (.tup (os.map nI)),some (.loc h.length),some (.loc (h++[Ob.lst []]).length),a4,a5,a6])/\(∀i,i<h.length->h'[i]?=h[i]?)/\h'.length=h.length+2/\h'[h.length]?=some (.lst ((Po bs os n).map Rw.w))/\h'[h.length+1]?=some (.dic (ksW os n) (wsR bs os n))) ⟨⟨_,_,_,rfl⟩,λi hi=>by rw[Hg (by rw[el];omega),Hg hi],⇑_,jH cF,by rw[<-el];exact cF⟩ (λ_ _ _ _=>⟨trivial,trivial⟩) (λn w ρ h1 hw I=>?_) λρ h1 I=>?_
 ·obtain⟨⟨a4,a5,a6,rfl⟩,fr,hl,er,ed⟩:=I;rw[GW] at hw;obtain⟨n',hn',rfl⟩:=Hd.mp hw;have hn:n<bs.length:=by
   have:=(G1.mp hn').1
   rwa[HY] at this
  have nn:n'=n:=by
   rw[Jk hn] at hn';exact (Option.some.inj hn').symm
  subst nn;obtain⟨o,ho⟩: ∃o,os[n']?=some o:=⟨_,G0 ∅⟩
  have go:os.getD n' 0=o:=by rw[HH,ho];rfl
  rw[go];obtain⟨b,mb,hb⟩:=oU O ho;obtain⟨y,ey,LY⟩:=pq o b hb;have rl:=lu P O n';have tl:=o7 b.en os[n'+1]?;have s8:=(P.g b mb).1;have kl:(ksW os n').length<=10:=by unfold ksW;rw[GN,Hr];omega
  refine⟨_,rfl,?_⟩;simp![x1];refine (LL.keep fr).ix (eG ey) ?_;simp!;refine Lw.len_eq (N:=((Po bs os n').length:Int)) (.inr ⟨h.length,rfl,er⟩) (by rw[GN]) ?_;simp!;rw[el];refine CU ed (DS O ho) (Hs kl ↥_) ?_;obtain⟨h2,hh2⟩: ∃h2,h2=h1.set (h.length+1) (.dic (ksW os n'++[.inl (o:Int)]) (wsR bs os n'++[.int ((Po bs os n').length:Int)])):=⟨_,rfl⟩
  have er2:h2[h.length]?=some (.lst ((Po bs os n').map Rw.w)):=by rw[hh2,GP ∅];exact er
  have ed2:h2[h.length+1]?=some (.dic (ksW os (n'+1)) (wsR bs os (n'+1))):=by rw[hh2,bh ed,AH ho,zg];rfl
  have fr2: ∀i,i<h.length->h2[i]?=h[i]?:=λi hi=>by rw[hh2,GP ∅];exact fr i hi
  have hl2:h2.length=h.length+2:=by rw[hh2,Hb];exact hl
  rw[<-hh2];clear hh2;simp!;refine cz er2 ?_;simp![ix1];refine xw er2 (LY.keep fr2) (sz (by rw[GN,GN];omega)) ?_;obtain⟨h3,hh3⟩: ∃h3,h3=h2.set h.length (.lst ((Po bs os n').map Rw.w++b.sts.map Sm.w)):=⟨_,rfl⟩
  have er3:h3[h.length]?=some (.lst ((Po bs os n').map Rw.w++b.sts.map Sm.w)):=by rw[hh3];exact bh er2
  have ed3:h3[h.length+1]?=some (.dic (ksW os (n'+1)) (wsR bs os (n'+1))):=by rw[hh3,GP ∅];exact ed2
  have fr3: ∀i,i<h.length->h3[i]?=h[i]?:=λi hi=>by rw[hh3,GP ∅];exact fr2 i hi
  have hl3:h3.length=h.length+2:=by rw[hh3,Hb];exact hl2
  rw[<-hh3];clear hh3;simp!;refine cz er3 ?_;simp![ix2,Eb];refine xw er3 (.inl rfl) (sz (by rw[GQ,GN,GN,GN];omega)) ?_;simp!;refine ag ⟨_,rfl,⟨_,_,_,rfl⟩,λi hi=>by rw[GP ∅];exact fr3 i hi,by rw[Hb];exact hl3,?_,by rw[GP ∅];exact ed3⟩;have es:b.sts.map Sm.w++(b.en.tail os[n'+1]?).map Rw.w=(P8 bs os n').map Rw.w:=by
   rw[lf ho hb,GX,Hw];rfl
  rw[bh er3,Po,GX,<-es,<-Hc]
 ·obtain⟨⟨a4,a5,a6,rfl⟩,fr,hl,er,ed⟩:=I;rw[GN,HY] at er ed;have rl:=lu P O bs.length;simp![av];refine og er ?_;have gl: ∀ {α:Type} (q:M α),gd (((Po bs os bs.length).map Rw.w).length<=sizeLine) q=q:=λq=>ah (sz (by rw[GN];omega));simp![gl];refine jA (I:=λn a h'=>h'=h1/\a=((Po bs os bs.length).take n).map λr=>(r.fin (O6 bs os)).w) ⟨rfl,rfl⟩ kN (λ_ _ h' I=>by rw[I.1];exact er) (λn w a h' hw I=>?_) λa h' I=>?_
  ·obtain⟨rfl,rfl⟩:=I;rw[GW] at hw;obtain⟨r,hr,rfl⟩:=Hd.mp hw;refine⟨_,rfl,?_⟩;rw[el];simp! only[List.replicate,HE,HB,ae];refine Ok.imp (DR P O ed (jY P O bs.length r (Hi hr))) λx h2 qz=>?_;obtain⟨e1,e2⟩:=qz;refine⟨e2,?_⟩;rw[e1,Jq,hr,GX];rfl
  ·obtain⟨rfl,rfl⟩:=I;rw[GN,Hk];simp!;refine d9 ?_;simp!;refine ag ⟨λi hi=>by rw[Hg ∅];exact fr i hi,h'.length,∅,rfl,?_⟩;rw[cF];unfold NE;rw[Hw];rfl
end
end
section
open Wd
noncomputable def nxt (os:List Nat)(p:Nat):Option Nat:=match os.findIdx? (λx=>decide (x=p)) with
 |some i=>os[i+1]?
 |none=>none
noncomputable def jmp (nx:Option Nat)(t:Nat):Nat:=if nx=some t then 0 else 1
noncomputable def fw (e:En)(nx:Option Nat)(sd t:Nat):Nat×Nat:=match e with
 |.tab ..=>(1,1)
 |.go _=>(jmp nx t,jmp nx t)
 |.iff _ _ _ x y=>if x=y then (jmp nx t,jmp nx t) else (1+(if sd=1/\nx≠some x/\nx≠some y then 1 else 0),jmp nx t)
 |.stop=>(0,0)
noncomputable def di (bs:List Bl)(p:Nat):Nat:=match bs[p]? with
 |some b=>b.sts.length
 |none=>0
noncomputable def cH (bs:List Bl)(os:List Nat)(w:Nat×Nat×Nat):Nat×Nat:=match bs[w.1]? with
 |some b=>fw b.en (nxt os w.1) w.2.1 w.2.2
 |none=>(0,0)
noncomputable def My (bs:List Bl)(os:List Nat):List (Nat×Nat×Nat)->Nat×Nat
 |[]=>(0,0)
 |w::r=>(di bs w.1+(cH bs os w).1+(My bs os r).1,(cH bs os w).2+(My bs os r).2)
noncomputable def NG:Nat->List (Nat×Nat×Nat)->Nat
 |p,[]=>p
 |_,w::r=>NG w.2.2 r
section
variable {bs:List Bl}{os:List Nat}
theorem wI {i n:Nat}(h:i<=n): ∃r,Po bs os n=Po bs os i++r:=by
 induction n with
 |zero=>
  have:i=0:=∅;subst this;exact⟨[],by rw[Hn]⟩
 |succ n ih=>
  by_cases e:i=n+1
  ·subst e;exact⟨[],by rw[Hn]⟩
  ·obtain⟨r,hr⟩:=ih ∅;exact⟨r++P8 bs os n,by rw[Po,hr,Hc]⟩
theorem tO (O:Ord bs.length os){i p j:Nat}(hi:os[i]?=some p)(hr:(P8 bs os i)[j]?=some r):(NE bs os)[O6 bs os p+j]?=some (r.fin (O6 bs os)):=by
 have il:=(G1.mp hi).1;have ol:=O.len;obtain⟨l,e⟩:=wI (bs:=bs) (os:=os) (show i+1<=bs.length by omega);unfold NE;rw[GW,e,Po,Hc,j0 O hi,HG ∅,Jg,Hg (G1.mp hr).1,hr];rfl
theorem wY (O:Ord bs.length os){i p t:Nat}(hi:os[i]?=some p)(hn:os[i+1]?=some t):O6 bs os t=O6 bs os p+(P8 bs os i).length:=by
 rw[j0 O hi,j0 O hn,Po,GQ]
theorem C2 (O:Ord bs.length os){i p:Nat}(hi:os[i]?=some p):nxt os p=os[i+1]?:=by
 unfold nxt;rw[eQ O.nodup hi]
end
section
variable {nums:List Int}{rows:List Rw}
theorem nQ {n p:Nat}{st:Sm}(h:rows[p]?=some (.st st)):Pu nums rows (n+1) p s=if ND nums s st=true then⟨s.said, "out",0⟩ else Pu nums rows n (p+1) (doS nums s st):=by
 conv=>lhs;unfold Pu
 rw[h]
theorem uH {n p t:Nat}(h:rows[p]?=some (.jump t)):Pu nums rows (n+1) p s=⟨(Pu nums rows n t s).said,(Pu nums rows n t s).en,(Pu nums rows n t s).jumps+1⟩:=by
 conv=>lhs;unfold Pu
 rw[h];rfl
theorem wH {n p:Nat}(h:rows[p]?=some (.tab e ts)):Pu nums rows (n+1) p s=⟨(Pu nums rows n (ts.getD (e.val s.σ % ts.length).toNat 0) s).said,(Pu nums rows n (ts.getD (e.val s.σ % ts.length).toNat 0) s).en,(Pu nums rows n (ts.getD (e.val s.σ % ts.length).toNat 0) s).jumps+1⟩:=by
 conv=>lhs;unfold Pu
 rw[h];rfl
theorem pP {n p t:Nat}{neg:Bool}{c:Str}(h:rows[p]?=some (.cnd neg c a b t))(hc: ¬Mo s.σ c a b=neg):Pu nums rows (n+1) p s=⟨(Pu nums rows n t s).said,(Pu nums rows n t s).en,(Pu nums rows n t s).jumps+1⟩:=by
 conv=>lhs;unfold Pu
 rw[h];dsimp only;rw[show (Rw.cnd neg c a b t).to s.σ=some t from if_neg hc]
theorem sS {n p t:Nat}{neg:Bool}{c:Str}(h:rows[p]?=some (.cnd neg c a b t))(hc:Mo s.σ c a b=neg):Pu nums rows (n+1) p s=Pu nums rows n (p+1) s:=by
 conv=>lhs;unfold Pu
 rw[h];dsimp only;rw[show (Rw.cnd neg c a b t).to s.σ=none from if_pos hc]
theorem pL: ∀ (l:List Sm) (q:Nat) (s:Sta),(∀j st,l[j]?=some st->rows[q+j]?=some (.st st))->((doL nums s l).2=true-> ∀n,Pu nums rows (l.length+n) q s=Pu nums rows n (q+l.length) (doL nums s l).1)/\((doL nums s l).2=false-> ∀n,l.length<=n->Pu nums rows n q s=⟨(doL nums s l).1.said, "out",0⟩)
 |[],q,s,_=>⟨λ_ n=>by show Pu nums rows (0+n) q s=_;rw[IM];rfl,λh=>by cases h⟩
 |st::l,q,s,hr=>by
  have h0:rows[q]?=some (.st st):=hr 0 st rfl;have hr': ∀j st',l[j]?=some st'->rows[q+1+j]?=some (.st st'):=λj st' hj=>by
   have:=hr (j+1) st' (by simpa using hj)
   rwa[show q+(j+1)=q+1+j by omega] at this
  by_cases hl:ND nums s st=true
  ·have e:doL nums s (st::l)=(s,false):=by unfold doL;rw[if_pos hl]
   rw[e];refine⟨λz=>by (cases z),λ_ n hn=>?_⟩;obtain⟨m,rfl⟩: ∃m,n=m+1:=⟨n - 1,by rw[GT] at hn;omega⟩
   rw[nQ h0,if_pos hl]
  ·have e:doL nums s (st::l)=doL nums (doS nums s st) l:=by
    conv=>lhs;unfold doL
    rw[if_neg hl]
   rw[e];obtain⟨a,b⟩:=pL l (q+1) (doS nums s st) hr';refine⟨λz n=>?_,λz n hn=>?_⟩
   ·rw[GT,show l.length+1+n=(l.length+n)+1 by omega,nQ h0,if_neg hl,a z n,show q+1+l.length=q+(l.length+1) by omega]
   ·obtain⟨m,rfl⟩: ∃m,n=m+1:=⟨n - 1,by rw[GT] at hn;omega⟩
    rw[nQ h0,if_neg hl,b z m (by rw[GT] at hn;omega)]
noncomputable def OutR.more (o:OutR)(k:Nat):OutR:=⟨o.said,o.en,o.jumps+k⟩
theorem rC {q t n:Nat}{f:Nat->Nat}(hr: ∀j r,(goR t nx)[j]?=some r->rows[q+j]?=some (r.fin f))(hn:nx=some t->f t=q):Pu nums rows (jmp nx t+n) q s=(Pu nums rows n (f t) s).more (jmp nx t):=by
 unfold goR at hr;unfold jmp;by_cases h:nx=some t
 ·rw[if_pos h,IM,hn h];rfl
 ·rw[if_neg h] at hr ⊢;have h0:rows[q]?=some (.jump (f t)):=hr 0 _ rfl;rw[HV 1 n];exact uH h0
theorem wG {ns:List Str}{m q:Nat}{f:Nat->Nat}(g:e.G ns m)(st:e.stops=false)(hr: ∀j r,(e.tail nx)[j]?=some r->rows[q+j]?=some (r.fin f))(hn: ∀t,nx=some t->f t=q+(e.tail nx).length)(n:Nat):Pu nums rows ((fw e nx (side s.σ e) (to s.σ e)).1+n) q s=(Pu nums rows n (f (to s.σ e)) s).more (fw e nx (side s.σ e) (to s.σ e)).2:=by
 cases e with
 |stop=>cases st
 |go t=>
  show Pu nums rows (jmp nx t+n) q s=(Pu nums rows n (f t) s).more (jmp nx t);refine rC hr λh=>?_;have:=hn t h;rw[show (En.go t).tail nx=goR t nx from rfl] at this;unfold goR at this;rw[if_pos h] at this;exact this
 |tab e ts=>
  have h0:rows[q]?=some (.tab e (ts.map f)):=hr 0 _ rfl;show Pu nums rows (1+n) q s=(Pu nums rows n (f (to s.σ (.tab e ts))) s).more 1;have et:(ts.map f).getD (e.val s.σ % (ts.map f).length).toNat 0=f (to s.σ (.tab e ts)):=by
   have sd:=kB s.σ g rfl;have sd:(e.val s.σ % ts.length).toNat<ts.length:=sd;show _=f (ts.getD (e.val s.σ % ts.length).toNat 0);rw[GN,HH,HH,GW,G0 sd];rfl
  rw[HV 1 n,wH h0,et];rfl
 |iff c a b x y=>
  have tl:(En.iff c a b x y).tail nx=if x=y then goR x nx else if nx=some x then [Rw.cnd true c a b y] else Rw.cnd false c a b x::goR y nx:=rfl
  have sp: ∀sd t,fw (.iff c a b x y) nx sd t=if x=y then (jmp nx t,jmp nx t) else (1+(if sd=1/\nx≠some x/\nx≠some y then 1 else 0),jmp nx t):=λ_ _=>rfl
  rw[tl] at hr hn;rw[sp];by_cases h:x=y
  ·rw[if_pos h] at hr hn ⊢;have et:to s.σ (.iff c a b x y)=x:=by
    show [x,y].getD (if Mo s.σ c a b=true then 0 else 1) 0=x;rw[<-h];split<;>rfl
   rw[et];refine rC hr λz=>?_;have:=hn x z;unfold goR at this;rw[if_pos z] at this;exact this
  ·rw[if_neg h] at hr hn ⊢;cases hc:Mo s.σ c a b with
   |true=>
    have es:side s.σ (.iff c a b x y)=0:=by show (if Mo s.σ c a b=true then 0 else 1)=0;rw[hc];rfl
    have et:to s.σ (.iff c a b x y)=x:=by unfold to;rw[es];rfl
    rw[es,et,if_neg (λz=>by cases z.1)];by_cases h2:nx=some x
    ·rw[if_pos h2] at hr hn;have h0:rows[q]?=some (.cnd true c a b (f y)):=hr 0 _ rfl;show Pu nums rows (1+n) q s=(Pu nums rows n (f x) s).more (jmp nx x);rw[HV 1 n,sS h0 hc,hn x h2];unfold jmp;rw[if_pos h2];rfl
    ·rw[if_neg h2] at hr hn;have h0:rows[q]?=some (.cnd false c a b (f x)):=hr 0 _ rfl;show Pu nums rows (1+n) q s=(Pu nums rows n (f x) s).more (jmp nx x);rw[HV 1 n,pP h0 (by rw[hc];simp)];unfold jmp;rw[if_neg h2];rfl
   |false=>
    have es:side s.σ (.iff c a b x y)=1:=by show (if Mo s.σ c a b=true then 0 else 1)=1;rw[hc];rfl
    have et:to s.σ (.iff c a b x y)=y:=by unfold to;rw[es];rfl
    rw[es,et];by_cases h2:nx=some x
    ·rw[if_pos h2] at hr hn;have h0:rows[q]?=some (.cnd true c a b (f y)):=hr 0 _ rfl;have ny: ¬nx=some y:=λz=>h (by rw[h2] at z;exact Option.some.inj z);rw[if_neg (λz=>z.2.1 h2)];show Pu nums rows (1+n) q s=(Pu nums rows n (f y) s).more (jmp nx y);rw[HV 1 n,pP h0 (by rw[hc];simp)];unfold jmp;rw[if_neg ny];rfl
    ·rw[if_neg h2] at hr hn;have h0:rows[q]?=some (.cnd false c a b (f x)):=hr 0 _ rfl;have hr': ∀j r,(goR y nx)[j]?=some r->rows[q+1+j]?=some (r.fin f):=λj r hj=>by
      have:=hr (j+1) r (by simpa using hj)
      rwa[show q+(j+1)=q+1+j by omega] at this
     have go:=rC (nums:=nums) (n:=n) (s:=s) hr' λz=>by
      have:=hn y z;unfold goR at this;rw[if_pos z] at this;exact this
     have e1:(1+(if (1:Nat)=1/\nx≠some x/\nx≠some y then 1 else 0))=jmp nx y+1:=by
      unfold jmp;by_cases h3:nx=some y
      ·rw[if_pos h3,if_neg (λz=>z.2.2 h3)]
      ·rw[if_neg h3,if_pos ⟨rfl,h2,h3⟩]
     rw[e1];show Pu nums rows (jmp nx y+1+n) q s=_;rw[show jmp nx y+1+n=(jmp nx y+n)+1 by omega,sS h0 hc];exact go
end
section
variable {ps:List (Str×Int)}{bs:List Bl}{os:List Nat}{nums:List Int}
theorem za (P:PgG ps bs)(O:Ord bs.length os){p:Nat}(hb:bs[p]?=some b):(∀j st,b.sts[j]?=some st->(NE bs os)[O6 bs os p+j]?=some (.st st))/\(∀j r,(b.en.tail (nxt os p))[j]?=some r->(NE bs os)[O6 bs os p+b.sts.length+j]?=some (r.fin (O6 bs os)))/\ ∀t,nxt os p=some t->O6 bs os t=O6 bs os p+b.sts.length+(b.en.tail (nxt os p)).length:=by
 obtain⟨i,hi⟩:=O.ix (G1.mp hb).1;have se:=lf hi hb;rw[C2 O hi];refine⟨λj st hj=>?_,λj r hj=>?_,λt ht=>?_⟩
 ·refine tO O (r:=.st st) hi ?_;rw[se,Hg (by rw[GN];exact (G1.mp hj).1),GW,hj];rfl
 ·rw[Nat.add_assoc];refine tO O (r:=r) hi ?_;rw[se,HG (by rw[GN];omega),GN,Jg];exact hj
 ·rw[wY O hi ht,se,GQ,GN];omega
theorem sim (P:PgG ps bs)(O:Ord bs.length os): ∀ (n p:Nat) (s:Sta),p<bs.length->
  ((Pq nums bs n p s).en= "on"->Pu nums (NE bs os) (My bs os (Pq nums bs n p s).went).1 (O6 bs os p) s=⟨(Pq nums bs n p s).said, "on",(My bs os (Pq nums bs n p s).went).2⟩)/\
  ((Pq nums bs n p s).en= "stop"-> ∀m,(My bs os (Pq nums bs n p s).went).1+di bs (NG p (Pq nums bs n p s).went)+1<=m->Pu nums (NE bs os) m (O6 bs os p) s=⟨(Pq nums bs n p s).said, "stop",(My bs os (Pq nums bs n p s).went).2⟩)/\
  ((Pq nums bs n p s).en= "out"-> ∀m,(My bs os (Pq nums bs n p s).went).1+di bs (NG p (Pq nums bs n p s).went)<=m->Pu nums (NE bs os) m (O6 bs os p) s=⟨(Pq nums bs n p s).said, "out",(My bs os (Pq nums bs n p s).went).2⟩)
 |0,p,s,hp=>⟨λ_=>rfl,λz=>absurd z (show¬(("on":Str)= "stop") by decide+kernel),λz=>absurd z (show¬(("on":Str)= "out") by decide+kernel)⟩
 |n+1,p,s,hp=>by
  obtain⟨b,hb⟩: ∃b,bs[p]?=some b:=⟨_,G0 hp⟩
  obtain⟨_,_,g⟩:=P.g b (Hi hb);obtain⟨r1,r2,r3⟩:=za P O hb;obtain⟨q1,q2⟩:=pL (nums:=nums) (rows:=NE bs os) b.sts (O6 bs os p) s r1;have sl:di bs p=b.sts.length:=by unfold di;rw[hb]
  cases hd:(doL nums s b.sts).2 with
  |false=>
   have er:Pq nums bs (n+1) p s=⟨(doL nums s b.sts).1.said, "out",[]⟩:=by
    conv=>lhs;unfold Pq
    rw[hb];dsimp only;rw[if_pos hd]
   rw[er];refine⟨λz=>absurd z (show¬(("out":Str)= "on") by decide+kernel),λz=>absurd z (show¬(("out":Str)= "stop") by decide+kernel),λ_ m hm=>?_⟩;exact q2 hd m (by have hm:0+di bs p<=m:=hm;omega)
  |true=>
   cases hs:b.en.stops with
   |true=>
    have er:Pq nums bs (n+1) p s=⟨(doL nums s b.sts).1.said, "stop",[]⟩:=by
     conv=>lhs;unfold Pq
     rw[hb];dsimp only;rw[hd,if_neg ⇑_,hs,if_pos rfl]
    rw[er];refine⟨λz=>absurd z (show¬(("stop":Str)= "on") by decide+kernel),λ_ m hm=>?_,λz=>absurd z (show¬(("stop":Str)= "out") by decide+kernel)⟩;have hm:0+di bs p+1<=m:=hm;obtain⟨k,rfl⟩: ∃k,m=b.sts.length+(k+1):=⟨m - b.sts.length - 1,∅⟩
    rw[q1 hd];have h0:(NE bs os)[O6 bs os p+b.sts.length]?=some .stop:=by
     have eb:b.en=.stop:=by
      cases h:b.en with
      |stop=>rfl
      |go t=>rw[h] at hs;cases hs
      |iff c a b x y=>rw[h] at hs;cases hs
      |tab e ts=>rw[h] at hs;cases hs
     rw[eb] at r2;exact r2 0 .stop rfl
    conv=>lhs;unfold Pu
    rw[h0];rfl
   |false=>
    have er:Pq nums bs (n+1) p s=⟨(Pq nums bs n (to (doL nums s b.sts).1.σ b.en) (doL nums s b.sts).1).said,(Pq nums bs n (to (doL nums s b.sts).1.σ b.en) (doL nums s b.sts).1).en,(p,side (doL nums s b.sts).1.σ b.en,to (doL nums s b.sts).1.σ b.en)::(Pq nums bs n (to (doL nums s b.sts).1.σ b.en) (doL nums s b.sts).1).went⟩:=by
     conv=>lhs;unfold Pq
     rw[hb];dsimp only;rw[hd,if_neg ⇑_,hs,if_neg ⇑_]
    have sp:cH bs os (p,side (doL nums s b.sts).1.σ b.en,to (doL nums s b.sts).1.σ b.en)=fw b.en (nxt os p) (side (doL nums s b.sts).1.σ b.en) (to (doL nums s b.sts).1.σ b.en):=by
     unfold cH;dsimp only;rw[hb]
    have rt:=λk=>wG (nums:=nums) (rows:=NE bs os) (q:=O6 bs os p+b.sts.length) (f:=O6 bs os) (s:=(doL nums s b.sts).1) g hs r2 r3 k;obtain⟨i1,i2,i3⟩:=sim P O n (to (doL nums s b.sts).1.σ b.en) (doL nums s b.sts).1 (v4 _ g hs);rw[er];have dn: ∀r,My bs os ((p,side (doL nums s b.sts).1.σ b.en,to (doL nums s b.sts).1.σ b.en)::r)=(b.sts.length+(fw b.en (nxt os p) (side (doL nums s b.sts).1.σ b.en) (to (doL nums s b.sts).1.σ b.en)).1+(My bs os r).1,(fw b.en (nxt os p) (side (doL nums s b.sts).1.σ b.en) (to (doL nums s b.sts).1.σ b.en)).2+(My bs os r).2):=λr=>by
     show (di bs p+(cH bs os _).1+_,(cH bs os _).2+_)=_;rw[sl,sp]
    dsimp only;rw[dn];generalize Pq nums bs n (to (doL nums s b.sts).1.σ b.en) (doL nums s b.sts).1=o at *;generalize fw b.en (nxt os p) (side (doL nums s b.sts).1.σ b.en) (to (doL nums s b.sts).1.σ b.en)=sq at *;have lb:NG p ((p,side (doL nums s b.sts).1.σ b.en,to (doL nums s b.sts).1.σ b.en)::o.went)=NG (to (doL nums s b.sts).1.σ b.en) o.went:=rfl;rw[lb];have mv: ∀ {o2:OutR}{w:Str},o2=⟨o.said,w,(My bs os o.went).2⟩->o2.more sq.2=⟨o.said,w,sq.2+(My bs os o.went).2⟩:=λ{o2 w} h=>by
     rw[h];unfold OutR.more;rw[HV]
    refine⟨λz=>?_,λz m hm=>?_,λz m hm=>?_⟩
    ·show Pu nums (NE bs os) (b.sts.length+sq.1+(My bs os o.went).1) (O6 bs os p) s=_;rw[Nat.add_assoc,q1 hd,rt];exact mv (i1 z)
    ·have hm:b.sts.length+sq.1+(My bs os o.went).1+di bs (NG (to (doL nums s b.sts).1.σ b.en) o.went)+1<=m:=hm;obtain⟨k,rfl⟩: ∃k,m=b.sts.length+(sq.1+k):=⟨m - b.sts.length - sq.1,∅⟩
     rw[q1 hd,rt];exact mv (i2 z k ∅)
    ·have hm:b.sts.length+sq.1+(My bs os o.went).1+di bs (NG (to (doL nums s b.sts).1.σ b.en) o.went)<=m:=hm;obtain⟨k,rfl⟩: ∃k,m=b.sts.length+(sq.1+k):=⟨m - b.sts.length - sq.1,∅⟩
     rw[q1 hd,rt];exact mv (i3 z k ∅)
theorem pos0 (O:Ord bs.length os):O6 bs os 0=0:=by rw[j0 O O.hd];rfl
end
end
section
open Wd
noncomputable def Q5:Exp->Xe
 |.num i=>.num i
 |.box x=>.box x
 |.bin s l r=>.op s (Q5 l) (Q5 r)
theorem qN: ∀e:Exp,(Q5 e).w=MJ e
 |.num i=>rfl
 |.box x=>rfl
 |.bin s l r=>by
  show W.tup [.str s,(Q5 l).w,(Q5 r).w]=.tup [.str s,MJ l,MJ r];rw[qN l,qN r]
theorem qO {ns:List Str}: ∀ (n:Nat) (e:Exp),MG e+1<=n->MI e=true->(∀x∈MH e,x∈ns)->(Q5 e).G ns n
 |0,e,h,_,_=>∅
 |n+1,.num i,_,k,_=>(of_decide_eq_true (show decide (0<=i/\i<1000)=true from k):0<=i/\i<1000)
 |n+1,.box x,_,_,b=>b x GY
 |n+1,.bin s l r,h,k,b=>by
  have h:1+max (MG l) (MG r)+1<=n+1:=h;have k:(decide (s∈(["+", "-", "*"]:List Str)) && (MI l && MI r))=true:=k;rw[Ho,Ho,decide_eq_true_eq] at k;refine⟨by simpa using k.1,qO n l ∅ k.2.1 λx hx=>b x (Im _ hx),qO n r ∅ k.2.2 λx hx=>b x (Hu _ hx)⟩
noncomputable def Qm:Rr->Sm
 |.put nm _ e=>.put nm (Q5 e)
 |.say _ e=>.say (Q5 e)
 |.ask nm=>.ask nm
 |_=>.ask ""
theorem FX (q:r.stm=true):(Qm r).w=r.form:=by
 cases r with
 |put nm z e=>show W.tup [.str "put",.str nm,(Q5 e).w]=_;rw[qN];rfl
 |say z e=>show W.tup [.str "say",(Q5 e).w]=_;rw[qN];rfl
 |ask nm=>rfl
 |_=>cases q
theorem FY {ns:List Str}(q:r.stm=true)(g:r.Ok)(b:∀x∈r.bxs,x∈ns)(d:r.dep<=5):(Qm r).G ns:=by
 cases r with
 |put nm z e=>
  have d:MG e<=5:=d;exact⟨b nm GY,qO 6 e ∅ g.2.ok λx hx=>b x (G9 _ hx)⟩
 |say z e=>
  have d:MG e<=5:=d;have g:Wrd z e:=g;exact qO 6 e ∅ g.ok b
 |ask nm=>exact b nm GY
 |_=>cases q
noncomputable def Mz (ns:List Str):Rr->En
 |.go nm=>.go (Np ns nm)
 |.iff s _ e1 _ e2 x y=>.iff s (Q5 e1) (Q5 e2) (Np ns x) (Np ns y)
 |.table _ e xs=>.tab (Q5 e) (xs.map (Np ns))
 |_=>.stop
theorem GD (ns:List Str)(r:Rr):(Mz ns r).w=(r.en ns).w:=by
 cases r with
 |iff s z1 e1 z2 e2 x y=>show W.tup [.str "if",.str s,(Q5 e1).w,(Q5 e2).w,nI _,nI _]=_;rw[qN,qN];rfl
 |table z e xs=>
  show W.tup [.str "table",(Q5 e).w,.tup ((xs.map (Np ns)).map nI)]=.tup [.str "table",MJ e,.tup ((xs.map λx=>((Np ns x:Nat):Int)).map W.int)];rw[qN,Hw,Hw];rfl
 |_=>rfl
theorem FD {ns bn:List Str}(g:r.Ok)(b:∀x∈r.bxs,x∈bn)(d:r.dep<=5)(to: ∀x∈r.tos,x∈ns):(Mz ns r).G bn ns.length:=by
 cases r with
 |go nm=>exact (f7 (to nm GY)).2
 |iff s z1 e1 z2 e2 x y=>
  have d:max (MG e1) (MG e2)<=5:=d;obtain⟨g1,g2,g3,g4,g5⟩:=g;exact⟨g1,qO 6 e1 ∅ g2.ok λx hx=>b x (Im _ hx),qO 6 e2 ∅ g3.ok λx hx=>b x (Hu _ hx),(f7 (to x GY)).2,(f7 (to y (G9 _ GY))).2⟩
 |table z e xs=>
  have d:MG e<=5:=d;obtain⟨g1,g2,g3,g4⟩:=g;refine⟨qO 6 e ∅ g1.ok b,by rw[GN];exact JR.mpr g2,by rw[GN];exact g3,λt ht=>?_⟩;obtain⟨x,hx,rfl⟩:=G6.mp ht;exact (f7 (to x hx)).2
 |_=>trivial
noncomputable def L8 (ns:List Str)(b:Bt):Bl:=⟨b.nm,b.ss.map Qm,Mz ns b.e⟩
theorem C4 {v:Str}(h:Ox v=true):0<=cZ v/\cZ v<1000:=by
 unfold Ox at h;simp only[Ho,decide_eq_true_eq,HD] at h;obtain⟨⟨_,h3⟩,_,h4⟩:=h;have h3:v.cps.toList.length<=3:=h3;have f: ∀c∈v.cps.toList,c<=57:=λc hc=>(Nf.mp (h4 c hc)).2;unfold cZ PySem.NumText.digitsVal;refine⟨Int.natCast_nonneg _,?_⟩;generalize v.cps.toList=l at *
 match l,h3,f with
 |[],_,_=>decide
 |[a],_,f=>
  have:=f a ⇑_;show (((0 * 10+(a - 48):Nat)):Int)<1000;omega
 |[a,b],_,f=>
  have:=f a ⇑_;have:=f b ⇑_;show ((((0 * 10+(a - 48)) * 10+(b - 48):Nat)):Int)<1000;omega
 |[a,b,c],_,f=>
  have:=f a ⇑_;have:=f b ⇑_;have:=f c ⇑_;show (((((0 * 10+(a - 48)) * 10+(b - 48)) * 10+(c - 48):Nat)):Int)<1000;omega
theorem typed {most:Nat}(T:TxG most bx bl):PgG (bxV bx) (bl.map (L8 (bl.map Bt.nm)))/\ ∀h:List Ob,PgAt h (.tup [.tl ((bxV bx).map bqW),.tl (bl.map (Bt.w (bl.map Bt.nm)))]) (bxV bx) (bl.map (L8 (bl.map Bt.nm))):=by
 have nb:(bxV bx).map (·.1)=bn2:=by rw[<-T.n];unfold bxV;rw[Hw];rfl
 refine⟨⟨⟨by unfold bxV;rw[GN];exact T.g.b4⟩,λp hp=>?_,by rw[GN];exact T.g.l1,by rw[GN];exact T.g.l,λb hb=>?_⟩,λh=>⟨_,_,_,rfl,.inl rfl,.inl rfl,by rw[GN,GN],λi b hb=>?_⟩⟩
 ·unfold bxV at hp;obtain⟨x,hx,rfl⟩:=G6.mp hp;exact C4 (T.g.b x hx).2
 ·obtain⟨c,hc,rfl⟩:=G6.mp hb;have L:=T.b c hc;have ln:(bl.map (L8 (bl.map Bt.nm))).length=(bl.map Bt.nm).length:=by rw[GN,GN]
  rw[nb,ln];refine⟨by show (c.ss.map Qm).length<=8;rw[GN];exact L.g.l,λs hs=>?_,FD L.g.e.2.1 L.g.e.2.2.1 L.d.2 L.g.e.2.2.2⟩;obtain⟨r,hr,rfl⟩:=G6.mp hs;obtain⟨a1,a2,a3⟩:=L.g.s r hr;exact FY a1 a2 a3 (L.d.1 r hr)
 ·rw[GW] at hb;obtain⟨c,hc,rfl⟩:=Hd.mp hb;have L:=T.b c (Hi hc);refine⟨.tl (c.ss.map Rr.form),?_,.inl ?_⟩
  ·rw[GW,hc];show some (Bt.w (bl.map Bt.nm) c)=some (W.tup [.str c.nm,.tl (c.ss.map Rr.form),(Mz (bl.map Bt.nm) c.e).w]);rw[GD];rfl
  ·show W.tl (c.ss.map Rr.form)=.tl ((c.ss.map Qm).map Sm.w);rw[Hw];congr 1;exact Ir λr hr=>(FX (L.g.s r hr).1).symm
theorem A7 (nums:List Int)(s:Sta)(st:Sm):s.said<+:(doS nums s st).said:=by
 cases st with
 |say e=>exact List.prefix_append _ _
 |put y e=>exact H0 _
 |ask y=>exact H0 _
theorem jq (nums:List Int)(rows:List Rw): ∀ (n p:Nat) (s:Sta),s.said<+:(Pu nums rows n p s).said
 |0,p,s=>H0 _
 |n+1,p,s=>by
  unfold Pu;split
  ·exact H0 _
  ·exact H0 _
  ·split
   ·exact H0 _
   ·exact (A7 nums s _).trans (jq nums rows n _ _)
  ·split
   ·exact jq nums rows n _ _
   ·exact jq nums rows n _ _
structure Mor (a b:OutR):Prop where
 en:a.en≠ "on"->b=a
 pre:a.said<+:b.said
 jm:a.jumps<=b.jumps
theorem Mor.refl (a:OutR):Mor a a:=⟨λ_=>rfl,H0 _,GO _⟩
theorem mS (nums:List Int)(rows:List Rw): ∀ (n m p:Nat) (s:Sta),n<=m->Mor (Pu nums rows n p s) (Pu nums rows m p s)
 |0,m,p,s,_=>⟨λz=>absurd rfl z,jq nums rows m p s,G8 _⟩
 |n+1,m,p,s,h=>by
  obtain⟨m',rfl⟩: ∃m',m=m'+1:=⟨m - 1,∅⟩
  have ih:=λp s=>mS nums rows n m' p s ∅;unfold Pu;split
  ·exact Mor.refl _
  ·exact Mor.refl _
  ·split
   ·exact Mor.refl _
   ·exact ih _ _
  ·split
   ·exact ih _ _
   ·rename_i t _;have i:=ih t s;exact⟨λz=>by rw[i.en z],i.pre,Nat.succ_le_succ i.jm⟩
theorem iF {nums:List Int}{ns:List Str}{rows:List Rw}(G:LP ns rows): ∀ (n p:Nat) (s:Sta),p<rows.length->(Pu nums rows n p s).en∈(["on", "stop", "out"]:List Str)
 |0,p,s,_=>GY
 |n+1,p,s,hp=>by
  obtain⟨r,hr⟩: ∃r,rows[p]?=some r:=⟨_,G0 hp⟩
  obtain⟨g,f⟩:=G.g p r hr;unfold Pu;rw[hr];cases r with
  |stop=>exact G9 _ GY
  |st st=>
   dsimp only;split
   ·exact G9 _ (G9 _ GY)
   ·exact iF G n _ _ (f rfl)
  |jump t=>exact iF G n t s g
  |cnd neg c a b t=>
   dsimp only
   show (match (if Mo s.σ c a b=neg then none else some t:Option Nat) with
    |none=>Pu nums rows n (p+1) s
    |some t=>⟨(Pu nums rows n t s).said,(Pu nums rows n t s).en,(Pu nums rows n t s).jumps+1⟩:OutR).en∈_
   split
   ·exact iF G n _ _ (f rfl)
   ·rename_i u hu;split at hu
    ·cases hu
    ·cases hu;exact iF G n t s g.2.2.2
  |tab e ts=>
   have l1:=g.2.1;have q1:0<=e.val s.σ % (ts.length:Int):=Hl _ ∅;have q2:e.val s.σ % (ts.length:Int)<ts.length:=Hm _ ∅;have hl:(e.val s.σ % ts.length).toNat<ts.length:=∅;refine iF G n (ts.getD (e.val s.σ % ts.length).toNat 0) s ?_;rw[HH,G0 hl,Ig];exact g.2.2.2 _ (Iv _)
theorem sF (nums:List Int)(bs:List Bl): ∀ (n p:Nat) (s:Sta),(Pq nums bs n p s).went.length<=n
 |0,p,s=>GO _
 |n+1,p,s=>by
  unfold Pq;split
  ·exact G8 _
  ·split
   ·exact G8 _
   ·split
    ·exact G8 _
    ·exact Nat.succ_le_succ (sF nums bs n _ _)
theorem nR {bs:List Bl}(nums:List Int)(P:PgG ps bs): ∀ (n p:Nat) (s:Sta),p<bs.length->(Pq nums bs n p s).en∈(["on", "stop", "out"]:List Str)
 |0,p,s,_=>yt
 |n+1,p,s,hp=>by
  obtain⟨b,hb⟩: ∃b,bs[p]?=some b:=⟨_,G0 hp⟩
  have gb:=P.g b (Hi hb);unfold Pq;rw[hb];dsimp only;split
  ·exact D7
  ·split
   ·exact AT
   ·rename_i q;exact nR nums P n _ _ (v4 _ gb.2.2 (by simpa using q))
theorem DY (nx:Option Nat)(t:Nat):jmp nx t<=1:=by unfold jmp;split<;>omega
theorem ww (bs:List Bl)(os:List Nat)(w:Way):(cH bs os w).1<=2:=by
 unfold cH;split
 ·rename_i b _;unfold fw;have:=DY (nxt os w.1) w.2.2;split
  ·omega
  ·show jmp _ _<=2;omega
  ·split
   ·show jmp _ _<=2;omega
   ·show 1+_<=2;split<;>omega
  ·omega
 ·omega
theorem A6 {bs:List Bl}(os:List Nat)(h:∀b∈bs,b.sts.length<=2):(∀p,di bs p<=2)/\ ∀l:List Way,(My bs os l).1<=4 * l.length:=by
 have s2: ∀p,di bs p<=2:=λp=>by
  unfold di;split
  ·rename_i b hb;exact h b (Hi hb)
  ·omega
 refine⟨s2,λl=>?_⟩
 induction l with
 |nil=>exact GO _
 |cons w r ih=>
  have:=ww bs os w;have:=s2 w.1;show di bs w.1+(cH bs os w).1+(My bs os r).1<=4 * (r.length+1);omega
theorem alike {bs:List Bl}{os:List Nat}(nums:List Int)(P:PgG ps bs)(O:Ord bs.length os)(h2: ∀b∈bs,b.sts.length<=2):
  ((Pq nums bs 40 0 (Qy ps)).en≠ "on"->Pu nums (NE bs os) 400 0 (Qy ps)=⟨(Pq nums bs 40 0 (Qy ps)).said,(Pq nums bs 40 0 (Qy ps)).en,(My bs os (Pq nums bs 40 0 (Qy ps)).went).2⟩)/\
  ((Pq nums bs 40 0 (Qy ps)).en= "on"->(Pq nums bs 40 0 (Qy ps)).said<+:(Pu nums (NE bs os) 400 0 (Qy ps)).said):=by
 have s:=sim (nums:=nums) P O 40 0 (Qy ps) P.l1;rw[pos0 O] at s;have e:=nR nums P 40 0 (Qy ps) P.l1;have w:=sF nums bs 40 0 (Qy ps);obtain⟨d1,d2⟩:=A6 os h2;have d3:=d2 (Pq nums bs 40 0 (Qy ps)).went;have d4:=d1 (NG 0 (Pq nums bs 40 0 (Qy ps)).went);refine⟨λn=>?_,λq=>?_⟩
 ·simp only[GR,Hj,or_false] at e;rcases e with e|e|e
  ·exact absurd e n
  ·rw[s.2.1 e 400 ∅,e]
  ·rw[s.2.2 e 400 ∅,e]
 ·have m:=mS nums (NE bs os) (My bs os (Pq nums bs 40 0 (Qy ps)).went).1 400 0 (Qy ps) ∅;rw[s.1 q] at m;exact m.pre
end
section
open Wd
noncomputable def Q1 (w:Way):List Int:=[w.1,w.2.1,w.2.2]
theorem vS (h:Q1 a=Q1 b):a=b:=by
 obtain⟨a1,a2,a3⟩:=a;obtain⟨b1,b2,b3⟩:=b;unfold Q1 at h;injection h with h1 h
 injection h with h2 h
 injection h with h3 h
 have g1:a1=b1:=HZ.inj h1;have g2:a2=b2:=HZ.inj h2;have g3:a3=b3:=HZ.inj h3;rw[g1,g2,g3]
theorem yF {t:Way}{wy:List Way}(h:t∈wy): ∃j,(wy.map Q1).findIdx? (λm=>decide (m=Q1 t))=some j/\wy[j]?=some t:=by
 cases e:(wy.map Q1).findIdx? (λm=>decide (m=Q1 t)) with
 |none=>
  rw[Ji] at e;exact absurd (e _ (G6.mpr ⟨t,h,rfl⟩)) ⇑_
 |some j=>
  refine⟨j,rfl,?_⟩;rw[Ii] at e;obtain⟨h1,h2,_⟩:=e;rw[GN] at h1;rw[List.getElem_map] at h2;rw[G0 h1,vS (of_decide_eq_true h2)]
theorem AC {t:Way}{wy:List Way}(h:t∈wy): ∃j,NN (.tl (wy.map Q0)) [Q0 t]=pr (nI j)/\wy[j]?=some t:=by
 obtain⟨j,e,hj⟩:=yF h;refine⟨j,?_,hj⟩;have o:OQ tOf (wy.map Q0)=some (wy.map Q1):=iI (f:=tOf) (g:=Q0) (k:=Q1) (λ_=>rfl) wy;have z:tOf (Q0 t)=some (Q1 t):=rfl;unfold NN;dsimp only;rw[show NQ (.tl (wy.map Q0))=pr (wy.map Q0) from rfl,aU];simp only[z,o,e];rfl
theorem vT (nd:wy.Nodup){j:Nat}(hj:wy[j]?=some t):(QX wy L).set j (.int ((L.count t:Nat)+1))=QX wy (L++[t]):=by
 have jl:=(G1.mp hj).1;refine Jd λi=>?_;by_cases e:i=j
 ·subst e;rw[HR (by unfold QX;rw[GN];exact jl)];unfold QX;rw[GW,hj,Jr,Jm,Jn,if_pos ⇑_];rfl
 ·rw[GP (Ne.symm e)];unfold QX;rw[GW,GW];cases hi:wy[i]? with
  |none=>rfl
  |some w=>
   have ne:w≠t:=λz=>e (by
    subst z
    exact (JX (G1.mp hi).1 nd).mp (hi.trans hj.symm))
   rw[Jr,Jr,Jm,Jn,if_neg (by simpa using λz=>ne z.symm)];rfl
theorem C9 (os:List Nat):os.map nI=(os.map λo:Nat=>(o:Int)).map W.int:=by rw[Hw];rfl
theorem zj {os:List Nat}{a:Nat}(h:a∈os): ∃j:Nat,os.findIdx? (λx=>decide (x=a))=some j/\os[j]?=some a/\QR (.tup (os.map nI)) [nI a]=pr (nI j):=by
 cases e:os.findIdx? (λx=>decide (x=a)) with
 |none=>
  rw[Ji] at e;have:=e a h;simp at this
 |some j=>
  refine⟨j,rfl,?_,?_⟩
  ·rw[Ii] at e;obtain⟨h1,h2,_⟩:=e;rw[G0 h1];exact congrArg some (of_decide_eq_true h2)
  ·show (match OQ iOf (os.map nI) with
    |some ns=>match ns.findIdx? (λx=>decide (x=(a:Int))) with
     |some j=>pr (W.int (j:Int))
     |none=>no
    |none=>no)=_
   have z:(os.map λo:Nat=>(o:Int)).findIdx? (λx=>decide (x=(a:Int)))=some j:=by
    rw[List.findIdx?_map,<-e];congr 1;funext x;exact decide_eq_decide.mpr ⟨λz=>HZ.inj z,λz=>congrArg _ z⟩
   rw[C9,g9 (f:=iOf) (g:=W.int) (λa=>rfl)];simp only[z];rfl
theorem yP {α:Type}(l:List α){v:Int}(h0:0<=v)(h1:v.toNat<=l.length):Ms l (some v) none=l.drop v.toNat:=by
 unfold Ms;show List.take (l.length - (if v<0 then (v+(l.length:Int)).toNat else min v.toNat l.length)) (l.drop (if v<0 then (v+(l.length:Int)).toNat else min v.toNat l.length))=_;rw[if_neg ∅,Nat.min_eq_left h1,<-HA,Hk]
theorem u4 {h:List Ob}{xs:List Int}{m:Nat}{N:Int}(hN:N=(m:Int))(l8:xs.length=8)(m1:1<=m)(m7:m<=7):Ok (fk [.tl (xs.map W.int),.int N]) h λw h'=>(∃os,w=.tup (os.map nI)/\Ord m os)/\h'=h:=by
 have e0:fk [.tl (xs.map W.int),.int N]=bd (eX [some (.tl (xs.map W.int)),some (.int N),none,none,none]) MP:=rfl;rw[e0];unfold eX;have eN:(N - 1).toNat=m - 1:=∅;have ix: ∀k:Nat,k<8-> ∃x:Int,ixW (.tl (xs.map W.int)) (.int (k:Int))=pr (.int x):=λk hk=>by
  refine⟨xs[k]'∅,cp (bf ∅ ?_)⟩;rw[GW,HL,G0 ∅];rfl
 generalize W.tl (xs.map W.int)=T at *;simp![wJ (show (-(2 ^ 62):Int)<=1 by decide) (show (1:Int)<2 ^ 62 by decide) (show (-(2 ^ 62):Int)<=N by omega) (show N<2 ^ 62 by omega)];refine df (I:=λi ρ h'=>h'=h/\ ∃r a b,ρ=[some T,some (.int N),some (.tup ((0::r).map nI)),a,b]/\(0::r).Perm (List.range (i+1))) ⟨rfl,[],_,_,rfl,List.Perm.refl _⟩ (λ_ _ _ _=>trivial) (λi w ρ h1 hw I=>?_) λρ h1 I=>?_
 ·obtain⟨rfl,r,a,b,rfl,pm⟩:=I;obtain⟨rfl,hi⟩:=f8 _ _ _ _ hw;rw[eN] at hi;refine⟨_,rfl,?_⟩;have lr:r.length=i:=by have:=pm.length_eq;simp at this;omega
  obtain⟨x,ex⟩:=ix (1+i) ∅;have ek:(1:Int)+(i:Int)=((1+i:Nat):Int):=∅;obtain⟨L,hL⟩: ∃L:Int,L=((i+1:Nat):Int):=⟨_,rfl⟩
  have eL:NM [.tup ((0::r).map nI)]=pr (.int L):=by rw[lenW_tup,GN,GT,lr,hL]
  have v0:=Hl x (show L≠0 by omega);have v1:=Hm x (show 0<L by omega);obtain⟨v,hv⟩: ∃v:Nat,x % L=(v:Int):=⟨(x % L).toNat,∅⟩
  have c1:Qi (.tup ((0::r).map nI)) none (some (1+x % L))=pr (.tup (nI 0::(r.take v).map nI)):=by
   show pr (W.tup (Ms ((0::r).map nI) none (some (1+x % L))))=_;rw[jN _ ∅,show (1+x % L).toNat=v+1 by omega,GV,List.take_succ_cons,<-Iu]
  have c2:Qi (.tup ((0::r).map nI)) (some (1+x % L)) none=pr (.tup ((r.drop v).map nI)):=by
   show pr (W.tup (Ms ((0::r).map nI) (some (1+x % L)) none))=_;rw[yP _ ∅ (by rw[GN,GT];omega),show (1+x % L).toNat=v+1 by omega,GV,List.drop_succ_cons,<-List.map_drop]
  have a1:L6 (.tup (nI 0::(r.take v).map nI)) (.tup [nI (1+i)])=pr (.tup (nI 0::((r.take v).map nI++[nI (1+i)]))):=addT _ _ _ (by rw[GN,Hr];show min v r.length+1<=100;omega);have a2:L6 (.tup (nI 0::((r.take v).map nI++[nI (1+i)]))) (.tup ((r.drop v).map nI))=pr (.tup (nI 0::(((r.take v).map nI++[nI (1+i)])++(r.drop v).map nI))):=addT _ _ _ (by rw[GQ,GN,GN,Hr,HA];show min v r.length+1+(r.length - v)<=100;omega);obtain⟨OW,hOW⟩: ∃X,X=W.tup ((0::r).map nI):=⟨_,rfl⟩
  rw[<-hOW] at eL c1 c2 ⊢;simp!;rw[ek];have ei:W.int ((1+i:Nat):Int)=nI (1+i):=rfl;simp![ex,eL,ak (show 0<L by omega),c1,c2];rw[ei];simp![a1,a2];refine ag ⟨_,rfl,rfl,r.take v++[1+i]++r.drop v,some (nI (1+i)),some (.int (1+x % L)),?_,?_⟩
  ·rw[GV,GX,GX];rfl
  ·have p1:(r.take v++[1+i]++r.drop v).Perm ((1+i)::r):=by
    rw[Hc];refine (List.perm_middle).trans ?_;show ((1+i)::(r.take v++r.drop v)).Perm _;rw[List.take_append_drop]
   have p2:(0::(1+i)::r).Perm ((1+i)::0::r):=List.Perm.swap _ _ _;rw[show i+1+1=(i+1)+1 from rfl,HW];refine ((p1.cons 0).trans p2).trans ?_;refine (pm.cons (1+i)).trans ?_;rw[show 1+i=i+1 by omega];exact (List.perm_append_singleton _ _).symm
 ·obtain⟨rfl,r,a,b,rfl,pm⟩:=I;rw[eP,eN,show m - 1+1=m by omega] at pm;simp!;exact ag ⟨⟨0::r,rfl,pm,rfl⟩,rfl⟩
noncomputable def QN:En->Bool
 |.tab ..=>true
 |_=>false
theorem A5 (e:En): ∃k:Str,ixW e.w (.int 0)=pr (.str k)/\decide (k= "table")=QN e:=by
 have g:decide (("go":Str)= "table")=false:=⋯;have i:decide (("if":Str)= "table")=false:=⋯;have t:decide (("table":Str)= "table")=true:=⋯;have s:decide (("stop":Str)= "table")=false:=⋯;cases e
 ·exact⟨_,rfl,g⟩
 ·exact⟨_,rfl,i⟩
 ·exact⟨_,rfl,t⟩
 ·exact⟨_,rfl,s⟩
theorem BZ {bs:List Bl}{os:List Nat}{w:Way}(hb:bs[w.1]?=some b)(hs:(Qc b.en)[w.2.1]?=some w.2.2):(cH bs os w).2=if (QN b.en||!decide (nxt os w.1=some w.2.2))=true then 1 else 0:=by
 unfold cH;rw[hb];show (fw b.en (nxt os w.1) w.2.1 w.2.2).2=_;have j:jmp (nxt os w.1) w.2.2=if (!decide (nxt os w.1=some w.2.2))=true then 1 else 0:=by
  unfold jmp;by_cases q:nxt os w.1=some w.2.2
  ·rw[if_pos q,decide_eq_true q];rfl
  ·rw[if_neg q,decide_eq_false q];rfl
 generalize b.en=e at *;cases e with
 |go t=>exact j
 |iff s a c x y=>
  rw[show (QN (.iff s a c x y)||!decide (nxt os w.1=some w.2.2))=(!decide (nxt os w.1=some w.2.2)) from rfl,<-j];show (if x=y then (jmp (nxt os w.1) w.2.2,jmp (nxt os w.1) w.2.2) else (1+(if w.2.1=1/\nxt os w.1≠some x/\nxt os w.1≠some y then 1 else 0),jmp (nxt os w.1) w.2.2)).2=_;split<;>rfl
 |tab e ts=>rfl
 |stop=>cases hs
theorem nu (bs:List Bl)(os:List Nat)(w:Way): ∀l:List Way,(My bs os (l++[w])).2=(My bs os l).2+(cH bs os w).2
 |[]=>by show (cH bs os w).2+0=0+(cH bs os w).2;omega
 |x::r=>by
  show (cH bs os x).2+(My bs os (r++[w])).2=(cH bs os x).2+(My bs os r).2+(cH bs os w).2;rw[nu bs os w r];omega
theorem u6 {bs:List Bl}{os:List Nat}(ib: ∀i b,bs[i]?=some b-> ∃y,ixW BW (nI i)=pr (.tup [.str b.nm,y,b.en.w]))(O:Ord bs.length os)(wm: ∀w∈wt,w∈wyB bs)(LL:Lw h lw (wt.map Q0)):Ok (fm [.tup [XW,BW],.tup (os.map nI),lw]) h λw h'=>w=nI (My bs os wt).2/\h'=h:=by
 have e0:fm [.tup [XW,BW],.tup (os.map nI),lw]=bd (eZ [some (.tup [XW,BW]),some (.tup (os.map nI)),some lw,none,none,none,none,none,none]) MP:=rfl;rw[e0];unfold eZ;obtain⟨PW,hPW⟩: ∃X,X=W.tup [XW,BW]:=⟨_,rfl⟩
 have ip:ixW PW (.int 1)=pr BW:=by rw[hPW];exact ix1 ..
 obtain⟨OW,hOW⟩: ∃X,X=W.tup (os.map nI):=⟨_,rfl⟩
 obtain⟨N,hN⟩: ∃N:Int,N=(os.length:Int):=⟨_,rfl⟩
 have eL:NM [OW]=pr (.int N):=by rw[hOW,lenW_tup,GN,hN]
 have it:Nl OW=pr OW:=by rw[hOW];rfl
 have gi: ∀b:Bool,M9 [.bl b]=pr (.int (if b then 1 else 0)):=λb=>rfl;have tx: ∀p:Nat,p<bs.length-> ∃j,nxt os p=os[j+1]?/\QR OW [nI p]=pr (nI j):=λp hp=>by
  obtain⟨j,f,_,e⟩:=zj (os:=os) (a:=p) (O.pm.mem_iff.mpr (Ik.mpr hp));refine⟨j,?_,by rw[hOW];exact e⟩;unfold nxt;rw[f]
 have ox: ∀j q:Nat,os[j]?=some q->ixW OW (nI j)=pr (nI q):=λj q e=>by
  rw[hOW];exact dy (bf ∅ (by rw[GW,show ((j:Nat):Int).toNat=j by omega,e];rfl))
 rw[<-hPW,<-hOW];simp!;refine Lw.src LL λG hG=>?_;simp!;refine df (I:=λm ρ h'=>h'=h/\ ∃a b c d e,ρ=[some PW,some OW,some lw,some (nI (My bs os (wt.take m)).2),a,b,c,d,e]) ⟨rfl,_,_,_,_,_,rfl⟩ (λ_ _ _ I=>by rw[I.1];exact hG _ LL) (λm w ρ h1 hw I=>?_) λρ h1 I=>?_
 ·obtain⟨rfl,a,b,c,d,e,rfl⟩:=I;rw[GW] at hw;obtain⟨t,ht,rfl⟩:=Hd.mp hw;obtain⟨en,he,hs⟩:=Q3.mp (wm t (Hi ht));rw[GW] at he;obtain⟨bb,hb,rfl⟩:=Hd.mp he;obtain⟨y,iy⟩:=ib _ _ hb;obtain⟨j,nj,ej⟩:=tx t.1 (G1.mp hb).1;obtain⟨kd,ik,kt⟩:=A5 bb.en;have s2:=BZ (os:=os) hb hs;rw[nj] at s2;refine⟨[some PW,some OW,some lw,some (nI (My bs os (wt.take m)).2),some (nI t.1),some (nI t.2.1),some (nI t.2.2),d,e],rfl,?_⟩;rw[bE ht,nu,s2];have a1:L6 (nI j) (.int 1)=pr (nI (j+1)):=addW_int ..;have l1:ltW (nI (j+1)) (.int N)=pr (.bl (decide (j+1<os.length))):=by
   rw[show nI (j+1)=.int ((j+1:Nat):Int) from rfl,ltW_int,hN];exact congrArg (λb=>pr (W.bl b)) (decide_eq_decide.mpr ∅)
  generalize (My bs os (wt.take m)).2=D at *;have f1:L6 (nI D) (.int 1)=pr (nI (D+1)):=addW_int ..;have f0:L6 (nI D) (.int 0)=pr (nI (D+0)):=addW_int ..;simp![it,ej,a1,eL,l1];by_cases q:j+1<os.length
  ·obtain⟨x,hx⟩: ∃x,os[j+1]?=some x:=⟨_,G0 q⟩
   have i1:=ox _ _ hx;have e1:eqW (nI x) (nI t.2.2)=pr (.bl (decide (x=t.2.2))):=by
    rw[show nI x=.int ((x:Nat):Int) from rfl,show nI t.2.2=.int ((t.2.2:Nat):Int) from rfl,eqW_int];exact congrArg (λb=>pr (W.bl b)) (decide_eq_decide.mpr ∅)
   rw[hx,show decide (some x=some t.2.2)=decide (x=t.2.2) from decide_eq_decide.mpr ⇑_];simp![q,a1,i1,e1,ip,iy,ix2,ik,kt];cases QN bb.en<;>cases decide (x=t.2.2)<;>(simp![gi,f0,f1])<;>exact ag ⟨_,rfl,rfl,_,_,_,_,_,rfl⟩
  ·rw[IJ ∅];simp![q,ip,iy,ix2,ik,kt];cases QN bb.en<;>(simp![gi,f1])<;>exact ag ⟨_,rfl,rfl,_,_,_,_,_,rfl⟩
 ·obtain⟨rfl,a,b,c,d,e,rfl⟩:=I;rw[GN,Hk];simp!;exact ag ⟨rfl,rfl⟩
noncomputable def M7 (sc:List Int):List (List Int):=(Ms sc (some 10) (some 16)).map λc=>(List.range ((nums c 8).getD 7 0 % 8).toNat).map λk=>(nums c 8).getD k 0 % 5
theorem AQ (sc:List Int):(M7 sc).length<=6/\ ∀l∈M7 sc,l.length<=7:=by
 unfold M7;refine⟨by rw[GN];exact uh sc 10 16,λl hl=>?_⟩;obtain⟨c,_,rfl⟩:=G6.mp hl;rw[GN,HY];have:=Hl ((nums c 8).getD 7 0) (show (8:Int)≠0 by decide);have:=Hm ((nums c 8).getD 7 0) (show (0:Int)<8 by decide);omega
theorem rY (sc:List Int):Ok (dD [.cl (sc.map W.int)]) h λw h'=>w=.tl ((M7 sc).map M8)/\Nw h h':=by
 have e0:dD [.cl (sc.map W.int)]=bd (eF [some (.cl (sc.map W.int)),none,none,none]) MP:=rfl;rw[e0];unfold eF M7;have cm:=ug W.int sc (some 10) (some 16);have c6:(Ms sc (some 10) (some 16)).length<=6:=uh sc 10 16;generalize Ms sc (some 10) (some 16)=cs at *;simp!;refine d9 ?_;simp![cm,iE];refine df (I:=λi ρ h'=>(∃a b,ρ=[some (.cl (sc.map W.int)),some (.loc h.length),a,b])/\h.length<h'.length/\(∀j,j<h.length->h'[j]?=h[j]?)/\h'[h.length]?=some (.lst (((cs.take i).map λc=>(List.range ((nums c 8).getD 7 0 % 8).toNat).map λk=>(nums c 8).getD k 0 % 5).map M8))) ⟨⟨_,_,rfl⟩,⇑_,λj hj=>Hg hj,cF⟩ (λ_ _ _ _=>trivial) (λi w ρ h1 hw I=>?_) λρ h1 I=>?_
 ·obtain⟨⟨a,b,rfl⟩,l1,q1,q2⟩:=I;rw[GW] at hw;obtain⟨c,hc,rfl⟩:=Hd.mp hw;refine⟨_,rfl,?_⟩;simp!;refine aD (kF (n:=8) rfl ↥_) λw h2 qq_=>?_;obtain⟨ew,F⟩:=qq_;subst ew;have l8:=jB c 8;have ix: ∀k:Nat,k<8->ixW (.tl ((nums c 8).map W.int)) (.int (k:Int))=pr (.int ((nums c 8).getD k 0)):=λk hk=>by
   refine cp (bf ∅ ?_);rw[GW,HL,G0 ∅,HH,G0 ∅];rfl
  have q2':h2[h.length]?=some (.lst (((cs.take i).map λc=>(List.range ((nums c 8).getD 7 0 % 8).toNat).map λk=>(nums c 8).getD k 0 % 5).map M8)):=(F.eq _ l1).trans q2;have v0:=Hl ((nums c 8).getD 7 0) (show (8:Int)≠0 by decide);have v1:=Hm ((nums c 8).getD 7 0) (show (0:Int)<8 by decide);have i7:ixW (.tl ((nums c 8).map W.int)) (.int 7)=pr (.int ((nums c 8).getD 7 0)):=ix 7 ↥_;obtain⟨U,hM⟩: ∃U:Int,U=(nums c 8).getD 7 0 % 8:=⟨_,rfl⟩
  have gM: ∀ {α:Type} (q:M α),gd ((Na 0 U.toNat).length<=sizeLine) q=q:=λq=>ah (by rw[eP];exact sz ∅);obtain⟨NW,hNW⟩: ∃X,X=W.tl ((nums c 8).map W.int):=⟨_,rfl⟩
  rw[<-hNW] at ix i7 ⊢;simp!;refine cz q2' ?_;simp![i7,ak (show (0:Int)<8 by decide)];rw[<-hM];simp![ly (show (-(2 ^ 62):Int)<=U by omega) (show U<2 ^ 62 by omega),gM];refine jA (I:=λn a h3=>h3=h2/\a=((List.range n).map λk=>(nums c 8).getD k 0 % 5).map W.int) ⟨rfl,rfl⟩ kN (λ_ _ _ _=>trivial) (λn w a h3 hw I=>?_) λa h3 I=>?_
  ·obtain⟨rfl,rfl⟩:=I;obtain⟨rfl,hn⟩:=f8 _ _ _ _ hw;refine⟨_,rfl,?_⟩;have e1:(0:Int)+(n:Int)=(n:Int):=∅;rw[e1];simp! only[List.replicate,HE,HB,ae,ix n ∅,ak (show (0:Int)<5 by decide)];refine ag ⟨rfl,?_⟩;rw[HW,GX,GX];rfl
  ·obtain⟨rfl,rfl⟩:=I;rw[eP];simp!;refine eg q2' (by rw[GN,GN,Hr];exact Hs (show _<=6 by omega) ↥_) ?_;simp!;refine ag ⟨_,rfl,⟨_,_,rfl⟩,by rw[Hb];exact Ha l1 F.le,λj hj=>?_,?_⟩
   ·rw[GP ∅,F.eq j ∅];exact q1 j hj
   ·rw[bh q2',Ij,hc,GX,GX,hM];rfl
 ·obtain⟨⟨a,b,rfl⟩,l1,q1,q2⟩:=I;rw[GN,Hk] at q2;simp!;refine j2 q2 ?_;simp!;exact ag ⟨rfl,by rw[Hb];omega,λi hi=>by rw[GP ∅];exact q1 i hi⟩
theorem Qg:Le.strOk "go"=true/\Le.strOk "if"=true/\Le.strOk "table"=true/\Le.strOk "stop"=true/\Le.strOk "jump"=true/\Le.strOk "when"=true/\Le.strOk "unless"=true:=⋯
theorem EC {c:Str}(h:c= "+"\/c= "-"\/c= "*"):Le.strOk c=true:=by
 rcases h with rfl|rfl|rfl
 ·exact Qf.2.1.1
 ·exact Qf.2.1.2.1
 ·exact Qf.2.1.2.2
theorem Bo {c:Str}(h:c= "<"\/c= "="):Le.strOk c=true:=by
 rcases h with rfl|rfl
 ·exact Qf.2.2.2.1
 ·exact Qf.2.2.2.2
section
variable {ns:List Str}(so: ∀z∈ns,Le.strOk z=true)
include so
theorem Xe.G.pd: ∀ {n:Nat}{e:Xe},e.G ns n->Pd (n+1) e.w
 |n+1,.num i,p=>OU uR
 |n+1,.box z,p=>pd2s C1 (so z p)
 |n+1,.op c a b,p=>pdT (n:=n+1) ⇑_ (aK (.str (EC p.1)) (aK (Xe.G.pd p.2.1) (aK (Xe.G.pd p.2.2) fH)))
theorem Sm.G.pd: ∀ {s:Sm},s.G ns->Pd 9 s.w
 |.say e,p=>(pdT (n:=7) ⇑_ (aK (.str Qf.2.2.1.1) (aK (Xe.G.pd so p) fH))).up ↥_
 |.ask z,p=>pd2s Qf.2.2.1.2.1 (so z p)
 |.put z e,p=>(pdT (n:=7) ⇑_ (aK (.str Qf.2.2.1.2.2) (aK (.str (so z p.1)) (aK (Xe.G.pd so p.2) fH)))).up ↥_
theorem v8 {e:Xe}{ts:List Nat}(p:e.G ns 6)(l:ts.length<=6):Pd 9 (.tup [.str "table",e.w,.tup (ts.map nI)]):=pdT (n:=8) ⇑_ (aK (.str Qg.2.2.1) (aK ((Xe.G.pd so p).up ↥_) (aK (pdT (n:=7) (by rw[GN];omega) λx hx=>by
 obtain⟨i,_,rfl⟩:=G6.mp hx
 exact .int) fH)))
theorem En.G.pd {m:Nat}: ∀ {e:En},e.G ns m->Pd 9 e.w
 |.go t,_=>OU Qg.1
 |.iff s a b x y,p=>pdT (n:=8) ⇑_ (aK (.str Qg.2.1) (aK (.str (Bo p.1)) (aK ((Xe.G.pd so p.2.1).up ↥_) (aK ((Xe.G.pd so p.2.2.1).up ↥_) (aK .int (aK .int fH))))))
 |.tab e ts,p=>v8 so p.1 p.2.2.1
 |.stop,_=>pdT (n:=8) ⇑_ (aK (.str Qg.2.2.2.1) fH)
theorem yR {z c:Str}{a b:Xe}{t:Nat}(hz:Le.strOk z=true)(hc:c= "<"\/c= "=")(p:a.G ns 6)(q:b.G ns 6):Pd 9 (.tup [.str z,.str c,a.w,b.w,nI t]):=pdT (n:=8) ⇑_ (aK (.str hz) (aK (.str (Bo hc)) (aK ((Xe.G.pd so p).up ↥_) (aK ((Xe.G.pd so q).up ↥_) (aK .int fH)))))
theorem Rw.G.pd {m:Nat}: ∀ {r:Rw},r.G ns m->Pd 9 r.w
 |.st s,p=>Sm.G.pd so p
 |.stop,_=>pdT (n:=8) ⇑_ (aK (.str Qg.2.2.2.1) fH)
 |.jump t,_=>OU Qg.2.2.2.2.1
 |.cnd false c a b t,p=>yR so Qg.2.2.2.2.2.1 p.1 p.2.1 p.2.2.1
 |.cnd true c a b t,p=>yR so Qg.2.2.2.2.2.2 p.1 p.2.1 p.2.2.1
 |.tab e ts,p=>v8 so p.1 p.2.2.1
theorem EM {bs:List Bl}(P:PgG ps bs)(hn:ps.map (·.1)=ns)(sn: ∀b∈bs,Le.strOk b.nm=true)(PA:PgAt [] x ps bs):Pd 50 x:=by
 obtain⟨bx,bl,ls,rfl,L1,L2,ll,q⟩:=PA;have no: ∀ {x:W}{l:List W},Lw [] x l->x=.tl l:=λ{x l} p=>by
  rcases p with e|⟨j,_,e⟩
  ·exact e
  ·cases e
 rw[no L1,no L2];have:=P.bx.len;have:=P.l2;refine (pdT (n:=12) ⇑_ (aK (.lst (by rw[GN];omega) λw hw=>?_) (aK (.lst ∅ λw hw=>?_) fH))).up ↥_
 ·obtain⟨b,hb,rfl⟩:=G6.mp hw;exact OU (so _ (hn▸G6.mpr ⟨b,hb,rfl⟩))
 ·obtain⟨i,hi⟩:=Jo hw;have il:=(G1.mp hi).1;obtain⟨b,hb⟩: ∃b,bs[i]?=some b:=⟨_,G0 ∅⟩
  obtain⟨y,ey,Ly⟩:=q i b hb;obtain⟨g1,g2,g3⟩:=P.g b (Hi hb);rw[hi] at ey;injection ey with ey
  rw[ey,no Ly];refine pdT (n:=10) ⇑_ (aK (.str (sn b (Hi hb))) (aK (.lst (by rw[GN];omega) λw hw=>?_) (aK ((En.G.pd so (hn▸g3)).up ↥_) fH)));obtain⟨s,hs,rfl⟩:=G6.mp hw;exact Sm.G.pd so (hn▸g2 s hs)
end
theorem oJ (p:Lw h x l)(q:Lw h y l)(d:∀w∈l,Pd 49 w):eqB x y h=some true:=by
 obtain⟨ds,e,c⟩:=lI (n:=49) (h:=h) l λw hw=>(d w hw).data;have g: ∀ {x:W},Lw h x l->Mv h 50 x=some (.list ds):=λ{x} p=>by
  rcases p with rfl|⟨j,rfl,e'⟩
  ·show (OQ (Mv h 49) l).map Le.list=_;rw[e];rfl
  ·show (match h[j]? with
    |some (.lst l)=>(OQ (Mv h 49) l).map Le.list
    |_=>none)=_
   simp only[e',e];rfl
 have vx:vOf x=none:=by rcases p with rfl|⟨j,rfl,_⟩<;>rfl
 have c':(Le.list ds).canLay0=true:=by rw[Le.canLay0];exact c
 unfold eqB;rw[vx];dsimp only;rw[g p,g q];dsimp only;rw[if_pos ⟨c',c'⟩,jM _ c']
theorem AW {h:List Ob}{x y:W}{a:List Int}{e:Str}{j:Int}(he:e∈(["on", "stop", "out"]:List Str))(p:Lw h x (a.map W.int))(q:Lw h y (a.map W.int)):eqB (.tup [x,.tup [.str e],.int j]) (.tup [y,.tup [.str e],.int j]) h=some true:=by
 have o1:OQ (Mv h 48) (a.map W.int)=some (a.map Le.int):=iI (f:=Mv h 48) (g:=W.int) (k:=Le.int) (λa=>rfl) a;have g: ∀ {x:W},Lw h x (a.map W.int)->OQ (Mv h 49) [x,.tup [.str e],.int j]=some [.list (a.map Le.int),.tuple [.str e],.int j]:=λ{x} p=>by
  have z:Mv h 49 x=some (.list (a.map Le.int)):=by
   rcases p with rfl|⟨j,rfl,e⟩
   ·show (OQ (Mv h 48) (a.map W.int)).map Le.list=_;rw[o1];rfl
   ·show (match h[j]? with
     |some (.lst l)=>(OQ (Mv h 48) l).map Le.list
     |_=>none)=_
    simp only[e,o1];rfl
  simp only[OQ,z];rfl
 have ca:(Le.list (a.map Le.int)).canLay0=true:=by rw[Le.canLay0];exact yU a λz hz=>by rw[Le.canLay0]
 have ct:(Le.tuple [.str e]).canLay0=true:=by rw[Le.canLay0,Le.canLayAll0,Me e he,Le.canLayAll0];rfl
 have c:Le.canLayAll0 [.list (a.map Le.int),.tuple [.str e],.int j]=true:=by rw[Le.canLayAll0,ca,Le.canLayAll0,ct,Le.canLayAll0,Le.canLay0,Le.canLayAll0];rfl
 have r:=jM (.tuple [.list (a.map Le.int),.tuple [.str e],.int j]) (by rw[Le.canLay0];exact c);rw[Le.eqv] at r;rw[qr (g p) (g q) c c,r]
section
variable {β:Type}{h:List Ob}{k:W->M β}{Q:β->List Ob->Prop}{x y:W}
theorem rN (e:eqB x y h=some true)(q:Ok (k (.bl true)) h Q):Ok (bd (eqW x y) k) h Q:=by
 refine aY (a:=.bl true) (h':=h) ?_ q;unfold eqW;rw[e]
theorem xu (e:eqB x y h=some true)(q:Ok (k (.bl false)) h Q):Ok (bd (neW x y) k) h Q:=by
 refine aY (a:=.bl false) (h':=h) ?_ q;unfold neW;rw[e];rfl
end
theorem pdI (ns:List Int){n:Nat}: ∀x∈ns.map W.int,Pd (n+1) x:=λx hx=>by
 obtain⟨t,_,rfl⟩:=G6.mp hx;exact .int
theorem u8 {bs:List Bl}{os:List Nat}(P:PgG ps bs)(PA:PgAt h (.tup [XW,BW]) ps bs)(LB:Lw h XW (ps.map bxW))(ib: ∀i b,bs[i]?=some b-> ∃y,ixW BW (nI i)=pr (.tup [.str b.nm,y,b.en.w]))(O:Ord bs.length os)(h2: ∀b∈bs,b.sts.length<=2)(LR:Lw h rw ((NE bs os).map Rw.w)):Ok (fq [.tup [XW,BW],.tup (os.map nI),rw,M8 l]) h λw h'=>w=.bl true/\Nw h h':=by
 have e0:fq [.tup [XW,BW],.tup (os.map nI),rw,M8 l]=bd (fg [some (.tup [XW,BW]),some (.tup (os.map nI)),some rw,some (.tl (l.map W.int)),none,none,none,none,none]) MP:=rfl;rw[e0];unfold fg;obtain⟨A1,A2⟩:=alike l P O h2;have en1:=nR l P 40 0 (Qy ps) P.l1;have wm:=jh (nums:=l) P 40 0 (Qy ps);have LG:=yd P O;have en2:=iF (nums:=l) LG 400 0 (Qy ps) LG.ne;have i40:nI 40=.int 40:=rfl;have i400:nI 400=.int 400:=rfl;have r1:=rB (nums:=l) (nm:=.tl (l.map W.int)) (bound:=40) P PA (.inl rfl) ↥_;have r2:=λ(h1:List Ob) (f:∀i,i<h.length->h1[i]?=h[i]?)=>pM (nums:=l) (nm:=.tl (l.map W.int)) (bound:=400) LG P.bx.len P.bv (LB.keep f) (LR.keep f) (.inl rfl) ↥_;have jj:=λ(h3:List Ob) (lw:W) (LL:Lw h3 lw ((Pq l bs 40 0 (Qy ps)).went.map Q0))=>u6 (XW:=XW) ib O wm LL;rw[i40] at r1;rw[i400] at r2;generalize Pq l bs 40 0 (Qy ps)=R at *;generalize Pu l (NE bs os) 400 0 (Qy ps)=R2 at *;have eN:=xZ (l.map W.int);obtain⟨PW,hPW⟩: ∃X,X=W.tup [XW,BW]:=⟨_,rfl⟩
 have ip:ixW PW (.int 0)=pr XW:=by rw[hPW];exact ix0 ..
 rw[<-hPW] at r1 jj ⊢;simp![eN];refine aD r1 λw h1 qq_=>?_;obtain⟨f1,k1,k2,g1,g2,_,ew,e1,e2⟩:=qq_;subst ew;simp![eN,ip];refine aD (r2 h1 f1) λw h3 qq_=>?_;obtain⟨f3,k3,g3,ew,e3⟩:=qq_;subst ew;have l1:=bL e1;have l2:=bL e2;have l3:=bL e3;have e1':=(f3 k1 l1).trans e1;have e2':=(f3 k2 l2).trans e2;have nw:Nw h h3:=⟨∅,λi hi=>(f3 i ∅).trans (f1 i hi)⟩
 simp![FC en1 yt];by_cases q:R.en= "on"
 ·obtain⟨r,hr⟩:=A2 q;obtain⟨N,hN⟩: ∃N:Int,N=(R.said.length:Int):=⟨_,rfl⟩
  have c1:Ms (R2.said.map W.int) none (some N)=R.said.map W.int:=by
   rw[jN _ ∅,<-Iu,<-hr,show N.toNat=R.said.length by omega,List.take_left]
  have c2:Ms (R.said.map W.int) none (some N)=R.said.map W.int:=by
   rw[jN _ ∅,<-Iu,show N.toNat=R.said.length by omega,Hk]
  have eS:NM [.tl (R.said.map W.int)]=pr (.int N):=by rw[lenW_tl,GN,hN]
  simp![q,ix0];refine Lw.len_eq (.inr ⟨_,rfl,e1'⟩) (N:=N) (by rw[GN,hN]) ?_;simp!;refine Lw.sl (.inr ⟨_,rfl,e3⟩) ?_;rw[c1];simp![eS];refine Lw.sl (.inr ⟨_,rfl,e1'⟩) ?_;rw[c2];refine rN (oJ (.inl rfl) (.inl rfl) (pdI _)) ?_;simp![ix1,ix0,E6 en2 yt];by_cases q2:R2.en= "on"
  ·simp![q2,ix0];refine Lw.len_eq (.inr ⟨_,rfl,e3⟩) (N:=(R2.said.length:Int)) (by rw[GN]) ?_;simp!;refine Lw.len_eq (.inr ⟨_,rfl,e1'⟩) (N:=N) (by rw[GN,hN]) ?_;have ge:decide (N<=(R2.said.length:Int))=true:=decide_eq_true (by rw[<-hr,GQ];omega);simp![ge];exact ag ⟨rfl,nw⟩
  ·simp![decide_eq_false q2];exact ag ⟨rfl,nw⟩
 ·have z:=A1 q;subst z;simp![decide_eq_false q];refine aD (jj h3 _ (.inr ⟨_,rfl,e2'⟩)) λw h4 qq_=>?_;obtain⟨ew,eh⟩:=qq_;subst ew;subst eh;simp!;refine rN (AW en1 (.inr ⟨_,rfl,e3⟩) (.inr ⟨_,rfl,e1'⟩)) ?_;simp!;exact ag ⟨rfl,nw⟩
theorem vB {w:W}(hv: ∀a,vOf w=some a->P7 a a=false)(p:Pd 50 w):eqW w w=pr (.bl true):=yH λh=>by
 obtain⟨d,e,c⟩:=p.data (h:=h)
 have:(match Mv h 50 w,Mv h 50 w with
  |some d,some e=>if d.canLay0=true/\e.canLay0=true then some (Le.eqv d e) else none
  |_,_=>none)=some true:=by
  rw[e];show (if d.canLay0=true/\d.canLay0=true then some (Le.eqv d d) else none)=_;rw[if_pos ⟨c,c⟩,jM d c]
 unfold eqB;cases v:vOf w with
 |none=>exact this
 |some a=>
  show (if P7 a a=true then _ else _)=_;rw[if_neg (by rw[hv a v];simp)];exact this
theorem zB {z:Str}(h:aV z=true):Le.strOk z=true:=by
 unfold aV at h;simp only[Ho,HD] at h;unfold Le.strOk;rw[Array.all_eq_true_iff_forall_mem];intro c hc;have:=Ni.mp (h.2.1 c (by simpa using hc));exact decide_eq_true ∅
theorem El {bs:List Bl}(PA:PgAt [] (.tup [XW,.tl l]) ps bs): ∀i b,bs[i]?=some b-> ∃y,ixW (.tl l) (nI i)=pr (.tup [.str b.nm,y,b.en.w]):=λi b hb=>by
 obtain⟨bx,bl,ls,e,L1,Lk2,ll,q⟩:=PA;injection e with e
 injection e with ea e
 injection e with eb e
 subst eb;rcases Lk2 with z|⟨j,z,_⟩
 ·injection z with z
  subst z;obtain⟨y,ey,_⟩:=q i b hb;exact⟨y,cp (bf ∅ (by rw[HL];exact ey))⟩
 ·cases z
theorem AF (ns:List Int)(hh:List Ob):Ok (qq [.cl (ns.map W.int)]) hh λw _=>w=.bl true:=by
 have e0:qq [.cl (ns.map W.int)]=bd (t4 [some (.cl (ns.map W.int)),none,none,none,none,none,none,none,none,none]) MP:=rfl;rw[e0];unfold t4;obtain⟨bx,bl,G,ht⟩:=zm ns (most:=7) (MM:=7) rfl ↥_ ↥_;obtain⟨P,PA⟩:=typed G;have h2: ∀b∈bl.map (L8 (bl.map Bt.nm)),b.sts.length<=2:=λb hb=>by
  obtain⟨c,hc,rfl⟩:=G6.mp hb;show (c.ss.map Qm).length<=2;rw[GN];exact (G.b c hc).l
 have sn: ∀b∈bl.map (L8 (bl.map Bt.nm)),Le.strOk b.nm=true:=λb hb=>by
  obtain⟨c,hc,rfl⟩:=G6.mp hb;exact zB (G.b c hc).g.nm
 have nb:(bxV bx).map (·.1)=bn2:=by rw[<-G.n];unfold bxV;rw[Hw];rfl
 have so: ∀z∈(bxV bx).map (·.1),Le.strOk z=true:=λz hz=>ED (nb▸hz);have px:=vB (λa e=>by cases e) (EM so P rfl sn (PA []));have ib:=El (PA []);have lb:(bl.map (L8 (bl.map Bt.nm))).length=bl.length:=GN ..;obtain⟨N,hN⟩: ∃N:Int,N=(bl.length:Int):=⟨_,rfl⟩
 have eB:NM [.tl (bl.map (Bt.w (bl.map Bt.nm)))]=pr (.int N):=by rw[lenW_tl,GN,hN]
 have m1:=G.g.l1;have m7:=G.l;have rp:=λh:List Ob=>wL (h:=h) G.g;have LB: ∀h:List Ob,Lw h (.tl ((bxV bx).map bqW)) ((bxV bx).map bxW):=λh=>.inl rfl;obtain⟨XW,hX⟩: ∃X,X=W.tl ((bxV bx).map bqW):=⟨_,rfl⟩
 obtain⟨BW,hB⟩: ∃X,X=W.tl (bl.map (Bt.w (bl.map Bt.nm))):=⟨_,rfl⟩
 rw[<-hX,<-hB] at rp px;rw[<-hX] at LB;rw[<-hB] at ib eB;simp only[<-hX,<-hB] at PA;generalize bl.map (L8 (bl.map Bt.nm))=bs at *;generalize QP (pgR bx bl)=TX at *;generalize bxV bx=ps at *;generalize bl.length=m at *;have hp:ixW (.tup [XW,BW]) (.int 1)=pr BW:=ix1 ..;have li:=λh:List Ob=>rY (h:=h) ns;obtain⟨il,iq⟩:=AQ ns;generalize M7 ns=ins at *;have pI: ∀w∈ins.map M8,Pd 49 w:=λw hw=>by
  obtain⟨l,hl,rfl⟩:=G6.mp hw;exact (Pd.lst (n:=1) (by have:=iq l hl;rw[GN];omega) (pdI _)).up ↥_
 have pV: ∀L,∀w∈QX (wyB bs) L,Pd 49 w:=λL w hw=>by
  obtain⟨l,hl,rfl⟩:=G6.mp hw;exact .int
 have pR: ∀os:List Nat,Ord bs.length os-> ∀w∈(NE bs os).map Rw.w,Pd 49 w:=λos O w hw=>by
  obtain⟨r,hr,rfl⟩:=G6.mp hw;obtain⟨p,hp⟩:=Jo hr;exact (Rw.G.pd so ((yd P O).g p r hp).1).up ↥_
 have aa:=λ(h:List Ob) (os:List Nat) (rw:W) (l:List Int) (O:Ord bs.length os) (LR:Lw h rw ((NE bs os).map Rw.w))=>u8 (l:=l) P (PA h) (LB h) ib O h2 LR;have ld:=λ(h:List Ob) (os:List Nat) (O:Ord bs.length os)=>AG (h:=h) P O (PA h);have i40:nI 40=.int 40:=rfl;have kc:=λ{β:Type} (h:List Ob) (k:W->M β) (Q:β->List Ob->Prop) (y:W) (LI:Lw h y (ins.map M8))=>yh (k:=k) (Q:=Q) (n:=40) P (PA h) LI ↥_;have rn:=λ(h:List Ob) (l:List Int)=>rB (h:=h) (nums:=l) (nm:=M8 l) (bound:=40) P (PA h) (.inl rfl) ↥_;have wm:=λl:List Int=>jh (nums:=l) P 40 0 (Qy ps);have kw:=λ{β:Type} (h:List Ob) (k:W->M β) (Q:β->List Ob->Prop)=>yf (k:=k) (Q:=Q) P (PA h);have wl:=vP P;have nd:=Bj bs;have gs:=λ(L:List (List Int)) (l:List Int)=>nq (ps:=ps) (bs:=bs) (n:=40) L l;simp only[i40] at kc rn;obtain⟨PW,hP⟩: ∃X,X=W.tup [XW,BW]:=⟨_,rfl⟩
 simp only[<-hP] at px rp aa ld kc rn kw hp;simp!;refine aD (ht hh) λw h1 qq_=>?_;obtain⟨ew,_⟩:=qq_;subst ew;simp!;refine aD (rp _) λw h2' qq_=>?_;obtain⟨ew,_⟩:=qq_;rw[ew];clear ew;simp!;refine aD (li _) λw h3 qq_=>?_;obtain⟨ew,_⟩:=qq_;subst ew;simp!;refine kw _ _ _ λh4 _=>?_;obtain⟨L,hL⟩: ∃L:Int,L=((wyB bs).length:Int):=⟨_,rfl⟩
 have eW:NM [.tl ((wyB bs).map Q0)]=pr (.int L):=by rw[lenW_tl,GN,hL]
 have lx:=λ(t:Way) (h:t∈wyB bs)=>AC h;obtain⟨WW,hW⟩: ∃X,X=W.tl ((wyB bs).map Q0):=⟨_,rfl⟩
 have iW:Ng WW=pr WW:=by rw[hW];rfl
 obtain⟨IW,hI⟩: ∃X,X=W.tl (ins.map M8):=⟨_,rfl⟩
 have LI: ∀h:List Ob,Lw h IW (ins.map M8):=λh=>.inl hI;simp only[<-hW] at eW lx;simp only[<-hI] at li;rw[<-hW,<-hI];have lO: ∀l:List W,NQ (.tl l)=pr l:=λl=>rfl;have rep: ∀n:Nat,(List.replicate n [W.int 0]).flatten=List.replicate n (W.int 0):=λn=>by
  induction n with
  |zero=>rfl
  |succ n ih=>rw[HP,HU,ih];rfl
 have v0:List.replicate L.toNat (W.int 0)=QX (wyB bs) []:=by
  unfold QX;rw[show L.toNat=(wyB bs).length by omega];exact (List.map_const' (b:=W.int 0) ..).symm
 have gL: ∀ {α:Type} (q:M α),gd (0<=L/\L<=1000000/\(0+1) * L.toNat<=sizeLine) q=q:=λq=>ah ⟨∅,∅,sz ∅⟩;simp! only[Op,ae,eW,lO,rep,v0,gL];refine d9 ?_;simp!;have ll: ∀K,(QX (wyB bs) K).length<=60:=λK=>by unfold QX;rw[GN];exact wl
 obtain⟨J,hJ⟩: ∃J,J=h4.length:=⟨_,rfl⟩
 have g0:(h4++[Ob.lst (QX (wyB bs) [])])[J]?=some (.lst (QX (wyB bs) (M0 ps bs 40 (ins.take 0)))):=by rw[hJ];exact cF
 rw[<-hJ];refine df (I:=λi ρ h'=>(∃a b,ρ=[some (.cl (ns.map W.int)),some PW,some IW,some WW,some (.loc J),a,b,none,none,none])/\h'[J]?=some (.lst (QX (wyB bs) (M0 ps bs 40 (ins.take i))))) ⟨⟨_,_,rfl⟩,g0⟩ (λ_ _ _ _=>trivial) (λi w ρ h5 hw I=>?_) λρ h5 I=>?_
 ·obtain⟨⟨a,b,rfl⟩,g5⟩:=I;rw[GW] at hw;obtain⟨l,hl,rfl⟩:=Hd.mp hw;refine⟨_,rfl,?_⟩;simp!;refine aD (rn h5 l) λw h6 qq_=>?_;obtain⟨f6,k1,k2,q1,q2,_,ew,_,e2⟩:=qq_;subst ew;have g6:=(f6 J (bL g5)).trans g5;have w6:=wm l;have s6:=gs (ins.take i) l;rw[<-bE hl] at s6;have jk:J≠k2:=λz=>by have:=bL g5;omega
  generalize (Pq l bs 40 0 (Qy ps)).went=wt at *;simp![ix2];refine Lw.src (.inr ⟨_,rfl,e2⟩) λG2 hG2=>?_;simp!;refine oj (I:=λm ρ h'=>(∃a,ρ=[some (.cl (ns.map W.int)),some PW,some IW,some WW,some (.loc J),some (M8 l),a,none,none,none])/\h'[k2]?=some (.lst (wt.map Q0))/\h'[J]?=some (.lst (QX (wyB bs) (M0 ps bs 40 (ins.take i)++wt.take m)))) ⟨⟨_,rfl⟩,e2,by rw[HQ,Hn];exact g6⟩ (λ_ _ _ I=>hG2 _ (.inr ⟨_,rfl,I.2.1⟩)) (λm w ρ h7 hw I=>?_) λρ h7 I=>?_
  ·obtain⟨⟨a,rfl⟩,e7,g7⟩:=I;rw[GW] at hw;obtain⟨t,ht,rfl⟩:=Hd.mp hw;obtain⟨j,ej,hj⟩:=lx t (w6 t (Hi ht));refine⟨_,rfl,?_⟩;have jl:=(G1.mp hj).1;have vl:(QX (wyB bs) (M0 ps bs 40 (ins.take i)++wt.take m)).length=(wyB bs).length:=by unfold QX;rw[GN]
   have vj:(QX (wyB bs) (M0 ps bs 40 (ins.take i)++wt.take m))[j]?=some (.int (((M0 ps bs 40 (ins.take i)++wt.take m).count t:Nat):Int)):=by unfold QX;rw[GW,hj];rfl
   have vs:=vT (L:=M0 ps bs 40 (ins.take i)++wt.take m) nd hj;have ij:nI j=.int (j:Int):=rfl;rw[ij] at ej;simp![iW,ej];refine Lw.ix (.inr ⟨_,rfl,g7⟩) (bf ∅ (by rw[HL];exact vj)) ?_;simp![iW,ej];refine EZ g7 (i:=j) (by unfold ixN;rw[vl,if_pos ∅];simpa using jl) ?_;rw[vs];simp!;refine ag ⟨_,rfl,⟨_,rfl⟩,?_,?_⟩
   ·rw[GP jk];exact e7
   ·rw[bh g7,bE ht,Hc]
  ·obtain⟨⟨a,rfl⟩,_,g7⟩:=I;rw[GN,Hk,<-s6] at g7;exact⟨_,rfl,⟨_,_,rfl⟩,g7⟩
 ·obtain⟨⟨a,b,rfl⟩,g5⟩:=I;rw[GN,Hk] at g5;simp!;refine kc _ _ _ _ (LI _) λh6 N6=>?_;refine xu (oJ (.inl rfl) (.inr ⟨_,rfl,(N6.eq _ (bL g5)).trans g5⟩) (pV _)) ?_;simp![iE];refine df (I:=λi ρ h'=> ∃a b c d e,ρ=[some (.cl (ns.map W.int)),some PW,some IW,some WW,some (.loc J),a,b,c,d,e]) ⟨_,_,_,_,_,rfl⟩ (λ_ _ _ _=>trivial) (λi w ρ h7 hw I=>?_) λρ h7 I=>?_
  ·obtain⟨a,b,c,d,e,rfl⟩:=I;obtain⟨A,a0,rfl⟩: ∃A:Int,0<=A/\w=.int A:=by
    rcases GR.mp (Hi hw) with rfl|h
    ·exact⟨8,↥_,rfl⟩
    ·exact⟨9,↥_,Hh.mp h⟩
   obtain⟨c',ec⟩:=oN ns A a0;refine⟨_,rfl,?_⟩;simp![ec];refine aD (kF (n:=8) rfl ↥_) λw h8 qq_=>?_;obtain⟨ew,_⟩:=qq_;subst ew;simp![hp,eB];refine aD (u4 hN (jB _ _) m1 m7) λw h9 qq_=>?_;obtain⟨⟨os,ew,O⟩,_⟩:=qq_;subst ew;rw[<-lb] at O;simp!;refine aD (ld _ os O) λw h10 qq_=>?_;obtain⟨_,kf,_,ew,e10⟩:=qq_;subst ew;simp!;refine Lw.src (LI _) λG3 hG3=>?_;simp!;refine df (I:=λi ρ h'=>(∃a,ρ=[some (.cl (ns.map W.int)),some PW,some IW,some WW,some (.loc J),a,b,some (.int A),some (.tup (os.map nI)),some (.loc kf)])/\h'[kf]?=some (.lst ((NE bs os).map Rw.w))) ⟨⟨_,rfl⟩,e10⟩ (λ_ _ _ _=>hG3 _ (LI _)) (λi w ρ h11 hw I=>?_) λρ h11 I=>?_
   ·obtain⟨⟨a,rfl⟩,e11⟩:=I;rw[GW] at hw;obtain⟨l,hl,rfl⟩:=Hd.mp hw;refine⟨_,rfl,?_⟩;simp!;refine aD (aa h11 os _ l O (.inr ⟨_,rfl,e11⟩)) λw h12 qq_=>?_;obtain⟨ew,N12⟩:=qq_;subst ew;simp!;exact ag ⟨_,rfl,⟨_,rfl⟩,(N12.eq _ (bL e11)).trans e11⟩
   ·obtain⟨⟨a,rfl⟩,e11⟩:=I;simp!;refine aD (ld _ os O) λw h12 qq_=>?_;obtain⟨f12,kf2,_,ew,e12⟩:=qq_;subst ew;simp!;refine xu (oJ (.inr ⟨_,rfl,e12⟩) (.inr ⟨_,rfl,(f12 _ (bL e11)).trans e11⟩) (pR os O)) ?_;simp!;exact ag ⟨_,rfl,_,_,_,_,_,rfl⟩
  ·obtain⟨a,b,c,d,e,rfl⟩:=I;simp!;refine aD (li _) λw h8 qq_=>?_;obtain⟨ew,_⟩:=qq_;rw[ew];refine rN (oJ (LI _) (LI _) pI) ?_;simp!;refine aD (ht _) λw h9 qq_=>?_;obtain⟨ew,_⟩:=qq_;subst ew;simp!;refine aD (rp _) λw h10 qq_=>?_;obtain⟨ew,_⟩:=qq_;rw[ew];simp![px];exact ag rfl
theorem NI (ns:List Int)(hh:List Ob): ∃h',qq [.cl (ns.map W.int)] hh=.ok (.bl true) h':=by
 obtain⟨w,h',e,rfl⟩:=AF ns hh;exact⟨h',e⟩
end
end Q
namespace L2
open PySem PySem.Spec PyProof.Rows
theorem ln1 {α:Type}: ∀ {us:List α},us.length=1-> ∃a,us=[a]
 |[a],_=>⟨a,rfl⟩
theorem ln2 {α:Type}: ∀ {us:List α},us.length=2-> ∃a b,us=[a,b]
 |[a,b],_=>⟨a,b,rfl⟩
theorem ln3 {α:Type}: ∀ {us:List α},us.length=3-> ∃a b c,us=[a,b,c]
 |[a,b,c],_=>⟨a,b,c,rfl⟩
theorem ln4 {α:Type}: ∀ {us:List α},us.length=4-> ∃a b c d,us=[a,b,c,d]
 |[a,b,c,d],_=>⟨a,b,c,d,rfl⟩
section
variable (K:Zf)(mg:Str->Option J6)(x:Str)(C:Kb)
noncomputable def Dq (st:KA):Prop:= ∃f fd,Fun K x x st f fd/\mg x=some (.ref f)
noncomputable def Dqm (q:Str)(st:KA):Prop:= ∃f fd,Fun K x q st f fd/\LD K C x f
noncomputable def Gt (zs:List Str):Prop:= ∃a,mg x=some (.ref a)/\ ∀H,SqT K H a (zs.map V.str)
noncomputable def Gi (i:Int):Prop:= ∃t,mg x=some (.int i t)
noncomputable def Gs (i:Str):Prop:= ∃t,mg x=some (.str i t)
end
section
variable {K:Zf}{mg:Str->Option J6}{x q:Str}{st:KA}{C f:Kb}{k:Nat}{oc:J6}{od an:Option Kb}{osl:Array (Option J6)}{kV doc pm cdv ct:J6}{h:Ka}
theorem dq (X:K.In h)(G:h.Ns Ks mg)(a:J5 K Ks x=some (some (.ref f)))(l:K.lookup f=some ⟨oc,od,.func (fnOf x x (de st) (bO st) (af st) .none kV doc pm an cdv ct),osl⟩)(c:codeIn K cdv x=true)(k:J4 K (.ref f)=true):Dq K mg x st:=⟨_,_,yD l c k,mg_of X G a⟩
theorem dqm (a:J2 K (.ref C) x=some (some (.ref f)))(i:PySem.W.isFn K (.ref f)=true)(l:K.lookup f=some ⟨oc,od,.func (fnOf x q (de st) (bO st) (af st) .none kV doc pm an cdv ct),osl⟩)(c:codeIn K cdv q=true)(k:J4 K (.ref f)=true):Dqm K x C q st:=⟨_,_,yD l c k,a,i,k⟩
theorem gi {i:Int}(X:K.In h)(G:h.Ns Ks mg)(a:J5 K Ks x=some (some (.int i t))):Gi mg x i:=⟨_,mg_of X G a⟩
theorem gs {i:Str}(X:K.In h)(G:h.Ns Ks mg)(a:J5 K Ks x=some (some (.str i t))):Gs mg x i:=⟨_,mg_of X G a⟩
theorem gn (X:K.In h)(G:h.Ns Ks mg)(a:J5 K Ks x=some none):mg x=none:=PySem.W.mg_none_of X G a
noncomputable def stx:List J6->List Str
 |.str z _::r=>z::stx r
 |_=>[]
theorem wf: ∀ {us:List J6},(stx us).length=us.length->Vals ((stx us).map V.str) us
 |[],_=>.nil
 |.str z t::r,e=>.cons ⟨_,rfl⟩ (wf (Nat.succ.inj e))
theorem gt {zs:List Str}{n:Nat}(X:K.In h)(G:h.Ns Ks mg)(a:J5 K Ks x=some (some (.ref f)))(l:K.lookup f=some ⟨.type "tuple",od,.seq its n,osl⟩)(e:zs=stx its.toList/\(stx its.toList).length=its.toList.length/\its.toList.length<=64):Gt K mg x zs:=by
 obtain⟨rfl,e,e2⟩:=e;exact⟨f,mg_of X G a,λH=>.inr ⟨_,_,_,l,rfl,rfl,Hf (by simpa using e2) (by unfold sizeLine;decide),wf e⟩⟩
end
section
variable {P:J8}{w:J9}{K:Zf}{mg:Str->Option J6}{base:Ka}{x q:Str}{st:KA}{C f:Kb}{fd:KY}{k:Nat}{fn:List W->M W}{g:Lx->M Fl}
theorem okf (N:List Str)(m:Nat)(F:Fun K x x st f fd)(Mf:mg x=some (.ref f))
  (hb: ∀ (cdv:J6) (A:Kf) (outer:List Env) (s:Kd) (H:Hp) (E:XK),Room k (A.deeper (K5 x (af st) ↥s f cdv))->(A.deeper (K5 x (af st) ↥s f cdv)).units+1<Kg->(A.deeper (K5 x (af st) ↥s f cdv)).units+64<Kg->N.Nodup->JSs (Mt CX0 P w K mg base N x (af st) f cdv A outer s H E).nox E0 (bO st) g)
  (S:Lz N (N.take m) (af st):=by array_mem_dec)(hm:(N.take m).length=m:=by rfl)(hf:fn=Pr N.length g:=by rfl)
  (hi: ∀ (kV doc pm:J6) (an:Option Kb) (cdv ct:J6) (us:List J6),us.length=(N.take m).length->bindArgs (fnOf x x (de st) (bO st) (af st) .none kV doc pm an cdv ct) ⟨us,[]⟩=pure ((N.take m).zip us):=by subst_eqs):
  CG P w K mg base (k+1) x f fd (N.take m) m fn:=
 ⟨BD (g:=g) F S rfl hm hf λcdv A outer s H E hr=>hb cdv A outer s H E hr (BA hr) hr.units S.nd,F.binds hi,F.kp,Mf⟩
theorem okz (N:List Str)(m:Nat)(F:Fun K x x st f fd)(Mf:mg x=some (.ref f))(h:∀ws h,fn ws h=.bad)
 (hi: ∀ (kV doc pm:J6) (an:Option Kb) (cdv ct:J6) (us:List J6),us.length=(N.take m).length->bindArgs (fnOf x x (de st) (bO st) (af st) .none kV doc pm an cdv ct) ⟨us,[]⟩=pure ((N.take m).zip us)):
 CG P w K mg base k x f fd (N.take m) m fn:=⟨Ed h,F.binds hi,F.kp,Mf⟩
theorem okm (N:List Str)(m:Nat)(F:Fun K x q st f fd)(Mf:LD K C x f)
  (hb: ∀ (cdv:J6) (A:Kf) (outer:List Env) (s:Kd) (H:Hp) (E:XK),Room k (A.deeper (K5 q (af st) ↥s f cdv))->(A.deeper (K5 q (af st) ↥s f cdv)).units+1<Kg->(A.deeper (K5 q (af st) ↥s f cdv)).units+64<Kg->N.Nodup->JSs (Mt CX0 P w K mg base N q (af st) f cdv A outer s H E).nox E0 (bO st) g)
  (S:Lz N (N.take m) (af st))(hm:(N.take m).length=m)(hf:fn=Pr N.length g)
  (hi: ∀ (kV doc pm:J6) (an:Option Kb) (cdv ct:J6) (us:List J6),us.length=(N.take m).length->bindArgs (fnOf x q (de st) (bO st) (af st) .none kV doc pm an cdv ct) ⟨us,[]⟩=pure ((N.take m).zip us)):
  CGm P w K mg base (k+1) C x f fd (N.take m) m fn:=
 ⟨BD (g:=g) F S rfl hm hf λcdv A outer s H E hr=>hb cdv A outer s H E hr (BA hr) hr.units S.nd,F.binds hi,Mf⟩
end
section
variable {X:Cx}{E:XK}{p pos apos:Kx}{zs:List Str}{x:Str}
noncomputable def nst:Expr->Bool
 |.Starred ..=>false
 |_=>true
theorem wA (h:nst e=true):Kz (e::es) env=(false,Kw e env)::Kz es env:=by
 cases e<;>first|rfl|cases h
noncomputable def nsl:Expr->Bool
 |.Slice ..=>false
 |_=>true
theorem Go (h:nsl b=true):o3 b:=by
 cases b<;>first|exact λ_ _=>rfl|cases h
theorem Gx {fa fb:Lx->M W}(h:nsl b=true)(hu:X.A.units+1<Kg)(ha:JE X E a fa)(hb:JE X E b fb):JE X E (.Subscript a b pos) (m2 ixW fa fb):=Fj hu ha hb (Go h)
theorem GA {u:Lx->M W}{l:Lx->M (List W)}(h:nst e=true)(ha:JE X E e u)(hr:JA X E es l):JA X E (e::es) (NX u l):=AA ha hr (wA h)
theorem C6 (h:es.all nst=true):(Ky pos (Kz es env)).any (·.1)=false:=by
 induction es with
 |nil=>exact C5
 |cons e r ih=>rw[Ib,Ho] at h;exact zZ (wA h.1) (ih h.2)
noncomputable def Cm (X:Cx)(E:XK)(op:CmpOp)(f:W->W->M W):Prop:= ∃r,OpM X E r f/\OpR X (KC op) r
theorem Gv {f:W->W->M W}{fa fb:Lx->M W}(h:Cm X E op f)(ha:JE X E a fa)(hb:JE X E b fb)(hm:KD op b=false):JT X E (.Compare a [op] [b] pos) (mB (m2 f fa fb)):=h.elim λ_ h=>Dd h.2 h.1 ha hb hm
theorem Gz {f:W->W->M W}{fa fb:Lx->M W}(h:Cm X E op f)(ha:JE X E a fa)(hb:JE X E b fb)(hm:KD op b=false):JE X E (.Compare a [op] [b] pos) (m2 f fa fb):=h.elim λ_ h=>DJ h.2 h.1 ha hb hm
theorem E7 {f g:W->W->M W}{fa fb fc:Lx->M W}(h:Cm X E op f)(h':Cm X E op' g)(ha:JE X E a fa)(hb:JE X E b fb)(hc:JE X E c fc)(hm:lastMarks [op,op'] [b,c]=false):JT X E (.Compare a [op,op'] [b,c] pos) (mB (br f g fa fb fc)):=h.elim λ_ h=>h'.elim λ_ h'=>xK h.2 h.1 h'.2 h'.1 ha hb hc hm
noncomputable def Cr (X:Cx)(x:Str)(m:Nat)(f:List W->M W):Prop:= ∃k a d ps,CG X.prog X.w X.K X.mg X.base k x a d ps m f/\Room k X.A
theorem Gy {l:Lx->M (List W)}{m:Nat}{f:List W->M W}(h:Cr X x m f)(ha:JA X E0 (e::es) l)(hg:Gl X x)
  (hdb:(x==("__debug__":Str))=false)(he:(e::es).all nst=true):
  JE X E0 (.Call (.Name x p) (e::es) [] pos) (NU (arW m f) l):=by
 obtain⟨_,_,_,_,h,hr⟩:=h;rw[Ib,Ho] at he;exact Fs h hr ha hg hdb (wA he.1) (C6 he.2)
noncomputable def Cs (X:Cx)(c x:Str)(m:Nat)(f:List W->M W):Prop:= ∃C k a d ps,J5 X.K Ks c=some (some (.ref C))/\Cls X.K C/\CGm X.prog X.w X.K X.mg X.base k C x a d ps m f/\Room k X.A
theorem Gw {c:Str}{fo:Lx->M W}{l:Lx->M (List W)}{m:Nat}{f:List W->M W}(h:Cs X c x m f)(ho:JE X E0 o fo)(ha:JA X E0 (e::es) l)
  (hst:Kz (e::es) X.env=(false,Kw e X.env)::Kz es X.env)(hpl:(Ky pos (Kz es X.env)).any (·.1)=false)
  (ht:Kw (.Call (.Attribute o x apos) (e::es) [] pos) X.env=(do
   let ov<-Kw o X.env
   KE apos.atName
   let (f,first)<-KF [ov] (KR ov x pl)
   callWith pos f first (Ky pos (Kz (e::es) X.env)) (KU pos (KW [] X.env)))):
  JE X E0 (.Call (.Attribute o x apos) (e::es) [] pos) (N3 c x m f fo l):=by
 obtain⟨_,_,_,_,_,n,k,F,hr⟩:=h;exact DF n k F hr ho ha hst hpl ht
theorem Fh {c:Str}{fo:Lx->M W}{m:Nat}{f:List W->M W}(h:Cs X c x m f)(ho:JE X E0 o fo)
  (ht:Kw (.Call (.Attribute o x apos) [] [] pos) X.env=(do
   let ov<-Kw o X.env
   KE apos.atName
   let (f,first)<-KF [ov] (KR ov x pl)
   callWith pos f first (Ky pos (Kz [] X.env)) (KU pos (KW [] X.env)))):
  JE X E0 (.Call (.Attribute o x apos) [] [] pos) (N3 c x m f fo N9):=by
 obtain⟨_,_,_,_,_,n,k,F,hr⟩:=h;exact As n k F hr ho ht
noncomputable def Fq (X:Cx)(c x:Str):Prop:= ∃C,J5 X.K Ks c=some (some (.ref C))/\Cls X.K C/\NoAttr X.K C x
theorem Fp {c:Str}{fo:Lx->M W}(h:Fq X c x)(ho:JE X E o fo)(hb:KS o x X.env (Kw o X.env)=Kw o X.env):JE X E (.Attribute o x pos) (m1 (MU c x) fo):=by
 obtain⟨_,n,k,a⟩:=h;exact DI n k a ho hb
theorem Fb {c:Str}{fo fv:Lx->M W}(h:Fq X c x)(ho:JE X E o fo)(hv:JE X E value fv)(hs:swapsWith value (some (.Attribute o x pos')) pos.line X.env=pure false):JS X E (.Assign [.Attribute o x pos'] value pos) (PL c x fo fv):=by
 obtain⟨_,n,k,a⟩:=h;exact Di n k a ho hv hs
noncomputable def Tq (X:Cx)(tg:Expr)(t:W->Lx->Option Lx):Prop:= ∃m gT,LU X.K m gT t/\PG X tg gT
theorem Fc {src:Lx->M Sr}{t:W->Lx->Option Lx}{g:Lx->M Fl}(h:Tq X tg t)(hp:KI (Ki X.prog X.w) X.A X.env X.xe)(hc:X.calm=true)(hi:JI X E tg iter src)(hb:JSs X E body g)
  (hs: ∀x,KP iter X.env x=pure x):JS X E (.For tg iter body [] pos) (PM src t g):=by
 obtain⟨_,_,ht,hg⟩:=h;exact Dh hp hc hi hg ht hb hs
theorem E8 {t:W->Lx->Option Lx}{f:Lx->M W}(h:Tq X tg t)(he:JE X E e f)(hs:swapsWithSole [tg] e pos.line X.env=pure false)(hw:swappedStores [tg] e X.env=pure none)
  (h1:(KH [tg] X.env).map (·.2)=[assign tg X.env]):JS X E (.Assign [tg] e pos) (PX t f):=by
 obtain⟨_,_,ht,hg⟩:=h;exact De he hg ht hs hw h1
theorem Fd {c:Str}{fo fv:Lx->M W}(h:Fq X c x)(ho:JE X E o fo)(hv:JE X E value fv):JS X E (.AugAssign (.Attribute o x tpos) .Add value pos) (PF c x fo fv):=by
 obtain⟨_,n,k,a⟩:=h;exact uX n k a ho hv
theorem FR (hu:X.A.units+64<Kg):Cm X E .Eq eqW:=⟨_,CH hu,EU⟩
theorem FI (hu:X.A.units+64<Kg):Cm X E .NotEq neW:=⟨_,Cw hu,EN⟩
theorem FJ:Cm X E .Lt ltW:=⟨_,Cy,EO⟩
theorem FK:Cm X E .LtE leW:=⟨_,Cz,EQ⟩
theorem FP:Cm X E .Gt gtW:=⟨_,CC,ES⟩
theorem FQ:Cm X E .GtE geW:=⟨_,CD,ET⟩
theorem FO (hu:X.A.units+1<Kg):Cm X E .In inW:=⟨_,CB,ER hu⟩
theorem FH (hu:X.A.units+1<Kg):Cm X E .NotIn dL:=⟨_,uO,xj hu⟩
theorem Eg:Cm X E .Is Nj:=⟨_,zR,CO⟩
theorem Fn {i:Int}(hm:Gi X.mg x i)(hg:Gl X x:=by rfl)(hd:(x==("__debug__":Str))=false:=by decide):JE X E (.Name x pos) (mC (.int i)):=hm.elim λ_ hm=>oo (w:=.int i) (v:=.int i) hg hm ⟨_,rfl⟩ (λo=>Px.mpr rfl) hd
theorem Fm {i:Str}(hm:Gs X.mg x i)(hg:Gl X x:=by rfl)(hd:(x==("__debug__":Str))=false:=by decide):JE X E (.Name x pos) (mC (.str i)):=hm.elim λ_ hm=>oo (w:=.str i) (v:=.str i) hg hm ⟨_,rfl⟩ (λo=>Pz.mpr rfl) hd
theorem Fk (h:Gt X.K X.mg x zs)(hg:Gl X x:=by rfl)(hd:(x==("__debug__":Str))=false:=by decide):JE X E (.Name x pos) (mC (.tup (zs.map W.str))):=by
 obtain⟨a,hm,hq⟩:=h;exact xV hm hq hg hd
end
section
variable (P:J8)(w:J9)(K:Zf)(mg:Str->Option J6)(base:Ka)(k:Nat)(C:Kb)(x:Str)(m:Nat)(fn:List W->M W)
noncomputable def Cq:Prop:= ∃a d ps,CG P w K mg base k x a d ps m fn
noncomputable def Cqm:Prop:= ∃a d ps,CGm P w K mg base k C x a d ps m fn
end
section
variable {P:J8}{w:J9}{K:Zf}{mg:Str->Option J6}{base:Ka}{x q:Str}{st:KA}{C:Kb}{k:Nat}{fn:List W->M W}{g:Lx->M Fl}
theorem okq (N:List Str)(m:Nat)(D:Dq K mg x st)(hb: ∀ (f:Kb) (cdv:J6) (A:Kf) (outer:List Env) (s:Kd) (H:Hp) (E:XK),Room k (A.deeper (K5 x (af st) ↥s f cdv))->(A.deeper (K5 x (af st) ↥s f cdv)).units+1<Kg->(A.deeper (K5 x (af st) ↥s f cdv)).units+64<Kg->N.Nodup->JSs (Mt CX0 P w K mg base N x (af st) f cdv A outer s H E).nox E0 (bO st) g)
  (S:Lz N (N.take m) (af st):=by array_mem_dec)(hm:(N.take m).length=m:=by rfl)(hf:fn=Pr N.length g:=by rfl)(hi: ∀ (kV doc pm:J6) (an:Option Kb) (cdv ct:J6) (us:List J6),us.length=(N.take m).length->bindArgs (fnOf x x (de st) (bO st) (af st) .none kV doc pm an cdv ct) ⟨us,[]⟩=pure ((N.take m).zip us):=by subst_eqs):Cq P w K mg base (k+1) x m fn:=by
 obtain⟨f,_,F,M⟩:=D;exact⟨_,_,_,okf N m F M (hb f) S hm hf hi⟩
theorem Oz (N:List Str)(m:Nat)(D:Dqm K x C q st)(hb: ∀ (f:Kb) (cdv:J6) (A:Kf) (outer:List Env) (s:Kd) (H:Hp) (E:XK),Room k (A.deeper (K5 q (af st) ↥s f cdv))->(A.deeper (K5 q (af st) ↥s f cdv)).units+1<Kg->(A.deeper (K5 q (af st) ↥s f cdv)).units+64<Kg->N.Nodup->JSs (Mt CX0 P w K mg base N q (af st) f cdv A outer s H E).nox E0 (bO st) g)
  (S:Lz N (N.take m) (af st):=by array_mem_dec)(hm:(N.take m).length=m:=by rfl)(hf:fn=Pr N.length g:=by rfl)(hi: ∀ (kV doc pm:J6) (an:Option Kb) (cdv ct:J6) (us:List J6),us.length=(N.take m).length->bindArgs (fnOf x q (de st) (bO st) (af st) .none kV doc pm an cdv ct) ⟨us,[]⟩=pure ((N.take m).zip us):=by subst_eqs):Cqm P w K mg base (k+1) C x m fn:=by
 obtain⟨f,_,F,M⟩:=D;exact⟨_,_,_,okm N m F M (hb f) S hm hf hi⟩
theorem okqz (N:List Str)(m:Nat)(D:Dq K mg x st)(h:∀ws h,fn ws h=.bad)(hi: ∀ (kV doc pm:J6) (an:Option Kb) (cdv ct:J6) (us:List J6),us.length=(N.take m).length->bindArgs (fnOf x x (de st) (bO st) (af st) .none kV doc pm an cdv ct) ⟨us,[]⟩=pure ((N.take m).zip us):=by subst_eqs):Cq P w K mg base k x m fn:=by
 obtain⟨_,_,F,M⟩:=D;exact⟨_,_,_,okz N m F M h hi⟩
end
section
variable {X:Cx}{x c:Str}{C:Kb}{k m:Nat}{f:List W->M W}{p pos:Kx}
theorem cr (h:Cq X.prog X.w X.K X.mg X.base k x m f)(r:Room k X.A):Cr X x m f:=h.elim λa ⟨d,ps,h⟩=>⟨k,a,d,ps,h,r⟩
theorem cs (h:Cqm X.prog X.w X.K X.mg X.base k C x m f)(n:J5 X.K Ks c=some (some (.ref C)))(l:Cls X.K C)(r:Room k X.A):Cs X c x m f:=h.elim λa ⟨d,ps,h⟩=>⟨C,k,a,d,ps,n,l,h,r⟩
theorem Fg (h:Cqm X.prog X.w X.K X.mg X.base k C "__init__" m f)(hn:J5 X.K Ks c=some (some (.ref C)))(hk:makesIn X.K C=true)(kc:J4 X.K (.ref C)=true)(hm:X.mg c=some (.ref C))(hr:Room (k+1) X.A)(hg:Gl X c:=by rfl)(hdb:(c==("__debug__":Str))=false:=by decide):JE X E0 (.Call (.Name c p) [] [] pos) (NZ c m f N9):=by
 obtain⟨_,_,_,h⟩:=h;exact xT ⟨hk,h.me.at_,h.me.fn,kc⟩ hn h.ok h.bi hr hm hg hdb
theorem DE {l:Lx->M (List W)}(h:Cqm X.prog X.w X.K X.mg X.base k C "__init__" m f)(hn:J5 X.K Ks c=some (some (.ref C)))(hk:makesIn X.K C=true)(kc:J4 X.K (.ref C)=true)(hm:X.mg c=some (.ref C))(hr:Room (k+1) X.A)(ha:JA X E0 (e::es) l)(he:(e::es).all nst=true)(hg:Gl X c:=by rfl)(hdb:(c==("__debug__":Str))=false:=by decide):JE X E0 (.Call (.Name c p) (e::es) [] pos) (NZ c m f l):=by
 obtain⟨_,_,_,h⟩:=h;rw[Ib,Ho] at he;exact At ⟨hk,h.me.at_,h.me.fn,kc⟩ hn h.ok h.bi hr hm ha hg hdb (wA he.1) (C6 he.2)
end
section
variable {X:Cx}{E:XK}{e a b:Expr}{es:List Expr}{s:KA}{ss:List KA}{o:Option Expr}{op:Operator}{kw:List K2}{c:Const}{x:Str}{pos:Kx}{f:Lx->M W}{u:Lx->M Bool}{l:Lx->M (List W)}{g:Lx->M Fl}{r:Lx->M Sr}{q:Lx->M (Option Int)}
theorem gNm (h:JE X E (.Name x pos) f):JE X E (.Name x pos) f:=h
theorem gCo {j:Nat}(h:JE X E (.Constant c j pos) f):JE X E (.Constant c j pos) f:=h
theorem gCl (h:JE X E (.Call e es kw pos) f):JE X E (.Call e es kw pos) f:=h
theorem gBi (h:JE X E (.BinOp a op b pos) f):JE X E (.BinOp a op b pos) f:=h
theorem gSu (h:JE X E (.Subscript a b pos) f):JE X E (.Subscript a b pos) f:=h
theorem gJE (h:JE X E e f):JE X E e f:=h
theorem gJT (h:JT X E e u):JT X E e u:=h
theorem gJW (h:JW X E e u):JW X E e u:=h
theorem gJA (h:JA X E es l):JA X E es l:=h
theorem gJF (h:JF X E e l):JF X E e l:=h
theorem gJS (h:JS X E s g):JS X E s g:=h
theorem gJZ (h:JSs X E ss g):JSs X E ss g:=h
theorem gJI (h:JI X E a b r):JI X E a b r:=h
theorem gJO (h:JO X E o q):JO X E o q:=h
end
end L2
namespace Q
open PySem L2 Wd
set_option hygiene false in
local macro_rules|`(tactic|and_intros)=>do
 let T (n:String)(b:List String):Lean.Term:=Lean.Syntax.mkApp (Lean.mkIdent n.toName) (b.toArray.map λb=>Lean.mkIdent b.toName);let F (s:String):Lean.MacroM (Lean.TSyntax `tactic):=do
  let a ← (s.splitOn " ").toArray.mapM λw=>match w.splitOn ":" with
   |"!"::n::b=>`(tacticSeq|exact $(T n b))
   |n::b=>`(tacticSeq|apply $(T n b))
   |_=>Lean.Macro.throwUnsupported
  `(tactic|first $[|$a]*)
 let x0 ← F "!:DH !:Du !:Ft !:DA";let x1 ← F "!:DN GA";let x2 ← F "!:Af xL Ae";let x3 ← F "Dg Df:hN E9 Ag Fb xO:hu E8 Dk:hN Ah:hu Fd xM Fc !:Dj";let x4 ← F "Gv Dc E7";let x5 ← F "xG z9 Bv Da";let x6 ← F "xR rR rS DG Gy u3 Av xS Ar xQ Aw Aq DM Ap Gw Fh xX u0 Au:hu6";let x7 ← F "xR rR rS DL DD Ax Dt DC Dx Az";let x8 ← F "Gx Dw Fe Dv";let x9 ← F "xR rR rS Ds Gz DK Ff Dz Dy xU DB Fi Fp !:xW !:Ay";let x10 ← F "Do Dp Ao An Dn";let x11 ← F "Al Dm uZ uY";let x12 ← F "Am xP";let x13 ← F "Ai !:Aj";let x14 ← F "xc lB !:tq !:Ak !:wA:rfl !:C6:rfl !:hu !:hu6";let x15 ← F "!:FR:hu6 !:FI:hu6 !:FJ !:FK !:FP !:FQ !:FO:hu !:FH:hu !:Eg";let x16 ← F "!:KI.never !:PyProof.Rows.boot_int !:PyProof.Rows.boot_bool !:Or.inl:rfl !:Or.inr:rfl"
 `(tactic|repeat' first
 |(apply gNm;first|exact Dr _|(apply Fn<;>first|assumption|rfl)|(apply Fm<;>first|assumption|rfl)|(apply Fk<;>first|assumption|rfl))
 |(apply gCo;$x0:tactic)
 |(apply gJA;$x1:tactic)
 |(apply gJZ;$x2:tactic)
 |(apply gJS;$x3:tactic)
 |(apply gJT;first|$x4:tactic|refine Bz (xG ?_ ?_)|refine Bz (Bv ?_ ?_)|apply Db)
 |(apply gJW;$x5:tactic)
 |(apply gCl;first|$x6:tactic|exact DE (by assumption) (by assumption) (by assumption) (by assumption) (by assumption) (hr.mono ∅) (by and_intros) rfl|exact Fg (by assumption) (by assumption) (by assumption) (by assumption) (by assumption) (hr.mono ∅))
 |(apply gBi;$x7:tactic)
 |(apply gSu;$x8:tactic)
 |(apply gJE;$x9:tactic)
 |(apply gJF;$x10:tactic)
 |(apply gJI;first|$x11:tactic|apply Dl _ _|$x12:tactic)
 |(apply gJO;$x13:tactic)
 |$x14:tactic
 |assumption
 |exact eM _
 |rfl
 |$x15:tactic
 |exact cr (by assumption) (hr.mono ∅)
 |exact cs (by assumption) (by assumption) (by assumption) (hr.mono ∅)
 |exact⟨_,by assumption,by assumption,by assumption⟩
 |exact⟨99,_,iB 99 _ ↥_,dk hN rfl (by first|exact Or.inl rfl|exact Or.inr rfl)⟩
 |exact⟨99,_,v6 99 _ ↥_,by and_intros⟩
 |exact⟨99,_,zk 99 _ ↥_,by and_intros⟩
 |exact dk hN rfl (by first|exact Or.inl rfl|exact Or.inr rfl)
 |$x16:tactic
 |exact λ_=>rfl
 |exact⟨rfl,rfl,rfl,rfl⟩
 |with_unfolding_all rfl
 |decide)
set_option hygiene false in
local macro_rules | `(tactic| ac_rfl) => `(tactic| (intro _ _ _ _ _ _ _ hr hu hu6 hN; and_intros))
noncomputable def Qp (K:Zf):Sp:=λvs H Q _=> ∃ (a:Kb) (ns:List Int),vs=[.ref a]/\SqL K H a (ns.map V.int)/\ns.length<=63/\ ∀H',Q (.bl true) H'
theorem pK {K:Zf}: ∀ns:List Int,Rvs K o (ns.map W.int) (ns.map V.int)
 |[]=>Rvs.nil
 |n::r=>Rvs.cons (Px.mpr rfl) (pK r)
theorem NH {w:J9}{K:Zf}{mg:Str->Option J6}(C:CG P w K mg base 68 "law" f fd ["script"] 1 qq):FnOk P w K mg base CX0 68 f fd ["script"] (Qp K):=
 C.ok.imp λvs H Q E h=>by
  obtain⟨a,ns,rfl,sq,hn,q⟩:=h;have nl: ¬Lv ⟨λ_=>0,[],H⟩ a:=λ⟨k,b,hk,_⟩=>by simp at hk
  refine⟨⟨λ_=>0,[],H⟩,[.cl (ns.map W.int)],rfl,rfl,⟨λk b hk=>by simp at hk,λj k b c hj=>by simp at hj⟩,Rvs.cons ?_ Rvs.nil,?_⟩
  ·unfold Rv;exact⟨a,_,rfl,sq.imp (λr=>⟨r,nl⟩) id,pK ns⟩
  ·obtain⟨h',e⟩:=NI ns [];show Ps _ _ _ (qq [.cl (ns.map W.int)] []) Q;rw[e];intro p b _ _ _ rb;rw[Pw.mp rb];exact q _
structure Fa (K:Zf)(mg:Str->Option J6)(CS CN c_Doing c_Reading:Kb):Prop where
 n_Doing:J5 K Ks "Doing"=some (some (.ref c_Doing))
 n_Reading:J5 K Ks "Reading"=some (some (.ref c_Reading))
 D_names_in:Dq K mg "names_in" q0
 D_name_of:Dq K mg "name_of" uD
 D_number_of:Dq K mg "number_of" pC
 D_condition_of:Dq K mg "condition_of" lg
 D_form_of:Dq K mg "form_of" mR
 D_boxes_named:Dq K mg "boxes_named" mw
 D_place_of:Dq K mg "place_of" qZ
 D_end_by_places:Dq K mg "end_by_places" gK
 D_Reading___init__:Dqm K "__init__" c_Reading "Reading.__init__" i9
 D_Reading_in_block:Dqm K "in_block" c_Reading "Reading.in_block" i8
 D_Reading_box_names:Dqm K "box_names" c_Reading "Reading.box_names" eA
 D_Reading_check_place:Dqm K "check_place" c_Reading "Reading.check_place" gP
 D_Reading_check_twice:Dqm K "check_twice" c_Reading "Reading.check_twice" gO
 D_Reading_check_room:Dqm K "check_room" c_Reading "Reading.check_room" gW
 D_Reading_check_boxes:Dqm K "check_boxes" c_Reading "Reading.check_boxes" gQ
 D_Reading_put_down:Dqm K "put_down" c_Reading "Reading.put_down" i6
 D_Reading_take:Dqm K "take" c_Reading "Reading.take" lh
 D_Reading_told_program:Dqm K "told_program" c_Reading "Reading.told_program" gk
 D_read:Dq K mg "read" B6
 D_worth:Dq K mg "worth" zF
 D_Doing___init__:Dqm K "__init__" c_Doing "Doing.__init__" jX
 D_Doing_lacks_number:Dqm K "lacks_number" c_Doing "Doing.lacks_number" gX
 D_Doing_do_statement:Dqm K "do_statement" c_Doing "Doing.do_statement" gY
 D_Doing_holds:Dqm K "holds" c_Doing "Doing.holds" my
 D_Doing_chosen:Dqm K "chosen" c_Doing "Doing.chosen" lj
 D_sides_of:Dq K mg "sides_of" qX
 D_side_taken:Dq K mg "side_taken" nM
 D_do_statements:Dq K mg "do_statements" kq
 D_run:Dq K mg "run" Bq
 D_ways:Dq K mg "ways" B5
 D_counts:Dq K mg "counts" wD
 D_row_gone_to:Dq K mg "row_gone_to" mq
 D_run_rows:Dq K mg "run_rows" qY
 D_go_rows:Dq K mg "go_rows" uG
 D_if_rows:Dq K mg "if_rows" uF
 D_end_rows:Dq K mg "end_rows" rf
 D_led_to_rows:Dq K mg "led_to_rows" iY
 D_laid:Dq K mg "laid" wC
 D_law_cell_at:Dq K mg "_law_cell_at" mt
 D_law_numbers:Dq K mg "_law_numbers" mr
 D_law_names:Dq K mg "_law_names" pG
 D_law_word:Dq K mg "_law_word" q9
 D_law_statement:Dq K mg "_law_statement" kn
 D_law_end:Dq K mg "_law_end" uE
 D_law_text:Dq K mg "_law_text" rc
 D_law_order:Dq K mg "_law_order" pE
 D_law_jumps:Dq K mg "_law_jumps" pH
 D_law_inputs:Dq K mg "_law_inputs" jo
 D_law_alike:Dq K mg "_law_alike" pJ
 D_law:Dq K mg "law" EG
 cl_Doing:Cls K c_Doing
 cl_Reading:Cls K c_Reading
 mk_Doing:makesIn K c_Doing=true
 kc_Doing:J4 K (.ref c_Doing)=true
 mk_Reading:makesIn K c_Reading=true
 kc_Reading:J4 K (.ref c_Reading)=true
 na_Doing_held:J2 K (.ref c_Doing) "held"=some none
 na_Doing_numbers:J2 K (.ref c_Doing) "numbers"=some none
 na_Doing_said:J2 K (.ref c_Doing) "said"=some none
 na_Doing_taken:J2 K (.ref c_Doing) "taken"=some none
 na_Reading_block_names:J2 K (.ref c_Reading) "block_names"=some none
 na_Reading_boxes:J2 K (.ref c_Reading) "boxes"=some none
 na_Reading_ended_blocks:J2 K (.ref c_Reading) "ended_blocks"=some none
 na_Reading_statements:J2 K (.ref c_Reading) "statements"=some none
 kp:ji K=true
 g_CONDITION_SIGNS:Gt K mg "CONDITION_SIGNS" ["<", "="]
 g_JUMPS:Gt K mg "JUMPS" ["jump", "when", "unless"]
 g_STATEMENTS:Gt K mg "STATEMENTS" ["put", "say", "ask"]
 h_BOX_RANGE:Gi mg "BOX_RANGE" 1000000
 h_MOST_BLOCKS:Gi mg "MOST_BLOCKS" 10
 h_MOST_BOXES:Gi mg "MOST_BOXES" 4
 h_MOST_IN_TABLE:Gi mg "MOST_IN_TABLE" 6
 h_MOST_ROWS:Gi mg "MOST_ROWS" 120
 h_MOST_STATEMENTS:Gi mg "MOST_STATEMENTS" 8
 aS:J5 K Ks "Signs"=some (some (.ref CS))
 aN:J5 K Ks "NoRow"=some (some (.ref CN))
 xN:PySem.W.excIn K CN L9 "ValueError.__new__"=true
 aL:Gs mg "LETTERS" "abcdefghijklmnopqrstuvwxyz"
 aF:Gs mg "FIGURES" "0123456789"
 aW:Gt K mg "TAKEN_WORDS" ["box", "block", "put", "say", "ask", "go", "if", "else", "table", "stop"]
 n0:Gi mg "LONGEST_NAME" 8
 n1:Gi mg "LONGEST_NUMBER" 3
 n2:Gi mg "LONGEST_EXPRESSION" 60
 n3:Gi mg "DEEPEST_BRACKET" 5
 W_Sinit:Dqm K "__init__" CS "Signs.__init__" rh
 W_Sis_done:Dqm K "is_done" CS "Signs.is_done" rj
 W_Sstands_one_of:Dqm K "stands_one_of" CS "Signs.stands_one_of" lm
 W_Stake_sign:Dqm K "take_sign" CS "Signs.take_sign" rg
 W_Srun_of:Dqm K "run_of" CS "Signs.run_of" PR
 W_is_name:Dq K mg "is_name" kC
 W_is_number:Dq K mg "is_number" nO
 W_expression:Dq K mg "expression" PK
 W_read_terms:Dq K mg "read_terms" nN
 W_read_factors:Dq K mg "read_factors" jp
 W_read_factor:Dq K mg "read_factor" kD
 W_read_bracket:Dq K mg "read_bracket" gZ
 wc:Cls K CS
 wmk:makesIn K CS=true
 wkc:J4 K (.ref CS)=true
 nW:J2 K (.ref CS) "word"=some none
 nP:J2 K (.ref CS) "place"=some none
 y_abs:mg "abs"=none
 y_all:mg "all"=none
 y_dict:mg "dict"=none
 y_enumerate:mg "enumerate"=none
 y_int:mg "int"=none
 y_len:mg "len"=none
 y_list:mg "list"=none
 y_range:mg "range"=none
 y_str:mg "str"=none
 y_tuple:mg "tuple"=none
 y_zip:mg "zip"=none
 m_Doing:mg "Doing"=some (.ref c_Doing)
 m_Reading:mg "Reading"=some (.ref c_Reading)
structure Wf (P:J8)(w:J9)(K:Zf)(mg:Str->Option J6)(base:Ka):Prop where
 w1:Cq P w K mg base 1 "is_name" 1 kK
 w2:Cq P w K mg base 1 "is_number" 1 oI
 w3:Cq P w K mg base 28 "expression" 1 io
section
variable {P:J8}{w:J9}{K:Zf}{mg:Str->Option J6}{base:Ka}{CS CN c_Doing c_Reading:Kb}(S:Fa K mg CS CN c_Doing c_Reading)(V:Wf P w K mg base)
include S V
theorem mf: ∀n:Nat,Cq P w K mg base (1+n) "names_in" 1 (aX n)
 |0=>okqz ["e"] 1 S.D_names_in λ_ _=>rfl
 |n+1=>by
  have:=mf n;cases S;cases V;exact okq (k:=1+n) (g:=cN (aX n)) ["e"] 1 (by assumption) (by intro _ _ _ _ _ _ _ hr hu hu6 hN;have hr:Room (1+n) _:=hr;and_intros)
theorem nz:Cq P w K mg base 2 "name_of" 1 bQ:=by
 cases S;cases V;exact okq (g:=iM) ["word"] 1 (by assumption) (by ac_rfl)
theorem qF:Cq P w K mg base 2 "number_of" 1 fj:=by
 cases S;cases V;exact okq (g:=eV) ["word"] 1 (by assumption) (by ac_rfl)
theorem mi:Cq P w K mg base 29 "condition_of" 1 dE:=by
 have:=nz S V;cases S;cases V;exact okq (g:=dz) ["words", "sign", "left", "right"] 1 (by assumption) (by ac_rfl)
theorem vL:Cq P w K mg base 30 "form_of" 1 iT:=by
 have:=qF S V;have:=nz S V;have:=mi S V;cases S;cases V;exact okq (g:=iQ) ["row", "words", "head", "many"] 1 (by assumption) (by ac_rfl;(have nd:((["word", ".0"]:List Str)++(["row", "words", "head", "many"]:List Str).map (hid ["word", ".0"])).Nodup:=by decide+kernel);exact iK rfl (ls:=["word", ".0"]) (.of (af mR)) (by and_intros) (λ_ _ _ _=>(dk (i:=0) nd rfl (Or.inl rfl) (.inr rfl))) (iB 2 0 ↥_) (λ_ _ _ _=>by and_intros) (λ_ _ _ _=>by and_intros) trivial)
theorem mH:Cq P w K mg base 64 "boxes_named" 1 aQ:=by
 have:=mf S V 62;cases S;cases V;exact okq (g:=ao) ["form"] 1 (by assumption) (by ac_rfl)
theorem sA:Cq P w K mg base 1 "place_of" 2 dh:=by
 cases S;cases V;exact okq (g:=gw) ["name", "block_names"] 2 (by assumption) (by ac_rfl)
theorem ky:Cq P w K mg base 2 "end_by_places" 2 bJ:=by
 have:=sA S V;cases S;cases V;exact okq (g:=aP) ["end", "block_names"] 2 (by assumption) (by ac_rfl;(have nd:((["name", ".0"]:List Str)++(["end", "block_names"]:List Str).map (hid ["name", ".0"])).Nodup:=by decide+kernel);exact iK rfl (ls:=["name", ".0"]) (.of (af gK)) (by and_intros) (λ_ _ _ _=>(dk (i:=0) nd rfl (Or.inl rfl) (.inr rfl))) (iB 2 0 ↥_) (λ_ _ _ _=>by and_intros) (λ_ _ _ _=>by and_intros) trivial)
theorem jg:Cqm P w K mg base 1 c_Reading "__init__" 1 cD:=by
 cases S;cases V;exact Oz (g:=cC) ["self"] 1 (by assumption) (by ac_rfl)
theorem eT:Cqm P w K mg base 1 c_Reading "in_block" 1 bu:=by
 cases S;cases V;exact Oz (g:=cB) ["self"] 1 (by assumption) (by ac_rfl)
theorem eC:Cqm P w K mg base 1 c_Reading "box_names" 1 bK:=by
 cases S;cases V;exact Oz (g:=cy) ["self"] 1 (by assumption) (by ac_rfl;(have nd:((["name", "first", ".0"]:List Str)++(["self"]:List Str).map (hid ["name", "first", ".0"])).Nodup:=by decide+kernel);exact iK rfl (ls:=["name", "first", ".0"]) (.of (af eA)) (by and_intros) (λ_ _ _ _=>(xc rfl (lB (dk (i:=0) nd rfl (Or.inl rfl) (.inr rfl)) (lB (dk (i:=1) nd rfl (Or.inl rfl) (.inr rfl)) tq)))) (v6 3 [0,1] ↥_) (λ_ _ _ _=>by and_intros) (λ_ _ _ _=>by and_intros) trivial)
theorem gS:Cqm P w K mg base 2 c_Reading "check_place" 2 au:=by
 have:=eT S V;cases S;cases V;exact Oz (g:=aG) ["self", "head"] 2 (by assumption) (by ac_rfl)
theorem gR:Cqm P w K mg base 2 c_Reading "check_twice" 2 ar:=by
 have:=eC S V;cases S;cases V;exact Oz (g:=aE) ["self", "form"] 2 (by assumption) (by ac_rfl)
theorem iw:Cqm P w K mg base 1 c_Reading "check_room" 2 aB:=by
 cases S;cases V;exact Oz (g:=aH) ["self", "head"] 2 (by assumption) (by ac_rfl)
theorem gU:Cqm P w K mg base 65 c_Reading "check_boxes" 2 bp:=by
 have:=eC S V;have:=mH S V;cases S;cases V;exact Oz (g:=bZ) ["self", "form", "known", "name"] 2 (by assumption) (by ac_rfl)
theorem jf:Cqm P w K mg base 1 c_Reading "put_down" 2 aq:=by
 cases S;cases V;exact Oz (g:=aC) ["self", "form"] 2 (by assumption) (by ac_rfl)
theorem mj:Cqm P w K mg base 66 c_Reading "take" 2 dF:=by
 have:=gS S V;have:=gR S V;have:=iw S V;have:=gU S V;have:=jf S V;cases S;cases V;exact Oz (g:=dA) ["self", "form"] 2 (by assumption) (by ac_rfl)
theorem gG:Cqm P w K mg base 3 c_Reading "told_program" 1 bN:=by
 have:=eT S V;have:=ky S V;cases S;cases V;exact Oz (g:=bM) ["self", "blocks", "name", "statements", "end"] 1 (by assumption) (by ac_rfl)
theorem Ej:Cq P w K mg base 67 "read" 1 j8:=by
 have:=mj S V;have:=vL S V;have:=gG S V;have:=jg S V;cases S;cases V;exact okq (g:=oG) ["text", "rows", "reading", "row"] 1 (by assumption) (by ac_rfl)
theorem kL: ∀n:Nat,Cq P w K mg base (1+n) "worth" 2 (cG n)
 |0=>okqz ["e", "values", "left", "right"] 2 S.D_worth λ_ _=>rfl
 |n+1=>by
  have:=kL n;cases S;cases V;exact okq (k:=1+n) (g:=eU (cG n)) ["e", "values", "left", "right"] 2 (by assumption) (by intro _ _ _ _ _ _ _ hr hu hu6 hN;have hr:Room (1+n) _:=hr;and_intros)
theorem gh:Cqm P w K mg base 1 c_Doing "__init__" 3 be:=by
 cases S;cases V;exact Oz (g:=cU) ["self", "boxes", "numbers"] 3 (by assumption) (by ac_rfl)
theorem d5:Cqm P w K mg base 1 c_Doing "lacks_number" 2 aI:=by
 cases S;cases V;exact Oz (g:=ci) ["self", "row"] 2 (by assumption) (by ac_rfl)
theorem d6:Cqm P w K mg base 8 c_Doing "do_statement" 2 aO:=by
 have:=kL S V 6;cases S;cases V;exact Oz (g:=cj) ["self", "statement"] 2 (by assumption) (by ac_rfl)
theorem i4:Cqm P w K mg base 8 c_Doing "holds" 4 cv:=by
 have:=kL S V 6;cases S;cases V;exact Oz (g:=dU) ["self", "sign", "left", "right"] 4 (by assumption) (by ac_rfl)
theorem iz:Cqm P w K mg base 8 c_Doing "chosen" 3 cQ:=by
 have:=kL S V 6;cases S;cases V;exact Oz (g:=dB) ["self", "e", "many"] 3 (by assumption) (by ac_rfl)
theorem md:Cq P w K mg base 1 "sides_of" 1 cO:=by
 cases S;cases V;exact okq (g:=dM) ["end"] 1 (by assumption) (by ac_rfl)
theorem oS:Cq P w K mg base 9 "side_taken" 2 dC:=by
 have:=i4 S V;have:=iz S V;cases S;cases V;exact okq (g:=eE) ["doing", "end"] 2 (by assumption) (by ac_rfl)
theorem kA:Cq P w K mg base 9 "do_statements" 2 cE:=by
 have:=d5 S V;have:=d6 S V;cases S;cases V;exact okq (g:=db) ["doing", "statements", "statement"] 2 (by assumption) (by ac_rfl)
theorem yX:Cq P w K mg base 10 "run" 3 nt:=by
 have:=kA S V;have:=oS S V;have:=md S V;have:=gh S V;cases S;cases V;exact okq (g:=tZ) ["program", "numbers", "bound", "doing", "went", "place", "block", "end", "side", "behind"] 3 (by assumption) (by ac_rfl)
theorem yW:Cq P w K mg base 2 "ways" 1 l6:=by
 have:=md S V;cases S;cases V;exact okq (g:=oF) ["program", "told", "place", "block", "side", "behind"] 1 (by assumption) (by ac_rfl)
theorem yY:Cq P w K mg base 11 "counts" 3 jJ:=by
 have:=yW S V;have:=yX S V;cases S;cases V;exact okq (g:=jI) ["program", "inputs", "bound", "often", "way", "numbers"] 3 (by assumption) (by ac_rfl)
theorem mE:Cq P w K mg base 9 "row_gone_to" 2 c8:=by
 have:=i4 S V;have:=iz S V;cases S;cases V;exact okq (g:=cq) ["doing", "row"] 2 (by assumption) (by ac_rfl)
theorem sy:Cq P w K mg base 10 "run_rows" 4 gC:=by
 have:=d5 S V;have:=d6 S V;have:=mE S V;have:=gh S V;cases S;cases V;exact okq (g:=gv) ["boxes", "rows", "numbers", "bound", "doing", "jumps", "place", "done", "row", "to"] 4 (by assumption) (by ac_rfl)
theorem nA:Cq P w K mg base 1 "go_rows" 2 eI:=by
 cases S;cases V;exact okq (g:=iP) ["to", "behind"] 2 (by assumption) (by ac_rfl)
theorem vK:Cq P w K mg base 2 "if_rows" 2 iS:=by
 have:=nA S V;cases S;cases V;exact okq (g:=iO) ["end", "behind", "condition", "first", "second"] 2 (by assumption) (by ac_rfl)
theorem sC:Cq P w K mg base 3 "end_rows" 2 gD:=by
 have:=nA S V;have:=vK S V;cases S;cases V;exact okq (g:=gB) ["end", "behind"] 2 (by assumption) (by ac_rfl)
theorem mG:Cq P w K mg base 1 "led_to_rows" 2 dW:=by
 cases S;cases V;exact okq (g:=dQ) ["row", "begins"] 2 (by assumption) (by ac_rfl;(have nd:((["place", ".0"]:List Str)++(["row", "begins"]:List Str).map (hid ["place", ".0"])).Nodup:=by decide+kernel);exact iK rfl (ls:=["place", ".0"]) (.of (af iY)) (by and_intros) (λ_ _ _ _=>(dk (i:=0) nd rfl (Or.inl rfl) (.inr rfl))) (iB 2 0 ↥_) (λ_ _ _ _=>by and_intros) (λ_ _ _ _=>by and_intros) trivial)
theorem Ek:Cq P w K mg base 4 "laid" 2 l7:=by
 have:=sC S V;have:=mG S V;cases S;cases V;exact okq (g:=oH) ["program", "order", "rows", "begins", "place", "behind", "block"] 2 (by assumption) (by ac_rfl;(have nd:((["row", ".0"]:List Str)++(["program", "order", "rows", "begins", "place", "behind", "block"]:List Str).map (hid ["row", ".0"])).Nodup:=by decide+kernel);exact iK rfl (ls:=["row", ".0"]) (.of (af wC)) (by and_intros) (λ_ _ _ _=>(dk (i:=0) nd rfl (Or.inl rfl) (.inr rfl))) (iB 2 0 ↥_) (λ_ _ _ _=>by and_intros) (λ_ _ _ _=>by and_intros) trivial)
theorem iZ:Cq P w K mg base 1 "_law_cell_at" 2 bP:=by
 cases S;cases V;exact okq (g:=dS) ["script", "k"] 2 (by assumption) (by ac_rfl)
theorem fL:Cq P w K mg base 1 "_law_numbers" 2 bz:=by
 cases S;cases V;exact okq (g:=dR) ["cell", "many", "found", "rest", "k", "one"] 2 (by assumption) (by ac_rfl)
theorem qH:Cq P w K mg base 1 "_law_names" 1 dZ:=by
 cases S;cases V;exact okq (g:=eY) ["head", "some", "more"] 1 (by assumption) (by ac_rfl)
theorem mh:Cq P w K mg base 1 "_law_word" 1 cP:=by
 cases S;cases V;exact okq (g:=gz) ["numbers", "one", "more", "some"] 1 (by assumption) (by ac_rfl)
theorem ku:Cq P w K mg base 2 "_law_statement" 1 bH:=by
 have:=mh S V;cases S;cases V;exact okq (g:=da) ["numbers", "kind"] 1 (by assumption) (by ac_rfl)
theorem vJ:Cq P w K mg base 2 "_law_end" 2 gc:=by
 have:=mh S V;cases S;cases V;exact okq (g:=iN) ["numbers", "names", "one", "other", "kind", "word", "sign", "test"] 2 (by assumption) (by ac_rfl)
theorem sB:Cq P w K mg base 3 "_law_text" 2 eR:=by
 have:=fL S V;have:=iZ S V;have:=qH S V;have:=ku S V;have:=vJ S V;cases S;cases V;exact okq (g:=gA) ["script", "most", "head", "names", "rows", "k", "numbers"] 2 (by assumption) (by ac_rfl)
theorem qG:Cq P w K mg base 1 "_law_order" 2 fk:=by
 cases S;cases V;exact okq (g:=eX) ["numbers", "many", "order", "k", "at"] 2 (by assumption) (by ac_rfl)
theorem qI:Cq P w K mg base 1 "_law_jumps" 3 fm:=by
 cases S;cases V;exact okq (g:=eZ) ["program", "order", "went", "found", "place", "side", "to", "at", "beside"] 3 (by assumption) (by ac_rfl)
theorem oT:Cq P w K mg base 2 "_law_inputs" 1 dD:=by
 have:=fL S V;cases S;cases V;exact okq (g:=eF) ["script", "inputs", "cell", "numbers"] 1 (by assumption) (by ac_rfl;(have nd:((["k", ".0"]:List Str)++(["script", "inputs", "cell", "numbers"]:List Str).map (hid ["k", ".0"])).Nodup:=by decide+kernel);exact iK rfl (ls:=["k", ".0"]) (.of (af jo)) (by and_intros) (λ_ _ _ _=>(dk (i:=0) nd rfl (Or.inl rfl) (.inr rfl))) (iB 2 0 ↥_) (λ_ _ _ _=>by and_intros) (λ_ _ _ _=>by and_intros) trivial)
theorem qJ:Cq P w K mg base 11 "_law_alike" 4 fq:=by
 have:=yX S V;have:=sy S V;have:=qI S V;cases S;cases V;exact okq (g:=fg) ["program", "order", "rows", "numbers", "said", "end", "went", "found", "short"] 4 (by assumption) (by ac_rfl)
end
theorem all_mk {l:PySem.W.OpenLaw}{w:J9}{K:Zf}{h:Ka}{mg:Str->Option J6}{fa CS CN c_Doing c_Reading:Kb}(X:K.In h)(G:h.Ns Ks mg)(hfa:mg "law"=some (.ref fa))(S:Fa K mg CS CN c_Doing c_Reading):
  ∃fd:KY,(∀ (s:Kd) (v:J6),BindsTo s fd ⟨[v],[]⟩ [("script",v)])/\ ∀base:Ka,K.In base->base.Ns Ks mg->FnOk l.prog w K mg base CX0 68 fa fd ["script"] (Qp K):=by
 obtain⟨_,d,FL,ML⟩:=S.D_law;cases hfa.symm.trans ML;have T:Txt K mg CS CN:=⟨S.wc,S.nW,S.nP,mg_of X G S.aS,mg_of X G S.aN,S.xN,S.y_len,S.y_all,S.y_int,S.aL,S.aF,S.aW,S.n0,S.n1,S.n2,S.n3⟩
 obtain⟨_,_,F_Sinit,M_Sinit⟩:=S.W_Sinit;have B_Sinit:=F_Sinit.binds (ps:=["self", "word"]) λ_ _ _ _ _ _ us hl=>by obtain⟨_,_,rfl⟩:=ln2 hl;rfl
 obtain⟨_,_,F_Sis_done,M_Sis_done⟩:=S.W_Sis_done;have B_Sis_done:=F_Sis_done.binds (ps:=["self"]) λ_ _ _ _ _ _ us hl=>by obtain⟨_,rfl⟩:=ln1 hl;rfl
 obtain⟨_,_,F_Sstands_one_of,M_Sstands_one_of⟩:=S.W_Sstands_one_of;have B_Sstands_one_of:=F_Sstands_one_of.binds (ps:=["self", "wanted"]) λ_ _ _ _ _ _ us hl=>by obtain⟨_,_,rfl⟩:=ln2 hl;rfl
 obtain⟨_,_,F_Stake_sign,M_Stake_sign⟩:=S.W_Stake_sign;have B_Stake_sign:=F_Stake_sign.binds (ps:=["self"]) λ_ _ _ _ _ _ us hl=>by obtain⟨_,rfl⟩:=ln1 hl;rfl
 obtain⟨_,_,F_Srun_of,M_Srun_of⟩:=S.W_Srun_of;have B_Srun_of:=F_Srun_of.binds (ps:=["self", "wanted"]) λ_ _ _ _ _ _ us hl=>by obtain⟨_,_,rfl⟩:=ln2 hl;rfl
 obtain⟨_,_,F_is_name,M_is_name⟩:=S.W_is_name;have B_is_name:=F_is_name.binds (ps:=["word"]) λ_ _ _ _ _ _ us hl=>by obtain⟨_,rfl⟩:=ln1 hl;rfl
 obtain⟨_,_,F_is_number,M_is_number⟩:=S.W_is_number;have B_is_number:=F_is_number.binds (ps:=["word"]) λ_ _ _ _ _ _ us hl=>by obtain⟨_,rfl⟩:=ln1 hl;rfl
 obtain⟨_,_,F_expression,M_expression⟩:=S.W_expression;have B_expression:=F_expression.binds (ps:=["word"]) λ_ _ _ _ _ _ us hl=>by obtain⟨_,rfl⟩:=ln1 hl;rfl
 obtain⟨_,_,F_read_terms,M_read_terms⟩:=S.W_read_terms;have B_read_terms:=F_read_terms.binds (ps:=["signs", "depth"]) λ_ _ _ _ _ _ us hl=>by obtain⟨_,_,rfl⟩:=ln2 hl;rfl
 obtain⟨_,_,F_read_factors,M_read_factors⟩:=S.W_read_factors;have B_read_factors:=F_read_factors.binds (ps:=["signs", "depth"]) λ_ _ _ _ _ _ us hl=>by obtain⟨_,_,rfl⟩:=ln2 hl;rfl
 obtain⟨_,_,F_read_factor,M_read_factor⟩:=S.W_read_factor;have B_read_factor:=F_read_factor.binds (ps:=["signs", "depth"]) λ_ _ _ _ _ _ us hl=>by obtain⟨_,_,rfl⟩:=ln2 hl;rfl
 obtain⟨_,_,F_read_bracket,M_read_bracket⟩:=S.W_read_bracket;have B_read_bracket:=F_read_bracket.binds (ps:=["signs", "depth"]) λ_ _ _ _ _ _ us hl=>by obtain⟨_,_,rfl⟩:=ln2 hl;rfl
 obtain⟨oc,od,kV,doc,pm,an,cdv,ct,osl,ed,lk,hcd⟩:=FL.ex;refine⟨d,λs v=>by rw[ed];exact .of_eq rfl,λbase _ _=>?_⟩;have MD:CM l.prog w K mg base CX0 1 CS "is_done" _ _ ["self"] (nK CS):=⟨zW F_Sis_done T,B_Sis_done,M_Sis_done⟩
 have MS:CM l.prog w K mg base CX0 2 CS "stands_one_of" _ _ ["self", "wanted"] (dY CS):=⟨uQ F_Sstands_one_of T MD,B_Sstands_one_of,M_Sstands_one_of⟩
 have MT:CM l.prog w K mg base CX0 1 CS "take_sign" _ _ ["self"] (jV CS):=⟨zT F_Stake_sign T,B_Stake_sign,M_Stake_sign⟩
 have MR:CM l.prog w K mg base CX0 3 CS "run_of" _ _ ["self", "wanted"] (Qs CS):=⟨CV F_Srun_of T MS,B_Srun_of,M_Srun_of⟩
 have CNm:CF l.prog w K mg base CX0 1 "is_name" _ _ ["word"] kX:=⟨zU F_is_name T,B_is_name,F_is_name.kp,M_is_name⟩
 have CNu:CF l.prog w K mg base CX0 1 "is_number" _ _ ["word"] Qr:=⟨CW F_is_number T,B_is_number,F_is_number.kp,M_is_number⟩
 have RT:=sU T F_read_terms B_read_terms M_read_terms F_read_factors B_read_factors M_read_factors F_read_factor B_read_factor M_read_factor F_read_bracket B_read_bracket M_read_bracket MS MT MR CNm CNu 5 ↥_;have CE:CF l.prog w K mg base (CXx l.prog w) 28 "expression" _ _ ["word"] (qV CN):=⟨zV ↥_ F_expression T RT ⟨S.wmk,M_Sinit.at_,M_Sinit.fn,S.wkc⟩ (xr F_Sinit T) B_Sinit MD,B_expression,F_expression.kp,M_expression⟩
 have V:Wf l.prog w K mg base:=⟨⟨_,_,_,vH CNm⟩,⟨_,_,_,yS CNu⟩,⟨_,_,_,Bb CE⟩⟩
 clear T MD MS MT MR CNm CNu RT CE;have:=Ej S V;have:=sB S V;have:=oT S V;have:=yW S V;have:=yX S V;have:=yY S V;have:=qG S V;have:=fL S V;have:=iZ S V;have:=Ek S V;have:=qJ S V;cases S;cases V;exact NH (okf (g:=t4) ["script", "program", "inputs", "some", "gone", "numbers", "way", "at", "order", "rows"] 1 FL ML (by intro _ _ _ _ _ _ hr hu hu6 hN;and_intros))
theorem walk {l:PySem.W.OpenLaw}{q:J8}{loose:List Str}{XP:(Str->Option J6)->Ka->Prop}{YP:J9->Ka->Prop}{d:DefRec}{K:Params->Zf}(hn:l.most=some 63)(hdf:d.params.defaults=[])
  (hY: ∀ (w:J9) (h:Ka),YP w h->(K w.params).In h)
  (F:∀ (w:J9) (mg:Str->Option J6) (fa:Kb) (h:Ka),(K w.params).In h->h.Ns Ks mg->mg d.name=some (.ref fa)->
    ∃fd:KY,(∀ (s:Kd) (u:J6),BindsTo s fd ⟨[u],[]⟩ [("script",u)])/\ ∀base:Ka,(K w.params).In base->base.Ns Ks mg->FnOk l.prog w (K w.params) mg base CX0 68 fa fd ["script"] (Qp (K w.params))):
  PySem.W.WalkO q loose XP YP l.row.toRowW d [] (λf vs=>PySem.call f vs):=
 L2.walk_of (n:=63) (k:=68) (x:= "script") (CX:=λ_=>CX0) (sp:=λw=>Qp (K w.params)) hn ↥_ hdf ⟨rfl,↥_,↥_⟩ hY F (λ_ _ a ns hl _ hS=>⟨a,ns,rfl,hS,hl,λ_=>rfl⟩) λ_ _ _ _ _ z=>z
theorem walk_x {loose:List Str}{XP:(Str->Option J6)->Ka->Prop}{K:Params->Zf}{n t:Nat}{run:J6->List J6->Sem J6}(e:∀P,as=(K P).map (·.1))
  (W:PySem.W.WalkO q loose XP (λw h=>(K w.params).In h) r d kwd run):PySem.W.WalkX q loose XP (PySem.W.X.obsZ as) (PySem.W.X.valZ K n t) r d kwd run:=
 λw s₀ s₁ mg mb G y a o pm cd doc dV kV ho hd hcd hD hmg hg args vals bs L hpre hlay hrd hwl hlo=>
  W w s₀ s₁ mg mb G (PySem.W.InK.keeps w _ _ (PySem.W.X.z_facts e y).2.1 L.keeps) a o pm cd doc dV kV ho hd hcd hD hmg hg args vals bs hpre hlay hrd hwl hlo
end Q
namespace PySem.W.Fast
def tw11075449771282116350:=trivial
def tw1949048971688653216:=trivial
def tw9848074941063106174:=trivial
def tw10288556765304008372:=trivial
def tw1676635382977526112:=trivial
def tw7211910478718241646:=trivial
def tw16689975609774790878:=trivial
def tw2269692647861592940:=trivial
def tw7301266717957762259:=trivial
def tw9274267657545494796:=trivial
def tw16688107367869991666:=trivial
def tw1354276336751324745:=trivial
def tw14798420338086033414:=trivial
def tw18204226548267887715:=trivial
def tw8385622079841546854:=trivial
def tw9890976386943862387:=trivial
def tw7731666537411968392:=trivial
def tw14584834043511310788:=trivial
def tw7890198627803975785:=trivial
def tw7058278306752066343:=trivial
def tw1095035209557420937:=trivial
def tw15743122666682594909:=trivial
def tw2322996561027195106:=trivial
def tw12963120412890050767:=trivial
def tw14250903957065321514:=trivial
def tw15064887223651370012:=trivial
def tw12487437088441001085:=trivial
def tw12674683920084072256:=trivial
def tw14542672391087948795:=trivial
def tw12803438194939680236:=trivial
def tw6240862851248823223:=trivial
def tw11791001503077237719:=trivial
def tw4174852721036148519:=trivial
def tw4467716563934034384:=trivial
def tw12338878596047329345:=trivial
def tw16689129966627759066:=trivial
def tw2956459142586746095:=trivial
def tw1862624154736357518:=trivial
def tw117093274643853051:=trivial
def tw12881428358837386367:=trivial
def tw14201547421731025396:=trivial
def tw17583269571889796650:=trivial
def tw6853994162096963483:=trivial
def tw3119323774623250568:=trivial
def tw6230576875806671560:=trivial
def tw17796681939589672501:=trivial
def tw7305878172925201017:=trivial
def tw16056323064852656339:=trivial
def tw2681560275176508050:=trivial
def tw10378190093462689540:=trivial
def tw6295839572395251714:=trivial
def tw5424033154210574991:=trivial
def tw8070086543430372369:=trivial
def tw16601130906603880044:=trivial
def tw2948377041707270807:=trivial
def tw3179066875879108482:=trivial
def tw14017576771717287184:=trivial
def tw3265883242070830471:=trivial
def tw10030559595956377594:=trivial
def tw12953557552353007127:=trivial
def tw13198079828048370303:=trivial
def tw15031900405003173468:=trivial
def tw5134331284229999672:=trivial
def tw3237419998488955460:=trivial
def tw1325344901513954334:=trivial
def tw11210964672850383453:=trivial
def tw16693613263426198882:=trivial
def tw68807183496418214:=trivial
def tw13208376164439335013:=trivial
def tw10669140879137105402:=trivial
def tw12219758432393967242:=trivial
def tw11998708666701800878:=trivial
def tw2355935920019458912:=trivial
def tw4430469346044777895:=trivial
def tw4013609705075124068:=trivial
def tw17978338208503028174:=trivial
def tw4614751870831015838:=trivial
def tw8741696965718418030:=trivial
def tw8845407971098459341:=trivial
def tw7085049820629160626:=trivial
def tw10778765646710880866:=trivial
def tw13292287523319801411:=trivial
def tw6826677539885489688:=trivial
def tw1778568694093604903:=trivial
def tw13697435560577210658:=trivial
def tw11008100453648939222:=trivial
def tw7143017295457560788:=trivial
def tw4067480302938547391:=trivial
def tw17269805747575752163:=trivial
def tw12541831927477698362:=trivial
def tw14896195936579136553:=trivial
def tw15601195509992125301:=trivial
def tw9756311977996604543:=trivial
def tw15819105472697237574:=trivial
def tw5485647796046730098:=trivial
def tw2848118199925654255:=trivial
def tw7019119719838144263:=trivial
def tw3354789668210756076:=trivial
def tw7500727042461580975:=trivial
def tw4780785374932069534:=trivial
def tw5770481800676501650:=trivial
def tw17987553483395775007:=trivial
def tw9148962042361728812:=trivial
def tw910655489439291849:=trivial
def tw17257663739831009691:=trivial
def tw9016677378508499345:=trivial
def tw13972135172601686947:=trivial
def tw1250896103794926234:=trivial
def tw6399192384278360114:=trivial
def tw13639024436900850075:=trivial
def tw14402352926284371987:=trivial
def tw13748198679780889448:=trivial
def tw16225701614093722254:=trivial
def tw5506317536531735376:=trivial
def tw11447596693655788344:=trivial
def tw15780085325797338359:=trivial
def tw13876078448600515124:=trivial
def tw13997658505062440368:=trivial
def tw15394741879558054662:=trivial
def tw16631627517196793873:=trivial
def tw11808224831745847514:=trivial
def tw12328649414130929387:=trivial
def tw2727962793001595742:=trivial
def tw4869602051898646771:=trivial
def tw16012864231868622728:=trivial
def tw12543443303649272195:=trivial
def tw7472563642760621241:=trivial
def tw10210277225618876834:=trivial
def tw16535672633457667364:=trivial
def tw249138568048433443:=trivial
def tw14271690336716111310:=trivial
def tw10102468305491658584:=trivial
def tw11073645328459586152:=trivial
def tw16436931160473150501:=trivial
def tw12957356660001696492:=trivial
def tw3108568492716253182:=trivial
def tw9881401156679102096:=trivial
def tw10874460508245595782:=trivial
def tw15781065994848725034:=trivial
def tw3856476387751426372:=trivial
def tw17720606836359418409:=trivial
def tw16918182207927639987:=trivial
def tw13323148465014882496:=trivial
def tw5748183034750039124:=trivial
def tw3082284141740290814:=trivial
def tw17459318771505049733:=trivial
def tw15504697413627087986:=trivial
def tw6436235103175668948:=trivial
def tw2932656923028945474:=trivial
def tw13481473747284708288:=trivial
def tw14980212485052600884:=trivial
def tw1973419476941509513:=trivial
def tw4973811315743769278:=trivial
def tw4656048994063463650:=trivial
def tw8880693974941963369:=trivial
def tw3500804109153888717:=trivial
def tw2767571023881136403:=trivial
def tw8197121189510575047:=trivial
def tw5706967930714154929:=trivial
def tw8424767466960416544:=trivial
def tw11254358018984199491:=trivial
def tw8403509256280842781:=trivial
def tw10946653475234927897:=trivial
def tw14301427715035949672:=trivial
def tw17167252619447898718:=trivial
def tw260840129688968814:=trivial
def tw4920897663377154834:=trivial
def tw11179304317872752717:=trivial
def tw11458940455557934243:=trivial
def tw7478822633399436812:=trivial
def tw6535091279419625854:=trivial
def tw13852659177485894514:=trivial
def tw7752714992805353688:=trivial
def tw10619872992186599133:=trivial
def tw10284649143514139267:=trivial
def tw12143539610292892780:=trivial
def tw6571447916949987418:=trivial
def tw12642250626530838615:=trivial
def tw16711145137784848891:=trivial
def tw15503622357683956794:=trivial
def tw3429297598058813157:=trivial
def tw12459892022472907157:=trivial
def tw5828850669683894837:=trivial
def tw2204154646114502498:=trivial
def tw9332074915122433107:=trivial
def tw4678942866659021330:=trivial
def tw12786987751954405682:=trivial
def tw13163682710117731656:=trivial
def tw11613371198669627234:=trivial
def tw7766342197223753835:=trivial
def tw17637443587928538292:=trivial
def tw14929581649981143610:=trivial
def tw10036758440601978990:=trivial
def tw11474772158934595391:=trivial
def tw15403026516369775204:=trivial
def tw9742018590708903968:=trivial
def tw7567666447371510149:=trivial
def tw4113108544936471723:=trivial
def tw6763281151700372794:=trivial
def tw7877385795784942703:=trivial
def tw11138101875940956247:=trivial
def tw18252544285163022129:=trivial
def tw6393481859583585588:=trivial
def tw13029853162527536881:=trivial
def tw2730185980427125527:=trivial
def tw1466129229286647354:=trivial
def tw17433973878649552127:=trivial
def tw7624747658296639287:=trivial
def tw4290332313823283510:=trivial
def tw18385959058167459381:=trivial
def tw14047433763115253116:=trivial
def tw15613784384288729381:=trivial
def tw13458789935054092464:=trivial
def tw6609566188715137278:=trivial
def tw6200130734174732344:=trivial
def tw3464191939066237984:=trivial
def tw16821715561528945748:=trivial
def tw15622679763809959023:=trivial
def tw267758161067561566:=trivial
def tw4802704709851426810:=trivial
def tw16675053398156122138:=trivial
def tw15772522366822184296:=trivial
def tw709135123522929692:=trivial
def tw8291605070983205092:=trivial
def tw14685452371851304077:=trivial
def tw15102032926103487119:=trivial
def tw2360901756168375667:=trivial
def tw14807576555068041896:=trivial
def tw16828314820984510331:=trivial
def tw12167912728962839998:=trivial
def tw5134853789728454103:=trivial
def tw4351024155852158763:=trivial
def tw3005180116765522990:=trivial
def tw12448073703235694925:=trivial
def tw17058900501208831352:=trivial
def tw9977051943387169019:=trivial
def tw13007135491013130549:=trivial
def tw1949168251406628179:=trivial
def tw17662444118912145041:=trivial
def tw15034531676234846246:=trivial
def tw9798040546066748777:=trivial
def tw9076193557312670688:=trivial
def tw11662474988069145495:=trivial
def tw4828395926062882394:=trivial
def tw13665474899474385134:=trivial
def tw5185083915162187445:=trivial
def tw3784279625330893614:=trivial
def tw3062821951392205627:=trivial
def tw6172363857892421468:=trivial
def tw2301208104848391377:=trivial
def tw3427722480946436712:=trivial
def tw10140124812645192585:=trivial
def tw7402660445350160534:=trivial
def tw13737643014050757479:=trivial
def tw7790541723991372718:=trivial
def tw14502116004246080166:=trivial
def tw16918732576042533124:=trivial
def tw2510493117680754905:=trivial
def tw7614584745068646134:=trivial
def tw2734283247791428273:=trivial
def tw10552540464379218420:=trivial
def tw3251947218675819030:=trivial
def tw5938197899355285901:=trivial
def tw536775478486695711:=trivial
def tw10037501055305464971:=trivial
def tw81287055792013034:=trivial
def tw18150921727286196894:=trivial
def tw12574319517599467138:=trivial
def tw2456174139489980654:=trivial
def tw2103536725973146940:=trivial
def tw8672426208789252972:=trivial
def tw9632129265269029705:=trivial
def tw10641039793299750905:=trivial
def tw12970301741069003907:=trivial
def tw715977051728028958:=trivial
def tw6880082351246909429:=trivial
def tw5832492377442331840:=trivial
def tw15977746232216577990:=trivial
def tw3659647245609595367:=trivial
def tw15422453693393022601:=trivial
def tw5269282746379559932:=trivial
def tw11161115975334753862:=trivial
def tw6075645427515354797:=trivial
def tw3669572702681411670:=trivial
def tw408891471075031710:=trivial
def tw5765198635526984640:=trivial
def tw10527916542884479087:=trivial
def tw15424972140606889407:=trivial
def tw4669093183788086770:=trivial
def tw13918867825441535980:=trivial
def tw10786453051547379503:=trivial
def tw14952998848936667901:=trivial
def tw15249099842667991104:=trivial
def tw14440683392515135936:=trivial
def tw16401681433588070028:=trivial
def tw15374315161366068444:=trivial
def tw13885057551973168628:=trivial
def tw7212214130243211101:=trivial
def tw7171400376846545641:=trivial
def tw14211101606327457046:=trivial
def tw15688978152746229119:=trivial
def tw5348651273183243192:=trivial
def tw2903446756482777941:=trivial
def tw15696886756650499320:=trivial
def tw1267292655239235036:=trivial
def tw911789231949046054:=trivial
def tw184918926639465503:=trivial
def tw8442361676620038029:=trivial
def tw14926155076546380443:=trivial
def tw8347929822202916380:=trivial
def tw2992524952038541800:=trivial
def tw7463200180083220235:=trivial
def tw3495530851269173402:=trivial
def tw4998534876633349851:=trivial
def tw10681953752263345239:=trivial
def tw18248082448388492430:=trivial
def tw125100774976824677:=trivial
def tw11029722344716414544:=trivial
def tw10472346766606888027:=trivial
def tw16301856768214641606:=trivial
def tw10239923532727415134:=trivial
def tw5412474300473355090:=trivial
def tw15022127965486956742:=trivial
def tw16593510132888924494:=trivial
def tw9654167459398807283:=trivial
def tw595978707717903756:=trivial
def tw7086160937713322847:=trivial
def tw14613286298368457904:=trivial
def tw11921414228552332132:=trivial
def tw4968634242924621733:=trivial
def tw2640840057568002282:=trivial
def tw10449785229414927491:=trivial
def tw11213008800378411284:=trivial
def tw17301534956763404866:=trivial
def tw5176328667659488968:=trivial
def tw10300451927442624230:=trivial
def tw13100359433512293514:=trivial
def tw15520016235515924214:=trivial
def tw1980303598449748902:=trivial
def tw1958607243708570282:=trivial
def tw17483159526386001944:=trivial
def tw2123398575827120346:=trivial
def tw12650078526280613350:=trivial
def tw7622777004556863981:=trivial
def tw10494566575757147055:=trivial
def tw14787362688103895681:=trivial
def tw4529784980116447916:=trivial
def tw1558898847861528512:=trivial
def tw10364364846779609033:=trivial
def tw15529062835981682003:=trivial
def tw15898412209303804816:=trivial
def tw17536072598413940392:=trivial
def tw1303586016960528794:=trivial
def tw15631044538557599503:=trivial
def tw5194491733850603360:=trivial
def tw12926238758433376892:=trivial
def tw3160468377796175310:=trivial
def tw8581594351836522690:=trivial
def tw11520680158831793182:=trivial
def tw11462912648453080075:=trivial
def tw13561440144725953210:=trivial
def tw8581780285431198909:=trivial
def tw4041109546327501303:=trivial
def tw11111621297843852848:=trivial
def tw5054948229366937093:=trivial
def tw2195649191501343675:=trivial
def tw15307079598339981371:=trivial
def tw6127978504921057827:=trivial
def tw5122957641040060891:=trivial
def tw7473373464621925014:=trivial
def tw16157623561749337147:=trivial
def tw103324249959590462:=trivial
def tw9017366136485382491:=trivial
def tw11001855601961507564:=trivial
def tw14930639646719791757:=trivial
def tw3994772385204738798:=trivial
def tw11412808359095879213:=trivial
def tw4261931411232364009:=trivial
def tw9255528360284464188:=trivial
def tw7613113646243906654:=trivial
def tw15995107488580843195:=trivial
def tw15433156259854455623:=trivial
def tw9971178748858874246:=trivial
def tw9550900508022434814:=trivial
def tw11843210300415978684:=trivial
end PySem.W.Fast
open PySem PySem.W PyProof.Rows
set_option maxRecDepth 100000 in
set_option maxHeartbeats 0 in
theorem PySem.Challenge.cw_blockfall_k45_whole_laid_runs_alike_holds : PySem.Challenge.rw_blockfall_k45_whole_laid_runs_alike.Holds := by
 w_on;o_law;z_head;(case hw=>w_witness2)
 k_fill
 refine Q.walk_x (λ_=>by kernel_rfl) (Q.walk (l:=PySem.Challenge.rw_blockfall_k45_whole_laid_runs_alike) rfl rfl (λw h Y=>Y) ?F)
 case F=>
  intro w mg fa h KX G hmg;apply Q.all_mk KX G hmg;constructor
  all_goals try first|(apply L2.dq KX G<;>k_is)|(apply L2.dqm<;>k_is)|(apply L2.gi KX G;k_is)|(apply L2.gs KX G;k_is)|(apply L2.gn KX G;k_is)|(apply L2.gt KX G<;>first|k_is|exact⟨rfl,rfl,by decide⟩)|(apply L2.Cls.mk<;>k_is)|(apply mg_of KX G;k_is)|k_is|k_exc|rfl|kernel_rfl|decide+kernel
#print axioms PySem.Challenge.cw_blockfall_k45_whole_laid_runs_alike_holds
